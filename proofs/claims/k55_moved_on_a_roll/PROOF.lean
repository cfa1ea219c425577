import PyProof.Rows.All
import Wide.All
import OpenK.AllK
import Wide.FinOn
import Lean
import PyProof.EqAt
import PyProof.EqKinds
import PyProof.TupleCall
import KE.KSortTup
import PySem.Challenge.RW_sluice_k55_moved_on_a_roll
set_option Elab.async false
set_option linter.all false
set_option maxRecDepth 100000
set_option maxHeartbeats 4000000
local macro_rules | `(tactic| omega) => `(tactic| first | lia | omega (splitDisjunctions := true))
namespace L2
open PySem
def inClass (s:Stmt) (j:Nat):Stmt:=match s with
  | .ClassDef _ _ _ body _ _ _ _ _ _ _=>body.getD j (.Pass ⟨0,0,0,0⟩)
  | _=>.Pass ⟨0,0,0,0⟩
def aq (s:Stmt):Arguments:=match s with
  | .FunctionDef _ a _ _ _ _ _ _ _ _=>a
  | _=>{ posonlyargs:=[],args:=[],vararg:=none,kwonlyargs:=[],kw_defaults:=[],kwarg:=none,defaults:=[] }
def ao (s:Stmt):List Stmt:=match s with
  | .FunctionDef _ _ b _ _ _ _ _ _ _=>b
  | _=>[]
def ak (s:Stmt):Scope:=match s with
  | .FunctionDef _ _ _ _ _ _ sc _ _ _=>sc
  | _=>{ kind:=.function,names:=[],isGenerator:=false,isCoroutine:=false }
end L2
namespace My
open PySem L2
noncomputable def top0 (i:Nat):Stmt:=PySem.Challenge.pw_sluice_k55_moved_on_a_roll.main.body.getD i (.Pass ⟨0,0,0,0⟩)
noncomputable def en (P:Params) (x:Str) (t:Tok) (v:Value):DictEntry:=⟨PyData.keyHash P x,.str x t,v⟩
noncomputable section
def tq (a:Array Value):Obj:={ cls:=.type "tuple",data:=.seq a }
def fc (a:Array Value):Obj:={ cls:=.type "code",data:=.fields a }
def cp (n:Nat):Value:=.str "/claim/cut.py" n
def pr0 (x:Str) (i:Nat):Obj:={ cls:=.none,data:=.func { name:=x,qualname:=x,params:=aq (top0 i),body:=.stmts (ao (top0 i)),scope:=ak (top0 i),globals:=0,closure:=[],defaults:=.none,kwdefaults:=.none } }
def Qs (P:Params):Obj:={ cls:=.type "dict",data:=Data.dict #[en P "__name__" 1 (.str "builtins" 160),en P "__doc__" 2 (.builtin "builtins.__doc__:str#opaque"),en P "__package__" 3 (.builtin "builtins.__package__:str#opaque"),en P "__loader__" 4 (.builtin "builtins.__loader__:shared#opaque"),en P "__spec__" 5 (.builtin "builtins.__spec__#opaque"),en P "__build_class__" 6 (.builtin "__build_class__"),en P "__import__" 7 (.builtin "__import__"),en P "abs" 8 (.builtin "abs"),en P "all" 9 (.builtin "all"),en P "any" 10 (.builtin "any"),en P "ascii" 11 (.builtin "ascii"),en P "bin" 12 (.builtin "bin"),en P "breakpoint" 13 (.builtin "breakpoint"),en P "callable" 14 (.builtin "callable"),en P "chr" 15 (.builtin "chr"),en P "compile" 16 (.builtin "compile"),en P "delattr" 17 (.builtin "delattr"),en P "dir" 18 (.builtin "dir"),en P "divmod" 19 (.builtin "divmod"),en P "eval" 20 (.builtin "eval"),en P "exec" 21 (.builtin "exec"),en P "format" 22 (.builtin "format"),en P "getattr" 23 (.builtin "getattr"),en P "globals" 24 (.builtin "globals"),en P "hasattr" 25 (.builtin "hasattr"),en P "hash" 26 (.builtin "hash"),en P "hex" 27 (.builtin "hex"),en P "id" 28 (.builtin "id"),en P "input" 29 (.builtin "input"),en P "isinstance" 30 (.builtin "isinstance"),en P "issubclass" 31 (.builtin "issubclass"),en P "iter" 32 (.builtin "iter"),en P "aiter" 33 (.builtin "aiter"),en P "len" 34 (.builtin "len"),en P "locals" 35 (.builtin "locals"),en P "max" 36 (.builtin "max"),en P "min" 37 (.builtin "min"),en P "next" 38 (.builtin "next"),en P "anext" 39 (.builtin "anext"),en P "oct" 40 (.builtin "oct"),en P "ord" 41 (.builtin "ord"),en P "pow" 42 (.builtin "pow"),en P "print" 43 (.builtin "print"),en P "repr" 44 (.builtin "repr"),en P "round" 45 (.builtin "round"),en P "setattr" 46 (.builtin "setattr"),en P "sorted" 47 (.builtin "sorted"),en P "sum" 48 (.builtin "sum"),en P "vars" 49 (.builtin "vars"),en P "None" 50 .none,en P "Ellipsis" 51 .ellipsis,en P "NotImplemented" 52 .notImplemented,en P "False" 53 (.bool false),en P "True" 54 (.bool true),en P "bool" 55 (.type "bool"),en P "memoryview" 56 (.type "memoryview"),en P "bytearray" 57 (.type "bytearray"),en P "bytes" 58 (.type "bytes"),en P "classmethod" 59 (.type "classmethod"),en P "complex" 60 (.type "complex"),en P "dict" 61 (.type "dict"),en P "enumerate" 62 (.type "enumerate"),en P "filter" 63 (.type "filter"),en P "float" 64 (.type "float"),en P "frozenset" 65 (.type "frozenset"),en P "property" 66 (.type "property"),en P "int" 67 (.type "int"),en P "list" 68 (.type "list"),en P "map" 69 (.type "map"),en P "object" 70 (.type "object"),en P "range" 71 (.type "range"),en P "reversed" 72 (.type "reversed"),en P "set" 73 (.type "set"),en P "slice" 74 (.type "slice"),en P "staticmethod" 75 (.type "staticmethod"),en P "str" 76 (.type "str"),en P "super" 77 (.type "super"),en P "tuple" 78 (.type "tuple"),en P "type" 79 (.type "type"),en P "zip" 80 (.type "zip"),en P "__debug__" 81 (.bool true),en P "BaseException" 82 (.type "BaseException"),en P "BaseExceptionGroup" 83 (.type "BaseExceptionGroup"),en P "Exception" 84 (.type "Exception"),en P "GeneratorExit" 85 (.type "GeneratorExit"),en P "KeyboardInterrupt" 86 (.type "KeyboardInterrupt"),en P "SystemExit" 87 (.type "SystemExit"),en P "ArithmeticError" 88 (.type "ArithmeticError"),en P "AssertionError" 89 (.type "AssertionError"),en P "AttributeError" 90 (.type "AttributeError"),en P "BufferError" 91 (.type "BufferError"),en P "EOFError" 92 (.type "EOFError"),en P "ImportError" 93 (.type "ImportError"),en P "LookupError" 94 (.type "LookupError"),en P "MemoryError" 95 (.type "MemoryError"),en P "NameError" 96 (.type "NameError"),en P "OSError" 97 (.type "OSError"),en P "ReferenceError" 98 (.type "ReferenceError"),en P "RuntimeError" 99 (.type "RuntimeError"),en P "StopAsyncIteration" 100 (.type "StopAsyncIteration"),en P "StopIteration" 101 (.type "StopIteration"),en P "SyntaxError" 102 (.type "SyntaxError"),en P "SystemError" 103 (.type "SystemError"),en P "TypeError" 104 (.type "TypeError"),en P "ValueError" 105 (.type "ValueError"),en P "Warning" 106 (.type "Warning"),en P "FloatingPointError" 107 (.type "FloatingPointError"),en P "OverflowError" 108 (.type "OverflowError"),en P "ZeroDivisionError" 109 (.type "ZeroDivisionError"),en P "BytesWarning" 110 (.type "BytesWarning"),en P "DeprecationWarning" 111 (.type "DeprecationWarning"),en P "EncodingWarning" 112 (.type "EncodingWarning"),en P "FutureWarning" 113 (.type "FutureWarning"),en P "ImportWarning" 114 (.type "ImportWarning"),en P "PendingDeprecationWarning" 115 (.type "PendingDeprecationWarning"),en P "ResourceWarning" 116 (.type "ResourceWarning"),en P "RuntimeWarning" 117 (.type "RuntimeWarning"),en P "SyntaxWarning" 118 (.type "SyntaxWarning"),en P "UnicodeWarning" 119 (.type "UnicodeWarning"),en P "UserWarning" 120 (.type "UserWarning"),en P "BlockingIOError" 121 (.type "BlockingIOError"),en P "ChildProcessError" 122 (.type "ChildProcessError"),en P "ConnectionError" 123 (.type "ConnectionError"),en P "FileExistsError" 124 (.type "FileExistsError"),en P "FileNotFoundError" 125 (.type "FileNotFoundError"),en P "InterruptedError" 126 (.type "InterruptedError"),en P "IsADirectoryError" 127 (.type "IsADirectoryError"),en P "NotADirectoryError" 128 (.type "NotADirectoryError"),en P "PermissionError" 129 (.type "PermissionError"),en P "ProcessLookupError" 130 (.type "ProcessLookupError"),en P "TimeoutError" 131 (.type "TimeoutError"),en P "IndentationError" 132 (.type "IndentationError"),en P "_IncompleteInputError" 133 (.type "_IncompleteInputError"),en P "IndexError" 134 (.type "IndexError"),en P "KeyError" 135 (.type "KeyError"),en P "ModuleNotFoundError" 136 (.type "ModuleNotFoundError"),en P "NotImplementedError" 137 (.type "NotImplementedError"),en P "PythonFinalizationError" 138 (.type "PythonFinalizationError"),en P "RecursionError" 139 (.type "RecursionError"),en P "UnboundLocalError" 140 (.type "UnboundLocalError"),en P "UnicodeError" 141 (.type "UnicodeError"),en P "BrokenPipeError" 142 (.type "BrokenPipeError"),en P "ConnectionAbortedError" 143 (.type "ConnectionAbortedError"),en P "ConnectionRefusedError" 144 (.type "ConnectionRefusedError"),en P "ConnectionResetError" 145 (.type "ConnectionResetError"),en P "TabError" 146 (.type "TabError"),en P "UnicodeDecodeError" 147 (.type "UnicodeDecodeError"),en P "UnicodeEncodeError" 148 (.type "UnicodeEncodeError"),en P "UnicodeTranslateError" 149 (.type "UnicodeTranslateError"),en P "ExceptionGroup" 150 (.type "ExceptionGroup"),en P "EnvironmentError" 151 (.type "OSError"),en P "IOError" 152 (.type "OSError"),en P "open" 153 (.builtin "open"),en P "quit" 154 (.builtin "builtins.quit#opaque"),en P "exit" 155 (.builtin "builtins.exit#opaque"),en P "copyright" 156 (.builtin "builtins.copyright#opaque"),en P "credits" 157 (.builtin "builtins.credits#opaque"),en P "license" 158 (.builtin "builtins.license#opaque"),en P "help" 159 (.builtin "builtins.help#opaque")] 159 }
def Qq (P:Params):Obj:={ cls:=.type "dict",data:=Data.dict #[en P "builtins" 162 (.ref 4),en P "__main__" 163 (.ref 5)] 2 }
def Pa (P:Params):Obj:={ cls:=.none,data:=Data.dict #[] }
def ho_4 (P:Params):Obj:={ cls:=.type "dict",data:=Data.dict #[en P "__name__" 165 (.str "__main__" 164),en P "__doc__" 166 .none,en P "__package__" 167 .none,en P "__loader__" 168 (.builtin "__main__.__loader__#opaque"),en P "__spec__" 169 .none,en P "__annotations__" 170 (.ref 6),en P "__builtins__" 171 (.ref 4),en P "__file__" 173 (cp 172),en P "__cached__" 174 .none] 9 }
def Qp (P:Params):Obj:={ cls:=.type "module",dict:=some 0 }
def Qo (P:Params):Obj:={ cls:=.type "module",dict:=some 3 }
def Qn (P:Params):Obj:={ cls:=.type "dict",data:=Data.dict #[] }
def Qm (P:Params):Obj:=(tq #[])
def Ql (P:Params):Obj:={ cls:=.none,data:=Data.fields #[] }
def Mg (P:Params):Obj:=(fc #[.str "<module>" 176,.str "<module>" 177,cp 178,.int 1 0,.int 0 0,.int 0 0,.int 0 0,.int 0 0,.ref 7,.bool false,.int 175 0,.ref 8,.none,.none,.none,.none,.int 179 0,.int 1 0,cp 180])
def Ly (P:Params):Obj:={ cls:=.type "frame",slots:=#[some (.ref 9),some (.ref 3),some (.ref 3),none,some (.str "__main__" 164),none,some (.ref 0)] }
def Ld (P:Params):Obj:={ cls:=.type "dict",data:=Data.dict #[en P "__name__" 165 (.str "law_sluice_k55_moved_on_a_roll" 647),en P "__doc__" 166 .none,en P "__package__" 167 .none,en P "__loader__" 168 (.builtin "__main__.__loader__#opaque"),en P "__spec__" 169 .none,en P "__annotations__" 170 (.ref 6),en P "__builtins__" 171 (.ref 4),en P "__file__" 173 (cp 172),en P "__cached__" 174 .none,en P "_wall" 193 (.ref 21),en P "MOST_WATER" 197 (.int 1000000000000 196),en P "LONGEST_NAME" 199 (.int 8 198),en P "LETTERS" 201 (.str "abcdefghijklmnopqrstuvwxyz" 200),en P "is_water" 208 (.ref 28),en P "is_name" 214 (.ref 33),en P "SluiceError" 234 (.ref 43),en P "NoRiver" 250 (.ref 56),en P "NoReach" 266 (.ref 68),en P "NoLicence" 282 (.ref 80),en P "NoNumber" 298 (.ref 92),en P "NoHolder" 314 (.ref 104),en P "NotYours" 330 (.ref 116),en P "NotAlone" 346 (.ref 128),en P "TooMuch" 362 (.ref 140),en P "Full" 378 (.ref 152),en P "MOST_REACHES" 382 (.int 40 381),en P "MOUTH" 385 (.int (-1) 384),en P "comes_to_mouth" 395 (.ref 161),en P "is_river" 401 (.ref 166),en P "way_of" 410 (.ref 173),en P "LAST_DAY" 414 (.int 1000000 413),en P "is_licence" 426 (.ref 180),en P "day_filed" 433 (.ref 187),en P "most_of" 440 (.ref 194),en P "with_start" 448 (.ref 201),en P "with_most" 456 (.ref 208),en P "MOST_LICENCES" 460 (.int 60 459),en P "look_at_name" 467 (.ref 215),en P "Roll" 646 (.ref 350),en P "_law_cell_at" 656 (.ref 361),en P "_law_whole" 663 (.ref 368),en P "_law_draw" 672 (.ref 375),en P "_law_draws" 678 (.ref 380),en P "_law_river" 684 (.ref 385),en P "_law_way" 693 (.ref 392),en P "_law_alike_lines" 699 (.ref 397),en P "_law_tried" 712 (.ref 404),en P "_law_filed" 729 (.ref 411),en P "_law_new_start" 735 (.ref 416),en P "_law_is_let" 744 (.ref 423),en P "law" 763 (.ref 430)] 51 }
def Pr (P:Params):Obj:=(tq #[])
def Pq (P:Params):Obj:={ cls:=.none,data:=Data.fields #[.int 1 0,.int 0 0,.ref 20,.int 8 0,.int 0 0,.ref 27,.int 10 0,.int 0 0,.ref 32,.int 13 0,.int 0 0,.ref 39,.int 15 0,.int 0 0,.ref 52,.int 17 0,.int 0 0,.ref 64,.int 19 0,.int 0 0,.ref 76,.int 21 0,.int 0 0,.ref 88,.int 23 0,.int 0 0,.ref 100,.int 25 0,.int 0 0,.ref 112,.int 27 0,.int 0 0,.ref 124,.int 29 0,.int 0 0,.ref 136,.int 31 0,.int 0 0,.ref 148,.int 36 0,.int 0 0,.ref 160,.int 43 0,.int 0 0,.ref 165,.int 49 0,.int 0 0,.ref 172,.int 56 0,.int 0 0,.ref 179,.int 61 0,.int 0 0,.ref 186,.int 63 0,.int 0 0,.ref 193,.int 65 0,.int 0 0,.ref 200,.int 67 0,.int 0 0,.ref 207,.int 71 0,.int 0 0,.ref 214,.int 74 0,.int 0 0,.ref 221,.int 170 0,.int 0 0,.ref 360,.int 174 0,.int 0 0,.ref 367,.int 176 0,.int 0 0,.ref 374,.int 179 0,.int 0 0,.ref 379,.int 181 0,.int 0 0,.ref 384,.int 190 0,.int 0 0,.ref 391,.int 195 0,.int 0 0,.ref 396,.int 204 0,.int 0 0,.ref 403,.int 216 0,.int 0 0,.ref 410,.int 227 0,.int 0 0,.ref 415,.int 235 0,.int 0 0,.ref 422,.int 239 0,.int 0 0,.ref 429] }
def Pn (P:Params):Obj:=(fc #[.str "<module>" 182,.str "<module>" 183,cp 184,.int 1 0,.int 0 0,.int 0 0,.int 0 0,.int 0 0,.ref 11,.bool false,.int 181 0,.ref 12,.none,.none,.none,.none,.int 185 0,.int 1 0,cp 186])
def Pk (P:Params):Obj:={ cls:=.type "frame",slots:=#[some (.ref 13),some (.ref 3),some (.ref 3),none,some (.str "__main__" 164),none,some (.ref 0)] }
def Kr (P:Params):Obj:=(tq #[])
def Pj (P:Params):Obj:={ cls:=.none,data:=Data.fields #[] }
def Kg (P:Params):Obj:=(tq #[.str "k" 190])
def Ka (P:Params):Obj:=(tq #[])
def Ph (P:Params):Obj:=(pr0 "_wall" 0)
def JZ (P:Params):Obj:=(fc #[.str "_wall" 187,.str "_wall" 188,cp 189,.int 1 0,.int 1 0,.int 0 0,.int 0 0,.int 3 0,.ref 15,.bool true,.int 181 0,.ref 16,.none,.ref 17,.ref 18,.ref 19,.int 191 0,.int 1 0,cp 192])
def JT (P:Params):Obj:=⟨.type "function",none,.func (PySem.W.fnOf "_wall" "_wall" (aq (top0 0)) (ao (top0 0)) (ak (top0 0)) .none .none .none (.str "__main__" 164) none (.ref 20) .none),#[]⟩
def JM (P:Params):Obj:=(tq #[])
def Pg (P:Params):Obj:={ cls:=.none,data:=Data.fields #[] }
def JD (P:Params):Obj:=(tq #[.str "amount" 205])
def Jy (P:Params):Obj:=(tq #[])
def Pb (P:Params):Obj:=(pr0 "is_water" 5)
def Jr (P:Params):Obj:=(fc #[.str "is_water" 202,.str "is_water" 203,cp 204,.int 8 0,.int 1 0,.int 0 0,.int 0 0,.int 3 0,.ref 22,.bool true,.int 181 0,.ref 23,.none,.ref 24,.ref 25,.ref 26,.int 206 0,.int 8 0,cp 207])
def Jm (P:Params):Obj:=⟨.type "function",none,.func (PySem.W.fnOf "is_water" "is_water" (aq (top0 5)) (ao (top0 5)) (ak (top0 5)) .none .none .none (.str "sluice.bounds" 194) none (.ref 27) .none),#[]⟩
def Ji (P:Params):Obj:=(tq #[])
def O9 (P:Params):Obj:={ cls:=.none,data:=Data.fields #[] }
def O8 (P:Params):Obj:=(pr0 "is_name" 6)
def IV (P:Params):Obj:=(fc #[.str "is_name" 209,.str "is_name" 210,cp 211,.int 10 0,.int 1 0,.int 0 0,.int 0 0,.int 3 0,.ref 29,.bool true,.int 181 0,.ref 30,.none,.none,.none,.ref 31,.int 212 0,.int 10 0,cp 213])
def Iu (P:Params):Obj:=⟨.type "function",none,.func (PySem.W.fnOf "is_name" "is_name" (aq (top0 6)) (ao (top0 6)) (ak (top0 6)) .none .none .none (.str "sluice.bounds" 194) none (.ref 32) .none),#[]⟩
def Im (P:Params):Obj:=(tq #[.type "ValueError"])
def O7 (P:Params):Obj:={ cls:=.type "builtin_function_or_method",data:=Data.fields #[.builtin "type.__prepare__",.type "type"] }
def O6 (P:Params):Obj:={ cls:=.type "dict",data:=Data.dict #[en P "__module__" 224 (.str "sluice.errors" 215),en P "__qualname__" 226 (.str "SluiceError" 225),en P "__firstlineno__" 228 (.int 13 227),en P "__static_attributes__" 229 (.ref 41)] 4 }
def O4 (P:Params):Obj:=(tq #[])
def O1 (P:Params):Obj:={ cls:=.none,data:=Data.fields #[] }
def OJ (P:Params):Obj:=(fc #[.str "SluiceError" 219,.str "SluiceError" 220,cp 221,.int 13 0,.int 0 0,.int 0 0,.int 0 0,.int 0 0,.ref 37,.bool false,.int 181 0,.ref 38,.none,.none,.none,.none,.int 222 0,.int 13 0,cp 223])
def OD (P:Params):Obj:={ cls:=.type "frame",slots:=#[some (.ref 39),some (.ref 3),some (.ref 36),none,some (.str "sluice.errors" 215),none,some (.ref 0)] }
def Hw (P:Params):Obj:=(tq #[])
def Hv (P:Params):Obj:={ cls:=.type "dict",data:=Data.dict #[en P "__module__" 224 (.str "sluice.errors" 215),en P "__firstlineno__" 228 (.int 13 227),en P "__static_attributes__" 229 (.ref 41),en P "__weakref__" 231 (.ref 44),en P "__doc__" 232 .none] 3 }
def Hu (P:Params):Obj:={ cls:=.type "type",data:=Data.cls { name:="SluiceError",bases:=[.type "ValueError"],mro:=[.ref 43,.type "ValueError",.type "Exception",.type "BaseException",.type "object"],ns:=42,qualname:="SluiceError",subclasses:=[.ref 56,.ref 68,.ref 80,.ref 92,.ref 104,.ref 116,.ref 128,.ref 140,.ref 152] },slots:=#[some (.ref 34),none,some (.str "SluiceError" 217),some (.str "SluiceError" 225),some (.builtin "ValueError.__new__"),some (.bool true)] }
def Ht (P:Params):Obj:={ cls:=.type "getset_descriptor",data:=Data.fields #[.str "__weakref__" 230,.ref 43,.builtin "ExceptionGroup.__weakref__",.none] }
def Oz (P:Params):Obj:={ cls:=.type "super",data:=Data.fields #[.ref 43,.ref 43,.ref 43] }
def Ox (P:Params):Obj:={ cls:=.type "builtin_function_or_method",data:=Data.fields #[.builtin "object.__init_subclass__",.ref 43] }
def Hs (P:Params):Obj:=(tq #[.ref 43])
def Ov (P:Params):Obj:={ cls:=.type "builtin_function_or_method",data:=Data.fields #[.builtin "type.__prepare__",.type "type"] }
def Ou (P:Params):Obj:={ cls:=.type "dict",data:=Data.dict #[en P "__module__" 242 (.str "sluice.errors" 215),en P "__qualname__" 244 (.str "NoRiver" 243),en P "__firstlineno__" 246 (.int 15 245),en P "__static_attributes__" 247 (.ref 54)] 4 }
def Ot (P:Params):Obj:=(tq #[])
def Oq (P:Params):Obj:={ cls:=.none,data:=Data.fields #[] }
def Oo (P:Params):Obj:=(fc #[.str "NoRiver" 237,.str "NoRiver" 238,cp 239,.int 15 0,.int 0 0,.int 0 0,.int 0 0,.int 0 0,.ref 50,.bool false,.int 181 0,.ref 51,.none,.none,.none,.none,.int 240 0,.int 15 0,cp 241])
def Om (P:Params):Obj:={ cls:=.type "frame",slots:=#[some (.ref 52),some (.ref 3),some (.ref 49),none,some (.str "sluice.errors" 215),none,some (.ref 0)] }
def Hr (P:Params):Obj:=(tq #[])
def Hq (P:Params):Obj:={ cls:=.type "dict",data:=Data.dict #[en P "__module__" 242 (.str "sluice.errors" 215),en P "__firstlineno__" 246 (.int 15 245),en P "__static_attributes__" 247 (.ref 54),en P "__doc__" 248 .none] 2 }
def Ho (P:Params):Obj:={ cls:=.type "type",data:=Data.cls { name:="NoRiver",bases:=[.ref 43],mro:=[.ref 56,.ref 43,.type "ValueError",.type "Exception",.type "BaseException",.type "object"],ns:=55,qualname:="NoRiver" },slots:=#[some (.ref 47),none,some (.str "NoRiver" 235),some (.str "NoRiver" 243),some (.builtin "ValueError.__new__"),some (.bool true)] }
def Ol (P:Params):Obj:={ cls:=.type "super",data:=Data.fields #[.ref 56,.ref 56,.ref 56] }
def Oj (P:Params):Obj:={ cls:=.type "builtin_function_or_method",data:=Data.fields #[.builtin "object.__init_subclass__",.ref 56] }
def Hl (P:Params):Obj:=(tq #[.ref 43])
def Oi (P:Params):Obj:={ cls:=.type "builtin_function_or_method",data:=Data.fields #[.builtin "type.__prepare__",.type "type"] }
def Oh (P:Params):Obj:={ cls:=.type "dict",data:=Data.dict #[en P "__module__" 258 (.str "sluice.errors" 215),en P "__qualname__" 260 (.str "NoReach" 259),en P "__firstlineno__" 262 (.int 17 261),en P "__static_attributes__" 263 (.ref 66)] 4 }
def Og (P:Params):Obj:=(tq #[])
def Oe (P:Params):Obj:={ cls:=.none,data:=Data.fields #[] }
def Od (P:Params):Obj:=(fc #[.str "NoReach" 253,.str "NoReach" 254,cp 255,.int 17 0,.int 0 0,.int 0 0,.int 0 0,.int 0 0,.ref 62,.bool false,.int 181 0,.ref 63,.none,.none,.none,.none,.int 256 0,.int 17 0,cp 257])
def Oc (P:Params):Obj:={ cls:=.type "frame",slots:=#[some (.ref 64),some (.ref 3),some (.ref 61),none,some (.str "sluice.errors" 215),none,some (.ref 0)] }
def Hj (P:Params):Obj:=(tq #[])
def Hi (P:Params):Obj:={ cls:=.type "dict",data:=Data.dict #[en P "__module__" 258 (.str "sluice.errors" 215),en P "__firstlineno__" 262 (.int 17 261),en P "__static_attributes__" 263 (.ref 66),en P "__doc__" 264 .none] 2 }
def Hh (P:Params):Obj:={ cls:=.type "type",data:=Data.cls { name:="NoReach",bases:=[.ref 43],mro:=[.ref 68,.ref 43,.type "ValueError",.type "Exception",.type "BaseException",.type "object"],ns:=67,qualname:="NoReach" },slots:=#[some (.ref 59),none,some (.str "NoReach" 251),some (.str "NoReach" 259),some (.builtin "ValueError.__new__"),some (.bool true)] }
def Ob (P:Params):Obj:={ cls:=.type "super",data:=Data.fields #[.ref 68,.ref 68,.ref 68] }
def Oa (P:Params):Obj:={ cls:=.type "builtin_function_or_method",data:=Data.fields #[.builtin "object.__init_subclass__",.ref 68] }
def Hg (P:Params):Obj:=(tq #[.ref 43])
def N8 (P:Params):Obj:={ cls:=.type "builtin_function_or_method",data:=Data.fields #[.builtin "type.__prepare__",.type "type"] }
def N7 (P:Params):Obj:={ cls:=.type "dict",data:=Data.dict #[en P "__module__" 274 (.str "sluice.errors" 215),en P "__qualname__" 276 (.str "NoLicence" 275),en P "__firstlineno__" 278 (.int 19 277),en P "__static_attributes__" 279 (.ref 78)] 4 }
def N6 (P:Params):Obj:=(tq #[])
def N5 (P:Params):Obj:={ cls:=.none,data:=Data.fields #[] }
def NZ (P:Params):Obj:=(fc #[.str "NoLicence" 269,.str "NoLicence" 270,cp 271,.int 19 0,.int 0 0,.int 0 0,.int 0 0,.int 0 0,.ref 74,.bool false,.int 181 0,.ref 75,.none,.none,.none,.none,.int 272 0,.int 19 0,cp 273])
def NT (P:Params):Obj:={ cls:=.type "frame",slots:=#[some (.ref 76),some (.ref 3),some (.ref 73),none,some (.str "sluice.errors" 215),none,some (.ref 0)] }
def Hf (P:Params):Obj:=(tq #[])
def G9 (P:Params):Obj:={ cls:=.type "dict",data:=Data.dict #[en P "__module__" 274 (.str "sluice.errors" 215),en P "__firstlineno__" 278 (.int 19 277),en P "__static_attributes__" 279 (.ref 78),en P "__doc__" 280 .none] 2 }
def G8 (P:Params):Obj:={ cls:=.type "type",data:=Data.cls { name:="NoLicence",bases:=[.ref 43],mro:=[.ref 80,.ref 43,.type "ValueError",.type "Exception",.type "BaseException",.type "object"],ns:=79,qualname:="NoLicence" },slots:=#[some (.ref 71),none,some (.str "NoLicence" 267),some (.str "NoLicence" 275),some (.builtin "ValueError.__new__"),some (.bool true)] }
def NQ (P:Params):Obj:={ cls:=.type "super",data:=Data.fields #[.ref 80,.ref 80,.ref 80] }
def NP (P:Params):Obj:={ cls:=.type "builtin_function_or_method",data:=Data.fields #[.builtin "object.__init_subclass__",.ref 80] }
def G7 (P:Params):Obj:=(tq #[.ref 43])
def NK (P:Params):Obj:={ cls:=.type "builtin_function_or_method",data:=Data.fields #[.builtin "type.__prepare__",.type "type"] }
def Nz (P:Params):Obj:={ cls:=.type "dict",data:=Data.dict #[en P "__module__" 290 (.str "sluice.errors" 215),en P "__qualname__" 292 (.str "NoNumber" 291),en P "__firstlineno__" 294 (.int 21 293),en P "__static_attributes__" 295 (.ref 90)] 4 }
def Ny (P:Params):Obj:=(tq #[])
def Nx (P:Params):Obj:={ cls:=.none,data:=Data.fields #[] }
def Nv (P:Params):Obj:=(fc #[.str "NoNumber" 285,.str "NoNumber" 286,cp 287,.int 21 0,.int 0 0,.int 0 0,.int 0 0,.int 0 0,.ref 86,.bool false,.int 181 0,.ref 87,.none,.none,.none,.none,.int 288 0,.int 21 0,cp 289])
def Nu (P:Params):Obj:={ cls:=.type "frame",slots:=#[some (.ref 88),some (.ref 3),some (.ref 85),none,some (.str "sluice.errors" 215),none,some (.ref 0)] }
def G6 (P:Params):Obj:=(tq #[])
def G5 (P:Params):Obj:={ cls:=.type "dict",data:=Data.dict #[en P "__module__" 290 (.str "sluice.errors" 215),en P "__firstlineno__" 294 (.int 21 293),en P "__static_attributes__" 295 (.ref 90),en P "__doc__" 296 .none] 2 }
def G4 (P:Params):Obj:={ cls:=.type "type",data:=Data.cls { name:="NoNumber",bases:=[.ref 43],mro:=[.ref 92,.ref 43,.type "ValueError",.type "Exception",.type "BaseException",.type "object"],ns:=91,qualname:="NoNumber" },slots:=#[some (.ref 83),none,some (.str "NoNumber" 283),some (.str "NoNumber" 291),some (.builtin "ValueError.__new__"),some (.bool true)] }
def Nt (P:Params):Obj:={ cls:=.type "super",data:=Data.fields #[.ref 92,.ref 92,.ref 92] }
def Nr (P:Params):Obj:={ cls:=.type "builtin_function_or_method",data:=Data.fields #[.builtin "object.__init_subclass__",.ref 92] }
def G3 (P:Params):Obj:=(tq #[.ref 43])
def Nq (P:Params):Obj:={ cls:=.type "builtin_function_or_method",data:=Data.fields #[.builtin "type.__prepare__",.type "type"] }
def Mf (P:Params):Obj:={ cls:=.type "dict",data:=Data.dict #[en P "__module__" 306 (.str "sluice.errors" 215),en P "__qualname__" 308 (.str "NoHolder" 307),en P "__firstlineno__" 310 (.int 23 309),en P "__static_attributes__" 311 (.ref 102)] 4 }
def Ma (P:Params):Obj:=(tq #[])
def LR (P:Params):Obj:={ cls:=.none,data:=Data.fields #[] }
def LQ (P:Params):Obj:=(fc #[.str "NoHolder" 301,.str "NoHolder" 302,cp 303,.int 23 0,.int 0 0,.int 0 0,.int 0 0,.int 0 0,.ref 98,.bool false,.int 181 0,.ref 99,.none,.none,.none,.none,.int 304 0,.int 23 0,cp 305])
def LK (P:Params):Obj:={ cls:=.type "frame",slots:=#[some (.ref 100),some (.ref 3),some (.ref 97),none,some (.str "sluice.errors" 215),none,some (.ref 0)] }
def Dy (P:Params):Obj:=(tq #[])
def Dw (P:Params):Obj:={ cls:=.type "dict",data:=Data.dict #[en P "__module__" 306 (.str "sluice.errors" 215),en P "__firstlineno__" 310 (.int 23 309),en P "__static_attributes__" 311 (.ref 102),en P "__doc__" 312 .none] 2 }
def Dv (P:Params):Obj:={ cls:=.type "type",data:=Data.cls { name:="NoHolder",bases:=[.ref 43],mro:=[.ref 104,.ref 43,.type "ValueError",.type "Exception",.type "BaseException",.type "object"],ns:=103,qualname:="NoHolder" },slots:=#[some (.ref 95),none,some (.str "NoHolder" 299),some (.str "NoHolder" 307),some (.builtin "ValueError.__new__"),some (.bool true)] }
def LC (P:Params):Obj:={ cls:=.type "super",data:=Data.fields #[.ref 104,.ref 104,.ref 104] }
def Lz (P:Params):Obj:={ cls:=.type "builtin_function_or_method",data:=Data.fields #[.builtin "object.__init_subclass__",.ref 104] }
def Du (P:Params):Obj:=(tq #[.ref 43])
def Lx (P:Params):Obj:={ cls:=.type "builtin_function_or_method",data:=Data.fields #[.builtin "type.__prepare__",.type "type"] }
def Lw (P:Params):Obj:={ cls:=.type "dict",data:=Data.dict #[en P "__module__" 322 (.str "sluice.errors" 215),en P "__qualname__" 324 (.str "NotYours" 323),en P "__firstlineno__" 326 (.int 25 325),en P "__static_attributes__" 327 (.ref 114)] 4 }
def Ls (P:Params):Obj:=(tq #[])
def Lr (P:Params):Obj:={ cls:=.none,data:=Data.fields #[] }
def Lq (P:Params):Obj:=(fc #[.str "NotYours" 317,.str "NotYours" 318,cp 319,.int 25 0,.int 0 0,.int 0 0,.int 0 0,.int 0 0,.ref 110,.bool false,.int 181 0,.ref 111,.none,.none,.none,.none,.int 320 0,.int 25 0,cp 321])
def Lp (P:Params):Obj:={ cls:=.type "frame",slots:=#[some (.ref 112),some (.ref 3),some (.ref 109),none,some (.str "sluice.errors" 215),none,some (.ref 0)] }
def Dt (P:Params):Obj:=(tq #[])
def Ds (P:Params):Obj:={ cls:=.type "dict",data:=Data.dict #[en P "__module__" 322 (.str "sluice.errors" 215),en P "__firstlineno__" 326 (.int 25 325),en P "__static_attributes__" 327 (.ref 114),en P "__doc__" 328 .none] 2 }
def Dr (P:Params):Obj:={ cls:=.type "type",data:=Data.cls { name:="NotYours",bases:=[.ref 43],mro:=[.ref 116,.ref 43,.type "ValueError",.type "Exception",.type "BaseException",.type "object"],ns:=115,qualname:="NotYours" },slots:=#[some (.ref 107),none,some (.str "NotYours" 315),some (.str "NotYours" 323),some (.builtin "ValueError.__new__"),some (.bool true)] }
def Ln (P:Params):Obj:={ cls:=.type "super",data:=Data.fields #[.ref 116,.ref 116,.ref 116] }
def Lk (P:Params):Obj:={ cls:=.type "builtin_function_or_method",data:=Data.fields #[.builtin "object.__init_subclass__",.ref 116] }
def Dq (P:Params):Obj:=(tq #[.ref 43])
def Lj (P:Params):Obj:={ cls:=.type "builtin_function_or_method",data:=Data.fields #[.builtin "type.__prepare__",.type "type"] }
def Li (P:Params):Obj:={ cls:=.type "dict",data:=Data.dict #[en P "__module__" 338 (.str "sluice.errors" 215),en P "__qualname__" 340 (.str "NotAlone" 339),en P "__firstlineno__" 342 (.int 27 341),en P "__static_attributes__" 343 (.ref 126)] 4 }
def Lh (P:Params):Obj:=(tq #[])
def Lg (P:Params):Obj:={ cls:=.none,data:=Data.fields #[] }
def Lf (P:Params):Obj:=(fc #[.str "NotAlone" 333,.str "NotAlone" 334,cp 335,.int 27 0,.int 0 0,.int 0 0,.int 0 0,.int 0 0,.ref 122,.bool false,.int 181 0,.ref 123,.none,.none,.none,.none,.int 336 0,.int 27 0,cp 337])
def Le (P:Params):Obj:={ cls:=.type "frame",slots:=#[some (.ref 124),some (.ref 3),some (.ref 121),none,some (.str "sluice.errors" 215),none,some (.ref 0)] }
def Dp (P:Params):Obj:=(tq #[])
def Dn (P:Params):Obj:={ cls:=.type "dict",data:=Data.dict #[en P "__module__" 338 (.str "sluice.errors" 215),en P "__firstlineno__" 342 (.int 27 341),en P "__static_attributes__" 343 (.ref 126),en P "__doc__" 344 .none] 2 }
def Dl (P:Params):Obj:={ cls:=.type "type",data:=Data.cls { name:="NotAlone",bases:=[.ref 43],mro:=[.ref 128,.ref 43,.type "ValueError",.type "Exception",.type "BaseException",.type "object"],ns:=127,qualname:="NotAlone" },slots:=#[some (.ref 119),none,some (.str "NotAlone" 331),some (.str "NotAlone" 339),some (.builtin "ValueError.__new__"),some (.bool true)] }
def Lb (P:Params):Obj:={ cls:=.type "super",data:=Data.fields #[.ref 128,.ref 128,.ref 128] }
def La (P:Params):Obj:={ cls:=.type "builtin_function_or_method",data:=Data.fields #[.builtin "object.__init_subclass__",.ref 128] }
def Dk (P:Params):Obj:=(tq #[.ref 43])
def K9 (P:Params):Obj:={ cls:=.type "builtin_function_or_method",data:=Data.fields #[.builtin "type.__prepare__",.type "type"] }
def K8 (P:Params):Obj:={ cls:=.type "dict",data:=Data.dict #[en P "__module__" 354 (.str "sluice.errors" 215),en P "__qualname__" 356 (.str "TooMuch" 355),en P "__firstlineno__" 358 (.int 29 357),en P "__static_attributes__" 359 (.ref 138)] 4 }
def K7 (P:Params):Obj:=(tq #[])
def K6 (P:Params):Obj:={ cls:=.none,data:=Data.fields #[] }
def K5 (P:Params):Obj:=(fc #[.str "TooMuch" 349,.str "TooMuch" 350,cp 351,.int 29 0,.int 0 0,.int 0 0,.int 0 0,.int 0 0,.ref 134,.bool false,.int 181 0,.ref 135,.none,.none,.none,.none,.int 352 0,.int 29 0,cp 353])
def K4 (P:Params):Obj:={ cls:=.type "frame",slots:=#[some (.ref 136),some (.ref 3),some (.ref 133),none,some (.str "sluice.errors" 215),none,some (.ref 0)] }
def Dj (P:Params):Obj:=(tq #[])
def Di (P:Params):Obj:={ cls:=.type "dict",data:=Data.dict #[en P "__module__" 354 (.str "sluice.errors" 215),en P "__firstlineno__" 358 (.int 29 357),en P "__static_attributes__" 359 (.ref 138),en P "__doc__" 360 .none] 2 }
def Dh (P:Params):Obj:={ cls:=.type "type",data:=Data.cls { name:="TooMuch",bases:=[.ref 43],mro:=[.ref 140,.ref 43,.type "ValueError",.type "Exception",.type "BaseException",.type "object"],ns:=139,qualname:="TooMuch" },slots:=#[some (.ref 131),none,some (.str "TooMuch" 347),some (.str "TooMuch" 355),some (.builtin "ValueError.__new__"),some (.bool true)] }
def K3 (P:Params):Obj:={ cls:=.type "super",data:=Data.fields #[.ref 140,.ref 140,.ref 140] }
def K1 (P:Params):Obj:={ cls:=.type "builtin_function_or_method",data:=Data.fields #[.builtin "object.__init_subclass__",.ref 140] }
def Dg (P:Params):Obj:=(tq #[.ref 43])
def KZ (P:Params):Obj:={ cls:=.type "builtin_function_or_method",data:=Data.fields #[.builtin "type.__prepare__",.type "type"] }
def KY (P:Params):Obj:={ cls:=.type "dict",data:=Data.dict #[en P "__module__" 370 (.str "sluice.errors" 215),en P "__qualname__" 372 (.str "Full" 371),en P "__firstlineno__" 374 (.int 31 373),en P "__static_attributes__" 375 (.ref 150)] 4 }
def KR (P:Params):Obj:=(tq #[])
def KQ (P:Params):Obj:={ cls:=.none,data:=Data.fields #[] }
def KN (P:Params):Obj:=(fc #[.str "Full" 365,.str "Full" 366,cp 367,.int 31 0,.int 0 0,.int 0 0,.int 0 0,.int 0 0,.ref 146,.bool false,.int 181 0,.ref 147,.none,.none,.none,.none,.int 368 0,.int 31 0,cp 369])
def KJ (P:Params):Obj:={ cls:=.type "frame",slots:=#[some (.ref 148),some (.ref 3),some (.ref 145),none,some (.str "sluice.errors" 215),none,some (.ref 0)] }
def Dd (P:Params):Obj:=(tq #[])
def Dc (P:Params):Obj:={ cls:=.type "dict",data:=Data.dict #[en P "__module__" 370 (.str "sluice.errors" 215),en P "__firstlineno__" 374 (.int 31 373),en P "__static_attributes__" 375 (.ref 150),en P "__doc__" 376 .none] 2 }
def CZ (P:Params):Obj:={ cls:=.type "type",data:=Data.cls { name:="Full",bases:=[.ref 43],mro:=[.ref 152,.ref 43,.type "ValueError",.type "Exception",.type "BaseException",.type "object"],ns:=151,qualname:="Full" },slots:=#[some (.ref 143),none,some (.str "Full" 363),some (.str "Full" 371),some (.builtin "ValueError.__new__"),some (.bool true)] }
def KH (P:Params):Obj:={ cls:=.type "super",data:=Data.fields #[.ref 152,.ref 152,.ref 152] }
def KD (P:Params):Obj:={ cls:=.type "builtin_function_or_method",data:=Data.fields #[.builtin "object.__init_subclass__",.ref 152] }
def CV (P:Params):Obj:=(tq #[])
def KC (P:Params):Obj:={ cls:=.none,data:=Data.fields #[] }
def CT (P:Params):Obj:=(tq #[.str "below" 389,.str "start" 390,.str "reach" 391,.str "step" 392])
def CQ (P:Params):Obj:=(tq #[])
def Kz (P:Params):Obj:=(pr0 "comes_to_mouth" 21)
def CP (P:Params):Obj:=(fc #[.str "comes_to_mouth" 386,.str "comes_to_mouth" 387,cp 388,.int 36 0,.int 2 0,.int 0 0,.int 0 0,.int 3 0,.ref 155,.bool true,.int 181 0,.ref 156,.none,.ref 157,.ref 158,.ref 159,.int 393 0,.int 36 0,cp 394])
def CK (P:Params):Obj:=⟨.type "function",none,.func (PySem.W.fnOf "comes_to_mouth" "comes_to_mouth" (aq (top0 21)) (ao (top0 21)) (ak (top0 21)) .none .none .none (.str "sluice.rivers" 379) none (.ref 160) .none),#[]⟩
def CJ (P:Params):Obj:=(tq #[])
def Ky (P:Params):Obj:={ cls:=.none,data:=Data.fields #[] }
def Kw (P:Params):Obj:=(pr0 "is_river" 22)
def CG (P:Params):Obj:=(fc #[.str "is_river" 396,.str "is_river" 397,cp 398,.int 43 0,.int 1 0,.int 0 0,.int 0 0,.int 3 0,.ref 162,.bool true,.int 181 0,.ref 163,.none,.none,.none,.ref 164,.int 399 0,.int 43 0,cp 400])
def Cz (P:Params):Obj:=⟨.type "function",none,.func (PySem.W.fnOf "is_river" "is_river" (aq (top0 22)) (ao (top0 22)) (ak (top0 22)) .none .none .none (.str "sluice.rivers" 379) none (.ref 165) .none),#[]⟩
def Cy (P:Params):Obj:=(tq #[])
def Kv (P:Params):Obj:={ cls:=.none,data:=Data.fields #[] }
def Cw (P:Params):Obj:=(tq #[.str "below" 405,.str "reach" 406,.str "way" 407])
def Cv (P:Params):Obj:=(tq #[])
def Ku (P:Params):Obj:=(pr0 "way_of" 23)
def Cu (P:Params):Obj:=(fc #[.str "way_of" 402,.str "way_of" 403,cp 404,.int 49 0,.int 2 0,.int 0 0,.int 0 0,.int 3 0,.ref 167,.bool true,.int 181 0,.ref 168,.none,.ref 169,.ref 170,.ref 171,.int 408 0,.int 49 0,cp 409])
def Cr (P:Params):Obj:=⟨.type "function",none,.func (PySem.W.fnOf "way_of" "way_of" (aq (top0 23)) (ao (top0 23)) (ak (top0 23)) .none .none .none (.str "sluice.rivers" 379) none (.ref 172) .none),#[]⟩
def Cq (P:Params):Obj:=(tq #[])
def Ks (P:Params):Obj:={ cls:=.none,data:=Data.fields #[] }
def Cp (P:Params):Obj:=(tq #[.str "below" 418,.str "one" 419,.str "day" 420,.str "start" 421,.str "back" 422,.str "most" 423])
def Cm (P:Params):Obj:=(tq #[])
def Kq (P:Params):Obj:=(pr0 "is_licence" 26)
def Ck (P:Params):Obj:=(fc #[.str "is_licence" 415,.str "is_licence" 416,cp 417,.int 56 0,.int 2 0,.int 0 0,.int 0 0,.int 3 0,.ref 174,.bool true,.int 181 0,.ref 175,.none,.ref 176,.ref 177,.ref 178,.int 424 0,.int 56 0,cp 425])
def Cj (P:Params):Obj:=⟨.type "function",none,.func (PySem.W.fnOf "is_licence" "is_licence" (aq (top0 26)) (ao (top0 26)) (ak (top0 26)) .none .none .none (.str "sluice.licences" 411) none (.ref 179) .none),#[]⟩
def Ci (P:Params):Obj:=(tq #[])
def Kp (P:Params):Obj:={ cls:=.none,data:=Data.fields #[] }
def Cg (P:Params):Obj:=(tq #[.str "one" 430])
def Ce (P:Params):Obj:=(tq #[])
def Ko (P:Params):Obj:=(pr0 "day_filed" 27)
def Cd (P:Params):Obj:=(fc #[.str "day_filed" 427,.str "day_filed" 428,cp 429,.int 61 0,.int 1 0,.int 0 0,.int 0 0,.int 3 0,.ref 181,.bool true,.int 181 0,.ref 182,.none,.ref 183,.ref 184,.ref 185,.int 431 0,.int 61 0,cp 432])
def Ca (P:Params):Obj:=⟨.type "function",none,.func (PySem.W.fnOf "day_filed" "day_filed" (aq (top0 27)) (ao (top0 27)) (ak (top0 27)) .none .none .none (.str "sluice.licences" 411) none (.ref 186) .none),#[]⟩
def BZ (P:Params):Obj:=(tq #[])
def Km (P:Params):Obj:={ cls:=.none,data:=Data.fields #[] }
def BX (P:Params):Obj:=(tq #[.str "one" 437])
def BW (P:Params):Obj:=(tq #[])
def Kl (P:Params):Obj:=(pr0 "most_of" 28)
def BR (P:Params):Obj:=(fc #[.str "most_of" 434,.str "most_of" 435,cp 436,.int 63 0,.int 1 0,.int 0 0,.int 0 0,.int 3 0,.ref 188,.bool true,.int 181 0,.ref 189,.none,.ref 190,.ref 191,.ref 192,.int 438 0,.int 63 0,cp 439])
def BP (P:Params):Obj:=⟨.type "function",none,.func (PySem.W.fnOf "most_of" "most_of" (aq (top0 28)) (ao (top0 28)) (ak (top0 28)) .none .none .none (.str "sluice.licences" 411) none (.ref 193) .none),#[]⟩
def BL (P:Params):Obj:=(tq #[])
def Kh (P:Params):Obj:={ cls:=.none,data:=Data.fields #[] }
def BK (P:Params):Obj:=(tq #[.str "one" 444,.str "start" 445])
def BJ (P:Params):Obj:=(tq #[])
def Ke (P:Params):Obj:=(pr0 "with_start" 29)
def Bx (P:Params):Obj:=(fc #[.str "with_start" 441,.str "with_start" 442,cp 443,.int 65 0,.int 2 0,.int 0 0,.int 0 0,.int 3 0,.ref 195,.bool true,.int 181 0,.ref 196,.none,.ref 197,.ref 198,.ref 199,.int 446 0,.int 65 0,cp 447])
def Bw (P:Params):Obj:=⟨.type "function",none,.func (PySem.W.fnOf "with_start" "with_start" (aq (top0 29)) (ao (top0 29)) (ak (top0 29)) .none .none .none (.str "sluice.licences" 411) none (.ref 200) .none),#[]⟩
def Bv (P:Params):Obj:=(tq #[])
def Kd (P:Params):Obj:={ cls:=.none,data:=Data.fields #[] }
def Bu (P:Params):Obj:=(tq #[.str "one" 452,.str "most" 453])
def Bt (P:Params):Obj:=(tq #[])
def Kc (P:Params):Obj:=(pr0 "with_most" 30)
def Bs (P:Params):Obj:=(fc #[.str "with_most" 449,.str "with_most" 450,cp 451,.int 67 0,.int 2 0,.int 0 0,.int 0 0,.int 3 0,.ref 202,.bool true,.int 181 0,.ref 203,.none,.ref 204,.ref 205,.ref 206,.int 454 0,.int 67 0,cp 455])
def Br (P:Params):Obj:=⟨.type "function",none,.func (PySem.W.fnOf "with_most" "with_most" (aq (top0 30)) (ao (top0 30)) (ak (top0 30)) .none .none .none (.str "sluice.licences" 411) none (.ref 207) .none),#[]⟩
def Bq (P:Params):Obj:=(tq #[])
def J9 (P:Params):Obj:={ cls:=.none,data:=Data.fields #[] }
def Bp (P:Params):Obj:=(tq #[.str "name" 464])
def Bo (P:Params):Obj:=(tq #[])
def J8 (P:Params):Obj:=(pr0 "look_at_name" 33)
def Bm (P:Params):Obj:=(fc #[.str "look_at_name" 461,.str "look_at_name" 462,cp 463,.int 71 0,.int 1 0,.int 0 0,.int 0 0,.int 3 0,.ref 209,.bool true,.int 181 0,.ref 210,.none,.ref 211,.ref 212,.ref 213,.int 465 0,.int 71 0,cp 466])
def Bl (P:Params):Obj:=⟨.type "function",none,.func (PySem.W.fnOf "look_at_name" "look_at_name" (aq (top0 33)) (ao (top0 33)) (ak (top0 33)) .none .none .none (.str "sluice.rolls" 457) none (.ref 214) .none),#[]⟩
def J7 (P:Params):Obj:=(tq #[])
def J6 (P:Params):Obj:={ cls:=.type "builtin_function_or_method",data:=Data.fields #[.builtin "type.__prepare__",.type "type"] }
def J5 (P:Params):Obj:={ cls:=.type "dict",data:=Data.dict #[en P "__module__" 475 (.str "sluice.rolls" 457),en P "__qualname__" 477 (.str "Roll" 476),en P "__firstlineno__" 479 (.int 74 478),en P "__init__" 487 (.ref 229),en P "today" 494 (.ref 236),en P "roll" 501 (.ref 243),en P "holders" 508 (.ref 250),en P "deeds" 515 (.ref 257),en P "turn" 522 (.ref 264),en P "file" 535 (.ref 272),en P "sell" 545 (.ref 279),en P "part" 557 (.ref 286),en P "drop" 566 (.ref 293),en P "move" 577 (.ref 300),en P "look_move" 586 (.ref 307),en P "lapse" 594 (.ref 314),en P "enter" 603 (.ref 321),en P "is_alone" 609 (.ref 326),en P "look_at_number" 617 (.ref 333),en P "look_at_holder" 626 (.ref 340),en P "look_at_room" 633 (.ref 347),en P "__static_attributes__" 639 (.ref 348)] 22 }
def J4 (P:Params):Obj:=(tq #[])
def J3 (P:Params):Obj:={ cls:=.none,data:=Data.fields #[.int 76 0,.int 4 0,.ref 228,.int 85 0,.int 4 0,.ref 235,.int 88 0,.int 4 0,.ref 242,.int 91 0,.int 4 0,.ref 249,.int 94 0,.int 4 0,.ref 256,.int 97 0,.int 4 0,.ref 263,.int 101 0,.int 4 0,.ref 271,.int 111 0,.int 4 0,.ref 278,.int 114 0,.int 4 0,.ref 285,.int 127 0,.int 4 0,.ref 292,.int 132 0,.int 4 0,.ref 299,.int 141 0,.int 4 0,.ref 306,.int 144 0,.int 4 0,.ref 313,.int 147 0,.int 4 0,.ref 320,.int 152 0,.int 4 0,.ref 325,.int 157 0,.int 4 0,.ref 332,.int 161 0,.int 4 0,.ref 339,.int 166 0,.int 4 0,.ref 346] }
def J2 (P:Params):Obj:=(fc #[.str "Roll" 470,.str "Roll" 471,cp 472,.int 74 0,.int 0 0,.int 0 0,.int 0 0,.int 0 0,.ref 219,.bool false,.int 181 0,.ref 220,.none,.none,.none,.none,.int 473 0,.int 74 0,cp 474])
def J1 (P:Params):Obj:={ cls:=.type "frame",slots:=#[some (.ref 221),some (.ref 3),some (.ref 218),none,some (.str "sluice.rolls" 457),none,some (.ref 0)] }
def Bk (P:Params):Obj:=(tq #[])
def J0 (P:Params):Obj:={ cls:=.none,data:=Data.fields #[] }
def Bj (P:Params):Obj:=(tq #[.str "self" 483,.str "below" 484])
def Bh (P:Params):Obj:=(tq #[])
def JX (P:Params):Obj:={ cls:=.none,data:=.func { name:="__init__",qualname:="Roll.__init__",params:=aq (inClass (top0 34) 0),body:=.stmts (ao (inClass (top0 34) 0)),scope:=ak (inClass (top0 34) 0),globals:=0,closure:=[],defaults:=.none,kwdefaults:=.none } }
def Bg (P:Params):Obj:=(fc #[.str "__init__" 480,.str "Roll.__init__" 481,cp 482,.int 76 0,.int 2 0,.int 0 0,.int 0 0,.int 3 0,.ref 223,.bool true,.int 181 0,.ref 224,.none,.ref 225,.ref 226,.ref 227,.int 485 0,.int 76 0,cp 486])
def Bf (P:Params):Obj:=⟨.type "function",none,.func (PySem.W.fnOf "__init__" "Roll.__init__" (aq (inClass (top0 34) 0)) (ao (inClass (top0 34) 0)) (ak (inClass (top0 34) 0)) .none .none .none (.str "sluice.rolls" 457) none (.ref 228) .none),#[]⟩
def Bd (P:Params):Obj:=(tq #[])
def JW (P:Params):Obj:={ cls:=.none,data:=Data.fields #[] }
def Bb (P:Params):Obj:=(tq #[.str "self" 491])
def Az (P:Params):Obj:=(tq #[])
def JV (P:Params):Obj:={ cls:=.none,data:=.func { name:="today",qualname:="Roll.today",params:=aq (inClass (top0 34) 1),body:=.stmts (ao (inClass (top0 34) 1)),scope:=ak (inClass (top0 34) 1),globals:=0,closure:=[],defaults:=.none,kwdefaults:=.none } }
def Ay (P:Params):Obj:=(fc #[.str "today" 488,.str "Roll.today" 489,cp 490,.int 85 0,.int 1 0,.int 0 0,.int 0 0,.int 3 0,.ref 230,.bool true,.int 181 0,.ref 231,.none,.ref 232,.ref 233,.ref 234,.int 492 0,.int 85 0,cp 493])
def Ax (P:Params):Obj:=⟨.type "function",none,.func (PySem.W.fnOf "today" "Roll.today" (aq (inClass (top0 34) 1)) (ao (inClass (top0 34) 1)) (ak (inClass (top0 34) 1)) .none .none .none (.str "sluice.rolls" 457) none (.ref 235) .none),#[]⟩
def Aw (P:Params):Obj:=(tq #[])
def JR (P:Params):Obj:={ cls:=.none,data:=Data.fields #[] }
def Av (P:Params):Obj:=(tq #[.str "self" 498])
def Ar (P:Params):Obj:=(tq #[])
def JQ (P:Params):Obj:={ cls:=.none,data:=.func { name:="roll",qualname:="Roll.roll",params:=aq (inClass (top0 34) 2),body:=.stmts (ao (inClass (top0 34) 2)),scope:=ak (inClass (top0 34) 2),globals:=0,closure:=[],defaults:=.none,kwdefaults:=.none } }
def Aq (P:Params):Obj:=(fc #[.str "roll" 495,.str "Roll.roll" 496,cp 497,.int 88 0,.int 1 0,.int 0 0,.int 0 0,.int 3 0,.ref 237,.bool true,.int 181 0,.ref 238,.none,.ref 239,.ref 240,.ref 241,.int 499 0,.int 88 0,cp 500])
def Ao (P:Params):Obj:=⟨.type "function",none,.func (PySem.W.fnOf "roll" "Roll.roll" (aq (inClass (top0 34) 2)) (ao (inClass (top0 34) 2)) (ak (inClass (top0 34) 2)) .none .none .none (.str "sluice.rolls" 457) none (.ref 242) .none),#[]⟩
def Am (P:Params):Obj:=(tq #[])
def JN (P:Params):Obj:={ cls:=.none,data:=Data.fields #[] }
def Al (P:Params):Obj:=(tq #[.str "self" 505])
def Ak (P:Params):Obj:=(tq #[])
def JL (P:Params):Obj:={ cls:=.none,data:=.func { name:="holders",qualname:="Roll.holders",params:=aq (inClass (top0 34) 3),body:=.stmts (ao (inClass (top0 34) 3)),scope:=ak (inClass (top0 34) 3),globals:=0,closure:=[],defaults:=.none,kwdefaults:=.none } }
def Aj (P:Params):Obj:=(fc #[.str "holders" 502,.str "Roll.holders" 503,cp 504,.int 91 0,.int 1 0,.int 0 0,.int 0 0,.int 3 0,.ref 244,.bool true,.int 181 0,.ref 245,.none,.ref 246,.ref 247,.ref 248,.int 506 0,.int 91 0,cp 507])
def Ai (P:Params):Obj:=⟨.type "function",none,.func (PySem.W.fnOf "holders" "Roll.holders" (aq (inClass (top0 34) 3)) (ao (inClass (top0 34) 3)) (ak (inClass (top0 34) 3)) .none .none .none (.str "sluice.rolls" 457) none (.ref 249) .none),#[]⟩
def Ah (P:Params):Obj:=(tq #[])
def JK (P:Params):Obj:={ cls:=.none,data:=Data.fields #[] }
def Ag (P:Params):Obj:=(tq #[.str "self" 512])
def Af (P:Params):Obj:=(tq #[])
def JH (P:Params):Obj:={ cls:=.none,data:=.func { name:="deeds",qualname:="Roll.deeds",params:=aq (inClass (top0 34) 4),body:=.stmts (ao (inClass (top0 34) 4)),scope:=ak (inClass (top0 34) 4),globals:=0,closure:=[],defaults:=.none,kwdefaults:=.none } }
def Ae (P:Params):Obj:=(fc #[.str "deeds" 509,.str "Roll.deeds" 510,cp 511,.int 94 0,.int 1 0,.int 0 0,.int 0 0,.int 3 0,.ref 251,.bool true,.int 181 0,.ref 252,.none,.ref 253,.ref 254,.ref 255,.int 513 0,.int 94 0,cp 514])
def Ad (P:Params):Obj:=⟨.type "function",none,.func (PySem.W.fnOf "deeds" "Roll.deeds" (aq (inClass (top0 34) 4)) (ao (inClass (top0 34) 4)) (ak (inClass (top0 34) 4)) .none .none .none (.str "sluice.rolls" 457) none (.ref 256) .none),#[]⟩
def Ac (P:Params):Obj:=(tq #[])
def JG (P:Params):Obj:={ cls:=.none,data:=Data.fields #[] }
def Ab (P:Params):Obj:=(tq #[.str "self" 519])
def Aa (P:Params):Obj:=(tq #[])
def JF (P:Params):Obj:={ cls:=.none,data:=.func { name:="turn",qualname:="Roll.turn",params:=aq (inClass (top0 34) 5),body:=.stmts (ao (inClass (top0 34) 5)),scope:=ak (inClass (top0 34) 5),globals:=0,closure:=[],defaults:=.none,kwdefaults:=.none } }
def z9 (P:Params):Obj:=(fc #[.str "turn" 516,.str "Roll.turn" 517,cp 518,.int 97 0,.int 1 0,.int 0 0,.int 0 0,.int 3 0,.ref 258,.bool true,.int 181 0,.ref 259,.none,.ref 260,.ref 261,.ref 262,.int 520 0,.int 97 0,cp 521])
def z8 (P:Params):Obj:=⟨.type "function",none,.func (PySem.W.fnOf "turn" "Roll.turn" (aq (inClass (top0 34) 5)) (ao (inClass (top0 34) 5)) (ak (inClass (top0 34) 5)) .none .none .none (.str "sluice.rolls" 457) none (.ref 263) .none),#[]⟩
def z7 (P:Params):Obj:=(tq #[.none])
def z6 (P:Params):Obj:=(tq #[])
def JC (P:Params):Obj:={ cls:=.none,data:=Data.fields #[] }
def zZ (P:Params):Obj:=(tq #[.str "self" 526,.str "holder" 527,.str "start" 528,.str "most" 529,.str "back" 530,.str "stop" 531,.str "one" 532])
def zY (P:Params):Obj:=(tq #[])
def JB (P:Params):Obj:={ cls:=.none,data:=.func { name:="file",qualname:="Roll.file",params:=aq (inClass (top0 34) 6),body:=.stmts (ao (inClass (top0 34) 6)),scope:=ak (inClass (top0 34) 6),globals:=0,closure:=[],defaults:=.none,kwdefaults:=.none } }
def zX (P:Params):Obj:=(fc #[.str "file" 523,.str "Roll.file" 524,cp 525,.int 101 0,.int 5 0,.int 0 0,.int 0 0,.int 3 0,.ref 266,.bool true,.int 181 0,.ref 267,.none,.ref 268,.ref 269,.ref 270,.int 533 0,.int 101 0,cp 534])
def zW (P:Params):Obj:=⟨.type "function",none,.func (PySem.W.fnOf "file" "Roll.file" (aq (inClass (top0 34) 6)) (ao (inClass (top0 34) 6)) (ak (inClass (top0 34) 6)) (.ref 265) .none .none (.str "sluice.rolls" 457) none (.ref 271) .none),#[]⟩
def zV (P:Params):Obj:=(tq #[])
def Jz (P:Params):Obj:={ cls:=.none,data:=Data.fields #[] }
def zU (P:Params):Obj:=(tq #[.str "self" 539,.str "number" 540,.str "holder" 541,.str "to" 542])
def zT (P:Params):Obj:=(tq #[])
def Jx (P:Params):Obj:={ cls:=.none,data:=.func { name:="sell",qualname:="Roll.sell",params:=aq (inClass (top0 34) 7),body:=.stmts (ao (inClass (top0 34) 7)),scope:=ak (inClass (top0 34) 7),globals:=0,closure:=[],defaults:=.none,kwdefaults:=.none } }
def zR (P:Params):Obj:=(fc #[.str "sell" 536,.str "Roll.sell" 537,cp 538,.int 111 0,.int 4 0,.int 0 0,.int 0 0,.int 3 0,.ref 273,.bool true,.int 181 0,.ref 274,.none,.ref 275,.ref 276,.ref 277,.int 543 0,.int 111 0,cp 544])
def zQ (P:Params):Obj:=⟨.type "function",none,.func (PySem.W.fnOf "sell" "Roll.sell" (aq (inClass (top0 34) 7)) (ao (inClass (top0 34) 7)) (ak (inClass (top0 34) 7)) .none .none .none (.str "sluice.rolls" 457) none (.ref 278) .none),#[]⟩
def zP (P:Params):Obj:=(tq #[])
def Jw (P:Params):Obj:={ cls:=.none,data:=Data.fields #[] }
def zO (P:Params):Obj:=(tq #[.str "self" 549,.str "number" 550,.str "holder" 551,.str "most" 552,.str "to" 553,.str "one" 554])
def zN (P:Params):Obj:=(tq #[])
def Jv (P:Params):Obj:={ cls:=.none,data:=.func { name:="part",qualname:="Roll.part",params:=aq (inClass (top0 34) 8),body:=.stmts (ao (inClass (top0 34) 8)),scope:=ak (inClass (top0 34) 8),globals:=0,closure:=[],defaults:=.none,kwdefaults:=.none } }
def zM (P:Params):Obj:=(fc #[.str "part" 546,.str "Roll.part" 547,cp 548,.int 114 0,.int 5 0,.int 0 0,.int 0 0,.int 3 0,.ref 280,.bool true,.int 181 0,.ref 281,.none,.ref 282,.ref 283,.ref 284,.int 555 0,.int 114 0,cp 556])
def zL (P:Params):Obj:=⟨.type "function",none,.func (PySem.W.fnOf "part" "Roll.part" (aq (inClass (top0 34) 8)) (ao (inClass (top0 34) 8)) (ak (inClass (top0 34) 8)) .none .none .none (.str "sluice.rolls" 457) none (.ref 285) .none),#[]⟩
def zK (P:Params):Obj:=(tq #[])
def Ju (P:Params):Obj:={ cls:=.none,data:=Data.fields #[] }
def zJ (P:Params):Obj:=(tq #[.str "self" 561,.str "number" 562,.str "holder" 563])
def zH (P:Params):Obj:=(tq #[])
def Jt (P:Params):Obj:={ cls:=.none,data:=.func { name:="drop",qualname:="Roll.drop",params:=aq (inClass (top0 34) 9),body:=.stmts (ao (inClass (top0 34) 9)),scope:=ak (inClass (top0 34) 9),globals:=0,closure:=[],defaults:=.none,kwdefaults:=.none } }
def zG (P:Params):Obj:=(fc #[.str "drop" 558,.str "Roll.drop" 559,cp 560,.int 127 0,.int 3 0,.int 0 0,.int 0 0,.int 3 0,.ref 287,.bool true,.int 181 0,.ref 288,.none,.ref 289,.ref 290,.ref 291,.int 564 0,.int 127 0,cp 565])
def zF (P:Params):Obj:=⟨.type "function",none,.func (PySem.W.fnOf "drop" "Roll.drop" (aq (inClass (top0 34) 9)) (ao (inClass (top0 34) 9)) (ak (inClass (top0 34) 9)) .none .none .none (.str "sluice.rolls" 457) none (.ref 292) .none),#[]⟩
def zE (P:Params):Obj:=(tq #[])
def Js (P:Params):Obj:={ cls:=.none,data:=Data.fields #[] }
def zB (P:Params):Obj:=(tq #[.str "self" 570,.str "number" 571,.str "holder" 572,.str "start" 573,.str "one" 574])
def zA (P:Params):Obj:=(tq #[])
def Jq (P:Params):Obj:={ cls:=.none,data:=.func { name:="move",qualname:="Roll.move",params:=aq (inClass (top0 34) 10),body:=.stmts (ao (inClass (top0 34) 10)),scope:=ak (inClass (top0 34) 10),globals:=0,closure:=[],defaults:=.none,kwdefaults:=.none } }
def zy (P:Params):Obj:=(fc #[.str "move" 567,.str "Roll.move" 568,cp 569,.int 132 0,.int 4 0,.int 0 0,.int 0 0,.int 3 0,.ref 294,.bool true,.int 181 0,.ref 295,.none,.ref 296,.ref 297,.ref 298,.int 575 0,.int 132 0,cp 576])
def zx (P:Params):Obj:=⟨.type "function",none,.func (PySem.W.fnOf "move" "Roll.move" (aq (inClass (top0 34) 10)) (ao (inClass (top0 34) 10)) (ak (inClass (top0 34) 10)) .none .none .none (.str "sluice.rolls" 457) none (.ref 299) .none),#[]⟩
def zu (P:Params):Obj:=(tq #[])
def Jp (P:Params):Obj:={ cls:=.none,data:=Data.fields #[] }
def zq (P:Params):Obj:=(tq #[.str "self" 581,.str "number" 582,.str "start" 583])
def zp (P:Params):Obj:=(tq #[])
def Jo (P:Params):Obj:={ cls:=.none,data:=.func { name:="look_move",qualname:="Roll.look_move",params:=aq (inClass (top0 34) 11),body:=.stmts (ao (inClass (top0 34) 11)),scope:=ak (inClass (top0 34) 11),globals:=0,closure:=[],defaults:=.none,kwdefaults:=.none } }
def zm (P:Params):Obj:=(fc #[.str "look_move" 578,.str "Roll.look_move" 579,cp 580,.int 141 0,.int 3 0,.int 0 0,.int 0 0,.int 3 0,.ref 301,.bool true,.int 181 0,.ref 302,.none,.ref 303,.ref 304,.ref 305,.int 584 0,.int 141 0,cp 585])
def zj (P:Params):Obj:=⟨.type "function",none,.func (PySem.W.fnOf "look_move" "Roll.look_move" (aq (inClass (top0 34) 11)) (ao (inClass (top0 34) 11)) (ak (inClass (top0 34) 11)) .none .none .none (.str "sluice.rolls" 457) none (.ref 306) .none),#[]⟩
def zf (P:Params):Obj:=(tq #[])
def Jl (P:Params):Obj:={ cls:=.none,data:=Data.fields #[] }
def zc (P:Params):Obj:=(tq #[.str "self" 590,.str "numbers" 591])
def za (P:Params):Obj:=(tq #[])
def Jk (P:Params):Obj:={ cls:=.none,data:=.func { name:="lapse",qualname:="Roll.lapse",params:=aq (inClass (top0 34) 12),body:=.stmts (ao (inClass (top0 34) 12)),scope:=ak (inClass (top0 34) 12),globals:=0,closure:=[],defaults:=.none,kwdefaults:=.none } }
def yZ (P:Params):Obj:=(fc #[.str "lapse" 587,.str "Roll.lapse" 588,cp 589,.int 144 0,.int 2 0,.int 0 0,.int 0 0,.int 3 0,.ref 308,.bool true,.int 181 0,.ref 309,.none,.ref 310,.ref 311,.ref 312,.int 592 0,.int 144 0,cp 593])
def yX (P:Params):Obj:=⟨.type "function",none,.func (PySem.W.fnOf "lapse" "Roll.lapse" (aq (inClass (top0 34) 12)) (ao (inClass (top0 34) 12)) (ak (inClass (top0 34) 12)) .none .none .none (.str "sluice.rolls" 457) none (.ref 313) .none),#[]⟩
def yW (P:Params):Obj:=(tq #[])
def Jj (P:Params):Obj:={ cls:=.none,data:=Data.fields #[] }
def yV (P:Params):Obj:=(tq #[.str "self" 598,.str "one" 599,.str "holder" 600])
def yU (P:Params):Obj:=(tq #[])
def Jh (P:Params):Obj:={ cls:=.none,data:=.func { name:="enter",qualname:="Roll.enter",params:=aq (inClass (top0 34) 13),body:=.stmts (ao (inClass (top0 34) 13)),scope:=ak (inClass (top0 34) 13),globals:=0,closure:=[],defaults:=.none,kwdefaults:=.none } }
def yS (P:Params):Obj:=(fc #[.str "enter" 595,.str "Roll.enter" 596,cp 597,.int 147 0,.int 3 0,.int 0 0,.int 0 0,.int 3 0,.ref 315,.bool true,.int 181 0,.ref 316,.none,.ref 317,.ref 318,.ref 319,.int 601 0,.int 147 0,cp 602])
def yR (P:Params):Obj:=⟨.type "function",none,.func (PySem.W.fnOf "enter" "Roll.enter" (aq (inClass (top0 34) 13)) (ao (inClass (top0 34) 13)) (ak (inClass (top0 34) 13)) .none .none .none (.str "sluice.rolls" 457) none (.ref 320) .none),#[]⟩
def yQ (P:Params):Obj:=(tq #[])
def Jg (P:Params):Obj:={ cls:=.none,data:=Data.fields #[] }
def Jf (P:Params):Obj:={ cls:=.none,data:=.func { name:="is_alone",qualname:="Roll.is_alone",params:=aq (inClass (top0 34) 14),body:=.stmts (ao (inClass (top0 34) 14)),scope:=ak (inClass (top0 34) 14),globals:=0,closure:=[],defaults:=.none,kwdefaults:=.none } }
def yP (P:Params):Obj:=(fc #[.str "is_alone" 604,.str "Roll.is_alone" 605,cp 606,.int 152 0,.int 2 0,.int 0 0,.int 0 0,.int 3 0,.ref 322,.bool true,.int 181 0,.ref 323,.none,.none,.none,.ref 324,.int 607 0,.int 152 0,cp 608])
def yO (P:Params):Obj:=⟨.type "function",none,.func (PySem.W.fnOf "is_alone" "Roll.is_alone" (aq (inClass (top0 34) 14)) (ao (inClass (top0 34) 14)) (ak (inClass (top0 34) 14)) .none .none .none (.str "sluice.rolls" 457) none (.ref 325) .none),#[]⟩
def yN (P:Params):Obj:=(tq #[])
def Je (P:Params):Obj:={ cls:=.none,data:=Data.fields #[] }
def yM (P:Params):Obj:=(tq #[.str "self" 613,.str "number" 614])
def yL (P:Params):Obj:=(tq #[])
def Jd (P:Params):Obj:={ cls:=.none,data:=.func { name:="look_at_number",qualname:="Roll.look_at_number",params:=aq (inClass (top0 34) 15),body:=.stmts (ao (inClass (top0 34) 15)),scope:=ak (inClass (top0 34) 15),globals:=0,closure:=[],defaults:=.none,kwdefaults:=.none } }
def yK (P:Params):Obj:=(fc #[.str "look_at_number" 610,.str "Roll.look_at_number" 611,cp 612,.int 157 0,.int 2 0,.int 0 0,.int 0 0,.int 3 0,.ref 327,.bool true,.int 181 0,.ref 328,.none,.ref 329,.ref 330,.ref 331,.int 615 0,.int 157 0,cp 616])
def yJ (P:Params):Obj:=⟨.type "function",none,.func (PySem.W.fnOf "look_at_number" "Roll.look_at_number" (aq (inClass (top0 34) 15)) (ao (inClass (top0 34) 15)) (ak (inClass (top0 34) 15)) .none .none .none (.str "sluice.rolls" 457) none (.ref 332) .none),#[]⟩
def yI (P:Params):Obj:=(tq #[])
def Jc (P:Params):Obj:={ cls:=.none,data:=Data.fields #[] }
def yH (P:Params):Obj:=(tq #[.str "self" 621,.str "number" 622,.str "holder" 623])
def yG (P:Params):Obj:=(tq #[])
def Jb (P:Params):Obj:={ cls:=.none,data:=.func { name:="look_at_holder",qualname:="Roll.look_at_holder",params:=aq (inClass (top0 34) 16),body:=.stmts (ao (inClass (top0 34) 16)),scope:=ak (inClass (top0 34) 16),globals:=0,closure:=[],defaults:=.none,kwdefaults:=.none } }
def yF (P:Params):Obj:=(fc #[.str "look_at_holder" 618,.str "Roll.look_at_holder" 619,cp 620,.int 161 0,.int 3 0,.int 0 0,.int 0 0,.int 3 0,.ref 334,.bool true,.int 181 0,.ref 335,.none,.ref 336,.ref 337,.ref 338,.int 624 0,.int 161 0,cp 625])
def yE (P:Params):Obj:=⟨.type "function",none,.func (PySem.W.fnOf "look_at_holder" "Roll.look_at_holder" (aq (inClass (top0 34) 16)) (ao (inClass (top0 34) 16)) (ak (inClass (top0 34) 16)) .none .none .none (.str "sluice.rolls" 457) none (.ref 339) .none),#[]⟩
def yD (P:Params):Obj:=(tq #[])
def Ja (P:Params):Obj:={ cls:=.none,data:=Data.fields #[] }
def yC (P:Params):Obj:=(tq #[.str "self" 630])
def yx (P:Params):Obj:=(tq #[])
def IW (P:Params):Obj:={ cls:=.none,data:=.func { name:="look_at_room",qualname:="Roll.look_at_room",params:=aq (inClass (top0 34) 17),body:=.stmts (ao (inClass (top0 34) 17)),scope:=ak (inClass (top0 34) 17),globals:=0,closure:=[],defaults:=.none,kwdefaults:=.none } }
def yw (P:Params):Obj:=(fc #[.str "look_at_room" 627,.str "Roll.look_at_room" 628,cp 629,.int 166 0,.int 1 0,.int 0 0,.int 0 0,.int 3 0,.ref 341,.bool true,.int 181 0,.ref 342,.none,.ref 343,.ref 344,.ref 345,.int 631 0,.int 166 0,cp 632])
def yu (P:Params):Obj:=⟨.type "function",none,.func (PySem.W.fnOf "look_at_room" "Roll.look_at_room" (aq (inClass (top0 34) 17)) (ao (inClass (top0 34) 17)) (ak (inClass (top0 34) 17)) .none .none .none (.str "sluice.rolls" 457) none (.ref 346) .none),#[]⟩
def yt (P:Params):Obj:=(tq #[.str "below" 634,.str "day" 635,.str "done" 636,.str "licences" 637,.str "names" 638])
def yr (P:Params):Obj:={ cls:=.type "dict",data:=Data.dict #[en P "__module__" 475 (.str "sluice.rolls" 457),en P "__firstlineno__" 479 (.int 74 478),en P "__init__" 487 (.ref 229),en P "today" 494 (.ref 236),en P "roll" 501 (.ref 243),en P "holders" 508 (.ref 250),en P "deeds" 515 (.ref 257),en P "turn" 522 (.ref 264),en P "file" 535 (.ref 272),en P "sell" 545 (.ref 279),en P "part" 557 (.ref 286),en P "drop" 566 (.ref 293),en P "move" 577 (.ref 300),en P "look_move" 586 (.ref 307),en P "lapse" 594 (.ref 314),en P "enter" 603 (.ref 321),en P "is_alone" 609 (.ref 326),en P "look_at_number" 617 (.ref 333),en P "look_at_holder" 626 (.ref 340),en P "look_at_room" 633 (.ref 347),en P "__static_attributes__" 639 (.ref 348),en P "__dict__" 641 (.ref 351),en P "__weakref__" 643 (.ref 352),en P "__doc__" 644 .none] 4 }
def yq (P:Params):Obj:={ cls:=.type "type",data:=Data.cls { name:="Roll",bases:=[.type "object"],mro:=[.ref 350,.type "object"],ns:=349,qualname:="Roll" },slots:=#[none,none,some (.str "Roll" 468),some (.str "Roll" 476),some (.builtin "object.__new__"),some (.bool true)] }
def yp (P:Params):Obj:={ cls:=.type "getset_descriptor",data:=Data.fields #[.str "__dict__" 640,.ref 350,.builtin "function.__dict__",.builtin "function.__dict__#set"] }
def yj (P:Params):Obj:={ cls:=.type "getset_descriptor",data:=Data.fields #[.str "__weakref__" 642,.ref 350,.builtin "ExceptionGroup.__weakref__",.none] }
def IK (P:Params):Obj:={ cls:=.type "super",data:=Data.fields #[.ref 350,.ref 350,.ref 350] }
def Iz (P:Params):Obj:={ cls:=.type "builtin_function_or_method",data:=Data.fields #[.builtin "object.__init_subclass__",.ref 350] }
def yh (P:Params):Obj:=(tq #[])
def Iw (P:Params):Obj:={ cls:=.none,data:=Data.fields #[] }
def yg (P:Params):Obj:=(tq #[.str "script" 652,.str "k" 653])
def yd (P:Params):Obj:=(tq #[])
def Ir (P:Params):Obj:=(pr0 "_law_cell_at" 36)
def yc (P:Params):Obj:=(fc #[.str "_law_cell_at" 649,.str "_law_cell_at" 650,cp 651,.int 170 0,.int 2 0,.int 0 0,.int 0 0,.int 3 0,.ref 355,.bool true,.int 181 0,.ref 356,.none,.ref 357,.ref 358,.ref 359,.int 654 0,.int 170 0,cp 655])
def xZ (P:Params):Obj:=⟨.type "function",none,.func (PySem.W.fnOf "_law_cell_at" "_law_cell_at" (aq (top0 36)) (ao (top0 36)) (ak (top0 36)) .none .none .none (.str "law_sluice_k55_moved_on_a_roll" 647) none (.ref 360) .none),#[]⟩
def xY (P:Params):Obj:=(tq #[])
def Ip (P:Params):Obj:={ cls:=.none,data:=Data.fields #[] }
def xX (P:Params):Obj:=(tq #[.str "found" 660])
def xW (P:Params):Obj:=(tq #[])
def Io (P:Params):Obj:=(pr0 "_law_whole" 37)
def xV (P:Params):Obj:=(fc #[.str "_law_whole" 657,.str "_law_whole" 658,cp 659,.int 174 0,.int 1 0,.int 0 0,.int 0 0,.int 3 0,.ref 362,.bool true,.int 181 0,.ref 363,.none,.ref 364,.ref 365,.ref 366,.int 661 0,.int 174 0,cp 662])
def xU (P:Params):Obj:=⟨.type "function",none,.func (PySem.W.fnOf "_law_whole" "_law_whole" (aq (top0 37)) (ao (top0 37)) (ak (top0 37)) .none .none .none (.str "law_sluice_k55_moved_on_a_roll" 647) none (.ref 367) .none),#[]⟩
def xT (P:Params):Obj:=(tq #[])
def Il (P:Params):Obj:={ cls:=.none,data:=Data.fields #[] }
def xR (P:Params):Obj:=(tq #[.str "cell" 667,.str "place" 668,.str "spot" 669])
def xQ (P:Params):Obj:=(tq #[])
def Ik (P:Params):Obj:=(pr0 "_law_draw" 38)
def xP (P:Params):Obj:=(fc #[.str "_law_draw" 664,.str "_law_draw" 665,cp 666,.int 176 0,.int 2 0,.int 0 0,.int 0 0,.int 3 0,.ref 369,.bool true,.int 181 0,.ref 370,.none,.ref 371,.ref 372,.ref 373,.int 670 0,.int 176 0,cp 671])
def xO (P:Params):Obj:=⟨.type "function",none,.func (PySem.W.fnOf "_law_draw" "_law_draw" (aq (top0 38)) (ao (top0 38)) (ak (top0 38)) .none .none .none (.str "law_sluice_k55_moved_on_a_roll" 647) none (.ref 374) .none),#[]⟩
def xM (P:Params):Obj:=(tq #[])
def Ij (P:Params):Obj:={ cls:=.none,data:=Data.fields #[] }
def Ii (P:Params):Obj:=(pr0 "_law_draws" 39)
def xK (P:Params):Obj:=(fc #[.str "_law_draws" 673,.str "_law_draws" 674,cp 675,.int 179 0,.int 2 0,.int 0 0,.int 0 0,.int 3 0,.ref 376,.bool true,.int 181 0,.ref 377,.none,.none,.none,.ref 378,.int 676 0,.int 179 0,cp 677])
def xJ (P:Params):Obj:=⟨.type "function",none,.func (PySem.W.fnOf "_law_draws" "_law_draws" (aq (top0 39)) (ao (top0 39)) (ak (top0 39)) .none .none .none (.str "law_sluice_k55_moved_on_a_roll" 647) none (.ref 379) .none),#[]⟩
def xH (P:Params):Obj:=(tq #[])
def Ih (P:Params):Obj:={ cls:=.none,data:=Data.fields #[] }
def Ig (P:Params):Obj:=(pr0 "_law_river" 40)
def xG (P:Params):Obj:=(fc #[.str "_law_river" 679,.str "_law_river" 680,cp 681,.int 181 0,.int 1 0,.int 0 0,.int 0 0,.int 3 0,.ref 381,.bool true,.int 181 0,.ref 382,.none,.none,.none,.ref 383,.int 682 0,.int 181 0,cp 683])
def xu (P:Params):Obj:=⟨.type "function",none,.func (PySem.W.fnOf "_law_river" "_law_river" (aq (top0 40)) (ao (top0 40)) (ak (top0 40)) .none .none .none (.str "law_sluice_k55_moved_on_a_roll" 647) none (.ref 384) .none),#[]⟩
def xr (P:Params):Obj:=(tq #[])
def Ie (P:Params):Obj:={ cls:=.none,data:=Data.fields #[] }
def xq (P:Params):Obj:=(tq #[.str "below" 688,.str "reach" 689,.str "found" 690])
def xg (P:Params):Obj:=(tq #[])
def Ib (P:Params):Obj:=(pr0 "_law_way" 41)
def w5 (P:Params):Obj:=(fc #[.str "_law_way" 685,.str "_law_way" 686,cp 687,.int 190 0,.int 2 0,.int 0 0,.int 0 0,.int 3 0,.ref 386,.bool true,.int 181 0,.ref 387,.none,.ref 388,.ref 389,.ref 390,.int 691 0,.int 190 0,cp 692])
def wZ (P:Params):Obj:=⟨.type "function",none,.func (PySem.W.fnOf "_law_way" "_law_way" (aq (top0 41)) (ao (top0 41)) (ak (top0 41)) .none .none .none (.str "law_sluice_k55_moved_on_a_roll" 647) none (.ref 391) .none),#[]⟩
def wY (P:Params):Obj:=(tq #[])
def Ia (P:Params):Obj:={ cls:=.none,data:=Data.fields #[] }
def HY (P:Params):Obj:=(pr0 "_law_alike_lines" 42)
def wX (P:Params):Obj:=(fc #[.str "_law_alike_lines" 694,.str "_law_alike_lines" 695,cp 696,.int 195 0,.int 2 0,.int 0 0,.int 0 0,.int 3 0,.ref 393,.bool true,.int 181 0,.ref 394,.none,.none,.none,.ref 395,.int 697 0,.int 195 0,cp 698])
def wW (P:Params):Obj:=⟨.type "function",none,.func (PySem.W.fnOf "_law_alike_lines" "_law_alike_lines" (aq (top0 42)) (ao (top0 42)) (ak (top0 42)) .none .none .none (.str "law_sluice_k55_moved_on_a_roll" 647) none (.ref 396) .none),#[]⟩
def wV (P:Params):Obj:=(tq #[])
def HX (P:Params):Obj:={ cls:=.none,data:=Data.fields #[] }
def wU (P:Params):Obj:=(tq #[.str "one" 703,.str "number" 704,.str "name" 705,.str "start" 706,.str "caught" 707,.str "told" 708,.str "e" 709])
def wR (P:Params):Obj:=(tq #[])
def HW (P:Params):Obj:=(pr0 "_law_tried" 43)
def wQ (P:Params):Obj:=(fc #[.str "_law_tried" 700,.str "_law_tried" 701,cp 702,.int 204 0,.int 4 0,.int 0 0,.int 0 0,.int 3 0,.ref 398,.bool true,.int 181 0,.ref 399,.none,.ref 400,.ref 401,.ref 402,.int 710 0,.int 204 0,cp 711])
def wO (P:Params):Obj:=⟨.type "function",none,.func (PySem.W.fnOf "_law_tried" "_law_tried" (aq (top0 43)) (ao (top0 43)) (ak (top0 43)) .none .none .none (.str "law_sluice_k55_moved_on_a_roll" 647) none (.ref 403) .none),#[]⟩
def wN (P:Params):Obj:=(tq #[])
def HS (P:Params):Obj:={ cls:=.none,data:=Data.fields #[] }
def wM (P:Params):Obj:=(tq #[.str "one" 716,.str "xs" 717,.str "below" 718,.str "lines" 719,.str "owners" 720,.str "day" 721,.str "start" 722,.str "most" 723,.str "far" 724,.str "back" 725,.str "name" 726])
def wL (P:Params):Obj:=(tq #[])
def HN (P:Params):Obj:=(pr0 "_law_filed" 44)
def wK (P:Params):Obj:=(fc #[.str "_law_filed" 713,.str "_law_filed" 714,cp 715,.int 216 0,.int 6 0,.int 0 0,.int 0 0,.int 3 0,.ref 405,.bool true,.int 181 0,.ref 406,.none,.ref 407,.ref 408,.ref 409,.int 727 0,.int 216 0,cp 728])
def wJ (P:Params):Obj:=⟨.type "function",none,.func (PySem.W.fnOf "_law_filed" "_law_filed" (aq (top0 44)) (ao (top0 44)) (ak (top0 44)) .none .none .none (.str "law_sluice_k55_moved_on_a_roll" 647) none (.ref 410) .none),#[]⟩
def wI (P:Params):Obj:=(tq #[])
def HJ (P:Params):Obj:={ cls:=.none,data:=Data.fields #[] }
def HF (P:Params):Obj:=(pr0 "_law_new_start" 45)
def wH (P:Params):Obj:=(fc #[.str "_law_new_start" 730,.str "_law_new_start" 731,cp 732,.int 227 0,.int 3 0,.int 0 0,.int 0 0,.int 3 0,.ref 412,.bool true,.int 181 0,.ref 413,.none,.none,.none,.ref 414,.int 733 0,.int 227 0,cp 734])
def wG (P:Params):Obj:=⟨.type "function",none,.func (PySem.W.fnOf "_law_new_start" "_law_new_start" (aq (top0 45)) (ao (top0 45)) (ak (top0 45)) .none .none .none (.str "law_sluice_k55_moved_on_a_roll" 647) none (.ref 415) .none),#[]⟩
def wF (P:Params):Obj:=(tq #[])
def HD (P:Params):Obj:={ cls:=.none,data:=Data.fields #[] }
def wD (P:Params):Obj:=(tq #[.str "below" 739,.str "line" 740,.str "start" 741])
def wC (P:Params):Obj:=(tq #[])
def HB (P:Params):Obj:=(pr0 "_law_is_let" 46)
def wB (P:Params):Obj:=(fc #[.str "_law_is_let" 736,.str "_law_is_let" 737,cp 738,.int 235 0,.int 3 0,.int 0 0,.int 0 0,.int 3 0,.ref 417,.bool true,.int 181 0,.ref 418,.none,.ref 419,.ref 420,.ref 421,.int 742 0,.int 235 0,cp 743])
def wA (P:Params):Obj:=⟨.type "function",none,.func (PySem.W.fnOf "_law_is_let" "_law_is_let" (aq (top0 46)) (ao (top0 46)) (ak (top0 46)) .none .none .none (.str "law_sluice_k55_moved_on_a_roll" 647) none (.ref 422) .none),#[]⟩
def wz (P:Params):Obj:=(tq #[])
def Hy (P:Params):Obj:={ cls:=.none,data:=Data.fields #[] }
def wu (P:Params):Obj:=(tq #[.str "script" 748,.str "below" 749,.str "one" 750,.str "lines" 751,.str "owners" 752,.str "day" 753,.str "held" 754,.str "cell" 755,.str "xs" 756,.str "number" 757,.str "line" 758,.str "start" 759,.str "due" 760])
def wk (P:Params):Obj:=(tq #[])
def Hx (P:Params):Obj:=(pr0 "law" 47)
def wj (P:Params):Obj:=(fc #[.str "law" 745,.str "law" 746,cp 747,.int 239 0,.int 1 0,.int 0 0,.int 0 0,.int 3 0,.ref 424,.bool true,.int 181 0,.ref 425,.none,.ref 426,.ref 427,.ref 428,.int 761 0,.int 239 0,cp 762])
def wg (P:Params):Obj:=⟨.type "function",none,.func (PySem.W.fnOf "law" "law" (aq (top0 47)) (ao (top0 47)) (ak (top0 47)) .none .none .none (.str "law_sluice_k55_moved_on_a_roll" 647) none (.ref 429) .none),#[]⟩
def H0:Params→Heap:=fun P=>{ objs:=⟨Qs P :: Qq P :: Pa P :: ho_4 P :: Qp P :: Qo P :: Qn P :: Qm P :: Ql P :: Mg P :: Ly P :: []⟩ }
def H1:Params→Heap:=fun P=>{ objs:=⟨Qs P :: Qq P :: Pa P :: Ld P :: Qp P :: Qo P :: Qn P :: Qm P :: Ql P :: Mg P :: Ly P :: Pr P :: Pq P :: Pn P :: Pk P :: Kr P :: Pj P :: Kg P :: Ka P :: Ph P :: JZ P :: JT P :: JM P :: Pg P :: JD P :: Jy P :: Pb P :: Jr P :: Jm P :: Ji P :: O9 P :: O8 P :: IV P :: Iu P :: Im P :: O7 P :: O6 P :: O4 P :: O1 P :: OJ P :: OD P :: Hw P :: Hv P :: Hu P :: Ht P :: Oz P :: Ox P :: Hs P :: Ov P :: Ou P :: Ot P :: Oq P :: Oo P :: Om P :: Hr P :: Hq P :: Ho P :: Ol P :: Oj P :: Hl P :: Oi P :: Oh P :: Og P :: Oe P :: Od P :: Oc P :: Hj P :: Hi P :: Hh P :: Ob P :: Oa P :: Hg P :: N8 P :: N7 P :: N6 P :: N5 P :: NZ P :: NT P :: Hf P :: G9 P :: G8 P :: NQ P :: NP P :: G7 P :: NK P :: Nz P :: Ny P :: Nx P :: Nv P :: Nu P :: G6 P :: G5 P :: G4 P :: Nt P :: Nr P :: G3 P :: Nq P :: Mf P :: Ma P :: LR P :: LQ P :: LK P :: Dy P :: Dw P :: Dv P :: LC P :: Lz P :: Du P :: Lx P :: Lw P :: Ls P :: Lr P :: Lq P :: Lp P :: Dt P :: Ds P :: Dr P :: Ln P :: Lk P :: Dq P :: Lj P :: Li P :: Lh P :: Lg P :: Lf P :: Le P :: Dp P :: Dn P :: Dl P :: Lb P :: La P :: Dk P :: K9 P :: K8 P :: K7 P :: K6 P :: K5 P :: K4 P :: Dj P :: Di P :: Dh P :: K3 P :: K1 P :: Dg P :: KZ P :: KY P :: KR P :: KQ P :: KN P :: KJ P :: Dd P :: Dc P :: CZ P :: KH P :: KD P :: CV P :: KC P :: CT P :: CQ P :: Kz P :: CP P :: CK P :: CJ P :: Ky P :: Kw P :: CG P :: Cz P :: Cy P :: Kv P :: Cw P :: Cv P :: Ku P :: Cu P :: Cr P :: Cq P :: Ks P :: Cp P :: Cm P :: Kq P :: Ck P :: Cj P :: Ci P :: Kp P :: Cg P :: Ce P :: Ko P :: Cd P :: Ca P :: BZ P :: Km P :: BX P :: BW P :: Kl P :: BR P :: BP P :: BL P :: Kh P :: BK P :: BJ P :: Ke P :: Bx P :: Bw P :: Bv P :: Kd P :: Bu P :: Bt P :: Kc P :: Bs P :: Br P :: Bq P :: J9 P :: Bp P :: Bo P :: J8 P :: Bm P :: Bl P :: J7 P :: J6 P :: J5 P :: J4 P :: J3 P :: J2 P :: J1 P :: Bk P :: J0 P :: Bj P :: Bh P :: JX P :: Bg P :: Bf P :: Bd P :: JW P :: Bb P :: Az P :: JV P :: Ay P :: Ax P :: Aw P :: JR P :: Av P :: Ar P :: JQ P :: Aq P :: Ao P :: Am P :: JN P :: Al P :: Ak P :: JL P :: Aj P :: Ai P :: Ah P :: JK P :: Ag P :: Af P :: JH P :: Ae P :: Ad P :: Ac P :: JG P :: Ab P :: Aa P :: JF P :: z9 P :: z8 P :: z7 P :: z6 P :: JC P :: zZ P :: zY P :: JB P :: zX P :: zW P :: zV P :: Jz P :: zU P :: zT P :: Jx P :: zR P :: zQ P :: zP P :: Jw P :: zO P :: zN P :: Jv P :: zM P :: zL P :: zK P :: Ju P :: zJ P :: zH P :: Jt P :: zG P :: zF P :: zE P :: Js P :: zB P :: zA P :: Jq P :: zy P :: zx P :: zu P :: Jp P :: zq P :: zp P :: Jo P :: zm P :: zj P :: zf P :: Jl P :: zc P :: za P :: Jk P :: yZ P :: yX P :: yW P :: Jj P :: yV P :: yU P :: Jh P :: yS P :: yR P :: yQ P :: Jg P :: Jf P :: yP P :: yO P :: yN P :: Je P :: yM P :: yL P :: Jd P :: yK P :: yJ P :: yI P :: Jc P :: yH P :: yG P :: Jb P :: yF P :: yE P :: yD P :: Ja P :: yC P :: yx P :: IW P :: yw P :: yu P :: yt P :: yr P :: yq P :: yp P :: yj P :: IK P :: Iz P :: yh P :: Iw P :: yg P :: yd P :: Ir P :: yc P :: xZ P :: xY P :: Ip P :: xX P :: xW P :: Io P :: xV P :: xU P :: xT P :: Il P :: xR P :: xQ P :: Ik P :: xP P :: xO P :: xM P :: Ij P :: Ii P :: xK P :: xJ P :: xH P :: Ih P :: Ig P :: xG P :: xu P :: xr P :: Ie P :: xq P :: xg P :: Ib P :: w5 P :: wZ P :: wY P :: Ia P :: HY P :: wX P :: wW P :: wV P :: HX P :: wU P :: wR P :: HW P :: wQ P :: wO P :: wN P :: HS P :: wM P :: wL P :: HN P :: wK P :: wJ P :: wI P :: HJ P :: HF P :: wH P :: wG P :: wF P :: HD P :: wD P :: wC P :: HB P :: wB P :: wA P :: wz P :: Hy P :: wu P :: wk P :: Hx P :: wj P :: wg P :: []⟩ }
def Kf:Params→PySem.W.Frag:=fun P=>(nat_lit 2,Pa P) ::
 (nat_lit 3,Ld P) ::
 (nat_lit 15,Kr P) ::
 (nat_lit 17,Kg P) ::
 (nat_lit 18,Ka P) ::
 (nat_lit 20,JZ P) ::
 (nat_lit 21,JT P) ::
 (nat_lit 22,JM P) ::
 (nat_lit 24,JD P) ::
 (nat_lit 25,Jy P) ::
 (nat_lit 27,Jr P) ::
 (nat_lit 28,Jm P) ::
 (nat_lit 29,Ji P) ::
 (nat_lit 32,IV P) ::
 (nat_lit 33,Iu P) ::
 (nat_lit 34,Im P) ::
 (nat_lit 41,Hw P) ::
 (nat_lit 42,Hv P) ::
 (nat_lit 43,Hu P) ::
 (nat_lit 44,Ht P) ::
 (nat_lit 47,Hs P) ::
 (nat_lit 54,Hr P) ::
 (nat_lit 55,Hq P) ::
 (nat_lit 56,Ho P) ::
 (nat_lit 59,Hl P) ::
 (nat_lit 66,Hj P) ::
 (nat_lit 67,Hi P) ::
 (nat_lit 68,Hh P) ::
 (nat_lit 71,Hg P) ::
 (nat_lit 78,Hf P) ::
 (nat_lit 79,G9 P) ::
 (nat_lit 80,G8 P) ::
 (nat_lit 83,G7 P) ::
 (nat_lit 90,G6 P) ::
 (nat_lit 91,G5 P) ::
 (nat_lit 92,G4 P) ::
 (nat_lit 95,G3 P) ::
 (nat_lit 102,Dy P) ::
 (nat_lit 103,Dw P) ::
 (nat_lit 104,Dv P) ::
 (nat_lit 107,Du P) ::
 (nat_lit 114,Dt P) ::
 (nat_lit 115,Ds P) ::
 (nat_lit 116,Dr P) ::
 (nat_lit 119,Dq P) ::
 (nat_lit 126,Dp P) ::
 (nat_lit 127,Dn P) ::
 (nat_lit 128,Dl P) ::
 (nat_lit 131,Dk P) ::
 (nat_lit 138,Dj P) ::
 (nat_lit 139,Di P) ::
 (nat_lit 140,Dh P) ::
 (nat_lit 143,Dg P) ::
 (nat_lit 150,Dd P) ::
 (nat_lit 151,Dc P) ::
 (nat_lit 152,CZ P) ::
 (nat_lit 155,CV P) ::
 (nat_lit 157,CT P) ::
 (nat_lit 158,CQ P) ::
 (nat_lit 160,CP P) ::
 (nat_lit 161,CK P) ::
 (nat_lit 162,CJ P) ::
 (nat_lit 165,CG P) ::
 (nat_lit 166,Cz P) ::
 (nat_lit 167,Cy P) ::
 (nat_lit 169,Cw P) ::
 (nat_lit 170,Cv P) ::
 (nat_lit 172,Cu P) ::
 (nat_lit 173,Cr P) ::
 (nat_lit 174,Cq P) ::
 (nat_lit 176,Cp P) ::
 (nat_lit 177,Cm P) ::
 (nat_lit 179,Ck P) ::
 (nat_lit 180,Cj P) ::
 (nat_lit 181,Ci P) ::
 (nat_lit 183,Cg P) ::
 (nat_lit 184,Ce P) ::
 (nat_lit 186,Cd P) ::
 (nat_lit 187,Ca P) ::
 (nat_lit 188,BZ P) ::
 (nat_lit 190,BX P) ::
 (nat_lit 191,BW P) ::
 (nat_lit 193,BR P) ::
 (nat_lit 194,BP P) ::
 (nat_lit 195,BL P) ::
 (nat_lit 197,BK P) ::
 (nat_lit 198,BJ P) ::
 (nat_lit 200,Bx P) ::
 (nat_lit 201,Bw P) ::
 (nat_lit 202,Bv P) ::
 (nat_lit 204,Bu P) ::
 (nat_lit 205,Bt P) ::
 (nat_lit 207,Bs P) ::
 (nat_lit 208,Br P) ::
 (nat_lit 209,Bq P) ::
 (nat_lit 211,Bp P) ::
 (nat_lit 212,Bo P) ::
 (nat_lit 214,Bm P) ::
 (nat_lit 215,Bl P) ::
 (nat_lit 223,Bk P) ::
 (nat_lit 225,Bj P) ::
 (nat_lit 226,Bh P) ::
 (nat_lit 228,Bg P) ::
 (nat_lit 229,Bf P) ::
 (nat_lit 230,Bd P) ::
 (nat_lit 232,Bb P) ::
 (nat_lit 233,Az P) ::
 (nat_lit 235,Ay P) ::
 (nat_lit 236,Ax P) ::
 (nat_lit 237,Aw P) ::
 (nat_lit 239,Av P) ::
 (nat_lit 240,Ar P) ::
 (nat_lit 242,Aq P) ::
 (nat_lit 243,Ao P) ::
 (nat_lit 244,Am P) ::
 (nat_lit 246,Al P) ::
 (nat_lit 247,Ak P) ::
 (nat_lit 249,Aj P) ::
 (nat_lit 250,Ai P) ::
 (nat_lit 251,Ah P) ::
 (nat_lit 253,Ag P) ::
 (nat_lit 254,Af P) ::
 (nat_lit 256,Ae P) ::
 (nat_lit 257,Ad P) ::
 (nat_lit 258,Ac P) ::
 (nat_lit 260,Ab P) ::
 (nat_lit 261,Aa P) ::
 (nat_lit 263,z9 P) ::
 (nat_lit 264,z8 P) ::
 (nat_lit 265,z7 P) ::
 (nat_lit 266,z6 P) ::
 (nat_lit 268,zZ P) ::
 (nat_lit 269,zY P) ::
 (nat_lit 271,zX P) ::
 (nat_lit 272,zW P) ::
 (nat_lit 273,zV P) ::
 (nat_lit 275,zU P) ::
 (nat_lit 276,zT P) ::
 (nat_lit 278,zR P) ::
 (nat_lit 279,zQ P) ::
 (nat_lit 280,zP P) ::
 (nat_lit 282,zO P) ::
 (nat_lit 283,zN P) ::
 (nat_lit 285,zM P) ::
 (nat_lit 286,zL P) ::
 (nat_lit 287,zK P) ::
 (nat_lit 289,zJ P) ::
 (nat_lit 290,zH P) ::
 (nat_lit 292,zG P) ::
 (nat_lit 293,zF P) ::
 (nat_lit 294,zE P) ::
 (nat_lit 296,zB P) ::
 (nat_lit 297,zA P) ::
 (nat_lit 299,zy P) ::
 (nat_lit 300,zx P) ::
 (nat_lit 301,zu P) ::
 (nat_lit 303,zq P) ::
 (nat_lit 304,zp P) ::
 (nat_lit 306,zm P) ::
 (nat_lit 307,zj P) ::
 (nat_lit 308,zf P) ::
 (nat_lit 310,zc P) ::
 (nat_lit 311,za P) ::
 (nat_lit 313,yZ P) ::
 (nat_lit 314,yX P) ::
 (nat_lit 315,yW P) ::
 (nat_lit 317,yV P) ::
 (nat_lit 318,yU P) ::
 (nat_lit 320,yS P) ::
 (nat_lit 321,yR P) ::
 (nat_lit 322,yQ P) ::
 (nat_lit 325,yP P) ::
 (nat_lit 326,yO P) ::
 (nat_lit 327,yN P) ::
 (nat_lit 329,yM P) ::
 (nat_lit 330,yL P) ::
 (nat_lit 332,yK P) ::
 (nat_lit 333,yJ P) ::
 (nat_lit 334,yI P) ::
 (nat_lit 336,yH P) ::
 (nat_lit 337,yG P) ::
 (nat_lit 339,yF P) ::
 (nat_lit 340,yE P) ::
 (nat_lit 341,yD P) ::
 (nat_lit 343,yC P) ::
 (nat_lit 344,yx P) ::
 (nat_lit 346,yw P) ::
 (nat_lit 347,yu P) ::
 (nat_lit 348,yt P) ::
 (nat_lit 349,yr P) ::
 (nat_lit 350,yq P) ::
 (nat_lit 351,yp P) ::
 (nat_lit 352,yj P) ::
 (nat_lit 355,yh P) ::
 (nat_lit 357,yg P) ::
 (nat_lit 358,yd P) ::
 (nat_lit 360,yc P) ::
 (nat_lit 361,xZ P) ::
 (nat_lit 362,xY P) ::
 (nat_lit 364,xX P) ::
 (nat_lit 365,xW P) ::
 (nat_lit 367,xV P) ::
 (nat_lit 368,xU P) ::
 (nat_lit 369,xT P) ::
 (nat_lit 371,xR P) ::
 (nat_lit 372,xQ P) ::
 (nat_lit 374,xP P) ::
 (nat_lit 375,xO P) ::
 (nat_lit 376,xM P) ::
 (nat_lit 379,xK P) ::
 (nat_lit 380,xJ P) ::
 (nat_lit 381,xH P) ::
 (nat_lit 384,xG P) ::
 (nat_lit 385,xu P) ::
 (nat_lit 386,xr P) ::
 (nat_lit 388,xq P) ::
 (nat_lit 389,xg P) ::
 (nat_lit 391,w5 P) ::
 (nat_lit 392,wZ P) ::
 (nat_lit 393,wY P) ::
 (nat_lit 396,wX P) ::
 (nat_lit 397,wW P) ::
 (nat_lit 398,wV P) ::
 (nat_lit 400,wU P) ::
 (nat_lit 401,wR P) ::
 (nat_lit 403,wQ P) ::
 (nat_lit 404,wO P) ::
 (nat_lit 405,wN P) ::
 (nat_lit 407,wM P) ::
 (nat_lit 408,wL P) ::
 (nat_lit 410,wK P) ::
 (nat_lit 411,wJ P) ::
 (nat_lit 412,wI P) ::
 (nat_lit 415,wH P) ::
 (nat_lit 416,wG P) ::
 (nat_lit 417,wF P) ::
 (nat_lit 419,wD P) ::
 (nat_lit 420,wC P) ::
 (nat_lit 422,wB P) ::
 (nat_lit 423,wA P) ::
 (nat_lit 424,wz P) ::
 (nat_lit 426,wu P) ::
 (nat_lit 427,wk P) ::
 (nat_lit 429,wj P) ::
 (nat_lit 430,wg P) :: []
def asK:List Addr:=[2,3,15,17,18,20,21,22,24,25,27,28,29,32,33,34,41,42,43,44,47,54,55,56,59,66,67,68,71,78,79,80,83,90,91,92,95,102,103,104,107,114,115,116,119,126,127,128,131,138,139,140,143,150,151,152,155,157,158,160,161,162,165,166,167,169,170,172,173,174,176,177,179,180,181,183,184,186,187,188,190,191,193,194,195,197,198,200,201,202,204,205,207,208,209,211,212,214,215,223,225,226,228,229,230,232,233,235,236,237,239,240,242,243,244,246,247,249,250,251,253,254,256,257,258,260,261,263,264,265,266,268,269,271,272,273,275,276,278,279,280,282,283,285,286,287,289,290,292,293,294,296,297,299,300,301,303,304,306,307,308,310,311,313,314,315,317,318,320,321,322,325,326,327,329,330,332,333,334,336,337,339,340,341,343,344,346,347,348,349,350,351,352,355,357,358,360,361,362,364,365,367,368,369,371,372,374,375,376,379,380,381,384,385,386,388,389,391,392,393,396,397,398,400,401,403,404,405,407,408,410,411,412,415,416,417,419,420,422,423,424,426,427,429,430]
theorem hkE:∀ P,asK=(Kf P).map (·.1):=fun _=>by kernel_rfl
def qv:Program:={ PySem.Challenge.pw_sluice_k55_moved_on_a_roll with main:={ PySem.Challenge.pw_sluice_k55_moved_on_a_roll.main with body:=[top0 47] } }
def p8:List Str:=("_wall":Str) :: ("MOST_WATER":Str) :: ("LONGEST_NAME":Str) :: ("LETTERS":Str) :: ("is_water":Str) :: ("is_name":Str) :: ("SluiceError":Str) :: ("NoRiver":Str) :: ("NoReach":Str) :: ("NoLicence":Str) :: ("NoNumber":Str) :: ("NoHolder":Str) :: ("NotYours":Str) :: ("NotAlone":Str) :: ("TooMuch":Str) :: ("Full":Str) :: ("MOST_REACHES":Str) :: ("MOUTH":Str) :: ("comes_to_mouth":Str) :: ("is_river":Str) :: ("way_of":Str) :: ("LAST_DAY":Str) :: ("is_licence":Str) :: ("day_filed":Str) :: ("most_of":Str) :: ("with_start":Str) :: ("with_most":Str) :: ("MOST_LICENCES":Str) :: ("look_at_name":Str) :: ("Roll":Str) :: ("_law_cell_at":Str) :: ("_law_whole":Str) :: ("_law_draw":Str) :: ("_law_draws":Str) :: ("_law_river":Str) :: ("_law_way":Str) :: ("_law_alike_lines":Str) :: ("_law_tried":Str) :: ("_law_filed":Str) :: ("_law_new_start":Str) :: ("_law_is_let":Str) :: []
end
theorem hp1:∀ w:World,(PySem.W.fencedOpening PySem.treeTable PySem.Challenge.rw_sluice_k55_moved_on_a_roll.row.toRowW.prog w 7584).map (fun s=>(s.heap,s.gens,s.drawn,s.toks))=some (H0 w.params,#[],{},181):=by
  intro w;kernel_rfl
theorem hp2:∀ w:World,((H0 w.params).isNs mainGlobals && (#[]:Array GenState).size == 0,(H0 w.params).objs.size,(H0 w.params).nsMap mainGlobals "__annotations__")=(true,11,some (Value.ref 6)):=by
  intro w;kernel_rfl
theorem hp3:∀ (w:World) (os:OsState),PySem.W.topRun PySem.treeTable PySem.Challenge.rw_sluice_k55_moved_on_a_roll.row.toRowW.prog w 11 (some (Value.ref 6)) 7584 ⟨H0 w.params,#[],{},181,os⟩ (PySem.W.topStub PySem.Challenge.rw_sluice_k55_moved_on_a_roll.row.toRowW.prog)=some ⟨H1 w.params,#[],{},764,os⟩:=by
  intro w os;kernel_rfl
theorem hp4:∀ w:World,(fun os=>((PySem.W.staticsOk (importedModules PySem.Challenge.rw_sluice_k55_moved_on_a_roll.row.toRowW.prog.main.body) (H0 w.params) (H1 w.params) && PySem.W.namesBound PySem.Challenge.rw_sluice_k55_moved_on_a_roll.row.toRowW.prog (H1 w.params) && PySem.W.gensDone ⟨H1 w.params,#[],{},764,os⟩ && PySem.W.laidKept (H0 w.params) (H1 w.params)),PySem.W.openSeen qv p8 (importedModules PySem.Challenge.rw_sluice_k55_moved_on_a_roll.row.toRowW.prog.main.body) (fun s=>PySem.W.xlAt My.qv [] s && PySem.W.recOk (PySem.W.RowW.records PySem.Challenge.rw_sluice_k55_moved_on_a_roll.row.toRowW) s) true ⟨H1 w.params,#[],{},764,os⟩,(PySem.W.Hook.obs (PySem.W.kHook My.Kf My.asK My.hkE)) ⟨H1 w.params,#[],{},764,os⟩))=fun _=>(true,PySem.W.openGood qv p8,(PySem.W.Hook.val (PySem.W.kHook My.Kf My.asK My.hkE)) w):=by
  intro w;kernel_rfl
theorem hlE:PySem.W.LeftO PySem.Challenge.rw_sluice_k55_moved_on_a_roll.row.toRowW.prog qv My.p8 (fun s=>PySem.W.xlAt My.qv [] s && PySem.W.recOk (PySem.W.RowW.records PySem.Challenge.rw_sluice_k55_moved_on_a_roll.row.toRowW) s) (PySem.W.Hook.obs (PySem.W.kHook My.Kf My.asK My.hkE)) (PySem.W.Hook.val (PySem.W.kHook My.Kf My.asK My.hkE)) 7584:=PySem.W.LeftO.of_pieces hp1 hp2 hp3 (by decide) hp4
end My
namespace L2
open PySem PySem.Spec PyProof.Rows
abbrev Key:=Sum Int Str
def GQ:Key→Value→Bool
  | .inl k,v=>Value.isInt k v
  | .inr x,v=>Value.isStrOf x v
def keyH (w:World):Key→Int
  | .inl k=>hashInt k
  | .inr x=>hashStr w x
theorem cM:∀ {k:Key} {v:Value},GQ k v=true→(∃ i t,k=Sum.inl i∧v=Value.int i t)∨(∃ x t,k=Sum.inr x∧v=Value.str x t)
  | .inl i,v,h=>by
    obtain ⟨t,e⟩:=Value.isInt_shape (k:=i) (v:=v) h
    exact .inl ⟨i,t,rfl,e⟩
  | .inr x,v,h=>by
    obtain ⟨t,e⟩:=Value.isStrOf_shape (x:=x) (v:=v) h
    exact .inr ⟨x,t,rfl,e⟩
theorem GP (a b:Int):decide ((Sum.inl a:Key)=Sum.inl b)=(a == b):=by
  by_cases e:a=b
  · subst e;simp
  · have h:¬ (Sum.inl a:Key)=Sum.inl b:=fun q=>e (Sum.inl.inj q)
    rw [decide_eq_false h]
    exact (beq_eq_false_iff_ne.mpr e).symm
theorem GF (a b:Str):decide ((Sum.inr a:Key)=Sum.inr b)=decide (a=b):=by
  by_cases e:a=b
  · subst e;simp
  · have h:¬ (Sum.inr a:Key)=Sum.inr b:=fun q=>e (Sum.inr.inj q)
    rw [decide_eq_false h,decide_eq_false e]
theorem GK (a:Int) (b:Str):decide ((Sum.inl a:Key)=Sum.inr b)=false:=decide_eq_false (fun q=>nomatch q)
theorem GJ (a:Str) (b:Int):decide ((Sum.inr a:Key)=Sum.inl b)=false:=decide_eq_false (fun q=>nomatch q)
def sW (prog:Program) (w:World):PySem.KeyKind prog w Key where
  is:=GQ
  hash:=keyH w
  inj:=fun v a b ha hb=>by
    rcases cM ha with ⟨i,t,rfl,rfl⟩ | ⟨x,t,rfl,rfl⟩
    · rcases cM hb with ⟨j,u,rfl,e⟩ | ⟨y,u,rfl,e⟩
      · injection e with e1 _;rw [e1]
      · exact nomatch e
    · rcases cM hb with ⟨j,u,rfl,e⟩ | ⟨y,u,rfl,e⟩
      · exact nomatch e
      · injection e with e1 _;rw [e1]
  byValue:=fun k v h=>by
    rcases cM h with ⟨i,t,rfl,rfl⟩ | ⟨x,t,rfl,rfl⟩ <;> rfl
  pyHash:=fun hv h=>by
    rcases cM hv with ⟨i,t,rfl,rfl⟩ | ⟨x,t,rfl,rfl⟩
    · exact wpAny_pyHash_int h
    · exact wpAny_pyHash_str h
  eqBool:=fun hu hv h=>by
    rcases cM hu with ⟨i,t,rfl,rfl⟩ | ⟨x,t,rfl,rfl⟩
    · rcases cM hv with ⟨j,u,rfl,rfl⟩ | ⟨y,u,rfl,rfl⟩
      · rw [GP] at h;exact wpAny_eqBool_int h
      · rw [GK] at h;exact SeqAt.EqAt.int_str i t y u _ _ _ _ h
    · rcases cM hv with ⟨j,u,rfl,rfl⟩ | ⟨y,u,rfl,rfl⟩
      · rw [GJ] at h;exact SeqAt.EqAt.str_int x t j u _ _ _ _ h
      · rw [GF] at h;exact wpAny_eqBool_str h
  «strs»:=fun k x t v h=>by
    rcases cM h with ⟨i,u,rfl,e⟩ | ⟨y,u,rfl,e⟩
    · exact nomatch e
    · injection e with e1 _
      subst e1
      cases v <;> rfl
end L2
namespace L2
open PySem PySem.Spec PyProof.Rows
inductive V where
  | non | bl (b:Bool) | int (i:Int) | str (x:Str) | byt (b:Array UInt8) | flt (b:UInt64) | ref (a:Addr) | ty (n:String)
  deriving DecidableEq
def RelV:V→Value→Prop
  | .non,u=>u=Value.none
  | .bl b,u=>u=Value.bool b
  | .int i,u=>∃ t,u=Value.int i t
  | .str x,u=>∃ t,u=Value.str x t
  | .byt b,u=>∃ t,u=Value.bytes b t
  | .flt b,u=>∃ t,u=Value.float b t
  | .ref a,u=>u=Value.ref a
  | .ty n,u=>u=Value.type n
abbrev Vals:List V→List Value→Prop:=Paired RelV
theorem Vals.length {xs:List V} {us:List Value} (r:Vals xs us):xs.length=us.length:=Paired.length r
theorem Vals.get:∀ {xs:List V} {us:List Value} {i:Nat} {x:V},Vals xs us→xs[i]?=some x→∃ u,us[i]?=some u∧RelV x u
  | _,_,_,_,.nil,e=>by simp at e
  | _,_,0,_,.cons r _,e=>by simp at e;subst e;exact ⟨_,rfl,r⟩
  | _,_,i + 1,x,.cons _ t,e=>by
    obtain ⟨u,h1,h2⟩:=Vals.get (i:=i) (x:=x) t (by simpa using e)
    exact ⟨u,by simpa using h1,h2⟩
theorem Vals.set {x:V} {u:Value} (r:RelV x u):∀ {xs:List V} {us:List Value} (i:Nat),Vals xs us→Vals (xs.set i x) (us.set i u)
  | _,_,_,.nil=>.nil
  | _,_,0,.cons _ t=>.cons r t
  | _,_,i + 1,.cons q t=>.cons q (Vals.set r i t)
theorem Vals.append:∀ {xs ys:List V} {us ws:List Value},Vals xs us→Vals ys ws→Vals (xs++ys) (us++ws)
  | _,_,_,_,.nil,s=>s
  | _,_,_,_,.cons r t,s=>.cons r (Vals.append t s)
theorem Vals.take:∀ {xs:List V} {us:List Value} (n:Nat),Vals xs us→Vals (xs.take n) (us.take n)
  | _,_,0,_=>.nil
  | _,_,_ + 1,.nil=>.nil
  | _,_,n + 1,.cons r t=>.cons r (Vals.take n t)
theorem Vals.drop:∀ {xs:List V} {us:List Value} (n:Nat),Vals xs us→Vals (xs.drop n) (us.drop n)
  | _,_,0,r=>r
  | _,_,_ + 1,.nil=>.nil
  | _,_,n + 1,.cons _ t=>Vals.drop n t
def uw:Option V→Option Value→Prop
  | some v,some u=>RelV v u
  | none,none=>True
  | _,_=>False
def KV {κ:Type}:List (κ × V)→List (κ × Value)→Prop:=Paired fun (p:κ × V) (q:κ × Value)=>p.1=q.1∧RelV p.2 q.2
def kV:Key→V
  | .inl i=>.int i
  | .inr x=>.str x
inductive HO where
  /-- a list -/
  | lst (xs:List V)
  /-- a tuple (never changes) -/
  | tup (xs:List V)
  /-- a dict whose keys are ints and texts; one whose keys are tuples of ints and texts (the empty one is both) -/
  | dK (kvs:List (Key × V)) | dT (kvs:List (List Key × V))
  /-- a set of ints: its members, its size -/
  | set (S:Int→Bool) (n:Nat)
  /-- an instance of the class at C, its dict at dx, its attributes -/
  | ins (C dx:Addr) (fs:List (Str × V))
  /-- the dict of the instance at x -/
  | own (x:Addr)
  /-- the dict of an exception -/
  | xd (fs:List (Str × V))
  /-- a bound method, f of x -/
  | met (f x:Addr)
  /-- a range object lo, lo + 1, .. below hi -/
  | rng (lo hi:Int)
  /-- a thing that is known to the object (the script; a dict while a loop walks it): read, never written while it is so -/
  | frz (o:Obj) (u:HO)
  /-- a code object's table -/
  | tbl (ps:Array Value)
  /-- any other thing, by what is true of its one object (a def of one's own: SetO a S n := HO.ext fun h => ..) -/
  | ext (φ:Heap→Prop)
abbrev Hp:=Addr→Option HO
def upd (H:Hp) (a:Addr) (o:HO):Hp:=fun b=>if b=a then some o else H b
theorem bI {H:Hp} {a:Addr} {o:HO}:upd H a o a=some o:=by unfold upd;rw [if_pos rfl]
theorem aY {H:Hp} {a b:Addr} {o:HO} (h:b≠a):upd H a o b=H b:=by unfold upd;rw [if_neg h]
theorem cB {H:Hp} {a b:Addr} {o:HO} (h:H a=some o) (h':H b=none):a≠b:=by
  intro e;subst e;rw [h] at h';cases h'
section
variable (P:Program) (w:World)
def fK (H:Hp) (h:Heap) (a:Addr):HO→Prop
  | .lst xs=>xs.length≤sizeLine∧∃ (its:List Value) (n:Nat),Vals xs its∧h.get? a=some { cls:=.type "list",data:=.seq its.toArray n }
  | .tup xs=>xs.length≤sizeLine∧∃ its:List Value,Vals xs its∧IsTup h a its.toArray
  | .dK kvs=>kvs.length≤sizeLine∧(a == sysModules)=false∧∃ vs,KV kvs vs∧h.DictOf (sW P w) a vs
  | .dT kvs=>kvs.length≤sizeLine∧(a == sysModules)=false∧∃ xs:List (List Key × Addr × Value),
      Paired (fun (p:List Key × V) (q:List Key × Addr × Value)=>p.1=q.1∧H q.2.1=some (.tup (p.1.map kV))∧RelV p.2 q.2.2) kvs xs ∧
      ∃ o es ep,h.get? a=some o∧o.ExactDict∧o.data=.dict es ep∧es.toList=xs.map (entryOfKey (tupleKind (sW P w)))∧(xs.map (·.1)).Nodup
  | .set S n=>h.SetOf (intKind P w) a S n
  | .ins C dx fs=>H dx=some (.own a)∧fs.length≤1000∧dx≠a∧h.get? a=some (PySem.W.instObj C dx) ∧
      ∃ mA,h.Ns1 dx mA∧(∀ f,uw (fs.lookup f) (mA f))∧PySem.Within mA (fs.map (·.1))
  | .own _=>∃ o,h.get? a=some o
  | .xd fs=>∃ mA,h.Ns1 a mA∧∀ f,uw (fs.lookup f) (mA f)
  | .rng lo hi=>∃ t u v,h.get? a=some { cls:=.type "range",data:=.fields #[.int lo t,.int hi u,.int 1 v] }
  | .frz o u=>h.get? a=some o∧fK H h a u
  | .tbl ps=>h.get? a=some { cls:=.none,data:=.fields ps }
  | .met f x=>h.get? a=some (PySem.W.methodObj (.ref f) (.ref x))
  | .ext φ=>φ h∧(∃ o,h.get? a=some o)∧∀ h1 h2:Heap,φ h1→(∀ o,h1.get? a=some o→h2.get? a=some o)→φ h2
def HOk (H:Hp) (h:Heap):Prop:=∀ a o,H a=some o→fK P w H h a o
end
section
variable {P:Program} {w:World} {H H':Hp} {h h':Heap} {a:Addr} {o:HO}
theorem fK.lt (x:fK P w H h a o):a<h.objs.size:=by
  cases o with
  | lst xs=>obtain ⟨_,_,_,_,e⟩:=x;exact Heap.lt_size e
  | tup xs=>obtain ⟨_,_,_,p⟩:=x;exact p.lt
  | dK kvs=>obtain ⟨_,_,_,_,o,_,_,e,_⟩:=x;exact Heap.lt_size e
  | dT kvs=>obtain ⟨_,_,_,_,o,_,_,e,_⟩:=x;exact Heap.lt_size e
  | set S n=>obtain ⟨o,_,_,_,e,_⟩:=x;exact Heap.lt_size e
  | ins C dx fs=>obtain ⟨_,_,_,e,_⟩:=x;exact Heap.lt_size e
  | own y=>obtain ⟨_,e⟩:=x;exact Heap.lt_size e
  | xd fs=>obtain ⟨_,⟨_,_,_,e,_⟩,_⟩:=x;exact Heap.lt_size e
  | rng lo hi=>obtain ⟨_,_,_,e⟩:=x;exact Heap.lt_size e
  | frz ob u=>obtain ⟨e,_⟩:=x;exact Heap.lt_size e
  | tbl ps=>exact Heap.lt_size (show h.get? a=some _ from x)
  | met f y=>exact Heap.lt_size (show h.get? a=some _ from x)
  | ext φ=>obtain ⟨_,⟨_,e⟩,_⟩:=x;exact Heap.lt_size e
theorem Paired.Qk {α β:Type} {F G:α→β→Prop}:∀ {l₁:List α} {l₂:List β},Paired F l₁ l₂→(∀ a b,F a b→G a b)→Paired G l₁ l₂
  | _,_,.nil,_=>.nil
  | _,_,.cons r t,f=>.cons (f _ _ r) (Paired.Qk t f)
theorem fK.stay (x:fK P w H h a o) (k:∀ b u,(b=a∨H b=some (.own a))→h.get? b=some u→h'.get? b=some u)
    (ho:∀ b,H b=some (.own a)→H' b=some (.own a)) (ht:∀ b xs,H b=some (.tup xs)→H' b=some (.tup xs)):fK P w H' h' a o:=by
  induction o with
  | lst xs=>obtain ⟨z,its,n,r,e⟩:=x;exact ⟨z,its,n,r,k _ _ (.inl rfl) e⟩
  | tup xs=>obtain ⟨z,its,r,ob,e,c⟩:=x;exact ⟨z,its,r,ob,k _ _ (.inl rfl) e,c⟩
  | dK kvs=>obtain ⟨z,y,vs,r,ob,es,ep,e,c⟩:=x;exact ⟨z,y,vs,r,ob,es,ep,k _ _ (.inl rfl) e,c⟩
  | dT kvs =>
    obtain ⟨z,y,xs,r,ob,es,ep,e,c⟩:=x
    exact ⟨z,y,xs,Paired.Qk r fun p q z=>⟨z.1,ht _ _ z.2.1,z.2.2⟩,ob,es,ep,k _ _ (.inl rfl) e,c⟩
  | set S n=>obtain ⟨ob,es,ep,t,e,c⟩:=x;exact ⟨ob,es,ep,t,k _ _ (.inl rfl) e,c⟩
  | ins C dx fs =>
    obtain ⟨d,z,ne,e,mA,⟨od,es,ep,e2,c⟩,r⟩:=x
    exact ⟨ho _ d,z,ne,k _ _ (.inl rfl) e,mA,⟨od,es,ep,k _ _ (.inr d) e2,c⟩,r⟩
  | own y=>obtain ⟨ob,e⟩:=x;exact ⟨ob,k _ _ (.inl rfl) e⟩
  | xd fs=>obtain ⟨mA,⟨od,es,ep,e,c⟩,r⟩:=x;exact ⟨mA,⟨od,es,ep,k _ _ (.inl rfl) e,c⟩,r⟩
  | rng lo hi=>obtain ⟨t,u,v,e⟩:=x;exact ⟨t,u,v,k _ _ (.inl rfl) e⟩
  | frz ob u ih=>obtain ⟨e,q⟩:=x;exact ⟨k _ _ (.inl rfl) e,ih q⟩
  | tbl ps =>
    have e:h.get? a=some { cls:=.none,data:=.fields ps }:=x
    show h'.get? a=some { cls:=.none,data:=.fields ps }
    exact k a _ (.inl rfl) e
  | met f y =>
    have e:h.get? a=some (PySem.W.methodObj (.ref f) (.ref y)):=x
    show h'.get? a=some (PySem.W.methodObj (.ref f) (.ref y))
    exact k a _ (.inl rfl) e
  | ext φ=>obtain ⟨p,⟨o,e⟩,st⟩:=x;exact ⟨st _ _ p fun o q=>k _ _ (.inl rfl) q,⟨o,k _ _ (.inl rfl) e⟩,st⟩
theorem HOk.lt (x:HOk P w H h) (e:H a=some o):a<h.objs.size:=(x a o e).lt
theorem HOk.fresh (x:HOk P w H h) (e:h.objs.size≤a):H a=none:=by
  cases q:H a with
  | none=>rfl
  | some u=>exact absurd (Nat.lt_of_lt_of_le (x.lt q) e) (Nat.lt_irrefl _)
theorem HOk.kept (x:HOk P w H h) (k:∀ b u,h.get? b=some u→h'.get? b=some u):HOk P w H h':=fun a o e =>
  (x a o e).stay (fun b u _ q=>k b u q) (fun _ q=>q) fun _ _ q=>q
theorem HOk.laid (x:HOk P w H h) (k:∀ b u,h.get? b=some u→h'.get? b=some u) (hp:h.objs.size≤a) (new:fK P w (upd H a o) h' a o):HOk P w (upd H a o) h':=fun b u e=>by
  have hn:=x.fresh hp
  by_cases hb:b=a
  · subst hb;rw [bI] at e;cases e;exact new
  · rw [aY hb] at e
    exact (x b u e).stay (fun c v _ q=>k c v q) (fun c q=>by rw [aY (cB q hn)];exact q) fun c xs q=>by rw [aY (cB q hn)];exact q
end
def Rd (H:Hp) (a:Addr) (u:HO):Prop:=H a=some u∨∃ o,H a=some (.frz o u)
theorem Rd.ok {P:Program} {w:World} {H:Hp} {h:Heap} {a:Addr} {u:HO} (r:Rd H a u) (x:HOk P w H h):fK P w H h a u:=by
  rcases r with r | ⟨o,r⟩
  · exact x a u r
  · obtain ⟨_,q⟩:=x a _ r
    exact q
def Mut:Option HO→Prop
  | some (.lst _)=>True
  | some (.dK _)=>True
  | some (.dT _)=>True
  | some (.set _ _)=>True
  | some (.ins _ _ _)=>True
  | some (.ext _)=>True
  | _=>False
section
variable {P:Program} {w:World} {H:Hp} {h h':Heap} {x e:Addr} {o':HO}
theorem HOk.write (ok:HOk P w H h) (mu:Mut (H x)) (he:e=x∨H e=some (.own x)) (k:∀ b u,b≠e→h.get? b=some u→h'.get? b=some u) (heo:∃ u,h'.get? e=some u)
    (new:fK P w (upd H x o') h' x o'):HOk P w (upd H x o') h':=fun b u q=>by
  have nown:∀ c y,H c=some (.own y)→c≠x:=fun c y r z=>by subst z;rw [r] at mu;exact mu
  have ntup:∀ c xs,H c=some (.tup xs)→c≠x:=fun c xs r z=>by subst z;rw [r] at mu;exact mu
  by_cases hb:b=x
  · subst hb;rw [bI] at q;cases q;exact new
  · rw [aY hb] at q
    by_cases hbe:b=e
    · have q':H b=some (.own x):=by
        rcases he with z | z
        · exact absurd (hbe.trans z) hb
        · rw [hbe];exact z
      rw [q] at q';cases q'
      obtain ⟨v,hv⟩:=heo
      exact ⟨v,by rw [hbe];exact hv⟩
    · refine (ok b u q).stay (fun c v hc r=>k c v ?_ r) (fun c r=>by rw [aY (nown c b r)];exact r) fun c xs r=>by rw [aY (ntup c xs r)];exact r
      rcases hc with rfl | hc
      · exact hbe
      · rintro rfl
        rcases he with z | z
        · exact nown c b hc z
        · rw [hc] at z;cases z;exact hb rfl
end
structure Un (fs ex:List Addr) (H H':Hp) (h h':Heap):Prop where
  keep:∀ b o,h.get? b=some o→H b=none→b ∉ fs→b ∉ ex→h'.get? b=some o
  slot:∀ b o,h.get? b=some o→H b=none→b∈fs→b ∉ ex→∃ sl,h'.get? b=some { o with slots:=sl }
  free:∀ b o,h.get? b=some o→H b=none→b ∉ ex→H' b=none
  there:∀ b o,h.get? b=some o→b ∉ ex→∃ o',h'.get? b=some o'
  tups:∀ b xs,H b=some (.tup xs)→H' b=some (.tup xs)
  frzs:∀ b o u,H b=some (.frz o u)→H' b=some (.frz o u)
  tbls:∀ b ps,H b=some (.tbl ps)→∃ more,H' b=some (.tbl (ps++more))
section
variable {fs fs' ex ex':List Addr} {H H1 H2:Hp} {h h1 h2 h':Heap} {a x e:Addr} {o:HO}
theorem Un.any (u:Un fs ex H H1 h h1) {b:Addr} {ob:Obj} (q:h.get? b=some ob) (n:H b=none) (hx:b ∉ ex):∃ sl,h1.get? b=some { ob with slots:=sl }:=by
  by_cases hb:b∈fs
  · exact u.slot b ob q n hb hx
  · exact ⟨ob.slots,u.keep b ob q n hb hx⟩
theorem Un.kept (k:∀ b u,h.get? b=some u→h'.get? b=some u):Un fs ex H H h h' :=
  ⟨fun b ob q _ _ _=>k b ob q,fun b ob q _ _ _=>⟨ob.slots,k b ob q⟩,fun _ _ _ n _=>n,fun b ob q _=>⟨ob,k b ob q⟩,fun _ _ q=>q,fun _ _ _ q=>q,fun _ ps q=>⟨#[],by rw [q];simp⟩⟩
theorem Un.refl:Un fs ex H H h h:=Un.kept fun _ _ q=>q
theorem Un.laid (k:∀ b u,h.get? b=some u→h'.get? b=some u) (hp:h.objs.size≤a) (hn:H a=none):Un fs ex H (upd H a o) h h' where
  keep:=fun b u q _ _ _=>k b u q
  slot:=fun b u q _ _ _=>⟨u.slots,k b u q⟩
  free:=fun b u q n _=>by rw [aY (Nat.ne_of_lt (Nat.lt_of_lt_of_le (Heap.lt_size q) hp))];exact n
  there:=fun b u q _=>⟨u,k b u q⟩
  tups:=fun b xs q=>by rw [aY (cB q hn)];exact q
  frzs:=fun b u xs q=>by rw [aY (cB q hn)];exact q
  tbls:=fun b ps q=>⟨#[],by rw [aY (cB q hn),q];simp⟩
theorem Un.write (mu:Mut (H x)) (he:e=x∨H e=some (.own x)) (k:∀ b u,b≠e→h.get? b=some u→h'.get? b=some u) (heo:∃ u,h'.get? e=some u):Un fs ex H (upd H x o) h h':=by
  have hx:∀ b,H b=none→b≠x:=fun b n z=>by subst z;rw [n] at mu;exact mu
  have hb:∀ b,H b=none→b≠e:=fun b n z=>by
    subst z
    rcases he with r | r
    · exact hx b n r
    · rw [n] at r;cases r
  have hm:∀ b u,H b=some u→¬ Mut (some u)→b≠x:=fun b u q nm z=>by subst z;rw [q] at mu;exact nm mu
  refine ⟨fun b u q n _ _=>k b u (hb b n) q,fun b u q n _ _=>⟨u.slots,k b u (hb b n) q⟩,fun b u q n _=>by rw [aY (hx b n)];exact n,fun b u q _=>?_,
    fun b xs q=>by rw [aY (hm b _ q fun z=>z)];exact q,fun b u xs q=>by rw [aY (hm b _ q fun z=>z)];exact q,fun b ps q=>⟨#[],by rw [aY (hm b _ q fun z=>z),q];simp⟩⟩
  by_cases hbe:b=e
  · subst hbe;exact heo
  · exact ⟨u,k b u hbe q⟩
end
def trk (h:Heap) (H:Hp):List Addr:=(List.range h.objs.size).filter fun a=>(H a).isSome
def vg (h:Heap) (H:Hp):Heap:=PySem.W.hideAll h (trk h H)
theorem tH (h:Heap) (H:Hp):(vg h H).objs.size=h.objs.size:=PySem.W.hideAll_size _ _
theorem vf {h:Heap} {H:Hp} {b:Addr} {o:Obj} (e:h.get? b=some o) (n:H b=none):(vg h H).get? b=some o :=
  PySem.W.hideAll_get _ e fun hm=>by
    have q:(H b).isSome=true:=(List.mem_filter.mp hm).2
    rw [n] at q;simp at q
theorem En {h:Heap} {H:Hp} {b:Addr} {o:Obj} (e:(vg h H).get? b=some o):h.get? b=some o∧H b=none:=by
  have e':h.get? b=some o:=PySem.W.of_hideAll (trk h H) e
  refine ⟨e',?_⟩
  cases q:H b with
  | none=>rfl
  | some x =>
    have hm:b∈trk h H:=List.mem_filter.mpr ⟨List.mem_range.mpr (Heap.lt_size e'),by simp [q]⟩
    have z:(vg h H).get? b=none:=PySem.W.hideAll_none (trk h H) hm
    rw [z] at e;cases e
end L2
namespace L2
open PySem PySem.Spec PyProof.Rows
structure Mod (K:PySem.W.Frag) (mg:Str→Option Value) (base:Heap):Prop where
  kin:K.In base
  glob:base.Ns mainGlobals mg
  blt:∃ mb,base.Ns builtinsNs mb∧∀ x:Str,x≠"__name__"→mb x=bootBuiltins x
  nolimit:base.NoLimit
structure Cx where
  prog:Program
  w:World
  K:PySem.W.Frag
  mg:Str→Option Value
  base:Heap
  A:Around
  N:List Str
  s₀:Shared
  H₀:Hp
  env:Env
  outer:List Env
  stack:List Env
  ex:List Addr
  fn:Str→Bool
  calm:Bool
  pn:List (Addr × Obj)
  xe:Value→Shared→Prop
def frs (l:List Env):List Addr:=l.filterMap (·.frame)
abbrev Cx.fs (X:Cx):List Addr:=frs X.outer
def Vis (sc:Scope) (x:Str):Prop:=sc.names.lookup x=some .local∨sc.names.lookup x=some .cell∨sc.names.lookup x=some .free
def Loc (sc:Scope) (x:Str):Prop:=sc.names.lookup x=some .local∨sc.names.lookup x=some .cell
def Look (env:Env) (h:Heap) (m:Str→Option Value) (x:Str) (u:Value):Prop :=
  (env.kindOf x=some .local∧m x=some u)∨((env.kindOf x=some .cell∨env.kindOf x=some .free)∧∃ c,env.cells.lookup x=some c∧h.IsCell c (some u))
structure Cx.Ok (X:Cx):Prop where
  mod:Mod X.K X.mg X.base
  kind:X.env.scope.kind=.function
  glob:X.env.globals=mainGlobals
  blt:X.env.builtins=builtinsNs
  above:X.s₀.heap.objs.size≤X.env.locals
  inj:∀ x y c,X.env.cells.lookup x=some c→X.env.cells.lookup y=some c→x=y
  has:∀ x,(X.env.kindOf x=some .cell∨X.env.kindOf x=some .free)→∃ c,X.env.cells.lookup x=some c
  cab:∀ x c,X.fn x=true→X.env.cells.lookup x=some c→X.s₀.heap.objs.size≤c
  hd:X.calm=true→X.A.handled=none
  frames:X.A.frames=some X.stack
  stk:X.stack=X.outer∨(X.stack=X.env :: X.outer∧X.env.frame=some X.env.locals)
  exf:∀ b∈X.ex,b≠X.env.locals∧∀ x c,X.env.cells.lookup x=some c→c≠b
  bs:∀ b o,X.base.get? b=some o→X.s₀.heap.get? b=some o∧X.H₀ b=none
  bsz:X.base.objs.size≤X.s₀.heap.objs.size
  noex:∀ b o,X.base.get? b=some o→b ∉ X.ex
  exfs:∀ b∈X.ex,b ∉ X.fs
  qg:X.s₀.heap.FunFrames X.base X.outer
  frf:∀ b∈X.fs,X.H₀ b=none
structure Inv (X:Cx) (pins:List (Addr × Obj)) (σ:List (Option V)) (H:Hp) (s:Shared):Prop where
  ok:X.Ok
  os:s.os=X.s₀.os
  bare:AllBare s.gens
  base:Un X.fs X.ex X.H₀ H X.s₀.heap s.heap
  loc:∃ m,s.heap.Ns X.env.locals m∧∀ (i:Nat) (x:Str) (v:V),X.N[i]?=some x→σ[i]?=some (some v)→Vis X.env.scope x→∃ u,RelV v u∧Look X.env s.heap m x u
  cell:∀ x c,X.env.cells.lookup x=some c→∃ v,s.heap.IsCell c v
  free:H X.env.locals=none
  freeC:∀ x c,X.env.cells.lookup x=some c→H c=none
  pin:∀ p∈X.pn++pins,s.heap.get? p.1=some p.2∧H p.1=none∧p.1≠X.env.locals∧p.1 ∉ X.fs∧∀ v,p.2.data≠.cell v
  hok:HOk X.prog X.w H s.heap
  len:σ.length=X.N.length
section
variable {X:Cx} {pins:List (Addr × Obj)} {σ:List (Option V)} {H H':Hp} {s:Shared} {h':Heap}
theorem Cx.Ok.nofr (ok:X.Ok) {b:Addr} {o:Obj} (e:X.base.get? b=some o):b ∉ X.fs:=fun hb=>by
  have:=(ok.qg.mem hb).1
  rw [e] at this;cases this
theorem Inv.bs (I:Inv X pins σ H s):∀ b o,X.base.get? b=some o→s.heap.get? b=some o∧H b=none:=fun b o e =>
  ⟨I.base.keep b o (I.ok.bs b o e).1 (I.ok.bs b o e).2 (I.ok.nofr e) (I.ok.noex b o e),I.base.free b o (I.ok.bs b o e).1 (I.ok.bs b o e).2 (I.ok.noex b o e)⟩
theorem Inv.bk (I:Inv X pins σ H s):∀ b o,X.base.get? b=some o→s.heap.get? b=some o:=fun b o e=>(I.bs b o e).1
theorem Inv.mod (I:Inv X pins σ H s):Mod X.K X.mg X.base:=I.ok.mod
theorem Inv.kIn (I:Inv X pins σ H s):X.K.In s.heap:=I.ok.mod.kin.keeps I.bk
theorem Inv.lt (I:Inv X pins σ H s):X.env.locals<s.heap.objs.size:=let ⟨_,hn,_⟩:=I.loc;hn.lt
theorem Inv.sz (I:Inv X pins σ H s):X.s₀.heap.objs.size≤s.heap.objs.size:=Nat.le_trans I.ok.above (Nat.le_of_lt I.lt)
theorem Inv.nofs (I:Inv X pins σ H s) {a:Addr} (h:s.heap.objs.size≤a):a ∉ X.fs:=fun hb=>by
  obtain ⟨_,o,ho,_⟩:=I.ok.qg.mem hb
  exact absurd (Nat.lt_of_lt_of_le (Heap.lt_size ho) (Nat.le_trans I.sz h)) (Nat.lt_irrefl _)
theorem Inv.cne (I:Inv X pins σ H s):∀ x c,X.env.cells.lookup x=some c→c≠X.env.locals:=fun x c e z=>by
  obtain ⟨v,o,ho,hd⟩:=I.cell x c e
  obtain ⟨m,⟨o',es,ep,ho',hd',_⟩,_⟩:=I.loc
  rw [z,ho'] at ho;cases ho;rw [hd'] at hd;cases hd
theorem Inv.qg (I:Inv X pins σ H s):s.heap.FunFrames X.base X.outer:=by
  have all:∀ (l:List Env),(∀ b∈frs l,b∈X.fs)→X.s₀.heap.FunFrames X.base l→s.heap.FunFrames X.base l:=by
    intro l
    induction l with
    | nil=>intro _ _;trivial
    | cons env r ih =>
      intro hs hl
      obtain ⟨hk,⟨L,o,hf,hn,ho,hd⟩,hr⟩:=hl
      have hL:L∈X.fs:=hs L (by unfold frs;rw [List.filterMap_cons,hf];exact List.mem_cons_self)
      obtain ⟨sl,e⟩:=I.base.slot L o ho (I.ok.frf L hL) hL fun z=>I.ok.exfs L z hL
      exact ⟨hk,⟨L,_,hf,hn,e,hd⟩,ih (fun b hb=>hs b (by unfold frs;rw [List.filterMap_cons,hf];exact List.mem_cons_of_mem _ hb)) hr⟩
  exact all X.outer (fun _ hb=>hb) I.ok.qg
theorem Inv.stack (I:Inv X pins σ H s):s.heap.FunFrames X.base X.stack:=by
  rcases I.ok.stk with e | ⟨e,hf⟩
  · rw [e];exact I.qg
  · rw [e]
    obtain ⟨m,hn,_⟩:=I.loc
    refine .cons (by rw [I.ok.kind];decide) hf hn ?_ I.qg
    exact Heap.get?_none_of_le (Nat.le_trans I.ok.bsz I.ok.above)
theorem Inv.qZ (I:Inv X pins σ H s):∀ b∈frs X.stack,b∈X.env.locals :: X.fs:=fun b hb=>by
  rcases I.ok.stk with e | ⟨e,hf⟩
  · rw [e] at hb;exact List.mem_cons_of_mem _ hb
  · rw [e] at hb
    unfold frs at hb
    rw [List.filterMap_cons,hf] at hb
    exact hb
theorem Inv.n6 (I:Inv X pins σ H s):∀ b∈frs X.stack,H b=none:=fun b hb=>by
  rcases List.mem_cons.mp (I.qZ b hb) with e | hb
  · rw [e];exact I.free
  · obtain ⟨_,o,ho,_⟩:=I.ok.qg.mem hb
    exact I.base.free b o ho (I.ok.frf b hb) fun z=>I.ok.exfs b z hb
theorem Inv.step {g':Array GenState} {t':Nat} {d':Drawn} {ch:List Addr} (I:Inv X pins σ H s)
    (hch:∀ b∈ch,(b∈X.ex∨X.s₀.heap.objs.size≤b)∧b≠X.env.locals∧(∀ x c,X.env.cells.lookup x=some c→c≠b)∧∀ p∈X.pn++pins,p.1≠b)
    (keep:∀ b o,b≠X.env.locals→b ∉ X.fs→b ∉ ch→s.heap.get? b=some o→H b=none→h'.get? b=some o)
    (slot:∀ b o,b≠X.env.locals→b∈X.fs→b ∉ ch→s.heap.get? b=some o→H b=none→∃ sl,h'.get? b=some { o with slots:=sl }) (free:∀ b o,b ∉ ch→s.heap.get? b=some o→H b=none→H' b=none)
    (there:∀ b o,b ∉ ch→s.heap.get? b=some o→∃ o',h'.get? b=some o')
    (tups:∀ b xs,H b=some (.tup xs)→H' b=some (.tup xs)) (frzs:∀ b o u,H b=some (.frz o u)→H' b=some (.frz o u)) (tbls:∀ b ps,H b=some (.tbl ps)→∃ more,H' b=some (.tbl (ps++more)))
    (ns:∀ m,s.heap.Ns X.env.locals m→h'.Ns X.env.locals m) (hok:HOk X.prog X.w H' h') (hg:AllBare g') :
    Inv X pins σ H' { s with heap:=h',gens:=g',drawn:=d',toks:=t' }:=by
  have neL:∀ b o,X.s₀.heap.get? b=some o→b≠X.env.locals:=fun b o e=>Nat.ne_of_lt (Nat.lt_of_lt_of_le (Heap.lt_size e) I.ok.above)
  have neC:∀ b o,X.s₀.heap.get? b=some o→b ∉ X.ex→b ∉ ch:=fun b o e hx hb=>by
    rcases (hch b hb).1 with z | z
    · exact hx z
    · exact absurd (Nat.lt_of_lt_of_le (Heap.lt_size e) z) (Nat.lt_irrefl _)
  have cellK:∀ x c,X.env.cells.lookup x=some c→∀ v,s.heap.IsCell c v→h'.IsCell c v:=fun x c e v ⟨o,ho,hd⟩=>by
    have nch:c ∉ ch:=fun z=>(hch c z).2.2.1 x c e rfl
    by_cases hc:c∈X.fs
    · obtain ⟨sl,q⟩:=slot c o (I.cne x c e) hc nch ho (I.freeC x c e)
      exact ⟨_,q,hd⟩
    · exact ⟨o,keep c o (I.cne x c e) hc nch ho (I.freeC x c e),hd⟩
  refine ⟨I.ok,I.os,hg,⟨fun b o e n hb hx=>?_,fun b o e n hb hx=>?_,fun b o e n hx=>?_,fun b o e hx=>?_,fun b xs e=>tups b xs (I.base.tups b xs e),fun b o xs e=>frzs b o xs (I.base.frzs b o xs e),fun b ps e=>?_⟩,?_,fun x c e=>?_,?_,fun x c e=>?_,fun p hp=>?_,hok,I.len⟩
  · exact keep b o (neL b o e) hb (neC b o e hx) (I.base.keep b o e n hb hx) (I.base.free b o e n hx)
  · obtain ⟨sl,e1⟩:=I.base.slot b o e n hb hx
    obtain ⟨sl',e2⟩:=slot b _ (neL b o e) hb (neC b o e hx) e1 (I.base.free b o e n hx)
    exact ⟨sl',e2⟩
  · obtain ⟨o',e1⟩:=I.base.there b o e hx
    exact free b o' (neC b o e hx) e1 (I.base.free b o e n hx)
  · obtain ⟨o',e1⟩:=I.base.there b o e hx
    exact there b o' (neC b o e hx) e1
  · obtain ⟨m1,e1⟩:=I.base.tbls b ps e
    obtain ⟨m2,e2⟩:=tbls b _ e1
    exact ⟨m1++m2,by rw [e2,Array.append_assoc]⟩
  · obtain ⟨m,hn,hl⟩:=I.loc
    refine ⟨m,ns m hn,fun i x v e1 e2 e3=>?_⟩
    obtain ⟨u,r,l⟩:=hl i x v e1 e2 e3
    refine ⟨u,r,?_⟩
    rcases l with l | ⟨k,c,e,z⟩
    · exact .inl l
    · exact .inr ⟨k,c,e,cellK x c e _ z⟩
  · obtain ⟨v,z⟩:=I.cell x c e
    exact ⟨v,cellK x c e v z⟩
  · obtain ⟨m,⟨o,_,_,ho,_⟩,_⟩:=I.loc
    exact free _ o (fun z=>(hch _ z).2.1 rfl) ho I.free
  · obtain ⟨v,o,ho,hd⟩:=I.cell x c e
    exact free c o (fun z=>(hch c z).2.2.1 x c e rfl) ho (I.freeC x c e)
  · obtain ⟨e,n,ne,nf,d⟩:=I.pin p hp
    have nch:p.1 ∉ ch:=fun z=>(hch p.1 z).2.2.2 p hp rfl
    exact ⟨keep p.1 p.2 ne nf nch e n,free p.1 p.2 nch e n,ne,nf,d⟩
theorem Inv.un {t':Nat} (I:Inv X pins σ H s) (u:Un X.fs [] H H' s.heap h') (hok:HOk X.prog X.w H' h'):Inv X pins σ H' { s with heap:=h',toks:=t' }:=by
  obtain ⟨m,⟨o,es,ep,ho,r⟩,_⟩:=id I.loc
  obtain ⟨sl,hL⟩:=u.any ho I.free (by simp)
  exact I.step (g':=s.gens) (d':=s.drawn) (ch:=[]) (fun _ z=>nomatch z) (fun b o _ hb _ e n=>u.keep b o e n hb (by simp)) (fun b o _ hb _ e n=>u.slot b o e n hb (by simp)) (fun b o _ e n=>u.free b o e n (by simp)) (fun b o _ e=>u.there b o e (by simp)) u.tups u.frzs u.tbls (fun m' hm=>by
    obtain ⟨o',es',ep',ho',r'⟩:=hm
    rw [ho] at ho';cases ho'
    exact ⟨_,es',ep',hL,r'⟩) hok I.bare
theorem Inv.call {g':Array GenState} {t':Nat} {d':Drawn} {ch:List Addr} (I:Inv X pins σ H s) (u:Un (frs X.stack) ch H H' s.heap h') (hok:HOk X.prog X.w H' h') (hg:AllBare g')
    (hch:∀ b∈ch,(b∈X.ex∨X.s₀.heap.objs.size≤b)∧b≠X.env.locals∧(∀ x c,X.env.cells.lookup x=some c→c≠b)∧∀ p∈X.pn++pins,p.1≠b) :
    Inv X pins σ H' { s with heap:=h',gens:=g',drawn:=d',toks:=t' }:=by
  obtain ⟨m,⟨o,es,ep,ho,r⟩,_⟩:=id I.loc
  obtain ⟨sl,hL⟩:=u.any ho I.free fun z=>(hch _ z).2.1 rfl
  exact I.step (ch:=ch) hch (fun b o hL hb hc e n=>u.keep b o e n (fun z=>(List.mem_cons.mp (I.qZ b z)).elim hL hb) hc) (fun b o _ _ hc e n=>u.any e n hc) (fun b o hc e n=>u.free b o e n hc) (fun b o hc e=>u.there b o e hc) u.tups u.frzs u.tbls (fun m' hm=>by
    obtain ⟨o',es',ep',ho',r'⟩:=hm
    rw [ho] at ho';cases ho'
    exact ⟨_,es',ep',hL,r'⟩) hok hg
theorem Inv.turned {t':Nat} {it:Addr} (I:Inv X pins σ H s) (k:∀ b o,b≠it→s.heap.get? b=some o→h'.get? b=some o) (hn:H it=none) (hL:it≠X.env.locals)
    (h1:it∈X.ex∨X.s₀.heap.objs.size≤it) (h2:∀ x c,X.env.cells.lookup x=some c→c≠it) (h3:∀ p∈X.pn++pins,p.1≠it):Inv X pins σ H { s with heap:=h',toks:=t' }:=by
  have nit:∀ b u,H b=some u→b≠it:=fun b u e z=>by rw [z,hn] at e;cases e
  refine I.step (g':=s.gens) (d':=s.drawn) (ch:=[it]) (fun b hb=>?_) (fun b o _ _ hc e _=>k b o (fun z=>hc (by simp [z])) e) (fun b o _ _ hc e _=>⟨o.slots,k b o (fun z=>hc (by simp [z])) e⟩) (fun _ _ _ _ n=>n)
    (fun b o hc e=>⟨o,k b o (fun z=>hc (by simp [z])) e⟩) (fun _ _ e=>e) (fun _ _ _ e=>e) (fun b ps e=>⟨#[],by rw [e];simp⟩) (fun m hm=>?_) (fun b u e=>?_) I.bare
  · have e:b=it:=by simpa using hb
    subst e
    exact ⟨h1,hL,h2,h3⟩
  · obtain ⟨o,es,ep,ho,r⟩:=hm
    exact ⟨o,es,ep,k _ o (Ne.symm hL) ho,r⟩
  · refine (I.hok b u e).stay (fun c v hc q=>k c v ?_ q) (fun _ q=>q) fun _ _ q=>q
    rcases hc with z | z
    · rw [z];exact nit b u e
    · exact nit c _ z
theorem Inv.tok (I:Inv X pins σ H s) (t:Nat):Inv X pins σ H { s with toks:=t }:=I.un (h':=s.heap) (t':=t) Un.refl I.hok
theorem Inv.kept {t':Nat} (I:Inv X pins σ H s) (k:∀ b u,s.heap.get? b=some u→h'.get? b=some u):Inv X pins σ H { s with heap:=h',toks:=t' }:=I.un (Un.kept k) (I.hok.kept k)
theorem Inv.laid {a:Addr} {o:HO} {t':Nat} (I:Inv X pins σ H s) (k:∀ b u,s.heap.get? b=some u→h'.get? b=some u) (hp:s.heap.objs.size≤a) (new:fK X.prog X.w (upd H a o) h' a o) :
    Inv X pins σ (upd H a o) { s with heap:=h',toks:=t' }:=I.un (Un.laid k hp (I.hok.fresh hp)) (I.hok.laid k hp new)
theorem Inv.write {x e:Addr} {o:HO} {t':Nat} (I:Inv X pins σ H s) (mu:Mut (H x)) (he:e=x∨H e=some (.own x)) (k:∀ b u,b≠e→s.heap.get? b=some u→h'.get? b=some u) (heo:∃ u,h'.get? e=some u)
    (new:fK X.prog X.w (upd H x o) h' x o):Inv X pins σ (upd H x o) { s with heap:=h',toks:=t' }:=I.un (Un.write mu he k heo) (I.hok.write mu he k heo new)
theorem Inv.su {pins':List (Addr × Obj)} (I:Inv X pins σ H s) (h:∀ p∈pins',s.heap.get? p.1=some p.2∧H p.1=none∧p.1≠X.env.locals∧p.1 ∉ X.fs∧∀ v,p.2.data≠.cell v):Inv X pins' σ H s :=
  ⟨I.ok,I.os,I.bare,I.base,I.loc,I.cell,I.free,I.freeC,fun p hp=>(List.mem_append.mp hp).elim (fun z=>I.pin p (List.mem_append_left _ z)) (h p),I.hok,I.len⟩
theorem p7 {N:List Str} (hN:N.Nodup) {i j:Nat} {x:Str} (a:N[i]?=some x) (b:N[j]?=some x):i=j:=by
  obtain ⟨h1,e1⟩:=List.getElem?_eq_some_iff.mp a
  obtain ⟨h2,e2⟩:=List.getElem?_eq_some_iff.mp b
  exact (List.getElem_inj hN).mp (e1.trans e2.symm)
theorem mR {M:Model} {A:Around} {E:Value→Shared→Prop} {i:Nat} {x:Str} {v:V} {u:Value} {Q:Unit→Shared→Prop} (I:Inv X pins σ H s) (hN:X.N.Nodup) (hi:X.N[i]?=some x) (hx:Loc X.env.scope x) (r:RelV v u)
    (h:∀ s',Inv X pins (σ.set i (some v)) H s'→(∃ a,Heap.SameBut a s.heap s'.heap∧(a=X.env.locals∨X.env.cells.lookup x=some a))→Q () s') (hf:X.fn x=true∨X.env.scope.names.lookup x=some .local:=by first | exact .inl rfl | exact .inr rfl | assumption):wpAny M A (storeName X.env x u) Q E s:=by
  obtain ⟨m,hn,hl⟩:=id I.loc
  have hcls:(X.env.scope.kind == .class || (X.env.scope.kind == .module && X.env.locals != X.env.globals))=false:=by rw [I.ok.kind];rfl
  have hiσ:i<σ.length:=by rw [I.len];exact (List.getElem?_eq_some_iff.mp hi).1
  have cne:=I.cne
  have tracked:∀ {a:Addr} {h':Heap},(∃ o,s.heap.get? a=some o∧H a=none)→Heap.SameBut a s.heap h'→HOk X.prog X.w H h':=fun {a h'} ha hs b ob e=>by
    obtain ⟨_,_,hfree⟩:=ha
    refine (I.hok b ob e).stay (fun c w' hc q=>(hs.2 c ?_).trans q) (fun _ q=>q) fun _ _ q=>q
    rintro rfl
    rcases hc with rfl | hc
    · rw [hfree] at e;cases e
    · rw [hfree] at hc;cases hc
  rcases hx with hk | hk
  · refine wpAny_storeName_local hk hn (fun h' hn' hs=>?_) hcls
    obtain ⟨oL,_,_,hoL,_⟩:=id hn
    refine h _ ⟨I.ok,I.os,I.bare,⟨fun b o e n hb hx=>?_,fun b o e n hb hx=>?_,I.base.free,fun b o e hx=>?_,I.base.tups,I.base.frzs,I.base.tbls⟩,⟨_,hn',fun j y v' e1 e2 e3=>?_⟩,fun y c e=>?_,I.free,I.freeC,fun p hp=>?_,tracked ⟨oL,hoL,I.free⟩ hs,by simpa using I.len⟩ ⟨_,hs,.inl rfl⟩
    · exact (hs.2 b (Nat.ne_of_lt (Nat.lt_of_lt_of_le (Heap.lt_size e) I.ok.above))).trans (I.base.keep b o e n hb hx)
    · obtain ⟨sl,e1⟩:=I.base.slot b o e n hb hx
      exact ⟨sl,(hs.2 b (Nat.ne_of_lt (Nat.lt_of_lt_of_le (Heap.lt_size e) I.ok.above))).trans e1⟩
    · obtain ⟨o',e1⟩:=I.base.there b o e hx
      exact ⟨o',(hs.2 b (Nat.ne_of_lt (Nat.lt_of_lt_of_le (Heap.lt_size e) I.ok.above))).trans e1⟩
    · by_cases hj:j=i
      · subst hj
        rw [hi] at e1;cases e1
        rw [List.getElem?_set_self hiσ] at e2
        cases e2
        exact ⟨u,r,.inl ⟨hk,by simp⟩⟩
      · rw [List.getElem?_set_ne (Ne.symm hj)] at e2
        obtain ⟨u',r',q⟩:=hl j y v' e1 e2 e3
        refine ⟨u',r',?_⟩
        rcases q with ⟨k,e⟩ | ⟨k,c,e,z⟩
        · refine .inl ⟨k,?_⟩
          have:y≠x:=fun e=>hj (p7 hN e1 (e ▸ hi))
          simp [this,e]
        · exact .inr ⟨k,c,e,z.sameBut hs (cne y c e)⟩
    · obtain ⟨w',z⟩:=I.cell y c e
      exact ⟨w',z.sameBut hs (cne y c e)⟩
    · obtain ⟨e,n,ne,nf,d⟩:=I.pin p hp
      exact ⟨(hs.2 p.1 ne).trans e,n,ne,nf,d⟩
  · have hfn:X.fn x=true:=by
      rcases hf with z | z
      · exact z
      · rw [z] at hk;cases hk
    obtain ⟨c,hc⟩:=I.ok.has x (.inl hk)
    obtain ⟨w',z⟩:=I.cell x c hc
    refine wpAny_storeName_cell I.ok.kind hk hc z (fun h' hc' hs=>?_)
    obtain ⟨oc,hoc,hocd⟩:=id z
    refine h { s with heap:=h' } ⟨I.ok,I.os,I.bare,⟨fun b o e n hb hx=>?_,fun b o e n hb hx=>?_,I.base.free,fun b o e hx=>?_,I.base.tups,I.base.frzs,I.base.tbls⟩,⟨m,hn.sameBut hs (Ne.symm (cne x c hc)),fun j y v' e1 e2 e3=>?_⟩,fun y c' e=>?_,I.free,I.freeC,fun p hp=>?_,tracked ⟨oc,hoc,I.freeC x c hc⟩ hs,by simpa using I.len⟩ ⟨c,hs,.inr hc⟩
    · exact (hs.2 b (Nat.ne_of_lt (Nat.lt_of_lt_of_le (Heap.lt_size e) (I.ok.cab x c hfn hc)))).trans (I.base.keep b o e n hb hx)
    · obtain ⟨sl,e1⟩:=I.base.slot b o e n hb hx
      exact ⟨sl,(hs.2 b (Nat.ne_of_lt (Nat.lt_of_lt_of_le (Heap.lt_size e) (I.ok.cab x c hfn hc)))).trans e1⟩
    · obtain ⟨o',e1⟩:=I.base.there b o e hx
      exact ⟨o',(hs.2 b (Nat.ne_of_lt (Nat.lt_of_lt_of_le (Heap.lt_size e) (I.ok.cab x c hfn hc)))).trans e1⟩
    · by_cases hj:j=i
      · subst hj
        rw [hi] at e1;cases e1
        rw [List.getElem?_set_self hiσ] at e2
        cases e2
        exact ⟨u,r,.inr ⟨.inl hk,c,hc,hc'⟩⟩
      · rw [List.getElem?_set_ne (Ne.symm hj)] at e2
        obtain ⟨u',r',q⟩:=hl j y v' e1 e2 e3
        refine ⟨u',r',?_⟩
        rcases q with q | ⟨k,c',e,z'⟩
        · exact .inl q
        · refine .inr ⟨k,c',e,z'.sameBut hs ?_⟩
          rintro rfl
          exact hj (p7 hN e1 (I.ok.inj _ _ _ e hc ▸ hi))
    · by_cases hcc:c'=c
      · subst hcc;exact ⟨_,hc'⟩
      · obtain ⟨w2,z2⟩:=I.cell y c' e
        exact ⟨w2,z2.sameBut hs hcc⟩
    · obtain ⟨e,n,ne,nf,d⟩:=I.pin p hp
      refine ⟨(hs.2 p.1 ?_).trans e,n,ne,nf,d⟩
      intro q
      rw [q,hoc] at e
      have q':oc=p.2:=Option.some.inj e
      exact d w' (by rw [← q'];exact hocd)
theorem jx {M:Model} {A:Around} {E:Value→Shared→Prop} {i:Nat} {x:Str} {v:V} {u:Value} {Q:Unit→Shared→Prop} (I:Inv X pins σ H s) (hN:X.N.Nodup) (hi:X.N[i]?=some x) (hx:Loc X.env.scope x) (r:RelV v u)
    (h:∀ s',Inv X pins (σ.set i (some v)) H s'→Q () s') (hf:X.fn x=true∨X.env.scope.names.lookup x=some .local:=by first | exact .inl rfl | exact .inr rfl | assumption):wpAny M A (storeName X.env x u) Q E s :=
  mR I hN hi hx r (fun s' I' _=>h s' I') hf
theorem Inv.call' {s':Shared} {ch:List Addr} (I:Inv X pins σ H s) (ho:s'.os=s.os) (u:Un (frs X.stack) ch H H' s.heap s'.heap) (hok:HOk X.prog X.w H' s'.heap) (hg:AllBare s'.gens)
    (hch:∀ b∈ch,(b∈X.ex∨X.s₀.heap.objs.size≤b)∧b≠X.env.locals∧(∀ x c,X.env.cells.lookup x=some c→c≠b)∧∀ p∈X.pn++pins,p.1≠b):Inv X pins σ H' s':=by
  obtain ⟨h',g',d',t',o'⟩:=s'
  have e:o'=s.os:=ho
  subst e
  exact I.call (g':=g') (t':=t') (d':=d') u hok hg hch
end
abbrev XK:=Value→Option Addr→Hp→Prop
abbrev St:=List (Option V)
abbrev VK:=V→Hp→Prop
abbrev TE:=St→Hp→VK→Prop
abbrev TT:=St→Hp→(Bool→Hp→Prop)→Prop
abbrev TA:=St→Hp→(List V→Hp→Prop)→Prop
structure Ends where
  nx:St→Hp→Prop
  rt:VK
  bk:St→Hp→Prop:=fun _ _=>False
  ct:St→Hp→Prop:=fun _ _=>False
abbrev TS:=Ends→St→Hp→Prop
def EP (X:Cx) (pins:List (Addr × Obj)) (σ:St) (Q:VK) (u:Value) (s':Shared):Prop:=∃ v H',Inv X pins σ H' s'∧RelV v u∧Q v H'
def TP (X:Cx) (pins:List (Addr × Obj)) (σ:St) (Q:Bool→Hp→Prop) (b:Bool) (s':Shared):Prop:=∃ H',Inv X pins σ H' s'∧Q b H'
def AP (X:Cx) (pins:List (Addr × Obj)) (σ:St) (Q:List V→Hp→Prop) (us:List Value) (s':Shared):Prop:=∃ vs H',Inv X pins σ H' s'∧Vals vs us∧Q vs H'
def SP (X:Cx) (pins:List (Addr × Obj)) (D:Ends) (f:Flow) (s':Shared):Prop :=
  match f with
  | .next=>∃ σ' H',Inv X pins σ' H' s'∧D.nx σ' H'
  | .brk=>∃ σ' H',Inv X pins σ' H' s'∧D.bk σ' H'
  | .cont=>∃ σ' H',Inv X pins σ' H' s'∧D.ct σ' H'
  | .ret u=>∃ v σ' H',Inv X pins σ' H' s'∧RelV v u∧D.rt v H'
def PE (X:Cx) (e:Expr) (t:TE):Prop :=
  ∀ (pins:List (Addr × Obj)) (s:Shared) (σ:St) (H:Hp) (Q:VK),Inv X pins σ H s→t σ H Q→wpAny (model X.prog X.w) X.A (eval e X.env) (EP X pins σ Q) X.xe s
def PT (X:Cx) (e:Expr) (t:TT):Prop :=
  ∀ (pins:List (Addr × Obj)) (s:Shared) (σ:St) (H:Hp) (Q:Bool→Hp→Prop),Inv X pins σ H s→t σ H Q→wpAny (model X.prog X.w) X.A (isTrue e X.env (eval e X.env)) (TP X pins σ Q) X.xe s
def PW (X:Cx) (e:Expr) (t:TT):Prop :=
  ∀ (whole:Sem Value) (pins:List (Addr × Obj)) (s:Shared) (σ:St) (H:Hp) (Q:Bool→Hp→Prop),Inv X pins σ H s→t σ H Q→wpAny (model X.prog X.w) X.A (isTrue e X.env whole) (TP X pins σ Q) X.xe s
theorem PW.pt {X:Cx} {e:Expr} {t:TT} (h:PW X e t):PT X e t:=h _
def PA (X:Cx) (es:List Expr) (t:TA):Prop :=
  ∀ (pos:Pos) (pins:List (Addr × Obj)) (s:Shared) (σ:St) (H:Hp) (Q:List V→Hp→Prop),Inv X pins σ H s→t σ H Q→wpAny (model X.prog X.w) X.A (spliced (backTo pos (starEach es X.env))) (AP X pins σ Q) X.xe s
def PS (X:Cx) (st:Stmt) (t:TS):Prop :=
  ∀ (pins:List (Addr × Obj)) (s:Shared) (σ:St) (H:Hp) (D:Ends),Inv X pins σ H s→t D σ H→wpAny (model X.prog X.w) X.A (exec st X.env) (SP X pins D) X.xe s
def PSs (X:Cx) (st:List Stmt) (t:TS):Prop :=
  ∀ (pins:List (Addr × Obj)) (s:Shared) (σ:St) (H:Hp) (D:Ends),Inv X pins σ H s→t D σ H→wpAny (model X.prog X.w) X.A (execs st X.env) (SP X pins D) X.xe s
theorem thn {α:Type} {t:Sem α} {Q Q':α→Shared→Prop} {M:Model} {A:Around} {E:Value→Shared→Prop} {s:Shared} (h:wpAny M A t Q E s) (hQ:∀ a s,Q a s→Q' a s):wpAny M A t Q' E s:=wpAny_mono h hQ fun _ _ x=>x
end L2
namespace L2
open PySem PySem.Spec PyProof.Rows
section
variable {X:Cx}
def Mr (i:Nat):TE:=fun σ H Q=>∃ v,σ[i]?=some (some v)∧Q v H
def tC (v:V):TE:=fun _ H Q=>Q v H
theorem Gi {i:Nat} {x:Str} {pos:Pos} (hN:X.N[i]?=some x) (hv:Vis X.env.scope x) (hd:(x == ("__debug__":Str))=false:=by decide) (hcd:(x == ("__classdict__":Str))=false:=by decide):PE X (.Name x pos) (Mr i):=by
  intro pins s σ H Q I h
  obtain ⟨v,e,h⟩:=h
  obtain ⟨m,hn,hl⟩:=I.loc
  obtain ⟨u,r,l⟩:=hl i x v hN e hv
  have fin:EP X pins σ Q u s:=⟨v,H,I,r,h⟩
  rcases l with ⟨hk,hm⟩ | ⟨hk,c,hc,hcell⟩
  · exact wpAny_Name (wpAny_loadName_local I.ok.kind hk hn hm fin) hd
  · rcases hk with hk | hk
    · exact wpAny_Name (wpAny_loadName_cell I.ok.kind hk hc hcell fin) hd
    · exact wpAny_Name (wpAny_loadName_free I.ok.kind hk hc hcell fin hcd) hd
theorem aB {i j pos}:PE X (.Constant (.int i) j pos) (tC (.int i)):=fun _ _ _ H _ I h=>wpAny_Constant_int ⟨.int i,H,I.tok _,⟨_,rfl⟩,h⟩
theorem jf {b j pos}:PE X (.Constant (.bool b) j pos) (tC (.bl b)):=fun _ _ _ H _ I h=>Constant_bool ⟨.bl b,H,I,rfl,h⟩
theorem jK {j pos}:PE X (.Constant .none j pos) (tC .non):=fun _ _ _ H _ I h=>Constant_none ⟨.non,H,I,rfl,h⟩
theorem fH {x j pos}:PE X (.Constant (.str x) j pos) (tC (.str x)):=fun _ _ _ H _ I h=>Calls.Constant_str ⟨.str x,H,I.tok _,⟨_,rfl⟩,h⟩
def Gl (X:Cx) (x:Str):Prop:=X.env.kindOf x=some .globalImplicit
theorem jT {E:Value→Shared→Prop} {pins:List (Addr × Obj)} {s:Shared} {σ:St} {H:Hp} {x:Str} {u:Value} {pos:Pos} {Q:Value→Shared→Prop} (I:Inv X pins σ H s) (hg:Gl X x) (hm:X.mg x=some u) (h:Q u s)
    (hd:(x == ("__debug__":Str))=false:=by decide):wpAny (model X.prog X.w) X.A (eval (.Name x pos) X.env) Q E s :=
  Calls.Name_function_global I.ok.kind hg (Calls.loadGlobal_global (by rw [I.ok.glob];exact I.mod.glob.keeps I.bk) hm h) hd
theorem nC {E:Value→Shared→Prop} {pins:List (Addr × Obj)} {s:Shared} {σ:St} {H:Hp} {x:Str} {u:Value} {pos:Pos} {Q:Value→Shared→Prop} (I:Inv X pins σ H s) (hg:Gl X x) (hm:X.mg x=none) (hv:bootBuiltins x=some u) (h:Q u s)
    (hn:x≠"__name__":=by decide) (hd:(x == ("__debug__":Str))=false:=by decide):wpAny (model X.prog X.w) X.A (eval (.Name x pos) X.env) Q E s:=by
  obtain ⟨mb,h1,h2⟩:=I.mod.blt
  exact Calls.Name_function_global I.ok.kind hg (Calls.loadGlobal_builtin (by rw [I.ok.glob];exact I.mod.glob.keeps I.bk) hm (by rw [I.ok.blt];exact h1.keeps I.bk) ((h2 x hn).trans hv) h) hd
theorem eU {x:Str} {v:V} {u:Value} {pos:Pos} (hg:Gl X x) (hm:X.mg x=some u) (r:RelV v u) (hd:(x == ("__debug__":Str))=false:=by decide):PE X (.Name x pos) (tC v) :=
  fun _ _ _ H _ I h=>jT I hg hm ⟨v,H,I,r,h⟩ hd
theorem jM {x:Str} {v:V} {u:Value} {pos:Pos} (hg:Gl X x) (hm:X.mg x=none) (hv:bootBuiltins x=some u) (r:RelV v u) (hn:x≠"__name__":=by decide) (hd:(x == ("__debug__":Str))=false:=by decide):PE X (.Name x pos) (tC v) :=
  fun _ _ _ H _ I h=>nC I hg hm hv ⟨v,H,I,r,h⟩ hn hd
def t2I (ta tb:TE) (k:Int→Int→Hp→Prop):St→Hp→Prop:=fun σ H=>ta σ H fun x H1=>tb σ H1 fun y H2=>∃ i j,x=.int i∧y=.int j∧k i j H2
variable {a b:Expr} {ta tb:TE} {pos:Pos}
def Fp (p:Int→Int→Bool) (ta tb:TE):TE:=fun σ H Q=>t2I ta tb (fun i j H2=>Q (.bl (p i j)) H2) σ H
abbrev tLt:TE→TE→TE:=Fp fun i j=>decide (i<j)
abbrev tLe:TE→TE→TE:=Fp fun i j=>decide (i≤j)
abbrev tGt:TE→TE→TE:=Fp fun i j=>decide (j<i)
abbrev tGe:TE→TE→TE:=Fp fun i j=>decide (j≤i)
abbrev tEqI:TE→TE→TE:=Fp fun i j=>decide (i=j)
abbrev tNeI:TE→TE→TE:=Fp fun i j=>!decide (i=j)
def tB (t:TE):TT:=fun σ H Q=>t σ H fun x H1=>∃ c,x=.bl c∧Q c H1
theorem gb {e:Expr} {t:TE} (h:PE X e t) (he:∀ whole,isTrue e X.env whole=(do let v ← whole;standAt e.pos;holding [v] (truthy v)):=by intro _;rfl):PT X e (tB t):=by
  intro pins s σ H Q I hw
  refine isTrue_plain (thn (h pins s σ H _ I hw) fun v s1 ⟨x,H1,I1,r1,q1⟩=>?_) (he _)
  obtain ⟨d,rfl,q⟩:=q1
  cases r1
  exact wpAny_truthy_bool ⟨H1,I1,q⟩
variable {tA tB':TT} {rest:List Expr}
def tAnd (t u:TT):TT:=fun σ H Q=>t σ H fun c H1=>if c=true then u σ H1 Q else Q false H1
def tOr (t u:TT):TT:=fun σ H Q=>t σ H fun c H1=>if c=true then Q true H1 else u σ H1 Q
def tNot (t:TT):TT:=fun σ H Q=>t σ H fun c H1=>Q (!c) H1
theorem pw_and1 (ha:PT X a tA):PW X (.BoolOp .And [a] pos) tA:=by
  intro wh pins s σ H Q I h
  refine isTrue_and (thn (ha pins s σ H Q I h) fun c s1 e=>?_)
  cases c with
  | true=>exact isTrue_and_nil e
  | false=>exact e
theorem pw_or1 (ha:PT X a tA):PW X (.BoolOp .Or [a] pos) tA:=by
  intro wh pins s σ H Q I h
  refine isTrue_or (thn (ha pins s σ H Q I h) fun c s1 e=>?_)
  cases c with
  | false=>exact isTrue_or_nil e
  | true=>exact e
theorem pw_and (ha:PT X a tA) (hb:PW X (.BoolOp .And (b :: rest) pos) tB'):PW X (.BoolOp .And (a :: b :: rest) pos) (tAnd tA tB'):=by
  intro wh pins s σ H Q I h
  refine isTrue_and (thn (ha pins s σ H _ I h) fun c s1 ⟨H1,I1,q1⟩=>?_)
  cases c with
  | true=>exact hb wh pins s1 σ H1 Q I1 q1
  | false=>exact ⟨H1,I1,q1⟩
theorem pw_or (ha:PT X a tA) (hb:PW X (.BoolOp .Or (b :: rest) pos) tB'):PW X (.BoolOp .Or (a :: b :: rest) pos) (tOr tA tB'):=by
  intro wh pins s σ H Q I h
  refine isTrue_or (thn (ha pins s σ H _ I h) fun c s1 ⟨H1,I1,q1⟩=>?_)
  cases c with
  | true=>exact ⟨H1,I1,q1⟩
  | false=>exact hb wh pins s1 σ H1 Q I1 q1
theorem gj (ha:PT X a tA):PT X (.UnaryOp .Not a pos) (tNot tA):=by
  intro pins s σ H Q I h
  exact isTrue_not (ha pins s σ H (fun c H1=>Q (!c) H1) I h)
def M9 (ta tb:TE):TE:=fun σ H Q=>ta σ H fun x H1=>∃ c,x=.bl c∧if c=true then tb σ H1 Q else Q (.bl false) H1
def tOrV (ta tb:TE):TE:=fun σ H Q=>ta σ H fun x H1=>∃ c,x=.bl c∧if c=true then Q (.bl true) H1 else tb σ H1 Q
def MN (ta:TE):TE:=fun σ H Q=>ta σ H fun x H1=>∃ c,x=.bl c∧Q (.bl (!c)) H1
theorem nj {op} {t:TE} (h:PE X a t):PE X (.BoolOp op [a] pos) t:=fun pins s σ H Q I hw=>BoolOp_one (h pins s σ H Q I hw)
theorem sG (ha:PE X a ta) (hb:PE X (.BoolOp .And (b :: rest) pos) tb):PE X (.BoolOp .And (a :: b :: rest) pos) (M9 ta tb):=by
  intro pins s σ H Q I h
  refine BoolOp_and (thn (ha pins s σ H _ I h) fun v s1 ⟨x,H1,I1,r1,q1⟩=>?_)
  obtain ⟨c,rfl,q1⟩:=q1
  cases r1
  refine wpAny_truthy_bool ?_
  cases c with
  | true=>exact hb pins s1 σ H1 Q I1 q1
  | false=>exact ⟨.bl false,H1,I1,rfl,q1⟩
theorem Gj (ha:PE X a ta) (hb:PE X (.BoolOp .Or (b :: rest) pos) tb):PE X (.BoolOp .Or (a :: b :: rest) pos) (tOrV ta tb):=by
  intro pins s σ H Q I h
  refine BoolOp_or (thn (ha pins s σ H _ I h) fun v s1 ⟨x,H1,I1,r1,q1⟩=>?_)
  obtain ⟨c,rfl,q1⟩:=q1
  cases r1
  refine wpAny_truthy_bool ?_
  cases c with
  | false=>exact hb pins s1 σ H1 Q I1 q1
  | true=>exact ⟨.bl true,H1,I1,rfl,q1⟩
theorem Gk (ha:PE X a ta):PE X (.UnaryOp .Not a pos) (MN ta):=by
  intro pins s σ H Q I h
  refine UnaryOp_ (thn (ha pins s σ H _ I h) fun v s1 ⟨x,H1,I1,r1,q1⟩=>?_)
  obtain ⟨c,rfl,q1⟩:=q1
  cases r1
  exact not_of (wpAny_truthy_bool ⟨.bl (!c),H1,I1,rfl,q1⟩)
def tIf (t:TT) (ta tb:TE):TE:=fun σ H Q=>t σ H fun c H1=>if c=true then ta σ H1 Q else tb σ H1 Q
theorem uH {c:Expr} (hc:PT X c tA) (ha:PE X a ta) (hb:PE X b tb):PE X (.IfExp c a b pos) (tIf tA ta tb):=by
  intro pins s σ H Q I h
  refine wpAny_IfExp (thn (hc pins s σ H _ I h) fun d s1 ⟨H1,I1,q1⟩=>?_)
  cases d with
  | true=>exact ha pins s1 σ H1 Q I1 q1
  | false=>exact hb pins s1 σ H1 Q I1 q1
end
end L2
namespace L2
open PySem PySem.Spec PyProof.Rows
def SqL (K:PySem.W.Frag) (H:Hp) (a:Addr) (xs:List V):Prop :=
  Rd H a (.lst xs) ∨
    ∃ (o:Obj) (its:Array Value) (n:Nat),K.lookup a=some o∧o.cls=.type "list"∧o.dict=none∧o.data=.seq its n∧its.size≤sizeLine∧Vals xs its.toList
def SqT (K:PySem.W.Frag) (H:Hp) (a:Addr) (xs:List V):Prop :=
  Rd H a (.tup xs) ∨
    ∃ (o:Obj) (its:Array Value) (n:Nat),K.lookup a=some o∧o.cls=.type "tuple"∧o.data=.seq its n∧its.size≤sizeLine∧Vals xs its.toList
def absV:Value→Option V
  | .none=>some .non
  | .bool b=>some (.bl b)
  | .int i _=>some (.int i)
  | .str x _=>some (.str x)
  | .bytes b _=>some (.byt b)
  | .float b _=>some (.flt b)
  | .ref a=>some (.ref a)
  | .type n=>some (.ty n)
  | _=>none
theorem RelV.abs {x:V} {u:Value} (r:RelV x u):absV u=some x:=by
  cases x with
  | non=>cases r;rfl
  | bl _=>cases r;rfl
  | int _=>obtain ⟨t,rfl⟩:=r;rfl
  | str _=>obtain ⟨t,rfl⟩:=r;rfl
  | byt _=>obtain ⟨t,rfl⟩:=r;rfl
  | flt _=>obtain ⟨t,rfl⟩:=r;rfl
  | ref _=>cases r;rfl
  | ty _=>cases r;rfl
theorem RelV.inj {x y:V} {u:Value} (r:RelV x u) (q:RelV y u):x=y:=Option.some.inj (r.abs.symm.trans q.abs)
theorem Vals.inj:∀ {xs ys:List V} {us:List Value},Vals xs us→Vals ys us→xs=ys
  | _,_,_,.nil,.nil=>rfl
  | _,_,_,.cons r t,.cons r' t'=>by rw [r.inj r',Vals.inj t t']
section
variable {X:Cx} {pins:List (Addr × Obj)} {σ:St} {H:Hp} {s:Shared} {a:Addr} {xs ys:List V}
theorem SqL.of {K:PySem.W.Frag} (h:H a=some (.lst xs)):SqL K H a xs:=.inl (.inl h)
theorem SqT.of {K:PySem.W.Frag} (h:H a=some (.tup xs)):SqT K H a xs:=.inl (.inl h)
theorem Inv.list (I:Inv X pins σ H s) (h:SqL X.K H a xs):∃ its:List Value,Vals xs its∧PlainL s.heap a its.toArray∧xs.length≤sizeLine:=by
  rcases h with h | ⟨o,its,n,hk,hc,hd,hs,hz,r⟩
  · obtain ⟨z,its,n,r,e⟩:=h.ok I.hok
    exact ⟨its,r,⟨_,n,e,rfl,rfl,rfl⟩,z⟩
  · refine ⟨its.toList,r,⟨o,n,I.kIn a o hk,hc,hd,by simpa using hs⟩,?_⟩
    have e:=r.length
    simp only [Array.length_toList] at e
    omega
theorem Inv.tuple (I:Inv X pins σ H s) (h:SqT X.K H a xs):∃ its:List Value,Vals xs its∧IsTup s.heap a its.toArray∧xs.length≤sizeLine:=by
  rcases h with h | ⟨o,its,n,hk,hc,hs,hz,r⟩
  · obtain ⟨z,its,r,p⟩:=h.ok I.hok
    exact ⟨its,r,p,z⟩
  · refine ⟨its.toList,r,⟨o,I.kIn a o hk,hc,n,by simpa using hs⟩,?_⟩
    have e:=r.length
    simp only [Array.length_toList] at e
    omega
theorem Inv.u6 (I:Inv X pins σ H s) (h:SqL X.K H a xs) (h':SqL X.K H a ys):xs=ys:=by
  obtain ⟨its,r,⟨o,n,e,_,_,d⟩,_⟩:=I.list h
  obtain ⟨its',r',⟨o',n',e',_,_,d'⟩,_⟩:=I.list h'
  rw [e] at e';cases e'
  rw [d] at d'
  injection d' with d1 _
  have:its=its':=by simpa using congrArg Array.toList d1
  subst this
  exact r.inj r'
theorem Inv.qW (I:Inv X pins σ H s) (h:SqT X.K H a xs) (h':SqT X.K H a ys):xs=ys:=by
  obtain ⟨its,r,⟨o,e,_,n,d⟩,_⟩:=I.tuple h
  obtain ⟨its',r',⟨o',e',_,n',d'⟩,_⟩:=I.tuple h'
  rw [e] at e';cases e'
  rw [d] at d'
  injection d' with d1 _
  have:its=its':=by simpa using congrArg Array.toList d1
  subst this
  exact r.inj r'
end
abbrev Cx.wish (X:Cx) (E:Value→Shared→Prop):Cx:={ X with xe:=E }
abbrev Cx.nox (X:Cx):Cx:=X.wish fun _ _=>False
theorem Cx.Ok.wish {X:Cx} (ok:X.Ok) (E:Value→Shared→Prop):(X.wish E).Ok :=
  ⟨ok.mod,ok.kind,ok.glob,ok.blt,ok.above,ok.inj,ok.has,ok.cab,ok.hd,ok.frames,ok.stk,ok.exf,ok.bs,ok.bsz,ok.noex,ok.exfs,ok.qg,ok.frf⟩
theorem Cx.Ok.iy {X:Cx} {E:Value→Shared→Prop} (ok:(X.wish E).Ok):X.Ok :=
  ⟨ok.mod,ok.kind,ok.glob,ok.blt,ok.above,ok.inj,ok.has,ok.cab,ok.hd,ok.frames,ok.stk,ok.exf,ok.bs,ok.bsz,ok.noex,ok.exfs,ok.qg,ok.frf⟩
section
variable {X:Cx} {pins:List (Addr × Obj)} {σ:St} {H:Hp} {s:Shared} {E:Value→Shared→Prop}
theorem Inv.wish (I:Inv X pins σ H s) (E:Value→Shared→Prop):Inv (X.wish E) pins σ H s:=⟨I.ok.wish E,I.os,I.bare,I.base,I.loc,I.cell,I.free,I.freeC,I.pin,I.hok,I.len⟩
theorem Inv.iy (I:Inv (X.wish E) pins σ H s):Inv X pins σ H s:=⟨I.ok.iy,I.os,I.bare,I.base,I.loc,I.cell,I.free,I.freeC,I.pin,I.hok,I.len⟩
theorem SP.iy {D:Ends} {f:Flow} {s':Shared} (h:SP (X.wish E) pins D f s'):SP X pins D f s':=by
  cases f with
  | next=>obtain ⟨σ',H',I,q⟩:=h;exact ⟨σ',H',I.iy,q⟩
  | brk=>obtain ⟨σ',H',I,q⟩:=h;exact ⟨σ',H',I.iy,q⟩
  | cont=>obtain ⟨σ',H',I,q⟩:=h;exact ⟨σ',H',I.iy,q⟩
  | ret u=>obtain ⟨v,σ',H',I,r,q⟩:=h;exact ⟨v,σ',H',I.iy,r,q⟩
theorem PSs.nox {st:List Stmt} {t:TS} (h:PSs X.nox st t):PSs X st t:=fun pins s σ H D I hw =>
  wpAny_mono (h pins s σ H D (I.wish _) hw) (fun _ _ q=>q.iy) fun _ _ z=>False.elim z
end
section
variable {X:Cx} {st:Stmt} {rest:List Stmt} {t u:TS} {e:Expr} {te:TE} {pos:Pos}
def MP:TS:=fun D σ H=>D.nx σ H
def tSeq (t u:TS):TS:=fun D σ H=>t { D with nx:=u D } σ H
theorem aZ:PSs X [] MP:=fun _ _ σ H _ I h=>wpAny_execs_nil ⟨σ,H,I,h⟩
theorem au (h1:PS X st t) (h2:PSs X rest u):PSs X (st :: rest) (tSeq t u):=by
  intro pins s σ H D I h
  refine wpAny_execs_cons (thn (h1 pins s σ H { D with nx:=u D } I h) fun f s1 q=>?_)
  cases f with
  | next =>
    obtain ⟨σ',H',I',q⟩:=q
    exact h2 pins s1 σ' H' D I' q
  | ret v=>exact q
  | brk=>exact q
  | cont=>exact q
theorem aC (h1:PS X st t):PSs X [st] t:=by
  intro pins s σ H D I h
  refine wpAny_execs_cons (thn (h1 pins s σ H D I h) fun f s1 q=>?_)
  cases f with
  | next=>exact wpAny_execs_nil q
  | ret v=>exact q
  | brk=>exact q
  | cont=>exact q
theorem Inv.quiet {pins:List (Addr × Obj)} {σ:St} {H:Hp} {s:Shared} (I:Inv X pins σ H s):interactive X.env=false:=by simp [interactive,I.ok.kind]
def M5 (te:TE):TS:=fun D σ H=>te σ H fun _ H1=>D.nx σ H1
theorem cu (he:PE X e te) (hs:swapsWith e none pos.line X.env=pure false:=by rfl):PS X (.Expr e pos) (M5 te):=by
  intro pins s σ H D I h
  exact wpAny_Expr_any (thn (he pins s σ H _ I h) fun v s1 ⟨x,H1,I1,r1,q1⟩=>⟨σ,H1,I1,q1⟩) I.quiet hs
def tRet (te:TE):TS:=fun D σ H=>te σ H D.rt
theorem aV (he:PE X e te):PS X (.Return (some e) pos) (tRet te):=by
  intro pins s σ H D I h
  exact wpAny_Return_some (thn (he pins s σ H _ I h) fun v s1 ⟨x,H1,I1,r1,q1⟩=>⟨x,σ,H1,I1,r1,q1⟩)
def tIfS (c:TT) (t u:TS):TS:=fun D σ H=>c σ H fun b H1=>if b=true then t D σ H1 else u D σ H1
theorem d8 {c:Expr} {a b:List Stmt} {tc:TT} (hc:PT X c tc) (ha:PSs X a t) (hb:PSs X b u):PS X (.If c a b pos) (tIfS tc t u):=by
  intro pins s σ H D I h
  refine wpAny_If (thn (hc pins s σ H _ I h) fun d s1 ⟨H1,I1,q1⟩=>?_)
  cases d with
  | true=>exact ha pins s1 σ H1 D I1 q1
  | false=>exact hb pins s1 σ H1 D I1 q1
def FP:TS:=fun _ _ _=>False
theorem iR:PS X st FP:=fun _ _ _ _ _ _ h=>h.elim
end
abbrev TG:=V→St→Hp→(St→Hp→Prop)→Prop
abbrev TGs:=List V→St→Hp→(St→Hp→Prop)→Prop
def PG (X:Cx) (target:Expr) (t:TG):Prop :=
  ∀ (pins:List (Addr × Obj)) (s:Shared) (σ:St) (H:Hp) (v:V) (u:Value) (Q:St→Hp→Prop),Inv X pins σ H s→RelV v u→t v σ H Q →
    wpAny (model X.prog X.w) X.A (assign target X.env u) (fun _ s'=>∃ σ' H',Inv X pins σ' H' s'∧Q σ' H') X.xe s
def PGs (X:Cx) (ts:List Expr) (t:TGs):Prop :=
  ∀ (pins:List (Addr × Obj)) (s:Shared) (σ:St) (H:Hp) (vs:List V) (us:List Value) (Q:St→Hp→Prop),Inv X pins σ H s→Vals vs us→t vs σ H Q →
    wpAny (model X.prog X.w) X.A (assignInOrder ((assignEach ts X.env).map (·.2)) us) (fun _ s'=>∃ σ' H',Inv X pins σ' H' s'∧Q σ' H') X.xe s
abbrev PN:=V→V→V→Hp→(Hp→Prop)→Prop
def Qv (X:Cx) (t:PN):Prop :=
  ∀ (pins:List (Addr × Obj)) (s:Shared) (σ:St) (H:Hp) (o i v:V) (ov iv u:Value) (Q:Hp→Prop),Inv X pins σ H s→RelV o ov→RelV i iv→RelV v u→t o i v H Q →
    wpAny (model X.prog X.w) X.A (setItem ov iv u) (fun _ s'=>∃ H',Inv X pins σ H' s'∧Q H') X.xe s
abbrev TIp:=V→V→Hp→VK→Prop
section
variable {X:Cx} {pos:Pos}
def vo (i:Nat):TG:=fun v σ H Q=>Q (σ.set i (some v)) H
theorem dJ {i:Nat} {x:Str} (hN:X.N.Nodup) (hi:X.N[i]?=some x) (hx:Loc X.env.scope x) (hf:X.fn x=true∨X.env.scope.names.lookup x=some .local:=by first | exact .inl rfl | exact .inr rfl | assumption):PG X (.Name x pos) (vo i):=by
  intro pins s σ H v u Q I r h
  exact wpAny_assign_Name (jx I hN hi hx r (fun s' I'=>⟨_,H,I',h⟩) hf)
def gNil:TGs:=fun vs σ H Q=>vs=[]∧Q σ H
def Px (t:TG) (u:TGs):TGs:=fun vs σ H Q=>∃ v r,vs=v :: r∧t v σ H fun σ' H'=>u r σ' H' Q
theorem Ei:PGs X [] gNil:=by
  intro pins s σ H vs us Q I r h
  obtain ⟨e,h⟩:=h
  subst e
  cases r
  exact assignInOrder_nil ⟨σ,H,I,h⟩
theorem jz {e:Expr} {es:List Expr} {t:TG} {u:TGs} (h1:PG X e t) (h2:PGs X es u)
    (hs:(assignEach (e :: es) X.env).map (·.2)=assign e X.env :: (assignEach es X.env).map (·.2):=by rfl):PGs X (e :: es) (Px t u):=by
  intro pins s σ H vs us Q I r h
  obtain ⟨v,vr,e1,h⟩:=h
  subst e1
  cases r with
  | cons r rr =>
    rw [hs]
    refine assignInOrder_cons (thn (h1 pins s σ H _ _ _ I r h) fun _ s1 ⟨σ1,H1,I1,q1⟩=>?_)
    exact h2 pins s1 σ1 H1 _ _ Q I1 rr q1
def gTup (K:PySem.W.Frag) (n:Nat) (t:TGs):TG:=fun v σ H Q=>∃ a xs,v=.ref a∧SqT K H a xs∧xs.length=n∧t xs σ H Q
theorem Gh {es:List Expr} {k:Nat} {t:TGs} {n:Nat} (hc:X.calm=true) (h:PGs X es t)
    (hn:(assignEach es X.env).length=n:=by rfl) (hst:(assignEach es X.env).findIdx? (·.1)=none:=by rfl):PG X (.Tuple es k pos) (gTup X.K n t):=by
  intro pins s σ H v u Q I r hw
  obtain ⟨a,xs,e1,hq,hl,hw⟩:=hw
  subst e1
  cases r
  obtain ⟨its,rv,ht,hz⟩:=I.tuple hq
  refine assign_Tuple_tuple (I.ok.hd hc) ht (by simp [hn,← hl,rv.length]) hst fun h' hx=>?_
  have I1:Inv X pins σ H { s with heap:=h' }:=I.kept (t':=s.toks) fun b o e=>hx b o (Nat.ne_of_lt (Heap.lt_size e)) e
  exact h pins _ σ H xs _ Q I1 (by simpa using rv) hw
def gSub (to ti:TE) (t:PN):TG:=fun v σ H Q=>to σ H fun o H1=>ti σ H1 fun i H2=>t o i v H2 fun H3=>Q σ H3
theorem ni {o i:Expr} {to ti:TE} {t:PN} (ho:PE X o to) (hi:PE X i ti) (hs:Qv X t)
    (ha:∀ v,assign (.Subscript o i pos) X.env v=(do
      let ov ← holding [v] (eval o X.env)
      let iv ← holding [v,ov] (eval i X.env)
      standAt pos
      holding [v,ov,iv] (setItem ov iv v)
      release [v,ov,iv] []):=by intro _;rfl):PG X (.Subscript o i pos) (gSub to ti t):=by
  intro pins s σ H v u Q I r h
  rw [ha]
  refine wpAny_bind (wpAny_holding (thn (ho pins s σ H _ I h) fun ov s1 ⟨x,H1,I1,r1,q1⟩=>?_))
  refine wpAny_bind (wpAny_holding (thn (hi pins s1 σ H1 _ I1 q1) fun iv s2 ⟨y,H2,I2,r2,q2⟩=>?_))
  refine wpAny_bind (wpAny_standAt (wpAny_bind (wpAny_holding (thn (hs pins s2 σ H2 x y v ov iv u _ I2 r1 r2 r q2) fun _ s3 ⟨H3,I3,q3⟩=>?_))))
  exact wpAny_release ⟨σ,H3,I3,q3⟩
def M8 (te:TE) (g:TG):TS:=fun D σ H=>te σ H fun x H1=>g x σ H1 D.nx
theorem lu {tg e:Expr} {te:TE} {g:TG} (he:PE X e te) (hg:PG X tg g) (hs:swapsWithSole [tg] e pos.line X.env=pure false:=by rfl) (hw:swappedStores [tg] e X.env=pure none:=by rfl)
    (h1:(assignEach [tg] X.env).map (·.2)=[assign tg X.env]:=by rfl):PS X (.Assign [tg] e pos) (M8 te g):=by
  intro pins s σ H D I h
  refine wpAny_Assign_stores (thn (he pins s σ H _ I h) fun v s1 ⟨x,H1,I1,r1,q1⟩=>?_) hs hw
  rw [h1]
  exact thn (hg pins s1 σ H1 x v _ I1 r1 q1) fun _ s2 q=>q
theorem bT {i:Nat} {x:Str} {e:Expr} {te:TE} {pos':Pos} (hN:X.N.Nodup) (hi:X.N[i]?=some x) (hx:Loc X.env.scope x) (he:PE X e te) (hs:swapsWith e (some (.Name x pos')) pos.line X.env=pure false:=by rfl) (hf:X.fn x=true∨X.env.scope.names.lookup x=some .local:=by first | exact .inl rfl | exact .inr rfl | assumption) :
    PS X (.Assign [.Name x pos'] e pos) (M8 te (vo i)):=by
  intro pins s σ H D I h
  refine wpAny_Assign_Name (thn (he pins s σ H _ I h) fun v s1 ⟨y,H1,I1,r1,q1⟩=>?_) hs
  exact jx I1 hN hi hx r1 (fun s2 I2=>⟨_,H1,I2,q1⟩) hf
end
section
variable {X:Cx} {pos:Pos}
def FJ (c:TT) (tb:TS):TS:=fun D σ H=>∃ W:Nat→St→Hp→Prop,(∃ m,W m σ H)∧∀ m σ H,W m σ H →
  c σ H fun b H1=>if b=true then ∃ N:St→Hp→Prop,(∀ σ' H',N σ' H'→∃ m',m'<m∧W m' σ' H')∧tb { D with nx:=N,ct:=N,bk:=D.nx } σ H1 else D.nx σ H1
theorem pU {c:Expr} {body:List Stmt} {tc:TT} {tb:TS} (hp:PassesOwn (model X.prog X.w) X.A X.env X.xe) (hc:PT X c tc) (hb:PSs X body tb):PS X (.While c body [] pos) (FJ tc tb):=by
  intro pins s σ H D I h
  obtain ⟨W,⟨m0,w0⟩,turn⟩:=h
  refine wpAny_While (codeAny_whileLoop (fun n s'=>∃ σ' H',Inv X pins σ' H' s'∧W n σ' H') ?_ m0 ⟨σ,H,I,w0⟩)
  rintro n s1 ⟨σ1,H1,I1,w1⟩
  refine wpAny_passesOwn hp (thn (hc pins s1 σ1 H1 _ I1 (turn n σ1 H1 w1)) fun b s2 ⟨H2,I2,q2⟩=>?_)
  cases b with
  | true =>
    obtain ⟨N,hN,q2⟩:=q2
    rw [if_pos rfl]
    refine wpAny_passesOwn hp (thn (hb pins s2 σ1 H2 _ I2 q2) fun f s3 q3=>?_)
    cases f with
    | next =>
      obtain ⟨σ3,H3,I3,n3⟩:=q3
      obtain ⟨m',hm,w3⟩:=hN σ3 H3 n3
      exact ⟨m',hm,σ3,H3,I3,w3⟩
    | cont =>
      obtain ⟨σ3,H3,I3,n3⟩:=q3
      obtain ⟨m',hm,w3⟩:=hN σ3 H3 n3
      exact ⟨m',hm,σ3,H3,I3,w3⟩
    | brk=>exact q3
    | ret v=>exact q3
  | false =>
    rw [if_neg Bool.false_ne_true]
    exact wpAny_execs_nil ⟨σ1,H2,I2,q2⟩
end
structure It where
  go:Nat→Hp→Prop
  yld:Nat→Hp→V→Hp→Prop
  stop:Nat→Hp→Prop
def DP (X:Cx) (pins:List (Addr × Obj)) (H:Hp) (b:Addr):Prop :=
  H b=none∧b≠X.env.locals∧b ∉ X.fs∧(b∈X.ex∨X.s₀.heap.objs.size≤b)∧(∀ x c,X.env.cells.lookup x=some c→c≠b)∧∀ p∈X.pn++pins,p.1≠b
theorem Inv.Mu {X:Cx} {pins:List (Addr × Obj)} {σ:St} {H H':Hp} {s:Shared} {b:Addr} (I:Inv X pins σ H s) (hb:s.heap.objs.size≤b) (hn:H' b=none):DP X pins H' b:=by
  refine ⟨hn,Nat.ne_of_gt (Nat.lt_of_lt_of_le I.lt hb),I.nofs hb,.inr (Nat.le_trans I.sz hb),fun x c e z=>?_,fun p hp z=>?_⟩
  · obtain ⟨v,q⟩:=I.cell x c e
    exact absurd (Nat.lt_of_lt_of_le q.lt (by rw [z];exact hb)) (Nat.lt_irrefl _)
  · exact absurd (Nat.lt_of_lt_of_le (Heap.lt_size (I.pin p hp).1) (by rw [z];exact hb)) (Nat.lt_irrefl _)
structure Turn (P:Program) (w:World) (K:PySem.W.Frag) (tg:Expr) (J:It) (fp:List Addr) (it:Addr) (tn:Nat→Heap→Prop):Prop where
  mem:it∈fp
  obj:∀ i h,tn i h→∀ b∈fp,∃ o,h.get? b=some o∧∀ v,o.data≠.cell v
  keep:∀ i h h',tn i h→(∀ b∈fp,∀ o,h.get? b=some o→h'.get? b=some o)→tn i h'
  item:∀ (X:Cx),X.prog=P→X.w=w→X.K=K→X.calm=true→∀ (i:Nat) (pins:List (Addr × Obj)) (s:Shared) (σ:St) (H:Hp) (E:Value→Shared→Prop),Inv X pins σ H s→(∀ b∈fp,DP X pins H b)→tn i s.heap→J.go i H →
    wpAny (model P w) X.A (pyNext (.ref it)) (fun r s1=>∃ u,r=some u ∧
      wpAny (model P w) X.A (letOwnedTupleGo tg (.ref it) u) (fun _ s2=>∃ x H',Inv X pins σ H' s2∧RelV x u∧J.yld i H x H'∧tn (i + 1) s2.heap∧∀ b∈fp,H' b=none) E s1) E s
  done:∀ (X:Cx),X.prog=P→X.w=w→X.K=K→X.calm=true→∀ (i:Nat) (pins:List (Addr × Obj)) (s:Shared) (σ:St) (H:Hp) (E:Value→Shared→Prop),Inv X pins σ H s→(∀ b∈fp,DP X pins H b)→tn i s.heap→J.stop i H →
    wpAny (model P w) X.A (pyNext (.ref it)) (fun r s1=>r=none∧Inv X pins σ H s1) E s
  self:∀ (A:Around) (i:Nat) (s:Shared) (Q:Value→Shared→Prop) (E:Value→Shared→Prop),tn i s.heap→Q (.ref it) s→wpAny (model P w) A (pyIter (.ref it)) Q E s
abbrev TI:=St→Hp→(It→Hp→Prop)→Prop
def PIE (X:Cx) (pins:List (Addr × Obj)) (σ:St) (tg:Expr) (R:It→Hp→Prop) (itv:Value) (s2:Shared):Prop :=
  ∃ (it:Addr) (fp:List Addr) (tn:Nat→Heap→Prop) (J:It) (H':Hp),itv=.ref it∧Inv X pins σ H' s2∧Turn X.prog X.w X.K tg J fp it tn∧tn 0 s2.heap∧(∀ b∈fp,DP X pins H' b)∧R J H'
def PI (X:Cx) (tg iter:Expr) (wi:TI):Prop :=
  ∀ (pins:List (Addr × Obj)) (s:Shared) (σ:St) (H:Hp) (R:It→Hp→Prop),Inv X pins σ H s→wi σ H R →
    wpAny (model X.prog X.w) X.A (eval iter X.env) (fun v s1=>wpAny (model X.prog X.w) X.A (pyIter v) (PIE X pins σ tg R) X.xe s1) X.xe s
theorem vh {M:Model} {A:Around} {E:Value→Shared→Prop} {s:Shared} {tg:Expr} {it:Addr} {u:Value} {o:Obj} {n:String} {vs:Array Value} {Q:Unit→Shared→Prop} (ho:s.heap.get? it=some o) (hc:o.cls=.type n) (hd:o.data=.fields vs)
    (hn:["enumerate","zip","dict_itemiterator","dict_reverseitemiterator","odict_iterator","itertools.zip_longest","itertools.pairwise"].contains n=false) (hQ:Q () s):wpAny M A (letOwnedTupleGo tg (.ref it) u) Q E s:=by
  unfold letOwnedTupleGo
  cases tg <;> first
    | exact wpAny_pure hQ
    | (cases u <;> first
        | exact wpAny_pure hQ
        | (refine wpAny_bind (wpAny_load ho ?_)
           rw [hc,hd]
           show wpAny M A (if (["enumerate","zip","dict_itemiterator","dict_reverseitemiterator","odict_iterator","itertools.zip_longest","itertools.pairwise"].contains n && vs[0]? == some (rawInt _))=true then _ else _) Q E s
           rw [if_neg (by intro h;rw [hn,Bool.false_and] at h;cases h)]
           exact wpAny_pure hQ))
def Itl (K:PySem.W.Frag) (a:Addr):It :=
  ⟨fun i H=>∃ xs x,SqL K H a xs∧xs[i]?=some x,fun i H x H'=>H'=H∧∀ xs,SqL K H a xs→xs[i]?=some x,fun i H=>∃ xs,SqL K H a xs∧xs.length≤i⟩
def Itt (K:PySem.W.Frag) (a:Addr):It :=
  ⟨fun i H=>∃ xs x,SqT K H a xs∧xs[i]?=some x,fun i H x H'=>H'=H∧∀ xs,SqT K H a xs→xs[i]?=some x,fun i H=>∃ xs,SqT K H a xs∧xs.length≤i⟩
def Itr (lo:Int) (n:Nat):It:=⟨fun i _=>i<n,fun i H x H'=>H'=H∧x=.int (lo + i),fun i _=>n≤i⟩
theorem qU {P:Program} {w:World} {K:PySem.W.Frag} {tg:Expr} (a it:Addr):Turn P w K tg (Itl K a) [it] it (fun i h=>h.IsListIter it a i) where
  mem:=by simp
  obj:=fun i h st b hb=>by
    have e:b=it:=by simpa using hb
    subst e
    obtain ⟨o,e,c,d⟩:=st
    exact ⟨o,e,fun v z=>by rw [d] at z;cases z⟩
  keep:=fun i h h' st k=>st.at fun o e=>k it (by simp) o e
  item:=by
    intro X hP hw hK hc i pins s σ H E I hf st hg
    subst hP hw hK
    obtain ⟨xs,x,hq,hx⟩:=hg
    obtain ⟨its,rv,p,hz⟩:=I.list hq
    obtain ⟨u,hu,ru⟩:=rv.get hx
    obtain ⟨f0,f1,f2,f3,f4,f5⟩:=hf it (by simp)
    refine wpAny_pyNext_list_item st p.isList (x:=u) (by simpa using hu) fun h' st' sb=>?_
    have I1:Inv X pins σ H { s with heap:=h' }:=I.turned (t':=s.toks) (fun b o hb e=>(sb.2 b hb).trans e) f0 f1 f3 f4 f5
    obtain ⟨o,e,c,d⟩:=id st'
    exact ⟨u,rfl,vh (s:={ s with heap:=h' }) e c d (by decide) ⟨x,H,I1,ru,⟨rfl,fun ys hy=>by rw [I.u6 hy hq];exact hx⟩,st',fun b hb=>(hf b hb).1⟩⟩
  done:=by
    intro X hP hw hK hc i pins s σ H E I hf st hg
    subst hP hw hK
    obtain ⟨xs,hq,hx⟩:=hg
    obtain ⟨its,rv,p,hz⟩:=I.list hq
    obtain ⟨f0,f1,f2,f3,f4,f5⟩:=hf it (by simp)
    have hl:=rv.length
    exact wpAny_pyNext_list_end (I.ok.hd hc) st p.isList (by simp;omega) fun h' eb=>⟨rfl,I.turned (t':=s.toks) (fun b o hb e=>eb b o hb e) f0 f1 f3 f4 f5⟩
  self:=fun _ _ _ _ _ st h=>wpAny_pyIter_listiter st h
theorem qz {P:Program} {w:World} {K:PySem.W.Frag} {tg:Expr} (a it:Addr):Turn P w K tg (Itt K a) [it] it (fun i h=>h.IsTupleIter it a i) where
  mem:=by simp
  obj:=fun i h st b hb=>by
    have e:b=it:=by simpa using hb
    subst e
    obtain ⟨o,e,c,d⟩:=st
    exact ⟨o,e,fun v z=>by rw [d] at z;cases z⟩
  keep:=fun i h h' st k=>st.at fun o e=>k it (by simp) o e
  item:=by
    intro X hP hw hK hc i pins s σ H E I hf st hg
    subst hP hw hK
    obtain ⟨xs,x,hq,hx⟩:=hg
    obtain ⟨its,rv,p,hz⟩:=I.tuple hq
    obtain ⟨u,hu,ru⟩:=rv.get hx
    obtain ⟨f0,f1,f2,f3,f4,f5⟩:=hf it (by simp)
    refine wpAny_pyNext_tuple_item st (show s.heap.IsTuple a its.toArray from p) (x:=u) (by simpa using hu) fun h' st' sb=>?_
    have I1:Inv X pins σ H { s with heap:=h' }:=I.turned (t':=s.toks) (fun b o hb e=>(sb.2 b hb).trans e) f0 f1 f3 f4 f5
    obtain ⟨o,e,c,d⟩:=id st'
    exact ⟨u,rfl,vh (s:={ s with heap:=h' }) e c d (by decide) ⟨x,H,I1,ru,⟨rfl,fun ys hy=>by rw [I.qW hy hq];exact hx⟩,st',fun b hb=>(hf b hb).1⟩⟩
  done:=by
    intro X hP hw hK hc i pins s σ H E I hf st hg
    subst hP hw hK
    obtain ⟨xs,hq,hx⟩:=hg
    obtain ⟨its,rv,p,hz⟩:=I.tuple hq
    obtain ⟨f0,f1,f2,f3,f4,f5⟩:=hf it (by simp)
    have hl:=rv.length
    exact wpAny_pyNext_tuple_end (I.ok.hd hc) st (show s.heap.IsTuple a its.toArray from p) (by simp;omega) fun h' eb=>⟨rfl,I.turned (t':=s.toks) (fun b o hb e=>eb b o hb e) f0 f1 f3 f4 f5⟩
  self:=fun _ _ _ _ _ st h=>wpAny_pyIter_tupleiter st h
theorem qC {P:Program} {w:World} {K:PySem.W.Frag} {tg:Expr} (it:Addr) (lo:Int) (n:Nat):Turn P w K tg (Itr lo n) [it] it (fun i h=>IsRangeIter h it (lo + (i:Nat) * 1) ((n:Int) - (i:Nat)) 1) where
  mem:=by simp
  obj:=fun i h st b hb=>by
    have e:b=it:=by simpa using hb
    subst e
    exact ⟨_,st,fun v z=>by
      have z':Data.fields _=Data.cell v:=z
      cases z'⟩
  keep:=fun i h h' st k=>k it (by simp) _ st
  item:=by
    intro X hP hw hK hc i pins s σ H E I hf st hg
    subst hP hw hK
    obtain ⟨f0,f1,f2,f3,f4,f5⟩:=hf it (by simp)
    have W:=Walks.range (prog:=X.prog) (w:=X.w) (I.ok.hd hc) it lo 1 n
    refine W.item i s _ _ hg st fun v h' tk hv st' kk=>?_
    obtain ⟨t,rfl⟩:=hv
    have I1:Inv X pins σ H { s with heap:=h',toks:=tk }:=I.turned (fun b o hb e=>kk b o (by simpa using hb) e) f0 f1 f3 f4 f5
    refine ⟨_,rfl,vh (s:={ s with heap:=h',toks:=tk }) (n:="range_iterator") st' rfl rfl (by decide) ⟨.int (lo + i),H,I1,⟨t,?_⟩,⟨rfl,rfl⟩,st',fun b hb=>(hf b hb).1⟩⟩
    rw [Int.mul_one]
  done:=by
    intro X hP hw hK hc i pins s σ H E I hf st hg
    subst hP hw hK
    obtain ⟨f0,f1,f2,f3,f4,f5⟩:=hf it (by simp)
    exact wpAny_pyNext_range_end (I.ok.hd hc) st (by have:n≤i:=hg;omega) fun h' eb=>⟨rfl,I.turned (t':=s.toks) (fun b o hb e=>eb b o hb e) f0 f1 f3 f4 f5⟩
  self:=fun _ _ _ _ _ st h=>wpAny_pyIter_rangeiter st h
end L2
namespace L2
open PySem PySem.Spec PyProof.Rows
section
variable {X:Cx} {tg:Expr}
def Np (K:PySem.W.Frag) (tl:TE):TI:=fun σ H R=>tl σ H fun x H1=>∃ a,x=.ref a∧(∃ xs,SqL K H1 a xs)∧R (Itl K a) H1
def iTup (K:PySem.W.Frag) (tl:TE):TI:=fun σ H R=>tl σ H fun x H1=>∃ a,x=.ref a∧(∃ xs,SqT K H1 a xs)∧R (Itt K a) H1
theorem oE {l:Expr} {tl:TE} (hl:PE X l tl):PI X tg l (Np X.K tl):=by
  intro pins s σ H R I h
  refine thn (hl pins s σ H _ I h) fun v s1 ⟨x,H1,I1,r1,q1⟩=>?_
  obtain ⟨a,e,⟨xs,hq⟩,q⟩:=q1
  subst e
  cases r1
  obtain ⟨its,rv,p,hz⟩:=I1.list hq
  refine wpAny_pyIter_list p.isList ?_
  refine ⟨s1.heap.objs.size,[s1.heap.objs.size],_,_,H1,rfl,I1.kept (t':=s1.toks) fun b o e=>Heap.get?_push_of_some _ e,qU a _,⟨_,Heap.get?_push_size _ rfl,rfl,rfl⟩,fun b hb=>?_,q⟩
  have e:b=s1.heap.objs.size:=by simpa using hb
  subst e
  exact I1.Mu (Nat.le_refl _) (I1.hok.fresh (Nat.le_refl _))
theorem Gf {l:Expr} {tl:TE} (hl:PE X l tl):PI X tg l (iTup X.K tl):=by
  intro pins s σ H R I h
  refine thn (hl pins s σ H _ I h) fun v s1 ⟨x,H1,I1,r1,q1⟩=>?_
  obtain ⟨a,e,⟨xs,hq⟩,q⟩:=q1
  subst e
  cases r1
  obtain ⟨its,rv,p,hz⟩:=I1.tuple hq
  refine wpAny_pyIter_tuple (show s1.heap.IsTuple a its.toArray from p) ?_
  refine ⟨s1.heap.objs.size,[s1.heap.objs.size],_,_,H1,rfl,I1.kept (t':=s1.toks) fun b o e=>Heap.get?_push_of_some _ e,qz a _,⟨_,Heap.get?_push_size _ rfl,rfl,rfl⟩,fun b hb=>?_,q⟩
  have e:b=s1.heap.objs.size:=by simpa using hb
  subst e
  exact I1.Mu (Nat.le_refl _) (I1.hok.fresh (Nat.le_refl _))
theorem pR {pins:List (Addr × Obj)} {σ:St} {H:Hp} {s:Shared} {R:It→Hp→Prop} {E:Value→Shared→Prop} {lo hi:Int} {t u v:Tok} {tk:Nat} (I:Inv X pins σ H s) (h1:-(2 ^ 62)≤lo) (h2:lo<2 ^ 62) (h3:-(2 ^ 62)≤hi) (h4:hi<2 ^ 62)
    (q:R (Itr lo (hi - lo).toNat) H):wpAny (model X.prog X.w) X.A (pyIter (.ref s.heap.objs.size)) (PIE X pins σ tg R) E { s with heap:=s.heap.push { cls:=.type "range",data:=.fields #[.int lo t,.int hi u,.int 1 v] },toks:=tk }:=by
  refine wpAny_pyIter_range (IsRange.new ..) (small_one h1 h2 h3 h4) ?_
  have I1:Inv X pins σ H { s with heap:=s.heap.push { cls:=.type "range",data:=.fields #[.int lo t,.int hi u,.int 1 v] },toks:=tk }:=I.kept fun b o e=>Heap.get?_push_of_some _ e
  refine ⟨(s.heap.push { cls:=.type "range",data:=.fields #[.int lo t,.int hi u,.int 1 v] }).objs.size,[(s.heap.push { cls:=.type "range",data:=.fields #[.int lo t,.int hi u,.int 1 v] }).objs.size],_,_,H,rfl,
    I1.kept (t':=tk) fun b o e=>Heap.get?_push_of_some _ e,qC _ lo (hi - lo).toNat,?_,fun b hb=>?_,q⟩
  · have e1:lo + ((0:Nat):Int) * 1=lo:=by simp
    have e2:(((hi - lo).toNat:Nat):Int) - ((0:Nat):Int)=Builtin.Range.rangeSize lo hi 1:=by rw [rangeSize_one];split <;> omega
    show IsRangeIter _ _ (lo + ((0:Nat):Int) * 1) ((((hi - lo).toNat:Nat):Int) - ((0:Nat):Int)) 1
    rw [e1,e2]
    exact Heap.get?_push_size _ rfl
  · have e:b=(s.heap.push { cls:=.type "range",data:=.fields #[.int lo t,.int hi u,.int 1 v] }).objs.size:=by simpa using hb
    subst e
    exact I1.Mu (Nat.le_refl _) (I1.hok.fresh (Nat.le_refl _))
def Nm (ta:TA):TI:=fun σ H R=>ta σ H fun vs H1=>∃ j:Int,vs=[.int j]∧-(2 ^ 62)≤j∧j<2 ^ 62∧R (Itr 0 j.toNat) H1
def Nk (ta:TA):TI:=fun σ H R=>ta σ H fun vs H1=>∃ i j:Int,vs=[.int i,.int j]∧(-(2 ^ 62)≤i∧i<2 ^ 62∧-(2 ^ 62)≤j∧j<2 ^ 62)∧R (Itr i (j - i).toNat) H1
theorem gn {a:Expr} {ta:TA} {p pos:Pos} (hg:Gl X "range") (hm:X.mg "range"=none) (ha:PA X [a] ta) (hs:starEach [a] X.env=[(false,eval a X.env)]:=by rfl):PI X tg (.Call (.Name "range" p) [a] [] pos) (Nm ta):=by
  intro pins s σ H R I h
  refine Call_ (nC I hg hm boot_range (PyProof.Rows.callWith_type1 (thn (ha pos pins s σ H _ I h) fun us s1 ⟨vs,H1,I1,r1,q1⟩=>?_) hs rfl))
  obtain ⟨j,e,q1,q2,q⟩:=q1
  subst e
  cases r1 with
  | cons r rr =>
    cases rr
    obtain ⟨t,rfl⟩:=r
    exact call_range_1 (pR I1 (by omega) (by omega) q1 q2 (by simpa using q))
theorem sy {a b:Expr} {ta:TA} {p pos:Pos} (hg:Gl X "range") (hm:X.mg "range"=none) (ha:PA X [a,b] ta) (hs:starEach [a,b] X.env=[(false,eval a X.env),(false,eval b X.env)]:=by rfl) (hs2:starEach [b] X.env=[(false,eval b X.env)]:=by rfl) :
    PI X tg (.Call (.Name "range" p) [a,b] [] pos) (Nk ta):=by
  intro pins s σ H R I h
  refine Call_ (nC I hg hm boot_range (PyProof.Rows.callWith_type1 (thn (ha pos pins s σ H _ I h) fun us s1 ⟨vs,H1,I1,r1,q1⟩=>?_) (by rw [hs,hs2]) (by rw [hs2];rfl)))
  obtain ⟨i,j,e,⟨q1,q2,q3,q4⟩,q⟩:=q1
  subst e
  cases r1 with
  | cons r rr =>
    cases rr with
    | cons r' rr =>
      cases rr
      obtain ⟨t,rfl⟩:=r
      obtain ⟨t',rfl⟩:=r'
      exact call_range_2 (pR I1 q1 q2 q3 q4 q)
def tFor (wi:TI) (g:TG) (tb:TS):TS:=fun D σ H=>wi σ H fun J H1=>∃ W:Nat→Nat→St→Hp→Prop,(∃ m,W 0 m σ H1)∧∀ i m σ H,W i m σ H →
  (J.stop i H∧D.nx σ H)∨(J.go i H∧∃ N:St→Hp→Prop,(∀ σ' H',N σ' H'→∃ m',m'<m∧W (i + 1) m' σ' H')∧∀ x H',J.yld i H x H'→g x σ H' fun σ2 H2=>tb { D with nx:=N,ct:=N,bk:=D.nx } σ2 H2)
def m9 (fp:List Addr) (h:Heap):List (Addr × Obj):=fp.filterMap fun b=>(h.get? b).map fun o=>(b,o)
theorem gY {fp:List Addr} {h:Heap} {b:Addr} {o:Obj} (hb:b∈fp) (e:h.get? b=some o):(b,o)∈m9 fp h:=List.mem_filterMap.mpr ⟨b,hb,by rw [e];rfl⟩
theorem sV {fp:List Addr} {h:Heap} {p:Addr × Obj} (hp:p∈m9 fp h):p.1∈fp∧h.get? p.1=some p.2:=by
  obtain ⟨b,hb,e⟩:=List.mem_filterMap.mp hp
  cases q:h.get? b with
  | none=>rw [q] at e;cases e
  | some o =>
    rw [q] at e
    have e':(b,o)=p:=Option.some.inj e
    subst e'
    exact ⟨hb,q⟩
theorem Inv.pinned {pins:List (Addr × Obj)} {σ:St} {H:Hp} {s:Shared} {fp:List Addr} (I:Inv X pins σ H s) (hf:∀ b∈fp,DP X pins H b) (ho:∀ b∈fp,∃ o,s.heap.get? b=some o∧∀ v,o.data≠.cell v):Inv X (pins++m9 fp s.heap) σ H s :=
  I.su fun p hp=>(List.mem_append.mp hp).elim (fun z=>I.pin p (List.mem_append_right _ z)) fun z=>by
    obtain ⟨hb,e⟩:=sV z
    obtain ⟨f0,f1,f2,_⟩:=hf p.1 hb
    obtain ⟨o,e',d⟩:=ho p.1 hb
    rw [e] at e';cases e'
    exact ⟨e,f0,f1,f2,d⟩
theorem Inv.jw {pins pl:List (Addr × Obj)} {σ:St} {H:Hp} {s:Shared} (I:Inv X (pins++pl) σ H s):Inv X pins σ H s:=I.su fun p hp=>I.pin p (List.mem_append_right _ (List.mem_append_left _ hp))
theorem pX {iter:Expr} {body:List Stmt} {wi:TI} {g:TG} {tb:TS} {pos:Pos} (hp:PassesOwn (model X.prog X.w) X.A X.env X.xe) (hc:X.calm=true) (hi:PI X tg iter wi) (hg:PG X tg g) (hb:PSs X body tb)
    (hs:∀ x,foldedSetIterable iter X.env x=pure x:=by intro _;rfl):PS X (.For tg iter body [] pos) (tFor wi g tb):=by
  intro pins s σ H D I h
  refine wpAny_For (thn (hi pins s σ H _ I h) fun v s1 h1=>thn h1 fun itv s2 h2=>?_) hs
  obtain ⟨it,fp,tn,J,H2,e,I2,T,st2,f2,W,⟨m0,w0⟩,turn⟩:=h2
  subst e
  have stat:∀ {H':Hp},(∀ b∈fp,H' b=none)→∀ b∈fp,DP X pins H' b:=fun hn b hb=>⟨hn b hb,(f2 b hb).2⟩
  refine codeAny_forLoop_any (fun n s'=>∃ i σ' H',Inv X pins σ' H' s'∧tn i s'.heap∧(∀ b∈fp,H' b=none)∧W i n σ' H') ?_ m0 ⟨0,σ,H2,I2,st2,fun b hb=>(f2 b hb).1,w0⟩
  rintro n s3 ⟨i,σ3,H3,I3,st3,fr3,w3⟩
  rcases turn i n σ3 H3 w3 with ⟨stop,qn⟩ | ⟨go,N,hN,step⟩
  · refine wpAny_passesOwn hp (thn (T.done X rfl rfl rfl hc i pins s3 σ3 H3 X.xe I3 (stat fr3) st3 stop) fun r s4 ⟨hr,I4⟩=>?_)
    subst hr
    exact wpAny_execs_nil ⟨σ3,H3,I4,qn⟩
  · refine wpAny_passesOwn hp (thn (T.item X rfl rfl rfl hc i pins s3 σ3 H3 X.xe I3 (stat fr3) st3 go) fun r s4 ⟨u,hr,h4⟩=>?_)
    subst hr
    refine wpAny_passesOwn hp (thn h4 fun _ s5 ⟨x,H5,I5,r5,y5,st5,fr5⟩=>?_)
    have I5':=I5.pinned (stat fr5) (T.obj _ _ st5)
    refine wpAny_passesOwn hp (thn (hg _ s5 σ3 H5 x u _ I5' r5 (step x H5 y5)) fun _ s6 ⟨σ6,H6,I6,q6⟩=>?_)
    refine wpAny_passesOwn hp (thn (hb _ s6 σ6 H6 _ I6 q6) fun f s7 q7=>?_)
    have again:∀ {σ7:St} {H7:Hp},Inv X (pins++m9 fp s5.heap) σ7 H7 s7→N σ7 H7→∃ m,m<n∧∃ i σ' H',Inv X pins σ' H' s7∧tn i s7.heap∧(∀ b∈fp,H' b=none)∧W i m σ' H':=fun {σ7 H7} I7 n7=>by
      obtain ⟨m',hm,w7⟩:=hN σ7 H7 n7
      refine ⟨m',hm,i + 1,σ7,H7,I7.jw,T.keep _ _ _ st5 fun b hb o e=>(I7.pin (b,o) (List.mem_append_right _ (List.mem_append_right _ (gY hb e)))).1,fun b hb=>?_,w7⟩
      obtain ⟨o,e,d⟩:=T.obj _ _ st5 b hb
      exact (I7.pin (b,o) (List.mem_append_right _ (List.mem_append_right _ (gY hb e)))).2.1
    cases f with
    | next=>obtain ⟨σ7,H7,I7,n7⟩:=q7;exact again I7 n7
    | cont=>obtain ⟨σ7,H7,I7,n7⟩:=q7;exact again I7 n7
    | brk=>obtain ⟨σ7,H7,I7,q7⟩:=q7;exact ⟨σ7,H7,I7.jw,q7⟩
    | ret v=>obtain ⟨x7,σ7,H7,I7,r7,q7⟩:=q7;exact ⟨x7,σ7,H7,I7.jw,r7,q7⟩
end
theorem qj {K:PySem.W.Frag} {a:Addr} {xs:List V} {g:TG} {tb:TS} {D:Ends} {σ:St} {H:Hp} (Pv:Nat→St→Hp→Prop) (h0:Pv 0 σ H) (hl:∀ i σ H,i≤xs.length→Pv i σ H→SqL K H a xs)
    (hs:∀ i x σ H,xs[i]?=some x→Pv i σ H→g x σ H fun σ2 H2=>tb { D with nx:=Pv (i + 1),ct:=Pv (i + 1),bk:=D.nx } σ2 H2) (hd:∀ σ H,Pv xs.length σ H→D.nx σ H) :
    ∃ W:Nat→Nat→St→Hp→Prop,(∃ m,W 0 m σ H)∧∀ i m σ H,W i m σ H →
      ((Itl K a).stop i H∧D.nx σ H)∨((Itl K a).go i H∧∃ N:St→Hp→Prop,(∀ σ' H',N σ' H'→∃ m',m'<m∧W (i + 1) m' σ' H')∧∀ x H',(Itl K a).yld i H x H'→g x σ H' fun σ2 H2=>tb { D with nx:=N,ct:=N,bk:=D.nx } σ2 H2):=by
  refine ⟨fun i m σ H=>m=xs.length - i∧i≤xs.length∧Pv i σ H,⟨xs.length,by simp,Nat.zero_le _,h0⟩,?_⟩
  rintro i m σ H ⟨rfl,hi,p⟩
  have q:=hl i σ H hi p
  by_cases hlt:i<xs.length
  · refine .inr ⟨⟨xs,xs[i],q,by simp [hlt]⟩,Pv (i + 1),fun σ' H' p'=>⟨xs.length - (i + 1),by omega,rfl,hlt,p'⟩,fun x H' y=>?_⟩
    obtain ⟨e,y⟩:=y
    subst e
    exact hs i x σ _ (y xs q) p
  · have e:i=xs.length:=by omega
    subst e
    exact .inl ⟨⟨xs,q,Nat.le_refl _⟩,hd σ H p⟩
theorem nF {lo:Int} {n:Nat} {g:TG} {tb:TS} {D:Ends} {σ:St} {H:Hp} (Pv:Nat→St→Hp→Prop) (h0:Pv 0 σ H)
    (hs:∀ i σ H,i<n→Pv i σ H→g (.int (lo + i)) σ H fun σ2 H2=>tb { D with nx:=Pv (i + 1),ct:=Pv (i + 1),bk:=D.nx } σ2 H2) (hd:∀ σ H,Pv n σ H→D.nx σ H) :
    ∃ W:Nat→Nat→St→Hp→Prop,(∃ m,W 0 m σ H)∧∀ i m σ H,W i m σ H →
      ((Itr lo n).stop i H∧D.nx σ H)∨((Itr lo n).go i H∧∃ N:St→Hp→Prop,(∀ σ' H',N σ' H'→∃ m',m'<m∧W (i + 1) m' σ' H')∧∀ x H',(Itr lo n).yld i H x H'→g x σ H' fun σ2 H2=>tb { D with nx:=N,ct:=N,bk:=D.nx } σ2 H2):=by
  refine ⟨fun i m σ H=>m=n - i∧i≤n∧Pv i σ H,⟨n,by simp,Nat.zero_le _,h0⟩,?_⟩
  rintro i m σ H ⟨rfl,hi,p⟩
  by_cases hlt:i<n
  · refine .inr ⟨hlt,Pv (i + 1),fun σ' H' p'=>⟨n - (i + 1),by omega,rfl,hlt,p'⟩,fun x H' y=>?_⟩
    obtain ⟨e,y⟩:=y
    subst e y
    exact hs i σ _ hlt p
  · have e:i=n:=by omega
    subst e
    exact .inl ⟨Nat.le_refl _,hd σ H p⟩
end L2
namespace L2
open PySem PySem.Spec PyProof.Rows
abbrev R2:=V→V→Hp→VK→Prop
def OpR (X:Cx) (f:Value→Value→Sem Value) (r:R2):Prop :=
  ∀ (pins:List (Addr × Obj)) (s:Shared) (σ:St) (H:Hp) (x y:V) (v u:Value) (Q:VK),Inv X pins σ H s→RelV x v→RelV y u→r x y H Q →
    wpAny (model X.prog X.w) X.A (f v u) (EP X pins σ Q) X.xe s
def UnR (X:Cx) (f:Value→Sem Value) (r:V→Hp→VK→Prop):Prop :=
  ∀ (pins:List (Addr × Obj)) (s:Shared) (σ:St) (H:Hp) (x:V) (v:Value) (Q:VK),Inv X pins σ H s→RelV x v→r x H Q →
    wpAny (model X.prog X.w) X.A (f v) (EP X pins σ Q) X.xe s
def j5 (X:Cx) (f:Value) (r:List V→Hp→VK→Prop):Prop :=
  ∀ (pins:List (Addr × Obj)) (s:Shared) (σ:St) (H:Hp) (xs:List V) (us:List Value) (Q:VK),Inv X pins σ H s→Vals xs us→r xs H Q →
    wpAny (model X.prog X.w) X.A (call f us) (EP X pins σ Q) X.xe s
def tOp (r:R2) (ta tb:TE):TE:=fun σ H Q=>ta σ H fun x H1=>tb σ H1 fun y H2=>r x y H2 Q
def tUn (r:V→Hp→VK→Prop) (ta:TE):TE:=fun σ H Q=>ta σ H fun x H1=>r x H1 Q
def rI (C:Int→Int→Prop) (g:Int→Int→V):R2:=fun x y H Q=>∃ i j,x=.int i∧y=.int j∧C i j∧Q (g i j) H
def rI0 (g:Int→Int→V):R2:=fun x y H Q=>∃ i j,x=.int i∧y=.int j∧Q (g i j) H
def rU (g:Int→V):V→Hp→VK→Prop:=fun x H Q=>∃ i,x=.int i∧Q (g i) H
section
variable {X:Cx} {a b c:Expr} {ta tb tc:TE} {pos:Pos}
theorem Mw (ha:PE X a ta) (hb:PE X b tb) {pins:List (Addr × Obj)} {s:Shared} {σ:St} {H:Hp} {R:V→V→Hp→Prop} (I:Inv X pins σ H s)
    (h:ta σ H fun x H1=>tb σ H1 fun y H2=>R x y H2) {Q:Value→Shared→Prop} {f:Value→Value→Sem Value}
    (hf:∀ v u s2 x y H2,Inv X pins σ H2 s2→RelV x v→RelV y u→R x y H2→wpAny (model X.prog X.w) X.A (f v u) Q X.xe s2) :
    wpAny (model X.prog X.w) X.A (eval a X.env) (fun v s₁=>wpAny (model X.prog X.w) X.A (eval b X.env) (fun u s₂=>wpAny (model X.prog X.w) X.A (f v u) Q X.xe s₂) X.xe s₁) X.xe s:=by
  refine thn (ha pins s σ H _ I h) fun v s1 ⟨x,H1,I1,r1,q1⟩=>?_
  refine thn (hb pins s1 σ H1 _ I1 q1) fun u s2 ⟨y,H2,I2,r2,q2⟩=>?_
  exact hf v u s2 x y H2 I2 r1 r2 q2
theorem bJ {op:Operator} {r:R2} (ho:OpR X (binaryOp op) r) (ha:PE X a ta) (hb:PE X b tb):PE X (.BinOp a op b pos) (tOp r ta tb):=by
  intro pins s σ H Q I h
  exact wpAny_BinOp (Mw ha hb I h fun v u s2 x y H2 I2 rx ry q=>ho pins s2 σ H2 x y v u Q I2 rx ry q)
theorem j8 {op:UnaryOp} {r:V→Hp→VK→Prop} (ho:UnR X (unaryOp op) r) (ha:PE X a ta):PE X (.UnaryOp op a pos) (tUn r ta):=by
  intro pins s σ H Q I h
  exact UnaryOp_ (thn (ha pins s σ H _ I h) fun v s1 ⟨x,H1,I1,r1,q1⟩=>ho pins s1 σ H1 x v Q I1 r1 q1)
theorem opI {f:Value→Value→Sem Value} {C:Int→Int→Prop} {g:Int→Int→Int}
    (rule:∀ (i j:Int) (t u:Tok) (s:Shared) (Q:Value→Shared→Prop) (E:Value→Shared→Prop),C i j→Q (.int (g i j) s.toks) { s with toks:=s.toks + 1 }→wpAny (model X.prog X.w) X.A (f (.int i t) (.int j u)) Q E s) :
    OpR X f (rI C fun i j=>.int (g i j)):=by
  intro pins s σ H x y v u Q I rx ry h
  obtain ⟨i,j,rfl,rfl,hc,q⟩:=h
  obtain ⟨t,rfl⟩:=rx
  obtain ⟨t',rfl⟩:=ry
  exact rule i j t t' s _ _ hc ⟨.int (g i j),H,I.tok _,⟨_,rfl⟩,q⟩
theorem Qj {f:Value→Value→Sem Value} {g:Int→Int→Int}
    (rule:∀ (i j:Int) (t u:Tok) (s:Shared) (Q:Value→Shared→Prop) (E:Value→Shared→Prop),Q (.int (g i j) s.toks) { s with toks:=s.toks + 1 }→wpAny (model X.prog X.w) X.A (f (.int i t) (.int j u)) Q E s) :
    OpR X f (rI0 fun i j=>.int (g i j)):=by
  intro pins s σ H x y v u Q I rx ry h
  obtain ⟨i,j,rfl,rfl,q⟩:=h
  obtain ⟨t,rfl⟩:=rx
  obtain ⟨t',rfl⟩:=ry
  exact rule i j t t' s _ _ ⟨.int (g i j),H,I.tok _,⟨_,rfl⟩,q⟩
theorem Ng {f:Value→Value→Sem Value} {g:Int→Int→Bool}
    (rule:∀ (i j:Int) (t u:Tok) (s:Shared) (Q:Value→Shared→Prop) (E:Value→Shared→Prop),Q (.bool (g i j)) s→wpAny (model X.prog X.w) X.A (f (.int i t) (.int j u)) Q E s) :
    OpR X f (rI0 fun i j=>.bl (g i j)):=by
  intro pins s σ H x y v u Q I rx ry h
  obtain ⟨i,j,rfl,rfl,q⟩:=h
  obtain ⟨t,rfl⟩:=rx
  obtain ⟨t',rfl⟩:=ry
  exact rule i j t t' s _ _ ⟨.bl (g i j),H,I,rfl,q⟩
def CDiv (i j:Int):Prop:=0<j∧j<1073741824
def CPow (i j:Int):Prop:=0≤j∧j≤1000000∧i.natAbs<2 ^ 64
def P0 (i j:Int):Prop:=(-(2 ^ 64)<i∧i<2 ^ 64)∨(-(2 ^ 64)<j∧j<2 ^ 64)
theorem P0.ok {i j:Int} (h:P0 i j):IntMulOk i j:=by
  rcases h with ⟨h1,h2⟩ | ⟨h1,h2⟩
  · exact .of_left (intBits_le_64 h1 h2)
  · exact .of_right (intBits_le_64 h1 h2)
theorem jm:OpR X (binaryOp .Add) (rI0 fun i j=>.int (i + j)):=Qj fun _ _ _ _ _ _ _ q=>add_int q
theorem vQ:OpR X (binaryOp .Sub) (rI0 fun i j=>.int (i - j)):=Qj fun _ _ _ _ _ _ _ q=>sub_int q
theorem iC:OpR X (binaryOp .Mult) (rI P0 fun i j=>.int (i * j)):=opI fun _ _ _ _ _ _ _ hc q=>mul_int q hc.ok
theorem jP:OpR X (binaryOp .FloorDiv) (rI CDiv fun i j=>.int (i / j)):=opI fun i j _ _ _ _ _ hc q=>by
  have h1:(0:Int)<j:=hc.1
  have h2:j<1073741824:=hc.2
  exact floordiv_int (by omega) (by rw [Int.fdiv_eq_ediv_of_nonneg i (by omega)];exact q) (.inl (PyProof.noPylong_small (by omega)))
theorem cV:OpR X (binaryOp .Mod) (rI (fun _ j=>0<j) fun i j=>.int (i % j)):=opI fun i j _ _ _ _ _ hc q=>by
  have h1:(0:Int)<j:=hc
  exact mod_int' (by omega) (by rw [Int.fmod_eq_emod_of_nonneg i (by omega)];exact q)
theorem vR:OpR X (binaryOp .Pow) (rI CPow fun i j=>.int (i ^ j.toNat)):=opI fun _ _ _ _ _ _ _ hc q=>pow_int_small hc.1 hc.2.1 hc.2.2 q
theorem unI {f:Value→Sem Value} {g:Int→Int}
    (rule:∀ (i:Int) (t:Tok) (s:Shared) (Q:Value→Shared→Prop) (E:Value→Shared→Prop),Q (.int (g i) s.toks) { s with toks:=s.toks + 1 }→wpAny (model X.prog X.w) X.A (f (.int i t)) Q E s) :
    UnR X f (rU fun i=>.int (g i)):=by
  intro pins s σ H x v Q I rx h
  obtain ⟨i,rfl,q⟩:=h
  obtain ⟨t,rfl⟩:=rx
  exact rule i t s _ _ ⟨.int (g i),H,I.tok _,⟨_,rfl⟩,q⟩
theorem iz:UnR X (unaryOp .USub) (rU fun i=>.int (-i)):=unI fun _ _ _ _ _ q=>neg_int q
end
def Qe:V→V→Bool
  | .non,.non=>true | .non,.int _=>true | .int _,.non=>true | .non,.bl _=>true | .bl _,.non=>true | .non,.str _=>true | .str _,.non=>true
  | .int _,.int _=>true | .bl _,.bl _=>true | .str _,.str _=>true | .byt _,.byt _=>true
  | .int _,.str _=>true | .str _,.int _=>true | .bl _,.str _=>true | .str _,.bl _=>true
  | _,_=>false
def rEq:R2:=fun x y H Q=>Qe x y=true∧Q (.bl (decide (x=y))) H
def rNe:R2:=fun x y H Q=>Qe x y=true∧Q (.bl (!decide (x=y))) H
theorem tV {i j:Int}:decide (V.int i=V.int j)=(i == j):=by
  rw [Bool.eq_iff_iff]
  simp
theorem DG {i j:Bool}:decide (V.bl i=V.bl j)=(i == j):=by
  rw [Bool.eq_iff_iff]
  simp
theorem tU {i j:Str}:decide (V.str i=V.str j)=(i == j):=by
  rw [Bool.eq_iff_iff]
  simp
theorem tX {i j:Array UInt8}:decide (V.byt i=V.byt j)=(i.toList == j.toList):=by
  rw [Bool.eq_iff_iff]
  cases i
  cases j
  simp
section
variable {X:Cx} {a b c:Expr} {ta tb tc:TE} {pos:Pos}
theorem bL {pins:List (Addr × Obj)} {σ:St} {H:Hp} {s:Shared} {Q:VK} {k k':Bool} (I:Inv X pins σ H s) (q:Q (.bl k) H) (e:k=k'):EP X pins σ Q (.bool k') s:=by
  subst e
  exact ⟨.bl k,H,I,rfl,q⟩
theorem lV:OpR X (compareOp .Eq) rEq:=by
  intro pins s σ H x y v u Q I rx ry h
  obtain ⟨hs,q⟩:=h
  cases x with
  | non =>
    cases rx
    cases y with
    | non=>cases ry;exact PySem.EqNone.eq_none_none (bL I q (by simp))
    | bl j=>cases ry;exact PySem.EqNone.eq_none_bool (bL I q (by simp))
    | int j=>obtain ⟨t',rfl⟩:=ry;exact PySem.EqNone.eq_none_int (bL I q (by simp))
    | str j=>obtain ⟨t',rfl⟩:=ry;exact PySem.EqNone.eq_none_str (bL I q (by simp))
    | _=>exact absurd (show false=true from hs) Bool.false_ne_true
  | bl i =>
    cases rx
    cases y with
    | non=>cases ry;exact PySem.EqNone.eq_bool_none (bL I q (by simp))
    | bl j=>cases ry;exact eq_bool (bL I q DG)
    | str j=>obtain ⟨t',rfl⟩:=ry;exact PySem.EqMixed.eq_bool_str (bL I q (by simp))
    | _=>exact absurd (show false=true from hs) Bool.false_ne_true
  | int i =>
    obtain ⟨t,rfl⟩:=rx
    cases y with
    | non=>cases ry;exact PySem.EqNone.eq_int_none (bL I q (by simp))
    | int j=>obtain ⟨t',rfl⟩:=ry;exact eq_int (bL I q tV)
    | str j=>obtain ⟨t',rfl⟩:=ry;exact PySem.EqMixed.eq_int_str (bL I q (by simp))
    | _=>exact absurd (show false=true from hs) Bool.false_ne_true
  | str i =>
    obtain ⟨t,rfl⟩:=rx
    cases y with
    | non=>cases ry;exact PySem.EqNone.eq_str_none (bL I q (by simp))
    | bl j=>cases ry;exact PySem.EqMixed.eq_str_bool (bL I q (by simp))
    | int j=>obtain ⟨t',rfl⟩:=ry;exact PySem.EqMixed.eq_str_int (bL I q (by simp))
    | str j=>obtain ⟨t',rfl⟩:=ry;exact eq_str (bL I q tU)
    | _=>exact absurd (show false=true from hs) Bool.false_ne_true
  | byt i =>
    obtain ⟨t,rfl⟩:=rx
    cases y with
    | byt j=>obtain ⟨t',rfl⟩:=ry;exact PySem.W.eq_bytes (bL I q tX)
    | _=>exact absurd (show false=true from hs) Bool.false_ne_true
  | _=>cases y <;> exact absurd (show false=true from hs) Bool.false_ne_true
theorem lU:OpR X (compareOp .NotEq) rNe:=by
  intro pins s σ H x y v u Q I rx ry h
  obtain ⟨hs,q⟩:=h
  cases x with
  | non =>
    cases rx
    cases y with
    | non=>cases ry;exact PySem.EqNone.ne_none_none (bL I q (by simp))
    | bl j=>cases ry;exact PySem.EqNone.ne_none_bool (bL I q (by simp))
    | int j=>obtain ⟨t',rfl⟩:=ry;exact PySem.EqNone.ne_none_int (bL I q (by simp))
    | str j=>obtain ⟨t',rfl⟩:=ry;exact PySem.EqNone.ne_none_str (bL I q (by simp))
    | _=>exact absurd (show false=true from hs) Bool.false_ne_true
  | bl i =>
    cases rx
    cases y with
    | non=>cases ry;exact PySem.EqNone.ne_bool_none (bL I q (by simp))
    | bl j=>cases ry;exact ne_bool (bL I q (congrArg not DG))
    | str j=>obtain ⟨t',rfl⟩:=ry;exact PySem.EqMixed.ne_bool_str (bL I q (by simp))
    | _=>exact absurd (show false=true from hs) Bool.false_ne_true
  | int i =>
    obtain ⟨t,rfl⟩:=rx
    cases y with
    | non=>cases ry;exact PySem.EqNone.ne_int_none (bL I q (by simp))
    | int j=>obtain ⟨t',rfl⟩:=ry;exact ne_int (bL I q (congrArg not tV))
    | str j=>obtain ⟨t',rfl⟩:=ry;exact PySem.EqMixed.ne_int_str (bL I q (by simp))
    | _=>exact absurd (show false=true from hs) Bool.false_ne_true
  | str i =>
    obtain ⟨t,rfl⟩:=rx
    cases y with
    | non=>cases ry;exact PySem.EqNone.ne_str_none (bL I q (by simp))
    | bl j=>cases ry;exact PySem.EqMixed.ne_str_bool (bL I q (by simp))
    | int j=>obtain ⟨t',rfl⟩:=ry;exact PySem.EqMixed.ne_str_int (bL I q (by simp))
    | str j=>obtain ⟨t',rfl⟩:=ry;exact ne_str (bL I q (congrArg not tU))
    | _=>exact absurd (show false=true from hs) Bool.false_ne_true
  | byt i =>
    obtain ⟨t,rfl⟩:=rx
    cases y with
    | byt j=>obtain ⟨t',rfl⟩:=ry;exact PySem.W.ne_bytes (bL I q (congrArg not tX))
    | _=>exact absurd (show false=true from hs) Bool.false_ne_true
  | _=>cases y <;> exact absurd (show false=true from hs) Bool.false_ne_true
theorem qI:OpR X (compareOp .Lt) (rI0 fun i j=>.bl (decide (i<j))):=Ng fun _ _ _ _ _ _ _ q=>lt_int q
theorem jN:OpR X (compareOp .LtE) (rI0 fun i j=>.bl (decide (i≤j))):=Ng fun _ _ _ _ _ _ _ q=>le_int q
theorem Gn:OpR X (compareOp .GtE) (rI0 fun i j=>.bl (decide (j≤i))):=Ng fun _ _ _ _ _ _ _ q=>ge_int q
theorem sJ:OpR X (compareOp .In) (fun x y H Q=>∃ i j,x=.str i∧y=.str j∧Q (.bl (!(Builtin.Str.occurrences j i 0 j.length 1).isEmpty)) H):=by
  intro pins s σ H x y v u Q I rx ry h
  obtain ⟨i,j,rfl,rfl,q⟩:=h
  obtain ⟨t,rfl⟩:=rx
  obtain ⟨t',rfl⟩:=ry
  exact in_str (bL I q rfl)
theorem sI:OpR X (compareOp .Is) (fun x y H Q=>y=.non∧Q (.bl (decide (x=.non))) H):=by
  intro pins s σ H x y v u Q I rx ry h
  obtain ⟨rfl,q⟩:=h
  cases ry
  refine is_none_gen (bL I q ?_)
  cases x <;> first
    | (cases rx;rfl)
    | (obtain ⟨t,rfl⟩:=rx;rfl)
theorem Ek:OpR X (compareOp .IsNot) (fun x y H Q=>y=.non∧Q (.bl (!decide (x=.non))) H):=by
  intro pins s σ H x y v u Q I rx ry h
  obtain ⟨rfl,q⟩:=h
  cases ry
  refine isnot_none_gen (bL I q ?_)
  cases x <;> first
    | (cases rx;rfl)
    | (obtain ⟨t,rfl⟩:=rx;rfl)
theorem bC (b:Expr) {op:CmpOp} (h:op≠.In:=by decide) (h2:op≠.NotIn:=by decide):behindInMarks op b=false:=by
  have e1:(op == CmpOp.In)=false:=by cases op <;> first | rfl | exact absurd rfl h
  have e2:(op == CmpOp.NotIn)=false:=by cases op <;> first | rfl | exact absurd rfl h2
  cases b <;> simp [behindInMarks,e1,e2]
theorem gP {op:CmpOp} {r:R2} (ho:OpR X (compareOp op) r) (ha:PE X a ta) (hb:PE X b tb) (hm:behindInMarks op b=false):PE X (.Compare a [op] [b] pos) (tOp r ta tb):=by
  intro pins s σ H Q I h
  exact wpAny_Compare1 (Mw ha hb I h fun v u s2 x y H2 I2 rx ry q=>ho pins s2 σ H2 x y v u Q I2 rx ry q) hm
def DY (t:TE):TT:=fun σ H Q=>t σ H fun x H'=>∃ k,x=.bl k∧Q k H'
theorem aW {op:CmpOp} {r:R2} (ho:OpR X (compareOp op) r) (ha:PE X a ta) (hb:PE X b tb) (hm:behindInMarks op b=false):PT X (.Compare a [op] [b] pos) (DY (tOp r ta tb)):=by
  intro pins s σ H Q I h
  refine wpAny_isTrue_Compare1 (thn (ha pins s σ H _ I h) fun v s1 ⟨x,H1,I1,r1,q1⟩=>thn (hb pins s1 σ H1 _ I1 q1) fun u s2 ⟨y,H2,I2,r2,q2⟩ =>
    thn (ho pins s2 σ H2 x y v u _ I2 r1 r2 q2) fun c s3 ⟨z,H3,I3,r3,k,e,q3⟩=>?_) hm
  subst e
  cases r3
  exact wpAny_truthy_bool ⟨H3,I3,q3⟩
def vK (r r':R2) (ta tb tc:TE):TE:=fun σ H Q=>ta σ H fun x H1=>tb σ H1 fun y H2=>r x y H2 fun z H3=>∃ k,z=.bl k ∧
  (if k=true then tc σ H3 fun w' H4=>r' y w' H4 Q else Q (.bl false) H3)
theorem lR {op op':CmpOp} {r r':R2} (ho:OpR X (compareOp op) r) (ho':OpR X (compareOp op') r') (ha:PE X a ta) (hb:PE X b tb) (hc:PE X c tc)
    (hm:lastMarks [op,op'] [b,c]=false:=by with_unfolding_all rfl):PE X (.Compare a [op,op'] [b,c] pos) (vK r r' ta tb tc):=by
  intro pins s σ H Q I h
  refine Compare_chain (thn (ha pins s σ H _ I h) fun v s1 ⟨x,H1,I1,r1,q1⟩=>chain_link (thn (hb pins s1 σ H1 _ I1 q1) fun u s2 ⟨y,H2,I2,r2,q2⟩ =>
    thn (ho pins s2 σ H2 x y v u _ I2 r1 r2 q2) fun d s3 ⟨z,H3,I3,r3,k,e,q3⟩=>?_)) hm
  subst e
  cases r3
  refine wpAny_truthy_bool ?_
  cases k with
  | false=>exact ite_ff ⟨.bl false,H3,I3,rfl,q3⟩
  | true=>exact ite_tt (chain_last (thn (hc pins s3 σ H3 _ I3 q3) fun w' s4 ⟨z',H4,I4,r4,q4⟩=>ho' pins s4 σ H4 y z' u w' Q I4 r2 r4 q4))
theorem jy {op op':CmpOp} {r r':R2} (ho:OpR X (compareOp op) r) (ho':OpR X (compareOp op') r') (ha:PE X a ta) (hb:PE X b tb) (hc:PE X c tc)
    (hm:lastMarks [op,op'] [b,c]=false:=by with_unfolding_all rfl):PT X (.Compare a [op,op'] [b,c] pos) (DY (vK r r' ta tb tc)):=by
  intro pins s σ H Q I h
  refine isTrue_chain (thn (ha pins s σ H _ I h) fun v s1 ⟨x,H1,I1,r1,q1⟩=>test_link (thn (hb pins s1 σ H1 _ I1 q1) fun u s2 ⟨y,H2,I2,r2,q2⟩ =>
    thn (ho pins s2 σ H2 x y v u _ I2 r1 r2 q2) fun d s3 ⟨z,H3,I3,r3,k,e,q3⟩=>?_)) hm
  subst e
  cases r3
  refine wpAny_truthy_bool ?_
  cases k with
  | false =>
    obtain ⟨k',e',q'⟩:=q3
    cases e'
    exact ite_ff ⟨H3,I3,q'⟩
  | true =>
    refine ite_tt (test_last (thn (hc pins s3 σ H3 _ I3 q3) fun w' s4 ⟨z',H4,I4,r4,q4⟩=>thn (ho' pins s4 σ H4 y z' u w' _ I4 r2 r4 q4) fun d' s5 ⟨z2,H5,I5,r5,k2,e2,q5⟩=>?_))
    subst e2
    cases r5
    exact wpAny_truthy_bool ⟨H5,I5,q5⟩
theorem nu:(sizeLine:Nat)<2 ^ 63:=by rw [sizeLine_eq];decide
def vI (b:Expr):Prop:=∀ o i,subscripted b false o i=operate [o,i] (getItem o i)
theorem oF (ha:PE X a ta) (hb:PE X b tb) (hs:vI b) :
    PE X (.Subscript a b pos) (tOp (fun x y H Q=>∃ z i c,x=.str z∧y=.int i∧0≤i∧i<2 ^ 63∧i<z.length∧z.cps[i.toNat]?=some c∧Q (.str ⟨#[c]⟩) H) ta tb):=by
  intro pins s σ H Q I h
  refine Subscript_ (Mw ha hb I h fun v u s2 x y H2 I2 rx ry q=>?_)
  obtain ⟨z,i,c,rfl,rfl,h0,h63,h1,hc,q⟩:=q
  obtain ⟨t,rfl⟩:=rx
  obtain ⟨t',rfl⟩:=ry
  have e:seqIndex? i z.length=some i.toNat:=PySem.StrLaws.seqIndex_nonneg h0 h1
  exact tail_any (typeIs_str s2 z t) slot_str_getitem.lookup (getItem_str (c:=c) (by
    have e1:decide (i < -(2 ^ 63:Int))=false:=decide_eq_false (by omega)
    have e2:decide (i ≥ 2 ^ 63)=false:=decide_eq_false (by omega)
    rw [e1,e2] <;> rfl) (by rw [e];exact hc) ⟨.str ⟨#[c]⟩,H2,I2.tok _,⟨_,rfl⟩,q⟩) (hs _ _)
theorem vals1 {x:V} {us:List Value} (r:Vals [x] us):∃ u,us=[u]∧RelV x u:=by
  cases r with
  | cons r1 r2=>cases r2;exact ⟨_,rfl,r1⟩
theorem vals2 {x y:V} {us:List Value} (r:Vals [x,y] us):∃ u w',us=[u,w']∧RelV x u∧RelV y w':=by
  cases r with
  | cons r1 r2 =>
    cases r2 with
    | cons r3 r4=>cases r4;exact ⟨_,_,rfl,r1,r3⟩
theorem jZ:j5 X (.type "int") (fun xs H Q=>(∃ i,xs=[.int i]∧Q (.int i) H)∨∃ k,xs=[.bl k]∧Q (.int (if k then 1 else 0)) H):=by
  intro pins s σ H xs us Q I r h
  rcases h with ⟨i,rfl,q⟩ | ⟨k,rfl,q⟩
  · obtain ⟨u,rfl,t,rfl⟩:=vals1 r
    exact call_int_int ⟨.int i,H,I,⟨_,rfl⟩,q⟩
  · obtain ⟨u,rfl,r1⟩:=vals1 r
    cases r1
    exact call_int_bool ⟨.int (if k then 1 else 0),H,I.tok _,⟨_,rfl⟩,q⟩
end
end L2
namespace L2
open PySem PySem.Spec PyProof.Rows
structure Fj (h:Heap) (x dx C:Addr) (mA:Str→Option Value):Prop where
  obj:h.get? x=some (PySem.W.instObj C dx)
  ns:h.Ns1 dx mA
  ne:dx≠x
theorem sY {h:Heap} {dx:Addr} {mA:Str→Option Value} (n:h.Ns1 dx mA):∃ od,h.get? dx=some od∧∀ name,PySem.W.lookIn name od=some (mA name):=by
  obtain ⟨o,es,ep,ho,hd,hk,_,hm⟩:=n
  refine ⟨o,ho,fun name=>?_⟩
  have e:=hm name
  unfold nsFind findBy at e
  rw [← Array.find?_toList] at e
  unfold PySem.W.lookIn
  rw [hd]
  dsimp only
  split
  · rename_i y q
    rw [q] at e
    exact congrArg some e
  · rename_i q
    rw [q] at e
    have a:es.toList.any (·.refKey)=false:=by
      rw [List.any_eq_false]
      intro y hy
      obtain ⟨z,t,hkey⟩:=hk y (Array.mem_toList_iff.mp hy)
      simp [DictEntry.refKey,hkey]
    have a':¬ es.toList.any (·.refKey)=true:=by rw [a];exact Bool.false_ne_true
    rw [if_neg a']
    exact congrArg some e
theorem Fj.look {h:Heap} {x dx C:Addr} {mA:Str→Option Value} (I:Fj h x dx C mA):∃ od,PySem.W.InstAt h x (PySem.W.instObj C dx) C (some od)∧∀ name,PySem.W.lookIn name od=some (mA name) :=
  let ⟨od,ho,hl⟩:=sY I.ns
  ⟨od,⟨I.obj,rfl,rfl,ho⟩,hl⟩
section
variable {prog:Program} {w:World} {A:Around} {E:Value→Shared→Prop} {s:Shared} {K:PySem.W.Frag} {x dx C f:Addr} {mA:Str→Option Value} {name:Str} {v:Value}
theorem get_map {expr:Bool} {Q:Value→Shared→Prop} (X:K.In s.heap) (I:Fj s.heap x dx C mA) (hg:PySem.W.plainGet K C name=true) (hh:PySem.W.hasDictIn K C=true)
    (ha:PySem.W.findIn K (.ref C) name=some none) (hv:mA name=some v) (hv':PySem.W.handedIn v=true) (h:Q v { s with toks:=s.toks + 1 }) :
    wpAny (model prog w) A (getAttr (.ref x) name expr) Q E s:=by
  obtain ⟨od,J,hl⟩:=I.look
  exact PySem.W.get_value X J (PySem.W.plainGet_of hg).1 (PySem.W.findObj_own hh ha rfl (by rw [hl,hv])) hv' h
theorem vm {pl:Sem Bool} {Q:Value × List Value→Shared→Prop} (X:K.In s.heap) (I:Fj s.heap x dx C mA) (hg:PySem.W.plainGet K C name=true)
    (hf:PySem.W.findIn K (.ref C) name=some (some (.ref f))) (ht:PySem.W.isFn K (.ref f)=true) (hv:mA name=none) (h:Q (.ref f,[.ref x]) s) :
    wpAny (model prog w) A (getMethod (.ref x) name pl) Q E s:=by
  obtain ⟨od,J,hl⟩:=I.look
  exact PySem.W.method_fn X J (PySem.W.plainGet_of hg).1 (PySem.W.plainGet_of hg).2 hf (beq_iff_eq.mp ht) (by show (PySem.W.lookIn name od).map (·.isSome)=some false;rw [hl,hv];rfl) h
theorem Ed {ns:List Str} {Q:Unit→Shared→Prop} (X:K.In s.heap) (I:Fj s.heap x dx C mA)
    (hs:PySem.W.findIn K (.ref C) "__setattr__"=some (some (.builtin "object.__setattr__"))) (hp:PySem.W.plainOver K C=true) (ht:PySem.W.takerIn K C name=some none) (hh:PySem.W.hasDictIn K C=true)
    (hw:PySem.Within mA ns) (hsz:ns.length≤sizeLine)
    (h:∀ h',Fj h' x dx C (fun y=>if y=name then some v else mA y)→Heap.SameBut dx s.heap h'→Q () { s with heap:=h',toks:=s.toks + 2 }) :
    wpAny (model prog w) A (setAttr (.ref x) name v) Q E s:=by
  obtain ⟨od,J,hl⟩:=I.look
  refine PySem.W.set_plain X J hs (PySem.W.osa_open (s:={ s with toks:=s.toks + 1 }) (r:=none) X J hp ht fun b=>?_)
  obtain ⟨cd,hc,hd'⟩:=PySem.W.any_some hh
  have hx:s.heap.get? x=some ⟨.ref C,some dx,.plain,#[]⟩:=I.obj
  refine wpAny_bind (wpAny_pure (wpAny_bind (wpAny_bind (wpAny_loadPart hx (wpAny_bind (PySem.W.Looks.here (s:={ s with toks:=s.toks + 1 }) (PySem.W.looks_clsIn X hc) ?_))))))
  rw [hd']
  refine wpAny_pure (a:=some dx) (wpAny_bind (wpAny_pure (wpAny_bind ?_)))
  refine wpAny_nsSet1 (s:={ s with toks:=s.toks + 1 }) I.ns fun h' hn2 hs2=>?_
  obtain ⟨oD,esD,epD,hoD,hdD,hcD⟩:=hn2.count (PySem.Within.cons name v hw)
  refine wpAny_bind (wpAny_lookBehind hoD (by rw [hdD];exact pastItsLine_dict (Nat.le_trans hcD (by rw [List.length_cons];omega))) ?_)
  exact wpAny_pure (h _ ⟨(hs2.2 _ (Ne.symm I.ne)).trans I.obj,hn2,I.ne⟩ hs2)
theorem uZ {R:Result→Shared→Prop} {vs:List Value} {kw:List (Str × Value)} (X:K.In s.heap) (hm:PySem.W.makesIn K C=true)
    (hi:PySem.W.findIn K (.ref C) "__init__"=some (some (.ref f))) (hf:PySem.W.typeIn K (.ref f)=some (.type "function"))
    (h:codeAny (model prog w) (A.under (.builtin "type.__call__" ⟨.ref C :: vs,kw⟩)) (.call (.ref f) ⟨.ref (s.heap.objs.size + 1) :: vs,kw⟩) (PySem.W.InitBack (s.heap.objs.size + 1) R)
      { s with heap:=(s.heap.push PySem.W.emptyDict).push (PySem.W.instObj C s.heap.objs.size) }) :
    codeAny (model prog w) A (.call (.ref C) ⟨vs,kw⟩) R s:=by
  obtain ⟨hh,g,d,t,os⟩:=s
  exact PySem.W.make_core (PySem.W.makes_of X hm) (PySem.W.looks_findIn X hi) (fun self=>PySem.W.bind_fn X self hf) (.inl rfl) h
end
def mJ (f:Str) (v:V):List (Str × V)→List (Str × V)
  | []=>[(f,v)]
  | (g,x) :: r=>if g=f then (g,v) :: r else (g,x) :: mJ f v r
theorem jQ (f g:Str) (v:V):∀ fs:List (Str × V),(mJ f v fs).lookup g=if g=f then some v else fs.lookup g
  | []=>by
    show List.lookup g [(f,v)]=_
    by_cases h:g=f
    · have hb:(g == f)=true:=beq_iff_eq.mpr h
      simp only [List.lookup,hb,if_pos h]
    · have hb:(g == f)=false:=beq_eq_false_iff_ne.mpr h
      simp only [List.lookup,hb,if_neg h]
  | (k,x) :: r=>by
    have ih:=jQ f g v r
    rw [show mJ f v ((k,x) :: r)=(if k=f then (k,v) :: r else (k,x) :: mJ f v r) from rfl]
    by_cases hk:k=f
    · rw [if_pos hk]
      by_cases h:g=k
      · have hb:(g == k)=true:=beq_iff_eq.mpr h
        simp only [List.lookup,hb,if_pos (h.trans hk)]
      · have hb:(g == k)=false:=beq_eq_false_iff_ne.mpr h
        simp only [List.lookup,hb,if_neg (fun e:g=f=>h (e.trans hk.symm))]
    · rw [if_neg hk]
      by_cases h:g=k
      · have hb:(g == k)=true:=beq_iff_eq.mpr h
        simp only [List.lookup,hb,if_neg (fun e:g=f=>hk (h.symm.trans e))]
      · have hb:(g == k)=false:=beq_eq_false_iff_ne.mpr h
        simp only [List.lookup,hb]
        exact ih
theorem jU (f:Str) (v:V):∀ fs:List (Str × V),f∈(mJ f v fs).map (·.1)∧∀ g,g∈fs.map (·.1)→g∈(mJ f v fs).map (·.1)
  | []=>⟨by simp [mJ],fun g h=>by simp at h⟩
  | (k,x) :: r=>by
    obtain ⟨i1,i2⟩:=jU f v r
    rw [show mJ f v ((k,x) :: r)=(if k=f then (k,v) :: r else (k,x) :: mJ f v r) from rfl]
    by_cases hk:k=f
    · rw [if_pos hk]
      subst hk
      exact ⟨by simp,fun g h=>by simpa using h⟩
    · rw [if_neg hk]
      refine ⟨?_,fun g h=>?_⟩
      · rw [List.map_cons]
        exact List.mem_cons_of_mem _ i1
      · rw [List.map_cons] at h ⊢
        rcases List.mem_cons.mp h with e | e
        · exact List.mem_cons.mpr (.inl e)
        · exact List.mem_cons_of_mem _ (i2 g e)
theorem jR (f:Str) (v:V):∀ fs:List (Str × V),(mJ f v fs).length≤fs.length + 1
  | []=>by simp [mJ]
  | (k,x) :: r=>by
    have ih:=jR f v r
    rw [show mJ f v ((k,x) :: r)=(if k=f then (k,v) :: r else (k,x) :: mJ f v r) from rfl]
    by_cases hk:k=f
    · rw [if_pos hk,List.length_cons,List.length_cons];omega
    · rw [if_neg hk,List.length_cons,List.length_cons];omega
theorem uw.some_of {v:V} {o:Option Value} (r:uw (some v) o):∃ u,o=some u∧RelV v u:=by
  cases o with
  | none=>exact (show False from r).elim
  | some u=>exact ⟨u,rfl,r⟩
theorem uw.none_of {o:Option Value} (r:uw none o):o=none:=by
  cases o with
  | none=>rfl
  | some u=>exact (show False from r).elim
theorem tK {v:V} {u:Value} (r:RelV v u):PySem.W.handedIn u=true:=by
  cases v with
  | non=>cases (show u=Value.none from r);rfl
  | bl b=>cases (show u=Value.bool b from r);rfl
  | int i=>obtain ⟨t,e⟩:=(show ∃ t,u=Value.int i t from r);cases e;rfl
  | str x=>obtain ⟨t,e⟩:=(show ∃ t,u=Value.str x t from r);cases e;rfl
  | byt b=>obtain ⟨t,e⟩:=(show ∃ t,u=Value.bytes b t from r);cases e;rfl
  | flt b=>obtain ⟨t,e⟩:=(show ∃ t,u=Value.float b t from r);cases e;rfl
  | ref a=>cases (show u=Value.ref a from r);rfl
  | ty n=>cases (show u=Value.type n from r);rfl
section
variable {P:Program} {w:World} {H H':Hp} {h h':Heap} {a C dx:Addr} {fs fs':List (Str × V)}
theorem mj (hok:HOk P w H h) (e:H a=some (.ins C dx fs)):∃ mA,Fj h a dx C mA∧(∀ f,uw (fs.lookup f) (mA f))∧PySem.Within mA (fs.map (·.1))∧fs.length≤1000∧H dx=some (.own a):=by
  obtain ⟨d,z,ne,ob,mA,n,r,q⟩:=(show fK P w H h a (.ins C dx fs) from hok a _ e)
  exact ⟨mA,⟨ob,n,ne⟩,r,q,z,d⟩
end
structure Cls (K:PySem.W.Frag) (C:Addr):Prop where
  pg:PySem.W.plainGet K C Str.empty=true
  hd:PySem.W.hasDictIn K C=true
  po:PySem.W.plainOver K C=true
  sa:PySem.W.findIn K (.ref C) "__setattr__"=some (some (.builtin "object.__setattr__"))
theorem Cls.get {K:PySem.W.Frag} {C:Addr} (c:Cls K C) (f:Str):PySem.W.plainGet K C f=true:=c.pg
def gw (K:PySem.W.Frag) (C:Addr) (f:Str):Prop:=PySem.W.findIn K (.ref C) f=some none
theorem gw.taker {K:PySem.W.Frag} {C:Addr} {f:Str} (n:gw K C f):PySem.W.takerIn K C f=some none:=by
  unfold PySem.W.takerIn
  rw [show PySem.W.findIn K (.ref C) f=some none from n]
  rfl
structure Meth (K:PySem.W.Frag) (C:Addr) (m:Str) (f:Addr):Prop where
  at_:PySem.W.findIn K (.ref C) m=some (some (.ref f))
  fn:PySem.W.isFn K (.ref f)=true
  kp:PySem.W.keepIn K (.ref f)=true
section
variable {X:Cx} {pins:List (Addr × Obj)} {σ:St} {H:Hp} {s:Shared} {a C dx:Addr} {fs:List (Str × V)} {f:Str} {v:V} {A:Around} {E:Value→Shared→Prop}
theorem lA {b:Bool} {Q:Value→Shared→Prop} (I:Inv X pins σ H s) (e:H a=some (.ins C dx fs)) (c:Cls X.K C) (n:gw X.K C f) (l:fs.lookup f=some v)
    (h:∀ u s',Inv X pins σ H s'→RelV v u→Q u s'):wpAny (model X.prog X.w) A (getAttr (.ref a) f b) Q E s:=by
  obtain ⟨mA,O,r,_,_,_⟩:=mj I.hok e
  obtain ⟨u,hu,ru⟩:=uw.some_of (v:=v) (o:=mA f) (by rw [← l];exact r f)
  exact get_map I.kIn O (c.get f) c.hd n hu (tK ru) (h u _ (I.tok _) ru)
theorem jg {m:Str} {g:Addr} {pl:Sem Bool} {Q:Value × List Value→Shared→Prop} (I:Inv X pins σ H s) (e:H a=some (.ins C dx fs)) (c:Cls X.K C) (k:Meth X.K C m g) (l:fs.lookup m=none)
    (h:Q (.ref g,[.ref a]) s):wpAny (model X.prog X.w) A (getMethod (.ref a) m pl) Q E s:=by
  obtain ⟨mA,O,r,_,_,_⟩:=mj I.hok e
  have hn:mA m=none:=uw.none_of (by rw [← l];exact r m)
  exact vm I.kIn O (c.get m) k.at_ k.fn hn h
theorem kZ {y:V} {u:Value} {Q:Unit→Shared→Prop} (I:Inv X pins σ H s) (e:H a=some (.ins C dx fs)) (c:Cls X.K C) (n:gw X.K C f) (hl:fs.length<1000) (ry:RelV y u)
    (h:∀ s',Inv X pins σ (upd H a (.ins C dx (mJ f y fs))) s'→Q () s'):wpAny (model X.prog X.w) A (setAttr (.ref a) f u) Q E s:=by
  obtain ⟨mA,O,r,wi,_,ho⟩:=mj I.hok e
  have hz:(fs.map (·.1)).length≤sizeLine:=by rw [List.length_map,sizeLine_eq];omega
  refine Ed I.kIn O c.sa c.po n.taker c.hd wi hz fun h' O' sb=>h _ ?_
  have hd:∃ o,h'.get? dx=some o:=let ⟨o,_,_,e',_⟩:=O'.ns;⟨o,e'⟩
  refine I.write (x:=a) (e:=dx) (by rw [e];exact True.intro) (.inr ho) (fun b q hb z=>(sb.2 b hb).trans z) hd ?_
  refine ⟨by rw [aY O.ne];exact ho,?_,O.ne,O'.obj,_,O'.ns,fun g=>?_,fun g hg=>?_⟩
  · have:=jR f y fs;omega
  · show uw ((mJ f y fs).lookup g) (if g=f then some u else mA g)
    rw [jQ]
    by_cases q:g=f
    · rw [if_pos q,if_pos q];exact ry
    · rw [if_neg q,if_neg q];exact r g
  · by_cases q:g=f
    · rw [q];exact (jU f y fs).1
    · refine (jU f y fs).2 g (wi g fun z=>hg ?_)
      show (if g=f then some u else mA g)=none
      rw [if_neg q];exact z
theorem Inv.made (I:Inv X pins σ H s):Inv X pins σ (upd (upd H s.heap.objs.size (.own (s.heap.objs.size + 1))) (s.heap.objs.size + 1) (.ins C s.heap.objs.size []))
    { s with heap:=(s.heap.push PySem.W.emptyDict).push (PySem.W.instObj C s.heap.objs.size) }:=by
  have e1:(s.heap.push PySem.W.emptyDict).get? s.heap.objs.size=some PySem.W.emptyDict:=Heap.get?_push_size s.heap rfl
  have e2:((s.heap.push PySem.W.emptyDict).push (PySem.W.instObj C s.heap.objs.size)).get? (s.heap.objs.size + 1)=some (PySem.W.instObj C s.heap.objs.size):=by
    have:=Heap.get?_push_size (s.heap.push PySem.W.emptyDict) (o:=PySem.W.instObj C s.heap.objs.size) rfl
    rwa [Heap.size_push] at this
  have e3:(s.heap.push PySem.W.emptyDict).Ns s.heap.objs.size (fun _=>none):=⟨PySem.W.emptyDict,#[],_,e1,rfl,(fun e he=>absurd he (by simp)),fun _=>rfl⟩
  have I1:=I.laid (a:=s.heap.objs.size) (o:=.own (s.heap.objs.size + 1)) (h':=s.heap.push PySem.W.emptyDict) (t':=s.toks) (fun b u q=>Heap.get?_push_of_some _ q) (Nat.le_refl _) ⟨_,e1⟩
  refine I1.laid (a:=s.heap.objs.size + 1) (o:=.ins C s.heap.objs.size []) (t':=s.toks) (fun b u q=>Heap.get?_push_of_some _ q) (Nat.le_of_eq (Heap.size_push _ _)) ?_
  have ne:s.heap.objs.size≠s.heap.objs.size + 1:=Nat.ne_of_lt (Nat.lt_succ_self _)
  refine ⟨by rw [aY ne,bI],Nat.zero_le _,ne,e2,fun _=>none,(Heap.Ns1.of_empty e3).at fun o q=>Heap.get?_push_of_some _ q,fun _=>True.intro,fun y hy=>absurd rfl hy⟩
theorem Fe {prog:Program} {w:World} {env:Env} {e:Expr} {f:Str} {pos:Pos} {s:Shared} {Q:Value→Shared→Prop} (hb:attributeBase e f env (eval e env)=eval e env)
    (h:wpAny (model prog w) A (eval e env) (fun o s₁=>wpAny (model prog w) A (getAttr o f true) Q E s₁) E s):wpAny (model prog w) A (eval (.Attribute e f pos) env) Q E s :=
  Attribute_any_ h (by rw [arm_eval_Attribute,hb])
end
def tFld (K:PySem.W.Frag) (ta:TE) (f:Str):TE:=fun σ H Q=>ta σ H fun x H1=>∃ a C dx fs v,x=.ref a∧H1 a=some (.ins C dx fs)∧Cls K C∧gw K C f∧fs.lookup f=some v∧Q v H1
def sFld (K:PySem.W.Frag) (ta tv:TE) (f:Str):TS:=fun D σ H=>tv σ H fun y H1=>ta σ H1 fun x H2=>∃ a C dx fs,x=.ref a∧H2 a=some (.ins C dx fs)∧Cls K C∧gw K C f∧fs.length<1000 ∧
  D.nx σ (upd H2 a (.ins C dx (mJ f y fs)))
def Qw (X:Cx) (op:Operator) (rd:V→V→Hp→VK→Prop):Prop :=
  ∀ (pins:List (Addr × Obj)) (s:Shared) (σ:St) (H:Hp) (x y:V) (u v:Value) (Q:VK),Inv X pins σ H s→RelV x u→RelV y v→rd x y H Q→wpAny (model X.prog X.w) X.A (inplaceOp op u v) (EP X pins σ Q) X.xe s
def Ef (K:PySem.W.Frag) (ta tv:TE) (rd:V→V→Hp→VK→Prop) (f:Str):TS:=fun D σ H=>ta σ H fun x H1=>∃ a C dx fs v,x=.ref a∧H1 a=some (.ins C dx fs)∧Cls K C∧gw K C f∧fs.lookup f=some v ∧
  tv σ H1 fun y H2=>rd v y H2 fun z H3=>∃ dx' fs',H3 a=some (.ins C dx' fs')∧fs'.length<1000∧D.nx σ (upd H3 a (.ins C dx' (mJ f z fs')))
section
variable {X:Cx} {o e value:Expr} {f:Str} {pos pos' tpos:Pos} {ta tv:TE}
theorem dO (he:PE X e ta) (hb:attributeBase e f X.env (eval e X.env)=eval e X.env):PE X (.Attribute e f pos) (tFld X.K ta f):=by
  intro pins s σ H Q I h
  refine Fe hb (thn (he pins s σ H _ I h) fun u s1 ⟨x,H1,I1,rx,a,C,dx,fs,v,ex,ea,c,n,l,q⟩=>?_)
  subst ex
  obtain rfl:u=Value.ref a:=rx
  exact lA I1 ea c n l fun u' s2 I2 ru=>⟨v,H1,I2,ru,q⟩
theorem m8 (ha:PE X o ta) (hv:PE X value tv) (hs:swapsWith value (some (.Attribute o f pos')) pos.line X.env=pure false):PS X (.Assign [.Attribute o f pos'] value pos) (sFld X.K ta tv f):=by
  intro pins s σ H D I h
  refine plainObj_wpAny_Assign_Attribute (thn (hv pins s σ H _ I h) fun u s1 ⟨y,H1,I1,ry,q⟩=>thn (ha pins s1 σ H1 _ I1 q) fun ov s2 ⟨x,H2,I2,rx,a,C,dx,fs,ex,ea,c,n,l,q2⟩=>?_) hs
  subst ex
  obtain rfl:ov=Value.ref a:=rx
  exact kZ I2 ea c n l ry fun s3 I3=>⟨σ,_,I3,q2⟩
theorem rW {op:Operator} {rd:V→V→Hp→VK→Prop} (ha:PE X o ta) (hv:PE X value tv) (hop:Qw X op rd):PS X (.AugAssign (.Attribute o f tpos) op value pos) (Ef X.K ta tv rd f):=by
  intro pins s σ H D I h
  refine wpAny_AugAssign_AttributeAny (thn (ha pins s σ H _ I h) fun ov s1 ⟨x,H1,I1,rx,a,C,dx,fs,v,ex,ea,c,n,l,q⟩=>?_)
  subst ex
  obtain rfl:ov=Value.ref a:=rx
  refine lA I1 ea c n l fun u s2 I2 ru=>thn (hv pins s2 σ H1 _ I2 q) fun w3 s3 ⟨y,H2,I3,ry,q3⟩=>thn (hop pins s3 σ H2 v y u w3 _ I3 ru ry q3) fun w4 s4 ⟨z,H3,I4,rz,dx',fs',ea',l',q4⟩=>?_
  exact kZ I4 ea' c n l' rz fun s5 I5=>⟨σ,_,I5,q4⟩
def rAdd:V→V→Hp→VK→Prop:=fun x y H Q=>∃ i j,x=.int i∧y=.int j∧Q (.int (i + j)) H
theorem GZ:Qw X .Add rAdd:=by
  rintro pins s σ H x y u v Q I rx ry ⟨i,j,rfl,rfl,q⟩
  obtain ⟨t,rfl⟩:=(show ∃ t,u=Value.int i t from rx)
  obtain ⟨t',rfl⟩:=(show ∃ t',v=Value.int j t' from ry)
  exact PyProof.Rows.iadd_int ⟨.int (i + j),H,I.tok _,⟨_,rfl⟩,q⟩
end
section
variable {X:Cx} {pins:List (Addr × Obj)} {σ:St} {H:Hp} {s:Shared} {A:Around} {E:Value→Shared→Prop} {Q:Value→Shared→Prop} {c:Value} {b:Bool}
inductive qy (K:PySem.W.Frag) (H:Hp):V→Value→Prop where
  | non:qy K H .non (.type "NoneType")
  | bl (x:Bool):qy K H (.bl x) (.type "bool")
  | int (i:Int):qy K H (.int i) (.type "int")
  | str (x:Str):qy K H (.str x) (.type "str")
  | flt (x:UInt64):qy K H (.flt x) (.type "float")
  | lst {a:Addr} {xs:List V} (e:H a=some (.lst xs)):qy K H (.ref a) (.type "list")
  | frz {a:Addr} {o:Obj} {xs:List V} (e:H a=some (.frz o (.lst xs))):qy K H (.ref a) (.type "list")
  | tup {a:Addr} {xs:List V} (e:H a=some (.tup xs)):qy K H (.ref a) (.type "tuple")
  | dK {a:Addr} {kvs:List (Key × V)} (e:H a=some (.dK kvs)):qy K H (.ref a) (.type "dict")
  | dT {a:Addr} {kvs:List (List Key × V)} (e:H a=some (.dT kvs)):qy K H (.ref a) (.type "dict")
  | ins {a C dx:Addr} {fs:List (Str × V)} (e:H a=some (.ins C dx fs)) (cl:Cls K C) (ha:PySem.W.findIn K (.ref C) "__class__"=some (some (.builtin "object.__class__")))
      (hn:PySem.W.specialIn K (.builtin "object.__class__") "__get__"=some (some (.builtin "getset_descriptor.__get__"))) (htk:PySem.W.takesIn K (.builtin "object.__class__")=some true)
      (hm:PySem.W.mroIn K C (.type "object")=some true):qy K H (.ref a) (.ref C)
theorem tE {x:V} {u t:Value} (I:Inv X pins σ H s) (rx:RelV x u) (ty:qy X.K H x t) (e:PySem.W.kitOne X.K t c=some b) (h:∀ tk,Q (.bool b) { s with toks:=tk }) :
    wpAny (model X.prog X.w) A (call (.builtin "isinstance") [u,c]) Q E s:=by
  cases ty with
  | non=>cases (show u=Value.none from rx);exact PySem.W.kia_one PySem.W.kitx_none I.kIn True.intro e (fun z=>nomatch z) h
  | bl y=>cases (show u=Value.bool y from rx);exact PySem.W.kia_one PySem.W.kitx_bool I.kIn True.intro e (fun z=>nomatch z) h
  | int i=>obtain ⟨t,q⟩:=(show ∃ t,u=Value.int i t from rx);cases q;exact PySem.W.kia_one PySem.W.kitx_int I.kIn True.intro e (fun z=>nomatch z) h
  | str y=>obtain ⟨t,q⟩:=(show ∃ t,u=Value.str y t from rx);cases q;exact PySem.W.kia_one PySem.W.kitx_str I.kIn True.intro e (fun z=>nomatch z) h
  | flt y=>obtain ⟨t,q⟩:=(show ∃ t,u=Value.float y t from rx);cases q;exact PySem.W.kia_one PySem.W.kitx_float I.kIn True.intro e (fun z=>nomatch z) h
  | @lst a xs ea =>
    cases (show u=Value.ref a from rx)
    obtain ⟨_,_,n,_,h1⟩:=(show fK X.prog X.w H s.heap a (.lst xs) from I.hok a _ ea)
    exact PySem.W.kia_one PySem.W.kitx_list I.kIn ⟨_,h1,rfl⟩ e (fun z=>nomatch z) h
  | @frz a ob xs ea =>
    cases (show u=Value.ref a from rx)
    obtain ⟨_,_,_,n,_,h1⟩:=(show fK X.prog X.w H s.heap a (.frz ob (.lst xs)) from I.hok a _ ea)
    exact PySem.W.kia_one PySem.W.kitx_list I.kIn ⟨_,h1,rfl⟩ e (fun z=>nomatch z) h
  | @tup a xs ea =>
    cases (show u=Value.ref a from rx)
    obtain ⟨_,_,_,p⟩:=(show fK X.prog X.w H s.heap a (.tup xs) from I.hok a _ ea)
    obtain ⟨o,h1,h2,_⟩:=p
    exact PySem.W.kia_one PySem.W.kitx_tuple I.kIn ⟨o,h1,h2⟩ e (fun z=>nomatch z) h
  | @dK a kvs ea =>
    cases (show u=Value.ref a from rx)
    obtain ⟨_,_,vs,_,p⟩:=(show fK X.prog X.w H s.heap a (.dK kvs) from I.hok a _ ea)
    obtain ⟨o,es,ep,h1,h2,_⟩:=p
    exact PySem.W.kia_one PySem.W.kitx_dict I.kIn ⟨o,h1,h2.1⟩ e (fun z=>nomatch z) h
  | @dT a kvs ea =>
    cases (show u=Value.ref a from rx)
    obtain ⟨_,_,xs,_,o,es,ep,h1,h2,_⟩:=(show fK X.prog X.w H s.heap a (.dT kvs) from I.hok a _ ea)
    exact PySem.W.kia_one PySem.W.kitx_dict I.kIn ⟨o,h1,h2.1⟩ e (fun z=>nomatch z) h
  | @ins a C dx fs ea cl ha hn htk hm =>
    cases (show u=Value.ref a from rx)
    obtain ⟨mA,O,_⟩:=mj I.hok ea
    obtain ⟨od,J,_⟩:=O.look
    exact PySem.W.kia_one (PySem.W.kitx_own (cl.get _) cl.hd ha hn htk hm) I.kIn J e (fun z=>nomatch z) h
end
end L2
namespace L2
open PySem PySem.Spec PyProof.Rows
structure jh (k:Nat) (A:Around):Prop where
  hd:A.handled=none
  dp:A.depth + 3 * k + 5<recursionLimit
  un:A.units + 16 * k + 200<cLine
theorem jh.mono {j k:Nat} {A:Around} (r:jh k A) (h:j≤k):jh j A:=⟨r.hd,by have:=r.dp;omega,by have:=r.un;omega⟩
theorem jh.deeper {k:Nat} {A:Around} (r:jh (k + 1) A) (env:Env):jh k (A.deeper env) :=
  ⟨r.hd,by have:=r.dp;show A.depth + 1 + 3 * k + 5<_;omega,by have:=r.un;show A.units + 3 + 16 * k + 200<_;omega⟩
theorem qP {A:Around} {C:Addr} {us:List Value} {kw:List (Str × Value)}:(A.under (.builtin "type.__call__" ⟨.ref C :: us,kw⟩)).depth=A.depth + 1:=by
  first | rfl | simp [Around.under,Code.weight,Code.isCreation,Code.isGuard,Code.isCaller,Code.frames,Code.isFrame,guardIds]
theorem qO {A:Around} {C:Addr} {us:List Value} {kw:List (Str × Value)}:(A.under (.builtin "type.__call__" ⟨.ref C :: us,kw⟩)).units=A.units + 1:=by
  first | rfl | simp [Around.under,Code.cUnits,Code.frames,Code.isFrame]
theorem jh.make {k:Nat} {A:Around} (r:jh (k + 1) A) (C:Addr) (us:List Value) (kw:List (Str × Value)):jh k (A.under (.builtin "type.__call__" ⟨.ref C :: us,kw⟩)) :=
  ⟨r.hd,by have:=r.dp;rw [qP];omega,by have:=r.un;rw [qO];omega⟩
theorem jh.depth {k:Nat} {A:Around} (r:jh k A):A.depth<recursionLimit:=by have:=r.dp;omega
theorem jh.units {k:Nat} {A:Around} (r:jh k A):A.units + 64<cLine:=by have:=r.un;omega
def Qc:TA:=fun _ H Q=>Q [] H
def M6 (ta:TE) (tr:TA):TA:=fun σ H Q=>ta σ H fun x H1=>tr σ H1 fun xs H2=>Q (x :: xs) H2
section
variable {X:Cx} {e:Expr} {es:List Expr} {te:TE} {t:TA} {pos:Pos}
theorem aA:PA X [] Qc:=fun _ _ _ _ H Q I h=>Calls.spliced_nil ⟨[],H,I,.nil,h⟩
theorem aj (ha:PE X e te) (hr:PA X es t) (hs:starEach (e :: es) X.env=(false,eval e X.env) :: starEach es X.env:=by rfl):PA X (e :: es) (M6 te t):=by
  intro pos pins s σ H Q I h
  rw [hs]
  show wpAny _ _ (spliced ((false,eval e X.env) :: backTo pos (starEach es X.env))) _ _ s
  refine Calls.spliced_cons (thn (ha pins s σ H _ I h) fun u s1 ⟨x,H1,I1,r1,q1⟩=>?_)
  exact thn (hr pos pins s1 σ H1 _ I1 q1) fun us s2 ⟨xs,H2,I2,r2,q2⟩=>⟨x :: xs,H2,I2,.cons r1 r2,q2⟩
def tTup (t:TA):TE:=fun σ H Q=>t σ H fun xs H1=>xs.length≤sizeLine∧∀ p,H1 p=none→Q (.ref p) (upd H1 p (.tup xs))
def tLst (t:TA):TE:=fun σ H Q=>t σ H fun xs H1=>xs.length≤sizeLine∧∀ p,H1 p=none→Q (.ref p) (upd H1 p (.lst xs))
theorem iB {x1} (h:PA X es t):PE X (.Tuple es x1 pos) (tTup t):=by
  intro pins s σ H Q I hq
  refine wpAny_Tuple_spliced (thn (h pos pins s σ H _ I hq) fun us s1 ⟨xs,H1,I1,r,z,q⟩=>⟨by rw [← r.length];exact z,?_⟩)
  have hf:H1 s1.heap.objs.size=none:=I1.hok.fresh (Nat.le_refl _)
  refine ⟨.ref s1.heap.objs.size,upd H1 s1.heap.objs.size (.tup xs),I1.laid (t':=s1.toks) (fun b u e=>Heap.get?_push_of_some _ e) (Nat.le_refl _) ?_,rfl,q _ hf⟩
  exact ⟨z,us,r,⟨_,Heap.get?_push_size _ rfl,rfl,_,rfl⟩⟩
theorem eE (h:PA X es t):PE X (.List es pos) (tLst t):=by
  intro pins s σ H Q I hq
  refine wpAny_List_spliced (thn (h pos pins s σ H _ I hq) fun us s1 ⟨xs,H1,I1,r,z,q⟩=>⟨by rw [← r.length];exact z,?_⟩)
  have hf:H1 s1.heap.objs.size=none:=I1.hok.fresh (Nat.le_refl _)
  refine ⟨.ref s1.heap.objs.size,upd H1 s1.heap.objs.size (.lst xs),I1.laid (t':=s1.toks) (fun b u e=>Heap.get?_push_of_some _ e) (Nat.le_refl _) ?_,rfl,q _ hf⟩
  exact ⟨z,us,0,r,Heap.get?_push_size _ rfl⟩
end
abbrev Sp:=List V→Hp→VK→XK→Prop
abbrev CXT:=List Env→Hp→Shared→XK→Value→Shared→Prop
structure Fl (P:Program) (w:World) (K:PySem.W.Frag) (mg:Str→Option Value) (base:Heap) (A:Around) (outer:List Env) (s:Shared) (H:Hp):Prop where
  frames:A.frames=some outer
  mod:Mod K mg base
  bs:∀ b o,base.get? b=some o→s.heap.get? b=some o∧H b=none
  bsz:base.objs.size≤s.heap.objs.size
  qg:s.heap.FunFrames base outer
  frf:∀ b∈frs outer,H b=none
  hok:HOk P w H s.heap
  bare:AllBare s.gens
def CE (outer:List Env) (P:Program) (w:World) (H:Hp) (s:Shared) (Q:VK) (u:Value) (s':Shared):Prop :=
  ∃ v H',s'.os=s.os∧AllBare s'.gens∧Un (frs outer) [] H H' s.heap s'.heap∧HOk P w H' s'.heap∧RelV v u∧Q v H'
def CR (CX:CXT) (outer:List Env) (P:Program) (w:World) (H:Hp) (s:Shared) (Q:VK) (E:XK) (r:Result) (s':Shared):Prop :=
  match r with
  | .ok (.ret u)=>CE outer P w H s Q u s'
  | .ok _=>False
  | .error e=>CX outer H s E e s'
structure cj (P:Program) (w:World) (K:PySem.W.Frag) (mg:Str→Option Value) (base:Heap) (CX:CXT) (k:Nat) (f:Addr) (fd:FuncData) (ps:List Str) (sp:Sp):Prop where
  len:∀ vs H Q E,sp vs H Q E→vs.length=ps.length
  run:∀ (A:Around) (outer:List Env) (s:Shared) (H:Hp) (args:Args) (us:List Value) (vs:List V) (Q:VK) (E:XK),jh k A→Fl P w K mg base A outer s H→BindsTo s fd args (ps.zip us)→Vals vs us→sp vs H Q E →
    codeAny (model P w) A (.call (.ref f) args) (CR CX outer P w H s Q E) s
theorem Fl.make {P:Program} {w:World} {K:PySem.W.Frag} {mg:Str→Option Value} {base:Heap} {A:Around} {outer:List Env} {s:Shared} {H:Hp} (e:Fl P w K mg base A outer s H) (C:Addr) (us:List Value) (kw:List (Str × Value)) :
    Fl P w K mg base (A.under (.builtin "type.__call__" ⟨.ref C :: us,kw⟩)) outer s H:=⟨by first | exact e.frames | (simpa [Around.under,Code.envs,Code.isFrame,pushEnvs] using e.frames),e.mod,e.bs,e.bsz,e.qg,e.frf,e.hok,e.bare⟩
section
variable {X:Cx} {pins:List (Addr × Obj)} {σ:St} {H:Hp} {s s':Shared}
theorem Inv.env0 (I:Inv X pins σ H s):Fl X.prog X.w X.K X.mg X.base X.A X.stack s H :=
  ⟨I.ok.frames,I.ok.mod,I.bs,Nat.le_trans I.ok.bsz I.sz,I.stack,I.n6,I.hok,I.bare⟩
theorem Inv.after {Q:VK} {u:Value} (I:Inv X pins σ H s) (h:CE X.stack X.prog X.w H s Q u s'):EP X pins σ Q u s':=by
  obtain ⟨v,H',os,bare,un,hok,r,q⟩:=h
  obtain ⟨hh,g,d,t,os'⟩:=s'
  obtain rfl:os'=s.os:=os
  exact ⟨v,H',I.call (h':=hh) (g':=g) (d':=d) (t':=t) (ch:=[]) un hok bare (fun b z=>absurd z (by simp)),r,q⟩
end
def M7 (sp:Sp) (dvs:List V) (E:XK) (t:TA):TE:=fun σ H Q=>t σ H fun vs H1=>sp (vs++dvs) H1 Q E
def FQ (C:Addr) (m:Str) (sp:Sp) (dvs:List V) (E:XK) (ta:TE) (t:TA):TE:=fun σ H Q=>ta σ H fun x H1=>∃ a dx fs,x=.ref a∧H1 a=some (.ins C dx fs)∧fs.lookup m=none ∧
  t σ H1 fun vs H2=>sp (x :: (vs++dvs)) H2 Q E
def M4 (C:Addr) (sp:Sp) (dvs:List V) (E:XK) (t:TA):TE:=fun σ H Q=>t σ H fun vs H1=>∀ x dx,H1 x=none→H1 dx=none→dx≠x →
  sp (.ref x :: (vs++dvs)) (upd (upd H1 dx (.own x)) x (.ins C dx [])) (fun v H2=>v=.non∧Q (.ref x) H2) E
def Binds (K:PySem.W.Frag) (fd:FuncData) (ps:List Str) (ds:List Value):Prop :=
  ∀ (s:Shared) (us:List Value),K.In s.heap→(us++ds).length=ps.length→BindsTo s fd ⟨us,[]⟩ (ps.zip (us++ds))
theorem Binds.all {K:PySem.W.Frag} {fd:FuncData} {ps:List Str} (h:∀ us:List Value,us.length=ps.length→bindArgs fd ⟨us,[]⟩=pure (ps.zip us)):Binds K fd ps []:=fun s us _ hl=>by
  rw [List.append_nil] at hl ⊢
  exact .of_eq (h us hl)
def Passes (CX:CXT) (X:Cx) (E:XK):Prop:=∀ (pins:List (Addr × Obj)) (σ:St) (H:Hp) (s:Shared) (e:Value) (s':Shared),Inv X pins σ H s→CX X.stack H s E e s'→X.xe e s'
section
variable {X:Cx} {CX:CXT} {k:Nat} {f C:Addr} {fd:FuncData} {ps:List Str} {sp:Sp} {dvs:List V} {ds:List Value} {E:XK} {x m:Str} {p pos apos:Pos} {e o:Expr} {es:List Expr} {ta:TE} {t:TA}
theorem rO {pins:List (Addr × Obj)} {σ:St} {H:Hp} {s:Shared} {Q:VK} {us:List Value} {vs:List V} (F:cj X.prog X.w X.K X.mg X.base CX k f fd ps sp) (hr:jh k X.A) (hb:Binds X.K fd ps ds) (hd:Vals dvs ds) (hx:Passes CX X E)
    (I:Inv X pins σ H s) (r:Vals vs us) (h:sp (vs++dvs) H Q E):wpAny (model X.prog X.w) X.A (call (.ref f) us) (EP X pins σ Q) X.xe s:=by
  have r2:Vals (vs++dvs) (us++ds):=r.append hd
  have hl:(us++ds).length=ps.length:=by rw [← r2.length];exact F.len _ _ _ _ h
  refine wpAny_call (codeAny_mono (F.run X.A X.stack s H ⟨us,[]⟩ (us++ds) (vs++dvs) Q E hr I.env0 (hb s us I.kIn hl) r2 h) fun r s' hq=>?_)
  cases r with
  | error e=>exact hx pins σ H s e s' I hq
  | ok fl =>
    cases fl with
    | ret u=>exact I.after hq
    | next=>exact False.elim hq
    | brk=>exact False.elim hq
    | cont=>exact False.elim hq
theorem bB (F:cj X.prog X.w X.K X.mg X.base CX k f fd ps sp) (hr:jh k X.A) (hg:Gl X x) (hm:X.mg x=some (.ref f)) (hk:PySem.W.keepIn X.K (.ref f)=true) (hb:Binds X.K fd ps ds) (hd:Vals dvs ds) (hx:Passes CX X E)
    (ha:PA X (e :: es) t) (hdb:(x == ("__debug__":Str))=false:=by decide) (he:starEach (e :: es) X.env=(false,eval e X.env) :: starEach es X.env:=by rfl) (hpl:(backTo pos (starEach es X.env)).any (·.1)=false:=by rfl) :
    PE X (.Call (.Name x p) (e :: es) [] pos) (M7 sp dvs E t):=by
  intro pins s σ H Q I h
  refine wpAny_Call_Name_kw (jT I hg hm ?_ hdb)
  refine PySem.W.callWith_K (h₀:=X.base) I.ok.mod.kin hk (thn (ha pos pins s σ H _ I h) fun us s1 ⟨vs,H1,I1,r,q⟩=>⟨I1.kIn,?_⟩) he hpl
  exact rO F hr hb hd hx I1 r q
theorem gO {pl:Sem Bool} (he:PE X o ta) (c:Cls X.K C) (hm:Meth X.K C m f) (F:cj X.prog X.w X.K X.mg X.base CX k f fd ps sp) (hr:jh k X.A) (hb:Binds X.K fd ps ds) (hd:Vals dvs ds) (hx:Passes CX X E) (ha:PA X (e :: es) t)
    (hst:starEach (e :: es) X.env=(false,eval e X.env) :: starEach es X.env:=by rfl) (hpl:(backTo pos (starEach es X.env)).any (·.1)=false:=by rfl)
    (ht:eval (.Call (.Attribute o m apos) (e :: es) [] pos) X.env=(do
      let ov ← eval o X.env
      standAt apos.atName
      let (f,first) ← holding [ov] (getMethod ov m pl)
      callWith pos f first (backTo pos (starEach (e :: es) X.env)) (backToKw pos (keywordEach [] X.env))):=by rfl) :
    PE X (.Call (.Attribute o m apos) (e :: es) [] pos) (FQ C m sp dvs E ta t):=by
  intro pins s σ H Q I h
  refine PySem.W.methodCall_KW (pl:=pl) (thn (he pins s σ H _ I h) fun u s1 ⟨x,H1,I1,rx,a,dx,fs,ex,ea,l,q⟩=>?_) ht
  subst ex
  obtain rfl:u=Value.ref a:=rx
  refine jg I1 ea c hm l ?_
  refine PySem.W.callWith_K (first:=[.ref a]) (h₀:=X.base) I.ok.mod.kin hm.kp (thn (ha pos pins s1 σ H1 _ I1 q) fun us s2 ⟨vs,H2,I2,r,q2⟩=>⟨I2.kIn,?_⟩) hst hpl
  exact rO (us:=.ref a :: us) (vs:=.ref a :: vs) F hr hb hd hx I2 (.cons rfl r) q2
theorem fj {pl:Sem Bool} (he:PE X o ta) (c:Cls X.K C) (hm:Meth X.K C m f) (F:cj X.prog X.w X.K X.mg X.base CX k f fd ps sp) (hr:jh k X.A) (hb:Binds X.K fd ps ds) (hd:Vals dvs ds) (hx:Passes CX X E)
    (ht:eval (.Call (.Attribute o m apos) [] [] pos) X.env=(do
      let ov ← eval o X.env
      standAt apos.atName
      let (f,first) ← holding [ov] (getMethod ov m pl)
      callWith pos f first (backTo pos (starEach [] X.env)) (backToKw pos (keywordEach [] X.env))):=by rfl) :
    PE X (.Call (.Attribute o m apos) [] [] pos) (FQ C m sp dvs E ta Qc):=by
  intro pins s σ H Q I h
  refine PySem.W.methodCall_KW (pl:=pl) (thn (he pins s σ H _ I h) fun u s1 ⟨x,H1,I1,rx,a,dx,fs,ex,ea,l,q⟩=>?_) ht
  subst ex
  obtain rfl:u=Value.ref a:=rx
  refine jg I1 ea c hm l ?_
  exact PySem.W.callWith_K0 (first:=[.ref a]) I1.kIn hm.kp (rO (us:=[.ref a]) (vs:=[.ref a]) F hr hb hd hx I1 (.cons rfl .nil) q)
structure Mk (K:PySem.W.Frag) (C f:Addr):Prop where
  makes:PySem.W.makesIn K C=true
  init:PySem.W.findIn K (.ref C) "__init__"=some (some (.ref f))
  fn:PySem.W.isFn K (.ref f)=true
  kp:PySem.W.keepIn K (.ref C)=true
theorem uG {pins:List (Addr × Obj)} {σ:St} {H:Hp} {s:Shared} {Q:VK} {us:List Value} {vs:List V} (M:Mk X.K C f) (F:cj X.prog X.w X.K X.mg X.base CX k f fd ps sp) (hr:jh (k + 1) X.A) (hb:Binds X.K fd ps ds) (hd:Vals dvs ds)
    (hx:Passes CX X E) (I:Inv X pins σ H s) (r:Vals vs us)
    (h:∀ x dx,H x=none→H dx=none→dx≠x→sp (.ref x :: (vs++dvs)) (upd (upd H dx (.own x)) x (.ins C dx [])) (fun v H2=>v=.non∧Q (.ref x) H2) E) :
    wpAny (model X.prog X.w) X.A (call (.ref C) us) (EP X pins σ Q) X.xe s:=by
  have hq:=h (s.heap.objs.size + 1) s.heap.objs.size (I.hok.fresh (Nat.le_succ _)) (I.hok.fresh (Nat.le_refl _)) (Nat.ne_of_lt (Nat.lt_succ_self _))
  have I2:=Inv.made (C:=C) I
  have r2:Vals (V.ref (s.heap.objs.size + 1) :: (vs++dvs)) (Value.ref (s.heap.objs.size + 1) :: (us++ds)):=.cons rfl (r.append hd)
  have hl:(Value.ref (s.heap.objs.size + 1) :: us++ds).length=ps.length:=by
    have e:=r2.length
    rw [F.len _ _ _ _ hq] at e
    exact e.symm
  refine wpAny_call (uZ (f:=f) I.kIn M.makes M.init (beq_iff_eq.mp M.fn) (codeAny_mono (F.run _ X.stack _ _ ⟨Value.ref (s.heap.objs.size + 1) :: us,[]⟩ (Value.ref (s.heap.objs.size + 1) :: (us++ds)) _ _ E (hr.make C us [])
    (I2.env0.make C us []) (hb _ (Value.ref (s.heap.objs.size + 1) :: us) I2.kIn hl) r2 hq) fun r s' hq'=>?_))
  cases r with
  | error e=>exact hx pins σ _ _ e s' I2 hq'
  | ok fl =>
    cases fl with
    | ret u =>
      obtain ⟨v,H',I3,rv,ev,q3⟩:=I2.after hq'
      subst ev
      exact ⟨rv,⟨V.ref (s.heap.objs.size + 1),H',I3,rfl,q3⟩⟩
    | next=>exact False.elim hq'
    | brk=>exact False.elim hq'
    | cont=>exact False.elim hq'
theorem Ej (M:Mk X.K C f) (F:cj X.prog X.w X.K X.mg X.base CX k f fd ps sp) (hr:jh (k + 1) X.A) (hg:Gl X x) (hm:X.mg x=some (.ref C)) (hb:Binds X.K fd ps ds) (hd:Vals dvs ds) (hx:Passes CX X E)
    (ha:PA X (e :: es) t) (hdb:(x == ("__debug__":Str))=false:=by decide) (he:starEach (e :: es) X.env=(false,eval e X.env) :: starEach es X.env:=by rfl) (hpl:(backTo pos (starEach es X.env)).any (·.1)=false:=by rfl) :
    PE X (.Call (.Name x p) (e :: es) [] pos) (M4 C sp dvs E t):=by
  intro pins s σ H Q I h
  refine wpAny_Call_Name_kw (jT I hg hm ?_ hdb)
  refine PySem.W.callWith_K (h₀:=X.base) I.ok.mod.kin M.kp (thn (ha pos pins s σ H _ I h) fun us s1 ⟨vs,H1,I1,r,q⟩=>⟨I1.kIn,?_⟩) he hpl
  exact uG M F hr hb hd hx I1 r q
end
structure aL (N P:List Str) (sc:Scope):Prop where
  kind:sc.kind=.function
  co:sc.isCoroutine=false
  gen:sc.isGenerator=false
  nd:N.Nodup
  pre:N.take P.length=P
  par:∀ x∈P,sc.names.lookup x=some .local∨sc.names.lookup x=some .cell
  nofree:∀ y∈sc.names,y.2≠.free
theorem nJ {kindOf:Str→Option NameKind} {x:Str}:∀ {binds:List (Str × Value)} {m:Str→Option Value},(∀ v,(x,v) ∉ binds)→bindL kindOf binds m x=m x
  | [],_,_=>rfl
  | (n,v) :: r,m,h=>by
    unfold bindL
    rw [nJ fun w hw=>h w (List.mem_cons_of_mem _ hw)]
    split
    · have:x≠n:=by rintro rfl;exact h v List.mem_cons_self
      simp [this]
    · rfl
theorem nP {kindOf:Str→Option NameKind} {x:Str}:∀ {binds:List (Str × Value)} {m:Str→Option Value},(∀ v,(x,v) ∉ binds)→bindC kindOf binds m x=m x
  | [],_,_=>rfl
  | (n,v) :: r,m,h=>by
    unfold bindC
    rw [nP fun w hw=>h w (List.mem_cons_of_mem _ hw)]
    split
    · rfl
    · have:x≠n:=by rintro rfl;exact h v List.mem_cons_self
      simp [this]
theorem nM {kindOf:Str→Option NameKind} {x:Str} {v:Value}:∀ {P:List Str} {vs:List Value} {i:Nat} {m:Str→Option Value},P.Nodup→P[i]?=some x→vs[i]?=some v→kindOf x=some .local →
    bindL kindOf (P.zip vs) m x=some v
  | [],_,_,_,_,h,_,_=>by simp at h
  | _ :: _,[],_,_,_,_,h,_=>by simp at h
  | p :: P,w :: vs,0,m,nd,h1,h2,hk=>by
    simp at h1 h2;subst h1;subst h2
    show bindL kindOf ((p,w) :: P.zip vs) m p=_
    unfold bindL
    rw [nJ fun v hv=>(List.nodup_cons.mp nd).1 (List.of_mem_zip hv).1,if_pos hk]
    simp
  | p :: P,w :: vs,i + 1,m,nd,h1,h2,hk=>by
    show bindL kindOf ((p,w) :: P.zip vs) m x=_
    unfold bindL
    exact nM (i:=i) (List.nodup_cons.mp nd).2 (by simpa using h1) (by simpa using h2) hk
theorem nQ {kindOf:Str→Option NameKind} {x:Str} {v:Value}:∀ {P:List Str} {vs:List Value} {i:Nat} {m:Str→Option Value},P.Nodup→P[i]?=some x→vs[i]?=some v→kindOf x≠some .local →
    bindC kindOf (P.zip vs) m x=some v
  | [],_,_,_,_,h,_,_=>by simp at h
  | _ :: _,[],_,_,_,_,h,_=>by simp at h
  | p :: P,w :: vs,0,m,nd,h1,h2,hk=>by
    simp at h1 h2;subst h1;subst h2
    show bindC kindOf ((p,w) :: P.zip vs) m p=_
    unfold bindC
    rw [nP fun v hv=>(List.nodup_cons.mp nd).1 (List.of_mem_zip hv).1,if_neg hk]
    simp
  | p :: P,w :: vs,i + 1,m,nd,h1,h2,hk=>by
    show bindC kindOf ((p,w) :: P.zip vs) m x=_
    unfold bindC
    exact nQ (i:=i) (List.nodup_cons.mp nd).2 (by simpa using h1) (by simpa using h2) hk
def start (N:List Str) (vs:List V):St:=vs.map some++List.replicate (N.length - vs.length) none
def ur (CX:CXT) (P:Program) (w:World) (K:PySem.W.Frag) (mg:Str→Option Value) (base:Heap) (N:List Str) (qual:Str) (scope:Scope) (f:Addr) (cd:Value) (A:Around) (outer:List Env) (s:Shared) (H:Hp) (E:XK):Cx where
  prog:=P
  w:=w
  K:=K
  mg:=mg
  base:=base
  A:=A.deeper (envOfC qual scope s.heap.objs.size f cd)
  N:=N
  s₀:=s
  H₀:=H
  env:=envOfC qual scope s.heap.objs.size f cd
  outer:=outer
  stack:=envOfC qual scope s.heap.objs.size f cd :: outer
  ex:=[]
  calm:=true
  fn:=fun _=>true
  pn:=[]
  xe:=fun e s'=>wpAny (model P w) (A.deeper (envOfC qual scope s.heap.objs.size f cd)) (leaving (envOfC qual scope s.heap.objs.size f cd) e) (fun _ s''=>CX outer H s E e s'') (fun e' s''=>CX outer H s E e' s'') s'
theorem qu {sc:Scope} {n:Nat} {x:Str} (h:sc.names.lookup x=some .cell):∃ c,(cellsFrom n sc.names []).lookup x=some c:=by
  have q:=PySem.W.cellsFrom_some sc.names n [] (.inl h)
  exact Option.isSome_iff_exists.mp q
theorem tG {CX:CXT} {P:Program} {w:World} {K:PySem.W.Frag} {mg:Str→Option Value} {base:Heap} {N ps:List Str} {qual:Str} {scope:Scope} {f:Addr} {cd:Value} {A:Around} {outer:List Env} {s s1:Shared} {H:Hp} {E:XK} {us:List Value} {vs:List V}
    (S:aL N ps scope) (hd:A.handled=none) (e0:Fl P w K mg base A outer s H) (hl:vs.length=ps.length) (r:Vals vs us)
    (x:InCallC s s.heap.objs.size (bindL (envOfC qual scope s.heap.objs.size f cd).kindOf (ps.zip us) fun _=>none) (cellsFrom (s.heap.objs.size + 1) scope.names []) (bindC (envOfC qual scope s.heap.objs.size f cd).kindOf (ps.zip us) fun _=>none) s1) :
    Inv (ur CX P w K mg base N qual scope f cd A outer s H E) [] (start N vs) H s1:=by
  have hpl:ps.length≤N.length:=by have:=congrArg List.length S.pre;rw [List.length_take] at this;omega
  obtain ⟨h1,tk,rfl,hk⟩:=x.done
  have noA:∀ b:Addr,b ∉ (ur CX P w K mg base N qual scope f cd A outer s H E).ex:=fun b z=>absurd (show b∈([]:List Addr) from z) (by simp)
  refine ⟨⟨e0.mod,S.kind,rfl,rfl,Nat.le_refl _,fun y z c h1 h2=>?_,fun y hy=>?_,fun y c _ h=>?_,fun _=>hd,Around.frames_deeper e0.frames,.inr ⟨rfl,rfl⟩,fun b z=>absurd z (noA b),e0.bs,e0.bsz,fun b _ _=>noA b,fun b z=>absurd z (noA b),e0.qg,e0.frf⟩,
    rfl,e0.bare,Un.kept hk,⟨_,x.toInCall.ns,fun i y v h1 h2 h3=>?_⟩,fun y c h=>⟨_,x.cell y c h⟩,e0.hok.fresh (Nat.le_refl _),fun y c h=>?_,fun p hp=>absurd (show p∈([]:List (Addr × Obj)) from hp) (by simp),e0.hok.kept hk,?_⟩
  · exact name_of_addr x.apart (PySem.mem_of_lookup h1) (PySem.mem_of_lookup h2)
  · have hy:scope.names.lookup y=some .cell∨scope.names.lookup y=some .free:=hy
    rcases hy with hy | hy
    · exact qu hy
    · exact absurd rfl (S.nofree _ (PySem.mem_of_lookup hy))
  · exact Nat.le_of_lt (x.above y c (PySem.mem_of_lookup h))
  · have hi:i<vs.length:=by
      unfold start at h2
      by_cases hi:i<vs.length
      · exact hi
      · rw [List.getElem?_append_right (by simpa using hi)] at h2
        rw [List.getElem?_replicate] at h2
        split at h2 <;> cases h2
    have ha:vs[i]?=some v:=by
      unfold start at h2
      rw [List.getElem?_append_left (by simpa using hi),List.getElem?_map] at h2
      cases e:vs[i]? with
      | none=>rw [e] at h2;cases h2
      | some a=>rw [e] at h2;cases h2;rfl
    obtain ⟨u,hu,rv⟩:=r.get ha
    have hp:ps[i]?=some y:=by
      rw [← S.pre,List.getElem?_take_of_lt (by omega)];exact h1
    have ndP:ps.Nodup:=by rw [← S.pre];exact S.nd.sublist (List.take_sublist _ _)
    refine ⟨u,rv,?_⟩
    rcases S.par y (List.mem_of_getElem? hp) with k | k
    · exact .inl ⟨k,nM ndP hp hu k⟩
    · obtain ⟨c,e⟩:=qu (n:=s.heap.objs.size + 1) k
      refine .inr ⟨.inl k,c,e,?_⟩
      have q:=x.cell y c e
      rw [nQ ndP hp hu (by show scope.names.lookup y≠_;rw [k];decide)] at q
      exact q
  · exact e0.hok.fresh (Nat.le_of_lt (x.above y c (PySem.mem_of_lookup h)))
  · unfold start
    show _=N.length
    rw [List.length_append,List.length_map,List.length_replicate]
    omega
theorem Ew {CX:CXT} {P:Program} {w:World} {K:PySem.W.Frag} {mg:Str→Option Value} {base:Heap} {k:Nat} {f:Addr} {name qual:Str} {params:Arguments} {body:List Stmt} {scope:Scope} {dV kV doc pm cdv ct oc:Value} {an od:Option Addr}
    {osl:Array (Option Value)} {N ps:List Str} {sp:Sp} (lk:K.lookup f=some ⟨oc,od,.func (PySem.W.fnOf name qual params body scope dV kV doc pm an cdv ct),osl⟩) (hcd:PySem.W.codeIn K cdv qual=true) (S:aL N ps scope)
    (len:∀ vs H Q E,sp vs H Q E→vs.length=ps.length)
    (hbody:∀ (A:Around) (outer:List Env) (s:Shared) (H:Hp) (vs:List V) (Q:VK) (E:XK),jh k (A.deeper (envOfC qual scope s.heap.objs.size f cdv))→sp vs H Q E →
      ∃ t,PSs (ur CX P w K mg base N qual scope f cdv A outer s H E) body t∧t { nx:=fun _ H'=>Q .non H',rt:=Q } (start N vs) H) :
    cj P w K mg base CX (k + 1) f (PySem.W.fnOf name qual params body scope dV kV doc pm an cdv ct) ps sp:=by
  refine ⟨len,fun A outer s H args us vs Q E hr e0 hb r hsp=>?_⟩
  have hl:=len _ _ _ _ hsp
  have KX:K.In s.heap:=e0.mod.kin.keeps fun b o e=>(e0.bs b o e).1
  have lim:s.heap.NoLimit:=e0.mod.nolimit.keeps fun b o e=>(e0.bs b o e).1
  have hkind:∀ y∈ps.zip us,scope.names.lookup y.1=some .local∨(scope.names.lookup y.1=some .cell∧((cellsFrom (s.heap.objs.size + 1) scope.names []).lookup y.1).isSome=true):=fun ⟨n,v⟩ hy=>by
    rcases S.par n (List.of_mem_zip hy).1 with q | q
    · exact .inl q
    · exact .inr ⟨q,PySem.W.cellsFrom_some _ _ _ (.inl q)⟩
  refine codeAny_call_function hr.depth (KX _ _ lk) rfl S.co S.gen rfl (PySem.W.codeRec_of KX hcd) (hb _ _ _ _ ?_)
  refine wpAny_newFunctionEnv_cells S.kind hkind fun env he s1 x=>?_
  subst he
  refine ⟨lim.keeps x.toInCall.keep,codeAny_func ?_⟩
  obtain ⟨t,ht,hq⟩:=hbody A outer s H vs Q E (hr.deeper _) hsp
  have I:Inv (ur CX P w K mg base N qual scope f cdv A outer s H E) [] (start N vs) H s1:=tG S hr.hd e0 hl r x
  refine wpAny_mono (ht [] s1 (start N vs) H _ I hq) (fun fl s' hs=>?_) fun e s' hs=>hs
  have fin:∀ {σ':St} {H':Hp} {v:V} {u:Value},Inv (ur CX P w K mg base N qual scope f cdv A outer s H E) [] σ' H' s'→RelV v u→Q v H'→CE outer P w H s Q u s' :=
    fun {σ' H' v u} J rv q=>⟨v,H',J.os,J.bare,J.base,J.hok,rv,q⟩
  cases fl with
  | ret u =>
    obtain ⟨v,σ',H',J,rv,q⟩:=hs
    exact fin J rv q
  | next =>
    obtain ⟨σ',H',J,q⟩:=hs
    exact fin (v:=V.non) (u:=Value.none) J rfl q
  | brk =>
    obtain ⟨_,_,_,q⟩:=hs
    exact False.elim q
  | cont =>
    obtain ⟨_,_,_,q⟩:=hs
    exact False.elim q
end L2
namespace L2
open PySem PySem.Spec PyProof.Rows
section
variable {X:Cx} {x:Str} {p pos:Pos} {e:Expr} {es:List Expr} {t:TA} {id T:String} {r:List V→Hp→VK→Prop}
def tCB (r:List V→Hp→VK→Prop) (t:TA):TE:=fun σ H Q=>t σ H fun vs H1=>r vs H1 Q
theorem aJ (hc:j5 X (.builtin id) r) (hg:Gl X x) (hm:X.mg x=none) (hv:bootBuiltins x=some (.builtin id)) (ha:PA X (e :: es) t) (hn:x≠"__name__":=by decide) (hdb:(x == ("__debug__":Str))=false:=by decide)
    (he:starEach (e :: es) X.env=(false,eval e X.env) :: starEach es X.env:=by rfl) (hpl:(backTo pos (starEach es X.env)).any (·.1)=false:=by rfl):PE X (.Call (.Name x p) (e :: es) [] pos) (tCB r t):=by
  intro pins s σ H Q I h
  refine wpAny_Call_Name_kw (nC I hg hm hv ?_ hn hdb)
  exact PyProof.Rows.callWith_builtin1 (thn (ha pos pins s σ H _ I h) fun us s1 ⟨vs,H1,I1,r1,q1⟩=>hc pins s1 σ H1 vs us Q I1 r1 q1) he hpl
theorem fJ (hc:j5 X (.type T) r) (hg:Gl X x) (hm:X.mg x=none) (hv:bootBuiltins x=some (.type T)) (ha:PA X (e :: es) t) (hn:x≠"__name__":=by decide) (hdb:(x == ("__debug__":Str))=false:=by decide)
    (he:starEach (e :: es) X.env=(false,eval e X.env) :: starEach es X.env:=by rfl) (hpl:(backTo pos (starEach es X.env)).any (·.1)=false:=by rfl):PE X (.Call (.Name x p) (e :: es) [] pos) (tCB r t):=by
  intro pins s σ H Q I h
  refine wpAny_Call_Name_kw (nC I hg hm hv ?_ hn hdb)
  exact PyProof.Rows.callWith_type1 (thn (ha pos pins s σ H _ I h) fun us s1 ⟨vs,H1,I1,r1,q1⟩=>hc pins s1 σ H1 vs us Q I1 r1 q1) he hpl
end
end L2
namespace HT
open PySem PyProof.Rows
section
open PySem.SeqAt
open PySem.AutoSeq1 (wpAny_loadPart')
open PySem.MeetsSeq PySem.MeetsSeq2 PySem.MeetsSeq3
end
section
variable {prog:Program} {w:World} {A:Around} {E:Value→Shared→Prop} {s:Shared}
def sIx (n d:Nat):Option Int→Nat
  | none=>d
  | some v=>if v<0 then (v + (n:Int)).toNat else min v.toNat n
theorem oA (n d k:Nat):sIx n d (some (k:Int))=min k n:=by
  show (if (k:Int)<0 then ((k:Int) + (n:Int)).toNat else min (k:Int).toNat n)=min k n
  rw [if_neg (by omega),Int.toNat_natCast]
end
end HT
namespace L2
open PySem PySem.Spec PyProof.Rows
abbrev TO:=St→Hp→(Option Int→Hp→Prop)→Prop
def PO (X:Cx) (e:Option Expr) (t:TO):Prop :=
  ∀ (pins:List (Addr × Obj)) (s:Shared) (σ:St) (H:Hp) (Q:Option Int→Hp→Prop),Inv X pins σ H s→t σ H Q →
    wpAny (model X.prog X.w) X.A (evalPart e X.env) (fun u s'=>∃ o H',Inv X pins σ H' s'∧IsPart u o∧Q o H') X.xe s
def Ea:TO:=fun _ H Q=>Q none H
def MK (t:TE):TO:=fun σ H Q=>t σ H fun x H1=>∃ i,x=.int i∧Q (some i) H1
section
variable {X:Cx} {e:Expr} {te:TE} {lo hi:Option Expr} {tl th:TO} {pos p2:Pos}
theorem lQ:PO X none Ea:=by
  intro pins s σ H Q I h
  rw [evalPart_none]
  exact wpAny_pure ⟨none,H,I,.none,h⟩
theorem je (h:PE X e te):PO X (some e) (MK te):=by
  intro pins s σ H Q I hw
  rw [evalPart_some]
  refine thn (h pins s σ H _ I hw) fun u s1 ⟨x,H1,I1,r1,q1⟩=>?_
  obtain ⟨i,rfl,q⟩:=q1
  obtain ⟨t,rfl⟩:=r1
  exact ⟨some i,H1,I1,.int i t,q⟩
def SlR (X:Cx) (r:V→Option Int→Option Int→Hp→VK→Prop):Prop :=
  ∀ (pins:List (Addr × Obj)) (s:Shared) (σ:St) (H:Hp) (x:V) (v vl vu:Value) (lo hi:Option Int) (sl:Addr) (Q:VK),Inv X pins σ H s→RelV x v→s.heap.IsSliceOf sl vl vu .none→IsPart vl lo→IsPart vu hi→r x lo hi H Q →
    ∃ T id,typeLookup (.type T) "__getitem__"=pure (some (.builtin id))∧s.TypeIs v T∧wpAny (model X.prog X.w) X.A (getItem v (.ref sl)) (EP X pins σ Q) X.xe s
def tSl (r:V→Option Int→Option Int→Hp→VK→Prop) (te:TE) (tl th:TO):TE:=fun σ H Q=>te σ H fun x H1=>tl σ H1 fun l H2=>th σ H2 fun u H3=>r x l u H3 Q
theorem iT {r:V→Option Int→Option Int→Hp→VK→Prop} (hr:SlR X r) (he:PE X e te) (hl:PO X lo tl) (hu:PO X hi th):PE X (.Subscript e (.Slice lo hi none p2) pos) (tSl r te tl th):=by
  intro pins s σ H Q I h
  refine Subscript_ (thn (he pins s σ H _ I h) fun v s1 ⟨x,H1,I1,r1,q1⟩=>?_)
  refine wpAny_Slice (thn (hl pins s1 σ H1 _ I1 q1) fun vl s2 ⟨l,H2,I2,pl,q2⟩=>thn (hu pins s2 σ H2 _ I2 q2) fun vu s3 ⟨u,H3,I3,pu,q3⟩=>?_)
  rw [evalPart_none]
  refine wpAny_pure ?_
  have I4:Inv X pins σ H3 { s3 with heap:=s3.heap.push { cls:=.type "slice",data:=.fields #[vl,vu,.none] } }:=I3.kept (t':=s3.toks) fun b ob q=>Heap.get?_push_of_some _ q
  obtain ⟨T,id,hT,ht,hg⟩:=hr pins { s3 with heap:=s3.heap.push { cls:=.type "slice",data:=.fields #[vl,vu,.none] } } σ H3 x v vl vu l u s3.heap.objs.size Q I4 r1 (Heap.IsSliceOf.new ..) pl pu q3
  show wpAny (model X.prog X.w) X.A (subscriptTail e (.Slice lo hi none p2) v (.ref s3.heap.objs.size)) (EP X pins σ Q) X.xe { s3 with heap:=s3.heap.push { cls:=.type "slice",data:=.fields #[vl,vu,.none] } }
  exact tail_any (ops:=[.ref s3.heap.objs.size,v]) ht hT hg (by with_unfolding_all rfl)
def qm (xs:List V) (lo hi:Option Int):List V:=(xs.drop (HT.sIx xs.length 0 lo)).take (HT.sIx xs.length xs.length hi - HT.sIx xs.length 0 lo)
theorem oR (xs:List V) (lo hi:Option Int):(qm xs lo hi).length≤xs.length:=by
  unfold qm
  rw [List.length_take,List.length_drop]
  omega
end
end L2
namespace L2
open PySem PySem.Spec PyProof.Rows
def ixN (n:Nat) (i:Int):Option Nat:=if 0≤i then (if i<n then some i.toNat else none) else if -(n:Int)≤i then some (i + n).toNat else none
def atI {α:Type} (xs:List α) (i:Int):Option α:=(ixN xs.length i).bind fun j=>xs[j]?
theorem tu {n:Nat} {i:Int} {j:Nat} (h:ixN n i=some j):seqIndex? i n=some j∧j<n∧-(n:Int)≤i∧i<n:=by
  unfold ixN at h
  by_cases h0:0≤i
  · rw [if_pos h0] at h
    by_cases h1:i<n
    · rw [if_pos h1] at h
      have e:i.toNat=j:=Option.some.inj h
      exact ⟨by rw [seqIndex_of h0 h1,e],by omega,by omega,h1⟩
    · rw [if_neg h1] at h;cases h
  · rw [if_neg h0] at h
    by_cases h1:-(n:Int)≤i
    · rw [if_pos h1] at h
      have e:(i + n).toNat=j:=Option.some.inj h
      exact ⟨by rw [seqIndex_neg (by omega) h1,e],by omega,h1,by omega⟩
    · rw [if_neg h1] at h;cases h
theorem um {α:Type} {xs:List α} {i:Int} {v:α} (h:atI xs i=some v):∃ j,seqIndex? i xs.length=some j∧xs[j]?=some v∧j<xs.length∧-(xs.length:Int)≤i∧i<xs.length:=by
  unfold atI at h
  cases e:ixN xs.length i with
  | none=>rw [e] at h;cases h
  | some j =>
    rw [e] at h
    obtain ⟨h1,h2,h3,h4⟩:=tu e
    exact ⟨j,h1,h,h2,h3,h4⟩
theorem eV {α:Type} {xs:List α} {j:Nat} {v:α} (h:xs[j]?=some v):atI xs (j:Int)=some v:=by
  have hj:j<xs.length:=(List.getElem?_eq_some_iff.mp h).1
  have e:ixN xs.length (j:Int)=some j:=by
    unfold ixN
    rw [if_pos (by omega),if_pos (by omega)];simp
  unfold atI;rw [e];exact h
theorem vG {α:Type} (xs:List α) (v:α):atI (xs++[v]) (-1)=some v:=by
  have hl:(xs++[v]).length=xs.length + 1:=by simp
  have e:ixN (xs++[v]).length (-1)=some xs.length:=by
    unfold ixN
    rw [hl,if_neg (by decide),if_pos (by omega)]
    congr 1
    omega
  unfold atI
  rw [e]
  show (xs++[v])[xs.length]?=some v
  simp
def Fi (b:Expr):Prop:=∀ o i,subscripted b false o i=operate [o,i] (getItem o i)
def IxR (X:Cx) (r:R2):Prop :=
  ∀ (value slice:Expr) (pins:List (Addr × Obj)) (s:Shared) (σ:St) (H:Hp) (x y:V) (v u:Value) (Q:VK),Inv X pins σ H s→RelV x v→RelV y u→r x y H Q →
    subscripted slice false v u=operate [v,u] (getItem v u)→wpAny (model X.prog X.w) X.A (subscriptTail value slice v u) (EP X pins σ Q) X.xe s
def MtR (X:Cx) (id:String) (r:V→List V→Hp→VK→Prop):Prop :=
  ∀ (pins:List (Addr × Obj)) (s:Shared) (σ:St) (H:Hp) (x:V) (xs:List V) (v:Value) (us:List Value) (Q:VK),Inv X pins σ H s→RelV x v→Vals xs us→r x xs H Q →
    wpAny (model X.prog X.w) X.A (call (.builtin id) (v :: us)) (EP X pins σ Q) X.xe s
section
variable {X:Cx} {a b:Expr} {ta tb:TE} {pos:Pos}
theorem aP {r:R2} (hr:IxR X r) (ha:PE X a ta) (hb:PE X b tb) (hs:Fi b):PE X (.Subscript a b pos) (tOp r ta tb):=by
  intro pins s σ H Q I h
  exact Subscript_ (Mw ha hb I h fun v u s2 x y H2 I2 rx ry q=>hr a b pins s2 σ H2 x y v u Q I2 rx ry q (hs _ _))
def Qh (K:PySem.W.Frag):R2:=fun x y H Q=>∃ p xs i v,x=.ref p∧y=.int i∧SqL K H p xs∧atI xs i=some v∧Q v H
def Qg (K:PySem.W.Frag):R2:=fun x y H Q=>∃ p xs i v,x=.ref p∧y=.int i∧SqT K H p xs∧atI xs i=some v∧Q v H
theorem aD:IxR X (Qh X.K):=by
  intro value slice pins s σ H x y v u Q I rx ry h hs
  obtain ⟨p,xs,i,z,rfl,rfl,hq,he,q⟩:=h
  cases rx
  obtain ⟨t,rfl⟩:=ry
  obtain ⟨its,r,pl,hz⟩:=I.list hq
  obtain ⟨j,h1,h2,h3,h4,h5⟩:=um he
  obtain ⟨w,ew,rw'⟩:=r.get h2
  have hl:=r.length
  have hn:=nu
  have fin:EP X pins σ Q w s:=⟨z,H,I,rw',q⟩
  by_cases h0:0≤i
  · have hj:i.toNat=j:=by
      rw [seqIndex_of h0 h5] at h1
      exact Option.some.inj h1
    exact item_listR pl.isList h0 (by omega) (by rw [hj];simpa using ew) fin hs
  · have hj:(i + (its.toArray.size:Int)).toNat=j:=by
      rw [seqIndex_neg (by omega) h4] at h1
      rw [List.size_toArray,← hl]
      exact Option.some.inj h1
    exact subscriptTail_builtinR (x:=w) pl.isList.typeIs slot_list_getitem.lookup
      (wpAny_getItem_list_neg (Q:=fun r s'=>r=w∧EP X pins σ Q r s') pl.isList (by omega) (by rw [List.size_toArray] <;> omega) (by omega) (by rw [hj];simpa using ew) ⟨rfl,fin⟩) hs
theorem eY:IxR X (Qg X.K):=by
  intro value slice pins s σ H x y v u Q I rx ry h hs
  obtain ⟨p,xs,i,z,rfl,rfl,hq,he,q⟩:=h
  cases rx
  obtain ⟨t,rfl⟩:=ry
  obtain ⟨its,r,pl,hz⟩:=I.tuple hq
  obtain ⟨j,h1,h2,h3,h4,h5⟩:=um he
  obtain ⟨w,ew,rw'⟩:=r.get h2
  have hl:=r.length
  have hn:=nu
  have fin:EP X pins σ Q w s:=⟨z,H,I,rw',q⟩
  exact subscriptTail_builtinR (x:=w) pl.typeIs slot_tuple_getitem.lookup
    (getItem_tuple (j:=j) (Q:=fun r s'=>r=w∧EP X pins σ Q r s') pl (by omega) (by omega) (by rw [List.size_toArray,← hl];exact h1) (by simpa using ew) ⟨rfl,fin⟩) hs
theorem qM (its:List Value) (n j:Nat) (u:Value):Obj.mapSeq (·.setIfInBounds j u) { cls:=.type "list",data:=.seq its.toArray n }={ cls:=.type "list",data:=.seq (its.set j u).toArray n }:=by
  simp [Obj.mapSeq]
theorem Inv.lst {pins:List (Addr × Obj)} {σ:St} {H:Hp} {s:Shared} {p:Addr} {xs:List V} (I:Inv X pins σ H s) (h:H p=some (.lst xs)) :
    ∃ (its:List Value) (n:Nat),Vals xs its∧s.heap.get? p=some { cls:=.type "list",data:=.seq its.toArray n }∧xs.length≤sizeLine:=by
  obtain ⟨z,its,n,r,e⟩:=I.hok p _ h
  exact ⟨its,n,r,e,z⟩
theorem Inv.GD {pins:List (Addr × Obj)} {σ:St} {H:Hp} {s:Shared} {p:Addr} {xs ys:List V} {its its':List Value} {n n':Nat} {f:Obj→Obj} (I:Inv X pins σ H s) (h:H p=some (.lst xs))
    (ho:s.heap.get? p=some { cls:=.type "list",data:=.seq its.toArray n }) (hf:f { cls:=.type "list",data:=.seq its.toArray n }={ cls:=.type "list",data:=.seq its'.toArray n' }) (r:Vals ys its') (hz:ys.length≤sizeLine) (t:Nat) :
    Inv X pins σ (upd H p (.lst ys)) { s with heap:=s.heap.update p f,toks:=t }:=by
  have e:(s.heap.update p f).get? p=some { cls:=.type "list",data:=.seq its'.toArray n' }:=by
    rw [Heap.get?_update_self f ho (by rw [hf] <;> rfl),hf]
  refine I.write (x:=p) (e:=p) (by rw [h];trivial) (.inl rfl) (fun b u hb q=>(Heap.get?_update_other _ _ (Ne.symm hb)).trans q) ⟨_,e⟩ ?_
  exact ⟨hz,its',n',r,e⟩
def Ga:V→V→V→Hp→(Hp→Prop)→Prop:=fun o i v H Q=>∃ p xs k j,o=.ref p∧i=.int k∧H p=some (.lst xs)∧ixN xs.length k=some j∧Q (upd H p (.lst (xs.set j v)))
theorem set_list:Qv X Ga:=by
  intro pins s σ H o i v ov iv u Q I ro ri rv h
  obtain ⟨p,xs,k,j,rfl,rfl,hp,hj,q⟩:=h
  cases ro
  obtain ⟨t,rfl⟩:=ri
  obtain ⟨its,n,r,ho,hz⟩:=I.lst hp
  obtain ⟨h1,h2,h3,h4⟩:=tu hj
  have hl:=r.length
  have hn:=nu
  have I':Inv X pins σ (upd H p (.lst (xs.set j v))) { s with heap:=s.heap.update p (Obj.mapSeq (·.setIfInBounds j u)) } :=
    I.GD hp ho (qM its n j u) (r.set rv j) (by rw [List.length_set];exact hz) s.toks
  by_cases h0:0≤k
  · have hk:k.toNat=j:=by
      rw [seqIndex_of h0 h4] at h1
      exact Option.some.inj h1
    exact PySem.W.ki_setAt ho h0 (by omega) (by rw [List.size_toArray,← hl];exact h4) (by rw [hk];exact ⟨_,I',q⟩)
  · have hk:(k + (its.toArray.size:Int)).toNat=j:=by
      rw [seqIndex_neg (by omega) h3] at h1
      rw [List.size_toArray,← hl]
      exact Option.some.inj h1
    exact PySem.W.ki_setBack ho (by omega) (by rw [List.size_toArray,← hl];exact h3) (by omega) (by rw [hk];exact ⟨_,I',q⟩)
theorem mV (lo hi:Option Int) (n:Nat):(sliceBounds lo hi none n).1=((HT.sIx n 0 lo:Nat):Int)∧(sliceBounds lo hi none n).2.1=((HT.sIx n n hi:Nat):Int)∧(sliceBounds lo hi none n).2.2=1:=by
  refine ⟨?_,?_,rfl⟩
  · cases lo with
    | none=>simp [sliceBounds,HT.sIx]
    | some i =>
      simp only [sliceBounds,HT.sIx,Option.getD_none,show (1:Int) > 0 by decide,if_true]
      by_cases h:i<0
      · simp only [h,if_true] <;> omega
      · simp only [h,if_false] <;> omega
  · cases hi with
    | none=>simp [sliceBounds,HT.sIx]
    | some i =>
      simp only [sliceBounds,HT.sIx,Option.getD_none,show (1:Int) > 0 by decide,if_true]
      by_cases h:i<0
      · simp only [h,if_true] <;> omega
      · simp only [h,if_false] <;> omega
theorem lH (its:List Value) (lo hi:Option Int):slicePick its.toArray lo hi none=((its.drop (HT.sIx its.length 0 lo)).take (HT.sIx its.length its.length hi - HT.sIx its.length 0 lo)).toArray:=by
  obtain ⟨h1,h2,h3⟩:=mV lo hi its.toArray.size
  unfold slicePick
  rw [h1,h2,h3]
  simp only [sliceRange_one,pick_run,List.size_toArray] <;> rfl
def Qf (K:PySem.W.Frag):V→Option Int→Option Int→Hp→VK→Prop:=fun x lo hi H Q=>∃ a xs,x=.ref a∧SqL K H a xs∧∀ p,H p=none→Q (.ref p) (upd H p (.lst (qm xs lo hi)))
theorem jE:SlR X (Qf X.K):=by
  intro pins s σ H x v vl vu lo hi sl Q I rx hs pl pu h
  obtain ⟨a,xs,rfl,hx,q⟩:=h
  cases rx
  obtain ⟨its,r,ht,hz⟩:=I.list hx
  have hlen:=r.length
  refine ⟨"list",_,slot_list_getitem.lookup,ht.isList.typeIs,?_⟩
  refine wpAny_getItem_list_slice ht.isList hs pl pu .none (by simp) ?_ (by rw [List.size_toArray] <;> omega)
  rw [lH,← hlen]
  refine ⟨.ref s.heap.objs.size,_,I.laid (t':=s.toks) (o:=.lst (qm xs lo hi)) (fun b ob q=>Heap.get?_push_of_some _ q) (Nat.le_refl _) ?_,rfl,q _ (I.hok.fresh (Nat.le_refl _))⟩
  exact ⟨Nat.le_trans (oR xs lo hi) hz,_,0,(r.drop (HT.sIx xs.length 0 lo)).take (HT.sIx xs.length xs.length hi - HT.sIx xs.length 0 lo),Heap.get?_push_size _ rfl⟩
def mz:V→Bool
  | .non=>true
  | .bl _=>true
  | .int _=>true
  | .str _=>true
  | _=>false
def eqV:V→V→Bool
  | .non,.non=>true
  | .bl a,.bl b=>a == b
  | .bl a,.int b=>(if a then 1 else 0) == b
  | .int a,.bl b=>a == (if b then 1 else 0)
  | .int a,.int b=>a == b
  | .str a,.str b=>a == b
  | _,_=>false
theorem Mh {A:Around} {s:Shared} {y x:V} {u v:Value} (ry:RelV y u) (rx:RelV x v) (fy:mz y=true) (fx:mz x=true):SeqAt.EqAt A s u v (eqV y x):=by
  cases y with
  | non =>
    cases ry
    cases x with
    | non=>cases rx;exact SeqAt.EqAt.same _
    | bl b=>cases rx;exact SeqAt.EqAt.none_bool b
    | int b=>obtain ⟨t,rfl⟩:=rx;exact SeqAt.EqAt.none_int b t
    | str b=>obtain ⟨t,rfl⟩:=rx;exact SeqAt.EqAt.none_str b t
    | _=>exact absurd (show false=true from fx) Bool.false_ne_true
  | bl a =>
    cases ry
    cases x with
    | non=>cases rx;exact SeqAt.EqAt.bool_none a
    | bl b=>cases rx;exact SeqAt.EqAt.bool_bool a b
    | int b=>obtain ⟨t,rfl⟩:=rx;exact SeqAt.EqAt.bool_int a b t
    | str b=>obtain ⟨t,rfl⟩:=rx;exact SeqAt.EqAt.bool_str a b t
    | _=>exact absurd (show false=true from fx) Bool.false_ne_true
  | int a =>
    obtain ⟨t',rfl⟩:=ry
    cases x with
    | non=>cases rx;exact SeqAt.EqAt.int_none a t'
    | bl b=>cases rx;exact SeqAt.EqAt.int_bool a t' b
    | int b=>obtain ⟨t,rfl⟩:=rx;exact SeqAt.EqAt.int_int a t' b t
    | str b=>obtain ⟨t,rfl⟩:=rx;exact SeqAt.EqAt.int_str a t' b t
    | _=>exact absurd (show false=true from fx) Bool.false_ne_true
  | str a =>
    obtain ⟨t',rfl⟩:=ry
    cases x with
    | non=>cases rx;exact SeqAt.EqAt.str_none a t'
    | bl b=>cases rx;exact SeqAt.EqAt.str_bool a t' b
    | int b=>obtain ⟨t,rfl⟩:=rx;exact SeqAt.EqAt.str_int a t' b t
    | str b=>obtain ⟨t,rfl⟩:=rx;exact SeqAt.EqAt.str_str a t' b t
    | _=>exact absurd (show false=true from fx) Bool.false_ne_true
  | _=>exact absurd (show false=true from fy) Bool.false_ne_true
def eqU (x:V) (u:Value):Bool:=match u with
  | .none=>eqV .non x
  | .bool b=>eqV (.bl b) x
  | .int i _=>eqV (.int i) x
  | .str z _=>eqV (.str z) x
  | _=>false
theorem Dz {x y:V} {u:Value} (r:RelV y u) (f:mz y=true):eqU x u=eqV y x:=by
  cases y with
  | non=>cases r;rfl
  | bl b=>cases r;rfl
  | int i=>obtain ⟨t,rfl⟩:=r;rfl
  | str z=>obtain ⟨t,rfl⟩:=r;rfl
  | _=>exact absurd (show false=true from f) Bool.false_ne_true
theorem oY {x:V}:∀ {xs:List V} {us:List Value},Vals xs us→xs.all mz=true→us.any (eqU x)=xs.any fun y=>eqV y x
  | _,_,.nil,_=>rfl
  | y :: xs,u :: us,.cons r t,f=>by
    rw [List.all_cons,Bool.and_eq_true] at f
    rw [List.any_cons,List.any_cons,Dz r f.1,oY t f.2]
theorem lX {A:Around} {s:Shared} {x:V} {v:Value} (rx:RelV x v) (fx:mz x=true):∀ {xs:List V} {us:List Value},Vals xs us→xs.all mz=true→∀ u∈us,SeqAt.EqAt A s u v (eqU x u)
  | _,_,.nil,_=>fun u hu=>by cases hu
  | y :: xs,u :: us,.cons r t,f=>fun u' hu=>by
    rw [List.all_cons,Bool.and_eq_true] at f
    rcases List.mem_cons.mp hu with rfl | hu
    · rw [Dz r f.1];exact Mh r rx f.1 fx
    · exact lX rx fx t f.2 u' hu
def inV (x:V) (xs:List V):Bool:=xs.any fun y=>eqV y x
def rIn (K:PySem.W.Frag) (neg:Bool):R2:=fun x y H Q=>∃ p xs,y=.ref p∧(SqL K H p xs∨SqT K H p xs)∧mz x=true∧xs.all mz=true∧Q (.bl (if neg then !inV x xs else inV x xs)) H
theorem jO:OpR X (compareOp .In) (rIn X.K false):=by
  intro pins s σ H x y v u Q I rx ry h
  obtain ⟨p,xs,rfl,hq,fx,fs,q⟩:=h
  cases ry
  rcases hq with hq | hq
  · obtain ⟨its,r,pl,hz⟩:=I.list hq
    refine SeqAt.in_listAt (eqU x) pl.isList (fun w hw=>lX rx fx r fs w (by simpa using hw)) ⟨.bl _,H,I,rfl,?_⟩
    rw [show its.toArray.any (eqU x)=its.any (eqU x) by simp,oY r fs]
    exact q
  · obtain ⟨its,r,pl,hz⟩:=I.tuple hq
    refine SeqAt.in_tupleAt (eqU x) pl (fun w hw=>lX rx fx r fs w (by simpa using hw)) ⟨.bl _,H,I,rfl,?_⟩
    rw [show its.toArray.any (eqU x)=its.any (eqU x) by simp,oY r fs]
    exact q
theorem aF:j5 X (.builtin "len") (fun xs H Q=>∃ p ys,xs=[.ref p]∧(SqL X.K H p ys∨SqT X.K H p ys)∧Q (.int ys.length) H):=by
  intro pins s σ H xs us Q I r h
  obtain ⟨p,ys,rfl,hq,q⟩:=h
  obtain ⟨u,rfl,rx⟩:=vals1 r
  cases rx
  have hn:=nu
  rcases hq with hq | hq
  · obtain ⟨its,r',pl,hz⟩:=I.list hq
    have hlen:=r'.length
    exact Calls.call_len_list pl.isList (by simp only [List.size_toArray] <;> omega) ⟨.int ys.length,H,I.tok _,⟨s.toks + 1,by rw [List.size_toArray,hlen]⟩,q⟩
  · obtain ⟨its,r',pl,hz⟩:=I.tuple hq
    have hlen:=r'.length
    exact len_tuple pl (by simp only [List.size_toArray] <;> omega) ⟨.int ys.length,H,I.tok _,⟨s.toks + 1,by rw [List.size_toArray,hlen]⟩,q⟩
theorem nG:j5 X (.builtin "len") (fun xs H Q=>∃ z,xs=[.str z]∧z.length≤sizeLine∧Q (.int z.length) H):=by
  intro pins s σ H xs us Q I r h
  obtain ⟨z,rfl,hz,q⟩:=h
  obtain ⟨u,rfl,t,rfl⟩:=vals1 r
  have hn:=nu
  exact len_str (by omega) ⟨.int z.length,H,I.tok _,⟨_,rfl⟩,q⟩
theorem fW:j5 X (.type "list") (fun xs H Q=>∃ p ys,xs=[.ref p]∧(SqL X.K H p ys∨SqT X.K H p ys)∧∀ l,H l=none→Q (.ref l) (upd H l (.lst ys))):=by
  intro pins s σ H xs us Q I r h
  obtain ⟨p,ys,rfl,hq,q⟩:=h
  obtain ⟨u,rfl,rx⟩:=vals1 r
  cases rx
  have fin:∀ (its:List Value),Vals ys its→ys.length≤sizeLine→∀ (h':Heap) (c':Nat),(∀ b o',s.heap.get? b=some o'→h'.get? b=some o') →
      h'.get? s.heap.objs.size=some { cls:=.type "list",dict:=none,data:=.seq its.toArray c',slots:=#[] }→EP X pins σ Q (.ref s.heap.objs.size) { s with heap:=h' }:=fun its r' hz h' c' kp e =>
    ⟨.ref s.heap.objs.size,_,I.laid (t':=s.toks) kp (Nat.le_refl _) (show fK X.prog X.w _ h' _ (.lst ys) from ⟨hz,its,c',r',e⟩),rfl,q _ (I.hok.fresh (Nat.le_refl _))⟩
  rcases hq with hq | hq
  · obtain ⟨its,r',pl,hz⟩:=I.list hq
    have hlen:=r'.length
    obtain ⟨o,ho,hc,n,hd⟩:=pl.isList
    exact call_list_seq p (.inl rfl) ho hc hd (fun h' c' kp e=>fin its r' hz h' c' kp e) (by simp only [List.size_toArray] <;> omega)
  · obtain ⟨its,r',pl,hz⟩:=I.tuple hq
    have hlen:=r'.length
    obtain ⟨o,ho,hc,n,hd⟩:=pl
    exact call_list_seq p (.inr rfl) ho hc hd (fun h' c' kp e=>fin its r' hz h' c' kp e) (by simp only [List.size_toArray] <;> omega)
def tyV (K:PySem.W.Frag) (T:String) (x:V) (H:Hp):Prop:=match x with
  | .str _=>T="str"
  | .int _=>T="int"
  | .ref p=>(T="list"∧∃ xs,SqL K H p xs)∨(T="tuple"∧∃ o,K.lookup p=some o∧o.cls=.type "tuple"∧o.dict=none) ∨
      (T="dict"∧((∃ kvs,H p=some (.dK kvs))∨∃ kvs,H p=some (.dT kvs)))∨(T="set"∧∃ S n,H p=some (.set S n))
  | _=>False
theorem Fz {pins:List (Addr × Obj)} {σ:St} {H:Hp} {s:Shared} {T:String} {x:V} {v:Value} (I:Inv X pins σ H s) (r:RelV x v) (ty:tyV X.K T x H) :
    s.TypeIs v T∧∀ a,v=.ref a→∃ ob,s.heap.get? a=some ob∧ob.dict=none:=by
  cases x with
  | str z =>
    obtain ⟨t,rfl⟩:=r
    cases (show T="str" from ty)
    exact ⟨typeIs_str s z t,fun _ e=>nomatch e⟩
  | int i =>
    obtain ⟨t,rfl⟩:=r
    cases (show T="int" from ty)
    exact ⟨typeIs_int s i t,fun _ e=>nomatch e⟩
  | ref p =>
    cases r
    rcases ty with ⟨rfl,xs,hq⟩ | ⟨rfl,o,hk,hc,hd⟩ | ⟨rfl,hk⟩ | ⟨rfl,S,n,hk⟩
    · obtain ⟨its,_,pl,_⟩:=I.list hq
      refine ⟨pl.isList.typeIs,fun a e=>?_⟩
      cases e
      obtain ⟨o,n,e,c,hd,_⟩:=pl
      exact ⟨o,e,hd⟩
    · refine ⟨⟨o,I.kIn p o hk,hc⟩,fun a e=>?_⟩
      cases e
      exact ⟨o,I.kIn _ o hk,hd⟩
    · have z:∃ o,s.heap.get? p=some o∧o.ExactDict:=by
        rcases hk with ⟨kvs,hk⟩ | ⟨kvs,hk⟩
        · obtain ⟨_,_,_,_,o,_,_,e,ex,_⟩:=I.hok p _ hk
          exact ⟨o,e,ex⟩
        · obtain ⟨_,_,_,_,o,_,_,e,ex,_⟩:=I.hok p _ hk
          exact ⟨o,e,ex⟩
      obtain ⟨o,e,ex⟩:=z
      refine ⟨⟨o,e,ex.1⟩,fun a e2=>?_⟩
      cases e2
      exact ⟨o,e,ex.2.1⟩
    · obtain ⟨o,_,_,_,e,ex,_⟩:=I.hok p _ hk
      refine ⟨⟨o,e,ex.1⟩,fun a e2=>?_⟩
      cases e2
      exact ⟨o,e,ex.2.1⟩
  | _=>exact False.elim ty
def tBM (K:PySem.W.Frag) (T:String) (r:V→List V→Hp→VK→Prop) (to:TE) (t:TA):TE:=fun σ H Q=>to σ H fun x H1=>tyV K T x H1∧t σ H1 fun xs H2=>r x xs H2 Q
variable {o e:Expr} {es:List Expr} {to:TE} {t:TA} {name:Str} {apos cpos:Pos} {T id:String} {r:V→List V→Hp→VK→Prop}
theorem j9 (pa:PlainAttrs T) (slot:Slot T name id) (hty:typeOf (.builtin id)=pure (.type "method_descriptor")) (hm:MtR X id r) (ho:PE X o to) (ha:PA X (e :: es) t)
    (hbase:attributeBase o name X.env (eval o X.env)=eval o X.env:=by rfl)
    (hfew:((backTo cpos (starEach (e :: es) X.env)).all (fun x=>!x.1) && (backToKw cpos (keywordEach [] X.env)).all (fun x=>x.1.isSome)
      && decide ((e :: es).length + ([]:List Keyword).length + (if ([]:List Keyword).isEmpty then 0 else 1)<30))=true:=by rfl)
    (hline:(apos.endLine == cpos.line)=true:=by rfl) (hs:starEach (e :: es) X.env=(false,eval e X.env) :: starEach es X.env:=by rfl) (hplain:(backTo cpos (starEach es X.env)).any (·.1)=false:=by rfl) :
    PE X (.Call (.Attribute o name apos) (e :: es) [] cpos) (tBM X.K T r to t):=by
  intro pins s σ H Q I h
  refine wpAny_Call_method_late hbase hfew hline rfl (thn (ho pins s σ H _ I h) fun v s1 ⟨x,H1,I1,r1,ty,q1⟩=>?_)
  obtain ⟨h1,h2⟩:=Fz I1 r1 ty
  refine ⟨T,id,pa,slot,hty,h1,h2,?_⟩
  have hA:=ha cpos pins s1 σ H1 _ I1 q1
  rw [hs] at hA ⊢
  refine Calls.callWith_builtin (by show (false || (backTo cpos (starEach es X.env)).any (·.1))=false;rw [hplain] <;> rfl) (Calls.evalArgs_plain ?_)
  exact thn hA fun us s2 ⟨vs,H2,I2,r2,q2⟩=>hm pins s2 σ H2 x vs v us Q I2 r1 r2 q2
end
end L2
namespace L2
open PySem PySem.Spec PyProof.Rows
def MtM (X:Cx) (id:String) (r:V→List V→Hp→VK→Prop):Prop :=
  ∀ (pins:List (Addr × Obj)) (s:Shared) (σ:St) (H:Hp) (x:V) (xs:List V) (v:Value) (us:List Value) (Q:VK),Inv X pins σ H s→RelV x v→Vals xs us→r x xs H Q →
    wpAny (model X.prog X.w) X.A (call (.builtin id) (v :: us)) (EP X pins σ Q) X.xe s
theorem Vals.one:∀ {x:V} {us:List Value},Vals [x] us→∃ u,us=[u]∧RelV x u
  | _,_,.cons r .nil=>⟨_,rfl,r⟩
section
variable {X:Cx} {pins:List (Addr × Obj)} {σ:St} {H:Hp} {s:Shared} {l b:Addr} {xs ys zs:List V}
theorem Inv.lset {its its':List Value} {n:Nat} {f:Array Value→Array Value} {t':Nat} (I:Inv X pins σ H s) (hH:H l=some (.lst xs))
    (e:s.heap.get? l=some { cls:=.type "list",data:=.seq its.toArray n }) (hf:f its.toArray=its'.toArray) (hv:Vals ys its') (hz:ys.length≤sizeLine) :
    Inv X pins σ (upd H l (.lst ys)) { s with heap:=s.heap.update l (Obj.mapSeq f),toks:=t' }:=by
  have q:=PySem.IsL.update e f
  rw [hf] at q
  refine I.write (x:=l) (e:=l) (by rw [hH];exact trivial) (.inl rfl) (fun b' u hb hu=>(Heap.get?_update_other s.heap (Obj.mapSeq f) (Ne.symm hb)).trans hu) ⟨_,q⟩ ?_
  exact ⟨hz,its',_,hv,q⟩
theorem Inv.lstM (I:Inv X pins σ H s) (hH:H l=some (.lst xs)):xs.length≤sizeLine∧∃ (its:List Value) (n:Nat),Vals xs its∧xs.length=its.length∧s.heap.get? l=some { cls:=.type "list",data:=.seq its.toArray n }:=by
  obtain ⟨z,its,n,r,e⟩:=I.hok l _ hH
  exact ⟨z,its,n,r,r.length,e⟩
end
section
variable {X:Cx}
def Eh:V→List V→Hp→VK→Prop:=fun x vs H Q=>∃ l xs y,x=.ref l∧vs=[y]∧H l=some (.lst xs)∧xs.length<sizeLine∧Q .non (upd H l (.lst (xs++[y])))
theorem dB:MtM X "list.append" Eh:=by
  intro pins s σ H x vs v us Q I rx rv h
  obtain ⟨l,xs,y,rfl,rfl,hH,hz,q⟩:=h
  cases rx
  obtain ⟨u,rfl,ru⟩:=rv.one
  obtain ⟨z,its,n,r,hl,e⟩:=I.lstM hH
  refine call_meets F.slot_list_append ⟨_,e,rfl⟩ F.entry_list_append (F.args_list_append_2 _ _) (PySem.list_append l its.toArray n u (by rw [List.size_toArray];omega)) ⟨e,?_⟩
  refine ⟨.non,_,I.lset (its':=its++[u]) hH e (by simp) (r.append (.cons ru .nil)) ?_,rfl,q⟩
  rw [List.length_append,List.length_singleton]
  omega
end
end L2
namespace Att
open PySem PySem.W PySem.Calls PyProof.Rows
theorem jV {P:Params} {h:Heap}:∀ (ns:List Int) (vs:List Value),WellAll P h vs (ns.map WData.int)→IntsAre vs ns:=by
  intro ns
  induction ns with
  | nil =>
    intro vs w
    rw [List.map_nil] at w
    cases w
    exact .nil
  | cons n ns ih =>
    intro vs w
    rw [List.map_cons] at w
    cases w with
    | cons a b =>
      cases a
      exact .cons _ _ (ih _ b)
theorem rN {l:OpenLaw} {n:Nat} (hn:l.most=some n) {P:Params} {h:Heap} {args:List WData} {vals:List Value}
    (hpre:l.row.toRowW.claim.pre args=true) (hwl:WellAll P h vals args) :
    ∃ a vs ns,vals=[Value.ref a]∧args=[WData.list (ns.map WData.int)]∧h.get? a=some { cls:=.type "list",data:=.seq vs.toArray }∧IntsAre vs ns∧ns.length≤n:=by
  have hsh:WShape.hasAll [] args [.list .int]=true:=(pre_splitW hpre).1
  have hc:l.pre.holds [] { args:=args }=true:=(pre_splitW hpre).2
  obtain ⟨d,r,rfl,h1,h2⟩:=hasAllW_cons hsh
  obtain rfl:=hasAllW_nil h2
  obtain ⟨xs,rfl,h3⟩:=hasW_list h1
  obtain ⟨ns,rfl⟩:=items_int h3
  have hlen:ns.length≤n:=by
    unfold OpenLaw.pre at hc
    have h4:(WTm.not (.lt (.lit (.int (n:Int))) (.len (.arg 0)))).holds [] { args:=[.list (ns.map .int)] }=true:=by
      have h4:=(holds_andW hc).1
      rw [hn] at h4
      exact h4
    have h5:=condW_of h4 (w_not (w_lt w_lit (w_len_list (w_arg rfl))))
    rw [List.length_map] at h5
    refine Nat.le_of_not_lt fun q=>?_
    have q':(n:Int)<((ns.length:Nat):Int):=by omega
    first
      | (rw [decide_eq_true q'] at h5;exact absurd h5 (by decide))
      | (simp at h5;omega)
  cases hwl with
  | cons w1 w2 =>
    cases w2
    cases w1 with
    | list ho hall=>exact ⟨_,_,ns,rfl,rfl,ho,jV ns _ hall,hlen⟩
theorem rY (l:OpenLaw) (args:List WData):l.row.toRowW.claim.post args (.bool true) args=true :=
  postW_of (r:=l.row.toRowW) (X:=(true == true))
    (show WShape.has [] (.bool true) .bool=true by first | rfl | decide | simp [WShape.has,WShape.arms,WShape.armsAll])
    (show (WTm.eq .res (.lit (.bool true))).value [] { args:=args,res:=some (.bool true),after:=args }=some (.bool (true == true)) from w_eq_bool (w_res rfl) w_lit) rfl
theorem oX {l:OpenLaw} {n:Nat} {q:Program} {loose:List Str} {XP:(Str→Option Value)→Heap→Prop} {YP:World→Heap→Prop} {d:DefRec}
    (hn:l.most=some n) (hdf:d.params.defaults=[])
    (call:∀ (w:World) (s₀ s₁:Shared) (mg mb:Str→Option Value) (fa:Addr) (o:Obj) (pm cd doc:Value) (a:Addr) (vs:List Value) (ns:List Int),
      Ground q loose [] XP w s₀ mg mb s₁.heap→YP w s₁.heap →
      s₁.heap.get? fa=some o→o.data=.func (docDef d.name d.params d.body d.scope pm cd doc)→s₁.heap.CodeRec cd d.name→mg d.name=some (.ref fa) →
      s₁.heap.get? a=some { cls:=.type "list",data:=.seq vs.toArray }→IntsAre vs ns→ns.length≤n→s₁.gens=#[] →
      codeAny (model l.prog w) callerA (.call (.ref fa) ⟨[.ref a],[]⟩) (fun r s'=>r=.ok (.ret (.bool true))∧OldK s₁.heap s'.heap∧s'.os=s₁.os∧AllBare s'.gens) s₁) :
    WalkO q loose XP YP l.row.toRowW d [] (fun f vs=>PySem.call f vs):=by
  intro w s₀ s₁ mg mb G Y fa o pm cd doc dV kV ho hd hcd hD hmg hg args vals as hpre hlay hrd hwl hlo
  obtain rfl:dV=.none:=Dflts.none hD hdf
  obtain rfl:kV=.none:=Dflts.noKw hD
  obtain ⟨a,vs,ns,rfl,rfl,hobj,hints,hlen⟩:=rN hn hpre hwl
  refine enter_call (codeAny_mono (call w s₀ s₁ mg mb fa o pm cd doc a vs ns G Y ho (fd_plain hd) hcd hmg hobj hints hlen hg) fun r s' hq=>?_)
  obtain ⟨rfl,h2,h3,h4⟩:=hq
  exact ⟨.inl ⟨.bool true,.bool true,[],rfl,fun _=>rfl,.bool true,rY l _,fun _=>⟨List.Pairwise.nil,fun _ hm=>(nomatch hm)⟩⟩,h2,h3,h4⟩
end Att
namespace L2
open PySem PySem.Spec PyProof.Rows
theorem mO:∀ {vs:List Value} {ns:List Int},IntsAre vs ns→Vals (ns.map V.int) vs
  | _,_,.nil=>.nil
  | _,_,.cons n t h=>.cons ⟨t,rfl⟩ (mO h)
def Only (H:Hp):Prop:=∀ b,H b=none∨∃ o xs,H b=some (.frz o (.lst xs))
theorem u9 {P:Program} {w:World} {K:PySem.W.Frag} {mg mb:Str→Option Value} {CX:CXT} {k:Nat} {fa a:Addr} {fd:FuncData} {x:Str} {sp:Sp} {s₁:Shared} {vs:List Value} {ns:List Int}
    (KX:K.In s₁.heap) (hns:s₁.heap.Ns mainGlobals mg) (hb:s₁.heap.Ns builtinsNs mb) (hbb:∀ x:Str,x≠"__name__"→mb x=bootBuiltins x) (hlim:s₁.heap.NoLimit) (hg:s₁.gens=#[])
    (ha:s₁.heap.get? a=some { cls:=.type "list",data:=.seq vs.toArray }) (hi:IntsAre vs ns) (hl:ns.length≤sizeLine) (hr:jh k callerA)
    (F:∀ base:Heap,K.In base→base.Ns mainGlobals mg→cj P w K mg base CX k fa fd [x] sp) (hbind:∀ (s:Shared) (u:Value),BindsTo s fd ⟨[u],[]⟩ [(x,u)])
    (hsp:∀ H:Hp,Only H→SqL K H a (ns.map V.int)→sp [.ref a] H (fun v _=>v=.bl true) fun _ _ _=>False)
    (hCX:∀ H e s',CX [] H s₁ (fun _ _ _=>False) e s'→False) :
    codeAny (model P w) callerA (.call (.ref fa) ⟨[.ref a],[]⟩) (fun r s'=>r=.ok (.ret (.bool true))∧OldK s₁.heap s'.heap∧s'.os=s₁.os∧AllBare s'.gens) s₁:=by
  have rv:=mO hi
  have lenV:=hi.length
  have core:∀ H:Hp,Only H→SqL K H a (ns.map V.int)→HOk P w H s₁.heap→(∀ b,H b≠none→b=a)→(H a≠none→K.lookup a=none) →
      codeAny (model P w) callerA (.call (.ref fa) ⟨[.ref a],[]⟩) (fun r s'=>r=.ok (.ret (.bool true))∧OldK s₁.heap s'.heap∧s'.os=s₁.os∧AllBare s'.gens) s₁:=by
    intro H hO hS hok hA hK
    have base_of:∀ {b:Addr} {o:Obj},s₁.heap.get? b=some o→H b=none→(vg s₁.heap H).get? b=some o:=fun e n=>vf e n
    have noA:∀ {b:Addr} {o:Obj} {es:Array DictEntry} {ep:Nat},s₁.heap.get? b=some o→o.data=.dict es ep→H b=none:=fun {b o es ep} e d=>by
      cases q:H b with
      | none=>rfl
      | some u =>
        have e':b=a:=hA b (by rw [q];simp)
        subst e'
        rw [ha] at e;cases e
        have d':Data.seq vs.toArray _=Data.dict es ep:=d
        cases d'
    have nsK:∀ {b:Addr} {m:Str→Option Value},s₁.heap.Ns b m→(vg s₁.heap H).Ns b m:=fun {b m} ⟨o,es,ep,e,d,r⟩=>⟨o,es,ep,base_of e (noA e d),d,r⟩
    have hKb:K.In (vg s₁.heap H):=fun b o e=>base_of (KX b o e) (by
      cases q:H b with
      | none=>rfl
      | some u =>
        have e':b=a:=hA b (by rw [q];simp)
        subst e'
        rw [hK (by rw [q];simp)] at e;cases e)
    have hM:Mod K mg (vg s₁.heap H):=⟨hKb,nsK hns,⟨mb,nsK hb,hbb⟩,let ⟨mc,h1,h2⟩:=hlim;⟨mc,nsK h1,h2⟩⟩
    have e0:Fl P w K mg (vg s₁.heap H) callerA [] s₁ H:=⟨rfl,hM,fun b o e=>En e,Nat.le_of_eq (tH _ _),trivial,fun b hb=>absurd (show b∈([]:List Addr) from hb) (by simp),hok,.of_eq hg⟩
    refine codeAny_mono ((F _ hKb (nsK hns)).run callerA [] s₁ H ⟨[.ref a],[]⟩ [.ref a] [.ref a] _ _ hr e0 (hbind s₁ (.ref a)) (.cons rfl .nil) (hsp H hO hS)) fun r s' h=>?_
    cases r with
    | error e=>exact (hCX H e s' h).elim
    | ok fl =>
      cases fl with
      | next=>exact False.elim h
      | brk=>exact False.elim h
      | cont=>exact False.elim h
      | ret u =>
        obtain ⟨v,H',os,bare,un,hok',r',q⟩:=h
        have q':v=.bl true:=q
        subst q'
        obtain rfl:u=Value.bool true:=r'
        refine ⟨rfl,OldK.of_keep fun b o e=>?_,os,bare⟩
        cases q:H b with
        | none=>exact un.keep b o e q (by intro z;exact absurd (show b∈([]:List Addr) from z) (by simp)) (by simp)
        | some u =>
          rcases hO b with z | ⟨ob,xs,z⟩
          · rw [q] at z;cases z
          · have z2:=un.frzs b ob _ z
            obtain ⟨e1,_⟩:=hok b _ z
            obtain ⟨e2,_⟩:=hok' b _ z2
            rw [e] at e1;cases e1
            exact e2
  cases hk:K.lookup a with
  | some o =>
    have e:=KX a o hk
    rw [ha] at e
    cases e
    refine core (fun _=>none) (fun _=>.inl rfl) (.inr ⟨_,vs.toArray,_,hk,rfl,rfl,rfl,by rw [List.size_toArray,lenV];exact hl,by simpa using rv⟩) (fun b u z=>by have z':(none:Option HO)=some u:=z;cases z') (fun b z=>absurd rfl z) fun z=>absurd rfl z
  | none =>
    refine core (fun b=>if b=a then some (.frz { cls:=.type "list",data:=.seq vs.toArray } (.lst (ns.map V.int))) else none) (fun b=>?_) (.inl (.inr ⟨{ cls:=.type "list",data:=.seq vs.toArray },if_pos rfl⟩)) (fun b u z=>?_) (fun b z=>?_) fun _=>hk
    · by_cases hb:b=a
      · exact .inr ⟨_,_,if_pos hb⟩
      · exact .inl (if_neg hb)
    · by_cases hb:b=a
      · have z':=(if_pos hb).symm.trans z
        cases z'
        subst hb
        exact ⟨ha,by rw [List.length_map];exact hl,vs,_,rv,ha⟩
      · have z':=(if_neg hb).symm.trans z
        cases z'
    · by_cases hb:b=a
      · exact hb
      · exact absurd (if_neg hb) z
end L2
namespace L2
open PySem PySem.Spec PyProof.Rows
abbrev KOf {K:PySem.W.Frag} {h:Heap} (_:K.In h):PySem.W.Frag:=K
theorem DX {l:PySem.W.OpenLaw} {n k:Nat} {q:Program} {loose:List Str} {XP:(Str→Option Value)→Heap→Prop} {YP:World→Heap→Prop} {d:DefRec} {K:Params→PySem.W.Frag} {CX:World→CXT} {sp:World→Sp} {x:Str}
    (hn:l.most=some n) (hn2:n≤sizeLine) (hdf:d.params.defaults=[]) (hr:jh k callerA)
    (hY:∀ (w:World) (h:Heap),YP w h→(K w.params).In h)
    (F:∀ (w:World) (mg:Str→Option Value) (fa:Addr) (h:Heap),(K w.params).In h→h.Ns mainGlobals mg→mg d.name=some (.ref fa) →
      ∃ fd:FuncData,(∀ (s:Shared) (u:Value),BindsTo s fd ⟨[u],[]⟩ [(x,u)]) ∧
        ∀ base:Heap,(K w.params).In base→base.Ns mainGlobals mg→cj l.prog w (K w.params) mg base (CX w) k fa fd [x] (sp w))
    (hsp:∀ (w:World) (H:Hp) (a:Addr) (ns:List Int),ns.length≤n→Only H→SqL (K w.params) H a (ns.map V.int)→sp w [.ref a] H (fun v _=>v=.bl true) fun _ _ _=>False)
    (hCX:∀ (w:World) (H:Hp) (s:Shared) (e:Value) (s':Shared),CX w [] H s (fun _ _ _=>False) e s'→False) :
    PySem.W.WalkO q loose XP YP l.row.toRowW d [] (fun f vs=>PySem.call f vs):=by
  refine Att.oX hn hdf fun w s₀ s₁ mg mb fa o pm cd doc a vs ns G Y ho hd hcd hmg hobj hints hlen hg=>?_
  have KX:=hY w _ Y
  obtain ⟨fd,hb,hF⟩:=F w mg fa _ KX G.T.g hmg
  exact u9 KX G.T.g G.T.b G.T.builtins G.T.nolimit hg hobj hints (Nat.le_trans hlen hn2) hr hF hb (fun H hO hS=>hsp w H a ns hlen hO hS) fun H e s'=>hCX w H s₁ e s'
end L2
namespace L2
open PySem PySem.Spec PyProof.Rows
abbrev CX0:CXT:=fun _ _ _ _ _ _=>False
abbrev E0:XK:=fun _ _ _=>False
theorem cA {X:Cx}:Passes CX0 X E0:=fun _ _ _ _ _ _ _ h=>h.elim
structure Fun (K:PySem.W.Frag) (x qual:Str) (st:Stmt) (f:Addr) (fd:FuncData):Prop where
  ex:∃ (oc:Value) (od:Option Addr) (kV doc pm:Value) (an:Option Addr) (cdv ct:Value) (osl:Array (Option Value)),
    fd=PySem.W.fnOf x qual (aq st) (ao st) (ak st) .none kV doc pm an cdv ct∧K.lookup f=some ⟨oc,od,.func fd,osl⟩∧PySem.W.codeIn K cdv qual=true
  kp:PySem.W.keepIn K (.ref f)=true
variable {P:Program} {w:World} {K:PySem.W.Frag} {mg:Str→Option Value} {base:Heap} {T:eZ}
theorem Fun.ok {x qual:Str} {st:Stmt} {f:Addr} {fd:FuncData} {N ps:List Str} {k:Nat} {sp:Sp} (F:Fun K x qual st f fd) (S:aL N ps (ak st)) (len:∀ vs H Q E,sp vs H Q E→vs.length=ps.length)
    (hbody:∀ (cdv:Value) (A:Around) (outer:List Env) (s:Shared) (H:Hp) (vs:List V) (Q:VK) (E:XK),jh k (A.deeper (envOfC qual (ak st) s.heap.objs.size f cdv))→sp vs H Q E →
      ∃ t,PSs (ur CX0 P w K mg base N qual (ak st) f cdv A outer s H E).nox (ao st) t∧t { nx:=fun _ H'=>Q .non H',rt:=Q } (start N vs) H):cj P w K mg base CX0 (k + 1) f fd ps sp:=by
  obtain ⟨oc,od,kV,doc,pm,an,cdv,ct,osl,rfl,lk,hcd⟩:=F.ex
  refine Ew lk hcd S len fun A outer s H vs Q E hr hsp=>?_
  obtain ⟨t,h,q⟩:=hbody cdv A outer s H vs Q E hr hsp
  exact ⟨t,h.nox,q⟩
theorem Fun.binds {x qual:Str} {st:Stmt} {f:Addr} {fd:FuncData} {ps:List Str} (F:Fun K x qual st f fd)
    (h:∀ (kV doc pm:Value) (an:Option Addr) (cdv ct:Value) (us:List Value),us.length=ps.length→bindArgs (PySem.W.fnOf x qual (aq st) (ao st) (ak st) .none kV doc pm an cdv ct) ⟨us,[]⟩=pure (ps.zip us)):Binds K fd ps []:=by
  obtain ⟨oc,od,kV,doc,pm,an,cdv,ct,osl,rfl,lk,hcd⟩:=F.ex
  exact .all (h kV doc pm an cdv ct)
theorem bK {x qual:Str} {st:Stmt} {f:Addr} {oc:Value} {od an:Option Addr} {osl:Array (Option Value)} {kV doc pm cdv ct:Value} (l:K.lookup f=some ⟨oc,od,.func (PySem.W.fnOf x qual (aq st) (ao st) (ak st) .none kV doc pm an cdv ct),osl⟩)
    (c:PySem.W.codeIn K cdv qual=true) (k:PySem.W.keepIn K (.ref f)=true):Fun K x qual st f (PySem.W.fnOf x qual (aq st) (ao st) (ak st) .none kV doc pm an cdv ct):=⟨⟨oc,od,kV,doc,pm,an,cdv,ct,osl,rfl,l,c⟩,k⟩
section
variable {X:Cx}
theorem pv (i:Nat) {x:Str} {pos:Pos} (hN:X.N[i]?=some x:=by rfl) (hv:Vis X.env.scope x:=by first | exact Or.inl rfl | exact Or.inr (Or.inl rfl) | exact Or.inr (Or.inr rfl)) (hd:(x == ("__debug__":Str))=false:=by decide)
    (hcd:(x == ("__classdict__":Str))=false:=by decide):PE X (.Name x pos) (Mr i):=Gi hN hv hd hcd
end
theorem jr {A B:Prop} (h:B):if false=true then A else B:=by
  rw [if_neg Bool.false_ne_true]
  exact h
theorem qd {A B:Prop} (h:A):if true=true then A else B:=by
  rw [if_pos rfl]
  exact h
theorem Mt {c A B:Prop} [Decidable c] (h1:c→A) (h2:¬ c→B):if c then A else B:=by
  by_cases h:c
  · rw [if_pos h]
    exact h1 h
  · rw [if_neg h]
    exact h2 h
theorem GR {c A B:Prop} [Decidable c] (hc:c) (h:B):if (!decide c)=true then A else B:=by
  rw [decide_eq_true hc]
  exact jr h
def Same (H H':Hp):Prop:=∀ b o,H b=some o→H' b=some o
theorem Same.refl (H:Hp):Same H H:=fun _ _ h=>h
theorem Same.free {H H':Hp} (e:Same H H') {l:Addr} (h:H' l=Option.none):H l=Option.none:=by
  cases q:H l with
  | none=>rfl
  | some o =>
    rw [e l o q] at h
    cases h
theorem Same.seq {K:PySem.W.Frag} {H H':Hp} {a:Addr} {xs:List V} (e:Same H H') (h:SqL K H a xs):SqL K H' a xs:=by
  rcases h with (h | ⟨o,h⟩) | h
  · exact .inl (.inl (e _ _ h))
  · exact .inl (.inr ⟨o,e _ _ h⟩)
  · exact .inr h
end L2
namespace L2
open PySem PySem.Spec PyProof.Rows
def clo (cells:List (Str × Addr)):List (Str × NameKind)→List (Str × Addr)→List (Str × Addr)
  | [],cs=>cs
  | (n,k) :: r,cs=>clo cells r (if k == .free then (n,(cells.lookup n).getD 0) :: cs else cs)
theorem uf {env:Env}:∀ (names:List (Str × NameKind)) (cs:List (Str × Addr)),(∀ y∈names,y.2=.free→∃ c,env.cells.lookup y.1=some c) →
    (forIn names cs fun (x:Str × NameKind) (r:List (Str × Addr))=>(do
      let cs:=r
      match x with
      | (name,kind) =>
        if kind == .free then do
          let c ← cellOf env name
          let cs:=(name,c) :: cs
          pure (ForInStep.yield cs)
        else pure (ForInStep.yield cs):Sem (ForInStep (List (Str × Addr)))))=pure (clo env.cells names cs)
  | [],cs,_=>rfl
  | (n,k) :: r,cs,h=>by
    rw [List.forIn_cons]
    by_cases hk:k=.free
    · subst hk
      obtain ⟨c,hc⟩:=h (n,.free) List.mem_cons_self rfl
      have e:cellOf env n=pure c:=by unfold cellOf;rw [hc]
      simp only [beq_self_eq_true,if_true,e,pure_bind]
      rw [uf r _ fun y hy=>h y (List.mem_cons_of_mem _ hy)]
      simp [clo,hc]
    · have hb:(k == NameKind.free)=false:=by simpa using hk
      simp only [hb,Bool.false_eq_true,if_false,pure_bind]
      rw [uf r _ fun y hy=>h y (List.mem_cons_of_mem _ hy)]
      simp [clo,hb]
theorem kj {env:Env} {scope:Scope} (h:∀ y∈scope.names,y.2=.free→∃ c,env.cells.lookup y.1=some c):closureFor scope env=pure (clo env.cells scope.names []):=by
  unfold closureFor
  have e:=uf (env:=env) scope.names [] h
  first
    | (rw [← e];rfl)
    | (simp only [bind_pure];exact e)
    | exact e
theorem ud {cells:List (Str × Addr)}:∀ (names:List (Str × NameKind)) (cs:List (Str × Addr)) (p:Str × Addr),p∈clo cells names cs→p∈cs∨p.2=(cells.lookup p.1).getD 0
  | [],_,_,h=>.inl h
  | (n,k) :: r,cs,p,h=>by
    rcases ud r _ p h with h' | h'
    · by_cases hk:(k == NameKind.free)=true
      · rw [if_pos hk] at h'
        rcases List.mem_cons.mp h' with e | e
        · subst e;exact .inr rfl
        · exact .inl e
      · rw [if_neg hk] at h';exact .inl h'
    · exact .inr h'
theorem qp {cells:List (Str × Addr)}:∀ (names:List (Str × NameKind)) (cs:List (Str × Addr)) (x:Str),(cs.lookup x).isSome=true→((clo cells names cs).lookup x).isSome=true
  | [],_,_,h=>h
  | (n,k) :: r,cs,x,h=>by
    refine qp r _ x ?_
    by_cases hk:(k == NameKind.free)=true
    · rw [if_pos hk]
      rw [List.lookup_cons]
      cases x == n with
      | true=>rfl
      | false=>exact h
    · rw [if_neg hk];exact h
theorem oU {cells:List (Str × Addr)}:∀ (names:List (Str × NameKind)) (cs:List (Str × Addr)) (x:Str),(x,NameKind.free)∈names→((clo cells names cs).lookup x).isSome=true
  | [],_,_,h=>nomatch h
  | (n,k) :: r,cs,x,h=>by
    show ((clo cells r _).lookup x).isSome=true
    rcases List.mem_cons.mp h with e | e
    · have e1:x=n:=congrArg Prod.fst e
      have e2:NameKind.free=k:=congrArg Prod.snd e
      subst e1
      subst e2
      refine qp r _ x ?_
      rw [if_pos (by decide),List.lookup_cons]
      simp
    · exact oU r _ x e
theorem Fb {cells:List (Str × Addr)} {names:List (Str × NameKind)} {x:Str} {c:Addr} (h:(clo cells names []).lookup x=some c):c=(cells.lookup x).getD 0:=by
  rcases ud names [] _ (PySem.mem_of_lookup h) with z | z
  · exact nomatch z
  · exact z
theorem qt {cells:List (Str × Addr)}:∀ {names:List (Str × NameKind)} (cs:List (Str × Addr)) {p:Str × Addr},p∈clo cells names cs→p∈cs∨(p.1,NameKind.free)∈names
  | [],_,_,h=>.inl h
  | (n,k) :: r,cs,p,h=>by
    rcases qt (names:=r) _ h with h' | h'
    · by_cases hk:(k == NameKind.free)=true
      · rw [if_pos hk] at h'
        rcases List.mem_cons.mp h' with e | e
        · subst e
          have:k=.free:=by simpa using hk
          subst this
          exact .inr List.mem_cons_self
        · exact .inl e
      · rw [if_neg hk] at h';exact .inl h'
    · exact .inr (List.mem_cons_of_mem _ h')
def iD (X:Cx) (scope:Scope) (N:List Str) (s:Shared) (H:Hp) (ex:List Addr):Cx :=
  { X with N:=N,s₀:=s,H₀:=H,env:=compEnvC scope (clo X.env.cells scope.names []) s.heap.objs.size X.env,outer:=X.stack,stack:=X.stack,ex:=ex,fn:=fun x=>((clo X.env.cells scope.names []).lookup x).isNone,pn:=[],xe:=fun _ _=>False }
def freeOk (sc scope:Scope):Bool:=scope.names.all fun y=>(y.2 != .free) || (sc.names.lookup y.1 == some .cell) || (sc.names.lookup y.1 == some .free)
def uI (scope:Scope):Bool:=(scope.kind == .function) && (scope.names.all fun y=>y.2 != .cell) && (scope.names.all fun y=>y.2 != .local || scope.names.lookup y.1 == some .local)
def vC (scope:Scope) (N N':List Str) (cap:List (Option Nat)):Bool:=(cap.length == N'.length) && (N'.zip cap).all fun p=>match p.2 with
  | none=>true
  | some j=>N[j]? == some p.1 && scope.names.lookup p.1 == some .free
def ug (cap:List (Option Nat)) (σ:St):St:=cap.map fun o=>o.bind fun j=>(σ[j]?).bind id
theorem iH {f:Str × NameKind→Str × NameKind} (hf:∀ y,(f y).1=y.1) (x:Str):∀ names:List (Str × NameKind),(names.map f).lookup x=(names.lookup x).map fun k=>(f (x,k)).2
  | []=>rfl
  | (n,k) :: r=>by
    have ih:=iH hf x r
    have e1:(f (n,k)).1=n:=hf (n,k)
    have e2:f (n,k)=(n,(f (n,k)).2):=Prod.ext e1 rfl
    rw [List.map_cons,e2,List.lookup_cons,List.lookup_cons]
    cases hx:x == n with
    | true =>
      have:x=n:=by simpa using hx
      subst this
      rfl
    | false=>exact ih
def rlb (env:Env):Str × NameKind→Str × NameKind:=fun (n,k)=>if (k == NameKind.free && env.scope.kind == .function && env.kindOf n == some .cell) then (n,NameKind.cell) else (n,k)
theorem rQ (env:Env) (y:Str × NameKind):(rlb env y).1=y.1:=by
  obtain ⟨n,k⟩:=y
  unfold rlb
  dsimp only
  split <;> rfl
theorem rP (env:Env) (n:Str) (k:NameKind):(rlb env (n,k)).2=k∨((rlb env (n,k)).2=.cell∧k=.free):=by
  unfold rlb
  dsimp only
  split
  · rename_i h
    rw [Bool.and_eq_true,Bool.and_eq_true] at h
    exact .inr ⟨rfl,by simpa using h.1.1⟩
  · exact .inl rfl
theorem iQ (scope:Scope) (env:Env):(relabel scope env).names=scope.names.map (rlb env):=rfl
theorem m6 {scope:Scope} {env:Env} {x:Str} (h:scope.names.lookup x=some .free):(relabel scope env).names.lookup x=some .cell∨(relabel scope env).names.lookup x=some .free:=by
  rw [iQ,iH (rQ env),h]
  rcases rP env x .free with e | ⟨e,_⟩
  · exact .inr (congrArg some e)
  · exact .inl (congrArg some e)
theorem jl {scope:Scope} {env:Env} {x:Str} {k':NameKind} (hk:k'=.cell∨k'=.free) (hn:∀ y∈scope.names,y.2≠.cell) (h:(relabel scope env).names.lookup x=some k'):(x,NameKind.free)∈scope.names:=by
  rw [iQ,iH (rQ env)] at h
  cases e:scope.names.lookup x with
  | none=>rw [e] at h;cases h
  | some k =>
    rw [e] at h
    have h':(rlb env (x,k)).2=k':=Option.some.inj h
    have hm:=PySem.mem_of_lookup e
    rcases rP env x k with z | ⟨_,z⟩
    · rw [z] at h'
      subst h'
      rcases hk with z2 | z2
      · exact absurd z2 (hn _ hm)
      · rw [z2] at hm;exact hm
    · rw [z] at hm;exact hm
def PTs (X:Cx) (ifs:List Expr) (t:TT):Prop :=
  ∀ (pins:List (Addr × Obj)) (s:Shared) (σ:St) (H:Hp) (Q:Bool→Hp→Prop),Inv X pins σ H s→t σ H Q →
    wpAny (model X.prog X.w) X.A (forIn ifs true fun c r=>if r=true then do let ok ← isTrue c X.env (eval c X.env);pure (ForInStep.yield ok) else pure (ForInStep.yield r)) (TP X pins σ Q) X.xe s
def Qa:TT:=fun _ H Q=>Q true H
theorem Fo {i:Nat} {x:V} {τ:St} {H:Hp} {A B:St→Hp→Prop} (h:A (τ.set i (some x)) H):vo i x τ H fun τ4 H4=>Qa τ4 H4 fun b H5=>if b=true then A τ4 H5 else B τ4 H5:=by
  show if true=true then A (τ.set i (some x)) H else B (τ.set i (some x)) H
  rw [if_pos rfl];exact h
theorem jc {X:Cx}:PTs X [] Qa:=fun _ _ _ H _ I h=>wpAny_tests_nil ⟨H,I,h⟩
theorem rT {X:Cx} {c:Expr} {t:TT} (h:PT X c t):PTs X [c] t:=fun pins s σ H Q I hq=>wpAny_tests_one (h pins s σ H Q I hq)
def mQ (J:It) (acc:Addr) (g:TG) (tc:TT) (te:TE) (τ:St) (H1:Hp) (Q:Hp→Prop):Prop :=
  ∃ W:Nat→Nat→St→Hp→Prop,(∃ m,W 0 m τ (upd H1 acc (.lst [])))∧∀ i m τ H2,W i m τ H2→(J.stop i H2∧Q H2)∨(J.go i H2∧∃ N:St→Hp→Prop,(∀ τ' H',N τ' H'→∃ m',m'<m∧W (i + 1) m' τ' H')∧∀ x H3,J.yld i H2 x H3→g x τ H3 fun τ4 H4 =>
    tc τ4 H4 fun b H5=>if b=true then te τ4 H5 fun y H6=>∃ ys,H6 acc=some (.lst ys)∧ys.length<sizeLine∧N τ4 (upd H6 acc (.lst (ys++[y]))) else N τ4 H5)
theorem gq {lo:Int} {n:Nat} {acc:Addr} {g:TG} {tc:TT} {te:TE} {τ:St} {H1:Hp} {Q:Hp→Prop} (Pv:Nat→St→Hp→Prop) (h0:Pv 0 τ (upd H1 acc (.lst [])))
    (hs:∀ i τ H,i<n→Pv i τ H→g (.int (lo + i)) τ H fun τ4 H4=>tc τ4 H4 fun b H5=>if b=true then te τ4 H5 fun y H6=>∃ ys,H6 acc=some (.lst ys)∧ys.length<sizeLine∧Pv (i + 1) τ4 (upd H6 acc (.lst (ys++[y]))) else Pv (i + 1) τ4 H5)
    (hd:∀ τ H,Pv n τ H→Q H):mQ (Itr lo n) acc g tc te τ H1 Q:=by
  refine ⟨fun i m τ H=>m=n - i∧i≤n∧Pv i τ H,⟨n,by simp,Nat.zero_le _,h0⟩,?_⟩
  rintro i m τ H ⟨rfl,hi,p⟩
  by_cases hlt:i<n
  · refine .inr ⟨hlt,Pv (i + 1),fun τ' H' p'=>⟨n - (i + 1),by omega,rfl,hlt,p'⟩,fun x H' y=>?_⟩
    obtain ⟨e,y⟩:=y
    subst e y
    exact hs i τ _ hlt p
  · have e:i=n:=by omega
    subst e
    exact .inl ⟨Nat.le_refl _,hd τ H p⟩
theorem uc {K:PySem.W.Frag} {a:Addr} {xs:List V} {acc:Addr} {g:TG} {tc:TT} {te:TE} {τ:St} {H1:Hp} {Q:Hp→Prop} (Pv:Nat→St→Hp→Prop) (h0:Pv 0 τ (upd H1 acc (.lst []))) (hl:∀ i τ H,i≤xs.length→Pv i τ H→SqL K H a xs)
    (hs:∀ i x τ H,xs[i]?=some x→Pv i τ H→g x τ H fun τ4 H4=>tc τ4 H4 fun b H5=>if b=true then te τ4 H5 fun y H6=>∃ ys,H6 acc=some (.lst ys)∧ys.length<sizeLine∧Pv (i + 1) τ4 (upd H6 acc (.lst (ys++[y]))) else Pv (i + 1) τ4 H5)
    (hd:∀ τ H,Pv xs.length τ H→Q H):mQ (Itl K a) acc g tc te τ H1 Q:=by
  refine ⟨fun i m τ H=>m=xs.length - i∧i≤xs.length∧Pv i τ H,⟨xs.length,by simp,Nat.zero_le _,h0⟩,?_⟩
  rintro i m τ H ⟨rfl,hi,p⟩
  have q:=hl i τ H hi p
  by_cases hlt:i<xs.length
  · refine .inr ⟨⟨xs,xs[i],q,by simp [hlt]⟩,Pv (i + 1),fun τ' H' p'=>⟨xs.length - (i + 1),by omega,rfl,hlt,p'⟩,fun x H' y=>?_⟩
    obtain ⟨e,y⟩:=y
    subst e
    exact hs i x τ _ (y xs q) p
  · have e:i=xs.length:=by omega
    subst e
    exact .inl ⟨⟨xs,q,Nat.le_refl _⟩,hd τ H p⟩
def Eb (wi:TI) (cap:List (Option Nat)) (g:TG) (tc:TT) (te:TE):TE:=fun σ H Q=>wi σ H fun J H1=>∀ acc,H1 acc=none→mQ J acc g tc te (ug cap σ) H1 (fun H2=>Q (.ref acc) H2)
abbrev Ml (ifs:List Expr) (env:Env):Sem Bool:=forIn ifs true fun c r=>if r=true then do let ok ← isTrue c env (eval c env);pure (ForInStep.yield ok) else pure (ForInStep.yield r)
abbrev wpQ {α:Type} (prog:Program) (w:World) (A:Around) (m:Sem α) (Q:α→Shared→Prop) (s:Shared):Prop:=wpAny (model prog w) A m Q (fun _ _=>False) s
theorem tZ {prog:Program} {w:World} {A:Around} {R:Result→Shared→Prop} {s:Shared} {elt target iter:Expr} {ifs:List Expr} {scope:Scope} {pos:Pos} {it acc:Value} {env:Env} (I:Nat→Shared→Prop)
    (turn:∀ k s0,I k s0→wpQ prog w A (pyNext it) (fun r s1=>(r=none∧R (.ok .next) s1)∨∃ v,r=some v ∧
      wpQ prog w A (letOwnedTupleGo target it v) (fun _ s2=>wpQ prog w A (assign target env v) (fun _ s3=>wpQ prog w A (Ml ifs env) (fun ok s4 =>
        (ok=false∧∃ m,m<k∧I m s4)∨(ok=true∧wpQ prog w A (eval elt env) (fun x s5=>wpQ prog w A (call (.builtin "list.append") [acc,x]) (fun _ s6=>∃ m,m<k∧I m s6) s5) s4)) s3) s2) s1) s0)
    (k:Nat) (h:I k s):codeAny (model prog w) A (.compLoop (.ListComp elt [⟨target,iter,ifs,0⟩] scope pos) 0 it acc env) R s:=by
  have quiet:∀ (e:Value) (s':Shared),False→notedBy (model prog w) A env (fun e s'=>R (.error e) s') e s':=fun _ _ z=>z.elim
  apply codeAny_loop rfl I _ k h
  intro k s0 start
  apply wpAny_noted
  rw [compTurn_list]
  apply wpAny_bind
  apply wpAny_standAt
  apply wpAny_bind
  apply wpAny_mono (turn k s0 start) _ quiet
  rintro r s1 (⟨rfl,stop⟩ | ⟨v,rfl,rest⟩)
  · exact wpAny_pure stop
  apply wpAny_bind
  apply wpAny_mono rest _ quiet
  intro _ s2 h2
  apply wpAny_bind
  apply wpAny_mono h2 _ quiet
  intro _ s3 h3
  apply wpAny_bind
  apply wpAny_mono h3 _ quiet
  rintro ok s4 (⟨rfl,skip⟩ | ⟨rfl,add⟩)
  · exact wpAny_pure ⟨rfl,skip⟩
  apply wpAny_bind
  apply wpAny_bind
  apply wpAny_mono add _ quiet
  intro x s5 h5
  apply wpAny_bind
  apply wpAny_mono h5 _ quiet
  intro _ s6 h6
  exact wpAny_pure (wpAny_pure ⟨rfl,h6⟩)
section
variable {X:Cx} {tg iter elt:Expr} {ifs:List Expr} {scope:Scope} {pos:Pos} {wi:TI} {N':List Str} {cap:List (Option Nat)} {g:TG} {tc:TT} {te:TE}
theorem lC {use:Option (Value→Sem Unit)} {R:Value→Shared→Prop} (sc:Scope) (hsc:X.env.scope=sc) (N₀:List Str) (hN₀:X.N=N₀) (f1:freeOk sc scope=true) (f2:uI scope=true) (f3:vC scope N₀ N' cap=true) (hcalm:X.calm=true)
    (hi:PI X tg iter wi)
    (hg:∀ (s:Shared) (H:Hp) (ex:List Addr),PG (iD X scope N' s H ex) tg g)
    (hc:∀ (s:Shared) (H:Hp) (ex:List Addr),PTs (iD X scope N' s H ex) ifs tc)
    (he:∀ (s:Shared) (H:Hp) (ex:List Addr),PE (iD X scope N' s H ex) elt te)
    (hs:∀ x,foldedSetIterable iter X.env x=pure x)
    {pins:List (Addr × Obj)} {s:Shared} {σ:St} {H:Hp} {Q:V→Hp→Prop} (I:Inv X pins σ H s) (h:Eb wi cap g tc te σ H Q)
    (fin:∀ (acc C:Addr) (s':Shared) (H':Hp) (m:Str→Option Value),Inv X pins σ H' s'→s'.heap.Ns C m→H' C=none→C≠X.env.locals→X.s₀.heap.objs.size≤C→(∀ x c,X.env.cells.lookup x=some c→c≠C)→(∀ p∈X.pn++pins,p.1≠C)→Q (.ref acc) H' →
      compPost (model X.prog X.w) X.A X.xe use R (.ref acc) C (.ok .next) s') :
    wpAny (model X.prog X.w) X.A (comprehension (.ListComp elt [⟨tg,iter,ifs,0⟩] scope pos) scope X.env (firstIterPos [⟨tg,iter,ifs,0⟩] pos) (newList []) false (firstIter [⟨tg,iter,ifs,0⟩] X.env) use) R X.xe s:=by
  have ok:=I.ok
  have fr:∀ y∈scope.names,y.2=.free→X.env.kindOf y.1=some .cell∨X.env.kindOf y.1=some .free:=fun y hy e=>by
    have q:=List.all_eq_true.mp f1 y hy
    rw [e] at q
    have q':((sc.names.lookup y.1 == some NameKind.cell) || (sc.names.lookup y.1 == some NameKind.free))=true:=by simpa using q
    rw [Bool.or_eq_true] at q'
    unfold Env.kindOf
    rw [hsc]
    rcases q' with z | z
    · exact .inl (by simpa using z)
    · exact .inr (by simpa using z)
  obtain ⟨⟨k1,k2⟩,k3⟩:((scope.kind == .function)=true∧(scope.names.all fun y=>y.2 != .cell)=true)∧(scope.names.all fun y=>y.2 != .local || scope.names.lookup y.1 == some .local)=true:=by
    unfold uI at f2
    rw [Bool.and_eq_true,Bool.and_eq_true] at f2
    exact f2
  have hkind:scope.kind=.function:=by simpa using k1
  have hcell:∀ y∈scope.names,y.2≠.cell:=fun y hy=>by
    have q:=List.all_eq_true.mp k2 y hy
    simpa using q
  have hnames:∀ y∈scope.names,y.2=.local→scope.names.lookup y.1=some .local:=fun y hy e=>by
    have q:=List.all_eq_true.mp k3 y hy
    rw [e] at q
    simpa using q
  have hclos:closureFor scope X.env=pure (clo X.env.cells scope.names []):=kj fun y hy e=>ok.has y.1 (fr y hy e)
  have clX:∀ x c,(clo X.env.cells scope.names []).lookup x=some c→X.env.cells.lookup x=some c:=fun x c e=>by
    have e1:=Fb e
    have hx:(x,NameKind.free)∈scope.names:=by
      rcases qt [] (PySem.mem_of_lookup e) with z | z
      · exact nomatch z
      · exact z
    obtain ⟨c',e2⟩:=ok.has x (fr (x,.free) hx rfl)
    rw [e2] at e1 ⊢
    rw [e1];rfl
  refine wpAny_comprehension_free (use:=use) rfl hs hclos hkind hnames ?_
  show wpAny (model X.prog X.w) X.A (eval iter X.env) _ X.xe s
  refine thn (hi pins s σ H _ I h) fun v s1 h1=>thn h1 fun itv s2 h2=>?_
  obtain ⟨it,fp,tn,J,H2,e,I2,T,st2,f2',h3⟩:=h2
  subst e
  refine wpAny_newObj_type ?_
  have fresh2:H2 s2.heap.objs.size=none:=I2.hok.fresh (Nat.le_refl _)
  have I3:Inv X pins σ (upd H2 s2.heap.objs.size (.lst [])) { s2 with heap:=s2.heap.push { cls:=.type "list",data:=.seq ([]:List Value).toArray } } :=
    I2.laid (t':=s2.toks) (fun b o e=>Heap.get?_push_of_some _ e) (Nat.le_refl _) ⟨Nat.zero_le _,[],0,.nil,Heap.get?_push_size _ rfl⟩
  have st3:tn 0 (s2.heap.push { cls:=.type "list",data:=.seq ([]:List Value).toArray }):=T.keep _ _ _ st2 fun b _ o e=>Heap.get?_push_of_some _ e
  have fpne:∀ b∈fp,b≠s2.heap.objs.size:=fun b hb z=>by
    obtain ⟨o,eo,_⟩:=T.obj 0 _ st2 b hb
    exact absurd (Heap.lt_size eo) (by rw [z];exact Nat.lt_irrefl _)
  have fp3:∀ b∈fp,DP X pins (upd H2 s2.heap.objs.size (.lst [])) b:=fun b hb=>by
    obtain ⟨a0,a1⟩:=f2' b hb
    exact ⟨by rw [aY (fpne b hb)];exact a0,a1⟩
  obtain ⟨W,⟨m0,w0⟩,turn⟩:=h3 s2.heap.objs.size fresh2
  generalize hacc:s2.heap.objs.size=acc at I3 fp3 w0 turn fpne ⊢
  generalize hs3:({ s2 with heap:=s2.heap.push { cls:=.type "list",data:=.seq ([]:List Value).toArray } }:Shared)=s3 at I3 ⊢
  have st3:tn 0 s3.heap:=by rw [← hs3];exact st3
  have accTr:(upd H2 acc (.lst [])) acc=some (.lst []):=bI
  refine wpAny_newFunctionEnv hcell (by intro y hy;cases hy) (fun h4 hns hsb=>?_) hkind
  have hCf:s3.heap.get? s3.heap.objs.size=none:=Heap.get?_none_of_le (Nat.le_refl _)
  have kp4:∀ b o,s3.heap.get? b=some o→h4.get? b=some o:=fun b o e=>hsb.extBut b o (Nat.ne_of_lt (Heap.lt_size e)) (Heap.get?_push_of_some _ e)
  let Y:Cx:=iD X scope N' s3 (upd H2 acc (.lst [])) fp
  have envY:Y.env=compEnvC scope (clo X.env.cells scope.names []) s3.heap.objs.size X.env:=rfl
  have okY:Y.Ok:=by
    refine ⟨ok.mod,?_,ok.glob,ok.blt,Nat.le_refl _,?_,?_,?_,ok.hd,ok.frames,.inl rfl,?_,?_,?_,?_,?_,?_,?_⟩
    · show (relabel scope X.env).kind=.function
      exact hkind
    · exact fun x y c h1 h2=>ok.inj x y c (clX x c h1) (clX y c h2)
    · intro x hx
      have hx':(relabel scope X.env).names.lookup x=some .cell∨(relabel scope X.env).names.lookup x=some .free:=hx
      have hm:(x,NameKind.free)∈scope.names:=by
        rcases hx' with z | z
        · exact jl (.inl rfl) hcell z
        · exact jl (.inr rfl) hcell z
      exact Option.isSome_iff_exists.mp (oU scope.names [] x hm)
    · intro x c hx h1
      have hx':((clo X.env.cells scope.names []).lookup x).isNone=true:=hx
      have h1':(clo X.env.cells scope.names []).lookup x=some c:=h1
      rw [h1'] at hx';cases hx'
    · intro b hb
      obtain ⟨q0,q1,q2,q3,q4,q5⟩:=fp3 b hb
      refine ⟨?_,fun x c h1=>q4 x c (clX x c h1)⟩
      obtain ⟨o,eo,_⟩:=T.obj 0 _ st3 b hb
      exact Nat.ne_of_lt (Heap.lt_size eo)
    · exact fun b o e=>I3.bs b o e
    · exact Nat.le_trans ok.bsz I3.sz
    · intro b o e hb
      obtain ⟨q0,q1,q2,q3,q4,q5⟩:=fp3 b hb
      rcases q3 with z | z
      · exact ok.noex b o e z
      · exact absurd (Nat.lt_of_lt_of_le (Heap.lt_size e) (Nat.le_trans ok.bsz z)) (Nat.lt_irrefl _)
    · intro b hb hf
      obtain ⟨q0,q1,q2,q3,q4,q5⟩:=fp3 b hb
      rcases List.mem_cons.mp (I3.qZ b hf) with z | z
      · exact q1 z
      · exact q2 z
    · exact I3.stack
    · exact I3.n6
  have capl:cap.length=N'.length∧∀ p∈N'.zip cap,(match p.2 with | none=>true | some j=>N₀[j]? == some p.1 && scope.names.lookup p.1 == some .free)=true:=by
    unfold vC at f3
    rw [Bool.and_eq_true] at f3
    exact ⟨by simpa using f3.1,fun p hp=>List.all_eq_true.mp f3.2 p hp⟩
  have IY:Inv Y [] (ug cap σ) (upd H2 acc (.lst [])) { s3 with heap:=h4,toks:=s3.toks + ([]:List (Str × Value)).length }:=by
    refine ⟨okY,rfl,I3.bare,Un.kept kp4,⟨_,hns,?_⟩,?_,?_,?_,fun p hp=>absurd (show p∈([]:List (Addr × Obj)) from hp) (by simp),I3.hok.kept kp4,?_⟩
    · intro i x v e1 e2 e3
      have e1':N'[i]?=some x:=e1
      unfold ug at e2
      rw [List.getElem?_map] at e2
      cases ec:cap[i]? with
      | none=>rw [ec] at e2;cases e2
      | some o =>
        rw [ec] at e2
        cases o with
        | none=>cases e2
        | some j =>
          have e2':(σ[j]?).bind id=some v:=by simpa using e2
          have hz:(x,some j)∈N'.zip cap:=by
            refine List.mem_of_getElem? (i:=i) ?_
            rw [List.getElem?_zip_eq_some]
            exact ⟨e1',ec⟩
          have q:=capl.2 _ hz
          have q':(N₀[j]? == some x)=true∧(scope.names.lookup x == some NameKind.free)=true:=by simpa [Bool.and_eq_true] using q
          have q1:X.N[j]?=some x:=by rw [hN₀];simpa using q'.1
          have q2:scope.names.lookup x=some .free:=by simpa using q'.2
          have eσ:σ[j]?=some (some v):=by
            cases z:σ[j]? with
            | none=>rw [z] at e2';cases e2'
            | some y =>
              rw [z] at e2'
              have:y=some v:=e2'
              rw [this]
          have hk:=fr (x,.free) (PySem.mem_of_lookup q2) rfl
          obtain ⟨m,hn,hl⟩:=I3.loc
          have vis:Vis X.env.scope x:=by
            rcases hk with z | z
            · exact .inr (.inl z)
            · exact .inr (.inr z)
          obtain ⟨u,r,l⟩:=hl j x v q1 eσ vis
          refine ⟨u,r,.inr ⟨?_,?_⟩⟩
          · rcases m6 (scope:=scope) (env:=X.env) q2 with z | z
            · exact .inl z
            · exact .inr z
          · rcases l with ⟨kl,_⟩ | ⟨_,c,ecx,hcx⟩
            · rcases hk with z | z
              · have z':X.env.kindOf x=some .cell:=z
                rw [kl] at z';cases z'
              · have z':X.env.kindOf x=some .free:=z
                rw [kl] at z';cases z'
            · have hh:=oU (cells:=X.env.cells) scope.names [] x (PySem.mem_of_lookup q2)
              obtain ⟨c',ec'⟩:=Option.isSome_iff_exists.mp hh
              have ec2:=clX x c' ec'
              rw [ecx] at ec2
              cases ec2
              exact ⟨c,ec',hcx.keeps kp4⟩
    · intro x c e
      obtain ⟨v,z⟩:=I3.cell x c (clX x c e)
      exact ⟨v,z.keeps kp4⟩
    · exact I3.hok.fresh (Nat.le_refl _)
    · exact fun x c e=>I3.freeC x c (clX x c e)
    · show (ug cap σ).length=N'.length
      unfold ug
      rw [List.length_map];exact capl.1
  have fpY:∀ {H':Hp},(∀ b∈fp,H' b=none)→∀ b∈fp,DP Y [] H' b:=fun {H'} hn b hb=>by
    obtain ⟨q0,q1,q2,q3,q4,q5⟩:=fp3 b hb
    refine ⟨hn b hb,(okY.exf b hb).1,okY.exfs b hb,.inl hb,(okY.exf b hb).2,fun p hp=>absurd (show p∈([]:List (Addr × Obj)) from hp) (by simp)⟩
  have st4:tn 0 h4:=T.keep _ _ _ st3 fun b _ o e=>kp4 b o e
  have back:∀ {τ:St} {H':Hp} {s':Shared},Inv Y [] τ H' s'→Q (.ref acc) H'→compPost (model X.prog X.w) X.A X.xe use R (.ref acc) s3.heap.objs.size (.ok .next) s':=fun {τ H' s'} J q=>by
    have un:Un (frs X.stack) fp (upd H2 acc (.lst [])) H' s3.heap s'.heap:=J.base
    have IX:Inv X pins σ H' s':=I3.call' (J.os) un J.hok J.bare fun b hb=>by
      obtain ⟨q0,q1,q2,q3,q4,q5⟩:=fp3 b hb
      exact ⟨q3,q1,q4,q5⟩
    obtain ⟨m,hn,_⟩:=J.loc
    refine fin acc s3.heap.objs.size s' H' m IX hn J.free (Nat.ne_of_gt I3.lt) I3.sz (fun x c e z=>?_) (fun p hp z=>?_) q
    · obtain ⟨v,q⟩:=I3.cell x c e
      exact absurd q.lt (by rw [z];exact Nat.lt_irrefl _)
    · exact absurd (Heap.lt_size (I3.pin p hp).1) (by rw [z];exact Nat.lt_irrefl _)
  have loop:∀ s5:Shared,s5={ s3 with heap:=h4,toks:=s3.toks + ([]:List (Str × Value)).length } →
      codeAny (model X.prog X.w) X.A (.compLoop (.ListComp elt [⟨tg,iter,ifs,0⟩] scope pos) 0 (.ref it) (.ref acc) Y.env) (compPost (model X.prog X.w) X.A X.xe use R (.ref acc) s3.heap.objs.size) s5:=by
    rintro s5 rfl
    refine tZ (fun n s'=>∃ i τ H',Inv Y [] τ H' s'∧tn i s'.heap∧(∀ b∈fp,H' b=none)∧W i n τ H') ?_ m0 ⟨0,_,_,IY,st4,fun b hb=>(fp3 b hb).1,w0⟩
    rintro n s6 ⟨i,τ,H6,I6,st6,fr6,w6⟩
    rcases turn i n τ H6 w6 with ⟨stop,q⟩ | ⟨go,N,hN,step⟩
    · refine wpAny_mono (T.done Y rfl rfl rfl hcalm i [] s6 τ H6 (fun _ _=>False) I6 (fpY fr6) st6 stop) (fun r s7 ⟨hr,I7⟩=>?_) fun _ _ z=>z.elim
      exact .inl ⟨hr,back I7 q⟩
    · refine wpAny_mono (T.item Y rfl rfl rfl hcalm i [] s6 τ H6 (fun _ _=>False) I6 (fpY fr6) st6 go) (fun r s6b ⟨u,hr,h7⟩=>?_) fun _ _ z=>z.elim
      refine .inr ⟨u,hr,?_⟩
      refine wpAny_mono h7 (fun _ s7 ⟨x,H7,I7,r7,y7,st7,fr7⟩=>?_) fun _ _ z=>z.elim
      have I7':=I7.pinned (fpY fr7) (T.obj _ _ st7)
      have again:∀ {τ8:St} {H8:Hp} {s8:Shared},Inv Y ([]++m9 fp s7.heap) τ8 H8 s8→N τ8 H8→∃ m,m<n∧∃ i τ H',Inv Y [] τ H' s8∧tn i s8.heap∧(∀ b∈fp,H' b=none)∧W i m τ H':=fun {τ8 H8 s8} I8 n8=>by
        obtain ⟨m',hm,w8⟩:=hN τ8 H8 n8
        refine ⟨m',hm,i + 1,τ8,H8,I8.jw,T.keep _ _ _ st7 fun b hb o e=>(I8.pin (b,o) (List.mem_append_right _ (List.mem_append_right _ (gY hb e)))).1,fun b hb=>?_,w8⟩
        obtain ⟨o,e,d⟩:=T.obj _ _ st7 b hb
        exact (I8.pin (b,o) (List.mem_append_right _ (List.mem_append_right _ (gY hb e)))).2.1
      refine wpAny_mono (hg s3 (upd H2 acc (.lst [])) fp _ s7 τ H7 x u _ I7' r7 (step x H7 y7)) (fun _ s8 ⟨τ8,H8,I8,q8⟩=>?_) fun _ _ z=>z.elim
      refine wpAny_mono (hc s3 (upd H2 acc (.lst [])) fp _ s8 τ8 H8 _ I8 q8) (fun b s9 ⟨H9,I9,q9⟩=>?_) fun _ _ z=>z.elim
      cases b with
      | false =>
        rw [if_neg Bool.false_ne_true] at q9
        exact .inl ⟨rfl,again I9 q9⟩
      | true =>
        rw [if_pos rfl] at q9
        refine .inr ⟨rfl,?_⟩
        refine wpAny_mono (he s3 (upd H2 acc (.lst [])) fp _ s9 τ8 H9 _ I9 q9) (fun y s10 ⟨yv,H10,I10,r10,ys,hl,hz,q10⟩=>?_) fun _ _ z=>z.elim
        refine wpAny_mono (dB (X:=Y) _ s10 τ8 H10 (.ref acc) [yv] (.ref acc) [y] (fun v H'=>N τ8 H') I10 rfl (.cons r10 .nil) ⟨acc,ys,yv,rfl,rfl,hl,hz,q10⟩) (fun v s11 ⟨vv,H11,I11,r11,q11⟩=>?_) fun _ _ z=>z.elim
        exact again I11 q11
  exact codeAny_compStart_list (loop _ rfl) (T.self _ _ _ _ _ st4 (loop _ rfl))
theorem jL (sc:Scope) (hsc:X.env.scope=sc) (N₀:List Str) (hN₀:X.N=N₀) (N':List Str) (cap:List (Option Nat)) (f1:freeOk sc scope=true) (f2:uI scope=true) (f3:vC scope N₀ N' cap=true) (hcalm:X.calm=true)
    (hi:PI X tg iter wi)
    (hg:∀ (s:Shared) (H:Hp) (ex:List Addr),PG (iD X scope N' s H ex) tg g)
    (hc:∀ (s:Shared) (H:Hp) (ex:List Addr),PTs (iD X scope N' s H ex) ifs tc)
    (he:∀ (s:Shared) (H:Hp) (ex:List Addr),PE (iD X scope N' s H ex) elt te)
    (hs:∀ x,foldedSetIterable iter X.env x=pure x:=by intro _;rfl) :
    PE X (.ListComp elt [⟨tg,iter,ifs,0⟩] scope pos) (Eb wi cap g tc te):=by
  intro pins s σ H Q I h
  rw [eval_ListComp]
  refine lC (use:=none) sc hsc N₀ hN₀ f1 f2 f3 hcalm hi hg hc he hs I h ?_
  intro acc C s' H' m IX hn hC h1 h2 h3 h4 q
  refine ⟨m,hn,fun h'' hs''=>?_⟩
  exact ⟨.ref acc,H',IX.turned (t':=s'.toks) (fun b o hb e=>(hs''.2 b hb).trans e) hC h1 (.inr h2) h3 h4,rfl,q⟩
theorem jd {i:Nat} {x:Str} {pos' spos:Pos} (sc:Scope) (hsc:X.env.scope=sc) (N₀:List Str) (hN₀:X.N=N₀) (N':List Str) (cap:List (Option Nat)) (f1:freeOk sc scope=true) (f2:uI scope=true) (f3:vC scope N₀ N' cap=true) (hcalm:X.calm=true)
    (hnd:X.N.Nodup) (hix:X.N[i]?=some x) (hx:X.env.scope.names.lookup x=some .local)
    (hi:PI X tg iter wi)
    (hg:∀ (s:Shared) (H:Hp) (ex:List Addr),PG (iD X scope N' s H ex) tg g)
    (hc:∀ (s:Shared) (H:Hp) (ex:List Addr),PTs (iD X scope N' s H ex) ifs tc)
    (he:∀ (s:Shared) (H:Hp) (ex:List Addr),PE (iD X scope N' s H ex) elt te)
    (hsw:swapsWith (.ListComp elt [⟨tg,iter,ifs,0⟩] scope pos) (some (.Name x pos')) spos.line X.env=pure true)
    (hs:∀ x,foldedSetIterable iter X.env x=pure x:=by intro _;rfl) :
    PS X (.Assign [.Name x pos'] (.ListComp elt [⟨tg,iter,ifs,0⟩] scope pos) spos) (M8 (Eb wi cap g tc te) (vo i)):=by
  intro pins s σ H D I h
  rw [exec_Assign_Name_used _ _ _ _ hsw]
  refine wpAny_bind (wpAny_standAt (wpAny_bind ?_))
  show wpAny _ X.A (do let _ ← comprehension (.ListComp elt [⟨tg,iter,ifs,0⟩] scope pos) scope X.env _ (newList []) false (firstIter [⟨tg,iter,ifs,0⟩] X.env) (some (assign (.Name x pos') X.env))) _ _ s
  refine wpAny_bind (wpAny_mono (lC (use:=some (assign (.Name x pos') X.env)) (R:=fun _ s'=>SP X pins D .next s') sc hsc N₀ hN₀ f1 f2 f3 hcalm hi hg hc he hs I h ?_) (fun _ s' hq=>wpAny_pure (wpAny_pure hq)) fun _ _ e=>e)
  intro acc C s' H' m IX hn hC h1 h2 h3 h4 q
  show wpAny _ X.A (assign (.Name x pos') X.env (.ref acc)) _ _ _
  refine wpAny_assign_Name (mR (v:=.ref acc) IX hnd hix (.inl hx) rfl (fun s2 I2 hsb=>?_) (.inr hx))
  obtain ⟨a,sb,ha⟩:=hsb
  have hCa:C≠a:=by
    rcases ha with z | z
    · rw [z];exact h1
    · exact fun w=>h3 x a z w.symm
  refine ⟨m,hn.sameBut sb hCa,fun h'' hs''=>?_⟩
  exact ⟨_,H',I2.turned (t':=s2.toks) (fun b o hb e=>(hs''.2 b hb).trans e) hC h1 (.inr h2) h3 h4,q⟩
end
end L2
namespace L2
open PySem PySem.Spec PyProof.Rows
section
variable {X:Cx}
def rEqL (K:PySem.W.Frag) (neg:Bool):R2:=fun x y H Q=>∃ (a b:Addr) (ns ms:List Int),x=.ref a∧y=.ref b∧SqL K H a (ns.map V.int)∧SqL K H b (ms.map V.int)∧Q (.bl (if neg then !decide (ns=ms) else decide (ns=ms))) H
theorem iI:j5 X (.builtin "isinstance") (fun xs H Q=>∃ x t c b,xs=[x,.ty c]∧qy X.K H x t∧PySem.W.kitOne X.K t (.type c)=some b∧Q (.bl b) H):=by
  intro pins s σ H xs us Q I r h
  obtain ⟨x,t,c,b,rfl,ty,e,q⟩:=h
  obtain ⟨u,w,rfl,ru,rw'⟩:=vals2 r
  obtain rfl:w=Value.type c:=rw'
  exact tE I ru ty e fun tk=>⟨.bl b,H,I.tok tk,rfl,q⟩
theorem qH:∀ (bs:List Bool),((List.range bs.length).all fun i=>(bs[i]?).getD true)=bs.all id:=by
  intro bs
  rw [Bool.eq_iff_iff]
  simp only [List.all_eq_true,List.mem_range,id_eq]
  constructor
  · intro h b hb
    obtain ⟨i,hi,e⟩:=List.getElem_of_mem hb
    have:=h i hi
    rw [List.getElem?_eq_getElem hi,e] at this
    exact this
  · intro h i hi
    rw [List.getElem?_eq_getElem hi]
    exact h _ (List.getElem_mem hi)
theorem mD (hc:X.calm=true):j5 X (.builtin "all") (fun xs H Q=>∃ (p:Addr) (bs:List Bool),xs=[.ref p]∧SqL X.K H p (bs.map V.bl)∧Q (.bl (bs.all id)) H):=by
  intro pins s σ H xs us Q I r h
  obtain ⟨p,bs,rfl,hq,q⟩:=h
  obtain ⟨u,rfl,ru⟩:=vals1 r
  cases ru
  obtain ⟨its,r1,p1,hz⟩:=I.list hq
  have hl:=p1.isList
  have hlt:p<s.heap.objs.size:=p1.lt
  have hlen:=r1.length
  rw [List.length_map] at hlen
  refine call_all_walk (wpAny_pyIter_list hl ?_)
  refine ⟨s.heap.objs.size,[s.heap.objs.size,p],[s.heap.objs.size],its.toArray.size,_,_,fun i=>(bs[i]?).getD true,rfl,Walks.list (A:=X.A.in1) (I.ok.hd hc) _ p (Nat.ne_of_lt hlt) its.toArray,
    ⟨⟨_,Heap.get?_push_size _ rfl,rfl,rfl⟩,hl.push _⟩,fun i v s' Q' E' hP hQ=>?_,fun h' tk hk=>?_⟩
  · have hP':its[i]?=some v:=by simpa using hP
    have hi:i<bs.length:=by
      have:=(List.getElem?_eq_some_iff.mp hP').1
      omega
    obtain ⟨u,eu,ru⟩:=r1.get (x:=.bl bs[i]) (by rw [List.getElem?_map,List.getElem?_eq_getElem hi];rfl)
    rw [hP'] at eu
    cases eu
    cases ru
    dsimp only at hQ
    rw [List.getElem?_eq_getElem hi] at hQ
    exact wpAny_truthy_bool hQ
  · have e:((List.range its.toArray.size).all fun i=>(bs[i]?).getD true)=bs.all id:=by
      rw [List.size_toArray,← hlen];exact qH bs
    rw [e]
    refine ⟨.bl _,H,I.kept fun b o eo=>hk b o (fun hm=>?_) (Heap.get?_push_of_some _ eo),rfl,q⟩
    rw [List.mem_singleton.mp hm] at eo
    exact Nat.lt_irrefl _ (Heap.lt_size eo)
end
end L2
namespace L2
open PySem PySem.Spec PyProof.Rows
section
variable {X:Cx} {st:Stmt} {rest:List Stmt} {t u:TS}
def MJ (t u:TS):TS:=fun D σ H=>∃ M:St→Hp→Prop,t { D with nx:=M } σ H∧∀ σ' H',M σ' H'→u D σ' H'
theorem gM (h1:PS X st t) (h2:PSs X rest u):PSs X (st :: rest) (MJ t u):=by
  intro pins s σ H D I h
  obtain ⟨M,ha,hb⟩:=h
  refine wpAny_execs_cons (thn (h1 pins s σ H { D with nx:=M } I ha) fun f s1 q=>?_)
  cases f with
  | next =>
    obtain ⟨σ',H',I',q⟩:=q
    exact h2 pins s1 σ' H' D I' (hb σ' H' q)
  | ret v=>exact q
  | brk=>exact q
  | cont=>exact q
end
end L2
namespace L2
open PySem PySem.Spec PyProof.Rows
def Qt (H:Hp) (P:List V→Prop) (Q:VK):Prop:=∀ (l:Addr) (H':Hp) (xs:List V),Same H H'→H l=none→H' l=some (.lst xs)→P xs→Q (.ref l) H'
structure Df (K:PySem.W.Frag) (mg:Str→Option Value) (x:Str) (st:Stmt) (ps:List Str) (a:Addr) (fd:FuncData):Prop where
  F:Fun K x x st a fd
  b:Binds K fd ps []
  m:mg x=some (.ref a)
theorem Same.upd {H H':Hp} {l:Addr} {o:HO} (s:Same H H') (h:H l=none):Same H (L2.upd H' l o):=fun b u e=>by
  rw [aY (cB e h)];exact s b u e
theorem ints_get {ns:List Int} {i:Nat} {y:V} (h:(ns.map V.int)[i]?=some y):∃ z,ns[i]?=some z∧y=V.int z:=by
  rw [List.getElem?_map] at h
  cases e:ns[i]? with
  | none=>rw [e] at h;cases h
  | some z=>rw [e] at h;exact ⟨z,rfl,(Option.some.inj h).symm⟩
theorem aX {ns:List Int} {i:Nat} {z:Int} (h:ns[i]?=some z):atI (ns.map V.int) (i:Int)=some (V.int z):=eV (by rw [List.getElem?_map,h];rfl)
theorem gZ {ns:List Int} {i:Int} {z:Int} (h0:0≤i) (h:ns[i.toNat]?=some z):atI (ns.map V.int) i=some (V.int z):=by
  obtain ⟨k,rfl⟩:=Int.eq_ofNat_of_zero_le h0
  exact aX (by simpa using h)
theorem lZ {n j:Nat} (h:j<n):ixN n (j:Int)=some j:=by
  unfold ixN
  rw [if_pos (by omega),if_pos (by omega)];simp
theorem uE {n:Nat} (h:n≤100000):n≤sizeLine:=Nat.le_trans h (by decide)
theorem bw {n:Nat} (h:n≤100000):n<sizeLine:=Nat.lt_of_le_of_lt h (by decide)
structure Blt (mg:Str→Option Value):Prop where
  len:mg "len"=none
  range:mg "range"=none
  list:mg "list"=none
  isinstance:mg "isinstance"=none
  bool:mg "bool"=none
  int:mg "int"=none
  all:mg "all"=none
  min:mg "min"=none
  max:mg "max"=none
  sum:mg "sum"=none
  sorted:mg "sorted"=none
  zip:mg "zip"=none
  tuple:mg "tuple"=none
  str:mg "str"=none
  any:mg "any"=none
  enumerate:mg "enumerate"=none
  reversed:mg "reversed"=none
  abs:mg "abs"=none
  ValueError:mg "ValueError"=none
  set:mg "set"=none
structure Mth (mg:Str→Option Value):Prop where
  MOUTH:∃ t,mg "MOUTH"=some (.int (-1) t)
section
variable {X:Cx} {K:PySem.W.Frag}
theorem lY (h:X.K=K):IxR X (Qh K):=h ▸ aD
theorem Es (h:X.K=K):IxR X (Qg K):=h ▸ eY
theorem mC (h:X.K=K):j5 X (.builtin "len") (fun xs H Q=>∃ p ys,xs=[.ref p]∧(SqL K H p ys∨SqT K H p ys)∧Q (.int ys.length) H):=h ▸ aF
theorem qJ (h:X.K=K):OpR X (compareOp .In) (rIn K false):=h ▸ jO
theorem uF (h:X.K=K):SlR X (Qf K):=h ▸ jE
end
end L2
namespace L2
open PySem PySem.W PyProof.Rows
section
variable {N:Nat} {κ:Nat→Int} {R:Shared→Prop} {cmp:Nat→Nat→(Bool→Shared→Prop)→Shared→Prop}
def Cmp (N:Nat) (κ:Nat→Int) (R:Shared→Prop) (cmp:Nat→Nat→(Bool→Shared→Prop)→Shared→Prop):Prop :=
  ∀ i j C s,i<N→j<N→R s→(∀ s',R s'→C (decide (κ i<κ j)) s')→cmp i j C s
def Inj (N:Nat) (κ:Nat→Int):Prop:=∀ i j,i<N→j<N→i≠j→κ i≠κ j
variable (hc:Cmp N κ R cmp) (hI:Inj N κ)
include hc hI
end
end L2
namespace L2
open PySem PySem.Spec PyProof.Rows
end L2
namespace L2
open PySem PySem.W PySem.Spec PyProof.Rows
end L2
namespace L2
open PySem PySem.W PySem.Spec PyProof.Rows
end L2
namespace L2
open PySem PySem.W PySem.Spec PyProof.Rows
end L2
namespace L2
open PySem PySem.W PySem.Spec PyProof.Rows
end L2
namespace L2
open PySem PySem.W PySem.Spec PyProof.Rows
section
variable {X:Cx} {pins:List (Addr × Obj)} {σ:St} {H:Hp} {s:Shared}
def TabOk (P:Addr) (pos:Pos) (qual:Str) (H:Hp):Prop:=H P=some (.tbl #[])∨∃ c':Addr,H P=some (.tbl #[rawInt pos.line,rawInt pos.col,.ref c'])∧H c'=some (.ext fun h=>h.CodeRec (.ref c') qual)
end
end L2
namespace L2
open PySem PySem.W PySem.Spec PyProof.Rows
end L2
namespace L2
open PySem PySem.W PySem.Spec PyProof.Rows
end L2
namespace L2
open PySem PySem.Spec PyProof.Rows
mutual
inductive Den (K:PySem.W.Frag) (H:Hp):V→PyData→Prop
  | non:Den K H .non .none
  | bl (b:Bool):Den K H (.bl b) (.bool b)
  | int (i:Int):Den K H (.int i) (.int i)
  | str (x:Str):Den K H (.str x) (.str x)
  | list {a:Addr} {xs:List V} {ds:List PyData}:SqL K H a xs→cQ K H xs ds→Den K H (.ref a) (.list ds)
  | tuple {a:Addr} {xs:List V} {ds:List PyData}:SqT K H a xs→cQ K H xs ds→Den K H (.ref a) (.tuple ds)
inductive cQ (K:PySem.W.Frag) (H:Hp):List V→List PyData→Prop
  | nil:cQ K H [] []
  | cons {v:V} {vs:List V} {d:PyData} {ds:List PyData}:Den K H v d→cQ K H vs ds→cQ K H (v :: vs) (d :: ds)
end
theorem cQ.length {K:PySem.W.Frag} {H:Hp}:∀ {vs:List V} {ds:List PyData},cQ K H vs ds→vs.length=ds.length
  | _,_,.nil=>rfl
  | _,_,.cons _ hs=>by rw [List.length_cons,List.length_cons,cQ.length hs]
theorem cQ.append {K:PySem.W.Frag} {H:Hp}:∀ {vs ws:List V} {ds es:List PyData},cQ K H vs ds→cQ K H ws es→cQ K H (vs++ws) (ds++es)
  | _,_,_,_,.nil,h=>h
  | _,_,_,_,.cons h hs,h'=>.cons h (cQ.append hs h')
theorem cQ.get {K:PySem.W.Frag} {H:Hp}:∀ {vs:List V} {ds:List PyData} {i:Nat} {d:PyData},cQ K H vs ds→ds[i]?=some d→∃ v,vs[i]?=some v∧Den K H v d
  | _,_,_,_,.nil,e=>by simp at e
  | _,_,0,_,.cons h _,e=>by simp at e;subst e;exact ⟨_,rfl,h⟩
  | _,_,i + 1,d,.cons _ hs,e=>by
    obtain ⟨v,h1,h2⟩:=cQ.get (i:=i) (d:=d) hs (by simpa using e)
    exact ⟨v,by simpa using h1,h2⟩
theorem cQ.get' {K:PySem.W.Frag} {H:Hp}:∀ {vs:List V} {ds:List PyData} {i:Nat} {v:V},cQ K H vs ds→vs[i]?=some v→∃ d,ds[i]?=some d∧Den K H v d
  | _,_,_,_,.nil,e=>by simp at e
  | _,_,0,_,.cons h _,e=>by simp at e;subst e;exact ⟨_,rfl,h⟩
  | _,_,i + 1,v,.cons _ hs,e=>by
    obtain ⟨d,h1,h2⟩:=cQ.get' (i:=i) (v:=v) hs (by simpa using e)
    exact ⟨d,by simpa using h1,h2⟩
theorem cQ.set {K:PySem.W.Frag} {H:Hp} {v:V} {d:PyData} (h:Den K H v d):∀ {vs:List V} {ds:List PyData} (i:Nat),cQ K H vs ds→cQ K H (vs.set i v) (ds.set i d)
  | _,_,_,.nil=>.nil
  | _,_,0,.cons _ hs=>.cons h hs
  | _,_,i + 1,.cons q hs=>.cons q (cQ.set h i hs)
theorem cQ.ints {K:PySem.W.Frag} {H:Hp}:∀ (ns:List Int),cQ K H (ns.map V.int) (ns.map PyData.int)
  | []=>.nil
  | n :: ns=>.cons (.int n) (cQ.ints ns)
def tY (ns:List Int):PyData:=.list (ns.map PyData.int)
theorem Den.ints {K:PySem.W.Frag} {H:Hp} {a:Addr} {ns:List Int} (h:SqL K H a (ns.map V.int)):Den K H (.ref a) (tY ns):=.list h (cQ.ints ns)
theorem cQ.int_inv {K:PySem.W.Frag} {H:Hp}:∀ {vs:List V} {ns:List Int},cQ K H vs (ns.map PyData.int)→vs=ns.map V.int
  | _,[],.nil=>rfl
  | _,n :: ns,.cons h hs=>by
    cases h
    rw [cQ.int_inv hs];rfl
section
variable {X:Cx} {pins:List (Addr × Obj)} {σ:St} {H:Hp} {s:Shared}
mutual
theorem Den.reads (I:Inv X pins σ H s):∀ {v:V} {d:PyData} {u:Value},Den X.K H v d→RelV v u→∃ as,Reads s.heap u d as
  | _,_,_,.non,r=>by cases r;exact ⟨_,.none⟩
  | _,_,_,.bl b,r=>by cases r;exact ⟨_,.bool b⟩
  | _,_,_,.int i,r=>by obtain ⟨t,rfl⟩:=r;exact ⟨_,.int i t⟩
  | _,_,_,.str x,r=>by obtain ⟨t,rfl⟩:=r;exact ⟨_,.str x t⟩
  | _,_,_,.list h hs,r=>by
    cases r
    obtain ⟨its,r1,⟨o,n,e,c,_,d⟩,_⟩:=I.list h
    obtain ⟨as,q⟩:=cQ.reads I hs r1
    exact ⟨_,.list e c d (by simpa using q)⟩
  | _,_,_,.tuple h hs,r=>by
    cases r
    obtain ⟨its,r1,⟨o,e,c,n,d⟩,_⟩:=I.tuple h
    obtain ⟨as,q⟩:=cQ.reads I hs r1
    exact ⟨_,.tuple e c d (by simpa using q)⟩
theorem cQ.reads (I:Inv X pins σ H s):∀ {vs:List V} {ds:List PyData} {us:List Value},cQ X.K H vs ds→Vals vs us→∃ as,ReadsAll s.heap us ds as
  | _,_,_,.nil,r=>by cases r;exact ⟨_,.nil⟩
  | _,_,_,.cons h hs,r=>by
    cases r with
    | cons r1 r2 =>
      obtain ⟨as,q⟩:=Den.reads I h r1
      obtain ⟨bs,q'⟩:=cQ.reads I hs r2
      exact ⟨_,.cons q q'⟩
end
def Qi (K:PySem.W.Frag) (neg:Bool):R2:=fun x y H Q=>∃ d e,Den K H x d∧Den K H y e∧SeqAt.shaped d=true∧SeqAt.shaped e=true∧Q (.bl (if neg then !PyData.eqv d e else PyData.eqv d e)) H
theorem vU (hu:X.A.units + 64<cLine):OpR X (compareOp .Eq) (Qi X.K false):=by
  intro pins s σ H x y v u Q I rx ry h
  obtain ⟨d,e,hd,he,sd,se,q⟩:=h
  obtain ⟨as,ra⟩:=hd.reads I rx
  obtain ⟨bs,rb⟩:=he.reads I ry
  exact SeqAt.compareEq_shaped ra rb sd se hu ⟨.bl _,H,I,rfl,q⟩
theorem pZ (hu:X.A.units + 64<cLine):OpR X (compareOp .NotEq) (Qi X.K true):=by
  intro pins s σ H x y v u Q I rx ry h
  obtain ⟨d,e,hd,he,sd,se,q⟩:=h
  obtain ⟨as,ra⟩:=hd.reads I rx
  obtain ⟨bs,rb⟩:=he.reads I ry
  exact SeqAt.compareNe_shaped ra rb sd se hu ⟨.bl _,H,I,rfl,q⟩
end
def Sh (n:Nat) (d:PyData):Prop:=d.canLay0=true∧d.depth≤n
theorem uh:∀ {ds:List PyData},(∀ d∈ds,d.canLay0=true)→PyData.canLayAll0 ds=true
  | [],_=>rfl
  | d :: ds,h=>by rw [PyData.canLayAll0,h d List.mem_cons_self,uh fun x hx=>h x (List.mem_cons_of_mem _ hx)];rfl
theorem tQ {n:Nat}:∀ {ds:List PyData},(∀ d∈ds,d.depth≤n)→PyData.depthAll ds≤n
  | [],_=>by simp [PyData.depthAll]
  | d :: ds,h=>by
    have h1:=h d List.mem_cons_self
    have h2:=tQ fun x hx=>h x (List.mem_cons_of_mem _ hx)
    simp only [PyData.depthAll]
    omega
theorem Sh.int (n:Nat) (i:Int):Sh n (.int i):=⟨rfl,by simp [PyData.depth]⟩
theorem Sh.list {n:Nat} {ds:List PyData} (h:∀ d∈ds,Sh n d):Sh (n + 1) (.list ds):=⟨by rw [PyData.canLay0];exact uh fun d hd=>(h d hd).1,by
  have:=tQ fun d hd=>(h d hd).2
  simp only [PyData.depth];omega⟩
theorem Sh.tuple {n:Nat} {ds:List PyData} (h:∀ d∈ds,Sh n d):Sh (n + 1) (.tuple ds):=⟨by rw [PyData.canLay0];exact uh fun d hd=>(h d hd).1,by
  have:=tQ fun d hd=>(h d hd).2
  simp only [PyData.depth];omega⟩
theorem Sh.ints (n:Nat) (ns:List Int):Sh (n + 1) (tY ns):=.list fun d hd=>by
  obtain ⟨i,_,rfl⟩:=List.mem_map.mp hd
  exact .int n i
theorem Sh.ok {n:Nat} {d:PyData} (h:Sh n d) (hn:n≤64):SeqAt.shaped d=true:=by
  unfold SeqAt.shaped
  rw [h.1,decide_eq_true (by have:=h.2;omega)];rfl
theorem ig {n:Nat} {d:PyData} (h:Sh n d):PyData.eqv d d=true:=SeqAt.eqv_refl d h.1
abbrev eZ:=List (Addr × Pos × Str)
def TabsOk (T:eZ) (H:Hp):Prop:=∀ t∈T,TabOk t.1 t.2.1 t.2.2 H
structure bD (T:eZ) (H H':Hp):Prop where
  t0:TabsOk T H
  t1:TabsOk T H'
  keep:∀ b o,H b=some o→(∀ ps,o≠.tbl ps)→H' b=some o
  tb:∀ b ps,H b=some (.tbl ps)→∃ ps',H' b=some (.tbl ps')
theorem TabsOk.nil (H:Hp):TabsOk [] H:=fun t ht=>nomatch ht
theorem TabsOk.mono {T:eZ} {H H':Hp} (t:TabsOk T H) (s:Same H H'):TabsOk T H':=fun q hq=>by
  rcases t q hq with e | ⟨c,e1,e2⟩
  · exact .inl (s _ _ e)
  · exact .inr ⟨c,s _ _ e1,s _ _ e2⟩
theorem bD.refl {T:eZ} {H:Hp} (t:TabsOk T H):bD T H H:=⟨t,t,fun _ _ h _=>h,fun _ ps h=>⟨ps,h⟩⟩
theorem bD.of {T:eZ} {H H':Hp} (t:TabsOk T H) (s:Same H H'):bD T H H':=⟨t,t.mono s,fun b o h _=>s b o h,fun b ps h=>⟨ps,s _ _ h⟩⟩
theorem bD.trans {T:eZ} {H H1 H2:Hp} (a:bD T H H1) (b:bD T H1 H2):bD T H H2:=⟨a.t0,b.t1,fun c o h n=>b.keep c o (a.keep c o h n) n,fun c ps h=>by
  obtain ⟨ps',e⟩:=a.tb c ps h
  exact b.tb c ps' e⟩
theorem bD.free {T:eZ} {H H':Hp} (a:bD T H H') {l:Addr} (h:H' l=none):H l=none:=by
  cases q:H l with
  | none=>rfl
  | some o =>
    have key:(∃ ps,o=.tbl ps)∨∀ ps,o≠.tbl ps:=by
      cases o with
      | tbl ps=>exact .inl ⟨ps,rfl⟩
      | _=>exact .inr fun _ z=>by cases z
    rcases key with ⟨ps,rfl⟩ | n
    · obtain ⟨ps',e⟩:=a.tb l ps q
      rw [h] at e;cases e
    · have:=a.keep l o q n
      rw [h] at this;cases this
theorem bD.seq {T:eZ} {K:PySem.W.Frag} {H H':Hp} {a:Addr} {xs:List V} (e:bD T H H') (h:SqL K H a xs):SqL K H' a xs:=by
  rcases h with (h | ⟨o,h⟩) | h
  · exact .inl (.inl (e.keep _ _ h fun _ z=>by cases z))
  · exact .inl (.inr ⟨o,e.keep _ _ h fun _ z=>by cases z⟩)
  · exact .inr h
theorem bD.Qd {T:eZ} {K:PySem.W.Frag} {H H':Hp} {a:Addr} {xs:List V} (e:bD T H H') (h:SqT K H a xs):SqT K H' a xs:=by
  rcases h with (h | ⟨o,h⟩) | h
  · exact .inl (.inl (e.keep _ _ h fun _ z=>by cases z))
  · exact .inl (.inr ⟨o,e.keep _ _ h fun _ z=>by cases z⟩)
  · exact .inr h
mutual
theorem Den.qK {T:eZ} {K:PySem.W.Frag} {H H':Hp} (e:bD T H H'):∀ {v:V} {d:PyData},Den K H v d→Den K H' v d
  | _,_,.non=>.non
  | _,_,.bl b=>.bl b
  | _,_,.int i=>.int i
  | _,_,.str x=>.str x
  | _,_,.list h hs=>.list (e.seq h) (cQ.qK e hs)
  | _,_,.tuple h hs=>.tuple (e.Qd h) (cQ.qK e hs)
theorem cQ.qK {T:eZ} {K:PySem.W.Frag} {H H':Hp} (e:bD T H H'):∀ {vs:List V} {ds:List PyData},cQ K H vs ds→cQ K H' vs ds
  | _,_,.nil=>.nil
  | _,_,.cons h hs=>.cons (Den.qK e h) (cQ.qK e hs)
end
def vH (T:eZ) (H:Hp) (P:List V→Prop) (Q:VK):Prop:=∀ (l:Addr) (H':Hp) (xs:List V),bD T H H'→H l=none→H' l=some (.lst xs)→P xs→Q (.ref l) H'
def gC:HO→Bool
  | .tbl _=>false
  | .ext _=>false
  | _=>true
structure Ow (T:eZ) (H0 H:Hp) (L:List (Addr × HO)):Prop where
  same:bD T H0 H
  new:∀ p∈L,H0 p.1=none
  at_:∀ p∈L,H p.1=some p.2
  pl:∀ p∈L,gC p.2=true
  nd:(L.map (·.1)).Nodup
section
variable {T:eZ} {H0 H1 H H':Hp} {L L':List (Addr × HO)} {a l:Addr} {o o':HO} {xs:List V}
theorem Ow.refl (t:TabsOk T H):Ow T H H []:=⟨bD.refl t,(fun p hp=>nomatch hp),(fun p hp=>nomatch hp),(fun p hp=>nomatch hp),List.nodup_nil⟩
theorem Ow.get (O:Ow T H0 H L) (k:Nat) (h:L[k]?=some (a,o):=by rfl):H a=some o:=O.at_ _ (List.mem_of_getElem? h)
theorem Ow.fr (O:Ow T H0 H L) (k:Nat) (h:L[k]?=some (a,o):=by rfl):H0 a=none:=O.new _ (List.mem_of_getElem? h)
theorem Ow.sq {K:PySem.W.Frag} (O:Ow T H0 H L) (k:Nat) (h:L[k]?=some (a,.lst xs):=by rfl):SqL K H a xs:=SqL.of (O.get k h)
theorem Ow.sqT {K:PySem.W.Frag} (O:Ow T H0 H L) (k:Nat) (h:L[k]?=some (a,.tup xs):=by rfl):SqT K H a xs:=SqT.of (O.get k h)
theorem TabOk.upd {P:Addr} {pos:Pos} {q:Str} (t:TabOk P pos q H) (h:H a=none∨∃ o,H a=some o∧gC o=true):TabOk P pos q (L2.upd H a o'):=by
  have ne:∀ b u,H b=some u→gC u=false→b≠a:=fun b u e p z=>by
    subst z
    rcases h with h | ⟨o,h,ho⟩
    · rw [h] at e;cases e
    · rw [h] at e;cases e;rw [ho] at p;cases p
  rcases t with e | ⟨c,e1,e2⟩
  · exact .inl (by rw [aY (ne _ _ e rfl)];exact e)
  · exact .inr ⟨c,by rw [aY (ne _ _ e1 rfl)];exact e1,by rw [aY (ne _ _ e2 rfl)];exact e2⟩
theorem bD.upd (s:bD T H0 H) (h:H0 a=none) (h':H a=none∨∃ o,H a=some o∧gC o=true):bD T H0 (L2.upd H a o') :=
  ⟨s.t0,fun t ht=>(s.t1 t ht).upd h',fun b u e n=>by rw [aY (cB e h)];exact s.keep b u e n,fun b ps e=>by rw [aY (cB e h)];exact s.tb b ps e⟩
theorem Ow.mk' (O:Ow T H0 H L) (h:H a=none) (ho:gC o=true):Ow T H0 (upd H a o) ((a,o) :: L):=by
  have ne:∀ p∈L,p.1≠a:=fun p hp=>cB (O.at_ p hp) h
  have n0:H0 a=none:=O.same.free h
  refine ⟨O.same.upd n0 (.inl h),fun p hp=>?_,fun p hp=>?_,fun p hp=>?_,?_⟩
  · rcases List.mem_cons.mp hp with e | e
    · rw [e];exact n0
    · exact O.new p e
  · rcases List.mem_cons.mp hp with e | e
    · rw [e];exact bI
    · rw [aY (ne p e)];exact O.at_ p e
  · rcases List.mem_cons.mp hp with e | e
    · rw [e];exact ho
    · exact O.pl p e
  · rw [List.map_cons,List.nodup_cons]
    refine ⟨fun hm=>?_,O.nd⟩
    obtain ⟨p,hp,e⟩:=List.mem_map.mp hm
    exact ne p hp e
theorem rM:∀ {L:List (Addr × HO)} {k:Nat} {a:Addr} {o o':HO},L[k]?=some (a,o)→(L.set k (a,o')).map (·.1)=L.map (·.1)
  | [],_,_,_,_,h=>by simp at h
  | p :: L,0,a,o,o',h=>by
    have:p=(a,o):=by simpa using h
    rw [this];rfl
  | p :: L,k + 1,a,o,o',h=>by
    rw [List.set_cons_succ,List.map_cons,List.map_cons,rM (L:=L) (k:=k) (o:=o) (by simpa using h)]
theorem Ow.Ms (O:Ow T H0 H L) (k:Nat) (h:L[k]?=some (a,o)) (ho:gC o'=true):Ow T H0 (upd H a o') (L.set k (a,o')):=by
  have hm0:=List.mem_of_getElem? h
  have n0:H0 a=none:=O.new _ hm0
  have hk:k<L.length:=(List.getElem?_eq_some_iff.mp h).1
  refine ⟨O.same.upd n0 (.inr ⟨o,O.at_ _ hm0,O.pl _ hm0⟩),fun p hp=>?_,fun p hp=>?_,fun p hp=>?_,by rw [rM h];exact O.nd⟩
  · rcases List.mem_or_eq_of_mem_set hp with e | e
    · exact O.new p e
    · rw [e];exact n0
  · obtain ⟨j,hj,e⟩:=List.getElem_of_mem hp
    by_cases hjk:j=k
    · subst hjk
      rw [List.getElem_set_self] at e
      rw [← e];exact bI
    · rw [List.getElem_set_ne (Ne.symm hjk)] at e
      have hj':j<L.length:=by rw [List.length_set] at hj;exact hj
      have hm:p∈L:=by rw [← e];exact List.getElem_mem hj'
      rw [aY]
      · exact O.at_ p hm
      · intro z
        have e1:(L.map (·.1))[j]?=some p.1:=by rw [List.getElem?_map,List.getElem?_eq_getElem hj',e];rfl
        have e2:(L.map (·.1))[k]?=some a:=by rw [List.getElem?_map,h];rfl
        rw [z] at e1
        obtain ⟨a1,a2⟩:=List.getElem?_eq_some_iff.mp e1
        obtain ⟨b1,b2⟩:=List.getElem?_eq_some_iff.mp e2
        exact hjk ((List.getElem_inj O.nd).mp (a2.trans b2.symm))
  · rcases List.mem_or_eq_of_mem_set hp with e | e
    · exact O.pl p e
    · rw [e];exact ho
theorem rZ {o:HO} (h:gC o=true):∀ ps,o≠.tbl ps:=fun ps z=>by rw [z] at h;cases h
theorem Ow.kE (O:Ow T H0 H L) (s:bD T H H'):Ow T H0 H' L:=⟨O.same.trans s,O.new,fun p hp=>s.keep _ _ (O.at_ p hp) (rZ (O.pl p hp)),O.pl,O.nd⟩
theorem Ow.call (O:Ow T H0 H L) (s:Same H H'):Ow T H0 H' L:=O.kE (bD.of O.same.t1 s)
theorem Ow.GC (O:Ow T H0 H L) (s:bD T H H') (n:H l=none) (h:H' l=some o) (ho:gC o=true):Ow T H0 H' ((l,o) :: L):=by
  have O2:=O.kE s
  refine ⟨O2.same,fun p hp=>?_,fun p hp=>?_,fun p hp=>?_,?_⟩
  · rcases List.mem_cons.mp hp with e | e
    · rw [e];exact O.same.free n
    · exact O.new p e
  · rcases List.mem_cons.mp hp with e | e
    · rw [e];exact h
    · exact O2.at_ p e
  · rcases List.mem_cons.mp hp with e | e
    · rw [e];exact ho
    · exact O.pl p e
  · rw [List.map_cons,List.nodup_cons]
    refine ⟨fun hm=>?_,O.nd⟩
    obtain ⟨p,hp,e⟩:=List.mem_map.mp hm
    exact cB (O.at_ p hp) n e
theorem Ow.more (O:Ow T H0 H L) (s:Same H H') (n:H l=none) (h:H' l=some o) (ho:gC o=true):Ow T H0 H' ((l,o) :: L):=O.GC (bD.of O.same.t1 s) n h ho
theorem Ow.sub (O:Ow T H0 H L) (h:L'.Sublist L):Ow T H0 H L':=⟨O.same,fun p hp=>O.new p (h.subset hp),fun p hp=>O.at_ p (h.subset hp),fun p hp=>O.pl p (h.subset hp),O.nd.sublist (h.map _)⟩
theorem Ow.perm (O:Ow T H0 H L) (h:L'.Perm L):Ow T H0 H L':=⟨O.same,fun p hp=>O.new p (h.mem_iff.mp hp),fun p hp=>O.at_ p (h.mem_iff.mp hp),fun p hp=>O.pl p (h.mem_iff.mp hp),(h.map _).nodup_iff.mpr O.nd⟩
theorem Ow.tail {p:Addr × HO} (O:Ow T H0 H (p :: L)):Ow T H0 H L:=O.sub (List.sublist_cons_self _ _)
theorem Ow.two {p q:Addr × HO} (O:Ow T H0 H (p :: q :: L)):Ow T H0 H (p :: L):=O.sub ((List.sublist_cons_self _ _).cons₂ _)
theorem Ow.reb (O:Ow T H0 H L):∃ H1,Ow T H1 H L∧bD T H0 H1∧∀ b o,H b=some o→(∀ p∈L,p.1≠b)→H1 b=some o:=by
  have keep:∀ b u,H b=some u→(∀ p∈L,p.1≠b)→(fun b=>if b∈L.map (·.1) then none else H b:Hp) b=some u:=fun b u e h=>by
    show (if b∈L.map (·.1) then none else H b)=some u
    rw [if_neg fun hm=>?_];· exact e
    obtain ⟨p,hp,z⟩:=List.mem_map.mp hm
    exact h p hp z
  have back:∀ b u,(fun b=>if b∈L.map (·.1) then none else H b:Hp) b=some u→H b=some u:=fun b u e=>by
    dsimp only at e
    split at e
    · cases e
    · exact e
  have npl:∀ b u,H b=some u→gC u=false→∀ p∈L,p.1≠b:=fun b u e h p hp z=>by
    have:=O.at_ p hp
    rw [z,e] at this
    have e':u=p.2:=Option.some.inj this
    rw [e',O.pl p hp] at h;cases h
  have tk:TabsOk T (fun b=>if b∈L.map (·.1) then none else H b):=fun t ht=>by
    rcases O.same.t1 t ht with e | ⟨c,e1,e2⟩
    · exact .inl (keep _ _ e (npl _ _ e rfl))
    · exact .inr ⟨c,keep _ _ e1 (npl _ _ e1 rfl),keep _ _ e2 (npl _ _ e2 rfl)⟩
  refine ⟨fun b=>if b∈L.map (·.1) then none else H b,⟨⟨tk,O.same.t1,fun b u e _=>back b u e,fun b ps e=>⟨ps,back _ _ e⟩⟩,fun p hp=>?_,O.at_,O.pl,O.nd⟩,⟨O.same.t0,tk,fun b u e n=>?_,fun b ps e=>?_⟩,keep⟩
  · exact if_pos (List.mem_map.mpr ⟨p,hp,rfl⟩)
  · refine keep b u (O.same.keep b u e n) fun p hp z=>?_
    rw [← z,O.new p hp] at e;cases e
  · obtain ⟨ps',e'⟩:=O.same.tb b ps e
    exact ⟨ps',keep _ _ e' (npl _ _ e' rfl)⟩
theorem pY {i:Int} {j:Nat} {v:V} {Q:Hp→Prop} (O:Ow T H0 H L) (k:Nat) (h:L[k]?=some (l,.lst xs)) (hi:ixN xs.length i=some j) (q:∀ H',Ow T H0 H' (L.set k (l,.lst (xs.set j v)))→Q H'):Ga (.ref l) (.int i) v H Q :=
  ⟨l,xs,i,j,rfl,rfl,O.get k h,hi,q _ (O.Ms k h rfl)⟩
theorem Ow.ret {P:List V→Prop} {Q:VK} (O:Ow T H0 H L) (k:Nat) (h:L[k]?=some (l,.lst xs)) (q:vH T H0 P Q) (p:P xs):Q (.ref l) H:=q l H xs O.same (O.fr k h) (O.get k h) p
theorem Ow.got {P:List V→Prop} {Q:VK} (O:Ow T H0 H L) (k:∀ l H' xs,Ow T H0 H' ((l,.lst xs) :: L)→P xs→Q (.ref l) H'):Qt H P Q:=fun l H' xs s n h p=>k l H' xs (O.more s n h rfl) p
theorem Ow.Pu {P:List V→Prop} {Q:VK} (O:Ow T H0 H L) (k:∀ l H' xs,Ow T H0 H' ((l,.lst xs) :: L)→P xs→Q (.ref l) H'):vH T H P Q:=fun l H' xs s n h p=>k l H' xs (O.GC s n h rfl) p
end
end L2
namespace L2
open PySem PySem.W PySem.Spec PyProof.Rows
theorem szl {n:Nat} (h:Nat.ble n 100000=true:=by rfl):n≤sizeLine:=uE (Nat.le_of_ble_eq_true h)
theorem oN (p:Int) (ns:List Int):inV (.int p) (ns.map V.int)=decide (p∈ns):=by
  unfold inV
  rw [List.any_map,Bool.eq_iff_iff]
  simp only [List.any_eq_true,decide_eq_true_eq]
  constructor
  · rintro ⟨x,hx,e⟩
    have e':(x == p)=true:=e
    have:x=p:=by simpa using e'
    rw [← this];exact hx
  · intro h
    exact ⟨p,h,show (p == p)=true by simp⟩
theorem jX (ns:List Int):(ns.map V.int).all mz=true:=by
  rw [List.all_map,List.all_eq_true];intro _ _;rfl
section
variable {X:Cx}
theorem jY:∀ ns ms:List Int,PyData.eqvAll (ns.map PyData.int) (ms.map PyData.int)=decide (ns=ms)
  | [],[]=>by simp [PyData.eqvAll]
  | [],_ :: _=>by simp [PyData.eqvAll]
  | _ :: _,[]=>by simp [PyData.eqvAll]
  | n :: ns,m :: ms=>by
    rw [List.map_cons,List.map_cons,PyData.eqvAll,jY ns ms]
    have e:PyData.eqv (.int n) (.int m)=decide (n=m):=by
      rw [PyData.eqv];rfl
    rw [e,Bool.eq_iff_iff]
    simp
theorem vp (ns ms:List Int):PyData.eqv (tY ns) (tY ms)=decide (ns=ms):=by
  unfold tY
  rw [PyData.eqv];exact jY ns ms
theorem sH (hu:X.A.units + 64<cLine):OpR X (compareOp .NotEq) (rEqL X.K true):=by
  intro pins s σ H x y v u Q I rx ry h
  obtain ⟨a,b,ns,ms,rfl,rfl,ha,hb,q⟩:=h
  refine pZ hu pins s σ H _ _ v u Q I rx ry ⟨_,_,Den.ints ha,Den.ints hb,(Sh.ints 0 ns).ok (by decide),(Sh.ints 0 ms).ok (by decide),?_⟩
  rw [vp];exact q
end
section
variable {T:eZ} {H0 H:Hp} {L:List (Addr × HO)} {l:Addr} {xs:List V}
theorem Ow.mkE {a:Addr} {o:HO} {H':Hp} (O:Ow T H0 H L) (h:H a=none) (e:upd H a o=H') (ho:gC o=true):Ow T H0 H' ((a,o) :: L):=e ▸ O.mk' h ho
theorem Ow.mK {a:Addr} {o o':HO} {H':Hp} (O:Ow T H0 H L) (k:Nat) (h:L[k]?=some (a,o)) (e:upd H a o'=H') (ho:gC o'=true):Ow T H0 H' (L.set k (a,o')):=e ▸ O.Ms k h ho
end
end L2
namespace L2
open PySem PySem.W PySem.Spec PySem.Calls PyProof.Rows PySem.Builtin PySem.Builtin.ObjectAttr PySem.Builtin.Getset_descriptor
section
variable {prog:Program} {w:World} {A:Around} {E:Value→Shared→Prop} {K:Frag} {e D:Addr} {hh:Heap} {g:Array GenState} {d:Drawn} {t:Nat} {os:OsState}
structure Fg (K:Frag) (D:Addr):Prop where
  ga:findIn K (.ref D) "__getattribute__"=some (some (.builtin "BaseException.__getattribute__"))
  gt:findIn K (.ref D) "__getattr__"=some none
  at_:findIn K (.ref D) "__class__"=some (some (.builtin "object.__class__"))
  sp:specialIn K (.builtin "object.__class__") "__get__"=some (some (.builtin "getset_descriptor.__get__"))
  tk:takesIn K (.builtin "object.__class__")=some true
  mo:mroIn K D (.type "object")=some true
  mb:mroIn K D (.type "BaseException")=some true
  cl:(clsIn K D).isSome=true
theorem DW {M:Model} (X:K.In hh) (C:Fg K D):Looks M hh (Builtin.ObjectAttr.find (.ref e) (.ref D) "__class__") (.bind (.builtin "getset_descriptor.__get__") (.builtin "object.__class__")):=by
  have L3:Looks M hh (Builtin.ObjectAttr.dataDescriptor? (some (.builtin "object.__class__")) (some (.builtin "getset_descriptor.__get__"))) (some (.builtin "getset_descriptor.__get__",.builtin "object.__class__")):=(looks_takesIn X C.tk).andThen .now
  exact (looks_findIn X C.at_).andThen ((looks_specialIn X C.sp).andThen (L3.andThen (Looks.tag .now)))
theorem Fx {R:Result→Shared→Prop} {tp:Value} (LT:Looks (model prog w) hh (typeOf (.ref e)) (.ref D)) (X:K.In hh) (C:Fg K D) (q:R (.ok (.ret (.ref D))) ⟨hh,g,d,t,os⟩) :
    codeAny (model prog w) A (.call (.builtin "getset_descriptor.__get__") ⟨[.builtin "object.__class__",.ref e,tp],[]⟩) R ⟨hh,g,d,t,os⟩:=by
  have LS:=looks_mroIn (M:=model prog w) X C.mo
  clear C X
  refine codeAny_call_builtin KF.slot_gs.plain KF.entry_gs (KF.slot_gs.check _ _ _ _ _ _ _ _ KF.type_class (KF.args_gs _ _ (tp)) ?_)
  unfold Builtin.«getset_descriptor.__get__» descrGet;rw [dga_obj];refine wpAny_bind (wpAny_pure ?_)
  unfold descrGetter descrCheckInstance descrNameAndClass isInstance;simp only [KF.owner_class];repeat lk
  refine ⟨Code.quiet_builtin _ (by decide +kernel),codeAny_builtin KF.entry_class ?_⟩;unfold Builtin.«object.__class__» shownTypeOf;(repeat lk);exact q
theorem ux {tk:Tok} {Q:Fin→Shared→Prop} (LT:Looks (model prog w) hh (typeOf (.ref e)) (.ref D)) (X:K.In hh) (C:Fg K D) (h:Q (.done (.ret (.ref D))) ⟨hh,g,d,t,os⟩) :
    wpAny (model prog w) A (Builtin.«object.__getattribute__» ⟨[.ref e,.str "__class__" tk],[]⟩) Q E ⟨hh,g,d,t,os⟩:=by
  unfold Builtin.«object.__getattribute__»
  refine wpAny_bind (m:=slotArgs "__getattribute__" 1 _) (wpAny_pure ?_)
  refine wpAny_bind (m:=Builtin.ObjectAttr.attrName _) (wpAny_pure ?_)
  refine wpAny_bind (LT.at (wpAny_bind ((DW X C).at ?_)))
  unfold Builtin.ObjectAttr.bindTo
  exact wpAny_bind (wpAny_holding (wpAny_call (Fx LT X C (wpAny_pure h))))
theorem uy {Q:Option Value→Shared→Prop} (LT:Looks (model prog w) hh (typeOf (.ref e)) (.ref D)) (X:K.In hh) (C:Fg K D) (h:Q (some (.ref D)) ⟨hh,g,d,t + 1,os⟩) :
    wpAny (model prog w) A (getAttr? (.ref e) "__class__") Q E ⟨hh,g,d,t,os⟩:=by
  have L1:=looks_findIn (M:=model prog w) X C.ga
  have L2:=looks_findIn (M:=model prog w) X C.gt
  have LI:Looks (model prog w) hh (isInstance (.ref e) (.type "BaseException")) true:=LT.andThen (looks_mroIn X C.mb)
  have f3:=PySem.F.attr_ValueError.ga.bind (.ref e)
  have hx2:(Value.builtin "BaseException.__getattribute__" == Value.builtin "object.__getattribute__")=false:=by decide +kernel
  unfold getAttr? getAttrBy? getAttrBy
  refine wpAny_bind (wpAny_mkText (wpAny_bind (wpAny_attempt (wpAny_holding (wpAny_bind (LT.at (wpAny_bind (L1.at ?_))))))))
  dsimp only
  rw [if_neg (by rw [hx2];simp)]
  unfold getAttrByItsOwn hookBefore callGetattribute
  refine wpAny_bind ?_
  rw [if_pos (show onTheHeap (Value.ref D)=true from rfl)]
  refine L2.at ?_
  refine wpAny_bind (wpAny_attempt (wpAny_holding ?_))
  rw [if_neg (by simp)]
  unfold boundAndCalled
  rw [f3]
  refine wpAny_bind (wpAny_pure ?_)
  refine wpAny_call (codeAny_call_builtin PySem.F.attr_ValueError.ga.plain PySem.F.entry_bexc_ga ?_)
  have kd:builtinKind "BaseException.__getattribute__"=some .slot:=by decide +kernel
  have spl:splitId "BaseException.__getattribute__"=some ("BaseException","__getattribute__"):=by decide +kernel
  have ha:=PySem.F.args_bexc_ga (.ref e) (.str "__class__" t)
  simp only [checkBuiltinCall,kd,spl]
  refine wpAny_bind (LI.at ?_)
  rw [if_neg (by simp)]
  refine wpAny_of_eq (a:=()) ha ?_
  refine ux (t:=t + 1) LT X C ?_
  show wpAny (model prog w) A (handedOut (.ref D)) _ _ _
  exact wpAny_pure (wpAny_pure h)
def XAt (e D:Addr) (h:Heap):Prop:=∃ o,h.get? e=some o∧o.cls=.ref D
theorem qT {M:Model} {h:Heap} (x:XAt e D h):Looks M h (typeOf (.ref e)) (.ref D):=by
  obtain ⟨o,h1,h2⟩:=x
  rw [← h2]
  exact (Looks.ld h1).andThen .now
theorem vd (C:Fg K D):KitX K (.ref e) (.ref D) (XAt e D) where
  ty:=fun _ _ _ p=>qT p
  it:=fun M h X _=>by
    have c:=C.cl
    unfold clsIn at c
    split at c
    · rename_i ho
      intro _ _ _ _ k q
      unfold isType loadHead
      exact wpAny_bind (wpAny_loadPart (k _ _ (X _ _ ho)) (wpAny_pure q))
    · cases c
  ne:=fun h tp dd its n sl X htp=>by
    have c:=C.cl
    refine Bool.eq_false_iff.mpr fun q=>?_
    cases Value.ref.inj (beq_iff_eq.mp q)
    unfold clsIn at c
    split at c
    · rename_i ho
      cases (X _ _ ho).symm.trans htp
    · cases c
  ca:=fun {_ _ _ _ _ s} X p k=>by
    obtain ⟨h0,g0,d0,t0,o0⟩:=s
    exact uy (qT p) X C k
end
end L2
namespace L2
open PySem PySem.W PySem.Spec PySem.Calls PyProof.Rows
theorem fK.obj {P:Program} {w:World} {H:Hp} {h:Heap} {a:Addr} {o:HO} (x:fK P w H h a o):∃ ob,h.get? a=some ob:=by
  cases o with
  | lst xs=>obtain ⟨_,_,_,_,e⟩:=x;exact ⟨_,e⟩
  | tup xs=>obtain ⟨_,_,_,o,e,_⟩:=x;exact ⟨_,e⟩
  | dK kvs=>obtain ⟨_,_,_,_,o,_,_,e,_⟩:=x;exact ⟨_,e⟩
  | dT kvs=>obtain ⟨_,_,_,_,o,_,_,e,_⟩:=x;exact ⟨_,e⟩
  | set S n=>obtain ⟨o,_,_,_,e,_⟩:=x;exact ⟨_,e⟩
  | ins C dx fs=>obtain ⟨_,_,_,e,_⟩:=x;exact ⟨_,e⟩
  | own y=>exact x
  | xd fs=>obtain ⟨_,⟨_,_,_,e,_⟩,_⟩:=x;exact ⟨_,e⟩
  | rng lo hi=>obtain ⟨_,_,_,e⟩:=x;exact ⟨_,e⟩
  | frz ob u=>obtain ⟨e,_⟩:=x;exact ⟨_,e⟩
  | tbl ps=>exact ⟨_,x⟩
  | met f y=>exact ⟨_,x⟩
  | ext φ=>obtain ⟨_,e,_⟩:=x;exact e
structure Fly (P:Program) (w:World) (B:Heap) (fs:List Addr) (H:Hp) (h0:Heap) (H':Hp) (h:Heap):Prop where
  un:Un fs [] H H' h0 h
  hok:HOk P w H' h
  old:∀ b o,h0.get? b=some o→b ∉ fs→∃ o',B.get? b=some o'∧(H b=none→o'=o)
  trk:∀ b u,H' b=some u→∃ o,h.get? b=some o∧B.get? b=some o
section
variable {P:Program} {w:World} {B h0 h h2:Heap} {fs:List Addr} {H H':Hp}
theorem Fly.on (x:Fly P w B fs H h0 H' h) (sb:B.StaysIn h2) (sm:∀ b∈fs,∀ o,h.get? b=some o→∃ sl,h2.get? b=some { o with slots:=sl }):Fly P w B fs H h0 H' h2:=by
  have kp:∀ b o,h0.get? b=some o→H b=none→b ∉ fs→h2.get? b=some o:=fun b o q n hb=>by
    obtain ⟨o',e,k⟩:=x.old b o q hb
    rw [← k n];exact sb b o' e
  have sl:∀ b o,h0.get? b=some o→H b=none→b∈fs→∃ s,h2.get? b=some { o with slots:=s }:=fun b o q n hb=>by
    obtain ⟨s1,e1⟩:=x.un.slot b o q n hb (by simp)
    obtain ⟨s2,e2⟩:=sm b hb _ e1
    exact ⟨s2,e2⟩
  refine ⟨⟨fun b o q n hb _=>kp b o q n hb,fun b o q n hb _=>sl b o q n hb,x.un.free,fun b o q _=>?_,x.un.tups,x.un.frzs,x.un.tbls⟩,fun a u e=>?_,x.old,fun b u e=>?_⟩
  · by_cases hb:b∈fs
    · obtain ⟨o1,e1⟩:=x.un.there b o q (by simp)
      obtain ⟨s2,e2⟩:=sm b hb _ e1
      exact ⟨_,e2⟩
    · obtain ⟨o',e,_⟩:=x.old b o q hb
      exact ⟨o',sb b o' e⟩
  · refine (x.hok a u e).stay (fun b v hb q=>?_) (fun _ q=>q) fun _ _ q=>q
    have tr:∃ u',H' b=some u':=by
      rcases hb with z | z
      · exact ⟨u,by rw [z];exact e⟩
      · exact ⟨_,z⟩
    obtain ⟨u',e'⟩:=tr
    obtain ⟨o,e1,e2⟩:=x.trk b u' e'
    rw [q] at e1;cases e1
    exact sb b v e2
  · obtain ⟨o,e1,e2⟩:=x.trk b u e
    exact ⟨o,sb b o e2,e2⟩
end
def CXE (P:Program) (w:World):CXT:=fun outer H s E e s'=>∃ (ea t C:Addr) (B:Heap) (H':Hp),e=.ref ea∧s'.os=s.os∧AllBare s'.gens∧Fly P w B (frs outer) H s.heap H' s'.heap∧Heap.FlyingW B outer ea (.ref C) (.ref t) s'.heap ∧
  s.heap.get? ea=none∧H' ea=none∧E (.ref C) (some ea) H'
theorem mq {env:Env} {l:List Env} {L:Addr} (hf:env.frame=some L):frs (env :: l)=L :: frs l:=by unfold frs;rw [List.filterMap_cons,hf]
theorem GX {l:List Env}:∀ env∈l,∀ b,env.frame=some b→b∈frs l:=fun env he b hb=>List.mem_filterMap.mpr ⟨env,he,hb⟩
theorem gJ {B h:Heap} {l:List Env} {h2:Heap} (f:h.FunFrames B l) (sm:h.UpToSlots h2):∀ b∈frs l,∀ o,h.get? b=some o→∃ sl,h2.get? b=some { o with slots:=sl }:=fun b hb o e=>by
  obtain ⟨_,o',e',d⟩:=f.mem hb
  rw [e] at e';cases e'
  exact sm b o e d
section
variable {X:Cx} {pins:List (Addr × Obj)} {σ:St} {H:Hp} {s:Shared} {E:XK}
structure Body (X:Cx):Prop where
  st:X.stack=X.env :: X.outer
  fr:X.env.frame=some X.env.locals
  ex:X.ex=[]
theorem Inv.oM (I:Inv X pins σ H s) (hB:Body X) {b:Addr} {o:Obj} (e:X.s₀.heap.get? b=some o) (hb:b ∉ frs X.outer):b ∉ frs X.stack:=by
  rw [hB.st,mq hB.fr]
  intro hm
  rcases List.mem_cons.mp hm with z | z
  · exact absurd (Heap.lt_size e) (by rw [z];exact Nat.not_lt.mpr I.ok.above)
  · exact hb z
theorem m7 {e C:Addr} {args:List Value} {h':Heap} {F:Value→Shared→Prop} (hB:Body X) (I:Inv X pins σ H s) (hm:Heap.MadeExcOf s.heap h' e (.ref C) args) (hE:H e=none→E (.ref C) (some e) H) :
    wpAny (model X.prog X.w) X.A (leaving X.env (.ref e)) (fun _ s''=>CXE X.prog X.w X.outer X.H₀ X.s₀ E (.ref e) s'') F { s with heap:=h' }:=by
  have hfr:X.A.frames=some (X.env :: X.outer):=by rw [← hB.st];exact I.ok.frames
  have stk:=I.stack
  have hl:s.heap.FunFrames (hideAll s.heap (frs X.stack)) (X.env :: X.outer):=by
    have:=funFrames_hide stk GX
    rw [hB.st] at this ⊢;exact this
  have hne:∀ b o,s.heap.get? b=some o→b ∉ frs X.stack→(hideAll s.heap (frs X.stack)).get? b=some o:=fun b o q n=>hideAll_get _ q n
  have htr:∀ b u,H b=some u→∃ o,s.heap.get? b=some o∧(hideAll s.heap (frs X.stack)).get? b=some o:=fun b u q=>by
    obtain ⟨o,eo⟩:=(I.hok b u q).obj
    exact ⟨o,eo,hne b o eo fun z=>by rw [I.n6 b z] at q;cases q⟩
  have hnx:∀ b:Addr,b ∉ X.ex:=fun b=>by rw [hB.ex];simp
  refine wpAny_leaves_madeW (base:=hideAll s.heap (frs X.stack)) (h:=s.heap) hfr hB.fr (fun b o q=>of_hideAll _ q) hl hm fun h2 t fl _ _ sm=>?_
  have F0:Fly X.prog X.w (hideAll s.heap (frs X.stack)) (frs X.outer) X.H₀ X.s₀.heap H s.heap:=by
    refine ⟨?_,I.hok,fun b o q n=>?_,htr⟩
    · have u:=I.base
      rw [hB.ex] at u
      exact u
    · obtain ⟨o',e'⟩:=I.base.there b o q (hnx b)
      refine ⟨o',hne b o' e' (I.oM hB q n),fun z=>?_⟩
      have:=I.base.keep b o q z n (hnx b)
      rw [e'] at this;exact Option.some.inj this
  have F1:=F0.on (h2:=h2) fl.1 fun b hb o q=>by
    have hb':b∈frs X.stack:=by rw [hB.st,mq hB.fr];exact List.mem_cons_of_mem _ hb
    obtain ⟨_,o',e',d⟩:=stk.mem hb'
    rw [q] at e';cases e'
    exact sm b o (hm.keeps b o q) d
  have he0:H e=none:=by
    cases q:H e with
    | none=>rfl
    | some u =>
      obtain ⟨o,eo⟩:=(I.hok e u q).obj
      rw [hm.new] at eo;cases eo
  refine ⟨e,t,C,_,H,rfl,I.os,I.bare,F1,fl,?_,he0,hE he0⟩
  · cases q:X.s₀.heap.get? e with
    | none=>rfl
    | some o =>
      obtain ⟨o',e'⟩:=I.base.there e o q (hnx e)
      rw [hm.new] at e';cases e'
theorem oV {e:Value} {s':Shared} {F:Value→Shared→Prop} (hB:Body X) (I:Inv X pins σ H s) (h:CXE X.prog X.w X.stack H s E e s') :
    wpAny (model X.prog X.w) X.A (leaving X.env e) (fun _ s''=>CXE X.prog X.w X.outer X.H₀ X.s₀ E e s'') F s':=by
  obtain ⟨ea,t,C,B,H',rfl,os,bare,fl,fy,new,nh,hE⟩:=h
  have hfr:X.A.frames=some (X.env :: X.outer):=by rw [← hB.st];exact I.ok.frames
  have hnx:∀ b:Addr,b ∉ X.ex:=fun b=>by rw [hB.ex];simp
  rw [hB.st] at fy
  refine wpAny_leaves_onW hfr hB.fr fy fun h2 fy2 sm=>?_
  have sub:∀ b,b∈frs X.outer→b∈frs X.stack:=fun b hb=>by rw [hB.st,mq hB.fr];exact List.mem_cons_of_mem _ hb
  have F0:Fly X.prog X.w B (frs X.outer) X.H₀ X.s₀.heap H' s'.heap:=by
    refine ⟨⟨fun b o q n hb _=>?_,fun b o q n hb _=>?_,fun b o q n _=>?_,fun b o q _=>?_,fun b xs q=>fl.un.tups b xs (I.base.tups b xs q),fun b o u q=>fl.un.frzs b o u (I.base.frzs b o u q),fun b ps q=>?_⟩,fl.hok,fun b o q n=>?_,fl.trk⟩
    · have e1:=I.base.keep b o q n hb (hnx b)
      exact fl.un.keep b o e1 (I.base.free b o q n (hnx b)) (I.oM hB q hb) (by simp)
    · obtain ⟨s1,e1⟩:=I.base.slot b o q n hb (hnx b)
      obtain ⟨s2,e2⟩:=fl.un.slot b _ e1 (I.base.free b o q n (hnx b)) (sub b hb) (by simp)
      exact ⟨s2,e2⟩
    · obtain ⟨o',e'⟩:=I.base.there b o q (hnx b)
      exact fl.un.free b o' e' (I.base.free b o q n (hnx b)) (by simp)
    · obtain ⟨o',e'⟩:=I.base.there b o q (hnx b)
      exact fl.un.there b o' e' (by simp)
    · obtain ⟨m1,e1⟩:=I.base.tbls b ps q
      obtain ⟨m2,e2⟩:=fl.un.tbls b _ e1
      exact ⟨m1++m2,by rw [e2,Array.append_assoc]⟩
    · obtain ⟨o',e'⟩:=I.base.there b o q (hnx b)
      obtain ⟨o2,e2,k⟩:=fl.old b o' e' (I.oM hB q n)
      refine ⟨o2,e2,fun z=>?_⟩
      rw [k (I.base.free b o q z (hnx b))]
      have:=I.base.keep b o q z n (hnx b)
      rw [e'] at this;exact Option.some.inj this
  have F1:=F0.on (h2:=h2) fy2.1 fun b hb o q=>by
    obtain ⟨_,o',e',d⟩:=fy.2.2.1.mem (by rw [hB.st] at sub;exact sub b hb)
    rw [q] at e';cases e'
    exact sm b o q d
  refine ⟨ea,t,C,B,H',rfl,os.trans I.os,bare,F1,fy2,?_,nh,hE⟩
  cases q:X.s₀.heap.get? ea with
  | none=>rfl
  | some o =>
    obtain ⟨o',e'⟩:=I.base.there ea o q (hnx ea)
    rw [new] at e';cases e'
end
section
variable {P:Program} {w:World} {K:PySem.W.Frag} {mg:Str→Option Value} {base:Heap} {N:List Str} {qual:Str} {scope:Scope} {f:Addr} {cd:Value} {A:Around} {outer:List Env} {s:Shared} {H:Hp} {E:XK}
theorem oW {CX:CXT}:Body (ur CX P w K mg base N qual scope f cd A outer s H E):=⟨rfl,rfl,rfl⟩
theorem Gm:Passes (CXE P w) (ur (CXE P w) P w K mg base N qual scope f cd A outer s H E) E:=fun _ _ _ _ _ _ I h=>oV oW I h
theorem Fun.okX {x:Str} {st:Stmt} {fd:FuncData} {ps:List Str} {k:Nat} {sp:Sp} (F:Fun K x qual st f fd) (S:aL N ps (ak st)) (len:∀ vs H Q E,sp vs H Q E→vs.length=ps.length)
    (hbody:∀ (cdv:Value) (A:Around) (outer:List Env) (s:Shared) (H:Hp) (vs:List V) (Q:VK) (E:XK),jh k (A.deeper (envOfC qual (ak st) s.heap.objs.size f cdv))→sp vs H Q E →
      ∃ t,PSs (ur (CXE P w) P w K mg base N qual (ak st) f cdv A outer s H E) (ao st) t∧t { nx:=fun _ H'=>Q .non H',rt:=Q } (start N vs) H):cj P w K mg base (CXE P w) (k + 1) f fd ps sp:=by
  obtain ⟨oc,od,kV,doc,pm,an,cdv,ct,osl,rfl,lk,hcd⟩:=F.ex
  exact Ew lk hcd S len fun A outer s H vs Q E hr hsp=>hbody cdv A outer s H vs Q E hr hsp
end
end L2
namespace L2
open PySem PySem.W PySem.Spec PySem.Calls PyProof.Rows
abbrev vD:List Value:=[.type "ValueError",.type "Exception",.type "BaseException",.type "object"]
theorem Ey {K:Frag} {h:Heap} {C:Addr} (X:K.In h) (q:excIn K C vD "ValueError.__new__"=true) :
    ∃ bm N nm qn bs hdct sn sub ab col dd k0 k1 k2 k3 k5 mN,h.get? C=some (excClassObj nm qn C N bs bm hdct sn sub ab col dd k0 k1 k2 k3 k5 "ValueError.__new__")∧h.Ns N mN∧mN "__init__"=none∧OwnTail h vD bm:=by
  unfold excIn at q
  split at q
  · rename_i d1 c1 s1 look
    split at q
    · rename_i C1 bm1 a0 a1 a2 a3 n1 a5 m1 l1
      simp only [Bool.and_eq_true,beq_iff_eq,Bool.not_eq_true'] at q
      obtain ⟨⟨⟨⟨⟨e1,e2⟩,e3⟩,e4⟩,e5⟩,e6⟩:=q
      subst e1 e2
      obtain ⟨nm,bs,mro,ns,qn,hd,sn,sub,ab,col,del⟩:=c1
      dsimp only at m1 e3 e5 e6
      subst m1 e3
      have es:s1=#[a0,a1,a2,a3,some (.builtin "ValueError.__new__"),a5]:=by cases s1;simp only at l1;rw [l1]
      subst es
      exact ⟨bm1,ns,nm,qn,bs,hd,sn,sub,ab,col,d1,a0,a1,a2,a3,a5,_,X _ _ look,Heap.Ns.of_isNs (isNs_of_in X e5),nsMap_none_of_in X e5 e6,tail_of_in X e4⟩
    · cases q
  · cases q
def FN (E:XK) (C:Addr) (ta:TA):TS:=fun _ σ H=>ta σ H fun vs H1=>vs.length≤sizeLine∧∀ e,H1 e=none→E (.ref C) (some e) H1
section
variable {X:Cx} {E:XK} {x:Str} {C:Addr} {np cpos pos:Pos} {e0:Expr} {ta:TA}
theorem pW (hB:Body X) (hc:X.calm=true) (hx:∀ e s',wpAny (model X.prog X.w) X.A (leaving X.env e) (fun _ s''=>CXE X.prog X.w X.outer X.H₀ X.s₀ E e s'') (fun e s''=>CXE X.prog X.w X.outer X.H₀ X.s₀ E e s'') s'→X.xe e s')
    (hg:Gl X x) (hm:X.mg x=some (.ref C)) (hq:excIn X.K C vD "ValueError.__new__"=true) (ha:PA X [e0] ta) (he:starEach [e0] X.env=[(false,eval e0 X.env)]:=by rfl) (hd:(x == ("__debug__":Str))=false:=by decide) :
    PS X (.Raise (some (.Call (.Name x np) [e0] [] cpos)) none pos) (FN E C ta):=by
  intro pins s σ H D I h
  obtain ⟨bm,Nn,nm,qn,bs,hdct,sn,sub,ab,col,dd,k0,k1,k2,k3,k5,mN,hC,hN,hni,TL⟩:=Ey I.ok.mod.kin hq
  refine wpAny_Raise_call_subU (C:=C) (nm:=nm) (q:=qn) (N:=Nn) (bs:=bs) (bm:=bm) (hdct:=hdct) (sn:=sn) (sub:=sub) (ab:=ab) (col:=col) (dd:=dd) (k0:=k0) (k1:=k1) (k2:=k2) (k3:=k3) (k5:=k5) (mN:=mN) (newId:="ValueError.__new__")
    PySem.F.excBase_ValueError PySem.F.excBase_ValueError.hasB PySem.F.excBase_ValueError (TL.hasType PySem.F.excBase_ValueError.hasBase) (I.ok.hd hc) (by rw [he];rfl) hni ?_
  refine jT I hg hm ⟨rfl,?_⟩ hd
  have a:=ha cpos pins s σ H _ I h
  rw [he] at a ⊢
  refine Calls.evalArgs_plain (wpAny_mono a (fun us s1 ⟨vs,H1,I1,r1,hz,q1⟩=>?_) fun _ _ z=>z)
  exact ⟨rfl,by show us.length≤_;rw [← r1.length];exact hz,I1.bk _ _ hC,hN.keeps I1.bk,TL.keeps I1.bk,fun h' e mk=>hx _ _ (m7 hB I1 mk (q1 e))⟩
end
end L2
namespace L2
open PySem PySem.W PySem.Spec PySem.Calls PyProof.Rows
def XS (X:Cx) (pins:List (Addr × Obj)) (Ex:St→XK) (ev:Value) (s':Shared):Prop:=∃ σ H s,Inv X pins σ H s∧CXE X.prog X.w X.stack H s (Ex σ) ev s'
def PEx (X:Cx) (e:Expr) (t:St→Hp→VK→XK→Prop):Prop :=
  ∀ (pins:List (Addr × Obj)) (s:Shared) (σ:St) (H:Hp) (Q:VK) (Ex:St→XK),Inv X pins σ H s→t σ H Q (Ex σ)→wpAny (model X.prog X.w) X.A (eval e X.env) (EP X pins σ Q) (XS X pins Ex) s
abbrev TX:=Ends→(St→XK)→St→Hp→Prop
def PSx (X:Cx) (st:Stmt) (t:TX):Prop :=
  ∀ (pins:List (Addr × Obj)) (s:Shared) (σ:St) (H:Hp) (D:Ends) (Ex:St→XK),Inv X pins σ H s→t D Ex σ H→wpAny (model X.prog X.w) X.A (exec st X.env) (SP X pins D) (XS X pins Ex) s
def Qu (X:Cx) (sts:List Stmt) (t:TX):Prop :=
  ∀ (pins:List (Addr × Obj)) (s:Shared) (σ:St) (H:Hp) (D:Ends) (Ex:St→XK),Inv X pins σ H s→t D Ex σ H→wpAny (model X.prog X.w) X.A (execs sts X.env) (SP X pins D) (XS X pins Ex) s
section
variable {X:Cx} {k:Nat} {f:Addr} {fd:FuncData} {ps:List Str} {sp:Sp} {dvs:List V} {ds:List Value} {x:Str} {p pos:Pos} {e:Expr} {es:List Expr} {t:TA}
theorem Fw {i:Nat} {te:St→Hp→VK→XK→Prop} {pos pos':Pos} (hN:X.N.Nodup) (hi:X.N[i]?=some x) (hx:Loc X.env.scope x) (he:PEx X e te) (hs:swapsWith e (some (.Name x pos')) pos.line X.env=pure false:=by rfl) (hf:X.fn x=true∨X.env.scope.names.lookup x=some .local:=by first | exact .inl rfl | exact .inr rfl | assumption) :
    PSx X (.Assign [.Name x pos'] e pos) (fun D Ex σ H=>te σ H (fun v H1=>D.nx (σ.set i (some v)) H1) (Ex σ)):=by
  intro pins s σ H D Ex I h
  refine wpAny_Assign_Name (wpAny_mono (he pins s σ H _ Ex I h) (fun v s1 ⟨y,H1,I1,r1,q1⟩=>?_) fun _ _ z=>z) hs
  exact jx I1 hN hi hx r1 (fun s2 I2=>⟨_,H1,I2,q1⟩) hf
theorem DQ {st:Stmt} {tx:TX} (h:PSx X st tx):Qu X [st] tx:=by
  intro pins s σ H D Ex I hq
  refine wpAny_execs_cons (wpAny_mono (h pins s σ H D Ex I hq) (fun fl s1 q=>?_) fun _ _ z=>z)
  cases fl with
  | next=>exact wpAny_execs_nil q
  | ret v=>exact q
  | brk=>exact q
  | cont=>exact q
end
section
variable {X:Cx} {pins:List (Addr × Obj)} {σ:St} {H:Hp} {s:Shared}
def qD (X:Cx) (e:Addr):Cx:={ X with A:=X.A.mark (some (.ref e)),calm:=false,xe:=fun _ _=>False }
theorem Inv.sup (I:Inv X pins σ H s) (e:Addr):Inv (qD X e) pins σ H s :=
  ⟨⟨I.ok.mod,I.ok.kind,I.ok.glob,I.ok.blt,I.ok.above,I.ok.inj,I.ok.has,I.ok.cab,fun z=>(by cases z),I.ok.frames,I.ok.stk,I.ok.exf,I.ok.bs,I.ok.bsz,I.ok.noex,I.ok.exfs,I.ok.qg,I.ok.frf⟩,I.os,I.bare,I.base,I.loc,I.cell,I.free,I.freeC,I.pin,I.hok,I.len⟩
theorem Inv.MF {e:Addr} (hc:X.calm=true→X.A.handled=none) (I:Inv (qD X e) pins σ H s):Inv X pins σ H s :=
  ⟨⟨I.ok.mod,I.ok.kind,I.ok.glob,I.ok.blt,I.ok.above,I.ok.inj,I.ok.has,I.ok.cab,hc,I.ok.frames,I.ok.stk,I.ok.exf,I.ok.bs,I.ok.bsz,I.ok.noex,I.ok.exfs,I.ok.qg,I.ok.frf⟩,I.os,I.bare,I.base,I.loc,I.cell,I.free,I.freeC,I.pin,I.hok,I.len⟩
theorem Inv.Mq {a:Addr} {o:HO} (I:Inv X pins σ H s) (hn:H a=none) (hL:a≠X.env.locals) (h0:X.s₀.heap.get? a=none) (hc:∀ x c,X.env.cells.lookup x=some c→c≠a) (hp:∀ p∈X.pn++pins,p.1≠a)
    (new:fK X.prog X.w (upd H a o) s.heap a o):Inv X pins σ (upd H a o) s:=by
  have ne:∀ b u,H b=some u→b≠a:=fun b u e=>cB e hn
  refine ⟨I.ok,I.os,I.bare,⟨I.base.keep,I.base.slot,fun b ob e n hx=>?_,I.base.there,fun b xs e=>?_,fun b ob xs e=>?_,fun b ps e=>?_⟩,I.loc,I.cell,?_,fun x c e=>?_,fun p hq=>?_,fun b u e=>?_,I.len⟩
  · rw [aY fun z=>by rw [z,h0] at e;cases e];exact I.base.free b ob e n hx
  · have:=I.base.tups b xs e;rw [aY (ne b _ this)];exact this
  · have:=I.base.frzs b ob xs e;rw [aY (ne b _ this)];exact this
  · obtain ⟨m,e1⟩:=I.base.tbls b ps e;exact ⟨m,by rw [aY (ne b _ e1)];exact e1⟩
  · rw [aY hL.symm];exact I.free
  · rw [aY (hc x c e)];exact I.freeC x c e
  · obtain ⟨e1,n,r⟩:=I.pin p hq;exact ⟨e1,by rw [aY (hp p hq)];exact n,r⟩
  · by_cases hb:b=a
    · subst hb;rw [bI] at e;cases e;exact new
    · rw [aY hb] at e
      exact (I.hok b u e).stay (fun _ _ _ q=>q) (fun c q=>by rw [aY (ne c _ q)];exact q) fun c xs q=>by rw [aY (ne c _ q)];exact q
theorem Inv.Fy {i:Nat} {n:Str} {h':Heap} {v:Option Value} {m:Str→Option Value} {t':Nat} (I:Inv X pins σ H s) (hN:X.N.Nodup) (hi:X.N[i]?=some n) (hs:Heap.SameBut X.env.locals s.heap h') (hm:s.heap.Ns X.env.locals m)
    (hl:∀ (j:Nat) (x:Str) (w:V),X.N[j]?=some x→σ[j]?=some (some w)→Vis X.env.scope x→∃ u,RelV w u∧Look X.env s.heap m x u) (hn:h'.Ns X.env.locals (fun x=>if x=n then v else m x)):Inv X pins (σ.set i none) H { s with heap:=h',toks:=t' }:=by
  have kp:∀ b o,b≠X.env.locals→s.heap.get? b=some o→h'.get? b=some o:=fun b o hb e=>(hs.2 b hb).trans e
  have old:∀ b o,X.s₀.heap.get? b=some o→b≠X.env.locals:=fun b o e=>Nat.ne_of_lt (Nat.lt_of_lt_of_le (Heap.lt_size e) I.ok.above)
  refine ⟨I.ok,I.os,I.bare,⟨fun b o e n hb hx=>kp b o (old b o e) (I.base.keep b o e n hb hx),fun b o e n hb hx=>?_,I.base.free,fun b o e hx=>?_,I.base.tups,I.base.frzs,I.base.tbls⟩,⟨_,hn,fun j x w e1 e2 e3=>?_⟩,fun x c e=>?_,I.free,I.freeC,fun p hp=>?_,fun b u e=>?_,by rw [List.length_set];exact I.len⟩
  · obtain ⟨sl,e1⟩:=I.base.slot b o e n hb hx
    exact ⟨sl,kp b _ (old b o e) e1⟩
  · obtain ⟨o',e1⟩:=I.base.there b o e hx
    exact ⟨o',kp b _ (old b o e) e1⟩
  · by_cases hj:j=i
    · subst hj
      have hj':j<σ.length:=by
        have:=(List.getElem?_eq_some_iff.mp e2).1
        rw [List.length_set] at this;exact this
      rw [List.getElem?_set_self hj'] at e2;cases e2
    · rw [List.getElem?_set_ne (Ne.symm hj)] at e2
      have hx:x≠n:=fun z=>by
        subst z
        obtain ⟨a1,a2⟩:=List.getElem?_eq_some_iff.mp e1
        obtain ⟨b1,b2⟩:=List.getElem?_eq_some_iff.mp hi
        exact hj ((List.getElem_inj hN).mp (a2.trans b2.symm))
      obtain ⟨u,r,l⟩:=hl j x w e1 e2 e3
      refine ⟨u,r,?_⟩
      rcases l with ⟨k,z⟩ | ⟨k,c,ec,z⟩
      · exact .inl ⟨k,by dsimp only;rw [if_neg hx];exact z⟩
      · refine .inr ⟨k,c,ec,?_⟩
        obtain ⟨o,ho,hd⟩:=z
        exact ⟨o,kp c o (I.cne x c ec) ho,hd⟩
  · obtain ⟨w,o,ho,hd⟩:=I.cell x c e
    exact ⟨w,o,kp c o (I.cne x c e) ho,hd⟩
  · obtain ⟨e1,n1,l1,r⟩:=I.pin p hp
    exact ⟨kp _ _ l1 e1,n1,l1,r⟩
  · refine (I.hok b u e).stay (fun c w hc q=>kp c w (fun z=>?_) q) (fun _ q=>q) fun _ _ q=>q
    rcases hc with y | y
    · rw [← y,z,I.free] at e;cases e
    · rw [z,I.free] at y;cases y
end
end L2
namespace L2
open PySem PySem.W PySem.Spec PySem.Calls PyProof.Rows
def Mz (K:PySem.W.Frag) (Bc:Value) (i:Nat) (th:TS) (D:Ends):St→XK:=fun σ cls oe H=>∃ C e,cls=.ref C∧oe=some e∧exmOne K (.ref C) Bc=some true ∧
  th { nx:=fun σ' H'=>D.nx (σ'.set i none) H',rt:=D.rt,bk:=fun σ' H'=>D.bk (σ'.set i none) H',ct:=fun σ' H'=>D.ct (σ'.set i none) H' } (σ.set i (some (.ref e))) (upd H e (.ext (XAt e C)))
def tTry (K:PySem.W.Frag) (Bc:Value) (i:Nat) (tb:TX) (th:TS):TS:=fun D σ H=>tb D (Mz K Bc i th D) σ H
section
variable {X:Cx} {body suite:List Stmt} {b0:Stmt} {x n:Str} {Ba:Addr} {i:Nat} {tb:TX} {th:TS} {np hpos pos:Pos}
theorem Gd (hB:Body X) (hc:X.calm=true) (hb:Qu X body tb) (hg:Gl X x) (hm:X.mg x=some (.ref Ba)) (hN:X.N.Nodup) (hi:X.N[i]?=some n) (hlo:X.env.scope.names.lookup n=some .local)
    (hs:∀ e:Addr,PSs (qD X e) (b0 :: suite) th) (hd:(x == ("__debug__":Str))=false:=by decide) :
    PS X (.Try body [.ExceptHandler (some (.Name x np)) (some n) (b0 :: suite) hpos] [] [] pos) (tTry X.K (.ref Ba) i tb th):=by
  intro pins s σ H D I h
  refine wpAny_Try_except (wpAny_mono (hb pins s σ H D _ I h) (fun fl s1 q=>?_) fun ev s1 q=>?_)
  · cases fl with
    | next=>exact wpAny_execs_nil q
    | ret v=>exact q
    | brk=>exact q
    | cont=>exact q
  obtain ⟨σ1,H1,s0,I1,ea,t,C,B,H',rfl,os,bare,fl,fy,new,nh,C',e',ec,ee,hx,ht⟩:=q
  cases ec
  cases ee
  have hfr:X.A.frames=some (X.env :: X.outer):=by rw [← hB.st];exact I1.ok.frames
  have fy0:Heap.FlyingW B (X.env :: X.outer) ea (.ref C) (.ref t) s1.heap:=by rw [← hB.st];exact fy
  refine wpAny_looks_onW hfr hB.fr fy0 fun h4 hd4 sm4=>?_
  have fl4:=fl.on (h2:=h4) hd4.1 (gJ fy.2.2.1 sm4)
  refine wpAny_landsW hd4 fun h5 fy5 sm5=>?_
  have fl5:=fl4.on (h2:=h5) fy5.1 (by rw [hB.st];exact gJ hd4.2.2.1 sm5)
  have I5:Inv X pins σ1 H' { s1 with heap:=h5 }:=I1.call' (s':={ s1 with heap:=h5 }) (ch:=[]) os fl5.un fl5.hok bare (fun b z=>nomatch z)
  have hxe:XAt ea C h5:=by obtain ⟨ob,h1,h2⟩:=fy5.there;exact ⟨ob,h1,h2⟩
  refine wpAny_handleBy_cons (codeAny_handlers_test ?_) (by intro q;cases q)
  refine jT (X:=qD X ea) (I5.sup ea) hg hm ?_ hd
  refine (exm_one (K:=X.K) I5.kIn (qT hxe) hx).at ?_
  show codeAny _ _ _ _ _
  refine codeAny_handlers_suite_as ?_
  refine lands_againW fy5 fun h6 fy6 sm6=>?_
  have fl6:=fl5.on (h2:=h6) fy6.1 (by rw [hB.st];exact gJ fy5.2.2.1 sm6)
  have I6:Inv X pins σ1 H' { s1 with heap:=h6 }:=I1.call' (s':={ s1 with heap:=h6 }) (ch:=[]) os fl6.un fl6.hok bare (fun b z=>nomatch z)
  have hxe6:XAt ea C h6:=by obtain ⟨ob,h1,h2⟩:=fy6.there;exact ⟨ob,h1,h2⟩
  have newS:X.s₀.heap.get? ea=none:=by
    cases q:X.s₀.heap.get? ea with
    | none=>rfl
    | some o =>
      obtain ⟨o',e'⟩:=I1.base.there ea o q (by rw [hB.ex];simp)
      rw [new] at e';cases e'
  have I7:Inv X pins σ1 (upd H' ea (.ext (XAt ea C))) { s1 with heap:=h6 }:=by
    refine I6.Mq nh (fun z=>?_) newS (fun y c e z=>?_) (fun p hp z=>?_) ⟨hxe6,(by obtain ⟨o,h1,_⟩:=hxe6;exact ⟨o,h1⟩),fun g1 g2 p k=>?_⟩
    · obtain ⟨m,⟨o,_,_,ho,_⟩,_⟩:=I1.loc
      rw [← z,new] at ho;cases ho
    · obtain ⟨v,o,ho,_⟩:=I1.cell y c e
      rw [z,new] at ho;cases ho
    · have ho:=(I1.pin p hp).1
      rw [z,new] at ho;cases ho
    · obtain ⟨o,h1,h2⟩:=p
      exact ⟨o,k o h1,h2⟩
  refine jx (X:=qD X ea) (I7.sup ea) hN hi (.inl hlo) (v:=.ref ea) rfl (fun s8 I8=>?_) (.inr hlo)
  refine wpAny_mono (hs ea pins s8 _ _ _ I8 ht) (fun f s9 q=>?_) fun _ _ z=>z.elim
  have out:∀ {σ9:St} {H9:Hp} (J:Inv (qD X ea) pins σ9 H9 s9) (Z:Shared→Prop),(∀ s10,Inv X pins (σ9.set i none) H9 s10→Z s10)→wpAny (model X.prog X.w) X.A (do bindName X.env n .none;unbindBehindTheSuite X.env n hpos) (fun _ s10=>Z s10) X.xe s9:=fun {σ9 H9} J Z k=>by
    have J':Inv X pins σ9 H9 s9:=J.MF fun hc=>I1.ok.hd hc
    obtain ⟨m,hn,hl⟩:=id J'.loc
    exact wpAny_nameGoes_keeps hlo hn (by rw [J'.ok.kind];rfl) fun h' v hn' hsb=>k _ (J'.Fy hN hi hsb hn hl hn')
  cases f with
  | next=>obtain ⟨σ9,H9,J,q⟩:=q;exact out J _ fun s10 J10=>⟨_,H9,J10,q⟩
  | brk=>obtain ⟨σ9,H9,J,q⟩:=q;exact out J _ fun s10 J10=>⟨_,H9,J10,q⟩
  | cont=>obtain ⟨σ9,H9,J,q⟩:=q;exact out J _ fun s10 J10=>⟨_,H9,J10,q⟩
  | ret u=>obtain ⟨v,σ9,H9,J,r,q⟩:=q;exact out J _ fun s10 J10=>⟨v,_,H9,J10,r,q⟩
def ClsV (c:V) (t:Value):Prop:=(∃ T,c=.ty T∧t=.type T)∨∃ a,c=.ref a∧t=.ref a
theorem fX:j5 X (.builtin "isinstance") (fun xs H Q=>∃ (e D:Addr) (c:V) (t:Value) (b:Bool),xs=[.ref e,c]∧H e=some (.ext (XAt e D))∧Fg X.K D∧ClsV c t∧PySem.W.kitOne X.K (.ref D) t=some b∧Q (.bl b) H):=by
  intro pins s σ H xs us Q I r h
  obtain ⟨e,D,c,t,b,rfl,he,hD,hc,hk,q⟩:=h
  obtain ⟨u,v,rfl,ru,rv⟩:=vals2 r
  cases ru
  have ev:v=t:=by
    rcases hc with ⟨T,rfl,rfl⟩ | ⟨a,rfl,rfl⟩
    · exact rv
    · exact rv
  subst ev
  obtain ⟨hx,_,_⟩:=(show fK X.prog X.w H s.heap e (.ext (XAt e D)) from I.hok e _ he)
  exact PySem.W.kia_one (vd hD) I.kIn hx hk (fun z=>nomatch z) fun tk=>⟨.bl b,H,I.tok tk,rfl,q⟩
end
theorem Fd:bootBuiltins "ValueError"=some (.type "ValueError"):=by kernel_rfl
theorem Nf {X:Cx}:Passes (CXE X.prog X.w) X E0:=fun _ _ _ _ _ _ _ h=>by
  obtain ⟨_,_,_,_,_,_,_,_,_,_,_,_,hE⟩:=h
  exact hE.elim
theorem sE {X:Cx} {x:Str} {C:Addr} {pos:Pos} (hg:Gl X x) (hm:X.mg x=some (.ref C)) (hd:(x == ("__debug__":Str))=false:=by decide):PE X (.Name x pos) (tC (.ref C)):=eU (v:=.ref C) hg hm rfl hd
structure uq (K:PySem.W.Frag) (mg:Str→Option Value) (x:Str) (C:Addr):Prop where
  m:mg x=some (.ref C)
  q:excIn K C vD "ValueError.__new__"=true
  x:Fg K C
end L2
namespace L2
open PySem PySem.Spec PyProof.Rows
end L2
namespace L2
open PySem PySem.Spec PyProof.Rows
end L2
namespace L2
open PySem PySem.Spec PyProof.Rows
structure Iv (P:Prop):Prop where
  t:True
  p:P
theorem ifT {c:Bool} {A B:Prop} (h:c=true) (a:A):if c=true then A else B:=by rw [if_pos h];exact a
theorem ifF {c:Bool} {A B:Prop} (h:c=false) (b:B):if c=true then A else B:=by rw [if_neg (by rw [h];exact Bool.false_ne_true)];exact b
theorem ifB {c:Bool} {A B:Prop} (h1:c=true→A) (h2:c=false→B):if c=true then A else B:=by
  cases c with
  | true=>exact ifT rfl (h1 rfl)
  | false=>exact ifF rfl (h2 rfl)
theorem Ez (x y:Int):decide (V.int x=V.int y)=decide (x=y):=by
  by_cases h:x=y
  · simp [h]
  · have:¬ V.int x=V.int y:=fun e=>h (by cases e;rfl)
    simp [h,this]
theorem cW {ns:List Int} {i:Int} (h0:0≤i) (h1:i<(ns.length:Int)):atI (ns.map V.int) i=some (V.int (ns.getD i.toNat 0)):=by
  refine gZ h0 ?_
  rw [List.getD_eq_getElem?_getD,List.getElem?_eq_getElem (by omega)];rfl
theorem jW {ns:List Int} {k:Nat} (h:k<ns.length):ns[k]?=some (ns.getD k 0):=by
  rw [List.getD_eq_getElem?_getD,List.getElem?_eq_getElem h];rfl
theorem Nj {n:Nat} {i:Int} (h0:0≤i) (h1:i<(n:Int)):ixN n i=some i.toNat:=by
  unfold ixN;rw [if_pos h0,if_pos h1]
theorem cQ.mo {T:eZ} {K:PySem.W.Frag} {H H':Hp} {vs:List V} {ds:List PyData} (h:cQ K H vs ds) (e:bD T H H'):cQ K H' vs ds:=cQ.qK e h
theorem SqL.mo {T:eZ} {K:PySem.W.Frag} {H H':Hp} {a:Addr} {xs:List V} (h:SqL K H a xs) (e:bD T H H'):SqL K H' a xs:=e.seq h
theorem SqT.mo {T:eZ} {K:PySem.W.Frag} {H H':Hp} {a:Addr} {xs:List V} (h:SqT K H a xs) (e:bD T H H'):SqT K H' a xs:=e.Qd h
section
variable {T:eZ} {H0 H1 H H':Hp} {L L':List (Addr × HO)} {a l p:Addr} {o o':HO} {xs:List V} {K:PySem.W.Frag}
theorem Ow.frz (O:Ow T H0 H ((p,o) :: L)):∃ Hn,Ow T Hn H L∧bD T H0 Hn∧Hn p=some o:=by
  obtain ⟨Hn,On,sn,kn⟩:=O.tail.reb
  refine ⟨Hn,On,sn,kn p o (O.get 0) fun q hq z=>?_⟩
  have nd:=O.nd
  rw [List.map_cons,List.nodup_cons] at nd
  exact nd.1 (List.mem_map.mpr ⟨q,hq,z⟩)
end
def dTup (ns:List Int):PyData:=.tuple (ns.map PyData.int)
def PJ (rs:List (List Int)):PyData:=.list (rs.map dTup)
section
variable {K:PySem.W.Frag} {H:Hp} {v:V} {a:Addr} {ns:List Int} {rs:List (List Int)}
theorem Den.tup (h:SqT K H a (ns.map V.int)):Den K H (.ref a) (dTup ns):=.tuple h (cQ.ints ns)
theorem Den.qX (h:Den K H v (dTup ns)):∃ a,v=.ref a∧SqT K H a (ns.map V.int):=by
  cases h with
  | tuple h hs=>exact ⟨_,rfl,by rw [← cQ.int_inv hs];exact h⟩
theorem Sh.tup (n:Nat) (ns:List Int):Sh (n + 1) (dTup ns):=.tuple fun d hd=>by
  obtain ⟨i,_,rfl⟩:=List.mem_map.mp hd
  exact .int n i
theorem Sh.tups (n:Nat) (rs:List (List Int)):Sh (n + 2) (PJ rs):=.list fun d hd=>by
  obtain ⟨i,_,rfl⟩:=List.mem_map.mp hd
  exact .tup n i
end
end L2
namespace L2
open PySem PySem.Spec PyProof.Rows
section
variable {A B:Prop}
theorem ifD {p:Prop} [Decidable p] (h1:p→A) (h2:¬ p→B):if decide p=true then A else B:=ifB (fun h=>h1 (of_decide_eq_true h)) fun h=>h2 (of_decide_eq_false h)
theorem ifI {x y:Int} (h1:x=y→A) (h2:¬ x=y→B):if decide (V.int x=V.int y)=true then A else B:=by rw [Ez];exact ifD h1 h2
theorem ifN {c:Bool} (h:if c=true then B else A):if (!c)=true then A else B:=by cases c <;> simpa using h
end
structure Lic where
  day:Int
  start:Int
  back:Int
  most:Int
def iU (l:Lic):PyData:=dTup [l.day,l.start,l.back,l.most]
def PK (ls:List Lic):PyData:=.list (ls.map iU)
abbrev mH (l:Lic):List V:=[.int l.day,.int l.start,.int l.back,.int l.most]
section
variable {K:PySem.W.Frag} {H:Hp} {v:V} {a:Addr} {ls:List Lic} {l:Lic} {xs:List V} {k:Nat}
theorem Den.lic (h:SqT K H a (mH l)):Den K H (.ref a) (iU l):=Den.tup (ns:=[l.day,l.start,l.back,l.most]) h
theorem Den.Er (h:Den K H v (iU l)):∃ a,v=.ref a∧SqT K H a (mH l):=h.qX
theorem cQ.qb (h:cQ K H xs (ls.map iU)) (hk:ls[k]?=some l):∃ a,xs[k]?=some (.ref a)∧SqT K H a (mH l):=by
  obtain ⟨v,h1,h2⟩:=h.get (i:=k) (d:=iU l) (by rw [List.getElem?_map,hk];rfl)
  obtain ⟨a,rfl,hT⟩:=h2.Er
  exact ⟨a,h1,hT⟩
theorem Sh.lic (n:Nat) (l:Lic):Sh (n + 1) (iU l):=Sh.tup n _
theorem Sh.roll (n:Nat) (ls:List Lic):Sh (n + 2) (PK ls):=.list fun d hd=>by
  obtain ⟨i,_,rfl⟩:=List.mem_map.mp hd
  exact .lic n i
end
theorem EY (xs:List V) (i j:Nat):qm xs (some (i:Int)) (some (j:Int))=(xs.drop i).take (j - i):=by
  unfold qm
  rw [HT.oA,HT.oA]
  refine List.ext_getElem? fun k=>?_
  simp only [List.getElem?_take,List.getElem?_drop]
  by_cases h1:k<j - i
  · rw [if_pos h1]
    by_cases h2:i + k<xs.length
    · rw [if_pos (by omega),show min i xs.length=i by omega]
    · rw [List.getElem?_eq_none (l:=xs) (i:=i + k) (by omega)]
      split
      · exact List.getElem?_eq_none (by omega)
      · rfl
  · rw [if_neg h1]
    split
    · rename_i h3
      omega
    · rfl
theorem Mj (ns:List Int) (i j:Nat):qm (ns.map V.int) (some (i:Int)) (some (j:Int))=((ns.drop i).take (j - i)).map V.int:=by
  rw [EY,List.map_take,List.map_drop]
theorem jB (ns:List Int) (i:Nat):qm (ns.map V.int) (some (i:Int)) none=(ns.drop i).map V.int:=by
  unfold qm
  rw [HT.oA,List.length_map,show HT.sIx ns.length ns.length none=ns.length from rfl,List.map_drop]
  by_cases h:i≤ns.length
  · rw [Nat.min_eq_left h,List.take_of_length_le (by rw [List.length_drop,List.length_map];omega)]
  · rw [Nat.min_eq_right (by omega),List.drop_of_length_le (l:=ns.map V.int) (i:=i) (by rw [List.length_map];omega),Nat.sub_self,List.take_zero]
end L2
namespace L2
open PySem PySem.Spec PyProof.Rows
end L2
namespace L2
open PySem PySem.Spec PyProof.Rows
end L2
namespace L2
open PySem PySem.Spec PyProof.Rows
end L2
namespace L2
open PySem PySem.Spec PyProof.Rows
theorem lB {α:Type}:∀ {L:List α} {k:Nat} {p:α},L[k]?=some p→(p :: L.eraseIdx k).Perm L
  | [],_,_,h=>by simp at h
  | a :: L,0,p,h=>by
    have e:a=p:=by simpa using h
    subst e;exact List.Perm.refl _
  | a :: L,k + 1,p,h=>by
    have h':L[k]?=some p:=by simpa using h
    rw [List.eraseIdx_cons_succ]
    exact (List.Perm.swap a p _).trans ((lB h').cons a)
section
variable {T:eZ} {H0 H:Hp} {L:List (Addr × HO)} {p:Addr} {o:HO}
theorem Ow.pull (O:Ow T H0 H L) (k:Nat) (h:L[k]?=some (p,o):=by rfl):Ow T H0 H ((p,o) :: L.eraseIdx k):=O.perm (lB h)
theorem Ow.kh (O:Ow T H0 H L) (k:Nat) (h:L[k]?=some (p,o):=by rfl):∃ Hn,Ow T Hn H (L.eraseIdx k)∧bD T H0 Hn∧Hn p=some o:=(O.pull k h).frz
theorem Ow.del (O:Ow T H0 H L) (k:Nat):Ow T H0 H (L.eraseIdx k):=O.sub (List.eraseIdx_sublist L k)
end
end L2
namespace L2
open PySem PySem.Spec PyProof.Rows
end L2
namespace L2
open PySem PySem.Spec PyProof.Rows
end L2
namespace L2
open PySem PySem.W PySem.Spec PyProof.Rows
end L2
namespace L2
open PySem PySem.Spec PyProof.Rows
abbrev KT (H:Hp):List (List Key × V)→List (List Key × Addr × Value)→Prop:=Paired fun p q=>p.1=q.1∧H q.2.1=some (.tup (p.1.map kV))∧RelV p.2 q.2.2
abbrev VV:List (V × V)→List (Value × Value)→Prop:=Paired fun p q=>RelV p.1 q.1∧RelV p.2 q.2
end L2
namespace L2
open PySem PySem.W PySem.Spec PyProof.Rows
end L2
namespace L2
open PySem PySem.W PySem.Spec PyProof.Rows
section
variable {X:Cx}
abbrev oLic (l:Lic):HO:=.tup (mH l)
abbrev oInts (w:List Int):HO:=.lst (w.map V.int)
theorem vA {K:PySem.W.Frag} {a:Addr} {xs:List V} {acc:Addr} {g:TG} {tc:TT} {te:TE} {τ:St} {H1:Hp} {Q:Hp→Prop} (Pv:Nat→St→Hp→Prop) (h0:Pv 0 τ (upd H1 acc (.lst []))) (hl:∀ i τ H,i≤xs.length→Pv i τ H→SqT K H a xs)
    (hs:∀ i x τ H,xs[i]?=some x→Pv i τ H→g x τ H fun τ4 H4=>tc τ4 H4 fun b H5=>if b=true then te τ4 H5 fun y H6=>∃ ys,H6 acc=some (.lst ys)∧ys.length<sizeLine∧Pv (i + 1) τ4 (upd H6 acc (.lst (ys++[y]))) else Pv (i + 1) τ4 H5)
    (hd:∀ τ H,Pv xs.length τ H→Q H):mQ (Itt K a) acc g tc te τ H1 Q:=by
  refine ⟨fun i m τ H=>m=xs.length - i∧i≤xs.length∧Pv i τ H,⟨xs.length,by simp,Nat.zero_le _,h0⟩,?_⟩
  rintro i m τ H ⟨rfl,hi,p⟩
  have q:=hl i τ H hi p
  by_cases hlt:i<xs.length
  · refine .inr ⟨⟨xs,xs[i],q,by simp [hlt]⟩,Pv (i + 1),fun τ' H' p'=>⟨xs.length - (i + 1),by omega,rfl,hlt,p'⟩,fun x H' y=>?_⟩
    obtain ⟨e,y⟩:=y
    subst e
    exact hs i x τ _ (y xs q) p
  · have e:i=xs.length:=by omega
    subst e
    exact .inl ⟨⟨xs,q,Nat.le_refl _⟩,hd τ H p⟩
end
end L2
namespace L2
open PySem PySem.W PySem.Spec PyProof.Rows
end L2
namespace L2
open PySem PySem.W PySem.Spec PyProof.Rows
end L2
namespace HT
open PySem PyProof.Rows
end HT
namespace L2
open PySem PySem.W PySem.Spec PyProof.Rows
end L2
namespace L2
open PySem PySem.Spec PyProof.Rows
def Its (x:Str):It:=⟨fun i _=>i<x.cps.size,fun i H y H'=>H'=H∧∃ c,x.cps[i]?=some c∧y=.str ⟨#[c]⟩,fun i _=>x.cps.size≤i⟩
theorem uz {P:Program} {w:World} {K:PySem.W.Frag} {tg:Expr} (it:Addr) (x:Str) (t:Tok):Turn P w K tg (Its x) [it] it (fun i h=>h.IsStrIter it "str_ascii_iterator" x t i) where
  mem:=by simp
  obj:=fun i h st b hb=>by
    have e:b=it:=by simpa using hb
    subst e
    obtain ⟨o,e,c,d⟩:=st
    exact ⟨o,e,fun v z=>by rw [d] at z;cases z⟩
  keep:=fun i h h' st k=>let ⟨o,e,r⟩:=st;⟨o,k it (by simp) o e,r⟩
  item:=by
    intro X hP hw hK hc i pins s σ H E I hf st hg
    subst hP hw hK
    obtain ⟨f0,f1,f2,f3,f4,f5⟩:=hf it (by simp)
    have hg:i<x.cps.size:=hg
    have hx:x.cps[i]?=some x.cps[i]:=by simp [hg]
    refine wpAny_pyNext_ascii_item st hx fun h' st' sb=>?_
    have I1:Inv X pins σ H { s with heap:=h',toks:=s.toks + 1 }:=I.turned (fun b o hb e=>(sb.2 b hb).trans e) f0 f1 f3 f4 f5
    obtain ⟨o,e,c,d⟩:=id st'
    exact ⟨_,rfl,vh (s:={ s with heap:=h',toks:=s.toks + 1 }) e c d (by decide) ⟨.str ⟨#[x.cps[i]]⟩,H,I1,⟨_,rfl⟩,⟨rfl,_,hx,rfl⟩,st',fun b hb=>(hf b hb).1⟩⟩
  done:=by
    intro X hP hw hK hc i pins s σ H E I hf st hg
    subst hP hw hK
    obtain ⟨f0,f1,f2,f3,f4,f5⟩:=hf it (by simp)
    have hg:x.cps.size≤i:=hg
    exact wpAny_pyNext_ascii_end (I.ok.hd hc) st (by simp [hg]) fun h' eb=>⟨rfl,I.turned (t':=s.toks) (fun b o hb e=>eb b o hb e) f0 f1 f3 f4 f5⟩
  self:=fun _ _ _ _ _ st h=>wpAny_pyIter_striter_ascii st h
section
variable {X:Cx} {tg:Expr}
def iStr (tl:TE):TI:=fun σ H R=>tl σ H fun v H1=>∃ x,v=.str x∧x.cps.all (·<128)=true∧R (Its x) H1
theorem Gg {l:Expr} {tl:TE} (hl:PE X l tl):PI X tg l (iStr tl):=by
  intro pins s σ H R I h
  refine thn (hl pins s σ H _ I h) fun v s1 ⟨x,H1,I1,r1,q1⟩=>?_
  obtain ⟨z,e,ha,q⟩:=q1
  subst e
  obtain ⟨t,rfl⟩:=r1
  refine wpAny_pyIter_ascii ha ?_
  refine ⟨s1.heap.objs.size,[s1.heap.objs.size],_,_,H1,rfl,I1.kept (t':=s1.toks) fun b o e=>Heap.get?_push_of_some _ e,uz _ z t,⟨_,Heap.get?_push_size _ rfl,rfl,rfl⟩,fun b hb=>?_,q⟩
  have e:b=s1.heap.objs.size:=by simpa using hb
  subst e
  exact I1.Mu (Nat.le_refl _) (I1.hok.fresh (Nat.le_refl _))
theorem vB {x:Str} {acc:Addr} {g:TG} {tc:TT} {te:TE} {τ:St} {H1:Hp} {Q:Hp→Prop} (Pv:Nat→St→Hp→Prop) (h0:Pv 0 τ (upd H1 acc (.lst [])))
    (hs:∀ i c τ H,x.cps[i]?=some c→Pv i τ H→g (.str ⟨#[c]⟩) τ H fun τ4 H4=>tc τ4 H4 fun b H5=>if b=true then te τ4 H5 fun y H6=>∃ ys,H6 acc=some (.lst ys)∧ys.length<sizeLine∧Pv (i + 1) τ4 (upd H6 acc (.lst (ys++[y]))) else Pv (i + 1) τ4 H5)
    (hd:∀ τ H,Pv x.cps.size τ H→Q H):mQ (Its x) acc g tc te τ H1 Q:=by
  refine ⟨fun i m τ H=>m=x.cps.size - i∧i≤x.cps.size∧Pv i τ H,⟨x.cps.size,by simp,Nat.zero_le _,h0⟩,?_⟩
  rintro i m τ H ⟨rfl,hi,p⟩
  by_cases hlt:i<x.cps.size
  · refine .inr ⟨hlt,Pv (i + 1),fun τ' H' p'=>⟨x.cps.size - (i + 1),by omega,rfl,hlt,p'⟩,fun y H' e=>?_⟩
    obtain ⟨e,c,hc,ey⟩:=e
    subst e ey
    exact hs i c τ _ hc p
  · have e:i=x.cps.size:=by omega
    subst e
    exact .inl ⟨Nat.le_refl _,hd τ H p⟩
structure Dm (K:PySem.W.Frag) (C:Addr) (x qual:Str) (st:Stmt) (ps:List Str) (a:Addr) (fd:FuncData):Prop where
  F:Fun K x qual st a fd
  b:Binds K fd ps []
  m:Meth K C x a
structure Ft (K:PySem.W.Frag) (x qual:Str) (st:Stmt) (dv:List Value) (f:Addr) (fd:FuncData):Prop where
  ex:∃ (oc:Value) (od:Option Addr) (T:Addr) (o:Obj) (n:Nat) (kV doc pm:Value) (an:Option Addr) (cdv ct:Value) (osl:Array (Option Value)),
    fd=PySem.W.fnOf x qual (aq st) (ao st) (ak st) (.ref T) kV doc pm an cdv ct∧K.lookup f=some ⟨oc,od,.func fd,osl⟩∧PySem.W.codeIn K cdv qual=true∧K.lookup T=some o∧o.data=.seq dv.toArray n
  kp:PySem.W.keepIn K (.ref f)=true
section
variable {P:Program} {w:World} {K:PySem.W.Frag} {mg:Str→Option Value} {base:Heap} {x qual:Str} {st:Stmt} {dv:List Value} {f:Addr} {fd:FuncData} {N ps:List Str} {k:Nat} {sp:Sp}
theorem Ft.ok (F:Ft K x qual st dv f fd) (S:aL N ps (ak st)) (len:∀ vs H Q E,sp vs H Q E→vs.length=ps.length)
    (hbody:∀ (cdv:Value) (A:Around) (outer:List Env) (s:Shared) (H:Hp) (vs:List V) (Q:VK) (E:XK),jh k (A.deeper (envOfC qual (ak st) s.heap.objs.size f cdv))→sp vs H Q E →
      ∃ t,PSs (ur CX0 P w K mg base N qual (ak st) f cdv A outer s H E).nox (ao st) t∧t { nx:=fun _ H'=>Q .non H',rt:=Q } (start N vs) H):cj P w K mg base CX0 (k + 1) f fd ps sp:=by
  obtain ⟨oc,od,T,o,n,kV,doc,pm,an,cdv,ct,osl,rfl,lk,hcd,_⟩:=F.ex
  refine Ew lk hcd S len fun A outer s H vs Q E hr hsp=>?_
  obtain ⟨t,h,q⟩:=hbody cdv A outer s H vs Q E hr hsp
  exact ⟨t,h.nox,q⟩
theorem Ft.binds {ds:List Value} (F:Ft K x qual st dv f fd)
    (h:∀ (T:Addr) (kV doc pm:Value) (an:Option Addr) (cdv ct:Value) (us:List Value),(us++ds).length=ps.length→∃ k:Option (Array Value)→Sem (List (Str × Value)),
      bindArgs (PySem.W.fnOf x qual (aq st) (ao st) (ak st) (.ref T) kV doc pm an cdv ct) ⟨us,[]⟩=(seqItems? (.ref T) >>= k)∧k (some dv.toArray)=pure (ps.zip (us++ds))):Binds K fd ps ds:=by
  obtain ⟨oc,od,T,o,n,kV,doc,pm,an,cdv,ct,osl,rfl,lk,hcd,lt,hs⟩:=F.ex
  intro s us X hl
  obtain ⟨k,h1,h2⟩:=h T kV doc pm an cdv ct us hl
  exact BindsTo.of_defaults rfl (X _ _ lt) hs h1 h2
end
structure DmD (K:PySem.W.Frag) (C:Addr) (x qual:Str) (st:Stmt) (ps:List Str) (a:Addr) (fd:FuncData):Prop where
  F:Ft K x qual st [.none] a fd
  b0:Binds K fd ps []
  b1:Binds K fd ps [.none]
  m:Meth K C x a
structure Cl (K:PySem.W.Frag) (mg:Str→Option Value) (x:Str) (C f:Addr) (fs:List Str):Prop where
  c:Cls K C
  k:Mk K C f
  m:mg x=some (.ref C)
  n:∀ y∈fs,gw K C y
end
section
variable {T:eZ} {H0 H:Hp} {L R B:List (Addr × HO)} {a b:Addr} {o o':HO} {x y:Addr × HO}
theorem Ow.ne (O:Ow T H0 H L) (i j:Nat) (hi:L[i]?=some (a,o):=by rfl) (hj:L[j]?=some (b,o'):=by rfl) (hij:i≠j:=by decide):a≠b:=by
  intro e
  subst e
  have h1:(L.map (·.1))[i]?=some a:=by rw [List.getElem?_map,hi];rfl
  have h2:(L.map (·.1))[j]?=some a:=by rw [List.getElem?_map,hj];rfl
  exact hij ((List.getElem?_inj (List.getElem?_eq_some_iff.mp h1).1 O.nd).mp (h1.trans h2.symm))
theorem Ow.mid (O:Ow T H0 H (x :: (R++B))):Ow T H0 H (R++x :: B):=O.perm List.perm_middle
end
end L2
namespace L2
open PySem PySem.Spec PyProof.Rows
open AutoSeq1 (wpAny_loadPart')
theorem nH {X:Cx}:j5 X (.builtin "isinstance") (fun xs H Q=>∃ a ys c b,xs=[.ref a,.ty c]∧SqT X.K H a ys∧PySem.W.kitOne X.K (.type "tuple") (.type c)=some b∧Q (.bl b) H):=by
  intro pins s σ H xs us Q I r h
  obtain ⟨a,ys,c,b,rfl,hq,e,q⟩:=h
  obtain ⟨u,w,rfl,ru,rw'⟩:=vals2 r
  obtain rfl:w=Value.type c:=rw'
  cases (show u=Value.ref a from ru)
  obtain ⟨its,rv,⟨o,h1,h2,_⟩,hz⟩:=I.tuple hq
  exact PySem.W.kia_one PySem.W.kitx_tuple I.kIn ⟨o,h1,h2⟩ e (fun z=>nomatch z) fun tk=>⟨.bl b,H,I.tok tk,rfl,q⟩
end L2
namespace L2
open PySem PySem.Spec PyProof.Rows
section
variable {X:Cx} {k:Nat} {f C:Addr} {fd:FuncData} {ps:List Str} {sp:Sp} {dvs:List V} {ds:List Value} {m:Str} {apos pos:Pos} {o e:Expr} {es:List Expr} {t:TA} {ta:TE}
def Mx (C:Addr) (m:Str) (sp:Sp) (dvs:List V) (ta:TE) (t:TA):St→Hp→VK→XK→Prop:=fun σ H Q Ex=>ta σ H fun x H1=>∃ a dx fs,x=.ref a∧H1 a=some (.ins C dx fs)∧fs.lookup m=none∧t σ H1 fun vs H2=>sp (x :: (vs++dvs)) H2 Q Ex
theorem DR {pl:Sem Bool} (he:PE X.nox o ta) (c:Cls X.K C) (hm:Meth X.K C m f) (F:cj X.prog X.w X.K X.mg X.base (CXE X.prog X.w) k f fd ps sp) (hr:jh k X.A) (hb:Binds X.K fd ps ds) (hd:Vals dvs ds) (ha:PA X.nox (e :: es) t)
    (hst:starEach (e :: es) X.env=(false,eval e X.env) :: starEach es X.env:=by rfl) (hpl:(backTo pos (starEach es X.env)).any (·.1)=false:=by rfl)
    (ht:eval (.Call (.Attribute o m apos) (e :: es) [] pos) X.env=(do
      let ov ← eval o X.env
      standAt apos.atName
      let (f,first) ← holding [ov] (getMethod ov m pl)
      callWith pos f first (backTo pos (starEach (e :: es) X.env)) (backToKw pos (keywordEach [] X.env))):=by rfl) :
    PEx X (.Call (.Attribute o m apos) (e :: es) [] pos) (Mx C m sp dvs ta t):=by
  intro pins s σ H Q Ex I h
  refine PySem.W.methodCall_KW (pl:=pl) (wpAny_mono (he pins s σ H _ (I.wish _) h) (fun u s1 ⟨x,H1,I1,rx,a,dx,fs,ex,ea,l,q⟩=>?_) fun _ _ z=>z.elim) ht
  subst ex
  obtain rfl:u=Value.ref a:=rx
  have I1:=I1.iy
  refine jg I1 ea c hm l ?_
  refine PySem.W.callWith_K (first:=[.ref a]) (h₀:=X.base) I.ok.mod.kin hm.kp (wpAny_mono (ha pos pins s1 σ H1 _ (I1.wish _) q) (fun us s2 ⟨vs,H2,I2,r,q2⟩=>?_) fun _ _ z=>z.elim) hst hpl
  have I2:=I2.iy
  refine ⟨I2.kIn,?_⟩
  have r2:Vals (V.ref a :: (vs++dvs)) (Value.ref a :: (us++ds)):=.cons rfl (r.append hd)
  have hl:(Value.ref a :: us++ds).length=ps.length:=by
    have e:=r2.length
    rw [F.len _ _ _ _ q2] at e
    exact e.symm
  refine wpAny_call (codeAny_mono (F.run X.A X.stack s2 H2 ⟨Value.ref a :: us,[]⟩ (Value.ref a :: us++ds) (V.ref a :: (vs++dvs)) Q (Ex σ) hr I2.env0 (hb s2 (Value.ref a :: us) I2.kIn hl) r2 q2) fun rr s' hq=>?_)
  cases rr with
  | error ev=>exact ⟨σ,H2,s2,I2,hq⟩
  | ok fl =>
    cases fl with
    | ret u=>exact I2.after hq
    | next=>exact False.elim hq
    | brk=>exact False.elim hq
    | cont=>exact False.elim hq
end
end L2
namespace Rv
def iJ (r:List Int):Prop:=∃ rk:Nat→Nat,(∀ i,i<r.length→rk i<r.length) ∧
  ∀ (i:Nat) (x:Int),r[i]?=some x→x=-1∨(0≤x∧x<r.length∧rk x.toNat<rk i)
def nxt (r:List Int) (p:Int):Int:=r.getD p.toNat (-1)
theorem gQ {r:List Int} {p:Int} (h0:0≤p) (h1:p<r.length):r[p.toNat]?=some (nxt r p):=by
  have h:p.toNat<r.length:=by omega
  unfold nxt
  rw [List.getD_eq_getElem?_getD,List.getElem?_eq_getElem h];rfl
theorem iJ.step {r:List Int} (h:iJ r) {p:Int} (h0:0≤p) (h1:p<r.length):nxt r p=-1∨(0≤nxt r p∧nxt r p<r.length):=by
  obtain ⟨rk,_,h3⟩:=h
  rcases h3 _ _ (gQ h0 h1) with e | ⟨a,b,_⟩
  · exact .inl e
  · exact .inr ⟨a,b⟩
def jC (r:List Int):Nat→Int→List Int
  | 0,_=>[]
  | f + 1,p=>if p=-1 then [] else p :: jC r f (nxt r p)
def walk (r:List Int) (p:Int):List Int:=jC r (r.length + 1) p
theorem iM (r:List Int) (f:Nat):jC r f (-1)=[]:=by
  cases f with
  | zero=>rfl
  | succ f=>unfold jC;rw [if_pos rfl]
theorem lE (r:List Int):walk r (-1)=[]:=iM r _
theorem ji {r:List Int} {rk:Nat→Nat} (h:∀ (i:Nat) (x:Int),r[i]?=some x→x=-1∨(0≤x∧x<r.length∧rk x.toNat<rk i)) :
    ∀ (f g:Nat) (p:Int),0≤p→p<r.length→rk p.toNat<f→rk p.toNat<g→jC r f p=jC r g p
  | 0,_,_,_,_,hf,_=>by omega
  | _ + 1,0,_,_,_,_,hg=>by omega
  | f + 1,g + 1,p,h0,h1,hf,hg=>by
    unfold jC
    rw [if_neg (by omega),if_neg (by omega)]
    rcases h _ _ (gQ h0 h1) with e | ⟨a,b,c⟩
    · rw [e,iM,iM]
    · rw [ji h f g _ a b (by omega) (by omega)]
theorem fD {r:List Int} (h:iJ r) {p:Int} (h0:0≤p) (h1:p<r.length):walk r p=p :: walk r (nxt r p):=by
  obtain ⟨rk,h2,h3⟩:=h
  show jC r (r.length + 1) p=_
  unfold jC
  rw [if_neg (by omega)]
  rcases h3 _ _ (gQ h0 h1) with e | ⟨a,b,c⟩
  · rw [e,iM,lE]
  · have:=h2 p.toNat (by omega)
    unfold walk
    rw [ji h3 r.length (r.length + 1) _ a b (by omega) (by omega)]
theorem mL (r:List Int):∀ (f:Nat) (p:Int),(jC r f p).length≤f
  | 0,_=>Nat.le_refl _
  | f + 1,p=>by
    unfold jC
    split
    · exact Nat.zero_le _
    · exact Nat.succ_le_succ (mL r f _)
theorem pC (r:List Int) (p:Int):(walk r p).length≤r.length + 1:=mL r _ _
noncomputable def mea (r:List Int) (p:Int):Nat:=(walk r p).length
theorem vV {r:List Int} (h:iJ r) {p:Int} (h0:0≤p) (h1:p<r.length):mea r (nxt r p)<mea r p:=by
  unfold mea;rw [fD h h0 h1];exact Nat.lt_succ_self _
def stp (r:List Int) (p:Int):Int:=if p=-1 then -1 else nxt r p
def iW (r:List Int):Nat→Int→Int
  | 0,p=>p
  | f + 1,p=>iW r f (stp r p)
theorem pD (r:List Int):∀ f,iW r f (-1)=-1
  | 0=>rfl
  | f + 1=>by
    show iW r f (stp r (-1))=-1
    unfold stp
    rw [if_pos rfl];exact pD r f
theorem gW (r:List Int):∀ (f:Nat) (p:Int),iW r (f + 1) p=stp r (iW r f p)
  | 0,_=>rfl
  | f + 1,p=>by
    show iW r (f + 1) (stp r p)=stp r (iW r f (stp r p))
    exact gW r f (stp r p)
theorem pF (r:List Int) (p:Int) {f:Nat} (h:iW r f p=-1):∀ g,iW r (f + g) p=-1
  | 0=>h
  | g + 1=>by
    rw [show f + (g + 1)=(f + g) + 1 from rfl,gW,pF r p h g]
    unfold stp;rw [if_pos rfl]
def inB (r:List Int):Prop:=∀ x∈r,-1≤x∧x<(r.length:Int)
instance (r:List Int):Decidable (inB r):=inferInstanceAs (Decidable (∀ x∈r,-1≤x∧x<(r.length:Int)))
theorem Et {r:List Int} (h:inB r) {p:Int} (h0:0≤p) (h1:p<r.length):-1≤nxt r p∧nxt r p<r.length:=h _ (List.mem_of_getElem? (gQ h0 h1))
theorem qe {r:List Int} (h:inB r) {p:Int} (h0:0≤p) (h1:p<r.length):∀ f,-1≤iW r f p∧iW r f p<(r.length:Int)
  | 0=>⟨by show -1≤p;omega,h1⟩
  | f + 1=>by
    rw [gW]
    obtain ⟨a,b⟩:=qe h h0 h1 f
    unfold stp
    by_cases e:iW r f p=-1
    · rw [if_pos e];omega
    · rw [if_neg e];exact Et h (by omega) b
def isR (r:List Int):Bool:=decide (1≤r.length∧r.length≤40) && decide (inB r) && decide (∀ i,i<r.length→iW r r.length (i:Int)=-1)
end Rv
namespace Rv
end Rv
namespace Rv
abbrev Mv:=Int × Int × Int
end Rv
namespace Rv
end Rv
namespace Rv
end Rv
namespace Rv
end Rv
namespace Rv
end Rv
namespace Rv
end Rv
namespace Tn
end Tn
namespace Tn
end Tn
namespace Tn
end Tn
namespace Tn
end Tn
namespace Tn
end Tn
namespace Tn
end Tn
namespace Tn
end Tn
namespace Tn
end Tn
namespace Tn
end Tn
namespace Tn
end Tn
namespace Tn
end Tn
namespace Tn
end Tn
namespace Tn
end Tn
namespace Tn
end Tn
namespace Rv
end Rv
namespace Rv
def spot (n x s:Int) (k:Nat):Int:=(x + s * (k:Int)) % n
theorem ql {n a b:Int} (hn:0<n) (h:a % n=b % n) (h1:a - b<n) (h2:b - a<n):a=b:=by
  have ea:=Int.emod_add_mul_ediv a n
  have eb:=Int.emod_add_mul_ediv b n
  have e:a - b=n * (a / n - b / n):=by rw [Int.mul_sub];omega
  generalize a / n - b / n=q at e
  by_cases h0:q=0
  · rw [h0,Int.mul_zero] at e;omega
  · by_cases hp:1≤q
    · have:=Int.mul_le_mul_of_nonneg_left hp (Int.le_of_lt hn)
      rw [Int.mul_one] at this;omega
    · have:q≤-1:=by omega
      have:=Int.mul_le_mul_of_nonneg_left this (Int.le_of_lt hn)
      rw [Int.mul_neg,Int.mul_one] at this;omega
theorem uD {n x s:Int} (hn:0<n) (hs:s=1∨s=n - 1) {j k:Nat} (hj:(j:Int)<n) (hk:(k:Int)<n) (h:spot n x s j=spot n x s k):j=k:=by
  unfold spot at h
  rcases hs with rfl | rfl
  · rw [Int.one_mul,Int.one_mul] at h
    have:=ql hn h (by omega) (by omega)
    omega
  · have e:∀ m:Nat,(x + (n - 1) * (m:Int)) % n=(x - (m:Int)) % n:=fun m=>by
      have:x + (n - 1) * (m:Int)=(x - (m:Int)) + n * (m:Int):=by rw [Int.sub_mul];omega
      rw [this,Int.add_mul_emod_self_left]
    rw [e j,e k] at h
    have:=ql hn h (by omega) (by omega)
    omega
theorem rA {n x s:Int} (hn:0<n) (k:Nat):0≤spot n x s k:=Int.emod_nonneg _ (by omega)
theorem rB {n x s:Int} (hn:0<n) (k:Nat):spot n x s k<n:=Int.emod_lt_of_pos _ hn
def spots (n x s:Int) (m:Nat):List Int:=(List.range m).map (spot n x s)
theorem rm (n x s:Int) (m:Nat):(spots n x s m).length=m:=by simp [spots]
theorem qF (n x s:Int) (m:Nat):spots n x s (m + 1)=spots n x s m++[spot n x s m]:=by
  unfold spots;rw [List.range_succ,List.map_append];rfl
theorem pG {n x s:Int} {m k:Nat} (h:k<m):(spots n x s m)[k]?=some (spot n x s k):=by
  unfold spots;rw [List.getElem?_map,List.getElem?_range h];rfl
structure Lnk (n:Nat) (sp:Nat→Int) (k:Nat) (b:List Int):Prop where
  len:b.length=n
  at_:∀ (i:Nat) (x:Int),b[i]?=some x→x=-1∨∃ j m,j<m∧m<k∧m<n∧sp m=(i:Int)∧x=sp j
theorem Lnk.start (n:Nat) (sp:Nat→Int):Lnk n sp 1 (List.replicate n (-1)) :=
  ⟨by simp,fun i x h=>.inl (by
    rw [List.getElem?_replicate] at h
    split at h
    · exact (Option.some.inj h).symm
    · cases h)⟩
theorem Lnk.skip {n:Nat} {sp:Nat→Int} {k:Nat} {b:List Int} (h:Lnk n sp k b):Lnk n sp (k + 1) b :=
  ⟨h.len,fun i x hx=>(h.at_ i x hx).imp id fun ⟨j,m,h1,h2,h3⟩=>⟨j,m,h1,by omega,h3⟩⟩
theorem Lnk.turn {n:Nat} {sp:Nat→Int} {k j:Nat} {b:List Int} (h:Lnk n sp k b) (hk:k<n) (hj:j<k) (h0:0≤sp k):Lnk n sp (k + 1) (b.set (sp k).toNat (sp j)):=by
  refine ⟨by rw [List.length_set];exact h.len,fun i x hx=>?_⟩
  rw [List.getElem?_set] at hx
  split at hx
  · rename_i e
    split at hx
    · exact .inr ⟨j,k,hj,by omega,hk,by omega,(Option.some.inj hx).symm⟩
    · cases hx
  · exact h.skip.at_ i x hx
theorem Lnk.Nb {n:Nat} {sp:Nat→Int} {k:Nat} {b:List Int} (h:Lnk n sp k b) (h0:∀ k,0≤sp k) (h1:∀ k,sp k<n) (inj:∀ j k,j<n→k<n→sp j=sp k→j=k) (hn:0<n):iJ b:=by
  classical
  let rk:Nat→Nat:=fun i=>if h:∃ k,k<n∧sp k=(i:Int) then h.choose else 0
  have rk_at:∀ k,k<n→rk (sp k).toNat=k:=fun k hk=>by
    have hex:∃ m,m<n∧sp m=((sp k).toNat:Int):=⟨k,hk,by have:=h0 k;omega⟩
    show (if h:∃ m,m<n∧sp m=((sp k).toNat:Int) then h.choose else 0)=k
    rw [dif_pos hex]
    obtain ⟨a1,a2⟩:=hex.choose_spec
    exact inj _ _ a1 hk (by have:=h0 k;omega)
  refine ⟨rk,fun i _=>?_,fun i x hx=>?_⟩
  · rw [h.len]
    show (if h:∃ k,k<n∧sp k=(i:Int) then h.choose else 0)<n
    split
    · rename_i hex;exact hex.choose_spec.1
    · exact hn
  · rcases h.at_ i x hx with e | ⟨j,m,hjm,_,hm,e,rfl⟩
    · exact .inl e
    · refine .inr ⟨h0 j,by rw [h.len];exact h1 j,?_⟩
      have ei:i=(sp m).toNat:=by have:=h0 m;omega
      rw [ei,rk_at m hm,rk_at j (by omega)]
      exact hjm
end Rv
namespace Tn
end Tn
namespace Rv
end Rv
namespace Tn
end Tn
namespace Tn
end Tn
namespace Rv
end Rv
namespace Tn
end Tn
namespace Rv
end Rv
namespace Tn
end Tn
namespace Rv
end Rv
namespace My
open PySem L2
local macro_rules | `(tactic| walk_at "new") => `(tactic| (generalize hE : upd _ _ _ = Hn; have On := Ow.mkE (by assumption) (by assumption) hE rfl; clear hE; revert On; revert Hn))
local macro_rules | `(tactic| walk_at "put") => `(tactic| (generalize hE : upd _ _ _ = Hn; (first | have On := Ow.mK (by assumption) 0 rfl hE rfl | have On := Ow.mK (by assumption) 1 rfl hE rfl | have On := Ow.mK (by assumption) 2 rfl hE rfl | have On := Ow.mK (by assumption) 3 rfl hE rfl | have On := Ow.mK (by assumption) 4 rfl hE rfl | have On := Ow.mK (by assumption) 5 rfl hE rfl); clear hE; (try simp only [List.set_cons_zero, List.set_cons_succ] at On); revert On; revert Hn))
set_option hygiene false
local macro_rules | `(tactic| walk_at "get") => `(tactic| first | assumption | exact O.get 0 | exact O.get 1 | exact O.get 2 | exact O.get 3 | exact O.get 4 | exact O.get 5 | exact O.get 6 | exact O.get 7 | exact O.get 8 | exact O.get 9 | exact O.get 10 | exact O.get 11 | exact O.get 12 | fail)
local macro_rules | `(tactic| walk_at "sq") => `(tactic| first | assumption | exact O.sq 0 | exact O.sq 1 | exact O.sq 2 | exact O.sq 3 | exact O.sq 4 | exact O.sq 5 | exact O.sq 6 | exact O.sq 7 | exact O.sq 8 | exact O.sq 9 | exact O.sq 10 | exact O.sq 11 | exact O.sq 12 | exact SqL.mo (by assumption) O.same | exact SqL.mo (by assumption) (s0.trans O.same) | fail)
local macro_rules | `(tactic| walk_at "sqT") => `(tactic| first | assumption | exact O.sqT 0 | exact O.sqT 1 | exact O.sqT 2 | exact O.sqT 3 | exact O.sqT 4 | exact O.sqT 5 | exact O.sqT 6 | exact O.sqT 7 | exact SqT.mo (by assumption) O.same | exact SqT.mo (by assumption) (s0.trans O.same) | fail)
local macro_rules | `(tactic| walk_at "at") => `(tactic| first | rfl | exact aX (by assumption) | exact eV (by assumption) | exact cW (by omega) (by omega) | exact lastV _ _ | exact ints_last (by omega) | exact cW (ns := [_, _]) (by omega) (by simp only [List.length_cons, List.length_nil]; omega) | exact cW (ns := [_, _, _]) (by omega) (by simp only [List.length_cons, List.length_nil]; omega) | exact cW (ns := [_, _, _, _]) (by omega) (by simp only [List.length_cons, List.length_nil]; omega) | exact cW (ns := [_, _, _, _, _]) (by omega) (by simp only [List.length_cons, List.length_nil]; omega) | exact cW (ns := [_, _, _, _, _, _]) (by omega) (by simp only [List.length_cons, List.length_nil]; omega) | exact cW (ns := [_, _, _, _, _, _, _]) (by omega) (by simp only [List.length_cons, List.length_nil]; omega) | exact cW (ns := [_, _, _, _, _, _, _, _]) (by omega) (by simp only [List.length_cons, List.length_nil]; omega) | fail)
local macro_rules | `(tactic| walk_at "c") => `(tactic| first | omega | (simp only [List.length_map]; omega) | exact szl | (show (0 : Int) < _; decide) | (show (0 : Int) < _; omega) | exact ⟨by decide, by decide⟩ | exact .inl ⟨by decide, by decide⟩ | exact .inr ⟨by decide, by decide⟩ | exact ⟨by decide, by decide, by decide⟩ | exact .inl ⟨by omega, by omega⟩ | exact .inr ⟨by omega, by omega⟩ | exact ⟨by omega, by omega⟩ | (split <;> omega) | fail)
local macro_rules | `(tactic| walk_at "ty") => `(tactic| first | exact .int _ | exact .bl _ | exact .lst (by walk_at "get") | exact .tup (by walk_at "get") | exact .non | fail)
local macro_rules | `(tactic| walk_at "kit") => `(tactic| first | exact vY K | exact vZ K | exact vX K | exact kit_bb K | exact kit_bi K | exact vW K | fail)
local macro_rules | `(tactic| walk_at "sz") => `(tactic| exact bw (by (try simp only [List.length_map, List.length_append, List.length_cons, List.length_nil]); omega))
local macro_rules | `(tactic| walk_at "s") => `(tactic| first | refine yes2 ?_ | refine ⟨_, rfl, ?_⟩ | refine ⟨_, _, rfl, rfl, ?_⟩ | refine And.intro rfl ?_ | refine And.intro (by walk_at "c") ?_ | refine ⟨_, _, _, _, rfl, rfl, (show SqL _ _ _ _ by walk_at "sq"), (show atI _ _ = some _ by walk_at "at"), ?_⟩ | refine ⟨_, _, _, _, rfl, rfl, (show SqT _ _ _ _ by walk_at "sqT"), (show atI _ _ = some _ by walk_at "at"), ?_⟩ | refine ⟨_, _, rfl, .inl (show SqL _ _ _ _ by walk_at "sq"), ?_⟩ | refine ⟨_, _, rfl, .inr (show SqT _ _ _ _ by walk_at "sqT"), ?_⟩ | refine ⟨_, _, rfl, (show SqL _ _ _ _ by walk_at "sq"), ?_⟩ | refine And.intro ⟨_, (show SqL _ _ _ _ by walk_at "sq")⟩ ?_ | refine And.intro (.inl ⟨rfl, _, (show SqL _ _ _ _ by walk_at "sq")⟩) ?_ | refine ⟨_, _, _, _, rfl, (show qy _ _ _ _ by walk_at "ty"), (show PySem.W.kitOne _ _ _ = some _ by walk_at "kit"), ?_⟩ | refine ⟨_, _, rfl, ?_⟩ | fail)
local macro_rules | `(tactic| walk_at "w") => `(tactic| repeat walk_at "s")
local macro_rules | `(tactic| walk_at "if") => `(tactic| first | refine qd ?_ | refine jr ?_ | refine ifN ?_ | refine ifI (fun hc => ?_) (fun hc => ?_) | refine ifD (fun hc => ?_) (fun hc => ?_) | refine ifB (fun hc => ?_) (fun hc => ?_) | fail)
local macro_rules | `(tactic| walk_at "go") => `(tactic| repeat' (first | walk_at "if" | walk_at "s" | fail))
local macro_rules | `(tactic| walk_at "nw") => `(tactic| (generalize hE : upd _ _ _ = Hn; replace O := Ow.mkE O (by assumption) hE rfl; clear hE))
local macro_rules | `(tactic| walk_at "pt") => `(tactic| (generalize hE : upd _ _ _ = Hn; (first | replace O := Ow.mK O 0 rfl hE rfl | replace O := Ow.mK O 1 rfl hE rfl | replace O := Ow.mK O 2 rfl hE rfl | replace O := Ow.mK O 3 rfl hE rfl | replace O := Ow.mK O 4 rfl hE rfl | replace O := Ow.mK O 5 rfl hE rfl | replace O := Ow.mK O 6 rfl hE rfl | replace O := Ow.mK O 7 rfl hE rfl); clear hE; (try simp only [List.set_cons_zero, List.set_cons_succ] at O)))
local macro_rules | `(tactic| walk_at "app") => `(tactic| (refine ⟨_, _, _, rfl, rfl, (by walk_at "get"), (by walk_at "sz"), ?_⟩; walk_at "pt"))
local macro_rules | `(tactic| walk_at "elt") => `(tactic| (refine ⟨_, (by walk_at "get"), (by walk_at "sz"), ?_⟩; walk_at "pt"))
local macro_rules | `(tactic| walk_at "frz") => `(tactic| (obtain ⟨Hn, On, sn, en⟩ := O.frz; clear O; have O := On; clear On; (try replace s0 := s0.mo sn); (try replace d0 := d0.mo sn); (try replace d1 := d1.mo sn); (try replace d2 := d2.mo sn); (try replace d3 := d3.mo sn); (try replace d4 := d4.mo sn); (try replace d5 := d5.mo sn); (try replace d6 := d6.mo sn); (try replace d7 := d7.mo sn)))
local macro_rules | `(tactic| walk_at "mo") => `(tactic| ((try simp only [List.eraseIdx_cons_zero, List.eraseIdx_cons_succ] at O); (try replace s0 := s0.mo sn); (try replace d0 := d0.mo sn); (try replace d1 := d1.mo sn); (try replace d2 := d2.mo sn); (try replace d3 := d3.mo sn); (try replace d4 := d4.mo sn); (try replace d5 := d5.mo sn); (try replace d6 := d6.mo sn); (try replace d7 := d7.mo sn)))
local macro_rules | `(tactic| walk_at "er") => `(tactic| simp only [List.eraseIdx_cons_zero, List.eraseIdx_cons_succ] at O)
local macro_rules | `(tactic| walk_at "jn") => `(tactic| simp only [List.cons_append, List.nil_append] at O)
def top (i:Nat):Stmt:=PySem.Challenge.pw_sluice_k55_moved_on_a_roll.main.body.getD i (.Pass ⟨0,0,0,0⟩)
abbrev fV:Stmt:=top 23
theorem mX:aL ["below","reach","way"] ["below","reach"] (ak fV):=⟨rfl,rfl,rfl,by decide +kernel,rfl,by decide +kernel,by decide +kernel⟩
def kW (K:PySem.W.Frag):Sp:=fun vs H Q _=>∃ (a:Addr) (r:List Int) (p:Int),vs=[.ref a,.int p]∧SqL K H a (r.map V.int)∧Rv.iJ r∧0≤p∧p<r.length∧r.length≤900 ∧
  Qt H (fun xs=>xs=(Rv.walk r p).map V.int) Q
theorem mF (pre:List Int) (z:Int):atI ((pre++[z]).map V.int) (-1)=some (V.int z):=by
  rw [List.map_append];exact vG _ _
theorem Gs {f:Addr} {fd:FuncData} (D:Df K mg "way_of" fV ["below","reach"] f fd) (C:Mth mg):cj P w K mg base CX0 1 f fd ["below","reach"] (kW K):=by
  obtain ⟨tM,hMOUTH⟩:=C.MOUTH
  refine D.F.ok mX (fun vs H Q E h=>?_) (fun cdv A outer s H vs Q E hr h=>?_)
  · obtain ⟨a,r,p,rfl,_⟩:=h;rfl
  · obtain ⟨a,r,p,rfl,hS,hR,p0,p1,hn,q⟩:=h
    refine ⟨_,(au (bT (i:=2) mX.nd rfl (Or.inl rfl) (eE (aj (pv 1) aA)))
      (au (pU PassesOwn.never (aW lU (aP aD (pv 0) (aP aD (pv 2) (j8 iz aB) (fun _ _=>rfl)) (fun _ _=>rfl)) (eU (v:=.int (-1)) rfl hMOUTH ⟨_,rfl⟩) (bC _))
        (aC (cu (j9 PySem.F.plainAttrs_list PySem.F.slot_list_append PySem.F.type_list_append dB (pv 2) (aj (aP aD (pv 0) (aP aD (pv 2) (j8 iz aB) (fun _ _=>rfl)) (fun _ _=>rfl)) aA)))))
      (aC (aV (pv 2))))),?_⟩
    refine ⟨_,rfl,(by show 1≤sizeLine;decide),fun lw hlw=>?_⟩
    refine ⟨fun m σ H'=>∃ (pre:List Int) (z:Int),σ=[some (.ref a),some (.int p),some (.ref lw)]∧Same H H'∧H' lw=some (.lst ((pre++[z]).map V.int))∧0≤z∧z<r.length∧pre++Rv.walk r z=Rv.walk r p∧m=Rv.mea r z,
      ⟨_,[],p,rfl,(Same.refl H).upd hlw,bI,p0,p1,rfl,rfl⟩,?_⟩
    rintro m σ H2 ⟨pre,z,rfl,s2,h2,z0,z1,e,rfl⟩
    have g:=Rv.gQ z0 z1
    have hlen:pre.length + (Rv.walk r z).length≤r.length + 1:=by
      have:=Rv.pC r p
      rw [← e,List.length_append] at this;exact this
    refine ⟨_,rfl,_,rfl,_,rfl,lw,_,_,_,rfl,rfl,SqL.of h2,mF pre z,a,_,_,_,rfl,rfl,s2.seq hS,gZ z0 g,rfl,_,rfl,?_⟩
    rcases hR.step z0 z1 with hm | ⟨n0,n1⟩
    · rw [hm]
      refine GR rfl ?_
      refine ⟨_,rfl,q lw H2 _ s2 hlw h2 ?_⟩
      have ew:Rv.walk r z=[z]:=by rw [Rv.fD hR z0 z1,hm,Rv.lE]
      rw [← e,ew]
    · have hd:(!decide (V.int (Rv.nxt r z)=V.int (-1)))=true:=by
        have:¬ Rv.nxt r z=-1:=by omega
        simp [this]
      rw [hd]
      refine qd ?_
      refine ⟨fun σ' H'=>∃ m',m'<Rv.mea r z∧∃ (pre:List Int) (z:Int),σ'=[some (.ref a),some (.int p),some (.ref lw)]∧Same H H'∧H' lw=some (.lst ((pre++[z]).map V.int))∧0≤z∧z<r.length∧pre++Rv.walk r z=Rv.walk r p∧m'=Rv.mea r z,fun _ _ x=>x,?_⟩
      refine ⟨_,rfl,.inl ⟨rfl,_,SqL.of h2⟩,_,rfl,_,rfl,_,rfl,lw,_,_,_,rfl,rfl,SqL.of h2,mF pre z,a,_,_,_,rfl,rfl,s2.seq hS,gZ z0 g,lw,_,_,rfl,rfl,h2,bw ?_,?_⟩
      · rw [List.length_map,List.length_append]
        have:1≤(Rv.walk r z).length:=by rw [Rv.fD hR z0 z1];exact Nat.succ_le_succ (Nat.zero_le _)
        show pre.length + 1≤_
        omega
      · refine ⟨_,Rv.vV hR z0 z1,pre++[z],Rv.nxt r z,rfl,s2.upd hlw,?_,n0,n1,?_,rfl⟩
        · rw [bI,List.map_append (l₁:=pre++[z])];rfl
        · rw [List.append_assoc]
          show pre++(z :: Rv.walk r (Rv.nxt r z))=_
          rw [← Rv.fD hR z0 z1];exact e
abbrev bh:Stmt:=top 21
theorem dF:aL ["below","start","reach","step"] ["below","start"] (ak bh):=⟨rfl,rfl,rfl,by decide +kernel,rfl,by decide +kernel,by decide +kernel⟩
def pQ (K:PySem.W.Frag):Sp:=fun vs H Q _=>∃ (a:Addr) (r:List Int) (i:Nat),vs=[.ref a,.int (i:Int)]∧SqL K H a (r.map V.int)∧Rv.inB r∧i<r.length∧r.length≤900∧Q (.bl (decide (Rv.iW r r.length (i:Int)=-1))) H
structure Cst (mg:Str→Option Value):Prop where
  MOUTH:∃ t,mg "MOUTH"=some (.int (-1) t)
  MOST_REACHES:∃ t,mg "MOST_REACHES"=some (.int 40 t)
theorem uP {f:Addr} {fd:FuncData} (D:Df K mg "comes_to_mouth" bh ["below","start"] f fd) (B:Blt mg) (C:Cst mg):cj P w K mg base CX0 1 f fd ["below","start"] (pQ K):=by
  obtain ⟨tM,hMOUTH⟩:=C.MOUTH
  refine D.F.ok dF (fun vs H Q E h=>?_) (fun cdv A outer s H vs Q E hr h=>?_)
  · obtain ⟨a,r,i,rfl,_⟩:=h;rfl
  · obtain ⟨a,r,i,rfl,hS,hB,hi,hn,q⟩:=h
    refine ⟨_,(au (bT (i:=2) dF.nd rfl (Or.inl rfl) (pv 1))
      (au (pX PassesOwn.never rfl (gn rfl B.range (aj (aJ aF rfl B.len PySem.boot_len (aj (pv 0) aA)) aA)) (dJ (i:=3) dF.nd rfl (Or.inl rfl))
        (au (bT (i:=2) dF.nd rfl (Or.inl rfl) (aP aD (pv 0) (pv 2) (fun _ _=>rfl)))
        (aC (d8 (aW lV (pv 2) (eU (v:=.int (-1)) rfl hMOUTH ⟨_,rfl⟩) (bC _))
          (aC (aV jf))
          aZ))))
      (aC (aV jf)))),?_⟩
    refine ⟨_,rfl,_,rfl,a,_,rfl,.inl hS,_,rfl,by rw [List.length_map];omega,by rw [List.length_map];omega,?_⟩
    rw [List.length_map,Int.toNat_natCast]
    refine nF (n:=r.length) (fun j σ H2=>∃ (v:Option V),σ=[some (.ref a),some (.int (i:Int)),some (.int (Rv.iW r j (i:Int))),v]∧H=H2∧(j=0∨Rv.iW r j (i:Int)≠-1)) ⟨none,rfl,rfl,.inl rfl⟩ ?_ ?_
    · rintro j σ H2 hj ⟨v,rfl,rfl,hne⟩
      obtain ⟨b0,b1⟩:=Rv.qe hB (p:=(i:Int)) (by omega) (by omega) j
      have hne':Rv.iW r j (i:Int)≠-1:=by
        rcases hne with e | e
        · subst e
          show (i:Int)≠-1
          omega
        · exact e
      have g:=Rv.gQ (r:=r) (p:=Rv.iW r j (i:Int)) (by omega) b1
      have es:Rv.nxt r (Rv.iW r j (i:Int))=Rv.iW r (j + 1) (i:Int):=by
        rw [Rv.gW];unfold Rv.stp;rw [if_neg hne']
      rw [es] at g
      refine ⟨_,rfl,_,rfl,a,_,_,_,rfl,rfl,hS,gZ (by omega) g,_,rfl,rfl,_,rfl,?_⟩
      refine Mt (fun h=>?_) (fun h=>?_)
      · have e:Rv.iW r (j + 1) (i:Int)=-1:=by
          have:=of_decide_eq_true h
          exact V.int.inj this
        have e2:Rv.iW r r.length (i:Int)=-1:=by
          have:=Rv.pF r (i:Int) e (r.length - (j + 1))
          rw [show j + 1 + (r.length - (j + 1))=r.length by omega] at this
          exact this
        rw [decide_eq_true e2] at q
        exact q
      · refine ⟨_,rfl,rfl,.inr fun e=>h (decide_eq_true (by rw [e]))⟩
    · rintro σ H2 ⟨v,rfl,rfl,hne⟩
      have e:¬ Rv.iW r r.length (i:Int)=-1:=by
        rcases hne with e | e
        · omega
        · exact e
      rw [decide_eq_false e] at q
      exact q
abbrev cO:Stmt:=top 22
theorem ou:aL ["below"] ["below"] (ak cO):=⟨rfl,rfl,rfl,by decide +kernel,rfl,by decide +kernel,by decide +kernel⟩
def vO (K:PySem.W.Frag):Sp:=fun vs H Q _=>∃ (a:Addr) (r:List Int),vs=[.ref a]∧SqL K H a (r.map V.int)∧r.length≤900∧∀ H',Same H H'→Q (.bl (Rv.isR r)) H'
theorem qw {α:Type} {p:α→Bool} {l:List α}:(l.map p).all id=l.all p:=by
  rw [List.all_map];rfl
theorem Eu (r:List Int):(r.all fun x=>decide (-1≤x) && decide (x<(r.length:Int)))=decide (Rv.inB r):=by
  rw [Bool.eq_iff_iff]
  simp only [List.all_eq_true,Bool.and_eq_true,decide_eq_true_eq]
  exact Iff.rfl
theorem Gx {f fC:Addr} {fd fdC:FuncData} (D:Df K mg "is_river" cO ["below"] f fd) (B:Blt mg) (C:Cst mg) (bV:Df K mg "comes_to_mouth" bh ["below","start"] fC fdC)
    (jt:cj P w K mg base CX0 1 fC fdC ["below","start"] (pQ K)):cj P w K mg base CX0 2 f fd ["below"] (vO K):=by
  obtain ⟨tM,hMOUTH⟩:=C.MOUTH
  obtain ⟨tR,hMOST_REACHES⟩:=C.MOST_REACHES
  refine D.F.ok ou (fun vs H Q E h=>?_) (fun cdv A outer s H vs Q E hr h=>?_)
  · obtain ⟨a,r,rfl,_⟩:=h;rfl
  · obtain ⟨a,r,rfl,hS,hn,q⟩:=h
    refine ⟨_,(au (d8 (gj (jy jN jN aB (aJ aF rfl B.len PySem.boot_len (aj (pv 0) aA)) (eU (v:=.int (40)) rfl hMOST_REACHES ⟨_,rfl⟩)))
        (aC (aV jf))
        aZ)
      (au (d8 (gj (gb (aJ (mD rfl) rfl B.all PyProof.Rows.boot_all (aj (jL (ak cO) rfl ["below"] rfl ["reach","below"] [none,some 0] (by decide +kernel) (by decide +kernel) (by decide +kernel) rfl (oE (pv 0)) (fun _ _ _=>(dJ (i:=0) (show (["reach","below"]:List Str).Nodup by decide +kernel) rfl (Or.inl rfl))) (fun _ _ _=>jc) (fun _ _ _=>(lR jN qI (eU (v:=.int (-1)) rfl hMOUTH ⟨_,rfl⟩) (pv 0) (aJ (mC (K:=K) rfl) rfl B.len PySem.boot_len (aj (pv 1) aA))))) aA))))
        (aC (aV jf))
        aZ)
      (aC (aV (aJ (mD rfl) rfl B.all PyProof.Rows.boot_all (aj (jL (ak cO) rfl ["below"] rfl ["start","below"] [none,some 0] (by decide +kernel) (by decide +kernel) (by decide +kernel) rfl (gn rfl B.range (aj (aJ aF rfl B.len PySem.boot_len (aj (pv 0) aA)) aA)) (fun _ _ _=>(dJ (i:=0) (show (["start","below"]:List Str).Nodup by decide +kernel) rfl (Or.inl rfl))) (fun _ _ _=>jc) (fun _ _ _=>(bB jt (hr.mono (by decide)) rfl bV.m bV.F.kp bV.b .nil cA (aj (pv 1) (aj (pv 0) aA))))) aA)))))),?_⟩
    refine ⟨_,rfl,a,_,rfl,.inl hS,_,_,rfl,rfl,_,rfl,?_⟩
    rw [List.length_map]
    have no1:¬ (1≤r.length∧r.length≤40)→Q (.bl false) H:=fun h=>by
      have e:Rv.isR r=false:=by unfold Rv.isR;rw [decide_eq_false h];rfl
      have:=q H (Same.refl H)
      rw [e] at this
      exact this
    refine Mt (fun h1=>⟨_,_,rfl,rfl,_,rfl,?_⟩) (fun h1=>⟨_,rfl,?_⟩)
    case refine_2=>exact qd (no1 fun z=>h1 (decide_eq_true (by omega)))
    have g1:=of_decide_eq_true h1
    by_cases h2:r.length≤40
    case neg =>
      rw [decide_eq_false (by omega)]
      exact qd (no1 fun z=>h2 z.2)
    rw [decide_eq_true (by omega)]
    refine jr ?_
    refine ⟨_,rfl,a,rfl,⟨_,hS⟩,fun acc hacc=>?_⟩
    refine uc (K:=K) (a:=a) (xs:=r.map V.int) (fun i τ H2=>∃ v,τ=[v,some (.ref a)]∧Same H H2∧H2 acc=some (.lst (((r.take i).map fun x=>decide (-1≤x) && decide (x<(r.length:Int))).map V.bl)))
      ⟨none,rfl,(Same.refl H).upd hacc,by rw [bI];rfl⟩ (fun i τ H2 _ ⟨_,_,s2,_⟩=>s2.seq hS) ?_ ?_
    · rintro i y τ H2 hi ⟨v,rfl,s2,h2'⟩
      obtain ⟨z,hz,rfl⟩:=ints_get hi
      have hil:i<r.length:=(List.getElem?_eq_some_iff.mp hz).1
      have e:∀ b:Bool,b=(decide (-1≤z) && decide (z<(r.length:Int)))→((r.take i).map fun x=>decide (-1≤x) && decide (x<(r.length:Int))).map V.bl++[V.bl b]=((r.take (i + 1)).map fun x=>decide (-1≤x) && decide (x<(r.length:Int))).map V.bl:=fun b hb=>by
        rw [List.take_add_one,hz,List.map_append,List.map_append,hb];rfl
      have hsz:(((r.take i).map fun x=>decide (-1≤x) && decide (x<(r.length:Int))).map V.bl).length<sizeLine:=bw (by rw [List.length_map,List.length_map,List.length_take];omega)
      refine Fo ?_
      refine ⟨_,rfl,_,_,rfl,rfl,_,rfl,?_⟩
      refine Mt (fun h3=>?_) (fun h3=>?_)
      · refine ⟨_,rfl,a,_,rfl,.inl (s2.seq hS),_,_,rfl,rfl,_,h2',hsz,_,rfl,s2.upd hacc,?_⟩
        rw [bI,e _ (by rw [h3,List.length_map];rfl)]
      · refine ⟨_,h2',hsz,_,rfl,s2.upd hacc,?_⟩
        have h3':decide (-1≤z)=false:=by simpa using h3
        rw [bI,e false (by rw [h3'];rfl)]
    · rintro τ H2 ⟨v,rfl,s2,h2'⟩
      rw [List.length_map,List.take_length] at h2'
      refine ⟨acc,_,rfl,SqL.of h2',_,rfl,?_⟩
      rw [qw,Eu]
      by_cases hB:Rv.inB r
      case neg =>
        rw [decide_eq_false hB]
        refine qd ?_
        have e:Rv.isR r=false:=by unfold Rv.isR;rw [decide_eq_false hB,Bool.and_false];rfl
        have:=q H2 s2
        rw [e] at this
        exact this
      rw [decide_eq_true hB]
      refine jr ?_
      refine ⟨_,rfl,a,_,rfl,.inl (s2.seq hS),_,rfl,by rw [List.length_map];omega,by rw [List.length_map];omega,fun ac2 hac2=>?_⟩
      rw [List.length_map,Int.toNat_natCast]
      have nac2:H ac2=none:=s2.free hac2
      refine gq (fun i τ H3=>∃ v,τ=[v,some (.ref a)]∧Same H H3∧H3 ac2=some (.lst (((List.range i).map fun (j:Nat)=>decide (Rv.iW r r.length (j:Int)=-1)).map V.bl))) ⟨none,rfl,s2.upd nac2,by rw [bI];rfl⟩ ?_ ?_
      · rintro i τ H3 hi ⟨v,rfl,s3,h3⟩
        rw [show (0:Int) + (i:Int)=(i:Int) by omega]
        refine Fo ?_
        refine ⟨_,rfl,_,rfl,a,r,i,rfl,s3.seq hS,hB,hi,hn,?_⟩
        refine ⟨_,h3,bw (by rw [List.length_map,List.length_map,List.length_range];omega),_,rfl,s3.upd nac2,?_⟩
        rw [bI,List.range_succ,List.map_append,List.map_append];rfl
      · rintro τ H3 ⟨v,rfl,s3,h3⟩
        refine ⟨ac2,_,rfl,SqL.of h3,?_⟩
        have e:(((List.range r.length).map fun (j:Nat)=>decide (Rv.iW r r.length (j:Int)=-1)).all id)=Rv.isR r:=by
          unfold Rv.isR
          rw [qw,decide_eq_true (show 1≤r.length∧r.length≤40 from ⟨by omega,h2⟩),decide_eq_true hB,Bool.true_and,Bool.true_and,Bool.eq_iff_iff]
          simp only [List.all_eq_true,List.mem_range,decide_eq_true_eq]
        rw [e]
        exact q H3 s3
abbrev dN:Stmt:=top 5
theorem oh:aL ["amount"] ["amount"] (ak dN):=⟨rfl,rfl,rfl,by decide +kernel,rfl,by decide +kernel,by decide +kernel⟩
def pI:Sp:=fun vs H Q _=>∃ (z:Int),vs=[.int z]∧∀ b:Bool,(b=true↔(0≤z∧z≤1000000000000))→Q (.bl b) H
theorem uK {f:Addr} {fd:FuncData} (D:Df K mg "is_water" dN ["amount"] f fd) (CW:∃ t,mg "MOST_WATER"=some (.int 1000000000000 t)):cj P w K mg base CX0 1 f fd ["amount"] pI:=by
  obtain ⟨tW,hMOST_WATER⟩:=CW
  refine D.F.ok oh (fun vs H Q E h=>?_) (fun cdv A outer s H vs Q E hr h=>?_)
  · obtain ⟨_,rfl,_⟩:=h;rfl
  · obtain ⟨z,rfl,q⟩:=h
    refine ⟨_,(aC (aV (lR jN jN aB (pv 0) (eU (v:=.int (1000000000000)) rfl hMOST_WATER ⟨_,rfl⟩)))),?_⟩
    walk_at "go"
    all_goals refine q _ ?_
    all_goals simp only [decide_eq_true_eq,Bool.false_eq_true,true_iff,false_iff]
    all_goals omega
abbrev bY:Stmt:=top 26
theorem dY:aL ["below","one","day","start","back","most"] ["below","one"] (ak bY):=⟨rfl,rfl,rfl,by decide +kernel,rfl,by decide +kernel,by decide +kernel⟩
def oZ (r:List Int) (l:Lic):Prop:=(0≤l.day∧l.day≤1000000∧0≤l.start∧l.start<r.length∧0≤l.most∧l.most≤1000000000000)∧(l.back=-1∨l.back∈(Rv.walk r l.start).drop 1)
def lG (K:PySem.W.Frag) (T:eZ):Sp:=fun vs H Q _=>∃ (a t:Addr) (r:List Int) (l:Lic),vs=[.ref a,.ref t]∧SqL K H a (r.map V.int)∧Rv.iJ r∧r.length≤900∧SqT K H t (mH l)∧TabsOk T H∧∀ (b:Bool) (H':Hp),bD T H H'→(b=true↔oZ r l)→Q (.bl b) H'
theorem uO {f f1 f2:Addr} {fd fd1 fd2:FuncData} (D:Df K mg "is_licence" bY ["below","one"] f fd) (B:Blt mg) (C:Mth mg) (CD:∃ t,mg "LAST_DAY"=some (.int 1000000 t))
    (fu:Df K mg "is_water" dN ["amount"] f1 fd1) (qQ:cj P w K mg base CX0 1 f1 fd1 ["amount"] pI)
    (iu:Df K mg "way_of" fV ["below","reach"] f2 fd2) (vJ:cj P w K mg base CX0 1 f2 fd2 ["below","reach"] (kW K)):cj P w K mg base CX0 2 f fd ["below","one"] (lG K T):=by
  obtain ⟨tM,hMOUTH⟩:=C.MOUTH
  obtain ⟨tD,hLAST_DAY⟩:=CD
  refine D.F.ok dY (fun vs H Q E h=>?_) (fun cdv A outer s H vs Q E hr h=>?_)
  · obtain ⟨_,_,_,_,rfl,_⟩:=h;rfl
  · obtain ⟨a,t,r,l,rfl,hA,hR,hn,hT,tk,q⟩:=h
    have hml:((r.map V.int).length:Int)=(r.length:Int):=by rw [List.length_map]
    have O:=Ow.refl tk
    have s0:=O.same
    have no:¬ (0≤l.day∧l.day≤1000000∧0≤l.start∧l.start<r.length∧0≤l.most∧l.most≤1000000000000)→Q (.bl false) H:=fun h=>q _ _ O.same ⟨(fun e=>by cases e),fun z=>absurd z.1 h⟩
    refine ⟨_,(au (lu (pv 1) (Gh rfl (jz (dJ (i:=2) dY.nd rfl (Or.inl rfl)) (jz (dJ (i:=3) dY.nd rfl (Or.inl rfl)) (jz (dJ (i:=4) dY.nd rfl (Or.inl rfl)) (jz (dJ (i:=5) dY.nd rfl (Or.inl rfl)) Ei))))))
      (au (d8 (gj (PW.pt (pw_and (jy jN jN aB (pv 2) (eU (v:=.int (1000000)) rfl hLAST_DAY ⟨_,rfl⟩)) (pw_and (jy jN qI aB (pv 3) (aJ aF rfl B.len PySem.boot_len (aj (pv 0) aA))) (pw_and1 (gb (bB qQ (hr.mono (by decide)) rfl fu.m fu.F.kp fu.b .nil cA (aj (pv 5) aA))))))))
        (aC (aV jf))
        aZ)
      (aC (aV (Gj (gP lV (pv 4) (eU (v:=.int (-1)) rfl hMOUTH ⟨_,rfl⟩) (bC _)) (nj (gP jO (pv 4) (iT jE (bB vJ (hr.mono (by decide)) rfl iu.m iu.F.kp iu.b .nil cA (aj (pv 0) (aj (pv 3) aA))) (je aB) lQ) (by rfl)))))))),?_⟩
    refine ⟨_,rfl,t,_,rfl,hT,rfl,_,_,rfl,_,_,rfl,_,_,rfl,_,_,rfl,rfl,?_⟩
    walk_at "go"
    all_goals first | (refine no ?_;omega) | skip
    intro b hb
    walk_at "go"
    · have hm:=hb.mp (by assumption)
      have num:0≤l.day∧l.day≤1000000∧0≤l.start∧l.start<r.length∧0≤l.most∧l.most≤1000000000000:=by omega
      exact q _ _ O.same ⟨fun _=>⟨num,.inl (by omega)⟩,fun _=>rfl⟩
    · have hm:=hb.mp (by assumption)
      have num:0≤l.day∧l.day≤1000000∧0≤l.start∧l.start<r.length∧0≤l.most∧l.most≤1000000000000:=by omega
      refine ⟨a,r,l.start,rfl,hA,hR,by omega,by omega,hn,O.got fun lw H2 xs O e=>?_⟩
      subst e
      refine ⟨1,rfl,lw,_,rfl,O.sq 0,fun l1 h1=>?_⟩
      walk_at "nw"
      rw [show qm ((Rv.walk r l.start).map V.int) (some 1) none=((Rv.walk r l.start).drop 1).map V.int from jB _ 1] at O
      refine ⟨l1,_,rfl,.inl (O.sq 0),rfl,jX _,?_⟩
      rw [if_neg Bool.false_ne_true,oN]
      refine q _ _ O.same ?_
      rw [decide_eq_true_iff]
      exact ⟨fun h=>⟨num,.inr h⟩,fun h=>h.2.resolve_left (by omega)⟩
    · refine no fun z=>?_
      have:=hb.mpr ⟨z.2.2.2.2.1,z.2.2.2.2.2⟩
      simp_all
abbrev bQ:Stmt:=top 36
theorem jH:aL ["script","k"] ["script","k"] (ak bQ):=⟨rfl,rfl,rfl,by decide +kernel,rfl,by decide +kernel,by decide +kernel⟩
def rK (K:PySem.W.Frag):Sp:=fun vs H Q _=>∃ (a:Addr) (ns:List Int) (k:Nat),vs=[.ref a,.int (k:Int)]∧SqL K H a (ns.map V.int)∧Q (.int (ns.getD k 0)) H
theorem Em {f:Addr} {fd:FuncData} (D:Df K mg "_law_cell_at" bQ ["script","k"] f fd) (B:Blt mg):cj P w K mg base CX0 1 f fd ["script","k"] (rK K):=by
  refine D.F.ok jH (fun vs H Q E h=>?_) (fun cdv A outer s H vs Q E hr h=>?_)
  · obtain ⟨a,ns,k,rfl,_⟩:=h;rfl
  · obtain ⟨a,ns,k,rfl,hS,q⟩:=h
    refine ⟨_,(au (d8 (aW qI (pv 1) (aJ aF rfl B.len PySem.boot_len (aj (pv 0) aA)) (bC _))
        (aC (aV (aP aD (pv 0) (pv 1) (fun _ _=>rfl))))
        aZ)
      (aC (aV aB))),?_⟩
    refine ⟨_,rfl,_,rfl,a,_,rfl,.inl hS,_,_,rfl,rfl,_,rfl,?_⟩
    refine Mt (fun h=>?_) (fun h=>?_)
    · have hk:k<ns.length:=by
        have:=of_decide_eq_true h
        rw [List.length_map] at this;omega
      have e:ns[k]?=some (ns.getD k 0):=by rw [List.getD_eq_getElem?_getD,List.getElem?_eq_getElem hk];rfl
      exact ⟨_,rfl,_,rfl,a,_,_,_,rfl,rfl,hS,aX e,q⟩
    · have hk:¬ k<ns.length:=fun z=>h (decide_eq_true (by rw [List.length_map];omega))
      have e:ns.getD k 0=0:=by rw [List.getD_eq_getElem?_getD,List.getElem?_eq_none (by omega)];rfl
      rw [e] at q
      exact q
abbrev cD:Stmt:=top 37
theorem lK:aL ["found"] ["found"] (ak cD):=⟨rfl,rfl,rfl,by decide +kernel,rfl,by decide +kernel,by decide +kernel⟩
def pH:Sp:=fun vs H Q _=>∃ (z:Int),vs=[.int z]∧Q (.bl true) H
theorem vY (K:PySem.W.Frag):PySem.W.kitOne K (.type "int") (.type "int")=some true:=by rfl
theorem vZ (K:PySem.W.Frag):PySem.W.kitOne K (.type "int") (.type "bool")=some false:=by rfl
theorem vX (K:PySem.W.Frag):PySem.W.kitOne K (.type "list") (.type "list")=some true:=by rfl
theorem uJ {f:Addr} {fd:FuncData} (D:Df K mg "_law_whole" cD ["found"] f fd) (B:Blt mg):cj P w K mg base CX0 1 f fd ["found"] pH:=by
  refine D.F.ok lK (fun vs H Q E h=>?_) (fun cdv A outer s H vs Q E hr h=>?_)
  · obtain ⟨z,rfl,_⟩:=h;rfl
  · obtain ⟨z,rfl,q⟩:=h
    refine ⟨_,(aC (aV (sG (aJ iI rfl B.isinstance PyProof.Rows.boot_isinstance (aj (pv 0) (aj (jM (v:=.ty "int") rfl B.int PyProof.Rows.boot_int rfl) aA))) (nj (Gk (aJ iI rfl B.isinstance PyProof.Rows.boot_isinstance (aj (pv 0) (aj (jM (v:=.ty "bool") rfl B.bool PyProof.Rows.boot_bool rfl) aA)))))))),?_⟩
    refine ⟨_,rfl,_,_,_,true,rfl,.int _,vY K,_,rfl,qd ?_⟩
    exact ⟨_,rfl,_,_,_,false,rfl,.int _,vZ K,_,rfl,q⟩
def iV (x:Str):Prop:=1≤x.cps.size∧x.cps.size≤8∧∀ c∈x.cps.toList,97≤c∧c≤122
theorem sZ:∀ c:Nat,97≤c→c≤122→(!(Builtin.Str.occurrences ("abcdefghijklmnopqrstuvwxyz":Str) ⟨#[c]⟩ 0 ("abcdefghijklmnopqrstuvwxyz":Str).length 1).isEmpty)=true:=by
  have h:∀ k:Fin 26,(!(Builtin.Str.occurrences ("abcdefghijklmnopqrstuvwxyz":Str) ⟨#[97 + k.val]⟩ 0 ("abcdefghijklmnopqrstuvwxyz":Str).length 1).isEmpty)=true:=by decide +kernel
  intro c h0 h1
  have:=h ⟨c - 97,by omega⟩
  rwa [show 97 + (c - 97)=c by omega] at this
abbrev dZ:Stmt:=top 6
theorem qG:aL ["text"] ["text"] (ak dZ):=⟨rfl,rfl,rfl,by decide +kernel,rfl,by decide +kernel,by decide +kernel⟩
def mU (T:eZ):Sp:=fun vs H Q _=>∃ (x:Str),vs=[.str x]∧iV x∧TabsOk T H∧∀ H',bD T H H'→Q (.bl true) H'
structure CN (mg:Str→Option Value):Prop where
  LONGEST_NAME:∃ t,mg "LONGEST_NAME"=some (.int 8 t)
  LETTERS:∃ t,mg "LETTERS"=some (.str "abcdefghijklmnopqrstuvwxyz" t)
theorem sO {f:Addr} {fd:FuncData} (D:Df K mg "is_name" dZ ["text"] f fd) (B:Blt mg) (CN:CN mg):cj P w K mg base CX0 1 f fd ["text"] (mU T):=by
  obtain ⟨tM,hLONGEST_NAME⟩:=CN.LONGEST_NAME
  obtain ⟨tL,hLETTERS⟩:=CN.LETTERS
  refine D.F.ok qG (fun vs H Q E h=>?_) (fun cdv A outer s H vs Q E hr h=>?_)
  · obtain ⟨_,rfl,_⟩:=h;rfl
  · obtain ⟨x,rfl,⟨n1,n8,nc⟩,tk,q⟩:=h
    have hu:=hr.units
    have O:=Ow.refl tk
    refine ⟨_,(aC (aV (sG (lR jN jN aB (aJ nG rfl B.len PySem.boot_len (aj (pv 0) aA)) (eU (v:=.int (8)) rfl hLONGEST_NAME ⟨_,rfl⟩)) (nj (aJ (mD rfl) rfl B.all PyProof.Rows.boot_all (aj (jL (ak dZ) rfl ["text"] rfl ["sign"] [none] (by decide +kernel) (by decide +kernel) (by decide +kernel) rfl (Gg (pv 0)) (fun _ _ _=>(dJ (i:=0) (show (["sign"]:List Str).Nodup by decide +kernel) rfl (Or.inl rfl))) (fun _ _ _=>jc) (fun _ _ _=>(gP sJ (pv 0) (eU (v:=.str "abcdefghijklmnopqrstuvwxyz") rfl hLETTERS ⟨_,rfl⟩) (by rfl)))) aA)))))),?_⟩
    have hl:x.length=x.cps.size:=rfl
    refine ⟨_,rfl,x,rfl,(by rw [hl,sizeLine_eq];omega),_,_,rfl,rfl,?_⟩
    refine ⟨_,rfl,?_⟩
    rw [decide_eq_true (show (1:Int)≤(x.length:Int) by omega)]
    refine qd ⟨_,_,rfl,rfl,_,rfl,?_⟩
    rw [decide_eq_true (show (x.length:Int)≤8 by omega)]
    refine qd ?_
    refine ⟨_,rfl,x,rfl,?_,fun lw hlw=>?_⟩
    · rw [Array.all_eq_true]
      intro i hi
      have:=nc _ (Array.getElem_mem_toList hi)
      exact decide_eq_true (by omega)
    refine vB (fun i τ H'=>Iv (∃ (v0:Option V),τ=[v0]∧Ow T H H' [(lw,.lst ((List.replicate i true).map V.bl))])) ⟨trivial,none,rfl,O.mk' hlw rfl⟩ ?_ ?_
    · rintro i c τ H4 hc ⟨-,v0,rfl,O⟩
      have hi:i<x.cps.size:=by
        rcases Nat.lt_or_ge i x.cps.size with h | h
        · exact h
        · rw [Array.getElem?_eq_none h] at hc;cases hc
      have hm:c∈x.cps.toList:=by
        rw [Array.getElem?_eq_getElem hi] at hc
        cases hc;exact Array.getElem_mem_toList hi
      have:=nc c hm
      refine Fo ?_
      refine ⟨_,rfl,_,_,rfl,rfl,?_⟩
      rw [sZ c this.1 this.2]
      refine ⟨_,O.get 0,bw (by rw [List.length_map,List.length_replicate];omega),?_⟩
      walk_at "pt"
      refine ⟨trivial,_,rfl,?_⟩
      rw [List.replicate_succ',List.map_append];exact O
    rintro τ H4 ⟨-,v0,rfl,O⟩
    refine ⟨lw,_,rfl,O.sq 0,?_⟩
    rw [show (List.replicate x.cps.size true).all id=true by simp]
    exact q _ O.same
abbrev bM:Stmt:=top 33
theorem jF:aL ["name"] ["name"] (ak bM):=⟨rfl,rfl,rfl,by decide +kernel,rfl,by decide +kernel,by decide +kernel⟩
def jD (T:eZ):Sp:=fun vs H Q _=>∃ (x:Str),vs=[.str x]∧iV x∧TabsOk T H∧∀ H',bD T H H'→Q .non H'
theorem oG {f f1:Addr} {fd fd1:FuncData} (D:Df K mg "look_at_name" bM ["name"] f fd)
    (gB:Df K mg "is_name" dZ ["text"] f1 fd1) (uo:cj P w K mg base CX0 1 f1 fd1 ["text"] (mU T)):cj P w K mg base CX0 2 f fd ["name"] (jD T):=by
  refine D.F.ok jF (fun vs H Q E h=>?_) (fun cdv A outer s H vs Q E hr h=>?_)
  · obtain ⟨_,rfl,_⟩:=h;rfl
  · obtain ⟨x,rfl,nx,tk,q⟩:=h
    refine ⟨_,(aC (d8 (gj (gb (bB uo (hr.mono (by decide)) rfl gB.m gB.F.kp gB.b .nil cA (aj (pv 0) aA))))
        (aC iR)
        aZ)),?_⟩
    refine ⟨_,rfl,x,rfl,nx,tk,fun H1 s1=>?_⟩
    refine ⟨_,rfl,jr ?_⟩
    exact q _ s1
structure Rs where
  p:Addr
  dx:Addr
  lb:Addr
  ll:Addr
  ln:Addr
  lo:Addr
abbrev fZ:List Str:=["below","day","licences","names","done"]
abbrev Fq (C:Addr) (A:Rs) (day:Int):HO:=.ins C A.dx [("below",.ref A.lb),("day",.int day),("licences",.ref A.ll),("names",.ref A.ln),("done",.ref A.lo)]
abbrev RL (C:Addr) (A:Rs) (r:List Int) (day:Int) (us:List V) (ns:List Str) (ds:List V):List (Addr × HO) :=
  [(A.p,Fq C A day),(A.dx,.own A.p),(A.lb,.lst (r.map V.int)),(A.ll,.lst us),(A.ln,.lst (ns.map V.str)),(A.lo,.lst ds)]
section
variable {K:PySem.W.Frag} {mg:Str→Option Value} {C f0:Addr}
theorem _root_.L2.Cl.nB (R:Cl K mg "Roll" C f0 fZ):gw K C "below":=R.n _ (.head _)
theorem _root_.L2.Cl.nD (R:Cl K mg "Roll" C f0 fZ):gw K C "day":=R.n _ (.tail _ (.head _))
theorem _root_.L2.Cl.nL (R:Cl K mg "Roll" C f0 fZ):gw K C "licences":=R.n _ (.tail _ (.tail _ (.head _)))
theorem _root_.L2.Cl.nN (R:Cl K mg "Roll" C f0 fZ):gw K C "names":=R.n _ (.tail _ (.tail _ (.tail _ (.head _))))
theorem _root_.L2.Cl.nO (R:Cl K mg "Roll" C f0 fZ):gw K C "done":=R.n _ (.tail _ (.tail _ (.tail _ (.tail _ (.head _)))))
end
theorem Gb (A:Rs) (day:Int) (z:V):mJ "day" z [("below",.ref A.lb),("day",.int day),("licences",.ref A.ll),("names",.ref A.ln),("done",.ref A.lo)]=([("below",.ref A.lb),("day",z),("licences",.ref A.ll),("names",.ref A.ln),("done",.ref A.lo)]:List (Str × V)):=rfl
def lF (K:PySem.W.Frag) (C:Addr) (y:Str):Sp:=fun vs H Q _=>∃ (p dx l:Addr) (fs:List (Str × V)) (us:List V),vs=[.ref p]∧H p=some (.ins C dx fs)∧fs.lookup y=some (.ref l)∧SqL K H l us∧∀ l',H l'=none→Q (.ref l') (upd H l' (.lst us))
abbrev dh:Stmt:=inClass (top 34) 2
theorem mZ:aL ["self"] ["self"] (ak dh):=⟨rfl,rfl,rfl,by decide +kernel,rfl,by decide +kernel,by decide +kernel⟩
section
variable {P:Program} {w:World} {K:PySem.W.Frag} {mg:Str→Option Value} {base:Heap} {C f0:Addr}
theorem uT {f:Addr} {fd:FuncData} (D:Dm K C "roll" "Roll.roll" dh ["self"] f fd) (B:Blt mg) (R:Cl K mg "Roll" C f0 fZ):cj P w K mg base CX0 1 f fd ["self"] (lF K C "licences"):=by
  refine D.F.ok mZ (fun vs H Q E h=>?_) (fun cdv A outer s H vs Q E hr h=>?_)
  · obtain ⟨_,_,_,_,_,rfl,_⟩:=h;rfl
  · obtain ⟨p,dx,l,fs,us,rfl,hp,hf,hl,q⟩:=h
    refine ⟨_,(aC (aV (fJ fW rfl B.list PyProof.Rows.boot_list (aj (dO (pv 0) rfl) aA)))),?_⟩
    exact ⟨_,rfl,p,C,dx,fs,.ref l,rfl,hp,R.c,R.nL,hf,l,us,rfl,.inl hl,q⟩
end
abbrev bR:Stmt:=inClass (top 34) 3
theorem jJ:aL ["self"] ["self"] (ak bR):=⟨rfl,rfl,rfl,by decide +kernel,rfl,by decide +kernel,by decide +kernel⟩
section
variable {P:Program} {w:World} {K:PySem.W.Frag} {mg:Str→Option Value} {base:Heap} {C f0:Addr}
theorem oK {f:Addr} {fd:FuncData} (D:Dm K C "holders" "Roll.holders" bR ["self"] f fd) (B:Blt mg) (R:Cl K mg "Roll" C f0 fZ):cj P w K mg base CX0 1 f fd ["self"] (lF K C "names"):=by
  refine D.F.ok jJ (fun vs H Q E h=>?_) (fun cdv A outer s H vs Q E hr h=>?_)
  · obtain ⟨_,_,_,_,_,rfl,_⟩:=h;rfl
  · obtain ⟨p,dx,l,fs,us,rfl,hp,hf,hl,q⟩:=h
    refine ⟨_,(aC (aV (fJ fW rfl B.list PyProof.Rows.boot_list (aj (dO (pv 0) rfl) aA)))),?_⟩
    exact ⟨_,rfl,p,C,dx,fs,.ref l,rfl,hp,R.c,R.nN,hf,l,us,rfl,.inl hl,q⟩
end
abbrev dg:Stmt:=inClass (top 34) 5
theorem mY:aL ["self"] ["self"] (ak dg):=⟨rfl,rfl,rfl,by decide +kernel,rfl,by decide +kernel,by decide +kernel⟩
def rC (T:eZ) (C:Addr):Sp:=fun vs H Q _=>∃ (A:Rs) (H0:Hp) (B:List (Addr × HO)) (r:List Int) (day:Int) (us:List V) (ns:List Str) (ds:List V),vs=[.ref A.p]∧Ow T H0 H (RL C A r day us ns ds++B)∧ds.length≤9000 ∧
  ∀ (t:Addr) (H':Hp),Ow T H0 H' ((t,.tup [.str "turn"]) :: (RL C A r (day + 1) us ns (ds++[.ref t])++B))→Q .non H'
section
variable {P:Program} {w:World} {K:PySem.W.Frag} {mg:Str→Option Value} {base:Heap} {T:eZ} {C f0:Addr}
theorem uQ {f:Addr} {fd:FuncData} (D:Dm K C "turn" "Roll.turn" dg ["self"] f fd) (R:Cl K mg "Roll" C f0 fZ):cj P w K mg base CX0 1 f fd ["self"] (rC T C):=by
  refine D.F.ok mY (fun vs H Q E h=>?_) (fun cdv A outer s H vs Q E hr h=>?_)
  · obtain ⟨_,_,_,_,_,_,_,_,rfl,_⟩:=h;rfl
  · obtain ⟨A,H0,L,r,day,us,ns,ds,rfl,O,hd,q⟩:=h
    refine ⟨_,(au (rW (pv 0) aB GZ)
      (aC (cu (j9 PySem.F.plainAttrs_list PySem.F.slot_list_append PySem.F.type_list_append dB (dO (pv 0) rfl) (aj (iB (aj fH aA)) aA))))),?_⟩
    simp only [List.cons_append,List.nil_append] at O
    refine ⟨_,rfl,A.p,C,A.dx,_,_,rfl,O.get 0,R.c,R.nD,rfl,_,_,rfl,rfl,A.dx,_,O.get 0,(by show 5<1000;decide),?_⟩
    rw [Gb]
    walk_at "pt"
    refine ⟨_,rfl,A.p,C,A.dx,_,.ref A.lo,rfl,O.get 0,R.c,R.nO,rfl,.inl ⟨rfl,_,O.sq 5⟩,szl,fun t ht=>?_⟩
    walk_at "nw"
    refine ⟨A.lo,_,_,rfl,rfl,O.get 6,bw (by omega),?_⟩
    walk_at "pt"
    exact q t _ O
end
abbrev cI:Stmt:=inClass (top 34) 13
theorem lO:aL ["self","one","holder"] ["self","one","holder"] (ak cI):=⟨rfl,rfl,rfl,by decide +kernel,rfl,by decide +kernel,by decide +kernel⟩
def pP (C:Addr):Sp:=fun vs H Q _=>∃ (A:Rs) (day:Int) (us:List V) (ns:List V) (v x:V),vs=[.ref A.p,v,x]∧H A.p=some (Fq C A day)∧H A.ll=some (.lst us)∧H A.ln=some (.lst ns)∧us.length≤900∧ns.length≤900∧A.p≠A.ll∧A.p≠A.ln∧A.ln≠A.ll ∧
  Q (.int us.length) (upd (upd H A.ll (.lst (us++[v]))) A.ln (.lst (ns++[x])))
section
variable {P:Program} {w:World} {K:PySem.W.Frag} {mg:Str→Option Value} {base:Heap} {T:eZ} {C f0:Addr}
theorem sU {f:Addr} {fd:FuncData} (D:Dm K C "enter" "Roll.enter" cI ["self","one","holder"] f fd) (B:Blt mg) (R:Cl K mg "Roll" C f0 fZ):cj P w K mg base CX0 1 f fd ["self","one","holder"] (pP C):=by
  refine D.F.ok lO (fun vs H Q E h=>?_) (fun cdv A outer s H vs Q E hr h=>?_)
  · obtain ⟨_,_,_,_,_,_,rfl,_⟩:=h;rfl
  · obtain ⟨A,day,us,ns,v,x,rfl,hp,hl,hn,ul,nl,n1,n2,n3,q⟩:=h
    refine ⟨_,(au (cu (j9 PySem.F.plainAttrs_list PySem.F.slot_list_append PySem.F.type_list_append dB (dO (pv 0) rfl) (aj (pv 1) aA)))
      (au (cu (j9 PySem.F.plainAttrs_list PySem.F.slot_list_append PySem.F.type_list_append dB (dO (pv 0) rfl) (aj (pv 2) aA)))
      (aC (aV (bJ vQ (aJ aF rfl B.len PySem.boot_len (aj (dO (pv 0) rfl) aA)) aB))))),?_⟩
    refine ⟨_,rfl,A.p,C,A.dx,_,.ref A.ll,rfl,hp,R.c,R.nL,rfl,.inl ⟨rfl,_,SqL.of hl⟩,_,rfl,A.ll,_,_,rfl,rfl,hl,bw (by omega),?_⟩
    have hp:=(aY (H:=H) (o:=.lst (us++[v])) n1).trans hp
    have hn:=(aY (H:=H) (o:=.lst (us++[v])) n3).trans hn
    have hl:upd H A.ll (.lst (us++[v])) A.ll=some (.lst (us++[v])):=bI
    refine ⟨_,rfl,A.p,C,A.dx,_,.ref A.ln,rfl,hp,R.c,R.nN,rfl,.inl ⟨rfl,_,SqL.of hn⟩,_,rfl,A.ln,_,_,rfl,rfl,hn,bw (by omega),?_⟩
    have hp:=(aY (o:=.lst (ns++[x])) n2).trans hp
    have hl:=(aY (o:=.lst (ns++[x])) n3.symm).trans hl
    refine ⟨_,rfl,A.p,C,A.dx,_,.ref A.ll,rfl,hp,R.c,R.nL,rfl,A.ll,_,rfl,.inl (SqL.of hl),_,_,rfl,rfl,?_⟩
    dsimp only
    rw [show (((us++[v]).length:Nat):Int) - 1=(us.length:Int) by rw [List.length_append];simp]
    exact q
end
abbrev aO:Stmt:=inClass (top 34) 17
theorem iw:aL ["self"] ["self"] (ak aO):=⟨rfl,rfl,rfl,by decide +kernel,rfl,by decide +kernel,by decide +kernel⟩
def rD (K:PySem.W.Frag) (C:Addr):Sp:=fun vs H Q _=>∃ (A:Rs) (day:Int) (us:List V),vs=[.ref A.p]∧H A.p=some (Fq C A day)∧SqL K H A.ll us∧us.length<60∧Q .non H
section
variable {P:Program} {w:World} {K:PySem.W.Frag} {mg:Str→Option Value} {base:Heap} {T:eZ} {C f0:Addr}
theorem uR {f:Addr} {fd:FuncData} (D:Dm K C "look_at_room" "Roll.look_at_room" aO ["self"] f fd) (B:Blt mg) (R:Cl K mg "Roll" C f0 fZ) (CL:∃ t,mg "MOST_LICENCES"=some (.int 60 t)):cj P w K mg base CX0 1 f fd ["self"] (rD K C):=by
  obtain ⟨tL,hMOST_LICENCES⟩:=CL
  refine D.F.ok iw (fun vs H Q E h=>?_) (fun cdv A outer s H vs Q E hr h=>?_)
  · obtain ⟨_,_,_,rfl,_⟩:=h;rfl
  · obtain ⟨A,day,us,rfl,hp,hl,hn,q⟩:=h
    refine ⟨_,(aC (d8 (aW Gn (aJ aF rfl B.len PySem.boot_len (aj (dO (pv 0) rfl) aA)) (eU (v:=.int (60)) rfl hMOST_LICENCES ⟨_,rfl⟩) (bC _))
        (aC iR)
        aZ)),?_⟩
    refine ⟨_,rfl,A.p,C,A.dx,_,.ref A.ll,rfl,hp,R.c,R.nL,rfl,A.ll,_,rfl,.inl hl,_,_,rfl,rfl,_,rfl,?_⟩
    rw [decide_eq_false (show ¬ (60:Int)≤(us.length:Int) by omega)]
    exact jr q
end
theorem Ec {j:Nat} {σ:St} {H:Hp} {Q:VK} {bv:V} {stop:Int} (hb:bv=.non∧stop=-1∨bv=.int stop) (hj:σ[j]?=some (some bv)) (h:Q (.int stop) H) :
    tIf (DY (tOp (fun x y H Q=>y=V.non∧Q (V.bl (decide (x=V.non))) H) (Mr j) (tC V.non))) (tC (V.int (-1))) (Mr j) σ H Q:=by
  refine ⟨bv,hj,rfl,_,rfl,?_⟩
  rcases hb with ⟨rfl,rfl⟩ | rfl
  · exact qd h
  · exact jr ⟨_,hj,h⟩
abbrev dw:Stmt:=inClass (top 34) 6
theorem gK:aL ["self","holder","start","most","back","stop","one"] ["self","holder","start","most","back"] (ak dw):=⟨rfl,rfl,rfl,by decide +kernel,rfl,by decide +kernel,by decide +kernel⟩
abbrev PL (x:Str) (l:Lic):List V:=[.str "file",.str x,.int l.start,.int l.most,.int l.back]
def rG (T:eZ) (C:Addr):Sp:=fun vs H Q _=>∃ (A:Rs) (H0:Hp) (B:List (Addr × HO)) (r:List Int) (day:Int) (us:List V) (ns:List Str) (ds:List V) (x:Str) (l:Lic) (bv:V),vs=[.ref A.p,.str x,.int l.start,.int l.most,bv]∧(bv=.non∧l.back=-1∨bv=.int l.back)∧l.day=day ∧
  Ow T H0 H (RL C A r day us ns ds++B)∧iV x∧Rv.iJ r∧r.length≤40∧oZ r l∧l.most≠0∧us.length<60∧ns.length≤900∧ds.length≤9000 ∧
  ∀ (t1 t2:Addr) (H':Hp),Ow T H0 H' ((t2,.tup (PL x l)) :: (t1,.tup (mH l)) :: (RL C A r day (us++[.ref t1]) (ns++[x]) (ds++[.ref t2])++B))→Q (.int us.length) H'
section
variable {P:Program} {w:World} {K:PySem.W.Frag} {mg:Str→Option Value} {base:Heap} {T:eZ} {C f0:Addr}
theorem uW {f f1 f2 f3 f4:Addr} {fd fd1 fd2 fd3 fd4:FuncData} (D:DmD K C "file" "Roll.file" dw ["self","holder","start","most","back"] f fd) (B:Blt mg) (CM:Mth mg) (R_Roll:Cl K mg "Roll" C f0 fZ)
    (cT:Df K mg "look_at_name" bM ["name"] f1 fd1) (kI:cj P w K mg base CX0 2 f1 fd1 ["name"] (jD T))
    (bF:Df K mg "is_licence" bY ["below","one"] f2 fd2) (gR:cj P w K mg base CX0 2 f2 fd2 ["below","one"] (lG K T))
    (bU:Dm K C "look_at_room" "Roll.look_at_room" aO ["self"] f3 fd3) (iK:cj P w K mg base CX0 1 f3 fd3 ["self"] (rD K C))
    (eO:Dm K C "enter" "Roll.enter" cI ["self","one","holder"] f4 fd4) (nZ:cj P w K mg base CX0 1 f4 fd4 ["self","one","holder"] (pP C)) :
    cj P w K mg base CX0 3 f fd ["self","holder","start","most","back"] (rG T C):=by
  obtain ⟨tM,hMOUTH⟩:=CM.MOUTH
  have R:=R_Roll
  refine D.F.ok gK (fun vs H Q E h=>?_) (fun cdv A outer s H vs Q E hr h=>?_)
  · obtain ⟨_,_,_,_,_,_,_,_,_,_,_,rfl,_⟩:=h;rfl
  · obtain ⟨A,H0,L,r,day,us,ns,ds,x,l,bv,rfl,hb,rfl,O,nx,hR,r40,hl,m0,ul,nl,dl,q⟩:=h
    refine ⟨_,(au (cu (bB kI (hr.mono (by decide)) rfl cT.m cT.F.kp cT.b .nil cA (aj (pv 1) aA)))
      (au (bT (i:=5) gK.nd rfl (Or.inl rfl) (uH (aW sI (pv 4) jK (bC _)) (eU (v:=.int (-1)) rfl hMOUTH ⟨_,rfl⟩) (pv 4)))
      (au (bT (i:=6) gK.nd rfl (Or.inl rfl) (iB (aj (dO (pv 0) rfl) (aj (pv 2) (aj (pv 5) (aj (pv 3) aA))))))
      (au (d8 (PW.pt (pw_or (aW lV (pv 3) aB (bC _)) (pw_or1 (gj (gb (bB gR (hr.mono (by decide)) rfl bF.m bF.F.kp bF.b .nil cA (aj (dO (pv 0) rfl) (aj (pv 6) aA))))))))
        (aC iR)
        aZ)
      (au (cu (fj (pv 0) R_Roll.c bU.m iK (hr.mono (by decide)) bU.b .nil cA))
      (au (cu (j9 PySem.F.plainAttrs_list PySem.F.slot_list_append PySem.F.type_list_append dB (dO (pv 0) rfl) (aj (iB (aj fH (aj (pv 1) (aj (pv 2) (aj (pv 3) (aj (pv 5) aA)))))) aA)))
      (aC (aV (gO (pv 0) R_Roll.c eO.m nZ (hr.mono (by decide)) eO.b .nil cA (aj (pv 6) (aj (pv 1) aA))))))))))),?_⟩
    simp only [List.cons_append,List.nil_append] at O
    refine ⟨_,rfl,x,rfl,nx,O.same.t1,fun H1 s1=>?_⟩
    have O:=O.kE s1
    refine Ec hb rfl ?_
    refine ⟨_,rfl,A.p,C,A.dx,_,.int l.day,rfl,O.get 0,R.c,R.nD,rfl,_,rfl,_,rfl,_,rfl,szl,fun t1 ht1=>?_⟩
    walk_at "nw"
    refine ⟨_,rfl,rfl,_,rfl,?_⟩
    rw [decide_eq_false (show ¬ V.int l.most=V.int 0 from fun z=>m0 (V.int.inj z))]
    refine jr ?_
    refine ⟨_,rfl,A.p,C,A.dx,_,.ref A.lb,rfl,O.get 1,R.c,R.nB,rfl,_,rfl,A.lb,t1,r,l,rfl,O.sq 3,hR,by omega,O.sqT 0,O.same.t1,fun b H2 s2 hb2=>?_⟩
    have hbt:b=true:=hb2.mpr hl
    subst hbt
    have O:=O.kE s2
    refine ⟨_,rfl,jr ?_⟩
    refine ⟨_,rfl,A.p,A.dx,_,rfl,O.get 1,rfl,A,l.day,us,rfl,O.get 1,O.sq 4,ul,?_⟩
    refine ⟨_,rfl,A.p,C,A.dx,_,.ref A.lo,rfl,O.get 1,R.c,R.nO,rfl,.inl ⟨rfl,_,O.sq 6⟩,_,rfl,_,rfl,_,rfl,_,rfl,szl,fun t2 ht2=>?_⟩
    walk_at "nw"
    refine ⟨A.lo,_,_,rfl,rfl,O.get 7,bw (by omega),?_⟩
    walk_at "pt"
    refine ⟨_,rfl,A.p,A.dx,_,rfl,O.get 2,rfl,_,rfl,_,rfl,A,l.day,us,ns.map V.str,.ref t1,.str x,rfl,O.get 2,O.get 5,O.get 6,by omega,by rw [List.length_map];exact nl,O.ne 2 5,O.ne 2 6,O.ne 6 5,?_⟩
    have O:=(O.Ms 5 rfl (o':=.lst (us++[.ref t1])) rfl).Ms 6 rfl (o':=.lst (ns.map V.str++[.str x])) rfl
    refine q t1 t2 _ ?_
    simp only [RL,List.map_append,List.map_cons,List.map_nil];exact O
end
abbrev bA:Stmt:=inClass (top 34) 0
theorem jq:aL ["self","below"] ["self","below"] (ak bA):=⟨rfl,rfl,rfl,by decide +kernel,rfl,by decide +kernel,by decide +kernel⟩
def rF (T:eZ) (C:Addr):Sp:=fun vs H Q _=>∃ (p dx lv:Addr) (H0:Hp) (B:List (Addr × HO)) (r:List Int),vs=[.ref p,.ref lv]∧Ow T H0 H ((p,.ins C dx []) :: (dx,.own p) :: B)∧H lv=some (.lst (r.map V.int))∧lv≠p∧Rv.isR r=true∧r.length≤40 ∧
  ∀ (A:Rs) (H':Hp),A.p=p→Ow T H0 H' (RL C A r 0 [] [] []++B)→Q .non H'
section
variable {P:Program} {w:World} {K:PySem.W.Frag} {mg:Str→Option Value} {base:Heap} {T:eZ} {C f0:Addr}
theorem uV {f f1:Addr} {fd fd1:FuncData} (D:Dm K C "__init__" "Roll.__init__" bA ["self","below"] f fd) (B:Blt mg) (R:Cl K mg "Roll" C f0 fZ)
    (fB:Df K mg "is_river" cO ["below"] f1 fd1) (qR:cj P w K mg base CX0 2 f1 fd1 ["below"] (vO K)) :
    cj P w K mg base CX0 3 f fd ["self","below"] (rF T C):=by
  refine D.F.ok jq (fun vs H Q E h=>?_) (fun cdv A outer s H vs Q E hr h=>?_)
  · obtain ⟨_,_,_,_,_,_,rfl,_⟩:=h;rfl
  · obtain ⟨p,dx,lv,H0,L,r,rfl,O,hv,hne,hR,r40,q⟩:=h
    refine ⟨_,(au (d8 (gj (gb (bB qR (hr.mono (by decide)) rfl fB.m fB.F.kp fB.b .nil cA (aj (pv 1) aA))))
        (aC iR)
        aZ)
      (au (m8 (pv 0) (fJ fW rfl B.list PyProof.Rows.boot_list (aj (pv 1) aA)) rfl)
      (au (m8 (pv 0) aB rfl)
      (au (m8 (pv 0) (eE aA) rfl)
      (au (m8 (pv 0) (eE aA) rfl)
      (aC (m8 (pv 0) (eE aA) rfl))))))),?_⟩
    refine ⟨_,rfl,lv,r,rfl,SqL.of hv,by omega,fun H1 s1=>?_⟩
    rw [hR]
    refine ⟨_,rfl,jr ?_⟩
    have hv:=s1 _ _ hv
    have O:=O.call s1
    refine ⟨_,rfl,lv,_,rfl,.inl (SqL.of hv),fun lb hlb=>?_⟩
    walk_at "nw"
    refine ⟨_,rfl,p,C,dx,_,rfl,O.get 1,R.c,R.nB,(by show 0<1000;decide),?_⟩
    walk_at "pt"
    refine ⟨_,rfl,p,C,dx,_,rfl,O.get 1,R.c,R.nD,(by show 1<1000;decide),?_⟩
    walk_at "pt"
    refine ⟨szl,fun ll hll=>?_⟩
    walk_at "nw"
    refine ⟨_,rfl,p,C,dx,_,rfl,O.get 2,R.c,R.nL,(by show 2<1000;decide),?_⟩
    walk_at "pt"
    refine ⟨szl,fun ln hln=>?_⟩
    walk_at "nw"
    refine ⟨_,rfl,p,C,dx,_,rfl,O.get 3,R.c,R.nN,(by show 3<1000;decide),?_⟩
    walk_at "pt"
    refine ⟨szl,fun lo hlo=>?_⟩
    walk_at "nw"
    refine ⟨_,rfl,p,C,dx,_,rfl,O.get 4,R.c,R.nO,(by show 4<1000;decide),?_⟩
    walk_at "pt"
    have O:=((((O.pull 1 rfl).pull 2 rfl).pull 3 rfl).pull 5 rfl).pull 5 rfl
    exact q ⟨p,dx,lb,ll,ln,lo⟩ _ rfl O
end
abbrev FZ:Stmt:=top 28
abbrev cX:Stmt:=top 30
theorem mW:aL ["one","most"] ["one","most"] (ak cX):=⟨rfl,rfl,rfl,by decide +kernel,rfl,by decide +kernel,by decide +kernel⟩
def wm (l:Lic) (m:Int):Lic:=⟨l.day,l.start,l.back,m⟩
def FT (K:PySem.W.Frag):Sp:=fun vs H Q _=>∃ (a:Addr) (l:Lic) (m:Int),vs=[.ref a,.int m]∧SqT K H a (mH l)∧∀ t,H t=none→Q (.ref t) (upd H t (.tup (mH (wm l m))))
theorem Nh {f:Addr} {fd:FuncData} (D:Df K mg "with_most" cX ["one","most"] f fd):cj P w K mg base CX0 1 f fd ["one","most"] (FT K):=by
  refine D.F.ok mW (fun vs H Q E h=>?_) (fun cdv A outer s H vs Q E hr h=>?_)
  · obtain ⟨_,_,_,rfl,_⟩:=h;rfl
  · obtain ⟨a,l,m,rfl,hT,q⟩:=h
    refine ⟨_,(aC (aV (iB (aj (aP eY (pv 0) aB (fun _ _=>rfl)) (aj (aP eY (pv 0) aB (fun _ _=>rfl)) (aj (aP eY (pv 0) aB (fun _ _=>rfl)) (aj (pv 1) aA))))))),?_⟩
    exact ⟨_,rfl,a,_,0,_,rfl,rfl,hT,rfl,_,rfl,a,_,1,_,rfl,rfl,hT,rfl,_,rfl,a,_,2,_,rfl,rfl,hT,rfl,_,rfl,szl,q⟩
abbrev cZ:Stmt:=top 38
theorem jj:aL ["cell","place","spot"] ["cell","place"] (ak cZ):=⟨rfl,rfl,rfl,by decide +kernel,rfl,by decide +kernel,by decide +kernel⟩
def dv (c k:Int):Int:=(c % 999983 + 400009 + 7001 * k) * (c % 999983 + 400009 + 7001 * k) * (c % 999983 + 400009 + 7001 * k) * (2 * k + 3) % 1000000007
theorem Py (c k:Int):0≤dv c k:=Int.emod_nonneg _ (by decide)
theorem Pz (c k:Int):dv c k<1000000007:=Int.emod_lt_of_pos _ (by decide)
def FW:Sp:=fun vs H Q _=>∃ (c k:Int),vs=[.int c,.int k]∧0≤k∧k≤1000∧Q (.int (dv c k)) H
theorem Ni {f:Addr} {fd:FuncData} (D:Df K mg "_law_draw" cZ ["cell","place"] f fd):cj P w K mg base CX0 1 f fd ["cell","place"] FW:=by
  refine D.F.ok jj (fun vs H Q E h=>?_) (fun cdv A outer s H vs Q E hr h=>?_)
  · obtain ⟨c,k,rfl,_⟩:=h;rfl
  · obtain ⟨c,k,rfl,h0,h1,q⟩:=h
    have a0:=Int.emod_nonneg c (show (999983:Int)≠0 by decide)
    have a1:=Int.emod_lt_of_pos c (show (0:Int)<999983 by decide)
    refine ⟨_,(au (bT (i:=2) jj.nd rfl (Or.inl rfl) (bJ jm (bJ jm (bJ cV (pv 0) aB) aB) (bJ iC aB (pv 1))))
      (aC (aV (bJ cV (bJ iC (bJ iC (bJ iC (pv 2) (pv 2)) (pv 2)) (bJ jm (bJ iC aB (pv 1)) aB)) aB)))),?_⟩
    refine ⟨_,rfl,_,_,rfl,rfl,(by show (0:Int)<999983;decide),_,_,rfl,rfl,_,rfl,_,_,rfl,rfl,.inl ⟨by decide,by decide⟩,_,_,rfl,rfl,?_⟩
    exact ⟨_,rfl,_,rfl,_,_,rfl,rfl,.inl ⟨by omega,by omega⟩,_,rfl,_,_,rfl,rfl,.inr ⟨by omega,by omega⟩,_,rfl,_,_,rfl,rfl,.inl ⟨by decide,by decide⟩,_,_,rfl,rfl,_,_,rfl,rfl,.inr ⟨by omega,by omega⟩,_,_,rfl,rfl,(by show (0:Int)<1000000007;decide),q⟩
abbrev bO:Stmt:=top 39
theorem lM:aL ["cell","many"] ["cell","many"] (ak bO):=⟨rfl,rfl,rfl,by decide +kernel,rfl,by decide +kernel,by decide +kernel⟩
def dvs (c:Int) (n:Nat):List Int:=(List.range n).map fun (i:Nat)=>dv c (i:Int)
theorem vq (c:Int) (n:Nat):dvs c (n + 1)=dvs c n++[dv c (n:Int)]:=by
  unfold dvs;rw [List.range_succ,List.map_append];rfl
theorem oO (c:Int) (n:Nat):(dvs c n).length=n:=by unfold dvs;simp
theorem tO {c:Int} {n k:Nat} (h:k<n):(dvs c n)[k]?=some (dv c (k:Int)):=by
  unfold dvs;rw [List.getElem?_map,List.getElem?_range h];rfl
def rH (T:eZ):Sp:=fun vs H Q _=>∃ (c:Int) (n:Nat),vs=[.int c,.int (n:Int)]∧n≤100∧TabsOk T H∧vH T H (fun xs=>xs=(dvs c n).map V.int) Q
theorem Gy {f f1:Addr} {fd fd1:FuncData} (D:Df K mg "_law_draws" bO ["cell","many"] f fd) (B:Blt mg)
    (eH:Df K mg "_law_draw" cZ ["cell","place"] f1 fd1) (o8:cj P w K mg base CX0 1 f1 fd1 ["cell","place"] FW):cj P w K mg base CX0 2 f fd ["cell","many"] (rH T):=by
  refine D.F.ok lM (fun vs H Q E h=>?_) (fun cdv A outer s H vs Q E hr h=>?_)
  · obtain ⟨c,n,rfl,_⟩:=h;rfl
  · obtain ⟨c,n,rfl,h1,tk,q⟩:=h
    refine ⟨_,(aC (aV (jL (ak bO) rfl ["cell","many"] rfl ["place","cell"] [none,some 0] (by decide +kernel) (by decide +kernel) (by decide +kernel) rfl (gn rfl B.range (aj (pv 1) aA)) (fun _ _ _=>(dJ (i:=0) (show (["place","cell"]:List Str).Nodup by decide +kernel) rfl (Or.inl rfl))) (fun _ _ _=>jc) (fun _ _ _=>(bB o8 (hr.mono (by decide)) rfl eH.m eH.F.kp eH.b .nil cA (aj (pv 1) (aj (pv 0) aA))))))),?_⟩
    have O:=Ow.refl tk
    refine ⟨_,rfl,n,rfl,by omega,by omega,fun lw hlw=>?_⟩
    refine gq (fun i τ H'=>Iv (∃ (v0:Option V),τ=[v0,some (.int c)]∧Ow T H H' [(lw,.lst ((dvs c i).map V.int))])) ⟨trivial,none,rfl,O.mk' hlw rfl⟩ ?_ ?_
    · rintro i τ H4 hi ⟨-,v0,rfl,O⟩
      refine Fo ⟨_,rfl,_,rfl,c,_,rfl,by omega,by omega,?_⟩
      refine ⟨_,O.get 0,bw (by rw [List.length_map,oO];omega),?_⟩
      walk_at "pt"
      refine ⟨trivial,_,rfl,?_⟩
      rw [vq,List.map_append,← Int.zero_add (i:Int)];exact O
    rintro τ H4 ⟨-,v0,rfl,O⟩
    rw [show ((n:Int)).toNat=n by omega] at O
    exact O.ret 0 rfl q rfl
abbrev aK:Stmt:=inClass (top 34) 15
theorem gG:aL ["self","number"] ["self","number"] (ak aK):=⟨rfl,rfl,rfl,by decide +kernel,rfl,by decide +kernel,by decide +kernel⟩
def kY (K:PySem.W.Frag) (C:Addr):Sp:=fun vs H Q _=>∃ (A:Rs) (day:Int) (us:List V) (n:Nat),vs=[.ref A.p,.int (n:Int)]∧H A.p=some (Fq C A day)∧SqL K H A.ll us∧n<us.length∧Q .non H
section
variable {P:Program} {w:World} {K:PySem.W.Frag} {mg:Str→Option Value} {base:Heap} {T:eZ} {C f0:Addr}
theorem oH {f:Addr} {fd:FuncData} (D:Dm K C "look_at_number" "Roll.look_at_number" aK ["self","number"] f fd) (B:Blt mg) (R:Cl K mg "Roll" C f0 fZ):cj P w K mg base CX0 1 f fd ["self","number"] (kY K C):=by
  refine D.F.ok gG (fun vs H Q E h=>?_) (fun cdv A outer s H vs Q E hr h=>?_)
  · obtain ⟨_,_,_,_,rfl,_⟩:=h;rfl
  · obtain ⟨A,day,us,n,rfl,hp,hl,hn,q⟩:=h
    refine ⟨_,(aC (d8 (gj (jy jN qI aB (pv 1) (aJ aF rfl B.len PySem.boot_len (aj (dO (pv 0) rfl) aA))))
        (aC iR)
        aZ)),?_⟩
    refine ⟨_,rfl,_,_,rfl,rfl,_,rfl,?_⟩
    rw [decide_eq_true (show (0:Int)≤(n:Int) by omega)]
    refine qd ?_
    refine ⟨_,rfl,A.p,C,A.dx,_,.ref A.ll,rfl,hp,R.c,R.nL,rfl,A.ll,_,rfl,.inl hl,_,_,rfl,rfl,_,rfl,?_⟩
    rw [decide_eq_true (show (n:Int)<(us.length:Int) by omega)]
    exact jr q
end
abbrev aG:Stmt:=inClass (top 34) 16
theorem gH:aL ["self","number","holder"] ["self","number","holder"] (ak aG):=⟨rfl,rfl,rfl,by decide +kernel,rfl,by decide +kernel,by decide +kernel⟩
def iY (K:PySem.W.Frag) (T:eZ) (C cY:Addr):Sp:=fun vs H Q E=>∃ (A:Rs) (day:Int) (us:List V) (ns:List Str) (n:Nat) (x y:Str),vs=[.ref A.p,.int (n:Int),.str y]∧H A.p=some (Fq C A day)∧SqL K H A.ll us∧SqL K H A.ln (ns.map V.str)∧n<us.length∧ns[n]?=some x∧TabsOk T H∧(x=y→Q .non H) ∧
  (x≠y→∀ (e:Addr) (H':Hp),bD T H H'→H' e=none→E (.ref cY) (some e) H')
section
variable {P:Program} {w:World} {K:PySem.W.Frag} {mg:Str→Option Value} {base:Heap} {T:eZ} {C f0:Addr}
theorem oJ {f f1 cY:Addr} {fd fd1:FuncData} (D:Dm K C "look_at_holder" "Roll.look_at_holder" aG ["self","number","holder"] f fd) (B:Blt mg) (R_Roll:Cl K mg "Roll" C f0 fZ) (X_NotYours:uq K mg "NotYours" cY)
    (bH:Dm K C "look_at_number" "Roll.look_at_number" aK ["self","number"] f1 fd1) (gV:cj P w K mg base CX0 1 f1 fd1 ["self","number"] (kY K C)) :
    cj P w K mg base (CXE P w) 2 f fd ["self","number","holder"] (iY K T C cY):=by
  have R:=R_Roll
  refine D.F.okX gH (fun vs H Q E h=>?_) (fun cdv A outer s H vs Q E hr h=>?_)
  · obtain ⟨_,_,_,_,_,_,_,rfl,_⟩:=h;rfl
  · obtain ⟨A,day,us,ns,n,x,y,rfl,hp,hl,hn,hnl,hx,tk,q,qx⟩:=h
    refine ⟨_,(au (cu (gO (pv 0) R_Roll.c bH.m gV (hr.mono (by decide)) bH.b .nil cA (aj (pv 1) aA)))
      (aC (d8 (aW lU (aP aD (dO (pv 0) rfl) (pv 1) (fun _ _=>rfl)) (pv 2) (bC _))
        (aC (pW oW rfl (fun _ _ z=>z) rfl X_NotYours.m X_NotYours.q (aj fH aA)))
        aZ))),?_⟩
    refine ⟨_,rfl,A.p,A.dx,_,rfl,hp,rfl,_,rfl,A,day,us,n,rfl,hp,hl,hnl,?_⟩
    refine ⟨_,rfl,A.p,C,A.dx,_,.ref A.ln,rfl,hp,R.c,R.nN,rfl,_,rfl,A.ln,_,_,_,rfl,rfl,hn,eV (show (ns.map V.str)[n]?=some (.str x) by rw [List.getElem?_map,hx];rfl),_,rfl,rfl,_,rfl,ifN (ifD (fun h=>?_) (fun h=>?_))⟩
    · exact q (V.str.inj h)
    · refine ⟨szl,fun e he=>?_⟩
      exact qx (fun z=>h (by rw [z])) e H (bD.refl tk) he
end
abbrev dz:Stmt:=inClass (top 34) 9
theorem m5:aL ["self","number","holder"] ["self","number","holder"] (ak dz):=⟨rfl,rfl,rfl,by decide +kernel,rfl,by decide +kernel,by decide +kernel⟩
def rJ (K:PySem.W.Frag) (T:eZ) (C cY:Addr):Sp:=fun vs H Q E=>∃ (A:Rs) (H0:Hp) (B:List (Addr × HO)) (r:List Int) (day:Int) (us:List V) (ns:List Str) (ds:List V) (ls:List Lic) (n:Nat) (l:Lic) (x y:Str),vs=[.ref A.p,.int (n:Int),.str y] ∧
  Ow T H0 H (RL C A r day us ns ds++B)∧cQ K H0 us (ls.map iU)∧ls[n]?=some l∧ns[n]?=some x∧ds.length≤9000 ∧
  (x=y→∀ (t1 t2:Addr) (H':Hp),Ow T H0 H' ((t2,.tup [.str "drop",.int (n:Int),.str y]) :: (t1,.tup (mH (wm l 0))) :: (RL C A r day (us.set n (.ref t1)) ns (ds++[.ref t2])++B))→Q .non H') ∧
  (x≠y→∀ (e:Addr) (H':Hp),bD T H H'→H' e=none→E (.ref cY) (some e) H')
section
variable {P:Program} {w:World} {K:PySem.W.Frag} {mg:Str→Option Value} {base:Heap} {T:eZ} {C f0:Addr}
theorem uX {f f1 f2 cY:Addr} {fd fd1 fd2:FuncData} (D:Dm K C "drop" "Roll.drop" dz ["self","number","holder"] f fd) (R_Roll:Cl K mg "Roll" C f0 fZ)
    (aH:Dm K C "look_at_holder" "Roll.look_at_holder" aG ["self","number","holder"] f1 fd1) (dD:cj P w K mg base (CXE P w) 2 f1 fd1 ["self","number","holder"] (iY K T C cY))
    (eG:Df K mg "with_most" cX ["one","most"] f2 fd2) (o7:cj P w K mg base CX0 1 f2 fd2 ["one","most"] (FT K)):cj P w K mg base (CXE P w) 3 f fd ["self","number","holder"] (rJ K T C cY):=by
  have R:=R_Roll
  refine D.F.okX m5 (fun vs H Q E h=>?_) (fun cdv A outer s H vs Q E hr h=>?_)
  · obtain ⟨_,_,_,_,_,_,_,_,_,_,_,_,_,rfl,_⟩:=h;rfl
  · obtain ⟨A,H0,L,r,day,us,ns,ds,ls,n,l,x,y,rfl,O,d0,hl,hx,dl,q,qx⟩:=h
    have hul:us.length=ls.length:=by rw [d0.length,List.length_map]
    have hnl:=(List.getElem?_eq_some_iff.mp hl).1
    obtain ⟨al,hal,hT⟩:=d0.qb hl
    refine ⟨_,(au (cu (gO (pv 0) R_Roll.c aH.m dD (hr.mono (by decide)) aH.b .nil Gm (aj (pv 1) (aj (pv 2) aA))))
      (au (lu (bB o7 (hr.mono (by decide)) rfl eG.m eG.F.kp eG.b .nil cA (aj (aP aD (dO (pv 0) rfl) (pv 1) (fun _ _=>rfl)) (aj aB aA))) (ni (dO (pv 0) rfl) (pv 1) set_list))
      (aC (cu (j9 PySem.F.plainAttrs_list PySem.F.slot_list_append PySem.F.type_list_append dB (dO (pv 0) rfl) (aj (iB (aj fH (aj (pv 1) (aj (pv 2) aA)))) aA)))))),?_⟩
    refine ⟨_,rfl,A.p,A.dx,_,rfl,O.get 0,rfl,_,rfl,_,rfl,A,day,us,ns,n,x,y,rfl,O.get 0,O.sq 3,O.sq 4,by omega,hx,O.same.t1,fun hxy=>?_,fun hxy e H' s' he=>qx hxy e H' s' he⟩
    refine ⟨_,rfl,A.p,C,A.dx,_,.ref A.ll,rfl,O.get 0,R.c,R.nL,rfl,_,rfl,A.ll,_,_,_,rfl,rfl,O.sq 3,eV hal,al,l,0,rfl,hT.mo O.same,fun t1 ht1=>?_⟩
    walk_at "nw"
    refine ⟨_,rfl,A.p,C,A.dx,_,.ref A.ll,rfl,O.get 1,R.c,R.nL,rfl,_,rfl,?_⟩
    refine pY O 4 rfl (lZ (by omega)) fun H6 O=>?_
    refine ⟨_,rfl,A.p,C,A.dx,_,.ref A.lo,rfl,O.get 1,R.c,R.nO,rfl,.inl ⟨rfl,_,O.sq 6⟩,_,rfl,_,rfl,szl,fun t2 ht2=>?_⟩
    walk_at "nw"
    refine ⟨A.lo,_,_,rfl,rfl,O.get 7,bw (by omega),?_⟩
    generalize hE:upd _ _ _=Hn
    have O:=Ow.mK O 7 rfl hE rfl
    exact q hxy t1 t2 _ O
end
abbrev cH:Stmt:=inClass (top 34) 1
theorem lN:aL ["self"] ["self"] (ak cH):=⟨rfl,rfl,rfl,by decide +kernel,rfl,by decide +kernel,by decide +kernel⟩
def pK (C:Addr):Sp:=fun vs H Q _=>∃ (A:Rs) (day:Int),vs=[.ref A.p]∧H A.p=some (Fq C A day)∧Q (.int day) H
section
variable {P:Program} {w:World} {K:PySem.W.Frag} {mg:Str→Option Value} {base:Heap} {C f0:Addr}
theorem sS {f:Addr} {fd:FuncData} (D:Dm K C "today" "Roll.today" cH ["self"] f fd) (R:Cl K mg "Roll" C f0 fZ):cj P w K mg base CX0 1 f fd ["self"] (pK C):=by
  refine D.F.ok lN (fun vs H Q E h=>?_) (fun cdv A outer s H vs Q E hr h=>?_)
  · obtain ⟨_,_,rfl,_⟩:=h;rfl
  · obtain ⟨A,day,rfl,hp,q⟩:=h
    refine ⟨_,(aC (aV (dO (pv 0) rfl))),?_⟩
    exact ⟨_,rfl,A.p,C,A.dx,_,.int day,rfl,hp,R.c,R.nD,rfl,q⟩
end
theorem vW (K:PySem.W.Frag):PySem.W.kitOne K (.type "tuple") (.type "tuple")=some true:=by rfl
abbrev aM:Stmt:=top 42
theorem fG:aL ["found","due","one"] ["found","due"] (ak aM):=⟨rfl,rfl,rfl,by decide +kernel,rfl,by decide +kernel,by decide +kernel⟩
def vP (K:PySem.W.Frag) (T:eZ):Sp:=fun vs H Q _=>∃ (a b:Addr) (us ws:List V) (rows:List (List Int)),vs=[.ref a,.ref b]∧H a=some (.lst us)∧SqL K H b ws∧cQ K H us (rows.map dTup)∧cQ K H ws (rows.map dTup)∧(∀ x∈rows,x.length=4)∧TabsOk T H ∧
  ∀ H',bD T H H'→Q (.bl true) H'
theorem Gz {f f1:Addr} {fd fd1:FuncData} (D:Df K mg "_law_alike_lines" aM ["found","due"] f fd) (B:Blt mg)
    (dU:Df K mg "_law_whole" cD ["found"] f1 fd1) (nT:cj P w K mg base CX0 1 f1 fd1 ["found"] pH):cj P w K mg base CX0 2 f fd ["found","due"] (vP K T):=by
  refine D.F.ok fG (fun vs H Q E h=>?_) (fun cdv A outer s H vs Q E hr h=>?_)
  · obtain ⟨_,_,_,_,_,rfl,_⟩:=h;rfl
  · obtain ⟨a,b,us,ws,rows,rfl,hA,hB,d1,d2,hm,tk,q⟩:=h
    have hu:=hr.units
    have O:=Ow.refl tk
    refine ⟨_,(au (d8 (PW.pt (pw_or (gj (gb (aJ iI rfl B.isinstance PyProof.Rows.boot_isinstance (aj (pv 0) (aj (jM (v:=.ty "list") rfl B.list PyProof.Rows.boot_list rfl) aA))))) (pw_or1 (aW lU (aJ aF rfl B.len PySem.boot_len (aj (pv 0) aA)) (aJ aF rfl B.len PySem.boot_len (aj (pv 1) aA)) (bC _)))))
        (aC (aV jf))
        aZ)
      (au (pX PassesOwn.never rfl (oE (pv 0)) (dJ (i:=2) fG.nd rfl (Or.inl rfl))
        (au (d8 (PW.pt (pw_or (gj (gb (aJ nH rfl B.isinstance PyProof.Rows.boot_isinstance (aj (pv 2) (aj (jM (v:=.ty "tuple") rfl B.tuple PyProof.Rows.boot_tuple rfl) aA))))) (pw_or1 (aW lU (aJ aF rfl B.len PySem.boot_len (aj (pv 2) aA)) aB (bC _)))))
          (aC (aV jf))
          aZ)
        (aC (d8 (aW (sH hu) (jL (ak aM) rfl ["found","due","one"] rfl ["part"] [none] (by decide +kernel) (by decide +kernel) (by decide +kernel) rfl (Gf (pv 2)) (fun _ _ _=>(dJ (i:=0) (show (["part"]:List Str).Nodup by decide +kernel) rfl (Or.inl rfl))) (fun _ _ _=>(rT (gj (gb (bB nT (hr.mono (by decide)) rfl dU.m dU.F.kp dU.b .nil cA (aj (pv 0) aA)))))) (fun _ _ _=>(pv 0))) (eE aA) (bC _))
          (aC (aV jf))
          aZ))))
      (aC (aV (gP (vU hu) (pv 0) (pv 1) (bC _)))))),?_⟩
    have hul:us.length=ws.length:=by rw [d1.length,d2.length]
    refine ⟨_,rfl,_,_,_,true,rfl,.lst hA,vX K,_,rfl,jr ?_⟩
    refine ⟨_,rfl,a,_,rfl,.inl (SqL.of hA),_,rfl,b,_,rfl,.inl hB,rfl,_,rfl,ifN (ifI (fun _=>?_) fun hc=>absurd (by rw [hul]) hc)⟩
    refine ⟨_,rfl,a,rfl,⟨_,SqL.of hA⟩,?_⟩
    refine qj (K:=K) (xs:=us) (fun i σ H'=>Iv (∃ (v3:Option V),σ=[some (.ref a),some (.ref b),v3]∧Ow T H H' [])) ⟨trivial,none,rfl,O⟩ (fun i σ H' _ ⟨_,_,_,O⟩=>(SqL.of hA).mo O.same) ?_ ?_
    · rintro i y σ H4 hy ⟨-,v3,rfl,O⟩
      obtain ⟨d,hd,hden⟩:=d1.get' hy
      rw [List.getElem?_map] at hd
      obtain ⟨x,hx,rfl⟩:=Option.map_eq_some_iff.mp hd
      obtain ⟨t,rfl,hT0⟩:=hden.qX
      have hxm:=hm x (List.mem_of_getElem? hx)
      have hT:=hT0.mo O.same
      refine ⟨_,rfl,t,_,_,true,rfl,hT,vW K,_,rfl,jr ?_⟩
      refine ⟨_,rfl,t,_,rfl,.inr hT,rfl,_,rfl,ifN (ifI (fun _=>?_) fun hc=>absurd (by rw [List.length_map,hxm];rfl) hc)⟩
      refine ⟨_,rfl,t,rfl,⟨_,hT⟩,fun lw hlw=>?_⟩
      refine vA (K:=K) (xs:=x.map V.int) (fun i τ H'=>Iv (∃ (v0:Option V),τ=[v0]∧Ow T H H' [(lw,.lst (([]:List Int).map V.int))])) ⟨trivial,none,rfl,O.mk' hlw rfl⟩ (fun i τ H' _ ⟨_,_,_,O2⟩=>hT0.mo O2.same) ?_ ?_
      · rintro j y τ H5 hy ⟨-,v0,rfl,O⟩
        obtain ⟨z,hz,rfl⟩:=ints_get hy
        exact ⟨_,rfl,z,rfl,_,rfl,jr ⟨trivial,_,rfl,O⟩⟩
      rintro τ H5 ⟨-,v0,rfl,O⟩
      refine ⟨szl,fun l0 hl0=>?_⟩
      walk_at "nw"
      refine ⟨lw,l0,[],[],rfl,rfl,O.sq 1,O.sq 0,_,rfl,?_⟩
      refine jr ?_
      exact ⟨trivial,_,rfl,O.tail.tail⟩
    rintro σ H4 ⟨-,v3,rfl,O⟩
    have hsh:Sh 2 (.list (rows.map dTup)):=Sh.tups 0 rows
    refine ⟨_,rfl,_,rfl,_,_,.list ((SqL.of hA).mo O.same) (d1.mo O.same),.list (hB.mo O.same) (d2.mo O.same),hsh.ok (by decide),hsh.ok (by decide),?_⟩
    rw [if_neg Bool.false_ne_true,ig hsh]
    exact q _ O.same
theorem cQ.strs {K:PySem.W.Frag} {H:Hp}:∀ ns:List Str,cQ K H (ns.map V.str) (ns.map PyData.str)
  | []=>.nil
  | x :: ns=>.cons (.str x) (cQ.strs ns)
theorem Eo {x:Str} (h:iV x) (n:Nat):Sh n (.str x):=by
  refine ⟨?_,by simp [PyData.depth]⟩
  rw [PyData.canLay0]
  show x.cps.all (·<0x110000)=true
  rw [Array.all_eq_true]
  intro i hi
  have:=h.2.2 _ (Array.getElem_mem_toList hi)
  exact decide_eq_true (by omega)
theorem uY {ns:List Str} (h:∀ x∈ns,iV x):Sh 1 (.list (ns.map PyData.str)):=.list fun d hd=>by
  obtain ⟨x,hx,rfl⟩:=List.mem_map.mp hd
  exact Eo (h x hx) 0
abbrev bN:Stmt:=top 40
theorem dH:aL ["cell","xs","many","spots","below","k"] ["cell"] (ak bN):=⟨rfl,rfl,rfl,by decide +kernel,rfl,by decide +kernel,by decide +kernel⟩
def pL (T:eZ):Sp:=fun vs H Q _=>∃ (c:Int),vs=[.int c]∧TabsOk T H∧vH T H (fun xs=>∃ r,xs=r.map V.int∧Rv.iJ r∧1≤r.length∧r.length≤12) Q
theorem Ge {n:Nat} {w:Int} (h0:0≤w) (h1:w<2):∃ s:Int,atI [V.int 1,V.int ((n:Int) - 1)] w=some (V.int s)∧s=(if w=0 then 1 else (n:Int) - 1):=by
  rcases (by omega:w=0∨w=1) with e | e <;> subst e <;> exact ⟨_,rfl,rfl⟩
theorem uM {f f1:Addr} {fd fd1:FuncData} (D:Df K mg "_law_river" bN ["cell"] f fd) (B:Blt mg)
    (bG:Df K mg "_law_draws" bO ["cell","many"] f1 fd1) (gU:cj P w K mg base CX0 2 f1 fd1 ["cell","many"] (rH T)):cj P w K mg base CX0 3 f fd ["cell"] (pL T):=by
  refine D.F.ok dH (fun vs H Q E h=>?_) (fun cdv A outer s H vs Q E hr h=>?_)
  · obtain ⟨_,rfl,_⟩:=h;rfl
  · obtain ⟨c,rfl,tk,q⟩:=h
    refine ⟨_,(au (bT (i:=1) dH.nd rfl (Or.inr rfl) (bB gU (hr.mono (by decide)) rfl bG.m bG.F.kp bG.b .nil cA (aj (bJ jP (pv 0) aB) (aj aB aA))))
      (au (bT (i:=2) dH.nd rfl (Or.inr rfl) (bJ jm aB (bJ cV (pv 0) aB)))
      (au (jd (i:=3) (ak bN) rfl ["cell","xs","many","spots","below","k"] rfl ["k","many","xs"] [none,some 2,some 1] (by decide +kernel) (by decide +kernel) (by decide +kernel) rfl dH.nd rfl rfl (gn rfl B.range (aj (pv 2) aA)) (fun _ _ _=>(dJ (i:=0) (show (["k","many","xs"]:List Str).Nodup by decide +kernel) rfl (Or.inl rfl))) (fun _ _ _=>jc) (fun _ _ _=>(bJ cV (bJ jm (aP (lY (K:=K) rfl) (pv 2) aB (fun _ _=>rfl)) (bJ iC (pv 0) (aP (lY (K:=K) rfl) (eE (aj aB (aj (bJ vQ (pv 1) aB) aA))) (bJ cV (aP (lY (K:=K) rfl) (pv 2) aB (fun _ _=>rfl)) aB) (fun _ _=>rfl)))) (pv 1))) rfl)
      (au (jd (i:=4) (ak bN) rfl ["cell","xs","many","spots","below","k"] rfl ["k"] [none] (by decide +kernel) (by decide +kernel) (by decide +kernel) rfl dH.nd rfl rfl (gn rfl B.range (aj (pv 2) aA)) (fun _ _ _=>(dJ (i:=0) (show (["k"]:List Str).Nodup by decide +kernel) rfl (Or.inl rfl))) (fun _ _ _=>jc) (fun _ _ _=>(j8 iz aB)) rfl)
      (au (pX PassesOwn.never rfl (sy rfl B.range (aj aB (aj (pv 2) aA))) (dJ (i:=5) dH.nd rfl (Or.inl rfl))
        (aC (d8 (aW lU (bJ cV (aP aD (pv 1) (pv 5) (fun _ _=>rfl)) aB) aB (bC _))
          (aC (lu (aP aD (pv 3) (bJ cV (bJ jP (aP aD (pv 1) (pv 5) (fun _ _=>rfl)) aB) (pv 5)) (fun _ _=>rfl)) (ni (pv 4) (aP aD (pv 3) (pv 5) (fun _ _=>rfl)) set_list)))
          aZ)))
      (aC (aV (pv 4)))))))),?_⟩
    have O:=Ow.refl tk
    have c0:=Int.emod_nonneg c (show (12:Int)≠0 by decide)
    have c1:=Int.emod_lt_of_pos c (show (0:Int)<12 by decide)
    refine ⟨_,rfl,_,_,rfl,rfl,⟨by decide,by decide⟩,_,14,rfl,by omega,tk,O.Pu fun lx H2 xs O e=>?_⟩
    subst e
    refine ⟨_,rfl,_,_,rfl,rfl,(by show (0:Int)<12;decide),_,_,rfl,rfl,?_⟩
    dsimp only
    obtain ⟨n,hn⟩:∃ n:Nat,1 + c % 12=(n:Int):=⟨(1 + c % 12).toNat,by omega⟩
    rw [hn]
    have n1:1≤n:=by omega
    have n12:n≤12:=by omega
    have hx14:=oO (c / 12) 14
    have g12:(dvs (c / 12) 14)[12]?=some (dv (c / 12) 12):=tO (by decide)
    have g13:(dvs (c / 12) 14)[13]?=some (dv (c / 12) 13):=tO (by decide)
    have gk:∀ k:Nat,k<14→(dvs (c / 12) 14)[k]?=some (dv (c / 12) (k:Int)):=fun k hk=>tO hk
    generalize dvs (c / 12) 14=ys at O hx14 g12 g13 gk
    have w0:=Int.emod_nonneg (dv (c / 12) 13) (show (2:Int)≠0 by decide)
    have w1:=Int.emod_lt_of_pos (dv (c / 12) 13) (show (0:Int)<2 by decide)
    obtain ⟨st,hst,est⟩:=Ge (n:=n) w0 w1
    have hst2:st=1∨st=(n:Int) - 1:=by rw [est];split <;> simp
    have nn:(0:Int)<(n:Int):=by omega
    generalize dv (c / 12) 12=x1 at g12
    generalize dv (c / 12) 13=x2 at g13 hst w0 w1
    refine ⟨_,rfl,n,rfl,by omega,by omega,fun acc hacc=>?_⟩
    refine gq (fun i τ H'=>Iv (∃ (v0:Option V),τ=[v0,some (.int (n:Int)),some (.ref lx)]∧Ow T H H' [(acc,.lst ((Rv.spots n x1 st i).map V.int)),(lx,.lst (ys.map V.int))])) ⟨trivial,none,rfl,O.mk' hacc rfl⟩ ?_ ?_
    · rintro i τ H3 hi ⟨-,v0,rfl,O⟩
      have hi:i<n:=by omega
      rw [show (0:Int) + (i:Int)=(i:Int) by omega]
      refine Fo ?_
      refine ⟨_,rfl,lx,_,12,_,rfl,rfl,O.sq 1,aX (i:=12) g12,_,rfl,_,rfl,_,_,rfl,rfl,szl,fun l3 h3=>?_⟩
      walk_at "nw"
      refine ⟨_,rfl,lx,_,13,_,rfl,rfl,O.sq 2,aX (i:=13) g13,_,_,rfl,rfl,(by show (0:Int)<2;decide),l3,_,_,_,rfl,rfl,O.sq 0,hst,_,_,rfl,rfl,.inl ⟨by omega,by omega⟩,_,_,rfl,rfl,_,rfl,_,_,rfl,rfl,nn,?_⟩
      have O:=O.tail
      refine ⟨_,O.get 0,bw (by rw [List.length_map,Rv.rm];omega),?_⟩
      walk_at "pt"
      refine ⟨trivial,_,rfl,?_⟩
      rw [Rv.qF,List.map_append]
      rw [Int.mul_comm (i:Int) st] at O
      exact O
    rintro τ H3 ⟨-,v0,rfl,O⟩
    rw [Int.toNat_natCast] at O
    refine ⟨_,rfl,n,rfl,by omega,by omega,fun lb hlb=>?_⟩
    refine gq (fun i τ H'=>Iv (∃ (v0:Option V),τ=[v0]∧Ow T H H' [(lb,.lst ((List.replicate i (-1:Int)).map V.int)),(acc,.lst ((Rv.spots n x1 st n).map V.int)),(lx,.lst (ys.map V.int))])) ⟨trivial,none,rfl,O.mk' hlb rfl⟩ ?_ ?_
    · rintro i τ H3 hi ⟨-,v0,rfl,O⟩
      refine Fo ?_
      refine ⟨1,rfl,_,O.get 0,bw (by rw [List.length_map,List.length_replicate];omega),?_⟩
      walk_at "pt"
      refine ⟨trivial,_,rfl,?_⟩
      rw [List.replicate_succ',List.map_append];exact O
    rintro τ H4 ⟨-,v0,rfl,O⟩
    rw [Int.toNat_natCast] at O
    refine ⟨_,rfl,1,(n:Int),rfl,⟨by omega,by omega,by omega,by omega⟩,?_⟩
    rw [show ((n:Int) - 1).toNat=n - 1 by omega]
    refine nF (n:=n - 1) (fun i σ H'=>Iv (∃ (v5:Option V) (b:List Int),σ=[some (.int c),some (.ref lx),some (.int (n:Int)),some (.ref acc),some (.ref lb),v5]∧Rv.Lnk n (Rv.spot n x1 st) (i + 1) b ∧
      Ow T H H' [(lb,.lst (b.map V.int)),(acc,.lst ((Rv.spots n x1 st n).map V.int)),(lx,.lst (ys.map V.int))])) ⟨trivial,none,_,rfl,Rv.Lnk.start _ _,O⟩ ?_ ?_
    · rintro i σ H3 hi ⟨-,v5,b,rfl,L,O⟩
      rw [show (1:Int) + (i:Int)=((i + 1:Nat):Int) by omega]
      have gz:=gk (i + 1) (by omega)
      generalize dv (c / 12) ((i + 1:Nat):Int)=z at gz
      refine ⟨_,rfl,_,rfl,lx,_,_,_,rfl,rfl,O.sq 2,aX gz,_,_,rfl,rfl,(by show (0:Int)<9;decide),rfl,_,rfl,ifN (ifI (fun hc=>?_) fun hc=>?_)⟩
      · exact ⟨trivial,_,b,rfl,L.skip,O⟩
      · have m0:=Int.emod_nonneg (z / 9) (show ((i + 1:Nat):Int)≠0 by omega)
        have m1:=Int.emod_lt_of_pos (z / 9) (show (0:Int)<((i + 1:Nat):Int) by omega)
        obtain ⟨j,hj⟩:∃ j:Nat,z / 9 % ((i + 1:Nat):Int)=(j:Int):=⟨(z / 9 % ((i + 1:Nat):Int)).toNat,by omega⟩
        have hjk:j<i + 1:=by omega
        refine ⟨_,rfl,_,rfl,_,rfl,lx,_,_,_,rfl,rfl,O.sq 2,aX gz,_,_,rfl,rfl,⟨by decide,by decide⟩,_,rfl,_,_,rfl,rfl,(by show (0:Int)<((i + 1:Nat):Int);omega),?_⟩
        dsimp only
        rw [hj]
        refine ⟨acc,_,_,_,rfl,rfl,O.sq 1,aX (Rv.pG (by omega)),?_⟩
        have s0:=Rv.rA (x:=x1) (s:=st) nn (i + 1)
        have s1:=Rv.rB (x:=x1) (s:=st) nn (i + 1)
        refine ⟨_,rfl,_,rfl,_,rfl,acc,_,_,_,rfl,rfl,O.sq 1,aX (Rv.pG (by omega)),lb,_,_,_,rfl,rfl,O.get 0,Nj s0 (by rw [List.length_map,L.len];exact s1),?_⟩
        walk_at "pt"
        refine ⟨trivial,_,_,rfl,L.turn (by omega) hjk s0,?_⟩
        rw [List.map_set];exact O
    · rintro σ H3 ⟨-,v5,b,rfl,L,O⟩
      refine ⟨_,rfl,O.ret 0 rfl q ⟨b,rfl,L.Nb (Rv.rA nn) (Rv.rB nn) (fun j k hj hk h=>Rv.uD nn hst2 (by omega) (by omega) h) n1,by rw [L.len];exact n1,by rw [L.len];exact n12⟩⟩
abbrev cP:Stmt:=top 41
theorem jG:aL ["below","reach","found"] ["below","reach"] (ak cP):=⟨rfl,rfl,rfl,by decide +kernel,rfl,by decide +kernel,by decide +kernel⟩
theorem El {f:Addr} {fd:FuncData} (D:Df K mg "_law_way" cP ["below","reach"] f fd):cj P w K mg base CX0 1 f fd ["below","reach"] (kW K):=by
  refine D.F.ok jG (fun vs H Q E h=>?_) (fun cdv A outer s H vs Q E hr h=>?_)
  · obtain ⟨a,r,p,rfl,_⟩:=h;rfl
  · obtain ⟨a,r,p,rfl,hS,hR,p0,p1,hn,q⟩:=h
    refine ⟨_,(au (bT (i:=2) jG.nd rfl (Or.inl rfl) (eE (aj (pv 1) aA)))
      (au (pU PassesOwn.never (aW lU (aP aD (pv 0) (aP aD (pv 2) (j8 iz aB) (fun _ _=>rfl)) (fun _ _=>rfl)) (j8 iz aB) (bC _))
        (aC (cu (j9 PySem.F.plainAttrs_list PySem.F.slot_list_append PySem.F.type_list_append dB (pv 2) (aj (aP aD (pv 0) (aP aD (pv 2) (j8 iz aB) (fun _ _=>rfl)) (fun _ _=>rfl)) aA)))))
      (aC (aV (pv 2))))),?_⟩
    refine ⟨_,rfl,(by show 1≤sizeLine;decide),fun lw hlw=>?_⟩
    refine ⟨fun m σ H'=>∃ (pre:List Int) (z:Int),σ=[some (.ref a),some (.int p),some (.ref lw)]∧Same H H'∧H' lw=some (.lst ((pre++[z]).map V.int))∧0≤z∧z<r.length∧pre++Rv.walk r z=Rv.walk r p∧m=Rv.mea r z,
      ⟨_,[],p,rfl,(Same.refl H).upd hlw,bI,p0,p1,rfl,rfl⟩,?_⟩
    rintro m σ H2 ⟨pre,z,rfl,s2,h2,z0,z1,e,rfl⟩
    have g:=Rv.gQ z0 z1
    have hlen:pre.length + (Rv.walk r z).length≤r.length + 1:=by
      have:=Rv.pC r p
      rw [← e,List.length_append] at this;exact this
    refine ⟨_,rfl,_,rfl,_,rfl,lw,_,_,_,rfl,rfl,SqL.of h2,mF pre z,a,_,_,_,rfl,rfl,s2.seq hS,gZ z0 g,1,rfl,rfl,_,rfl,?_⟩
    rcases hR.step z0 z1 with hm | ⟨n0,n1⟩
    · rw [hm]
      refine GR rfl ?_
      refine ⟨_,rfl,q lw H2 _ s2 hlw h2 ?_⟩
      have ew:Rv.walk r z=[z]:=by rw [Rv.fD hR z0 z1,hm,Rv.lE]
      rw [← e,ew]
    · have hd:(!decide (V.int (Rv.nxt r z)=V.int (-1)))=true:=by
        have:¬ Rv.nxt r z=-1:=by omega
        simp [this]
      rw [hd]
      refine qd ?_
      refine ⟨fun σ' H'=>∃ m',m'<Rv.mea r z∧∃ (pre:List Int) (z:Int),σ'=[some (.ref a),some (.int p),some (.ref lw)]∧Same H H'∧H' lw=some (.lst ((pre++[z]).map V.int))∧0≤z∧z<r.length∧pre++Rv.walk r z=Rv.walk r p∧m'=Rv.mea r z,fun _ _ x=>x,?_⟩
      refine ⟨_,rfl,.inl ⟨rfl,_,SqL.of h2⟩,_,rfl,_,rfl,_,rfl,lw,_,_,_,rfl,rfl,SqL.of h2,mF pre z,a,_,_,_,rfl,rfl,s2.seq hS,gZ z0 g,lw,_,_,rfl,rfl,h2,bw ?_,?_⟩
      · rw [List.length_map,List.length_append]
        have:1≤(Rv.walk r z).length:=by rw [Rv.fD hR z0 z1];exact Nat.succ_le_succ (Nat.zero_le _)
        show pre.length + 1≤_
        omega
      · refine ⟨_,Rv.vV hR z0 z1,pre++[z],Rv.nxt r z,rfl,s2.upd hlw,?_,n0,n1,?_,rfl⟩
        · rw [bI,List.map_append (l₁:=pre++[z])];rfl
        · rw [List.append_assoc]
          show pre++(z :: Rv.walk r (Rv.nxt r z))=_
          rw [← Rv.fD hR z0 z1];exact e
abbrev cC:Stmt:=top 29
theorem lJ:aL ["one","start"] ["one","start"] (ak cC):=⟨rfl,rfl,rfl,by decide +kernel,rfl,by decide +kernel,by decide +kernel⟩
def wst (l:Lic) (s:Int):Lic:=⟨l.day,s,l.back,l.most⟩
def vL (K:PySem.W.Frag):Sp:=fun vs H Q _=>∃ (a:Addr) (l:Lic) (m:Int),vs=[.ref a,.int m]∧SqT K H a (mH l)∧∀ t,H t=none→Q (.ref t) (upd H t (.tup (mH (wst l m))))
theorem Gq {f:Addr} {fd:FuncData} (D:Df K mg "with_start" cC ["one","start"] f fd):cj P w K mg base CX0 1 f fd ["one","start"] (vL K):=by
  refine D.F.ok lJ (fun vs H Q E h=>?_) (fun cdv A outer s H vs Q E hr h=>?_)
  · obtain ⟨_,_,_,rfl,_⟩:=h;rfl
  · obtain ⟨a,l,m,rfl,hT,q⟩:=h
    refine ⟨_,(aC (aV (iB (aj (aP eY (pv 0) aB (fun _ _=>rfl)) (aj (pv 1) (aj (aP eY (pv 0) aB (fun _ _=>rfl)) (aj (aP eY (pv 0) aB (fun _ _=>rfl)) aA))))))),?_⟩
    exact ⟨_,rfl,a,_,0,_,rfl,rfl,hT,rfl,_,rfl,_,rfl,a,_,2,_,rfl,rfl,hT,rfl,_,rfl,a,_,3,_,rfl,rfl,hT,rfl,szl,q⟩
abbrev aR:Stmt:=inClass (top 34) 11
theorem iZ:aL ["self","number","start"] ["self","number","start"] (ak aR):=⟨rfl,rfl,rfl,by decide +kernel,rfl,by decide +kernel,by decide +kernel⟩
def iG:Sp:=fun vs H Q _=>∃ (p n s:V),vs=[p,n,s]∧Q .non H
section
variable {P:Program} {w:World} {K:PySem.W.Frag} {mg:Str→Option Value} {base:Heap} {C:Addr}
theorem nq {f:Addr} {fd:FuncData} (D:Dm K C "look_move" "Roll.look_move" aR ["self","number","start"] f fd):cj P w K mg base CX0 1 f fd ["self","number","start"] iG:=by
  refine D.F.ok iZ (fun vs H Q E h=>?_) (fun cdv A outer s H vs Q E hr h=>?_)
  · obtain ⟨_,_,_,rfl,_⟩:=h;rfl
  · obtain ⟨_,_,_,rfl,q⟩:=h
    exact ⟨_,(aC (aV jK)),q⟩
end
abbrev dj:Stmt:=inClass (top 34) 10
theorem jk:aL ["self","number","holder","start","one"] ["self","number","holder","start"] (ak dj):=⟨rfl,rfl,rfl,by decide +kernel,rfl,by decide +kernel,by decide +kernel⟩
def rE (K:PySem.W.Frag) (T:eZ) (C cY cL:Addr):Sp:=fun vs H Q E=>∃ (A:Rs) (H0:Hp) (B:List (Addr × HO)) (r:List Int) (day:Int) (us:List V) (ns:List Str) (ds:List V) (ls:List Lic) (n:Nat) (l:Lic) (x y:Str) (st:Int),vs=[.ref A.p,.int (n:Int),.str y,.int st] ∧
  Ow T H0 H (RL C A r day us ns ds++B)∧cQ K H0 us (ls.map iU)∧ls[n]?=some l∧ns[n]?=some x∧Rv.iJ r∧r.length≤40∧ds.length≤9000 ∧
  (x≠y→∀ (e:Addr) (H':Hp),bD T H H'→H' e=none→E (.ref cY) (some e) H') ∧
  (x=y→¬ oZ r (wst l st)→∀ (e:Addr) (H':Hp),bD T H H'→H' e=none→E (.ref cL) (some e) H') ∧
  (x=y→oZ r (wst l st)→∀ (t1 t2:Addr) (H':Hp),Ow T H0 H' ((t2,.tup [.str "move",.int (n:Int),.str y,.int st]) :: (t1,.tup (mH (wst l st))) :: (RL C A r day (us.set n (.ref t1)) ns (ds++[.ref t2])++B))→Q .non H')
section
variable {P:Program} {w:World} {K:PySem.W.Frag} {mg:Str→Option Value} {base:Heap} {T:eZ} {C f0:Addr}
theorem uU {f f1 f2 f3 f4 cY cL:Addr} {fd fd1 fd2 fd3 fd4:FuncData} (D:Dm K C "move" "Roll.move" dj ["self","number","holder","start"] f fd) (B:Blt mg) (R_Roll:Cl K mg "Roll" C f0 fZ) (X_NoLicence:uq K mg "NoLicence" cL)
    (aH:Dm K C "look_at_holder" "Roll.look_at_holder" aG ["self","number","holder"] f1 fd1) (dD:cj P w K mg base (CXE P w) 2 f1 fd1 ["self","number","holder"] (iY K T C cY))
    (dR:Df K mg "with_start" cC ["one","start"] f2 fd2) (nR:cj P w K mg base CX0 1 f2 fd2 ["one","start"] (vL K))
    (bF:Df K mg "is_licence" bY ["below","one"] f3 fd3) (gR:cj P w K mg base CX0 2 f3 fd3 ["below","one"] (lG K T))
    (aU:Dm K C "look_move" "Roll.look_move" aR ["self","number","start"] f4 fd4) (eX:cj P w K mg base CX0 1 f4 fd4 ["self","number","start"] iG):cj P w K mg base (CXE P w) 3 f fd ["self","number","holder","start"] (rE K T C cY cL):=by
  have R:=R_Roll
  refine D.F.okX jk (fun vs H Q E h=>?_) (fun cdv A outer s H vs Q E hr h=>?_)
  · obtain ⟨_,_,_,_,_,_,_,_,_,_,_,_,_,_,rfl,_⟩:=h;rfl
  · obtain ⟨A,H0,L,r,day,us,ns,ds,ls,n,l,x,y,st,rfl,O,d0,hl,hx,hR,r40,dl,qY,qL,q⟩:=h
    have hul:us.length=ls.length:=by rw [d0.length,List.length_map]
    have hnl:=(List.getElem?_eq_some_iff.mp hl).1
    obtain ⟨al,hal,hT⟩:=d0.qb hl
    have sA:=bD.refl O.same.t1
    refine ⟨_,(au (cu (gO (pv 0) R_Roll.c aH.m dD (hr.mono (by decide)) aH.b .nil Gm (aj (pv 1) (aj (pv 2) aA))))
      (au (bT (i:=4) jk.nd rfl (Or.inl rfl) (bB nR (hr.mono (by decide)) rfl dR.m dR.F.kp dR.b .nil cA (aj (aP aD (dO (pv 0) rfl) (pv 1) (fun _ _=>rfl)) (aj (pv 3) aA))))
      (au (d8 (gj (gb (bB gR (hr.mono (by decide)) rfl bF.m bF.F.kp bF.b .nil cA (aj (dO (pv 0) rfl) (aj (pv 4) aA)))))
        (aC (pW oW rfl (fun _ _ z=>z) rfl X_NoLicence.m X_NoLicence.q (aj fH aA)))
        aZ)
      (au (cu (gO (pv 0) R_Roll.c aU.m eX (hr.mono (by decide)) aU.b .nil cA (aj (pv 1) (aj (pv 3) aA))))
      (au (lu (pv 4) (ni (dO (pv 0) rfl) (pv 1) set_list))
      (aC (cu (j9 PySem.F.plainAttrs_list PySem.F.slot_list_append PySem.F.type_list_append dB (dO (pv 0) rfl) (aj (iB (aj fH (aj (pv 1) (aj (pv 2) (aj (pv 3) aA))))) aA))))))))),?_⟩
    refine ⟨_,rfl,A.p,A.dx,_,rfl,O.get 0,rfl,_,rfl,_,rfl,A,day,us,ns,n,x,y,rfl,O.get 0,O.sq 3,O.sq 4,by omega,hx,O.same.t1,fun hxy=>?_,fun hxy e H' s' he=>qY hxy e H' s' he⟩
    refine ⟨_,rfl,A.p,C,A.dx,_,.ref A.ll,rfl,O.get 0,R.c,R.nL,rfl,_,rfl,A.ll,_,_,_,rfl,rfl,O.sq 3,eV hal,_,rfl,al,l,st,rfl,hT.mo O.same,fun t1 ht1=>?_⟩
    have sA:=sA.upd (o':=.tup (mH (wst l st))) ht1 (.inl ht1)
    have O:=O.mk' ht1 (o:=.tup (mH (wst l st))) rfl
    refine ⟨_,rfl,A.p,C,A.dx,_,.ref A.lb,rfl,O.get 1,R.c,R.nB,rfl,_,rfl,A.lb,t1,r,wst l st,rfl,O.sq 3,hR,by omega,O.sqT 0,O.same.t1,fun b H2 s2 hb2=>?_⟩
    have O:=O.kE s2
    have sA:=sA.trans s2
    refine ⟨_,rfl,?_⟩
    cases b with
    | false =>
      refine qd ⟨szl,fun e he=>?_⟩
      exact qL hxy (fun h=>nomatch hb2.mpr h) e _ sA he
    | true =>
      refine jr ?_
      refine ⟨_,rfl,A.p,A.dx,_,rfl,O.get 1,rfl,_,rfl,_,rfl,_,_,_,rfl,?_⟩
      refine ⟨_,rfl,_,rfl,A.p,C,A.dx,_,.ref A.ll,rfl,O.get 1,R.c,R.nL,rfl,_,rfl,?_⟩
      refine pY O 4 rfl (lZ (by omega)) fun H6 O=>?_
      refine ⟨_,rfl,A.p,C,A.dx,_,.ref A.lo,rfl,O.get 1,R.c,R.nO,rfl,.inl ⟨rfl,_,O.sq 6⟩,_,rfl,_,rfl,_,rfl,szl,fun t2 ht2=>?_⟩
      walk_at "nw"
      refine ⟨A.lo,_,_,rfl,rfl,O.get 7,bw (by omega),?_⟩
      generalize hE:upd _ _ _=Hn
      have O:=Ow.mK O 7 rfl hE rfl
      clear hE
      exact q hxy (hb2.mp rfl) t1 t2 _ O
end
structure DN (K:PySem.W.Frag) (cL cS cN cR:Addr):Prop where
  mS:PySem.W.exmOne K (.ref cL) (.ref cS)=some true
  kN:PySem.W.kitOne K (.ref cL) (.ref cN)=some false
  kR:PySem.W.kitOne K (.ref cL) (.ref cR)=some false
  kV:PySem.W.kitOne K (.ref cL) (.type "ValueError")=some true
  kL:PySem.W.kitOne K (.ref cL) (.ref cL)=some true
abbrev cF:Stmt:=top 43
theorem dG:aL ["one","number","name","start","caught","told","e"] ["one","number","name","start"] (ak cF):=⟨rfl,rfl,rfl,by decide +kernel,rfl,by decide +kernel,by decide +kernel⟩
def pJ (K:PySem.W.Frag) (T:eZ) (C:Addr):Sp:=fun vs H Q _=>∃ (A:Rs) (H0:Hp) (B:List (Addr × HO)) (r:List Int) (day:Int) (us:List V) (ns:List Str) (ds:List V) (ls:List Lic) (n:Nat) (l:Lic) (x:Str) (st:Int),vs=[.ref A.p,.int (n:Int),.str x,.int st] ∧
  Ow T H0 H (RL C A r day us ns ds++B)∧cQ K H0 us (ls.map iU)∧ls[n]?=some l∧ns[n]?=some x∧Rv.iJ r∧r.length≤40∧ds.length≤9000 ∧
  (¬ oZ r (wst l st)→∀ H',bD T H H'→Q (.str "none") H') ∧
  (oZ r (wst l st)→∀ (t1 t2:Addr) (H':Hp),Ow T H0 H' ((t2,.tup [.str "move",.int (n:Int),.str x,.int st]) :: (t1,.tup (mH (wst l st))) :: (RL C A r day (us.set n (.ref t1)) ns (ds++[.ref t2])++B))→Q (.str "moved") H')
section
variable {P:Program} {w:World} {K:PySem.W.Frag} {mg:Str→Option Value} {base:Heap} {T:eZ} {C f0:Addr}
theorem uL {f f1 cY cL cS cN cR:Addr} {fd fd1:FuncData} (D:Df K mg "_law_tried" cF ["one","number","name","start"] f fd) (B:Blt mg) (R_Roll:Cl K mg "Roll" C f0 fZ) (X_NoLicence:uq K mg "NoLicence" cL) (X_SluiceError:uq K mg "SluiceError" cS) (X_NoNumber:uq K mg "NoNumber" cN) (X_NoReach:uq K mg "NoReach" cR) (TT:DN K cL cS cN cR)
    (fO:Dm K C "move" "Roll.move" dj ["self","number","holder","start"] f1 fd1) (pq:cj P w K mg base (CXE P w) 3 f1 fd1 ["self","number","holder","start"] (rE K T C cY cL)):cj P w K mg base CX0 4 f fd ["one","number","name","start"] (pJ K T C):=by
  refine D.F.ok dG (fun vs H Q E h=>?_) (fun cdv A outer s H vs Q E hr h=>?_)
  · obtain ⟨_,_,_,_,_,_,_,_,_,_,_,_,_,rfl,_⟩:=h;rfl
  · obtain ⟨A,H0,L,r,day,us,ns,ds,ls,n,l,x,st,rfl,O,d0,hl,hx,hR,r40,dl,qN,q⟩:=h
    refine ⟨_,(au (bT (i:=4) dG.nd rfl (Or.inl rfl) jK)
      (au (bT (i:=5) dG.nd rfl (Or.inl rfl) jK)
      (au (Gd (i:=6) ⟨rfl,rfl,rfl⟩ rfl (DQ (Fw (i:=5) dG.nd rfl (Or.inl rfl) (DR (pv 0) R_Roll.c fO.m pq (hr.mono (by decide)) fO.b .nil (aj (pv 1) (aj (pv 2) (aj (pv 3) aA)))))) rfl X_SluiceError.m dG.nd rfl rfl (fun e =>
        (aC (bT (i:=4) dG.nd rfl (Or.inl rfl) (pv 6)))))
      (au (d8 (aW sI (pv 4) jK (bC _))
        (aC (aV (aP aD (eE (aj fH (aj fH aA))) (fJ jZ rfl B.int PyProof.Rows.boot_int (aj (gP sI (pv 5) jK (bC _)) aA)) (fun _ _=>rfl))))
        aZ)
      (au (d8 (PW.pt (pw_or (gb (aJ fX rfl B.isinstance PyProof.Rows.boot_isinstance (aj (pv 4) (aj (sE rfl X_NoNumber.m) aA)))) (pw_or (gb (aJ fX rfl B.isinstance PyProof.Rows.boot_isinstance (aj (pv 4) (aj (sE rfl X_NoReach.m) aA)))) (pw_or1 (gj (gb (aJ fX rfl B.isinstance PyProof.Rows.boot_isinstance (aj (pv 4) (aj (jM (v:=.ty "ValueError") rfl B.ValueError Fd rfl) aA)))))))))
        (aC (aV fH))
        aZ)
      (aC (aV (aP aD (eE (aj fH (aj fH aA))) (fJ jZ rfl B.int PyProof.Rows.boot_int (aj (aJ fX rfl B.isinstance PyProof.Rows.boot_isinstance (aj (pv 4) (aj (sE rfl X_NoLicence.m) aA))) aA)) (fun _ _=>rfl))))))))),?_⟩
    refine ⟨_,rfl,A.p,A.dx,_,rfl,O.get 0,rfl,_,rfl,_,rfl,_,rfl,A,H0,_,r,day,us,ns,ds,ls,n,l,x,x,st,rfl,O,d0,hl,hx,hR,r40,dl,fun hc=>absurd rfl hc,fun _ hn e H' s' he=>⟨cL,e,rfl,rfl,TT.mS,?_⟩,fun _ hy t1 t2 H' O=>?_⟩
    · refine ⟨_,rfl,?_⟩
      have hX:(upd H' e (.ext (XAt e cL))) e=some (.ext (XAt e cL)):=bI
      have sX:bD T H (upd H' e (.ext (XAt e cL))):=s'.upd (s'.free he) (.inl he)
      generalize upd H' e (.ext (XAt e cL))=H2 at hX sX
      refine ⟨_,rfl,rfl,_,rfl,jr ?_⟩
      refine ⟨_,rfl,e,cL,_,_,false,rfl,hX,X_NoLicence.x,.inr ⟨_,rfl,rfl⟩,TT.kN,_,rfl,jr ?_⟩
      refine ⟨_,rfl,e,cL,_,_,false,rfl,hX,X_NoLicence.x,.inr ⟨_,rfl,rfl⟩,TT.kR,_,rfl,jr ?_⟩
      refine ⟨_,rfl,e,cL,_,_,true,rfl,hX,X_NoLicence.x,.inl ⟨_,rfl,rfl⟩,TT.kV,_,rfl,jr ?_⟩
      refine ⟨szl,fun lq hlq=>?_⟩
      have hXq:(upd H2 lq (.lst [.str "other",.str "none"])) e=some (.ext (XAt e cL)):=(aY (fun z=>by rw [z,hlq] at hX;cases hX)).trans hX
      refine ⟨_,rfl,e,cL,_,_,true,rfl,hXq,X_NoLicence.x,.inr ⟨_,rfl,rfl⟩,TT.kL,.inr ⟨_,rfl,?_⟩⟩
      exact ⟨lq,_,1,_,rfl,rfl,SqL.of bI,rfl,qN hn _ (sX.upd (sX.free hlq) (.inl hlq))⟩
    · refine ⟨_,rfl,rfl,_,rfl,qd ?_⟩
      refine ⟨szl,fun lq hlq=>?_⟩
      refine ⟨_,rfl,rfl,.inr ⟨_,rfl,?_⟩⟩
      exact ⟨lq,_,1,_,rfl,rfl,SqL.of bI,rfl,q hy t1 t2 _ (O.mk' hlq rfl).tail⟩
end
theorem getD_in {ns:List Int} {j:Nat} (h:j<ns.length):ns.getD j 0∈ns:=by
  rw [List.getD_eq_getElem?_getD,List.getElem?_eq_getElem h];exact List.getElem_mem h
abbrev aQ:Stmt:=top 45
theorem eF:aL ["xs","below","line","ways","odd"] ["xs","below","line"] (ak aQ):=⟨rfl,rfl,rfl,by decide +kernel,rfl,by decide +kernel,by decide +kernel⟩
def vM (K:PySem.W.Frag) (T:eZ):Sp:=fun vs H Q _=>∃ (a b t:Addr) (ys r:List Int) (l:Lic),vs=[.ref a,.ref b,.ref t]∧SqL K H a (ys.map V.int)∧SqL K H b (r.map V.int)∧SqT K H t (mH l)∧ys.length=9∧(∀ y∈ys,0≤y∧y<1000000007)∧Rv.iJ r∧1≤r.length∧r.length≤12∧TabsOk T H∧∀ (z:Int) (H':Hp),bD T H H'→Q (.int z) H'
theorem Gu {f f1:Addr} {fd fd1:FuncData} (D:Df K mg "_law_new_start" aQ ["xs","below","line"] f fd) (B:Blt mg)
    (bf:Df K mg "_law_way" cP ["below","reach"] f1 fd1) (gA:cj P w K mg base CX0 1 f1 fd1 ["below","reach"] (kW K)):cj P w K mg base CX0 2 f fd ["xs","below","line"] (vM K T):=by
  refine D.F.ok eF (fun vs H Q E h=>?_) (fun cdv A outer s H vs Q E hr h=>?_)
  · obtain ⟨_,_,_,_,_,_,rfl,_⟩:=h;rfl
  · obtain ⟨a,b,t,ys,r,l,rfl,hA,hB,hT,y9,yb,hR,r1,r12,tk,q⟩:=h
    have hu:=hr.units
    have O:=Ow.refl tk
    have g:∀ k:Nat,k<9→ys[k]?=some (ys.getD k 0):=fun k hk=>jW (by omega)
    have hml:(r.map V.int).length=r.length:=List.length_map _
    refine ⟨_,(au (jd (i:=3) (ak aQ) rfl ["xs","below","line","ways","odd"] rfl ["reach","line","below"] [none,some 2,some 1] (by decide +kernel) (by decide +kernel) (by decide +kernel) rfl eF.nd rfl rfl (gn rfl B.range (aj (aJ aF rfl B.len PySem.boot_len (aj (pv 1) aA)) aA)) (fun _ _ _=>(dJ (i:=0) (show (["reach","line","below"]:List Str).Nodup by decide +kernel) rfl (Or.inl rfl))) (fun _ _ _=>(rT (aW (qJ (K:=K) rfl) (aP (Es (K:=K) rfl) (pv 1) aB (fun _ _=>rfl)) (iT (uF (K:=K) rfl) (bB gA (hr.mono (by decide)) rfl bf.m bf.F.kp bf.b .nil cA (aj (pv 2) (aj (pv 0) aA))) (je aB) lQ) (by rfl)))) (fun _ _ _=>(pv 0)) rfl)
      (au (bT (i:=4) eF.nd rfl (Or.inl rfl) (eE (aj (j8 iz aB) (aj (j8 iz aB) (aj (aJ aF rfl B.len PySem.boot_len (aj (pv 1) aA)) (aj (bJ cV (bJ iC (bJ iC (bJ iC (aP aD (pv 0) aB (fun _ _=>rfl)) (aP aD (pv 0) aB (fun _ _=>rfl))) (aP aD (pv 0) aB (fun _ _=>rfl))) (aP aD (pv 0) aB (fun _ _=>rfl))) (bJ vR aB aB)) aA))))))
      (au (d8 (aW lV (bJ cV (aP aD (pv 0) aB (fun _ _=>rfl)) aB) aB (bC _))
        (aC (aV (aP aD (pv 4) (bJ cV (aP aD (pv 0) aB (fun _ _=>rfl)) aB) (fun _ _=>rfl))))
        aZ)
      (au (d8 (PW.pt (pw_and (aW qI (bJ cV (aP aD (pv 0) aB (fun _ _=>rfl)) aB) aB (bC _)) (pw_and1 (aW (sH hu) (pv 3) (eE aA) (bC _)))))
        (aC (aV (aP aD (pv 3) (bJ cV (aP aD (pv 0) aB (fun _ _=>rfl)) (aJ aF rfl B.len PySem.boot_len (aj (pv 3) aA))) (fun _ _=>rfl))))
        aZ)
      (aC (aV (aP aD (eE (aj (bJ cV (aP aD (pv 0) aB (fun _ _=>rfl)) (aJ aF rfl B.len PySem.boot_len (aj (pv 1) aA))) (aj (aP eY (pv 2) aB (fun _ _=>rfl)) aA))) (bJ cV (aP aD (pv 0) aB (fun _ _=>rfl)) aB) (fun _ _=>rfl)))))))),?_⟩
    refine ⟨_,rfl,b,_,rfl,.inl hB,(r.map V.int).length,rfl,by omega,by omega,fun lw hlw=>?_⟩
    refine gq (fun i τ H'=>Iv (∃ (v0:Option V) (ms:List Int),τ=[v0,some (.ref t),some (.ref b)]∧Ow T H H' [(lw,.lst (ms.map V.int))]∧ms.length≤i)) ⟨trivial,none,[],rfl,O.mk' hlw rfl,Nat.le_refl _⟩ ?_ ?_
    · rintro i τ H4 hi ⟨-,v0,ms,rfl,O,hms⟩
      rw [Int.zero_add]
      refine ⟨_,rfl,t,_,2,_,rfl,rfl,hT.mo O.same,rfl,_,rfl,_,rfl,b,r,(i:Int),rfl,hB.mo O.same,hR,by omega,by omega,by omega,O.got fun l2 H5 xs O e=>?_⟩
      subst e
      refine ⟨1,rfl,l2,_,rfl,O.sq 0,fun l3 hl3=>?_⟩
      walk_at "nw"
      rw [show qm ((Rv.walk r (i:Int)).map V.int) (some 1) none=((Rv.walk r (i:Int)).drop 1).map V.int from jB _ 1] at O
      refine ⟨l3,_,rfl,.inl (O.sq 0),rfl,jX _,?_⟩
      rw [if_neg Bool.false_ne_true,oN]
      have O:=O.tail.tail
      refine ⟨_,rfl,ifD (fun _=>?_) (fun _=>?_)⟩
      · refine ⟨_,rfl,_,O.get 0,bw (by rw [List.length_map];omega),?_⟩
        walk_at "pt"
        refine ⟨trivial,_,ms++[(i:Int)],rfl,?_,by rw [List.length_append];simp;omega⟩
        rw [List.map_append];exact O
      · exact ⟨trivial,_,ms,rfl,O,by omega⟩
    rintro τ H4 ⟨-,v0,ms,rfl,O,hms⟩
    rw [hml,Int.toNat_natCast] at hms
    have yb6:=yb _ (getD_in (ns:=ys) (j:=6) (by omega))
    refine ⟨1,rfl,2,rfl,_,rfl,b,_,rfl,.inl (hB.mo O.same),_,rfl,a,_,6,_,rfl,rfl,hA.mo O.same,aX (i:=6) (g 6 (by decide)),_,rfl,a,_,6,_,rfl,rfl,hA.mo O.same,aX (i:=6) (g 6 (by decide)),_,_,rfl,rfl,.inr ⟨by omega,by omega⟩,_,rfl,a,_,6,_,rfl,rfl,hA.mo O.same,aX (i:=6) (g 6 (by decide)),_,_,rfl,rfl,.inr ⟨by omega,by omega⟩,_,rfl,a,_,6,_,rfl,rfl,hA.mo O.same,aX (i:=6) (g 6 (by decide)),_,_,rfl,rfl,.inr ⟨by omega,by omega⟩,_,_,rfl,rfl,⟨by decide,by decide,by decide⟩,_,_,rfl,rfl,(by show (0:Int)<10 ^ 30;decide),szl,fun lo hlo=>?_⟩
    walk_at "nw"
    have k0:=Int.emod_nonneg (ys.getD 8 0) (show (4:Int)≠0 by decide)
    have k1:=Int.emod_lt_of_pos (ys.getD 8 0) (show (0:Int)<4 by decide)
    refine ⟨_,rfl,a,_,7,_,rfl,rfl,hA.mo O.same,aX (i:=7) (g 7 (by decide)),_,_,rfl,rfl,(by show (0:Int)<5;decide),rfl,_,rfl,ifI (fun _=>?_) (fun _=>?_)⟩
    · refine ⟨_,rfl,_,rfl,a,_,8,_,rfl,rfl,hA.mo O.same,aX (i:=8) (g 8 (by decide)),_,_,rfl,rfl,(by show (0:Int)<4;decide),?_⟩
      dsimp only at O ⊢
      refine ⟨lo,_,_,_,rfl,rfl,O.sq 0,cW (ns:=[-1,-2,((r.map V.int).length:Int),ys.getD 6 0 * ys.getD 6 0 * ys.getD 6 0 * ys.getD 6 0 % 10 ^ (30:Int).toNat]) k0 k1,?_⟩
      exact q _ _ O.same
    refine ⟨_,rfl,a,_,7,_,rfl,rfl,hA.mo O.same,aX (i:=7) (g 7 (by decide)),_,_,rfl,rfl,(by show (0:Int)<5;decide),_,_,rfl,rfl,_,rfl,?_⟩
    have j0:=Int.emod_nonneg (ys.getD 6 0) (show (2:Int)≠0 by decide)
    have j1:=Int.emod_lt_of_pos (ys.getD 6 0) (show (0:Int)<2 by decide)
    refine ifD (fun _=>?_) (fun _=>?_)
    · refine ⟨_,rfl,szl,fun le hle=>?_⟩
      walk_at "nw"
      refine ⟨lw,le,ms,[],rfl,rfl,O.sq 2,O.sq 0,_,rfl,ifN (ifD (fun _=>?_) (fun hne=>?_))⟩
      rotate_left
      · have hml2:(ms.map V.int).length=ms.length:=List.length_map _
        have m1:1≤ms.length:=by
          cases ms with
          | nil=>exact absurd rfl hne
          | cons _ _=>exact Nat.succ_le_succ (Nat.zero_le _)
        refine ⟨_,rfl,_,rfl,a,_,8,_,rfl,rfl,hA.mo O.same,aX (i:=8) (g 8 (by decide)),_,rfl,lw,_,rfl,.inl (O.sq 2),_,_,rfl,rfl,(by show (0:Int)<((ms.map V.int).length:Int);omega),?_⟩
        dsimp only
        rw [hml2]
        refine ⟨lw,_,_,_,rfl,rfl,O.sq 2,cW (ns:=ms) (Int.emod_nonneg _ (by omega)) (Int.emod_lt_of_pos _ (by omega)),?_⟩
        exact q _ _ O.same
      refine ⟨_,rfl,a,_,8,_,rfl,rfl,hA.mo O.same,aX (i:=8) (g 8 (by decide)),_,rfl,b,_,rfl,.inl (hB.mo O.same),_,_,rfl,rfl,(by show (0:Int)<((r.map V.int).length:Int);omega),_,rfl,t,_,1,_,rfl,rfl,hT.mo O.same,rfl,szl,fun l9 hl9=>?_⟩
      walk_at "nw"
      refine ⟨_,rfl,a,_,6,_,rfl,rfl,hA.mo O.same,aX (i:=6) (g 6 (by decide)),_,_,rfl,rfl,(by show (0:Int)<2;decide),?_⟩
      dsimp only at O ⊢
      refine ⟨l9,_,_,_,rfl,rfl,O.sq 0,cW (ns:=[ys.getD 8 0 % ((r.map V.int).length:Int),l.start]) j0 j1,?_⟩
      exact q _ _ O.same
    · refine ⟨_,rfl,a,_,8,_,rfl,rfl,hA.mo O.same,aX (i:=8) (g 8 (by decide)),_,rfl,b,_,rfl,.inl (hB.mo O.same),_,_,rfl,rfl,(by show (0:Int)<((r.map V.int).length:Int);omega),_,rfl,t,_,1,_,rfl,rfl,hT.mo O.same,rfl,szl,fun l9 hl9=>?_⟩
      walk_at "nw"
      refine ⟨_,rfl,a,_,6,_,rfl,rfl,hA.mo O.same,aX (i:=6) (g 6 (by decide)),_,_,rfl,rfl,(by show (0:Int)<2;decide),?_⟩
      dsimp only at O ⊢
      refine ⟨l9,_,_,_,rfl,rfl,O.sq 0,cW (ns:=[ys.getD 8 0 % ((r.map V.int).length:Int),l.start]) j0 j1,?_⟩
      exact q _ _ O.same
abbrev bZ:Stmt:=top 46
theorem j6:aL ["below","line","start"] ["below","line","start"] (ak bZ):=⟨rfl,rfl,rfl,by decide +kernel,rfl,by decide +kernel,by decide +kernel⟩
def vN (K:PySem.W.Frag) (T:eZ):Sp:=fun vs H Q _=>∃ (b t:Addr) (r:List Int) (l:Lic) (st:Int),vs=[.ref b,.ref t,.int st]∧SqL K H b (r.map V.int)∧SqT K H t (mH l)∧Rv.iJ r∧r.length≤12∧TabsOk T H∧∀ (k:Bool) (H':Hp),(k=true↔(0≤st∧st<r.length∧(l.back=-1∨l.back∈(Rv.walk r st).drop 1)))→bD T H H'→Q (.bl k) H'
theorem Gv {f f1:Addr} {fd fd1:FuncData} (D:Df K mg "_law_is_let" bZ ["below","line","start"] f fd) (B:Blt mg)
    (bf:Df K mg "_law_way" cP ["below","reach"] f1 fd1) (gA:cj P w K mg base CX0 1 f1 fd1 ["below","reach"] (kW K)):cj P w K mg base CX0 2 f fd ["below","line","start"] (vN K T):=by
  refine D.F.ok j6 (fun vs H Q E h=>?_) (fun cdv A outer s H vs Q E hr h=>?_)
  · obtain ⟨_,_,_,_,_,rfl,_⟩:=h;rfl
  · obtain ⟨b,t,r,l,st,rfl,hB,hT,hR,r12,tk,q⟩:=h
    have O:=Ow.refl tk
    have hml:(r.map V.int).length=r.length:=List.length_map _
    refine ⟨_,(au (d8 (PW.pt (pw_or (aW qI (pv 2) aB (bC _)) (pw_or1 (aW Gn (pv 2) (aJ aF rfl B.len PySem.boot_len (aj (pv 0) aA)) (bC _)))))
        (aC (aV jf))
        aZ)
      (aC (aV (Gj (gP lV (aP eY (pv 1) aB (fun _ _=>rfl)) (j8 iz aB) (bC _)) (nj (gP jO (aP eY (pv 1) aB (fun _ _=>rfl)) (iT jE (bB gA (hr.mono (by decide)) rfl bf.m bf.F.kp bf.b .nil cA (aj (pv 0) (aj (pv 2) aA))) (je aB) lQ) (by rfl))))))),?_⟩
    refine ⟨_,rfl,_,_,rfl,rfl,_,rfl,ifD (fun h1=>?_) (fun h1=>?_)⟩
    · exact q _ _ ⟨(fun e=>nomatch e),fun z=>absurd z.1 (by omega)⟩ O.same
    refine ⟨_,rfl,_,rfl,b,_,rfl,.inl hB,_,_,rfl,rfl,_,rfl,ifD (fun h2=>?_) (fun h2=>?_)⟩
    · exact q _ _ ⟨(fun e=>nomatch e),fun z=>absurd z.2.1 (by rw [hml] at h2;omega)⟩ O.same
    rw [hml] at h2
    refine ⟨_,rfl,t,_,2,_,rfl,rfl,hT,rfl,1,rfl,rfl,_,rfl,ifI (fun e=>?_) (fun e=>?_)⟩
    · exact q _ _ ⟨fun _=>⟨by omega,by omega,.inl e⟩,fun _=>rfl⟩ O.same
    refine ⟨_,rfl,t,_,2,_,rfl,rfl,hT,rfl,_,rfl,_,rfl,b,r,st,rfl,hB,hR,by omega,by omega,by omega,O.got fun l2 H5 xs O e2=>?_⟩
    subst e2
    refine ⟨1,rfl,l2,_,rfl,O.sq 0,fun l3 hl3=>?_⟩
    walk_at "nw"
    rw [show qm ((Rv.walk r st).map V.int) (some 1) none=((Rv.walk r st).drop 1).map V.int from jB _ 1] at O
    refine ⟨l3,_,rfl,.inl (O.sq 0),rfl,jX _,?_⟩
    rw [if_neg Bool.false_ne_true,oN]
    refine q _ _ ?_ O.same
    rw [decide_eq_true_iff]
    exact ⟨fun h=>⟨by omega,by omega,.inr h⟩,fun h=>h.2.2.resolve_left e⟩
theorem Fv {i:Int} (h0:0≤i) (h1:i<3):("xyz":Str).cps[i.toNat]?=some (120 + i.toNat):=by
  have h:i=0∨i=1∨i=2:=by omega
  rcases h with rfl | rfl | rfl <;> rfl
theorem Gp {c:Nat} (h0:97≤c) (h1:c≤122):iV (⟨#[c]⟩:Str):=by
  refine ⟨by show 1≤1;decide,by show 1≤8;decide,fun d hd=>?_⟩
  have:d=c:=by simpa using hd
  omega
abbrev cG:Stmt:=top 44
theorem cJ:aL ["one","xs","below","lines","owners","day","start","most","far","back","name"] ["one","xs","below","lines","owners","day"] (ak cG):=⟨rfl,rfl,rfl,by decide +kernel,rfl,by decide +kernel,by decide +kernel⟩
def pN (K:PySem.W.Frag) (T:eZ) (C:Addr):Sp:=fun vs H Q _=>∃ (A:Rs) (H0:Hp) (B:List (Addr × HO)) (r:List Int) (day:Int) (us ws:List V) (ns:List Str) (ds:List V) (ls:List Lic) (a b c lb:Addr) (ys:List Int),vs=[.ref A.p,.ref a,.ref lb,.ref b,.ref c,.int day] ∧
  Ow T H0 H (RL C A r day us ns ds++(a,.lst (ys.map V.int)) :: (c,.lst (ns.map V.str)) :: (b,.lst ws) :: (lb,.lst (r.map V.int)) :: B)∧ys.length=9∧(∀ y∈ys,0≤y∧y<1000000007)∧Rv.iJ r∧1≤r.length∧r.length≤12∧cQ K H0 us (ls.map iU)∧cQ K H0 ws (ls.map iU)∧ls.length<60∧ns.length=ls.length∧0≤day∧day≤1000000∧ds.length≤8000 ∧
  ∀ (Hb H':Hp) (us' ws' ds':List V) (x:Str) (l:Lic),bD T H0 Hb→Ow T Hb H' (RL C A r day us' (ns++[x]) ds'++(a,.lst (ys.map V.int)) :: (c,.lst ((ns++[x]).map V.str)) :: (b,.lst ws') :: (lb,.lst (r.map V.int)) :: B)→cQ K Hb us' ((ls++[l]).map iU)→cQ K Hb ws' ((ls++[l]).map iU)→iV x→ds'.length≤ds.length + 1→l.day=day→0≤l.most→l.most≤1000000000000→Q .non H'
section
variable {P:Program} {w:World} {K:PySem.W.Frag} {mg:Str→Option Value} {base:Heap} {T:eZ} {C f0:Addr}
theorem uN {f f1 f3:Addr} {fd fd1 fd3:FuncData} (D:Df K mg "_law_filed" cG ["one","xs","below","lines","owners","day"] f fd) (B:Blt mg) (R_Roll:Cl K mg "Roll" C f0 fZ)
    (bf:Df K mg "_law_way" cP ["below","reach"] f1 fd1) (gA:cj P w K mg base CX0 1 f1 fd1 ["below","reach"] (kW K))
    (fP:DmD K C "file" "Roll.file" dw ["self","holder","start","most","back"] f3 fd3) (pA:cj P w K mg base CX0 3 f3 fd3 ["self","holder","start","most","back"] (rG T C)):cj P w K mg base CX0 4 f fd ["one","xs","below","lines","owners","day"] (pN K T C):=by
  refine D.F.ok cJ (fun vs H Q E h=>?_) (fun cdv A outer s H vs Q E hr h=>?_)
  · obtain ⟨_,_,_,_,_,_,_,_,_,_,_,_,_,_,_,rfl,_⟩:=h;rfl
  · obtain ⟨A,H0,L,r,day,us,ws,ns,ds,ls,a,b,c,lb,ys,rfl,O,y9,yb,hR,m1,m12,d0,d1,l60,nn,dy0,dy1,dl,q⟩:=h
    have hu:=hr.units
    have g:∀ k:Nat,k<9→ys[k]?=some (ys.getD k 0):=fun k hk=>jW (by omega)
    have hul:us.length=ls.length:=by rw [d0.length,List.length_map]
    have hwl:ws.length=ls.length:=by rw [d1.length,List.length_map]
    have hml:(r.map V.int).length=r.length:=List.length_map _
    refine ⟨_,(au (bT (i:=6) cJ.nd rfl (Or.inl rfl) (bJ cV (aP aD (pv 1) aB (fun _ _=>rfl)) (aJ aF rfl B.len PySem.boot_len (aj (pv 2) aA))))
      (au (bT (i:=7) cJ.nd rfl (Or.inl rfl) (aP aD (eE (aj (bJ jm aB (bJ cV (aP aD (pv 1) aB (fun _ _=>rfl)) aB)) (aj (bJ jm aB (bJ cV (bJ iC (aP aD (pv 1) aB (fun _ _=>rfl)) aB) (bJ vR aB aB))) aA))) (bJ cV (aP aD (pv 1) aB (fun _ _=>rfl)) aB) (fun _ _=>rfl)))
      (au (bT (i:=8) cJ.nd rfl (Or.inl rfl) (iT jE (bB gA (hr.mono (by decide)) rfl bf.m bf.F.kp bf.b .nil cA (aj (pv 2) (aj (pv 6) aA))) (je aB) lQ))
      (au (bT (i:=9) cJ.nd rfl (Or.inl rfl) (j8 iz aB))
      (gM (d8 (PW.pt (pw_and (aW (sH hu) (pv 8) (eE aA) (bC _)) (pw_and1 (aW lV (bJ cV (aP aD (pv 1) aB (fun _ _=>rfl)) aB) aB (bC _)))))
        (aC (bT (i:=9) cJ.nd rfl (Or.inl rfl) (aP aD (pv 8) (bJ cV (aP aD (pv 1) aB (fun _ _=>rfl)) (aJ aF rfl B.len PySem.boot_len (aj (pv 8) aA))) (fun _ _=>rfl))))
        aZ)
      (au (bT (i:=10) cJ.nd rfl (Or.inl rfl) (oF fH (bJ cV (bJ jP (aP aD (pv 1) aB (fun _ _=>rfl)) aB) aB) (fun _ _=>rfl)))
      (au (cu (gO (pv 0) R_Roll.c fP.m pA (hr.mono (by decide)) fP.b0 .nil cA (aj (pv 10) (aj (pv 6) (aj (pv 7) (aj (pv 9) aA))))))
      (au (cu (j9 PySem.F.plainAttrs_list PySem.F.slot_list_append PySem.F.type_list_append dB (pv 3) (aj (iB (aj (pv 5) (aj (pv 6) (aj (pv 9) (aj (pv 7) aA))))) aA)))
      (aC (cu (j9 PySem.F.plainAttrs_list PySem.F.slot_list_append PySem.F.type_list_append dB (pv 4) (aj (pv 10) aA)))))))))))),?_⟩
    have st0:=Int.emod_nonneg (ys.getD 1 0) (show (r.length:Int)≠0 by omega)
    have st1:=Int.emod_lt_of_pos (ys.getD 1 0) (show (0:Int)<(r.length:Int) by omega)
    refine ⟨_,rfl,a,_,1,_,rfl,rfl,O.sq 6,aX (i:=1) (g 1 (by decide)),_,rfl,lb,_,rfl,.inl (O.sq 9),_,_,rfl,rfl,(by rw [hml];omega),?_⟩
    rw [hml]
    dsimp only
    generalize ys.getD 1 0 % (r.length:Int)=st at st0 st1
    have k0:=Int.emod_nonneg (ys.getD 3 0) (show (2:Int)≠0 by decide)
    have k1:=Int.emod_lt_of_pos (ys.getD 3 0) (show (0:Int)<2 by decide)
    have u0:=Int.emod_nonneg (ys.getD 2 0) (show (9:Int)≠0 by decide)
    have u1:=Int.emod_lt_of_pos (ys.getD 2 0) (show (0:Int)<9 by decide)
    have w0:=Int.emod_nonneg (ys.getD 2 0 * 80021) (show (1000000000000:Int)≠0 by decide)
    have w1:=Int.emod_lt_of_pos (ys.getD 2 0 * 80021) (show (0:Int)<1000000000000 by decide)
    refine ⟨_,rfl,a,_,2,_,rfl,rfl,O.sq 6,aX (i:=2) (g 2 (by decide)),_,_,rfl,rfl,(by show (0:Int)<9;decide),_,_,rfl,rfl,_,rfl,a,_,2,_,rfl,rfl,O.sq 6,aX (i:=2) (g 2 (by decide)),_,_,rfl,rfl,.inr ⟨by decide,by decide⟩,_,_,rfl,rfl,⟨by decide,by decide,by decide⟩,_,_,rfl,rfl,(by show (0:Int)<10 ^ 12;decide),_,_,rfl,rfl,szl,fun lm hlm=>?_⟩
    walk_at "nw"
    refine ⟨_,rfl,a,_,3,_,rfl,rfl,O.sq 7,aX (i:=3) (g 3 (by decide)),_,_,rfl,rfl,(by show (0:Int)<2;decide),?_⟩
    dsimp only at O ⊢
    rw [show (10:Int) ^ (12:Int).toNat=1000000000000 by decide] at O
    refine ⟨lm,_,_,_,rfl,rfl,O.sq 0,cW (ns:=[1 + ys.getD 2 0 % 9,1 + ys.getD 2 0 * 80021 % 1000000000000]) k0 k1,?_⟩
    have hm:1≤[1 + ys.getD 2 0 % 9,1 + ys.getD 2 0 * 80021 % 1000000000000].getD (ys.getD 3 0 % 2).toNat 0∧[1 + ys.getD 2 0 % 9,1 + ys.getD 2 0 * 80021 % 1000000000000].getD (ys.getD 3 0 % 2).toNat 0≤1000000000000:=by
      have hin:=getD_in (ns:=[1 + ys.getD 2 0 % 9,1 + ys.getD 2 0 * 80021 % 1000000000000]) (j:=(ys.getD 3 0 % 2).toNat) (by show _<2;omega)
      simp only [List.mem_cons,List.not_mem_nil,or_false] at hin
      rcases hin with e | e <;> rw [e] <;> omega
    generalize [1 + ys.getD 2 0 % 9,1 + ys.getD 2 0 * 80021 % 1000000000000].getD (ys.getD 3 0 % 2).toNat 0=m at hm
    clear k0 k1 u0 u1 w0 w1
    have O:=O.tail
    refine ⟨_,rfl,_,rfl,lb,r,st,rfl,O.sq 9,hR,st0,st1,by omega,O.got fun lw H3 xs O e=>?_⟩
    subst e
    refine ⟨1,rfl,lw,_,rfl,O.sq 0,fun lf hlf=>?_⟩
    walk_at "nw"
    rw [show qm ((Rv.walk r st).map V.int) (some 1) none=((Rv.walk r st).drop 1).map V.int from jB _ 1] at O
    have O:=O.two
    refine ⟨1,rfl,?_⟩
    refine ⟨fun σ H'=>Iv (∃ (bk:Int),σ=[some (.ref A.p),some (.ref a),some (.ref lb),some (.ref b),some (.ref c),some (.int day),some (.int st),some (.int m),some (.ref lf),some (.int bk),none]∧(bk=-1∨bk∈(Rv.walk r st).drop 1) ∧
        Ow T H0 H' (RL C A r day us ns ds++(a,.lst (ys.map V.int)) :: (c,.lst (ns.map V.str)) :: (b,.lst ws) :: (lb,.lst (r.map V.int)) :: L)),?_,?_⟩
    · refine ⟨_,rfl,szl,fun le hle=>?_⟩
      walk_at "nw"
      refine ⟨lf,le,(Rv.walk r st).drop 1,[],rfl,rfl,O.sq 1,O.sq 0,_,rfl,ifN (ifD (fun _=>⟨trivial,-1,rfl,.inl rfl,O.tail.tail⟩) (fun hne=>?_))⟩
      have O:=O.tail
      refine ⟨_,rfl,a,_,4,_,rfl,rfl,O.sq 7,aX (i:=4) (g 4 (by decide)),_,_,rfl,rfl,(by show (0:Int)<2;decide),rfl,_,rfl,ifI (fun _=>?_) (fun _=>⟨trivial,-1,rfl,.inl rfl,O.tail⟩)⟩
      have hml2:(((Rv.walk r st).drop 1).map V.int).length=((Rv.walk r st).drop 1).length:=List.length_map _
      generalize (Rv.walk r st).drop 1=fs at O hne hml2
      have f1:1≤fs.length:=by
        cases fs with
        | nil=>exact absurd rfl hne
        | cons _ _=>exact Nat.succ_le_succ (Nat.zero_le _)
      have j0:=Int.emod_nonneg (ys.getD 5 0) (show (fs.length:Int)≠0 by omega)
      have j1:=Int.emod_lt_of_pos (ys.getD 5 0) (show (0:Int)<(fs.length:Int) by omega)
      refine ⟨_,rfl,_,rfl,a,_,5,_,rfl,rfl,O.sq 7,aX (i:=5) (g 5 (by decide)),_,rfl,lf,_,rfl,.inl (O.sq 0),_,_,rfl,rfl,(by show (0:Int)<((fs.map V.int).length:Int);omega),?_⟩
      dsimp only
      rw [hml2]
      refine ⟨lf,_,_,_,rfl,rfl,O.sq 0,cW (ns:=fs) j0 j1,?_⟩
      exact ⟨trivial,_,rfl,.inr (getD_in (by omega)),O.tail⟩
    clear O
    rintro σ H2 ⟨-,bk,rfl,hbk,O⟩
    have p0:=Int.emod_nonneg (ys.getD 3 0 / 2) (show (3:Int)≠0 by decide)
    have p1:=Int.emod_lt_of_pos (ys.getD 3 0 / 2) (show (0:Int)<3 by decide)
    refine ⟨_,rfl,a,_,3,_,rfl,rfl,O.sq 6,aX (i:=3) (g 3 (by decide)),_,_,rfl,rfl,⟨by decide,by decide⟩,_,_,rfl,rfl,(by show (0:Int)<3;decide),_,_,_,rfl,rfl,p0,(by show ys.getD 3 0 / 2 % 3<2 ^ 63;omega),p1,Fv p0 p1,?_⟩
    have nx:=Gp (c:=120 + (ys.getD 3 0 / 2 % 3).toNat) (by omega) (by omega)
    generalize (⟨#[120 + (ys.getD 3 0 / 2 % 3).toNat]⟩:Str)=x at nx
    refine ⟨_,rfl,A.p,A.dx,_,rfl,O.get 0,rfl,_,rfl,_,rfl,_,rfl,_,rfl,?_⟩
    refine ⟨A,H0,_,r,day,us,ns,ds,x,⟨day,st,bk,m⟩,.int bk,rfl,.inr rfl,rfl,O,nx,hR,by omega,⟨⟨dy0,dy1,st0,st1,by show 0≤m;omega,hm.2⟩,hbk⟩,(by show m≠0;omega),by omega,by omega,by omega,fun t1 t2 H9 O=>?_⟩
    obtain ⟨Hn1,O,sn1,en1⟩:=O.kh 0
    obtain ⟨Hn2,O,sn2,en2⟩:=O.kh 0
    refine ⟨_,rfl,.inl ⟨rfl,_,O.sq 8⟩,_,rfl,_,rfl,_,rfl,_,rfl,szl,fun t3 ht3=>?_⟩
    walk_at "nw"
    refine ⟨b,_,_,rfl,rfl,O.get 9,bw (by omega),?_⟩
    generalize hE:upd _ _ _=Hn
    have O:=Ow.mK O 9 rfl hE rfl
    clear hE
    obtain ⟨Hn3,O,sn3,en3⟩:=O.kh 0
    refine ⟨_,rfl,.inl ⟨rfl,_,O.sq 7⟩,_,rfl,c,_,_,rfl,rfl,O.get 7,bw (by rw [List.length_map];omega),?_⟩
    generalize hE:upd _ _ _=Hm
    have O:=Ow.mK O 7 rfl hE rfl
    clear hE
    have sA:=sn1.trans (sn2.trans sn3)
    refine q Hn3 Hm (us++[.ref t1]) (ws++[.ref t3]) (ds++[.ref t2]) x ⟨day,st,bk,m⟩ sA ?_ ?_ ?_ nx (by rw [List.length_append];simp) rfl (by show 0≤m;omega) hm.2
    · rw [List.map_append];exact O
    · rw [List.map_append]
      exact (d0.mo sA).append (.cons (Den.lic (SqT.of (sn3.keep _ _ en2 (fun _ z=>nomatch z)))) .nil)
    · rw [List.map_append]
      exact (d1.mo sA).append (.cons (Den.lic (l:=⟨day,st,bk,m⟩) (SqT.of en3)) .nil)
end
theorem lW {ns:List Str} {n:Nat} {x:Str} (h:ns[n]?=some x):(ns.map V.str)[n]?=some (.str x):=by rw [List.getElem?_map,h];rfl
theorem jA (ls:List Lic):(ls.map fun l=>[l.day,l.start,l.back,l.most]).map dTup=ls.map iU:=by rw [List.map_map];rfl
theorem nA (ls:List Lic):∀ x∈ls.map fun l=>[l.day,l.start,l.back,l.most],x.length=4:=fun x hx=>by
  obtain ⟨p,_,rfl⟩:=List.mem_map.mp hx;rfl
abbrev PB (k:Bool):Str:=if k=true then "moved" else "none"
theorem Mi (k:Bool):atI [V.str "none",V.str "moved"] (if k=true then 1 else 0)=some (V.str (PB k)):=by cases k <;> rfl
abbrev mvd (k:Bool) (ls:List Lic) (n:Nat) (l:Lic) (z:Int):List Lic:=if k=true then ls.set n (wst l z) else ls
theorem Ep (k:Bool) (ls:List Lic) (n:Nat) (l:Lic) (z:Int):(mvd k ls n l z).length=ls.length:=by unfold mvd;split <;> simp
theorem lg {r:List Int} {rk:Nat→Nat} (h3:∀ (i:Nat) (x:Int),r[i]?=some x→x=-1∨(0≤x∧x<r.length∧rk x.toNat<rk i)):∀ (f:Nat) (p:Int),0≤p→p<r.length→rk p.toNat<f→Rv.iW r f p=-1
  | 0,p,_,_,h=>absurd h (Nat.not_lt_zero _)
  | f + 1,p,h0,h1,h=>by
    show Rv.iW r f (Rv.stp r p)=-1
    unfold Rv.stp
    rw [if_neg (by omega)]
    rcases h3 _ _ (Rv.gQ h0 h1) with e | ⟨a,b,c⟩
    · rw [e];exact Rv.pD r f
    · exact lg h3 f _ a b (by omega)
theorem rR {r:List Int} (hR:Rv.iJ r) (h1:1≤r.length) (h2:r.length≤40):Rv.isR r=true:=by
  obtain ⟨rk,k1,k2⟩:=hR
  have hB:Rv.inB r:=fun x hx=>by
    obtain ⟨i,hi⟩:=List.getElem?_of_mem hx
    rcases k2 i x hi with e | ⟨a,b,_⟩ <;> omega
  unfold Rv.isR
  rw [decide_eq_true (⟨h1,h2⟩:1≤r.length∧r.length≤40),decide_eq_true hB,decide_eq_true (fun i hi=>lg k2 _ _ (by omega) (by omega) (by rw [Int.toNat_natCast];exact k1 i hi))]
  rfl
abbrev j7:Stmt:=top 47
theorem fU:aL ["script","below","one","lines","owners","day","held","cell","xs","number","line","start","due"] ["script"] (ak j7):=⟨rfl,rfl,rfl,by decide +kernel,rfl,by decide +kernel,by decide +kernel⟩
def pO (K:PySem.W.Frag):Sp:=fun vs H Q _=>∃ (a:Addr) (ns:List Int),vs=[.ref a]∧SqL K H a (ns.map V.int)∧ns.length≤63∧∀ H',Q (.bl true) H'
section
variable {P:Program} {w:World} {K:PySem.W.Frag} {mg:Str→Option Value} {base:Heap} {T:eZ} {C f0:Addr}
theorem Gw {f f1 f2 f3 f4 f5 f6 f7 f8 f9 f10 f11 f12 f13 f14 f15 cY:Addr} {fd fd1 fd2 fd3 fd4 fd5 fd6 fd7 fd8 fd9 fd10 fd11 fd12 fd13 fd14 fd15:FuncData} (hT0:T=[]) (D:Df K mg "law" j7 ["script"] f fd) (B:Blt mg) (R_Roll:Cl K mg "Roll" C f1 fZ)
    (cU:Df K mg "_law_cell_at" bQ ["script","k"] f2 fd2) (kJ:cj P w K mg base CX0 1 f2 fd2 ["script","k"] (rK K))
    (dW:Df K mg "_law_river" bN ["cell"] f3 fd3) (nU:cj P w K mg base CX0 3 f3 fd3 ["cell"] (pL T))
    (d9:Dm K C "__init__" "Roll.__init__" bA ["self","below"] f1 fd1) (j4:cj P w K mg base CX0 3 f1 fd1 ["self","below"] (rF T C))
    (bx:Dm K C "roll" "Roll.roll" dh ["self"] f4 fd4) (fL:cj P w K mg base CX0 1 f4 fd4 ["self"] (lF K C "licences"))
    (bG:Df K mg "_law_draws" bO ["cell","many"] f5 fd5) (gU:cj P w K mg base CX0 2 f5 fd5 ["cell","many"] (rH T))
    (fM:Dm K C "turn" "Roll.turn" dg ["self"] f6 fd6) (o9:cj P w K mg base CX0 1 f6 fd6 ["self"] (rC T C))
    (dX:Df K mg "_law_filed" cG ["one","xs","below","lines","owners","day"] f7 fd7) (nW:cj P w K mg base CX0 4 f7 fd7 ["one","xs","below","lines","owners","day"] (pN K T C))
    (fQ:Dm K C "drop" "Roll.drop" dz ["self","number","holder"] f8 fd8) (pB:cj P w K mg base (CXE P w) 3 f8 fd8 ["self","number","holder"] (rJ K T C cY))
    (bW:Df K mg "_law_new_start" aQ ["xs","below","line"] f9 fd9) (ju:cj P w K mg base CX0 2 f9 fd9 ["xs","below","line"] (vM K T))
    (aU:Dm K C "look_move" "Roll.look_move" aR ["self","number","start"] f10 fd10) (eX:cj P w K mg base CX0 1 f10 fd10 ["self","number","start"] iG)
    (dI:Df K mg "_law_is_let" bZ ["below","line","start"] f11 fd11) (mG:cj P w K mg base CX0 2 f11 fd11 ["below","line","start"] (vN K T))
    (cg:Df K mg "_law_tried" cF ["one","number","name","start"] f12 fd12) (jo:cj P w K mg base CX0 4 f12 fd12 ["one","number","name","start"] (pJ K T C))
    (aN:Df K mg "_law_alike_lines" aM ["found","due"] f13 fd13) (fY:cj P w K mg base CX0 2 f13 fd13 ["found","due"] (vP K T))
    (dM:Dm K C "holders" "Roll.holders" bR ["self"] f14 fd14) (kO:cj P w K mg base CX0 1 f14 fd14 ["self"] (lF K C "names"))
    (eN:Dm K C "today" "Roll.today" cH ["self"] f15 fd15) (nY:cj P w K mg base CX0 1 f15 fd15 ["self"] (pK C)):cj P w K mg base CX0 5 f fd ["script"] (pO K):=by
  refine D.F.ok fU (fun vs H Q E h=>?_) (fun cdv A outer s H vs Q E hr h=>?_)
  · obtain ⟨_,_,rfl,_⟩:=h;rfl
  · obtain ⟨a,ns0,rfl,hS,hlen,k⟩:=h
    have tk:TabsOk T H:=hT0 ▸ TabsOk.nil H
    have hu:=hr.units
    have O:=Ow.refl tk
    refine ⟨_,(au (bT (i:=1) fU.nd rfl (Or.inl rfl) (bB nU (hr.mono (by decide)) rfl dW.m dW.F.kp dW.b .nil cA (aj (bB kJ (hr.mono (by decide)) rfl cU.m cU.F.kp cU.b .nil cA (aj (pv 0) (aj aB aA))) aA)))
      (au (bT (i:=2) fU.nd rfl (Or.inl rfl) (Ej R_Roll.k j4 (hr.mono (by decide)) rfl R_Roll.m d9.b .nil cA (aj (fJ fW rfl B.list PyProof.Rows.boot_list (aj (pv 1) aA)) aA)))
      (au (bT (i:=3) fU.nd rfl (Or.inl rfl) (eE aA))
      (au (bT (i:=4) fU.nd rfl (Or.inl rfl) (eE aA))
      (au (bT (i:=5) fU.nd rfl (Or.inl rfl) aB)
      (au (bT (i:=6) fU.nd rfl (Or.inl rfl) (fj (pv 2) R_Roll.c bx.m fL (hr.mono (by decide)) bx.b .nil cA))
      (au (pX PassesOwn.never rfl (oE (iT jE (pv 0) (je aB) (je aB))) (dJ (i:=7) fU.nd rfl (Or.inl rfl))
        (au (bT (i:=8) fU.nd rfl (Or.inl rfl) (bB gU (hr.mono (by decide)) rfl bG.m bG.F.kp bG.b .nil cA (aj (pv 7) (aj aB aA))))
        (gM (d8 (aW lV (bJ cV (aP aD (pv 8) aB (fun _ _=>rfl)) aB) aB (bC _))
          (au (cu (fj (pv 2) R_Roll.c fM.m o9 (hr.mono (by decide)) fM.b .nil cA))
          (aC (bT (i:=5) fU.nd rfl (Or.inl rfl) (bJ jm (pv 5) aB))))
          aZ)
        (au (cu (bB nW (hr.mono (by decide)) rfl dX.m dX.F.kp dX.b .nil cA (aj (pv 2) (aj (pv 8) (aj (pv 1) (aj (pv 3) (aj (pv 4) (aj (pv 5) aA))))))))
        (au (bT (i:=9) fU.nd rfl (Or.inl rfl) (bJ cV (bJ jP (aP aD (pv 8) aB (fun _ _=>rfl)) aB) (aJ aF rfl B.len PySem.boot_len (aj (pv 3) aA))))
        (gM (d8 (aW lV (bJ cV (bJ jP (aP aD (pv 8) aB (fun _ _=>rfl)) aB) aB) aB (bC _))
          (au (cu (gO (pv 2) R_Roll.c fQ.m pB (hr.mono (by decide)) fQ.b .nil Nf (aj (pv 9) (aj (aP aD (pv 4) (pv 9) (fun _ _=>rfl)) aA))))
          (aC (lu (iB (aj (aP eY (aP aD (pv 3) (pv 9) (fun _ _=>rfl)) aB (fun _ _=>rfl)) (aj (aP eY (aP aD (pv 3) (pv 9) (fun _ _=>rfl)) aB (fun _ _=>rfl)) (aj (aP eY (aP aD (pv 3) (pv 9) (fun _ _=>rfl)) aB (fun _ _=>rfl)) (aj aB aA))))) (ni (pv 3) (pv 9) set_list))))
          aZ)
        (au (bT (i:=10) fU.nd rfl (Or.inl rfl) (aP aD (pv 3) (pv 9) (fun _ _=>rfl)))
        (au (bT (i:=11) fU.nd rfl (Or.inl rfl) (bB ju (hr.mono (by decide)) rfl bW.m bW.F.kp bW.b .nil cA (aj (pv 8) (aj (pv 1) (aj (pv 10) aA)))))
        (au (d8 (PW.pt (pw_or (aW Ek (gO (pv 2) R_Roll.c aU.m eX (hr.mono (by decide)) aU.b .nil cA (aj (pv 9) (aj (pv 11) aA))) jK (bC _)) (pw_or1 (aW (pZ hu) (fj (pv 2) R_Roll.c bx.m fL (hr.mono (by decide)) bx.b .nil cA) (pv 3) (bC _)))))
          (aC (aV jf))
          aZ)
        (au (bT (i:=12) fU.nd rfl (Or.inl rfl) (aP aD (eE (aj fH (aj fH aA))) (fJ jZ rfl B.int PyProof.Rows.boot_int (aj (bB mG (hr.mono (by decide)) rfl dI.m dI.F.kp dI.b .nil cA (aj (pv 1) (aj (pv 10) (aj (pv 11) aA)))) aA)) (fun _ _=>rfl)))
        (gM (d8 (aW lU (bB jo (hr.mono (by decide)) rfl cg.m cg.F.kp cg.b .nil cA (aj (pv 2) (aj (pv 9) (aj (aP aD (pv 4) (pv 9) (fun _ _=>rfl)) (aj (pv 11) aA))))) (pv 12) (bC _))
          (aC (aV jf))
          aZ)
        (gM (d8 (aW lV (pv 12) fH (bC _))
          (aC (lu (iB (aj (aP eY (pv 10) aB (fun _ _=>rfl)) (aj (pv 11) (aj (aP eY (pv 10) aB (fun _ _=>rfl)) (aj (aP eY (pv 10) aB (fun _ _=>rfl)) aA))))) (ni (pv 3) (pv 9) set_list)))
          aZ)
        (au (d8 (PW.pt (pw_or (gj (gb (bB fY (hr.mono (by decide)) rfl aN.m aN.F.kp aN.b .nil cA (aj (fj (pv 2) R_Roll.c bx.m fL (hr.mono (by decide)) bx.b .nil cA) (aj (pv 3) aA))))) (pw_or (aW (pZ hu) (fj (pv 2) R_Roll.c dM.m kO (hr.mono (by decide)) dM.b .nil cA) (pv 4) (bC _)) (pw_or1 (aW lU (fj (pv 2) R_Roll.c eN.m nY (hr.mono (by decide)) eN.b .nil cA) (pv 5) (bC _))))))
          (aC (aV jf))
          aZ)
        (aC (d8 (PW.pt (pw_or (aW lU (bB jo (hr.mono (by decide)) rfl cg.m cg.F.kp cg.b .nil cA (aj (pv 2) (aj (pv 9) (aj (aP aD (pv 4) (pv 9) (fun _ _=>rfl)) (aj (pv 11) aA))))) (pv 12) (bC _)) (pw_or1 (aW (pZ hu) (fj (pv 2) R_Roll.c bx.m fL (hr.mono (by decide)) bx.b .nil cA) (pv 3) (bC _)))))
          (aC (aV jf))
          aZ)))))))))))))))
      (aC (aV (sG (gP (vU hu) (pv 6) (eE aA) (bC _)) (nj (bB fY (hr.mono (by decide)) rfl aN.m aN.F.kp aN.b .nil cA (aj (fj (pv 2) R_Roll.c bx.m fL (hr.mono (by decide)) bx.b .nil cA) (aj (pv 3) aA)))))))))))))),?_⟩
    refine ⟨_,rfl,a,ns0,0,rfl,hS,_,rfl,tk,O.Pu fun lb H1 xs O e=>?_⟩
    obtain ⟨r,rfl,hR,r1,r12⟩:=e
    refine ⟨_,rfl,lb,_,rfl,.inl (O.sq 0),fun lv hlv=>?_⟩
    walk_at "nw"
    intro x dx nx ndx nex
    have O:=(O.mk' ndx (o:=.own x) rfl).mk' (a:=x) (o:=.ins C dx []) (by rw [aY nex.symm];exact nx) rfl
    refine ⟨x,dx,lv,H,_,r,rfl,O,O.get 2,O.ne 2 0,rR hR (by omega) (by omega),by omega,fun A H5 eA O5=>⟨rfl,?_⟩⟩
    clear O nx ndx nex
    subst eA
    have O:=O5
    clear O5
    refine ⟨szl,fun ll hll=>?_⟩
    walk_at "nw"
    have O:Ow T H _ (RL C A r 0 [] [] []++[(ll,.lst []),(lv,.lst (r.map V.int)),(lb,.lst (r.map V.int))]):=Ow.mid (R:=RL C A r 0 [] [] []) O
    refine ⟨szl,fun lw hlw=>?_⟩
    walk_at "nw"
    have O:Ow T H _ (RL C A r 0 [] [] []++[(lw,.lst []),(ll,.lst []),(lv,.lst (r.map V.int)),(lb,.lst (r.map V.int))]):=Ow.mid (R:=RL C A r 0 [] [] []) O
    have O:Ow T H _ (RL C A r 0 [] [] []++[(lw,.lst []),(ll,.lst []),(lb,.lst (r.map V.int))]):=O.del 8
    refine ⟨_,rfl,A.p,A.dx,_,rfl,O.get 0,rfl,A.p,A.dx,A.ll,_,_,rfl,O.get 0,rfl,O.sq 3,fun lh hlh=>?_⟩
    walk_at "nw"
    obtain ⟨H0,O,s0,e0⟩:=O.kh 0
    refine ⟨_,rfl,1,rfl,41,rfl,a,_,rfl,(s0.trans O.same).seq hS,fun lq hlq=>?_⟩
    walk_at "nw"
    rw [show qm (ns0.map V.int) (some 1) (some 41)=((ns0.drop 1).take 40).map V.int from Mj ns0 1 41] at O
    have hql:((ns0.drop 1).take 40).length≤40:=by rw [List.length_take];omega
    generalize (ns0.drop 1).take 40=qs at O hql
    obtain ⟨H2,O,s2,e2⟩:=O.kh 0
    have s0:=s0.trans s2
    have e0:=s2.keep _ _ e0 (fun _ z=>nomatch z)
    have O:Ow T H2 _ (RL C A r 0 [] [] []++[(lw,.lst []),(ll,.lst []),(lb,.lst (r.map V.int))]):=O
    have hQ:SqL K H2 lq (qs.map V.int):=SqL.of e2
    have hH:SqL K H2 lh ([]:List V):=SqL.of e0
    clear s0 e0 e2
    refine ⟨lq,rfl,⟨_,hQ.mo O.same⟩,?_⟩
    refine qj (K:=K) (xs:=qs.map V.int) (fun i σ H'=>Iv (∃ (Hb:Hp) (us ws ds:List V) (ns:List Str) (ls:List Lic) (day:Int) (v7 v8 v9 v10 v11 v12:Option V),σ=[some (.ref a),some (.ref lb),some (.ref A.p),some (.ref ll),some (.ref lw),some (.int day),some (.ref lh),v7,v8,v9,v10,v11,v12] ∧
      Ow T Hb H' (RL C A r day us ns ds++[(lw,.lst (ns.map V.str)),(ll,.lst ws),(lb,.lst (r.map V.int))])∧bD T H2 Hb∧cQ K Hb us (ls.map iU)∧cQ K Hb ws (ls.map iU) ∧
      ls.length=i∧ns.length=ls.length∧ds.length≤5 * i∧0≤day∧day≤(i:Int)∧(∀ x∈ns,iV x)∧∀ l∈ls,(0≤l.day∧l.day≤1000000)∧0≤l.most∧l.most≤1000000000000))
      ⟨trivial,H2,[],[],[],[],[],0,none,none,none,none,none,none,rfl,O,bD.refl O.same.t0,.nil,.nil,rfl,rfl,Nat.le_refl _,Int.le_refl _,Int.le_refl _,(fun x hx=>nomatch hx),fun x hx=>nomatch hx⟩ (fun i σ H' _ ⟨_,_,_,_,_,_,_,_,_,_,_,_,_,_,_,O,s0,_⟩=>hQ.mo (s0.trans O.same)) ?_ ?_
    · clear O
      rintro i y σ H6 hy ⟨-,Hb,us,ws,ds,ns,ls,day,v7,v8,v9,v10,v11,v12,rfl,O,s0,d0,d1,n1,n2,n3,dy0,dy1,hnm,hbd⟩
      obtain ⟨c,hc,rfl⟩:=ints_get hy
      have hi:=(List.getElem?_eq_some_iff.mp hc).1
      refine ⟨_,rfl,c,9,rfl,by omega,O.same.t1,O.Pu fun lx H7 xs O e=>?_⟩
      subst e
      have O:Ow T Hb H7 (RL C A r day us ns ds++[(lx,.lst ((dvs c 9).map V.int)),(lw,.lst (ns.map V.str)),(ll,.lst ws),(lb,.lst (r.map V.int))]):=Ow.mid (R:=RL C A r day us ns ds) O
      have hx9:=oO c 9
      have hyb:∀ y∈dvs c 9,0≤y∧y<1000000007:=fun y hy=>by
        unfold dvs at hy
        obtain ⟨k,_,rfl⟩:=List.mem_map.mp hy
        exact ⟨Py _ _,Pz _ _⟩
      generalize dvs c 9=ys at O hx9 hyb
      have g:∀ k:Nat,k<9→ys[k]?=some (ys.getD k 0):=fun k hk=>jW (by omega)
      refine ⟨fun σ H'=>Iv (∃ (Hb:Hp) (day:Int) (ds:List V),σ=[some (.ref a),some (.ref lb),some (.ref A.p),some (.ref ll),some (.ref lw),some (.int day),some (.ref lh),some (.int c),some (.ref lx),v9,v10,v11,v12] ∧
        Ow T Hb H' (RL C A r day us ns ds++[(lx,.lst (ys.map V.int)),(lw,.lst (ns.map V.str)),(ll,.lst ws),(lb,.lst (r.map V.int))])∧bD T H2 Hb∧cQ K Hb us (ls.map iU)∧cQ K Hb ws (ls.map iU)∧ds.length≤5 * i + 1∧0≤day∧day≤(i:Int) + 1),?_,?_⟩
      · refine ⟨_,rfl,lx,_,0,_,rfl,rfl,O.sq 6,aX (i:=0) (g 0 (by decide)),_,_,rfl,rfl,(by show (0:Int)<3;decide),rfl,_,rfl,ifI (fun _=>?_) (fun _=>?_)⟩
        · refine ⟨_,rfl,A.p,A.dx,_,rfl,O.get 0,rfl,A,Hb,_,r,day,us,ns,ds,rfl,O,by omega,fun t H8 O=>?_⟩
          have O:=O.tail
          refine ⟨_,rfl,_,_,rfl,rfl,?_⟩
          exact ⟨trivial,Hb,day + 1,ds++[V.ref t],rfl,O,s0,d0,d1,by rw [List.length_append];simp;omega,by omega,by omega⟩
        · exact ⟨trivial,Hb,day,ds,rfl,O,s0,d0,d1,by omega,dy0,by omega⟩
      clear O d0 d1 s0 dy0 dy1 n3
      rintro σ H8 ⟨-,Hb,day,ds,rfl,O,s0,d0,d1,n3,dy0,dy1⟩
      refine ⟨_,rfl,_,rfl,_,rfl,_,rfl,_,rfl,_,rfl,A,Hb,_,r,day,us,ws,ns,ds,ls,lx,ll,lw,lb,ys,rfl,O,hx9,hyb,hR,r1,r12,d0,d1,by omega,n2,dy0,by omega,by omega,fun Hb' H9 us' ws' ds' xn ln s1 O e0 e1 nx dl ed ez0 ez1=>?_⟩
      have s0:=s0.trans s1
      have hbd2:∀ l∈ls++[ln],(0≤l.day∧l.day≤1000000)∧0≤l.most∧l.most≤1000000000000:=fun y hy=>by
        rcases List.mem_append.mp hy with h | h
        · exact hbd y h
        · rw [List.mem_singleton.mp h];exact ⟨by omega,ez0,ez1⟩
      have hnm2:∀ x∈ns++[xn],iV x:=fun y hy=>by
        rcases List.mem_append.mp hy with h | h
        · exact hnm y h
        · rw [List.mem_singleton.mp h];exact nx
      have n1':(ls++[ln]).length=i + 1:=by rw [List.length_append,n1];rfl
      have n2':(ns++[xn]).length=(ls++[ln]).length:=by rw [List.length_append,List.length_append,n2];rfl
      have n3':ds'.length≤5 * i + 2:=by omega
      clear d0 d1 n1 n2 n3 hbd hnm s1 dl ed ez0 ez1 nx
      generalize ls++[ln]=ls at e0 e1 hbd2 n1' n2'
      generalize ns++[xn]=ns at O hnm2 n2'
      have hul:us'.length=ls.length:=by rw [e0.length,List.length_map]
      have hwl:ws'.length=ls.length:=by rw [e1.length,List.length_map]
      have k0:=Int.emod_nonneg (ys.getD 0 0 / 3) (show (ws'.length:Int)≠0 by omega)
      have k1:=Int.emod_lt_of_pos (ys.getD 0 0 / 3) (show (0:Int)<(ws'.length:Int) by omega)
      refine ⟨_,rfl,lx,_,0,_,rfl,rfl,O.sq 6,aX (i:=0) (g 0 (by decide)),_,_,rfl,rfl,⟨by decide,by decide⟩,_,rfl,ll,_,rfl,.inl (O.sq 8),_,_,rfl,rfl,(by show (0:Int)<(ws'.length:Int);omega),?_⟩
      dsimp only
      obtain ⟨n,hn⟩:∃ n:Nat,ys.getD 0 0 / 3 % (ws'.length:Int)=(n:Int):=⟨(ys.getD 0 0 / 3 % (ws'.length:Int)).toNat,by omega⟩
      rw [hn] at k0 k1 ⊢
      clear hn
      obtain ⟨x,hx⟩:∃ x,ns[n]?=some x:=⟨_,List.getElem?_eq_getElem (by omega)⟩
      refine ⟨fun σ H'=>Iv (∃ (Hb:Hp) (us ws ds:List V) (ls:List Lic),σ=[some (.ref a),some (.ref lb),some (.ref A.p),some (.ref ll),some (.ref lw),some (.int day),some (.ref lh),some (.int c),some (.ref lx),some (.int (n:Int)),v10,v11,v12] ∧
        Ow T Hb H' (RL C A r day us ns ds++[(lx,.lst (ys.map V.int)),(lw,.lst (ns.map V.str)),(ll,.lst ws),(lb,.lst (r.map V.int))])∧bD T H2 Hb∧cQ K Hb us (ls.map iU)∧cQ K Hb ws (ls.map iU)∧ls.length=i + 1∧ds.length≤5 * i + 3∧∀ l∈ls,(0≤l.day∧l.day≤1000000)∧0≤l.most∧l.most≤1000000000000),?_,?_⟩
      · refine ⟨_,rfl,lx,_,4,_,rfl,rfl,O.sq 6,aX (i:=4) (g 4 (by decide)),_,_,rfl,rfl,⟨by decide,by decide⟩,_,_,rfl,rfl,(by show (0:Int)<4;decide),rfl,_,rfl,ifI (fun _=>?_) (fun _=>⟨trivial,Hb',us',ws',ds',ls,rfl,O,s0,e0,e1,n1',by omega,hbd2⟩)⟩
        obtain ⟨l,hl⟩:∃ l,ls[n]?=some l:=⟨_,List.getElem?_eq_getElem (by omega)⟩
        refine ⟨_,rfl,A.p,A.dx,_,rfl,O.get 0,rfl,_,rfl,_,rfl,_,rfl,lw,_,_,_,rfl,rfl,O.sq 7,eV (lW hx),?_⟩
        refine ⟨A,Hb',_,r,day,us',ns,ds',ls,n,l,x,x,rfl,O,e0,hl,hx,by omega,fun _ t1 t2 H10 O=>?_,fun h=>absurd rfl h⟩
        have O:=O.tail
        obtain ⟨Hn,O,sn,en⟩:=O.kh 0
        have e1:=e1.mo sn
        obtain ⟨al,hal,hT⟩:=e1.qb hl
        have hT:=hT.mo O.same
        refine ⟨_,rfl,_,rfl,ll,_,_,_,rfl,rfl,O.sq 8,eV hal,al,_,0,_,rfl,rfl,hT,rfl,_,rfl,_,rfl,ll,_,_,_,rfl,rfl,O.sq 8,eV hal,al,_,1,_,rfl,rfl,hT,rfl,_,rfl,_,rfl,ll,_,_,_,rfl,rfl,O.sq 8,eV hal,al,_,2,_,rfl,rfl,hT,rfl,szl,fun t ht=>?_⟩
        walk_at "nw"
        refine ⟨_,rfl,_,rfl,?_⟩
        refine pY O 9 rfl (lZ (by omega)) fun H11 O=>?_
        obtain ⟨Hn2,O,sn2,en2⟩:=O.kh 0
        refine ⟨trivial,Hn2,us'.set n (V.ref t1),ws'.set n (V.ref t),ds'++[V.ref t2],ls.set n (wm l 0),rfl,O,s0.trans (sn.trans sn2),?_,?_,by rw [List.length_set];exact n1',by rw [List.length_append];simp;omega,?_⟩
        · rw [List.map_set]
          exact (e0.mo (sn.trans sn2)).set (Den.lic (l:=wm l 0) (SqT.of (sn2.keep _ _ en (fun _ z=>nomatch z)))) n
        · rw [List.map_set]
          exact (e1.mo sn2).set (Den.lic (l:=wm l 0) (SqT.of en2)) n
        · intro y hy
          rcases List.mem_or_eq_of_mem_set hy with h | h
          · exact hbd2 y h
          · rw [h];exact ⟨(hbd2 l (List.mem_of_getElem? hl)).1,by show (0:Int)≤0;decide,by show (0:Int)≤1000000000000;decide⟩
      have nn1:ns.length=i + 1:=by omega
      clear O e0 e1 n1' n2' n3' hbd2 hul hwl k1 k0 s0
      rintro σ H10 ⟨-,Hb,us,ws,ds,ls,rfl,O,s0,d0,d1,n1,n3,hbd⟩
      have hul:us.length=ls.length:=by rw [d0.length,List.length_map]
      have hwl:ws.length=ls.length:=by rw [d1.length,List.length_map]
      have hnl:=(List.getElem?_eq_some_iff.mp hx).1
      obtain ⟨l,hl⟩:∃ l,ls[n]?=some l:=⟨_,List.getElem?_eq_getElem (by omega)⟩
      obtain ⟨al,hal,hT⟩:=d1.qb hl
      have hb:=hbd l (List.mem_of_getElem? hl)
      refine ⟨_,rfl,_,rfl,ll,_,_,_,rfl,rfl,O.sq 8,eV hal,?_⟩
      refine ⟨_,rfl,_,rfl,_,rfl,lx,lb,al,ys,r,l,rfl,O.sq 6,O.sq 9,hT.mo O.same,hx9,hyb,hR,r1,r12,O.same.t1,fun z H11 s11=>?_⟩
      have O:=O.kE s11
      refine ⟨_,rfl,A.p,A.dx,_,rfl,O.get 0,rfl,_,rfl,_,rfl,_,_,_,rfl,rfl,_,rfl,ifN (ifD (fun _=>?_) (fun hc=>absurd rfl hc))⟩
      have hsh:Sh 2 (.list (ls.map iU)):=Sh.roll 0 ls
      refine ⟨_,rfl,A.p,A.dx,_,rfl,O.get 0,rfl,A.p,A.dx,A.ll,_,_,rfl,O.get 0,rfl,O.sq 3,fun l9 hl9=>?_⟩
      walk_at "nw"
      refine ⟨_,rfl,_,_,.list (O.sq 0) (d0.mo O.same),.list (O.sq 9) (d1.mo O.same),hsh.ok (by decide),hsh.ok (by decide),?_⟩
      rw [if_pos rfl,ig hsh]
      refine ⟨_,rfl,jr ?_⟩
      have O:=O.tail
      refine ⟨szl,fun lq2 hlq2=>?_⟩
      walk_at "nw"
      refine ⟨_,rfl,_,rfl,_,rfl,lb,al,r,l,z,rfl,O.sq 10,hT.mo O.same,hR,r12,O.same.t1,fun kk H12 hk s12=>?_⟩
      have O:=O.kE s12
      refine .inr ⟨_,rfl,?_⟩
      refine ⟨lq2,_,_,_,rfl,rfl,O.sq 0,Mi kk,?_⟩
      have O:=O.tail
      have hkL:kk=true↔oZ r (wst l z):=hk.trans ⟨fun h=>⟨⟨hb.1.1,hb.1.2,h.1,h.2.1,hb.2.1,hb.2.2⟩,h.2.2⟩,fun h=>⟨h.1.2.2.1,h.1.2.2.2.1,h.2⟩⟩
      clear hk
      refine ⟨fun σ H'=>Iv (∃ (Hb:Hp) (us ds:List V),σ=[some (.ref a),some (.ref lb),some (.ref A.p),some (.ref ll),some (.ref lw),some (.int day),some (.ref lh),some (.int c),some (.ref lx),some (.int (n:Int)),some (.ref al),some (.int z),some (.str (PB kk))] ∧
        Ow T Hb H' (RL C A r day us ns ds++[(lx,.lst (ys.map V.int)),(lw,.lst (ns.map V.str)),(ll,.lst ws),(lb,.lst (r.map V.int))])∧bD T H2 Hb∧SqT K Hb al (mH l)∧cQ K Hb us ((mvd kk ls n l z).map iU)∧cQ K Hb ws (ls.map iU)∧ds.length≤5 * i + 4),?_,?_⟩
      · refine ⟨_,rfl,_,rfl,_,rfl,_,rfl,lw,_,_,_,rfl,rfl,O.sq 7,eV (lW hx),_,rfl,A,Hb,_,r,day,us,ns,ds,ls,n,l,x,z,rfl,O,d0,hl,hx,hR,by omega,by omega,fun hn H13 s13=>?_,fun hy t1 t2 H13 O=>?_⟩
        · have O:=O.kE s13
          have ek:kk=false:=by cases kk;rfl;exact absurd (hkL.mp rfl) hn
          subst ek
          refine ⟨_,rfl,rfl,_,rfl,ifN (ifD (fun _=>?_) (fun hc=>absurd rfl hc))⟩
          exact ⟨trivial,Hb,us,ds,rfl,O,s0,hT,d0,d1,by omega⟩
        · have ek:kk=true:=hkL.mpr hy
          subst ek
          have O:=O.tail
          obtain ⟨Hn,O,sn,en⟩:=O.kh 0
          refine ⟨_,rfl,rfl,_,rfl,ifN (ifD (fun _=>?_) (fun hc=>absurd rfl hc))⟩
          refine ⟨trivial,Hn,us.set n (V.ref t1),ds++[V.ref t2],rfl,O,s0.trans sn,hT.mo sn,?_,d1.mo sn,by rw [List.length_append];simp;omega⟩
          show cQ K Hn _ ((ls.set n (wst l z)).map iU)
          rw [List.map_set]
          exact (d0.mo sn).set (Den.lic (l:=wst l z) (SqT.of en)) n
      clear O d0 d1 s0 n3 hul hT hal
      rintro σ H13 ⟨-,Hb,us,ds,rfl,O,s0,hT,d0,d1,n3⟩
      refine ⟨fun σ H'=>Iv (∃ (Hb:Hp) (ws:List V),σ=[some (.ref a),some (.ref lb),some (.ref A.p),some (.ref ll),some (.ref lw),some (.int day),some (.ref lh),some (.int c),some (.ref lx),some (.int (n:Int)),some (.ref al),some (.int z),some (.str (PB kk))] ∧
        Ow T Hb H' (RL C A r day us ns ds++[(lx,.lst (ys.map V.int)),(lw,.lst (ns.map V.str)),(ll,.lst ws),(lb,.lst (r.map V.int))])∧bD T H2 Hb∧cQ K Hb us ((mvd kk ls n l z).map iU)∧cQ K Hb ws ((mvd kk ls n l z).map iU)),?_,?_⟩
      · have hT':=hT.mo O.same
        cases kk with
        | false =>
          refine ⟨_,rfl,rfl,_,rfl,ifD (fun hc=>absurd hc (by decide)) (fun _=>?_)⟩
          exact ⟨trivial,Hb,ws,rfl,O,s0,d0,d1⟩
        | true =>
          refine ⟨_,rfl,rfl,_,rfl,ifD (fun _=>?_) (fun hc=>absurd rfl hc)⟩
          refine ⟨_,rfl,al,_,0,_,rfl,rfl,hT',rfl,_,rfl,_,rfl,al,_,2,_,rfl,rfl,hT',rfl,_,rfl,al,_,3,_,rfl,rfl,hT',rfl,szl,fun t ht=>?_⟩
          walk_at "nw"
          refine ⟨_,rfl,_,rfl,?_⟩
          refine pY O 9 rfl (lZ (by omega)) fun H14 O=>?_
          obtain ⟨Hn,O,sn,en⟩:=O.kh 0
          refine ⟨trivial,Hn,ws.set n (V.ref t),rfl,O,s0.trans sn,d0.mo sn,?_⟩
          show cQ K Hn _ ((ls.set n (wst l z)).map iU)
          rw [List.map_set]
          exact (d1.mo sn).set (Den.lic (l:=wst l z) (SqT.of en)) n
      clear O d0 d1 s0 hwl hT
      rintro σ H14 ⟨-,Hb,ws,rfl,O,s0,d0,d1⟩
      have l2n:(mvd kk ls n l z).length=i + 1:=by rw [Ep];exact n1
      obtain ⟨l2,hl2,hk2⟩:∃ l2,(mvd kk ls n l z)[n]?=some l2∧wst l2 z=wst l z:=by
        cases kk with
        | false=>exact ⟨l,hl,rfl⟩
        | true=>exact ⟨wst l z,List.getElem?_set_self (by omega),rfl⟩
      have hb2:∀ l'∈mvd kk ls n l z,(0≤l'.day∧l'.day≤1000000)∧0≤l'.most∧l'.most≤1000000000000:=by
        cases kk with
        | false=>exact hbd
        | true =>
          intro y hy
          rcases List.mem_or_eq_of_mem_set hy with h | h
          · exact hbd y h
          · rw [h];exact hb
      have hset:kk=true→(mvd kk ls n l z).set n (wst l z)=mvd kk ls n l z:=fun e=>by subst e;exact List.set_set _
      generalize mvd kk ls n l z=ls2 at d0 d1 l2n hl2 hb2 hset
      have hsh2:Sh 2 (.list (ls2.map iU)):=Sh.roll 0 ls2
      refine ⟨_,rfl,A.p,A.dx,_,rfl,O.get 0,rfl,A.p,A.dx,A.ll,_,_,rfl,O.get 0,rfl,O.sq 3,fun l9 hl9=>?_⟩
      walk_at "nw"
      refine ⟨_,rfl,l9,ll,us,ws,ls2.map fun l=>[l.day,l.start,l.back,l.most],rfl,O.get 0,O.sq 9,by rw [jA];exact d0.mo O.same,by rw [jA];exact d1.mo O.same,nA ls2,O.same.t1,fun H15 s15=>?_⟩
      have O:=(O.kE s15).tail
      refine ⟨_,rfl,jr ?_⟩
      have hshN:=uY hnm2
      refine ⟨_,rfl,A.p,A.dx,_,rfl,O.get 0,rfl,A.p,A.dx,A.ln,_,_,rfl,O.get 0,rfl,O.sq 4,fun l10 h10=>?_⟩
      walk_at "nw"
      refine ⟨_,rfl,_,_,.list (O.sq 0) (cQ.strs ns),.list (O.sq 8) (cQ.strs ns),hshN.ok (by decide),hshN.ok (by decide),?_⟩
      rw [if_pos rfl,ig hshN]
      refine ⟨_,rfl,jr ?_⟩
      have O:=O.tail
      refine ⟨_,rfl,A.p,A.dx,_,rfl,O.get 0,rfl,A,day,rfl,O.get 0,_,rfl,rfl,_,rfl,ifN (ifI (fun _=>?_) fun hc=>absurd rfl hc)⟩
      refine ⟨_,rfl,_,rfl,_,rfl,_,rfl,lw,_,_,_,rfl,rfl,O.sq 7,eV (lW hx),_,rfl,A,Hb,_,r,day,us,ns,ds,ls2,n,l2,x,z,rfl,O,d0,hl2,hx,hR,by omega,by omega,fun hn H13 s13=>?_,fun hy t1 t2 H13 O=>?_⟩
      · have O:=O.kE s13
        rw [hk2] at hn
        have ek:kk=false:=by cases kk;rfl;exact absurd (hkL.mp rfl) hn
        subst ek
        refine ⟨_,rfl,rfl,_,rfl,ifN (ifD (fun _=>?_) (fun hc=>absurd rfl hc))⟩
        refine ⟨_,rfl,A.p,A.dx,_,rfl,O.get 0,rfl,A.p,A.dx,A.ll,_,_,rfl,O.get 0,rfl,O.sq 3,fun l9 hl9=>?_⟩
        walk_at "nw"
        refine ⟨_,rfl,_,_,.list (O.sq 0) (d0.mo O.same),.list (O.sq 9) (d1.mo O.same),hsh2.ok (by decide),hsh2.ok (by decide),?_⟩
        rw [if_pos rfl,ig hsh2]
        refine ⟨_,rfl,jr ?_⟩
        exact ⟨trivial,Hb,us,ws,ds,ns,ls2,day,_,_,_,_,_,_,rfl,O.tail.del 6,s0,d0,d1,l2n,by omega,by omega,dy0,by omega,hnm2,hb2⟩
      · rw [hk2] at hy
        have ek:kk=true:=hkL.mpr hy
        subst ek
        have O:=O.tail
        obtain ⟨Hz,O,sn,en⟩:=O.kh 0
        rw [hk2] at en
        have d0:cQ K Hz (us.set n (.ref t1)) (ls2.map iU):=by
          rw [← hset rfl,List.map_set]
          exact (d0.mo sn).set (Den.lic (l:=wst l z) (SqT.of en)) n
        have d1:=d1.mo sn
        refine ⟨_,rfl,rfl,_,rfl,ifN (ifD (fun _=>?_) (fun hc=>absurd rfl hc))⟩
        refine ⟨_,rfl,A.p,A.dx,_,rfl,O.get 0,rfl,A.p,A.dx,A.ll,_,_,rfl,O.get 0,rfl,O.sq 3,fun l9 hl9=>?_⟩
        walk_at "nw"
        refine ⟨_,rfl,_,_,.list (O.sq 0) (d0.mo O.same),.list (O.sq 9) (d1.mo O.same),hsh2.ok (by decide),hsh2.ok (by decide),?_⟩
        rw [if_pos rfl,ig hsh2]
        refine ⟨_,rfl,jr ?_⟩
        exact ⟨trivial,Hz,us.set n (V.ref t1),ws,ds++[V.ref t2],ns,ls2,day,_,_,_,_,_,_,rfl,O.tail.del 6,s0.trans sn,d0,d1,l2n,by omega,by rw [List.length_append];simp;omega,dy0,by omega,hnm2,hb2⟩
    clear O
    rintro σ H6 ⟨-,Hb,us,ws,ds,ns,ls,day,v7,v8,v9,v10,v11,v12,rfl,O,s0,d0,d1,n1,n2,n3,dy0,dy1,hnm,hbd⟩
    have hsh0:Sh 2 (.list ([]:List PyData)):=.list fun d hd=>nomatch hd
    refine ⟨_,rfl,szl,fun le hle=>?_⟩
    walk_at "nw"
    refine ⟨_,_,.list (hH.mo (s0.trans O.same)) .nil,.list (O.sq 0) .nil,hsh0.ok (by decide),hsh0.ok (by decide),?_⟩
    rw [if_neg Bool.false_ne_true,ig hsh0]
    refine ⟨_,rfl,qd ?_⟩
    have O:=O.tail
    refine ⟨_,rfl,A.p,A.dx,_,rfl,O.get 0,rfl,A.p,A.dx,A.ll,_,_,rfl,O.get 0,rfl,O.sq 3,fun l9 hl9=>?_⟩
    walk_at "nw"
    exact ⟨_,rfl,l9,ll,us,ws,ls.map fun l=>[l.day,l.start,l.back,l.most],rfl,O.get 0,O.sq 8,by rw [jA];exact d0.mo O.same,by rw [jA];exact d1.mo O.same,nA ls,O.same.t1,fun H15 s15=>k _⟩
end
theorem gF {K:PySem.W.Frag} {x qual:Str} {st:Stmt} {f:Addr} {fd:FuncData} {n0:Str} (F:Fun K x qual st f fd) (h:∀ (kV doc pm:Value) (an:Option Addr) (cdv ct u0:Value),bindArgs (PySem.W.fnOf x qual (aq st) (ao st) (ak st) .none kV doc pm an cdv ct) ⟨[u0],[]⟩=pure (([n0]:List Str).zip [u0])):Binds K fd [n0] [] :=
  F.binds (ps:=[n0]) fun kV doc pm an cdv ct us hl=>match us,hl with | [u0],_=>h kV doc pm an cdv ct u0
theorem gD {K:PySem.W.Frag} {x qual:Str} {st:Stmt} {f:Addr} {fd:FuncData} {n0 n1:Str} (F:Fun K x qual st f fd) (h:∀ (kV doc pm:Value) (an:Option Addr) (cdv ct u0 u1:Value),bindArgs (PySem.W.fnOf x qual (aq st) (ao st) (ak st) .none kV doc pm an cdv ct) ⟨[u0,u1],[]⟩=pure (([n0,n1]:List Str).zip [u0,u1])):Binds K fd [n0,n1] [] :=
  F.binds (ps:=[n0,n1]) fun kV doc pm an cdv ct us hl=>match us,hl with | [u0,u1],_=>h kV doc pm an cdv ct u0 u1
theorem lD {K:PySem.W.Frag} {x qual:Str} {st:Stmt} {f:Addr} {fd:FuncData} {n0 n1 n2:Str} (F:Fun K x qual st f fd) (h:∀ (kV doc pm:Value) (an:Option Addr) (cdv ct u0 u1 u2:Value),bindArgs (PySem.W.fnOf x qual (aq st) (ao st) (ak st) .none kV doc pm an cdv ct) ⟨[u0,u1,u2],[]⟩=pure (([n0,n1,n2]:List Str).zip [u0,u1,u2])):Binds K fd [n0,n1,n2] [] :=
  F.binds (ps:=[n0,n1,n2]) fun kV doc pm an cdv ct us hl=>match us,hl with | [u0,u1,u2],_=>h kV doc pm an cdv ct u0 u1 u2
theorem DK {K:PySem.W.Frag} {x qual:Str} {st:Stmt} {f:Addr} {fd:FuncData} {n0 n1 n2 n3:Str} (F:Fun K x qual st f fd) (h:∀ (kV doc pm:Value) (an:Option Addr) (cdv ct u0 u1 u2 u3:Value),bindArgs (PySem.W.fnOf x qual (aq st) (ao st) (ak st) .none kV doc pm an cdv ct) ⟨[u0,u1,u2,u3],[]⟩=pure (([n0,n1,n2,n3]:List Str).zip [u0,u1,u2,u3])):Binds K fd [n0,n1,n2,n3] [] :=
  F.binds (ps:=[n0,n1,n2,n3]) fun kV doc pm an cdv ct us hl=>match us,hl with | [u0,u1,u2,u3],_=>h kV doc pm an cdv ct u0 u1 u2 u3
theorem Mp {K:PySem.W.Frag} {x qual:Str} {st:Stmt} {f:Addr} {fd:FuncData} {n0 n1 n2 n3 n4 n5:Str} (F:Fun K x qual st f fd) (h:∀ (kV doc pm:Value) (an:Option Addr) (cdv ct u0 u1 u2 u3 u4 u5:Value),bindArgs (PySem.W.fnOf x qual (aq st) (ao st) (ak st) .none kV doc pm an cdv ct) ⟨[u0,u1,u2,u3,u4,u5],[]⟩=pure (([n0,n1,n2,n3,n4,n5]:List Str).zip [u0,u1,u2,u3,u4,u5])):Binds K fd [n0,n1,n2,n3,n4,n5] [] :=
  F.binds (ps:=[n0,n1,n2,n3,n4,n5]) fun kV doc pm an cdv ct us hl=>match us,hl with | [u0,u1,u2,u3,u4,u5],_=>h kV doc pm an cdv ct u0 u1 u2 u3 u4 u5
theorem all_mk {l:PySem.W.OpenLaw} {w:World} {K:PySem.W.Frag} {h:Heap} {mg:Str→Option Value} {fa f0 f1 f2 f3 f4 f5 f6 f7 f8 f9 f10 f11 f12 f13 f14 f15 f16 f17 f18 f19 f20 cR_Roll fm_Roll___init__ fm_Roll_today fm_Roll_roll fm_Roll_holders fm_Roll_turn fm_Roll_file dT_Roll_file fm_Roll_drop fm_Roll_move fm_Roll_look_move fm_Roll_enter fm_Roll_look_at_number fm_Roll_look_at_holder fm_Roll_look_at_room cX_SluiceError cX_NotYours cX_NoLicence cX_NoNumber cX_NoReach:Addr} (X:K.In h) (G:h.Ns mainGlobals mg) (hfa:mg "law"=some (.ref fa))
    {odM0 anM0 odM1 anM1 odM2 anM2 odM3 anM3 odM4 anM4 odM5 anM5 odM6 anM6 odM7 anM7 odM8 anM8 odM9 anM9 odM10 anM10 odM11 anM11 odM12 anM12:Option Addr} {slM0 slM1 slM2 slM3 slM4 slM5 slM6 slM7 slM8 slM9 slM10 slM11 slM12:Array (Option Value)} {ocM0 kVM0 dcM0 pmM0 cdM0 ctM0 ocM1 kVM1 dcM1 pmM1 cdM1 ctM1 ocM2 kVM2 dcM2 pmM2 cdM2 ctM2 ocM3 kVM3 dcM3 pmM3 cdM3 ctM3 ocM4 kVM4 dcM4 pmM4 cdM4 ctM4 ocM5 kVM5 dcM5 pmM5 cdM5 ctM5 ocM6 kVM6 dcM6 pmM6 cdM6 ctM6 ocM7 kVM7 dcM7 pmM7 cdM7 ctM7 ocM8 kVM8 dcM8 pmM8 cdM8 ctM8 ocM9 kVM9 dcM9 pmM9 cdM9 ctM9 ocM10 kVM10 dcM10 pmM10 cdM10 ctM10 ocM11 kVM11 dcM11 pmM11 cdM11 ctM11 ocM12 kVM12 dcM12 pmM12 cdM12 ctM12:Value} {oT_Roll_file:Obj}
    {od0 an0 od1 an1 od2 an2 od3 an3 od4 an4 od5 an5 od6 an6 od7 an7 od8 an8 od9 an9 od10 an10 od11 an11 od12 an12 od13 an13 od14 an14 od15 an15 od16 an16 od17 an17 od18 an18 od19 an19 od20 an20:Option Addr} {sl0 sl1 sl2 sl3 sl4 sl5 sl6 sl7 sl8 sl9 sl10 sl11 sl12 sl13 sl14 sl15 sl16 sl17 sl18 sl19 sl20:Array (Option Value)} {oc0 kV0 dc0 pm0 cd0 ct0 oc1 kV1 dc1 pm1 cd1 ct1 oc2 kV2 dc2 pm2 cd2 ct2 oc3 kV3 dc3 pm3 cd3 ct3 oc4 kV4 dc4 pm4 cd4 ct4 oc5 kV5 dc5 pm5 cd5 ct5 oc6 kV6 dc6 pm6 cd6 ct6 oc7 kV7 dc7 pm7 cd7 ct7 oc8 kV8 dc8 pm8 cd8 ct8 oc9 kV9 dc9 pm9 cd9 ct9 oc10 kV10 dc10 pm10 cd10 ct10 oc11 kV11 dc11 pm11 cd11 ct11 oc12 kV12 dc12 pm12 cd12 ct12 oc13 kV13 dc13 pm13 cd13 ct13 oc14 kV14 dc14 pm14 cd14 ct14 oc15 kV15 dc15 pm15 cd15 ct15 oc16 kV16 dc16 pm16 cd16 ct16 oc17 kV17 dc17 pm17 cd17 ct17 oc18 kV18 dc18 pm18 cd18 ct18 oc19 kV19 dc19 pm19 cd19 ct19 oc20 kV20 dc20 pm20 cd20 ct20:Value} {t0 t1 t2 t3 t4 t5 t6:Tok}
    (a0:PySem.W.nsIn K mainGlobals "is_water"=some (some (.ref f0))) (l0:K.lookup f0=some ⟨oc0,od0,.func (PySem.W.fnOf "is_water" "is_water" (aq dN) (ao dN) (ak dN) .none kV0 dc0 pm0 an0 cd0 ct0),sl0⟩) (c0:PySem.W.codeIn K cd0 "is_water"=true) (k0:PySem.W.keepIn K (.ref f0)=true)
    (a1:PySem.W.nsIn K mainGlobals "is_name"=some (some (.ref f1))) (l1:K.lookup f1=some ⟨oc1,od1,.func (PySem.W.fnOf "is_name" "is_name" (aq dZ) (ao dZ) (ak dZ) .none kV1 dc1 pm1 an1 cd1 ct1),sl1⟩) (c1:PySem.W.codeIn K cd1 "is_name"=true) (k1:PySem.W.keepIn K (.ref f1)=true)
    (a2:PySem.W.nsIn K mainGlobals "comes_to_mouth"=some (some (.ref f2))) (l2:K.lookup f2=some ⟨oc2,od2,.func (PySem.W.fnOf "comes_to_mouth" "comes_to_mouth" (aq bh) (ao bh) (ak bh) .none kV2 dc2 pm2 an2 cd2 ct2),sl2⟩) (c2:PySem.W.codeIn K cd2 "comes_to_mouth"=true) (k2:PySem.W.keepIn K (.ref f2)=true)
    (a3:PySem.W.nsIn K mainGlobals "is_river"=some (some (.ref f3))) (l3:K.lookup f3=some ⟨oc3,od3,.func (PySem.W.fnOf "is_river" "is_river" (aq cO) (ao cO) (ak cO) .none kV3 dc3 pm3 an3 cd3 ct3),sl3⟩) (c3:PySem.W.codeIn K cd3 "is_river"=true) (k3:PySem.W.keepIn K (.ref f3)=true)
    (a4:PySem.W.nsIn K mainGlobals "way_of"=some (some (.ref f4))) (l4:K.lookup f4=some ⟨oc4,od4,.func (PySem.W.fnOf "way_of" "way_of" (aq fV) (ao fV) (ak fV) .none kV4 dc4 pm4 an4 cd4 ct4),sl4⟩) (c4:PySem.W.codeIn K cd4 "way_of"=true) (k4:PySem.W.keepIn K (.ref f4)=true)
    (a5:PySem.W.nsIn K mainGlobals "is_licence"=some (some (.ref f5))) (l5:K.lookup f5=some ⟨oc5,od5,.func (PySem.W.fnOf "is_licence" "is_licence" (aq bY) (ao bY) (ak bY) .none kV5 dc5 pm5 an5 cd5 ct5),sl5⟩) (c5:PySem.W.codeIn K cd5 "is_licence"=true) (k5:PySem.W.keepIn K (.ref f5)=true)
    (a6:PySem.W.nsIn K mainGlobals "with_start"=some (some (.ref f6))) (l6:K.lookup f6=some ⟨oc6,od6,.func (PySem.W.fnOf "with_start" "with_start" (aq cC) (ao cC) (ak cC) .none kV6 dc6 pm6 an6 cd6 ct6),sl6⟩) (c6:PySem.W.codeIn K cd6 "with_start"=true) (k6:PySem.W.keepIn K (.ref f6)=true)
    (a7:PySem.W.nsIn K mainGlobals "with_most"=some (some (.ref f7))) (l7:K.lookup f7=some ⟨oc7,od7,.func (PySem.W.fnOf "with_most" "with_most" (aq cX) (ao cX) (ak cX) .none kV7 dc7 pm7 an7 cd7 ct7),sl7⟩) (c7:PySem.W.codeIn K cd7 "with_most"=true) (k7:PySem.W.keepIn K (.ref f7)=true)
    (a8:PySem.W.nsIn K mainGlobals "look_at_name"=some (some (.ref f8))) (l8:K.lookup f8=some ⟨oc8,od8,.func (PySem.W.fnOf "look_at_name" "look_at_name" (aq bM) (ao bM) (ak bM) .none kV8 dc8 pm8 an8 cd8 ct8),sl8⟩) (c8:PySem.W.codeIn K cd8 "look_at_name"=true) (k8:PySem.W.keepIn K (.ref f8)=true)
    (a9:PySem.W.nsIn K mainGlobals "_law_cell_at"=some (some (.ref f9))) (l9:K.lookup f9=some ⟨oc9,od9,.func (PySem.W.fnOf "_law_cell_at" "_law_cell_at" (aq bQ) (ao bQ) (ak bQ) .none kV9 dc9 pm9 an9 cd9 ct9),sl9⟩) (c9:PySem.W.codeIn K cd9 "_law_cell_at"=true) (k9:PySem.W.keepIn K (.ref f9)=true)
    (a10:PySem.W.nsIn K mainGlobals "_law_whole"=some (some (.ref f10))) (l10:K.lookup f10=some ⟨oc10,od10,.func (PySem.W.fnOf "_law_whole" "_law_whole" (aq cD) (ao cD) (ak cD) .none kV10 dc10 pm10 an10 cd10 ct10),sl10⟩) (c10:PySem.W.codeIn K cd10 "_law_whole"=true) (k10:PySem.W.keepIn K (.ref f10)=true)
    (a11:PySem.W.nsIn K mainGlobals "_law_draw"=some (some (.ref f11))) (l11:K.lookup f11=some ⟨oc11,od11,.func (PySem.W.fnOf "_law_draw" "_law_draw" (aq cZ) (ao cZ) (ak cZ) .none kV11 dc11 pm11 an11 cd11 ct11),sl11⟩) (c11:PySem.W.codeIn K cd11 "_law_draw"=true) (k11:PySem.W.keepIn K (.ref f11)=true)
    (a12:PySem.W.nsIn K mainGlobals "_law_draws"=some (some (.ref f12))) (l12:K.lookup f12=some ⟨oc12,od12,.func (PySem.W.fnOf "_law_draws" "_law_draws" (aq bO) (ao bO) (ak bO) .none kV12 dc12 pm12 an12 cd12 ct12),sl12⟩) (c12:PySem.W.codeIn K cd12 "_law_draws"=true) (k12:PySem.W.keepIn K (.ref f12)=true)
    (a13:PySem.W.nsIn K mainGlobals "_law_river"=some (some (.ref f13))) (l13:K.lookup f13=some ⟨oc13,od13,.func (PySem.W.fnOf "_law_river" "_law_river" (aq bN) (ao bN) (ak bN) .none kV13 dc13 pm13 an13 cd13 ct13),sl13⟩) (c13:PySem.W.codeIn K cd13 "_law_river"=true) (k13:PySem.W.keepIn K (.ref f13)=true)
    (a14:PySem.W.nsIn K mainGlobals "_law_way"=some (some (.ref f14))) (l14:K.lookup f14=some ⟨oc14,od14,.func (PySem.W.fnOf "_law_way" "_law_way" (aq cP) (ao cP) (ak cP) .none kV14 dc14 pm14 an14 cd14 ct14),sl14⟩) (c14:PySem.W.codeIn K cd14 "_law_way"=true) (k14:PySem.W.keepIn K (.ref f14)=true)
    (a15:PySem.W.nsIn K mainGlobals "_law_alike_lines"=some (some (.ref f15))) (l15:K.lookup f15=some ⟨oc15,od15,.func (PySem.W.fnOf "_law_alike_lines" "_law_alike_lines" (aq aM) (ao aM) (ak aM) .none kV15 dc15 pm15 an15 cd15 ct15),sl15⟩) (c15:PySem.W.codeIn K cd15 "_law_alike_lines"=true) (k15:PySem.W.keepIn K (.ref f15)=true)
    (a16:PySem.W.nsIn K mainGlobals "_law_tried"=some (some (.ref f16))) (l16:K.lookup f16=some ⟨oc16,od16,.func (PySem.W.fnOf "_law_tried" "_law_tried" (aq cF) (ao cF) (ak cF) .none kV16 dc16 pm16 an16 cd16 ct16),sl16⟩) (c16:PySem.W.codeIn K cd16 "_law_tried"=true) (k16:PySem.W.keepIn K (.ref f16)=true)
    (a17:PySem.W.nsIn K mainGlobals "_law_filed"=some (some (.ref f17))) (l17:K.lookup f17=some ⟨oc17,od17,.func (PySem.W.fnOf "_law_filed" "_law_filed" (aq cG) (ao cG) (ak cG) .none kV17 dc17 pm17 an17 cd17 ct17),sl17⟩) (c17:PySem.W.codeIn K cd17 "_law_filed"=true) (k17:PySem.W.keepIn K (.ref f17)=true)
    (a18:PySem.W.nsIn K mainGlobals "_law_new_start"=some (some (.ref f18))) (l18:K.lookup f18=some ⟨oc18,od18,.func (PySem.W.fnOf "_law_new_start" "_law_new_start" (aq aQ) (ao aQ) (ak aQ) .none kV18 dc18 pm18 an18 cd18 ct18),sl18⟩) (c18:PySem.W.codeIn K cd18 "_law_new_start"=true) (k18:PySem.W.keepIn K (.ref f18)=true)
    (a19:PySem.W.nsIn K mainGlobals "_law_is_let"=some (some (.ref f19))) (l19:K.lookup f19=some ⟨oc19,od19,.func (PySem.W.fnOf "_law_is_let" "_law_is_let" (aq bZ) (ao bZ) (ak bZ) .none kV19 dc19 pm19 an19 cd19 ct19),sl19⟩) (c19:PySem.W.codeIn K cd19 "_law_is_let"=true) (k19:PySem.W.keepIn K (.ref f19)=true)
    (a20:PySem.W.nsIn K mainGlobals "law"=some (some (.ref f20))) (l20:K.lookup f20=some ⟨oc20,od20,.func (PySem.W.fnOf "law" "law" (aq j7) (ao j7) (ak j7) .none kV20 dc20 pm20 an20 cd20 ct20),sl20⟩) (c20:PySem.W.codeIn K cd20 "law"=true) (k20:PySem.W.keepIn K (.ref f20)=true)
    (e0:PySem.W.nsIn K mainGlobals "MOST_WATER"=some (some (.int (1000000000000) t0)))
    (e1:PySem.W.nsIn K mainGlobals "LONGEST_NAME"=some (some (.int (8) t1)))
    (e2:PySem.W.nsIn K mainGlobals "LETTERS"=some (some (.str "abcdefghijklmnopqrstuvwxyz" t2)))
    (e3:PySem.W.nsIn K mainGlobals "MOST_REACHES"=some (some (.int (40) t3)))
    (e4:PySem.W.nsIn K mainGlobals "MOUTH"=some (some (.int (-1) t4)))
    (e5:PySem.W.nsIn K mainGlobals "LAST_DAY"=some (some (.int (1000000) t5)))
    (e6:PySem.W.nsIn K mainGlobals "MOST_LICENCES"=some (some (.int (60) t6)))
    (n_Roll:PySem.W.nsIn K mainGlobals "Roll"=some (some (.ref cR_Roll))) (ka_Roll:PySem.W.plainGet K cR_Roll Str.empty=true) (kb_Roll:PySem.W.hasDictIn K cR_Roll=true) (kc_Roll:PySem.W.plainOver K cR_Roll=true) (kd_Roll:PySem.W.findIn K (.ref cR_Roll) "__setattr__"=some (some (.builtin "object.__setattr__")))
    (ke_Roll:PySem.W.makesIn K cR_Roll=true) (kf_Roll:PySem.W.keepIn K (.ref cR_Roll)=true)
    (kn_Roll_below:PySem.W.findIn K (.ref cR_Roll) "below"=some none)
    (kn_Roll_day:PySem.W.findIn K (.ref cR_Roll) "day"=some none)
    (kn_Roll_licences:PySem.W.findIn K (.ref cR_Roll) "licences"=some none)
    (kn_Roll_names:PySem.W.findIn K (.ref cR_Roll) "names"=some none)
    (kn_Roll_done:PySem.W.findIn K (.ref cR_Roll) "done"=some none)
    (ma_Roll___init__:PySem.W.findIn K (.ref cR_Roll) "__init__"=some (some (.ref fm_Roll___init__))) (mf_Roll___init__:PySem.W.isFn K (.ref fm_Roll___init__)=true) (mk_Roll___init__:PySem.W.keepIn K (.ref fm_Roll___init__)=true) (ml_Roll___init__:K.lookup fm_Roll___init__=some ⟨ocM0,odM0,.func (PySem.W.fnOf "__init__" "Roll.__init__" (aq bA) (ao bA) (ak bA) .none kVM0 dcM0 pmM0 anM0 cdM0 ctM0),slM0⟩) (mc_Roll___init__:PySem.W.codeIn K cdM0 "Roll.__init__"=true)
    (ma_Roll_today:PySem.W.findIn K (.ref cR_Roll) "today"=some (some (.ref fm_Roll_today))) (mf_Roll_today:PySem.W.isFn K (.ref fm_Roll_today)=true) (mk_Roll_today:PySem.W.keepIn K (.ref fm_Roll_today)=true) (ml_Roll_today:K.lookup fm_Roll_today=some ⟨ocM1,odM1,.func (PySem.W.fnOf "today" "Roll.today" (aq cH) (ao cH) (ak cH) .none kVM1 dcM1 pmM1 anM1 cdM1 ctM1),slM1⟩) (mc_Roll_today:PySem.W.codeIn K cdM1 "Roll.today"=true)
    (ma_Roll_roll:PySem.W.findIn K (.ref cR_Roll) "roll"=some (some (.ref fm_Roll_roll))) (mf_Roll_roll:PySem.W.isFn K (.ref fm_Roll_roll)=true) (mk_Roll_roll:PySem.W.keepIn K (.ref fm_Roll_roll)=true) (ml_Roll_roll:K.lookup fm_Roll_roll=some ⟨ocM2,odM2,.func (PySem.W.fnOf "roll" "Roll.roll" (aq dh) (ao dh) (ak dh) .none kVM2 dcM2 pmM2 anM2 cdM2 ctM2),slM2⟩) (mc_Roll_roll:PySem.W.codeIn K cdM2 "Roll.roll"=true)
    (ma_Roll_holders:PySem.W.findIn K (.ref cR_Roll) "holders"=some (some (.ref fm_Roll_holders))) (mf_Roll_holders:PySem.W.isFn K (.ref fm_Roll_holders)=true) (mk_Roll_holders:PySem.W.keepIn K (.ref fm_Roll_holders)=true) (ml_Roll_holders:K.lookup fm_Roll_holders=some ⟨ocM3,odM3,.func (PySem.W.fnOf "holders" "Roll.holders" (aq bR) (ao bR) (ak bR) .none kVM3 dcM3 pmM3 anM3 cdM3 ctM3),slM3⟩) (mc_Roll_holders:PySem.W.codeIn K cdM3 "Roll.holders"=true)
    (ma_Roll_turn:PySem.W.findIn K (.ref cR_Roll) "turn"=some (some (.ref fm_Roll_turn))) (mf_Roll_turn:PySem.W.isFn K (.ref fm_Roll_turn)=true) (mk_Roll_turn:PySem.W.keepIn K (.ref fm_Roll_turn)=true) (ml_Roll_turn:K.lookup fm_Roll_turn=some ⟨ocM4,odM4,.func (PySem.W.fnOf "turn" "Roll.turn" (aq dg) (ao dg) (ak dg) .none kVM4 dcM4 pmM4 anM4 cdM4 ctM4),slM4⟩) (mc_Roll_turn:PySem.W.codeIn K cdM4 "Roll.turn"=true)
    (ma_Roll_file:PySem.W.findIn K (.ref cR_Roll) "file"=some (some (.ref fm_Roll_file))) (mf_Roll_file:PySem.W.isFn K (.ref fm_Roll_file)=true) (mk_Roll_file:PySem.W.keepIn K (.ref fm_Roll_file)=true) (ml_Roll_file:K.lookup fm_Roll_file=some ⟨ocM5,odM5,.func (PySem.W.fnOf "file" "Roll.file" (aq dw) (ao dw) (ak dw) (.ref dT_Roll_file) kVM5 dcM5 pmM5 anM5 cdM5 ctM5),slM5⟩) (mc_Roll_file:PySem.W.codeIn K cdM5 "Roll.file"=true)
    (mt_Roll_file:K.lookup dT_Roll_file=some oT_Roll_file) (mu_Roll_file:∃ n,oT_Roll_file.data=.seq #[.none] n)
    (ma_Roll_drop:PySem.W.findIn K (.ref cR_Roll) "drop"=some (some (.ref fm_Roll_drop))) (mf_Roll_drop:PySem.W.isFn K (.ref fm_Roll_drop)=true) (mk_Roll_drop:PySem.W.keepIn K (.ref fm_Roll_drop)=true) (ml_Roll_drop:K.lookup fm_Roll_drop=some ⟨ocM6,odM6,.func (PySem.W.fnOf "drop" "Roll.drop" (aq dz) (ao dz) (ak dz) .none kVM6 dcM6 pmM6 anM6 cdM6 ctM6),slM6⟩) (mc_Roll_drop:PySem.W.codeIn K cdM6 "Roll.drop"=true)
    (ma_Roll_move:PySem.W.findIn K (.ref cR_Roll) "move"=some (some (.ref fm_Roll_move))) (mf_Roll_move:PySem.W.isFn K (.ref fm_Roll_move)=true) (mk_Roll_move:PySem.W.keepIn K (.ref fm_Roll_move)=true) (ml_Roll_move:K.lookup fm_Roll_move=some ⟨ocM7,odM7,.func (PySem.W.fnOf "move" "Roll.move" (aq dj) (ao dj) (ak dj) .none kVM7 dcM7 pmM7 anM7 cdM7 ctM7),slM7⟩) (mc_Roll_move:PySem.W.codeIn K cdM7 "Roll.move"=true)
    (ma_Roll_look_move:PySem.W.findIn K (.ref cR_Roll) "look_move"=some (some (.ref fm_Roll_look_move))) (mf_Roll_look_move:PySem.W.isFn K (.ref fm_Roll_look_move)=true) (mk_Roll_look_move:PySem.W.keepIn K (.ref fm_Roll_look_move)=true) (ml_Roll_look_move:K.lookup fm_Roll_look_move=some ⟨ocM8,odM8,.func (PySem.W.fnOf "look_move" "Roll.look_move" (aq aR) (ao aR) (ak aR) .none kVM8 dcM8 pmM8 anM8 cdM8 ctM8),slM8⟩) (mc_Roll_look_move:PySem.W.codeIn K cdM8 "Roll.look_move"=true)
    (ma_Roll_enter:PySem.W.findIn K (.ref cR_Roll) "enter"=some (some (.ref fm_Roll_enter))) (mf_Roll_enter:PySem.W.isFn K (.ref fm_Roll_enter)=true) (mk_Roll_enter:PySem.W.keepIn K (.ref fm_Roll_enter)=true) (ml_Roll_enter:K.lookup fm_Roll_enter=some ⟨ocM9,odM9,.func (PySem.W.fnOf "enter" "Roll.enter" (aq cI) (ao cI) (ak cI) .none kVM9 dcM9 pmM9 anM9 cdM9 ctM9),slM9⟩) (mc_Roll_enter:PySem.W.codeIn K cdM9 "Roll.enter"=true)
    (ma_Roll_look_at_number:PySem.W.findIn K (.ref cR_Roll) "look_at_number"=some (some (.ref fm_Roll_look_at_number))) (mf_Roll_look_at_number:PySem.W.isFn K (.ref fm_Roll_look_at_number)=true) (mk_Roll_look_at_number:PySem.W.keepIn K (.ref fm_Roll_look_at_number)=true) (ml_Roll_look_at_number:K.lookup fm_Roll_look_at_number=some ⟨ocM10,odM10,.func (PySem.W.fnOf "look_at_number" "Roll.look_at_number" (aq aK) (ao aK) (ak aK) .none kVM10 dcM10 pmM10 anM10 cdM10 ctM10),slM10⟩) (mc_Roll_look_at_number:PySem.W.codeIn K cdM10 "Roll.look_at_number"=true)
    (ma_Roll_look_at_holder:PySem.W.findIn K (.ref cR_Roll) "look_at_holder"=some (some (.ref fm_Roll_look_at_holder))) (mf_Roll_look_at_holder:PySem.W.isFn K (.ref fm_Roll_look_at_holder)=true) (mk_Roll_look_at_holder:PySem.W.keepIn K (.ref fm_Roll_look_at_holder)=true) (ml_Roll_look_at_holder:K.lookup fm_Roll_look_at_holder=some ⟨ocM11,odM11,.func (PySem.W.fnOf "look_at_holder" "Roll.look_at_holder" (aq aG) (ao aG) (ak aG) .none kVM11 dcM11 pmM11 anM11 cdM11 ctM11),slM11⟩) (mc_Roll_look_at_holder:PySem.W.codeIn K cdM11 "Roll.look_at_holder"=true)
    (ma_Roll_look_at_room:PySem.W.findIn K (.ref cR_Roll) "look_at_room"=some (some (.ref fm_Roll_look_at_room))) (mf_Roll_look_at_room:PySem.W.isFn K (.ref fm_Roll_look_at_room)=true) (mk_Roll_look_at_room:PySem.W.keepIn K (.ref fm_Roll_look_at_room)=true) (ml_Roll_look_at_room:K.lookup fm_Roll_look_at_room=some ⟨ocM12,odM12,.func (PySem.W.fnOf "look_at_room" "Roll.look_at_room" (aq aO) (ao aO) (ak aO) .none kVM12 dcM12 pmM12 anM12 cdM12 ctM12),slM12⟩) (mc_Roll_look_at_room:PySem.W.codeIn K cdM12 "Roll.look_at_room"=true)
    (z_len:PySem.W.nsIn K mainGlobals "len"=some none)
    (z_range:PySem.W.nsIn K mainGlobals "range"=some none)
    (z_list:PySem.W.nsIn K mainGlobals "list"=some none)
    (z_isinstance:PySem.W.nsIn K mainGlobals "isinstance"=some none)
    (z_bool:PySem.W.nsIn K mainGlobals "bool"=some none)
    (z_int:PySem.W.nsIn K mainGlobals "int"=some none)
    (z_all:PySem.W.nsIn K mainGlobals "all"=some none)
    (z_min:PySem.W.nsIn K mainGlobals "min"=some none)
    (z_max:PySem.W.nsIn K mainGlobals "max"=some none)
    (z_sum:PySem.W.nsIn K mainGlobals "sum"=some none)
    (z_sorted:PySem.W.nsIn K mainGlobals "sorted"=some none)
    (z_zip:PySem.W.nsIn K mainGlobals "zip"=some none)
    (z_tuple:PySem.W.nsIn K mainGlobals "tuple"=some none)
    (z_str:PySem.W.nsIn K mainGlobals "str"=some none)
    (z_any:PySem.W.nsIn K mainGlobals "any"=some none)
    (z_enumerate:PySem.W.nsIn K mainGlobals "enumerate"=some none)
    (z_reversed:PySem.W.nsIn K mainGlobals "reversed"=some none)
    (z_abs:PySem.W.nsIn K mainGlobals "abs"=some none)
    (z_ValueError:PySem.W.nsIn K mainGlobals "ValueError"=some none)
    (z_set:PySem.W.nsIn K mainGlobals "set"=some none)
    (n_SluiceError:PySem.W.nsIn K mainGlobals "SluiceError"=some (some (.ref cX_SluiceError))) (q_SluiceError:PySem.W.excIn K cX_SluiceError vD "ValueError.__new__"=true)
    (xa_SluiceError:PySem.W.findIn K (.ref cX_SluiceError) "__getattribute__"=some (some (.builtin "BaseException.__getattribute__"))) (xb_SluiceError:PySem.W.findIn K (.ref cX_SluiceError) "__getattr__"=some none) (xc_SluiceError:PySem.W.findIn K (.ref cX_SluiceError) "__class__"=some (some (.builtin "object.__class__")))
    (xd_SluiceError:PySem.W.specialIn K (.builtin "object.__class__") "__get__"=some (some (.builtin "getset_descriptor.__get__"))) (xe_SluiceError:PySem.W.takesIn K (.builtin "object.__class__")=some true) (xf_SluiceError:PySem.W.mroIn K cX_SluiceError (.type "object")=some true) (xg_SluiceError:PySem.W.mroIn K cX_SluiceError (.type "BaseException")=some true) (xh_SluiceError:(PySem.W.clsIn K cX_SluiceError).isSome=true)
    (n_NotYours:PySem.W.nsIn K mainGlobals "NotYours"=some (some (.ref cX_NotYours))) (q_NotYours:PySem.W.excIn K cX_NotYours vD "ValueError.__new__"=true)
    (xa_NotYours:PySem.W.findIn K (.ref cX_NotYours) "__getattribute__"=some (some (.builtin "BaseException.__getattribute__"))) (xb_NotYours:PySem.W.findIn K (.ref cX_NotYours) "__getattr__"=some none) (xc_NotYours:PySem.W.findIn K (.ref cX_NotYours) "__class__"=some (some (.builtin "object.__class__")))
    (xd_NotYours:PySem.W.specialIn K (.builtin "object.__class__") "__get__"=some (some (.builtin "getset_descriptor.__get__"))) (xe_NotYours:PySem.W.takesIn K (.builtin "object.__class__")=some true) (xf_NotYours:PySem.W.mroIn K cX_NotYours (.type "object")=some true) (xg_NotYours:PySem.W.mroIn K cX_NotYours (.type "BaseException")=some true) (xh_NotYours:(PySem.W.clsIn K cX_NotYours).isSome=true)
    (n_NoLicence:PySem.W.nsIn K mainGlobals "NoLicence"=some (some (.ref cX_NoLicence))) (q_NoLicence:PySem.W.excIn K cX_NoLicence vD "ValueError.__new__"=true)
    (xa_NoLicence:PySem.W.findIn K (.ref cX_NoLicence) "__getattribute__"=some (some (.builtin "BaseException.__getattribute__"))) (xb_NoLicence:PySem.W.findIn K (.ref cX_NoLicence) "__getattr__"=some none) (xc_NoLicence:PySem.W.findIn K (.ref cX_NoLicence) "__class__"=some (some (.builtin "object.__class__")))
    (xd_NoLicence:PySem.W.specialIn K (.builtin "object.__class__") "__get__"=some (some (.builtin "getset_descriptor.__get__"))) (xe_NoLicence:PySem.W.takesIn K (.builtin "object.__class__")=some true) (xf_NoLicence:PySem.W.mroIn K cX_NoLicence (.type "object")=some true) (xg_NoLicence:PySem.W.mroIn K cX_NoLicence (.type "BaseException")=some true) (xh_NoLicence:(PySem.W.clsIn K cX_NoLicence).isSome=true)
    (n_NoNumber:PySem.W.nsIn K mainGlobals "NoNumber"=some (some (.ref cX_NoNumber))) (q_NoNumber:PySem.W.excIn K cX_NoNumber vD "ValueError.__new__"=true)
    (xa_NoNumber:PySem.W.findIn K (.ref cX_NoNumber) "__getattribute__"=some (some (.builtin "BaseException.__getattribute__"))) (xb_NoNumber:PySem.W.findIn K (.ref cX_NoNumber) "__getattr__"=some none) (xc_NoNumber:PySem.W.findIn K (.ref cX_NoNumber) "__class__"=some (some (.builtin "object.__class__")))
    (xd_NoNumber:PySem.W.specialIn K (.builtin "object.__class__") "__get__"=some (some (.builtin "getset_descriptor.__get__"))) (xe_NoNumber:PySem.W.takesIn K (.builtin "object.__class__")=some true) (xf_NoNumber:PySem.W.mroIn K cX_NoNumber (.type "object")=some true) (xg_NoNumber:PySem.W.mroIn K cX_NoNumber (.type "BaseException")=some true) (xh_NoNumber:(PySem.W.clsIn K cX_NoNumber).isSome=true)
    (n_NoReach:PySem.W.nsIn K mainGlobals "NoReach"=some (some (.ref cX_NoReach))) (q_NoReach:PySem.W.excIn K cX_NoReach vD "ValueError.__new__"=true)
    (xa_NoReach:PySem.W.findIn K (.ref cX_NoReach) "__getattribute__"=some (some (.builtin "BaseException.__getattribute__"))) (xb_NoReach:PySem.W.findIn K (.ref cX_NoReach) "__getattr__"=some none) (xc_NoReach:PySem.W.findIn K (.ref cX_NoReach) "__class__"=some (some (.builtin "object.__class__")))
    (xd_NoReach:PySem.W.specialIn K (.builtin "object.__class__") "__get__"=some (some (.builtin "getset_descriptor.__get__"))) (xe_NoReach:PySem.W.takesIn K (.builtin "object.__class__")=some true) (xf_NoReach:PySem.W.mroIn K cX_NoReach (.type "object")=some true) (xg_NoReach:PySem.W.mroIn K cX_NoReach (.type "BaseException")=some true) (xh_NoReach:(PySem.W.clsIn K cX_NoReach).isSome=true)
    (m_NoLicence_SluiceError:PySem.W.exmOne K (.ref cX_NoLicence) (.ref cX_SluiceError)=some true)
    (i_NoLicence_NoNumber:PySem.W.kitOne K (.ref cX_NoLicence) (.ref cX_NoNumber)=some false)
    (i_NoLicence_NoReach:PySem.W.kitOne K (.ref cX_NoLicence) (.ref cX_NoReach)=some false)
    (i_NoLicence_ValueError:PySem.W.kitOne K (.ref cX_NoLicence) (.type "ValueError")=some true)
    (i_NoLicence_NoLicence:PySem.W.kitOne K (.ref cX_NoLicence) (.ref cX_NoLicence)=some true)
    : ∃ fd:FuncData,(∀ (s:Shared) (v:Value),BindsTo s fd ⟨[v],[]⟩ [("script",v)])∧∀ base:Heap,K.In base→base.Ns mainGlobals mg→cj l.prog w K mg base CX0 5 fa fd ["script"] (pO K):=by
  have e:=hfa.symm.trans (PySem.W.mg_of X G a20)
  cases e
  have B:Blt mg:=⟨PySem.W.mg_none_of X G z_len,PySem.W.mg_none_of X G z_range,PySem.W.mg_none_of X G z_list,PySem.W.mg_none_of X G z_isinstance,PySem.W.mg_none_of X G z_bool,PySem.W.mg_none_of X G z_int,PySem.W.mg_none_of X G z_all,PySem.W.mg_none_of X G z_min,PySem.W.mg_none_of X G z_max,PySem.W.mg_none_of X G z_sum,PySem.W.mg_none_of X G z_sorted,PySem.W.mg_none_of X G z_zip,PySem.W.mg_none_of X G z_tuple,PySem.W.mg_none_of X G z_str,PySem.W.mg_none_of X G z_any,PySem.W.mg_none_of X G z_enumerate,PySem.W.mg_none_of X G z_reversed,PySem.W.mg_none_of X G z_abs,PySem.W.mg_none_of X G z_ValueError,PySem.W.mg_none_of X G z_set⟩
  have h_MOST_WATER:∃ t,mg "MOST_WATER"=some (.int (1000000000000) t):=⟨_,PySem.W.mg_of X G e0⟩
  have h_LONGEST_NAME:∃ t,mg "LONGEST_NAME"=some (.int (8) t):=⟨_,PySem.W.mg_of X G e1⟩
  have h_LETTERS:∃ t,mg "LETTERS"=some (.str "abcdefghijklmnopqrstuvwxyz" t):=⟨_,PySem.W.mg_of X G e2⟩
  have h_MOST_REACHES:∃ t,mg "MOST_REACHES"=some (.int (40) t):=⟨_,PySem.W.mg_of X G e3⟩
  have h_MOUTH:∃ t,mg "MOUTH"=some (.int (-1) t):=⟨_,PySem.W.mg_of X G e4⟩
  have h_LAST_DAY:∃ t,mg "LAST_DAY"=some (.int (1000000) t):=⟨_,PySem.W.mg_of X G e5⟩
  have h_MOST_LICENCES:∃ t,mg "MOST_LICENCES"=some (.int (60) t):=⟨_,PySem.W.mg_of X G e6⟩
  have FM_Roll___init__:=bK (st:=bA) ml_Roll___init__ mc_Roll___init__ mk_Roll___init__
  have d9:Dm K cR_Roll "__init__" "Roll.__init__" bA ["self","below"] fm_Roll___init__ _:=⟨FM_Roll___init__,gD FM_Roll___init__ (fun _ _ _ _ _ _ _ _=>rfl),⟨ma_Roll___init__,mf_Roll___init__,mk_Roll___init__⟩⟩
  have FM_Roll_today:=bK (st:=cH) ml_Roll_today mc_Roll_today mk_Roll_today
  have eN:Dm K cR_Roll "today" "Roll.today" cH ["self"] fm_Roll_today _:=⟨FM_Roll_today,gF FM_Roll_today (fun _ _ _ _ _ _ _=>rfl),⟨ma_Roll_today,mf_Roll_today,mk_Roll_today⟩⟩
  have FM_Roll_roll:=bK (st:=dh) ml_Roll_roll mc_Roll_roll mk_Roll_roll
  have bx:Dm K cR_Roll "roll" "Roll.roll" dh ["self"] fm_Roll_roll _:=⟨FM_Roll_roll,gF FM_Roll_roll (fun _ _ _ _ _ _ _=>rfl),⟨ma_Roll_roll,mf_Roll_roll,mk_Roll_roll⟩⟩
  have FM_Roll_holders:=bK (st:=bR) ml_Roll_holders mc_Roll_holders mk_Roll_holders
  have dM:Dm K cR_Roll "holders" "Roll.holders" bR ["self"] fm_Roll_holders _:=⟨FM_Roll_holders,gF FM_Roll_holders (fun _ _ _ _ _ _ _=>rfl),⟨ma_Roll_holders,mf_Roll_holders,mk_Roll_holders⟩⟩
  have FM_Roll_turn:=bK (st:=dg) ml_Roll_turn mc_Roll_turn mk_Roll_turn
  have fM:Dm K cR_Roll "turn" "Roll.turn" dg ["self"] fm_Roll_turn _:=⟨FM_Roll_turn,gF FM_Roll_turn (fun _ _ _ _ _ _ _=>rfl),⟨ma_Roll_turn,mf_Roll_turn,mk_Roll_turn⟩⟩
  obtain ⟨nT_Roll_file,mu_Roll_file⟩:=mu_Roll_file
  have FM_Roll_file:Ft K "file" "Roll.file" dw [.none] fm_Roll_file _:=⟨⟨_,_,_,_,_,_,_,_,_,_,_,_,rfl,ml_Roll_file,mc_Roll_file,mt_Roll_file,mu_Roll_file⟩,mk_Roll_file⟩
  have fP:DmD K cR_Roll "file" "Roll.file" dw ["self","holder","start","most","back"] fm_Roll_file _:=⟨FM_Roll_file,FM_Roll_file.binds (fun _ _ _ _ _ _ _ us hl=>match us,(show us.length=5 by simpa using hl) with | [u0,u1,u2,u3,u4],_=>⟨_,rfl,rfl⟩),FM_Roll_file.binds (fun _ _ _ _ _ _ _ us hl=>match us,(show us.length=4 by simpa using hl) with | [u0,u1,u2,u3],_=>⟨_,rfl,rfl⟩),⟨ma_Roll_file,mf_Roll_file,mk_Roll_file⟩⟩
  have FM_Roll_drop:=bK (st:=dz) ml_Roll_drop mc_Roll_drop mk_Roll_drop
  have fQ:Dm K cR_Roll "drop" "Roll.drop" dz ["self","number","holder"] fm_Roll_drop _:=⟨FM_Roll_drop,lD FM_Roll_drop (fun _ _ _ _ _ _ _ _ _=>rfl),⟨ma_Roll_drop,mf_Roll_drop,mk_Roll_drop⟩⟩
  have FM_Roll_move:=bK (st:=dj) ml_Roll_move mc_Roll_move mk_Roll_move
  have fO:Dm K cR_Roll "move" "Roll.move" dj ["self","number","holder","start"] fm_Roll_move _:=⟨FM_Roll_move,DK FM_Roll_move (fun _ _ _ _ _ _ _ _ _ _=>rfl),⟨ma_Roll_move,mf_Roll_move,mk_Roll_move⟩⟩
  have FM_Roll_look_move:=bK (st:=aR) ml_Roll_look_move mc_Roll_look_move mk_Roll_look_move
  have aU:Dm K cR_Roll "look_move" "Roll.look_move" aR ["self","number","start"] fm_Roll_look_move _:=⟨FM_Roll_look_move,lD FM_Roll_look_move (fun _ _ _ _ _ _ _ _ _=>rfl),⟨ma_Roll_look_move,mf_Roll_look_move,mk_Roll_look_move⟩⟩
  have FM_Roll_enter:=bK (st:=cI) ml_Roll_enter mc_Roll_enter mk_Roll_enter
  have eO:Dm K cR_Roll "enter" "Roll.enter" cI ["self","one","holder"] fm_Roll_enter _:=⟨FM_Roll_enter,lD FM_Roll_enter (fun _ _ _ _ _ _ _ _ _=>rfl),⟨ma_Roll_enter,mf_Roll_enter,mk_Roll_enter⟩⟩
  have FM_Roll_look_at_number:=bK (st:=aK) ml_Roll_look_at_number mc_Roll_look_at_number mk_Roll_look_at_number
  have bH:Dm K cR_Roll "look_at_number" "Roll.look_at_number" aK ["self","number"] fm_Roll_look_at_number _:=⟨FM_Roll_look_at_number,gD FM_Roll_look_at_number (fun _ _ _ _ _ _ _ _=>rfl),⟨ma_Roll_look_at_number,mf_Roll_look_at_number,mk_Roll_look_at_number⟩⟩
  have FM_Roll_look_at_holder:=bK (st:=aG) ml_Roll_look_at_holder mc_Roll_look_at_holder mk_Roll_look_at_holder
  have aH:Dm K cR_Roll "look_at_holder" "Roll.look_at_holder" aG ["self","number","holder"] fm_Roll_look_at_holder _:=⟨FM_Roll_look_at_holder,lD FM_Roll_look_at_holder (fun _ _ _ _ _ _ _ _ _=>rfl),⟨ma_Roll_look_at_holder,mf_Roll_look_at_holder,mk_Roll_look_at_holder⟩⟩
  have FM_Roll_look_at_room:=bK (st:=aO) ml_Roll_look_at_room mc_Roll_look_at_room mk_Roll_look_at_room
  have bU:Dm K cR_Roll "look_at_room" "Roll.look_at_room" aO ["self"] fm_Roll_look_at_room _:=⟨FM_Roll_look_at_room,gF FM_Roll_look_at_room (fun _ _ _ _ _ _ _=>rfl),⟨ma_Roll_look_at_room,mf_Roll_look_at_room,mk_Roll_look_at_room⟩⟩
  have R_Roll:Cl K mg "Roll" cR_Roll fm_Roll___init__ ["below","day","licences","names","done"]:=⟨⟨ka_Roll,kb_Roll,kc_Roll,kd_Roll⟩,⟨ke_Roll,ma_Roll___init__,mf_Roll___init__,kf_Roll⟩,PySem.W.mg_of X G n_Roll,by
    simp only [List.mem_cons,List.not_mem_nil,or_false,forall_eq_or_imp,forall_eq]
    exact ⟨kn_Roll_below,kn_Roll_day,kn_Roll_licences,kn_Roll_names,kn_Roll_done⟩⟩
  have X_SluiceError:uq K mg "SluiceError" cX_SluiceError:=⟨PySem.W.mg_of X G n_SluiceError,q_SluiceError,⟨xa_SluiceError,xb_SluiceError,xc_SluiceError,xd_SluiceError,xe_SluiceError,xf_SluiceError,xg_SluiceError,xh_SluiceError⟩⟩
  have X_NotYours:uq K mg "NotYours" cX_NotYours:=⟨PySem.W.mg_of X G n_NotYours,q_NotYours,⟨xa_NotYours,xb_NotYours,xc_NotYours,xd_NotYours,xe_NotYours,xf_NotYours,xg_NotYours,xh_NotYours⟩⟩
  have X_NoLicence:uq K mg "NoLicence" cX_NoLicence:=⟨PySem.W.mg_of X G n_NoLicence,q_NoLicence,⟨xa_NoLicence,xb_NoLicence,xc_NoLicence,xd_NoLicence,xe_NoLicence,xf_NoLicence,xg_NoLicence,xh_NoLicence⟩⟩
  have X_NoNumber:uq K mg "NoNumber" cX_NoNumber:=⟨PySem.W.mg_of X G n_NoNumber,q_NoNumber,⟨xa_NoNumber,xb_NoNumber,xc_NoNumber,xd_NoNumber,xe_NoNumber,xf_NoNumber,xg_NoNumber,xh_NoNumber⟩⟩
  have X_NoReach:uq K mg "NoReach" cX_NoReach:=⟨PySem.W.mg_of X G n_NoReach,q_NoReach,⟨xa_NoReach,xb_NoReach,xc_NoReach,xd_NoReach,xe_NoReach,xf_NoReach,xg_NoReach,xh_NoReach⟩⟩
  have F0:=bK (st:=dN) l0 c0 k0
  have fu:Df K mg "is_water" dN ["amount"] _ _:=⟨F0,gF F0 (fun _ _ _ _ _ _ _=>rfl),PySem.W.mg_of X G a0⟩
  have F1:=bK (st:=dZ) l1 c1 k1
  have gB:Df K mg "is_name" dZ ["text"] _ _:=⟨F1,gF F1 (fun _ _ _ _ _ _ _=>rfl),PySem.W.mg_of X G a1⟩
  have F2:=bK (st:=bh) l2 c2 k2
  have bV:Df K mg "comes_to_mouth" bh ["below","start"] _ _:=⟨F2,gD F2 (fun _ _ _ _ _ _ _ _=>rfl),PySem.W.mg_of X G a2⟩
  have F3:=bK (st:=cO) l3 c3 k3
  have fB:Df K mg "is_river" cO ["below"] _ _:=⟨F3,gF F3 (fun _ _ _ _ _ _ _=>rfl),PySem.W.mg_of X G a3⟩
  have F4:=bK (st:=fV) l4 c4 k4
  have iu:Df K mg "way_of" fV ["below","reach"] _ _:=⟨F4,gD F4 (fun _ _ _ _ _ _ _ _=>rfl),PySem.W.mg_of X G a4⟩
  have F5:=bK (st:=bY) l5 c5 k5
  have bF:Df K mg "is_licence" bY ["below","one"] _ _:=⟨F5,gD F5 (fun _ _ _ _ _ _ _ _=>rfl),PySem.W.mg_of X G a5⟩
  have F6:=bK (st:=cC) l6 c6 k6
  have dR:Df K mg "with_start" cC ["one","start"] _ _:=⟨F6,gD F6 (fun _ _ _ _ _ _ _ _=>rfl),PySem.W.mg_of X G a6⟩
  have F7:=bK (st:=cX) l7 c7 k7
  have eG:Df K mg "with_most" cX ["one","most"] _ _:=⟨F7,gD F7 (fun _ _ _ _ _ _ _ _=>rfl),PySem.W.mg_of X G a7⟩
  have F8:=bK (st:=bM) l8 c8 k8
  have cT:Df K mg "look_at_name" bM ["name"] _ _:=⟨F8,gF F8 (fun _ _ _ _ _ _ _=>rfl),PySem.W.mg_of X G a8⟩
  have F9:=bK (st:=bQ) l9 c9 k9
  have cU:Df K mg "_law_cell_at" bQ ["script","k"] _ _:=⟨F9,gD F9 (fun _ _ _ _ _ _ _ _=>rfl),PySem.W.mg_of X G a9⟩
  have F10:=bK (st:=cD) l10 c10 k10
  have dU:Df K mg "_law_whole" cD ["found"] _ _:=⟨F10,gF F10 (fun _ _ _ _ _ _ _=>rfl),PySem.W.mg_of X G a10⟩
  have F11:=bK (st:=cZ) l11 c11 k11
  have eH:Df K mg "_law_draw" cZ ["cell","place"] _ _:=⟨F11,gD F11 (fun _ _ _ _ _ _ _ _=>rfl),PySem.W.mg_of X G a11⟩
  have F12:=bK (st:=bO) l12 c12 k12
  have bG:Df K mg "_law_draws" bO ["cell","many"] _ _:=⟨F12,gD F12 (fun _ _ _ _ _ _ _ _=>rfl),PySem.W.mg_of X G a12⟩
  have F13:=bK (st:=bN) l13 c13 k13
  have dW:Df K mg "_law_river" bN ["cell"] _ _:=⟨F13,gF F13 (fun _ _ _ _ _ _ _=>rfl),PySem.W.mg_of X G a13⟩
  have F14:=bK (st:=cP) l14 c14 k14
  have bf:Df K mg "_law_way" cP ["below","reach"] _ _:=⟨F14,gD F14 (fun _ _ _ _ _ _ _ _=>rfl),PySem.W.mg_of X G a14⟩
  have F15:=bK (st:=aM) l15 c15 k15
  have aN:Df K mg "_law_alike_lines" aM ["found","due"] _ _:=⟨F15,gD F15 (fun _ _ _ _ _ _ _ _=>rfl),PySem.W.mg_of X G a15⟩
  have F16:=bK (st:=cF) l16 c16 k16
  have cg:Df K mg "_law_tried" cF ["one","number","name","start"] _ _:=⟨F16,DK F16 (fun _ _ _ _ _ _ _ _ _ _=>rfl),PySem.W.mg_of X G a16⟩
  have F17:=bK (st:=cG) l17 c17 k17
  have dX:Df K mg "_law_filed" cG ["one","xs","below","lines","owners","day"] _ _:=⟨F17,Mp F17 (fun _ _ _ _ _ _ _ _ _ _ _ _=>rfl),PySem.W.mg_of X G a17⟩
  have F18:=bK (st:=aQ) l18 c18 k18
  have bW:Df K mg "_law_new_start" aQ ["xs","below","line"] _ _:=⟨F18,lD F18 (fun _ _ _ _ _ _ _ _ _=>rfl),PySem.W.mg_of X G a18⟩
  have F19:=bK (st:=bZ) l19 c19 k19
  have dI:Df K mg "_law_is_let" bZ ["below","line","start"] _ _:=⟨F19,lD F19 (fun _ _ _ _ _ _ _ _ _=>rfl),PySem.W.mg_of X G a19⟩
  have F20:=bK (st:=j7) l20 c20 k20
  have PX:Df K mg "law" j7 ["script"] _ _:=⟨F20,gF F20 (fun _ _ _ _ _ _ _=>rfl),PySem.W.mg_of X G a20⟩
  refine ⟨PySem.W.fnOf "law" "law" (aq j7) (ao j7) (ak j7) .none kV20 dc20 pm20 an20 cd20 ct20,fun s v=>.of_eq rfl,fun base _ _=>?_⟩
  have C:Mth mg:=⟨h_MOUTH⟩
  have CS:Cst mg:=⟨h_MOUTH,h_MOST_REACHES⟩
  have CNm:CN mg:=⟨h_LONGEST_NAME,h_LETTERS⟩
  have g1:=Em (P:=l.prog) (w:=w) (base:=base) cU B
  have g2:=uJ (P:=l.prog) (w:=w) (base:=base) dU B
  have g3:=Gs (P:=l.prog) (w:=w) (base:=base) iu C
  have g4:=uP (P:=l.prog) (w:=w) (base:=base) bV B CS
  have g5:=Gx fB B CS bV g4
  have g6:=uK (P:=l.prog) (w:=w) (K:=K) (base:=base) fu h_MOST_WATER
  have g7:=uO (T:=[]) bF B C h_LAST_DAY fu g6 iu g3
  have g8:=sO (P:=l.prog) (w:=w) (K:=K) (base:=base) (T:=[]) gB B CNm
  have g9:=oG cT gB g8
  have g10:=uT (P:=l.prog) (w:=w) (mg:=mg) (base:=base) bx B R_Roll
  have g11:=oK (P:=l.prog) (w:=w) (mg:=mg) (base:=base) dM B R_Roll
  have g13:=uQ (P:=l.prog) (w:=w) (mg:=mg) (base:=base) (T:=[]) fM R_Roll
  have g14:=sU (P:=l.prog) (w:=w) (mg:=mg) (base:=base) eO B R_Roll
  have g15:=uR (P:=l.prog) (w:=w) (mg:=mg) (base:=base) bU B R_Roll h_MOST_LICENCES
  have g16:=uW fP B C R_Roll cT g9 bF g7 bU g15 eO g14
  have g17:=uV (T:=[]) d9 B R_Roll fB g5
  have g22:=Ni (P:=l.prog) (w:=w) (K:=K) (base:=base) eH
  have g23:=Gy (T:=[]) bG B eH g22
  have g24:=uM dW B bG g23
  have g25:=El (P:=l.prog) (w:=w) (base:=base) bf
  have g29:=sS (P:=l.prog) (w:=w) (mg:=mg) (base:=base) eN R_Roll
  have T8:DN K cX_NoLicence cX_SluiceError cX_NoNumber cX_NoReach:=⟨m_NoLicence_SluiceError,i_NoLicence_NoNumber,i_NoLicence_NoReach,i_NoLicence_ValueError,i_NoLicence_NoLicence⟩
  have g31:=Nh (P:=l.prog) (w:=w) (base:=base) eG
  have g33:=oH (P:=l.prog) (w:=w) (base:=base) bH B R_Roll
  have g34:=oJ (T:=[]) aH B R_Roll X_NotYours bH g33
  have g35:=uX fQ R_Roll aH g34 eG g31
  have g36:=Gq (P:=l.prog) (w:=w) (base:=base) dR
  have g37:=nq (P:=l.prog) (w:=w) (mg:=mg) (base:=base) aU
  have g38:=uU fO B R_Roll X_NoLicence aH g34 dR g36 bF g7 aU g37
  have g39:=uL cg B R_Roll X_NoLicence X_SluiceError X_NoNumber X_NoReach T8 fO g38
  have g40:=Gz (T:=[]) aN B dU g2
  have g41:=Gu (T:=[]) bW B bf g25
  have g42:=Gv (T:=[]) dI B bf g25
  have g43:=uN dX B R_Roll bf g25 fP g16
  exact Gw rfl PX B R_Roll cU g1 dW g24 d9 g17 bx g10 bG g23 fM g13 dX g43 fQ g35 bW g41 aU g37 dI g42 cg g39 aN g40 dM g11 eN g29
theorem walk {l:PySem.W.OpenLaw} {q:Program} {loose:List Str} {XP:(Str→Option Value)→Heap→Prop} {YP:World→Heap→Prop} {d:DefRec} {K:Params→PySem.W.Frag} (hn:l.most=some 63) (hdf:d.params.defaults=[])
    (hY:∀ (w:World) (h:Heap),YP w h→(K w.params).In h)
    (F:∀ (w:World) (mg:Str→Option Value) (fa:Addr) (h:Heap),(K w.params).In h→h.Ns mainGlobals mg→mg d.name=some (.ref fa) →
      ∃ fd:FuncData,(∀ (s:Shared) (u:Value),BindsTo s fd ⟨[u],[]⟩ [("script",u)])∧∀ base:Heap,(K w.params).In base→base.Ns mainGlobals mg→cj l.prog w (K w.params) mg base CX0 5 fa fd ["script"] (pO (K w.params))) :
    PySem.W.WalkO q loose XP YP l.row.toRowW d [] (fun f vs=>PySem.call f vs) :=
  L2.DX (n:=63) (k:=5) (x:="script") (CX:=fun _=>CX0) (sp:=fun w=>pO (K w.params)) hn (by decide) hdf ⟨rfl,by decide,by decide⟩ hY F (fun _ _ a ns hl _ hS=>⟨a,ns,rfl,hS,hl,fun _=>rfl⟩) fun _ _ _ _ _ z=>z
end My
open PySem PySem.W PyProof.Rows
set_option maxRecDepth 100000 in
set_option maxHeartbeats 0 in
theorem PySem.Challenge.cw_sluice_k55_moved_on_a_roll_holds : PySem.Challenge.rw_sluice_k55_moved_on_a_roll.Holds := by
  w_on;o_law
  refine PySem.W.holds_open (q:=My.qv) (loose:=My.p8) (Xt:=(fun s=>PySem.W.xlAt My.qv [] s && PySem.W.recOk (PySem.W.RowW.records PySem.Challenge.rw_sluice_k55_moved_on_a_roll.row.toRowW) s)) (XP:=PySem.W.XL My.qv []) (Yf:=PySem.W.Hook.obs (PySem.W.kHook My.Kf My.asK My.hkE)) (Ya:=PySem.W.Hook.val (PySem.W.kHook My.Kf My.asK My.hkE)) (YP:=PySem.W.Hook.says (PySem.W.kHook My.Kf My.asK My.hkE)) (N:=7584) My.hlE (PySem.W.Hook.of (PySem.W.kHook My.Kf My.asK My.hkE)) (PySem.W.Hook.keeps (PySem.W.kHook My.Kf My.asK My.hkE)) (fun s e=>PySem.W.xl_of s (Bool.and_eq_true_iff.mp e).1) PySem.W.XL.keeps (by rfl) (by rfl) (by rfl) (fun s e=>PySem.W.recFacts_of (Bool.and_eq_true_iff.mp e).2) (by rfl) (by first | assumption | decide +kernel) (by decide +kernel) ⟨rfl,rfl,rfl,rfl,rfl,by decide +kernel⟩ ?hw ?hc
  case hw=>w_witness2
  k_fill
  refine My.walk (l:=PySem.Challenge.rw_sluice_k55_moved_on_a_roll) rfl rfl (fun w h Y=>PySem.W.kIn_of Y) ?F
  case F =>
    intro w mg fa h KX G hmg
    refine' My.all_mk KX G hmg ?a0 ?l0 ?c0 ?k0 ?a1 ?l1 ?c1 ?k1 ?a2 ?l2 ?c2 ?k2 ?a3 ?l3 ?c3 ?k3 ?a4 ?l4 ?c4 ?k4 ?a5 ?l5 ?c5 ?k5 ?a6 ?l6 ?c6 ?k6 ?a7 ?l7 ?c7 ?k7 ?a8 ?l8 ?c8 ?k8 ?a9 ?l9 ?c9 ?k9 ?a10 ?l10 ?c10 ?k10 ?a11 ?l11 ?c11 ?k11 ?a12 ?l12 ?c12 ?k12 ?a13 ?l13 ?c13 ?k13 ?a14 ?l14 ?c14 ?k14 ?a15 ?l15 ?c15 ?k15 ?a16 ?l16 ?c16 ?k16 ?a17 ?l17 ?c17 ?k17 ?a18 ?l18 ?c18 ?k18 ?a19 ?l19 ?c19 ?k19 ?a20 ?l20 ?c20 ?k20 ?e0 ?e1 ?e2 ?e3 ?e4 ?e5 ?e6 ?n_Roll ?ka_Roll ?kb_Roll ?kc_Roll ?kd_Roll ?ke_Roll ?kf_Roll ?kn_Roll_below ?kn_Roll_day ?kn_Roll_licences ?kn_Roll_names ?kn_Roll_done ?ma_Roll___init__ ?mf_Roll___init__ ?mk_Roll___init__ ?ml_Roll___init__ ?mc_Roll___init__ ?ma_Roll_today ?mf_Roll_today ?mk_Roll_today ?ml_Roll_today ?mc_Roll_today ?ma_Roll_roll ?mf_Roll_roll ?mk_Roll_roll ?ml_Roll_roll ?mc_Roll_roll ?ma_Roll_holders ?mf_Roll_holders ?mk_Roll_holders ?ml_Roll_holders ?mc_Roll_holders ?ma_Roll_turn ?mf_Roll_turn ?mk_Roll_turn ?ml_Roll_turn ?mc_Roll_turn ?ma_Roll_file ?mf_Roll_file ?mk_Roll_file ?ml_Roll_file ?mc_Roll_file ?mt_Roll_file ?mu_Roll_file ?ma_Roll_drop ?mf_Roll_drop ?mk_Roll_drop ?ml_Roll_drop ?mc_Roll_drop ?ma_Roll_move ?mf_Roll_move ?mk_Roll_move ?ml_Roll_move ?mc_Roll_move ?ma_Roll_look_move ?mf_Roll_look_move ?mk_Roll_look_move ?ml_Roll_look_move ?mc_Roll_look_move ?ma_Roll_enter ?mf_Roll_enter ?mk_Roll_enter ?ml_Roll_enter ?mc_Roll_enter ?ma_Roll_look_at_number ?mf_Roll_look_at_number ?mk_Roll_look_at_number ?ml_Roll_look_at_number ?mc_Roll_look_at_number ?ma_Roll_look_at_holder ?mf_Roll_look_at_holder ?mk_Roll_look_at_holder ?ml_Roll_look_at_holder ?mc_Roll_look_at_holder ?ma_Roll_look_at_room ?mf_Roll_look_at_room ?mk_Roll_look_at_room ?ml_Roll_look_at_room ?mc_Roll_look_at_room ?z_len ?z_range ?z_list ?z_isinstance ?z_bool ?z_int ?z_all ?z_min ?z_max ?z_sum ?z_sorted ?z_zip ?z_tuple ?z_str ?z_any ?z_enumerate ?z_reversed ?z_abs ?z_ValueError ?z_set ?n_SluiceError ?q_SluiceError ?xa_SluiceError ?xb_SluiceError ?xc_SluiceError ?xd_SluiceError ?xe_SluiceError ?xf_SluiceError ?xg_SluiceError ?xh_SluiceError ?n_NotYours ?q_NotYours ?xa_NotYours ?xb_NotYours ?xc_NotYours ?xd_NotYours ?xe_NotYours ?xf_NotYours ?xg_NotYours ?xh_NotYours ?n_NoLicence ?q_NoLicence ?xa_NoLicence ?xb_NoLicence ?xc_NoLicence ?xd_NoLicence ?xe_NoLicence ?xf_NoLicence ?xg_NoLicence ?xh_NoLicence ?n_NoNumber ?q_NoNumber ?xa_NoNumber ?xb_NoNumber ?xc_NoNumber ?xd_NoNumber ?xe_NoNumber ?xf_NoNumber ?xg_NoNumber ?xh_NoNumber ?n_NoReach ?q_NoReach ?xa_NoReach ?xb_NoReach ?xc_NoReach ?xd_NoReach ?xe_NoReach ?xf_NoReach ?xg_NoReach ?xh_NoReach ?m_NoLicence_SluiceError ?i_NoLicence_NoNumber ?i_NoLicence_NoReach ?i_NoLicence_ValueError ?i_NoLicence_NoLicence
    (case a0=>k_is)
    (case l0=>k_is)
    (case c0=>k_is)
    (case k0=>k_is)
    (case a1=>k_is)
    (case l1=>k_is)
    (case c1=>k_is)
    (case k1=>k_is)
    (case a2=>k_is)
    (case l2=>k_is)
    (case c2=>k_is)
    (case k2=>k_is)
    (case a3=>k_is)
    (case l3=>k_is)
    (case c3=>k_is)
    (case k3=>k_is)
    (case a4=>k_is)
    (case l4=>k_is)
    (case c4=>k_is)
    (case k4=>k_is)
    (case a5=>k_is)
    (case l5=>k_is)
    (case c5=>k_is)
    (case k5=>k_is)
    (case a6=>k_is)
    (case l6=>k_is)
    (case c6=>k_is)
    (case k6=>k_is)
    (case a7=>k_is)
    (case l7=>k_is)
    (case c7=>k_is)
    (case k7=>k_is)
    (case a8=>k_is)
    (case l8=>k_is)
    (case c8=>k_is)
    (case k8=>k_is)
    (case a9=>k_is)
    (case l9=>k_is)
    (case c9=>k_is)
    (case k9=>k_is)
    (case a10=>k_is)
    (case l10=>k_is)
    (case c10=>k_is)
    (case k10=>k_is)
    (case a11=>k_is)
    (case l11=>k_is)
    (case c11=>k_is)
    (case k11=>k_is)
    (case a12=>k_is)
    (case l12=>k_is)
    (case c12=>k_is)
    (case k12=>k_is)
    (case a13=>k_is)
    (case l13=>k_is)
    (case c13=>k_is)
    (case k13=>k_is)
    (case a14=>k_is)
    (case l14=>k_is)
    (case c14=>k_is)
    (case k14=>k_is)
    (case a15=>k_is)
    (case l15=>k_is)
    (case c15=>k_is)
    (case k15=>k_is)
    (case a16=>k_is)
    (case l16=>k_is)
    (case c16=>k_is)
    (case k16=>k_is)
    (case a17=>k_is)
    (case l17=>k_is)
    (case c17=>k_is)
    (case k17=>k_is)
    (case a18=>k_is)
    (case l18=>k_is)
    (case c18=>k_is)
    (case k18=>k_is)
    (case a19=>k_is)
    (case l19=>k_is)
    (case c19=>k_is)
    (case k19=>k_is)
    (case a20=>k_is)
    (case l20=>k_is)
    (case c20=>k_is)
    (case k20=>k_is)
    (case e0=>k_is)
    (case e1=>k_is)
    (case e2=>k_is)
    (case e3=>k_is)
    (case e4=>k_is)
    (case e5=>k_is)
    (case e6=>k_is)
    (case n_Roll=>k_is)
    (case ka_Roll=>(first | k_is | kernel_rfl | rfl))
    (case kb_Roll=>(first | k_is | kernel_rfl | rfl))
    (case kc_Roll=>(first | k_is | kernel_rfl | rfl))
    (case kd_Roll=>(first | k_is | kernel_rfl | rfl))
    (case ke_Roll=>(first | k_is | kernel_rfl | rfl))
    (case kf_Roll=>(first | k_is | kernel_rfl | rfl))
    (case kn_Roll_below=>(first | k_is | kernel_rfl | rfl))
    (case kn_Roll_day=>(first | k_is | kernel_rfl | rfl))
    (case kn_Roll_licences=>(first | k_is | kernel_rfl | rfl))
    (case kn_Roll_names=>(first | k_is | kernel_rfl | rfl))
    (case kn_Roll_done=>(first | k_is | kernel_rfl | rfl))
    (case ma_Roll___init__=>k_is)
    (case mf_Roll___init__=>(first | k_is | kernel_rfl | rfl))
    (case mk_Roll___init__=>k_is)
    (case ml_Roll___init__=>k_is)
    (case mc_Roll___init__=>k_is)
    (case ma_Roll_today=>k_is)
    (case mf_Roll_today=>(first | k_is | kernel_rfl | rfl))
    (case mk_Roll_today=>k_is)
    (case ml_Roll_today=>k_is)
    (case mc_Roll_today=>k_is)
    (case ma_Roll_roll=>k_is)
    (case mf_Roll_roll=>(first | k_is | kernel_rfl | rfl))
    (case mk_Roll_roll=>k_is)
    (case ml_Roll_roll=>k_is)
    (case mc_Roll_roll=>k_is)
    (case ma_Roll_holders=>k_is)
    (case mf_Roll_holders=>(first | k_is | kernel_rfl | rfl))
    (case mk_Roll_holders=>k_is)
    (case ml_Roll_holders=>k_is)
    (case mc_Roll_holders=>k_is)
    (case ma_Roll_turn=>k_is)
    (case mf_Roll_turn=>(first | k_is | kernel_rfl | rfl))
    (case mk_Roll_turn=>k_is)
    (case ml_Roll_turn=>k_is)
    (case mc_Roll_turn=>k_is)
    (case ma_Roll_file=>k_is)
    (case mf_Roll_file=>(first | k_is | kernel_rfl | rfl))
    (case mk_Roll_file=>k_is)
    (case ml_Roll_file=>k_is)
    (case mc_Roll_file=>k_is)
    (case mt_Roll_file=>k_is)
    (case mu_Roll_file=>exact ⟨_,rfl⟩)
    (case ma_Roll_drop=>k_is)
    (case mf_Roll_drop=>(first | k_is | kernel_rfl | rfl))
    (case mk_Roll_drop=>k_is)
    (case ml_Roll_drop=>k_is)
    (case mc_Roll_drop=>k_is)
    (case ma_Roll_move=>k_is)
    (case mf_Roll_move=>(first | k_is | kernel_rfl | rfl))
    (case mk_Roll_move=>k_is)
    (case ml_Roll_move=>k_is)
    (case mc_Roll_move=>k_is)
    (case ma_Roll_look_move=>k_is)
    (case mf_Roll_look_move=>(first | k_is | kernel_rfl | rfl))
    (case mk_Roll_look_move=>k_is)
    (case ml_Roll_look_move=>k_is)
    (case mc_Roll_look_move=>k_is)
    (case ma_Roll_enter=>k_is)
    (case mf_Roll_enter=>(first | k_is | kernel_rfl | rfl))
    (case mk_Roll_enter=>k_is)
    (case ml_Roll_enter=>k_is)
    (case mc_Roll_enter=>k_is)
    (case ma_Roll_look_at_number=>k_is)
    (case mf_Roll_look_at_number=>(first | k_is | kernel_rfl | rfl))
    (case mk_Roll_look_at_number=>k_is)
    (case ml_Roll_look_at_number=>k_is)
    (case mc_Roll_look_at_number=>k_is)
    (case ma_Roll_look_at_holder=>k_is)
    (case mf_Roll_look_at_holder=>(first | k_is | kernel_rfl | rfl))
    (case mk_Roll_look_at_holder=>k_is)
    (case ml_Roll_look_at_holder=>k_is)
    (case mc_Roll_look_at_holder=>k_is)
    (case ma_Roll_look_at_room=>k_is)
    (case mf_Roll_look_at_room=>(first | k_is | kernel_rfl | rfl))
    (case mk_Roll_look_at_room=>k_is)
    (case ml_Roll_look_at_room=>k_is)
    (case mc_Roll_look_at_room=>k_is)
    (case z_len=>k_is)
    (case z_range=>k_is)
    (case z_list=>k_is)
    (case z_isinstance=>k_is)
    (case z_bool=>k_is)
    (case z_int=>k_is)
    (case z_all=>k_is)
    (case z_min=>k_is)
    (case z_max=>k_is)
    (case z_sum=>k_is)
    (case z_sorted=>k_is)
    (case z_zip=>k_is)
    (case z_tuple=>k_is)
    (case z_str=>k_is)
    (case z_any=>k_is)
    (case z_enumerate=>k_is)
    (case z_reversed=>k_is)
    (case z_abs=>k_is)
    (case z_ValueError=>k_is)
    (case z_set=>k_is)
    (case n_SluiceError=>k_is)
    (case q_SluiceError=>(first | k_is | kernel_rfl))
    (case xa_SluiceError=>(first | k_is | kernel_rfl))
    (case xb_SluiceError=>(first | k_is | kernel_rfl))
    (case xc_SluiceError=>(first | k_is | kernel_rfl))
    (case xd_SluiceError=>(first | k_is | kernel_rfl))
    (case xe_SluiceError=>(first | k_is | kernel_rfl))
    (case xf_SluiceError=>(first | k_is | kernel_rfl))
    (case xg_SluiceError=>(first | k_is | kernel_rfl))
    (case xh_SluiceError=>(first | k_is | kernel_rfl))
    (case n_NotYours=>k_is)
    (case q_NotYours=>(first | k_is | kernel_rfl))
    (case xa_NotYours=>(first | k_is | kernel_rfl))
    (case xb_NotYours=>(first | k_is | kernel_rfl))
    (case xc_NotYours=>(first | k_is | kernel_rfl))
    (case xd_NotYours=>(first | k_is | kernel_rfl))
    (case xe_NotYours=>(first | k_is | kernel_rfl))
    (case xf_NotYours=>(first | k_is | kernel_rfl))
    (case xg_NotYours=>(first | k_is | kernel_rfl))
    (case xh_NotYours=>(first | k_is | kernel_rfl))
    (case n_NoLicence=>k_is)
    (case q_NoLicence=>(first | k_is | kernel_rfl))
    (case xa_NoLicence=>(first | k_is | kernel_rfl))
    (case xb_NoLicence=>(first | k_is | kernel_rfl))
    (case xc_NoLicence=>(first | k_is | kernel_rfl))
    (case xd_NoLicence=>(first | k_is | kernel_rfl))
    (case xe_NoLicence=>(first | k_is | kernel_rfl))
    (case xf_NoLicence=>(first | k_is | kernel_rfl))
    (case xg_NoLicence=>(first | k_is | kernel_rfl))
    (case xh_NoLicence=>(first | k_is | kernel_rfl))
    (case n_NoNumber=>k_is)
    (case q_NoNumber=>(first | k_is | kernel_rfl))
    (case xa_NoNumber=>(first | k_is | kernel_rfl))
    (case xb_NoNumber=>(first | k_is | kernel_rfl))
    (case xc_NoNumber=>(first | k_is | kernel_rfl))
    (case xd_NoNumber=>(first | k_is | kernel_rfl))
    (case xe_NoNumber=>(first | k_is | kernel_rfl))
    (case xf_NoNumber=>(first | k_is | kernel_rfl))
    (case xg_NoNumber=>(first | k_is | kernel_rfl))
    (case xh_NoNumber=>(first | k_is | kernel_rfl))
    (case n_NoReach=>k_is)
    (case q_NoReach=>(first | k_is | kernel_rfl))
    (case xa_NoReach=>(first | k_is | kernel_rfl))
    (case xb_NoReach=>(first | k_is | kernel_rfl))
    (case xc_NoReach=>(first | k_is | kernel_rfl))
    (case xd_NoReach=>(first | k_is | kernel_rfl))
    (case xe_NoReach=>(first | k_is | kernel_rfl))
    (case xf_NoReach=>(first | k_is | kernel_rfl))
    (case xg_NoReach=>(first | k_is | kernel_rfl))
    (case xh_NoReach=>(first | k_is | kernel_rfl))
    (case m_NoLicence_SluiceError=>(first | k_is | kernel_rfl))
    (case i_NoLicence_NoNumber=>(first | k_is | kernel_rfl))
    (case i_NoLicence_NoReach=>(first | k_is | kernel_rfl))
    (case i_NoLicence_ValueError=>(first | k_is | kernel_rfl))
    (case i_NoLicence_NoLicence=>(first | k_is | kernel_rfl))
