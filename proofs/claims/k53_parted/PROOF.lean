import PyProof.Rows.All
import Wide.All
import OpenK.AllK
import Wide.FinOn
import Lean
import PyProof.EqAt
import PyProof.EqKinds
import PyProof.TupleCall
import KE.KSortTup
import PySem.Challenge.RW_sluice_k53_parted
set_option Elab.async false
set_option linter.all false
set_option maxRecDepth 100000
set_option maxHeartbeats 4000000
local macro_rules | `(tactic| omega) => `(tactic| first | lia | omega (splitDisjunctions := true))
namespace L2
open PySem
def inClass (s:Stmt) (j:Nat):Stmt:=match s with
  | .ClassDef _ _ _ body _ _ _ _ _ _ _=>body.getD j (.Pass ⟨0,0,0,0⟩)
  | _=>.Pass ⟨0,0,0,0⟩
def au (s:Stmt):Arguments:=match s with
  | .FunctionDef _ a _ _ _ _ _ _ _ _=>a
  | _=>{ posonlyargs:=[],args:=[],vararg:=none,kwonlyargs:=[],kw_defaults:=[],kwarg:=none,defaults:=[] }
def ao (s:Stmt):List Stmt:=match s with
  | .FunctionDef _ _ b _ _ _ _ _ _ _=>b
  | _=>[]
def ak (s:Stmt):Scope:=match s with
  | .FunctionDef _ _ _ _ _ _ sc _ _ _=>sc
  | _=>{ kind:=.function,names:=[],isGenerator:=false,isCoroutine:=false }
end L2
namespace My
open PySem L2
noncomputable def top0 (i:Nat):Stmt:=PySem.Challenge.pw_sluice_k53_parted.main.body.getD i (.Pass ⟨0,0,0,0⟩)
noncomputable def en (P:Params) (x:Str) (t:Tok) (v:Value):DictEntry:=⟨PyData.keyHash P x,.str x t,v⟩
noncomputable section
def tq (a:Array Value):Obj:={ cls:=.type "tuple",data:=.seq a }
def fc (a:Array Value):Obj:={ cls:=.type "code",data:=.fields a }
def cp (n:Nat):Value:=.str "/claim/cut.py" n
def pr0 (x:Str) (i:Nat):Obj:={ cls:=.none,data:=.func { name:=x,qualname:=x,params:=au (top0 i),body:=.stmts (ao (top0 i)),scope:=ak (top0 i),globals:=0,closure:=[],defaults:=.none,kwdefaults:=.none } }
def Qv (P:Params):Obj:={ cls:=.type "dict",data:=Data.dict #[en P "__name__" 1 (.str "builtins" 160),en P "__doc__" 2 (.builtin "builtins.__doc__:str#opaque"),en P "__package__" 3 (.builtin "builtins.__package__:str#opaque"),en P "__loader__" 4 (.builtin "builtins.__loader__:shared#opaque"),en P "__spec__" 5 (.builtin "builtins.__spec__#opaque"),en P "__build_class__" 6 (.builtin "__build_class__"),en P "__import__" 7 (.builtin "__import__"),en P "abs" 8 (.builtin "abs"),en P "all" 9 (.builtin "all"),en P "any" 10 (.builtin "any"),en P "ascii" 11 (.builtin "ascii"),en P "bin" 12 (.builtin "bin"),en P "breakpoint" 13 (.builtin "breakpoint"),en P "callable" 14 (.builtin "callable"),en P "chr" 15 (.builtin "chr"),en P "compile" 16 (.builtin "compile"),en P "delattr" 17 (.builtin "delattr"),en P "dir" 18 (.builtin "dir"),en P "divmod" 19 (.builtin "divmod"),en P "eval" 20 (.builtin "eval"),en P "exec" 21 (.builtin "exec"),en P "format" 22 (.builtin "format"),en P "getattr" 23 (.builtin "getattr"),en P "globals" 24 (.builtin "globals"),en P "hasattr" 25 (.builtin "hasattr"),en P "hash" 26 (.builtin "hash"),en P "hex" 27 (.builtin "hex"),en P "id" 28 (.builtin "id"),en P "input" 29 (.builtin "input"),en P "isinstance" 30 (.builtin "isinstance"),en P "issubclass" 31 (.builtin "issubclass"),en P "iter" 32 (.builtin "iter"),en P "aiter" 33 (.builtin "aiter"),en P "len" 34 (.builtin "len"),en P "locals" 35 (.builtin "locals"),en P "max" 36 (.builtin "max"),en P "min" 37 (.builtin "min"),en P "next" 38 (.builtin "next"),en P "anext" 39 (.builtin "anext"),en P "oct" 40 (.builtin "oct"),en P "ord" 41 (.builtin "ord"),en P "pow" 42 (.builtin "pow"),en P "print" 43 (.builtin "print"),en P "repr" 44 (.builtin "repr"),en P "round" 45 (.builtin "round"),en P "setattr" 46 (.builtin "setattr"),en P "sorted" 47 (.builtin "sorted"),en P "sum" 48 (.builtin "sum"),en P "vars" 49 (.builtin "vars"),en P "None" 50 .none,en P "Ellipsis" 51 .ellipsis,en P "NotImplemented" 52 .notImplemented,en P "False" 53 (.bool false),en P "True" 54 (.bool true),en P "bool" 55 (.type "bool"),en P "memoryview" 56 (.type "memoryview"),en P "bytearray" 57 (.type "bytearray"),en P "bytes" 58 (.type "bytes"),en P "classmethod" 59 (.type "classmethod"),en P "complex" 60 (.type "complex"),en P "dict" 61 (.type "dict"),en P "enumerate" 62 (.type "enumerate"),en P "filter" 63 (.type "filter"),en P "float" 64 (.type "float"),en P "frozenset" 65 (.type "frozenset"),en P "property" 66 (.type "property"),en P "int" 67 (.type "int"),en P "list" 68 (.type "list"),en P "map" 69 (.type "map"),en P "object" 70 (.type "object"),en P "range" 71 (.type "range"),en P "reversed" 72 (.type "reversed"),en P "set" 73 (.type "set"),en P "slice" 74 (.type "slice"),en P "staticmethod" 75 (.type "staticmethod"),en P "str" 76 (.type "str"),en P "super" 77 (.type "super"),en P "tuple" 78 (.type "tuple"),en P "type" 79 (.type "type"),en P "zip" 80 (.type "zip"),en P "__debug__" 81 (.bool true),en P "BaseException" 82 (.type "BaseException"),en P "BaseExceptionGroup" 83 (.type "BaseExceptionGroup"),en P "Exception" 84 (.type "Exception"),en P "GeneratorExit" 85 (.type "GeneratorExit"),en P "KeyboardInterrupt" 86 (.type "KeyboardInterrupt"),en P "SystemExit" 87 (.type "SystemExit"),en P "ArithmeticError" 88 (.type "ArithmeticError"),en P "AssertionError" 89 (.type "AssertionError"),en P "AttributeError" 90 (.type "AttributeError"),en P "BufferError" 91 (.type "BufferError"),en P "EOFError" 92 (.type "EOFError"),en P "ImportError" 93 (.type "ImportError"),en P "LookupError" 94 (.type "LookupError"),en P "MemoryError" 95 (.type "MemoryError"),en P "NameError" 96 (.type "NameError"),en P "OSError" 97 (.type "OSError"),en P "ReferenceError" 98 (.type "ReferenceError"),en P "RuntimeError" 99 (.type "RuntimeError"),en P "StopAsyncIteration" 100 (.type "StopAsyncIteration"),en P "StopIteration" 101 (.type "StopIteration"),en P "SyntaxError" 102 (.type "SyntaxError"),en P "SystemError" 103 (.type "SystemError"),en P "TypeError" 104 (.type "TypeError"),en P "ValueError" 105 (.type "ValueError"),en P "Warning" 106 (.type "Warning"),en P "FloatingPointError" 107 (.type "FloatingPointError"),en P "OverflowError" 108 (.type "OverflowError"),en P "ZeroDivisionError" 109 (.type "ZeroDivisionError"),en P "BytesWarning" 110 (.type "BytesWarning"),en P "DeprecationWarning" 111 (.type "DeprecationWarning"),en P "EncodingWarning" 112 (.type "EncodingWarning"),en P "FutureWarning" 113 (.type "FutureWarning"),en P "ImportWarning" 114 (.type "ImportWarning"),en P "PendingDeprecationWarning" 115 (.type "PendingDeprecationWarning"),en P "ResourceWarning" 116 (.type "ResourceWarning"),en P "RuntimeWarning" 117 (.type "RuntimeWarning"),en P "SyntaxWarning" 118 (.type "SyntaxWarning"),en P "UnicodeWarning" 119 (.type "UnicodeWarning"),en P "UserWarning" 120 (.type "UserWarning"),en P "BlockingIOError" 121 (.type "BlockingIOError"),en P "ChildProcessError" 122 (.type "ChildProcessError"),en P "ConnectionError" 123 (.type "ConnectionError"),en P "FileExistsError" 124 (.type "FileExistsError"),en P "FileNotFoundError" 125 (.type "FileNotFoundError"),en P "InterruptedError" 126 (.type "InterruptedError"),en P "IsADirectoryError" 127 (.type "IsADirectoryError"),en P "NotADirectoryError" 128 (.type "NotADirectoryError"),en P "PermissionError" 129 (.type "PermissionError"),en P "ProcessLookupError" 130 (.type "ProcessLookupError"),en P "TimeoutError" 131 (.type "TimeoutError"),en P "IndentationError" 132 (.type "IndentationError"),en P "_IncompleteInputError" 133 (.type "_IncompleteInputError"),en P "IndexError" 134 (.type "IndexError"),en P "KeyError" 135 (.type "KeyError"),en P "ModuleNotFoundError" 136 (.type "ModuleNotFoundError"),en P "NotImplementedError" 137 (.type "NotImplementedError"),en P "PythonFinalizationError" 138 (.type "PythonFinalizationError"),en P "RecursionError" 139 (.type "RecursionError"),en P "UnboundLocalError" 140 (.type "UnboundLocalError"),en P "UnicodeError" 141 (.type "UnicodeError"),en P "BrokenPipeError" 142 (.type "BrokenPipeError"),en P "ConnectionAbortedError" 143 (.type "ConnectionAbortedError"),en P "ConnectionRefusedError" 144 (.type "ConnectionRefusedError"),en P "ConnectionResetError" 145 (.type "ConnectionResetError"),en P "TabError" 146 (.type "TabError"),en P "UnicodeDecodeError" 147 (.type "UnicodeDecodeError"),en P "UnicodeEncodeError" 148 (.type "UnicodeEncodeError"),en P "UnicodeTranslateError" 149 (.type "UnicodeTranslateError"),en P "ExceptionGroup" 150 (.type "ExceptionGroup"),en P "EnvironmentError" 151 (.type "OSError"),en P "IOError" 152 (.type "OSError"),en P "open" 153 (.builtin "open"),en P "quit" 154 (.builtin "builtins.quit#opaque"),en P "exit" 155 (.builtin "builtins.exit#opaque"),en P "copyright" 156 (.builtin "builtins.copyright#opaque"),en P "credits" 157 (.builtin "builtins.credits#opaque"),en P "license" 158 (.builtin "builtins.license#opaque"),en P "help" 159 (.builtin "builtins.help#opaque")] 159 }
def Qu (P:Params):Obj:={ cls:=.type "dict",data:=Data.dict #[en P "builtins" 162 (.ref 4),en P "__main__" 163 (.ref 5)] 2 }
def Pn (P:Params):Obj:={ cls:=.none,data:=Data.dict #[] }
def ho_4 (P:Params):Obj:={ cls:=.type "dict",data:=Data.dict #[en P "__name__" 165 (.str "__main__" 164),en P "__doc__" 166 .none,en P "__package__" 167 .none,en P "__loader__" 168 (.builtin "__main__.__loader__#opaque"),en P "__spec__" 169 .none,en P "__annotations__" 170 (.ref 6),en P "__builtins__" 171 (.ref 4),en P "__file__" 173 (cp 172),en P "__cached__" 174 .none] 9 }
def Qt (P:Params):Obj:={ cls:=.type "module",dict:=some 0 }
def Qs (P:Params):Obj:={ cls:=.type "module",dict:=some 3 }
def Qq (P:Params):Obj:={ cls:=.type "dict",data:=Data.dict #[] }
def Qp (P:Params):Obj:=(tq #[])
def Qo (P:Params):Obj:={ cls:=.none,data:=Data.fields #[] }
def Mi (P:Params):Obj:=(fc #[.str "<module>" 176,.str "<module>" 177,cp 178,.int 1 0,.int 0 0,.int 0 0,.int 0 0,.int 0 0,.ref 7,.bool false,.int 175 0,.ref 8,.none,.none,.none,.none,.int 179 0,.int 1 0,cp 180])
def LC (P:Params):Obj:={ cls:=.type "frame",slots:=#[some (.ref 9),some (.ref 3),some (.ref 3),none,some (.str "__main__" 164),none,some (.ref 0)] }
def Lf (P:Params):Obj:={ cls:=.type "dict",data:=Data.dict #[en P "__name__" 165 (.str "law_sluice_k53_parted" 620),en P "__doc__" 166 .none,en P "__package__" 167 .none,en P "__loader__" 168 (.builtin "__main__.__loader__#opaque"),en P "__spec__" 169 .none,en P "__annotations__" 170 (.ref 6),en P "__builtins__" 171 (.ref 4),en P "__file__" 173 (cp 172),en P "__cached__" 174 .none,en P "_wall" 193 (.ref 21),en P "MOST_WATER" 197 (.int 1000000000000 196),en P "LONGEST_NAME" 199 (.int 8 198),en P "LETTERS" 201 (.str "abcdefghijklmnopqrstuvwxyz" 200),en P "is_water" 208 (.ref 28),en P "is_name" 214 (.ref 33),en P "SluiceError" 234 (.ref 43),en P "NoRiver" 250 (.ref 56),en P "NoLicence" 266 (.ref 68),en P "NoNumber" 282 (.ref 80),en P "NoHolder" 298 (.ref 92),en P "NotYours" 314 (.ref 104),en P "NotAlone" 330 (.ref 116),en P "TooMuch" 346 (.ref 128),en P "Full" 362 (.ref 140),en P "MOST_REACHES" 366 (.int 40 365),en P "MOUTH" 369 (.int (-1) 368),en P "comes_to_mouth" 379 (.ref 149),en P "is_river" 385 (.ref 154),en P "way_of" 394 (.ref 161),en P "LAST_DAY" 398 (.int 1000000 397),en P "is_licence" 410 (.ref 168),en P "day_filed" 417 (.ref 175),en P "most_of" 424 (.ref 182),en P "with_most" 432 (.ref 189),en P "MOST_LICENCES" 436 (.int 60 435),en P "look_at_name" 443 (.ref 196),en P "Roll" 619 (.ref 329),en P "_law_cell_at" 629 (.ref 340),en P "_law_whole" 636 (.ref 347),en P "_law_draw" 645 (.ref 354),en P "_law_draws" 651 (.ref 359),en P "_law_alike_lines" 657 (.ref 364),en P "_law_right" 666 (.ref 371),en P "_law_not_alone" 679 (.ref 378),en P "_law_file" 695 (.ref 385),en P "_law_part" 701 (.ref 390),en P "law" 707 (.ref 395)] 47 }
def PJ (P:Params):Obj:=(tq #[])
def PB (P:Params):Obj:={ cls:=.none,data:=Data.fields #[.int 1 0,.int 0 0,.ref 20,.int 8 0,.int 0 0,.ref 27,.int 10 0,.int 0 0,.ref 32,.int 13 0,.int 0 0,.ref 39,.int 15 0,.int 0 0,.ref 52,.int 17 0,.int 0 0,.ref 64,.int 19 0,.int 0 0,.ref 76,.int 21 0,.int 0 0,.ref 88,.int 23 0,.int 0 0,.ref 100,.int 25 0,.int 0 0,.ref 112,.int 27 0,.int 0 0,.ref 124,.int 29 0,.int 0 0,.ref 136,.int 34 0,.int 0 0,.ref 148,.int 41 0,.int 0 0,.ref 153,.int 47 0,.int 0 0,.ref 160,.int 54 0,.int 0 0,.ref 167,.int 59 0,.int 0 0,.ref 174,.int 61 0,.int 0 0,.ref 181,.int 63 0,.int 0 0,.ref 188,.int 67 0,.int 0 0,.ref 195,.int 70 0,.int 0 0,.ref 202,.int 174 0,.int 0 0,.ref 339,.int 178 0,.int 0 0,.ref 346,.int 180 0,.int 0 0,.ref 353,.int 183 0,.int 0 0,.ref 358,.int 185 0,.int 0 0,.ref 363,.int 194 0,.int 0 0,.ref 370,.int 196 0,.int 0 0,.ref 377,.int 203 0,.int 0 0,.ref 384,.int 217 0,.int 0 0,.ref 389,.int 244 0,.int 0 0,.ref 394] }
def Pz (P:Params):Obj:=(fc #[.str "<module>" 182,.str "<module>" 183,cp 184,.int 1 0,.int 0 0,.int 0 0,.int 0 0,.int 0 0,.ref 11,.bool false,.int 181 0,.ref 12,.none,.none,.none,.none,.int 185 0,.int 1 0,cp 186])
def Py (P:Params):Obj:={ cls:=.type "frame",slots:=#[some (.ref 13),some (.ref 3),some (.ref 3),none,some (.str "__main__" 164),none,some (.ref 0)] }
def KC (P:Params):Obj:=(tq #[])
def Px (P:Params):Obj:={ cls:=.none,data:=Data.fields #[] }
def Kr (P:Params):Obj:=(tq #[.str "k" 190])
def Kd (P:Params):Obj:=(tq #[])
def Pu (P:Params):Obj:=(pr0 "_wall" 0)
def J5 (P:Params):Obj:=(fc #[.str "_wall" 187,.str "_wall" 188,cp 189,.int 1 0,.int 1 0,.int 0 0,.int 0 0,.int 3 0,.ref 15,.bool true,.int 181 0,.ref 16,.none,.ref 17,.ref 18,.ref 19,.int 191 0,.int 1 0,cp 192])
def J1 (P:Params):Obj:=⟨.type "function",none,.func (PySem.W.fnOf "_wall" "_wall" (au (top0 0)) (ao (top0 0)) (ak (top0 0)) .none .none .none (.str "__main__" 164) none (.ref 20) .none),#[]⟩
def JX (P:Params):Obj:=(tq #[])
def Pr (P:Params):Obj:={ cls:=.none,data:=Data.fields #[] }
def JM (P:Params):Obj:=(tq #[.str "amount" 205])
def JG (P:Params):Obj:=(tq #[])
def Pq (P:Params):Obj:=(pr0 "is_water" 5)
def Jx (P:Params):Obj:=(fc #[.str "is_water" 202,.str "is_water" 203,cp 204,.int 8 0,.int 1 0,.int 0 0,.int 0 0,.int 3 0,.ref 22,.bool true,.int 181 0,.ref 23,.none,.ref 24,.ref 25,.ref 26,.int 206 0,.int 8 0,cp 207])
def Jt (P:Params):Obj:=⟨.type "function",none,.func (PySem.W.fnOf "is_water" "is_water" (au (top0 5)) (ao (top0 5)) (ak (top0 5)) .none .none .none (.str "sluice.bounds" 194) none (.ref 27) .none),#[]⟩
def Jp (P:Params):Obj:=(tq #[])
def Pk (P:Params):Obj:={ cls:=.none,data:=Data.fields #[] }
def Pj (P:Params):Obj:=(pr0 "is_name" 6)
def Je (P:Params):Obj:=(fc #[.str "is_name" 209,.str "is_name" 210,cp 211,.int 10 0,.int 1 0,.int 0 0,.int 0 0,.int 3 0,.ref 29,.bool true,.int 181 0,.ref 30,.none,.none,.none,.ref 31,.int 212 0,.int 10 0,cp 213])
def Ja (P:Params):Obj:=⟨.type "function",none,.func (PySem.W.fnOf "is_name" "is_name" (au (top0 6)) (ao (top0 6)) (ak (top0 6)) .none .none .none (.str "sluice.bounds" 194) none (.ref 32) .none),#[]⟩
def Iw (P:Params):Obj:=(tq #[.type "ValueError"])
def Ph (P:Params):Obj:={ cls:=.type "builtin_function_or_method",data:=Data.fields #[.builtin "type.__prepare__",.type "type"] }
def Pg (P:Params):Obj:={ cls:=.type "dict",data:=Data.dict #[en P "__module__" 224 (.str "sluice.errors" 215),en P "__qualname__" 226 (.str "SluiceError" 225),en P "__firstlineno__" 228 (.int 13 227),en P "__static_attributes__" 229 (.ref 41)] 4 }
def Pb (P:Params):Obj:=(tq #[])
def Pa (P:Params):Obj:={ cls:=.none,data:=Data.fields #[] }
def O9 (P:Params):Obj:=(fc #[.str "SluiceError" 219,.str "SluiceError" 220,cp 221,.int 13 0,.int 0 0,.int 0 0,.int 0 0,.int 0 0,.ref 37,.bool false,.int 181 0,.ref 38,.none,.none,.none,.none,.int 222 0,.int 13 0,cp 223])
def O8 (P:Params):Obj:={ cls:=.type "frame",slots:=#[some (.ref 39),some (.ref 3),some (.ref 36),none,some (.str "sluice.errors" 215),none,some (.ref 0)] }
def Ih (P:Params):Obj:=(tq #[])
def Ig (P:Params):Obj:={ cls:=.type "dict",data:=Data.dict #[en P "__module__" 224 (.str "sluice.errors" 215),en P "__firstlineno__" 228 (.int 13 227),en P "__static_attributes__" 229 (.ref 41),en P "__weakref__" 231 (.ref 44),en P "__doc__" 232 .none] 3 }
def Ie (P:Params):Obj:={ cls:=.type "type",data:=Data.cls { name:="SluiceError",bases:=[.type "ValueError"],mro:=[.ref 43,.type "ValueError",.type "Exception",.type "BaseException",.type "object"],ns:=42,qualname:="SluiceError",subclasses:=[.ref 56,.ref 68,.ref 80,.ref 92,.ref 104,.ref 116,.ref 128,.ref 140] },slots:=#[some (.ref 34),none,some (.str "SluiceError" 217),some (.str "SluiceError" 225),some (.builtin "ValueError.__new__"),some (.bool true)] }
def Ib (P:Params):Obj:={ cls:=.type "getset_descriptor",data:=Data.fields #[.str "__weakref__" 230,.ref 43,.builtin "ExceptionGroup.__weakref__",.none] }
def O7 (P:Params):Obj:={ cls:=.type "super",data:=Data.fields #[.ref 43,.ref 43,.ref 43] }
def O6 (P:Params):Obj:={ cls:=.type "builtin_function_or_method",data:=Data.fields #[.builtin "object.__init_subclass__",.ref 43] }
def Ia (P:Params):Obj:=(tq #[.ref 43])
def O4 (P:Params):Obj:={ cls:=.type "builtin_function_or_method",data:=Data.fields #[.builtin "type.__prepare__",.type "type"] }
def O1 (P:Params):Obj:={ cls:=.type "dict",data:=Data.dict #[en P "__module__" 242 (.str "sluice.errors" 215),en P "__qualname__" 244 (.str "NoRiver" 243),en P "__firstlineno__" 246 (.int 15 245),en P "__static_attributes__" 247 (.ref 54)] 4 }
def OJ (P:Params):Obj:=(tq #[])
def OD (P:Params):Obj:={ cls:=.none,data:=Data.fields #[] }
def Oz (P:Params):Obj:=(fc #[.str "NoRiver" 237,.str "NoRiver" 238,cp 239,.int 15 0,.int 0 0,.int 0 0,.int 0 0,.int 0 0,.ref 50,.bool false,.int 181 0,.ref 51,.none,.none,.none,.none,.int 240 0,.int 15 0,cp 241])
def Ox (P:Params):Obj:={ cls:=.type "frame",slots:=#[some (.ref 52),some (.ref 3),some (.ref 49),none,some (.str "sluice.errors" 215),none,some (.ref 0)] }
def HY (P:Params):Obj:=(tq #[])
def HX (P:Params):Obj:={ cls:=.type "dict",data:=Data.dict #[en P "__module__" 242 (.str "sluice.errors" 215),en P "__firstlineno__" 246 (.int 15 245),en P "__static_attributes__" 247 (.ref 54),en P "__doc__" 248 .none] 2 }
def HW (P:Params):Obj:={ cls:=.type "type",data:=Data.cls { name:="NoRiver",bases:=[.ref 43],mro:=[.ref 56,.ref 43,.type "ValueError",.type "Exception",.type "BaseException",.type "object"],ns:=55,qualname:="NoRiver" },slots:=#[some (.ref 47),none,some (.str "NoRiver" 235),some (.str "NoRiver" 243),some (.builtin "ValueError.__new__"),some (.bool true)] }
def Ov (P:Params):Obj:={ cls:=.type "super",data:=Data.fields #[.ref 56,.ref 56,.ref 56] }
def Ou (P:Params):Obj:={ cls:=.type "builtin_function_or_method",data:=Data.fields #[.builtin "object.__init_subclass__",.ref 56] }
def HS (P:Params):Obj:=(tq #[.ref 43])
def Ot (P:Params):Obj:={ cls:=.type "builtin_function_or_method",data:=Data.fields #[.builtin "type.__prepare__",.type "type"] }
def Oq (P:Params):Obj:={ cls:=.type "dict",data:=Data.dict #[en P "__module__" 258 (.str "sluice.errors" 215),en P "__qualname__" 260 (.str "NoLicence" 259),en P "__firstlineno__" 262 (.int 17 261),en P "__static_attributes__" 263 (.ref 66)] 4 }
def Oo (P:Params):Obj:=(tq #[])
def Om (P:Params):Obj:={ cls:=.none,data:=Data.fields #[] }
def Ol (P:Params):Obj:=(fc #[.str "NoLicence" 253,.str "NoLicence" 254,cp 255,.int 17 0,.int 0 0,.int 0 0,.int 0 0,.int 0 0,.ref 62,.bool false,.int 181 0,.ref 63,.none,.none,.none,.none,.int 256 0,.int 17 0,cp 257])
def Oj (P:Params):Obj:={ cls:=.type "frame",slots:=#[some (.ref 64),some (.ref 3),some (.ref 61),none,some (.str "sluice.errors" 215),none,some (.ref 0)] }
def HN (P:Params):Obj:=(tq #[])
def HJ (P:Params):Obj:={ cls:=.type "dict",data:=Data.dict #[en P "__module__" 258 (.str "sluice.errors" 215),en P "__firstlineno__" 262 (.int 17 261),en P "__static_attributes__" 263 (.ref 66),en P "__doc__" 264 .none] 2 }
def HF (P:Params):Obj:={ cls:=.type "type",data:=Data.cls { name:="NoLicence",bases:=[.ref 43],mro:=[.ref 68,.ref 43,.type "ValueError",.type "Exception",.type "BaseException",.type "object"],ns:=67,qualname:="NoLicence" },slots:=#[some (.ref 59),none,some (.str "NoLicence" 251),some (.str "NoLicence" 259),some (.builtin "ValueError.__new__"),some (.bool true)] }
def Oi (P:Params):Obj:={ cls:=.type "super",data:=Data.fields #[.ref 68,.ref 68,.ref 68] }
def Oh (P:Params):Obj:={ cls:=.type "builtin_function_or_method",data:=Data.fields #[.builtin "object.__init_subclass__",.ref 68] }
def HD (P:Params):Obj:=(tq #[.ref 43])
def Og (P:Params):Obj:={ cls:=.type "builtin_function_or_method",data:=Data.fields #[.builtin "type.__prepare__",.type "type"] }
def Oe (P:Params):Obj:={ cls:=.type "dict",data:=Data.dict #[en P "__module__" 274 (.str "sluice.errors" 215),en P "__qualname__" 276 (.str "NoNumber" 275),en P "__firstlineno__" 278 (.int 19 277),en P "__static_attributes__" 279 (.ref 78)] 4 }
def Od (P:Params):Obj:=(tq #[])
def Oc (P:Params):Obj:={ cls:=.none,data:=Data.fields #[] }
def Ob (P:Params):Obj:=(fc #[.str "NoNumber" 269,.str "NoNumber" 270,cp 271,.int 19 0,.int 0 0,.int 0 0,.int 0 0,.int 0 0,.ref 74,.bool false,.int 181 0,.ref 75,.none,.none,.none,.none,.int 272 0,.int 19 0,cp 273])
def Oa (P:Params):Obj:={ cls:=.type "frame",slots:=#[some (.ref 76),some (.ref 3),some (.ref 73),none,some (.str "sluice.errors" 215),none,some (.ref 0)] }
def HB (P:Params):Obj:=(tq #[])
def Hz (P:Params):Obj:={ cls:=.type "dict",data:=Data.dict #[en P "__module__" 274 (.str "sluice.errors" 215),en P "__firstlineno__" 278 (.int 19 277),en P "__static_attributes__" 279 (.ref 78),en P "__doc__" 280 .none] 2 }
def Hy (P:Params):Obj:={ cls:=.type "type",data:=Data.cls { name:="NoNumber",bases:=[.ref 43],mro:=[.ref 80,.ref 43,.type "ValueError",.type "Exception",.type "BaseException",.type "object"],ns:=79,qualname:="NoNumber" },slots:=#[some (.ref 71),none,some (.str "NoNumber" 267),some (.str "NoNumber" 275),some (.builtin "ValueError.__new__"),some (.bool true)] }
def N8 (P:Params):Obj:={ cls:=.type "super",data:=Data.fields #[.ref 80,.ref 80,.ref 80] }
def N7 (P:Params):Obj:={ cls:=.type "builtin_function_or_method",data:=Data.fields #[.builtin "object.__init_subclass__",.ref 80] }
def Hx (P:Params):Obj:=(tq #[.ref 43])
def N6 (P:Params):Obj:={ cls:=.type "builtin_function_or_method",data:=Data.fields #[.builtin "type.__prepare__",.type "type"] }
def N5 (P:Params):Obj:={ cls:=.type "dict",data:=Data.dict #[en P "__module__" 290 (.str "sluice.errors" 215),en P "__qualname__" 292 (.str "NoHolder" 291),en P "__firstlineno__" 294 (.int 21 293),en P "__static_attributes__" 295 (.ref 90)] 4 }
def NZ (P:Params):Obj:=(tq #[])
def NT (P:Params):Obj:={ cls:=.none,data:=Data.fields #[] }
def NQ (P:Params):Obj:=(fc #[.str "NoHolder" 285,.str "NoHolder" 286,cp 287,.int 21 0,.int 0 0,.int 0 0,.int 0 0,.int 0 0,.ref 86,.bool false,.int 181 0,.ref 87,.none,.none,.none,.none,.int 288 0,.int 21 0,cp 289])
def NP (P:Params):Obj:={ cls:=.type "frame",slots:=#[some (.ref 88),some (.ref 3),some (.ref 85),none,some (.str "sluice.errors" 215),none,some (.ref 0)] }
def Hw (P:Params):Obj:=(tq #[])
def Hv (P:Params):Obj:={ cls:=.type "dict",data:=Data.dict #[en P "__module__" 290 (.str "sluice.errors" 215),en P "__firstlineno__" 294 (.int 21 293),en P "__static_attributes__" 295 (.ref 90),en P "__doc__" 296 .none] 2 }
def Hu (P:Params):Obj:={ cls:=.type "type",data:=Data.cls { name:="NoHolder",bases:=[.ref 43],mro:=[.ref 92,.ref 43,.type "ValueError",.type "Exception",.type "BaseException",.type "object"],ns:=91,qualname:="NoHolder" },slots:=#[some (.ref 83),none,some (.str "NoHolder" 283),some (.str "NoHolder" 291),some (.builtin "ValueError.__new__"),some (.bool true)] }
def NK (P:Params):Obj:={ cls:=.type "super",data:=Data.fields #[.ref 92,.ref 92,.ref 92] }
def Nz (P:Params):Obj:={ cls:=.type "builtin_function_or_method",data:=Data.fields #[.builtin "object.__init_subclass__",.ref 92] }
def Ht (P:Params):Obj:=(tq #[.ref 43])
def Ny (P:Params):Obj:={ cls:=.type "builtin_function_or_method",data:=Data.fields #[.builtin "type.__prepare__",.type "type"] }
def Mh (P:Params):Obj:={ cls:=.type "dict",data:=Data.dict #[en P "__module__" 306 (.str "sluice.errors" 215),en P "__qualname__" 308 (.str "NotYours" 307),en P "__firstlineno__" 310 (.int 23 309),en P "__static_attributes__" 311 (.ref 102)] 4 }
def Mg (P:Params):Obj:=(tq #[])
def Mf (P:Params):Obj:={ cls:=.none,data:=Data.fields #[] }
def Ma (P:Params):Obj:=(fc #[.str "NotYours" 301,.str "NotYours" 302,cp 303,.int 23 0,.int 0 0,.int 0 0,.int 0 0,.int 0 0,.ref 98,.bool false,.int 181 0,.ref 99,.none,.none,.none,.none,.int 304 0,.int 23 0,cp 305])
def LR (P:Params):Obj:={ cls:=.type "frame",slots:=#[some (.ref 100),some (.ref 3),some (.ref 97),none,some (.str "sluice.errors" 215),none,some (.ref 0)] }
def Ef (P:Params):Obj:=(tq #[])
def Ed (P:Params):Obj:={ cls:=.type "dict",data:=Data.dict #[en P "__module__" 306 (.str "sluice.errors" 215),en P "__firstlineno__" 310 (.int 23 309),en P "__static_attributes__" 311 (.ref 102),en P "__doc__" 312 .none] 2 }
def Ec (P:Params):Obj:={ cls:=.type "type",data:=Data.cls { name:="NotYours",bases:=[.ref 43],mro:=[.ref 104,.ref 43,.type "ValueError",.type "Exception",.type "BaseException",.type "object"],ns:=103,qualname:="NotYours" },slots:=#[some (.ref 95),none,some (.str "NotYours" 299),some (.str "NotYours" 307),some (.builtin "ValueError.__new__"),some (.bool true)] }
def LQ (P:Params):Obj:={ cls:=.type "super",data:=Data.fields #[.ref 104,.ref 104,.ref 104] }
def LK (P:Params):Obj:={ cls:=.type "builtin_function_or_method",data:=Data.fields #[.builtin "object.__init_subclass__",.ref 104] }
def Eb (P:Params):Obj:=(tq #[.ref 43])
def Lz (P:Params):Obj:={ cls:=.type "builtin_function_or_method",data:=Data.fields #[.builtin "type.__prepare__",.type "type"] }
def Ly (P:Params):Obj:={ cls:=.type "dict",data:=Data.dict #[en P "__module__" 322 (.str "sluice.errors" 215),en P "__qualname__" 324 (.str "NotAlone" 323),en P "__firstlineno__" 326 (.int 25 325),en P "__static_attributes__" 327 (.ref 114)] 4 }
def Lx (P:Params):Obj:=(tq #[])
def Lw (P:Params):Obj:={ cls:=.none,data:=Data.fields #[] }
def Ls (P:Params):Obj:=(fc #[.str "NotAlone" 317,.str "NotAlone" 318,cp 319,.int 25 0,.int 0 0,.int 0 0,.int 0 0,.int 0 0,.ref 110,.bool false,.int 181 0,.ref 111,.none,.none,.none,.none,.int 320 0,.int 25 0,cp 321])
def Lr (P:Params):Obj:={ cls:=.type "frame",slots:=#[some (.ref 112),some (.ref 3),some (.ref 109),none,some (.str "sluice.errors" 215),none,some (.ref 0)] }
def Ea (P:Params):Obj:=(tq #[])
def DY (P:Params):Obj:={ cls:=.type "dict",data:=Data.dict #[en P "__module__" 322 (.str "sluice.errors" 215),en P "__firstlineno__" 326 (.int 25 325),en P "__static_attributes__" 327 (.ref 114),en P "__doc__" 328 .none] 2 }
def DX (P:Params):Obj:={ cls:=.type "type",data:=Data.cls { name:="NotAlone",bases:=[.ref 43],mro:=[.ref 116,.ref 43,.type "ValueError",.type "Exception",.type "BaseException",.type "object"],ns:=115,qualname:="NotAlone" },slots:=#[some (.ref 107),none,some (.str "NotAlone" 315),some (.str "NotAlone" 323),some (.builtin "ValueError.__new__"),some (.bool true)] }
def Lq (P:Params):Obj:={ cls:=.type "super",data:=Data.fields #[.ref 116,.ref 116,.ref 116] }
def Lp (P:Params):Obj:={ cls:=.type "builtin_function_or_method",data:=Data.fields #[.builtin "object.__init_subclass__",.ref 116] }
def DW (P:Params):Obj:=(tq #[.ref 43])
def Ln (P:Params):Obj:={ cls:=.type "builtin_function_or_method",data:=Data.fields #[.builtin "type.__prepare__",.type "type"] }
def Lk (P:Params):Obj:={ cls:=.type "dict",data:=Data.dict #[en P "__module__" 338 (.str "sluice.errors" 215),en P "__qualname__" 340 (.str "TooMuch" 339),en P "__firstlineno__" 342 (.int 27 341),en P "__static_attributes__" 343 (.ref 126)] 4 }
def Lj (P:Params):Obj:=(tq #[])
def Li (P:Params):Obj:={ cls:=.none,data:=Data.fields #[] }
def Lh (P:Params):Obj:=(fc #[.str "TooMuch" 333,.str "TooMuch" 334,cp 335,.int 27 0,.int 0 0,.int 0 0,.int 0 0,.int 0 0,.ref 122,.bool false,.int 181 0,.ref 123,.none,.none,.none,.none,.int 336 0,.int 27 0,cp 337])
def Lg (P:Params):Obj:={ cls:=.type "frame",slots:=#[some (.ref 124),some (.ref 3),some (.ref 121),none,some (.str "sluice.errors" 215),none,some (.ref 0)] }
def DR (P:Params):Obj:=(tq #[])
def DQ (P:Params):Obj:={ cls:=.type "dict",data:=Data.dict #[en P "__module__" 338 (.str "sluice.errors" 215),en P "__firstlineno__" 342 (.int 27 341),en P "__static_attributes__" 343 (.ref 126),en P "__doc__" 344 .none] 2 }
def DP (P:Params):Obj:={ cls:=.type "type",data:=Data.cls { name:="TooMuch",bases:=[.ref 43],mro:=[.ref 128,.ref 43,.type "ValueError",.type "Exception",.type "BaseException",.type "object"],ns:=127,qualname:="TooMuch" },slots:=#[some (.ref 119),none,some (.str "TooMuch" 331),some (.str "TooMuch" 339),some (.builtin "ValueError.__new__"),some (.bool true)] }
def Le (P:Params):Obj:={ cls:=.type "super",data:=Data.fields #[.ref 128,.ref 128,.ref 128] }
def Ld (P:Params):Obj:={ cls:=.type "builtin_function_or_method",data:=Data.fields #[.builtin "object.__init_subclass__",.ref 128] }
def DN (P:Params):Obj:=(tq #[.ref 43])
def Lb (P:Params):Obj:={ cls:=.type "builtin_function_or_method",data:=Data.fields #[.builtin "type.__prepare__",.type "type"] }
def La (P:Params):Obj:={ cls:=.type "dict",data:=Data.dict #[en P "__module__" 354 (.str "sluice.errors" 215),en P "__qualname__" 356 (.str "Full" 355),en P "__firstlineno__" 358 (.int 29 357),en P "__static_attributes__" 359 (.ref 138)] 4 }
def K9 (P:Params):Obj:=(tq #[])
def K8 (P:Params):Obj:={ cls:=.none,data:=Data.fields #[] }
def K7 (P:Params):Obj:=(fc #[.str "Full" 349,.str "Full" 350,cp 351,.int 29 0,.int 0 0,.int 0 0,.int 0 0,.int 0 0,.ref 134,.bool false,.int 181 0,.ref 135,.none,.none,.none,.none,.int 352 0,.int 29 0,cp 353])
def K6 (P:Params):Obj:={ cls:=.type "frame",slots:=#[some (.ref 136),some (.ref 3),some (.ref 133),none,some (.str "sluice.errors" 215),none,some (.ref 0)] }
def DK (P:Params):Obj:=(tq #[])
def DG (P:Params):Obj:={ cls:=.type "dict",data:=Data.dict #[en P "__module__" 354 (.str "sluice.errors" 215),en P "__firstlineno__" 358 (.int 29 357),en P "__static_attributes__" 359 (.ref 138),en P "__doc__" 360 .none] 2 }
def Dz (P:Params):Obj:={ cls:=.type "type",data:=Data.cls { name:="Full",bases:=[.ref 43],mro:=[.ref 140,.ref 43,.type "ValueError",.type "Exception",.type "BaseException",.type "object"],ns:=139,qualname:="Full" },slots:=#[some (.ref 131),none,some (.str "Full" 347),some (.str "Full" 355),some (.builtin "ValueError.__new__"),some (.bool true)] }
def K5 (P:Params):Obj:={ cls:=.type "super",data:=Data.fields #[.ref 140,.ref 140,.ref 140] }
def K4 (P:Params):Obj:={ cls:=.type "builtin_function_or_method",data:=Data.fields #[.builtin "object.__init_subclass__",.ref 140] }
def Dy (P:Params):Obj:=(tq #[])
def K3 (P:Params):Obj:={ cls:=.none,data:=Data.fields #[] }
def Dw (P:Params):Obj:=(tq #[.str "below" 373,.str "start" 374,.str "reach" 375,.str "step" 376])
def Dv (P:Params):Obj:=(tq #[])
def K1 (P:Params):Obj:=(pr0 "comes_to_mouth" 20)
def Du (P:Params):Obj:=(fc #[.str "comes_to_mouth" 370,.str "comes_to_mouth" 371,cp 372,.int 34 0,.int 2 0,.int 0 0,.int 0 0,.int 3 0,.ref 143,.bool true,.int 181 0,.ref 144,.none,.ref 145,.ref 146,.ref 147,.int 377 0,.int 34 0,cp 378])
def Dt (P:Params):Obj:=⟨.type "function",none,.func (PySem.W.fnOf "comes_to_mouth" "comes_to_mouth" (au (top0 20)) (ao (top0 20)) (ak (top0 20)) .none .none .none (.str "sluice.rivers" 363) none (.ref 148) .none),#[]⟩
def Ds (P:Params):Obj:=(tq #[])
def KZ (P:Params):Obj:={ cls:=.none,data:=Data.fields #[] }
def KY (P:Params):Obj:=(pr0 "is_river" 21)
def Dr (P:Params):Obj:=(fc #[.str "is_river" 380,.str "is_river" 381,cp 382,.int 41 0,.int 1 0,.int 0 0,.int 0 0,.int 3 0,.ref 150,.bool true,.int 181 0,.ref 151,.none,.none,.none,.ref 152,.int 383 0,.int 41 0,cp 384])
def Dq (P:Params):Obj:=⟨.type "function",none,.func (PySem.W.fnOf "is_river" "is_river" (au (top0 21)) (ao (top0 21)) (ak (top0 21)) .none .none .none (.str "sluice.rivers" 363) none (.ref 153) .none),#[]⟩
def Dp (P:Params):Obj:=(tq #[])
def KR (P:Params):Obj:={ cls:=.none,data:=Data.fields #[] }
def Dn (P:Params):Obj:=(tq #[.str "below" 389,.str "reach" 390,.str "way" 391])
def Dl (P:Params):Obj:=(tq #[])
def KQ (P:Params):Obj:=(pr0 "way_of" 22)
def Dk (P:Params):Obj:=(fc #[.str "way_of" 386,.str "way_of" 387,cp 388,.int 47 0,.int 2 0,.int 0 0,.int 0 0,.int 3 0,.ref 155,.bool true,.int 181 0,.ref 156,.none,.ref 157,.ref 158,.ref 159,.int 392 0,.int 47 0,cp 393])
def Dj (P:Params):Obj:=⟨.type "function",none,.func (PySem.W.fnOf "way_of" "way_of" (au (top0 22)) (ao (top0 22)) (ak (top0 22)) .none .none .none (.str "sluice.rivers" 363) none (.ref 160) .none),#[]⟩
def Di (P:Params):Obj:=(tq #[])
def KN (P:Params):Obj:={ cls:=.none,data:=Data.fields #[] }
def Dh (P:Params):Obj:=(tq #[.str "below" 402,.str "one" 403,.str "day" 404,.str "start" 405,.str "back" 406,.str "most" 407])
def Dg (P:Params):Obj:=(tq #[])
def KJ (P:Params):Obj:=(pr0 "is_licence" 25)
def Dd (P:Params):Obj:=(fc #[.str "is_licence" 399,.str "is_licence" 400,cp 401,.int 54 0,.int 2 0,.int 0 0,.int 0 0,.int 3 0,.ref 162,.bool true,.int 181 0,.ref 163,.none,.ref 164,.ref 165,.ref 166,.int 408 0,.int 54 0,cp 409])
def Dc (P:Params):Obj:=⟨.type "function",none,.func (PySem.W.fnOf "is_licence" "is_licence" (au (top0 25)) (ao (top0 25)) (ak (top0 25)) .none .none .none (.str "sluice.licences" 395) none (.ref 167) .none),#[]⟩
def CZ (P:Params):Obj:=(tq #[])
def KH (P:Params):Obj:={ cls:=.none,data:=Data.fields #[] }
def CV (P:Params):Obj:=(tq #[.str "one" 414])
def CT (P:Params):Obj:=(tq #[])
def KD (P:Params):Obj:=(pr0 "day_filed" 26)
def CQ (P:Params):Obj:=(fc #[.str "day_filed" 411,.str "day_filed" 412,cp 413,.int 59 0,.int 1 0,.int 0 0,.int 0 0,.int 3 0,.ref 169,.bool true,.int 181 0,.ref 170,.none,.ref 171,.ref 172,.ref 173,.int 415 0,.int 59 0,cp 416])
def CP (P:Params):Obj:=⟨.type "function",none,.func (PySem.W.fnOf "day_filed" "day_filed" (au (top0 26)) (ao (top0 26)) (ak (top0 26)) .none .none .none (.str "sluice.licences" 395) none (.ref 174) .none),#[]⟩
def CK (P:Params):Obj:=(tq #[])
def Kz (P:Params):Obj:={ cls:=.none,data:=Data.fields #[] }
def CJ (P:Params):Obj:=(tq #[.str "one" 421])
def CG (P:Params):Obj:=(tq #[])
def Ky (P:Params):Obj:=(pr0 "most_of" 27)
def Cz (P:Params):Obj:=(fc #[.str "most_of" 418,.str "most_of" 419,cp 420,.int 61 0,.int 1 0,.int 0 0,.int 0 0,.int 3 0,.ref 176,.bool true,.int 181 0,.ref 177,.none,.ref 178,.ref 179,.ref 180,.int 422 0,.int 61 0,cp 423])
def Cy (P:Params):Obj:=⟨.type "function",none,.func (PySem.W.fnOf "most_of" "most_of" (au (top0 27)) (ao (top0 27)) (ak (top0 27)) .none .none .none (.str "sluice.licences" 395) none (.ref 181) .none),#[]⟩
def Cw (P:Params):Obj:=(tq #[])
def Kw (P:Params):Obj:={ cls:=.none,data:=Data.fields #[] }
def Cv (P:Params):Obj:=(tq #[.str "one" 428,.str "most" 429])
def Cu (P:Params):Obj:=(tq #[])
def Kv (P:Params):Obj:=(pr0 "with_most" 28)
def Cr (P:Params):Obj:=(fc #[.str "with_most" 425,.str "with_most" 426,cp 427,.int 63 0,.int 2 0,.int 0 0,.int 0 0,.int 3 0,.ref 183,.bool true,.int 181 0,.ref 184,.none,.ref 185,.ref 186,.ref 187,.int 430 0,.int 63 0,cp 431])
def Cq (P:Params):Obj:=⟨.type "function",none,.func (PySem.W.fnOf "with_most" "with_most" (au (top0 28)) (ao (top0 28)) (ak (top0 28)) .none .none .none (.str "sluice.licences" 395) none (.ref 188) .none),#[]⟩
def Cp (P:Params):Obj:=(tq #[])
def Ku (P:Params):Obj:={ cls:=.none,data:=Data.fields #[] }
def Cm (P:Params):Obj:=(tq #[.str "name" 440])
def Ck (P:Params):Obj:=(tq #[])
def Ks (P:Params):Obj:=(pr0 "look_at_name" 31)
def Cj (P:Params):Obj:=(fc #[.str "look_at_name" 437,.str "look_at_name" 438,cp 439,.int 67 0,.int 1 0,.int 0 0,.int 0 0,.int 3 0,.ref 190,.bool true,.int 181 0,.ref 191,.none,.ref 192,.ref 193,.ref 194,.int 441 0,.int 67 0,cp 442])
def Ci (P:Params):Obj:=⟨.type "function",none,.func (PySem.W.fnOf "look_at_name" "look_at_name" (au (top0 31)) (ao (top0 31)) (ak (top0 31)) .none .none .none (.str "sluice.rolls" 433) none (.ref 195) .none),#[]⟩
def Kq (P:Params):Obj:=(tq #[])
def Kp (P:Params):Obj:={ cls:=.type "builtin_function_or_method",data:=Data.fields #[.builtin "type.__prepare__",.type "type"] }
def Ko (P:Params):Obj:={ cls:=.type "dict",data:=Data.dict #[en P "__module__" 451 (.str "sluice.rolls" 433),en P "__qualname__" 453 (.str "Roll" 452),en P "__firstlineno__" 455 (.int 70 454),en P "__init__" 463 (.ref 210),en P "today" 470 (.ref 217),en P "roll" 477 (.ref 224),en P "holders" 484 (.ref 231),en P "deeds" 491 (.ref 238),en P "turn" 498 (.ref 245),en P "file" 511 (.ref 253),en P "sell" 521 (.ref 260),en P "part" 533 (.ref 267),en P "drop" 542 (.ref 274),en P "move" 552 (.ref 281),en P "look_move" 561 (.ref 288),en P "lapse" 567 (.ref 293),en P "enter" 576 (.ref 300),en P "is_alone" 582 (.ref 305),en P "look_at_number" 590 (.ref 312),en P "look_at_holder" 599 (.ref 319),en P "look_at_room" 606 (.ref 326),en P "__static_attributes__" 612 (.ref 327)] 22 }
def Km (P:Params):Obj:=(tq #[])
def Kl (P:Params):Obj:={ cls:=.none,data:=Data.fields #[.int 72 0,.int 4 0,.ref 209,.int 81 0,.int 4 0,.ref 216,.int 84 0,.int 4 0,.ref 223,.int 87 0,.int 4 0,.ref 230,.int 90 0,.int 4 0,.ref 237,.int 93 0,.int 4 0,.ref 244,.int 97 0,.int 4 0,.ref 252,.int 107 0,.int 4 0,.ref 259,.int 113 0,.int 4 0,.ref 266,.int 126 0,.int 4 0,.ref 273,.int 131 0,.int 4 0,.ref 280,.int 134 0,.int 4 0,.ref 287,.int 137 0,.int 4 0,.ref 292,.int 151 0,.int 4 0,.ref 299,.int 156 0,.int 4 0,.ref 304,.int 161 0,.int 4 0,.ref 311,.int 165 0,.int 4 0,.ref 318,.int 170 0,.int 4 0,.ref 325] }
def Kh (P:Params):Obj:=(fc #[.str "Roll" 446,.str "Roll" 447,cp 448,.int 70 0,.int 0 0,.int 0 0,.int 0 0,.int 0 0,.ref 200,.bool false,.int 181 0,.ref 201,.none,.none,.none,.none,.int 449 0,.int 70 0,cp 450])
def Kg (P:Params):Obj:={ cls:=.type "frame",slots:=#[some (.ref 202),some (.ref 3),some (.ref 199),none,some (.str "sluice.rolls" 433),none,some (.ref 0)] }
def Cg (P:Params):Obj:=(tq #[])
def Ke (P:Params):Obj:={ cls:=.none,data:=Data.fields #[] }
def Ce (P:Params):Obj:=(tq #[.str "self" 459,.str "below" 460])
def Cd (P:Params):Obj:=(tq #[])
def Kc (P:Params):Obj:={ cls:=.none,data:=.func { name:="__init__",qualname:="Roll.__init__",params:=au (inClass (top0 32) 0),body:=.stmts (ao (inClass (top0 32) 0)),scope:=ak (inClass (top0 32) 0),globals:=0,closure:=[],defaults:=.none,kwdefaults:=.none } }
def Ca (P:Params):Obj:=(fc #[.str "__init__" 456,.str "Roll.__init__" 457,cp 458,.int 72 0,.int 2 0,.int 0 0,.int 0 0,.int 3 0,.ref 204,.bool true,.int 181 0,.ref 205,.none,.ref 206,.ref 207,.ref 208,.int 461 0,.int 72 0,cp 462])
def BZ (P:Params):Obj:=⟨.type "function",none,.func (PySem.W.fnOf "__init__" "Roll.__init__" (au (inClass (top0 32) 0)) (ao (inClass (top0 32) 0)) (ak (inClass (top0 32) 0)) .none .none .none (.str "sluice.rolls" 433) none (.ref 209) .none),#[]⟩
def BX (P:Params):Obj:=(tq #[])
def Ka (P:Params):Obj:={ cls:=.none,data:=Data.fields #[] }
def BW (P:Params):Obj:=(tq #[.str "self" 467])
def BR (P:Params):Obj:=(tq #[])
def J9 (P:Params):Obj:={ cls:=.none,data:=.func { name:="today",qualname:="Roll.today",params:=au (inClass (top0 32) 1),body:=.stmts (ao (inClass (top0 32) 1)),scope:=ak (inClass (top0 32) 1),globals:=0,closure:=[],defaults:=.none,kwdefaults:=.none } }
def BP (P:Params):Obj:=(fc #[.str "today" 464,.str "Roll.today" 465,cp 466,.int 81 0,.int 1 0,.int 0 0,.int 0 0,.int 3 0,.ref 211,.bool true,.int 181 0,.ref 212,.none,.ref 213,.ref 214,.ref 215,.int 468 0,.int 81 0,cp 469])
def BL (P:Params):Obj:=⟨.type "function",none,.func (PySem.W.fnOf "today" "Roll.today" (au (inClass (top0 32) 1)) (ao (inClass (top0 32) 1)) (ak (inClass (top0 32) 1)) .none .none .none (.str "sluice.rolls" 433) none (.ref 216) .none),#[]⟩
def BK (P:Params):Obj:=(tq #[])
def J8 (P:Params):Obj:={ cls:=.none,data:=Data.fields #[] }
def BJ (P:Params):Obj:=(tq #[.str "self" 474])
def Bx (P:Params):Obj:=(tq #[])
def J7 (P:Params):Obj:={ cls:=.none,data:=.func { name:="roll",qualname:="Roll.roll",params:=au (inClass (top0 32) 2),body:=.stmts (ao (inClass (top0 32) 2)),scope:=ak (inClass (top0 32) 2),globals:=0,closure:=[],defaults:=.none,kwdefaults:=.none } }
def Bw (P:Params):Obj:=(fc #[.str "roll" 471,.str "Roll.roll" 472,cp 473,.int 84 0,.int 1 0,.int 0 0,.int 0 0,.int 3 0,.ref 218,.bool true,.int 181 0,.ref 219,.none,.ref 220,.ref 221,.ref 222,.int 475 0,.int 84 0,cp 476])
def Bv (P:Params):Obj:=⟨.type "function",none,.func (PySem.W.fnOf "roll" "Roll.roll" (au (inClass (top0 32) 2)) (ao (inClass (top0 32) 2)) (ak (inClass (top0 32) 2)) .none .none .none (.str "sluice.rolls" 433) none (.ref 223) .none),#[]⟩
def Bu (P:Params):Obj:=(tq #[])
def J6 (P:Params):Obj:={ cls:=.none,data:=Data.fields #[] }
def Bt (P:Params):Obj:=(tq #[.str "self" 481])
def Bs (P:Params):Obj:=(tq #[])
def J4 (P:Params):Obj:={ cls:=.none,data:=.func { name:="holders",qualname:="Roll.holders",params:=au (inClass (top0 32) 3),body:=.stmts (ao (inClass (top0 32) 3)),scope:=ak (inClass (top0 32) 3),globals:=0,closure:=[],defaults:=.none,kwdefaults:=.none } }
def Br (P:Params):Obj:=(fc #[.str "holders" 478,.str "Roll.holders" 479,cp 480,.int 87 0,.int 1 0,.int 0 0,.int 0 0,.int 3 0,.ref 225,.bool true,.int 181 0,.ref 226,.none,.ref 227,.ref 228,.ref 229,.int 482 0,.int 87 0,cp 483])
def Bq (P:Params):Obj:=⟨.type "function",none,.func (PySem.W.fnOf "holders" "Roll.holders" (au (inClass (top0 32) 3)) (ao (inClass (top0 32) 3)) (ak (inClass (top0 32) 3)) .none .none .none (.str "sluice.rolls" 433) none (.ref 230) .none),#[]⟩
def Bp (P:Params):Obj:=(tq #[])
def J3 (P:Params):Obj:={ cls:=.none,data:=Data.fields #[] }
def Bo (P:Params):Obj:=(tq #[.str "self" 488])
def Bm (P:Params):Obj:=(tq #[])
def J2 (P:Params):Obj:={ cls:=.none,data:=.func { name:="deeds",qualname:="Roll.deeds",params:=au (inClass (top0 32) 4),body:=.stmts (ao (inClass (top0 32) 4)),scope:=ak (inClass (top0 32) 4),globals:=0,closure:=[],defaults:=.none,kwdefaults:=.none } }
def Bl (P:Params):Obj:=(fc #[.str "deeds" 485,.str "Roll.deeds" 486,cp 487,.int 90 0,.int 1 0,.int 0 0,.int 0 0,.int 3 0,.ref 232,.bool true,.int 181 0,.ref 233,.none,.ref 234,.ref 235,.ref 236,.int 489 0,.int 90 0,cp 490])
def Bk (P:Params):Obj:=⟨.type "function",none,.func (PySem.W.fnOf "deeds" "Roll.deeds" (au (inClass (top0 32) 4)) (ao (inClass (top0 32) 4)) (ak (inClass (top0 32) 4)) .none .none .none (.str "sluice.rolls" 433) none (.ref 237) .none),#[]⟩
def Bj (P:Params):Obj:=(tq #[])
def J0 (P:Params):Obj:={ cls:=.none,data:=Data.fields #[] }
def Bh (P:Params):Obj:=(tq #[.str "self" 495])
def Bg (P:Params):Obj:=(tq #[])
def JZ (P:Params):Obj:={ cls:=.none,data:=.func { name:="turn",qualname:="Roll.turn",params:=au (inClass (top0 32) 5),body:=.stmts (ao (inClass (top0 32) 5)),scope:=ak (inClass (top0 32) 5),globals:=0,closure:=[],defaults:=.none,kwdefaults:=.none } }
def Bf (P:Params):Obj:=(fc #[.str "turn" 492,.str "Roll.turn" 493,cp 494,.int 93 0,.int 1 0,.int 0 0,.int 0 0,.int 3 0,.ref 239,.bool true,.int 181 0,.ref 240,.none,.ref 241,.ref 242,.ref 243,.int 496 0,.int 93 0,cp 497])
def Bd (P:Params):Obj:=⟨.type "function",none,.func (PySem.W.fnOf "turn" "Roll.turn" (au (inClass (top0 32) 5)) (ao (inClass (top0 32) 5)) (ak (inClass (top0 32) 5)) .none .none .none (.str "sluice.rolls" 433) none (.ref 244) .none),#[]⟩
def Bb (P:Params):Obj:=(tq #[.none])
def Az (P:Params):Obj:=(tq #[])
def JW (P:Params):Obj:={ cls:=.none,data:=Data.fields #[] }
def Ay (P:Params):Obj:=(tq #[.str "self" 502,.str "holder" 503,.str "start" 504,.str "most" 505,.str "back" 506,.str "stop" 507,.str "one" 508])
def Ax (P:Params):Obj:=(tq #[])
def JV (P:Params):Obj:={ cls:=.none,data:=.func { name:="file",qualname:="Roll.file",params:=au (inClass (top0 32) 6),body:=.stmts (ao (inClass (top0 32) 6)),scope:=ak (inClass (top0 32) 6),globals:=0,closure:=[],defaults:=.none,kwdefaults:=.none } }
def Aw (P:Params):Obj:=(fc #[.str "file" 499,.str "Roll.file" 500,cp 501,.int 97 0,.int 5 0,.int 0 0,.int 0 0,.int 3 0,.ref 247,.bool true,.int 181 0,.ref 248,.none,.ref 249,.ref 250,.ref 251,.int 509 0,.int 97 0,cp 510])
def Av (P:Params):Obj:=⟨.type "function",none,.func (PySem.W.fnOf "file" "Roll.file" (au (inClass (top0 32) 6)) (ao (inClass (top0 32) 6)) (ak (inClass (top0 32) 6)) (.ref 246) .none .none (.str "sluice.rolls" 433) none (.ref 252) .none),#[]⟩
def Ar (P:Params):Obj:=(tq #[])
def JT (P:Params):Obj:={ cls:=.none,data:=Data.fields #[] }
def Aq (P:Params):Obj:=(tq #[.str "self" 515,.str "number" 516,.str "holder" 517,.str "to" 518])
def Ao (P:Params):Obj:=(tq #[])
def JR (P:Params):Obj:={ cls:=.none,data:=.func { name:="sell",qualname:="Roll.sell",params:=au (inClass (top0 32) 7),body:=.stmts (ao (inClass (top0 32) 7)),scope:=ak (inClass (top0 32) 7),globals:=0,closure:=[],defaults:=.none,kwdefaults:=.none } }
def Am (P:Params):Obj:=(fc #[.str "sell" 512,.str "Roll.sell" 513,cp 514,.int 107 0,.int 4 0,.int 0 0,.int 0 0,.int 3 0,.ref 254,.bool true,.int 181 0,.ref 255,.none,.ref 256,.ref 257,.ref 258,.int 519 0,.int 107 0,cp 520])
def Al (P:Params):Obj:=⟨.type "function",none,.func (PySem.W.fnOf "sell" "Roll.sell" (au (inClass (top0 32) 7)) (ao (inClass (top0 32) 7)) (ak (inClass (top0 32) 7)) .none .none .none (.str "sluice.rolls" 433) none (.ref 259) .none),#[]⟩
def Ak (P:Params):Obj:=(tq #[])
def JQ (P:Params):Obj:={ cls:=.none,data:=Data.fields #[] }
def Aj (P:Params):Obj:=(tq #[.str "self" 525,.str "number" 526,.str "holder" 527,.str "most" 528,.str "to" 529,.str "one" 530])
def Ai (P:Params):Obj:=(tq #[])
def JN (P:Params):Obj:={ cls:=.none,data:=.func { name:="part",qualname:="Roll.part",params:=au (inClass (top0 32) 8),body:=.stmts (ao (inClass (top0 32) 8)),scope:=ak (inClass (top0 32) 8),globals:=0,closure:=[],defaults:=.none,kwdefaults:=.none } }
def Ah (P:Params):Obj:=(fc #[.str "part" 522,.str "Roll.part" 523,cp 524,.int 113 0,.int 5 0,.int 0 0,.int 0 0,.int 3 0,.ref 261,.bool true,.int 181 0,.ref 262,.none,.ref 263,.ref 264,.ref 265,.int 531 0,.int 113 0,cp 532])
def Ag (P:Params):Obj:=⟨.type "function",none,.func (PySem.W.fnOf "part" "Roll.part" (au (inClass (top0 32) 8)) (ao (inClass (top0 32) 8)) (ak (inClass (top0 32) 8)) .none .none .none (.str "sluice.rolls" 433) none (.ref 266) .none),#[]⟩
def Af (P:Params):Obj:=(tq #[])
def JL (P:Params):Obj:={ cls:=.none,data:=Data.fields #[] }
def Ae (P:Params):Obj:=(tq #[.str "self" 537,.str "number" 538,.str "holder" 539])
def Ad (P:Params):Obj:=(tq #[])
def JK (P:Params):Obj:={ cls:=.none,data:=.func { name:="drop",qualname:="Roll.drop",params:=au (inClass (top0 32) 9),body:=.stmts (ao (inClass (top0 32) 9)),scope:=ak (inClass (top0 32) 9),globals:=0,closure:=[],defaults:=.none,kwdefaults:=.none } }
def Ac (P:Params):Obj:=(fc #[.str "drop" 534,.str "Roll.drop" 535,cp 536,.int 126 0,.int 3 0,.int 0 0,.int 0 0,.int 3 0,.ref 268,.bool true,.int 181 0,.ref 269,.none,.ref 270,.ref 271,.ref 272,.int 540 0,.int 126 0,cp 541])
def Ab (P:Params):Obj:=⟨.type "function",none,.func (PySem.W.fnOf "drop" "Roll.drop" (au (inClass (top0 32) 9)) (ao (inClass (top0 32) 9)) (ak (inClass (top0 32) 9)) .none .none .none (.str "sluice.rolls" 433) none (.ref 273) .none),#[]⟩
def Aa (P:Params):Obj:=(tq #[])
def JH (P:Params):Obj:={ cls:=.none,data:=Data.fields #[] }
def z9 (P:Params):Obj:=(tq #[.str "self" 546,.str "number" 547,.str "holder" 548,.str "start" 549])
def z8 (P:Params):Obj:=(tq #[])
def JF (P:Params):Obj:={ cls:=.none,data:=.func { name:="move",qualname:="Roll.move",params:=au (inClass (top0 32) 10),body:=.stmts (ao (inClass (top0 32) 10)),scope:=ak (inClass (top0 32) 10),globals:=0,closure:=[],defaults:=.none,kwdefaults:=.none } }
def z7 (P:Params):Obj:=(fc #[.str "move" 543,.str "Roll.move" 544,cp 545,.int 131 0,.int 4 0,.int 0 0,.int 0 0,.int 3 0,.ref 275,.bool true,.int 181 0,.ref 276,.none,.ref 277,.ref 278,.ref 279,.int 550 0,.int 131 0,cp 551])
def z6 (P:Params):Obj:=⟨.type "function",none,.func (PySem.W.fnOf "move" "Roll.move" (au (inClass (top0 32) 10)) (ao (inClass (top0 32) 10)) (ak (inClass (top0 32) 10)) .none .none .none (.str "sluice.rolls" 433) none (.ref 280) .none),#[]⟩
def zZ (P:Params):Obj:=(tq #[])
def JD (P:Params):Obj:={ cls:=.none,data:=Data.fields #[] }
def zY (P:Params):Obj:=(tq #[.str "self" 556,.str "number" 557,.str "start" 558])
def zX (P:Params):Obj:=(tq #[])
def JC (P:Params):Obj:={ cls:=.none,data:=.func { name:="look_move",qualname:="Roll.look_move",params:=au (inClass (top0 32) 11),body:=.stmts (ao (inClass (top0 32) 11)),scope:=ak (inClass (top0 32) 11),globals:=0,closure:=[],defaults:=.none,kwdefaults:=.none } }
def zW (P:Params):Obj:=(fc #[.str "look_move" 553,.str "Roll.look_move" 554,cp 555,.int 134 0,.int 3 0,.int 0 0,.int 0 0,.int 3 0,.ref 282,.bool true,.int 181 0,.ref 283,.none,.ref 284,.ref 285,.ref 286,.int 559 0,.int 134 0,cp 560])
def zV (P:Params):Obj:=⟨.type "function",none,.func (PySem.W.fnOf "look_move" "Roll.look_move" (au (inClass (top0 32) 11)) (ao (inClass (top0 32) 11)) (ak (inClass (top0 32) 11)) .none .none .none (.str "sluice.rolls" 433) none (.ref 287) .none),#[]⟩
def zU (P:Params):Obj:=(tq #[])
def JB (P:Params):Obj:={ cls:=.none,data:=Data.fields #[] }
def Jz (P:Params):Obj:={ cls:=.none,data:=.func { name:="lapse",qualname:="Roll.lapse",params:=au (inClass (top0 32) 12),body:=.stmts (ao (inClass (top0 32) 12)),scope:=ak (inClass (top0 32) 12),globals:=0,closure:=[],defaults:=.none,kwdefaults:=.none } }
def zT (P:Params):Obj:=(fc #[.str "lapse" 562,.str "Roll.lapse" 563,cp 564,.int 137 0,.int 2 0,.int 0 0,.int 0 0,.int 3 0,.ref 289,.bool true,.int 181 0,.ref 290,.none,.none,.none,.ref 291,.int 565 0,.int 137 0,cp 566])
def zR (P:Params):Obj:=⟨.type "function",none,.func (PySem.W.fnOf "lapse" "Roll.lapse" (au (inClass (top0 32) 12)) (ao (inClass (top0 32) 12)) (ak (inClass (top0 32) 12)) .none .none .none (.str "sluice.rolls" 433) none (.ref 292) .none),#[]⟩
def zQ (P:Params):Obj:=(tq #[])
def Jy (P:Params):Obj:={ cls:=.none,data:=Data.fields #[] }
def zP (P:Params):Obj:=(tq #[.str "self" 571,.str "one" 572,.str "holder" 573])
def zO (P:Params):Obj:=(tq #[])
def Jw (P:Params):Obj:={ cls:=.none,data:=.func { name:="enter",qualname:="Roll.enter",params:=au (inClass (top0 32) 13),body:=.stmts (ao (inClass (top0 32) 13)),scope:=ak (inClass (top0 32) 13),globals:=0,closure:=[],defaults:=.none,kwdefaults:=.none } }
def zN (P:Params):Obj:=(fc #[.str "enter" 568,.str "Roll.enter" 569,cp 570,.int 151 0,.int 3 0,.int 0 0,.int 0 0,.int 3 0,.ref 294,.bool true,.int 181 0,.ref 295,.none,.ref 296,.ref 297,.ref 298,.int 574 0,.int 151 0,cp 575])
def zM (P:Params):Obj:=⟨.type "function",none,.func (PySem.W.fnOf "enter" "Roll.enter" (au (inClass (top0 32) 13)) (ao (inClass (top0 32) 13)) (ak (inClass (top0 32) 13)) .none .none .none (.str "sluice.rolls" 433) none (.ref 299) .none),#[]⟩
def zL (P:Params):Obj:=(tq #[])
def Jv (P:Params):Obj:={ cls:=.none,data:=Data.fields #[] }
def Ju (P:Params):Obj:={ cls:=.none,data:=.func { name:="is_alone",qualname:="Roll.is_alone",params:=au (inClass (top0 32) 14),body:=.stmts (ao (inClass (top0 32) 14)),scope:=ak (inClass (top0 32) 14),globals:=0,closure:=[],defaults:=.none,kwdefaults:=.none } }
def zK (P:Params):Obj:=(fc #[.str "is_alone" 577,.str "Roll.is_alone" 578,cp 579,.int 156 0,.int 2 0,.int 0 0,.int 0 0,.int 3 0,.ref 301,.bool true,.int 181 0,.ref 302,.none,.none,.none,.ref 303,.int 580 0,.int 156 0,cp 581])
def zJ (P:Params):Obj:=⟨.type "function",none,.func (PySem.W.fnOf "is_alone" "Roll.is_alone" (au (inClass (top0 32) 14)) (ao (inClass (top0 32) 14)) (ak (inClass (top0 32) 14)) .none .none .none (.str "sluice.rolls" 433) none (.ref 304) .none),#[]⟩
def zH (P:Params):Obj:=(tq #[])
def Js (P:Params):Obj:={ cls:=.none,data:=Data.fields #[] }
def zG (P:Params):Obj:=(tq #[.str "self" 586,.str "number" 587])
def zF (P:Params):Obj:=(tq #[])
def Jr (P:Params):Obj:={ cls:=.none,data:=.func { name:="look_at_number",qualname:="Roll.look_at_number",params:=au (inClass (top0 32) 15),body:=.stmts (ao (inClass (top0 32) 15)),scope:=ak (inClass (top0 32) 15),globals:=0,closure:=[],defaults:=.none,kwdefaults:=.none } }
def zE (P:Params):Obj:=(fc #[.str "look_at_number" 583,.str "Roll.look_at_number" 584,cp 585,.int 161 0,.int 2 0,.int 0 0,.int 0 0,.int 3 0,.ref 306,.bool true,.int 181 0,.ref 307,.none,.ref 308,.ref 309,.ref 310,.int 588 0,.int 161 0,cp 589])
def zB (P:Params):Obj:=⟨.type "function",none,.func (PySem.W.fnOf "look_at_number" "Roll.look_at_number" (au (inClass (top0 32) 15)) (ao (inClass (top0 32) 15)) (ak (inClass (top0 32) 15)) .none .none .none (.str "sluice.rolls" 433) none (.ref 311) .none),#[]⟩
def zA (P:Params):Obj:=(tq #[])
def Jq (P:Params):Obj:={ cls:=.none,data:=Data.fields #[] }
def zy (P:Params):Obj:=(tq #[.str "self" 594,.str "number" 595,.str "holder" 596])
def zx (P:Params):Obj:=(tq #[])
def Jo (P:Params):Obj:={ cls:=.none,data:=.func { name:="look_at_holder",qualname:="Roll.look_at_holder",params:=au (inClass (top0 32) 16),body:=.stmts (ao (inClass (top0 32) 16)),scope:=ak (inClass (top0 32) 16),globals:=0,closure:=[],defaults:=.none,kwdefaults:=.none } }
def zu (P:Params):Obj:=(fc #[.str "look_at_holder" 591,.str "Roll.look_at_holder" 592,cp 593,.int 165 0,.int 3 0,.int 0 0,.int 0 0,.int 3 0,.ref 313,.bool true,.int 181 0,.ref 314,.none,.ref 315,.ref 316,.ref 317,.int 597 0,.int 165 0,cp 598])
def zq (P:Params):Obj:=⟨.type "function",none,.func (PySem.W.fnOf "look_at_holder" "Roll.look_at_holder" (au (inClass (top0 32) 16)) (ao (inClass (top0 32) 16)) (ak (inClass (top0 32) 16)) .none .none .none (.str "sluice.rolls" 433) none (.ref 318) .none),#[]⟩
def zp (P:Params):Obj:=(tq #[])
def Jm (P:Params):Obj:={ cls:=.none,data:=Data.fields #[] }
def zm (P:Params):Obj:=(tq #[.str "self" 603])
def zj (P:Params):Obj:=(tq #[])
def Jl (P:Params):Obj:={ cls:=.none,data:=.func { name:="look_at_room",qualname:="Roll.look_at_room",params:=au (inClass (top0 32) 17),body:=.stmts (ao (inClass (top0 32) 17)),scope:=ak (inClass (top0 32) 17),globals:=0,closure:=[],defaults:=.none,kwdefaults:=.none } }
def zc (P:Params):Obj:=(fc #[.str "look_at_room" 600,.str "Roll.look_at_room" 601,cp 602,.int 170 0,.int 1 0,.int 0 0,.int 0 0,.int 3 0,.ref 320,.bool true,.int 181 0,.ref 321,.none,.ref 322,.ref 323,.ref 324,.int 604 0,.int 170 0,cp 605])
def za (P:Params):Obj:=⟨.type "function",none,.func (PySem.W.fnOf "look_at_room" "Roll.look_at_room" (au (inClass (top0 32) 17)) (ao (inClass (top0 32) 17)) (ak (inClass (top0 32) 17)) .none .none .none (.str "sluice.rolls" 433) none (.ref 325) .none),#[]⟩
def yZ (P:Params):Obj:=(tq #[.str "below" 607,.str "day" 608,.str "done" 609,.str "licences" 610,.str "names" 611])
def yX (P:Params):Obj:={ cls:=.type "dict",data:=Data.dict #[en P "__module__" 451 (.str "sluice.rolls" 433),en P "__firstlineno__" 455 (.int 70 454),en P "__init__" 463 (.ref 210),en P "today" 470 (.ref 217),en P "roll" 477 (.ref 224),en P "holders" 484 (.ref 231),en P "deeds" 491 (.ref 238),en P "turn" 498 (.ref 245),en P "file" 511 (.ref 253),en P "sell" 521 (.ref 260),en P "part" 533 (.ref 267),en P "drop" 542 (.ref 274),en P "move" 552 (.ref 281),en P "look_move" 561 (.ref 288),en P "lapse" 567 (.ref 293),en P "enter" 576 (.ref 300),en P "is_alone" 582 (.ref 305),en P "look_at_number" 590 (.ref 312),en P "look_at_holder" 599 (.ref 319),en P "look_at_room" 606 (.ref 326),en P "__static_attributes__" 612 (.ref 327),en P "__dict__" 614 (.ref 330),en P "__weakref__" 616 (.ref 331),en P "__doc__" 617 .none] 4 }
def yW (P:Params):Obj:={ cls:=.type "type",data:=Data.cls { name:="Roll",bases:=[.type "object"],mro:=[.ref 329,.type "object"],ns:=328,qualname:="Roll" },slots:=#[none,none,some (.str "Roll" 444),some (.str "Roll" 452),some (.builtin "object.__new__"),some (.bool true)] }
def yV (P:Params):Obj:={ cls:=.type "getset_descriptor",data:=Data.fields #[.str "__dict__" 613,.ref 329,.builtin "function.__dict__",.builtin "function.__dict__#set"] }
def yU (P:Params):Obj:={ cls:=.type "getset_descriptor",data:=Data.fields #[.str "__weakref__" 615,.ref 329,.builtin "ExceptionGroup.__weakref__",.none] }
def Jk (P:Params):Obj:={ cls:=.type "super",data:=Data.fields #[.ref 329,.ref 329,.ref 329] }
def Jj (P:Params):Obj:={ cls:=.type "builtin_function_or_method",data:=Data.fields #[.builtin "object.__init_subclass__",.ref 329] }
def yS (P:Params):Obj:=(tq #[])
def Ji (P:Params):Obj:={ cls:=.none,data:=Data.fields #[] }
def yR (P:Params):Obj:=(tq #[.str "script" 625,.str "k" 626])
def yQ (P:Params):Obj:=(tq #[])
def Jh (P:Params):Obj:=(pr0 "_law_cell_at" 34)
def yP (P:Params):Obj:=(fc #[.str "_law_cell_at" 622,.str "_law_cell_at" 623,cp 624,.int 174 0,.int 2 0,.int 0 0,.int 0 0,.int 3 0,.ref 334,.bool true,.int 181 0,.ref 335,.none,.ref 336,.ref 337,.ref 338,.int 627 0,.int 174 0,cp 628])
def yO (P:Params):Obj:=⟨.type "function",none,.func (PySem.W.fnOf "_law_cell_at" "_law_cell_at" (au (top0 34)) (ao (top0 34)) (ak (top0 34)) .none .none .none (.str "law_sluice_k53_parted" 620) none (.ref 339) .none),#[]⟩
def yN (P:Params):Obj:=(tq #[])
def Jg (P:Params):Obj:={ cls:=.none,data:=Data.fields #[] }
def yM (P:Params):Obj:=(tq #[.str "found" 633])
def yL (P:Params):Obj:=(tq #[])
def Jf (P:Params):Obj:=(pr0 "_law_whole" 35)
def yK (P:Params):Obj:=(fc #[.str "_law_whole" 630,.str "_law_whole" 631,cp 632,.int 178 0,.int 1 0,.int 0 0,.int 0 0,.int 3 0,.ref 341,.bool true,.int 181 0,.ref 342,.none,.ref 343,.ref 344,.ref 345,.int 634 0,.int 178 0,cp 635])
def yJ (P:Params):Obj:=⟨.type "function",none,.func (PySem.W.fnOf "_law_whole" "_law_whole" (au (top0 35)) (ao (top0 35)) (ak (top0 35)) .none .none .none (.str "law_sluice_k53_parted" 620) none (.ref 346) .none),#[]⟩
def yI (P:Params):Obj:=(tq #[])
def Jd (P:Params):Obj:={ cls:=.none,data:=Data.fields #[] }
def yH (P:Params):Obj:=(tq #[.str "cell" 640,.str "place" 641,.str "spot" 642])
def yG (P:Params):Obj:=(tq #[])
def Jc (P:Params):Obj:=(pr0 "_law_draw" 36)
def yF (P:Params):Obj:=(fc #[.str "_law_draw" 637,.str "_law_draw" 638,cp 639,.int 180 0,.int 2 0,.int 0 0,.int 0 0,.int 3 0,.ref 348,.bool true,.int 181 0,.ref 349,.none,.ref 350,.ref 351,.ref 352,.int 643 0,.int 180 0,cp 644])
def yE (P:Params):Obj:=⟨.type "function",none,.func (PySem.W.fnOf "_law_draw" "_law_draw" (au (top0 36)) (ao (top0 36)) (ak (top0 36)) .none .none .none (.str "law_sluice_k53_parted" 620) none (.ref 353) .none),#[]⟩
def yD (P:Params):Obj:=(tq #[])
def Jb (P:Params):Obj:={ cls:=.none,data:=Data.fields #[] }
def IW (P:Params):Obj:=(pr0 "_law_draws" 37)
def yC (P:Params):Obj:=(fc #[.str "_law_draws" 646,.str "_law_draws" 647,cp 648,.int 183 0,.int 2 0,.int 0 0,.int 0 0,.int 3 0,.ref 355,.bool true,.int 181 0,.ref 356,.none,.none,.none,.ref 357,.int 649 0,.int 183 0,cp 650])
def yx (P:Params):Obj:=⟨.type "function",none,.func (PySem.W.fnOf "_law_draws" "_law_draws" (au (top0 37)) (ao (top0 37)) (ak (top0 37)) .none .none .none (.str "law_sluice_k53_parted" 620) none (.ref 358) .none),#[]⟩
def yw (P:Params):Obj:=(tq #[])
def IV (P:Params):Obj:={ cls:=.none,data:=Data.fields #[] }
def IK (P:Params):Obj:=(pr0 "_law_alike_lines" 38)
def yu (P:Params):Obj:=(fc #[.str "_law_alike_lines" 652,.str "_law_alike_lines" 653,cp 654,.int 185 0,.int 2 0,.int 0 0,.int 0 0,.int 3 0,.ref 360,.bool true,.int 181 0,.ref 361,.none,.none,.none,.ref 362,.int 655 0,.int 185 0,cp 656])
def yt (P:Params):Obj:=⟨.type "function",none,.func (PySem.W.fnOf "_law_alike_lines" "_law_alike_lines" (au (top0 38)) (ao (top0 38)) (ak (top0 38)) .none .none .none (.str "law_sluice_k53_parted" 620) none (.ref 363) .none),#[]⟩
def yr (P:Params):Obj:=(tq #[])
def Iz (P:Params):Obj:={ cls:=.none,data:=Data.fields #[] }
def yq (P:Params):Obj:=(tq #[.str "one" 661,.str "lines" 662,.str "owners" 663])
def yp (P:Params):Obj:=(tq #[])
def Iu (P:Params):Obj:=(pr0 "_law_right" 39)
def yj (P:Params):Obj:=(fc #[.str "_law_right" 658,.str "_law_right" 659,cp 660,.int 194 0,.int 3 0,.int 0 0,.int 0 0,.int 3 0,.ref 365,.bool true,.int 181 0,.ref 366,.none,.ref 367,.ref 368,.ref 369,.int 664 0,.int 194 0,cp 665])
def yh (P:Params):Obj:=⟨.type "function",none,.func (PySem.W.fnOf "_law_right" "_law_right" (au (top0 39)) (ao (top0 39)) (ak (top0 39)) .none .none .none (.str "law_sluice_k53_parted" 620) none (.ref 370) .none),#[]⟩
def yg (P:Params):Obj:=(tq #[])
def Ir (P:Params):Obj:={ cls:=.none,data:=Data.fields #[] }
def yd (P:Params):Obj:=(tq #[.str "one" 670,.str "number" 671,.str "name" 672,.str "most" 673,.str "to" 674,.str "caught" 675,.str "e" 676])
def yc (P:Params):Obj:=(tq #[])
def Ip (P:Params):Obj:=(pr0 "_law_not_alone" 40)
def xZ (P:Params):Obj:=(fc #[.str "_law_not_alone" 667,.str "_law_not_alone" 668,cp 669,.int 196 0,.int 5 0,.int 0 0,.int 0 0,.int 3 0,.ref 372,.bool true,.int 181 0,.ref 373,.none,.ref 374,.ref 375,.ref 376,.int 677 0,.int 196 0,cp 678])
def xY (P:Params):Obj:=⟨.type "function",none,.func (PySem.W.fnOf "_law_not_alone" "_law_not_alone" (au (top0 40)) (ao (top0 40)) (ak (top0 40)) .none .none .none (.str "law_sluice_k53_parted" 620) none (.ref 377) .none),#[]⟩
def xX (P:Params):Obj:=(tq #[])
def Io (P:Params):Obj:={ cls:=.none,data:=Data.fields #[] }
def xW (P:Params):Obj:=(tq #[.str "one" 683,.str "xs" 684,.str "many" 685,.str "lines" 686,.str "owners" 687,.str "day" 688,.str "start" 689,.str "most" 690,.str "name" 691,.str "back" 692])
def xV (P:Params):Obj:=(tq #[])
def Im (P:Params):Obj:=(pr0 "_law_file" 41)
def xU (P:Params):Obj:=(fc #[.str "_law_file" 680,.str "_law_file" 681,cp 682,.int 203 0,.int 6 0,.int 0 0,.int 0 0,.int 3 0,.ref 379,.bool true,.int 181 0,.ref 380,.none,.ref 381,.ref 382,.ref 383,.int 693 0,.int 203 0,cp 694])
def xT (P:Params):Obj:=⟨.type "function",none,.func (PySem.W.fnOf "_law_file" "_law_file" (au (top0 41)) (ao (top0 41)) (ak (top0 41)) .none .none .none (.str "law_sluice_k53_parted" 620) none (.ref 384) .none),#[]⟩
def xR (P:Params):Obj:=(tq #[])
def Il (P:Params):Obj:={ cls:=.none,data:=Data.fields #[] }
def Ik (P:Params):Obj:=(pr0 "_law_part" 42)
def xQ (P:Params):Obj:=(fc #[.str "_law_part" 696,.str "_law_part" 697,cp 698,.int 217 0,.int 4 0,.int 0 0,.int 0 0,.int 3 0,.ref 386,.bool true,.int 181 0,.ref 387,.none,.none,.none,.ref 388,.int 699 0,.int 217 0,cp 700])
def xP (P:Params):Obj:=⟨.type "function",none,.func (PySem.W.fnOf "_law_part" "_law_part" (au (top0 42)) (ao (top0 42)) (ak (top0 42)) .none .none .none (.str "law_sluice_k53_parted" 620) none (.ref 389) .none),#[]⟩
def xO (P:Params):Obj:=(tq #[])
def Ij (P:Params):Obj:={ cls:=.none,data:=Data.fields #[] }
def Ii (P:Params):Obj:=(pr0 "law" 43)
def xM (P:Params):Obj:=(fc #[.str "law" 702,.str "law" 703,cp 704,.int 244 0,.int 1 0,.int 0 0,.int 0 0,.int 3 0,.ref 391,.bool true,.int 181 0,.ref 392,.none,.none,.none,.ref 393,.int 705 0,.int 244 0,cp 706])
def xK (P:Params):Obj:=⟨.type "function",none,.func (PySem.W.fnOf "law" "law" (au (top0 43)) (ao (top0 43)) (ak (top0 43)) .none .none .none (.str "law_sluice_k53_parted" 620) none (.ref 394) .none),#[]⟩
def H0:Params→Heap:=fun P=>{ objs:=⟨Qv P :: Qu P :: Pn P :: ho_4 P :: Qt P :: Qs P :: Qq P :: Qp P :: Qo P :: Mi P :: LC P :: []⟩ }
def H1:Params→Heap:=fun P=>{ objs:=⟨Qv P :: Qu P :: Pn P :: Lf P :: Qt P :: Qs P :: Qq P :: Qp P :: Qo P :: Mi P :: LC P :: PJ P :: PB P :: Pz P :: Py P :: KC P :: Px P :: Kr P :: Kd P :: Pu P :: J5 P :: J1 P :: JX P :: Pr P :: JM P :: JG P :: Pq P :: Jx P :: Jt P :: Jp P :: Pk P :: Pj P :: Je P :: Ja P :: Iw P :: Ph P :: Pg P :: Pb P :: Pa P :: O9 P :: O8 P :: Ih P :: Ig P :: Ie P :: Ib P :: O7 P :: O6 P :: Ia P :: O4 P :: O1 P :: OJ P :: OD P :: Oz P :: Ox P :: HY P :: HX P :: HW P :: Ov P :: Ou P :: HS P :: Ot P :: Oq P :: Oo P :: Om P :: Ol P :: Oj P :: HN P :: HJ P :: HF P :: Oi P :: Oh P :: HD P :: Og P :: Oe P :: Od P :: Oc P :: Ob P :: Oa P :: HB P :: Hz P :: Hy P :: N8 P :: N7 P :: Hx P :: N6 P :: N5 P :: NZ P :: NT P :: NQ P :: NP P :: Hw P :: Hv P :: Hu P :: NK P :: Nz P :: Ht P :: Ny P :: Mh P :: Mg P :: Mf P :: Ma P :: LR P :: Ef P :: Ed P :: Ec P :: LQ P :: LK P :: Eb P :: Lz P :: Ly P :: Lx P :: Lw P :: Ls P :: Lr P :: Ea P :: DY P :: DX P :: Lq P :: Lp P :: DW P :: Ln P :: Lk P :: Lj P :: Li P :: Lh P :: Lg P :: DR P :: DQ P :: DP P :: Le P :: Ld P :: DN P :: Lb P :: La P :: K9 P :: K8 P :: K7 P :: K6 P :: DK P :: DG P :: Dz P :: K5 P :: K4 P :: Dy P :: K3 P :: Dw P :: Dv P :: K1 P :: Du P :: Dt P :: Ds P :: KZ P :: KY P :: Dr P :: Dq P :: Dp P :: KR P :: Dn P :: Dl P :: KQ P :: Dk P :: Dj P :: Di P :: KN P :: Dh P :: Dg P :: KJ P :: Dd P :: Dc P :: CZ P :: KH P :: CV P :: CT P :: KD P :: CQ P :: CP P :: CK P :: Kz P :: CJ P :: CG P :: Ky P :: Cz P :: Cy P :: Cw P :: Kw P :: Cv P :: Cu P :: Kv P :: Cr P :: Cq P :: Cp P :: Ku P :: Cm P :: Ck P :: Ks P :: Cj P :: Ci P :: Kq P :: Kp P :: Ko P :: Km P :: Kl P :: Kh P :: Kg P :: Cg P :: Ke P :: Ce P :: Cd P :: Kc P :: Ca P :: BZ P :: BX P :: Ka P :: BW P :: BR P :: J9 P :: BP P :: BL P :: BK P :: J8 P :: BJ P :: Bx P :: J7 P :: Bw P :: Bv P :: Bu P :: J6 P :: Bt P :: Bs P :: J4 P :: Br P :: Bq P :: Bp P :: J3 P :: Bo P :: Bm P :: J2 P :: Bl P :: Bk P :: Bj P :: J0 P :: Bh P :: Bg P :: JZ P :: Bf P :: Bd P :: Bb P :: Az P :: JW P :: Ay P :: Ax P :: JV P :: Aw P :: Av P :: Ar P :: JT P :: Aq P :: Ao P :: JR P :: Am P :: Al P :: Ak P :: JQ P :: Aj P :: Ai P :: JN P :: Ah P :: Ag P :: Af P :: JL P :: Ae P :: Ad P :: JK P :: Ac P :: Ab P :: Aa P :: JH P :: z9 P :: z8 P :: JF P :: z7 P :: z6 P :: zZ P :: JD P :: zY P :: zX P :: JC P :: zW P :: zV P :: zU P :: JB P :: Jz P :: zT P :: zR P :: zQ P :: Jy P :: zP P :: zO P :: Jw P :: zN P :: zM P :: zL P :: Jv P :: Ju P :: zK P :: zJ P :: zH P :: Js P :: zG P :: zF P :: Jr P :: zE P :: zB P :: zA P :: Jq P :: zy P :: zx P :: Jo P :: zu P :: zq P :: zp P :: Jm P :: zm P :: zj P :: Jl P :: zc P :: za P :: yZ P :: yX P :: yW P :: yV P :: yU P :: Jk P :: Jj P :: yS P :: Ji P :: yR P :: yQ P :: Jh P :: yP P :: yO P :: yN P :: Jg P :: yM P :: yL P :: Jf P :: yK P :: yJ P :: yI P :: Jd P :: yH P :: yG P :: Jc P :: yF P :: yE P :: yD P :: Jb P :: IW P :: yC P :: yx P :: yw P :: IV P :: IK P :: yu P :: yt P :: yr P :: Iz P :: yq P :: yp P :: Iu P :: yj P :: yh P :: yg P :: Ir P :: yd P :: yc P :: Ip P :: xZ P :: xY P :: xX P :: Io P :: xW P :: xV P :: Im P :: xU P :: xT P :: xR P :: Il P :: Ik P :: xQ P :: xP P :: xO P :: Ij P :: Ii P :: xM P :: xK P :: []⟩ }
def Kf:Params→PySem.W.Frag:=fun P=>(nat_lit 2,Pn P) ::
 (nat_lit 3,Lf P) ::
 (nat_lit 15,KC P) ::
 (nat_lit 17,Kr P) ::
 (nat_lit 18,Kd P) ::
 (nat_lit 20,J5 P) ::
 (nat_lit 21,J1 P) ::
 (nat_lit 22,JX P) ::
 (nat_lit 24,JM P) ::
 (nat_lit 25,JG P) ::
 (nat_lit 27,Jx P) ::
 (nat_lit 28,Jt P) ::
 (nat_lit 29,Jp P) ::
 (nat_lit 32,Je P) ::
 (nat_lit 33,Ja P) ::
 (nat_lit 34,Iw P) ::
 (nat_lit 41,Ih P) ::
 (nat_lit 42,Ig P) ::
 (nat_lit 43,Ie P) ::
 (nat_lit 44,Ib P) ::
 (nat_lit 47,Ia P) ::
 (nat_lit 54,HY P) ::
 (nat_lit 55,HX P) ::
 (nat_lit 56,HW P) ::
 (nat_lit 59,HS P) ::
 (nat_lit 66,HN P) ::
 (nat_lit 67,HJ P) ::
 (nat_lit 68,HF P) ::
 (nat_lit 71,HD P) ::
 (nat_lit 78,HB P) ::
 (nat_lit 79,Hz P) ::
 (nat_lit 80,Hy P) ::
 (nat_lit 83,Hx P) ::
 (nat_lit 90,Hw P) ::
 (nat_lit 91,Hv P) ::
 (nat_lit 92,Hu P) ::
 (nat_lit 95,Ht P) ::
 (nat_lit 102,Ef P) ::
 (nat_lit 103,Ed P) ::
 (nat_lit 104,Ec P) ::
 (nat_lit 107,Eb P) ::
 (nat_lit 114,Ea P) ::
 (nat_lit 115,DY P) ::
 (nat_lit 116,DX P) ::
 (nat_lit 119,DW P) ::
 (nat_lit 126,DR P) ::
 (nat_lit 127,DQ P) ::
 (nat_lit 128,DP P) ::
 (nat_lit 131,DN P) ::
 (nat_lit 138,DK P) ::
 (nat_lit 139,DG P) ::
 (nat_lit 140,Dz P) ::
 (nat_lit 143,Dy P) ::
 (nat_lit 145,Dw P) ::
 (nat_lit 146,Dv P) ::
 (nat_lit 148,Du P) ::
 (nat_lit 149,Dt P) ::
 (nat_lit 150,Ds P) ::
 (nat_lit 153,Dr P) ::
 (nat_lit 154,Dq P) ::
 (nat_lit 155,Dp P) ::
 (nat_lit 157,Dn P) ::
 (nat_lit 158,Dl P) ::
 (nat_lit 160,Dk P) ::
 (nat_lit 161,Dj P) ::
 (nat_lit 162,Di P) ::
 (nat_lit 164,Dh P) ::
 (nat_lit 165,Dg P) ::
 (nat_lit 167,Dd P) ::
 (nat_lit 168,Dc P) ::
 (nat_lit 169,CZ P) ::
 (nat_lit 171,CV P) ::
 (nat_lit 172,CT P) ::
 (nat_lit 174,CQ P) ::
 (nat_lit 175,CP P) ::
 (nat_lit 176,CK P) ::
 (nat_lit 178,CJ P) ::
 (nat_lit 179,CG P) ::
 (nat_lit 181,Cz P) ::
 (nat_lit 182,Cy P) ::
 (nat_lit 183,Cw P) ::
 (nat_lit 185,Cv P) ::
 (nat_lit 186,Cu P) ::
 (nat_lit 188,Cr P) ::
 (nat_lit 189,Cq P) ::
 (nat_lit 190,Cp P) ::
 (nat_lit 192,Cm P) ::
 (nat_lit 193,Ck P) ::
 (nat_lit 195,Cj P) ::
 (nat_lit 196,Ci P) ::
 (nat_lit 204,Cg P) ::
 (nat_lit 206,Ce P) ::
 (nat_lit 207,Cd P) ::
 (nat_lit 209,Ca P) ::
 (nat_lit 210,BZ P) ::
 (nat_lit 211,BX P) ::
 (nat_lit 213,BW P) ::
 (nat_lit 214,BR P) ::
 (nat_lit 216,BP P) ::
 (nat_lit 217,BL P) ::
 (nat_lit 218,BK P) ::
 (nat_lit 220,BJ P) ::
 (nat_lit 221,Bx P) ::
 (nat_lit 223,Bw P) ::
 (nat_lit 224,Bv P) ::
 (nat_lit 225,Bu P) ::
 (nat_lit 227,Bt P) ::
 (nat_lit 228,Bs P) ::
 (nat_lit 230,Br P) ::
 (nat_lit 231,Bq P) ::
 (nat_lit 232,Bp P) ::
 (nat_lit 234,Bo P) ::
 (nat_lit 235,Bm P) ::
 (nat_lit 237,Bl P) ::
 (nat_lit 238,Bk P) ::
 (nat_lit 239,Bj P) ::
 (nat_lit 241,Bh P) ::
 (nat_lit 242,Bg P) ::
 (nat_lit 244,Bf P) ::
 (nat_lit 245,Bd P) ::
 (nat_lit 246,Bb P) ::
 (nat_lit 247,Az P) ::
 (nat_lit 249,Ay P) ::
 (nat_lit 250,Ax P) ::
 (nat_lit 252,Aw P) ::
 (nat_lit 253,Av P) ::
 (nat_lit 254,Ar P) ::
 (nat_lit 256,Aq P) ::
 (nat_lit 257,Ao P) ::
 (nat_lit 259,Am P) ::
 (nat_lit 260,Al P) ::
 (nat_lit 261,Ak P) ::
 (nat_lit 263,Aj P) ::
 (nat_lit 264,Ai P) ::
 (nat_lit 266,Ah P) ::
 (nat_lit 267,Ag P) ::
 (nat_lit 268,Af P) ::
 (nat_lit 270,Ae P) ::
 (nat_lit 271,Ad P) ::
 (nat_lit 273,Ac P) ::
 (nat_lit 274,Ab P) ::
 (nat_lit 275,Aa P) ::
 (nat_lit 277,z9 P) ::
 (nat_lit 278,z8 P) ::
 (nat_lit 280,z7 P) ::
 (nat_lit 281,z6 P) ::
 (nat_lit 282,zZ P) ::
 (nat_lit 284,zY P) ::
 (nat_lit 285,zX P) ::
 (nat_lit 287,zW P) ::
 (nat_lit 288,zV P) ::
 (nat_lit 289,zU P) ::
 (nat_lit 292,zT P) ::
 (nat_lit 293,zR P) ::
 (nat_lit 294,zQ P) ::
 (nat_lit 296,zP P) ::
 (nat_lit 297,zO P) ::
 (nat_lit 299,zN P) ::
 (nat_lit 300,zM P) ::
 (nat_lit 301,zL P) ::
 (nat_lit 304,zK P) ::
 (nat_lit 305,zJ P) ::
 (nat_lit 306,zH P) ::
 (nat_lit 308,zG P) ::
 (nat_lit 309,zF P) ::
 (nat_lit 311,zE P) ::
 (nat_lit 312,zB P) ::
 (nat_lit 313,zA P) ::
 (nat_lit 315,zy P) ::
 (nat_lit 316,zx P) ::
 (nat_lit 318,zu P) ::
 (nat_lit 319,zq P) ::
 (nat_lit 320,zp P) ::
 (nat_lit 322,zm P) ::
 (nat_lit 323,zj P) ::
 (nat_lit 325,zc P) ::
 (nat_lit 326,za P) ::
 (nat_lit 327,yZ P) ::
 (nat_lit 328,yX P) ::
 (nat_lit 329,yW P) ::
 (nat_lit 330,yV P) ::
 (nat_lit 331,yU P) ::
 (nat_lit 334,yS P) ::
 (nat_lit 336,yR P) ::
 (nat_lit 337,yQ P) ::
 (nat_lit 339,yP P) ::
 (nat_lit 340,yO P) ::
 (nat_lit 341,yN P) ::
 (nat_lit 343,yM P) ::
 (nat_lit 344,yL P) ::
 (nat_lit 346,yK P) ::
 (nat_lit 347,yJ P) ::
 (nat_lit 348,yI P) ::
 (nat_lit 350,yH P) ::
 (nat_lit 351,yG P) ::
 (nat_lit 353,yF P) ::
 (nat_lit 354,yE P) ::
 (nat_lit 355,yD P) ::
 (nat_lit 358,yC P) ::
 (nat_lit 359,yx P) ::
 (nat_lit 360,yw P) ::
 (nat_lit 363,yu P) ::
 (nat_lit 364,yt P) ::
 (nat_lit 365,yr P) ::
 (nat_lit 367,yq P) ::
 (nat_lit 368,yp P) ::
 (nat_lit 370,yj P) ::
 (nat_lit 371,yh P) ::
 (nat_lit 372,yg P) ::
 (nat_lit 374,yd P) ::
 (nat_lit 375,yc P) ::
 (nat_lit 377,xZ P) ::
 (nat_lit 378,xY P) ::
 (nat_lit 379,xX P) ::
 (nat_lit 381,xW P) ::
 (nat_lit 382,xV P) ::
 (nat_lit 384,xU P) ::
 (nat_lit 385,xT P) ::
 (nat_lit 386,xR P) ::
 (nat_lit 389,xQ P) ::
 (nat_lit 390,xP P) ::
 (nat_lit 391,xO P) ::
 (nat_lit 394,xM P) ::
 (nat_lit 395,xK P) :: []
def asK:List Addr:=[2,3,15,17,18,20,21,22,24,25,27,28,29,32,33,34,41,42,43,44,47,54,55,56,59,66,67,68,71,78,79,80,83,90,91,92,95,102,103,104,107,114,115,116,119,126,127,128,131,138,139,140,143,145,146,148,149,150,153,154,155,157,158,160,161,162,164,165,167,168,169,171,172,174,175,176,178,179,181,182,183,185,186,188,189,190,192,193,195,196,204,206,207,209,210,211,213,214,216,217,218,220,221,223,224,225,227,228,230,231,232,234,235,237,238,239,241,242,244,245,246,247,249,250,252,253,254,256,257,259,260,261,263,264,266,267,268,270,271,273,274,275,277,278,280,281,282,284,285,287,288,289,292,293,294,296,297,299,300,301,304,305,306,308,309,311,312,313,315,316,318,319,320,322,323,325,326,327,328,329,330,331,334,336,337,339,340,341,343,344,346,347,348,350,351,353,354,355,358,359,360,363,364,365,367,368,370,371,372,374,375,377,378,379,381,382,384,385,386,389,390,391,394,395]
theorem hkE:∀ P,asK=(Kf P).map (·.1):=fun _=>by kernel_rfl
def qv:Program:={ PySem.Challenge.pw_sluice_k53_parted with main:={ PySem.Challenge.pw_sluice_k53_parted.main with body:=[top0 43] } }
def qz:List Str:=("_wall":Str) :: ("MOST_WATER":Str) :: ("LONGEST_NAME":Str) :: ("LETTERS":Str) :: ("is_water":Str) :: ("is_name":Str) :: ("SluiceError":Str) :: ("NoRiver":Str) :: ("NoLicence":Str) :: ("NoNumber":Str) :: ("NoHolder":Str) :: ("NotYours":Str) :: ("NotAlone":Str) :: ("TooMuch":Str) :: ("Full":Str) :: ("MOST_REACHES":Str) :: ("MOUTH":Str) :: ("comes_to_mouth":Str) :: ("is_river":Str) :: ("way_of":Str) :: ("LAST_DAY":Str) :: ("is_licence":Str) :: ("day_filed":Str) :: ("most_of":Str) :: ("with_most":Str) :: ("MOST_LICENCES":Str) :: ("look_at_name":Str) :: ("Roll":Str) :: ("_law_cell_at":Str) :: ("_law_whole":Str) :: ("_law_draw":Str) :: ("_law_draws":Str) :: ("_law_alike_lines":Str) :: ("_law_right":Str) :: ("_law_not_alone":Str) :: ("_law_file":Str) :: ("_law_part":Str) :: []
end
theorem hp1:∀ w:World,(PySem.W.fencedOpening PySem.treeTable PySem.Challenge.rw_sluice_k53_parted.row.toRowW.prog w 6942).map (fun s=>(s.heap,s.gens,s.drawn,s.toks))=some (H0 w.params,#[],{},181):=by
  intro w;kernel_rfl
theorem hp2:∀ w:World,((H0 w.params).isNs mainGlobals && (#[]:Array GenState).size == 0,(H0 w.params).objs.size,(H0 w.params).nsMap mainGlobals "__annotations__")=(true,11,some (Value.ref 6)):=by
  intro w;kernel_rfl
theorem hp3:∀ (w:World) (os:OsState),PySem.W.topRun PySem.treeTable PySem.Challenge.rw_sluice_k53_parted.row.toRowW.prog w 11 (some (Value.ref 6)) 6942 ⟨H0 w.params,#[],{},181,os⟩ (PySem.W.topStub PySem.Challenge.rw_sluice_k53_parted.row.toRowW.prog)=some ⟨H1 w.params,#[],{},708,os⟩:=by
  intro w os;kernel_rfl
theorem hp4:∀ w:World,(fun os=>((PySem.W.staticsOk (importedModules PySem.Challenge.rw_sluice_k53_parted.row.toRowW.prog.main.body) (H0 w.params) (H1 w.params) && PySem.W.namesBound PySem.Challenge.rw_sluice_k53_parted.row.toRowW.prog (H1 w.params) && PySem.W.gensDone ⟨H1 w.params,#[],{},708,os⟩ && PySem.W.laidKept (H0 w.params) (H1 w.params)),PySem.W.openSeen qv qz (importedModules PySem.Challenge.rw_sluice_k53_parted.row.toRowW.prog.main.body) (fun s=>PySem.W.xlAt My.qv [] s && PySem.W.recOk (PySem.W.RowW.records PySem.Challenge.rw_sluice_k53_parted.row.toRowW) s) true ⟨H1 w.params,#[],{},708,os⟩,(PySem.W.Hook.obs (PySem.W.kHook My.Kf My.asK My.hkE)) ⟨H1 w.params,#[],{},708,os⟩))=fun _=>(true,PySem.W.openGood qv qz,(PySem.W.Hook.val (PySem.W.kHook My.Kf My.asK My.hkE)) w):=by
  intro w;kernel_rfl
theorem hlE:PySem.W.LeftO PySem.Challenge.rw_sluice_k53_parted.row.toRowW.prog qv My.qz (fun s=>PySem.W.xlAt My.qv [] s && PySem.W.recOk (PySem.W.RowW.records PySem.Challenge.rw_sluice_k53_parted.row.toRowW) s) (PySem.W.Hook.obs (PySem.W.kHook My.Kf My.asK My.hkE)) (PySem.W.Hook.val (PySem.W.kHook My.Kf My.asK My.hkE)) 6942:=PySem.W.LeftO.of_pieces hp1 hp2 hp3 (by decide) hp4
end My
namespace L2
open PySem PySem.Spec PyProof.Rows
abbrev Key:=Sum Int Str
def Hq:Key→Value→Bool
  | .inl k,v=>Value.isInt k v
  | .inr x,v=>Value.isStrOf x v
def keyH (w:World):Key→Int
  | .inl k=>hashInt k
  | .inr x=>hashStr w x
theorem cU:∀ {k:Key} {v:Value},Hq k v=true→(∃ i t,k=Sum.inl i∧v=Value.int i t)∨(∃ x t,k=Sum.inr x∧v=Value.str x t)
  | .inl i,v,h=>by
    obtain ⟨t,e⟩:=Value.isInt_shape (k:=i) (v:=v) h
    exact .inl ⟨i,t,rfl,e⟩
  | .inr x,v,h=>by
    obtain ⟨t,e⟩:=Value.isStrOf_shape (x:=x) (v:=v) h
    exact .inr ⟨x,t,rfl,e⟩
theorem Ho (a b:Int):decide ((Sum.inl a:Key)=Sum.inl b)=(a == b):=by
  by_cases e:a=b
  · subst e;simp
  · have h:¬ (Sum.inl a:Key)=Sum.inl b:=fun q=>e (Sum.inl.inj q)
    rw [decide_eq_false h]
    exact (beq_eq_false_iff_ne.mpr e).symm
theorem Hi (a b:Str):decide ((Sum.inr a:Key)=Sum.inr b)=decide (a=b):=by
  by_cases e:a=b
  · subst e;simp
  · have h:¬ (Sum.inr a:Key)=Sum.inr b:=fun q=>e (Sum.inr.inj q)
    rw [decide_eq_false h,decide_eq_false e]
theorem Hl (a:Int) (b:Str):decide ((Sum.inl a:Key)=Sum.inr b)=false:=decide_eq_false (fun q=>nomatch q)
theorem Hj (a:Str) (b:Int):decide ((Sum.inr a:Key)=Sum.inl b)=false:=decide_eq_false (fun q=>nomatch q)
def uc (prog:Program) (w:World):PySem.KeyKind prog w Key where
  is:=Hq
  hash:=keyH w
  inj:=fun v a b ha hb=>by
    rcases cU ha with ⟨i,t,rfl,rfl⟩ | ⟨x,t,rfl,rfl⟩
    · rcases cU hb with ⟨j,u,rfl,e⟩ | ⟨y,u,rfl,e⟩
      · injection e with e1 _;rw [e1]
      · exact nomatch e
    · rcases cU hb with ⟨j,u,rfl,e⟩ | ⟨y,u,rfl,e⟩
      · exact nomatch e
      · injection e with e1 _;rw [e1]
  byValue:=fun k v h=>by
    rcases cU h with ⟨i,t,rfl,rfl⟩ | ⟨x,t,rfl,rfl⟩ <;> rfl
  pyHash:=fun hv h=>by
    rcases cU hv with ⟨i,t,rfl,rfl⟩ | ⟨x,t,rfl,rfl⟩
    · exact wpAny_pyHash_int h
    · exact wpAny_pyHash_str h
  eqBool:=fun hu hv h=>by
    rcases cU hu with ⟨i,t,rfl,rfl⟩ | ⟨x,t,rfl,rfl⟩
    · rcases cU hv with ⟨j,u,rfl,rfl⟩ | ⟨y,u,rfl,rfl⟩
      · rw [Ho] at h;exact wpAny_eqBool_int h
      · rw [Hl] at h;exact SeqAt.EqAt.int_str i t y u _ _ _ _ h
    · rcases cU hv with ⟨j,u,rfl,rfl⟩ | ⟨y,u,rfl,rfl⟩
      · rw [Hj] at h;exact SeqAt.EqAt.str_int x t j u _ _ _ _ h
      · rw [Hi] at h;exact wpAny_eqBool_str h
  «strs»:=fun k x t v h=>by
    rcases cU h with ⟨i,u,rfl,e⟩ | ⟨y,u,rfl,e⟩
    · exact nomatch e
    · injection e with e1 _
      subst e1
      cases v <;> rfl
end L2
namespace L2
open PySem PySem.Spec PyProof.Rows
inductive V where
  | non | bl (b:Bool) | int (i:Int) | str (x:Str) | byt (b:Array UInt8) | flt (b:UInt64) | ref (a:Addr) | ty (n:String)
  deriving DecidableEq
def RelV:V→Value→Prop
  | .non,u=>u=Value.none
  | .bl b,u=>u=Value.bool b
  | .int i,u=>∃ t,u=Value.int i t
  | .str x,u=>∃ t,u=Value.str x t
  | .byt b,u=>∃ t,u=Value.bytes b t
  | .flt b,u=>∃ t,u=Value.float b t
  | .ref a,u=>u=Value.ref a
  | .ty n,u=>u=Value.type n
abbrev Vals:List V→List Value→Prop:=Paired RelV
theorem Vals.length {xs:List V} {us:List Value} (r:Vals xs us):xs.length=us.length:=Paired.length r
theorem Vals.get:∀ {xs:List V} {us:List Value} {i:Nat} {x:V},Vals xs us→xs[i]?=some x→∃ u,us[i]?=some u∧RelV x u
  | _,_,_,_,.nil,e=>by simp at e
  | _,_,0,_,.cons r _,e=>by simp at e;subst e;exact ⟨_,rfl,r⟩
  | _,_,i + 1,x,.cons _ t,e=>by
    obtain ⟨u,h1,h2⟩:=Vals.get (i:=i) (x:=x) t (by simpa using e)
    exact ⟨u,by simpa using h1,h2⟩
theorem Vals.set {x:V} {u:Value} (r:RelV x u):∀ {xs:List V} {us:List Value} (i:Nat),Vals xs us→Vals (xs.set i x) (us.set i u)
  | _,_,_,.nil=>.nil
  | _,_,0,.cons _ t=>.cons r t
  | _,_,i + 1,.cons q t=>.cons q (Vals.set r i t)
theorem Vals.append:∀ {xs ys:List V} {us ws:List Value},Vals xs us→Vals ys ws→Vals (xs++ys) (us++ws)
  | _,_,_,_,.nil,s=>s
  | _,_,_,_,.cons r t,s=>.cons r (Vals.append t s)
theorem Vals.take:∀ {xs:List V} {us:List Value} (n:Nat),Vals xs us→Vals (xs.take n) (us.take n)
  | _,_,0,_=>.nil
  | _,_,_ + 1,.nil=>.nil
  | _,_,n + 1,.cons r t=>.cons r (Vals.take n t)
theorem Vals.drop:∀ {xs:List V} {us:List Value} (n:Nat),Vals xs us→Vals (xs.drop n) (us.drop n)
  | _,_,0,r=>r
  | _,_,_ + 1,.nil=>.nil
  | _,_,n + 1,.cons _ t=>Vals.drop n t
def uZ:Option V→Option Value→Prop
  | some v,some u=>RelV v u
  | none,none=>True
  | _,_=>False
def KV {κ:Type}:List (κ × V)→List (κ × Value)→Prop:=Paired fun (p:κ × V) (q:κ × Value)=>p.1=q.1∧RelV p.2 q.2
def kV:Key→V
  | .inl i=>.int i
  | .inr x=>.str x
inductive HO where
  /-- a list -/
  | lst (xs:List V)
  /-- a tuple (never changes) -/
  | tup (xs:List V)
  /-- a dict whose keys are ints and texts; one whose keys are tuples of ints and texts (the empty one is both) -/
  | dK (kvs:List (Key × V)) | dT (kvs:List (List Key × V))
  /-- a set of ints: its members, its size -/
  | set (S:Int→Bool) (n:Nat)
  /-- an instance of the class at C, its dict at dx, its attributes -/
  | ins (C dx:Addr) (fs:List (Str × V))
  /-- the dict of the instance at x -/
  | own (x:Addr)
  /-- the dict of an exception -/
  | xd (fs:List (Str × V))
  /-- a bound method, f of x -/
  | met (f x:Addr)
  /-- a range object lo, lo + 1, .. below hi -/
  | rng (lo hi:Int)
  /-- a thing that is known to the object (the script; a dict while a loop walks it): read, never written while it is so -/
  | frz (o:Obj) (u:HO)
  /-- a code object's table -/
  | tbl (ps:Array Value)
  /-- any other thing, by what is true of its one object (a def of one's own: SetO a S n := HO.ext fun h => ..) -/
  | ext (φ:Heap→Prop)
abbrev Hp:=Addr→Option HO
def upd (H:Hp) (a:Addr) (o:HO):Hp:=fun b=>if b=a then some o else H b
theorem cB {H:Hp} {a:Addr} {o:HO}:upd H a o a=some o:=by unfold upd;rw [if_pos rfl]
theorem aR {H:Hp} {a b:Addr} {o:HO} (h:b≠a):upd H a o b=H b:=by unfold upd;rw [if_neg h]
theorem cg {H:Hp} {a b:Addr} {o:HO} (h:H a=some o) (h':H b=none):a≠b:=by
  intro e;subst e;rw [h] at h';cases h'
section
variable (P:Program) (w:World)
def fG (H:Hp) (h:Heap) (a:Addr):HO→Prop
  | .lst xs=>xs.length≤sizeLine∧∃ (its:List Value) (n:Nat),Vals xs its∧h.get? a=some { cls:=.type "list",data:=.seq its.toArray n }
  | .tup xs=>xs.length≤sizeLine∧∃ its:List Value,Vals xs its∧IsTup h a its.toArray
  | .dK kvs=>kvs.length≤sizeLine∧(a == sysModules)=false∧∃ vs,KV kvs vs∧h.DictOf (uc P w) a vs
  | .dT kvs=>kvs.length≤sizeLine∧(a == sysModules)=false∧∃ xs:List (List Key × Addr × Value),
      Paired (fun (p:List Key × V) (q:List Key × Addr × Value)=>p.1=q.1∧H q.2.1=some (.tup (p.1.map kV))∧RelV p.2 q.2.2) kvs xs ∧
      ∃ o es ep,h.get? a=some o∧o.ExactDict∧o.data=.dict es ep∧es.toList=xs.map (entryOfKey (tupleKind (uc P w)))∧(xs.map (·.1)).Nodup
  | .set S n=>h.SetOf (intKind P w) a S n
  | .ins C dx fs=>H dx=some (.own a)∧fs.length≤1000∧dx≠a∧h.get? a=some (PySem.W.instObj C dx) ∧
      ∃ mA,h.Ns1 dx mA∧(∀ f,uZ (fs.lookup f) (mA f))∧PySem.Within mA (fs.map (·.1))
  | .own _=>∃ o,h.get? a=some o
  | .xd fs=>∃ mA,h.Ns1 a mA∧∀ f,uZ (fs.lookup f) (mA f)
  | .rng lo hi=>∃ t u v,h.get? a=some { cls:=.type "range",data:=.fields #[.int lo t,.int hi u,.int 1 v] }
  | .frz o u=>h.get? a=some o∧fG H h a u
  | .tbl ps=>h.get? a=some { cls:=.none,data:=.fields ps }
  | .met f x=>h.get? a=some (PySem.W.methodObj (.ref f) (.ref x))
  | .ext φ=>φ h∧(∃ o,h.get? a=some o)∧∀ h1 h2:Heap,φ h1→(∀ o,h1.get? a=some o→h2.get? a=some o)→φ h2
def HOk (H:Hp) (h:Heap):Prop:=∀ a o,H a=some o→fG P w H h a o
end
section
variable {P:Program} {w:World} {H H':Hp} {h h':Heap} {a:Addr} {o:HO}
theorem fG.lt (x:fG P w H h a o):a<h.objs.size:=by
  cases o with
  | lst xs=>obtain ⟨_,_,_,_,e⟩:=x;exact Heap.lt_size e
  | tup xs=>obtain ⟨_,_,_,p⟩:=x;exact p.lt
  | dK kvs=>obtain ⟨_,_,_,_,o,_,_,e,_⟩:=x;exact Heap.lt_size e
  | dT kvs=>obtain ⟨_,_,_,_,o,_,_,e,_⟩:=x;exact Heap.lt_size e
  | set S n=>obtain ⟨o,_,_,_,e,_⟩:=x;exact Heap.lt_size e
  | ins C dx fs=>obtain ⟨_,_,_,e,_⟩:=x;exact Heap.lt_size e
  | own y=>obtain ⟨_,e⟩:=x;exact Heap.lt_size e
  | xd fs=>obtain ⟨_,⟨_,_,_,e,_⟩,_⟩:=x;exact Heap.lt_size e
  | rng lo hi=>obtain ⟨_,_,_,e⟩:=x;exact Heap.lt_size e
  | frz ob u=>obtain ⟨e,_⟩:=x;exact Heap.lt_size e
  | tbl ps=>exact Heap.lt_size (show h.get? a=some _ from x)
  | met f y=>exact Heap.lt_size (show h.get? a=some _ from x)
  | ext φ=>obtain ⟨_,⟨_,e⟩,_⟩:=x;exact Heap.lt_size e
theorem Paired.Qn {α β:Type} {F G:α→β→Prop}:∀ {l₁:List α} {l₂:List β},Paired F l₁ l₂→(∀ a b,F a b→G a b)→Paired G l₁ l₂
  | _,_,.nil,_=>.nil
  | _,_,.cons r t,f=>.cons (f _ _ r) (Paired.Qn t f)
theorem fG.stay (x:fG P w H h a o) (k:∀ b u,(b=a∨H b=some (.own a))→h.get? b=some u→h'.get? b=some u)
    (ho:∀ b,H b=some (.own a)→H' b=some (.own a)) (ht:∀ b xs,H b=some (.tup xs)→H' b=some (.tup xs)):fG P w H' h' a o:=by
  induction o with
  | lst xs=>obtain ⟨z,its,n,r,e⟩:=x;exact ⟨z,its,n,r,k _ _ (.inl rfl) e⟩
  | tup xs=>obtain ⟨z,its,r,ob,e,c⟩:=x;exact ⟨z,its,r,ob,k _ _ (.inl rfl) e,c⟩
  | dK kvs=>obtain ⟨z,y,vs,r,ob,es,ep,e,c⟩:=x;exact ⟨z,y,vs,r,ob,es,ep,k _ _ (.inl rfl) e,c⟩
  | dT kvs =>
    obtain ⟨z,y,xs,r,ob,es,ep,e,c⟩:=x
    exact ⟨z,y,xs,Paired.Qn r fun p q z=>⟨z.1,ht _ _ z.2.1,z.2.2⟩,ob,es,ep,k _ _ (.inl rfl) e,c⟩
  | set S n=>obtain ⟨ob,es,ep,t,e,c⟩:=x;exact ⟨ob,es,ep,t,k _ _ (.inl rfl) e,c⟩
  | ins C dx fs =>
    obtain ⟨d,z,ne,e,mA,⟨od,es,ep,e2,c⟩,r⟩:=x
    exact ⟨ho _ d,z,ne,k _ _ (.inl rfl) e,mA,⟨od,es,ep,k _ _ (.inr d) e2,c⟩,r⟩
  | own y=>obtain ⟨ob,e⟩:=x;exact ⟨ob,k _ _ (.inl rfl) e⟩
  | xd fs=>obtain ⟨mA,⟨od,es,ep,e,c⟩,r⟩:=x;exact ⟨mA,⟨od,es,ep,k _ _ (.inl rfl) e,c⟩,r⟩
  | rng lo hi=>obtain ⟨t,u,v,e⟩:=x;exact ⟨t,u,v,k _ _ (.inl rfl) e⟩
  | frz ob u ih=>obtain ⟨e,q⟩:=x;exact ⟨k _ _ (.inl rfl) e,ih q⟩
  | tbl ps =>
    have e:h.get? a=some { cls:=.none,data:=.fields ps }:=x
    show h'.get? a=some { cls:=.none,data:=.fields ps }
    exact k a _ (.inl rfl) e
  | met f y =>
    have e:h.get? a=some (PySem.W.methodObj (.ref f) (.ref y)):=x
    show h'.get? a=some (PySem.W.methodObj (.ref f) (.ref y))
    exact k a _ (.inl rfl) e
  | ext φ=>obtain ⟨p,⟨o,e⟩,st⟩:=x;exact ⟨st _ _ p fun o q=>k _ _ (.inl rfl) q,⟨o,k _ _ (.inl rfl) e⟩,st⟩
theorem HOk.lt (x:HOk P w H h) (e:H a=some o):a<h.objs.size:=(x a o e).lt
theorem HOk.fresh (x:HOk P w H h) (e:h.objs.size≤a):H a=none:=by
  cases q:H a with
  | none=>rfl
  | some u=>exact absurd (Nat.lt_of_lt_of_le (x.lt q) e) (Nat.lt_irrefl _)
theorem HOk.kept (x:HOk P w H h) (k:∀ b u,h.get? b=some u→h'.get? b=some u):HOk P w H h':=fun a o e =>
  (x a o e).stay (fun b u _ q=>k b u q) (fun _ q=>q) fun _ _ q=>q
theorem HOk.laid (x:HOk P w H h) (k:∀ b u,h.get? b=some u→h'.get? b=some u) (hp:h.objs.size≤a) (new:fG P w (upd H a o) h' a o):HOk P w (upd H a o) h':=fun b u e=>by
  have hn:=x.fresh hp
  by_cases hb:b=a
  · subst hb;rw [cB] at e;cases e;exact new
  · rw [aR hb] at e
    exact (x b u e).stay (fun c v _ q=>k c v q) (fun c q=>by rw [aR (cg q hn)];exact q) fun c xs q=>by rw [aR (cg q hn)];exact q
end
def Rd (H:Hp) (a:Addr) (u:HO):Prop:=H a=some u∨∃ o,H a=some (.frz o u)
theorem Rd.ok {P:Program} {w:World} {H:Hp} {h:Heap} {a:Addr} {u:HO} (r:Rd H a u) (x:HOk P w H h):fG P w H h a u:=by
  rcases r with r | ⟨o,r⟩
  · exact x a u r
  · obtain ⟨_,q⟩:=x a _ r
    exact q
def Mut:Option HO→Prop
  | some (.lst _)=>True
  | some (.dK _)=>True
  | some (.dT _)=>True
  | some (.set _ _)=>True
  | some (.ins _ _ _)=>True
  | some (.ext _)=>True
  | _=>False
section
variable {P:Program} {w:World} {H:Hp} {h h':Heap} {x e:Addr} {o':HO}
theorem HOk.write (ok:HOk P w H h) (mu:Mut (H x)) (he:e=x∨H e=some (.own x)) (k:∀ b u,b≠e→h.get? b=some u→h'.get? b=some u) (heo:∃ u,h'.get? e=some u)
    (new:fG P w (upd H x o') h' x o'):HOk P w (upd H x o') h':=fun b u q=>by
  have nown:∀ c y,H c=some (.own y)→c≠x:=fun c y r z=>by subst z;rw [r] at mu;exact mu
  have ntup:∀ c xs,H c=some (.tup xs)→c≠x:=fun c xs r z=>by subst z;rw [r] at mu;exact mu
  by_cases hb:b=x
  · subst hb;rw [cB] at q;cases q;exact new
  · rw [aR hb] at q
    by_cases hbe:b=e
    · have q':H b=some (.own x):=by
        rcases he with z | z
        · exact absurd (hbe.trans z) hb
        · rw [hbe];exact z
      rw [q] at q';cases q'
      obtain ⟨v,hv⟩:=heo
      exact ⟨v,by rw [hbe];exact hv⟩
    · refine (ok b u q).stay (fun c v hc r=>k c v ?_ r) (fun c r=>by rw [aR (nown c b r)];exact r) fun c xs r=>by rw [aR (ntup c xs r)];exact r
      rcases hc with rfl | hc
      · exact hbe
      · rintro rfl
        rcases he with z | z
        · exact nown c b hc z
        · rw [hc] at z;cases z;exact hb rfl
end
structure Un (fs ex:List Addr) (H H':Hp) (h h':Heap):Prop where
  keep:∀ b o,h.get? b=some o→H b=none→b ∉ fs→b ∉ ex→h'.get? b=some o
  slot:∀ b o,h.get? b=some o→H b=none→b∈fs→b ∉ ex→∃ sl,h'.get? b=some { o with slots:=sl }
  free:∀ b o,h.get? b=some o→H b=none→b ∉ ex→H' b=none
  there:∀ b o,h.get? b=some o→b ∉ ex→∃ o',h'.get? b=some o'
  tups:∀ b xs,H b=some (.tup xs)→H' b=some (.tup xs)
  frzs:∀ b o u,H b=some (.frz o u)→H' b=some (.frz o u)
  tbls:∀ b ps,H b=some (.tbl ps)→∃ more,H' b=some (.tbl (ps++more))
section
variable {fs fs' ex ex':List Addr} {H H1 H2:Hp} {h h1 h2 h':Heap} {a x e:Addr} {o:HO}
theorem Un.any (u:Un fs ex H H1 h h1) {b:Addr} {ob:Obj} (q:h.get? b=some ob) (n:H b=none) (hx:b ∉ ex):∃ sl,h1.get? b=some { ob with slots:=sl }:=by
  by_cases hb:b∈fs
  · exact u.slot b ob q n hb hx
  · exact ⟨ob.slots,u.keep b ob q n hb hx⟩
theorem Un.kept (k:∀ b u,h.get? b=some u→h'.get? b=some u):Un fs ex H H h h' :=
  ⟨fun b ob q _ _ _=>k b ob q,fun b ob q _ _ _=>⟨ob.slots,k b ob q⟩,fun _ _ _ n _=>n,fun b ob q _=>⟨ob,k b ob q⟩,fun _ _ q=>q,fun _ _ _ q=>q,fun _ ps q=>⟨#[],by rw [q];simp⟩⟩
theorem Un.refl:Un fs ex H H h h:=Un.kept fun _ _ q=>q
theorem Un.laid (k:∀ b u,h.get? b=some u→h'.get? b=some u) (hp:h.objs.size≤a) (hn:H a=none):Un fs ex H (upd H a o) h h' where
  keep:=fun b u q _ _ _=>k b u q
  slot:=fun b u q _ _ _=>⟨u.slots,k b u q⟩
  free:=fun b u q n _=>by rw [aR (Nat.ne_of_lt (Nat.lt_of_lt_of_le (Heap.lt_size q) hp))];exact n
  there:=fun b u q _=>⟨u,k b u q⟩
  tups:=fun b xs q=>by rw [aR (cg q hn)];exact q
  frzs:=fun b u xs q=>by rw [aR (cg q hn)];exact q
  tbls:=fun b ps q=>⟨#[],by rw [aR (cg q hn),q];simp⟩
theorem Un.write (mu:Mut (H x)) (he:e=x∨H e=some (.own x)) (k:∀ b u,b≠e→h.get? b=some u→h'.get? b=some u) (heo:∃ u,h'.get? e=some u):Un fs ex H (upd H x o) h h':=by
  have hx:∀ b,H b=none→b≠x:=fun b n z=>by subst z;rw [n] at mu;exact mu
  have hb:∀ b,H b=none→b≠e:=fun b n z=>by
    subst z
    rcases he with r | r
    · exact hx b n r
    · rw [n] at r;cases r
  have hm:∀ b u,H b=some u→¬ Mut (some u)→b≠x:=fun b u q nm z=>by subst z;rw [q] at mu;exact nm mu
  refine ⟨fun b u q n _ _=>k b u (hb b n) q,fun b u q n _ _=>⟨u.slots,k b u (hb b n) q⟩,fun b u q n _=>by rw [aR (hx b n)];exact n,fun b u q _=>?_,
    fun b xs q=>by rw [aR (hm b _ q fun z=>z)];exact q,fun b u xs q=>by rw [aR (hm b _ q fun z=>z)];exact q,fun b ps q=>⟨#[],by rw [aR (hm b _ q fun z=>z),q];simp⟩⟩
  by_cases hbe:b=e
  · subst hbe;exact heo
  · exact ⟨u,k b u hbe q⟩
end
def trk (h:Heap) (H:Hp):List Addr:=(List.range h.objs.size).filter fun a=>(H a).isSome
def wk (h:Heap) (H:Hp):Heap:=PySem.W.hideAll h (trk h H)
theorem uE (h:Heap) (H:Hp):(wk h H).objs.size=h.objs.size:=PySem.W.hideAll_size _ _
theorem wj {h:Heap} {H:Hp} {b:Addr} {o:Obj} (e:h.get? b=some o) (n:H b=none):(wk h H).get? b=some o :=
  PySem.W.hideAll_get _ e fun hm=>by
    have q:(H b).isSome=true:=(List.mem_filter.mp hm).2
    rw [n] at q;simp at q
theorem Fq {h:Heap} {H:Hp} {b:Addr} {o:Obj} (e:(wk h H).get? b=some o):h.get? b=some o∧H b=none:=by
  have e':h.get? b=some o:=PySem.W.of_hideAll (trk h H) e
  refine ⟨e',?_⟩
  cases q:H b with
  | none=>rfl
  | some x =>
    have hm:b∈trk h H:=List.mem_filter.mpr ⟨List.mem_range.mpr (Heap.lt_size e'),by simp [q]⟩
    have z:(wk h H).get? b=none:=PySem.W.hideAll_none (trk h H) hm
    rw [z] at e;cases e
end L2
namespace L2
open PySem PySem.Spec PyProof.Rows
structure Mod (K:PySem.W.Frag) (mg:Str→Option Value) (base:Heap):Prop where
  kin:K.In base
  glob:base.Ns mainGlobals mg
  blt:∃ mb,base.Ns builtinsNs mb∧∀ x:Str,x≠"__name__"→mb x=bootBuiltins x
  nolimit:base.NoLimit
structure Cx where
  prog:Program
  w:World
  K:PySem.W.Frag
  mg:Str→Option Value
  base:Heap
  A:Around
  N:List Str
  s₀:Shared
  H₀:Hp
  env:Env
  outer:List Env
  stack:List Env
  ex:List Addr
  fn:Str→Bool
  calm:Bool
  pn:List (Addr × Obj)
  xe:Value→Shared→Prop
def frs (l:List Env):List Addr:=l.filterMap (·.frame)
abbrev Cx.fs (X:Cx):List Addr:=frs X.outer
def Vis (sc:Scope) (x:Str):Prop:=sc.names.lookup x=some .local∨sc.names.lookup x=some .cell∨sc.names.lookup x=some .free
def Loc (sc:Scope) (x:Str):Prop:=sc.names.lookup x=some .local∨sc.names.lookup x=some .cell
def Look (env:Env) (h:Heap) (m:Str→Option Value) (x:Str) (u:Value):Prop :=
  (env.kindOf x=some .local∧m x=some u)∨((env.kindOf x=some .cell∨env.kindOf x=some .free)∧∃ c,env.cells.lookup x=some c∧h.IsCell c (some u))
structure Cx.Ok (X:Cx):Prop where
  mod:Mod X.K X.mg X.base
  kind:X.env.scope.kind=.function
  glob:X.env.globals=mainGlobals
  blt:X.env.builtins=builtinsNs
  above:X.s₀.heap.objs.size≤X.env.locals
  inj:∀ x y c,X.env.cells.lookup x=some c→X.env.cells.lookup y=some c→x=y
  has:∀ x,(X.env.kindOf x=some .cell∨X.env.kindOf x=some .free)→∃ c,X.env.cells.lookup x=some c
  cab:∀ x c,X.fn x=true→X.env.cells.lookup x=some c→X.s₀.heap.objs.size≤c
  hd:X.calm=true→X.A.handled=none
  frames:X.A.frames=some X.stack
  stk:X.stack=X.outer∨(X.stack=X.env :: X.outer∧X.env.frame=some X.env.locals)
  exf:∀ b∈X.ex,b≠X.env.locals∧∀ x c,X.env.cells.lookup x=some c→c≠b
  bs:∀ b o,X.base.get? b=some o→X.s₀.heap.get? b=some o∧X.H₀ b=none
  bsz:X.base.objs.size≤X.s₀.heap.objs.size
  noex:∀ b o,X.base.get? b=some o→b ∉ X.ex
  exfs:∀ b∈X.ex,b ∉ X.fs
  qF:X.s₀.heap.FunFrames X.base X.outer
  frf:∀ b∈X.fs,X.H₀ b=none
structure Inv (X:Cx) (pins:List (Addr × Obj)) (σ:List (Option V)) (H:Hp) (s:Shared):Prop where
  ok:X.Ok
  os:s.os=X.s₀.os
  bare:AllBare s.gens
  base:Un X.fs X.ex X.H₀ H X.s₀.heap s.heap
  loc:∃ m,s.heap.Ns X.env.locals m∧∀ (i:Nat) (x:Str) (v:V),X.N[i]?=some x→σ[i]?=some (some v)→Vis X.env.scope x→∃ u,RelV v u∧Look X.env s.heap m x u
  cell:∀ x c,X.env.cells.lookup x=some c→∃ v,s.heap.IsCell c v
  free:H X.env.locals=none
  freeC:∀ x c,X.env.cells.lookup x=some c→H c=none
  pin:∀ p∈X.pn++pins,s.heap.get? p.1=some p.2∧H p.1=none∧p.1≠X.env.locals∧p.1 ∉ X.fs∧∀ v,p.2.data≠.cell v
  hok:HOk X.prog X.w H s.heap
  len:σ.length=X.N.length
section
variable {X:Cx} {pins:List (Addr × Obj)} {σ:List (Option V)} {H H':Hp} {s:Shared} {h':Heap}
theorem Cx.Ok.nofr (ok:X.Ok) {b:Addr} {o:Obj} (e:X.base.get? b=some o):b ∉ X.fs:=fun hb=>by
  have:=(ok.qF.mem hb).1
  rw [e] at this;cases this
theorem Inv.bs (I:Inv X pins σ H s):∀ b o,X.base.get? b=some o→s.heap.get? b=some o∧H b=none:=fun b o e =>
  ⟨I.base.keep b o (I.ok.bs b o e).1 (I.ok.bs b o e).2 (I.ok.nofr e) (I.ok.noex b o e),I.base.free b o (I.ok.bs b o e).1 (I.ok.bs b o e).2 (I.ok.noex b o e)⟩
theorem Inv.bk (I:Inv X pins σ H s):∀ b o,X.base.get? b=some o→s.heap.get? b=some o:=fun b o e=>(I.bs b o e).1
theorem Inv.mod (I:Inv X pins σ H s):Mod X.K X.mg X.base:=I.ok.mod
theorem Inv.kIn (I:Inv X pins σ H s):X.K.In s.heap:=I.ok.mod.kin.keeps I.bk
theorem Inv.lt (I:Inv X pins σ H s):X.env.locals<s.heap.objs.size:=let ⟨_,hn,_⟩:=I.loc;hn.lt
theorem Inv.sz (I:Inv X pins σ H s):X.s₀.heap.objs.size≤s.heap.objs.size:=Nat.le_trans I.ok.above (Nat.le_of_lt I.lt)
theorem Inv.nofs (I:Inv X pins σ H s) {a:Addr} (h:s.heap.objs.size≤a):a ∉ X.fs:=fun hb=>by
  obtain ⟨_,o,ho,_⟩:=I.ok.qF.mem hb
  exact absurd (Nat.lt_of_lt_of_le (Heap.lt_size ho) (Nat.le_trans I.sz h)) (Nat.lt_irrefl _)
theorem Inv.cne (I:Inv X pins σ H s):∀ x c,X.env.cells.lookup x=some c→c≠X.env.locals:=fun x c e z=>by
  obtain ⟨v,o,ho,hd⟩:=I.cell x c e
  obtain ⟨m,⟨o',es,ep,ho',hd',_⟩,_⟩:=I.loc
  rw [z,ho'] at ho;cases ho;rw [hd'] at hd;cases hd
theorem Inv.qF (I:Inv X pins σ H s):s.heap.FunFrames X.base X.outer:=by
  have all:∀ (l:List Env),(∀ b∈frs l,b∈X.fs)→X.s₀.heap.FunFrames X.base l→s.heap.FunFrames X.base l:=by
    intro l
    induction l with
    | nil=>intro _ _;trivial
    | cons env r ih =>
      intro hs hl
      obtain ⟨hk,⟨L,o,hf,hn,ho,hd⟩,hr⟩:=hl
      have hL:L∈X.fs:=hs L (by unfold frs;rw [List.filterMap_cons,hf];exact List.mem_cons_self)
      obtain ⟨sl,e⟩:=I.base.slot L o ho (I.ok.frf L hL) hL fun z=>I.ok.exfs L z hL
      exact ⟨hk,⟨L,_,hf,hn,e,hd⟩,ih (fun b hb=>hs b (by unfold frs;rw [List.filterMap_cons,hf];exact List.mem_cons_of_mem _ hb)) hr⟩
  exact all X.outer (fun _ hb=>hb) I.ok.qF
theorem Inv.stack (I:Inv X pins σ H s):s.heap.FunFrames X.base X.stack:=by
  rcases I.ok.stk with e | ⟨e,hf⟩
  · rw [e];exact I.qF
  · rw [e]
    obtain ⟨m,hn,_⟩:=I.loc
    refine .cons (by rw [I.ok.kind];decide) hf hn ?_ I.qF
    exact Heap.get?_none_of_le (Nat.le_trans I.ok.bsz I.ok.above)
theorem Inv.rQ (I:Inv X pins σ H s):∀ b∈frs X.stack,b∈X.env.locals :: X.fs:=fun b hb=>by
  rcases I.ok.stk with e | ⟨e,hf⟩
  · rw [e] at hb;exact List.mem_cons_of_mem _ hb
  · rw [e] at hb
    unfold frs at hb
    rw [List.filterMap_cons,hf] at hb
    exact hb
theorem Inv.oX (I:Inv X pins σ H s):∀ b∈frs X.stack,H b=none:=fun b hb=>by
  rcases List.mem_cons.mp (I.rQ b hb) with e | hb
  · rw [e];exact I.free
  · obtain ⟨_,o,ho,_⟩:=I.ok.qF.mem hb
    exact I.base.free b o ho (I.ok.frf b hb) fun z=>I.ok.exfs b z hb
theorem Inv.step {g':Array GenState} {t':Nat} {d':Drawn} {ch:List Addr} (I:Inv X pins σ H s)
    (hch:∀ b∈ch,(b∈X.ex∨X.s₀.heap.objs.size≤b)∧b≠X.env.locals∧(∀ x c,X.env.cells.lookup x=some c→c≠b)∧∀ p∈X.pn++pins,p.1≠b)
    (keep:∀ b o,b≠X.env.locals→b ∉ X.fs→b ∉ ch→s.heap.get? b=some o→H b=none→h'.get? b=some o)
    (slot:∀ b o,b≠X.env.locals→b∈X.fs→b ∉ ch→s.heap.get? b=some o→H b=none→∃ sl,h'.get? b=some { o with slots:=sl }) (free:∀ b o,b ∉ ch→s.heap.get? b=some o→H b=none→H' b=none)
    (there:∀ b o,b ∉ ch→s.heap.get? b=some o→∃ o',h'.get? b=some o')
    (tups:∀ b xs,H b=some (.tup xs)→H' b=some (.tup xs)) (frzs:∀ b o u,H b=some (.frz o u)→H' b=some (.frz o u)) (tbls:∀ b ps,H b=some (.tbl ps)→∃ more,H' b=some (.tbl (ps++more)))
    (ns:∀ m,s.heap.Ns X.env.locals m→h'.Ns X.env.locals m) (hok:HOk X.prog X.w H' h') (hg:AllBare g') :
    Inv X pins σ H' { s with heap:=h',gens:=g',drawn:=d',toks:=t' }:=by
  have neL:∀ b o,X.s₀.heap.get? b=some o→b≠X.env.locals:=fun b o e=>Nat.ne_of_lt (Nat.lt_of_lt_of_le (Heap.lt_size e) I.ok.above)
  have neC:∀ b o,X.s₀.heap.get? b=some o→b ∉ X.ex→b ∉ ch:=fun b o e hx hb=>by
    rcases (hch b hb).1 with z | z
    · exact hx z
    · exact absurd (Nat.lt_of_lt_of_le (Heap.lt_size e) z) (Nat.lt_irrefl _)
  have cellK:∀ x c,X.env.cells.lookup x=some c→∀ v,s.heap.IsCell c v→h'.IsCell c v:=fun x c e v ⟨o,ho,hd⟩=>by
    have nch:c ∉ ch:=fun z=>(hch c z).2.2.1 x c e rfl
    by_cases hc:c∈X.fs
    · obtain ⟨sl,q⟩:=slot c o (I.cne x c e) hc nch ho (I.freeC x c e)
      exact ⟨_,q,hd⟩
    · exact ⟨o,keep c o (I.cne x c e) hc nch ho (I.freeC x c e),hd⟩
  refine ⟨I.ok,I.os,hg,⟨fun b o e n hb hx=>?_,fun b o e n hb hx=>?_,fun b o e n hx=>?_,fun b o e hx=>?_,fun b xs e=>tups b xs (I.base.tups b xs e),fun b o xs e=>frzs b o xs (I.base.frzs b o xs e),fun b ps e=>?_⟩,?_,fun x c e=>?_,?_,fun x c e=>?_,fun p hp=>?_,hok,I.len⟩
  · exact keep b o (neL b o e) hb (neC b o e hx) (I.base.keep b o e n hb hx) (I.base.free b o e n hx)
  · obtain ⟨sl,e1⟩:=I.base.slot b o e n hb hx
    obtain ⟨sl',e2⟩:=slot b _ (neL b o e) hb (neC b o e hx) e1 (I.base.free b o e n hx)
    exact ⟨sl',e2⟩
  · obtain ⟨o',e1⟩:=I.base.there b o e hx
    exact free b o' (neC b o e hx) e1 (I.base.free b o e n hx)
  · obtain ⟨o',e1⟩:=I.base.there b o e hx
    exact there b o' (neC b o e hx) e1
  · obtain ⟨m1,e1⟩:=I.base.tbls b ps e
    obtain ⟨m2,e2⟩:=tbls b _ e1
    exact ⟨m1++m2,by rw [e2,Array.append_assoc]⟩
  · obtain ⟨m,hn,hl⟩:=I.loc
    refine ⟨m,ns m hn,fun i x v e1 e2 e3=>?_⟩
    obtain ⟨u,r,l⟩:=hl i x v e1 e2 e3
    refine ⟨u,r,?_⟩
    rcases l with l | ⟨k,c,e,z⟩
    · exact .inl l
    · exact .inr ⟨k,c,e,cellK x c e _ z⟩
  · obtain ⟨v,z⟩:=I.cell x c e
    exact ⟨v,cellK x c e v z⟩
  · obtain ⟨m,⟨o,_,_,ho,_⟩,_⟩:=I.loc
    exact free _ o (fun z=>(hch _ z).2.1 rfl) ho I.free
  · obtain ⟨v,o,ho,hd⟩:=I.cell x c e
    exact free c o (fun z=>(hch c z).2.2.1 x c e rfl) ho (I.freeC x c e)
  · obtain ⟨e,n,ne,nf,d⟩:=I.pin p hp
    have nch:p.1 ∉ ch:=fun z=>(hch p.1 z).2.2.2 p hp rfl
    exact ⟨keep p.1 p.2 ne nf nch e n,free p.1 p.2 nch e n,ne,nf,d⟩
theorem Inv.un {t':Nat} (I:Inv X pins σ H s) (u:Un X.fs [] H H' s.heap h') (hok:HOk X.prog X.w H' h'):Inv X pins σ H' { s with heap:=h',toks:=t' }:=by
  obtain ⟨m,⟨o,es,ep,ho,r⟩,_⟩:=id I.loc
  obtain ⟨sl,hL⟩:=u.any ho I.free (by simp)
  exact I.step (g':=s.gens) (d':=s.drawn) (ch:=[]) (fun _ z=>nomatch z) (fun b o _ hb _ e n=>u.keep b o e n hb (by simp)) (fun b o _ hb _ e n=>u.slot b o e n hb (by simp)) (fun b o _ e n=>u.free b o e n (by simp)) (fun b o _ e=>u.there b o e (by simp)) u.tups u.frzs u.tbls (fun m' hm=>by
    obtain ⟨o',es',ep',ho',r'⟩:=hm
    rw [ho] at ho';cases ho'
    exact ⟨_,es',ep',hL,r'⟩) hok I.bare
theorem Inv.call {g':Array GenState} {t':Nat} {d':Drawn} {ch:List Addr} (I:Inv X pins σ H s) (u:Un (frs X.stack) ch H H' s.heap h') (hok:HOk X.prog X.w H' h') (hg:AllBare g')
    (hch:∀ b∈ch,(b∈X.ex∨X.s₀.heap.objs.size≤b)∧b≠X.env.locals∧(∀ x c,X.env.cells.lookup x=some c→c≠b)∧∀ p∈X.pn++pins,p.1≠b) :
    Inv X pins σ H' { s with heap:=h',gens:=g',drawn:=d',toks:=t' }:=by
  obtain ⟨m,⟨o,es,ep,ho,r⟩,_⟩:=id I.loc
  obtain ⟨sl,hL⟩:=u.any ho I.free fun z=>(hch _ z).2.1 rfl
  exact I.step (ch:=ch) hch (fun b o hL hb hc e n=>u.keep b o e n (fun z=>(List.mem_cons.mp (I.rQ b z)).elim hL hb) hc) (fun b o _ _ hc e n=>u.any e n hc) (fun b o hc e n=>u.free b o e n hc) (fun b o hc e=>u.there b o e hc) u.tups u.frzs u.tbls (fun m' hm=>by
    obtain ⟨o',es',ep',ho',r'⟩:=hm
    rw [ho] at ho';cases ho'
    exact ⟨_,es',ep',hL,r'⟩) hok hg
theorem Inv.turned {t':Nat} {it:Addr} (I:Inv X pins σ H s) (k:∀ b o,b≠it→s.heap.get? b=some o→h'.get? b=some o) (hn:H it=none) (hL:it≠X.env.locals)
    (h1:it∈X.ex∨X.s₀.heap.objs.size≤it) (h2:∀ x c,X.env.cells.lookup x=some c→c≠it) (h3:∀ p∈X.pn++pins,p.1≠it):Inv X pins σ H { s with heap:=h',toks:=t' }:=by
  have nit:∀ b u,H b=some u→b≠it:=fun b u e z=>by rw [z,hn] at e;cases e
  refine I.step (g':=s.gens) (d':=s.drawn) (ch:=[it]) (fun b hb=>?_) (fun b o _ _ hc e _=>k b o (fun z=>hc (by simp [z])) e) (fun b o _ _ hc e _=>⟨o.slots,k b o (fun z=>hc (by simp [z])) e⟩) (fun _ _ _ _ n=>n)
    (fun b o hc e=>⟨o,k b o (fun z=>hc (by simp [z])) e⟩) (fun _ _ e=>e) (fun _ _ _ e=>e) (fun b ps e=>⟨#[],by rw [e];simp⟩) (fun m hm=>?_) (fun b u e=>?_) I.bare
  · have e:b=it:=by simpa using hb
    subst e
    exact ⟨h1,hL,h2,h3⟩
  · obtain ⟨o,es,ep,ho,r⟩:=hm
    exact ⟨o,es,ep,k _ o (Ne.symm hL) ho,r⟩
  · refine (I.hok b u e).stay (fun c v hc q=>k c v ?_ q) (fun _ q=>q) fun _ _ q=>q
    rcases hc with z | z
    · rw [z];exact nit b u e
    · exact nit c _ z
theorem Inv.tok (I:Inv X pins σ H s) (t:Nat):Inv X pins σ H { s with toks:=t }:=I.un (h':=s.heap) (t':=t) Un.refl I.hok
theorem Inv.kept {t':Nat} (I:Inv X pins σ H s) (k:∀ b u,s.heap.get? b=some u→h'.get? b=some u):Inv X pins σ H { s with heap:=h',toks:=t' }:=I.un (Un.kept k) (I.hok.kept k)
theorem Inv.laid {a:Addr} {o:HO} {t':Nat} (I:Inv X pins σ H s) (k:∀ b u,s.heap.get? b=some u→h'.get? b=some u) (hp:s.heap.objs.size≤a) (new:fG X.prog X.w (upd H a o) h' a o) :
    Inv X pins σ (upd H a o) { s with heap:=h',toks:=t' }:=I.un (Un.laid k hp (I.hok.fresh hp)) (I.hok.laid k hp new)
theorem Inv.write {x e:Addr} {o:HO} {t':Nat} (I:Inv X pins σ H s) (mu:Mut (H x)) (he:e=x∨H e=some (.own x)) (k:∀ b u,b≠e→s.heap.get? b=some u→h'.get? b=some u) (heo:∃ u,h'.get? e=some u)
    (new:fG X.prog X.w (upd H x o) h' x o):Inv X pins σ (upd H x o) { s with heap:=h',toks:=t' }:=I.un (Un.write mu he k heo) (I.hok.write mu he k heo new)
theorem Inv.tE {pins':List (Addr × Obj)} (I:Inv X pins σ H s) (h:∀ p∈pins',s.heap.get? p.1=some p.2∧H p.1=none∧p.1≠X.env.locals∧p.1 ∉ X.fs∧∀ v,p.2.data≠.cell v):Inv X pins' σ H s :=
  ⟨I.ok,I.os,I.bare,I.base,I.loc,I.cell,I.free,I.freeC,fun p hp=>(List.mem_append.mp hp).elim (fun z=>I.pin p (List.mem_append_left _ z)) (h p),I.hok,I.len⟩
theorem qy {N:List Str} (hN:N.Nodup) {i j:Nat} {x:Str} (a:N[i]?=some x) (b:N[j]?=some x):i=j:=by
  obtain ⟨h1,e1⟩:=List.getElem?_eq_some_iff.mp a
  obtain ⟨h2,e2⟩:=List.getElem?_eq_some_iff.mp b
  exact (List.getElem_inj hN).mp (e1.trans e2.symm)
theorem ni {M:Model} {A:Around} {E:Value→Shared→Prop} {i:Nat} {x:Str} {v:V} {u:Value} {Q:Unit→Shared→Prop} (I:Inv X pins σ H s) (hN:X.N.Nodup) (hi:X.N[i]?=some x) (hx:Loc X.env.scope x) (r:RelV v u)
    (h:∀ s',Inv X pins (σ.set i (some v)) H s'→(∃ a,Heap.SameBut a s.heap s'.heap∧(a=X.env.locals∨X.env.cells.lookup x=some a))→Q () s') (hf:X.fn x=true∨X.env.scope.names.lookup x=some .local:=by first | exact .inl rfl | exact .inr rfl | assumption):wpAny M A (storeName X.env x u) Q E s:=by
  obtain ⟨m,hn,hl⟩:=id I.loc
  have hcls:(X.env.scope.kind == .class || (X.env.scope.kind == .module && X.env.locals != X.env.globals))=false:=by rw [I.ok.kind];rfl
  have hiσ:i<σ.length:=by rw [I.len];exact (List.getElem?_eq_some_iff.mp hi).1
  have cne:=I.cne
  have tracked:∀ {a:Addr} {h':Heap},(∃ o,s.heap.get? a=some o∧H a=none)→Heap.SameBut a s.heap h'→HOk X.prog X.w H h':=fun {a h'} ha hs b ob e=>by
    obtain ⟨_,_,hfree⟩:=ha
    refine (I.hok b ob e).stay (fun c w' hc q=>(hs.2 c ?_).trans q) (fun _ q=>q) fun _ _ q=>q
    rintro rfl
    rcases hc with rfl | hc
    · rw [hfree] at e;cases e
    · rw [hfree] at hc;cases hc
  rcases hx with hk | hk
  · refine wpAny_storeName_local hk hn (fun h' hn' hs=>?_) hcls
    obtain ⟨oL,_,_,hoL,_⟩:=id hn
    refine h _ ⟨I.ok,I.os,I.bare,⟨fun b o e n hb hx=>?_,fun b o e n hb hx=>?_,I.base.free,fun b o e hx=>?_,I.base.tups,I.base.frzs,I.base.tbls⟩,⟨_,hn',fun j y v' e1 e2 e3=>?_⟩,fun y c e=>?_,I.free,I.freeC,fun p hp=>?_,tracked ⟨oL,hoL,I.free⟩ hs,by simpa using I.len⟩ ⟨_,hs,.inl rfl⟩
    · exact (hs.2 b (Nat.ne_of_lt (Nat.lt_of_lt_of_le (Heap.lt_size e) I.ok.above))).trans (I.base.keep b o e n hb hx)
    · obtain ⟨sl,e1⟩:=I.base.slot b o e n hb hx
      exact ⟨sl,(hs.2 b (Nat.ne_of_lt (Nat.lt_of_lt_of_le (Heap.lt_size e) I.ok.above))).trans e1⟩
    · obtain ⟨o',e1⟩:=I.base.there b o e hx
      exact ⟨o',(hs.2 b (Nat.ne_of_lt (Nat.lt_of_lt_of_le (Heap.lt_size e) I.ok.above))).trans e1⟩
    · by_cases hj:j=i
      · subst hj
        rw [hi] at e1;cases e1
        rw [List.getElem?_set_self hiσ] at e2
        cases e2
        exact ⟨u,r,.inl ⟨hk,by simp⟩⟩
      · rw [List.getElem?_set_ne (Ne.symm hj)] at e2
        obtain ⟨u',r',q⟩:=hl j y v' e1 e2 e3
        refine ⟨u',r',?_⟩
        rcases q with ⟨k,e⟩ | ⟨k,c,e,z⟩
        · refine .inl ⟨k,?_⟩
          have:y≠x:=fun e=>hj (qy hN e1 (e ▸ hi))
          simp [this,e]
        · exact .inr ⟨k,c,e,z.sameBut hs (cne y c e)⟩
    · obtain ⟨w',z⟩:=I.cell y c e
      exact ⟨w',z.sameBut hs (cne y c e)⟩
    · obtain ⟨e,n,ne,nf,d⟩:=I.pin p hp
      exact ⟨(hs.2 p.1 ne).trans e,n,ne,nf,d⟩
  · have hfn:X.fn x=true:=by
      rcases hf with z | z
      · exact z
      · rw [z] at hk;cases hk
    obtain ⟨c,hc⟩:=I.ok.has x (.inl hk)
    obtain ⟨w',z⟩:=I.cell x c hc
    refine wpAny_storeName_cell I.ok.kind hk hc z (fun h' hc' hs=>?_)
    obtain ⟨oc,hoc,hocd⟩:=id z
    refine h { s with heap:=h' } ⟨I.ok,I.os,I.bare,⟨fun b o e n hb hx=>?_,fun b o e n hb hx=>?_,I.base.free,fun b o e hx=>?_,I.base.tups,I.base.frzs,I.base.tbls⟩,⟨m,hn.sameBut hs (Ne.symm (cne x c hc)),fun j y v' e1 e2 e3=>?_⟩,fun y c' e=>?_,I.free,I.freeC,fun p hp=>?_,tracked ⟨oc,hoc,I.freeC x c hc⟩ hs,by simpa using I.len⟩ ⟨c,hs,.inr hc⟩
    · exact (hs.2 b (Nat.ne_of_lt (Nat.lt_of_lt_of_le (Heap.lt_size e) (I.ok.cab x c hfn hc)))).trans (I.base.keep b o e n hb hx)
    · obtain ⟨sl,e1⟩:=I.base.slot b o e n hb hx
      exact ⟨sl,(hs.2 b (Nat.ne_of_lt (Nat.lt_of_lt_of_le (Heap.lt_size e) (I.ok.cab x c hfn hc)))).trans e1⟩
    · obtain ⟨o',e1⟩:=I.base.there b o e hx
      exact ⟨o',(hs.2 b (Nat.ne_of_lt (Nat.lt_of_lt_of_le (Heap.lt_size e) (I.ok.cab x c hfn hc)))).trans e1⟩
    · by_cases hj:j=i
      · subst hj
        rw [hi] at e1;cases e1
        rw [List.getElem?_set_self hiσ] at e2
        cases e2
        exact ⟨u,r,.inr ⟨.inl hk,c,hc,hc'⟩⟩
      · rw [List.getElem?_set_ne (Ne.symm hj)] at e2
        obtain ⟨u',r',q⟩:=hl j y v' e1 e2 e3
        refine ⟨u',r',?_⟩
        rcases q with q | ⟨k,c',e,z'⟩
        · exact .inl q
        · refine .inr ⟨k,c',e,z'.sameBut hs ?_⟩
          rintro rfl
          exact hj (qy hN e1 (I.ok.inj _ _ _ e hc ▸ hi))
    · by_cases hcc:c'=c
      · subst hcc;exact ⟨_,hc'⟩
      · obtain ⟨w2,z2⟩:=I.cell y c' e
        exact ⟨w2,z2.sameBut hs hcc⟩
    · obtain ⟨e,n,ne,nf,d⟩:=I.pin p hp
      refine ⟨(hs.2 p.1 ?_).trans e,n,ne,nf,d⟩
      intro q
      rw [q,hoc] at e
      have q':oc=p.2:=Option.some.inj e
      exact d w' (by rw [← q'];exact hocd)
theorem lY {M:Model} {A:Around} {E:Value→Shared→Prop} {i:Nat} {x:Str} {v:V} {u:Value} {Q:Unit→Shared→Prop} (I:Inv X pins σ H s) (hN:X.N.Nodup) (hi:X.N[i]?=some x) (hx:Loc X.env.scope x) (r:RelV v u)
    (h:∀ s',Inv X pins (σ.set i (some v)) H s'→Q () s') (hf:X.fn x=true∨X.env.scope.names.lookup x=some .local:=by first | exact .inl rfl | exact .inr rfl | assumption):wpAny M A (storeName X.env x u) Q E s :=
  ni I hN hi hx r (fun s' I' _=>h s' I') hf
theorem Inv.call' {s':Shared} {ch:List Addr} (I:Inv X pins σ H s) (ho:s'.os=s.os) (u:Un (frs X.stack) ch H H' s.heap s'.heap) (hok:HOk X.prog X.w H' s'.heap) (hg:AllBare s'.gens)
    (hch:∀ b∈ch,(b∈X.ex∨X.s₀.heap.objs.size≤b)∧b≠X.env.locals∧(∀ x c,X.env.cells.lookup x=some c→c≠b)∧∀ p∈X.pn++pins,p.1≠b):Inv X pins σ H' s':=by
  obtain ⟨h',g',d',t',o'⟩:=s'
  have e:o'=s.os:=ho
  subst e
  exact I.call (g':=g') (t':=t') (d':=d') u hok hg hch
end
abbrev XK:=Value→Option Addr→Hp→Prop
abbrev St:=List (Option V)
abbrev VK:=V→Hp→Prop
abbrev TE:=St→Hp→VK→Prop
abbrev TT:=St→Hp→(Bool→Hp→Prop)→Prop
abbrev TA:=St→Hp→(List V→Hp→Prop)→Prop
structure Ends where
  nx:St→Hp→Prop
  rt:VK
  bk:St→Hp→Prop:=fun _ _=>False
  ct:St→Hp→Prop:=fun _ _=>False
abbrev TS:=Ends→St→Hp→Prop
def EP (X:Cx) (pins:List (Addr × Obj)) (σ:St) (Q:VK) (u:Value) (s':Shared):Prop:=∃ v H',Inv X pins σ H' s'∧RelV v u∧Q v H'
def TP (X:Cx) (pins:List (Addr × Obj)) (σ:St) (Q:Bool→Hp→Prop) (b:Bool) (s':Shared):Prop:=∃ H',Inv X pins σ H' s'∧Q b H'
def AP (X:Cx) (pins:List (Addr × Obj)) (σ:St) (Q:List V→Hp→Prop) (us:List Value) (s':Shared):Prop:=∃ vs H',Inv X pins σ H' s'∧Vals vs us∧Q vs H'
def SP (X:Cx) (pins:List (Addr × Obj)) (D:Ends) (f:Flow) (s':Shared):Prop :=
  match f with
  | .next=>∃ σ' H',Inv X pins σ' H' s'∧D.nx σ' H'
  | .brk=>∃ σ' H',Inv X pins σ' H' s'∧D.bk σ' H'
  | .cont=>∃ σ' H',Inv X pins σ' H' s'∧D.ct σ' H'
  | .ret u=>∃ v σ' H',Inv X pins σ' H' s'∧RelV v u∧D.rt v H'
def PE (X:Cx) (e:Expr) (t:TE):Prop :=
  ∀ (pins:List (Addr × Obj)) (s:Shared) (σ:St) (H:Hp) (Q:VK),Inv X pins σ H s→t σ H Q→wpAny (model X.prog X.w) X.A (eval e X.env) (EP X pins σ Q) X.xe s
def PT (X:Cx) (e:Expr) (t:TT):Prop :=
  ∀ (pins:List (Addr × Obj)) (s:Shared) (σ:St) (H:Hp) (Q:Bool→Hp→Prop),Inv X pins σ H s→t σ H Q→wpAny (model X.prog X.w) X.A (isTrue e X.env (eval e X.env)) (TP X pins σ Q) X.xe s
def PW (X:Cx) (e:Expr) (t:TT):Prop :=
  ∀ (whole:Sem Value) (pins:List (Addr × Obj)) (s:Shared) (σ:St) (H:Hp) (Q:Bool→Hp→Prop),Inv X pins σ H s→t σ H Q→wpAny (model X.prog X.w) X.A (isTrue e X.env whole) (TP X pins σ Q) X.xe s
theorem PW.pt {X:Cx} {e:Expr} {t:TT} (h:PW X e t):PT X e t:=h _
def PA (X:Cx) (es:List Expr) (t:TA):Prop :=
  ∀ (pos:Pos) (pins:List (Addr × Obj)) (s:Shared) (σ:St) (H:Hp) (Q:List V→Hp→Prop),Inv X pins σ H s→t σ H Q→wpAny (model X.prog X.w) X.A (spliced (backTo pos (starEach es X.env))) (AP X pins σ Q) X.xe s
def PS (X:Cx) (st:Stmt) (t:TS):Prop :=
  ∀ (pins:List (Addr × Obj)) (s:Shared) (σ:St) (H:Hp) (D:Ends),Inv X pins σ H s→t D σ H→wpAny (model X.prog X.w) X.A (exec st X.env) (SP X pins D) X.xe s
def PSs (X:Cx) (st:List Stmt) (t:TS):Prop :=
  ∀ (pins:List (Addr × Obj)) (s:Shared) (σ:St) (H:Hp) (D:Ends),Inv X pins σ H s→t D σ H→wpAny (model X.prog X.w) X.A (execs st X.env) (SP X pins D) X.xe s
theorem thn {α:Type} {t:Sem α} {Q Q':α→Shared→Prop} {M:Model} {A:Around} {E:Value→Shared→Prop} {s:Shared} (h:wpAny M A t Q E s) (hQ:∀ a s,Q a s→Q' a s):wpAny M A t Q' E s:=wpAny_mono h hQ fun _ _ x=>x
end L2
namespace L2
open PySem PySem.Spec PyProof.Rows
section
variable {X:Cx}
def Mx (i:Nat):TE:=fun σ H Q=>∃ v,σ[i]?=some (some v)∧Q v H
def tC (v:V):TE:=fun _ H Q=>Q v H
theorem GK {i:Nat} {x:Str} {pos:Pos} (hN:X.N[i]?=some x) (hv:Vis X.env.scope x) (hd:(x == ("__debug__":Str))=false:=by decide) (hcd:(x == ("__classdict__":Str))=false:=by decide):PE X (.Name x pos) (Mx i):=by
  intro pins s σ H Q I h
  obtain ⟨v,e,h⟩:=h
  obtain ⟨m,hn,hl⟩:=I.loc
  obtain ⟨u,r,l⟩:=hl i x v hN e hv
  have fin:EP X pins σ Q u s:=⟨v,H,I,r,h⟩
  rcases l with ⟨hk,hm⟩ | ⟨hk,c,hc,hcell⟩
  · exact wpAny_Name (wpAny_loadName_local I.ok.kind hk hn hm fin) hd
  · rcases hk with hk | hk
    · exact wpAny_Name (wpAny_loadName_cell I.ok.kind hk hc hcell fin) hd
    · exact wpAny_Name (wpAny_loadName_free I.ok.kind hk hc hcell fin hcd) hd
theorem aB {i j pos}:PE X (.Constant (.int i) j pos) (tC (.int i)):=fun _ _ _ H _ I h=>wpAny_Constant_int ⟨.int i,H,I.tok _,⟨_,rfl⟩,h⟩
theorem jl {b j pos}:PE X (.Constant (.bool b) j pos) (tC (.bl b)):=fun _ _ _ H _ I h=>Constant_bool ⟨.bl b,H,I,rfl,h⟩
theorem w5 {j pos}:PE X (.Constant .none j pos) (tC .non):=fun _ _ _ H _ I h=>Constant_none ⟨.non,H,I,rfl,h⟩
theorem gw {x j pos}:PE X (.Constant (.str x) j pos) (tC (.str x)):=fun _ _ _ H _ I h=>Calls.Constant_str ⟨.str x,H,I.tok _,⟨_,rfl⟩,h⟩
def Gl (X:Cx) (x:Str):Prop:=X.env.kindOf x=some .globalImplicit
theorem kI {E:Value→Shared→Prop} {pins:List (Addr × Obj)} {s:Shared} {σ:St} {H:Hp} {x:Str} {u:Value} {pos:Pos} {Q:Value→Shared→Prop} (I:Inv X pins σ H s) (hg:Gl X x) (hm:X.mg x=some u) (h:Q u s)
    (hd:(x == ("__debug__":Str))=false:=by decide):wpAny (model X.prog X.w) X.A (eval (.Name x pos) X.env) Q E s :=
  Calls.Name_function_global I.ok.kind hg (Calls.loadGlobal_global (by rw [I.ok.glob];exact I.mod.glob.keeps I.bk) hm h) hd
theorem ou {E:Value→Shared→Prop} {pins:List (Addr × Obj)} {s:Shared} {σ:St} {H:Hp} {x:Str} {u:Value} {pos:Pos} {Q:Value→Shared→Prop} (I:Inv X pins σ H s) (hg:Gl X x) (hm:X.mg x=none) (hv:bootBuiltins x=some u) (h:Q u s)
    (hn:x≠"__name__":=by decide) (hd:(x == ("__debug__":Str))=false:=by decide):wpAny (model X.prog X.w) X.A (eval (.Name x pos) X.env) Q E s:=by
  obtain ⟨mb,h1,h2⟩:=I.mod.blt
  exact Calls.Name_function_global I.ok.kind hg (Calls.loadGlobal_builtin (by rw [I.ok.glob];exact I.mod.glob.keeps I.bk) hm (by rw [I.ok.blt];exact h1.keeps I.bk) ((h2 x hn).trans hv) h) hd
theorem fL {x:Str} {v:V} {u:Value} {pos:Pos} (hg:Gl X x) (hm:X.mg x=some u) (r:RelV v u) (hd:(x == ("__debug__":Str))=false:=by decide):PE X (.Name x pos) (tC v) :=
  fun _ _ _ H _ I h=>kI I hg hm ⟨v,H,I,r,h⟩ hd
theorem j6 {x:Str} {v:V} {u:Value} {pos:Pos} (hg:Gl X x) (hm:X.mg x=none) (hv:bootBuiltins x=some u) (r:RelV v u) (hn:x≠"__name__":=by decide) (hd:(x == ("__debug__":Str))=false:=by decide):PE X (.Name x pos) (tC v) :=
  fun _ _ _ H _ I h=>ou I hg hm hv ⟨v,H,I,r,h⟩ hn hd
def t2I (ta tb:TE) (k:Int→Int→Hp→Prop):St→Hp→Prop:=fun σ H=>ta σ H fun x H1=>tb σ H1 fun y H2=>∃ i j,x=.int i∧y=.int j∧k i j H2
variable {a b:Expr} {ta tb:TE} {pos:Pos}
def Gh (p:Int→Int→Bool) (ta tb:TE):TE:=fun σ H Q=>t2I ta tb (fun i j H2=>Q (.bl (p i j)) H2) σ H
abbrev tLt:TE→TE→TE:=Gh fun i j=>decide (i<j)
abbrev tLe:TE→TE→TE:=Gh fun i j=>decide (i≤j)
abbrev tGt:TE→TE→TE:=Gh fun i j=>decide (j<i)
abbrev tGe:TE→TE→TE:=Gh fun i j=>decide (j≤i)
abbrev tEqI:TE→TE→TE:=Gh fun i j=>decide (i=j)
abbrev tNeI:TE→TE→TE:=Gh fun i j=>!decide (i=j)
def tB (t:TE):TT:=fun σ H Q=>t σ H fun x H1=>∃ c,x=.bl c∧Q c H1
theorem fQ {e:Expr} {t:TE} (h:PE X e t) (he:∀ whole,isTrue e X.env whole=(do let v ← whole;standAt e.pos;holding [v] (truthy v)):=by intro _;rfl):PT X e (tB t):=by
  intro pins s σ H Q I hw
  refine isTrue_plain (thn (h pins s σ H _ I hw) fun v s1 ⟨x,H1,I1,r1,q1⟩=>?_) (he _)
  obtain ⟨d,rfl,q⟩:=q1
  cases r1
  exact wpAny_truthy_bool ⟨H1,I1,q⟩
variable {tA tB':TT} {rest:List Expr}
def tAnd (t u:TT):TT:=fun σ H Q=>t σ H fun c H1=>if c=true then u σ H1 Q else Q false H1
def tOr (t u:TT):TT:=fun σ H Q=>t σ H fun c H1=>if c=true then Q true H1 else u σ H1 Q
def tNot (t:TT):TT:=fun σ H Q=>t σ H fun c H1=>Q (!c) H1
theorem pw_and1 (ha:PT X a tA):PW X (.BoolOp .And [a] pos) tA:=by
  intro wh pins s σ H Q I h
  refine isTrue_and (thn (ha pins s σ H Q I h) fun c s1 e=>?_)
  cases c with
  | true=>exact isTrue_and_nil e
  | false=>exact e
theorem pw_or1 (ha:PT X a tA):PW X (.BoolOp .Or [a] pos) tA:=by
  intro wh pins s σ H Q I h
  refine isTrue_or (thn (ha pins s σ H Q I h) fun c s1 e=>?_)
  cases c with
  | false=>exact isTrue_or_nil e
  | true=>exact e
theorem pw_and (ha:PT X a tA) (hb:PW X (.BoolOp .And (b :: rest) pos) tB'):PW X (.BoolOp .And (a :: b :: rest) pos) (tAnd tA tB'):=by
  intro wh pins s σ H Q I h
  refine isTrue_and (thn (ha pins s σ H _ I h) fun c s1 ⟨H1,I1,q1⟩=>?_)
  cases c with
  | true=>exact hb wh pins s1 σ H1 Q I1 q1
  | false=>exact ⟨H1,I1,q1⟩
theorem pw_or (ha:PT X a tA) (hb:PW X (.BoolOp .Or (b :: rest) pos) tB'):PW X (.BoolOp .Or (a :: b :: rest) pos) (tOr tA tB'):=by
  intro wh pins s σ H Q I h
  refine isTrue_or (thn (ha pins s σ H _ I h) fun c s1 ⟨H1,I1,q1⟩=>?_)
  cases c with
  | true=>exact ⟨H1,I1,q1⟩
  | false=>exact hb wh pins s1 σ H1 Q I1 q1
theorem eX (ha:PT X a tA):PT X (.UnaryOp .Not a pos) (tNot tA):=by
  intro pins s σ H Q I h
  exact isTrue_not (ha pins s σ H (fun c H1=>Q (!c) H1) I h)
def Nj (ta tb:TE):TE:=fun σ H Q=>ta σ H fun x H1=>∃ c,x=.bl c∧if c=true then tb σ H1 Q else Q (.bl false) H1
def tOrV (ta tb:TE):TE:=fun σ H Q=>ta σ H fun x H1=>∃ c,x=.bl c∧if c=true then Q (.bl true) H1 else tb σ H1 Q
def M8 (ta:TE):TE:=fun σ H Q=>ta σ H fun x H1=>∃ c,x=.bl c∧Q (.bl (!c)) H1
theorem lO {op} {t:TE} (h:PE X a t):PE X (.BoolOp op [a] pos) t:=fun pins s σ H Q I hw=>BoolOp_one (h pins s σ H Q I hw)
theorem lQ (ha:PE X a ta) (hb:PE X (.BoolOp .And (b :: rest) pos) tb):PE X (.BoolOp .And (a :: b :: rest) pos) (Nj ta tb):=by
  intro pins s σ H Q I h
  refine BoolOp_and (thn (ha pins s σ H _ I h) fun v s1 ⟨x,H1,I1,r1,q1⟩=>?_)
  obtain ⟨c,rfl,q1⟩:=q1
  cases r1
  refine wpAny_truthy_bool ?_
  cases c with
  | true=>exact hb pins s1 σ H1 Q I1 q1
  | false=>exact ⟨.bl false,H1,I1,rfl,q1⟩
theorem Nk (ha:PE X a ta) (hb:PE X (.BoolOp .Or (b :: rest) pos) tb):PE X (.BoolOp .Or (a :: b :: rest) pos) (tOrV ta tb):=by
  intro pins s σ H Q I h
  refine BoolOp_or (thn (ha pins s σ H _ I h) fun v s1 ⟨x,H1,I1,r1,q1⟩=>?_)
  obtain ⟨c,rfl,q1⟩:=q1
  cases r1
  refine wpAny_truthy_bool ?_
  cases c with
  | false=>exact hb pins s1 σ H1 Q I1 q1
  | true=>exact ⟨.bl true,H1,I1,rfl,q1⟩
theorem wZ (ha:PE X a ta):PE X (.UnaryOp .Not a pos) (M8 ta):=by
  intro pins s σ H Q I h
  refine UnaryOp_ (thn (ha pins s σ H _ I h) fun v s1 ⟨x,H1,I1,r1,q1⟩=>?_)
  obtain ⟨c,rfl,q1⟩:=q1
  cases r1
  exact not_of (wpAny_truthy_bool ⟨.bl (!c),H1,I1,rfl,q1⟩)
def tIf (t:TT) (ta tb:TE):TE:=fun σ H Q=>t σ H fun c H1=>if c=true then ta σ H1 Q else tb σ H1 Q
theorem vC {c:Expr} (hc:PT X c tA) (ha:PE X a ta) (hb:PE X b tb):PE X (.IfExp c a b pos) (tIf tA ta tb):=by
  intro pins s σ H Q I h
  refine wpAny_IfExp (thn (hc pins s σ H _ I h) fun d s1 ⟨H1,I1,q1⟩=>?_)
  cases d with
  | true=>exact ha pins s1 σ H1 Q I1 q1
  | false=>exact hb pins s1 σ H1 Q I1 q1
end
end L2
namespace L2
open PySem PySem.Spec PyProof.Rows
def SqL (K:PySem.W.Frag) (H:Hp) (a:Addr) (xs:List V):Prop :=
  Rd H a (.lst xs) ∨
    ∃ (o:Obj) (its:Array Value) (n:Nat),K.lookup a=some o∧o.cls=.type "list"∧o.dict=none∧o.data=.seq its n∧its.size≤sizeLine∧Vals xs its.toList
def SqT (K:PySem.W.Frag) (H:Hp) (a:Addr) (xs:List V):Prop :=
  Rd H a (.tup xs) ∨
    ∃ (o:Obj) (its:Array Value) (n:Nat),K.lookup a=some o∧o.cls=.type "tuple"∧o.data=.seq its n∧its.size≤sizeLine∧Vals xs its.toList
def absV:Value→Option V
  | .none=>some .non
  | .bool b=>some (.bl b)
  | .int i _=>some (.int i)
  | .str x _=>some (.str x)
  | .bytes b _=>some (.byt b)
  | .float b _=>some (.flt b)
  | .ref a=>some (.ref a)
  | .type n=>some (.ty n)
  | _=>none
theorem RelV.abs {x:V} {u:Value} (r:RelV x u):absV u=some x:=by
  cases x with
  | non=>cases r;rfl
  | bl _=>cases r;rfl
  | int _=>obtain ⟨t,rfl⟩:=r;rfl
  | str _=>obtain ⟨t,rfl⟩:=r;rfl
  | byt _=>obtain ⟨t,rfl⟩:=r;rfl
  | flt _=>obtain ⟨t,rfl⟩:=r;rfl
  | ref _=>cases r;rfl
  | ty _=>cases r;rfl
theorem RelV.inj {x y:V} {u:Value} (r:RelV x u) (q:RelV y u):x=y:=Option.some.inj (r.abs.symm.trans q.abs)
theorem Vals.inj:∀ {xs ys:List V} {us:List Value},Vals xs us→Vals ys us→xs=ys
  | _,_,_,.nil,.nil=>rfl
  | _,_,_,.cons r t,.cons r' t'=>by rw [r.inj r',Vals.inj t t']
section
variable {X:Cx} {pins:List (Addr × Obj)} {σ:St} {H:Hp} {s:Shared} {a:Addr} {xs ys:List V}
theorem SqL.of {K:PySem.W.Frag} (h:H a=some (.lst xs)):SqL K H a xs:=.inl (.inl h)
theorem SqT.of {K:PySem.W.Frag} (h:H a=some (.tup xs)):SqT K H a xs:=.inl (.inl h)
theorem Inv.list (I:Inv X pins σ H s) (h:SqL X.K H a xs):∃ its:List Value,Vals xs its∧PlainL s.heap a its.toArray∧xs.length≤sizeLine:=by
  rcases h with h | ⟨o,its,n,hk,hc,hd,hs,hz,r⟩
  · obtain ⟨z,its,n,r,e⟩:=h.ok I.hok
    exact ⟨its,r,⟨_,n,e,rfl,rfl,rfl⟩,z⟩
  · refine ⟨its.toList,r,⟨o,n,I.kIn a o hk,hc,hd,by simpa using hs⟩,?_⟩
    have e:=r.length
    simp only [Array.length_toList] at e
    omega
theorem Inv.tuple (I:Inv X pins σ H s) (h:SqT X.K H a xs):∃ its:List Value,Vals xs its∧IsTup s.heap a its.toArray∧xs.length≤sizeLine:=by
  rcases h with h | ⟨o,its,n,hk,hc,hs,hz,r⟩
  · obtain ⟨z,its,r,p⟩:=h.ok I.hok
    exact ⟨its,r,p,z⟩
  · refine ⟨its.toList,r,⟨o,I.kIn a o hk,hc,n,by simpa using hs⟩,?_⟩
    have e:=r.length
    simp only [Array.length_toList] at e
    omega
theorem Inv.vZ (I:Inv X pins σ H s) (h:SqL X.K H a xs) (h':SqL X.K H a ys):xs=ys:=by
  obtain ⟨its,r,⟨o,n,e,_,_,d⟩,_⟩:=I.list h
  obtain ⟨its',r',⟨o',n',e',_,_,d'⟩,_⟩:=I.list h'
  rw [e] at e';cases e'
  rw [d] at d'
  injection d' with d1 _
  have:its=its':=by simpa using congrArg Array.toList d1
  subst this
  exact r.inj r'
theorem Inv.rO (I:Inv X pins σ H s) (h:SqT X.K H a xs) (h':SqT X.K H a ys):xs=ys:=by
  obtain ⟨its,r,⟨o,e,_,n,d⟩,_⟩:=I.tuple h
  obtain ⟨its',r',⟨o',e',_,n',d'⟩,_⟩:=I.tuple h'
  rw [e] at e';cases e'
  rw [d] at d'
  injection d' with d1 _
  have:its=its':=by simpa using congrArg Array.toList d1
  subst this
  exact r.inj r'
end
abbrev Cx.wish (X:Cx) (E:Value→Shared→Prop):Cx:={ X with xe:=E }
abbrev Cx.nox (X:Cx):Cx:=X.wish fun _ _=>False
theorem Cx.Ok.wish {X:Cx} (ok:X.Ok) (E:Value→Shared→Prop):(X.wish E).Ok :=
  ⟨ok.mod,ok.kind,ok.glob,ok.blt,ok.above,ok.inj,ok.has,ok.cab,ok.hd,ok.frames,ok.stk,ok.exf,ok.bs,ok.bsz,ok.noex,ok.exfs,ok.qF,ok.frf⟩
theorem Cx.Ok.iT {X:Cx} {E:Value→Shared→Prop} (ok:(X.wish E).Ok):X.Ok :=
  ⟨ok.mod,ok.kind,ok.glob,ok.blt,ok.above,ok.inj,ok.has,ok.cab,ok.hd,ok.frames,ok.stk,ok.exf,ok.bs,ok.bsz,ok.noex,ok.exfs,ok.qF,ok.frf⟩
section
variable {X:Cx} {pins:List (Addr × Obj)} {σ:St} {H:Hp} {s:Shared} {E:Value→Shared→Prop}
theorem Inv.wish (I:Inv X pins σ H s) (E:Value→Shared→Prop):Inv (X.wish E) pins σ H s:=⟨I.ok.wish E,I.os,I.bare,I.base,I.loc,I.cell,I.free,I.freeC,I.pin,I.hok,I.len⟩
theorem Inv.iT (I:Inv (X.wish E) pins σ H s):Inv X pins σ H s:=⟨I.ok.iT,I.os,I.bare,I.base,I.loc,I.cell,I.free,I.freeC,I.pin,I.hok,I.len⟩
theorem SP.iT {D:Ends} {f:Flow} {s':Shared} (h:SP (X.wish E) pins D f s'):SP X pins D f s':=by
  cases f with
  | next=>obtain ⟨σ',H',I,q⟩:=h;exact ⟨σ',H',I.iT,q⟩
  | brk=>obtain ⟨σ',H',I,q⟩:=h;exact ⟨σ',H',I.iT,q⟩
  | cont=>obtain ⟨σ',H',I,q⟩:=h;exact ⟨σ',H',I.iT,q⟩
  | ret u=>obtain ⟨v,σ',H',I,r,q⟩:=h;exact ⟨v,σ',H',I.iT,r,q⟩
theorem PSs.nox {st:List Stmt} {t:TS} (h:PSs X.nox st t):PSs X st t:=fun pins s σ H D I hw =>
  wpAny_mono (h pins s σ H D (I.wish _) hw) (fun _ _ q=>q.iT) fun _ _ z=>False.elim z
end
section
variable {X:Cx} {st:Stmt} {rest:List Stmt} {t u:TS} {e:Expr} {te:TE} {pos:Pos}
def M9:TS:=fun D σ H=>D.nx σ H
def tSeq (t u:TS):TS:=fun D σ H=>t { D with nx:=u D } σ H
theorem aY:PSs X [] M9:=fun _ _ σ H _ I h=>wpAny_execs_nil ⟨σ,H,I,h⟩
theorem aq (h1:PS X st t) (h2:PSs X rest u):PSs X (st :: rest) (tSeq t u):=by
  intro pins s σ H D I h
  refine wpAny_execs_cons (thn (h1 pins s σ H { D with nx:=u D } I h) fun f s1 q=>?_)
  cases f with
  | next =>
    obtain ⟨σ',H',I',q⟩:=q
    exact h2 pins s1 σ' H' D I' q
  | ret v=>exact q
  | brk=>exact q
  | cont=>exact q
theorem aC (h1:PS X st t):PSs X [st] t:=by
  intro pins s σ H D I h
  refine wpAny_execs_cons (thn (h1 pins s σ H D I h) fun f s1 q=>?_)
  cases f with
  | next=>exact wpAny_execs_nil q
  | ret v=>exact q
  | brk=>exact q
  | cont=>exact q
theorem Inv.quiet {pins:List (Addr × Obj)} {σ:St} {H:Hp} {s:Shared} (I:Inv X pins σ H s):interactive X.env=false:=by simp [interactive,I.ok.kind]
def Nf (te:TE):TS:=fun D σ H=>te σ H fun _ H1=>D.nx σ H1
theorem aZ (he:PE X e te) (hs:swapsWith e none pos.line X.env=pure false:=by rfl):PS X (.Expr e pos) (Nf te):=by
  intro pins s σ H D I h
  exact wpAny_Expr_any (thn (he pins s σ H _ I h) fun v s1 ⟨x,H1,I1,r1,q1⟩=>⟨σ,H1,I1,q1⟩) I.quiet hs
def tRet (te:TE):TS:=fun D σ H=>te σ H D.rt
theorem bx (he:PE X e te):PS X (.Return (some e) pos) (tRet te):=by
  intro pins s σ H D I h
  exact wpAny_Return_some (thn (he pins s σ H _ I h) fun v s1 ⟨x,H1,I1,r1,q1⟩=>⟨x,σ,H1,I1,r1,q1⟩)
def tIfS (c:TT) (t u:TS):TS:=fun D σ H=>c σ H fun b H1=>if b=true then t D σ H1 else u D σ H1
theorem dZ {c:Expr} {a b:List Stmt} {tc:TT} (hc:PT X c tc) (ha:PSs X a t) (hb:PSs X b u):PS X (.If c a b pos) (tIfS tc t u):=by
  intro pins s σ H D I h
  refine wpAny_If (thn (hc pins s σ H _ I h) fun d s1 ⟨H1,I1,q1⟩=>?_)
  cases d with
  | true=>exact ha pins s1 σ H1 D I1 q1
  | false=>exact hb pins s1 σ H1 D I1 q1
def Gw:TS:=fun _ _ _=>False
theorem gH:PS X st Gw:=fun _ _ _ _ _ _ h=>h.elim
end
abbrev TG:=V→St→Hp→(St→Hp→Prop)→Prop
abbrev TGs:=List V→St→Hp→(St→Hp→Prop)→Prop
def PG (X:Cx) (target:Expr) (t:TG):Prop :=
  ∀ (pins:List (Addr × Obj)) (s:Shared) (σ:St) (H:Hp) (v:V) (u:Value) (Q:St→Hp→Prop),Inv X pins σ H s→RelV v u→t v σ H Q →
    wpAny (model X.prog X.w) X.A (assign target X.env u) (fun _ s'=>∃ σ' H',Inv X pins σ' H' s'∧Q σ' H') X.xe s
def PGs (X:Cx) (ts:List Expr) (t:TGs):Prop :=
  ∀ (pins:List (Addr × Obj)) (s:Shared) (σ:St) (H:Hp) (vs:List V) (us:List Value) (Q:St→Hp→Prop),Inv X pins σ H s→Vals vs us→t vs σ H Q →
    wpAny (model X.prog X.w) X.A (assignInOrder ((assignEach ts X.env).map (·.2)) us) (fun _ s'=>∃ σ' H',Inv X pins σ' H' s'∧Q σ' H') X.xe s
abbrev Qa:=V→V→V→Hp→(Hp→Prop)→Prop
def Qz (X:Cx) (t:Qa):Prop :=
  ∀ (pins:List (Addr × Obj)) (s:Shared) (σ:St) (H:Hp) (o i v:V) (ov iv u:Value) (Q:Hp→Prop),Inv X pins σ H s→RelV o ov→RelV i iv→RelV v u→t o i v H Q →
    wpAny (model X.prog X.w) X.A (setItem ov iv u) (fun _ s'=>∃ H',Inv X pins σ H' s'∧Q H') X.xe s
abbrev TIp:=V→V→Hp→VK→Prop
section
variable {X:Cx} {pos:Pos}
def wA (i:Nat):TG:=fun v σ H Q=>Q (σ.set i (some v)) H
theorem bI {i:Nat} {x:Str} (hN:X.N.Nodup) (hi:X.N[i]?=some x) (hx:Loc X.env.scope x) (hf:X.fn x=true∨X.env.scope.names.lookup x=some .local:=by first | exact .inl rfl | exact .inr rfl | assumption):PG X (.Name x pos) (wA i):=by
  intro pins s σ H v u Q I r h
  exact wpAny_assign_Name (lY I hN hi hx r (fun s' I'=>⟨_,H,I',h⟩) hf)
def gNil:TGs:=fun vs σ H Q=>vs=[]∧Q σ H
def PK (t:TG) (u:TGs):TGs:=fun vs σ H Q=>∃ v r,vs=v :: r∧t v σ H fun σ' H'=>u r σ' H' Q
theorem jZ:PGs X [] gNil:=by
  intro pins s σ H vs us Q I r h
  obtain ⟨e,h⟩:=h
  subst e
  cases r
  exact assignInOrder_nil ⟨σ,H,I,h⟩
theorem dj {e:Expr} {es:List Expr} {t:TG} {u:TGs} (h1:PG X e t) (h2:PGs X es u)
    (hs:(assignEach (e :: es) X.env).map (·.2)=assign e X.env :: (assignEach es X.env).map (·.2):=by rfl):PGs X (e :: es) (PK t u):=by
  intro pins s σ H vs us Q I r h
  obtain ⟨v,vr,e1,h⟩:=h
  subst e1
  cases r with
  | cons r rr =>
    rw [hs]
    refine assignInOrder_cons (thn (h1 pins s σ H _ _ _ I r h) fun _ s1 ⟨σ1,H1,I1,q1⟩=>?_)
    exact h2 pins s1 σ1 H1 _ _ Q I1 rr q1
def Qw (K:PySem.W.Frag) (n:Nat) (t:TGs):TG:=fun v σ H Q=>∃ a xs,v=.ref a∧SqT K H a xs∧xs.length=n∧t xs σ H Q
theorem qw {es:List Expr} {k:Nat} {t:TGs} {n:Nat} (hc:X.calm=true) (h:PGs X es t)
    (hn:(assignEach es X.env).length=n:=by rfl) (hst:(assignEach es X.env).findIdx? (·.1)=none:=by rfl):PG X (.Tuple es k pos) (Qw X.K n t):=by
  intro pins s σ H v u Q I r hw
  obtain ⟨a,xs,e1,hq,hl,hw⟩:=hw
  subst e1
  cases r
  obtain ⟨its,rv,ht,hz⟩:=I.tuple hq
  refine assign_Tuple_tuple (I.ok.hd hc) ht (by simp [hn,← hl,rv.length]) hst fun h' hx=>?_
  have I1:Inv X pins σ H { s with heap:=h' }:=I.kept (t':=s.toks) fun b o e=>hx b o (Nat.ne_of_lt (Heap.lt_size e)) e
  exact h pins _ σ H xs _ Q I1 (by simpa using rv) hw
def gSub (to ti:TE) (t:Qa):TG:=fun v σ H Q=>to σ H fun o H1=>ti σ H1 fun i H2=>t o i v H2 fun H3=>Q σ H3
theorem j4 {o i:Expr} {to ti:TE} {t:Qa} (ho:PE X o to) (hi:PE X i ti) (hs:Qz X t)
    (ha:∀ v,assign (.Subscript o i pos) X.env v=(do
      let ov ← holding [v] (eval o X.env)
      let iv ← holding [v,ov] (eval i X.env)
      standAt pos
      holding [v,ov,iv] (setItem ov iv v)
      release [v,ov,iv] []):=by intro _;rfl):PG X (.Subscript o i pos) (gSub to ti t):=by
  intro pins s σ H v u Q I r h
  rw [ha]
  refine wpAny_bind (wpAny_holding (thn (ho pins s σ H _ I h) fun ov s1 ⟨x,H1,I1,r1,q1⟩=>?_))
  refine wpAny_bind (wpAny_holding (thn (hi pins s1 σ H1 _ I1 q1) fun iv s2 ⟨y,H2,I2,r2,q2⟩=>?_))
  refine wpAny_bind (wpAny_standAt (wpAny_bind (wpAny_holding (thn (hs pins s2 σ H2 x y v ov iv u _ I2 r1 r2 r q2) fun _ s3 ⟨H3,I3,q3⟩=>?_))))
  exact wpAny_release ⟨σ,H3,I3,q3⟩
def Ni (te:TE) (g:TG):TS:=fun D σ H=>te σ H fun x H1=>g x σ H1 D.nx
theorem jk {tg e:Expr} {te:TE} {g:TG} (he:PE X e te) (hg:PG X tg g) (hs:swapsWithSole [tg] e pos.line X.env=pure false:=by rfl) (hw:swappedStores [tg] e X.env=pure none:=by rfl)
    (h1:(assignEach [tg] X.env).map (·.2)=[assign tg X.env]:=by rfl):PS X (.Assign [tg] e pos) (Ni te g):=by
  intro pins s σ H D I h
  refine wpAny_Assign_stores (thn (he pins s σ H _ I h) fun v s1 ⟨x,H1,I1,r1,q1⟩=>?_) hs hw
  rw [h1]
  exact thn (hg pins s1 σ H1 x v _ I1 r1 q1) fun _ s2 q=>q
theorem bU {i:Nat} {x:Str} {e:Expr} {te:TE} {pos':Pos} (hN:X.N.Nodup) (hi:X.N[i]?=some x) (hx:Loc X.env.scope x) (he:PE X e te) (hs:swapsWith e (some (.Name x pos')) pos.line X.env=pure false:=by rfl) (hf:X.fn x=true∨X.env.scope.names.lookup x=some .local:=by first | exact .inl rfl | exact .inr rfl | assumption) :
    PS X (.Assign [.Name x pos'] e pos) (Ni te (wA i)):=by
  intro pins s σ H D I h
  refine wpAny_Assign_Name (thn (he pins s σ H _ I h) fun v s1 ⟨y,H1,I1,r1,q1⟩=>?_) hs
  exact lY I1 hN hi hx r1 (fun s2 I2=>⟨_,H1,I2,q1⟩) hf
end
section
variable {X:Cx} {pos:Pos}
def Gu (c:TT) (tb:TS):TS:=fun D σ H=>∃ W:Nat→St→Hp→Prop,(∃ m,W m σ H)∧∀ m σ H,W m σ H →
  c σ H fun b H1=>if b=true then ∃ N:St→Hp→Prop,(∀ σ' H',N σ' H'→∃ m',m'<m∧W m' σ' H')∧tb { D with nx:=N,ct:=N,bk:=D.nx } σ H1 else D.nx σ H1
theorem vB {c:Expr} {body:List Stmt} {tc:TT} {tb:TS} (hp:PassesOwn (model X.prog X.w) X.A X.env X.xe) (hc:PT X c tc) (hb:PSs X body tb):PS X (.While c body [] pos) (Gu tc tb):=by
  intro pins s σ H D I h
  obtain ⟨W,⟨m0,w0⟩,turn⟩:=h
  refine wpAny_While (codeAny_whileLoop (fun n s'=>∃ σ' H',Inv X pins σ' H' s'∧W n σ' H') ?_ m0 ⟨σ,H,I,w0⟩)
  rintro n s1 ⟨σ1,H1,I1,w1⟩
  refine wpAny_passesOwn hp (thn (hc pins s1 σ1 H1 _ I1 (turn n σ1 H1 w1)) fun b s2 ⟨H2,I2,q2⟩=>?_)
  cases b with
  | true =>
    obtain ⟨N,hN,q2⟩:=q2
    rw [if_pos rfl]
    refine wpAny_passesOwn hp (thn (hb pins s2 σ1 H2 _ I2 q2) fun f s3 q3=>?_)
    cases f with
    | next =>
      obtain ⟨σ3,H3,I3,n3⟩:=q3
      obtain ⟨m',hm,w3⟩:=hN σ3 H3 n3
      exact ⟨m',hm,σ3,H3,I3,w3⟩
    | cont =>
      obtain ⟨σ3,H3,I3,n3⟩:=q3
      obtain ⟨m',hm,w3⟩:=hN σ3 H3 n3
      exact ⟨m',hm,σ3,H3,I3,w3⟩
    | brk=>exact q3
    | ret v=>exact q3
  | false =>
    rw [if_neg Bool.false_ne_true]
    exact wpAny_execs_nil ⟨σ1,H2,I2,q2⟩
end
structure It where
  go:Nat→Hp→Prop
  yld:Nat→Hp→V→Hp→Prop
  stop:Nat→Hp→Prop
def wM (X:Cx) (pins:List (Addr × Obj)) (H:Hp) (b:Addr):Prop :=
  H b=none∧b≠X.env.locals∧b ∉ X.fs∧(b∈X.ex∨X.s₀.heap.objs.size≤b)∧(∀ x c,X.env.cells.lookup x=some c→c≠b)∧∀ p∈X.pn++pins,p.1≠b
theorem Inv.Gj {X:Cx} {pins:List (Addr × Obj)} {σ:St} {H H':Hp} {s:Shared} {b:Addr} (I:Inv X pins σ H s) (hb:s.heap.objs.size≤b) (hn:H' b=none):wM X pins H' b:=by
  refine ⟨hn,Nat.ne_of_gt (Nat.lt_of_lt_of_le I.lt hb),I.nofs hb,.inr (Nat.le_trans I.sz hb),fun x c e z=>?_,fun p hp z=>?_⟩
  · obtain ⟨v,q⟩:=I.cell x c e
    exact absurd (Nat.lt_of_lt_of_le q.lt (by rw [z];exact hb)) (Nat.lt_irrefl _)
  · exact absurd (Nat.lt_of_lt_of_le (Heap.lt_size (I.pin p hp).1) (by rw [z];exact hb)) (Nat.lt_irrefl _)
structure Turn (P:Program) (w:World) (K:PySem.W.Frag) (tg:Expr) (J:It) (fp:List Addr) (it:Addr) (tn:Nat→Heap→Prop):Prop where
  mem:it∈fp
  obj:∀ i h,tn i h→∀ b∈fp,∃ o,h.get? b=some o∧∀ v,o.data≠.cell v
  keep:∀ i h h',tn i h→(∀ b∈fp,∀ o,h.get? b=some o→h'.get? b=some o)→tn i h'
  item:∀ (X:Cx),X.prog=P→X.w=w→X.K=K→X.calm=true→∀ (i:Nat) (pins:List (Addr × Obj)) (s:Shared) (σ:St) (H:Hp) (E:Value→Shared→Prop),Inv X pins σ H s→(∀ b∈fp,wM X pins H b)→tn i s.heap→J.go i H →
    wpAny (model P w) X.A (pyNext (.ref it)) (fun r s1=>∃ u,r=some u ∧
      wpAny (model P w) X.A (letOwnedTupleGo tg (.ref it) u) (fun _ s2=>∃ x H',Inv X pins σ H' s2∧RelV x u∧J.yld i H x H'∧tn (i + 1) s2.heap∧∀ b∈fp,H' b=none) E s1) E s
  done:∀ (X:Cx),X.prog=P→X.w=w→X.K=K→X.calm=true→∀ (i:Nat) (pins:List (Addr × Obj)) (s:Shared) (σ:St) (H:Hp) (E:Value→Shared→Prop),Inv X pins σ H s→(∀ b∈fp,wM X pins H b)→tn i s.heap→J.stop i H →
    wpAny (model P w) X.A (pyNext (.ref it)) (fun r s1=>r=none∧Inv X pins σ H s1) E s
  self:∀ (A:Around) (i:Nat) (s:Shared) (Q:Value→Shared→Prop) (E:Value→Shared→Prop),tn i s.heap→Q (.ref it) s→wpAny (model P w) A (pyIter (.ref it)) Q E s
abbrev TI:=St→Hp→(It→Hp→Prop)→Prop
def PIE (X:Cx) (pins:List (Addr × Obj)) (σ:St) (tg:Expr) (R:It→Hp→Prop) (itv:Value) (s2:Shared):Prop :=
  ∃ (it:Addr) (fp:List Addr) (tn:Nat→Heap→Prop) (J:It) (H':Hp),itv=.ref it∧Inv X pins σ H' s2∧Turn X.prog X.w X.K tg J fp it tn∧tn 0 s2.heap∧(∀ b∈fp,wM X pins H' b)∧R J H'
def PI (X:Cx) (tg iter:Expr) (wi:TI):Prop :=
  ∀ (pins:List (Addr × Obj)) (s:Shared) (σ:St) (H:Hp) (R:It→Hp→Prop),Inv X pins σ H s→wi σ H R →
    wpAny (model X.prog X.w) X.A (eval iter X.env) (fun v s1=>wpAny (model X.prog X.w) X.A (pyIter v) (PIE X pins σ tg R) X.xe s1) X.xe s
theorem wu {M:Model} {A:Around} {E:Value→Shared→Prop} {s:Shared} {tg:Expr} {it:Addr} {u:Value} {o:Obj} {n:String} {vs:Array Value} {Q:Unit→Shared→Prop} (ho:s.heap.get? it=some o) (hc:o.cls=.type n) (hd:o.data=.fields vs)
    (hn:["enumerate","zip","dict_itemiterator","dict_reverseitemiterator","odict_iterator","itertools.zip_longest","itertools.pairwise"].contains n=false) (hQ:Q () s):wpAny M A (letOwnedTupleGo tg (.ref it) u) Q E s:=by
  unfold letOwnedTupleGo
  cases tg <;> first
    | exact wpAny_pure hQ
    | (cases u <;> first
        | exact wpAny_pure hQ
        | (refine wpAny_bind (wpAny_load ho ?_)
           rw [hc,hd]
           show wpAny M A (if (["enumerate","zip","dict_itemiterator","dict_reverseitemiterator","odict_iterator","itertools.zip_longest","itertools.pairwise"].contains n && vs[0]? == some (rawInt _))=true then _ else _) Q E s
           rw [if_neg (by intro h;rw [hn,Bool.false_and] at h;cases h)]
           exact wpAny_pure hQ))
def Itl (K:PySem.W.Frag) (a:Addr):It :=
  ⟨fun i H=>∃ xs x,SqL K H a xs∧xs[i]?=some x,fun i H x H'=>H'=H∧∀ xs,SqL K H a xs→xs[i]?=some x,fun i H=>∃ xs,SqL K H a xs∧xs.length≤i⟩
def Itt (K:PySem.W.Frag) (a:Addr):It :=
  ⟨fun i H=>∃ xs x,SqT K H a xs∧xs[i]?=some x,fun i H x H'=>H'=H∧∀ xs,SqT K H a xs→xs[i]?=some x,fun i H=>∃ xs,SqT K H a xs∧xs.length≤i⟩
def Itr (lo:Int) (n:Nat):It:=⟨fun i _=>i<n,fun i H x H'=>H'=H∧x=.int (lo + i),fun i _=>n≤i⟩
theorem rM {P:Program} {w:World} {K:PySem.W.Frag} {tg:Expr} (a it:Addr):Turn P w K tg (Itl K a) [it] it (fun i h=>h.IsListIter it a i) where
  mem:=by simp
  obj:=fun i h st b hb=>by
    have e:b=it:=by simpa using hb
    subst e
    obtain ⟨o,e,c,d⟩:=st
    exact ⟨o,e,fun v z=>by rw [d] at z;cases z⟩
  keep:=fun i h h' st k=>st.at fun o e=>k it (by simp) o e
  item:=by
    intro X hP hw hK hc i pins s σ H E I hf st hg
    subst hP hw hK
    obtain ⟨xs,x,hq,hx⟩:=hg
    obtain ⟨its,rv,p,hz⟩:=I.list hq
    obtain ⟨u,hu,ru⟩:=rv.get hx
    obtain ⟨f0,f1,f2,f3,f4,f5⟩:=hf it (by simp)
    refine wpAny_pyNext_list_item st p.isList (x:=u) (by simpa using hu) fun h' st' sb=>?_
    have I1:Inv X pins σ H { s with heap:=h' }:=I.turned (t':=s.toks) (fun b o hb e=>(sb.2 b hb).trans e) f0 f1 f3 f4 f5
    obtain ⟨o,e,c,d⟩:=id st'
    exact ⟨u,rfl,wu (s:={ s with heap:=h' }) e c d (by decide) ⟨x,H,I1,ru,⟨rfl,fun ys hy=>by rw [I.vZ hy hq];exact hx⟩,st',fun b hb=>(hf b hb).1⟩⟩
  done:=by
    intro X hP hw hK hc i pins s σ H E I hf st hg
    subst hP hw hK
    obtain ⟨xs,hq,hx⟩:=hg
    obtain ⟨its,rv,p,hz⟩:=I.list hq
    obtain ⟨f0,f1,f2,f3,f4,f5⟩:=hf it (by simp)
    have hl:=rv.length
    exact wpAny_pyNext_list_end (I.ok.hd hc) st p.isList (by simp;omega) fun h' eb=>⟨rfl,I.turned (t':=s.toks) (fun b o hb e=>eb b o hb e) f0 f1 f3 f4 f5⟩
  self:=fun _ _ _ _ _ st h=>wpAny_pyIter_listiter st h
theorem qP {P:Program} {w:World} {K:PySem.W.Frag} {tg:Expr} (a it:Addr):Turn P w K tg (Itt K a) [it] it (fun i h=>h.IsTupleIter it a i) where
  mem:=by simp
  obj:=fun i h st b hb=>by
    have e:b=it:=by simpa using hb
    subst e
    obtain ⟨o,e,c,d⟩:=st
    exact ⟨o,e,fun v z=>by rw [d] at z;cases z⟩
  keep:=fun i h h' st k=>st.at fun o e=>k it (by simp) o e
  item:=by
    intro X hP hw hK hc i pins s σ H E I hf st hg
    subst hP hw hK
    obtain ⟨xs,x,hq,hx⟩:=hg
    obtain ⟨its,rv,p,hz⟩:=I.tuple hq
    obtain ⟨u,hu,ru⟩:=rv.get hx
    obtain ⟨f0,f1,f2,f3,f4,f5⟩:=hf it (by simp)
    refine wpAny_pyNext_tuple_item st (show s.heap.IsTuple a its.toArray from p) (x:=u) (by simpa using hu) fun h' st' sb=>?_
    have I1:Inv X pins σ H { s with heap:=h' }:=I.turned (t':=s.toks) (fun b o hb e=>(sb.2 b hb).trans e) f0 f1 f3 f4 f5
    obtain ⟨o,e,c,d⟩:=id st'
    exact ⟨u,rfl,wu (s:={ s with heap:=h' }) e c d (by decide) ⟨x,H,I1,ru,⟨rfl,fun ys hy=>by rw [I.rO hy hq];exact hx⟩,st',fun b hb=>(hf b hb).1⟩⟩
  done:=by
    intro X hP hw hK hc i pins s σ H E I hf st hg
    subst hP hw hK
    obtain ⟨xs,hq,hx⟩:=hg
    obtain ⟨its,rv,p,hz⟩:=I.tuple hq
    obtain ⟨f0,f1,f2,f3,f4,f5⟩:=hf it (by simp)
    have hl:=rv.length
    exact wpAny_pyNext_tuple_end (I.ok.hd hc) st (show s.heap.IsTuple a its.toArray from p) (by simp;omega) fun h' eb=>⟨rfl,I.turned (t':=s.toks) (fun b o hb e=>eb b o hb e) f0 f1 f3 f4 f5⟩
  self:=fun _ _ _ _ _ st h=>wpAny_pyIter_tupleiter st h
theorem qQ {P:Program} {w:World} {K:PySem.W.Frag} {tg:Expr} (it:Addr) (lo:Int) (n:Nat):Turn P w K tg (Itr lo n) [it] it (fun i h=>IsRangeIter h it (lo + (i:Nat) * 1) ((n:Int) - (i:Nat)) 1) where
  mem:=by simp
  obj:=fun i h st b hb=>by
    have e:b=it:=by simpa using hb
    subst e
    exact ⟨_,st,fun v z=>by
      have z':Data.fields _=Data.cell v:=z
      cases z'⟩
  keep:=fun i h h' st k=>k it (by simp) _ st
  item:=by
    intro X hP hw hK hc i pins s σ H E I hf st hg
    subst hP hw hK
    obtain ⟨f0,f1,f2,f3,f4,f5⟩:=hf it (by simp)
    have W:=Walks.range (prog:=X.prog) (w:=X.w) (I.ok.hd hc) it lo 1 n
    refine W.item i s _ _ hg st fun v h' tk hv st' kk=>?_
    obtain ⟨t,rfl⟩:=hv
    have I1:Inv X pins σ H { s with heap:=h',toks:=tk }:=I.turned (fun b o hb e=>kk b o (by simpa using hb) e) f0 f1 f3 f4 f5
    refine ⟨_,rfl,wu (s:={ s with heap:=h',toks:=tk }) (n:="range_iterator") st' rfl rfl (by decide) ⟨.int (lo + i),H,I1,⟨t,?_⟩,⟨rfl,rfl⟩,st',fun b hb=>(hf b hb).1⟩⟩
    rw [Int.mul_one]
  done:=by
    intro X hP hw hK hc i pins s σ H E I hf st hg
    subst hP hw hK
    obtain ⟨f0,f1,f2,f3,f4,f5⟩:=hf it (by simp)
    exact wpAny_pyNext_range_end (I.ok.hd hc) st (by have:n≤i:=hg;omega) fun h' eb=>⟨rfl,I.turned (t':=s.toks) (fun b o hb e=>eb b o hb e) f0 f1 f3 f4 f5⟩
  self:=fun _ _ _ _ _ st h=>wpAny_pyIter_rangeiter st h
end L2
namespace L2
open PySem PySem.Spec PyProof.Rows
section
variable {X:Cx} {tg:Expr}
def Nv (K:PySem.W.Frag) (tl:TE):TI:=fun σ H R=>tl σ H fun x H1=>∃ a,x=.ref a∧(∃ xs,SqL K H1 a xs)∧R (Itl K a) H1
def iTup (K:PySem.W.Frag) (tl:TE):TI:=fun σ H R=>tl σ H fun x H1=>∃ a,x=.ref a∧(∃ xs,SqT K H1 a xs)∧R (Itt K a) H1
theorem jY {l:Expr} {tl:TE} (hl:PE X l tl):PI X tg l (Nv X.K tl):=by
  intro pins s σ H R I h
  refine thn (hl pins s σ H _ I h) fun v s1 ⟨x,H1,I1,r1,q1⟩=>?_
  obtain ⟨a,e,⟨xs,hq⟩,q⟩:=q1
  subst e
  cases r1
  obtain ⟨its,rv,p,hz⟩:=I1.list hq
  refine wpAny_pyIter_list p.isList ?_
  refine ⟨s1.heap.objs.size,[s1.heap.objs.size],_,_,H1,rfl,I1.kept (t':=s1.toks) fun b o e=>Heap.get?_push_of_some _ e,rM a _,⟨_,Heap.get?_push_size _ rfl,rfl,rfl⟩,fun b hb=>?_,q⟩
  have e:b=s1.heap.objs.size:=by simpa using hb
  subst e
  exact I1.Gj (Nat.le_refl _) (I1.hok.fresh (Nat.le_refl _))
theorem GF {l:Expr} {tl:TE} (hl:PE X l tl):PI X tg l (iTup X.K tl):=by
  intro pins s σ H R I h
  refine thn (hl pins s σ H _ I h) fun v s1 ⟨x,H1,I1,r1,q1⟩=>?_
  obtain ⟨a,e,⟨xs,hq⟩,q⟩:=q1
  subst e
  cases r1
  obtain ⟨its,rv,p,hz⟩:=I1.tuple hq
  refine wpAny_pyIter_tuple (show s1.heap.IsTuple a its.toArray from p) ?_
  refine ⟨s1.heap.objs.size,[s1.heap.objs.size],_,_,H1,rfl,I1.kept (t':=s1.toks) fun b o e=>Heap.get?_push_of_some _ e,qP a _,⟨_,Heap.get?_push_size _ rfl,rfl,rfl⟩,fun b hb=>?_,q⟩
  have e:b=s1.heap.objs.size:=by simpa using hb
  subst e
  exact I1.Gj (Nat.le_refl _) (I1.hok.fresh (Nat.le_refl _))
theorem vA {pins:List (Addr × Obj)} {σ:St} {H:Hp} {s:Shared} {R:It→Hp→Prop} {E:Value→Shared→Prop} {lo hi:Int} {t u v:Tok} {tk:Nat} (I:Inv X pins σ H s) (h1:-(2 ^ 62)≤lo) (h2:lo<2 ^ 62) (h3:-(2 ^ 62)≤hi) (h4:hi<2 ^ 62)
    (q:R (Itr lo (hi - lo).toNat) H):wpAny (model X.prog X.w) X.A (pyIter (.ref s.heap.objs.size)) (PIE X pins σ tg R) E { s with heap:=s.heap.push { cls:=.type "range",data:=.fields #[.int lo t,.int hi u,.int 1 v] },toks:=tk }:=by
  refine wpAny_pyIter_range (IsRange.new ..) (small_one h1 h2 h3 h4) ?_
  have I1:Inv X pins σ H { s with heap:=s.heap.push { cls:=.type "range",data:=.fields #[.int lo t,.int hi u,.int 1 v] },toks:=tk }:=I.kept fun b o e=>Heap.get?_push_of_some _ e
  refine ⟨(s.heap.push { cls:=.type "range",data:=.fields #[.int lo t,.int hi u,.int 1 v] }).objs.size,[(s.heap.push { cls:=.type "range",data:=.fields #[.int lo t,.int hi u,.int 1 v] }).objs.size],_,_,H,rfl,
    I1.kept (t':=tk) fun b o e=>Heap.get?_push_of_some _ e,qQ _ lo (hi - lo).toNat,?_,fun b hb=>?_,q⟩
  · have e1:lo + ((0:Nat):Int) * 1=lo:=by simp
    have e2:(((hi - lo).toNat:Nat):Int) - ((0:Nat):Int)=Builtin.Range.rangeSize lo hi 1:=by rw [rangeSize_one];split <;> omega
    show IsRangeIter _ _ (lo + ((0:Nat):Int) * 1) ((((hi - lo).toNat:Nat):Int) - ((0:Nat):Int)) 1
    rw [e1,e2]
    exact Heap.get?_push_size _ rfl
  · have e:b=(s.heap.push { cls:=.type "range",data:=.fields #[.int lo t,.int hi u,.int 1 v] }).objs.size:=by simpa using hb
    subst e
    exact I1.Gj (Nat.le_refl _) (I1.hok.fresh (Nat.le_refl _))
def Nu (ta:TA):TI:=fun σ H R=>ta σ H fun vs H1=>∃ j:Int,vs=[.int j]∧-(2 ^ 62)≤j∧j<2 ^ 62∧R (Itr 0 j.toNat) H1
theorem gZ {a:Expr} {ta:TA} {p pos:Pos} (hg:Gl X "range") (hm:X.mg "range"=none) (ha:PA X [a] ta) (hs:starEach [a] X.env=[(false,eval a X.env)]:=by rfl):PI X tg (.Call (.Name "range" p) [a] [] pos) (Nu ta):=by
  intro pins s σ H R I h
  refine Call_ (ou I hg hm boot_range (PyProof.Rows.callWith_type1 (thn (ha pos pins s σ H _ I h) fun us s1 ⟨vs,H1,I1,r1,q1⟩=>?_) hs rfl))
  obtain ⟨j,e,q1,q2,q⟩:=q1
  subst e
  cases r1 with
  | cons r rr =>
    cases rr
    obtain ⟨t,rfl⟩:=r
    exact call_range_1 (vA I1 (by omega) (by omega) q1 q2 (by simpa using q))
def tFor (wi:TI) (g:TG) (tb:TS):TS:=fun D σ H=>wi σ H fun J H1=>∃ W:Nat→Nat→St→Hp→Prop,(∃ m,W 0 m σ H1)∧∀ i m σ H,W i m σ H →
  (J.stop i H∧D.nx σ H)∨(J.go i H∧∃ N:St→Hp→Prop,(∀ σ' H',N σ' H'→∃ m',m'<m∧W (i + 1) m' σ' H')∧∀ x H',J.yld i H x H'→g x σ H' fun σ2 H2=>tb { D with nx:=N,ct:=N,bk:=D.nx } σ2 H2)
def nU (fp:List Addr) (h:Heap):List (Addr × Obj):=fp.filterMap fun b=>(h.get? b).map fun o=>(b,o)
theorem iJ {fp:List Addr} {h:Heap} {b:Addr} {o:Obj} (hb:b∈fp) (e:h.get? b=some o):(b,o)∈nU fp h:=List.mem_filterMap.mpr ⟨b,hb,by rw [e];rfl⟩
theorem tY {fp:List Addr} {h:Heap} {p:Addr × Obj} (hp:p∈nU fp h):p.1∈fp∧h.get? p.1=some p.2:=by
  obtain ⟨b,hb,e⟩:=List.mem_filterMap.mp hp
  cases q:h.get? b with
  | none=>rw [q] at e;cases e
  | some o =>
    rw [q] at e
    have e':(b,o)=p:=Option.some.inj e
    subst e'
    exact ⟨hb,q⟩
theorem Inv.pinned {pins:List (Addr × Obj)} {σ:St} {H:Hp} {s:Shared} {fp:List Addr} (I:Inv X pins σ H s) (hf:∀ b∈fp,wM X pins H b) (ho:∀ b∈fp,∃ o,s.heap.get? b=some o∧∀ v,o.data≠.cell v):Inv X (pins++nU fp s.heap) σ H s :=
  I.tE fun p hp=>(List.mem_append.mp hp).elim (fun z=>I.pin p (List.mem_append_right _ z)) fun z=>by
    obtain ⟨hb,e⟩:=tY z
    obtain ⟨f0,f1,f2,_⟩:=hf p.1 hb
    obtain ⟨o,e',d⟩:=ho p.1 hb
    rw [e] at e';cases e'
    exact ⟨e,f0,f1,f2,d⟩
theorem Inv.jJ {pins pl:List (Addr × Obj)} {σ:St} {H:Hp} {s:Shared} (I:Inv X (pins++pl) σ H s):Inv X pins σ H s:=I.tE fun p hp=>I.pin p (List.mem_append_right _ (List.mem_append_left _ hp))
theorem nR {iter:Expr} {body:List Stmt} {wi:TI} {g:TG} {tb:TS} {pos:Pos} (hp:PassesOwn (model X.prog X.w) X.A X.env X.xe) (hc:X.calm=true) (hi:PI X tg iter wi) (hg:PG X tg g) (hb:PSs X body tb)
    (hs:∀ x,foldedSetIterable iter X.env x=pure x:=by intro _;rfl):PS X (.For tg iter body [] pos) (tFor wi g tb):=by
  intro pins s σ H D I h
  refine wpAny_For (thn (hi pins s σ H _ I h) fun v s1 h1=>thn h1 fun itv s2 h2=>?_) hs
  obtain ⟨it,fp,tn,J,H2,e,I2,T,st2,f2,W,⟨m0,w0⟩,turn⟩:=h2
  subst e
  have stat:∀ {H':Hp},(∀ b∈fp,H' b=none)→∀ b∈fp,wM X pins H' b:=fun hn b hb=>⟨hn b hb,(f2 b hb).2⟩
  refine codeAny_forLoop_any (fun n s'=>∃ i σ' H',Inv X pins σ' H' s'∧tn i s'.heap∧(∀ b∈fp,H' b=none)∧W i n σ' H') ?_ m0 ⟨0,σ,H2,I2,st2,fun b hb=>(f2 b hb).1,w0⟩
  rintro n s3 ⟨i,σ3,H3,I3,st3,fr3,w3⟩
  rcases turn i n σ3 H3 w3 with ⟨stop,qn⟩ | ⟨go,N,hN,step⟩
  · refine wpAny_passesOwn hp (thn (T.done X rfl rfl rfl hc i pins s3 σ3 H3 X.xe I3 (stat fr3) st3 stop) fun r s4 ⟨hr,I4⟩=>?_)
    subst hr
    exact wpAny_execs_nil ⟨σ3,H3,I4,qn⟩
  · refine wpAny_passesOwn hp (thn (T.item X rfl rfl rfl hc i pins s3 σ3 H3 X.xe I3 (stat fr3) st3 go) fun r s4 ⟨u,hr,h4⟩=>?_)
    subst hr
    refine wpAny_passesOwn hp (thn h4 fun _ s5 ⟨x,H5,I5,r5,y5,st5,fr5⟩=>?_)
    have I5':=I5.pinned (stat fr5) (T.obj _ _ st5)
    refine wpAny_passesOwn hp (thn (hg _ s5 σ3 H5 x u _ I5' r5 (step x H5 y5)) fun _ s6 ⟨σ6,H6,I6,q6⟩=>?_)
    refine wpAny_passesOwn hp (thn (hb _ s6 σ6 H6 _ I6 q6) fun f s7 q7=>?_)
    have again:∀ {σ7:St} {H7:Hp},Inv X (pins++nU fp s5.heap) σ7 H7 s7→N σ7 H7→∃ m,m<n∧∃ i σ' H',Inv X pins σ' H' s7∧tn i s7.heap∧(∀ b∈fp,H' b=none)∧W i m σ' H':=fun {σ7 H7} I7 n7=>by
      obtain ⟨m',hm,w7⟩:=hN σ7 H7 n7
      refine ⟨m',hm,i + 1,σ7,H7,I7.jJ,T.keep _ _ _ st5 fun b hb o e=>(I7.pin (b,o) (List.mem_append_right _ (List.mem_append_right _ (iJ hb e)))).1,fun b hb=>?_,w7⟩
      obtain ⟨o,e,d⟩:=T.obj _ _ st5 b hb
      exact (I7.pin (b,o) (List.mem_append_right _ (List.mem_append_right _ (iJ hb e)))).2.1
    cases f with
    | next=>obtain ⟨σ7,H7,I7,n7⟩:=q7;exact again I7 n7
    | cont=>obtain ⟨σ7,H7,I7,n7⟩:=q7;exact again I7 n7
    | brk=>obtain ⟨σ7,H7,I7,q7⟩:=q7;exact ⟨σ7,H7,I7.jJ,q7⟩
    | ret v=>obtain ⟨x7,σ7,H7,I7,r7,q7⟩:=q7;exact ⟨x7,σ7,H7,I7.jJ,r7,q7⟩
end
theorem mV {K:PySem.W.Frag} {a:Addr} {xs:List V} {g:TG} {tb:TS} {D:Ends} {σ:St} {H:Hp} (Pv:Nat→St→Hp→Prop) (h0:Pv 0 σ H) (hl:∀ i σ H,i≤xs.length→Pv i σ H→SqL K H a xs)
    (hs:∀ i x σ H,xs[i]?=some x→Pv i σ H→g x σ H fun σ2 H2=>tb { D with nx:=Pv (i + 1),ct:=Pv (i + 1),bk:=D.nx } σ2 H2) (hd:∀ σ H,Pv xs.length σ H→D.nx σ H) :
    ∃ W:Nat→Nat→St→Hp→Prop,(∃ m,W 0 m σ H)∧∀ i m σ H,W i m σ H →
      ((Itl K a).stop i H∧D.nx σ H)∨((Itl K a).go i H∧∃ N:St→Hp→Prop,(∀ σ' H',N σ' H'→∃ m',m'<m∧W (i + 1) m' σ' H')∧∀ x H',(Itl K a).yld i H x H'→g x σ H' fun σ2 H2=>tb { D with nx:=N,ct:=N,bk:=D.nx } σ2 H2):=by
  refine ⟨fun i m σ H=>m=xs.length - i∧i≤xs.length∧Pv i σ H,⟨xs.length,by simp,Nat.zero_le _,h0⟩,?_⟩
  rintro i m σ H ⟨rfl,hi,p⟩
  have q:=hl i σ H hi p
  by_cases hlt:i<xs.length
  · refine .inr ⟨⟨xs,xs[i],q,by simp [hlt]⟩,Pv (i + 1),fun σ' H' p'=>⟨xs.length - (i + 1),by omega,rfl,hlt,p'⟩,fun x H' y=>?_⟩
    obtain ⟨e,y⟩:=y
    subst e
    exact hs i x σ _ (y xs q) p
  · have e:i=xs.length:=by omega
    subst e
    exact .inl ⟨⟨xs,q,Nat.le_refl _⟩,hd σ H p⟩
theorem uG {lo:Int} {n:Nat} {g:TG} {tb:TS} {D:Ends} {σ:St} {H:Hp} (Pv:Nat→St→Hp→Prop) (h0:Pv 0 σ H)
    (hs:∀ i σ H,i<n→Pv i σ H→g (.int (lo + i)) σ H fun σ2 H2=>tb { D with nx:=Pv (i + 1),ct:=Pv (i + 1),bk:=D.nx } σ2 H2) (hd:∀ σ H,Pv n σ H→D.nx σ H) :
    ∃ W:Nat→Nat→St→Hp→Prop,(∃ m,W 0 m σ H)∧∀ i m σ H,W i m σ H →
      ((Itr lo n).stop i H∧D.nx σ H)∨((Itr lo n).go i H∧∃ N:St→Hp→Prop,(∀ σ' H',N σ' H'→∃ m',m'<m∧W (i + 1) m' σ' H')∧∀ x H',(Itr lo n).yld i H x H'→g x σ H' fun σ2 H2=>tb { D with nx:=N,ct:=N,bk:=D.nx } σ2 H2):=by
  refine ⟨fun i m σ H=>m=n - i∧i≤n∧Pv i σ H,⟨n,by simp,Nat.zero_le _,h0⟩,?_⟩
  rintro i m σ H ⟨rfl,hi,p⟩
  by_cases hlt:i<n
  · refine .inr ⟨hlt,Pv (i + 1),fun σ' H' p'=>⟨n - (i + 1),by omega,rfl,hlt,p'⟩,fun x H' y=>?_⟩
    obtain ⟨e,y⟩:=y
    subst e y
    exact hs i σ _ hlt p
  · have e:i=n:=by omega
    subst e
    exact .inl ⟨Nat.le_refl _,hd σ H p⟩
end L2
namespace L2
open PySem PySem.Spec PyProof.Rows
abbrev R2:=V→V→Hp→VK→Prop
def OpR (X:Cx) (f:Value→Value→Sem Value) (r:R2):Prop :=
  ∀ (pins:List (Addr × Obj)) (s:Shared) (σ:St) (H:Hp) (x y:V) (v u:Value) (Q:VK),Inv X pins σ H s→RelV x v→RelV y u→r x y H Q →
    wpAny (model X.prog X.w) X.A (f v u) (EP X pins σ Q) X.xe s
def UnR (X:Cx) (f:Value→Sem Value) (r:V→Hp→VK→Prop):Prop :=
  ∀ (pins:List (Addr × Obj)) (s:Shared) (σ:St) (H:Hp) (x:V) (v:Value) (Q:VK),Inv X pins σ H s→RelV x v→r x H Q →
    wpAny (model X.prog X.w) X.A (f v) (EP X pins σ Q) X.xe s
def jH (X:Cx) (f:Value) (r:List V→Hp→VK→Prop):Prop :=
  ∀ (pins:List (Addr × Obj)) (s:Shared) (σ:St) (H:Hp) (xs:List V) (us:List Value) (Q:VK),Inv X pins σ H s→Vals xs us→r xs H Q →
    wpAny (model X.prog X.w) X.A (call f us) (EP X pins σ Q) X.xe s
def tOp (r:R2) (ta tb:TE):TE:=fun σ H Q=>ta σ H fun x H1=>tb σ H1 fun y H2=>r x y H2 Q
def tUn (r:V→Hp→VK→Prop) (ta:TE):TE:=fun σ H Q=>ta σ H fun x H1=>r x H1 Q
def rI (C:Int→Int→Prop) (g:Int→Int→V):R2:=fun x y H Q=>∃ i j,x=.int i∧y=.int j∧C i j∧Q (g i j) H
def rI0 (g:Int→Int→V):R2:=fun x y H Q=>∃ i j,x=.int i∧y=.int j∧Q (g i j) H
def rU (g:Int→V):V→Hp→VK→Prop:=fun x H Q=>∃ i,x=.int i∧Q (g i) H
section
variable {X:Cx} {a b c:Expr} {ta tb tc:TE} {pos:Pos}
theorem MJ (ha:PE X a ta) (hb:PE X b tb) {pins:List (Addr × Obj)} {s:Shared} {σ:St} {H:Hp} {R:V→V→Hp→Prop} (I:Inv X pins σ H s)
    (h:ta σ H fun x H1=>tb σ H1 fun y H2=>R x y H2) {Q:Value→Shared→Prop} {f:Value→Value→Sem Value}
    (hf:∀ v u s2 x y H2,Inv X pins σ H2 s2→RelV x v→RelV y u→R x y H2→wpAny (model X.prog X.w) X.A (f v u) Q X.xe s2) :
    wpAny (model X.prog X.w) X.A (eval a X.env) (fun v s₁=>wpAny (model X.prog X.w) X.A (eval b X.env) (fun u s₂=>wpAny (model X.prog X.w) X.A (f v u) Q X.xe s₂) X.xe s₁) X.xe s:=by
  refine thn (ha pins s σ H _ I h) fun v s1 ⟨x,H1,I1,r1,q1⟩=>?_
  refine thn (hb pins s1 σ H1 _ I1 q1) fun u s2 ⟨y,H2,I2,r2,q2⟩=>?_
  exact hf v u s2 x y H2 I2 r1 r2 q2
theorem bD {op:Operator} {r:R2} (ho:OpR X (binaryOp op) r) (ha:PE X a ta) (hb:PE X b tb):PE X (.BinOp a op b pos) (tOp r ta tb):=by
  intro pins s σ H Q I h
  exact wpAny_BinOp (MJ ha hb I h fun v u s2 x y H2 I2 rx ry q=>ho pins s2 σ H2 x y v u Q I2 rx ry q)
theorem Fe {op:UnaryOp} {r:V→Hp→VK→Prop} (ho:UnR X (unaryOp op) r) (ha:PE X a ta):PE X (.UnaryOp op a pos) (tUn r ta):=by
  intro pins s σ H Q I h
  exact UnaryOp_ (thn (ha pins s σ H _ I h) fun v s1 ⟨x,H1,I1,r1,q1⟩=>ho pins s1 σ H1 x v Q I1 r1 q1)
theorem opI {f:Value→Value→Sem Value} {C:Int→Int→Prop} {g:Int→Int→Int}
    (rule:∀ (i j:Int) (t u:Tok) (s:Shared) (Q:Value→Shared→Prop) (E:Value→Shared→Prop),C i j→Q (.int (g i j) s.toks) { s with toks:=s.toks + 1 }→wpAny (model X.prog X.w) X.A (f (.int i t) (.int j u)) Q E s) :
    OpR X f (rI C fun i j=>.int (g i j)):=by
  intro pins s σ H x y v u Q I rx ry h
  obtain ⟨i,j,rfl,rfl,hc,q⟩:=h
  obtain ⟨t,rfl⟩:=rx
  obtain ⟨t',rfl⟩:=ry
  exact rule i j t t' s _ _ hc ⟨.int (g i j),H,I.tok _,⟨_,rfl⟩,q⟩
theorem Qm {f:Value→Value→Sem Value} {g:Int→Int→Int}
    (rule:∀ (i j:Int) (t u:Tok) (s:Shared) (Q:Value→Shared→Prop) (E:Value→Shared→Prop),Q (.int (g i j) s.toks) { s with toks:=s.toks + 1 }→wpAny (model X.prog X.w) X.A (f (.int i t) (.int j u)) Q E s) :
    OpR X f (rI0 fun i j=>.int (g i j)):=by
  intro pins s σ H x y v u Q I rx ry h
  obtain ⟨i,j,rfl,rfl,q⟩:=h
  obtain ⟨t,rfl⟩:=rx
  obtain ⟨t',rfl⟩:=ry
  exact rule i j t t' s _ _ ⟨.int (g i j),H,I.tok _,⟨_,rfl⟩,q⟩
theorem Mz {f:Value→Value→Sem Value} {g:Int→Int→Bool}
    (rule:∀ (i j:Int) (t u:Tok) (s:Shared) (Q:Value→Shared→Prop) (E:Value→Shared→Prop),Q (.bool (g i j)) s→wpAny (model X.prog X.w) X.A (f (.int i t) (.int j u)) Q E s) :
    OpR X f (rI0 fun i j=>.bl (g i j)):=by
  intro pins s σ H x y v u Q I rx ry h
  obtain ⟨i,j,rfl,rfl,q⟩:=h
  obtain ⟨t,rfl⟩:=rx
  obtain ⟨t',rfl⟩:=ry
  exact rule i j t t' s _ _ ⟨.bl (g i j),H,I,rfl,q⟩
def CDiv (i j:Int):Prop:=0<j∧j<1073741824
def CPow (i j:Int):Prop:=0≤j∧j≤1000000∧i.natAbs<2 ^ 64
def Qd (i j:Int):Prop:=(-(2 ^ 64)<i∧i<2 ^ 64)∨(-(2 ^ 64)<j∧j<2 ^ 64)
theorem Qd.ok {i j:Int} (h:Qd i j):IntMulOk i j:=by
  rcases h with ⟨h1,h2⟩ | ⟨h1,h2⟩
  · exact .of_left (intBits_le_64 h1 h2)
  · exact .of_right (intBits_le_64 h1 h2)
theorem iU:OpR X (binaryOp .Add) (rI0 fun i j=>.int (i + j)):=Qm fun _ _ _ _ _ _ _ q=>add_int q
theorem jC:OpR X (binaryOp .Sub) (rI0 fun i j=>.int (i - j)):=Qm fun _ _ _ _ _ _ _ q=>sub_int q
theorem lR:OpR X (binaryOp .Mult) (rI Qd fun i j=>.int (i * j)):=opI fun _ _ _ _ _ _ _ hc q=>mul_int q hc.ok
theorem j8:OpR X (binaryOp .FloorDiv) (rI CDiv fun i j=>.int (i / j)):=opI fun i j _ _ _ _ _ hc q=>by
  have h1:(0:Int)<j:=hc.1
  have h2:j<1073741824:=hc.2
  exact floordiv_int (by omega) (by rw [Int.fdiv_eq_ediv_of_nonneg i (by omega)];exact q) (.inl (PyProof.noPylong_small (by omega)))
theorem dU:OpR X (binaryOp .Mod) (rI (fun _ j=>0<j) fun i j=>.int (i % j)):=opI fun i j _ _ _ _ _ hc q=>by
  have h1:(0:Int)<j:=hc
  exact mod_int' (by omega) (by rw [Int.fmod_eq_emod_of_nonneg i (by omega)];exact q)
theorem GP:OpR X (binaryOp .Pow) (rI CPow fun i j=>.int (i ^ j.toNat)):=opI fun _ _ _ _ _ _ _ hc q=>pow_int_small hc.1 hc.2.1 hc.2.2 q
theorem unI {f:Value→Sem Value} {g:Int→Int}
    (rule:∀ (i:Int) (t:Tok) (s:Shared) (Q:Value→Shared→Prop) (E:Value→Shared→Prop),Q (.int (g i) s.toks) { s with toks:=s.toks + 1 }→wpAny (model X.prog X.w) X.A (f (.int i t)) Q E s) :
    UnR X f (rU fun i=>.int (g i)):=by
  intro pins s σ H x v Q I rx h
  obtain ⟨i,rfl,q⟩:=h
  obtain ⟨t,rfl⟩:=rx
  exact rule i t s _ _ ⟨.int (g i),H,I.tok _,⟨_,rfl⟩,q⟩
theorem rJ:UnR X (unaryOp .USub) (rU fun i=>.int (-i)):=unI fun _ _ _ _ _ q=>neg_int q
end
def Qh:V→V→Bool
  | .non,.non=>true | .non,.int _=>true | .int _,.non=>true | .non,.bl _=>true | .bl _,.non=>true | .non,.str _=>true | .str _,.non=>true
  | .int _,.int _=>true | .bl _,.bl _=>true | .str _,.str _=>true | .byt _,.byt _=>true
  | .int _,.str _=>true | .str _,.int _=>true | .bl _,.str _=>true | .str _,.bl _=>true
  | _,_=>false
def rEq:R2:=fun x y H Q=>Qh x y=true∧Q (.bl (decide (x=y))) H
def rNe:R2:=fun x y H Q=>Qh x y=true∧Q (.bl (!decide (x=y))) H
theorem uK {i j:Int}:decide (V.int i=V.int j)=(i == j):=by
  rw [Bool.eq_iff_iff]
  simp
theorem Ei {i j:Bool}:decide (V.bl i=V.bl j)=(i == j):=by
  rw [Bool.eq_iff_iff]
  simp
theorem uJ {i j:Str}:decide (V.str i=V.str j)=(i == j):=by
  rw [Bool.eq_iff_iff]
  simp
theorem uL {i j:Array UInt8}:decide (V.byt i=V.byt j)=(i.toList == j.toList):=by
  rw [Bool.eq_iff_iff]
  cases i
  cases j
  simp
section
variable {X:Cx} {a b c:Expr} {ta tb tc:TE} {pos:Pos}
theorem bV {pins:List (Addr × Obj)} {σ:St} {H:Hp} {s:Shared} {Q:VK} {k k':Bool} (I:Inv X pins σ H s) (q:Q (.bl k) H) (e:k=k'):EP X pins σ Q (.bool k') s:=by
  subst e
  exact ⟨.bl k,H,I,rfl,q⟩
theorem lA:OpR X (compareOp .Eq) rEq:=by
  intro pins s σ H x y v u Q I rx ry h
  obtain ⟨hs,q⟩:=h
  cases x with
  | non =>
    cases rx
    cases y with
    | non=>cases ry;exact PySem.EqNone.eq_none_none (bV I q (by simp))
    | bl j=>cases ry;exact PySem.EqNone.eq_none_bool (bV I q (by simp))
    | int j=>obtain ⟨t',rfl⟩:=ry;exact PySem.EqNone.eq_none_int (bV I q (by simp))
    | str j=>obtain ⟨t',rfl⟩:=ry;exact PySem.EqNone.eq_none_str (bV I q (by simp))
    | _=>exact absurd (show false=true from hs) Bool.false_ne_true
  | bl i =>
    cases rx
    cases y with
    | non=>cases ry;exact PySem.EqNone.eq_bool_none (bV I q (by simp))
    | bl j=>cases ry;exact eq_bool (bV I q Ei)
    | str j=>obtain ⟨t',rfl⟩:=ry;exact PySem.EqMixed.eq_bool_str (bV I q (by simp))
    | _=>exact absurd (show false=true from hs) Bool.false_ne_true
  | int i =>
    obtain ⟨t,rfl⟩:=rx
    cases y with
    | non=>cases ry;exact PySem.EqNone.eq_int_none (bV I q (by simp))
    | int j=>obtain ⟨t',rfl⟩:=ry;exact eq_int (bV I q uK)
    | str j=>obtain ⟨t',rfl⟩:=ry;exact PySem.EqMixed.eq_int_str (bV I q (by simp))
    | _=>exact absurd (show false=true from hs) Bool.false_ne_true
  | str i =>
    obtain ⟨t,rfl⟩:=rx
    cases y with
    | non=>cases ry;exact PySem.EqNone.eq_str_none (bV I q (by simp))
    | bl j=>cases ry;exact PySem.EqMixed.eq_str_bool (bV I q (by simp))
    | int j=>obtain ⟨t',rfl⟩:=ry;exact PySem.EqMixed.eq_str_int (bV I q (by simp))
    | str j=>obtain ⟨t',rfl⟩:=ry;exact eq_str (bV I q uJ)
    | _=>exact absurd (show false=true from hs) Bool.false_ne_true
  | byt i =>
    obtain ⟨t,rfl⟩:=rx
    cases y with
    | byt j=>obtain ⟨t',rfl⟩:=ry;exact PySem.W.eq_bytes (bV I q uL)
    | _=>exact absurd (show false=true from hs) Bool.false_ne_true
  | _=>cases y <;> exact absurd (show false=true from hs) Bool.false_ne_true
theorem nW:OpR X (compareOp .NotEq) rNe:=by
  intro pins s σ H x y v u Q I rx ry h
  obtain ⟨hs,q⟩:=h
  cases x with
  | non =>
    cases rx
    cases y with
    | non=>cases ry;exact PySem.EqNone.ne_none_none (bV I q (by simp))
    | bl j=>cases ry;exact PySem.EqNone.ne_none_bool (bV I q (by simp))
    | int j=>obtain ⟨t',rfl⟩:=ry;exact PySem.EqNone.ne_none_int (bV I q (by simp))
    | str j=>obtain ⟨t',rfl⟩:=ry;exact PySem.EqNone.ne_none_str (bV I q (by simp))
    | _=>exact absurd (show false=true from hs) Bool.false_ne_true
  | bl i =>
    cases rx
    cases y with
    | non=>cases ry;exact PySem.EqNone.ne_bool_none (bV I q (by simp))
    | bl j=>cases ry;exact ne_bool (bV I q (congrArg not Ei))
    | str j=>obtain ⟨t',rfl⟩:=ry;exact PySem.EqMixed.ne_bool_str (bV I q (by simp))
    | _=>exact absurd (show false=true from hs) Bool.false_ne_true
  | int i =>
    obtain ⟨t,rfl⟩:=rx
    cases y with
    | non=>cases ry;exact PySem.EqNone.ne_int_none (bV I q (by simp))
    | int j=>obtain ⟨t',rfl⟩:=ry;exact ne_int (bV I q (congrArg not uK))
    | str j=>obtain ⟨t',rfl⟩:=ry;exact PySem.EqMixed.ne_int_str (bV I q (by simp))
    | _=>exact absurd (show false=true from hs) Bool.false_ne_true
  | str i =>
    obtain ⟨t,rfl⟩:=rx
    cases y with
    | non=>cases ry;exact PySem.EqNone.ne_str_none (bV I q (by simp))
    | bl j=>cases ry;exact PySem.EqMixed.ne_str_bool (bV I q (by simp))
    | int j=>obtain ⟨t',rfl⟩:=ry;exact PySem.EqMixed.ne_str_int (bV I q (by simp))
    | str j=>obtain ⟨t',rfl⟩:=ry;exact ne_str (bV I q (congrArg not uJ))
    | _=>exact absurd (show false=true from hs) Bool.false_ne_true
  | byt i =>
    obtain ⟨t,rfl⟩:=rx
    cases y with
    | byt j=>obtain ⟨t',rfl⟩:=ry;exact PySem.W.ne_bytes (bV I q (congrArg not uL))
    | _=>exact absurd (show false=true from hs) Bool.false_ne_true
  | _=>cases y <;> exact absurd (show false=true from hs) Bool.false_ne_true
theorem pC:OpR X (compareOp .Lt) (rI0 fun i j=>.bl (decide (i<j))):=Mz fun _ _ _ _ _ _ _ q=>lt_int q
theorem jE:OpR X (compareOp .LtE) (rI0 fun i j=>.bl (decide (i≤j))):=Mz fun _ _ _ _ _ _ _ q=>le_int q
theorem Fl:OpR X (compareOp .Gt) (rI0 fun i j=>.bl (decide (j<i))):=Mz fun _ _ _ _ _ _ _ q=>gt_int q
theorem Nm:OpR X (compareOp .GtE) (rI0 fun i j=>.bl (decide (j≤i))):=Mz fun _ _ _ _ _ _ _ q=>ge_int q
theorem tO:OpR X (compareOp .In) (fun x y H Q=>∃ i j,x=.str i∧y=.str j∧Q (.bl (!(Builtin.Str.occurrences j i 0 j.length 1).isEmpty)) H):=by
  intro pins s σ H x y v u Q I rx ry h
  obtain ⟨i,j,rfl,rfl,q⟩:=h
  obtain ⟨t,rfl⟩:=rx
  obtain ⟨t',rfl⟩:=ry
  exact in_str (bV I q rfl)
theorem GR:OpR X (compareOp .Is) (fun x y H Q=>y=.non∧Q (.bl (decide (x=.non))) H):=by
  intro pins s σ H x y v u Q I rx ry h
  obtain ⟨rfl,q⟩:=h
  cases ry
  refine is_none_gen (bV I q ?_)
  cases x <;> first
    | (cases rx;rfl)
    | (obtain ⟨t,rfl⟩:=rx;rfl)
theorem bN (b:Expr) {op:CmpOp} (h:op≠.In:=by decide) (h2:op≠.NotIn:=by decide):behindInMarks op b=false:=by
  have e1:(op == CmpOp.In)=false:=by cases op <;> first | rfl | exact absurd rfl h
  have e2:(op == CmpOp.NotIn)=false:=by cases op <;> first | rfl | exact absurd rfl h2
  cases b <;> simp [behindInMarks,e1,e2]
theorem ig {op:CmpOp} {r:R2} (ho:OpR X (compareOp op) r) (ha:PE X a ta) (hb:PE X b tb) (hm:behindInMarks op b=false):PE X (.Compare a [op] [b] pos) (tOp r ta tb):=by
  intro pins s σ H Q I h
  exact wpAny_Compare1 (MJ ha hb I h fun v u s2 x y H2 I2 rx ry q=>ho pins s2 σ H2 x y v u Q I2 rx ry q) hm
def Eu (t:TE):TT:=fun σ H Q=>t σ H fun x H'=>∃ k,x=.bl k∧Q k H'
theorem bw {op:CmpOp} {r:R2} (ho:OpR X (compareOp op) r) (ha:PE X a ta) (hb:PE X b tb) (hm:behindInMarks op b=false):PT X (.Compare a [op] [b] pos) (Eu (tOp r ta tb)):=by
  intro pins s σ H Q I h
  refine wpAny_isTrue_Compare1 (thn (ha pins s σ H _ I h) fun v s1 ⟨x,H1,I1,r1,q1⟩=>thn (hb pins s1 σ H1 _ I1 q1) fun u s2 ⟨y,H2,I2,r2,q2⟩ =>
    thn (ho pins s2 σ H2 x y v u _ I2 r1 r2 q2) fun c s3 ⟨z,H3,I3,r3,k,e,q3⟩=>?_) hm
  subst e
  cases r3
  exact wpAny_truthy_bool ⟨H3,I3,q3⟩
def wN (r r':R2) (ta tb tc:TE):TE:=fun σ H Q=>ta σ H fun x H1=>tb σ H1 fun y H2=>r x y H2 fun z H3=>∃ k,z=.bl k ∧
  (if k=true then tc σ H3 fun w' H4=>r' y w' H4 Q else Q (.bl false) H3)
theorem mL {op op':CmpOp} {r r':R2} (ho:OpR X (compareOp op) r) (ho':OpR X (compareOp op') r') (ha:PE X a ta) (hb:PE X b tb) (hc:PE X c tc)
    (hm:lastMarks [op,op'] [b,c]=false:=by with_unfolding_all rfl):PE X (.Compare a [op,op'] [b,c] pos) (wN r r' ta tb tc):=by
  intro pins s σ H Q I h
  refine Compare_chain (thn (ha pins s σ H _ I h) fun v s1 ⟨x,H1,I1,r1,q1⟩=>chain_link (thn (hb pins s1 σ H1 _ I1 q1) fun u s2 ⟨y,H2,I2,r2,q2⟩ =>
    thn (ho pins s2 σ H2 x y v u _ I2 r1 r2 q2) fun d s3 ⟨z,H3,I3,r3,k,e,q3⟩=>?_)) hm
  subst e
  cases r3
  refine wpAny_truthy_bool ?_
  cases k with
  | false=>exact ite_ff ⟨.bl false,H3,I3,rfl,q3⟩
  | true=>exact ite_tt (chain_last (thn (hc pins s3 σ H3 _ I3 q3) fun w' s4 ⟨z',H4,I4,r4,q4⟩=>ho' pins s4 σ H4 y z' u w' Q I4 r2 r4 q4))
theorem jj {op op':CmpOp} {r r':R2} (ho:OpR X (compareOp op) r) (ho':OpR X (compareOp op') r') (ha:PE X a ta) (hb:PE X b tb) (hc:PE X c tc)
    (hm:lastMarks [op,op'] [b,c]=false:=by with_unfolding_all rfl):PT X (.Compare a [op,op'] [b,c] pos) (Eu (wN r r' ta tb tc)):=by
  intro pins s σ H Q I h
  refine isTrue_chain (thn (ha pins s σ H _ I h) fun v s1 ⟨x,H1,I1,r1,q1⟩=>test_link (thn (hb pins s1 σ H1 _ I1 q1) fun u s2 ⟨y,H2,I2,r2,q2⟩ =>
    thn (ho pins s2 σ H2 x y v u _ I2 r1 r2 q2) fun d s3 ⟨z,H3,I3,r3,k,e,q3⟩=>?_)) hm
  subst e
  cases r3
  refine wpAny_truthy_bool ?_
  cases k with
  | false =>
    obtain ⟨k',e',q'⟩:=q3
    cases e'
    exact ite_ff ⟨H3,I3,q'⟩
  | true =>
    refine ite_tt (test_last (thn (hc pins s3 σ H3 _ I3 q3) fun w' s4 ⟨z',H4,I4,r4,q4⟩=>thn (ho' pins s4 σ H4 y z' u w' _ I4 r2 r4 q4) fun d' s5 ⟨z2,H5,I5,r5,k2,e2,q5⟩=>?_))
    subst e2
    cases r5
    exact wpAny_truthy_bool ⟨H5,I5,q5⟩
theorem oh:(sizeLine:Nat)<2 ^ 63:=by rw [sizeLine_eq];decide
theorem lU:OpR X (binaryOp .Add) (fun x y H Q=>∃ i j,x=.str i∧y=.str j∧i.length + j.length≤sizeLine∧Q (.str (i++j)) H):=by
  intro pins s σ H x y v u Q I rx ry h
  obtain ⟨i,j,rfl,rfl,hz,q⟩:=h
  obtain ⟨t,rfl⟩:=rx
  obtain ⟨t',rfl⟩:=ry
  exact add_str (fun t' tk=>⟨.str (i++j),H,I.tok _,⟨_,rfl⟩,q⟩) hz
def wK (b:Expr):Prop:=∀ o i,subscripted b false o i=operate [o,i] (getItem o i)
theorem j5 (ha:PE X a ta) (hb:PE X b tb) (hs:wK b) :
    PE X (.Subscript a b pos) (tOp (fun x y H Q=>∃ z i c,x=.str z∧y=.int i∧0≤i∧i<2 ^ 63∧i<z.length∧z.cps[i.toNat]?=some c∧Q (.str ⟨#[c]⟩) H) ta tb):=by
  intro pins s σ H Q I h
  refine Subscript_ (MJ ha hb I h fun v u s2 x y H2 I2 rx ry q=>?_)
  obtain ⟨z,i,c,rfl,rfl,h0,h63,h1,hc,q⟩:=q
  obtain ⟨t,rfl⟩:=rx
  obtain ⟨t',rfl⟩:=ry
  have e:seqIndex? i z.length=some i.toNat:=PySem.StrLaws.seqIndex_nonneg h0 h1
  exact tail_any (typeIs_str s2 z t) slot_str_getitem.lookup (getItem_str (c:=c) (by
    have e1:decide (i < -(2 ^ 63:Int))=false:=decide_eq_false (by omega)
    have e2:decide (i ≥ 2 ^ 63)=false:=decide_eq_false (by omega)
    rw [e1,e2] <;> rfl) (by rw [e];exact hc) ⟨.str ⟨#[c]⟩,H2,I2.tok _,⟨_,rfl⟩,q⟩) (hs _ _)
theorem vals1 {x:V} {us:List Value} (r:Vals [x] us):∃ u,us=[u]∧RelV x u:=by
  cases r with
  | cons r1 r2=>cases r2;exact ⟨_,rfl,r1⟩
theorem vals2 {x y:V} {us:List Value} (r:Vals [x,y] us):∃ u w',us=[u,w']∧RelV x u∧RelV y w':=by
  cases r with
  | cons r1 r2 =>
    cases r2 with
    | cons r3 r4=>cases r4;exact ⟨_,_,rfl,r1,r3⟩
theorem uU:jH X (.type "int") (fun xs H Q=>(∃ i,xs=[.int i]∧Q (.int i) H)∨∃ k,xs=[.bl k]∧Q (.int (if k then 1 else 0)) H):=by
  intro pins s σ H xs us Q I r h
  rcases h with ⟨i,rfl,q⟩ | ⟨k,rfl,q⟩
  · obtain ⟨u,rfl,t,rfl⟩:=vals1 r
    exact call_int_int ⟨.int i,H,I,⟨_,rfl⟩,q⟩
  · obtain ⟨u,rfl,r1⟩:=vals1 r
    cases r1
    exact call_int_bool ⟨.int (if k then 1 else 0),H,I.tok _,⟨_,rfl⟩,q⟩
end
end L2
namespace L2
open PySem PySem.Spec PyProof.Rows
structure Ge (h:Heap) (x dx C:Addr) (mA:Str→Option Value):Prop where
  obj:h.get? x=some (PySem.W.instObj C dx)
  ns:h.Ns1 dx mA
  ne:dx≠x
theorem uf {h:Heap} {dx:Addr} {mA:Str→Option Value} (n:h.Ns1 dx mA):∃ od,h.get? dx=some od∧∀ name,PySem.W.lookIn name od=some (mA name):=by
  obtain ⟨o,es,ep,ho,hd,hk,_,hm⟩:=n
  refine ⟨o,ho,fun name=>?_⟩
  have e:=hm name
  unfold nsFind findBy at e
  rw [← Array.find?_toList] at e
  unfold PySem.W.lookIn
  rw [hd]
  dsimp only
  split
  · rename_i y q
    rw [q] at e
    exact congrArg some e
  · rename_i q
    rw [q] at e
    have a:es.toList.any (·.refKey)=false:=by
      rw [List.any_eq_false]
      intro y hy
      obtain ⟨z,t,hkey⟩:=hk y (Array.mem_toList_iff.mp hy)
      simp [DictEntry.refKey,hkey]
    have a':¬ es.toList.any (·.refKey)=true:=by rw [a];exact Bool.false_ne_true
    rw [if_neg a']
    exact congrArg some e
theorem Ge.look {h:Heap} {x dx C:Addr} {mA:Str→Option Value} (I:Ge h x dx C mA):∃ od,PySem.W.InstAt h x (PySem.W.instObj C dx) C (some od)∧∀ name,PySem.W.lookIn name od=some (mA name) :=
  let ⟨od,ho,hl⟩:=uf I.ns
  ⟨od,⟨I.obj,rfl,rfl,ho⟩,hl⟩
section
variable {prog:Program} {w:World} {A:Around} {E:Value→Shared→Prop} {s:Shared} {K:PySem.W.Frag} {x dx C f:Addr} {mA:Str→Option Value} {name:Str} {v:Value}
theorem get_map {expr:Bool} {Q:Value→Shared→Prop} (X:K.In s.heap) (I:Ge s.heap x dx C mA) (hg:PySem.W.plainGet K C name=true) (hh:PySem.W.hasDictIn K C=true)
    (ha:PySem.W.findIn K (.ref C) name=some none) (hv:mA name=some v) (hv':PySem.W.handedIn v=true) (h:Q v { s with toks:=s.toks + 1 }) :
    wpAny (model prog w) A (getAttr (.ref x) name expr) Q E s:=by
  obtain ⟨od,J,hl⟩:=I.look
  exact PySem.W.get_value X J (PySem.W.plainGet_of hg).1 (PySem.W.findObj_own hh ha rfl (by rw [hl,hv])) hv' h
theorem wz {pl:Sem Bool} {Q:Value × List Value→Shared→Prop} (X:K.In s.heap) (I:Ge s.heap x dx C mA) (hg:PySem.W.plainGet K C name=true)
    (hf:PySem.W.findIn K (.ref C) name=some (some (.ref f))) (ht:PySem.W.isFn K (.ref f)=true) (hv:mA name=none) (h:Q (.ref f,[.ref x]) s) :
    wpAny (model prog w) A (getMethod (.ref x) name pl) Q E s:=by
  obtain ⟨od,J,hl⟩:=I.look
  exact PySem.W.method_fn X J (PySem.W.plainGet_of hg).1 (PySem.W.plainGet_of hg).2 hf (beq_iff_eq.mp ht) (by show (PySem.W.lookIn name od).map (·.isSome)=some false;rw [hl,hv];rfl) h
theorem EY {ns:List Str} {Q:Unit→Shared→Prop} (X:K.In s.heap) (I:Ge s.heap x dx C mA)
    (hs:PySem.W.findIn K (.ref C) "__setattr__"=some (some (.builtin "object.__setattr__"))) (hp:PySem.W.plainOver K C=true) (ht:PySem.W.takerIn K C name=some none) (hh:PySem.W.hasDictIn K C=true)
    (hw:PySem.Within mA ns) (hsz:ns.length≤sizeLine)
    (h:∀ h',Ge h' x dx C (fun y=>if y=name then some v else mA y)→Heap.SameBut dx s.heap h'→Q () { s with heap:=h',toks:=s.toks + 2 }) :
    wpAny (model prog w) A (setAttr (.ref x) name v) Q E s:=by
  obtain ⟨od,J,hl⟩:=I.look
  refine PySem.W.set_plain X J hs (PySem.W.osa_open (s:={ s with toks:=s.toks + 1 }) (r:=none) X J hp ht fun b=>?_)
  obtain ⟨cd,hc,hd'⟩:=PySem.W.any_some hh
  have hx:s.heap.get? x=some ⟨.ref C,some dx,.plain,#[]⟩:=I.obj
  refine wpAny_bind (wpAny_pure (wpAny_bind (wpAny_bind (wpAny_loadPart hx (wpAny_bind (PySem.W.Looks.here (s:={ s with toks:=s.toks + 1 }) (PySem.W.looks_clsIn X hc) ?_))))))
  rw [hd']
  refine wpAny_pure (a:=some dx) (wpAny_bind (wpAny_pure (wpAny_bind ?_)))
  refine wpAny_nsSet1 (s:={ s with toks:=s.toks + 1 }) I.ns fun h' hn2 hs2=>?_
  obtain ⟨oD,esD,epD,hoD,hdD,hcD⟩:=hn2.count (PySem.Within.cons name v hw)
  refine wpAny_bind (wpAny_lookBehind hoD (by rw [hdD];exact pastItsLine_dict (Nat.le_trans hcD (by rw [List.length_cons];omega))) ?_)
  exact wpAny_pure (h _ ⟨(hs2.2 _ (Ne.symm I.ne)).trans I.obj,hn2,I.ne⟩ hs2)
theorem vY {R:Result→Shared→Prop} {vs:List Value} {kw:List (Str × Value)} (X:K.In s.heap) (hm:PySem.W.makesIn K C=true)
    (hi:PySem.W.findIn K (.ref C) "__init__"=some (some (.ref f))) (hf:PySem.W.typeIn K (.ref f)=some (.type "function"))
    (h:codeAny (model prog w) (A.under (.builtin "type.__call__" ⟨.ref C :: vs,kw⟩)) (.call (.ref f) ⟨.ref (s.heap.objs.size + 1) :: vs,kw⟩) (PySem.W.InitBack (s.heap.objs.size + 1) R)
      { s with heap:=(s.heap.push PySem.W.emptyDict).push (PySem.W.instObj C s.heap.objs.size) }) :
    codeAny (model prog w) A (.call (.ref C) ⟨vs,kw⟩) R s:=by
  obtain ⟨hh,g,d,t,os⟩:=s
  exact PySem.W.make_core (PySem.W.makes_of X hm) (PySem.W.looks_findIn X hi) (fun self=>PySem.W.bind_fn X self hf) (.inl rfl) h
end
def m7 (f:Str) (v:V):List (Str × V)→List (Str × V)
  | []=>[(f,v)]
  | (g,x) :: r=>if g=f then (g,v) :: r else (g,x) :: m7 f v r
theorem kh (f g:Str) (v:V):∀ fs:List (Str × V),(m7 f v fs).lookup g=if g=f then some v else fs.lookup g
  | []=>by
    show List.lookup g [(f,v)]=_
    by_cases h:g=f
    · have hb:(g == f)=true:=beq_iff_eq.mpr h
      simp only [List.lookup,hb,if_pos h]
    · have hb:(g == f)=false:=beq_eq_false_iff_ne.mpr h
      simp only [List.lookup,hb,if_neg h]
  | (k,x) :: r=>by
    have ih:=kh f g v r
    rw [show m7 f v ((k,x) :: r)=(if k=f then (k,v) :: r else (k,x) :: m7 f v r) from rfl]
    by_cases hk:k=f
    · rw [if_pos hk]
      by_cases h:g=k
      · have hb:(g == k)=true:=beq_iff_eq.mpr h
        simp only [List.lookup,hb,if_pos (h.trans hk)]
      · have hb:(g == k)=false:=beq_eq_false_iff_ne.mpr h
        simp only [List.lookup,hb,if_neg (fun e:g=f=>h (e.trans hk.symm))]
    · rw [if_neg hk]
      by_cases h:g=k
      · have hb:(g == k)=true:=beq_iff_eq.mpr h
        simp only [List.lookup,hb,if_neg (fun e:g=f=>hk (h.symm.trans e))]
      · have hb:(g == k)=false:=beq_eq_false_iff_ne.mpr h
        simp only [List.lookup,hb]
        exact ih
theorem kJ (f:Str) (v:V):∀ fs:List (Str × V),f∈(m7 f v fs).map (·.1)∧∀ g,g∈fs.map (·.1)→g∈(m7 f v fs).map (·.1)
  | []=>⟨by simp [m7],fun g h=>by simp at h⟩
  | (k,x) :: r=>by
    obtain ⟨i1,i2⟩:=kJ f v r
    rw [show m7 f v ((k,x) :: r)=(if k=f then (k,v) :: r else (k,x) :: m7 f v r) from rfl]
    by_cases hk:k=f
    · rw [if_pos hk]
      subst hk
      exact ⟨by simp,fun g h=>by simpa using h⟩
    · rw [if_neg hk]
      refine ⟨?_,fun g h=>?_⟩
      · rw [List.map_cons]
        exact List.mem_cons_of_mem _ i1
      · rw [List.map_cons] at h ⊢
        rcases List.mem_cons.mp h with e | e
        · exact List.mem_cons.mpr (.inl e)
        · exact List.mem_cons_of_mem _ (i2 g e)
theorem kE (f:Str) (v:V):∀ fs:List (Str × V),(m7 f v fs).length≤fs.length + 1
  | []=>by simp [m7]
  | (k,x) :: r=>by
    have ih:=kE f v r
    rw [show m7 f v ((k,x) :: r)=(if k=f then (k,v) :: r else (k,x) :: m7 f v r) from rfl]
    by_cases hk:k=f
    · rw [if_pos hk,List.length_cons,List.length_cons];omega
    · rw [if_neg hk,List.length_cons,List.length_cons];omega
theorem uZ.some_of {v:V} {o:Option Value} (r:uZ (some v) o):∃ u,o=some u∧RelV v u:=by
  cases o with
  | none=>exact (show False from r).elim
  | some u=>exact ⟨u,rfl,r⟩
theorem uZ.none_of {o:Option Value} (r:uZ none o):o=none:=by
  cases o with
  | none=>rfl
  | some u=>exact (show False from r).elim
theorem uF {v:V} {u:Value} (r:RelV v u):PySem.W.handedIn u=true:=by
  cases v with
  | non=>cases (show u=Value.none from r);rfl
  | bl b=>cases (show u=Value.bool b from r);rfl
  | int i=>obtain ⟨t,e⟩:=(show ∃ t,u=Value.int i t from r);cases e;rfl
  | str x=>obtain ⟨t,e⟩:=(show ∃ t,u=Value.str x t from r);cases e;rfl
  | byt b=>obtain ⟨t,e⟩:=(show ∃ t,u=Value.bytes b t from r);cases e;rfl
  | flt b=>obtain ⟨t,e⟩:=(show ∃ t,u=Value.float b t from r);cases e;rfl
  | ref a=>cases (show u=Value.ref a from r);rfl
  | ty n=>cases (show u=Value.type n from r);rfl
section
variable {P:Program} {w:World} {H H':Hp} {h h':Heap} {a C dx:Addr} {fs fs':List (Str × V)}
theorem mR (hok:HOk P w H h) (e:H a=some (.ins C dx fs)):∃ mA,Ge h a dx C mA∧(∀ f,uZ (fs.lookup f) (mA f))∧PySem.Within mA (fs.map (·.1))∧fs.length≤1000∧H dx=some (.own a):=by
  obtain ⟨d,z,ne,ob,mA,n,r,q⟩:=(show fG P w H h a (.ins C dx fs) from hok a _ e)
  exact ⟨mA,⟨ob,n,ne⟩,r,q,z,d⟩
end
structure Cls (K:PySem.W.Frag) (C:Addr):Prop where
  pg:PySem.W.plainGet K C Str.empty=true
  hd:PySem.W.hasDictIn K C=true
  po:PySem.W.plainOver K C=true
  sa:PySem.W.findIn K (.ref C) "__setattr__"=some (some (.builtin "object.__setattr__"))
theorem Cls.get {K:PySem.W.Frag} {C:Addr} (c:Cls K C) (f:Str):PySem.W.plainGet K C f=true:=c.pg
def gC (K:PySem.W.Frag) (C:Addr) (f:Str):Prop:=PySem.W.findIn K (.ref C) f=some none
theorem gC.taker {K:PySem.W.Frag} {C:Addr} {f:Str} (n:gC K C f):PySem.W.takerIn K C f=some none:=by
  unfold PySem.W.takerIn
  rw [show PySem.W.findIn K (.ref C) f=some none from n]
  rfl
structure Meth (K:PySem.W.Frag) (C:Addr) (m:Str) (f:Addr):Prop where
  at_:PySem.W.findIn K (.ref C) m=some (some (.ref f))
  fn:PySem.W.isFn K (.ref f)=true
  kp:PySem.W.keepIn K (.ref f)=true
section
variable {X:Cx} {pins:List (Addr × Obj)} {σ:St} {H:Hp} {s:Shared} {a C dx:Addr} {fs:List (Str × V)} {f:Str} {v:V} {A:Around} {E:Value→Shared→Prop}
theorem lV {b:Bool} {Q:Value→Shared→Prop} (I:Inv X pins σ H s) (e:H a=some (.ins C dx fs)) (c:Cls X.K C) (n:gC X.K C f) (l:fs.lookup f=some v)
    (h:∀ u s',Inv X pins σ H s'→RelV v u→Q u s'):wpAny (model X.prog X.w) A (getAttr (.ref a) f b) Q E s:=by
  obtain ⟨mA,O,r,_,_,_⟩:=mR I.hok e
  obtain ⟨u,hu,ru⟩:=uZ.some_of (v:=v) (o:=mA f) (by rw [← l];exact r f)
  exact get_map I.kIn O (c.get f) c.hd n hu (uF ru) (h u _ (I.tok _) ru)
theorem ju {m:Str} {g:Addr} {pl:Sem Bool} {Q:Value × List Value→Shared→Prop} (I:Inv X pins σ H s) (e:H a=some (.ins C dx fs)) (c:Cls X.K C) (k:Meth X.K C m g) (l:fs.lookup m=none)
    (h:Q (.ref g,[.ref a]) s):wpAny (model X.prog X.w) A (getMethod (.ref a) m pl) Q E s:=by
  obtain ⟨mA,O,r,_,_,_⟩:=mR I.hok e
  have hn:mA m=none:=uZ.none_of (by rw [← l];exact r m)
  exact wz I.kIn O (c.get m) k.at_ k.fn hn h
theorem lM {y:V} {u:Value} {Q:Unit→Shared→Prop} (I:Inv X pins σ H s) (e:H a=some (.ins C dx fs)) (c:Cls X.K C) (n:gC X.K C f) (hl:fs.length<1000) (ry:RelV y u)
    (h:∀ s',Inv X pins σ (upd H a (.ins C dx (m7 f y fs))) s'→Q () s'):wpAny (model X.prog X.w) A (setAttr (.ref a) f u) Q E s:=by
  obtain ⟨mA,O,r,wi,_,ho⟩:=mR I.hok e
  have hz:(fs.map (·.1)).length≤sizeLine:=by rw [List.length_map,sizeLine_eq];omega
  refine EY I.kIn O c.sa c.po n.taker c.hd wi hz fun h' O' sb=>h _ ?_
  have hd:∃ o,h'.get? dx=some o:=let ⟨o,_,_,e',_⟩:=O'.ns;⟨o,e'⟩
  refine I.write (x:=a) (e:=dx) (by rw [e];exact True.intro) (.inr ho) (fun b q hb z=>(sb.2 b hb).trans z) hd ?_
  refine ⟨by rw [aR O.ne];exact ho,?_,O.ne,O'.obj,_,O'.ns,fun g=>?_,fun g hg=>?_⟩
  · have:=kE f y fs;omega
  · show uZ ((m7 f y fs).lookup g) (if g=f then some u else mA g)
    rw [kh]
    by_cases q:g=f
    · rw [if_pos q,if_pos q];exact ry
    · rw [if_neg q,if_neg q];exact r g
  · by_cases q:g=f
    · rw [q];exact (kJ f y fs).1
    · refine (kJ f y fs).2 g (wi g fun z=>hg ?_)
      show (if g=f then some u else mA g)=none
      rw [if_neg q];exact z
theorem Inv.made (I:Inv X pins σ H s):Inv X pins σ (upd (upd H s.heap.objs.size (.own (s.heap.objs.size + 1))) (s.heap.objs.size + 1) (.ins C s.heap.objs.size []))
    { s with heap:=(s.heap.push PySem.W.emptyDict).push (PySem.W.instObj C s.heap.objs.size) }:=by
  have e1:(s.heap.push PySem.W.emptyDict).get? s.heap.objs.size=some PySem.W.emptyDict:=Heap.get?_push_size s.heap rfl
  have e2:((s.heap.push PySem.W.emptyDict).push (PySem.W.instObj C s.heap.objs.size)).get? (s.heap.objs.size + 1)=some (PySem.W.instObj C s.heap.objs.size):=by
    have:=Heap.get?_push_size (s.heap.push PySem.W.emptyDict) (o:=PySem.W.instObj C s.heap.objs.size) rfl
    rwa [Heap.size_push] at this
  have e3:(s.heap.push PySem.W.emptyDict).Ns s.heap.objs.size (fun _=>none):=⟨PySem.W.emptyDict,#[],_,e1,rfl,(fun e he=>absurd he (by simp)),fun _=>rfl⟩
  have I1:=I.laid (a:=s.heap.objs.size) (o:=.own (s.heap.objs.size + 1)) (h':=s.heap.push PySem.W.emptyDict) (t':=s.toks) (fun b u q=>Heap.get?_push_of_some _ q) (Nat.le_refl _) ⟨_,e1⟩
  refine I1.laid (a:=s.heap.objs.size + 1) (o:=.ins C s.heap.objs.size []) (t':=s.toks) (fun b u q=>Heap.get?_push_of_some _ q) (Nat.le_of_eq (Heap.size_push _ _)) ?_
  have ne:s.heap.objs.size≠s.heap.objs.size + 1:=Nat.ne_of_lt (Nat.lt_succ_self _)
  refine ⟨by rw [aR ne,cB],Nat.zero_le _,ne,e2,fun _=>none,(Heap.Ns1.of_empty e3).at fun o q=>Heap.get?_push_of_some _ q,fun _=>True.intro,fun y hy=>absurd rfl hy⟩
theorem FT {prog:Program} {w:World} {env:Env} {e:Expr} {f:Str} {pos:Pos} {s:Shared} {Q:Value→Shared→Prop} (hb:attributeBase e f env (eval e env)=eval e env)
    (h:wpAny (model prog w) A (eval e env) (fun o s₁=>wpAny (model prog w) A (getAttr o f true) Q E s₁) E s):wpAny (model prog w) A (eval (.Attribute e f pos) env) Q E s :=
  Attribute_any_ h (by rw [arm_eval_Attribute,hb])
end
def tFld (K:PySem.W.Frag) (ta:TE) (f:Str):TE:=fun σ H Q=>ta σ H fun x H1=>∃ a C dx fs v,x=.ref a∧H1 a=some (.ins C dx fs)∧Cls K C∧gC K C f∧fs.lookup f=some v∧Q v H1
def sFld (K:PySem.W.Frag) (ta tv:TE) (f:Str):TS:=fun D σ H=>tv σ H fun y H1=>ta σ H1 fun x H2=>∃ a C dx fs,x=.ref a∧H2 a=some (.ins C dx fs)∧Cls K C∧gC K C f∧fs.length<1000 ∧
  D.nx σ (upd H2 a (.ins C dx (m7 f y fs)))
def QB (X:Cx) (op:Operator) (rd:V→V→Hp→VK→Prop):Prop :=
  ∀ (pins:List (Addr × Obj)) (s:Shared) (σ:St) (H:Hp) (x y:V) (u v:Value) (Q:VK),Inv X pins σ H s→RelV x u→RelV y v→rd x y H Q→wpAny (model X.prog X.w) X.A (inplaceOp op u v) (EP X pins σ Q) X.xe s
def Fb (K:PySem.W.Frag) (ta tv:TE) (rd:V→V→Hp→VK→Prop) (f:Str):TS:=fun D σ H=>ta σ H fun x H1=>∃ a C dx fs v,x=.ref a∧H1 a=some (.ins C dx fs)∧Cls K C∧gC K C f∧fs.lookup f=some v ∧
  tv σ H1 fun y H2=>rd v y H2 fun z H3=>∃ dx' fs',H3 a=some (.ins C dx' fs')∧fs'.length<1000∧D.nx σ (upd H3 a (.ins C dx' (m7 f z fs')))
section
variable {X:Cx} {o e value:Expr} {f:Str} {pos pos' tpos:Pos} {ta tv:TE}
theorem cN (he:PE X e ta) (hb:attributeBase e f X.env (eval e X.env)=eval e X.env):PE X (.Attribute e f pos) (tFld X.K ta f):=by
  intro pins s σ H Q I h
  refine FT hb (thn (he pins s σ H _ I h) fun u s1 ⟨x,H1,I1,rx,a,C,dx,fs,v,ex,ea,c,n,l,q⟩=>?_)
  subst ex
  obtain rfl:u=Value.ref a:=rx
  exact lV I1 ea c n l fun u' s2 I2 ru=>⟨v,H1,I2,ru,q⟩
theorem nT (ha:PE X o ta) (hv:PE X value tv) (hs:swapsWith value (some (.Attribute o f pos')) pos.line X.env=pure false):PS X (.Assign [.Attribute o f pos'] value pos) (sFld X.K ta tv f):=by
  intro pins s σ H D I h
  refine plainObj_wpAny_Assign_Attribute (thn (hv pins s σ H _ I h) fun u s1 ⟨y,H1,I1,ry,q⟩=>thn (ha pins s1 σ H1 _ I1 q) fun ov s2 ⟨x,H2,I2,rx,a,C,dx,fs,ex,ea,c,n,l,q2⟩=>?_) hs
  subst ex
  obtain rfl:ov=Value.ref a:=rx
  exact lM I2 ea c n l ry fun s3 I3=>⟨σ,_,I3,q2⟩
theorem sY {op:Operator} {rd:V→V→Hp→VK→Prop} (ha:PE X o ta) (hv:PE X value tv) (hop:QB X op rd):PS X (.AugAssign (.Attribute o f tpos) op value pos) (Fb X.K ta tv rd f):=by
  intro pins s σ H D I h
  refine wpAny_AugAssign_AttributeAny (thn (ha pins s σ H _ I h) fun ov s1 ⟨x,H1,I1,rx,a,C,dx,fs,v,ex,ea,c,n,l,q⟩=>?_)
  subst ex
  obtain rfl:ov=Value.ref a:=rx
  refine lV I1 ea c n l fun u s2 I2 ru=>thn (hv pins s2 σ H1 _ I2 q) fun w3 s3 ⟨y,H2,I3,ry,q3⟩=>thn (hop pins s3 σ H2 v y u w3 _ I3 ru ry q3) fun w4 s4 ⟨z,H3,I4,rz,dx',fs',ea',l',q4⟩=>?_
  exact lM I4 ea' c n l' rz fun s5 I5=>⟨σ,_,I5,q4⟩
def rAdd:V→V→Hp→VK→Prop:=fun x y H Q=>∃ i j,x=.int i∧y=.int j∧Q (.int (i + j)) H
theorem Hs:QB X .Add rAdd:=by
  rintro pins s σ H x y u v Q I rx ry ⟨i,j,rfl,rfl,q⟩
  obtain ⟨t,rfl⟩:=(show ∃ t,u=Value.int i t from rx)
  obtain ⟨t',rfl⟩:=(show ∃ t',v=Value.int j t' from ry)
  exact PyProof.Rows.iadd_int ⟨.int (i + j),H,I.tok _,⟨_,rfl⟩,q⟩
end
section
variable {X:Cx} {pins:List (Addr × Obj)} {σ:St} {H:Hp} {s:Shared} {A:Around} {E:Value→Shared→Prop} {Q:Value→Shared→Prop} {c:Value} {b:Bool}
inductive qO (K:PySem.W.Frag) (H:Hp):V→Value→Prop where
  | non:qO K H .non (.type "NoneType")
  | bl (x:Bool):qO K H (.bl x) (.type "bool")
  | int (i:Int):qO K H (.int i) (.type "int")
  | str (x:Str):qO K H (.str x) (.type "str")
  | flt (x:UInt64):qO K H (.flt x) (.type "float")
  | lst {a:Addr} {xs:List V} (e:H a=some (.lst xs)):qO K H (.ref a) (.type "list")
  | frz {a:Addr} {o:Obj} {xs:List V} (e:H a=some (.frz o (.lst xs))):qO K H (.ref a) (.type "list")
  | tup {a:Addr} {xs:List V} (e:H a=some (.tup xs)):qO K H (.ref a) (.type "tuple")
  | dK {a:Addr} {kvs:List (Key × V)} (e:H a=some (.dK kvs)):qO K H (.ref a) (.type "dict")
  | dT {a:Addr} {kvs:List (List Key × V)} (e:H a=some (.dT kvs)):qO K H (.ref a) (.type "dict")
  | ins {a C dx:Addr} {fs:List (Str × V)} (e:H a=some (.ins C dx fs)) (cl:Cls K C) (ha:PySem.W.findIn K (.ref C) "__class__"=some (some (.builtin "object.__class__")))
      (hn:PySem.W.specialIn K (.builtin "object.__class__") "__get__"=some (some (.builtin "getset_descriptor.__get__"))) (htk:PySem.W.takesIn K (.builtin "object.__class__")=some true)
      (hm:PySem.W.mroIn K C (.type "object")=some true):qO K H (.ref a) (.ref C)
theorem uy {x:V} {u t:Value} (I:Inv X pins σ H s) (rx:RelV x u) (ty:qO X.K H x t) (e:PySem.W.kitOne X.K t c=some b) (h:∀ tk,Q (.bool b) { s with toks:=tk }) :
    wpAny (model X.prog X.w) A (call (.builtin "isinstance") [u,c]) Q E s:=by
  cases ty with
  | non=>cases (show u=Value.none from rx);exact PySem.W.kia_one PySem.W.kitx_none I.kIn True.intro e (fun z=>nomatch z) h
  | bl y=>cases (show u=Value.bool y from rx);exact PySem.W.kia_one PySem.W.kitx_bool I.kIn True.intro e (fun z=>nomatch z) h
  | int i=>obtain ⟨t,q⟩:=(show ∃ t,u=Value.int i t from rx);cases q;exact PySem.W.kia_one PySem.W.kitx_int I.kIn True.intro e (fun z=>nomatch z) h
  | str y=>obtain ⟨t,q⟩:=(show ∃ t,u=Value.str y t from rx);cases q;exact PySem.W.kia_one PySem.W.kitx_str I.kIn True.intro e (fun z=>nomatch z) h
  | flt y=>obtain ⟨t,q⟩:=(show ∃ t,u=Value.float y t from rx);cases q;exact PySem.W.kia_one PySem.W.kitx_float I.kIn True.intro e (fun z=>nomatch z) h
  | @lst a xs ea =>
    cases (show u=Value.ref a from rx)
    obtain ⟨_,_,n,_,h1⟩:=(show fG X.prog X.w H s.heap a (.lst xs) from I.hok a _ ea)
    exact PySem.W.kia_one PySem.W.kitx_list I.kIn ⟨_,h1,rfl⟩ e (fun z=>nomatch z) h
  | @frz a ob xs ea =>
    cases (show u=Value.ref a from rx)
    obtain ⟨_,_,_,n,_,h1⟩:=(show fG X.prog X.w H s.heap a (.frz ob (.lst xs)) from I.hok a _ ea)
    exact PySem.W.kia_one PySem.W.kitx_list I.kIn ⟨_,h1,rfl⟩ e (fun z=>nomatch z) h
  | @tup a xs ea =>
    cases (show u=Value.ref a from rx)
    obtain ⟨_,_,_,p⟩:=(show fG X.prog X.w H s.heap a (.tup xs) from I.hok a _ ea)
    obtain ⟨o,h1,h2,_⟩:=p
    exact PySem.W.kia_one PySem.W.kitx_tuple I.kIn ⟨o,h1,h2⟩ e (fun z=>nomatch z) h
  | @dK a kvs ea =>
    cases (show u=Value.ref a from rx)
    obtain ⟨_,_,vs,_,p⟩:=(show fG X.prog X.w H s.heap a (.dK kvs) from I.hok a _ ea)
    obtain ⟨o,es,ep,h1,h2,_⟩:=p
    exact PySem.W.kia_one PySem.W.kitx_dict I.kIn ⟨o,h1,h2.1⟩ e (fun z=>nomatch z) h
  | @dT a kvs ea =>
    cases (show u=Value.ref a from rx)
    obtain ⟨_,_,xs,_,o,es,ep,h1,h2,_⟩:=(show fG X.prog X.w H s.heap a (.dT kvs) from I.hok a _ ea)
    exact PySem.W.kia_one PySem.W.kitx_dict I.kIn ⟨o,h1,h2.1⟩ e (fun z=>nomatch z) h
  | @ins a C dx fs ea cl ha hn htk hm =>
    cases (show u=Value.ref a from rx)
    obtain ⟨mA,O,_⟩:=mR I.hok ea
    obtain ⟨od,J,_⟩:=O.look
    exact PySem.W.kia_one (PySem.W.kitx_own (cl.get _) cl.hd ha hn htk hm) I.kIn J e (fun z=>nomatch z) h
end
end L2
namespace L2
open PySem PySem.Spec PyProof.Rows
structure jw (k:Nat) (A:Around):Prop where
  hd:A.handled=none
  dp:A.depth + 3 * k + 5<recursionLimit
  un:A.units + 16 * k + 200<cLine
theorem jw.mono {j k:Nat} {A:Around} (r:jw k A) (h:j≤k):jw j A:=⟨r.hd,by have:=r.dp;omega,by have:=r.un;omega⟩
theorem jw.deeper {k:Nat} {A:Around} (r:jw (k + 1) A) (env:Env):jw k (A.deeper env) :=
  ⟨r.hd,by have:=r.dp;show A.depth + 1 + 3 * k + 5<_;omega,by have:=r.un;show A.units + 3 + 16 * k + 200<_;omega⟩
theorem rD {A:Around} {C:Addr} {us:List Value} {kw:List (Str × Value)}:(A.under (.builtin "type.__call__" ⟨.ref C :: us,kw⟩)).depth=A.depth + 1:=by
  first | rfl | simp [Around.under,Code.weight,Code.isCreation,Code.isGuard,Code.isCaller,Code.frames,Code.isFrame,guardIds]
theorem rC {A:Around} {C:Addr} {us:List Value} {kw:List (Str × Value)}:(A.under (.builtin "type.__call__" ⟨.ref C :: us,kw⟩)).units=A.units + 1:=by
  first | rfl | simp [Around.under,Code.cUnits,Code.frames,Code.isFrame]
theorem jw.make {k:Nat} {A:Around} (r:jw (k + 1) A) (C:Addr) (us:List Value) (kw:List (Str × Value)):jw k (A.under (.builtin "type.__call__" ⟨.ref C :: us,kw⟩)) :=
  ⟨r.hd,by have:=r.dp;rw [rD];omega,by have:=r.un;rw [rC];omega⟩
theorem jw.depth {k:Nat} {A:Around} (r:jw k A):A.depth<recursionLimit:=by have:=r.dp;omega
theorem jw.units {k:Nat} {A:Around} (r:jw k A):A.units + 64<cLine:=by have:=r.un;omega
def Qf:TA:=fun _ H Q=>Q [] H
def Ng (ta:TE) (tr:TA):TA:=fun σ H Q=>ta σ H fun x H1=>tr σ H1 fun xs H2=>Q (x :: xs) H2
section
variable {X:Cx} {e:Expr} {es:List Expr} {te:TE} {t:TA} {pos:Pos}
theorem aA:PA X [] Qf:=fun _ _ _ _ H Q I h=>Calls.spliced_nil ⟨[],H,I,.nil,h⟩
theorem aj (ha:PE X e te) (hr:PA X es t) (hs:starEach (e :: es) X.env=(false,eval e X.env) :: starEach es X.env:=by rfl):PA X (e :: es) (Ng te t):=by
  intro pos pins s σ H Q I h
  rw [hs]
  show wpAny _ _ (spliced ((false,eval e X.env) :: backTo pos (starEach es X.env))) _ _ s
  refine Calls.spliced_cons (thn (ha pins s σ H _ I h) fun u s1 ⟨x,H1,I1,r1,q1⟩=>?_)
  exact thn (hr pos pins s1 σ H1 _ I1 q1) fun us s2 ⟨xs,H2,I2,r2,q2⟩=>⟨x :: xs,H2,I2,.cons r1 r2,q2⟩
def tTup (t:TA):TE:=fun σ H Q=>t σ H fun xs H1=>xs.length≤sizeLine∧∀ p,H1 p=none→Q (.ref p) (upd H1 p (.tup xs))
def tLst (t:TA):TE:=fun σ H Q=>t σ H fun xs H1=>xs.length≤sizeLine∧∀ p,H1 p=none→Q (.ref p) (upd H1 p (.lst xs))
theorem gq {x1} (h:PA X es t):PE X (.Tuple es x1 pos) (tTup t):=by
  intro pins s σ H Q I hq
  refine wpAny_Tuple_spliced (thn (h pos pins s σ H _ I hq) fun us s1 ⟨xs,H1,I1,r,z,q⟩=>⟨by rw [← r.length];exact z,?_⟩)
  have hf:H1 s1.heap.objs.size=none:=I1.hok.fresh (Nat.le_refl _)
  refine ⟨.ref s1.heap.objs.size,upd H1 s1.heap.objs.size (.tup xs),I1.laid (t':=s1.toks) (fun b u e=>Heap.get?_push_of_some _ e) (Nat.le_refl _) ?_,rfl,q _ hf⟩
  exact ⟨z,us,r,⟨_,Heap.get?_push_size _ rfl,rfl,_,rfl⟩⟩
theorem fD (h:PA X es t):PE X (.List es pos) (tLst t):=by
  intro pins s σ H Q I hq
  refine wpAny_List_spliced (thn (h pos pins s σ H _ I hq) fun us s1 ⟨xs,H1,I1,r,z,q⟩=>⟨by rw [← r.length];exact z,?_⟩)
  have hf:H1 s1.heap.objs.size=none:=I1.hok.fresh (Nat.le_refl _)
  refine ⟨.ref s1.heap.objs.size,upd H1 s1.heap.objs.size (.lst xs),I1.laid (t':=s1.toks) (fun b u e=>Heap.get?_push_of_some _ e) (Nat.le_refl _) ?_,rfl,q _ hf⟩
  exact ⟨z,us,0,r,Heap.get?_push_size _ rfl⟩
end
abbrev Sp:=List V→Hp→VK→XK→Prop
abbrev CXT:=List Env→Hp→Shared→XK→Value→Shared→Prop
structure Gf (P:Program) (w:World) (K:PySem.W.Frag) (mg:Str→Option Value) (base:Heap) (A:Around) (outer:List Env) (s:Shared) (H:Hp):Prop where
  frames:A.frames=some outer
  mod:Mod K mg base
  bs:∀ b o,base.get? b=some o→s.heap.get? b=some o∧H b=none
  bsz:base.objs.size≤s.heap.objs.size
  qF:s.heap.FunFrames base outer
  frf:∀ b∈frs outer,H b=none
  hok:HOk P w H s.heap
  bare:AllBare s.gens
def CE (outer:List Env) (P:Program) (w:World) (H:Hp) (s:Shared) (Q:VK) (u:Value) (s':Shared):Prop :=
  ∃ v H',s'.os=s.os∧AllBare s'.gens∧Un (frs outer) [] H H' s.heap s'.heap∧HOk P w H' s'.heap∧RelV v u∧Q v H'
def CR (CX:CXT) (outer:List Env) (P:Program) (w:World) (H:Hp) (s:Shared) (Q:VK) (E:XK) (r:Result) (s':Shared):Prop :=
  match r with
  | .ok (.ret u)=>CE outer P w H s Q u s'
  | .ok _=>False
  | .error e=>CX outer H s E e s'
structure bW (P:Program) (w:World) (K:PySem.W.Frag) (mg:Str→Option Value) (base:Heap) (CX:CXT) (k:Nat) (f:Addr) (fd:FuncData) (ps:List Str) (sp:Sp):Prop where
  len:∀ vs H Q E,sp vs H Q E→vs.length=ps.length
  run:∀ (A:Around) (outer:List Env) (s:Shared) (H:Hp) (args:Args) (us:List Value) (vs:List V) (Q:VK) (E:XK),jw k A→Gf P w K mg base A outer s H→BindsTo s fd args (ps.zip us)→Vals vs us→sp vs H Q E →
    codeAny (model P w) A (.call (.ref f) args) (CR CX outer P w H s Q E) s
theorem Gf.make {P:Program} {w:World} {K:PySem.W.Frag} {mg:Str→Option Value} {base:Heap} {A:Around} {outer:List Env} {s:Shared} {H:Hp} (e:Gf P w K mg base A outer s H) (C:Addr) (us:List Value) (kw:List (Str × Value)) :
    Gf P w K mg base (A.under (.builtin "type.__call__" ⟨.ref C :: us,kw⟩)) outer s H:=⟨by first | exact e.frames | (simpa [Around.under,Code.envs,Code.isFrame,pushEnvs] using e.frames),e.mod,e.bs,e.bsz,e.qF,e.frf,e.hok,e.bare⟩
section
variable {X:Cx} {pins:List (Addr × Obj)} {σ:St} {H:Hp} {s s':Shared}
theorem Inv.env0 (I:Inv X pins σ H s):Gf X.prog X.w X.K X.mg X.base X.A X.stack s H :=
  ⟨I.ok.frames,I.ok.mod,I.bs,Nat.le_trans I.ok.bsz I.sz,I.stack,I.oX,I.hok,I.bare⟩
theorem Inv.after {Q:VK} {u:Value} (I:Inv X pins σ H s) (h:CE X.stack X.prog X.w H s Q u s'):EP X pins σ Q u s':=by
  obtain ⟨v,H',os,bare,un,hok,r,q⟩:=h
  obtain ⟨hh,g,d,t,os'⟩:=s'
  obtain rfl:os'=s.os:=os
  exact ⟨v,H',I.call (h':=hh) (g':=g) (d':=d) (t':=t) (ch:=[]) un hok bare (fun b z=>absurd z (by simp)),r,q⟩
end
def Nh (sp:Sp) (dvs:List V) (E:XK) (t:TA):TE:=fun σ H Q=>t σ H fun vs H1=>sp (vs++dvs) H1 Q E
def Gx (C:Addr) (m:Str) (sp:Sp) (dvs:List V) (E:XK) (ta:TE) (t:TA):TE:=fun σ H Q=>ta σ H fun x H1=>∃ a dx fs,x=.ref a∧H1 a=some (.ins C dx fs)∧fs.lookup m=none ∧
  t σ H1 fun vs H2=>sp (x :: (vs++dvs)) H2 Q E
def Nb (C:Addr) (sp:Sp) (dvs:List V) (E:XK) (t:TA):TE:=fun σ H Q=>t σ H fun vs H1=>∀ x dx,H1 x=none→H1 dx=none→dx≠x →
  sp (.ref x :: (vs++dvs)) (upd (upd H1 dx (.own x)) x (.ins C dx [])) (fun v H2=>v=.non∧Q (.ref x) H2) E
def Binds (K:PySem.W.Frag) (fd:FuncData) (ps:List Str) (ds:List Value):Prop :=
  ∀ (s:Shared) (us:List Value),K.In s.heap→(us++ds).length=ps.length→BindsTo s fd ⟨us,[]⟩ (ps.zip (us++ds))
theorem Binds.all {K:PySem.W.Frag} {fd:FuncData} {ps:List Str} (h:∀ us:List Value,us.length=ps.length→bindArgs fd ⟨us,[]⟩=pure (ps.zip us)):Binds K fd ps []:=fun s us _ hl=>by
  rw [List.append_nil] at hl ⊢
  exact .of_eq (h us hl)
def Passes (CX:CXT) (X:Cx) (E:XK):Prop:=∀ (pins:List (Addr × Obj)) (σ:St) (H:Hp) (s:Shared) (e:Value) (s':Shared),Inv X pins σ H s→CX X.stack H s E e s'→X.xe e s'
section
variable {X:Cx} {CX:CXT} {k:Nat} {f C:Addr} {fd:FuncData} {ps:List Str} {sp:Sp} {dvs:List V} {ds:List Value} {E:XK} {x m:Str} {p pos apos:Pos} {e o:Expr} {es:List Expr} {ta:TE} {t:TA}
theorem sI {pins:List (Addr × Obj)} {σ:St} {H:Hp} {s:Shared} {Q:VK} {us:List Value} {vs:List V} (F:bW X.prog X.w X.K X.mg X.base CX k f fd ps sp) (hr:jw k X.A) (hb:Binds X.K fd ps ds) (hd:Vals dvs ds) (hx:Passes CX X E)
    (I:Inv X pins σ H s) (r:Vals vs us) (h:sp (vs++dvs) H Q E):wpAny (model X.prog X.w) X.A (call (.ref f) us) (EP X pins σ Q) X.xe s:=by
  have r2:Vals (vs++dvs) (us++ds):=r.append hd
  have hl:(us++ds).length=ps.length:=by rw [← r2.length];exact F.len _ _ _ _ h
  refine wpAny_call (codeAny_mono (F.run X.A X.stack s H ⟨us,[]⟩ (us++ds) (vs++dvs) Q E hr I.env0 (hb s us I.kIn hl) r2 h) fun r s' hq=>?_)
  cases r with
  | error e=>exact hx pins σ H s e s' I hq
  | ok fl =>
    cases fl with
    | ret u=>exact I.after hq
    | next=>exact False.elim hq
    | brk=>exact False.elim hq
    | cont=>exact False.elim hq
theorem aX (F:bW X.prog X.w X.K X.mg X.base CX k f fd ps sp) (hr:jw k X.A) (hg:Gl X x) (hm:X.mg x=some (.ref f)) (hk:PySem.W.keepIn X.K (.ref f)=true) (hb:Binds X.K fd ps ds) (hd:Vals dvs ds) (hx:Passes CX X E)
    (ha:PA X (e :: es) t) (hdb:(x == ("__debug__":Str))=false:=by decide) (he:starEach (e :: es) X.env=(false,eval e X.env) :: starEach es X.env:=by rfl) (hpl:(backTo pos (starEach es X.env)).any (·.1)=false:=by rfl) :
    PE X (.Call (.Name x p) (e :: es) [] pos) (Nh sp dvs E t):=by
  intro pins s σ H Q I h
  refine wpAny_Call_Name_kw (kI I hg hm ?_ hdb)
  refine PySem.W.callWith_K (h₀:=X.base) I.ok.mod.kin hk (thn (ha pos pins s σ H _ I h) fun us s1 ⟨vs,H1,I1,r,q⟩=>⟨I1.kIn,?_⟩) he hpl
  exact sI F hr hb hd hx I1 r q
theorem fK {pl:Sem Bool} (he:PE X o ta) (c:Cls X.K C) (hm:Meth X.K C m f) (F:bW X.prog X.w X.K X.mg X.base CX k f fd ps sp) (hr:jw k X.A) (hb:Binds X.K fd ps ds) (hd:Vals dvs ds) (hx:Passes CX X E) (ha:PA X (e :: es) t)
    (hst:starEach (e :: es) X.env=(false,eval e X.env) :: starEach es X.env:=by rfl) (hpl:(backTo pos (starEach es X.env)).any (·.1)=false:=by rfl)
    (ht:eval (.Call (.Attribute o m apos) (e :: es) [] pos) X.env=(do
      let ov ← eval o X.env
      standAt apos.atName
      let (f,first) ← holding [ov] (getMethod ov m pl)
      callWith pos f first (backTo pos (starEach (e :: es) X.env)) (backToKw pos (keywordEach [] X.env))):=by rfl) :
    PE X (.Call (.Attribute o m apos) (e :: es) [] pos) (Gx C m sp dvs E ta t):=by
  intro pins s σ H Q I h
  refine PySem.W.methodCall_KW (pl:=pl) (thn (he pins s σ H _ I h) fun u s1 ⟨x,H1,I1,rx,a,dx,fs,ex,ea,l,q⟩=>?_) ht
  subst ex
  obtain rfl:u=Value.ref a:=rx
  refine ju I1 ea c hm l ?_
  refine PySem.W.callWith_K (first:=[.ref a]) (h₀:=X.base) I.ok.mod.kin hm.kp (thn (ha pos pins s1 σ H1 _ I1 q) fun us s2 ⟨vs,H2,I2,r,q2⟩=>⟨I2.kIn,?_⟩) hst hpl
  exact sI (us:=.ref a :: us) (vs:=.ref a :: vs) F hr hb hd hx I2 (.cons rfl r) q2
theorem iI {pl:Sem Bool} (he:PE X o ta) (c:Cls X.K C) (hm:Meth X.K C m f) (F:bW X.prog X.w X.K X.mg X.base CX k f fd ps sp) (hr:jw k X.A) (hb:Binds X.K fd ps ds) (hd:Vals dvs ds) (hx:Passes CX X E)
    (ht:eval (.Call (.Attribute o m apos) [] [] pos) X.env=(do
      let ov ← eval o X.env
      standAt apos.atName
      let (f,first) ← holding [ov] (getMethod ov m pl)
      callWith pos f first (backTo pos (starEach [] X.env)) (backToKw pos (keywordEach [] X.env))):=by rfl) :
    PE X (.Call (.Attribute o m apos) [] [] pos) (Gx C m sp dvs E ta Qf):=by
  intro pins s σ H Q I h
  refine PySem.W.methodCall_KW (pl:=pl) (thn (he pins s σ H _ I h) fun u s1 ⟨x,H1,I1,rx,a,dx,fs,ex,ea,l,q⟩=>?_) ht
  subst ex
  obtain rfl:u=Value.ref a:=rx
  refine ju I1 ea c hm l ?_
  exact PySem.W.callWith_K0 (first:=[.ref a]) I1.kIn hm.kp (sI (us:=[.ref a]) (vs:=[.ref a]) F hr hb hd hx I1 (.cons rfl .nil) q)
structure Mk (K:PySem.W.Frag) (C f:Addr):Prop where
  makes:PySem.W.makesIn K C=true
  init:PySem.W.findIn K (.ref C) "__init__"=some (some (.ref f))
  fn:PySem.W.isFn K (.ref f)=true
  kp:PySem.W.keepIn K (.ref C)=true
theorem vp {pins:List (Addr × Obj)} {σ:St} {H:Hp} {s:Shared} {Q:VK} {us:List Value} {vs:List V} (M:Mk X.K C f) (F:bW X.prog X.w X.K X.mg X.base CX k f fd ps sp) (hr:jw (k + 1) X.A) (hb:Binds X.K fd ps ds) (hd:Vals dvs ds)
    (hx:Passes CX X E) (I:Inv X pins σ H s) (r:Vals vs us)
    (h:∀ x dx,H x=none→H dx=none→dx≠x→sp (.ref x :: (vs++dvs)) (upd (upd H dx (.own x)) x (.ins C dx [])) (fun v H2=>v=.non∧Q (.ref x) H2) E) :
    wpAny (model X.prog X.w) X.A (call (.ref C) us) (EP X pins σ Q) X.xe s:=by
  have hq:=h (s.heap.objs.size + 1) s.heap.objs.size (I.hok.fresh (Nat.le_succ _)) (I.hok.fresh (Nat.le_refl _)) (Nat.ne_of_lt (Nat.lt_succ_self _))
  have I2:=Inv.made (C:=C) I
  have r2:Vals (V.ref (s.heap.objs.size + 1) :: (vs++dvs)) (Value.ref (s.heap.objs.size + 1) :: (us++ds)):=.cons rfl (r.append hd)
  have hl:(Value.ref (s.heap.objs.size + 1) :: us++ds).length=ps.length:=by
    have e:=r2.length
    rw [F.len _ _ _ _ hq] at e
    exact e.symm
  refine wpAny_call (vY (f:=f) I.kIn M.makes M.init (beq_iff_eq.mp M.fn) (codeAny_mono (F.run _ X.stack _ _ ⟨Value.ref (s.heap.objs.size + 1) :: us,[]⟩ (Value.ref (s.heap.objs.size + 1) :: (us++ds)) _ _ E (hr.make C us [])
    (I2.env0.make C us []) (hb _ (Value.ref (s.heap.objs.size + 1) :: us) I2.kIn hl) r2 hq) fun r s' hq'=>?_))
  cases r with
  | error e=>exact hx pins σ _ _ e s' I2 hq'
  | ok fl =>
    cases fl with
    | ret u =>
      obtain ⟨v,H',I3,rv,ev,q3⟩:=I2.after hq'
      subst ev
      exact ⟨rv,⟨V.ref (s.heap.objs.size + 1),H',I3,rfl,q3⟩⟩
    | next=>exact False.elim hq'
    | brk=>exact False.elim hq'
    | cont=>exact False.elim hq'
theorem Fg (M:Mk X.K C f) (F:bW X.prog X.w X.K X.mg X.base CX k f fd ps sp) (hr:jw (k + 1) X.A) (hg:Gl X x) (hm:X.mg x=some (.ref C)) (hb:Binds X.K fd ps ds) (hd:Vals dvs ds) (hx:Passes CX X E)
    (ha:PA X (e :: es) t) (hdb:(x == ("__debug__":Str))=false:=by decide) (he:starEach (e :: es) X.env=(false,eval e X.env) :: starEach es X.env:=by rfl) (hpl:(backTo pos (starEach es X.env)).any (·.1)=false:=by rfl) :
    PE X (.Call (.Name x p) (e :: es) [] pos) (Nb C sp dvs E t):=by
  intro pins s σ H Q I h
  refine wpAny_Call_Name_kw (kI I hg hm ?_ hdb)
  refine PySem.W.callWith_K (h₀:=X.base) I.ok.mod.kin M.kp (thn (ha pos pins s σ H _ I h) fun us s1 ⟨vs,H1,I1,r,q⟩=>⟨I1.kIn,?_⟩) he hpl
  exact vp M F hr hb hd hx I1 r q
end
section
variable {X:Cx} {CX:CXT} {k:Nat} {f C:Addr} {fd:FuncData} {ps ks:List Str} {sp:Sp} {E:XK} {x m:Str} {p pos apos kpos:Pos} {e o:Expr} {es:List Expr} {kws:List Keyword} {te ta:TE} {t tk:TA} {nm:Option Str}
variable {g:List Value→List Value→List Value} {gV:List V→List V→List V}
end
structure aO (N P:List Str) (sc:Scope):Prop where
  kind:sc.kind=.function
  co:sc.isCoroutine=false
  gen:sc.isGenerator=false
  nd:N.Nodup
  pre:N.take P.length=P
  par:∀ x∈P,sc.names.lookup x=some .local∨sc.names.lookup x=some .cell
  nofree:∀ y∈sc.names,y.2≠.free
theorem oJ {kindOf:Str→Option NameKind} {x:Str}:∀ {binds:List (Str × Value)} {m:Str→Option Value},(∀ v,(x,v) ∉ binds)→bindL kindOf binds m x=m x
  | [],_,_=>rfl
  | (n,v) :: r,m,h=>by
    unfold bindL
    rw [oJ fun w hw=>h w (List.mem_cons_of_mem _ hw)]
    split
    · have:x≠n:=by rintro rfl;exact h v List.mem_cons_self
      simp [this]
    · rfl
theorem oM {kindOf:Str→Option NameKind} {x:Str}:∀ {binds:List (Str × Value)} {m:Str→Option Value},(∀ v,(x,v) ∉ binds)→bindC kindOf binds m x=m x
  | [],_,_=>rfl
  | (n,v) :: r,m,h=>by
    unfold bindC
    rw [oM fun w hw=>h w (List.mem_cons_of_mem _ hw)]
    split
    · rfl
    · have:x≠n:=by rintro rfl;exact h v List.mem_cons_self
      simp [this]
theorem oK {kindOf:Str→Option NameKind} {x:Str} {v:Value}:∀ {P:List Str} {vs:List Value} {i:Nat} {m:Str→Option Value},P.Nodup→P[i]?=some x→vs[i]?=some v→kindOf x=some .local →
    bindL kindOf (P.zip vs) m x=some v
  | [],_,_,_,_,h,_,_=>by simp at h
  | _ :: _,[],_,_,_,_,h,_=>by simp at h
  | p :: P,w :: vs,0,m,nd,h1,h2,hk=>by
    simp at h1 h2;subst h1;subst h2
    show bindL kindOf ((p,w) :: P.zip vs) m p=_
    unfold bindL
    rw [oJ fun v hv=>(List.nodup_cons.mp nd).1 (List.of_mem_zip hv).1,if_pos hk]
    simp
  | p :: P,w :: vs,i + 1,m,nd,h1,h2,hk=>by
    show bindL kindOf ((p,w) :: P.zip vs) m x=_
    unfold bindL
    exact oK (i:=i) (List.nodup_cons.mp nd).2 (by simpa using h1) (by simpa using h2) hk
theorem oN {kindOf:Str→Option NameKind} {x:Str} {v:Value}:∀ {P:List Str} {vs:List Value} {i:Nat} {m:Str→Option Value},P.Nodup→P[i]?=some x→vs[i]?=some v→kindOf x≠some .local →
    bindC kindOf (P.zip vs) m x=some v
  | [],_,_,_,_,h,_,_=>by simp at h
  | _ :: _,[],_,_,_,_,h,_=>by simp at h
  | p :: P,w :: vs,0,m,nd,h1,h2,hk=>by
    simp at h1 h2;subst h1;subst h2
    show bindC kindOf ((p,w) :: P.zip vs) m p=_
    unfold bindC
    rw [oM fun v hv=>(List.nodup_cons.mp nd).1 (List.of_mem_zip hv).1,if_neg hk]
    simp
  | p :: P,w :: vs,i + 1,m,nd,h1,h2,hk=>by
    show bindC kindOf ((p,w) :: P.zip vs) m x=_
    unfold bindC
    exact oN (i:=i) (List.nodup_cons.mp nd).2 (by simpa using h1) (by simpa using h2) hk
def start (N:List Str) (vs:List V):St:=vs.map some++List.replicate (N.length - vs.length) none
def uY (CX:CXT) (P:Program) (w:World) (K:PySem.W.Frag) (mg:Str→Option Value) (base:Heap) (N:List Str) (qual:Str) (scope:Scope) (f:Addr) (cd:Value) (A:Around) (outer:List Env) (s:Shared) (H:Hp) (E:XK):Cx where
  prog:=P
  w:=w
  K:=K
  mg:=mg
  base:=base
  A:=A.deeper (envOfC qual scope s.heap.objs.size f cd)
  N:=N
  s₀:=s
  H₀:=H
  env:=envOfC qual scope s.heap.objs.size f cd
  outer:=outer
  stack:=envOfC qual scope s.heap.objs.size f cd :: outer
  ex:=[]
  calm:=true
  fn:=fun _=>true
  pn:=[]
  xe:=fun e s'=>wpAny (model P w) (A.deeper (envOfC qual scope s.heap.objs.size f cd)) (leaving (envOfC qual scope s.heap.objs.size f cd) e) (fun _ s''=>CX outer H s E e s'') (fun e' s''=>CX outer H s E e' s'') s'
theorem qL {sc:Scope} {n:Nat} {x:Str} (h:sc.names.lookup x=some .cell):∃ c,(cellsFrom n sc.names []).lookup x=some c:=by
  have q:=PySem.W.cellsFrom_some sc.names n [] (.inl h)
  exact Option.isSome_iff_exists.mp q
theorem uz {CX:CXT} {P:Program} {w:World} {K:PySem.W.Frag} {mg:Str→Option Value} {base:Heap} {N ps:List Str} {qual:Str} {scope:Scope} {f:Addr} {cd:Value} {A:Around} {outer:List Env} {s s1:Shared} {H:Hp} {E:XK} {us:List Value} {vs:List V}
    (S:aO N ps scope) (hd:A.handled=none) (e0:Gf P w K mg base A outer s H) (hl:vs.length=ps.length) (r:Vals vs us)
    (x:InCallC s s.heap.objs.size (bindL (envOfC qual scope s.heap.objs.size f cd).kindOf (ps.zip us) fun _=>none) (cellsFrom (s.heap.objs.size + 1) scope.names []) (bindC (envOfC qual scope s.heap.objs.size f cd).kindOf (ps.zip us) fun _=>none) s1) :
    Inv (uY CX P w K mg base N qual scope f cd A outer s H E) [] (start N vs) H s1:=by
  have hpl:ps.length≤N.length:=by have:=congrArg List.length S.pre;rw [List.length_take] at this;omega
  obtain ⟨h1,tk,rfl,hk⟩:=x.done
  have noA:∀ b:Addr,b ∉ (uY CX P w K mg base N qual scope f cd A outer s H E).ex:=fun b z=>absurd (show b∈([]:List Addr) from z) (by simp)
  refine ⟨⟨e0.mod,S.kind,rfl,rfl,Nat.le_refl _,fun y z c h1 h2=>?_,fun y hy=>?_,fun y c _ h=>?_,fun _=>hd,Around.frames_deeper e0.frames,.inr ⟨rfl,rfl⟩,fun b z=>absurd z (noA b),e0.bs,e0.bsz,fun b _ _=>noA b,fun b z=>absurd z (noA b),e0.qF,e0.frf⟩,
    rfl,e0.bare,Un.kept hk,⟨_,x.toInCall.ns,fun i y v h1 h2 h3=>?_⟩,fun y c h=>⟨_,x.cell y c h⟩,e0.hok.fresh (Nat.le_refl _),fun y c h=>?_,fun p hp=>absurd (show p∈([]:List (Addr × Obj)) from hp) (by simp),e0.hok.kept hk,?_⟩
  · exact name_of_addr x.apart (PySem.mem_of_lookup h1) (PySem.mem_of_lookup h2)
  · have hy:scope.names.lookup y=some .cell∨scope.names.lookup y=some .free:=hy
    rcases hy with hy | hy
    · exact qL hy
    · exact absurd rfl (S.nofree _ (PySem.mem_of_lookup hy))
  · exact Nat.le_of_lt (x.above y c (PySem.mem_of_lookup h))
  · have hi:i<vs.length:=by
      unfold start at h2
      by_cases hi:i<vs.length
      · exact hi
      · rw [List.getElem?_append_right (by simpa using hi)] at h2
        rw [List.getElem?_replicate] at h2
        split at h2 <;> cases h2
    have ha:vs[i]?=some v:=by
      unfold start at h2
      rw [List.getElem?_append_left (by simpa using hi),List.getElem?_map] at h2
      cases e:vs[i]? with
      | none=>rw [e] at h2;cases h2
      | some a=>rw [e] at h2;cases h2;rfl
    obtain ⟨u,hu,rv⟩:=r.get ha
    have hp:ps[i]?=some y:=by
      rw [← S.pre,List.getElem?_take_of_lt (by omega)];exact h1
    have ndP:ps.Nodup:=by rw [← S.pre];exact S.nd.sublist (List.take_sublist _ _)
    refine ⟨u,rv,?_⟩
    rcases S.par y (List.mem_of_getElem? hp) with k | k
    · exact .inl ⟨k,oK ndP hp hu k⟩
    · obtain ⟨c,e⟩:=qL (n:=s.heap.objs.size + 1) k
      refine .inr ⟨.inl k,c,e,?_⟩
      have q:=x.cell y c e
      rw [oN ndP hp hu (by show scope.names.lookup y≠_;rw [k];decide)] at q
      exact q
  · exact e0.hok.fresh (Nat.le_of_lt (x.above y c (PySem.mem_of_lookup h)))
  · unfold start
    show _=N.length
    rw [List.length_append,List.length_map,List.length_replicate]
    omega
theorem Fy {CX:CXT} {P:Program} {w:World} {K:PySem.W.Frag} {mg:Str→Option Value} {base:Heap} {k:Nat} {f:Addr} {name qual:Str} {params:Arguments} {body:List Stmt} {scope:Scope} {dV kV doc pm cdv ct oc:Value} {an od:Option Addr}
    {osl:Array (Option Value)} {N ps:List Str} {sp:Sp} (lk:K.lookup f=some ⟨oc,od,.func (PySem.W.fnOf name qual params body scope dV kV doc pm an cdv ct),osl⟩) (hcd:PySem.W.codeIn K cdv qual=true) (S:aO N ps scope)
    (len:∀ vs H Q E,sp vs H Q E→vs.length=ps.length)
    (hbody:∀ (A:Around) (outer:List Env) (s:Shared) (H:Hp) (vs:List V) (Q:VK) (E:XK),jw k (A.deeper (envOfC qual scope s.heap.objs.size f cdv))→sp vs H Q E →
      ∃ t,PSs (uY CX P w K mg base N qual scope f cdv A outer s H E) body t∧t { nx:=fun _ H'=>Q .non H',rt:=Q } (start N vs) H) :
    bW P w K mg base CX (k + 1) f (PySem.W.fnOf name qual params body scope dV kV doc pm an cdv ct) ps sp:=by
  refine ⟨len,fun A outer s H args us vs Q E hr e0 hb r hsp=>?_⟩
  have hl:=len _ _ _ _ hsp
  have KX:K.In s.heap:=e0.mod.kin.keeps fun b o e=>(e0.bs b o e).1
  have lim:s.heap.NoLimit:=e0.mod.nolimit.keeps fun b o e=>(e0.bs b o e).1
  have hkind:∀ y∈ps.zip us,scope.names.lookup y.1=some .local∨(scope.names.lookup y.1=some .cell∧((cellsFrom (s.heap.objs.size + 1) scope.names []).lookup y.1).isSome=true):=fun ⟨n,v⟩ hy=>by
    rcases S.par n (List.of_mem_zip hy).1 with q | q
    · exact .inl q
    · exact .inr ⟨q,PySem.W.cellsFrom_some _ _ _ (.inl q)⟩
  refine codeAny_call_function hr.depth (KX _ _ lk) rfl S.co S.gen rfl (PySem.W.codeRec_of KX hcd) (hb _ _ _ _ ?_)
  refine wpAny_newFunctionEnv_cells S.kind hkind fun env he s1 x=>?_
  subst he
  refine ⟨lim.keeps x.toInCall.keep,codeAny_func ?_⟩
  obtain ⟨t,ht,hq⟩:=hbody A outer s H vs Q E (hr.deeper _) hsp
  have I:Inv (uY CX P w K mg base N qual scope f cdv A outer s H E) [] (start N vs) H s1:=uz S hr.hd e0 hl r x
  refine wpAny_mono (ht [] s1 (start N vs) H _ I hq) (fun fl s' hs=>?_) fun e s' hs=>hs
  have fin:∀ {σ':St} {H':Hp} {v:V} {u:Value},Inv (uY CX P w K mg base N qual scope f cdv A outer s H E) [] σ' H' s'→RelV v u→Q v H'→CE outer P w H s Q u s' :=
    fun {σ' H' v u} J rv q=>⟨v,H',J.os,J.bare,J.base,J.hok,rv,q⟩
  cases fl with
  | ret u =>
    obtain ⟨v,σ',H',J,rv,q⟩:=hs
    exact fin J rv q
  | next =>
    obtain ⟨σ',H',J,q⟩:=hs
    exact fin (v:=V.non) (u:=Value.none) J rfl q
  | brk =>
    obtain ⟨_,_,_,q⟩:=hs
    exact False.elim q
  | cont =>
    obtain ⟨_,_,_,q⟩:=hs
    exact False.elim q
end L2
namespace L2
open PySem PySem.Spec PyProof.Rows
section
variable {X:Cx} {x:Str} {p pos:Pos} {e:Expr} {es:List Expr} {t:TA} {id T:String} {r:List V→Hp→VK→Prop}
def tCB (r:List V→Hp→VK→Prop) (t:TA):TE:=fun σ H Q=>t σ H fun vs H1=>r vs H1 Q
theorem aN (hc:jH X (.builtin id) r) (hg:Gl X x) (hm:X.mg x=none) (hv:bootBuiltins x=some (.builtin id)) (ha:PA X (e :: es) t) (hn:x≠"__name__":=by decide) (hdb:(x == ("__debug__":Str))=false:=by decide)
    (he:starEach (e :: es) X.env=(false,eval e X.env) :: starEach es X.env:=by rfl) (hpl:(backTo pos (starEach es X.env)).any (·.1)=false:=by rfl):PE X (.Call (.Name x p) (e :: es) [] pos) (tCB r t):=by
  intro pins s σ H Q I h
  refine wpAny_Call_Name_kw (ou I hg hm hv ?_ hn hdb)
  exact PyProof.Rows.callWith_builtin1 (thn (ha pos pins s σ H _ I h) fun us s1 ⟨vs,H1,I1,r1,q1⟩=>hc pins s1 σ H1 vs us Q I1 r1 q1) he hpl
theorem gA (hc:jH X (.type T) r) (hg:Gl X x) (hm:X.mg x=none) (hv:bootBuiltins x=some (.type T)) (ha:PA X (e :: es) t) (hn:x≠"__name__":=by decide) (hdb:(x == ("__debug__":Str))=false:=by decide)
    (he:starEach (e :: es) X.env=(false,eval e X.env) :: starEach es X.env:=by rfl) (hpl:(backTo pos (starEach es X.env)).any (·.1)=false:=by rfl):PE X (.Call (.Name x p) (e :: es) [] pos) (tCB r t):=by
  intro pins s σ H Q I h
  refine wpAny_Call_Name_kw (ou I hg hm hv ?_ hn hdb)
  exact PyProof.Rows.callWith_type1 (thn (ha pos pins s σ H _ I h) fun us s1 ⟨vs,H1,I1,r1,q1⟩=>hc pins s1 σ H1 vs us Q I1 r1 q1) he hpl
end
end L2
namespace HT
open PySem PyProof.Rows
section
open PySem.SeqAt
open PySem.AutoSeq1 (wpAny_loadPart')
open PySem.MeetsSeq PySem.MeetsSeq2 PySem.MeetsSeq3
end
section
variable {prog:Program} {w:World} {A:Around} {E:Value→Shared→Prop} {s:Shared}
def sIx (n d:Nat):Option Int→Nat
  | none=>d
  | some v=>if v<0 then (v + (n:Int)).toNat else min v.toNat n
theorem o9 (n d k:Nat):sIx n d (some (k:Int))=min k n:=by
  show (if (k:Int)<0 then ((k:Int) + (n:Int)).toNat else min (k:Int).toNat n)=min k n
  rw [if_neg (by omega),Int.toNat_natCast]
end
end HT
namespace L2
open PySem PySem.Spec PyProof.Rows
abbrev TO:=St→Hp→(Option Int→Hp→Prop)→Prop
def PO (X:Cx) (e:Option Expr) (t:TO):Prop :=
  ∀ (pins:List (Addr × Obj)) (s:Shared) (σ:St) (H:Hp) (Q:Option Int→Hp→Prop),Inv X pins σ H s→t σ H Q →
    wpAny (model X.prog X.w) X.A (evalPart e X.env) (fun u s'=>∃ o H',Inv X pins σ H' s'∧IsPart u o∧Q o H') X.xe s
def Ew:TO:=fun _ H Q=>Q none H
def M7 (t:TE):TO:=fun σ H Q=>t σ H fun x H1=>∃ i,x=.int i∧Q (some i) H1
section
variable {X:Cx} {e:Expr} {te:TE} {lo hi:Option Expr} {tl th:TO} {pos p2:Pos}
theorem pA:PO X none Ew:=by
  intro pins s σ H Q I h
  rw [evalPart_none]
  exact wpAny_pure ⟨none,H,I,.none,h⟩
theorem jX (h:PE X e te):PO X (some e) (M7 te):=by
  intro pins s σ H Q I hw
  rw [evalPart_some]
  refine thn (h pins s σ H _ I hw) fun u s1 ⟨x,H1,I1,r1,q1⟩=>?_
  obtain ⟨i,rfl,q⟩:=q1
  obtain ⟨t,rfl⟩:=r1
  exact ⟨some i,H1,I1,.int i t,q⟩
def SlR (X:Cx) (r:V→Option Int→Option Int→Hp→VK→Prop):Prop :=
  ∀ (pins:List (Addr × Obj)) (s:Shared) (σ:St) (H:Hp) (x:V) (v vl vu:Value) (lo hi:Option Int) (sl:Addr) (Q:VK),Inv X pins σ H s→RelV x v→s.heap.IsSliceOf sl vl vu .none→IsPart vl lo→IsPart vu hi→r x lo hi H Q →
    ∃ T id,typeLookup (.type T) "__getitem__"=pure (some (.builtin id))∧s.TypeIs v T∧wpAny (model X.prog X.w) X.A (getItem v (.ref sl)) (EP X pins σ Q) X.xe s
def tSl (r:V→Option Int→Option Int→Hp→VK→Prop) (te:TE) (tl th:TO):TE:=fun σ H Q=>te σ H fun x H1=>tl σ H1 fun l H2=>th σ H2 fun u H3=>r x l u H3 Q
theorem jL {r:V→Option Int→Option Int→Hp→VK→Prop} (hr:SlR X r) (he:PE X e te) (hl:PO X lo tl) (hu:PO X hi th):PE X (.Subscript e (.Slice lo hi none p2) pos) (tSl r te tl th):=by
  intro pins s σ H Q I h
  refine Subscript_ (thn (he pins s σ H _ I h) fun v s1 ⟨x,H1,I1,r1,q1⟩=>?_)
  refine wpAny_Slice (thn (hl pins s1 σ H1 _ I1 q1) fun vl s2 ⟨l,H2,I2,pl,q2⟩=>thn (hu pins s2 σ H2 _ I2 q2) fun vu s3 ⟨u,H3,I3,pu,q3⟩=>?_)
  rw [evalPart_none]
  refine wpAny_pure ?_
  have I4:Inv X pins σ H3 { s3 with heap:=s3.heap.push { cls:=.type "slice",data:=.fields #[vl,vu,.none] } }:=I3.kept (t':=s3.toks) fun b ob q=>Heap.get?_push_of_some _ q
  obtain ⟨T,id,hT,ht,hg⟩:=hr pins { s3 with heap:=s3.heap.push { cls:=.type "slice",data:=.fields #[vl,vu,.none] } } σ H3 x v vl vu l u s3.heap.objs.size Q I4 r1 (Heap.IsSliceOf.new ..) pl pu q3
  show wpAny (model X.prog X.w) X.A (subscriptTail e (.Slice lo hi none p2) v (.ref s3.heap.objs.size)) (EP X pins σ Q) X.xe { s3 with heap:=s3.heap.push { cls:=.type "slice",data:=.fields #[vl,vu,.none] } }
  exact tail_any (ops:=[.ref s3.heap.objs.size,v]) ht hT hg (by with_unfolding_all rfl)
def uN (xs:List V) (lo hi:Option Int):List V:=(xs.drop (HT.sIx xs.length 0 lo)).take (HT.sIx xs.length xs.length hi - HT.sIx xs.length 0 lo)
theorem pL (xs:List V) (lo hi:Option Int):(uN xs lo hi).length≤xs.length:=by
  unfold uN
  rw [List.length_take,List.length_drop]
  omega
end
end L2
namespace L2
open PySem PySem.Spec PyProof.Rows
def ixN (n:Nat) (i:Int):Option Nat:=if 0≤i then (if i<n then some i.toNat else none) else if -(n:Int)≤i then some (i + n).toNat else none
def atI {α:Type} (xs:List α) (i:Int):Option α:=(ixN xs.length i).bind fun j=>xs[j]?
theorem ux {n:Nat} {i:Int} {j:Nat} (h:ixN n i=some j):seqIndex? i n=some j∧j<n∧-(n:Int)≤i∧i<n:=by
  unfold ixN at h
  by_cases h0:0≤i
  · rw [if_pos h0] at h
    by_cases h1:i<n
    · rw [if_pos h1] at h
      have e:i.toNat=j:=Option.some.inj h
      exact ⟨by rw [seqIndex_of h0 h1,e],by omega,by omega,h1⟩
    · rw [if_neg h1] at h;cases h
  · rw [if_neg h0] at h
    by_cases h1:-(n:Int)≤i
    · rw [if_pos h1] at h
      have e:(i + n).toNat=j:=Option.some.inj h
      exact ⟨by rw [seqIndex_neg (by omega) h1,e],by omega,h1,by omega⟩
    · rw [if_neg h1] at h;cases h
theorem uW {α:Type} {xs:List α} {i:Int} {v:α} (h:atI xs i=some v):∃ j,seqIndex? i xs.length=some j∧xs[j]?=some v∧j<xs.length∧-(xs.length:Int)≤i∧i<xs.length:=by
  unfold atI at h
  cases e:ixN xs.length i with
  | none=>rw [e] at h;cases h
  | some j =>
    rw [e] at h
    obtain ⟨h1,h2,h3,h4⟩:=ux e
    exact ⟨j,h1,h,h2,h3,h4⟩
theorem dh {α:Type} {xs:List α} {j:Nat} {v:α} (h:xs[j]?=some v):atI xs (j:Int)=some v:=by
  have hj:j<xs.length:=(List.getElem?_eq_some_iff.mp h).1
  have e:ixN xs.length (j:Int)=some j:=by
    unfold ixN
    rw [if_pos (by omega),if_pos (by omega)];simp
  unfold atI;rw [e];exact h
theorem wJ {α:Type} (xs:List α) (v:α):atI (xs++[v]) (-1)=some v:=by
  have hl:(xs++[v]).length=xs.length + 1:=by simp
  have e:ixN (xs++[v]).length (-1)=some xs.length:=by
    unfold ixN
    rw [hl,if_neg (by decide),if_pos (by omega)]
    congr 1
    omega
  unfold atI
  rw [e]
  show (xs++[v])[xs.length]?=some v
  simp
def Gd (b:Expr):Prop:=∀ o i,subscripted b false o i=operate [o,i] (getItem o i)
def IxR (X:Cx) (r:R2):Prop :=
  ∀ (value slice:Expr) (pins:List (Addr × Obj)) (s:Shared) (σ:St) (H:Hp) (x y:V) (v u:Value) (Q:VK),Inv X pins σ H s→RelV x v→RelV y u→r x y H Q →
    subscripted slice false v u=operate [v,u] (getItem v u)→wpAny (model X.prog X.w) X.A (subscriptTail value slice v u) (EP X pins σ Q) X.xe s
def MtR (X:Cx) (id:String) (r:V→List V→Hp→VK→Prop):Prop :=
  ∀ (pins:List (Addr × Obj)) (s:Shared) (σ:St) (H:Hp) (x:V) (xs:List V) (v:Value) (us:List Value) (Q:VK),Inv X pins σ H s→RelV x v→Vals xs us→r x xs H Q →
    wpAny (model X.prog X.w) X.A (call (.builtin id) (v :: us)) (EP X pins σ Q) X.xe s
section
variable {X:Cx} {a b:Expr} {ta tb:TE} {pos:Pos}
theorem bF {r:R2} (hr:IxR X r) (ha:PE X a ta) (hb:PE X b tb) (hs:Gd b):PE X (.Subscript a b pos) (tOp r ta tb):=by
  intro pins s σ H Q I h
  exact Subscript_ (MJ ha hb I h fun v u s2 x y H2 I2 rx ry q=>hr a b pins s2 σ H2 x y v u Q I2 rx ry q (hs _ _))
def Qj (K:PySem.W.Frag):R2:=fun x y H Q=>∃ p xs i v,x=.ref p∧y=.int i∧SqL K H p xs∧atI xs i=some v∧Q v H
def Qi (K:PySem.W.Frag):R2:=fun x y H Q=>∃ p xs i v,x=.ref p∧y=.int i∧SqT K H p xs∧atI xs i=some v∧Q v H
theorem aJ:IxR X (Qj X.K):=by
  intro value slice pins s σ H x y v u Q I rx ry h hs
  obtain ⟨p,xs,i,z,rfl,rfl,hq,he,q⟩:=h
  cases rx
  obtain ⟨t,rfl⟩:=ry
  obtain ⟨its,r,pl,hz⟩:=I.list hq
  obtain ⟨j,h1,h2,h3,h4,h5⟩:=uW he
  obtain ⟨w,ew,rw'⟩:=r.get h2
  have hl:=r.length
  have hn:=oh
  have fin:EP X pins σ Q w s:=⟨z,H,I,rw',q⟩
  by_cases h0:0≤i
  · have hj:i.toNat=j:=by
      rw [seqIndex_of h0 h5] at h1
      exact Option.some.inj h1
    exact item_listR pl.isList h0 (by omega) (by rw [hj];simpa using ew) fin hs
  · have hj:(i + (its.toArray.size:Int)).toNat=j:=by
      rw [seqIndex_neg (by omega) h4] at h1
      rw [List.size_toArray,← hl]
      exact Option.some.inj h1
    exact subscriptTail_builtinR (x:=w) pl.isList.typeIs slot_list_getitem.lookup
      (wpAny_getItem_list_neg (Q:=fun r s'=>r=w∧EP X pins σ Q r s') pl.isList (by omega) (by rw [List.size_toArray] <;> omega) (by omega) (by rw [hj];simpa using ew) ⟨rfl,fin⟩) hs
theorem jo:IxR X (Qi X.K):=by
  intro value slice pins s σ H x y v u Q I rx ry h hs
  obtain ⟨p,xs,i,z,rfl,rfl,hq,he,q⟩:=h
  cases rx
  obtain ⟨t,rfl⟩:=ry
  obtain ⟨its,r,pl,hz⟩:=I.tuple hq
  obtain ⟨j,h1,h2,h3,h4,h5⟩:=uW he
  obtain ⟨w,ew,rw'⟩:=r.get h2
  have hl:=r.length
  have hn:=oh
  have fin:EP X pins σ Q w s:=⟨z,H,I,rw',q⟩
  exact subscriptTail_builtinR (x:=w) pl.typeIs slot_tuple_getitem.lookup
    (getItem_tuple (j:=j) (Q:=fun r s'=>r=w∧EP X pins σ Q r s') pl (by omega) (by omega) (by rw [List.size_toArray,← hl];exact h1) (by simpa using ew) ⟨rfl,fin⟩) hs
theorem rB (its:List Value) (n j:Nat) (u:Value):Obj.mapSeq (·.setIfInBounds j u) { cls:=.type "list",data:=.seq its.toArray n }={ cls:=.type "list",data:=.seq (its.set j u).toArray n }:=by
  simp [Obj.mapSeq]
theorem Inv.lst {pins:List (Addr × Obj)} {σ:St} {H:Hp} {s:Shared} {p:Addr} {xs:List V} (I:Inv X pins σ H s) (h:H p=some (.lst xs)) :
    ∃ (its:List Value) (n:Nat),Vals xs its∧s.heap.get? p=some { cls:=.type "list",data:=.seq its.toArray n }∧xs.length≤sizeLine:=by
  obtain ⟨z,its,n,r,e⟩:=I.hok p _ h
  exact ⟨its,n,r,e,z⟩
theorem Inv.Hh {pins:List (Addr × Obj)} {σ:St} {H:Hp} {s:Shared} {p:Addr} {xs ys:List V} {its its':List Value} {n n':Nat} {f:Obj→Obj} (I:Inv X pins σ H s) (h:H p=some (.lst xs))
    (ho:s.heap.get? p=some { cls:=.type "list",data:=.seq its.toArray n }) (hf:f { cls:=.type "list",data:=.seq its.toArray n }={ cls:=.type "list",data:=.seq its'.toArray n' }) (r:Vals ys its') (hz:ys.length≤sizeLine) (t:Nat) :
    Inv X pins σ (upd H p (.lst ys)) { s with heap:=s.heap.update p f,toks:=t }:=by
  have e:(s.heap.update p f).get? p=some { cls:=.type "list",data:=.seq its'.toArray n' }:=by
    rw [Heap.get?_update_self f ho (by rw [hf] <;> rfl),hf]
  refine I.write (x:=p) (e:=p) (by rw [h];trivial) (.inl rfl) (fun b u hb q=>(Heap.get?_update_other _ _ (Ne.symm hb)).trans q) ⟨_,e⟩ ?_
  exact ⟨hz,its',n',r,e⟩
def Gz:V→V→V→Hp→(Hp→Prop)→Prop:=fun o i v H Q=>∃ p xs k j,o=.ref p∧i=.int k∧H p=some (.lst xs)∧ixN xs.length k=some j∧Q (upd H p (.lst (xs.set j v)))
theorem set_list:Qz X Gz:=by
  intro pins s σ H o i v ov iv u Q I ro ri rv h
  obtain ⟨p,xs,k,j,rfl,rfl,hp,hj,q⟩:=h
  cases ro
  obtain ⟨t,rfl⟩:=ri
  obtain ⟨its,n,r,ho,hz⟩:=I.lst hp
  obtain ⟨h1,h2,h3,h4⟩:=ux hj
  have hl:=r.length
  have hn:=oh
  have I':Inv X pins σ (upd H p (.lst (xs.set j v))) { s with heap:=s.heap.update p (Obj.mapSeq (·.setIfInBounds j u)) } :=
    I.Hh hp ho (rB its n j u) (r.set rv j) (by rw [List.length_set];exact hz) s.toks
  by_cases h0:0≤k
  · have hk:k.toNat=j:=by
      rw [seqIndex_of h0 h4] at h1
      exact Option.some.inj h1
    exact PySem.W.ki_setAt ho h0 (by omega) (by rw [List.size_toArray,← hl];exact h4) (by rw [hk];exact ⟨_,I',q⟩)
  · have hk:(k + (its.toArray.size:Int)).toNat=j:=by
      rw [seqIndex_neg (by omega) h3] at h1
      rw [List.size_toArray,← hl]
      exact Option.some.inj h1
    exact PySem.W.ki_setBack ho (by omega) (by rw [List.size_toArray,← hl];exact h3) (by omega) (by rw [hk];exact ⟨_,I',q⟩)
theorem nq (lo hi:Option Int) (n:Nat):(sliceBounds lo hi none n).1=((HT.sIx n 0 lo:Nat):Int)∧(sliceBounds lo hi none n).2.1=((HT.sIx n n hi:Nat):Int)∧(sliceBounds lo hi none n).2.2=1:=by
  refine ⟨?_,?_,rfl⟩
  · cases lo with
    | none=>simp [sliceBounds,HT.sIx]
    | some i =>
      simp only [sliceBounds,HT.sIx,Option.getD_none,show (1:Int) > 0 by decide,if_true]
      by_cases h:i<0
      · simp only [h,if_true] <;> omega
      · simp only [h,if_false] <;> omega
  · cases hi with
    | none=>simp [sliceBounds,HT.sIx]
    | some i =>
      simp only [sliceBounds,HT.sIx,Option.getD_none,show (1:Int) > 0 by decide,if_true]
      by_cases h:i<0
      · simp only [h,if_true] <;> omega
      · simp only [h,if_false] <;> omega
theorem mD (its:List Value) (lo hi:Option Int):slicePick its.toArray lo hi none=((its.drop (HT.sIx its.length 0 lo)).take (HT.sIx its.length its.length hi - HT.sIx its.length 0 lo)).toArray:=by
  obtain ⟨h1,h2,h3⟩:=nq lo hi its.toArray.size
  unfold slicePick
  rw [h1,h2,h3]
  simp only [sliceRange_one,pick_run,List.size_toArray] <;> rfl
def rSlL (K:PySem.W.Frag):V→Option Int→Option Int→Hp→VK→Prop:=fun x lo hi H Q=>∃ a xs,x=.ref a∧SqL K H a xs∧∀ p,H p=none→Q (.ref p) (upd H p (.lst (uN xs lo hi)))
theorem sE:SlR X (rSlL X.K):=by
  intro pins s σ H x v vl vu lo hi sl Q I rx hs pl pu h
  obtain ⟨a,xs,rfl,hx,q⟩:=h
  cases rx
  obtain ⟨its,r,ht,hz⟩:=I.list hx
  have hlen:=r.length
  refine ⟨"list",_,slot_list_getitem.lookup,ht.isList.typeIs,?_⟩
  refine wpAny_getItem_list_slice ht.isList hs pl pu .none (by simp) ?_ (by rw [List.size_toArray] <;> omega)
  rw [mD,← hlen]
  refine ⟨.ref s.heap.objs.size,_,I.laid (t':=s.toks) (o:=.lst (uN xs lo hi)) (fun b ob q=>Heap.get?_push_of_some _ q) (Nat.le_refl _) ?_,rfl,q _ (I.hok.fresh (Nat.le_refl _))⟩
  exact ⟨Nat.le_trans (pL xs lo hi) hz,_,0,(r.drop (HT.sIx xs.length 0 lo)).take (HT.sIx xs.length xs.length hi - HT.sIx xs.length 0 lo),Heap.get?_push_size _ rfl⟩
def mW:V→Bool
  | .non=>true
  | .bl _=>true
  | .int _=>true
  | .str _=>true
  | _=>false
def eqV:V→V→Bool
  | .non,.non=>true
  | .bl a,.bl b=>a == b
  | .bl a,.int b=>(if a then 1 else 0) == b
  | .int a,.bl b=>a == (if b then 1 else 0)
  | .int a,.int b=>a == b
  | .str a,.str b=>a == b
  | _,_=>false
theorem Mj {A:Around} {s:Shared} {y x:V} {u v:Value} (ry:RelV y u) (rx:RelV x v) (fy:mW y=true) (fx:mW x=true):SeqAt.EqAt A s u v (eqV y x):=by
  cases y with
  | non =>
    cases ry
    cases x with
    | non=>cases rx;exact SeqAt.EqAt.same _
    | bl b=>cases rx;exact SeqAt.EqAt.none_bool b
    | int b=>obtain ⟨t,rfl⟩:=rx;exact SeqAt.EqAt.none_int b t
    | str b=>obtain ⟨t,rfl⟩:=rx;exact SeqAt.EqAt.none_str b t
    | _=>exact absurd (show false=true from fx) Bool.false_ne_true
  | bl a =>
    cases ry
    cases x with
    | non=>cases rx;exact SeqAt.EqAt.bool_none a
    | bl b=>cases rx;exact SeqAt.EqAt.bool_bool a b
    | int b=>obtain ⟨t,rfl⟩:=rx;exact SeqAt.EqAt.bool_int a b t
    | str b=>obtain ⟨t,rfl⟩:=rx;exact SeqAt.EqAt.bool_str a b t
    | _=>exact absurd (show false=true from fx) Bool.false_ne_true
  | int a =>
    obtain ⟨t',rfl⟩:=ry
    cases x with
    | non=>cases rx;exact SeqAt.EqAt.int_none a t'
    | bl b=>cases rx;exact SeqAt.EqAt.int_bool a t' b
    | int b=>obtain ⟨t,rfl⟩:=rx;exact SeqAt.EqAt.int_int a t' b t
    | str b=>obtain ⟨t,rfl⟩:=rx;exact SeqAt.EqAt.int_str a t' b t
    | _=>exact absurd (show false=true from fx) Bool.false_ne_true
  | str a =>
    obtain ⟨t',rfl⟩:=ry
    cases x with
    | non=>cases rx;exact SeqAt.EqAt.str_none a t'
    | bl b=>cases rx;exact SeqAt.EqAt.str_bool a t' b
    | int b=>obtain ⟨t,rfl⟩:=rx;exact SeqAt.EqAt.str_int a t' b t
    | str b=>obtain ⟨t,rfl⟩:=rx;exact SeqAt.EqAt.str_str a t' b t
    | _=>exact absurd (show false=true from fx) Bool.false_ne_true
  | _=>exact absurd (show false=true from fy) Bool.false_ne_true
def eqU (x:V) (u:Value):Bool:=match u with
  | .none=>eqV .non x
  | .bool b=>eqV (.bl b) x
  | .int i _=>eqV (.int i) x
  | .str z _=>eqV (.str z) x
  | _=>false
theorem Eh {x y:V} {u:Value} (r:RelV y u) (f:mW y=true):eqU x u=eqV y x:=by
  cases y with
  | non=>cases r;rfl
  | bl b=>cases r;rfl
  | int i=>obtain ⟨t,rfl⟩:=r;rfl
  | str z=>obtain ⟨t,rfl⟩:=r;rfl
  | _=>exact absurd (show false=true from f) Bool.false_ne_true
theorem pQ {x:V}:∀ {xs:List V} {us:List Value},Vals xs us→xs.all mW=true→us.any (eqU x)=xs.any fun y=>eqV y x
  | _,_,.nil,_=>rfl
  | y :: xs,u :: us,.cons r t,f=>by
    rw [List.all_cons,Bool.and_eq_true] at f
    rw [List.any_cons,List.any_cons,Eh r f.1,pQ t f.2]
theorem mO {A:Around} {s:Shared} {x:V} {v:Value} (rx:RelV x v) (fx:mW x=true):∀ {xs:List V} {us:List Value},Vals xs us→xs.all mW=true→∀ u∈us,SeqAt.EqAt A s u v (eqU x u)
  | _,_,.nil,_=>fun u hu=>by cases hu
  | y :: xs,u :: us,.cons r t,f=>fun u' hu=>by
    rw [List.all_cons,Bool.and_eq_true] at f
    rcases List.mem_cons.mp hu with rfl | hu
    · rw [Eh r f.1];exact Mj r rx f.1 fx
    · exact mO rx fx t f.2 u' hu
def inV (x:V) (xs:List V):Bool:=xs.any fun y=>eqV y x
def rIn (K:PySem.W.Frag) (neg:Bool):R2:=fun x y H Q=>∃ p xs,y=.ref p∧(SqL K H p xs∨SqT K H p xs)∧mW x=true∧xs.all mW=true∧Q (.bl (if neg then !inV x xs else inV x xs)) H
theorem nY:OpR X (compareOp .In) (rIn X.K false):=by
  intro pins s σ H x y v u Q I rx ry h
  obtain ⟨p,xs,rfl,hq,fx,fs,q⟩:=h
  cases ry
  rcases hq with hq | hq
  · obtain ⟨its,r,pl,hz⟩:=I.list hq
    refine SeqAt.in_listAt (eqU x) pl.isList (fun w hw=>mO rx fx r fs w (by simpa using hw)) ⟨.bl _,H,I,rfl,?_⟩
    rw [show its.toArray.any (eqU x)=its.any (eqU x) by simp,pQ r fs]
    exact q
  · obtain ⟨its,r,pl,hz⟩:=I.tuple hq
    refine SeqAt.in_tupleAt (eqU x) pl (fun w hw=>mO rx fx r fs w (by simpa using hw)) ⟨.bl _,H,I,rfl,?_⟩
    rw [show its.toArray.any (eqU x)=its.any (eqU x) by simp,pQ r fs]
    exact q
theorem aL:jH X (.builtin "len") (fun xs H Q=>∃ p ys,xs=[.ref p]∧(SqL X.K H p ys∨SqT X.K H p ys)∧Q (.int ys.length) H):=by
  intro pins s σ H xs us Q I r h
  obtain ⟨p,ys,rfl,hq,q⟩:=h
  obtain ⟨u,rfl,rx⟩:=vals1 r
  cases rx
  have hn:=oh
  rcases hq with hq | hq
  · obtain ⟨its,r',pl,hz⟩:=I.list hq
    have hlen:=r'.length
    exact Calls.call_len_list pl.isList (by simp only [List.size_toArray] <;> omega) ⟨.int ys.length,H,I.tok _,⟨s.toks + 1,by rw [List.size_toArray,hlen]⟩,q⟩
  · obtain ⟨its,r',pl,hz⟩:=I.tuple hq
    have hlen:=r'.length
    exact len_tuple pl (by simp only [List.size_toArray] <;> omega) ⟨.int ys.length,H,I.tok _,⟨s.toks + 1,by rw [List.size_toArray,hlen]⟩,q⟩
theorem iw:jH X (.builtin "len") (fun xs H Q=>∃ z,xs=[.str z]∧z.length≤sizeLine∧Q (.int z.length) H):=by
  intro pins s σ H xs us Q I r h
  obtain ⟨z,rfl,hz,q⟩:=h
  obtain ⟨u,rfl,t,rfl⟩:=vals1 r
  have hn:=oh
  exact len_str (by omega) ⟨.int z.length,H,I.tok _,⟨_,rfl⟩,q⟩
theorem gj:jH X (.type "list") (fun xs H Q=>∃ p ys,xs=[.ref p]∧(SqL X.K H p ys∨SqT X.K H p ys)∧∀ l,H l=none→Q (.ref l) (upd H l (.lst ys))):=by
  intro pins s σ H xs us Q I r h
  obtain ⟨p,ys,rfl,hq,q⟩:=h
  obtain ⟨u,rfl,rx⟩:=vals1 r
  cases rx
  have fin:∀ (its:List Value),Vals ys its→ys.length≤sizeLine→∀ (h':Heap) (c':Nat),(∀ b o',s.heap.get? b=some o'→h'.get? b=some o') →
      h'.get? s.heap.objs.size=some { cls:=.type "list",dict:=none,data:=.seq its.toArray c',slots:=#[] }→EP X pins σ Q (.ref s.heap.objs.size) { s with heap:=h' }:=fun its r' hz h' c' kp e =>
    ⟨.ref s.heap.objs.size,_,I.laid (t':=s.toks) kp (Nat.le_refl _) (show fG X.prog X.w _ h' _ (.lst ys) from ⟨hz,its,c',r',e⟩),rfl,q _ (I.hok.fresh (Nat.le_refl _))⟩
  rcases hq with hq | hq
  · obtain ⟨its,r',pl,hz⟩:=I.list hq
    have hlen:=r'.length
    obtain ⟨o,ho,hc,n,hd⟩:=pl.isList
    exact call_list_seq p (.inl rfl) ho hc hd (fun h' c' kp e=>fin its r' hz h' c' kp e) (by simp only [List.size_toArray] <;> omega)
  · obtain ⟨its,r',pl,hz⟩:=I.tuple hq
    have hlen:=r'.length
    obtain ⟨o,ho,hc,n,hd⟩:=pl
    exact call_list_seq p (.inr rfl) ho hc hd (fun h' c' kp e=>fin its r' hz h' c' kp e) (by simp only [List.size_toArray] <;> omega)
theorem mY:jH X (.type "tuple") (fun xs H Q=>∃ p ys,xs=[.ref p]∧((SqL X.K H p ys∧∀ l,H l=none→Q (.ref l) (upd H l (.tup ys)))∨(SqT X.K H p ys∧Q (.ref p) H))):=by
  intro pins s σ H xs us Q I r h
  obtain ⟨p,ys,rfl,h⟩:=h
  obtain ⟨u,rfl,rx⟩:=vals1 r
  cases rx
  rcases h with ⟨hq,q⟩ | ⟨hq,q⟩
  · obtain ⟨its,r',pl,hz⟩:=I.list hq
    have hlen:=r'.length
    refine call_tuple_list pl.isList (fun h' kp=>?_) (by simp only [List.size_toArray] <;> omega)
    have I1:Inv X pins σ H { s with heap:=h' }:=I.kept (t':=s.toks) kp
    have I2:Inv X pins σ (upd H h'.objs.size (.tup ys)) { s with heap:=h'.push { cls:=.type "tuple",data:=.seq its.toArray } } :=
      I1.laid (t':=s.toks) (fun b o e=>Heap.get?_push_of_some _ e) (Nat.le_refl _) (show fG X.prog X.w _ _ _ (.tup ys) from ⟨hz,its,r',IsTup.new _ _⟩)
    exact ⟨.ref h'.objs.size,_,I2,rfl,q _ (I1.hok.fresh (Nat.le_refl _))⟩
  · obtain ⟨its,r',pl,hz⟩:=I.tuple hq
    exact call_tuple_same pl ⟨.ref p,H,I,rfl,q⟩
def tyV (K:PySem.W.Frag) (T:String) (x:V) (H:Hp):Prop:=match x with
  | .str _=>T="str"
  | .int _=>T="int"
  | .ref p=>(T="list"∧∃ xs,SqL K H p xs)∨(T="tuple"∧∃ o,K.lookup p=some o∧o.cls=.type "tuple"∧o.dict=none) ∨
      (T="dict"∧((∃ kvs,H p=some (.dK kvs))∨∃ kvs,H p=some (.dT kvs)))∨(T="set"∧∃ S n,H p=some (.set S n))
  | _=>False
theorem Gs {pins:List (Addr × Obj)} {σ:St} {H:Hp} {s:Shared} {T:String} {x:V} {v:Value} (I:Inv X pins σ H s) (r:RelV x v) (ty:tyV X.K T x H) :
    s.TypeIs v T∧∀ a,v=.ref a→∃ ob,s.heap.get? a=some ob∧ob.dict=none:=by
  cases x with
  | str z =>
    obtain ⟨t,rfl⟩:=r
    cases (show T="str" from ty)
    exact ⟨typeIs_str s z t,fun _ e=>nomatch e⟩
  | int i =>
    obtain ⟨t,rfl⟩:=r
    cases (show T="int" from ty)
    exact ⟨typeIs_int s i t,fun _ e=>nomatch e⟩
  | ref p =>
    cases r
    rcases ty with ⟨rfl,xs,hq⟩ | ⟨rfl,o,hk,hc,hd⟩ | ⟨rfl,hk⟩ | ⟨rfl,S,n,hk⟩
    · obtain ⟨its,_,pl,_⟩:=I.list hq
      refine ⟨pl.isList.typeIs,fun a e=>?_⟩
      cases e
      obtain ⟨o,n,e,c,hd,_⟩:=pl
      exact ⟨o,e,hd⟩
    · refine ⟨⟨o,I.kIn p o hk,hc⟩,fun a e=>?_⟩
      cases e
      exact ⟨o,I.kIn _ o hk,hd⟩
    · have z:∃ o,s.heap.get? p=some o∧o.ExactDict:=by
        rcases hk with ⟨kvs,hk⟩ | ⟨kvs,hk⟩
        · obtain ⟨_,_,_,_,o,_,_,e,ex,_⟩:=I.hok p _ hk
          exact ⟨o,e,ex⟩
        · obtain ⟨_,_,_,_,o,_,_,e,ex,_⟩:=I.hok p _ hk
          exact ⟨o,e,ex⟩
      obtain ⟨o,e,ex⟩:=z
      refine ⟨⟨o,e,ex.1⟩,fun a e2=>?_⟩
      cases e2
      exact ⟨o,e,ex.2.1⟩
    · obtain ⟨o,_,_,_,e,ex,_⟩:=I.hok p _ hk
      refine ⟨⟨o,e,ex.1⟩,fun a e2=>?_⟩
      cases e2
      exact ⟨o,e,ex.2.1⟩
  | _=>exact False.elim ty
def tBM (K:PySem.W.Frag) (T:String) (r:V→List V→Hp→VK→Prop) (to:TE) (t:TA):TE:=fun σ H Q=>to σ H fun x H1=>tyV K T x H1∧t σ H1 fun xs H2=>r x xs H2 Q
variable {o e:Expr} {es:List Expr} {to:TE} {t:TA} {name:Str} {apos cpos:Pos} {T id:String} {r:V→List V→Hp→VK→Prop}
theorem iR (pa:PlainAttrs T) (slot:Slot T name id) (hty:typeOf (.builtin id)=pure (.type "method_descriptor")) (hm:MtR X id r) (ho:PE X o to) (ha:PA X (e :: es) t)
    (hbase:attributeBase o name X.env (eval o X.env)=eval o X.env:=by rfl)
    (hfew:((backTo cpos (starEach (e :: es) X.env)).all (fun x=>!x.1) && (backToKw cpos (keywordEach [] X.env)).all (fun x=>x.1.isSome)
      && decide ((e :: es).length + ([]:List Keyword).length + (if ([]:List Keyword).isEmpty then 0 else 1)<30))=true:=by rfl)
    (hline:(apos.endLine == cpos.line)=true:=by rfl) (hs:starEach (e :: es) X.env=(false,eval e X.env) :: starEach es X.env:=by rfl) (hplain:(backTo cpos (starEach es X.env)).any (·.1)=false:=by rfl) :
    PE X (.Call (.Attribute o name apos) (e :: es) [] cpos) (tBM X.K T r to t):=by
  intro pins s σ H Q I h
  refine wpAny_Call_method_late hbase hfew hline rfl (thn (ho pins s σ H _ I h) fun v s1 ⟨x,H1,I1,r1,ty,q1⟩=>?_)
  obtain ⟨h1,h2⟩:=Gs I1 r1 ty
  refine ⟨T,id,pa,slot,hty,h1,h2,?_⟩
  have hA:=ha cpos pins s1 σ H1 _ I1 q1
  rw [hs] at hA ⊢
  refine Calls.callWith_builtin (by show (false || (backTo cpos (starEach es X.env)).any (·.1))=false;rw [hplain] <;> rfl) (Calls.evalArgs_plain ?_)
  exact thn hA fun us s2 ⟨vs,H2,I2,r2,q2⟩=>hm pins s2 σ H2 x vs v us Q I2 r1 r2 q2
end
end L2
namespace L2
open PySem PySem.Spec PyProof.Rows
def MtM (X:Cx) (id:String) (r:V→List V→Hp→VK→Prop):Prop :=
  ∀ (pins:List (Addr × Obj)) (s:Shared) (σ:St) (H:Hp) (x:V) (xs:List V) (v:Value) (us:List Value) (Q:VK),Inv X pins σ H s→RelV x v→Vals xs us→r x xs H Q →
    wpAny (model X.prog X.w) X.A (call (.builtin id) (v :: us)) (EP X pins σ Q) X.xe s
theorem Vals.one:∀ {x:V} {us:List Value},Vals [x] us→∃ u,us=[u]∧RelV x u
  | _,_,.cons r .nil=>⟨_,rfl,r⟩
section
variable {X:Cx} {pins:List (Addr × Obj)} {σ:St} {H:Hp} {s:Shared} {l b:Addr} {xs ys zs:List V}
theorem Inv.lset {its its':List Value} {n:Nat} {f:Array Value→Array Value} {t':Nat} (I:Inv X pins σ H s) (hH:H l=some (.lst xs))
    (e:s.heap.get? l=some { cls:=.type "list",data:=.seq its.toArray n }) (hf:f its.toArray=its'.toArray) (hv:Vals ys its') (hz:ys.length≤sizeLine) :
    Inv X pins σ (upd H l (.lst ys)) { s with heap:=s.heap.update l (Obj.mapSeq f),toks:=t' }:=by
  have q:=PySem.IsL.update e f
  rw [hf] at q
  refine I.write (x:=l) (e:=l) (by rw [hH];exact trivial) (.inl rfl) (fun b' u hb hu=>(Heap.get?_update_other s.heap (Obj.mapSeq f) (Ne.symm hb)).trans hu) ⟨_,q⟩ ?_
  exact ⟨hz,its',_,hv,q⟩
theorem Inv.lstM (I:Inv X pins σ H s) (hH:H l=some (.lst xs)):xs.length≤sizeLine∧∃ (its:List Value) (n:Nat),Vals xs its∧xs.length=its.length∧s.heap.get? l=some { cls:=.type "list",data:=.seq its.toArray n }:=by
  obtain ⟨z,its,n,r,e⟩:=I.hok l _ hH
  exact ⟨z,its,n,r,r.length,e⟩
end
section
variable {X:Cx}
def Fd:V→List V→Hp→VK→Prop:=fun x vs H Q=>∃ l xs y,x=.ref l∧vs=[y]∧H l=some (.lst xs)∧xs.length<sizeLine∧Q .non (upd H l (.lst (xs++[y])))
theorem bJ:MtM X "list.append" Fd:=by
  intro pins s σ H x vs v us Q I rx rv h
  obtain ⟨l,xs,y,rfl,rfl,hH,hz,q⟩:=h
  cases rx
  obtain ⟨u,rfl,ru⟩:=rv.one
  obtain ⟨z,its,n,r,hl,e⟩:=I.lstM hH
  refine call_meets F.slot_list_append ⟨_,e,rfl⟩ F.entry_list_append (F.args_list_append_2 _ _) (PySem.list_append l its.toArray n u (by rw [List.size_toArray];omega)) ⟨e,?_⟩
  refine ⟨.non,_,I.lset (its':=its++[u]) hH e (by simp) (r.append (.cons ru .nil)) ?_,rfl,q⟩
  rw [List.length_append,List.length_singleton]
  omega
end
section
variable {prog:Program} {w:World} {A:Around} {E:Value→Shared→Prop} {s:Shared}
end
section
variable {X:Cx}
end
end L2
namespace Att
open PySem PySem.W PySem.Calls PyProof.Rows
theorem kO {P:Params} {h:Heap}:∀ (ns:List Int) (vs:List Value),WellAll P h vs (ns.map WData.int)→IntsAre vs ns:=by
  intro ns
  induction ns with
  | nil =>
    intro vs w
    rw [List.map_nil] at w
    cases w
    exact .nil
  | cons n ns ih =>
    intro vs w
    rw [List.map_cons] at w
    cases w with
    | cons a b =>
      cases a
      exact .cons _ _ (ih _ b)
theorem sH {l:OpenLaw} {n:Nat} (hn:l.most=some n) {P:Params} {h:Heap} {args:List WData} {vals:List Value}
    (hpre:l.row.toRowW.claim.pre args=true) (hwl:WellAll P h vals args) :
    ∃ a vs ns,vals=[Value.ref a]∧args=[WData.list (ns.map WData.int)]∧h.get? a=some { cls:=.type "list",data:=.seq vs.toArray }∧IntsAre vs ns∧ns.length≤n:=by
  have hsh:WShape.hasAll [] args [.list .int]=true:=(pre_splitW hpre).1
  have hc:l.pre.holds [] { args:=args }=true:=(pre_splitW hpre).2
  obtain ⟨d,r,rfl,h1,h2⟩:=hasAllW_cons hsh
  obtain rfl:=hasAllW_nil h2
  obtain ⟨xs,rfl,h3⟩:=hasW_list h1
  obtain ⟨ns,rfl⟩:=items_int h3
  have hlen:ns.length≤n:=by
    unfold OpenLaw.pre at hc
    have h4:(WTm.not (.lt (.lit (.int (n:Int))) (.len (.arg 0)))).holds [] { args:=[.list (ns.map .int)] }=true:=by
      have h4:=(holds_andW hc).1
      rw [hn] at h4
      exact h4
    have h5:=condW_of h4 (w_not (w_lt w_lit (w_len_list (w_arg rfl))))
    rw [List.length_map] at h5
    refine Nat.le_of_not_lt fun q=>?_
    have q':(n:Int)<((ns.length:Nat):Int):=by omega
    first
      | (rw [decide_eq_true q'] at h5;exact absurd h5 (by decide))
      | (simp at h5;omega)
  cases hwl with
  | cons w1 w2 =>
    cases w2
    cases w1 with
    | list ho hall=>exact ⟨_,_,ns,rfl,rfl,ho,kO ns _ hall,hlen⟩
theorem sZ (l:OpenLaw) (args:List WData):l.row.toRowW.claim.post args (.bool true) args=true :=
  postW_of (r:=l.row.toRowW) (X:=(true == true))
    (show WShape.has [] (.bool true) .bool=true by first | rfl | decide | simp [WShape.has,WShape.arms,WShape.armsAll])
    (show (WTm.eq .res (.lit (.bool true))).value [] { args:=args,res:=some (.bool true),after:=args }=some (.bool (true == true)) from w_eq_bool (w_res rfl) w_lit) rfl
theorem pP {l:OpenLaw} {n:Nat} {q:Program} {loose:List Str} {XP:(Str→Option Value)→Heap→Prop} {YP:World→Heap→Prop} {d:DefRec}
    (hn:l.most=some n) (hdf:d.params.defaults=[])
    (call:∀ (w:World) (s₀ s₁:Shared) (mg mb:Str→Option Value) (fa:Addr) (o:Obj) (pm cd doc:Value) (a:Addr) (vs:List Value) (ns:List Int),
      Ground q loose [] XP w s₀ mg mb s₁.heap→YP w s₁.heap →
      s₁.heap.get? fa=some o→o.data=.func (docDef d.name d.params d.body d.scope pm cd doc)→s₁.heap.CodeRec cd d.name→mg d.name=some (.ref fa) →
      s₁.heap.get? a=some { cls:=.type "list",data:=.seq vs.toArray }→IntsAre vs ns→ns.length≤n→s₁.gens=#[] →
      codeAny (model l.prog w) callerA (.call (.ref fa) ⟨[.ref a],[]⟩) (fun r s'=>r=.ok (.ret (.bool true))∧OldK s₁.heap s'.heap∧s'.os=s₁.os∧AllBare s'.gens) s₁) :
    WalkO q loose XP YP l.row.toRowW d [] (fun f vs=>PySem.call f vs):=by
  intro w s₀ s₁ mg mb G Y fa o pm cd doc dV kV ho hd hcd hD hmg hg args vals as hpre hlay hrd hwl hlo
  obtain rfl:dV=.none:=Dflts.none hD hdf
  obtain rfl:kV=.none:=Dflts.noKw hD
  obtain ⟨a,vs,ns,rfl,rfl,hobj,hints,hlen⟩:=sH hn hpre hwl
  refine enter_call (codeAny_mono (call w s₀ s₁ mg mb fa o pm cd doc a vs ns G Y ho (fd_plain hd) hcd hmg hobj hints hlen hg) fun r s' hq=>?_)
  obtain ⟨rfl,h2,h3,h4⟩:=hq
  exact ⟨.inl ⟨.bool true,.bool true,[],rfl,fun _=>rfl,.bool true,sZ l _,fun _=>⟨List.Pairwise.nil,fun _ hm=>(nomatch hm)⟩⟩,h2,h3,h4⟩
section
variable {prog:Program} {w:World} {A:Around} {E:Value→Shared→Prop} {s:Shared} {K:Frag}
end
end Att
namespace L2
open PySem PySem.Spec PyProof.Rows
theorem m9:∀ {vs:List Value} {ns:List Int},IntsAre vs ns→Vals (ns.map V.int) vs
  | _,_,.nil=>.nil
  | _,_,.cons n t h=>.cons ⟨t,rfl⟩ (m9 h)
def Only (H:Hp):Prop:=∀ b,H b=none∨∃ o xs,H b=some (.frz o (.lst xs))
theorem v7 {P:Program} {w:World} {K:PySem.W.Frag} {mg mb:Str→Option Value} {CX:CXT} {k:Nat} {fa a:Addr} {fd:FuncData} {x:Str} {sp:Sp} {s₁:Shared} {vs:List Value} {ns:List Int}
    (KX:K.In s₁.heap) (hns:s₁.heap.Ns mainGlobals mg) (hb:s₁.heap.Ns builtinsNs mb) (hbb:∀ x:Str,x≠"__name__"→mb x=bootBuiltins x) (hlim:s₁.heap.NoLimit) (hg:s₁.gens=#[])
    (ha:s₁.heap.get? a=some { cls:=.type "list",data:=.seq vs.toArray }) (hi:IntsAre vs ns) (hl:ns.length≤sizeLine) (hr:jw k callerA)
    (F:∀ base:Heap,K.In base→base.Ns mainGlobals mg→bW P w K mg base CX k fa fd [x] sp) (hbind:∀ (s:Shared) (u:Value),BindsTo s fd ⟨[u],[]⟩ [(x,u)])
    (hsp:∀ H:Hp,Only H→SqL K H a (ns.map V.int)→sp [.ref a] H (fun v _=>v=.bl true) fun _ _ _=>False)
    (hCX:∀ H e s',CX [] H s₁ (fun _ _ _=>False) e s'→False) :
    codeAny (model P w) callerA (.call (.ref fa) ⟨[.ref a],[]⟩) (fun r s'=>r=.ok (.ret (.bool true))∧OldK s₁.heap s'.heap∧s'.os=s₁.os∧AllBare s'.gens) s₁:=by
  have rv:=m9 hi
  have lenV:=hi.length
  have core:∀ H:Hp,Only H→SqL K H a (ns.map V.int)→HOk P w H s₁.heap→(∀ b,H b≠none→b=a)→(H a≠none→K.lookup a=none) →
      codeAny (model P w) callerA (.call (.ref fa) ⟨[.ref a],[]⟩) (fun r s'=>r=.ok (.ret (.bool true))∧OldK s₁.heap s'.heap∧s'.os=s₁.os∧AllBare s'.gens) s₁:=by
    intro H hO hS hok hA hK
    have base_of:∀ {b:Addr} {o:Obj},s₁.heap.get? b=some o→H b=none→(wk s₁.heap H).get? b=some o:=fun e n=>wj e n
    have noA:∀ {b:Addr} {o:Obj} {es:Array DictEntry} {ep:Nat},s₁.heap.get? b=some o→o.data=.dict es ep→H b=none:=fun {b o es ep} e d=>by
      cases q:H b with
      | none=>rfl
      | some u =>
        have e':b=a:=hA b (by rw [q];simp)
        subst e'
        rw [ha] at e;cases e
        have d':Data.seq vs.toArray _=Data.dict es ep:=d
        cases d'
    have nsK:∀ {b:Addr} {m:Str→Option Value},s₁.heap.Ns b m→(wk s₁.heap H).Ns b m:=fun {b m} ⟨o,es,ep,e,d,r⟩=>⟨o,es,ep,base_of e (noA e d),d,r⟩
    have hKb:K.In (wk s₁.heap H):=fun b o e=>base_of (KX b o e) (by
      cases q:H b with
      | none=>rfl
      | some u =>
        have e':b=a:=hA b (by rw [q];simp)
        subst e'
        rw [hK (by rw [q];simp)] at e;cases e)
    have hM:Mod K mg (wk s₁.heap H):=⟨hKb,nsK hns,⟨mb,nsK hb,hbb⟩,let ⟨mc,h1,h2⟩:=hlim;⟨mc,nsK h1,h2⟩⟩
    have e0:Gf P w K mg (wk s₁.heap H) callerA [] s₁ H:=⟨rfl,hM,fun b o e=>Fq e,Nat.le_of_eq (uE _ _),trivial,fun b hb=>absurd (show b∈([]:List Addr) from hb) (by simp),hok,.of_eq hg⟩
    refine codeAny_mono ((F _ hKb (nsK hns)).run callerA [] s₁ H ⟨[.ref a],[]⟩ [.ref a] [.ref a] _ _ hr e0 (hbind s₁ (.ref a)) (.cons rfl .nil) (hsp H hO hS)) fun r s' h=>?_
    cases r with
    | error e=>exact (hCX H e s' h).elim
    | ok fl =>
      cases fl with
      | next=>exact False.elim h
      | brk=>exact False.elim h
      | cont=>exact False.elim h
      | ret u =>
        obtain ⟨v,H',os,bare,un,hok',r',q⟩:=h
        have q':v=.bl true:=q
        subst q'
        obtain rfl:u=Value.bool true:=r'
        refine ⟨rfl,OldK.of_keep fun b o e=>?_,os,bare⟩
        cases q:H b with
        | none=>exact un.keep b o e q (by intro z;exact absurd (show b∈([]:List Addr) from z) (by simp)) (by simp)
        | some u =>
          rcases hO b with z | ⟨ob,xs,z⟩
          · rw [q] at z;cases z
          · have z2:=un.frzs b ob _ z
            obtain ⟨e1,_⟩:=hok b _ z
            obtain ⟨e2,_⟩:=hok' b _ z2
            rw [e] at e1;cases e1
            exact e2
  cases hk:K.lookup a with
  | some o =>
    have e:=KX a o hk
    rw [ha] at e
    cases e
    refine core (fun _=>none) (fun _=>.inl rfl) (.inr ⟨_,vs.toArray,_,hk,rfl,rfl,rfl,by rw [List.size_toArray,lenV];exact hl,by simpa using rv⟩) (fun b u z=>by have z':(none:Option HO)=some u:=z;cases z') (fun b z=>absurd rfl z) fun z=>absurd rfl z
  | none =>
    refine core (fun b=>if b=a then some (.frz { cls:=.type "list",data:=.seq vs.toArray } (.lst (ns.map V.int))) else none) (fun b=>?_) (.inl (.inr ⟨{ cls:=.type "list",data:=.seq vs.toArray },if_pos rfl⟩)) (fun b u z=>?_) (fun b z=>?_) fun _=>hk
    · by_cases hb:b=a
      · exact .inr ⟨_,_,if_pos hb⟩
      · exact .inl (if_neg hb)
    · by_cases hb:b=a
      · have z':=(if_pos hb).symm.trans z
        cases z'
        subst hb
        exact ⟨ha,by rw [List.length_map];exact hl,vs,_,rv,ha⟩
      · have z':=(if_neg hb).symm.trans z
        cases z'
    · by_cases hb:b=a
      · exact hb
      · exact absurd (if_neg hb) z
end L2
namespace L2
open PySem PySem.Spec PyProof.Rows
abbrev KOf {K:PySem.W.Frag} {h:Heap} (_:K.In h):PySem.W.Frag:=K
theorem Et {l:PySem.W.OpenLaw} {n k:Nat} {q:Program} {loose:List Str} {XP:(Str→Option Value)→Heap→Prop} {YP:World→Heap→Prop} {d:DefRec} {K:Params→PySem.W.Frag} {CX:World→CXT} {sp:World→Sp} {x:Str}
    (hn:l.most=some n) (hn2:n≤sizeLine) (hdf:d.params.defaults=[]) (hr:jw k callerA)
    (hY:∀ (w:World) (h:Heap),YP w h→(K w.params).In h)
    (F:∀ (w:World) (mg:Str→Option Value) (fa:Addr) (h:Heap),(K w.params).In h→h.Ns mainGlobals mg→mg d.name=some (.ref fa) →
      ∃ fd:FuncData,(∀ (s:Shared) (u:Value),BindsTo s fd ⟨[u],[]⟩ [(x,u)]) ∧
        ∀ base:Heap,(K w.params).In base→base.Ns mainGlobals mg→bW l.prog w (K w.params) mg base (CX w) k fa fd [x] (sp w))
    (hsp:∀ (w:World) (H:Hp) (a:Addr) (ns:List Int),ns.length≤n→Only H→SqL (K w.params) H a (ns.map V.int)→sp w [.ref a] H (fun v _=>v=.bl true) fun _ _ _=>False)
    (hCX:∀ (w:World) (H:Hp) (s:Shared) (e:Value) (s':Shared),CX w [] H s (fun _ _ _=>False) e s'→False) :
    PySem.W.WalkO q loose XP YP l.row.toRowW d [] (fun f vs=>PySem.call f vs):=by
  refine Att.pP hn hdf fun w s₀ s₁ mg mb fa o pm cd doc a vs ns G Y ho hd hcd hmg hobj hints hlen hg=>?_
  have KX:=hY w _ Y
  obtain ⟨fd,hb,hF⟩:=F w mg fa _ KX G.T.g hmg
  exact v7 KX G.T.g G.T.b G.T.builtins G.T.nolimit hg hobj hints (Nat.le_trans hlen hn2) hr hF hb (fun H hO hS=>hsp w H a ns hlen hO hS) fun H e s'=>hCX w H s₁ e s'
end L2
namespace L2
open PySem PySem.Spec PyProof.Rows
abbrev CX0:CXT:=fun _ _ _ _ _ _=>False
abbrev E0:XK:=fun _ _ _=>False
theorem bZ {X:Cx}:Passes CX0 X E0:=fun _ _ _ _ _ _ _ h=>h.elim
structure Fun (K:PySem.W.Frag) (x qual:Str) (st:Stmt) (f:Addr) (fd:FuncData):Prop where
  ex:∃ (oc:Value) (od:Option Addr) (kV doc pm:Value) (an:Option Addr) (cdv ct:Value) (osl:Array (Option Value)),
    fd=PySem.W.fnOf x qual (au st) (ao st) (ak st) .none kV doc pm an cdv ct∧K.lookup f=some ⟨oc,od,.func fd,osl⟩∧PySem.W.codeIn K cdv qual=true
  kp:PySem.W.keepIn K (.ref f)=true
variable {P:Program} {w:World} {K:PySem.W.Frag} {mg:Str→Option Value} {base:Heap} {T:eU}
theorem Fun.ok {x qual:Str} {st:Stmt} {f:Addr} {fd:FuncData} {N ps:List Str} {k:Nat} {sp:Sp} (F:Fun K x qual st f fd) (S:aO N ps (ak st)) (len:∀ vs H Q E,sp vs H Q E→vs.length=ps.length)
    (hbody:∀ (cdv:Value) (A:Around) (outer:List Env) (s:Shared) (H:Hp) (vs:List V) (Q:VK) (E:XK),jw k (A.deeper (envOfC qual (ak st) s.heap.objs.size f cdv))→sp vs H Q E →
      ∃ t,PSs (uY CX0 P w K mg base N qual (ak st) f cdv A outer s H E).nox (ao st) t∧t { nx:=fun _ H'=>Q .non H',rt:=Q } (start N vs) H):bW P w K mg base CX0 (k + 1) f fd ps sp:=by
  obtain ⟨oc,od,kV,doc,pm,an,cdv,ct,osl,rfl,lk,hcd⟩:=F.ex
  refine Fy lk hcd S len fun A outer s H vs Q E hr hsp=>?_
  obtain ⟨t,h,q⟩:=hbody cdv A outer s H vs Q E hr hsp
  exact ⟨t,h.nox,q⟩
theorem Fun.binds {x qual:Str} {st:Stmt} {f:Addr} {fd:FuncData} {ps:List Str} (F:Fun K x qual st f fd)
    (h:∀ (kV doc pm:Value) (an:Option Addr) (cdv ct:Value) (us:List Value),us.length=ps.length→bindArgs (PySem.W.fnOf x qual (au st) (ao st) (ak st) .none kV doc pm an cdv ct) ⟨us,[]⟩=pure (ps.zip us)):Binds K fd ps []:=by
  obtain ⟨oc,od,kV,doc,pm,an,cdv,ct,osl,rfl,lk,hcd⟩:=F.ex
  exact .all (h kV doc pm an cdv ct)
theorem bQ {x qual:Str} {st:Stmt} {f:Addr} {oc:Value} {od an:Option Addr} {osl:Array (Option Value)} {kV doc pm cdv ct:Value} (l:K.lookup f=some ⟨oc,od,.func (PySem.W.fnOf x qual (au st) (ao st) (ak st) .none kV doc pm an cdv ct),osl⟩)
    (c:PySem.W.codeIn K cdv qual=true) (k:PySem.W.keepIn K (.ref f)=true):Fun K x qual st f (PySem.W.fnOf x qual (au st) (ao st) (ak st) .none kV doc pm an cdv ct):=⟨⟨oc,od,kV,doc,pm,an,cdv,ct,osl,rfl,l,c⟩,k⟩
section
variable {X:Cx}
theorem pv (i:Nat) {x:Str} {pos:Pos} (hN:X.N[i]?=some x:=by rfl) (hv:Vis X.env.scope x:=by first | exact Or.inl rfl | exact Or.inr (Or.inl rfl) | exact Or.inr (Or.inr rfl)) (hd:(x == ("__debug__":Str))=false:=by decide)
    (hcd:(x == ("__classdict__":Str))=false:=by decide):PE X (.Name x pos) (Mx i):=GK hN hv hd hcd
end
theorem lB {A B:Prop} (h:B):if false=true then A else B:=by
  rw [if_neg Bool.false_ne_true]
  exact h
theorem pK {A B:Prop} (h:A):if true=true then A else B:=by
  rw [if_pos rfl]
  exact h
theorem MF {c A B:Prop} [Decidable c] (h1:c→A) (h2:¬ c→B):if c then A else B:=by
  by_cases h:c
  · rw [if_pos h]
    exact h1 h
  · rw [if_neg h]
    exact h2 h
theorem Nt {c A B:Prop} [Decidable c] (hc:c) (h:B):if (!decide c)=true then A else B:=by
  rw [decide_eq_true hc]
  exact lB h
def Same (H H':Hp):Prop:=∀ b o,H b=some o→H' b=some o
theorem Same.refl (H:Hp):Same H H:=fun _ _ h=>h
theorem Same.free {H H':Hp} (e:Same H H') {l:Addr} (h:H' l=Option.none):H l=Option.none:=by
  cases q:H l with
  | none=>rfl
  | some o =>
    rw [e l o q] at h
    cases h
theorem Same.seq {K:PySem.W.Frag} {H H':Hp} {a:Addr} {xs:List V} (e:Same H H') (h:SqL K H a xs):SqL K H' a xs:=by
  rcases h with (h | ⟨o,h⟩) | h
  · exact .inl (.inl (e _ _ h))
  · exact .inl (.inr ⟨o,e _ _ h⟩)
  · exact .inr h
end L2
namespace L2
open PySem PySem.Spec PyProof.Rows
def clo (cells:List (Str × Addr)):List (Str × NameKind)→List (Str × Addr)→List (Str × Addr)
  | [],cs=>cs
  | (n,k) :: r,cs=>clo cells r (if k == .free then (n,(cells.lookup n).getD 0) :: cs else cs)
theorem uQ {env:Env}:∀ (names:List (Str × NameKind)) (cs:List (Str × Addr)),(∀ y∈names,y.2=.free→∃ c,env.cells.lookup y.1=some c) →
    (forIn names cs fun (x:Str × NameKind) (r:List (Str × Addr))=>(do
      let cs:=r
      match x with
      | (name,kind) =>
        if kind == .free then do
          let c ← cellOf env name
          let cs:=(name,c) :: cs
          pure (ForInStep.yield cs)
        else pure (ForInStep.yield cs):Sem (ForInStep (List (Str × Addr)))))=pure (clo env.cells names cs)
  | [],cs,_=>rfl
  | (n,k) :: r,cs,h=>by
    rw [List.forIn_cons]
    by_cases hk:k=.free
    · subst hk
      obtain ⟨c,hc⟩:=h (n,.free) List.mem_cons_self rfl
      have e:cellOf env n=pure c:=by unfold cellOf;rw [hc]
      simp only [beq_self_eq_true,if_true,e,pure_bind]
      rw [uQ r _ fun y hy=>h y (List.mem_cons_of_mem _ hy)]
      simp [clo,hc]
    · have hb:(k == NameKind.free)=false:=by simpa using hk
      simp only [hb,Bool.false_eq_true,if_false,pure_bind]
      rw [uQ r _ fun y hy=>h y (List.mem_cons_of_mem _ hy)]
      simp [clo,hb]
theorem lC {env:Env} {scope:Scope} (h:∀ y∈scope.names,y.2=.free→∃ c,env.cells.lookup y.1=some c):closureFor scope env=pure (clo env.cells scope.names []):=by
  unfold closureFor
  have e:=uQ (env:=env) scope.names [] h
  first
    | (rw [← e];rfl)
    | (simp only [bind_pure];exact e)
    | exact e
theorem uP {cells:List (Str × Addr)}:∀ (names:List (Str × NameKind)) (cs:List (Str × Addr)) (p:Str × Addr),p∈clo cells names cs→p∈cs∨p.2=(cells.lookup p.1).getD 0
  | [],_,_,h=>.inl h
  | (n,k) :: r,cs,p,h=>by
    rcases uP r _ p h with h' | h'
    · by_cases hk:(k == NameKind.free)=true
      · rw [if_pos hk] at h'
        rcases List.mem_cons.mp h' with e | e
        · subst e;exact .inr rfl
        · exact .inl e
      · rw [if_neg hk] at h';exact .inl h'
    · exact .inr h'
theorem qJ {cells:List (Str × Addr)}:∀ (names:List (Str × NameKind)) (cs:List (Str × Addr)) (x:Str),(cs.lookup x).isSome=true→((clo cells names cs).lookup x).isSome=true
  | [],_,_,h=>h
  | (n,k) :: r,cs,x,h=>by
    refine qJ r _ x ?_
    by_cases hk:(k == NameKind.free)=true
    · rw [if_pos hk]
      rw [List.lookup_cons]
      cases x == n with
      | true=>rfl
      | false=>exact h
    · rw [if_neg hk];exact h
theorem pN {cells:List (Str × Addr)}:∀ (names:List (Str × NameKind)) (cs:List (Str × Addr)) (x:Str),(x,NameKind.free)∈names→((clo cells names cs).lookup x).isSome=true
  | [],_,_,h=>nomatch h
  | (n,k) :: r,cs,x,h=>by
    show ((clo cells r _).lookup x).isSome=true
    rcases List.mem_cons.mp h with e | e
    · have e1:x=n:=congrArg Prod.fst e
      have e2:NameKind.free=k:=congrArg Prod.snd e
      subst e1
      subst e2
      refine qJ r _ x ?_
      rw [if_pos (by decide),List.lookup_cons]
      simp
    · exact pN r _ x e
theorem FP {cells:List (Str × Addr)} {names:List (Str × NameKind)} {x:Str} {c:Addr} (h:(clo cells names []).lookup x=some c):c=(cells.lookup x).getD 0:=by
  rcases uP names [] _ (PySem.mem_of_lookup h) with z | z
  · exact nomatch z
  · exact z
theorem qK {cells:List (Str × Addr)}:∀ {names:List (Str × NameKind)} (cs:List (Str × Addr)) {p:Str × Addr},p∈clo cells names cs→p∈cs∨(p.1,NameKind.free)∈names
  | [],_,_,h=>.inl h
  | (n,k) :: r,cs,p,h=>by
    rcases qK (names:=r) _ h with h' | h'
    · by_cases hk:(k == NameKind.free)=true
      · rw [if_pos hk] at h'
        rcases List.mem_cons.mp h' with e | e
        · subst e
          have:k=.free:=by simpa using hk
          subst this
          exact .inr List.mem_cons_self
        · exact .inl e
      · rw [if_neg hk] at h';exact .inl h'
    · exact .inr (List.mem_cons_of_mem _ h')
def iV (X:Cx) (scope:Scope) (N:List Str) (s:Shared) (H:Hp) (ex:List Addr):Cx :=
  { X with N:=N,s₀:=s,H₀:=H,env:=compEnvC scope (clo X.env.cells scope.names []) s.heap.objs.size X.env,outer:=X.stack,stack:=X.stack,ex:=ex,fn:=fun x=>((clo X.env.cells scope.names []).lookup x).isNone,pn:=[],xe:=fun _ _=>False }
def freeOk (sc scope:Scope):Bool:=scope.names.all fun y=>(y.2 != .free) || (sc.names.lookup y.1 == some .cell) || (sc.names.lookup y.1 == some .free)
def vD (scope:Scope):Bool:=(scope.kind == .function) && (scope.names.all fun y=>y.2 != .cell) && (scope.names.all fun y=>y.2 != .local || scope.names.lookup y.1 == some .local)
def wI (scope:Scope) (N N':List Str) (cap:List (Option Nat)):Bool:=(cap.length == N'.length) && (N'.zip cap).all fun p=>match p.2 with
  | none=>true
  | some j=>N[j]? == some p.1 && scope.names.lookup p.1 == some .free
def uR (cap:List (Option Nat)) (σ:St):St:=cap.map fun o=>o.bind fun j=>(σ[j]?).bind id
theorem iY {f:Str × NameKind→Str × NameKind} (hf:∀ y,(f y).1=y.1) (x:Str):∀ names:List (Str × NameKind),(names.map f).lookup x=(names.lookup x).map fun k=>(f (x,k)).2
  | []=>rfl
  | (n,k) :: r=>by
    have ih:=iY hf x r
    have e1:(f (n,k)).1=n:=hf (n,k)
    have e2:f (n,k)=(n,(f (n,k)).2):=Prod.ext e1 rfl
    rw [List.map_cons,e2,List.lookup_cons,List.lookup_cons]
    cases hx:x == n with
    | true =>
      have:x=n:=by simpa using hx
      subst this
      rfl
    | false=>exact ih
def rlb (env:Env):Str × NameKind→Str × NameKind:=fun (n,k)=>if (k == NameKind.free && env.scope.kind == .function && env.kindOf n == some .cell) then (n,NameKind.cell) else (n,k)
theorem sO (env:Env) (y:Str × NameKind):(rlb env y).1=y.1:=by
  obtain ⟨n,k⟩:=y
  unfold rlb
  dsimp only
  split <;> rfl
theorem sJ (env:Env) (n:Str) (k:NameKind):(rlb env (n,k)).2=k∨((rlb env (n,k)).2=.cell∧k=.free):=by
  unfold rlb
  dsimp only
  split
  · rename_i h
    rw [Bool.and_eq_true,Bool.and_eq_true] at h
    exact .inr ⟨rfl,by simpa using h.1.1⟩
  · exact .inl rfl
theorem ji (scope:Scope) (env:Env):(relabel scope env).names=scope.names.map (rlb env):=rfl
theorem nP {scope:Scope} {env:Env} {x:Str} (h:scope.names.lookup x=some .free):(relabel scope env).names.lookup x=some .cell∨(relabel scope env).names.lookup x=some .free:=by
  rw [ji,iY (sO env),h]
  rcases sJ env x .free with e | ⟨e,_⟩
  · exact .inr (congrArg some e)
  · exact .inl (congrArg some e)
theorem jB {scope:Scope} {env:Env} {x:Str} {k':NameKind} (hk:k'=.cell∨k'=.free) (hn:∀ y∈scope.names,y.2≠.cell) (h:(relabel scope env).names.lookup x=some k'):(x,NameKind.free)∈scope.names:=by
  rw [ji,iY (sO env)] at h
  cases e:scope.names.lookup x with
  | none=>rw [e] at h;cases h
  | some k =>
    rw [e] at h
    have h':(rlb env (x,k)).2=k':=Option.some.inj h
    have hm:=PySem.mem_of_lookup e
    rcases sJ env x k with z | ⟨_,z⟩
    · rw [z] at h'
      subst h'
      rcases hk with z2 | z2
      · exact absurd z2 (hn _ hm)
      · rw [z2] at hm;exact hm
    · rw [z] at hm;exact hm
def PTs (X:Cx) (ifs:List Expr) (t:TT):Prop :=
  ∀ (pins:List (Addr × Obj)) (s:Shared) (σ:St) (H:Hp) (Q:Bool→Hp→Prop),Inv X pins σ H s→t σ H Q →
    wpAny (model X.prog X.w) X.A (forIn ifs true fun c r=>if r=true then do let ok ← isTrue c X.env (eval c X.env);pure (ForInStep.yield ok) else pure (ForInStep.yield r)) (TP X pins σ Q) X.xe s
def M5:TT:=fun _ H Q=>Q true H
theorem Gg {i:Nat} {x:V} {τ:St} {H:Hp} {A B:St→Hp→Prop} (h:A (τ.set i (some x)) H):wA i x τ H fun τ4 H4=>M5 τ4 H4 fun b H5=>if b=true then A τ4 H5 else B τ4 H5:=by
  show if true=true then A (τ.set i (some x)) H else B (τ.set i (some x)) H
  rw [if_pos rfl];exact h
theorem iW {X:Cx}:PTs X [] M5:=fun _ _ _ H _ I h=>wpAny_tests_nil ⟨H,I,h⟩
theorem pq {X:Cx} {c:Expr} {t:TT} (h:PT X c t):PTs X [c] t:=fun pins s σ H Q I hq=>wpAny_tests_one (h pins s σ H Q I hq)
def lJ (J:It) (acc:Addr) (g:TG) (tc:TT) (te:TE) (τ:St) (H1:Hp) (Q:Hp→Prop):Prop :=
  ∃ W:Nat→Nat→St→Hp→Prop,(∃ m,W 0 m τ (upd H1 acc (.lst [])))∧∀ i m τ H2,W i m τ H2→(J.stop i H2∧Q H2)∨(J.go i H2∧∃ N:St→Hp→Prop,(∀ τ' H',N τ' H'→∃ m',m'<m∧W (i + 1) m' τ' H')∧∀ x H3,J.yld i H2 x H3→g x τ H3 fun τ4 H4 =>
    tc τ4 H4 fun b H5=>if b=true then te τ4 H5 fun y H6=>∃ ys,H6 acc=some (.lst ys)∧ys.length<sizeLine∧N τ4 (upd H6 acc (.lst (ys++[y]))) else N τ4 H5)
theorem iK {lo:Int} {n:Nat} {acc:Addr} {g:TG} {tc:TT} {te:TE} {τ:St} {H1:Hp} {Q:Hp→Prop} (Pv:Nat→St→Hp→Prop) (h0:Pv 0 τ (upd H1 acc (.lst [])))
    (hs:∀ i τ H,i<n→Pv i τ H→g (.int (lo + i)) τ H fun τ4 H4=>tc τ4 H4 fun b H5=>if b=true then te τ4 H5 fun y H6=>∃ ys,H6 acc=some (.lst ys)∧ys.length<sizeLine∧Pv (i + 1) τ4 (upd H6 acc (.lst (ys++[y]))) else Pv (i + 1) τ4 H5)
    (hd:∀ τ H,Pv n τ H→Q H):lJ (Itr lo n) acc g tc te τ H1 Q:=by
  refine ⟨fun i m τ H=>m=n - i∧i≤n∧Pv i τ H,⟨n,by simp,Nat.zero_le _,h0⟩,?_⟩
  rintro i m τ H ⟨rfl,hi,p⟩
  by_cases hlt:i<n
  · refine .inr ⟨hlt,Pv (i + 1),fun τ' H' p'=>⟨n - (i + 1),by omega,rfl,hlt,p'⟩,fun x H' y=>?_⟩
    obtain ⟨e,y⟩:=y
    subst e y
    exact hs i τ _ hlt p
  · have e:i=n:=by omega
    subst e
    exact .inl ⟨Nat.le_refl _,hd τ H p⟩
theorem oF {K:PySem.W.Frag} {a:Addr} {xs:List V} {acc:Addr} {g:TG} {tc:TT} {te:TE} {τ:St} {H1:Hp} {Q:Hp→Prop} (Pv:Nat→St→Hp→Prop) (h0:Pv 0 τ (upd H1 acc (.lst []))) (hl:∀ i τ H,i≤xs.length→Pv i τ H→SqL K H a xs)
    (hs:∀ i x τ H,xs[i]?=some x→Pv i τ H→g x τ H fun τ4 H4=>tc τ4 H4 fun b H5=>if b=true then te τ4 H5 fun y H6=>∃ ys,H6 acc=some (.lst ys)∧ys.length<sizeLine∧Pv (i + 1) τ4 (upd H6 acc (.lst (ys++[y]))) else Pv (i + 1) τ4 H5)
    (hd:∀ τ H,Pv xs.length τ H→Q H):lJ (Itl K a) acc g tc te τ H1 Q:=by
  refine ⟨fun i m τ H=>m=xs.length - i∧i≤xs.length∧Pv i τ H,⟨xs.length,by simp,Nat.zero_le _,h0⟩,?_⟩
  rintro i m τ H ⟨rfl,hi,p⟩
  have q:=hl i τ H hi p
  by_cases hlt:i<xs.length
  · refine .inr ⟨⟨xs,xs[i],q,by simp [hlt]⟩,Pv (i + 1),fun τ' H' p'=>⟨xs.length - (i + 1),by omega,rfl,hlt,p'⟩,fun x H' y=>?_⟩
    obtain ⟨e,y⟩:=y
    subst e
    exact hs i x τ _ (y xs q) p
  · have e:i=xs.length:=by omega
    subst e
    exact .inl ⟨⟨xs,q,Nat.le_refl _⟩,hd τ H p⟩
def Ey (wi:TI) (cap:List (Option Nat)) (g:TG) (tc:TT) (te:TE):TE:=fun σ H Q=>wi σ H fun J H1=>∀ acc,H1 acc=none→lJ J acc g tc te (uR cap σ) H1 (fun H2=>Q (.ref acc) H2)
abbrev Mq (ifs:List Expr) (env:Env):Sem Bool:=forIn ifs true fun c r=>if r=true then do let ok ← isTrue c env (eval c env);pure (ForInStep.yield ok) else pure (ForInStep.yield r)
abbrev wpQ {α:Type} (prog:Program) (w:World) (A:Around) (m:Sem α) (Q:α→Shared→Prop) (s:Shared):Prop:=wpAny (model prog w) A m Q (fun _ _=>False) s
theorem uO {prog:Program} {w:World} {A:Around} {R:Result→Shared→Prop} {s:Shared} {elt target iter:Expr} {ifs:List Expr} {scope:Scope} {pos:Pos} {it acc:Value} {env:Env} (I:Nat→Shared→Prop)
    (turn:∀ k s0,I k s0→wpQ prog w A (pyNext it) (fun r s1=>(r=none∧R (.ok .next) s1)∨∃ v,r=some v ∧
      wpQ prog w A (letOwnedTupleGo target it v) (fun _ s2=>wpQ prog w A (assign target env v) (fun _ s3=>wpQ prog w A (Mq ifs env) (fun ok s4 =>
        (ok=false∧∃ m,m<k∧I m s4)∨(ok=true∧wpQ prog w A (eval elt env) (fun x s5=>wpQ prog w A (call (.builtin "list.append") [acc,x]) (fun _ s6=>∃ m,m<k∧I m s6) s5) s4)) s3) s2) s1) s0)
    (k:Nat) (h:I k s):codeAny (model prog w) A (.compLoop (.ListComp elt [⟨target,iter,ifs,0⟩] scope pos) 0 it acc env) R s:=by
  have quiet:∀ (e:Value) (s':Shared),False→notedBy (model prog w) A env (fun e s'=>R (.error e) s') e s':=fun _ _ z=>z.elim
  apply codeAny_loop rfl I _ k h
  intro k s0 start
  apply wpAny_noted
  rw [compTurn_list]
  apply wpAny_bind
  apply wpAny_standAt
  apply wpAny_bind
  apply wpAny_mono (turn k s0 start) _ quiet
  rintro r s1 (⟨rfl,stop⟩ | ⟨v,rfl,rest⟩)
  · exact wpAny_pure stop
  apply wpAny_bind
  apply wpAny_mono rest _ quiet
  intro _ s2 h2
  apply wpAny_bind
  apply wpAny_mono h2 _ quiet
  intro _ s3 h3
  apply wpAny_bind
  apply wpAny_mono h3 _ quiet
  rintro ok s4 (⟨rfl,skip⟩ | ⟨rfl,add⟩)
  · exact wpAny_pure ⟨rfl,skip⟩
  apply wpAny_bind
  apply wpAny_bind
  apply wpAny_mono add _ quiet
  intro x s5 h5
  apply wpAny_bind
  apply wpAny_mono h5 _ quiet
  intro _ s6 h6
  exact wpAny_pure (wpAny_pure ⟨rfl,h6⟩)
section
variable {X:Cx} {tg iter elt:Expr} {ifs:List Expr} {scope:Scope} {pos:Pos} {wi:TI} {N':List Str} {cap:List (Option Nat)} {g:TG} {tc:TT} {te:TE}
theorem lX {use:Option (Value→Sem Unit)} {R:Value→Shared→Prop} (sc:Scope) (hsc:X.env.scope=sc) (N₀:List Str) (hN₀:X.N=N₀) (f1:freeOk sc scope=true) (f2:vD scope=true) (f3:wI scope N₀ N' cap=true) (hcalm:X.calm=true)
    (hi:PI X tg iter wi)
    (hg:∀ (s:Shared) (H:Hp) (ex:List Addr),PG (iV X scope N' s H ex) tg g)
    (hc:∀ (s:Shared) (H:Hp) (ex:List Addr),PTs (iV X scope N' s H ex) ifs tc)
    (he:∀ (s:Shared) (H:Hp) (ex:List Addr),PE (iV X scope N' s H ex) elt te)
    (hs:∀ x,foldedSetIterable iter X.env x=pure x)
    {pins:List (Addr × Obj)} {s:Shared} {σ:St} {H:Hp} {Q:V→Hp→Prop} (I:Inv X pins σ H s) (h:Ey wi cap g tc te σ H Q)
    (fin:∀ (acc C:Addr) (s':Shared) (H':Hp) (m:Str→Option Value),Inv X pins σ H' s'→s'.heap.Ns C m→H' C=none→C≠X.env.locals→X.s₀.heap.objs.size≤C→(∀ x c,X.env.cells.lookup x=some c→c≠C)→(∀ p∈X.pn++pins,p.1≠C)→Q (.ref acc) H' →
      compPost (model X.prog X.w) X.A X.xe use R (.ref acc) C (.ok .next) s') :
    wpAny (model X.prog X.w) X.A (comprehension (.ListComp elt [⟨tg,iter,ifs,0⟩] scope pos) scope X.env (firstIterPos [⟨tg,iter,ifs,0⟩] pos) (newList []) false (firstIter [⟨tg,iter,ifs,0⟩] X.env) use) R X.xe s:=by
  have ok:=I.ok
  have fr:∀ y∈scope.names,y.2=.free→X.env.kindOf y.1=some .cell∨X.env.kindOf y.1=some .free:=fun y hy e=>by
    have q:=List.all_eq_true.mp f1 y hy
    rw [e] at q
    have q':((sc.names.lookup y.1 == some NameKind.cell) || (sc.names.lookup y.1 == some NameKind.free))=true:=by simpa using q
    rw [Bool.or_eq_true] at q'
    unfold Env.kindOf
    rw [hsc]
    rcases q' with z | z
    · exact .inl (by simpa using z)
    · exact .inr (by simpa using z)
  obtain ⟨⟨k1,k2⟩,k3⟩:((scope.kind == .function)=true∧(scope.names.all fun y=>y.2 != .cell)=true)∧(scope.names.all fun y=>y.2 != .local || scope.names.lookup y.1 == some .local)=true:=by
    unfold vD at f2
    rw [Bool.and_eq_true,Bool.and_eq_true] at f2
    exact f2
  have hkind:scope.kind=.function:=by simpa using k1
  have hcell:∀ y∈scope.names,y.2≠.cell:=fun y hy=>by
    have q:=List.all_eq_true.mp k2 y hy
    simpa using q
  have hnames:∀ y∈scope.names,y.2=.local→scope.names.lookup y.1=some .local:=fun y hy e=>by
    have q:=List.all_eq_true.mp k3 y hy
    rw [e] at q
    simpa using q
  have hclos:closureFor scope X.env=pure (clo X.env.cells scope.names []):=lC fun y hy e=>ok.has y.1 (fr y hy e)
  have clX:∀ x c,(clo X.env.cells scope.names []).lookup x=some c→X.env.cells.lookup x=some c:=fun x c e=>by
    have e1:=FP e
    have hx:(x,NameKind.free)∈scope.names:=by
      rcases qK [] (PySem.mem_of_lookup e) with z | z
      · exact nomatch z
      · exact z
    obtain ⟨c',e2⟩:=ok.has x (fr (x,.free) hx rfl)
    rw [e2] at e1 ⊢
    rw [e1];rfl
  refine wpAny_comprehension_free (use:=use) rfl hs hclos hkind hnames ?_
  show wpAny (model X.prog X.w) X.A (eval iter X.env) _ X.xe s
  refine thn (hi pins s σ H _ I h) fun v s1 h1=>thn h1 fun itv s2 h2=>?_
  obtain ⟨it,fp,tn,J,H2,e,I2,T,st2,f2',h3⟩:=h2
  subst e
  refine wpAny_newObj_type ?_
  have fresh2:H2 s2.heap.objs.size=none:=I2.hok.fresh (Nat.le_refl _)
  have I3:Inv X pins σ (upd H2 s2.heap.objs.size (.lst [])) { s2 with heap:=s2.heap.push { cls:=.type "list",data:=.seq ([]:List Value).toArray } } :=
    I2.laid (t':=s2.toks) (fun b o e=>Heap.get?_push_of_some _ e) (Nat.le_refl _) ⟨Nat.zero_le _,[],0,.nil,Heap.get?_push_size _ rfl⟩
  have st3:tn 0 (s2.heap.push { cls:=.type "list",data:=.seq ([]:List Value).toArray }):=T.keep _ _ _ st2 fun b _ o e=>Heap.get?_push_of_some _ e
  have fpne:∀ b∈fp,b≠s2.heap.objs.size:=fun b hb z=>by
    obtain ⟨o,eo,_⟩:=T.obj 0 _ st2 b hb
    exact absurd (Heap.lt_size eo) (by rw [z];exact Nat.lt_irrefl _)
  have fp3:∀ b∈fp,wM X pins (upd H2 s2.heap.objs.size (.lst [])) b:=fun b hb=>by
    obtain ⟨a0,a1⟩:=f2' b hb
    exact ⟨by rw [aR (fpne b hb)];exact a0,a1⟩
  obtain ⟨W,⟨m0,w0⟩,turn⟩:=h3 s2.heap.objs.size fresh2
  generalize hacc:s2.heap.objs.size=acc at I3 fp3 w0 turn fpne ⊢
  generalize hs3:({ s2 with heap:=s2.heap.push { cls:=.type "list",data:=.seq ([]:List Value).toArray } }:Shared)=s3 at I3 ⊢
  have st3:tn 0 s3.heap:=by rw [← hs3];exact st3
  have accTr:(upd H2 acc (.lst [])) acc=some (.lst []):=cB
  refine wpAny_newFunctionEnv hcell (by intro y hy;cases hy) (fun h4 hns hsb=>?_) hkind
  have hCf:s3.heap.get? s3.heap.objs.size=none:=Heap.get?_none_of_le (Nat.le_refl _)
  have kp4:∀ b o,s3.heap.get? b=some o→h4.get? b=some o:=fun b o e=>hsb.extBut b o (Nat.ne_of_lt (Heap.lt_size e)) (Heap.get?_push_of_some _ e)
  let Y:Cx:=iV X scope N' s3 (upd H2 acc (.lst [])) fp
  have envY:Y.env=compEnvC scope (clo X.env.cells scope.names []) s3.heap.objs.size X.env:=rfl
  have okY:Y.Ok:=by
    refine ⟨ok.mod,?_,ok.glob,ok.blt,Nat.le_refl _,?_,?_,?_,ok.hd,ok.frames,.inl rfl,?_,?_,?_,?_,?_,?_,?_⟩
    · show (relabel scope X.env).kind=.function
      exact hkind
    · exact fun x y c h1 h2=>ok.inj x y c (clX x c h1) (clX y c h2)
    · intro x hx
      have hx':(relabel scope X.env).names.lookup x=some .cell∨(relabel scope X.env).names.lookup x=some .free:=hx
      have hm:(x,NameKind.free)∈scope.names:=by
        rcases hx' with z | z
        · exact jB (.inl rfl) hcell z
        · exact jB (.inr rfl) hcell z
      exact Option.isSome_iff_exists.mp (pN scope.names [] x hm)
    · intro x c hx h1
      have hx':((clo X.env.cells scope.names []).lookup x).isNone=true:=hx
      have h1':(clo X.env.cells scope.names []).lookup x=some c:=h1
      rw [h1'] at hx';cases hx'
    · intro b hb
      obtain ⟨q0,q1,q2,q3,q4,q5⟩:=fp3 b hb
      refine ⟨?_,fun x c h1=>q4 x c (clX x c h1)⟩
      obtain ⟨o,eo,_⟩:=T.obj 0 _ st3 b hb
      exact Nat.ne_of_lt (Heap.lt_size eo)
    · exact fun b o e=>I3.bs b o e
    · exact Nat.le_trans ok.bsz I3.sz
    · intro b o e hb
      obtain ⟨q0,q1,q2,q3,q4,q5⟩:=fp3 b hb
      rcases q3 with z | z
      · exact ok.noex b o e z
      · exact absurd (Nat.lt_of_lt_of_le (Heap.lt_size e) (Nat.le_trans ok.bsz z)) (Nat.lt_irrefl _)
    · intro b hb hf
      obtain ⟨q0,q1,q2,q3,q4,q5⟩:=fp3 b hb
      rcases List.mem_cons.mp (I3.rQ b hf) with z | z
      · exact q1 z
      · exact q2 z
    · exact I3.stack
    · exact I3.oX
  have capl:cap.length=N'.length∧∀ p∈N'.zip cap,(match p.2 with | none=>true | some j=>N₀[j]? == some p.1 && scope.names.lookup p.1 == some .free)=true:=by
    unfold wI at f3
    rw [Bool.and_eq_true] at f3
    exact ⟨by simpa using f3.1,fun p hp=>List.all_eq_true.mp f3.2 p hp⟩
  have IY:Inv Y [] (uR cap σ) (upd H2 acc (.lst [])) { s3 with heap:=h4,toks:=s3.toks + ([]:List (Str × Value)).length }:=by
    refine ⟨okY,rfl,I3.bare,Un.kept kp4,⟨_,hns,?_⟩,?_,?_,?_,fun p hp=>absurd (show p∈([]:List (Addr × Obj)) from hp) (by simp),I3.hok.kept kp4,?_⟩
    · intro i x v e1 e2 e3
      have e1':N'[i]?=some x:=e1
      unfold uR at e2
      rw [List.getElem?_map] at e2
      cases ec:cap[i]? with
      | none=>rw [ec] at e2;cases e2
      | some o =>
        rw [ec] at e2
        cases o with
        | none=>cases e2
        | some j =>
          have e2':(σ[j]?).bind id=some v:=by simpa using e2
          have hz:(x,some j)∈N'.zip cap:=by
            refine List.mem_of_getElem? (i:=i) ?_
            rw [List.getElem?_zip_eq_some]
            exact ⟨e1',ec⟩
          have q:=capl.2 _ hz
          have q':(N₀[j]? == some x)=true∧(scope.names.lookup x == some NameKind.free)=true:=by simpa [Bool.and_eq_true] using q
          have q1:X.N[j]?=some x:=by rw [hN₀];simpa using q'.1
          have q2:scope.names.lookup x=some .free:=by simpa using q'.2
          have eσ:σ[j]?=some (some v):=by
            cases z:σ[j]? with
            | none=>rw [z] at e2';cases e2'
            | some y =>
              rw [z] at e2'
              have:y=some v:=e2'
              rw [this]
          have hk:=fr (x,.free) (PySem.mem_of_lookup q2) rfl
          obtain ⟨m,hn,hl⟩:=I3.loc
          have vis:Vis X.env.scope x:=by
            rcases hk with z | z
            · exact .inr (.inl z)
            · exact .inr (.inr z)
          obtain ⟨u,r,l⟩:=hl j x v q1 eσ vis
          refine ⟨u,r,.inr ⟨?_,?_⟩⟩
          · rcases nP (scope:=scope) (env:=X.env) q2 with z | z
            · exact .inl z
            · exact .inr z
          · rcases l with ⟨kl,_⟩ | ⟨_,c,ecx,hcx⟩
            · rcases hk with z | z
              · have z':X.env.kindOf x=some .cell:=z
                rw [kl] at z';cases z'
              · have z':X.env.kindOf x=some .free:=z
                rw [kl] at z';cases z'
            · have hh:=pN (cells:=X.env.cells) scope.names [] x (PySem.mem_of_lookup q2)
              obtain ⟨c',ec'⟩:=Option.isSome_iff_exists.mp hh
              have ec2:=clX x c' ec'
              rw [ecx] at ec2
              cases ec2
              exact ⟨c,ec',hcx.keeps kp4⟩
    · intro x c e
      obtain ⟨v,z⟩:=I3.cell x c (clX x c e)
      exact ⟨v,z.keeps kp4⟩
    · exact I3.hok.fresh (Nat.le_refl _)
    · exact fun x c e=>I3.freeC x c (clX x c e)
    · show (uR cap σ).length=N'.length
      unfold uR
      rw [List.length_map];exact capl.1
  have fpY:∀ {H':Hp},(∀ b∈fp,H' b=none)→∀ b∈fp,wM Y [] H' b:=fun {H'} hn b hb=>by
    obtain ⟨q0,q1,q2,q3,q4,q5⟩:=fp3 b hb
    refine ⟨hn b hb,(okY.exf b hb).1,okY.exfs b hb,.inl hb,(okY.exf b hb).2,fun p hp=>absurd (show p∈([]:List (Addr × Obj)) from hp) (by simp)⟩
  have st4:tn 0 h4:=T.keep _ _ _ st3 fun b _ o e=>kp4 b o e
  have back:∀ {τ:St} {H':Hp} {s':Shared},Inv Y [] τ H' s'→Q (.ref acc) H'→compPost (model X.prog X.w) X.A X.xe use R (.ref acc) s3.heap.objs.size (.ok .next) s':=fun {τ H' s'} J q=>by
    have un:Un (frs X.stack) fp (upd H2 acc (.lst [])) H' s3.heap s'.heap:=J.base
    have IX:Inv X pins σ H' s':=I3.call' (J.os) un J.hok J.bare fun b hb=>by
      obtain ⟨q0,q1,q2,q3,q4,q5⟩:=fp3 b hb
      exact ⟨q3,q1,q4,q5⟩
    obtain ⟨m,hn,_⟩:=J.loc
    refine fin acc s3.heap.objs.size s' H' m IX hn J.free (Nat.ne_of_gt I3.lt) I3.sz (fun x c e z=>?_) (fun p hp z=>?_) q
    · obtain ⟨v,q⟩:=I3.cell x c e
      exact absurd q.lt (by rw [z];exact Nat.lt_irrefl _)
    · exact absurd (Heap.lt_size (I3.pin p hp).1) (by rw [z];exact Nat.lt_irrefl _)
  have loop:∀ s5:Shared,s5={ s3 with heap:=h4,toks:=s3.toks + ([]:List (Str × Value)).length } →
      codeAny (model X.prog X.w) X.A (.compLoop (.ListComp elt [⟨tg,iter,ifs,0⟩] scope pos) 0 (.ref it) (.ref acc) Y.env) (compPost (model X.prog X.w) X.A X.xe use R (.ref acc) s3.heap.objs.size) s5:=by
    rintro s5 rfl
    refine uO (fun n s'=>∃ i τ H',Inv Y [] τ H' s'∧tn i s'.heap∧(∀ b∈fp,H' b=none)∧W i n τ H') ?_ m0 ⟨0,_,_,IY,st4,fun b hb=>(fp3 b hb).1,w0⟩
    rintro n s6 ⟨i,τ,H6,I6,st6,fr6,w6⟩
    rcases turn i n τ H6 w6 with ⟨stop,q⟩ | ⟨go,N,hN,step⟩
    · refine wpAny_mono (T.done Y rfl rfl rfl hcalm i [] s6 τ H6 (fun _ _=>False) I6 (fpY fr6) st6 stop) (fun r s7 ⟨hr,I7⟩=>?_) fun _ _ z=>z.elim
      exact .inl ⟨hr,back I7 q⟩
    · refine wpAny_mono (T.item Y rfl rfl rfl hcalm i [] s6 τ H6 (fun _ _=>False) I6 (fpY fr6) st6 go) (fun r s6b ⟨u,hr,h7⟩=>?_) fun _ _ z=>z.elim
      refine .inr ⟨u,hr,?_⟩
      refine wpAny_mono h7 (fun _ s7 ⟨x,H7,I7,r7,y7,st7,fr7⟩=>?_) fun _ _ z=>z.elim
      have I7':=I7.pinned (fpY fr7) (T.obj _ _ st7)
      have again:∀ {τ8:St} {H8:Hp} {s8:Shared},Inv Y ([]++nU fp s7.heap) τ8 H8 s8→N τ8 H8→∃ m,m<n∧∃ i τ H',Inv Y [] τ H' s8∧tn i s8.heap∧(∀ b∈fp,H' b=none)∧W i m τ H':=fun {τ8 H8 s8} I8 n8=>by
        obtain ⟨m',hm,w8⟩:=hN τ8 H8 n8
        refine ⟨m',hm,i + 1,τ8,H8,I8.jJ,T.keep _ _ _ st7 fun b hb o e=>(I8.pin (b,o) (List.mem_append_right _ (List.mem_append_right _ (iJ hb e)))).1,fun b hb=>?_,w8⟩
        obtain ⟨o,e,d⟩:=T.obj _ _ st7 b hb
        exact (I8.pin (b,o) (List.mem_append_right _ (List.mem_append_right _ (iJ hb e)))).2.1
      refine wpAny_mono (hg s3 (upd H2 acc (.lst [])) fp _ s7 τ H7 x u _ I7' r7 (step x H7 y7)) (fun _ s8 ⟨τ8,H8,I8,q8⟩=>?_) fun _ _ z=>z.elim
      refine wpAny_mono (hc s3 (upd H2 acc (.lst [])) fp _ s8 τ8 H8 _ I8 q8) (fun b s9 ⟨H9,I9,q9⟩=>?_) fun _ _ z=>z.elim
      cases b with
      | false =>
        rw [if_neg Bool.false_ne_true] at q9
        exact .inl ⟨rfl,again I9 q9⟩
      | true =>
        rw [if_pos rfl] at q9
        refine .inr ⟨rfl,?_⟩
        refine wpAny_mono (he s3 (upd H2 acc (.lst [])) fp _ s9 τ8 H9 _ I9 q9) (fun y s10 ⟨yv,H10,I10,r10,ys,hl,hz,q10⟩=>?_) fun _ _ z=>z.elim
        refine wpAny_mono (bJ (X:=Y) _ s10 τ8 H10 (.ref acc) [yv] (.ref acc) [y] (fun v H'=>N τ8 H') I10 rfl (.cons r10 .nil) ⟨acc,ys,yv,rfl,rfl,hl,hz,q10⟩) (fun v s11 ⟨vv,H11,I11,r11,q11⟩=>?_) fun _ _ z=>z.elim
        exact again I11 q11
  exact codeAny_compStart_list (loop _ rfl) (T.self _ _ _ _ _ st4 (loop _ rfl))
theorem gJ (sc:Scope) (hsc:X.env.scope=sc) (N₀:List Str) (hN₀:X.N=N₀) (N':List Str) (cap:List (Option Nat)) (f1:freeOk sc scope=true) (f2:vD scope=true) (f3:wI scope N₀ N' cap=true) (hcalm:X.calm=true)
    (hi:PI X tg iter wi)
    (hg:∀ (s:Shared) (H:Hp) (ex:List Addr),PG (iV X scope N' s H ex) tg g)
    (hc:∀ (s:Shared) (H:Hp) (ex:List Addr),PTs (iV X scope N' s H ex) ifs tc)
    (he:∀ (s:Shared) (H:Hp) (ex:List Addr),PE (iV X scope N' s H ex) elt te)
    (hs:∀ x,foldedSetIterable iter X.env x=pure x:=by intro _;rfl) :
    PE X (.ListComp elt [⟨tg,iter,ifs,0⟩] scope pos) (Ey wi cap g tc te):=by
  intro pins s σ H Q I h
  rw [eval_ListComp]
  refine lX (use:=none) sc hsc N₀ hN₀ f1 f2 f3 hcalm hi hg hc he hs I h ?_
  intro acc C s' H' m IX hn hC h1 h2 h3 h4 q
  refine ⟨m,hn,fun h'' hs''=>?_⟩
  exact ⟨.ref acc,H',IX.turned (t':=s'.toks) (fun b o hb e=>(hs''.2 b hb).trans e) hC h1 (.inr h2) h3 h4,rfl,q⟩
theorem qZ {i:Nat} {x:Str} {pos' spos:Pos} (sc:Scope) (hsc:X.env.scope=sc) (N₀:List Str) (hN₀:X.N=N₀) (N':List Str) (cap:List (Option Nat)) (f1:freeOk sc scope=true) (f2:vD scope=true) (f3:wI scope N₀ N' cap=true) (hcalm:X.calm=true)
    (hnd:X.N.Nodup) (hix:X.N[i]?=some x) (hx:X.env.scope.names.lookup x=some .local)
    (hi:PI X tg iter wi)
    (hg:∀ (s:Shared) (H:Hp) (ex:List Addr),PG (iV X scope N' s H ex) tg g)
    (hc:∀ (s:Shared) (H:Hp) (ex:List Addr),PTs (iV X scope N' s H ex) ifs tc)
    (he:∀ (s:Shared) (H:Hp) (ex:List Addr),PE (iV X scope N' s H ex) elt te)
    (hsw:swapsWith (.ListComp elt [⟨tg,iter,ifs,0⟩] scope pos) (some (.Name x pos')) spos.line X.env=pure true)
    (hs:∀ x,foldedSetIterable iter X.env x=pure x:=by intro _;rfl) :
    PS X (.Assign [.Name x pos'] (.ListComp elt [⟨tg,iter,ifs,0⟩] scope pos) spos) (Ni (Ey wi cap g tc te) (wA i)):=by
  intro pins s σ H D I h
  rw [exec_Assign_Name_used _ _ _ _ hsw]
  refine wpAny_bind (wpAny_standAt (wpAny_bind ?_))
  show wpAny _ X.A (do let _ ← comprehension (.ListComp elt [⟨tg,iter,ifs,0⟩] scope pos) scope X.env _ (newList []) false (firstIter [⟨tg,iter,ifs,0⟩] X.env) (some (assign (.Name x pos') X.env))) _ _ s
  refine wpAny_bind (wpAny_mono (lX (use:=some (assign (.Name x pos') X.env)) (R:=fun _ s'=>SP X pins D .next s') sc hsc N₀ hN₀ f1 f2 f3 hcalm hi hg hc he hs I h ?_) (fun _ s' hq=>wpAny_pure (wpAny_pure hq)) fun _ _ e=>e)
  intro acc C s' H' m IX hn hC h1 h2 h3 h4 q
  show wpAny _ X.A (assign (.Name x pos') X.env (.ref acc)) _ _ _
  refine wpAny_assign_Name (ni (v:=.ref acc) IX hnd hix (.inl hx) rfl (fun s2 I2 hsb=>?_) (.inr hx))
  obtain ⟨a,sb,ha⟩:=hsb
  have hCa:C≠a:=by
    rcases ha with z | z
    · rw [z];exact h1
    · exact fun w=>h3 x a z w.symm
  refine ⟨m,hn.sameBut sb hCa,fun h'' hs''=>?_⟩
  exact ⟨_,H',I2.turned (t':=s2.toks) (fun b o hb e=>(hs''.2 b hb).trans e) hC h1 (.inr h2) h3 h4,q⟩
end
end L2
namespace L2
open PySem PySem.Spec PyProof.Rows
section
variable {X:Cx}
def Qk (K:PySem.W.Frag) (neg:Bool):R2:=fun x y H Q=>∃ (a b:Addr) (ns ms:List Int),x=.ref a∧y=.ref b∧SqL K H a (ns.map V.int)∧SqL K H b (ms.map V.int)∧Q (.bl (if neg then !decide (ns=ms) else decide (ns=ms))) H
theorem jd:jH X (.builtin "isinstance") (fun xs H Q=>∃ x t c b,xs=[x,.ty c]∧qO X.K H x t∧PySem.W.kitOne X.K t (.type c)=some b∧Q (.bl b) H):=by
  intro pins s σ H xs us Q I r h
  obtain ⟨x,t,c,b,rfl,ty,e,q⟩:=h
  obtain ⟨u,w,rfl,ru,rw'⟩:=vals2 r
  obtain rfl:w=Value.type c:=rw'
  exact uy I ru ty e fun tk=>⟨.bl b,H,I.tok tk,rfl,q⟩
theorem qX:∀ (bs:List Bool),((List.range bs.length).all fun i=>(bs[i]?).getD true)=bs.all id:=by
  intro bs
  rw [Bool.eq_iff_iff]
  simp only [List.all_eq_true,List.mem_range,id_eq]
  constructor
  · intro h b hb
    obtain ⟨i,hi,e⟩:=List.getElem_of_mem hb
    have:=h i hi
    rw [List.getElem?_eq_getElem hi,e] at this
    exact this
  · intro h i hi
    rw [List.getElem?_eq_getElem hi]
    exact h _ (List.getElem_mem hi)
theorem jO (hc:X.calm=true):jH X (.builtin "all") (fun xs H Q=>∃ (p:Addr) (bs:List Bool),xs=[.ref p]∧SqL X.K H p (bs.map V.bl)∧Q (.bl (bs.all id)) H):=by
  intro pins s σ H xs us Q I r h
  obtain ⟨p,bs,rfl,hq,q⟩:=h
  obtain ⟨u,rfl,ru⟩:=vals1 r
  cases ru
  obtain ⟨its,r1,p1,hz⟩:=I.list hq
  have hl:=p1.isList
  have hlt:p<s.heap.objs.size:=p1.lt
  have hlen:=r1.length
  rw [List.length_map] at hlen
  refine call_all_walk (wpAny_pyIter_list hl ?_)
  refine ⟨s.heap.objs.size,[s.heap.objs.size,p],[s.heap.objs.size],its.toArray.size,_,_,fun i=>(bs[i]?).getD true,rfl,Walks.list (A:=X.A.in1) (I.ok.hd hc) _ p (Nat.ne_of_lt hlt) its.toArray,
    ⟨⟨_,Heap.get?_push_size _ rfl,rfl,rfl⟩,hl.push _⟩,fun i v s' Q' E' hP hQ=>?_,fun h' tk hk=>?_⟩
  · have hP':its[i]?=some v:=by simpa using hP
    have hi:i<bs.length:=by
      have:=(List.getElem?_eq_some_iff.mp hP').1
      omega
    obtain ⟨u,eu,ru⟩:=r1.get (x:=.bl bs[i]) (by rw [List.getElem?_map,List.getElem?_eq_getElem hi];rfl)
    rw [hP'] at eu
    cases eu
    cases ru
    dsimp only at hQ
    rw [List.getElem?_eq_getElem hi] at hQ
    exact wpAny_truthy_bool hQ
  · have e:((List.range its.toArray.size).all fun i=>(bs[i]?).getD true)=bs.all id:=by
      rw [List.size_toArray,← hlen];exact qX bs
    rw [e]
    refine ⟨.bl _,H,I.kept fun b o eo=>hk b o (fun hm=>?_) (Heap.get?_push_of_some _ eo),rfl,q⟩
    rw [List.mem_singleton.mp hm] at eo
    exact Nat.lt_irrefl _ (Heap.lt_size eo)
end
end L2
namespace L2
open PySem PySem.Spec PyProof.Rows
section
variable {X:Cx} {st:Stmt} {rest:List Stmt} {t u:TS}
def M6 (t u:TS):TS:=fun D σ H=>∃ M:St→Hp→Prop,t { D with nx:=M } σ H∧∀ σ' H',M σ' H'→u D σ' H'
theorem fU (h1:PS X st t) (h2:PSs X rest u):PSs X (st :: rest) (M6 t u):=by
  intro pins s σ H D I h
  obtain ⟨M,ha,hb⟩:=h
  refine wpAny_execs_cons (thn (h1 pins s σ H { D with nx:=M } I ha) fun f s1 q=>?_)
  cases f with
  | next =>
    obtain ⟨σ',H',I',q⟩:=q
    exact h2 pins s1 σ' H' D I' (hb σ' H' q)
  | ret v=>exact q
  | brk=>exact q
  | cont=>exact q
end
end L2
namespace L2
open PySem PySem.Spec PyProof.Rows
def Qx (H:Hp) (P:List V→Prop) (Q:VK):Prop:=∀ (l:Addr) (H':Hp) (xs:List V),Same H H'→H l=none→H' l=some (.lst xs)→P xs→Q (.ref l) H'
structure Df (K:PySem.W.Frag) (mg:Str→Option Value) (x:Str) (st:Stmt) (ps:List Str) (a:Addr) (fd:FuncData):Prop where
  F:Fun K x x st a fd
  b:Binds K fd ps []
  m:mg x=some (.ref a)
theorem Same.upd {H H':Hp} {l:Addr} {o:HO} (s:Same H H') (h:H l=none):Same H (L2.upd H' l o):=fun b u e=>by
  rw [aR (cg e h)];exact s b u e
theorem ints_get {ns:List Int} {i:Nat} {y:V} (h:(ns.map V.int)[i]?=some y):∃ z,ns[i]?=some z∧y=V.int z:=by
  rw [List.getElem?_map] at h
  cases e:ns[i]? with
  | none=>rw [e] at h;cases h
  | some z=>rw [e] at h;exact ⟨z,rfl,(Option.some.inj h).symm⟩
theorem cM {ns:List Int} {i:Nat} {z:Int} (h:ns[i]?=some z):atI (ns.map V.int) (i:Int)=some (V.int z):=dh (by rw [List.getElem?_map,h];rfl)
theorem jN {ns:List Int} {i:Int} {z:Int} (h0:0≤i) (h:ns[i.toNat]?=some z):atI (ns.map V.int) i=some (V.int z):=by
  obtain ⟨k,rfl⟩:=Int.eq_ofNat_of_zero_le h0
  exact cM (by simpa using h)
theorem iZ {n j:Nat} (h:j<n):ixN n (j:Int)=some j:=by
  unfold ixN
  rw [if_pos (by omega),if_pos (by omega)];simp
theorem vo {n:Nat} (h:n≤100000):n≤sizeLine:=Nat.le_trans h (by decide)
theorem aH {n:Nat} (h:n≤100000):n<sizeLine:=Nat.lt_of_le_of_lt h (by decide)
structure Blt (mg:Str→Option Value):Prop where
  len:mg "len"=none
  range:mg "range"=none
  list:mg "list"=none
  isinstance:mg "isinstance"=none
  bool:mg "bool"=none
  int:mg "int"=none
  all:mg "all"=none
  min:mg "min"=none
  max:mg "max"=none
  sum:mg "sum"=none
  sorted:mg "sorted"=none
  zip:mg "zip"=none
  tuple:mg "tuple"=none
  str:mg "str"=none
  any:mg "any"=none
  enumerate:mg "enumerate"=none
  reversed:mg "reversed"=none
  abs:mg "abs"=none
  ValueError:mg "ValueError"=none
  set:mg "set"=none
structure Mth (mg:Str→Option Value):Prop where
  MOUTH:∃ t,mg "MOUTH"=some (.int (-1) t)
section
variable {X:Cx} {K:PySem.W.Frag}
theorem mQ (h:X.K=K):IxR X (Qj K):=h ▸ aJ
theorem pJ (h:X.K=K):IxR X (Qi K):=h ▸ jo
theorem mZ (h:X.K=K):jH X (.builtin "len") (fun xs H Q=>∃ p ys,xs=[.ref p]∧(SqL K H p ys∨SqT K H p ys)∧Q (.int ys.length) H):=h ▸ aL
theorem rm (h:X.K=K):OpR X (compareOp .In) (rIn K false):=h ▸ nY
end
end L2
namespace L2
open PySem PySem.W PyProof.Rows
section
variable {N:Nat} {κ:Nat→Int} {R:Shared→Prop} {cmp:Nat→Nat→(Bool→Shared→Prop)→Shared→Prop}
def Cmp (N:Nat) (κ:Nat→Int) (R:Shared→Prop) (cmp:Nat→Nat→(Bool→Shared→Prop)→Shared→Prop):Prop :=
  ∀ i j C s,i<N→j<N→R s→(∀ s',R s'→C (decide (κ i<κ j)) s')→cmp i j C s
def Inj (N:Nat) (κ:Nat→Int):Prop:=∀ i j,i<N→j<N→i≠j→κ i≠κ j
variable (hc:Cmp N κ R cmp) (hI:Inj N κ)
include hc hI
end
end L2
namespace L2
open PySem PySem.Spec PyProof.Rows
section
variable {X:Cx} {pins:List (Addr × Obj)} {σ:St} {H:Hp} {s:Shared} {a:Addr} {o:HO}
theorem Inv.adopt (I:Inv X pins σ H s) (hn:H a=none) (hL:a≠X.env.locals) (h0:X.s₀.heap.objs.size≤a) (hc:∀ x c,X.env.cells.lookup x=some c→c≠a) (hp:∀ p∈X.pn++pins,p.1≠a)
    (new:fG X.prog X.w (upd H a o) s.heap a o):Inv X pins σ (upd H a o) s:=by
  have ne:∀ b u,H b=some u→b≠a:=fun b u e=>cg e hn
  refine ⟨I.ok,I.os,I.bare,⟨I.base.keep,I.base.slot,fun b ob e n hx=>?_,I.base.there,fun b xs e=>?_,fun b ob xs e=>?_,fun b ps e=>?_⟩,I.loc,I.cell,?_,fun x c e=>?_,fun p hq=>?_,fun b u e=>?_,I.len⟩
  · rw [aR (Nat.ne_of_lt (Nat.lt_of_lt_of_le (Heap.lt_size e) h0))];exact I.base.free b ob e n hx
  · have:=I.base.tups b xs e;rw [aR (ne b _ this)];exact this
  · have:=I.base.frzs b ob xs e;rw [aR (ne b _ this)];exact this
  · obtain ⟨m,e1⟩:=I.base.tbls b ps e;exact ⟨m,by rw [aR (ne b _ e1)];exact e1⟩
  · rw [aR hL.symm];exact I.free
  · rw [aR (hc x c e)];exact I.freeC x c e
  · obtain ⟨e1,n,r⟩:=I.pin p hq;exact ⟨e1,by rw [aR (hp p hq)];exact n,r⟩
  · by_cases hb:b=a
    · subst hb;rw [cB] at e;cases e;exact new
    · rw [aR hb] at e
      exact (I.hok b u e).stay (fun _ _ _ q=>q) (fun c q=>by rw [aR (ne c _ q)];exact q) fun c xs q=>by rw [aR (ne c _ q)];exact q
end
section
variable {prog:Program} {w:World} {A:Around} {E:Value→Shared→Prop} {s:Shared}
end
end L2
namespace L2
open PySem PySem.W PySem.Spec PyProof.Rows
section
variable {prog:Program} {w:World} {A:Around} {E:Value→Shared→Prop} {s:Shared}
end
end L2
namespace L2
open PySem PySem.W PySem.Spec PyProof.Rows
section
variable {X:Cx} {pins:List (Addr × Obj)} {σ:St} {H:Hp} {s:Shared} {A:Around} {E:Value→Shared→Prop}
end
end L2
namespace L2
open PySem PySem.W PySem.Spec PyProof.Rows
section
variable {X:Cx} {pins:List (Addr × Obj)} {σ:St} {H:Hp} {s:Shared} {A:Around} {E:Value→Shared→Prop}
end
end L2
namespace L2
open PySem PySem.W PySem.Spec PyProof.Rows
section
variable {X:Cx} {pins:List (Addr × Obj)} {σ:St} {H:Hp} {s:Shared} {body:Expr} {scope:Scope} {params:Arguments} {te:TE}
end
end L2
namespace L2
open PySem PySem.W PySem.Spec PyProof.Rows
section
variable {X:Cx} {pins:List (Addr × Obj)} {σ:St} {H:Hp} {s:Shared}
def TabOk (P:Addr) (pos:Pos) (qual:Str) (H:Hp):Prop:=H P=some (.tbl #[])∨∃ c':Addr,H P=some (.tbl #[rawInt pos.line,rawInt pos.col,.ref c'])∧H c'=some (.ext fun h=>h.CodeRec (.ref c') qual)
end
end L2
namespace L2
open PySem PySem.W PySem.Spec PyProof.Rows
section
variable {X:Cx} {e body:Expr} {ta:TA} {te:TE} {params:Arguments} {scope:Scope} {p1 p2 p3 lpos kp pos:Pos}
end
end L2
namespace L2
open PySem PySem.W PySem.Spec PyProof.Rows
end L2
namespace L2
open PySem PySem.Spec PyProof.Rows
mutual
inductive Den (K:PySem.W.Frag) (H:Hp):V→PyData→Prop
  | non:Den K H .non .none
  | bl (b:Bool):Den K H (.bl b) (.bool b)
  | int (i:Int):Den K H (.int i) (.int i)
  | str (x:Str):Den K H (.str x) (.str x)
  | list {a:Addr} {xs:List V} {ds:List PyData}:SqL K H a xs→bY K H xs ds→Den K H (.ref a) (.list ds)
  | tuple {a:Addr} {xs:List V} {ds:List PyData}:SqT K H a xs→bY K H xs ds→Den K H (.ref a) (.tuple ds)
inductive bY (K:PySem.W.Frag) (H:Hp):List V→List PyData→Prop
  | nil:bY K H [] []
  | cons {v:V} {vs:List V} {d:PyData} {ds:List PyData}:Den K H v d→bY K H vs ds→bY K H (v :: vs) (d :: ds)
end
theorem bY.length {K:PySem.W.Frag} {H:Hp}:∀ {vs:List V} {ds:List PyData},bY K H vs ds→vs.length=ds.length
  | _,_,.nil=>rfl
  | _,_,.cons _ hs=>by rw [List.length_cons,List.length_cons,bY.length hs]
theorem bY.append {K:PySem.W.Frag} {H:Hp}:∀ {vs ws:List V} {ds es:List PyData},bY K H vs ds→bY K H ws es→bY K H (vs++ws) (ds++es)
  | _,_,_,_,.nil,h=>h
  | _,_,_,_,.cons h hs,h'=>.cons h (bY.append hs h')
theorem bY.get {K:PySem.W.Frag} {H:Hp}:∀ {vs:List V} {ds:List PyData} {i:Nat} {d:PyData},bY K H vs ds→ds[i]?=some d→∃ v,vs[i]?=some v∧Den K H v d
  | _,_,_,_,.nil,e=>by simp at e
  | _,_,0,_,.cons h _,e=>by simp at e;subst e;exact ⟨_,rfl,h⟩
  | _,_,i + 1,d,.cons _ hs,e=>by
    obtain ⟨v,h1,h2⟩:=bY.get (i:=i) (d:=d) hs (by simpa using e)
    exact ⟨v,by simpa using h1,h2⟩
theorem bY.get' {K:PySem.W.Frag} {H:Hp}:∀ {vs:List V} {ds:List PyData} {i:Nat} {v:V},bY K H vs ds→vs[i]?=some v→∃ d,ds[i]?=some d∧Den K H v d
  | _,_,_,_,.nil,e=>by simp at e
  | _,_,0,_,.cons h _,e=>by simp at e;subst e;exact ⟨_,rfl,h⟩
  | _,_,i + 1,v,.cons _ hs,e=>by
    obtain ⟨d,h1,h2⟩:=bY.get' (i:=i) (v:=v) hs (by simpa using e)
    exact ⟨d,by simpa using h1,h2⟩
theorem bY.set {K:PySem.W.Frag} {H:Hp} {v:V} {d:PyData} (h:Den K H v d):∀ {vs:List V} {ds:List PyData} (i:Nat),bY K H vs ds→bY K H (vs.set i v) (ds.set i d)
  | _,_,_,.nil=>.nil
  | _,_,0,.cons _ hs=>.cons h hs
  | _,_,i + 1,.cons q hs=>.cons q (bY.set h i hs)
theorem bY.ints {K:PySem.W.Frag} {H:Hp}:∀ (ns:List Int),bY K H (ns.map V.int) (ns.map PyData.int)
  | []=>.nil
  | n :: ns=>.cons (.int n) (bY.ints ns)
def uM (ns:List Int):PyData:=.list (ns.map PyData.int)
theorem Den.ints {K:PySem.W.Frag} {H:Hp} {a:Addr} {ns:List Int} (h:SqL K H a (ns.map V.int)):Den K H (.ref a) (uM ns):=.list h (bY.ints ns)
theorem bY.int_inv {K:PySem.W.Frag} {H:Hp}:∀ {vs:List V} {ns:List Int},bY K H vs (ns.map PyData.int)→vs=ns.map V.int
  | _,[],.nil=>rfl
  | _,n :: ns,.cons h hs=>by
    cases h
    rw [bY.int_inv hs];rfl
section
variable {X:Cx} {pins:List (Addr × Obj)} {σ:St} {H:Hp} {s:Shared}
mutual
theorem Den.reads (I:Inv X pins σ H s):∀ {v:V} {d:PyData} {u:Value},Den X.K H v d→RelV v u→∃ as,Reads s.heap u d as
  | _,_,_,.non,r=>by cases r;exact ⟨_,.none⟩
  | _,_,_,.bl b,r=>by cases r;exact ⟨_,.bool b⟩
  | _,_,_,.int i,r=>by obtain ⟨t,rfl⟩:=r;exact ⟨_,.int i t⟩
  | _,_,_,.str x,r=>by obtain ⟨t,rfl⟩:=r;exact ⟨_,.str x t⟩
  | _,_,_,.list h hs,r=>by
    cases r
    obtain ⟨its,r1,⟨o,n,e,c,_,d⟩,_⟩:=I.list h
    obtain ⟨as,q⟩:=bY.reads I hs r1
    exact ⟨_,.list e c d (by simpa using q)⟩
  | _,_,_,.tuple h hs,r=>by
    cases r
    obtain ⟨its,r1,⟨o,e,c,n,d⟩,_⟩:=I.tuple h
    obtain ⟨as,q⟩:=bY.reads I hs r1
    exact ⟨_,.tuple e c d (by simpa using q)⟩
theorem bY.reads (I:Inv X pins σ H s):∀ {vs:List V} {ds:List PyData} {us:List Value},bY X.K H vs ds→Vals vs us→∃ as,ReadsAll s.heap us ds as
  | _,_,_,.nil,r=>by cases r;exact ⟨_,.nil⟩
  | _,_,_,.cons h hs,r=>by
    cases r with
    | cons r1 r2 =>
      obtain ⟨as,q⟩:=Den.reads I h r1
      obtain ⟨bs,q'⟩:=bY.reads I hs r2
      exact ⟨_,.cons q q'⟩
end
def Ql (K:PySem.W.Frag) (neg:Bool):R2:=fun x y H Q=>∃ d e,Den K H x d∧Den K H y e∧SeqAt.shaped d=true∧SeqAt.shaped e=true∧Q (.bl (if neg then !PyData.eqv d e else PyData.eqv d e)) H
theorem nZ (hu:X.A.units + 64<cLine):OpR X (compareOp .Eq) (Ql X.K false):=by
  intro pins s σ H x y v u Q I rx ry h
  obtain ⟨d,e,hd,he,sd,se,q⟩:=h
  obtain ⟨as,ra⟩:=hd.reads I rx
  obtain ⟨bs,rb⟩:=he.reads I ry
  exact SeqAt.compareEq_shaped ra rb sd se hu ⟨.bl _,H,I,rfl,q⟩
theorem GQ (hu:X.A.units + 64<cLine):OpR X (compareOp .NotEq) (Ql X.K true):=by
  intro pins s σ H x y v u Q I rx ry h
  obtain ⟨d,e,hd,he,sd,se,q⟩:=h
  obtain ⟨as,ra⟩:=hd.reads I rx
  obtain ⟨bs,rb⟩:=he.reads I ry
  exact SeqAt.compareNe_shaped ra rb sd se hu ⟨.bl _,H,I,rfl,q⟩
end
def Sh (n:Nat) (d:PyData):Prop:=d.canLay0=true∧d.depth≤n
theorem uT:∀ {ds:List PyData},(∀ d∈ds,d.canLay0=true)→PyData.canLayAll0 ds=true
  | [],_=>rfl
  | d :: ds,h=>by rw [PyData.canLayAll0,h d List.mem_cons_self,uT fun x hx=>h x (List.mem_cons_of_mem _ hx)];rfl
theorem uI {n:Nat}:∀ {ds:List PyData},(∀ d∈ds,d.depth≤n)→PyData.depthAll ds≤n
  | [],_=>by simp [PyData.depthAll]
  | d :: ds,h=>by
    have h1:=h d List.mem_cons_self
    have h2:=uI fun x hx=>h x (List.mem_cons_of_mem _ hx)
    simp only [PyData.depthAll]
    omega
theorem Sh.int (n:Nat) (i:Int):Sh n (.int i):=⟨rfl,by simp [PyData.depth]⟩
theorem Sh.list {n:Nat} {ds:List PyData} (h:∀ d∈ds,Sh n d):Sh (n + 1) (.list ds):=⟨by rw [PyData.canLay0];exact uT fun d hd=>(h d hd).1,by
  have:=uI fun d hd=>(h d hd).2
  simp only [PyData.depth];omega⟩
theorem Sh.tuple {n:Nat} {ds:List PyData} (h:∀ d∈ds,Sh n d):Sh (n + 1) (.tuple ds):=⟨by rw [PyData.canLay0];exact uT fun d hd=>(h d hd).1,by
  have:=uI fun d hd=>(h d hd).2
  simp only [PyData.depth];omega⟩
theorem Sh.ints (n:Nat) (ns:List Int):Sh (n + 1) (uM ns):=.list fun d hd=>by
  obtain ⟨i,_,rfl⟩:=List.mem_map.mp hd
  exact .int n i
theorem Sh.ok {n:Nat} {d:PyData} (h:Sh n d) (hn:n≤64):SeqAt.shaped d=true:=by
  unfold SeqAt.shaped
  rw [h.1,decide_eq_true (by have:=h.2;omega)];rfl
theorem mX {n:Nat} {d:PyData} (h:Sh n d):PyData.eqv d d=true:=SeqAt.eqv_refl d h.1
abbrev eU:=List (Addr × Pos × Str)
def TabsOk (T:eU) (H:Hp):Prop:=∀ t∈T,TabOk t.1 t.2.1 t.2.2 H
structure aV (T:eU) (H H':Hp):Prop where
  t0:TabsOk T H
  t1:TabsOk T H'
  keep:∀ b o,H b=some o→(∀ ps,o≠.tbl ps)→H' b=some o
  tb:∀ b ps,H b=some (.tbl ps)→∃ ps',H' b=some (.tbl ps')
theorem TabsOk.nil (H:Hp):TabsOk [] H:=fun t ht=>nomatch ht
theorem TabsOk.mono {T:eU} {H H':Hp} (t:TabsOk T H) (s:Same H H'):TabsOk T H':=fun q hq=>by
  rcases t q hq with e | ⟨c,e1,e2⟩
  · exact .inl (s _ _ e)
  · exact .inr ⟨c,s _ _ e1,s _ _ e2⟩
theorem aV.refl {T:eU} {H:Hp} (t:TabsOk T H):aV T H H:=⟨t,t,fun _ _ h _=>h,fun _ ps h=>⟨ps,h⟩⟩
theorem aV.of {T:eU} {H H':Hp} (t:TabsOk T H) (s:Same H H'):aV T H H':=⟨t,t.mono s,fun b o h _=>s b o h,fun b ps h=>⟨ps,s _ _ h⟩⟩
theorem aV.trans {T:eU} {H H1 H2:Hp} (a:aV T H H1) (b:aV T H1 H2):aV T H H2:=⟨a.t0,b.t1,fun c o h n=>b.keep c o (a.keep c o h n) n,fun c ps h=>by
  obtain ⟨ps',e⟩:=a.tb c ps h
  exact b.tb c ps' e⟩
theorem aV.free {T:eU} {H H':Hp} (a:aV T H H') {l:Addr} (h:H' l=none):H l=none:=by
  cases q:H l with
  | none=>rfl
  | some o =>
    have key:(∃ ps,o=.tbl ps)∨∀ ps,o≠.tbl ps:=by
      cases o with
      | tbl ps=>exact .inl ⟨ps,rfl⟩
      | _=>exact .inr fun _ z=>by cases z
    rcases key with ⟨ps,rfl⟩ | n
    · obtain ⟨ps',e⟩:=a.tb l ps q
      rw [h] at e;cases e
    · have:=a.keep l o q n
      rw [h] at this;cases this
theorem aV.seq {T:eU} {K:PySem.W.Frag} {H H':Hp} {a:Addr} {xs:List V} (e:aV T H H') (h:SqL K H a xs):SqL K H' a xs:=by
  rcases h with (h | ⟨o,h⟩) | h
  · exact .inl (.inl (e.keep _ _ h fun _ z=>by cases z))
  · exact .inl (.inr ⟨o,e.keep _ _ h fun _ z=>by cases z⟩)
  · exact .inr h
theorem aV.Qg {T:eU} {K:PySem.W.Frag} {H H':Hp} {a:Addr} {xs:List V} (e:aV T H H') (h:SqT K H a xs):SqT K H' a xs:=by
  rcases h with (h | ⟨o,h⟩) | h
  · exact .inl (.inl (e.keep _ _ h fun _ z=>by cases z))
  · exact .inl (.inr ⟨o,e.keep _ _ h fun _ z=>by cases z⟩)
  · exact .inr h
mutual
theorem Den.rA {T:eU} {K:PySem.W.Frag} {H H':Hp} (e:aV T H H'):∀ {v:V} {d:PyData},Den K H v d→Den K H' v d
  | _,_,.non=>.non
  | _,_,.bl b=>.bl b
  | _,_,.int i=>.int i
  | _,_,.str x=>.str x
  | _,_,.list h hs=>.list (e.seq h) (bY.rA e hs)
  | _,_,.tuple h hs=>.tuple (e.Qg h) (bY.rA e hs)
theorem bY.rA {T:eU} {K:PySem.W.Frag} {H H':Hp} (e:aV T H H'):∀ {vs:List V} {ds:List PyData},bY K H vs ds→bY K H' vs ds
  | _,_,.nil=>.nil
  | _,_,.cons h hs=>.cons (Den.rA e h) (bY.rA e hs)
end
def Gb (T:eU) (H:Hp) (P:List V→Prop) (Q:VK):Prop:=∀ (l:Addr) (H':Hp) (xs:List V),aV T H H'→H l=none→H' l=some (.lst xs)→P xs→Q (.ref l) H'
def gK:HO→Bool
  | .tbl _=>false
  | .ext _=>false
  | _=>true
structure Ow (T:eU) (H0 H:Hp) (L:List (Addr × HO)):Prop where
  same:aV T H0 H
  new:∀ p∈L,H0 p.1=none
  at_:∀ p∈L,H p.1=some p.2
  pl:∀ p∈L,gK p.2=true
  nd:(L.map (·.1)).Nodup
section
variable {T:eU} {H0 H1 H H':Hp} {L L':List (Addr × HO)} {a l:Addr} {o o':HO} {xs:List V}
theorem Ow.refl (t:TabsOk T H):Ow T H H []:=⟨aV.refl t,(fun p hp=>nomatch hp),(fun p hp=>nomatch hp),(fun p hp=>nomatch hp),List.nodup_nil⟩
theorem Ow.get (O:Ow T H0 H L) (k:Nat) (h:L[k]?=some (a,o):=by rfl):H a=some o:=O.at_ _ (List.mem_of_getElem? h)
theorem Ow.fr (O:Ow T H0 H L) (k:Nat) (h:L[k]?=some (a,o):=by rfl):H0 a=none:=O.new _ (List.mem_of_getElem? h)
theorem Ow.sq {K:PySem.W.Frag} (O:Ow T H0 H L) (k:Nat) (h:L[k]?=some (a,.lst xs):=by rfl):SqL K H a xs:=SqL.of (O.get k h)
theorem Ow.sqT {K:PySem.W.Frag} (O:Ow T H0 H L) (k:Nat) (h:L[k]?=some (a,.tup xs):=by rfl):SqT K H a xs:=SqT.of (O.get k h)
theorem TabOk.upd {P:Addr} {pos:Pos} {q:Str} (t:TabOk P pos q H) (h:H a=none∨∃ o,H a=some o∧gK o=true):TabOk P pos q (L2.upd H a o'):=by
  have ne:∀ b u,H b=some u→gK u=false→b≠a:=fun b u e p z=>by
    subst z
    rcases h with h | ⟨o,h,ho⟩
    · rw [h] at e;cases e
    · rw [h] at e;cases e;rw [ho] at p;cases p
  rcases t with e | ⟨c,e1,e2⟩
  · exact .inl (by rw [aR (ne _ _ e rfl)];exact e)
  · exact .inr ⟨c,by rw [aR (ne _ _ e1 rfl)];exact e1,by rw [aR (ne _ _ e2 rfl)];exact e2⟩
theorem aV.upd (s:aV T H0 H) (h:H0 a=none) (h':H a=none∨∃ o,H a=some o∧gK o=true):aV T H0 (L2.upd H a o') :=
  ⟨s.t0,fun t ht=>(s.t1 t ht).upd h',fun b u e n=>by rw [aR (cg e h)];exact s.keep b u e n,fun b ps e=>by rw [aR (cg e h)];exact s.tb b ps e⟩
theorem Ow.mk' (O:Ow T H0 H L) (h:H a=none) (ho:gK o=true):Ow T H0 (upd H a o) ((a,o) :: L):=by
  have ne:∀ p∈L,p.1≠a:=fun p hp=>cg (O.at_ p hp) h
  have n0:H0 a=none:=O.same.free h
  refine ⟨O.same.upd n0 (.inl h),fun p hp=>?_,fun p hp=>?_,fun p hp=>?_,?_⟩
  · rcases List.mem_cons.mp hp with e | e
    · rw [e];exact n0
    · exact O.new p e
  · rcases List.mem_cons.mp hp with e | e
    · rw [e];exact cB
    · rw [aR (ne p e)];exact O.at_ p e
  · rcases List.mem_cons.mp hp with e | e
    · rw [e];exact ho
    · exact O.pl p e
  · rw [List.map_cons,List.nodup_cons]
    refine ⟨fun hm=>?_,O.nd⟩
    obtain ⟨p,hp,e⟩:=List.mem_map.mp hm
    exact ne p hp e
theorem sG:∀ {L:List (Addr × HO)} {k:Nat} {a:Addr} {o o':HO},L[k]?=some (a,o)→(L.set k (a,o')).map (·.1)=L.map (·.1)
  | [],_,_,_,_,h=>by simp at h
  | p :: L,0,a,o,o',h=>by
    have:p=(a,o):=by simpa using h
    rw [this];rfl
  | p :: L,k + 1,a,o,o',h=>by
    rw [List.set_cons_succ,List.map_cons,List.map_cons,sG (L:=L) (k:=k) (o:=o) (by simpa using h)]
theorem Ow.Gi (O:Ow T H0 H L) (k:Nat) (h:L[k]?=some (a,o)) (ho:gK o'=true):Ow T H0 (upd H a o') (L.set k (a,o')):=by
  have hm0:=List.mem_of_getElem? h
  have n0:H0 a=none:=O.new _ hm0
  have hk:k<L.length:=(List.getElem?_eq_some_iff.mp h).1
  refine ⟨O.same.upd n0 (.inr ⟨o,O.at_ _ hm0,O.pl _ hm0⟩),fun p hp=>?_,fun p hp=>?_,fun p hp=>?_,by rw [sG h];exact O.nd⟩
  · rcases List.mem_or_eq_of_mem_set hp with e | e
    · exact O.new p e
    · rw [e];exact n0
  · obtain ⟨j,hj,e⟩:=List.getElem_of_mem hp
    by_cases hjk:j=k
    · subst hjk
      rw [List.getElem_set_self] at e
      rw [← e];exact cB
    · rw [List.getElem_set_ne (Ne.symm hjk)] at e
      have hj':j<L.length:=by rw [List.length_set] at hj;exact hj
      have hm:p∈L:=by rw [← e];exact List.getElem_mem hj'
      rw [aR]
      · exact O.at_ p hm
      · intro z
        have e1:(L.map (·.1))[j]?=some p.1:=by rw [List.getElem?_map,List.getElem?_eq_getElem hj',e];rfl
        have e2:(L.map (·.1))[k]?=some a:=by rw [List.getElem?_map,h];rfl
        rw [z] at e1
        obtain ⟨a1,a2⟩:=List.getElem?_eq_some_iff.mp e1
        obtain ⟨b1,b2⟩:=List.getElem?_eq_some_iff.mp e2
        exact hjk ((List.getElem_inj O.nd).mp (a2.trans b2.symm))
  · rcases List.mem_or_eq_of_mem_set hp with e | e
    · exact O.pl p e
    · rw [e];exact ho
theorem tu {o:HO} (h:gK o=true):∀ ps,o≠.tbl ps:=fun ps z=>by rw [z] at h;cases h
theorem Ow.kY (O:Ow T H0 H L) (s:aV T H H'):Ow T H0 H' L:=⟨O.same.trans s,O.new,fun p hp=>s.keep _ _ (O.at_ p hp) (tu (O.pl p hp)),O.pl,O.nd⟩
theorem Ow.call (O:Ow T H0 H L) (s:Same H H'):Ow T H0 H' L:=O.kY (aV.of O.same.t1 s)
theorem Ow.G9 (O:Ow T H0 H L) (s:aV T H H') (n:H l=none) (h:H' l=some o) (ho:gK o=true):Ow T H0 H' ((l,o) :: L):=by
  have O2:=O.kY s
  refine ⟨O2.same,fun p hp=>?_,fun p hp=>?_,fun p hp=>?_,?_⟩
  · rcases List.mem_cons.mp hp with e | e
    · rw [e];exact O.same.free n
    · exact O.new p e
  · rcases List.mem_cons.mp hp with e | e
    · rw [e];exact h
    · exact O2.at_ p e
  · rcases List.mem_cons.mp hp with e | e
    · rw [e];exact ho
    · exact O.pl p e
  · rw [List.map_cons,List.nodup_cons]
    refine ⟨fun hm=>?_,O.nd⟩
    obtain ⟨p,hp,e⟩:=List.mem_map.mp hm
    exact cg (O.at_ p hp) n e
theorem Ow.more (O:Ow T H0 H L) (s:Same H H') (n:H l=none) (h:H' l=some o) (ho:gK o=true):Ow T H0 H' ((l,o) :: L):=O.G9 (aV.of O.same.t1 s) n h ho
theorem Ow.sub (O:Ow T H0 H L) (h:L'.Sublist L):Ow T H0 H L':=⟨O.same,fun p hp=>O.new p (h.subset hp),fun p hp=>O.at_ p (h.subset hp),fun p hp=>O.pl p (h.subset hp),O.nd.sublist (h.map _)⟩
theorem Ow.perm (O:Ow T H0 H L) (h:L'.Perm L):Ow T H0 H L':=⟨O.same,fun p hp=>O.new p (h.mem_iff.mp hp),fun p hp=>O.at_ p (h.mem_iff.mp hp),fun p hp=>O.pl p (h.mem_iff.mp hp),(h.map _).nodup_iff.mpr O.nd⟩
theorem Ow.tail {p:Addr × HO} (O:Ow T H0 H (p :: L)):Ow T H0 H L:=O.sub (List.sublist_cons_self _ _)
theorem Ow.reb (O:Ow T H0 H L):∃ H1,Ow T H1 H L∧aV T H0 H1∧∀ b o,H b=some o→(∀ p∈L,p.1≠b)→H1 b=some o:=by
  have keep:∀ b u,H b=some u→(∀ p∈L,p.1≠b)→(fun b=>if b∈L.map (·.1) then none else H b:Hp) b=some u:=fun b u e h=>by
    show (if b∈L.map (·.1) then none else H b)=some u
    rw [if_neg fun hm=>?_];· exact e
    obtain ⟨p,hp,z⟩:=List.mem_map.mp hm
    exact h p hp z
  have back:∀ b u,(fun b=>if b∈L.map (·.1) then none else H b:Hp) b=some u→H b=some u:=fun b u e=>by
    dsimp only at e
    split at e
    · cases e
    · exact e
  have npl:∀ b u,H b=some u→gK u=false→∀ p∈L,p.1≠b:=fun b u e h p hp z=>by
    have:=O.at_ p hp
    rw [z,e] at this
    have e':u=p.2:=Option.some.inj this
    rw [e',O.pl p hp] at h;cases h
  have tk:TabsOk T (fun b=>if b∈L.map (·.1) then none else H b):=fun t ht=>by
    rcases O.same.t1 t ht with e | ⟨c,e1,e2⟩
    · exact .inl (keep _ _ e (npl _ _ e rfl))
    · exact .inr ⟨c,keep _ _ e1 (npl _ _ e1 rfl),keep _ _ e2 (npl _ _ e2 rfl)⟩
  refine ⟨fun b=>if b∈L.map (·.1) then none else H b,⟨⟨tk,O.same.t1,fun b u e _=>back b u e,fun b ps e=>⟨ps,back _ _ e⟩⟩,fun p hp=>?_,O.at_,O.pl,O.nd⟩,⟨O.same.t0,tk,fun b u e n=>?_,fun b ps e=>?_⟩,keep⟩
  · exact if_pos (List.mem_map.mpr ⟨p,hp,rfl⟩)
  · refine keep b u (O.same.keep b u e n) fun p hp z=>?_
    rw [← z,O.new p hp] at e;cases e
  · obtain ⟨ps',e'⟩:=O.same.tb b ps e
    exact ⟨ps',keep _ _ e' (npl _ _ e' rfl)⟩
theorem j7 {i:Int} {j:Nat} {v:V} {Q:Hp→Prop} (O:Ow T H0 H L) (k:Nat) (h:L[k]?=some (l,.lst xs)) (hi:ixN xs.length i=some j) (q:∀ H',Ow T H0 H' (L.set k (l,.lst (xs.set j v)))→Q H'):Gz (.ref l) (.int i) v H Q :=
  ⟨l,xs,i,j,rfl,rfl,O.get k h,hi,q _ (O.Gi k h rfl)⟩
theorem Ow.ret {P:List V→Prop} {Q:VK} (O:Ow T H0 H L) (k:Nat) (h:L[k]?=some (l,.lst xs)) (q:Gb T H0 P Q) (p:P xs):Q (.ref l) H:=q l H xs O.same (O.fr k h) (O.get k h) p
theorem Ow.got {P:List V→Prop} {Q:VK} (O:Ow T H0 H L) (k:∀ l H' xs,Ow T H0 H' ((l,.lst xs) :: L)→P xs→Q (.ref l) H'):Qx H P Q:=fun l H' xs s n h p=>k l H' xs (O.more s n h rfl) p
theorem Ow.gotT {P:List V→Prop} {Q:VK} (O:Ow T H0 H L) (k:∀ l H' xs,Ow T H0 H' ((l,.lst xs) :: L)→P xs→Q (.ref l) H'):Gb T H P Q:=fun l H' xs s n h p=>k l H' xs (O.G9 s n h rfl) p
end
end L2
namespace L2
open PySem PySem.W PySem.Spec PyProof.Rows
theorem szl {n:Nat} (h:Nat.ble n 100000=true:=by rfl):n≤sizeLine:=vo (Nat.le_of_ble_eq_true h)
theorem uD (p:Int) (ns:List Int):inV (.int p) (ns.map V.int)=decide (p∈ns):=by
  unfold inV
  rw [List.any_map,Bool.eq_iff_iff]
  simp only [List.any_eq_true,decide_eq_true_eq]
  constructor
  · rintro ⟨x,hx,e⟩
    have e':(x == p)=true:=e
    have:x=p:=by simpa using e'
    rw [← this];exact hx
  · intro h
    exact ⟨p,h,show (p == p)=true by simp⟩
theorem oE (ns:List Int):(ns.map V.int).all mW=true:=by
  rw [List.all_map,List.all_eq_true];intro _ _;rfl
section
variable {X:Cx}
theorem kW:∀ ns ms:List Int,PyData.eqvAll (ns.map PyData.int) (ms.map PyData.int)=decide (ns=ms)
  | [],[]=>by simp [PyData.eqvAll]
  | [],_ :: _=>by simp [PyData.eqvAll]
  | _ :: _,[]=>by simp [PyData.eqvAll]
  | n :: ns,m :: ms=>by
    rw [List.map_cons,List.map_cons,PyData.eqvAll,kW ns ms]
    have e:PyData.eqv (.int n) (.int m)=decide (n=m):=by
      rw [PyData.eqv];rfl
    rw [e,Bool.eq_iff_iff]
    simp
theorem qI (ns ms:List Int):PyData.eqv (uM ns) (uM ms)=decide (ns=ms):=by
  unfold uM
  rw [PyData.eqv];exact kW ns ms
theorem GX (hu:X.A.units + 64<cLine):OpR X (compareOp .Eq) (Qk X.K false):=by
  intro pins s σ H x y v u Q I rx ry h
  obtain ⟨a,b,ns,ms,rfl,rfl,ha,hb,q⟩:=h
  refine nZ hu pins s σ H _ _ v u Q I rx ry ⟨_,_,Den.ints ha,Den.ints hb,(Sh.ints 0 ns).ok (by decide),(Sh.ints 0 ms).ok (by decide),?_⟩
  rw [qI];exact q
theorem tH (hu:X.A.units + 64<cLine):OpR X (compareOp .NotEq) (Qk X.K true):=by
  intro pins s σ H x y v u Q I rx ry h
  obtain ⟨a,b,ns,ms,rfl,rfl,ha,hb,q⟩:=h
  refine GQ hu pins s σ H _ _ v u Q I rx ry ⟨_,_,Den.ints ha,Den.ints hb,(Sh.ints 0 ns).ok (by decide),(Sh.ints 0 ms).ok (by decide),?_⟩
  rw [qI];exact q
end
section
variable {T:eU} {H0 H:Hp} {L:List (Addr × HO)} {l:Addr} {xs:List V}
theorem Ow.mkE {a:Addr} {o:HO} {H':Hp} (O:Ow T H0 H L) (h:H a=none) (e:upd H a o=H') (ho:gK o=true):Ow T H0 H' ((a,o) :: L):=e ▸ O.mk' h ho
theorem Ow.jK {a:Addr} {o o':HO} {H':Hp} (O:Ow T H0 H L) (k:Nat) (h:L[k]?=some (a,o)) (e:upd H a o'=H') (ho:gK o'=true):Ow T H0 H' (L.set k (a,o')):=e ▸ O.Gi k h ho
end
def dMv (m:Int × Int × Int):PyData:=.tuple [.int m.1,.int m.2.1,.int m.2.2]
end L2
namespace L2
open PySem PySem.W PySem.Spec PySem.Calls PyProof.Rows PySem.Builtin PySem.Builtin.ObjectAttr PySem.Builtin.Getset_descriptor
section
variable {prog:Program} {w:World} {A:Around} {E:Value→Shared→Prop} {K:Frag} {e D:Addr} {hh:Heap} {g:Array GenState} {d:Drawn} {t:Nat} {os:OsState}
structure Ga (K:Frag) (D:Addr):Prop where
  ga:findIn K (.ref D) "__getattribute__"=some (some (.builtin "BaseException.__getattribute__"))
  gt:findIn K (.ref D) "__getattr__"=some none
  at_:findIn K (.ref D) "__class__"=some (some (.builtin "object.__class__"))
  sp:specialIn K (.builtin "object.__class__") "__get__"=some (some (.builtin "getset_descriptor.__get__"))
  tk:takesIn K (.builtin "object.__class__")=some true
  mo:mroIn K D (.type "object")=some true
  mb:mroIn K D (.type "BaseException")=some true
  cl:(clsIn K D).isSome=true
theorem Es {M:Model} (X:K.In hh) (C:Ga K D):Looks M hh (Builtin.ObjectAttr.find (.ref e) (.ref D) "__class__") (.bind (.builtin "getset_descriptor.__get__") (.builtin "object.__class__")):=by
  have L3:Looks M hh (Builtin.ObjectAttr.dataDescriptor? (some (.builtin "object.__class__")) (some (.builtin "getset_descriptor.__get__"))) (some (.builtin "getset_descriptor.__get__",.builtin "object.__class__")):=(looks_takesIn X C.tk).andThen .now
  exact (looks_findIn X C.at_).andThen ((looks_specialIn X C.sp).andThen (L3.andThen (Looks.tag .now)))
theorem Gp {R:Result→Shared→Prop} {tp:Value} (LT:Looks (model prog w) hh (typeOf (.ref e)) (.ref D)) (X:K.In hh) (C:Ga K D) (q:R (.ok (.ret (.ref D))) ⟨hh,g,d,t,os⟩) :
    codeAny (model prog w) A (.call (.builtin "getset_descriptor.__get__") ⟨[.builtin "object.__class__",.ref e,tp],[]⟩) R ⟨hh,g,d,t,os⟩:=by
  have LS:=looks_mroIn (M:=model prog w) X C.mo
  clear C X
  refine codeAny_call_builtin KF.slot_gs.plain KF.entry_gs (KF.slot_gs.check _ _ _ _ _ _ _ _ KF.type_class (KF.args_gs _ _ (tp)) ?_)
  unfold Builtin.«getset_descriptor.__get__» descrGet;rw [dga_obj];refine wpAny_bind (wpAny_pure ?_)
  unfold descrGetter descrCheckInstance descrNameAndClass isInstance;simp only [KF.owner_class];repeat lk
  refine ⟨Code.quiet_builtin _ (by decide +kernel),codeAny_builtin KF.entry_class ?_⟩;unfold Builtin.«object.__class__» shownTypeOf;(repeat lk);exact q
theorem vd {tk:Tok} {Q:Fin→Shared→Prop} (LT:Looks (model prog w) hh (typeOf (.ref e)) (.ref D)) (X:K.In hh) (C:Ga K D) (h:Q (.done (.ret (.ref D))) ⟨hh,g,d,t,os⟩) :
    wpAny (model prog w) A (Builtin.«object.__getattribute__» ⟨[.ref e,.str "__class__" tk],[]⟩) Q E ⟨hh,g,d,t,os⟩:=by
  unfold Builtin.«object.__getattribute__»
  refine wpAny_bind (m:=slotArgs "__getattribute__" 1 _) (wpAny_pure ?_)
  refine wpAny_bind (m:=Builtin.ObjectAttr.attrName _) (wpAny_pure ?_)
  refine wpAny_bind (LT.at (wpAny_bind ((Es X C).at ?_)))
  unfold Builtin.ObjectAttr.bindTo
  exact wpAny_bind (wpAny_holding (wpAny_call (Gp LT X C (wpAny_pure h))))
theorem vf {Q:Option Value→Shared→Prop} (LT:Looks (model prog w) hh (typeOf (.ref e)) (.ref D)) (X:K.In hh) (C:Ga K D) (h:Q (some (.ref D)) ⟨hh,g,d,t + 1,os⟩) :
    wpAny (model prog w) A (getAttr? (.ref e) "__class__") Q E ⟨hh,g,d,t,os⟩:=by
  have L1:=looks_findIn (M:=model prog w) X C.ga
  have L2:=looks_findIn (M:=model prog w) X C.gt
  have LI:Looks (model prog w) hh (isInstance (.ref e) (.type "BaseException")) true:=LT.andThen (looks_mroIn X C.mb)
  have f3:=PySem.F.attr_ValueError.ga.bind (.ref e)
  have hx2:(Value.builtin "BaseException.__getattribute__" == Value.builtin "object.__getattribute__")=false:=by decide +kernel
  unfold getAttr? getAttrBy? getAttrBy
  refine wpAny_bind (wpAny_mkText (wpAny_bind (wpAny_attempt (wpAny_holding (wpAny_bind (LT.at (wpAny_bind (L1.at ?_))))))))
  dsimp only
  rw [if_neg (by rw [hx2];simp)]
  unfold getAttrByItsOwn hookBefore callGetattribute
  refine wpAny_bind ?_
  rw [if_pos (show onTheHeap (Value.ref D)=true from rfl)]
  refine L2.at ?_
  refine wpAny_bind (wpAny_attempt (wpAny_holding ?_))
  rw [if_neg (by simp)]
  unfold boundAndCalled
  rw [f3]
  refine wpAny_bind (wpAny_pure ?_)
  refine wpAny_call (codeAny_call_builtin PySem.F.attr_ValueError.ga.plain PySem.F.entry_bexc_ga ?_)
  have kd:builtinKind "BaseException.__getattribute__"=some .slot:=by decide +kernel
  have spl:splitId "BaseException.__getattribute__"=some ("BaseException","__getattribute__"):=by decide +kernel
  have ha:=PySem.F.args_bexc_ga (.ref e) (.str "__class__" t)
  simp only [checkBuiltinCall,kd,spl]
  refine wpAny_bind (LI.at ?_)
  rw [if_neg (by simp)]
  refine wpAny_of_eq (a:=()) ha ?_
  refine vd (t:=t + 1) LT X C ?_
  show wpAny (model prog w) A (handedOut (.ref D)) _ _ _
  exact wpAny_pure (wpAny_pure h)
def XAt (e D:Addr) (h:Heap):Prop:=∃ o,h.get? e=some o∧o.cls=.ref D
theorem rH {M:Model} {h:Heap} (x:XAt e D h):Looks M h (typeOf (.ref e)) (.ref D):=by
  obtain ⟨o,h1,h2⟩:=x
  rw [← h2]
  exact (Looks.ld h1).andThen .now
theorem wg (C:Ga K D):KitX K (.ref e) (.ref D) (XAt e D) where
  ty:=fun _ _ _ p=>rH p
  it:=fun M h X _=>by
    have c:=C.cl
    unfold clsIn at c
    split at c
    · rename_i ho
      intro _ _ _ _ k q
      unfold isType loadHead
      exact wpAny_bind (wpAny_loadPart (k _ _ (X _ _ ho)) (wpAny_pure q))
    · cases c
  ne:=fun h tp dd its n sl X htp=>by
    have c:=C.cl
    refine Bool.eq_false_iff.mpr fun q=>?_
    cases Value.ref.inj (beq_iff_eq.mp q)
    unfold clsIn at c
    split at c
    · rename_i ho
      cases (X _ _ ho).symm.trans htp
    · cases c
  ca:=fun {_ _ _ _ _ s} X p k=>by
    obtain ⟨h0,g0,d0,t0,o0⟩:=s
    exact vf (rH p) X C k
end
end L2
namespace L2
open PySem PySem.W PySem.Spec PySem.Calls PyProof.Rows
theorem fG.obj {P:Program} {w:World} {H:Hp} {h:Heap} {a:Addr} {o:HO} (x:fG P w H h a o):∃ ob,h.get? a=some ob:=by
  cases o with
  | lst xs=>obtain ⟨_,_,_,_,e⟩:=x;exact ⟨_,e⟩
  | tup xs=>obtain ⟨_,_,_,o,e,_⟩:=x;exact ⟨_,e⟩
  | dK kvs=>obtain ⟨_,_,_,_,o,_,_,e,_⟩:=x;exact ⟨_,e⟩
  | dT kvs=>obtain ⟨_,_,_,_,o,_,_,e,_⟩:=x;exact ⟨_,e⟩
  | set S n=>obtain ⟨o,_,_,_,e,_⟩:=x;exact ⟨_,e⟩
  | ins C dx fs=>obtain ⟨_,_,_,e,_⟩:=x;exact ⟨_,e⟩
  | own y=>exact x
  | xd fs=>obtain ⟨_,⟨_,_,_,e,_⟩,_⟩:=x;exact ⟨_,e⟩
  | rng lo hi=>obtain ⟨_,_,_,e⟩:=x;exact ⟨_,e⟩
  | frz ob u=>obtain ⟨e,_⟩:=x;exact ⟨_,e⟩
  | tbl ps=>exact ⟨_,x⟩
  | met f y=>exact ⟨_,x⟩
  | ext φ=>obtain ⟨_,e,_⟩:=x;exact e
structure Fly (P:Program) (w:World) (B:Heap) (fs:List Addr) (H:Hp) (h0:Heap) (H':Hp) (h:Heap):Prop where
  un:Un fs [] H H' h0 h
  hok:HOk P w H' h
  old:∀ b o,h0.get? b=some o→b ∉ fs→∃ o',B.get? b=some o'∧(H b=none→o'=o)
  trk:∀ b u,H' b=some u→∃ o,h.get? b=some o∧B.get? b=some o
section
variable {P:Program} {w:World} {B h0 h h2:Heap} {fs:List Addr} {H H':Hp}
theorem Fly.on (x:Fly P w B fs H h0 H' h) (sb:B.StaysIn h2) (sm:∀ b∈fs,∀ o,h.get? b=some o→∃ sl,h2.get? b=some { o with slots:=sl }):Fly P w B fs H h0 H' h2:=by
  have kp:∀ b o,h0.get? b=some o→H b=none→b ∉ fs→h2.get? b=some o:=fun b o q n hb=>by
    obtain ⟨o',e,k⟩:=x.old b o q hb
    rw [← k n];exact sb b o' e
  have sl:∀ b o,h0.get? b=some o→H b=none→b∈fs→∃ s,h2.get? b=some { o with slots:=s }:=fun b o q n hb=>by
    obtain ⟨s1,e1⟩:=x.un.slot b o q n hb (by simp)
    obtain ⟨s2,e2⟩:=sm b hb _ e1
    exact ⟨s2,e2⟩
  refine ⟨⟨fun b o q n hb _=>kp b o q n hb,fun b o q n hb _=>sl b o q n hb,x.un.free,fun b o q _=>?_,x.un.tups,x.un.frzs,x.un.tbls⟩,fun a u e=>?_,x.old,fun b u e=>?_⟩
  · by_cases hb:b∈fs
    · obtain ⟨o1,e1⟩:=x.un.there b o q (by simp)
      obtain ⟨s2,e2⟩:=sm b hb _ e1
      exact ⟨_,e2⟩
    · obtain ⟨o',e,_⟩:=x.old b o q hb
      exact ⟨o',sb b o' e⟩
  · refine (x.hok a u e).stay (fun b v hb q=>?_) (fun _ q=>q) fun _ _ q=>q
    have tr:∃ u',H' b=some u':=by
      rcases hb with z | z
      · exact ⟨u,by rw [z];exact e⟩
      · exact ⟨_,z⟩
    obtain ⟨u',e'⟩:=tr
    obtain ⟨o,e1,e2⟩:=x.trk b u' e'
    rw [q] at e1;cases e1
    exact sb b v e2
  · obtain ⟨o,e1,e2⟩:=x.trk b u e
    exact ⟨o,sb b o e2,e2⟩
end
def CXE (P:Program) (w:World):CXT:=fun outer H s E e s'=>∃ (ea t C:Addr) (B:Heap) (H':Hp),e=.ref ea∧s'.os=s.os∧AllBare s'.gens∧Fly P w B (frs outer) H s.heap H' s'.heap∧Heap.FlyingW B outer ea (.ref C) (.ref t) s'.heap ∧
  s.heap.get? ea=none∧H' ea=none∧E (.ref C) (some ea) H'
theorem mU {env:Env} {l:List Env} {L:Addr} (hf:env.frame=some L):frs (env :: l)=L :: frs l:=by unfold frs;rw [List.filterMap_cons,hf]
theorem Hr {l:List Env}:∀ env∈l,∀ b,env.frame=some b→b∈frs l:=fun env he b hb=>List.mem_filterMap.mpr ⟨env,he,hb⟩
theorem gU {B h:Heap} {l:List Env} {h2:Heap} (f:h.FunFrames B l) (sm:h.UpToSlots h2):∀ b∈frs l,∀ o,h.get? b=some o→∃ sl,h2.get? b=some { o with slots:=sl }:=fun b hb o e=>by
  obtain ⟨_,o',e',d⟩:=f.mem hb
  rw [e] at e';cases e'
  exact sm b o e d
section
variable {X:Cx} {pins:List (Addr × Obj)} {σ:St} {H:Hp} {s:Shared} {E:XK}
structure Body (X:Cx):Prop where
  st:X.stack=X.env :: X.outer
  fr:X.env.frame=some X.env.locals
  ex:X.ex=[]
theorem Inv.pI (I:Inv X pins σ H s) (hB:Body X) {b:Addr} {o:Obj} (e:X.s₀.heap.get? b=some o) (hb:b ∉ frs X.outer):b ∉ frs X.stack:=by
  rw [hB.st,mU hB.fr]
  intro hm
  rcases List.mem_cons.mp hm with z | z
  · exact absurd (Heap.lt_size e) (by rw [z];exact Nat.not_lt.mpr I.ok.above)
  · exact hb z
theorem nQ {e C:Addr} {args:List Value} {h':Heap} {F:Value→Shared→Prop} (hB:Body X) (I:Inv X pins σ H s) (hm:Heap.MadeExcOf s.heap h' e (.ref C) args) (hE:H e=none→E (.ref C) (some e) H) :
    wpAny (model X.prog X.w) X.A (leaving X.env (.ref e)) (fun _ s''=>CXE X.prog X.w X.outer X.H₀ X.s₀ E (.ref e) s'') F { s with heap:=h' }:=by
  have hfr:X.A.frames=some (X.env :: X.outer):=by rw [← hB.st];exact I.ok.frames
  have stk:=I.stack
  have hl:s.heap.FunFrames (hideAll s.heap (frs X.stack)) (X.env :: X.outer):=by
    have:=funFrames_hide stk Hr
    rw [hB.st] at this ⊢;exact this
  have hne:∀ b o,s.heap.get? b=some o→b ∉ frs X.stack→(hideAll s.heap (frs X.stack)).get? b=some o:=fun b o q n=>hideAll_get _ q n
  have htr:∀ b u,H b=some u→∃ o,s.heap.get? b=some o∧(hideAll s.heap (frs X.stack)).get? b=some o:=fun b u q=>by
    obtain ⟨o,eo⟩:=(I.hok b u q).obj
    exact ⟨o,eo,hne b o eo fun z=>by rw [I.oX b z] at q;cases q⟩
  have hnx:∀ b:Addr,b ∉ X.ex:=fun b=>by rw [hB.ex];simp
  refine wpAny_leaves_madeW (base:=hideAll s.heap (frs X.stack)) (h:=s.heap) hfr hB.fr (fun b o q=>of_hideAll _ q) hl hm fun h2 t fl _ _ sm=>?_
  have F0:Fly X.prog X.w (hideAll s.heap (frs X.stack)) (frs X.outer) X.H₀ X.s₀.heap H s.heap:=by
    refine ⟨?_,I.hok,fun b o q n=>?_,htr⟩
    · have u:=I.base
      rw [hB.ex] at u
      exact u
    · obtain ⟨o',e'⟩:=I.base.there b o q (hnx b)
      refine ⟨o',hne b o' e' (I.pI hB q n),fun z=>?_⟩
      have:=I.base.keep b o q z n (hnx b)
      rw [e'] at this;exact Option.some.inj this
  have F1:=F0.on (h2:=h2) fl.1 fun b hb o q=>by
    have hb':b∈frs X.stack:=by rw [hB.st,mU hB.fr];exact List.mem_cons_of_mem _ hb
    obtain ⟨_,o',e',d⟩:=stk.mem hb'
    rw [q] at e';cases e'
    exact sm b o (hm.keeps b o q) d
  have he0:H e=none:=by
    cases q:H e with
    | none=>rfl
    | some u =>
      obtain ⟨o,eo⟩:=(I.hok e u q).obj
      rw [hm.new] at eo;cases eo
  refine ⟨e,t,C,_,H,rfl,I.os,I.bare,F1,fl,?_,he0,hE he0⟩
  · cases q:X.s₀.heap.get? e with
    | none=>rfl
    | some o =>
      obtain ⟨o',e'⟩:=I.base.there e o q (hnx e)
      rw [hm.new] at e';cases e'
theorem pO {e:Value} {s':Shared} {F:Value→Shared→Prop} (hB:Body X) (I:Inv X pins σ H s) (h:CXE X.prog X.w X.stack H s E e s') :
    wpAny (model X.prog X.w) X.A (leaving X.env e) (fun _ s''=>CXE X.prog X.w X.outer X.H₀ X.s₀ E e s'') F s':=by
  obtain ⟨ea,t,C,B,H',rfl,os,bare,fl,fy,new,nh,hE⟩:=h
  have hfr:X.A.frames=some (X.env :: X.outer):=by rw [← hB.st];exact I.ok.frames
  have hnx:∀ b:Addr,b ∉ X.ex:=fun b=>by rw [hB.ex];simp
  rw [hB.st] at fy
  refine wpAny_leaves_onW hfr hB.fr fy fun h2 fy2 sm=>?_
  have sub:∀ b,b∈frs X.outer→b∈frs X.stack:=fun b hb=>by rw [hB.st,mU hB.fr];exact List.mem_cons_of_mem _ hb
  have F0:Fly X.prog X.w B (frs X.outer) X.H₀ X.s₀.heap H' s'.heap:=by
    refine ⟨⟨fun b o q n hb _=>?_,fun b o q n hb _=>?_,fun b o q n _=>?_,fun b o q _=>?_,fun b xs q=>fl.un.tups b xs (I.base.tups b xs q),fun b o u q=>fl.un.frzs b o u (I.base.frzs b o u q),fun b ps q=>?_⟩,fl.hok,fun b o q n=>?_,fl.trk⟩
    · have e1:=I.base.keep b o q n hb (hnx b)
      exact fl.un.keep b o e1 (I.base.free b o q n (hnx b)) (I.pI hB q hb) (by simp)
    · obtain ⟨s1,e1⟩:=I.base.slot b o q n hb (hnx b)
      obtain ⟨s2,e2⟩:=fl.un.slot b _ e1 (I.base.free b o q n (hnx b)) (sub b hb) (by simp)
      exact ⟨s2,e2⟩
    · obtain ⟨o',e'⟩:=I.base.there b o q (hnx b)
      exact fl.un.free b o' e' (I.base.free b o q n (hnx b)) (by simp)
    · obtain ⟨o',e'⟩:=I.base.there b o q (hnx b)
      exact fl.un.there b o' e' (by simp)
    · obtain ⟨m1,e1⟩:=I.base.tbls b ps q
      obtain ⟨m2,e2⟩:=fl.un.tbls b _ e1
      exact ⟨m1++m2,by rw [e2,Array.append_assoc]⟩
    · obtain ⟨o',e'⟩:=I.base.there b o q (hnx b)
      obtain ⟨o2,e2,k⟩:=fl.old b o' e' (I.pI hB q n)
      refine ⟨o2,e2,fun z=>?_⟩
      rw [k (I.base.free b o q z (hnx b))]
      have:=I.base.keep b o q z n (hnx b)
      rw [e'] at this;exact Option.some.inj this
  have F1:=F0.on (h2:=h2) fy2.1 fun b hb o q=>by
    obtain ⟨_,o',e',d⟩:=fy.2.2.1.mem (by rw [hB.st] at sub;exact sub b hb)
    rw [q] at e';cases e'
    exact sm b o q d
  refine ⟨ea,t,C,B,H',rfl,os.trans I.os,bare,F1,fy2,?_,nh,hE⟩
  cases q:X.s₀.heap.get? ea with
  | none=>rfl
  | some o =>
    obtain ⟨o',e'⟩:=I.base.there ea o q (hnx ea)
    rw [new] at e';cases e'
end
section
variable {P:Program} {w:World} {K:PySem.W.Frag} {mg:Str→Option Value} {base:Heap} {N:List Str} {qual:Str} {scope:Scope} {f:Addr} {cd:Value} {A:Around} {outer:List Env} {s:Shared} {H:Hp} {E:XK}
theorem m5 {CX:CXT}:Body (uY CX P w K mg base N qual scope f cd A outer s H E):=⟨rfl,rfl,rfl⟩
theorem Fj:Passes (CXE P w) (uY (CXE P w) P w K mg base N qual scope f cd A outer s H E) E:=fun _ _ _ _ _ _ I h=>pO m5 I h
theorem Fun.okX {x:Str} {st:Stmt} {fd:FuncData} {ps:List Str} {k:Nat} {sp:Sp} (F:Fun K x qual st f fd) (S:aO N ps (ak st)) (len:∀ vs H Q E,sp vs H Q E→vs.length=ps.length)
    (hbody:∀ (cdv:Value) (A:Around) (outer:List Env) (s:Shared) (H:Hp) (vs:List V) (Q:VK) (E:XK),jw k (A.deeper (envOfC qual (ak st) s.heap.objs.size f cdv))→sp vs H Q E →
      ∃ t,PSs (uY (CXE P w) P w K mg base N qual (ak st) f cdv A outer s H E) (ao st) t∧t { nx:=fun _ H'=>Q .non H',rt:=Q } (start N vs) H):bW P w K mg base (CXE P w) (k + 1) f fd ps sp:=by
  obtain ⟨oc,od,kV,doc,pm,an,cdv,ct,osl,rfl,lk,hcd⟩:=F.ex
  exact Fy lk hcd S len fun A outer s H vs Q E hr hsp=>hbody cdv A outer s H vs Q E hr hsp
end
end L2
namespace L2
open PySem PySem.W PySem.Spec PySem.Calls PyProof.Rows
abbrev Ej:List Value:=[.type "ValueError",.type "Exception",.type "BaseException",.type "object"]
theorem Fz {K:Frag} {h:Heap} {C:Addr} (X:K.In h) (q:excIn K C Ej "ValueError.__new__"=true) :
    ∃ bm N nm qn bs hdct sn sub ab col dd k0 k1 k2 k3 k5 mN,h.get? C=some (excClassObj nm qn C N bs bm hdct sn sub ab col dd k0 k1 k2 k3 k5 "ValueError.__new__")∧h.Ns N mN∧mN "__init__"=none∧OwnTail h Ej bm:=by
  unfold excIn at q
  split at q
  · rename_i d1 c1 s1 look
    split at q
    · rename_i C1 bm1 a0 a1 a2 a3 n1 a5 m1 l1
      simp only [Bool.and_eq_true,beq_iff_eq,Bool.not_eq_true'] at q
      obtain ⟨⟨⟨⟨⟨e1,e2⟩,e3⟩,e4⟩,e5⟩,e6⟩:=q
      subst e1 e2
      obtain ⟨nm,bs,mro,ns,qn,hd,sn,sub,ab,col,del⟩:=c1
      dsimp only at m1 e3 e5 e6
      subst m1 e3
      have es:s1=#[a0,a1,a2,a3,some (.builtin "ValueError.__new__"),a5]:=by cases s1;simp only at l1;rw [l1]
      subst es
      exact ⟨bm1,ns,nm,qn,bs,hd,sn,sub,ab,col,d1,a0,a1,a2,a3,a5,_,X _ _ look,Heap.Ns.of_isNs (isNs_of_in X e5),nsMap_none_of_in X e5 e6,tail_of_in X e4⟩
    · cases q
  · cases q
def Gv (E:XK) (C:Addr) (ta:TA):TS:=fun _ σ H=>ta σ H fun vs H1=>vs.length≤sizeLine∧∀ e,H1 e=none→E (.ref C) (some e) H1
section
variable {X:Cx} {E:XK} {x:Str} {C:Addr} {np cpos pos:Pos} {e0:Expr} {ta:TA}
theorem mK (hB:Body X) (hc:X.calm=true) (hx:∀ e s',wpAny (model X.prog X.w) X.A (leaving X.env e) (fun _ s''=>CXE X.prog X.w X.outer X.H₀ X.s₀ E e s'') (fun e s''=>CXE X.prog X.w X.outer X.H₀ X.s₀ E e s'') s'→X.xe e s')
    (hg:Gl X x) (hm:X.mg x=some (.ref C)) (hq:excIn X.K C Ej "ValueError.__new__"=true) (ha:PA X [e0] ta) (he:starEach [e0] X.env=[(false,eval e0 X.env)]:=by rfl) (hd:(x == ("__debug__":Str))=false:=by decide) :
    PS X (.Raise (some (.Call (.Name x np) [e0] [] cpos)) none pos) (Gv E C ta):=by
  intro pins s σ H D I h
  obtain ⟨bm,Nn,nm,qn,bs,hdct,sn,sub,ab,col,dd,k0,k1,k2,k3,k5,mN,hC,hN,hni,TL⟩:=Fz I.ok.mod.kin hq
  refine wpAny_Raise_call_subU (C:=C) (nm:=nm) (q:=qn) (N:=Nn) (bs:=bs) (bm:=bm) (hdct:=hdct) (sn:=sn) (sub:=sub) (ab:=ab) (col:=col) (dd:=dd) (k0:=k0) (k1:=k1) (k2:=k2) (k3:=k3) (k5:=k5) (mN:=mN) (newId:="ValueError.__new__")
    PySem.F.excBase_ValueError PySem.F.excBase_ValueError.hasB PySem.F.excBase_ValueError (TL.hasType PySem.F.excBase_ValueError.hasBase) (I.ok.hd hc) (by rw [he];rfl) hni ?_
  refine kI I hg hm ⟨rfl,?_⟩ hd
  have a:=ha cpos pins s σ H _ I h
  rw [he] at a ⊢
  refine Calls.evalArgs_plain (wpAny_mono a (fun us s1 ⟨vs,H1,I1,r1,hz,q1⟩=>?_) fun _ _ z=>z)
  exact ⟨rfl,by show us.length≤_;rw [← r1.length];exact hz,I1.bk _ _ hC,hN.keeps I1.bk,TL.keeps I1.bk,fun h' e mk=>hx _ _ (nQ hB I1 mk (q1 e))⟩
end
end L2
namespace L2
open PySem PySem.W PySem.Spec PySem.Calls PyProof.Rows
def XS (X:Cx) (pins:List (Addr × Obj)) (Ex:St→XK) (ev:Value) (s':Shared):Prop:=∃ σ H s,Inv X pins σ H s∧CXE X.prog X.w X.stack H s (Ex σ) ev s'
def PEx (X:Cx) (e:Expr) (t:St→Hp→VK→XK→Prop):Prop :=
  ∀ (pins:List (Addr × Obj)) (s:Shared) (σ:St) (H:Hp) (Q:VK) (Ex:St→XK),Inv X pins σ H s→t σ H Q (Ex σ)→wpAny (model X.prog X.w) X.A (eval e X.env) (EP X pins σ Q) (XS X pins Ex) s
abbrev TX:=Ends→(St→XK)→St→Hp→Prop
def PSx (X:Cx) (st:Stmt) (t:TX):Prop :=
  ∀ (pins:List (Addr × Obj)) (s:Shared) (σ:St) (H:Hp) (D:Ends) (Ex:St→XK),Inv X pins σ H s→t D Ex σ H→wpAny (model X.prog X.w) X.A (exec st X.env) (SP X pins D) (XS X pins Ex) s
def Qy (X:Cx) (sts:List Stmt) (t:TX):Prop :=
  ∀ (pins:List (Addr × Obj)) (s:Shared) (σ:St) (H:Hp) (D:Ends) (Ex:St→XK),Inv X pins σ H s→t D Ex σ H→wpAny (model X.prog X.w) X.A (execs sts X.env) (SP X pins D) (XS X pins Ex) s
section
variable {X:Cx} {k:Nat} {f:Addr} {fd:FuncData} {ps:List Str} {sp:Sp} {dvs:List V} {ds:List Value} {x:Str} {p pos:Pos} {e:Expr} {es:List Expr} {t:TA}
theorem Ep {te:St→Hp→VK→XK→Prop} {pos:Pos} (he:PEx X e te) (hs:swapsWith e none pos.line X.env=pure false:=by rfl):PSx X (.Expr e pos) (fun D Ex σ H=>te σ H (fun _ H1=>D.nx σ H1) (Ex σ)):=by
  intro pins s σ H D Ex I h
  exact wpAny_Expr_any (wpAny_mono (he pins s σ H _ Ex I h) (fun v s1 ⟨x,H1,I1,r1,q1⟩=>⟨σ,H1,I1,q1⟩) fun _ _ z=>z) I.quiet hs
theorem Eo {st:Stmt} {tx:TX} (h:PSx X st tx):Qy X [st] tx:=by
  intro pins s σ H D Ex I hq
  refine wpAny_execs_cons (wpAny_mono (h pins s σ H D Ex I hq) (fun fl s1 q=>?_) fun _ _ z=>z)
  cases fl with
  | next=>exact wpAny_execs_nil q
  | ret v=>exact q
  | brk=>exact q
  | cont=>exact q
end
section
variable {X:Cx} {pins:List (Addr × Obj)} {σ:St} {H:Hp} {s:Shared}
def qR (X:Cx) (e:Addr):Cx:={ X with A:=X.A.mark (some (.ref e)),calm:=false,xe:=fun _ _=>False }
theorem Inv.sup (I:Inv X pins σ H s) (e:Addr):Inv (qR X e) pins σ H s :=
  ⟨⟨I.ok.mod,I.ok.kind,I.ok.glob,I.ok.blt,I.ok.above,I.ok.inj,I.ok.has,I.ok.cab,fun z=>(by cases z),I.ok.frames,I.ok.stk,I.ok.exf,I.ok.bs,I.ok.bsz,I.ok.noex,I.ok.exfs,I.ok.qF,I.ok.frf⟩,I.os,I.bare,I.base,I.loc,I.cell,I.free,I.freeC,I.pin,I.hok,I.len⟩
theorem Inv.M4 {e:Addr} (hc:X.calm=true→X.A.handled=none) (I:Inv (qR X e) pins σ H s):Inv X pins σ H s :=
  ⟨⟨I.ok.mod,I.ok.kind,I.ok.glob,I.ok.blt,I.ok.above,I.ok.inj,I.ok.has,I.ok.cab,hc,I.ok.frames,I.ok.stk,I.ok.exf,I.ok.bs,I.ok.bsz,I.ok.noex,I.ok.exfs,I.ok.qF,I.ok.frf⟩,I.os,I.bare,I.base,I.loc,I.cell,I.free,I.freeC,I.pin,I.hok,I.len⟩
theorem Inv.Ms {a:Addr} {o:HO} (I:Inv X pins σ H s) (hn:H a=none) (hL:a≠X.env.locals) (h0:X.s₀.heap.get? a=none) (hc:∀ x c,X.env.cells.lookup x=some c→c≠a) (hp:∀ p∈X.pn++pins,p.1≠a)
    (new:fG X.prog X.w (upd H a o) s.heap a o):Inv X pins σ (upd H a o) s:=by
  have ne:∀ b u,H b=some u→b≠a:=fun b u e=>cg e hn
  refine ⟨I.ok,I.os,I.bare,⟨I.base.keep,I.base.slot,fun b ob e n hx=>?_,I.base.there,fun b xs e=>?_,fun b ob xs e=>?_,fun b ps e=>?_⟩,I.loc,I.cell,?_,fun x c e=>?_,fun p hq=>?_,fun b u e=>?_,I.len⟩
  · rw [aR fun z=>by rw [z,h0] at e;cases e];exact I.base.free b ob e n hx
  · have:=I.base.tups b xs e;rw [aR (ne b _ this)];exact this
  · have:=I.base.frzs b ob xs e;rw [aR (ne b _ this)];exact this
  · obtain ⟨m,e1⟩:=I.base.tbls b ps e;exact ⟨m,by rw [aR (ne b _ e1)];exact e1⟩
  · rw [aR hL.symm];exact I.free
  · rw [aR (hc x c e)];exact I.freeC x c e
  · obtain ⟨e1,n,r⟩:=I.pin p hq;exact ⟨e1,by rw [aR (hp p hq)];exact n,r⟩
  · by_cases hb:b=a
    · subst hb;rw [cB] at e;cases e;exact new
    · rw [aR hb] at e
      exact (I.hok b u e).stay (fun _ _ _ q=>q) (fun c q=>by rw [aR (ne c _ q)];exact q) fun c xs q=>by rw [aR (ne c _ q)];exact q
theorem Inv.Gq {i:Nat} {n:Str} {h':Heap} {v:Option Value} {m:Str→Option Value} {t':Nat} (I:Inv X pins σ H s) (hN:X.N.Nodup) (hi:X.N[i]?=some n) (hs:Heap.SameBut X.env.locals s.heap h') (hm:s.heap.Ns X.env.locals m)
    (hl:∀ (j:Nat) (x:Str) (w:V),X.N[j]?=some x→σ[j]?=some (some w)→Vis X.env.scope x→∃ u,RelV w u∧Look X.env s.heap m x u) (hn:h'.Ns X.env.locals (fun x=>if x=n then v else m x)):Inv X pins (σ.set i none) H { s with heap:=h',toks:=t' }:=by
  have kp:∀ b o,b≠X.env.locals→s.heap.get? b=some o→h'.get? b=some o:=fun b o hb e=>(hs.2 b hb).trans e
  have old:∀ b o,X.s₀.heap.get? b=some o→b≠X.env.locals:=fun b o e=>Nat.ne_of_lt (Nat.lt_of_lt_of_le (Heap.lt_size e) I.ok.above)
  refine ⟨I.ok,I.os,I.bare,⟨fun b o e n hb hx=>kp b o (old b o e) (I.base.keep b o e n hb hx),fun b o e n hb hx=>?_,I.base.free,fun b o e hx=>?_,I.base.tups,I.base.frzs,I.base.tbls⟩,⟨_,hn,fun j x w e1 e2 e3=>?_⟩,fun x c e=>?_,I.free,I.freeC,fun p hp=>?_,fun b u e=>?_,by rw [List.length_set];exact I.len⟩
  · obtain ⟨sl,e1⟩:=I.base.slot b o e n hb hx
    exact ⟨sl,kp b _ (old b o e) e1⟩
  · obtain ⟨o',e1⟩:=I.base.there b o e hx
    exact ⟨o',kp b _ (old b o e) e1⟩
  · by_cases hj:j=i
    · subst hj
      have hj':j<σ.length:=by
        have:=(List.getElem?_eq_some_iff.mp e2).1
        rw [List.length_set] at this;exact this
      rw [List.getElem?_set_self hj'] at e2;cases e2
    · rw [List.getElem?_set_ne (Ne.symm hj)] at e2
      have hx:x≠n:=fun z=>by
        subst z
        obtain ⟨a1,a2⟩:=List.getElem?_eq_some_iff.mp e1
        obtain ⟨b1,b2⟩:=List.getElem?_eq_some_iff.mp hi
        exact hj ((List.getElem_inj hN).mp (a2.trans b2.symm))
      obtain ⟨u,r,l⟩:=hl j x w e1 e2 e3
      refine ⟨u,r,?_⟩
      rcases l with ⟨k,z⟩ | ⟨k,c,ec,z⟩
      · exact .inl ⟨k,by dsimp only;rw [if_neg hx];exact z⟩
      · refine .inr ⟨k,c,ec,?_⟩
        obtain ⟨o,ho,hd⟩:=z
        exact ⟨o,kp c o (I.cne x c ec) ho,hd⟩
  · obtain ⟨w,o,ho,hd⟩:=I.cell x c e
    exact ⟨w,o,kp c o (I.cne x c e) ho,hd⟩
  · obtain ⟨e1,n1,l1,r⟩:=I.pin p hp
    exact ⟨kp _ _ l1 e1,n1,l1,r⟩
  · refine (I.hok b u e).stay (fun c w hc q=>kp c w (fun z=>?_) q) (fun _ q=>q) fun _ _ q=>q
    rcases hc with y | y
    · rw [← y,z,I.free] at e;cases e
    · rw [z,I.free] at y;cases y
end
end L2
namespace L2
open PySem PySem.W PySem.Spec PySem.Calls PyProof.Rows
def MP (K:PySem.W.Frag) (Bc:Value) (i:Nat) (th:TS) (D:Ends):St→XK:=fun σ cls oe H=>∃ C e,cls=.ref C∧oe=some e∧exmOne K (.ref C) Bc=some true ∧
  th { nx:=fun σ' H'=>D.nx (σ'.set i none) H',rt:=D.rt,bk:=fun σ' H'=>D.bk (σ'.set i none) H',ct:=fun σ' H'=>D.ct (σ'.set i none) H' } (σ.set i (some (.ref e))) (upd H e (.ext (XAt e C)))
def tTry (K:PySem.W.Frag) (Bc:Value) (i:Nat) (tb:TX) (th:TS):TS:=fun D σ H=>tb D (MP K Bc i th D) σ H
section
variable {X:Cx} {body suite:List Stmt} {b0:Stmt} {x n:Str} {Ba:Addr} {i:Nat} {tb:TX} {th:TS} {np hpos pos:Pos}
theorem GD (hB:Body X) (hc:X.calm=true) (hb:Qy X body tb) (hg:Gl X x) (hm:X.mg x=some (.ref Ba)) (hN:X.N.Nodup) (hi:X.N[i]?=some n) (hlo:X.env.scope.names.lookup n=some .local)
    (hs:∀ e:Addr,PSs (qR X e) (b0 :: suite) th) (hd:(x == ("__debug__":Str))=false:=by decide) :
    PS X (.Try body [.ExceptHandler (some (.Name x np)) (some n) (b0 :: suite) hpos] [] [] pos) (tTry X.K (.ref Ba) i tb th):=by
  intro pins s σ H D I h
  refine wpAny_Try_except (wpAny_mono (hb pins s σ H D _ I h) (fun fl s1 q=>?_) fun ev s1 q=>?_)
  · cases fl with
    | next=>exact wpAny_execs_nil q
    | ret v=>exact q
    | brk=>exact q
    | cont=>exact q
  obtain ⟨σ1,H1,s0,I1,ea,t,C,B,H',rfl,os,bare,fl,fy,new,nh,C',e',ec,ee,hx,ht⟩:=q
  cases ec
  cases ee
  have hfr:X.A.frames=some (X.env :: X.outer):=by rw [← hB.st];exact I1.ok.frames
  have fy0:Heap.FlyingW B (X.env :: X.outer) ea (.ref C) (.ref t) s1.heap:=by rw [← hB.st];exact fy
  refine wpAny_looks_onW hfr hB.fr fy0 fun h4 hd4 sm4=>?_
  have fl4:=fl.on (h2:=h4) hd4.1 (gU fy.2.2.1 sm4)
  refine wpAny_landsW hd4 fun h5 fy5 sm5=>?_
  have fl5:=fl4.on (h2:=h5) fy5.1 (by rw [hB.st];exact gU hd4.2.2.1 sm5)
  have I5:Inv X pins σ1 H' { s1 with heap:=h5 }:=I1.call' (s':={ s1 with heap:=h5 }) (ch:=[]) os fl5.un fl5.hok bare (fun b z=>nomatch z)
  have hxe:XAt ea C h5:=by obtain ⟨ob,h1,h2⟩:=fy5.there;exact ⟨ob,h1,h2⟩
  refine wpAny_handleBy_cons (codeAny_handlers_test ?_) (by intro q;cases q)
  refine kI (X:=qR X ea) (I5.sup ea) hg hm ?_ hd
  refine (exm_one (K:=X.K) I5.kIn (rH hxe) hx).at ?_
  show codeAny _ _ _ _ _
  refine codeAny_handlers_suite_as ?_
  refine lands_againW fy5 fun h6 fy6 sm6=>?_
  have fl6:=fl5.on (h2:=h6) fy6.1 (by rw [hB.st];exact gU fy5.2.2.1 sm6)
  have I6:Inv X pins σ1 H' { s1 with heap:=h6 }:=I1.call' (s':={ s1 with heap:=h6 }) (ch:=[]) os fl6.un fl6.hok bare (fun b z=>nomatch z)
  have hxe6:XAt ea C h6:=by obtain ⟨ob,h1,h2⟩:=fy6.there;exact ⟨ob,h1,h2⟩
  have newS:X.s₀.heap.get? ea=none:=by
    cases q:X.s₀.heap.get? ea with
    | none=>rfl
    | some o =>
      obtain ⟨o',e'⟩:=I1.base.there ea o q (by rw [hB.ex];simp)
      rw [new] at e';cases e'
  have I7:Inv X pins σ1 (upd H' ea (.ext (XAt ea C))) { s1 with heap:=h6 }:=by
    refine I6.Ms nh (fun z=>?_) newS (fun y c e z=>?_) (fun p hp z=>?_) ⟨hxe6,(by obtain ⟨o,h1,_⟩:=hxe6;exact ⟨o,h1⟩),fun g1 g2 p k=>?_⟩
    · obtain ⟨m,⟨o,_,_,ho,_⟩,_⟩:=I1.loc
      rw [← z,new] at ho;cases ho
    · obtain ⟨v,o,ho,_⟩:=I1.cell y c e
      rw [z,new] at ho;cases ho
    · have ho:=(I1.pin p hp).1
      rw [z,new] at ho;cases ho
    · obtain ⟨o,h1,h2⟩:=p
      exact ⟨o,k o h1,h2⟩
  refine lY (X:=qR X ea) (I7.sup ea) hN hi (.inl hlo) (v:=.ref ea) rfl (fun s8 I8=>?_) (.inr hlo)
  refine wpAny_mono (hs ea pins s8 _ _ _ I8 ht) (fun f s9 q=>?_) fun _ _ z=>z.elim
  have out:∀ {σ9:St} {H9:Hp} (J:Inv (qR X ea) pins σ9 H9 s9) (Z:Shared→Prop),(∀ s10,Inv X pins (σ9.set i none) H9 s10→Z s10)→wpAny (model X.prog X.w) X.A (do bindName X.env n .none;unbindBehindTheSuite X.env n hpos) (fun _ s10=>Z s10) X.xe s9:=fun {σ9 H9} J Z k=>by
    have J':Inv X pins σ9 H9 s9:=J.M4 fun hc=>I1.ok.hd hc
    obtain ⟨m,hn,hl⟩:=id J'.loc
    exact wpAny_nameGoes_keeps hlo hn (by rw [J'.ok.kind];rfl) fun h' v hn' hsb=>k _ (J'.Gq hN hi hsb hn hl hn')
  cases f with
  | next=>obtain ⟨σ9,H9,J,q⟩:=q;exact out J _ fun s10 J10=>⟨_,H9,J10,q⟩
  | brk=>obtain ⟨σ9,H9,J,q⟩:=q;exact out J _ fun s10 J10=>⟨_,H9,J10,q⟩
  | cont=>obtain ⟨σ9,H9,J,q⟩:=q;exact out J _ fun s10 J10=>⟨_,H9,J10,q⟩
  | ret u=>obtain ⟨v,σ9,H9,J,r,q⟩:=q;exact out J _ fun s10 J10=>⟨v,_,H9,J10,r,q⟩
def ClsV (c:V) (t:Value):Prop:=(∃ T,c=.ty T∧t=.type T)∨∃ a,c=.ref a∧t=.ref a
theorem iy:jH X (.builtin "isinstance") (fun xs H Q=>∃ (e D:Addr) (c:V) (t:Value) (b:Bool),xs=[.ref e,c]∧H e=some (.ext (XAt e D))∧Ga X.K D∧ClsV c t∧PySem.W.kitOne X.K (.ref D) t=some b∧Q (.bl b) H):=by
  intro pins s σ H xs us Q I r h
  obtain ⟨e,D,c,t,b,rfl,he,hD,hc,hk,q⟩:=h
  obtain ⟨u,v,rfl,ru,rv⟩:=vals2 r
  cases ru
  have ev:v=t:=by
    rcases hc with ⟨T,rfl,rfl⟩ | ⟨a,rfl,rfl⟩
    · exact rv
    · exact rv
  subst ev
  obtain ⟨hx,_,_⟩:=(show fG X.prog X.w H s.heap e (.ext (XAt e D)) from I.hok e _ he)
  exact PySem.W.kia_one (wg hD) I.kIn hx hk (fun z=>nomatch z) fun tk=>⟨.bl b,H,I.tok tk,rfl,q⟩
end
theorem FQ:bootBuiltins "ValueError"=some (.type "ValueError"):=by kernel_rfl
theorem Fi {X:Cx}:Passes (CXE X.prog X.w) X E0:=fun _ _ _ _ _ _ _ h=>by
  obtain ⟨_,_,_,_,_,_,_,_,_,_,_,_,hE⟩:=h
  exact hE.elim
theorem xg {X:Cx} {x:Str} {C:Addr} {pos:Pos} (hg:Gl X x) (hm:X.mg x=some (.ref C)) (hd:(x == ("__debug__":Str))=false:=by decide):PE X (.Name x pos) (tC (.ref C)):=fL (v:=.ref C) hg hm rfl hd
structure u6 (K:PySem.W.Frag) (mg:Str→Option Value) (x:Str) (C:Addr):Prop where
  m:mg x=some (.ref C)
  q:excIn K C Ej "ValueError.__new__"=true
  x:Ga K C
end L2
namespace L2
open PySem PySem.Spec PyProof.Rows
section
variable {X:Cx}
theorem Inv.rK {pins:List (Addr × Obj)} {σ:St} {H:Hp} {s:Shared} {h':Heap} {t':Nat} {ch:List Addr} (I:Inv X pins σ H s) (k:∀ b o,b ∉ ch→s.heap.get? b=some o→h'.get? b=some o) (f:∀ b∈ch,wM X pins H b):Inv X pins σ H { s with heap:=h',toks:=t' }:=by
  have nit:∀ b u,H b=some u→b ∉ ch:=fun b u e z=>by rw [(f b z).1] at e;cases e
  refine I.step (g':=s.gens) (d':=s.drawn) (ch:=ch) (fun b hb=>?_) (fun b o _ _ hc e _=>k b o hc e) (fun b o _ _ hc e _=>⟨o.slots,k b o hc e⟩) (fun _ _ _ _ n=>n)
    (fun b o hc e=>⟨o,k b o hc e⟩) (fun _ _ e=>e) (fun _ _ _ e=>e) (fun b ps e=>⟨#[],by rw [e];simp⟩) (fun m hm=>?_) (fun b u e=>?_) I.bare
  · obtain ⟨f0,f1,f2,f3,f4,f5⟩:=f b hb
    exact ⟨f3,f1,f4,f5⟩
  · obtain ⟨o,es,ep,ho,r⟩:=hm
    exact ⟨o,es,ep,k _ o (fun z=>(f _ z).2.1 rfl) ho,r⟩
  · refine (I.hok b u e).stay (fun c v hc q=>k c v ?_ q) (fun _ q=>q) fun _ _ q=>q
    rcases hc with z | z
    · rw [z];exact nit b u e
    · exact nit c _ z
end
end L2
namespace L2
open PySem PySem.Spec PyProof.Rows
section
variable {X:Cx}
def Ite (K:PySem.W.Frag) (l:Addr) (xs:List V):It :=
  ⟨fun i H=>SqL K H l xs∧i<xs.length,fun i H x H'=>∃ T a,x=.ref T∧H T=none∧xs[i]?=some a∧H'=upd H T (.tup [.int (i:Int),a]),fun i H=>SqL K H l xs∧xs.length≤i⟩
def Mw (e it l:Addr) (i:Nat) (h:Heap):Prop:=(∃ old,IsEnum h e it i old)∧h.IsListIter it l i
theorem rN {P:Program} {w:World} {K:PySem.W.Frag} {elts:List Expr} {kk:Nat} {tpos:Pos} {e it l:Addr} {xs:List V} (hei:e≠it) :
    Turn P w K (.Tuple elts kk tpos) (Ite K l xs) [e,it] e (Mw e it l) where
  mem:=by simp
  obj:=fun i h st b hb=>by
    obtain ⟨⟨old,he⟩,⟨o1,e1,c1,d1⟩⟩:=st
    simp at hb
    rcases hb with rfl | rfl
    · exact ⟨_,he,fun v z=>by cases (show Data.fields _=Data.cell v from z)⟩
    · exact ⟨o1,e1,fun v z=>by rw [d1] at z;cases z⟩
  keep:=fun i h h' st k=>by
    obtain ⟨⟨old,he⟩,h1⟩:=st
    exact ⟨⟨old,k e (by simp) _ he⟩,h1.at fun o x=>k it (by simp) o x⟩
  item:=by
    intro X hP hw hK hc i pins s σ H E I hf st hg
    subst hP hw hK
    obtain ⟨⟨old,he⟩,h1⟩:=st
    obtain ⟨hq1,hi1⟩:=hg
    obtain ⟨its1,rv1,pl1,hz1⟩:=I.list hq1
    obtain ⟨u1,hu1,ru1⟩:=rv1.get (List.getElem?_eq_getElem hi1)
    refine wpAny_pyNext_enum_item he h1 pl1.isList (x:=u1) (by simpa using hu1) hei fun h' a1 a2 a3 a4 hk=>?_
    have lt:∀ {c o},s.heap.get? c=some o→s.heap.objs.size≠c:=fun e=>Nat.ne_of_gt (Heap.lt_size e)
    refine ⟨.ref s.heap.objs.size,rfl,wpAny_letOwnedTupleGo_enum (s:={ s with heap:=h',toks:=s.toks + 1 }) a1 fun h'' hz' hs'=>?_⟩
    have Tz:s.heap.objs.size≠e:=lt he
    have I1:Inv X pins σ H { s with heap:=h'',toks:=s.toks + 1 }:=I.rK (ch:=[e,it])
      (fun b o hb x=>hs'.extBut b o (fun z=>hb (by simp [z])) (hk b o (fun z=>hb (by simp [z])) (fun z=>hb (by simp [z])) x)) fun b hb=>hf b hb
    obtain ⟨F0,F1,F2,F3,F4,F5⟩:=I.Gj (H':=H) (Nat.le_refl _) (I.hok.fresh (Nat.le_refl _))
    have hT:IsTup h'' s.heap.objs.size #[.int (i:Int) s.toks,u1]:=⟨_,hs'.extBut _ _ Tz a3,rfl,_,rfl⟩
    have I2:Inv X pins σ (upd H s.heap.objs.size (.tup [.int (i:Int),xs[i]])) { s with heap:=h'',toks:=s.toks + 1 }:=I1.adopt F0 F1 I.sz F4 F5 (show fG X.prog X.w _ h'' _ (.tup [.int (i:Int),xs[i]]) from ⟨by rw [sizeLine_eq];simp,[.int (i:Int) s.toks,u1],.cons ⟨_,rfl⟩ (.cons ru1 .nil),hT⟩)
    refine ⟨.ref s.heap.objs.size,_,I2,rfl,⟨_,_,rfl,F0,List.getElem?_eq_getElem hi1,rfl⟩,?_,fun b hb=>?_⟩
    · exact ⟨⟨_,by simpa using hz'⟩,a2.extBut hs'.extBut hei.symm⟩
    · rw [aR]
      · exact (hf b hb).1
      · simp at hb
        obtain ⟨o1,e1,_⟩:=h1
        rcases hb with rfl | rfl
        · exact (lt he).symm
        · exact (lt e1).symm
  done:=by
    intro X hP hw hK hc i pins s σ H E I hf st hg
    subst hP hw hK
    obtain ⟨⟨old,he⟩,h1⟩:=st
    obtain ⟨hq1,hend⟩:=hg
    obtain ⟨its1,rv1,pl1,hz1⟩:=I.list hq1
    have e1:=rv1.length
    exact wpAny_pyNext_enum_end (I.ok.hd hc) he h1 pl1.isList (by simp;omega) fun h' hk=>⟨rfl,I.rK (t':=s.toks) (ch:=[e,it])
      (fun b o hb x=>hk b o (fun z=>hb (by simp [z])) x) fun b hb=>hf b hb⟩
  self:=fun _ _ _ _ _ st h=>by
    obtain ⟨⟨old,he⟩,_⟩:=st
    exact wpAny_pyIter_enum he h
def Nx (K:PySem.W.Frag) (ta:TA):TI:=fun σ H R=>ta σ H fun vs H1=>∃ l xs,vs=[.ref l]∧SqL K H1 l xs∧R (Ite K l xs) H1
theorem pB {elts:List Expr} {kk:Nat} {tpos:Pos} {a:Expr} {ta:TA} {p pos:Pos} (hg:Gl X "enumerate") (hm:X.mg "enumerate"=none) (ha:PA X [a] ta) (hs:starEach [a] X.env=[(false,eval a X.env)]:=by rfl) :
    PI X (.Tuple elts kk tpos) (.Call (.Name "enumerate" p) [a] [] pos) (Nx X.K ta):=by
  intro pins s σ H R I h
  refine Call_ (ou I hg hm boot_enumerate (PyProof.Rows.callWith_type1 (thn (ha pos pins s σ H _ I h) fun us s1 ⟨vs,H1,I1,r1,q1⟩=>?_) hs rfl))
  obtain ⟨l1,xs,e,hq1,q⟩:=q1
  subst e
  obtain ⟨u,rfl,ru⟩:=vals1 r1
  cases ru
  obtain ⟨its1,rv1,pl1,hz1⟩:=I1.list hq1
  refine call_enumerate_list pl1.isList fun h' a1 a2 a3 hk=>?_
  refine wpAny_pyIter_enum a1 ?_
  refine ⟨_,_,_,_,H1,rfl,I1.kept (t':=s1.toks) hk,rN (l:=l1) (xs:=xs) (it:=s1.heap.objs.size) (Nat.succ_ne_self _),⟨⟨_,a1⟩,a2⟩,fun b hb=>?_,q⟩
  have hb':s1.heap.objs.size≤b:=by
    simp at hb
    rcases hb with rfl | rfl <;> simp
  exact I1.Gj hb' (I1.hok.fresh hb')
theorem wB {K:PySem.W.Frag} {l:Addr} {xs:List V} {g:TG} {tb:TS} {D:Ends} {σ:St} {H:Hp} (Pv:Nat→St→Hp→Prop) (h0:Pv 0 σ H) (hl:∀ i σ H,i≤xs.length→Pv i σ H→SqL K H l xs)
    (hs:∀ i a T σ H,xs[i]?=some a→Pv i σ H→H T=none→g (.ref T) σ (upd H T (.tup [.int (i:Int),a])) fun σ2 H2=>tb { D with nx:=Pv (i + 1),ct:=Pv (i + 1),bk:=D.nx } σ2 H2) (hd:∀ σ H,Pv xs.length σ H→D.nx σ H) :
    ∃ W:Nat→Nat→St→Hp→Prop,(∃ m,W 0 m σ H)∧∀ i m σ H,W i m σ H →
      ((Ite K l xs).stop i H∧D.nx σ H)∨((Ite K l xs).go i H∧∃ N:St→Hp→Prop,(∀ σ' H',N σ' H'→∃ m',m'<m∧W (i + 1) m' σ' H')∧∀ x H',(Ite K l xs).yld i H x H'→g x σ H' fun σ2 H2=>tb { D with nx:=N,ct:=N,bk:=D.nx } σ2 H2):=by
  refine ⟨fun i m σ H=>m=xs.length - i∧i≤xs.length∧Pv i σ H,⟨xs.length,by simp,Nat.zero_le _,h0⟩,?_⟩
  rintro i m σ H ⟨rfl,hi,p⟩
  have q1:=hl i σ H hi p
  by_cases hlt:i<xs.length
  · refine .inr ⟨⟨q1,hlt⟩,Pv (i + 1),fun σ' H' p'=>⟨xs.length - (i + 1),by omega,rfl,hlt,p'⟩,fun x H' y=>?_⟩
    obtain ⟨T,a,rfl,hT,ha,rfl⟩:=y
    exact hs i a T σ _ ha p hT
  · have e:i=xs.length:=by omega
    subst e
    exact .inl ⟨⟨q1,Nat.le_refl _⟩,hd σ H p⟩
theorem oG {K:PySem.W.Frag} {a:Addr} {xs:List V} {acc:Addr} {g:TG} {tc:TT} {te:TE} {τ:St} {H1:Hp} {Q:Hp→Prop} (Pv:Nat→St→Hp→Prop) (h0:Pv 0 τ (upd H1 acc (.lst []))) (hl:∀ i τ H,i≤xs.length→Pv i τ H→SqL K H a xs)
    (hs:∀ i x T τ H,xs[i]?=some x→Pv i τ H→H T=none→g (.ref T) τ (upd H T (.tup [.int (i:Int),x])) fun τ4 H4=>tc τ4 H4 fun b H5=>if b=true then te τ4 H5 fun y H6=>∃ ys,H6 acc=some (.lst ys)∧ys.length<sizeLine∧Pv (i + 1) τ4 (upd H6 acc (.lst (ys++[y]))) else Pv (i + 1) τ4 H5)
    (hd:∀ τ H,Pv xs.length τ H→Q H):lJ (Ite K a xs) acc g tc te τ H1 Q:=by
  refine ⟨fun i m τ H=>m=xs.length - i∧i≤xs.length∧Pv i τ H,⟨xs.length,by simp,Nat.zero_le _,h0⟩,?_⟩
  rintro i m τ H ⟨rfl,hi,p⟩
  have q:=hl i τ H hi p
  by_cases hlt:i<xs.length
  · refine .inr ⟨⟨q,hlt⟩,Pv (i + 1),fun τ' H' p'=>⟨xs.length - (i + 1),by omega,rfl,hlt,p'⟩,fun x H' y=>?_⟩
    obtain ⟨T,b,rfl,hT,hb,rfl⟩:=y
    exact hs i b T τ _ hb p hT
  · have e:i=xs.length:=by omega
    subst e
    exact .inl ⟨⟨q,Nat.le_refl _⟩,hd τ H p⟩
end
end L2
namespace L2
open PySem PySem.Spec PyProof.Rows
structure Iv (P:Prop):Prop where
  t:True
  p:P
theorem ifT {c:Bool} {A B:Prop} (h:c=true) (a:A):if c=true then A else B:=by rw [if_pos h];exact a
theorem ifF {c:Bool} {A B:Prop} (h:c=false) (b:B):if c=true then A else B:=by rw [if_neg (by rw [h];exact Bool.false_ne_true)];exact b
theorem ifB {c:Bool} {A B:Prop} (h1:c=true→A) (h2:c=false→B):if c=true then A else B:=by
  cases c with
  | true=>exact ifT rfl (h1 rfl)
  | false=>exact ifF rfl (h2 rfl)
theorem FJ (x y:Int):decide (V.int x=V.int y)=decide (x=y):=by
  by_cases h:x=y
  · simp [h]
  · have:¬ V.int x=V.int y:=fun e=>h (by cases e;rfl)
    simp [h,this]
theorem fB {ns:List Int} {i:Int} (h0:0≤i) (h1:i<(ns.length:Int)):atI (ns.map V.int) i=some (V.int (ns.getD i.toNat 0)):=by
  refine jN h0 ?_
  rw [List.getD_eq_getElem?_getD,List.getElem?_eq_getElem (by omega)];rfl
theorem oA {ns:List Int} {k:Nat} (h:k<ns.length):ns[k]?=some (ns.getD k 0):=by
  rw [List.getD_eq_getElem?_getD,List.getElem?_eq_getElem h];rfl
theorem bY.mo {T:eU} {K:PySem.W.Frag} {H H':Hp} {vs:List V} {ds:List PyData} (h:bY K H vs ds) (e:aV T H H'):bY K H' vs ds:=bY.rA e h
theorem SqL.mo {T:eU} {K:PySem.W.Frag} {H H':Hp} {a:Addr} {xs:List V} (h:SqL K H a xs) (e:aV T H H'):SqL K H' a xs:=e.seq h
theorem SqT.mo {T:eU} {K:PySem.W.Frag} {H H':Hp} {a:Addr} {xs:List V} (h:SqT K H a xs) (e:aV T H H'):SqT K H' a xs:=e.Qg h
theorem aV.mo {T:eU} {H H1 H2:Hp} (a:aV T H H1) (b:aV T H1 H2):aV T H H2:=a.trans b
section
variable {T:eU} {H0 H1 H H':Hp} {L L':List (Addr × HO)} {a l p:Addr} {o o':HO} {xs:List V} {K:PySem.W.Frag}
theorem Ow.frz (O:Ow T H0 H ((p,o) :: L)):∃ Hn,Ow T Hn H L∧aV T H0 Hn∧Hn p=some o:=by
  obtain ⟨Hn,On,sn,kn⟩:=O.tail.reb
  refine ⟨Hn,On,sn,kn p o (O.get 0) fun q hq z=>?_⟩
  have nd:=O.nd
  rw [List.map_cons,List.nodup_cons] at nd
  exact nd.1 (List.mem_map.mpr ⟨q,hq,z⟩)
end
def dTup (ns:List Int):PyData:=.tuple (ns.map PyData.int)
def PN (rs:List (List Int)):PyData:=.list (rs.map dTup)
section
variable {K:PySem.W.Frag} {H:Hp} {v:V} {a:Addr} {ns:List Int} {rs:List (List Int)}
theorem Den.tup (h:SqT K H a (ns.map V.int)):Den K H (.ref a) (dTup ns):=.tuple h (bY.ints ns)
theorem Den.rP (h:Den K H v (dTup ns)):∃ a,v=.ref a∧SqT K H a (ns.map V.int):=by
  cases h with
  | tuple h hs=>exact ⟨_,rfl,by rw [← bY.int_inv hs];exact h⟩
theorem Sh.tup (n:Nat) (ns:List Int):Sh (n + 1) (dTup ns):=.tuple fun d hd=>by
  obtain ⟨i,_,rfl⟩:=List.mem_map.mp hd
  exact .int n i
theorem Sh.tups (n:Nat) (rs:List (List Int)):Sh (n + 2) (PN rs):=.list fun d hd=>by
  obtain ⟨i,_,rfl⟩:=List.mem_map.mp hd
  exact .tup n i
end
end L2
namespace L2
open PySem PySem.Spec PyProof.Rows
section
variable {A B:Prop}
theorem ifD {p:Prop} [Decidable p] (h1:p→A) (h2:¬ p→B):if decide p=true then A else B:=ifB (fun h=>h1 (of_decide_eq_true h)) fun h=>h2 (of_decide_eq_false h)
theorem ifI {x y:Int} (h1:x=y→A) (h2:¬ x=y→B):if decide (V.int x=V.int y)=true then A else B:=by rw [FJ];exact ifD h1 h2
theorem ifN {c:Bool} (h:if c=true then B else A):if (!c)=true then A else B:=by cases c <;> simpa using h
end
structure Lic where
  day:Int
  start:Int
  back:Int
  most:Int
def gn (l:Lic):PyData:=dTup [l.day,l.start,l.back,l.most]
def PX (ls:List Lic):PyData:=.list (ls.map gn)
abbrev oV (l:Lic):List V:=[.int l.day,.int l.start,.int l.back,.int l.most]
section
variable {K:PySem.W.Frag} {H:Hp} {v:V} {a:Addr} {ls:List Lic} {l:Lic} {xs:List V} {k:Nat}
theorem Den.lic (h:SqT K H a (oV l)):Den K H (.ref a) (gn l):=Den.tup (ns:=[l.day,l.start,l.back,l.most]) h
theorem Den.ug (h:Den K H v (gn l)):∃ a,v=.ref a∧SqT K H a (oV l):=h.rP
theorem bY.kj (h:bY K H xs (ls.map gn)) (hk:ls[k]?=some l):∃ a,xs[k]?=some (.ref a)∧SqT K H a (oV l):=by
  obtain ⟨v,h1,h2⟩:=h.get (i:=k) (d:=gn l) (by rw [List.getElem?_map,hk];rfl)
  obtain ⟨a,rfl,hT⟩:=h2.ug
  exact ⟨a,h1,hT⟩
theorem bY.uh (h:bY K H xs (ls.map gn)) (hx:xs[k]?=some v):∃ a l,v=.ref a∧ls[k]?=some l∧SqT K H a (oV l):=by
  obtain ⟨d,h1,h2⟩:=h.get' hx
  rw [List.getElem?_map] at h1
  cases e:ls[k]? with
  | none=>rw [e] at h1;cases h1
  | some l =>
    rw [e] at h1
    cases h1
    obtain ⟨a,rfl,hT⟩:=h2.ug
    exact ⟨a,l,rfl,rfl,hT⟩
theorem Sh.lic (n:Nat) (l:Lic):Sh (n + 1) (gn l):=Sh.tup n _
theorem Sh.roll (n:Nat) (ls:List Lic):Sh (n + 2) (PX ls):=.list fun d hd=>by
  obtain ⟨i,_,rfl⟩:=List.mem_map.mp hd
  exact .lic n i
end
theorem FN (xs:List V) (i j:Nat):uN xs (some (i:Int)) (some (j:Int))=(xs.drop i).take (j - i):=by
  unfold uN
  rw [HT.o9,HT.o9]
  refine List.ext_getElem? fun k=>?_
  simp only [List.getElem?_take,List.getElem?_drop]
  by_cases h1:k<j - i
  · rw [if_pos h1]
    by_cases h2:i + k<xs.length
    · rw [if_pos (by omega),show min i xs.length=i by omega]
    · rw [List.getElem?_eq_none (l:=xs) (i:=i + k) (by omega)]
      split
      · exact List.getElem?_eq_none (by omega)
      · rfl
  · rw [if_neg h1]
    split
    · rename_i h3
      omega
    · rfl
theorem Mp (ns:List Int) (i j:Nat):uN (ns.map V.int) (some (i:Int)) (some (j:Int))=((ns.drop i).take (j - i)).map V.int:=by
  rw [FN,List.map_take,List.map_drop]
theorem wF (ns:List Int) (i:Nat):uN (ns.map V.int) (some (i:Int)) none=(ns.drop i).map V.int:=by
  unfold uN
  rw [HT.o9,List.length_map,show HT.sIx ns.length ns.length none=ns.length from rfl,List.map_drop]
  by_cases h:i≤ns.length
  · rw [Nat.min_eq_left h,List.take_of_length_le (by rw [List.length_drop,List.length_map];omega)]
  · rw [Nat.min_eq_right (by omega),List.drop_of_length_le (l:=ns.map V.int) (i:=i) (by rw [List.length_map];omega),Nat.sub_self,List.take_zero]
end L2
namespace L2
open PySem PySem.Spec PyProof.Rows
end L2
namespace L2
open PySem PySem.Spec PyProof.Rows
theorem tG {X:Cx} {K:PySem.W.Frag} {pos:Pos} {es:List Expr} {k:Nat} {t:TGs} {n:Nat} (hK:X.K=K) (hc:X.calm=true) (h:PGs X es t) (hn:(assignEach es X.env).length=n:=by rfl) (hst:(assignEach es X.env).findIdx? (·.1)=none:=by rfl):PG X (.Tuple es k pos) (Qw K n t):=hK ▸ qw hc h hn hst
end L2
namespace L2
open PySem PySem.Spec PyProof.Rows
theorem Qe {τ:St} {H:Hp} {A B:Hp→Prop} (h:A H):M5 τ H fun b H5=>if b=true then A H5 else B H5:=by
  show if true=true then A H else B H
  rw [if_pos rfl];exact h
end L2
namespace L2
open PySem PySem.Spec PyProof.Rows
theorem lW {α:Type}:∀ {L:List α} {k:Nat} {p:α},L[k]?=some p→(p :: L.eraseIdx k).Perm L
  | [],_,_,h=>by simp at h
  | a :: L,0,p,h=>by
    have e:a=p:=by simpa using h
    subst e;exact List.Perm.refl _
  | a :: L,k + 1,p,h=>by
    have h':L[k]?=some p:=by simpa using h
    rw [List.eraseIdx_cons_succ]
    exact (List.Perm.swap a p _).trans ((lW h').cons a)
section
variable {T:eU} {H0 H:Hp} {L:List (Addr × HO)} {p:Addr} {o:HO}
theorem Ow.pull (O:Ow T H0 H L) (k:Nat) (h:L[k]?=some (p,o):=by rfl):Ow T H0 H ((p,o) :: L.eraseIdx k):=O.perm (lW h)
theorem Ow.jc (O:Ow T H0 H L) (k:Nat) (h:L[k]?=some (p,o):=by rfl):∃ Hn,Ow T Hn H (L.eraseIdx k)∧aV T H0 Hn∧Hn p=some o:=(O.pull k h).frz
theorem Ow.del (O:Ow T H0 H L) (k:Nat):Ow T H0 H (L.eraseIdx k):=O.sub (List.eraseIdx_sublist L k)
end
end L2
namespace L2
open PySem PySem.Spec PyProof.Rows
end L2
namespace L2
open PySem PySem.Spec PyProof.Rows
end L2
namespace L2
open PySem PySem.W PySem.Spec PyProof.Rows
section
variable {prog:Program} {w:World} {A:Around} {E:Value→Shared→Prop} {s:Shared}
end
section
variable {X:Cx}
end
section
variable {prog:Program} {w:World} {A:Around} {R:Result→Shared→Prop} {I:Addr} {fp wr:List Addr} {n:Nat} {P:Nat→Value→Prop} {St:Nat→Heap→Prop}
end
section
variable {X:Cx}
end
end L2
namespace L2
open PySem PySem.Spec PyProof.Rows
section
variable {κ:Type} [DecidableEq κ]
end
abbrev KT (H:Hp):List (List Key × V)→List (List Key × Addr × Value)→Prop:=Paired fun p q=>p.1=q.1∧H q.2.1=some (.tup (p.1.map kV))∧RelV p.2 q.2.2
section
variable {P:Program} {w:World} {H:Hp} {h:Heap} {a:Addr}
end
section
variable {X:Cx} {pins:List (Addr × Obj)} {σ:St} {H:Hp} {s:Shared} {a:Addr} {y v:V} {u r:Value} {o:Option V} {A:Around} {E:Value→Shared→Prop}
end
section
variable {X:Cx} {pins:List (Addr × Obj)} {σ:St} {H:Hp} {s:Shared} {a:Addr} {kvs:List (Key × V)} {k:Key} {u:Value} {A:Around} {E:Value→Shared→Prop}
end
section
variable {X:Cx} {o i e value:Expr} {pos pos' tpos:Pos} {td ty tv:TE}
end
section
variable {X:Cx} {pos:Pos}
end
abbrev VV:List (V × V)→List (Value × Value)→Prop:=Paired fun p q=>RelV p.1 q.1∧RelV p.2 q.2
section
variable {X:Cx} {pins:List (Addr × Obj)} {σ:St} {H:Hp} {s:Shared} {a:Addr} {y d:V} {u r:Value} {o:Option V} {A:Around} {E:Value→Shared→Prop}
end
section
variable {X:Cx} {o e f:Expr} {apos cpos:Pos} {td ty tx:TE}
end
end L2
namespace L2
open PySem PySem.W PySem.Spec PyProof.Rows
section
variable {X:Cx} {o e f:Expr} {apos cpos:Pos} {td ty tx:TE}
end
section
variable {X:Cx} {o:Expr} {td:TE} {p1 apos cpos pos:Pos}
end
end L2
namespace L2
open PySem PySem.W PySem.Spec PyProof.Rows
section
variable {prog:Program} {w:World} {A:Around} {E:Value→Shared→Prop} {s:Shared}
end
section
variable {X:Cx}
abbrev oLic (l:Lic):HO:=.tup (oV l)
abbrev oInts (w:List Int):HO:=.lst (w.map V.int)
theorem wG {K:PySem.W.Frag} {a:Addr} {xs:List V} {acc:Addr} {g:TG} {tc:TT} {te:TE} {τ:St} {H1:Hp} {Q:Hp→Prop} (Pv:Nat→St→Hp→Prop) (h0:Pv 0 τ (upd H1 acc (.lst []))) (hl:∀ i τ H,i≤xs.length→Pv i τ H→SqT K H a xs)
    (hs:∀ i x τ H,xs[i]?=some x→Pv i τ H→g x τ H fun τ4 H4=>tc τ4 H4 fun b H5=>if b=true then te τ4 H5 fun y H6=>∃ ys,H6 acc=some (.lst ys)∧ys.length<sizeLine∧Pv (i + 1) τ4 (upd H6 acc (.lst (ys++[y]))) else Pv (i + 1) τ4 H5)
    (hd:∀ τ H,Pv xs.length τ H→Q H):lJ (Itt K a) acc g tc te τ H1 Q:=by
  refine ⟨fun i m τ H=>m=xs.length - i∧i≤xs.length∧Pv i τ H,⟨xs.length,by simp,Nat.zero_le _,h0⟩,?_⟩
  rintro i m τ H ⟨rfl,hi,p⟩
  have q:=hl i τ H hi p
  by_cases hlt:i<xs.length
  · refine .inr ⟨⟨xs,xs[i],q,by simp [hlt]⟩,Pv (i + 1),fun τ' H' p'=>⟨xs.length - (i + 1),by omega,rfl,hlt,p'⟩,fun x H' y=>?_⟩
    obtain ⟨e,y⟩:=y
    subst e
    exact hs i x τ _ (y xs q) p
  · have e:i=xs.length:=by omega
    subst e
    exact .inl ⟨⟨xs,q,Nat.le_refl _⟩,hd τ H p⟩
end
end L2
namespace L2
open PySem PySem.W PySem.Spec PyProof.Rows
section
variable {X:Cx}
end
end L2
namespace L2
open PySem PySem.W PySem.Spec PyProof.Rows
end L2
namespace HT
open PySem PyProof.Rows
end HT
namespace L2
open PySem PySem.W PySem.Spec PyProof.Rows
end L2
namespace L2
open PySem PySem.Spec PyProof.Rows
def Its (x:Str):It:=⟨fun i _=>i<x.cps.size,fun i H y H'=>H'=H∧∃ c,x.cps[i]?=some c∧y=.str ⟨#[c]⟩,fun i _=>x.cps.size≤i⟩
theorem vh {P:Program} {w:World} {K:PySem.W.Frag} {tg:Expr} (it:Addr) (x:Str) (t:Tok):Turn P w K tg (Its x) [it] it (fun i h=>h.IsStrIter it "str_ascii_iterator" x t i) where
  mem:=by simp
  obj:=fun i h st b hb=>by
    have e:b=it:=by simpa using hb
    subst e
    obtain ⟨o,e,c,d⟩:=st
    exact ⟨o,e,fun v z=>by rw [d] at z;cases z⟩
  keep:=fun i h h' st k=>let ⟨o,e,r⟩:=st;⟨o,k it (by simp) o e,r⟩
  item:=by
    intro X hP hw hK hc i pins s σ H E I hf st hg
    subst hP hw hK
    obtain ⟨f0,f1,f2,f3,f4,f5⟩:=hf it (by simp)
    have hg:i<x.cps.size:=hg
    have hx:x.cps[i]?=some x.cps[i]:=by simp [hg]
    refine wpAny_pyNext_ascii_item st hx fun h' st' sb=>?_
    have I1:Inv X pins σ H { s with heap:=h',toks:=s.toks + 1 }:=I.turned (fun b o hb e=>(sb.2 b hb).trans e) f0 f1 f3 f4 f5
    obtain ⟨o,e,c,d⟩:=id st'
    exact ⟨_,rfl,wu (s:={ s with heap:=h',toks:=s.toks + 1 }) e c d (by decide) ⟨.str ⟨#[x.cps[i]]⟩,H,I1,⟨_,rfl⟩,⟨rfl,_,hx,rfl⟩,st',fun b hb=>(hf b hb).1⟩⟩
  done:=by
    intro X hP hw hK hc i pins s σ H E I hf st hg
    subst hP hw hK
    obtain ⟨f0,f1,f2,f3,f4,f5⟩:=hf it (by simp)
    have hg:x.cps.size≤i:=hg
    exact wpAny_pyNext_ascii_end (I.ok.hd hc) st (by simp [hg]) fun h' eb=>⟨rfl,I.turned (t':=s.toks) (fun b o hb e=>eb b o hb e) f0 f1 f3 f4 f5⟩
  self:=fun _ _ _ _ _ st h=>wpAny_pyIter_striter_ascii st h
section
variable {X:Cx} {tg:Expr}
def iStr (tl:TE):TI:=fun σ H R=>tl σ H fun v H1=>∃ x,v=.str x∧x.cps.all (·<128)=true∧R (Its x) H1
theorem GJ {l:Expr} {tl:TE} (hl:PE X l tl):PI X tg l (iStr tl):=by
  intro pins s σ H R I h
  refine thn (hl pins s σ H _ I h) fun v s1 ⟨x,H1,I1,r1,q1⟩=>?_
  obtain ⟨z,e,ha,q⟩:=q1
  subst e
  obtain ⟨t,rfl⟩:=r1
  refine wpAny_pyIter_ascii ha ?_
  refine ⟨s1.heap.objs.size,[s1.heap.objs.size],_,_,H1,rfl,I1.kept (t':=s1.toks) fun b o e=>Heap.get?_push_of_some _ e,vh _ z t,⟨_,Heap.get?_push_size _ rfl,rfl,rfl⟩,fun b hb=>?_,q⟩
  have e:b=s1.heap.objs.size:=by simpa using hb
  subst e
  exact I1.Gj (Nat.le_refl _) (I1.hok.fresh (Nat.le_refl _))
theorem wH {x:Str} {acc:Addr} {g:TG} {tc:TT} {te:TE} {τ:St} {H1:Hp} {Q:Hp→Prop} (Pv:Nat→St→Hp→Prop) (h0:Pv 0 τ (upd H1 acc (.lst [])))
    (hs:∀ i c τ H,x.cps[i]?=some c→Pv i τ H→g (.str ⟨#[c]⟩) τ H fun τ4 H4=>tc τ4 H4 fun b H5=>if b=true then te τ4 H5 fun y H6=>∃ ys,H6 acc=some (.lst ys)∧ys.length<sizeLine∧Pv (i + 1) τ4 (upd H6 acc (.lst (ys++[y]))) else Pv (i + 1) τ4 H5)
    (hd:∀ τ H,Pv x.cps.size τ H→Q H):lJ (Its x) acc g tc te τ H1 Q:=by
  refine ⟨fun i m τ H=>m=x.cps.size - i∧i≤x.cps.size∧Pv i τ H,⟨x.cps.size,by simp,Nat.zero_le _,h0⟩,?_⟩
  rintro i m τ H ⟨rfl,hi,p⟩
  by_cases hlt:i<x.cps.size
  · refine .inr ⟨hlt,Pv (i + 1),fun τ' H' p'=>⟨x.cps.size - (i + 1),by omega,rfl,hlt,p'⟩,fun y H' e=>?_⟩
    obtain ⟨e,c,hc,ey⟩:=e
    subst e ey
    exact hs i c τ _ hc p
  · have e:i=x.cps.size:=by omega
    subst e
    exact .inl ⟨Nat.le_refl _,hd τ H p⟩
theorem tK:OpR X (binaryOp .Mult) (fun x y H Q=>∃ z n,x=.str z∧y=.int n∧0≤n∧n≤64∧z.length≤64∧Q (.str (Txt.mul z n)) H):=by
  intro pins s σ H x y v u Q I rx ry h
  obtain ⟨z,n,rfl,rfl,n0,n1,hz,q⟩:=h
  obtain ⟨t,rfl⟩:=rx
  obtain ⟨t',rfl⟩:=ry
  refine SB.mul ⟨?_,fun h1 _=>?_,fun h1 _=>?_⟩ fun t' k=>⟨.str _,H,I.tok _,⟨_,rfl⟩,q⟩
  · rw [decide_eq_false (by omega),decide_eq_false (by omega)];rfl
  · have:(64:Int)≤(2 ^ 63 - 1) / n:=by
      refine Int.le_ediv_of_mul_le (by omega) ?_
      omega
    omega
  · have h2:z.length * n.toNat≤64 * 64:=Nat.mul_le_mul hz (by omega)
    unfold Builtin.Str.tooLong
    exact decide_eq_false (by rw [sizeLine_eq];omega)
structure Dm (K:PySem.W.Frag) (C:Addr) (x qual:Str) (st:Stmt) (ps:List Str) (a:Addr) (fd:FuncData):Prop where
  F:Fun K x qual st a fd
  b:Binds K fd ps []
  m:Meth K C x a
structure Gk (K:PySem.W.Frag) (x qual:Str) (st:Stmt) (dv:List Value) (f:Addr) (fd:FuncData):Prop where
  ex:∃ (oc:Value) (od:Option Addr) (T:Addr) (o:Obj) (n:Nat) (kV doc pm:Value) (an:Option Addr) (cdv ct:Value) (osl:Array (Option Value)),
    fd=PySem.W.fnOf x qual (au st) (ao st) (ak st) (.ref T) kV doc pm an cdv ct∧K.lookup f=some ⟨oc,od,.func fd,osl⟩∧PySem.W.codeIn K cdv qual=true∧K.lookup T=some o∧o.data=.seq dv.toArray n
  kp:PySem.W.keepIn K (.ref f)=true
section
variable {P:Program} {w:World} {K:PySem.W.Frag} {mg:Str→Option Value} {base:Heap} {x qual:Str} {st:Stmt} {dv:List Value} {f:Addr} {fd:FuncData} {N ps:List Str} {k:Nat} {sp:Sp}
theorem Gk.ok (F:Gk K x qual st dv f fd) (S:aO N ps (ak st)) (len:∀ vs H Q E,sp vs H Q E→vs.length=ps.length)
    (hbody:∀ (cdv:Value) (A:Around) (outer:List Env) (s:Shared) (H:Hp) (vs:List V) (Q:VK) (E:XK),jw k (A.deeper (envOfC qual (ak st) s.heap.objs.size f cdv))→sp vs H Q E →
      ∃ t,PSs (uY CX0 P w K mg base N qual (ak st) f cdv A outer s H E).nox (ao st) t∧t { nx:=fun _ H'=>Q .non H',rt:=Q } (start N vs) H):bW P w K mg base CX0 (k + 1) f fd ps sp:=by
  obtain ⟨oc,od,T,o,n,kV,doc,pm,an,cdv,ct,osl,rfl,lk,hcd,_⟩:=F.ex
  refine Fy lk hcd S len fun A outer s H vs Q E hr hsp=>?_
  obtain ⟨t,h,q⟩:=hbody cdv A outer s H vs Q E hr hsp
  exact ⟨t,h.nox,q⟩
theorem Gk.binds {ds:List Value} (F:Gk K x qual st dv f fd)
    (h:∀ (T:Addr) (kV doc pm:Value) (an:Option Addr) (cdv ct:Value) (us:List Value),(us++ds).length=ps.length→∃ k:Option (Array Value)→Sem (List (Str × Value)),
      bindArgs (PySem.W.fnOf x qual (au st) (ao st) (ak st) (.ref T) kV doc pm an cdv ct) ⟨us,[]⟩=(seqItems? (.ref T) >>= k)∧k (some dv.toArray)=pure (ps.zip (us++ds))):Binds K fd ps ds:=by
  obtain ⟨oc,od,T,o,n,kV,doc,pm,an,cdv,ct,osl,rfl,lk,hcd,lt,hs⟩:=F.ex
  intro s us X hl
  obtain ⟨k,h1,h2⟩:=h T kV doc pm an cdv ct us hl
  exact BindsTo.of_defaults rfl (X _ _ lt) hs h1 h2
end
structure DmD (K:PySem.W.Frag) (C:Addr) (x qual:Str) (st:Stmt) (ps:List Str) (a:Addr) (fd:FuncData):Prop where
  F:Gk K x qual st [.none] a fd
  b0:Binds K fd ps []
  b1:Binds K fd ps [.none]
  m:Meth K C x a
structure Cl (K:PySem.W.Frag) (mg:Str→Option Value) (x:Str) (C f:Addr) (fs:List Str):Prop where
  c:Cls K C
  k:Mk K C f
  m:mg x=some (.ref C)
  n:∀ y∈fs,gC K C y
end
section
variable {T:eU} {H0 H:Hp} {L R B:List (Addr × HO)} {a b:Addr} {o o':HO} {x y:Addr × HO}
theorem Ow.ne (O:Ow T H0 H L) (i j:Nat) (hi:L[i]?=some (a,o):=by rfl) (hj:L[j]?=some (b,o'):=by rfl) (hij:i≠j:=by decide):a≠b:=by
  intro e
  subst e
  have h1:(L.map (·.1))[i]?=some a:=by rw [List.getElem?_map,hi];rfl
  have h2:(L.map (·.1))[j]?=some a:=by rw [List.getElem?_map,hj];rfl
  exact hij ((List.getElem?_inj (List.getElem?_eq_some_iff.mp h1).1 O.nd).mp (h1.trans h2.symm))
theorem Ow.mid (O:Ow T H0 H (x :: (R++B))):Ow T H0 H (R++x :: B):=O.perm List.perm_middle
end
end L2
namespace L2
open PySem PySem.Spec PyProof.Rows
open AutoSeq1 (wpAny_loadPart')
section
variable {prog:Program} {w:World} {A:Around} {E:Value→Shared→Prop} {s:Shared} {it l:Addr} {i:Nat} {items:Array Value}
end
section
variable {X:Cx}
end
theorem oH {X:Cx}:jH X (.builtin "isinstance") (fun xs H Q=>∃ a ys c b,xs=[.ref a,.ty c]∧SqT X.K H a ys∧PySem.W.kitOne X.K (.type "tuple") (.type c)=some b∧Q (.bl b) H):=by
  intro pins s σ H xs us Q I r h
  obtain ⟨a,ys,c,b,rfl,hq,e,q⟩:=h
  obtain ⟨u,w,rfl,ru,rw'⟩:=vals2 r
  obtain rfl:w=Value.type c:=rw'
  cases (show u=Value.ref a from ru)
  obtain ⟨its,rv,⟨o,h1,h2,_⟩,hz⟩:=I.tuple hq
  exact PySem.W.kia_one PySem.W.kitx_tuple I.kIn ⟨o,h1,h2⟩ e (fun z=>nomatch z) fun tk=>⟨.bl b,H,I.tok tk,rfl,q⟩
end L2
namespace L2
open PySem PySem.Spec PyProof.Rows
section
variable {X:Cx} {k:Nat} {f C:Addr} {fd:FuncData} {ps:List Str} {sp:Sp} {dvs:List V} {ds:List Value} {m:Str} {apos pos:Pos} {o e:Expr} {es:List Expr} {t:TA} {ta:TE}
def MN (C:Addr) (m:Str) (sp:Sp) (dvs:List V) (ta:TE) (t:TA):St→Hp→VK→XK→Prop:=fun σ H Q Ex=>ta σ H fun x H1=>∃ a dx fs,x=.ref a∧H1 a=some (.ins C dx fs)∧fs.lookup m=none∧t σ H1 fun vs H2=>sp (x :: (vs++dvs)) H2 Q Ex
theorem Er {pl:Sem Bool} (he:PE X.nox o ta) (c:Cls X.K C) (hm:Meth X.K C m f) (F:bW X.prog X.w X.K X.mg X.base (CXE X.prog X.w) k f fd ps sp) (hr:jw k X.A) (hb:Binds X.K fd ps ds) (hd:Vals dvs ds) (ha:PA X.nox (e :: es) t)
    (hst:starEach (e :: es) X.env=(false,eval e X.env) :: starEach es X.env:=by rfl) (hpl:(backTo pos (starEach es X.env)).any (·.1)=false:=by rfl)
    (ht:eval (.Call (.Attribute o m apos) (e :: es) [] pos) X.env=(do
      let ov ← eval o X.env
      standAt apos.atName
      let (f,first) ← holding [ov] (getMethod ov m pl)
      callWith pos f first (backTo pos (starEach (e :: es) X.env)) (backToKw pos (keywordEach [] X.env))):=by rfl) :
    PEx X (.Call (.Attribute o m apos) (e :: es) [] pos) (MN C m sp dvs ta t):=by
  intro pins s σ H Q Ex I h
  refine PySem.W.methodCall_KW (pl:=pl) (wpAny_mono (he pins s σ H _ (I.wish _) h) (fun u s1 ⟨x,H1,I1,rx,a,dx,fs,ex,ea,l,q⟩=>?_) fun _ _ z=>z.elim) ht
  subst ex
  obtain rfl:u=Value.ref a:=rx
  have I1:=I1.iT
  refine ju I1 ea c hm l ?_
  refine PySem.W.callWith_K (first:=[.ref a]) (h₀:=X.base) I.ok.mod.kin hm.kp (wpAny_mono (ha pos pins s1 σ H1 _ (I1.wish _) q) (fun us s2 ⟨vs,H2,I2,r,q2⟩=>?_) fun _ _ z=>z.elim) hst hpl
  have I2:=I2.iT
  refine ⟨I2.kIn,?_⟩
  have r2:Vals (V.ref a :: (vs++dvs)) (Value.ref a :: (us++ds)):=.cons rfl (r.append hd)
  have hl:(Value.ref a :: us++ds).length=ps.length:=by
    have e:=r2.length
    rw [F.len _ _ _ _ q2] at e
    exact e.symm
  refine wpAny_call (codeAny_mono (F.run X.A X.stack s2 H2 ⟨Value.ref a :: us,[]⟩ (Value.ref a :: us++ds) (V.ref a :: (vs++dvs)) Q (Ex σ) hr I2.env0 (hb s2 (Value.ref a :: us) I2.kIn hl) r2 q2) fun rr s' hq=>?_)
  cases rr with
  | error ev=>exact ⟨σ,H2,s2,I2,hq⟩
  | ok fl =>
    cases fl with
    | ret u=>exact I2.after hq
    | next=>exact False.elim hq
    | brk=>exact False.elim hq
    | cont=>exact False.elim hq
end
end L2
namespace L2
open PySem PySem.Spec PyProof.Rows
def rSlS:V→Option Int→Option Int→Hp→VK→Prop:=fun x lo hi H Q=>∃ z,x=.str z∧z.length≤100000∧Q (.str (Txt.slice z lo hi)) H
theorem wX {X:Cx}:SlR X rSlS:=by
  intro pins s σ H x v vl vu lo hi sl Q I rx hs pl pu h
  obtain ⟨z,rfl,hz,q⟩:=h
  obtain ⟨t,rfl⟩:=rx
  refine ⟨"str",_,F.slot_str_getitem.lookup,typeIs_str _ _ _,?_⟩
  have hk:∀ (lo hi:Option Int),(Txt.slice z lo hi).length≤sizeLine:=fun lo hi=>Nat.le_trans (Txt.slice_le z lo hi) (by rw [sizeLine_eq];omega)
  cases pl with
  | none =>
    cases pu with
    | none=>exact wpAny_getItem_str_slice (l:=none) (u:=none) (st:=none) hs rfl (post_val_or_str ⟨hk _ _,fun t' k=>⟨.str _,H,I.tok _,⟨_,rfl⟩,q⟩⟩)
    | int j tj=>exact wpAny_getItem_str_slice (l:=none) (u:=some (j,tj)) (st:=none) hs rfl (post_val_or_str ⟨hk _ _,fun t' k=>⟨.str _,H,I.tok _,⟨_,rfl⟩,q⟩⟩)
  | int i ti =>
    cases pu with
    | none=>exact wpAny_getItem_str_slice (l:=some (i,ti)) (u:=none) (st:=none) hs rfl (post_val_or_str ⟨hk _ _,fun t' k=>⟨.str _,H,I.tok _,⟨_,rfl⟩,q⟩⟩)
    | int j tj=>exact wpAny_getItem_str_slice (l:=some (i,ti)) (u:=some (j,tj)) (st:=none) hs rfl (post_val_or_str ⟨hk _ _,fun t' k=>⟨.str _,H,I.tok _,⟨_,rfl⟩,q⟩⟩)
theorem sy {x:Str} {lo hi:Option Int} {c:Nat} (h:c∈(Txt.slice x lo hi).cps.toList):c∈x.cps.toList:=by
  unfold Txt.slice at h
  split at h
  · exact h
  · simp only [List.mem_filterMap] at h
    obtain ⟨a,_,h⟩:=h
    exact Array.mem_toList_iff.mpr (Array.mem_of_getElem? h)
end L2
namespace Rv
def m6 (r:List Int):Prop:=∃ rk:Nat→Nat,(∀ i,i<r.length→rk i<r.length) ∧
  ∀ (i:Nat) (x:Int),r[i]?=some x→x=-1∨(0≤x∧x<r.length∧rk x.toNat<rk i)
def nxt (r:List Int) (p:Int):Int:=r.getD p.toNat (-1)
theorem iu {r:List Int} {p:Int} (h0:0≤p) (h1:p<r.length):r[p.toNat]?=some (nxt r p):=by
  have h:p.toNat<r.length:=by omega
  unfold nxt
  rw [List.getD_eq_getElem?_getD,List.getElem?_eq_getElem h];rfl
theorem m6.step {r:List Int} (h:m6 r) {p:Int} (h0:0≤p) (h1:p<r.length):nxt r p=-1∨(0≤nxt r p∧nxt r p<r.length):=by
  obtain ⟨rk,_,h3⟩:=h
  rcases h3 _ _ (iu h0 h1) with e | ⟨a,b,_⟩
  · exact .inl e
  · exact .inr ⟨a,b⟩
def jP (r:List Int):Nat→Int→List Int
  | 0,_=>[]
  | f + 1,p=>if p=-1 then [] else p :: jP r f (nxt r p)
def walk (r:List Int) (p:Int):List Int:=jP r (r.length + 1) p
theorem jg (r:List Int) (f:Nat):jP r f (-1)=[]:=by
  cases f with
  | zero=>rfl
  | succ f=>unfold jP;rw [if_pos rfl]
theorem qb (r:List Int):walk r (-1)=[]:=jg r _
theorem jy {r:List Int} {rk:Nat→Nat} (h:∀ (i:Nat) (x:Int),r[i]?=some x→x=-1∨(0≤x∧x<r.length∧rk x.toNat<rk i)) :
    ∀ (f g:Nat) (p:Int),0≤p→p<r.length→rk p.toNat<f→rk p.toNat<g→jP r f p=jP r g p
  | 0,_,_,_,_,hf,_=>by omega
  | _ + 1,0,_,_,_,_,hg=>by omega
  | f + 1,g + 1,p,h0,h1,hf,hg=>by
    unfold jP
    rw [if_neg (by omega),if_neg (by omega)]
    rcases h _ _ (iu h0 h1) with e | ⟨a,b,c⟩
    · rw [e,jg,jg]
    · rw [jy h f g _ a b (by omega) (by omega)]
theorem gR {r:List Int} (h:m6 r) {p:Int} (h0:0≤p) (h1:p<r.length):walk r p=p :: walk r (nxt r p):=by
  obtain ⟨rk,h2,h3⟩:=h
  show jP r (r.length + 1) p=_
  unfold jP
  rw [if_neg (by omega)]
  rcases h3 _ _ (iu h0 h1) with e | ⟨a,b,c⟩
  · rw [e,jg,qb]
  · have:=h2 p.toNat (by omega)
    unfold walk
    rw [jy h3 r.length (r.length + 1) _ a b (by omega) (by omega)]
theorem m8 (r:List Int):∀ (f:Nat) (p:Int),(jP r f p).length≤f
  | 0,_=>Nat.le_refl _
  | f + 1,p=>by
    unfold jP
    split
    · exact Nat.zero_le _
    · exact Nat.succ_le_succ (m8 r f _)
theorem vg (r:List Int) (p:Int):(walk r p).length≤r.length + 1:=m8 r _ _
noncomputable def mea (r:List Int) (p:Int):Nat:=(walk r p).length
theorem Hf {r:List Int} (h:m6 r) {p:Int} (h0:0≤p) (h1:p<r.length):mea r (nxt r p)<mea r p:=by
  unfold mea;rw [gR h h0 h1];exact Nat.lt_succ_self _
def stp (r:List Int) (p:Int):Int:=if p=-1 then -1 else nxt r p
def jr (r:List Int):Nat→Int→Int
  | 0,p=>p
  | f + 1,p=>jr r f (stp r p)
theorem qd (r:List Int):∀ f,jr r f (-1)=-1
  | 0=>rfl
  | f + 1=>by
    show jr r f (stp r (-1))=-1
    unfold stp
    rw [if_pos rfl];exact qd r f
theorem iD (r:List Int):∀ (f:Nat) (p:Int),jr r (f + 1) p=stp r (jr r f p)
  | 0,_=>rfl
  | f + 1,p=>by
    show jr r (f + 1) (stp r p)=stp r (jr r f (stp r p))
    exact iD r f (stp r p)
theorem qe (r:List Int) (p:Int) {f:Nat} (h:jr r f p=-1):∀ g,jr r (f + g) p=-1
  | 0=>h
  | g + 1=>by
    rw [show f + (g + 1)=(f + g) + 1 from rfl,iD,qe r p h g]
    unfold stp;rw [if_pos rfl]
def inB (r:List Int):Prop:=∀ x∈r,-1≤x∧x<(r.length:Int)
instance (r:List Int):Decidable (inB r):=inferInstanceAs (Decidable (∀ x∈r,-1≤x∧x<(r.length:Int)))
theorem Fw {r:List Int} (h:inB r) {p:Int} (h0:0≤p) (h1:p<r.length):-1≤nxt r p∧nxt r p<r.length:=h _ (List.mem_of_getElem? (iu h0 h1))
theorem qD {r:List Int} (h:inB r) {p:Int} (h0:0≤p) (h1:p<r.length):∀ f,-1≤jr r f p∧jr r f p<(r.length:Int)
  | 0=>⟨by show -1≤p;omega,h1⟩
  | f + 1=>by
    rw [iD]
    obtain ⟨a,b⟩:=qD h h0 h1 f
    unfold stp
    by_cases e:jr r f p=-1
    · rw [if_pos e];omega
    · rw [if_neg e];exact Fw h (by omega) b
def isR (r:List Int):Bool:=decide (1≤r.length∧r.length≤40) && decide (inB r) && decide (∀ i,i<r.length→jr r r.length (i:Int)=-1)
end Rv
namespace Rv
end Rv
namespace Rv
abbrev Mv:=Int × Int × Int
end Rv
namespace Rv
end Rv
namespace Rv
end Rv
namespace Rv
end Rv
namespace Rv
end Rv
namespace Rv
end Rv
namespace Tn
end Tn
namespace Tn
end Tn
namespace Tn
end Tn
namespace Tn
end Tn
namespace Tn
end Tn
namespace Tn
end Tn
namespace Tn
end Tn
namespace Tn
end Tn
namespace Tn
end Tn
namespace Tn
theorem jh {α:Type} {gs:List α} {i:Nat} {k:α} (h:gs[i]?=some k):gs.take (i + 1)=gs.take i++[k]:=by
  rw [List.take_add_one,h];rfl
end Tn
namespace Tn
end Tn
namespace Tn
end Tn
namespace Tn
end Tn
namespace Tn
end Tn
namespace Rv
end Rv
namespace Rv
end Rv
namespace Tn
end Tn
namespace Rv
end Rv
namespace Tn
end Tn
namespace Tn
end Tn
namespace Rv
end Rv
namespace Tn
end Tn
namespace Rv
end Rv
namespace Tn
end Tn
namespace Rv
end Rv
namespace My
open PySem L2
local macro_rules | `(tactic| walk_at "new") => `(tactic| (generalize hE : upd _ _ _ = Hn; have On := Ow.mkE (by assumption) (by assumption) hE rfl; clear hE; revert On; revert Hn))
local macro_rules | `(tactic| walk_at "put") => `(tactic| (generalize hE : upd _ _ _ = Hn; (first | have On := Ow.jK (by assumption) 0 rfl hE rfl | have On := Ow.jK (by assumption) 1 rfl hE rfl | have On := Ow.jK (by assumption) 2 rfl hE rfl | have On := Ow.jK (by assumption) 3 rfl hE rfl | have On := Ow.jK (by assumption) 4 rfl hE rfl | have On := Ow.jK (by assumption) 5 rfl hE rfl); clear hE; (try simp only [List.set_cons_zero, List.set_cons_succ] at On); revert On; revert Hn))
set_option hygiene false
local macro_rules | `(tactic| walk_at "get") => `(tactic| first | assumption | exact O.get 0 | exact O.get 1 | exact O.get 2 | exact O.get 3 | exact O.get 4 | exact O.get 5 | exact O.get 6 | exact O.get 7 | exact O.get 8 | exact O.get 9 | exact O.get 10 | exact O.get 11 | exact O.get 12 | fail)
local macro_rules | `(tactic| walk_at "sq") => `(tactic| first | assumption | exact O.sq 0 | exact O.sq 1 | exact O.sq 2 | exact O.sq 3 | exact O.sq 4 | exact O.sq 5 | exact O.sq 6 | exact O.sq 7 | exact O.sq 8 | exact O.sq 9 | exact O.sq 10 | exact O.sq 11 | exact O.sq 12 | exact SqL.mo (by assumption) O.same | exact SqL.mo (by assumption) (s0.trans O.same) | fail)
local macro_rules | `(tactic| walk_at "sqT") => `(tactic| first | assumption | exact O.sqT 0 | exact O.sqT 1 | exact O.sqT 2 | exact O.sqT 3 | exact O.sqT 4 | exact O.sqT 5 | exact O.sqT 6 | exact O.sqT 7 | exact SqT.mo (by assumption) O.same | exact SqT.mo (by assumption) (s0.trans O.same) | fail)
local macro_rules | `(tactic| walk_at "at") => `(tactic| first | rfl | exact cM (by assumption) | exact dh (by assumption) | exact fB (by omega) (by omega) | exact lastV _ _ | exact ints_last (by omega) | exact fB (ns := [_, _]) (by omega) (by simp only [List.length_cons, List.length_nil]; omega) | exact fB (ns := [_, _, _]) (by omega) (by simp only [List.length_cons, List.length_nil]; omega) | exact fB (ns := [_, _, _, _]) (by omega) (by simp only [List.length_cons, List.length_nil]; omega) | exact fB (ns := [_, _, _, _, _]) (by omega) (by simp only [List.length_cons, List.length_nil]; omega) | exact fB (ns := [_, _, _, _, _, _]) (by omega) (by simp only [List.length_cons, List.length_nil]; omega) | exact fB (ns := [_, _, _, _, _, _, _]) (by omega) (by simp only [List.length_cons, List.length_nil]; omega) | exact fB (ns := [_, _, _, _, _, _, _, _]) (by omega) (by simp only [List.length_cons, List.length_nil]; omega) | fail)
local macro_rules | `(tactic| walk_at "c") => `(tactic| first | omega | (simp only [List.length_map]; omega) | exact szl | (show (0 : Int) < _; decide) | (show (0 : Int) < _; omega) | exact ⟨by decide, by decide⟩ | exact .inl ⟨by decide, by decide⟩ | exact .inr ⟨by decide, by decide⟩ | exact ⟨by decide, by decide, by decide⟩ | exact .inl ⟨by omega, by omega⟩ | exact .inr ⟨by omega, by omega⟩ | exact ⟨by omega, by omega⟩ | (split <;> omega) | fail)
local macro_rules | `(tactic| walk_at "ty") => `(tactic| first | exact .int _ | exact .bl _ | exact .lst (by walk_at "get") | exact .tup (by walk_at "get") | exact .non | fail)
local macro_rules | `(tactic| walk_at "kit") => `(tactic| first | exact xG K | exact xH K | exact xu K | exact kit_bb K | exact kit_bi K | exact xr K | fail)
local macro_rules | `(tactic| walk_at "sz") => `(tactic| exact aH (by (try simp only [List.length_map, List.length_append, List.length_cons, List.length_nil]); omega))
local macro_rules | `(tactic| walk_at "s") => `(tactic| first | refine Qe ?_ | refine ⟨_, rfl, ?_⟩ | refine ⟨_, _, rfl, rfl, ?_⟩ | refine And.intro rfl ?_ | refine And.intro (by walk_at "c") ?_ | refine ⟨_, _, _, _, rfl, rfl, (show SqL _ _ _ _ by walk_at "sq"), (show atI _ _ = some _ by walk_at "at"), ?_⟩ | refine ⟨_, _, _, _, rfl, rfl, (show SqT _ _ _ _ by walk_at "sqT"), (show atI _ _ = some _ by walk_at "at"), ?_⟩ | refine ⟨_, _, rfl, .inl (show SqL _ _ _ _ by walk_at "sq"), ?_⟩ | refine ⟨_, _, rfl, .inr (show SqT _ _ _ _ by walk_at "sqT"), ?_⟩ | refine ⟨_, _, rfl, (show SqL _ _ _ _ by walk_at "sq"), ?_⟩ | refine And.intro ⟨_, (show SqL _ _ _ _ by walk_at "sq")⟩ ?_ | refine And.intro (.inl ⟨rfl, _, (show SqL _ _ _ _ by walk_at "sq")⟩) ?_ | refine ⟨_, _, _, _, rfl, (show qO _ _ _ _ by walk_at "ty"), (show PySem.W.kitOne _ _ _ = some _ by walk_at "kit"), ?_⟩ | refine ⟨_, _, rfl, ?_⟩ | fail)
local macro_rules | `(tactic| walk_at "w") => `(tactic| repeat walk_at "s")
local macro_rules | `(tactic| walk_at "if") => `(tactic| first | refine pK ?_ | refine lB ?_ | refine ifN ?_ | refine ifI (fun hc => ?_) (fun hc => ?_) | refine ifD (fun hc => ?_) (fun hc => ?_) | refine ifB (fun hc => ?_) (fun hc => ?_) | fail)
local macro_rules | `(tactic| walk_at "go") => `(tactic| repeat' (first | walk_at "if" | walk_at "s" | fail))
local macro_rules | `(tactic| walk_at "nw") => `(tactic| (generalize hE : upd _ _ _ = Hn; replace O := Ow.mkE O (by assumption) hE rfl; clear hE))
local macro_rules | `(tactic| walk_at "pt") => `(tactic| (generalize hE : upd _ _ _ = Hn; (first | replace O := Ow.jK O 0 rfl hE rfl | replace O := Ow.jK O 1 rfl hE rfl | replace O := Ow.jK O 2 rfl hE rfl | replace O := Ow.jK O 3 rfl hE rfl | replace O := Ow.jK O 4 rfl hE rfl | replace O := Ow.jK O 5 rfl hE rfl | replace O := Ow.jK O 6 rfl hE rfl | replace O := Ow.jK O 7 rfl hE rfl); clear hE; (try simp only [List.set_cons_zero, List.set_cons_succ] at O)))
local macro_rules | `(tactic| walk_at "app") => `(tactic| (refine ⟨_, _, _, rfl, rfl, (by walk_at "get"), (by walk_at "sz"), ?_⟩; walk_at "pt"))
local macro_rules | `(tactic| walk_at "elt") => `(tactic| (refine ⟨_, (by walk_at "get"), (by walk_at "sz"), ?_⟩; walk_at "pt"))
local macro_rules | `(tactic| walk_at "frz") => `(tactic| (obtain ⟨Hn, On, sn, en⟩ := O.frz; clear O; have O := On; clear On; (try replace s0 := s0.mo sn); (try replace d0 := d0.mo sn); (try replace d1 := d1.mo sn); (try replace d2 := d2.mo sn); (try replace d3 := d3.mo sn); (try replace d4 := d4.mo sn); (try replace d5 := d5.mo sn); (try replace d6 := d6.mo sn); (try replace d7 := d7.mo sn)))
local macro_rules | `(tactic| walk_at "mo") => `(tactic| ((try simp only [List.eraseIdx_cons_zero, List.eraseIdx_cons_succ] at O); (try replace s0 := s0.mo sn); (try replace d0 := d0.mo sn); (try replace d1 := d1.mo sn); (try replace d2 := d2.mo sn); (try replace d3 := d3.mo sn); (try replace d4 := d4.mo sn); (try replace d5 := d5.mo sn); (try replace d6 := d6.mo sn); (try replace d7 := d7.mo sn)))
local macro_rules | `(tactic| walk_at "er") => `(tactic| simp only [List.eraseIdx_cons_zero, List.eraseIdx_cons_succ] at O)
local macro_rules | `(tactic| walk_at "jn") => `(tactic| simp only [List.cons_append, List.nil_append] at O)
def top (i:Nat):Stmt:=PySem.Challenge.pw_sluice_k53_parted.main.body.getD i (.Pass ⟨0,0,0,0⟩)
abbrev gb:Stmt:=top 22
theorem nA:aO ["below","reach","way"] ["below","reach"] (ak gb):=⟨rfl,rfl,rfl,by decide +kernel,rfl,by decide +kernel,by decide +kernel⟩
def wO (K:PySem.W.Frag):Sp:=fun vs H Q _=>∃ (a:Addr) (r:List Int) (p:Int),vs=[.ref a,.int p]∧SqL K H a (r.map V.int)∧Rv.m6 r∧0≤p∧p<r.length∧r.length≤900 ∧
  Qx H (fun xs=>xs=(Rv.walk r p).map V.int) Q
theorem uV (pre:List Int) (z:Int):atI ((pre++[z]).map V.int) (-1)=some (V.int z):=by
  rw [List.map_append];exact wJ _ _
theorem GZ {f:Addr} {fd:FuncData} (D:Df K mg "way_of" gb ["below","reach"] f fd) (C:Mth mg):bW P w K mg base CX0 1 f fd ["below","reach"] (wO K):=by
  obtain ⟨tM,hMOUTH⟩:=C.MOUTH
  refine D.F.ok nA (fun vs H Q E h=>?_) (fun cdv A outer s H vs Q E hr h=>?_)
  · obtain ⟨a,r,p,rfl,_⟩:=h;rfl
  · obtain ⟨a,r,p,rfl,hS,hR,p0,p1,hn,q⟩:=h
    refine ⟨_,(aq (bU (i:=2) nA.nd rfl (Or.inl rfl) (fD (aj (pv 1) aA)))
      (aq (vB PassesOwn.never (bw nW (bF aJ (pv 0) (bF aJ (pv 2) (Fe rJ aB) (fun _ _=>rfl)) (fun _ _=>rfl)) (fL (v:=.int (-1)) rfl hMOUTH ⟨_,rfl⟩) (bN _))
        (aC (aZ (iR PySem.F.plainAttrs_list PySem.F.slot_list_append PySem.F.type_list_append bJ (pv 2) (aj (bF aJ (pv 0) (bF aJ (pv 2) (Fe rJ aB) (fun _ _=>rfl)) (fun _ _=>rfl)) aA)))))
      (aC (bx (pv 2))))),?_⟩
    refine ⟨_,rfl,(by show 1≤sizeLine;decide),fun lw hlw=>?_⟩
    refine ⟨fun m σ H'=>∃ (pre:List Int) (z:Int),σ=[some (.ref a),some (.int p),some (.ref lw)]∧Same H H'∧H' lw=some (.lst ((pre++[z]).map V.int))∧0≤z∧z<r.length∧pre++Rv.walk r z=Rv.walk r p∧m=Rv.mea r z,
      ⟨_,[],p,rfl,(Same.refl H).upd hlw,cB,p0,p1,rfl,rfl⟩,?_⟩
    rintro m σ H2 ⟨pre,z,rfl,s2,h2,z0,z1,e,rfl⟩
    have g:=Rv.iu z0 z1
    have hlen:pre.length + (Rv.walk r z).length≤r.length + 1:=by
      have:=Rv.vg r p
      rw [← e,List.length_append] at this;exact this
    refine ⟨_,rfl,_,rfl,_,rfl,lw,_,_,_,rfl,rfl,SqL.of h2,uV pre z,a,_,_,_,rfl,rfl,s2.seq hS,jN z0 g,rfl,_,rfl,?_⟩
    rcases hR.step z0 z1 with hm | ⟨n0,n1⟩
    · rw [hm]
      refine Nt rfl ?_
      refine ⟨_,rfl,q lw H2 _ s2 hlw h2 ?_⟩
      have ew:Rv.walk r z=[z]:=by rw [Rv.gR hR z0 z1,hm,Rv.qb]
      rw [← e,ew]
    · have hd:(!decide (V.int (Rv.nxt r z)=V.int (-1)))=true:=by
        have:¬ Rv.nxt r z=-1:=by omega
        simp [this]
      rw [hd]
      refine pK ?_
      refine ⟨fun σ' H'=>∃ m',m'<Rv.mea r z∧∃ (pre:List Int) (z:Int),σ'=[some (.ref a),some (.int p),some (.ref lw)]∧Same H H'∧H' lw=some (.lst ((pre++[z]).map V.int))∧0≤z∧z<r.length∧pre++Rv.walk r z=Rv.walk r p∧m'=Rv.mea r z,fun _ _ x=>x,?_⟩
      refine ⟨_,rfl,.inl ⟨rfl,_,SqL.of h2⟩,_,rfl,_,rfl,_,rfl,lw,_,_,_,rfl,rfl,SqL.of h2,uV pre z,a,_,_,_,rfl,rfl,s2.seq hS,jN z0 g,lw,_,_,rfl,rfl,h2,aH ?_,?_⟩
      · rw [List.length_map,List.length_append]
        have:1≤(Rv.walk r z).length:=by rw [Rv.gR hR z0 z1];exact Nat.succ_le_succ (Nat.zero_le _)
        show pre.length + 1≤_
        omega
      · refine ⟨_,Rv.Hf hR z0 z1,pre++[z],Rv.nxt r z,rfl,s2.upd hlw,?_,n0,n1,?_,rfl⟩
        · rw [cB,List.map_append (l₁:=pre++[z])];rfl
        · rw [List.append_assoc]
          show pre++(z :: Rv.walk r (Rv.nxt r z))=_
          rw [← Rv.gR hR z0 z1];exact e
abbrev bB:Stmt:=top 20
theorem dM:aO ["below","start","reach","step"] ["below","start"] (ak bB):=⟨rfl,rfl,rfl,by decide +kernel,rfl,by decide +kernel,by decide +kernel⟩
def qt (K:PySem.W.Frag):Sp:=fun vs H Q _=>∃ (a:Addr) (r:List Int) (i:Nat),vs=[.ref a,.int (i:Int)]∧SqL K H a (r.map V.int)∧Rv.inB r∧i<r.length∧r.length≤900∧Q (.bl (decide (Rv.jr r r.length (i:Int)=-1))) H
structure Cst (mg:Str→Option Value):Prop where
  MOUTH:∃ t,mg "MOUTH"=some (.int (-1) t)
  MOST_REACHES:∃ t,mg "MOST_REACHES"=some (.int 40 t)
theorem vM {f:Addr} {fd:FuncData} (D:Df K mg "comes_to_mouth" bB ["below","start"] f fd) (B:Blt mg) (C:Cst mg):bW P w K mg base CX0 1 f fd ["below","start"] (qt K):=by
  obtain ⟨tM,hMOUTH⟩:=C.MOUTH
  refine D.F.ok dM (fun vs H Q E h=>?_) (fun cdv A outer s H vs Q E hr h=>?_)
  · obtain ⟨a,r,i,rfl,_⟩:=h;rfl
  · obtain ⟨a,r,i,rfl,hS,hB,hi,hn,q⟩:=h
    refine ⟨_,(aq (bU (i:=2) dM.nd rfl (Or.inl rfl) (pv 1))
      (aq (nR PassesOwn.never rfl (gZ rfl B.range (aj (aN aL rfl B.len PySem.boot_len (aj (pv 0) aA)) aA)) (bI (i:=3) dM.nd rfl (Or.inl rfl))
        (aq (bU (i:=2) dM.nd rfl (Or.inl rfl) (bF aJ (pv 0) (pv 2) (fun _ _=>rfl)))
        (aC (dZ (bw lA (pv 2) (fL (v:=.int (-1)) rfl hMOUTH ⟨_,rfl⟩) (bN _))
          (aC (bx jl))
          aY))))
      (aC (bx jl)))),?_⟩
    refine ⟨_,rfl,_,rfl,a,_,rfl,.inl hS,_,rfl,by rw [List.length_map];omega,by rw [List.length_map];omega,?_⟩
    rw [List.length_map,Int.toNat_natCast]
    refine uG (n:=r.length) (fun j σ H2=>∃ (v:Option V),σ=[some (.ref a),some (.int (i:Int)),some (.int (Rv.jr r j (i:Int))),v]∧H=H2∧(j=0∨Rv.jr r j (i:Int)≠-1)) ⟨none,rfl,rfl,.inl rfl⟩ ?_ ?_
    · rintro j σ H2 hj ⟨v,rfl,rfl,hne⟩
      obtain ⟨b0,b1⟩:=Rv.qD hB (p:=(i:Int)) (by omega) (by omega) j
      have hne':Rv.jr r j (i:Int)≠-1:=by
        rcases hne with e | e
        · subst e
          show (i:Int)≠-1
          omega
        · exact e
      have g:=Rv.iu (r:=r) (p:=Rv.jr r j (i:Int)) (by omega) b1
      have es:Rv.nxt r (Rv.jr r j (i:Int))=Rv.jr r (j + 1) (i:Int):=by
        rw [Rv.iD];unfold Rv.stp;rw [if_neg hne']
      rw [es] at g
      refine ⟨_,rfl,_,rfl,a,_,_,_,rfl,rfl,hS,jN (by omega) g,_,rfl,rfl,_,rfl,?_⟩
      refine MF (fun h=>?_) (fun h=>?_)
      · have e:Rv.jr r (j + 1) (i:Int)=-1:=by
          have:=of_decide_eq_true h
          exact V.int.inj this
        have e2:Rv.jr r r.length (i:Int)=-1:=by
          have:=Rv.qe r (i:Int) e (r.length - (j + 1))
          rw [show j + 1 + (r.length - (j + 1))=r.length by omega] at this
          exact this
        rw [decide_eq_true e2] at q
        exact q
      · refine ⟨_,rfl,rfl,.inr fun e=>h (decide_eq_true (by rw [e]))⟩
    · rintro σ H2 ⟨v,rfl,rfl,hne⟩
      have e:¬ Rv.jr r r.length (i:Int)=-1:=by
        rcases hne with e | e
        · omega
        · exact e
      rw [decide_eq_false e] at q
      exact q
abbrev cZ:Stmt:=top 21
theorem o8:aO ["below"] ["below"] (ak cZ):=⟨rfl,rfl,rfl,by decide +kernel,rfl,by decide +kernel,by decide +kernel⟩
def wR (K:PySem.W.Frag):Sp:=fun vs H Q _=>∃ (a:Addr) (r:List Int),vs=[.ref a]∧SqL K H a (r.map V.int)∧r.length≤900∧∀ H',Same H H'→Q (.bl (Rv.isR r)) H'
theorem qN {α:Type} {p:α→Bool} {l:List α}:(l.map p).all id=l.all p:=by
  rw [List.all_map];rfl
theorem Fx (r:List Int):(r.all fun x=>decide (-1≤x) && decide (x<(r.length:Int)))=decide (Rv.inB r):=by
  rw [Bool.eq_iff_iff]
  simp only [List.all_eq_true,Bool.and_eq_true,decide_eq_true_eq]
  exact Iff.rfl
theorem G5 {f fC:Addr} {fd fdC:FuncData} (D:Df K mg "is_river" cZ ["below"] f fd) (B:Blt mg) (C:Cst mg) (cj:Df K mg "comes_to_mouth" bB ["below","start"] fC fdC)
    (jF:bW P w K mg base CX0 1 fC fdC ["below","start"] (qt K)):bW P w K mg base CX0 2 f fd ["below"] (wR K):=by
  obtain ⟨tM,hMOUTH⟩:=C.MOUTH
  obtain ⟨tR,hMOST_REACHES⟩:=C.MOST_REACHES
  refine D.F.ok o8 (fun vs H Q E h=>?_) (fun cdv A outer s H vs Q E hr h=>?_)
  · obtain ⟨a,r,rfl,_⟩:=h;rfl
  · obtain ⟨a,r,rfl,hS,hn,q⟩:=h
    refine ⟨_,(aq (dZ (eX (jj jE jE aB (aN aL rfl B.len PySem.boot_len (aj (pv 0) aA)) (fL (v:=.int (40)) rfl hMOST_REACHES ⟨_,rfl⟩)))
        (aC (bx jl))
        aY)
      (aq (dZ (eX (fQ (aN (jO rfl) rfl B.all PyProof.Rows.boot_all (aj (gJ (ak cZ) rfl ["below"] rfl ["reach","below"] [none,some 0] (by decide +kernel) (by decide +kernel) (by decide +kernel) rfl (jY (pv 0)) (fun _ _ _=>(bI (i:=0) (show (["reach","below"]:List Str).Nodup by decide +kernel) rfl (Or.inl rfl))) (fun _ _ _=>iW) (fun _ _ _=>(mL jE pC (fL (v:=.int (-1)) rfl hMOUTH ⟨_,rfl⟩) (pv 0) (aN (mZ (K:=K) rfl) rfl B.len PySem.boot_len (aj (pv 1) aA))))) aA))))
        (aC (bx jl))
        aY)
      (aC (bx (aN (jO rfl) rfl B.all PyProof.Rows.boot_all (aj (gJ (ak cZ) rfl ["below"] rfl ["start","below"] [none,some 0] (by decide +kernel) (by decide +kernel) (by decide +kernel) rfl (gZ rfl B.range (aj (aN aL rfl B.len PySem.boot_len (aj (pv 0) aA)) aA)) (fun _ _ _=>(bI (i:=0) (show (["start","below"]:List Str).Nodup by decide +kernel) rfl (Or.inl rfl))) (fun _ _ _=>iW) (fun _ _ _=>(aX jF (hr.mono (by decide)) rfl cj.m cj.F.kp cj.b .nil bZ (aj (pv 1) (aj (pv 0) aA))))) aA)))))),?_⟩
    refine ⟨_,rfl,a,_,rfl,.inl hS,_,_,rfl,rfl,_,rfl,?_⟩
    rw [List.length_map]
    have no1:¬ (1≤r.length∧r.length≤40)→Q (.bl false) H:=fun h=>by
      have e:Rv.isR r=false:=by unfold Rv.isR;rw [decide_eq_false h];rfl
      have:=q H (Same.refl H)
      rw [e] at this
      exact this
    refine MF (fun h1=>⟨_,_,rfl,rfl,_,rfl,?_⟩) (fun h1=>⟨_,rfl,?_⟩)
    case refine_2=>exact pK (no1 fun z=>h1 (decide_eq_true (by omega)))
    have g1:=of_decide_eq_true h1
    by_cases h2:r.length≤40
    case neg =>
      rw [decide_eq_false (by omega)]
      exact pK (no1 fun z=>h2 z.2)
    rw [decide_eq_true (by omega)]
    refine lB ?_
    refine ⟨_,rfl,a,rfl,⟨_,hS⟩,fun acc hacc=>?_⟩
    refine oF (K:=K) (a:=a) (xs:=r.map V.int) (fun i τ H2=>∃ v,τ=[v,some (.ref a)]∧Same H H2∧H2 acc=some (.lst (((r.take i).map fun x=>decide (-1≤x) && decide (x<(r.length:Int))).map V.bl)))
      ⟨none,rfl,(Same.refl H).upd hacc,by rw [cB];rfl⟩ (fun i τ H2 _ ⟨_,_,s2,_⟩=>s2.seq hS) ?_ ?_
    · rintro i y τ H2 hi ⟨v,rfl,s2,h2'⟩
      obtain ⟨z,hz,rfl⟩:=ints_get hi
      have hil:i<r.length:=(List.getElem?_eq_some_iff.mp hz).1
      have e:∀ b:Bool,b=(decide (-1≤z) && decide (z<(r.length:Int)))→((r.take i).map fun x=>decide (-1≤x) && decide (x<(r.length:Int))).map V.bl++[V.bl b]=((r.take (i + 1)).map fun x=>decide (-1≤x) && decide (x<(r.length:Int))).map V.bl:=fun b hb=>by
        rw [List.take_add_one,hz,List.map_append,List.map_append,hb];rfl
      have hsz:(((r.take i).map fun x=>decide (-1≤x) && decide (x<(r.length:Int))).map V.bl).length<sizeLine:=aH (by rw [List.length_map,List.length_map,List.length_take];omega)
      refine Gg ?_
      refine ⟨_,rfl,_,_,rfl,rfl,_,rfl,?_⟩
      refine MF (fun h3=>?_) (fun h3=>?_)
      · refine ⟨_,rfl,a,_,rfl,.inl (s2.seq hS),_,_,rfl,rfl,_,h2',hsz,_,rfl,s2.upd hacc,?_⟩
        rw [cB,e _ (by rw [h3,List.length_map];rfl)]
      · refine ⟨_,h2',hsz,_,rfl,s2.upd hacc,?_⟩
        have h3':decide (-1≤z)=false:=by simpa using h3
        rw [cB,e false (by rw [h3'];rfl)]
    · rintro τ H2 ⟨v,rfl,s2,h2'⟩
      rw [List.length_map,List.take_length] at h2'
      refine ⟨acc,_,rfl,SqL.of h2',_,rfl,?_⟩
      rw [qN,Fx]
      by_cases hB:Rv.inB r
      case neg =>
        rw [decide_eq_false hB]
        refine pK ?_
        have e:Rv.isR r=false:=by unfold Rv.isR;rw [decide_eq_false hB,Bool.and_false];rfl
        have:=q H2 s2
        rw [e] at this
        exact this
      rw [decide_eq_true hB]
      refine lB ?_
      refine ⟨_,rfl,a,_,rfl,.inl (s2.seq hS),_,rfl,by rw [List.length_map];omega,by rw [List.length_map];omega,fun ac2 hac2=>?_⟩
      rw [List.length_map,Int.toNat_natCast]
      have nac2:H ac2=none:=s2.free hac2
      refine iK (fun i τ H3=>∃ v,τ=[v,some (.ref a)]∧Same H H3∧H3 ac2=some (.lst (((List.range i).map fun (j:Nat)=>decide (Rv.jr r r.length (j:Int)=-1)).map V.bl))) ⟨none,rfl,s2.upd nac2,by rw [cB];rfl⟩ ?_ ?_
      · rintro i τ H3 hi ⟨v,rfl,s3,h3⟩
        rw [show (0:Int) + (i:Int)=(i:Int) by omega]
        refine Gg ?_
        refine ⟨_,rfl,_,rfl,a,r,i,rfl,s3.seq hS,hB,hi,hn,?_⟩
        refine ⟨_,h3,aH (by rw [List.length_map,List.length_map,List.length_range];omega),_,rfl,s3.upd nac2,?_⟩
        rw [cB,List.range_succ,List.map_append,List.map_append];rfl
      · rintro τ H3 ⟨v,rfl,s3,h3⟩
        refine ⟨ac2,_,rfl,SqL.of h3,?_⟩
        have e:(((List.range r.length).map fun (j:Nat)=>decide (Rv.jr r r.length (j:Int)=-1)).all id)=Rv.isR r:=by
          unfold Rv.isR
          rw [qN,decide_eq_true (show 1≤r.length∧r.length≤40 from ⟨by omega,h2⟩),decide_eq_true hB,Bool.true_and,Bool.true_and,Bool.eq_iff_iff]
          simp only [List.all_eq_true,List.mem_range,decide_eq_true_eq]
        rw [e]
        exact q H3 s3
abbrev dO:Stmt:=top 5
theorem o7:aO ["amount"] ["amount"] (ak dO):=⟨rfl,rfl,rfl,by decide +kernel,rfl,by decide +kernel,by decide +kernel⟩
def mj:Sp:=fun vs H Q _=>∃ (z:Int),vs=[.int z]∧∀ b:Bool,(b=true↔(0≤z∧z≤1000000000000))→Q (.bl b) H
theorem vH {f:Addr} {fd:FuncData} (D:Df K mg "is_water" dO ["amount"] f fd) (CW:∃ t,mg "MOST_WATER"=some (.int 1000000000000 t)):bW P w K mg base CX0 1 f fd ["amount"] mj:=by
  obtain ⟨tW,hMOST_WATER⟩:=CW
  refine D.F.ok o7 (fun vs H Q E h=>?_) (fun cdv A outer s H vs Q E hr h=>?_)
  · obtain ⟨_,rfl,_⟩:=h;rfl
  · obtain ⟨z,rfl,q⟩:=h
    refine ⟨_,(aC (bx (mL jE jE aB (pv 0) (fL (v:=.int (1000000000000)) rfl hMOST_WATER ⟨_,rfl⟩)))),?_⟩
    walk_at "go"
    all_goals refine q _ ?_
    all_goals simp only [decide_eq_true_eq,Bool.false_eq_true,true_iff,false_iff]
    all_goals omega
abbrev cP:Stmt:=top 25
theorem eG:aO ["below","one","day","start","back","most"] ["below","one"] (ak cP):=⟨rfl,rfl,rfl,by decide +kernel,rfl,by decide +kernel,by decide +kernel⟩
def Mu (r:List Int) (l:Lic):Prop:=(0≤l.day∧l.day≤1000000∧0≤l.start∧l.start<r.length∧0≤l.most∧l.most≤1000000000000)∧(l.back=-1∨l.back∈(Rv.walk r l.start).drop 1)
def qp (K:PySem.W.Frag) (T:eU):Sp:=fun vs H Q _=>∃ (a t:Addr) (r:List Int) (l:Lic),vs=[.ref a,.ref t]∧SqL K H a (r.map V.int)∧Rv.m6 r∧r.length≤900∧SqT K H t (oV l)∧TabsOk T H∧∀ (b:Bool) (H':Hp),aV T H H'→(b=true↔Mu r l)→Q (.bl b) H'
theorem vL {f f1 f2:Addr} {fd fd1 fd2:FuncData} (D:Df K mg "is_licence" cP ["below","one"] f fd) (B:Blt mg) (C:Mth mg) (CD:∃ t,mg "LAST_DAY"=some (.int 1000000 t))
    (cO:Df K mg "is_water" dO ["amount"] f1 fd1) (jx:bW P w K mg base CX0 1 f1 fd1 ["amount"] mj)
    (iM:Df K mg "way_of" gb ["below","reach"] f2 fd2) (wL:bW P w K mg base CX0 1 f2 fd2 ["below","reach"] (wO K)):bW P w K mg base CX0 2 f fd ["below","one"] (qp K T):=by
  obtain ⟨tM,hMOUTH⟩:=C.MOUTH
  obtain ⟨tD,hLAST_DAY⟩:=CD
  refine D.F.ok eG (fun vs H Q E h=>?_) (fun cdv A outer s H vs Q E hr h=>?_)
  · obtain ⟨_,_,_,_,rfl,_⟩:=h;rfl
  · obtain ⟨a,t,r,l,rfl,hA,hR,hn,hT,tk,q⟩:=h
    have hml:((r.map V.int).length:Int)=(r.length:Int):=by rw [List.length_map]
    have O:=Ow.refl tk
    have s0:=O.same
    have no:¬ (0≤l.day∧l.day≤1000000∧0≤l.start∧l.start<r.length∧0≤l.most∧l.most≤1000000000000)→Q (.bl false) H:=fun h=>q _ _ O.same ⟨(fun e=>by cases e),fun z=>absurd z.1 h⟩
    refine ⟨_,(aq (jk (pv 1) (qw rfl (dj (bI (i:=2) eG.nd rfl (Or.inl rfl)) (dj (bI (i:=3) eG.nd rfl (Or.inl rfl)) (dj (bI (i:=4) eG.nd rfl (Or.inl rfl)) (dj (bI (i:=5) eG.nd rfl (Or.inl rfl)) jZ))))))
      (aq (dZ (eX (PW.pt (pw_and (jj jE jE aB (pv 2) (fL (v:=.int (1000000)) rfl hLAST_DAY ⟨_,rfl⟩)) (pw_and (jj jE pC aB (pv 3) (aN aL rfl B.len PySem.boot_len (aj (pv 0) aA))) (pw_and1 (fQ (aX jx (hr.mono (by decide)) rfl cO.m cO.F.kp cO.b .nil bZ (aj (pv 5) aA))))))))
        (aC (bx jl))
        aY)
      (aC (bx (Nk (ig lA (pv 4) (fL (v:=.int (-1)) rfl hMOUTH ⟨_,rfl⟩) (bN _)) (lO (ig nY (pv 4) (jL sE (aX wL (hr.mono (by decide)) rfl iM.m iM.F.kp iM.b .nil bZ (aj (pv 0) (aj (pv 3) aA))) (jX aB) pA) (by rfl)))))))),?_⟩
    refine ⟨_,rfl,t,_,rfl,hT,rfl,_,_,rfl,_,_,rfl,_,_,rfl,_,_,rfl,rfl,?_⟩
    walk_at "go"
    all_goals first | (refine no ?_;omega) | skip
    intro b hb
    walk_at "go"
    · have hm:=hb.mp (by assumption)
      have num:0≤l.day∧l.day≤1000000∧0≤l.start∧l.start<r.length∧0≤l.most∧l.most≤1000000000000:=by omega
      exact q _ _ O.same ⟨fun _=>⟨num,.inl (by omega)⟩,fun _=>rfl⟩
    · have hm:=hb.mp (by assumption)
      have num:0≤l.day∧l.day≤1000000∧0≤l.start∧l.start<r.length∧0≤l.most∧l.most≤1000000000000:=by omega
      refine ⟨a,r,l.start,rfl,hA,hR,by omega,by omega,hn,O.got fun lw H2 xs O e=>?_⟩
      subst e
      refine ⟨1,rfl,lw,_,rfl,O.sq 0,fun l1 h1=>?_⟩
      walk_at "nw"
      rw [show uN ((Rv.walk r l.start).map V.int) (some 1) none=((Rv.walk r l.start).drop 1).map V.int from wF _ 1] at O
      refine ⟨l1,_,rfl,.inl (O.sq 0),rfl,oE _,?_⟩
      rw [if_neg Bool.false_ne_true,uD]
      refine q _ _ O.same ?_
      rw [decide_eq_true_iff]
      exact ⟨fun h=>⟨num,.inr h⟩,fun h=>h.2.resolve_left (by omega)⟩
    · refine no fun z=>?_
      have:=hb.mpr ⟨z.2.2.2.2.1,z.2.2.2.2.2⟩
      simp_all
abbrev bR:Stmt:=top 34
theorem jT:aO ["script","k"] ["script","k"] (ak bR):=⟨rfl,rfl,rfl,by decide +kernel,rfl,by decide +kernel,by decide +kernel⟩
def su (K:PySem.W.Frag):Sp:=fun vs H Q _=>∃ (a:Addr) (ns:List Int) (k:Nat),vs=[.ref a,.int (k:Int)]∧SqL K H a (ns.map V.int)∧Q (.int (ns.getD k 0)) H
theorem Fp {f:Addr} {fd:FuncData} (D:Df K mg "_law_cell_at" bR ["script","k"] f fd) (B:Blt mg):bW P w K mg base CX0 1 f fd ["script","k"] (su K):=by
  refine D.F.ok jT (fun vs H Q E h=>?_) (fun cdv A outer s H vs Q E hr h=>?_)
  · obtain ⟨a,ns,k,rfl,_⟩:=h;rfl
  · obtain ⟨a,ns,k,rfl,hS,q⟩:=h
    refine ⟨_,(aq (dZ (bw pC (pv 1) (aN aL rfl B.len PySem.boot_len (aj (pv 0) aA)) (bN _))
        (aC (bx (bF aJ (pv 0) (pv 1) (fun _ _=>rfl))))
        aY)
      (aC (bx aB))),?_⟩
    refine ⟨_,rfl,_,rfl,a,_,rfl,.inl hS,_,_,rfl,rfl,_,rfl,?_⟩
    refine MF (fun h=>?_) (fun h=>?_)
    · have hk:k<ns.length:=by
        have:=of_decide_eq_true h
        rw [List.length_map] at this;omega
      have e:ns[k]?=some (ns.getD k 0):=by rw [List.getD_eq_getElem?_getD,List.getElem?_eq_getElem hk];rfl
      exact ⟨_,rfl,_,rfl,a,_,_,_,rfl,rfl,hS,cM e,q⟩
    · have hk:¬ k<ns.length:=fun z=>h (decide_eq_true (by rw [List.length_map];omega))
      have e:ns.getD k 0=0:=by rw [List.getD_eq_getElem?_getD,List.getElem?_eq_none (by omega)];rfl
      rw [e] at q
      exact q
abbrev cC:Stmt:=top 35
theorem mF:aO ["found"] ["found"] (ak cC):=⟨rfl,rfl,rfl,by decide +kernel,rfl,by decide +kernel,by decide +kernel⟩
def lZ:Sp:=fun vs H Q _=>∃ (z:Int),vs=[.int z]∧Q (.bl true) H
theorem xG (K:PySem.W.Frag):PySem.W.kitOne K (.type "int") (.type "int")=some true:=by rfl
theorem xH (K:PySem.W.Frag):PySem.W.kitOne K (.type "int") (.type "bool")=some false:=by rfl
theorem xu (K:PySem.W.Frag):PySem.W.kitOne K (.type "list") (.type "list")=some true:=by rfl
theorem vG {f:Addr} {fd:FuncData} (D:Df K mg "_law_whole" cC ["found"] f fd) (B:Blt mg):bW P w K mg base CX0 1 f fd ["found"] lZ:=by
  refine D.F.ok mF (fun vs H Q E h=>?_) (fun cdv A outer s H vs Q E hr h=>?_)
  · obtain ⟨z,rfl,_⟩:=h;rfl
  · obtain ⟨z,rfl,q⟩:=h
    refine ⟨_,(aC (bx (lQ (aN jd rfl B.isinstance PyProof.Rows.boot_isinstance (aj (pv 0) (aj (j6 (v:=.ty "int") rfl B.int PyProof.Rows.boot_int rfl) aA))) (lO (wZ (aN jd rfl B.isinstance PyProof.Rows.boot_isinstance (aj (pv 0) (aj (j6 (v:=.ty "bool") rfl B.bool PyProof.Rows.boot_bool rfl) aA)))))))),?_⟩
    refine ⟨_,rfl,_,_,_,true,rfl,.int _,xG K,_,rfl,pK ?_⟩
    exact ⟨_,rfl,_,_,_,false,rfl,.int _,xH K,_,rfl,q⟩
def dW (x:Str):Prop:=1≤x.cps.size∧x.cps.size≤8∧∀ c∈x.cps.toList,97≤c∧c≤122
theorem um:∀ c:Nat,97≤c→c≤122→(!(Builtin.Str.occurrences ("abcdefghijklmnopqrstuvwxyz":Str) ⟨#[c]⟩ 0 ("abcdefghijklmnopqrstuvwxyz":Str).length 1).isEmpty)=true:=by
  have h:∀ k:Fin 26,(!(Builtin.Str.occurrences ("abcdefghijklmnopqrstuvwxyz":Str) ⟨#[97 + k.val]⟩ 0 ("abcdefghijklmnopqrstuvwxyz":Str).length 1).isEmpty)=true:=by decide +kernel
  intro c h0 h1
  have:=h ⟨c - 97,by omega⟩
  rwa [show 97 + (c - 97)=c by omega] at this
abbrev eN:Stmt:=top 6
theorem qW:aO ["text"] ["text"] (ak eN):=⟨rfl,rfl,rfl,by decide +kernel,rfl,by decide +kernel,by decide +kernel⟩
def nj (T:eU):Sp:=fun vs H Q _=>∃ (x:Str),vs=[.str x]∧dW x∧TabsOk T H∧∀ H',aV T H H'→Q (.bl true) H'
structure CN (mg:Str→Option Value):Prop where
  LONGEST_NAME:∃ t,mg "LONGEST_NAME"=some (.int 8 t)
  LETTERS:∃ t,mg "LETTERS"=some (.str "abcdefghijklmnopqrstuvwxyz" t)
theorem tQ {f:Addr} {fd:FuncData} (D:Df K mg "is_name" eN ["text"] f fd) (B:Blt mg) (CN:CN mg):bW P w K mg base CX0 1 f fd ["text"] (nj T):=by
  obtain ⟨tM,hLONGEST_NAME⟩:=CN.LONGEST_NAME
  obtain ⟨tL,hLETTERS⟩:=CN.LETTERS
  refine D.F.ok qW (fun vs H Q E h=>?_) (fun cdv A outer s H vs Q E hr h=>?_)
  · obtain ⟨_,rfl,_⟩:=h;rfl
  · obtain ⟨x,rfl,⟨n1,n8,nc⟩,tk,q⟩:=h
    have hu:=hr.units
    have O:=Ow.refl tk
    refine ⟨_,(aC (bx (lQ (mL jE jE aB (aN iw rfl B.len PySem.boot_len (aj (pv 0) aA)) (fL (v:=.int (8)) rfl hLONGEST_NAME ⟨_,rfl⟩)) (lO (aN (jO rfl) rfl B.all PyProof.Rows.boot_all (aj (gJ (ak eN) rfl ["text"] rfl ["sign"] [none] (by decide +kernel) (by decide +kernel) (by decide +kernel) rfl (GJ (pv 0)) (fun _ _ _=>(bI (i:=0) (show (["sign"]:List Str).Nodup by decide +kernel) rfl (Or.inl rfl))) (fun _ _ _=>iW) (fun _ _ _=>(ig tO (pv 0) (fL (v:=.str "abcdefghijklmnopqrstuvwxyz") rfl hLETTERS ⟨_,rfl⟩) (by rfl)))) aA)))))),?_⟩
    have hl:x.length=x.cps.size:=rfl
    refine ⟨_,rfl,x,rfl,(by rw [hl,sizeLine_eq];omega),_,_,rfl,rfl,?_⟩
    refine ⟨_,rfl,?_⟩
    rw [decide_eq_true (show (1:Int)≤(x.length:Int) by omega)]
    refine pK ⟨_,_,rfl,rfl,_,rfl,?_⟩
    rw [decide_eq_true (show (x.length:Int)≤8 by omega)]
    refine pK ?_
    refine ⟨_,rfl,x,rfl,?_,fun lw hlw=>?_⟩
    · rw [Array.all_eq_true]
      intro i hi
      have:=nc _ (Array.getElem_mem_toList hi)
      exact decide_eq_true (by omega)
    refine wH (fun i τ H'=>Iv (∃ (v0:Option V),τ=[v0]∧Ow T H H' [(lw,.lst ((List.replicate i true).map V.bl))])) ⟨trivial,none,rfl,O.mk' hlw rfl⟩ ?_ ?_
    · rintro i c τ H4 hc ⟨-,v0,rfl,O⟩
      have hi:i<x.cps.size:=by
        rcases Nat.lt_or_ge i x.cps.size with h | h
        · exact h
        · rw [Array.getElem?_eq_none h] at hc;cases hc
      have hm:c∈x.cps.toList:=by
        rw [Array.getElem?_eq_getElem hi] at hc
        cases hc;exact Array.getElem_mem_toList hi
      have:=nc c hm
      refine Gg ?_
      refine ⟨_,rfl,_,_,rfl,rfl,?_⟩
      rw [um c this.1 this.2]
      refine ⟨_,O.get 0,aH (by rw [List.length_map,List.length_replicate];omega),?_⟩
      walk_at "pt"
      refine ⟨trivial,_,rfl,?_⟩
      rw [List.replicate_succ',List.map_append];exact O
    rintro τ H4 ⟨-,v0,rfl,O⟩
    refine ⟨lw,_,rfl,O.sq 0,?_⟩
    rw [show (List.replicate x.cps.size true).all id=true by simp]
    exact q _ O.same
abbrev bf:Stmt:=top 31
theorem jR:aO ["name"] ["name"] (ak bf):=⟨rfl,rfl,rfl,by decide +kernel,rfl,by decide +kernel,by decide +kernel⟩
def gG (T:eU):Sp:=fun vs H Q _=>∃ (x:Str),vs=[.str x]∧dW x∧TabsOk T H∧∀ H',aV T H H'→Q .non H'
theorem pD {f f1:Addr} {fd fd1:FuncData} (D:Df K mg "look_at_name" bf ["name"] f fd)
    (gF:Df K mg "is_name" eN ["text"] f1 fd1) (uX:bW P w K mg base CX0 1 f1 fd1 ["text"] (nj T)):bW P w K mg base CX0 2 f fd ["name"] (gG T):=by
  refine D.F.ok jR (fun vs H Q E h=>?_) (fun cdv A outer s H vs Q E hr h=>?_)
  · obtain ⟨_,rfl,_⟩:=h;rfl
  · obtain ⟨x,rfl,nx,tk,q⟩:=h
    refine ⟨_,(aC (dZ (eX (fQ (aX uX (hr.mono (by decide)) rfl gF.m gF.F.kp gF.b .nil bZ (aj (pv 0) aA))))
        (aC gH)
        aY)),?_⟩
    refine ⟨_,rfl,x,rfl,nx,tk,fun H1 s1=>?_⟩
    refine ⟨_,rfl,lB ?_⟩
    exact q _ s1
structure Rs where
  p:Addr
  dx:Addr
  lb:Addr
  ll:Addr
  ln:Addr
  lo:Addr
abbrev fM:List Str:=["below","day","licences","names","done"]
abbrev xJ (C:Addr) (A:Rs) (day:Int):HO:=.ins C A.dx [("below",.ref A.lb),("day",.int day),("licences",.ref A.ll),("names",.ref A.ln),("done",.ref A.lo)]
abbrev RL (C:Addr) (A:Rs) (r:List Int) (day:Int) (us:List V) (ns:List Str) (ds:List V):List (Addr × HO) :=
  [(A.p,xJ C A day),(A.dx,.own A.p),(A.lb,.lst (r.map V.int)),(A.ll,.lst us),(A.ln,.lst (ns.map V.str)),(A.lo,.lst ds)]
section
variable {K:PySem.W.Frag} {mg:Str→Option Value} {C f0:Addr}
theorem _root_.L2.Cl.nB (R:Cl K mg "Roll" C f0 fM):gC K C "below":=R.n _ (.head _)
theorem _root_.L2.Cl.nD (R:Cl K mg "Roll" C f0 fM):gC K C "day":=R.n _ (.tail _ (.head _))
theorem _root_.L2.Cl.nL (R:Cl K mg "Roll" C f0 fM):gC K C "licences":=R.n _ (.tail _ (.tail _ (.head _)))
theorem _root_.L2.Cl.nN (R:Cl K mg "Roll" C f0 fM):gC K C "names":=R.n _ (.tail _ (.tail _ (.tail _ (.head _))))
theorem _root_.L2.Cl.nO (R:Cl K mg "Roll" C f0 fM):gC K C "done":=R.n _ (.tail _ (.tail _ (.tail _ (.tail _ (.head _)))))
end
theorem GC (A:Rs) (day:Int) (z:V):m7 "day" z [("below",.ref A.lb),("day",.int day),("licences",.ref A.ll),("names",.ref A.ln),("done",.ref A.lo)]=([("below",.ref A.lb),("day",z),("licences",.ref A.ll),("names",.ref A.ln),("done",.ref A.lo)]:List (Str × V)):=rfl
def jQ (K:PySem.W.Frag) (C:Addr) (y:Str):Sp:=fun vs H Q _=>∃ (p dx l:Addr) (fs:List (Str × V)) (us:List V),vs=[.ref p]∧H p=some (.ins C dx fs)∧fs.lookup y=some (.ref l)∧SqL K H l us∧∀ l',H l'=none→Q (.ref l') (upd H l' (.lst us))
abbrev cQ:Stmt:=inClass (top 32) 2
theorem nH:aO ["self"] ["self"] (ak cQ):=⟨rfl,rfl,rfl,by decide +kernel,rfl,by decide +kernel,by decide +kernel⟩
section
variable {P:Program} {w:World} {K:PySem.W.Frag} {mg:Str→Option Value} {base:Heap} {C f0:Addr}
theorem vQ {f:Addr} {fd:FuncData} (D:Dm K C "roll" "Roll.roll" cQ ["self"] f fd) (B:Blt mg) (R:Cl K mg "Roll" C f0 fM):bW P w K mg base CX0 1 f fd ["self"] (jQ K C "licences"):=by
  refine D.F.ok nH (fun vs H Q E h=>?_) (fun cdv A outer s H vs Q E hr h=>?_)
  · obtain ⟨_,_,_,_,_,rfl,_⟩:=h;rfl
  · obtain ⟨p,dx,l,fs,us,rfl,hp,hf,hl,q⟩:=h
    refine ⟨_,(aC (bx (gA gj rfl B.list PyProof.Rows.boot_list (aj (cN (pv 0) rfl) aA)))),?_⟩
    exact ⟨_,rfl,p,C,dx,fs,.ref l,rfl,hp,R.c,R.nL,hf,l,us,rfl,.inl hl,q⟩
end
abbrev bT:Stmt:=inClass (top 32) 3
theorem jU:aO ["self"] ["self"] (ak bT):=⟨rfl,rfl,rfl,by decide +kernel,rfl,by decide +kernel,by decide +kernel⟩
section
variable {P:Program} {w:World} {K:PySem.W.Frag} {mg:Str→Option Value} {base:Heap} {C f0:Addr}
theorem pH {f:Addr} {fd:FuncData} (D:Dm K C "holders" "Roll.holders" bT ["self"] f fd) (B:Blt mg) (R:Cl K mg "Roll" C f0 fM):bW P w K mg base CX0 1 f fd ["self"] (jQ K C "names"):=by
  refine D.F.ok jU (fun vs H Q E h=>?_) (fun cdv A outer s H vs Q E hr h=>?_)
  · obtain ⟨_,_,_,_,_,rfl,_⟩:=h;rfl
  · obtain ⟨p,dx,l,fs,us,rfl,hp,hf,hl,q⟩:=h
    refine ⟨_,(aC (bx (gA gj rfl B.list PyProof.Rows.boot_list (aj (cN (pv 0) rfl) aA)))),?_⟩
    exact ⟨_,rfl,p,C,dx,fs,.ref l,rfl,hp,R.c,R.nN,hf,l,us,rfl,.inl hl,q⟩
end
abbrev dF:Stmt:=inClass (top 32) 5
theorem nF:aO ["self"] ["self"] (ak dF):=⟨rfl,rfl,rfl,by decide +kernel,rfl,by decide +kernel,by decide +kernel⟩
def rR (T:eU) (C:Addr):Sp:=fun vs H Q _=>∃ (A:Rs) (H0:Hp) (B:List (Addr × HO)) (r:List Int) (day:Int) (us:List V) (ns:List Str) (ds:List V),vs=[.ref A.p]∧Ow T H0 H (RL C A r day us ns ds++B)∧ds.length≤9000 ∧
  ∀ (t:Addr) (H':Hp),Ow T H0 H' ((t,.tup [.str "turn"]) :: (RL C A r (day + 1) us ns (ds++[.ref t])++B))→Q .non H'
section
variable {P:Program} {w:World} {K:PySem.W.Frag} {mg:Str→Option Value} {base:Heap} {T:eU} {C f0:Addr}
theorem vN {f:Addr} {fd:FuncData} (D:Dm K C "turn" "Roll.turn" dF ["self"] f fd) (R:Cl K mg "Roll" C f0 fM):bW P w K mg base CX0 1 f fd ["self"] (rR T C):=by
  refine D.F.ok nF (fun vs H Q E h=>?_) (fun cdv A outer s H vs Q E hr h=>?_)
  · obtain ⟨_,_,_,_,_,_,_,_,rfl,_⟩:=h;rfl
  · obtain ⟨A,H0,L,r,day,us,ns,ds,rfl,O,hd,q⟩:=h
    refine ⟨_,(aq (sY (pv 0) aB Hs)
      (aC (aZ (iR PySem.F.plainAttrs_list PySem.F.slot_list_append PySem.F.type_list_append bJ (cN (pv 0) rfl) (aj (gq (aj gw aA)) aA))))),?_⟩
    simp only [List.cons_append,List.nil_append] at O
    refine ⟨_,rfl,A.p,C,A.dx,_,_,rfl,O.get 0,R.c,R.nD,rfl,_,_,rfl,rfl,A.dx,_,O.get 0,(by show 5<1000;decide),?_⟩
    rw [GC]
    walk_at "pt"
    refine ⟨_,rfl,A.p,C,A.dx,_,.ref A.lo,rfl,O.get 0,R.c,R.nO,rfl,.inl ⟨rfl,_,O.sq 5⟩,szl,fun t ht=>?_⟩
    walk_at "nw"
    refine ⟨A.lo,_,_,rfl,rfl,O.get 6,aH (by omega),?_⟩
    walk_at "pt"
    exact q t _ O
end
abbrev cH:Stmt:=inClass (top 32) 13
theorem mJ:aO ["self","one","holder"] ["self","one","holder"] (ak cH):=⟨rfl,rfl,rfl,by decide +kernel,rfl,by decide +kernel,by decide +kernel⟩
def mC (C:Addr):Sp:=fun vs H Q _=>∃ (A:Rs) (day:Int) (us:List V) (ns:List V) (v x:V),vs=[.ref A.p,v,x]∧H A.p=some (xJ C A day)∧H A.ll=some (.lst us)∧H A.ln=some (.lst ns)∧us.length≤900∧ns.length≤900∧A.p≠A.ll∧A.p≠A.ln∧A.ln≠A.ll ∧
  Q (.int us.length) (upd (upd H A.ll (.lst (us++[v]))) A.ln (.lst (ns++[x])))
section
variable {P:Program} {w:World} {K:PySem.W.Frag} {mg:Str→Option Value} {base:Heap} {T:eU} {C f0:Addr}
theorem tV {f:Addr} {fd:FuncData} (D:Dm K C "enter" "Roll.enter" cH ["self","one","holder"] f fd) (B:Blt mg) (R:Cl K mg "Roll" C f0 fM):bW P w K mg base CX0 1 f fd ["self","one","holder"] (mC C):=by
  refine D.F.ok mJ (fun vs H Q E h=>?_) (fun cdv A outer s H vs Q E hr h=>?_)
  · obtain ⟨_,_,_,_,_,_,rfl,_⟩:=h;rfl
  · obtain ⟨A,day,us,ns,v,x,rfl,hp,hl,hn,ul,nl,n1,n2,n3,q⟩:=h
    refine ⟨_,(aq (aZ (iR PySem.F.plainAttrs_list PySem.F.slot_list_append PySem.F.type_list_append bJ (cN (pv 0) rfl) (aj (pv 1) aA)))
      (aq (aZ (iR PySem.F.plainAttrs_list PySem.F.slot_list_append PySem.F.type_list_append bJ (cN (pv 0) rfl) (aj (pv 2) aA)))
      (aC (bx (bD jC (aN aL rfl B.len PySem.boot_len (aj (cN (pv 0) rfl) aA)) aB))))),?_⟩
    refine ⟨_,rfl,A.p,C,A.dx,_,.ref A.ll,rfl,hp,R.c,R.nL,rfl,.inl ⟨rfl,_,SqL.of hl⟩,_,rfl,A.ll,_,_,rfl,rfl,hl,aH (by omega),?_⟩
    have hp:=(aR (H:=H) (o:=.lst (us++[v])) n1).trans hp
    have hn:=(aR (H:=H) (o:=.lst (us++[v])) n3).trans hn
    have hl:upd H A.ll (.lst (us++[v])) A.ll=some (.lst (us++[v])):=cB
    refine ⟨_,rfl,A.p,C,A.dx,_,.ref A.ln,rfl,hp,R.c,R.nN,rfl,.inl ⟨rfl,_,SqL.of hn⟩,_,rfl,A.ln,_,_,rfl,rfl,hn,aH (by omega),?_⟩
    have hp:=(aR (o:=.lst (ns++[x])) n2).trans hp
    have hl:=(aR (o:=.lst (ns++[x])) n3.symm).trans hl
    refine ⟨_,rfl,A.p,C,A.dx,_,.ref A.ll,rfl,hp,R.c,R.nL,rfl,A.ll,_,rfl,.inl (SqL.of hl),_,_,rfl,rfl,?_⟩
    dsimp only
    rw [show (((us++[v]).length:Nat):Int) - 1=(us.length:Int) by rw [List.length_append];simp]
    exact q
end
abbrev aM:Stmt:=inClass (top 32) 17
theorem iQ:aO ["self"] ["self"] (ak aM):=⟨rfl,rfl,rfl,by decide +kernel,rfl,by decide +kernel,by decide +kernel⟩
def oY (K:PySem.W.Frag) (C:Addr):Sp:=fun vs H Q _=>∃ (A:Rs) (day:Int) (us:List V),vs=[.ref A.p]∧H A.p=some (xJ C A day)∧SqL K H A.ll us∧us.length<60∧Q .non H
section
variable {P:Program} {w:World} {K:PySem.W.Frag} {mg:Str→Option Value} {base:Heap} {T:eU} {C f0:Addr}
theorem vP {f:Addr} {fd:FuncData} (D:Dm K C "look_at_room" "Roll.look_at_room" aM ["self"] f fd) (B:Blt mg) (R:Cl K mg "Roll" C f0 fM) (CL:∃ t,mg "MOST_LICENCES"=some (.int 60 t)):bW P w K mg base CX0 1 f fd ["self"] (oY K C):=by
  obtain ⟨tL,hMOST_LICENCES⟩:=CL
  refine D.F.ok iQ (fun vs H Q E h=>?_) (fun cdv A outer s H vs Q E hr h=>?_)
  · obtain ⟨_,_,_,rfl,_⟩:=h;rfl
  · obtain ⟨A,day,us,rfl,hp,hl,hn,q⟩:=h
    refine ⟨_,(aC (dZ (bw Nm (aN aL rfl B.len PySem.boot_len (aj (cN (pv 0) rfl) aA)) (fL (v:=.int (60)) rfl hMOST_LICENCES ⟨_,rfl⟩) (bN _))
        (aC gH)
        aY)),?_⟩
    refine ⟨_,rfl,A.p,C,A.dx,_,.ref A.ll,rfl,hp,R.c,R.nL,rfl,A.ll,_,rfl,.inl hl,_,_,rfl,rfl,_,rfl,?_⟩
    rw [decide_eq_false (show ¬ (60:Int)≤(us.length:Int) by omega)]
    exact lB q
end
theorem Ez {j:Nat} {σ:St} {H:Hp} {Q:VK} {bv:V} {stop:Int} (hb:bv=.non∧stop=-1∨bv=.int stop) (hj:σ[j]?=some (some bv)) (h:Q (.int stop) H) :
    tIf (Eu (tOp (fun x y H Q=>y=V.non∧Q (V.bl (decide (x=V.non))) H) (Mx j) (tC V.non))) (tC (V.int (-1))) (Mx j) σ H Q:=by
  refine ⟨bv,hj,rfl,_,rfl,?_⟩
  rcases hb with ⟨rfl,rfl⟩ | rfl
  · exact pK h
  · exact lB ⟨_,hj,h⟩
abbrev dH:Stmt:=inClass (top 32) 6
theorem gY:aO ["self","holder","start","most","back","stop","one"] ["self","holder","start","most","back"] (ak dH):=⟨rfl,rfl,rfl,by decide +kernel,rfl,by decide +kernel,by decide +kernel⟩
abbrev P0 (x:Str) (l:Lic):List V:=[.str "file",.str x,.int l.start,.int l.most,.int l.back]
def rY (T:eU) (C:Addr):Sp:=fun vs H Q _=>∃ (A:Rs) (H0:Hp) (B:List (Addr × HO)) (r:List Int) (day:Int) (us:List V) (ns:List Str) (ds:List V) (x:Str) (l:Lic) (bv:V),vs=[.ref A.p,.str x,.int l.start,.int l.most,bv]∧(bv=.non∧l.back=-1∨bv=.int l.back)∧l.day=day ∧
  Ow T H0 H (RL C A r day us ns ds++B)∧dW x∧Rv.m6 r∧r.length≤40∧Mu r l∧l.most≠0∧us.length<60∧ns.length≤900∧ds.length≤9000 ∧
  ∀ (t1 t2:Addr) (H':Hp),Ow T H0 H' ((t2,.tup (P0 x l)) :: (t1,.tup (oV l)) :: (RL C A r day (us++[.ref t1]) (ns++[x]) (ds++[.ref t2])++B))→Q (.int us.length) H'
section
variable {P:Program} {w:World} {K:PySem.W.Frag} {mg:Str→Option Value} {base:Heap} {T:eU} {C f0:Addr}
theorem vV {f f1 f2 f3 f4:Addr} {fd fd1 fd2 fd3 fd4:FuncData} (D:DmD K C "file" "Roll.file" dH ["self","holder","start","most","back"] f fd) (B:Blt mg) (CM:Mth mg) (R_Roll:Cl K mg "Roll" C f0 fM)
    (aG:Df K mg "look_at_name" bf ["name"] f1 fd1) (dX:bW P w K mg base CX0 2 f1 fd1 ["name"] (gG T))
    (d9:Df K mg "is_licence" cP ["below","one"] f2 fd2) (oO:bW P w K mg base CX0 2 f2 fd2 ["below","one"] (qp K T))
    (aQ:Dm K C "look_at_room" "Roll.look_at_room" aM ["self"] f3 fd3) (d8:bW P w K mg base CX0 1 f3 fd3 ["self"] (oY K C))
    (cI:Dm K C "enter" "Roll.enter" cH ["self","one","holder"] f4 fd4) (iC:bW P w K mg base CX0 1 f4 fd4 ["self","one","holder"] (mC C)) :
    bW P w K mg base CX0 3 f fd ["self","holder","start","most","back"] (rY T C):=by
  obtain ⟨tM,hMOUTH⟩:=CM.MOUTH
  have R:=R_Roll
  refine D.F.ok gY (fun vs H Q E h=>?_) (fun cdv A outer s H vs Q E hr h=>?_)
  · obtain ⟨_,_,_,_,_,_,_,_,_,_,_,rfl,_⟩:=h;rfl
  · obtain ⟨A,H0,L,r,day,us,ns,ds,x,l,bv,rfl,hb,rfl,O,nx,hR,r40,hl,m0,ul,nl,dl,q⟩:=h
    refine ⟨_,(aq (aZ (aX dX (hr.mono (by decide)) rfl aG.m aG.F.kp aG.b .nil bZ (aj (pv 1) aA)))
      (aq (bU (i:=5) gY.nd rfl (Or.inl rfl) (vC (bw GR (pv 4) w5 (bN _)) (fL (v:=.int (-1)) rfl hMOUTH ⟨_,rfl⟩) (pv 4)))
      (aq (bU (i:=6) gY.nd rfl (Or.inl rfl) (gq (aj (cN (pv 0) rfl) (aj (pv 2) (aj (pv 5) (aj (pv 3) aA))))))
      (aq (dZ (PW.pt (pw_or (bw lA (pv 3) aB (bN _)) (pw_or1 (eX (fQ (aX oO (hr.mono (by decide)) rfl d9.m d9.F.kp d9.b .nil bZ (aj (cN (pv 0) rfl) (aj (pv 6) aA))))))))
        (aC gH)
        aY)
      (aq (aZ (iI (pv 0) R_Roll.c aQ.m d8 (hr.mono (by decide)) aQ.b .nil bZ))
      (aq (aZ (iR PySem.F.plainAttrs_list PySem.F.slot_list_append PySem.F.type_list_append bJ (cN (pv 0) rfl) (aj (gq (aj gw (aj (pv 1) (aj (pv 2) (aj (pv 3) (aj (pv 5) aA)))))) aA)))
      (aC (bx (fK (pv 0) R_Roll.c cI.m iC (hr.mono (by decide)) cI.b .nil bZ (aj (pv 6) (aj (pv 1) aA))))))))))),?_⟩
    simp only [List.cons_append,List.nil_append] at O
    refine ⟨_,rfl,x,rfl,nx,O.same.t1,fun H1 s1=>?_⟩
    have O:=O.kY s1
    refine Ez hb rfl ?_
    refine ⟨_,rfl,A.p,C,A.dx,_,.int l.day,rfl,O.get 0,R.c,R.nD,rfl,_,rfl,_,rfl,_,rfl,szl,fun t1 ht1=>?_⟩
    walk_at "nw"
    refine ⟨_,rfl,rfl,_,rfl,?_⟩
    rw [decide_eq_false (show ¬ V.int l.most=V.int 0 from fun z=>m0 (V.int.inj z))]
    refine lB ?_
    refine ⟨_,rfl,A.p,C,A.dx,_,.ref A.lb,rfl,O.get 1,R.c,R.nB,rfl,_,rfl,A.lb,t1,r,l,rfl,O.sq 3,hR,by omega,O.sqT 0,O.same.t1,fun b H2 s2 hb2=>?_⟩
    have hbt:b=true:=hb2.mpr hl
    subst hbt
    have O:=O.kY s2
    refine ⟨_,rfl,lB ?_⟩
    refine ⟨_,rfl,A.p,A.dx,_,rfl,O.get 1,rfl,A,l.day,us,rfl,O.get 1,O.sq 4,ul,?_⟩
    refine ⟨_,rfl,A.p,C,A.dx,_,.ref A.lo,rfl,O.get 1,R.c,R.nO,rfl,.inl ⟨rfl,_,O.sq 6⟩,_,rfl,_,rfl,_,rfl,_,rfl,szl,fun t2 ht2=>?_⟩
    walk_at "nw"
    refine ⟨A.lo,_,_,rfl,rfl,O.get 7,aH (by omega),?_⟩
    walk_at "pt"
    refine ⟨_,rfl,A.p,A.dx,_,rfl,O.get 2,rfl,_,rfl,_,rfl,A,l.day,us,ns.map V.str,.ref t1,.str x,rfl,O.get 2,O.get 5,O.get 6,by omega,by rw [List.length_map];exact nl,O.ne 2 5,O.ne 2 6,O.ne 6 5,?_⟩
    have O:=(O.Gi 5 rfl (o':=.lst (us++[.ref t1])) rfl).Gi 6 rfl (o':=.lst (ns.map V.str++[.str x])) rfl
    refine q t1 t2 _ ?_
    simp only [RL,List.map_append,List.map_cons,List.map_nil];exact O
end
abbrev bH:Stmt:=inClass (top 32) 0
theorem jD:aO ["self","below"] ["self","below"] (ak bH):=⟨rfl,rfl,rfl,by decide +kernel,rfl,by decide +kernel,by decide +kernel⟩
def rW (T:eU) (C:Addr):Sp:=fun vs H Q _=>∃ (p dx lv:Addr) (H0:Hp) (B:List (Addr × HO)) (r:List Int),vs=[.ref p,.ref lv]∧Ow T H0 H ((p,.ins C dx []) :: (dx,.own p) :: B)∧H lv=some (.lst (r.map V.int))∧lv≠p∧Rv.isR r=true∧r.length≤40 ∧
  ∀ (A:Rs) (H':Hp),A.p=p→Ow T H0 H' (RL C A r 0 [] [] []++B)→Q .non H'
section
variable {P:Program} {w:World} {K:PySem.W.Frag} {mg:Str→Option Value} {base:Heap} {T:eU} {C f0:Addr}
theorem vU {f f1:Addr} {fd fd1:FuncData} (D:Dm K C "__init__" "Roll.__init__" bH ["self","below"] f fd) (B:Blt mg) (R:Cl K mg "Roll" C f0 fM)
    (fO:Df K mg "is_river" cZ ["below"] f1 fd1) (rE:bW P w K mg base CX0 2 f1 fd1 ["below"] (wR K)) :
    bW P w K mg base CX0 3 f fd ["self","below"] (rW T C):=by
  refine D.F.ok jD (fun vs H Q E h=>?_) (fun cdv A outer s H vs Q E hr h=>?_)
  · obtain ⟨_,_,_,_,_,_,rfl,_⟩:=h;rfl
  · obtain ⟨p,dx,lv,H0,L,r,rfl,O,hv,hne,hR,r40,q⟩:=h
    refine ⟨_,(aq (dZ (eX (fQ (aX rE (hr.mono (by decide)) rfl fO.m fO.F.kp fO.b .nil bZ (aj (pv 1) aA))))
        (aC gH)
        aY)
      (aq (nT (pv 0) (gA gj rfl B.list PyProof.Rows.boot_list (aj (pv 1) aA)) rfl)
      (aq (nT (pv 0) aB rfl)
      (aq (nT (pv 0) (fD aA) rfl)
      (aq (nT (pv 0) (fD aA) rfl)
      (aC (nT (pv 0) (fD aA) rfl))))))),?_⟩
    refine ⟨_,rfl,lv,r,rfl,SqL.of hv,by omega,fun H1 s1=>?_⟩
    rw [hR]
    refine ⟨_,rfl,lB ?_⟩
    have hv:=s1 _ _ hv
    have O:=O.call s1
    refine ⟨_,rfl,lv,_,rfl,.inl (SqL.of hv),fun lb hlb=>?_⟩
    walk_at "nw"
    refine ⟨_,rfl,p,C,dx,_,rfl,O.get 1,R.c,R.nB,(by show 0<1000;decide),?_⟩
    walk_at "pt"
    refine ⟨_,rfl,p,C,dx,_,rfl,O.get 1,R.c,R.nD,(by show 1<1000;decide),?_⟩
    walk_at "pt"
    refine ⟨szl,fun ll hll=>?_⟩
    walk_at "nw"
    refine ⟨_,rfl,p,C,dx,_,rfl,O.get 2,R.c,R.nL,(by show 2<1000;decide),?_⟩
    walk_at "pt"
    refine ⟨szl,fun ln hln=>?_⟩
    walk_at "nw"
    refine ⟨_,rfl,p,C,dx,_,rfl,O.get 3,R.c,R.nN,(by show 3<1000;decide),?_⟩
    walk_at "pt"
    refine ⟨szl,fun lo hlo=>?_⟩
    walk_at "nw"
    refine ⟨_,rfl,p,C,dx,_,rfl,O.get 4,R.c,R.nO,(by show 4<1000;decide),?_⟩
    walk_at "pt"
    have O:=((((O.pull 1 rfl).pull 2 rfl).pull 3 rfl).pull 5 rfl).pull 5 rfl
    exact q ⟨p,dx,lb,ll,ln,lo⟩ _ rfl O
end
abbrev dR:Stmt:=top 27
theorem qU:aO ["one"] ["one"] (ak dR):=⟨rfl,rfl,rfl,by decide +kernel,rfl,by decide +kernel,by decide +kernel⟩
def mz (K:PySem.W.Frag):Sp:=fun vs H Q _=>∃ (a:Addr) (l:Lic),vs=[.ref a]∧SqT K H a (oV l)∧Q (.int l.most) H
theorem Fo {f:Addr} {fd:FuncData} (D:Df K mg "most_of" dR ["one"] f fd):bW P w K mg base CX0 1 f fd ["one"] (mz K):=by
  refine D.F.ok qU (fun vs H Q E h=>?_) (fun cdv A outer s H vs Q E hr h=>?_)
  · obtain ⟨_,_,rfl,_⟩:=h;rfl
  · obtain ⟨a,l,rfl,hT,q⟩:=h
    exact ⟨_,(aC (bx (bF jo (pv 0) aB (fun _ _=>rfl)))),_,rfl,a,_,3,_,rfl,rfl,hT,rfl,q⟩
abbrev cJ:Stmt:=top 28
theorem nu:aO ["one","most"] ["one","most"] (ak cJ):=⟨rfl,rfl,rfl,by decide +kernel,rfl,by decide +kernel,by decide +kernel⟩
def wm (l:Lic) (m:Int):Lic:=⟨l.day,l.start,l.back,m⟩
def vm (K:PySem.W.Frag):Sp:=fun vs H Q _=>∃ (a:Addr) (l:Lic) (m:Int),vs=[.ref a,.int m]∧SqT K H a (oV l)∧∀ t,H t=none→Q (.ref t) (upd H t (.tup (oV (wm l m))))
theorem Np {f:Addr} {fd:FuncData} (D:Df K mg "with_most" cJ ["one","most"] f fd):bW P w K mg base CX0 1 f fd ["one","most"] (vm K):=by
  refine D.F.ok nu (fun vs H Q E h=>?_) (fun cdv A outer s H vs Q E hr h=>?_)
  · obtain ⟨_,_,_,rfl,_⟩:=h;rfl
  · obtain ⟨a,l,m,rfl,hT,q⟩:=h
    refine ⟨_,(aC (bx (gq (aj (bF jo (pv 0) aB (fun _ _=>rfl)) (aj (bF jo (pv 0) aB (fun _ _=>rfl)) (aj (bF jo (pv 0) aB (fun _ _=>rfl)) (aj (pv 1) aA))))))),?_⟩
    exact ⟨_,rfl,a,_,0,_,rfl,rfl,hT,rfl,_,rfl,a,_,1,_,rfl,rfl,hT,rfl,_,rfl,a,_,2,_,rfl,rfl,hT,rfl,_,rfl,szl,q⟩
def jm (ls:List Lic) (xs:List Int):List Lic:=List.zipWith (fun l x=>wm l (min l.most x)) ls xs
def rF (ls:List Lic) (xs:List Int) (i:Nat):List Lic:=jm (ls.take i) (xs.take i)++ls.drop i
def fall (ls:List Lic) (xs:List Int):Nat→List (Int × Int × Int)
  | 0=>[]
  | i + 1=>fall ls xs i++(match ls[i]?,xs[i]? with | some l,some x=>if x<l.most then [((i:Int),l.most,x)] else [] | _,_=>[])
theorem qH (ls:List Lic) (xs:List Int):∀ i,(fall ls xs i).length≤i
  | 0=>Nat.le_refl _
  | i + 1=>by
    have:=qH ls xs i
    unfold fall
    rw [List.length_append]
    split
    · split <;> simp <;> omega
    · simp;omega
theorem uo (ls:List Lic) (xs:List Int):rF ls xs 0=ls:=by unfold rF jm;simp
theorem ur {ls:List Lic} {xs:List Int} (h:ls.length=xs.length):rF ls xs xs.length=jm ls xs:=by unfold rF;rw [← h,List.take_length,h,List.take_length,← h,List.drop_length,List.append_nil]
theorem uw {ls:List Lic} {xs:List Int} {i:Nat} {l:Lic} {x:Int} (hl:ls[i]?=some l) (hx:xs[i]?=some x):(rF ls xs i)[i]?=some l∧rF ls xs (i + 1)=(rF ls xs i).set i (wm l (min l.most x)):=by
  have h1:=(List.getElem?_eq_some_iff.mp hl).1
  have h2:=(List.getElem?_eq_some_iff.mp hx).1
  have hn:(jm (ls.take i) (xs.take i)).length=i:=by unfold jm;rw [List.length_zipWith,List.length_take,List.length_take];omega
  have hd:ls.drop i=l :: ls.drop (i + 1):=by
    rw [List.drop_eq_getElem_cons h1]
    rw [List.getElem?_eq_getElem h1] at hl;cases hl;rfl
  unfold rF
  constructor
  · rw [List.getElem?_append_right (by omega),hn,hd,Nat.sub_self];rfl
  · rw [List.set_append_right _ _ (by omega),hn,hd,Nat.sub_self,Tn.jh hl,Tn.jh hx]
    unfold jm
    rw [List.zipWith_append (by rw [List.length_take,List.length_take];omega)]
    simp
theorem uq {ls:List Lic} {xs:List Int} {i:Nat} {l:Lic} {x:Int} (hl:ls[i]?=some l) (hx:xs[i]?=some x) (h:¬ x<l.most):rF ls xs (i + 1)=rF ls xs i:=by
  obtain ⟨h1,h2⟩:=uw hl hx
  rw [h2,show wm l (min l.most x)=l by unfold wm;rw [Int.min_eq_left (by omega)]]
  obtain ⟨hi,e⟩:=List.getElem?_eq_some_iff.mp h1
  rw [← e];exact List.set_getElem_self hi
abbrev cG:Stmt:=inClass (top 32) 12
theorem eH:aO ["self","numbers","fallen","number","amount","before"] ["self","numbers"] (ak cG):=⟨rfl,rfl,rfl,by decide +kernel,rfl,by decide +kernel,by decide +kernel⟩
def qm (K:PySem.W.Frag) (T:eU) (C:Addr):Sp:=fun vs H Q _=>∃ (A:Rs) (H0:Hp) (B:List (Addr × HO)) (r:List Int) (day:Int) (us:List V) (ns:List Str) (ds:List V) (ls:List Lic) (a:Addr) (xs:List Int),vs=[.ref A.p,.ref a] ∧
  Ow T H0 H (RL C A r day us ns ds++B)∧(a,HO.lst (xs.map V.int))∈B∧bY K H0 us (ls.map gn)∧ls.length=xs.length∧(∀ x∈xs,0≤x∧x≤1000000000000)∧ls.length≤64∧ds.length≤9000 ∧
  ∀ (Hb H':Hp) (fl t tt:Addr) (us' fs:List V),aV T H0 Hb→Ow T Hb H' ((t,.tup [.str "lapse",.ref tt]) :: (tt,.tup (xs.map V.int)) :: (fl,.lst fs) :: (RL C A r day us' ns (ds++[.ref t])++B))→bY K Hb us' ((jm ls xs).map gn)→bY K Hb fs ((fall ls xs xs.length).map dMv)→Q (.ref fl) H'
section
variable {P:Program} {w:World} {K:PySem.W.Frag} {mg:Str→Option Value} {base:Heap} {T:eU} {C f0:Addr}
theorem tU {f f1 f2 f3:Addr} {fd fd1 fd2 fd3:FuncData} (D:Dm K C "lapse" "Roll.lapse" cG ["self","numbers"] f fd) (B:Blt mg) (R:Cl K mg "Roll" C f0 fM)
    (cO:Df K mg "is_water" dO ["amount"] f1 fd1) (jx:bW P w K mg base CX0 1 f1 fd1 ["amount"] mj)
    (bA:Df K mg "most_of" dR ["one"] f2 fd2) (gD:bW P w K mg base CX0 1 f2 fd2 ["one"] (mz K))
    (aP:Df K mg "with_most" cJ ["one","most"] f3 fd3) (eY:bW P w K mg base CX0 1 f3 fd3 ["one","most"] (vm K)) :
    bW P w K mg base CX0 2 f fd ["self","numbers"] (qm K T C):=by
  refine D.F.ok eH (fun vs H Q E h=>?_) (fun cdv A outer s H vs Q E hr h=>?_)
  · obtain ⟨_,_,_,_,_,_,_,_,_,_,_,rfl,_⟩:=h;rfl
  · obtain ⟨A,H0,L,r,day,us,ns,ds,ls,a,xs,rfl,O,hm,d0,hll,hxs,l64,dl,q⟩:=h
    refine ⟨_,(aq (dZ (bw nW (aN aL rfl B.len PySem.boot_len (aj (pv 1) aA)) (aN aL rfl B.len PySem.boot_len (aj (cN (pv 0) rfl) aA)) (bN _))
        (aC gH)
        aY)
      (aq (dZ (eX (fQ (aN (jO rfl) rfl B.all PyProof.Rows.boot_all (aj (gJ (ak cG) rfl ["self","numbers","fallen","number","amount","before"] rfl ["amount"] [none] (by decide +kernel) (by decide +kernel) (by decide +kernel) rfl (jY (pv 1)) (fun _ _ _=>(bI (i:=0) (show (["amount"]:List Str).Nodup by decide +kernel) rfl (Or.inl rfl))) (fun _ _ _=>iW) (fun _ _ _=>(aX jx (hr.mono (by decide)) rfl cO.m cO.F.kp cO.b .nil bZ (aj (pv 0) aA)))) aA))))
        (aC gH)
        aY)
      (aq (bU (i:=2) eH.nd rfl (Or.inl rfl) (fD aA))
      (aq (nR PassesOwn.never rfl (pB rfl B.enumerate (aj (pv 1) aA)) (qw rfl (dj (bI (i:=3) eH.nd rfl (Or.inl rfl)) (dj (bI (i:=4) eH.nd rfl (Or.inl rfl)) jZ)))
        (aq (bU (i:=5) eH.nd rfl (Or.inl rfl) (aX gD (hr.mono (by decide)) rfl bA.m bA.F.kp bA.b .nil bZ (aj (bF aJ (cN (pv 0) rfl) (pv 3) (fun _ _=>rfl)) aA)))
        (aC (dZ (bw pC (pv 4) (pv 5) (bN _))
          (aq (jk (aX eY (hr.mono (by decide)) rfl aP.m aP.F.kp aP.b .nil bZ (aj (bF aJ (cN (pv 0) rfl) (pv 3) (fun _ _=>rfl)) (aj (pv 4) aA))) (j4 (cN (pv 0) rfl) (pv 3) set_list))
          (aC (aZ (iR PySem.F.plainAttrs_list PySem.F.slot_list_append PySem.F.type_list_append bJ (pv 2) (aj (gq (aj (pv 3) (aj (pv 5) (aj (pv 4) aA)))) aA)))))
          aY))))
      (aq (aZ (iR PySem.F.plainAttrs_list PySem.F.slot_list_append PySem.F.type_list_append bJ (cN (pv 0) rfl) (aj (gq (aj gw (aj (gA mY rfl B.tuple PyProof.Rows.boot_tuple (aj (pv 1) aA)) aA))) aA)))
      (aC (bx (pv 2)))))))),?_⟩
    have hul:us.length=ls.length:=by rw [d0.length,List.length_map]
    have hxm:(xs.map V.int).length=xs.length:=List.length_map _
    have ha:∀ {Hb H':Hp} {x:Addr × HO} {us' ds':List V},Ow T Hb H' (x :: (RL C A r day us' ns ds'++L))→SqL K H' a (xs.map V.int):=fun O=>SqL.of (O.at_ _ (List.mem_cons_of_mem _ (List.mem_append_right _ hm)))
    have ha0:SqL K H a (xs.map V.int):=SqL.of (O.at_ _ (List.mem_append_right _ hm))
    refine ⟨_,rfl,a,_,rfl,.inl ha0,_,rfl,A.p,C,A.dx,_,.ref A.ll,rfl,O.get 0,R.c,R.nL,rfl,A.ll,_,rfl,.inl (O.sq 3),rfl,_,rfl,ifN (ifI (fun _=>?_) fun hc=>absurd (by rw [hxm,hul,hll]) hc)⟩
    refine ⟨_,rfl,a,rfl,⟨_,ha0⟩,fun lw hlw=>?_⟩
    refine oF (K:=K) (xs:=xs.map V.int) (fun i τ H'=>Iv (∃ (v0:Option V),τ=[v0]∧Ow T H0 H' ((lw,.lst ((List.replicate i true).map V.bl)) :: (RL C A r day us ns ds++L)))) ⟨trivial,none,rfl,O.mk' hlw rfl⟩ (fun i τ H' _ ⟨_,_,_,O⟩=>ha O) ?_ ?_
    · rintro i y τ H4 hy ⟨-,v0,rfl,O⟩
      obtain ⟨z,hz,rfl⟩:=ints_get hy
      have hi:=(List.getElem?_eq_some_iff.mp hz).1
      refine Gg ⟨_,rfl,z,rfl,fun b hb=>?_⟩
      have hbt:b=true:=hb.mpr (hxs z (List.mem_of_getElem? hz))
      subst hbt
      refine ⟨_,O.get 0,aH (by rw [List.length_map,List.length_replicate];omega),?_⟩
      walk_at "pt"
      refine ⟨trivial,_,rfl,?_⟩
      rw [List.replicate_succ',List.map_append];exact O
    rintro τ H4 ⟨-,v0,rfl,O⟩
    refine ⟨lw,_,rfl,O.sq 0,?_⟩
    rw [show (List.replicate (xs.map V.int).length true).all id=true by simp]
    refine ⟨_,rfl,lB ?_⟩
    have O:=O.tail
    refine ⟨szl,fun fl hfl=>?_⟩
    walk_at "nw"
    refine ⟨_,rfl,a,_,rfl,ha O,?_⟩
    refine wB (K:=K) (xs:=xs.map V.int) (fun i σ H'=>Iv (∃ (Hb:Hp) (us' fs:List V) (v3 v4 v5:Option V),σ=[some (.ref A.p),some (.ref a),some (.ref fl),v3,v4,v5]∧Ow T Hb H' ((fl,.lst fs) :: (RL C A r day us' ns ds++L))∧aV T H0 Hb∧bY K Hb us' ((rF ls xs i).map gn)∧bY K Hb fs ((fall ls xs i).map dMv)))
      ⟨trivial,H0,us,[],none,none,none,rfl,O,aV.refl O.same.t0,by rw [uo];exact d0,.nil⟩ (fun i σ H' _ ⟨_,_,_,_,_,_,_,_,O,_⟩=>ha O) ?_ ?_
    · rintro i y T0 σ H5 hy ⟨-,Hb,us',fs,v3,v4,v5,rfl,O,s0,d0,d1⟩ hT0
      obtain ⟨x,hx,rfl⟩:=ints_get hy
      have hi:=(List.getElem?_eq_some_iff.mp hx).1
      obtain ⟨l,hl⟩:∃ l,ls[i]?=some l:=⟨_,List.getElem?_eq_getElem (by omega)⟩
      obtain ⟨e1,e2⟩:=uw hl hx
      obtain ⟨al,hal,hT⟩:=d0.kj e1
      have hul':us'.length=(rF ls xs i).length:=by rw [d0.length,List.length_map]
      have hil:i<us'.length:=(List.getElem?_eq_some_iff.mp hal).1
      have hfl2:fs.length≤i:=by have:=qH ls xs i;rw [d1.length,List.length_map];exact this
      walk_at "nw"
      refine ⟨T0,_,rfl,O.sqT 0,rfl,_,_,rfl,_,_,rfl,rfl,?_⟩
      have O:=O.tail
      refine ⟨_,rfl,A.p,C,A.dx,_,.ref A.ll,rfl,O.get 1,R.c,R.nL,rfl,_,rfl,A.ll,_,_,_,rfl,rfl,O.sq 4,dh hal,al,_,rfl,hT.mo O.same,?_⟩
      refine ⟨_,rfl,_,rfl,_,_,rfl,rfl,_,rfl,?_⟩
      refine ifD (fun hlt=>?_) (fun hge=>?_)
      · refine ⟨_,rfl,A.p,C,A.dx,_,.ref A.ll,rfl,O.get 1,R.c,R.nL,rfl,_,rfl,A.ll,_,_,_,rfl,rfl,O.sq 4,dh hal,_,rfl,al,l,x,rfl,hT.mo O.same,fun t ht=>?_⟩
        walk_at "nw"
        refine ⟨_,rfl,A.p,C,A.dx,_,.ref A.ll,rfl,O.get 2,R.c,R.nL,rfl,_,rfl,?_⟩
        refine j7 O 5 rfl (iZ hil) fun H6 O=>?_
        have O:Ow T Hb H6 ((t,.tup (oV (wm l x))) :: (fl,.lst fs) :: (RL C A r day (us'.set i (.ref t)) ns ds++L)):=O
        refine ⟨_,rfl,.inl ⟨rfl,_,O.sq 1⟩,_,rfl,_,rfl,_,rfl,szl,fun t2 ht2=>?_⟩
        walk_at "nw"
        refine ⟨fl,_,_,rfl,rfl,O.get 2,aH (by omega),?_⟩
        walk_at "pt"
        have O:Ow T Hb _ ((t2,.tup [.int (i:Int),.int l.most,.int x]) :: (t,.tup (oV (wm l x))) :: (fl,.lst (fs++[.ref t2])) :: (RL C A r day (us'.set i (.ref t)) ns ds++L)):=O
        obtain ⟨Hn2,O,sn,en⟩:=O.jc 0
        walk_at "mo"
        obtain ⟨Hn3,O,sn,en2⟩:=O.jc 0
        walk_at "mo"
        have en:=sn.keep _ _ en (fun _ z=>nomatch z)
        refine ⟨trivial,Hn3,us'.set i (.ref t),fs++[.ref t2],_,_,_,rfl,O,s0,?_,?_⟩
        · rw [e2,show wm l (min l.most x)=wm l x by rw [Int.min_eq_right (by omega)],List.map_set]
          exact d0.set (Den.lic (l:=wm l x) (SqT.of en2)) i
        · unfold fall
          rw [hl,hx]
          simp only [if_pos hlt]
          rw [List.map_append]
          exact d1.append (.cons (Den.tup (ns:=[(i:Int),l.most,x]) (SqT.of en)) .nil)
      · refine ⟨trivial,Hb,us',fs,_,_,_,rfl,O,s0,by rw [uq hl hx hge];exact d0,?_⟩
        unfold fall
        rw [hl,hx]
        simp only [if_neg hge,List.append_nil]
        exact d1
    rintro σ H5 ⟨-,Hb,us',fs,v3,v4,v5,rfl,O,s0,d0,d1⟩
    rw [hxm,ur hll] at d0
    rw [hxm] at d1
    refine ⟨_,rfl,A.p,C,A.dx,_,.ref A.lo,rfl,O.get 1,R.c,R.nO,rfl,.inl ⟨rfl,_,O.sq 6⟩,_,rfl,a,_,rfl,.inl ⟨ha O,fun tt htt=>?_⟩⟩
    walk_at "nw"
    refine ⟨szl,fun t ht=>?_⟩
    walk_at "nw"
    refine ⟨A.lo,_,_,rfl,rfl,O.get 8,aH (by omega),?_⟩
    generalize hE:upd _ _ _=Hn
    have O:=Ow.jK O 8 rfl hE rfl
    exact ⟨_,rfl,q Hb _ fl t tt us' fs s0 O d0 d1⟩
end
abbrev dD:Stmt:=top 36
theorem jz:aO ["cell","place","spot"] ["cell","place"] (ak dD):=⟨rfl,rfl,rfl,by decide +kernel,rfl,by decide +kernel,by decide +kernel⟩
def dv (c k:Int):Int:=(c % 999983 + 400009 + 7001 * k) * (c % 999983 + 400009 + 7001 * k) * (c % 999983 + 400009 + 7001 * k) * (2 * k + 3) % 1000000007
theorem PL (c k:Int):0≤dv c k:=Int.emod_nonneg _ (by decide)
def Gy:Sp:=fun vs H Q _=>∃ (c k:Int),vs=[.int c,.int k]∧0≤k∧k≤1000∧Q (.int (dv c k)) H
theorem Nq {f:Addr} {fd:FuncData} (D:Df K mg "_law_draw" dD ["cell","place"] f fd):bW P w K mg base CX0 1 f fd ["cell","place"] Gy:=by
  refine D.F.ok jz (fun vs H Q E h=>?_) (fun cdv A outer s H vs Q E hr h=>?_)
  · obtain ⟨c,k,rfl,_⟩:=h;rfl
  · obtain ⟨c,k,rfl,h0,h1,q⟩:=h
    have a0:=Int.emod_nonneg c (show (999983:Int)≠0 by decide)
    have a1:=Int.emod_lt_of_pos c (show (0:Int)<999983 by decide)
    refine ⟨_,(aq (bU (i:=2) jz.nd rfl (Or.inl rfl) (bD iU (bD iU (bD dU (pv 0) aB) aB) (bD lR aB (pv 1))))
      (aC (bx (bD dU (bD lR (bD lR (bD lR (pv 2) (pv 2)) (pv 2)) (bD iU (bD lR aB (pv 1)) aB)) aB)))),?_⟩
    refine ⟨_,rfl,_,_,rfl,rfl,(by show (0:Int)<999983;decide),_,_,rfl,rfl,_,rfl,_,_,rfl,rfl,.inl ⟨by decide,by decide⟩,_,_,rfl,rfl,?_⟩
    exact ⟨_,rfl,_,rfl,_,_,rfl,rfl,.inl ⟨by omega,by omega⟩,_,rfl,_,_,rfl,rfl,.inr ⟨by omega,by omega⟩,_,rfl,_,_,rfl,rfl,.inl ⟨by decide,by decide⟩,_,_,rfl,rfl,_,_,rfl,rfl,.inr ⟨by omega,by omega⟩,_,_,rfl,rfl,(by show (0:Int)<1000000007;decide),q⟩
abbrev cF:Stmt:=top 37
theorem mH:aO ["cell","many"] ["cell","many"] (ak cF):=⟨rfl,rfl,rfl,by decide +kernel,rfl,by decide +kernel,by decide +kernel⟩
def dvs (c:Int) (n:Nat):List Int:=(List.range n).map fun (i:Nat)=>dv c (i:Int)
theorem wD (c:Int) (n:Nat):dvs c (n + 1)=dvs c n++[dv c (n:Int)]:=by
  unfold dvs;rw [List.range_succ,List.map_append];rfl
theorem uH (c:Int) (n:Nat):(dvs c n).length=n:=by unfold dvs;simp
theorem Ml {c:Int} {n k:Nat} (h:k<n):(dvs c n)[k]?=some (dv c (k:Int)):=by
  unfold dvs;rw [List.getElem?_map,List.getElem?_range h];rfl
def wU (T:eU):Sp:=fun vs H Q _=>∃ (c:Int) (n:Nat),vs=[.int c,.int (n:Int)]∧n≤100∧TabsOk T H∧Gb T H (fun xs=>xs=(dvs c n).map V.int) Q
theorem G6 {f f1:Addr} {fd fd1:FuncData} (D:Df K mg "_law_draws" cF ["cell","many"] f fd) (B:Blt mg)
    (fu:Df K mg "_law_draw" dD ["cell","place"] f1 fd1) (pW:bW P w K mg base CX0 1 f1 fd1 ["cell","place"] Gy):bW P w K mg base CX0 2 f fd ["cell","many"] (wU T):=by
  refine D.F.ok mH (fun vs H Q E h=>?_) (fun cdv A outer s H vs Q E hr h=>?_)
  · obtain ⟨c,n,rfl,_⟩:=h;rfl
  · obtain ⟨c,n,rfl,h1,tk,q⟩:=h
    refine ⟨_,(aC (bx (gJ (ak cF) rfl ["cell","many"] rfl ["place","cell"] [none,some 0] (by decide +kernel) (by decide +kernel) (by decide +kernel) rfl (gZ rfl B.range (aj (pv 1) aA)) (fun _ _ _=>(bI (i:=0) (show (["place","cell"]:List Str).Nodup by decide +kernel) rfl (Or.inl rfl))) (fun _ _ _=>iW) (fun _ _ _=>(aX pW (hr.mono (by decide)) rfl fu.m fu.F.kp fu.b .nil bZ (aj (pv 1) (aj (pv 0) aA))))))),?_⟩
    have O:=Ow.refl tk
    refine ⟨_,rfl,n,rfl,by omega,by omega,fun lw hlw=>?_⟩
    refine iK (fun i τ H'=>Iv (∃ (v0:Option V),τ=[v0,some (.int c)]∧Ow T H H' [(lw,.lst ((dvs c i).map V.int))])) ⟨trivial,none,rfl,O.mk' hlw rfl⟩ ?_ ?_
    · rintro i τ H4 hi ⟨-,v0,rfl,O⟩
      refine Gg ⟨_,rfl,_,rfl,c,_,rfl,by omega,by omega,?_⟩
      refine ⟨_,O.get 0,aH (by rw [List.length_map,uH];omega),?_⟩
      walk_at "pt"
      refine ⟨trivial,_,rfl,?_⟩
      rw [wD,List.map_append,← Int.zero_add (i:Int)];exact O
    rintro τ H4 ⟨-,v0,rfl,O⟩
    rw [show ((n:Int)).toNat=n by omega] at O
    exact O.ret 0 rfl q rfl
abbrev aK:Stmt:=inClass (top 32) 15
theorem gP:aO ["self","number"] ["self","number"] (ak aK):=⟨rfl,rfl,rfl,by decide +kernel,rfl,by decide +kernel,by decide +kernel⟩
def lK (K:PySem.W.Frag) (C:Addr):Sp:=fun vs H Q _=>∃ (A:Rs) (day:Int) (us:List V) (n:Nat),vs=[.ref A.p,.int (n:Int)]∧H A.p=some (xJ C A day)∧SqL K H A.ll us∧n<us.length∧Q .non H
section
variable {P:Program} {w:World} {K:PySem.W.Frag} {mg:Str→Option Value} {base:Heap} {T:eU} {C f0:Addr}
theorem pF {f:Addr} {fd:FuncData} (D:Dm K C "look_at_number" "Roll.look_at_number" aK ["self","number"] f fd) (B:Blt mg) (R:Cl K mg "Roll" C f0 fM):bW P w K mg base CX0 1 f fd ["self","number"] (lK K C):=by
  refine D.F.ok gP (fun vs H Q E h=>?_) (fun cdv A outer s H vs Q E hr h=>?_)
  · obtain ⟨_,_,_,_,rfl,_⟩:=h;rfl
  · obtain ⟨A,day,us,n,rfl,hp,hl,hn,q⟩:=h
    refine ⟨_,(aC (dZ (eX (jj jE pC aB (pv 1) (aN aL rfl B.len PySem.boot_len (aj (cN (pv 0) rfl) aA))))
        (aC gH)
        aY)),?_⟩
    refine ⟨_,rfl,_,_,rfl,rfl,_,rfl,?_⟩
    rw [decide_eq_true (show (0:Int)≤(n:Int) by omega)]
    refine pK ?_
    refine ⟨_,rfl,A.p,C,A.dx,_,.ref A.ll,rfl,hp,R.c,R.nL,rfl,A.ll,_,rfl,.inl hl,_,_,rfl,rfl,_,rfl,?_⟩
    rw [decide_eq_true (show (n:Int)<(us.length:Int) by omega)]
    exact lB q
end
abbrev aF:Stmt:=inClass (top 32) 16
theorem gQ:aO ["self","number","holder"] ["self","number","holder"] (ak aF):=⟨rfl,rfl,rfl,by decide +kernel,rfl,by decide +kernel,by decide +kernel⟩
def iG (K:PySem.W.Frag) (T:eU) (C cY:Addr):Sp:=fun vs H Q E=>∃ (A:Rs) (day:Int) (us:List V) (ns:List Str) (n:Nat) (x y:Str),vs=[.ref A.p,.int (n:Int),.str y]∧H A.p=some (xJ C A day)∧SqL K H A.ll us∧SqL K H A.ln (ns.map V.str)∧n<us.length∧ns[n]?=some x∧TabsOk T H∧(x=y→Q .non H) ∧
  (x≠y→∀ (e:Addr) (H':Hp),aV T H H'→H' e=none→E (.ref cY) (some e) H')
section
variable {P:Program} {w:World} {K:PySem.W.Frag} {mg:Str→Option Value} {base:Heap} {T:eU} {C f0:Addr}
theorem pG {f f1 cY:Addr} {fd fd1:FuncData} (D:Dm K C "look_at_holder" "Roll.look_at_holder" aF ["self","number","holder"] f fd) (B:Blt mg) (R_Roll:Cl K mg "Roll" C f0 fM) (X_NotYours:u6 K mg "NotYours" cY)
    (bM:Dm K C "look_at_number" "Roll.look_at_number" aK ["self","number"] f1 fd1) (iB:bW P w K mg base CX0 1 f1 fd1 ["self","number"] (lK K C)) :
    bW P w K mg base (CXE P w) 2 f fd ["self","number","holder"] (iG K T C cY):=by
  have R:=R_Roll
  refine D.F.okX gQ (fun vs H Q E h=>?_) (fun cdv A outer s H vs Q E hr h=>?_)
  · obtain ⟨_,_,_,_,_,_,_,rfl,_⟩:=h;rfl
  · obtain ⟨A,day,us,ns,n,x,y,rfl,hp,hl,hn,hnl,hx,tk,q,qx⟩:=h
    refine ⟨_,(aq (aZ (fK (pv 0) R_Roll.c bM.m iB (hr.mono (by decide)) bM.b .nil bZ (aj (pv 1) aA)))
      (aC (dZ (bw nW (bF aJ (cN (pv 0) rfl) (pv 1) (fun _ _=>rfl)) (pv 2) (bN _))
        (aC (mK m5 rfl (fun _ _ z=>z) rfl X_NotYours.m X_NotYours.q (aj gw aA)))
        aY))),?_⟩
    refine ⟨_,rfl,A.p,A.dx,_,rfl,hp,rfl,_,rfl,A,day,us,n,rfl,hp,hl,hnl,?_⟩
    refine ⟨_,rfl,A.p,C,A.dx,_,.ref A.ln,rfl,hp,R.c,R.nN,rfl,_,rfl,A.ln,_,_,_,rfl,rfl,hn,dh (show (ns.map V.str)[n]?=some (.str x) by rw [List.getElem?_map,hx];rfl),_,rfl,rfl,_,rfl,ifN (ifD (fun h=>?_) (fun h=>?_))⟩
    · exact q (V.str.inj h)
    · refine ⟨szl,fun e he=>?_⟩
      exact qx (fun z=>h (by rw [z])) e H (aV.refl tk) he
end
abbrev dI:Stmt:=inClass (top 32) 9
theorem nJ:aO ["self","number","holder"] ["self","number","holder"] (ak dI):=⟨rfl,rfl,rfl,by decide +kernel,rfl,by decide +kernel,by decide +kernel⟩
def rZ (K:PySem.W.Frag) (T:eU) (C cY:Addr):Sp:=fun vs H Q E=>∃ (A:Rs) (H0:Hp) (B:List (Addr × HO)) (r:List Int) (day:Int) (us:List V) (ns:List Str) (ds:List V) (ls:List Lic) (n:Nat) (l:Lic) (x y:Str),vs=[.ref A.p,.int (n:Int),.str y] ∧
  Ow T H0 H (RL C A r day us ns ds++B)∧bY K H0 us (ls.map gn)∧ls[n]?=some l∧ns[n]?=some x∧ds.length≤9000 ∧
  (x=y→∀ (t1 t2:Addr) (H':Hp),Ow T H0 H' ((t2,.tup [.str "drop",.int (n:Int),.str y]) :: (t1,.tup (oV (wm l 0))) :: (RL C A r day (us.set n (.ref t1)) ns (ds++[.ref t2])++B))→Q .non H') ∧
  (x≠y→∀ (e:Addr) (H':Hp),aV T H H'→H' e=none→E (.ref cY) (some e) H')
section
variable {P:Program} {w:World} {K:PySem.W.Frag} {mg:Str→Option Value} {base:Heap} {T:eU} {C f0:Addr}
theorem vW {f f1 f2 cY:Addr} {fd fd1 fd2:FuncData} (D:Dm K C "drop" "Roll.drop" dI ["self","number","holder"] f fd) (R_Roll:Cl K mg "Roll" C f0 fM)
    (aD:Dm K C "look_at_holder" "Roll.look_at_holder" aF ["self","number","holder"] f1 fd1) (bK:bW P w K mg base (CXE P w) 2 f1 fd1 ["self","number","holder"] (iG K T C cY))
    (aP:Df K mg "with_most" cJ ["one","most"] f2 fd2) (eY:bW P w K mg base CX0 1 f2 fd2 ["one","most"] (vm K)):bW P w K mg base (CXE P w) 3 f fd ["self","number","holder"] (rZ K T C cY):=by
  have R:=R_Roll
  refine D.F.okX nJ (fun vs H Q E h=>?_) (fun cdv A outer s H vs Q E hr h=>?_)
  · obtain ⟨_,_,_,_,_,_,_,_,_,_,_,_,_,rfl,_⟩:=h;rfl
  · obtain ⟨A,H0,L,r,day,us,ns,ds,ls,n,l,x,y,rfl,O,d0,hl,hx,dl,q,qx⟩:=h
    have hul:us.length=ls.length:=by rw [d0.length,List.length_map]
    have hnl:=(List.getElem?_eq_some_iff.mp hl).1
    obtain ⟨al,hal,hT⟩:=d0.kj hl
    refine ⟨_,(aq (aZ (fK (pv 0) R_Roll.c aD.m bK (hr.mono (by decide)) aD.b .nil Fj (aj (pv 1) (aj (pv 2) aA))))
      (aq (jk (aX eY (hr.mono (by decide)) rfl aP.m aP.F.kp aP.b .nil bZ (aj (bF aJ (cN (pv 0) rfl) (pv 1) (fun _ _=>rfl)) (aj aB aA))) (j4 (cN (pv 0) rfl) (pv 1) set_list))
      (aC (aZ (iR PySem.F.plainAttrs_list PySem.F.slot_list_append PySem.F.type_list_append bJ (cN (pv 0) rfl) (aj (gq (aj gw (aj (pv 1) (aj (pv 2) aA)))) aA)))))),?_⟩
    refine ⟨_,rfl,A.p,A.dx,_,rfl,O.get 0,rfl,_,rfl,_,rfl,A,day,us,ns,n,x,y,rfl,O.get 0,O.sq 3,O.sq 4,by omega,hx,O.same.t1,fun hxy=>?_,fun hxy e H' s' he=>qx hxy e H' s' he⟩
    refine ⟨_,rfl,A.p,C,A.dx,_,.ref A.ll,rfl,O.get 0,R.c,R.nL,rfl,_,rfl,A.ll,_,_,_,rfl,rfl,O.sq 3,dh hal,al,l,0,rfl,hT.mo O.same,fun t1 ht1=>?_⟩
    walk_at "nw"
    refine ⟨_,rfl,A.p,C,A.dx,_,.ref A.ll,rfl,O.get 1,R.c,R.nL,rfl,_,rfl,?_⟩
    refine j7 O 4 rfl (iZ (by omega)) fun H6 O=>?_
    refine ⟨_,rfl,A.p,C,A.dx,_,.ref A.lo,rfl,O.get 1,R.c,R.nO,rfl,.inl ⟨rfl,_,O.sq 6⟩,_,rfl,_,rfl,szl,fun t2 ht2=>?_⟩
    walk_at "nw"
    refine ⟨A.lo,_,_,rfl,rfl,O.get 7,aH (by omega),?_⟩
    generalize hE:upd _ _ _=Hn
    have O:=Ow.jK O 7 rfl hE rfl
    exact q hxy t1 t2 _ O
end
abbrev dG:Stmt:=inClass (top 32) 7
theorem nG:aO ["self","number","holder","to"] ["self","number","holder","to"] (ak dG):=⟨rfl,rfl,rfl,by decide +kernel,rfl,by decide +kernel,by decide +kernel⟩
def rT (K:PySem.W.Frag) (T:eU) (C cY:Addr):Sp:=fun vs H Q E=>∃ (A:Rs) (H0:Hp) (B:List (Addr × HO)) (r:List Int) (day:Int) (us:List V) (ns:List Str) (ds:List V) (n:Nat) (x y z:Str),vs=[.ref A.p,.int (n:Int),.str y,.str z] ∧
  Ow T H0 H (RL C A r day us ns ds++B)∧us.length=ns.length∧ns[n]?=some x∧dW z∧ds.length≤9000 ∧
  (x=y→∀ (t2:Addr) (H':Hp),Ow T H0 H' ((t2,.tup [.str "sell",.int (n:Int),.str y,.str z]) :: (RL C A r day us (ns.set n z) (ds++[.ref t2])++B))→Q .non H') ∧
  (x≠y→∀ (e:Addr) (H':Hp),aV T H H'→H' e=none→E (.ref cY) (some e) H')
section
variable {P:Program} {w:World} {K:PySem.W.Frag} {mg:Str→Option Value} {base:Heap} {T:eU} {C f0:Addr}
theorem vO {f f1 f2 cY:Addr} {fd fd1 fd2:FuncData} (D:Dm K C "sell" "Roll.sell" dG ["self","number","holder","to"] f fd) (R_Roll:Cl K mg "Roll" C f0 fM)
    (aD:Dm K C "look_at_holder" "Roll.look_at_holder" aF ["self","number","holder"] f1 fd1) (bK:bW P w K mg base (CXE P w) 2 f1 fd1 ["self","number","holder"] (iG K T C cY))
    (aG:Df K mg "look_at_name" bf ["name"] f2 fd2) (dX:bW P w K mg base CX0 2 f2 fd2 ["name"] (gG T)):bW P w K mg base (CXE P w) 3 f fd ["self","number","holder","to"] (rT K T C cY):=by
  have R:=R_Roll
  refine D.F.okX nG (fun vs H Q E h=>?_) (fun cdv A outer s H vs Q E hr h=>?_)
  · obtain ⟨_,_,_,_,_,_,_,_,_,_,_,_,rfl,_⟩:=h;rfl
  · obtain ⟨A,H0,L,r,day,us,ns,ds,n,x,y,z,rfl,O,hun,hx,nz,dl,q,qx⟩:=h
    have hnl:=(List.getElem?_eq_some_iff.mp hx).1
    refine ⟨_,(aq (aZ (fK (pv 0) R_Roll.c aD.m bK (hr.mono (by decide)) aD.b .nil Fj (aj (pv 1) (aj (pv 2) aA))))
      (aq (aZ (aX dX (hr.mono (by decide)) rfl aG.m aG.F.kp aG.b .nil bZ (aj (pv 3) aA)))
      (aq (jk (pv 3) (j4 (cN (pv 0) rfl) (pv 1) set_list))
      (aC (aZ (iR PySem.F.plainAttrs_list PySem.F.slot_list_append PySem.F.type_list_append bJ (cN (pv 0) rfl) (aj (gq (aj gw (aj (pv 1) (aj (pv 2) (aj (pv 3) aA))))) aA))))))),?_⟩
    refine ⟨_,rfl,A.p,A.dx,_,rfl,O.get 0,rfl,_,rfl,_,rfl,A,day,us,ns,n,x,y,rfl,O.get 0,O.sq 3,O.sq 4,by omega,hx,O.same.t1,fun hxy=>?_,fun hxy e H' s' he=>qx hxy e H' s' he⟩
    refine ⟨_,rfl,z,rfl,nz,O.same.t1,fun H2 s2=>?_⟩
    have O:=O.kY s2
    refine ⟨_,rfl,_,rfl,A.p,C,A.dx,_,.ref A.ln,rfl,O.get 0,R.c,R.nN,rfl,_,rfl,?_⟩
    refine j7 O 4 rfl (iZ (by rw [List.length_map];omega)) fun H6 O=>?_
    refine ⟨_,rfl,A.p,C,A.dx,_,.ref A.lo,rfl,O.get 0,R.c,R.nO,rfl,.inl ⟨rfl,_,O.sq 5⟩,_,rfl,_,rfl,_,rfl,szl,fun t2 ht2=>?_⟩
    walk_at "nw"
    refine ⟨A.lo,_,_,rfl,rfl,O.get 6,aH (by omega),?_⟩
    generalize hE:upd _ _ _=Hn
    have O:=Ow.jK O 6 rfl hE rfl
    refine q hxy t2 _ ?_
    simp only [RL,List.map_set];exact O
end
abbrev dz:Stmt:=top 26
theorem nC:aO ["one"] ["one"] (ak dz):=⟨rfl,rfl,rfl,by decide +kernel,rfl,by decide +kernel,by decide +kernel⟩
def wV (K:PySem.W.Frag):Sp:=fun vs H Q _=>∃ (a:Addr) (l:Lic),vs=[.ref a]∧SqT K H a (oV l)∧Q (.int l.day) H
theorem G7 {f:Addr} {fd:FuncData} (D:Df K mg "day_filed" dz ["one"] f fd):bW P w K mg base CX0 1 f fd ["one"] (wV K):=by
  refine D.F.ok nC (fun vs H Q E h=>?_) (fun cdv A outer s H vs Q E hr h=>?_)
  · obtain ⟨_,_,rfl,_⟩:=h;rfl
  · obtain ⟨a,l,rfl,hT,q⟩:=h
    exact ⟨_,(aC (bx (bF jo (pv 0) aB (fun _ _=>rfl)))),_,rfl,a,_,0,_,rfl,rfl,hT,rfl,q⟩
def eF (ls:List Lic) (d:Int):Nat→List Int
  | 0=>[]
  | i + 1=>eF ls d i++(match ls[i]? with | some l=>if l.day=d∧0<l.most then [(i:Int)] else [] | none=>[])
theorem lH (ls:List Lic) (d:Int):∀ i,(eF ls d i).length≤i
  | 0=>Nat.le_refl _
  | i + 1=>by
    have:=lH ls d i
    unfold eF
    rw [List.length_append]
    split
    · split <;> simp <;> omega
    · simp;omega
abbrev bh:Stmt:=inClass (top 32) 14
theorem fJ:aO ["self","number","day","taking"] ["self","number"] (ak bh):=⟨rfl,rfl,rfl,by decide +kernel,rfl,by decide +kernel,by decide +kernel⟩
def qu (K:PySem.W.Frag) (T:eU) (C:Addr):Sp:=fun vs H Q _=>∃ (A:Rs) (day:Int) (us:List V) (ls:List Lic) (n:Nat) (l:Lic),vs=[.ref A.p,.int (n:Int)]∧H A.p=some (xJ C A day)∧SqL K H A.ll us∧bY K H us (ls.map gn)∧ls[n]?=some l∧ls.length≤64∧TabsOk T H ∧
  ∀ H',aV T H H'→Q (.bl (decide (eF ls l.day ls.length=[(n:Int)]))) H'
section
variable {P:Program} {w:World} {K:PySem.W.Frag} {mg:Str→Option Value} {base:Heap} {T:eU} {C f0:Addr}
theorem tX {f f1 f2:Addr} {fd fd1 fd2:FuncData} (D:Dm K C "is_alone" "Roll.is_alone" bh ["self","number"] f fd) (B:Blt mg) (R:Cl K mg "Roll" C f0 fM)
    (cV:Df K mg "day_filed" dz ["one"] f1 fd1) (kZ:bW P w K mg base CX0 1 f1 fd1 ["one"] (wV K))
    (bA:Df K mg "most_of" dR ["one"] f2 fd2) (gD:bW P w K mg base CX0 1 f2 fd2 ["one"] (mz K)):bW P w K mg base CX0 2 f fd ["self","number"] (qu K T C):=by
  refine D.F.ok fJ (fun vs H Q E h=>?_) (fun cdv A outer s H vs Q E hr h=>?_)
  · obtain ⟨_,_,_,_,_,_,rfl,_⟩:=h;rfl
  · obtain ⟨A,day,us,ls,n,l,rfl,hp,hl,d0,hn,l64,tk,q⟩:=h
    have hu:=hr.units
    have O:=Ow.refl tk
    have hul:us.length=ls.length:=by rw [d0.length,List.length_map]
    obtain ⟨al,hal,hT⟩:=d0.kj hn
    refine ⟨_,(aq (bU (i:=2) fJ.nd rfl (Or.inr rfl) (aX kZ (hr.mono (by decide)) rfl cV.m cV.F.kp cV.b .nil bZ (aj (bF aJ (cN (pv 0) rfl) (pv 1) (fun _ _=>rfl)) aA)))
      (aq (qZ (i:=3) (ak bh) rfl ["self","number","day","taking"] rfl ["other","one","day"] [none,none,some 2] (by decide +kernel) (by decide +kernel) (by decide +kernel) rfl fJ.nd rfl rfl (pB rfl B.enumerate (aj (cN (pv 0) rfl) aA)) (fun _ _ _=>(tG (K:=K) (n:=2) rfl rfl (dj (bI (i:=0) (show (["other","one","day"]:List Str).Nodup by decide +kernel) rfl (Or.inl rfl)) (dj (bI (i:=1) (show (["other","one","day"]:List Str).Nodup by decide +kernel) rfl (Or.inl rfl)) jZ)))) (fun _ _ _=>(pq (PW.pt (pw_and (bw lA (aX kZ (hr.mono (by decide)) rfl cV.m cV.F.kp cV.b .nil bZ (aj (pv 1) aA)) (pv 2) (bN _)) (pw_and1 (bw Fl (aX gD (hr.mono (by decide)) rfl bA.m bA.F.kp bA.b .nil bZ (aj (pv 1) aA)) aB (bN _))))))) (fun _ _ _=>(pv 0)) rfl)
      (aC (bx (ig (GX hu) (pv 3) (fD (aj (pv 1) aA)) (bN _)))))),?_⟩
    refine ⟨_,rfl,A.p,C,A.dx,_,.ref A.ll,rfl,hp,R.c,R.nL,rfl,_,rfl,A.ll,_,_,_,rfl,rfl,hl,dh hal,al,l,rfl,hT,?_⟩
    refine ⟨_,rfl,A.p,C,A.dx,_,.ref A.ll,rfl,hp,R.c,R.nL,rfl,A.ll,_,rfl,hl,fun lw hlw=>?_⟩
    refine oG (K:=K) (xs:=us) (fun i τ H'=>Iv (∃ (v0 v1:Option V),τ=[v0,v1,some (.int l.day)]∧Ow T H H' [(lw,.lst ((eF ls l.day i).map V.int))]))
      ⟨trivial,none,none,rfl,O.mk' hlw rfl⟩ (fun i τ H' _ ⟨_,_,_,_,O⟩=>hl.mo O.same) ?_ ?_
    · rintro i y T0 τ H5 hy ⟨-,v0,v1,rfl,O⟩ hT0
      obtain ⟨al,l2,rfl,hl2,hT2⟩:=d0.uh hy
      have hi:=(List.getElem?_eq_some_iff.mp hl2).1
      have ht:=lH ls l.day i
      walk_at "nw"
      refine ⟨T0,_,rfl,O.sqT 0,rfl,_,_,rfl,_,_,rfl,rfl,?_⟩
      have O:=O.tail
      have hT3:=hT2.mo O.same
      refine ⟨_,rfl,al,l2,rfl,hT3,_,rfl,rfl,_,rfl,ifI (fun hd=>?_) (fun hd=>?_)⟩
      · refine ⟨_,rfl,al,l2,rfl,hT3,_,_,rfl,rfl,_,rfl,ifD (fun hm=>?_) (fun hm=>?_)⟩
        · refine ⟨_,rfl,_,O.get 0,aH (by rw [List.length_map];omega),?_⟩
          walk_at "pt"
          refine ⟨trivial,_,_,rfl,?_⟩
          unfold eF
          rw [hl2]
          simp only [if_pos (And.intro hd hm)]
          rw [List.map_append];exact O
        · refine ⟨trivial,_,_,rfl,?_⟩
          unfold eF
          rw [hl2]
          simp only [if_neg (fun z:l2.day=l.day∧0<l2.most=>hm z.2),List.append_nil]
          exact O
      · refine ⟨trivial,_,_,rfl,?_⟩
        unfold eF
        rw [hl2]
        simp only [if_neg (fun z:l2.day=l.day∧0<l2.most=>hd z.1),List.append_nil]
        exact O
    rintro τ H5 ⟨-,v0,v1,rfl,O⟩
    rw [hul] at O
    refine ⟨_,rfl,_,rfl,szl,fun l0 hl0=>?_⟩
    walk_at "nw"
    refine ⟨lw,l0,eF ls l.day ls.length,[(n:Int)],rfl,rfl,O.sq 1,O.sq 0,?_⟩
    rw [if_neg Bool.false_ne_true]
    exact q _ O.same
end
abbrev cR:Stmt:=inClass (top 32) 8
theorem jA:aO ["self","number","holder","most","to","one"] ["self","number","holder","most","to"] (ak cR):=⟨rfl,rfl,rfl,by decide +kernel,rfl,by decide +kernel,by decide +kernel⟩
def oZ (K:PySem.W.Frag) (T:eU) (C cY cT cA:Addr):Sp:=fun vs H Q E=>∃ (A:Rs) (H0:Hp) (B:List (Addr × HO)) (r:List Int) (day:Int) (us:List V) (ns:List Str) (ds:List V) (ls:List Lic) (n:Nat) (l:Lic) (x y:Str) (m:Int) (z:Str),vs=[.ref A.p,.int (n:Int),.str y,.int m,.str z] ∧
  Ow T H0 H (RL C A r day us ns ds++B)∧bY K H0 us (ls.map gn)∧ls[n]?=some l∧ns[n]?=some x∧ns.length≤900∧dW z∧ls.length<60∧ds.length≤9000 ∧
  (x≠y→∀ (e:Addr) (H':Hp),aV T H H'→H' e=none→E (.ref cY) (some e) H') ∧
  (x=y→¬ (1≤m∧m<l.most)→∀ (e:Addr) (H':Hp),aV T H H'→H' e=none→E (.ref cT) (some e) H') ∧
  (x=y→1≤m→m<l.most→eF ls l.day ls.length≠[(n:Int)]→∀ (e:Addr) (H':Hp),aV T H H'→H' e=none→E (.ref cA) (some e) H') ∧
  (x=y→1≤m→m<l.most→eF ls l.day ls.length=[(n:Int)]→∀ (t1 t2 t3:Addr) (H':Hp),Ow T H0 H' ((t3,.tup (oV (wm l m))) :: (t2,.tup [.str "part",.int (n:Int),.str y,.int m,.str z]) :: (t1,.tup (oV (wm l (l.most - m)))) :: (RL C A r day (us.set n (.ref t1)++[.ref t3]) (ns++[z]) (ds++[.ref t2])++B))→Q (.int us.length) H')
section
variable {P:Program} {w:World} {K:PySem.W.Frag} {mg:Str→Option Value} {base:Heap} {T:eU} {C f0:Addr}
theorem vR {f f1 f2 f3 f4 f5 f6 f7 cY cT cA:Addr} {fd fd1 fd2 fd3 fd4 fd5 fd6 fd7:FuncData} (D:Dm K C "part" "Roll.part" cR ["self","number","holder","most","to"] f fd) (B:Blt mg) (R_Roll:Cl K mg "Roll" C f0 fM) (X_TooMuch:u6 K mg "TooMuch" cT) (X_NotAlone:u6 K mg "NotAlone" cA)
    (aD:Dm K C "look_at_holder" "Roll.look_at_holder" aF ["self","number","holder"] f1 fd1) (bK:bW P w K mg base (CXE P w) 2 f1 fd1 ["self","number","holder"] (iG K T C cY))
    (aG:Df K mg "look_at_name" bf ["name"] f2 fd2) (dX:bW P w K mg base CX0 2 f2 fd2 ["name"] (gG T))
    (bA:Df K mg "most_of" dR ["one"] f3 fd3) (gD:bW P w K mg base CX0 1 f3 fd3 ["one"] (mz K))
    (dJ:Dm K C "is_alone" "Roll.is_alone" bh ["self","number"] f4 fd4) (lg:bW P w K mg base CX0 2 f4 fd4 ["self","number"] (qu K T C))
    (aQ:Dm K C "look_at_room" "Roll.look_at_room" aM ["self"] f5 fd5) (d8:bW P w K mg base CX0 1 f5 fd5 ["self"] (oY K C))
    (aP:Df K mg "with_most" cJ ["one","most"] f6 fd6) (eY:bW P w K mg base CX0 1 f6 fd6 ["one","most"] (vm K))
    (cI:Dm K C "enter" "Roll.enter" cH ["self","one","holder"] f7 fd7) (iC:bW P w K mg base CX0 1 f7 fd7 ["self","one","holder"] (mC C)) :
    bW P w K mg base (CXE P w) 3 f fd ["self","number","holder","most","to"] (oZ K T C cY cT cA):=by
  have R:=R_Roll
  refine D.F.okX jA (fun vs H Q E h=>?_) (fun cdv A outer s H vs Q E hr h=>?_)
  · obtain ⟨_,_,_,_,_,_,_,_,_,_,_,_,_,_,_,rfl,_⟩:=h;rfl
  · obtain ⟨A,H0,L,r,day,us,ns,ds,ls,n,l,x,y,m,z,rfl,O,d0,hl,hx,nl,nz,l60,dl,qY,qT,qA,q⟩:=h
    have hul:us.length=ls.length:=by rw [d0.length,List.length_map]
    have hnl:=(List.getElem?_eq_some_iff.mp hl).1
    obtain ⟨al,hal,hT⟩:=d0.kj hl
    refine ⟨_,(aq (aZ (fK (pv 0) R_Roll.c aD.m bK (hr.mono (by decide)) aD.b .nil Fj (aj (pv 1) (aj (pv 2) aA))))
      (aq (aZ (aX dX (hr.mono (by decide)) rfl aG.m aG.F.kp aG.b .nil bZ (aj (pv 4) aA)))
      (aq (bU (i:=5) jA.nd rfl (Or.inl rfl) (bF aJ (cN (pv 0) rfl) (pv 1) (fun _ _=>rfl)))
      (aq (dZ (eX (jj jE pC aB (pv 3) (aX gD (hr.mono (by decide)) rfl bA.m bA.F.kp bA.b .nil bZ (aj (pv 5) aA))))
        (aC (mK m5 rfl (fun _ _ z=>z) rfl X_TooMuch.m X_TooMuch.q (aj gw aA)))
        aY)
      (aq (dZ (eX (fQ (fK (pv 0) R_Roll.c dJ.m lg (hr.mono (by decide)) dJ.b .nil bZ (aj (pv 1) aA))))
        (aC (mK m5 rfl (fun _ _ z=>z) rfl X_NotAlone.m X_NotAlone.q (aj gw aA)))
        aY)
      (aq (aZ (iI (pv 0) R_Roll.c aQ.m d8 (hr.mono (by decide)) aQ.b .nil bZ))
      (aq (jk (aX eY (hr.mono (by decide)) rfl aP.m aP.F.kp aP.b .nil bZ (aj (pv 5) (aj (bD jC (aX gD (hr.mono (by decide)) rfl bA.m bA.F.kp bA.b .nil bZ (aj (pv 5) aA)) (pv 3)) aA))) (j4 (cN (pv 0) rfl) (pv 1) set_list))
      (aq (aZ (iR PySem.F.plainAttrs_list PySem.F.slot_list_append PySem.F.type_list_append bJ (cN (pv 0) rfl) (aj (gq (aj gw (aj (pv 1) (aj (pv 2) (aj (pv 3) (aj (pv 4) aA)))))) aA)))
      (aC (bx (fK (pv 0) R_Roll.c cI.m iC (hr.mono (by decide)) cI.b .nil bZ (aj (aX eY (hr.mono (by decide)) rfl aP.m aP.F.kp aP.b .nil bZ (aj (pv 5) (aj (pv 3) aA))) (aj (pv 4) aA))))))))))))),?_⟩
    refine ⟨_,rfl,A.p,A.dx,_,rfl,O.get 0,rfl,_,rfl,_,rfl,A,day,us,ns,n,x,y,rfl,O.get 0,O.sq 3,O.sq 4,by omega,hx,O.same.t1,fun hxy=>?_,fun hxy e H' s' he=>qY hxy e H' s' he⟩
    refine ⟨_,rfl,z,rfl,nz,O.same.t1,fun H2 s2=>?_⟩
    have O:=O.kY s2
    refine ⟨_,rfl,A.p,C,A.dx,_,.ref A.ll,rfl,O.get 0,R.c,R.nL,rfl,_,rfl,A.ll,_,_,_,rfl,rfl,O.sq 3,dh hal,?_⟩
    refine ⟨_,rfl,?_⟩
    have hTm:=hT.mo O.same
    refine ⟨_,_,rfl,rfl,_,rfl,?_⟩
    refine ifD (fun h1=>?_) (fun h1=>?_)
    rotate_left
    · refine ⟨_,rfl,pK ⟨szl,fun e he=>?_⟩⟩
      exact qT hxy (fun z=>h1 z.1) e _ s2 he
    refine ⟨_,rfl,al,l,rfl,hTm,_,_,rfl,rfl,_,rfl,ifN (ifD (fun h2=>?_) (fun h2=>?_))⟩
    rotate_left
    · refine ⟨szl,fun e he=>?_⟩
      exact qT hxy (fun z=>h2 z.2) e _ s2 he
    refine ⟨_,rfl,A.p,A.dx,_,rfl,O.get 0,rfl,_,rfl,A,day,us,ls,n,l,rfl,O.get 0,O.sq 3,d0.mo O.same,hl,by omega,O.same.t1,fun H3 s3=>?_⟩
    have O:=O.kY s3
    have hTm:=hT.mo O.same
    refine ⟨_,rfl,ifN (ifD (fun h3=>?_) (fun h3=>?_))⟩
    rotate_left
    · refine ⟨szl,fun e he=>?_⟩
      exact qA hxy h1 h2 h3 e _ (s2.trans s3) he
    refine ⟨_,rfl,A.p,A.dx,_,rfl,O.get 0,rfl,A,day,us,rfl,O.get 0,O.sq 3,by omega,?_⟩
    refine ⟨_,rfl,_,rfl,al,l,rfl,hTm,_,rfl,_,_,rfl,rfl,al,l,_,rfl,hTm,fun t1 ht1=>?_⟩
    walk_at "nw"
    refine ⟨_,rfl,A.p,C,A.dx,_,.ref A.ll,rfl,O.get 1,R.c,R.nL,rfl,_,rfl,?_⟩
    refine j7 O 4 rfl (iZ (by omega)) fun H6 O=>?_
    refine ⟨_,rfl,A.p,C,A.dx,_,.ref A.lo,rfl,O.get 1,R.c,R.nO,rfl,.inl ⟨rfl,_,O.sq 6⟩,_,rfl,_,rfl,_,rfl,_,rfl,szl,fun t2 ht2=>?_⟩
    walk_at "nw"
    refine ⟨A.lo,_,_,rfl,rfl,O.get 7,aH (by omega),?_⟩
    generalize hE:upd _ _ _=Hn
    have O:=Ow.jK O 7 rfl hE rfl
    clear hE
    refine ⟨_,rfl,A.p,A.dx,_,rfl,O.get 2,rfl,_,rfl,_,rfl,al,l,m,rfl,hT.mo O.same,fun t3 ht3=>?_⟩
    walk_at "nw"
    refine ⟨_,rfl,A,day,us.set n (.ref t1),ns.map V.str,.ref t3,.str z,rfl,O.get 3,O.get 6,O.get 7,by rw [List.length_set];omega,by rw [List.length_map];exact nl,O.ne 3 6,O.ne 3 7,O.ne 7 6,?_⟩
    have O:=(O.Gi 6 rfl (o':=.lst (us.set n (.ref t1)++[.ref t3])) rfl).Gi 7 rfl (o':=.lst (ns.map V.str++[.str z])) rfl
    rw [List.length_set]
    refine q hxy h1 h2 h3 t1 t2 t3 _ ?_
    simp only [RL,List.map_append,List.map_cons,List.map_nil];exact O
end
def eV (n:Nat):List Int:=(List.range n).map fun (k:Nat)=>(k:Int) - 1
theorem iH (n:Nat):(eV n).length=n:=by unfold eV;simp
theorem sW {n i:Nat} {x:Int} (h:(eV n)[i]?=some x):i<n∧x=(i:Int) - 1:=by
  unfold eV at h
  rw [List.getElem?_map] at h
  rcases Nat.lt_or_ge i n with hi | hi
  · rw [List.getElem?_range hi] at h
    exact ⟨hi,(Option.some.inj h).symm⟩
  · rw [List.getElem?_eq_none (by simpa using hi)] at h;cases h
theorem jt (n:Nat):Rv.m6 (eV n):=by
  refine ⟨fun i=>i,fun i hi=>hi,fun i x h=>?_⟩
  obtain ⟨h1,rfl⟩:=sW h
  rw [iH]
  rcases Nat.eq_zero_or_pos i with e | e
  · left;omega
  · right;exact ⟨by omega,by omega,by show ((i:Int) - 1).toNat<i;omega⟩
theorem sU (n:Nat):eV (n + 1)=eV n++[(n:Int) - 1]:=by unfold eV;rw [List.range_succ,List.map_append];rfl
theorem lN {r:List Int} {rk:Nat→Nat} (h3:∀ (i:Nat) (x:Int),r[i]?=some x→x=-1∨(0≤x∧x<r.length∧rk x.toNat<rk i)):∀ (f:Nat) (p:Int),0≤p→p<r.length→rk p.toNat<f→Rv.jr r f p=-1
  | 0,p,_,_,h=>absurd h (Nat.not_lt_zero _)
  | f + 1,p,h0,h1,h=>by
    show Rv.jr r f (Rv.stp r p)=-1
    unfold Rv.stp
    rw [if_neg (by omega)]
    rcases h3 _ _ (Rv.iu h0 h1) with e | ⟨a,b,c⟩
    · rw [e];exact Rv.qd r f
    · exact lN h3 f _ a b (by omega)
theorem sS {r:List Int} (hR:Rv.m6 r) (h1:1≤r.length) (h2:r.length≤40):Rv.isR r=true:=by
  obtain ⟨rk,k1,k2⟩:=hR
  have hB:Rv.inB r:=fun x hx=>by
    obtain ⟨i,hi⟩:=List.getElem?_of_mem hx
    rcases k2 i x hi with e | ⟨a,b,_⟩ <;> omega
  unfold Rv.isR
  rw [decide_eq_true (⟨h1,h2⟩:1≤r.length∧r.length≤40),decide_eq_true hB,decide_eq_true (fun i hi=>lN k2 _ _ (by omega) (by omega) (by rw [Int.toNat_natCast];exact k1 i hi))]
  rfl
theorem vq {n:Nat} {p:Int} (h0:0≤p) (h1:p<n):Rv.nxt (eV n) p=p - 1:=by
  have:=(sW (Rv.iu (r:=eV n) h0 (by rw [iH];exact h1))).2
  omega
theorem jW {n:Nat} {p:Int} (h0:0≤p) (h1:p<n):Rv.walk (eV n) p=p :: Rv.walk (eV n) (p - 1):=by
  rw [Rv.gR (jt n) h0 (by rw [iH];exact h1),vq h0 h1]
theorem nM {n:Nat}:∀ (k:Nat) (p:Int),p=(k:Int)→k<n→∀ j:Int,0≤j→j≤p→j∈Rv.walk (eV n) p
  | 0,p,e,hk,j,j0,j1=>by
    rw [jW (by omega) (by omega),show j=p by omega];exact List.mem_cons_self
  | k + 1,p,e,hk,j,j0,j1=>by
    rw [jW (by omega) (by omega)]
    by_cases h:j=p
    · rw [h];exact List.mem_cons_self
    · exact List.mem_cons_of_mem _ (nM k (p - 1) (by omega) (by omega) j j0 (by omega))
theorem sV {n:Nat} {s j:Int} (h0:0≤j) (h1:j<s) (h2:s<n):j∈(Rv.walk (eV n) s).drop 1:=by
  rw [jW (by omega) h2]
  exact nM (s - 1).toNat (s - 1) (by omega) (by omega) j h0 (by omega)
theorem qG (z:Array Nat):∀ (n:Nat) (acc:Array Nat),((List.replicate n z).foldl (·++·) acc).toList=acc.toList++(List.replicate n z.toList).flatten
  | 0,acc=>by simp
  | n + 1,acc=>by
    rw [List.replicate_succ,List.foldl_cons,qG z n,List.replicate_succ,List.flatten_cons]
    simp
theorem mul_one (c:Nat) {n:Int} (h:0≤n):(Txt.mul (⟨#[c]⟩:Str) n).cps.toList=List.replicate n.toNat c:=by
  unfold Txt.mul
  by_cases h1:n<1
  · rw [if_pos h1,show n.toNat=0 by omega];rfl
  · rw [if_neg h1]
    by_cases h2:n=1
    · subst h2;rfl
    · rw [if_neg (by
        simp only [Bool.or_eq_true,beq_iff_eq,not_or]
        exact ⟨h2,fun h=>nomatch h⟩)]
      show ((List.replicate n.toNat (#[c]:Array Nat)).foldl (·++·) #[]).toList=_
      rw [qG]
      simp
theorem FW (x y:Str):(x++y).cps.toList=x.cps.toList++y.cps.toList:=by
  show (x.cps++y.cps).toList=_
  simp
theorem tZ {x:Str} (h1:1≤x.cps.toList.length) (h8:x.cps.toList.length≤8) (h:∀ c∈x.cps.toList,97≤c∧c≤122):dW x:=⟨by simpa using h1,by simpa using h8,h⟩
theorem wY {c:Nat} (h0:97≤c) (h1:c≤122) {n:Int} (n0:1≤n) (n1:n≤8):dW (Txt.mul (⟨#[c]⟩:Str) n):=by
  refine tZ ?_ ?_ ?_ <;> rw [mul_one c (by omega)]
  · rw [List.length_replicate];omega
  · rw [List.length_replicate];omega
  · intro d hd
    rw [List.eq_of_mem_replicate hd];exact ⟨h0,h1⟩
theorem En:∀ j:Fin 8,(Txt.slice ("z":Str) none (some ((j.val:Nat):Int))).cps.toList.length≤j.val:=by decide +kernel
theorem Gn {x:Str} (h:dW x):dW (x++Txt.slice ("z":Str) none (some (8 - (x.length:Int)))):=by
  obtain ⟨h1,h8,hc⟩:=h
  have hx:x.length=x.cps.size:=rfl
  have hl:x.cps.toList.length=x.cps.size:=Array.length_toList
  have:=En ⟨8 - x.cps.size,by omega⟩
  rw [show (((⟨8 - x.cps.size,by omega⟩:Fin 8).val:Nat):Int)=8 - (x.length:Int) by rw [hx];show ((8 - x.cps.size:Nat):Int)=_;omega] at this
  refine tZ ?_ ?_ ?_ <;> rw [FW]
  · rw [List.length_append];omega
  · rw [List.length_append];show _ + _≤8;have:_≤8 - x.cps.size:=this;omega
  · intro c h
    rcases List.mem_append.mp h with h | h
    · exact hc c h
    · have:=sy h
      rw [show ("z":Str).cps.toList=[122] from rfl] at this
      rw [List.mem_singleton.mp this];decide
theorem FZ {i:Int} (h0:0≤i) (h1:i<4):("abcd":Str).cps[i.toNat]?=some (97 + i.toNat):=by
  have h:i=0∨i=1∨i=2∨i=3:=by omega
  rcases h with rfl | rfl | rfl | rfl <;> rfl
theorem Mt {i:Int} (h0:0≤i) (h1:i<3):("abc":Str).cps[i.toNat]?=some (97 + i.toNat):=by
  have h:i=0∨i=1∨i=2:=by omega
  rcases h with rfl | rfl | rfl <;> rfl
theorem getD_in {ns:List Int} {j:Nat} (h:j<ns.length):ns.getD j 0∈ns:=by
  rw [List.getD_eq_getElem?_getD,List.getElem?_eq_getElem h];exact List.getElem_mem h
def fZ (ls:List Lic) (n d:Int):Nat→List Int
  | 0=>[]
  | i + 1=>fZ ls n d i++(match ls[i]? with | some l=>if (i:Int)≠n∧l.day=d∧0<l.most then [(i:Int)] else [] | none=>[])
theorem j9 (ls:List Lic) (n d:Int):∀ i,(fZ ls n d i).length≤i
  | 0=>Nat.le_refl _
  | i + 1=>by
    have:=j9 ls n d i
    unfold fZ
    rw [List.length_append]
    split
    · split <;> simp <;> omega
    · simp;omega
theorem gB {ls:List Lic} {n d k:Int}:∀ i,k∈fZ ls n d i↔∃ j:Nat,j<i∧k=(j:Int)∧(j:Int)≠n∧∃ l,ls[j]?=some l∧l.day=d∧0<l.most
  | 0=>⟨(fun h=>nomatch h),fun ⟨_,h,_⟩=>absurd h (Nat.not_lt_zero _)⟩
  | i + 1=>by
    unfold fZ
    rw [List.mem_append,gB i]
    constructor
    · rintro (⟨j,h1,h2⟩ | h)
      · exact ⟨j,by omega,h2⟩
      · split at h
        next l hl =>
          split at h
          next hc=>exact ⟨i,by omega,List.mem_singleton.mp h,hc.1,l,hl,hc.2⟩
          next=>cases h
        next=>cases h
    · rintro ⟨j,h1,rfl,h3,l,h4,h5⟩
      by_cases e:j=i
      · subst e
        right
        rw [h4]
        simp only
        rw [if_pos ⟨h3,h5⟩];exact List.mem_singleton.mpr rfl
      · exact .inl ⟨j,by omega,rfl,h3,l,h4,h5⟩
theorem lG {ls:List Lic} {d:Int} {j:Nat} {l:Lic} (hl:ls[j]?=some l) (hd:l.day=d) (hm:0<l.most):∀ i,j<i→(j:Int)∈eF ls d i
  | 0,h=>absurd h (Nat.not_lt_zero _)
  | i + 1,h=>by
    unfold eF
    rw [List.mem_append]
    by_cases e:j=i
    · subst e
      right
      rw [hl]
      simp only
      rw [if_pos ⟨hd,hm⟩];exact List.mem_singleton.mpr rfl
    · exact .inl (lG hl hd hm i (by omega))
theorem ud {ls:List Lic} {n:Nat} {d:Int} (h:fZ ls n d ls.length≠[]):eF ls d ls.length≠[(n:Int)]:=by
  intro e
  obtain ⟨k,hk⟩:=List.exists_mem_of_ne_nil _ h
  obtain ⟨j,h1,rfl,h3,l,h4,h5,h6⟩:=(gB _).mp hk
  have:=lG h4 h5 h6 _ h1
  rw [e] at this
  exact h3 (List.mem_singleton.mp this)
theorem n6 {ls:List Lic} {n:Nat} {l:Lic} (hl:ls[n]?=some l) (hm:0<l.most):∀ i,fZ ls n l.day i=[]→eF ls l.day i=if n<i then [(n:Int)] else []
  | 0,_=>by rw [if_neg (Nat.not_lt_zero _)];rfl
  | i + 1,h=>by
    unfold fZ at h
    obtain ⟨h1,h2⟩:=List.append_eq_nil_iff.mp h
    have ih:=n6 hl hm i h1
    unfold eF
    rw [ih]
    by_cases e:n=i
    · subst e
      rw [hl,if_neg (Nat.lt_irrefl _),if_pos (Nat.lt_succ_self _)]
      simp [hm]
    · have hif:(if n<i then [(n:Int)] else [])=if n<i + 1 then [(n:Int)] else []:=by
        by_cases h3:n<i
        · rw [if_pos h3,if_pos (by omega)]
        · rw [if_neg h3,if_neg (by omega)]
      cases hl':ls[i]? with
      | none=>simp only [List.append_nil];exact hif
      | some l' =>
        rw [hl'] at h2
        simp only at h2 ⊢
        have hc:¬ (l'.day=l.day∧0<l'.most):=fun hc=>by
          rw [if_pos ⟨fun z=>e (by omega),hc⟩] at h2
          cases h2
        rw [if_neg hc,List.append_nil];exact hif
def zf (ls:List Lic) (ms:List Int):List Lic:=ls.mapIdx fun j l=>if (j:Int)∈ms then wm l 0 else l
theorem lF (ls:List Lic) (ms:List Int):(zf ls ms).length=ls.length:=by unfold zf;simp
theorem oW (ls:List Lic) (ms:List Int) (j:Nat):(zf ls ms)[j]?=(ls[j]?).map fun l=>if (j:Int)∈ms then wm l 0 else l:=by unfold zf;simp
theorem Gm (ls:List Lic):zf ls []=ls:=by
  apply List.ext_getElem?
  intro j
  rw [oW]
  cases ls[j]? <;> simp
theorem rG {ls:List Lic} {ms:List Int} {k:Nat} {l:Lic} (hk:(zf ls ms)[k]?=some l):zf ls (ms++[(k:Int)])=(zf ls ms).set k (wm l 0):=by
  have hlt:=(List.getElem?_eq_some_iff.mp hk).1
  rw [oW] at hk
  apply List.ext_getElem?
  intro j
  rw [List.getElem?_set,oW,oW]
  by_cases e:k=j
  · subst e
    rw [if_pos rfl,if_pos hlt]
    cases hl:ls[k]? with
    | none=>rw [hl] at hk;cases hk
    | some l' =>
      rw [hl] at hk
      have hk:(if (k:Int)∈ms then wm l' 0 else l')=l:=Option.some.inj hk
      show some (if (k:Int)∈ms++[(k:Int)] then wm l' 0 else l')=_
      rw [if_pos (List.mem_append_right _ (List.mem_singleton.mpr rfl)),← hk]
      split <;> rfl
  · rw [if_neg e]
    have:((j:Int)∈ms++[(k:Int)])↔((j:Int)∈ms):=by
      rw [List.mem_append,List.mem_singleton]
      exact ⟨fun h=>h.elim id fun h=>absurd (by omega) e,.inl⟩
    simp only [this]
theorem p8 {ls:List Lic} {n:Nat} {l:Lic} (hl:ls[n]?=some l):(zf ls (fZ ls n l.day ls.length))[n]?=some l:=by
  rw [oW,hl]
  show some (if (n:Int)∈fZ ls n l.day ls.length then wm l 0 else l)=_
  rw [if_neg]
  intro h
  obtain ⟨j,_,h2,h3,_⟩:=(gB _).mp h
  exact h3 h2.symm
theorem u9 {ls:List Lic} {n:Nat} {l:Lic} (hl:ls[n]?=some l) (hm:0<l.most):eF (zf ls (fZ ls n l.day ls.length)) l.day (zf ls (fZ ls n l.day ls.length)).length=[(n:Int)]:=by
  have hn:=(List.getElem?_eq_some_iff.mp hl).1
  rw [n6 (p8 hl) hm,if_pos (by rw [lF];exact hn)]
  rw [List.eq_nil_iff_forall_not_mem]
  intro k hk
  obtain ⟨j,h1,rfl,h3,l',h4,h5,h6⟩:=(gB _).mp hk
  rw [oW] at h4
  cases hj:ls[j]? with
  | none=>rw [hj] at h4;cases h4
  | some l2 =>
    rw [hj] at h4
    have h4:(if (j:Int)∈fZ ls n l.day ls.length then wm l2 0 else l2)=l':=Option.some.inj h4
    by_cases hc:(j:Int)∈fZ ls n l.day ls.length
    · rw [if_pos hc] at h4
      rw [← h4] at h6
      exact absurd h6 (by show ¬ (0:Int)<0;decide)
    · rw [if_neg hc] at h4
      subst h4
      exact hc ((gB _).mpr ⟨j,(List.getElem?_eq_some_iff.mp hj).1,rfl,h3,l2,hj,h5,h6⟩)
def lz (ls:List Lic) (ms:List Int):List Int:=ls.mapIdx fun j l=>if (j:Int)∈ms then 0 else l.most
theorem xq (ls:List Lic) (ms:List Int):(lz ls ms).length=ls.length:=by unfold lz;simp
theorem Fv {ls:List Lic} {ms:List Int} {i:Nat} {l:Lic} (h:ls[i]?=some l):lz (ls.take (i + 1)) ms=lz (ls.take i) ms++[if (i:Int)∈ms then 0 else l.most]:=by
  have hi:=(List.getElem?_eq_some_iff.mp h).1
  unfold lz
  rw [Tn.jh h,List.mapIdx_concat,List.length_take,Nat.min_eq_left (by omega)]
theorem Hg {ls:List Lic} {ms:List Int} (h:∀ l∈ls,0≤l.most):jm ls (lz ls ms)=zf ls ms:=by
  apply List.ext_getElem?
  intro j
  unfold jm lz
  rw [List.getElem?_zipWith,oW,List.getElem?_mapIdx]
  cases hl:ls[j]? with
  | none=>rfl
  | some l =>
    have:=h l (List.mem_of_getElem? hl)
    show some _=some _
    congr 1
    split
    · rw [Int.min_eq_right this]
    · rw [Int.min_self];rfl
theorem Nr {ls:List Lic} {ms:List Int} (h:∀ l∈ls,0≤l.most∧l.most≤1000000000000):∀ x∈lz ls ms,0≤x∧x≤1000000000000:=by
  intro x hx
  unfold lz at hx
  obtain ⟨j,hj,e⟩:=List.mem_mapIdx.mp hx
  rw [← e]
  split
  · decide
  · exact h _ (List.getElem_mem hj)
theorem MK {ls:List Lic} {ms:List Int} (h:∀ l∈ls,0≤l.most∧l.most≤1000000000000):∀ l∈zf ls ms,0≤l.most∧l.most≤1000000000000:=by
  intro x hx
  unfold zf at hx
  obtain ⟨j,hj,e⟩:=List.mem_mapIdx.mp hx
  rw [← e]
  split
  · exact ⟨by show (0:Int)≤0;decide,by show (0:Int)≤1000000000000;decide⟩
  · exact h _ (List.getElem_mem hj)
theorem xr (K:PySem.W.Frag):PySem.W.kitOne K (.type "tuple") (.type "tuple")=some true:=by rfl
abbrev aU:Stmt:=top 38
theorem fP:aO ["found","due","one"] ["found","due"] (ak aU):=⟨rfl,rfl,rfl,by decide +kernel,rfl,by decide +kernel,by decide +kernel⟩
def wW (K:PySem.W.Frag) (T:eU):Sp:=fun vs H Q _=>∃ (a b:Addr) (us ws:List V) (rows:List (List Int)),vs=[.ref a,.ref b]∧H a=some (.lst us)∧SqL K H b ws∧bY K H us (rows.map dTup)∧bY K H ws (rows.map dTup)∧(∀ x∈rows,x.length=4)∧TabsOk T H ∧
  ∀ H',aV T H H'→Q (.bl true) H'
theorem G8 {f f1:Addr} {fd fd1:FuncData} (D:Df K mg "_law_alike_lines" aU ["found","due"] f fd) (B:Blt mg)
    (bL:Df K mg "_law_whole" cC ["found"] f1 fd1) (iz:bW P w K mg base CX0 1 f1 fd1 ["found"] lZ):bW P w K mg base CX0 2 f fd ["found","due"] (wW K T):=by
  refine D.F.ok fP (fun vs H Q E h=>?_) (fun cdv A outer s H vs Q E hr h=>?_)
  · obtain ⟨_,_,_,_,_,rfl,_⟩:=h;rfl
  · obtain ⟨a,b,us,ws,rows,rfl,hA,hB,d1,d2,hm,tk,q⟩:=h
    have hu:=hr.units
    have O:=Ow.refl tk
    refine ⟨_,(aq (dZ (PW.pt (pw_or (eX (fQ (aN jd rfl B.isinstance PyProof.Rows.boot_isinstance (aj (pv 0) (aj (j6 (v:=.ty "list") rfl B.list PyProof.Rows.boot_list rfl) aA))))) (pw_or1 (bw nW (aN aL rfl B.len PySem.boot_len (aj (pv 0) aA)) (aN aL rfl B.len PySem.boot_len (aj (pv 1) aA)) (bN _)))))
        (aC (bx jl))
        aY)
      (aq (nR PassesOwn.never rfl (jY (pv 0)) (bI (i:=2) fP.nd rfl (Or.inl rfl))
        (aq (dZ (PW.pt (pw_or (eX (fQ (aN oH rfl B.isinstance PyProof.Rows.boot_isinstance (aj (pv 2) (aj (j6 (v:=.ty "tuple") rfl B.tuple PyProof.Rows.boot_tuple rfl) aA))))) (pw_or1 (bw nW (aN aL rfl B.len PySem.boot_len (aj (pv 2) aA)) aB (bN _)))))
          (aC (bx jl))
          aY)
        (aC (dZ (bw (tH hu) (gJ (ak aU) rfl ["found","due","one"] rfl ["part"] [none] (by decide +kernel) (by decide +kernel) (by decide +kernel) rfl (GF (pv 2)) (fun _ _ _=>(bI (i:=0) (show (["part"]:List Str).Nodup by decide +kernel) rfl (Or.inl rfl))) (fun _ _ _=>(pq (eX (fQ (aX iz (hr.mono (by decide)) rfl bL.m bL.F.kp bL.b .nil bZ (aj (pv 0) aA)))))) (fun _ _ _=>(pv 0))) (fD aA) (bN _))
          (aC (bx jl))
          aY))))
      (aC (bx (ig (nZ hu) (pv 0) (pv 1) (bN _)))))),?_⟩
    have hul:us.length=ws.length:=by rw [d1.length,d2.length]
    refine ⟨_,rfl,_,_,_,true,rfl,.lst hA,xu K,_,rfl,lB ?_⟩
    refine ⟨_,rfl,a,_,rfl,.inl (SqL.of hA),_,rfl,b,_,rfl,.inl hB,rfl,_,rfl,ifN (ifI (fun _=>?_) fun hc=>absurd (by rw [hul]) hc)⟩
    refine ⟨_,rfl,a,rfl,⟨_,SqL.of hA⟩,?_⟩
    refine mV (K:=K) (xs:=us) (fun i σ H'=>Iv (∃ (v3:Option V),σ=[some (.ref a),some (.ref b),v3]∧Ow T H H' [])) ⟨trivial,none,rfl,O⟩ (fun i σ H' _ ⟨_,_,_,O⟩=>(SqL.of hA).mo O.same) ?_ ?_
    · rintro i y σ H4 hy ⟨-,v3,rfl,O⟩
      obtain ⟨d,hd,hden⟩:=d1.get' hy
      rw [List.getElem?_map] at hd
      obtain ⟨x,hx,rfl⟩:=Option.map_eq_some_iff.mp hd
      obtain ⟨t,rfl,hT0⟩:=hden.rP
      have hxm:=hm x (List.mem_of_getElem? hx)
      have hT:=hT0.mo O.same
      refine ⟨_,rfl,t,_,_,true,rfl,hT,xr K,_,rfl,lB ?_⟩
      refine ⟨_,rfl,t,_,rfl,.inr hT,rfl,_,rfl,ifN (ifI (fun _=>?_) fun hc=>absurd (by rw [List.length_map,hxm];rfl) hc)⟩
      refine ⟨_,rfl,t,rfl,⟨_,hT⟩,fun lw hlw=>?_⟩
      refine wG (K:=K) (xs:=x.map V.int) (fun i τ H'=>Iv (∃ (v0:Option V),τ=[v0]∧Ow T H H' [(lw,.lst (([]:List Int).map V.int))])) ⟨trivial,none,rfl,O.mk' hlw rfl⟩ (fun i τ H' _ ⟨_,_,_,O2⟩=>hT0.mo O2.same) ?_ ?_
      · rintro j y τ H5 hy ⟨-,v0,rfl,O⟩
        obtain ⟨z,hz,rfl⟩:=ints_get hy
        exact ⟨_,rfl,z,rfl,_,rfl,lB ⟨trivial,_,rfl,O⟩⟩
      rintro τ H5 ⟨-,v0,rfl,O⟩
      refine ⟨szl,fun l0 hl0=>?_⟩
      walk_at "nw"
      refine ⟨lw,l0,[],[],rfl,rfl,O.sq 1,O.sq 0,_,rfl,?_⟩
      refine lB ?_
      exact ⟨trivial,_,rfl,O.tail.tail⟩
    rintro σ H4 ⟨-,v3,rfl,O⟩
    have hsh:Sh 2 (.list (rows.map dTup)):=Sh.tups 0 rows
    refine ⟨_,rfl,_,rfl,_,_,.list ((SqL.of hA).mo O.same) (d1.mo O.same),.list (hB.mo O.same) (d2.mo O.same),hsh.ok (by decide),hsh.ok (by decide),?_⟩
    rw [if_neg Bool.false_ne_true,mX hsh]
    exact q _ O.same
theorem bY.strs {K:PySem.W.Frag} {H:Hp}:∀ ns:List Str,bY K H (ns.map V.str) (ns.map PyData.str)
  | []=>.nil
  | x :: ns=>.cons (.str x) (bY.strs ns)
theorem Ft {x:Str} (h:dW x) (n:Nat):Sh n (.str x):=by
  refine ⟨?_,by simp [PyData.depth]⟩
  rw [PyData.canLay0]
  show x.cps.all (·<0x110000)=true
  rw [Array.all_eq_true]
  intro i hi
  have:=h.2.2 _ (Array.getElem_mem_toList hi)
  exact decide_eq_true (by omega)
theorem vX {ns:List Str} (h:∀ x∈ns,dW x):Sh 1 (.list (ns.map PyData.str)):=.list fun d hd=>by
  obtain ⟨x,hx,rfl⟩:=List.mem_map.mp hd
  exact Ft (h x hx) 0
theorem qC (ls:List Lic):(ls.map fun l=>[l.day,l.start,l.back,l.most]).map dTup=ls.map gn:=by rw [List.map_map];rfl
abbrev cD:Stmt:=top 39
theorem mG:aO ["one","lines","owners"] ["one","lines","owners"] (ak cD):=⟨rfl,rfl,rfl,by decide +kernel,rfl,by decide +kernel,by decide +kernel⟩
def mq (K:PySem.W.Frag) (T:eU) (C:Addr):Sp:=fun vs H Q _=>∃ (A:Rs) (day:Int) (us ws:List V) (ns:List Str) (ls:List Lic) (b c:Addr),vs=[.ref A.p,.ref b,.ref c]∧H A.p=some (xJ C A day)∧SqL K H A.ll us∧SqL K H A.ln (ns.map V.str)∧SqL K H b ws∧SqL K H c (ns.map V.str) ∧
  bY K H us (ls.map gn)∧bY K H ws (ls.map gn)∧(∀ x∈ns,dW x)∧TabsOk T H∧∀ H',aV T H H'→Q (.bl true) H'
section
variable {P:Program} {w:World} {K:PySem.W.Frag} {mg:Str→Option Value} {base:Heap} {T:eU} {C f0:Addr}
theorem vI {f f2 f3 f5:Addr} {fd fd2 fd3 fd5:FuncData} (D:Df K mg "_law_right" cD ["one","lines","owners"] f fd) (B:Blt mg) (R_Roll:Cl K mg "Roll" C f0 fM)
    (dY:Dm K C "holders" "Roll.holders" bT ["self"] f2 fd2) (lE:bW P w K mg base CX0 1 f2 fd2 ["self"] (jQ K C "names"))
    (cW:Dm K C "roll" "Roll.roll" cQ ["self"] f3 fd3) (je:bW P w K mg base CX0 1 f3 fd3 ["self"] (jQ K C "licences"))
    (bO:Df K mg "_law_alike_lines" aU ["found","due"] f5 fd5) (jq:bW P w K mg base CX0 2 f5 fd5 ["found","due"] (wW K T)):bW P w K mg base CX0 3 f fd ["one","lines","owners"] (mq K T C):=by
  refine D.F.ok mG (fun vs H Q E h=>?_) (fun cdv A outer s H vs Q E hr h=>?_)
  · obtain ⟨_,_,_,_,_,_,_,_,rfl,_⟩:=h;rfl
  · obtain ⟨A,day,us,ws,ns,ls,b,c,rfl,hp,hl,hn,hb,hc,d1,d2,hnm,tk,q⟩:=h
    have hu:=hr.units
    have O:=Ow.refl tk
    have hrows:∀ x∈ls.map fun l=>[l.day,l.start,l.back,l.most],x.length=4:=fun x hx=>by
      obtain ⟨p,_,rfl⟩:=List.mem_map.mp hx;rfl
    have hpx:∀ {H':Hp} {L:List (Addr × HO)},Ow T H H' L→H' A.p=some (xJ C A day):=fun O=>O.same.keep _ _ hp (fun _ z=>nomatch z)
    refine ⟨_,(aC (bx (lQ (aX jq (hr.mono (by decide)) rfl bO.m bO.F.kp bO.b .nil bZ (aj (iI (pv 0) R_Roll.c cW.m je (hr.mono (by decide)) cW.b .nil bZ) (aj (pv 1) aA))) (lO (ig (nZ hu) (iI (pv 0) R_Roll.c dY.m lE (hr.mono (by decide)) dY.b .nil bZ) (pv 2) (bN _)))))),?_⟩
    refine ⟨_,rfl,A.p,A.dx,_,rfl,hp,rfl,A.p,A.dx,A.ll,_,_,rfl,hp,rfl,hl,fun l2 h2=>?_⟩
    walk_at "nw"
    refine ⟨_,rfl,l2,b,us,ws,ls.map fun l=>[l.day,l.start,l.back,l.most],rfl,O.get 0,hb.mo O.same,by rw [qC];exact d1.mo O.same,by rw [qC];exact d2.mo O.same,hrows,O.same.t1,fun H3 s3=>?_⟩
    have O:=(O.kY s3).tail
    refine ⟨_,rfl,pK ?_⟩
    refine ⟨_,rfl,A.p,A.dx,_,rfl,hpx O,rfl,A.p,A.dx,A.ln,_,_,rfl,hpx O,rfl,hn.mo O.same,fun l1 h1=>?_⟩
    walk_at "nw"
    have hsh:=vX hnm
    refine ⟨_,rfl,_,_,.list (O.sq 0) (bY.strs ns),.list (hc.mo O.same) (bY.strs ns),hsh.ok (by decide),hsh.ok (by decide),?_⟩
    rw [if_neg Bool.false_ne_true,mX hsh]
    exact q _ O.same
end
structure Em (K:PySem.W.Frag) (cA cS cT:Addr):Prop where
  mS:PySem.W.exmOne K (.ref cA) (.ref cS)=some true
  kT:PySem.W.kitOne K (.ref cA) (.ref cT)=some false
  kA:PySem.W.kitOne K (.ref cA) (.ref cA)=some true
  kV:PySem.W.kitOne K (.ref cA) (.type "ValueError")=some true
abbrev bC:Stmt:=top 40
theorem dN:aO ["one","number","name","most","to","caught","e"] ["one","number","name","most","to"] (ak bC):=⟨rfl,rfl,rfl,by decide +kernel,rfl,by decide +kernel,by decide +kernel⟩
def wQ (K:PySem.W.Frag) (T:eU) (C:Addr):Sp:=fun vs H Q _=>∃ (A:Rs) (H0:Hp) (B:List (Addr × HO)) (r:List Int) (day:Int) (us:List V) (ns:List Str) (ds:List V) (ls:List Lic) (n:Nat) (l:Lic) (x:Str) (m:Int) (z:Str),vs=[.ref A.p,.int (n:Int),.str x,.int m,.str z] ∧
  Ow T H0 H (RL C A r day us ns ds++B)∧bY K H0 us (ls.map gn)∧ls[n]?=some l∧ns[n]?=some x∧ns.length≤900∧dW z∧ls.length<60∧ds.length≤9000∧1≤m∧m<l.most∧eF ls l.day ls.length≠[(n:Int)]∧∀ H',aV T H H'→Q (.bl true) H'
section
variable {P:Program} {w:World} {K:PySem.W.Frag} {mg:Str→Option Value} {base:Heap} {T:eU} {C f0:Addr}
theorem G3 {f f1 cY cT cA cS:Addr} {fd fd1:FuncData} (D:Df K mg "_law_not_alone" bC ["one","number","name","most","to"] f fd) (B:Blt mg) (R_Roll:Cl K mg "Roll" C f0 fM) (X_NotAlone:u6 K mg "NotAlone" cA) (X_TooMuch:u6 K mg "TooMuch" cT) (X_SluiceError:u6 K mg "SluiceError" cS) (TT:Em K cA cS cT)
    (cX:Dm K C "part" "Roll.part" cR ["self","number","holder","most","to"] f1 fd1) (jf:bW P w K mg base (CXE P w) 3 f1 fd1 ["self","number","holder","most","to"] (oZ K T C cY cT cA)) :
    bW P w K mg base CX0 4 f fd ["one","number","name","most","to"] (wQ K T C):=by
  refine D.F.ok dN (fun vs H Q E h=>?_) (fun cdv A outer s H vs Q E hr h=>?_)
  · obtain ⟨_,_,_,_,_,_,_,_,_,_,_,_,_,_,rfl,_⟩:=h;rfl
  · obtain ⟨A,H0,L,r,day,us,ns,ds,ls,n,l,x,m,z,rfl,O,d0,hl,hx,nl,nz,l60,dl,m1,m2,ht,q⟩:=h
    refine ⟨_,(aq (bU (i:=5) dN.nd rfl (Or.inl rfl) w5)
      (aq (GD (i:=6) ⟨rfl,rfl,rfl⟩ rfl (Eo (Ep (Er (pv 0) R_Roll.c cX.m jf (hr.mono (by decide)) cX.b .nil (aj (pv 1) (aj (pv 2) (aj (pv 3) (aj (pv 4) aA))))))) rfl X_SluiceError.m dN.nd rfl rfl (fun e =>
        (aC (bU (i:=5) dN.nd rfl (Or.inl rfl) (pv 6)))))
      (aC (bx (lQ (aN iy rfl B.isinstance PyProof.Rows.boot_isinstance (aj (pv 5) (aj (xg rfl X_NotAlone.m) aA))) (lQ (wZ (aN iy rfl B.isinstance PyProof.Rows.boot_isinstance (aj (pv 5) (aj (xg rfl X_TooMuch.m) aA)))) (lO (aN iy rfl B.isinstance PyProof.Rows.boot_isinstance (aj (pv 5) (aj (j6 (v:=.ty "ValueError") rfl B.ValueError FQ rfl) aA)))))))))),?_⟩
    refine ⟨_,rfl,A.p,A.dx,_,rfl,O.get 0,rfl,_,rfl,_,rfl,_,rfl,_,rfl,A,H0,_,r,day,us,ns,ds,ls,n,l,x,x,m,z,rfl,O,d0,hl,hx,nl,nz,l60,dl,fun hc=>absurd rfl hc,fun _ hc=>absurd ⟨m1,m2⟩ hc,fun _ _ _ _ e H' s' he=>⟨cA,e,rfl,rfl,TT.mS,?_⟩,fun _ _ _ hc=>absurd hc ht⟩
    refine ⟨_,rfl,?_⟩
    have hX:(upd H' e (.ext (XAt e cA))) e=some (.ext (XAt e cA)):=cB
    have sX:aV T H (upd H' e (.ext (XAt e cA))):=s'.upd (s'.free he) (.inl he)
    generalize upd H' e (.ext (XAt e cA))=H2 at hX sX
    refine ⟨_,rfl,e,cA,_,_,true,rfl,hX,X_NotAlone.x,.inr ⟨_,rfl,rfl⟩,TT.kA,_,rfl,pK ?_⟩
    refine ⟨_,rfl,e,cA,_,_,false,rfl,hX,X_NotAlone.x,.inr ⟨_,rfl,rfl⟩,TT.kT,_,rfl,_,rfl,pK ?_⟩
    exact ⟨_,rfl,e,cA,_,_,true,rfl,hX,X_NotAlone.x,.inl ⟨_,rfl,rfl⟩,TT.kV,q H2 sX⟩
end
abbrev dB:Stmt:=top 41
theorem dw:aO ["one","xs","many","lines","owners","day","start","most","name","back"] ["one","xs","many","lines","owners","day"] (ak dB):=⟨rfl,rfl,rfl,by decide +kernel,rfl,by decide +kernel,by decide +kernel⟩
def qj (K:PySem.W.Frag) (T:eU) (C:Addr):Sp:=fun vs H Q _=>∃ (A:Rs) (H0:Hp) (B:List (Addr × HO)) (mN:Nat) (day:Int) (us ws:List V) (ns:List Str) (ds:List V) (ls:List Lic) (a b c:Addr) (ys:List Int),vs=[.ref A.p,.ref a,.int (mN:Int),.ref b,.ref c,.int day] ∧
  Ow T H0 H (RL C A (eV mN) day us ns ds++(a,.lst (ys.map V.int)) :: (c,.lst (ns.map V.str)) :: (b,.lst ws) :: B)∧ys.length=6∧(∀ y∈ys,0≤y)∧1≤mN∧mN≤12∧bY K H0 us (ls.map gn)∧bY K H0 ws (ls.map gn)∧ls.length<60∧ns.length=ls.length∧0≤day∧day<1000000∧ds.length≤8000 ∧
  ∀ (Hb H':Hp) (day':Int) (us' ws' ds':List V) (x:Str) (l:Lic),aV T H0 Hb→Ow T Hb H' (RL C A (eV mN) day' us' (ns++[x]) ds'++(a,.lst (ys.map V.int)) :: (c,.lst ((ns++[x]).map V.str)) :: (b,.lst ws') :: B)→bY K Hb us' ((ls++[l]).map gn)→bY K Hb ws' ((ls++[l]).map gn)→dW x→0≤day'→day'≤day + 1→ds'.length≤ds.length + 2→0≤l.most→l.most≤1000000000000→Q (.int day') H'
section
variable {P:Program} {w:World} {K:PySem.W.Frag} {mg:Str→Option Value} {base:Heap} {T:eU} {C f0:Addr}
theorem vK {f f1 f3:Addr} {fd fd1 fd3:FuncData} (D:Df K mg "_law_file" dB ["one","xs","many","lines","owners","day"] f fd) (B:Blt mg) (R_Roll:Cl K mg "Roll" C f0 fM)
    (fV:Dm K C "turn" "Roll.turn" dF ["self"] f1 fd1) (pX:bW P w K mg base CX0 1 f1 fd1 ["self"] (rR T C))
    (fX:DmD K C "file" "Roll.file" dH ["self","holder","start","most","back"] f3 fd3) (pZ:bW P w K mg base CX0 3 f3 fd3 ["self","holder","start","most","back"] (rY T C)):bW P w K mg base CX0 4 f fd ["one","xs","many","lines","owners","day"] (qj K T C):=by
  refine D.F.ok dw (fun vs H Q E h=>?_) (fun cdv A outer s H vs Q E hr h=>?_)
  · obtain ⟨_,_,_,_,_,_,_,_,_,_,_,_,_,_,rfl,_⟩:=h;rfl
  · obtain ⟨A,H0,L,mN,day,us,ws,ns,ds,ls,a,b,c,ys,rfl,O,y6,y0,m1,m12,d0,d1,l60,nn,dy0,dy1,dl,q⟩:=h
    have hu:=hr.units
    have g:∀ k:Nat,k<6→ys[k]?=some (ys.getD k 0):=fun k hk=>oA (by omega)
    have hR:=jt mN
    have hrl:=iH mN
    have hul:us.length=ls.length:=by rw [d0.length,List.length_map]
    have hwl:ws.length=ls.length:=by rw [d1.length,List.length_map]
    refine ⟨_,(fU (dZ (bw nW (bD dU (bF aJ (pv 1) aB (fun _ _=>rfl)) aB) aB (bN _))
        (aq (aZ (iI (pv 0) R_Roll.c fV.m pX (hr.mono (by decide)) fV.b .nil bZ))
        (aC (bU (i:=5) dw.nd rfl (Or.inl rfl) (bD iU (pv 5) aB))))
        aY)
      (aq (bU (i:=6) dw.nd rfl (Or.inl rfl) (bD dU (bF aJ (pv 1) aB (fun _ _=>rfl)) (pv 2)))
      (aq (bU (i:=7) dw.nd rfl (Or.inl rfl) (bF aJ (fD (aj (bD iU aB (bD dU (bF aJ (pv 1) aB (fun _ _=>rfl)) aB)) (aj (bD iU aB (bD dU (bD lR (bF aJ (pv 1) aB (fun _ _=>rfl)) aB) (bD GP aB aB))) aA))) (bD dU (bD j8 (bF aJ (pv 1) aB (fun _ _=>rfl)) aB) aB) (fun _ _=>rfl)))
      (aq (bU (i:=8) dw.nd rfl (Or.inl rfl) (bD tK (j5 gw (bD dU (bF aJ (pv 1) aB (fun _ _=>rfl)) aB) (fun _ _=>rfl)) (bD iU aB (bD dU (bD j8 (bF aJ (pv 1) aB (fun _ _=>rfl)) aB) aB))))
      (aq (bU (i:=9) dw.nd rfl (Or.inl rfl) (Fe rJ aB))
      (fU (dZ (PW.pt (pw_and (bw Fl (pv 6) aB (bN _)) (pw_and1 (bw lA (bD dU (bD j8 (bF aJ (pv 1) aB (fun _ _=>rfl)) aB) aB) aB (bN _)))))
        (aC (bU (i:=9) dw.nd rfl (Or.inl rfl) (bD dU (bF aJ (pv 1) aB (fun _ _=>rfl)) (pv 6))))
        aY)
      (aq (aZ (fK (pv 0) R_Roll.c fX.m pZ (hr.mono (by decide)) fX.b0 .nil bZ (aj (pv 8) (aj (pv 6) (aj (pv 7) (aj (pv 9) aA))))))
      (aq (aZ (iR PySem.F.plainAttrs_list PySem.F.slot_list_append PySem.F.type_list_append bJ (pv 3) (aj (gq (aj (pv 5) (aj (pv 6) (aj (pv 9) (aj (pv 7) aA))))) aA)))
      (aq (aZ (iR PySem.F.plainAttrs_list PySem.F.slot_list_append PySem.F.type_list_append bJ (pv 4) (aj (pv 8) aA)))
      (aC (bx (pv 5)))))))))))),?_⟩
    refine ⟨fun σ H'=>Iv (∃ (Hb:Hp) (day':Int) (ds':List V),σ=[some (.ref A.p),some (.ref a),some (.int (mN:Int)),some (.ref b),some (.ref c),some (.int day'),none,none,none,none] ∧
        Ow T Hb H' (RL C A (eV mN) day' us ns ds'++(a,.lst (ys.map V.int)) :: (c,.lst (ns.map V.str)) :: (b,.lst ws) :: L)∧aV T H0 Hb∧ds'.length≤ds.length + 1∧0≤day'∧day'≤day + 1),?_,?_⟩
    · refine ⟨_,rfl,a,_,1,_,rfl,rfl,O.sq 6,cM (i:=1) (g 1 (by decide)),_,_,rfl,rfl,(by show (0:Int)<3;decide),rfl,_,rfl,ifN (ifI (fun _=>?_) (fun _=>?_))⟩
      · exact ⟨trivial,H0,day,ds,rfl,O,aV.refl O.same.t0,by omega,dy0,by omega⟩
      · refine ⟨_,rfl,A.p,A.dx,_,rfl,O.get 0,rfl,A,H0,_,eV mN,day,us,ns,ds,rfl,O,by omega,fun t H8 O=>?_⟩
        obtain ⟨Hn2,O,sn,en⟩:=O.jc 0
        refine ⟨_,rfl,_,_,rfl,rfl,?_⟩
        exact ⟨trivial,Hn2,day + 1,_,rfl,O,sn,by rw [List.length_append];simp,by omega,by omega⟩
    clear O
    rintro σ H1 ⟨-,Hb,day',ds',rfl,O,s0,n1,e0,e1⟩
    have d0:=d0.mo s0
    have d1:=d1.mo s0
    have st0:=Int.emod_nonneg (ys.getD 2 0) (show (mN:Int)≠0 by omega)
    have st1:=Int.emod_lt_of_pos (ys.getD 2 0) (show (0:Int)<(mN:Int) by omega)
    refine ⟨_,rfl,a,_,2,_,rfl,rfl,O.sq 6,cM (i:=2) (g 2 (by decide)),_,rfl,_,_,rfl,rfl,(by show (0:Int)<(mN:Int);omega),?_⟩
    dsimp only
    generalize ys.getD 2 0 % (mN:Int)=st at st0 st1
    have k0:=Int.emod_nonneg (ys.getD 1 0 / 3) (show (2:Int)≠0 by decide)
    have k1:=Int.emod_lt_of_pos (ys.getD 1 0 / 3) (show (0:Int)<2 by decide)
    have u0:=Int.emod_nonneg (ys.getD 3 0) (show (9:Int)≠0 by decide)
    have u1:=Int.emod_lt_of_pos (ys.getD 3 0) (show (0:Int)<9 by decide)
    have w0:=Int.emod_nonneg (ys.getD 3 0 * 80021) (show (1000000000000:Int)≠0 by decide)
    have w1:=Int.emod_lt_of_pos (ys.getD 3 0 * 80021) (show (0:Int)<1000000000000 by decide)
    refine ⟨_,rfl,a,_,3,_,rfl,rfl,O.sq 6,cM (i:=3) (g 3 (by decide)),_,_,rfl,rfl,(by show (0:Int)<9;decide),_,_,rfl,rfl,_,rfl,a,_,3,_,rfl,rfl,O.sq 6,cM (i:=3) (g 3 (by decide)),_,_,rfl,rfl,.inr ⟨by decide,by decide⟩,_,_,rfl,rfl,⟨by decide,by decide,by decide⟩,_,_,rfl,rfl,(by show (0:Int)<10 ^ 12;decide),_,_,rfl,rfl,szl,fun lm hlm=>?_⟩
    walk_at "nw"
    refine ⟨_,rfl,a,_,1,_,rfl,rfl,O.sq 7,cM (i:=1) (g 1 (by decide)),_,_,rfl,rfl,⟨by decide,by decide⟩,_,_,rfl,rfl,(by show (0:Int)<2;decide),?_⟩
    dsimp only at O ⊢
    rw [show (10:Int) ^ (12:Int).toNat=1000000000000 by decide] at O
    refine ⟨lm,_,_,_,rfl,rfl,O.sq 0,fB (ns:=[1 + ys.getD 3 0 % 9,1 + ys.getD 3 0 * 80021 % 1000000000000]) k0 k1,?_⟩
    have hm:1≤[1 + ys.getD 3 0 % 9,1 + ys.getD 3 0 * 80021 % 1000000000000].getD (ys.getD 1 0 / 3 % 2).toNat 0∧[1 + ys.getD 3 0 % 9,1 + ys.getD 3 0 * 80021 % 1000000000000].getD (ys.getD 1 0 / 3 % 2).toNat 0≤1000000000000:=by
      have hin:=getD_in (ns:=[1 + ys.getD 3 0 % 9,1 + ys.getD 3 0 * 80021 % 1000000000000]) (j:=(ys.getD 1 0 / 3 % 2).toNat) (by show _<2;omega)
      simp only [List.mem_cons,List.not_mem_nil,or_false] at hin
      rcases hin with e | e <;> rw [e] <;> omega
    generalize [1 + ys.getD 3 0 % 9,1 + ys.getD 3 0 * 80021 % 1000000000000].getD (ys.getD 1 0 / 3 % 2).toNat 0=m at hm
    clear k0 k1 u0 u1 w0 w1
    have O:=O.tail
    have p0:=Int.emod_nonneg (ys.getD 4 0) (show (3:Int)≠0 by decide)
    have p1:=Int.emod_lt_of_pos (ys.getD 4 0) (show (0:Int)<3 by decide)
    have r0:=Int.emod_nonneg (ys.getD 4 0 / 3) (show (8:Int)≠0 by decide)
    have r1:=Int.emod_lt_of_pos (ys.getD 4 0 / 3) (show (0:Int)<8 by decide)
    refine ⟨_,rfl,a,_,4,_,rfl,rfl,O.sq 6,cM (i:=4) (g 4 (by decide)),_,_,rfl,rfl,(by show (0:Int)<3;decide),_,_,_,rfl,rfl,p0,(by show ys.getD 4 0 % 3<2 ^ 63;omega),p1,Mt p0 p1,?_⟩
    refine ⟨_,rfl,a,_,4,_,rfl,rfl,O.sq 6,cM (i:=4) (g 4 (by decide)),_,_,rfl,rfl,⟨by decide,by decide⟩,_,_,rfl,rfl,(by show (0:Int)<8;decide),_,_,rfl,rfl,_,_,rfl,rfl,by omega,by omega,(by show 1≤64;decide),?_⟩
    have nx:=wY (c:=97 + (ys.getD 4 0 % 3).toNat) (by omega) (by omega) (n:=1 + ys.getD 4 0 / 3 % 8) (by omega) (by omega)
    dsimp only
    generalize Txt.mul (⟨#[97 + (ys.getD 4 0 % 3).toNat]⟩:Str) (1 + ys.getD 4 0 / 3 % 8)=x at nx
    refine ⟨1,rfl,?_⟩
    refine ⟨fun σ H'=>Iv (∃ (bk:Int),σ=[some (.ref A.p),some (.ref a),some (.int (mN:Int)),some (.ref b),some (.ref c),some (.int day'),some (.int st),some (.int m),some (.str x),some (.int bk)]∧(bk=-1∨bk∈(Rv.walk (eV mN) st).drop 1) ∧
        Ow T Hb H' (RL C A (eV mN) day' us ns ds'++(a,.lst (ys.map V.int)) :: (c,.lst (ns.map V.str)) :: (b,.lst ws) :: L)),?_,?_⟩
    · refine ⟨_,rfl,_,_,rfl,rfl,_,rfl,ifD (fun hs=>?_) (fun _=>⟨trivial,-1,rfl,.inl rfl,O⟩)⟩
      refine ⟨_,rfl,a,_,1,_,rfl,rfl,O.sq 6,cM (i:=1) (g 1 (by decide)),_,_,rfl,rfl,⟨by decide,by decide⟩,_,_,rfl,rfl,(by show (0:Int)<3;decide),rfl,_,rfl,ifI (fun _=>?_) (fun _=>⟨trivial,-1,rfl,.inl rfl,O⟩)⟩
      refine ⟨_,rfl,a,_,5,_,rfl,rfl,O.sq 6,cM (i:=5) (g 5 (by decide)),_,rfl,_,_,rfl,rfl,(by show (0:Int)<st;omega),?_⟩
      exact ⟨trivial,_,rfl,.inr (sV (Int.emod_nonneg _ (by omega)) (Int.emod_lt_of_pos _ (by omega)) st1),O⟩
    clear O
    rintro σ H2 ⟨-,bk,rfl,hbk,O⟩
    refine ⟨_,rfl,A.p,A.dx,_,rfl,O.get 0,rfl,_,rfl,_,rfl,_,rfl,_,rfl,?_⟩
    refine ⟨A,Hb,_,eV mN,day',us,ns,ds',x,⟨day',st,bk,m⟩,.int bk,rfl,.inr rfl,rfl,O,nx,hR,by omega,⟨⟨e0,by show day'≤1000000;omega,st0,by rw [hrl];exact st1,by show 0≤m;omega,hm.2⟩,hbk⟩,(by show m≠0;omega),by omega,by omega,by omega,fun t1 t2 H9 O=>?_⟩
    obtain ⟨Hn1,O,sn1,en1⟩:=O.jc 0
    obtain ⟨Hn2,O,sn2,en2⟩:=O.jc 0
    refine ⟨_,rfl,.inl ⟨rfl,_,O.sq 8⟩,_,rfl,_,rfl,_,rfl,_,rfl,szl,fun t3 ht3=>?_⟩
    walk_at "nw"
    refine ⟨b,_,_,rfl,rfl,O.get 9,aH (by omega),?_⟩
    generalize hE:upd _ _ _=Hn
    have O:=Ow.jK O 9 rfl hE rfl
    clear hE
    obtain ⟨Hn3,O,sn3,en3⟩:=O.jc 0
    refine ⟨_,rfl,.inl ⟨rfl,_,O.sq 7⟩,_,rfl,c,_,_,rfl,rfl,O.get 7,aH (by rw [List.length_map];omega),?_⟩
    generalize hE:upd _ _ _=Hm
    have O:=Ow.jK O 7 rfl hE rfl
    clear hE
    have sA:=sn1.trans (sn2.trans sn3)
    refine ⟨_,rfl,q Hn3 Hm day' (us++[.ref t1]) (ws++[.ref t3]) (ds'++[.ref t2]) x ⟨day',st,bk,m⟩ (s0.trans sA) ?_ ?_ ?_ nx e0 e1 (by rw [List.length_append];simp;omega) (by show 0≤m;omega) hm.2⟩
    · rw [List.map_append];exact O
    · rw [List.map_append]
      exact (d0.mo sA).append (.cons (Den.lic (SqT.of (sn3.keep _ _ en2 (fun _ z=>nomatch z)))) .nil)
    · rw [List.map_append]
      exact (d1.mo sA).append (.cons (Den.lic (l:=⟨day',st,bk,m⟩) (SqT.of en3)) .nil)
end
theorem jM {ns:List Str} {n:Nat} {x:Str} (h:ns[n]?=some x):(ns.map V.str)[n]?=some (.str x):=by rw [List.getElem?_map,h];rfl
abbrev cL:Stmt:=top 42
theorem bG:aO ["one","xs","lines","owners","number","day","start","back","most","piece","to","mates","k","told"] ["one","xs","lines","owners"] (ak cL):=⟨rfl,rfl,rfl,by decide +kernel,rfl,by decide +kernel,by decide +kernel⟩
def qg (K:PySem.W.Frag) (T:eU) (C:Addr):Sp:=fun vs H Q _=>∃ (A:Rs) (H0:Hp) (B:List (Addr × HO)) (r:List Int) (day:Int) (us ws:List V) (ns:List Str) (ds:List V) (ls:List Lic) (a b c:Addr) (ys:List Int),vs=[.ref A.p,.ref a,.ref b,.ref c] ∧
  Ow T H0 H (RL C A r day us ns ds++(a,.lst (ys.map V.int)) :: (c,.lst (ns.map V.str)) :: (b,.lst ws) :: B)∧ys.length=6∧(∀ y∈ys,0≤y)∧bY K H0 us (ls.map gn)∧bY K H0 ws (ls.map gn)∧1≤ls.length∧ls.length<60∧ns.length=ls.length∧(∀ x∈ns,dW x)∧(∀ l∈ls,0≤l.most∧l.most≤1000000000000)∧ds.length≤8000 ∧
  ∀ (Hb H':Hp) (us' ws':List V) (ns':List Str) (ds':List V) (ls':List Lic),aV T H0 Hb→Ow T Hb H' (RL C A r day us' ns' ds'++(a,.lst (ys.map V.int)) :: (c,.lst (ns'.map V.str)) :: (b,.lst ws') :: B)→bY K Hb us' (ls'.map gn)→bY K Hb ws' (ls'.map gn)→ls.length≤ls'.length→ls'.length≤ls.length + 1→ns'.length=ls'.length→(∀ x∈ns',dW x)→(∀ l∈ls',0≤l.most∧l.most≤1000000000000)→ds'.length≤ds.length + 100→Q (.bl true) H'
section
variable {P:Program} {w:World} {K:PySem.W.Frag} {mg:Str→Option Value} {base:Heap} {T:eU} {C f0:Addr}
theorem vJ {f f1 f2 f3 f4 f5 f6 f7 cY cT cA:Addr} {fd fd1 fd2 fd3 fd4 fd5 fd6 fd7:FuncData} (D:Df K mg "_law_part" cL ["one","xs","lines","owners"] f fd) (B:Blt mg) (R_Roll:Cl K mg "Roll" C f0 fM)
    (fW:Dm K C "sell" "Roll.sell" dG ["self","number","holder","to"] f1 fd1) (pY:bW P w K mg base (CXE P w) 3 f1 fd1 ["self","number","holder","to"] (rT K T C cY))
    (cu:Df K mg "_law_not_alone" bC ["one","number","name","most","to"] f2 fd2) (jG:bW P w K mg base CX0 4 f2 fd2 ["one","number","name","most","to"] (wQ K T C))
    (aW:Df K mg "_law_right" cD ["one","lines","owners"] f3 fd3) (gk:bW P w K mg base CX0 3 f3 fd3 ["one","lines","owners"] (mq K T C))
    (fH:Dm K C "lapse" "Roll.lapse" cG ["self","numbers"] f4 fd4) (oU:bW P w K mg base CX0 2 f4 fd4 ["self","numbers"] (qm K T C))
    (fY:Dm K C "drop" "Roll.drop" dI ["self","number","holder"] f5 fd5) (p7:bW P w K mg base (CXE P w) 3 f5 fd5 ["self","number","holder"] (rZ K T C cY))
    (cX:Dm K C "part" "Roll.part" cR ["self","number","holder","most","to"] f6 fd6) (jf:bW P w K mg base (CXE P w) 3 f6 fd6 ["self","number","holder","most","to"] (oZ K T C cY cT cA))
    (bL:Df K mg "_law_whole" cC ["found"] f7 fd7) (iz:bW P w K mg base CX0 1 f7 fd7 ["found"] lZ):bW P w K mg base CX0 5 f fd ["one","xs","lines","owners"] (qg K T C):=by
  refine D.F.ok bG (fun vs H Q E h=>?_) (fun cdv A outer s H vs Q E hr h=>?_)
  · obtain ⟨_,_,_,_,_,_,_,_,_,_,_,_,_,_,rfl,_⟩:=h;rfl
  · obtain ⟨A,H0,L,r,day,us,ws,ns,ds,ls,a,b,c,ys,rfl,O,y6,y0,d0,d1,l1,l60,nn,hnm,hbd,dl,q⟩:=h
    have hu:=hr.units
    have g:∀ k:Nat,k<6→ys[k]?=some (ys.getD k 0):=fun k hk=>oA (by omega)
    have hul:us.length=ls.length:=by rw [d0.length,List.length_map]
    have hwl:ws.length=ls.length:=by rw [d1.length,List.length_map]
    refine ⟨_,(aq (bU (i:=4) bG.nd rfl (Or.inr rfl) (bD dU (bF aJ (pv 1) aB (fun _ _=>rfl)) (aN aL rfl B.len PySem.boot_len (aj (pv 2) aA))))
      (aq (jk (bF aJ (pv 2) (pv 4) (fun _ _=>rfl)) (qw rfl (dj (bI (i:=5) bG.nd rfl (Or.inr rfl)) (dj (bI (i:=6) bG.nd rfl (Or.inl rfl)) (dj (bI (i:=7) bG.nd rfl (Or.inl rfl)) (dj (bI (i:=8) bG.nd rfl (Or.inl rfl)) jZ))))))
      (aq (dZ (bw pC (pv 8) aB (bN _))
        (aC (bx jl))
        aY)
      (aq (bU (i:=9) bG.nd rfl (Or.inl rfl) (bF aJ (fD (aj aB (aj (bD jC (pv 8) aB) (aj (bD iU aB (bD dU (bF aJ (pv 1) aB (fun _ _=>rfl)) (bD jC (pv 8) aB))) aA)))) (bD dU (bF aJ (pv 1) aB (fun _ _=>rfl)) aB) (fun _ _=>rfl)))
      (aq (bU (i:=10) bG.nd rfl (Or.inl rfl) (bD tK (j5 gw (bD dU (bF aJ (pv 1) aB (fun _ _=>rfl)) aB) (fun _ _=>rfl)) (bD iU aB (bD dU (bD j8 (bF aJ (pv 1) aB (fun _ _=>rfl)) aB) aB))))
      (fU (dZ (bw lA (bD dU (bD j8 (bF aJ (pv 1) aB (fun _ _=>rfl)) aB) aB) aB (bN _))
        (aq (aZ (fK (pv 0) R_Roll.c fW.m pY (hr.mono (by decide)) fW.b .nil Fi (aj (pv 4) (aj (bF aJ (pv 3) (pv 4) (fun _ _=>rfl)) (aj (bD lU (pv 10) (jL wX gw pA (jX (bD jC aB (aN iw rfl B.len PySem.boot_len (aj (pv 10) aA)))))) aA)))))
        (aC (jk (bD lU (pv 10) (jL wX gw pA (jX (bD jC aB (aN iw rfl B.len PySem.boot_len (aj (pv 10) aA)))))) (j4 (pv 3) (pv 4) set_list))))
        aY)
      (aq (bU (i:=11) bG.nd rfl (Or.inr rfl) (gJ (ak cL) rfl ["one","xs","lines","owners","number","day","start","back","most","piece","to","mates","k","told"] rfl ["k","number","day","lines"] [none,some 4,some 5,some 2] (by decide +kernel) (by decide +kernel) (by decide +kernel) rfl (gZ rfl B.range (aj (aN aL rfl B.len PySem.boot_len (aj (pv 2) aA)) aA)) (fun _ _ _=>(bI (i:=0) (show (["k","number","day","lines"]:List Str).Nodup by decide +kernel) rfl (Or.inl rfl))) (fun _ _ _=>(pq (PW.pt (pw_and (bw nW (pv 0) (pv 1) (bN _)) (pw_and (bw lA (bF (pJ (K:=K) rfl) (bF (mQ (K:=K) rfl) (pv 3) (pv 0) (fun _ _=>rfl)) aB (fun _ _=>rfl)) (pv 2) (bN _)) (pw_and1 (bw Fl (bF (pJ (K:=K) rfl) (bF (mQ (K:=K) rfl) (pv 3) (pv 0) (fun _ _=>rfl)) aB (fun _ _=>rfl)) aB (bN _)))))))) (fun _ _ _=>(pv 0))))
      (fU (dZ (bw (tH hu) (pv 11) (fD aA) (bN _))
        (aC (dZ (PW.pt (pw_or (eX (fQ (aX jG (hr.mono (by decide)) rfl cu.m cu.F.kp cu.b .nil bZ (aj (pv 0) (aj (pv 4) (aj (bF aJ (pv 3) (pv 4) (fun _ _=>rfl)) (aj (pv 9) (aj (pv 10) aA)))))))) (pw_or1 (eX (fQ (aX gk (hr.mono (by decide)) rfl aW.m aW.F.kp aW.b .nil bZ (aj (pv 0) (aj (pv 2) (aj (pv 3) aA)))))))))
          (aC (bx jl))
          aY))
        aY)
      (fU (dZ (PW.pt (pw_and (bw lA (bD dU (bF aJ (pv 1) aB (fun _ _=>rfl)) aB) aB (bN _)) (pw_and1 (bw (tH hu) (pv 11) (fD aA) (bN _)))))
        (aC (aZ (fK (pv 0) R_Roll.c fH.m oU (hr.mono (by decide)) fH.b .nil bZ (aj (gJ (ak cL) rfl ["one","xs","lines","owners","number","day","start","back","most","piece","to","mates","k","told"] rfl ["k","line","mates"] [none,none,some 11] (by decide +kernel) (by decide +kernel) (by decide +kernel) rfl (pB rfl B.enumerate (aj (pv 2) aA)) (fun _ _ _=>(tG (K:=K) (n:=2) rfl rfl (dj (bI (i:=0) (show (["k","line","mates"]:List Str).Nodup by decide +kernel) rfl (Or.inl rfl)) (dj (bI (i:=1) (show (["k","line","mates"]:List Str).Nodup by decide +kernel) rfl (Or.inl rfl)) jZ)))) (fun _ _ _=>iW) (fun _ _ _=>(bF (mQ (K:=K) rfl) (fD (aj (bF (pJ (K:=K) rfl) (pv 1) aB (fun _ _=>rfl)) (aj aB aA))) (gA uU rfl B.int PyProof.Rows.boot_int (aj (ig (rm (K:=K) rfl) (pv 0) (pv 2) (by rfl)) aA)) (fun _ _=>rfl)))) aA))))
        aY)
      (aq (nR PassesOwn.never rfl (jY (pv 11)) (bI (i:=12) bG.nd rfl (Or.inl rfl))
        (fU (dZ (bw lA (bD dU (bF aJ (pv 1) aB (fun _ _=>rfl)) aB) aB (bN _))
          (aC (aZ (fK (pv 0) R_Roll.c fY.m p7 (hr.mono (by decide)) fY.b .nil Fi (aj (pv 12) (aj (bF aJ (pv 3) (pv 12) (fun _ _=>rfl)) aA)))))
          aY)
        (aC (jk (gq (aj (bF jo (bF aJ (pv 2) (pv 12) (fun _ _=>rfl)) aB (fun _ _=>rfl)) (aj (bF jo (bF aJ (pv 2) (pv 12) (fun _ _=>rfl)) aB (fun _ _=>rfl)) (aj (bF jo (bF aJ (pv 2) (pv 12) (fun _ _=>rfl)) aB (fun _ _=>rfl)) (aj aB aA))))) (j4 (pv 2) (pv 12) set_list)))))
      (aq (bU (i:=13) bG.nd rfl (Or.inl rfl) (fK (pv 0) R_Roll.c cX.m jf (hr.mono (by decide)) cX.b .nil Fi (aj (pv 4) (aj (bF aJ (pv 3) (pv 4) (fun _ _=>rfl)) (aj (pv 9) (aj (pv 10) aA))))))
      (aq (dZ (PW.pt (pw_or (eX (fQ (aX iz (hr.mono (by decide)) rfl bL.m bL.F.kp bL.b .nil bZ (aj (pv 13) aA)))) (pw_or1 (bw nW (pv 13) (aN aL rfl B.len PySem.boot_len (aj (pv 2) aA)) (bN _)))))
        (aC (bx jl))
        aY)
      (aq (jk (gq (aj (pv 5) (aj (pv 6) (aj (pv 7) (aj (bD jC (pv 8) (pv 9)) aA))))) (j4 (pv 2) (pv 4) set_list))
      (aq (aZ (iR PySem.F.plainAttrs_list PySem.F.slot_list_append PySem.F.type_list_append bJ (pv 2) (aj (gq (aj (pv 5) (aj (pv 6) (aj (pv 7) (aj (pv 9) aA))))) aA)))
      (aq (aZ (iR PySem.F.plainAttrs_list PySem.F.slot_list_append PySem.F.type_list_append bJ (pv 3) (aj (pv 10) aA)))
      (aC (bx jl))))))))))))))))),?_⟩
    have n0:=Int.emod_nonneg (ys.getD 2 0) (show (ws.length:Int)≠0 by omega)
    have n1:=Int.emod_lt_of_pos (ys.getD 2 0) (show (0:Int)<(ws.length:Int) by omega)
    refine ⟨_,rfl,a,_,2,_,rfl,rfl,O.sq 6,cM (i:=2) (g 2 (by decide)),_,rfl,b,_,rfl,.inl (O.sq 8),_,_,rfl,rfl,(by show (0:Int)<(ws.length:Int);omega),?_⟩
    dsimp only
    obtain ⟨n,hn⟩:∃ n:Nat,ys.getD 2 0 % (ws.length:Int)=(n:Int):=⟨(ys.getD 2 0 % (ws.length:Int)).toNat,by omega⟩
    rw [hn] at n0 n1 ⊢
    clear hn
    obtain ⟨l,hl⟩:∃ l,ls[n]?=some l:=⟨_,List.getElem?_eq_getElem (by omega)⟩
    obtain ⟨x,hx⟩:∃ x,ns[n]?=some x:=⟨_,List.getElem?_eq_getElem (by omega)⟩
    obtain ⟨al,hal,hT⟩:=d1.kj hl
    have hlb:=hbd l (List.mem_of_getElem? hl)
    refine ⟨_,rfl,_,rfl,b,_,_,_,rfl,rfl,O.sq 8,dh hal,al,_,rfl,hT.mo O.same,rfl,_,_,rfl,_,_,rfl,_,_,rfl,_,_,rfl,rfl,?_⟩
    refine ⟨_,rfl,_,_,rfl,rfl,_,rfl,ifD (fun _=>?_) (fun h2=>?_)⟩
    · exact q H0 H us ws ns ds ls (aV.refl O.same.t0) O d0 d1 (Nat.le_refl _) (by omega) nn hnm hbd (by omega)
    have k0:=Int.emod_nonneg (ys.getD 1 0) (show (3:Int)≠0 by decide)
    have k1:=Int.emod_lt_of_pos (ys.getD 1 0) (show (0:Int)<3 by decide)
    have u0:=Int.emod_nonneg (ys.getD 3 0) (show l.most - 1≠0 by omega)
    have u1:=Int.emod_lt_of_pos (ys.getD 3 0) (show (0:Int)<l.most - 1 by omega)
    refine ⟨_,rfl,_,_,rfl,rfl,_,rfl,a,_,3,_,rfl,rfl,O.sq 6,cM (i:=3) (g 3 (by decide)),_,rfl,_,_,rfl,rfl,_,_,rfl,rfl,(by show (0:Int)<l.most - 1;omega),_,_,rfl,rfl,szl,fun lm hlm=>?_⟩
    walk_at "nw"
    refine ⟨_,rfl,a,_,1,_,rfl,rfl,O.sq 7,cM (i:=1) (g 1 (by decide)),_,_,rfl,rfl,(by show (0:Int)<3;decide),?_⟩
    dsimp only at O ⊢
    refine ⟨lm,_,_,_,rfl,rfl,O.sq 0,fB (ns:=[1,l.most - 1,1 + ys.getD 3 0 % (l.most - 1)]) k0 k1,?_⟩
    have hm:1≤[1,l.most - 1,1 + ys.getD 3 0 % (l.most - 1)].getD (ys.getD 1 0 % 3).toNat 0∧[1,l.most - 1,1 + ys.getD 3 0 % (l.most - 1)].getD (ys.getD 1 0 % 3).toNat 0<l.most:=by
      have hin:=getD_in (ns:=[1,l.most - 1,1 + ys.getD 3 0 % (l.most - 1)]) (j:=(ys.getD 1 0 % 3).toNat) (by show _<3;omega)
      simp only [List.mem_cons,List.not_mem_nil,or_false] at hin
      rcases hin with e | e | e <;> rw [e] <;> omega
    generalize [1,l.most - 1,1 + ys.getD 3 0 % (l.most - 1)].getD (ys.getD 1 0 % 3).toNat 0=m at hm
    clear k0 k1 u0 u1
    have O:=O.tail
    have p0:=Int.emod_nonneg (ys.getD 4 0) (show (4:Int)≠0 by decide)
    have p1:=Int.emod_lt_of_pos (ys.getD 4 0) (show (0:Int)<4 by decide)
    have r0:=Int.emod_nonneg (ys.getD 4 0 / 4) (show (8:Int)≠0 by decide)
    have r1:=Int.emod_lt_of_pos (ys.getD 4 0 / 4) (show (0:Int)<8 by decide)
    refine ⟨_,rfl,a,_,4,_,rfl,rfl,O.sq 6,cM (i:=4) (g 4 (by decide)),_,_,rfl,rfl,(by show (0:Int)<4;decide),_,_,_,rfl,rfl,p0,(by show ys.getD 4 0 % 4<2 ^ 63;omega),p1,FZ p0 p1,?_⟩
    refine ⟨_,rfl,a,_,4,_,rfl,rfl,O.sq 6,cM (i:=4) (g 4 (by decide)),_,_,rfl,rfl,⟨by decide,by decide⟩,_,_,rfl,rfl,(by show (0:Int)<8;decide),_,_,rfl,rfl,_,_,rfl,rfl,by omega,by omega,(by show 1≤64;decide),?_⟩
    have nz:=wY (c:=97 + (ys.getD 4 0 % 4).toNat) (by omega) (by omega) (n:=1 + ys.getD 4 0 / 4 % 8) (by omega) (by omega)
    dsimp only
    generalize Txt.mul (⟨#[97 + (ys.getD 4 0 % 4).toNat]⟩:Str) (1 + ys.getD 4 0 / 4 % 8)=z at nz
    clear p0 p1 r0 r1
    have zl:z.length≤8:=nz.2.1
    have zs:=Gn nz
    refine ⟨fun σ H'=>Iv (∃ (Hb:Hp) (x:Str) (ns ds':List _),σ=[some (.ref A.p),some (.ref a),some (.ref b),some (.ref c),some (.int (n:Int)),some (.int l.day),some (.int l.start),some (.int l.back),some (.int l.most),some (.int m),some (.str z),none,none,none]∧ns[n]?=some x∧ns.length=ls.length∧(∀ x∈ns,dW x)∧ds'.length≤ds.length + 1 ∧
        Ow T Hb H' (RL C A r day us ns ds'++(a,.lst (ys.map V.int)) :: (c,.lst (ns.map V.str)) :: (b,.lst ws) :: L)∧aV T H0 Hb),?_,?_⟩
    · refine ⟨_,rfl,a,_,5,_,rfl,rfl,O.sq 6,cM (i:=5) (g 5 (by decide)),_,_,rfl,rfl,⟨by decide,by decide⟩,_,_,rfl,rfl,(by show (0:Int)<3;decide),rfl,_,rfl,ifI (fun _=>?_) (fun _=>⟨trivial,H0,x,ns,ds,rfl,hx,nn,hnm,by omega,O,aV.refl O.same.t0⟩)⟩
      refine ⟨_,rfl,A.p,A.dx,_,rfl,O.get 0,rfl,_,rfl,_,rfl,_,rfl,c,_,_,_,rfl,rfl,O.sq 7,dh (jM hx),_,rfl,?_⟩
      have zz:z.length + (Txt.slice ("z":Str) none (some (8 - (z.length:Int)))).length≤sizeLine:=by
        have:=Txt.slice_le ("z":Str) none (some (8 - (z.length:Int)))
        have h1:("z":Str).length=1:=rfl
        rw [sizeLine_eq];omega
      refine ⟨_,rfl,z,rfl,(by rw [sizeLine_eq];omega),_,_,rfl,rfl,_,rfl,_,rfl,(by decide),_,_,rfl,rfl,zz,?_⟩
      refine ⟨A,H0,_,r,day,us,ns,ds,n,x,x,_,rfl,O,by omega,hx,zs,by omega,fun _ t2 H8 O=>?_,fun h=>absurd rfl h⟩
      obtain ⟨Hn2,O,sn,en⟩:=O.jc 0
      refine ⟨_,rfl,_,rfl,z,rfl,(by rw [sizeLine_eq];omega),_,_,rfl,rfl,_,rfl,_,rfl,(by decide),_,_,rfl,rfl,zz,?_⟩
      generalize z++Txt.slice ("z":Str) none (some (8 - (z.length:Int)))=zz' at zs O
      refine ⟨_,rfl,_,rfl,?_⟩
      refine j7 O 7 rfl (iZ (by rw [List.length_map];omega)) fun H9 O=>?_
      refine ⟨trivial,Hn2,zz',ns.set n zz',ds++[.ref t2],rfl,List.getElem?_set_self (by omega),by rw [List.length_set];exact nn,?_,by rw [List.length_append];simp,by rw [List.map_set];exact O,sn⟩
      intro y hy
      rcases List.mem_or_eq_of_mem_set hy with h | h
      · exact hnm y h
      · rw [h];exact zs
    clear O hx hnm nn x
    rintro σ H1 ⟨-,Hb,x,ns,ds1,rfl,hx,nn,hnm,dl1,O,s0⟩
    have d0:=d0.mo s0
    have d1:=d1.mo s0
    refine ⟨_,rfl,b,_,rfl,.inl (O.sq 8),ws.length,rfl,by omega,by omega,fun lt hlt=>?_⟩
    refine iK (fun i τ H'=>Iv (∃ (v0:Option V),τ=[v0,some (.int (n:Int)),some (.int l.day),some (.ref b)]∧Ow T Hb H' ((lt,.lst ((fZ ls n l.day i).map V.int)) :: (RL C A r day us ns ds1++(a,.lst (ys.map V.int)) :: (c,.lst (ns.map V.str)) :: (b,.lst ws) :: L)))) ⟨trivial,none,rfl,O.mk' hlt rfl⟩ ?_ ?_
    · rintro i τ H4 hi ⟨-,v0,rfl,O⟩
      have hi:i<ws.length:=by omega
      rw [Int.zero_add]
      obtain ⟨l2,hl2⟩:∃ l,ls[i]?=some l:=⟨_,List.getElem?_eq_getElem (by omega)⟩
      obtain ⟨al2,hal2,hT2⟩:=d1.kj hl2
      have hT2:=hT2.mo O.same
      have ht:=j9 ls n l.day i
      have no:¬ ((i:Int)≠n∧l2.day=l.day∧0<l2.most)→fZ ls n l.day (i + 1)=fZ ls n l.day i:=fun h=>by
        rw [fZ,hl2];simp only [if_neg h,List.append_nil]
      refine ⟨_,rfl,_,rfl,rfl,_,rfl,ifN (ifI (fun e=>?_) (fun e=>?_))⟩
      · refine ⟨trivial,_,rfl,?_⟩
        rw [no fun z=>z.1 e];exact O
      refine ⟨_,rfl,_,rfl,b,_,_,_,rfl,rfl,O.sq 9,dh hal2,al2,_,0,_,rfl,rfl,hT2,rfl,_,rfl,rfl,_,rfl,ifI (fun e2=>?_) (fun e2=>?_)⟩
      rotate_left
      · refine ⟨trivial,_,rfl,?_⟩
        rw [no fun z=>e2 z.2.1];exact O
      refine ⟨_,rfl,_,rfl,b,_,_,_,rfl,rfl,O.sq 9,dh hal2,al2,_,3,_,rfl,rfl,hT2,rfl,_,_,rfl,rfl,_,rfl,ifD (fun e3=>?_) (fun e3=>?_)⟩
      rotate_left
      · refine ⟨trivial,_,rfl,?_⟩
        rw [no fun z=>e3 z.2.2];exact O
      refine ⟨_,rfl,_,O.get 0,aH (by rw [List.length_map];omega),?_⟩
      walk_at "pt"
      refine ⟨trivial,_,rfl,?_⟩
      rw [fZ,hl2]
      simp only [if_pos (⟨e,e2,e3⟩:(i:Int)≠n∧l2.day=l.day∧0<l2.most)]
      rw [List.map_append];exact O
    clear O
    rintro τ H4 ⟨-,v0,rfl,O⟩
    rw [show ((ws.length:Int)).toNat=ls.length by omega] at O
    have hmm:∀ k∈fZ ls n l.day ls.length,∃ j:Nat,j<ls.length∧k=(j:Int)∧(j:Int)≠n:=fun k hk=>by
      obtain ⟨j,h1,h2,h3,_⟩:=(gB _).mp hk
      exact ⟨j,h1,h2,h3⟩
    have hma:fZ ls n l.day ls.length≠[]→eF ls l.day ls.length≠[(n:Int)]:=ud
    have hzn:=p8 hl
    have hza:=u9 hl (by omega)
    have hml:=j9 ls n l.day ls.length
    generalize fZ ls n l.day ls.length=ms at O hmm hma hzn hza hml
    have O:Ow T Hb H4 (RL C A r day us ns ds1++(lt,.lst (ms.map V.int)) :: (a,.lst (ys.map V.int)) :: (c,.lst (ns.map V.str)) :: (b,.lst ws) :: L):=Ow.mid (R:=RL C A r day us ns ds1) O
    refine ⟨fun σ H'=>Iv (σ=[some (.ref A.p),some (.ref a),some (.ref b),some (.ref c),some (.int (n:Int)),some (.int l.day),some (.int l.start),some (.int l.back),some (.int l.most),some (.int m),some (.str z),some (.ref lt),none,none] ∧
        Ow T Hb H' (RL C A r day us ns ds1++(lt,.lst (ms.map V.int)) :: (a,.lst (ys.map V.int)) :: (c,.lst (ns.map V.str)) :: (b,.lst ws) :: L)),?_,?_⟩
    · refine ⟨_,rfl,szl,fun le hle=>?_⟩
      walk_at "nw"
      refine ⟨lt,le,ms,[],rfl,rfl,O.sq 7,O.sq 0,_,rfl,ifN (ifD (fun _=>⟨trivial,rfl,O.tail⟩) (fun hne=>?_))⟩
      have O:=O.tail
      refine ⟨_,rfl,_,rfl,_,rfl,_,rfl,c,_,_,_,rfl,rfl,O.sq 8,dh (jM hx),_,rfl,_,rfl,A,Hb,_,r,day,us,ns,ds1,ls,n,l,x,m,z,rfl,O,d0,hl,hx,by omega,nz,l60,by omega,hm.1,hm.2,hma hne,fun H5 s5=>?_⟩
      have O:=O.kY s5
      refine ⟨_,rfl,lB ?_⟩
      refine ⟨_,rfl,_,rfl,_,rfl,A,day,us,ws,ns,ls,b,c,rfl,O.get 0,O.sq 3,O.sq 4,O.sq 9,O.sq 8,d0.mo O.same,d1.mo O.same,hnm,O.same.t1,fun H6 s6=>?_⟩
      exact ⟨_,rfl,lB ⟨trivial,rfl,O.kY s6⟩⟩
    clear O
    rintro σ H5 ⟨-,rfl,O⟩
    have hwz:zf ls ([]:List Int)=ls:=Gm ls
    refine ⟨fun σ H'=>Iv (∃ (Hb:Hp) (us2 ds2:List V),σ=[some (.ref A.p),some (.ref a),some (.ref b),some (.ref c),some (.int (n:Int)),some (.int l.day),some (.int l.start),some (.int l.back),some (.int l.most),some (.int m),some (.str z),some (.ref lt),none,none] ∧
        Ow T Hb H' (RL C A r day us2 ns ds2++(lt,.lst (ms.map V.int)) :: (a,.lst (ys.map V.int)) :: (c,.lst (ns.map V.str)) :: (b,.lst ws) :: L)∧aV T H0 Hb∧bY K Hb us2 ((zf ls (if ys.getD 5 0 % 2=0 then ms else [])).map gn)∧bY K Hb ws (ls.map gn)∧ds2.length≤ds.length + 2),?_,?_⟩
    · refine ⟨_,rfl,a,_,5,_,rfl,rfl,O.sq 7,cM (i:=5) (g 5 (by decide)),_,_,rfl,rfl,(by show (0:Int)<2;decide),rfl,_,rfl,ifI (fun hp=>?_) (fun hp=>?_)⟩
      rotate_left
      · exact ⟨trivial,Hb,us,ds1,rfl,O,s0,by rw [if_neg hp,hwz];exact d0,d1,by omega⟩
      refine ⟨_,rfl,szl,fun le hle=>?_⟩
      walk_at "nw"
      refine ⟨lt,le,ms,[],rfl,rfl,O.sq 7,O.sq 0,_,rfl,ifN (ifD (fun he=>?_) (fun hne=>?_))⟩
      · exact ⟨trivial,Hb,us,ds1,rfl,O.tail,s0,by rw [he,ite_self,hwz];exact d0,d1,by omega⟩
      have O:=O.tail
      refine ⟨_,rfl,A.p,A.dx,_,rfl,O.get 0,rfl,_,rfl,b,_,rfl,O.sq 9,fun la hla=>?_⟩
      refine oG (K:=K) (xs:=ws) (fun i τ H'=>Iv (∃ (v0 v1:Option V),τ=[v0,v1,some (.ref lt)]∧Ow T Hb H' ((la,.lst ((lz (ls.take i) ms).map V.int)) :: (RL C A r day us ns ds1++(lt,.lst (ms.map V.int)) :: (a,.lst (ys.map V.int)) :: (c,.lst (ns.map V.str)) :: (b,.lst ws) :: L))))
        ⟨trivial,none,none,rfl,O.mk' hla rfl⟩ (fun i τ H' _ ⟨_,_,_,_,O⟩=>O.sq 10) ?_ ?_
      · rintro i y T0 τ H6 hy ⟨-,v0,v1,rfl,O⟩ hT0
        obtain ⟨al2,l2,rfl,hl2,hT2⟩:=d1.uh hy
        have hi:=(List.getElem?_eq_some_iff.mp hl2).1
        have hgl:(lz (ls.take i) ms).length≤i:=by rw [xq,List.length_take];omega
        walk_at "nw"
        refine ⟨T0,_,rfl,O.sqT 0,rfl,_,_,rfl,_,_,rfl,rfl,?_⟩
        have O:=O.tail
        have hT2:=hT2.mo O.same
        refine Qe ?_
        refine ⟨_,rfl,al2,_,3,_,rfl,rfl,hT2,rfl,szl,fun lq hlq=>?_⟩
        walk_at "nw"
        refine ⟨_,rfl,_,rfl,lt,_,rfl,.inl (O.sq 8),rfl,oE _,?_⟩
        rw [if_neg Bool.false_ne_true,uD]
        refine .inr ⟨_,rfl,?_⟩
        have fin:∀ H7,Ow T Hb H7 ((la,.lst ((lz (ls.take i) ms++[if (i:Int)∈ms then 0 else l2.most]).map V.int)) :: (RL C A r day us ns ds1++(lt,.lst (ms.map V.int)) :: (a,.lst (ys.map V.int)) :: (c,.lst (ns.map V.str)) :: (b,.lst ws) :: L))→Ow T Hb H7 ((la,.lst ((lz (ls.take (i + 1)) ms).map V.int)) :: (RL C A r day us ns ds1++(lt,.lst (ms.map V.int)) :: (a,.lst (ys.map V.int)) :: (c,.lst (ns.map V.str)) :: (b,.lst ws) :: L)):=fun H7 O=>by rw [Fv hl2];exact O
        by_cases hin:(i:Int)∈ms
        · rw [decide_eq_true hin]
          refine ⟨lq,_,1,_,rfl,rfl,O.sq 0,rfl,?_⟩
          have O:=O.tail
          refine ⟨_,O.get 0,aH (by rw [List.length_map];omega),?_⟩
          walk_at "pt"
          refine ⟨trivial,_,_,rfl,fin _ ?_⟩
          rw [if_pos hin,List.map_append];exact O
        · rw [decide_eq_false hin]
          refine ⟨lq,_,0,_,rfl,rfl,O.sq 0,rfl,?_⟩
          have O:=O.tail
          refine ⟨_,O.get 0,aH (by rw [List.length_map];omega),?_⟩
          walk_at "pt"
          refine ⟨trivial,_,_,rfl,fin _ ?_⟩
          rw [if_neg hin,List.map_append];exact O
      clear O
      rintro τ H6 ⟨-,v0,v1,rfl,O⟩
      rw [List.take_of_length_le (by omega)] at O
      have O:Ow T Hb H6 (RL C A r day us ns ds1++(la,.lst ((lz ls ms).map V.int)) :: (lt,.lst (ms.map V.int)) :: (a,.lst (ys.map V.int)) :: (c,.lst (ns.map V.str)) :: (b,.lst ws) :: L):=Ow.mid (R:=RL C A r day us ns ds1) O
      refine ⟨A,Hb,_,r,day,us,ns,ds1,ls,la,lz ls ms,rfl,O,List.mem_cons_self,d0,(xq ls ms).symm,Nr hbd,by omega,by omega,fun Hc H7 fl t tt us2 fs sc O d5 d6=>?_⟩
      have O:Ow T Hc H7 (RL C A r day us2 ns (ds1++[.ref t])++(lt,.lst (ms.map V.int)) :: (a,.lst (ys.map V.int)) :: (c,.lst (ns.map V.str)) :: (b,.lst ws) :: L):=O.tail.tail.tail.del 6
      rw [Hg fun l hl=>(hbd l hl).1] at d5
      exact ⟨trivial,Hc,us2,ds1++[.ref t],rfl,O,s0.trans sc,by rw [if_pos hp];exact d5,d1.mo sc,by rw [List.length_append];simp;omega⟩
    clear O d0 d1 s0 dl1
    rintro σ H6 ⟨-,Hb,us2,ds2,rfl,O,s0,d0,d1,dl2⟩
    refine ⟨_,rfl,lt,rfl,⟨_,O.sq 6⟩,?_⟩
    refine mV (K:=K) (xs:=ms.map V.int) (fun i σ H'=>Iv (∃ (Hb:Hp) (us2 ws2 ds2:List V) (v12:Option V),σ=[some (.ref A.p),some (.ref a),some (.ref b),some (.ref c),some (.int (n:Int)),some (.int l.day),some (.int l.start),some (.int l.back),some (.int l.most),some (.int m),some (.str z),some (.ref lt),v12,none] ∧
        Ow T Hb H' (RL C A r day us2 ns ds2++(lt,.lst (ms.map V.int)) :: (a,.lst (ys.map V.int)) :: (c,.lst (ns.map V.str)) :: (b,.lst ws2) :: L)∧aV T H0 Hb∧bY K Hb us2 ((zf ls (if ys.getD 5 0 % 2=0 then ms else ms.take i)).map gn)∧bY K Hb ws2 ((zf ls (ms.take i)).map gn)∧ds2.length≤ds.length + 2 + i))
      ⟨trivial,Hb,us2,ws,ds2,none,rfl,O,s0,d0,by rw [List.take_zero,hwz];exact d1,dl2⟩ (fun i σ H' _ ⟨_,_,_,_,_,_,_,O,_⟩=>O.sq 6) ?_ ?_
    · clear O d0 d1 s0 dl2 us2 ds2
      rintro i y σ H7 hy ⟨-,Hb,us2,ws2,ds2,v12,rfl,O,s0,d0,d1,dl2⟩
      obtain ⟨k,hk,rfl⟩:=ints_get hy
      have hi:=(List.getElem?_eq_some_iff.mp hk).1
      obtain ⟨j,hj,rfl,hjn⟩:=hmm k (List.mem_of_getElem? hk)
      have htk:=Tn.jh hk
      obtain ⟨xj,hxj⟩:∃ x,ns[j]?=some x:=⟨_,List.getElem?_eq_getElem (by omega)⟩
      have hul2:us2.length=ls.length:=by rw [d0.length,List.length_map,lF]
      have hwl2:ws2.length=ls.length:=by rw [d1.length,List.length_map,lF]
      refine ⟨fun σ H'=>Iv (∃ (Hb:Hp) (us2 ds2:List V),σ=[some (.ref A.p),some (.ref a),some (.ref b),some (.ref c),some (.int (n:Int)),some (.int l.day),some (.int l.start),some (.int l.back),some (.int l.most),some (.int m),some (.str z),some (.ref lt),some (.int (j:Int)),none] ∧
        Ow T Hb H' (RL C A r day us2 ns ds2++(lt,.lst (ms.map V.int)) :: (a,.lst (ys.map V.int)) :: (c,.lst (ns.map V.str)) :: (b,.lst ws2) :: L)∧aV T H0 Hb∧bY K Hb us2 ((zf ls (if ys.getD 5 0 % 2=0 then ms else ms.take (i + 1))).map gn)∧bY K Hb ws2 ((zf ls (ms.take i)).map gn)∧ds2.length≤ds.length + 2 + (i + 1)),?_,?_⟩
      · refine ⟨_,rfl,a,_,5,_,rfl,rfl,O.sq 7,cM (i:=5) (g 5 (by decide)),_,_,rfl,rfl,(by show (0:Int)<2;decide),rfl,_,rfl,ifI (fun hp=>?_) (fun hp=>?_)⟩
        rotate_left
        · have hp0:ys.getD 5 0 % 2=0:=by have:=Int.emod_two_eq (ys.getD 5 0);omega
          rw [if_pos hp0] at d0
          exact ⟨trivial,Hb,us2,ds2,rfl,O,s0,by rw [if_pos hp0];exact d0,d1,by omega⟩
        have hp0:¬ ys.getD 5 0 % 2=0:=by omega
        rw [if_neg hp0] at d0
        obtain ⟨l3,hl3⟩:∃ l,(zf ls (ms.take i))[j]?=some l:=⟨_,List.getElem?_eq_getElem (by rw [lF];omega)⟩
        refine ⟨_,rfl,A.p,A.dx,_,rfl,O.get 0,rfl,_,rfl,_,rfl,_,rfl,c,_,_,_,rfl,rfl,O.sq 8,dh (jM hxj),?_⟩
        refine ⟨A,Hb,_,r,day,us2,ns,ds2,zf ls (ms.take i),j,l3,xj,xj,rfl,O,d0,hl3,hxj,by omega,fun _ t1 t2 H8 O=>?_,fun h=>absurd rfl h⟩
        have O:=O.tail
        obtain ⟨Hn,O,sn,en⟩:=O.jc 0
        refine ⟨trivial,Hn,us2.set j (V.ref t1),ds2++[V.ref t2],rfl,O,s0.trans sn,?_,d1.mo sn,by rw [List.length_append];simp;omega⟩
        rw [if_neg hp0,htk,rG hl3,List.map_set]
        exact (d0.mo sn).set (Den.lic (l:=wm l3 0) (SqT.of en)) j
      clear O d0 d1 s0 dl2 hul2 us2 ds2
      rintro σ H8 ⟨-,Hb,us2,ds2,rfl,O,s0,d0,d1,dl2⟩
      obtain ⟨l3,hl3⟩:∃ l,(zf ls (ms.take i))[j]?=some l:=⟨_,List.getElem?_eq_getElem (by rw [lF];omega)⟩
      obtain ⟨al3,hal3,hT3⟩:=d1.kj hl3
      have hT3:=hT3.mo O.same
      refine ⟨_,rfl,_,rfl,b,_,_,_,rfl,rfl,O.sq 9,dh hal3,al3,_,0,_,rfl,rfl,hT3,rfl,_,rfl,_,rfl,b,_,_,_,rfl,rfl,O.sq 9,dh hal3,al3,_,1,_,rfl,rfl,hT3,rfl,_,rfl,_,rfl,b,_,_,_,rfl,rfl,O.sq 9,dh hal3,al3,_,2,_,rfl,rfl,hT3,rfl,szl,fun t ht=>?_⟩
      walk_at "nw"
      refine ⟨_,rfl,_,rfl,?_⟩
      refine j7 O 10 rfl (iZ (by omega)) fun H9 O=>?_
      obtain ⟨Hn,O,sn,en⟩:=O.jc 0
      refine ⟨trivial,Hn,us2,ws2.set j (.ref t),ds2,_,rfl,O,s0.trans sn,d0.mo sn,?_,by omega⟩
      rw [htk,rG hl3,List.map_set]
      exact (d1.mo sn).set (Den.lic (l:=wm l3 0) (SqT.of en)) j
    clear O d0 d1 s0 dl2 us2 ds2
    rintro σ H7 ⟨-,Hb,us2,ws2,ds2,v12,rfl,O,s0,d0,d1,dl2⟩
    rw [List.length_map] at d0 d1 dl2
    rw [List.take_of_length_le (Nat.le_refl _)] at d0 d1
    rw [ite_self] at d0
    have hzl:=lF ls ms
    have hzb:=MK (ms:=ms) hbd
    generalize zf ls ms=zs at d0 d1 hzn hza hzl hzb
    have hul2:us2.length=zs.length:=by rw [d0.length,List.length_map]
    have hwl2:ws2.length=zs.length:=by rw [d1.length,List.length_map]
    refine ⟨_,rfl,A.p,A.dx,_,rfl,O.get 0,rfl,_,rfl,_,rfl,_,rfl,c,_,_,_,rfl,rfl,O.sq 8,dh (jM hx),_,rfl,_,rfl,?_⟩
    refine ⟨A,Hb,_,r,day,us2,ns,ds2,zs,n,l,x,x,m,z,rfl,O,d0,hzn,hx,by omega,nz,by omega,by omega,fun h=>absurd rfl h,fun _ h=>absurd ⟨hm.1,hm.2⟩ h,fun _ _ _ h=>absurd hza h,fun _ _ _ _ t1 t2 t3 H8 O=>?_⟩
    obtain ⟨Hn1,O,sn1,en1⟩:=O.jc 0
    have O:=O.tail
    obtain ⟨Hn2,O,sn2,en2⟩:=O.jc 0
    refine ⟨_,rfl,_,rfl,_,rfl,lB ?_⟩
    refine ⟨_,rfl,_,rfl,b,_,rfl,.inl (O.sq 9),rfl,_,rfl,ifN (ifI (fun _=>?_) fun hc=>absurd (by omega) hc)⟩
    refine ⟨_,rfl,_,rfl,_,rfl,_,rfl,_,rfl,_,_,rfl,rfl,szl,fun t4 ht4=>?_⟩
    walk_at "nw"
    refine ⟨_,rfl,_,rfl,?_⟩
    refine j7 O 10 rfl (iZ (by omega)) fun H9 O=>?_
    obtain ⟨Hn3,O,sn3,en3⟩:=O.jc 0
    refine ⟨_,rfl,.inl ⟨rfl,_,O.sq 9⟩,_,rfl,_,rfl,_,rfl,_,rfl,szl,fun t5 ht5=>?_⟩
    walk_at "nw"
    refine ⟨b,_,_,rfl,rfl,O.get 10,aH (by rw [List.length_set];omega),?_⟩
    generalize hE:upd _ _ _=Hm
    have O:=Ow.jK O 10 rfl hE rfl
    clear hE
    obtain ⟨Hn4,O,sn4,en4⟩:=O.jc 0
    refine ⟨_,rfl,.inl ⟨rfl,_,O.sq 8⟩,_,rfl,c,_,_,rfl,rfl,O.get 8,aH (by rw [List.length_map];omega),?_⟩
    generalize hE:upd _ _ _=Hm2
    have O:=Ow.jK O 8 rfl hE rfl
    clear hE
    have sA:=sn1.trans (sn2.trans (sn3.trans sn4))
    refine q Hn4 Hm2 (us2.set n (.ref t1)++[.ref t3]) (ws2.set n (.ref t4)++[.ref t5]) (ns++[z]) (ds2++[.ref t2]) (zs.set n (wm l (l.most - m))++[wm l m]) (s0.trans sA) ?_ ?_ ?_ ?_ ?_ ?_ ?_ ?_ ?_
    · rw [show (ns++[z]).map V.str=ns.map V.str++[V.str z] by rw [List.map_append];rfl]
      exact O.del 6
    · rw [List.map_append,List.map_set]
      exact ((d0.mo sA).set (Den.lic (l:=wm l (l.most - m)) (SqT.of ((sn3.trans sn4).keep _ _ en2 (fun _ z=>nomatch z)))) n).append (.cons (Den.lic (l:=wm l m) (SqT.of ((sn2.trans (sn3.trans sn4)).keep _ _ en1 (fun _ z=>nomatch z)))) .nil)
    · rw [List.map_append,List.map_set]
      exact ((d1.mo sA).set (Den.lic (l:=wm l (l.most - m)) (SqT.of (sn4.keep _ _ en3 (fun _ z=>nomatch z)))) n).append (.cons (Den.lic (l:=wm l m) (SqT.of en4)) .nil)
    · rw [List.length_append,List.length_set];omega
    · rw [List.length_append,List.length_set];simp;omega
    · rw [List.length_append,List.length_append,List.length_set];simp;omega
    · intro y hy
      rcases List.mem_append.mp hy with h | h
      · exact hnm y h
      · rw [List.mem_singleton.mp h];exact nz
    · intro y hy
      rcases List.mem_append.mp hy with h | h
      · rcases List.mem_or_eq_of_mem_set h with h | h
        · exact hzb y h
        · rw [h];exact ⟨by show 0≤l.most - m;omega,by show l.most - m≤_;omega⟩
      · rw [List.mem_singleton.mp h];exact ⟨by show 0≤m;omega,by show m≤_;omega⟩
    · rw [List.length_append];simp;omega
end
theorem wC (ls:List Lic):PyData.eqv (.list (ls.map gn)) (.list [])=decide (ls=[]):=by
  cases ls with
  | nil=>rfl
  | cons m ms=>rfl
abbrev jV:Stmt:=top 43
theorem gW:aO ["script","many","one","lines","owners","held","kept","day","cell","xs"] ["script"] (ak jV):=⟨rfl,rfl,rfl,by decide +kernel,rfl,by decide +kernel,by decide +kernel⟩
def ql (K:PySem.W.Frag):Sp:=fun vs H Q _=>∃ (a:Addr) (ns:List Int),vs=[.ref a]∧SqL K H a (ns.map V.int)∧ns.length≤63∧∀ H',Q (.bl true) H'
section
variable {P:Program} {w:World} {K:PySem.W.Frag} {mg:Str→Option Value} {base:Heap} {T:eU} {C f0:Addr}
theorem G4 {f f1 f2 f3 f4 f5 f6 f7:Addr} {fd fd1 fd2 fd3 fd4 fd5 fd6 fd7:FuncData} (hT0:T=[]) (D:Df K mg "law" jV ["script"] f fd) (B:Blt mg) (R_Roll:Cl K mg "Roll" C f1 fM)
    (dg:Df K mg "_law_cell_at" bR ["script","k"] f2 fd2) (lD:bW P w K mg base CX0 1 f2 fd2 ["script","k"] (su K))
    (eO:Dm K C "__init__" "Roll.__init__" bH ["self","below"] f1 fd1) (lu:bW P w K mg base CX0 3 f1 fd1 ["self","below"] (rW T C))
    (eE:Df K mg "_law_draws" cF ["cell","many"] f3 fd3) (oR:bW P w K mg base CX0 2 f3 fd3 ["cell","many"] (wU T))
    (fj:Df K mg "_law_file" dB ["one","xs","many","lines","owners","day"] f4 fd4) (pU:bW P w K mg base CX0 4 f4 fd4 ["one","xs","many","lines","owners","day"] (qj K T C))
    (eZ:Df K mg "_law_part" cL ["one","xs","lines","owners"] f5 fd5) (pR:bW P w K mg base CX0 5 f5 fd5 ["one","xs","lines","owners"] (qg K T C))
    (aW:Df K mg "_law_right" cD ["one","lines","owners"] f6 fd6) (gk:bW P w K mg base CX0 3 f6 fd6 ["one","lines","owners"] (mq K T C))
    (cW:Dm K C "roll" "Roll.roll" cQ ["self"] f7 fd7) (je:bW P w K mg base CX0 1 f7 fd7 ["self"] (jQ K C "licences")):bW P w K mg base CX0 6 f fd ["script"] (ql K):=by
  refine D.F.ok gW (fun vs H Q E h=>?_) (fun cdv A outer s H vs Q E hr h=>?_)
  · obtain ⟨_,_,rfl,_⟩:=h;rfl
  · obtain ⟨a,ns0,rfl,hS,hlen,k⟩:=h
    have tk:TabsOk T H:=hT0 ▸ TabsOk.nil H
    have hu:=hr.units
    have O:=Ow.refl tk
    refine ⟨_,(aq (bU (i:=1) gW.nd rfl (Or.inl rfl) (bD iU aB (bD dU (aX lD (hr.mono (by decide)) rfl dg.m dg.F.kp dg.b .nil bZ (aj (pv 0) (aj aB aA))) aB)))
      (aq (bU (i:=2) gW.nd rfl (Or.inl rfl) (Fg R_Roll.k lu (hr.mono (by decide)) rfl R_Roll.m eO.b .nil bZ (aj (gJ (ak jV) rfl ["script","many","one","lines","owners","held","kept","day","cell","xs"] rfl ["k"] [none] (by decide +kernel) (by decide +kernel) (by decide +kernel) rfl (gZ rfl B.range (aj (pv 1) aA)) (fun _ _ _=>(bI (i:=0) (show (["k"]:List Str).Nodup by decide +kernel) rfl (Or.inl rfl))) (fun _ _ _=>iW) (fun _ _ _=>(bD jC (pv 0) aB))) aA)))
      (aq (bU (i:=3) gW.nd rfl (Or.inl rfl) (fD aA))
      (aq (bU (i:=4) gW.nd rfl (Or.inl rfl) (fD aA))
      (aq (bU (i:=5) gW.nd rfl (Or.inl rfl) (fD aA))
      (aq (bU (i:=6) gW.nd rfl (Or.inl rfl) (fD aA))
      (aq (bU (i:=7) gW.nd rfl (Or.inl rfl) aB)
      (aq (nR PassesOwn.never rfl (jY (jL sE (pv 0) (jX aB) (jX aB))) (bI (i:=8) gW.nd rfl (Or.inl rfl))
        (aq (bU (i:=9) gW.nd rfl (Or.inl rfl) (aX oR (hr.mono (by decide)) rfl eE.m eE.F.kp eE.b .nil bZ (aj (pv 8) (aj aB aA))))
        (fU (dZ (PW.pt (pw_or (bw (nZ hu) (pv 3) (fD aA) (bN _)) (pw_or1 (bw lA (bD dU (bF aJ (pv 9) aB (fun _ _=>rfl)) aB) aB (bN _)))))
          (aC (bU (i:=7) gW.nd rfl (Or.inl rfl) (aX pU (hr.mono (by decide)) rfl fj.m fj.F.kp fj.b .nil bZ (aj (pv 2) (aj (pv 9) (aj (pv 1) (aj (pv 3) (aj (pv 4) (aj (pv 7) aA)))))))))
          (aC (dZ (eX (fQ (aX pR (hr.mono (by decide)) rfl eZ.m eZ.F.kp eZ.b .nil bZ (aj (pv 2) (aj (pv 9) (aj (pv 3) (aj (pv 4) aA)))))))
            (aC (bx jl))
            aY)))
        (aq (dZ (eX (fQ (aX gk (hr.mono (by decide)) rfl aW.m aW.F.kp aW.b .nil bZ (aj (pv 2) (aj (pv 3) (aj (pv 4) aA))))))
          (aC (bx jl))
          aY)
        (aq (aZ (iR PySem.F.plainAttrs_list PySem.F.slot_list_append PySem.F.type_list_append bJ (pv 5) (aj (iI (pv 2) R_Roll.c cW.m je (hr.mono (by decide)) cW.b .nil bZ) aA)))
        (aC (aZ (iR PySem.F.plainAttrs_list PySem.F.slot_list_append PySem.F.type_list_append bJ (pv 6) (aj (gA gj rfl B.list PyProof.Rows.boot_list (aj (pv 3) aA)) aA)))))))))
      (aC (bx (lQ (ig (nZ hu) (pv 5) (pv 6) (bN _)) (lO (aX gk (hr.mono (by decide)) rfl aW.m aW.F.kp aW.b .nil bZ (aj (pv 2) (aj (pv 3) (aj (pv 4) aA)))))))))))))))),?_⟩
    refine ⟨_,rfl,a,ns0,0,rfl,hS,_,_,rfl,rfl,(by show (0:Int)<9;decide),_,_,rfl,rfl,?_⟩
    dsimp only
    have m0:=Int.emod_nonneg (ns0.getD 0 0) (show (9:Int)≠0 by decide)
    have m1:=Int.emod_lt_of_pos (ns0.getD 0 0) (show (0:Int)<9 by decide)
    obtain ⟨mN,hmN⟩:∃ mN:Nat,1 + ns0.getD 0 0 % 9=(mN:Int):=⟨(1 + ns0.getD 0 0 % 9).toNat,by omega⟩
    rw [hmN]
    have hm1:1≤mN:=by omega
    have hm2:mN≤9:=by omega
    clear hmN m0 m1
    refine ⟨_,rfl,mN,rfl,by omega,by omega,fun lv hlv=>?_⟩
    refine iK (fun i τ H'=>Iv (∃ (v0:Option V),τ=[v0]∧Ow T H H' [(lv,.lst ((eV i).map V.int))])) ⟨trivial,none,rfl,O.mk' hlv rfl⟩ ?_ ?_
    · rintro i τ H4 hi ⟨-,v0,rfl,O⟩
      refine Gg ?_
      refine ⟨_,rfl,_,_,rfl,rfl,?_⟩
      refine ⟨_,O.get 0,aH (by rw [List.length_map,iH];omega),?_⟩
      walk_at "pt"
      refine ⟨trivial,_,rfl,?_⟩
      rw [sU,List.map_append,← Int.zero_add (i:Int)];exact O
    rintro τ H4 ⟨-,v0,rfl,O⟩
    rw [show ((mN:Int)).toNat=mN by omega] at O
    have hR:=jt mN
    have hrl:=iH mN
    intro x dx nx ndx nex
    have O:=(O.mk' ndx (o:=.own x) rfl).mk' (a:=x) (o:=.ins C dx []) (by rw [aR nex.symm];exact nx) rfl
    refine ⟨x,dx,lv,H,_,eV mN,rfl,O,O.get 2,O.ne 2 0,sS hR (by omega) (by omega),by omega,fun A H5 eA O5=>⟨rfl,?_⟩⟩
    clear O nx ndx nex
    subst eA
    have O:=O5
    clear O5
    refine ⟨szl,fun ll hll=>?_⟩
    walk_at "nw"
    have O:Ow T H _ (RL C A (eV mN) 0 [] [] []++[(ll,.lst []),(lv,.lst ((eV mN).map V.int))]):=Ow.mid (R:=RL C A (eV mN) 0 [] [] []) O
    refine ⟨szl,fun lw hlw=>?_⟩
    walk_at "nw"
    have O:Ow T H _ (RL C A (eV mN) 0 [] [] []++[(lw,.lst []),(ll,.lst []),(lv,.lst ((eV mN).map V.int))]):=Ow.mid (R:=RL C A (eV mN) 0 [] [] []) O
    refine ⟨szl,fun lh hlh=>?_⟩
    walk_at "nw"
    have O:Ow T H _ (RL C A (eV mN) 0 [] [] []++[(lh,.lst []),(lw,.lst []),(ll,.lst []),(lv,.lst ((eV mN).map V.int))]):=Ow.mid (R:=RL C A (eV mN) 0 [] [] []) O
    refine ⟨szl,fun lk hlk=>?_⟩
    walk_at "nw"
    have O:Ow T H _ (RL C A (eV mN) 0 [] [] []++[(lk,.lst []),(lh,.lst []),(lw,.lst []),(ll,.lst []),(lv,.lst ((eV mN).map V.int))]):=Ow.mid (R:=RL C A (eV mN) 0 [] [] []) O
    refine ⟨_,rfl,1,rfl,41,rfl,a,_,rfl,O.same.seq hS,fun lq hlq=>?_⟩
    walk_at "nw"
    rw [show uN (ns0.map V.int) (some 1) (some 41)=((ns0.drop 1).take 40).map V.int from Mp ns0 1 41] at O
    have hql:((ns0.drop 1).take 40).length≤40:=by rw [List.length_take];omega
    generalize (ns0.drop 1).take 40=qs at O hql
    have O:Ow T H _ (RL C A (eV mN) 0 [] [] []++[(lq,.lst (qs.map V.int)),(lk,.lst []),(lh,.lst []),(lw,.lst []),(ll,.lst []),(lv,.lst ((eV mN).map V.int))]):=Ow.mid (R:=RL C A (eV mN) 0 [] [] []) O
    have O:Ow T H _ (RL C A (eV mN) 0 [] [] []++[(ll,.lst []),(lq,.lst (qs.map V.int)),(lk,.lst []),(lh,.lst []),(lw,.lst []),(lv,.lst ((eV mN).map V.int))]):=Ow.mid (R:=RL C A (eV mN) 0 [] [] []) (O.pull 10 rfl)
    have O:Ow T H _ (RL C A (eV mN) 0 [] [] []++[(lw,.lst []),(ll,.lst []),(lq,.lst (qs.map V.int)),(lk,.lst []),(lh,.lst []),(lv,.lst ((eV mN).map V.int))]):=Ow.mid (R:=RL C A (eV mN) 0 [] [] []) (O.pull 10 rfl)
    refine ⟨lq,rfl,⟨_,O.sq 8⟩,?_⟩
    refine mV (K:=K) (xs:=qs.map V.int) (fun i σ H'=>Iv (∃ (Hb:Hp) (us ws ds hv kv:List V) (ns:List Str) (ls:List Lic) (hd:List PyData) (day:Int) (v8 v9:Option V),σ=[some (.ref a),some (.int (mN:Int)),some (.ref A.p),some (.ref ll),some (.ref lw),some (.ref lh),some (.ref lk),some (.int day),v8,v9] ∧
      Ow T Hb H' (RL C A (eV mN) day us ns ds++[(lw,.lst (ns.map V.str)),(ll,.lst ws),(lq,.lst (qs.map V.int)),(lk,.lst kv),(lh,.lst hv),(lv,.lst ((eV mN).map V.int))])∧aV T H Hb∧bY K Hb us (ls.map gn)∧bY K Hb ws (ls.map gn)∧bY K Hb hv hd∧bY K Hb kv hd ∧
      ls.length≤i∧ns.length=ls.length∧ds.length≤100 * i∧hd.length=i∧0≤day∧day≤(i:Int)∧(∀ x∈ns,dW x)∧(∀ l∈ls,0≤l.most∧l.most≤1000000000000)∧∀ d∈hd,Sh 2 d))
      ⟨trivial,H,[],[],[],[],[],[],[],[],0,none,none,rfl,O,aV.refl tk,.nil,.nil,.nil,.nil,Nat.le_refl _,rfl,Nat.le_refl _,rfl,Int.le_refl _,Int.le_refl _,(fun x hx=>nomatch hx),(fun x hx=>nomatch hx),fun x hx=>nomatch hx⟩ (fun i σ H' _ ⟨_,_,_,_,_,_,_,_,_,_,_,_,_,_,O,_⟩=>O.sq 8) ?_ ?_
    · clear O
      rintro i y σ H6 hy ⟨-,Hb,us,ws,ds,hv,kv,ns,ls,hd,day,v8,v9,rfl,O,s0,d0,d1,d2,d3,n1,n2,n3,n4,dy0,dy1,hnm,hbd,hsd⟩
      obtain ⟨c,hc,rfl⟩:=ints_get hy
      have hi:=(List.getElem?_eq_some_iff.mp hc).1
      have hhl:hv.length=hd.length:=d2.length
      have hkl:kv.length=hd.length:=d3.length
      refine ⟨_,rfl,c,6,rfl,by omega,O.same.t1,O.gotT fun lx H7 xs O e=>?_⟩
      subst e
      have O:Ow T Hb H7 (RL C A (eV mN) day us ns ds++[(lx,.lst ((dvs c 6).map V.int)),(lw,.lst (ns.map V.str)),(ll,.lst ws),(lq,.lst (qs.map V.int)),(lk,.lst kv),(lh,.lst hv),(lv,.lst ((eV mN).map V.int))]):=Ow.mid (R:=RL C A (eV mN) day us ns ds) O
      have hx6:=uH c 6
      have g0:(dvs c 6)[0]?=some (dv c 0):=Ml (by decide)
      have hy0:∀ y∈dvs c 6,0≤y:=fun y hy=>by
        unfold dvs at hy
        obtain ⟨k,_,rfl⟩:=List.mem_map.mp hy
        exact PL _ _
      generalize dvs c 6=ys at O hx6 g0 hy0
      refine ⟨fun σ H'=>Iv (∃ (Hb:Hp) (day:Int) (us ws ds:List V) (ns:List Str) (ls:List Lic),σ=[some (.ref a),some (.int (mN:Int)),some (.ref A.p),some (.ref ll),some (.ref lw),some (.ref lh),some (.ref lk),some (.int day),some (.int c),some (.ref lx)] ∧
        Ow T Hb H' (RL C A (eV mN) day us ns ds++[(lx,.lst (ys.map V.int)),(lw,.lst (ns.map V.str)),(ll,.lst ws),(lq,.lst (qs.map V.int)),(lk,.lst kv),(lh,.lst hv),(lv,.lst ((eV mN).map V.int))])∧aV T H Hb∧bY K Hb us (ls.map gn)∧bY K Hb ws (ls.map gn)∧bY K Hb hv hd∧bY K Hb kv hd ∧
        ls.length≤i + 1∧ns.length=ls.length∧ds.length≤100 * (i + 1)∧0≤day∧day≤(i:Int) + 1∧(∀ x∈ns,dW x)∧∀ l∈ls,0≤l.most∧l.most≤1000000000000),?_,?_⟩
      · have hshR:Sh 2 (.list (ls.map gn)):=Sh.roll 0 ls
        have hsh0:Sh 2 (.list ([]:List PyData)):=.list fun d hd=>nomatch hd
        refine ⟨_,rfl,szl,fun le hle=>?_⟩
        walk_at "nw"
        refine ⟨_,_,.list (O.sq 9) (d1.mo O.same),.list (O.sq 0) .nil,hshR.ok (by decide),hsh0.ok (by decide),?_⟩
        have O:=O.tail
        rw [if_neg Bool.false_ne_true,wC]
        have fin:∀ (Hb' H':Hp) (day':Int) (us' ws' ds':List V) (x:Str) (l:Lic),aV T Hb Hb'→Ow T Hb' H' (RL C A (eV mN) day' us' (ns++[x]) ds'++[(lx,.lst (ys.map V.int)),(lw,.lst ((ns++[x]).map V.str)),(ll,.lst ws'),(lq,.lst (qs.map V.int)),(lk,.lst kv),(lh,.lst hv),(lv,.lst ((eV mN).map V.int))])→bY K Hb' us' ((ls++[l]).map gn)→bY K Hb' ws' ((ls++[l]).map gn)→dW x→0≤day'→day'≤day + 1→ds'.length≤ds.length + 2→0≤l.most→l.most≤1000000000000→_ :=
          fun Hb' H' day' us' ws' ds' x l s1 O e0 e1 nx y0 y1 dl z0 z1=>(⟨trivial,Hb',day',us',ws',ds',ns++[x],ls++[l],rfl,O,s0.trans s1,e0,e1,d2.mo s1,d3.mo s1,by rw [List.length_append];simp;omega,by rw [List.length_append,List.length_append,n2];rfl,by omega,y0,by omega,(fun y hy=>by
            rcases List.mem_append.mp hy with h | h
            · exact hnm y h
            · rw [List.mem_singleton.mp h];exact nx),(fun y hy=>by
            rcases List.mem_append.mp hy with h | h
            · exact hbd y h
            · rw [List.mem_singleton.mp h];exact ⟨z0,z1⟩)⟩:Iv (∃ (Hb:Hp) (day:Int) (us ws ds:List V) (ns:List Str) (ls:List Lic),[some (V.ref a),some (.int (mN:Int)),some (.ref A.p),some (.ref ll),some (.ref lw),some (.ref lh),some (.ref lk),some (.int day'),some (.int c),some (.ref lx)]=[some (V.ref a),some (.int (mN:Int)),some (.ref A.p),some (.ref ll),some (.ref lw),some (.ref lh),some (.ref lk),some (.int day),some (.int c),some (.ref lx)] ∧
        Ow T Hb H' (RL C A (eV mN) day us ns ds++[(lx,.lst (ys.map V.int)),(lw,.lst (ns.map V.str)),(ll,.lst ws),(lq,.lst (qs.map V.int)),(lk,.lst kv),(lh,.lst hv),(lv,.lst ((eV mN).map V.int))])∧aV T H Hb∧bY K Hb us (ls.map gn)∧bY K Hb ws (ls.map gn)∧bY K Hb hv hd∧bY K Hb kv hd ∧
        ls.length≤i + 1∧ns.length=ls.length∧ds.length≤100 * (i + 1)∧0≤day∧day≤(i:Int) + 1∧(∀ x∈ns,dW x)∧∀ l∈ls,0≤l.most∧l.most≤1000000000000))
        refine ⟨_,rfl,ifD (fun _=>?_) (fun hne=>?_)⟩
        · exact ⟨_,rfl,_,rfl,_,rfl,_,rfl,_,rfl,_,rfl,A,Hb,_,mN,day,us,ws,ns,ds,ls,lx,ll,lw,ys,rfl,O,hx6,hy0,hm1,by omega,d0,d1,by omega,n2,dy0,by omega,by omega,fin⟩
        refine ⟨_,rfl,lx,_,0,_,rfl,rfl,O.sq 6,cM (i:=0) g0,_,_,rfl,rfl,(by show (0:Int)<3;decide),rfl,_,rfl,ifI (fun _=>?_) (fun _=>?_)⟩
        · exact ⟨_,rfl,_,rfl,_,rfl,_,rfl,_,rfl,_,rfl,A,Hb,_,mN,day,us,ws,ns,ds,ls,lx,ll,lw,ys,rfl,O,hx6,hy0,hm1,by omega,d0,d1,by omega,n2,dy0,by omega,by omega,fin⟩
        have hl1:1≤ls.length:=by
          cases ls with
          | nil=>exact absurd rfl hne
          | cons _ _=>exact Nat.succ_le_succ (Nat.zero_le _)
        refine ⟨_,rfl,_,rfl,_,rfl,_,rfl,A,Hb,_,eV mN,day,us,ws,ns,ds,ls,lx,ll,lw,ys,rfl,O,hx6,hy0,d0,d1,hl1,by omega,n2,hnm,hbd,by omega,fun Hb' H' us' ws' ns' ds' ls' s1 O e0 e1 e2 e3 e4 e5 e6 e7=>?_⟩
        exact ⟨_,rfl,lB ⟨trivial,Hb',day,us',ws',ds',ns',ls',rfl,O,s0.trans s1,e0,e1,d2.mo s1,d3.mo s1,by omega,e4,by omega,dy0,by omega,e5,e6⟩⟩
      clear O d0 d1 d2 d3 s0 n1 n2 n3 dy0 dy1 hnm hbd
      rintro σ H8 ⟨-,Hb,day,us,ws,ds,ns,ls,rfl,O,s0,d0,d1,d2,d3,n1,n2,n3,dy0,dy1,hnm,hbd⟩
      refine ⟨_,rfl,_,rfl,_,rfl,A,day,us,ws,ns,ls,ll,lw,rfl,O.get 0,O.sq 3,O.sq 4,O.sq 8,O.sq 7,d0.mo O.same,d1.mo O.same,hnm,O.same.t1,fun H9 s9=>?_⟩
      have O:=O.kY s9
      refine ⟨_,rfl,lB ?_⟩
      refine ⟨_,rfl,.inl ⟨rfl,_,O.sq 11⟩,_,rfl,A.p,A.dx,_,rfl,O.get 0,rfl,A.p,A.dx,A.ll,_,_,rfl,O.get 0,rfl,O.sq 3,fun k1 hk1=>?_⟩
      walk_at "nw"
      refine ⟨lh,_,_,rfl,rfl,O.get 12,aH (by omega),?_⟩
      generalize hE:upd _ _ _=Hn1
      have O:=Ow.jK O 12 rfl hE rfl
      clear hE
      obtain ⟨Hc1,O,sc1,ec1⟩:=O.jc 0
      refine ⟨_,rfl,.inl ⟨rfl,_,O.sq 10⟩,_,rfl,ll,_,rfl,.inl (O.sq 8),fun k3 hk3=>?_⟩
      walk_at "nw"
      refine ⟨lk,_,_,rfl,rfl,O.get 11,aH (by omega),?_⟩
      generalize hE:upd _ _ _=Hn3
      have O:=Ow.jK O 11 rfl hE rfl
      clear hE
      obtain ⟨Hc3,O,sc3,ec3⟩:=O.jc 0
      have sc:=sc1.trans sc3
      have kp:∀ {Ha Hc:Hp} {q:Addr} {xs:List V},aV T Ha Hc→Ha q=some (.lst xs)→Hc q=some (.lst xs):=fun s e=>s.keep _ _ e (fun _ z=>nomatch z)
      refine ⟨trivial,Hc3,us,ws,ds,hv++[V.ref k1],kv++[V.ref k3],ns,ls,hd++[.list (ls.map gn)],day,_,_,rfl,O.del 6,s0.trans sc,d0.mo sc,d1.mo sc,?_,?_,n1,n2,n3,by rw [List.length_append,n4];rfl,dy0,by omega,hnm,hbd,?_⟩
      · exact (d2.mo sc).append (.cons (.list (SqL.of (kp sc3 ec1)) (d0.mo sc)) .nil)
      · exact (d3.mo sc).append (.cons (.list (SqL.of ec3) (d1.mo sc)) .nil)
      · intro d hd'
        rcases List.mem_append.mp hd' with e | e
        · exact hsd d e
        · rw [List.mem_singleton.mp e];exact Sh.roll 0 ls
    clear O
    rintro σ H8 ⟨-,Hb,us,ws,ds,hv,kv,ns,ls,hd,day,v8,v9,rfl,O,s0,d0,d1,d2,d3,n1,n2,n3,n4,dy0,dy1,hnm,hbd,hsd⟩
    have hsh:Sh 3 (.list hd):=.list hsd
    refine ⟨_,rfl,_,rfl,_,_,.list (O.sq 10) (d2.mo O.same),.list (O.sq 9) (d3.mo O.same),hsh.ok (by decide),hsh.ok (by decide),?_⟩
    rw [if_neg Bool.false_ne_true,mX hsh]
    refine ⟨_,rfl,pK ?_⟩
    exact ⟨_,rfl,_,rfl,_,rfl,A,day,us,ws,ns,ls,ll,lw,rfl,O.get 0,O.sq 3,O.sq 4,O.sq 7,O.sq 6,d0.mo O.same,d1.mo O.same,hnm,O.same.t1,fun H9 _=>k _⟩
end
theorem gO {K:PySem.W.Frag} {x qual:Str} {st:Stmt} {f:Addr} {fd:FuncData} {n0:Str} (F:Fun K x qual st f fd) (h:∀ (kV doc pm:Value) (an:Option Addr) (cdv ct u0:Value),bindArgs (PySem.W.fnOf x qual (au st) (ao st) (ak st) .none kV doc pm an cdv ct) ⟨[u0],[]⟩=pure (([n0]:List Str).zip [u0])):Binds K fd [n0] [] :=
  F.binds (ps:=[n0]) fun kV doc pm an cdv ct us hl=>match us,hl with | [u0],_=>h kV doc pm an cdv ct u0
theorem gM {K:PySem.W.Frag} {x qual:Str} {st:Stmt} {f:Addr} {fd:FuncData} {n0 n1:Str} (F:Fun K x qual st f fd) (h:∀ (kV doc pm:Value) (an:Option Addr) (cdv ct u0 u1:Value),bindArgs (PySem.W.fnOf x qual (au st) (ao st) (ak st) .none kV doc pm an cdv ct) ⟨[u0,u1],[]⟩=pure (([n0,n1]:List Str).zip [u0,u1])):Binds K fd [n0,n1] [] :=
  F.binds (ps:=[n0,n1]) fun kV doc pm an cdv ct us hl=>match us,hl with | [u0,u1],_=>h kV doc pm an cdv ct u0 u1
theorem qM {K:PySem.W.Frag} {x qual:Str} {st:Stmt} {f:Addr} {fd:FuncData} {n0 n1 n2:Str} (F:Fun K x qual st f fd) (h:∀ (kV doc pm:Value) (an:Option Addr) (cdv ct u0 u1 u2:Value),bindArgs (PySem.W.fnOf x qual (au st) (ao st) (ak st) .none kV doc pm an cdv ct) ⟨[u0,u1,u2],[]⟩=pure (([n0,n1,n2]:List Str).zip [u0,u1,u2])):Binds K fd [n0,n1,n2] [] :=
  F.binds (ps:=[n0,n1,n2]) fun kV doc pm an cdv ct us hl=>match us,hl with | [u0,u1,u2],_=>h kV doc pm an cdv ct u0 u1 u2
theorem El {K:PySem.W.Frag} {x qual:Str} {st:Stmt} {f:Addr} {fd:FuncData} {n0 n1 n2 n3:Str} (F:Fun K x qual st f fd) (h:∀ (kV doc pm:Value) (an:Option Addr) (cdv ct u0 u1 u2 u3:Value),bindArgs (PySem.W.fnOf x qual (au st) (ao st) (ak st) .none kV doc pm an cdv ct) ⟨[u0,u1,u2,u3],[]⟩=pure (([n0,n1,n2,n3]:List Str).zip [u0,u1,u2,u3])):Binds K fd [n0,n1,n2,n3] [] :=
  F.binds (ps:=[n0,n1,n2,n3]) fun kV doc pm an cdv ct us hl=>match us,hl with | [u0,u1,u2,u3],_=>h kV doc pm an cdv ct u0 u1 u2 u3
theorem Ek {K:PySem.W.Frag} {x qual:Str} {st:Stmt} {f:Addr} {fd:FuncData} {n0 n1 n2 n3 n4:Str} (F:Fun K x qual st f fd) (h:∀ (kV doc pm:Value) (an:Option Addr) (cdv ct u0 u1 u2 u3 u4:Value),bindArgs (PySem.W.fnOf x qual (au st) (ao st) (ak st) .none kV doc pm an cdv ct) ⟨[u0,u1,u2,u3,u4],[]⟩=pure (([n0,n1,n2,n3,n4]:List Str).zip [u0,u1,u2,u3,u4])):Binds K fd [n0,n1,n2,n3,n4] [] :=
  F.binds (ps:=[n0,n1,n2,n3,n4]) fun kV doc pm an cdv ct us hl=>match us,hl with | [u0,u1,u2,u3,u4],_=>h kV doc pm an cdv ct u0 u1 u2 u3 u4
theorem Mr {K:PySem.W.Frag} {x qual:Str} {st:Stmt} {f:Addr} {fd:FuncData} {n0 n1 n2 n3 n4 n5:Str} (F:Fun K x qual st f fd) (h:∀ (kV doc pm:Value) (an:Option Addr) (cdv ct u0 u1 u2 u3 u4 u5:Value),bindArgs (PySem.W.fnOf x qual (au st) (ao st) (ak st) .none kV doc pm an cdv ct) ⟨[u0,u1,u2,u3,u4,u5],[]⟩=pure (([n0,n1,n2,n3,n4,n5]:List Str).zip [u0,u1,u2,u3,u4,u5])):Binds K fd [n0,n1,n2,n3,n4,n5] [] :=
  F.binds (ps:=[n0,n1,n2,n3,n4,n5]) fun kV doc pm an cdv ct us hl=>match us,hl with | [u0,u1,u2,u3,u4,u5],_=>h kV doc pm an cdv ct u0 u1 u2 u3 u4 u5
theorem all_mk {l:PySem.W.OpenLaw} {w:World} {K:PySem.W.Frag} {h:Heap} {mg:Str→Option Value} {fa f0 f1 f2 f3 f4 f5 f6 f7 f8 f9 f10 f11 f12 f13 f14 f15 f16 f17 f18 f19 cR_Roll fm_Roll___init__ fm_Roll_roll fm_Roll_holders fm_Roll_turn fm_Roll_file dT_Roll_file fm_Roll_sell fm_Roll_part fm_Roll_drop fm_Roll_lapse fm_Roll_enter fm_Roll_is_alone fm_Roll_look_at_number fm_Roll_look_at_holder fm_Roll_look_at_room cX_SluiceError cX_NotYours cX_NotAlone cX_TooMuch:Addr} (X:K.In h) (G:h.Ns mainGlobals mg) (hfa:mg "law"=some (.ref fa))
    {odM0 anM0 odM1 anM1 odM2 anM2 odM3 anM3 odM4 anM4 odM5 anM5 odM6 anM6 odM7 anM7 odM8 anM8 odM9 anM9 odM10 anM10 odM11 anM11 odM12 anM12 odM13 anM13:Option Addr} {slM0 slM1 slM2 slM3 slM4 slM5 slM6 slM7 slM8 slM9 slM10 slM11 slM12 slM13:Array (Option Value)} {ocM0 kVM0 dcM0 pmM0 cdM0 ctM0 ocM1 kVM1 dcM1 pmM1 cdM1 ctM1 ocM2 kVM2 dcM2 pmM2 cdM2 ctM2 ocM3 kVM3 dcM3 pmM3 cdM3 ctM3 ocM4 kVM4 dcM4 pmM4 cdM4 ctM4 ocM5 kVM5 dcM5 pmM5 cdM5 ctM5 ocM6 kVM6 dcM6 pmM6 cdM6 ctM6 ocM7 kVM7 dcM7 pmM7 cdM7 ctM7 ocM8 kVM8 dcM8 pmM8 cdM8 ctM8 ocM9 kVM9 dcM9 pmM9 cdM9 ctM9 ocM10 kVM10 dcM10 pmM10 cdM10 ctM10 ocM11 kVM11 dcM11 pmM11 cdM11 ctM11 ocM12 kVM12 dcM12 pmM12 cdM12 ctM12 ocM13 kVM13 dcM13 pmM13 cdM13 ctM13:Value} {oT_Roll_file:Obj}
    {od0 an0 od1 an1 od2 an2 od3 an3 od4 an4 od5 an5 od6 an6 od7 an7 od8 an8 od9 an9 od10 an10 od11 an11 od12 an12 od13 an13 od14 an14 od15 an15 od16 an16 od17 an17 od18 an18 od19 an19:Option Addr} {sl0 sl1 sl2 sl3 sl4 sl5 sl6 sl7 sl8 sl9 sl10 sl11 sl12 sl13 sl14 sl15 sl16 sl17 sl18 sl19:Array (Option Value)} {oc0 kV0 dc0 pm0 cd0 ct0 oc1 kV1 dc1 pm1 cd1 ct1 oc2 kV2 dc2 pm2 cd2 ct2 oc3 kV3 dc3 pm3 cd3 ct3 oc4 kV4 dc4 pm4 cd4 ct4 oc5 kV5 dc5 pm5 cd5 ct5 oc6 kV6 dc6 pm6 cd6 ct6 oc7 kV7 dc7 pm7 cd7 ct7 oc8 kV8 dc8 pm8 cd8 ct8 oc9 kV9 dc9 pm9 cd9 ct9 oc10 kV10 dc10 pm10 cd10 ct10 oc11 kV11 dc11 pm11 cd11 ct11 oc12 kV12 dc12 pm12 cd12 ct12 oc13 kV13 dc13 pm13 cd13 ct13 oc14 kV14 dc14 pm14 cd14 ct14 oc15 kV15 dc15 pm15 cd15 ct15 oc16 kV16 dc16 pm16 cd16 ct16 oc17 kV17 dc17 pm17 cd17 ct17 oc18 kV18 dc18 pm18 cd18 ct18 oc19 kV19 dc19 pm19 cd19 ct19:Value} {t0 t1 t2 t3 t4 t5 t6:Tok}
    (a0:PySem.W.nsIn K mainGlobals "is_water"=some (some (.ref f0))) (l0:K.lookup f0=some ⟨oc0,od0,.func (PySem.W.fnOf "is_water" "is_water" (au dO) (ao dO) (ak dO) .none kV0 dc0 pm0 an0 cd0 ct0),sl0⟩) (c0:PySem.W.codeIn K cd0 "is_water"=true) (k0:PySem.W.keepIn K (.ref f0)=true)
    (a1:PySem.W.nsIn K mainGlobals "is_name"=some (some (.ref f1))) (l1:K.lookup f1=some ⟨oc1,od1,.func (PySem.W.fnOf "is_name" "is_name" (au eN) (ao eN) (ak eN) .none kV1 dc1 pm1 an1 cd1 ct1),sl1⟩) (c1:PySem.W.codeIn K cd1 "is_name"=true) (k1:PySem.W.keepIn K (.ref f1)=true)
    (a2:PySem.W.nsIn K mainGlobals "comes_to_mouth"=some (some (.ref f2))) (l2:K.lookup f2=some ⟨oc2,od2,.func (PySem.W.fnOf "comes_to_mouth" "comes_to_mouth" (au bB) (ao bB) (ak bB) .none kV2 dc2 pm2 an2 cd2 ct2),sl2⟩) (c2:PySem.W.codeIn K cd2 "comes_to_mouth"=true) (k2:PySem.W.keepIn K (.ref f2)=true)
    (a3:PySem.W.nsIn K mainGlobals "is_river"=some (some (.ref f3))) (l3:K.lookup f3=some ⟨oc3,od3,.func (PySem.W.fnOf "is_river" "is_river" (au cZ) (ao cZ) (ak cZ) .none kV3 dc3 pm3 an3 cd3 ct3),sl3⟩) (c3:PySem.W.codeIn K cd3 "is_river"=true) (k3:PySem.W.keepIn K (.ref f3)=true)
    (a4:PySem.W.nsIn K mainGlobals "way_of"=some (some (.ref f4))) (l4:K.lookup f4=some ⟨oc4,od4,.func (PySem.W.fnOf "way_of" "way_of" (au gb) (ao gb) (ak gb) .none kV4 dc4 pm4 an4 cd4 ct4),sl4⟩) (c4:PySem.W.codeIn K cd4 "way_of"=true) (k4:PySem.W.keepIn K (.ref f4)=true)
    (a5:PySem.W.nsIn K mainGlobals "is_licence"=some (some (.ref f5))) (l5:K.lookup f5=some ⟨oc5,od5,.func (PySem.W.fnOf "is_licence" "is_licence" (au cP) (ao cP) (ak cP) .none kV5 dc5 pm5 an5 cd5 ct5),sl5⟩) (c5:PySem.W.codeIn K cd5 "is_licence"=true) (k5:PySem.W.keepIn K (.ref f5)=true)
    (a6:PySem.W.nsIn K mainGlobals "day_filed"=some (some (.ref f6))) (l6:K.lookup f6=some ⟨oc6,od6,.func (PySem.W.fnOf "day_filed" "day_filed" (au dz) (ao dz) (ak dz) .none kV6 dc6 pm6 an6 cd6 ct6),sl6⟩) (c6:PySem.W.codeIn K cd6 "day_filed"=true) (k6:PySem.W.keepIn K (.ref f6)=true)
    (a7:PySem.W.nsIn K mainGlobals "most_of"=some (some (.ref f7))) (l7:K.lookup f7=some ⟨oc7,od7,.func (PySem.W.fnOf "most_of" "most_of" (au dR) (ao dR) (ak dR) .none kV7 dc7 pm7 an7 cd7 ct7),sl7⟩) (c7:PySem.W.codeIn K cd7 "most_of"=true) (k7:PySem.W.keepIn K (.ref f7)=true)
    (a8:PySem.W.nsIn K mainGlobals "with_most"=some (some (.ref f8))) (l8:K.lookup f8=some ⟨oc8,od8,.func (PySem.W.fnOf "with_most" "with_most" (au cJ) (ao cJ) (ak cJ) .none kV8 dc8 pm8 an8 cd8 ct8),sl8⟩) (c8:PySem.W.codeIn K cd8 "with_most"=true) (k8:PySem.W.keepIn K (.ref f8)=true)
    (a9:PySem.W.nsIn K mainGlobals "look_at_name"=some (some (.ref f9))) (l9:K.lookup f9=some ⟨oc9,od9,.func (PySem.W.fnOf "look_at_name" "look_at_name" (au bf) (ao bf) (ak bf) .none kV9 dc9 pm9 an9 cd9 ct9),sl9⟩) (c9:PySem.W.codeIn K cd9 "look_at_name"=true) (k9:PySem.W.keepIn K (.ref f9)=true)
    (a10:PySem.W.nsIn K mainGlobals "_law_cell_at"=some (some (.ref f10))) (l10:K.lookup f10=some ⟨oc10,od10,.func (PySem.W.fnOf "_law_cell_at" "_law_cell_at" (au bR) (ao bR) (ak bR) .none kV10 dc10 pm10 an10 cd10 ct10),sl10⟩) (c10:PySem.W.codeIn K cd10 "_law_cell_at"=true) (k10:PySem.W.keepIn K (.ref f10)=true)
    (a11:PySem.W.nsIn K mainGlobals "_law_whole"=some (some (.ref f11))) (l11:K.lookup f11=some ⟨oc11,od11,.func (PySem.W.fnOf "_law_whole" "_law_whole" (au cC) (ao cC) (ak cC) .none kV11 dc11 pm11 an11 cd11 ct11),sl11⟩) (c11:PySem.W.codeIn K cd11 "_law_whole"=true) (k11:PySem.W.keepIn K (.ref f11)=true)
    (a12:PySem.W.nsIn K mainGlobals "_law_draw"=some (some (.ref f12))) (l12:K.lookup f12=some ⟨oc12,od12,.func (PySem.W.fnOf "_law_draw" "_law_draw" (au dD) (ao dD) (ak dD) .none kV12 dc12 pm12 an12 cd12 ct12),sl12⟩) (c12:PySem.W.codeIn K cd12 "_law_draw"=true) (k12:PySem.W.keepIn K (.ref f12)=true)
    (a13:PySem.W.nsIn K mainGlobals "_law_draws"=some (some (.ref f13))) (l13:K.lookup f13=some ⟨oc13,od13,.func (PySem.W.fnOf "_law_draws" "_law_draws" (au cF) (ao cF) (ak cF) .none kV13 dc13 pm13 an13 cd13 ct13),sl13⟩) (c13:PySem.W.codeIn K cd13 "_law_draws"=true) (k13:PySem.W.keepIn K (.ref f13)=true)
    (a14:PySem.W.nsIn K mainGlobals "_law_alike_lines"=some (some (.ref f14))) (l14:K.lookup f14=some ⟨oc14,od14,.func (PySem.W.fnOf "_law_alike_lines" "_law_alike_lines" (au aU) (ao aU) (ak aU) .none kV14 dc14 pm14 an14 cd14 ct14),sl14⟩) (c14:PySem.W.codeIn K cd14 "_law_alike_lines"=true) (k14:PySem.W.keepIn K (.ref f14)=true)
    (a15:PySem.W.nsIn K mainGlobals "_law_right"=some (some (.ref f15))) (l15:K.lookup f15=some ⟨oc15,od15,.func (PySem.W.fnOf "_law_right" "_law_right" (au cD) (ao cD) (ak cD) .none kV15 dc15 pm15 an15 cd15 ct15),sl15⟩) (c15:PySem.W.codeIn K cd15 "_law_right"=true) (k15:PySem.W.keepIn K (.ref f15)=true)
    (a16:PySem.W.nsIn K mainGlobals "_law_not_alone"=some (some (.ref f16))) (l16:K.lookup f16=some ⟨oc16,od16,.func (PySem.W.fnOf "_law_not_alone" "_law_not_alone" (au bC) (ao bC) (ak bC) .none kV16 dc16 pm16 an16 cd16 ct16),sl16⟩) (c16:PySem.W.codeIn K cd16 "_law_not_alone"=true) (k16:PySem.W.keepIn K (.ref f16)=true)
    (a17:PySem.W.nsIn K mainGlobals "_law_file"=some (some (.ref f17))) (l17:K.lookup f17=some ⟨oc17,od17,.func (PySem.W.fnOf "_law_file" "_law_file" (au dB) (ao dB) (ak dB) .none kV17 dc17 pm17 an17 cd17 ct17),sl17⟩) (c17:PySem.W.codeIn K cd17 "_law_file"=true) (k17:PySem.W.keepIn K (.ref f17)=true)
    (a18:PySem.W.nsIn K mainGlobals "_law_part"=some (some (.ref f18))) (l18:K.lookup f18=some ⟨oc18,od18,.func (PySem.W.fnOf "_law_part" "_law_part" (au cL) (ao cL) (ak cL) .none kV18 dc18 pm18 an18 cd18 ct18),sl18⟩) (c18:PySem.W.codeIn K cd18 "_law_part"=true) (k18:PySem.W.keepIn K (.ref f18)=true)
    (a19:PySem.W.nsIn K mainGlobals "law"=some (some (.ref f19))) (l19:K.lookup f19=some ⟨oc19,od19,.func (PySem.W.fnOf "law" "law" (au jV) (ao jV) (ak jV) .none kV19 dc19 pm19 an19 cd19 ct19),sl19⟩) (c19:PySem.W.codeIn K cd19 "law"=true) (k19:PySem.W.keepIn K (.ref f19)=true)
    (e0:PySem.W.nsIn K mainGlobals "MOST_WATER"=some (some (.int (1000000000000) t0)))
    (e1:PySem.W.nsIn K mainGlobals "LONGEST_NAME"=some (some (.int (8) t1)))
    (e2:PySem.W.nsIn K mainGlobals "LETTERS"=some (some (.str "abcdefghijklmnopqrstuvwxyz" t2)))
    (e3:PySem.W.nsIn K mainGlobals "MOST_REACHES"=some (some (.int (40) t3)))
    (e4:PySem.W.nsIn K mainGlobals "MOUTH"=some (some (.int (-1) t4)))
    (e5:PySem.W.nsIn K mainGlobals "LAST_DAY"=some (some (.int (1000000) t5)))
    (e6:PySem.W.nsIn K mainGlobals "MOST_LICENCES"=some (some (.int (60) t6)))
    (n_Roll:PySem.W.nsIn K mainGlobals "Roll"=some (some (.ref cR_Roll))) (ka_Roll:PySem.W.plainGet K cR_Roll Str.empty=true) (kb_Roll:PySem.W.hasDictIn K cR_Roll=true) (kc_Roll:PySem.W.plainOver K cR_Roll=true) (kd_Roll:PySem.W.findIn K (.ref cR_Roll) "__setattr__"=some (some (.builtin "object.__setattr__")))
    (ke_Roll:PySem.W.makesIn K cR_Roll=true) (kf_Roll:PySem.W.keepIn K (.ref cR_Roll)=true)
    (kn_Roll_below:PySem.W.findIn K (.ref cR_Roll) "below"=some none)
    (kn_Roll_day:PySem.W.findIn K (.ref cR_Roll) "day"=some none)
    (kn_Roll_licences:PySem.W.findIn K (.ref cR_Roll) "licences"=some none)
    (kn_Roll_names:PySem.W.findIn K (.ref cR_Roll) "names"=some none)
    (kn_Roll_done:PySem.W.findIn K (.ref cR_Roll) "done"=some none)
    (ma_Roll___init__:PySem.W.findIn K (.ref cR_Roll) "__init__"=some (some (.ref fm_Roll___init__))) (mf_Roll___init__:PySem.W.isFn K (.ref fm_Roll___init__)=true) (mk_Roll___init__:PySem.W.keepIn K (.ref fm_Roll___init__)=true) (ml_Roll___init__:K.lookup fm_Roll___init__=some ⟨ocM0,odM0,.func (PySem.W.fnOf "__init__" "Roll.__init__" (au bH) (ao bH) (ak bH) .none kVM0 dcM0 pmM0 anM0 cdM0 ctM0),slM0⟩) (mc_Roll___init__:PySem.W.codeIn K cdM0 "Roll.__init__"=true)
    (ma_Roll_roll:PySem.W.findIn K (.ref cR_Roll) "roll"=some (some (.ref fm_Roll_roll))) (mf_Roll_roll:PySem.W.isFn K (.ref fm_Roll_roll)=true) (mk_Roll_roll:PySem.W.keepIn K (.ref fm_Roll_roll)=true) (ml_Roll_roll:K.lookup fm_Roll_roll=some ⟨ocM1,odM1,.func (PySem.W.fnOf "roll" "Roll.roll" (au cQ) (ao cQ) (ak cQ) .none kVM1 dcM1 pmM1 anM1 cdM1 ctM1),slM1⟩) (mc_Roll_roll:PySem.W.codeIn K cdM1 "Roll.roll"=true)
    (ma_Roll_holders:PySem.W.findIn K (.ref cR_Roll) "holders"=some (some (.ref fm_Roll_holders))) (mf_Roll_holders:PySem.W.isFn K (.ref fm_Roll_holders)=true) (mk_Roll_holders:PySem.W.keepIn K (.ref fm_Roll_holders)=true) (ml_Roll_holders:K.lookup fm_Roll_holders=some ⟨ocM2,odM2,.func (PySem.W.fnOf "holders" "Roll.holders" (au bT) (ao bT) (ak bT) .none kVM2 dcM2 pmM2 anM2 cdM2 ctM2),slM2⟩) (mc_Roll_holders:PySem.W.codeIn K cdM2 "Roll.holders"=true)
    (ma_Roll_turn:PySem.W.findIn K (.ref cR_Roll) "turn"=some (some (.ref fm_Roll_turn))) (mf_Roll_turn:PySem.W.isFn K (.ref fm_Roll_turn)=true) (mk_Roll_turn:PySem.W.keepIn K (.ref fm_Roll_turn)=true) (ml_Roll_turn:K.lookup fm_Roll_turn=some ⟨ocM3,odM3,.func (PySem.W.fnOf "turn" "Roll.turn" (au dF) (ao dF) (ak dF) .none kVM3 dcM3 pmM3 anM3 cdM3 ctM3),slM3⟩) (mc_Roll_turn:PySem.W.codeIn K cdM3 "Roll.turn"=true)
    (ma_Roll_file:PySem.W.findIn K (.ref cR_Roll) "file"=some (some (.ref fm_Roll_file))) (mf_Roll_file:PySem.W.isFn K (.ref fm_Roll_file)=true) (mk_Roll_file:PySem.W.keepIn K (.ref fm_Roll_file)=true) (ml_Roll_file:K.lookup fm_Roll_file=some ⟨ocM4,odM4,.func (PySem.W.fnOf "file" "Roll.file" (au dH) (ao dH) (ak dH) (.ref dT_Roll_file) kVM4 dcM4 pmM4 anM4 cdM4 ctM4),slM4⟩) (mc_Roll_file:PySem.W.codeIn K cdM4 "Roll.file"=true)
    (mt_Roll_file:K.lookup dT_Roll_file=some oT_Roll_file) (mu_Roll_file:∃ n,oT_Roll_file.data=.seq #[.none] n)
    (ma_Roll_sell:PySem.W.findIn K (.ref cR_Roll) "sell"=some (some (.ref fm_Roll_sell))) (mf_Roll_sell:PySem.W.isFn K (.ref fm_Roll_sell)=true) (mk_Roll_sell:PySem.W.keepIn K (.ref fm_Roll_sell)=true) (ml_Roll_sell:K.lookup fm_Roll_sell=some ⟨ocM5,odM5,.func (PySem.W.fnOf "sell" "Roll.sell" (au dG) (ao dG) (ak dG) .none kVM5 dcM5 pmM5 anM5 cdM5 ctM5),slM5⟩) (mc_Roll_sell:PySem.W.codeIn K cdM5 "Roll.sell"=true)
    (ma_Roll_part:PySem.W.findIn K (.ref cR_Roll) "part"=some (some (.ref fm_Roll_part))) (mf_Roll_part:PySem.W.isFn K (.ref fm_Roll_part)=true) (mk_Roll_part:PySem.W.keepIn K (.ref fm_Roll_part)=true) (ml_Roll_part:K.lookup fm_Roll_part=some ⟨ocM6,odM6,.func (PySem.W.fnOf "part" "Roll.part" (au cR) (ao cR) (ak cR) .none kVM6 dcM6 pmM6 anM6 cdM6 ctM6),slM6⟩) (mc_Roll_part:PySem.W.codeIn K cdM6 "Roll.part"=true)
    (ma_Roll_drop:PySem.W.findIn K (.ref cR_Roll) "drop"=some (some (.ref fm_Roll_drop))) (mf_Roll_drop:PySem.W.isFn K (.ref fm_Roll_drop)=true) (mk_Roll_drop:PySem.W.keepIn K (.ref fm_Roll_drop)=true) (ml_Roll_drop:K.lookup fm_Roll_drop=some ⟨ocM7,odM7,.func (PySem.W.fnOf "drop" "Roll.drop" (au dI) (ao dI) (ak dI) .none kVM7 dcM7 pmM7 anM7 cdM7 ctM7),slM7⟩) (mc_Roll_drop:PySem.W.codeIn K cdM7 "Roll.drop"=true)
    (ma_Roll_lapse:PySem.W.findIn K (.ref cR_Roll) "lapse"=some (some (.ref fm_Roll_lapse))) (mf_Roll_lapse:PySem.W.isFn K (.ref fm_Roll_lapse)=true) (mk_Roll_lapse:PySem.W.keepIn K (.ref fm_Roll_lapse)=true) (ml_Roll_lapse:K.lookup fm_Roll_lapse=some ⟨ocM8,odM8,.func (PySem.W.fnOf "lapse" "Roll.lapse" (au cG) (ao cG) (ak cG) .none kVM8 dcM8 pmM8 anM8 cdM8 ctM8),slM8⟩) (mc_Roll_lapse:PySem.W.codeIn K cdM8 "Roll.lapse"=true)
    (ma_Roll_enter:PySem.W.findIn K (.ref cR_Roll) "enter"=some (some (.ref fm_Roll_enter))) (mf_Roll_enter:PySem.W.isFn K (.ref fm_Roll_enter)=true) (mk_Roll_enter:PySem.W.keepIn K (.ref fm_Roll_enter)=true) (ml_Roll_enter:K.lookup fm_Roll_enter=some ⟨ocM9,odM9,.func (PySem.W.fnOf "enter" "Roll.enter" (au cH) (ao cH) (ak cH) .none kVM9 dcM9 pmM9 anM9 cdM9 ctM9),slM9⟩) (mc_Roll_enter:PySem.W.codeIn K cdM9 "Roll.enter"=true)
    (ma_Roll_is_alone:PySem.W.findIn K (.ref cR_Roll) "is_alone"=some (some (.ref fm_Roll_is_alone))) (mf_Roll_is_alone:PySem.W.isFn K (.ref fm_Roll_is_alone)=true) (mk_Roll_is_alone:PySem.W.keepIn K (.ref fm_Roll_is_alone)=true) (ml_Roll_is_alone:K.lookup fm_Roll_is_alone=some ⟨ocM10,odM10,.func (PySem.W.fnOf "is_alone" "Roll.is_alone" (au bh) (ao bh) (ak bh) .none kVM10 dcM10 pmM10 anM10 cdM10 ctM10),slM10⟩) (mc_Roll_is_alone:PySem.W.codeIn K cdM10 "Roll.is_alone"=true)
    (ma_Roll_look_at_number:PySem.W.findIn K (.ref cR_Roll) "look_at_number"=some (some (.ref fm_Roll_look_at_number))) (mf_Roll_look_at_number:PySem.W.isFn K (.ref fm_Roll_look_at_number)=true) (mk_Roll_look_at_number:PySem.W.keepIn K (.ref fm_Roll_look_at_number)=true) (ml_Roll_look_at_number:K.lookup fm_Roll_look_at_number=some ⟨ocM11,odM11,.func (PySem.W.fnOf "look_at_number" "Roll.look_at_number" (au aK) (ao aK) (ak aK) .none kVM11 dcM11 pmM11 anM11 cdM11 ctM11),slM11⟩) (mc_Roll_look_at_number:PySem.W.codeIn K cdM11 "Roll.look_at_number"=true)
    (ma_Roll_look_at_holder:PySem.W.findIn K (.ref cR_Roll) "look_at_holder"=some (some (.ref fm_Roll_look_at_holder))) (mf_Roll_look_at_holder:PySem.W.isFn K (.ref fm_Roll_look_at_holder)=true) (mk_Roll_look_at_holder:PySem.W.keepIn K (.ref fm_Roll_look_at_holder)=true) (ml_Roll_look_at_holder:K.lookup fm_Roll_look_at_holder=some ⟨ocM12,odM12,.func (PySem.W.fnOf "look_at_holder" "Roll.look_at_holder" (au aF) (ao aF) (ak aF) .none kVM12 dcM12 pmM12 anM12 cdM12 ctM12),slM12⟩) (mc_Roll_look_at_holder:PySem.W.codeIn K cdM12 "Roll.look_at_holder"=true)
    (ma_Roll_look_at_room:PySem.W.findIn K (.ref cR_Roll) "look_at_room"=some (some (.ref fm_Roll_look_at_room))) (mf_Roll_look_at_room:PySem.W.isFn K (.ref fm_Roll_look_at_room)=true) (mk_Roll_look_at_room:PySem.W.keepIn K (.ref fm_Roll_look_at_room)=true) (ml_Roll_look_at_room:K.lookup fm_Roll_look_at_room=some ⟨ocM13,odM13,.func (PySem.W.fnOf "look_at_room" "Roll.look_at_room" (au aM) (ao aM) (ak aM) .none kVM13 dcM13 pmM13 anM13 cdM13 ctM13),slM13⟩) (mc_Roll_look_at_room:PySem.W.codeIn K cdM13 "Roll.look_at_room"=true)
    (z_len:PySem.W.nsIn K mainGlobals "len"=some none)
    (z_range:PySem.W.nsIn K mainGlobals "range"=some none)
    (z_list:PySem.W.nsIn K mainGlobals "list"=some none)
    (z_isinstance:PySem.W.nsIn K mainGlobals "isinstance"=some none)
    (z_bool:PySem.W.nsIn K mainGlobals "bool"=some none)
    (z_int:PySem.W.nsIn K mainGlobals "int"=some none)
    (z_all:PySem.W.nsIn K mainGlobals "all"=some none)
    (z_min:PySem.W.nsIn K mainGlobals "min"=some none)
    (z_max:PySem.W.nsIn K mainGlobals "max"=some none)
    (z_sum:PySem.W.nsIn K mainGlobals "sum"=some none)
    (z_sorted:PySem.W.nsIn K mainGlobals "sorted"=some none)
    (z_zip:PySem.W.nsIn K mainGlobals "zip"=some none)
    (z_tuple:PySem.W.nsIn K mainGlobals "tuple"=some none)
    (z_str:PySem.W.nsIn K mainGlobals "str"=some none)
    (z_any:PySem.W.nsIn K mainGlobals "any"=some none)
    (z_enumerate:PySem.W.nsIn K mainGlobals "enumerate"=some none)
    (z_reversed:PySem.W.nsIn K mainGlobals "reversed"=some none)
    (z_abs:PySem.W.nsIn K mainGlobals "abs"=some none)
    (z_ValueError:PySem.W.nsIn K mainGlobals "ValueError"=some none)
    (z_set:PySem.W.nsIn K mainGlobals "set"=some none)
    (n_SluiceError:PySem.W.nsIn K mainGlobals "SluiceError"=some (some (.ref cX_SluiceError))) (q_SluiceError:PySem.W.excIn K cX_SluiceError Ej "ValueError.__new__"=true)
    (xa_SluiceError:PySem.W.findIn K (.ref cX_SluiceError) "__getattribute__"=some (some (.builtin "BaseException.__getattribute__"))) (xb_SluiceError:PySem.W.findIn K (.ref cX_SluiceError) "__getattr__"=some none) (xc_SluiceError:PySem.W.findIn K (.ref cX_SluiceError) "__class__"=some (some (.builtin "object.__class__")))
    (xd_SluiceError:PySem.W.specialIn K (.builtin "object.__class__") "__get__"=some (some (.builtin "getset_descriptor.__get__"))) (xe_SluiceError:PySem.W.takesIn K (.builtin "object.__class__")=some true) (xf_SluiceError:PySem.W.mroIn K cX_SluiceError (.type "object")=some true) (xg_SluiceError:PySem.W.mroIn K cX_SluiceError (.type "BaseException")=some true) (xh_SluiceError:(PySem.W.clsIn K cX_SluiceError).isSome=true)
    (n_NotYours:PySem.W.nsIn K mainGlobals "NotYours"=some (some (.ref cX_NotYours))) (q_NotYours:PySem.W.excIn K cX_NotYours Ej "ValueError.__new__"=true)
    (xa_NotYours:PySem.W.findIn K (.ref cX_NotYours) "__getattribute__"=some (some (.builtin "BaseException.__getattribute__"))) (xb_NotYours:PySem.W.findIn K (.ref cX_NotYours) "__getattr__"=some none) (xc_NotYours:PySem.W.findIn K (.ref cX_NotYours) "__class__"=some (some (.builtin "object.__class__")))
    (xd_NotYours:PySem.W.specialIn K (.builtin "object.__class__") "__get__"=some (some (.builtin "getset_descriptor.__get__"))) (xe_NotYours:PySem.W.takesIn K (.builtin "object.__class__")=some true) (xf_NotYours:PySem.W.mroIn K cX_NotYours (.type "object")=some true) (xg_NotYours:PySem.W.mroIn K cX_NotYours (.type "BaseException")=some true) (xh_NotYours:(PySem.W.clsIn K cX_NotYours).isSome=true)
    (n_NotAlone:PySem.W.nsIn K mainGlobals "NotAlone"=some (some (.ref cX_NotAlone))) (q_NotAlone:PySem.W.excIn K cX_NotAlone Ej "ValueError.__new__"=true)
    (xa_NotAlone:PySem.W.findIn K (.ref cX_NotAlone) "__getattribute__"=some (some (.builtin "BaseException.__getattribute__"))) (xb_NotAlone:PySem.W.findIn K (.ref cX_NotAlone) "__getattr__"=some none) (xc_NotAlone:PySem.W.findIn K (.ref cX_NotAlone) "__class__"=some (some (.builtin "object.__class__")))
    (xd_NotAlone:PySem.W.specialIn K (.builtin "object.__class__") "__get__"=some (some (.builtin "getset_descriptor.__get__"))) (xe_NotAlone:PySem.W.takesIn K (.builtin "object.__class__")=some true) (xf_NotAlone:PySem.W.mroIn K cX_NotAlone (.type "object")=some true) (xg_NotAlone:PySem.W.mroIn K cX_NotAlone (.type "BaseException")=some true) (xh_NotAlone:(PySem.W.clsIn K cX_NotAlone).isSome=true)
    (n_TooMuch:PySem.W.nsIn K mainGlobals "TooMuch"=some (some (.ref cX_TooMuch))) (q_TooMuch:PySem.W.excIn K cX_TooMuch Ej "ValueError.__new__"=true)
    (xa_TooMuch:PySem.W.findIn K (.ref cX_TooMuch) "__getattribute__"=some (some (.builtin "BaseException.__getattribute__"))) (xb_TooMuch:PySem.W.findIn K (.ref cX_TooMuch) "__getattr__"=some none) (xc_TooMuch:PySem.W.findIn K (.ref cX_TooMuch) "__class__"=some (some (.builtin "object.__class__")))
    (xd_TooMuch:PySem.W.specialIn K (.builtin "object.__class__") "__get__"=some (some (.builtin "getset_descriptor.__get__"))) (xe_TooMuch:PySem.W.takesIn K (.builtin "object.__class__")=some true) (xf_TooMuch:PySem.W.mroIn K cX_TooMuch (.type "object")=some true) (xg_TooMuch:PySem.W.mroIn K cX_TooMuch (.type "BaseException")=some true) (xh_TooMuch:(PySem.W.clsIn K cX_TooMuch).isSome=true)
    (m_NotAlone_SluiceError:PySem.W.exmOne K (.ref cX_NotAlone) (.ref cX_SluiceError)=some true)
    (i_NotAlone_TooMuch:PySem.W.kitOne K (.ref cX_NotAlone) (.ref cX_TooMuch)=some false)
    (i_NotAlone_NotAlone:PySem.W.kitOne K (.ref cX_NotAlone) (.ref cX_NotAlone)=some true)
    (i_NotAlone_ValueError:PySem.W.kitOne K (.ref cX_NotAlone) (.type "ValueError")=some true)
    : ∃ fd:FuncData,(∀ (s:Shared) (v:Value),BindsTo s fd ⟨[v],[]⟩ [("script",v)])∧∀ base:Heap,K.In base→base.Ns mainGlobals mg→bW l.prog w K mg base CX0 6 fa fd ["script"] (ql K):=by
  have e:=hfa.symm.trans (PySem.W.mg_of X G a19)
  cases e
  have B:Blt mg:=⟨PySem.W.mg_none_of X G z_len,PySem.W.mg_none_of X G z_range,PySem.W.mg_none_of X G z_list,PySem.W.mg_none_of X G z_isinstance,PySem.W.mg_none_of X G z_bool,PySem.W.mg_none_of X G z_int,PySem.W.mg_none_of X G z_all,PySem.W.mg_none_of X G z_min,PySem.W.mg_none_of X G z_max,PySem.W.mg_none_of X G z_sum,PySem.W.mg_none_of X G z_sorted,PySem.W.mg_none_of X G z_zip,PySem.W.mg_none_of X G z_tuple,PySem.W.mg_none_of X G z_str,PySem.W.mg_none_of X G z_any,PySem.W.mg_none_of X G z_enumerate,PySem.W.mg_none_of X G z_reversed,PySem.W.mg_none_of X G z_abs,PySem.W.mg_none_of X G z_ValueError,PySem.W.mg_none_of X G z_set⟩
  have h_MOST_WATER:∃ t,mg "MOST_WATER"=some (.int (1000000000000) t):=⟨_,PySem.W.mg_of X G e0⟩
  have h_LONGEST_NAME:∃ t,mg "LONGEST_NAME"=some (.int (8) t):=⟨_,PySem.W.mg_of X G e1⟩
  have h_LETTERS:∃ t,mg "LETTERS"=some (.str "abcdefghijklmnopqrstuvwxyz" t):=⟨_,PySem.W.mg_of X G e2⟩
  have h_MOST_REACHES:∃ t,mg "MOST_REACHES"=some (.int (40) t):=⟨_,PySem.W.mg_of X G e3⟩
  have h_MOUTH:∃ t,mg "MOUTH"=some (.int (-1) t):=⟨_,PySem.W.mg_of X G e4⟩
  have h_LAST_DAY:∃ t,mg "LAST_DAY"=some (.int (1000000) t):=⟨_,PySem.W.mg_of X G e5⟩
  have h_MOST_LICENCES:∃ t,mg "MOST_LICENCES"=some (.int (60) t):=⟨_,PySem.W.mg_of X G e6⟩
  have FM_Roll___init__:=bQ (st:=bH) ml_Roll___init__ mc_Roll___init__ mk_Roll___init__
  have eO:Dm K cR_Roll "__init__" "Roll.__init__" bH ["self","below"] fm_Roll___init__ _:=⟨FM_Roll___init__,gM FM_Roll___init__ (fun _ _ _ _ _ _ _ _=>rfl),⟨ma_Roll___init__,mf_Roll___init__,mk_Roll___init__⟩⟩
  have FM_Roll_roll:=bQ (st:=cQ) ml_Roll_roll mc_Roll_roll mk_Roll_roll
  have cW:Dm K cR_Roll "roll" "Roll.roll" cQ ["self"] fm_Roll_roll _:=⟨FM_Roll_roll,gO FM_Roll_roll (fun _ _ _ _ _ _ _=>rfl),⟨ma_Roll_roll,mf_Roll_roll,mk_Roll_roll⟩⟩
  have FM_Roll_holders:=bQ (st:=bT) ml_Roll_holders mc_Roll_holders mk_Roll_holders
  have dY:Dm K cR_Roll "holders" "Roll.holders" bT ["self"] fm_Roll_holders _:=⟨FM_Roll_holders,gO FM_Roll_holders (fun _ _ _ _ _ _ _=>rfl),⟨ma_Roll_holders,mf_Roll_holders,mk_Roll_holders⟩⟩
  have FM_Roll_turn:=bQ (st:=dF) ml_Roll_turn mc_Roll_turn mk_Roll_turn
  have fV:Dm K cR_Roll "turn" "Roll.turn" dF ["self"] fm_Roll_turn _:=⟨FM_Roll_turn,gO FM_Roll_turn (fun _ _ _ _ _ _ _=>rfl),⟨ma_Roll_turn,mf_Roll_turn,mk_Roll_turn⟩⟩
  obtain ⟨nT_Roll_file,mu_Roll_file⟩:=mu_Roll_file
  have FM_Roll_file:Gk K "file" "Roll.file" dH [.none] fm_Roll_file _:=⟨⟨_,_,_,_,_,_,_,_,_,_,_,_,rfl,ml_Roll_file,mc_Roll_file,mt_Roll_file,mu_Roll_file⟩,mk_Roll_file⟩
  have fX:DmD K cR_Roll "file" "Roll.file" dH ["self","holder","start","most","back"] fm_Roll_file _:=⟨FM_Roll_file,FM_Roll_file.binds (fun _ _ _ _ _ _ _ us hl=>match us,(show us.length=5 by simpa using hl) with | [u0,u1,u2,u3,u4],_=>⟨_,rfl,rfl⟩),FM_Roll_file.binds (fun _ _ _ _ _ _ _ us hl=>match us,(show us.length=4 by simpa using hl) with | [u0,u1,u2,u3],_=>⟨_,rfl,rfl⟩),⟨ma_Roll_file,mf_Roll_file,mk_Roll_file⟩⟩
  have FM_Roll_sell:=bQ (st:=dG) ml_Roll_sell mc_Roll_sell mk_Roll_sell
  have fW:Dm K cR_Roll "sell" "Roll.sell" dG ["self","number","holder","to"] fm_Roll_sell _:=⟨FM_Roll_sell,El FM_Roll_sell (fun _ _ _ _ _ _ _ _ _ _=>rfl),⟨ma_Roll_sell,mf_Roll_sell,mk_Roll_sell⟩⟩
  have FM_Roll_part:=bQ (st:=cR) ml_Roll_part mc_Roll_part mk_Roll_part
  have cX:Dm K cR_Roll "part" "Roll.part" cR ["self","number","holder","most","to"] fm_Roll_part _:=⟨FM_Roll_part,Ek FM_Roll_part (fun _ _ _ _ _ _ _ _ _ _ _=>rfl),⟨ma_Roll_part,mf_Roll_part,mk_Roll_part⟩⟩
  have FM_Roll_drop:=bQ (st:=dI) ml_Roll_drop mc_Roll_drop mk_Roll_drop
  have fY:Dm K cR_Roll "drop" "Roll.drop" dI ["self","number","holder"] fm_Roll_drop _:=⟨FM_Roll_drop,qM FM_Roll_drop (fun _ _ _ _ _ _ _ _ _=>rfl),⟨ma_Roll_drop,mf_Roll_drop,mk_Roll_drop⟩⟩
  have FM_Roll_lapse:=bQ (st:=cG) ml_Roll_lapse mc_Roll_lapse mk_Roll_lapse
  have fH:Dm K cR_Roll "lapse" "Roll.lapse" cG ["self","numbers"] fm_Roll_lapse _:=⟨FM_Roll_lapse,gM FM_Roll_lapse (fun _ _ _ _ _ _ _ _=>rfl),⟨ma_Roll_lapse,mf_Roll_lapse,mk_Roll_lapse⟩⟩
  have FM_Roll_enter:=bQ (st:=cH) ml_Roll_enter mc_Roll_enter mk_Roll_enter
  have cI:Dm K cR_Roll "enter" "Roll.enter" cH ["self","one","holder"] fm_Roll_enter _:=⟨FM_Roll_enter,qM FM_Roll_enter (fun _ _ _ _ _ _ _ _ _=>rfl),⟨ma_Roll_enter,mf_Roll_enter,mk_Roll_enter⟩⟩
  have FM_Roll_is_alone:=bQ (st:=bh) ml_Roll_is_alone mc_Roll_is_alone mk_Roll_is_alone
  have dJ:Dm K cR_Roll "is_alone" "Roll.is_alone" bh ["self","number"] fm_Roll_is_alone _:=⟨FM_Roll_is_alone,gM FM_Roll_is_alone (fun _ _ _ _ _ _ _ _=>rfl),⟨ma_Roll_is_alone,mf_Roll_is_alone,mk_Roll_is_alone⟩⟩
  have FM_Roll_look_at_number:=bQ (st:=aK) ml_Roll_look_at_number mc_Roll_look_at_number mk_Roll_look_at_number
  have bM:Dm K cR_Roll "look_at_number" "Roll.look_at_number" aK ["self","number"] fm_Roll_look_at_number _:=⟨FM_Roll_look_at_number,gM FM_Roll_look_at_number (fun _ _ _ _ _ _ _ _=>rfl),⟨ma_Roll_look_at_number,mf_Roll_look_at_number,mk_Roll_look_at_number⟩⟩
  have FM_Roll_look_at_holder:=bQ (st:=aF) ml_Roll_look_at_holder mc_Roll_look_at_holder mk_Roll_look_at_holder
  have aD:Dm K cR_Roll "look_at_holder" "Roll.look_at_holder" aF ["self","number","holder"] fm_Roll_look_at_holder _:=⟨FM_Roll_look_at_holder,qM FM_Roll_look_at_holder (fun _ _ _ _ _ _ _ _ _=>rfl),⟨ma_Roll_look_at_holder,mf_Roll_look_at_holder,mk_Roll_look_at_holder⟩⟩
  have FM_Roll_look_at_room:=bQ (st:=aM) ml_Roll_look_at_room mc_Roll_look_at_room mk_Roll_look_at_room
  have aQ:Dm K cR_Roll "look_at_room" "Roll.look_at_room" aM ["self"] fm_Roll_look_at_room _:=⟨FM_Roll_look_at_room,gO FM_Roll_look_at_room (fun _ _ _ _ _ _ _=>rfl),⟨ma_Roll_look_at_room,mf_Roll_look_at_room,mk_Roll_look_at_room⟩⟩
  have R_Roll:Cl K mg "Roll" cR_Roll fm_Roll___init__ ["below","day","licences","names","done"]:=⟨⟨ka_Roll,kb_Roll,kc_Roll,kd_Roll⟩,⟨ke_Roll,ma_Roll___init__,mf_Roll___init__,kf_Roll⟩,PySem.W.mg_of X G n_Roll,by
    simp only [List.mem_cons,List.not_mem_nil,or_false,forall_eq_or_imp,forall_eq]
    exact ⟨kn_Roll_below,kn_Roll_day,kn_Roll_licences,kn_Roll_names,kn_Roll_done⟩⟩
  have X_SluiceError:u6 K mg "SluiceError" cX_SluiceError:=⟨PySem.W.mg_of X G n_SluiceError,q_SluiceError,⟨xa_SluiceError,xb_SluiceError,xc_SluiceError,xd_SluiceError,xe_SluiceError,xf_SluiceError,xg_SluiceError,xh_SluiceError⟩⟩
  have X_NotYours:u6 K mg "NotYours" cX_NotYours:=⟨PySem.W.mg_of X G n_NotYours,q_NotYours,⟨xa_NotYours,xb_NotYours,xc_NotYours,xd_NotYours,xe_NotYours,xf_NotYours,xg_NotYours,xh_NotYours⟩⟩
  have X_NotAlone:u6 K mg "NotAlone" cX_NotAlone:=⟨PySem.W.mg_of X G n_NotAlone,q_NotAlone,⟨xa_NotAlone,xb_NotAlone,xc_NotAlone,xd_NotAlone,xe_NotAlone,xf_NotAlone,xg_NotAlone,xh_NotAlone⟩⟩
  have X_TooMuch:u6 K mg "TooMuch" cX_TooMuch:=⟨PySem.W.mg_of X G n_TooMuch,q_TooMuch,⟨xa_TooMuch,xb_TooMuch,xc_TooMuch,xd_TooMuch,xe_TooMuch,xf_TooMuch,xg_TooMuch,xh_TooMuch⟩⟩
  have F0:=bQ (st:=dO) l0 c0 k0
  have cO:Df K mg "is_water" dO ["amount"] _ _:=⟨F0,gO F0 (fun _ _ _ _ _ _ _=>rfl),PySem.W.mg_of X G a0⟩
  have F1:=bQ (st:=eN) l1 c1 k1
  have gF:Df K mg "is_name" eN ["text"] _ _:=⟨F1,gO F1 (fun _ _ _ _ _ _ _=>rfl),PySem.W.mg_of X G a1⟩
  have F2:=bQ (st:=bB) l2 c2 k2
  have cj:Df K mg "comes_to_mouth" bB ["below","start"] _ _:=⟨F2,gM F2 (fun _ _ _ _ _ _ _ _=>rfl),PySem.W.mg_of X G a2⟩
  have F3:=bQ (st:=cZ) l3 c3 k3
  have fO:Df K mg "is_river" cZ ["below"] _ _:=⟨F3,gO F3 (fun _ _ _ _ _ _ _=>rfl),PySem.W.mg_of X G a3⟩
  have F4:=bQ (st:=gb) l4 c4 k4
  have iM:Df K mg "way_of" gb ["below","reach"] _ _:=⟨F4,gM F4 (fun _ _ _ _ _ _ _ _=>rfl),PySem.W.mg_of X G a4⟩
  have F5:=bQ (st:=cP) l5 c5 k5
  have d9:Df K mg "is_licence" cP ["below","one"] _ _:=⟨F5,gM F5 (fun _ _ _ _ _ _ _ _=>rfl),PySem.W.mg_of X G a5⟩
  have F6:=bQ (st:=dz) l6 c6 k6
  have cV:Df K mg "day_filed" dz ["one"] _ _:=⟨F6,gO F6 (fun _ _ _ _ _ _ _=>rfl),PySem.W.mg_of X G a6⟩
  have F7:=bQ (st:=dR) l7 c7 k7
  have bA:Df K mg "most_of" dR ["one"] _ _:=⟨F7,gO F7 (fun _ _ _ _ _ _ _=>rfl),PySem.W.mg_of X G a7⟩
  have F8:=bQ (st:=cJ) l8 c8 k8
  have aP:Df K mg "with_most" cJ ["one","most"] _ _:=⟨F8,gM F8 (fun _ _ _ _ _ _ _ _=>rfl),PySem.W.mg_of X G a8⟩
  have F9:=bQ (st:=bf) l9 c9 k9
  have aG:Df K mg "look_at_name" bf ["name"] _ _:=⟨F9,gO F9 (fun _ _ _ _ _ _ _=>rfl),PySem.W.mg_of X G a9⟩
  have F10:=bQ (st:=bR) l10 c10 k10
  have dg:Df K mg "_law_cell_at" bR ["script","k"] _ _:=⟨F10,gM F10 (fun _ _ _ _ _ _ _ _=>rfl),PySem.W.mg_of X G a10⟩
  have F11:=bQ (st:=cC) l11 c11 k11
  have bL:Df K mg "_law_whole" cC ["found"] _ _:=⟨F11,gO F11 (fun _ _ _ _ _ _ _=>rfl),PySem.W.mg_of X G a11⟩
  have F12:=bQ (st:=dD) l12 c12 k12
  have fu:Df K mg "_law_draw" dD ["cell","place"] _ _:=⟨F12,gM F12 (fun _ _ _ _ _ _ _ _=>rfl),PySem.W.mg_of X G a12⟩
  have F13:=bQ (st:=cF) l13 c13 k13
  have eE:Df K mg "_law_draws" cF ["cell","many"] _ _:=⟨F13,gM F13 (fun _ _ _ _ _ _ _ _=>rfl),PySem.W.mg_of X G a13⟩
  have F14:=bQ (st:=aU) l14 c14 k14
  have bO:Df K mg "_law_alike_lines" aU ["found","due"] _ _:=⟨F14,gM F14 (fun _ _ _ _ _ _ _ _=>rfl),PySem.W.mg_of X G a14⟩
  have F15:=bQ (st:=cD) l15 c15 k15
  have aW:Df K mg "_law_right" cD ["one","lines","owners"] _ _:=⟨F15,qM F15 (fun _ _ _ _ _ _ _ _ _=>rfl),PySem.W.mg_of X G a15⟩
  have F16:=bQ (st:=bC) l16 c16 k16
  have cu:Df K mg "_law_not_alone" bC ["one","number","name","most","to"] _ _:=⟨F16,Ek F16 (fun _ _ _ _ _ _ _ _ _ _ _=>rfl),PySem.W.mg_of X G a16⟩
  have F17:=bQ (st:=dB) l17 c17 k17
  have fj:Df K mg "_law_file" dB ["one","xs","many","lines","owners","day"] _ _:=⟨F17,Mr F17 (fun _ _ _ _ _ _ _ _ _ _ _ _=>rfl),PySem.W.mg_of X G a17⟩
  have F18:=bQ (st:=cL) l18 c18 k18
  have eZ:Df K mg "_law_part" cL ["one","xs","lines","owners"] _ _:=⟨F18,El F18 (fun _ _ _ _ _ _ _ _ _ _=>rfl),PySem.W.mg_of X G a18⟩
  have F19:=bQ (st:=jV) l19 c19 k19
  have Qc:Df K mg "law" jV ["script"] _ _:=⟨F19,gO F19 (fun _ _ _ _ _ _ _=>rfl),PySem.W.mg_of X G a19⟩
  refine ⟨PySem.W.fnOf "law" "law" (au jV) (ao jV) (ak jV) .none kV19 dc19 pm19 an19 cd19 ct19,fun s v=>.of_eq rfl,fun base _ _=>?_⟩
  have C:Mth mg:=⟨h_MOUTH⟩
  have CS:Cst mg:=⟨h_MOUTH,h_MOST_REACHES⟩
  have CNm:CN mg:=⟨h_LONGEST_NAME,h_LETTERS⟩
  have g1:=Fp (P:=l.prog) (w:=w) (base:=base) dg B
  have g2:=vG (P:=l.prog) (w:=w) (base:=base) bL B
  have g3:=GZ (P:=l.prog) (w:=w) (base:=base) iM C
  have g4:=vM (P:=l.prog) (w:=w) (base:=base) cj B CS
  have g5:=G5 fO B CS cj g4
  have g6:=vH (P:=l.prog) (w:=w) (K:=K) (base:=base) cO h_MOST_WATER
  have g7:=vL (T:=[]) d9 B C h_LAST_DAY cO g6 iM g3
  have g8:=tQ (P:=l.prog) (w:=w) (K:=K) (base:=base) (T:=[]) gF B CNm
  have g9:=pD aG gF g8
  have g10:=vQ (P:=l.prog) (w:=w) (mg:=mg) (base:=base) cW B R_Roll
  have g11:=pH (P:=l.prog) (w:=w) (mg:=mg) (base:=base) dY B R_Roll
  have g13:=vN (P:=l.prog) (w:=w) (mg:=mg) (base:=base) (T:=[]) fV R_Roll
  have g14:=tV (P:=l.prog) (w:=w) (mg:=mg) (base:=base) cI B R_Roll
  have g15:=vP (P:=l.prog) (w:=w) (mg:=mg) (base:=base) aQ B R_Roll h_MOST_LICENCES
  have g16:=vV fX B C R_Roll aG g9 d9 g7 aQ g15 cI g14
  have g17:=vU (T:=[]) eO B R_Roll fO g5
  have g22:=Nq (P:=l.prog) (w:=w) (K:=K) (base:=base) fu
  have g23:=G6 (T:=[]) eE B fu g22
  have T8:Em K cX_NotAlone cX_SluiceError cX_TooMuch:=⟨m_NotAlone_SluiceError,i_NotAlone_TooMuch,i_NotAlone_NotAlone,i_NotAlone_ValueError⟩
  have g30:=Fo (P:=l.prog) (w:=w) (base:=base) bA
  have g31:=Np (P:=l.prog) (w:=w) (base:=base) aP
  have g32:=tU (T:=[]) fH B R_Roll cO g6 bA g30 aP g31
  have g33:=pF (P:=l.prog) (w:=w) (base:=base) bM B R_Roll
  have g34:=pG (T:=[]) aD B R_Roll X_NotYours bM g33
  have g35:=vW fY R_Roll aD g34 aP g31
  have g36:=vO fW R_Roll aD g34 aG g9
  have g37:=G7 (P:=l.prog) (w:=w) (base:=base) cV
  have g38:=tX (T:=[]) dJ B R_Roll cV g37 bA g30
  have g39:=vR cX B R_Roll X_TooMuch X_NotAlone aD g34 aG g9 bA g30 dJ g38 aQ g15 aP g31 cI g14
  have g40:=G8 (T:=[]) bO B bL g2
  have g41:=vI aW B R_Roll dY g11 cW g10 bO g40
  have g42:=G3 cu B R_Roll X_NotAlone X_TooMuch X_SluiceError T8 cX g39
  have g43:=vK fj B R_Roll fV g13 fX g16
  have g44:=vJ eZ B R_Roll fW g36 cu g42 aW g41 fH g32 fY g35 cX g39 bL g2
  exact G4 rfl Qc B R_Roll dg g1 eO g17 eE g23 fj g43 eZ g44 aW g41 cW g10
theorem walk {l:PySem.W.OpenLaw} {q:Program} {loose:List Str} {XP:(Str→Option Value)→Heap→Prop} {YP:World→Heap→Prop} {d:DefRec} {K:Params→PySem.W.Frag} (hn:l.most=some 63) (hdf:d.params.defaults=[])
    (hY:∀ (w:World) (h:Heap),YP w h→(K w.params).In h)
    (F:∀ (w:World) (mg:Str→Option Value) (fa:Addr) (h:Heap),(K w.params).In h→h.Ns mainGlobals mg→mg d.name=some (.ref fa) →
      ∃ fd:FuncData,(∀ (s:Shared) (u:Value),BindsTo s fd ⟨[u],[]⟩ [("script",u)])∧∀ base:Heap,(K w.params).In base→base.Ns mainGlobals mg→bW l.prog w (K w.params) mg base CX0 6 fa fd ["script"] (ql (K w.params))) :
    PySem.W.WalkO q loose XP YP l.row.toRowW d [] (fun f vs=>PySem.call f vs) :=
  L2.Et (n:=63) (k:=6) (x:="script") (CX:=fun _=>CX0) (sp:=fun w=>ql (K w.params)) hn (by decide) hdf ⟨rfl,by decide,by decide⟩ hY F (fun _ _ a ns hl _ hS=>⟨a,ns,rfl,hS,hl,fun _=>rfl⟩) fun _ _ _ _ _ z=>z
end My
open PySem PySem.W PyProof.Rows
set_option maxRecDepth 100000 in
set_option maxHeartbeats 0 in
theorem PySem.Challenge.cw_sluice_k53_parted_holds : PySem.Challenge.rw_sluice_k53_parted.Holds := by
  w_on;o_law
  refine PySem.W.holds_open (q:=My.qv) (loose:=My.qz) (Xt:=(fun s=>PySem.W.xlAt My.qv [] s && PySem.W.recOk (PySem.W.RowW.records PySem.Challenge.rw_sluice_k53_parted.row.toRowW) s)) (XP:=PySem.W.XL My.qv []) (Yf:=PySem.W.Hook.obs (PySem.W.kHook My.Kf My.asK My.hkE)) (Ya:=PySem.W.Hook.val (PySem.W.kHook My.Kf My.asK My.hkE)) (YP:=PySem.W.Hook.says (PySem.W.kHook My.Kf My.asK My.hkE)) (N:=6942) My.hlE (PySem.W.Hook.of (PySem.W.kHook My.Kf My.asK My.hkE)) (PySem.W.Hook.keeps (PySem.W.kHook My.Kf My.asK My.hkE)) (fun s e=>PySem.W.xl_of s (Bool.and_eq_true_iff.mp e).1) PySem.W.XL.keeps (by rfl) (by rfl) (by rfl) (fun s e=>PySem.W.recFacts_of (Bool.and_eq_true_iff.mp e).2) (by rfl) (by first | assumption | decide +kernel) (by decide +kernel) ⟨rfl,rfl,rfl,rfl,rfl,by decide +kernel⟩ ?hw ?hc
  case hw=>w_witness2
  k_fill
  refine My.walk (l:=PySem.Challenge.rw_sluice_k53_parted) rfl rfl (fun w h Y=>PySem.W.kIn_of Y) ?F
  case F =>
    intro w mg fa h KX G hmg
    refine' My.all_mk KX G hmg ?a0 ?l0 ?c0 ?k0 ?a1 ?l1 ?c1 ?k1 ?a2 ?l2 ?c2 ?k2 ?a3 ?l3 ?c3 ?k3 ?a4 ?l4 ?c4 ?k4 ?a5 ?l5 ?c5 ?k5 ?a6 ?l6 ?c6 ?k6 ?a7 ?l7 ?c7 ?k7 ?a8 ?l8 ?c8 ?k8 ?a9 ?l9 ?c9 ?k9 ?a10 ?l10 ?c10 ?k10 ?a11 ?l11 ?c11 ?k11 ?a12 ?l12 ?c12 ?k12 ?a13 ?l13 ?c13 ?k13 ?a14 ?l14 ?c14 ?k14 ?a15 ?l15 ?c15 ?k15 ?a16 ?l16 ?c16 ?k16 ?a17 ?l17 ?c17 ?k17 ?a18 ?l18 ?c18 ?k18 ?a19 ?l19 ?c19 ?k19 ?e0 ?e1 ?e2 ?e3 ?e4 ?e5 ?e6 ?n_Roll ?ka_Roll ?kb_Roll ?kc_Roll ?kd_Roll ?ke_Roll ?kf_Roll ?kn_Roll_below ?kn_Roll_day ?kn_Roll_licences ?kn_Roll_names ?kn_Roll_done ?ma_Roll___init__ ?mf_Roll___init__ ?mk_Roll___init__ ?ml_Roll___init__ ?mc_Roll___init__ ?ma_Roll_roll ?mf_Roll_roll ?mk_Roll_roll ?ml_Roll_roll ?mc_Roll_roll ?ma_Roll_holders ?mf_Roll_holders ?mk_Roll_holders ?ml_Roll_holders ?mc_Roll_holders ?ma_Roll_turn ?mf_Roll_turn ?mk_Roll_turn ?ml_Roll_turn ?mc_Roll_turn ?ma_Roll_file ?mf_Roll_file ?mk_Roll_file ?ml_Roll_file ?mc_Roll_file ?mt_Roll_file ?mu_Roll_file ?ma_Roll_sell ?mf_Roll_sell ?mk_Roll_sell ?ml_Roll_sell ?mc_Roll_sell ?ma_Roll_part ?mf_Roll_part ?mk_Roll_part ?ml_Roll_part ?mc_Roll_part ?ma_Roll_drop ?mf_Roll_drop ?mk_Roll_drop ?ml_Roll_drop ?mc_Roll_drop ?ma_Roll_lapse ?mf_Roll_lapse ?mk_Roll_lapse ?ml_Roll_lapse ?mc_Roll_lapse ?ma_Roll_enter ?mf_Roll_enter ?mk_Roll_enter ?ml_Roll_enter ?mc_Roll_enter ?ma_Roll_is_alone ?mf_Roll_is_alone ?mk_Roll_is_alone ?ml_Roll_is_alone ?mc_Roll_is_alone ?ma_Roll_look_at_number ?mf_Roll_look_at_number ?mk_Roll_look_at_number ?ml_Roll_look_at_number ?mc_Roll_look_at_number ?ma_Roll_look_at_holder ?mf_Roll_look_at_holder ?mk_Roll_look_at_holder ?ml_Roll_look_at_holder ?mc_Roll_look_at_holder ?ma_Roll_look_at_room ?mf_Roll_look_at_room ?mk_Roll_look_at_room ?ml_Roll_look_at_room ?mc_Roll_look_at_room ?z_len ?z_range ?z_list ?z_isinstance ?z_bool ?z_int ?z_all ?z_min ?z_max ?z_sum ?z_sorted ?z_zip ?z_tuple ?z_str ?z_any ?z_enumerate ?z_reversed ?z_abs ?z_ValueError ?z_set ?n_SluiceError ?q_SluiceError ?xa_SluiceError ?xb_SluiceError ?xc_SluiceError ?xd_SluiceError ?xe_SluiceError ?xf_SluiceError ?xg_SluiceError ?xh_SluiceError ?n_NotYours ?q_NotYours ?xa_NotYours ?xb_NotYours ?xc_NotYours ?xd_NotYours ?xe_NotYours ?xf_NotYours ?xg_NotYours ?xh_NotYours ?n_NotAlone ?q_NotAlone ?xa_NotAlone ?xb_NotAlone ?xc_NotAlone ?xd_NotAlone ?xe_NotAlone ?xf_NotAlone ?xg_NotAlone ?xh_NotAlone ?n_TooMuch ?q_TooMuch ?xa_TooMuch ?xb_TooMuch ?xc_TooMuch ?xd_TooMuch ?xe_TooMuch ?xf_TooMuch ?xg_TooMuch ?xh_TooMuch ?m_NotAlone_SluiceError ?i_NotAlone_TooMuch ?i_NotAlone_NotAlone ?i_NotAlone_ValueError
    (case a0=>k_is)
    (case l0=>k_is)
    (case c0=>k_is)
    (case k0=>k_is)
    (case a1=>k_is)
    (case l1=>k_is)
    (case c1=>k_is)
    (case k1=>k_is)
    (case a2=>k_is)
    (case l2=>k_is)
    (case c2=>k_is)
    (case k2=>k_is)
    (case a3=>k_is)
    (case l3=>k_is)
    (case c3=>k_is)
    (case k3=>k_is)
    (case a4=>k_is)
    (case l4=>k_is)
    (case c4=>k_is)
    (case k4=>k_is)
    (case a5=>k_is)
    (case l5=>k_is)
    (case c5=>k_is)
    (case k5=>k_is)
    (case a6=>k_is)
    (case l6=>k_is)
    (case c6=>k_is)
    (case k6=>k_is)
    (case a7=>k_is)
    (case l7=>k_is)
    (case c7=>k_is)
    (case k7=>k_is)
    (case a8=>k_is)
    (case l8=>k_is)
    (case c8=>k_is)
    (case k8=>k_is)
    (case a9=>k_is)
    (case l9=>k_is)
    (case c9=>k_is)
    (case k9=>k_is)
    (case a10=>k_is)
    (case l10=>k_is)
    (case c10=>k_is)
    (case k10=>k_is)
    (case a11=>k_is)
    (case l11=>k_is)
    (case c11=>k_is)
    (case k11=>k_is)
    (case a12=>k_is)
    (case l12=>k_is)
    (case c12=>k_is)
    (case k12=>k_is)
    (case a13=>k_is)
    (case l13=>k_is)
    (case c13=>k_is)
    (case k13=>k_is)
    (case a14=>k_is)
    (case l14=>k_is)
    (case c14=>k_is)
    (case k14=>k_is)
    (case a15=>k_is)
    (case l15=>k_is)
    (case c15=>k_is)
    (case k15=>k_is)
    (case a16=>k_is)
    (case l16=>k_is)
    (case c16=>k_is)
    (case k16=>k_is)
    (case a17=>k_is)
    (case l17=>k_is)
    (case c17=>k_is)
    (case k17=>k_is)
    (case a18=>k_is)
    (case l18=>k_is)
    (case c18=>k_is)
    (case k18=>k_is)
    (case a19=>k_is)
    (case l19=>k_is)
    (case c19=>k_is)
    (case k19=>k_is)
    (case e0=>k_is)
    (case e1=>k_is)
    (case e2=>k_is)
    (case e3=>k_is)
    (case e4=>k_is)
    (case e5=>k_is)
    (case e6=>k_is)
    (case n_Roll=>k_is)
    (case ka_Roll=>(first | k_is | kernel_rfl | rfl))
    (case kb_Roll=>(first | k_is | kernel_rfl | rfl))
    (case kc_Roll=>(first | k_is | kernel_rfl | rfl))
    (case kd_Roll=>(first | k_is | kernel_rfl | rfl))
    (case ke_Roll=>(first | k_is | kernel_rfl | rfl))
    (case kf_Roll=>(first | k_is | kernel_rfl | rfl))
    (case kn_Roll_below=>(first | k_is | kernel_rfl | rfl))
    (case kn_Roll_day=>(first | k_is | kernel_rfl | rfl))
    (case kn_Roll_licences=>(first | k_is | kernel_rfl | rfl))
    (case kn_Roll_names=>(first | k_is | kernel_rfl | rfl))
    (case kn_Roll_done=>(first | k_is | kernel_rfl | rfl))
    (case ma_Roll___init__=>k_is)
    (case mf_Roll___init__=>(first | k_is | kernel_rfl | rfl))
    (case mk_Roll___init__=>k_is)
    (case ml_Roll___init__=>k_is)
    (case mc_Roll___init__=>k_is)
    (case ma_Roll_roll=>k_is)
    (case mf_Roll_roll=>(first | k_is | kernel_rfl | rfl))
    (case mk_Roll_roll=>k_is)
    (case ml_Roll_roll=>k_is)
    (case mc_Roll_roll=>k_is)
    (case ma_Roll_holders=>k_is)
    (case mf_Roll_holders=>(first | k_is | kernel_rfl | rfl))
    (case mk_Roll_holders=>k_is)
    (case ml_Roll_holders=>k_is)
    (case mc_Roll_holders=>k_is)
    (case ma_Roll_turn=>k_is)
    (case mf_Roll_turn=>(first | k_is | kernel_rfl | rfl))
    (case mk_Roll_turn=>k_is)
    (case ml_Roll_turn=>k_is)
    (case mc_Roll_turn=>k_is)
    (case ma_Roll_file=>k_is)
    (case mf_Roll_file=>(first | k_is | kernel_rfl | rfl))
    (case mk_Roll_file=>k_is)
    (case ml_Roll_file=>k_is)
    (case mc_Roll_file=>k_is)
    (case mt_Roll_file=>k_is)
    (case mu_Roll_file=>exact ⟨_,rfl⟩)
    (case ma_Roll_sell=>k_is)
    (case mf_Roll_sell=>(first | k_is | kernel_rfl | rfl))
    (case mk_Roll_sell=>k_is)
    (case ml_Roll_sell=>k_is)
    (case mc_Roll_sell=>k_is)
    (case ma_Roll_part=>k_is)
    (case mf_Roll_part=>(first | k_is | kernel_rfl | rfl))
    (case mk_Roll_part=>k_is)
    (case ml_Roll_part=>k_is)
    (case mc_Roll_part=>k_is)
    (case ma_Roll_drop=>k_is)
    (case mf_Roll_drop=>(first | k_is | kernel_rfl | rfl))
    (case mk_Roll_drop=>k_is)
    (case ml_Roll_drop=>k_is)
    (case mc_Roll_drop=>k_is)
    (case ma_Roll_lapse=>k_is)
    (case mf_Roll_lapse=>(first | k_is | kernel_rfl | rfl))
    (case mk_Roll_lapse=>k_is)
    (case ml_Roll_lapse=>k_is)
    (case mc_Roll_lapse=>k_is)
    (case ma_Roll_enter=>k_is)
    (case mf_Roll_enter=>(first | k_is | kernel_rfl | rfl))
    (case mk_Roll_enter=>k_is)
    (case ml_Roll_enter=>k_is)
    (case mc_Roll_enter=>k_is)
    (case ma_Roll_is_alone=>k_is)
    (case mf_Roll_is_alone=>(first | k_is | kernel_rfl | rfl))
    (case mk_Roll_is_alone=>k_is)
    (case ml_Roll_is_alone=>k_is)
    (case mc_Roll_is_alone=>k_is)
    (case ma_Roll_look_at_number=>k_is)
    (case mf_Roll_look_at_number=>(first | k_is | kernel_rfl | rfl))
    (case mk_Roll_look_at_number=>k_is)
    (case ml_Roll_look_at_number=>k_is)
    (case mc_Roll_look_at_number=>k_is)
    (case ma_Roll_look_at_holder=>k_is)
    (case mf_Roll_look_at_holder=>(first | k_is | kernel_rfl | rfl))
    (case mk_Roll_look_at_holder=>k_is)
    (case ml_Roll_look_at_holder=>k_is)
    (case mc_Roll_look_at_holder=>k_is)
    (case ma_Roll_look_at_room=>k_is)
    (case mf_Roll_look_at_room=>(first | k_is | kernel_rfl | rfl))
    (case mk_Roll_look_at_room=>k_is)
    (case ml_Roll_look_at_room=>k_is)
    (case mc_Roll_look_at_room=>k_is)
    (case z_len=>k_is)
    (case z_range=>k_is)
    (case z_list=>k_is)
    (case z_isinstance=>k_is)
    (case z_bool=>k_is)
    (case z_int=>k_is)
    (case z_all=>k_is)
    (case z_min=>k_is)
    (case z_max=>k_is)
    (case z_sum=>k_is)
    (case z_sorted=>k_is)
    (case z_zip=>k_is)
    (case z_tuple=>k_is)
    (case z_str=>k_is)
    (case z_any=>k_is)
    (case z_enumerate=>k_is)
    (case z_reversed=>k_is)
    (case z_abs=>k_is)
    (case z_ValueError=>k_is)
    (case z_set=>k_is)
    (case n_SluiceError=>k_is)
    (case q_SluiceError=>(first | k_is | kernel_rfl))
    (case xa_SluiceError=>(first | k_is | kernel_rfl))
    (case xb_SluiceError=>(first | k_is | kernel_rfl))
    (case xc_SluiceError=>(first | k_is | kernel_rfl))
    (case xd_SluiceError=>(first | k_is | kernel_rfl))
    (case xe_SluiceError=>(first | k_is | kernel_rfl))
    (case xf_SluiceError=>(first | k_is | kernel_rfl))
    (case xg_SluiceError=>(first | k_is | kernel_rfl))
    (case xh_SluiceError=>(first | k_is | kernel_rfl))
    (case n_NotYours=>k_is)
    (case q_NotYours=>(first | k_is | kernel_rfl))
    (case xa_NotYours=>(first | k_is | kernel_rfl))
    (case xb_NotYours=>(first | k_is | kernel_rfl))
    (case xc_NotYours=>(first | k_is | kernel_rfl))
    (case xd_NotYours=>(first | k_is | kernel_rfl))
    (case xe_NotYours=>(first | k_is | kernel_rfl))
    (case xf_NotYours=>(first | k_is | kernel_rfl))
    (case xg_NotYours=>(first | k_is | kernel_rfl))
    (case xh_NotYours=>(first | k_is | kernel_rfl))
    (case n_NotAlone=>k_is)
    (case q_NotAlone=>(first | k_is | kernel_rfl))
    (case xa_NotAlone=>(first | k_is | kernel_rfl))
    (case xb_NotAlone=>(first | k_is | kernel_rfl))
    (case xc_NotAlone=>(first | k_is | kernel_rfl))
    (case xd_NotAlone=>(first | k_is | kernel_rfl))
    (case xe_NotAlone=>(first | k_is | kernel_rfl))
    (case xf_NotAlone=>(first | k_is | kernel_rfl))
    (case xg_NotAlone=>(first | k_is | kernel_rfl))
    (case xh_NotAlone=>(first | k_is | kernel_rfl))
    (case n_TooMuch=>k_is)
    (case q_TooMuch=>(first | k_is | kernel_rfl))
    (case xa_TooMuch=>(first | k_is | kernel_rfl))
    (case xb_TooMuch=>(first | k_is | kernel_rfl))
    (case xc_TooMuch=>(first | k_is | kernel_rfl))
    (case xd_TooMuch=>(first | k_is | kernel_rfl))
    (case xe_TooMuch=>(first | k_is | kernel_rfl))
    (case xf_TooMuch=>(first | k_is | kernel_rfl))
    (case xg_TooMuch=>(first | k_is | kernel_rfl))
    (case xh_TooMuch=>(first | k_is | kernel_rfl))
    (case m_NotAlone_SluiceError=>(first | k_is | kernel_rfl))
    (case i_NotAlone_TooMuch=>(first | k_is | kernel_rfl))
    (case i_NotAlone_NotAlone=>(first | k_is | kernel_rfl))
    (case i_NotAlone_ValueError=>(first | k_is | kernel_rfl))
