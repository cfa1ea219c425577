import PyProof.Rows.All
import Wide.All
import OpenK.AllK
import Wide.FinOn
import Lean
import PyProof.EqAt
import PyProof.EqKinds
import PyProof.TupleCall
import KE.KSortTup
import PySem.Challenge.RW_sluice_k52_sold_and_dropped
set_option Elab.async false
set_option linter.all false
set_option maxRecDepth 100000
set_option maxHeartbeats 4000000
local macro_rules | `(tactic| omega) => `(tactic| first | lia | omega (splitDisjunctions := true))
namespace L2
open PySem
def inClass (s:Stmt) (j:Nat):Stmt:=match s with
  | .ClassDef _ _ _ body _ _ _ _ _ _ _=>body.getD j (.Pass ⟨0,0,0,0⟩)
  | _=>.Pass ⟨0,0,0,0⟩
def aq (s:Stmt):Arguments:=match s with
  | .FunctionDef _ a _ _ _ _ _ _ _ _=>a
  | _=>{ posonlyargs:=[],args:=[],vararg:=none,kwonlyargs:=[],kw_defaults:=[],kwarg:=none,defaults:=[] }
def ao (s:Stmt):List Stmt:=match s with
  | .FunctionDef _ _ b _ _ _ _ _ _ _=>b
  | _=>[]
def ak (s:Stmt):Scope:=match s with
  | .FunctionDef _ _ _ _ _ _ sc _ _ _=>sc
  | _=>{ kind:=.function,names:=[],isGenerator:=false,isCoroutine:=false }
end L2
namespace My
open PySem L2
noncomputable def top0 (i:Nat):Stmt:=PySem.Challenge.pw_sluice_k52_sold_and_dropped.main.body.getD i (.Pass ⟨0,0,0,0⟩)
noncomputable def en (P:Params) (x:Str) (t:Tok) (v:Value):DictEntry:=⟨PyData.keyHash P x,.str x t,v⟩
noncomputable section
def tq (a:Array Value):Obj:={ cls:=.type "tuple",data:=.seq a }
def fc (a:Array Value):Obj:={ cls:=.type "code",data:=.fields a }
def cp (n:Nat):Value:=.str "/claim/cut.py" n
def pr0 (x:Str) (i:Nat):Obj:={ cls:=.none,data:=.func { name:=x,qualname:=x,params:=aq (top0 i),body:=.stmts (ao (top0 i)),scope:=ak (top0 i),globals:=0,closure:=[],defaults:=.none,kwdefaults:=.none } }
def Qw (P:Params):Obj:={ cls:=.type "dict",data:=Data.dict #[en P "__name__" 1 (.str "builtins" 160),en P "__doc__" 2 (.builtin "builtins.__doc__:str#opaque"),en P "__package__" 3 (.builtin "builtins.__package__:str#opaque"),en P "__loader__" 4 (.builtin "builtins.__loader__:shared#opaque"),en P "__spec__" 5 (.builtin "builtins.__spec__#opaque"),en P "__build_class__" 6 (.builtin "__build_class__"),en P "__import__" 7 (.builtin "__import__"),en P "abs" 8 (.builtin "abs"),en P "all" 9 (.builtin "all"),en P "any" 10 (.builtin "any"),en P "ascii" 11 (.builtin "ascii"),en P "bin" 12 (.builtin "bin"),en P "breakpoint" 13 (.builtin "breakpoint"),en P "callable" 14 (.builtin "callable"),en P "chr" 15 (.builtin "chr"),en P "compile" 16 (.builtin "compile"),en P "delattr" 17 (.builtin "delattr"),en P "dir" 18 (.builtin "dir"),en P "divmod" 19 (.builtin "divmod"),en P "eval" 20 (.builtin "eval"),en P "exec" 21 (.builtin "exec"),en P "format" 22 (.builtin "format"),en P "getattr" 23 (.builtin "getattr"),en P "globals" 24 (.builtin "globals"),en P "hasattr" 25 (.builtin "hasattr"),en P "hash" 26 (.builtin "hash"),en P "hex" 27 (.builtin "hex"),en P "id" 28 (.builtin "id"),en P "input" 29 (.builtin "input"),en P "isinstance" 30 (.builtin "isinstance"),en P "issubclass" 31 (.builtin "issubclass"),en P "iter" 32 (.builtin "iter"),en P "aiter" 33 (.builtin "aiter"),en P "len" 34 (.builtin "len"),en P "locals" 35 (.builtin "locals"),en P "max" 36 (.builtin "max"),en P "min" 37 (.builtin "min"),en P "next" 38 (.builtin "next"),en P "anext" 39 (.builtin "anext"),en P "oct" 40 (.builtin "oct"),en P "ord" 41 (.builtin "ord"),en P "pow" 42 (.builtin "pow"),en P "print" 43 (.builtin "print"),en P "repr" 44 (.builtin "repr"),en P "round" 45 (.builtin "round"),en P "setattr" 46 (.builtin "setattr"),en P "sorted" 47 (.builtin "sorted"),en P "sum" 48 (.builtin "sum"),en P "vars" 49 (.builtin "vars"),en P "None" 50 .none,en P "Ellipsis" 51 .ellipsis,en P "NotImplemented" 52 .notImplemented,en P "False" 53 (.bool false),en P "True" 54 (.bool true),en P "bool" 55 (.type "bool"),en P "memoryview" 56 (.type "memoryview"),en P "bytearray" 57 (.type "bytearray"),en P "bytes" 58 (.type "bytes"),en P "classmethod" 59 (.type "classmethod"),en P "complex" 60 (.type "complex"),en P "dict" 61 (.type "dict"),en P "enumerate" 62 (.type "enumerate"),en P "filter" 63 (.type "filter"),en P "float" 64 (.type "float"),en P "frozenset" 65 (.type "frozenset"),en P "property" 66 (.type "property"),en P "int" 67 (.type "int"),en P "list" 68 (.type "list"),en P "map" 69 (.type "map"),en P "object" 70 (.type "object"),en P "range" 71 (.type "range"),en P "reversed" 72 (.type "reversed"),en P "set" 73 (.type "set"),en P "slice" 74 (.type "slice"),en P "staticmethod" 75 (.type "staticmethod"),en P "str" 76 (.type "str"),en P "super" 77 (.type "super"),en P "tuple" 78 (.type "tuple"),en P "type" 79 (.type "type"),en P "zip" 80 (.type "zip"),en P "__debug__" 81 (.bool true),en P "BaseException" 82 (.type "BaseException"),en P "BaseExceptionGroup" 83 (.type "BaseExceptionGroup"),en P "Exception" 84 (.type "Exception"),en P "GeneratorExit" 85 (.type "GeneratorExit"),en P "KeyboardInterrupt" 86 (.type "KeyboardInterrupt"),en P "SystemExit" 87 (.type "SystemExit"),en P "ArithmeticError" 88 (.type "ArithmeticError"),en P "AssertionError" 89 (.type "AssertionError"),en P "AttributeError" 90 (.type "AttributeError"),en P "BufferError" 91 (.type "BufferError"),en P "EOFError" 92 (.type "EOFError"),en P "ImportError" 93 (.type "ImportError"),en P "LookupError" 94 (.type "LookupError"),en P "MemoryError" 95 (.type "MemoryError"),en P "NameError" 96 (.type "NameError"),en P "OSError" 97 (.type "OSError"),en P "ReferenceError" 98 (.type "ReferenceError"),en P "RuntimeError" 99 (.type "RuntimeError"),en P "StopAsyncIteration" 100 (.type "StopAsyncIteration"),en P "StopIteration" 101 (.type "StopIteration"),en P "SyntaxError" 102 (.type "SyntaxError"),en P "SystemError" 103 (.type "SystemError"),en P "TypeError" 104 (.type "TypeError"),en P "ValueError" 105 (.type "ValueError"),en P "Warning" 106 (.type "Warning"),en P "FloatingPointError" 107 (.type "FloatingPointError"),en P "OverflowError" 108 (.type "OverflowError"),en P "ZeroDivisionError" 109 (.type "ZeroDivisionError"),en P "BytesWarning" 110 (.type "BytesWarning"),en P "DeprecationWarning" 111 (.type "DeprecationWarning"),en P "EncodingWarning" 112 (.type "EncodingWarning"),en P "FutureWarning" 113 (.type "FutureWarning"),en P "ImportWarning" 114 (.type "ImportWarning"),en P "PendingDeprecationWarning" 115 (.type "PendingDeprecationWarning"),en P "ResourceWarning" 116 (.type "ResourceWarning"),en P "RuntimeWarning" 117 (.type "RuntimeWarning"),en P "SyntaxWarning" 118 (.type "SyntaxWarning"),en P "UnicodeWarning" 119 (.type "UnicodeWarning"),en P "UserWarning" 120 (.type "UserWarning"),en P "BlockingIOError" 121 (.type "BlockingIOError"),en P "ChildProcessError" 122 (.type "ChildProcessError"),en P "ConnectionError" 123 (.type "ConnectionError"),en P "FileExistsError" 124 (.type "FileExistsError"),en P "FileNotFoundError" 125 (.type "FileNotFoundError"),en P "InterruptedError" 126 (.type "InterruptedError"),en P "IsADirectoryError" 127 (.type "IsADirectoryError"),en P "NotADirectoryError" 128 (.type "NotADirectoryError"),en P "PermissionError" 129 (.type "PermissionError"),en P "ProcessLookupError" 130 (.type "ProcessLookupError"),en P "TimeoutError" 131 (.type "TimeoutError"),en P "IndentationError" 132 (.type "IndentationError"),en P "_IncompleteInputError" 133 (.type "_IncompleteInputError"),en P "IndexError" 134 (.type "IndexError"),en P "KeyError" 135 (.type "KeyError"),en P "ModuleNotFoundError" 136 (.type "ModuleNotFoundError"),en P "NotImplementedError" 137 (.type "NotImplementedError"),en P "PythonFinalizationError" 138 (.type "PythonFinalizationError"),en P "RecursionError" 139 (.type "RecursionError"),en P "UnboundLocalError" 140 (.type "UnboundLocalError"),en P "UnicodeError" 141 (.type "UnicodeError"),en P "BrokenPipeError" 142 (.type "BrokenPipeError"),en P "ConnectionAbortedError" 143 (.type "ConnectionAbortedError"),en P "ConnectionRefusedError" 144 (.type "ConnectionRefusedError"),en P "ConnectionResetError" 145 (.type "ConnectionResetError"),en P "TabError" 146 (.type "TabError"),en P "UnicodeDecodeError" 147 (.type "UnicodeDecodeError"),en P "UnicodeEncodeError" 148 (.type "UnicodeEncodeError"),en P "UnicodeTranslateError" 149 (.type "UnicodeTranslateError"),en P "ExceptionGroup" 150 (.type "ExceptionGroup"),en P "EnvironmentError" 151 (.type "OSError"),en P "IOError" 152 (.type "OSError"),en P "open" 153 (.builtin "open"),en P "quit" 154 (.builtin "builtins.quit#opaque"),en P "exit" 155 (.builtin "builtins.exit#opaque"),en P "copyright" 156 (.builtin "builtins.copyright#opaque"),en P "credits" 157 (.builtin "builtins.credits#opaque"),en P "license" 158 (.builtin "builtins.license#opaque"),en P "help" 159 (.builtin "builtins.help#opaque")] 159 }
def Qv (P:Params):Obj:={ cls:=.type "dict",data:=Data.dict #[en P "builtins" 162 (.ref 4),en P "__main__" 163 (.ref 5)] 2 }
def Pr (P:Params):Obj:={ cls:=.none,data:=Data.dict #[] }
def ho_4 (P:Params):Obj:={ cls:=.type "dict",data:=Data.dict #[en P "__name__" 165 (.str "__main__" 164),en P "__doc__" 166 .none,en P "__package__" 167 .none,en P "__loader__" 168 (.builtin "__main__.__loader__#opaque"),en P "__spec__" 169 .none,en P "__annotations__" 170 (.ref 6),en P "__builtins__" 171 (.ref 4),en P "__file__" 173 (cp 172),en P "__cached__" 174 .none] 9 }
def Qu (P:Params):Obj:={ cls:=.type "module",dict:=some 0 }
def Qt (P:Params):Obj:={ cls:=.type "module",dict:=some 3 }
def Qs (P:Params):Obj:={ cls:=.type "dict",data:=Data.dict #[] }
def Qq (P:Params):Obj:=(tq #[])
def Qp (P:Params):Obj:={ cls:=.none,data:=Data.fields #[] }
def Mt (P:Params):Obj:=(fc #[.str "<module>" 176,.str "<module>" 177,cp 178,.int 1 0,.int 0 0,.int 0 0,.int 0 0,.int 0 0,.ref 7,.bool false,.int 175 0,.ref 8,.none,.none,.none,.none,.int 179 0,.int 1 0,cp 180])
def Mh (P:Params):Obj:={ cls:=.type "frame",slots:=#[some (.ref 9),some (.ref 3),some (.ref 3),none,some (.str "__main__" 164),none,some (.ref 0)] }
def Lp (P:Params):Obj:={ cls:=.type "dict",data:=Data.dict #[en P "__name__" 165 (.str "law_sluice_k52_sold_and_dropped" 631),en P "__doc__" 166 .none,en P "__package__" 167 .none,en P "__loader__" 168 (.builtin "__main__.__loader__#opaque"),en P "__spec__" 169 .none,en P "__annotations__" 170 (.ref 6),en P "__builtins__" 171 (.ref 4),en P "__file__" 173 (cp 172),en P "__cached__" 174 .none,en P "_wall" 193 (.ref 21),en P "MOST_WATER" 197 (.int 1000000000000 196),en P "LONGEST_NAME" 199 (.int 8 198),en P "LETTERS" 201 (.str "abcdefghijklmnopqrstuvwxyz" 200),en P "is_water" 208 (.ref 28),en P "is_name" 214 (.ref 33),en P "SluiceError" 234 (.ref 43),en P "NoRiver" 250 (.ref 56),en P "NoLicence" 266 (.ref 68),en P "NoNumber" 282 (.ref 80),en P "NoHolder" 298 (.ref 92),en P "NotYours" 314 (.ref 104),en P "NotAlone" 330 (.ref 116),en P "TooMuch" 346 (.ref 128),en P "Full" 362 (.ref 140),en P "MOST_REACHES" 366 (.int 40 365),en P "MOUTH" 369 (.int (-1) 368),en P "comes_to_mouth" 379 (.ref 149),en P "is_river" 385 (.ref 154),en P "way_of" 394 (.ref 161),en P "LAST_DAY" 398 (.int 1000000 397),en P "is_licence" 410 (.ref 168),en P "day_filed" 417 (.ref 175),en P "most_of" 424 (.ref 182),en P "with_start" 432 (.ref 189),en P "with_most" 440 (.ref 196),en P "MOST_LICENCES" 444 (.int 60 443),en P "look_at_name" 451 (.ref 203),en P "Roll" 630 (.ref 338),en P "_law_cell_at" 640 (.ref 349),en P "_law_whole" 647 (.ref 356),en P "_law_draw" 656 (.ref 363),en P "_law_draws" 662 (.ref 368),en P "_law_names" 668 (.ref 373),en P "_law_alike_lines" 674 (.ref 378),en P "_law_right" 680 (.ref 383),en P "_law_not_yours" 693 (.ref 390),en P "_law_begun" 709 (.ref 397),en P "law" 715 (.ref 402)] 48 }
def PL (P:Params):Obj:=(tq #[])
def PK (P:Params):Obj:={ cls:=.none,data:=Data.fields #[.int 1 0,.int 0 0,.ref 20,.int 8 0,.int 0 0,.ref 27,.int 10 0,.int 0 0,.ref 32,.int 13 0,.int 0 0,.ref 39,.int 15 0,.int 0 0,.ref 52,.int 17 0,.int 0 0,.ref 64,.int 19 0,.int 0 0,.ref 76,.int 21 0,.int 0 0,.ref 88,.int 23 0,.int 0 0,.ref 100,.int 25 0,.int 0 0,.ref 112,.int 27 0,.int 0 0,.ref 124,.int 29 0,.int 0 0,.ref 136,.int 34 0,.int 0 0,.ref 148,.int 41 0,.int 0 0,.ref 153,.int 47 0,.int 0 0,.ref 160,.int 54 0,.int 0 0,.ref 167,.int 59 0,.int 0 0,.ref 174,.int 61 0,.int 0 0,.ref 181,.int 63 0,.int 0 0,.ref 188,.int 65 0,.int 0 0,.ref 195,.int 69 0,.int 0 0,.ref 202,.int 72 0,.int 0 0,.ref 209,.int 171 0,.int 0 0,.ref 348,.int 175 0,.int 0 0,.ref 355,.int 177 0,.int 0 0,.ref 362,.int 180 0,.int 0 0,.ref 367,.int 182 0,.int 0 0,.ref 372,.int 188 0,.int 0 0,.ref 377,.int 197 0,.int 0 0,.ref 382,.int 207 0,.int 0 0,.ref 389,.int 221 0,.int 0 0,.ref 396,.int 235 0,.int 0 0,.ref 401] }
def PJ (P:Params):Obj:=(fc #[.str "<module>" 182,.str "<module>" 183,cp 184,.int 1 0,.int 0 0,.int 0 0,.int 0 0,.int 0 0,.ref 11,.bool false,.int 181 0,.ref 12,.none,.none,.none,.none,.int 185 0,.int 1 0,cp 186])
def PB (P:Params):Obj:={ cls:=.type "frame",slots:=#[some (.ref 13),some (.ref 3),some (.ref 3),none,some (.str "__main__" 164),none,some (.ref 0)] }
def KY (P:Params):Obj:=(tq #[])
def Pz (P:Params):Obj:={ cls:=.none,data:=Data.fields #[] }
def KC (P:Params):Obj:=(tq #[.str "k" 190])
def Ks (P:Params):Obj:=(tq #[])
def Py (P:Params):Obj:=(pr0 "_wall" 0)
def Kd (P:Params):Obj:=(fc #[.str "_wall" 187,.str "_wall" 188,cp 189,.int 1 0,.int 1 0,.int 0 0,.int 0 0,.int 3 0,.ref 15,.bool true,.int 181 0,.ref 16,.none,.ref 17,.ref 18,.ref 19,.int 191 0,.int 1 0,cp 192])
def J8 (P:Params):Obj:=⟨.type "function",none,.func (PySem.W.fnOf "_wall" "_wall" (aq (top0 0)) (ao (top0 0)) (ak (top0 0)) .none .none .none (.str "__main__" 164) none (.ref 20) .none),#[]⟩
def J5 (P:Params):Obj:=(tq #[])
def Px (P:Params):Obj:={ cls:=.none,data:=Data.fields #[] }
def JX (P:Params):Obj:=(tq #[.str "amount" 205])
def JR (P:Params):Obj:=(tq #[])
def Pu (P:Params):Obj:=(pr0 "is_water" 5)
def JH (P:Params):Obj:=(fc #[.str "is_water" 202,.str "is_water" 203,cp 204,.int 8 0,.int 1 0,.int 0 0,.int 0 0,.int 3 0,.ref 22,.bool true,.int 181 0,.ref 23,.none,.ref 24,.ref 25,.ref 26,.int 206 0,.int 8 0,cp 207])
def JC (P:Params):Obj:=⟨.type "function",none,.func (PySem.W.fnOf "is_water" "is_water" (aq (top0 5)) (ao (top0 5)) (ak (top0 5)) .none .none .none (.str "sluice.bounds" 194) none (.ref 27) .none),#[]⟩
def Jw (P:Params):Obj:=(tq #[])
def Pq (P:Params):Obj:={ cls:=.none,data:=Data.fields #[] }
def Pn (P:Params):Obj:=(pr0 "is_name" 6)
def Jm (P:Params):Obj:=(fc #[.str "is_name" 209,.str "is_name" 210,cp 211,.int 10 0,.int 1 0,.int 0 0,.int 0 0,.int 3 0,.ref 29,.bool true,.int 181 0,.ref 30,.none,.none,.none,.ref 31,.int 212 0,.int 10 0,cp 213])
def Ji (P:Params):Obj:=⟨.type "function",none,.func (PySem.W.fnOf "is_name" "is_name" (aq (top0 6)) (ao (top0 6)) (ak (top0 6)) .none .none .none (.str "sluice.bounds" 194) none (.ref 32) .none),#[]⟩
def Jd (P:Params):Obj:=(tq #[.type "ValueError"])
def Pk (P:Params):Obj:={ cls:=.type "builtin_function_or_method",data:=Data.fields #[.builtin "type.__prepare__",.type "type"] }
def Pj (P:Params):Obj:={ cls:=.type "dict",data:=Data.dict #[en P "__module__" 224 (.str "sluice.errors" 215),en P "__qualname__" 226 (.str "SluiceError" 225),en P "__firstlineno__" 228 (.int 13 227),en P "__static_attributes__" 229 (.ref 41)] 4 }
def Ph (P:Params):Obj:=(tq #[])
def Pg (P:Params):Obj:={ cls:=.none,data:=Data.fields #[] }
def Pb (P:Params):Obj:=(fc #[.str "SluiceError" 219,.str "SluiceError" 220,cp 221,.int 13 0,.int 0 0,.int 0 0,.int 0 0,.int 0 0,.ref 37,.bool false,.int 181 0,.ref 38,.none,.none,.none,.none,.int 222 0,.int 13 0,cp 223])
def Pa (P:Params):Obj:={ cls:=.type "frame",slots:=#[some (.ref 39),some (.ref 3),some (.ref 36),none,some (.str "sluice.errors" 215),none,some (.ref 0)] }
def Im (P:Params):Obj:=(tq #[])
def Il (P:Params):Obj:={ cls:=.type "dict",data:=Data.dict #[en P "__module__" 224 (.str "sluice.errors" 215),en P "__firstlineno__" 228 (.int 13 227),en P "__static_attributes__" 229 (.ref 41),en P "__weakref__" 231 (.ref 44),en P "__doc__" 232 .none] 3 }
def Ik (P:Params):Obj:={ cls:=.type "type",data:=Data.cls { name:="SluiceError",bases:=[.type "ValueError"],mro:=[.ref 43,.type "ValueError",.type "Exception",.type "BaseException",.type "object"],ns:=42,qualname:="SluiceError",subclasses:=[.ref 56,.ref 68,.ref 80,.ref 92,.ref 104,.ref 116,.ref 128,.ref 140] },slots:=#[some (.ref 34),none,some (.str "SluiceError" 217),some (.str "SluiceError" 225),some (.builtin "ValueError.__new__"),some (.bool true)] }
def Ij (P:Params):Obj:={ cls:=.type "getset_descriptor",data:=Data.fields #[.str "__weakref__" 230,.ref 43,.builtin "ExceptionGroup.__weakref__",.none] }
def O9 (P:Params):Obj:={ cls:=.type "super",data:=Data.fields #[.ref 43,.ref 43,.ref 43] }
def O8 (P:Params):Obj:={ cls:=.type "builtin_function_or_method",data:=Data.fields #[.builtin "object.__init_subclass__",.ref 43] }
def Ii (P:Params):Obj:=(tq #[.ref 43])
def O7 (P:Params):Obj:={ cls:=.type "builtin_function_or_method",data:=Data.fields #[.builtin "type.__prepare__",.type "type"] }
def O6 (P:Params):Obj:={ cls:=.type "dict",data:=Data.dict #[en P "__module__" 242 (.str "sluice.errors" 215),en P "__qualname__" 244 (.str "NoRiver" 243),en P "__firstlineno__" 246 (.int 15 245),en P "__static_attributes__" 247 (.ref 54)] 4 }
def O4 (P:Params):Obj:=(tq #[])
def O1 (P:Params):Obj:={ cls:=.none,data:=Data.fields #[] }
def OJ (P:Params):Obj:=(fc #[.str "NoRiver" 237,.str "NoRiver" 238,cp 239,.int 15 0,.int 0 0,.int 0 0,.int 0 0,.int 0 0,.ref 50,.bool false,.int 181 0,.ref 51,.none,.none,.none,.none,.int 240 0,.int 15 0,cp 241])
def OD (P:Params):Obj:={ cls:=.type "frame",slots:=#[some (.ref 52),some (.ref 3),some (.ref 49),none,some (.str "sluice.errors" 215),none,some (.ref 0)] }
def Ih (P:Params):Obj:=(tq #[])
def Ig (P:Params):Obj:={ cls:=.type "dict",data:=Data.dict #[en P "__module__" 242 (.str "sluice.errors" 215),en P "__firstlineno__" 246 (.int 15 245),en P "__static_attributes__" 247 (.ref 54),en P "__doc__" 248 .none] 2 }
def Ie (P:Params):Obj:={ cls:=.type "type",data:=Data.cls { name:="NoRiver",bases:=[.ref 43],mro:=[.ref 56,.ref 43,.type "ValueError",.type "Exception",.type "BaseException",.type "object"],ns:=55,qualname:="NoRiver" },slots:=#[some (.ref 47),none,some (.str "NoRiver" 235),some (.str "NoRiver" 243),some (.builtin "ValueError.__new__"),some (.bool true)] }
def Oz (P:Params):Obj:={ cls:=.type "super",data:=Data.fields #[.ref 56,.ref 56,.ref 56] }
def Ox (P:Params):Obj:={ cls:=.type "builtin_function_or_method",data:=Data.fields #[.builtin "object.__init_subclass__",.ref 56] }
def Ib (P:Params):Obj:=(tq #[.ref 43])
def Ov (P:Params):Obj:={ cls:=.type "builtin_function_or_method",data:=Data.fields #[.builtin "type.__prepare__",.type "type"] }
def Ou (P:Params):Obj:={ cls:=.type "dict",data:=Data.dict #[en P "__module__" 258 (.str "sluice.errors" 215),en P "__qualname__" 260 (.str "NoLicence" 259),en P "__firstlineno__" 262 (.int 17 261),en P "__static_attributes__" 263 (.ref 66)] 4 }
def Ot (P:Params):Obj:=(tq #[])
def Oq (P:Params):Obj:={ cls:=.none,data:=Data.fields #[] }
def Oo (P:Params):Obj:=(fc #[.str "NoLicence" 253,.str "NoLicence" 254,cp 255,.int 17 0,.int 0 0,.int 0 0,.int 0 0,.int 0 0,.ref 62,.bool false,.int 181 0,.ref 63,.none,.none,.none,.none,.int 256 0,.int 17 0,cp 257])
def Om (P:Params):Obj:={ cls:=.type "frame",slots:=#[some (.ref 64),some (.ref 3),some (.ref 61),none,some (.str "sluice.errors" 215),none,some (.ref 0)] }
def Ia (P:Params):Obj:=(tq #[])
def HY (P:Params):Obj:={ cls:=.type "dict",data:=Data.dict #[en P "__module__" 258 (.str "sluice.errors" 215),en P "__firstlineno__" 262 (.int 17 261),en P "__static_attributes__" 263 (.ref 66),en P "__doc__" 264 .none] 2 }
def HX (P:Params):Obj:={ cls:=.type "type",data:=Data.cls { name:="NoLicence",bases:=[.ref 43],mro:=[.ref 68,.ref 43,.type "ValueError",.type "Exception",.type "BaseException",.type "object"],ns:=67,qualname:="NoLicence" },slots:=#[some (.ref 59),none,some (.str "NoLicence" 251),some (.str "NoLicence" 259),some (.builtin "ValueError.__new__"),some (.bool true)] }
def Ol (P:Params):Obj:={ cls:=.type "super",data:=Data.fields #[.ref 68,.ref 68,.ref 68] }
def Oj (P:Params):Obj:={ cls:=.type "builtin_function_or_method",data:=Data.fields #[.builtin "object.__init_subclass__",.ref 68] }
def HW (P:Params):Obj:=(tq #[.ref 43])
def Oi (P:Params):Obj:={ cls:=.type "builtin_function_or_method",data:=Data.fields #[.builtin "type.__prepare__",.type "type"] }
def Oh (P:Params):Obj:={ cls:=.type "dict",data:=Data.dict #[en P "__module__" 274 (.str "sluice.errors" 215),en P "__qualname__" 276 (.str "NoNumber" 275),en P "__firstlineno__" 278 (.int 19 277),en P "__static_attributes__" 279 (.ref 78)] 4 }
def Og (P:Params):Obj:=(tq #[])
def Oe (P:Params):Obj:={ cls:=.none,data:=Data.fields #[] }
def Od (P:Params):Obj:=(fc #[.str "NoNumber" 269,.str "NoNumber" 270,cp 271,.int 19 0,.int 0 0,.int 0 0,.int 0 0,.int 0 0,.ref 74,.bool false,.int 181 0,.ref 75,.none,.none,.none,.none,.int 272 0,.int 19 0,cp 273])
def Oc (P:Params):Obj:={ cls:=.type "frame",slots:=#[some (.ref 76),some (.ref 3),some (.ref 73),none,some (.str "sluice.errors" 215),none,some (.ref 0)] }
def HS (P:Params):Obj:=(tq #[])
def HN (P:Params):Obj:={ cls:=.type "dict",data:=Data.dict #[en P "__module__" 274 (.str "sluice.errors" 215),en P "__firstlineno__" 278 (.int 19 277),en P "__static_attributes__" 279 (.ref 78),en P "__doc__" 280 .none] 2 }
def HJ (P:Params):Obj:={ cls:=.type "type",data:=Data.cls { name:="NoNumber",bases:=[.ref 43],mro:=[.ref 80,.ref 43,.type "ValueError",.type "Exception",.type "BaseException",.type "object"],ns:=79,qualname:="NoNumber" },slots:=#[some (.ref 71),none,some (.str "NoNumber" 267),some (.str "NoNumber" 275),some (.builtin "ValueError.__new__"),some (.bool true)] }
def Ob (P:Params):Obj:={ cls:=.type "super",data:=Data.fields #[.ref 80,.ref 80,.ref 80] }
def Oa (P:Params):Obj:={ cls:=.type "builtin_function_or_method",data:=Data.fields #[.builtin "object.__init_subclass__",.ref 80] }
def HF (P:Params):Obj:=(tq #[.ref 43])
def N8 (P:Params):Obj:={ cls:=.type "builtin_function_or_method",data:=Data.fields #[.builtin "type.__prepare__",.type "type"] }
def N7 (P:Params):Obj:={ cls:=.type "dict",data:=Data.dict #[en P "__module__" 290 (.str "sluice.errors" 215),en P "__qualname__" 292 (.str "NoHolder" 291),en P "__firstlineno__" 294 (.int 21 293),en P "__static_attributes__" 295 (.ref 90)] 4 }
def N6 (P:Params):Obj:=(tq #[])
def N5 (P:Params):Obj:={ cls:=.none,data:=Data.fields #[] }
def NZ (P:Params):Obj:=(fc #[.str "NoHolder" 285,.str "NoHolder" 286,cp 287,.int 21 0,.int 0 0,.int 0 0,.int 0 0,.int 0 0,.ref 86,.bool false,.int 181 0,.ref 87,.none,.none,.none,.none,.int 288 0,.int 21 0,cp 289])
def NT (P:Params):Obj:={ cls:=.type "frame",slots:=#[some (.ref 88),some (.ref 3),some (.ref 85),none,some (.str "sluice.errors" 215),none,some (.ref 0)] }
def HD (P:Params):Obj:=(tq #[])
def HB (P:Params):Obj:={ cls:=.type "dict",data:=Data.dict #[en P "__module__" 290 (.str "sluice.errors" 215),en P "__firstlineno__" 294 (.int 21 293),en P "__static_attributes__" 295 (.ref 90),en P "__doc__" 296 .none] 2 }
def Hy (P:Params):Obj:={ cls:=.type "type",data:=Data.cls { name:="NoHolder",bases:=[.ref 43],mro:=[.ref 92,.ref 43,.type "ValueError",.type "Exception",.type "BaseException",.type "object"],ns:=91,qualname:="NoHolder" },slots:=#[some (.ref 83),none,some (.str "NoHolder" 283),some (.str "NoHolder" 291),some (.builtin "ValueError.__new__"),some (.bool true)] }
def NQ (P:Params):Obj:={ cls:=.type "super",data:=Data.fields #[.ref 92,.ref 92,.ref 92] }
def NP (P:Params):Obj:={ cls:=.type "builtin_function_or_method",data:=Data.fields #[.builtin "object.__init_subclass__",.ref 92] }
def Hx (P:Params):Obj:=(tq #[.ref 43])
def NK (P:Params):Obj:={ cls:=.type "builtin_function_or_method",data:=Data.fields #[.builtin "type.__prepare__",.type "type"] }
def Ms (P:Params):Obj:={ cls:=.type "dict",data:=Data.dict #[en P "__module__" 306 (.str "sluice.errors" 215),en P "__qualname__" 308 (.str "NotYours" 307),en P "__firstlineno__" 310 (.int 23 309),en P "__static_attributes__" 311 (.ref 102)] 4 }
def Mr (P:Params):Obj:=(tq #[])
def Mq (P:Params):Obj:={ cls:=.none,data:=Data.fields #[] }
def Mp (P:Params):Obj:=(fc #[.str "NotYours" 301,.str "NotYours" 302,cp 303,.int 23 0,.int 0 0,.int 0 0,.int 0 0,.int 0 0,.ref 98,.bool false,.int 181 0,.ref 99,.none,.none,.none,.none,.int 304 0,.int 23 0,cp 305])
def Ml (P:Params):Obj:={ cls:=.type "frame",slots:=#[some (.ref 100),some (.ref 3),some (.ref 97),none,some (.str "sluice.errors" 215),none,some (.ref 0)] }
def Ep (P:Params):Obj:=(tq #[])
def Eo (P:Params):Obj:={ cls:=.type "dict",data:=Data.dict #[en P "__module__" 306 (.str "sluice.errors" 215),en P "__firstlineno__" 310 (.int 23 309),en P "__static_attributes__" 311 (.ref 102),en P "__doc__" 312 .none] 2 }
def En (P:Params):Obj:={ cls:=.type "type",data:=Data.cls { name:="NotYours",bases:=[.ref 43],mro:=[.ref 104,.ref 43,.type "ValueError",.type "Exception",.type "BaseException",.type "object"],ns:=103,qualname:="NotYours" },slots:=#[some (.ref 95),none,some (.str "NotYours" 299),some (.str "NotYours" 307),some (.builtin "ValueError.__new__"),some (.bool true)] }
def Mj (P:Params):Obj:={ cls:=.type "super",data:=Data.fields #[.ref 104,.ref 104,.ref 104] }
def Mi (P:Params):Obj:={ cls:=.type "builtin_function_or_method",data:=Data.fields #[.builtin "object.__init_subclass__",.ref 104] }
def Em (P:Params):Obj:=(tq #[.ref 43])
def Mg (P:Params):Obj:={ cls:=.type "builtin_function_or_method",data:=Data.fields #[.builtin "type.__prepare__",.type "type"] }
def Mf (P:Params):Obj:={ cls:=.type "dict",data:=Data.dict #[en P "__module__" 322 (.str "sluice.errors" 215),en P "__qualname__" 324 (.str "NotAlone" 323),en P "__firstlineno__" 326 (.int 25 325),en P "__static_attributes__" 327 (.ref 114)] 4 }
def Ma (P:Params):Obj:=(tq #[])
def LR (P:Params):Obj:={ cls:=.none,data:=Data.fields #[] }
def LQ (P:Params):Obj:=(fc #[.str "NotAlone" 317,.str "NotAlone" 318,cp 319,.int 25 0,.int 0 0,.int 0 0,.int 0 0,.int 0 0,.ref 110,.bool false,.int 181 0,.ref 111,.none,.none,.none,.none,.int 320 0,.int 25 0,cp 321])
def LK (P:Params):Obj:={ cls:=.type "frame",slots:=#[some (.ref 112),some (.ref 3),some (.ref 109),none,some (.str "sluice.errors" 215),none,some (.ref 0)] }
def El (P:Params):Obj:=(tq #[])
def Ek (P:Params):Obj:={ cls:=.type "dict",data:=Data.dict #[en P "__module__" 322 (.str "sluice.errors" 215),en P "__firstlineno__" 326 (.int 25 325),en P "__static_attributes__" 327 (.ref 114),en P "__doc__" 328 .none] 2 }
def Ej (P:Params):Obj:={ cls:=.type "type",data:=Data.cls { name:="NotAlone",bases:=[.ref 43],mro:=[.ref 116,.ref 43,.type "ValueError",.type "Exception",.type "BaseException",.type "object"],ns:=115,qualname:="NotAlone" },slots:=#[some (.ref 107),none,some (.str "NotAlone" 315),some (.str "NotAlone" 323),some (.builtin "ValueError.__new__"),some (.bool true)] }
def LC (P:Params):Obj:={ cls:=.type "super",data:=Data.fields #[.ref 116,.ref 116,.ref 116] }
def Lz (P:Params):Obj:={ cls:=.type "builtin_function_or_method",data:=Data.fields #[.builtin "object.__init_subclass__",.ref 116] }
def Ei (P:Params):Obj:=(tq #[.ref 43])
def Ly (P:Params):Obj:={ cls:=.type "builtin_function_or_method",data:=Data.fields #[.builtin "type.__prepare__",.type "type"] }
def Lx (P:Params):Obj:={ cls:=.type "dict",data:=Data.dict #[en P "__module__" 338 (.str "sluice.errors" 215),en P "__qualname__" 340 (.str "TooMuch" 339),en P "__firstlineno__" 342 (.int 27 341),en P "__static_attributes__" 343 (.ref 126)] 4 }
def Lw (P:Params):Obj:=(tq #[])
def Ls (P:Params):Obj:={ cls:=.none,data:=Data.fields #[] }
def Lr (P:Params):Obj:=(fc #[.str "TooMuch" 333,.str "TooMuch" 334,cp 335,.int 27 0,.int 0 0,.int 0 0,.int 0 0,.int 0 0,.ref 122,.bool false,.int 181 0,.ref 123,.none,.none,.none,.none,.int 336 0,.int 27 0,cp 337])
def Lq (P:Params):Obj:={ cls:=.type "frame",slots:=#[some (.ref 124),some (.ref 3),some (.ref 121),none,some (.str "sluice.errors" 215),none,some (.ref 0)] }
def Eh (P:Params):Obj:=(tq #[])
def Ef (P:Params):Obj:={ cls:=.type "dict",data:=Data.dict #[en P "__module__" 338 (.str "sluice.errors" 215),en P "__firstlineno__" 342 (.int 27 341),en P "__static_attributes__" 343 (.ref 126),en P "__doc__" 344 .none] 2 }
def Ed (P:Params):Obj:={ cls:=.type "type",data:=Data.cls { name:="TooMuch",bases:=[.ref 43],mro:=[.ref 128,.ref 43,.type "ValueError",.type "Exception",.type "BaseException",.type "object"],ns:=127,qualname:="TooMuch" },slots:=#[some (.ref 119),none,some (.str "TooMuch" 331),some (.str "TooMuch" 339),some (.builtin "ValueError.__new__"),some (.bool true)] }
def Ln (P:Params):Obj:={ cls:=.type "super",data:=Data.fields #[.ref 128,.ref 128,.ref 128] }
def Lk (P:Params):Obj:={ cls:=.type "builtin_function_or_method",data:=Data.fields #[.builtin "object.__init_subclass__",.ref 128] }
def Ec (P:Params):Obj:=(tq #[.ref 43])
def Lj (P:Params):Obj:={ cls:=.type "builtin_function_or_method",data:=Data.fields #[.builtin "type.__prepare__",.type "type"] }
def Li (P:Params):Obj:={ cls:=.type "dict",data:=Data.dict #[en P "__module__" 354 (.str "sluice.errors" 215),en P "__qualname__" 356 (.str "Full" 355),en P "__firstlineno__" 358 (.int 29 357),en P "__static_attributes__" 359 (.ref 138)] 4 }
def Lh (P:Params):Obj:=(tq #[])
def Lg (P:Params):Obj:={ cls:=.none,data:=Data.fields #[] }
def Lf (P:Params):Obj:=(fc #[.str "Full" 349,.str "Full" 350,cp 351,.int 29 0,.int 0 0,.int 0 0,.int 0 0,.int 0 0,.ref 134,.bool false,.int 181 0,.ref 135,.none,.none,.none,.none,.int 352 0,.int 29 0,cp 353])
def Le (P:Params):Obj:={ cls:=.type "frame",slots:=#[some (.ref 136),some (.ref 3),some (.ref 133),none,some (.str "sluice.errors" 215),none,some (.ref 0)] }
def Eb (P:Params):Obj:=(tq #[])
def Ea (P:Params):Obj:={ cls:=.type "dict",data:=Data.dict #[en P "__module__" 354 (.str "sluice.errors" 215),en P "__firstlineno__" 358 (.int 29 357),en P "__static_attributes__" 359 (.ref 138),en P "__doc__" 360 .none] 2 }
def DY (P:Params):Obj:={ cls:=.type "type",data:=Data.cls { name:="Full",bases:=[.ref 43],mro:=[.ref 140,.ref 43,.type "ValueError",.type "Exception",.type "BaseException",.type "object"],ns:=139,qualname:="Full" },slots:=#[some (.ref 131),none,some (.str "Full" 347),some (.str "Full" 355),some (.builtin "ValueError.__new__"),some (.bool true)] }
def Ld (P:Params):Obj:={ cls:=.type "super",data:=Data.fields #[.ref 140,.ref 140,.ref 140] }
def Lb (P:Params):Obj:={ cls:=.type "builtin_function_or_method",data:=Data.fields #[.builtin "object.__init_subclass__",.ref 140] }
def DX (P:Params):Obj:=(tq #[])
def La (P:Params):Obj:={ cls:=.none,data:=Data.fields #[] }
def DW (P:Params):Obj:=(tq #[.str "below" 373,.str "start" 374,.str "reach" 375,.str "step" 376])
def DR (P:Params):Obj:=(tq #[])
def K9 (P:Params):Obj:=(pr0 "comes_to_mouth" 20)
def DQ (P:Params):Obj:=(fc #[.str "comes_to_mouth" 370,.str "comes_to_mouth" 371,cp 372,.int 34 0,.int 2 0,.int 0 0,.int 0 0,.int 3 0,.ref 143,.bool true,.int 181 0,.ref 144,.none,.ref 145,.ref 146,.ref 147,.int 377 0,.int 34 0,cp 378])
def DP (P:Params):Obj:=⟨.type "function",none,.func (PySem.W.fnOf "comes_to_mouth" "comes_to_mouth" (aq (top0 20)) (ao (top0 20)) (ak (top0 20)) .none .none .none (.str "sluice.rivers" 363) none (.ref 148) .none),#[]⟩
def DN (P:Params):Obj:=(tq #[])
def K8 (P:Params):Obj:={ cls:=.none,data:=Data.fields #[] }
def K7 (P:Params):Obj:=(pr0 "is_river" 21)
def DK (P:Params):Obj:=(fc #[.str "is_river" 380,.str "is_river" 381,cp 382,.int 41 0,.int 1 0,.int 0 0,.int 0 0,.int 3 0,.ref 150,.bool true,.int 181 0,.ref 151,.none,.none,.none,.ref 152,.int 383 0,.int 41 0,cp 384])
def DG (P:Params):Obj:=⟨.type "function",none,.func (PySem.W.fnOf "is_river" "is_river" (aq (top0 21)) (ao (top0 21)) (ak (top0 21)) .none .none .none (.str "sluice.rivers" 363) none (.ref 153) .none),#[]⟩
def Dz (P:Params):Obj:=(tq #[])
def K6 (P:Params):Obj:={ cls:=.none,data:=Data.fields #[] }
def Dy (P:Params):Obj:=(tq #[.str "below" 389,.str "reach" 390,.str "way" 391])
def Dw (P:Params):Obj:=(tq #[])
def K5 (P:Params):Obj:=(pr0 "way_of" 22)
def Dv (P:Params):Obj:=(fc #[.str "way_of" 386,.str "way_of" 387,cp 388,.int 47 0,.int 2 0,.int 0 0,.int 0 0,.int 3 0,.ref 155,.bool true,.int 181 0,.ref 156,.none,.ref 157,.ref 158,.ref 159,.int 392 0,.int 47 0,cp 393])
def Du (P:Params):Obj:=⟨.type "function",none,.func (PySem.W.fnOf "way_of" "way_of" (aq (top0 22)) (ao (top0 22)) (ak (top0 22)) .none .none .none (.str "sluice.rivers" 363) none (.ref 160) .none),#[]⟩
def Dt (P:Params):Obj:=(tq #[])
def K4 (P:Params):Obj:={ cls:=.none,data:=Data.fields #[] }
def Ds (P:Params):Obj:=(tq #[.str "below" 402,.str "one" 403,.str "day" 404,.str "start" 405,.str "back" 406,.str "most" 407])
def Dr (P:Params):Obj:=(tq #[])
def K3 (P:Params):Obj:=(pr0 "is_licence" 25)
def Dq (P:Params):Obj:=(fc #[.str "is_licence" 399,.str "is_licence" 400,cp 401,.int 54 0,.int 2 0,.int 0 0,.int 0 0,.int 3 0,.ref 162,.bool true,.int 181 0,.ref 163,.none,.ref 164,.ref 165,.ref 166,.int 408 0,.int 54 0,cp 409])
def Dp (P:Params):Obj:=⟨.type "function",none,.func (PySem.W.fnOf "is_licence" "is_licence" (aq (top0 25)) (ao (top0 25)) (ak (top0 25)) .none .none .none (.str "sluice.licences" 395) none (.ref 167) .none),#[]⟩
def Dn (P:Params):Obj:=(tq #[])
def K1 (P:Params):Obj:={ cls:=.none,data:=Data.fields #[] }
def Dl (P:Params):Obj:=(tq #[.str "one" 414])
def Dk (P:Params):Obj:=(tq #[])
def KZ (P:Params):Obj:=(pr0 "day_filed" 26)
def Dj (P:Params):Obj:=(fc #[.str "day_filed" 411,.str "day_filed" 412,cp 413,.int 59 0,.int 1 0,.int 0 0,.int 0 0,.int 3 0,.ref 169,.bool true,.int 181 0,.ref 170,.none,.ref 171,.ref 172,.ref 173,.int 415 0,.int 59 0,cp 416])
def Di (P:Params):Obj:=⟨.type "function",none,.func (PySem.W.fnOf "day_filed" "day_filed" (aq (top0 26)) (ao (top0 26)) (ak (top0 26)) .none .none .none (.str "sluice.licences" 395) none (.ref 174) .none),#[]⟩
def Dh (P:Params):Obj:=(tq #[])
def KR (P:Params):Obj:={ cls:=.none,data:=Data.fields #[] }
def Dg (P:Params):Obj:=(tq #[.str "one" 421])
def Dd (P:Params):Obj:=(tq #[])
def KQ (P:Params):Obj:=(pr0 "most_of" 27)
def Dc (P:Params):Obj:=(fc #[.str "most_of" 418,.str "most_of" 419,cp 420,.int 61 0,.int 1 0,.int 0 0,.int 0 0,.int 3 0,.ref 176,.bool true,.int 181 0,.ref 177,.none,.ref 178,.ref 179,.ref 180,.int 422 0,.int 61 0,cp 423])
def CZ (P:Params):Obj:=⟨.type "function",none,.func (PySem.W.fnOf "most_of" "most_of" (aq (top0 27)) (ao (top0 27)) (ak (top0 27)) .none .none .none (.str "sluice.licences" 395) none (.ref 181) .none),#[]⟩
def CV (P:Params):Obj:=(tq #[])
def KN (P:Params):Obj:={ cls:=.none,data:=Data.fields #[] }
def CT (P:Params):Obj:=(tq #[.str "one" 428,.str "start" 429])
def CQ (P:Params):Obj:=(tq #[])
def KJ (P:Params):Obj:=(pr0 "with_start" 28)
def CP (P:Params):Obj:=(fc #[.str "with_start" 425,.str "with_start" 426,cp 427,.int 63 0,.int 2 0,.int 0 0,.int 0 0,.int 3 0,.ref 183,.bool true,.int 181 0,.ref 184,.none,.ref 185,.ref 186,.ref 187,.int 430 0,.int 63 0,cp 431])
def CK (P:Params):Obj:=⟨.type "function",none,.func (PySem.W.fnOf "with_start" "with_start" (aq (top0 28)) (ao (top0 28)) (ak (top0 28)) .none .none .none (.str "sluice.licences" 395) none (.ref 188) .none),#[]⟩
def CJ (P:Params):Obj:=(tq #[])
def KH (P:Params):Obj:={ cls:=.none,data:=Data.fields #[] }
def CG (P:Params):Obj:=(tq #[.str "one" 436,.str "most" 437])
def Cz (P:Params):Obj:=(tq #[])
def KD (P:Params):Obj:=(pr0 "with_most" 29)
def Cy (P:Params):Obj:=(fc #[.str "with_most" 433,.str "with_most" 434,cp 435,.int 65 0,.int 2 0,.int 0 0,.int 0 0,.int 3 0,.ref 190,.bool true,.int 181 0,.ref 191,.none,.ref 192,.ref 193,.ref 194,.int 438 0,.int 65 0,cp 439])
def Cw (P:Params):Obj:=⟨.type "function",none,.func (PySem.W.fnOf "with_most" "with_most" (aq (top0 29)) (ao (top0 29)) (ak (top0 29)) .none .none .none (.str "sluice.licences" 395) none (.ref 195) .none),#[]⟩
def Cv (P:Params):Obj:=(tq #[])
def Kz (P:Params):Obj:={ cls:=.none,data:=Data.fields #[] }
def Cu (P:Params):Obj:=(tq #[.str "name" 448])
def Cr (P:Params):Obj:=(tq #[])
def Ky (P:Params):Obj:=(pr0 "look_at_name" 32)
def Cq (P:Params):Obj:=(fc #[.str "look_at_name" 445,.str "look_at_name" 446,cp 447,.int 69 0,.int 1 0,.int 0 0,.int 0 0,.int 3 0,.ref 197,.bool true,.int 181 0,.ref 198,.none,.ref 199,.ref 200,.ref 201,.int 449 0,.int 69 0,cp 450])
def Cp (P:Params):Obj:=⟨.type "function",none,.func (PySem.W.fnOf "look_at_name" "look_at_name" (aq (top0 32)) (ao (top0 32)) (ak (top0 32)) .none .none .none (.str "sluice.rolls" 441) none (.ref 202) .none),#[]⟩
def Kw (P:Params):Obj:=(tq #[])
def Kv (P:Params):Obj:={ cls:=.type "builtin_function_or_method",data:=Data.fields #[.builtin "type.__prepare__",.type "type"] }
def Ku (P:Params):Obj:={ cls:=.type "dict",data:=Data.dict #[en P "__module__" 459 (.str "sluice.rolls" 441),en P "__qualname__" 461 (.str "Roll" 460),en P "__firstlineno__" 463 (.int 72 462),en P "__init__" 471 (.ref 217),en P "today" 478 (.ref 224),en P "roll" 485 (.ref 231),en P "holders" 492 (.ref 238),en P "deeds" 499 (.ref 245),en P "turn" 506 (.ref 252),en P "file" 519 (.ref 260),en P "sell" 529 (.ref 267),en P "part" 541 (.ref 274),en P "drop" 550 (.ref 281),en P "move" 561 (.ref 288),en P "look_move" 570 (.ref 295),en P "lapse" 578 (.ref 302),en P "enter" 587 (.ref 309),en P "is_alone" 593 (.ref 314),en P "look_at_number" 601 (.ref 321),en P "look_at_holder" 610 (.ref 328),en P "look_at_room" 617 (.ref 335),en P "__static_attributes__" 623 (.ref 336)] 22 }
def Kr (P:Params):Obj:=(tq #[])
def Kq (P:Params):Obj:={ cls:=.none,data:=Data.fields #[.int 74 0,.int 4 0,.ref 216,.int 83 0,.int 4 0,.ref 223,.int 86 0,.int 4 0,.ref 230,.int 89 0,.int 4 0,.ref 237,.int 92 0,.int 4 0,.ref 244,.int 95 0,.int 4 0,.ref 251,.int 99 0,.int 4 0,.ref 259,.int 109 0,.int 4 0,.ref 266,.int 115 0,.int 4 0,.ref 273,.int 128 0,.int 4 0,.ref 280,.int 133 0,.int 4 0,.ref 287,.int 142 0,.int 4 0,.ref 294,.int 145 0,.int 4 0,.ref 301,.int 148 0,.int 4 0,.ref 308,.int 153 0,.int 4 0,.ref 313,.int 158 0,.int 4 0,.ref 320,.int 162 0,.int 4 0,.ref 327,.int 167 0,.int 4 0,.ref 334] }
def Kp (P:Params):Obj:=(fc #[.str "Roll" 454,.str "Roll" 455,cp 456,.int 72 0,.int 0 0,.int 0 0,.int 0 0,.int 0 0,.ref 207,.bool false,.int 181 0,.ref 208,.none,.none,.none,.none,.int 457 0,.int 72 0,cp 458])
def Ko (P:Params):Obj:={ cls:=.type "frame",slots:=#[some (.ref 209),some (.ref 3),some (.ref 206),none,some (.str "sluice.rolls" 441),none,some (.ref 0)] }
def Cm (P:Params):Obj:=(tq #[])
def Km (P:Params):Obj:={ cls:=.none,data:=Data.fields #[] }
def Ck (P:Params):Obj:=(tq #[.str "self" 467,.str "below" 468])
def Cj (P:Params):Obj:=(tq #[])
def Kl (P:Params):Obj:={ cls:=.none,data:=.func { name:="__init__",qualname:="Roll.__init__",params:=aq (inClass (top0 33) 0),body:=.stmts (ao (inClass (top0 33) 0)),scope:=ak (inClass (top0 33) 0),globals:=0,closure:=[],defaults:=.none,kwdefaults:=.none } }
def Ci (P:Params):Obj:=(fc #[.str "__init__" 464,.str "Roll.__init__" 465,cp 466,.int 74 0,.int 2 0,.int 0 0,.int 0 0,.int 3 0,.ref 211,.bool true,.int 181 0,.ref 212,.none,.ref 213,.ref 214,.ref 215,.int 469 0,.int 74 0,cp 470])
def Cg (P:Params):Obj:=⟨.type "function",none,.func (PySem.W.fnOf "__init__" "Roll.__init__" (aq (inClass (top0 33) 0)) (ao (inClass (top0 33) 0)) (ak (inClass (top0 33) 0)) .none .none .none (.str "sluice.rolls" 441) none (.ref 216) .none),#[]⟩
def Ce (P:Params):Obj:=(tq #[])
def Kh (P:Params):Obj:={ cls:=.none,data:=Data.fields #[] }
def Cd (P:Params):Obj:=(tq #[.str "self" 475])
def Ca (P:Params):Obj:=(tq #[])
def Kg (P:Params):Obj:={ cls:=.none,data:=.func { name:="today",qualname:="Roll.today",params:=aq (inClass (top0 33) 1),body:=.stmts (ao (inClass (top0 33) 1)),scope:=ak (inClass (top0 33) 1),globals:=0,closure:=[],defaults:=.none,kwdefaults:=.none } }
def BZ (P:Params):Obj:=(fc #[.str "today" 472,.str "Roll.today" 473,cp 474,.int 83 0,.int 1 0,.int 0 0,.int 0 0,.int 3 0,.ref 218,.bool true,.int 181 0,.ref 219,.none,.ref 220,.ref 221,.ref 222,.int 476 0,.int 83 0,cp 477])
def BX (P:Params):Obj:=⟨.type "function",none,.func (PySem.W.fnOf "today" "Roll.today" (aq (inClass (top0 33) 1)) (ao (inClass (top0 33) 1)) (ak (inClass (top0 33) 1)) .none .none .none (.str "sluice.rolls" 441) none (.ref 223) .none),#[]⟩
def BW (P:Params):Obj:=(tq #[])
def Ke (P:Params):Obj:={ cls:=.none,data:=Data.fields #[] }
def BR (P:Params):Obj:=(tq #[.str "self" 482])
def BP (P:Params):Obj:=(tq #[])
def Kc (P:Params):Obj:={ cls:=.none,data:=.func { name:="roll",qualname:="Roll.roll",params:=aq (inClass (top0 33) 2),body:=.stmts (ao (inClass (top0 33) 2)),scope:=ak (inClass (top0 33) 2),globals:=0,closure:=[],defaults:=.none,kwdefaults:=.none } }
def BL (P:Params):Obj:=(fc #[.str "roll" 479,.str "Roll.roll" 480,cp 481,.int 86 0,.int 1 0,.int 0 0,.int 0 0,.int 3 0,.ref 225,.bool true,.int 181 0,.ref 226,.none,.ref 227,.ref 228,.ref 229,.int 483 0,.int 86 0,cp 484])
def BK (P:Params):Obj:=⟨.type "function",none,.func (PySem.W.fnOf "roll" "Roll.roll" (aq (inClass (top0 33) 2)) (ao (inClass (top0 33) 2)) (ak (inClass (top0 33) 2)) .none .none .none (.str "sluice.rolls" 441) none (.ref 230) .none),#[]⟩
def BJ (P:Params):Obj:=(tq #[])
def Ka (P:Params):Obj:={ cls:=.none,data:=Data.fields #[] }
def Bx (P:Params):Obj:=(tq #[.str "self" 489])
def Bw (P:Params):Obj:=(tq #[])
def J9 (P:Params):Obj:={ cls:=.none,data:=.func { name:="holders",qualname:="Roll.holders",params:=aq (inClass (top0 33) 3),body:=.stmts (ao (inClass (top0 33) 3)),scope:=ak (inClass (top0 33) 3),globals:=0,closure:=[],defaults:=.none,kwdefaults:=.none } }
def Bv (P:Params):Obj:=(fc #[.str "holders" 486,.str "Roll.holders" 487,cp 488,.int 89 0,.int 1 0,.int 0 0,.int 0 0,.int 3 0,.ref 232,.bool true,.int 181 0,.ref 233,.none,.ref 234,.ref 235,.ref 236,.int 490 0,.int 89 0,cp 491])
def Bu (P:Params):Obj:=⟨.type "function",none,.func (PySem.W.fnOf "holders" "Roll.holders" (aq (inClass (top0 33) 3)) (ao (inClass (top0 33) 3)) (ak (inClass (top0 33) 3)) .none .none .none (.str "sluice.rolls" 441) none (.ref 237) .none),#[]⟩
def Bt (P:Params):Obj:=(tq #[])
def J7 (P:Params):Obj:={ cls:=.none,data:=Data.fields #[] }
def Bs (P:Params):Obj:=(tq #[.str "self" 496])
def Br (P:Params):Obj:=(tq #[])
def J6 (P:Params):Obj:={ cls:=.none,data:=.func { name:="deeds",qualname:="Roll.deeds",params:=aq (inClass (top0 33) 4),body:=.stmts (ao (inClass (top0 33) 4)),scope:=ak (inClass (top0 33) 4),globals:=0,closure:=[],defaults:=.none,kwdefaults:=.none } }
def Bq (P:Params):Obj:=(fc #[.str "deeds" 493,.str "Roll.deeds" 494,cp 495,.int 92 0,.int 1 0,.int 0 0,.int 0 0,.int 3 0,.ref 239,.bool true,.int 181 0,.ref 240,.none,.ref 241,.ref 242,.ref 243,.int 497 0,.int 92 0,cp 498])
def Bp (P:Params):Obj:=⟨.type "function",none,.func (PySem.W.fnOf "deeds" "Roll.deeds" (aq (inClass (top0 33) 4)) (ao (inClass (top0 33) 4)) (ak (inClass (top0 33) 4)) .none .none .none (.str "sluice.rolls" 441) none (.ref 244) .none),#[]⟩
def Bo (P:Params):Obj:=(tq #[])
def J4 (P:Params):Obj:={ cls:=.none,data:=Data.fields #[] }
def Bm (P:Params):Obj:=(tq #[.str "self" 503])
def Bl (P:Params):Obj:=(tq #[])
def J3 (P:Params):Obj:={ cls:=.none,data:=.func { name:="turn",qualname:="Roll.turn",params:=aq (inClass (top0 33) 5),body:=.stmts (ao (inClass (top0 33) 5)),scope:=ak (inClass (top0 33) 5),globals:=0,closure:=[],defaults:=.none,kwdefaults:=.none } }
def Bk (P:Params):Obj:=(fc #[.str "turn" 500,.str "Roll.turn" 501,cp 502,.int 95 0,.int 1 0,.int 0 0,.int 0 0,.int 3 0,.ref 246,.bool true,.int 181 0,.ref 247,.none,.ref 248,.ref 249,.ref 250,.int 504 0,.int 95 0,cp 505])
def Bj (P:Params):Obj:=⟨.type "function",none,.func (PySem.W.fnOf "turn" "Roll.turn" (aq (inClass (top0 33) 5)) (ao (inClass (top0 33) 5)) (ak (inClass (top0 33) 5)) .none .none .none (.str "sluice.rolls" 441) none (.ref 251) .none),#[]⟩
def Bh (P:Params):Obj:=(tq #[.none])
def Bg (P:Params):Obj:=(tq #[])
def J2 (P:Params):Obj:={ cls:=.none,data:=Data.fields #[] }
def Bf (P:Params):Obj:=(tq #[.str "self" 510,.str "holder" 511,.str "start" 512,.str "most" 513,.str "back" 514,.str "stop" 515,.str "one" 516])
def Bd (P:Params):Obj:=(tq #[])
def J1 (P:Params):Obj:={ cls:=.none,data:=.func { name:="file",qualname:="Roll.file",params:=aq (inClass (top0 33) 6),body:=.stmts (ao (inClass (top0 33) 6)),scope:=ak (inClass (top0 33) 6),globals:=0,closure:=[],defaults:=.none,kwdefaults:=.none } }
def Bb (P:Params):Obj:=(fc #[.str "file" 507,.str "Roll.file" 508,cp 509,.int 99 0,.int 5 0,.int 0 0,.int 0 0,.int 3 0,.ref 254,.bool true,.int 181 0,.ref 255,.none,.ref 256,.ref 257,.ref 258,.int 517 0,.int 99 0,cp 518])
def Az (P:Params):Obj:=⟨.type "function",none,.func (PySem.W.fnOf "file" "Roll.file" (aq (inClass (top0 33) 6)) (ao (inClass (top0 33) 6)) (ak (inClass (top0 33) 6)) (.ref 253) .none .none (.str "sluice.rolls" 441) none (.ref 259) .none),#[]⟩
def Ay (P:Params):Obj:=(tq #[])
def J0 (P:Params):Obj:={ cls:=.none,data:=Data.fields #[] }
def Ax (P:Params):Obj:=(tq #[.str "self" 523,.str "number" 524,.str "holder" 525,.str "to" 526])
def Aw (P:Params):Obj:=(tq #[])
def JZ (P:Params):Obj:={ cls:=.none,data:=.func { name:="sell",qualname:="Roll.sell",params:=aq (inClass (top0 33) 7),body:=.stmts (ao (inClass (top0 33) 7)),scope:=ak (inClass (top0 33) 7),globals:=0,closure:=[],defaults:=.none,kwdefaults:=.none } }
def Av (P:Params):Obj:=(fc #[.str "sell" 520,.str "Roll.sell" 521,cp 522,.int 109 0,.int 4 0,.int 0 0,.int 0 0,.int 3 0,.ref 261,.bool true,.int 181 0,.ref 262,.none,.ref 263,.ref 264,.ref 265,.int 527 0,.int 109 0,cp 528])
def Ar (P:Params):Obj:=⟨.type "function",none,.func (PySem.W.fnOf "sell" "Roll.sell" (aq (inClass (top0 33) 7)) (ao (inClass (top0 33) 7)) (ak (inClass (top0 33) 7)) .none .none .none (.str "sluice.rolls" 441) none (.ref 266) .none),#[]⟩
def Aq (P:Params):Obj:=(tq #[])
def JW (P:Params):Obj:={ cls:=.none,data:=Data.fields #[] }
def Ao (P:Params):Obj:=(tq #[.str "self" 533,.str "number" 534,.str "holder" 535,.str "most" 536,.str "to" 537,.str "one" 538])
def Am (P:Params):Obj:=(tq #[])
def JV (P:Params):Obj:={ cls:=.none,data:=.func { name:="part",qualname:="Roll.part",params:=aq (inClass (top0 33) 8),body:=.stmts (ao (inClass (top0 33) 8)),scope:=ak (inClass (top0 33) 8),globals:=0,closure:=[],defaults:=.none,kwdefaults:=.none } }
def Al (P:Params):Obj:=(fc #[.str "part" 530,.str "Roll.part" 531,cp 532,.int 115 0,.int 5 0,.int 0 0,.int 0 0,.int 3 0,.ref 268,.bool true,.int 181 0,.ref 269,.none,.ref 270,.ref 271,.ref 272,.int 539 0,.int 115 0,cp 540])
def Ak (P:Params):Obj:=⟨.type "function",none,.func (PySem.W.fnOf "part" "Roll.part" (aq (inClass (top0 33) 8)) (ao (inClass (top0 33) 8)) (ak (inClass (top0 33) 8)) .none .none .none (.str "sluice.rolls" 441) none (.ref 273) .none),#[]⟩
def Aj (P:Params):Obj:=(tq #[])
def JT (P:Params):Obj:={ cls:=.none,data:=Data.fields #[] }
def Ai (P:Params):Obj:=(tq #[.str "self" 545,.str "number" 546,.str "holder" 547])
def Ah (P:Params):Obj:=(tq #[])
def JQ (P:Params):Obj:={ cls:=.none,data:=.func { name:="drop",qualname:="Roll.drop",params:=aq (inClass (top0 33) 9),body:=.stmts (ao (inClass (top0 33) 9)),scope:=ak (inClass (top0 33) 9),globals:=0,closure:=[],defaults:=.none,kwdefaults:=.none } }
def Ag (P:Params):Obj:=(fc #[.str "drop" 542,.str "Roll.drop" 543,cp 544,.int 128 0,.int 3 0,.int 0 0,.int 0 0,.int 3 0,.ref 275,.bool true,.int 181 0,.ref 276,.none,.ref 277,.ref 278,.ref 279,.int 548 0,.int 128 0,cp 549])
def Af (P:Params):Obj:=⟨.type "function",none,.func (PySem.W.fnOf "drop" "Roll.drop" (aq (inClass (top0 33) 9)) (ao (inClass (top0 33) 9)) (ak (inClass (top0 33) 9)) .none .none .none (.str "sluice.rolls" 441) none (.ref 280) .none),#[]⟩
def Ae (P:Params):Obj:=(tq #[])
def JN (P:Params):Obj:={ cls:=.none,data:=Data.fields #[] }
def Ad (P:Params):Obj:=(tq #[.str "self" 554,.str "number" 555,.str "holder" 556,.str "start" 557,.str "one" 558])
def Ac (P:Params):Obj:=(tq #[])
def JM (P:Params):Obj:={ cls:=.none,data:=.func { name:="move",qualname:="Roll.move",params:=aq (inClass (top0 33) 10),body:=.stmts (ao (inClass (top0 33) 10)),scope:=ak (inClass (top0 33) 10),globals:=0,closure:=[],defaults:=.none,kwdefaults:=.none } }
def Ab (P:Params):Obj:=(fc #[.str "move" 551,.str "Roll.move" 552,cp 553,.int 133 0,.int 4 0,.int 0 0,.int 0 0,.int 3 0,.ref 282,.bool true,.int 181 0,.ref 283,.none,.ref 284,.ref 285,.ref 286,.int 559 0,.int 133 0,cp 560])
def Aa (P:Params):Obj:=⟨.type "function",none,.func (PySem.W.fnOf "move" "Roll.move" (aq (inClass (top0 33) 10)) (ao (inClass (top0 33) 10)) (ak (inClass (top0 33) 10)) .none .none .none (.str "sluice.rolls" 441) none (.ref 287) .none),#[]⟩
def z9 (P:Params):Obj:=(tq #[])
def JL (P:Params):Obj:={ cls:=.none,data:=Data.fields #[] }
def z8 (P:Params):Obj:=(tq #[.str "self" 565,.str "number" 566,.str "start" 567])
def z7 (P:Params):Obj:=(tq #[])
def JK (P:Params):Obj:={ cls:=.none,data:=.func { name:="look_move",qualname:="Roll.look_move",params:=aq (inClass (top0 33) 11),body:=.stmts (ao (inClass (top0 33) 11)),scope:=ak (inClass (top0 33) 11),globals:=0,closure:=[],defaults:=.none,kwdefaults:=.none } }
def zZ (P:Params):Obj:=(fc #[.str "look_move" 562,.str "Roll.look_move" 563,cp 564,.int 142 0,.int 3 0,.int 0 0,.int 0 0,.int 3 0,.ref 289,.bool true,.int 181 0,.ref 290,.none,.ref 291,.ref 292,.ref 293,.int 568 0,.int 142 0,cp 569])
def zY (P:Params):Obj:=⟨.type "function",none,.func (PySem.W.fnOf "look_move" "Roll.look_move" (aq (inClass (top0 33) 11)) (ao (inClass (top0 33) 11)) (ak (inClass (top0 33) 11)) .none .none .none (.str "sluice.rolls" 441) none (.ref 294) .none),#[]⟩
def zX (P:Params):Obj:=(tq #[])
def JG (P:Params):Obj:={ cls:=.none,data:=Data.fields #[] }
def zW (P:Params):Obj:=(tq #[.str "self" 574,.str "numbers" 575])
def zV (P:Params):Obj:=(tq #[])
def JF (P:Params):Obj:={ cls:=.none,data:=.func { name:="lapse",qualname:="Roll.lapse",params:=aq (inClass (top0 33) 12),body:=.stmts (ao (inClass (top0 33) 12)),scope:=ak (inClass (top0 33) 12),globals:=0,closure:=[],defaults:=.none,kwdefaults:=.none } }
def zU (P:Params):Obj:=(fc #[.str "lapse" 571,.str "Roll.lapse" 572,cp 573,.int 145 0,.int 2 0,.int 0 0,.int 0 0,.int 3 0,.ref 296,.bool true,.int 181 0,.ref 297,.none,.ref 298,.ref 299,.ref 300,.int 576 0,.int 145 0,cp 577])
def zT (P:Params):Obj:=⟨.type "function",none,.func (PySem.W.fnOf "lapse" "Roll.lapse" (aq (inClass (top0 33) 12)) (ao (inClass (top0 33) 12)) (ak (inClass (top0 33) 12)) .none .none .none (.str "sluice.rolls" 441) none (.ref 301) .none),#[]⟩
def zR (P:Params):Obj:=(tq #[])
def JD (P:Params):Obj:={ cls:=.none,data:=Data.fields #[] }
def zQ (P:Params):Obj:=(tq #[.str "self" 582,.str "one" 583,.str "holder" 584])
def zP (P:Params):Obj:=(tq #[])
def JB (P:Params):Obj:={ cls:=.none,data:=.func { name:="enter",qualname:="Roll.enter",params:=aq (inClass (top0 33) 13),body:=.stmts (ao (inClass (top0 33) 13)),scope:=ak (inClass (top0 33) 13),globals:=0,closure:=[],defaults:=.none,kwdefaults:=.none } }
def zO (P:Params):Obj:=(fc #[.str "enter" 579,.str "Roll.enter" 580,cp 581,.int 148 0,.int 3 0,.int 0 0,.int 0 0,.int 3 0,.ref 303,.bool true,.int 181 0,.ref 304,.none,.ref 305,.ref 306,.ref 307,.int 585 0,.int 148 0,cp 586])
def zN (P:Params):Obj:=⟨.type "function",none,.func (PySem.W.fnOf "enter" "Roll.enter" (aq (inClass (top0 33) 13)) (ao (inClass (top0 33) 13)) (ak (inClass (top0 33) 13)) .none .none .none (.str "sluice.rolls" 441) none (.ref 308) .none),#[]⟩
def zM (P:Params):Obj:=(tq #[])
def Jz (P:Params):Obj:={ cls:=.none,data:=Data.fields #[] }
def Jy (P:Params):Obj:={ cls:=.none,data:=.func { name:="is_alone",qualname:="Roll.is_alone",params:=aq (inClass (top0 33) 14),body:=.stmts (ao (inClass (top0 33) 14)),scope:=ak (inClass (top0 33) 14),globals:=0,closure:=[],defaults:=.none,kwdefaults:=.none } }
def zL (P:Params):Obj:=(fc #[.str "is_alone" 588,.str "Roll.is_alone" 589,cp 590,.int 153 0,.int 2 0,.int 0 0,.int 0 0,.int 3 0,.ref 310,.bool true,.int 181 0,.ref 311,.none,.none,.none,.ref 312,.int 591 0,.int 153 0,cp 592])
def zK (P:Params):Obj:=⟨.type "function",none,.func (PySem.W.fnOf "is_alone" "Roll.is_alone" (aq (inClass (top0 33) 14)) (ao (inClass (top0 33) 14)) (ak (inClass (top0 33) 14)) .none .none .none (.str "sluice.rolls" 441) none (.ref 313) .none),#[]⟩
def zJ (P:Params):Obj:=(tq #[])
def Jx (P:Params):Obj:={ cls:=.none,data:=Data.fields #[] }
def zH (P:Params):Obj:=(tq #[.str "self" 597,.str "number" 598])
def zG (P:Params):Obj:=(tq #[])
def Jv (P:Params):Obj:={ cls:=.none,data:=.func { name:="look_at_number",qualname:="Roll.look_at_number",params:=aq (inClass (top0 33) 15),body:=.stmts (ao (inClass (top0 33) 15)),scope:=ak (inClass (top0 33) 15),globals:=0,closure:=[],defaults:=.none,kwdefaults:=.none } }
def zF (P:Params):Obj:=(fc #[.str "look_at_number" 594,.str "Roll.look_at_number" 595,cp 596,.int 158 0,.int 2 0,.int 0 0,.int 0 0,.int 3 0,.ref 315,.bool true,.int 181 0,.ref 316,.none,.ref 317,.ref 318,.ref 319,.int 599 0,.int 158 0,cp 600])
def zE (P:Params):Obj:=⟨.type "function",none,.func (PySem.W.fnOf "look_at_number" "Roll.look_at_number" (aq (inClass (top0 33) 15)) (ao (inClass (top0 33) 15)) (ak (inClass (top0 33) 15)) .none .none .none (.str "sluice.rolls" 441) none (.ref 320) .none),#[]⟩
def zB (P:Params):Obj:=(tq #[])
def Ju (P:Params):Obj:={ cls:=.none,data:=Data.fields #[] }
def zA (P:Params):Obj:=(tq #[.str "self" 605,.str "number" 606,.str "holder" 607])
def zy (P:Params):Obj:=(tq #[])
def Jt (P:Params):Obj:={ cls:=.none,data:=.func { name:="look_at_holder",qualname:="Roll.look_at_holder",params:=aq (inClass (top0 33) 16),body:=.stmts (ao (inClass (top0 33) 16)),scope:=ak (inClass (top0 33) 16),globals:=0,closure:=[],defaults:=.none,kwdefaults:=.none } }
def zx (P:Params):Obj:=(fc #[.str "look_at_holder" 602,.str "Roll.look_at_holder" 603,cp 604,.int 162 0,.int 3 0,.int 0 0,.int 0 0,.int 3 0,.ref 322,.bool true,.int 181 0,.ref 323,.none,.ref 324,.ref 325,.ref 326,.int 608 0,.int 162 0,cp 609])
def zu (P:Params):Obj:=⟨.type "function",none,.func (PySem.W.fnOf "look_at_holder" "Roll.look_at_holder" (aq (inClass (top0 33) 16)) (ao (inClass (top0 33) 16)) (ak (inClass (top0 33) 16)) .none .none .none (.str "sluice.rolls" 441) none (.ref 327) .none),#[]⟩
def zq (P:Params):Obj:=(tq #[])
def Js (P:Params):Obj:={ cls:=.none,data:=Data.fields #[] }
def zp (P:Params):Obj:=(tq #[.str "self" 614])
def zm (P:Params):Obj:=(tq #[])
def Jr (P:Params):Obj:={ cls:=.none,data:=.func { name:="look_at_room",qualname:="Roll.look_at_room",params:=aq (inClass (top0 33) 17),body:=.stmts (ao (inClass (top0 33) 17)),scope:=ak (inClass (top0 33) 17),globals:=0,closure:=[],defaults:=.none,kwdefaults:=.none } }
def zj (P:Params):Obj:=(fc #[.str "look_at_room" 611,.str "Roll.look_at_room" 612,cp 613,.int 167 0,.int 1 0,.int 0 0,.int 0 0,.int 3 0,.ref 329,.bool true,.int 181 0,.ref 330,.none,.ref 331,.ref 332,.ref 333,.int 615 0,.int 167 0,cp 616])
def zf (P:Params):Obj:=⟨.type "function",none,.func (PySem.W.fnOf "look_at_room" "Roll.look_at_room" (aq (inClass (top0 33) 17)) (ao (inClass (top0 33) 17)) (ak (inClass (top0 33) 17)) .none .none .none (.str "sluice.rolls" 441) none (.ref 334) .none),#[]⟩
def zc (P:Params):Obj:=(tq #[.str "below" 618,.str "day" 619,.str "done" 620,.str "licences" 621,.str "names" 622])
def za (P:Params):Obj:={ cls:=.type "dict",data:=Data.dict #[en P "__module__" 459 (.str "sluice.rolls" 441),en P "__firstlineno__" 463 (.int 72 462),en P "__init__" 471 (.ref 217),en P "today" 478 (.ref 224),en P "roll" 485 (.ref 231),en P "holders" 492 (.ref 238),en P "deeds" 499 (.ref 245),en P "turn" 506 (.ref 252),en P "file" 519 (.ref 260),en P "sell" 529 (.ref 267),en P "part" 541 (.ref 274),en P "drop" 550 (.ref 281),en P "move" 561 (.ref 288),en P "look_move" 570 (.ref 295),en P "lapse" 578 (.ref 302),en P "enter" 587 (.ref 309),en P "is_alone" 593 (.ref 314),en P "look_at_number" 601 (.ref 321),en P "look_at_holder" 610 (.ref 328),en P "look_at_room" 617 (.ref 335),en P "__static_attributes__" 623 (.ref 336),en P "__dict__" 625 (.ref 339),en P "__weakref__" 627 (.ref 340),en P "__doc__" 628 .none] 4 }
def yZ (P:Params):Obj:={ cls:=.type "type",data:=Data.cls { name:="Roll",bases:=[.type "object"],mro:=[.ref 338,.type "object"],ns:=337,qualname:="Roll" },slots:=#[none,none,some (.str "Roll" 452),some (.str "Roll" 460),some (.builtin "object.__new__"),some (.bool true)] }
def yX (P:Params):Obj:={ cls:=.type "getset_descriptor",data:=Data.fields #[.str "__dict__" 624,.ref 338,.builtin "function.__dict__",.builtin "function.__dict__#set"] }
def yW (P:Params):Obj:={ cls:=.type "getset_descriptor",data:=Data.fields #[.str "__weakref__" 626,.ref 338,.builtin "ExceptionGroup.__weakref__",.none] }
def Jq (P:Params):Obj:={ cls:=.type "super",data:=Data.fields #[.ref 338,.ref 338,.ref 338] }
def Jp (P:Params):Obj:={ cls:=.type "builtin_function_or_method",data:=Data.fields #[.builtin "object.__init_subclass__",.ref 338] }
def yV (P:Params):Obj:=(tq #[])
def Jo (P:Params):Obj:={ cls:=.none,data:=Data.fields #[] }
def yU (P:Params):Obj:=(tq #[.str "script" 636,.str "k" 637])
def yS (P:Params):Obj:=(tq #[])
def Jl (P:Params):Obj:=(pr0 "_law_cell_at" 35)
def yR (P:Params):Obj:=(fc #[.str "_law_cell_at" 633,.str "_law_cell_at" 634,cp 635,.int 171 0,.int 2 0,.int 0 0,.int 0 0,.int 3 0,.ref 343,.bool true,.int 181 0,.ref 344,.none,.ref 345,.ref 346,.ref 347,.int 638 0,.int 171 0,cp 639])
def yQ (P:Params):Obj:=⟨.type "function",none,.func (PySem.W.fnOf "_law_cell_at" "_law_cell_at" (aq (top0 35)) (ao (top0 35)) (ak (top0 35)) .none .none .none (.str "law_sluice_k52_sold_and_dropped" 631) none (.ref 348) .none),#[]⟩
def yP (P:Params):Obj:=(tq #[])
def Jk (P:Params):Obj:={ cls:=.none,data:=Data.fields #[] }
def yO (P:Params):Obj:=(tq #[.str "found" 644])
def yN (P:Params):Obj:=(tq #[])
def Jj (P:Params):Obj:=(pr0 "_law_whole" 36)
def yM (P:Params):Obj:=(fc #[.str "_law_whole" 641,.str "_law_whole" 642,cp 643,.int 175 0,.int 1 0,.int 0 0,.int 0 0,.int 3 0,.ref 350,.bool true,.int 181 0,.ref 351,.none,.ref 352,.ref 353,.ref 354,.int 645 0,.int 175 0,cp 646])
def yL (P:Params):Obj:=⟨.type "function",none,.func (PySem.W.fnOf "_law_whole" "_law_whole" (aq (top0 36)) (ao (top0 36)) (ak (top0 36)) .none .none .none (.str "law_sluice_k52_sold_and_dropped" 631) none (.ref 355) .none),#[]⟩
def yK (P:Params):Obj:=(tq #[])
def Jh (P:Params):Obj:={ cls:=.none,data:=Data.fields #[] }
def yJ (P:Params):Obj:=(tq #[.str "cell" 651,.str "place" 652,.str "spot" 653])
def yI (P:Params):Obj:=(tq #[])
def Jg (P:Params):Obj:=(pr0 "_law_draw" 37)
def yH (P:Params):Obj:=(fc #[.str "_law_draw" 648,.str "_law_draw" 649,cp 650,.int 177 0,.int 2 0,.int 0 0,.int 0 0,.int 3 0,.ref 357,.bool true,.int 181 0,.ref 358,.none,.ref 359,.ref 360,.ref 361,.int 654 0,.int 177 0,cp 655])
def yG (P:Params):Obj:=⟨.type "function",none,.func (PySem.W.fnOf "_law_draw" "_law_draw" (aq (top0 37)) (ao (top0 37)) (ak (top0 37)) .none .none .none (.str "law_sluice_k52_sold_and_dropped" 631) none (.ref 362) .none),#[]⟩
def yF (P:Params):Obj:=(tq #[])
def Jf (P:Params):Obj:={ cls:=.none,data:=Data.fields #[] }
def Je (P:Params):Obj:=(pr0 "_law_draws" 38)
def yE (P:Params):Obj:=(fc #[.str "_law_draws" 657,.str "_law_draws" 658,cp 659,.int 180 0,.int 2 0,.int 0 0,.int 0 0,.int 3 0,.ref 364,.bool true,.int 181 0,.ref 365,.none,.none,.none,.ref 366,.int 660 0,.int 180 0,cp 661])
def yD (P:Params):Obj:=⟨.type "function",none,.func (PySem.W.fnOf "_law_draws" "_law_draws" (aq (top0 38)) (ao (top0 38)) (ak (top0 38)) .none .none .none (.str "law_sluice_k52_sold_and_dropped" 631) none (.ref 367) .none),#[]⟩
def yC (P:Params):Obj:=(tq #[])
def Jc (P:Params):Obj:={ cls:=.none,data:=Data.fields #[] }
def Jb (P:Params):Obj:=(pr0 "_law_names" 39)
def yx (P:Params):Obj:=(fc #[.str "_law_names" 663,.str "_law_names" 664,cp 665,.int 182 0,.int 1 0,.int 0 0,.int 0 0,.int 3 0,.ref 369,.bool true,.int 181 0,.ref 370,.none,.none,.none,.ref 371,.int 666 0,.int 182 0,cp 667])
def yw (P:Params):Obj:=⟨.type "function",none,.func (PySem.W.fnOf "_law_names" "_law_names" (aq (top0 39)) (ao (top0 39)) (ak (top0 39)) .none .none .none (.str "law_sluice_k52_sold_and_dropped" 631) none (.ref 372) .none),#[]⟩
def yu (P:Params):Obj:=(tq #[])
def Ja (P:Params):Obj:={ cls:=.none,data:=Data.fields #[] }
def IW (P:Params):Obj:=(pr0 "_law_alike_lines" 40)
def yt (P:Params):Obj:=(fc #[.str "_law_alike_lines" 669,.str "_law_alike_lines" 670,cp 671,.int 188 0,.int 2 0,.int 0 0,.int 0 0,.int 3 0,.ref 374,.bool true,.int 181 0,.ref 375,.none,.none,.none,.ref 376,.int 672 0,.int 188 0,cp 673])
def yr (P:Params):Obj:=⟨.type "function",none,.func (PySem.W.fnOf "_law_alike_lines" "_law_alike_lines" (aq (top0 40)) (ao (top0 40)) (ak (top0 40)) .none .none .none (.str "law_sluice_k52_sold_and_dropped" 631) none (.ref 377) .none),#[]⟩
def yq (P:Params):Obj:=(tq #[])
def IV (P:Params):Obj:={ cls:=.none,data:=Data.fields #[] }
def IK (P:Params):Obj:=(pr0 "_law_right" 41)
def yp (P:Params):Obj:=(fc #[.str "_law_right" 675,.str "_law_right" 676,cp 677,.int 197 0,.int 5 0,.int 0 0,.int 0 0,.int 3 0,.ref 379,.bool true,.int 181 0,.ref 380,.none,.none,.none,.ref 381,.int 678 0,.int 197 0,cp 679])
def yj (P:Params):Obj:=⟨.type "function",none,.func (PySem.W.fnOf "_law_right" "_law_right" (aq (top0 41)) (ao (top0 41)) (ak (top0 41)) .none .none .none (.str "law_sluice_k52_sold_and_dropped" 631) none (.ref 382) .none),#[]⟩
def yh (P:Params):Obj:=(tq #[])
def Iz (P:Params):Obj:={ cls:=.none,data:=Data.fields #[] }
def yg (P:Params):Obj:=(tq #[.str "one" 684,.str "number" 685,.str "name" 686,.str "to" 687,.str "bit" 688,.str "caught" 689,.str "e" 690])
def yd (P:Params):Obj:=(tq #[])
def Iw (P:Params):Obj:=(pr0 "_law_not_yours" 42)
def yc (P:Params):Obj:=(fc #[.str "_law_not_yours" 681,.str "_law_not_yours" 682,cp 683,.int 207 0,.int 5 0,.int 0 0,.int 0 0,.int 3 0,.ref 384,.bool true,.int 181 0,.ref 385,.none,.ref 386,.ref 387,.ref 388,.int 691 0,.int 207 0,cp 692])
def xZ (P:Params):Obj:=⟨.type "function",none,.func (PySem.W.fnOf "_law_not_yours" "_law_not_yours" (aq (top0 42)) (ao (top0 42)) (ak (top0 42)) .none .none .none (.str "law_sluice_k52_sold_and_dropped" 631) none (.ref 389) .none),#[]⟩
def xY (P:Params):Obj:=(tq #[])
def Iu (P:Params):Obj:={ cls:=.none,data:=Data.fields #[] }
def xX (P:Params):Obj:=(tq #[.str "one" 697,.str "xs" 698,.str "names" 699,.str "many" 700,.str "lines" 701,.str "owners" 702,.str "day" 703,.str "k" 704,.str "most" 705,.str "name" 706])
def xW (P:Params):Obj:=(tq #[])
def Ir (P:Params):Obj:=(pr0 "_law_begun" 43)
def xV (P:Params):Obj:=(fc #[.str "_law_begun" 694,.str "_law_begun" 695,cp 696,.int 221 0,.int 4 0,.int 0 0,.int 0 0,.int 3 0,.ref 391,.bool true,.int 181 0,.ref 392,.none,.ref 393,.ref 394,.ref 395,.int 707 0,.int 221 0,cp 708])
def xU (P:Params):Obj:=⟨.type "function",none,.func (PySem.W.fnOf "_law_begun" "_law_begun" (aq (top0 43)) (ao (top0 43)) (ak (top0 43)) .none .none .none (.str "law_sluice_k52_sold_and_dropped" 631) none (.ref 396) .none),#[]⟩
def xT (P:Params):Obj:=(tq #[])
def Ip (P:Params):Obj:={ cls:=.none,data:=Data.fields #[] }
def Io (P:Params):Obj:=(pr0 "law" 44)
def xR (P:Params):Obj:=(fc #[.str "law" 710,.str "law" 711,cp 712,.int 235 0,.int 1 0,.int 0 0,.int 0 0,.int 3 0,.ref 398,.bool true,.int 181 0,.ref 399,.none,.none,.none,.ref 400,.int 713 0,.int 235 0,cp 714])
def xQ (P:Params):Obj:=⟨.type "function",none,.func (PySem.W.fnOf "law" "law" (aq (top0 44)) (ao (top0 44)) (ak (top0 44)) .none .none .none (.str "law_sluice_k52_sold_and_dropped" 631) none (.ref 401) .none),#[]⟩
def H0:Params→Heap:=fun P=>{ objs:=⟨Qw P :: Qv P :: Pr P :: ho_4 P :: Qu P :: Qt P :: Qs P :: Qq P :: Qp P :: Mt P :: Mh P :: []⟩ }
def H1:Params→Heap:=fun P=>{ objs:=⟨Qw P :: Qv P :: Pr P :: Lp P :: Qu P :: Qt P :: Qs P :: Qq P :: Qp P :: Mt P :: Mh P :: PL P :: PK P :: PJ P :: PB P :: KY P :: Pz P :: KC P :: Ks P :: Py P :: Kd P :: J8 P :: J5 P :: Px P :: JX P :: JR P :: Pu P :: JH P :: JC P :: Jw P :: Pq P :: Pn P :: Jm P :: Ji P :: Jd P :: Pk P :: Pj P :: Ph P :: Pg P :: Pb P :: Pa P :: Im P :: Il P :: Ik P :: Ij P :: O9 P :: O8 P :: Ii P :: O7 P :: O6 P :: O4 P :: O1 P :: OJ P :: OD P :: Ih P :: Ig P :: Ie P :: Oz P :: Ox P :: Ib P :: Ov P :: Ou P :: Ot P :: Oq P :: Oo P :: Om P :: Ia P :: HY P :: HX P :: Ol P :: Oj P :: HW P :: Oi P :: Oh P :: Og P :: Oe P :: Od P :: Oc P :: HS P :: HN P :: HJ P :: Ob P :: Oa P :: HF P :: N8 P :: N7 P :: N6 P :: N5 P :: NZ P :: NT P :: HD P :: HB P :: Hy P :: NQ P :: NP P :: Hx P :: NK P :: Ms P :: Mr P :: Mq P :: Mp P :: Ml P :: Ep P :: Eo P :: En P :: Mj P :: Mi P :: Em P :: Mg P :: Mf P :: Ma P :: LR P :: LQ P :: LK P :: El P :: Ek P :: Ej P :: LC P :: Lz P :: Ei P :: Ly P :: Lx P :: Lw P :: Ls P :: Lr P :: Lq P :: Eh P :: Ef P :: Ed P :: Ln P :: Lk P :: Ec P :: Lj P :: Li P :: Lh P :: Lg P :: Lf P :: Le P :: Eb P :: Ea P :: DY P :: Ld P :: Lb P :: DX P :: La P :: DW P :: DR P :: K9 P :: DQ P :: DP P :: DN P :: K8 P :: K7 P :: DK P :: DG P :: Dz P :: K6 P :: Dy P :: Dw P :: K5 P :: Dv P :: Du P :: Dt P :: K4 P :: Ds P :: Dr P :: K3 P :: Dq P :: Dp P :: Dn P :: K1 P :: Dl P :: Dk P :: KZ P :: Dj P :: Di P :: Dh P :: KR P :: Dg P :: Dd P :: KQ P :: Dc P :: CZ P :: CV P :: KN P :: CT P :: CQ P :: KJ P :: CP P :: CK P :: CJ P :: KH P :: CG P :: Cz P :: KD P :: Cy P :: Cw P :: Cv P :: Kz P :: Cu P :: Cr P :: Ky P :: Cq P :: Cp P :: Kw P :: Kv P :: Ku P :: Kr P :: Kq P :: Kp P :: Ko P :: Cm P :: Km P :: Ck P :: Cj P :: Kl P :: Ci P :: Cg P :: Ce P :: Kh P :: Cd P :: Ca P :: Kg P :: BZ P :: BX P :: BW P :: Ke P :: BR P :: BP P :: Kc P :: BL P :: BK P :: BJ P :: Ka P :: Bx P :: Bw P :: J9 P :: Bv P :: Bu P :: Bt P :: J7 P :: Bs P :: Br P :: J6 P :: Bq P :: Bp P :: Bo P :: J4 P :: Bm P :: Bl P :: J3 P :: Bk P :: Bj P :: Bh P :: Bg P :: J2 P :: Bf P :: Bd P :: J1 P :: Bb P :: Az P :: Ay P :: J0 P :: Ax P :: Aw P :: JZ P :: Av P :: Ar P :: Aq P :: JW P :: Ao P :: Am P :: JV P :: Al P :: Ak P :: Aj P :: JT P :: Ai P :: Ah P :: JQ P :: Ag P :: Af P :: Ae P :: JN P :: Ad P :: Ac P :: JM P :: Ab P :: Aa P :: z9 P :: JL P :: z8 P :: z7 P :: JK P :: zZ P :: zY P :: zX P :: JG P :: zW P :: zV P :: JF P :: zU P :: zT P :: zR P :: JD P :: zQ P :: zP P :: JB P :: zO P :: zN P :: zM P :: Jz P :: Jy P :: zL P :: zK P :: zJ P :: Jx P :: zH P :: zG P :: Jv P :: zF P :: zE P :: zB P :: Ju P :: zA P :: zy P :: Jt P :: zx P :: zu P :: zq P :: Js P :: zp P :: zm P :: Jr P :: zj P :: zf P :: zc P :: za P :: yZ P :: yX P :: yW P :: Jq P :: Jp P :: yV P :: Jo P :: yU P :: yS P :: Jl P :: yR P :: yQ P :: yP P :: Jk P :: yO P :: yN P :: Jj P :: yM P :: yL P :: yK P :: Jh P :: yJ P :: yI P :: Jg P :: yH P :: yG P :: yF P :: Jf P :: Je P :: yE P :: yD P :: yC P :: Jc P :: Jb P :: yx P :: yw P :: yu P :: Ja P :: IW P :: yt P :: yr P :: yq P :: IV P :: IK P :: yp P :: yj P :: yh P :: Iz P :: yg P :: yd P :: Iw P :: yc P :: xZ P :: xY P :: Iu P :: xX P :: xW P :: Ir P :: xV P :: xU P :: xT P :: Ip P :: Io P :: xR P :: xQ P :: []⟩ }
def Kf:Params→PySem.W.Frag:=fun P=>(nat_lit 2,Pr P) ::
 (nat_lit 3,Lp P) ::
 (nat_lit 15,KY P) ::
 (nat_lit 17,KC P) ::
 (nat_lit 18,Ks P) ::
 (nat_lit 20,Kd P) ::
 (nat_lit 21,J8 P) ::
 (nat_lit 22,J5 P) ::
 (nat_lit 24,JX P) ::
 (nat_lit 25,JR P) ::
 (nat_lit 27,JH P) ::
 (nat_lit 28,JC P) ::
 (nat_lit 29,Jw P) ::
 (nat_lit 32,Jm P) ::
 (nat_lit 33,Ji P) ::
 (nat_lit 34,Jd P) ::
 (nat_lit 41,Im P) ::
 (nat_lit 42,Il P) ::
 (nat_lit 43,Ik P) ::
 (nat_lit 44,Ij P) ::
 (nat_lit 47,Ii P) ::
 (nat_lit 54,Ih P) ::
 (nat_lit 55,Ig P) ::
 (nat_lit 56,Ie P) ::
 (nat_lit 59,Ib P) ::
 (nat_lit 66,Ia P) ::
 (nat_lit 67,HY P) ::
 (nat_lit 68,HX P) ::
 (nat_lit 71,HW P) ::
 (nat_lit 78,HS P) ::
 (nat_lit 79,HN P) ::
 (nat_lit 80,HJ P) ::
 (nat_lit 83,HF P) ::
 (nat_lit 90,HD P) ::
 (nat_lit 91,HB P) ::
 (nat_lit 92,Hy P) ::
 (nat_lit 95,Hx P) ::
 (nat_lit 102,Ep P) ::
 (nat_lit 103,Eo P) ::
 (nat_lit 104,En P) ::
 (nat_lit 107,Em P) ::
 (nat_lit 114,El P) ::
 (nat_lit 115,Ek P) ::
 (nat_lit 116,Ej P) ::
 (nat_lit 119,Ei P) ::
 (nat_lit 126,Eh P) ::
 (nat_lit 127,Ef P) ::
 (nat_lit 128,Ed P) ::
 (nat_lit 131,Ec P) ::
 (nat_lit 138,Eb P) ::
 (nat_lit 139,Ea P) ::
 (nat_lit 140,DY P) ::
 (nat_lit 143,DX P) ::
 (nat_lit 145,DW P) ::
 (nat_lit 146,DR P) ::
 (nat_lit 148,DQ P) ::
 (nat_lit 149,DP P) ::
 (nat_lit 150,DN P) ::
 (nat_lit 153,DK P) ::
 (nat_lit 154,DG P) ::
 (nat_lit 155,Dz P) ::
 (nat_lit 157,Dy P) ::
 (nat_lit 158,Dw P) ::
 (nat_lit 160,Dv P) ::
 (nat_lit 161,Du P) ::
 (nat_lit 162,Dt P) ::
 (nat_lit 164,Ds P) ::
 (nat_lit 165,Dr P) ::
 (nat_lit 167,Dq P) ::
 (nat_lit 168,Dp P) ::
 (nat_lit 169,Dn P) ::
 (nat_lit 171,Dl P) ::
 (nat_lit 172,Dk P) ::
 (nat_lit 174,Dj P) ::
 (nat_lit 175,Di P) ::
 (nat_lit 176,Dh P) ::
 (nat_lit 178,Dg P) ::
 (nat_lit 179,Dd P) ::
 (nat_lit 181,Dc P) ::
 (nat_lit 182,CZ P) ::
 (nat_lit 183,CV P) ::
 (nat_lit 185,CT P) ::
 (nat_lit 186,CQ P) ::
 (nat_lit 188,CP P) ::
 (nat_lit 189,CK P) ::
 (nat_lit 190,CJ P) ::
 (nat_lit 192,CG P) ::
 (nat_lit 193,Cz P) ::
 (nat_lit 195,Cy P) ::
 (nat_lit 196,Cw P) ::
 (nat_lit 197,Cv P) ::
 (nat_lit 199,Cu P) ::
 (nat_lit 200,Cr P) ::
 (nat_lit 202,Cq P) ::
 (nat_lit 203,Cp P) ::
 (nat_lit 211,Cm P) ::
 (nat_lit 213,Ck P) ::
 (nat_lit 214,Cj P) ::
 (nat_lit 216,Ci P) ::
 (nat_lit 217,Cg P) ::
 (nat_lit 218,Ce P) ::
 (nat_lit 220,Cd P) ::
 (nat_lit 221,Ca P) ::
 (nat_lit 223,BZ P) ::
 (nat_lit 224,BX P) ::
 (nat_lit 225,BW P) ::
 (nat_lit 227,BR P) ::
 (nat_lit 228,BP P) ::
 (nat_lit 230,BL P) ::
 (nat_lit 231,BK P) ::
 (nat_lit 232,BJ P) ::
 (nat_lit 234,Bx P) ::
 (nat_lit 235,Bw P) ::
 (nat_lit 237,Bv P) ::
 (nat_lit 238,Bu P) ::
 (nat_lit 239,Bt P) ::
 (nat_lit 241,Bs P) ::
 (nat_lit 242,Br P) ::
 (nat_lit 244,Bq P) ::
 (nat_lit 245,Bp P) ::
 (nat_lit 246,Bo P) ::
 (nat_lit 248,Bm P) ::
 (nat_lit 249,Bl P) ::
 (nat_lit 251,Bk P) ::
 (nat_lit 252,Bj P) ::
 (nat_lit 253,Bh P) ::
 (nat_lit 254,Bg P) ::
 (nat_lit 256,Bf P) ::
 (nat_lit 257,Bd P) ::
 (nat_lit 259,Bb P) ::
 (nat_lit 260,Az P) ::
 (nat_lit 261,Ay P) ::
 (nat_lit 263,Ax P) ::
 (nat_lit 264,Aw P) ::
 (nat_lit 266,Av P) ::
 (nat_lit 267,Ar P) ::
 (nat_lit 268,Aq P) ::
 (nat_lit 270,Ao P) ::
 (nat_lit 271,Am P) ::
 (nat_lit 273,Al P) ::
 (nat_lit 274,Ak P) ::
 (nat_lit 275,Aj P) ::
 (nat_lit 277,Ai P) ::
 (nat_lit 278,Ah P) ::
 (nat_lit 280,Ag P) ::
 (nat_lit 281,Af P) ::
 (nat_lit 282,Ae P) ::
 (nat_lit 284,Ad P) ::
 (nat_lit 285,Ac P) ::
 (nat_lit 287,Ab P) ::
 (nat_lit 288,Aa P) ::
 (nat_lit 289,z9 P) ::
 (nat_lit 291,z8 P) ::
 (nat_lit 292,z7 P) ::
 (nat_lit 294,zZ P) ::
 (nat_lit 295,zY P) ::
 (nat_lit 296,zX P) ::
 (nat_lit 298,zW P) ::
 (nat_lit 299,zV P) ::
 (nat_lit 301,zU P) ::
 (nat_lit 302,zT P) ::
 (nat_lit 303,zR P) ::
 (nat_lit 305,zQ P) ::
 (nat_lit 306,zP P) ::
 (nat_lit 308,zO P) ::
 (nat_lit 309,zN P) ::
 (nat_lit 310,zM P) ::
 (nat_lit 313,zL P) ::
 (nat_lit 314,zK P) ::
 (nat_lit 315,zJ P) ::
 (nat_lit 317,zH P) ::
 (nat_lit 318,zG P) ::
 (nat_lit 320,zF P) ::
 (nat_lit 321,zE P) ::
 (nat_lit 322,zB P) ::
 (nat_lit 324,zA P) ::
 (nat_lit 325,zy P) ::
 (nat_lit 327,zx P) ::
 (nat_lit 328,zu P) ::
 (nat_lit 329,zq P) ::
 (nat_lit 331,zp P) ::
 (nat_lit 332,zm P) ::
 (nat_lit 334,zj P) ::
 (nat_lit 335,zf P) ::
 (nat_lit 336,zc P) ::
 (nat_lit 337,za P) ::
 (nat_lit 338,yZ P) ::
 (nat_lit 339,yX P) ::
 (nat_lit 340,yW P) ::
 (nat_lit 343,yV P) ::
 (nat_lit 345,yU P) ::
 (nat_lit 346,yS P) ::
 (nat_lit 348,yR P) ::
 (nat_lit 349,yQ P) ::
 (nat_lit 350,yP P) ::
 (nat_lit 352,yO P) ::
 (nat_lit 353,yN P) ::
 (nat_lit 355,yM P) ::
 (nat_lit 356,yL P) ::
 (nat_lit 357,yK P) ::
 (nat_lit 359,yJ P) ::
 (nat_lit 360,yI P) ::
 (nat_lit 362,yH P) ::
 (nat_lit 363,yG P) ::
 (nat_lit 364,yF P) ::
 (nat_lit 367,yE P) ::
 (nat_lit 368,yD P) ::
 (nat_lit 369,yC P) ::
 (nat_lit 372,yx P) ::
 (nat_lit 373,yw P) ::
 (nat_lit 374,yu P) ::
 (nat_lit 377,yt P) ::
 (nat_lit 378,yr P) ::
 (nat_lit 379,yq P) ::
 (nat_lit 382,yp P) ::
 (nat_lit 383,yj P) ::
 (nat_lit 384,yh P) ::
 (nat_lit 386,yg P) ::
 (nat_lit 387,yd P) ::
 (nat_lit 389,yc P) ::
 (nat_lit 390,xZ P) ::
 (nat_lit 391,xY P) ::
 (nat_lit 393,xX P) ::
 (nat_lit 394,xW P) ::
 (nat_lit 396,xV P) ::
 (nat_lit 397,xU P) ::
 (nat_lit 398,xT P) ::
 (nat_lit 401,xR P) ::
 (nat_lit 402,xQ P) :: []
def asK:List Addr:=[2,3,15,17,18,20,21,22,24,25,27,28,29,32,33,34,41,42,43,44,47,54,55,56,59,66,67,68,71,78,79,80,83,90,91,92,95,102,103,104,107,114,115,116,119,126,127,128,131,138,139,140,143,145,146,148,149,150,153,154,155,157,158,160,161,162,164,165,167,168,169,171,172,174,175,176,178,179,181,182,183,185,186,188,189,190,192,193,195,196,197,199,200,202,203,211,213,214,216,217,218,220,221,223,224,225,227,228,230,231,232,234,235,237,238,239,241,242,244,245,246,248,249,251,252,253,254,256,257,259,260,261,263,264,266,267,268,270,271,273,274,275,277,278,280,281,282,284,285,287,288,289,291,292,294,295,296,298,299,301,302,303,305,306,308,309,310,313,314,315,317,318,320,321,322,324,325,327,328,329,331,332,334,335,336,337,338,339,340,343,345,346,348,349,350,352,353,355,356,357,359,360,362,363,364,367,368,369,372,373,374,377,378,379,382,383,384,386,387,389,390,391,393,394,396,397,398,401,402]
theorem hkE:∀ P,asK=(Kf P).map (·.1):=fun _=>by kernel_rfl
def qv:Program:={ PySem.Challenge.pw_sluice_k52_sold_and_dropped with main:={ PySem.Challenge.pw_sluice_k52_sold_and_dropped.main with body:=[top0 44] } }
def qM:List Str:=("_wall":Str) :: ("MOST_WATER":Str) :: ("LONGEST_NAME":Str) :: ("LETTERS":Str) :: ("is_water":Str) :: ("is_name":Str) :: ("SluiceError":Str) :: ("NoRiver":Str) :: ("NoLicence":Str) :: ("NoNumber":Str) :: ("NoHolder":Str) :: ("NotYours":Str) :: ("NotAlone":Str) :: ("TooMuch":Str) :: ("Full":Str) :: ("MOST_REACHES":Str) :: ("MOUTH":Str) :: ("comes_to_mouth":Str) :: ("is_river":Str) :: ("way_of":Str) :: ("LAST_DAY":Str) :: ("is_licence":Str) :: ("day_filed":Str) :: ("most_of":Str) :: ("with_start":Str) :: ("with_most":Str) :: ("MOST_LICENCES":Str) :: ("look_at_name":Str) :: ("Roll":Str) :: ("_law_cell_at":Str) :: ("_law_whole":Str) :: ("_law_draw":Str) :: ("_law_draws":Str) :: ("_law_names":Str) :: ("_law_alike_lines":Str) :: ("_law_right":Str) :: ("_law_not_yours":Str) :: ("_law_begun":Str) :: []
end
theorem hp1:∀ w:World,(PySem.W.fencedOpening PySem.treeTable PySem.Challenge.rw_sluice_k52_sold_and_dropped.row.toRowW.prog w 7002).map (fun s=>(s.heap,s.gens,s.drawn,s.toks))=some (H0 w.params,#[],{},181):=by
  intro w;kernel_rfl
theorem hp2:∀ w:World,((H0 w.params).isNs mainGlobals && (#[]:Array GenState).size == 0,(H0 w.params).objs.size,(H0 w.params).nsMap mainGlobals "__annotations__")=(true,11,some (Value.ref 6)):=by
  intro w;kernel_rfl
theorem hp3:∀ (w:World) (os:OsState),PySem.W.topRun PySem.treeTable PySem.Challenge.rw_sluice_k52_sold_and_dropped.row.toRowW.prog w 11 (some (Value.ref 6)) 7002 ⟨H0 w.params,#[],{},181,os⟩ (PySem.W.topStub PySem.Challenge.rw_sluice_k52_sold_and_dropped.row.toRowW.prog)=some ⟨H1 w.params,#[],{},716,os⟩:=by
  intro w os;kernel_rfl
theorem hp4:∀ w:World,(fun os=>((PySem.W.staticsOk (importedModules PySem.Challenge.rw_sluice_k52_sold_and_dropped.row.toRowW.prog.main.body) (H0 w.params) (H1 w.params) && PySem.W.namesBound PySem.Challenge.rw_sluice_k52_sold_and_dropped.row.toRowW.prog (H1 w.params) && PySem.W.gensDone ⟨H1 w.params,#[],{},716,os⟩ && PySem.W.laidKept (H0 w.params) (H1 w.params)),PySem.W.openSeen qv qM (importedModules PySem.Challenge.rw_sluice_k52_sold_and_dropped.row.toRowW.prog.main.body) (fun s=>PySem.W.xlAt My.qv [] s && PySem.W.recOk (PySem.W.RowW.records PySem.Challenge.rw_sluice_k52_sold_and_dropped.row.toRowW) s) true ⟨H1 w.params,#[],{},716,os⟩,(PySem.W.Hook.obs (PySem.W.kHook My.Kf My.asK My.hkE)) ⟨H1 w.params,#[],{},716,os⟩))=fun _=>(true,PySem.W.openGood qv qM,(PySem.W.Hook.val (PySem.W.kHook My.Kf My.asK My.hkE)) w):=by
  intro w;kernel_rfl
theorem hlE:PySem.W.LeftO PySem.Challenge.rw_sluice_k52_sold_and_dropped.row.toRowW.prog qv My.qM (fun s=>PySem.W.xlAt My.qv [] s && PySem.W.recOk (PySem.W.RowW.records PySem.Challenge.rw_sluice_k52_sold_and_dropped.row.toRowW) s) (PySem.W.Hook.obs (PySem.W.kHook My.Kf My.asK My.hkE)) (PySem.W.Hook.val (PySem.W.kHook My.Kf My.asK My.hkE)) 7002:=PySem.W.LeftO.of_pieces hp1 hp2 hp3 (by decide) hp4
end My
namespace L2
open PySem PySem.Spec PyProof.Rows
abbrev Key:=Sum Int Str
def Hu:Key→Value→Bool
  | .inl k,v=>Value.isInt k v
  | .inr x,v=>Value.isStrOf x v
def keyH (w:World):Key→Int
  | .inl k=>hashInt k
  | .inr x=>hashStr w x
theorem dF:∀ {k:Key} {v:Value},Hu k v=true→(∃ i t,k=Sum.inl i∧v=Value.int i t)∨(∃ x t,k=Sum.inr x∧v=Value.str x t)
  | .inl i,v,h=>by
    obtain ⟨t,e⟩:=Value.isInt_shape (k:=i) (v:=v) h
    exact .inl ⟨i,t,rfl,e⟩
  | .inr x,v,h=>by
    obtain ⟨t,e⟩:=Value.isStrOf_shape (x:=x) (v:=v) h
    exact .inr ⟨x,t,rfl,e⟩
theorem Ht (a b:Int):decide ((Sum.inl a:Key)=Sum.inl b)=(a == b):=by
  by_cases e:a=b
  · subst e;simp
  · have h:¬ (Sum.inl a:Key)=Sum.inl b:=fun q=>e (Sum.inl.inj q)
    rw [decide_eq_false h]
    exact (beq_eq_false_iff_ne.mpr e).symm
theorem Hq (a b:Str):decide ((Sum.inr a:Key)=Sum.inr b)=decide (a=b):=by
  by_cases e:a=b
  · subst e;simp
  · have h:¬ (Sum.inr a:Key)=Sum.inr b:=fun q=>e (Sum.inr.inj q)
    rw [decide_eq_false h,decide_eq_false e]
theorem Hs (a:Int) (b:Str):decide ((Sum.inl a:Key)=Sum.inr b)=false:=decide_eq_false (fun q=>nomatch q)
theorem Hr (a:Str) (b:Int):decide ((Sum.inr a:Key)=Sum.inl b)=false:=decide_eq_false (fun q=>nomatch q)
def ur (prog:Program) (w:World):PySem.KeyKind prog w Key where
  is:=Hu
  hash:=keyH w
  inj:=fun v a b ha hb=>by
    rcases dF ha with ⟨i,t,rfl,rfl⟩ | ⟨x,t,rfl,rfl⟩
    · rcases dF hb with ⟨j,u,rfl,e⟩ | ⟨y,u,rfl,e⟩
      · injection e with e1 _;rw [e1]
      · exact nomatch e
    · rcases dF hb with ⟨j,u,rfl,e⟩ | ⟨y,u,rfl,e⟩
      · exact nomatch e
      · injection e with e1 _;rw [e1]
  byValue:=fun k v h=>by
    rcases dF h with ⟨i,t,rfl,rfl⟩ | ⟨x,t,rfl,rfl⟩ <;> rfl
  pyHash:=fun hv h=>by
    rcases dF hv with ⟨i,t,rfl,rfl⟩ | ⟨x,t,rfl,rfl⟩
    · exact wpAny_pyHash_int h
    · exact wpAny_pyHash_str h
  eqBool:=fun hu hv h=>by
    rcases dF hu with ⟨i,t,rfl,rfl⟩ | ⟨x,t,rfl,rfl⟩
    · rcases dF hv with ⟨j,u,rfl,rfl⟩ | ⟨y,u,rfl,rfl⟩
      · rw [Ht] at h;exact wpAny_eqBool_int h
      · rw [Hs] at h;exact SeqAt.EqAt.int_str i t y u _ _ _ _ h
    · rcases dF hv with ⟨j,u,rfl,rfl⟩ | ⟨y,u,rfl,rfl⟩
      · rw [Hr] at h;exact SeqAt.EqAt.str_int x t j u _ _ _ _ h
      · rw [Hq] at h;exact wpAny_eqBool_str h
  «strs»:=fun k x t v h=>by
    rcases dF h with ⟨i,u,rfl,e⟩ | ⟨y,u,rfl,e⟩
    · exact nomatch e
    · injection e with e1 _
      subst e1
      cases v <;> rfl
end L2
namespace L2
open PySem PySem.Spec PyProof.Rows
inductive V where
  | non | bl (b:Bool) | int (i:Int) | str (x:Str) | byt (b:Array UInt8) | flt (b:UInt64) | ref (a:Addr) | ty (n:String)
  deriving DecidableEq
def RelV:V→Value→Prop
  | .non,u=>u=Value.none
  | .bl b,u=>u=Value.bool b
  | .int i,u=>∃ t,u=Value.int i t
  | .str x,u=>∃ t,u=Value.str x t
  | .byt b,u=>∃ t,u=Value.bytes b t
  | .flt b,u=>∃ t,u=Value.float b t
  | .ref a,u=>u=Value.ref a
  | .ty n,u=>u=Value.type n
abbrev Vals:List V→List Value→Prop:=Paired RelV
theorem Vals.length {xs:List V} {us:List Value} (r:Vals xs us):xs.length=us.length:=Paired.length r
theorem Vals.get:∀ {xs:List V} {us:List Value} {i:Nat} {x:V},Vals xs us→xs[i]?=some x→∃ u,us[i]?=some u∧RelV x u
  | _,_,_,_,.nil,e=>by simp at e
  | _,_,0,_,.cons r _,e=>by simp at e;subst e;exact ⟨_,rfl,r⟩
  | _,_,i + 1,x,.cons _ t,e=>by
    obtain ⟨u,h1,h2⟩:=Vals.get (i:=i) (x:=x) t (by simpa using e)
    exact ⟨u,by simpa using h1,h2⟩
theorem Vals.set {x:V} {u:Value} (r:RelV x u):∀ {xs:List V} {us:List Value} (i:Nat),Vals xs us→Vals (xs.set i x) (us.set i u)
  | _,_,_,.nil=>.nil
  | _,_,0,.cons _ t=>.cons r t
  | _,_,i + 1,.cons q t=>.cons q (Vals.set r i t)
theorem Vals.append:∀ {xs ys:List V} {us ws:List Value},Vals xs us→Vals ys ws→Vals (xs++ys) (us++ws)
  | _,_,_,_,.nil,s=>s
  | _,_,_,_,.cons r t,s=>.cons r (Vals.append t s)
theorem Vals.take:∀ {xs:List V} {us:List Value} (n:Nat),Vals xs us→Vals (xs.take n) (us.take n)
  | _,_,0,_=>.nil
  | _,_,_ + 1,.nil=>.nil
  | _,_,n + 1,.cons r t=>.cons r (Vals.take n t)
theorem Vals.drop:∀ {xs:List V} {us:List Value} (n:Nat),Vals xs us→Vals (xs.drop n) (us.drop n)
  | _,_,0,r=>r
  | _,_,_ + 1,.nil=>.nil
  | _,_,n + 1,.cons _ t=>Vals.drop n t
def vh:Option V→Option Value→Prop
  | some v,some u=>RelV v u
  | none,none=>True
  | _,_=>False
def KV {κ:Type}:List (κ × V)→List (κ × Value)→Prop:=Paired fun (p:κ × V) (q:κ × Value)=>p.1=q.1∧RelV p.2 q.2
def kV:Key→V
  | .inl i=>.int i
  | .inr x=>.str x
inductive HO where
  /-- a list -/
  | lst (xs:List V)
  /-- a tuple (never changes) -/
  | tup (xs:List V)
  /-- a dict whose keys are ints and texts; one whose keys are tuples of ints and texts (the empty one is both) -/
  | dK (kvs:List (Key × V)) | dT (kvs:List (List Key × V))
  /-- a set of ints: its members, its size -/
  | set (S:Int→Bool) (n:Nat)
  /-- an instance of the class at C, its dict at dx, its attributes -/
  | ins (C dx:Addr) (fs:List (Str × V))
  /-- the dict of the instance at x -/
  | own (x:Addr)
  /-- the dict of an exception -/
  | xd (fs:List (Str × V))
  /-- a bound method, f of x -/
  | met (f x:Addr)
  /-- a range object lo, lo + 1, .. below hi -/
  | rng (lo hi:Int)
  /-- a thing that is known to the object (the script; a dict while a loop walks it): read, never written while it is so -/
  | frz (o:Obj) (u:HO)
  /-- a code object's table -/
  | tbl (ps:Array Value)
  /-- any other thing, by what is true of its one object (a def of one's own: SetO a S n := HO.ext fun h => ..) -/
  | ext (φ:Heap→Prop)
abbrev Hp:=Addr→Option HO
def upd (H:Hp) (a:Addr) (o:HO):Hp:=fun b=>if b=a then some o else H b
theorem bR {H:Hp} {a:Addr} {o:HO}:upd H a o a=some o:=by unfold upd;rw [if_pos rfl]
theorem aM {H:Hp} {a b:Addr} {o:HO} (h:b≠a):upd H a o b=H b:=by unfold upd;rw [if_neg h]
theorem cB {H:Hp} {a b:Addr} {o:HO} (h:H a=some o) (h':H b=none):a≠b:=by
  intro e;subst e;rw [h] at h';cases h'
section
variable (P:Program) (w:World)
def fV (H:Hp) (h:Heap) (a:Addr):HO→Prop
  | .lst xs=>xs.length≤sizeLine∧∃ (its:List Value) (n:Nat),Vals xs its∧h.get? a=some { cls:=.type "list",data:=.seq its.toArray n }
  | .tup xs=>xs.length≤sizeLine∧∃ its:List Value,Vals xs its∧IsTup h a its.toArray
  | .dK kvs=>kvs.length≤sizeLine∧(a == sysModules)=false∧∃ vs,KV kvs vs∧h.DictOf (ur P w) a vs
  | .dT kvs=>kvs.length≤sizeLine∧(a == sysModules)=false∧∃ xs:List (List Key × Addr × Value),
      Paired (fun (p:List Key × V) (q:List Key × Addr × Value)=>p.1=q.1∧H q.2.1=some (.tup (p.1.map kV))∧RelV p.2 q.2.2) kvs xs ∧
      ∃ o es ep,h.get? a=some o∧o.ExactDict∧o.data=.dict es ep∧es.toList=xs.map (entryOfKey (tupleKind (ur P w)))∧(xs.map (·.1)).Nodup
  | .set S n=>h.SetOf (intKind P w) a S n
  | .ins C dx fs=>H dx=some (.own a)∧fs.length≤1000∧dx≠a∧h.get? a=some (PySem.W.instObj C dx) ∧
      ∃ mA,h.Ns1 dx mA∧(∀ f,vh (fs.lookup f) (mA f))∧PySem.Within mA (fs.map (·.1))
  | .own _=>∃ o,h.get? a=some o
  | .xd fs=>∃ mA,h.Ns1 a mA∧∀ f,vh (fs.lookup f) (mA f)
  | .rng lo hi=>∃ t u v,h.get? a=some { cls:=.type "range",data:=.fields #[.int lo t,.int hi u,.int 1 v] }
  | .frz o u=>h.get? a=some o∧fV H h a u
  | .tbl ps=>h.get? a=some { cls:=.none,data:=.fields ps }
  | .met f x=>h.get? a=some (PySem.W.methodObj (.ref f) (.ref x))
  | .ext φ=>φ h∧(∃ o,h.get? a=some o)∧∀ h1 h2:Heap,φ h1→(∀ o,h1.get? a=some o→h2.get? a=some o)→φ h2
def HOk (H:Hp) (h:Heap):Prop:=∀ a o,H a=some o→fV P w H h a o
end
section
variable {P:Program} {w:World} {H H':Hp} {h h':Heap} {a:Addr} {o:HO}
theorem fV.lt (x:fV P w H h a o):a<h.objs.size:=by
  cases o with
  | lst xs=>obtain ⟨_,_,_,_,e⟩:=x;exact Heap.lt_size e
  | tup xs=>obtain ⟨_,_,_,p⟩:=x;exact p.lt
  | dK kvs=>obtain ⟨_,_,_,_,o,_,_,e,_⟩:=x;exact Heap.lt_size e
  | dT kvs=>obtain ⟨_,_,_,_,o,_,_,e,_⟩:=x;exact Heap.lt_size e
  | set S n=>obtain ⟨o,_,_,_,e,_⟩:=x;exact Heap.lt_size e
  | ins C dx fs=>obtain ⟨_,_,_,e,_⟩:=x;exact Heap.lt_size e
  | own y=>obtain ⟨_,e⟩:=x;exact Heap.lt_size e
  | xd fs=>obtain ⟨_,⟨_,_,_,e,_⟩,_⟩:=x;exact Heap.lt_size e
  | rng lo hi=>obtain ⟨_,_,_,e⟩:=x;exact Heap.lt_size e
  | frz ob u=>obtain ⟨e,_⟩:=x;exact Heap.lt_size e
  | tbl ps=>exact Heap.lt_size (show h.get? a=some _ from x)
  | met f y=>exact Heap.lt_size (show h.get? a=some _ from x)
  | ext φ=>obtain ⟨_,⟨_,e⟩,_⟩:=x;exact Heap.lt_size e
theorem Paired.Qo {α β:Type} {F G:α→β→Prop}:∀ {l₁:List α} {l₂:List β},Paired F l₁ l₂→(∀ a b,F a b→G a b)→Paired G l₁ l₂
  | _,_,.nil,_=>.nil
  | _,_,.cons r t,f=>.cons (f _ _ r) (Paired.Qo t f)
theorem fV.stay (x:fV P w H h a o) (k:∀ b u,(b=a∨H b=some (.own a))→h.get? b=some u→h'.get? b=some u)
    (ho:∀ b,H b=some (.own a)→H' b=some (.own a)) (ht:∀ b xs,H b=some (.tup xs)→H' b=some (.tup xs)):fV P w H' h' a o:=by
  induction o with
  | lst xs=>obtain ⟨z,its,n,r,e⟩:=x;exact ⟨z,its,n,r,k _ _ (.inl rfl) e⟩
  | tup xs=>obtain ⟨z,its,r,ob,e,c⟩:=x;exact ⟨z,its,r,ob,k _ _ (.inl rfl) e,c⟩
  | dK kvs=>obtain ⟨z,y,vs,r,ob,es,ep,e,c⟩:=x;exact ⟨z,y,vs,r,ob,es,ep,k _ _ (.inl rfl) e,c⟩
  | dT kvs =>
    obtain ⟨z,y,xs,r,ob,es,ep,e,c⟩:=x
    exact ⟨z,y,xs,Paired.Qo r fun p q z=>⟨z.1,ht _ _ z.2.1,z.2.2⟩,ob,es,ep,k _ _ (.inl rfl) e,c⟩
  | set S n=>obtain ⟨ob,es,ep,t,e,c⟩:=x;exact ⟨ob,es,ep,t,k _ _ (.inl rfl) e,c⟩
  | ins C dx fs =>
    obtain ⟨d,z,ne,e,mA,⟨od,es,ep,e2,c⟩,r⟩:=x
    exact ⟨ho _ d,z,ne,k _ _ (.inl rfl) e,mA,⟨od,es,ep,k _ _ (.inr d) e2,c⟩,r⟩
  | own y=>obtain ⟨ob,e⟩:=x;exact ⟨ob,k _ _ (.inl rfl) e⟩
  | xd fs=>obtain ⟨mA,⟨od,es,ep,e,c⟩,r⟩:=x;exact ⟨mA,⟨od,es,ep,k _ _ (.inl rfl) e,c⟩,r⟩
  | rng lo hi=>obtain ⟨t,u,v,e⟩:=x;exact ⟨t,u,v,k _ _ (.inl rfl) e⟩
  | frz ob u ih=>obtain ⟨e,q⟩:=x;exact ⟨k _ _ (.inl rfl) e,ih q⟩
  | tbl ps =>
    have e:h.get? a=some { cls:=.none,data:=.fields ps }:=x
    show h'.get? a=some { cls:=.none,data:=.fields ps }
    exact k a _ (.inl rfl) e
  | met f y =>
    have e:h.get? a=some (PySem.W.methodObj (.ref f) (.ref y)):=x
    show h'.get? a=some (PySem.W.methodObj (.ref f) (.ref y))
    exact k a _ (.inl rfl) e
  | ext φ=>obtain ⟨p,⟨o,e⟩,st⟩:=x;exact ⟨st _ _ p fun o q=>k _ _ (.inl rfl) q,⟨o,k _ _ (.inl rfl) e⟩,st⟩
theorem HOk.lt (x:HOk P w H h) (e:H a=some o):a<h.objs.size:=(x a o e).lt
theorem HOk.fresh (x:HOk P w H h) (e:h.objs.size≤a):H a=none:=by
  cases q:H a with
  | none=>rfl
  | some u=>exact absurd (Nat.lt_of_lt_of_le (x.lt q) e) (Nat.lt_irrefl _)
theorem HOk.kept (x:HOk P w H h) (k:∀ b u,h.get? b=some u→h'.get? b=some u):HOk P w H h':=fun a o e =>
  (x a o e).stay (fun b u _ q=>k b u q) (fun _ q=>q) fun _ _ q=>q
theorem HOk.laid (x:HOk P w H h) (k:∀ b u,h.get? b=some u→h'.get? b=some u) (hp:h.objs.size≤a) (new:fV P w (upd H a o) h' a o):HOk P w (upd H a o) h':=fun b u e=>by
  have hn:=x.fresh hp
  by_cases hb:b=a
  · subst hb;rw [bR] at e;cases e;exact new
  · rw [aM hb] at e
    exact (x b u e).stay (fun c v _ q=>k c v q) (fun c q=>by rw [aM (cB q hn)];exact q) fun c xs q=>by rw [aM (cB q hn)];exact q
end
def Rd (H:Hp) (a:Addr) (u:HO):Prop:=H a=some u∨∃ o,H a=some (.frz o u)
theorem Rd.ok {P:Program} {w:World} {H:Hp} {h:Heap} {a:Addr} {u:HO} (r:Rd H a u) (x:HOk P w H h):fV P w H h a u:=by
  rcases r with r | ⟨o,r⟩
  · exact x a u r
  · obtain ⟨_,q⟩:=x a _ r
    exact q
def Mut:Option HO→Prop
  | some (.lst _)=>True
  | some (.dK _)=>True
  | some (.dT _)=>True
  | some (.set _ _)=>True
  | some (.ins _ _ _)=>True
  | some (.ext _)=>True
  | _=>False
section
variable {P:Program} {w:World} {H:Hp} {h h':Heap} {x e:Addr} {o':HO}
theorem HOk.write (ok:HOk P w H h) (mu:Mut (H x)) (he:e=x∨H e=some (.own x)) (k:∀ b u,b≠e→h.get? b=some u→h'.get? b=some u) (heo:∃ u,h'.get? e=some u)
    (new:fV P w (upd H x o') h' x o'):HOk P w (upd H x o') h':=fun b u q=>by
  have nown:∀ c y,H c=some (.own y)→c≠x:=fun c y r z=>by subst z;rw [r] at mu;exact mu
  have ntup:∀ c xs,H c=some (.tup xs)→c≠x:=fun c xs r z=>by subst z;rw [r] at mu;exact mu
  by_cases hb:b=x
  · subst hb;rw [bR] at q;cases q;exact new
  · rw [aM hb] at q
    by_cases hbe:b=e
    · have q':H b=some (.own x):=by
        rcases he with z | z
        · exact absurd (hbe.trans z) hb
        · rw [hbe];exact z
      rw [q] at q';cases q'
      obtain ⟨v,hv⟩:=heo
      exact ⟨v,by rw [hbe];exact hv⟩
    · refine (ok b u q).stay (fun c v hc r=>k c v ?_ r) (fun c r=>by rw [aM (nown c b r)];exact r) fun c xs r=>by rw [aM (ntup c xs r)];exact r
      rcases hc with rfl | hc
      · exact hbe
      · rintro rfl
        rcases he with z | z
        · exact nown c b hc z
        · rw [hc] at z;cases z;exact hb rfl
end
structure Un (fs ex:List Addr) (H H':Hp) (h h':Heap):Prop where
  keep:∀ b o,h.get? b=some o→H b=none→b ∉ fs→b ∉ ex→h'.get? b=some o
  slot:∀ b o,h.get? b=some o→H b=none→b∈fs→b ∉ ex→∃ sl,h'.get? b=some { o with slots:=sl }
  free:∀ b o,h.get? b=some o→H b=none→b ∉ ex→H' b=none
  there:∀ b o,h.get? b=some o→b ∉ ex→∃ o',h'.get? b=some o'
  tups:∀ b xs,H b=some (.tup xs)→H' b=some (.tup xs)
  frzs:∀ b o u,H b=some (.frz o u)→H' b=some (.frz o u)
  tbls:∀ b ps,H b=some (.tbl ps)→∃ more,H' b=some (.tbl (ps++more))
section
variable {fs fs' ex ex':List Addr} {H H1 H2:Hp} {h h1 h2 h':Heap} {a x e:Addr} {o:HO}
theorem Un.any (u:Un fs ex H H1 h h1) {b:Addr} {ob:Obj} (q:h.get? b=some ob) (n:H b=none) (hx:b ∉ ex):∃ sl,h1.get? b=some { ob with slots:=sl }:=by
  by_cases hb:b∈fs
  · exact u.slot b ob q n hb hx
  · exact ⟨ob.slots,u.keep b ob q n hb hx⟩
theorem Un.kept (k:∀ b u,h.get? b=some u→h'.get? b=some u):Un fs ex H H h h' :=
  ⟨fun b ob q _ _ _=>k b ob q,fun b ob q _ _ _=>⟨ob.slots,k b ob q⟩,fun _ _ _ n _=>n,fun b ob q _=>⟨ob,k b ob q⟩,fun _ _ q=>q,fun _ _ _ q=>q,fun _ ps q=>⟨#[],by rw [q];simp⟩⟩
theorem Un.refl:Un fs ex H H h h:=Un.kept fun _ _ q=>q
theorem Un.laid (k:∀ b u,h.get? b=some u→h'.get? b=some u) (hp:h.objs.size≤a) (hn:H a=none):Un fs ex H (upd H a o) h h' where
  keep:=fun b u q _ _ _=>k b u q
  slot:=fun b u q _ _ _=>⟨u.slots,k b u q⟩
  free:=fun b u q n _=>by rw [aM (Nat.ne_of_lt (Nat.lt_of_lt_of_le (Heap.lt_size q) hp))];exact n
  there:=fun b u q _=>⟨u,k b u q⟩
  tups:=fun b xs q=>by rw [aM (cB q hn)];exact q
  frzs:=fun b u xs q=>by rw [aM (cB q hn)];exact q
  tbls:=fun b ps q=>⟨#[],by rw [aM (cB q hn),q];simp⟩
theorem Un.write (mu:Mut (H x)) (he:e=x∨H e=some (.own x)) (k:∀ b u,b≠e→h.get? b=some u→h'.get? b=some u) (heo:∃ u,h'.get? e=some u):Un fs ex H (upd H x o) h h':=by
  have hx:∀ b,H b=none→b≠x:=fun b n z=>by subst z;rw [n] at mu;exact mu
  have hb:∀ b,H b=none→b≠e:=fun b n z=>by
    subst z
    rcases he with r | r
    · exact hx b n r
    · rw [n] at r;cases r
  have hm:∀ b u,H b=some u→¬ Mut (some u)→b≠x:=fun b u q nm z=>by subst z;rw [q] at mu;exact nm mu
  refine ⟨fun b u q n _ _=>k b u (hb b n) q,fun b u q n _ _=>⟨u.slots,k b u (hb b n) q⟩,fun b u q n _=>by rw [aM (hx b n)];exact n,fun b u q _=>?_,
    fun b xs q=>by rw [aM (hm b _ q fun z=>z)];exact q,fun b u xs q=>by rw [aM (hm b _ q fun z=>z)];exact q,fun b ps q=>⟨#[],by rw [aM (hm b _ q fun z=>z),q];simp⟩⟩
  by_cases hbe:b=e
  · subst hbe;exact heo
  · exact ⟨u,k b u hbe q⟩
end
def trk (h:Heap) (H:Hp):List Addr:=(List.range h.objs.size).filter fun a=>(H a).isSome
def wG (h:Heap) (H:Hp):Heap:=PySem.W.hideAll h (trk h H)
theorem uH (h:Heap) (H:Hp):(wG h H).objs.size=h.objs.size:=PySem.W.hideAll_size _ _
theorem wF {h:Heap} {H:Hp} {b:Addr} {o:Obj} (e:h.get? b=some o) (n:H b=none):(wG h H).get? b=some o :=
  PySem.W.hideAll_get _ e fun hm=>by
    have q:(H b).isSome=true:=(List.mem_filter.mp hm).2
    rw [n] at q;simp at q
theorem Fy {h:Heap} {H:Hp} {b:Addr} {o:Obj} (e:(wG h H).get? b=some o):h.get? b=some o∧H b=none:=by
  have e':h.get? b=some o:=PySem.W.of_hideAll (trk h H) e
  refine ⟨e',?_⟩
  cases q:H b with
  | none=>rfl
  | some x =>
    have hm:b∈trk h H:=List.mem_filter.mpr ⟨List.mem_range.mpr (Heap.lt_size e'),by simp [q]⟩
    have z:(wG h H).get? b=none:=PySem.W.hideAll_none (trk h H) hm
    rw [z] at e;cases e
end L2
namespace L2
open PySem PySem.Spec PyProof.Rows
structure Mod (K:PySem.W.Frag) (mg:Str→Option Value) (base:Heap):Prop where
  kin:K.In base
  glob:base.Ns mainGlobals mg
  blt:∃ mb,base.Ns builtinsNs mb∧∀ x:Str,x≠"__name__"→mb x=bootBuiltins x
  nolimit:base.NoLimit
structure Cx where
  prog:Program
  w:World
  K:PySem.W.Frag
  mg:Str→Option Value
  base:Heap
  A:Around
  N:List Str
  s₀:Shared
  H₀:Hp
  env:Env
  outer:List Env
  stack:List Env
  ex:List Addr
  fn:Str→Bool
  calm:Bool
  pn:List (Addr × Obj)
  xe:Value→Shared→Prop
def frs (l:List Env):List Addr:=l.filterMap (·.frame)
abbrev Cx.fs (X:Cx):List Addr:=frs X.outer
def Vis (sc:Scope) (x:Str):Prop:=sc.names.lookup x=some .local∨sc.names.lookup x=some .cell∨sc.names.lookup x=some .free
def Loc (sc:Scope) (x:Str):Prop:=sc.names.lookup x=some .local∨sc.names.lookup x=some .cell
def Look (env:Env) (h:Heap) (m:Str→Option Value) (x:Str) (u:Value):Prop :=
  (env.kindOf x=some .local∧m x=some u)∨((env.kindOf x=some .cell∨env.kindOf x=some .free)∧∃ c,env.cells.lookup x=some c∧h.IsCell c (some u))
structure Cx.Ok (X:Cx):Prop where
  mod:Mod X.K X.mg X.base
  kind:X.env.scope.kind=.function
  glob:X.env.globals=mainGlobals
  blt:X.env.builtins=builtinsNs
  above:X.s₀.heap.objs.size≤X.env.locals
  inj:∀ x y c,X.env.cells.lookup x=some c→X.env.cells.lookup y=some c→x=y
  has:∀ x,(X.env.kindOf x=some .cell∨X.env.kindOf x=some .free)→∃ c,X.env.cells.lookup x=some c
  cab:∀ x c,X.fn x=true→X.env.cells.lookup x=some c→X.s₀.heap.objs.size≤c
  hd:X.calm=true→X.A.handled=none
  frames:X.A.frames=some X.stack
  stk:X.stack=X.outer∨(X.stack=X.env :: X.outer∧X.env.frame=some X.env.locals)
  exf:∀ b∈X.ex,b≠X.env.locals∧∀ x c,X.env.cells.lookup x=some c→c≠b
  bs:∀ b o,X.base.get? b=some o→X.s₀.heap.get? b=some o∧X.H₀ b=none
  bsz:X.base.objs.size≤X.s₀.heap.objs.size
  noex:∀ b o,X.base.get? b=some o→b ∉ X.ex
  exfs:∀ b∈X.ex,b ∉ X.fs
  qO:X.s₀.heap.FunFrames X.base X.outer
  frf:∀ b∈X.fs,X.H₀ b=none
structure Inv (X:Cx) (pins:List (Addr × Obj)) (σ:List (Option V)) (H:Hp) (s:Shared):Prop where
  ok:X.Ok
  os:s.os=X.s₀.os
  bare:AllBare s.gens
  base:Un X.fs X.ex X.H₀ H X.s₀.heap s.heap
  loc:∃ m,s.heap.Ns X.env.locals m∧∀ (i:Nat) (x:Str) (v:V),X.N[i]?=some x→σ[i]?=some (some v)→Vis X.env.scope x→∃ u,RelV v u∧Look X.env s.heap m x u
  cell:∀ x c,X.env.cells.lookup x=some c→∃ v,s.heap.IsCell c v
  free:H X.env.locals=none
  freeC:∀ x c,X.env.cells.lookup x=some c→H c=none
  pin:∀ p∈X.pn++pins,s.heap.get? p.1=some p.2∧H p.1=none∧p.1≠X.env.locals∧p.1 ∉ X.fs∧∀ v,p.2.data≠.cell v
  hok:HOk X.prog X.w H s.heap
  len:σ.length=X.N.length
section
variable {X:Cx} {pins:List (Addr × Obj)} {σ:List (Option V)} {H H':Hp} {s:Shared} {h':Heap}
theorem Cx.Ok.nofr (ok:X.Ok) {b:Addr} {o:Obj} (e:X.base.get? b=some o):b ∉ X.fs:=fun hb=>by
  have:=(ok.qO.mem hb).1
  rw [e] at this;cases this
theorem Inv.bs (I:Inv X pins σ H s):∀ b o,X.base.get? b=some o→s.heap.get? b=some o∧H b=none:=fun b o e =>
  ⟨I.base.keep b o (I.ok.bs b o e).1 (I.ok.bs b o e).2 (I.ok.nofr e) (I.ok.noex b o e),I.base.free b o (I.ok.bs b o e).1 (I.ok.bs b o e).2 (I.ok.noex b o e)⟩
theorem Inv.bk (I:Inv X pins σ H s):∀ b o,X.base.get? b=some o→s.heap.get? b=some o:=fun b o e=>(I.bs b o e).1
theorem Inv.mod (I:Inv X pins σ H s):Mod X.K X.mg X.base:=I.ok.mod
theorem Inv.kIn (I:Inv X pins σ H s):X.K.In s.heap:=I.ok.mod.kin.keeps I.bk
theorem Inv.lt (I:Inv X pins σ H s):X.env.locals<s.heap.objs.size:=let ⟨_,hn,_⟩:=I.loc;hn.lt
theorem Inv.sz (I:Inv X pins σ H s):X.s₀.heap.objs.size≤s.heap.objs.size:=Nat.le_trans I.ok.above (Nat.le_of_lt I.lt)
theorem Inv.nofs (I:Inv X pins σ H s) {a:Addr} (h:s.heap.objs.size≤a):a ∉ X.fs:=fun hb=>by
  obtain ⟨_,o,ho,_⟩:=I.ok.qO.mem hb
  exact absurd (Nat.lt_of_lt_of_le (Heap.lt_size ho) (Nat.le_trans I.sz h)) (Nat.lt_irrefl _)
theorem Inv.cne (I:Inv X pins σ H s):∀ x c,X.env.cells.lookup x=some c→c≠X.env.locals:=fun x c e z=>by
  obtain ⟨v,o,ho,hd⟩:=I.cell x c e
  obtain ⟨m,⟨o',es,ep,ho',hd',_⟩,_⟩:=I.loc
  rw [z,ho'] at ho;cases ho;rw [hd'] at hd;cases hd
theorem Inv.qO (I:Inv X pins σ H s):s.heap.FunFrames X.base X.outer:=by
  have all:∀ (l:List Env),(∀ b∈frs l,b∈X.fs)→X.s₀.heap.FunFrames X.base l→s.heap.FunFrames X.base l:=by
    intro l
    induction l with
    | nil=>intro _ _;trivial
    | cons env r ih =>
      intro hs hl
      obtain ⟨hk,⟨L,o,hf,hn,ho,hd⟩,hr⟩:=hl
      have hL:L∈X.fs:=hs L (by unfold frs;rw [List.filterMap_cons,hf];exact List.mem_cons_self)
      obtain ⟨sl,e⟩:=I.base.slot L o ho (I.ok.frf L hL) hL fun z=>I.ok.exfs L z hL
      exact ⟨hk,⟨L,_,hf,hn,e,hd⟩,ih (fun b hb=>hs b (by unfold frs;rw [List.filterMap_cons,hf];exact List.mem_cons_of_mem _ hb)) hr⟩
  exact all X.outer (fun _ hb=>hb) I.ok.qO
theorem Inv.stack (I:Inv X pins σ H s):s.heap.FunFrames X.base X.stack:=by
  rcases I.ok.stk with e | ⟨e,hf⟩
  · rw [e];exact I.qO
  · rw [e]
    obtain ⟨m,hn,_⟩:=I.loc
    refine .cons (by rw [I.ok.kind];decide) hf hn ?_ I.qO
    exact Heap.get?_none_of_le (Nat.le_trans I.ok.bsz I.ok.above)
theorem Inv.sE (I:Inv X pins σ H s):∀ b∈frs X.stack,b∈X.env.locals :: X.fs:=fun b hb=>by
  rcases I.ok.stk with e | ⟨e,hf⟩
  · rw [e] at hb;exact List.mem_cons_of_mem _ hb
  · rw [e] at hb
    unfold frs at hb
    rw [List.filterMap_cons,hf] at hb
    exact hb
theorem Inv.pq (I:Inv X pins σ H s):∀ b∈frs X.stack,H b=none:=fun b hb=>by
  rcases List.mem_cons.mp (I.sE b hb) with e | hb
  · rw [e];exact I.free
  · obtain ⟨_,o,ho,_⟩:=I.ok.qO.mem hb
    exact I.base.free b o ho (I.ok.frf b hb) fun z=>I.ok.exfs b z hb
theorem Inv.step {g':Array GenState} {t':Nat} {d':Drawn} {ch:List Addr} (I:Inv X pins σ H s)
    (hch:∀ b∈ch,(b∈X.ex∨X.s₀.heap.objs.size≤b)∧b≠X.env.locals∧(∀ x c,X.env.cells.lookup x=some c→c≠b)∧∀ p∈X.pn++pins,p.1≠b)
    (keep:∀ b o,b≠X.env.locals→b ∉ X.fs→b ∉ ch→s.heap.get? b=some o→H b=none→h'.get? b=some o)
    (slot:∀ b o,b≠X.env.locals→b∈X.fs→b ∉ ch→s.heap.get? b=some o→H b=none→∃ sl,h'.get? b=some { o with slots:=sl }) (free:∀ b o,b ∉ ch→s.heap.get? b=some o→H b=none→H' b=none)
    (there:∀ b o,b ∉ ch→s.heap.get? b=some o→∃ o',h'.get? b=some o')
    (tups:∀ b xs,H b=some (.tup xs)→H' b=some (.tup xs)) (frzs:∀ b o u,H b=some (.frz o u)→H' b=some (.frz o u)) (tbls:∀ b ps,H b=some (.tbl ps)→∃ more,H' b=some (.tbl (ps++more)))
    (ns:∀ m,s.heap.Ns X.env.locals m→h'.Ns X.env.locals m) (hok:HOk X.prog X.w H' h') (hg:AllBare g') :
    Inv X pins σ H' { s with heap:=h',gens:=g',drawn:=d',toks:=t' }:=by
  have neL:∀ b o,X.s₀.heap.get? b=some o→b≠X.env.locals:=fun b o e=>Nat.ne_of_lt (Nat.lt_of_lt_of_le (Heap.lt_size e) I.ok.above)
  have neC:∀ b o,X.s₀.heap.get? b=some o→b ∉ X.ex→b ∉ ch:=fun b o e hx hb=>by
    rcases (hch b hb).1 with z | z
    · exact hx z
    · exact absurd (Nat.lt_of_lt_of_le (Heap.lt_size e) z) (Nat.lt_irrefl _)
  have cellK:∀ x c,X.env.cells.lookup x=some c→∀ v,s.heap.IsCell c v→h'.IsCell c v:=fun x c e v ⟨o,ho,hd⟩=>by
    have nch:c ∉ ch:=fun z=>(hch c z).2.2.1 x c e rfl
    by_cases hc:c∈X.fs
    · obtain ⟨sl,q⟩:=slot c o (I.cne x c e) hc nch ho (I.freeC x c e)
      exact ⟨_,q,hd⟩
    · exact ⟨o,keep c o (I.cne x c e) hc nch ho (I.freeC x c e),hd⟩
  refine ⟨I.ok,I.os,hg,⟨fun b o e n hb hx=>?_,fun b o e n hb hx=>?_,fun b o e n hx=>?_,fun b o e hx=>?_,fun b xs e=>tups b xs (I.base.tups b xs e),fun b o xs e=>frzs b o xs (I.base.frzs b o xs e),fun b ps e=>?_⟩,?_,fun x c e=>?_,?_,fun x c e=>?_,fun p hp=>?_,hok,I.len⟩
  · exact keep b o (neL b o e) hb (neC b o e hx) (I.base.keep b o e n hb hx) (I.base.free b o e n hx)
  · obtain ⟨sl,e1⟩:=I.base.slot b o e n hb hx
    obtain ⟨sl',e2⟩:=slot b _ (neL b o e) hb (neC b o e hx) e1 (I.base.free b o e n hx)
    exact ⟨sl',e2⟩
  · obtain ⟨o',e1⟩:=I.base.there b o e hx
    exact free b o' (neC b o e hx) e1 (I.base.free b o e n hx)
  · obtain ⟨o',e1⟩:=I.base.there b o e hx
    exact there b o' (neC b o e hx) e1
  · obtain ⟨m1,e1⟩:=I.base.tbls b ps e
    obtain ⟨m2,e2⟩:=tbls b _ e1
    exact ⟨m1++m2,by rw [e2,Array.append_assoc]⟩
  · obtain ⟨m,hn,hl⟩:=I.loc
    refine ⟨m,ns m hn,fun i x v e1 e2 e3=>?_⟩
    obtain ⟨u,r,l⟩:=hl i x v e1 e2 e3
    refine ⟨u,r,?_⟩
    rcases l with l | ⟨k,c,e,z⟩
    · exact .inl l
    · exact .inr ⟨k,c,e,cellK x c e _ z⟩
  · obtain ⟨v,z⟩:=I.cell x c e
    exact ⟨v,cellK x c e v z⟩
  · obtain ⟨m,⟨o,_,_,ho,_⟩,_⟩:=I.loc
    exact free _ o (fun z=>(hch _ z).2.1 rfl) ho I.free
  · obtain ⟨v,o,ho,hd⟩:=I.cell x c e
    exact free c o (fun z=>(hch c z).2.2.1 x c e rfl) ho (I.freeC x c e)
  · obtain ⟨e,n,ne,nf,d⟩:=I.pin p hp
    have nch:p.1 ∉ ch:=fun z=>(hch p.1 z).2.2.2 p hp rfl
    exact ⟨keep p.1 p.2 ne nf nch e n,free p.1 p.2 nch e n,ne,nf,d⟩
theorem Inv.un {t':Nat} (I:Inv X pins σ H s) (u:Un X.fs [] H H' s.heap h') (hok:HOk X.prog X.w H' h'):Inv X pins σ H' { s with heap:=h',toks:=t' }:=by
  obtain ⟨m,⟨o,es,ep,ho,r⟩,_⟩:=id I.loc
  obtain ⟨sl,hL⟩:=u.any ho I.free (by simp)
  exact I.step (g':=s.gens) (d':=s.drawn) (ch:=[]) (fun _ z=>nomatch z) (fun b o _ hb _ e n=>u.keep b o e n hb (by simp)) (fun b o _ hb _ e n=>u.slot b o e n hb (by simp)) (fun b o _ e n=>u.free b o e n (by simp)) (fun b o _ e=>u.there b o e (by simp)) u.tups u.frzs u.tbls (fun m' hm=>by
    obtain ⟨o',es',ep',ho',r'⟩:=hm
    rw [ho] at ho';cases ho'
    exact ⟨_,es',ep',hL,r'⟩) hok I.bare
theorem Inv.call {g':Array GenState} {t':Nat} {d':Drawn} {ch:List Addr} (I:Inv X pins σ H s) (u:Un (frs X.stack) ch H H' s.heap h') (hok:HOk X.prog X.w H' h') (hg:AllBare g')
    (hch:∀ b∈ch,(b∈X.ex∨X.s₀.heap.objs.size≤b)∧b≠X.env.locals∧(∀ x c,X.env.cells.lookup x=some c→c≠b)∧∀ p∈X.pn++pins,p.1≠b) :
    Inv X pins σ H' { s with heap:=h',gens:=g',drawn:=d',toks:=t' }:=by
  obtain ⟨m,⟨o,es,ep,ho,r⟩,_⟩:=id I.loc
  obtain ⟨sl,hL⟩:=u.any ho I.free fun z=>(hch _ z).2.1 rfl
  exact I.step (ch:=ch) hch (fun b o hL hb hc e n=>u.keep b o e n (fun z=>(List.mem_cons.mp (I.sE b z)).elim hL hb) hc) (fun b o _ _ hc e n=>u.any e n hc) (fun b o hc e n=>u.free b o e n hc) (fun b o hc e=>u.there b o e hc) u.tups u.frzs u.tbls (fun m' hm=>by
    obtain ⟨o',es',ep',ho',r'⟩:=hm
    rw [ho] at ho';cases ho'
    exact ⟨_,es',ep',hL,r'⟩) hok hg
theorem Inv.turned {t':Nat} {it:Addr} (I:Inv X pins σ H s) (k:∀ b o,b≠it→s.heap.get? b=some o→h'.get? b=some o) (hn:H it=none) (hL:it≠X.env.locals)
    (h1:it∈X.ex∨X.s₀.heap.objs.size≤it) (h2:∀ x c,X.env.cells.lookup x=some c→c≠it) (h3:∀ p∈X.pn++pins,p.1≠it):Inv X pins σ H { s with heap:=h',toks:=t' }:=by
  have nit:∀ b u,H b=some u→b≠it:=fun b u e z=>by rw [z,hn] at e;cases e
  refine I.step (g':=s.gens) (d':=s.drawn) (ch:=[it]) (fun b hb=>?_) (fun b o _ _ hc e _=>k b o (fun z=>hc (by simp [z])) e) (fun b o _ _ hc e _=>⟨o.slots,k b o (fun z=>hc (by simp [z])) e⟩) (fun _ _ _ _ n=>n)
    (fun b o hc e=>⟨o,k b o (fun z=>hc (by simp [z])) e⟩) (fun _ _ e=>e) (fun _ _ _ e=>e) (fun b ps e=>⟨#[],by rw [e];simp⟩) (fun m hm=>?_) (fun b u e=>?_) I.bare
  · have e:b=it:=by simpa using hb
    subst e
    exact ⟨h1,hL,h2,h3⟩
  · obtain ⟨o,es,ep,ho,r⟩:=hm
    exact ⟨o,es,ep,k _ o (Ne.symm hL) ho,r⟩
  · refine (I.hok b u e).stay (fun c v hc q=>k c v ?_ q) (fun _ q=>q) fun _ _ q=>q
    rcases hc with z | z
    · rw [z];exact nit b u e
    · exact nit c _ z
theorem Inv.tok (I:Inv X pins σ H s) (t:Nat):Inv X pins σ H { s with toks:=t }:=I.un (h':=s.heap) (t':=t) Un.refl I.hok
theorem Inv.kept {t':Nat} (I:Inv X pins σ H s) (k:∀ b u,s.heap.get? b=some u→h'.get? b=some u):Inv X pins σ H { s with heap:=h',toks:=t' }:=I.un (Un.kept k) (I.hok.kept k)
theorem Inv.laid {a:Addr} {o:HO} {t':Nat} (I:Inv X pins σ H s) (k:∀ b u,s.heap.get? b=some u→h'.get? b=some u) (hp:s.heap.objs.size≤a) (new:fV X.prog X.w (upd H a o) h' a o) :
    Inv X pins σ (upd H a o) { s with heap:=h',toks:=t' }:=I.un (Un.laid k hp (I.hok.fresh hp)) (I.hok.laid k hp new)
theorem Inv.write {x e:Addr} {o:HO} {t':Nat} (I:Inv X pins σ H s) (mu:Mut (H x)) (he:e=x∨H e=some (.own x)) (k:∀ b u,b≠e→s.heap.get? b=some u→h'.get? b=some u) (heo:∃ u,h'.get? e=some u)
    (new:fV X.prog X.w (upd H x o) h' x o):Inv X pins σ (upd H x o) { s with heap:=h',toks:=t' }:=I.un (Un.write mu he k heo) (I.hok.write mu he k heo new)
theorem Inv.tQ {pins':List (Addr × Obj)} (I:Inv X pins σ H s) (h:∀ p∈pins',s.heap.get? p.1=some p.2∧H p.1=none∧p.1≠X.env.locals∧p.1 ∉ X.fs∧∀ v,p.2.data≠.cell v):Inv X pins' σ H s :=
  ⟨I.ok,I.os,I.bare,I.base,I.loc,I.cell,I.free,I.freeC,fun p hp=>(List.mem_append.mp hp).elim (fun z=>I.pin p (List.mem_append_left _ z)) (h p),I.hok,I.len⟩
theorem qJ {N:List Str} (hN:N.Nodup) {i j:Nat} {x:Str} (a:N[i]?=some x) (b:N[j]?=some x):i=j:=by
  obtain ⟨h1,e1⟩:=List.getElem?_eq_some_iff.mp a
  obtain ⟨h2,e2⟩:=List.getElem?_eq_some_iff.mp b
  exact (List.getElem_inj hN).mp (e1.trans e2.symm)
theorem nJ {M:Model} {A:Around} {E:Value→Shared→Prop} {i:Nat} {x:Str} {v:V} {u:Value} {Q:Unit→Shared→Prop} (I:Inv X pins σ H s) (hN:X.N.Nodup) (hi:X.N[i]?=some x) (hx:Loc X.env.scope x) (r:RelV v u)
    (h:∀ s',Inv X pins (σ.set i (some v)) H s'→(∃ a,Heap.SameBut a s.heap s'.heap∧(a=X.env.locals∨X.env.cells.lookup x=some a))→Q () s') (hf:X.fn x=true∨X.env.scope.names.lookup x=some .local:=by first | exact .inl rfl | exact .inr rfl | assumption):wpAny M A (storeName X.env x u) Q E s:=by
  obtain ⟨m,hn,hl⟩:=id I.loc
  have hcls:(X.env.scope.kind == .class || (X.env.scope.kind == .module && X.env.locals != X.env.globals))=false:=by rw [I.ok.kind];rfl
  have hiσ:i<σ.length:=by rw [I.len];exact (List.getElem?_eq_some_iff.mp hi).1
  have cne:=I.cne
  have tracked:∀ {a:Addr} {h':Heap},(∃ o,s.heap.get? a=some o∧H a=none)→Heap.SameBut a s.heap h'→HOk X.prog X.w H h':=fun {a h'} ha hs b ob e=>by
    obtain ⟨_,_,hfree⟩:=ha
    refine (I.hok b ob e).stay (fun c w' hc q=>(hs.2 c ?_).trans q) (fun _ q=>q) fun _ _ q=>q
    rintro rfl
    rcases hc with rfl | hc
    · rw [hfree] at e;cases e
    · rw [hfree] at hc;cases hc
  rcases hx with hk | hk
  · refine wpAny_storeName_local hk hn (fun h' hn' hs=>?_) hcls
    obtain ⟨oL,_,_,hoL,_⟩:=id hn
    refine h _ ⟨I.ok,I.os,I.bare,⟨fun b o e n hb hx=>?_,fun b o e n hb hx=>?_,I.base.free,fun b o e hx=>?_,I.base.tups,I.base.frzs,I.base.tbls⟩,⟨_,hn',fun j y v' e1 e2 e3=>?_⟩,fun y c e=>?_,I.free,I.freeC,fun p hp=>?_,tracked ⟨oL,hoL,I.free⟩ hs,by simpa using I.len⟩ ⟨_,hs,.inl rfl⟩
    · exact (hs.2 b (Nat.ne_of_lt (Nat.lt_of_lt_of_le (Heap.lt_size e) I.ok.above))).trans (I.base.keep b o e n hb hx)
    · obtain ⟨sl,e1⟩:=I.base.slot b o e n hb hx
      exact ⟨sl,(hs.2 b (Nat.ne_of_lt (Nat.lt_of_lt_of_le (Heap.lt_size e) I.ok.above))).trans e1⟩
    · obtain ⟨o',e1⟩:=I.base.there b o e hx
      exact ⟨o',(hs.2 b (Nat.ne_of_lt (Nat.lt_of_lt_of_le (Heap.lt_size e) I.ok.above))).trans e1⟩
    · by_cases hj:j=i
      · subst hj
        rw [hi] at e1;cases e1
        rw [List.getElem?_set_self hiσ] at e2
        cases e2
        exact ⟨u,r,.inl ⟨hk,by simp⟩⟩
      · rw [List.getElem?_set_ne (Ne.symm hj)] at e2
        obtain ⟨u',r',q⟩:=hl j y v' e1 e2 e3
        refine ⟨u',r',?_⟩
        rcases q with ⟨k,e⟩ | ⟨k,c,e,z⟩
        · refine .inl ⟨k,?_⟩
          have:y≠x:=fun e=>hj (qJ hN e1 (e ▸ hi))
          simp [this,e]
        · exact .inr ⟨k,c,e,z.sameBut hs (cne y c e)⟩
    · obtain ⟨w',z⟩:=I.cell y c e
      exact ⟨w',z.sameBut hs (cne y c e)⟩
    · obtain ⟨e,n,ne,nf,d⟩:=I.pin p hp
      exact ⟨(hs.2 p.1 ne).trans e,n,ne,nf,d⟩
  · have hfn:X.fn x=true:=by
      rcases hf with z | z
      · exact z
      · rw [z] at hk;cases hk
    obtain ⟨c,hc⟩:=I.ok.has x (.inl hk)
    obtain ⟨w',z⟩:=I.cell x c hc
    refine wpAny_storeName_cell I.ok.kind hk hc z (fun h' hc' hs=>?_)
    obtain ⟨oc,hoc,hocd⟩:=id z
    refine h { s with heap:=h' } ⟨I.ok,I.os,I.bare,⟨fun b o e n hb hx=>?_,fun b o e n hb hx=>?_,I.base.free,fun b o e hx=>?_,I.base.tups,I.base.frzs,I.base.tbls⟩,⟨m,hn.sameBut hs (Ne.symm (cne x c hc)),fun j y v' e1 e2 e3=>?_⟩,fun y c' e=>?_,I.free,I.freeC,fun p hp=>?_,tracked ⟨oc,hoc,I.freeC x c hc⟩ hs,by simpa using I.len⟩ ⟨c,hs,.inr hc⟩
    · exact (hs.2 b (Nat.ne_of_lt (Nat.lt_of_lt_of_le (Heap.lt_size e) (I.ok.cab x c hfn hc)))).trans (I.base.keep b o e n hb hx)
    · obtain ⟨sl,e1⟩:=I.base.slot b o e n hb hx
      exact ⟨sl,(hs.2 b (Nat.ne_of_lt (Nat.lt_of_lt_of_le (Heap.lt_size e) (I.ok.cab x c hfn hc)))).trans e1⟩
    · obtain ⟨o',e1⟩:=I.base.there b o e hx
      exact ⟨o',(hs.2 b (Nat.ne_of_lt (Nat.lt_of_lt_of_le (Heap.lt_size e) (I.ok.cab x c hfn hc)))).trans e1⟩
    · by_cases hj:j=i
      · subst hj
        rw [hi] at e1;cases e1
        rw [List.getElem?_set_self hiσ] at e2
        cases e2
        exact ⟨u,r,.inr ⟨.inl hk,c,hc,hc'⟩⟩
      · rw [List.getElem?_set_ne (Ne.symm hj)] at e2
        obtain ⟨u',r',q⟩:=hl j y v' e1 e2 e3
        refine ⟨u',r',?_⟩
        rcases q with q | ⟨k,c',e,z'⟩
        · exact .inl q
        · refine .inr ⟨k,c',e,z'.sameBut hs ?_⟩
          rintro rfl
          exact hj (qJ hN e1 (I.ok.inj _ _ _ e hc ▸ hi))
    · by_cases hcc:c'=c
      · subst hcc;exact ⟨_,hc'⟩
      · obtain ⟨w2,z2⟩:=I.cell y c' e
        exact ⟨w2,z2.sameBut hs hcc⟩
    · obtain ⟨e,n,ne,nf,d⟩:=I.pin p hp
      refine ⟨(hs.2 p.1 ?_).trans e,n,ne,nf,d⟩
      intro q
      rw [q,hoc] at e
      have q':oc=p.2:=Option.some.inj e
      exact d w' (by rw [← q'];exact hocd)
theorem mJ {M:Model} {A:Around} {E:Value→Shared→Prop} {i:Nat} {x:Str} {v:V} {u:Value} {Q:Unit→Shared→Prop} (I:Inv X pins σ H s) (hN:X.N.Nodup) (hi:X.N[i]?=some x) (hx:Loc X.env.scope x) (r:RelV v u)
    (h:∀ s',Inv X pins (σ.set i (some v)) H s'→Q () s') (hf:X.fn x=true∨X.env.scope.names.lookup x=some .local:=by first | exact .inl rfl | exact .inr rfl | assumption):wpAny M A (storeName X.env x u) Q E s :=
  nJ I hN hi hx r (fun s' I' _=>h s' I') hf
theorem Inv.call' {s':Shared} {ch:List Addr} (I:Inv X pins σ H s) (ho:s'.os=s.os) (u:Un (frs X.stack) ch H H' s.heap s'.heap) (hok:HOk X.prog X.w H' s'.heap) (hg:AllBare s'.gens)
    (hch:∀ b∈ch,(b∈X.ex∨X.s₀.heap.objs.size≤b)∧b≠X.env.locals∧(∀ x c,X.env.cells.lookup x=some c→c≠b)∧∀ p∈X.pn++pins,p.1≠b):Inv X pins σ H' s':=by
  obtain ⟨h',g',d',t',o'⟩:=s'
  have e:o'=s.os:=ho
  subst e
  exact I.call (g':=g') (t':=t') (d':=d') u hok hg hch
end
abbrev XK:=Value→Option Addr→Hp→Prop
abbrev St:=List (Option V)
abbrev VK:=V→Hp→Prop
abbrev TE:=St→Hp→VK→Prop
abbrev TT:=St→Hp→(Bool→Hp→Prop)→Prop
abbrev TA:=St→Hp→(List V→Hp→Prop)→Prop
structure Ends where
  nx:St→Hp→Prop
  rt:VK
  bk:St→Hp→Prop:=fun _ _=>False
  ct:St→Hp→Prop:=fun _ _=>False
abbrev TS:=Ends→St→Hp→Prop
def EP (X:Cx) (pins:List (Addr × Obj)) (σ:St) (Q:VK) (u:Value) (s':Shared):Prop:=∃ v H',Inv X pins σ H' s'∧RelV v u∧Q v H'
def TP (X:Cx) (pins:List (Addr × Obj)) (σ:St) (Q:Bool→Hp→Prop) (b:Bool) (s':Shared):Prop:=∃ H',Inv X pins σ H' s'∧Q b H'
def AP (X:Cx) (pins:List (Addr × Obj)) (σ:St) (Q:List V→Hp→Prop) (us:List Value) (s':Shared):Prop:=∃ vs H',Inv X pins σ H' s'∧Vals vs us∧Q vs H'
def SP (X:Cx) (pins:List (Addr × Obj)) (D:Ends) (f:Flow) (s':Shared):Prop :=
  match f with
  | .next=>∃ σ' H',Inv X pins σ' H' s'∧D.nx σ' H'
  | .brk=>∃ σ' H',Inv X pins σ' H' s'∧D.bk σ' H'
  | .cont=>∃ σ' H',Inv X pins σ' H' s'∧D.ct σ' H'
  | .ret u=>∃ v σ' H',Inv X pins σ' H' s'∧RelV v u∧D.rt v H'
def PE (X:Cx) (e:Expr) (t:TE):Prop :=
  ∀ (pins:List (Addr × Obj)) (s:Shared) (σ:St) (H:Hp) (Q:VK),Inv X pins σ H s→t σ H Q→wpAny (model X.prog X.w) X.A (eval e X.env) (EP X pins σ Q) X.xe s
def PT (X:Cx) (e:Expr) (t:TT):Prop :=
  ∀ (pins:List (Addr × Obj)) (s:Shared) (σ:St) (H:Hp) (Q:Bool→Hp→Prop),Inv X pins σ H s→t σ H Q→wpAny (model X.prog X.w) X.A (isTrue e X.env (eval e X.env)) (TP X pins σ Q) X.xe s
def PW (X:Cx) (e:Expr) (t:TT):Prop :=
  ∀ (whole:Sem Value) (pins:List (Addr × Obj)) (s:Shared) (σ:St) (H:Hp) (Q:Bool→Hp→Prop),Inv X pins σ H s→t σ H Q→wpAny (model X.prog X.w) X.A (isTrue e X.env whole) (TP X pins σ Q) X.xe s
theorem PW.pt {X:Cx} {e:Expr} {t:TT} (h:PW X e t):PT X e t:=h _
def PA (X:Cx) (es:List Expr) (t:TA):Prop :=
  ∀ (pos:Pos) (pins:List (Addr × Obj)) (s:Shared) (σ:St) (H:Hp) (Q:List V→Hp→Prop),Inv X pins σ H s→t σ H Q→wpAny (model X.prog X.w) X.A (spliced (backTo pos (starEach es X.env))) (AP X pins σ Q) X.xe s
def PS (X:Cx) (st:Stmt) (t:TS):Prop :=
  ∀ (pins:List (Addr × Obj)) (s:Shared) (σ:St) (H:Hp) (D:Ends),Inv X pins σ H s→t D σ H→wpAny (model X.prog X.w) X.A (exec st X.env) (SP X pins D) X.xe s
def PSs (X:Cx) (st:List Stmt) (t:TS):Prop :=
  ∀ (pins:List (Addr × Obj)) (s:Shared) (σ:St) (H:Hp) (D:Ends),Inv X pins σ H s→t D σ H→wpAny (model X.prog X.w) X.A (execs st X.env) (SP X pins D) X.xe s
theorem thn {α:Type} {t:Sem α} {Q Q':α→Shared→Prop} {M:Model} {A:Around} {E:Value→Shared→Prop} {s:Shared} (h:wpAny M A t Q E s) (hQ:∀ a s,Q a s→Q' a s):wpAny M A t Q' E s:=wpAny_mono h hQ fun _ _ x=>x
end L2
namespace L2
open PySem PySem.Spec PyProof.Rows
section
variable {X:Cx}
def MJ (i:Nat):TE:=fun σ H Q=>∃ v,σ[i]?=some (some v)∧Q v H
def tC (v:V):TE:=fun _ H Q=>Q v H
theorem GP {i:Nat} {x:Str} {pos:Pos} (hN:X.N[i]?=some x) (hv:Vis X.env.scope x) (hd:(x == ("__debug__":Str))=false:=by decide) (hcd:(x == ("__classdict__":Str))=false:=by decide):PE X (.Name x pos) (MJ i):=by
  intro pins s σ H Q I h
  obtain ⟨v,e,h⟩:=h
  obtain ⟨m,hn,hl⟩:=I.loc
  obtain ⟨u,r,l⟩:=hl i x v hN e hv
  have fin:EP X pins σ Q u s:=⟨v,H,I,r,h⟩
  rcases l with ⟨hk,hm⟩ | ⟨hk,c,hc,hcell⟩
  · exact wpAny_Name (wpAny_loadName_local I.ok.kind hk hn hm fin) hd
  · rcases hk with hk | hk
    · exact wpAny_Name (wpAny_loadName_cell I.ok.kind hk hc hcell fin) hd
    · exact wpAny_Name (wpAny_loadName_free I.ok.kind hk hc hcell fin hcd) hd
theorem aB {i j pos}:PE X (.Constant (.int i) j pos) (tC (.int i)):=fun _ _ _ H _ I h=>wpAny_Constant_int ⟨.int i,H,I.tok _,⟨_,rfl⟩,h⟩
theorem ji {b j pos}:PE X (.Constant (.bool b) j pos) (tC (.bl b)):=fun _ _ _ H _ I h=>Constant_bool ⟨.bl b,H,I,rfl,h⟩
theorem oE {j pos}:PE X (.Constant .none j pos) (tC .non):=fun _ _ _ H _ I h=>Constant_none ⟨.non,H,I,rfl,h⟩
theorem gD {x j pos}:PE X (.Constant (.str x) j pos) (tC (.str x)):=fun _ _ _ H _ I h=>Calls.Constant_str ⟨.str x,H,I.tok _,⟨_,rfl⟩,h⟩
def Gl (X:Cx) (x:Str):Prop:=X.env.kindOf x=some .globalImplicit
theorem lu {E:Value→Shared→Prop} {pins:List (Addr × Obj)} {s:Shared} {σ:St} {H:Hp} {x:Str} {u:Value} {pos:Pos} {Q:Value→Shared→Prop} (I:Inv X pins σ H s) (hg:Gl X x) (hm:X.mg x=some u) (h:Q u s)
    (hd:(x == ("__debug__":Str))=false:=by decide):wpAny (model X.prog X.w) X.A (eval (.Name x pos) X.env) Q E s :=
  Calls.Name_function_global I.ok.kind hg (Calls.loadGlobal_global (by rw [I.ok.glob];exact I.mod.glob.keeps I.bk) hm h) hd
theorem oK {E:Value→Shared→Prop} {pins:List (Addr × Obj)} {s:Shared} {σ:St} {H:Hp} {x:Str} {u:Value} {pos:Pos} {Q:Value→Shared→Prop} (I:Inv X pins σ H s) (hg:Gl X x) (hm:X.mg x=none) (hv:bootBuiltins x=some u) (h:Q u s)
    (hn:x≠"__name__":=by decide) (hd:(x == ("__debug__":Str))=false:=by decide):wpAny (model X.prog X.w) X.A (eval (.Name x pos) X.env) Q E s:=by
  obtain ⟨mb,h1,h2⟩:=I.mod.blt
  exact Calls.Name_function_global I.ok.kind hg (Calls.loadGlobal_builtin (by rw [I.ok.glob];exact I.mod.glob.keeps I.bk) hm (by rw [I.ok.blt];exact h1.keeps I.bk) ((h2 x hn).trans hv) h) hd
theorem fQ {x:Str} {v:V} {u:Value} {pos:Pos} (hg:Gl X x) (hm:X.mg x=some u) (r:RelV v u) (hd:(x == ("__debug__":Str))=false:=by decide):PE X (.Name x pos) (tC v) :=
  fun _ _ _ H _ I h=>lu I hg hm ⟨v,H,I,r,h⟩ hd
theorem jh {x:Str} {v:V} {u:Value} {pos:Pos} (hg:Gl X x) (hm:X.mg x=none) (hv:bootBuiltins x=some u) (r:RelV v u) (hn:x≠"__name__":=by decide) (hd:(x == ("__debug__":Str))=false:=by decide):PE X (.Name x pos) (tC v) :=
  fun _ _ _ H _ I h=>oK I hg hm hv ⟨v,H,I,r,h⟩ hn hd
def t2I (ta tb:TE) (k:Int→Int→Hp→Prop):St→Hp→Prop:=fun σ H=>ta σ H fun x H1=>tb σ H1 fun y H2=>∃ i j,x=.int i∧y=.int j∧k i j H2
variable {a b:Expr} {ta tb:TE} {pos:Pos}
def Gj (p:Int→Int→Bool) (ta tb:TE):TE:=fun σ H Q=>t2I ta tb (fun i j H2=>Q (.bl (p i j)) H2) σ H
abbrev tLt:TE→TE→TE:=Gj fun i j=>decide (i<j)
abbrev tLe:TE→TE→TE:=Gj fun i j=>decide (i≤j)
abbrev tGt:TE→TE→TE:=Gj fun i j=>decide (j<i)
abbrev tGe:TE→TE→TE:=Gj fun i j=>decide (j≤i)
abbrev tEqI:TE→TE→TE:=Gj fun i j=>decide (i=j)
abbrev tNeI:TE→TE→TE:=Gj fun i j=>!decide (i=j)
def tB (t:TE):TT:=fun σ H Q=>t σ H fun x H1=>∃ c,x=.bl c∧Q c H1
theorem fL {e:Expr} {t:TE} (h:PE X e t) (he:∀ whole,isTrue e X.env whole=(do let v ← whole;standAt e.pos;holding [v] (truthy v)):=by intro _;rfl):PT X e (tB t):=by
  intro pins s σ H Q I hw
  refine isTrue_plain (thn (h pins s σ H _ I hw) fun v s1 ⟨x,H1,I1,r1,q1⟩=>?_) (he _)
  obtain ⟨d,rfl,q⟩:=q1
  cases r1
  exact wpAny_truthy_bool ⟨H1,I1,q⟩
variable {tA tB':TT} {rest:List Expr}
def tAnd (t u:TT):TT:=fun σ H Q=>t σ H fun c H1=>if c=true then u σ H1 Q else Q false H1
def tOr (t u:TT):TT:=fun σ H Q=>t σ H fun c H1=>if c=true then Q true H1 else u σ H1 Q
def tNot (t:TT):TT:=fun σ H Q=>t σ H fun c H1=>Q (!c) H1
theorem pw_and1 (ha:PT X a tA):PW X (.BoolOp .And [a] pos) tA:=by
  intro wh pins s σ H Q I h
  refine isTrue_and (thn (ha pins s σ H Q I h) fun c s1 e=>?_)
  cases c with
  | true=>exact isTrue_and_nil e
  | false=>exact e
theorem pw_or1 (ha:PT X a tA):PW X (.BoolOp .Or [a] pos) tA:=by
  intro wh pins s σ H Q I h
  refine isTrue_or (thn (ha pins s σ H Q I h) fun c s1 e=>?_)
  cases c with
  | false=>exact isTrue_or_nil e
  | true=>exact e
theorem pw_and (ha:PT X a tA) (hb:PW X (.BoolOp .And (b :: rest) pos) tB'):PW X (.BoolOp .And (a :: b :: rest) pos) (tAnd tA tB'):=by
  intro wh pins s σ H Q I h
  refine isTrue_and (thn (ha pins s σ H _ I h) fun c s1 ⟨H1,I1,q1⟩=>?_)
  cases c with
  | true=>exact hb wh pins s1 σ H1 Q I1 q1
  | false=>exact ⟨H1,I1,q1⟩
theorem pw_or (ha:PT X a tA) (hb:PW X (.BoolOp .Or (b :: rest) pos) tB'):PW X (.BoolOp .Or (a :: b :: rest) pos) (tOr tA tB'):=by
  intro wh pins s σ H Q I h
  refine isTrue_or (thn (ha pins s σ H _ I h) fun c s1 ⟨H1,I1,q1⟩=>?_)
  cases c with
  | true=>exact ⟨H1,I1,q1⟩
  | false=>exact hb wh pins s1 σ H1 Q I1 q1
theorem eH (ha:PT X a tA):PT X (.UnaryOp .Not a pos) (tNot tA):=by
  intro pins s σ H Q I h
  exact isTrue_not (ha pins s σ H (fun c H1=>Q (!c) H1) I h)
def Np (ta tb:TE):TE:=fun σ H Q=>ta σ H fun x H1=>∃ c,x=.bl c∧if c=true then tb σ H1 Q else Q (.bl false) H1
def tOrV (ta tb:TE):TE:=fun σ H Q=>ta σ H fun x H1=>∃ c,x=.bl c∧if c=true then Q (.bl true) H1 else tb σ H1 Q
def Nf (ta:TE):TE:=fun σ H Q=>ta σ H fun x H1=>∃ c,x=.bl c∧Q (.bl (!c)) H1
theorem lY {op} {t:TE} (h:PE X a t):PE X (.BoolOp op [a] pos) t:=fun pins s σ H Q I hw=>BoolOp_one (h pins s σ H Q I hw)
theorem lZ (ha:PE X a ta) (hb:PE X (.BoolOp .And (b :: rest) pos) tb):PE X (.BoolOp .And (a :: b :: rest) pos) (Np ta tb):=by
  intro pins s σ H Q I h
  refine BoolOp_and (thn (ha pins s σ H _ I h) fun v s1 ⟨x,H1,I1,r1,q1⟩=>?_)
  obtain ⟨c,rfl,q1⟩:=q1
  cases r1
  refine wpAny_truthy_bool ?_
  cases c with
  | true=>exact hb pins s1 σ H1 Q I1 q1
  | false=>exact ⟨.bl false,H1,I1,rfl,q1⟩
theorem Nq (ha:PE X a ta) (hb:PE X (.BoolOp .Or (b :: rest) pos) tb):PE X (.BoolOp .Or (a :: b :: rest) pos) (tOrV ta tb):=by
  intro pins s σ H Q I h
  refine BoolOp_or (thn (ha pins s σ H _ I h) fun v s1 ⟨x,H1,I1,r1,q1⟩=>?_)
  obtain ⟨c,rfl,q1⟩:=q1
  cases r1
  refine wpAny_truthy_bool ?_
  cases c with
  | false=>exact hb pins s1 σ H1 Q I1 q1
  | true=>exact ⟨.bl true,H1,I1,rfl,q1⟩
theorem xG (ha:PE X a ta):PE X (.UnaryOp .Not a pos) (Nf ta):=by
  intro pins s σ H Q I h
  refine UnaryOp_ (thn (ha pins s σ H _ I h) fun v s1 ⟨x,H1,I1,r1,q1⟩=>?_)
  obtain ⟨c,rfl,q1⟩:=q1
  cases r1
  exact not_of (wpAny_truthy_bool ⟨.bl (!c),H1,I1,rfl,q1⟩)
def tIf (t:TT) (ta tb:TE):TE:=fun σ H Q=>t σ H fun c H1=>if c=true then ta σ H1 Q else tb σ H1 Q
theorem vH {c:Expr} (hc:PT X c tA) (ha:PE X a ta) (hb:PE X b tb):PE X (.IfExp c a b pos) (tIf tA ta tb):=by
  intro pins s σ H Q I h
  refine wpAny_IfExp (thn (hc pins s σ H _ I h) fun d s1 ⟨H1,I1,q1⟩=>?_)
  cases d with
  | true=>exact ha pins s1 σ H1 Q I1 q1
  | false=>exact hb pins s1 σ H1 Q I1 q1
end
end L2
namespace L2
open PySem PySem.Spec PyProof.Rows
def SqL (K:PySem.W.Frag) (H:Hp) (a:Addr) (xs:List V):Prop :=
  Rd H a (.lst xs) ∨
    ∃ (o:Obj) (its:Array Value) (n:Nat),K.lookup a=some o∧o.cls=.type "list"∧o.dict=none∧o.data=.seq its n∧its.size≤sizeLine∧Vals xs its.toList
def SqT (K:PySem.W.Frag) (H:Hp) (a:Addr) (xs:List V):Prop :=
  Rd H a (.tup xs) ∨
    ∃ (o:Obj) (its:Array Value) (n:Nat),K.lookup a=some o∧o.cls=.type "tuple"∧o.data=.seq its n∧its.size≤sizeLine∧Vals xs its.toList
def absV:Value→Option V
  | .none=>some .non
  | .bool b=>some (.bl b)
  | .int i _=>some (.int i)
  | .str x _=>some (.str x)
  | .bytes b _=>some (.byt b)
  | .float b _=>some (.flt b)
  | .ref a=>some (.ref a)
  | .type n=>some (.ty n)
  | _=>none
theorem RelV.abs {x:V} {u:Value} (r:RelV x u):absV u=some x:=by
  cases x with
  | non=>cases r;rfl
  | bl _=>cases r;rfl
  | int _=>obtain ⟨t,rfl⟩:=r;rfl
  | str _=>obtain ⟨t,rfl⟩:=r;rfl
  | byt _=>obtain ⟨t,rfl⟩:=r;rfl
  | flt _=>obtain ⟨t,rfl⟩:=r;rfl
  | ref _=>cases r;rfl
  | ty _=>cases r;rfl
theorem RelV.inj {x y:V} {u:Value} (r:RelV x u) (q:RelV y u):x=y:=Option.some.inj (r.abs.symm.trans q.abs)
theorem Vals.inj:∀ {xs ys:List V} {us:List Value},Vals xs us→Vals ys us→xs=ys
  | _,_,_,.nil,.nil=>rfl
  | _,_,_,.cons r t,.cons r' t'=>by rw [r.inj r',Vals.inj t t']
section
variable {X:Cx} {pins:List (Addr × Obj)} {σ:St} {H:Hp} {s:Shared} {a:Addr} {xs ys:List V}
theorem SqL.of {K:PySem.W.Frag} (h:H a=some (.lst xs)):SqL K H a xs:=.inl (.inl h)
theorem SqT.of {K:PySem.W.Frag} (h:H a=some (.tup xs)):SqT K H a xs:=.inl (.inl h)
theorem Inv.list (I:Inv X pins σ H s) (h:SqL X.K H a xs):∃ its:List Value,Vals xs its∧PlainL s.heap a its.toArray∧xs.length≤sizeLine:=by
  rcases h with h | ⟨o,its,n,hk,hc,hd,hs,hz,r⟩
  · obtain ⟨z,its,n,r,e⟩:=h.ok I.hok
    exact ⟨its,r,⟨_,n,e,rfl,rfl,rfl⟩,z⟩
  · refine ⟨its.toList,r,⟨o,n,I.kIn a o hk,hc,hd,by simpa using hs⟩,?_⟩
    have e:=r.length
    simp only [Array.length_toList] at e
    omega
theorem Inv.tuple (I:Inv X pins σ H s) (h:SqT X.K H a xs):∃ its:List Value,Vals xs its∧IsTup s.heap a its.toArray∧xs.length≤sizeLine:=by
  rcases h with h | ⟨o,its,n,hk,hc,hs,hz,r⟩
  · obtain ⟨z,its,r,p⟩:=h.ok I.hok
    exact ⟨its,r,p,z⟩
  · refine ⟨its.toList,r,⟨o,I.kIn a o hk,hc,n,by simpa using hs⟩,?_⟩
    have e:=r.length
    simp only [Array.length_toList] at e
    omega
theorem Inv.wz (I:Inv X pins σ H s) (h:SqL X.K H a xs) (h':SqL X.K H a ys):xs=ys:=by
  obtain ⟨its,r,⟨o,n,e,_,_,d⟩,_⟩:=I.list h
  obtain ⟨its',r',⟨o',n',e',_,_,d'⟩,_⟩:=I.list h'
  rw [e] at e';cases e'
  rw [d] at d'
  injection d' with d1 _
  have:its=its':=by simpa using congrArg Array.toList d1
  subst this
  exact r.inj r'
theorem Inv.su (I:Inv X pins σ H s) (h:SqT X.K H a xs) (h':SqT X.K H a ys):xs=ys:=by
  obtain ⟨its,r,⟨o,e,_,n,d⟩,_⟩:=I.tuple h
  obtain ⟨its',r',⟨o',e',_,n',d'⟩,_⟩:=I.tuple h'
  rw [e] at e';cases e'
  rw [d] at d'
  injection d' with d1 _
  have:its=its':=by simpa using congrArg Array.toList d1
  subst this
  exact r.inj r'
end
abbrev Cx.wish (X:Cx) (E:Value→Shared→Prop):Cx:={ X with xe:=E }
abbrev Cx.nox (X:Cx):Cx:=X.wish fun _ _=>False
theorem Cx.Ok.wish {X:Cx} (ok:X.Ok) (E:Value→Shared→Prop):(X.wish E).Ok :=
  ⟨ok.mod,ok.kind,ok.glob,ok.blt,ok.above,ok.inj,ok.has,ok.cab,ok.hd,ok.frames,ok.stk,ok.exf,ok.bs,ok.bsz,ok.noex,ok.exfs,ok.qO,ok.frf⟩
theorem Cx.Ok.iz {X:Cx} {E:Value→Shared→Prop} (ok:(X.wish E).Ok):X.Ok :=
  ⟨ok.mod,ok.kind,ok.glob,ok.blt,ok.above,ok.inj,ok.has,ok.cab,ok.hd,ok.frames,ok.stk,ok.exf,ok.bs,ok.bsz,ok.noex,ok.exfs,ok.qO,ok.frf⟩
section
variable {X:Cx} {pins:List (Addr × Obj)} {σ:St} {H:Hp} {s:Shared} {E:Value→Shared→Prop}
theorem Inv.wish (I:Inv X pins σ H s) (E:Value→Shared→Prop):Inv (X.wish E) pins σ H s:=⟨I.ok.wish E,I.os,I.bare,I.base,I.loc,I.cell,I.free,I.freeC,I.pin,I.hok,I.len⟩
theorem Inv.iz (I:Inv (X.wish E) pins σ H s):Inv X pins σ H s:=⟨I.ok.iz,I.os,I.bare,I.base,I.loc,I.cell,I.free,I.freeC,I.pin,I.hok,I.len⟩
theorem SP.iz {D:Ends} {f:Flow} {s':Shared} (h:SP (X.wish E) pins D f s'):SP X pins D f s':=by
  cases f with
  | next=>obtain ⟨σ',H',I,q⟩:=h;exact ⟨σ',H',I.iz,q⟩
  | brk=>obtain ⟨σ',H',I,q⟩:=h;exact ⟨σ',H',I.iz,q⟩
  | cont=>obtain ⟨σ',H',I,q⟩:=h;exact ⟨σ',H',I.iz,q⟩
  | ret u=>obtain ⟨v,σ',H',I,r,q⟩:=h;exact ⟨v,σ',H',I.iz,r,q⟩
theorem PSs.nox {st:List Stmt} {t:TS} (h:PSs X.nox st t):PSs X st t:=fun pins s σ H D I hw =>
  wpAny_mono (h pins s σ H D (I.wish _) hw) (fun _ _ q=>q.iz) fun _ _ z=>False.elim z
end
section
variable {X:Cx} {st:Stmt} {rest:List Stmt} {t u:TS} {e:Expr} {te:TE} {pos:Pos}
def Ng:TS:=fun D σ H=>D.nx σ H
def tSeq (t u:TS):TS:=fun D σ H=>t { D with nx:=u D } σ H
theorem bJ:PSs X [] Ng:=fun _ _ σ H _ I h=>wpAny_execs_nil ⟨σ,H,I,h⟩
theorem au (h1:PS X st t) (h2:PSs X rest u):PSs X (st :: rest) (tSeq t u):=by
  intro pins s σ H D I h
  refine wpAny_execs_cons (thn (h1 pins s σ H { D with nx:=u D } I h) fun f s1 q=>?_)
  cases f with
  | next =>
    obtain ⟨σ',H',I',q⟩:=q
    exact h2 pins s1 σ' H' D I' q
  | ret v=>exact q
  | brk=>exact q
  | cont=>exact q
theorem aD (h1:PS X st t):PSs X [st] t:=by
  intro pins s σ H D I h
  refine wpAny_execs_cons (thn (h1 pins s σ H D I h) fun f s1 q=>?_)
  cases f with
  | next=>exact wpAny_execs_nil q
  | ret v=>exact q
  | brk=>exact q
  | cont=>exact q
theorem Inv.quiet {pins:List (Addr × Obj)} {σ:St} {H:Hp} {s:Shared} (I:Inv X pins σ H s):interactive X.env=false:=by simp [interactive,I.ok.kind]
def Ni (te:TE):TS:=fun D σ H=>te σ H fun _ H1=>D.nx σ H1
theorem bL (he:PE X e te) (hs:swapsWith e none pos.line X.env=pure false:=by rfl):PS X (.Expr e pos) (Ni te):=by
  intro pins s σ H D I h
  exact wpAny_Expr_any (thn (he pins s σ H _ I h) fun v s1 ⟨x,H1,I1,r1,q1⟩=>⟨σ,H1,I1,q1⟩) I.quiet hs
def tRet (te:TE):TS:=fun D σ H=>te σ H D.rt
theorem aW (he:PE X e te):PS X (.Return (some e) pos) (tRet te):=by
  intro pins s σ H D I h
  exact wpAny_Return_some (thn (he pins s σ H _ I h) fun v s1 ⟨x,H1,I1,r1,q1⟩=>⟨x,σ,H1,I1,r1,q1⟩)
def tIfS (c:TT) (t u:TS):TS:=fun D σ H=>c σ H fun b H1=>if b=true then t D σ H1 else u D σ H1
theorem fD {c:Expr} {a b:List Stmt} {tc:TT} (hc:PT X c tc) (ha:PSs X a t) (hb:PSs X b u):PS X (.If c a b pos) (tIfS tc t u):=by
  intro pins s σ H D I h
  refine wpAny_If (thn (hc pins s σ H _ I h) fun d s1 ⟨H1,I1,q1⟩=>?_)
  cases d with
  | true=>exact ha pins s1 σ H1 D I1 q1
  | false=>exact hb pins s1 σ H1 D I1 q1
def Gw:TS:=fun _ _ _=>False
theorem jy:PS X st Gw:=fun _ _ _ _ _ _ h=>h.elim
end
abbrev TG:=V→St→Hp→(St→Hp→Prop)→Prop
abbrev TGs:=List V→St→Hp→(St→Hp→Prop)→Prop
def PG (X:Cx) (target:Expr) (t:TG):Prop :=
  ∀ (pins:List (Addr × Obj)) (s:Shared) (σ:St) (H:Hp) (v:V) (u:Value) (Q:St→Hp→Prop),Inv X pins σ H s→RelV v u→t v σ H Q →
    wpAny (model X.prog X.w) X.A (assign target X.env u) (fun _ s'=>∃ σ' H',Inv X pins σ' H' s'∧Q σ' H') X.xe s
def PGs (X:Cx) (ts:List Expr) (t:TGs):Prop :=
  ∀ (pins:List (Addr × Obj)) (s:Shared) (σ:St) (H:Hp) (vs:List V) (us:List Value) (Q:St→Hp→Prop),Inv X pins σ H s→Vals vs us→t vs σ H Q →
    wpAny (model X.prog X.w) X.A (assignInOrder ((assignEach ts X.env).map (·.2)) us) (fun _ s'=>∃ σ' H',Inv X pins σ' H' s'∧Q σ' H') X.xe s
abbrev Qd:=V→V→V→Hp→(Hp→Prop)→Prop
def Qz (X:Cx) (t:Qd):Prop :=
  ∀ (pins:List (Addr × Obj)) (s:Shared) (σ:St) (H:Hp) (o i v:V) (ov iv u:Value) (Q:Hp→Prop),Inv X pins σ H s→RelV o ov→RelV i iv→RelV v u→t o i v H Q →
    wpAny (model X.prog X.w) X.A (setItem ov iv u) (fun _ s'=>∃ H',Inv X pins σ H' s'∧Q H') X.xe s
abbrev TIp:=V→V→Hp→VK→Prop
section
variable {X:Cx} {pos:Pos}
def wJ (i:Nat):TG:=fun v σ H Q=>Q (σ.set i (some v)) H
theorem cu {i:Nat} {x:Str} (hN:X.N.Nodup) (hi:X.N[i]?=some x) (hx:Loc X.env.scope x) (hf:X.fn x=true∨X.env.scope.names.lookup x=some .local:=by first | exact .inl rfl | exact .inr rfl | assumption):PG X (.Name x pos) (wJ i):=by
  intro pins s σ H v u Q I r h
  exact wpAny_assign_Name (mJ I hN hi hx r (fun s' I'=>⟨_,H,I',h⟩) hf)
def gNil:TGs:=fun vs σ H Q=>vs=[]∧Q σ H
def PX (t:TG) (u:TGs):TGs:=fun vs σ H Q=>∃ v r,vs=v :: r∧t v σ H fun σ' H'=>u r σ' H' Q
theorem pL:PGs X [] gNil:=by
  intro pins s σ H vs us Q I r h
  obtain ⟨e,h⟩:=h
  subst e
  cases r
  exact assignInOrder_nil ⟨σ,H,I,h⟩
theorem fY {e:Expr} {es:List Expr} {t:TG} {u:TGs} (h1:PG X e t) (h2:PGs X es u)
    (hs:(assignEach (e :: es) X.env).map (·.2)=assign e X.env :: (assignEach es X.env).map (·.2):=by rfl):PGs X (e :: es) (PX t u):=by
  intro pins s σ H vs us Q I r h
  obtain ⟨v,vr,e1,h⟩:=h
  subst e1
  cases r with
  | cons r rr =>
    rw [hs]
    refine assignInOrder_cons (thn (h1 pins s σ H _ _ _ I r h) fun _ s1 ⟨σ1,H1,I1,q1⟩=>?_)
    exact h2 pins s1 σ1 H1 _ _ Q I1 rr q1
def Qx (K:PySem.W.Frag) (n:Nat) (t:TGs):TG:=fun v σ H Q=>∃ a xs,v=.ref a∧SqT K H a xs∧xs.length=n∧t xs σ H Q
theorem tU {es:List Expr} {k:Nat} {t:TGs} {n:Nat} (hc:X.calm=true) (h:PGs X es t)
    (hn:(assignEach es X.env).length=n:=by rfl) (hst:(assignEach es X.env).findIdx? (·.1)=none:=by rfl):PG X (.Tuple es k pos) (Qx X.K n t):=by
  intro pins s σ H v u Q I r hw
  obtain ⟨a,xs,e1,hq,hl,hw⟩:=hw
  subst e1
  cases r
  obtain ⟨its,rv,ht,hz⟩:=I.tuple hq
  refine assign_Tuple_tuple (I.ok.hd hc) ht (by simp [hn,← hl,rv.length]) hst fun h' hx=>?_
  have I1:Inv X pins σ H { s with heap:=h' }:=I.kept (t':=s.toks) fun b o e=>hx b o (Nat.ne_of_lt (Heap.lt_size e)) e
  exact h pins _ σ H xs _ Q I1 (by simpa using rv) hw
def gSub (to ti:TE) (t:Qd):TG:=fun v σ H Q=>to σ H fun o H1=>ti σ H1 fun i H2=>t o i v H2 fun H3=>Q σ H3
theorem lX {o i:Expr} {to ti:TE} {t:Qd} (ho:PE X o to) (hi:PE X i ti) (hs:Qz X t)
    (ha:∀ v,assign (.Subscript o i pos) X.env v=(do
      let ov ← holding [v] (eval o X.env)
      let iv ← holding [v,ov] (eval i X.env)
      standAt pos
      holding [v,ov,iv] (setItem ov iv v)
      release [v,ov,iv] []):=by intro _;rfl):PG X (.Subscript o i pos) (gSub to ti t):=by
  intro pins s σ H v u Q I r h
  rw [ha]
  refine wpAny_bind (wpAny_holding (thn (ho pins s σ H _ I h) fun ov s1 ⟨x,H1,I1,r1,q1⟩=>?_))
  refine wpAny_bind (wpAny_holding (thn (hi pins s1 σ H1 _ I1 q1) fun iv s2 ⟨y,H2,I2,r2,q2⟩=>?_))
  refine wpAny_bind (wpAny_standAt (wpAny_bind (wpAny_holding (thn (hs pins s2 σ H2 x y v ov iv u _ I2 r1 r2 r q2) fun _ s3 ⟨H3,I3,q3⟩=>?_))))
  exact wpAny_release ⟨σ,H3,I3,q3⟩
def Nm (te:TE) (g:TG):TS:=fun D σ H=>te σ H fun x H1=>g x σ H1 D.nx
theorem jQ {tg e:Expr} {te:TE} {g:TG} (he:PE X e te) (hg:PG X tg g) (hs:swapsWithSole [tg] e pos.line X.env=pure false:=by rfl) (hw:swappedStores [tg] e X.env=pure none:=by rfl)
    (h1:(assignEach [tg] X.env).map (·.2)=[assign tg X.env]:=by rfl):PS X (.Assign [tg] e pos) (Nm te g):=by
  intro pins s σ H D I h
  refine wpAny_Assign_stores (thn (he pins s σ H _ I h) fun v s1 ⟨x,H1,I1,r1,q1⟩=>?_) hs hw
  rw [h1]
  exact thn (hg pins s1 σ H1 x v _ I1 r1 q1) fun _ s2 q=>q
theorem bK {i:Nat} {x:Str} {e:Expr} {te:TE} {pos':Pos} (hN:X.N.Nodup) (hi:X.N[i]?=some x) (hx:Loc X.env.scope x) (he:PE X e te) (hs:swapsWith e (some (.Name x pos')) pos.line X.env=pure false:=by rfl) (hf:X.fn x=true∨X.env.scope.names.lookup x=some .local:=by first | exact .inl rfl | exact .inr rfl | assumption) :
    PS X (.Assign [.Name x pos'] e pos) (Nm te (wJ i)):=by
  intro pins s σ H D I h
  refine wpAny_Assign_Name (thn (he pins s σ H _ I h) fun v s1 ⟨y,H1,I1,r1,q1⟩=>?_) hs
  exact mJ I1 hN hi hx r1 (fun s2 I2=>⟨_,H1,I2,q1⟩) hf
end
section
variable {X:Cx} {pos:Pos}
def Gu (c:TT) (tb:TS):TS:=fun D σ H=>∃ W:Nat→St→Hp→Prop,(∃ m,W m σ H)∧∀ m σ H,W m σ H →
  c σ H fun b H1=>if b=true then ∃ N:St→Hp→Prop,(∀ σ' H',N σ' H'→∃ m',m'<m∧W m' σ' H')∧tb { D with nx:=N,ct:=N,bk:=D.nx } σ H1 else D.nx σ H1
theorem vG {c:Expr} {body:List Stmt} {tc:TT} {tb:TS} (hp:PassesOwn (model X.prog X.w) X.A X.env X.xe) (hc:PT X c tc) (hb:PSs X body tb):PS X (.While c body [] pos) (Gu tc tb):=by
  intro pins s σ H D I h
  obtain ⟨W,⟨m0,w0⟩,turn⟩:=h
  refine wpAny_While (codeAny_whileLoop (fun n s'=>∃ σ' H',Inv X pins σ' H' s'∧W n σ' H') ?_ m0 ⟨σ,H,I,w0⟩)
  rintro n s1 ⟨σ1,H1,I1,w1⟩
  refine wpAny_passesOwn hp (thn (hc pins s1 σ1 H1 _ I1 (turn n σ1 H1 w1)) fun b s2 ⟨H2,I2,q2⟩=>?_)
  cases b with
  | true =>
    obtain ⟨N,hN,q2⟩:=q2
    rw [if_pos rfl]
    refine wpAny_passesOwn hp (thn (hb pins s2 σ1 H2 _ I2 q2) fun f s3 q3=>?_)
    cases f with
    | next =>
      obtain ⟨σ3,H3,I3,n3⟩:=q3
      obtain ⟨m',hm,w3⟩:=hN σ3 H3 n3
      exact ⟨m',hm,σ3,H3,I3,w3⟩
    | cont =>
      obtain ⟨σ3,H3,I3,n3⟩:=q3
      obtain ⟨m',hm,w3⟩:=hN σ3 H3 n3
      exact ⟨m',hm,σ3,H3,I3,w3⟩
    | brk=>exact q3
    | ret v=>exact q3
  | false =>
    rw [if_neg Bool.false_ne_true]
    exact wpAny_execs_nil ⟨σ1,H2,I2,q2⟩
end
structure It where
  go:Nat→Hp→Prop
  yld:Nat→Hp→V→Hp→Prop
  stop:Nat→Hp→Prop
def wW (X:Cx) (pins:List (Addr × Obj)) (H:Hp) (b:Addr):Prop :=
  H b=none∧b≠X.env.locals∧b ∉ X.fs∧(b∈X.ex∨X.s₀.heap.objs.size≤b)∧(∀ x c,X.env.cells.lookup x=some c→c≠b)∧∀ p∈X.pn++pins,p.1≠b
theorem Inv.Gm {X:Cx} {pins:List (Addr × Obj)} {σ:St} {H H':Hp} {s:Shared} {b:Addr} (I:Inv X pins σ H s) (hb:s.heap.objs.size≤b) (hn:H' b=none):wW X pins H' b:=by
  refine ⟨hn,Nat.ne_of_gt (Nat.lt_of_lt_of_le I.lt hb),I.nofs hb,.inr (Nat.le_trans I.sz hb),fun x c e z=>?_,fun p hp z=>?_⟩
  · obtain ⟨v,q⟩:=I.cell x c e
    exact absurd (Nat.lt_of_lt_of_le q.lt (by rw [z];exact hb)) (Nat.lt_irrefl _)
  · exact absurd (Nat.lt_of_lt_of_le (Heap.lt_size (I.pin p hp).1) (by rw [z];exact hb)) (Nat.lt_irrefl _)
structure Turn (P:Program) (w:World) (K:PySem.W.Frag) (tg:Expr) (J:It) (fp:List Addr) (it:Addr) (tn:Nat→Heap→Prop):Prop where
  mem:it∈fp
  obj:∀ i h,tn i h→∀ b∈fp,∃ o,h.get? b=some o∧∀ v,o.data≠.cell v
  keep:∀ i h h',tn i h→(∀ b∈fp,∀ o,h.get? b=some o→h'.get? b=some o)→tn i h'
  item:∀ (X:Cx),X.prog=P→X.w=w→X.K=K→X.calm=true→∀ (i:Nat) (pins:List (Addr × Obj)) (s:Shared) (σ:St) (H:Hp) (E:Value→Shared→Prop),Inv X pins σ H s→(∀ b∈fp,wW X pins H b)→tn i s.heap→J.go i H →
    wpAny (model P w) X.A (pyNext (.ref it)) (fun r s1=>∃ u,r=some u ∧
      wpAny (model P w) X.A (letOwnedTupleGo tg (.ref it) u) (fun _ s2=>∃ x H',Inv X pins σ H' s2∧RelV x u∧J.yld i H x H'∧tn (i + 1) s2.heap∧∀ b∈fp,H' b=none) E s1) E s
  done:∀ (X:Cx),X.prog=P→X.w=w→X.K=K→X.calm=true→∀ (i:Nat) (pins:List (Addr × Obj)) (s:Shared) (σ:St) (H:Hp) (E:Value→Shared→Prop),Inv X pins σ H s→(∀ b∈fp,wW X pins H b)→tn i s.heap→J.stop i H →
    wpAny (model P w) X.A (pyNext (.ref it)) (fun r s1=>r=none∧Inv X pins σ H s1) E s
  self:∀ (A:Around) (i:Nat) (s:Shared) (Q:Value→Shared→Prop) (E:Value→Shared→Prop),tn i s.heap→Q (.ref it) s→wpAny (model P w) A (pyIter (.ref it)) Q E s
abbrev TI:=St→Hp→(It→Hp→Prop)→Prop
def PIE (X:Cx) (pins:List (Addr × Obj)) (σ:St) (tg:Expr) (R:It→Hp→Prop) (itv:Value) (s2:Shared):Prop :=
  ∃ (it:Addr) (fp:List Addr) (tn:Nat→Heap→Prop) (J:It) (H':Hp),itv=.ref it∧Inv X pins σ H' s2∧Turn X.prog X.w X.K tg J fp it tn∧tn 0 s2.heap∧(∀ b∈fp,wW X pins H' b)∧R J H'
def PI (X:Cx) (tg iter:Expr) (wi:TI):Prop :=
  ∀ (pins:List (Addr × Obj)) (s:Shared) (σ:St) (H:Hp) (R:It→Hp→Prop),Inv X pins σ H s→wi σ H R →
    wpAny (model X.prog X.w) X.A (eval iter X.env) (fun v s1=>wpAny (model X.prog X.w) X.A (pyIter v) (PIE X pins σ tg R) X.xe s1) X.xe s
theorem wH {M:Model} {A:Around} {E:Value→Shared→Prop} {s:Shared} {tg:Expr} {it:Addr} {u:Value} {o:Obj} {n:String} {vs:Array Value} {Q:Unit→Shared→Prop} (ho:s.heap.get? it=some o) (hc:o.cls=.type n) (hd:o.data=.fields vs)
    (hn:["enumerate","zip","dict_itemiterator","dict_reverseitemiterator","odict_iterator","itertools.zip_longest","itertools.pairwise"].contains n=false) (hQ:Q () s):wpAny M A (letOwnedTupleGo tg (.ref it) u) Q E s:=by
  unfold letOwnedTupleGo
  cases tg <;> first
    | exact wpAny_pure hQ
    | (cases u <;> first
        | exact wpAny_pure hQ
        | (refine wpAny_bind (wpAny_load ho ?_)
           rw [hc,hd]
           show wpAny M A (if (["enumerate","zip","dict_itemiterator","dict_reverseitemiterator","odict_iterator","itertools.zip_longest","itertools.pairwise"].contains n && vs[0]? == some (rawInt _))=true then _ else _) Q E s
           rw [if_neg (by intro h;rw [hn,Bool.false_and] at h;cases h)]
           exact wpAny_pure hQ))
def Itl (K:PySem.W.Frag) (a:Addr):It :=
  ⟨fun i H=>∃ xs x,SqL K H a xs∧xs[i]?=some x,fun i H x H'=>H'=H∧∀ xs,SqL K H a xs→xs[i]?=some x,fun i H=>∃ xs,SqL K H a xs∧xs.length≤i⟩
def Itt (K:PySem.W.Frag) (a:Addr):It :=
  ⟨fun i H=>∃ xs x,SqT K H a xs∧xs[i]?=some x,fun i H x H'=>H'=H∧∀ xs,SqT K H a xs→xs[i]?=some x,fun i H=>∃ xs,SqT K H a xs∧xs.length≤i⟩
def Itr (lo:Int) (n:Nat):It:=⟨fun i _=>i<n,fun i H x H'=>H'=H∧x=.int (lo + i),fun i _=>n≤i⟩
theorem rY {P:Program} {w:World} {K:PySem.W.Frag} {tg:Expr} (a it:Addr):Turn P w K tg (Itl K a) [it] it (fun i h=>h.IsListIter it a i) where
  mem:=by simp
  obj:=fun i h st b hb=>by
    have e:b=it:=by simpa using hb
    subst e
    obtain ⟨o,e,c,d⟩:=st
    exact ⟨o,e,fun v z=>by rw [d] at z;cases z⟩
  keep:=fun i h h' st k=>st.at fun o e=>k it (by simp) o e
  item:=by
    intro X hP hw hK hc i pins s σ H E I hf st hg
    subst hP hw hK
    obtain ⟨xs,x,hq,hx⟩:=hg
    obtain ⟨its,rv,p,hz⟩:=I.list hq
    obtain ⟨u,hu,ru⟩:=rv.get hx
    obtain ⟨f0,f1,f2,f3,f4,f5⟩:=hf it (by simp)
    refine wpAny_pyNext_list_item st p.isList (x:=u) (by simpa using hu) fun h' st' sb=>?_
    have I1:Inv X pins σ H { s with heap:=h' }:=I.turned (t':=s.toks) (fun b o hb e=>(sb.2 b hb).trans e) f0 f1 f3 f4 f5
    obtain ⟨o,e,c,d⟩:=id st'
    exact ⟨u,rfl,wH (s:={ s with heap:=h' }) e c d (by decide) ⟨x,H,I1,ru,⟨rfl,fun ys hy=>by rw [I.wz hy hq];exact hx⟩,st',fun b hb=>(hf b hb).1⟩⟩
  done:=by
    intro X hP hw hK hc i pins s σ H E I hf st hg
    subst hP hw hK
    obtain ⟨xs,hq,hx⟩:=hg
    obtain ⟨its,rv,p,hz⟩:=I.list hq
    obtain ⟨f0,f1,f2,f3,f4,f5⟩:=hf it (by simp)
    have hl:=rv.length
    exact wpAny_pyNext_list_end (I.ok.hd hc) st p.isList (by simp;omega) fun h' eb=>⟨rfl,I.turned (t':=s.toks) (fun b o hb e=>eb b o hb e) f0 f1 f3 f4 f5⟩
  self:=fun _ _ _ _ _ st h=>wpAny_pyIter_listiter st h
theorem rA {P:Program} {w:World} {K:PySem.W.Frag} {tg:Expr} (a it:Addr):Turn P w K tg (Itt K a) [it] it (fun i h=>h.IsTupleIter it a i) where
  mem:=by simp
  obj:=fun i h st b hb=>by
    have e:b=it:=by simpa using hb
    subst e
    obtain ⟨o,e,c,d⟩:=st
    exact ⟨o,e,fun v z=>by rw [d] at z;cases z⟩
  keep:=fun i h h' st k=>st.at fun o e=>k it (by simp) o e
  item:=by
    intro X hP hw hK hc i pins s σ H E I hf st hg
    subst hP hw hK
    obtain ⟨xs,x,hq,hx⟩:=hg
    obtain ⟨its,rv,p,hz⟩:=I.tuple hq
    obtain ⟨u,hu,ru⟩:=rv.get hx
    obtain ⟨f0,f1,f2,f3,f4,f5⟩:=hf it (by simp)
    refine wpAny_pyNext_tuple_item st (show s.heap.IsTuple a its.toArray from p) (x:=u) (by simpa using hu) fun h' st' sb=>?_
    have I1:Inv X pins σ H { s with heap:=h' }:=I.turned (t':=s.toks) (fun b o hb e=>(sb.2 b hb).trans e) f0 f1 f3 f4 f5
    obtain ⟨o,e,c,d⟩:=id st'
    exact ⟨u,rfl,wH (s:={ s with heap:=h' }) e c d (by decide) ⟨x,H,I1,ru,⟨rfl,fun ys hy=>by rw [I.su hy hq];exact hx⟩,st',fun b hb=>(hf b hb).1⟩⟩
  done:=by
    intro X hP hw hK hc i pins s σ H E I hf st hg
    subst hP hw hK
    obtain ⟨xs,hq,hx⟩:=hg
    obtain ⟨its,rv,p,hz⟩:=I.tuple hq
    obtain ⟨f0,f1,f2,f3,f4,f5⟩:=hf it (by simp)
    have hl:=rv.length
    exact wpAny_pyNext_tuple_end (I.ok.hd hc) st (show s.heap.IsTuple a its.toArray from p) (by simp;omega) fun h' eb=>⟨rfl,I.turned (t':=s.toks) (fun b o hb e=>eb b o hb e) f0 f1 f3 f4 f5⟩
  self:=fun _ _ _ _ _ st h=>wpAny_pyIter_tupleiter st h
theorem rB {P:Program} {w:World} {K:PySem.W.Frag} {tg:Expr} (it:Addr) (lo:Int) (n:Nat):Turn P w K tg (Itr lo n) [it] it (fun i h=>IsRangeIter h it (lo + (i:Nat) * 1) ((n:Int) - (i:Nat)) 1) where
  mem:=by simp
  obj:=fun i h st b hb=>by
    have e:b=it:=by simpa using hb
    subst e
    exact ⟨_,st,fun v z=>by
      have z':Data.fields _=Data.cell v:=z
      cases z'⟩
  keep:=fun i h h' st k=>k it (by simp) _ st
  item:=by
    intro X hP hw hK hc i pins s σ H E I hf st hg
    subst hP hw hK
    obtain ⟨f0,f1,f2,f3,f4,f5⟩:=hf it (by simp)
    have W:=Walks.range (prog:=X.prog) (w:=X.w) (I.ok.hd hc) it lo 1 n
    refine W.item i s _ _ hg st fun v h' tk hv st' kk=>?_
    obtain ⟨t,rfl⟩:=hv
    have I1:Inv X pins σ H { s with heap:=h',toks:=tk }:=I.turned (fun b o hb e=>kk b o (by simpa using hb) e) f0 f1 f3 f4 f5
    refine ⟨_,rfl,wH (s:={ s with heap:=h',toks:=tk }) (n:="range_iterator") st' rfl rfl (by decide) ⟨.int (lo + i),H,I1,⟨t,?_⟩,⟨rfl,rfl⟩,st',fun b hb=>(hf b hb).1⟩⟩
    rw [Int.mul_one]
  done:=by
    intro X hP hw hK hc i pins s σ H E I hf st hg
    subst hP hw hK
    obtain ⟨f0,f1,f2,f3,f4,f5⟩:=hf it (by simp)
    exact wpAny_pyNext_range_end (I.ok.hd hc) st (by have:n≤i:=hg;omega) fun h' eb=>⟨rfl,I.turned (t':=s.toks) (fun b o hb e=>eb b o hb e) f0 f1 f3 f4 f5⟩
  self:=fun _ _ _ _ _ st h=>wpAny_pyIter_rangeiter st h
end L2
namespace L2
open PySem PySem.Spec PyProof.Rows
section
variable {X:Cx} {tg:Expr}
def Ny (K:PySem.W.Frag) (tl:TE):TI:=fun σ H R=>tl σ H fun x H1=>∃ a,x=.ref a∧(∃ xs,SqL K H1 a xs)∧R (Itl K a) H1
def iTup (K:PySem.W.Frag) (tl:TE):TI:=fun σ H R=>tl σ H fun x H1=>∃ a,x=.ref a∧(∃ xs,SqT K H1 a xs)∧R (Itt K a) H1
theorem mZ {l:Expr} {tl:TE} (hl:PE X l tl):PI X tg l (Ny X.K tl):=by
  intro pins s σ H R I h
  refine thn (hl pins s σ H _ I h) fun v s1 ⟨x,H1,I1,r1,q1⟩=>?_
  obtain ⟨a,e,⟨xs,hq⟩,q⟩:=q1
  subst e
  cases r1
  obtain ⟨its,rv,p,hz⟩:=I1.list hq
  refine wpAny_pyIter_list p.isList ?_
  refine ⟨s1.heap.objs.size,[s1.heap.objs.size],_,_,H1,rfl,I1.kept (t':=s1.toks) fun b o e=>Heap.get?_push_of_some _ e,rY a _,⟨_,Heap.get?_push_size _ rfl,rfl,rfl⟩,fun b hb=>?_,q⟩
  have e:b=s1.heap.objs.size:=by simpa using hb
  subst e
  exact I1.Gm (Nat.le_refl _) (I1.hok.fresh (Nat.le_refl _))
theorem GJ {l:Expr} {tl:TE} (hl:PE X l tl):PI X tg l (iTup X.K tl):=by
  intro pins s σ H R I h
  refine thn (hl pins s σ H _ I h) fun v s1 ⟨x,H1,I1,r1,q1⟩=>?_
  obtain ⟨a,e,⟨xs,hq⟩,q⟩:=q1
  subst e
  cases r1
  obtain ⟨its,rv,p,hz⟩:=I1.tuple hq
  refine wpAny_pyIter_tuple (show s1.heap.IsTuple a its.toArray from p) ?_
  refine ⟨s1.heap.objs.size,[s1.heap.objs.size],_,_,H1,rfl,I1.kept (t':=s1.toks) fun b o e=>Heap.get?_push_of_some _ e,rA a _,⟨_,Heap.get?_push_size _ rfl,rfl,rfl⟩,fun b hb=>?_,q⟩
  have e:b=s1.heap.objs.size:=by simpa using hb
  subst e
  exact I1.Gm (Nat.le_refl _) (I1.hok.fresh (Nat.le_refl _))
theorem vD {pins:List (Addr × Obj)} {σ:St} {H:Hp} {s:Shared} {R:It→Hp→Prop} {E:Value→Shared→Prop} {lo hi:Int} {t u v:Tok} {tk:Nat} (I:Inv X pins σ H s) (h1:-(2 ^ 62)≤lo) (h2:lo<2 ^ 62) (h3:-(2 ^ 62)≤hi) (h4:hi<2 ^ 62)
    (q:R (Itr lo (hi - lo).toNat) H):wpAny (model X.prog X.w) X.A (pyIter (.ref s.heap.objs.size)) (PIE X pins σ tg R) E { s with heap:=s.heap.push { cls:=.type "range",data:=.fields #[.int lo t,.int hi u,.int 1 v] },toks:=tk }:=by
  refine wpAny_pyIter_range (IsRange.new ..) (small_one h1 h2 h3 h4) ?_
  have I1:Inv X pins σ H { s with heap:=s.heap.push { cls:=.type "range",data:=.fields #[.int lo t,.int hi u,.int 1 v] },toks:=tk }:=I.kept fun b o e=>Heap.get?_push_of_some _ e
  refine ⟨(s.heap.push { cls:=.type "range",data:=.fields #[.int lo t,.int hi u,.int 1 v] }).objs.size,[(s.heap.push { cls:=.type "range",data:=.fields #[.int lo t,.int hi u,.int 1 v] }).objs.size],_,_,H,rfl,
    I1.kept (t':=tk) fun b o e=>Heap.get?_push_of_some _ e,rB _ lo (hi - lo).toNat,?_,fun b hb=>?_,q⟩
  · have e1:lo + ((0:Nat):Int) * 1=lo:=by simp
    have e2:(((hi - lo).toNat:Nat):Int) - ((0:Nat):Int)=Builtin.Range.rangeSize lo hi 1:=by rw [rangeSize_one];split <;> omega
    show IsRangeIter _ _ (lo + ((0:Nat):Int) * 1) ((((hi - lo).toNat:Nat):Int) - ((0:Nat):Int)) 1
    rw [e1,e2]
    exact Heap.get?_push_size _ rfl
  · have e:b=(s.heap.push { cls:=.type "range",data:=.fields #[.int lo t,.int hi u,.int 1 v] }).objs.size:=by simpa using hb
    subst e
    exact I1.Gm (Nat.le_refl _) (I1.hok.fresh (Nat.le_refl _))
def Nx (ta:TA):TI:=fun σ H R=>ta σ H fun vs H1=>∃ j:Int,vs=[.int j]∧-(2 ^ 62)≤j∧j<2 ^ 62∧R (Itr 0 j.toNat) H1
theorem gn {a:Expr} {ta:TA} {p pos:Pos} (hg:Gl X "range") (hm:X.mg "range"=none) (ha:PA X [a] ta) (hs:starEach [a] X.env=[(false,eval a X.env)]:=by rfl):PI X tg (.Call (.Name "range" p) [a] [] pos) (Nx ta):=by
  intro pins s σ H R I h
  refine Call_ (oK I hg hm boot_range (PyProof.Rows.callWith_type1 (thn (ha pos pins s σ H _ I h) fun us s1 ⟨vs,H1,I1,r1,q1⟩=>?_) hs rfl))
  obtain ⟨j,e,q1,q2,q⟩:=q1
  subst e
  cases r1 with
  | cons r rr =>
    cases rr
    obtain ⟨t,rfl⟩:=r
    exact call_range_1 (vD I1 (by omega) (by omega) q1 q2 (by simpa using q))
def tFor (wi:TI) (g:TG) (tb:TS):TS:=fun D σ H=>wi σ H fun J H1=>∃ W:Nat→Nat→St→Hp→Prop,(∃ m,W 0 m σ H1)∧∀ i m σ H,W i m σ H →
  (J.stop i H∧D.nx σ H)∨(J.go i H∧∃ N:St→Hp→Prop,(∀ σ' H',N σ' H'→∃ m',m'<m∧W (i + 1) m' σ' H')∧∀ x H',J.yld i H x H'→g x σ H' fun σ2 H2=>tb { D with nx:=N,ct:=N,bk:=D.nx } σ2 H2)
def oA (fp:List Addr) (h:Heap):List (Addr × Obj):=fp.filterMap fun b=>(h.get? b).map fun o=>(b,o)
theorem iU {fp:List Addr} {h:Heap} {b:Addr} {o:Obj} (hb:b∈fp) (e:h.get? b=some o):(b,o)∈oA fp h:=List.mem_filterMap.mpr ⟨b,hb,by rw [e];rfl⟩
theorem uo {fp:List Addr} {h:Heap} {p:Addr × Obj} (hp:p∈oA fp h):p.1∈fp∧h.get? p.1=some p.2:=by
  obtain ⟨b,hb,e⟩:=List.mem_filterMap.mp hp
  cases q:h.get? b with
  | none=>rw [q] at e;cases e
  | some o =>
    rw [q] at e
    have e':(b,o)=p:=Option.some.inj e
    subst e'
    exact ⟨hb,q⟩
theorem Inv.pinned {pins:List (Addr × Obj)} {σ:St} {H:Hp} {s:Shared} {fp:List Addr} (I:Inv X pins σ H s) (hf:∀ b∈fp,wW X pins H b) (ho:∀ b∈fp,∃ o,s.heap.get? b=some o∧∀ v,o.data≠.cell v):Inv X (pins++oA fp s.heap) σ H s :=
  I.tQ fun p hp=>(List.mem_append.mp hp).elim (fun z=>I.pin p (List.mem_append_right _ z)) fun z=>by
    obtain ⟨hb,e⟩:=uo z
    obtain ⟨f0,f1,f2,_⟩:=hf p.1 hb
    obtain ⟨o,e',d⟩:=ho p.1 hb
    rw [e] at e';cases e'
    exact ⟨e,f0,f1,f2,d⟩
theorem Inv.j4 {pins pl:List (Addr × Obj)} {σ:St} {H:Hp} {s:Shared} (I:Inv X (pins++pl) σ H s):Inv X pins σ H s:=I.tQ fun p hp=>I.pin p (List.mem_append_right _ (List.mem_append_left _ hp))
theorem qG {iter:Expr} {body:List Stmt} {wi:TI} {g:TG} {tb:TS} {pos:Pos} (hp:PassesOwn (model X.prog X.w) X.A X.env X.xe) (hc:X.calm=true) (hi:PI X tg iter wi) (hg:PG X tg g) (hb:PSs X body tb)
    (hs:∀ x,foldedSetIterable iter X.env x=pure x:=by intro _;rfl):PS X (.For tg iter body [] pos) (tFor wi g tb):=by
  intro pins s σ H D I h
  refine wpAny_For (thn (hi pins s σ H _ I h) fun v s1 h1=>thn h1 fun itv s2 h2=>?_) hs
  obtain ⟨it,fp,tn,J,H2,e,I2,T,st2,f2,W,⟨m0,w0⟩,turn⟩:=h2
  subst e
  have stat:∀ {H':Hp},(∀ b∈fp,H' b=none)→∀ b∈fp,wW X pins H' b:=fun hn b hb=>⟨hn b hb,(f2 b hb).2⟩
  refine codeAny_forLoop_any (fun n s'=>∃ i σ' H',Inv X pins σ' H' s'∧tn i s'.heap∧(∀ b∈fp,H' b=none)∧W i n σ' H') ?_ m0 ⟨0,σ,H2,I2,st2,fun b hb=>(f2 b hb).1,w0⟩
  rintro n s3 ⟨i,σ3,H3,I3,st3,fr3,w3⟩
  rcases turn i n σ3 H3 w3 with ⟨stop,qn⟩ | ⟨go,N,hN,step⟩
  · refine wpAny_passesOwn hp (thn (T.done X rfl rfl rfl hc i pins s3 σ3 H3 X.xe I3 (stat fr3) st3 stop) fun r s4 ⟨hr,I4⟩=>?_)
    subst hr
    exact wpAny_execs_nil ⟨σ3,H3,I4,qn⟩
  · refine wpAny_passesOwn hp (thn (T.item X rfl rfl rfl hc i pins s3 σ3 H3 X.xe I3 (stat fr3) st3 go) fun r s4 ⟨u,hr,h4⟩=>?_)
    subst hr
    refine wpAny_passesOwn hp (thn h4 fun _ s5 ⟨x,H5,I5,r5,y5,st5,fr5⟩=>?_)
    have I5':=I5.pinned (stat fr5) (T.obj _ _ st5)
    refine wpAny_passesOwn hp (thn (hg _ s5 σ3 H5 x u _ I5' r5 (step x H5 y5)) fun _ s6 ⟨σ6,H6,I6,q6⟩=>?_)
    refine wpAny_passesOwn hp (thn (hb _ s6 σ6 H6 _ I6 q6) fun f s7 q7=>?_)
    have again:∀ {σ7:St} {H7:Hp},Inv X (pins++oA fp s5.heap) σ7 H7 s7→N σ7 H7→∃ m,m<n∧∃ i σ' H',Inv X pins σ' H' s7∧tn i s7.heap∧(∀ b∈fp,H' b=none)∧W i m σ' H':=fun {σ7 H7} I7 n7=>by
      obtain ⟨m',hm,w7⟩:=hN σ7 H7 n7
      refine ⟨m',hm,i + 1,σ7,H7,I7.j4,T.keep _ _ _ st5 fun b hb o e=>(I7.pin (b,o) (List.mem_append_right _ (List.mem_append_right _ (iU hb e)))).1,fun b hb=>?_,w7⟩
      obtain ⟨o,e,d⟩:=T.obj _ _ st5 b hb
      exact (I7.pin (b,o) (List.mem_append_right _ (List.mem_append_right _ (iU hb e)))).2.1
    cases f with
    | next=>obtain ⟨σ7,H7,I7,n7⟩:=q7;exact again I7 n7
    | cont=>obtain ⟨σ7,H7,I7,n7⟩:=q7;exact again I7 n7
    | brk=>obtain ⟨σ7,H7,I7,q7⟩:=q7;exact ⟨σ7,H7,I7.j4,q7⟩
    | ret v=>obtain ⟨x7,σ7,H7,I7,r7,q7⟩:=q7;exact ⟨x7,σ7,H7,I7.j4,r7,q7⟩
end
theorem qP {K:PySem.W.Frag} {a:Addr} {xs:List V} {g:TG} {tb:TS} {D:Ends} {σ:St} {H:Hp} (Pv:Nat→St→Hp→Prop) (h0:Pv 0 σ H) (hl:∀ i σ H,i≤xs.length→Pv i σ H→SqL K H a xs)
    (hs:∀ i x σ H,xs[i]?=some x→Pv i σ H→g x σ H fun σ2 H2=>tb { D with nx:=Pv (i + 1),ct:=Pv (i + 1),bk:=D.nx } σ2 H2) (hd:∀ σ H,Pv xs.length σ H→D.nx σ H) :
    ∃ W:Nat→Nat→St→Hp→Prop,(∃ m,W 0 m σ H)∧∀ i m σ H,W i m σ H →
      ((Itl K a).stop i H∧D.nx σ H)∨((Itl K a).go i H∧∃ N:St→Hp→Prop,(∀ σ' H',N σ' H'→∃ m',m'<m∧W (i + 1) m' σ' H')∧∀ x H',(Itl K a).yld i H x H'→g x σ H' fun σ2 H2=>tb { D with nx:=N,ct:=N,bk:=D.nx } σ2 H2):=by
  refine ⟨fun i m σ H=>m=xs.length - i∧i≤xs.length∧Pv i σ H,⟨xs.length,by simp,Nat.zero_le _,h0⟩,?_⟩
  rintro i m σ H ⟨rfl,hi,p⟩
  have q:=hl i σ H hi p
  by_cases hlt:i<xs.length
  · refine .inr ⟨⟨xs,xs[i],q,by simp [hlt]⟩,Pv (i + 1),fun σ' H' p'=>⟨xs.length - (i + 1),by omega,rfl,hlt,p'⟩,fun x H' y=>?_⟩
    obtain ⟨e,y⟩:=y
    subst e
    exact hs i x σ _ (y xs q) p
  · have e:i=xs.length:=by omega
    subst e
    exact .inl ⟨⟨xs,q,Nat.le_refl _⟩,hd σ H p⟩
theorem oM {lo:Int} {n:Nat} {g:TG} {tb:TS} {D:Ends} {σ:St} {H:Hp} (Pv:Nat→St→Hp→Prop) (h0:Pv 0 σ H)
    (hs:∀ i σ H,i<n→Pv i σ H→g (.int (lo + i)) σ H fun σ2 H2=>tb { D with nx:=Pv (i + 1),ct:=Pv (i + 1),bk:=D.nx } σ2 H2) (hd:∀ σ H,Pv n σ H→D.nx σ H) :
    ∃ W:Nat→Nat→St→Hp→Prop,(∃ m,W 0 m σ H)∧∀ i m σ H,W i m σ H →
      ((Itr lo n).stop i H∧D.nx σ H)∨((Itr lo n).go i H∧∃ N:St→Hp→Prop,(∀ σ' H',N σ' H'→∃ m',m'<m∧W (i + 1) m' σ' H')∧∀ x H',(Itr lo n).yld i H x H'→g x σ H' fun σ2 H2=>tb { D with nx:=N,ct:=N,bk:=D.nx } σ2 H2):=by
  refine ⟨fun i m σ H=>m=n - i∧i≤n∧Pv i σ H,⟨n,by simp,Nat.zero_le _,h0⟩,?_⟩
  rintro i m σ H ⟨rfl,hi,p⟩
  by_cases hlt:i<n
  · refine .inr ⟨hlt,Pv (i + 1),fun σ' H' p'=>⟨n - (i + 1),by omega,rfl,hlt,p'⟩,fun x H' y=>?_⟩
    obtain ⟨e,y⟩:=y
    subst e y
    exact hs i σ _ hlt p
  · have e:i=n:=by omega
    subst e
    exact .inl ⟨Nat.le_refl _,hd σ H p⟩
end L2
namespace L2
open PySem PySem.Spec PyProof.Rows
abbrev R2:=V→V→Hp→VK→Prop
def OpR (X:Cx) (f:Value→Value→Sem Value) (r:R2):Prop :=
  ∀ (pins:List (Addr × Obj)) (s:Shared) (σ:St) (H:Hp) (x y:V) (v u:Value) (Q:VK),Inv X pins σ H s→RelV x v→RelV y u→r x y H Q →
    wpAny (model X.prog X.w) X.A (f v u) (EP X pins σ Q) X.xe s
def UnR (X:Cx) (f:Value→Sem Value) (r:V→Hp→VK→Prop):Prop :=
  ∀ (pins:List (Addr × Obj)) (s:Shared) (σ:St) (H:Hp) (x:V) (v:Value) (Q:VK),Inv X pins σ H s→RelV x v→r x H Q →
    wpAny (model X.prog X.w) X.A (f v) (EP X pins σ Q) X.xe s
def lJ (X:Cx) (f:Value) (r:List V→Hp→VK→Prop):Prop :=
  ∀ (pins:List (Addr × Obj)) (s:Shared) (σ:St) (H:Hp) (xs:List V) (us:List Value) (Q:VK),Inv X pins σ H s→Vals xs us→r xs H Q →
    wpAny (model X.prog X.w) X.A (call f us) (EP X pins σ Q) X.xe s
def tOp (r:R2) (ta tb:TE):TE:=fun σ H Q=>ta σ H fun x H1=>tb σ H1 fun y H2=>r x y H2 Q
def tUn (r:V→Hp→VK→Prop) (ta:TE):TE:=fun σ H Q=>ta σ H fun x H1=>r x H1 Q
def rI (C:Int→Int→Prop) (g:Int→Int→V):R2:=fun x y H Q=>∃ i j,x=.int i∧y=.int j∧C i j∧Q (g i j) H
def rI0 (g:Int→Int→V):R2:=fun x y H Q=>∃ i j,x=.int i∧y=.int j∧Q (g i j) H
def rU (g:Int→V):V→Hp→VK→Prop:=fun x H Q=>∃ i,x=.int i∧Q (g i) H
section
variable {X:Cx} {a b c:Expr} {ta tb tc:TE} {pos:Pos}
theorem MP (ha:PE X a ta) (hb:PE X b tb) {pins:List (Addr × Obj)} {s:Shared} {σ:St} {H:Hp} {R:V→V→Hp→Prop} (I:Inv X pins σ H s)
    (h:ta σ H fun x H1=>tb σ H1 fun y H2=>R x y H2) {Q:Value→Shared→Prop} {f:Value→Value→Sem Value}
    (hf:∀ v u s2 x y H2,Inv X pins σ H2 s2→RelV x v→RelV y u→R x y H2→wpAny (model X.prog X.w) X.A (f v u) Q X.xe s2) :
    wpAny (model X.prog X.w) X.A (eval a X.env) (fun v s₁=>wpAny (model X.prog X.w) X.A (eval b X.env) (fun u s₂=>wpAny (model X.prog X.w) X.A (f v u) Q X.xe s₂) X.xe s₁) X.xe s:=by
  refine thn (ha pins s σ H _ I h) fun v s1 ⟨x,H1,I1,r1,q1⟩=>?_
  refine thn (hb pins s1 σ H1 _ I1 q1) fun u s2 ⟨y,H2,I2,r2,q2⟩=>?_
  exact hf v u s2 x y H2 I2 r1 r2 q2
theorem aV {op:Operator} {r:R2} (ho:OpR X (binaryOp op) r) (ha:PE X a ta) (hb:PE X b tb):PE X (.BinOp a op b pos) (tOp r ta tb):=by
  intro pins s σ H Q I h
  exact wpAny_BinOp (MP ha hb I h fun v u s2 x y H2 I2 rx ry q=>ho pins s2 σ H2 x y v u Q I2 rx ry q)
theorem tV {op:UnaryOp} {r:V→Hp→VK→Prop} (ho:UnR X (unaryOp op) r) (ha:PE X a ta):PE X (.UnaryOp op a pos) (tUn r ta):=by
  intro pins s σ H Q I h
  exact UnaryOp_ (thn (ha pins s σ H _ I h) fun v s1 ⟨x,H1,I1,r1,q1⟩=>ho pins s1 σ H1 x v Q I1 r1 q1)
theorem opI {f:Value→Value→Sem Value} {C:Int→Int→Prop} {g:Int→Int→Int}
    (rule:∀ (i j:Int) (t u:Tok) (s:Shared) (Q:Value→Shared→Prop) (E:Value→Shared→Prop),C i j→Q (.int (g i j) s.toks) { s with toks:=s.toks + 1 }→wpAny (model X.prog X.w) X.A (f (.int i t) (.int j u)) Q E s) :
    OpR X f (rI C fun i j=>.int (g i j)):=by
  intro pins s σ H x y v u Q I rx ry h
  obtain ⟨i,j,rfl,rfl,hc,q⟩:=h
  obtain ⟨t,rfl⟩:=rx
  obtain ⟨t',rfl⟩:=ry
  exact rule i j t t' s _ _ hc ⟨.int (g i j),H,I.tok _,⟨_,rfl⟩,q⟩
theorem Qn {f:Value→Value→Sem Value} {g:Int→Int→Int}
    (rule:∀ (i j:Int) (t u:Tok) (s:Shared) (Q:Value→Shared→Prop) (E:Value→Shared→Prop),Q (.int (g i j) s.toks) { s with toks:=s.toks + 1 }→wpAny (model X.prog X.w) X.A (f (.int i t) (.int j u)) Q E s) :
    OpR X f (rI0 fun i j=>.int (g i j)):=by
  intro pins s σ H x y v u Q I rx ry h
  obtain ⟨i,j,rfl,rfl,q⟩:=h
  obtain ⟨t,rfl⟩:=rx
  obtain ⟨t',rfl⟩:=ry
  exact rule i j t t' s _ _ ⟨.int (g i j),H,I.tok _,⟨_,rfl⟩,q⟩
theorem MK {f:Value→Value→Sem Value} {g:Int→Int→Bool}
    (rule:∀ (i j:Int) (t u:Tok) (s:Shared) (Q:Value→Shared→Prop) (E:Value→Shared→Prop),Q (.bool (g i j)) s→wpAny (model X.prog X.w) X.A (f (.int i t) (.int j u)) Q E s) :
    OpR X f (rI0 fun i j=>.bl (g i j)):=by
  intro pins s σ H x y v u Q I rx ry h
  obtain ⟨i,j,rfl,rfl,q⟩:=h
  obtain ⟨t,rfl⟩:=rx
  obtain ⟨t',rfl⟩:=ry
  exact rule i j t t' s _ _ ⟨.bl (g i j),H,I,rfl,q⟩
def CDiv (i j:Int):Prop:=0<j∧j<1073741824
def CPow (i j:Int):Prop:=0≤j∧j≤1000000∧i.natAbs<2 ^ 64
def Qf (i j:Int):Prop:=(-(2 ^ 64)<i∧i<2 ^ 64)∨(-(2 ^ 64)<j∧j<2 ^ 64)
theorem Qf.ok {i j:Int} (h:Qf i j):IntMulOk i j:=by
  rcases h with ⟨h1,h2⟩ | ⟨h1,h2⟩
  · exact .of_left (intBits_le_64 h1 h2)
  · exact .of_right (intBits_le_64 h1 h2)
theorem fG:OpR X (binaryOp .Add) (rI0 fun i j=>.int (i + j)):=Qn fun _ _ _ _ _ _ _ q=>add_int q
theorem qH:OpR X (binaryOp .Sub) (rI0 fun i j=>.int (i - j)):=Qn fun _ _ _ _ _ _ _ q=>sub_int q
theorem oF:OpR X (binaryOp .Mult) (rI Qf fun i j=>.int (i * j)):=opI fun _ _ _ _ _ _ _ hc q=>mul_int q hc.ok
theorem gU:OpR X (binaryOp .FloorDiv) (rI CDiv fun i j=>.int (i / j)):=opI fun i j _ _ _ _ _ hc q=>by
  have h1:(0:Int)<j:=hc.1
  have h2:j<1073741824:=hc.2
  exact floordiv_int (by omega) (by rw [Int.fdiv_eq_ediv_of_nonneg i (by omega)];exact q) (.inl (PyProof.noPylong_small (by omega)))
theorem dN:OpR X (binaryOp .Mod) (rI (fun _ j=>0<j) fun i j=>.int (i % j)):=opI fun i j _ _ _ _ _ hc q=>by
  have h1:(0:Int)<j:=hc
  exact mod_int' (by omega) (by rw [Int.fmod_eq_emod_of_nonneg i (by omega)];exact q)
theorem GQ:OpR X (binaryOp .Pow) (rI CPow fun i j=>.int (i ^ j.toNat)):=opI fun _ _ _ _ _ _ _ hc q=>pow_int_small hc.1 hc.2.1 hc.2.2 q
theorem unI {f:Value→Sem Value} {g:Int→Int}
    (rule:∀ (i:Int) (t:Tok) (s:Shared) (Q:Value→Shared→Prop) (E:Value→Shared→Prop),Q (.int (g i) s.toks) { s with toks:=s.toks + 1 }→wpAny (model X.prog X.w) X.A (f (.int i t)) Q E s) :
    UnR X f (rU fun i=>.int (g i)):=by
  intro pins s σ H x v Q I rx h
  obtain ⟨i,rfl,q⟩:=h
  obtain ⟨t,rfl⟩:=rx
  exact rule i t s _ _ ⟨.int (g i),H,I.tok _,⟨_,rfl⟩,q⟩
theorem nH:UnR X (unaryOp .USub) (rU fun i=>.int (-i)):=unI fun _ _ _ _ _ q=>neg_int q
end
def Qj:V→V→Bool
  | .non,.non=>true | .non,.int _=>true | .int _,.non=>true | .non,.bl _=>true | .bl _,.non=>true | .non,.str _=>true | .str _,.non=>true
  | .int _,.int _=>true | .bl _,.bl _=>true | .str _,.str _=>true | .byt _,.byt _=>true
  | .int _,.str _=>true | .str _,.int _=>true | .bl _,.str _=>true | .str _,.bl _=>true
  | _,_=>false
def rEq:R2:=fun x y H Q=>Qj x y=true∧Q (.bl (decide (x=y))) H
def rNe:R2:=fun x y H Q=>Qj x y=true∧Q (.bl (!decide (x=y))) H
theorem uM {i j:Int}:decide (V.int i=V.int j)=(i == j):=by
  rw [Bool.eq_iff_iff]
  simp
theorem Es {i j:Bool}:decide (V.bl i=V.bl j)=(i == j):=by
  rw [Bool.eq_iff_iff]
  simp
theorem uL {i j:Str}:decide (V.str i=V.str j)=(i == j):=by
  rw [Bool.eq_iff_iff]
  simp
theorem uN {i j:Array UInt8}:decide (V.byt i=V.byt j)=(i.toList == j.toList):=by
  rw [Bool.eq_iff_iff]
  cases i
  cases j
  simp
section
variable {X:Cx} {a b c:Expr} {ta tb tc:TE} {pos:Pos}
theorem bW {pins:List (Addr × Obj)} {σ:St} {H:Hp} {s:Shared} {Q:VK} {k k':Bool} (I:Inv X pins σ H s) (q:Q (.bl k) H) (e:k=k'):EP X pins σ Q (.bool k') s:=by
  subst e
  exact ⟨.bl k,H,I,rfl,q⟩
theorem jW:OpR X (compareOp .Eq) rEq:=by
  intro pins s σ H x y v u Q I rx ry h
  obtain ⟨hs,q⟩:=h
  cases x with
  | non =>
    cases rx
    cases y with
    | non=>cases ry;exact PySem.EqNone.eq_none_none (bW I q (by simp))
    | bl j=>cases ry;exact PySem.EqNone.eq_none_bool (bW I q (by simp))
    | int j=>obtain ⟨t',rfl⟩:=ry;exact PySem.EqNone.eq_none_int (bW I q (by simp))
    | str j=>obtain ⟨t',rfl⟩:=ry;exact PySem.EqNone.eq_none_str (bW I q (by simp))
    | _=>exact absurd (show false=true from hs) Bool.false_ne_true
  | bl i =>
    cases rx
    cases y with
    | non=>cases ry;exact PySem.EqNone.eq_bool_none (bW I q (by simp))
    | bl j=>cases ry;exact eq_bool (bW I q Es)
    | str j=>obtain ⟨t',rfl⟩:=ry;exact PySem.EqMixed.eq_bool_str (bW I q (by simp))
    | _=>exact absurd (show false=true from hs) Bool.false_ne_true
  | int i =>
    obtain ⟨t,rfl⟩:=rx
    cases y with
    | non=>cases ry;exact PySem.EqNone.eq_int_none (bW I q (by simp))
    | int j=>obtain ⟨t',rfl⟩:=ry;exact eq_int (bW I q uM)
    | str j=>obtain ⟨t',rfl⟩:=ry;exact PySem.EqMixed.eq_int_str (bW I q (by simp))
    | _=>exact absurd (show false=true from hs) Bool.false_ne_true
  | str i =>
    obtain ⟨t,rfl⟩:=rx
    cases y with
    | non=>cases ry;exact PySem.EqNone.eq_str_none (bW I q (by simp))
    | bl j=>cases ry;exact PySem.EqMixed.eq_str_bool (bW I q (by simp))
    | int j=>obtain ⟨t',rfl⟩:=ry;exact PySem.EqMixed.eq_str_int (bW I q (by simp))
    | str j=>obtain ⟨t',rfl⟩:=ry;exact eq_str (bW I q uL)
    | _=>exact absurd (show false=true from hs) Bool.false_ne_true
  | byt i =>
    obtain ⟨t,rfl⟩:=rx
    cases y with
    | byt j=>obtain ⟨t',rfl⟩:=ry;exact PySem.W.eq_bytes (bW I q uN)
    | _=>exact absurd (show false=true from hs) Bool.false_ne_true
  | _=>cases y <;> exact absurd (show false=true from hs) Bool.false_ne_true
theorem rH:OpR X (compareOp .NotEq) rNe:=by
  intro pins s σ H x y v u Q I rx ry h
  obtain ⟨hs,q⟩:=h
  cases x with
  | non =>
    cases rx
    cases y with
    | non=>cases ry;exact PySem.EqNone.ne_none_none (bW I q (by simp))
    | bl j=>cases ry;exact PySem.EqNone.ne_none_bool (bW I q (by simp))
    | int j=>obtain ⟨t',rfl⟩:=ry;exact PySem.EqNone.ne_none_int (bW I q (by simp))
    | str j=>obtain ⟨t',rfl⟩:=ry;exact PySem.EqNone.ne_none_str (bW I q (by simp))
    | _=>exact absurd (show false=true from hs) Bool.false_ne_true
  | bl i =>
    cases rx
    cases y with
    | non=>cases ry;exact PySem.EqNone.ne_bool_none (bW I q (by simp))
    | bl j=>cases ry;exact ne_bool (bW I q (congrArg not Es))
    | str j=>obtain ⟨t',rfl⟩:=ry;exact PySem.EqMixed.ne_bool_str (bW I q (by simp))
    | _=>exact absurd (show false=true from hs) Bool.false_ne_true
  | int i =>
    obtain ⟨t,rfl⟩:=rx
    cases y with
    | non=>cases ry;exact PySem.EqNone.ne_int_none (bW I q (by simp))
    | int j=>obtain ⟨t',rfl⟩:=ry;exact ne_int (bW I q (congrArg not uM))
    | str j=>obtain ⟨t',rfl⟩:=ry;exact PySem.EqMixed.ne_int_str (bW I q (by simp))
    | _=>exact absurd (show false=true from hs) Bool.false_ne_true
  | str i =>
    obtain ⟨t,rfl⟩:=rx
    cases y with
    | non=>cases ry;exact PySem.EqNone.ne_str_none (bW I q (by simp))
    | bl j=>cases ry;exact PySem.EqMixed.ne_str_bool (bW I q (by simp))
    | int j=>obtain ⟨t',rfl⟩:=ry;exact PySem.EqMixed.ne_str_int (bW I q (by simp))
    | str j=>obtain ⟨t',rfl⟩:=ry;exact ne_str (bW I q (congrArg not uL))
    | _=>exact absurd (show false=true from hs) Bool.false_ne_true
  | byt i =>
    obtain ⟨t,rfl⟩:=rx
    cases y with
    | byt j=>obtain ⟨t',rfl⟩:=ry;exact PySem.W.ne_bytes (bW I q (congrArg not uN))
    | _=>exact absurd (show false=true from hs) Bool.false_ne_true
  | _=>cases y <;> exact absurd (show false=true from hs) Bool.false_ne_true
theorem tZ:OpR X (compareOp .Lt) (rI0 fun i j=>.bl (decide (i<j))):=MK fun _ _ _ _ _ _ _ q=>lt_int q
theorem jV:OpR X (compareOp .LtE) (rI0 fun i j=>.bl (decide (i≤j))):=MK fun _ _ _ _ _ _ _ q=>le_int q
theorem GX:OpR X (compareOp .Gt) (rI0 fun i j=>.bl (decide (j<i))):=MK fun _ _ _ _ _ _ _ q=>gt_int q
theorem Nr:OpR X (compareOp .GtE) (rI0 fun i j=>.bl (decide (j≤i))):=MK fun _ _ _ _ _ _ _ q=>ge_int q
theorem uc:OpR X (compareOp .In) (fun x y H Q=>∃ i j,x=.str i∧y=.str j∧Q (.bl (!(Builtin.Str.occurrences j i 0 j.length 1).isEmpty)) H):=by
  intro pins s σ H x y v u Q I rx ry h
  obtain ⟨i,j,rfl,rfl,q⟩:=h
  obtain ⟨t,rfl⟩:=rx
  obtain ⟨t',rfl⟩:=ry
  exact in_str (bW I q rfl)
theorem GR:OpR X (compareOp .Is) (fun x y H Q=>y=.non∧Q (.bl (decide (x=.non))) H):=by
  intro pins s σ H x y v u Q I rx ry h
  obtain ⟨rfl,q⟩:=h
  cases ry
  refine is_none_gen (bW I q ?_)
  cases x <;> first
    | (cases rx;rfl)
    | (obtain ⟨t,rfl⟩:=rx;rfl)
theorem tX:OpR X (compareOp .IsNot) (fun x y H Q=>y=.non∧Q (.bl (!decide (x=.non))) H):=by
  intro pins s σ H x y v u Q I rx ry h
  obtain ⟨rfl,q⟩:=h
  cases ry
  refine isnot_none_gen (bW I q ?_)
  cases x <;> first
    | (cases rx;rfl)
    | (obtain ⟨t,rfl⟩:=rx;rfl)
theorem cj (b:Expr) {op:CmpOp} (h:op≠.In:=by decide) (h2:op≠.NotIn:=by decide):behindInMarks op b=false:=by
  have e1:(op == CmpOp.In)=false:=by cases op <;> first | rfl | exact absurd rfl h
  have e2:(op == CmpOp.NotIn)=false:=by cases op <;> first | rfl | exact absurd rfl h2
  cases b <;> simp [behindInMarks,e1,e2]
theorem jg {op:CmpOp} {r:R2} (ho:OpR X (compareOp op) r) (ha:PE X a ta) (hb:PE X b tb) (hm:behindInMarks op b=false):PE X (.Compare a [op] [b] pos) (tOp r ta tb):=by
  intro pins s σ H Q I h
  exact wpAny_Compare1 (MP ha hb I h fun v u s2 x y H2 I2 rx ry q=>ho pins s2 σ H2 x y v u Q I2 rx ry q) hm
def EY (t:TE):TT:=fun σ H Q=>t σ H fun x H'=>∃ k,x=.bl k∧Q k H'
theorem bD {op:CmpOp} {r:R2} (ho:OpR X (compareOp op) r) (ha:PE X a ta) (hb:PE X b tb) (hm:behindInMarks op b=false):PT X (.Compare a [op] [b] pos) (EY (tOp r ta tb)):=by
  intro pins s σ H Q I h
  refine wpAny_isTrue_Compare1 (thn (ha pins s σ H _ I h) fun v s1 ⟨x,H1,I1,r1,q1⟩=>thn (hb pins s1 σ H1 _ I1 q1) fun u s2 ⟨y,H2,I2,r2,q2⟩ =>
    thn (ho pins s2 σ H2 x y v u _ I2 r1 r2 q2) fun c s3 ⟨z,H3,I3,r3,k,e,q3⟩=>?_) hm
  subst e
  cases r3
  exact wpAny_truthy_bool ⟨H3,I3,q3⟩
def wX (r r':R2) (ta tb tc:TE):TE:=fun σ H Q=>ta σ H fun x H1=>tb σ H1 fun y H2=>r x y H2 fun z H3=>∃ k,z=.bl k ∧
  (if k=true then tc σ H3 fun w' H4=>r' y w' H4 Q else Q (.bl false) H3)
theorem m6 {op op':CmpOp} {r r':R2} (ho:OpR X (compareOp op) r) (ho':OpR X (compareOp op') r') (ha:PE X a ta) (hb:PE X b tb) (hc:PE X c tc)
    (hm:lastMarks [op,op'] [b,c]=false:=by with_unfolding_all rfl):PE X (.Compare a [op,op'] [b,c] pos) (wX r r' ta tb tc):=by
  intro pins s σ H Q I h
  refine Compare_chain (thn (ha pins s σ H _ I h) fun v s1 ⟨x,H1,I1,r1,q1⟩=>chain_link (thn (hb pins s1 σ H1 _ I1 q1) fun u s2 ⟨y,H2,I2,r2,q2⟩ =>
    thn (ho pins s2 σ H2 x y v u _ I2 r1 r2 q2) fun d s3 ⟨z,H3,I3,r3,k,e,q3⟩=>?_)) hm
  subst e
  cases r3
  refine wpAny_truthy_bool ?_
  cases k with
  | false=>exact ite_ff ⟨.bl false,H3,I3,rfl,q3⟩
  | true=>exact ite_tt (chain_last (thn (hc pins s3 σ H3 _ I3 q3) fun w' s4 ⟨z',H4,I4,r4,q4⟩=>ho' pins s4 σ H4 y z' u w' Q I4 r2 r4 q4))
theorem jw {op op':CmpOp} {r r':R2} (ho:OpR X (compareOp op) r) (ho':OpR X (compareOp op') r') (ha:PE X a ta) (hb:PE X b tb) (hc:PE X c tc)
    (hm:lastMarks [op,op'] [b,c]=false:=by with_unfolding_all rfl):PT X (.Compare a [op,op'] [b,c] pos) (EY (wX r r' ta tb tc)):=by
  intro pins s σ H Q I h
  refine isTrue_chain (thn (ha pins s σ H _ I h) fun v s1 ⟨x,H1,I1,r1,q1⟩=>test_link (thn (hb pins s1 σ H1 _ I1 q1) fun u s2 ⟨y,H2,I2,r2,q2⟩ =>
    thn (ho pins s2 σ H2 x y v u _ I2 r1 r2 q2) fun d s3 ⟨z,H3,I3,r3,k,e,q3⟩=>?_)) hm
  subst e
  cases r3
  refine wpAny_truthy_bool ?_
  cases k with
  | false =>
    obtain ⟨k',e',q'⟩:=q3
    cases e'
    exact ite_ff ⟨H3,I3,q'⟩
  | true =>
    refine ite_tt (test_last (thn (hc pins s3 σ H3 _ I3 q3) fun w' s4 ⟨z',H4,I4,r4,q4⟩=>thn (ho' pins s4 σ H4 y z' u w' _ I4 r2 r4 q4) fun d' s5 ⟨z2,H5,I5,r5,k2,e2,q5⟩=>?_))
    subst e2
    cases r5
    exact wpAny_truthy_bool ⟨H5,I5,q5⟩
theorem oJ:(sizeLine:Nat)<2 ^ 63:=by rw [sizeLine_eq];decide
theorem iT:OpR X (binaryOp .Add) (fun x y H Q=>∃ i j,x=.str i∧y=.str j∧i.length + j.length≤sizeLine∧Q (.str (i++j)) H):=by
  intro pins s σ H x y v u Q I rx ry h
  obtain ⟨i,j,rfl,rfl,hz,q⟩:=h
  obtain ⟨t,rfl⟩:=rx
  obtain ⟨t',rfl⟩:=ry
  exact add_str (fun t' tk=>⟨.str (i++j),H,I.tok _,⟨_,rfl⟩,q⟩) hz
def wU (b:Expr):Prop:=∀ o i,subscripted b false o i=operate [o,i] (getItem o i)
theorem jf (ha:PE X a ta) (hb:PE X b tb) (hs:wU b) :
    PE X (.Subscript a b pos) (tOp (fun x y H Q=>∃ z i c,x=.str z∧y=.int i∧0≤i∧i<2 ^ 63∧i<z.length∧z.cps[i.toNat]?=some c∧Q (.str ⟨#[c]⟩) H) ta tb):=by
  intro pins s σ H Q I h
  refine Subscript_ (MP ha hb I h fun v u s2 x y H2 I2 rx ry q=>?_)
  obtain ⟨z,i,c,rfl,rfl,h0,h63,h1,hc,q⟩:=q
  obtain ⟨t,rfl⟩:=rx
  obtain ⟨t',rfl⟩:=ry
  have e:seqIndex? i z.length=some i.toNat:=PySem.StrLaws.seqIndex_nonneg h0 h1
  exact tail_any (typeIs_str s2 z t) slot_str_getitem.lookup (getItem_str (c:=c) (by
    have e1:decide (i < -(2 ^ 63:Int))=false:=decide_eq_false (by omega)
    have e2:decide (i ≥ 2 ^ 63)=false:=decide_eq_false (by omega)
    rw [e1,e2] <;> rfl) (by rw [e];exact hc) ⟨.str ⟨#[c]⟩,H2,I2.tok _,⟨_,rfl⟩,q⟩) (hs _ _)
theorem vals1 {x:V} {us:List Value} (r:Vals [x] us):∃ u,us=[u]∧RelV x u:=by
  cases r with
  | cons r1 r2=>cases r2;exact ⟨_,rfl,r1⟩
theorem vals2 {x y:V} {us:List Value} (r:Vals [x,y] us):∃ u w',us=[u,w']∧RelV x u∧RelV y w':=by
  cases r with
  | cons r1 r2 =>
    cases r2 with
    | cons r3 r4=>cases r4;exact ⟨_,_,rfl,r1,r3⟩
end
end L2
namespace L2
open PySem PySem.Spec PyProof.Rows
structure Gh (h:Heap) (x dx C:Addr) (mA:Str→Option Value):Prop where
  obj:h.get? x=some (PySem.W.instObj C dx)
  ns:h.Ns1 dx mA
  ne:dx≠x
theorem ux {h:Heap} {dx:Addr} {mA:Str→Option Value} (n:h.Ns1 dx mA):∃ od,h.get? dx=some od∧∀ name,PySem.W.lookIn name od=some (mA name):=by
  obtain ⟨o,es,ep,ho,hd,hk,_,hm⟩:=n
  refine ⟨o,ho,fun name=>?_⟩
  have e:=hm name
  unfold nsFind findBy at e
  rw [← Array.find?_toList] at e
  unfold PySem.W.lookIn
  rw [hd]
  dsimp only
  split
  · rename_i y q
    rw [q] at e
    exact congrArg some e
  · rename_i q
    rw [q] at e
    have a:es.toList.any (·.refKey)=false:=by
      rw [List.any_eq_false]
      intro y hy
      obtain ⟨z,t,hkey⟩:=hk y (Array.mem_toList_iff.mp hy)
      simp [DictEntry.refKey,hkey]
    have a':¬ es.toList.any (·.refKey)=true:=by rw [a];exact Bool.false_ne_true
    rw [if_neg a']
    exact congrArg some e
theorem Gh.look {h:Heap} {x dx C:Addr} {mA:Str→Option Value} (I:Gh h x dx C mA):∃ od,PySem.W.InstAt h x (PySem.W.instObj C dx) C (some od)∧∀ name,PySem.W.lookIn name od=some (mA name) :=
  let ⟨od,ho,hl⟩:=ux I.ns
  ⟨od,⟨I.obj,rfl,rfl,ho⟩,hl⟩
section
variable {prog:Program} {w:World} {A:Around} {E:Value→Shared→Prop} {s:Shared} {K:PySem.W.Frag} {x dx C f:Addr} {mA:Str→Option Value} {name:Str} {v:Value}
theorem get_map {expr:Bool} {Q:Value→Shared→Prop} (X:K.In s.heap) (I:Gh s.heap x dx C mA) (hg:PySem.W.plainGet K C name=true) (hh:PySem.W.hasDictIn K C=true)
    (ha:PySem.W.findIn K (.ref C) name=some none) (hv:mA name=some v) (hv':PySem.W.handedIn v=true) (h:Q v { s with toks:=s.toks + 1 }) :
    wpAny (model prog w) A (getAttr (.ref x) name expr) Q E s:=by
  obtain ⟨od,J,hl⟩:=I.look
  exact PySem.W.get_value X J (PySem.W.plainGet_of hg).1 (PySem.W.findObj_own hh ha rfl (by rw [hl,hv])) hv' h
theorem wI {pl:Sem Bool} {Q:Value × List Value→Shared→Prop} (X:K.In s.heap) (I:Gh s.heap x dx C mA) (hg:PySem.W.plainGet K C name=true)
    (hf:PySem.W.findIn K (.ref C) name=some (some (.ref f))) (ht:PySem.W.isFn K (.ref f)=true) (hv:mA name=none) (h:Q (.ref f,[.ref x]) s) :
    wpAny (model prog w) A (getMethod (.ref x) name pl) Q E s:=by
  obtain ⟨od,J,hl⟩:=I.look
  exact PySem.W.method_fn X J (PySem.W.plainGet_of hg).1 (PySem.W.plainGet_of hg).2 hf (beq_iff_eq.mp ht) (by show (PySem.W.lookIn name od).map (·.isSome)=some false;rw [hl,hv];rfl) h
theorem Fi {ns:List Str} {Q:Unit→Shared→Prop} (X:K.In s.heap) (I:Gh s.heap x dx C mA)
    (hs:PySem.W.findIn K (.ref C) "__setattr__"=some (some (.builtin "object.__setattr__"))) (hp:PySem.W.plainOver K C=true) (ht:PySem.W.takerIn K C name=some none) (hh:PySem.W.hasDictIn K C=true)
    (hw:PySem.Within mA ns) (hsz:ns.length≤sizeLine)
    (h:∀ h',Gh h' x dx C (fun y=>if y=name then some v else mA y)→Heap.SameBut dx s.heap h'→Q () { s with heap:=h',toks:=s.toks + 2 }) :
    wpAny (model prog w) A (setAttr (.ref x) name v) Q E s:=by
  obtain ⟨od,J,hl⟩:=I.look
  refine PySem.W.set_plain X J hs (PySem.W.osa_open (s:={ s with toks:=s.toks + 1 }) (r:=none) X J hp ht fun b=>?_)
  obtain ⟨cd,hc,hd'⟩:=PySem.W.any_some hh
  have hx:s.heap.get? x=some ⟨.ref C,some dx,.plain,#[]⟩:=I.obj
  refine wpAny_bind (wpAny_pure (wpAny_bind (wpAny_bind (wpAny_loadPart hx (wpAny_bind (PySem.W.Looks.here (s:={ s with toks:=s.toks + 1 }) (PySem.W.looks_clsIn X hc) ?_))))))
  rw [hd']
  refine wpAny_pure (a:=some dx) (wpAny_bind (wpAny_pure (wpAny_bind ?_)))
  refine wpAny_nsSet1 (s:={ s with toks:=s.toks + 1 }) I.ns fun h' hn2 hs2=>?_
  obtain ⟨oD,esD,epD,hoD,hdD,hcD⟩:=hn2.count (PySem.Within.cons name v hw)
  refine wpAny_bind (wpAny_lookBehind hoD (by rw [hdD];exact pastItsLine_dict (Nat.le_trans hcD (by rw [List.length_cons];omega))) ?_)
  exact wpAny_pure (h _ ⟨(hs2.2 _ (Ne.symm I.ne)).trans I.obj,hn2,I.ne⟩ hs2)
theorem wu {R:Result→Shared→Prop} {vs:List Value} {kw:List (Str × Value)} (X:K.In s.heap) (hm:PySem.W.makesIn K C=true)
    (hi:PySem.W.findIn K (.ref C) "__init__"=some (some (.ref f))) (hf:PySem.W.typeIn K (.ref f)=some (.type "function"))
    (h:codeAny (model prog w) (A.under (.builtin "type.__call__" ⟨.ref C :: vs,kw⟩)) (.call (.ref f) ⟨.ref (s.heap.objs.size + 1) :: vs,kw⟩) (PySem.W.InitBack (s.heap.objs.size + 1) R)
      { s with heap:=(s.heap.push PySem.W.emptyDict).push (PySem.W.instObj C s.heap.objs.size) }) :
    codeAny (model prog w) A (.call (.ref C) ⟨vs,kw⟩) R s:=by
  obtain ⟨hh,g,d,t,os⟩:=s
  exact PySem.W.make_core (PySem.W.makes_of X hm) (PySem.W.looks_findIn X hi) (fun self=>PySem.W.bind_fn X self hf) (.inl rfl) h
end
def nC (f:Str) (v:V):List (Str × V)→List (Str × V)
  | []=>[(f,v)]
  | (g,x) :: r=>if g=f then (g,v) :: r else (g,x) :: nC f v r
theorem kZ (f g:Str) (v:V):∀ fs:List (Str × V),(nC f v fs).lookup g=if g=f then some v else fs.lookup g
  | []=>by
    show List.lookup g [(f,v)]=_
    by_cases h:g=f
    · have hb:(g == f)=true:=beq_iff_eq.mpr h
      simp only [List.lookup,hb,if_pos h]
    · have hb:(g == f)=false:=beq_eq_false_iff_ne.mpr h
      simp only [List.lookup,hb,if_neg h]
  | (k,x) :: r=>by
    have ih:=kZ f g v r
    rw [show nC f v ((k,x) :: r)=(if k=f then (k,v) :: r else (k,x) :: nC f v r) from rfl]
    by_cases hk:k=f
    · rw [if_pos hk]
      by_cases h:g=k
      · have hb:(g == k)=true:=beq_iff_eq.mpr h
        simp only [List.lookup,hb,if_pos (h.trans hk)]
      · have hb:(g == k)=false:=beq_eq_false_iff_ne.mpr h
        simp only [List.lookup,hb,if_neg (fun e:g=f=>h (e.trans hk.symm))]
    · rw [if_neg hk]
      by_cases h:g=k
      · have hb:(g == k)=true:=beq_iff_eq.mpr h
        simp only [List.lookup,hb,if_neg (fun e:g=f=>hk (h.symm.trans e))]
      · have hb:(g == k)=false:=beq_eq_false_iff_ne.mpr h
        simp only [List.lookup,hb]
        exact ih
theorem lA (f:Str) (v:V):∀ fs:List (Str × V),f∈(nC f v fs).map (·.1)∧∀ g,g∈fs.map (·.1)→g∈(nC f v fs).map (·.1)
  | []=>⟨by simp [nC],fun g h=>by simp at h⟩
  | (k,x) :: r=>by
    obtain ⟨i1,i2⟩:=lA f v r
    rw [show nC f v ((k,x) :: r)=(if k=f then (k,v) :: r else (k,x) :: nC f v r) from rfl]
    by_cases hk:k=f
    · rw [if_pos hk]
      subst hk
      exact ⟨by simp,fun g h=>by simpa using h⟩
    · rw [if_neg hk]
      refine ⟨?_,fun g h=>?_⟩
      · rw [List.map_cons]
        exact List.mem_cons_of_mem _ i1
      · rw [List.map_cons] at h ⊢
        rcases List.mem_cons.mp h with e | e
        · exact List.mem_cons.mpr (.inl e)
        · exact List.mem_cons_of_mem _ (i2 g e)
theorem lg (f:Str) (v:V):∀ fs:List (Str × V),(nC f v fs).length≤fs.length + 1
  | []=>by simp [nC]
  | (k,x) :: r=>by
    have ih:=lg f v r
    rw [show nC f v ((k,x) :: r)=(if k=f then (k,v) :: r else (k,x) :: nC f v r) from rfl]
    by_cases hk:k=f
    · rw [if_pos hk,List.length_cons,List.length_cons];omega
    · rw [if_neg hk,List.length_cons,List.length_cons];omega
theorem vh.some_of {v:V} {o:Option Value} (r:vh (some v) o):∃ u,o=some u∧RelV v u:=by
  cases o with
  | none=>exact (show False from r).elim
  | some u=>exact ⟨u,rfl,r⟩
theorem vh.none_of {o:Option Value} (r:vh none o):o=none:=by
  cases o with
  | none=>rfl
  | some u=>exact (show False from r).elim
theorem uI {v:V} {u:Value} (r:RelV v u):PySem.W.handedIn u=true:=by
  cases v with
  | non=>cases (show u=Value.none from r);rfl
  | bl b=>cases (show u=Value.bool b from r);rfl
  | int i=>obtain ⟨t,e⟩:=(show ∃ t,u=Value.int i t from r);cases e;rfl
  | str x=>obtain ⟨t,e⟩:=(show ∃ t,u=Value.str x t from r);cases e;rfl
  | byt b=>obtain ⟨t,e⟩:=(show ∃ t,u=Value.bytes b t from r);cases e;rfl
  | flt b=>obtain ⟨t,e⟩:=(show ∃ t,u=Value.float b t from r);cases e;rfl
  | ref a=>cases (show u=Value.ref a from r);rfl
  | ty n=>cases (show u=Value.type n from r);rfl
section
variable {P:Program} {w:World} {H H':Hp} {h h':Heap} {a C dx:Addr} {fs fs':List (Str × V)}
theorem ni (hok:HOk P w H h) (e:H a=some (.ins C dx fs)):∃ mA,Gh h a dx C mA∧(∀ f,vh (fs.lookup f) (mA f))∧PySem.Within mA (fs.map (·.1))∧fs.length≤1000∧H dx=some (.own a):=by
  obtain ⟨d,z,ne,ob,mA,n,r,q⟩:=(show fV P w H h a (.ins C dx fs) from hok a _ e)
  exact ⟨mA,⟨ob,n,ne⟩,r,q,z,d⟩
end
structure Cls (K:PySem.W.Frag) (C:Addr):Prop where
  pg:PySem.W.plainGet K C Str.empty=true
  hd:PySem.W.hasDictIn K C=true
  po:PySem.W.plainOver K C=true
  sa:PySem.W.findIn K (.ref C) "__setattr__"=some (some (.builtin "object.__setattr__"))
theorem Cls.get {K:PySem.W.Frag} {C:Addr} (c:Cls K C) (f:Str):PySem.W.plainGet K C f=true:=c.pg
def gK (K:PySem.W.Frag) (C:Addr) (f:Str):Prop:=PySem.W.findIn K (.ref C) f=some none
theorem gK.taker {K:PySem.W.Frag} {C:Addr} {f:Str} (n:gK K C f):PySem.W.takerIn K C f=some none:=by
  unfold PySem.W.takerIn
  rw [show PySem.W.findIn K (.ref C) f=some none from n]
  rfl
structure Meth (K:PySem.W.Frag) (C:Addr) (m:Str) (f:Addr):Prop where
  at_:PySem.W.findIn K (.ref C) m=some (some (.ref f))
  fn:PySem.W.isFn K (.ref f)=true
  kp:PySem.W.keepIn K (.ref f)=true
section
variable {X:Cx} {pins:List (Addr × Obj)} {σ:St} {H:Hp} {s:Shared} {a C dx:Addr} {fs:List (Str × V)} {f:Str} {v:V} {A:Around} {E:Value→Shared→Prop}
theorem mz {b:Bool} {Q:Value→Shared→Prop} (I:Inv X pins σ H s) (e:H a=some (.ins C dx fs)) (c:Cls X.K C) (n:gK X.K C f) (l:fs.lookup f=some v)
    (h:∀ u s',Inv X pins σ H s'→RelV v u→Q u s'):wpAny (model X.prog X.w) A (getAttr (.ref a) f b) Q E s:=by
  obtain ⟨mA,O,r,_,_,_⟩:=ni I.hok e
  obtain ⟨u,hu,ru⟩:=vh.some_of (v:=v) (o:=mA f) (by rw [← l];exact r f)
  exact get_map I.kIn O (c.get f) c.hd n hu (uI ru) (h u _ (I.tok _) ru)
theorem jH {m:Str} {g:Addr} {pl:Sem Bool} {Q:Value × List Value→Shared→Prop} (I:Inv X pins σ H s) (e:H a=some (.ins C dx fs)) (c:Cls X.K C) (k:Meth X.K C m g) (l:fs.lookup m=none)
    (h:Q (.ref g,[.ref a]) s):wpAny (model X.prog X.w) A (getMethod (.ref a) m pl) Q E s:=by
  obtain ⟨mA,O,r,_,_,_⟩:=ni I.hok e
  have hn:mA m=none:=vh.none_of (by rw [← l];exact r m)
  exact wI I.kIn O (c.get m) k.at_ k.fn hn h
theorem lU {y:V} {u:Value} {Q:Unit→Shared→Prop} (I:Inv X pins σ H s) (e:H a=some (.ins C dx fs)) (c:Cls X.K C) (n:gK X.K C f) (hl:fs.length<1000) (ry:RelV y u)
    (h:∀ s',Inv X pins σ (upd H a (.ins C dx (nC f y fs))) s'→Q () s'):wpAny (model X.prog X.w) A (setAttr (.ref a) f u) Q E s:=by
  obtain ⟨mA,O,r,wi,_,ho⟩:=ni I.hok e
  have hz:(fs.map (·.1)).length≤sizeLine:=by rw [List.length_map,sizeLine_eq];omega
  refine Fi I.kIn O c.sa c.po n.taker c.hd wi hz fun h' O' sb=>h _ ?_
  have hd:∃ o,h'.get? dx=some o:=let ⟨o,_,_,e',_⟩:=O'.ns;⟨o,e'⟩
  refine I.write (x:=a) (e:=dx) (by rw [e];exact True.intro) (.inr ho) (fun b q hb z=>(sb.2 b hb).trans z) hd ?_
  refine ⟨by rw [aM O.ne];exact ho,?_,O.ne,O'.obj,_,O'.ns,fun g=>?_,fun g hg=>?_⟩
  · have:=lg f y fs;omega
  · show vh ((nC f y fs).lookup g) (if g=f then some u else mA g)
    rw [kZ]
    by_cases q:g=f
    · rw [if_pos q,if_pos q];exact ry
    · rw [if_neg q,if_neg q];exact r g
  · by_cases q:g=f
    · rw [q];exact (lA f y fs).1
    · refine (lA f y fs).2 g (wi g fun z=>hg ?_)
      show (if g=f then some u else mA g)=none
      rw [if_neg q];exact z
theorem Inv.made (I:Inv X pins σ H s):Inv X pins σ (upd (upd H s.heap.objs.size (.own (s.heap.objs.size + 1))) (s.heap.objs.size + 1) (.ins C s.heap.objs.size []))
    { s with heap:=(s.heap.push PySem.W.emptyDict).push (PySem.W.instObj C s.heap.objs.size) }:=by
  have e1:(s.heap.push PySem.W.emptyDict).get? s.heap.objs.size=some PySem.W.emptyDict:=Heap.get?_push_size s.heap rfl
  have e2:((s.heap.push PySem.W.emptyDict).push (PySem.W.instObj C s.heap.objs.size)).get? (s.heap.objs.size + 1)=some (PySem.W.instObj C s.heap.objs.size):=by
    have:=Heap.get?_push_size (s.heap.push PySem.W.emptyDict) (o:=PySem.W.instObj C s.heap.objs.size) rfl
    rwa [Heap.size_push] at this
  have e3:(s.heap.push PySem.W.emptyDict).Ns s.heap.objs.size (fun _=>none):=⟨PySem.W.emptyDict,#[],_,e1,rfl,(fun e he=>absurd he (by simp)),fun _=>rfl⟩
  have I1:=I.laid (a:=s.heap.objs.size) (o:=.own (s.heap.objs.size + 1)) (h':=s.heap.push PySem.W.emptyDict) (t':=s.toks) (fun b u q=>Heap.get?_push_of_some _ q) (Nat.le_refl _) ⟨_,e1⟩
  refine I1.laid (a:=s.heap.objs.size + 1) (o:=.ins C s.heap.objs.size []) (t':=s.toks) (fun b u q=>Heap.get?_push_of_some _ q) (Nat.le_of_eq (Heap.size_push _ _)) ?_
  have ne:s.heap.objs.size≠s.heap.objs.size + 1:=Nat.ne_of_lt (Nat.lt_succ_self _)
  refine ⟨by rw [aM ne,bR],Nat.zero_le _,ne,e2,fun _=>none,(Heap.Ns1.of_empty e3).at fun o q=>Heap.get?_push_of_some _ q,fun _=>True.intro,fun y hy=>absurd rfl hy⟩
theorem Ge {prog:Program} {w:World} {env:Env} {e:Expr} {f:Str} {pos:Pos} {s:Shared} {Q:Value→Shared→Prop} (hb:attributeBase e f env (eval e env)=eval e env)
    (h:wpAny (model prog w) A (eval e env) (fun o s₁=>wpAny (model prog w) A (getAttr o f true) Q E s₁) E s):wpAny (model prog w) A (eval (.Attribute e f pos) env) Q E s :=
  Attribute_any_ h (by rw [arm_eval_Attribute,hb])
end
def tFld (K:PySem.W.Frag) (ta:TE) (f:Str):TE:=fun σ H Q=>ta σ H fun x H1=>∃ a C dx fs v,x=.ref a∧H1 a=some (.ins C dx fs)∧Cls K C∧gK K C f∧fs.lookup f=some v∧Q v H1
def sFld (K:PySem.W.Frag) (ta tv:TE) (f:Str):TS:=fun D σ H=>tv σ H fun y H1=>ta σ H1 fun x H2=>∃ a C dx fs,x=.ref a∧H2 a=some (.ins C dx fs)∧Cls K C∧gK K C f∧fs.length<1000 ∧
  D.nx σ (upd H2 a (.ins C dx (nC f y fs)))
def QB (X:Cx) (op:Operator) (rd:V→V→Hp→VK→Prop):Prop :=
  ∀ (pins:List (Addr × Obj)) (s:Shared) (σ:St) (H:Hp) (x y:V) (u v:Value) (Q:VK),Inv X pins σ H s→RelV x u→RelV y v→rd x y H Q→wpAny (model X.prog X.w) X.A (inplaceOp op u v) (EP X pins σ Q) X.xe s
def Fj (K:PySem.W.Frag) (ta tv:TE) (rd:V→V→Hp→VK→Prop) (f:Str):TS:=fun D σ H=>ta σ H fun x H1=>∃ a C dx fs v,x=.ref a∧H1 a=some (.ins C dx fs)∧Cls K C∧gK K C f∧fs.lookup f=some v ∧
  tv σ H1 fun y H2=>rd v y H2 fun z H3=>∃ dx' fs',H3 a=some (.ins C dx' fs')∧fs'.length<1000∧D.nx σ (upd H3 a (.ins C dx' (nC f z fs')))
section
variable {X:Cx} {o e value:Expr} {f:Str} {pos pos' tpos:Pos} {ta tv:TE}
theorem cV (he:PE X e ta) (hb:attributeBase e f X.env (eval e X.env)=eval e X.env):PE X (.Attribute e f pos) (tFld X.K ta f):=by
  intro pins s σ H Q I h
  refine Ge hb (thn (he pins s σ H _ I h) fun u s1 ⟨x,H1,I1,rx,a,C,dx,fs,v,ex,ea,c,n,l,q⟩=>?_)
  subst ex
  obtain rfl:u=Value.ref a:=rx
  exact mz I1 ea c n l fun u' s2 I2 ru=>⟨v,H1,I2,ru,q⟩
theorem ou (ha:PE X o ta) (hv:PE X value tv) (hs:swapsWith value (some (.Attribute o f pos')) pos.line X.env=pure false):PS X (.Assign [.Attribute o f pos'] value pos) (sFld X.K ta tv f):=by
  intro pins s σ H D I h
  refine plainObj_wpAny_Assign_Attribute (thn (hv pins s σ H _ I h) fun u s1 ⟨y,H1,I1,ry,q⟩=>thn (ha pins s1 σ H1 _ I1 q) fun ov s2 ⟨x,H2,I2,rx,a,C,dx,fs,ex,ea,c,n,l,q2⟩=>?_) hs
  subst ex
  obtain rfl:ov=Value.ref a:=rx
  exact lU I2 ea c n l ry fun s3 I3=>⟨σ,_,I3,q2⟩
theorem tG {op:Operator} {rd:V→V→Hp→VK→Prop} (ha:PE X o ta) (hv:PE X value tv) (hop:QB X op rd):PS X (.AugAssign (.Attribute o f tpos) op value pos) (Fj X.K ta tv rd f):=by
  intro pins s σ H D I h
  refine wpAny_AugAssign_AttributeAny (thn (ha pins s σ H _ I h) fun ov s1 ⟨x,H1,I1,rx,a,C,dx,fs,v,ex,ea,c,n,l,q⟩=>?_)
  subst ex
  obtain rfl:ov=Value.ref a:=rx
  refine mz I1 ea c n l fun u s2 I2 ru=>thn (hv pins s2 σ H1 _ I2 q) fun w3 s3 ⟨y,H2,I3,ry,q3⟩=>thn (hop pins s3 σ H2 v y u w3 _ I3 ru ry q3) fun w4 s4 ⟨z,H3,I4,rz,dx',fs',ea',l',q4⟩=>?_
  exact lU I4 ea' c n l' rz fun s5 I5=>⟨σ,_,I5,q4⟩
def rAdd:V→V→Hp→VK→Prop:=fun x y H Q=>∃ i j,x=.int i∧y=.int j∧Q (.int (i + j)) H
theorem Hw:QB X .Add rAdd:=by
  rintro pins s σ H x y u v Q I rx ry ⟨i,j,rfl,rfl,q⟩
  obtain ⟨t,rfl⟩:=(show ∃ t,u=Value.int i t from rx)
  obtain ⟨t',rfl⟩:=(show ∃ t',v=Value.int j t' from ry)
  exact PyProof.Rows.iadd_int ⟨.int (i + j),H,I.tok _,⟨_,rfl⟩,q⟩
end
section
variable {X:Cx} {pins:List (Addr × Obj)} {σ:St} {H:Hp} {s:Shared} {A:Around} {E:Value→Shared→Prop} {Q:Value→Shared→Prop} {c:Value} {b:Bool}
inductive qd (K:PySem.W.Frag) (H:Hp):V→Value→Prop where
  | non:qd K H .non (.type "NoneType")
  | bl (x:Bool):qd K H (.bl x) (.type "bool")
  | int (i:Int):qd K H (.int i) (.type "int")
  | str (x:Str):qd K H (.str x) (.type "str")
  | flt (x:UInt64):qd K H (.flt x) (.type "float")
  | lst {a:Addr} {xs:List V} (e:H a=some (.lst xs)):qd K H (.ref a) (.type "list")
  | frz {a:Addr} {o:Obj} {xs:List V} (e:H a=some (.frz o (.lst xs))):qd K H (.ref a) (.type "list")
  | tup {a:Addr} {xs:List V} (e:H a=some (.tup xs)):qd K H (.ref a) (.type "tuple")
  | dK {a:Addr} {kvs:List (Key × V)} (e:H a=some (.dK kvs)):qd K H (.ref a) (.type "dict")
  | dT {a:Addr} {kvs:List (List Key × V)} (e:H a=some (.dT kvs)):qd K H (.ref a) (.type "dict")
  | ins {a C dx:Addr} {fs:List (Str × V)} (e:H a=some (.ins C dx fs)) (cl:Cls K C) (ha:PySem.W.findIn K (.ref C) "__class__"=some (some (.builtin "object.__class__")))
      (hn:PySem.W.specialIn K (.builtin "object.__class__") "__get__"=some (some (.builtin "getset_descriptor.__get__"))) (htk:PySem.W.takesIn K (.builtin "object.__class__")=some true)
      (hm:PySem.W.mroIn K C (.type "object")=some true):qd K H (.ref a) (.ref C)
theorem uF {x:V} {u t:Value} (I:Inv X pins σ H s) (rx:RelV x u) (ty:qd X.K H x t) (e:PySem.W.kitOne X.K t c=some b) (h:∀ tk,Q (.bool b) { s with toks:=tk }) :
    wpAny (model X.prog X.w) A (call (.builtin "isinstance") [u,c]) Q E s:=by
  cases ty with
  | non=>cases (show u=Value.none from rx);exact PySem.W.kia_one PySem.W.kitx_none I.kIn True.intro e (fun z=>nomatch z) h
  | bl y=>cases (show u=Value.bool y from rx);exact PySem.W.kia_one PySem.W.kitx_bool I.kIn True.intro e (fun z=>nomatch z) h
  | int i=>obtain ⟨t,q⟩:=(show ∃ t,u=Value.int i t from rx);cases q;exact PySem.W.kia_one PySem.W.kitx_int I.kIn True.intro e (fun z=>nomatch z) h
  | str y=>obtain ⟨t,q⟩:=(show ∃ t,u=Value.str y t from rx);cases q;exact PySem.W.kia_one PySem.W.kitx_str I.kIn True.intro e (fun z=>nomatch z) h
  | flt y=>obtain ⟨t,q⟩:=(show ∃ t,u=Value.float y t from rx);cases q;exact PySem.W.kia_one PySem.W.kitx_float I.kIn True.intro e (fun z=>nomatch z) h
  | @lst a xs ea =>
    cases (show u=Value.ref a from rx)
    obtain ⟨_,_,n,_,h1⟩:=(show fV X.prog X.w H s.heap a (.lst xs) from I.hok a _ ea)
    exact PySem.W.kia_one PySem.W.kitx_list I.kIn ⟨_,h1,rfl⟩ e (fun z=>nomatch z) h
  | @frz a ob xs ea =>
    cases (show u=Value.ref a from rx)
    obtain ⟨_,_,_,n,_,h1⟩:=(show fV X.prog X.w H s.heap a (.frz ob (.lst xs)) from I.hok a _ ea)
    exact PySem.W.kia_one PySem.W.kitx_list I.kIn ⟨_,h1,rfl⟩ e (fun z=>nomatch z) h
  | @tup a xs ea =>
    cases (show u=Value.ref a from rx)
    obtain ⟨_,_,_,p⟩:=(show fV X.prog X.w H s.heap a (.tup xs) from I.hok a _ ea)
    obtain ⟨o,h1,h2,_⟩:=p
    exact PySem.W.kia_one PySem.W.kitx_tuple I.kIn ⟨o,h1,h2⟩ e (fun z=>nomatch z) h
  | @dK a kvs ea =>
    cases (show u=Value.ref a from rx)
    obtain ⟨_,_,vs,_,p⟩:=(show fV X.prog X.w H s.heap a (.dK kvs) from I.hok a _ ea)
    obtain ⟨o,es,ep,h1,h2,_⟩:=p
    exact PySem.W.kia_one PySem.W.kitx_dict I.kIn ⟨o,h1,h2.1⟩ e (fun z=>nomatch z) h
  | @dT a kvs ea =>
    cases (show u=Value.ref a from rx)
    obtain ⟨_,_,xs,_,o,es,ep,h1,h2,_⟩:=(show fV X.prog X.w H s.heap a (.dT kvs) from I.hok a _ ea)
    exact PySem.W.kia_one PySem.W.kitx_dict I.kIn ⟨o,h1,h2.1⟩ e (fun z=>nomatch z) h
  | @ins a C dx fs ea cl ha hn htk hm =>
    cases (show u=Value.ref a from rx)
    obtain ⟨mA,O,_⟩:=ni I.hok ea
    obtain ⟨od,J,_⟩:=O.look
    exact PySem.W.kia_one (PySem.W.kitx_own (cl.get _) cl.hd ha hn htk hm) I.kIn J e (fun z=>nomatch z) h
end
end L2
namespace L2
open PySem PySem.Spec PyProof.Rows
structure jK (k:Nat) (A:Around):Prop where
  hd:A.handled=none
  dp:A.depth + 3 * k + 5<recursionLimit
  un:A.units + 16 * k + 200<cLine
theorem jK.mono {j k:Nat} {A:Around} (r:jK k A) (h:j≤k):jK j A:=⟨r.hd,by have:=r.dp;omega,by have:=r.un;omega⟩
theorem jK.deeper {k:Nat} {A:Around} (r:jK (k + 1) A) (env:Env):jK k (A.deeper env) :=
  ⟨r.hd,by have:=r.dp;show A.depth + 1 + 3 * k + 5<_;omega,by have:=r.un;show A.units + 3 + 16 * k + 200<_;omega⟩
theorem rN {A:Around} {C:Addr} {us:List Value} {kw:List (Str × Value)}:(A.under (.builtin "type.__call__" ⟨.ref C :: us,kw⟩)).depth=A.depth + 1:=by
  first | rfl | simp [Around.under,Code.weight,Code.isCreation,Code.isGuard,Code.isCaller,Code.frames,Code.isFrame,guardIds]
theorem rM {A:Around} {C:Addr} {us:List Value} {kw:List (Str × Value)}:(A.under (.builtin "type.__call__" ⟨.ref C :: us,kw⟩)).units=A.units + 1:=by
  first | rfl | simp [Around.under,Code.cUnits,Code.frames,Code.isFrame]
theorem jK.make {k:Nat} {A:Around} (r:jK (k + 1) A) (C:Addr) (us:List Value) (kw:List (Str × Value)):jK k (A.under (.builtin "type.__call__" ⟨.ref C :: us,kw⟩)) :=
  ⟨r.hd,by have:=r.dp;rw [rN];omega,by have:=r.un;rw [rM];omega⟩
theorem jK.depth {k:Nat} {A:Around} (r:jK k A):A.depth<recursionLimit:=by have:=r.dp;omega
theorem jK.units {k:Nat} {A:Around} (r:jK k A):A.units + 64<cLine:=by have:=r.un;omega
def Qh:TA:=fun _ H Q=>Q [] H
def Nj (ta:TE) (tr:TA):TA:=fun σ H Q=>ta σ H fun x H1=>tr σ H1 fun xs H2=>Q (x :: xs) H2
section
variable {X:Cx} {e:Expr} {es:List Expr} {te:TE} {t:TA} {pos:Pos}
theorem aA:PA X [] Qh:=fun _ _ _ _ H Q I h=>Calls.spliced_nil ⟨[],H,I,.nil,h⟩
theorem aj (ha:PE X e te) (hr:PA X es t) (hs:starEach (e :: es) X.env=(false,eval e X.env) :: starEach es X.env:=by rfl):PA X (e :: es) (Nj te t):=by
  intro pos pins s σ H Q I h
  rw [hs]
  show wpAny _ _ (spliced ((false,eval e X.env) :: backTo pos (starEach es X.env))) _ _ s
  refine Calls.spliced_cons (thn (ha pins s σ H _ I h) fun u s1 ⟨x,H1,I1,r1,q1⟩=>?_)
  exact thn (hr pos pins s1 σ H1 _ I1 q1) fun us s2 ⟨xs,H2,I2,r2,q2⟩=>⟨x :: xs,H2,I2,.cons r1 r2,q2⟩
def tTup (t:TA):TE:=fun σ H Q=>t σ H fun xs H1=>xs.length≤sizeLine∧∀ p,H1 p=none→Q (.ref p) (upd H1 p (.tup xs))
def tLst (t:TA):TE:=fun σ H Q=>t σ H fun xs H1=>xs.length≤sizeLine∧∀ p,H1 p=none→Q (.ref p) (upd H1 p (.lst xs))
theorem gY {x1} (h:PA X es t):PE X (.Tuple es x1 pos) (tTup t):=by
  intro pins s σ H Q I hq
  refine wpAny_Tuple_spliced (thn (h pos pins s σ H _ I hq) fun us s1 ⟨xs,H1,I1,r,z,q⟩=>⟨by rw [← r.length];exact z,?_⟩)
  have hf:H1 s1.heap.objs.size=none:=I1.hok.fresh (Nat.le_refl _)
  refine ⟨.ref s1.heap.objs.size,upd H1 s1.heap.objs.size (.tup xs),I1.laid (t':=s1.toks) (fun b u e=>Heap.get?_push_of_some _ e) (Nat.le_refl _) ?_,rfl,q _ hf⟩
  exact ⟨z,us,r,⟨_,Heap.get?_push_size _ rfl,rfl,_,rfl⟩⟩
theorem gZ (h:PA X es t):PE X (.List es pos) (tLst t):=by
  intro pins s σ H Q I hq
  refine wpAny_List_spliced (thn (h pos pins s σ H _ I hq) fun us s1 ⟨xs,H1,I1,r,z,q⟩=>⟨by rw [← r.length];exact z,?_⟩)
  have hf:H1 s1.heap.objs.size=none:=I1.hok.fresh (Nat.le_refl _)
  refine ⟨.ref s1.heap.objs.size,upd H1 s1.heap.objs.size (.lst xs),I1.laid (t':=s1.toks) (fun b u e=>Heap.get?_push_of_some _ e) (Nat.le_refl _) ?_,rfl,q _ hf⟩
  exact ⟨z,us,0,r,Heap.get?_push_size _ rfl⟩
end
abbrev Sp:=List V→Hp→VK→XK→Prop
abbrev CXT:=List Env→Hp→Shared→XK→Value→Shared→Prop
structure Gi (P:Program) (w:World) (K:PySem.W.Frag) (mg:Str→Option Value) (base:Heap) (A:Around) (outer:List Env) (s:Shared) (H:Hp):Prop where
  frames:A.frames=some outer
  mod:Mod K mg base
  bs:∀ b o,base.get? b=some o→s.heap.get? b=some o∧H b=none
  bsz:base.objs.size≤s.heap.objs.size
  qO:s.heap.FunFrames base outer
  frf:∀ b∈frs outer,H b=none
  hok:HOk P w H s.heap
  bare:AllBare s.gens
def CE (outer:List Env) (P:Program) (w:World) (H:Hp) (s:Shared) (Q:VK) (u:Value) (s':Shared):Prop :=
  ∃ v H',s'.os=s.os∧AllBare s'.gens∧Un (frs outer) [] H H' s.heap s'.heap∧HOk P w H' s'.heap∧RelV v u∧Q v H'
def CR (CX:CXT) (outer:List Env) (P:Program) (w:World) (H:Hp) (s:Shared) (Q:VK) (E:XK) (r:Result) (s':Shared):Prop :=
  match r with
  | .ok (.ret u)=>CE outer P w H s Q u s'
  | .ok _=>False
  | .error e=>CX outer H s E e s'
structure bT (P:Program) (w:World) (K:PySem.W.Frag) (mg:Str→Option Value) (base:Heap) (CX:CXT) (k:Nat) (f:Addr) (fd:FuncData) (ps:List Str) (sp:Sp):Prop where
  len:∀ vs H Q E,sp vs H Q E→vs.length=ps.length
  run:∀ (A:Around) (outer:List Env) (s:Shared) (H:Hp) (args:Args) (us:List Value) (vs:List V) (Q:VK) (E:XK),jK k A→Gi P w K mg base A outer s H→BindsTo s fd args (ps.zip us)→Vals vs us→sp vs H Q E →
    codeAny (model P w) A (.call (.ref f) args) (CR CX outer P w H s Q E) s
theorem Gi.make {P:Program} {w:World} {K:PySem.W.Frag} {mg:Str→Option Value} {base:Heap} {A:Around} {outer:List Env} {s:Shared} {H:Hp} (e:Gi P w K mg base A outer s H) (C:Addr) (us:List Value) (kw:List (Str × Value)) :
    Gi P w K mg base (A.under (.builtin "type.__call__" ⟨.ref C :: us,kw⟩)) outer s H:=⟨by first | exact e.frames | (simpa [Around.under,Code.envs,Code.isFrame,pushEnvs] using e.frames),e.mod,e.bs,e.bsz,e.qO,e.frf,e.hok,e.bare⟩
section
variable {X:Cx} {pins:List (Addr × Obj)} {σ:St} {H:Hp} {s s':Shared}
theorem Inv.env0 (I:Inv X pins σ H s):Gi X.prog X.w X.K X.mg X.base X.A X.stack s H :=
  ⟨I.ok.frames,I.ok.mod,I.bs,Nat.le_trans I.ok.bsz I.sz,I.stack,I.pq,I.hok,I.bare⟩
theorem Inv.after {Q:VK} {u:Value} (I:Inv X pins σ H s) (h:CE X.stack X.prog X.w H s Q u s'):EP X pins σ Q u s':=by
  obtain ⟨v,H',os,bare,un,hok,r,q⟩:=h
  obtain ⟨hh,g,d,t,os'⟩:=s'
  obtain rfl:os'=s.os:=os
  exact ⟨v,H',I.call (h':=hh) (g':=g) (d':=d) (t':=t) (ch:=[]) un hok bare (fun b z=>absurd z (by simp)),r,q⟩
end
def Nk (sp:Sp) (dvs:List V) (E:XK) (t:TA):TE:=fun σ H Q=>t σ H fun vs H1=>sp (vs++dvs) H1 Q E
def Gx (C:Addr) (m:Str) (sp:Sp) (dvs:List V) (E:XK) (ta:TE) (t:TA):TE:=fun σ H Q=>ta σ H fun x H1=>∃ a dx fs,x=.ref a∧H1 a=some (.ins C dx fs)∧fs.lookup m=none ∧
  t σ H1 fun vs H2=>sp (x :: (vs++dvs)) H2 Q E
def Nh (C:Addr) (sp:Sp) (dvs:List V) (E:XK) (t:TA):TE:=fun σ H Q=>t σ H fun vs H1=>∀ x dx,H1 x=none→H1 dx=none→dx≠x →
  sp (.ref x :: (vs++dvs)) (upd (upd H1 dx (.own x)) x (.ins C dx [])) (fun v H2=>v=.non∧Q (.ref x) H2) E
def Binds (K:PySem.W.Frag) (fd:FuncData) (ps:List Str) (ds:List Value):Prop :=
  ∀ (s:Shared) (us:List Value),K.In s.heap→(us++ds).length=ps.length→BindsTo s fd ⟨us,[]⟩ (ps.zip (us++ds))
theorem Binds.all {K:PySem.W.Frag} {fd:FuncData} {ps:List Str} (h:∀ us:List Value,us.length=ps.length→bindArgs fd ⟨us,[]⟩=pure (ps.zip us)):Binds K fd ps []:=fun s us _ hl=>by
  rw [List.append_nil] at hl ⊢
  exact .of_eq (h us hl)
def Passes (CX:CXT) (X:Cx) (E:XK):Prop:=∀ (pins:List (Addr × Obj)) (σ:St) (H:Hp) (s:Shared) (e:Value) (s':Shared),Inv X pins σ H s→CX X.stack H s E e s'→X.xe e s'
section
variable {X:Cx} {CX:CXT} {k:Nat} {f C:Addr} {fd:FuncData} {ps:List Str} {sp:Sp} {dvs:List V} {ds:List Value} {E:XK} {x m:Str} {p pos apos:Pos} {e o:Expr} {es:List Expr} {ta:TE} {t:TA}
theorem sW {pins:List (Addr × Obj)} {σ:St} {H:Hp} {s:Shared} {Q:VK} {us:List Value} {vs:List V} (F:bT X.prog X.w X.K X.mg X.base CX k f fd ps sp) (hr:jK k X.A) (hb:Binds X.K fd ps ds) (hd:Vals dvs ds) (hx:Passes CX X E)
    (I:Inv X pins σ H s) (r:Vals vs us) (h:sp (vs++dvs) H Q E):wpAny (model X.prog X.w) X.A (call (.ref f) us) (EP X pins σ Q) X.xe s:=by
  have r2:Vals (vs++dvs) (us++ds):=r.append hd
  have hl:(us++ds).length=ps.length:=by rw [← r2.length];exact F.len _ _ _ _ h
  refine wpAny_call (codeAny_mono (F.run X.A X.stack s H ⟨us,[]⟩ (us++ds) (vs++dvs) Q E hr I.env0 (hb s us I.kIn hl) r2 h) fun r s' hq=>?_)
  cases r with
  | error e=>exact hx pins σ H s e s' I hq
  | ok fl =>
    cases fl with
    | ret u=>exact I.after hq
    | next=>exact False.elim hq
    | brk=>exact False.elim hq
    | cont=>exact False.elim hq
theorem aR (F:bT X.prog X.w X.K X.mg X.base CX k f fd ps sp) (hr:jK k X.A) (hg:Gl X x) (hm:X.mg x=some (.ref f)) (hk:PySem.W.keepIn X.K (.ref f)=true) (hb:Binds X.K fd ps ds) (hd:Vals dvs ds) (hx:Passes CX X E)
    (ha:PA X (e :: es) t) (hdb:(x == ("__debug__":Str))=false:=by decide) (he:starEach (e :: es) X.env=(false,eval e X.env) :: starEach es X.env:=by rfl) (hpl:(backTo pos (starEach es X.env)).any (·.1)=false:=by rfl) :
    PE X (.Call (.Name x p) (e :: es) [] pos) (Nk sp dvs E t):=by
  intro pins s σ H Q I h
  refine wpAny_Call_Name_kw (lu I hg hm ?_ hdb)
  refine PySem.W.callWith_K (h₀:=X.base) I.ok.mod.kin hk (thn (ha pos pins s σ H _ I h) fun us s1 ⟨vs,H1,I1,r,q⟩=>⟨I1.kIn,?_⟩) he hpl
  exact sW F hr hb hd hx I1 r q
theorem fJ {pl:Sem Bool} (he:PE X o ta) (c:Cls X.K C) (hm:Meth X.K C m f) (F:bT X.prog X.w X.K X.mg X.base CX k f fd ps sp) (hr:jK k X.A) (hb:Binds X.K fd ps ds) (hd:Vals dvs ds) (hx:Passes CX X E) (ha:PA X (e :: es) t)
    (hst:starEach (e :: es) X.env=(false,eval e X.env) :: starEach es X.env:=by rfl) (hpl:(backTo pos (starEach es X.env)).any (·.1)=false:=by rfl)
    (ht:eval (.Call (.Attribute o m apos) (e :: es) [] pos) X.env=(do
      let ov ← eval o X.env
      standAt apos.atName
      let (f,first) ← holding [ov] (getMethod ov m pl)
      callWith pos f first (backTo pos (starEach (e :: es) X.env)) (backToKw pos (keywordEach [] X.env))):=by rfl) :
    PE X (.Call (.Attribute o m apos) (e :: es) [] pos) (Gx C m sp dvs E ta t):=by
  intro pins s σ H Q I h
  refine PySem.W.methodCall_KW (pl:=pl) (thn (he pins s σ H _ I h) fun u s1 ⟨x,H1,I1,rx,a,dx,fs,ex,ea,l,q⟩=>?_) ht
  subst ex
  obtain rfl:u=Value.ref a:=rx
  refine jH I1 ea c hm l ?_
  refine PySem.W.callWith_K (first:=[.ref a]) (h₀:=X.base) I.ok.mod.kin hm.kp (thn (ha pos pins s1 σ H1 _ I1 q) fun us s2 ⟨vs,H2,I2,r,q2⟩=>⟨I2.kIn,?_⟩) hst hpl
  exact sW (us:=.ref a :: us) (vs:=.ref a :: vs) F hr hb hd hx I2 (.cons rfl r) q2
theorem fj {pl:Sem Bool} (he:PE X o ta) (c:Cls X.K C) (hm:Meth X.K C m f) (F:bT X.prog X.w X.K X.mg X.base CX k f fd ps sp) (hr:jK k X.A) (hb:Binds X.K fd ps ds) (hd:Vals dvs ds) (hx:Passes CX X E)
    (ht:eval (.Call (.Attribute o m apos) [] [] pos) X.env=(do
      let ov ← eval o X.env
      standAt apos.atName
      let (f,first) ← holding [ov] (getMethod ov m pl)
      callWith pos f first (backTo pos (starEach [] X.env)) (backToKw pos (keywordEach [] X.env))):=by rfl) :
    PE X (.Call (.Attribute o m apos) [] [] pos) (Gx C m sp dvs E ta Qh):=by
  intro pins s σ H Q I h
  refine PySem.W.methodCall_KW (pl:=pl) (thn (he pins s σ H _ I h) fun u s1 ⟨x,H1,I1,rx,a,dx,fs,ex,ea,l,q⟩=>?_) ht
  subst ex
  obtain rfl:u=Value.ref a:=rx
  refine jH I1 ea c hm l ?_
  exact PySem.W.callWith_K0 (first:=[.ref a]) I1.kIn hm.kp (sW (us:=[.ref a]) (vs:=[.ref a]) F hr hb hd hx I1 (.cons rfl .nil) q)
structure Mk (K:PySem.W.Frag) (C f:Addr):Prop where
  makes:PySem.W.makesIn K C=true
  init:PySem.W.findIn K (.ref C) "__init__"=some (some (.ref f))
  fn:PySem.W.isFn K (.ref f)=true
  kp:PySem.W.keepIn K (.ref C)=true
theorem vC {pins:List (Addr × Obj)} {σ:St} {H:Hp} {s:Shared} {Q:VK} {us:List Value} {vs:List V} (M:Mk X.K C f) (F:bT X.prog X.w X.K X.mg X.base CX k f fd ps sp) (hr:jK (k + 1) X.A) (hb:Binds X.K fd ps ds) (hd:Vals dvs ds)
    (hx:Passes CX X E) (I:Inv X pins σ H s) (r:Vals vs us)
    (h:∀ x dx,H x=none→H dx=none→dx≠x→sp (.ref x :: (vs++dvs)) (upd (upd H dx (.own x)) x (.ins C dx [])) (fun v H2=>v=.non∧Q (.ref x) H2) E) :
    wpAny (model X.prog X.w) X.A (call (.ref C) us) (EP X pins σ Q) X.xe s:=by
  have hq:=h (s.heap.objs.size + 1) s.heap.objs.size (I.hok.fresh (Nat.le_succ _)) (I.hok.fresh (Nat.le_refl _)) (Nat.ne_of_lt (Nat.lt_succ_self _))
  have I2:=Inv.made (C:=C) I
  have r2:Vals (V.ref (s.heap.objs.size + 1) :: (vs++dvs)) (Value.ref (s.heap.objs.size + 1) :: (us++ds)):=.cons rfl (r.append hd)
  have hl:(Value.ref (s.heap.objs.size + 1) :: us++ds).length=ps.length:=by
    have e:=r2.length
    rw [F.len _ _ _ _ hq] at e
    exact e.symm
  refine wpAny_call (wu (f:=f) I.kIn M.makes M.init (beq_iff_eq.mp M.fn) (codeAny_mono (F.run _ X.stack _ _ ⟨Value.ref (s.heap.objs.size + 1) :: us,[]⟩ (Value.ref (s.heap.objs.size + 1) :: (us++ds)) _ _ E (hr.make C us [])
    (I2.env0.make C us []) (hb _ (Value.ref (s.heap.objs.size + 1) :: us) I2.kIn hl) r2 hq) fun r s' hq'=>?_))
  cases r with
  | error e=>exact hx pins σ _ _ e s' I2 hq'
  | ok fl =>
    cases fl with
    | ret u =>
      obtain ⟨v,H',I3,rv,ev,q3⟩:=I2.after hq'
      subst ev
      exact ⟨rv,⟨V.ref (s.heap.objs.size + 1),H',I3,rfl,q3⟩⟩
    | next=>exact False.elim hq'
    | brk=>exact False.elim hq'
    | cont=>exact False.elim hq'
theorem Ft (M:Mk X.K C f) (F:bT X.prog X.w X.K X.mg X.base CX k f fd ps sp) (hr:jK (k + 1) X.A) (hg:Gl X x) (hm:X.mg x=some (.ref C)) (hb:Binds X.K fd ps ds) (hd:Vals dvs ds) (hx:Passes CX X E)
    (ha:PA X (e :: es) t) (hdb:(x == ("__debug__":Str))=false:=by decide) (he:starEach (e :: es) X.env=(false,eval e X.env) :: starEach es X.env:=by rfl) (hpl:(backTo pos (starEach es X.env)).any (·.1)=false:=by rfl) :
    PE X (.Call (.Name x p) (e :: es) [] pos) (Nh C sp dvs E t):=by
  intro pins s σ H Q I h
  refine wpAny_Call_Name_kw (lu I hg hm ?_ hdb)
  refine PySem.W.callWith_K (h₀:=X.base) I.ok.mod.kin M.kp (thn (ha pos pins s σ H _ I h) fun us s1 ⟨vs,H1,I1,r,q⟩=>⟨I1.kIn,?_⟩) he hpl
  exact vC M F hr hb hd hx I1 r q
end
structure aH (N P:List Str) (sc:Scope):Prop where
  kind:sc.kind=.function
  co:sc.isCoroutine=false
  gen:sc.isGenerator=false
  nd:N.Nodup
  pre:N.take P.length=P
  par:∀ x∈P,sc.names.lookup x=some .local∨sc.names.lookup x=some .cell
  nofree:∀ y∈sc.names,y.2≠.free
theorem oV {kindOf:Str→Option NameKind} {x:Str}:∀ {binds:List (Str × Value)} {m:Str→Option Value},(∀ v,(x,v) ∉ binds)→bindL kindOf binds m x=m x
  | [],_,_=>rfl
  | (n,v) :: r,m,h=>by
    unfold bindL
    rw [oV fun w hw=>h w (List.mem_cons_of_mem _ hw)]
    split
    · have:x≠n:=by rintro rfl;exact h v List.mem_cons_self
      simp [this]
    · rfl
theorem oX {kindOf:Str→Option NameKind} {x:Str}:∀ {binds:List (Str × Value)} {m:Str→Option Value},(∀ v,(x,v) ∉ binds)→bindC kindOf binds m x=m x
  | [],_,_=>rfl
  | (n,v) :: r,m,h=>by
    unfold bindC
    rw [oX fun w hw=>h w (List.mem_cons_of_mem _ hw)]
    split
    · rfl
    · have:x≠n:=by rintro rfl;exact h v List.mem_cons_self
      simp [this]
theorem oW {kindOf:Str→Option NameKind} {x:Str} {v:Value}:∀ {P:List Str} {vs:List Value} {i:Nat} {m:Str→Option Value},P.Nodup→P[i]?=some x→vs[i]?=some v→kindOf x=some .local →
    bindL kindOf (P.zip vs) m x=some v
  | [],_,_,_,_,h,_,_=>by simp at h
  | _ :: _,[],_,_,_,_,h,_=>by simp at h
  | p :: P,w :: vs,0,m,nd,h1,h2,hk=>by
    simp at h1 h2;subst h1;subst h2
    show bindL kindOf ((p,w) :: P.zip vs) m p=_
    unfold bindL
    rw [oV fun v hv=>(List.nodup_cons.mp nd).1 (List.of_mem_zip hv).1,if_pos hk]
    simp
  | p :: P,w :: vs,i + 1,m,nd,h1,h2,hk=>by
    show bindL kindOf ((p,w) :: P.zip vs) m x=_
    unfold bindL
    exact oW (i:=i) (List.nodup_cons.mp nd).2 (by simpa using h1) (by simpa using h2) hk
theorem oY {kindOf:Str→Option NameKind} {x:Str} {v:Value}:∀ {P:List Str} {vs:List Value} {i:Nat} {m:Str→Option Value},P.Nodup→P[i]?=some x→vs[i]?=some v→kindOf x≠some .local →
    bindC kindOf (P.zip vs) m x=some v
  | [],_,_,_,_,h,_,_=>by simp at h
  | _ :: _,[],_,_,_,_,h,_=>by simp at h
  | p :: P,w :: vs,0,m,nd,h1,h2,hk=>by
    simp at h1 h2;subst h1;subst h2
    show bindC kindOf ((p,w) :: P.zip vs) m p=_
    unfold bindC
    rw [oX fun v hv=>(List.nodup_cons.mp nd).1 (List.of_mem_zip hv).1,if_neg hk]
    simp
  | p :: P,w :: vs,i + 1,m,nd,h1,h2,hk=>by
    show bindC kindOf ((p,w) :: P.zip vs) m x=_
    unfold bindC
    exact oY (i:=i) (List.nodup_cons.mp nd).2 (by simpa using h1) (by simpa using h2) hk
def start (N:List Str) (vs:List V):St:=vs.map some++List.replicate (N.length - vs.length) none
def vf (CX:CXT) (P:Program) (w:World) (K:PySem.W.Frag) (mg:Str→Option Value) (base:Heap) (N:List Str) (qual:Str) (scope:Scope) (f:Addr) (cd:Value) (A:Around) (outer:List Env) (s:Shared) (H:Hp) (E:XK):Cx where
  prog:=P
  w:=w
  K:=K
  mg:=mg
  base:=base
  A:=A.deeper (envOfC qual scope s.heap.objs.size f cd)
  N:=N
  s₀:=s
  H₀:=H
  env:=envOfC qual scope s.heap.objs.size f cd
  outer:=outer
  stack:=envOfC qual scope s.heap.objs.size f cd :: outer
  ex:=[]
  calm:=true
  fn:=fun _=>true
  pn:=[]
  xe:=fun e s'=>wpAny (model P w) (A.deeper (envOfC qual scope s.heap.objs.size f cd)) (leaving (envOfC qual scope s.heap.objs.size f cd) e) (fun _ s''=>CX outer H s E e s'') (fun e' s''=>CX outer H s E e' s'') s'
theorem qX {sc:Scope} {n:Nat} {x:Str} (h:sc.names.lookup x=some .cell):∃ c,(cellsFrom n sc.names []).lookup x=some c:=by
  have q:=PySem.W.cellsFrom_some sc.names n [] (.inl h)
  exact Option.isSome_iff_exists.mp q
theorem uG {CX:CXT} {P:Program} {w:World} {K:PySem.W.Frag} {mg:Str→Option Value} {base:Heap} {N ps:List Str} {qual:Str} {scope:Scope} {f:Addr} {cd:Value} {A:Around} {outer:List Env} {s s1:Shared} {H:Hp} {E:XK} {us:List Value} {vs:List V}
    (S:aH N ps scope) (hd:A.handled=none) (e0:Gi P w K mg base A outer s H) (hl:vs.length=ps.length) (r:Vals vs us)
    (x:InCallC s s.heap.objs.size (bindL (envOfC qual scope s.heap.objs.size f cd).kindOf (ps.zip us) fun _=>none) (cellsFrom (s.heap.objs.size + 1) scope.names []) (bindC (envOfC qual scope s.heap.objs.size f cd).kindOf (ps.zip us) fun _=>none) s1) :
    Inv (vf CX P w K mg base N qual scope f cd A outer s H E) [] (start N vs) H s1:=by
  have hpl:ps.length≤N.length:=by have:=congrArg List.length S.pre;rw [List.length_take] at this;omega
  obtain ⟨h1,tk,rfl,hk⟩:=x.done
  have noA:∀ b:Addr,b ∉ (vf CX P w K mg base N qual scope f cd A outer s H E).ex:=fun b z=>absurd (show b∈([]:List Addr) from z) (by simp)
  refine ⟨⟨e0.mod,S.kind,rfl,rfl,Nat.le_refl _,fun y z c h1 h2=>?_,fun y hy=>?_,fun y c _ h=>?_,fun _=>hd,Around.frames_deeper e0.frames,.inr ⟨rfl,rfl⟩,fun b z=>absurd z (noA b),e0.bs,e0.bsz,fun b _ _=>noA b,fun b z=>absurd z (noA b),e0.qO,e0.frf⟩,
    rfl,e0.bare,Un.kept hk,⟨_,x.toInCall.ns,fun i y v h1 h2 h3=>?_⟩,fun y c h=>⟨_,x.cell y c h⟩,e0.hok.fresh (Nat.le_refl _),fun y c h=>?_,fun p hp=>absurd (show p∈([]:List (Addr × Obj)) from hp) (by simp),e0.hok.kept hk,?_⟩
  · exact name_of_addr x.apart (PySem.mem_of_lookup h1) (PySem.mem_of_lookup h2)
  · have hy:scope.names.lookup y=some .cell∨scope.names.lookup y=some .free:=hy
    rcases hy with hy | hy
    · exact qX hy
    · exact absurd rfl (S.nofree _ (PySem.mem_of_lookup hy))
  · exact Nat.le_of_lt (x.above y c (PySem.mem_of_lookup h))
  · have hi:i<vs.length:=by
      unfold start at h2
      by_cases hi:i<vs.length
      · exact hi
      · rw [List.getElem?_append_right (by simpa using hi)] at h2
        rw [List.getElem?_replicate] at h2
        split at h2 <;> cases h2
    have ha:vs[i]?=some v:=by
      unfold start at h2
      rw [List.getElem?_append_left (by simpa using hi),List.getElem?_map] at h2
      cases e:vs[i]? with
      | none=>rw [e] at h2;cases h2
      | some a=>rw [e] at h2;cases h2;rfl
    obtain ⟨u,hu,rv⟩:=r.get ha
    have hp:ps[i]?=some y:=by
      rw [← S.pre,List.getElem?_take_of_lt (by omega)];exact h1
    have ndP:ps.Nodup:=by rw [← S.pre];exact S.nd.sublist (List.take_sublist _ _)
    refine ⟨u,rv,?_⟩
    rcases S.par y (List.mem_of_getElem? hp) with k | k
    · exact .inl ⟨k,oW ndP hp hu k⟩
    · obtain ⟨c,e⟩:=qX (n:=s.heap.objs.size + 1) k
      refine .inr ⟨.inl k,c,e,?_⟩
      have q:=x.cell y c e
      rw [oY ndP hp hu (by show scope.names.lookup y≠_;rw [k];decide)] at q
      exact q
  · exact e0.hok.fresh (Nat.le_of_lt (x.above y c (PySem.mem_of_lookup h)))
  · unfold start
    show _=N.length
    rw [List.length_append,List.length_map,List.length_replicate]
    omega
theorem FT {CX:CXT} {P:Program} {w:World} {K:PySem.W.Frag} {mg:Str→Option Value} {base:Heap} {k:Nat} {f:Addr} {name qual:Str} {params:Arguments} {body:List Stmt} {scope:Scope} {dV kV doc pm cdv ct oc:Value} {an od:Option Addr}
    {osl:Array (Option Value)} {N ps:List Str} {sp:Sp} (lk:K.lookup f=some ⟨oc,od,.func (PySem.W.fnOf name qual params body scope dV kV doc pm an cdv ct),osl⟩) (hcd:PySem.W.codeIn K cdv qual=true) (S:aH N ps scope)
    (len:∀ vs H Q E,sp vs H Q E→vs.length=ps.length)
    (hbody:∀ (A:Around) (outer:List Env) (s:Shared) (H:Hp) (vs:List V) (Q:VK) (E:XK),jK k (A.deeper (envOfC qual scope s.heap.objs.size f cdv))→sp vs H Q E →
      ∃ t,PSs (vf CX P w K mg base N qual scope f cdv A outer s H E) body t∧t { nx:=fun _ H'=>Q .non H',rt:=Q } (start N vs) H) :
    bT P w K mg base CX (k + 1) f (PySem.W.fnOf name qual params body scope dV kV doc pm an cdv ct) ps sp:=by
  refine ⟨len,fun A outer s H args us vs Q E hr e0 hb r hsp=>?_⟩
  have hl:=len _ _ _ _ hsp
  have KX:K.In s.heap:=e0.mod.kin.keeps fun b o e=>(e0.bs b o e).1
  have lim:s.heap.NoLimit:=e0.mod.nolimit.keeps fun b o e=>(e0.bs b o e).1
  have hkind:∀ y∈ps.zip us,scope.names.lookup y.1=some .local∨(scope.names.lookup y.1=some .cell∧((cellsFrom (s.heap.objs.size + 1) scope.names []).lookup y.1).isSome=true):=fun ⟨n,v⟩ hy=>by
    rcases S.par n (List.of_mem_zip hy).1 with q | q
    · exact .inl q
    · exact .inr ⟨q,PySem.W.cellsFrom_some _ _ _ (.inl q)⟩
  refine codeAny_call_function hr.depth (KX _ _ lk) rfl S.co S.gen rfl (PySem.W.codeRec_of KX hcd) (hb _ _ _ _ ?_)
  refine wpAny_newFunctionEnv_cells S.kind hkind fun env he s1 x=>?_
  subst he
  refine ⟨lim.keeps x.toInCall.keep,codeAny_func ?_⟩
  obtain ⟨t,ht,hq⟩:=hbody A outer s H vs Q E (hr.deeper _) hsp
  have I:Inv (vf CX P w K mg base N qual scope f cdv A outer s H E) [] (start N vs) H s1:=uG S hr.hd e0 hl r x
  refine wpAny_mono (ht [] s1 (start N vs) H _ I hq) (fun fl s' hs=>?_) fun e s' hs=>hs
  have fin:∀ {σ':St} {H':Hp} {v:V} {u:Value},Inv (vf CX P w K mg base N qual scope f cdv A outer s H E) [] σ' H' s'→RelV v u→Q v H'→CE outer P w H s Q u s' :=
    fun {σ' H' v u} J rv q=>⟨v,H',J.os,J.bare,J.base,J.hok,rv,q⟩
  cases fl with
  | ret u =>
    obtain ⟨v,σ',H',J,rv,q⟩:=hs
    exact fin J rv q
  | next =>
    obtain ⟨σ',H',J,q⟩:=hs
    exact fin (v:=V.non) (u:=Value.none) J rfl q
  | brk =>
    obtain ⟨_,_,_,q⟩:=hs
    exact False.elim q
  | cont =>
    obtain ⟨_,_,_,q⟩:=hs
    exact False.elim q
end L2
namespace L2
open PySem PySem.Spec PyProof.Rows
section
variable {X:Cx} {x:Str} {p pos:Pos} {e:Expr} {es:List Expr} {t:TA} {id T:String} {r:List V→Hp→VK→Prop}
def tCB (r:List V→Hp→VK→Prop) (t:TA):TE:=fun σ H Q=>t σ H fun vs H1=>r vs H1 Q
theorem aX (hc:lJ X (.builtin id) r) (hg:Gl X x) (hm:X.mg x=none) (hv:bootBuiltins x=some (.builtin id)) (ha:PA X (e :: es) t) (hn:x≠"__name__":=by decide) (hdb:(x == ("__debug__":Str))=false:=by decide)
    (he:starEach (e :: es) X.env=(false,eval e X.env) :: starEach es X.env:=by rfl) (hpl:(backTo pos (starEach es X.env)).any (·.1)=false:=by rfl):PE X (.Call (.Name x p) (e :: es) [] pos) (tCB r t):=by
  intro pins s σ H Q I h
  refine wpAny_Call_Name_kw (oK I hg hm hv ?_ hn hdb)
  exact PyProof.Rows.callWith_builtin1 (thn (ha pos pins s σ H _ I h) fun us s1 ⟨vs,H1,I1,r1,q1⟩=>hc pins s1 σ H1 vs us Q I1 r1 q1) he hpl
theorem iG (hc:lJ X (.type T) r) (hg:Gl X x) (hm:X.mg x=none) (hv:bootBuiltins x=some (.type T)) (ha:PA X (e :: es) t) (hn:x≠"__name__":=by decide) (hdb:(x == ("__debug__":Str))=false:=by decide)
    (he:starEach (e :: es) X.env=(false,eval e X.env) :: starEach es X.env:=by rfl) (hpl:(backTo pos (starEach es X.env)).any (·.1)=false:=by rfl):PE X (.Call (.Name x p) (e :: es) [] pos) (tCB r t):=by
  intro pins s σ H Q I h
  refine wpAny_Call_Name_kw (oK I hg hm hv ?_ hn hdb)
  exact PyProof.Rows.callWith_type1 (thn (ha pos pins s σ H _ I h) fun us s1 ⟨vs,H1,I1,r1,q1⟩=>hc pins s1 σ H1 vs us Q I1 r1 q1) he hpl
end
end L2
namespace HT
open PySem PyProof.Rows
section
open PySem.SeqAt
open PySem.AutoSeq1 (wpAny_loadPart')
open PySem.MeetsSeq PySem.MeetsSeq2 PySem.MeetsSeq3
end
section
variable {prog:Program} {w:World} {A:Around} {E:Value→Shared→Prop} {s:Shared}
def sIx (n d:Nat):Option Int→Nat
  | none=>d
  | some v=>if v<0 then (v + (n:Int)).toNat else min v.toNat n
theorem pJ (n d k:Nat):sIx n d (some (k:Int))=min k n:=by
  show (if (k:Int)<0 then ((k:Int) + (n:Int)).toNat else min (k:Int).toNat n)=min k n
  rw [if_neg (by omega),Int.toNat_natCast]
end
end HT
namespace L2
open PySem PySem.Spec PyProof.Rows
abbrev TO:=St→Hp→(Option Int→Hp→Prop)→Prop
def PO (X:Cx) (e:Option Expr) (t:TO):Prop :=
  ∀ (pins:List (Addr × Obj)) (s:Shared) (σ:St) (H:Hp) (Q:Option Int→Hp→Prop),Inv X pins σ H s→t σ H Q →
    wpAny (model X.prog X.w) X.A (evalPart e X.env) (fun u s'=>∃ o H',Inv X pins σ H' s'∧IsPart u o∧Q o H') X.xe s
def Fb:TO:=fun _ H Q=>Q none H
def Nb (t:TE):TO:=fun σ H Q=>t σ H fun x H1=>∃ i,x=.int i∧Q (some i) H1
section
variable {X:Cx} {e:Expr} {te:TE} {lo hi:Option Expr} {tl th:TO} {pos p2:Pos}
theorem tK:PO X none Fb:=by
  intro pins s σ H Q I h
  rw [evalPart_none]
  exact wpAny_pure ⟨none,H,I,.none,h⟩
theorem mY (h:PE X e te):PO X (some e) (Nb te):=by
  intro pins s σ H Q I hw
  rw [evalPart_some]
  refine thn (h pins s σ H _ I hw) fun u s1 ⟨x,H1,I1,r1,q1⟩=>?_
  obtain ⟨i,rfl,q⟩:=q1
  obtain ⟨t,rfl⟩:=r1
  exact ⟨some i,H1,I1,.int i t,q⟩
def SlR (X:Cx) (r:V→Option Int→Option Int→Hp→VK→Prop):Prop :=
  ∀ (pins:List (Addr × Obj)) (s:Shared) (σ:St) (H:Hp) (x:V) (v vl vu:Value) (lo hi:Option Int) (sl:Addr) (Q:VK),Inv X pins σ H s→RelV x v→s.heap.IsSliceOf sl vl vu .none→IsPart vl lo→IsPart vu hi→r x lo hi H Q →
    ∃ T id,typeLookup (.type T) "__getitem__"=pure (some (.builtin id))∧s.TypeIs v T∧wpAny (model X.prog X.w) X.A (getItem v (.ref sl)) (EP X pins σ Q) X.xe s
def tSl (r:V→Option Int→Option Int→Hp→VK→Prop) (te:TE) (tl th:TO):TE:=fun σ H Q=>te σ H fun x H1=>tl σ H1 fun l H2=>th σ H2 fun u H3=>r x l u H3 Q
theorem m5 {r:V→Option Int→Option Int→Hp→VK→Prop} (hr:SlR X r) (he:PE X e te) (hl:PO X lo tl) (hu:PO X hi th):PE X (.Subscript e (.Slice lo hi none p2) pos) (tSl r te tl th):=by
  intro pins s σ H Q I h
  refine Subscript_ (thn (he pins s σ H _ I h) fun v s1 ⟨x,H1,I1,r1,q1⟩=>?_)
  refine wpAny_Slice (thn (hl pins s1 σ H1 _ I1 q1) fun vl s2 ⟨l,H2,I2,pl,q2⟩=>thn (hu pins s2 σ H2 _ I2 q2) fun vu s3 ⟨u,H3,I3,pu,q3⟩=>?_)
  rw [evalPart_none]
  refine wpAny_pure ?_
  have I4:Inv X pins σ H3 { s3 with heap:=s3.heap.push { cls:=.type "slice",data:=.fields #[vl,vu,.none] } }:=I3.kept (t':=s3.toks) fun b ob q=>Heap.get?_push_of_some _ q
  obtain ⟨T,id,hT,ht,hg⟩:=hr pins { s3 with heap:=s3.heap.push { cls:=.type "slice",data:=.fields #[vl,vu,.none] } } σ H3 x v vl vu l u s3.heap.objs.size Q I4 r1 (Heap.IsSliceOf.new ..) pl pu q3
  show wpAny (model X.prog X.w) X.A (subscriptTail e (.Slice lo hi none p2) v (.ref s3.heap.objs.size)) (EP X pins σ Q) X.xe { s3 with heap:=s3.heap.push { cls:=.type "slice",data:=.fields #[vl,vu,.none] } }
  exact tail_any (ops:=[.ref s3.heap.objs.size,v]) ht hT hg (by with_unfolding_all rfl)
def uP (xs:List V) (lo hi:Option Int):List V:=(xs.drop (HT.sIx xs.length 0 lo)).take (HT.sIx xs.length xs.length hi - HT.sIx xs.length 0 lo)
theorem pY (xs:List V) (lo hi:Option Int):(uP xs lo hi).length≤xs.length:=by
  unfold uP
  rw [List.length_take,List.length_drop]
  omega
end
end L2
namespace L2
open PySem PySem.Spec PyProof.Rows
def ixN (n:Nat) (i:Int):Option Nat:=if 0≤i then (if i<n then some i.toNat else none) else if -(n:Int)≤i then some (i + n).toNat else none
def atI {α:Type} (xs:List α) (i:Int):Option α:=(ixN xs.length i).bind fun j=>xs[j]?
theorem uE {n:Nat} {i:Int} {j:Nat} (h:ixN n i=some j):seqIndex? i n=some j∧j<n∧-(n:Int)≤i∧i<n:=by
  unfold ixN at h
  by_cases h0:0≤i
  · rw [if_pos h0] at h
    by_cases h1:i<n
    · rw [if_pos h1] at h
      have e:i.toNat=j:=Option.some.inj h
      exact ⟨by rw [seqIndex_of h0 h1,e],by omega,by omega,h1⟩
    · rw [if_neg h1] at h;cases h
  · rw [if_neg h0] at h
    by_cases h1:-(n:Int)≤i
    · rw [if_pos h1] at h
      have e:(i + n).toNat=j:=Option.some.inj h
      exact ⟨by rw [seqIndex_neg (by omega) h1,e],by omega,h1,by omega⟩
    · rw [if_neg h1] at h;cases h
theorem u5 {α:Type} {xs:List α} {i:Int} {v:α} (h:atI xs i=some v):∃ j,seqIndex? i xs.length=some j∧xs[j]?=some v∧j<xs.length∧-(xs.length:Int)≤i∧i<xs.length:=by
  unfold atI at h
  cases e:ixN xs.length i with
  | none=>rw [e] at h;cases h
  | some j =>
    rw [e] at h
    obtain ⟨h1,h2,h3,h4⟩:=uE e
    exact ⟨j,h1,h,h2,h3,h4⟩
theorem fU {α:Type} {xs:List α} {j:Nat} {v:α} (h:xs[j]?=some v):atI xs (j:Int)=some v:=by
  have hj:j<xs.length:=(List.getElem?_eq_some_iff.mp h).1
  have e:ixN xs.length (j:Int)=some j:=by
    unfold ixN
    rw [if_pos (by omega),if_pos (by omega)];simp
  unfold atI;rw [e];exact h
theorem wQ {α:Type} (xs:List α) (v:α):atI (xs++[v]) (-1)=some v:=by
  have hl:(xs++[v]).length=xs.length + 1:=by simp
  have e:ixN (xs++[v]).length (-1)=some xs.length:=by
    unfold ixN
    rw [hl,if_neg (by decide),if_pos (by omega)]
    congr 1
    omega
  unfold atI
  rw [e]
  show (xs++[v])[xs.length]?=some v
  simp
def Gg (b:Expr):Prop:=∀ o i,subscripted b false o i=operate [o,i] (getItem o i)
def IxR (X:Cx) (r:R2):Prop :=
  ∀ (value slice:Expr) (pins:List (Addr × Obj)) (s:Shared) (σ:St) (H:Hp) (x y:V) (v u:Value) (Q:VK),Inv X pins σ H s→RelV x v→RelV y u→r x y H Q →
    subscripted slice false v u=operate [v,u] (getItem v u)→wpAny (model X.prog X.w) X.A (subscriptTail value slice v u) (EP X pins σ Q) X.xe s
def MtR (X:Cx) (id:String) (r:V→List V→Hp→VK→Prop):Prop :=
  ∀ (pins:List (Addr × Obj)) (s:Shared) (σ:St) (H:Hp) (x:V) (xs:List V) (v:Value) (us:List Value) (Q:VK),Inv X pins σ H s→RelV x v→Vals xs us→r x xs H Q →
    wpAny (model X.prog X.w) X.A (call (.builtin id) (v :: us)) (EP X pins σ Q) X.xe s
section
variable {X:Cx} {a b:Expr} {ta tb:TE} {pos:Pos}
theorem bU {r:R2} (hr:IxR X r) (ha:PE X a ta) (hb:PE X b tb) (hs:Gg b):PE X (.Subscript a b pos) (tOp r ta tb):=by
  intro pins s σ H Q I h
  exact Subscript_ (MP ha hb I h fun v u s2 x y H2 I2 rx ry q=>hr a b pins s2 σ H2 x y v u Q I2 rx ry q (hs _ _))
def Qk (K:PySem.W.Frag):R2:=fun x y H Q=>∃ p xs i v,x=.ref p∧y=.int i∧SqL K H p xs∧atI xs i=some v∧Q v H
def rIxT (K:PySem.W.Frag):R2:=fun x y H Q=>∃ p xs i v,x=.ref p∧y=.int i∧SqT K H p xs∧atI xs i=some v∧Q v H
theorem aN:IxR X (Qk X.K):=by
  intro value slice pins s σ H x y v u Q I rx ry h hs
  obtain ⟨p,xs,i,z,rfl,rfl,hq,he,q⟩:=h
  cases rx
  obtain ⟨t,rfl⟩:=ry
  obtain ⟨its,r,pl,hz⟩:=I.list hq
  obtain ⟨j,h1,h2,h3,h4,h5⟩:=u5 he
  obtain ⟨w,ew,rw'⟩:=r.get h2
  have hl:=r.length
  have hn:=oJ
  have fin:EP X pins σ Q w s:=⟨z,H,I,rw',q⟩
  by_cases h0:0≤i
  · have hj:i.toNat=j:=by
      rw [seqIndex_of h0 h5] at h1
      exact Option.some.inj h1
    exact item_listR pl.isList h0 (by omega) (by rw [hj];simpa using ew) fin hs
  · have hj:(i + (its.toArray.size:Int)).toNat=j:=by
      rw [seqIndex_neg (by omega) h4] at h1
      rw [List.size_toArray,← hl]
      exact Option.some.inj h1
    exact subscriptTail_builtinR (x:=w) pl.isList.typeIs slot_list_getitem.lookup
      (wpAny_getItem_list_neg (Q:=fun r s'=>r=w∧EP X pins σ Q r s') pl.isList (by omega) (by rw [List.size_toArray] <;> omega) (by omega) (by rw [hj];simpa using ew) ⟨rfl,fin⟩) hs
theorem iH:IxR X (rIxT X.K):=by
  intro value slice pins s σ H x y v u Q I rx ry h hs
  obtain ⟨p,xs,i,z,rfl,rfl,hq,he,q⟩:=h
  cases rx
  obtain ⟨t,rfl⟩:=ry
  obtain ⟨its,r,pl,hz⟩:=I.tuple hq
  obtain ⟨j,h1,h2,h3,h4,h5⟩:=u5 he
  obtain ⟨w,ew,rw'⟩:=r.get h2
  have hl:=r.length
  have hn:=oJ
  have fin:EP X pins σ Q w s:=⟨z,H,I,rw',q⟩
  exact subscriptTail_builtinR (x:=w) pl.typeIs slot_tuple_getitem.lookup
    (getItem_tuple (j:=j) (Q:=fun r s'=>r=w∧EP X pins σ Q r s') pl (by omega) (by omega) (by rw [List.size_toArray,← hl];exact h1) (by simpa using ew) ⟨rfl,fin⟩) hs
theorem rK (its:List Value) (n j:Nat) (u:Value):Obj.mapSeq (·.setIfInBounds j u) { cls:=.type "list",data:=.seq its.toArray n }={ cls:=.type "list",data:=.seq (its.set j u).toArray n }:=by
  simp [Obj.mapSeq]
theorem Inv.lst {pins:List (Addr × Obj)} {σ:St} {H:Hp} {s:Shared} {p:Addr} {xs:List V} (I:Inv X pins σ H s) (h:H p=some (.lst xs)) :
    ∃ (its:List Value) (n:Nat),Vals xs its∧s.heap.get? p=some { cls:=.type "list",data:=.seq its.toArray n }∧xs.length≤sizeLine:=by
  obtain ⟨z,its,n,r,e⟩:=I.hok p _ h
  exact ⟨its,n,r,e,z⟩
theorem Inv.Hj {pins:List (Addr × Obj)} {σ:St} {H:Hp} {s:Shared} {p:Addr} {xs ys:List V} {its its':List Value} {n n':Nat} {f:Obj→Obj} (I:Inv X pins σ H s) (h:H p=some (.lst xs))
    (ho:s.heap.get? p=some { cls:=.type "list",data:=.seq its.toArray n }) (hf:f { cls:=.type "list",data:=.seq its.toArray n }={ cls:=.type "list",data:=.seq its'.toArray n' }) (r:Vals ys its') (hz:ys.length≤sizeLine) (t:Nat) :
    Inv X pins σ (upd H p (.lst ys)) { s with heap:=s.heap.update p f,toks:=t }:=by
  have e:(s.heap.update p f).get? p=some { cls:=.type "list",data:=.seq its'.toArray n' }:=by
    rw [Heap.get?_update_self f ho (by rw [hf] <;> rfl),hf]
  refine I.write (x:=p) (e:=p) (by rw [h];trivial) (.inl rfl) (fun b u hb q=>(Heap.get?_update_other _ _ (Ne.symm hb)).trans q) ⟨_,e⟩ ?_
  exact ⟨hz,its',n',r,e⟩
def GC:V→V→V→Hp→(Hp→Prop)→Prop:=fun o i v H Q=>∃ p xs k j,o=.ref p∧i=.int k∧H p=some (.lst xs)∧ixN xs.length k=some j∧Q (upd H p (.lst (xs.set j v)))
theorem set_list:Qz X GC:=by
  intro pins s σ H o i v ov iv u Q I ro ri rv h
  obtain ⟨p,xs,k,j,rfl,rfl,hp,hj,q⟩:=h
  cases ro
  obtain ⟨t,rfl⟩:=ri
  obtain ⟨its,n,r,ho,hz⟩:=I.lst hp
  obtain ⟨h1,h2,h3,h4⟩:=uE hj
  have hl:=r.length
  have hn:=oJ
  have I':Inv X pins σ (upd H p (.lst (xs.set j v))) { s with heap:=s.heap.update p (Obj.mapSeq (·.setIfInBounds j u)) } :=
    I.Hj hp ho (rK its n j u) (r.set rv j) (by rw [List.length_set];exact hz) s.toks
  by_cases h0:0≤k
  · have hk:k.toNat=j:=by
      rw [seqIndex_of h0 h4] at h1
      exact Option.some.inj h1
    exact PySem.W.ki_setAt ho h0 (by omega) (by rw [List.size_toArray,← hl];exact h4) (by rw [hk];exact ⟨_,I',q⟩)
  · have hk:(k + (its.toArray.size:Int)).toNat=j:=by
      rw [seqIndex_neg (by omega) h3] at h1
      rw [List.size_toArray,← hl]
      exact Option.some.inj h1
    exact PySem.W.ki_setBack ho (by omega) (by rw [List.size_toArray,← hl];exact h3) (by omega) (by rw [hk];exact ⟨_,I',q⟩)
theorem nP (lo hi:Option Int) (n:Nat):(sliceBounds lo hi none n).1=((HT.sIx n 0 lo:Nat):Int)∧(sliceBounds lo hi none n).2.1=((HT.sIx n n hi:Nat):Int)∧(sliceBounds lo hi none n).2.2=1:=by
  refine ⟨?_,?_,rfl⟩
  · cases lo with
    | none=>simp [sliceBounds,HT.sIx]
    | some i =>
      simp only [sliceBounds,HT.sIx,Option.getD_none,show (1:Int) > 0 by decide,if_true]
      by_cases h:i<0
      · simp only [h,if_true] <;> omega
      · simp only [h,if_false] <;> omega
  · cases hi with
    | none=>simp [sliceBounds,HT.sIx]
    | some i =>
      simp only [sliceBounds,HT.sIx,Option.getD_none,show (1:Int) > 0 by decide,if_true]
      by_cases h:i<0
      · simp only [h,if_true] <;> omega
      · simp only [h,if_false] <;> omega
theorem mQ (its:List Value) (lo hi:Option Int):slicePick its.toArray lo hi none=((its.drop (HT.sIx its.length 0 lo)).take (HT.sIx its.length its.length hi - HT.sIx its.length 0 lo)).toArray:=by
  obtain ⟨h1,h2,h3⟩:=nP lo hi its.toArray.size
  unfold slicePick
  rw [h1,h2,h3]
  simp only [sliceRange_one,pick_run,List.size_toArray] <;> rfl
def rSlL (K:PySem.W.Frag):V→Option Int→Option Int→Hp→VK→Prop:=fun x lo hi H Q=>∃ a xs,x=.ref a∧SqL K H a xs∧∀ p,H p=none→Q (.ref p) (upd H p (.lst (uP xs lo hi)))
theorem sS:SlR X (rSlL X.K):=by
  intro pins s σ H x v vl vu lo hi sl Q I rx hs pl pu h
  obtain ⟨a,xs,rfl,hx,q⟩:=h
  cases rx
  obtain ⟨its,r,ht,hz⟩:=I.list hx
  have hlen:=r.length
  refine ⟨"list",_,slot_list_getitem.lookup,ht.isList.typeIs,?_⟩
  refine wpAny_getItem_list_slice ht.isList hs pl pu .none (by simp) ?_ (by rw [List.size_toArray] <;> omega)
  rw [mQ,← hlen]
  refine ⟨.ref s.heap.objs.size,_,I.laid (t':=s.toks) (o:=.lst (uP xs lo hi)) (fun b ob q=>Heap.get?_push_of_some _ q) (Nat.le_refl _) ?_,rfl,q _ (I.hok.fresh (Nat.le_refl _))⟩
  exact ⟨Nat.le_trans (pY xs lo hi) hz,_,0,(r.drop (HT.sIx xs.length 0 lo)).take (HT.sIx xs.length xs.length hi - HT.sIx xs.length 0 lo),Heap.get?_push_size _ rfl⟩
def nq:V→Bool
  | .non=>true
  | .bl _=>true
  | .int _=>true
  | .str _=>true
  | _=>false
def eqV:V→V→Bool
  | .non,.non=>true
  | .bl a,.bl b=>a == b
  | .bl a,.int b=>(if a then 1 else 0) == b
  | .int a,.bl b=>a == (if b then 1 else 0)
  | .int a,.int b=>a == b
  | .str a,.str b=>a == b
  | _,_=>false
theorem Mu {A:Around} {s:Shared} {y x:V} {u v:Value} (ry:RelV y u) (rx:RelV x v) (fy:nq y=true) (fx:nq x=true):SeqAt.EqAt A s u v (eqV y x):=by
  cases y with
  | non =>
    cases ry
    cases x with
    | non=>cases rx;exact SeqAt.EqAt.same _
    | bl b=>cases rx;exact SeqAt.EqAt.none_bool b
    | int b=>obtain ⟨t,rfl⟩:=rx;exact SeqAt.EqAt.none_int b t
    | str b=>obtain ⟨t,rfl⟩:=rx;exact SeqAt.EqAt.none_str b t
    | _=>exact absurd (show false=true from fx) Bool.false_ne_true
  | bl a =>
    cases ry
    cases x with
    | non=>cases rx;exact SeqAt.EqAt.bool_none a
    | bl b=>cases rx;exact SeqAt.EqAt.bool_bool a b
    | int b=>obtain ⟨t,rfl⟩:=rx;exact SeqAt.EqAt.bool_int a b t
    | str b=>obtain ⟨t,rfl⟩:=rx;exact SeqAt.EqAt.bool_str a b t
    | _=>exact absurd (show false=true from fx) Bool.false_ne_true
  | int a =>
    obtain ⟨t',rfl⟩:=ry
    cases x with
    | non=>cases rx;exact SeqAt.EqAt.int_none a t'
    | bl b=>cases rx;exact SeqAt.EqAt.int_bool a t' b
    | int b=>obtain ⟨t,rfl⟩:=rx;exact SeqAt.EqAt.int_int a t' b t
    | str b=>obtain ⟨t,rfl⟩:=rx;exact SeqAt.EqAt.int_str a t' b t
    | _=>exact absurd (show false=true from fx) Bool.false_ne_true
  | str a =>
    obtain ⟨t',rfl⟩:=ry
    cases x with
    | non=>cases rx;exact SeqAt.EqAt.str_none a t'
    | bl b=>cases rx;exact SeqAt.EqAt.str_bool a t' b
    | int b=>obtain ⟨t,rfl⟩:=rx;exact SeqAt.EqAt.str_int a t' b t
    | str b=>obtain ⟨t,rfl⟩:=rx;exact SeqAt.EqAt.str_str a t' b t
    | _=>exact absurd (show false=true from fx) Bool.false_ne_true
  | _=>exact absurd (show false=true from fy) Bool.false_ne_true
def eqU (x:V) (u:Value):Bool:=match u with
  | .none=>eqV .non x
  | .bool b=>eqV (.bl b) x
  | .int i _=>eqV (.int i) x
  | .str z _=>eqV (.str z) x
  | _=>false
theorem Er {x y:V} {u:Value} (r:RelV y u) (f:nq y=true):eqU x u=eqV y x:=by
  cases y with
  | non=>cases r;rfl
  | bl b=>cases r;rfl
  | int i=>obtain ⟨t,rfl⟩:=r;rfl
  | str z=>obtain ⟨t,rfl⟩:=r;rfl
  | _=>exact absurd (show false=true from f) Bool.false_ne_true
theorem qb {x:V}:∀ {xs:List V} {us:List Value},Vals xs us→xs.all nq=true→us.any (eqU x)=xs.any fun y=>eqV y x
  | _,_,.nil,_=>rfl
  | y :: xs,u :: us,.cons r t,f=>by
    rw [List.all_cons,Bool.and_eq_true] at f
    rw [List.any_cons,List.any_cons,Er r f.1,qb t f.2]
theorem m7 {A:Around} {s:Shared} {x:V} {v:Value} (rx:RelV x v) (fx:nq x=true):∀ {xs:List V} {us:List Value},Vals xs us→xs.all nq=true→∀ u∈us,SeqAt.EqAt A s u v (eqU x u)
  | _,_,.nil,_=>fun u hu=>by cases hu
  | y :: xs,u :: us,.cons r t,f=>fun u' hu=>by
    rw [List.all_cons,Bool.and_eq_true] at f
    rcases List.mem_cons.mp hu with rfl | hu
    · rw [Er r f.1];exact Mu r rx f.1 fx
    · exact m7 rx fx t f.2 u' hu
def inV (x:V) (xs:List V):Bool:=xs.any fun y=>eqV y x
def rIn (K:PySem.W.Frag) (neg:Bool):R2:=fun x y H Q=>∃ p xs,y=.ref p∧(SqL K H p xs∨SqT K H p xs)∧nq x=true∧xs.all nq=true∧Q (.bl (if neg then !inV x xs else inV x xs)) H
theorem ud:OpR X (compareOp .In) (rIn X.K false):=by
  intro pins s σ H x y v u Q I rx ry h
  obtain ⟨p,xs,rfl,hq,fx,fs,q⟩:=h
  cases ry
  rcases hq with hq | hq
  · obtain ⟨its,r,pl,hz⟩:=I.list hq
    refine SeqAt.in_listAt (eqU x) pl.isList (fun w hw=>m7 rx fx r fs w (by simpa using hw)) ⟨.bl _,H,I,rfl,?_⟩
    rw [show its.toArray.any (eqU x)=its.any (eqU x) by simp,qb r fs]
    exact q
  · obtain ⟨its,r,pl,hz⟩:=I.tuple hq
    refine SeqAt.in_tupleAt (eqU x) pl (fun w hw=>m7 rx fx r fs w (by simpa using hw)) ⟨.bl _,H,I,rfl,?_⟩
    rw [show its.toArray.any (eqU x)=its.any (eqU x) by simp,qb r fs]
    exact q
theorem aZ:lJ X (.builtin "len") (fun xs H Q=>∃ p ys,xs=[.ref p]∧(SqL X.K H p ys∨SqT X.K H p ys)∧Q (.int ys.length) H):=by
  intro pins s σ H xs us Q I r h
  obtain ⟨p,ys,rfl,hq,q⟩:=h
  obtain ⟨u,rfl,rx⟩:=vals1 r
  cases rx
  have hn:=oJ
  rcases hq with hq | hq
  · obtain ⟨its,r',pl,hz⟩:=I.list hq
    have hlen:=r'.length
    exact Calls.call_len_list pl.isList (by simp only [List.size_toArray] <;> omega) ⟨.int ys.length,H,I.tok _,⟨s.toks + 1,by rw [List.size_toArray,hlen]⟩,q⟩
  · obtain ⟨its,r',pl,hz⟩:=I.tuple hq
    have hlen:=r'.length
    exact len_tuple pl (by simp only [List.size_toArray] <;> omega) ⟨.int ys.length,H,I.tok _,⟨s.toks + 1,by rw [List.size_toArray,hlen]⟩,q⟩
theorem oO:lJ X (.builtin "len") (fun xs H Q=>∃ z,xs=[.str z]∧z.length≤sizeLine∧Q (.int z.length) H):=by
  intro pins s σ H xs us Q I r h
  obtain ⟨z,rfl,hz,q⟩:=h
  obtain ⟨u,rfl,t,rfl⟩:=vals1 r
  have hn:=oJ
  exact len_str (by omega) ⟨.int z.length,H,I.tok _,⟨_,rfl⟩,q⟩
theorem fM:lJ X (.type "list") (fun xs H Q=>∃ p ys,xs=[.ref p]∧(SqL X.K H p ys∨SqT X.K H p ys)∧∀ l,H l=none→Q (.ref l) (upd H l (.lst ys))):=by
  intro pins s σ H xs us Q I r h
  obtain ⟨p,ys,rfl,hq,q⟩:=h
  obtain ⟨u,rfl,rx⟩:=vals1 r
  cases rx
  have fin:∀ (its:List Value),Vals ys its→ys.length≤sizeLine→∀ (h':Heap) (c':Nat),(∀ b o',s.heap.get? b=some o'→h'.get? b=some o') →
      h'.get? s.heap.objs.size=some { cls:=.type "list",dict:=none,data:=.seq its.toArray c',slots:=#[] }→EP X pins σ Q (.ref s.heap.objs.size) { s with heap:=h' }:=fun its r' hz h' c' kp e =>
    ⟨.ref s.heap.objs.size,_,I.laid (t':=s.toks) kp (Nat.le_refl _) (show fV X.prog X.w _ h' _ (.lst ys) from ⟨hz,its,c',r',e⟩),rfl,q _ (I.hok.fresh (Nat.le_refl _))⟩
  rcases hq with hq | hq
  · obtain ⟨its,r',pl,hz⟩:=I.list hq
    have hlen:=r'.length
    obtain ⟨o,ho,hc,n,hd⟩:=pl.isList
    exact call_list_seq p (.inl rfl) ho hc hd (fun h' c' kp e=>fin its r' hz h' c' kp e) (by simp only [List.size_toArray] <;> omega)
  · obtain ⟨its,r',pl,hz⟩:=I.tuple hq
    have hlen:=r'.length
    obtain ⟨o,ho,hc,n,hd⟩:=pl
    exact call_list_seq p (.inr rfl) ho hc hd (fun h' c' kp e=>fin its r' hz h' c' kp e) (by simp only [List.size_toArray] <;> omega)
def tyV (K:PySem.W.Frag) (T:String) (x:V) (H:Hp):Prop:=match x with
  | .str _=>T="str"
  | .int _=>T="int"
  | .ref p=>(T="list"∧∃ xs,SqL K H p xs)∨(T="tuple"∧∃ o,K.lookup p=some o∧o.cls=.type "tuple"∧o.dict=none) ∨
      (T="dict"∧((∃ kvs,H p=some (.dK kvs))∨∃ kvs,H p=some (.dT kvs)))∨(T="set"∧∃ S n,H p=some (.set S n))
  | _=>False
theorem Gs {pins:List (Addr × Obj)} {σ:St} {H:Hp} {s:Shared} {T:String} {x:V} {v:Value} (I:Inv X pins σ H s) (r:RelV x v) (ty:tyV X.K T x H) :
    s.TypeIs v T∧∀ a,v=.ref a→∃ ob,s.heap.get? a=some ob∧ob.dict=none:=by
  cases x with
  | str z =>
    obtain ⟨t,rfl⟩:=r
    cases (show T="str" from ty)
    exact ⟨typeIs_str s z t,fun _ e=>nomatch e⟩
  | int i =>
    obtain ⟨t,rfl⟩:=r
    cases (show T="int" from ty)
    exact ⟨typeIs_int s i t,fun _ e=>nomatch e⟩
  | ref p =>
    cases r
    rcases ty with ⟨rfl,xs,hq⟩ | ⟨rfl,o,hk,hc,hd⟩ | ⟨rfl,hk⟩ | ⟨rfl,S,n,hk⟩
    · obtain ⟨its,_,pl,_⟩:=I.list hq
      refine ⟨pl.isList.typeIs,fun a e=>?_⟩
      cases e
      obtain ⟨o,n,e,c,hd,_⟩:=pl
      exact ⟨o,e,hd⟩
    · refine ⟨⟨o,I.kIn p o hk,hc⟩,fun a e=>?_⟩
      cases e
      exact ⟨o,I.kIn _ o hk,hd⟩
    · have z:∃ o,s.heap.get? p=some o∧o.ExactDict:=by
        rcases hk with ⟨kvs,hk⟩ | ⟨kvs,hk⟩
        · obtain ⟨_,_,_,_,o,_,_,e,ex,_⟩:=I.hok p _ hk
          exact ⟨o,e,ex⟩
        · obtain ⟨_,_,_,_,o,_,_,e,ex,_⟩:=I.hok p _ hk
          exact ⟨o,e,ex⟩
      obtain ⟨o,e,ex⟩:=z
      refine ⟨⟨o,e,ex.1⟩,fun a e2=>?_⟩
      cases e2
      exact ⟨o,e,ex.2.1⟩
    · obtain ⟨o,_,_,_,e,ex,_⟩:=I.hok p _ hk
      refine ⟨⟨o,e,ex.1⟩,fun a e2=>?_⟩
      cases e2
      exact ⟨o,e,ex.2.1⟩
  | _=>exact False.elim ty
def tBM (K:PySem.W.Frag) (T:String) (r:V→List V→Hp→VK→Prop) (to:TE) (t:TA):TE:=fun σ H Q=>to σ H fun x H1=>tyV K T x H1∧t σ H1 fun xs H2=>r x xs H2 Q
variable {o e:Expr} {es:List Expr} {to:TE} {t:TA} {name:Str} {apos cpos:Pos} {T id:String} {r:V→List V→Hp→VK→Prop}
theorem jE (pa:PlainAttrs T) (slot:Slot T name id) (hty:typeOf (.builtin id)=pure (.type "method_descriptor")) (hm:MtR X id r) (ho:PE X o to) (ha:PA X (e :: es) t)
    (hbase:attributeBase o name X.env (eval o X.env)=eval o X.env:=by rfl)
    (hfew:((backTo cpos (starEach (e :: es) X.env)).all (fun x=>!x.1) && (backToKw cpos (keywordEach [] X.env)).all (fun x=>x.1.isSome)
      && decide ((e :: es).length + ([]:List Keyword).length + (if ([]:List Keyword).isEmpty then 0 else 1)<30))=true:=by rfl)
    (hline:(apos.endLine == cpos.line)=true:=by rfl) (hs:starEach (e :: es) X.env=(false,eval e X.env) :: starEach es X.env:=by rfl) (hplain:(backTo cpos (starEach es X.env)).any (·.1)=false:=by rfl) :
    PE X (.Call (.Attribute o name apos) (e :: es) [] cpos) (tBM X.K T r to t):=by
  intro pins s σ H Q I h
  refine wpAny_Call_method_late hbase hfew hline rfl (thn (ho pins s σ H _ I h) fun v s1 ⟨x,H1,I1,r1,ty,q1⟩=>?_)
  obtain ⟨h1,h2⟩:=Gs I1 r1 ty
  refine ⟨T,id,pa,slot,hty,h1,h2,?_⟩
  have hA:=ha cpos pins s1 σ H1 _ I1 q1
  rw [hs] at hA ⊢
  refine Calls.callWith_builtin (by show (false || (backTo cpos (starEach es X.env)).any (·.1))=false;rw [hplain] <;> rfl) (Calls.evalArgs_plain ?_)
  exact thn hA fun us s2 ⟨vs,H2,I2,r2,q2⟩=>hm pins s2 σ H2 x vs v us Q I2 r1 r2 q2
end
end L2
namespace L2
open PySem PySem.Spec PyProof.Rows
def MtM (X:Cx) (id:String) (r:V→List V→Hp→VK→Prop):Prop :=
  ∀ (pins:List (Addr × Obj)) (s:Shared) (σ:St) (H:Hp) (x:V) (xs:List V) (v:Value) (us:List Value) (Q:VK),Inv X pins σ H s→RelV x v→Vals xs us→r x xs H Q →
    wpAny (model X.prog X.w) X.A (call (.builtin id) (v :: us)) (EP X pins σ Q) X.xe s
theorem Vals.one:∀ {x:V} {us:List Value},Vals [x] us→∃ u,us=[u]∧RelV x u
  | _,_,.cons r .nil=>⟨_,rfl,r⟩
section
variable {X:Cx} {pins:List (Addr × Obj)} {σ:St} {H:Hp} {s:Shared} {l b:Addr} {xs ys zs:List V}
theorem Inv.lset {its its':List Value} {n:Nat} {f:Array Value→Array Value} {t':Nat} (I:Inv X pins σ H s) (hH:H l=some (.lst xs))
    (e:s.heap.get? l=some { cls:=.type "list",data:=.seq its.toArray n }) (hf:f its.toArray=its'.toArray) (hv:Vals ys its') (hz:ys.length≤sizeLine) :
    Inv X pins σ (upd H l (.lst ys)) { s with heap:=s.heap.update l (Obj.mapSeq f),toks:=t' }:=by
  have q:=PySem.IsL.update e f
  rw [hf] at q
  refine I.write (x:=l) (e:=l) (by rw [hH];exact trivial) (.inl rfl) (fun b' u hb hu=>(Heap.get?_update_other s.heap (Obj.mapSeq f) (Ne.symm hb)).trans hu) ⟨_,q⟩ ?_
  exact ⟨hz,its',_,hv,q⟩
theorem Inv.lstM (I:Inv X pins σ H s) (hH:H l=some (.lst xs)):xs.length≤sizeLine∧∃ (its:List Value) (n:Nat),Vals xs its∧xs.length=its.length∧s.heap.get? l=some { cls:=.type "list",data:=.seq its.toArray n }:=by
  obtain ⟨z,its,n,r,e⟩:=I.hok l _ hH
  exact ⟨z,its,n,r,r.length,e⟩
end
section
variable {X:Cx}
def Fo:V→List V→Hp→VK→Prop:=fun x vs H Q=>∃ l xs y,x=.ref l∧vs=[y]∧H l=some (.lst xs)∧xs.length<sizeLine∧Q .non (upd H l (.lst (xs++[y])))
theorem cM:MtM X "list.append" Fo:=by
  intro pins s σ H x vs v us Q I rx rv h
  obtain ⟨l,xs,y,rfl,rfl,hH,hz,q⟩:=h
  cases rx
  obtain ⟨u,rfl,ru⟩:=rv.one
  obtain ⟨z,its,n,r,hl,e⟩:=I.lstM hH
  refine call_meets F.slot_list_append ⟨_,e,rfl⟩ F.entry_list_append (F.args_list_append_2 _ _) (PySem.list_append l its.toArray n u (by rw [List.size_toArray];omega)) ⟨e,?_⟩
  refine ⟨.non,_,I.lset (its':=its++[u]) hH e (by simp) (r.append (.cons ru .nil)) ?_,rfl,q⟩
  rw [List.length_append,List.length_singleton]
  omega
end
end L2
namespace Att
open PySem PySem.W PySem.Calls PyProof.Rows
theorem lB {P:Params} {h:Heap}:∀ (ns:List Int) (vs:List Value),WellAll P h vs (ns.map WData.int)→IntsAre vs ns:=by
  intro ns
  induction ns with
  | nil =>
    intro vs w
    rw [List.map_nil] at w
    cases w
    exact .nil
  | cons n ns ih =>
    intro vs w
    rw [List.map_cons] at w
    cases w with
    | cons a b =>
      cases a
      exact .cons _ _ (ih _ b)
theorem sV {l:OpenLaw} {n:Nat} (hn:l.most=some n) {P:Params} {h:Heap} {args:List WData} {vals:List Value}
    (hpre:l.row.toRowW.claim.pre args=true) (hwl:WellAll P h vals args) :
    ∃ a vs ns,vals=[Value.ref a]∧args=[WData.list (ns.map WData.int)]∧h.get? a=some { cls:=.type "list",data:=.seq vs.toArray }∧IntsAre vs ns∧ns.length≤n:=by
  have hsh:WShape.hasAll [] args [.list .int]=true:=(pre_splitW hpre).1
  have hc:l.pre.holds [] { args:=args }=true:=(pre_splitW hpre).2
  obtain ⟨d,r,rfl,h1,h2⟩:=hasAllW_cons hsh
  obtain rfl:=hasAllW_nil h2
  obtain ⟨xs,rfl,h3⟩:=hasW_list h1
  obtain ⟨ns,rfl⟩:=items_int h3
  have hlen:ns.length≤n:=by
    unfold OpenLaw.pre at hc
    have h4:(WTm.not (.lt (.lit (.int (n:Int))) (.len (.arg 0)))).holds [] { args:=[.list (ns.map .int)] }=true:=by
      have h4:=(holds_andW hc).1
      rw [hn] at h4
      exact h4
    have h5:=condW_of h4 (w_not (w_lt w_lit (w_len_list (w_arg rfl))))
    rw [List.length_map] at h5
    refine Nat.le_of_not_lt fun q=>?_
    have q':(n:Int)<((ns.length:Nat):Int):=by omega
    first
      | (rw [decide_eq_true q'] at h5;exact absurd h5 (by decide))
      | (simp at h5;omega)
  cases hwl with
  | cons w1 w2 =>
    cases w2
    cases w1 with
    | list ho hall=>exact ⟨_,_,ns,rfl,rfl,ho,lB ns _ hall,hlen⟩
theorem tH (l:OpenLaw) (args:List WData):l.row.toRowW.claim.post args (.bool true) args=true :=
  postW_of (r:=l.row.toRowW) (X:=(true == true))
    (show WShape.has [] (.bool true) .bool=true by first | rfl | decide | simp [WShape.has,WShape.arms,WShape.armsAll])
    (show (WTm.eq .res (.lit (.bool true))).value [] { args:=args,res:=some (.bool true),after:=args }=some (.bool (true == true)) from w_eq_bool (w_res rfl) w_lit) rfl
theorem p8 {l:OpenLaw} {n:Nat} {q:Program} {loose:List Str} {XP:(Str→Option Value)→Heap→Prop} {YP:World→Heap→Prop} {d:DefRec}
    (hn:l.most=some n) (hdf:d.params.defaults=[])
    (call:∀ (w:World) (s₀ s₁:Shared) (mg mb:Str→Option Value) (fa:Addr) (o:Obj) (pm cd doc:Value) (a:Addr) (vs:List Value) (ns:List Int),
      Ground q loose [] XP w s₀ mg mb s₁.heap→YP w s₁.heap →
      s₁.heap.get? fa=some o→o.data=.func (docDef d.name d.params d.body d.scope pm cd doc)→s₁.heap.CodeRec cd d.name→mg d.name=some (.ref fa) →
      s₁.heap.get? a=some { cls:=.type "list",data:=.seq vs.toArray }→IntsAre vs ns→ns.length≤n→s₁.gens=#[] →
      codeAny (model l.prog w) callerA (.call (.ref fa) ⟨[.ref a],[]⟩) (fun r s'=>r=.ok (.ret (.bool true))∧OldK s₁.heap s'.heap∧s'.os=s₁.os∧AllBare s'.gens) s₁) :
    WalkO q loose XP YP l.row.toRowW d [] (fun f vs=>PySem.call f vs):=by
  intro w s₀ s₁ mg mb G Y fa o pm cd doc dV kV ho hd hcd hD hmg hg args vals as hpre hlay hrd hwl hlo
  obtain rfl:dV=.none:=Dflts.none hD hdf
  obtain rfl:kV=.none:=Dflts.noKw hD
  obtain ⟨a,vs,ns,rfl,rfl,hobj,hints,hlen⟩:=sV hn hpre hwl
  refine enter_call (codeAny_mono (call w s₀ s₁ mg mb fa o pm cd doc a vs ns G Y ho (fd_plain hd) hcd hmg hobj hints hlen hg) fun r s' hq=>?_)
  obtain ⟨rfl,h2,h3,h4⟩:=hq
  exact ⟨.inl ⟨.bool true,.bool true,[],rfl,fun _=>rfl,.bool true,tH l _,fun _=>⟨List.Pairwise.nil,fun _ hm=>(nomatch hm)⟩⟩,h2,h3,h4⟩
end Att
namespace L2
open PySem PySem.Spec PyProof.Rows
theorem nG:∀ {vs:List Value} {ns:List Int},IntsAre vs ns→Vals (ns.map V.int) vs
  | _,_,.nil=>.nil
  | _,_,.cons n t h=>.cons ⟨t,rfl⟩ (nG h)
def Only (H:Hp):Prop:=∀ b,H b=none∨∃ o xs,H b=some (.frz o (.lst xs))
theorem wB {P:Program} {w:World} {K:PySem.W.Frag} {mg mb:Str→Option Value} {CX:CXT} {k:Nat} {fa a:Addr} {fd:FuncData} {x:Str} {sp:Sp} {s₁:Shared} {vs:List Value} {ns:List Int}
    (KX:K.In s₁.heap) (hns:s₁.heap.Ns mainGlobals mg) (hb:s₁.heap.Ns builtinsNs mb) (hbb:∀ x:Str,x≠"__name__"→mb x=bootBuiltins x) (hlim:s₁.heap.NoLimit) (hg:s₁.gens=#[])
    (ha:s₁.heap.get? a=some { cls:=.type "list",data:=.seq vs.toArray }) (hi:IntsAre vs ns) (hl:ns.length≤sizeLine) (hr:jK k callerA)
    (F:∀ base:Heap,K.In base→base.Ns mainGlobals mg→bT P w K mg base CX k fa fd [x] sp) (hbind:∀ (s:Shared) (u:Value),BindsTo s fd ⟨[u],[]⟩ [(x,u)])
    (hsp:∀ H:Hp,Only H→SqL K H a (ns.map V.int)→sp [.ref a] H (fun v _=>v=.bl true) fun _ _ _=>False)
    (hCX:∀ H e s',CX [] H s₁ (fun _ _ _=>False) e s'→False) :
    codeAny (model P w) callerA (.call (.ref fa) ⟨[.ref a],[]⟩) (fun r s'=>r=.ok (.ret (.bool true))∧OldK s₁.heap s'.heap∧s'.os=s₁.os∧AllBare s'.gens) s₁:=by
  have rv:=nG hi
  have lenV:=hi.length
  have core:∀ H:Hp,Only H→SqL K H a (ns.map V.int)→HOk P w H s₁.heap→(∀ b,H b≠none→b=a)→(H a≠none→K.lookup a=none) →
      codeAny (model P w) callerA (.call (.ref fa) ⟨[.ref a],[]⟩) (fun r s'=>r=.ok (.ret (.bool true))∧OldK s₁.heap s'.heap∧s'.os=s₁.os∧AllBare s'.gens) s₁:=by
    intro H hO hS hok hA hK
    have base_of:∀ {b:Addr} {o:Obj},s₁.heap.get? b=some o→H b=none→(wG s₁.heap H).get? b=some o:=fun e n=>wF e n
    have noA:∀ {b:Addr} {o:Obj} {es:Array DictEntry} {ep:Nat},s₁.heap.get? b=some o→o.data=.dict es ep→H b=none:=fun {b o es ep} e d=>by
      cases q:H b with
      | none=>rfl
      | some u =>
        have e':b=a:=hA b (by rw [q];simp)
        subst e'
        rw [ha] at e;cases e
        have d':Data.seq vs.toArray _=Data.dict es ep:=d
        cases d'
    have nsK:∀ {b:Addr} {m:Str→Option Value},s₁.heap.Ns b m→(wG s₁.heap H).Ns b m:=fun {b m} ⟨o,es,ep,e,d,r⟩=>⟨o,es,ep,base_of e (noA e d),d,r⟩
    have hKb:K.In (wG s₁.heap H):=fun b o e=>base_of (KX b o e) (by
      cases q:H b with
      | none=>rfl
      | some u =>
        have e':b=a:=hA b (by rw [q];simp)
        subst e'
        rw [hK (by rw [q];simp)] at e;cases e)
    have hM:Mod K mg (wG s₁.heap H):=⟨hKb,nsK hns,⟨mb,nsK hb,hbb⟩,let ⟨mc,h1,h2⟩:=hlim;⟨mc,nsK h1,h2⟩⟩
    have e0:Gi P w K mg (wG s₁.heap H) callerA [] s₁ H:=⟨rfl,hM,fun b o e=>Fy e,Nat.le_of_eq (uH _ _),trivial,fun b hb=>absurd (show b∈([]:List Addr) from hb) (by simp),hok,.of_eq hg⟩
    refine codeAny_mono ((F _ hKb (nsK hns)).run callerA [] s₁ H ⟨[.ref a],[]⟩ [.ref a] [.ref a] _ _ hr e0 (hbind s₁ (.ref a)) (.cons rfl .nil) (hsp H hO hS)) fun r s' h=>?_
    cases r with
    | error e=>exact (hCX H e s' h).elim
    | ok fl =>
      cases fl with
      | next=>exact False.elim h
      | brk=>exact False.elim h
      | cont=>exact False.elim h
      | ret u =>
        obtain ⟨v,H',os,bare,un,hok',r',q⟩:=h
        have q':v=.bl true:=q
        subst q'
        obtain rfl:u=Value.bool true:=r'
        refine ⟨rfl,OldK.of_keep fun b o e=>?_,os,bare⟩
        cases q:H b with
        | none=>exact un.keep b o e q (by intro z;exact absurd (show b∈([]:List Addr) from z) (by simp)) (by simp)
        | some u =>
          rcases hO b with z | ⟨ob,xs,z⟩
          · rw [q] at z;cases z
          · have z2:=un.frzs b ob _ z
            obtain ⟨e1,_⟩:=hok b _ z
            obtain ⟨e2,_⟩:=hok' b _ z2
            rw [e] at e1;cases e1
            exact e2
  cases hk:K.lookup a with
  | some o =>
    have e:=KX a o hk
    rw [ha] at e
    cases e
    refine core (fun _=>none) (fun _=>.inl rfl) (.inr ⟨_,vs.toArray,_,hk,rfl,rfl,rfl,by rw [List.size_toArray,lenV];exact hl,by simpa using rv⟩) (fun b u z=>by have z':(none:Option HO)=some u:=z;cases z') (fun b z=>absurd rfl z) fun z=>absurd rfl z
  | none =>
    refine core (fun b=>if b=a then some (.frz { cls:=.type "list",data:=.seq vs.toArray } (.lst (ns.map V.int))) else none) (fun b=>?_) (.inl (.inr ⟨{ cls:=.type "list",data:=.seq vs.toArray },if_pos rfl⟩)) (fun b u z=>?_) (fun b z=>?_) fun _=>hk
    · by_cases hb:b=a
      · exact .inr ⟨_,_,if_pos hb⟩
      · exact .inl (if_neg hb)
    · by_cases hb:b=a
      · have z':=(if_pos hb).symm.trans z
        cases z'
        subst hb
        exact ⟨ha,by rw [List.length_map];exact hl,vs,_,rv,ha⟩
      · have z':=(if_neg hb).symm.trans z
        cases z'
    · by_cases hb:b=a
      · exact hb
      · exact absurd (if_neg hb) z
end L2
namespace L2
open PySem PySem.Spec PyProof.Rows
abbrev KOf {K:PySem.W.Frag} {h:Heap} (_:K.In h):PySem.W.Frag:=K
theorem Ez {l:PySem.W.OpenLaw} {n k:Nat} {q:Program} {loose:List Str} {XP:(Str→Option Value)→Heap→Prop} {YP:World→Heap→Prop} {d:DefRec} {K:Params→PySem.W.Frag} {CX:World→CXT} {sp:World→Sp} {x:Str}
    (hn:l.most=some n) (hn2:n≤sizeLine) (hdf:d.params.defaults=[]) (hr:jK k callerA)
    (hY:∀ (w:World) (h:Heap),YP w h→(K w.params).In h)
    (F:∀ (w:World) (mg:Str→Option Value) (fa:Addr) (h:Heap),(K w.params).In h→h.Ns mainGlobals mg→mg d.name=some (.ref fa) →
      ∃ fd:FuncData,(∀ (s:Shared) (u:Value),BindsTo s fd ⟨[u],[]⟩ [(x,u)]) ∧
        ∀ base:Heap,(K w.params).In base→base.Ns mainGlobals mg→bT l.prog w (K w.params) mg base (CX w) k fa fd [x] (sp w))
    (hsp:∀ (w:World) (H:Hp) (a:Addr) (ns:List Int),ns.length≤n→Only H→SqL (K w.params) H a (ns.map V.int)→sp w [.ref a] H (fun v _=>v=.bl true) fun _ _ _=>False)
    (hCX:∀ (w:World) (H:Hp) (s:Shared) (e:Value) (s':Shared),CX w [] H s (fun _ _ _=>False) e s'→False) :
    PySem.W.WalkO q loose XP YP l.row.toRowW d [] (fun f vs=>PySem.call f vs):=by
  refine Att.p8 hn hdf fun w s₀ s₁ mg mb fa o pm cd doc a vs ns G Y ho hd hcd hmg hobj hints hlen hg=>?_
  have KX:=hY w _ Y
  obtain ⟨fd,hb,hF⟩:=F w mg fa _ KX G.T.g hmg
  exact wB KX G.T.g G.T.b G.T.builtins G.T.nolimit hg hobj hints (Nat.le_trans hlen hn2) hr hF hb (fun H hO hS=>hsp w H a ns hlen hO hS) fun H e s'=>hCX w H s₁ e s'
end L2
namespace L2
open PySem PySem.Spec PyProof.Rows
abbrev CX0:CXT:=fun _ _ _ _ _ _=>False
abbrev E0:XK:=fun _ _ _=>False
theorem bQ {X:Cx}:Passes CX0 X E0:=fun _ _ _ _ _ _ _ h=>h.elim
structure Fun (K:PySem.W.Frag) (x qual:Str) (st:Stmt) (f:Addr) (fd:FuncData):Prop where
  ex:∃ (oc:Value) (od:Option Addr) (kV doc pm:Value) (an:Option Addr) (cdv ct:Value) (osl:Array (Option Value)),
    fd=PySem.W.fnOf x qual (aq st) (ao st) (ak st) .none kV doc pm an cdv ct∧K.lookup f=some ⟨oc,od,.func fd,osl⟩∧PySem.W.codeIn K cdv qual=true
  kp:PySem.W.keepIn K (.ref f)=true
variable {P:Program} {w:World} {K:PySem.W.Frag} {mg:Str→Option Value} {base:Heap} {T:fH}
theorem Fun.ok {x qual:Str} {st:Stmt} {f:Addr} {fd:FuncData} {N ps:List Str} {k:Nat} {sp:Sp} (F:Fun K x qual st f fd) (S:aH N ps (ak st)) (len:∀ vs H Q E,sp vs H Q E→vs.length=ps.length)
    (hbody:∀ (cdv:Value) (A:Around) (outer:List Env) (s:Shared) (H:Hp) (vs:List V) (Q:VK) (E:XK),jK k (A.deeper (envOfC qual (ak st) s.heap.objs.size f cdv))→sp vs H Q E →
      ∃ t,PSs (vf CX0 P w K mg base N qual (ak st) f cdv A outer s H E).nox (ao st) t∧t { nx:=fun _ H'=>Q .non H',rt:=Q } (start N vs) H):bT P w K mg base CX0 (k + 1) f fd ps sp:=by
  obtain ⟨oc,od,kV,doc,pm,an,cdv,ct,osl,rfl,lk,hcd⟩:=F.ex
  refine FT lk hcd S len fun A outer s H vs Q E hr hsp=>?_
  obtain ⟨t,h,q⟩:=hbody cdv A outer s H vs Q E hr hsp
  exact ⟨t,h.nox,q⟩
theorem Fun.binds {x qual:Str} {st:Stmt} {f:Addr} {fd:FuncData} {ps:List Str} (F:Fun K x qual st f fd)
    (h:∀ (kV doc pm:Value) (an:Option Addr) (cdv ct:Value) (us:List Value),us.length=ps.length→bindArgs (PySem.W.fnOf x qual (aq st) (ao st) (ak st) .none kV doc pm an cdv ct) ⟨us,[]⟩=pure (ps.zip us)):Binds K fd ps []:=by
  obtain ⟨oc,od,kV,doc,pm,an,cdv,ct,osl,rfl,lk,hcd⟩:=F.ex
  exact .all (h kV doc pm an cdv ct)
theorem bG {x qual:Str} {st:Stmt} {f:Addr} {oc:Value} {od an:Option Addr} {osl:Array (Option Value)} {kV doc pm cdv ct:Value} (l:K.lookup f=some ⟨oc,od,.func (PySem.W.fnOf x qual (aq st) (ao st) (ak st) .none kV doc pm an cdv ct),osl⟩)
    (c:PySem.W.codeIn K cdv qual=true) (k:PySem.W.keepIn K (.ref f)=true):Fun K x qual st f (PySem.W.fnOf x qual (aq st) (ao st) (ak st) .none kV doc pm an cdv ct):=⟨⟨oc,od,kV,doc,pm,an,cdv,ct,osl,rfl,l,c⟩,k⟩
section
variable {X:Cx}
theorem pv (i:Nat) {x:Str} {pos:Pos} (hN:X.N[i]?=some x:=by rfl) (hv:Vis X.env.scope x:=by first | exact Or.inl rfl | exact Or.inr (Or.inl rfl) | exact Or.inr (Or.inr rfl)) (hd:(x == ("__debug__":Str))=false:=by decide)
    (hcd:(x == ("__classdict__":Str))=false:=by decide):PE X (.Name x pos) (MJ i):=GP hN hv hd hcd
end
theorem jG {A B:Prop} (h:B):if false=true then A else B:=by
  rw [if_neg Bool.false_ne_true]
  exact h
theorem lM {A B:Prop} (h:A):if true=true then A else B:=by
  rw [if_pos rfl]
  exact h
theorem MN {c A B:Prop} [Decidable c] (h1:c→A) (h2:¬ c→B):if c then A else B:=by
  by_cases h:c
  · rw [if_pos h]
    exact h1 h
  · rw [if_neg h]
    exact h2 h
theorem Nv {c A B:Prop} [Decidable c] (hc:c) (h:B):if (!decide c)=true then A else B:=by
  rw [decide_eq_true hc]
  exact jG h
def Same (H H':Hp):Prop:=∀ b o,H b=some o→H' b=some o
theorem Same.refl (H:Hp):Same H H:=fun _ _ h=>h
theorem Same.free {H H':Hp} (e:Same H H') {l:Addr} (h:H' l=Option.none):H l=Option.none:=by
  cases q:H l with
  | none=>rfl
  | some o =>
    rw [e l o q] at h
    cases h
theorem Same.seq {K:PySem.W.Frag} {H H':Hp} {a:Addr} {xs:List V} (e:Same H H') (h:SqL K H a xs):SqL K H' a xs:=by
  rcases h with (h | ⟨o,h⟩) | h
  · exact .inl (.inl (e _ _ h))
  · exact .inl (.inr ⟨o,e _ _ h⟩)
  · exact .inr h
end L2
namespace L2
open PySem PySem.Spec PyProof.Rows
def clo (cells:List (Str × Addr)):List (Str × NameKind)→List (Str × Addr)→List (Str × Addr)
  | [],cs=>cs
  | (n,k) :: r,cs=>clo cells r (if k == .free then (n,(cells.lookup n).getD 0) :: cs else cs)
theorem uU {env:Env}:∀ (names:List (Str × NameKind)) (cs:List (Str × Addr)),(∀ y∈names,y.2=.free→∃ c,env.cells.lookup y.1=some c) →
    (forIn names cs fun (x:Str × NameKind) (r:List (Str × Addr))=>(do
      let cs:=r
      match x with
      | (name,kind) =>
        if kind == .free then do
          let c ← cellOf env name
          let cs:=(name,c) :: cs
          pure (ForInStep.yield cs)
        else pure (ForInStep.yield cs):Sem (ForInStep (List (Str × Addr)))))=pure (clo env.cells names cs)
  | [],cs,_=>rfl
  | (n,k) :: r,cs,h=>by
    rw [List.forIn_cons]
    by_cases hk:k=.free
    · subst hk
      obtain ⟨c,hc⟩:=h (n,.free) List.mem_cons_self rfl
      have e:cellOf env n=pure c:=by unfold cellOf;rw [hc]
      simp only [beq_self_eq_true,if_true,e,pure_bind]
      rw [uU r _ fun y hy=>h y (List.mem_cons_of_mem _ hy)]
      simp [clo,hc]
    · have hb:(k == NameKind.free)=false:=by simpa using hk
      simp only [hb,Bool.false_eq_true,if_false,pure_bind]
      rw [uU r _ fun y hy=>h y (List.mem_cons_of_mem _ hy)]
      simp [clo,hb]
theorem lN {env:Env} {scope:Scope} (h:∀ y∈scope.names,y.2=.free→∃ c,env.cells.lookup y.1=some c):closureFor scope env=pure (clo env.cells scope.names []):=by
  unfold closureFor
  have e:=uU (env:=env) scope.names [] h
  first
    | (rw [← e];rfl)
    | (simp only [bind_pure];exact e)
    | exact e
theorem uT {cells:List (Str × Addr)}:∀ (names:List (Str × NameKind)) (cs:List (Str × Addr)) (p:Str × Addr),p∈clo cells names cs→p∈cs∨p.2=(cells.lookup p.1).getD 0
  | [],_,_,h=>.inl h
  | (n,k) :: r,cs,p,h=>by
    rcases uT r _ p h with h' | h'
    · by_cases hk:(k == NameKind.free)=true
      · rw [if_pos hk] at h'
        rcases List.mem_cons.mp h' with e | e
        · subst e;exact .inr rfl
        · exact .inl e
      · rw [if_neg hk] at h';exact .inl h'
    · exact .inr h'
theorem qU {cells:List (Str × Addr)}:∀ (names:List (Str × NameKind)) (cs:List (Str × Addr)) (x:Str),(cs.lookup x).isSome=true→((clo cells names cs).lookup x).isSome=true
  | [],_,_,h=>h
  | (n,k) :: r,cs,x,h=>by
    refine qU r _ x ?_
    by_cases hk:(k == NameKind.free)=true
    · rw [if_pos hk]
      rw [List.lookup_cons]
      cases x == n with
      | true=>rfl
      | false=>exact h
    · rw [if_neg hk];exact h
theorem pZ {cells:List (Str × Addr)}:∀ (names:List (Str × NameKind)) (cs:List (Str × Addr)) (x:Str),(x,NameKind.free)∈names→((clo cells names cs).lookup x).isSome=true
  | [],_,_,h=>nomatch h
  | (n,k) :: r,cs,x,h=>by
    show ((clo cells r _).lookup x).isSome=true
    rcases List.mem_cons.mp h with e | e
    · have e1:x=n:=congrArg Prod.fst e
      have e2:NameKind.free=k:=congrArg Prod.snd e
      subst e1
      subst e2
      refine qU r _ x ?_
      rw [if_pos (by decide),List.lookup_cons]
      simp
    · exact pZ r _ x e
theorem Gb {cells:List (Str × Addr)} {names:List (Str × NameKind)} {x:Str} {c:Addr} (h:(clo cells names []).lookup x=some c):c=(cells.lookup x).getD 0:=by
  rcases uT names [] _ (PySem.mem_of_lookup h) with z | z
  · exact nomatch z
  · exact z
theorem qW {cells:List (Str × Addr)}:∀ {names:List (Str × NameKind)} (cs:List (Str × Addr)) {p:Str × Addr},p∈clo cells names cs→p∈cs∨(p.1,NameKind.free)∈names
  | [],_,_,h=>.inl h
  | (n,k) :: r,cs,p,h=>by
    rcases qW (names:=r) _ h with h' | h'
    · by_cases hk:(k == NameKind.free)=true
      · rw [if_pos hk] at h'
        rcases List.mem_cons.mp h' with e | e
        · subst e
          have:k=.free:=by simpa using hk
          subst this
          exact .inr List.mem_cons_self
        · exact .inl e
      · rw [if_neg hk] at h';exact .inl h'
    · exact .inr (List.mem_cons_of_mem _ h')
def iY (X:Cx) (scope:Scope) (N:List Str) (s:Shared) (H:Hp) (ex:List Addr):Cx :=
  { X with N:=N,s₀:=s,H₀:=H,env:=compEnvC scope (clo X.env.cells scope.names []) s.heap.objs.size X.env,outer:=X.stack,stack:=X.stack,ex:=ex,fn:=fun x=>((clo X.env.cells scope.names []).lookup x).isNone,pn:=[],xe:=fun _ _=>False }
def freeOk (sc scope:Scope):Bool:=scope.names.all fun y=>(y.2 != .free) || (sc.names.lookup y.1 == some .cell) || (sc.names.lookup y.1 == some .free)
def vJ (scope:Scope):Bool:=(scope.kind == .function) && (scope.names.all fun y=>y.2 != .cell) && (scope.names.all fun y=>y.2 != .local || scope.names.lookup y.1 == some .local)
def wO (scope:Scope) (N N':List Str) (cap:List (Option Nat)):Bool:=(cap.length == N'.length) && (N'.zip cap).all fun p=>match p.2 with
  | none=>true
  | some j=>N[j]? == some p.1 && scope.names.lookup p.1 == some .free
def uV (cap:List (Option Nat)) (σ:St):St:=cap.map fun o=>o.bind fun j=>(σ[j]?).bind id
theorem jj {f:Str × NameKind→Str × NameKind} (hf:∀ y,(f y).1=y.1) (x:Str):∀ names:List (Str × NameKind),(names.map f).lookup x=(names.lookup x).map fun k=>(f (x,k)).2
  | []=>rfl
  | (n,k) :: r=>by
    have ih:=jj hf x r
    have e1:(f (n,k)).1=n:=hf (n,k)
    have e2:f (n,k)=(n,(f (n,k)).2):=Prod.ext e1 rfl
    rw [List.map_cons,e2,List.lookup_cons,List.lookup_cons]
    cases hx:x == n with
    | true =>
      have:x=n:=by simpa using hx
      subst this
      rfl
    | false=>exact ih
def rlb (env:Env):Str × NameKind→Str × NameKind:=fun (n,k)=>if (k == NameKind.free && env.scope.kind == .function && env.kindOf n == some .cell) then (n,NameKind.cell) else (n,k)
theorem sZ (env:Env) (y:Str × NameKind):(rlb env y).1=y.1:=by
  obtain ⟨n,k⟩:=y
  unfold rlb
  dsimp only
  split <;> rfl
theorem sY (env:Env) (n:Str) (k:NameKind):(rlb env (n,k)).2=k∨((rlb env (n,k)).2=.cell∧k=.free):=by
  unfold rlb
  dsimp only
  split
  · rename_i h
    rw [Bool.and_eq_true,Bool.and_eq_true] at h
    exact .inr ⟨rfl,by simpa using h.1.1⟩
  · exact .inl rfl
theorem ju (scope:Scope) (env:Env):(relabel scope env).names=scope.names.map (rlb env):=rfl
theorem n6 {scope:Scope} {env:Env} {x:Str} (h:scope.names.lookup x=some .free):(relabel scope env).names.lookup x=some .cell∨(relabel scope env).names.lookup x=some .free:=by
  rw [ju,jj (sZ env),h]
  rcases sY env x .free with e | ⟨e,_⟩
  · exact .inr (congrArg some e)
  · exact .inl (congrArg some e)
theorem jP {scope:Scope} {env:Env} {x:Str} {k':NameKind} (hk:k'=.cell∨k'=.free) (hn:∀ y∈scope.names,y.2≠.cell) (h:(relabel scope env).names.lookup x=some k'):(x,NameKind.free)∈scope.names:=by
  rw [ju,jj (sZ env)] at h
  cases e:scope.names.lookup x with
  | none=>rw [e] at h;cases h
  | some k =>
    rw [e] at h
    have h':(rlb env (x,k)).2=k':=Option.some.inj h
    have hm:=PySem.mem_of_lookup e
    rcases sY env x k with z | ⟨_,z⟩
    · rw [z] at h'
      subst h'
      rcases hk with z2 | z2
      · exact absurd z2 (hn _ hm)
      · rw [z2] at hm;exact hm
    · rw [z] at hm;exact hm
def PTs (X:Cx) (ifs:List Expr) (t:TT):Prop :=
  ∀ (pins:List (Addr × Obj)) (s:Shared) (σ:St) (H:Hp) (Q:Bool→Hp→Prop),Inv X pins σ H s→t σ H Q →
    wpAny (model X.prog X.w) X.A (forIn ifs true fun c r=>if r=true then do let ok ← isTrue c X.env (eval c X.env);pure (ForInStep.yield ok) else pure (ForInStep.yield r)) (TP X pins σ Q) X.xe s
def Qg:TT:=fun _ H Q=>Q true H
theorem Eu {i:Nat} {x:V} {τ:St} {H:Hp} {A B:St→Hp→Prop} (h:A (τ.set i (some x)) H):wJ i x τ H fun τ4 H4=>Qg τ4 H4 fun b H5=>if b=true then A τ4 H5 else B τ4 H5:=by
  show if true=true then A (τ.set i (some x)) H else B (τ.set i (some x)) H
  rw [if_pos rfl];exact h
theorem je {X:Cx}:PTs X [] Qg:=fun _ _ _ H _ I h=>wpAny_tests_nil ⟨H,I,h⟩
theorem pK {X:Cx} {c:Expr} {t:TT} (h:PT X c t):PTs X [c] t:=fun pins s σ H Q I hq=>wpAny_tests_one (h pins s σ H Q I hq)
def lQ (J:It) (acc:Addr) (g:TG) (tc:TT) (te:TE) (τ:St) (H1:Hp) (Q:Hp→Prop):Prop :=
  ∃ W:Nat→Nat→St→Hp→Prop,(∃ m,W 0 m τ (upd H1 acc (.lst [])))∧∀ i m τ H2,W i m τ H2→(J.stop i H2∧Q H2)∨(J.go i H2∧∃ N:St→Hp→Prop,(∀ τ' H',N τ' H'→∃ m',m'<m∧W (i + 1) m' τ' H')∧∀ x H3,J.yld i H2 x H3→g x τ H3 fun τ4 H4 =>
    tc τ4 H4 fun b H5=>if b=true then te τ4 H5 fun y H6=>∃ ys,H6 acc=some (.lst ys)∧ys.length<sizeLine∧N τ4 (upd H6 acc (.lst (ys++[y]))) else N τ4 H5)
theorem gJ {lo:Int} {n:Nat} {acc:Addr} {g:TG} {tc:TT} {te:TE} {τ:St} {H1:Hp} {Q:Hp→Prop} (Pv:Nat→St→Hp→Prop) (h0:Pv 0 τ (upd H1 acc (.lst [])))
    (hs:∀ i τ H,i<n→Pv i τ H→g (.int (lo + i)) τ H fun τ4 H4=>tc τ4 H4 fun b H5=>if b=true then te τ4 H5 fun y H6=>∃ ys,H6 acc=some (.lst ys)∧ys.length<sizeLine∧Pv (i + 1) τ4 (upd H6 acc (.lst (ys++[y]))) else Pv (i + 1) τ4 H5)
    (hd:∀ τ H,Pv n τ H→Q H):lQ (Itr lo n) acc g tc te τ H1 Q:=by
  refine ⟨fun i m τ H=>m=n - i∧i≤n∧Pv i τ H,⟨n,by simp,Nat.zero_le _,h0⟩,?_⟩
  rintro i m τ H ⟨rfl,hi,p⟩
  by_cases hlt:i<n
  · refine .inr ⟨hlt,Pv (i + 1),fun τ' H' p'=>⟨n - (i + 1),by omega,rfl,hlt,p'⟩,fun x H' y=>?_⟩
    obtain ⟨e,y⟩:=y
    subst e y
    exact hs i τ _ hlt p
  · have e:i=n:=by omega
    subst e
    exact .inl ⟨Nat.le_refl _,hd τ H p⟩
theorem oN {K:PySem.W.Frag} {a:Addr} {xs:List V} {acc:Addr} {g:TG} {tc:TT} {te:TE} {τ:St} {H1:Hp} {Q:Hp→Prop} (Pv:Nat→St→Hp→Prop) (h0:Pv 0 τ (upd H1 acc (.lst []))) (hl:∀ i τ H,i≤xs.length→Pv i τ H→SqL K H a xs)
    (hs:∀ i x τ H,xs[i]?=some x→Pv i τ H→g x τ H fun τ4 H4=>tc τ4 H4 fun b H5=>if b=true then te τ4 H5 fun y H6=>∃ ys,H6 acc=some (.lst ys)∧ys.length<sizeLine∧Pv (i + 1) τ4 (upd H6 acc (.lst (ys++[y]))) else Pv (i + 1) τ4 H5)
    (hd:∀ τ H,Pv xs.length τ H→Q H):lQ (Itl K a) acc g tc te τ H1 Q:=by
  refine ⟨fun i m τ H=>m=xs.length - i∧i≤xs.length∧Pv i τ H,⟨xs.length,by simp,Nat.zero_le _,h0⟩,?_⟩
  rintro i m τ H ⟨rfl,hi,p⟩
  have q:=hl i τ H hi p
  by_cases hlt:i<xs.length
  · refine .inr ⟨⟨xs,xs[i],q,by simp [hlt]⟩,Pv (i + 1),fun τ' H' p'=>⟨xs.length - (i + 1),by omega,rfl,hlt,p'⟩,fun x H' y=>?_⟩
    obtain ⟨e,y⟩:=y
    subst e
    exact hs i x τ _ (y xs q) p
  · have e:i=xs.length:=by omega
    subst e
    exact .inl ⟨⟨xs,q,Nat.le_refl _⟩,hd τ H p⟩
def Fd (wi:TI) (cap:List (Option Nat)) (g:TG) (tc:TT) (te:TE):TE:=fun σ H Q=>wi σ H fun J H1=>∀ acc,H1 acc=none→lQ J acc g tc te (uV cap σ) H1 (fun H2=>Q (.ref acc) H2)
abbrev Mx (ifs:List Expr) (env:Env):Sem Bool:=forIn ifs true fun c r=>if r=true then do let ok ← isTrue c env (eval c env);pure (ForInStep.yield ok) else pure (ForInStep.yield r)
abbrev wpQ {α:Type} (prog:Program) (w:World) (A:Around) (m:Sem α) (Q:α→Shared→Prop) (s:Shared):Prop:=wpAny (model prog w) A m Q (fun _ _=>False) s
theorem uQ {prog:Program} {w:World} {A:Around} {R:Result→Shared→Prop} {s:Shared} {elt target iter:Expr} {ifs:List Expr} {scope:Scope} {pos:Pos} {it acc:Value} {env:Env} (I:Nat→Shared→Prop)
    (turn:∀ k s0,I k s0→wpQ prog w A (pyNext it) (fun r s1=>(r=none∧R (.ok .next) s1)∨∃ v,r=some v ∧
      wpQ prog w A (letOwnedTupleGo target it v) (fun _ s2=>wpQ prog w A (assign target env v) (fun _ s3=>wpQ prog w A (Mx ifs env) (fun ok s4 =>
        (ok=false∧∃ m,m<k∧I m s4)∨(ok=true∧wpQ prog w A (eval elt env) (fun x s5=>wpQ prog w A (call (.builtin "list.append") [acc,x]) (fun _ s6=>∃ m,m<k∧I m s6) s5) s4)) s3) s2) s1) s0)
    (k:Nat) (h:I k s):codeAny (model prog w) A (.compLoop (.ListComp elt [⟨target,iter,ifs,0⟩] scope pos) 0 it acc env) R s:=by
  have quiet:∀ (e:Value) (s':Shared),False→notedBy (model prog w) A env (fun e s'=>R (.error e) s') e s':=fun _ _ z=>z.elim
  apply codeAny_loop rfl I _ k h
  intro k s0 start
  apply wpAny_noted
  rw [compTurn_list]
  apply wpAny_bind
  apply wpAny_standAt
  apply wpAny_bind
  apply wpAny_mono (turn k s0 start) _ quiet
  rintro r s1 (⟨rfl,stop⟩ | ⟨v,rfl,rest⟩)
  · exact wpAny_pure stop
  apply wpAny_bind
  apply wpAny_mono rest _ quiet
  intro _ s2 h2
  apply wpAny_bind
  apply wpAny_mono h2 _ quiet
  intro _ s3 h3
  apply wpAny_bind
  apply wpAny_mono h3 _ quiet
  rintro ok s4 (⟨rfl,skip⟩ | ⟨rfl,add⟩)
  · exact wpAny_pure ⟨rfl,skip⟩
  apply wpAny_bind
  apply wpAny_bind
  apply wpAny_mono add _ quiet
  intro x s5 h5
  apply wpAny_bind
  apply wpAny_mono h5 _ quiet
  intro _ s6 h6
  exact wpAny_pure (wpAny_pure ⟨rfl,h6⟩)
section
variable {X:Cx} {tg iter elt:Expr} {ifs:List Expr} {scope:Scope} {pos:Pos} {wi:TI} {N':List Str} {cap:List (Option Nat)} {g:TG} {tc:TT} {te:TE}
theorem mD {use:Option (Value→Sem Unit)} {R:Value→Shared→Prop} (sc:Scope) (hsc:X.env.scope=sc) (N₀:List Str) (hN₀:X.N=N₀) (f1:freeOk sc scope=true) (f2:vJ scope=true) (f3:wO scope N₀ N' cap=true) (hcalm:X.calm=true)
    (hi:PI X tg iter wi)
    (hg:∀ (s:Shared) (H:Hp) (ex:List Addr),PG (iY X scope N' s H ex) tg g)
    (hc:∀ (s:Shared) (H:Hp) (ex:List Addr),PTs (iY X scope N' s H ex) ifs tc)
    (he:∀ (s:Shared) (H:Hp) (ex:List Addr),PE (iY X scope N' s H ex) elt te)
    (hs:∀ x,foldedSetIterable iter X.env x=pure x)
    {pins:List (Addr × Obj)} {s:Shared} {σ:St} {H:Hp} {Q:V→Hp→Prop} (I:Inv X pins σ H s) (h:Fd wi cap g tc te σ H Q)
    (fin:∀ (acc C:Addr) (s':Shared) (H':Hp) (m:Str→Option Value),Inv X pins σ H' s'→s'.heap.Ns C m→H' C=none→C≠X.env.locals→X.s₀.heap.objs.size≤C→(∀ x c,X.env.cells.lookup x=some c→c≠C)→(∀ p∈X.pn++pins,p.1≠C)→Q (.ref acc) H' →
      compPost (model X.prog X.w) X.A X.xe use R (.ref acc) C (.ok .next) s') :
    wpAny (model X.prog X.w) X.A (comprehension (.ListComp elt [⟨tg,iter,ifs,0⟩] scope pos) scope X.env (firstIterPos [⟨tg,iter,ifs,0⟩] pos) (newList []) false (firstIter [⟨tg,iter,ifs,0⟩] X.env) use) R X.xe s:=by
  have ok:=I.ok
  have fr:∀ y∈scope.names,y.2=.free→X.env.kindOf y.1=some .cell∨X.env.kindOf y.1=some .free:=fun y hy e=>by
    have q:=List.all_eq_true.mp f1 y hy
    rw [e] at q
    have q':((sc.names.lookup y.1 == some NameKind.cell) || (sc.names.lookup y.1 == some NameKind.free))=true:=by simpa using q
    rw [Bool.or_eq_true] at q'
    unfold Env.kindOf
    rw [hsc]
    rcases q' with z | z
    · exact .inl (by simpa using z)
    · exact .inr (by simpa using z)
  obtain ⟨⟨k1,k2⟩,k3⟩:((scope.kind == .function)=true∧(scope.names.all fun y=>y.2 != .cell)=true)∧(scope.names.all fun y=>y.2 != .local || scope.names.lookup y.1 == some .local)=true:=by
    unfold vJ at f2
    rw [Bool.and_eq_true,Bool.and_eq_true] at f2
    exact f2
  have hkind:scope.kind=.function:=by simpa using k1
  have hcell:∀ y∈scope.names,y.2≠.cell:=fun y hy=>by
    have q:=List.all_eq_true.mp k2 y hy
    simpa using q
  have hnames:∀ y∈scope.names,y.2=.local→scope.names.lookup y.1=some .local:=fun y hy e=>by
    have q:=List.all_eq_true.mp k3 y hy
    rw [e] at q
    simpa using q
  have hclos:closureFor scope X.env=pure (clo X.env.cells scope.names []):=lN fun y hy e=>ok.has y.1 (fr y hy e)
  have clX:∀ x c,(clo X.env.cells scope.names []).lookup x=some c→X.env.cells.lookup x=some c:=fun x c e=>by
    have e1:=Gb e
    have hx:(x,NameKind.free)∈scope.names:=by
      rcases qW [] (PySem.mem_of_lookup e) with z | z
      · exact nomatch z
      · exact z
    obtain ⟨c',e2⟩:=ok.has x (fr (x,.free) hx rfl)
    rw [e2] at e1 ⊢
    rw [e1];rfl
  refine wpAny_comprehension_free (use:=use) rfl hs hclos hkind hnames ?_
  show wpAny (model X.prog X.w) X.A (eval iter X.env) _ X.xe s
  refine thn (hi pins s σ H _ I h) fun v s1 h1=>thn h1 fun itv s2 h2=>?_
  obtain ⟨it,fp,tn,J,H2,e,I2,T,st2,f2',h3⟩:=h2
  subst e
  refine wpAny_newObj_type ?_
  have fresh2:H2 s2.heap.objs.size=none:=I2.hok.fresh (Nat.le_refl _)
  have I3:Inv X pins σ (upd H2 s2.heap.objs.size (.lst [])) { s2 with heap:=s2.heap.push { cls:=.type "list",data:=.seq ([]:List Value).toArray } } :=
    I2.laid (t':=s2.toks) (fun b o e=>Heap.get?_push_of_some _ e) (Nat.le_refl _) ⟨Nat.zero_le _,[],0,.nil,Heap.get?_push_size _ rfl⟩
  have st3:tn 0 (s2.heap.push { cls:=.type "list",data:=.seq ([]:List Value).toArray }):=T.keep _ _ _ st2 fun b _ o e=>Heap.get?_push_of_some _ e
  have fpne:∀ b∈fp,b≠s2.heap.objs.size:=fun b hb z=>by
    obtain ⟨o,eo,_⟩:=T.obj 0 _ st2 b hb
    exact absurd (Heap.lt_size eo) (by rw [z];exact Nat.lt_irrefl _)
  have fp3:∀ b∈fp,wW X pins (upd H2 s2.heap.objs.size (.lst [])) b:=fun b hb=>by
    obtain ⟨a0,a1⟩:=f2' b hb
    exact ⟨by rw [aM (fpne b hb)];exact a0,a1⟩
  obtain ⟨W,⟨m0,w0⟩,turn⟩:=h3 s2.heap.objs.size fresh2
  generalize hacc:s2.heap.objs.size=acc at I3 fp3 w0 turn fpne ⊢
  generalize hs3:({ s2 with heap:=s2.heap.push { cls:=.type "list",data:=.seq ([]:List Value).toArray } }:Shared)=s3 at I3 ⊢
  have st3:tn 0 s3.heap:=by rw [← hs3];exact st3
  have accTr:(upd H2 acc (.lst [])) acc=some (.lst []):=bR
  refine wpAny_newFunctionEnv hcell (by intro y hy;cases hy) (fun h4 hns hsb=>?_) hkind
  have hCf:s3.heap.get? s3.heap.objs.size=none:=Heap.get?_none_of_le (Nat.le_refl _)
  have kp4:∀ b o,s3.heap.get? b=some o→h4.get? b=some o:=fun b o e=>hsb.extBut b o (Nat.ne_of_lt (Heap.lt_size e)) (Heap.get?_push_of_some _ e)
  let Y:Cx:=iY X scope N' s3 (upd H2 acc (.lst [])) fp
  have envY:Y.env=compEnvC scope (clo X.env.cells scope.names []) s3.heap.objs.size X.env:=rfl
  have okY:Y.Ok:=by
    refine ⟨ok.mod,?_,ok.glob,ok.blt,Nat.le_refl _,?_,?_,?_,ok.hd,ok.frames,.inl rfl,?_,?_,?_,?_,?_,?_,?_⟩
    · show (relabel scope X.env).kind=.function
      exact hkind
    · exact fun x y c h1 h2=>ok.inj x y c (clX x c h1) (clX y c h2)
    · intro x hx
      have hx':(relabel scope X.env).names.lookup x=some .cell∨(relabel scope X.env).names.lookup x=some .free:=hx
      have hm:(x,NameKind.free)∈scope.names:=by
        rcases hx' with z | z
        · exact jP (.inl rfl) hcell z
        · exact jP (.inr rfl) hcell z
      exact Option.isSome_iff_exists.mp (pZ scope.names [] x hm)
    · intro x c hx h1
      have hx':((clo X.env.cells scope.names []).lookup x).isNone=true:=hx
      have h1':(clo X.env.cells scope.names []).lookup x=some c:=h1
      rw [h1'] at hx';cases hx'
    · intro b hb
      obtain ⟨q0,q1,q2,q3,q4,q5⟩:=fp3 b hb
      refine ⟨?_,fun x c h1=>q4 x c (clX x c h1)⟩
      obtain ⟨o,eo,_⟩:=T.obj 0 _ st3 b hb
      exact Nat.ne_of_lt (Heap.lt_size eo)
    · exact fun b o e=>I3.bs b o e
    · exact Nat.le_trans ok.bsz I3.sz
    · intro b o e hb
      obtain ⟨q0,q1,q2,q3,q4,q5⟩:=fp3 b hb
      rcases q3 with z | z
      · exact ok.noex b o e z
      · exact absurd (Nat.lt_of_lt_of_le (Heap.lt_size e) (Nat.le_trans ok.bsz z)) (Nat.lt_irrefl _)
    · intro b hb hf
      obtain ⟨q0,q1,q2,q3,q4,q5⟩:=fp3 b hb
      rcases List.mem_cons.mp (I3.sE b hf) with z | z
      · exact q1 z
      · exact q2 z
    · exact I3.stack
    · exact I3.pq
  have capl:cap.length=N'.length∧∀ p∈N'.zip cap,(match p.2 with | none=>true | some j=>N₀[j]? == some p.1 && scope.names.lookup p.1 == some .free)=true:=by
    unfold wO at f3
    rw [Bool.and_eq_true] at f3
    exact ⟨by simpa using f3.1,fun p hp=>List.all_eq_true.mp f3.2 p hp⟩
  have IY:Inv Y [] (uV cap σ) (upd H2 acc (.lst [])) { s3 with heap:=h4,toks:=s3.toks + ([]:List (Str × Value)).length }:=by
    refine ⟨okY,rfl,I3.bare,Un.kept kp4,⟨_,hns,?_⟩,?_,?_,?_,fun p hp=>absurd (show p∈([]:List (Addr × Obj)) from hp) (by simp),I3.hok.kept kp4,?_⟩
    · intro i x v e1 e2 e3
      have e1':N'[i]?=some x:=e1
      unfold uV at e2
      rw [List.getElem?_map] at e2
      cases ec:cap[i]? with
      | none=>rw [ec] at e2;cases e2
      | some o =>
        rw [ec] at e2
        cases o with
        | none=>cases e2
        | some j =>
          have e2':(σ[j]?).bind id=some v:=by simpa using e2
          have hz:(x,some j)∈N'.zip cap:=by
            refine List.mem_of_getElem? (i:=i) ?_
            rw [List.getElem?_zip_eq_some]
            exact ⟨e1',ec⟩
          have q:=capl.2 _ hz
          have q':(N₀[j]? == some x)=true∧(scope.names.lookup x == some NameKind.free)=true:=by simpa [Bool.and_eq_true] using q
          have q1:X.N[j]?=some x:=by rw [hN₀];simpa using q'.1
          have q2:scope.names.lookup x=some .free:=by simpa using q'.2
          have eσ:σ[j]?=some (some v):=by
            cases z:σ[j]? with
            | none=>rw [z] at e2';cases e2'
            | some y =>
              rw [z] at e2'
              have:y=some v:=e2'
              rw [this]
          have hk:=fr (x,.free) (PySem.mem_of_lookup q2) rfl
          obtain ⟨m,hn,hl⟩:=I3.loc
          have vis:Vis X.env.scope x:=by
            rcases hk with z | z
            · exact .inr (.inl z)
            · exact .inr (.inr z)
          obtain ⟨u,r,l⟩:=hl j x v q1 eσ vis
          refine ⟨u,r,.inr ⟨?_,?_⟩⟩
          · rcases n6 (scope:=scope) (env:=X.env) q2 with z | z
            · exact .inl z
            · exact .inr z
          · rcases l with ⟨kl,_⟩ | ⟨_,c,ecx,hcx⟩
            · rcases hk with z | z
              · have z':X.env.kindOf x=some .cell:=z
                rw [kl] at z';cases z'
              · have z':X.env.kindOf x=some .free:=z
                rw [kl] at z';cases z'
            · have hh:=pZ (cells:=X.env.cells) scope.names [] x (PySem.mem_of_lookup q2)
              obtain ⟨c',ec'⟩:=Option.isSome_iff_exists.mp hh
              have ec2:=clX x c' ec'
              rw [ecx] at ec2
              cases ec2
              exact ⟨c,ec',hcx.keeps kp4⟩
    · intro x c e
      obtain ⟨v,z⟩:=I3.cell x c (clX x c e)
      exact ⟨v,z.keeps kp4⟩
    · exact I3.hok.fresh (Nat.le_refl _)
    · exact fun x c e=>I3.freeC x c (clX x c e)
    · show (uV cap σ).length=N'.length
      unfold uV
      rw [List.length_map];exact capl.1
  have fpY:∀ {H':Hp},(∀ b∈fp,H' b=none)→∀ b∈fp,wW Y [] H' b:=fun {H'} hn b hb=>by
    obtain ⟨q0,q1,q2,q3,q4,q5⟩:=fp3 b hb
    refine ⟨hn b hb,(okY.exf b hb).1,okY.exfs b hb,.inl hb,(okY.exf b hb).2,fun p hp=>absurd (show p∈([]:List (Addr × Obj)) from hp) (by simp)⟩
  have st4:tn 0 h4:=T.keep _ _ _ st3 fun b _ o e=>kp4 b o e
  have back:∀ {τ:St} {H':Hp} {s':Shared},Inv Y [] τ H' s'→Q (.ref acc) H'→compPost (model X.prog X.w) X.A X.xe use R (.ref acc) s3.heap.objs.size (.ok .next) s':=fun {τ H' s'} J q=>by
    have un:Un (frs X.stack) fp (upd H2 acc (.lst [])) H' s3.heap s'.heap:=J.base
    have IX:Inv X pins σ H' s':=I3.call' (J.os) un J.hok J.bare fun b hb=>by
      obtain ⟨q0,q1,q2,q3,q4,q5⟩:=fp3 b hb
      exact ⟨q3,q1,q4,q5⟩
    obtain ⟨m,hn,_⟩:=J.loc
    refine fin acc s3.heap.objs.size s' H' m IX hn J.free (Nat.ne_of_gt I3.lt) I3.sz (fun x c e z=>?_) (fun p hp z=>?_) q
    · obtain ⟨v,q⟩:=I3.cell x c e
      exact absurd q.lt (by rw [z];exact Nat.lt_irrefl _)
    · exact absurd (Heap.lt_size (I3.pin p hp).1) (by rw [z];exact Nat.lt_irrefl _)
  have loop:∀ s5:Shared,s5={ s3 with heap:=h4,toks:=s3.toks + ([]:List (Str × Value)).length } →
      codeAny (model X.prog X.w) X.A (.compLoop (.ListComp elt [⟨tg,iter,ifs,0⟩] scope pos) 0 (.ref it) (.ref acc) Y.env) (compPost (model X.prog X.w) X.A X.xe use R (.ref acc) s3.heap.objs.size) s5:=by
    rintro s5 rfl
    refine uQ (fun n s'=>∃ i τ H',Inv Y [] τ H' s'∧tn i s'.heap∧(∀ b∈fp,H' b=none)∧W i n τ H') ?_ m0 ⟨0,_,_,IY,st4,fun b hb=>(fp3 b hb).1,w0⟩
    rintro n s6 ⟨i,τ,H6,I6,st6,fr6,w6⟩
    rcases turn i n τ H6 w6 with ⟨stop,q⟩ | ⟨go,N,hN,step⟩
    · refine wpAny_mono (T.done Y rfl rfl rfl hcalm i [] s6 τ H6 (fun _ _=>False) I6 (fpY fr6) st6 stop) (fun r s7 ⟨hr,I7⟩=>?_) fun _ _ z=>z.elim
      exact .inl ⟨hr,back I7 q⟩
    · refine wpAny_mono (T.item Y rfl rfl rfl hcalm i [] s6 τ H6 (fun _ _=>False) I6 (fpY fr6) st6 go) (fun r s6b ⟨u,hr,h7⟩=>?_) fun _ _ z=>z.elim
      refine .inr ⟨u,hr,?_⟩
      refine wpAny_mono h7 (fun _ s7 ⟨x,H7,I7,r7,y7,st7,fr7⟩=>?_) fun _ _ z=>z.elim
      have I7':=I7.pinned (fpY fr7) (T.obj _ _ st7)
      have again:∀ {τ8:St} {H8:Hp} {s8:Shared},Inv Y ([]++oA fp s7.heap) τ8 H8 s8→N τ8 H8→∃ m,m<n∧∃ i τ H',Inv Y [] τ H' s8∧tn i s8.heap∧(∀ b∈fp,H' b=none)∧W i m τ H':=fun {τ8 H8 s8} I8 n8=>by
        obtain ⟨m',hm,w8⟩:=hN τ8 H8 n8
        refine ⟨m',hm,i + 1,τ8,H8,I8.j4,T.keep _ _ _ st7 fun b hb o e=>(I8.pin (b,o) (List.mem_append_right _ (List.mem_append_right _ (iU hb e)))).1,fun b hb=>?_,w8⟩
        obtain ⟨o,e,d⟩:=T.obj _ _ st7 b hb
        exact (I8.pin (b,o) (List.mem_append_right _ (List.mem_append_right _ (iU hb e)))).2.1
      refine wpAny_mono (hg s3 (upd H2 acc (.lst [])) fp _ s7 τ H7 x u _ I7' r7 (step x H7 y7)) (fun _ s8 ⟨τ8,H8,I8,q8⟩=>?_) fun _ _ z=>z.elim
      refine wpAny_mono (hc s3 (upd H2 acc (.lst [])) fp _ s8 τ8 H8 _ I8 q8) (fun b s9 ⟨H9,I9,q9⟩=>?_) fun _ _ z=>z.elim
      cases b with
      | false =>
        rw [if_neg Bool.false_ne_true] at q9
        exact .inl ⟨rfl,again I9 q9⟩
      | true =>
        rw [if_pos rfl] at q9
        refine .inr ⟨rfl,?_⟩
        refine wpAny_mono (he s3 (upd H2 acc (.lst [])) fp _ s9 τ8 H9 _ I9 q9) (fun y s10 ⟨yv,H10,I10,r10,ys,hl,hz,q10⟩=>?_) fun _ _ z=>z.elim
        refine wpAny_mono (cM (X:=Y) _ s10 τ8 H10 (.ref acc) [yv] (.ref acc) [y] (fun v H'=>N τ8 H') I10 rfl (.cons r10 .nil) ⟨acc,ys,yv,rfl,rfl,hl,hz,q10⟩) (fun v s11 ⟨vv,H11,I11,r11,q11⟩=>?_) fun _ _ z=>z.elim
        exact again I11 q11
  exact codeAny_compStart_list (loop _ rfl) (T.self _ _ _ _ _ st4 (loop _ rfl))
theorem gR (sc:Scope) (hsc:X.env.scope=sc) (N₀:List Str) (hN₀:X.N=N₀) (N':List Str) (cap:List (Option Nat)) (f1:freeOk sc scope=true) (f2:vJ scope=true) (f3:wO scope N₀ N' cap=true) (hcalm:X.calm=true)
    (hi:PI X tg iter wi)
    (hg:∀ (s:Shared) (H:Hp) (ex:List Addr),PG (iY X scope N' s H ex) tg g)
    (hc:∀ (s:Shared) (H:Hp) (ex:List Addr),PTs (iY X scope N' s H ex) ifs tc)
    (he:∀ (s:Shared) (H:Hp) (ex:List Addr),PE (iY X scope N' s H ex) elt te)
    (hs:∀ x,foldedSetIterable iter X.env x=pure x:=by intro _;rfl) :
    PE X (.ListComp elt [⟨tg,iter,ifs,0⟩] scope pos) (Fd wi cap g tc te):=by
  intro pins s σ H Q I h
  rw [eval_ListComp]
  refine mD (use:=none) sc hsc N₀ hN₀ f1 f2 f3 hcalm hi hg hc he hs I h ?_
  intro acc C s' H' m IX hn hC h1 h2 h3 h4 q
  refine ⟨m,hn,fun h'' hs''=>?_⟩
  exact ⟨.ref acc,H',IX.turned (t':=s'.toks) (fun b o hb e=>(hs''.2 b hb).trans e) hC h1 (.inr h2) h3 h4,rfl,q⟩
theorem rG {i:Nat} {x:Str} {pos' spos:Pos} (sc:Scope) (hsc:X.env.scope=sc) (N₀:List Str) (hN₀:X.N=N₀) (N':List Str) (cap:List (Option Nat)) (f1:freeOk sc scope=true) (f2:vJ scope=true) (f3:wO scope N₀ N' cap=true) (hcalm:X.calm=true)
    (hnd:X.N.Nodup) (hix:X.N[i]?=some x) (hx:X.env.scope.names.lookup x=some .local)
    (hi:PI X tg iter wi)
    (hg:∀ (s:Shared) (H:Hp) (ex:List Addr),PG (iY X scope N' s H ex) tg g)
    (hc:∀ (s:Shared) (H:Hp) (ex:List Addr),PTs (iY X scope N' s H ex) ifs tc)
    (he:∀ (s:Shared) (H:Hp) (ex:List Addr),PE (iY X scope N' s H ex) elt te)
    (hsw:swapsWith (.ListComp elt [⟨tg,iter,ifs,0⟩] scope pos) (some (.Name x pos')) spos.line X.env=pure true)
    (hs:∀ x,foldedSetIterable iter X.env x=pure x:=by intro _;rfl) :
    PS X (.Assign [.Name x pos'] (.ListComp elt [⟨tg,iter,ifs,0⟩] scope pos) spos) (Nm (Fd wi cap g tc te) (wJ i)):=by
  intro pins s σ H D I h
  rw [exec_Assign_Name_used _ _ _ _ hsw]
  refine wpAny_bind (wpAny_standAt (wpAny_bind ?_))
  show wpAny _ X.A (do let _ ← comprehension (.ListComp elt [⟨tg,iter,ifs,0⟩] scope pos) scope X.env _ (newList []) false (firstIter [⟨tg,iter,ifs,0⟩] X.env) (some (assign (.Name x pos') X.env))) _ _ s
  refine wpAny_bind (wpAny_mono (mD (use:=some (assign (.Name x pos') X.env)) (R:=fun _ s'=>SP X pins D .next s') sc hsc N₀ hN₀ f1 f2 f3 hcalm hi hg hc he hs I h ?_) (fun _ s' hq=>wpAny_pure (wpAny_pure hq)) fun _ _ e=>e)
  intro acc C s' H' m IX hn hC h1 h2 h3 h4 q
  show wpAny _ X.A (assign (.Name x pos') X.env (.ref acc)) _ _ _
  refine wpAny_assign_Name (nJ (v:=.ref acc) IX hnd hix (.inl hx) rfl (fun s2 I2 hsb=>?_) (.inr hx))
  obtain ⟨a,sb,ha⟩:=hsb
  have hCa:C≠a:=by
    rcases ha with z | z
    · rw [z];exact h1
    · exact fun w=>h3 x a z w.symm
  refine ⟨m,hn.sameBut sb hCa,fun h'' hs''=>?_⟩
  exact ⟨_,H',I2.turned (t':=s2.toks) (fun b o hb e=>(hs''.2 b hb).trans e) hC h1 (.inr h2) h3 h4,q⟩
end
end L2
namespace L2
open PySem PySem.Spec PyProof.Rows
section
variable {X:Cx}
def Ql (K:PySem.W.Frag) (neg:Bool):R2:=fun x y H Q=>∃ (a b:Addr) (ns ms:List Int),x=.ref a∧y=.ref b∧SqL K H a (ns.map V.int)∧SqL K H b (ms.map V.int)∧Q (.bl (if neg then !decide (ns=ms) else decide (ns=ms))) H
theorem gq:lJ X (.builtin "isinstance") (fun xs H Q=>∃ x t c b,xs=[x,.ty c]∧qd X.K H x t∧PySem.W.kitOne X.K t (.type c)=some b∧Q (.bl b) H):=by
  intro pins s σ H xs us Q I r h
  obtain ⟨x,t,c,b,rfl,ty,e,q⟩:=h
  obtain ⟨u,w,rfl,ru,rw'⟩:=vals2 r
  obtain rfl:w=Value.type c:=rw'
  exact uF I ru ty e fun tk=>⟨.bl b,H,I.tok tk,rfl,q⟩
theorem rF:∀ (bs:List Bool),((List.range bs.length).all fun i=>(bs[i]?).getD true)=bs.all id:=by
  intro bs
  rw [Bool.eq_iff_iff]
  simp only [List.all_eq_true,List.mem_range,id_eq]
  constructor
  · intro h b hb
    obtain ⟨i,hi,e⟩:=List.getElem_of_mem hb
    have:=h i hi
    rw [List.getElem?_eq_getElem hi,e] at this
    exact this
  · intro h i hi
    rw [List.getElem?_eq_getElem hi]
    exact h _ (List.getElem_mem hi)
theorem nA (hc:X.calm=true):lJ X (.builtin "all") (fun xs H Q=>∃ (p:Addr) (bs:List Bool),xs=[.ref p]∧SqL X.K H p (bs.map V.bl)∧Q (.bl (bs.all id)) H):=by
  intro pins s σ H xs us Q I r h
  obtain ⟨p,bs,rfl,hq,q⟩:=h
  obtain ⟨u,rfl,ru⟩:=vals1 r
  cases ru
  obtain ⟨its,r1,p1,hz⟩:=I.list hq
  have hl:=p1.isList
  have hlt:p<s.heap.objs.size:=p1.lt
  have hlen:=r1.length
  rw [List.length_map] at hlen
  refine call_all_walk (wpAny_pyIter_list hl ?_)
  refine ⟨s.heap.objs.size,[s.heap.objs.size,p],[s.heap.objs.size],its.toArray.size,_,_,fun i=>(bs[i]?).getD true,rfl,Walks.list (A:=X.A.in1) (I.ok.hd hc) _ p (Nat.ne_of_lt hlt) its.toArray,
    ⟨⟨_,Heap.get?_push_size _ rfl,rfl,rfl⟩,hl.push _⟩,fun i v s' Q' E' hP hQ=>?_,fun h' tk hk=>?_⟩
  · have hP':its[i]?=some v:=by simpa using hP
    have hi:i<bs.length:=by
      have:=(List.getElem?_eq_some_iff.mp hP').1
      omega
    obtain ⟨u,eu,ru⟩:=r1.get (x:=.bl bs[i]) (by rw [List.getElem?_map,List.getElem?_eq_getElem hi];rfl)
    rw [hP'] at eu
    cases eu
    cases ru
    dsimp only at hQ
    rw [List.getElem?_eq_getElem hi] at hQ
    exact wpAny_truthy_bool hQ
  · have e:((List.range its.toArray.size).all fun i=>(bs[i]?).getD true)=bs.all id:=by
      rw [List.size_toArray,← hlen];exact rF bs
    rw [e]
    refine ⟨.bl _,H,I.kept fun b o eo=>hk b o (fun hm=>?_) (Heap.get?_push_of_some _ eo),rfl,q⟩
    rw [List.mem_singleton.mp hm] at eo
    exact Nat.lt_irrefl _ (Heap.lt_size eo)
end
end L2
namespace L2
open PySem PySem.Spec PyProof.Rows
section
variable {X:Cx} {st:Stmt} {rest:List Stmt} {t u:TS}
def M9 (t u:TS):TS:=fun D σ H=>∃ M:St→Hp→Prop,t { D with nx:=M } σ H∧∀ σ' H',M σ' H'→u D σ' H'
theorem jx (h1:PS X st t) (h2:PSs X rest u):PSs X (st :: rest) (M9 t u):=by
  intro pins s σ H D I h
  obtain ⟨M,ha,hb⟩:=h
  refine wpAny_execs_cons (thn (h1 pins s σ H { D with nx:=M } I ha) fun f s1 q=>?_)
  cases f with
  | next =>
    obtain ⟨σ',H',I',q⟩:=q
    exact h2 pins s1 σ' H' D I' (hb σ' H' q)
  | ret v=>exact q
  | brk=>exact q
  | cont=>exact q
end
end L2
namespace L2
open PySem PySem.Spec PyProof.Rows
def Qy (H:Hp) (P:List V→Prop) (Q:VK):Prop:=∀ (l:Addr) (H':Hp) (xs:List V),Same H H'→H l=none→H' l=some (.lst xs)→P xs→Q (.ref l) H'
structure Df (K:PySem.W.Frag) (mg:Str→Option Value) (x:Str) (st:Stmt) (ps:List Str) (a:Addr) (fd:FuncData):Prop where
  F:Fun K x x st a fd
  b:Binds K fd ps []
  m:mg x=some (.ref a)
theorem Same.upd {H H':Hp} {l:Addr} {o:HO} (s:Same H H') (h:H l=none):Same H (L2.upd H' l o):=fun b u e=>by
  rw [aM (cB e h)];exact s b u e
theorem ints_get {ns:List Int} {i:Nat} {y:V} (h:(ns.map V.int)[i]?=some y):∃ z,ns[i]?=some z∧y=V.int z:=by
  rw [List.getElem?_map] at h
  cases e:ns[i]? with
  | none=>rw [e] at h;cases h
  | some z=>rw [e] at h;exact ⟨z,rfl,(Option.some.inj h).symm⟩
theorem bV {ns:List Int} {i:Nat} {z:Int} (h:ns[i]?=some z):atI (ns.map V.int) (i:Int)=some (V.int z):=fU (by rw [List.getElem?_map,h];rfl)
theorem j8 {ns:List Int} {i:Int} {z:Int} (h0:0≤i) (h:ns[i.toNat]?=some z):atI (ns.map V.int) i=some (V.int z):=by
  obtain ⟨k,rfl⟩:=Int.eq_ofNat_of_zero_le h0
  exact bV (by simpa using h)
theorem jF {n j:Nat} (h:j<n):ixN n (j:Int)=some j:=by
  unfold ixN
  rw [if_pos (by omega),if_pos (by omega)];simp
theorem vB {n:Nat} (h:n≤100000):n≤sizeLine:=Nat.le_trans h (by decide)
theorem aU {n:Nat} (h:n≤100000):n<sizeLine:=Nat.lt_of_le_of_lt h (by decide)
structure Blt (mg:Str→Option Value):Prop where
  len:mg "len"=none
  range:mg "range"=none
  list:mg "list"=none
  isinstance:mg "isinstance"=none
  bool:mg "bool"=none
  int:mg "int"=none
  all:mg "all"=none
  min:mg "min"=none
  max:mg "max"=none
  sum:mg "sum"=none
  sorted:mg "sorted"=none
  zip:mg "zip"=none
  tuple:mg "tuple"=none
  str:mg "str"=none
  any:mg "any"=none
  enumerate:mg "enumerate"=none
  reversed:mg "reversed"=none
  abs:mg "abs"=none
  ValueError:mg "ValueError"=none
  set:mg "set"=none
structure Mth (mg:Str→Option Value):Prop where
  MOUTH:∃ t,mg "MOUTH"=some (.int (-1) t)
section
variable {X:Cx} {K:PySem.W.Frag}
theorem m9 (h:X.K=K):IxR X (Qk K):=h ▸ aN
theorem nu (h:X.K=K):lJ X (.builtin "len") (fun xs H Q=>∃ p ys,xs=[.ref p]∧(SqL K H p ys∨SqT K H p ys)∧Q (.int ys.length) H):=h ▸ aZ
end
end L2
namespace L2
open PySem PySem.W PyProof.Rows
section
variable {N:Nat} {κ:Nat→Int} {R:Shared→Prop} {cmp:Nat→Nat→(Bool→Shared→Prop)→Shared→Prop}
def Cmp (N:Nat) (κ:Nat→Int) (R:Shared→Prop) (cmp:Nat→Nat→(Bool→Shared→Prop)→Shared→Prop):Prop :=
  ∀ i j C s,i<N→j<N→R s→(∀ s',R s'→C (decide (κ i<κ j)) s')→cmp i j C s
def Inj (N:Nat) (κ:Nat→Int):Prop:=∀ i j,i<N→j<N→i≠j→κ i≠κ j
variable (hc:Cmp N κ R cmp) (hI:Inj N κ)
include hc hI
end
end L2
namespace L2
open PySem PySem.Spec PyProof.Rows
section
variable {X:Cx} {pins:List (Addr × Obj)} {σ:St} {H:Hp} {s:Shared} {a:Addr} {o:HO}
theorem Inv.adopt (I:Inv X pins σ H s) (hn:H a=none) (hL:a≠X.env.locals) (h0:X.s₀.heap.objs.size≤a) (hc:∀ x c,X.env.cells.lookup x=some c→c≠a) (hp:∀ p∈X.pn++pins,p.1≠a)
    (new:fV X.prog X.w (upd H a o) s.heap a o):Inv X pins σ (upd H a o) s:=by
  have ne:∀ b u,H b=some u→b≠a:=fun b u e=>cB e hn
  refine ⟨I.ok,I.os,I.bare,⟨I.base.keep,I.base.slot,fun b ob e n hx=>?_,I.base.there,fun b xs e=>?_,fun b ob xs e=>?_,fun b ps e=>?_⟩,I.loc,I.cell,?_,fun x c e=>?_,fun p hq=>?_,fun b u e=>?_,I.len⟩
  · rw [aM (Nat.ne_of_lt (Nat.lt_of_lt_of_le (Heap.lt_size e) h0))];exact I.base.free b ob e n hx
  · have:=I.base.tups b xs e;rw [aM (ne b _ this)];exact this
  · have:=I.base.frzs b ob xs e;rw [aM (ne b _ this)];exact this
  · obtain ⟨m,e1⟩:=I.base.tbls b ps e;exact ⟨m,by rw [aM (ne b _ e1)];exact e1⟩
  · rw [aM hL.symm];exact I.free
  · rw [aM (hc x c e)];exact I.freeC x c e
  · obtain ⟨e1,n,r⟩:=I.pin p hq;exact ⟨e1,by rw [aM (hp p hq)];exact n,r⟩
  · by_cases hb:b=a
    · subst hb;rw [bR] at e;cases e;exact new
    · rw [aM hb] at e
      exact (I.hok b u e).stay (fun _ _ _ q=>q) (fun c q=>by rw [aM (ne c _ q)];exact q) fun c xs q=>by rw [aM (ne c _ q)];exact q
end
end L2
namespace L2
open PySem PySem.W PySem.Spec PyProof.Rows
end L2
namespace L2
open PySem PySem.W PySem.Spec PyProof.Rows
end L2
namespace L2
open PySem PySem.W PySem.Spec PyProof.Rows
end L2
namespace L2
open PySem PySem.W PySem.Spec PyProof.Rows
end L2
namespace L2
open PySem PySem.W PySem.Spec PyProof.Rows
section
variable {X:Cx} {pins:List (Addr × Obj)} {σ:St} {H:Hp} {s:Shared}
def TabOk (P:Addr) (pos:Pos) (qual:Str) (H:Hp):Prop:=H P=some (.tbl #[])∨∃ c':Addr,H P=some (.tbl #[rawInt pos.line,rawInt pos.col,.ref c'])∧H c'=some (.ext fun h=>h.CodeRec (.ref c') qual)
end
end L2
namespace L2
open PySem PySem.W PySem.Spec PyProof.Rows
end L2
namespace L2
open PySem PySem.W PySem.Spec PyProof.Rows
end L2
namespace L2
open PySem PySem.Spec PyProof.Rows
mutual
inductive Den (K:PySem.W.Frag) (H:Hp):V→PyData→Prop
  | non:Den K H .non .none
  | bl (b:Bool):Den K H (.bl b) (.bool b)
  | int (i:Int):Den K H (.int i) (.int i)
  | str (x:Str):Den K H (.str x) (.str x)
  | list {a:Addr} {xs:List V} {ds:List PyData}:SqL K H a xs→cW K H xs ds→Den K H (.ref a) (.list ds)
  | tuple {a:Addr} {xs:List V} {ds:List PyData}:SqT K H a xs→cW K H xs ds→Den K H (.ref a) (.tuple ds)
inductive cW (K:PySem.W.Frag) (H:Hp):List V→List PyData→Prop
  | nil:cW K H [] []
  | cons {v:V} {vs:List V} {d:PyData} {ds:List PyData}:Den K H v d→cW K H vs ds→cW K H (v :: vs) (d :: ds)
end
theorem cW.length {K:PySem.W.Frag} {H:Hp}:∀ {vs:List V} {ds:List PyData},cW K H vs ds→vs.length=ds.length
  | _,_,.nil=>rfl
  | _,_,.cons _ hs=>by rw [List.length_cons,List.length_cons,cW.length hs]
theorem cW.append {K:PySem.W.Frag} {H:Hp}:∀ {vs ws:List V} {ds es:List PyData},cW K H vs ds→cW K H ws es→cW K H (vs++ws) (ds++es)
  | _,_,_,_,.nil,h=>h
  | _,_,_,_,.cons h hs,h'=>.cons h (cW.append hs h')
theorem cW.get {K:PySem.W.Frag} {H:Hp}:∀ {vs:List V} {ds:List PyData} {i:Nat} {d:PyData},cW K H vs ds→ds[i]?=some d→∃ v,vs[i]?=some v∧Den K H v d
  | _,_,_,_,.nil,e=>by simp at e
  | _,_,0,_,.cons h _,e=>by simp at e;subst e;exact ⟨_,rfl,h⟩
  | _,_,i + 1,d,.cons _ hs,e=>by
    obtain ⟨v,h1,h2⟩:=cW.get (i:=i) (d:=d) hs (by simpa using e)
    exact ⟨v,by simpa using h1,h2⟩
theorem cW.get' {K:PySem.W.Frag} {H:Hp}:∀ {vs:List V} {ds:List PyData} {i:Nat} {v:V},cW K H vs ds→vs[i]?=some v→∃ d,ds[i]?=some d∧Den K H v d
  | _,_,_,_,.nil,e=>by simp at e
  | _,_,0,_,.cons h _,e=>by simp at e;subst e;exact ⟨_,rfl,h⟩
  | _,_,i + 1,v,.cons _ hs,e=>by
    obtain ⟨d,h1,h2⟩:=cW.get' (i:=i) (v:=v) hs (by simpa using e)
    exact ⟨d,by simpa using h1,h2⟩
theorem cW.set {K:PySem.W.Frag} {H:Hp} {v:V} {d:PyData} (h:Den K H v d):∀ {vs:List V} {ds:List PyData} (i:Nat),cW K H vs ds→cW K H (vs.set i v) (ds.set i d)
  | _,_,_,.nil=>.nil
  | _,_,0,.cons _ hs=>.cons h hs
  | _,_,i + 1,.cons q hs=>.cons q (cW.set h i hs)
theorem cW.ints {K:PySem.W.Frag} {H:Hp}:∀ (ns:List Int),cW K H (ns.map V.int) (ns.map PyData.int)
  | []=>.nil
  | n :: ns=>.cons (.int n) (cW.ints ns)
def uO (ns:List Int):PyData:=.list (ns.map PyData.int)
theorem Den.ints {K:PySem.W.Frag} {H:Hp} {a:Addr} {ns:List Int} (h:SqL K H a (ns.map V.int)):Den K H (.ref a) (uO ns):=.list h (cW.ints ns)
theorem cW.int_inv {K:PySem.W.Frag} {H:Hp}:∀ {vs:List V} {ns:List Int},cW K H vs (ns.map PyData.int)→vs=ns.map V.int
  | _,[],.nil=>rfl
  | _,n :: ns,.cons h hs=>by
    cases h
    rw [cW.int_inv hs];rfl
section
variable {X:Cx} {pins:List (Addr × Obj)} {σ:St} {H:Hp} {s:Shared}
mutual
theorem Den.reads (I:Inv X pins σ H s):∀ {v:V} {d:PyData} {u:Value},Den X.K H v d→RelV v u→∃ as,Reads s.heap u d as
  | _,_,_,.non,r=>by cases r;exact ⟨_,.none⟩
  | _,_,_,.bl b,r=>by cases r;exact ⟨_,.bool b⟩
  | _,_,_,.int i,r=>by obtain ⟨t,rfl⟩:=r;exact ⟨_,.int i t⟩
  | _,_,_,.str x,r=>by obtain ⟨t,rfl⟩:=r;exact ⟨_,.str x t⟩
  | _,_,_,.list h hs,r=>by
    cases r
    obtain ⟨its,r1,⟨o,n,e,c,_,d⟩,_⟩:=I.list h
    obtain ⟨as,q⟩:=cW.reads I hs r1
    exact ⟨_,.list e c d (by simpa using q)⟩
  | _,_,_,.tuple h hs,r=>by
    cases r
    obtain ⟨its,r1,⟨o,e,c,n,d⟩,_⟩:=I.tuple h
    obtain ⟨as,q⟩:=cW.reads I hs r1
    exact ⟨_,.tuple e c d (by simpa using q)⟩
theorem cW.reads (I:Inv X pins σ H s):∀ {vs:List V} {ds:List PyData} {us:List Value},cW X.K H vs ds→Vals vs us→∃ as,ReadsAll s.heap us ds as
  | _,_,_,.nil,r=>by cases r;exact ⟨_,.nil⟩
  | _,_,_,.cons h hs,r=>by
    cases r with
    | cons r1 r2 =>
      obtain ⟨as,q⟩:=Den.reads I h r1
      obtain ⟨bs,q'⟩:=cW.reads I hs r2
      exact ⟨_,.cons q q'⟩
end
def Qm (K:PySem.W.Frag) (neg:Bool):R2:=fun x y H Q=>∃ d e,Den K H x d∧Den K H y e∧SeqAt.shaped d=true∧SeqAt.shaped e=true∧Q (.bl (if neg then !PyData.eqv d e else PyData.eqv d e)) H
theorem qI (hu:X.A.units + 64<cLine):OpR X (compareOp .Eq) (Qm X.K false):=by
  intro pins s σ H x y v u Q I rx ry h
  obtain ⟨d,e,hd,he,sd,se,q⟩:=h
  obtain ⟨as,ra⟩:=hd.reads I rx
  obtain ⟨bs,rb⟩:=he.reads I ry
  exact SeqAt.compareEq_shaped ra rb sd se hu ⟨.bl _,H,I,rfl,q⟩
theorem xK (hu:X.A.units + 64<cLine):OpR X (compareOp .NotEq) (Qm X.K true):=by
  intro pins s σ H x y v u Q I rx ry h
  obtain ⟨d,e,hd,he,sd,se,q⟩:=h
  obtain ⟨as,ra⟩:=hd.reads I rx
  obtain ⟨bs,rb⟩:=he.reads I ry
  exact SeqAt.compareNe_shaped ra rb sd se hu ⟨.bl _,H,I,rfl,q⟩
end
def Sh (n:Nat) (d:PyData):Prop:=d.canLay0=true∧d.depth≤n
theorem uW:∀ {ds:List PyData},(∀ d∈ds,d.canLay0=true)→PyData.canLayAll0 ds=true
  | [],_=>rfl
  | d :: ds,h=>by rw [PyData.canLayAll0,h d List.mem_cons_self,uW fun x hx=>h x (List.mem_cons_of_mem _ hx)];rfl
theorem uK {n:Nat}:∀ {ds:List PyData},(∀ d∈ds,d.depth≤n)→PyData.depthAll ds≤n
  | [],_=>by simp [PyData.depthAll]
  | d :: ds,h=>by
    have h1:=h d List.mem_cons_self
    have h2:=uK fun x hx=>h x (List.mem_cons_of_mem _ hx)
    simp only [PyData.depthAll]
    omega
theorem Sh.int (n:Nat) (i:Int):Sh n (.int i):=⟨rfl,by simp [PyData.depth]⟩
theorem Sh.list {n:Nat} {ds:List PyData} (h:∀ d∈ds,Sh n d):Sh (n + 1) (.list ds):=⟨by rw [PyData.canLay0];exact uW fun d hd=>(h d hd).1,by
  have:=uK fun d hd=>(h d hd).2
  simp only [PyData.depth];omega⟩
theorem Sh.tuple {n:Nat} {ds:List PyData} (h:∀ d∈ds,Sh n d):Sh (n + 1) (.tuple ds):=⟨by rw [PyData.canLay0];exact uW fun d hd=>(h d hd).1,by
  have:=uK fun d hd=>(h d hd).2
  simp only [PyData.depth];omega⟩
theorem Sh.ints (n:Nat) (ns:List Int):Sh (n + 1) (uO ns):=.list fun d hd=>by
  obtain ⟨i,_,rfl⟩:=List.mem_map.mp hd
  exact .int n i
theorem Sh.ok {n:Nat} {d:PyData} (h:Sh n d) (hn:n≤64):SeqAt.shaped d=true:=by
  unfold SeqAt.shaped
  rw [h.1,decide_eq_true (by have:=h.2;omega)];rfl
theorem j9 {n:Nat} {d:PyData} (h:Sh n d):PyData.eqv d d=true:=SeqAt.eqv_refl d h.1
abbrev fH:=List (Addr × Pos × Str)
def TabsOk (T:fH) (H:Hp):Prop:=∀ t∈T,TabOk t.1 t.2.1 t.2.2 H
structure bf (T:fH) (H H':Hp):Prop where
  t0:TabsOk T H
  t1:TabsOk T H'
  keep:∀ b o,H b=some o→(∀ ps,o≠.tbl ps)→H' b=some o
  tb:∀ b ps,H b=some (.tbl ps)→∃ ps',H' b=some (.tbl ps')
theorem TabsOk.nil (H:Hp):TabsOk [] H:=fun t ht=>nomatch ht
theorem TabsOk.mono {T:fH} {H H':Hp} (t:TabsOk T H) (s:Same H H'):TabsOk T H':=fun q hq=>by
  rcases t q hq with e | ⟨c,e1,e2⟩
  · exact .inl (s _ _ e)
  · exact .inr ⟨c,s _ _ e1,s _ _ e2⟩
theorem bf.refl {T:fH} {H:Hp} (t:TabsOk T H):bf T H H:=⟨t,t,fun _ _ h _=>h,fun _ ps h=>⟨ps,h⟩⟩
theorem bf.of {T:fH} {H H':Hp} (t:TabsOk T H) (s:Same H H'):bf T H H':=⟨t,t.mono s,fun b o h _=>s b o h,fun b ps h=>⟨ps,s _ _ h⟩⟩
theorem bf.trans {T:fH} {H H1 H2:Hp} (a:bf T H H1) (b:bf T H1 H2):bf T H H2:=⟨a.t0,b.t1,fun c o h n=>b.keep c o (a.keep c o h n) n,fun c ps h=>by
  obtain ⟨ps',e⟩:=a.tb c ps h
  exact b.tb c ps' e⟩
theorem bf.free {T:fH} {H H':Hp} (a:bf T H H') {l:Addr} (h:H' l=none):H l=none:=by
  cases q:H l with
  | none=>rfl
  | some o =>
    have key:(∃ ps,o=.tbl ps)∨∀ ps,o≠.tbl ps:=by
      cases o with
      | tbl ps=>exact .inl ⟨ps,rfl⟩
      | _=>exact .inr fun _ z=>by cases z
    rcases key with ⟨ps,rfl⟩ | n
    · obtain ⟨ps',e⟩:=a.tb l ps q
      rw [h] at e;cases e
    · have:=a.keep l o q n
      rw [h] at this;cases this
theorem bf.seq {T:fH} {K:PySem.W.Frag} {H H':Hp} {a:Addr} {xs:List V} (e:bf T H H') (h:SqL K H a xs):SqL K H' a xs:=by
  rcases h with (h | ⟨o,h⟩) | h
  · exact .inl (.inl (e.keep _ _ h fun _ z=>by cases z))
  · exact .inl (.inr ⟨o,e.keep _ _ h fun _ z=>by cases z⟩)
  · exact .inr h
theorem bf.Qi {T:fH} {K:PySem.W.Frag} {H H':Hp} {a:Addr} {xs:List V} (e:bf T H H') (h:SqT K H a xs):SqT K H' a xs:=by
  rcases h with (h | ⟨o,h⟩) | h
  · exact .inl (.inl (e.keep _ _ h fun _ z=>by cases z))
  · exact .inl (.inr ⟨o,e.keep _ _ h fun _ z=>by cases z⟩)
  · exact .inr h
mutual
theorem Den.rJ {T:fH} {K:PySem.W.Frag} {H H':Hp} (e:bf T H H'):∀ {v:V} {d:PyData},Den K H v d→Den K H' v d
  | _,_,.non=>.non
  | _,_,.bl b=>.bl b
  | _,_,.int i=>.int i
  | _,_,.str x=>.str x
  | _,_,.list h hs=>.list (e.seq h) (cW.rJ e hs)
  | _,_,.tuple h hs=>.tuple (e.Qi h) (cW.rJ e hs)
theorem cW.rJ {T:fH} {K:PySem.W.Frag} {H H':Hp} (e:bf T H H'):∀ {vs:List V} {ds:List PyData},cW K H vs ds→cW K H' vs ds
  | _,_,.nil=>.nil
  | _,_,.cons h hs=>.cons (Den.rJ e h) (cW.rJ e hs)
end
def wR (T:fH) (H:Hp) (P:List V→Prop) (Q:VK):Prop:=∀ (l:Addr) (H':Hp) (xs:List V),bf T H H'→H l=none→H' l=some (.lst xs)→P xs→Q (.ref l) H'
def gW:HO→Bool
  | .tbl _=>false
  | .ext _=>false
  | _=>true
structure Ow (T:fH) (H0 H:Hp) (L:List (Addr × HO)):Prop where
  same:bf T H0 H
  new:∀ p∈L,H0 p.1=none
  at_:∀ p∈L,H p.1=some p.2
  pl:∀ p∈L,gW p.2=true
  nd:(L.map (·.1)).Nodup
section
variable {T:fH} {H0 H1 H H':Hp} {L L':List (Addr × HO)} {a l:Addr} {o o':HO} {xs:List V}
theorem Ow.refl (t:TabsOk T H):Ow T H H []:=⟨bf.refl t,(fun p hp=>nomatch hp),(fun p hp=>nomatch hp),(fun p hp=>nomatch hp),List.nodup_nil⟩
theorem Ow.get (O:Ow T H0 H L) (k:Nat) (h:L[k]?=some (a,o):=by rfl):H a=some o:=O.at_ _ (List.mem_of_getElem? h)
theorem Ow.fr (O:Ow T H0 H L) (k:Nat) (h:L[k]?=some (a,o):=by rfl):H0 a=none:=O.new _ (List.mem_of_getElem? h)
theorem Ow.sq {K:PySem.W.Frag} (O:Ow T H0 H L) (k:Nat) (h:L[k]?=some (a,.lst xs):=by rfl):SqL K H a xs:=SqL.of (O.get k h)
theorem Ow.sqT {K:PySem.W.Frag} (O:Ow T H0 H L) (k:Nat) (h:L[k]?=some (a,.tup xs):=by rfl):SqT K H a xs:=SqT.of (O.get k h)
theorem TabOk.upd {P:Addr} {pos:Pos} {q:Str} (t:TabOk P pos q H) (h:H a=none∨∃ o,H a=some o∧gW o=true):TabOk P pos q (L2.upd H a o'):=by
  have ne:∀ b u,H b=some u→gW u=false→b≠a:=fun b u e p z=>by
    subst z
    rcases h with h | ⟨o,h,ho⟩
    · rw [h] at e;cases e
    · rw [h] at e;cases e;rw [ho] at p;cases p
  rcases t with e | ⟨c,e1,e2⟩
  · exact .inl (by rw [aM (ne _ _ e rfl)];exact e)
  · exact .inr ⟨c,by rw [aM (ne _ _ e1 rfl)];exact e1,by rw [aM (ne _ _ e2 rfl)];exact e2⟩
theorem bf.upd (s:bf T H0 H) (h:H0 a=none) (h':H a=none∨∃ o,H a=some o∧gW o=true):bf T H0 (L2.upd H a o') :=
  ⟨s.t0,fun t ht=>(s.t1 t ht).upd h',fun b u e n=>by rw [aM (cB e h)];exact s.keep b u e n,fun b ps e=>by rw [aM (cB e h)];exact s.tb b ps e⟩
theorem Ow.mk' (O:Ow T H0 H L) (h:H a=none) (ho:gW o=true):Ow T H0 (upd H a o) ((a,o) :: L):=by
  have ne:∀ p∈L,p.1≠a:=fun p hp=>cB (O.at_ p hp) h
  have n0:H0 a=none:=O.same.free h
  refine ⟨O.same.upd n0 (.inl h),fun p hp=>?_,fun p hp=>?_,fun p hp=>?_,?_⟩
  · rcases List.mem_cons.mp hp with e | e
    · rw [e];exact n0
    · exact O.new p e
  · rcases List.mem_cons.mp hp with e | e
    · rw [e];exact bR
    · rw [aM (ne p e)];exact O.at_ p e
  · rcases List.mem_cons.mp hp with e | e
    · rw [e];exact ho
    · exact O.pl p e
  · rw [List.map_cons,List.nodup_cons]
    refine ⟨fun hm=>?_,O.nd⟩
    obtain ⟨p,hp,e⟩:=List.mem_map.mp hm
    exact ne p hp e
theorem sU:∀ {L:List (Addr × HO)} {k:Nat} {a:Addr} {o o':HO},L[k]?=some (a,o)→(L.set k (a,o')).map (·.1)=L.map (·.1)
  | [],_,_,_,_,h=>by simp at h
  | p :: L,0,a,o,o',h=>by
    have:p=(a,o):=by simpa using h
    rw [this];rfl
  | p :: L,k + 1,a,o,o',h=>by
    rw [List.set_cons_succ,List.map_cons,List.map_cons,sU (L:=L) (k:=k) (o:=o) (by simpa using h)]
theorem Ow.Gk (O:Ow T H0 H L) (k:Nat) (h:L[k]?=some (a,o)) (ho:gW o'=true):Ow T H0 (upd H a o') (L.set k (a,o')):=by
  have hm0:=List.mem_of_getElem? h
  have n0:H0 a=none:=O.new _ hm0
  have hk:k<L.length:=(List.getElem?_eq_some_iff.mp h).1
  refine ⟨O.same.upd n0 (.inr ⟨o,O.at_ _ hm0,O.pl _ hm0⟩),fun p hp=>?_,fun p hp=>?_,fun p hp=>?_,by rw [sU h];exact O.nd⟩
  · rcases List.mem_or_eq_of_mem_set hp with e | e
    · exact O.new p e
    · rw [e];exact n0
  · obtain ⟨j,hj,e⟩:=List.getElem_of_mem hp
    by_cases hjk:j=k
    · subst hjk
      rw [List.getElem_set_self] at e
      rw [← e];exact bR
    · rw [List.getElem_set_ne (Ne.symm hjk)] at e
      have hj':j<L.length:=by rw [List.length_set] at hj;exact hj
      have hm:p∈L:=by rw [← e];exact List.getElem_mem hj'
      rw [aM]
      · exact O.at_ p hm
      · intro z
        have e1:(L.map (·.1))[j]?=some p.1:=by rw [List.getElem?_map,List.getElem?_eq_getElem hj',e];rfl
        have e2:(L.map (·.1))[k]?=some a:=by rw [List.getElem?_map,h];rfl
        rw [z] at e1
        obtain ⟨a1,a2⟩:=List.getElem?_eq_some_iff.mp e1
        obtain ⟨b1,b2⟩:=List.getElem?_eq_some_iff.mp e2
        exact hjk ((List.getElem_inj O.nd).mp (a2.trans b2.symm))
  · rcases List.mem_or_eq_of_mem_set hp with e | e
    · exact O.pl p e
    · rw [e];exact ho
theorem tO {o:HO} (h:gW o=true):∀ ps,o≠.tbl ps:=fun ps z=>by rw [z] at h;cases h
theorem Ow.jJ (O:Ow T H0 H L) (s:bf T H H'):Ow T H0 H' L:=⟨O.same.trans s,O.new,fun p hp=>s.keep _ _ (O.at_ p hp) (tO (O.pl p hp)),O.pl,O.nd⟩
theorem Ow.call (O:Ow T H0 H L) (s:Same H H'):Ow T H0 H' L:=O.jJ (bf.of O.same.t1 s)
theorem Ow.Hh (O:Ow T H0 H L) (s:bf T H H') (n:H l=none) (h:H' l=some o) (ho:gW o=true):Ow T H0 H' ((l,o) :: L):=by
  have O2:=O.jJ s
  refine ⟨O2.same,fun p hp=>?_,fun p hp=>?_,fun p hp=>?_,?_⟩
  · rcases List.mem_cons.mp hp with e | e
    · rw [e];exact O.same.free n
    · exact O.new p e
  · rcases List.mem_cons.mp hp with e | e
    · rw [e];exact h
    · exact O2.at_ p e
  · rcases List.mem_cons.mp hp with e | e
    · rw [e];exact ho
    · exact O.pl p e
  · rw [List.map_cons,List.nodup_cons]
    refine ⟨fun hm=>?_,O.nd⟩
    obtain ⟨p,hp,e⟩:=List.mem_map.mp hm
    exact cB (O.at_ p hp) n e
theorem Ow.more (O:Ow T H0 H L) (s:Same H H') (n:H l=none) (h:H' l=some o) (ho:gW o=true):Ow T H0 H' ((l,o) :: L):=O.Hh (bf.of O.same.t1 s) n h ho
theorem Ow.sub (O:Ow T H0 H L) (h:L'.Sublist L):Ow T H0 H L':=⟨O.same,fun p hp=>O.new p (h.subset hp),fun p hp=>O.at_ p (h.subset hp),fun p hp=>O.pl p (h.subset hp),O.nd.sublist (h.map _)⟩
theorem Ow.perm (O:Ow T H0 H L) (h:L'.Perm L):Ow T H0 H L':=⟨O.same,fun p hp=>O.new p (h.mem_iff.mp hp),fun p hp=>O.at_ p (h.mem_iff.mp hp),fun p hp=>O.pl p (h.mem_iff.mp hp),(h.map _).nodup_iff.mpr O.nd⟩
theorem Ow.tail {p:Addr × HO} (O:Ow T H0 H (p :: L)):Ow T H0 H L:=O.sub (List.sublist_cons_self _ _)
theorem Ow.reb (O:Ow T H0 H L):∃ H1,Ow T H1 H L∧bf T H0 H1∧∀ b o,H b=some o→(∀ p∈L,p.1≠b)→H1 b=some o:=by
  have keep:∀ b u,H b=some u→(∀ p∈L,p.1≠b)→(fun b=>if b∈L.map (·.1) then none else H b:Hp) b=some u:=fun b u e h=>by
    show (if b∈L.map (·.1) then none else H b)=some u
    rw [if_neg fun hm=>?_];· exact e
    obtain ⟨p,hp,z⟩:=List.mem_map.mp hm
    exact h p hp z
  have back:∀ b u,(fun b=>if b∈L.map (·.1) then none else H b:Hp) b=some u→H b=some u:=fun b u e=>by
    dsimp only at e
    split at e
    · cases e
    · exact e
  have npl:∀ b u,H b=some u→gW u=false→∀ p∈L,p.1≠b:=fun b u e h p hp z=>by
    have:=O.at_ p hp
    rw [z,e] at this
    have e':u=p.2:=Option.some.inj this
    rw [e',O.pl p hp] at h;cases h
  have tk:TabsOk T (fun b=>if b∈L.map (·.1) then none else H b):=fun t ht=>by
    rcases O.same.t1 t ht with e | ⟨c,e1,e2⟩
    · exact .inl (keep _ _ e (npl _ _ e rfl))
    · exact .inr ⟨c,keep _ _ e1 (npl _ _ e1 rfl),keep _ _ e2 (npl _ _ e2 rfl)⟩
  refine ⟨fun b=>if b∈L.map (·.1) then none else H b,⟨⟨tk,O.same.t1,fun b u e _=>back b u e,fun b ps e=>⟨ps,back _ _ e⟩⟩,fun p hp=>?_,O.at_,O.pl,O.nd⟩,⟨O.same.t0,tk,fun b u e n=>?_,fun b ps e=>?_⟩,keep⟩
  · exact if_pos (List.mem_map.mpr ⟨p,hp,rfl⟩)
  · refine keep b u (O.same.keep b u e n) fun p hp z=>?_
    rw [← z,O.new p hp] at e;cases e
  · obtain ⟨ps',e'⟩:=O.same.tb b ps e
    exact ⟨ps',keep _ _ e' (npl _ _ e' rfl)⟩
theorem mj {i:Int} {j:Nat} {v:V} {Q:Hp→Prop} (O:Ow T H0 H L) (k:Nat) (h:L[k]?=some (l,.lst xs)) (hi:ixN xs.length i=some j) (q:∀ H',Ow T H0 H' (L.set k (l,.lst (xs.set j v)))→Q H'):GC (.ref l) (.int i) v H Q :=
  ⟨l,xs,i,j,rfl,rfl,O.get k h,hi,q _ (O.Gk k h rfl)⟩
theorem Ow.ret {P:List V→Prop} {Q:VK} (O:Ow T H0 H L) (k:Nat) (h:L[k]?=some (l,.lst xs)) (q:wR T H0 P Q) (p:P xs):Q (.ref l) H:=q l H xs O.same (O.fr k h) (O.get k h) p
theorem Ow.got {P:List V→Prop} {Q:VK} (O:Ow T H0 H L) (k:∀ l H' xs,Ow T H0 H' ((l,.lst xs) :: L)→P xs→Q (.ref l) H'):Qy H P Q:=fun l H' xs s n h p=>k l H' xs (O.more s n h rfl) p
theorem Ow.PN {P:List V→Prop} {Q:VK} (O:Ow T H0 H L) (k:∀ l H' xs,Ow T H0 H' ((l,.lst xs) :: L)→P xs→Q (.ref l) H'):wR T H P Q:=fun l H' xs s n h p=>k l H' xs (O.Hh s n h rfl) p
end
end L2
namespace L2
open PySem PySem.W PySem.Spec PyProof.Rows
theorem szl {n:Nat} (h:Nat.ble n 100000=true:=by rfl):n≤sizeLine:=vB (Nat.le_of_ble_eq_true h)
theorem FN (p:Int) (ns:List Int):inV (.int p) (ns.map V.int)=decide (p∈ns):=by
  unfold inV
  rw [List.any_map,Bool.eq_iff_iff]
  simp only [List.any_eq_true,decide_eq_true_eq]
  constructor
  · rintro ⟨x,hx,e⟩
    have e':(x == p)=true:=e
    have:x=p:=by simpa using e'
    rw [← this];exact hx
  · intro h
    exact ⟨p,h,show (p == p)=true by simp⟩
theorem uJ (ns:List Int):(ns.map V.int).all nq=true:=by
  rw [List.all_map,List.all_eq_true];intro _ _;rfl
section
variable {X:Cx}
theorem lC:∀ ns ms:List Int,PyData.eqvAll (ns.map PyData.int) (ms.map PyData.int)=decide (ns=ms)
  | [],[]=>by simp [PyData.eqvAll]
  | [],_ :: _=>by simp [PyData.eqvAll]
  | _ :: _,[]=>by simp [PyData.eqvAll]
  | n :: ns,m :: ms=>by
    rw [List.map_cons,List.map_cons,PyData.eqvAll,lC ns ms]
    have e:PyData.eqv (.int n) (.int m)=decide (n=m):=by
      rw [PyData.eqv];rfl
    rw [e,Bool.eq_iff_iff]
    simp
theorem qR (ns ms:List Int):PyData.eqv (uO ns) (uO ms)=decide (ns=ms):=by
  unfold uO
  rw [PyData.eqv];exact lC ns ms
theorem GZ (hu:X.A.units + 64<cLine):OpR X (compareOp .Eq) (Ql X.K false):=by
  intro pins s σ H x y v u Q I rx ry h
  obtain ⟨a,b,ns,ms,rfl,rfl,ha,hb,q⟩:=h
  refine qI hu pins s σ H _ _ v u Q I rx ry ⟨_,_,Den.ints ha,Den.ints hb,(Sh.ints 0 ns).ok (by decide),(Sh.ints 0 ms).ok (by decide),?_⟩
  rw [qR];exact q
theorem xJ (hu:X.A.units + 64<cLine):OpR X (compareOp .NotEq) (Ql X.K true):=by
  intro pins s σ H x y v u Q I rx ry h
  obtain ⟨a,b,ns,ms,rfl,rfl,ha,hb,q⟩:=h
  refine xK hu pins s σ H _ _ v u Q I rx ry ⟨_,_,Den.ints ha,Den.ints hb,(Sh.ints 0 ns).ok (by decide),(Sh.ints 0 ms).ok (by decide),?_⟩
  rw [qR];exact q
end
section
variable {T:fH} {H0 H:Hp} {L:List (Addr × HO)} {l:Addr} {xs:List V}
theorem Ow.mkE {a:Addr} {o:HO} {H':Hp} (O:Ow T H0 H L) (h:H a=none) (e:upd H a o=H') (ho:gW o=true):Ow T H0 H' ((a,o) :: L):=e ▸ O.mk' h ho
theorem Ow.lK {a:Addr} {o o':HO} {H':Hp} (O:Ow T H0 H L) (k:Nat) (h:L[k]?=some (a,o)) (e:upd H a o'=H') (ho:gW o'=true):Ow T H0 H' (L.set k (a,o')):=e ▸ O.Gk k h ho
end
end L2
namespace L2
open PySem PySem.W PySem.Spec PySem.Calls PyProof.Rows PySem.Builtin PySem.Builtin.ObjectAttr PySem.Builtin.Getset_descriptor
section
variable {prog:Program} {w:World} {A:Around} {E:Value→Shared→Prop} {K:Frag} {e D:Addr} {hh:Heap} {g:Array GenState} {d:Drawn} {t:Nat} {os:OsState}
structure Gf (K:Frag) (D:Addr):Prop where
  ga:findIn K (.ref D) "__getattribute__"=some (some (.builtin "BaseException.__getattribute__"))
  gt:findIn K (.ref D) "__getattr__"=some none
  at_:findIn K (.ref D) "__class__"=some (some (.builtin "object.__class__"))
  sp:specialIn K (.builtin "object.__class__") "__get__"=some (some (.builtin "getset_descriptor.__get__"))
  tk:takesIn K (.builtin "object.__class__")=some true
  mo:mroIn K D (.type "object")=some true
  mb:mroIn K D (.type "BaseException")=some true
  cl:(clsIn K D).isSome=true
theorem Ey {M:Model} (X:K.In hh) (C:Gf K D):Looks M hh (Builtin.ObjectAttr.find (.ref e) (.ref D) "__class__") (.bind (.builtin "getset_descriptor.__get__") (.builtin "object.__class__")):=by
  have L3:Looks M hh (Builtin.ObjectAttr.dataDescriptor? (some (.builtin "object.__class__")) (some (.builtin "getset_descriptor.__get__"))) (some (.builtin "getset_descriptor.__get__",.builtin "object.__class__")):=(looks_takesIn X C.tk).andThen .now
  exact (looks_findIn X C.at_).andThen ((looks_specialIn X C.sp).andThen (L3.andThen (Looks.tag .now)))
theorem Gp {R:Result→Shared→Prop} {tp:Value} (LT:Looks (model prog w) hh (typeOf (.ref e)) (.ref D)) (X:K.In hh) (C:Gf K D) (q:R (.ok (.ret (.ref D))) ⟨hh,g,d,t,os⟩) :
    codeAny (model prog w) A (.call (.builtin "getset_descriptor.__get__") ⟨[.builtin "object.__class__",.ref e,tp],[]⟩) R ⟨hh,g,d,t,os⟩:=by
  have LS:=looks_mroIn (M:=model prog w) X C.mo
  clear C X
  refine codeAny_call_builtin KF.slot_gs.plain KF.entry_gs (KF.slot_gs.check _ _ _ _ _ _ _ _ KF.type_class (KF.args_gs _ _ (tp)) ?_)
  unfold Builtin.«getset_descriptor.__get__» descrGet;rw [dga_obj];refine wpAny_bind (wpAny_pure ?_)
  unfold descrGetter descrCheckInstance descrNameAndClass isInstance;simp only [KF.owner_class];repeat lk
  refine ⟨Code.quiet_builtin _ (by decide +kernel),codeAny_builtin KF.entry_class ?_⟩;unfold Builtin.«object.__class__» shownTypeOf;(repeat lk);exact q
theorem vm {tk:Tok} {Q:Fin→Shared→Prop} (LT:Looks (model prog w) hh (typeOf (.ref e)) (.ref D)) (X:K.In hh) (C:Gf K D) (h:Q (.done (.ret (.ref D))) ⟨hh,g,d,t,os⟩) :
    wpAny (model prog w) A (Builtin.«object.__getattribute__» ⟨[.ref e,.str "__class__" tk],[]⟩) Q E ⟨hh,g,d,t,os⟩:=by
  unfold Builtin.«object.__getattribute__»
  refine wpAny_bind (m:=slotArgs "__getattribute__" 1 _) (wpAny_pure ?_)
  refine wpAny_bind (m:=Builtin.ObjectAttr.attrName _) (wpAny_pure ?_)
  refine wpAny_bind (LT.at (wpAny_bind ((Ey X C).at ?_)))
  unfold Builtin.ObjectAttr.bindTo
  exact wpAny_bind (wpAny_holding (wpAny_call (Gp LT X C (wpAny_pure h))))
theorem vo {Q:Option Value→Shared→Prop} (LT:Looks (model prog w) hh (typeOf (.ref e)) (.ref D)) (X:K.In hh) (C:Gf K D) (h:Q (some (.ref D)) ⟨hh,g,d,t + 1,os⟩) :
    wpAny (model prog w) A (getAttr? (.ref e) "__class__") Q E ⟨hh,g,d,t,os⟩:=by
  have L1:=looks_findIn (M:=model prog w) X C.ga
  have L2:=looks_findIn (M:=model prog w) X C.gt
  have LI:Looks (model prog w) hh (isInstance (.ref e) (.type "BaseException")) true:=LT.andThen (looks_mroIn X C.mb)
  have f3:=PySem.F.attr_ValueError.ga.bind (.ref e)
  have hx2:(Value.builtin "BaseException.__getattribute__" == Value.builtin "object.__getattribute__")=false:=by decide +kernel
  unfold getAttr? getAttrBy? getAttrBy
  refine wpAny_bind (wpAny_mkText (wpAny_bind (wpAny_attempt (wpAny_holding (wpAny_bind (LT.at (wpAny_bind (L1.at ?_))))))))
  dsimp only
  rw [if_neg (by rw [hx2];simp)]
  unfold getAttrByItsOwn hookBefore callGetattribute
  refine wpAny_bind ?_
  rw [if_pos (show onTheHeap (Value.ref D)=true from rfl)]
  refine L2.at ?_
  refine wpAny_bind (wpAny_attempt (wpAny_holding ?_))
  rw [if_neg (by simp)]
  unfold boundAndCalled
  rw [f3]
  refine wpAny_bind (wpAny_pure ?_)
  refine wpAny_call (codeAny_call_builtin PySem.F.attr_ValueError.ga.plain PySem.F.entry_bexc_ga ?_)
  have kd:builtinKind "BaseException.__getattribute__"=some .slot:=by decide +kernel
  have spl:splitId "BaseException.__getattribute__"=some ("BaseException","__getattribute__"):=by decide +kernel
  have ha:=PySem.F.args_bexc_ga (.ref e) (.str "__class__" t)
  simp only [checkBuiltinCall,kd,spl]
  refine wpAny_bind (LI.at ?_)
  rw [if_neg (by simp)]
  refine wpAny_of_eq (a:=()) ha ?_
  refine vm (t:=t + 1) LT X C ?_
  show wpAny (model prog w) A (handedOut (.ref D)) _ _ _
  exact wpAny_pure (wpAny_pure h)
def XAt (e D:Addr) (h:Heap):Prop:=∃ o,h.get? e=some o∧o.cls=.ref D
theorem rT {M:Model} {h:Heap} (x:XAt e D h):Looks M h (typeOf (.ref e)) (.ref D):=by
  obtain ⟨o,h1,h2⟩:=x
  rw [← h2]
  exact (Looks.ld h1).andThen .now
theorem wC (C:Gf K D):KitX K (.ref e) (.ref D) (XAt e D) where
  ty:=fun _ _ _ p=>rT p
  it:=fun M h X _=>by
    have c:=C.cl
    unfold clsIn at c
    split at c
    · rename_i ho
      intro _ _ _ _ k q
      unfold isType loadHead
      exact wpAny_bind (wpAny_loadPart (k _ _ (X _ _ ho)) (wpAny_pure q))
    · cases c
  ne:=fun h tp dd its n sl X htp=>by
    have c:=C.cl
    refine Bool.eq_false_iff.mpr fun q=>?_
    cases Value.ref.inj (beq_iff_eq.mp q)
    unfold clsIn at c
    split at c
    · rename_i ho
      cases (X _ _ ho).symm.trans htp
    · cases c
  ca:=fun {_ _ _ _ _ s} X p k=>by
    obtain ⟨h0,g0,d0,t0,o0⟩:=s
    exact vo (rT p) X C k
end
end L2
namespace L2
open PySem PySem.W PySem.Spec PySem.Calls PyProof.Rows
theorem fV.obj {P:Program} {w:World} {H:Hp} {h:Heap} {a:Addr} {o:HO} (x:fV P w H h a o):∃ ob,h.get? a=some ob:=by
  cases o with
  | lst xs=>obtain ⟨_,_,_,_,e⟩:=x;exact ⟨_,e⟩
  | tup xs=>obtain ⟨_,_,_,o,e,_⟩:=x;exact ⟨_,e⟩
  | dK kvs=>obtain ⟨_,_,_,_,o,_,_,e,_⟩:=x;exact ⟨_,e⟩
  | dT kvs=>obtain ⟨_,_,_,_,o,_,_,e,_⟩:=x;exact ⟨_,e⟩
  | set S n=>obtain ⟨o,_,_,_,e,_⟩:=x;exact ⟨_,e⟩
  | ins C dx fs=>obtain ⟨_,_,_,e,_⟩:=x;exact ⟨_,e⟩
  | own y=>exact x
  | xd fs=>obtain ⟨_,⟨_,_,_,e,_⟩,_⟩:=x;exact ⟨_,e⟩
  | rng lo hi=>obtain ⟨_,_,_,e⟩:=x;exact ⟨_,e⟩
  | frz ob u=>obtain ⟨e,_⟩:=x;exact ⟨_,e⟩
  | tbl ps=>exact ⟨_,x⟩
  | met f y=>exact ⟨_,x⟩
  | ext φ=>obtain ⟨_,e,_⟩:=x;exact e
structure Fly (P:Program) (w:World) (B:Heap) (fs:List Addr) (H:Hp) (h0:Heap) (H':Hp) (h:Heap):Prop where
  un:Un fs [] H H' h0 h
  hok:HOk P w H' h
  old:∀ b o,h0.get? b=some o→b ∉ fs→∃ o',B.get? b=some o'∧(H b=none→o'=o)
  trk:∀ b u,H' b=some u→∃ o,h.get? b=some o∧B.get? b=some o
section
variable {P:Program} {w:World} {B h0 h h2:Heap} {fs:List Addr} {H H':Hp}
theorem Fly.on (x:Fly P w B fs H h0 H' h) (sb:B.StaysIn h2) (sm:∀ b∈fs,∀ o,h.get? b=some o→∃ sl,h2.get? b=some { o with slots:=sl }):Fly P w B fs H h0 H' h2:=by
  have kp:∀ b o,h0.get? b=some o→H b=none→b ∉ fs→h2.get? b=some o:=fun b o q n hb=>by
    obtain ⟨o',e,k⟩:=x.old b o q hb
    rw [← k n];exact sb b o' e
  have sl:∀ b o,h0.get? b=some o→H b=none→b∈fs→∃ s,h2.get? b=some { o with slots:=s }:=fun b o q n hb=>by
    obtain ⟨s1,e1⟩:=x.un.slot b o q n hb (by simp)
    obtain ⟨s2,e2⟩:=sm b hb _ e1
    exact ⟨s2,e2⟩
  refine ⟨⟨fun b o q n hb _=>kp b o q n hb,fun b o q n hb _=>sl b o q n hb,x.un.free,fun b o q _=>?_,x.un.tups,x.un.frzs,x.un.tbls⟩,fun a u e=>?_,x.old,fun b u e=>?_⟩
  · by_cases hb:b∈fs
    · obtain ⟨o1,e1⟩:=x.un.there b o q (by simp)
      obtain ⟨s2,e2⟩:=sm b hb _ e1
      exact ⟨_,e2⟩
    · obtain ⟨o',e,_⟩:=x.old b o q hb
      exact ⟨o',sb b o' e⟩
  · refine (x.hok a u e).stay (fun b v hb q=>?_) (fun _ q=>q) fun _ _ q=>q
    have tr:∃ u',H' b=some u':=by
      rcases hb with z | z
      · exact ⟨u,by rw [z];exact e⟩
      · exact ⟨_,z⟩
    obtain ⟨u',e'⟩:=tr
    obtain ⟨o,e1,e2⟩:=x.trk b u' e'
    rw [q] at e1;cases e1
    exact sb b v e2
  · obtain ⟨o,e1,e2⟩:=x.trk b u e
    exact ⟨o,sb b o e2,e2⟩
end
def CXE (P:Program) (w:World):CXT:=fun outer H s E e s'=>∃ (ea t C:Addr) (B:Heap) (H':Hp),e=.ref ea∧s'.os=s.os∧AllBare s'.gens∧Fly P w B (frs outer) H s.heap H' s'.heap∧Heap.FlyingW B outer ea (.ref C) (.ref t) s'.heap ∧
  s.heap.get? ea=none∧H' ea=none∧E (.ref C) (some ea) H'
theorem nj {env:Env} {l:List Env} {L:Addr} (hf:env.frame=some L):frs (env :: l)=L :: frs l:=by unfold frs;rw [List.filterMap_cons,hf]
theorem Hv {l:List Env}:∀ env∈l,∀ b,env.frame=some b→b∈frs l:=fun env he b hb=>List.mem_filterMap.mpr ⟨env,he,hb⟩
theorem iC {B h:Heap} {l:List Env} {h2:Heap} (f:h.FunFrames B l) (sm:h.UpToSlots h2):∀ b∈frs l,∀ o,h.get? b=some o→∃ sl,h2.get? b=some { o with slots:=sl }:=fun b hb o e=>by
  obtain ⟨_,o',e',d⟩:=f.mem hb
  rw [e] at e';cases e'
  exact sm b o e d
section
variable {X:Cx} {pins:List (Addr × Obj)} {σ:St} {H:Hp} {s:Shared} {E:XK}
structure Body (X:Cx):Prop where
  st:X.stack=X.env :: X.outer
  fr:X.env.frame=some X.env.locals
  ex:X.ex=[]
theorem Inv.pR (I:Inv X pins σ H s) (hB:Body X) {b:Addr} {o:Obj} (e:X.s₀.heap.get? b=some o) (hb:b ∉ frs X.outer):b ∉ frs X.stack:=by
  rw [hB.st,nj hB.fr]
  intro hm
  rcases List.mem_cons.mp hm with z | z
  · exact absurd (Heap.lt_size e) (by rw [z];exact Nat.not_lt.mpr I.ok.above)
  · exact hb z
theorem oh {e C:Addr} {args:List Value} {h':Heap} {F:Value→Shared→Prop} (hB:Body X) (I:Inv X pins σ H s) (hm:Heap.MadeExcOf s.heap h' e (.ref C) args) (hE:H e=none→E (.ref C) (some e) H) :
    wpAny (model X.prog X.w) X.A (leaving X.env (.ref e)) (fun _ s''=>CXE X.prog X.w X.outer X.H₀ X.s₀ E (.ref e) s'') F { s with heap:=h' }:=by
  have hfr:X.A.frames=some (X.env :: X.outer):=by rw [← hB.st];exact I.ok.frames
  have stk:=I.stack
  have hl:s.heap.FunFrames (hideAll s.heap (frs X.stack)) (X.env :: X.outer):=by
    have:=funFrames_hide stk Hv
    rw [hB.st] at this ⊢;exact this
  have hne:∀ b o,s.heap.get? b=some o→b ∉ frs X.stack→(hideAll s.heap (frs X.stack)).get? b=some o:=fun b o q n=>hideAll_get _ q n
  have htr:∀ b u,H b=some u→∃ o,s.heap.get? b=some o∧(hideAll s.heap (frs X.stack)).get? b=some o:=fun b u q=>by
    obtain ⟨o,eo⟩:=(I.hok b u q).obj
    exact ⟨o,eo,hne b o eo fun z=>by rw [I.pq b z] at q;cases q⟩
  have hnx:∀ b:Addr,b ∉ X.ex:=fun b=>by rw [hB.ex];simp
  refine wpAny_leaves_madeW (base:=hideAll s.heap (frs X.stack)) (h:=s.heap) hfr hB.fr (fun b o q=>of_hideAll _ q) hl hm fun h2 t fl _ _ sm=>?_
  have F0:Fly X.prog X.w (hideAll s.heap (frs X.stack)) (frs X.outer) X.H₀ X.s₀.heap H s.heap:=by
    refine ⟨?_,I.hok,fun b o q n=>?_,htr⟩
    · have u:=I.base
      rw [hB.ex] at u
      exact u
    · obtain ⟨o',e'⟩:=I.base.there b o q (hnx b)
      refine ⟨o',hne b o' e' (I.pR hB q n),fun z=>?_⟩
      have:=I.base.keep b o q z n (hnx b)
      rw [e'] at this;exact Option.some.inj this
  have F1:=F0.on (h2:=h2) fl.1 fun b hb o q=>by
    have hb':b∈frs X.stack:=by rw [hB.st,nj hB.fr];exact List.mem_cons_of_mem _ hb
    obtain ⟨_,o',e',d⟩:=stk.mem hb'
    rw [q] at e';cases e'
    exact sm b o (hm.keeps b o q) d
  have he0:H e=none:=by
    cases q:H e with
    | none=>rfl
    | some u =>
      obtain ⟨o,eo⟩:=(I.hok e u q).obj
      rw [hm.new] at eo;cases eo
  refine ⟨e,t,C,_,H,rfl,I.os,I.bare,F1,fl,?_,he0,hE he0⟩
  · cases q:X.s₀.heap.get? e with
    | none=>rfl
    | some o =>
      obtain ⟨o',e'⟩:=I.base.there e o q (hnx e)
      rw [hm.new] at e';cases e'
theorem p7 {e:Value} {s':Shared} {F:Value→Shared→Prop} (hB:Body X) (I:Inv X pins σ H s) (h:CXE X.prog X.w X.stack H s E e s') :
    wpAny (model X.prog X.w) X.A (leaving X.env e) (fun _ s''=>CXE X.prog X.w X.outer X.H₀ X.s₀ E e s'') F s':=by
  obtain ⟨ea,t,C,B,H',rfl,os,bare,fl,fy,new,nh,hE⟩:=h
  have hfr:X.A.frames=some (X.env :: X.outer):=by rw [← hB.st];exact I.ok.frames
  have hnx:∀ b:Addr,b ∉ X.ex:=fun b=>by rw [hB.ex];simp
  rw [hB.st] at fy
  refine wpAny_leaves_onW hfr hB.fr fy fun h2 fy2 sm=>?_
  have sub:∀ b,b∈frs X.outer→b∈frs X.stack:=fun b hb=>by rw [hB.st,nj hB.fr];exact List.mem_cons_of_mem _ hb
  have F0:Fly X.prog X.w B (frs X.outer) X.H₀ X.s₀.heap H' s'.heap:=by
    refine ⟨⟨fun b o q n hb _=>?_,fun b o q n hb _=>?_,fun b o q n _=>?_,fun b o q _=>?_,fun b xs q=>fl.un.tups b xs (I.base.tups b xs q),fun b o u q=>fl.un.frzs b o u (I.base.frzs b o u q),fun b ps q=>?_⟩,fl.hok,fun b o q n=>?_,fl.trk⟩
    · have e1:=I.base.keep b o q n hb (hnx b)
      exact fl.un.keep b o e1 (I.base.free b o q n (hnx b)) (I.pR hB q hb) (by simp)
    · obtain ⟨s1,e1⟩:=I.base.slot b o q n hb (hnx b)
      obtain ⟨s2,e2⟩:=fl.un.slot b _ e1 (I.base.free b o q n (hnx b)) (sub b hb) (by simp)
      exact ⟨s2,e2⟩
    · obtain ⟨o',e'⟩:=I.base.there b o q (hnx b)
      exact fl.un.free b o' e' (I.base.free b o q n (hnx b)) (by simp)
    · obtain ⟨o',e'⟩:=I.base.there b o q (hnx b)
      exact fl.un.there b o' e' (by simp)
    · obtain ⟨m1,e1⟩:=I.base.tbls b ps q
      obtain ⟨m2,e2⟩:=fl.un.tbls b _ e1
      exact ⟨m1++m2,by rw [e2,Array.append_assoc]⟩
    · obtain ⟨o',e'⟩:=I.base.there b o q (hnx b)
      obtain ⟨o2,e2,k⟩:=fl.old b o' e' (I.pR hB q n)
      refine ⟨o2,e2,fun z=>?_⟩
      rw [k (I.base.free b o q z (hnx b))]
      have:=I.base.keep b o q z n (hnx b)
      rw [e'] at this;exact Option.some.inj this
  have F1:=F0.on (h2:=h2) fy2.1 fun b hb o q=>by
    obtain ⟨_,o',e',d⟩:=fy.2.2.1.mem (by rw [hB.st] at sub;exact sub b hb)
    rw [q] at e';cases e'
    exact sm b o q d
  refine ⟨ea,t,C,B,H',rfl,os.trans I.os,bare,F1,fy2,?_,nh,hE⟩
  cases q:X.s₀.heap.get? ea with
  | none=>rfl
  | some o =>
    obtain ⟨o',e'⟩:=I.base.there ea o q (hnx ea)
    rw [new] at e';cases e'
end
section
variable {P:Program} {w:World} {K:PySem.W.Frag} {mg:Str→Option Value} {base:Heap} {N:List Str} {qual:Str} {scope:Scope} {f:Addr} {cd:Value} {A:Around} {outer:List Env} {s:Shared} {H:Hp} {E:XK}
theorem lD {CX:CXT}:Body (vf CX P w K mg base N qual scope f cd A outer s H E):=⟨rfl,rfl,rfl⟩
theorem vI:Passes (CXE P w) (vf (CXE P w) P w K mg base N qual scope f cd A outer s H E) E:=fun _ _ _ _ _ _ I h=>p7 lD I h
theorem Fun.okX {x:Str} {st:Stmt} {fd:FuncData} {ps:List Str} {k:Nat} {sp:Sp} (F:Fun K x qual st f fd) (S:aH N ps (ak st)) (len:∀ vs H Q E,sp vs H Q E→vs.length=ps.length)
    (hbody:∀ (cdv:Value) (A:Around) (outer:List Env) (s:Shared) (H:Hp) (vs:List V) (Q:VK) (E:XK),jK k (A.deeper (envOfC qual (ak st) s.heap.objs.size f cdv))→sp vs H Q E →
      ∃ t,PSs (vf (CXE P w) P w K mg base N qual (ak st) f cdv A outer s H E) (ao st) t∧t { nx:=fun _ H'=>Q .non H',rt:=Q } (start N vs) H):bT P w K mg base (CXE P w) (k + 1) f fd ps sp:=by
  obtain ⟨oc,od,kV,doc,pm,an,cdv,ct,osl,rfl,lk,hcd⟩:=F.ex
  exact FT lk hcd S len fun A outer s H vs Q E hr hsp=>hbody cdv A outer s H vs Q E hr hsp
end
end L2
namespace L2
open PySem PySem.W PySem.Spec PySem.Calls PyProof.Rows
abbrev vg:List Value:=[.type "ValueError",.type "Exception",.type "BaseException",.type "object"]
theorem FW {K:Frag} {h:Heap} {C:Addr} (X:K.In h) (q:excIn K C vg "ValueError.__new__"=true) :
    ∃ bm N nm qn bs hdct sn sub ab col dd k0 k1 k2 k3 k5 mN,h.get? C=some (excClassObj nm qn C N bs bm hdct sn sub ab col dd k0 k1 k2 k3 k5 "ValueError.__new__")∧h.Ns N mN∧mN "__init__"=none∧OwnTail h vg bm:=by
  unfold excIn at q
  split at q
  · rename_i d1 c1 s1 look
    split at q
    · rename_i C1 bm1 a0 a1 a2 a3 n1 a5 m1 l1
      simp only [Bool.and_eq_true,beq_iff_eq,Bool.not_eq_true'] at q
      obtain ⟨⟨⟨⟨⟨e1,e2⟩,e3⟩,e4⟩,e5⟩,e6⟩:=q
      subst e1 e2
      obtain ⟨nm,bs,mro,ns,qn,hd,sn,sub,ab,col,del⟩:=c1
      dsimp only at m1 e3 e5 e6
      subst m1 e3
      have es:s1=#[a0,a1,a2,a3,some (.builtin "ValueError.__new__"),a5]:=by cases s1;simp only at l1;rw [l1]
      subst es
      exact ⟨bm1,ns,nm,qn,bs,hd,sn,sub,ab,col,d1,a0,a1,a2,a3,a5,_,X _ _ look,Heap.Ns.of_isNs (isNs_of_in X e5),nsMap_none_of_in X e5 e6,tail_of_in X e4⟩
    · cases q
  · cases q
def Gv (E:XK) (C:Addr) (ta:TA):TS:=fun _ σ H=>ta σ H fun vs H1=>vs.length≤sizeLine∧∀ e,H1 e=none→E (.ref C) (some e) H1
section
variable {X:Cx} {E:XK} {x:Str} {C:Addr} {np cpos pos:Pos} {e0:Expr} {ta:TA}
theorem j6 (hB:Body X) (hc:X.calm=true) (hx:∀ e s',wpAny (model X.prog X.w) X.A (leaving X.env e) (fun _ s''=>CXE X.prog X.w X.outer X.H₀ X.s₀ E e s'') (fun e s''=>CXE X.prog X.w X.outer X.H₀ X.s₀ E e s'') s'→X.xe e s')
    (hg:Gl X x) (hm:X.mg x=some (.ref C)) (hq:excIn X.K C vg "ValueError.__new__"=true) (ha:PA X [e0] ta) (he:starEach [e0] X.env=[(false,eval e0 X.env)]:=by rfl) (hd:(x == ("__debug__":Str))=false:=by decide) :
    PS X (.Raise (some (.Call (.Name x np) [e0] [] cpos)) none pos) (Gv E C ta):=by
  intro pins s σ H D I h
  obtain ⟨bm,Nn,nm,qn,bs,hdct,sn,sub,ab,col,dd,k0,k1,k2,k3,k5,mN,hC,hN,hni,TL⟩:=FW I.ok.mod.kin hq
  refine wpAny_Raise_call_subU (C:=C) (nm:=nm) (q:=qn) (N:=Nn) (bs:=bs) (bm:=bm) (hdct:=hdct) (sn:=sn) (sub:=sub) (ab:=ab) (col:=col) (dd:=dd) (k0:=k0) (k1:=k1) (k2:=k2) (k3:=k3) (k5:=k5) (mN:=mN) (newId:="ValueError.__new__")
    PySem.F.excBase_ValueError PySem.F.excBase_ValueError.hasB PySem.F.excBase_ValueError (TL.hasType PySem.F.excBase_ValueError.hasBase) (I.ok.hd hc) (by rw [he];rfl) hni ?_
  refine lu I hg hm ⟨rfl,?_⟩ hd
  have a:=ha cpos pins s σ H _ I h
  rw [he] at a ⊢
  refine Calls.evalArgs_plain (wpAny_mono a (fun us s1 ⟨vs,H1,I1,r1,hz,q1⟩=>?_) fun _ _ z=>z)
  exact ⟨rfl,by show us.length≤_;rw [← r1.length];exact hz,I1.bk _ _ hC,hN.keeps I1.bk,TL.keeps I1.bk,fun h' e mk=>hx _ _ (oh hB I1 mk (q1 e))⟩
end
end L2
namespace L2
open PySem PySem.W PySem.Spec PySem.Calls PyProof.Rows
def XS (X:Cx) (pins:List (Addr × Obj)) (Ex:St→XK) (ev:Value) (s':Shared):Prop:=∃ σ H s,Inv X pins σ H s∧CXE X.prog X.w X.stack H s (Ex σ) ev s'
def PEx (X:Cx) (e:Expr) (t:St→Hp→VK→XK→Prop):Prop :=
  ∀ (pins:List (Addr × Obj)) (s:Shared) (σ:St) (H:Hp) (Q:VK) (Ex:St→XK),Inv X pins σ H s→t σ H Q (Ex σ)→wpAny (model X.prog X.w) X.A (eval e X.env) (EP X pins σ Q) (XS X pins Ex) s
abbrev TX:=Ends→(St→XK)→St→Hp→Prop
def PSx (X:Cx) (st:Stmt) (t:TX):Prop :=
  ∀ (pins:List (Addr × Obj)) (s:Shared) (σ:St) (H:Hp) (D:Ends) (Ex:St→XK),Inv X pins σ H s→t D Ex σ H→wpAny (model X.prog X.w) X.A (exec st X.env) (SP X pins D) (XS X pins Ex) s
def M4 (X:Cx) (sts:List Stmt) (t:TX):Prop :=
  ∀ (pins:List (Addr × Obj)) (s:Shared) (σ:St) (H:Hp) (D:Ends) (Ex:St→XK),Inv X pins σ H s→t D Ex σ H→wpAny (model X.prog X.w) X.A (execs sts X.env) (SP X pins D) (XS X pins Ex) s
section
variable {X:Cx} {k:Nat} {f:Addr} {fd:FuncData} {ps:List Str} {sp:Sp} {dvs:List V} {ds:List Value} {x:Str} {p pos:Pos} {e:Expr} {es:List Expr} {t:TA}
theorem mF {te:St→Hp→VK→XK→Prop} {pos:Pos} (he:PEx X e te) (hs:swapsWith e none pos.line X.env=pure false:=by rfl):PSx X (.Expr e pos) (fun D Ex σ H=>te σ H (fun _ H1=>D.nx σ H1) (Ex σ)):=by
  intro pins s σ H D Ex I h
  exact wpAny_Expr_any (wpAny_mono (he pins s σ H _ Ex I h) (fun v s1 ⟨x,H1,I1,r1,q1⟩=>⟨σ,H1,I1,q1⟩) fun _ _ z=>z) I.quiet hs
theorem jd {st:Stmt} {tx:TX} (h:PSx X st tx):M4 X [st] tx:=by
  intro pins s σ H D Ex I hq
  refine wpAny_execs_cons (wpAny_mono (h pins s σ H D Ex I hq) (fun fl s1 q=>?_) fun _ _ z=>z)
  cases fl with
  | next=>exact wpAny_execs_nil q
  | ret v=>exact q
  | brk=>exact q
  | cont=>exact q
end
section
variable {X:Cx} {pins:List (Addr × Obj)} {σ:St} {H:Hp} {s:Shared}
def rC (X:Cx) (e:Addr):Cx:={ X with A:=X.A.mark (some (.ref e)),calm:=false,xe:=fun _ _=>False }
theorem Inv.sup (I:Inv X pins σ H s) (e:Addr):Inv (rC X e) pins σ H s :=
  ⟨⟨I.ok.mod,I.ok.kind,I.ok.glob,I.ok.blt,I.ok.above,I.ok.inj,I.ok.has,I.ok.cab,fun z=>(by cases z),I.ok.frames,I.ok.stk,I.ok.exf,I.ok.bs,I.ok.bsz,I.ok.noex,I.ok.exfs,I.ok.qO,I.ok.frf⟩,I.os,I.bare,I.base,I.loc,I.cell,I.free,I.freeC,I.pin,I.hok,I.len⟩
theorem Inv.M8 {e:Addr} (hc:X.calm=true→X.A.handled=none) (I:Inv (rC X e) pins σ H s):Inv X pins σ H s :=
  ⟨⟨I.ok.mod,I.ok.kind,I.ok.glob,I.ok.blt,I.ok.above,I.ok.inj,I.ok.has,I.ok.cab,hc,I.ok.frames,I.ok.stk,I.ok.exf,I.ok.bs,I.ok.bsz,I.ok.noex,I.ok.exfs,I.ok.qO,I.ok.frf⟩,I.os,I.bare,I.base,I.loc,I.cell,I.free,I.freeC,I.pin,I.hok,I.len⟩
theorem Inv.Mz {a:Addr} {o:HO} (I:Inv X pins σ H s) (hn:H a=none) (hL:a≠X.env.locals) (h0:X.s₀.heap.get? a=none) (hc:∀ x c,X.env.cells.lookup x=some c→c≠a) (hp:∀ p∈X.pn++pins,p.1≠a)
    (new:fV X.prog X.w (upd H a o) s.heap a o):Inv X pins σ (upd H a o) s:=by
  have ne:∀ b u,H b=some u→b≠a:=fun b u e=>cB e hn
  refine ⟨I.ok,I.os,I.bare,⟨I.base.keep,I.base.slot,fun b ob e n hx=>?_,I.base.there,fun b xs e=>?_,fun b ob xs e=>?_,fun b ps e=>?_⟩,I.loc,I.cell,?_,fun x c e=>?_,fun p hq=>?_,fun b u e=>?_,I.len⟩
  · rw [aM fun z=>by rw [z,h0] at e;cases e];exact I.base.free b ob e n hx
  · have:=I.base.tups b xs e;rw [aM (ne b _ this)];exact this
  · have:=I.base.frzs b ob xs e;rw [aM (ne b _ this)];exact this
  · obtain ⟨m,e1⟩:=I.base.tbls b ps e;exact ⟨m,by rw [aM (ne b _ e1)];exact e1⟩
  · rw [aM hL.symm];exact I.free
  · rw [aM (hc x c e)];exact I.freeC x c e
  · obtain ⟨e1,n,r⟩:=I.pin p hq;exact ⟨e1,by rw [aM (hp p hq)];exact n,r⟩
  · by_cases hb:b=a
    · subst hb;rw [bR] at e;cases e;exact new
    · rw [aM hb] at e
      exact (I.hok b u e).stay (fun _ _ _ q=>q) (fun c q=>by rw [aM (ne c _ q)];exact q) fun c xs q=>by rw [aM (ne c _ q)];exact q
theorem Inv.Gq {i:Nat} {n:Str} {h':Heap} {v:Option Value} {m:Str→Option Value} {t':Nat} (I:Inv X pins σ H s) (hN:X.N.Nodup) (hi:X.N[i]?=some n) (hs:Heap.SameBut X.env.locals s.heap h') (hm:s.heap.Ns X.env.locals m)
    (hl:∀ (j:Nat) (x:Str) (w:V),X.N[j]?=some x→σ[j]?=some (some w)→Vis X.env.scope x→∃ u,RelV w u∧Look X.env s.heap m x u) (hn:h'.Ns X.env.locals (fun x=>if x=n then v else m x)):Inv X pins (σ.set i none) H { s with heap:=h',toks:=t' }:=by
  have kp:∀ b o,b≠X.env.locals→s.heap.get? b=some o→h'.get? b=some o:=fun b o hb e=>(hs.2 b hb).trans e
  have old:∀ b o,X.s₀.heap.get? b=some o→b≠X.env.locals:=fun b o e=>Nat.ne_of_lt (Nat.lt_of_lt_of_le (Heap.lt_size e) I.ok.above)
  refine ⟨I.ok,I.os,I.bare,⟨fun b o e n hb hx=>kp b o (old b o e) (I.base.keep b o e n hb hx),fun b o e n hb hx=>?_,I.base.free,fun b o e hx=>?_,I.base.tups,I.base.frzs,I.base.tbls⟩,⟨_,hn,fun j x w e1 e2 e3=>?_⟩,fun x c e=>?_,I.free,I.freeC,fun p hp=>?_,fun b u e=>?_,by rw [List.length_set];exact I.len⟩
  · obtain ⟨sl,e1⟩:=I.base.slot b o e n hb hx
    exact ⟨sl,kp b _ (old b o e) e1⟩
  · obtain ⟨o',e1⟩:=I.base.there b o e hx
    exact ⟨o',kp b _ (old b o e) e1⟩
  · by_cases hj:j=i
    · subst hj
      have hj':j<σ.length:=by
        have:=(List.getElem?_eq_some_iff.mp e2).1
        rw [List.length_set] at this;exact this
      rw [List.getElem?_set_self hj'] at e2;cases e2
    · rw [List.getElem?_set_ne (Ne.symm hj)] at e2
      have hx:x≠n:=fun z=>by
        subst z
        obtain ⟨a1,a2⟩:=List.getElem?_eq_some_iff.mp e1
        obtain ⟨b1,b2⟩:=List.getElem?_eq_some_iff.mp hi
        exact hj ((List.getElem_inj hN).mp (a2.trans b2.symm))
      obtain ⟨u,r,l⟩:=hl j x w e1 e2 e3
      refine ⟨u,r,?_⟩
      rcases l with ⟨k,z⟩ | ⟨k,c,ec,z⟩
      · exact .inl ⟨k,by dsimp only;rw [if_neg hx];exact z⟩
      · refine .inr ⟨k,c,ec,?_⟩
        obtain ⟨o,ho,hd⟩:=z
        exact ⟨o,kp c o (I.cne x c ec) ho,hd⟩
  · obtain ⟨w,o,ho,hd⟩:=I.cell x c e
    exact ⟨w,o,kp c o (I.cne x c e) ho,hd⟩
  · obtain ⟨e1,n1,l1,r⟩:=I.pin p hp
    exact ⟨kp _ _ l1 e1,n1,l1,r⟩
  · refine (I.hok b u e).stay (fun c w hc q=>kp c w (fun z=>?_) q) (fun _ q=>q) fun _ _ q=>q
    rcases hc with y | y
    · rw [← y,z,I.free] at e;cases e
    · rw [z,I.free] at y;cases y
end
end L2
namespace L2
open PySem PySem.W PySem.Spec PySem.Calls PyProof.Rows
def M7 (K:PySem.W.Frag) (Bc:Value) (i:Nat) (th:TS) (D:Ends):St→XK:=fun σ cls oe H=>∃ C e,cls=.ref C∧oe=some e∧exmOne K (.ref C) Bc=some true ∧
  th { nx:=fun σ' H'=>D.nx (σ'.set i none) H',rt:=D.rt,bk:=fun σ' H'=>D.bk (σ'.set i none) H',ct:=fun σ' H'=>D.ct (σ'.set i none) H' } (σ.set i (some (.ref e))) (upd H e (.ext (XAt e C)))
def tTry (K:PySem.W.Frag) (Bc:Value) (i:Nat) (tb:TX) (th:TS):TS:=fun D σ H=>tb D (M7 K Bc i th D) σ H
section
variable {X:Cx} {body suite:List Stmt} {b0:Stmt} {x n:Str} {Ba:Addr} {i:Nat} {tb:TX} {th:TS} {np hpos pos:Pos}
theorem GF (hB:Body X) (hc:X.calm=true) (hb:M4 X body tb) (hg:Gl X x) (hm:X.mg x=some (.ref Ba)) (hN:X.N.Nodup) (hi:X.N[i]?=some n) (hlo:X.env.scope.names.lookup n=some .local)
    (hs:∀ e:Addr,PSs (rC X e) (b0 :: suite) th) (hd:(x == ("__debug__":Str))=false:=by decide) :
    PS X (.Try body [.ExceptHandler (some (.Name x np)) (some n) (b0 :: suite) hpos] [] [] pos) (tTry X.K (.ref Ba) i tb th):=by
  intro pins s σ H D I h
  refine wpAny_Try_except (wpAny_mono (hb pins s σ H D _ I h) (fun fl s1 q=>?_) fun ev s1 q=>?_)
  · cases fl with
    | next=>exact wpAny_execs_nil q
    | ret v=>exact q
    | brk=>exact q
    | cont=>exact q
  obtain ⟨σ1,H1,s0,I1,ea,t,C,B,H',rfl,os,bare,fl,fy,new,nh,C',e',ec,ee,hx,ht⟩:=q
  cases ec
  cases ee
  have hfr:X.A.frames=some (X.env :: X.outer):=by rw [← hB.st];exact I1.ok.frames
  have fy0:Heap.FlyingW B (X.env :: X.outer) ea (.ref C) (.ref t) s1.heap:=by rw [← hB.st];exact fy
  refine wpAny_looks_onW hfr hB.fr fy0 fun h4 hd4 sm4=>?_
  have fl4:=fl.on (h2:=h4) hd4.1 (iC fy.2.2.1 sm4)
  refine wpAny_landsW hd4 fun h5 fy5 sm5=>?_
  have fl5:=fl4.on (h2:=h5) fy5.1 (by rw [hB.st];exact iC hd4.2.2.1 sm5)
  have I5:Inv X pins σ1 H' { s1 with heap:=h5 }:=I1.call' (s':={ s1 with heap:=h5 }) (ch:=[]) os fl5.un fl5.hok bare (fun b z=>nomatch z)
  have hxe:XAt ea C h5:=by obtain ⟨ob,h1,h2⟩:=fy5.there;exact ⟨ob,h1,h2⟩
  refine wpAny_handleBy_cons (codeAny_handlers_test ?_) (by intro q;cases q)
  refine lu (X:=rC X ea) (I5.sup ea) hg hm ?_ hd
  refine (exm_one (K:=X.K) I5.kIn (rT hxe) hx).at ?_
  show codeAny _ _ _ _ _
  refine codeAny_handlers_suite_as ?_
  refine lands_againW fy5 fun h6 fy6 sm6=>?_
  have fl6:=fl5.on (h2:=h6) fy6.1 (by rw [hB.st];exact iC fy5.2.2.1 sm6)
  have I6:Inv X pins σ1 H' { s1 with heap:=h6 }:=I1.call' (s':={ s1 with heap:=h6 }) (ch:=[]) os fl6.un fl6.hok bare (fun b z=>nomatch z)
  have hxe6:XAt ea C h6:=by obtain ⟨ob,h1,h2⟩:=fy6.there;exact ⟨ob,h1,h2⟩
  have newS:X.s₀.heap.get? ea=none:=by
    cases q:X.s₀.heap.get? ea with
    | none=>rfl
    | some o =>
      obtain ⟨o',e'⟩:=I1.base.there ea o q (by rw [hB.ex];simp)
      rw [new] at e';cases e'
  have I7:Inv X pins σ1 (upd H' ea (.ext (XAt ea C))) { s1 with heap:=h6 }:=by
    refine I6.Mz nh (fun z=>?_) newS (fun y c e z=>?_) (fun p hp z=>?_) ⟨hxe6,(by obtain ⟨o,h1,_⟩:=hxe6;exact ⟨o,h1⟩),fun g1 g2 p k=>?_⟩
    · obtain ⟨m,⟨o,_,_,ho,_⟩,_⟩:=I1.loc
      rw [← z,new] at ho;cases ho
    · obtain ⟨v,o,ho,_⟩:=I1.cell y c e
      rw [z,new] at ho;cases ho
    · have ho:=(I1.pin p hp).1
      rw [z,new] at ho;cases ho
    · obtain ⟨o,h1,h2⟩:=p
      exact ⟨o,k o h1,h2⟩
  refine mJ (X:=rC X ea) (I7.sup ea) hN hi (.inl hlo) (v:=.ref ea) rfl (fun s8 I8=>?_) (.inr hlo)
  refine wpAny_mono (hs ea pins s8 _ _ _ I8 ht) (fun f s9 q=>?_) fun _ _ z=>z.elim
  have out:∀ {σ9:St} {H9:Hp} (J:Inv (rC X ea) pins σ9 H9 s9) (Z:Shared→Prop),(∀ s10,Inv X pins (σ9.set i none) H9 s10→Z s10)→wpAny (model X.prog X.w) X.A (do bindName X.env n .none;unbindBehindTheSuite X.env n hpos) (fun _ s10=>Z s10) X.xe s9:=fun {σ9 H9} J Z k=>by
    have J':Inv X pins σ9 H9 s9:=J.M8 fun hc=>I1.ok.hd hc
    obtain ⟨m,hn,hl⟩:=id J'.loc
    exact wpAny_nameGoes_keeps hlo hn (by rw [J'.ok.kind];rfl) fun h' v hn' hsb=>k _ (J'.Gq hN hi hsb hn hl hn')
  cases f with
  | next=>obtain ⟨σ9,H9,J,q⟩:=q;exact out J _ fun s10 J10=>⟨_,H9,J10,q⟩
  | brk=>obtain ⟨σ9,H9,J,q⟩:=q;exact out J _ fun s10 J10=>⟨_,H9,J10,q⟩
  | cont=>obtain ⟨σ9,H9,J,q⟩:=q;exact out J _ fun s10 J10=>⟨_,H9,J10,q⟩
  | ret u=>obtain ⟨v,σ9,H9,J,r,q⟩:=q;exact out J _ fun s10 J10=>⟨v,_,H9,J10,r,q⟩
def ClsV (c:V) (t:Value):Prop:=(∃ T,c=.ty T∧t=.type T)∨∃ a,c=.ref a∧t=.ref a
theorem iI:lJ X (.builtin "isinstance") (fun xs H Q=>∃ (e D:Addr) (c:V) (t:Value) (b:Bool),xs=[.ref e,c]∧H e=some (.ext (XAt e D))∧Gf X.K D∧ClsV c t∧PySem.W.kitOne X.K (.ref D) t=some b∧Q (.bl b) H):=by
  intro pins s σ H xs us Q I r h
  obtain ⟨e,D,c,t,b,rfl,he,hD,hc,hk,q⟩:=h
  obtain ⟨u,v,rfl,ru,rv⟩:=vals2 r
  cases ru
  have ev:v=t:=by
    rcases hc with ⟨T,rfl,rfl⟩ | ⟨a,rfl,rfl⟩
    · exact rv
    · exact rv
  subst ev
  obtain ⟨hx,_,_⟩:=(show fV X.prog X.w H s.heap e (.ext (XAt e D)) from I.hok e _ he)
  exact PySem.W.kia_one (wC hD) I.kIn hx hk (fun z=>nomatch z) fun tk=>⟨.bl b,H,I.tok tk,rfl,q⟩
end
theorem Gd:bootBuiltins "ValueError"=some (.type "ValueError"):=by kernel_rfl
theorem Fv {X:Cx}:Passes (CXE X.prog X.w) X E0:=fun _ _ _ _ _ _ _ h=>by
  obtain ⟨_,_,_,_,_,_,_,_,_,_,_,_,hE⟩:=h
  exact hE.elim
theorem xH {X:Cx} {x:Str} {C:Addr} {pos:Pos} (hg:Gl X x) (hm:X.mg x=some (.ref C)) (hd:(x == ("__debug__":Str))=false:=by decide):PE X (.Name x pos) (tC (.ref C)):=fQ (v:=.ref C) hg hm rfl hd
structure rR (K:PySem.W.Frag) (mg:Str→Option Value) (x:Str) (C:Addr):Prop where
  m:mg x=some (.ref C)
  q:excIn K C vg "ValueError.__new__"=true
  x:Gf K C
end L2
namespace L2
open PySem PySem.Spec PyProof.Rows
section
variable {X:Cx}
theorem Inv.rW {pins:List (Addr × Obj)} {σ:St} {H:Hp} {s:Shared} {h':Heap} {t':Nat} {ch:List Addr} (I:Inv X pins σ H s) (k:∀ b o,b ∉ ch→s.heap.get? b=some o→h'.get? b=some o) (f:∀ b∈ch,wW X pins H b):Inv X pins σ H { s with heap:=h',toks:=t' }:=by
  have nit:∀ b u,H b=some u→b ∉ ch:=fun b u e z=>by rw [(f b z).1] at e;cases e
  refine I.step (g':=s.gens) (d':=s.drawn) (ch:=ch) (fun b hb=>?_) (fun b o _ _ hc e _=>k b o hc e) (fun b o _ _ hc e _=>⟨o.slots,k b o hc e⟩) (fun _ _ _ _ n=>n)
    (fun b o hc e=>⟨o,k b o hc e⟩) (fun _ _ e=>e) (fun _ _ _ e=>e) (fun b ps e=>⟨#[],by rw [e];simp⟩) (fun m hm=>?_) (fun b u e=>?_) I.bare
  · obtain ⟨f0,f1,f2,f3,f4,f5⟩:=f b hb
    exact ⟨f3,f1,f4,f5⟩
  · obtain ⟨o,es,ep,ho,r⟩:=hm
    exact ⟨o,es,ep,k _ o (fun z=>(f _ z).2.1 rfl) ho,r⟩
  · refine (I.hok b u e).stay (fun c v hc q=>k c v ?_ q) (fun _ q=>q) fun _ _ q=>q
    rcases hc with z | z
    · rw [z];exact nit b u e
    · exact nit c _ z
end
end L2
namespace L2
open PySem PySem.Spec PyProof.Rows
section
variable {X:Cx}
def Ite (K:PySem.W.Frag) (l:Addr) (xs:List V):It :=
  ⟨fun i H=>SqL K H l xs∧i<xs.length,fun i H x H'=>∃ T a,x=.ref T∧H T=none∧xs[i]?=some a∧H'=upd H T (.tup [.int (i:Int),a]),fun i H=>SqL K H l xs∧xs.length≤i⟩
def MF (e it l:Addr) (i:Nat) (h:Heap):Prop:=(∃ old,IsEnum h e it i old)∧h.IsListIter it l i
theorem rZ {P:Program} {w:World} {K:PySem.W.Frag} {elts:List Expr} {kk:Nat} {tpos:Pos} {e it l:Addr} {xs:List V} (hei:e≠it) :
    Turn P w K (.Tuple elts kk tpos) (Ite K l xs) [e,it] e (MF e it l) where
  mem:=by simp
  obj:=fun i h st b hb=>by
    obtain ⟨⟨old,he⟩,⟨o1,e1,c1,d1⟩⟩:=st
    simp at hb
    rcases hb with rfl | rfl
    · exact ⟨_,he,fun v z=>by cases (show Data.fields _=Data.cell v from z)⟩
    · exact ⟨o1,e1,fun v z=>by rw [d1] at z;cases z⟩
  keep:=fun i h h' st k=>by
    obtain ⟨⟨old,he⟩,h1⟩:=st
    exact ⟨⟨old,k e (by simp) _ he⟩,h1.at fun o x=>k it (by simp) o x⟩
  item:=by
    intro X hP hw hK hc i pins s σ H E I hf st hg
    subst hP hw hK
    obtain ⟨⟨old,he⟩,h1⟩:=st
    obtain ⟨hq1,hi1⟩:=hg
    obtain ⟨its1,rv1,pl1,hz1⟩:=I.list hq1
    obtain ⟨u1,hu1,ru1⟩:=rv1.get (List.getElem?_eq_getElem hi1)
    refine wpAny_pyNext_enum_item he h1 pl1.isList (x:=u1) (by simpa using hu1) hei fun h' a1 a2 a3 a4 hk=>?_
    have lt:∀ {c o},s.heap.get? c=some o→s.heap.objs.size≠c:=fun e=>Nat.ne_of_gt (Heap.lt_size e)
    refine ⟨.ref s.heap.objs.size,rfl,wpAny_letOwnedTupleGo_enum (s:={ s with heap:=h',toks:=s.toks + 1 }) a1 fun h'' hz' hs'=>?_⟩
    have Tz:s.heap.objs.size≠e:=lt he
    have I1:Inv X pins σ H { s with heap:=h'',toks:=s.toks + 1 }:=I.rW (ch:=[e,it])
      (fun b o hb x=>hs'.extBut b o (fun z=>hb (by simp [z])) (hk b o (fun z=>hb (by simp [z])) (fun z=>hb (by simp [z])) x)) fun b hb=>hf b hb
    obtain ⟨F0,F1,F2,F3,F4,F5⟩:=I.Gm (H':=H) (Nat.le_refl _) (I.hok.fresh (Nat.le_refl _))
    have hT:IsTup h'' s.heap.objs.size #[.int (i:Int) s.toks,u1]:=⟨_,hs'.extBut _ _ Tz a3,rfl,_,rfl⟩
    have I2:Inv X pins σ (upd H s.heap.objs.size (.tup [.int (i:Int),xs[i]])) { s with heap:=h'',toks:=s.toks + 1 }:=I1.adopt F0 F1 I.sz F4 F5 (show fV X.prog X.w _ h'' _ (.tup [.int (i:Int),xs[i]]) from ⟨by rw [sizeLine_eq];simp,[.int (i:Int) s.toks,u1],.cons ⟨_,rfl⟩ (.cons ru1 .nil),hT⟩)
    refine ⟨.ref s.heap.objs.size,_,I2,rfl,⟨_,_,rfl,F0,List.getElem?_eq_getElem hi1,rfl⟩,?_,fun b hb=>?_⟩
    · exact ⟨⟨_,by simpa using hz'⟩,a2.extBut hs'.extBut hei.symm⟩
    · rw [aM]
      · exact (hf b hb).1
      · simp at hb
        obtain ⟨o1,e1,_⟩:=h1
        rcases hb with rfl | rfl
        · exact (lt he).symm
        · exact (lt e1).symm
  done:=by
    intro X hP hw hK hc i pins s σ H E I hf st hg
    subst hP hw hK
    obtain ⟨⟨old,he⟩,h1⟩:=st
    obtain ⟨hq1,hend⟩:=hg
    obtain ⟨its1,rv1,pl1,hz1⟩:=I.list hq1
    have e1:=rv1.length
    exact wpAny_pyNext_enum_end (I.ok.hd hc) he h1 pl1.isList (by simp;omega) fun h' hk=>⟨rfl,I.rW (t':=s.toks) (ch:=[e,it])
      (fun b o hb x=>hk b o (fun z=>hb (by simp [z])) x) fun b hb=>hf b hb⟩
  self:=fun _ _ _ _ _ st h=>by
    obtain ⟨⟨old,he⟩,_⟩:=st
    exact wpAny_pyIter_enum he h
def Nz (K:PySem.W.Frag) (ta:TA):TI:=fun σ H R=>ta σ H fun vs H1=>∃ l xs,vs=[.ref l]∧SqL K H1 l xs∧R (Ite K l xs) H1
theorem Fp {elts:List Expr} {kk:Nat} {tpos:Pos} {a:Expr} {ta:TA} {p pos:Pos} (hg:Gl X "enumerate") (hm:X.mg "enumerate"=none) (ha:PA X [a] ta) (hs:starEach [a] X.env=[(false,eval a X.env)]:=by rfl) :
    PI X (.Tuple elts kk tpos) (.Call (.Name "enumerate" p) [a] [] pos) (Nz X.K ta):=by
  intro pins s σ H R I h
  refine Call_ (oK I hg hm boot_enumerate (PyProof.Rows.callWith_type1 (thn (ha pos pins s σ H _ I h) fun us s1 ⟨vs,H1,I1,r1,q1⟩=>?_) hs rfl))
  obtain ⟨l1,xs,e,hq1,q⟩:=q1
  subst e
  obtain ⟨u,rfl,ru⟩:=vals1 r1
  cases ru
  obtain ⟨its1,rv1,pl1,hz1⟩:=I1.list hq1
  refine call_enumerate_list pl1.isList fun h' a1 a2 a3 hk=>?_
  refine wpAny_pyIter_enum a1 ?_
  refine ⟨_,_,_,_,H1,rfl,I1.kept (t':=s1.toks) hk,rZ (l:=l1) (xs:=xs) (it:=s1.heap.objs.size) (Nat.succ_ne_self _),⟨⟨_,a1⟩,a2⟩,fun b hb=>?_,q⟩
  have hb':s1.heap.objs.size≤b:=by
    simp at hb
    rcases hb with rfl | rfl <;> simp
  exact I1.Gm hb' (I1.hok.fresh hb')
theorem uR {K:PySem.W.Frag} {a:Addr} {xs:List V} {acc:Addr} {g:TG} {tc:TT} {te:TE} {τ:St} {H1:Hp} {Q:Hp→Prop} (Pv:Nat→St→Hp→Prop) (h0:Pv 0 τ (upd H1 acc (.lst []))) (hl:∀ i τ H,i≤xs.length→Pv i τ H→SqL K H a xs)
    (hs:∀ i x T τ H,xs[i]?=some x→Pv i τ H→H T=none→g (.ref T) τ (upd H T (.tup [.int (i:Int),x])) fun τ4 H4=>tc τ4 H4 fun b H5=>if b=true then te τ4 H5 fun y H6=>∃ ys,H6 acc=some (.lst ys)∧ys.length<sizeLine∧Pv (i + 1) τ4 (upd H6 acc (.lst (ys++[y]))) else Pv (i + 1) τ4 H5)
    (hd:∀ τ H,Pv xs.length τ H→Q H):lQ (Ite K a xs) acc g tc te τ H1 Q:=by
  refine ⟨fun i m τ H=>m=xs.length - i∧i≤xs.length∧Pv i τ H,⟨xs.length,by simp,Nat.zero_le _,h0⟩,?_⟩
  rintro i m τ H ⟨rfl,hi,p⟩
  have q:=hl i τ H hi p
  by_cases hlt:i<xs.length
  · refine .inr ⟨⟨q,hlt⟩,Pv (i + 1),fun τ' H' p'=>⟨xs.length - (i + 1),by omega,rfl,hlt,p'⟩,fun x H' y=>?_⟩
    obtain ⟨T,b,rfl,hT,hb,rfl⟩:=y
    exact hs i b T τ _ hb p hT
  · have e:i=xs.length:=by omega
    subst e
    exact .inl ⟨⟨q,Nat.le_refl _⟩,hd τ H p⟩
end
end L2
namespace L2
open PySem PySem.Spec PyProof.Rows
structure Iv (P:Prop):Prop where
  t:True
  p:P
theorem ifT {c:Bool} {A B:Prop} (h:c=true) (a:A):if c=true then A else B:=by rw [if_pos h];exact a
theorem ifF {c:Bool} {A B:Prop} (h:c=false) (b:B):if c=true then A else B:=by rw [if_neg (by rw [h];exact Bool.false_ne_true)];exact b
theorem ifB {c:Bool} {A B:Prop} (h1:c=true→A) (h2:c=false→B):if c=true then A else B:=by
  cases c with
  | true=>exact ifT rfl (h1 rfl)
  | false=>exact ifF rfl (h2 rfl)
theorem FZ (x y:Int):decide (V.int x=V.int y)=decide (x=y):=by
  by_cases h:x=y
  · simp [h]
  · have:¬ V.int x=V.int y:=fun e=>h (by cases e;rfl)
    simp [h,this]
theorem fZ {ns:List Int} {i:Int} (h0:0≤i) (h1:i<(ns.length:Int)):atI (ns.map V.int) i=some (V.int (ns.getD i.toNat 0)):=by
  refine j8 h0 ?_
  rw [List.getD_eq_getElem?_getD,List.getElem?_eq_getElem (by omega)];rfl
theorem jz {ns:List Int} {k:Nat} (h:k<ns.length):ns[k]?=some (ns.getD k 0):=by
  rw [List.getD_eq_getElem?_getD,List.getElem?_eq_getElem h];rfl
theorem cW.mo {T:fH} {K:PySem.W.Frag} {H H':Hp} {vs:List V} {ds:List PyData} (h:cW K H vs ds) (e:bf T H H'):cW K H' vs ds:=cW.rJ e h
theorem SqL.mo {T:fH} {K:PySem.W.Frag} {H H':Hp} {a:Addr} {xs:List V} (h:SqL K H a xs) (e:bf T H H'):SqL K H' a xs:=e.seq h
theorem SqT.mo {T:fH} {K:PySem.W.Frag} {H H':Hp} {a:Addr} {xs:List V} (h:SqT K H a xs) (e:bf T H H'):SqT K H' a xs:=e.Qi h
section
variable {T:fH} {H0 H1 H H':Hp} {L L':List (Addr × HO)} {a l p:Addr} {o o':HO} {xs:List V} {K:PySem.W.Frag}
theorem Ow.frz (O:Ow T H0 H ((p,o) :: L)):∃ Hn,Ow T Hn H L∧bf T H0 Hn∧Hn p=some o:=by
  obtain ⟨Hn,On,sn,kn⟩:=O.tail.reb
  refine ⟨Hn,On,sn,kn p o (O.get 0) fun q hq z=>?_⟩
  have nd:=O.nd
  rw [List.map_cons,List.nodup_cons] at nd
  exact nd.1 (List.mem_map.mpr ⟨q,hq,z⟩)
end
def dTup (ns:List Int):PyData:=.tuple (ns.map PyData.int)
def P0 (rs:List (List Int)):PyData:=.list (rs.map dTup)
section
variable {K:PySem.W.Frag} {H:Hp} {v:V} {a:Addr} {ns:List Int} {rs:List (List Int)}
theorem Den.tup (h:SqT K H a (ns.map V.int)):Den K H (.ref a) (dTup ns):=.tuple h (cW.ints ns)
theorem Den.sy (h:Den K H v (dTup ns)):∃ a,v=.ref a∧SqT K H a (ns.map V.int):=by
  cases h with
  | tuple h hs=>exact ⟨_,rfl,by rw [← cW.int_inv hs];exact h⟩
theorem Sh.tup (n:Nat) (ns:List Int):Sh (n + 1) (dTup ns):=.tuple fun d hd=>by
  obtain ⟨i,_,rfl⟩:=List.mem_map.mp hd
  exact .int n i
theorem Sh.tups (n:Nat) (rs:List (List Int)):Sh (n + 2) (P0 rs):=.list fun d hd=>by
  obtain ⟨i,_,rfl⟩:=List.mem_map.mp hd
  exact .tup n i
end
end L2
namespace L2
open PySem PySem.Spec PyProof.Rows
section
variable {A B:Prop}
theorem ifD {p:Prop} [Decidable p] (h1:p→A) (h2:¬ p→B):if decide p=true then A else B:=ifB (fun h=>h1 (of_decide_eq_true h)) fun h=>h2 (of_decide_eq_false h)
theorem ifI {x y:Int} (h1:x=y→A) (h2:¬ x=y→B):if decide (V.int x=V.int y)=true then A else B:=by rw [FZ];exact ifD h1 h2
theorem ifN {c:Bool} (h:if c=true then B else A):if (!c)=true then A else B:=by cases c <;> simpa using h
end
structure Lic where
  day:Int
  start:Int
  back:Int
  most:Int
def jA (l:Lic):PyData:=dTup [l.day,l.start,l.back,l.most]
def Qa (ls:List Lic):PyData:=.list (ls.map jA)
abbrev mH (l:Lic):List V:=[.int l.day,.int l.start,.int l.back,.int l.most]
section
variable {K:PySem.W.Frag} {H:Hp} {v:V} {a:Addr} {ls:List Lic} {l:Lic} {xs:List V} {k:Nat}
theorem Den.lic (h:SqT K H a (mH l)):Den K H (.ref a) (jA l):=Den.tup (ns:=[l.day,l.start,l.back,l.most]) h
theorem Den.uy (h:Den K H v (jA l)):∃ a,v=.ref a∧SqT K H a (mH l):=h.sy
theorem cW.mq (h:cW K H xs (ls.map jA)) (hk:ls[k]?=some l):∃ a,xs[k]?=some (.ref a)∧SqT K H a (mH l):=by
  obtain ⟨v,h1,h2⟩:=h.get (i:=k) (d:=jA l) (by rw [List.getElem?_map,hk];rfl)
  obtain ⟨a,rfl,hT⟩:=h2.uy
  exact ⟨a,h1,hT⟩
theorem cW.FJ (h:cW K H xs (ls.map jA)) (hx:xs[k]?=some v):∃ a l,v=.ref a∧ls[k]?=some l∧SqT K H a (mH l):=by
  obtain ⟨d,h1,h2⟩:=h.get' hx
  rw [List.getElem?_map] at h1
  cases e:ls[k]? with
  | none=>rw [e] at h1;cases h1
  | some l =>
    rw [e] at h1
    cases h1
    obtain ⟨a,rfl,hT⟩:=h2.uy
    exact ⟨a,l,rfl,rfl,hT⟩
theorem Sh.lic (n:Nat) (l:Lic):Sh (n + 1) (jA l):=Sh.tup n _
theorem Sh.roll (n:Nat) (ls:List Lic):Sh (n + 2) (Qa ls):=.list fun d hd=>by
  obtain ⟨i,_,rfl⟩:=List.mem_map.mp hd
  exact .lic n i
end
theorem Ga (xs:List V) (i j:Nat):uP xs (some (i:Int)) (some (j:Int))=(xs.drop i).take (j - i):=by
  unfold uP
  rw [HT.pJ,HT.pJ]
  refine List.ext_getElem? fun k=>?_
  simp only [List.getElem?_take,List.getElem?_drop]
  by_cases h1:k<j - i
  · rw [if_pos h1]
    by_cases h2:i + k<xs.length
    · rw [if_pos (by omega),show min i xs.length=i by omega]
    · rw [List.getElem?_eq_none (l:=xs) (i:=i + k) (by omega)]
      split
      · exact List.getElem?_eq_none (by omega)
      · rfl
  · rw [if_neg h1]
    split
    · rename_i h3
      omega
    · rfl
theorem Mw (ns:List Int) (i j:Nat):uP (ns.map V.int) (some (i:Int)) (some (j:Int))=((ns.drop i).take (j - i)).map V.int:=by
  rw [Ga,List.map_take,List.map_drop]
theorem wL (ns:List Int) (i:Nat):uP (ns.map V.int) (some (i:Int)) none=(ns.drop i).map V.int:=by
  unfold uP
  rw [HT.pJ,List.length_map,show HT.sIx ns.length ns.length none=ns.length from rfl,List.map_drop]
  by_cases h:i≤ns.length
  · rw [Nat.min_eq_left h,List.take_of_length_le (by rw [List.length_drop,List.length_map];omega)]
  · rw [Nat.min_eq_right (by omega),List.drop_of_length_le (l:=ns.map V.int) (i:=i) (by rw [List.length_map];omega),Nat.sub_self,List.take_zero]
end L2
namespace L2
open PySem PySem.Spec PyProof.Rows
end L2
namespace L2
open PySem PySem.Spec PyProof.Rows
theorem Fq {X:Cx} {K:PySem.W.Frag} {pos:Pos} {es:List Expr} {k:Nat} {t:TGs} {n:Nat} (hK:X.K=K) (hc:X.calm=true) (h:PGs X es t) (hn:(assignEach es X.env).length=n:=by rfl) (hst:(assignEach es X.env).findIdx? (·.1)=none:=by rfl):PG X (.Tuple es k pos) (Qx K n t):=hK ▸ tU hc h hn hst
end L2
namespace L2
open PySem PySem.Spec PyProof.Rows
end L2
namespace L2
open PySem PySem.Spec PyProof.Rows
theorem mC {α:Type}:∀ {L:List α} {k:Nat} {p:α},L[k]?=some p→(p :: L.eraseIdx k).Perm L
  | [],_,_,h=>by simp at h
  | a :: L,0,p,h=>by
    have e:a=p:=by simpa using h
    subst e;exact List.Perm.refl _
  | a :: L,k + 1,p,h=>by
    have h':L[k]?=some p:=by simpa using h
    rw [List.eraseIdx_cons_succ]
    exact (List.Perm.swap a p _).trans ((mC h').cons a)
section
variable {T:fH} {H0 H:Hp} {L:List (Addr × HO)} {p:Addr} {o:HO}
theorem Ow.pull (O:Ow T H0 H L) (k:Nat) (h:L[k]?=some (p,o):=by rfl):Ow T H0 H ((p,o) :: L.eraseIdx k):=O.perm (mC h)
theorem Ow.jX (O:Ow T H0 H L) (k:Nat) (h:L[k]?=some (p,o):=by rfl):∃ Hn,Ow T Hn H (L.eraseIdx k)∧bf T H0 Hn∧Hn p=some o:=(O.pull k h).frz
theorem Ow.del (O:Ow T H0 H L) (k:Nat):Ow T H0 H (L.eraseIdx k):=O.sub (List.eraseIdx_sublist L k)
end
end L2
namespace L2
open PySem PySem.Spec PyProof.Rows
end L2
namespace L2
open PySem PySem.Spec PyProof.Rows
end L2
namespace L2
open PySem PySem.W PySem.Spec PyProof.Rows
end L2
namespace L2
open PySem PySem.Spec PyProof.Rows
abbrev KT (H:Hp):List (List Key × V)→List (List Key × Addr × Value)→Prop:=Paired fun p q=>p.1=q.1∧H q.2.1=some (.tup (p.1.map kV))∧RelV p.2 q.2.2
abbrev VV:List (V × V)→List (Value × Value)→Prop:=Paired fun p q=>RelV p.1 q.1∧RelV p.2 q.2
end L2
namespace L2
open PySem PySem.W PySem.Spec PyProof.Rows
end L2
namespace L2
open PySem PySem.W PySem.Spec PyProof.Rows
section
variable {X:Cx}
abbrev oLic (l:Lic):HO:=.tup (mH l)
abbrev oInts (w:List Int):HO:=.lst (w.map V.int)
theorem wM {K:PySem.W.Frag} {a:Addr} {xs:List V} {acc:Addr} {g:TG} {tc:TT} {te:TE} {τ:St} {H1:Hp} {Q:Hp→Prop} (Pv:Nat→St→Hp→Prop) (h0:Pv 0 τ (upd H1 acc (.lst []))) (hl:∀ i τ H,i≤xs.length→Pv i τ H→SqT K H a xs)
    (hs:∀ i x τ H,xs[i]?=some x→Pv i τ H→g x τ H fun τ4 H4=>tc τ4 H4 fun b H5=>if b=true then te τ4 H5 fun y H6=>∃ ys,H6 acc=some (.lst ys)∧ys.length<sizeLine∧Pv (i + 1) τ4 (upd H6 acc (.lst (ys++[y]))) else Pv (i + 1) τ4 H5)
    (hd:∀ τ H,Pv xs.length τ H→Q H):lQ (Itt K a) acc g tc te τ H1 Q:=by
  refine ⟨fun i m τ H=>m=xs.length - i∧i≤xs.length∧Pv i τ H,⟨xs.length,by simp,Nat.zero_le _,h0⟩,?_⟩
  rintro i m τ H ⟨rfl,hi,p⟩
  have q:=hl i τ H hi p
  by_cases hlt:i<xs.length
  · refine .inr ⟨⟨xs,xs[i],q,by simp [hlt]⟩,Pv (i + 1),fun τ' H' p'=>⟨xs.length - (i + 1),by omega,rfl,hlt,p'⟩,fun x H' y=>?_⟩
    obtain ⟨e,y⟩:=y
    subst e
    exact hs i x τ _ (y xs q) p
  · have e:i=xs.length:=by omega
    subst e
    exact .inl ⟨⟨xs,q,Nat.le_refl _⟩,hd τ H p⟩
end
end L2
namespace L2
open PySem PySem.W PySem.Spec PyProof.Rows
end L2
namespace L2
open PySem PySem.W PySem.Spec PyProof.Rows
theorem oU {X:Cx} {K:PySem.W.Frag} (h:X.K=K):lJ X (.builtin "isinstance") (fun xs H Q=>∃ x t c b,xs=[x,.ty c]∧qd K H x t∧PySem.W.kitOne K t (.type c)=some b∧Q (.bl b) H):=h ▸ gq
end L2
namespace HT
open PySem PyProof.Rows
end HT
namespace L2
open PySem PySem.W PySem.Spec PyProof.Rows
end L2
namespace L2
open PySem PySem.Spec PyProof.Rows
def Its (x:Str):It:=⟨fun i _=>i<x.cps.size,fun i H y H'=>H'=H∧∃ c,x.cps[i]?=some c∧y=.str ⟨#[c]⟩,fun i _=>x.cps.size≤i⟩
theorem vq {P:Program} {w:World} {K:PySem.W.Frag} {tg:Expr} (it:Addr) (x:Str) (t:Tok):Turn P w K tg (Its x) [it] it (fun i h=>h.IsStrIter it "str_ascii_iterator" x t i) where
  mem:=by simp
  obj:=fun i h st b hb=>by
    have e:b=it:=by simpa using hb
    subst e
    obtain ⟨o,e,c,d⟩:=st
    exact ⟨o,e,fun v z=>by rw [d] at z;cases z⟩
  keep:=fun i h h' st k=>let ⟨o,e,r⟩:=st;⟨o,k it (by simp) o e,r⟩
  item:=by
    intro X hP hw hK hc i pins s σ H E I hf st hg
    subst hP hw hK
    obtain ⟨f0,f1,f2,f3,f4,f5⟩:=hf it (by simp)
    have hg:i<x.cps.size:=hg
    have hx:x.cps[i]?=some x.cps[i]:=by simp [hg]
    refine wpAny_pyNext_ascii_item st hx fun h' st' sb=>?_
    have I1:Inv X pins σ H { s with heap:=h',toks:=s.toks + 1 }:=I.turned (fun b o hb e=>(sb.2 b hb).trans e) f0 f1 f3 f4 f5
    obtain ⟨o,e,c,d⟩:=id st'
    exact ⟨_,rfl,wH (s:={ s with heap:=h',toks:=s.toks + 1 }) e c d (by decide) ⟨.str ⟨#[x.cps[i]]⟩,H,I1,⟨_,rfl⟩,⟨rfl,_,hx,rfl⟩,st',fun b hb=>(hf b hb).1⟩⟩
  done:=by
    intro X hP hw hK hc i pins s σ H E I hf st hg
    subst hP hw hK
    obtain ⟨f0,f1,f2,f3,f4,f5⟩:=hf it (by simp)
    have hg:x.cps.size≤i:=hg
    exact wpAny_pyNext_ascii_end (I.ok.hd hc) st (by simp [hg]) fun h' eb=>⟨rfl,I.turned (t':=s.toks) (fun b o hb e=>eb b o hb e) f0 f1 f3 f4 f5⟩
  self:=fun _ _ _ _ _ st h=>wpAny_pyIter_striter_ascii st h
section
variable {X:Cx} {tg:Expr}
def iStr (tl:TE):TI:=fun σ H R=>tl σ H fun v H1=>∃ x,v=.str x∧x.cps.all (·<128)=true∧R (Its x) H1
theorem GK {l:Expr} {tl:TE} (hl:PE X l tl):PI X tg l (iStr tl):=by
  intro pins s σ H R I h
  refine thn (hl pins s σ H _ I h) fun v s1 ⟨x,H1,I1,r1,q1⟩=>?_
  obtain ⟨z,e,ha,q⟩:=q1
  subst e
  obtain ⟨t,rfl⟩:=r1
  refine wpAny_pyIter_ascii ha ?_
  refine ⟨s1.heap.objs.size,[s1.heap.objs.size],_,_,H1,rfl,I1.kept (t':=s1.toks) fun b o e=>Heap.get?_push_of_some _ e,vq _ z t,⟨_,Heap.get?_push_size _ rfl,rfl,rfl⟩,fun b hb=>?_,q⟩
  have e:b=s1.heap.objs.size:=by simpa using hb
  subst e
  exact I1.Gm (Nat.le_refl _) (I1.hok.fresh (Nat.le_refl _))
theorem wN {x:Str} {acc:Addr} {g:TG} {tc:TT} {te:TE} {τ:St} {H1:Hp} {Q:Hp→Prop} (Pv:Nat→St→Hp→Prop) (h0:Pv 0 τ (upd H1 acc (.lst [])))
    (hs:∀ i c τ H,x.cps[i]?=some c→Pv i τ H→g (.str ⟨#[c]⟩) τ H fun τ4 H4=>tc τ4 H4 fun b H5=>if b=true then te τ4 H5 fun y H6=>∃ ys,H6 acc=some (.lst ys)∧ys.length<sizeLine∧Pv (i + 1) τ4 (upd H6 acc (.lst (ys++[y]))) else Pv (i + 1) τ4 H5)
    (hd:∀ τ H,Pv x.cps.size τ H→Q H):lQ (Its x) acc g tc te τ H1 Q:=by
  refine ⟨fun i m τ H=>m=x.cps.size - i∧i≤x.cps.size∧Pv i τ H,⟨x.cps.size,by simp,Nat.zero_le _,h0⟩,?_⟩
  rintro i m τ H ⟨rfl,hi,p⟩
  by_cases hlt:i<x.cps.size
  · refine .inr ⟨hlt,Pv (i + 1),fun τ' H' p'=>⟨x.cps.size - (i + 1),by omega,rfl,hlt,p'⟩,fun y H' e=>?_⟩
    obtain ⟨e,c,hc,ey⟩:=e
    subst e ey
    exact hs i c τ _ hc p
  · have e:i=x.cps.size:=by omega
    subst e
    exact .inl ⟨Nat.le_refl _,hd τ H p⟩
theorem tY:OpR X (binaryOp .Mult) (fun x y H Q=>∃ z n,x=.str z∧y=.int n∧0≤n∧n≤64∧z.length≤64∧Q (.str (Txt.mul z n)) H):=by
  intro pins s σ H x y v u Q I rx ry h
  obtain ⟨z,n,rfl,rfl,n0,n1,hz,q⟩:=h
  obtain ⟨t,rfl⟩:=rx
  obtain ⟨t',rfl⟩:=ry
  refine SB.mul ⟨?_,fun h1 _=>?_,fun h1 _=>?_⟩ fun t' k=>⟨.str _,H,I.tok _,⟨_,rfl⟩,q⟩
  · rw [decide_eq_false (by omega),decide_eq_false (by omega)];rfl
  · have:(64:Int)≤(2 ^ 63 - 1) / n:=by
      refine Int.le_ediv_of_mul_le (by omega) ?_
      omega
    omega
  · have h2:z.length * n.toNat≤64 * 64:=Nat.mul_le_mul hz (by omega)
    unfold Builtin.Str.tooLong
    exact decide_eq_false (by rw [sizeLine_eq];omega)
structure Dm (K:PySem.W.Frag) (C:Addr) (x qual:Str) (st:Stmt) (ps:List Str) (a:Addr) (fd:FuncData):Prop where
  F:Fun K x qual st a fd
  b:Binds K fd ps []
  m:Meth K C x a
structure Gn (K:PySem.W.Frag) (x qual:Str) (st:Stmt) (dv:List Value) (f:Addr) (fd:FuncData):Prop where
  ex:∃ (oc:Value) (od:Option Addr) (T:Addr) (o:Obj) (n:Nat) (kV doc pm:Value) (an:Option Addr) (cdv ct:Value) (osl:Array (Option Value)),
    fd=PySem.W.fnOf x qual (aq st) (ao st) (ak st) (.ref T) kV doc pm an cdv ct∧K.lookup f=some ⟨oc,od,.func fd,osl⟩∧PySem.W.codeIn K cdv qual=true∧K.lookup T=some o∧o.data=.seq dv.toArray n
  kp:PySem.W.keepIn K (.ref f)=true
section
variable {P:Program} {w:World} {K:PySem.W.Frag} {mg:Str→Option Value} {base:Heap} {x qual:Str} {st:Stmt} {dv:List Value} {f:Addr} {fd:FuncData} {N ps:List Str} {k:Nat} {sp:Sp}
theorem Gn.ok (F:Gn K x qual st dv f fd) (S:aH N ps (ak st)) (len:∀ vs H Q E,sp vs H Q E→vs.length=ps.length)
    (hbody:∀ (cdv:Value) (A:Around) (outer:List Env) (s:Shared) (H:Hp) (vs:List V) (Q:VK) (E:XK),jK k (A.deeper (envOfC qual (ak st) s.heap.objs.size f cdv))→sp vs H Q E →
      ∃ t,PSs (vf CX0 P w K mg base N qual (ak st) f cdv A outer s H E).nox (ao st) t∧t { nx:=fun _ H'=>Q .non H',rt:=Q } (start N vs) H):bT P w K mg base CX0 (k + 1) f fd ps sp:=by
  obtain ⟨oc,od,T,o,n,kV,doc,pm,an,cdv,ct,osl,rfl,lk,hcd,_⟩:=F.ex
  refine FT lk hcd S len fun A outer s H vs Q E hr hsp=>?_
  obtain ⟨t,h,q⟩:=hbody cdv A outer s H vs Q E hr hsp
  exact ⟨t,h.nox,q⟩
theorem Gn.binds {ds:List Value} (F:Gn K x qual st dv f fd)
    (h:∀ (T:Addr) (kV doc pm:Value) (an:Option Addr) (cdv ct:Value) (us:List Value),(us++ds).length=ps.length→∃ k:Option (Array Value)→Sem (List (Str × Value)),
      bindArgs (PySem.W.fnOf x qual (aq st) (ao st) (ak st) (.ref T) kV doc pm an cdv ct) ⟨us,[]⟩=(seqItems? (.ref T) >>= k)∧k (some dv.toArray)=pure (ps.zip (us++ds))):Binds K fd ps ds:=by
  obtain ⟨oc,od,T,o,n,kV,doc,pm,an,cdv,ct,osl,rfl,lk,hcd,lt,hs⟩:=F.ex
  intro s us X hl
  obtain ⟨k,h1,h2⟩:=h T kV doc pm an cdv ct us hl
  exact BindsTo.of_defaults rfl (X _ _ lt) hs h1 h2
end
structure DmD (K:PySem.W.Frag) (C:Addr) (x qual:Str) (st:Stmt) (ps:List Str) (a:Addr) (fd:FuncData):Prop where
  F:Gn K x qual st [.none] a fd
  b0:Binds K fd ps []
  b1:Binds K fd ps [.none]
  m:Meth K C x a
structure Cl (K:PySem.W.Frag) (mg:Str→Option Value) (x:Str) (C f:Addr) (fs:List Str):Prop where
  c:Cls K C
  k:Mk K C f
  m:mg x=some (.ref C)
  n:∀ y∈fs,gK K C y
end
section
variable {T:fH} {H0 H:Hp} {L R B:List (Addr × HO)} {a b:Addr} {o o':HO} {x y:Addr × HO}
theorem Ow.ne (O:Ow T H0 H L) (i j:Nat) (hi:L[i]?=some (a,o):=by rfl) (hj:L[j]?=some (b,o'):=by rfl) (hij:i≠j:=by decide):a≠b:=by
  intro e
  subst e
  have h1:(L.map (·.1))[i]?=some a:=by rw [List.getElem?_map,hi];rfl
  have h2:(L.map (·.1))[j]?=some a:=by rw [List.getElem?_map,hj];rfl
  exact hij ((List.getElem?_inj (List.getElem?_eq_some_iff.mp h1).1 O.nd).mp (h1.trans h2.symm))
theorem Ow.mid (O:Ow T H0 H (x :: (R++B))):Ow T H0 H (R++x :: B):=O.perm List.perm_middle
end
end L2
namespace L2
open PySem PySem.Spec PyProof.Rows
open AutoSeq1 (wpAny_loadPart')
theorem oR {X:Cx}:lJ X (.builtin "isinstance") (fun xs H Q=>∃ a ys c b,xs=[.ref a,.ty c]∧SqT X.K H a ys∧PySem.W.kitOne X.K (.type "tuple") (.type c)=some b∧Q (.bl b) H):=by
  intro pins s σ H xs us Q I r h
  obtain ⟨a,ys,c,b,rfl,hq,e,q⟩:=h
  obtain ⟨u,w,rfl,ru,rw'⟩:=vals2 r
  obtain rfl:w=Value.type c:=rw'
  cases (show u=Value.ref a from ru)
  obtain ⟨its,rv,⟨o,h1,h2,_⟩,hz⟩:=I.tuple hq
  exact PySem.W.kia_one PySem.W.kitx_tuple I.kIn ⟨o,h1,h2⟩ e (fun z=>nomatch z) fun tk=>⟨.bl b,H,I.tok tk,rfl,q⟩
end L2
namespace L2
open PySem PySem.Spec PyProof.Rows
section
variable {X:Cx} {k:Nat} {f C:Addr} {fd:FuncData} {ps:List Str} {sp:Sp} {dvs:List V} {ds:List Value} {m:Str} {apos pos:Pos} {o e:Expr} {es:List Expr} {t:TA} {ta:TE}
def M6 (C:Addr) (m:Str) (sp:Sp) (dvs:List V) (ta:TE) (t:TA):St→Hp→VK→XK→Prop:=fun σ H Q Ex=>ta σ H fun x H1=>∃ a dx fs,x=.ref a∧H1 a=some (.ins C dx fs)∧fs.lookup m=none∧t σ H1 fun vs H2=>sp (x :: (vs++dvs)) H2 Q Ex
theorem mG {pl:Sem Bool} (he:PE X.nox o ta) (c:Cls X.K C) (hm:Meth X.K C m f) (F:bT X.prog X.w X.K X.mg X.base (CXE X.prog X.w) k f fd ps sp) (hr:jK k X.A) (hb:Binds X.K fd ps ds) (hd:Vals dvs ds) (ha:PA X.nox (e :: es) t)
    (hst:starEach (e :: es) X.env=(false,eval e X.env) :: starEach es X.env:=by rfl) (hpl:(backTo pos (starEach es X.env)).any (·.1)=false:=by rfl)
    (ht:eval (.Call (.Attribute o m apos) (e :: es) [] pos) X.env=(do
      let ov ← eval o X.env
      standAt apos.atName
      let (f,first) ← holding [ov] (getMethod ov m pl)
      callWith pos f first (backTo pos (starEach (e :: es) X.env)) (backToKw pos (keywordEach [] X.env))):=by rfl) :
    PEx X (.Call (.Attribute o m apos) (e :: es) [] pos) (M6 C m sp dvs ta t):=by
  intro pins s σ H Q Ex I h
  refine PySem.W.methodCall_KW (pl:=pl) (wpAny_mono (he pins s σ H _ (I.wish _) h) (fun u s1 ⟨x,H1,I1,rx,a,dx,fs,ex,ea,l,q⟩=>?_) fun _ _ z=>z.elim) ht
  subst ex
  obtain rfl:u=Value.ref a:=rx
  have I1:=I1.iz
  refine jH I1 ea c hm l ?_
  refine PySem.W.callWith_K (first:=[.ref a]) (h₀:=X.base) I.ok.mod.kin hm.kp (wpAny_mono (ha pos pins s1 σ H1 _ (I1.wish _) q) (fun us s2 ⟨vs,H2,I2,r,q2⟩=>?_) fun _ _ z=>z.elim) hst hpl
  have I2:=I2.iz
  refine ⟨I2.kIn,?_⟩
  have r2:Vals (V.ref a :: (vs++dvs)) (Value.ref a :: (us++ds)):=.cons rfl (r.append hd)
  have hl:(Value.ref a :: us++ds).length=ps.length:=by
    have e:=r2.length
    rw [F.len _ _ _ _ q2] at e
    exact e.symm
  refine wpAny_call (codeAny_mono (F.run X.A X.stack s2 H2 ⟨Value.ref a :: us,[]⟩ (Value.ref a :: us++ds) (V.ref a :: (vs++dvs)) Q (Ex σ) hr I2.env0 (hb s2 (Value.ref a :: us) I2.kIn hl) r2 q2) fun rr s' hq=>?_)
  cases rr with
  | error ev=>exact ⟨σ,H2,s2,I2,hq⟩
  | ok fl =>
    cases fl with
    | ret u=>exact I2.after hq
    | next=>exact False.elim hq
    | brk=>exact False.elim hq
    | cont=>exact False.elim hq
end
end L2
namespace L2
open PySem PySem.Spec PyProof.Rows
def rSlS:V→Option Int→Option Int→Hp→VK→Prop:=fun x lo hi H Q=>∃ z,x=.str z∧z.length≤100000∧Q (.str (Txt.slice z lo hi)) H
theorem Gz {X:Cx}:SlR X rSlS:=by
  intro pins s σ H x v vl vu lo hi sl Q I rx hs pl pu h
  obtain ⟨z,rfl,hz,q⟩:=h
  obtain ⟨t,rfl⟩:=rx
  refine ⟨"str",_,F.slot_str_getitem.lookup,typeIs_str _ _ _,?_⟩
  have hk:∀ (lo hi:Option Int),(Txt.slice z lo hi).length≤sizeLine:=fun lo hi=>Nat.le_trans (Txt.slice_le z lo hi) (by rw [sizeLine_eq];omega)
  cases pl with
  | none =>
    cases pu with
    | none=>exact wpAny_getItem_str_slice (l:=none) (u:=none) (st:=none) hs rfl (post_val_or_str ⟨hk _ _,fun t' k=>⟨.str _,H,I.tok _,⟨_,rfl⟩,q⟩⟩)
    | int j tj=>exact wpAny_getItem_str_slice (l:=none) (u:=some (j,tj)) (st:=none) hs rfl (post_val_or_str ⟨hk _ _,fun t' k=>⟨.str _,H,I.tok _,⟨_,rfl⟩,q⟩⟩)
  | int i ti =>
    cases pu with
    | none=>exact wpAny_getItem_str_slice (l:=some (i,ti)) (u:=none) (st:=none) hs rfl (post_val_or_str ⟨hk _ _,fun t' k=>⟨.str _,H,I.tok _,⟨_,rfl⟩,q⟩⟩)
    | int j tj=>exact wpAny_getItem_str_slice (l:=some (i,ti)) (u:=some (j,tj)) (st:=none) hs rfl (post_val_or_str ⟨hk _ _,fun t' k=>⟨.str _,H,I.tok _,⟨_,rfl⟩,q⟩⟩)
theorem sO {x:Str} {lo hi:Option Int} {c:Nat} (h:c∈(Txt.slice x lo hi).cps.toList):c∈x.cps.toList:=by
  unfold Txt.slice at h
  split at h
  · exact h
  · simp only [List.mem_filterMap] at h
    obtain ⟨a,_,h⟩:=h
    exact Array.mem_toList_iff.mpr (Array.mem_of_getElem? h)
end L2
namespace L2
open PySem PySem.Spec PyProof.Rows
section
variable {X:Cx}
def xIfS (c:TT) (t u:TX):TX:=fun D Ex σ H=>c σ H fun b H1=>if b=true then t D Ex σ H1 else u D Ex σ H1
theorem Ew {c:Expr} {a b:List Stmt} {tc:TT} {t u:TX} {pos:Pos} (hc:PT X.nox c tc) (ha:M4 X a t) (hb:M4 X b u):PSx X (.If c a b pos) (xIfS tc t u):=by
  intro pins s σ H D Ex I h
  refine wpAny_If (wpAny_mono (hc pins s σ H _ (I.wish _) h) (fun d s1 ⟨H1,I1,q1⟩=>?_) fun _ _ z=>z.elim)
  have I1:=I1.iz
  cases d with
  | true=>exact ha pins s1 σ H1 D Ex I1 q1
  | false=>exact hb pins s1 σ H1 D Ex I1 q1
end
end L2
namespace Rv
def lE (r:List Int):Prop:=∃ rk:Nat→Nat,(∀ i,i<r.length→rk i<r.length) ∧
  ∀ (i:Nat) (x:Int),r[i]?=some x→x=-1∨(0≤x∧x<r.length∧rk x.toNat<rk i)
def nxt (r:List Int) (p:Int):Int:=r.getD p.toNat (-1)
theorem jk {r:List Int} {p:Int} (h0:0≤p) (h1:p<r.length):r[p.toNat]?=some (nxt r p):=by
  have h:p.toNat<r.length:=by omega
  unfold nxt
  rw [List.getD_eq_getElem?_getD,List.getElem?_eq_getElem h];rfl
theorem lE.step {r:List Int} (h:lE r) {p:Int} (h0:0≤p) (h1:p<r.length):nxt r p=-1∨(0≤nxt r p∧nxt r p<r.length):=by
  obtain ⟨rk,_,h3⟩:=h
  rcases h3 _ _ (jk h0 h1) with e | ⟨a,b,_⟩
  · exact .inl e
  · exact .inr ⟨a,b⟩
def kh (r:List Int):Nat→Int→List Int
  | 0,_=>[]
  | f + 1,p=>if p=-1 then [] else p :: kh r f (nxt r p)
def walk (r:List Int) (p:Int):List Int:=kh r (r.length + 1) p
theorem jt (r:List Int) (f:Nat):kh r f (-1)=[]:=by
  cases f with
  | zero=>rfl
  | succ f=>unfold kh;rw [if_pos rfl]
theorem ql (r:List Int):walk r (-1)=[]:=jt r _
theorem jL {r:List Int} {rk:Nat→Nat} (h:∀ (i:Nat) (x:Int),r[i]?=some x→x=-1∨(0≤x∧x<r.length∧rk x.toNat<rk i)) :
    ∀ (f g:Nat) (p:Int),0≤p→p<r.length→rk p.toNat<f→rk p.toNat<g→kh r f p=kh r g p
  | 0,_,_,_,_,hf,_=>by omega
  | _ + 1,0,_,_,_,_,hg=>by omega
  | f + 1,g + 1,p,h0,h1,hf,hg=>by
    unfold kh
    rw [if_neg (by omega),if_neg (by omega)]
    rcases h _ _ (jk h0 h1) with e | ⟨a,b,c⟩
    · rw [e,jt,jt]
    · rw [jL h f g _ a b (by omega) (by omega)]
theorem jr {r:List Int} (h:lE r) {p:Int} (h0:0≤p) (h1:p<r.length):walk r p=p :: walk r (nxt r p):=by
  obtain ⟨rk,h2,h3⟩:=h
  show kh r (r.length + 1) p=_
  unfold kh
  rw [if_neg (by omega)]
  rcases h3 _ _ (jk h0 h1) with e | ⟨a,b,c⟩
  · rw [e,jt,ql]
  · have:=h2 p.toNat (by omega)
    unfold walk
    rw [jL h3 r.length (r.length + 1) _ a b (by omega) (by omega)]
theorem nF (r:List Int):∀ (f:Nat) (p:Int),(kh r f p).length≤f
  | 0,_=>Nat.le_refl _
  | f + 1,p=>by
    unfold kh
    split
    · exact Nat.zero_le _
    · exact Nat.succ_le_succ (nF r f _)
theorem vp (r:List Int) (p:Int):(walk r p).length≤r.length + 1:=nF r _ _
noncomputable def mea (r:List Int) (p:Int):Nat:=(walk r p).length
theorem Hi {r:List Int} (h:lE r) {p:Int} (h0:0≤p) (h1:p<r.length):mea r (nxt r p)<mea r p:=by
  unfold mea;rw [jr h h0 h1];exact Nat.lt_succ_self _
def stp (r:List Int) (p:Int):Int:=if p=-1 then -1 else nxt r p
def jC (r:List Int):Nat→Int→Int
  | 0,p=>p
  | f + 1,p=>jC r f (stp r p)
theorem qm (r:List Int):∀ f,jC r f (-1)=-1
  | 0=>rfl
  | f + 1=>by
    show jC r f (stp r (-1))=-1
    unfold stp
    rw [if_pos rfl];exact qm r f
theorem iR (r:List Int):∀ (f:Nat) (p:Int),jC r (f + 1) p=stp r (jC r f p)
  | 0,_=>rfl
  | f + 1,p=>by
    show jC r (f + 1) (stp r p)=stp r (jC r f (stp r p))
    exact iR r f (stp r p)
theorem qp (r:List Int) (p:Int) {f:Nat} (h:jC r f p=-1):∀ g,jC r (f + g) p=-1
  | 0=>h
  | g + 1=>by
    rw [show f + (g + 1)=(f + g) + 1 from rfl,iR,qp r p h g]
    unfold stp;rw [if_pos rfl]
def inB (r:List Int):Prop:=∀ x∈r,-1≤x∧x<(r.length:Int)
instance (r:List Int):Decidable (inB r):=inferInstanceAs (Decidable (∀ x∈r,-1≤x∧x<(r.length:Int)))
theorem FP {r:List Int} (h:inB r) {p:Int} (h0:0≤p) (h1:p<r.length):-1≤nxt r p∧nxt r p<r.length:=h _ (List.mem_of_getElem? (jk h0 h1))
theorem qN {r:List Int} (h:inB r) {p:Int} (h0:0≤p) (h1:p<r.length):∀ f,-1≤jC r f p∧jC r f p<(r.length:Int)
  | 0=>⟨by show -1≤p;omega,h1⟩
  | f + 1=>by
    rw [iR]
    obtain ⟨a,b⟩:=qN h h0 h1 f
    unfold stp
    by_cases e:jC r f p=-1
    · rw [if_pos e];omega
    · rw [if_neg e];exact FP h (by omega) b
def isR (r:List Int):Bool:=decide (1≤r.length∧r.length≤40) && decide (inB r) && decide (∀ i,i<r.length→jC r r.length (i:Int)=-1)
end Rv
namespace Rv
end Rv
namespace Rv
abbrev Mv:=Int × Int × Int
end Rv
namespace Rv
end Rv
namespace Rv
end Rv
namespace Rv
end Rv
namespace Rv
end Rv
namespace Rv
end Rv
namespace Tn
end Tn
namespace Tn
end Tn
namespace Tn
end Tn
namespace Tn
end Tn
namespace Tn
end Tn
namespace Tn
end Tn
namespace Tn
end Tn
namespace Tn
end Tn
namespace Tn
end Tn
namespace Tn
end Tn
namespace Tn
end Tn
namespace Tn
end Tn
namespace Tn
end Tn
namespace Tn
end Tn
namespace Rv
end Rv
namespace Rv
end Rv
namespace Tn
end Tn
namespace Rv
end Rv
namespace Tn
end Tn
namespace Tn
end Tn
namespace Rv
end Rv
namespace Tn
end Tn
namespace Rv
end Rv
namespace Tn
end Tn
namespace Rv
end Rv
namespace My
open PySem L2
local macro_rules | `(tactic| walk_at "new") => `(tactic| (generalize hE : upd _ _ _ = Hn; have On := Ow.mkE (by assumption) (by assumption) hE rfl; clear hE; revert On; revert Hn))
local macro_rules | `(tactic| walk_at "put") => `(tactic| (generalize hE : upd _ _ _ = Hn; (first | have On := Ow.lK (by assumption) 0 rfl hE rfl | have On := Ow.lK (by assumption) 1 rfl hE rfl | have On := Ow.lK (by assumption) 2 rfl hE rfl | have On := Ow.lK (by assumption) 3 rfl hE rfl | have On := Ow.lK (by assumption) 4 rfl hE rfl | have On := Ow.lK (by assumption) 5 rfl hE rfl); clear hE; (try simp only [List.set_cons_zero, List.set_cons_succ] at On); revert On; revert Hn))
set_option hygiene false
local macro_rules | `(tactic| walk_at "get") => `(tactic| first | assumption | exact O.get 0 | exact O.get 1 | exact O.get 2 | exact O.get 3 | exact O.get 4 | exact O.get 5 | exact O.get 6 | exact O.get 7 | exact O.get 8 | exact O.get 9 | exact O.get 10 | exact O.get 11 | exact O.get 12 | fail)
local macro_rules | `(tactic| walk_at "sq") => `(tactic| first | assumption | exact O.sq 0 | exact O.sq 1 | exact O.sq 2 | exact O.sq 3 | exact O.sq 4 | exact O.sq 5 | exact O.sq 6 | exact O.sq 7 | exact O.sq 8 | exact O.sq 9 | exact O.sq 10 | exact O.sq 11 | exact O.sq 12 | exact SqL.mo (by assumption) O.same | exact SqL.mo (by assumption) (s0.trans O.same) | fail)
local macro_rules | `(tactic| walk_at "sqT") => `(tactic| first | assumption | exact O.sqT 0 | exact O.sqT 1 | exact O.sqT 2 | exact O.sqT 3 | exact O.sqT 4 | exact O.sqT 5 | exact O.sqT 6 | exact O.sqT 7 | exact SqT.mo (by assumption) O.same | exact SqT.mo (by assumption) (s0.trans O.same) | fail)
local macro_rules | `(tactic| walk_at "at") => `(tactic| first | rfl | exact bV (by assumption) | exact fU (by assumption) | exact fZ (by omega) (by omega) | exact lastV _ _ | exact ints_last (by omega) | exact fZ (ns := [_, _]) (by omega) (by simp only [List.length_cons, List.length_nil]; omega) | exact fZ (ns := [_, _, _]) (by omega) (by simp only [List.length_cons, List.length_nil]; omega) | exact fZ (ns := [_, _, _, _]) (by omega) (by simp only [List.length_cons, List.length_nil]; omega) | exact fZ (ns := [_, _, _, _, _]) (by omega) (by simp only [List.length_cons, List.length_nil]; omega) | exact fZ (ns := [_, _, _, _, _, _]) (by omega) (by simp only [List.length_cons, List.length_nil]; omega) | exact fZ (ns := [_, _, _, _, _, _, _]) (by omega) (by simp only [List.length_cons, List.length_nil]; omega) | exact fZ (ns := [_, _, _, _, _, _, _, _]) (by omega) (by simp only [List.length_cons, List.length_nil]; omega) | fail)
local macro_rules | `(tactic| walk_at "c") => `(tactic| first | omega | (simp only [List.length_map]; omega) | exact szl | (show (0 : Int) < _; decide) | (show (0 : Int) < _; omega) | exact ⟨by decide, by decide⟩ | exact .inl ⟨by decide, by decide⟩ | exact .inr ⟨by decide, by decide⟩ | exact ⟨by decide, by decide, by decide⟩ | exact .inl ⟨by omega, by omega⟩ | exact .inr ⟨by omega, by omega⟩ | exact ⟨by omega, by omega⟩ | (split <;> omega) | fail)
local macro_rules | `(tactic| walk_at "ty") => `(tactic| first | exact .int _ | exact .bl _ | exact .lst (by walk_at "get") | exact .tup (by walk_at "get") | exact .non | fail)
local macro_rules | `(tactic| walk_at "kit") => `(tactic| first | exact xO K | exact xP K | exact uD K | exact kit_bb K | exact kit_bi K | exact xM K | fail)
local macro_rules | `(tactic| walk_at "sz") => `(tactic| exact aU (by (try simp only [List.length_map, List.length_append, List.length_cons, List.length_nil]); omega))
local macro_rules | `(tactic| walk_at "s") => `(tactic| first | refine yes2 ?_ | refine ⟨_, rfl, ?_⟩ | refine ⟨_, _, rfl, rfl, ?_⟩ | refine And.intro rfl ?_ | refine And.intro (by walk_at "c") ?_ | refine ⟨_, _, _, _, rfl, rfl, (show SqL _ _ _ _ by walk_at "sq"), (show atI _ _ = some _ by walk_at "at"), ?_⟩ | refine ⟨_, _, _, _, rfl, rfl, (show SqT _ _ _ _ by walk_at "sqT"), (show atI _ _ = some _ by walk_at "at"), ?_⟩ | refine ⟨_, _, rfl, .inl (show SqL _ _ _ _ by walk_at "sq"), ?_⟩ | refine ⟨_, _, rfl, .inr (show SqT _ _ _ _ by walk_at "sqT"), ?_⟩ | refine ⟨_, _, rfl, (show SqL _ _ _ _ by walk_at "sq"), ?_⟩ | refine And.intro ⟨_, (show SqL _ _ _ _ by walk_at "sq")⟩ ?_ | refine And.intro (.inl ⟨rfl, _, (show SqL _ _ _ _ by walk_at "sq")⟩) ?_ | refine ⟨_, _, _, _, rfl, (show qd _ _ _ _ by walk_at "ty"), (show PySem.W.kitOne _ _ _ = some _ by walk_at "kit"), ?_⟩ | refine ⟨_, _, rfl, ?_⟩ | fail)
local macro_rules | `(tactic| walk_at "w") => `(tactic| repeat walk_at "s")
local macro_rules | `(tactic| walk_at "if") => `(tactic| first | refine lM ?_ | refine jG ?_ | refine ifN ?_ | refine ifI (fun hc => ?_) (fun hc => ?_) | refine ifD (fun hc => ?_) (fun hc => ?_) | refine ifB (fun hc => ?_) (fun hc => ?_) | fail)
local macro_rules | `(tactic| walk_at "go") => `(tactic| repeat' (first | walk_at "if" | walk_at "s" | fail))
local macro_rules | `(tactic| walk_at "nw") => `(tactic| (generalize hE : upd _ _ _ = Hn; replace O := Ow.mkE O (by assumption) hE rfl; clear hE))
local macro_rules | `(tactic| walk_at "pt") => `(tactic| (generalize hE : upd _ _ _ = Hn; (first | replace O := Ow.lK O 0 rfl hE rfl | replace O := Ow.lK O 1 rfl hE rfl | replace O := Ow.lK O 2 rfl hE rfl | replace O := Ow.lK O 3 rfl hE rfl | replace O := Ow.lK O 4 rfl hE rfl | replace O := Ow.lK O 5 rfl hE rfl | replace O := Ow.lK O 6 rfl hE rfl | replace O := Ow.lK O 7 rfl hE rfl); clear hE; (try simp only [List.set_cons_zero, List.set_cons_succ] at O)))
local macro_rules | `(tactic| walk_at "app") => `(tactic| (refine ⟨_, _, _, rfl, rfl, (by walk_at "get"), (by walk_at "sz"), ?_⟩; walk_at "pt"))
local macro_rules | `(tactic| walk_at "elt") => `(tactic| (refine ⟨_, (by walk_at "get"), (by walk_at "sz"), ?_⟩; walk_at "pt"))
local macro_rules | `(tactic| walk_at "frz") => `(tactic| (obtain ⟨Hn, On, sn, en⟩ := O.frz; clear O; have O := On; clear On; (try replace s0 := s0.mo sn); (try replace d0 := d0.mo sn); (try replace d1 := d1.mo sn); (try replace d2 := d2.mo sn); (try replace d3 := d3.mo sn); (try replace d4 := d4.mo sn); (try replace d5 := d5.mo sn); (try replace d6 := d6.mo sn); (try replace d7 := d7.mo sn)))
local macro_rules | `(tactic| walk_at "mo") => `(tactic| ((try simp only [List.eraseIdx_cons_zero, List.eraseIdx_cons_succ] at O); (try replace s0 := s0.mo sn); (try replace d0 := d0.mo sn); (try replace d1 := d1.mo sn); (try replace d2 := d2.mo sn); (try replace d3 := d3.mo sn); (try replace d4 := d4.mo sn); (try replace d5 := d5.mo sn); (try replace d6 := d6.mo sn); (try replace d7 := d7.mo sn)))
local macro_rules | `(tactic| walk_at "er") => `(tactic| simp only [List.eraseIdx_cons_zero, List.eraseIdx_cons_succ] at O)
local macro_rules | `(tactic| walk_at "jn") => `(tactic| simp only [List.cons_append, List.nil_append] at O)
def top (i:Nat):Stmt:=PySem.Challenge.pw_sluice_k52_sold_and_dropped.main.body.getD i (.Pass ⟨0,0,0,0⟩)
abbrev gC:Stmt:=top 22
theorem nR:aH ["below","reach","way"] ["below","reach"] (ak gC):=⟨rfl,rfl,rfl,by decide +kernel,rfl,by decide +kernel,by decide +kernel⟩
def wZ (K:PySem.W.Frag):Sp:=fun vs H Q _=>∃ (a:Addr) (r:List Int) (p:Int),vs=[.ref a,.int p]∧SqL K H a (r.map V.int)∧Rv.lE r∧0≤p∧p<r.length∧r.length≤900 ∧
  Qy H (fun xs=>xs=(Rv.walk r p).map V.int) Q
theorem uZ (pre:List Int) (z:Int):atI ((pre++[z]).map V.int) (-1)=some (V.int z):=by
  rw [List.map_append];exact wQ _ _
theorem G4 {f:Addr} {fd:FuncData} (D:Df K mg "way_of" gC ["below","reach"] f fd) (C:Mth mg):bT P w K mg base CX0 1 f fd ["below","reach"] (wZ K):=by
  obtain ⟨tM,hMOUTH⟩:=C.MOUTH
  refine D.F.ok nR (fun vs H Q E h=>?_) (fun cdv A outer s H vs Q E hr h=>?_)
  · obtain ⟨a,r,p,rfl,_⟩:=h;rfl
  · obtain ⟨a,r,p,rfl,hS,hR,p0,p1,hn,q⟩:=h
    refine ⟨_,(au (bK (i:=2) nR.nd rfl (Or.inl rfl) (gZ (aj (pv 1) aA)))
      (au (vG PassesOwn.never (bD rH (bU aN (pv 0) (bU aN (pv 2) (tV nH aB) (fun _ _=>rfl)) (fun _ _=>rfl)) (fQ (v:=.int (-1)) rfl hMOUTH ⟨_,rfl⟩) (cj _))
        (aD (bL (jE PySem.F.plainAttrs_list PySem.F.slot_list_append PySem.F.type_list_append cM (pv 2) (aj (bU aN (pv 0) (bU aN (pv 2) (tV nH aB) (fun _ _=>rfl)) (fun _ _=>rfl)) aA)))))
      (aD (aW (pv 2))))),?_⟩
    refine ⟨_,rfl,(by show 1≤sizeLine;decide),fun lw hlw=>?_⟩
    refine ⟨fun m σ H'=>∃ (pre:List Int) (z:Int),σ=[some (.ref a),some (.int p),some (.ref lw)]∧Same H H'∧H' lw=some (.lst ((pre++[z]).map V.int))∧0≤z∧z<r.length∧pre++Rv.walk r z=Rv.walk r p∧m=Rv.mea r z,
      ⟨_,[],p,rfl,(Same.refl H).upd hlw,bR,p0,p1,rfl,rfl⟩,?_⟩
    rintro m σ H2 ⟨pre,z,rfl,s2,h2,z0,z1,e,rfl⟩
    have g:=Rv.jk z0 z1
    have hlen:pre.length + (Rv.walk r z).length≤r.length + 1:=by
      have:=Rv.vp r p
      rw [← e,List.length_append] at this;exact this
    refine ⟨_,rfl,_,rfl,_,rfl,lw,_,_,_,rfl,rfl,SqL.of h2,uZ pre z,a,_,_,_,rfl,rfl,s2.seq hS,j8 z0 g,rfl,_,rfl,?_⟩
    rcases hR.step z0 z1 with hm | ⟨n0,n1⟩
    · rw [hm]
      refine Nv rfl ?_
      refine ⟨_,rfl,q lw H2 _ s2 hlw h2 ?_⟩
      have ew:Rv.walk r z=[z]:=by rw [Rv.jr hR z0 z1,hm,Rv.ql]
      rw [← e,ew]
    · have hd:(!decide (V.int (Rv.nxt r z)=V.int (-1)))=true:=by
        have:¬ Rv.nxt r z=-1:=by omega
        simp [this]
      rw [hd]
      refine lM ?_
      refine ⟨fun σ' H'=>∃ m',m'<Rv.mea r z∧∃ (pre:List Int) (z:Int),σ'=[some (.ref a),some (.int p),some (.ref lw)]∧Same H H'∧H' lw=some (.lst ((pre++[z]).map V.int))∧0≤z∧z<r.length∧pre++Rv.walk r z=Rv.walk r p∧m'=Rv.mea r z,fun _ _ x=>x,?_⟩
      refine ⟨_,rfl,.inl ⟨rfl,_,SqL.of h2⟩,_,rfl,_,rfl,_,rfl,lw,_,_,_,rfl,rfl,SqL.of h2,uZ pre z,a,_,_,_,rfl,rfl,s2.seq hS,j8 z0 g,lw,_,_,rfl,rfl,h2,aU ?_,?_⟩
      · rw [List.length_map,List.length_append]
        have:1≤(Rv.walk r z).length:=by rw [Rv.jr hR z0 z1];exact Nat.succ_le_succ (Nat.zero_le _)
        show pre.length + 1≤_
        omega
      · refine ⟨_,Rv.Hi hR z0 z1,pre++[z],Rv.nxt r z,rfl,s2.upd hlw,?_,n0,n1,?_,rfl⟩
        · rw [bR,List.map_append (l₁:=pre++[z])];rfl
        · rw [List.append_assoc]
          show pre++(z :: Rv.walk r (Rv.nxt r z))=_
          rw [← Rv.jr hR z0 z1];exact e
abbrev bA:Stmt:=top 20
theorem d8:aH ["below","start","reach","step"] ["below","start"] (ak bA):=⟨rfl,rfl,rfl,by decide +kernel,rfl,by decide +kernel,by decide +kernel⟩
def qC (K:PySem.W.Frag):Sp:=fun vs H Q _=>∃ (a:Addr) (r:List Int) (i:Nat),vs=[.ref a,.int (i:Int)]∧SqL K H a (r.map V.int)∧Rv.inB r∧i<r.length∧r.length≤900∧Q (.bl (decide (Rv.jC r r.length (i:Int)=-1))) H
structure Cst (mg:Str→Option Value):Prop where
  MOUTH:∃ t,mg "MOUTH"=some (.int (-1) t)
  MOST_REACHES:∃ t,mg "MOST_REACHES"=some (.int 40 t)
theorem vP {f:Addr} {fd:FuncData} (D:Df K mg "comes_to_mouth" bA ["below","start"] f fd) (B:Blt mg) (C:Cst mg):bT P w K mg base CX0 1 f fd ["below","start"] (qC K):=by
  obtain ⟨tM,hMOUTH⟩:=C.MOUTH
  refine D.F.ok d8 (fun vs H Q E h=>?_) (fun cdv A outer s H vs Q E hr h=>?_)
  · obtain ⟨a,r,i,rfl,_⟩:=h;rfl
  · obtain ⟨a,r,i,rfl,hS,hB,hi,hn,q⟩:=h
    refine ⟨_,(au (bK (i:=2) d8.nd rfl (Or.inl rfl) (pv 1))
      (au (qG PassesOwn.never rfl (gn rfl B.range (aj (aX aZ rfl B.len PySem.boot_len (aj (pv 0) aA)) aA)) (cu (i:=3) d8.nd rfl (Or.inl rfl))
        (au (bK (i:=2) d8.nd rfl (Or.inl rfl) (bU aN (pv 0) (pv 2) (fun _ _=>rfl)))
        (aD (fD (bD jW (pv 2) (fQ (v:=.int (-1)) rfl hMOUTH ⟨_,rfl⟩) (cj _))
          (aD (aW ji))
          bJ))))
      (aD (aW ji)))),?_⟩
    refine ⟨_,rfl,_,rfl,a,_,rfl,.inl hS,_,rfl,by rw [List.length_map];omega,by rw [List.length_map];omega,?_⟩
    rw [List.length_map,Int.toNat_natCast]
    refine oM (n:=r.length) (fun j σ H2=>∃ (v:Option V),σ=[some (.ref a),some (.int (i:Int)),some (.int (Rv.jC r j (i:Int))),v]∧H=H2∧(j=0∨Rv.jC r j (i:Int)≠-1)) ⟨none,rfl,rfl,.inl rfl⟩ ?_ ?_
    · rintro j σ H2 hj ⟨v,rfl,rfl,hne⟩
      obtain ⟨b0,b1⟩:=Rv.qN hB (p:=(i:Int)) (by omega) (by omega) j
      have hne':Rv.jC r j (i:Int)≠-1:=by
        rcases hne with e | e
        · subst e
          show (i:Int)≠-1
          omega
        · exact e
      have g:=Rv.jk (r:=r) (p:=Rv.jC r j (i:Int)) (by omega) b1
      have es:Rv.nxt r (Rv.jC r j (i:Int))=Rv.jC r (j + 1) (i:Int):=by
        rw [Rv.iR];unfold Rv.stp;rw [if_neg hne']
      rw [es] at g
      refine ⟨_,rfl,_,rfl,a,_,_,_,rfl,rfl,hS,j8 (by omega) g,_,rfl,rfl,_,rfl,?_⟩
      refine MN (fun h=>?_) (fun h=>?_)
      · have e:Rv.jC r (j + 1) (i:Int)=-1:=by
          have:=of_decide_eq_true h
          exact V.int.inj this
        have e2:Rv.jC r r.length (i:Int)=-1:=by
          have:=Rv.qp r (i:Int) e (r.length - (j + 1))
          rw [show j + 1 + (r.length - (j + 1))=r.length by omega] at this
          exact this
        rw [decide_eq_true e2] at q
        exact q
      · refine ⟨_,rfl,rfl,.inr fun e=>h (decide_eq_true (by rw [e]))⟩
    · rintro σ H2 ⟨v,rfl,rfl,hne⟩
      have e:¬ Rv.jC r r.length (i:Int)=-1:=by
        rcases hne with e | e
        · omega
        · exact e
      rw [decide_eq_false e] at q
      exact q
abbrev dR:Stmt:=top 21
theorem pI:aH ["below"] ["below"] (ak dR):=⟨rfl,rfl,rfl,by decide +kernel,rfl,by decide +kernel,by decide +kernel⟩
def xg (K:PySem.W.Frag):Sp:=fun vs H Q _=>∃ (a:Addr) (r:List Int),vs=[.ref a]∧SqL K H a (r.map V.int)∧r.length≤900∧∀ H',Same H H'→Q (.bl (Rv.isR r)) H'
theorem rm {α:Type} {p:α→Bool} {l:List α}:(l.map p).all id=l.all p:=by
  rw [List.all_map];rfl
theorem FQ (r:List Int):(r.all fun x=>decide (-1≤x) && decide (x<(r.length:Int)))=decide (Rv.inB r):=by
  rw [Bool.eq_iff_iff]
  simp only [List.all_eq_true,Bool.and_eq_true,decide_eq_true_eq]
  exact Iff.rfl
theorem G7 {f fC:Addr} {fd fdC:FuncData} (D:Df K mg "is_river" dR ["below"] f fd) (B:Blt mg) (C:Cst mg) (cC:Df K mg "comes_to_mouth" bA ["below","start"] fC fdC)
    (jY:bT P w K mg base CX0 1 fC fdC ["below","start"] (qC K)):bT P w K mg base CX0 2 f fd ["below"] (xg K):=by
  obtain ⟨tM,hMOUTH⟩:=C.MOUTH
  obtain ⟨tR,hMOST_REACHES⟩:=C.MOST_REACHES
  refine D.F.ok pI (fun vs H Q E h=>?_) (fun cdv A outer s H vs Q E hr h=>?_)
  · obtain ⟨a,r,rfl,_⟩:=h;rfl
  · obtain ⟨a,r,rfl,hS,hn,q⟩:=h
    refine ⟨_,(au (fD (eH (jw jV jV aB (aX aZ rfl B.len PySem.boot_len (aj (pv 0) aA)) (fQ (v:=.int (40)) rfl hMOST_REACHES ⟨_,rfl⟩)))
        (aD (aW ji))
        bJ)
      (au (fD (eH (fL (aX (nA rfl) rfl B.all PyProof.Rows.boot_all (aj (gR (ak dR) rfl ["below"] rfl ["reach","below"] [none,some 0] (by decide +kernel) (by decide +kernel) (by decide +kernel) rfl (mZ (pv 0)) (fun _ _ _=>(cu (i:=0) (show (["reach","below"]:List Str).Nodup by decide +kernel) rfl (Or.inl rfl))) (fun _ _ _=>je) (fun _ _ _=>(m6 jV tZ (fQ (v:=.int (-1)) rfl hMOUTH ⟨_,rfl⟩) (pv 0) (aX (nu (K:=K) rfl) rfl B.len PySem.boot_len (aj (pv 1) aA))))) aA))))
        (aD (aW ji))
        bJ)
      (aD (aW (aX (nA rfl) rfl B.all PyProof.Rows.boot_all (aj (gR (ak dR) rfl ["below"] rfl ["start","below"] [none,some 0] (by decide +kernel) (by decide +kernel) (by decide +kernel) rfl (gn rfl B.range (aj (aX aZ rfl B.len PySem.boot_len (aj (pv 0) aA)) aA)) (fun _ _ _=>(cu (i:=0) (show (["start","below"]:List Str).Nodup by decide +kernel) rfl (Or.inl rfl))) (fun _ _ _=>je) (fun _ _ _=>(aR jY (hr.mono (by decide)) rfl cC.m cC.F.kp cC.b .nil bQ (aj (pv 1) (aj (pv 0) aA))))) aA)))))),?_⟩
    refine ⟨_,rfl,a,_,rfl,.inl hS,_,_,rfl,rfl,_,rfl,?_⟩
    rw [List.length_map]
    have no1:¬ (1≤r.length∧r.length≤40)→Q (.bl false) H:=fun h=>by
      have e:Rv.isR r=false:=by unfold Rv.isR;rw [decide_eq_false h];rfl
      have:=q H (Same.refl H)
      rw [e] at this
      exact this
    refine MN (fun h1=>⟨_,_,rfl,rfl,_,rfl,?_⟩) (fun h1=>⟨_,rfl,?_⟩)
    case refine_2=>exact lM (no1 fun z=>h1 (decide_eq_true (by omega)))
    have g1:=of_decide_eq_true h1
    by_cases h2:r.length≤40
    case neg =>
      rw [decide_eq_false (by omega)]
      exact lM (no1 fun z=>h2 z.2)
    rw [decide_eq_true (by omega)]
    refine jG ?_
    refine ⟨_,rfl,a,rfl,⟨_,hS⟩,fun acc hacc=>?_⟩
    refine oN (K:=K) (a:=a) (xs:=r.map V.int) (fun i τ H2=>∃ v,τ=[v,some (.ref a)]∧Same H H2∧H2 acc=some (.lst (((r.take i).map fun x=>decide (-1≤x) && decide (x<(r.length:Int))).map V.bl)))
      ⟨none,rfl,(Same.refl H).upd hacc,by rw [bR];rfl⟩ (fun i τ H2 _ ⟨_,_,s2,_⟩=>s2.seq hS) ?_ ?_
    · rintro i y τ H2 hi ⟨v,rfl,s2,h2'⟩
      obtain ⟨z,hz,rfl⟩:=ints_get hi
      have hil:i<r.length:=(List.getElem?_eq_some_iff.mp hz).1
      have e:∀ b:Bool,b=(decide (-1≤z) && decide (z<(r.length:Int)))→((r.take i).map fun x=>decide (-1≤x) && decide (x<(r.length:Int))).map V.bl++[V.bl b]=((r.take (i + 1)).map fun x=>decide (-1≤x) && decide (x<(r.length:Int))).map V.bl:=fun b hb=>by
        rw [List.take_add_one,hz,List.map_append,List.map_append,hb];rfl
      have hsz:(((r.take i).map fun x=>decide (-1≤x) && decide (x<(r.length:Int))).map V.bl).length<sizeLine:=aU (by rw [List.length_map,List.length_map,List.length_take];omega)
      refine Eu ?_
      refine ⟨_,rfl,_,_,rfl,rfl,_,rfl,?_⟩
      refine MN (fun h3=>?_) (fun h3=>?_)
      · refine ⟨_,rfl,a,_,rfl,.inl (s2.seq hS),_,_,rfl,rfl,_,h2',hsz,_,rfl,s2.upd hacc,?_⟩
        rw [bR,e _ (by rw [h3,List.length_map];rfl)]
      · refine ⟨_,h2',hsz,_,rfl,s2.upd hacc,?_⟩
        have h3':decide (-1≤z)=false:=by simpa using h3
        rw [bR,e false (by rw [h3'];rfl)]
    · rintro τ H2 ⟨v,rfl,s2,h2'⟩
      rw [List.length_map,List.take_length] at h2'
      refine ⟨acc,_,rfl,SqL.of h2',_,rfl,?_⟩
      rw [rm,FQ]
      by_cases hB:Rv.inB r
      case neg =>
        rw [decide_eq_false hB]
        refine lM ?_
        have e:Rv.isR r=false:=by unfold Rv.isR;rw [decide_eq_false hB,Bool.and_false];rfl
        have:=q H2 s2
        rw [e] at this
        exact this
      rw [decide_eq_true hB]
      refine jG ?_
      refine ⟨_,rfl,a,_,rfl,.inl (s2.seq hS),_,rfl,by rw [List.length_map];omega,by rw [List.length_map];omega,fun ac2 hac2=>?_⟩
      rw [List.length_map,Int.toNat_natCast]
      have nac2:H ac2=none:=s2.free hac2
      refine gJ (fun i τ H3=>∃ v,τ=[v,some (.ref a)]∧Same H H3∧H3 ac2=some (.lst (((List.range i).map fun (j:Nat)=>decide (Rv.jC r r.length (j:Int)=-1)).map V.bl))) ⟨none,rfl,s2.upd nac2,by rw [bR];rfl⟩ ?_ ?_
      · rintro i τ H3 hi ⟨v,rfl,s3,h3⟩
        rw [show (0:Int) + (i:Int)=(i:Int) by omega]
        refine Eu ?_
        refine ⟨_,rfl,_,rfl,a,r,i,rfl,s3.seq hS,hB,hi,hn,?_⟩
        refine ⟨_,h3,aU (by rw [List.length_map,List.length_map,List.length_range];omega),_,rfl,s3.upd nac2,?_⟩
        rw [bR,List.range_succ,List.map_append,List.map_append];rfl
      · rintro τ H3 ⟨v,rfl,s3,h3⟩
        refine ⟨ac2,_,rfl,SqL.of h3,?_⟩
        have e:(((List.range r.length).map fun (j:Nat)=>decide (Rv.jC r r.length (j:Int)=-1)).all id)=Rv.isR r:=by
          unfold Rv.isR
          rw [rm,decide_eq_true (show 1≤r.length∧r.length≤40 from ⟨by omega,h2⟩),decide_eq_true hB,Bool.true_and,Bool.true_and,Bool.eq_iff_iff]
          simp only [List.all_eq_true,List.mem_range,decide_eq_true_eq]
        rw [e]
        exact q H3 s3
abbrev eG:Stmt:=top 5
theorem pH:aH ["amount"] ["amount"] (ak eG):=⟨rfl,rfl,rfl,by decide +kernel,rfl,by decide +kernel,by decide +kernel⟩
def qt:Sp:=fun vs H Q _=>∃ (z:Int),vs=[.int z]∧∀ b:Bool,(b=true↔(0≤z∧z≤1000000000000))→Q (.bl b) H
theorem vL {f:Addr} {fd:FuncData} (D:Df K mg "is_water" eG ["amount"] f fd) (CW:∃ t,mg "MOST_WATER"=some (.int 1000000000000 t)):bT P w K mg base CX0 1 f fd ["amount"] qt:=by
  obtain ⟨tW,hMOST_WATER⟩:=CW
  refine D.F.ok pH (fun vs H Q E h=>?_) (fun cdv A outer s H vs Q E hr h=>?_)
  · obtain ⟨_,rfl,_⟩:=h;rfl
  · obtain ⟨z,rfl,q⟩:=h
    refine ⟨_,(aD (aW (m6 jV jV aB (pv 0) (fQ (v:=.int (1000000000000)) rfl hMOST_WATER ⟨_,rfl⟩)))),?_⟩
    walk_at "go"
    all_goals refine q _ ?_
    all_goals simp only [decide_eq_true_eq,Bool.false_eq_true,true_iff,false_iff]
    all_goals omega
abbrev cF:Stmt:=top 25
theorem eX:aH ["below","one","day","start","back","most"] ["below","one"] (ak cF):=⟨rfl,rfl,rfl,by decide +kernel,rfl,by decide +kernel,by decide +kernel⟩
def rO (r:List Int) (l:Lic):Prop:=(0≤l.day∧l.day≤1000000∧0≤l.start∧l.start<r.length∧0≤l.most∧l.most≤1000000000000)∧(l.back=-1∨l.back∈(Rv.walk r l.start).drop 1)
def mL (K:PySem.W.Frag) (T:fH):Sp:=fun vs H Q _=>∃ (a t:Addr) (r:List Int) (l:Lic),vs=[.ref a,.ref t]∧SqL K H a (r.map V.int)∧Rv.lE r∧r.length≤900∧SqT K H t (mH l)∧TabsOk T H∧∀ (b:Bool) (H':Hp),bf T H H'→(b=true↔rO r l)→Q (.bl b) H'
theorem vO {f f1 f2:Addr} {fd fd1 fd2:FuncData} (D:Df K mg "is_licence" cF ["below","one"] f fd) (B:Blt mg) (C:Mth mg) (CD:∃ t,mg "LAST_DAY"=some (.int 1000000 t))
    (gb:Df K mg "is_water" eG ["amount"] f1 fd1) (rP:bT P w K mg base CX0 1 f1 fd1 ["amount"] qt)
    (iV:Df K mg "way_of" gC ["below","reach"] f2 fd2) (wV:bT P w K mg base CX0 1 f2 fd2 ["below","reach"] (wZ K)):bT P w K mg base CX0 2 f fd ["below","one"] (mL K T):=by
  obtain ⟨tM,hMOUTH⟩:=C.MOUTH
  obtain ⟨tD,hLAST_DAY⟩:=CD
  refine D.F.ok eX (fun vs H Q E h=>?_) (fun cdv A outer s H vs Q E hr h=>?_)
  · obtain ⟨_,_,_,_,rfl,_⟩:=h;rfl
  · obtain ⟨a,t,r,l,rfl,hA,hR,hn,hT,tk,q⟩:=h
    have hml:((r.map V.int).length:Int)=(r.length:Int):=by rw [List.length_map]
    have O:=Ow.refl tk
    have s0:=O.same
    have no:¬ (0≤l.day∧l.day≤1000000∧0≤l.start∧l.start<r.length∧0≤l.most∧l.most≤1000000000000)→Q (.bl false) H:=fun h=>q _ _ O.same ⟨(fun e=>by cases e),fun z=>absurd z.1 h⟩
    refine ⟨_,(au (jQ (pv 1) (tU rfl (fY (cu (i:=2) eX.nd rfl (Or.inl rfl)) (fY (cu (i:=3) eX.nd rfl (Or.inl rfl)) (fY (cu (i:=4) eX.nd rfl (Or.inl rfl)) (fY (cu (i:=5) eX.nd rfl (Or.inl rfl)) pL))))))
      (au (fD (eH (PW.pt (pw_and (jw jV jV aB (pv 2) (fQ (v:=.int (1000000)) rfl hLAST_DAY ⟨_,rfl⟩)) (pw_and (jw jV tZ aB (pv 3) (aX aZ rfl B.len PySem.boot_len (aj (pv 0) aA))) (pw_and1 (fL (aR rP (hr.mono (by decide)) rfl gb.m gb.F.kp gb.b .nil bQ (aj (pv 5) aA))))))))
        (aD (aW ji))
        bJ)
      (aD (aW (Nq (jg jW (pv 4) (fQ (v:=.int (-1)) rfl hMOUTH ⟨_,rfl⟩) (cj _)) (lY (jg ud (pv 4) (m5 sS (aR wV (hr.mono (by decide)) rfl iV.m iV.F.kp iV.b .nil bQ (aj (pv 0) (aj (pv 3) aA))) (mY aB) tK) (by rfl)))))))),?_⟩
    refine ⟨_,rfl,t,_,rfl,hT,rfl,_,_,rfl,_,_,rfl,_,_,rfl,_,_,rfl,rfl,?_⟩
    walk_at "go"
    all_goals first | (refine no ?_;omega) | skip
    intro b hb
    walk_at "go"
    · have hm:=hb.mp (by assumption)
      have num:0≤l.day∧l.day≤1000000∧0≤l.start∧l.start<r.length∧0≤l.most∧l.most≤1000000000000:=by omega
      exact q _ _ O.same ⟨fun _=>⟨num,.inl (by omega)⟩,fun _=>rfl⟩
    · have hm:=hb.mp (by assumption)
      have num:0≤l.day∧l.day≤1000000∧0≤l.start∧l.start<r.length∧0≤l.most∧l.most≤1000000000000:=by omega
      refine ⟨a,r,l.start,rfl,hA,hR,by omega,by omega,hn,O.got fun lw H2 xs O e=>?_⟩
      subst e
      refine ⟨1,rfl,lw,_,rfl,O.sq 0,fun l1 h1=>?_⟩
      walk_at "nw"
      rw [show uP ((Rv.walk r l.start).map V.int) (some 1) none=((Rv.walk r l.start).drop 1).map V.int from wL _ 1] at O
      refine ⟨l1,_,rfl,.inl (O.sq 0),rfl,uJ _,?_⟩
      rw [if_neg Bool.false_ne_true,FN]
      refine q _ _ O.same ?_
      rw [decide_eq_true_iff]
      exact ⟨fun h=>⟨num,.inr h⟩,fun h=>h.2.resolve_left (by omega)⟩
    · refine no fun z=>?_
      have:=hb.mpr ⟨z.2.2.2.2.1,z.2.2.2.2.2⟩
      simp_all
abbrev bZ:Stmt:=top 35
theorem kJ:aH ["script","k"] ["script","k"] (ak bZ):=⟨rfl,rfl,rfl,by decide +kernel,rfl,by decide +kernel,by decide +kernel⟩
def sJ (K:PySem.W.Frag):Sp:=fun vs H Q _=>∃ (a:Addr) (ns:List Int) (k:Nat),vs=[.ref a,.int (k:Int)]∧SqL K H a (ns.map V.int)∧Q (.int (ns.getD k 0)) H
theorem Fx {f:Addr} {fd:FuncData} (D:Df K mg "_law_cell_at" bZ ["script","k"] f fd) (B:Blt mg):bT P w K mg base CX0 1 f fd ["script","k"] (sJ K):=by
  refine D.F.ok kJ (fun vs H Q E h=>?_) (fun cdv A outer s H vs Q E hr h=>?_)
  · obtain ⟨a,ns,k,rfl,_⟩:=h;rfl
  · obtain ⟨a,ns,k,rfl,hS,q⟩:=h
    refine ⟨_,(au (fD (bD tZ (pv 1) (aX aZ rfl B.len PySem.boot_len (aj (pv 0) aA)) (cj _))
        (aD (aW (bU aN (pv 0) (pv 1) (fun _ _=>rfl))))
        bJ)
      (aD (aW aB))),?_⟩
    refine ⟨_,rfl,_,rfl,a,_,rfl,.inl hS,_,_,rfl,rfl,_,rfl,?_⟩
    refine MN (fun h=>?_) (fun h=>?_)
    · have hk:k<ns.length:=by
        have:=of_decide_eq_true h
        rw [List.length_map] at this;omega
      have e:ns[k]?=some (ns.getD k 0):=by rw [List.getD_eq_getElem?_getD,List.getElem?_eq_getElem hk];rfl
      exact ⟨_,rfl,_,rfl,a,_,_,_,rfl,rfl,hS,bV e,q⟩
    · have hk:¬ k<ns.length:=fun z=>h (decide_eq_true (by rw [List.length_map];omega))
      have e:ns.getD k 0=0:=by rw [List.getD_eq_getElem?_getD,List.getElem?_eq_none (by omega)];rfl
      rw [e] at q
      exact q
abbrev cG:Stmt:=top 36
theorem mU:aH ["found"] ["found"] (ak cG):=⟨rfl,rfl,rfl,by decide +kernel,rfl,by decide +kernel,by decide +kernel⟩
def mK:Sp:=fun vs H Q _=>∃ (z:Int),vs=[.int z]∧Q (.bl true) H
theorem xO (K:PySem.W.Frag):PySem.W.kitOne K (.type "int") (.type "int")=some true:=by rfl
theorem xP (K:PySem.W.Frag):PySem.W.kitOne K (.type "int") (.type "bool")=some false:=by rfl
theorem uD (K:PySem.W.Frag):PySem.W.kitOne K (.type "list") (.type "list")=some true:=by rfl
theorem vK {f:Addr} {fd:FuncData} (D:Df K mg "_law_whole" cG ["found"] f fd) (B:Blt mg):bT P w K mg base CX0 1 f fd ["found"] mK:=by
  refine D.F.ok mU (fun vs H Q E h=>?_) (fun cdv A outer s H vs Q E hr h=>?_)
  · obtain ⟨z,rfl,_⟩:=h;rfl
  · obtain ⟨z,rfl,q⟩:=h
    refine ⟨_,(aD (aW (lZ (aX gq rfl B.isinstance PyProof.Rows.boot_isinstance (aj (pv 0) (aj (jh (v:=.ty "int") rfl B.int PyProof.Rows.boot_int rfl) aA))) (lY (xG (aX gq rfl B.isinstance PyProof.Rows.boot_isinstance (aj (pv 0) (aj (jh (v:=.ty "bool") rfl B.bool PyProof.Rows.boot_bool rfl) aA)))))))),?_⟩
    refine ⟨_,rfl,_,_,_,true,rfl,.int _,xO K,_,rfl,lM ?_⟩
    exact ⟨_,rfl,_,_,_,false,rfl,.int _,xP K,_,rfl,q⟩
def fu (x:Str):Prop:=1≤x.cps.size∧x.cps.size≤8∧∀ c∈x.cps.toList,97≤c∧c≤122
theorem uz:∀ c:Nat,97≤c→c≤122→(!(Builtin.Str.occurrences ("abcdefghijklmnopqrstuvwxyz":Str) ⟨#[c]⟩ 0 ("abcdefghijklmnopqrstuvwxyz":Str).length 1).isEmpty)=true:=by
  have h:∀ k:Fin 26,(!(Builtin.Str.occurrences ("abcdefghijklmnopqrstuvwxyz":Str) ⟨#[97 + k.val]⟩ 0 ("abcdefghijklmnopqrstuvwxyz":Str).length 1).isEmpty)=true:=by decide +kernel
  intro c h0 h1
  have:=h ⟨c - 97,by omega⟩
  rwa [show 97 + (c - 97)=c by omega] at this
abbrev eZ:Stmt:=top 6
theorem rE:aH ["text"] ["text"] (ak eZ):=⟨rfl,rfl,rfl,by decide +kernel,rfl,by decide +kernel,by decide +kernel⟩
def nM (T:fH):Sp:=fun vs H Q _=>∃ (x:Str),vs=[.str x]∧fu x∧TabsOk T H∧∀ H',bf T H H'→Q (.bl true) H'
structure CN (mg:Str→Option Value):Prop where
  LONGEST_NAME:∃ t,mg "LONGEST_NAME"=some (.int 8 t)
  LETTERS:∃ t,mg "LETTERS"=some (.str "abcdefghijklmnopqrstuvwxyz" t)
theorem uf {f:Addr} {fd:FuncData} (D:Df K mg "is_name" eZ ["text"] f fd) (B:Blt mg) (CN:CN mg):bT P w K mg base CX0 1 f fd ["text"] (nM T):=by
  obtain ⟨tM,hLONGEST_NAME⟩:=CN.LONGEST_NAME
  obtain ⟨tL,hLETTERS⟩:=CN.LETTERS
  refine D.F.ok rE (fun vs H Q E h=>?_) (fun cdv A outer s H vs Q E hr h=>?_)
  · obtain ⟨_,rfl,_⟩:=h;rfl
  · obtain ⟨x,rfl,⟨n1,n8,nc⟩,tk,q⟩:=h
    have hu:=hr.units
    have O:=Ow.refl tk
    refine ⟨_,(aD (aW (lZ (m6 jV jV aB (aX oO rfl B.len PySem.boot_len (aj (pv 0) aA)) (fQ (v:=.int (8)) rfl hLONGEST_NAME ⟨_,rfl⟩)) (lY (aX (nA rfl) rfl B.all PyProof.Rows.boot_all (aj (gR (ak eZ) rfl ["text"] rfl ["sign"] [none] (by decide +kernel) (by decide +kernel) (by decide +kernel) rfl (GK (pv 0)) (fun _ _ _=>(cu (i:=0) (show (["sign"]:List Str).Nodup by decide +kernel) rfl (Or.inl rfl))) (fun _ _ _=>je) (fun _ _ _=>(jg uc (pv 0) (fQ (v:=.str "abcdefghijklmnopqrstuvwxyz") rfl hLETTERS ⟨_,rfl⟩) (by rfl)))) aA)))))),?_⟩
    have hl:x.length=x.cps.size:=rfl
    refine ⟨_,rfl,x,rfl,(by rw [hl,sizeLine_eq];omega),_,_,rfl,rfl,?_⟩
    refine ⟨_,rfl,?_⟩
    rw [decide_eq_true (show (1:Int)≤(x.length:Int) by omega)]
    refine lM ⟨_,_,rfl,rfl,_,rfl,?_⟩
    rw [decide_eq_true (show (x.length:Int)≤8 by omega)]
    refine lM ?_
    refine ⟨_,rfl,x,rfl,?_,fun lw hlw=>?_⟩
    · rw [Array.all_eq_true]
      intro i hi
      have:=nc _ (Array.getElem_mem_toList hi)
      exact decide_eq_true (by omega)
    refine wN (fun i τ H'=>Iv (∃ (v0:Option V),τ=[v0]∧Ow T H H' [(lw,.lst ((List.replicate i true).map V.bl))])) ⟨trivial,none,rfl,O.mk' hlw rfl⟩ ?_ ?_
    · rintro i c τ H4 hc ⟨-,v0,rfl,O⟩
      have hi:i<x.cps.size:=by
        rcases Nat.lt_or_ge i x.cps.size with h | h
        · exact h
        · rw [Array.getElem?_eq_none h] at hc;cases hc
      have hm:c∈x.cps.toList:=by
        rw [Array.getElem?_eq_getElem hi] at hc
        cases hc;exact Array.getElem_mem_toList hi
      have:=nc c hm
      refine Eu ?_
      refine ⟨_,rfl,_,_,rfl,rfl,?_⟩
      rw [uz c this.1 this.2]
      refine ⟨_,O.get 0,aU (by rw [List.length_map,List.length_replicate];omega),?_⟩
      walk_at "pt"
      refine ⟨trivial,_,rfl,?_⟩
      rw [List.replicate_succ',List.map_append];exact O
    rintro τ H4 ⟨-,v0,rfl,O⟩
    refine ⟨lw,_,rfl,O.sq 0,?_⟩
    rw [show (List.replicate x.cps.size true).all id=true by simp]
    exact q _ O.same
abbrev bh:Stmt:=top 32
theorem kI:aH ["name"] ["name"] (ak bh):=⟨rfl,rfl,rfl,by decide +kernel,rfl,by decide +kernel,by decide +kernel⟩
def gO (T:fH):Sp:=fun vs H Q _=>∃ (x:Str),vs=[.str x]∧fu x∧TabsOk T H∧∀ H',bf T H H'→Q .non H'
theorem pN {f f1:Addr} {fd fd1:FuncData} (D:Df K mg "look_at_name" bh ["name"] f fd)
    (gM:Df K mg "is_name" eZ ["text"] f1 fd1) (vd:bT P w K mg base CX0 1 f1 fd1 ["text"] (nM T)):bT P w K mg base CX0 2 f fd ["name"] (gO T):=by
  refine D.F.ok kI (fun vs H Q E h=>?_) (fun cdv A outer s H vs Q E hr h=>?_)
  · obtain ⟨_,rfl,_⟩:=h;rfl
  · obtain ⟨x,rfl,nx,tk,q⟩:=h
    refine ⟨_,(aD (fD (eH (fL (aR vd (hr.mono (by decide)) rfl gM.m gM.F.kp gM.b .nil bQ (aj (pv 0) aA))))
        (aD jy)
        bJ)),?_⟩
    refine ⟨_,rfl,x,rfl,nx,tk,fun H1 s1=>?_⟩
    refine ⟨_,rfl,jG ?_⟩
    exact q _ s1
structure Rs where
  p:Addr
  dx:Addr
  lb:Addr
  ll:Addr
  ln:Addr
  lo:Addr
abbrev fX:List Str:=["below","day","licences","names","done"]
abbrev wD (C:Addr) (A:Rs) (day:Int):HO:=.ins C A.dx [("below",.ref A.lb),("day",.int day),("licences",.ref A.ll),("names",.ref A.ln),("done",.ref A.lo)]
abbrev RL (C:Addr) (A:Rs) (r:List Int) (day:Int) (us:List V) (ns:List Str) (ds:List V):List (Addr × HO) :=
  [(A.p,wD C A day),(A.dx,.own A.p),(A.lb,.lst (r.map V.int)),(A.ll,.lst us),(A.ln,.lst (ns.map V.str)),(A.lo,.lst ds)]
section
variable {K:PySem.W.Frag} {mg:Str→Option Value} {C f0:Addr}
theorem _root_.L2.Cl.nB (R:Cl K mg "Roll" C f0 fX):gK K C "below":=R.n _ (.head _)
theorem _root_.L2.Cl.nD (R:Cl K mg "Roll" C f0 fX):gK K C "day":=R.n _ (.tail _ (.head _))
theorem _root_.L2.Cl.nL (R:Cl K mg "Roll" C f0 fX):gK K C "licences":=R.n _ (.tail _ (.tail _ (.head _)))
theorem _root_.L2.Cl.nN (R:Cl K mg "Roll" C f0 fX):gK K C "names":=R.n _ (.tail _ (.tail _ (.tail _ (.head _))))
theorem _root_.L2.Cl.nO (R:Cl K mg "Roll" C f0 fX):gK K C "done":=R.n _ (.tail _ (.tail _ (.tail _ (.tail _ (.head _)))))
end
theorem GD (A:Rs) (day:Int) (z:V):nC "day" z [("below",.ref A.lb),("day",.int day),("licences",.ref A.ll),("names",.ref A.ln),("done",.ref A.lo)]=([("below",.ref A.lb),("day",z),("licences",.ref A.ll),("names",.ref A.ln),("done",.ref A.lo)]:List (Str × V)):=rfl
def kj (K:PySem.W.Frag) (C:Addr) (y:Str):Sp:=fun vs H Q _=>∃ (p dx l:Addr) (fs:List (Str × V)) (us:List V),vs=[.ref p]∧H p=some (.ins C dx fs)∧fs.lookup y=some (.ref l)∧SqL K H l us∧∀ l',H l'=none→Q (.ref l') (upd H l' (.lst us))
abbrev dz:Stmt:=inClass (top 33) 2
theorem nY:aH ["self"] ["self"] (ak dz):=⟨rfl,rfl,rfl,by decide +kernel,rfl,by decide +kernel,by decide +kernel⟩
section
variable {P:Program} {w:World} {K:PySem.W.Frag} {mg:Str→Option Value} {base:Heap} {C f0:Addr}
theorem vW {f:Addr} {fd:FuncData} (D:Dm K C "roll" "Roll.roll" dz ["self"] f fd) (B:Blt mg) (R:Cl K mg "Roll" C f0 fX):bT P w K mg base CX0 1 f fd ["self"] (kj K C "licences"):=by
  refine D.F.ok nY (fun vs H Q E h=>?_) (fun cdv A outer s H vs Q E hr h=>?_)
  · obtain ⟨_,_,_,_,_,rfl,_⟩:=h;rfl
  · obtain ⟨p,dx,l,fs,us,rfl,hp,hf,hl,q⟩:=h
    refine ⟨_,(aD (aW (iG fM rfl B.list PyProof.Rows.boot_list (aj (cV (pv 0) rfl) aA)))),?_⟩
    exact ⟨_,rfl,p,C,dx,fs,.ref l,rfl,hp,R.c,R.nL,hf,l,us,rfl,.inl hl,q⟩
end
abbrev cg:Stmt:=inClass (top 33) 3
theorem kO:aH ["self"] ["self"] (ak cg):=⟨rfl,rfl,rfl,by decide +kernel,rfl,by decide +kernel,by decide +kernel⟩
section
variable {P:Program} {w:World} {K:PySem.W.Frag} {mg:Str→Option Value} {base:Heap} {C f0:Addr}
theorem pQ {f:Addr} {fd:FuncData} (D:Dm K C "holders" "Roll.holders" cg ["self"] f fd) (B:Blt mg) (R:Cl K mg "Roll" C f0 fX):bT P w K mg base CX0 1 f fd ["self"] (kj K C "names"):=by
  refine D.F.ok kO (fun vs H Q E h=>?_) (fun cdv A outer s H vs Q E hr h=>?_)
  · obtain ⟨_,_,_,_,_,rfl,_⟩:=h;rfl
  · obtain ⟨p,dx,l,fs,us,rfl,hp,hf,hl,q⟩:=h
    refine ⟨_,(aD (aW (iG fM rfl B.list PyProof.Rows.boot_list (aj (cV (pv 0) rfl) aA)))),?_⟩
    exact ⟨_,rfl,p,C,dx,fs,.ref l,rfl,hp,R.c,R.nN,hf,l,us,rfl,.inl hl,q⟩
end
abbrev dj:Stmt:=inClass (top 33) 5
theorem nU:aH ["self"] ["self"] (ak dj):=⟨rfl,rfl,rfl,by decide +kernel,rfl,by decide +kernel,by decide +kernel⟩
def pA (T:fH) (C:Addr):Sp:=fun vs H Q _=>∃ (A:Rs) (H0:Hp) (B:List (Addr × HO)) (r:List Int) (day:Int) (us:List V) (ns:List Str) (ds:List V),vs=[.ref A.p]∧Ow T H0 H (RL C A r day us ns ds++B)∧ds.length≤9000 ∧
  ∀ (t:Addr) (H':Hp),Ow T H0 H' ((t,.tup [.str "turn"]) :: (RL C A r (day + 1) us ns (ds++[.ref t])++B))→Q .non H'
section
variable {P:Program} {w:World} {K:PySem.W.Frag} {mg:Str→Option Value} {base:Heap} {T:fH} {C f0:Addr}
theorem vR {f:Addr} {fd:FuncData} (D:Dm K C "turn" "Roll.turn" dj ["self"] f fd) (R:Cl K mg "Roll" C f0 fX):bT P w K mg base CX0 1 f fd ["self"] (pA T C):=by
  refine D.F.ok nU (fun vs H Q E h=>?_) (fun cdv A outer s H vs Q E hr h=>?_)
  · obtain ⟨_,_,_,_,_,_,_,_,rfl,_⟩:=h;rfl
  · obtain ⟨A,H0,L,r,day,us,ns,ds,rfl,O,hd,q⟩:=h
    refine ⟨_,(au (tG (pv 0) aB Hw)
      (aD (bL (jE PySem.F.plainAttrs_list PySem.F.slot_list_append PySem.F.type_list_append cM (cV (pv 0) rfl) (aj (gY (aj gD aA)) aA))))),?_⟩
    simp only [List.cons_append,List.nil_append] at O
    refine ⟨_,rfl,A.p,C,A.dx,_,_,rfl,O.get 0,R.c,R.nD,rfl,_,_,rfl,rfl,A.dx,_,O.get 0,(by show 5<1000;decide),?_⟩
    rw [GD]
    walk_at "pt"
    refine ⟨_,rfl,A.p,C,A.dx,_,.ref A.lo,rfl,O.get 0,R.c,R.nO,rfl,.inl ⟨rfl,_,O.sq 5⟩,szl,fun t ht=>?_⟩
    walk_at "nw"
    refine ⟨A.lo,_,_,rfl,rfl,O.get 6,aU (by omega),?_⟩
    walk_at "pt"
    exact q t _ O
end
abbrev cJ:Stmt:=inClass (top 33) 13
theorem mX:aH ["self","one","holder"] ["self","one","holder"] (ak cJ):=⟨rfl,rfl,rfl,by decide +kernel,rfl,by decide +kernel,by decide +kernel⟩
def mO (C:Addr):Sp:=fun vs H Q _=>∃ (A:Rs) (day:Int) (us:List V) (ns:List V) (v x:V),vs=[.ref A.p,v,x]∧H A.p=some (wD C A day)∧H A.ll=some (.lst us)∧H A.ln=some (.lst ns)∧us.length≤900∧ns.length≤900∧A.p≠A.ll∧A.p≠A.ln∧A.ln≠A.ll ∧
  Q (.int us.length) (upd (upd H A.ll (.lst (us++[v]))) A.ln (.lst (ns++[x])))
section
variable {P:Program} {w:World} {K:PySem.W.Frag} {mg:Str→Option Value} {base:Heap} {T:fH} {C f0:Addr}
theorem uh {f:Addr} {fd:FuncData} (D:Dm K C "enter" "Roll.enter" cJ ["self","one","holder"] f fd) (B:Blt mg) (R:Cl K mg "Roll" C f0 fX):bT P w K mg base CX0 1 f fd ["self","one","holder"] (mO C):=by
  refine D.F.ok mX (fun vs H Q E h=>?_) (fun cdv A outer s H vs Q E hr h=>?_)
  · obtain ⟨_,_,_,_,_,_,rfl,_⟩:=h;rfl
  · obtain ⟨A,day,us,ns,v,x,rfl,hp,hl,hn,ul,nl,n1,n2,n3,q⟩:=h
    refine ⟨_,(au (bL (jE PySem.F.plainAttrs_list PySem.F.slot_list_append PySem.F.type_list_append cM (cV (pv 0) rfl) (aj (pv 1) aA)))
      (au (bL (jE PySem.F.plainAttrs_list PySem.F.slot_list_append PySem.F.type_list_append cM (cV (pv 0) rfl) (aj (pv 2) aA)))
      (aD (aW (aV qH (aX aZ rfl B.len PySem.boot_len (aj (cV (pv 0) rfl) aA)) aB))))),?_⟩
    refine ⟨_,rfl,A.p,C,A.dx,_,.ref A.ll,rfl,hp,R.c,R.nL,rfl,.inl ⟨rfl,_,SqL.of hl⟩,_,rfl,A.ll,_,_,rfl,rfl,hl,aU (by omega),?_⟩
    have hp:=(aM (H:=H) (o:=.lst (us++[v])) n1).trans hp
    have hn:=(aM (H:=H) (o:=.lst (us++[v])) n3).trans hn
    have hl:upd H A.ll (.lst (us++[v])) A.ll=some (.lst (us++[v])):=bR
    refine ⟨_,rfl,A.p,C,A.dx,_,.ref A.ln,rfl,hp,R.c,R.nN,rfl,.inl ⟨rfl,_,SqL.of hn⟩,_,rfl,A.ln,_,_,rfl,rfl,hn,aU (by omega),?_⟩
    have hp:=(aM (o:=.lst (ns++[x])) n2).trans hp
    have hl:=(aM (o:=.lst (ns++[x])) n3.symm).trans hl
    refine ⟨_,rfl,A.p,C,A.dx,_,.ref A.ll,rfl,hp,R.c,R.nL,rfl,A.ll,_,rfl,.inl (SqL.of hl),_,_,rfl,rfl,?_⟩
    dsimp only
    rw [show (((us++[v]).length:Nat):Int) - 1=(us.length:Int) by rw [List.length_append];simp]
    exact q
end
abbrev aK:Stmt:=inClass (top 33) 17
theorem iW:aH ["self"] ["self"] (ak aK):=⟨rfl,rfl,rfl,by decide +kernel,rfl,by decide +kernel,by decide +kernel⟩
def pC (K:PySem.W.Frag) (C:Addr):Sp:=fun vs H Q _=>∃ (A:Rs) (day:Int) (us:List V),vs=[.ref A.p]∧H A.p=some (wD C A day)∧SqL K H A.ll us∧us.length<60∧Q .non H
section
variable {P:Program} {w:World} {K:PySem.W.Frag} {mg:Str→Option Value} {base:Heap} {T:fH} {C f0:Addr}
theorem vV {f:Addr} {fd:FuncData} (D:Dm K C "look_at_room" "Roll.look_at_room" aK ["self"] f fd) (B:Blt mg) (R:Cl K mg "Roll" C f0 fX) (CL:∃ t,mg "MOST_LICENCES"=some (.int 60 t)):bT P w K mg base CX0 1 f fd ["self"] (pC K C):=by
  obtain ⟨tL,hMOST_LICENCES⟩:=CL
  refine D.F.ok iW (fun vs H Q E h=>?_) (fun cdv A outer s H vs Q E hr h=>?_)
  · obtain ⟨_,_,_,rfl,_⟩:=h;rfl
  · obtain ⟨A,day,us,rfl,hp,hl,hn,q⟩:=h
    refine ⟨_,(aD (fD (bD Nr (aX aZ rfl B.len PySem.boot_len (aj (cV (pv 0) rfl) aA)) (fQ (v:=.int (60)) rfl hMOST_LICENCES ⟨_,rfl⟩) (cj _))
        (aD jy)
        bJ)),?_⟩
    refine ⟨_,rfl,A.p,C,A.dx,_,.ref A.ll,rfl,hp,R.c,R.nL,rfl,A.ll,_,rfl,.inl hl,_,_,rfl,rfl,_,rfl,?_⟩
    rw [decide_eq_false (show ¬ (60:Int)≤(us.length:Int) by omega)]
    exact jG q
end
theorem Fe {j:Nat} {σ:St} {H:Hp} {Q:VK} {bv:V} {stop:Int} (hb:bv=.non∧stop=-1∨bv=.int stop) (hj:σ[j]?=some (some bv)) (h:Q (.int stop) H) :
    tIf (EY (tOp (fun x y H Q=>y=V.non∧Q (V.bl (decide (x=V.non))) H) (MJ j) (tC V.non))) (tC (V.int (-1))) (MJ j) σ H Q:=by
  refine ⟨bv,hj,rfl,_,rfl,?_⟩
  rcases hb with ⟨rfl,rfl⟩ | rfl
  · exact lM h
  · exact jG ⟨_,hj,h⟩
abbrev dY:Stmt:=inClass (top 33) 6
theorem iD:aH ["self","holder","start","most","back","stop","one"] ["self","holder","start","most","back"] (ak dY):=⟨rfl,rfl,rfl,by decide +kernel,rfl,by decide +kernel,by decide +kernel⟩
abbrev Qc (x:Str) (l:Lic):List V:=[.str "file",.str x,.int l.start,.int l.most,.int l.back]
def sI (T:fH) (C:Addr):Sp:=fun vs H Q _=>∃ (A:Rs) (H0:Hp) (B:List (Addr × HO)) (r:List Int) (day:Int) (us:List V) (ns:List Str) (ds:List V) (x:Str) (l:Lic) (bv:V),vs=[.ref A.p,.str x,.int l.start,.int l.most,bv]∧(bv=.non∧l.back=-1∨bv=.int l.back)∧l.day=day ∧
  Ow T H0 H (RL C A r day us ns ds++B)∧fu x∧Rv.lE r∧r.length≤40∧rO r l∧l.most≠0∧us.length<60∧ns.length≤900∧ds.length≤9000 ∧
  ∀ (t1 t2:Addr) (H':Hp),Ow T H0 H' ((t2,.tup (Qc x l)) :: (t1,.tup (mH l)) :: (RL C A r day (us++[.ref t1]) (ns++[x]) (ds++[.ref t2])++B))→Q (.int us.length) H'
section
variable {P:Program} {w:World} {K:PySem.W.Frag} {mg:Str→Option Value} {base:Heap} {T:fH} {C f0:Addr}
theorem wg {f f1 f2 f3 f4:Addr} {fd fd1 fd2 fd3 fd4:FuncData} (D:DmD K C "file" "Roll.file" dY ["self","holder","start","most","back"] f fd) (B:Blt mg) (CM:Mth mg) (R_Roll:Cl K mg "Roll" C f0 fX)
    (aG:Df K mg "look_at_name" bh ["name"] f1 fd1) (eE:bT P w K mg base CX0 2 f1 fd1 ["name"] (gO T))
    (bM:Df K mg "is_licence" cF ["below","one"] f2 fd2) (iJ:bT P w K mg base CX0 2 f2 fd2 ["below","one"] (mL K T))
    (aL:Dm K C "look_at_room" "Roll.look_at_room" aK ["self"] f3 fd3) (eF:bT P w K mg base CX0 1 f3 fd3 ["self"] (pC K C))
    (cR:Dm K C "enter" "Roll.enter" cJ ["self","one","holder"] f4 fd4) (iQ:bT P w K mg base CX0 1 f4 fd4 ["self","one","holder"] (mO C)) :
    bT P w K mg base CX0 3 f fd ["self","holder","start","most","back"] (sI T C):=by
  obtain ⟨tM,hMOUTH⟩:=CM.MOUTH
  have R:=R_Roll
  refine D.F.ok iD (fun vs H Q E h=>?_) (fun cdv A outer s H vs Q E hr h=>?_)
  · obtain ⟨_,_,_,_,_,_,_,_,_,_,_,rfl,_⟩:=h;rfl
  · obtain ⟨A,H0,L,r,day,us,ns,ds,x,l,bv,rfl,hb,rfl,O,nx,hR,r40,hl,m0,ul,nl,dl,q⟩:=h
    refine ⟨_,(au (bL (aR eE (hr.mono (by decide)) rfl aG.m aG.F.kp aG.b .nil bQ (aj (pv 1) aA)))
      (au (bK (i:=5) iD.nd rfl (Or.inl rfl) (vH (bD GR (pv 4) oE (cj _)) (fQ (v:=.int (-1)) rfl hMOUTH ⟨_,rfl⟩) (pv 4)))
      (au (bK (i:=6) iD.nd rfl (Or.inl rfl) (gY (aj (cV (pv 0) rfl) (aj (pv 2) (aj (pv 5) (aj (pv 3) aA))))))
      (au (fD (PW.pt (pw_or (bD jW (pv 3) aB (cj _)) (pw_or1 (eH (fL (aR iJ (hr.mono (by decide)) rfl bM.m bM.F.kp bM.b .nil bQ (aj (cV (pv 0) rfl) (aj (pv 6) aA))))))))
        (aD jy)
        bJ)
      (au (bL (fj (pv 0) R_Roll.c aL.m eF (hr.mono (by decide)) aL.b .nil bQ))
      (au (bL (jE PySem.F.plainAttrs_list PySem.F.slot_list_append PySem.F.type_list_append cM (cV (pv 0) rfl) (aj (gY (aj gD (aj (pv 1) (aj (pv 2) (aj (pv 3) (aj (pv 5) aA)))))) aA)))
      (aD (aW (fJ (pv 0) R_Roll.c cR.m iQ (hr.mono (by decide)) cR.b .nil bQ (aj (pv 6) (aj (pv 1) aA))))))))))),?_⟩
    simp only [List.cons_append,List.nil_append] at O
    refine ⟨_,rfl,x,rfl,nx,O.same.t1,fun H1 s1=>?_⟩
    have O:=O.jJ s1
    refine Fe hb rfl ?_
    refine ⟨_,rfl,A.p,C,A.dx,_,.int l.day,rfl,O.get 0,R.c,R.nD,rfl,_,rfl,_,rfl,_,rfl,szl,fun t1 ht1=>?_⟩
    walk_at "nw"
    refine ⟨_,rfl,rfl,_,rfl,?_⟩
    rw [decide_eq_false (show ¬ V.int l.most=V.int 0 from fun z=>m0 (V.int.inj z))]
    refine jG ?_
    refine ⟨_,rfl,A.p,C,A.dx,_,.ref A.lb,rfl,O.get 1,R.c,R.nB,rfl,_,rfl,A.lb,t1,r,l,rfl,O.sq 3,hR,by omega,O.sqT 0,O.same.t1,fun b H2 s2 hb2=>?_⟩
    have hbt:b=true:=hb2.mpr hl
    subst hbt
    have O:=O.jJ s2
    refine ⟨_,rfl,jG ?_⟩
    refine ⟨_,rfl,A.p,A.dx,_,rfl,O.get 1,rfl,A,l.day,us,rfl,O.get 1,O.sq 4,ul,?_⟩
    refine ⟨_,rfl,A.p,C,A.dx,_,.ref A.lo,rfl,O.get 1,R.c,R.nO,rfl,.inl ⟨rfl,_,O.sq 6⟩,_,rfl,_,rfl,_,rfl,_,rfl,szl,fun t2 ht2=>?_⟩
    walk_at "nw"
    refine ⟨A.lo,_,_,rfl,rfl,O.get 7,aU (by omega),?_⟩
    walk_at "pt"
    refine ⟨_,rfl,A.p,A.dx,_,rfl,O.get 2,rfl,_,rfl,_,rfl,A,l.day,us,ns.map V.str,.ref t1,.str x,rfl,O.get 2,O.get 5,O.get 6,by omega,by rw [List.length_map];exact nl,O.ne 2 5,O.ne 2 6,O.ne 6 5,?_⟩
    have O:=(O.Gk 5 rfl (o':=.lst (us++[.ref t1])) rfl).Gk 6 rfl (o':=.lst (ns.map V.str++[.str x])) rfl
    refine q t1 t2 _ ?_
    simp only [RL,List.map_append,List.map_cons,List.map_nil];exact O
end
abbrev bI:Stmt:=inClass (top 33) 0
theorem jU:aH ["self","below"] ["self","below"] (ak bI):=⟨rfl,rfl,rfl,by decide +kernel,rfl,by decide +kernel,by decide +kernel⟩
def sH (T:fH) (C:Addr):Sp:=fun vs H Q _=>∃ (p dx lv:Addr) (H0:Hp) (B:List (Addr × HO)) (r:List Int),vs=[.ref p,.ref lv]∧Ow T H0 H ((p,.ins C dx []) :: (dx,.own p) :: B)∧H lv=some (.lst (r.map V.int))∧lv≠p∧Rv.isR r=true∧r.length≤40 ∧
  ∀ (A:Rs) (H':Hp),A.p=p→Ow T H0 H' (RL C A r 0 [] [] []++B)→Q .non H'
section
variable {P:Program} {w:World} {K:PySem.W.Frag} {mg:Str→Option Value} {base:Heap} {T:fH} {C f0:Addr}
theorem vZ {f f1:Addr} {fd fd1:FuncData} (D:Dm K C "__init__" "Roll.__init__" bI ["self","below"] f fd) (B:Blt mg) (R:Cl K mg "Roll" C f0 fX)
    (gj:Df K mg "is_river" dR ["below"] f1 fd1) (rQ:bT P w K mg base CX0 2 f1 fd1 ["below"] (xg K)) :
    bT P w K mg base CX0 3 f fd ["self","below"] (sH T C):=by
  refine D.F.ok jU (fun vs H Q E h=>?_) (fun cdv A outer s H vs Q E hr h=>?_)
  · obtain ⟨_,_,_,_,_,_,rfl,_⟩:=h;rfl
  · obtain ⟨p,dx,lv,H0,L,r,rfl,O,hv,hne,hR,r40,q⟩:=h
    refine ⟨_,(au (fD (eH (fL (aR rQ (hr.mono (by decide)) rfl gj.m gj.F.kp gj.b .nil bQ (aj (pv 1) aA))))
        (aD jy)
        bJ)
      (au (ou (pv 0) (iG fM rfl B.list PyProof.Rows.boot_list (aj (pv 1) aA)) rfl)
      (au (ou (pv 0) aB rfl)
      (au (ou (pv 0) (gZ aA) rfl)
      (au (ou (pv 0) (gZ aA) rfl)
      (aD (ou (pv 0) (gZ aA) rfl))))))),?_⟩
    refine ⟨_,rfl,lv,r,rfl,SqL.of hv,by omega,fun H1 s1=>?_⟩
    rw [hR]
    refine ⟨_,rfl,jG ?_⟩
    have hv:=s1 _ _ hv
    have O:=O.call s1
    refine ⟨_,rfl,lv,_,rfl,.inl (SqL.of hv),fun lb hlb=>?_⟩
    walk_at "nw"
    refine ⟨_,rfl,p,C,dx,_,rfl,O.get 1,R.c,R.nB,(by show 0<1000;decide),?_⟩
    walk_at "pt"
    refine ⟨_,rfl,p,C,dx,_,rfl,O.get 1,R.c,R.nD,(by show 1<1000;decide),?_⟩
    walk_at "pt"
    refine ⟨szl,fun ll hll=>?_⟩
    walk_at "nw"
    refine ⟨_,rfl,p,C,dx,_,rfl,O.get 2,R.c,R.nL,(by show 2<1000;decide),?_⟩
    walk_at "pt"
    refine ⟨szl,fun ln hln=>?_⟩
    walk_at "nw"
    refine ⟨_,rfl,p,C,dx,_,rfl,O.get 3,R.c,R.nN,(by show 3<1000;decide),?_⟩
    walk_at "pt"
    refine ⟨szl,fun lo hlo=>?_⟩
    walk_at "nw"
    refine ⟨_,rfl,p,C,dx,_,rfl,O.get 4,R.c,R.nO,(by show 4<1000;decide),?_⟩
    walk_at "pt"
    have O:=((((O.pull 1 rfl).pull 2 rfl).pull 3 rfl).pull 5 rfl).pull 5 rfl
    exact q ⟨p,dx,lb,ll,ln,lo⟩ _ rfl O
end
abbrev eY:Stmt:=top 27
theorem rD:aH ["one"] ["one"] (ak eY):=⟨rfl,rfl,rfl,by decide +kernel,rfl,by decide +kernel,by decide +kernel⟩
def pF (K:PySem.W.Frag):Sp:=fun vs H Q _=>∃ (a:Addr) (l:Lic),vs=[.ref a]∧SqT K H a (mH l)∧Q (.int l.most) H
theorem Fw {f:Addr} {fd:FuncData} (D:Df K mg "most_of" eY ["one"] f fd):bT P w K mg base CX0 1 f fd ["one"] (pF K):=by
  refine D.F.ok rD (fun vs H Q E h=>?_) (fun cdv A outer s H vs Q E hr h=>?_)
  · obtain ⟨_,_,rfl,_⟩:=h;rfl
  · obtain ⟨a,l,rfl,hT,q⟩:=h
    exact ⟨_,(aD (aW (bU iH (pv 0) aB (fun _ _=>rfl)))),_,rfl,a,_,3,_,rfl,rfl,hT,rfl,q⟩
abbrev dh:Stmt:=top 29
theorem nQ:aH ["one","most"] ["one","most"] (ak dh):=⟨rfl,rfl,rfl,by decide +kernel,rfl,by decide +kernel,by decide +kernel⟩
def wm (l:Lic) (m:Int):Lic:=⟨l.day,l.start,l.back,m⟩
def Fg (K:PySem.W.Frag):Sp:=fun vs H Q _=>∃ (a:Addr) (l:Lic) (m:Int),vs=[.ref a,.int m]∧SqT K H a (mH l)∧∀ t,H t=none→Q (.ref t) (upd H t (.tup (mH (wm l m))))
theorem Nt {f:Addr} {fd:FuncData} (D:Df K mg "with_most" dh ["one","most"] f fd):bT P w K mg base CX0 1 f fd ["one","most"] (Fg K):=by
  refine D.F.ok nQ (fun vs H Q E h=>?_) (fun cdv A outer s H vs Q E hr h=>?_)
  · obtain ⟨_,_,_,rfl,_⟩:=h;rfl
  · obtain ⟨a,l,m,rfl,hT,q⟩:=h
    refine ⟨_,(aD (aW (gY (aj (bU iH (pv 0) aB (fun _ _=>rfl)) (aj (bU iH (pv 0) aB (fun _ _=>rfl)) (aj (bU iH (pv 0) aB (fun _ _=>rfl)) (aj (pv 1) aA))))))),?_⟩
    exact ⟨_,rfl,a,_,0,_,rfl,rfl,hT,rfl,_,rfl,a,_,1,_,rfl,rfl,hT,rfl,_,rfl,a,_,2,_,rfl,rfl,hT,rfl,_,rfl,szl,q⟩
abbrev dW:Stmt:=top 37
theorem jM:aH ["cell","place","spot"] ["cell","place"] (ak dW):=⟨rfl,rfl,rfl,by decide +kernel,rfl,by decide +kernel,by decide +kernel⟩
def dv (c k:Int):Int:=(c % 999983 + 400009 + 7001 * k) * (c % 999983 + 400009 + 7001 * k) * (c % 999983 + 400009 + 7001 * k) * (2 * k + 3) % 1000000007
def Gy:Sp:=fun vs H Q _=>∃ (c k:Int),vs=[.int c,.int k]∧0≤k∧k≤1000∧Q (.int (dv c k)) H
theorem Nu {f:Addr} {fd:FuncData} (D:Df K mg "_law_draw" dW ["cell","place"] f fd):bT P w K mg base CX0 1 f fd ["cell","place"] Gy:=by
  refine D.F.ok jM (fun vs H Q E h=>?_) (fun cdv A outer s H vs Q E hr h=>?_)
  · obtain ⟨c,k,rfl,_⟩:=h;rfl
  · obtain ⟨c,k,rfl,h0,h1,q⟩:=h
    have a0:=Int.emod_nonneg c (show (999983:Int)≠0 by decide)
    have a1:=Int.emod_lt_of_pos c (show (0:Int)<999983 by decide)
    refine ⟨_,(au (bK (i:=2) jM.nd rfl (Or.inl rfl) (aV fG (aV fG (aV dN (pv 0) aB) aB) (aV oF aB (pv 1))))
      (aD (aW (aV dN (aV oF (aV oF (aV oF (pv 2) (pv 2)) (pv 2)) (aV fG (aV oF aB (pv 1)) aB)) aB)))),?_⟩
    refine ⟨_,rfl,_,_,rfl,rfl,(by show (0:Int)<999983;decide),_,_,rfl,rfl,_,rfl,_,_,rfl,rfl,.inl ⟨by decide,by decide⟩,_,_,rfl,rfl,?_⟩
    exact ⟨_,rfl,_,rfl,_,_,rfl,rfl,.inl ⟨by omega,by omega⟩,_,rfl,_,_,rfl,rfl,.inr ⟨by omega,by omega⟩,_,rfl,_,_,rfl,rfl,.inl ⟨by decide,by decide⟩,_,_,rfl,rfl,_,_,rfl,rfl,.inr ⟨by omega,by omega⟩,_,_,rfl,rfl,(by show (0:Int)<1000000007;decide),q⟩
abbrev cI:Stmt:=top 38
theorem mV:aH ["cell","many"] ["cell","many"] (ak cI):=⟨rfl,rfl,rfl,by decide +kernel,rfl,by decide +kernel,by decide +kernel⟩
def dvs (c:Int) (n:Nat):List Int:=(List.range n).map fun (i:Nat)=>dv c (i:Int)
theorem wK (c:Int) (n:Nat):dvs c (n + 1)=dvs c n++[dv c (n:Int)]:=by
  unfold dvs;rw [List.range_succ,List.map_append];rfl
theorem pX (c:Int) (n:Nat):(dvs c n).length=n:=by unfold dvs;simp
def xq (T:fH):Sp:=fun vs H Q _=>∃ (c:Int) (n:Nat),vs=[.int c,.int (n:Int)]∧n≤100∧TabsOk T H∧wR T H (fun xs=>xs=(dvs c n).map V.int) Q
theorem G8 {f f1:Addr} {fd fd1:FuncData} (D:Df K mg "_law_draws" cI ["cell","many"] f fd) (B:Blt mg)
    (fK:Df K mg "_law_draw" dW ["cell","place"] f1 fd1) (qe:bT P w K mg base CX0 1 f1 fd1 ["cell","place"] Gy):bT P w K mg base CX0 2 f fd ["cell","many"] (xq T):=by
  refine D.F.ok mV (fun vs H Q E h=>?_) (fun cdv A outer s H vs Q E hr h=>?_)
  · obtain ⟨c,n,rfl,_⟩:=h;rfl
  · obtain ⟨c,n,rfl,h1,tk,q⟩:=h
    refine ⟨_,(aD (aW (gR (ak cI) rfl ["cell","many"] rfl ["place","cell"] [none,some 0] (by decide +kernel) (by decide +kernel) (by decide +kernel) rfl (gn rfl B.range (aj (pv 1) aA)) (fun _ _ _=>(cu (i:=0) (show (["place","cell"]:List Str).Nodup by decide +kernel) rfl (Or.inl rfl))) (fun _ _ _=>je) (fun _ _ _=>(aR qe (hr.mono (by decide)) rfl fK.m fK.F.kp fK.b .nil bQ (aj (pv 1) (aj (pv 0) aA))))))),?_⟩
    have O:=Ow.refl tk
    refine ⟨_,rfl,n,rfl,by omega,by omega,fun lw hlw=>?_⟩
    refine gJ (fun i τ H'=>Iv (∃ (v0:Option V),τ=[v0,some (.int c)]∧Ow T H H' [(lw,.lst ((dvs c i).map V.int))])) ⟨trivial,none,rfl,O.mk' hlw rfl⟩ ?_ ?_
    · rintro i τ H4 hi ⟨-,v0,rfl,O⟩
      refine Eu ⟨_,rfl,_,rfl,c,_,rfl,by omega,by omega,?_⟩
      refine ⟨_,O.get 0,aU (by rw [List.length_map,pX];omega),?_⟩
      walk_at "pt"
      refine ⟨trivial,_,rfl,?_⟩
      rw [wK,List.map_append,← Int.zero_add (i:Int)];exact O
    rintro τ H4 ⟨-,v0,rfl,O⟩
    rw [show ((n:Int)).toNat=n by omega] at O
    exact O.ret 0 rfl q rfl
abbrev aJ:Stmt:=inClass (top 33) 15
theorem iw:aH ["self","number"] ["self","number"] (ak aJ):=⟨rfl,rfl,rfl,by decide +kernel,rfl,by decide +kernel,by decide +kernel⟩
def lR (K:PySem.W.Frag) (C:Addr):Sp:=fun vs H Q _=>∃ (A:Rs) (day:Int) (us:List V) (n:Nat),vs=[.ref A.p,.int (n:Int)]∧H A.p=some (wD C A day)∧SqL K H A.ll us∧n<us.length∧Q .non H
section
variable {P:Program} {w:World} {K:PySem.W.Frag} {mg:Str→Option Value} {base:Heap} {T:fH} {C f0:Addr}
theorem pO {f:Addr} {fd:FuncData} (D:Dm K C "look_at_number" "Roll.look_at_number" aJ ["self","number"] f fd) (B:Blt mg) (R:Cl K mg "Roll" C f0 fX):bT P w K mg base CX0 1 f fd ["self","number"] (lR K C):=by
  refine D.F.ok iw (fun vs H Q E h=>?_) (fun cdv A outer s H vs Q E hr h=>?_)
  · obtain ⟨_,_,_,_,rfl,_⟩:=h;rfl
  · obtain ⟨A,day,us,n,rfl,hp,hl,hn,q⟩:=h
    refine ⟨_,(aD (fD (eH (jw jV tZ aB (pv 1) (aX aZ rfl B.len PySem.boot_len (aj (cV (pv 0) rfl) aA))))
        (aD jy)
        bJ)),?_⟩
    refine ⟨_,rfl,_,_,rfl,rfl,_,rfl,?_⟩
    rw [decide_eq_true (show (0:Int)≤(n:Int) by omega)]
    refine lM ?_
    refine ⟨_,rfl,A.p,C,A.dx,_,.ref A.ll,rfl,hp,R.c,R.nL,rfl,A.ll,_,rfl,.inl hl,_,_,rfl,rfl,_,rfl,?_⟩
    rw [decide_eq_true (show (n:Int)<(us.length:Int) by omega)]
    exact jG q
end
abbrev aF:Stmt:=inClass (top 33) 16
theorem iy:aH ["self","number","holder"] ["self","number","holder"] (ak aF):=⟨rfl,rfl,rfl,by decide +kernel,rfl,by decide +kernel,by decide +kernel⟩
def gH (K:PySem.W.Frag) (T:fH) (C cY:Addr):Sp:=fun vs H Q E=>∃ (A:Rs) (day:Int) (us:List V) (ns:List Str) (n:Nat) (x y:Str),vs=[.ref A.p,.int (n:Int),.str y]∧H A.p=some (wD C A day)∧SqL K H A.ll us∧SqL K H A.ln (ns.map V.str)∧n<us.length∧ns[n]?=some x∧TabsOk T H∧(x=y→Q .non H) ∧
  (x≠y→∀ (e:Addr) (H':Hp),bf T H H'→H' e=none→E (.ref cY) (some e) H')
section
variable {P:Program} {w:World} {K:PySem.W.Frag} {mg:Str→Option Value} {base:Heap} {T:fH} {C f0:Addr}
theorem pP {f f1 cY:Addr} {fd fd1:FuncData} (D:Dm K C "look_at_holder" "Roll.look_at_holder" aF ["self","number","holder"] f fd) (B:Blt mg) (R_Roll:Cl K mg "Roll" C f0 fX) (X_NotYours:rR K mg "NotYours" cY)
    (bO:Dm K C "look_at_number" "Roll.look_at_number" aJ ["self","number"] f1 fd1) (iM:bT P w K mg base CX0 1 f1 fd1 ["self","number"] (lR K C)) :
    bT P w K mg base (CXE P w) 2 f fd ["self","number","holder"] (gH K T C cY):=by
  have R:=R_Roll
  refine D.F.okX iy (fun vs H Q E h=>?_) (fun cdv A outer s H vs Q E hr h=>?_)
  · obtain ⟨_,_,_,_,_,_,_,rfl,_⟩:=h;rfl
  · obtain ⟨A,day,us,ns,n,x,y,rfl,hp,hl,hn,hnl,hx,tk,q,qx⟩:=h
    refine ⟨_,(au (bL (fJ (pv 0) R_Roll.c bO.m iM (hr.mono (by decide)) bO.b .nil bQ (aj (pv 1) aA)))
      (aD (fD (bD rH (bU aN (cV (pv 0) rfl) (pv 1) (fun _ _=>rfl)) (pv 2) (cj _))
        (aD (j6 lD rfl (fun _ _ z=>z) rfl X_NotYours.m X_NotYours.q (aj gD aA)))
        bJ))),?_⟩
    refine ⟨_,rfl,A.p,A.dx,_,rfl,hp,rfl,_,rfl,A,day,us,n,rfl,hp,hl,hnl,?_⟩
    refine ⟨_,rfl,A.p,C,A.dx,_,.ref A.ln,rfl,hp,R.c,R.nN,rfl,_,rfl,A.ln,_,_,_,rfl,rfl,hn,fU (show (ns.map V.str)[n]?=some (.str x) by rw [List.getElem?_map,hx];rfl),_,rfl,rfl,_,rfl,ifN (ifD (fun h=>?_) (fun h=>?_))⟩
    · exact q (V.str.inj h)
    · refine ⟨szl,fun e he=>?_⟩
      exact qx (fun z=>h (by rw [z])) e H (bf.refl tk) he
end
abbrev dD:Stmt:=inClass (top 33) 9
theorem nZ:aH ["self","number","holder"] ["self","number","holder"] (ak dD):=⟨rfl,rfl,rfl,by decide +kernel,rfl,by decide +kernel,by decide +kernel⟩
def pG (K:PySem.W.Frag) (T:fH) (C cY:Addr):Sp:=fun vs H Q E=>∃ (A:Rs) (H0:Hp) (B:List (Addr × HO)) (r:List Int) (day:Int) (us:List V) (ns:List Str) (ds:List V) (ls:List Lic) (n:Nat) (l:Lic) (x y:Str),vs=[.ref A.p,.int (n:Int),.str y] ∧
  Ow T H0 H (RL C A r day us ns ds++B)∧cW K H0 us (ls.map jA)∧ls[n]?=some l∧ns[n]?=some x∧ds.length≤9000 ∧
  (x=y→∀ (t1 t2:Addr) (H':Hp),Ow T H0 H' ((t2,.tup [.str "drop",.int (n:Int),.str y]) :: (t1,.tup (mH (wm l 0))) :: (RL C A r day (us.set n (.ref t1)) ns (ds++[.ref t2])++B))→Q .non H') ∧
  (x≠y→∀ (e:Addr) (H':Hp),bf T H H'→H' e=none→E (.ref cY) (some e) H')
section
variable {P:Program} {w:World} {K:PySem.W.Frag} {mg:Str→Option Value} {base:Heap} {T:fH} {C f0:Addr}
theorem wj {f f1 f2 cY:Addr} {fd fd1 fd2:FuncData} (D:Dm K C "drop" "Roll.drop" dD ["self","number","holder"] f fd) (R_Roll:Cl K mg "Roll" C f0 fX)
    (aC:Dm K C "look_at_holder" "Roll.look_at_holder" aF ["self","number","holder"] f1 fd1) (aQ:bT P w K mg base (CXE P w) 2 f1 fd1 ["self","number","holder"] (gH K T C cY))
    (bx:Df K mg "with_most" dh ["one","most"] f2 fd2) (gV:bT P w K mg base CX0 1 f2 fd2 ["one","most"] (Fg K)):bT P w K mg base (CXE P w) 3 f fd ["self","number","holder"] (pG K T C cY):=by
  have R:=R_Roll
  refine D.F.okX nZ (fun vs H Q E h=>?_) (fun cdv A outer s H vs Q E hr h=>?_)
  · obtain ⟨_,_,_,_,_,_,_,_,_,_,_,_,_,rfl,_⟩:=h;rfl
  · obtain ⟨A,H0,L,r,day,us,ns,ds,ls,n,l,x,y,rfl,O,d0,hl,hx,dl,q,qx⟩:=h
    have hul:us.length=ls.length:=by rw [d0.length,List.length_map]
    have hnl:=(List.getElem?_eq_some_iff.mp hl).1
    obtain ⟨al,hal,hT⟩:=d0.mq hl
    refine ⟨_,(au (bL (fJ (pv 0) R_Roll.c aC.m aQ (hr.mono (by decide)) aC.b .nil vI (aj (pv 1) (aj (pv 2) aA))))
      (au (jQ (aR gV (hr.mono (by decide)) rfl bx.m bx.F.kp bx.b .nil bQ (aj (bU aN (cV (pv 0) rfl) (pv 1) (fun _ _=>rfl)) (aj aB aA))) (lX (cV (pv 0) rfl) (pv 1) set_list))
      (aD (bL (jE PySem.F.plainAttrs_list PySem.F.slot_list_append PySem.F.type_list_append cM (cV (pv 0) rfl) (aj (gY (aj gD (aj (pv 1) (aj (pv 2) aA)))) aA)))))),?_⟩
    refine ⟨_,rfl,A.p,A.dx,_,rfl,O.get 0,rfl,_,rfl,_,rfl,A,day,us,ns,n,x,y,rfl,O.get 0,O.sq 3,O.sq 4,by omega,hx,O.same.t1,fun hxy=>?_,fun hxy e H' s' he=>qx hxy e H' s' he⟩
    refine ⟨_,rfl,A.p,C,A.dx,_,.ref A.ll,rfl,O.get 0,R.c,R.nL,rfl,_,rfl,A.ll,_,_,_,rfl,rfl,O.sq 3,fU hal,al,l,0,rfl,hT.mo O.same,fun t1 ht1=>?_⟩
    walk_at "nw"
    refine ⟨_,rfl,A.p,C,A.dx,_,.ref A.ll,rfl,O.get 1,R.c,R.nL,rfl,_,rfl,?_⟩
    refine mj O 4 rfl (jF (by omega)) fun H6 O=>?_
    refine ⟨_,rfl,A.p,C,A.dx,_,.ref A.lo,rfl,O.get 1,R.c,R.nO,rfl,.inl ⟨rfl,_,O.sq 6⟩,_,rfl,_,rfl,szl,fun t2 ht2=>?_⟩
    walk_at "nw"
    refine ⟨A.lo,_,_,rfl,rfl,O.get 7,aU (by omega),?_⟩
    generalize hE:upd _ _ _=Hn
    have O:=Ow.lK O 7 rfl hE rfl
    exact q hxy t1 t2 _ O
end
abbrev dw:Stmt:=inClass (top 33) 7
theorem nW:aH ["self","number","holder","to"] ["self","number","holder","to"] (ak dw):=⟨rfl,rfl,rfl,by decide +kernel,rfl,by decide +kernel,by decide +kernel⟩
def pB (K:PySem.W.Frag) (T:fH) (C cY:Addr):Sp:=fun vs H Q E=>∃ (A:Rs) (H0:Hp) (B:List (Addr × HO)) (r:List Int) (day:Int) (us:List V) (ns:List Str) (ds:List V) (n:Nat) (x y z:Str),vs=[.ref A.p,.int (n:Int),.str y,.str z] ∧
  Ow T H0 H (RL C A r day us ns ds++B)∧us.length=ns.length∧ns[n]?=some x∧fu z∧ds.length≤9000 ∧
  (x=y→∀ (t2:Addr) (H':Hp),Ow T H0 H' ((t2,.tup [.str "sell",.int (n:Int),.str y,.str z]) :: (RL C A r day us (ns.set n z) (ds++[.ref t2])++B))→Q .non H') ∧
  (x≠y→∀ (e:Addr) (H':Hp),bf T H H'→H' e=none→E (.ref cY) (some e) H')
section
variable {P:Program} {w:World} {K:PySem.W.Frag} {mg:Str→Option Value} {base:Heap} {T:fH} {C f0:Addr}
theorem vU {f f1 f2 cY:Addr} {fd fd1 fd2:FuncData} (D:Dm K C "sell" "Roll.sell" dw ["self","number","holder","to"] f fd) (R_Roll:Cl K mg "Roll" C f0 fX)
    (aC:Dm K C "look_at_holder" "Roll.look_at_holder" aF ["self","number","holder"] f1 fd1) (aQ:bT P w K mg base (CXE P w) 2 f1 fd1 ["self","number","holder"] (gH K T C cY))
    (aG:Df K mg "look_at_name" bh ["name"] f2 fd2) (eE:bT P w K mg base CX0 2 f2 fd2 ["name"] (gO T)):bT P w K mg base (CXE P w) 3 f fd ["self","number","holder","to"] (pB K T C cY):=by
  have R:=R_Roll
  refine D.F.okX nW (fun vs H Q E h=>?_) (fun cdv A outer s H vs Q E hr h=>?_)
  · obtain ⟨_,_,_,_,_,_,_,_,_,_,_,_,rfl,_⟩:=h;rfl
  · obtain ⟨A,H0,L,r,day,us,ns,ds,n,x,y,z,rfl,O,hun,hx,nz,dl,q,qx⟩:=h
    have hnl:=(List.getElem?_eq_some_iff.mp hx).1
    refine ⟨_,(au (bL (fJ (pv 0) R_Roll.c aC.m aQ (hr.mono (by decide)) aC.b .nil vI (aj (pv 1) (aj (pv 2) aA))))
      (au (bL (aR eE (hr.mono (by decide)) rfl aG.m aG.F.kp aG.b .nil bQ (aj (pv 3) aA)))
      (au (jQ (pv 3) (lX (cV (pv 0) rfl) (pv 1) set_list))
      (aD (bL (jE PySem.F.plainAttrs_list PySem.F.slot_list_append PySem.F.type_list_append cM (cV (pv 0) rfl) (aj (gY (aj gD (aj (pv 1) (aj (pv 2) (aj (pv 3) aA))))) aA))))))),?_⟩
    refine ⟨_,rfl,A.p,A.dx,_,rfl,O.get 0,rfl,_,rfl,_,rfl,A,day,us,ns,n,x,y,rfl,O.get 0,O.sq 3,O.sq 4,by omega,hx,O.same.t1,fun hxy=>?_,fun hxy e H' s' he=>qx hxy e H' s' he⟩
    refine ⟨_,rfl,z,rfl,nz,O.same.t1,fun H2 s2=>?_⟩
    have O:=O.jJ s2
    refine ⟨_,rfl,_,rfl,A.p,C,A.dx,_,.ref A.ln,rfl,O.get 0,R.c,R.nN,rfl,_,rfl,?_⟩
    refine mj O 4 rfl (jF (by rw [List.length_map];omega)) fun H6 O=>?_
    refine ⟨_,rfl,A.p,C,A.dx,_,.ref A.lo,rfl,O.get 0,R.c,R.nO,rfl,.inl ⟨rfl,_,O.sq 5⟩,_,rfl,_,rfl,_,rfl,szl,fun t2 ht2=>?_⟩
    walk_at "nw"
    refine ⟨A.lo,_,_,rfl,rfl,O.get 6,aU (by omega),?_⟩
    generalize hE:upd _ _ _=Hn
    have O:=Ow.lK O 6 rfl hE rfl
    refine q hxy t2 _ ?_
    simp only [RL,List.map_set];exact O
end
abbrev dU:Stmt:=top 26
theorem nT:aH ["one"] ["one"] (ak dU):=⟨rfl,rfl,rfl,by decide +kernel,rfl,by decide +kernel,by decide +kernel⟩
def xr (K:PySem.W.Frag):Sp:=fun vs H Q _=>∃ (a:Addr) (l:Lic),vs=[.ref a]∧SqT K H a (mH l)∧Q (.int l.day) H
theorem G9 {f:Addr} {fd:FuncData} (D:Df K mg "day_filed" dU ["one"] f fd):bT P w K mg base CX0 1 f fd ["one"] (xr K):=by
  refine D.F.ok nT (fun vs H Q E h=>?_) (fun cdv A outer s H vs Q E hr h=>?_)
  · obtain ⟨_,_,rfl,_⟩:=h;rfl
  · obtain ⟨a,l,rfl,hT,q⟩:=h
    exact ⟨_,(aD (aW (bU iH (pv 0) aB (fun _ _=>rfl)))),_,rfl,a,_,0,_,rfl,rfl,hT,rfl,q⟩
def iB (ls:List Lic) (d:Int):Nat→List Int
  | 0=>[]
  | i + 1=>iB ls d i++(match ls[i]? with | some l=>if l.day=d∧0<l.most then [(i:Int)] else [] | none=>[])
theorem lO (ls:List Lic) (d:Int):∀ i,(iB ls d i).length≤i
  | 0=>Nat.le_refl _
  | i + 1=>by
    have:=lO ls d i
    unfold iB
    rw [List.length_append]
    split
    · split <;> simp <;> omega
    · simp;omega
abbrev bw:Stmt:=inClass (top 33) 14
theorem fP:aH ["self","number","day","taking"] ["self","number"] (ak bw):=⟨rfl,rfl,rfl,by decide +kernel,rfl,by decide +kernel,by decide +kernel⟩
def qF (K:PySem.W.Frag) (T:fH) (C:Addr):Sp:=fun vs H Q _=>∃ (A:Rs) (day:Int) (us:List V) (ls:List Lic) (n:Nat) (l:Lic),vs=[.ref A.p,.int (n:Int)]∧H A.p=some (wD C A day)∧SqL K H A.ll us∧cW K H us (ls.map jA)∧ls[n]?=some l∧ls.length≤64∧TabsOk T H ∧
  ∀ H',bf T H H'→Q (.bl (decide (iB ls l.day ls.length=[(n:Int)]))) H'
section
variable {P:Program} {w:World} {K:PySem.W.Frag} {mg:Str→Option Value} {base:Heap} {T:fH} {C f0:Addr}
theorem um {f f1 f2:Addr} {fd fd1 fd2:FuncData} (D:Dm K C "is_alone" "Roll.is_alone" bw ["self","number"] f fd) (B:Blt mg) (R:Cl K mg "Roll" C f0 fX)
    (dG:Df K mg "day_filed" dU ["one"] f1 fd1) (lF:bT P w K mg base CX0 1 f1 fd1 ["one"] (xr K))
    (cO:Df K mg "most_of" eY ["one"] f2 fd2) (jB:bT P w K mg base CX0 1 f2 fd2 ["one"] (pF K)):bT P w K mg base CX0 2 f fd ["self","number"] (qF K T C):=by
  refine D.F.ok fP (fun vs H Q E h=>?_) (fun cdv A outer s H vs Q E hr h=>?_)
  · obtain ⟨_,_,_,_,_,_,rfl,_⟩:=h;rfl
  · obtain ⟨A,day,us,ls,n,l,rfl,hp,hl,d0,hn,l64,tk,q⟩:=h
    have hu:=hr.units
    have O:=Ow.refl tk
    have hul:us.length=ls.length:=by rw [d0.length,List.length_map]
    obtain ⟨al,hal,hT⟩:=d0.mq hn
    refine ⟨_,(au (bK (i:=2) fP.nd rfl (Or.inr rfl) (aR lF (hr.mono (by decide)) rfl dG.m dG.F.kp dG.b .nil bQ (aj (bU aN (cV (pv 0) rfl) (pv 1) (fun _ _=>rfl)) aA)))
      (au (rG (i:=3) (ak bw) rfl ["self","number","day","taking"] rfl ["other","one","day"] [none,none,some 2] (by decide +kernel) (by decide +kernel) (by decide +kernel) rfl fP.nd rfl rfl (Fp rfl B.enumerate (aj (cV (pv 0) rfl) aA)) (fun _ _ _=>(Fq (K:=K) (n:=2) rfl rfl (fY (cu (i:=0) (show (["other","one","day"]:List Str).Nodup by decide +kernel) rfl (Or.inl rfl)) (fY (cu (i:=1) (show (["other","one","day"]:List Str).Nodup by decide +kernel) rfl (Or.inl rfl)) pL)))) (fun _ _ _=>(pK (PW.pt (pw_and (bD jW (aR lF (hr.mono (by decide)) rfl dG.m dG.F.kp dG.b .nil bQ (aj (pv 1) aA)) (pv 2) (cj _)) (pw_and1 (bD GX (aR jB (hr.mono (by decide)) rfl cO.m cO.F.kp cO.b .nil bQ (aj (pv 1) aA)) aB (cj _))))))) (fun _ _ _=>(pv 0)) rfl)
      (aD (aW (jg (GZ hu) (pv 3) (gZ (aj (pv 1) aA)) (cj _)))))),?_⟩
    refine ⟨_,rfl,A.p,C,A.dx,_,.ref A.ll,rfl,hp,R.c,R.nL,rfl,_,rfl,A.ll,_,_,_,rfl,rfl,hl,fU hal,al,l,rfl,hT,?_⟩
    refine ⟨_,rfl,A.p,C,A.dx,_,.ref A.ll,rfl,hp,R.c,R.nL,rfl,A.ll,_,rfl,hl,fun lw hlw=>?_⟩
    refine uR (K:=K) (xs:=us) (fun i τ H'=>Iv (∃ (v0 v1:Option V),τ=[v0,v1,some (.int l.day)]∧Ow T H H' [(lw,.lst ((iB ls l.day i).map V.int))]))
      ⟨trivial,none,none,rfl,O.mk' hlw rfl⟩ (fun i τ H' _ ⟨_,_,_,_,O⟩=>hl.mo O.same) ?_ ?_
    · rintro i y T0 τ H5 hy ⟨-,v0,v1,rfl,O⟩ hT0
      obtain ⟨al,l2,rfl,hl2,hT2⟩:=d0.FJ hy
      have hi:=(List.getElem?_eq_some_iff.mp hl2).1
      have ht:=lO ls l.day i
      walk_at "nw"
      refine ⟨T0,_,rfl,O.sqT 0,rfl,_,_,rfl,_,_,rfl,rfl,?_⟩
      have O:=O.tail
      have hT3:=hT2.mo O.same
      refine ⟨_,rfl,al,l2,rfl,hT3,_,rfl,rfl,_,rfl,ifI (fun hd=>?_) (fun hd=>?_)⟩
      · refine ⟨_,rfl,al,l2,rfl,hT3,_,_,rfl,rfl,_,rfl,ifD (fun hm=>?_) (fun hm=>?_)⟩
        · refine ⟨_,rfl,_,O.get 0,aU (by rw [List.length_map];omega),?_⟩
          walk_at "pt"
          refine ⟨trivial,_,_,rfl,?_⟩
          unfold iB
          rw [hl2]
          simp only [if_pos (And.intro hd hm)]
          rw [List.map_append];exact O
        · refine ⟨trivial,_,_,rfl,?_⟩
          unfold iB
          rw [hl2]
          simp only [if_neg (fun z:l2.day=l.day∧0<l2.most=>hm z.2),List.append_nil]
          exact O
      · refine ⟨trivial,_,_,rfl,?_⟩
        unfold iB
        rw [hl2]
        simp only [if_neg (fun z:l2.day=l.day∧0<l2.most=>hd z.1),List.append_nil]
        exact O
    rintro τ H5 ⟨-,v0,v1,rfl,O⟩
    rw [hul] at O
    refine ⟨_,rfl,_,rfl,szl,fun l0 hl0=>?_⟩
    walk_at "nw"
    refine ⟨lw,l0,iB ls l.day ls.length,[(n:Int)],rfl,rfl,O.sq 1,O.sq 0,?_⟩
    rw [if_neg Bool.false_ne_true]
    exact q _ O.same
end
abbrev dX:Stmt:=inClass (top 33) 8
theorem jN:aH ["self","number","holder","most","to","one"] ["self","number","holder","most","to"] (ak dX):=⟨rfl,rfl,rfl,by decide +kernel,rfl,by decide +kernel,by decide +kernel⟩
def sG (K:PySem.W.Frag) (T:fH) (C cY cT cA:Addr):Sp:=fun vs H Q E=>∃ (A:Rs) (H0:Hp) (B:List (Addr × HO)) (r:List Int) (day:Int) (us:List V) (ns:List Str) (ds:List V) (ls:List Lic) (n:Nat) (l:Lic) (x y:Str) (m:Int) (z:Str),vs=[.ref A.p,.int (n:Int),.str y,.int m,.str z] ∧
  Ow T H0 H (RL C A r day us ns ds++B)∧cW K H0 us (ls.map jA)∧ls[n]?=some l∧ns[n]?=some x∧ns.length≤900∧fu z∧ls.length<60∧ds.length≤9000 ∧
  (x≠y→∀ (e:Addr) (H':Hp),bf T H H'→H' e=none→E (.ref cY) (some e) H') ∧
  (x=y→¬ (1≤m∧m<l.most)→∀ (e:Addr) (H':Hp),bf T H H'→H' e=none→E (.ref cT) (some e) H') ∧
  (x=y→1≤m→m<l.most→iB ls l.day ls.length≠[(n:Int)]→∀ (e:Addr) (H':Hp),bf T H H'→H' e=none→E (.ref cA) (some e) H') ∧
  (x=y→1≤m→m<l.most→iB ls l.day ls.length=[(n:Int)]→∀ (t1 t2 t3:Addr) (H':Hp),Ow T H0 H' ((t3,.tup (mH (wm l m))) :: (t2,.tup [.str "part",.int (n:Int),.str y,.int m,.str z]) :: (t1,.tup (mH (wm l (l.most - m)))) :: (RL C A r day (us.set n (.ref t1)++[.ref t3]) (ns++[z]) (ds++[.ref t2])++B))→Q (.int us.length) H')
section
variable {P:Program} {w:World} {K:PySem.W.Frag} {mg:Str→Option Value} {base:Heap} {T:fH} {C f0:Addr}
theorem vX {f f1 f2 f3 f4 f5 f6 f7 cY cT cA:Addr} {fd fd1 fd2 fd3 fd4 fd5 fd6 fd7:FuncData} (D:Dm K C "part" "Roll.part" dX ["self","number","holder","most","to"] f fd) (B:Blt mg) (R_Roll:Cl K mg "Roll" C f0 fX) (X_TooMuch:rR K mg "TooMuch" cT) (X_NotAlone:rR K mg "NotAlone" cA)
    (aC:Dm K C "look_at_holder" "Roll.look_at_holder" aF ["self","number","holder"] f1 fd1) (aQ:bT P w K mg base (CXE P w) 2 f1 fd1 ["self","number","holder"] (gH K T C cY))
    (aG:Df K mg "look_at_name" bh ["name"] f2 fd2) (eE:bT P w K mg base CX0 2 f2 fd2 ["name"] (gO T))
    (cO:Df K mg "most_of" eY ["one"] f3 fd3) (jB:bT P w K mg base CX0 1 f3 fd3 ["one"] (pF K))
    (dZ:Dm K C "is_alone" "Roll.is_alone" bw ["self","number"] f4 fd4) (lG:bT P w K mg base CX0 2 f4 fd4 ["self","number"] (qF K T C))
    (aL:Dm K C "look_at_room" "Roll.look_at_room" aK ["self"] f5 fd5) (eF:bT P w K mg base CX0 1 f5 fd5 ["self"] (pC K C))
    (bx:Df K mg "with_most" dh ["one","most"] f6 fd6) (gV:bT P w K mg base CX0 1 f6 fd6 ["one","most"] (Fg K))
    (cR:Dm K C "enter" "Roll.enter" cJ ["self","one","holder"] f7 fd7) (iQ:bT P w K mg base CX0 1 f7 fd7 ["self","one","holder"] (mO C)) :
    bT P w K mg base (CXE P w) 3 f fd ["self","number","holder","most","to"] (sG K T C cY cT cA):=by
  have R:=R_Roll
  refine D.F.okX jN (fun vs H Q E h=>?_) (fun cdv A outer s H vs Q E hr h=>?_)
  · obtain ⟨_,_,_,_,_,_,_,_,_,_,_,_,_,_,_,rfl,_⟩:=h;rfl
  · obtain ⟨A,H0,L,r,day,us,ns,ds,ls,n,l,x,y,m,z,rfl,O,d0,hl,hx,nl,nz,l60,dl,qY,qT,qA,q⟩:=h
    have hul:us.length=ls.length:=by rw [d0.length,List.length_map]
    have hnl:=(List.getElem?_eq_some_iff.mp hl).1
    obtain ⟨al,hal,hT⟩:=d0.mq hl
    refine ⟨_,(au (bL (fJ (pv 0) R_Roll.c aC.m aQ (hr.mono (by decide)) aC.b .nil vI (aj (pv 1) (aj (pv 2) aA))))
      (au (bL (aR eE (hr.mono (by decide)) rfl aG.m aG.F.kp aG.b .nil bQ (aj (pv 4) aA)))
      (au (bK (i:=5) jN.nd rfl (Or.inl rfl) (bU aN (cV (pv 0) rfl) (pv 1) (fun _ _=>rfl)))
      (au (fD (eH (jw jV tZ aB (pv 3) (aR jB (hr.mono (by decide)) rfl cO.m cO.F.kp cO.b .nil bQ (aj (pv 5) aA))))
        (aD (j6 lD rfl (fun _ _ z=>z) rfl X_TooMuch.m X_TooMuch.q (aj gD aA)))
        bJ)
      (au (fD (eH (fL (fJ (pv 0) R_Roll.c dZ.m lG (hr.mono (by decide)) dZ.b .nil bQ (aj (pv 1) aA))))
        (aD (j6 lD rfl (fun _ _ z=>z) rfl X_NotAlone.m X_NotAlone.q (aj gD aA)))
        bJ)
      (au (bL (fj (pv 0) R_Roll.c aL.m eF (hr.mono (by decide)) aL.b .nil bQ))
      (au (jQ (aR gV (hr.mono (by decide)) rfl bx.m bx.F.kp bx.b .nil bQ (aj (pv 5) (aj (aV qH (aR jB (hr.mono (by decide)) rfl cO.m cO.F.kp cO.b .nil bQ (aj (pv 5) aA)) (pv 3)) aA))) (lX (cV (pv 0) rfl) (pv 1) set_list))
      (au (bL (jE PySem.F.plainAttrs_list PySem.F.slot_list_append PySem.F.type_list_append cM (cV (pv 0) rfl) (aj (gY (aj gD (aj (pv 1) (aj (pv 2) (aj (pv 3) (aj (pv 4) aA)))))) aA)))
      (aD (aW (fJ (pv 0) R_Roll.c cR.m iQ (hr.mono (by decide)) cR.b .nil bQ (aj (aR gV (hr.mono (by decide)) rfl bx.m bx.F.kp bx.b .nil bQ (aj (pv 5) (aj (pv 3) aA))) (aj (pv 4) aA))))))))))))),?_⟩
    refine ⟨_,rfl,A.p,A.dx,_,rfl,O.get 0,rfl,_,rfl,_,rfl,A,day,us,ns,n,x,y,rfl,O.get 0,O.sq 3,O.sq 4,by omega,hx,O.same.t1,fun hxy=>?_,fun hxy e H' s' he=>qY hxy e H' s' he⟩
    refine ⟨_,rfl,z,rfl,nz,O.same.t1,fun H2 s2=>?_⟩
    have O:=O.jJ s2
    refine ⟨_,rfl,A.p,C,A.dx,_,.ref A.ll,rfl,O.get 0,R.c,R.nL,rfl,_,rfl,A.ll,_,_,_,rfl,rfl,O.sq 3,fU hal,?_⟩
    refine ⟨_,rfl,?_⟩
    have hTm:=hT.mo O.same
    refine ⟨_,_,rfl,rfl,_,rfl,?_⟩
    refine ifD (fun h1=>?_) (fun h1=>?_)
    rotate_left
    · refine ⟨_,rfl,lM ⟨szl,fun e he=>?_⟩⟩
      exact qT hxy (fun z=>h1 z.1) e _ s2 he
    refine ⟨_,rfl,al,l,rfl,hTm,_,_,rfl,rfl,_,rfl,ifN (ifD (fun h2=>?_) (fun h2=>?_))⟩
    rotate_left
    · refine ⟨szl,fun e he=>?_⟩
      exact qT hxy (fun z=>h2 z.2) e _ s2 he
    refine ⟨_,rfl,A.p,A.dx,_,rfl,O.get 0,rfl,_,rfl,A,day,us,ls,n,l,rfl,O.get 0,O.sq 3,d0.mo O.same,hl,by omega,O.same.t1,fun H3 s3=>?_⟩
    have O:=O.jJ s3
    have hTm:=hT.mo O.same
    refine ⟨_,rfl,ifN (ifD (fun h3=>?_) (fun h3=>?_))⟩
    rotate_left
    · refine ⟨szl,fun e he=>?_⟩
      exact qA hxy h1 h2 h3 e _ (s2.trans s3) he
    refine ⟨_,rfl,A.p,A.dx,_,rfl,O.get 0,rfl,A,day,us,rfl,O.get 0,O.sq 3,by omega,?_⟩
    refine ⟨_,rfl,_,rfl,al,l,rfl,hTm,_,rfl,_,_,rfl,rfl,al,l,_,rfl,hTm,fun t1 ht1=>?_⟩
    walk_at "nw"
    refine ⟨_,rfl,A.p,C,A.dx,_,.ref A.ll,rfl,O.get 1,R.c,R.nL,rfl,_,rfl,?_⟩
    refine mj O 4 rfl (jF (by omega)) fun H6 O=>?_
    refine ⟨_,rfl,A.p,C,A.dx,_,.ref A.lo,rfl,O.get 1,R.c,R.nO,rfl,.inl ⟨rfl,_,O.sq 6⟩,_,rfl,_,rfl,_,rfl,_,rfl,szl,fun t2 ht2=>?_⟩
    walk_at "nw"
    refine ⟨A.lo,_,_,rfl,rfl,O.get 7,aU (by omega),?_⟩
    generalize hE:upd _ _ _=Hn
    have O:=Ow.lK O 7 rfl hE rfl
    clear hE
    refine ⟨_,rfl,A.p,A.dx,_,rfl,O.get 2,rfl,_,rfl,_,rfl,al,l,m,rfl,hT.mo O.same,fun t3 ht3=>?_⟩
    walk_at "nw"
    refine ⟨_,rfl,A,day,us.set n (.ref t1),ns.map V.str,.ref t3,.str z,rfl,O.get 3,O.get 6,O.get 7,by rw [List.length_set];omega,by rw [List.length_map];exact nl,O.ne 3 6,O.ne 3 7,O.ne 7 6,?_⟩
    have O:=(O.Gk 6 rfl (o':=.lst (us.set n (.ref t1)++[.ref t3])) rfl).Gk 7 rfl (o':=.lst (ns.map V.str++[.str z])) rfl
    rw [List.length_set]
    refine q hxy h1 h2 h3 t1 t2 t3 _ ?_
    simp only [RL,List.map_append,List.map_cons,List.map_nil];exact O
end
abbrev cX:Stmt:=top 28
theorem mR:aH ["one","start"] ["one","start"] (ak cX):=⟨rfl,rfl,rfl,by decide +kernel,rfl,by decide +kernel,by decide +kernel⟩
def wst (l:Lic) (s:Int):Lic:=⟨l.day,s,l.back,l.most⟩
def wY (K:PySem.W.Frag):Sp:=fun vs H Q _=>∃ (a:Addr) (l:Lic) (m:Int),vs=[.ref a,.int m]∧SqT K H a (mH l)∧∀ t,H t=none→Q (.ref t) (upd H t (.tup (mH (wst l m))))
theorem G3 {f:Addr} {fd:FuncData} (D:Df K mg "with_start" cX ["one","start"] f fd):bT P w K mg base CX0 1 f fd ["one","start"] (wY K):=by
  refine D.F.ok mR (fun vs H Q E h=>?_) (fun cdv A outer s H vs Q E hr h=>?_)
  · obtain ⟨_,_,_,rfl,_⟩:=h;rfl
  · obtain ⟨a,l,m,rfl,hT,q⟩:=h
    refine ⟨_,(aD (aW (gY (aj (bU iH (pv 0) aB (fun _ _=>rfl)) (aj (pv 1) (aj (bU iH (pv 0) aB (fun _ _=>rfl)) (aj (bU iH (pv 0) aB (fun _ _=>rfl)) aA))))))),?_⟩
    exact ⟨_,rfl,a,_,0,_,rfl,rfl,hT,rfl,_,rfl,_,rfl,a,_,2,_,rfl,rfl,hT,rfl,_,rfl,a,_,3,_,rfl,rfl,hT,rfl,szl,q⟩
abbrev bC:Stmt:=inClass (top 33) 11
theorem jD:aH ["self","number","start"] ["self","number","start"] (ak bC):=⟨rfl,rfl,rfl,by decide +kernel,rfl,by decide +kernel,by decide +kernel⟩
def kE:Sp:=fun vs H Q _=>∃ (p n s:V),vs=[p,n,s]∧Q .non H
section
variable {P:Program} {w:World} {K:PySem.W.Frag} {mg:Str→Option Value} {base:Heap} {C:Addr}
theorem oG {f:Addr} {fd:FuncData} (D:Dm K C "look_move" "Roll.look_move" bC ["self","number","start"] f fd):bT P w K mg base CX0 1 f fd ["self","number","start"] kE:=by
  refine D.F.ok jD (fun vs H Q E h=>?_) (fun cdv A outer s H vs Q E hr h=>?_)
  · obtain ⟨_,_,_,rfl,_⟩:=h;rfl
  · obtain ⟨_,_,_,rfl,q⟩:=h
    exact ⟨_,(aD (aW oE)),q⟩
end
abbrev dB:Stmt:=inClass (top 33) 10
theorem jO:aH ["self","number","holder","start","one"] ["self","number","holder","start"] (ak dB):=⟨rfl,rfl,rfl,by decide +kernel,rfl,by decide +kernel,by decide +kernel⟩
def pD (K:PySem.W.Frag) (T:fH) (C cY cL:Addr):Sp:=fun vs H Q E=>∃ (A:Rs) (H0:Hp) (B:List (Addr × HO)) (r:List Int) (day:Int) (us:List V) (ns:List Str) (ds:List V) (ls:List Lic) (n:Nat) (l:Lic) (x y:Str) (st:Int),vs=[.ref A.p,.int (n:Int),.str y,.int st] ∧
  Ow T H0 H (RL C A r day us ns ds++B)∧cW K H0 us (ls.map jA)∧ls[n]?=some l∧ns[n]?=some x∧Rv.lE r∧r.length≤40∧ds.length≤9000 ∧
  (x≠y→∀ (e:Addr) (H':Hp),bf T H H'→H' e=none→E (.ref cY) (some e) H') ∧
  (x=y→¬ rO r (wst l st)→∀ (e:Addr) (H':Hp),bf T H H'→H' e=none→E (.ref cL) (some e) H') ∧
  (x=y→rO r (wst l st)→∀ (t1 t2:Addr) (H':Hp),Ow T H0 H' ((t2,.tup [.str "move",.int (n:Int),.str y,.int st]) :: (t1,.tup (mH (wst l st))) :: (RL C A r day (us.set n (.ref t1)) ns (ds++[.ref t2])++B))→Q .non H')
section
variable {P:Program} {w:World} {K:PySem.W.Frag} {mg:Str→Option Value} {base:Heap} {T:fH} {C f0:Addr}
theorem vY {f f1 f2 f3 f4 cY cL:Addr} {fd fd1 fd2 fd3 fd4:FuncData} (D:Dm K C "move" "Roll.move" dB ["self","number","holder","start"] f fd) (B:Blt mg) (R_Roll:Cl K mg "Roll" C f0 fX) (X_NoLicence:rR K mg "NoLicence" cL)
    (aC:Dm K C "look_at_holder" "Roll.look_at_holder" aF ["self","number","holder"] f1 fd1) (aQ:bT P w K mg base (CXE P w) 2 f1 fd1 ["self","number","holder"] (gH K T C cY))
    (eN:Df K mg "with_start" cX ["one","start"] f2 fd2) (oZ:bT P w K mg base CX0 1 f2 fd2 ["one","start"] (wY K))
    (bM:Df K mg "is_licence" cF ["below","one"] f3 fd3) (iJ:bT P w K mg base CX0 2 f3 fd3 ["below","one"] (mL K T))
    (dO:Dm K C "look_move" "Roll.look_move" bC ["self","number","start"] f4 fd4) (jZ:bT P w K mg base CX0 1 f4 fd4 ["self","number","start"] kE):bT P w K mg base (CXE P w) 3 f fd ["self","number","holder","start"] (pD K T C cY cL):=by
  have R:=R_Roll
  refine D.F.okX jO (fun vs H Q E h=>?_) (fun cdv A outer s H vs Q E hr h=>?_)
  · obtain ⟨_,_,_,_,_,_,_,_,_,_,_,_,_,_,rfl,_⟩:=h;rfl
  · obtain ⟨A,H0,L,r,day,us,ns,ds,ls,n,l,x,y,st,rfl,O,d0,hl,hx,hR,r40,dl,qY,qL,q⟩:=h
    have hul:us.length=ls.length:=by rw [d0.length,List.length_map]
    have hnl:=(List.getElem?_eq_some_iff.mp hl).1
    obtain ⟨al,hal,hT⟩:=d0.mq hl
    have sA:=bf.refl O.same.t1
    refine ⟨_,(au (bL (fJ (pv 0) R_Roll.c aC.m aQ (hr.mono (by decide)) aC.b .nil vI (aj (pv 1) (aj (pv 2) aA))))
      (au (bK (i:=4) jO.nd rfl (Or.inl rfl) (aR oZ (hr.mono (by decide)) rfl eN.m eN.F.kp eN.b .nil bQ (aj (bU aN (cV (pv 0) rfl) (pv 1) (fun _ _=>rfl)) (aj (pv 3) aA))))
      (au (fD (eH (fL (aR iJ (hr.mono (by decide)) rfl bM.m bM.F.kp bM.b .nil bQ (aj (cV (pv 0) rfl) (aj (pv 4) aA)))))
        (aD (j6 lD rfl (fun _ _ z=>z) rfl X_NoLicence.m X_NoLicence.q (aj gD aA)))
        bJ)
      (au (bL (fJ (pv 0) R_Roll.c dO.m jZ (hr.mono (by decide)) dO.b .nil bQ (aj (pv 1) (aj (pv 3) aA))))
      (au (jQ (pv 4) (lX (cV (pv 0) rfl) (pv 1) set_list))
      (aD (bL (jE PySem.F.plainAttrs_list PySem.F.slot_list_append PySem.F.type_list_append cM (cV (pv 0) rfl) (aj (gY (aj gD (aj (pv 1) (aj (pv 2) (aj (pv 3) aA))))) aA))))))))),?_⟩
    refine ⟨_,rfl,A.p,A.dx,_,rfl,O.get 0,rfl,_,rfl,_,rfl,A,day,us,ns,n,x,y,rfl,O.get 0,O.sq 3,O.sq 4,by omega,hx,O.same.t1,fun hxy=>?_,fun hxy e H' s' he=>qY hxy e H' s' he⟩
    refine ⟨_,rfl,A.p,C,A.dx,_,.ref A.ll,rfl,O.get 0,R.c,R.nL,rfl,_,rfl,A.ll,_,_,_,rfl,rfl,O.sq 3,fU hal,_,rfl,al,l,st,rfl,hT.mo O.same,fun t1 ht1=>?_⟩
    have sA:=sA.upd (o':=.tup (mH (wst l st))) ht1 (.inl ht1)
    have O:=O.mk' ht1 (o:=.tup (mH (wst l st))) rfl
    refine ⟨_,rfl,A.p,C,A.dx,_,.ref A.lb,rfl,O.get 1,R.c,R.nB,rfl,_,rfl,A.lb,t1,r,wst l st,rfl,O.sq 3,hR,by omega,O.sqT 0,O.same.t1,fun b H2 s2 hb2=>?_⟩
    have O:=O.jJ s2
    have sA:=sA.trans s2
    refine ⟨_,rfl,?_⟩
    cases b with
    | false =>
      refine lM ⟨szl,fun e he=>?_⟩
      exact qL hxy (fun h=>nomatch hb2.mpr h) e _ sA he
    | true =>
      refine jG ?_
      refine ⟨_,rfl,A.p,A.dx,_,rfl,O.get 1,rfl,_,rfl,_,rfl,_,_,_,rfl,?_⟩
      refine ⟨_,rfl,_,rfl,A.p,C,A.dx,_,.ref A.ll,rfl,O.get 1,R.c,R.nL,rfl,_,rfl,?_⟩
      refine mj O 4 rfl (jF (by omega)) fun H6 O=>?_
      refine ⟨_,rfl,A.p,C,A.dx,_,.ref A.lo,rfl,O.get 1,R.c,R.nO,rfl,.inl ⟨rfl,_,O.sq 6⟩,_,rfl,_,rfl,_,rfl,szl,fun t2 ht2=>?_⟩
      walk_at "nw"
      refine ⟨A.lo,_,_,rfl,rfl,O.get 7,aU (by omega),?_⟩
      generalize hE:upd _ _ _=Hn
      have O:=Ow.lK O 7 rfl hE rfl
      clear hE
      exact q hxy (hb2.mp rfl) t1 t2 _ O
end
abbrev dg:Stmt:=inClass (top 33) 1
theorem mW:aH ["self"] ["self"] (ak dg):=⟨rfl,rfl,rfl,by decide +kernel,rfl,by decide +kernel,by decide +kernel⟩
def qu (C:Addr):Sp:=fun vs H Q _=>∃ (A:Rs) (day:Int),vs=[.ref A.p]∧H A.p=some (wD C A day)∧Q (.int day) H
section
variable {P:Program} {w:World} {K:PySem.W.Frag} {mg:Str→Option Value} {base:Heap} {C f0:Addr}
theorem ug {f:Addr} {fd:FuncData} (D:Dm K C "today" "Roll.today" dg ["self"] f fd) (R:Cl K mg "Roll" C f0 fX):bT P w K mg base CX0 1 f fd ["self"] (qu C):=by
  refine D.F.ok mW (fun vs H Q E h=>?_) (fun cdv A outer s H vs Q E hr h=>?_)
  · obtain ⟨_,_,rfl,_⟩:=h;rfl
  · obtain ⟨A,day,rfl,hp,q⟩:=h
    refine ⟨_,(aD (aW (cV (pv 0) rfl))),?_⟩
    exact ⟨_,rfl,A.p,C,A.dx,_,.int day,rfl,hp,R.c,R.nD,rfl,q⟩
end
theorem xM (K:PySem.W.Frag):PySem.W.kitOne K (.type "tuple") (.type "tuple")=some true:=by rfl
abbrev aO:Stmt:=top 40
theorem gk:aH ["found","due","one"] ["found","due"] (ak aO):=⟨rfl,rfl,rfl,by decide +kernel,rfl,by decide +kernel,by decide +kernel⟩
def xu (K:PySem.W.Frag) (T:fH):Sp:=fun vs H Q _=>∃ (a b:Addr) (us ws:List V) (rows:List (List Int)),vs=[.ref a,.ref b]∧H a=some (.lst us)∧SqL K H b ws∧cW K H us (rows.map dTup)∧cW K H ws (rows.map dTup)∧(∀ x∈rows,x.length=4)∧TabsOk T H ∧
  ∀ H',bf T H H'→Q (.bl true) H'
theorem Hf {f f1:Addr} {fd fd1:FuncData} (D:Df K mg "_law_alike_lines" aO ["found","due"] f fd) (B:Blt mg)
    (bN:Df K mg "_law_whole" cG ["found"] f1 fd1) (iK:bT P w K mg base CX0 1 f1 fd1 ["found"] mK):bT P w K mg base CX0 2 f fd ["found","due"] (xu K T):=by
  refine D.F.ok gk (fun vs H Q E h=>?_) (fun cdv A outer s H vs Q E hr h=>?_)
  · obtain ⟨_,_,_,_,_,rfl,_⟩:=h;rfl
  · obtain ⟨a,b,us,ws,rows,rfl,hA,hB,d1,d2,hm,tk,q⟩:=h
    have hu:=hr.units
    have O:=Ow.refl tk
    refine ⟨_,(au (fD (PW.pt (pw_or (eH (fL (aX gq rfl B.isinstance PyProof.Rows.boot_isinstance (aj (pv 0) (aj (jh (v:=.ty "list") rfl B.list PyProof.Rows.boot_list rfl) aA))))) (pw_or1 (bD rH (aX aZ rfl B.len PySem.boot_len (aj (pv 0) aA)) (aX aZ rfl B.len PySem.boot_len (aj (pv 1) aA)) (cj _)))))
        (aD (aW ji))
        bJ)
      (au (qG PassesOwn.never rfl (mZ (pv 0)) (cu (i:=2) gk.nd rfl (Or.inl rfl))
        (au (fD (PW.pt (pw_or (eH (fL (aX oR rfl B.isinstance PyProof.Rows.boot_isinstance (aj (pv 2) (aj (jh (v:=.ty "tuple") rfl B.tuple PyProof.Rows.boot_tuple rfl) aA))))) (pw_or1 (bD rH (aX aZ rfl B.len PySem.boot_len (aj (pv 2) aA)) aB (cj _)))))
          (aD (aW ji))
          bJ)
        (aD (fD (bD (xJ hu) (gR (ak aO) rfl ["found","due","one"] rfl ["part"] [none] (by decide +kernel) (by decide +kernel) (by decide +kernel) rfl (GJ (pv 2)) (fun _ _ _=>(cu (i:=0) (show (["part"]:List Str).Nodup by decide +kernel) rfl (Or.inl rfl))) (fun _ _ _=>(pK (eH (fL (aR iK (hr.mono (by decide)) rfl bN.m bN.F.kp bN.b .nil bQ (aj (pv 0) aA)))))) (fun _ _ _=>(pv 0))) (gZ aA) (cj _))
          (aD (aW ji))
          bJ))))
      (aD (aW (jg (qI hu) (pv 0) (pv 1) (cj _)))))),?_⟩
    have hul:us.length=ws.length:=by rw [d1.length,d2.length]
    refine ⟨_,rfl,_,_,_,true,rfl,.lst hA,uD K,_,rfl,jG ?_⟩
    refine ⟨_,rfl,a,_,rfl,.inl (SqL.of hA),_,rfl,b,_,rfl,.inl hB,rfl,_,rfl,ifN (ifI (fun _=>?_) fun hc=>absurd (by rw [hul]) hc)⟩
    refine ⟨_,rfl,a,rfl,⟨_,SqL.of hA⟩,?_⟩
    refine qP (K:=K) (xs:=us) (fun i σ H'=>Iv (∃ (v3:Option V),σ=[some (.ref a),some (.ref b),v3]∧Ow T H H' [])) ⟨trivial,none,rfl,O⟩ (fun i σ H' _ ⟨_,_,_,O⟩=>(SqL.of hA).mo O.same) ?_ ?_
    · rintro i y σ H4 hy ⟨-,v3,rfl,O⟩
      obtain ⟨d,hd,hden⟩:=d1.get' hy
      rw [List.getElem?_map] at hd
      obtain ⟨x,hx,rfl⟩:=Option.map_eq_some_iff.mp hd
      obtain ⟨t,rfl,hT0⟩:=hden.sy
      have hxm:=hm x (List.mem_of_getElem? hx)
      have hT:=hT0.mo O.same
      refine ⟨_,rfl,t,_,_,true,rfl,hT,xM K,_,rfl,jG ?_⟩
      refine ⟨_,rfl,t,_,rfl,.inr hT,rfl,_,rfl,ifN (ifI (fun _=>?_) fun hc=>absurd (by rw [List.length_map,hxm];rfl) hc)⟩
      refine ⟨_,rfl,t,rfl,⟨_,hT⟩,fun lw hlw=>?_⟩
      refine wM (K:=K) (xs:=x.map V.int) (fun i τ H'=>Iv (∃ (v0:Option V),τ=[v0]∧Ow T H H' [(lw,.lst (([]:List Int).map V.int))])) ⟨trivial,none,rfl,O.mk' hlw rfl⟩ (fun i τ H' _ ⟨_,_,_,O2⟩=>hT0.mo O2.same) ?_ ?_
      · rintro j y τ H5 hy ⟨-,v0,rfl,O⟩
        obtain ⟨z,hz,rfl⟩:=ints_get hy
        exact ⟨_,rfl,z,rfl,_,rfl,jG ⟨trivial,_,rfl,O⟩⟩
      rintro τ H5 ⟨-,v0,rfl,O⟩
      refine ⟨szl,fun l0 hl0=>?_⟩
      walk_at "nw"
      refine ⟨lw,l0,[],[],rfl,rfl,O.sq 1,O.sq 0,_,rfl,?_⟩
      refine jG ?_
      exact ⟨trivial,_,rfl,O.tail.tail⟩
    rintro σ H4 ⟨-,v3,rfl,O⟩
    have hsh:Sh 2 (.list (rows.map dTup)):=Sh.tups 0 rows
    refine ⟨_,rfl,_,rfl,_,_,.list ((SqL.of hA).mo O.same) (d1.mo O.same),.list (hB.mo O.same) (d2.mo O.same),hsh.ok (by decide),hsh.ok (by decide),?_⟩
    rw [if_neg Bool.false_ne_true,j9 hsh]
    exact q _ O.same
theorem Ho (K:PySem.W.Frag):PySem.W.kitOne K (.type "str") (.type "str")=some true:=by rfl
theorem cW.strs {K:PySem.W.Frag} {H:Hp}:∀ ns:List Str,cW K H (ns.map V.str) (ns.map PyData.str)
  | []=>.nil
  | x :: ns=>.cons (.str x) (cW.strs ns)
theorem Fz {x:Str} (h:fu x) (n:Nat):Sh n (.str x):=by
  refine ⟨?_,by simp [PyData.depth]⟩
  rw [PyData.canLay0]
  show x.cps.all (·<0x110000)=true
  rw [Array.all_eq_true]
  intro i hi
  have:=h.2.2 _ (Array.getElem_mem_toList hi)
  exact decide_eq_true (by omega)
theorem wk {ns:List Str} (h:∀ x∈ns,fu x):Sh 1 (.list (ns.map PyData.str)):=.list fun d hd=>by
  obtain ⟨x,hx,rfl⟩:=List.mem_map.mp hd
  exact Fz (h x hx) 0
def fW (n:Nat):List Int:=(List.range n).map fun (k:Nat)=>(k:Int) - 1
theorem j5 (n:Nat):(fW n).length=n:=by unfold fW;simp
theorem Fl {n i:Nat} {x:Int} (h:(fW n)[i]?=some x):i<n∧x=(i:Int) - 1:=by
  unfold fW at h
  rw [List.getElem?_map] at h
  rcases Nat.lt_or_ge i n with hi | hi
  · rw [List.getElem?_range hi] at h
    exact ⟨hi,(Option.some.inj h).symm⟩
  · rw [List.getElem?_eq_none (by simpa using hi)] at h;cases h
theorem lW (n:Nat):Rv.lE (fW n):=by
  refine ⟨fun i=>i,fun i hi=>hi,fun i x h=>?_⟩
  obtain ⟨h1,rfl⟩:=Fl h
  rw [j5]
  rcases Nat.eq_zero_or_pos i with e | e
  · left;omega
  · right;exact ⟨by omega,by omega,by show ((i:Int) - 1).toNat<i;omega⟩
theorem tE (n:Nat):fW (n + 1)=fW n++[(n:Int) - 1]:=by unfold fW;rw [List.range_succ,List.map_append];rfl
theorem lV {r:List Int} {rk:Nat→Nat} (h3:∀ (i:Nat) (x:Int),r[i]?=some x→x=-1∨(0≤x∧x<r.length∧rk x.toNat<rk i)):∀ (f:Nat) (p:Int),0≤p→p<r.length→rk p.toNat<f→Rv.jC r f p=-1
  | 0,p,_,_,h=>absurd h (Nat.not_lt_zero _)
  | f + 1,p,h0,h1,h=>by
    show Rv.jC r f (Rv.stp r p)=-1
    unfold Rv.stp
    rw [if_neg (by omega)]
    rcases h3 _ _ (Rv.jk h0 h1) with e | ⟨a,b,c⟩
    · rw [e];exact Rv.qm r f
    · exact lV h3 f _ a b (by omega)
theorem tu {r:List Int} (hR:Rv.lE r) (h1:1≤r.length) (h2:r.length≤40):Rv.isR r=true:=by
  obtain ⟨rk,k1,k2⟩:=hR
  have hB:Rv.inB r:=fun x hx=>by
    obtain ⟨i,hi⟩:=List.getElem?_of_mem hx
    rcases k2 i x hi with e | ⟨a,b,_⟩ <;> omega
  unfold Rv.isR
  rw [decide_eq_true (⟨h1,h2⟩:1≤r.length∧r.length≤40),decide_eq_true hB,decide_eq_true (fun i hi=>lV k2 _ _ (by omega) (by omega) (by rw [Int.toNat_natCast];exact k1 i hi))]
  rfl
theorem qQ (z:Array Nat):∀ (n:Nat) (acc:Array Nat),((List.replicate n z).foldl (·++·) acc).toList=acc.toList++(List.replicate n z.toList).flatten
  | 0,acc=>by simp
  | n + 1,acc=>by
    rw [List.replicate_succ,List.foldl_cons,qQ z n,List.replicate_succ,List.flatten_cons]
    simp
theorem mul_one (c:Nat) {n:Int} (h:0≤n):(Txt.mul (⟨#[c]⟩:Str) n).cps.toList=List.replicate n.toNat c:=by
  unfold Txt.mul
  by_cases h1:n<1
  · rw [if_pos h1,show n.toNat=0 by omega];rfl
  · rw [if_neg h1]
    by_cases h2:n=1
    · subst h2;rfl
    · rw [if_neg (by
        simp only [Bool.or_eq_true,beq_iff_eq,not_or]
        exact ⟨h2,fun h=>nomatch h⟩)]
      show ((List.replicate n.toNat (#[c]:Array Nat)).foldl (·++·) #[]).toList=_
      rw [qQ]
      simp
theorem u6 (x y:Str):(x++y).cps.toList=x.cps.toList++y.cps.toList:=by
  show (x.cps++y.cps).toList=_
  simp
theorem uq {x:Str} (h1:1≤x.cps.toList.length) (h8:x.cps.toList.length≤8) (h:∀ c∈x.cps.toList,97≤c∧c≤122):fu x:=⟨by simpa using h1,by simpa using h8,h⟩
theorem getD_in {ns:List Int} {j:Nat} (h:j<ns.length):ns.getD j 0∈ns:=by
  rw [List.getD_eq_getElem?_getD,List.getElem?_eq_getElem h];exact List.getElem_mem h
theorem u9 {i:Int} (h0:0≤i) (h1:i<25):∃ c,("acdefghijklmnopqrstuvwxyz":Str).cps[i.toNat]?=some c∧97≤c∧c≤122:=by
  have h:∀ k:Fin 25,(match ("acdefghijklmnopqrstuvwxyz":Str).cps[k.val]? with | some c=>decide (97≤c∧c≤122) | none=>false)=true:=by decide +kernel
  have:=h ⟨i.toNat,by omega⟩
  cases e:("acdefghijklmnopqrstuvwxyz":Str).cps[i.toNat]? with
  | none=>rw [e] at this;cases this
  | some c=>rw [e] at this;exact ⟨c,rfl,of_decide_eq_true this⟩
theorem Hg {n:Int} (h:0≤n):(Txt.mul ("b":Str) n).cps.toList=List.replicate n.toNat 98:=mul_one 98 h
def Low (x:Str):Prop:=∀ c∈x.cps.toList,97≤c∧c≤122
theorem Hl {n:Int} (h:0≤n):Low (Txt.mul ("b":Str) n):=fun c hc=>by
  rw [Hg h] at hc
  rw [List.eq_of_mem_replicate hc];decide
theorem wA {n:Int} (h:0≤n):(Txt.mul ("b":Str) n).cps.toList.length=n.toNat:=by rw [Hg h,List.length_replicate]
theorem pU {c:Nat} (h:97≤c∧c≤122):Low (⟨#[c]⟩:Str):=fun d hd=>by
  have:d=c:=by simpa using hd
  rw [this];exact h
theorem pW {x y:Str} (h:Low x) (h':Low y):Low (x++y):=fun c hc=>by
  rw [u6] at hc
  rcases List.mem_append.mp hc with e | e
  · exact h c e
  · exact h' c e
theorem uw {x:Str} {lo hi:Option Int} (h:Low x):Low (Txt.slice x lo hi):=fun c hc=>h c (sO hc)
theorem len_app (x y:Str):(x++y).cps.toList.length=x.cps.toList.length + y.cps.toList.length:=by rw [u6,List.length_append]
theorem m8 (x:Str):x.cps.toList.length=x.length:=by show _=x.cps.size;simp
abbrev bY:Stmt:=top 39
theorem gQ:aH ["xs","some","stem"] ["xs"] (ak bY):=⟨rfl,rfl,rfl,by decide +kernel,rfl,by decide +kernel,by decide +kernel⟩
def qy (K:PySem.W.Frag) (T:fH):Sp:=fun vs H Q _=>∃ (a:Addr) (ys:List Int),vs=[.ref a]∧SqL K H a (ys.map V.int)∧ys.length=12∧TabsOk T H∧wR T H (fun xs=>∃ ns:List Str,xs=ns.map V.str∧ns.length=3∧∀ x∈ns,fu x) Q
theorem vN {f:Addr} {fd:FuncData} (D:Df K mg "_law_names" bY ["xs"] f fd) (B:Blt mg):bT P w K mg base CX0 1 f fd ["xs"] (qy K T):=by
  refine D.F.ok gQ (fun vs H Q E h=>?_) (fun cdv A outer s H vs Q E hr h=>?_)
  · obtain ⟨_,_,rfl,_⟩:=h;rfl
  · obtain ⟨a,ys,rfl,hA,y12,tk,q⟩:=h
    have O:=Ow.refl tk
    have g:∀ k:Nat,k<12→ys[k]?=some (ys.getD k 0):=fun k hk=>jz (by omega)
    refine ⟨_,(au (bK (i:=1) gQ.nd rfl (Or.inr rfl) gD)
      (au (bK (i:=2) gQ.nd rfl (Or.inr rfl) (aV iT (jf (pv 1) (aV dN (bU aN (pv 0) aB (fun _ _=>rfl)) aB) (fun _ _=>rfl)) (aV tY gD (aV dN (bU aN (pv 0) aB (fun _ _=>rfl)) aB))))
      (au (fD (bD jW (aV dN (bU aN (pv 0) aB (fun _ _=>rfl)) aB) aB (cj _))
        (aD (aW (gR (ak bY) rfl ["xs","some","stem"] rfl ["k","stem","some","xs"] [none,some 2,some 1,some 0] (by decide +kernel) (by decide +kernel) (by decide +kernel) rfl (gn rfl B.range (aj aB aA)) (fun _ _ _=>(cu (i:=0) (show (["k","stem","some","xs"]:List Str).Nodup by decide +kernel) rfl (Or.inl rfl))) (fun _ _ _=>je) (fun _ _ _=>(aV iT (m5 Gz (pv 1) tK (mY (tV nH aB))) (jf (pv 2) (aV dN (aV fG (bU (m9 (K:=K) rfl) (pv 3) aB (fun _ _=>rfl)) (pv 0)) aB) (fun _ _=>rfl)))))))
        bJ)
      (aD (aW (gR (ak bY) rfl ["xs","some","stem"] rfl ["k","some","xs"] [none,some 1,some 0] (by decide +kernel) (by decide +kernel) (by decide +kernel) rfl (gn rfl B.range (aj aB aA)) (fun _ _ _=>(cu (i:=0) (show (["k","some","xs"]:List Str).Nodup by decide +kernel) rfl (Or.inl rfl))) (fun _ _ _=>je) (fun _ _ _=>(aV iT (jf (pv 1) (aV dN (aV fG (bU (m9 (K:=K) rfl) (pv 2) aB (fun _ _=>rfl)) (pv 0)) aB) (fun _ _=>rfl)) (aV tY gD (aV dN (aV gU (bU (m9 (K:=K) rfl) (pv 2) aB (fun _ _=>rfl)) (aV fG (pv 0) aB)) aB)))))))))),?_⟩
    have p0:=Int.emod_nonneg (ys.getD 0 0) (show (25:Int)≠0 by decide)
    have p1:=Int.emod_lt_of_pos (ys.getD 0 0) (show (0:Int)<25 by decide)
    have b0:=Int.emod_nonneg (ys.getD 1 0) (show (7:Int)≠0 by decide)
    have b1:=Int.emod_lt_of_pos (ys.getD 1 0) (show (0:Int)<7 by decide)
    obtain ⟨c,hc,hcl⟩:=u9 p0 p1
    refine ⟨_,rfl,_,rfl,a,_,0,_,rfl,rfl,hA,bV (i:=0) (g 0 (by decide)),_,_,rfl,rfl,(by show (0:Int)<25;decide),_,_,_,rfl,rfl,p0,(by show ys.getD 0 0 % 25<2 ^ 63;omega),p1,hc,?_⟩
    have lb:=wA b0
    rw [m8] at lb
    refine ⟨_,rfl,a,_,1,_,rfl,rfl,hA,bV (i:=1) (g 1 (by decide)),_,_,rfl,rfl,(by show (0:Int)<7;decide),_,_,rfl,rfl,b0,(by show ys.getD 1 0 % 7≤64;omega),(by show 1≤64;decide),_,_,rfl,rfl,(by show 1 + (Txt.mul ("b":Str) (ys.getD 1 0 % 7)).length≤sizeLine;rw [sizeLine_eq];omega),?_⟩
    have sl:Low ((⟨#[c]⟩:Str)++Txt.mul ("b":Str) (ys.getD 1 0 % 7)):=pW (pU hcl) (Hl b0)
    have sn:((⟨#[c]⟩:Str)++Txt.mul ("b":Str) (ys.getD 1 0 % 7)).length≤7:=by
      rw [← m8,len_app,wA b0]
      show 1 + _≤7
      omega
    dsimp only
    generalize (⟨#[c]⟩:Str)++Txt.mul ("b":Str) (ys.getD 1 0 % 7)=stem at sl sn
    clear hc hcl p0 p1 b0 b1 lb
    refine ⟨_,rfl,a,_,2,_,rfl,rfl,hA,bV (i:=2) (g 2 (by decide)),_,_,rfl,rfl,(by show (0:Int)<2;decide),rfl,_,rfl,ifI (fun _=>?_) (fun _=>?_)⟩
    · refine ⟨3,rfl,by decide,by decide,fun lw hlw=>?_⟩
      refine gJ (fun i τ H'=>Iv (∃ (v0:Option V) (ns:List Str),τ=[v0,some (.str stem),some (.str "acdefghijklmnopqrstuvwxyz"),some (.ref a)]∧Ow T H H' [(lw,.lst (ns.map V.str))]∧ns.length=i∧∀ x∈ns,fu x)) ⟨trivial,none,[],rfl,O.mk' hlw rfl,rfl,fun x hx=>nomatch hx⟩ ?_ ?_
      · rintro i τ H4 hi ⟨-,v0,ns,rfl,O,hns,hnm⟩
        have hi:i<3:=hi
        rw [Int.zero_add]
        have p0:=Int.emod_nonneg (ys.getD 3 0 + (i:Int)) (show (25:Int)≠0 by decide)
        have p1:=Int.emod_lt_of_pos (ys.getD 3 0 + (i:Int)) (show (0:Int)<25 by decide)
        obtain ⟨c,hc,hcl⟩:=u9 p0 p1
        have hsl:=Txt.slice_le stem none (some (-1))
        refine Eu ?_
        refine ⟨_,rfl,1,rfl,_,rfl,_,rfl,by omega,?_⟩
        refine ⟨_,rfl,_,rfl,a,_,3,_,rfl,rfl,hA.mo O.same,bV (i:=3) (g 3 (by decide)),_,rfl,_,_,rfl,rfl,_,_,rfl,rfl,(by show (0:Int)<25;decide),_,_,_,rfl,rfl,p0,(by show (ys.getD 3 0 + (i:Int)) % 25<2 ^ 63;omega),p1,hc,_,_,rfl,rfl,(by show (Txt.slice stem none (some (-1))).length + 1≤sizeLine;rw [sizeLine_eq];omega),?_⟩
        refine ⟨_,O.get 0,aU (by rw [List.length_map];omega),?_⟩
        walk_at "pt"
        refine ⟨trivial,_,ns++[Txt.slice stem none (some (-1))++(⟨#[c]⟩:Str)],rfl,?_,by rw [List.length_append,hns];rfl,?_⟩
        · rw [List.map_append];exact O
        · intro x hx
          rcases List.mem_append.mp hx with e | e
          · exact hnm x e
          · rw [List.mem_singleton.mp e]
            refine uq ?_ ?_ (pW (uw sl) (pU hcl))
            · rw [len_app];show 1≤_ + 1;omega
            · rw [len_app,m8];show _ + 1≤8;omega
      rintro τ H4 ⟨-,v0,ns,rfl,O,hns,hnm⟩
      exact O.ret 0 rfl q ⟨ns,rfl,hns,hnm⟩
    · refine ⟨3,rfl,by decide,by decide,fun lw hlw=>?_⟩
      refine gJ (fun i τ H'=>Iv (∃ (v0:Option V) (ns:List Str),τ=[v0,some (.str "acdefghijklmnopqrstuvwxyz"),some (.ref a)]∧Ow T H H' [(lw,.lst (ns.map V.str))]∧ns.length=i∧∀ x∈ns,fu x)) ⟨trivial,none,[],rfl,O.mk' hlw rfl,rfl,fun x hx=>nomatch hx⟩ ?_ ?_
      · rintro i τ H4 hi ⟨-,v0,ns,rfl,O,hns,hnm⟩
        have hi:i<3:=hi
        rw [Int.zero_add]
        have p0:=Int.emod_nonneg (ys.getD 3 0 + (i:Int)) (show (25:Int)≠0 by decide)
        have p1:=Int.emod_lt_of_pos (ys.getD 3 0 + (i:Int)) (show (0:Int)<25 by decide)
        have b0:=Int.emod_nonneg (ys.getD 4 0 / ((i:Int) + 1)) (show (8:Int)≠0 by decide)
        have b1:=Int.emod_lt_of_pos (ys.getD 4 0 / ((i:Int) + 1)) (show (0:Int)<8 by decide)
        obtain ⟨c,hc,hcl⟩:=u9 p0 p1
        have lb:=wA b0
        rw [m8] at lb
        refine Eu ?_
        refine ⟨_,rfl,_,rfl,a,_,3,_,rfl,rfl,hA.mo O.same,bV (i:=3) (g 3 (by decide)),_,rfl,_,_,rfl,rfl,_,_,rfl,rfl,(by show (0:Int)<25;decide),_,_,_,rfl,rfl,p0,(by show (ys.getD 3 0 + (i:Int)) % 25<2 ^ 63;omega),p1,hc,?_⟩
        refine ⟨_,rfl,a,_,4,_,rfl,rfl,hA.mo O.same,bV (i:=4) (g 4 (by decide)),_,rfl,_,_,rfl,rfl,_,_,rfl,rfl,⟨by show (0:Int)<(i:Int) + 1;omega,by show (i:Int) + 1<1073741824;omega⟩,_,_,rfl,rfl,(by show (0:Int)<8;decide),_,_,rfl,rfl,b0,(by show ys.getD 4 0 / ((i:Int) + 1) % 8≤64;omega),(by show 1≤64;decide),_,_,rfl,rfl,(by show 1 + (Txt.mul ("b":Str) (ys.getD 4 0 / ((i:Int) + 1) % 8)).length≤sizeLine;rw [sizeLine_eq];omega),?_⟩
        refine ⟨_,O.get 0,aU (by rw [List.length_map];omega),?_⟩
        walk_at "pt"
        refine ⟨trivial,_,ns++[(⟨#[c]⟩:Str)++Txt.mul ("b":Str) (ys.getD 4 0 / ((i:Int) + 1) % 8)],rfl,?_,by rw [List.length_append,hns];rfl,?_⟩
        · rw [List.map_append];exact O
        · intro x hx
          rcases List.mem_append.mp hx with e | e
          · exact hnm x e
          · rw [List.mem_singleton.mp e]
            refine uq ?_ ?_ (pW (pU hcl) (Hl b0))
            · rw [len_app];show 1≤1 + _;omega
            · rw [len_app,wA b0];show 1 + _≤8;omega
      rintro τ H4 ⟨-,v0,ns,rfl,O,hns,hnm⟩
      exact O.ret 0 rfl q ⟨ns,rfl,hns,hnm⟩
structure Et (K:PySem.W.Frag) (cY cS cN:Addr):Prop where
  mS:PySem.W.exmOne K (.ref cY) (.ref cS)=some true
  kN:PySem.W.kitOne K (.ref cY) (.ref cN)=some false
  kY:PySem.W.kitOne K (.ref cY) (.ref cY)=some true
  kV:PySem.W.kitOne K (.ref cY) (.type "ValueError")=some true
abbrev bB:Stmt:=top 42
theorem d9:aH ["one","number","name","to","bit","caught","e"] ["one","number","name","to","bit"] (ak bB):=⟨rfl,rfl,rfl,by decide +kernel,rfl,by decide +kernel,by decide +kernel⟩
def w5 (K:PySem.W.Frag) (T:fH) (C:Addr):Sp:=fun vs H Q _=>∃ (A:Rs) (H0:Hp) (B:List (Addr × HO)) (r:List Int) (day:Int) (us:List V) (ns:List Str) (ds:List V) (ls:List Lic) (n:Nat) (l:Lic) (x y z:Str) (bit:Int),vs=[.ref A.p,.int (n:Int),.str y,.str z,.int bit] ∧
  Ow T H0 H (RL C A r day us ns ds++B)∧cW K H0 us (ls.map jA)∧ls[n]?=some l∧ns[n]?=some x∧ns.length=ls.length∧fu z∧ls.length<60∧ds.length≤9000∧Rv.lE r∧r.length≤40∧x≠y∧∀ H',bf T H H'→Q (.bl true) H'
section
variable {P:Program} {w:World} {K:PySem.W.Frag} {mg:Str→Option Value} {base:Heap} {T:fH} {C f0:Addr}
theorem G5 {f f1 f2 f3 f4 cY cT cA cL cS cN:Addr} {fd fd1 fd2 fd3 fd4:FuncData} (D:Df K mg "_law_not_yours" bB ["one","number","name","to","bit"] f fd) (B:Blt mg) (R_Roll:Cl K mg "Roll" C f0 fX) (X_NotYours:rR K mg "NotYours" cY) (X_SluiceError:rR K mg "SluiceError" cS) (X_NoNumber:rR K mg "NoNumber" cN) (TT:Et K cY cS cN)
    (dM:Dm K C "drop" "Roll.drop" dD ["self","number","holder"] f1 fd1) (jq:bT P w K mg base (CXE P w) 3 f1 fd1 ["self","number","holder"] (pG K T C cY))
    (dI:Dm K C "sell" "Roll.sell" dw ["self","number","holder","to"] f2 fd2) (jm:bT P w K mg base (CXE P w) 3 f2 fd2 ["self","number","holder","to"] (pB K T C cY))
    (dJ:Dm K C "move" "Roll.move" dB ["self","number","holder","start"] f3 fd3) (jo:bT P w K mg base (CXE P w) 3 f3 fd3 ["self","number","holder","start"] (pD K T C cY cL))
    (gA:Dm K C "part" "Roll.part" dX ["self","number","holder","most","to"] f4 fd4) (qg:bT P w K mg base (CXE P w) 3 f4 fd4 ["self","number","holder","most","to"] (sG K T C cY cT cA)) :
    bT P w K mg base CX0 4 f fd ["one","number","name","to","bit"] (w5 K T C):=by
  refine D.F.ok d9 (fun vs H Q E h=>?_) (fun cdv A outer s H vs Q E hr h=>?_)
  · obtain ⟨_,_,_,_,_,_,_,_,_,_,_,_,_,_,_,rfl,_⟩:=h;rfl
  · obtain ⟨A,H0,L,r,day,us,ns,ds,ls,n,l,x,y,z,bit,rfl,O,d0,hl,hx,nn,nz,l60,dl,hR,r40,hxy,q⟩:=h
    have hul:us.length=ls.length:=by rw [d0.length,List.length_map]
    refine ⟨_,(au (bK (i:=5) d9.nd rfl (Or.inl rfl) oE)
      (au (GF (i:=6) ⟨rfl,rfl,rfl⟩ rfl (jd (Ew (bD jW (pv 4) aB (cj _)) (jd (mF (mG (pv 0) R_Roll.c dM.m jq (hr.mono (by decide)) dM.b .nil (aj (pv 1) (aj (pv 2) aA))))) (jd (Ew (bD jW (pv 4) aB (cj _)) (jd (mF (mG (pv 0) R_Roll.c dI.m jm (hr.mono (by decide)) dI.b .nil (aj (pv 1) (aj (pv 2) (aj (pv 3) aA)))))) (jd (Ew (bD jW (pv 4) aB (cj _)) (jd (mF (mG (pv 0) R_Roll.c dJ.m jo (hr.mono (by decide)) dJ.b .nil (aj (pv 1) (aj (pv 2) (aj aB aA)))))) (jd (mF (mG (pv 0) R_Roll.c gA.m qg (hr.mono (by decide)) gA.b .nil (aj (pv 1) (aj (pv 2) (aj aB (aj (pv 3) aA))))))))))))) rfl X_SluiceError.m d9.nd rfl rfl (fun e =>
        (aD (bK (i:=5) d9.nd rfl (Or.inl rfl) (pv 6)))))
      (aD (aW (lZ (aX iI rfl B.isinstance PyProof.Rows.boot_isinstance (aj (pv 5) (aj (xH rfl X_NotYours.m) aA))) (lZ (xG (aX iI rfl B.isinstance PyProof.Rows.boot_isinstance (aj (pv 5) (aj (xH rfl X_NoNumber.m) aA)))) (lY (aX iI rfl B.isinstance PyProof.Rows.boot_isinstance (aj (pv 5) (aj (jh (v:=.ty "ValueError") rfl B.ValueError Gd rfl) aA)))))))))),?_⟩
    refine ⟨_,rfl,rfl,_,rfl,ifI (fun _=>?_) (fun _=>?_)⟩
    · refine ⟨_,rfl,A.p,A.dx,_,rfl,O.get 0,rfl,_,rfl,_,rfl,A,H0,_,r,day,us,ns,ds,ls,n,l,x,y,rfl,O,d0,hl,hx,dl,fun hc=>absurd hc hxy,fun _ e H' s' he=>⟨cY,e,rfl,rfl,TT.mS,?_⟩⟩
      refine ⟨_,rfl,?_⟩
      have hX:(upd H' e (.ext (XAt e cY))) e=some (.ext (XAt e cY)):=bR
      have sX:bf T H (upd H' e (.ext (XAt e cY))):=s'.upd (s'.free he) (.inl he)
      generalize upd H' e (.ext (XAt e cY))=H2 at hX sX
      refine ⟨_,rfl,e,cY,_,_,true,rfl,hX,X_NotYours.x,.inr ⟨_,rfl,rfl⟩,TT.kY,_,rfl,lM ?_⟩
      refine ⟨_,rfl,e,cY,_,_,false,rfl,hX,X_NotYours.x,.inr ⟨_,rfl,rfl⟩,TT.kN,_,rfl,_,rfl,lM ?_⟩
      exact ⟨_,rfl,e,cY,_,_,true,rfl,hX,X_NotYours.x,.inl ⟨_,rfl,rfl⟩,TT.kV,q H2 sX⟩
    refine ⟨_,rfl,rfl,_,rfl,ifI (fun _=>?_) (fun _=>?_)⟩
    · refine ⟨_,rfl,A.p,A.dx,_,rfl,O.get 0,rfl,_,rfl,_,rfl,_,rfl,A,H0,_,r,day,us,ns,ds,n,x,y,z,rfl,O,by omega,hx,nz,dl,fun hc=>absurd hc hxy,fun _ e H' s' he=>⟨cY,e,rfl,rfl,TT.mS,?_⟩⟩
      refine ⟨_,rfl,?_⟩
      have hX:(upd H' e (.ext (XAt e cY))) e=some (.ext (XAt e cY)):=bR
      have sX:bf T H (upd H' e (.ext (XAt e cY))):=s'.upd (s'.free he) (.inl he)
      generalize upd H' e (.ext (XAt e cY))=H2 at hX sX
      refine ⟨_,rfl,e,cY,_,_,true,rfl,hX,X_NotYours.x,.inr ⟨_,rfl,rfl⟩,TT.kY,_,rfl,lM ?_⟩
      refine ⟨_,rfl,e,cY,_,_,false,rfl,hX,X_NotYours.x,.inr ⟨_,rfl,rfl⟩,TT.kN,_,rfl,_,rfl,lM ?_⟩
      exact ⟨_,rfl,e,cY,_,_,true,rfl,hX,X_NotYours.x,.inl ⟨_,rfl,rfl⟩,TT.kV,q H2 sX⟩
    refine ⟨_,rfl,rfl,_,rfl,ifI (fun _=>?_) (fun _=>?_)⟩
    · refine ⟨_,rfl,A.p,A.dx,_,rfl,O.get 0,rfl,_,rfl,_,rfl,A,H0,_,r,day,us,ns,ds,ls,n,l,x,y,0,rfl,O,d0,hl,hx,hR,r40,dl,fun _ e H' s' he=>⟨cY,e,rfl,rfl,TT.mS,?_⟩,fun hc=>absurd hc hxy,fun hc=>absurd hc hxy⟩
      refine ⟨_,rfl,?_⟩
      have hX:(upd H' e (.ext (XAt e cY))) e=some (.ext (XAt e cY)):=bR
      have sX:bf T H (upd H' e (.ext (XAt e cY))):=s'.upd (s'.free he) (.inl he)
      generalize upd H' e (.ext (XAt e cY))=H2 at hX sX
      refine ⟨_,rfl,e,cY,_,_,true,rfl,hX,X_NotYours.x,.inr ⟨_,rfl,rfl⟩,TT.kY,_,rfl,lM ?_⟩
      refine ⟨_,rfl,e,cY,_,_,false,rfl,hX,X_NotYours.x,.inr ⟨_,rfl,rfl⟩,TT.kN,_,rfl,_,rfl,lM ?_⟩
      exact ⟨_,rfl,e,cY,_,_,true,rfl,hX,X_NotYours.x,.inl ⟨_,rfl,rfl⟩,TT.kV,q H2 sX⟩
    · refine ⟨_,rfl,A.p,A.dx,_,rfl,O.get 0,rfl,_,rfl,_,rfl,_,rfl,A,H0,_,r,day,us,ns,ds,ls,n,l,x,y,1,z,rfl,O,d0,hl,hx,by omega,nz,l60,dl,fun _ e H' s' he=>⟨cY,e,rfl,rfl,TT.mS,?_⟩,fun hc=>absurd hc hxy,fun hc=>absurd hc hxy,fun hc=>absurd hc hxy⟩
      refine ⟨_,rfl,?_⟩
      have hX:(upd H' e (.ext (XAt e cY))) e=some (.ext (XAt e cY)):=bR
      have sX:bf T H (upd H' e (.ext (XAt e cY))):=s'.upd (s'.free he) (.inl he)
      generalize upd H' e (.ext (XAt e cY))=H2 at hX sX
      refine ⟨_,rfl,e,cY,_,_,true,rfl,hX,X_NotYours.x,.inr ⟨_,rfl,rfl⟩,TT.kY,_,rfl,lM ?_⟩
      refine ⟨_,rfl,e,cY,_,_,false,rfl,hX,X_NotYours.x,.inr ⟨_,rfl,rfl⟩,TT.kN,_,rfl,_,rfl,lM ?_⟩
      exact ⟨_,rfl,e,cY,_,_,true,rfl,hX,X_NotYours.x,.inl ⟨_,rfl,rfl⟩,TT.kV,q H2 sX⟩
end
theorem j7 (ls:List Lic):(ls.map fun l=>[l.day,l.start,l.back,l.most]).map dTup=ls.map jA:=by rw [List.map_map];rfl
abbrev cH:Stmt:=top 41
theorem gP:aH ["one","bit","day","lines","owners","names","told"] ["one","bit","day","lines","owners"] (ak cH):=⟨rfl,rfl,rfl,by decide +kernel,rfl,by decide +kernel,by decide +kernel⟩
def qw (K:PySem.W.Frag) (T:fH) (C:Addr):Sp:=fun vs H Q _=>∃ (A:Rs) (day bit:Int) (us ws:List V) (ns:List Str) (ls:List Lic) (b c:Addr),vs=[.ref A.p,.int bit,.int day,.ref b,.ref c]∧H A.p=some (wD C A day)∧SqL K H A.ll us∧SqL K H A.ln (ns.map V.str)∧SqL K H b ws∧SqL K H c (ns.map V.str) ∧
  cW K H us (ls.map jA)∧cW K H ws (ls.map jA)∧(∀ x∈ns,fu x)∧TabsOk T H∧∀ H',bf T H H'→Q (.bl true) H'
section
variable {P:Program} {w:World} {K:PySem.W.Frag} {mg:Str→Option Value} {base:Heap} {T:fH} {C f0:Addr}
theorem vM {f f1 f2 f3 f5 f6:Addr} {fd fd1 fd2 fd3 fd5 fd6:FuncData} (D:Df K mg "_law_right" cH ["one","bit","day","lines","owners"] f fd) (B:Blt mg) (R_Roll:Cl K mg "Roll" C f0 fX)
    (fO:Dm K C "today" "Roll.today" dg ["self"] f1 fd1) (o9:bT P w K mg base CX0 1 f1 fd1 ["self"] (qu C))
    (cU:Dm K C "holders" "Roll.holders" cg ["self"] f2 fd2) (jc:bT P w K mg base CX0 1 f2 fd2 ["self"] (kj K C "names"))
    (bF:Dm K C "roll" "Roll.roll" dz ["self"] f3 fd3) (gw:bT P w K mg base CX0 1 f3 fd3 ["self"] (kj K C "licences"))
    (aP:Df K mg "_law_alike_lines" aO ["found","due"] f5 fd5) (gG:bT P w K mg base CX0 2 f5 fd5 ["found","due"] (xu K T))
    (bN:Df K mg "_law_whole" cG ["found"] f6 fd6) (iK:bT P w K mg base CX0 1 f6 fd6 ["found"] mK):bT P w K mg base CX0 3 f fd ["one","bit","day","lines","owners"] (qw K T C):=by
  refine D.F.ok gP (fun vs H Q E h=>?_) (fun cdv A outer s H vs Q E hr h=>?_)
  · obtain ⟨_,_,_,_,_,_,_,_,_,rfl,_⟩:=h;rfl
  · obtain ⟨A,day,bit,us,ws,ns,ls,b,c,rfl,hp,hl,hn,hb,hc,d1,d2,hnm,tk,q⟩:=h
    have hu:=hr.units
    have O:=Ow.refl tk
    have hrows:∀ x∈ls.map fun l=>[l.day,l.start,l.back,l.most],x.length=4:=fun x hx=>by
      obtain ⟨p,_,rfl⟩:=List.mem_map.mp hx;rfl
    have hpx:∀ {H':Hp} {L:List (Addr × HO)},Ow T H H' L→H' A.p=some (wD C A day):=fun O=>O.same.keep _ _ hp (fun _ z=>nomatch z)
    refine ⟨_,(au (bK (i:=5) gP.nd rfl (Or.inl rfl) (fj (pv 0) R_Roll.c cU.m jc (hr.mono (by decide)) cU.b .nil bQ))
      (au (bK (i:=6) gP.nd rfl (Or.inl rfl) (fj (pv 0) R_Roll.c fO.m o9 (hr.mono (by decide)) fO.b .nil bQ))
      (au (fD (PW.pt (pw_or (eH (fL (aX gq rfl B.isinstance PyProof.Rows.boot_isinstance (aj (pv 5) (aj (jh (v:=.ty "list") rfl B.list PyProof.Rows.boot_list rfl) aA))))) (pw_or (eH (fL (aR iK (hr.mono (by decide)) rfl bN.m bN.F.kp bN.b .nil bQ (aj (pv 6) aA)))) (pw_or1 (bD rH (pv 6) (pv 2) (cj _))))))
        (aD (aW ji))
        bJ)
      (jx (fD (PW.pt (pw_and (bD jW (pv 1) aB (cj _)) (pw_and1 (eH (fL (aR gG (hr.mono (by decide)) rfl aP.m aP.F.kp aP.b .nil bQ (aj (fj (pv 0) R_Roll.c bF.m gw (hr.mono (by decide)) bF.b .nil bQ) (aj (pv 3) aA))))))))
        (aD (aW ji))
        bJ)
      (au (fD (PW.pt (pw_or (bD (xJ hu) (gR (ak cH) rfl ["one","bit","day","lines","owners","names","told"] rfl ["name"] [none] (by decide +kernel) (by decide +kernel) (by decide +kernel) rfl (mZ (pv 5)) (fun _ _ _=>(cu (i:=0) (show (["name"]:List Str).Nodup by decide +kernel) rfl (Or.inl rfl))) (fun _ _ _=>(pK (eH (fL (aX (oU (K:=K) rfl) rfl B.isinstance PyProof.Rows.boot_isinstance (aj (pv 0) (aj (jh (v:=.ty "str") rfl B.str PyProof.Rows.boot_str rfl) aA))))))) (fun _ _ _=>(pv 0))) (gZ aA) (cj _)) (pw_or1 (bD (xK hu) (pv 5) (pv 4) (cj _)))))
        (aD (aW ji))
        bJ)
      (aD (aW (lZ (aR gG (hr.mono (by decide)) rfl aP.m aP.F.kp aP.b .nil bQ (aj (fj (pv 0) R_Roll.c bF.m gw (hr.mono (by decide)) bF.b .nil bQ) (aj (pv 3) aA))) (lY (jg (qI hu) (fj (pv 0) R_Roll.c cU.m jc (hr.mono (by decide)) cU.b .nil bQ) (pv 4) (cj _))))))))))),?_⟩
    refine ⟨_,rfl,A.p,A.dx,_,rfl,hp,rfl,A.p,A.dx,A.ln,_,_,rfl,hp,rfl,hn,fun l1 h1=>?_⟩
    walk_at "nw"
    refine ⟨_,rfl,A.p,A.dx,_,rfl,hpx O,rfl,A,day,rfl,hpx O,?_⟩
    refine ⟨_,rfl,_,_,_,true,rfl,.lst (O.get 0),uD K,_,rfl,jG ?_⟩
    refine ⟨_,rfl,day,rfl,_,rfl,jG ?_⟩
    refine ⟨_,rfl,_,rfl,rfl,_,rfl,ifN (ifI (fun _=>?_) fun hc=>absurd rfl hc)⟩
    refine ⟨fun σ H'=>Iv (σ=[some (.ref A.p),some (.int bit),some (.int day),some (.ref b),some (.ref c),some (.ref l1),some (.int day)]∧Ow T H H' [(l1,.lst (ns.map V.str))]),?_,?_⟩
    · refine ⟨_,rfl,rfl,_,rfl,ifI (fun _=>?_) (fun _=>⟨trivial,rfl,O⟩)⟩
      refine ⟨_,rfl,A.p,A.dx,_,rfl,hpx O,rfl,A.p,A.dx,A.ll,_,_,rfl,hpx O,rfl,hl.mo O.same,fun l2 h2=>?_⟩
      walk_at "nw"
      refine ⟨_,rfl,l2,b,us,ws,ls.map fun l=>[l.day,l.start,l.back,l.most],rfl,O.get 0,hb.mo O.same,by rw [j7];exact d1.mo O.same,by rw [j7];exact d2.mo O.same,hrows,O.same.t1,fun H3 s3=>?_⟩
      exact ⟨_,rfl,jG ⟨trivial,rfl,(O.jJ s3).tail⟩⟩
    clear O
    rintro σ H1 ⟨-,rfl,O⟩
    refine ⟨_,rfl,l1,rfl,⟨_,O.sq 0⟩,fun lw hlw=>?_⟩
    refine oN (K:=K) (xs:=ns.map V.str) (fun i τ H'=>Iv (∃ (v0:Option V),τ=[v0]∧Ow T H H' [(lw,.lst (([]:List Int).map V.int)),(l1,.lst (ns.map V.str))])) ⟨trivial,none,rfl,O.mk' hlw rfl⟩ (fun i τ H' _ ⟨_,_,_,O2⟩=>O2.sq 1) ?_ ?_
    · rintro j y τ H5 hy ⟨-,v0,rfl,O⟩
      rw [List.getElem?_map] at hy
      obtain ⟨x,_,rfl⟩:=Option.map_eq_some_iff.mp hy
      exact ⟨_,rfl,_,_,_,true,rfl,.str _,Ho K,_,rfl,jG ⟨trivial,_,rfl,O⟩⟩
    clear O
    rintro τ H5 ⟨-,v0,rfl,O⟩
    refine ⟨szl,fun l0 hl0=>?_⟩
    walk_at "nw"
    refine ⟨lw,l0,[],[],rfl,rfl,O.sq 1,O.sq 0,_,rfl,jG ?_⟩
    have hsh:=wk hnm
    refine ⟨_,rfl,_,rfl,_,_,.list (O.sq 2) (cW.strs ns),.list (hc.mo O.same) (cW.strs ns),hsh.ok (by decide),hsh.ok (by decide),?_⟩
    rw [if_pos rfl,j9 hsh]
    refine ⟨_,rfl,jG ?_⟩
    refine ⟨_,rfl,A.p,A.dx,_,rfl,hpx O,rfl,A.p,A.dx,A.ll,_,_,rfl,hpx O,rfl,hl.mo O.same,fun l2 h2=>?_⟩
    walk_at "nw"
    refine ⟨_,rfl,l2,b,us,ws,ls.map fun l=>[l.day,l.start,l.back,l.most],rfl,O.get 0,hb.mo O.same,by rw [j7];exact d1.mo O.same,by rw [j7];exact d2.mo O.same,hrows,O.same.t1,fun H3 s3=>?_⟩
    have O:=(O.jJ s3).tail
    refine ⟨_,rfl,lM ?_⟩
    refine ⟨_,rfl,A.p,A.dx,_,rfl,hpx O,rfl,A.p,A.dx,A.ln,_,_,rfl,hpx O,rfl,hn.mo O.same,fun l3 h3=>?_⟩
    walk_at "nw"
    refine ⟨_,rfl,_,_,.list (O.sq 0) (cW.strs ns),.list (hc.mo O.same) (cW.strs ns),hsh.ok (by decide),hsh.ok (by decide),?_⟩
    rw [if_neg Bool.false_ne_true,j9 hsh]
    exact q _ O.same
end
theorem qK {ns:List Str} {n:Nat} {x:Str} (h:ns[n]?=some x):(ns.map V.str)[n]?=some (.str x):=by rw [List.getElem?_map,h];rfl
theorem oH {ns:List Str} {i:Int} (h0:0≤i) (h1:i<ns.length):∃ x,atI (ns.map V.str) i=some (.str x)∧x∈ns:=by
  obtain ⟨n,rfl⟩:∃ n:Nat,i=(n:Int):=⟨i.toNat,by omega⟩
  have hx:ns[n]?=some ns[n]:=List.getElem?_eq_getElem (by omega)
  exact ⟨_,fU (qK hx),List.getElem_mem _⟩
def M5 (r:List Int) (l:Lic):Prop:=rO r l∧l.back=-1
abbrev cZ:Stmt:=top 43
theorem cD:aH ["one","xs","names","many","lines","owners","day","k","most","name"] ["one","xs","names","many"] (ak cZ):=⟨rfl,rfl,rfl,by decide +kernel,rfl,by decide +kernel,by decide +kernel⟩
def qD (K:PySem.W.Frag) (T:fH) (C:Addr):Sp:=fun vs H Q _=>∃ (A:Rs) (H0:Hp) (B:List (Addr × HO)) (mN:Nat) (a b:Addr) (ys:List Int) (nms:List Str),vs=[.ref A.p,.ref a,.ref b,.int (mN:Int)] ∧
  Ow T H0 H (RL C A (fW mN) 0 [] [] []++B)∧(a,HO.lst (ys.map V.int))∈B∧(b,HO.lst (nms.map V.str))∈B∧ys.length=12∧nms.length=3∧(∀ x∈nms,fu x)∧1≤mN∧mN≤12 ∧
  ∀ (Hb H':Hp) (t ll lw:Addr) (day:Int) (us ws ds:List V) (ns:List Str) (ls:List Lic),bf T H0 Hb→Ow T Hb H' ((t,.tup [.int day,.ref ll,.ref lw]) :: (RL C A (fW mN) day us ns ds++(lw,.lst (ns.map V.str)) :: (ll,.lst ws) :: B))→cW K Hb us (ls.map jA)→cW K Hb ws (ls.map jA)→1≤ls.length→ls.length≤6→ns.length=ls.length→(∀ x∈ns,fu x)→(∀ l∈ls,M5 (fW mN) l)→0≤day→day≤6→ds.length≤12→Q (.ref t) H'
section
variable {P:Program} {w:World} {K:PySem.W.Frag} {mg:Str→Option Value} {base:Heap} {T:fH} {C f0:Addr}
theorem vQ {f f1 f3:Addr} {fd fd1 fd3:FuncData} (D:Df K mg "_law_begun" cZ ["one","xs","names","many"] f fd) (B:Blt mg) (R_Roll:Cl K mg "Roll" C f0 fX)
    (dH:Dm K C "turn" "Roll.turn" dj ["self"] f1 fd1) (jl:bT P w K mg base CX0 1 f1 fd1 ["self"] (pA T C))
    (gB:DmD K C "file" "Roll.file" dY ["self","holder","start","most","back"] f3 fd3) (qj:bT P w K mg base CX0 3 f3 fd3 ["self","holder","start","most","back"] (sI T C)):bT P w K mg base CX0 4 f fd ["one","xs","names","many"] (qD K T C):=by
  refine D.F.ok cD (fun vs H Q E h=>?_) (fun cdv A outer s H vs Q E hr h=>?_)
  · obtain ⟨_,_,_,_,_,_,_,_,rfl,_⟩:=h;rfl
  · obtain ⟨A,H0,L,mN,a,b,ys,nms,rfl,O,ma,mb,y12,hm3,hmn,m1,m12,q⟩:=h
    have hu:=hr.units
    have g:∀ k:Nat,k<12→ys[k]?=some (ys.getD k 0):=fun k hk=>jz (by omega)
    have hR:=lW mN
    have hrl:=j5 mN
    refine ⟨_,(au (bK (i:=4) cD.nd rfl (Or.inl rfl) (gZ aA))
      (au (bK (i:=5) cD.nd rfl (Or.inl rfl) (gZ aA))
      (au (bK (i:=6) cD.nd rfl (Or.inl rfl) aB)
      (au (qG PassesOwn.never rfl (gn rfl B.range (aj (aV fG aB (aV dN (bU aN (pv 1) aB (fun _ _=>rfl)) aB)) aA)) (cu (i:=7) cD.nd rfl (Or.inl rfl))
        (jx (fD (PW.pt (pw_and (bD GX (pv 7) aB (cj _)) (pw_and1 (bD jW (aV dN (aV gU (bU aN (pv 1) aB (fun _ _=>rfl)) (aV fG (pv 7) aB)) aB) aB (cj _)))))
          (au (bL (fj (pv 0) R_Roll.c dH.m jl (hr.mono (by decide)) dH.b .nil bQ))
          (aD (bK (i:=6) cD.nd rfl (Or.inl rfl) (aV fG (pv 6) aB))))
          bJ)
        (au (bK (i:=8) cD.nd rfl (Or.inl rfl) (bU aN (gZ (aj (aV fG aB (aV dN (aV gU (bU aN (pv 1) aB (fun _ _=>rfl)) (aV fG (pv 7) aB)) aB)) (aj (aV qH (aV GQ aB aB) (aV dN (aV gU (bU aN (pv 1) aB (fun _ _=>rfl)) (aV fG (pv 7) aB)) aB)) aA))) (aV dN (aV gU (bU aN (pv 1) aB (fun _ _=>rfl)) (aV fG (pv 7) aB)) aB) (fun _ _=>rfl)))
        (au (bK (i:=9) cD.nd rfl (Or.inl rfl) (bU aN (pv 2) (aV dN (aV gU (bU aN (pv 1) aB (fun _ _=>rfl)) (aV fG (pv 7) aB)) aB) (fun _ _=>rfl)))
        (au (bL (fJ (pv 0) R_Roll.c gB.m qj (hr.mono (by decide)) gB.b1 (.cons (show RelV .non Value.none from rfl) .nil) bQ (aj (pv 9) (aj (aV dN (aV gU (bU aN (pv 1) aB (fun _ _=>rfl)) (aV fG (pv 7) aB)) (pv 3)) (aj (pv 8) aA)))))
        (au (bL (jE PySem.F.plainAttrs_list PySem.F.slot_list_append PySem.F.type_list_append cM (pv 4) (aj (gY (aj (pv 6) (aj (aV dN (aV gU (bU aN (pv 1) aB (fun _ _=>rfl)) (aV fG (pv 7) aB)) (pv 3)) (aj (tV nH aB) (aj (pv 8) aA))))) aA)))
        (aD (bL (jE PySem.F.plainAttrs_list PySem.F.slot_list_append PySem.F.type_list_append cM (pv 5) (aj (pv 9) aA))))))))))
      (aD (aW (gY (aj (pv 6) (aj (pv 4) (aj (pv 5) aA)))))))))),?_⟩
    refine ⟨szl,fun ll hll=>?_⟩
    walk_at "nw"
    have O:Ow T H0 _ (RL C A (fW mN) 0 [] [] []++(ll,.lst []) :: L):=Ow.mid (R:=RL C A (fW mN) 0 [] [] []) O
    refine ⟨szl,fun lw hlw=>?_⟩
    walk_at "nw"
    have O:Ow T H0 _ (RL C A (fW mN) 0 [] [] []++(lw,.lst []) :: (ll,.lst []) :: L):=Ow.mid (R:=RL C A (fW mN) 0 [] [] []) O
    have ha:∀ {Hb H':Hp} (M:List (Addr × HO)) {r:List Int} {day:Int} {us ds:List V} {ns:List Str} {x y:Addr × HO},Ow T Hb H' (M++(RL C A r day us ns ds++x :: y :: L))→SqL K H' a (ys.map V.int):=fun {_ _} M {_ _ _ _ _ _ _} O=>SqL.of (O.at_ _ (List.mem_append_right _ (List.mem_append_right _ (List.mem_cons_of_mem _ (List.mem_cons_of_mem _ ma)))))
    have hbL:∀ {Hb H':Hp} (M:List (Addr × HO)) {r:List Int} {day:Int} {us ds:List V} {ns:List Str} {x y:Addr × HO},Ow T Hb H' (M++(RL C A r day us ns ds++x :: y :: L))→SqL K H' b (nms.map V.str):=fun {_ _} M {_ _ _ _ _ _ _} O=>SqL.of (O.at_ _ (List.mem_append_right _ (List.mem_append_right _ (List.mem_cons_of_mem _ (List.mem_cons_of_mem _ mb)))))
    have z0:=Int.emod_nonneg (ys.getD 5 0) (show (6:Int)≠0 by decide)
    have z1:=Int.emod_lt_of_pos (ys.getD 5 0) (show (0:Int)<6 by decide)
    obtain ⟨sz,hsz⟩:∃ sz:Nat,1 + ys.getD 5 0 % 6=(sz:Int):=⟨(1 + ys.getD 5 0 % 6).toNat,by omega⟩
    have sz1:1≤sz:=by omega
    have sz6:sz≤6:=by omega
    refine ⟨_,rfl,a,_,5,_,rfl,rfl,ha [] O,bV (i:=5) (g 5 (by decide)),_,_,rfl,rfl,(by show (0:Int)<6;decide),_,_,rfl,rfl,(sz:Int),congrArg (fun z=>[V.int z]) hsz,by omega,by omega,?_⟩
    clear hsz z0 z1
    rw [Int.toNat_natCast]
    refine oM (n:=sz) (fun i σ H'=>Iv (∃ (Hb:Hp) (us ws ds:List V) (ns:List Str) (ls:List Lic) (day:Int) (v7 v8 v9:Option V),σ=[some (.ref A.p),some (.ref a),some (.ref b),some (.int (mN:Int)),some (.ref ll),some (.ref lw),some (.int day),v7,v8,v9] ∧
      Ow T Hb H' (RL C A (fW mN) day us ns ds++(lw,.lst (ns.map V.str)) :: (ll,.lst ws) :: L)∧bf T H0 Hb∧cW K Hb us (ls.map jA)∧cW K Hb ws (ls.map jA)∧ls.length=i∧ns.length=ls.length∧(∀ x∈ns,fu x)∧(∀ l∈ls,M5 (fW mN) l)∧0≤day∧day≤(i:Int)∧ds.length≤2 * i))
      ⟨trivial,H0,[],[],[],[],[],0,none,none,none,rfl,O,bf.refl O.same.t0,.nil,.nil,rfl,rfl,(fun x hx=>nomatch hx),(fun x hx=>nomatch hx),Int.le_refl _,Int.le_refl _,Nat.le_refl _⟩ ?_ ?_
    · clear O
      rintro i σ H6 hi ⟨-,Hb,us,ws,ds,ns,ls,day,v7,v8,v9,rfl,O,s0,d0,d1,n1,n2,hnm,hls,dy0,dy1,n3⟩
      have hi:i<sz:=hi
      rw [Int.zero_add]
      have hul:us.length=ls.length:=by rw [d0.length,List.length_map]
      have hwl:ws.length=ls.length:=by rw [d1.length,List.length_map]
      refine ⟨fun σ H'=>Iv (∃ (Hb:Hp) (day:Int) (ds:List V),σ=[some (.ref A.p),some (.ref a),some (.ref b),some (.int (mN:Int)),some (.ref ll),some (.ref lw),some (.int day),some (.int (i:Int)),v8,v9] ∧
        Ow T Hb H' (RL C A (fW mN) day us ns ds++(lw,.lst (ns.map V.str)) :: (ll,.lst ws) :: L)∧bf T H0 Hb∧cW K Hb us (ls.map jA)∧cW K Hb ws (ls.map jA)∧0≤day∧day≤(i:Int) + 1∧ds.length≤2 * i + 1),?_,?_⟩
      · refine ⟨_,rfl,_,_,rfl,rfl,_,rfl,ifD (fun _=>?_) (fun _=>⟨trivial,Hb,day,ds,rfl,O,s0,d0,d1,dy0,by omega,by omega⟩)⟩
        refine ⟨_,rfl,a,_,6,_,rfl,rfl,ha [] O,bV (i:=6) (g 6 (by decide)),_,rfl,_,_,rfl,rfl,_,_,rfl,rfl,⟨by show (0:Int)<(i:Int) + 2;omega,by show (i:Int) + 2<1073741824;omega⟩,_,_,rfl,rfl,(by show (0:Int)<3;decide),rfl,_,rfl,ifI (fun _=>?_) (fun _=>⟨trivial,Hb,day,ds,rfl,O,s0,d0,d1,dy0,by omega,by omega⟩)⟩
        refine ⟨_,rfl,A.p,A.dx,_,rfl,O.get 0,rfl,A,Hb,_,fW mN,day,us,ns,ds,rfl,O,by omega,fun t H8 O=>?_⟩
        have O:=O.tail
        refine ⟨_,rfl,_,_,rfl,rfl,?_⟩
        exact ⟨trivial,Hb,day + 1,ds++[V.ref t],rfl,O,s0,d0,d1,by omega,by omega,by rw [List.length_append];simp;omega⟩
      clear O s0 d0 d1 dy0 dy1 n3
      rintro σ H7 ⟨-,Hb,day,ds,rfl,O,s0,d0,d1,dy0,dy1,n3⟩
      have k0:=Int.emod_nonneg (ys.getD 8 0 / ((i:Int) + 3)) (show (2:Int)≠0 by decide)
      have k1:=Int.emod_lt_of_pos (ys.getD 8 0 / ((i:Int) + 3)) (show (0:Int)<2 by decide)
      have u0:=Int.emod_nonneg (ys.getD 7 0 / ((i:Int) + 1)) (show (9:Int)≠0 by decide)
      have u1:=Int.emod_lt_of_pos (ys.getD 7 0 / ((i:Int) + 1)) (show (0:Int)<9 by decide)
      have w0:=Int.emod_nonneg (ys.getD 7 0 / ((i:Int) + 1)) (show (3:Int)≠0 by decide)
      have w1:=Int.emod_lt_of_pos (ys.getD 7 0 / ((i:Int) + 1)) (show (0:Int)<3 by decide)
      refine ⟨_,rfl,a,_,7,_,rfl,rfl,ha [] O,bV (i:=7) (g 7 (by decide)),_,rfl,_,_,rfl,rfl,_,_,rfl,rfl,⟨by show (0:Int)<(i:Int) + 1;omega,by show (i:Int) + 1<1073741824;omega⟩,_,_,rfl,rfl,(by show (0:Int)<9;decide),_,_,rfl,rfl,_,_,rfl,rfl,⟨by decide,by decide,by decide⟩,_,rfl,a,_,7,_,rfl,rfl,ha [] O,bV (i:=7) (g 7 (by decide)),_,rfl,_,_,rfl,rfl,_,_,rfl,rfl,⟨by show (0:Int)<(i:Int) + 1;omega,by show (i:Int) + 1<1073741824;omega⟩,_,_,rfl,rfl,(by show (0:Int)<3;decide),_,_,rfl,rfl,szl,fun lm hlm=>?_⟩
      walk_at "nw"
      refine ⟨_,rfl,a,_,8,_,rfl,rfl,ha [_] O,bV (i:=8) (g 8 (by decide)),_,rfl,_,_,rfl,rfl,_,_,rfl,rfl,⟨by show (0:Int)<(i:Int) + 3;omega,by show (i:Int) + 3<1073741824;omega⟩,_,_,rfl,rfl,(by show (0:Int)<2;decide),?_⟩
      dsimp only at O ⊢
      rw [show (10:Int) ^ (12:Int).toNat=1000000000000 by decide] at O
      refine ⟨lm,_,_,_,rfl,rfl,O.sq 0,fZ (ns:=[1 + ys.getD 7 0 / ((i:Int) + 1) % 9,1000000000000 - ys.getD 7 0 / ((i:Int) + 1) % 3]) k0 k1,?_⟩
      have hm:1≤[1 + ys.getD 7 0 / ((i:Int) + 1) % 9,1000000000000 - ys.getD 7 0 / ((i:Int) + 1) % 3].getD (ys.getD 8 0 / ((i:Int) + 3) % 2).toNat 0∧[1 + ys.getD 7 0 / ((i:Int) + 1) % 9,1000000000000 - ys.getD 7 0 / ((i:Int) + 1) % 3].getD (ys.getD 8 0 / ((i:Int) + 3) % 2).toNat 0≤1000000000000:=by
        have hin:=getD_in (ns:=[1 + ys.getD 7 0 / ((i:Int) + 1) % 9,1000000000000 - ys.getD 7 0 / ((i:Int) + 1) % 3]) (j:=(ys.getD 8 0 / ((i:Int) + 3) % 2).toNat) (by show _<2;omega)
        simp only [List.mem_cons,List.not_mem_nil,or_false] at hin
        rcases hin with e | e <;> rw [e] <;> omega
      generalize [1 + ys.getD 7 0 / ((i:Int) + 1) % 9,1000000000000 - ys.getD 7 0 / ((i:Int) + 1) % 3].getD (ys.getD 8 0 / ((i:Int) + 3) % 2).toNat 0=m at hm
      clear k0 k1 u0 u1 w0 w1
      have O:=O.tail
      have j0:=Int.emod_nonneg (ys.getD 9 0 / ((i:Int) + 1)) (show (3:Int)≠0 by decide)
      have j1:=Int.emod_lt_of_pos (ys.getD 9 0 / ((i:Int) + 1)) (show (0:Int)<3 by decide)
      obtain ⟨x,hx,hxm⟩:=oH (ns:=nms) j0 (by omega)
      refine ⟨_,rfl,_,rfl,a,_,9,_,rfl,rfl,ha [] O,bV (i:=9) (g 9 (by decide)),_,rfl,_,_,rfl,rfl,_,_,rfl,rfl,⟨by show (0:Int)<(i:Int) + 1;omega,by show (i:Int) + 1<1073741824;omega⟩,_,_,rfl,rfl,(by show (0:Int)<3;decide),b,_,_,_,rfl,rfl,hbL [] O,hx,?_⟩
      have q0:=Int.emod_nonneg (ys.getD 10 0 / ((i:Int) + 1)) (show (mN:Int)≠0 by omega)
      have q1:=Int.emod_lt_of_pos (ys.getD 10 0 / ((i:Int) + 1)) (show (0:Int)<(mN:Int) by omega)
      refine ⟨_,rfl,A.p,A.dx,_,rfl,O.get 0,rfl,_,rfl,_,rfl,a,_,10,_,rfl,rfl,ha [] O,bV (i:=10) (g 10 (by decide)),_,rfl,_,_,rfl,rfl,_,_,rfl,rfl,⟨by show (0:Int)<(i:Int) + 1;omega,by show (i:Int) + 1<1073741824;omega⟩,_,rfl,_,_,rfl,rfl,(by show (0:Int)<(mN:Int);omega),_,rfl,?_⟩
      have hlic:rO (fW mN) ⟨day,ys.getD 10 0 / ((i:Int) + 1) % (mN:Int),-1,m⟩:=⟨⟨dy0,by show day≤1000000;omega,q0,by rw [hrl];exact q1,by show 0≤m;omega,hm.2⟩,.inl rfl⟩
      refine ⟨A,Hb,_,fW mN,day,us,ns,ds,x,⟨day,ys.getD 10 0 / ((i:Int) + 1) % (mN:Int),-1,m⟩,.non,rfl,.inl ⟨rfl,rfl⟩,rfl,O,hmn x hxm,hR,by omega,hlic,(by show m≠0;omega),by omega,by omega,by omega,fun t1 t2 H9 O=>?_⟩
      obtain ⟨Hn1,O,sn1,en1⟩:=O.jX 0
      obtain ⟨Hn2,O,sn2,en2⟩:=O.jX 0
      have O:Ow T Hn2 H9 ([]++(RL C A (fW mN) day (us++[.ref t1]) (ns++[x]) (ds++[.ref t2])++(lw,.lst (ns.map V.str)) :: (ll,.lst ws) :: L)):=O
      refine ⟨_,rfl,.inl ⟨rfl,_,O.sq 7⟩,_,rfl,_,rfl,a,_,10,_,rfl,rfl,ha [] O,bV (i:=10) (g 10 (by decide)),_,rfl,_,_,rfl,rfl,_,_,rfl,rfl,⟨by show (0:Int)<(i:Int) + 1;omega,by show (i:Int) + 1<1073741824;omega⟩,_,rfl,_,_,rfl,rfl,(by show (0:Int)<(mN:Int);omega),1,rfl,_,rfl,szl,fun t3 ht3=>?_⟩
      walk_at "nw"
      refine ⟨ll,_,_,rfl,rfl,O.get 8,aU (by omega),?_⟩
      generalize hE:upd _ _ _=Hn
      have O:=Ow.lK O 8 rfl hE rfl
      clear hE
      obtain ⟨Hn3,O,sn3,en3⟩:=O.jX 0
      refine ⟨_,rfl,.inl ⟨rfl,_,O.sq 6⟩,_,rfl,lw,_,_,rfl,rfl,O.get 6,aU (by rw [List.length_map];omega),?_⟩
      generalize hE:upd _ _ _=Hm
      have O:=Ow.lK O 6 rfl hE rfl
      clear hE
      have sA:=sn1.trans (sn2.trans sn3)
      refine ⟨trivial,Hn3,us++[V.ref t1],ws++[V.ref t3],ds++[V.ref t2],ns++[x],ls++[⟨day,ys.getD 10 0 / ((i:Int) + 1) % (mN:Int),-1,m⟩],day,_,_,_,rfl,?_,s0.trans sA,?_,?_,by rw [List.length_append,n1];rfl,by rw [List.length_append,List.length_append,n2];rfl,?_,?_,dy0,dy1,by rw [List.length_append];simp;omega⟩
      · rw [List.map_append];exact O
      · rw [List.map_append]
        exact (d0.mo sA).append (.cons (Den.lic (SqT.of (sn3.keep _ _ en2 (fun _ z=>nomatch z)))) .nil)
      · rw [List.map_append]
        exact (d1.mo sA).append (.cons (Den.lic (l:=⟨day,ys.getD 10 0 / ((i:Int) + 1) % (mN:Int),-1,m⟩) (SqT.of en3)) .nil)
      · intro y hy
        rcases List.mem_append.mp hy with h | h
        · exact hnm y h
        · rw [List.mem_singleton.mp h];exact hmn x hxm
      · intro y hy
        rcases List.mem_append.mp hy with h | h
        · exact hls y h
        · rw [List.mem_singleton.mp h];exact ⟨hlic,rfl⟩
    clear O
    rintro σ H6 ⟨-,Hb,us,ws,ds,ns,ls,day,v7,v8,v9,rfl,O,s0,d0,d1,n1,n2,hnm,hls,dy0,dy1,n3⟩
    refine ⟨_,rfl,_,rfl,_,rfl,szl,fun t ht=>?_⟩
    exact q Hb _ t ll lw day us ws ds ns ls s0 (O.mk' ht rfl) d0 d1 (by omega) (by omega) n2 hnm hls dy0 (by omega) (by omega)
end
theorem vA (x:Str):x≠x++("b":Str):=fun h=>by
  have:=congrArg (fun z:Str=>z.cps.toList.length) h
  simp only [len_app] at this
  have hb:("b":Str).cps.toList.length=1:=rfl
  omega
abbrev kW:Stmt:=top 44
theorem eV:aH ["script","first","many","names","one","day","lines","owners","held","kept","cell","xs","number","name","to","told"] ["script"] (ak kW):=⟨rfl,rfl,rfl,by decide +kernel,rfl,by decide +kernel,by decide +kernel⟩
def qz (K:PySem.W.Frag):Sp:=fun vs H Q _=>∃ (a:Addr) (ns:List Int),vs=[.ref a]∧SqL K H a (ns.map V.int)∧ns.length≤63∧∀ H',Q (.bl true) H'
section
variable {P:Program} {w:World} {K:PySem.W.Frag} {mg:Str→Option Value} {base:Heap} {T:fH} {C f0:Addr}
theorem G6 {f f1 f2 f3 f4 f5 f6 f7 f8 f9 f10 f11 f12 cY cL:Addr} {fd fd1 fd2 fd3 fd4 fd5 fd6 fd7 fd8 fd9 fd10 fd11 fd12:FuncData} (hT0:T=[]) (D:Df K mg "law" kW ["script"] f fd) (B:Blt mg) (R_Roll:Cl K mg "Roll" C f1 fX)
    (bH:Df K mg "_law_cell_at" bZ ["script","k"] f2 fd2) (iZ:bT P w K mg base CX0 1 f2 fd2 ["script","k"] (sJ K))
    (cQ:Df K mg "_law_draws" cI ["cell","many"] f3 fd3) (jT:bT P w K mg base CX0 2 f3 fd3 ["cell","many"] (xq T))
    (eO:Df K mg "_law_names" bY ["xs"] f4 fd4) (o7:bT P w K mg base CX0 1 f4 fd4 ["xs"] (qy K T))
    (fB:Dm K C "__init__" "Roll.__init__" bI ["self","below"] f1 fd1) (lH:bT P w K mg base CX0 3 f1 fd1 ["self","below"] (sH T C))
    (eU:Df K mg "_law_begun" cZ ["one","xs","names","many"] f5 fd5) (o8:bT P w K mg base CX0 4 f5 fd5 ["one","xs","names","many"] (qD K T C))
    (bF:Dm K C "roll" "Roll.roll" dz ["self"] f6 fd6) (gw:bT P w K mg base CX0 1 f6 fd6 ["self"] (kj K C "licences"))
    (dH:Dm K C "turn" "Roll.turn" dj ["self"] f7 fd7) (jl:bT P w K mg base CX0 1 f7 fd7 ["self"] (pA T C))
    (dM:Dm K C "drop" "Roll.drop" dD ["self","number","holder"] f8 fd8) (jq:bT P w K mg base (CXE P w) 3 f8 fd8 ["self","number","holder"] (pG K T C cY))
    (dI:Dm K C "sell" "Roll.sell" dw ["self","number","holder","to"] f9 fd9) (jm:bT P w K mg base (CXE P w) 3 f9 fd9 ["self","number","holder","to"] (pB K T C cY))
    (aY:Df K mg "_law_not_yours" bB ["one","number","name","to","bit"] f10 fd10) (iu:bT P w K mg base CX0 4 f10 fd10 ["one","number","name","to","bit"] (w5 K T C))
    (dJ:Dm K C "move" "Roll.move" dB ["self","number","holder","start"] f11 fd11) (jo:bT P w K mg base (CXE P w) 3 f11 fd11 ["self","number","holder","start"] (pD K T C cY cL))
    (cP:Df K mg "_law_right" cH ["one","bit","day","lines","owners"] f12 fd12) (jR:bT P w K mg base CX0 3 f12 fd12 ["one","bit","day","lines","owners"] (qw K T C)):bT P w K mg base CX0 5 f fd ["script"] (qz K):=by
  refine D.F.ok eV (fun vs H Q E h=>?_) (fun cdv A outer s H vs Q E hr h=>?_)
  · obtain ⟨_,_,rfl,_⟩:=h;rfl
  · obtain ⟨a,ns0,rfl,hS,hlen,k⟩:=h
    have tk:TabsOk T H:=hT0 ▸ TabsOk.nil H
    have hu:=hr.units
    have O:=Ow.refl tk
    refine ⟨_,(au (bK (i:=1) eV.nd rfl (Or.inl rfl) (aR jT (hr.mono (by decide)) rfl cQ.m cQ.F.kp cQ.b .nil bQ (aj (aR iZ (hr.mono (by decide)) rfl bH.m bH.F.kp bH.b .nil bQ (aj (pv 0) (aj aB aA))) (aj aB aA))))
      (au (bK (i:=2) eV.nd rfl (Or.inl rfl) (aV fG aB (aV dN (bU aN (pv 1) aB (fun _ _=>rfl)) aB)))
      (au (bK (i:=3) eV.nd rfl (Or.inl rfl) (aR o7 (hr.mono (by decide)) rfl eO.m eO.F.kp eO.b .nil bQ (aj (pv 1) aA)))
      (au (bK (i:=4) eV.nd rfl (Or.inl rfl) (Ft R_Roll.k lH (hr.mono (by decide)) rfl R_Roll.m fB.b .nil bQ (aj (gR (ak kW) rfl ["script","first","many","names","one","day","lines","owners","held","kept","cell","xs","number","name","to","told"] rfl ["k"] [none] (by decide +kernel) (by decide +kernel) (by decide +kernel) rfl (gn rfl B.range (aj (pv 2) aA)) (fun _ _ _=>(cu (i:=0) (show (["k"]:List Str).Nodup by decide +kernel) rfl (Or.inl rfl))) (fun _ _ _=>je) (fun _ _ _=>(aV qH (pv 0) aB))) aA)))
      (au (jQ (aR o8 (hr.mono (by decide)) rfl eU.m eU.F.kp eU.b .nil bQ (aj (pv 4) (aj (pv 1) (aj (pv 3) (aj (pv 2) aA))))) (tU rfl (fY (cu (i:=5) eV.nd rfl (Or.inl rfl)) (fY (cu (i:=6) eV.nd rfl (Or.inl rfl)) (fY (cu (i:=7) eV.nd rfl (Or.inl rfl)) pL)))))
      (au (bK (i:=8) eV.nd rfl (Or.inl rfl) (gZ (aj (fj (pv 4) R_Roll.c bF.m gw (hr.mono (by decide)) bF.b .nil bQ) aA)))
      (au (bK (i:=9) eV.nd rfl (Or.inl rfl) (gZ (aj (iG fM rfl B.list PyProof.Rows.boot_list (aj (pv 6) aA)) aA)))
      (au (qG PassesOwn.never rfl (mZ (m5 sS (pv 0) (mY aB) (mY aB))) (cu (i:=10) eV.nd rfl (Or.inl rfl))
        (au (bK (i:=11) eV.nd rfl (Or.inl rfl) (aR jT (hr.mono (by decide)) rfl cQ.m cQ.F.kp cQ.b .nil bQ (aj (pv 10) (aj aB aA))))
        (au (bK (i:=12) eV.nd rfl (Or.inl rfl) (aV dN (bU aN (pv 11) aB (fun _ _=>rfl)) (aX aZ rfl B.len PySem.boot_len (aj (pv 6) aA))))
        (au (bK (i:=13) eV.nd rfl (Or.inl rfl) (bU aN (pv 7) (pv 12) (fun _ _=>rfl)))
        (au (bK (i:=14) eV.nd rfl (Or.inl rfl) (bU aN (pv 3) (aV dN (bU aN (pv 11) aB (fun _ _=>rfl)) aB) (fun _ _=>rfl)))
        (jx (fD (bD jW (aV dN (bU aN (pv 11) aB (fun _ _=>rfl)) aB) aB (cj _))
          (au (bK (i:=15) eV.nd rfl (Or.inl rfl) (fj (pv 4) R_Roll.c dH.m jl (hr.mono (by decide)) dH.b .nil bQ))
          (aD (bK (i:=5) eV.nd rfl (Or.inl rfl) (aV fG (pv 5) aB))))
          (aD (fD (bD jW (aV dN (bU aN (pv 11) aB (fun _ _=>rfl)) aB) aB (cj _))
            (au (bK (i:=15) eV.nd rfl (Or.inl rfl) (fJ (pv 4) R_Roll.c dM.m jq (hr.mono (by decide)) dM.b .nil Fv (aj (pv 12) (aj (pv 13) aA))))
            (aD (jQ (gY (aj (bU iH (bU aN (pv 6) (pv 12) (fun _ _=>rfl)) aB (fun _ _=>rfl)) (aj (bU iH (bU aN (pv 6) (pv 12) (fun _ _=>rfl)) aB (fun _ _=>rfl)) (aj (tV nH aB) (aj aB aA))))) (lX (pv 6) (pv 12) set_list))))
            (au (bK (i:=15) eV.nd rfl (Or.inl rfl) (fJ (pv 4) R_Roll.c dI.m jm (hr.mono (by decide)) dI.b .nil Fv (aj (pv 12) (aj (pv 13) (aj (pv 14) aA)))))
            (au (jQ (pv 14) (lX (pv 7) (pv 12) set_list))
            (jx (fD (PW.pt (pw_and (bD rH (pv 13) (pv 14) (cj _)) (pw_and1 (eH (fL (aR iu (hr.mono (by decide)) rfl aY.m aY.F.kp aY.b .nil bQ (aj (pv 4) (aj (pv 12) (aj (pv 13) (aj (pv 14) (aj (aV dN (bU aN (pv 11) aB (fun _ _=>rfl)) aB) aA)))))))))))
              (aD (aW ji))
              bJ)
            (au (fD (eH (fL (aR iu (hr.mono (by decide)) rfl aY.m aY.F.kp aY.b .nil bQ (aj (pv 4) (aj (pv 12) (aj (aV iT (pv 14) gD) (aj (pv 14) (aj (aV dN (aV gU (bU aN (pv 11) aB (fun _ _=>rfl)) aB) aB) aA))))))))
              (aD (aW ji))
              bJ)
            (aD (fD (bD tX (fJ (pv 4) R_Roll.c dJ.m jo (hr.mono (by decide)) dJ.b .nil Fv (aj (pv 12) (aj (pv 14) (aj (bU iH (bU aN (pv 6) (pv 12) (fun _ _=>rfl)) aB (fun _ _=>rfl)) aA)))) oE (cj _))
              (aD (aW ji))
              bJ)))))))))
        (au (fD (PW.pt (pw_or (bD tX (pv 15) oE (cj _)) (pw_or1 (eH (fL (aR jR (hr.mono (by decide)) rfl cP.m cP.F.kp cP.b .nil bQ (aj (pv 4) (aj (aV dN (bU aN (pv 11) aB (fun _ _=>rfl)) aB) (aj (pv 5) (aj (pv 6) (aj (pv 7) aA)))))))))))
          (aD (aW ji))
          bJ)
        (au (bL (jE PySem.F.plainAttrs_list PySem.F.slot_list_append PySem.F.type_list_append cM (pv 8) (aj (fj (pv 4) R_Roll.c bF.m gw (hr.mono (by decide)) bF.b .nil bQ) aA)))
        (aD (bL (jE PySem.F.plainAttrs_list PySem.F.slot_list_append PySem.F.type_list_append cM (pv 9) (aj (iG fM rfl B.list PyProof.Rows.boot_list (aj (pv 6) aA)) aA))))))))))))
      (aD (aW (lZ (jg (qI hu) (pv 8) (pv 9) (cj _)) (lY (aR jR (hr.mono (by decide)) rfl cP.m cP.F.kp cP.b .nil bQ (aj (pv 4) (aj (aV dN (aR iZ (hr.mono (by decide)) rfl bH.m bH.F.kp bH.b .nil bQ (aj (pv 0) (aj aB aA))) aB) (aj (pv 5) (aj (pv 6) (aj (pv 7) aA)))))))))))))))))),?_⟩
    refine ⟨_,rfl,a,ns0,0,rfl,hS,_,12,rfl,by decide,tk,O.PN fun lf H1 xs O e=>?_⟩
    subst e
    have y12:=pX (ns0.getD 0 0) 12
    generalize dvs (ns0.getD 0 0) 12=fs at O y12
    have gf:∀ k:Nat,k<12→fs[k]?=some (fs.getD k 0):=fun k hk=>jz (by omega)
    have m0:=Int.emod_nonneg (fs.getD 11 0) (show (12:Int)≠0 by decide)
    have m1:=Int.emod_lt_of_pos (fs.getD 11 0) (show (0:Int)<12 by decide)
    refine ⟨_,rfl,lf,_,11,_,rfl,rfl,O.sq 0,bV (i:=11) (gf 11 (by decide)),_,_,rfl,rfl,(by show (0:Int)<12;decide),_,_,rfl,rfl,?_⟩
    dsimp only
    obtain ⟨mN,hmN⟩:∃ mN:Nat,1 + fs.getD 11 0 % 12=(mN:Int):=⟨(1 + fs.getD 11 0 % 12).toNat,by omega⟩
    rw [hmN]
    have hm1:1≤mN:=by omega
    have hm2:mN≤12:=by omega
    clear hmN m0 m1
    refine ⟨_,rfl,lf,fs,rfl,O.sq 0,y12,O.same.t1,O.PN fun ln H2 xs O e=>?_⟩
    obtain ⟨nms,rfl,hm3,hmn⟩:=e
    refine ⟨_,rfl,mN,rfl,by omega,by omega,fun lv hlv=>?_⟩
    refine gJ (fun i τ H'=>Iv (∃ (v0:Option V),τ=[v0]∧Ow T H H' [(lv,.lst ((fW i).map V.int)),(ln,.lst (nms.map V.str)),(lf,.lst (fs.map V.int))])) ⟨trivial,none,rfl,O.mk' hlv rfl⟩ ?_ ?_
    · clear O
      rintro i τ H4 hi ⟨-,v0,rfl,O⟩
      refine Eu ?_
      refine ⟨_,rfl,_,_,rfl,rfl,?_⟩
      refine ⟨_,O.get 0,aU (by rw [List.length_map,j5];omega),?_⟩
      walk_at "pt"
      refine ⟨trivial,_,rfl,?_⟩
      rw [tE,List.map_append,← Int.zero_add (i:Int)];exact O
    clear O
    rintro τ H4 ⟨-,v0,rfl,O⟩
    rw [show ((mN:Int)).toNat=mN by omega] at O
    have hR:=lW mN
    have hrl:=j5 mN
    intro x dx nx ndx nex
    have O:=(O.mk' ndx (o:=.own x) rfl).mk' (a:=x) (o:=.ins C dx []) (by rw [aM nex.symm];exact nx) rfl
    refine ⟨x,dx,lv,H,_,fW mN,rfl,O,O.get 2,O.ne 2 0,tu hR (by omega) (by omega),by omega,fun A H5 eA O5=>⟨rfl,?_⟩⟩
    clear O nx ndx nex
    subst eA
    have O:=O5
    clear O5
    refine ⟨_,rfl,_,rfl,_,rfl,_,rfl,A,H,_,mN,lf,ln,fs,nms,rfl,O,List.mem_of_getElem? (i:=2) rfl,List.mem_of_getElem? (i:=1) rfl,y12,hm3,hmn,hm1,hm2,fun Hb H6 t ll lw day us ws ds ns ls s0 O d0 d1 z1 z6 n2 hnm hls dy0 dy1 n3=>?_⟩
    refine ⟨t,_,rfl,O.sqT 0,rfl,_,_,rfl,_,_,rfl,_,_,rfl,rfl,?_⟩
    have O:=O.tail
    refine ⟨_,rfl,A.p,A.dx,_,rfl,O.get 0,rfl,A.p,A.dx,A.ll,_,_,rfl,O.get 0,rfl,O.sq 3,fun k1 hk1=>?_⟩
    walk_at "nw"
    refine ⟨szl,fun lh hlh=>?_⟩
    walk_at "nw"
    obtain ⟨Hb1,O,sb1,eb1⟩:=O.jX 1
    have O:Ow T Hb1 _ (RL C A (fW mN) day us ns ds++[(lh,.lst [.ref k1]),(lw,.lst (ns.map V.str)),(ll,.lst ws),(lv,.lst ((fW mN).map V.int)),(ln,.lst (nms.map V.str)),(lf,.lst (fs.map V.int))]):=Ow.mid (R:=RL C A (fW mN) day us ns ds) O
    refine ⟨_,rfl,ll,_,rfl,.inl (O.sq 8),fun k2 hk2=>?_⟩
    walk_at "nw"
    refine ⟨szl,fun lk hlk=>?_⟩
    walk_at "nw"
    obtain ⟨Hb2,O,sb2,eb2⟩:=O.jX 1
    have O:Ow T Hb2 _ (RL C A (fW mN) day us ns ds++[(lk,.lst [.ref k2]),(lh,.lst [.ref k1]),(lw,.lst (ns.map V.str)),(ll,.lst ws),(lv,.lst ((fW mN).map V.int)),(ln,.lst (nms.map V.str)),(lf,.lst (fs.map V.int))]):=Ow.mid (R:=RL C A (fW mN) day us ns ds) O
    have O:Ow T Hb2 _ (RL C A (fW mN) day us ns ds++[(lk,.lst [.ref k2]),(lh,.lst [.ref k1]),(lw,.lst (ns.map V.str)),(ll,.lst ws),(ln,.lst (nms.map V.str))]):=(O.del 12).del 10
    obtain ⟨Hb3,O,sb3,eb3⟩:=O.jX 10
    have O:Ow T Hb3 _ (RL C A (fW mN) day us ns ds++[(ll,.lst ws),(lk,.lst [.ref k2]),(lh,.lst [.ref k1]),(lw,.lst (ns.map V.str))]):=Ow.mid (R:=RL C A (fW mN) day us ns ds) (O.pull 9 rfl)
    have O:Ow T Hb3 _ (RL C A (fW mN) day us ns ds++[(lw,.lst (ns.map V.str)),(ll,.lst ws),(lk,.lst [.ref k2]),(lh,.lst [.ref k1])]):=Ow.mid (R:=RL C A (fW mN) day us ns ds) (O.pull 9 rfl)
    have sA:=s0.trans (sb1.trans (sb2.trans sb3))
    have kp:∀ {Ha Hc:Hp} {q:Addr} {xs:List V},bf T Ha Hc→Ha q=some (.lst xs)→Hc q=some (.lst xs):=fun s e=>s.keep _ _ e (fun _ z=>nomatch z)
    have d0:=d0.mo (sb1.trans (sb2.trans sb3))
    have d1:=d1.mo (sb1.trans (sb2.trans sb3))
    have dk1:cW K Hb3 [V.ref k1] [.list (ls.map jA)]:=.cons (.list (SqL.of (kp (sb2.trans sb3) eb1)) d0) .nil
    have dk2:cW K Hb3 [V.ref k2] [.list (ls.map jA)]:=.cons (.list (SqL.of (kp sb3 eb2)) d1) .nil
    refine ⟨_,rfl,2,rfl,42,rfl,a,_,rfl,(sA.trans O.same).seq hS,fun lq hlq=>?_⟩
    walk_at "nw"
    rw [show uP (ns0.map V.int) (some 2) (some 42)=((ns0.drop 2).take 40).map V.int from Mw ns0 2 42] at O
    have hql:((ns0.drop 2).take 40).length≤40:=by rw [List.length_take];omega
    generalize (ns0.drop 2).take 40=qs at O hql
    obtain ⟨Hz,O,sz,ez⟩:=O.jX 0
    have O:Ow T Hz _ (RL C A (fW mN) day us ns ds++[(lw,.lst (ns.map V.str)),(ll,.lst ws),(lk,.lst [.ref k2]),(lh,.lst [.ref k1])]):=O
    have hQ:SqL K Hz lq (qs.map V.int):=SqL.of ez
    have hN:SqL K Hz ln (nms.map V.str):=SqL.of (kp sz eb3)
    have hS:=(sA.trans sz).seq hS
    have d0:=d0.mo sz
    have d1:=d1.mo sz
    have dk1:=dk1.mo sz
    have dk2:=dk2.mo sz
    clear s0 sb1 sb2 sb3 eb1 eb2 eb3 ez sA
    refine ⟨lq,rfl,⟨_,hQ.mo O.same⟩,?_⟩
    refine qP (K:=K) (xs:=qs.map V.int) (fun i σ H'=>Iv (∃ (Hb:Hp) (us ws ds hv kv:List V) (ns:List Str) (ls:List Lic) (hd:List PyData) (day:Int) (v10 v11 v12 v13 v14 v15:Option V),σ=[some (.ref a),some (.ref lf),some (.int (mN:Int)),some (.ref ln),some (.ref A.p),some (.int day),some (.ref ll),some (.ref lw),some (.ref lh),some (.ref lk),v10,v11,v12,v13,v14,v15] ∧
      Ow T Hb H' (RL C A (fW mN) day us ns ds++[(lw,.lst (ns.map V.str)),(ll,.lst ws),(lk,.lst kv),(lh,.lst hv)])∧bf T Hz Hb∧cW K Hb us (ls.map jA)∧cW K Hb ws (ls.map jA)∧cW K Hb hv hd∧cW K Hb kv hd ∧
      1≤ls.length∧ls.length≤6∧ns.length=ls.length∧ds.length≤12 + 3 * i∧hd.length=i + 1∧0≤day∧day≤6 + (i:Int)∧(∀ x∈ns,fu x)∧(∀ l∈ls,M5 (fW mN) l)∧∀ d∈hd,Sh 2 d))
      ⟨trivial,Hz,us,ws,ds,_,_,ns,ls,[.list (ls.map jA)],day,none,none,none,none,none,none,rfl,O,bf.refl O.same.t0,d0,d1,dk1,dk2,z1,z6,n2,n3,rfl,dy0,dy1,hnm,hls,fun d hd=>by rw [List.mem_singleton.mp hd];exact Sh.roll 0 ls⟩ (fun i σ H' _ ⟨_,_,_,_,_,_,_,_,_,_,_,_,_,_,_,_,_,_,O,s0,_⟩=>hQ.mo (s0.trans O.same)) ?_ ?_
    · clear O d0 d1 dk1 dk2 z1 z6 n2 n3 dy0 dy1 hnm hls
      rintro i y σ H6 hy ⟨-,Hb,us,ws,ds,hv,kv,ns,ls,hd,day,v10,v11,v12,v13,v14,v15,rfl,O,s0,d0,d1,d2,d3,z1,z6,n2,n3,n4,dy0,dy1,hnm,hls,hsd⟩
      obtain ⟨c,hc,rfl⟩:=ints_get hy
      have hi:=(List.getElem?_eq_some_iff.mp hc).1
      have hhl:hv.length=hd.length:=d2.length
      have hkl:kv.length=hd.length:=d3.length
      have hul:us.length=ls.length:=by rw [d0.length,List.length_map]
      have hwl:ws.length=ls.length:=by rw [d1.length,List.length_map]
      refine ⟨_,rfl,c,5,rfl,by omega,O.same.t1,O.PN fun lx H7 xs O e=>?_⟩
      subst e
      have O:Ow T Hb H7 (RL C A (fW mN) day us ns ds++[(lx,.lst ((dvs c 5).map V.int)),(lw,.lst (ns.map V.str)),(ll,.lst ws),(lk,.lst kv),(lh,.lst hv)]):=Ow.mid (R:=RL C A (fW mN) day us ns ds) O
      have hx5:=pX c 5
      generalize dvs c 5=ys at O hx5
      have g:∀ k:Nat,k<5→ys[k]?=some (ys.getD k 0):=fun k hk=>jz (by omega)
      have k0:=Int.emod_nonneg (ys.getD 1 0) (show (ws.length:Int)≠0 by omega)
      have k1:=Int.emod_lt_of_pos (ys.getD 1 0) (show (0:Int)<(ws.length:Int) by omega)
      refine ⟨_,rfl,lx,_,1,_,rfl,rfl,O.sq 6,bV (i:=1) (g 1 (by decide)),_,rfl,ll,_,rfl,.inl (O.sq 8),_,_,rfl,rfl,(by show (0:Int)<(ws.length:Int);omega),?_⟩
      dsimp only
      obtain ⟨n,hn⟩:∃ n:Nat,ys.getD 1 0 % (ws.length:Int)=(n:Int):=⟨(ys.getD 1 0 % (ws.length:Int)).toNat,by omega⟩
      rw [hn] at k0 k1 ⊢
      clear hn
      obtain ⟨x,hx⟩:∃ x,ns[n]?=some x:=⟨_,List.getElem?_eq_getElem (by omega)⟩
      obtain ⟨l,hl⟩:∃ l,ls[n]?=some l:=⟨_,List.getElem?_eq_getElem (by omega)⟩
      have hll:=hls l (List.mem_of_getElem? hl)
      refine ⟨_,rfl,_,rfl,lw,_,_,_,rfl,rfl,O.sq 7,fU (qK hx),?_⟩
      have j0:=Int.emod_nonneg (ys.getD 2 0) (show (3:Int)≠0 by decide)
      have j1:=Int.emod_lt_of_pos (ys.getD 2 0) (show (0:Int)<3 by decide)
      obtain ⟨z,hz,hzm⟩:=oH (ns:=nms) j0 (by omega)
      have nz:=hmn z hzm
      refine ⟨_,rfl,_,rfl,lx,_,2,_,rfl,rfl,O.sq 6,bV (i:=2) (g 2 (by decide)),_,_,rfl,rfl,(by show (0:Int)<3;decide),ln,_,_,_,rfl,rfl,hN.mo (s0.trans O.same),hz,?_⟩
      refine ⟨fun σ H'=>Iv (∃ (Hb:Hp) (us ws ds:List V) (ns:List Str) (ls:List Lic) (day:Int),σ=[some (.ref a),some (.ref lf),some (.int (mN:Int)),some (.ref ln),some (.ref A.p),some (.int day),some (.ref ll),some (.ref lw),some (.ref lh),some (.ref lk),some (.int c),some (.ref lx),some (.int (n:Int)),some (.str x),some (.str z),some .non] ∧
        Ow T Hb H' (RL C A (fW mN) day us ns ds++[(lx,.lst (ys.map V.int)),(lw,.lst (ns.map V.str)),(ll,.lst ws),(lk,.lst kv),(lh,.lst hv)])∧bf T Hz Hb∧cW K Hb us (ls.map jA)∧cW K Hb ws (ls.map jA)∧cW K Hb hv hd∧cW K Hb kv hd ∧
        1≤ls.length∧ls.length≤6∧ns.length=ls.length∧ds.length≤12 + 3 * (i + 1)∧0≤day∧day≤6 + ((i:Int) + 1)∧(∀ x∈ns,fu x)∧∀ l∈ls,M5 (fW mN) l),?_,?_⟩
      · refine ⟨_,rfl,lx,_,0,_,rfl,rfl,O.sq 6,bV (i:=0) (g 0 (by decide)),_,_,rfl,rfl,(by show (0:Int)<5;decide),rfl,_,rfl,ifI (fun _=>?_) (fun _=>?_)⟩
        · refine ⟨_,rfl,A.p,A.dx,_,rfl,O.get 0,rfl,A,Hb,_,fW mN,day,us,ns,ds,rfl,O,by omega,fun t H8 O=>?_⟩
          have O:=O.tail
          refine ⟨_,rfl,_,_,rfl,rfl,?_⟩
          exact ⟨trivial,Hb,us,ws,ds++[V.ref t],ns,ls,day + 1,rfl,O,s0,d0,d1,d2,d3,z1,z6,n2,by rw [List.length_append];simp;omega,by omega,by omega,hnm,hls⟩
        refine ⟨_,rfl,lx,_,0,_,rfl,rfl,O.sq 6,bV (i:=0) (g 0 (by decide)),_,_,rfl,rfl,(by show (0:Int)<5;decide),rfl,_,rfl,ifI (fun _=>?_) (fun _=>?_)⟩
        · refine ⟨_,rfl,A.p,A.dx,_,rfl,O.get 0,rfl,_,rfl,_,rfl,?_⟩
          refine ⟨A,Hb,_,fW mN,day,us,ns,ds,ls,n,l,x,x,rfl,O,d0,hl,hx,by omega,fun _ t1 t2 H10 O=>?_,fun h=>absurd rfl h⟩
          have O:=O.tail
          obtain ⟨Hn,O,sn,en⟩:=O.jX 0
          have d1:=d1.mo sn
          obtain ⟨al,hal,hT⟩:=d1.mq hl
          have hT:=hT.mo O.same
          refine ⟨_,rfl,_,rfl,ll,_,_,_,rfl,rfl,O.sq 8,fU hal,al,_,0,_,rfl,rfl,hT,rfl,_,rfl,_,rfl,ll,_,_,_,rfl,rfl,O.sq 8,fU hal,al,_,1,_,rfl,rfl,hT,rfl,1,rfl,szl,fun t ht=>?_⟩
          walk_at "nw"
          refine ⟨_,rfl,_,rfl,?_⟩
          refine mj O 9 rfl (jF (by omega)) fun H11 O=>?_
          obtain ⟨Hn2,O,sn2,en2⟩:=O.jX 0
          have hw0:wm l 0=⟨l.day,l.start,-1,0⟩:=by unfold wm;rw [hll.2]
          have sB:=sn.trans sn2
          refine ⟨trivial,Hn2,us.set n (V.ref t1),ws.set n (V.ref t),ds++[V.ref t2],ns,ls.set n (wm l 0),day,rfl,O,s0.trans sB,?_,?_,d2.mo sB,d3.mo sB,by rw [List.length_set];exact z1,by rw [List.length_set];exact z6,by rw [List.length_set];exact n2,by rw [List.length_append];simp;omega,dy0,by omega,hnm,?_⟩
          · rw [List.map_set]
            exact (d0.mo sB).set (Den.lic (l:=wm l 0) (SqT.of (sn2.keep _ _ en (fun _ z=>nomatch z)))) n
          · rw [List.map_set,hw0]
            exact (d1.mo sn2).set (Den.lic (l:=⟨l.day,l.start,-1,0⟩) (SqT.of en2)) n
          · intro y hy
            rcases List.mem_or_eq_of_mem_set hy with h | h
            · exact hls y h
            · rw [h]
              obtain ⟨⟨⟨a1,a2,a3,a4,a5,a6⟩,a7⟩,a8⟩:=hll
              exact ⟨⟨⟨a1,a2,a3,a4,by show (0:Int)≤0;decide,by show (0:Int)≤1000000000000;decide⟩,a7⟩,a8⟩
        · refine ⟨_,rfl,A.p,A.dx,_,rfl,O.get 0,rfl,_,rfl,_,rfl,_,rfl,?_⟩
          refine ⟨A,Hb,_,fW mN,day,us,ns,ds,n,x,x,z,rfl,O,by omega,hx,nz,by omega,fun _ t2 H8 O=>?_,fun h=>absurd rfl h⟩
          have O:=O.tail
          refine ⟨_,rfl,_,rfl,_,rfl,?_⟩
          refine mj O 7 rfl (jF (by rw [List.length_map];omega)) fun H9 O=>?_
          have hnl:=(List.getElem?_eq_some_iff.mp hx).1
          have hx2:(ns.set n z)[n]?=some z:=List.getElem?_set_self hnl
          have hnm2:∀ y∈ns.set n z,fu y:=fun y hy=>by
            rcases List.mem_or_eq_of_mem_set hy with h | h
            · exact hnm y h
            · rw [h];exact nz
          have n2':(ns.set n z).length=ls.length:=by rw [List.length_set];exact n2
          have O:Ow T Hb H9 (RL C A (fW mN) day us (ns.set n z) (ds++[.ref t2])++[(lx,.lst (ys.map V.int)),(lw,.lst ((ns.set n z).map V.str)),(ll,.lst ws),(lk,.lst kv),(lh,.lst hv)]):=by rw [List.map_set];exact O
          generalize ns.set n z=ns2 at O hx2 hnm2 n2'
          have n3':(ds++[V.ref t2]).length≤12 + 3 * i + 1:=by rw [List.length_append];simp;omega
          generalize ds++[V.ref t2]=ds2 at O n3'
          refine ⟨fun σ H'=>Iv (σ=[some (.ref a),some (.ref lf),some (.int (mN:Int)),some (.ref ln),some (.ref A.p),some (.int day),some (.ref ll),some (.ref lw),some (.ref lh),some (.ref lk),some (.int c),some (.ref lx),some (.int (n:Int)),some (.str x),some (.str z),some .non] ∧
            Ow T Hb H' (RL C A (fW mN) day us ns2 ds2++[(lx,.lst (ys.map V.int)),(lw,.lst (ns2.map V.str)),(ll,.lst ws),(lk,.lst kv),(lh,.lst hv)])),?_,?_⟩
          · refine ⟨_,rfl,_,rfl,rfl,_,rfl,ifN (ifD (fun _=>⟨trivial,rfl,O⟩) (fun hne=>?_))⟩
            refine ⟨_,rfl,_,rfl,_,rfl,_,rfl,_,rfl,lx,_,3,_,rfl,rfl,O.sq 6,bV (i:=3) (g 3 (by decide)),_,_,rfl,rfl,(by show (0:Int)<4;decide),A,Hb,_,fW mN,day,us,ns2,ds2,ls,n,l,z,x,z,_,rfl,O,d0,hl,hx2,n2',nz,by omega,by omega,hR,by omega,fun e=>hne (by rw [e]),fun H10 s10=>?_⟩
            exact ⟨_,rfl,jG ⟨trivial,rfl,O.jJ s10⟩⟩
          clear O
          rintro σ H10 ⟨-,rfl,O⟩
          have zl:z.length≤8:=nz.2.1
          refine ⟨_,rfl,_,rfl,_,rfl,_,_,rfl,rfl,(by show z.length + 1≤sizeLine;rw [sizeLine_eq];omega),_,rfl,_,rfl,lx,_,3,_,rfl,rfl,O.sq 6,bV (i:=3) (g 3 (by decide)),_,_,rfl,rfl,⟨by decide,by decide⟩,_,_,rfl,rfl,(by show (0:Int)<4;decide),A,Hb,_,fW mN,day,us,ns2,ds2,ls,n,l,z,z++("b":Str),z,_,rfl,O,d0,hl,hx2,n2',nz,by omega,by omega,hR,by omega,vA z,fun H11 s11=>?_⟩
          have O:=O.jJ s11
          refine ⟨_,rfl,jG ?_⟩
          obtain ⟨al,hal,hT⟩:=d1.mq hl
          have hT:=hT.mo O.same
          refine ⟨_,rfl,A.p,A.dx,_,rfl,O.get 0,rfl,_,rfl,_,rfl,_,rfl,_,rfl,ll,_,_,_,rfl,rfl,O.sq 8,fU hal,al,_,1,_,rfl,rfl,hT,rfl,?_⟩
          refine ⟨A,Hb,_,fW mN,day,us,ns2,ds2,ls,n,l,z,z,l.start,rfl,O,d0,hl,hx2,hR,by omega,by omega,fun h=>absurd rfl h,fun _ h=>absurd hll.1 h,fun _ _ t3 t4 H12 O=>?_⟩
          have O:=O.tail
          obtain ⟨Hn,O,sn,en⟩:=O.jX 0
          refine ⟨rfl,_,rfl,jG ?_⟩
          refine ⟨trivial,Hn,us.set n (V.ref t3),ws,ds2++[V.ref t4],ns2,ls,day,rfl,O,s0.trans sn,?_,d1.mo sn,d2.mo sn,d3.mo sn,z1,z6,n2',by rw [List.length_append];simp;omega,dy0,by omega,hnm2,hls⟩
          have hset:ls.set n l=ls:=by
            obtain ⟨hi2,e⟩:=List.getElem?_eq_some_iff.mp hl
            rw [← e];exact List.set_getElem_self hi2
          rw [← hset,List.map_set]
          exact (d0.mo sn).set (Den.lic (l:=l) (SqT.of en)) n
      clear O d0 d1 d2 d3 s0 hul hwl hnm hls z1 z6 n2 n3 dy0 dy1 hll hl k1 hx
      rintro σ H8 ⟨-,Hb,us,ws,ds,ns,ls,day,rfl,O,s0,d0,d1,d2,d3,z1,z6,n2,n3,dy0,dy1,hnm,hls⟩
      refine ⟨_,rfl,rfl,_,rfl,jG ?_⟩
      refine ⟨_,rfl,_,rfl,lx,_,4,_,rfl,rfl,O.sq 6,bV (i:=4) (g 4 (by decide)),_,_,rfl,rfl,(by show (0:Int)<2;decide),_,rfl,_,rfl,_,rfl,A,day,_,us,ws,ns,ls,ll,lw,rfl,O.get 0,O.sq 3,O.sq 4,O.sq 8,O.sq 7,d0.mo O.same,d1.mo O.same,hnm,O.same.t1,fun H9 s9=>?_⟩
      have O:=O.jJ s9
      refine ⟨_,rfl,jG ?_⟩
      refine ⟨_,rfl,.inl ⟨rfl,_,O.sq 10⟩,_,rfl,A.p,A.dx,_,rfl,O.get 0,rfl,A.p,A.dx,A.ll,_,_,rfl,O.get 0,rfl,O.sq 3,fun k1 hk1=>?_⟩
      walk_at "nw"
      refine ⟨lh,_,_,rfl,rfl,O.get 11,aU (by omega),?_⟩
      generalize hE:upd _ _ _=Hn1
      have O:=Ow.lK O 11 rfl hE rfl
      clear hE
      obtain ⟨Hc1,O,sc1,ec1⟩:=O.jX 0
      refine ⟨_,rfl,.inl ⟨rfl,_,O.sq 9⟩,_,rfl,ll,_,rfl,.inl (O.sq 8),fun k3 hk3=>?_⟩
      walk_at "nw"
      refine ⟨lk,_,_,rfl,rfl,O.get 10,aU (by omega),?_⟩
      generalize hE:upd _ _ _=Hn3
      have O:=Ow.lK O 10 rfl hE rfl
      clear hE
      obtain ⟨Hc3,O,sc3,ec3⟩:=O.jX 0
      have sc:=sc1.trans sc3
      refine ⟨trivial,Hc3,us,ws,ds,hv++[V.ref k1],kv++[V.ref k3],ns,ls,hd++[.list (ls.map jA)],day,_,_,_,_,_,_,rfl,O.del 6,s0.trans sc,d0.mo sc,d1.mo sc,?_,?_,z1,z6,n2,n3,by rw [List.length_append,n4];rfl,dy0,by omega,hnm,hls,?_⟩
      · exact (d2.mo sc).append (.cons (.list (SqL.of (kp sc3 ec1)) (d0.mo sc)) .nil)
      · exact (d3.mo sc).append (.cons (.list (SqL.of ec3) (d1.mo sc)) .nil)
      · intro d hd'
        rcases List.mem_append.mp hd' with e | e
        · exact hsd d e
        · rw [List.mem_singleton.mp e];exact Sh.roll 0 ls
    clear O d0 d1 dk1 dk2 z1 z6 n2 n3 dy0 dy1 hnm hls
    rintro σ H8 ⟨-,Hb,us,ws,ds,hv,kv,ns,ls,hd,day,v10,v11,v12,v13,v14,v15,rfl,O,s0,d0,d1,d2,d3,z1,z6,n2,n3,n4,dy0,dy1,hnm,hls,hsd⟩
    have hsh:Sh 3 (.list hd):=.list hsd
    refine ⟨_,rfl,_,rfl,_,_,.list (O.sq 9) (d2.mo O.same),.list (O.sq 8) (d3.mo O.same),hsh.ok (by decide),hsh.ok (by decide),?_⟩
    rw [if_neg Bool.false_ne_true,j9 hsh]
    refine ⟨_,rfl,lM ?_⟩
    exact ⟨_,rfl,_,rfl,a,ns0,1,rfl,hS.mo (s0.trans O.same),_,_,rfl,rfl,(by show (0:Int)<2;decide),_,rfl,_,rfl,_,rfl,A,day,_,us,ws,ns,ls,ll,lw,rfl,O.get 0,O.sq 3,O.sq 4,O.sq 7,O.sq 6,d0.mo O.same,d1.mo O.same,hnm,O.same.t1,fun H9 _=>k _⟩
end
theorem gF {K:PySem.W.Frag} {x qual:Str} {st:Stmt} {f:Addr} {fd:FuncData} {n0:Str} (F:Fun K x qual st f fd) (h:∀ (kV doc pm:Value) (an:Option Addr) (cdv ct u0:Value),bindArgs (PySem.W.fnOf x qual (aq st) (ao st) (ak st) .none kV doc pm an cdv ct) ⟨[u0],[]⟩=pure (([n0]:List Str).zip [u0])):Binds K fd [n0] [] :=
  F.binds (ps:=[n0]) fun kV doc pm an cdv ct us hl=>match us,hl with | [u0],_=>h kV doc pm an cdv ct u0
theorem ig {K:PySem.W.Frag} {x qual:Str} {st:Stmt} {f:Addr} {fd:FuncData} {n0 n1:Str} (F:Fun K x qual st f fd) (h:∀ (kV doc pm:Value) (an:Option Addr) (cdv ct u0 u1:Value),bindArgs (PySem.W.fnOf x qual (aq st) (ao st) (ak st) .none kV doc pm an cdv ct) ⟨[u0,u1],[]⟩=pure (([n0,n1]:List Str).zip [u0,u1])):Binds K fd [n0,n1] [] :=
  F.binds (ps:=[n0,n1]) fun kV doc pm an cdv ct us hl=>match us,hl with | [u0,u1],_=>h kV doc pm an cdv ct u0 u1
theorem qZ {K:PySem.W.Frag} {x qual:Str} {st:Stmt} {f:Addr} {fd:FuncData} {n0 n1 n2:Str} (F:Fun K x qual st f fd) (h:∀ (kV doc pm:Value) (an:Option Addr) (cdv ct u0 u1 u2:Value),bindArgs (PySem.W.fnOf x qual (aq st) (ao st) (ak st) .none kV doc pm an cdv ct) ⟨[u0,u1,u2],[]⟩=pure (([n0,n1,n2]:List Str).zip [u0,u1,u2])):Binds K fd [n0,n1,n2] [] :=
  F.binds (ps:=[n0,n1,n2]) fun kV doc pm an cdv ct us hl=>match us,hl with | [u0,u1,u2],_=>h kV doc pm an cdv ct u0 u1 u2
theorem uY {K:PySem.W.Frag} {x qual:Str} {st:Stmt} {f:Addr} {fd:FuncData} {n0 n1 n2 n3:Str} (F:Fun K x qual st f fd) (h:∀ (kV doc pm:Value) (an:Option Addr) (cdv ct u0 u1 u2 u3:Value),bindArgs (PySem.W.fnOf x qual (aq st) (ao st) (ak st) .none kV doc pm an cdv ct) ⟨[u0,u1,u2,u3],[]⟩=pure (([n0,n1,n2,n3]:List Str).zip [u0,u1,u2,u3])):Binds K fd [n0,n1,n2,n3] [] :=
  F.binds (ps:=[n0,n1,n2,n3]) fun kV doc pm an cdv ct us hl=>match us,hl with | [u0,u1,u2,u3],_=>h kV doc pm an cdv ct u0 u1 u2 u3
theorem uX {K:PySem.W.Frag} {x qual:Str} {st:Stmt} {f:Addr} {fd:FuncData} {n0 n1 n2 n3 n4:Str} (F:Fun K x qual st f fd) (h:∀ (kV doc pm:Value) (an:Option Addr) (cdv ct u0 u1 u2 u3 u4:Value),bindArgs (PySem.W.fnOf x qual (aq st) (ao st) (ak st) .none kV doc pm an cdv ct) ⟨[u0,u1,u2,u3,u4],[]⟩=pure (([n0,n1,n2,n3,n4]:List Str).zip [u0,u1,u2,u3,u4])):Binds K fd [n0,n1,n2,n3,n4] [] :=
  F.binds (ps:=[n0,n1,n2,n3,n4]) fun kV doc pm an cdv ct us hl=>match us,hl with | [u0,u1,u2,u3,u4],_=>h kV doc pm an cdv ct u0 u1 u2 u3 u4
theorem all_mk {l:PySem.W.OpenLaw} {w:World} {K:PySem.W.Frag} {h:Heap} {mg:Str→Option Value} {fa f0 f1 f2 f3 f4 f5 f6 f7 f8 f9 f10 f11 f12 f13 f14 f15 f16 f17 f18 f19 f20 cR_Roll fm_Roll___init__ fm_Roll_today fm_Roll_roll fm_Roll_holders fm_Roll_turn fm_Roll_file dT_Roll_file fm_Roll_sell fm_Roll_part fm_Roll_drop fm_Roll_move fm_Roll_look_move fm_Roll_enter fm_Roll_is_alone fm_Roll_look_at_number fm_Roll_look_at_holder fm_Roll_look_at_room cX_SluiceError cX_NotYours cX_NoLicence cX_NoNumber cX_NotAlone cX_TooMuch:Addr} (X:K.In h) (G:h.Ns mainGlobals mg) (hfa:mg "law"=some (.ref fa))
    {odM0 anM0 odM1 anM1 odM2 anM2 odM3 anM3 odM4 anM4 odM5 anM5 odM6 anM6 odM7 anM7 odM8 anM8 odM9 anM9 odM10 anM10 odM11 anM11 odM12 anM12 odM13 anM13 odM14 anM14 odM15 anM15:Option Addr} {slM0 slM1 slM2 slM3 slM4 slM5 slM6 slM7 slM8 slM9 slM10 slM11 slM12 slM13 slM14 slM15:Array (Option Value)} {ocM0 kVM0 dcM0 pmM0 cdM0 ctM0 ocM1 kVM1 dcM1 pmM1 cdM1 ctM1 ocM2 kVM2 dcM2 pmM2 cdM2 ctM2 ocM3 kVM3 dcM3 pmM3 cdM3 ctM3 ocM4 kVM4 dcM4 pmM4 cdM4 ctM4 ocM5 kVM5 dcM5 pmM5 cdM5 ctM5 ocM6 kVM6 dcM6 pmM6 cdM6 ctM6 ocM7 kVM7 dcM7 pmM7 cdM7 ctM7 ocM8 kVM8 dcM8 pmM8 cdM8 ctM8 ocM9 kVM9 dcM9 pmM9 cdM9 ctM9 ocM10 kVM10 dcM10 pmM10 cdM10 ctM10 ocM11 kVM11 dcM11 pmM11 cdM11 ctM11 ocM12 kVM12 dcM12 pmM12 cdM12 ctM12 ocM13 kVM13 dcM13 pmM13 cdM13 ctM13 ocM14 kVM14 dcM14 pmM14 cdM14 ctM14 ocM15 kVM15 dcM15 pmM15 cdM15 ctM15:Value} {oT_Roll_file:Obj}
    {od0 an0 od1 an1 od2 an2 od3 an3 od4 an4 od5 an5 od6 an6 od7 an7 od8 an8 od9 an9 od10 an10 od11 an11 od12 an12 od13 an13 od14 an14 od15 an15 od16 an16 od17 an17 od18 an18 od19 an19 od20 an20:Option Addr} {sl0 sl1 sl2 sl3 sl4 sl5 sl6 sl7 sl8 sl9 sl10 sl11 sl12 sl13 sl14 sl15 sl16 sl17 sl18 sl19 sl20:Array (Option Value)} {oc0 kV0 dc0 pm0 cd0 ct0 oc1 kV1 dc1 pm1 cd1 ct1 oc2 kV2 dc2 pm2 cd2 ct2 oc3 kV3 dc3 pm3 cd3 ct3 oc4 kV4 dc4 pm4 cd4 ct4 oc5 kV5 dc5 pm5 cd5 ct5 oc6 kV6 dc6 pm6 cd6 ct6 oc7 kV7 dc7 pm7 cd7 ct7 oc8 kV8 dc8 pm8 cd8 ct8 oc9 kV9 dc9 pm9 cd9 ct9 oc10 kV10 dc10 pm10 cd10 ct10 oc11 kV11 dc11 pm11 cd11 ct11 oc12 kV12 dc12 pm12 cd12 ct12 oc13 kV13 dc13 pm13 cd13 ct13 oc14 kV14 dc14 pm14 cd14 ct14 oc15 kV15 dc15 pm15 cd15 ct15 oc16 kV16 dc16 pm16 cd16 ct16 oc17 kV17 dc17 pm17 cd17 ct17 oc18 kV18 dc18 pm18 cd18 ct18 oc19 kV19 dc19 pm19 cd19 ct19 oc20 kV20 dc20 pm20 cd20 ct20:Value} {t0 t1 t2 t3 t4 t5 t6:Tok}
    (a0:PySem.W.nsIn K mainGlobals "is_water"=some (some (.ref f0))) (l0:K.lookup f0=some ⟨oc0,od0,.func (PySem.W.fnOf "is_water" "is_water" (aq eG) (ao eG) (ak eG) .none kV0 dc0 pm0 an0 cd0 ct0),sl0⟩) (c0:PySem.W.codeIn K cd0 "is_water"=true) (k0:PySem.W.keepIn K (.ref f0)=true)
    (a1:PySem.W.nsIn K mainGlobals "is_name"=some (some (.ref f1))) (l1:K.lookup f1=some ⟨oc1,od1,.func (PySem.W.fnOf "is_name" "is_name" (aq eZ) (ao eZ) (ak eZ) .none kV1 dc1 pm1 an1 cd1 ct1),sl1⟩) (c1:PySem.W.codeIn K cd1 "is_name"=true) (k1:PySem.W.keepIn K (.ref f1)=true)
    (a2:PySem.W.nsIn K mainGlobals "comes_to_mouth"=some (some (.ref f2))) (l2:K.lookup f2=some ⟨oc2,od2,.func (PySem.W.fnOf "comes_to_mouth" "comes_to_mouth" (aq bA) (ao bA) (ak bA) .none kV2 dc2 pm2 an2 cd2 ct2),sl2⟩) (c2:PySem.W.codeIn K cd2 "comes_to_mouth"=true) (k2:PySem.W.keepIn K (.ref f2)=true)
    (a3:PySem.W.nsIn K mainGlobals "is_river"=some (some (.ref f3))) (l3:K.lookup f3=some ⟨oc3,od3,.func (PySem.W.fnOf "is_river" "is_river" (aq dR) (ao dR) (ak dR) .none kV3 dc3 pm3 an3 cd3 ct3),sl3⟩) (c3:PySem.W.codeIn K cd3 "is_river"=true) (k3:PySem.W.keepIn K (.ref f3)=true)
    (a4:PySem.W.nsIn K mainGlobals "way_of"=some (some (.ref f4))) (l4:K.lookup f4=some ⟨oc4,od4,.func (PySem.W.fnOf "way_of" "way_of" (aq gC) (ao gC) (ak gC) .none kV4 dc4 pm4 an4 cd4 ct4),sl4⟩) (c4:PySem.W.codeIn K cd4 "way_of"=true) (k4:PySem.W.keepIn K (.ref f4)=true)
    (a5:PySem.W.nsIn K mainGlobals "is_licence"=some (some (.ref f5))) (l5:K.lookup f5=some ⟨oc5,od5,.func (PySem.W.fnOf "is_licence" "is_licence" (aq cF) (ao cF) (ak cF) .none kV5 dc5 pm5 an5 cd5 ct5),sl5⟩) (c5:PySem.W.codeIn K cd5 "is_licence"=true) (k5:PySem.W.keepIn K (.ref f5)=true)
    (a6:PySem.W.nsIn K mainGlobals "day_filed"=some (some (.ref f6))) (l6:K.lookup f6=some ⟨oc6,od6,.func (PySem.W.fnOf "day_filed" "day_filed" (aq dU) (ao dU) (ak dU) .none kV6 dc6 pm6 an6 cd6 ct6),sl6⟩) (c6:PySem.W.codeIn K cd6 "day_filed"=true) (k6:PySem.W.keepIn K (.ref f6)=true)
    (a7:PySem.W.nsIn K mainGlobals "most_of"=some (some (.ref f7))) (l7:K.lookup f7=some ⟨oc7,od7,.func (PySem.W.fnOf "most_of" "most_of" (aq eY) (ao eY) (ak eY) .none kV7 dc7 pm7 an7 cd7 ct7),sl7⟩) (c7:PySem.W.codeIn K cd7 "most_of"=true) (k7:PySem.W.keepIn K (.ref f7)=true)
    (a8:PySem.W.nsIn K mainGlobals "with_start"=some (some (.ref f8))) (l8:K.lookup f8=some ⟨oc8,od8,.func (PySem.W.fnOf "with_start" "with_start" (aq cX) (ao cX) (ak cX) .none kV8 dc8 pm8 an8 cd8 ct8),sl8⟩) (c8:PySem.W.codeIn K cd8 "with_start"=true) (k8:PySem.W.keepIn K (.ref f8)=true)
    (a9:PySem.W.nsIn K mainGlobals "with_most"=some (some (.ref f9))) (l9:K.lookup f9=some ⟨oc9,od9,.func (PySem.W.fnOf "with_most" "with_most" (aq dh) (ao dh) (ak dh) .none kV9 dc9 pm9 an9 cd9 ct9),sl9⟩) (c9:PySem.W.codeIn K cd9 "with_most"=true) (k9:PySem.W.keepIn K (.ref f9)=true)
    (a10:PySem.W.nsIn K mainGlobals "look_at_name"=some (some (.ref f10))) (l10:K.lookup f10=some ⟨oc10,od10,.func (PySem.W.fnOf "look_at_name" "look_at_name" (aq bh) (ao bh) (ak bh) .none kV10 dc10 pm10 an10 cd10 ct10),sl10⟩) (c10:PySem.W.codeIn K cd10 "look_at_name"=true) (k10:PySem.W.keepIn K (.ref f10)=true)
    (a11:PySem.W.nsIn K mainGlobals "_law_cell_at"=some (some (.ref f11))) (l11:K.lookup f11=some ⟨oc11,od11,.func (PySem.W.fnOf "_law_cell_at" "_law_cell_at" (aq bZ) (ao bZ) (ak bZ) .none kV11 dc11 pm11 an11 cd11 ct11),sl11⟩) (c11:PySem.W.codeIn K cd11 "_law_cell_at"=true) (k11:PySem.W.keepIn K (.ref f11)=true)
    (a12:PySem.W.nsIn K mainGlobals "_law_whole"=some (some (.ref f12))) (l12:K.lookup f12=some ⟨oc12,od12,.func (PySem.W.fnOf "_law_whole" "_law_whole" (aq cG) (ao cG) (ak cG) .none kV12 dc12 pm12 an12 cd12 ct12),sl12⟩) (c12:PySem.W.codeIn K cd12 "_law_whole"=true) (k12:PySem.W.keepIn K (.ref f12)=true)
    (a13:PySem.W.nsIn K mainGlobals "_law_draw"=some (some (.ref f13))) (l13:K.lookup f13=some ⟨oc13,od13,.func (PySem.W.fnOf "_law_draw" "_law_draw" (aq dW) (ao dW) (ak dW) .none kV13 dc13 pm13 an13 cd13 ct13),sl13⟩) (c13:PySem.W.codeIn K cd13 "_law_draw"=true) (k13:PySem.W.keepIn K (.ref f13)=true)
    (a14:PySem.W.nsIn K mainGlobals "_law_draws"=some (some (.ref f14))) (l14:K.lookup f14=some ⟨oc14,od14,.func (PySem.W.fnOf "_law_draws" "_law_draws" (aq cI) (ao cI) (ak cI) .none kV14 dc14 pm14 an14 cd14 ct14),sl14⟩) (c14:PySem.W.codeIn K cd14 "_law_draws"=true) (k14:PySem.W.keepIn K (.ref f14)=true)
    (a15:PySem.W.nsIn K mainGlobals "_law_names"=some (some (.ref f15))) (l15:K.lookup f15=some ⟨oc15,od15,.func (PySem.W.fnOf "_law_names" "_law_names" (aq bY) (ao bY) (ak bY) .none kV15 dc15 pm15 an15 cd15 ct15),sl15⟩) (c15:PySem.W.codeIn K cd15 "_law_names"=true) (k15:PySem.W.keepIn K (.ref f15)=true)
    (a16:PySem.W.nsIn K mainGlobals "_law_alike_lines"=some (some (.ref f16))) (l16:K.lookup f16=some ⟨oc16,od16,.func (PySem.W.fnOf "_law_alike_lines" "_law_alike_lines" (aq aO) (ao aO) (ak aO) .none kV16 dc16 pm16 an16 cd16 ct16),sl16⟩) (c16:PySem.W.codeIn K cd16 "_law_alike_lines"=true) (k16:PySem.W.keepIn K (.ref f16)=true)
    (a17:PySem.W.nsIn K mainGlobals "_law_right"=some (some (.ref f17))) (l17:K.lookup f17=some ⟨oc17,od17,.func (PySem.W.fnOf "_law_right" "_law_right" (aq cH) (ao cH) (ak cH) .none kV17 dc17 pm17 an17 cd17 ct17),sl17⟩) (c17:PySem.W.codeIn K cd17 "_law_right"=true) (k17:PySem.W.keepIn K (.ref f17)=true)
    (a18:PySem.W.nsIn K mainGlobals "_law_not_yours"=some (some (.ref f18))) (l18:K.lookup f18=some ⟨oc18,od18,.func (PySem.W.fnOf "_law_not_yours" "_law_not_yours" (aq bB) (ao bB) (ak bB) .none kV18 dc18 pm18 an18 cd18 ct18),sl18⟩) (c18:PySem.W.codeIn K cd18 "_law_not_yours"=true) (k18:PySem.W.keepIn K (.ref f18)=true)
    (a19:PySem.W.nsIn K mainGlobals "_law_begun"=some (some (.ref f19))) (l19:K.lookup f19=some ⟨oc19,od19,.func (PySem.W.fnOf "_law_begun" "_law_begun" (aq cZ) (ao cZ) (ak cZ) .none kV19 dc19 pm19 an19 cd19 ct19),sl19⟩) (c19:PySem.W.codeIn K cd19 "_law_begun"=true) (k19:PySem.W.keepIn K (.ref f19)=true)
    (a20:PySem.W.nsIn K mainGlobals "law"=some (some (.ref f20))) (l20:K.lookup f20=some ⟨oc20,od20,.func (PySem.W.fnOf "law" "law" (aq kW) (ao kW) (ak kW) .none kV20 dc20 pm20 an20 cd20 ct20),sl20⟩) (c20:PySem.W.codeIn K cd20 "law"=true) (k20:PySem.W.keepIn K (.ref f20)=true)
    (e0:PySem.W.nsIn K mainGlobals "MOST_WATER"=some (some (.int (1000000000000) t0)))
    (e1:PySem.W.nsIn K mainGlobals "LONGEST_NAME"=some (some (.int (8) t1)))
    (e2:PySem.W.nsIn K mainGlobals "LETTERS"=some (some (.str "abcdefghijklmnopqrstuvwxyz" t2)))
    (e3:PySem.W.nsIn K mainGlobals "MOST_REACHES"=some (some (.int (40) t3)))
    (e4:PySem.W.nsIn K mainGlobals "MOUTH"=some (some (.int (-1) t4)))
    (e5:PySem.W.nsIn K mainGlobals "LAST_DAY"=some (some (.int (1000000) t5)))
    (e6:PySem.W.nsIn K mainGlobals "MOST_LICENCES"=some (some (.int (60) t6)))
    (n_Roll:PySem.W.nsIn K mainGlobals "Roll"=some (some (.ref cR_Roll))) (ka_Roll:PySem.W.plainGet K cR_Roll Str.empty=true) (kb_Roll:PySem.W.hasDictIn K cR_Roll=true) (kc_Roll:PySem.W.plainOver K cR_Roll=true) (kd_Roll:PySem.W.findIn K (.ref cR_Roll) "__setattr__"=some (some (.builtin "object.__setattr__")))
    (ke_Roll:PySem.W.makesIn K cR_Roll=true) (kf_Roll:PySem.W.keepIn K (.ref cR_Roll)=true)
    (kn_Roll_below:PySem.W.findIn K (.ref cR_Roll) "below"=some none)
    (kn_Roll_day:PySem.W.findIn K (.ref cR_Roll) "day"=some none)
    (kn_Roll_licences:PySem.W.findIn K (.ref cR_Roll) "licences"=some none)
    (kn_Roll_names:PySem.W.findIn K (.ref cR_Roll) "names"=some none)
    (kn_Roll_done:PySem.W.findIn K (.ref cR_Roll) "done"=some none)
    (ma_Roll___init__:PySem.W.findIn K (.ref cR_Roll) "__init__"=some (some (.ref fm_Roll___init__))) (mf_Roll___init__:PySem.W.isFn K (.ref fm_Roll___init__)=true) (mk_Roll___init__:PySem.W.keepIn K (.ref fm_Roll___init__)=true) (ml_Roll___init__:K.lookup fm_Roll___init__=some ⟨ocM0,odM0,.func (PySem.W.fnOf "__init__" "Roll.__init__" (aq bI) (ao bI) (ak bI) .none kVM0 dcM0 pmM0 anM0 cdM0 ctM0),slM0⟩) (mc_Roll___init__:PySem.W.codeIn K cdM0 "Roll.__init__"=true)
    (ma_Roll_today:PySem.W.findIn K (.ref cR_Roll) "today"=some (some (.ref fm_Roll_today))) (mf_Roll_today:PySem.W.isFn K (.ref fm_Roll_today)=true) (mk_Roll_today:PySem.W.keepIn K (.ref fm_Roll_today)=true) (ml_Roll_today:K.lookup fm_Roll_today=some ⟨ocM1,odM1,.func (PySem.W.fnOf "today" "Roll.today" (aq dg) (ao dg) (ak dg) .none kVM1 dcM1 pmM1 anM1 cdM1 ctM1),slM1⟩) (mc_Roll_today:PySem.W.codeIn K cdM1 "Roll.today"=true)
    (ma_Roll_roll:PySem.W.findIn K (.ref cR_Roll) "roll"=some (some (.ref fm_Roll_roll))) (mf_Roll_roll:PySem.W.isFn K (.ref fm_Roll_roll)=true) (mk_Roll_roll:PySem.W.keepIn K (.ref fm_Roll_roll)=true) (ml_Roll_roll:K.lookup fm_Roll_roll=some ⟨ocM2,odM2,.func (PySem.W.fnOf "roll" "Roll.roll" (aq dz) (ao dz) (ak dz) .none kVM2 dcM2 pmM2 anM2 cdM2 ctM2),slM2⟩) (mc_Roll_roll:PySem.W.codeIn K cdM2 "Roll.roll"=true)
    (ma_Roll_holders:PySem.W.findIn K (.ref cR_Roll) "holders"=some (some (.ref fm_Roll_holders))) (mf_Roll_holders:PySem.W.isFn K (.ref fm_Roll_holders)=true) (mk_Roll_holders:PySem.W.keepIn K (.ref fm_Roll_holders)=true) (ml_Roll_holders:K.lookup fm_Roll_holders=some ⟨ocM3,odM3,.func (PySem.W.fnOf "holders" "Roll.holders" (aq cg) (ao cg) (ak cg) .none kVM3 dcM3 pmM3 anM3 cdM3 ctM3),slM3⟩) (mc_Roll_holders:PySem.W.codeIn K cdM3 "Roll.holders"=true)
    (ma_Roll_turn:PySem.W.findIn K (.ref cR_Roll) "turn"=some (some (.ref fm_Roll_turn))) (mf_Roll_turn:PySem.W.isFn K (.ref fm_Roll_turn)=true) (mk_Roll_turn:PySem.W.keepIn K (.ref fm_Roll_turn)=true) (ml_Roll_turn:K.lookup fm_Roll_turn=some ⟨ocM4,odM4,.func (PySem.W.fnOf "turn" "Roll.turn" (aq dj) (ao dj) (ak dj) .none kVM4 dcM4 pmM4 anM4 cdM4 ctM4),slM4⟩) (mc_Roll_turn:PySem.W.codeIn K cdM4 "Roll.turn"=true)
    (ma_Roll_file:PySem.W.findIn K (.ref cR_Roll) "file"=some (some (.ref fm_Roll_file))) (mf_Roll_file:PySem.W.isFn K (.ref fm_Roll_file)=true) (mk_Roll_file:PySem.W.keepIn K (.ref fm_Roll_file)=true) (ml_Roll_file:K.lookup fm_Roll_file=some ⟨ocM5,odM5,.func (PySem.W.fnOf "file" "Roll.file" (aq dY) (ao dY) (ak dY) (.ref dT_Roll_file) kVM5 dcM5 pmM5 anM5 cdM5 ctM5),slM5⟩) (mc_Roll_file:PySem.W.codeIn K cdM5 "Roll.file"=true)
    (mt_Roll_file:K.lookup dT_Roll_file=some oT_Roll_file) (mu_Roll_file:∃ n,oT_Roll_file.data=.seq #[.none] n)
    (ma_Roll_sell:PySem.W.findIn K (.ref cR_Roll) "sell"=some (some (.ref fm_Roll_sell))) (mf_Roll_sell:PySem.W.isFn K (.ref fm_Roll_sell)=true) (mk_Roll_sell:PySem.W.keepIn K (.ref fm_Roll_sell)=true) (ml_Roll_sell:K.lookup fm_Roll_sell=some ⟨ocM6,odM6,.func (PySem.W.fnOf "sell" "Roll.sell" (aq dw) (ao dw) (ak dw) .none kVM6 dcM6 pmM6 anM6 cdM6 ctM6),slM6⟩) (mc_Roll_sell:PySem.W.codeIn K cdM6 "Roll.sell"=true)
    (ma_Roll_part:PySem.W.findIn K (.ref cR_Roll) "part"=some (some (.ref fm_Roll_part))) (mf_Roll_part:PySem.W.isFn K (.ref fm_Roll_part)=true) (mk_Roll_part:PySem.W.keepIn K (.ref fm_Roll_part)=true) (ml_Roll_part:K.lookup fm_Roll_part=some ⟨ocM7,odM7,.func (PySem.W.fnOf "part" "Roll.part" (aq dX) (ao dX) (ak dX) .none kVM7 dcM7 pmM7 anM7 cdM7 ctM7),slM7⟩) (mc_Roll_part:PySem.W.codeIn K cdM7 "Roll.part"=true)
    (ma_Roll_drop:PySem.W.findIn K (.ref cR_Roll) "drop"=some (some (.ref fm_Roll_drop))) (mf_Roll_drop:PySem.W.isFn K (.ref fm_Roll_drop)=true) (mk_Roll_drop:PySem.W.keepIn K (.ref fm_Roll_drop)=true) (ml_Roll_drop:K.lookup fm_Roll_drop=some ⟨ocM8,odM8,.func (PySem.W.fnOf "drop" "Roll.drop" (aq dD) (ao dD) (ak dD) .none kVM8 dcM8 pmM8 anM8 cdM8 ctM8),slM8⟩) (mc_Roll_drop:PySem.W.codeIn K cdM8 "Roll.drop"=true)
    (ma_Roll_move:PySem.W.findIn K (.ref cR_Roll) "move"=some (some (.ref fm_Roll_move))) (mf_Roll_move:PySem.W.isFn K (.ref fm_Roll_move)=true) (mk_Roll_move:PySem.W.keepIn K (.ref fm_Roll_move)=true) (ml_Roll_move:K.lookup fm_Roll_move=some ⟨ocM9,odM9,.func (PySem.W.fnOf "move" "Roll.move" (aq dB) (ao dB) (ak dB) .none kVM9 dcM9 pmM9 anM9 cdM9 ctM9),slM9⟩) (mc_Roll_move:PySem.W.codeIn K cdM9 "Roll.move"=true)
    (ma_Roll_look_move:PySem.W.findIn K (.ref cR_Roll) "look_move"=some (some (.ref fm_Roll_look_move))) (mf_Roll_look_move:PySem.W.isFn K (.ref fm_Roll_look_move)=true) (mk_Roll_look_move:PySem.W.keepIn K (.ref fm_Roll_look_move)=true) (ml_Roll_look_move:K.lookup fm_Roll_look_move=some ⟨ocM10,odM10,.func (PySem.W.fnOf "look_move" "Roll.look_move" (aq bC) (ao bC) (ak bC) .none kVM10 dcM10 pmM10 anM10 cdM10 ctM10),slM10⟩) (mc_Roll_look_move:PySem.W.codeIn K cdM10 "Roll.look_move"=true)
    (ma_Roll_enter:PySem.W.findIn K (.ref cR_Roll) "enter"=some (some (.ref fm_Roll_enter))) (mf_Roll_enter:PySem.W.isFn K (.ref fm_Roll_enter)=true) (mk_Roll_enter:PySem.W.keepIn K (.ref fm_Roll_enter)=true) (ml_Roll_enter:K.lookup fm_Roll_enter=some ⟨ocM11,odM11,.func (PySem.W.fnOf "enter" "Roll.enter" (aq cJ) (ao cJ) (ak cJ) .none kVM11 dcM11 pmM11 anM11 cdM11 ctM11),slM11⟩) (mc_Roll_enter:PySem.W.codeIn K cdM11 "Roll.enter"=true)
    (ma_Roll_is_alone:PySem.W.findIn K (.ref cR_Roll) "is_alone"=some (some (.ref fm_Roll_is_alone))) (mf_Roll_is_alone:PySem.W.isFn K (.ref fm_Roll_is_alone)=true) (mk_Roll_is_alone:PySem.W.keepIn K (.ref fm_Roll_is_alone)=true) (ml_Roll_is_alone:K.lookup fm_Roll_is_alone=some ⟨ocM12,odM12,.func (PySem.W.fnOf "is_alone" "Roll.is_alone" (aq bw) (ao bw) (ak bw) .none kVM12 dcM12 pmM12 anM12 cdM12 ctM12),slM12⟩) (mc_Roll_is_alone:PySem.W.codeIn K cdM12 "Roll.is_alone"=true)
    (ma_Roll_look_at_number:PySem.W.findIn K (.ref cR_Roll) "look_at_number"=some (some (.ref fm_Roll_look_at_number))) (mf_Roll_look_at_number:PySem.W.isFn K (.ref fm_Roll_look_at_number)=true) (mk_Roll_look_at_number:PySem.W.keepIn K (.ref fm_Roll_look_at_number)=true) (ml_Roll_look_at_number:K.lookup fm_Roll_look_at_number=some ⟨ocM13,odM13,.func (PySem.W.fnOf "look_at_number" "Roll.look_at_number" (aq aJ) (ao aJ) (ak aJ) .none kVM13 dcM13 pmM13 anM13 cdM13 ctM13),slM13⟩) (mc_Roll_look_at_number:PySem.W.codeIn K cdM13 "Roll.look_at_number"=true)
    (ma_Roll_look_at_holder:PySem.W.findIn K (.ref cR_Roll) "look_at_holder"=some (some (.ref fm_Roll_look_at_holder))) (mf_Roll_look_at_holder:PySem.W.isFn K (.ref fm_Roll_look_at_holder)=true) (mk_Roll_look_at_holder:PySem.W.keepIn K (.ref fm_Roll_look_at_holder)=true) (ml_Roll_look_at_holder:K.lookup fm_Roll_look_at_holder=some ⟨ocM14,odM14,.func (PySem.W.fnOf "look_at_holder" "Roll.look_at_holder" (aq aF) (ao aF) (ak aF) .none kVM14 dcM14 pmM14 anM14 cdM14 ctM14),slM14⟩) (mc_Roll_look_at_holder:PySem.W.codeIn K cdM14 "Roll.look_at_holder"=true)
    (ma_Roll_look_at_room:PySem.W.findIn K (.ref cR_Roll) "look_at_room"=some (some (.ref fm_Roll_look_at_room))) (mf_Roll_look_at_room:PySem.W.isFn K (.ref fm_Roll_look_at_room)=true) (mk_Roll_look_at_room:PySem.W.keepIn K (.ref fm_Roll_look_at_room)=true) (ml_Roll_look_at_room:K.lookup fm_Roll_look_at_room=some ⟨ocM15,odM15,.func (PySem.W.fnOf "look_at_room" "Roll.look_at_room" (aq aK) (ao aK) (ak aK) .none kVM15 dcM15 pmM15 anM15 cdM15 ctM15),slM15⟩) (mc_Roll_look_at_room:PySem.W.codeIn K cdM15 "Roll.look_at_room"=true)
    (z_len:PySem.W.nsIn K mainGlobals "len"=some none)
    (z_range:PySem.W.nsIn K mainGlobals "range"=some none)
    (z_list:PySem.W.nsIn K mainGlobals "list"=some none)
    (z_isinstance:PySem.W.nsIn K mainGlobals "isinstance"=some none)
    (z_bool:PySem.W.nsIn K mainGlobals "bool"=some none)
    (z_int:PySem.W.nsIn K mainGlobals "int"=some none)
    (z_all:PySem.W.nsIn K mainGlobals "all"=some none)
    (z_min:PySem.W.nsIn K mainGlobals "min"=some none)
    (z_max:PySem.W.nsIn K mainGlobals "max"=some none)
    (z_sum:PySem.W.nsIn K mainGlobals "sum"=some none)
    (z_sorted:PySem.W.nsIn K mainGlobals "sorted"=some none)
    (z_zip:PySem.W.nsIn K mainGlobals "zip"=some none)
    (z_tuple:PySem.W.nsIn K mainGlobals "tuple"=some none)
    (z_str:PySem.W.nsIn K mainGlobals "str"=some none)
    (z_any:PySem.W.nsIn K mainGlobals "any"=some none)
    (z_enumerate:PySem.W.nsIn K mainGlobals "enumerate"=some none)
    (z_reversed:PySem.W.nsIn K mainGlobals "reversed"=some none)
    (z_abs:PySem.W.nsIn K mainGlobals "abs"=some none)
    (z_ValueError:PySem.W.nsIn K mainGlobals "ValueError"=some none)
    (z_set:PySem.W.nsIn K mainGlobals "set"=some none)
    (n_SluiceError:PySem.W.nsIn K mainGlobals "SluiceError"=some (some (.ref cX_SluiceError))) (q_SluiceError:PySem.W.excIn K cX_SluiceError vg "ValueError.__new__"=true)
    (xa_SluiceError:PySem.W.findIn K (.ref cX_SluiceError) "__getattribute__"=some (some (.builtin "BaseException.__getattribute__"))) (xb_SluiceError:PySem.W.findIn K (.ref cX_SluiceError) "__getattr__"=some none) (xc_SluiceError:PySem.W.findIn K (.ref cX_SluiceError) "__class__"=some (some (.builtin "object.__class__")))
    (xd_SluiceError:PySem.W.specialIn K (.builtin "object.__class__") "__get__"=some (some (.builtin "getset_descriptor.__get__"))) (xe_SluiceError:PySem.W.takesIn K (.builtin "object.__class__")=some true) (xf_SluiceError:PySem.W.mroIn K cX_SluiceError (.type "object")=some true) (xg_SluiceError:PySem.W.mroIn K cX_SluiceError (.type "BaseException")=some true) (xh_SluiceError:(PySem.W.clsIn K cX_SluiceError).isSome=true)
    (n_NotYours:PySem.W.nsIn K mainGlobals "NotYours"=some (some (.ref cX_NotYours))) (q_NotYours:PySem.W.excIn K cX_NotYours vg "ValueError.__new__"=true)
    (xa_NotYours:PySem.W.findIn K (.ref cX_NotYours) "__getattribute__"=some (some (.builtin "BaseException.__getattribute__"))) (xb_NotYours:PySem.W.findIn K (.ref cX_NotYours) "__getattr__"=some none) (xc_NotYours:PySem.W.findIn K (.ref cX_NotYours) "__class__"=some (some (.builtin "object.__class__")))
    (xd_NotYours:PySem.W.specialIn K (.builtin "object.__class__") "__get__"=some (some (.builtin "getset_descriptor.__get__"))) (xe_NotYours:PySem.W.takesIn K (.builtin "object.__class__")=some true) (xf_NotYours:PySem.W.mroIn K cX_NotYours (.type "object")=some true) (xg_NotYours:PySem.W.mroIn K cX_NotYours (.type "BaseException")=some true) (xh_NotYours:(PySem.W.clsIn K cX_NotYours).isSome=true)
    (n_NoLicence:PySem.W.nsIn K mainGlobals "NoLicence"=some (some (.ref cX_NoLicence))) (q_NoLicence:PySem.W.excIn K cX_NoLicence vg "ValueError.__new__"=true)
    (xa_NoLicence:PySem.W.findIn K (.ref cX_NoLicence) "__getattribute__"=some (some (.builtin "BaseException.__getattribute__"))) (xb_NoLicence:PySem.W.findIn K (.ref cX_NoLicence) "__getattr__"=some none) (xc_NoLicence:PySem.W.findIn K (.ref cX_NoLicence) "__class__"=some (some (.builtin "object.__class__")))
    (xd_NoLicence:PySem.W.specialIn K (.builtin "object.__class__") "__get__"=some (some (.builtin "getset_descriptor.__get__"))) (xe_NoLicence:PySem.W.takesIn K (.builtin "object.__class__")=some true) (xf_NoLicence:PySem.W.mroIn K cX_NoLicence (.type "object")=some true) (xg_NoLicence:PySem.W.mroIn K cX_NoLicence (.type "BaseException")=some true) (xh_NoLicence:(PySem.W.clsIn K cX_NoLicence).isSome=true)
    (n_NoNumber:PySem.W.nsIn K mainGlobals "NoNumber"=some (some (.ref cX_NoNumber))) (q_NoNumber:PySem.W.excIn K cX_NoNumber vg "ValueError.__new__"=true)
    (xa_NoNumber:PySem.W.findIn K (.ref cX_NoNumber) "__getattribute__"=some (some (.builtin "BaseException.__getattribute__"))) (xb_NoNumber:PySem.W.findIn K (.ref cX_NoNumber) "__getattr__"=some none) (xc_NoNumber:PySem.W.findIn K (.ref cX_NoNumber) "__class__"=some (some (.builtin "object.__class__")))
    (xd_NoNumber:PySem.W.specialIn K (.builtin "object.__class__") "__get__"=some (some (.builtin "getset_descriptor.__get__"))) (xe_NoNumber:PySem.W.takesIn K (.builtin "object.__class__")=some true) (xf_NoNumber:PySem.W.mroIn K cX_NoNumber (.type "object")=some true) (xg_NoNumber:PySem.W.mroIn K cX_NoNumber (.type "BaseException")=some true) (xh_NoNumber:(PySem.W.clsIn K cX_NoNumber).isSome=true)
    (n_NotAlone:PySem.W.nsIn K mainGlobals "NotAlone"=some (some (.ref cX_NotAlone))) (q_NotAlone:PySem.W.excIn K cX_NotAlone vg "ValueError.__new__"=true)
    (xa_NotAlone:PySem.W.findIn K (.ref cX_NotAlone) "__getattribute__"=some (some (.builtin "BaseException.__getattribute__"))) (xb_NotAlone:PySem.W.findIn K (.ref cX_NotAlone) "__getattr__"=some none) (xc_NotAlone:PySem.W.findIn K (.ref cX_NotAlone) "__class__"=some (some (.builtin "object.__class__")))
    (xd_NotAlone:PySem.W.specialIn K (.builtin "object.__class__") "__get__"=some (some (.builtin "getset_descriptor.__get__"))) (xe_NotAlone:PySem.W.takesIn K (.builtin "object.__class__")=some true) (xf_NotAlone:PySem.W.mroIn K cX_NotAlone (.type "object")=some true) (xg_NotAlone:PySem.W.mroIn K cX_NotAlone (.type "BaseException")=some true) (xh_NotAlone:(PySem.W.clsIn K cX_NotAlone).isSome=true)
    (n_TooMuch:PySem.W.nsIn K mainGlobals "TooMuch"=some (some (.ref cX_TooMuch))) (q_TooMuch:PySem.W.excIn K cX_TooMuch vg "ValueError.__new__"=true)
    (xa_TooMuch:PySem.W.findIn K (.ref cX_TooMuch) "__getattribute__"=some (some (.builtin "BaseException.__getattribute__"))) (xb_TooMuch:PySem.W.findIn K (.ref cX_TooMuch) "__getattr__"=some none) (xc_TooMuch:PySem.W.findIn K (.ref cX_TooMuch) "__class__"=some (some (.builtin "object.__class__")))
    (xd_TooMuch:PySem.W.specialIn K (.builtin "object.__class__") "__get__"=some (some (.builtin "getset_descriptor.__get__"))) (xe_TooMuch:PySem.W.takesIn K (.builtin "object.__class__")=some true) (xf_TooMuch:PySem.W.mroIn K cX_TooMuch (.type "object")=some true) (xg_TooMuch:PySem.W.mroIn K cX_TooMuch (.type "BaseException")=some true) (xh_TooMuch:(PySem.W.clsIn K cX_TooMuch).isSome=true)
    (m_NotYours_SluiceError:PySem.W.exmOne K (.ref cX_NotYours) (.ref cX_SluiceError)=some true)
    (i_NotYours_NoNumber:PySem.W.kitOne K (.ref cX_NotYours) (.ref cX_NoNumber)=some false)
    (i_NotYours_NotYours:PySem.W.kitOne K (.ref cX_NotYours) (.ref cX_NotYours)=some true)
    (i_NotYours_ValueError:PySem.W.kitOne K (.ref cX_NotYours) (.type "ValueError")=some true)
    : ∃ fd:FuncData,(∀ (s:Shared) (v:Value),BindsTo s fd ⟨[v],[]⟩ [("script",v)])∧∀ base:Heap,K.In base→base.Ns mainGlobals mg→bT l.prog w K mg base CX0 5 fa fd ["script"] (qz K):=by
  have e:=hfa.symm.trans (PySem.W.mg_of X G a20)
  cases e
  have B:Blt mg:=⟨PySem.W.mg_none_of X G z_len,PySem.W.mg_none_of X G z_range,PySem.W.mg_none_of X G z_list,PySem.W.mg_none_of X G z_isinstance,PySem.W.mg_none_of X G z_bool,PySem.W.mg_none_of X G z_int,PySem.W.mg_none_of X G z_all,PySem.W.mg_none_of X G z_min,PySem.W.mg_none_of X G z_max,PySem.W.mg_none_of X G z_sum,PySem.W.mg_none_of X G z_sorted,PySem.W.mg_none_of X G z_zip,PySem.W.mg_none_of X G z_tuple,PySem.W.mg_none_of X G z_str,PySem.W.mg_none_of X G z_any,PySem.W.mg_none_of X G z_enumerate,PySem.W.mg_none_of X G z_reversed,PySem.W.mg_none_of X G z_abs,PySem.W.mg_none_of X G z_ValueError,PySem.W.mg_none_of X G z_set⟩
  have h_MOST_WATER:∃ t,mg "MOST_WATER"=some (.int (1000000000000) t):=⟨_,PySem.W.mg_of X G e0⟩
  have h_LONGEST_NAME:∃ t,mg "LONGEST_NAME"=some (.int (8) t):=⟨_,PySem.W.mg_of X G e1⟩
  have h_LETTERS:∃ t,mg "LETTERS"=some (.str "abcdefghijklmnopqrstuvwxyz" t):=⟨_,PySem.W.mg_of X G e2⟩
  have h_MOST_REACHES:∃ t,mg "MOST_REACHES"=some (.int (40) t):=⟨_,PySem.W.mg_of X G e3⟩
  have h_MOUTH:∃ t,mg "MOUTH"=some (.int (-1) t):=⟨_,PySem.W.mg_of X G e4⟩
  have h_LAST_DAY:∃ t,mg "LAST_DAY"=some (.int (1000000) t):=⟨_,PySem.W.mg_of X G e5⟩
  have h_MOST_LICENCES:∃ t,mg "MOST_LICENCES"=some (.int (60) t):=⟨_,PySem.W.mg_of X G e6⟩
  have FM_Roll___init__:=bG (st:=bI) ml_Roll___init__ mc_Roll___init__ mk_Roll___init__
  have fB:Dm K cR_Roll "__init__" "Roll.__init__" bI ["self","below"] fm_Roll___init__ _:=⟨FM_Roll___init__,ig FM_Roll___init__ (fun _ _ _ _ _ _ _ _=>rfl),⟨ma_Roll___init__,mf_Roll___init__,mk_Roll___init__⟩⟩
  have FM_Roll_today:=bG (st:=dg) ml_Roll_today mc_Roll_today mk_Roll_today
  have fO:Dm K cR_Roll "today" "Roll.today" dg ["self"] fm_Roll_today _:=⟨FM_Roll_today,gF FM_Roll_today (fun _ _ _ _ _ _ _=>rfl),⟨ma_Roll_today,mf_Roll_today,mk_Roll_today⟩⟩
  have FM_Roll_roll:=bG (st:=dz) ml_Roll_roll mc_Roll_roll mk_Roll_roll
  have bF:Dm K cR_Roll "roll" "Roll.roll" dz ["self"] fm_Roll_roll _:=⟨FM_Roll_roll,gF FM_Roll_roll (fun _ _ _ _ _ _ _=>rfl),⟨ma_Roll_roll,mf_Roll_roll,mk_Roll_roll⟩⟩
  have FM_Roll_holders:=bG (st:=cg) ml_Roll_holders mc_Roll_holders mk_Roll_holders
  have cU:Dm K cR_Roll "holders" "Roll.holders" cg ["self"] fm_Roll_holders _:=⟨FM_Roll_holders,gF FM_Roll_holders (fun _ _ _ _ _ _ _=>rfl),⟨ma_Roll_holders,mf_Roll_holders,mk_Roll_holders⟩⟩
  have FM_Roll_turn:=bG (st:=dj) ml_Roll_turn mc_Roll_turn mk_Roll_turn
  have dH:Dm K cR_Roll "turn" "Roll.turn" dj ["self"] fm_Roll_turn _:=⟨FM_Roll_turn,gF FM_Roll_turn (fun _ _ _ _ _ _ _=>rfl),⟨ma_Roll_turn,mf_Roll_turn,mk_Roll_turn⟩⟩
  obtain ⟨nT_Roll_file,mu_Roll_file⟩:=mu_Roll_file
  have FM_Roll_file:Gn K "file" "Roll.file" dY [.none] fm_Roll_file _:=⟨⟨_,_,_,_,_,_,_,_,_,_,_,_,rfl,ml_Roll_file,mc_Roll_file,mt_Roll_file,mu_Roll_file⟩,mk_Roll_file⟩
  have gB:DmD K cR_Roll "file" "Roll.file" dY ["self","holder","start","most","back"] fm_Roll_file _:=⟨FM_Roll_file,FM_Roll_file.binds (fun _ _ _ _ _ _ _ us hl=>match us,(show us.length=5 by simpa using hl) with | [u0,u1,u2,u3,u4],_=>⟨_,rfl,rfl⟩),FM_Roll_file.binds (fun _ _ _ _ _ _ _ us hl=>match us,(show us.length=4 by simpa using hl) with | [u0,u1,u2,u3],_=>⟨_,rfl,rfl⟩),⟨ma_Roll_file,mf_Roll_file,mk_Roll_file⟩⟩
  have FM_Roll_sell:=bG (st:=dw) ml_Roll_sell mc_Roll_sell mk_Roll_sell
  have dI:Dm K cR_Roll "sell" "Roll.sell" dw ["self","number","holder","to"] fm_Roll_sell _:=⟨FM_Roll_sell,uY FM_Roll_sell (fun _ _ _ _ _ _ _ _ _ _=>rfl),⟨ma_Roll_sell,mf_Roll_sell,mk_Roll_sell⟩⟩
  have FM_Roll_part:=bG (st:=dX) ml_Roll_part mc_Roll_part mk_Roll_part
  have gA:Dm K cR_Roll "part" "Roll.part" dX ["self","number","holder","most","to"] fm_Roll_part _:=⟨FM_Roll_part,uX FM_Roll_part (fun _ _ _ _ _ _ _ _ _ _ _=>rfl),⟨ma_Roll_part,mf_Roll_part,mk_Roll_part⟩⟩
  have FM_Roll_drop:=bG (st:=dD) ml_Roll_drop mc_Roll_drop mk_Roll_drop
  have dM:Dm K cR_Roll "drop" "Roll.drop" dD ["self","number","holder"] fm_Roll_drop _:=⟨FM_Roll_drop,qZ FM_Roll_drop (fun _ _ _ _ _ _ _ _ _=>rfl),⟨ma_Roll_drop,mf_Roll_drop,mk_Roll_drop⟩⟩
  have FM_Roll_move:=bG (st:=dB) ml_Roll_move mc_Roll_move mk_Roll_move
  have dJ:Dm K cR_Roll "move" "Roll.move" dB ["self","number","holder","start"] fm_Roll_move _:=⟨FM_Roll_move,uY FM_Roll_move (fun _ _ _ _ _ _ _ _ _ _=>rfl),⟨ma_Roll_move,mf_Roll_move,mk_Roll_move⟩⟩
  have FM_Roll_look_move:=bG (st:=bC) ml_Roll_look_move mc_Roll_look_move mk_Roll_look_move
  have dO:Dm K cR_Roll "look_move" "Roll.look_move" bC ["self","number","start"] fm_Roll_look_move _:=⟨FM_Roll_look_move,qZ FM_Roll_look_move (fun _ _ _ _ _ _ _ _ _=>rfl),⟨ma_Roll_look_move,mf_Roll_look_move,mk_Roll_look_move⟩⟩
  have FM_Roll_enter:=bG (st:=cJ) ml_Roll_enter mc_Roll_enter mk_Roll_enter
  have cR:Dm K cR_Roll "enter" "Roll.enter" cJ ["self","one","holder"] fm_Roll_enter _:=⟨FM_Roll_enter,qZ FM_Roll_enter (fun _ _ _ _ _ _ _ _ _=>rfl),⟨ma_Roll_enter,mf_Roll_enter,mk_Roll_enter⟩⟩
  have FM_Roll_is_alone:=bG (st:=bw) ml_Roll_is_alone mc_Roll_is_alone mk_Roll_is_alone
  have dZ:Dm K cR_Roll "is_alone" "Roll.is_alone" bw ["self","number"] fm_Roll_is_alone _:=⟨FM_Roll_is_alone,ig FM_Roll_is_alone (fun _ _ _ _ _ _ _ _=>rfl),⟨ma_Roll_is_alone,mf_Roll_is_alone,mk_Roll_is_alone⟩⟩
  have FM_Roll_look_at_number:=bG (st:=aJ) ml_Roll_look_at_number mc_Roll_look_at_number mk_Roll_look_at_number
  have bO:Dm K cR_Roll "look_at_number" "Roll.look_at_number" aJ ["self","number"] fm_Roll_look_at_number _:=⟨FM_Roll_look_at_number,ig FM_Roll_look_at_number (fun _ _ _ _ _ _ _ _=>rfl),⟨ma_Roll_look_at_number,mf_Roll_look_at_number,mk_Roll_look_at_number⟩⟩
  have FM_Roll_look_at_holder:=bG (st:=aF) ml_Roll_look_at_holder mc_Roll_look_at_holder mk_Roll_look_at_holder
  have aC:Dm K cR_Roll "look_at_holder" "Roll.look_at_holder" aF ["self","number","holder"] fm_Roll_look_at_holder _:=⟨FM_Roll_look_at_holder,qZ FM_Roll_look_at_holder (fun _ _ _ _ _ _ _ _ _=>rfl),⟨ma_Roll_look_at_holder,mf_Roll_look_at_holder,mk_Roll_look_at_holder⟩⟩
  have FM_Roll_look_at_room:=bG (st:=aK) ml_Roll_look_at_room mc_Roll_look_at_room mk_Roll_look_at_room
  have aL:Dm K cR_Roll "look_at_room" "Roll.look_at_room" aK ["self"] fm_Roll_look_at_room _:=⟨FM_Roll_look_at_room,gF FM_Roll_look_at_room (fun _ _ _ _ _ _ _=>rfl),⟨ma_Roll_look_at_room,mf_Roll_look_at_room,mk_Roll_look_at_room⟩⟩
  have R_Roll:Cl K mg "Roll" cR_Roll fm_Roll___init__ ["below","day","licences","names","done"]:=⟨⟨ka_Roll,kb_Roll,kc_Roll,kd_Roll⟩,⟨ke_Roll,ma_Roll___init__,mf_Roll___init__,kf_Roll⟩,PySem.W.mg_of X G n_Roll,by
    simp only [List.mem_cons,List.not_mem_nil,or_false,forall_eq_or_imp,forall_eq]
    exact ⟨kn_Roll_below,kn_Roll_day,kn_Roll_licences,kn_Roll_names,kn_Roll_done⟩⟩
  have X_SluiceError:rR K mg "SluiceError" cX_SluiceError:=⟨PySem.W.mg_of X G n_SluiceError,q_SluiceError,⟨xa_SluiceError,xb_SluiceError,xc_SluiceError,xd_SluiceError,xe_SluiceError,xf_SluiceError,xg_SluiceError,xh_SluiceError⟩⟩
  have X_NotYours:rR K mg "NotYours" cX_NotYours:=⟨PySem.W.mg_of X G n_NotYours,q_NotYours,⟨xa_NotYours,xb_NotYours,xc_NotYours,xd_NotYours,xe_NotYours,xf_NotYours,xg_NotYours,xh_NotYours⟩⟩
  have X_NoLicence:rR K mg "NoLicence" cX_NoLicence:=⟨PySem.W.mg_of X G n_NoLicence,q_NoLicence,⟨xa_NoLicence,xb_NoLicence,xc_NoLicence,xd_NoLicence,xe_NoLicence,xf_NoLicence,xg_NoLicence,xh_NoLicence⟩⟩
  have X_NoNumber:rR K mg "NoNumber" cX_NoNumber:=⟨PySem.W.mg_of X G n_NoNumber,q_NoNumber,⟨xa_NoNumber,xb_NoNumber,xc_NoNumber,xd_NoNumber,xe_NoNumber,xf_NoNumber,xg_NoNumber,xh_NoNumber⟩⟩
  have X_NotAlone:rR K mg "NotAlone" cX_NotAlone:=⟨PySem.W.mg_of X G n_NotAlone,q_NotAlone,⟨xa_NotAlone,xb_NotAlone,xc_NotAlone,xd_NotAlone,xe_NotAlone,xf_NotAlone,xg_NotAlone,xh_NotAlone⟩⟩
  have X_TooMuch:rR K mg "TooMuch" cX_TooMuch:=⟨PySem.W.mg_of X G n_TooMuch,q_TooMuch,⟨xa_TooMuch,xb_TooMuch,xc_TooMuch,xd_TooMuch,xe_TooMuch,xf_TooMuch,xg_TooMuch,xh_TooMuch⟩⟩
  have F0:=bG (st:=eG) l0 c0 k0
  have gb:Df K mg "is_water" eG ["amount"] _ _:=⟨F0,gF F0 (fun _ _ _ _ _ _ _=>rfl),PySem.W.mg_of X G a0⟩
  have F1:=bG (st:=eZ) l1 c1 k1
  have gM:Df K mg "is_name" eZ ["text"] _ _:=⟨F1,gF F1 (fun _ _ _ _ _ _ _=>rfl),PySem.W.mg_of X G a1⟩
  have F2:=bG (st:=bA) l2 c2 k2
  have cC:Df K mg "comes_to_mouth" bA ["below","start"] _ _:=⟨F2,ig F2 (fun _ _ _ _ _ _ _ _=>rfl),PySem.W.mg_of X G a2⟩
  have F3:=bG (st:=dR) l3 c3 k3
  have gj:Df K mg "is_river" dR ["below"] _ _:=⟨F3,gF F3 (fun _ _ _ _ _ _ _=>rfl),PySem.W.mg_of X G a3⟩
  have F4:=bG (st:=gC) l4 c4 k4
  have iV:Df K mg "way_of" gC ["below","reach"] _ _:=⟨F4,ig F4 (fun _ _ _ _ _ _ _ _=>rfl),PySem.W.mg_of X G a4⟩
  have F5:=bG (st:=cF) l5 c5 k5
  have bM:Df K mg "is_licence" cF ["below","one"] _ _:=⟨F5,ig F5 (fun _ _ _ _ _ _ _ _=>rfl),PySem.W.mg_of X G a5⟩
  have F6:=bG (st:=dU) l6 c6 k6
  have dG:Df K mg "day_filed" dU ["one"] _ _:=⟨F6,gF F6 (fun _ _ _ _ _ _ _=>rfl),PySem.W.mg_of X G a6⟩
  have F7:=bG (st:=eY) l7 c7 k7
  have cO:Df K mg "most_of" eY ["one"] _ _:=⟨F7,gF F7 (fun _ _ _ _ _ _ _=>rfl),PySem.W.mg_of X G a7⟩
  have F8:=bG (st:=cX) l8 c8 k8
  have eN:Df K mg "with_start" cX ["one","start"] _ _:=⟨F8,ig F8 (fun _ _ _ _ _ _ _ _=>rfl),PySem.W.mg_of X G a8⟩
  have F9:=bG (st:=dh) l9 c9 k9
  have bx:Df K mg "with_most" dh ["one","most"] _ _:=⟨F9,ig F9 (fun _ _ _ _ _ _ _ _=>rfl),PySem.W.mg_of X G a9⟩
  have F10:=bG (st:=bh) l10 c10 k10
  have aG:Df K mg "look_at_name" bh ["name"] _ _:=⟨F10,gF F10 (fun _ _ _ _ _ _ _=>rfl),PySem.W.mg_of X G a10⟩
  have F11:=bG (st:=bZ) l11 c11 k11
  have bH:Df K mg "_law_cell_at" bZ ["script","k"] _ _:=⟨F11,ig F11 (fun _ _ _ _ _ _ _ _=>rfl),PySem.W.mg_of X G a11⟩
  have F12:=bG (st:=cG) l12 c12 k12
  have bN:Df K mg "_law_whole" cG ["found"] _ _:=⟨F12,gF F12 (fun _ _ _ _ _ _ _=>rfl),PySem.W.mg_of X G a12⟩
  have F13:=bG (st:=dW) l13 c13 k13
  have fK:Df K mg "_law_draw" dW ["cell","place"] _ _:=⟨F13,ig F13 (fun _ _ _ _ _ _ _ _=>rfl),PySem.W.mg_of X G a13⟩
  have F14:=bG (st:=cI) l14 c14 k14
  have cQ:Df K mg "_law_draws" cI ["cell","many"] _ _:=⟨F14,ig F14 (fun _ _ _ _ _ _ _ _=>rfl),PySem.W.mg_of X G a14⟩
  have F15:=bG (st:=bY) l15 c15 k15
  have eO:Df K mg "_law_names" bY ["xs"] _ _:=⟨F15,gF F15 (fun _ _ _ _ _ _ _=>rfl),PySem.W.mg_of X G a15⟩
  have F16:=bG (st:=aO) l16 c16 k16
  have aP:Df K mg "_law_alike_lines" aO ["found","due"] _ _:=⟨F16,ig F16 (fun _ _ _ _ _ _ _ _=>rfl),PySem.W.mg_of X G a16⟩
  have F17:=bG (st:=cH) l17 c17 k17
  have cP:Df K mg "_law_right" cH ["one","bit","day","lines","owners"] _ _:=⟨F17,uX F17 (fun _ _ _ _ _ _ _ _ _ _ _=>rfl),PySem.W.mg_of X G a17⟩
  have F18:=bG (st:=bB) l18 c18 k18
  have aY:Df K mg "_law_not_yours" bB ["one","number","name","to","bit"] _ _:=⟨F18,uX F18 (fun _ _ _ _ _ _ _ _ _ _ _=>rfl),PySem.W.mg_of X G a18⟩
  have F19:=bG (st:=cZ) l19 c19 k19
  have eU:Df K mg "_law_begun" cZ ["one","xs","names","many"] _ _:=⟨F19,uY F19 (fun _ _ _ _ _ _ _ _ _ _=>rfl),PySem.W.mg_of X G a19⟩
  have F20:=bG (st:=kW) l20 c20 k20
  have Qe:Df K mg "law" kW ["script"] _ _:=⟨F20,gF F20 (fun _ _ _ _ _ _ _=>rfl),PySem.W.mg_of X G a20⟩
  refine ⟨PySem.W.fnOf "law" "law" (aq kW) (ao kW) (ak kW) .none kV20 dc20 pm20 an20 cd20 ct20,fun s v=>.of_eq rfl,fun base _ _=>?_⟩
  have C:Mth mg:=⟨h_MOUTH⟩
  have CS:Cst mg:=⟨h_MOUTH,h_MOST_REACHES⟩
  have CNm:CN mg:=⟨h_LONGEST_NAME,h_LETTERS⟩
  have g1:=Fx (P:=l.prog) (w:=w) (base:=base) bH B
  have g2:=vK (P:=l.prog) (w:=w) (base:=base) bN B
  have g3:=G4 (P:=l.prog) (w:=w) (base:=base) iV C
  have g4:=vP (P:=l.prog) (w:=w) (base:=base) cC B CS
  have g5:=G7 gj B CS cC g4
  have g6:=vL (P:=l.prog) (w:=w) (K:=K) (base:=base) gb h_MOST_WATER
  have g7:=vO (T:=[]) bM B C h_LAST_DAY gb g6 iV g3
  have g8:=uf (P:=l.prog) (w:=w) (K:=K) (base:=base) (T:=[]) gM B CNm
  have g9:=pN aG gM g8
  have g10:=vW (P:=l.prog) (w:=w) (mg:=mg) (base:=base) bF B R_Roll
  have g11:=pQ (P:=l.prog) (w:=w) (mg:=mg) (base:=base) cU B R_Roll
  have g13:=vR (P:=l.prog) (w:=w) (mg:=mg) (base:=base) (T:=[]) dH R_Roll
  have g14:=uh (P:=l.prog) (w:=w) (mg:=mg) (base:=base) cR B R_Roll
  have g15:=vV (P:=l.prog) (w:=w) (mg:=mg) (base:=base) aL B R_Roll h_MOST_LICENCES
  have g16:=wg gB B C R_Roll aG g9 bM g7 aL g15 cR g14
  have g17:=vZ (T:=[]) fB B R_Roll gj g5
  have g22:=Nu (P:=l.prog) (w:=w) (K:=K) (base:=base) fK
  have g23:=G8 (T:=[]) cQ B fK g22
  have g29:=ug (P:=l.prog) (w:=w) (mg:=mg) (base:=base) fO R_Roll
  have T8:Et K cX_NotYours cX_SluiceError cX_NoNumber:=⟨m_NotYours_SluiceError,i_NotYours_NoNumber,i_NotYours_NotYours,i_NotYours_ValueError⟩
  have g30:=Fw (P:=l.prog) (w:=w) (base:=base) cO
  have g31:=Nt (P:=l.prog) (w:=w) (base:=base) bx
  have g33:=pO (P:=l.prog) (w:=w) (base:=base) bO B R_Roll
  have g34:=pP (T:=[]) aC B R_Roll X_NotYours bO g33
  have g35:=wj dM R_Roll aC g34 bx g31
  have g36:=vU dI R_Roll aC g34 aG g9
  have g37:=G9 (P:=l.prog) (w:=w) (base:=base) dG
  have g38:=um (T:=[]) dZ B R_Roll dG g37 cO g30
  have g39:=vX gA B R_Roll X_TooMuch X_NotAlone aC g34 aG g9 cO g30 dZ g38 aL g15 bx g31 cR g14
  have g40:=G3 (P:=l.prog) (w:=w) (base:=base) eN
  have g41:=oG (P:=l.prog) (w:=w) (mg:=mg) (base:=base) dO
  have g42:=vY dJ B R_Roll X_NoLicence aC g34 eN g40 bM g7 dO g41
  have g43:=Hf (T:=[]) aP B bN g2
  have g44:=vM cP B R_Roll fO g29 cU g11 bF g10 aP g43 bN g2
  have g45:=vN (P:=l.prog) (w:=w) (base:=base) (T:=[]) eO B
  have g46:=G5 aY B R_Roll X_NotYours X_SluiceError X_NoNumber T8 dM g35 dI g36 dJ g42 gA g39
  have g47:=vQ eU B R_Roll dH g13 gB g16
  exact G6 rfl Qe B R_Roll bH g1 cQ g23 eO g45 fB g17 eU g47 bF g10 dH g13 dM g35 dI g36 aY g46 dJ g42 cP g44
theorem walk {l:PySem.W.OpenLaw} {q:Program} {loose:List Str} {XP:(Str→Option Value)→Heap→Prop} {YP:World→Heap→Prop} {d:DefRec} {K:Params→PySem.W.Frag} (hn:l.most=some 63) (hdf:d.params.defaults=[])
    (hY:∀ (w:World) (h:Heap),YP w h→(K w.params).In h)
    (F:∀ (w:World) (mg:Str→Option Value) (fa:Addr) (h:Heap),(K w.params).In h→h.Ns mainGlobals mg→mg d.name=some (.ref fa) →
      ∃ fd:FuncData,(∀ (s:Shared) (u:Value),BindsTo s fd ⟨[u],[]⟩ [("script",u)])∧∀ base:Heap,(K w.params).In base→base.Ns mainGlobals mg→bT l.prog w (K w.params) mg base CX0 5 fa fd ["script"] (qz (K w.params))) :
    PySem.W.WalkO q loose XP YP l.row.toRowW d [] (fun f vs=>PySem.call f vs) :=
  L2.Ez (n:=63) (k:=5) (x:="script") (CX:=fun _=>CX0) (sp:=fun w=>qz (K w.params)) hn (by decide) hdf ⟨rfl,by decide,by decide⟩ hY F (fun _ _ a ns hl _ hS=>⟨a,ns,rfl,hS,hl,fun _=>rfl⟩) fun _ _ _ _ _ z=>z
end My
open PySem PySem.W PyProof.Rows
set_option maxRecDepth 100000 in
set_option maxHeartbeats 0 in
theorem PySem.Challenge.cw_sluice_k52_sold_and_dropped_holds : PySem.Challenge.rw_sluice_k52_sold_and_dropped.Holds := by
  w_on;o_law
  refine PySem.W.holds_open (q:=My.qv) (loose:=My.qM) (Xt:=(fun s=>PySem.W.xlAt My.qv [] s && PySem.W.recOk (PySem.W.RowW.records PySem.Challenge.rw_sluice_k52_sold_and_dropped.row.toRowW) s)) (XP:=PySem.W.XL My.qv []) (Yf:=PySem.W.Hook.obs (PySem.W.kHook My.Kf My.asK My.hkE)) (Ya:=PySem.W.Hook.val (PySem.W.kHook My.Kf My.asK My.hkE)) (YP:=PySem.W.Hook.says (PySem.W.kHook My.Kf My.asK My.hkE)) (N:=7002) My.hlE (PySem.W.Hook.of (PySem.W.kHook My.Kf My.asK My.hkE)) (PySem.W.Hook.keeps (PySem.W.kHook My.Kf My.asK My.hkE)) (fun s e=>PySem.W.xl_of s (Bool.and_eq_true_iff.mp e).1) PySem.W.XL.keeps (by rfl) (by rfl) (by rfl) (fun s e=>PySem.W.recFacts_of (Bool.and_eq_true_iff.mp e).2) (by rfl) (by first | assumption | decide +kernel) (by decide +kernel) ⟨rfl,rfl,rfl,rfl,rfl,by decide +kernel⟩ ?hw ?hc
  case hw=>w_witness2
  k_fill
  refine My.walk (l:=PySem.Challenge.rw_sluice_k52_sold_and_dropped) rfl rfl (fun w h Y=>PySem.W.kIn_of Y) ?F
  case F =>
    intro w mg fa h KX G hmg
    refine' My.all_mk KX G hmg ?a0 ?l0 ?c0 ?k0 ?a1 ?l1 ?c1 ?k1 ?a2 ?l2 ?c2 ?k2 ?a3 ?l3 ?c3 ?k3 ?a4 ?l4 ?c4 ?k4 ?a5 ?l5 ?c5 ?k5 ?a6 ?l6 ?c6 ?k6 ?a7 ?l7 ?c7 ?k7 ?a8 ?l8 ?c8 ?k8 ?a9 ?l9 ?c9 ?k9 ?a10 ?l10 ?c10 ?k10 ?a11 ?l11 ?c11 ?k11 ?a12 ?l12 ?c12 ?k12 ?a13 ?l13 ?c13 ?k13 ?a14 ?l14 ?c14 ?k14 ?a15 ?l15 ?c15 ?k15 ?a16 ?l16 ?c16 ?k16 ?a17 ?l17 ?c17 ?k17 ?a18 ?l18 ?c18 ?k18 ?a19 ?l19 ?c19 ?k19 ?a20 ?l20 ?c20 ?k20 ?e0 ?e1 ?e2 ?e3 ?e4 ?e5 ?e6 ?n_Roll ?ka_Roll ?kb_Roll ?kc_Roll ?kd_Roll ?ke_Roll ?kf_Roll ?kn_Roll_below ?kn_Roll_day ?kn_Roll_licences ?kn_Roll_names ?kn_Roll_done ?ma_Roll___init__ ?mf_Roll___init__ ?mk_Roll___init__ ?ml_Roll___init__ ?mc_Roll___init__ ?ma_Roll_today ?mf_Roll_today ?mk_Roll_today ?ml_Roll_today ?mc_Roll_today ?ma_Roll_roll ?mf_Roll_roll ?mk_Roll_roll ?ml_Roll_roll ?mc_Roll_roll ?ma_Roll_holders ?mf_Roll_holders ?mk_Roll_holders ?ml_Roll_holders ?mc_Roll_holders ?ma_Roll_turn ?mf_Roll_turn ?mk_Roll_turn ?ml_Roll_turn ?mc_Roll_turn ?ma_Roll_file ?mf_Roll_file ?mk_Roll_file ?ml_Roll_file ?mc_Roll_file ?mt_Roll_file ?mu_Roll_file ?ma_Roll_sell ?mf_Roll_sell ?mk_Roll_sell ?ml_Roll_sell ?mc_Roll_sell ?ma_Roll_part ?mf_Roll_part ?mk_Roll_part ?ml_Roll_part ?mc_Roll_part ?ma_Roll_drop ?mf_Roll_drop ?mk_Roll_drop ?ml_Roll_drop ?mc_Roll_drop ?ma_Roll_move ?mf_Roll_move ?mk_Roll_move ?ml_Roll_move ?mc_Roll_move ?ma_Roll_look_move ?mf_Roll_look_move ?mk_Roll_look_move ?ml_Roll_look_move ?mc_Roll_look_move ?ma_Roll_enter ?mf_Roll_enter ?mk_Roll_enter ?ml_Roll_enter ?mc_Roll_enter ?ma_Roll_is_alone ?mf_Roll_is_alone ?mk_Roll_is_alone ?ml_Roll_is_alone ?mc_Roll_is_alone ?ma_Roll_look_at_number ?mf_Roll_look_at_number ?mk_Roll_look_at_number ?ml_Roll_look_at_number ?mc_Roll_look_at_number ?ma_Roll_look_at_holder ?mf_Roll_look_at_holder ?mk_Roll_look_at_holder ?ml_Roll_look_at_holder ?mc_Roll_look_at_holder ?ma_Roll_look_at_room ?mf_Roll_look_at_room ?mk_Roll_look_at_room ?ml_Roll_look_at_room ?mc_Roll_look_at_room ?z_len ?z_range ?z_list ?z_isinstance ?z_bool ?z_int ?z_all ?z_min ?z_max ?z_sum ?z_sorted ?z_zip ?z_tuple ?z_str ?z_any ?z_enumerate ?z_reversed ?z_abs ?z_ValueError ?z_set ?n_SluiceError ?q_SluiceError ?xa_SluiceError ?xb_SluiceError ?xc_SluiceError ?xd_SluiceError ?xe_SluiceError ?xf_SluiceError ?xg_SluiceError ?xh_SluiceError ?n_NotYours ?q_NotYours ?xa_NotYours ?xb_NotYours ?xc_NotYours ?xd_NotYours ?xe_NotYours ?xf_NotYours ?xg_NotYours ?xh_NotYours ?n_NoLicence ?q_NoLicence ?xa_NoLicence ?xb_NoLicence ?xc_NoLicence ?xd_NoLicence ?xe_NoLicence ?xf_NoLicence ?xg_NoLicence ?xh_NoLicence ?n_NoNumber ?q_NoNumber ?xa_NoNumber ?xb_NoNumber ?xc_NoNumber ?xd_NoNumber ?xe_NoNumber ?xf_NoNumber ?xg_NoNumber ?xh_NoNumber ?n_NotAlone ?q_NotAlone ?xa_NotAlone ?xb_NotAlone ?xc_NotAlone ?xd_NotAlone ?xe_NotAlone ?xf_NotAlone ?xg_NotAlone ?xh_NotAlone ?n_TooMuch ?q_TooMuch ?xa_TooMuch ?xb_TooMuch ?xc_TooMuch ?xd_TooMuch ?xe_TooMuch ?xf_TooMuch ?xg_TooMuch ?xh_TooMuch ?m_NotYours_SluiceError ?i_NotYours_NoNumber ?i_NotYours_NotYours ?i_NotYours_ValueError
    (case a0=>k_is)
    (case l0=>k_is)
    (case c0=>k_is)
    (case k0=>k_is)
    (case a1=>k_is)
    (case l1=>k_is)
    (case c1=>k_is)
    (case k1=>k_is)
    (case a2=>k_is)
    (case l2=>k_is)
    (case c2=>k_is)
    (case k2=>k_is)
    (case a3=>k_is)
    (case l3=>k_is)
    (case c3=>k_is)
    (case k3=>k_is)
    (case a4=>k_is)
    (case l4=>k_is)
    (case c4=>k_is)
    (case k4=>k_is)
    (case a5=>k_is)
    (case l5=>k_is)
    (case c5=>k_is)
    (case k5=>k_is)
    (case a6=>k_is)
    (case l6=>k_is)
    (case c6=>k_is)
    (case k6=>k_is)
    (case a7=>k_is)
    (case l7=>k_is)
    (case c7=>k_is)
    (case k7=>k_is)
    (case a8=>k_is)
    (case l8=>k_is)
    (case c8=>k_is)
    (case k8=>k_is)
    (case a9=>k_is)
    (case l9=>k_is)
    (case c9=>k_is)
    (case k9=>k_is)
    (case a10=>k_is)
    (case l10=>k_is)
    (case c10=>k_is)
    (case k10=>k_is)
    (case a11=>k_is)
    (case l11=>k_is)
    (case c11=>k_is)
    (case k11=>k_is)
    (case a12=>k_is)
    (case l12=>k_is)
    (case c12=>k_is)
    (case k12=>k_is)
    (case a13=>k_is)
    (case l13=>k_is)
    (case c13=>k_is)
    (case k13=>k_is)
    (case a14=>k_is)
    (case l14=>k_is)
    (case c14=>k_is)
    (case k14=>k_is)
    (case a15=>k_is)
    (case l15=>k_is)
    (case c15=>k_is)
    (case k15=>k_is)
    (case a16=>k_is)
    (case l16=>k_is)
    (case c16=>k_is)
    (case k16=>k_is)
    (case a17=>k_is)
    (case l17=>k_is)
    (case c17=>k_is)
    (case k17=>k_is)
    (case a18=>k_is)
    (case l18=>k_is)
    (case c18=>k_is)
    (case k18=>k_is)
    (case a19=>k_is)
    (case l19=>k_is)
    (case c19=>k_is)
    (case k19=>k_is)
    (case a20=>k_is)
    (case l20=>k_is)
    (case c20=>k_is)
    (case k20=>k_is)
    (case e0=>k_is)
    (case e1=>k_is)
    (case e2=>k_is)
    (case e3=>k_is)
    (case e4=>k_is)
    (case e5=>k_is)
    (case e6=>k_is)
    (case n_Roll=>k_is)
    (case ka_Roll=>(first | k_is | kernel_rfl | rfl))
    (case kb_Roll=>(first | k_is | kernel_rfl | rfl))
    (case kc_Roll=>(first | k_is | kernel_rfl | rfl))
    (case kd_Roll=>(first | k_is | kernel_rfl | rfl))
    (case ke_Roll=>(first | k_is | kernel_rfl | rfl))
    (case kf_Roll=>(first | k_is | kernel_rfl | rfl))
    (case kn_Roll_below=>(first | k_is | kernel_rfl | rfl))
    (case kn_Roll_day=>(first | k_is | kernel_rfl | rfl))
    (case kn_Roll_licences=>(first | k_is | kernel_rfl | rfl))
    (case kn_Roll_names=>(first | k_is | kernel_rfl | rfl))
    (case kn_Roll_done=>(first | k_is | kernel_rfl | rfl))
    (case ma_Roll___init__=>k_is)
    (case mf_Roll___init__=>(first | k_is | kernel_rfl | rfl))
    (case mk_Roll___init__=>k_is)
    (case ml_Roll___init__=>k_is)
    (case mc_Roll___init__=>k_is)
    (case ma_Roll_today=>k_is)
    (case mf_Roll_today=>(first | k_is | kernel_rfl | rfl))
    (case mk_Roll_today=>k_is)
    (case ml_Roll_today=>k_is)
    (case mc_Roll_today=>k_is)
    (case ma_Roll_roll=>k_is)
    (case mf_Roll_roll=>(first | k_is | kernel_rfl | rfl))
    (case mk_Roll_roll=>k_is)
    (case ml_Roll_roll=>k_is)
    (case mc_Roll_roll=>k_is)
    (case ma_Roll_holders=>k_is)
    (case mf_Roll_holders=>(first | k_is | kernel_rfl | rfl))
    (case mk_Roll_holders=>k_is)
    (case ml_Roll_holders=>k_is)
    (case mc_Roll_holders=>k_is)
    (case ma_Roll_turn=>k_is)
    (case mf_Roll_turn=>(first | k_is | kernel_rfl | rfl))
    (case mk_Roll_turn=>k_is)
    (case ml_Roll_turn=>k_is)
    (case mc_Roll_turn=>k_is)
    (case ma_Roll_file=>k_is)
    (case mf_Roll_file=>(first | k_is | kernel_rfl | rfl))
    (case mk_Roll_file=>k_is)
    (case ml_Roll_file=>k_is)
    (case mc_Roll_file=>k_is)
    (case mt_Roll_file=>k_is)
    (case mu_Roll_file=>exact ⟨_,rfl⟩)
    (case ma_Roll_sell=>k_is)
    (case mf_Roll_sell=>(first | k_is | kernel_rfl | rfl))
    (case mk_Roll_sell=>k_is)
    (case ml_Roll_sell=>k_is)
    (case mc_Roll_sell=>k_is)
    (case ma_Roll_part=>k_is)
    (case mf_Roll_part=>(first | k_is | kernel_rfl | rfl))
    (case mk_Roll_part=>k_is)
    (case ml_Roll_part=>k_is)
    (case mc_Roll_part=>k_is)
    (case ma_Roll_drop=>k_is)
    (case mf_Roll_drop=>(first | k_is | kernel_rfl | rfl))
    (case mk_Roll_drop=>k_is)
    (case ml_Roll_drop=>k_is)
    (case mc_Roll_drop=>k_is)
    (case ma_Roll_move=>k_is)
    (case mf_Roll_move=>(first | k_is | kernel_rfl | rfl))
    (case mk_Roll_move=>k_is)
    (case ml_Roll_move=>k_is)
    (case mc_Roll_move=>k_is)
    (case ma_Roll_look_move=>k_is)
    (case mf_Roll_look_move=>(first | k_is | kernel_rfl | rfl))
    (case mk_Roll_look_move=>k_is)
    (case ml_Roll_look_move=>k_is)
    (case mc_Roll_look_move=>k_is)
    (case ma_Roll_enter=>k_is)
    (case mf_Roll_enter=>(first | k_is | kernel_rfl | rfl))
    (case mk_Roll_enter=>k_is)
    (case ml_Roll_enter=>k_is)
    (case mc_Roll_enter=>k_is)
    (case ma_Roll_is_alone=>k_is)
    (case mf_Roll_is_alone=>(first | k_is | kernel_rfl | rfl))
    (case mk_Roll_is_alone=>k_is)
    (case ml_Roll_is_alone=>k_is)
    (case mc_Roll_is_alone=>k_is)
    (case ma_Roll_look_at_number=>k_is)
    (case mf_Roll_look_at_number=>(first | k_is | kernel_rfl | rfl))
    (case mk_Roll_look_at_number=>k_is)
    (case ml_Roll_look_at_number=>k_is)
    (case mc_Roll_look_at_number=>k_is)
    (case ma_Roll_look_at_holder=>k_is)
    (case mf_Roll_look_at_holder=>(first | k_is | kernel_rfl | rfl))
    (case mk_Roll_look_at_holder=>k_is)
    (case ml_Roll_look_at_holder=>k_is)
    (case mc_Roll_look_at_holder=>k_is)
    (case ma_Roll_look_at_room=>k_is)
    (case mf_Roll_look_at_room=>(first | k_is | kernel_rfl | rfl))
    (case mk_Roll_look_at_room=>k_is)
    (case ml_Roll_look_at_room=>k_is)
    (case mc_Roll_look_at_room=>k_is)
    (case z_len=>k_is)
    (case z_range=>k_is)
    (case z_list=>k_is)
    (case z_isinstance=>k_is)
    (case z_bool=>k_is)
    (case z_int=>k_is)
    (case z_all=>k_is)
    (case z_min=>k_is)
    (case z_max=>k_is)
    (case z_sum=>k_is)
    (case z_sorted=>k_is)
    (case z_zip=>k_is)
    (case z_tuple=>k_is)
    (case z_str=>k_is)
    (case z_any=>k_is)
    (case z_enumerate=>k_is)
    (case z_reversed=>k_is)
    (case z_abs=>k_is)
    (case z_ValueError=>k_is)
    (case z_set=>k_is)
    (case n_SluiceError=>k_is)
    (case q_SluiceError=>(first | k_is | kernel_rfl))
    (case xa_SluiceError=>(first | k_is | kernel_rfl))
    (case xb_SluiceError=>(first | k_is | kernel_rfl))
    (case xc_SluiceError=>(first | k_is | kernel_rfl))
    (case xd_SluiceError=>(first | k_is | kernel_rfl))
    (case xe_SluiceError=>(first | k_is | kernel_rfl))
    (case xf_SluiceError=>(first | k_is | kernel_rfl))
    (case xg_SluiceError=>(first | k_is | kernel_rfl))
    (case xh_SluiceError=>(first | k_is | kernel_rfl))
    (case n_NotYours=>k_is)
    (case q_NotYours=>(first | k_is | kernel_rfl))
    (case xa_NotYours=>(first | k_is | kernel_rfl))
    (case xb_NotYours=>(first | k_is | kernel_rfl))
    (case xc_NotYours=>(first | k_is | kernel_rfl))
    (case xd_NotYours=>(first | k_is | kernel_rfl))
    (case xe_NotYours=>(first | k_is | kernel_rfl))
    (case xf_NotYours=>(first | k_is | kernel_rfl))
    (case xg_NotYours=>(first | k_is | kernel_rfl))
    (case xh_NotYours=>(first | k_is | kernel_rfl))
    (case n_NoLicence=>k_is)
    (case q_NoLicence=>(first | k_is | kernel_rfl))
    (case xa_NoLicence=>(first | k_is | kernel_rfl))
    (case xb_NoLicence=>(first | k_is | kernel_rfl))
    (case xc_NoLicence=>(first | k_is | kernel_rfl))
    (case xd_NoLicence=>(first | k_is | kernel_rfl))
    (case xe_NoLicence=>(first | k_is | kernel_rfl))
    (case xf_NoLicence=>(first | k_is | kernel_rfl))
    (case xg_NoLicence=>(first | k_is | kernel_rfl))
    (case xh_NoLicence=>(first | k_is | kernel_rfl))
    (case n_NoNumber=>k_is)
    (case q_NoNumber=>(first | k_is | kernel_rfl))
    (case xa_NoNumber=>(first | k_is | kernel_rfl))
    (case xb_NoNumber=>(first | k_is | kernel_rfl))
    (case xc_NoNumber=>(first | k_is | kernel_rfl))
    (case xd_NoNumber=>(first | k_is | kernel_rfl))
    (case xe_NoNumber=>(first | k_is | kernel_rfl))
    (case xf_NoNumber=>(first | k_is | kernel_rfl))
    (case xg_NoNumber=>(first | k_is | kernel_rfl))
    (case xh_NoNumber=>(first | k_is | kernel_rfl))
    (case n_NotAlone=>k_is)
    (case q_NotAlone=>(first | k_is | kernel_rfl))
    (case xa_NotAlone=>(first | k_is | kernel_rfl))
    (case xb_NotAlone=>(first | k_is | kernel_rfl))
    (case xc_NotAlone=>(first | k_is | kernel_rfl))
    (case xd_NotAlone=>(first | k_is | kernel_rfl))
    (case xe_NotAlone=>(first | k_is | kernel_rfl))
    (case xf_NotAlone=>(first | k_is | kernel_rfl))
    (case xg_NotAlone=>(first | k_is | kernel_rfl))
    (case xh_NotAlone=>(first | k_is | kernel_rfl))
    (case n_TooMuch=>k_is)
    (case q_TooMuch=>(first | k_is | kernel_rfl))
    (case xa_TooMuch=>(first | k_is | kernel_rfl))
    (case xb_TooMuch=>(first | k_is | kernel_rfl))
    (case xc_TooMuch=>(first | k_is | kernel_rfl))
    (case xd_TooMuch=>(first | k_is | kernel_rfl))
    (case xe_TooMuch=>(first | k_is | kernel_rfl))
    (case xf_TooMuch=>(first | k_is | kernel_rfl))
    (case xg_TooMuch=>(first | k_is | kernel_rfl))
    (case xh_TooMuch=>(first | k_is | kernel_rfl))
    (case m_NotYours_SluiceError=>(first | k_is | kernel_rfl))
    (case i_NotYours_NoNumber=>(first | k_is | kernel_rfl))
    (case i_NotYours_NotYours=>(first | k_is | kernel_rfl))
    (case i_NotYours_ValueError=>(first | k_is | kernel_rfl))
