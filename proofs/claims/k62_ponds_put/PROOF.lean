import PyProof.Rows.All
import Wide.All
import OpenK.AllK
import Wide.FinOn
import Lean
import PyProof.EqAt
import PyProof.EqKinds
import PyProof.TupleCall
import KE.KSortTup
import PySem.Challenge.RW_sluice_k62_ponds_put
set_option Elab.async false
set_option linter.all false
set_option maxRecDepth 100000
set_option maxHeartbeats 4000000
local macro_rules | `(tactic| omega) => `(tactic| first | lia | omega (splitDisjunctions := true))
namespace L2
open PySem
def inClass (s:Stmt) (j:Nat):Stmt:=match s with
  | .ClassDef _ _ _ body _ _ _ _ _ _ _=>body.getD j (.Pass ⟨0,0,0,0⟩)
  | _=>.Pass ⟨0,0,0,0⟩
def ao (s:Stmt):Arguments:=match s with
  | .FunctionDef _ a _ _ _ _ _ _ _ _=>a
  | _=>{ posonlyargs:=[],args:=[],vararg:=none,kwonlyargs:=[],kw_defaults:=[],kwarg:=none,defaults:=[] }
def ak (s:Stmt):List Stmt:=match s with
  | .FunctionDef _ _ b _ _ _ _ _ _ _=>b
  | _=>[]
def aj (s:Stmt):Scope:=match s with
  | .FunctionDef _ _ _ _ _ _ sc _ _ _=>sc
  | _=>{ kind:=.function,names:=[],isGenerator:=false,isCoroutine:=false }
end L2
namespace My
open PySem L2
noncomputable def top0 (i:Nat):Stmt:=PySem.Challenge.pw_sluice_k62_ponds_put.main.body.getD i (.Pass ⟨0,0,0,0⟩)
noncomputable def en (P:Params) (x:Str) (t:Tok) (v:Value):DictEntry:=⟨PyData.keyHash P x,.str x t,v⟩
noncomputable section
def tq (a:Array Value):Obj:={ cls:=.type "tuple",data:=.seq a }
def fc (a:Array Value):Obj:={ cls:=.type "code",data:=.fields a }
def cp (n:Nat):Value:=.str "/claim/cut.py" n
def pr0 (x:Str) (i:Nat):Obj:={ cls:=.none,data:=.func { name:=x,qualname:=x,params:=ao (top0 i),body:=.stmts (ak (top0 i)),scope:=aj (top0 i),globals:=0,closure:=[],defaults:=.none,kwdefaults:=.none } }
def T7 (P:Params):Obj:={ cls:=.type "dict",data:=Data.dict #[en P "__name__" 1 (.str "builtins" 160),en P "__doc__" 2 (.builtin "builtins.__doc__:str#opaque"),en P "__package__" 3 (.builtin "builtins.__package__:str#opaque"),en P "__loader__" 4 (.builtin "builtins.__loader__:shared#opaque"),en P "__spec__" 5 (.builtin "builtins.__spec__#opaque"),en P "__build_class__" 6 (.builtin "__build_class__"),en P "__import__" 7 (.builtin "__import__"),en P "abs" 8 (.builtin "abs"),en P "all" 9 (.builtin "all"),en P "any" 10 (.builtin "any"),en P "ascii" 11 (.builtin "ascii"),en P "bin" 12 (.builtin "bin"),en P "breakpoint" 13 (.builtin "breakpoint"),en P "callable" 14 (.builtin "callable"),en P "chr" 15 (.builtin "chr"),en P "compile" 16 (.builtin "compile"),en P "delattr" 17 (.builtin "delattr"),en P "dir" 18 (.builtin "dir"),en P "divmod" 19 (.builtin "divmod"),en P "eval" 20 (.builtin "eval"),en P "exec" 21 (.builtin "exec"),en P "format" 22 (.builtin "format"),en P "getattr" 23 (.builtin "getattr"),en P "globals" 24 (.builtin "globals"),en P "hasattr" 25 (.builtin "hasattr"),en P "hash" 26 (.builtin "hash"),en P "hex" 27 (.builtin "hex"),en P "id" 28 (.builtin "id"),en P "input" 29 (.builtin "input"),en P "isinstance" 30 (.builtin "isinstance"),en P "issubclass" 31 (.builtin "issubclass"),en P "iter" 32 (.builtin "iter"),en P "aiter" 33 (.builtin "aiter"),en P "len" 34 (.builtin "len"),en P "locals" 35 (.builtin "locals"),en P "max" 36 (.builtin "max"),en P "min" 37 (.builtin "min"),en P "next" 38 (.builtin "next"),en P "anext" 39 (.builtin "anext"),en P "oct" 40 (.builtin "oct"),en P "ord" 41 (.builtin "ord"),en P "pow" 42 (.builtin "pow"),en P "print" 43 (.builtin "print"),en P "repr" 44 (.builtin "repr"),en P "round" 45 (.builtin "round"),en P "setattr" 46 (.builtin "setattr"),en P "sorted" 47 (.builtin "sorted"),en P "sum" 48 (.builtin "sum"),en P "vars" 49 (.builtin "vars"),en P "None" 50 .none,en P "Ellipsis" 51 .ellipsis,en P "NotImplemented" 52 .notImplemented,en P "False" 53 (.bool false),en P "True" 54 (.bool true),en P "bool" 55 (.type "bool"),en P "memoryview" 56 (.type "memoryview"),en P "bytearray" 57 (.type "bytearray"),en P "bytes" 58 (.type "bytes"),en P "classmethod" 59 (.type "classmethod"),en P "complex" 60 (.type "complex"),en P "dict" 61 (.type "dict"),en P "enumerate" 62 (.type "enumerate"),en P "filter" 63 (.type "filter"),en P "float" 64 (.type "float"),en P "frozenset" 65 (.type "frozenset"),en P "property" 66 (.type "property"),en P "int" 67 (.type "int"),en P "list" 68 (.type "list"),en P "map" 69 (.type "map"),en P "object" 70 (.type "object"),en P "range" 71 (.type "range"),en P "reversed" 72 (.type "reversed"),en P "set" 73 (.type "set"),en P "slice" 74 (.type "slice"),en P "staticmethod" 75 (.type "staticmethod"),en P "str" 76 (.type "str"),en P "super" 77 (.type "super"),en P "tuple" 78 (.type "tuple"),en P "type" 79 (.type "type"),en P "zip" 80 (.type "zip"),en P "__debug__" 81 (.bool true),en P "BaseException" 82 (.type "BaseException"),en P "BaseExceptionGroup" 83 (.type "BaseExceptionGroup"),en P "Exception" 84 (.type "Exception"),en P "GeneratorExit" 85 (.type "GeneratorExit"),en P "KeyboardInterrupt" 86 (.type "KeyboardInterrupt"),en P "SystemExit" 87 (.type "SystemExit"),en P "ArithmeticError" 88 (.type "ArithmeticError"),en P "AssertionError" 89 (.type "AssertionError"),en P "AttributeError" 90 (.type "AttributeError"),en P "BufferError" 91 (.type "BufferError"),en P "EOFError" 92 (.type "EOFError"),en P "ImportError" 93 (.type "ImportError"),en P "LookupError" 94 (.type "LookupError"),en P "MemoryError" 95 (.type "MemoryError"),en P "NameError" 96 (.type "NameError"),en P "OSError" 97 (.type "OSError"),en P "ReferenceError" 98 (.type "ReferenceError"),en P "RuntimeError" 99 (.type "RuntimeError"),en P "StopAsyncIteration" 100 (.type "StopAsyncIteration"),en P "StopIteration" 101 (.type "StopIteration"),en P "SyntaxError" 102 (.type "SyntaxError"),en P "SystemError" 103 (.type "SystemError"),en P "TypeError" 104 (.type "TypeError"),en P "ValueError" 105 (.type "ValueError"),en P "Warning" 106 (.type "Warning"),en P "FloatingPointError" 107 (.type "FloatingPointError"),en P "OverflowError" 108 (.type "OverflowError"),en P "ZeroDivisionError" 109 (.type "ZeroDivisionError"),en P "BytesWarning" 110 (.type "BytesWarning"),en P "DeprecationWarning" 111 (.type "DeprecationWarning"),en P "EncodingWarning" 112 (.type "EncodingWarning"),en P "FutureWarning" 113 (.type "FutureWarning"),en P "ImportWarning" 114 (.type "ImportWarning"),en P "PendingDeprecationWarning" 115 (.type "PendingDeprecationWarning"),en P "ResourceWarning" 116 (.type "ResourceWarning"),en P "RuntimeWarning" 117 (.type "RuntimeWarning"),en P "SyntaxWarning" 118 (.type "SyntaxWarning"),en P "UnicodeWarning" 119 (.type "UnicodeWarning"),en P "UserWarning" 120 (.type "UserWarning"),en P "BlockingIOError" 121 (.type "BlockingIOError"),en P "ChildProcessError" 122 (.type "ChildProcessError"),en P "ConnectionError" 123 (.type "ConnectionError"),en P "FileExistsError" 124 (.type "FileExistsError"),en P "FileNotFoundError" 125 (.type "FileNotFoundError"),en P "InterruptedError" 126 (.type "InterruptedError"),en P "IsADirectoryError" 127 (.type "IsADirectoryError"),en P "NotADirectoryError" 128 (.type "NotADirectoryError"),en P "PermissionError" 129 (.type "PermissionError"),en P "ProcessLookupError" 130 (.type "ProcessLookupError"),en P "TimeoutError" 131 (.type "TimeoutError"),en P "IndentationError" 132 (.type "IndentationError"),en P "_IncompleteInputError" 133 (.type "_IncompleteInputError"),en P "IndexError" 134 (.type "IndexError"),en P "KeyError" 135 (.type "KeyError"),en P "ModuleNotFoundError" 136 (.type "ModuleNotFoundError"),en P "NotImplementedError" 137 (.type "NotImplementedError"),en P "PythonFinalizationError" 138 (.type "PythonFinalizationError"),en P "RecursionError" 139 (.type "RecursionError"),en P "UnboundLocalError" 140 (.type "UnboundLocalError"),en P "UnicodeError" 141 (.type "UnicodeError"),en P "BrokenPipeError" 142 (.type "BrokenPipeError"),en P "ConnectionAbortedError" 143 (.type "ConnectionAbortedError"),en P "ConnectionRefusedError" 144 (.type "ConnectionRefusedError"),en P "ConnectionResetError" 145 (.type "ConnectionResetError"),en P "TabError" 146 (.type "TabError"),en P "UnicodeDecodeError" 147 (.type "UnicodeDecodeError"),en P "UnicodeEncodeError" 148 (.type "UnicodeEncodeError"),en P "UnicodeTranslateError" 149 (.type "UnicodeTranslateError"),en P "ExceptionGroup" 150 (.type "ExceptionGroup"),en P "EnvironmentError" 151 (.type "OSError"),en P "IOError" 152 (.type "OSError"),en P "open" 153 (.builtin "open"),en P "quit" 154 (.builtin "builtins.quit#opaque"),en P "exit" 155 (.builtin "builtins.exit#opaque"),en P "copyright" 156 (.builtin "builtins.copyright#opaque"),en P "credits" 157 (.builtin "builtins.credits#opaque"),en P "license" 158 (.builtin "builtins.license#opaque"),en P "help" 159 (.builtin "builtins.help#opaque")] 159 }
def T5 (P:Params):Obj:={ cls:=.type "dict",data:=Data.dict #[en P "builtins" 162 (.ref 4),en P "__main__" 163 (.ref 5)] 2 }
def Oz (P:Params):Obj:={ cls:=.none,data:=Data.dict #[] }
def U0 (P:Params):Obj:={ cls:=.type "dict",data:=Data.dict #[en P "__name__" 165 (.str "__main__" 164),en P "__doc__" 166 .none,en P "__package__" 167 .none,en P "__loader__" 168 (.builtin "__main__.__loader__#opaque"),en P "__spec__" 169 .none,en P "__annotations__" 170 (.ref 6),en P "__builtins__" 171 (.ref 4),en P "__file__" 173 (cp 172),en P "__cached__" 174 .none] 9 }
def Rt (P:Params):Obj:={ cls:=.type "module",dict:=some 0 }
def Q6 (P:Params):Obj:={ cls:=.type "module",dict:=some 3 }
def QT (P:Params):Obj:={ cls:=.type "dict",data:=Data.dict #[] }
def QG (P:Params):Obj:=(tq #[])
def Qx (P:Params):Obj:={ cls:=.none,data:=Data.fields #[] }
def zZ (P:Params):Obj:=(fc #[.str "<module>" 176,.str "<module>" 177,cp 178,.int 1 0,.int 0 0,.int 0 0,.int 0 0,.int 0 0,.ref 7,.bool false,.int 175 0,.ref 8,.none,.none,.none,.none,.int 179 0,.int 1 0,cp 180])
def zV (P:Params):Obj:={ cls:=.type "frame",slots:=#[some (.ref 9),some (.ref 3),some (.ref 3),none,some (.str "__main__" 164),none,some (.ref 0)] }
def Ci (P:Params):Obj:=(tq #[])
def T6 (P:Params):Obj:={ cls:=.none,data:=Data.fields #[] }
def Cg (P:Params):Obj:=(fc #[.str "<module>" 182,.str "<module>" 183,cp 184,.int 1 0,.int 0 0,.int 0 0,.int 0 0,.int 0 0,.ref 11,.bool false,.int 181 0,.ref 12,.none,.none,.none,.none,.int 185 0,.int 1 0,cp 186])
def Ce (P:Params):Obj:={ cls:=.type "frame",slots:=#[some (.ref 13),some (.ref 3),some (.ref 3),none,some (.str "__main__" 164),none,some (.ref 0)] }
def U4 (P:Params):Obj:={ cls:=.type "dict",data:=Data.dict #[en P "__name__" 165 (.str "sluice.rolls" 435),en P "__doc__" 166 .none,en P "__package__" 167 .none,en P "__loader__" 168 (.builtin "__main__.__loader__#opaque"),en P "__spec__" 169 .none,en P "__annotations__" 170 (.ref 6),en P "__builtins__" 171 (.ref 4),en P "__file__" 173 (cp 172),en P "__cached__" 174 .none,en P "_wall" 193 (.ref 21),en P "MOST_WATER" 197 (.int 1000000000000 196),en P "LONGEST_NAME" 199 (.int 8 198),en P "LETTERS" 201 (.str "abcdefghijklmnopqrstuvwxyz" 200),en P "is_water" 208 (.ref 28),en P "is_name" 214 (.ref 33),en P "SluiceError" 234 (.ref 43),en P "NoRiver" 250 (.ref 56),en P "NoLicence" 266 (.ref 68),en P "NoNumber" 282 (.ref 80),en P "NoHolder" 298 (.ref 92),en P "NotYours" 314 (.ref 104),en P "TooMuch" 330 (.ref 116),en P "Full" 346 (.ref 128),en P "NoPond" 362 (.ref 140),en P "MOST_REACHES" 366 (.int 40 365),en P "MOUTH" 369 (.int (-1) 368),en P "comes_to_mouth" 379 (.ref 149),en P "is_river" 385 (.ref 154),en P "way_of" 394 (.ref 161),en P "LAST_DAY" 398 (.int 1000000 397),en P "is_licence" 410 (.ref 168),en P "gives_back" 417 (.ref 175),en P "most_of" 424 (.ref 182),en P "with_most" 432 (.ref 189),en P "WHOLE" 434 (.int 1000 433),en P "MOST_LICENCES" 438 (.int 60 437),en P "look_at_name" 445 (.ref 196),en P "Roll" 622 (.ref 331)] 38 }
def U3 (P:Params):Obj:={ cls:=.none,data:=Data.fields #[.int 1 0,.int 0 0,.ref 20,.int 8 0,.int 0 0,.ref 27,.int 10 0,.int 0 0,.ref 32,.int 13 0,.int 0 0,.ref 39,.int 15 0,.int 0 0,.ref 52,.int 17 0,.int 0 0,.ref 64,.int 19 0,.int 0 0,.ref 76,.int 21 0,.int 0 0,.ref 88,.int 23 0,.int 0 0,.ref 100,.int 25 0,.int 0 0,.ref 112,.int 27 0,.int 0 0,.ref 124,.int 29 0,.int 0 0,.ref 136,.int 34 0,.int 0 0,.ref 148,.int 41 0,.int 0 0,.ref 153,.int 47 0,.int 0 0,.ref 160,.int 54 0,.int 0 0,.ref 167,.int 59 0,.int 0 0,.ref 174,.int 61 0,.int 0 0,.ref 181,.int 63 0,.int 0 0,.ref 188,.int 68 0,.int 0 0,.ref 195,.int 71 0,.int 0 0,.ref 202] }
def N8 (P:Params):Obj:=(tq #[])
def T4 (P:Params):Obj:={ cls:=.none,data:=Data.fields #[] }
def N7 (P:Params):Obj:=(tq #[.str "k" 190])
def N6 (P:Params):Obj:=(tq #[])
def T3 (P:Params):Obj:=(pr0 "_wall" 0)
def N5 (P:Params):Obj:=(fc #[.str "_wall" 187,.str "_wall" 188,cp 189,.int 1 0,.int 1 0,.int 0 0,.int 0 0,.int 3 0,.ref 15,.bool true,.int 181 0,.ref 16,.none,.ref 17,.ref 18,.ref 19,.int 191 0,.int 1 0,cp 192])
def NZ (P:Params):Obj:=⟨.type "function",none,.func (PySem.W.fnOf "_wall" "_wall" (ao (top0 0)) (ak (top0 0)) (aj (top0 0)) .none .none .none (.str "__main__" 164) none (.ref 20) .none),#[]⟩
def NT (P:Params):Obj:=(tq #[])
def TY (P:Params):Obj:={ cls:=.none,data:=Data.fields #[] }
def NQ (P:Params):Obj:=(tq #[.str "amount" 205])
def NP (P:Params):Obj:=(tq #[])
def TV (P:Params):Obj:=(pr0 "is_water" 5)
def NK (P:Params):Obj:=(fc #[.str "is_water" 202,.str "is_water" 203,cp 204,.int 8 0,.int 1 0,.int 0 0,.int 0 0,.int 3 0,.ref 22,.bool true,.int 181 0,.ref 23,.none,.ref 24,.ref 25,.ref 26,.int 206 0,.int 8 0,cp 207])
def Nz (P:Params):Obj:=⟨.type "function",none,.func (PySem.W.fnOf "is_water" "is_water" (ao (top0 5)) (ak (top0 5)) (aj (top0 5)) .none .none .none (.str "sluice.bounds" 194) none (.ref 27) .none),#[]⟩
def Ny (P:Params):Obj:=(tq #[])
def Tj (P:Params):Obj:={ cls:=.none,data:=Data.fields #[] }
def Te (P:Params):Obj:=(pr0 "is_name" 6)
def Nx (P:Params):Obj:=(fc #[.str "is_name" 209,.str "is_name" 210,cp 211,.int 10 0,.int 1 0,.int 0 0,.int 0 0,.int 3 0,.ref 29,.bool true,.int 181 0,.ref 30,.none,.none,.none,.ref 31,.int 212 0,.int 10 0,cp 213])
def Nv (P:Params):Obj:=⟨.type "function",none,.func (PySem.W.fnOf "is_name" "is_name" (ao (top0 6)) (ak (top0 6)) (aj (top0 6)) .none .none .none (.str "sluice.bounds" 194) none (.ref 32) .none),#[]⟩
def Nu (P:Params):Obj:=(tq #[.type "ValueError"])
def SJ (P:Params):Obj:={ cls:=.type "builtin_function_or_method",data:=Data.fields #[.builtin "type.__prepare__",.type "type"] }
def Sv (P:Params):Obj:={ cls:=.type "dict",data:=Data.dict #[en P "__module__" 224 (.str "sluice.errors" 215),en P "__qualname__" 226 (.str "SluiceError" 225),en P "__firstlineno__" 228 (.int 13 227),en P "__static_attributes__" 229 (.ref 41)] 4 }
def Sd (P:Params):Obj:=(tq #[])
def R5 (P:Params):Obj:={ cls:=.none,data:=Data.fields #[] }
def RZ (P:Params):Obj:=(fc #[.str "SluiceError" 219,.str "SluiceError" 220,cp 221,.int 13 0,.int 0 0,.int 0 0,.int 0 0,.int 0 0,.ref 37,.bool false,.int 181 0,.ref 38,.none,.none,.none,.none,.int 222 0,.int 13 0,cp 223])
def RQ (P:Params):Obj:={ cls:=.type "frame",slots:=#[some (.ref 39),some (.ref 3),some (.ref 36),none,some (.str "sluice.errors" 215),none,some (.ref 0)] }
def Nt (P:Params):Obj:=(tq #[])
def Nr (P:Params):Obj:={ cls:=.type "dict",data:=Data.dict #[en P "__module__" 224 (.str "sluice.errors" 215),en P "__firstlineno__" 228 (.int 13 227),en P "__static_attributes__" 229 (.ref 41),en P "__weakref__" 231 (.ref 44),en P "__doc__" 232 .none] 3 }
def Nq (P:Params):Obj:={ cls:=.type "type",data:=Data.cls { name:="SluiceError",bases:=[.type "ValueError"],mro:=[.ref 43,.type "ValueError",.type "Exception",.type "BaseException",.type "object"],ns:=42,qualname:="SluiceError",subclasses:=[.ref 56,.ref 68,.ref 80,.ref 92,.ref 104,.ref 116,.ref 128,.ref 140] },slots:=#[some (.ref 34),none,some (.str "SluiceError" 217),some (.str "SluiceError" 225),some (.builtin "ValueError.__new__"),some (.bool true)] }
def Np (P:Params):Obj:={ cls:=.type "getset_descriptor",data:=Data.fields #[.str "__weakref__" 230,.ref 43,.builtin "ExceptionGroup.__weakref__",.none] }
def Ro (P:Params):Obj:={ cls:=.type "super",data:=Data.fields #[.ref 43,.ref 43,.ref 43] }
def Rj (P:Params):Obj:={ cls:=.type "builtin_function_or_method",data:=Data.fields #[.builtin "object.__init_subclass__",.ref 43] }
def Nm (P:Params):Obj:=(tq #[.ref 43])
def Rc (P:Params):Obj:={ cls:=.type "builtin_function_or_method",data:=Data.fields #[.builtin "type.__prepare__",.type "type"] }
def Rb (P:Params):Obj:={ cls:=.type "dict",data:=Data.dict #[en P "__module__" 242 (.str "sluice.errors" 215),en P "__qualname__" 244 (.str "NoRiver" 243),en P "__firstlineno__" 246 (.int 15 245),en P "__static_attributes__" 247 (.ref 54)] 4 }
def Ra (P:Params):Obj:=(tq #[])
def Q9 (P:Params):Obj:={ cls:=.none,data:=Data.fields #[] }
def Q8 (P:Params):Obj:=(fc #[.str "NoRiver" 237,.str "NoRiver" 238,cp 239,.int 15 0,.int 0 0,.int 0 0,.int 0 0,.int 0 0,.ref 50,.bool false,.int 181 0,.ref 51,.none,.none,.none,.none,.int 240 0,.int 15 0,cp 241])
def Q7 (P:Params):Obj:={ cls:=.type "frame",slots:=#[some (.ref 52),some (.ref 3),some (.ref 49),none,some (.str "sluice.errors" 215),none,some (.ref 0)] }
def Nk (P:Params):Obj:=(tq #[])
def Nj (P:Params):Obj:={ cls:=.type "dict",data:=Data.dict #[en P "__module__" 242 (.str "sluice.errors" 215),en P "__firstlineno__" 246 (.int 15 245),en P "__static_attributes__" 247 (.ref 54),en P "__doc__" 248 .none] 2 }
def Ni (P:Params):Obj:={ cls:=.type "type",data:=Data.cls { name:="NoRiver",bases:=[.ref 43],mro:=[.ref 56,.ref 43,.type "ValueError",.type "Exception",.type "BaseException",.type "object"],ns:=55,qualname:="NoRiver" },slots:=#[some (.ref 47),none,some (.str "NoRiver" 235),some (.str "NoRiver" 243),some (.builtin "ValueError.__new__"),some (.bool true)] }
def Q5 (P:Params):Obj:={ cls:=.type "super",data:=Data.fields #[.ref 56,.ref 56,.ref 56] }
def Q0 (P:Params):Obj:={ cls:=.type "builtin_function_or_method",data:=Data.fields #[.builtin "object.__init_subclass__",.ref 56] }
def Nh (P:Params):Obj:=(tq #[.ref 43])
def QZ (P:Params):Obj:={ cls:=.type "builtin_function_or_method",data:=Data.fields #[.builtin "type.__prepare__",.type "type"] }
def QX (P:Params):Obj:={ cls:=.type "dict",data:=Data.dict #[en P "__module__" 258 (.str "sluice.errors" 215),en P "__qualname__" 260 (.str "NoLicence" 259),en P "__firstlineno__" 262 (.int 17 261),en P "__static_attributes__" 263 (.ref 66)] 4 }
def QW (P:Params):Obj:=(tq #[])
def QV (P:Params):Obj:={ cls:=.none,data:=Data.fields #[] }
def QS (P:Params):Obj:=(fc #[.str "NoLicence" 253,.str "NoLicence" 254,cp 255,.int 17 0,.int 0 0,.int 0 0,.int 0 0,.int 0 0,.ref 62,.bool false,.int 181 0,.ref 63,.none,.none,.none,.none,.int 256 0,.int 17 0,cp 257])
def QM (P:Params):Obj:={ cls:=.type "frame",slots:=#[some (.ref 64),some (.ref 3),some (.ref 61),none,some (.str "sluice.errors" 215),none,some (.ref 0)] }
def Ng (P:Params):Obj:=(tq #[])
def Nf (P:Params):Obj:={ cls:=.type "dict",data:=Data.dict #[en P "__module__" 258 (.str "sluice.errors" 215),en P "__firstlineno__" 262 (.int 17 261),en P "__static_attributes__" 263 (.ref 66),en P "__doc__" 264 .none] 2 }
def Nb (P:Params):Obj:={ cls:=.type "type",data:=Data.cls { name:="NoLicence",bases:=[.ref 43],mro:=[.ref 68,.ref 43,.type "ValueError",.type "Exception",.type "BaseException",.type "object"],ns:=67,qualname:="NoLicence" },slots:=#[some (.ref 59),none,some (.str "NoLicence" 251),some (.str "NoLicence" 259),some (.builtin "ValueError.__new__"),some (.bool true)] }
def QL (P:Params):Obj:={ cls:=.type "super",data:=Data.fields #[.ref 68,.ref 68,.ref 68] }
def QK (P:Params):Obj:={ cls:=.type "builtin_function_or_method",data:=Data.fields #[.builtin "object.__init_subclass__",.ref 68] }
def M9 (P:Params):Obj:=(tq #[.ref 43])
def QJ (P:Params):Obj:={ cls:=.type "builtin_function_or_method",data:=Data.fields #[.builtin "type.__prepare__",.type "type"] }
def QH (P:Params):Obj:={ cls:=.type "dict",data:=Data.dict #[en P "__module__" 274 (.str "sluice.errors" 215),en P "__qualname__" 276 (.str "NoNumber" 275),en P "__firstlineno__" 278 (.int 19 277),en P "__static_attributes__" 279 (.ref 78)] 4 }
def QF (P:Params):Obj:=(tq #[])
def QD (P:Params):Obj:={ cls:=.none,data:=Data.fields #[] }
def QC (P:Params):Obj:=(fc #[.str "NoNumber" 269,.str "NoNumber" 270,cp 271,.int 19 0,.int 0 0,.int 0 0,.int 0 0,.int 0 0,.ref 74,.bool false,.int 181 0,.ref 75,.none,.none,.none,.none,.int 272 0,.int 19 0,cp 273])
def QB (P:Params):Obj:={ cls:=.type "frame",slots:=#[some (.ref 76),some (.ref 3),some (.ref 73),none,some (.str "sluice.errors" 215),none,some (.ref 0)] }
def M8 (P:Params):Obj:=(tq #[])
def M7 (P:Params):Obj:={ cls:=.type "dict",data:=Data.dict #[en P "__module__" 274 (.str "sluice.errors" 215),en P "__firstlineno__" 278 (.int 19 277),en P "__static_attributes__" 279 (.ref 78),en P "__doc__" 280 .none] 2 }
def M6 (P:Params):Obj:={ cls:=.type "type",data:=Data.cls { name:="NoNumber",bases:=[.ref 43],mro:=[.ref 80,.ref 43,.type "ValueError",.type "Exception",.type "BaseException",.type "object"],ns:=79,qualname:="NoNumber" },slots:=#[some (.ref 71),none,some (.str "NoNumber" 267),some (.str "NoNumber" 275),some (.builtin "ValueError.__new__"),some (.bool true)] }
def Qz (P:Params):Obj:={ cls:=.type "super",data:=Data.fields #[.ref 80,.ref 80,.ref 80] }
def Qy (P:Params):Obj:={ cls:=.type "builtin_function_or_method",data:=Data.fields #[.builtin "object.__init_subclass__",.ref 80] }
def M5 (P:Params):Obj:=(tq #[.ref 43])
def Qw (P:Params):Obj:={ cls:=.type "builtin_function_or_method",data:=Data.fields #[.builtin "type.__prepare__",.type "type"] }
def Qv (P:Params):Obj:={ cls:=.type "dict",data:=Data.dict #[en P "__module__" 290 (.str "sluice.errors" 215),en P "__qualname__" 292 (.str "NoHolder" 291),en P "__firstlineno__" 294 (.int 21 293),en P "__static_attributes__" 295 (.ref 90)] 4 }
def Qu (P:Params):Obj:=(tq #[])
def Qt (P:Params):Obj:={ cls:=.none,data:=Data.fields #[] }
def Qs (P:Params):Obj:=(fc #[.str "NoHolder" 285,.str "NoHolder" 286,cp 287,.int 21 0,.int 0 0,.int 0 0,.int 0 0,.int 0 0,.ref 86,.bool false,.int 181 0,.ref 87,.none,.none,.none,.none,.int 288 0,.int 21 0,cp 289])
def Qq (P:Params):Obj:={ cls:=.type "frame",slots:=#[some (.ref 88),some (.ref 3),some (.ref 85),none,some (.str "sluice.errors" 215),none,some (.ref 0)] }
def M4 (P:Params):Obj:=(tq #[])
def MP (P:Params):Obj:={ cls:=.type "dict",data:=Data.dict #[en P "__module__" 290 (.str "sluice.errors" 215),en P "__firstlineno__" 294 (.int 21 293),en P "__static_attributes__" 295 (.ref 90),en P "__doc__" 296 .none] 2 }
def MN (P:Params):Obj:={ cls:=.type "type",data:=Data.cls { name:="NoHolder",bases:=[.ref 43],mro:=[.ref 92,.ref 43,.type "ValueError",.type "Exception",.type "BaseException",.type "object"],ns:=91,qualname:="NoHolder" },slots:=#[some (.ref 83),none,some (.str "NoHolder" 283),some (.str "NoHolder" 291),some (.builtin "ValueError.__new__"),some (.bool true)] }
def Qp (P:Params):Obj:={ cls:=.type "super",data:=Data.fields #[.ref 92,.ref 92,.ref 92] }
def La (P:Params):Obj:={ cls:=.type "builtin_function_or_method",data:=Data.fields #[.builtin "object.__init_subclass__",.ref 92] }
def zY (P:Params):Obj:=(tq #[.ref 43])
def K9 (P:Params):Obj:={ cls:=.type "builtin_function_or_method",data:=Data.fields #[.builtin "type.__prepare__",.type "type"] }
def K8 (P:Params):Obj:={ cls:=.type "dict",data:=Data.dict #[en P "__module__" 306 (.str "sluice.errors" 215),en P "__qualname__" 308 (.str "NotYours" 307),en P "__firstlineno__" 310 (.int 23 309),en P "__static_attributes__" 311 (.ref 102)] 4 }
def K7 (P:Params):Obj:=(tq #[])
def K6 (P:Params):Obj:={ cls:=.none,data:=Data.fields #[] }
def K5 (P:Params):Obj:=(fc #[.str "NotYours" 301,.str "NotYours" 302,cp 303,.int 23 0,.int 0 0,.int 0 0,.int 0 0,.int 0 0,.ref 98,.bool false,.int 181 0,.ref 99,.none,.none,.none,.none,.int 304 0,.int 23 0,cp 305])
def K4 (P:Params):Obj:={ cls:=.type "frame",slots:=#[some (.ref 100),some (.ref 3),some (.ref 97),none,some (.str "sluice.errors" 215),none,some (.ref 0)] }
def zX (P:Params):Obj:=(tq #[])
def zW (P:Params):Obj:={ cls:=.type "dict",data:=Data.dict #[en P "__module__" 306 (.str "sluice.errors" 215),en P "__firstlineno__" 310 (.int 23 309),en P "__static_attributes__" 311 (.ref 102),en P "__doc__" 312 .none] 2 }
def zU (P:Params):Obj:={ cls:=.type "type",data:=Data.cls { name:="NotYours",bases:=[.ref 43],mro:=[.ref 104,.ref 43,.type "ValueError",.type "Exception",.type "BaseException",.type "object"],ns:=103,qualname:="NotYours" },slots:=#[some (.ref 95),none,some (.str "NotYours" 299),some (.str "NotYours" 307),some (.builtin "ValueError.__new__"),some (.bool true)] }
def K3 (P:Params):Obj:={ cls:=.type "super",data:=Data.fields #[.ref 104,.ref 104,.ref 104] }
def K1 (P:Params):Obj:={ cls:=.type "builtin_function_or_method",data:=Data.fields #[.builtin "object.__init_subclass__",.ref 104] }
def zT (P:Params):Obj:=(tq #[.ref 43])
def KZ (P:Params):Obj:={ cls:=.type "builtin_function_or_method",data:=Data.fields #[.builtin "type.__prepare__",.type "type"] }
def KY (P:Params):Obj:={ cls:=.type "dict",data:=Data.dict #[en P "__module__" 322 (.str "sluice.errors" 215),en P "__qualname__" 324 (.str "TooMuch" 323),en P "__firstlineno__" 326 (.int 25 325),en P "__static_attributes__" 327 (.ref 114)] 4 }
def KR (P:Params):Obj:=(tq #[])
def KQ (P:Params):Obj:={ cls:=.none,data:=Data.fields #[] }
def KN (P:Params):Obj:=(fc #[.str "TooMuch" 317,.str "TooMuch" 318,cp 319,.int 25 0,.int 0 0,.int 0 0,.int 0 0,.int 0 0,.ref 110,.bool false,.int 181 0,.ref 111,.none,.none,.none,.none,.int 320 0,.int 25 0,cp 321])
def KJ (P:Params):Obj:={ cls:=.type "frame",slots:=#[some (.ref 112),some (.ref 3),some (.ref 109),none,some (.str "sluice.errors" 215),none,some (.ref 0)] }
def zR (P:Params):Obj:=(tq #[])
def zQ (P:Params):Obj:={ cls:=.type "dict",data:=Data.dict #[en P "__module__" 322 (.str "sluice.errors" 215),en P "__firstlineno__" 326 (.int 25 325),en P "__static_attributes__" 327 (.ref 114),en P "__doc__" 328 .none] 2 }
def zP (P:Params):Obj:={ cls:=.type "type",data:=Data.cls { name:="TooMuch",bases:=[.ref 43],mro:=[.ref 116,.ref 43,.type "ValueError",.type "Exception",.type "BaseException",.type "object"],ns:=115,qualname:="TooMuch" },slots:=#[some (.ref 107),none,some (.str "TooMuch" 315),some (.str "TooMuch" 323),some (.builtin "ValueError.__new__"),some (.bool true)] }
def KH (P:Params):Obj:={ cls:=.type "super",data:=Data.fields #[.ref 116,.ref 116,.ref 116] }
def KD (P:Params):Obj:={ cls:=.type "builtin_function_or_method",data:=Data.fields #[.builtin "object.__init_subclass__",.ref 116] }
def zO (P:Params):Obj:=(tq #[.ref 43])
def KC (P:Params):Obj:={ cls:=.type "builtin_function_or_method",data:=Data.fields #[.builtin "type.__prepare__",.type "type"] }
def Kz (P:Params):Obj:={ cls:=.type "dict",data:=Data.dict #[en P "__module__" 338 (.str "sluice.errors" 215),en P "__qualname__" 340 (.str "Full" 339),en P "__firstlineno__" 342 (.int 27 341),en P "__static_attributes__" 343 (.ref 126)] 4 }
def Ky (P:Params):Obj:=(tq #[])
def Kw (P:Params):Obj:={ cls:=.none,data:=Data.fields #[] }
def Kv (P:Params):Obj:=(fc #[.str "Full" 333,.str "Full" 334,cp 335,.int 27 0,.int 0 0,.int 0 0,.int 0 0,.int 0 0,.ref 122,.bool false,.int 181 0,.ref 123,.none,.none,.none,.none,.int 336 0,.int 27 0,cp 337])
def Ku (P:Params):Obj:={ cls:=.type "frame",slots:=#[some (.ref 124),some (.ref 3),some (.ref 121),none,some (.str "sluice.errors" 215),none,some (.ref 0)] }
def zN (P:Params):Obj:=(tq #[])
def zM (P:Params):Obj:={ cls:=.type "dict",data:=Data.dict #[en P "__module__" 338 (.str "sluice.errors" 215),en P "__firstlineno__" 342 (.int 27 341),en P "__static_attributes__" 343 (.ref 126),en P "__doc__" 344 .none] 2 }
def zL (P:Params):Obj:={ cls:=.type "type",data:=Data.cls { name:="Full",bases:=[.ref 43],mro:=[.ref 128,.ref 43,.type "ValueError",.type "Exception",.type "BaseException",.type "object"],ns:=127,qualname:="Full" },slots:=#[some (.ref 119),none,some (.str "Full" 331),some (.str "Full" 339),some (.builtin "ValueError.__new__"),some (.bool true)] }
def Ks (P:Params):Obj:={ cls:=.type "super",data:=Data.fields #[.ref 128,.ref 128,.ref 128] }
def Kr (P:Params):Obj:={ cls:=.type "builtin_function_or_method",data:=Data.fields #[.builtin "object.__init_subclass__",.ref 128] }
def zK (P:Params):Obj:=(tq #[.ref 43])
def Kq (P:Params):Obj:={ cls:=.type "builtin_function_or_method",data:=Data.fields #[.builtin "type.__prepare__",.type "type"] }
def Kp (P:Params):Obj:={ cls:=.type "dict",data:=Data.dict #[en P "__module__" 354 (.str "sluice.errors" 215),en P "__qualname__" 356 (.str "NoPond" 355),en P "__firstlineno__" 358 (.int 29 357),en P "__static_attributes__" 359 (.ref 138)] 4 }
def Ko (P:Params):Obj:=(tq #[])
def Km (P:Params):Obj:={ cls:=.none,data:=Data.fields #[] }
def Kl (P:Params):Obj:=(fc #[.str "NoPond" 349,.str "NoPond" 350,cp 351,.int 29 0,.int 0 0,.int 0 0,.int 0 0,.int 0 0,.ref 134,.bool false,.int 181 0,.ref 135,.none,.none,.none,.none,.int 352 0,.int 29 0,cp 353])
def Kh (P:Params):Obj:={ cls:=.type "frame",slots:=#[some (.ref 136),some (.ref 3),some (.ref 133),none,some (.str "sluice.errors" 215),none,some (.ref 0)] }
def zJ (P:Params):Obj:=(tq #[])
def zH (P:Params):Obj:={ cls:=.type "dict",data:=Data.dict #[en P "__module__" 354 (.str "sluice.errors" 215),en P "__firstlineno__" 358 (.int 29 357),en P "__static_attributes__" 359 (.ref 138),en P "__doc__" 360 .none] 2 }
def zG (P:Params):Obj:={ cls:=.type "type",data:=Data.cls { name:="NoPond",bases:=[.ref 43],mro:=[.ref 140,.ref 43,.type "ValueError",.type "Exception",.type "BaseException",.type "object"],ns:=139,qualname:="NoPond" },slots:=#[some (.ref 131),none,some (.str "NoPond" 347),some (.str "NoPond" 355),some (.builtin "ValueError.__new__"),some (.bool true)] }
def Kg (P:Params):Obj:={ cls:=.type "super",data:=Data.fields #[.ref 140,.ref 140,.ref 140] }
def Ke (P:Params):Obj:={ cls:=.type "builtin_function_or_method",data:=Data.fields #[.builtin "object.__init_subclass__",.ref 140] }
def zF (P:Params):Obj:=(tq #[])
def Kd (P:Params):Obj:={ cls:=.none,data:=Data.fields #[] }
def zE (P:Params):Obj:=(tq #[.str "below" 373,.str "start" 374,.str "reach" 375,.str "step" 376])
def zB (P:Params):Obj:=(tq #[])
def Kc (P:Params):Obj:=(pr0 "comes_to_mouth" 20)
def zA (P:Params):Obj:=(fc #[.str "comes_to_mouth" 370,.str "comes_to_mouth" 371,cp 372,.int 34 0,.int 2 0,.int 0 0,.int 0 0,.int 3 0,.ref 143,.bool true,.int 181 0,.ref 144,.none,.ref 145,.ref 146,.ref 147,.int 377 0,.int 34 0,cp 378])
def zy (P:Params):Obj:=⟨.type "function",none,.func (PySem.W.fnOf "comes_to_mouth" "comes_to_mouth" (ao (top0 20)) (ak (top0 20)) (aj (top0 20)) .none .none .none (.str "sluice.rivers" 363) none (.ref 148) .none),#[]⟩
def zx (P:Params):Obj:=(tq #[])
def Ka (P:Params):Obj:={ cls:=.none,data:=Data.fields #[] }
def J9 (P:Params):Obj:=(pr0 "is_river" 21)
def zu (P:Params):Obj:=(fc #[.str "is_river" 380,.str "is_river" 381,cp 382,.int 41 0,.int 1 0,.int 0 0,.int 0 0,.int 3 0,.ref 150,.bool true,.int 181 0,.ref 151,.none,.none,.none,.ref 152,.int 383 0,.int 41 0,cp 384])
def zq (P:Params):Obj:=⟨.type "function",none,.func (PySem.W.fnOf "is_river" "is_river" (ao (top0 21)) (ak (top0 21)) (aj (top0 21)) .none .none .none (.str "sluice.rivers" 363) none (.ref 153) .none),#[]⟩
def zp (P:Params):Obj:=(tq #[])
def J8 (P:Params):Obj:={ cls:=.none,data:=Data.fields #[] }
def zm (P:Params):Obj:=(tq #[.str "below" 389,.str "reach" 390,.str "way" 391])
def zj (P:Params):Obj:=(tq #[])
def J7 (P:Params):Obj:=(pr0 "way_of" 22)
def zf (P:Params):Obj:=(fc #[.str "way_of" 386,.str "way_of" 387,cp 388,.int 47 0,.int 2 0,.int 0 0,.int 0 0,.int 3 0,.ref 155,.bool true,.int 181 0,.ref 156,.none,.ref 157,.ref 158,.ref 159,.int 392 0,.int 47 0,cp 393])
def zc (P:Params):Obj:=⟨.type "function",none,.func (PySem.W.fnOf "way_of" "way_of" (ao (top0 22)) (ak (top0 22)) (aj (top0 22)) .none .none .none (.str "sluice.rivers" 363) none (.ref 160) .none),#[]⟩
def za (P:Params):Obj:=(tq #[])
def J6 (P:Params):Obj:={ cls:=.none,data:=Data.fields #[] }
def yZ (P:Params):Obj:=(tq #[.str "below" 402,.str "one" 403,.str "day" 404,.str "start" 405,.str "back" 406,.str "most" 407])
def yX (P:Params):Obj:=(tq #[])
def J5 (P:Params):Obj:=(pr0 "is_licence" 25)
def yW (P:Params):Obj:=(fc #[.str "is_licence" 399,.str "is_licence" 400,cp 401,.int 54 0,.int 2 0,.int 0 0,.int 0 0,.int 3 0,.ref 162,.bool true,.int 181 0,.ref 163,.none,.ref 164,.ref 165,.ref 166,.int 408 0,.int 54 0,cp 409])
def yV (P:Params):Obj:=⟨.type "function",none,.func (PySem.W.fnOf "is_licence" "is_licence" (ao (top0 25)) (ak (top0 25)) (aj (top0 25)) .none .none .none (.str "sluice.licences" 395) none (.ref 167) .none),#[]⟩
def yU (P:Params):Obj:=(tq #[])
def J4 (P:Params):Obj:={ cls:=.none,data:=Data.fields #[] }
def yS (P:Params):Obj:=(tq #[.str "one" 414])
def yR (P:Params):Obj:=(tq #[])
def J3 (P:Params):Obj:=(pr0 "gives_back" 26)
def yQ (P:Params):Obj:=(fc #[.str "gives_back" 411,.str "gives_back" 412,cp 413,.int 59 0,.int 1 0,.int 0 0,.int 0 0,.int 3 0,.ref 169,.bool true,.int 181 0,.ref 170,.none,.ref 171,.ref 172,.ref 173,.int 415 0,.int 59 0,cp 416])
def yP (P:Params):Obj:=⟨.type "function",none,.func (PySem.W.fnOf "gives_back" "gives_back" (ao (top0 26)) (ak (top0 26)) (aj (top0 26)) .none .none .none (.str "sluice.licences" 395) none (.ref 174) .none),#[]⟩
def yO (P:Params):Obj:=(tq #[])
def J2 (P:Params):Obj:={ cls:=.none,data:=Data.fields #[] }
def yN (P:Params):Obj:=(tq #[.str "one" 421])
def yM (P:Params):Obj:=(tq #[])
def J1 (P:Params):Obj:=(pr0 "most_of" 27)
def yL (P:Params):Obj:=(fc #[.str "most_of" 418,.str "most_of" 419,cp 420,.int 61 0,.int 1 0,.int 0 0,.int 0 0,.int 3 0,.ref 176,.bool true,.int 181 0,.ref 177,.none,.ref 178,.ref 179,.ref 180,.int 422 0,.int 61 0,cp 423])
def yK (P:Params):Obj:=⟨.type "function",none,.func (PySem.W.fnOf "most_of" "most_of" (ao (top0 27)) (ak (top0 27)) (aj (top0 27)) .none .none .none (.str "sluice.licences" 395) none (.ref 181) .none),#[]⟩
def yJ (P:Params):Obj:=(tq #[])
def J0 (P:Params):Obj:={ cls:=.none,data:=Data.fields #[] }
def yI (P:Params):Obj:=(tq #[.str "one" 428,.str "most" 429])
def yH (P:Params):Obj:=(tq #[])
def JZ (P:Params):Obj:=(pr0 "with_most" 28)
def yG (P:Params):Obj:=(fc #[.str "with_most" 425,.str "with_most" 426,cp 427,.int 63 0,.int 2 0,.int 0 0,.int 0 0,.int 3 0,.ref 183,.bool true,.int 181 0,.ref 184,.none,.ref 185,.ref 186,.ref 187,.int 430 0,.int 63 0,cp 431])
def yF (P:Params):Obj:=⟨.type "function",none,.func (PySem.W.fnOf "with_most" "with_most" (ao (top0 28)) (ak (top0 28)) (aj (top0 28)) .none .none .none (.str "sluice.licences" 395) none (.ref 188) .none),#[]⟩
def yE (P:Params):Obj:=(tq #[])
def JX (P:Params):Obj:={ cls:=.none,data:=Data.fields #[] }
def yD (P:Params):Obj:=(tq #[.str "name" 442])
def yC (P:Params):Obj:=(tq #[])
def JW (P:Params):Obj:=(pr0 "look_at_name" 32)
def yx (P:Params):Obj:=(fc #[.str "look_at_name" 439,.str "look_at_name" 440,cp 441,.int 68 0,.int 1 0,.int 0 0,.int 0 0,.int 3 0,.ref 190,.bool true,.int 181 0,.ref 191,.none,.ref 192,.ref 193,.ref 194,.int 443 0,.int 68 0,cp 444])
def yw (P:Params):Obj:=⟨.type "function",none,.func (PySem.W.fnOf "look_at_name" "look_at_name" (ao (top0 32)) (ak (top0 32)) (aj (top0 32)) .none .none .none (.str "sluice.rolls" 435) none (.ref 195) .none),#[]⟩
def JV (P:Params):Obj:=(tq #[])
def JT (P:Params):Obj:={ cls:=.type "builtin_function_or_method",data:=Data.fields #[.builtin "type.__prepare__",.type "type"] }
def JR (P:Params):Obj:={ cls:=.type "dict",data:=Data.dict #[en P "__module__" 453 (.str "sluice.rolls" 435),en P "__qualname__" 455 (.str "Roll" 454),en P "__firstlineno__" 457 (.int 71 456),en P "__init__" 465 (.ref 210),en P "today" 472 (.ref 217),en P "roll" 479 (.ref 224),en P "holders" 486 (.ref 231),en P "deeds" 493 (.ref 238),en P "turn" 500 (.ref 245),en P "file" 513 (.ref 253),en P "sell" 523 (.ref 260),en P "part" 534 (.ref 267),en P "drop" 543 (.ref 274),en P "move" 553 (.ref 281),en P "look_move" 562 (.ref 288),en P "lapse" 568 (.ref 293),en P "enter" 577 (.ref 300),en P "is_alone" 585 (.ref 307),en P "look_at_number" 593 (.ref 314),en P "look_at_holder" 602 (.ref 321),en P "look_at_room" 609 (.ref 328),en P "__static_attributes__" 615 (.ref 329)] 22 }
def JQ (P:Params):Obj:=(tq #[])
def JN (P:Params):Obj:={ cls:=.none,data:=Data.fields #[.int 73 0,.int 4 0,.ref 209,.int 82 0,.int 4 0,.ref 216,.int 85 0,.int 4 0,.ref 223,.int 88 0,.int 4 0,.ref 230,.int 91 0,.int 4 0,.ref 237,.int 94 0,.int 4 0,.ref 244,.int 97 0,.int 4 0,.ref 252,.int 107 0,.int 4 0,.ref 259,.int 113 0,.int 4 0,.ref 266,.int 116 0,.int 4 0,.ref 273,.int 119 0,.int 4 0,.ref 280,.int 122 0,.int 4 0,.ref 287,.int 125 0,.int 4 0,.ref 292,.int 139 0,.int 4 0,.ref 299,.int 144 0,.int 4 0,.ref 306,.int 147 0,.int 4 0,.ref 313,.int 151 0,.int 4 0,.ref 320,.int 156 0,.int 4 0,.ref 327] }
def JM (P:Params):Obj:=(fc #[.str "Roll" 448,.str "Roll" 449,cp 450,.int 71 0,.int 0 0,.int 0 0,.int 0 0,.int 0 0,.ref 200,.bool false,.int 181 0,.ref 201,.none,.none,.none,.none,.int 451 0,.int 71 0,cp 452])
def JL (P:Params):Obj:={ cls:=.type "frame",slots:=#[some (.ref 202),some (.ref 3),some (.ref 199),none,some (.str "sluice.rolls" 435),none,some (.ref 0)] }
def yu (P:Params):Obj:=(tq #[])
def JK (P:Params):Obj:={ cls:=.none,data:=Data.fields #[] }
def yt (P:Params):Obj:=(tq #[.str "self" 461,.str "below" 462])
def yr (P:Params):Obj:=(tq #[])
def JH (P:Params):Obj:={ cls:=.none,data:=.func { name:="__init__",qualname:="Roll.__init__",params:=ao (inClass (top0 33) 0),body:=.stmts (ak (inClass (top0 33) 0)),scope:=aj (inClass (top0 33) 0),globals:=0,closure:=[],defaults:=.none,kwdefaults:=.none } }
def yq (P:Params):Obj:=(fc #[.str "__init__" 458,.str "Roll.__init__" 459,cp 460,.int 73 0,.int 2 0,.int 0 0,.int 0 0,.int 3 0,.ref 204,.bool true,.int 181 0,.ref 205,.none,.ref 206,.ref 207,.ref 208,.int 463 0,.int 73 0,cp 464])
def yp (P:Params):Obj:=⟨.type "function",none,.func (PySem.W.fnOf "__init__" "Roll.__init__" (ao (inClass (top0 33) 0)) (ak (inClass (top0 33) 0)) (aj (inClass (top0 33) 0)) .none .none .none (.str "sluice.rolls" 435) none (.ref 209) .none),#[]⟩
def yj (P:Params):Obj:=(tq #[])
def JG (P:Params):Obj:={ cls:=.none,data:=Data.fields #[] }
def yh (P:Params):Obj:=(tq #[.str "self" 469])
def yg (P:Params):Obj:=(tq #[])
def JF (P:Params):Obj:={ cls:=.none,data:=.func { name:="today",qualname:="Roll.today",params:=ao (inClass (top0 33) 1),body:=.stmts (ak (inClass (top0 33) 1)),scope:=aj (inClass (top0 33) 1),globals:=0,closure:=[],defaults:=.none,kwdefaults:=.none } }
def yd (P:Params):Obj:=(fc #[.str "today" 466,.str "Roll.today" 467,cp 468,.int 82 0,.int 1 0,.int 0 0,.int 0 0,.int 3 0,.ref 211,.bool true,.int 181 0,.ref 212,.none,.ref 213,.ref 214,.ref 215,.int 470 0,.int 82 0,cp 471])
def yc (P:Params):Obj:=⟨.type "function",none,.func (PySem.W.fnOf "today" "Roll.today" (ao (inClass (top0 33) 1)) (ak (inClass (top0 33) 1)) (aj (inClass (top0 33) 1)) .none .none .none (.str "sluice.rolls" 435) none (.ref 216) .none),#[]⟩
def xZ (P:Params):Obj:=(tq #[])
def JD (P:Params):Obj:={ cls:=.none,data:=Data.fields #[] }
def xY (P:Params):Obj:=(tq #[.str "self" 476])
def xX (P:Params):Obj:=(tq #[])
def JC (P:Params):Obj:={ cls:=.none,data:=.func { name:="roll",qualname:="Roll.roll",params:=ao (inClass (top0 33) 2),body:=.stmts (ak (inClass (top0 33) 2)),scope:=aj (inClass (top0 33) 2),globals:=0,closure:=[],defaults:=.none,kwdefaults:=.none } }
def xW (P:Params):Obj:=(fc #[.str "roll" 473,.str "Roll.roll" 474,cp 475,.int 85 0,.int 1 0,.int 0 0,.int 0 0,.int 3 0,.ref 218,.bool true,.int 181 0,.ref 219,.none,.ref 220,.ref 221,.ref 222,.int 477 0,.int 85 0,cp 478])
def xV (P:Params):Obj:=⟨.type "function",none,.func (PySem.W.fnOf "roll" "Roll.roll" (ao (inClass (top0 33) 2)) (ak (inClass (top0 33) 2)) (aj (inClass (top0 33) 2)) .none .none .none (.str "sluice.rolls" 435) none (.ref 223) .none),#[]⟩
def xU (P:Params):Obj:=(tq #[])
def JB (P:Params):Obj:={ cls:=.none,data:=Data.fields #[] }
def xT (P:Params):Obj:=(tq #[.str "self" 483])
def xR (P:Params):Obj:=(tq #[])
def Jz (P:Params):Obj:={ cls:=.none,data:=.func { name:="holders",qualname:="Roll.holders",params:=ao (inClass (top0 33) 3),body:=.stmts (ak (inClass (top0 33) 3)),scope:=aj (inClass (top0 33) 3),globals:=0,closure:=[],defaults:=.none,kwdefaults:=.none } }
def xQ (P:Params):Obj:=(fc #[.str "holders" 480,.str "Roll.holders" 481,cp 482,.int 88 0,.int 1 0,.int 0 0,.int 0 0,.int 3 0,.ref 225,.bool true,.int 181 0,.ref 226,.none,.ref 227,.ref 228,.ref 229,.int 484 0,.int 88 0,cp 485])
def xP (P:Params):Obj:=⟨.type "function",none,.func (PySem.W.fnOf "holders" "Roll.holders" (ao (inClass (top0 33) 3)) (ak (inClass (top0 33) 3)) (aj (inClass (top0 33) 3)) .none .none .none (.str "sluice.rolls" 435) none (.ref 230) .none),#[]⟩
def xO (P:Params):Obj:=(tq #[])
def Jy (P:Params):Obj:={ cls:=.none,data:=Data.fields #[] }
def xM (P:Params):Obj:=(tq #[.str "self" 490])
def xK (P:Params):Obj:=(tq #[])
def Jx (P:Params):Obj:={ cls:=.none,data:=.func { name:="deeds",qualname:="Roll.deeds",params:=ao (inClass (top0 33) 4),body:=.stmts (ak (inClass (top0 33) 4)),scope:=aj (inClass (top0 33) 4),globals:=0,closure:=[],defaults:=.none,kwdefaults:=.none } }
def xJ (P:Params):Obj:=(fc #[.str "deeds" 487,.str "Roll.deeds" 488,cp 489,.int 91 0,.int 1 0,.int 0 0,.int 0 0,.int 3 0,.ref 232,.bool true,.int 181 0,.ref 233,.none,.ref 234,.ref 235,.ref 236,.int 491 0,.int 91 0,cp 492])
def xH (P:Params):Obj:=⟨.type "function",none,.func (PySem.W.fnOf "deeds" "Roll.deeds" (ao (inClass (top0 33) 4)) (ak (inClass (top0 33) 4)) (aj (inClass (top0 33) 4)) .none .none .none (.str "sluice.rolls" 435) none (.ref 237) .none),#[]⟩
def xG (P:Params):Obj:=(tq #[])
def Jw (P:Params):Obj:={ cls:=.none,data:=Data.fields #[] }
def xu (P:Params):Obj:=(tq #[.str "self" 497])
def xr (P:Params):Obj:=(tq #[])
def Jv (P:Params):Obj:={ cls:=.none,data:=.func { name:="turn",qualname:="Roll.turn",params:=ao (inClass (top0 33) 5),body:=.stmts (ak (inClass (top0 33) 5)),scope:=aj (inClass (top0 33) 5),globals:=0,closure:=[],defaults:=.none,kwdefaults:=.none } }
def xq (P:Params):Obj:=(fc #[.str "turn" 494,.str "Roll.turn" 495,cp 496,.int 94 0,.int 1 0,.int 0 0,.int 0 0,.int 3 0,.ref 239,.bool true,.int 181 0,.ref 240,.none,.ref 241,.ref 242,.ref 243,.int 498 0,.int 94 0,cp 499])
def xg (P:Params):Obj:=⟨.type "function",none,.func (PySem.W.fnOf "turn" "Roll.turn" (ao (inClass (top0 33) 5)) (ak (inClass (top0 33) 5)) (aj (inClass (top0 33) 5)) .none .none .none (.str "sluice.rolls" 435) none (.ref 244) .none),#[]⟩
def w5 (P:Params):Obj:=(tq #[.none])
def wZ (P:Params):Obj:=(tq #[])
def Ju (P:Params):Obj:={ cls:=.none,data:=Data.fields #[] }
def wY (P:Params):Obj:=(tq #[.str "self" 504,.str "holder" 505,.str "start" 506,.str "most" 507,.str "back" 508,.str "stop" 509,.str "one" 510])
def wX (P:Params):Obj:=(tq #[])
def Jt (P:Params):Obj:={ cls:=.none,data:=.func { name:="file",qualname:="Roll.file",params:=ao (inClass (top0 33) 6),body:=.stmts (ak (inClass (top0 33) 6)),scope:=aj (inClass (top0 33) 6),globals:=0,closure:=[],defaults:=.none,kwdefaults:=.none } }
def wW (P:Params):Obj:=(fc #[.str "file" 501,.str "Roll.file" 502,cp 503,.int 97 0,.int 5 0,.int 0 0,.int 0 0,.int 3 0,.ref 247,.bool true,.int 181 0,.ref 248,.none,.ref 249,.ref 250,.ref 251,.int 511 0,.int 97 0,cp 512])
def wV (P:Params):Obj:=⟨.type "function",none,.func (PySem.W.fnOf "file" "Roll.file" (ao (inClass (top0 33) 6)) (ak (inClass (top0 33) 6)) (aj (inClass (top0 33) 6)) (.ref 246) .none .none (.str "sluice.rolls" 435) none (.ref 252) .none),#[]⟩
def wU (P:Params):Obj:=(tq #[])
def Js (P:Params):Obj:={ cls:=.none,data:=Data.fields #[] }
def wR (P:Params):Obj:=(tq #[.str "self" 517,.str "number" 518,.str "holder" 519,.str "to" 520])
def wQ (P:Params):Obj:=(tq #[])
def Jr (P:Params):Obj:={ cls:=.none,data:=.func { name:="sell",qualname:="Roll.sell",params:=ao (inClass (top0 33) 7),body:=.stmts (ak (inClass (top0 33) 7)),scope:=aj (inClass (top0 33) 7),globals:=0,closure:=[],defaults:=.none,kwdefaults:=.none } }
def wO (P:Params):Obj:=(fc #[.str "sell" 514,.str "Roll.sell" 515,cp 516,.int 107 0,.int 4 0,.int 0 0,.int 0 0,.int 3 0,.ref 254,.bool true,.int 181 0,.ref 255,.none,.ref 256,.ref 257,.ref 258,.int 521 0,.int 107 0,cp 522])
def wN (P:Params):Obj:=⟨.type "function",none,.func (PySem.W.fnOf "sell" "Roll.sell" (ao (inClass (top0 33) 7)) (ak (inClass (top0 33) 7)) (aj (inClass (top0 33) 7)) .none .none .none (.str "sluice.rolls" 435) none (.ref 259) .none),#[]⟩
def wM (P:Params):Obj:=(tq #[])
def Jq (P:Params):Obj:={ cls:=.none,data:=Data.fields #[] }
def wL (P:Params):Obj:=(tq #[.str "self" 527,.str "number" 528,.str "holder" 529,.str "most" 530,.str "to" 531])
def wK (P:Params):Obj:=(tq #[])
def Jp (P:Params):Obj:={ cls:=.none,data:=.func { name:="part",qualname:="Roll.part",params:=ao (inClass (top0 33) 8),body:=.stmts (ak (inClass (top0 33) 8)),scope:=aj (inClass (top0 33) 8),globals:=0,closure:=[],defaults:=.none,kwdefaults:=.none } }
def wJ (P:Params):Obj:=(fc #[.str "part" 524,.str "Roll.part" 525,cp 526,.int 113 0,.int 5 0,.int 0 0,.int 0 0,.int 3 0,.ref 261,.bool true,.int 181 0,.ref 262,.none,.ref 263,.ref 264,.ref 265,.int 532 0,.int 113 0,cp 533])
def wI (P:Params):Obj:=⟨.type "function",none,.func (PySem.W.fnOf "part" "Roll.part" (ao (inClass (top0 33) 8)) (ak (inClass (top0 33) 8)) (aj (inClass (top0 33) 8)) .none .none .none (.str "sluice.rolls" 435) none (.ref 266) .none),#[]⟩
def wH (P:Params):Obj:=(tq #[])
def Jo (P:Params):Obj:={ cls:=.none,data:=Data.fields #[] }
def wG (P:Params):Obj:=(tq #[.str "self" 538,.str "number" 539,.str "holder" 540])
def wF (P:Params):Obj:=(tq #[])
def Jm (P:Params):Obj:={ cls:=.none,data:=.func { name:="drop",qualname:="Roll.drop",params:=ao (inClass (top0 33) 9),body:=.stmts (ak (inClass (top0 33) 9)),scope:=aj (inClass (top0 33) 9),globals:=0,closure:=[],defaults:=.none,kwdefaults:=.none } }
def wD (P:Params):Obj:=(fc #[.str "drop" 535,.str "Roll.drop" 536,cp 537,.int 116 0,.int 3 0,.int 0 0,.int 0 0,.int 3 0,.ref 268,.bool true,.int 181 0,.ref 269,.none,.ref 270,.ref 271,.ref 272,.int 541 0,.int 116 0,cp 542])
def wC (P:Params):Obj:=⟨.type "function",none,.func (PySem.W.fnOf "drop" "Roll.drop" (ao (inClass (top0 33) 9)) (ak (inClass (top0 33) 9)) (aj (inClass (top0 33) 9)) .none .none .none (.str "sluice.rolls" 435) none (.ref 273) .none),#[]⟩
def wB (P:Params):Obj:=(tq #[])
def Jl (P:Params):Obj:={ cls:=.none,data:=Data.fields #[] }
def wA (P:Params):Obj:=(tq #[.str "self" 547,.str "number" 548,.str "holder" 549,.str "start" 550])
def wz (P:Params):Obj:=(tq #[])
def Jk (P:Params):Obj:={ cls:=.none,data:=.func { name:="move",qualname:="Roll.move",params:=ao (inClass (top0 33) 10),body:=.stmts (ak (inClass (top0 33) 10)),scope:=aj (inClass (top0 33) 10),globals:=0,closure:=[],defaults:=.none,kwdefaults:=.none } }
def wu (P:Params):Obj:=(fc #[.str "move" 544,.str "Roll.move" 545,cp 546,.int 119 0,.int 4 0,.int 0 0,.int 0 0,.int 3 0,.ref 275,.bool true,.int 181 0,.ref 276,.none,.ref 277,.ref 278,.ref 279,.int 551 0,.int 119 0,cp 552])
def wk (P:Params):Obj:=⟨.type "function",none,.func (PySem.W.fnOf "move" "Roll.move" (ao (inClass (top0 33) 10)) (ak (inClass (top0 33) 10)) (aj (inClass (top0 33) 10)) .none .none .none (.str "sluice.rolls" 435) none (.ref 280) .none),#[]⟩
def wj (P:Params):Obj:=(tq #[])
def Jj (P:Params):Obj:={ cls:=.none,data:=Data.fields #[] }
def wg (P:Params):Obj:=(tq #[.str "self" 557,.str "number" 558,.str "start" 559])
def v9 (P:Params):Obj:=(tq #[])
def Ji (P:Params):Obj:={ cls:=.none,data:=.func { name:="look_move",qualname:="Roll.look_move",params:=ao (inClass (top0 33) 11),body:=.stmts (ak (inClass (top0 33) 11)),scope:=aj (inClass (top0 33) 11),globals:=0,closure:=[],defaults:=.none,kwdefaults:=.none } }
def v8 (P:Params):Obj:=(fc #[.str "look_move" 554,.str "Roll.look_move" 555,cp 556,.int 122 0,.int 3 0,.int 0 0,.int 0 0,.int 3 0,.ref 282,.bool true,.int 181 0,.ref 283,.none,.ref 284,.ref 285,.ref 286,.int 560 0,.int 122 0,cp 561])
def v7 (P:Params):Obj:=⟨.type "function",none,.func (PySem.W.fnOf "look_move" "Roll.look_move" (ao (inClass (top0 33) 11)) (ak (inClass (top0 33) 11)) (aj (inClass (top0 33) 11)) .none .none .none (.str "sluice.rolls" 435) none (.ref 287) .none),#[]⟩
def vZ (P:Params):Obj:=(tq #[])
def Jh (P:Params):Obj:={ cls:=.none,data:=Data.fields #[] }
def Jg (P:Params):Obj:={ cls:=.none,data:=.func { name:="lapse",qualname:="Roll.lapse",params:=ao (inClass (top0 33) 12),body:=.stmts (ak (inClass (top0 33) 12)),scope:=aj (inClass (top0 33) 12),globals:=0,closure:=[],defaults:=.none,kwdefaults:=.none } }
def vY (P:Params):Obj:=(fc #[.str "lapse" 563,.str "Roll.lapse" 564,cp 565,.int 125 0,.int 2 0,.int 0 0,.int 0 0,.int 3 0,.ref 289,.bool true,.int 181 0,.ref 290,.none,.none,.none,.ref 291,.int 566 0,.int 125 0,cp 567])
def vX (P:Params):Obj:=⟨.type "function",none,.func (PySem.W.fnOf "lapse" "Roll.lapse" (ao (inClass (top0 33) 12)) (ak (inClass (top0 33) 12)) (aj (inClass (top0 33) 12)) .none .none .none (.str "sluice.rolls" 435) none (.ref 292) .none),#[]⟩
def vW (P:Params):Obj:=(tq #[])
def Jf (P:Params):Obj:={ cls:=.none,data:=Data.fields #[] }
def vV (P:Params):Obj:=(tq #[.str "self" 572,.str "one" 573,.str "holder" 574])
def vU (P:Params):Obj:=(tq #[])
def Je (P:Params):Obj:={ cls:=.none,data:=.func { name:="enter",qualname:="Roll.enter",params:=ao (inClass (top0 33) 13),body:=.stmts (ak (inClass (top0 33) 13)),scope:=aj (inClass (top0 33) 13),globals:=0,closure:=[],defaults:=.none,kwdefaults:=.none } }
def vR (P:Params):Obj:=(fc #[.str "enter" 569,.str "Roll.enter" 570,cp 571,.int 139 0,.int 3 0,.int 0 0,.int 0 0,.int 3 0,.ref 294,.bool true,.int 181 0,.ref 295,.none,.ref 296,.ref 297,.ref 298,.int 575 0,.int 139 0,cp 576])
def vQ (P:Params):Obj:=⟨.type "function",none,.func (PySem.W.fnOf "enter" "Roll.enter" (ao (inClass (top0 33) 13)) (ak (inClass (top0 33) 13)) (aj (inClass (top0 33) 13)) .none .none .none (.str "sluice.rolls" 435) none (.ref 299) .none),#[]⟩
def vP (P:Params):Obj:=(tq #[])
def Jd (P:Params):Obj:={ cls:=.none,data:=Data.fields #[] }
def vO (P:Params):Obj:=(tq #[.str "self" 581,.str "number" 582])
def vN (P:Params):Obj:=(tq #[])
def Jc (P:Params):Obj:={ cls:=.none,data:=.func { name:="is_alone",qualname:="Roll.is_alone",params:=ao (inClass (top0 33) 14),body:=.stmts (ak (inClass (top0 33) 14)),scope:=aj (inClass (top0 33) 14),globals:=0,closure:=[],defaults:=.none,kwdefaults:=.none } }
def vM (P:Params):Obj:=(fc #[.str "is_alone" 578,.str "Roll.is_alone" 579,cp 580,.int 144 0,.int 2 0,.int 0 0,.int 0 0,.int 3 0,.ref 301,.bool true,.int 181 0,.ref 302,.none,.ref 303,.ref 304,.ref 305,.int 583 0,.int 144 0,cp 584])
def vL (P:Params):Obj:=⟨.type "function",none,.func (PySem.W.fnOf "is_alone" "Roll.is_alone" (ao (inClass (top0 33) 14)) (ak (inClass (top0 33) 14)) (aj (inClass (top0 33) 14)) .none .none .none (.str "sluice.rolls" 435) none (.ref 306) .none),#[]⟩
def vK (P:Params):Obj:=(tq #[])
def Jb (P:Params):Obj:={ cls:=.none,data:=Data.fields #[] }
def vJ (P:Params):Obj:=(tq #[.str "self" 589,.str "number" 590])
def vI (P:Params):Obj:=(tq #[])
def Ja (P:Params):Obj:={ cls:=.none,data:=.func { name:="look_at_number",qualname:="Roll.look_at_number",params:=ao (inClass (top0 33) 15),body:=.stmts (ak (inClass (top0 33) 15)),scope:=aj (inClass (top0 33) 15),globals:=0,closure:=[],defaults:=.none,kwdefaults:=.none } }
def vH (P:Params):Obj:=(fc #[.str "look_at_number" 586,.str "Roll.look_at_number" 587,cp 588,.int 147 0,.int 2 0,.int 0 0,.int 0 0,.int 3 0,.ref 308,.bool true,.int 181 0,.ref 309,.none,.ref 310,.ref 311,.ref 312,.int 591 0,.int 147 0,cp 592])
def vG (P:Params):Obj:=⟨.type "function",none,.func (PySem.W.fnOf "look_at_number" "Roll.look_at_number" (ao (inClass (top0 33) 15)) (ak (inClass (top0 33) 15)) (aj (inClass (top0 33) 15)) .none .none .none (.str "sluice.rolls" 435) none (.ref 313) .none),#[]⟩
def vD (P:Params):Obj:=(tq #[])
def IW (P:Params):Obj:={ cls:=.none,data:=Data.fields #[] }
def vC (P:Params):Obj:=(tq #[.str "self" 597,.str "number" 598,.str "holder" 599])
def vB (P:Params):Obj:=(tq #[])
def IV (P:Params):Obj:={ cls:=.none,data:=.func { name:="look_at_holder",qualname:="Roll.look_at_holder",params:=ao (inClass (top0 33) 16),body:=.stmts (ak (inClass (top0 33) 16)),scope:=aj (inClass (top0 33) 16),globals:=0,closure:=[],defaults:=.none,kwdefaults:=.none } }
def vA (P:Params):Obj:=(fc #[.str "look_at_holder" 594,.str "Roll.look_at_holder" 595,cp 596,.int 151 0,.int 3 0,.int 0 0,.int 0 0,.int 3 0,.ref 315,.bool true,.int 181 0,.ref 316,.none,.ref 317,.ref 318,.ref 319,.int 600 0,.int 151 0,cp 601])
def vq (P:Params):Obj:=⟨.type "function",none,.func (PySem.W.fnOf "look_at_holder" "Roll.look_at_holder" (ao (inClass (top0 33) 16)) (ak (inClass (top0 33) 16)) (aj (inClass (top0 33) 16)) .none .none .none (.str "sluice.rolls" 435) none (.ref 320) .none),#[]⟩
def vp (P:Params):Obj:=(tq #[])
def IK (P:Params):Obj:={ cls:=.none,data:=Data.fields #[] }
def vo (P:Params):Obj:=(tq #[.str "self" 606])
def vm (P:Params):Obj:=(tq #[])
def Iz (P:Params):Obj:={ cls:=.none,data:=.func { name:="look_at_room",qualname:="Roll.look_at_room",params:=ao (inClass (top0 33) 17),body:=.stmts (ak (inClass (top0 33) 17)),scope:=aj (inClass (top0 33) 17),globals:=0,closure:=[],defaults:=.none,kwdefaults:=.none } }
def vh (P:Params):Obj:=(fc #[.str "look_at_room" 603,.str "Roll.look_at_room" 604,cp 605,.int 156 0,.int 1 0,.int 0 0,.int 0 0,.int 3 0,.ref 322,.bool true,.int 181 0,.ref 323,.none,.ref 324,.ref 325,.ref 326,.int 607 0,.int 156 0,cp 608])
def vg (P:Params):Obj:=⟨.type "function",none,.func (PySem.W.fnOf "look_at_room" "Roll.look_at_room" (ao (inClass (top0 33) 17)) (ak (inClass (top0 33) 17)) (aj (inClass (top0 33) 17)) .none .none .none (.str "sluice.rolls" 435) none (.ref 327) .none),#[]⟩
def vf (P:Params):Obj:=(tq #[.str "below" 610,.str "day" 611,.str "done" 612,.str "licences" 613,.str "names" 614])
def vd (P:Params):Obj:={ cls:=.type "dict",data:=Data.dict #[en P "__module__" 453 (.str "sluice.rolls" 435),en P "__firstlineno__" 457 (.int 71 456),en P "__init__" 465 (.ref 210),en P "today" 472 (.ref 217),en P "roll" 479 (.ref 224),en P "holders" 486 (.ref 231),en P "deeds" 493 (.ref 238),en P "turn" 500 (.ref 245),en P "file" 513 (.ref 253),en P "sell" 523 (.ref 260),en P "part" 534 (.ref 267),en P "drop" 543 (.ref 274),en P "move" 553 (.ref 281),en P "look_move" 562 (.ref 288),en P "lapse" 568 (.ref 293),en P "enter" 577 (.ref 300),en P "is_alone" 585 (.ref 307),en P "look_at_number" 593 (.ref 314),en P "look_at_holder" 602 (.ref 321),en P "look_at_room" 609 (.ref 328),en P "__static_attributes__" 615 (.ref 329),en P "__dict__" 617 (.ref 332),en P "__weakref__" 619 (.ref 333),en P "__doc__" 620 .none] 4 }
def TQ (P:Params):Obj:={ cls:=.type "type",data:=Data.cls { name:="Roll",bases:=[.type "object"],mro:=[.ref 331,.type "object"],ns:=330,qualname:="Roll" },slots:=#[none,none,some (.str "Roll" 446),some (.str "Roll" 454),some (.builtin "object.__new__"),some (.bool true)] }
def u9 (P:Params):Obj:={ cls:=.type "getset_descriptor",data:=Data.fields #[.str "__dict__" 616,.ref 331,.builtin "function.__dict__",.builtin "function.__dict__#set"] }
def u6 (P:Params):Obj:={ cls:=.type "getset_descriptor",data:=Data.fields #[.str "__weakref__" 618,.ref 331,.builtin "ExceptionGroup.__weakref__",.none] }
def Iw (P:Params):Obj:={ cls:=.type "super",data:=Data.fields #[.ref 331,.ref 331,.ref 331] }
def Iu (P:Params):Obj:={ cls:=.type "builtin_function_or_method",data:=Data.fields #[.builtin "object.__init_subclass__",.ref 331] }
def Ir (P:Params):Obj:={ cls:=.type "dict",data:=Data.dict #[en P "__name__" 165 (.str "law_sluice_k62_ponds_put" 737),en P "__doc__" 166 .none,en P "__package__" 167 .none,en P "__loader__" 168 (.builtin "__main__.__loader__#opaque"),en P "__spec__" 169 .none,en P "__annotations__" 170 (.ref 6),en P "__builtins__" 171 (.ref 4),en P "__file__" 173 (cp 172),en P "__cached__" 174 .none,en P "_wall" 193 (.ref 21),en P "MOST_WATER" 197 (.int 1000000000000 196),en P "LONGEST_NAME" 199 (.int 8 198),en P "LETTERS" 201 (.str "abcdefghijklmnopqrstuvwxyz" 200),en P "is_water" 208 (.ref 28),en P "is_name" 214 (.ref 33),en P "SluiceError" 234 (.ref 43),en P "NoRiver" 250 (.ref 56),en P "NoLicence" 266 (.ref 68),en P "NoNumber" 282 (.ref 80),en P "NoHolder" 298 (.ref 92),en P "NotYours" 314 (.ref 104),en P "TooMuch" 330 (.ref 116),en P "Full" 346 (.ref 128),en P "NoPond" 362 (.ref 140),en P "MOST_REACHES" 366 (.int 40 365),en P "MOUTH" 369 (.int (-1) 368),en P "comes_to_mouth" 379 (.ref 149),en P "is_river" 385 (.ref 154),en P "way_of" 394 (.ref 161),en P "LAST_DAY" 398 (.int 1000000 397),en P "is_licence" 410 (.ref 168),en P "gives_back" 417 (.ref 175),en P "most_of" 424 (.ref 182),en P "with_most" 432 (.ref 189),en P "WHOLE" 434 (.int 1000 433),en P "MOST_LICENCES" 438 (.int 60 437),en P "look_at_name" 445 (.ref 196),en P "Roll" 622 (.ref 331),en P "MOST_PONDS" 626 (.int 10 625),en P "Book" 736 (.ref 420),en P "_law_cell_at" 746 (.ref 429),en P "_law_whole" 753 (.ref 436),en P "_law_pebble" 762 (.ref 443),en P "_law_pebbles" 768 (.ref 448),en P "_law_river" 782 (.ref 455),en P "_law_name" 792 (.ref 462),en P "_law_filed" 804 (.ref 469),en P "_law_bounded" 814 (.ref 476),en P "_law_sold" 824 (.ref 483),en P "_law_sold_on" 836 (.ref 490),en P "_law_wish" 851 (.ref 497),en P "_law_due" 857 (.ref 502),en P "_law_put" 873 (.ref 509),en P "_law_stands" 883 (.ref 516),en P "law" 889 (.ref 521)] 55 }
def TJ (P:Params):Obj:={ cls:=.none,data:=Data.fields #[.int 1 0,.int 0 0,.ref 20,.int 8 0,.int 0 0,.ref 27,.int 10 0,.int 0 0,.ref 32,.int 13 0,.int 0 0,.ref 39,.int 15 0,.int 0 0,.ref 52,.int 17 0,.int 0 0,.ref 64,.int 19 0,.int 0 0,.ref 76,.int 21 0,.int 0 0,.ref 88,.int 23 0,.int 0 0,.ref 100,.int 25 0,.int 0 0,.ref 112,.int 27 0,.int 0 0,.ref 124,.int 29 0,.int 0 0,.ref 136,.int 34 0,.int 0 0,.ref 148,.int 41 0,.int 0 0,.ref 153,.int 47 0,.int 0 0,.ref 160,.int 54 0,.int 0 0,.ref 167,.int 59 0,.int 0 0,.ref 174,.int 61 0,.int 0 0,.ref 181,.int 63 0,.int 0 0,.ref 188,.int 68 0,.int 0 0,.ref 195,.int 71 0,.int 0 0,.ref 202,.int 161 0,.int 0 0,.ref 341,.int 213 0,.int 0 0,.ref 428,.int 217 0,.int 0 0,.ref 435,.int 219 0,.int 0 0,.ref 442,.int 222 0,.int 0 0,.ref 447,.int 224 0,.int 0 0,.ref 454,.int 243 0,.int 0 0,.ref 461,.int 249 0,.int 0 0,.ref 468,.int 256 0,.int 0 0,.ref 475,.int 259 0,.int 0 0,.ref 482,.int 264 0,.int 0 0,.ref 489,.int 271 0,.int 0 0,.ref 496,.int 284 0,.int 0 0,.ref 501,.int 296 0,.int 0 0,.ref 508,.int 311 0,.int 0 0,.ref 515,.int 315 0,.int 0 0,.ref 520] }
def Ip (P:Params):Obj:={ cls:=.type "type",data:=Data.cls { name:="Roll",bases:=[.type "object"],mro:=[.ref 331,.type "object"],ns:=330,qualname:="Roll",subclasses:=[.ref 420] },slots:=#[none,none,some (.str "Roll" 446),some (.str "Roll" 454),some (.builtin "object.__new__"),some (.bool true)] }
def Io (P:Params):Obj:=(tq #[.ref 331])
def TF (P:Params):Obj:={ cls:=.type "builtin_function_or_method",data:=Data.fields #[.builtin "type.__prepare__",.type "type"] }
def Tz (P:Params):Obj:={ cls:=.type "dict",data:=Data.dict #[en P "__module__" 634 (.str "sluice.books" 623),en P "__qualname__" 636 (.str "Book" 635),en P "__firstlineno__" 638 (.int 161 637),en P "__init__" 646 (.ref 349),en P "pond" 658 (.ref 357),en P "ponds" 665 (.ref 364),en P "kept" 672 (.ref 371),en P "has_pond" 678 (.ref 376),en P "run" 688 (.ref 384),en P "look_at_amounts" 697 (.ref 391),en P "record" 704 (.ref 398),en P "why" 712 (.ref 405),en P "look_move" 721 (.ref 412),en P "close" 727 (.ref 417),en P "__static_attributes__" 733 (.ref 418)] 15 }
def Tw (P:Params):Obj:=(tq #[])
def Tv (P:Params):Obj:={ cls:=.none,data:=Data.fields #[.int 163 0,.int 4 0,.ref 348,.int 171 0,.int 4 0,.ref 356,.int 183 0,.int 4 0,.ref 363,.int 186 0,.int 4 0,.ref 370,.int 189 0,.int 4 0,.ref 375,.int 192 0,.int 4 0,.ref 383,.int 195 0,.int 4 0,.ref 390,.int 198 0,.int 4 0,.ref 397,.int 201 0,.int 4 0,.ref 404,.int 204 0,.int 4 0,.ref 411,.int 207 0,.int 4 0,.ref 416] }
def Tt (P:Params):Obj:=(fc #[.str "Book" 629,.str "Book" 630,cp 631,.int 161 0,.int 0 0,.int 0 0,.int 0 0,.int 0 0,.ref 339,.bool false,.int 181 0,.ref 340,.none,.none,.none,.none,.int 632 0,.int 161 0,cp 633])
def Tr (P:Params):Obj:={ cls:=.type "frame",slots:=#[some (.ref 341),some (.ref 3),some (.ref 338),none,some (.str "sluice.books" 623),none,some (.ref 0)] }
def Im (P:Params):Obj:=(tq #[])
def Tq (P:Params):Obj:={ cls:=.none,data:=Data.fields #[] }
def Il (P:Params):Obj:=(tq #[.str "self" 642,.str "below" 643])
def Ik (P:Params):Obj:=(tq #[])
def Tp (P:Params):Obj:={ cls:=.none,data:=.func { name:="__init__",qualname:="Book.__init__",params:=ao (inClass (top0 36) 0),body:=.stmts (ak (inClass (top0 36) 0)),scope:=aj (inClass (top0 36) 0),globals:=0,closure:=[],defaults:=.none,kwdefaults:=.none } }
def Ij (P:Params):Obj:=(fc #[.str "__init__" 639,.str "Book.__init__" 640,cp 641,.int 163 0,.int 2 0,.int 0 0,.int 0 0,.int 3 0,.ref 343,.bool true,.int 181 0,.ref 344,.none,.ref 345,.ref 346,.ref 347,.int 644 0,.int 163 0,cp 645])
def Ii (P:Params):Obj:=⟨.type "function",none,.func (PySem.W.fnOf "__init__" "Book.__init__" (ao (inClass (top0 36) 0)) (ak (inClass (top0 36) 0)) (aj (inClass (top0 36) 0)) .none .none .none (.str "sluice.books" 623) none (.ref 348) .none),#[]⟩
def Ih (P:Params):Obj:=(tq #[.int 0 647])
def Ig (P:Params):Obj:=(tq #[])
def Ti (P:Params):Obj:={ cls:=.none,data:=Data.fields #[] }
def Ie (P:Params):Obj:=(tq #[.str "self" 651,.str "number" 652,.str "holder" 653,.str "room" 654,.str "leak" 655])
def Ib (P:Params):Obj:=(tq #[])
def Tg (P:Params):Obj:={ cls:=.none,data:=.func { name:="pond",qualname:="Book.pond",params:=ao (inClass (top0 36) 1),body:=.stmts (ak (inClass (top0 36) 1)),scope:=aj (inClass (top0 36) 1),globals:=0,closure:=[],defaults:=.none,kwdefaults:=.none } }
def Ia (P:Params):Obj:=(fc #[.str "pond" 648,.str "Book.pond" 649,cp 650,.int 171 0,.int 5 0,.int 0 0,.int 0 0,.int 3 0,.ref 351,.bool true,.int 181 0,.ref 352,.none,.ref 353,.ref 354,.ref 355,.int 656 0,.int 171 0,cp 657])
def HY (P:Params):Obj:=⟨.type "function",none,.func (PySem.W.fnOf "pond" "Book.pond" (ao (inClass (top0 36) 1)) (ak (inClass (top0 36) 1)) (aj (inClass (top0 36) 1)) (.ref 350) .none .none (.str "sluice.books" 623) none (.ref 356) .none),#[]⟩
def HX (P:Params):Obj:=(tq #[])
def Tf (P:Params):Obj:={ cls:=.none,data:=Data.fields #[] }
def HW (P:Params):Obj:=(tq #[.str "self" 662])
def HS (P:Params):Obj:=(tq #[])
def Td (P:Params):Obj:={ cls:=.none,data:=.func { name:="ponds",qualname:="Book.ponds",params:=ao (inClass (top0 36) 2),body:=.stmts (ak (inClass (top0 36) 2)),scope:=aj (inClass (top0 36) 2),globals:=0,closure:=[],defaults:=.none,kwdefaults:=.none } }
def HN (P:Params):Obj:=(fc #[.str "ponds" 659,.str "Book.ponds" 660,cp 661,.int 183 0,.int 1 0,.int 0 0,.int 0 0,.int 3 0,.ref 358,.bool true,.int 181 0,.ref 359,.none,.ref 360,.ref 361,.ref 362,.int 663 0,.int 183 0,cp 664])
def HJ (P:Params):Obj:=⟨.type "function",none,.func (PySem.W.fnOf "ponds" "Book.ponds" (ao (inClass (top0 36) 2)) (ak (inClass (top0 36) 2)) (aj (inClass (top0 36) 2)) .none .none .none (.str "sluice.books" 623) none (.ref 363) .none),#[]⟩
def HF (P:Params):Obj:=(tq #[])
def Tc (P:Params):Obj:={ cls:=.none,data:=Data.fields #[] }
def HD (P:Params):Obj:=(tq #[.str "self" 669])
def HB (P:Params):Obj:=(tq #[])
def S9 (P:Params):Obj:={ cls:=.none,data:=.func { name:="kept",qualname:="Book.kept",params:=ao (inClass (top0 36) 3),body:=.stmts (ak (inClass (top0 36) 3)),scope:=aj (inClass (top0 36) 3),globals:=0,closure:=[],defaults:=.none,kwdefaults:=.none } }
def Hz (P:Params):Obj:=(fc #[.str "kept" 666,.str "Book.kept" 667,cp 668,.int 186 0,.int 1 0,.int 0 0,.int 0 0,.int 3 0,.ref 365,.bool true,.int 181 0,.ref 366,.none,.ref 367,.ref 368,.ref 369,.int 670 0,.int 186 0,cp 671])
def Hy (P:Params):Obj:=⟨.type "function",none,.func (PySem.W.fnOf "kept" "Book.kept" (ao (inClass (top0 36) 3)) (ak (inClass (top0 36) 3)) (aj (inClass (top0 36) 3)) .none .none .none (.str "sluice.books" 623) none (.ref 370) .none),#[]⟩
def Hx (P:Params):Obj:=(tq #[])
def S8 (P:Params):Obj:={ cls:=.none,data:=Data.fields #[] }
def S7 (P:Params):Obj:={ cls:=.none,data:=.func { name:="has_pond",qualname:="Book.has_pond",params:=ao (inClass (top0 36) 4),body:=.stmts (ak (inClass (top0 36) 4)),scope:=aj (inClass (top0 36) 4),globals:=0,closure:=[],defaults:=.none,kwdefaults:=.none } }
def Hw (P:Params):Obj:=(fc #[.str "has_pond" 673,.str "Book.has_pond" 674,cp 675,.int 189 0,.int 2 0,.int 0 0,.int 0 0,.int 3 0,.ref 372,.bool true,.int 181 0,.ref 373,.none,.none,.none,.ref 374,.int 676 0,.int 189 0,cp 677])
def Hv (P:Params):Obj:=⟨.type "function",none,.func (PySem.W.fnOf "has_pond" "Book.has_pond" (ao (inClass (top0 36) 4)) (ak (inClass (top0 36) 4)) (aj (inClass (top0 36) 4)) .none .none .none (.str "sluice.books" 623) none (.ref 375) .none),#[]⟩
def Hu (P:Params):Obj:=(tq #[.none])
def Ht (P:Params):Obj:=(tq #[])
def S6 (P:Params):Obj:={ cls:=.none,data:=Data.fields #[] }
def Hs (P:Params):Obj:=(tq #[.str "self" 682,.str "springs" 683,.str "calls" 684,.str "lets" 685])
def Hr (P:Params):Obj:=(tq #[])
def S5 (P:Params):Obj:={ cls:=.none,data:=.func { name:="run",qualname:="Book.run",params:=ao (inClass (top0 36) 5),body:=.stmts (ak (inClass (top0 36) 5)),scope:=aj (inClass (top0 36) 5),globals:=0,closure:=[],defaults:=.none,kwdefaults:=.none } }
def Hq (P:Params):Obj:=(fc #[.str "run" 679,.str "Book.run" 680,cp 681,.int 192 0,.int 4 0,.int 0 0,.int 0 0,.int 3 0,.ref 378,.bool true,.int 181 0,.ref 379,.none,.ref 380,.ref 381,.ref 382,.int 686 0,.int 192 0,cp 687])
def Ho (P:Params):Obj:=⟨.type "function",none,.func (PySem.W.fnOf "run" "Book.run" (ao (inClass (top0 36) 5)) (ak (inClass (top0 36) 5)) (aj (inClass (top0 36) 5)) (.ref 377) .none .none (.str "sluice.books" 623) none (.ref 383) .none),#[]⟩
def Hl (P:Params):Obj:=(tq #[])
def SX (P:Params):Obj:={ cls:=.none,data:=Data.fields #[] }
def Hj (P:Params):Obj:=(tq #[.str "self" 692,.str "amounts" 693,.str "count" 694])
def Hi (P:Params):Obj:=(tq #[])
def SQ (P:Params):Obj:={ cls:=.none,data:=.func { name:="look_at_amounts",qualname:="Book.look_at_amounts",params:=ao (inClass (top0 36) 6),body:=.stmts (ak (inClass (top0 36) 6)),scope:=aj (inClass (top0 36) 6),globals:=0,closure:=[],defaults:=.none,kwdefaults:=.none } }
def Hh (P:Params):Obj:=(fc #[.str "look_at_amounts" 689,.str "Book.look_at_amounts" 690,cp 691,.int 195 0,.int 3 0,.int 0 0,.int 0 0,.int 3 0,.ref 385,.bool true,.int 181 0,.ref 386,.none,.ref 387,.ref 388,.ref 389,.int 695 0,.int 195 0,cp 696])
def Hg (P:Params):Obj:=⟨.type "function",none,.func (PySem.W.fnOf "look_at_amounts" "Book.look_at_amounts" (ao (inClass (top0 36) 6)) (ak (inClass (top0 36) 6)) (aj (inClass (top0 36) 6)) .none .none .none (.str "sluice.books" 623) none (.ref 390) .none),#[]⟩
def G9 (P:Params):Obj:=(tq #[])
def SN (P:Params):Obj:={ cls:=.none,data:=Data.fields #[] }
def G8 (P:Params):Obj:=(tq #[.str "self" 701])
def G7 (P:Params):Obj:=(tq #[])
def SM (P:Params):Obj:={ cls:=.none,data:=.func { name:="record",qualname:="Book.record",params:=ao (inClass (top0 36) 7),body:=.stmts (ak (inClass (top0 36) 7)),scope:=aj (inClass (top0 36) 7),globals:=0,closure:=[],defaults:=.none,kwdefaults:=.none } }
def G6 (P:Params):Obj:=(fc #[.str "record" 698,.str "Book.record" 699,cp 700,.int 198 0,.int 1 0,.int 0 0,.int 0 0,.int 3 0,.ref 392,.bool true,.int 181 0,.ref 393,.none,.ref 394,.ref 395,.ref 396,.int 702 0,.int 198 0,cp 703])
def G5 (P:Params):Obj:=⟨.type "function",none,.func (PySem.W.fnOf "record" "Book.record" (ao (inClass (top0 36) 7)) (ak (inClass (top0 36) 7)) (aj (inClass (top0 36) 7)) .none .none .none (.str "sluice.books" 623) none (.ref 397) .none),#[]⟩
def G4 (P:Params):Obj:=(tq #[])
def Sy (P:Params):Obj:={ cls:=.none,data:=Data.fields #[] }
def G3 (P:Params):Obj:=(tq #[.str "self" 708,.str "number" 709])
def GZ (P:Params):Obj:=(tq #[])
def Sx (P:Params):Obj:={ cls:=.none,data:=.func { name:="why",qualname:="Book.why",params:=ao (inClass (top0 36) 8),body:=.stmts (ak (inClass (top0 36) 8)),scope:=aj (inClass (top0 36) 8),globals:=0,closure:=[],defaults:=.none,kwdefaults:=.none } }
def GX (P:Params):Obj:=(fc #[.str "why" 705,.str "Book.why" 706,cp 707,.int 201 0,.int 2 0,.int 0 0,.int 0 0,.int 3 0,.ref 399,.bool true,.int 181 0,.ref 400,.none,.ref 401,.ref 402,.ref 403,.int 710 0,.int 201 0,cp 711])
def GR (P:Params):Obj:=⟨.type "function",none,.func (PySem.W.fnOf "why" "Book.why" (ao (inClass (top0 36) 8)) (ak (inClass (top0 36) 8)) (aj (inClass (top0 36) 8)) .none .none .none (.str "sluice.books" 623) none (.ref 404) .none),#[]⟩
def GQ (P:Params):Obj:=(tq #[])
def Sw (P:Params):Obj:={ cls:=.none,data:=Data.fields #[] }
def GP (P:Params):Obj:=(tq #[.str "self" 716,.str "number" 717,.str "start" 718])
def GK (P:Params):Obj:=(tq #[])
def Ss (P:Params):Obj:={ cls:=.none,data:=.func { name:="look_move",qualname:="Book.look_move",params:=ao (inClass (top0 36) 9),body:=.stmts (ak (inClass (top0 36) 9)),scope:=aj (inClass (top0 36) 9),globals:=0,closure:=[],defaults:=.none,kwdefaults:=.none } }
def GJ (P:Params):Obj:=(fc #[.str "look_move" 713,.str "Book.look_move" 714,cp 715,.int 204 0,.int 3 0,.int 0 0,.int 0 0,.int 3 0,.ref 406,.bool true,.int 181 0,.ref 407,.none,.ref 408,.ref 409,.ref 410,.int 719 0,.int 204 0,cp 720])
def GF (P:Params):Obj:=⟨.type "function",none,.func (PySem.W.fnOf "look_move" "Book.look_move" (ao (inClass (top0 36) 9)) (ak (inClass (top0 36) 9)) (aj (inClass (top0 36) 9)) .none .none .none (.str "sluice.books" 623) none (.ref 411) .none),#[]⟩
def GD (P:Params):Obj:=(tq #[])
def Sq (P:Params):Obj:={ cls:=.none,data:=Data.fields #[] }
def Sg (P:Params):Obj:={ cls:=.none,data:=.func { name:="close",qualname:="Book.close",params:=ao (inClass (top0 36) 10),body:=.stmts (ak (inClass (top0 36) 10)),scope:=aj (inClass (top0 36) 10),globals:=0,closure:=[],defaults:=.none,kwdefaults:=.none } }
def GC (P:Params):Obj:=(fc #[.str "close" 722,.str "Book.close" 723,cp 724,.int 207 0,.int 1 0,.int 0 0,.int 0 0,.int 3 0,.ref 413,.bool true,.int 181 0,.ref 414,.none,.none,.none,.ref 415,.int 725 0,.int 207 0,cp 726])
def Gz (P:Params):Obj:=⟨.type "function",none,.func (PySem.W.fnOf "close" "Book.close" (ao (inClass (top0 36) 10)) (ak (inClass (top0 36) 10)) (aj (inClass (top0 36) 10)) .none .none .none (.str "sluice.books" 623) none (.ref 416) .none),#[]⟩
def Gy (P:Params):Obj:=(tq #[.str "dug" 728,.str "greatest" 729,.str "keeps" 730,.str "last" 731,.str "ran" 732])
def Gx (P:Params):Obj:={ cls:=.type "dict",data:=Data.dict #[en P "__module__" 634 (.str "sluice.books" 623),en P "__firstlineno__" 638 (.int 161 637),en P "__init__" 646 (.ref 349),en P "pond" 658 (.ref 357),en P "ponds" 665 (.ref 364),en P "kept" 672 (.ref 371),en P "has_pond" 678 (.ref 376),en P "run" 688 (.ref 384),en P "look_at_amounts" 697 (.ref 391),en P "record" 704 (.ref 398),en P "why" 712 (.ref 405),en P "look_move" 721 (.ref 412),en P "close" 727 (.ref 417),en P "__static_attributes__" 733 (.ref 418),en P "__doc__" 734 .none] 2 }
def Gw (P:Params):Obj:={ cls:=.type "type",data:=Data.cls { name:="Book",bases:=[.ref 331],mro:=[.ref 420,.ref 331,.type "object"],ns:=419,qualname:="Book" },slots:=#[some (.ref 336),none,some (.str "Book" 627),some (.str "Book" 635),some (.builtin "object.__new__"),some (.bool true)] }
def R9 (P:Params):Obj:={ cls:=.type "super",data:=Data.fields #[.ref 420,.ref 420,.ref 420] }
def R8 (P:Params):Obj:={ cls:=.type "builtin_function_or_method",data:=Data.fields #[.builtin "object.__init_subclass__",.ref 420] }
def Gv (P:Params):Obj:=(tq #[])
def R7 (P:Params):Obj:={ cls:=.none,data:=Data.fields #[] }
def Gu (P:Params):Obj:=(tq #[.str "script" 742,.str "k" 743])
def Gs (P:Params):Obj:=(tq #[])
def R6 (P:Params):Obj:=(pr0 "_law_cell_at" 38)
def Gq (P:Params):Obj:=(fc #[.str "_law_cell_at" 739,.str "_law_cell_at" 740,cp 741,.int 213 0,.int 2 0,.int 0 0,.int 0 0,.int 3 0,.ref 423,.bool true,.int 181 0,.ref 424,.none,.ref 425,.ref 426,.ref 427,.int 744 0,.int 213 0,cp 745])
def Gp (P:Params):Obj:=⟨.type "function",none,.func (PySem.W.fnOf "_law_cell_at" "_law_cell_at" (ao (top0 38)) (ak (top0 38)) (aj (top0 38)) .none .none .none (.str "law_sluice_k62_ponds_put" 737) none (.ref 428) .none),#[]⟩
def Gn (P:Params):Obj:=(tq #[])
def R4 (P:Params):Obj:={ cls:=.none,data:=Data.fields #[] }
def Gm (P:Params):Obj:=(tq #[.str "found" 750])
def Gk (P:Params):Obj:=(tq #[])
def R3 (P:Params):Obj:=(pr0 "_law_whole" 39)
def Gj (P:Params):Obj:=(fc #[.str "_law_whole" 747,.str "_law_whole" 748,cp 749,.int 217 0,.int 1 0,.int 0 0,.int 0 0,.int 3 0,.ref 430,.bool true,.int 181 0,.ref 431,.none,.ref 432,.ref 433,.ref 434,.int 751 0,.int 217 0,cp 752])
def Gi (P:Params):Obj:=⟨.type "function",none,.func (PySem.W.fnOf "_law_whole" "_law_whole" (ao (top0 39)) (ak (top0 39)) (aj (top0 39)) .none .none .none (.str "law_sluice_k62_ponds_put" 737) none (.ref 435) .none),#[]⟩
def Gh (P:Params):Obj:=(tq #[])
def R0 (P:Params):Obj:={ cls:=.none,data:=Data.fields #[] }
def Gg (P:Params):Obj:=(tq #[.str "cell" 757,.str "k" 758,.str "mark" 759])
def Gf (P:Params):Obj:=(tq #[])
def RW (P:Params):Obj:=(pr0 "_law_pebble" 40)
def Ge (P:Params):Obj:=(fc #[.str "_law_pebble" 754,.str "_law_pebble" 755,cp 756,.int 219 0,.int 2 0,.int 0 0,.int 0 0,.int 3 0,.ref 437,.bool true,.int 181 0,.ref 438,.none,.ref 439,.ref 440,.ref 441,.int 760 0,.int 219 0,cp 761])
def Gd (P:Params):Obj:=⟨.type "function",none,.func (PySem.W.fnOf "_law_pebble" "_law_pebble" (ao (top0 40)) (ak (top0 40)) (aj (top0 40)) .none .none .none (.str "law_sluice_k62_ponds_put" 737) none (.ref 442) .none),#[]⟩
def Gb (P:Params):Obj:=(tq #[])
def RV (P:Params):Obj:={ cls:=.none,data:=Data.fields #[] }
def RT (P:Params):Obj:=(pr0 "_law_pebbles" 41)
def Ga (P:Params):Obj:=(fc #[.str "_law_pebbles" 763,.str "_law_pebbles" 764,cp 765,.int 222 0,.int 2 0,.int 0 0,.int 0 0,.int 3 0,.ref 444,.bool true,.int 181 0,.ref 445,.none,.none,.none,.ref 446,.int 766 0,.int 222 0,cp 767])
def FZ (P:Params):Obj:=⟨.type "function",none,.func (PySem.W.fnOf "_law_pebbles" "_law_pebbles" (ao (top0 41)) (ak (top0 41)) (aj (top0 41)) .none .none .none (.str "law_sluice_k62_ponds_put" 737) none (.ref 447) .none),#[]⟩
def FW (P:Params):Obj:=(tq #[])
def RN (P:Params):Obj:={ cls:=.none,data:=Data.fields #[] }
def FT (P:Params):Obj:=(tq #[.str "xs" 772,.str "cell" 773,.str "order" 774,.str "onward" 775,.str "k" 776,.str "place" 777,.str "at" 778,.str "found" 779])
def FQ (P:Params):Obj:=(tq #[])
def RM (P:Params):Obj:=(pr0 "_law_river" 42)
def FP (P:Params):Obj:=(fc #[.str "_law_river" 769,.str "_law_river" 770,cp 771,.int 224 0,.int 2 0,.int 0 0,.int 0 0,.int 3 0,.ref 449,.bool true,.int 181 0,.ref 450,.none,.ref 451,.ref 452,.ref 453,.int 780 0,.int 224 0,cp 781])
def FN (P:Params):Obj:=⟨.type "function",none,.func (PySem.W.fnOf "_law_river" "_law_river" (ao (top0 42)) (ak (top0 42)) (aj (top0 42)) .none .none .none (.str "law_sluice_k62_ponds_put" 737) none (.ref 454) .none),#[]⟩
def FJ (P:Params):Obj:=(tq #[])
def RL (P:Params):Obj:={ cls:=.none,data:=Data.fields #[] }
def Fy (P:Params):Obj:=(tq #[.str "x" 786,.str "letters" 787,.str "name" 788,.str "k" 789])
def Fx (P:Params):Obj:=(tq #[])
def RK (P:Params):Obj:=(pr0 "_law_name" 43)
def Fw (P:Params):Obj:=(fc #[.str "_law_name" 783,.str "_law_name" 784,cp 785,.int 243 0,.int 1 0,.int 0 0,.int 0 0,.int 3 0,.ref 456,.bool true,.int 181 0,.ref 457,.none,.ref 458,.ref 459,.ref 460,.int 790 0,.int 243 0,cp 791])
def Fv (P:Params):Obj:=⟨.type "function",none,.func (PySem.W.fnOf "_law_name" "_law_name" (ao (top0 43)) (ak (top0 43)) (aj (top0 43)) .none .none .none (.str "law_sluice_k62_ponds_put" 737) none (.ref 461) .none),#[]⟩
def Ft (P:Params):Obj:=(tq #[])
def RJ (P:Params):Obj:={ cls:=.none,data:=Data.fields #[] }
def Fq (P:Params):Obj:=(tq #[.str "book" 796,.str "river" 797,.str "cell" 798,.str "xs" 799,.str "start" 800,.str "back" 801])
def Fp (P:Params):Obj:=(tq #[])
def RG (P:Params):Obj:=(pr0 "_law_filed" 44)
def Fo (P:Params):Obj:=(fc #[.str "_law_filed" 793,.str "_law_filed" 794,cp 795,.int 249 0,.int 3 0,.int 0 0,.int 0 0,.int 3 0,.ref 463,.bool true,.int 181 0,.ref 464,.none,.ref 465,.ref 466,.ref 467,.int 802 0,.int 249 0,cp 803])
def Fl (P:Params):Obj:=⟨.type "function",none,.func (PySem.W.fnOf "_law_filed" "_law_filed" (ao (top0 44)) (ak (top0 44)) (aj (top0 44)) .none .none .none (.str "law_sluice_k62_ponds_put" 737) none (.ref 468) .none),#[]⟩
def Fj (P:Params):Obj:=(tq #[])
def RD (P:Params):Obj:={ cls:=.none,data:=Data.fields #[] }
def Fi (P:Params):Obj:=(tq #[.str "x" 808,.str "cell" 809,.str "most" 810,.str "far" 811])
def Fg (P:Params):Obj:=(tq #[])
def Rz (P:Params):Obj:=(pr0 "_law_bounded" 45)
def Fe (P:Params):Obj:=(fc #[.str "_law_bounded" 805,.str "_law_bounded" 806,cp 807,.int 256 0,.int 3 0,.int 0 0,.int 0 0,.int 3 0,.ref 470,.bool true,.int 181 0,.ref 471,.none,.ref 472,.ref 473,.ref 474,.int 812 0,.int 256 0,cp 813])
def Fd (P:Params):Obj:=⟨.type "function",none,.func (PySem.W.fnOf "_law_bounded" "_law_bounded" (ao (top0 45)) (ak (top0 45)) (aj (top0 45)) .none .none .none (.str "law_sluice_k62_ponds_put" 737) none (.ref 475) .none),#[]⟩
def Fb (P:Params):Obj:=(tq #[])
def Ry (P:Params):Obj:={ cls:=.none,data:=Data.fields #[] }
def EY (P:Params):Obj:=(tq #[.str "book" 818,.str "cell" 819,.str "number" 820,.str "x" 821])
def Ez (P:Params):Obj:=(tq #[])
def Rx (P:Params):Obj:=(pr0 "_law_sold" 46)
def Ey (P:Params):Obj:=(fc #[.str "_law_sold" 815,.str "_law_sold" 816,cp 817,.int 259 0,.int 2 0,.int 0 0,.int 0 0,.int 3 0,.ref 477,.bool true,.int 181 0,.ref 478,.none,.ref 479,.ref 480,.ref 481,.int 822 0,.int 259 0,cp 823])
def Ew (P:Params):Obj:=⟨.type "function",none,.func (PySem.W.fnOf "_law_sold" "_law_sold" (ao (top0 46)) (ak (top0 46)) (aj (top0 46)) .none .none .none (.str "law_sluice_k62_ponds_put" 737) none (.ref 482) .none),#[]⟩
def Eu (P:Params):Obj:=(tq #[])
def Rw (P:Params):Obj:={ cls:=.none,data:=Data.fields #[] }
def Et (P:Params):Obj:=(tq #[.str "book" 828,.str "x" 829,.str "owners" 830,.str "trail" 831,.str "number" 832,.str "to" 833])
def Es (P:Params):Obj:=(tq #[])
def Ru (P:Params):Obj:=(pr0 "_law_sold_on" 47)
def Er (P:Params):Obj:=(fc #[.str "_law_sold_on" 825,.str "_law_sold_on" 826,cp 827,.int 264 0,.int 4 0,.int 0 0,.int 0 0,.int 3 0,.ref 484,.bool true,.int 181 0,.ref 485,.none,.ref 486,.ref 487,.ref 488,.int 834 0,.int 264 0,cp 835])
def Ep (P:Params):Obj:=⟨.type "function",none,.func (PySem.W.fnOf "_law_sold_on" "_law_sold_on" (ao (top0 47)) (ak (top0 47)) (aj (top0 47)) .none .none .none (.str "law_sluice_k62_ponds_put" 737) none (.ref 489) .none),#[]⟩
def Eo (P:Params):Obj:=(tq #[])
def Rr (P:Params):Obj:={ cls:=.none,data:=Data.fields #[] }
def En (P:Params):Obj:=(tq #[.str "roll" 840,.str "old" 841,.str "owners" 842,.str "cell" 843,.str "xs" 844,.str "number" 845,.str "holder" 846,.str "room" 847,.str "leak" 848])
def Em (P:Params):Obj:=(tq #[])
def Rq (P:Params):Obj:=(pr0 "_law_wish" 48)
def El (P:Params):Obj:=(fc #[.str "_law_wish" 837,.str "_law_wish" 838,cp 839,.int 271 0,.int 4 0,.int 0 0,.int 0 0,.int 3 0,.ref 491,.bool true,.int 181 0,.ref 492,.none,.ref 493,.ref 494,.ref 495,.int 849 0,.int 271 0,cp 850])
def Ek (P:Params):Obj:=⟨.type "function",none,.func (PySem.W.fnOf "_law_wish" "_law_wish" (ao (top0 48)) (ak (top0 48)) (aj (top0 48)) .none .none .none (.str "law_sluice_k62_ponds_put" 737) none (.ref 496) .none),#[]⟩
def Ej (P:Params):Obj:=(tq #[])
def Rp (P:Params):Obj:={ cls:=.none,data:=Data.fields #[] }
def Rn (P:Params):Obj:=(pr0 "_law_due" 49)
def Ei (P:Params):Obj:=(fc #[.str "_law_due" 852,.str "_law_due" 853,cp 854,.int 284 0,.int 4 0,.int 0 0,.int 0 0,.int 3 0,.ref 498,.bool true,.int 181 0,.ref 499,.none,.none,.none,.ref 500,.int 855 0,.int 284 0,cp 856])
def Eh (P:Params):Obj:=⟨.type "function",none,.func (PySem.W.fnOf "_law_due" "_law_due" (ao (top0 49)) (ak (top0 49)) (aj (top0 49)) .none .none .none (.str "law_sluice_k62_ponds_put" 737) none (.ref 501) .none),#[]⟩
def Ef (P:Params):Obj:=(tq #[])
def Rm (P:Params):Obj:={ cls:=.none,data:=Data.fields #[] }
def Ed (P:Params):Obj:=(tq #[.str "book" 861,.str "wish" 862,.str "number" 863,.str "holder" 864,.str "room" 865,.str "leak" 866,.str "caught" 867,.str "place" 868,.str "e" 869,.str "kinds" 870])
def Eb (P:Params):Obj:=(tq #[])
def Rk (P:Params):Obj:=(pr0 "_law_put" 50)
def Ea (P:Params):Obj:=(fc #[.str "_law_put" 858,.str "_law_put" 859,cp 860,.int 296 0,.int 2 0,.int 0 0,.int 0 0,.int 3 0,.ref 503,.bool true,.int 181 0,.ref 504,.none,.ref 505,.ref 506,.ref 507,.int 871 0,.int 296 0,cp 872])
def DY (P:Params):Obj:=⟨.type "function",none,.func (PySem.W.fnOf "_law_put" "_law_put" (ao (top0 50)) (ak (top0 50)) (aj (top0 50)) .none .none .none (.str "law_sluice_k62_ponds_put" 737) none (.ref 508) .none),#[]⟩
def DX (P:Params):Obj:=(tq #[])
def Ri (P:Params):Obj:={ cls:=.none,data:=Data.fields #[] }
def DW (P:Params):Obj:=(tq #[.str "book" 877,.str "basins" 878,.str "roll" 879,.str "trail" 880])
def DR (P:Params):Obj:=(tq #[])
def Rh (P:Params):Obj:=(pr0 "_law_stands" 51)
def DQ (P:Params):Obj:=(fc #[.str "_law_stands" 874,.str "_law_stands" 875,cp 876,.int 311 0,.int 4 0,.int 0 0,.int 0 0,.int 3 0,.ref 510,.bool true,.int 181 0,.ref 511,.none,.ref 512,.ref 513,.ref 514,.int 881 0,.int 311 0,cp 882])
def DP (P:Params):Obj:=⟨.type "function",none,.func (PySem.W.fnOf "_law_stands" "_law_stands" (ao (top0 51)) (ak (top0 51)) (aj (top0 51)) .none .none .none (.str "law_sluice_k62_ponds_put" 737) none (.ref 515) .none),#[]⟩
def DN (P:Params):Obj:=(tq #[])
def Rg (P:Params):Obj:={ cls:=.none,data:=Data.fields #[] }
def Rf (P:Params):Obj:=(pr0 "law" 52)
def DK (P:Params):Obj:=(fc #[.str "law" 884,.str "law" 885,cp 886,.int 315 0,.int 1 0,.int 0 0,.int 0 0,.int 3 0,.ref 517,.bool true,.int 181 0,.ref 518,.none,.none,.none,.ref 519,.int 887 0,.int 315 0,cp 888])
def DG (P:Params):Obj:=⟨.type "function",none,.func (PySem.W.fnOf "law" "law" (ao (top0 52)) (ak (top0 52)) (aj (top0 52)) .none .none .none (.str "law_sluice_k62_ponds_put" 737) none (.ref 520) .none),#[]⟩
def H0:Params→Heap:=fun P=>{ objs:=⟨T7 P :: T5 P :: Oz P :: U0 P :: Rt P :: Q6 P :: QT P :: QG P :: Qx P :: zZ P :: zV P :: []⟩ }
def Ha:Params→Heap:=fun P=>{ objs:=⟨T7 P :: T5 P :: Oz P :: U0 P :: Rt P :: Q6 P :: QT P :: QG P :: Qx P :: zZ P :: zV P :: Ci P :: T6 P :: Cg P :: Ce P :: []⟩ }
def Hb:Params→Heap:=fun P=>{ objs:=⟨T7 P :: T5 P :: Oz P :: U0 P :: Rt P :: Q6 P :: QT P :: QG P :: Qx P :: zZ P :: zV P :: Ci P :: T6 P :: Cg P :: Ce P :: []⟩ }
def Hm:Params→Heap:=fun P=>{ objs:=⟨T7 P :: T5 P :: Oz P :: U4 P :: Rt P :: Q6 P :: QT P :: QG P :: Qx P :: zZ P :: zV P :: Ci P :: U3 P :: Cg P :: Ce P :: N8 P :: T4 P :: N7 P :: N6 P :: T3 P :: N5 P :: NZ P :: NT P :: TY P :: NQ P :: NP P :: TV P :: NK P :: Nz P :: Ny P :: Tj P :: Te P :: Nx P :: Nv P :: Nu P :: SJ P :: Sv P :: Sd P :: R5 P :: RZ P :: RQ P :: Nt P :: Nr P :: Nq P :: Np P :: Ro P :: Rj P :: Nm P :: Rc P :: Rb P :: Ra P :: Q9 P :: Q8 P :: Q7 P :: Nk P :: Nj P :: Ni P :: Q5 P :: Q0 P :: Nh P :: QZ P :: QX P :: QW P :: QV P :: QS P :: QM P :: Ng P :: Nf P :: Nb P :: QL P :: QK P :: M9 P :: QJ P :: QH P :: QF P :: QD P :: QC P :: QB P :: M8 P :: M7 P :: M6 P :: Qz P :: Qy P :: M5 P :: Qw P :: Qv P :: Qu P :: Qt P :: Qs P :: Qq P :: M4 P :: MP P :: MN P :: Qp P :: La P :: zY P :: K9 P :: K8 P :: K7 P :: K6 P :: K5 P :: K4 P :: zX P :: zW P :: zU P :: K3 P :: K1 P :: zT P :: KZ P :: KY P :: KR P :: KQ P :: KN P :: KJ P :: zR P :: zQ P :: zP P :: KH P :: KD P :: zO P :: KC P :: Kz P :: Ky P :: Kw P :: Kv P :: Ku P :: zN P :: zM P :: zL P :: Ks P :: Kr P :: zK P :: Kq P :: Kp P :: Ko P :: Km P :: Kl P :: Kh P :: zJ P :: zH P :: zG P :: Kg P :: Ke P :: zF P :: Kd P :: zE P :: zB P :: Kc P :: zA P :: zy P :: zx P :: Ka P :: J9 P :: zu P :: zq P :: zp P :: J8 P :: zm P :: zj P :: J7 P :: zf P :: zc P :: za P :: J6 P :: yZ P :: yX P :: J5 P :: yW P :: yV P :: yU P :: J4 P :: yS P :: yR P :: J3 P :: yQ P :: yP P :: yO P :: J2 P :: yN P :: yM P :: J1 P :: yL P :: yK P :: yJ P :: J0 P :: yI P :: yH P :: JZ P :: yG P :: yF P :: yE P :: JX P :: yD P :: yC P :: JW P :: yx P :: yw P :: JV P :: JT P :: JR P :: JQ P :: JN P :: JM P :: JL P :: yu P :: JK P :: yt P :: yr P :: JH P :: yq P :: yp P :: yj P :: JG P :: yh P :: yg P :: JF P :: yd P :: yc P :: xZ P :: JD P :: xY P :: xX P :: JC P :: xW P :: xV P :: xU P :: JB P :: xT P :: xR P :: Jz P :: xQ P :: xP P :: xO P :: Jy P :: xM P :: xK P :: Jx P :: xJ P :: xH P :: xG P :: Jw P :: xu P :: xr P :: Jv P :: xq P :: xg P :: w5 P :: wZ P :: Ju P :: wY P :: wX P :: Jt P :: wW P :: wV P :: wU P :: Js P :: wR P :: wQ P :: Jr P :: wO P :: wN P :: wM P :: Jq P :: wL P :: wK P :: Jp P :: wJ P :: wI P :: wH P :: Jo P :: wG P :: wF P :: Jm P :: wD P :: wC P :: wB P :: Jl P :: wA P :: wz P :: Jk P :: wu P :: wk P :: wj P :: Jj P :: wg P :: v9 P :: Ji P :: v8 P :: v7 P :: vZ P :: Jh P :: Jg P :: vY P :: vX P :: vW P :: Jf P :: vV P :: vU P :: Je P :: vR P :: vQ P :: vP P :: Jd P :: vO P :: vN P :: Jc P :: vM P :: vL P :: vK P :: Jb P :: vJ P :: vI P :: Ja P :: vH P :: vG P :: vD P :: IW P :: vC P :: vB P :: IV P :: vA P :: vq P :: vp P :: IK P :: vo P :: vm P :: Iz P :: vh P :: vg P :: vf P :: vd P :: TQ P :: u9 P :: u6 P :: Iw P :: Iu P :: []⟩ }
def H1:Params→Heap:=fun P=>{ objs:=⟨T7 P :: T5 P :: Oz P :: Ir P :: Rt P :: Q6 P :: QT P :: QG P :: Qx P :: zZ P :: zV P :: Ci P :: TJ P :: Cg P :: Ce P :: N8 P :: T4 P :: N7 P :: N6 P :: T3 P :: N5 P :: NZ P :: NT P :: TY P :: NQ P :: NP P :: TV P :: NK P :: Nz P :: Ny P :: Tj P :: Te P :: Nx P :: Nv P :: Nu P :: SJ P :: Sv P :: Sd P :: R5 P :: RZ P :: RQ P :: Nt P :: Nr P :: Nq P :: Np P :: Ro P :: Rj P :: Nm P :: Rc P :: Rb P :: Ra P :: Q9 P :: Q8 P :: Q7 P :: Nk P :: Nj P :: Ni P :: Q5 P :: Q0 P :: Nh P :: QZ P :: QX P :: QW P :: QV P :: QS P :: QM P :: Ng P :: Nf P :: Nb P :: QL P :: QK P :: M9 P :: QJ P :: QH P :: QF P :: QD P :: QC P :: QB P :: M8 P :: M7 P :: M6 P :: Qz P :: Qy P :: M5 P :: Qw P :: Qv P :: Qu P :: Qt P :: Qs P :: Qq P :: M4 P :: MP P :: MN P :: Qp P :: La P :: zY P :: K9 P :: K8 P :: K7 P :: K6 P :: K5 P :: K4 P :: zX P :: zW P :: zU P :: K3 P :: K1 P :: zT P :: KZ P :: KY P :: KR P :: KQ P :: KN P :: KJ P :: zR P :: zQ P :: zP P :: KH P :: KD P :: zO P :: KC P :: Kz P :: Ky P :: Kw P :: Kv P :: Ku P :: zN P :: zM P :: zL P :: Ks P :: Kr P :: zK P :: Kq P :: Kp P :: Ko P :: Km P :: Kl P :: Kh P :: zJ P :: zH P :: zG P :: Kg P :: Ke P :: zF P :: Kd P :: zE P :: zB P :: Kc P :: zA P :: zy P :: zx P :: Ka P :: J9 P :: zu P :: zq P :: zp P :: J8 P :: zm P :: zj P :: J7 P :: zf P :: zc P :: za P :: J6 P :: yZ P :: yX P :: J5 P :: yW P :: yV P :: yU P :: J4 P :: yS P :: yR P :: J3 P :: yQ P :: yP P :: yO P :: J2 P :: yN P :: yM P :: J1 P :: yL P :: yK P :: yJ P :: J0 P :: yI P :: yH P :: JZ P :: yG P :: yF P :: yE P :: JX P :: yD P :: yC P :: JW P :: yx P :: yw P :: JV P :: JT P :: JR P :: JQ P :: JN P :: JM P :: JL P :: yu P :: JK P :: yt P :: yr P :: JH P :: yq P :: yp P :: yj P :: JG P :: yh P :: yg P :: JF P :: yd P :: yc P :: xZ P :: JD P :: xY P :: xX P :: JC P :: xW P :: xV P :: xU P :: JB P :: xT P :: xR P :: Jz P :: xQ P :: xP P :: xO P :: Jy P :: xM P :: xK P :: Jx P :: xJ P :: xH P :: xG P :: Jw P :: xu P :: xr P :: Jv P :: xq P :: xg P :: w5 P :: wZ P :: Ju P :: wY P :: wX P :: Jt P :: wW P :: wV P :: wU P :: Js P :: wR P :: wQ P :: Jr P :: wO P :: wN P :: wM P :: Jq P :: wL P :: wK P :: Jp P :: wJ P :: wI P :: wH P :: Jo P :: wG P :: wF P :: Jm P :: wD P :: wC P :: wB P :: Jl P :: wA P :: wz P :: Jk P :: wu P :: wk P :: wj P :: Jj P :: wg P :: v9 P :: Ji P :: v8 P :: v7 P :: vZ P :: Jh P :: Jg P :: vY P :: vX P :: vW P :: Jf P :: vV P :: vU P :: Je P :: vR P :: vQ P :: vP P :: Jd P :: vO P :: vN P :: Jc P :: vM P :: vL P :: vK P :: Jb P :: vJ P :: vI P :: Ja P :: vH P :: vG P :: vD P :: IW P :: vC P :: vB P :: IV P :: vA P :: vq P :: vp P :: IK P :: vo P :: vm P :: Iz P :: vh P :: vg P :: vf P :: vd P :: Ip P :: u9 P :: u6 P :: Iw P :: Iu P :: Io P :: TF P :: Tz P :: Tw P :: Tv P :: Tt P :: Tr P :: Im P :: Tq P :: Il P :: Ik P :: Tp P :: Ij P :: Ii P :: Ih P :: Ig P :: Ti P :: Ie P :: Ib P :: Tg P :: Ia P :: HY P :: HX P :: Tf P :: HW P :: HS P :: Td P :: HN P :: HJ P :: HF P :: Tc P :: HD P :: HB P :: S9 P :: Hz P :: Hy P :: Hx P :: S8 P :: S7 P :: Hw P :: Hv P :: Hu P :: Ht P :: S6 P :: Hs P :: Hr P :: S5 P :: Hq P :: Ho P :: Hl P :: SX P :: Hj P :: Hi P :: SQ P :: Hh P :: Hg P :: G9 P :: SN P :: G8 P :: G7 P :: SM P :: G6 P :: G5 P :: G4 P :: Sy P :: G3 P :: GZ P :: Sx P :: GX P :: GR P :: GQ P :: Sw P :: GP P :: GK P :: Ss P :: GJ P :: GF P :: GD P :: Sq P :: Sg P :: GC P :: Gz P :: Gy P :: Gx P :: Gw P :: R9 P :: R8 P :: Gv P :: R7 P :: Gu P :: Gs P :: R6 P :: Gq P :: Gp P :: Gn P :: R4 P :: Gm P :: Gk P :: R3 P :: Gj P :: Gi P :: Gh P :: R0 P :: Gg P :: Gf P :: RW P :: Ge P :: Gd P :: Gb P :: RV P :: RT P :: Ga P :: FZ P :: FW P :: RN P :: FT P :: FQ P :: RM P :: FP P :: FN P :: FJ P :: RL P :: Fy P :: Fx P :: RK P :: Fw P :: Fv P :: Ft P :: RJ P :: Fq P :: Fp P :: RG P :: Fo P :: Fl P :: Fj P :: RD P :: Fi P :: Fg P :: Rz P :: Fe P :: Fd P :: Fb P :: Ry P :: EY P :: Ez P :: Rx P :: Ey P :: Ew P :: Eu P :: Rw P :: Et P :: Es P :: Ru P :: Er P :: Ep P :: Eo P :: Rr P :: En P :: Em P :: Rq P :: El P :: Ek P :: Ej P :: Rp P :: Rn P :: Ei P :: Eh P :: Ef P :: Rm P :: Ed P :: Eb P :: Rk P :: Ea P :: DY P :: DX P :: Ri P :: DW P :: DR P :: Rh P :: DQ P :: DP P :: DN P :: Rg P :: Rf P :: DK P :: DG P :: []⟩ }
def Kf:Params→PySem.W.Frag:=fun P=>(nat_lit 2,Oz P) ::
 (nat_lit 3,Ir P) ::
 (nat_lit 15,N8 P) ::
 (nat_lit 17,N7 P) ::
 (nat_lit 18,N6 P) ::
 (nat_lit 20,N5 P) ::
 (nat_lit 21,NZ P) ::
 (nat_lit 22,NT P) ::
 (nat_lit 24,NQ P) ::
 (nat_lit 25,NP P) ::
 (nat_lit 27,NK P) ::
 (nat_lit 28,Nz P) ::
 (nat_lit 29,Ny P) ::
 (nat_lit 32,Nx P) ::
 (nat_lit 33,Nv P) ::
 (nat_lit 34,Nu P) ::
 (nat_lit 41,Nt P) ::
 (nat_lit 42,Nr P) ::
 (nat_lit 43,Nq P) ::
 (nat_lit 44,Np P) ::
 (nat_lit 47,Nm P) ::
 (nat_lit 54,Nk P) ::
 (nat_lit 55,Nj P) ::
 (nat_lit 56,Ni P) ::
 (nat_lit 59,Nh P) ::
 (nat_lit 66,Ng P) ::
 (nat_lit 67,Nf P) ::
 (nat_lit 68,Nb P) ::
 (nat_lit 71,M9 P) ::
 (nat_lit 78,M8 P) ::
 (nat_lit 79,M7 P) ::
 (nat_lit 80,M6 P) ::
 (nat_lit 83,M5 P) ::
 (nat_lit 90,M4 P) ::
 (nat_lit 91,MP P) ::
 (nat_lit 92,MN P) ::
 (nat_lit 95,zY P) ::
 (nat_lit 102,zX P) ::
 (nat_lit 103,zW P) ::
 (nat_lit 104,zU P) ::
 (nat_lit 107,zT P) ::
 (nat_lit 114,zR P) ::
 (nat_lit 115,zQ P) ::
 (nat_lit 116,zP P) ::
 (nat_lit 119,zO P) ::
 (nat_lit 126,zN P) ::
 (nat_lit 127,zM P) ::
 (nat_lit 128,zL P) ::
 (nat_lit 131,zK P) ::
 (nat_lit 138,zJ P) ::
 (nat_lit 139,zH P) ::
 (nat_lit 140,zG P) ::
 (nat_lit 143,zF P) ::
 (nat_lit 145,zE P) ::
 (nat_lit 146,zB P) ::
 (nat_lit 148,zA P) ::
 (nat_lit 149,zy P) ::
 (nat_lit 150,zx P) ::
 (nat_lit 153,zu P) ::
 (nat_lit 154,zq P) ::
 (nat_lit 155,zp P) ::
 (nat_lit 157,zm P) ::
 (nat_lit 158,zj P) ::
 (nat_lit 160,zf P) ::
 (nat_lit 161,zc P) ::
 (nat_lit 162,za P) ::
 (nat_lit 164,yZ P) ::
 (nat_lit 165,yX P) ::
 (nat_lit 167,yW P) ::
 (nat_lit 168,yV P) ::
 (nat_lit 169,yU P) ::
 (nat_lit 171,yS P) ::
 (nat_lit 172,yR P) ::
 (nat_lit 174,yQ P) ::
 (nat_lit 175,yP P) ::
 (nat_lit 176,yO P) ::
 (nat_lit 178,yN P) ::
 (nat_lit 179,yM P) ::
 (nat_lit 181,yL P) ::
 (nat_lit 182,yK P) ::
 (nat_lit 183,yJ P) ::
 (nat_lit 185,yI P) ::
 (nat_lit 186,yH P) ::
 (nat_lit 188,yG P) ::
 (nat_lit 189,yF P) ::
 (nat_lit 190,yE P) ::
 (nat_lit 192,yD P) ::
 (nat_lit 193,yC P) ::
 (nat_lit 195,yx P) ::
 (nat_lit 196,yw P) ::
 (nat_lit 204,yu P) ::
 (nat_lit 206,yt P) ::
 (nat_lit 207,yr P) ::
 (nat_lit 209,yq P) ::
 (nat_lit 210,yp P) ::
 (nat_lit 211,yj P) ::
 (nat_lit 213,yh P) ::
 (nat_lit 214,yg P) ::
 (nat_lit 216,yd P) ::
 (nat_lit 217,yc P) ::
 (nat_lit 218,xZ P) ::
 (nat_lit 220,xY P) ::
 (nat_lit 221,xX P) ::
 (nat_lit 223,xW P) ::
 (nat_lit 224,xV P) ::
 (nat_lit 225,xU P) ::
 (nat_lit 227,xT P) ::
 (nat_lit 228,xR P) ::
 (nat_lit 230,xQ P) ::
 (nat_lit 231,xP P) ::
 (nat_lit 232,xO P) ::
 (nat_lit 234,xM P) ::
 (nat_lit 235,xK P) ::
 (nat_lit 237,xJ P) ::
 (nat_lit 238,xH P) ::
 (nat_lit 239,xG P) ::
 (nat_lit 241,xu P) ::
 (nat_lit 242,xr P) ::
 (nat_lit 244,xq P) ::
 (nat_lit 245,xg P) ::
 (nat_lit 246,w5 P) ::
 (nat_lit 247,wZ P) ::
 (nat_lit 249,wY P) ::
 (nat_lit 250,wX P) ::
 (nat_lit 252,wW P) ::
 (nat_lit 253,wV P) ::
 (nat_lit 254,wU P) ::
 (nat_lit 256,wR P) ::
 (nat_lit 257,wQ P) ::
 (nat_lit 259,wO P) ::
 (nat_lit 260,wN P) ::
 (nat_lit 261,wM P) ::
 (nat_lit 263,wL P) ::
 (nat_lit 264,wK P) ::
 (nat_lit 266,wJ P) ::
 (nat_lit 267,wI P) ::
 (nat_lit 268,wH P) ::
 (nat_lit 270,wG P) ::
 (nat_lit 271,wF P) ::
 (nat_lit 273,wD P) ::
 (nat_lit 274,wC P) ::
 (nat_lit 275,wB P) ::
 (nat_lit 277,wA P) ::
 (nat_lit 278,wz P) ::
 (nat_lit 280,wu P) ::
 (nat_lit 281,wk P) ::
 (nat_lit 282,wj P) ::
 (nat_lit 284,wg P) ::
 (nat_lit 285,v9 P) ::
 (nat_lit 287,v8 P) ::
 (nat_lit 288,v7 P) ::
 (nat_lit 289,vZ P) ::
 (nat_lit 292,vY P) ::
 (nat_lit 293,vX P) ::
 (nat_lit 294,vW P) ::
 (nat_lit 296,vV P) ::
 (nat_lit 297,vU P) ::
 (nat_lit 299,vR P) ::
 (nat_lit 300,vQ P) ::
 (nat_lit 301,vP P) ::
 (nat_lit 303,vO P) ::
 (nat_lit 304,vN P) ::
 (nat_lit 306,vM P) ::
 (nat_lit 307,vL P) ::
 (nat_lit 308,vK P) ::
 (nat_lit 310,vJ P) ::
 (nat_lit 311,vI P) ::
 (nat_lit 313,vH P) ::
 (nat_lit 314,vG P) ::
 (nat_lit 315,vD P) ::
 (nat_lit 317,vC P) ::
 (nat_lit 318,vB P) ::
 (nat_lit 320,vA P) ::
 (nat_lit 321,vq P) ::
 (nat_lit 322,vp P) ::
 (nat_lit 324,vo P) ::
 (nat_lit 325,vm P) ::
 (nat_lit 327,vh P) ::
 (nat_lit 328,vg P) ::
 (nat_lit 329,vf P) ::
 (nat_lit 330,vd P) ::
 (nat_lit 331,Ip P) ::
 (nat_lit 332,u9 P) ::
 (nat_lit 333,u6 P) ::
 (nat_lit 336,Io P) ::
 (nat_lit 343,Im P) ::
 (nat_lit 345,Il P) ::
 (nat_lit 346,Ik P) ::
 (nat_lit 348,Ij P) ::
 (nat_lit 349,Ii P) ::
 (nat_lit 350,Ih P) ::
 (nat_lit 351,Ig P) ::
 (nat_lit 353,Ie P) ::
 (nat_lit 354,Ib P) ::
 (nat_lit 356,Ia P) ::
 (nat_lit 357,HY P) ::
 (nat_lit 358,HX P) ::
 (nat_lit 360,HW P) ::
 (nat_lit 361,HS P) ::
 (nat_lit 363,HN P) ::
 (nat_lit 364,HJ P) ::
 (nat_lit 365,HF P) ::
 (nat_lit 367,HD P) ::
 (nat_lit 368,HB P) ::
 (nat_lit 370,Hz P) ::
 (nat_lit 371,Hy P) ::
 (nat_lit 372,Hx P) ::
 (nat_lit 375,Hw P) ::
 (nat_lit 376,Hv P) ::
 (nat_lit 377,Hu P) ::
 (nat_lit 378,Ht P) ::
 (nat_lit 380,Hs P) ::
 (nat_lit 381,Hr P) ::
 (nat_lit 383,Hq P) ::
 (nat_lit 384,Ho P) ::
 (nat_lit 385,Hl P) ::
 (nat_lit 387,Hj P) ::
 (nat_lit 388,Hi P) ::
 (nat_lit 390,Hh P) ::
 (nat_lit 391,Hg P) ::
 (nat_lit 392,G9 P) ::
 (nat_lit 394,G8 P) ::
 (nat_lit 395,G7 P) ::
 (nat_lit 397,G6 P) ::
 (nat_lit 398,G5 P) ::
 (nat_lit 399,G4 P) ::
 (nat_lit 401,G3 P) ::
 (nat_lit 402,GZ P) ::
 (nat_lit 404,GX P) ::
 (nat_lit 405,GR P) ::
 (nat_lit 406,GQ P) ::
 (nat_lit 408,GP P) ::
 (nat_lit 409,GK P) ::
 (nat_lit 411,GJ P) ::
 (nat_lit 412,GF P) ::
 (nat_lit 413,GD P) ::
 (nat_lit 416,GC P) ::
 (nat_lit 417,Gz P) ::
 (nat_lit 418,Gy P) ::
 (nat_lit 419,Gx P) ::
 (nat_lit 420,Gw P) ::
 (nat_lit 423,Gv P) ::
 (nat_lit 425,Gu P) ::
 (nat_lit 426,Gs P) ::
 (nat_lit 428,Gq P) ::
 (nat_lit 429,Gp P) ::
 (nat_lit 430,Gn P) ::
 (nat_lit 432,Gm P) ::
 (nat_lit 433,Gk P) ::
 (nat_lit 435,Gj P) ::
 (nat_lit 436,Gi P) ::
 (nat_lit 437,Gh P) ::
 (nat_lit 439,Gg P) ::
 (nat_lit 440,Gf P) ::
 (nat_lit 442,Ge P) ::
 (nat_lit 443,Gd P) ::
 (nat_lit 444,Gb P) ::
 (nat_lit 447,Ga P) ::
 (nat_lit 448,FZ P) ::
 (nat_lit 449,FW P) ::
 (nat_lit 451,FT P) ::
 (nat_lit 452,FQ P) ::
 (nat_lit 454,FP P) ::
 (nat_lit 455,FN P) ::
 (nat_lit 456,FJ P) ::
 (nat_lit 458,Fy P) ::
 (nat_lit 459,Fx P) ::
 (nat_lit 461,Fw P) ::
 (nat_lit 462,Fv P) ::
 (nat_lit 463,Ft P) ::
 (nat_lit 465,Fq P) ::
 (nat_lit 466,Fp P) ::
 (nat_lit 468,Fo P) ::
 (nat_lit 469,Fl P) ::
 (nat_lit 470,Fj P) ::
 (nat_lit 472,Fi P) ::
 (nat_lit 473,Fg P) ::
 (nat_lit 475,Fe P) ::
 (nat_lit 476,Fd P) ::
 (nat_lit 477,Fb P) ::
 (nat_lit 479,EY P) ::
 (nat_lit 480,Ez P) ::
 (nat_lit 482,Ey P) ::
 (nat_lit 483,Ew P) ::
 (nat_lit 484,Eu P) ::
 (nat_lit 486,Et P) ::
 (nat_lit 487,Es P) ::
 (nat_lit 489,Er P) ::
 (nat_lit 490,Ep P) ::
 (nat_lit 491,Eo P) ::
 (nat_lit 493,En P) ::
 (nat_lit 494,Em P) ::
 (nat_lit 496,El P) ::
 (nat_lit 497,Ek P) ::
 (nat_lit 498,Ej P) ::
 (nat_lit 501,Ei P) ::
 (nat_lit 502,Eh P) ::
 (nat_lit 503,Ef P) ::
 (nat_lit 505,Ed P) ::
 (nat_lit 506,Eb P) ::
 (nat_lit 508,Ea P) ::
 (nat_lit 509,DY P) ::
 (nat_lit 510,DX P) ::
 (nat_lit 512,DW P) ::
 (nat_lit 513,DR P) ::
 (nat_lit 515,DQ P) ::
 (nat_lit 516,DP P) ::
 (nat_lit 517,DN P) ::
 (nat_lit 520,DK P) ::
 (nat_lit 521,DG P) :: []
def asK:List Addr:=[2,3,15,17,18,20,21,22,24,25,27,28,29,32,33,34,41,42,43,44,47,54,55,56,59,66,67,68,71,78,79,80,83,90,91,92,95,102,103,104,107,114,115,116,119,126,127,128,131,138,139,140,143,145,146,148,149,150,153,154,155,157,158,160,161,162,164,165,167,168,169,171,172,174,175,176,178,179,181,182,183,185,186,188,189,190,192,193,195,196,204,206,207,209,210,211,213,214,216,217,218,220,221,223,224,225,227,228,230,231,232,234,235,237,238,239,241,242,244,245,246,247,249,250,252,253,254,256,257,259,260,261,263,264,266,267,268,270,271,273,274,275,277,278,280,281,282,284,285,287,288,289,292,293,294,296,297,299,300,301,303,304,306,307,308,310,311,313,314,315,317,318,320,321,322,324,325,327,328,329,330,331,332,333,336,343,345,346,348,349,350,351,353,354,356,357,358,360,361,363,364,365,367,368,370,371,372,375,376,377,378,380,381,383,384,385,387,388,390,391,392,394,395,397,398,399,401,402,404,405,406,408,409,411,412,413,416,417,418,419,420,423,425,426,428,429,430,432,433,435,436,437,439,440,442,443,444,447,448,449,451,452,454,455,456,458,459,461,462,463,465,466,468,469,470,472,473,475,476,477,479,480,482,483,484,486,487,489,490,491,493,494,496,497,498,501,502,503,505,506,508,509,510,512,513,515,516,517,520,521]
theorem hkE:∀ P,asK=(Kf P).map (·.1):=fun _=>by kernel_rfl
def qv:Program:={ PySem.Challenge.pw_sluice_k62_ponds_put with main:={ PySem.Challenge.pw_sluice_k62_ponds_put.main with body:=[top0 52] } }
def rD:List Str:=("_wall":Str) :: ("MOST_WATER":Str) :: ("LONGEST_NAME":Str) :: ("LETTERS":Str) :: ("is_water":Str) :: ("is_name":Str) :: ("SluiceError":Str) :: ("NoRiver":Str) :: ("NoLicence":Str) :: ("NoNumber":Str) :: ("NoHolder":Str) :: ("NotYours":Str) :: ("TooMuch":Str) :: ("Full":Str) :: ("NoPond":Str) :: ("MOST_REACHES":Str) :: ("MOUTH":Str) :: ("comes_to_mouth":Str) :: ("is_river":Str) :: ("way_of":Str) :: ("LAST_DAY":Str) :: ("is_licence":Str) :: ("gives_back":Str) :: ("most_of":Str) :: ("with_most":Str) :: ("WHOLE":Str) :: ("MOST_LICENCES":Str) :: ("look_at_name":Str) :: ("Roll":Str) :: ("MOST_PONDS":Str) :: ("Book":Str) :: ("_law_cell_at":Str) :: ("_law_whole":Str) :: ("_law_pebble":Str) :: ("_law_pebbles":Str) :: ("_law_river":Str) :: ("_law_name":Str) :: ("_law_filed":Str) :: ("_law_bounded":Str) :: ("_law_sold":Str) :: ("_law_sold_on":Str) :: ("_law_wish":Str) :: ("_law_due":Str) :: ("_law_put":Str) :: ("_law_stands":Str) :: []
end
theorem hp1:∀ w:World,(PySem.W.fencedOpening PySem.treeTable PySem.Challenge.rw_sluice_k62_ponds_put.row.toRowW.prog w 8492).map (fun s=>(s.heap,s.gens,s.drawn,s.toks))=some (H0 w.params,#[],{},181):=by
  intro w;kernel_rfl
theorem hp2:∀ w:World,((H0 w.params).isNs mainGlobals && (#[]:Array GenState).size == 0,(H0 w.params).objs.size,(H0 w.params).nsMap mainGlobals "__annotations__")=(true,11,some (Value.ref 6)):=by
  intro w;kernel_rfl
def evT:Env:={ scope:=PySem.Challenge.rw_sluice_k62_ponds_put.row.toRowW.prog.main.scope,locals:=mainNs,globals:=mainNs,cells:=[],code:=Value.ref 13,frame:=some 14 }
def cT:Code:=.body (PySem.W.behindTheImports PySem.Challenge.rw_sluice_k62_ponds_put.row.toRowW.prog) evT
theorem hp3a:∀ (w:World) (os:OsState),PySem.W.topGo PySem.treeTable PySem.Challenge.rw_sluice_k62_ponds_put.row.toRowW.prog w 11 (some (Value.ref 6)) 12 ⟨H0 w.params,#[],{},181,os⟩ (PySem.W.topStub PySem.Challenge.rw_sluice_k62_ponds_put.row.toRowW.prog)=some (⟨Ha w.params,#[],{},187,os⟩,⟨denote PySem.treeTable cT,cT,({ line:=0,col:=0,endLine:=0,endCol:=0 }:Pos),[PySem.W.topFrame ({ line:=0,col:=0,endLine:=0,endCol:=0 }:Pos)]⟩):=by
  intro w os;kernel_rfl
theorem hp3b:∀ (w:World) (os:OsState),PySem.W.segRun PySem.treeTable PySem.Challenge.rw_sluice_k62_ponds_put.row.toRowW.prog w 11 (some (Value.ref 6)) 1 20 ⟨Ha w.params,#[],{},187,os⟩ (PySem.W.blockOf (PySem.W.behindTheImports PySem.Challenge.rw_sluice_k62_ponds_put.row.toRowW.prog) evT cT ({ line:=0,col:=0,endLine:=0,endCol:=0 }:Pos) [PySem.W.topFrame ({ line:=0,col:=0,endLine:=0,endCol:=0 }:Pos)])=some (.next,⟨Hb w.params,#[],{},187,os⟩,cT,({ line:=0,col:=0,endLine:=0,endCol:=0 }:Pos)):=by
  intro w os;kernel_rfl
theorem hp3c:∀ (w:World) (os:OsState),PySem.W.segRun PySem.treeTable PySem.Challenge.rw_sluice_k62_ponds_put.row.toRowW.prog w 11 (some (Value.ref 6)) 1 3313 ⟨Hb w.params,#[],{},187,os⟩ (PySem.W.piecesOf ((PySem.W.behindTheImports PySem.Challenge.rw_sluice_k62_ponds_put.row.toRowW.prog).take 34) evT cT ({ line:=0,col:=0,endLine:=0,endCol:=0 }:Pos) [PySem.W.topFrame ({ line:=0,col:=0,endLine:=0,endCol:=0 }:Pos)])=some (.next,⟨Hm w.params,#[],{},623,os⟩,cT,({ line:=71,col:=0,endLine:=158,endCol:=67 }:Pos)):=by
  intro w os;kernel_rfl
theorem hp3d:∀ (w:World) (os:OsState),PySem.W.topRun PySem.treeTable PySem.Challenge.rw_sluice_k62_ponds_put.row.toRowW.prog w 11 (some (Value.ref 6)) 1270 ⟨Hm w.params,#[],{},623,os⟩ (PySem.W.restOf ((PySem.W.behindTheImports PySem.Challenge.rw_sluice_k62_ponds_put.row.toRowW.prog).drop 34) evT cT ({ line:=71,col:=0,endLine:=158,endCol:=67 }:Pos) [PySem.W.topFrame ({ line:=0,col:=0,endLine:=0,endCol:=0 }:Pos)])=some ⟨H1 w.params,#[],{},890,os⟩:=by
  intro w os;kernel_rfl
theorem hp3:∀ (w:World) (os:OsState),PySem.W.topRun PySem.treeTable PySem.Challenge.rw_sluice_k62_ponds_put.row.toRowW.prog w 11 (some (Value.ref 6)) (12 + (20 + (3313 + 1270))) ⟨H0 w.params,#[],{},181,os⟩ (PySem.W.topStub PySem.Challenge.rw_sluice_k62_ponds_put.row.toRowW.prog)=some ⟨H1 w.params,#[],{},890,os⟩:=fun w os=>PySem.W.go_top (hp3a w os) (PySem.W.piece_block (hp3b w os) (by
  have h:=PySem.W.piece_app (hp3c w os) (hp3d w os)
  rwa [List.take_append_drop] at h))
theorem hp4:∀ w:World,(fun os=>((PySem.W.staticsOk (importedModules PySem.Challenge.rw_sluice_k62_ponds_put.row.toRowW.prog.main.body) (H0 w.params) (H1 w.params) && PySem.W.namesBound PySem.Challenge.rw_sluice_k62_ponds_put.row.toRowW.prog (H1 w.params) && PySem.W.gensDone ⟨H1 w.params,#[],{},890,os⟩ && PySem.W.laidKept (H0 w.params) (H1 w.params)),PySem.W.openSeen qv rD (importedModules PySem.Challenge.rw_sluice_k62_ponds_put.row.toRowW.prog.main.body) (fun s=>PySem.W.xlAt My.qv [] s && PySem.W.recOk (PySem.W.RowW.records PySem.Challenge.rw_sluice_k62_ponds_put.row.toRowW) s) true ⟨H1 w.params,#[],{},890,os⟩,(PySem.W.Hook.obs (PySem.W.kHook My.Kf My.asK My.hkE)) ⟨H1 w.params,#[],{},890,os⟩))=fun _=>(true,PySem.W.openGood qv rD,(PySem.W.Hook.val (PySem.W.kHook My.Kf My.asK My.hkE)) w):=by
  intro w;kernel_rfl
theorem hlE:PySem.W.LeftO PySem.Challenge.rw_sluice_k62_ponds_put.row.toRowW.prog qv My.rD (fun s=>PySem.W.xlAt My.qv [] s && PySem.W.recOk (PySem.W.RowW.records PySem.Challenge.rw_sluice_k62_ponds_put.row.toRowW) s) (PySem.W.Hook.obs (PySem.W.kHook My.Kf My.asK My.hkE)) (PySem.W.Hook.val (PySem.W.kHook My.Kf My.asK My.hkE)) 8492:=PySem.W.LeftO.of_pieces hp1 hp2 hp3 (by decide) hp4
end My
namespace L2
open PySem PySem.Spec PyProof.Rows
abbrev Key:=Sum Int Str
def Ql:Key→Value→Bool
  | .inl k,v=>Value.isInt k v
  | .inr x,v=>Value.isStrOf x v
def keyH (w:World):Key→Int
  | .inl k=>hashInt k
  | .inr x=>hashStr w x
theorem dR:∀ {k:Key} {v:Value},Ql k v=true→(∃ i t,k=Sum.inl i∧v=Value.int i t)∨(∃ x t,k=Sum.inr x∧v=Value.str x t)
  | .inl i,v,h=>by
    obtain ⟨t,e⟩:=Value.isInt_shape (k:=i) (v:=v) h
    exact .inl ⟨i,t,rfl,e⟩
  | .inr x,v,h=>by
    obtain ⟨t,e⟩:=Value.isStrOf_shape (x:=x) (v:=v) h
    exact .inr ⟨x,t,rfl,e⟩
theorem Qk (a b:Int):decide ((Sum.inl a:Key)=Sum.inl b)=(a == b):=by
  by_cases e:a=b
  · subst e;simp
  · have h:¬ (Sum.inl a:Key)=Sum.inl b:=fun q=>e (Sum.inl.inj q)
    rw [decide_eq_false h]
    exact (beq_eq_false_iff_ne.mpr e).symm
theorem Qh (a b:Str):decide ((Sum.inr a:Key)=Sum.inr b)=decide (a=b):=by
  by_cases e:a=b
  · subst e;simp
  · have h:¬ (Sum.inr a:Key)=Sum.inr b:=fun q=>e (Sum.inr.inj q)
    rw [decide_eq_false h,decide_eq_false e]
theorem Qj (a:Int) (b:Str):decide ((Sum.inl a:Key)=Sum.inr b)=false:=decide_eq_false (fun q=>nomatch q)
theorem Qi (a:Str) (b:Int):decide ((Sum.inr a:Key)=Sum.inl b)=false:=decide_eq_false (fun q=>nomatch q)
def uW (prog:Program) (w:World):PySem.KeyKind prog w Key where
  is:=Ql
  hash:=keyH w
  inj:=fun v a b ha hb=>by
    rcases dR ha with ⟨i,t,rfl,rfl⟩ | ⟨x,t,rfl,rfl⟩
    · rcases dR hb with ⟨j,u,rfl,e⟩ | ⟨y,u,rfl,e⟩
      · injection e with e1 _;rw [e1]
      · exact nomatch e
    · rcases dR hb with ⟨j,u,rfl,e⟩ | ⟨y,u,rfl,e⟩
      · exact nomatch e
      · injection e with e1 _;rw [e1]
  byValue:=fun k v h=>by
    rcases dR h with ⟨i,t,rfl,rfl⟩ | ⟨x,t,rfl,rfl⟩ <;> rfl
  pyHash:=fun hv h=>by
    rcases dR hv with ⟨i,t,rfl,rfl⟩ | ⟨x,t,rfl,rfl⟩
    · exact wpAny_pyHash_int h
    · exact wpAny_pyHash_str h
  eqBool:=fun hu hv h=>by
    rcases dR hu with ⟨i,t,rfl,rfl⟩ | ⟨x,t,rfl,rfl⟩
    · rcases dR hv with ⟨j,u,rfl,rfl⟩ | ⟨y,u,rfl,rfl⟩
      · rw [Qk] at h;exact wpAny_eqBool_int h
      · rw [Qj] at h;exact SeqAt.EqAt.int_str i t y u _ _ _ _ h
    · rcases dR hv with ⟨j,u,rfl,rfl⟩ | ⟨y,u,rfl,rfl⟩
      · rw [Qi] at h;exact SeqAt.EqAt.str_int x t j u _ _ _ _ h
      · rw [Qh] at h;exact wpAny_eqBool_str h
  «strs»:=fun k x t v h=>by
    rcases dR h with ⟨i,u,rfl,e⟩ | ⟨y,u,rfl,e⟩
    · exact nomatch e
    · injection e with e1 _
      subst e1
      cases v <;> rfl
end L2
namespace L2
open PySem PySem.Spec PyProof.Rows
inductive V where
  | non | bl (b:Bool) | int (i:Int) | str (x:Str) | byt (b:Array UInt8) | flt (b:UInt64) | ref (a:Addr) | ty (n:String)
  deriving DecidableEq
def RelV:V→Value→Prop
  | .non,u=>u=Value.none
  | .bl b,u=>u=Value.bool b
  | .int i,u=>∃ t,u=Value.int i t
  | .str x,u=>∃ t,u=Value.str x t
  | .byt b,u=>∃ t,u=Value.bytes b t
  | .flt b,u=>∃ t,u=Value.float b t
  | .ref a,u=>u=Value.ref a
  | .ty n,u=>u=Value.type n
abbrev Vals:List V→List Value→Prop:=Paired RelV
theorem Vals.length {xs:List V} {us:List Value} (r:Vals xs us):xs.length=us.length:=Paired.length r
theorem Vals.get:∀ {xs:List V} {us:List Value} {i:Nat} {x:V},Vals xs us→xs[i]?=some x→∃ u,us[i]?=some u∧RelV x u
  | _,_,_,_,.nil,e=>by simp at e
  | _,_,0,_,.cons r _,e=>by simp at e;subst e;exact ⟨_,rfl,r⟩
  | _,_,i + 1,x,.cons _ t,e=>by
    obtain ⟨u,h1,h2⟩:=Vals.get (i:=i) (x:=x) t (by simpa using e)
    exact ⟨u,by simpa using h1,h2⟩
theorem Vals.set {x:V} {u:Value} (r:RelV x u):∀ {xs:List V} {us:List Value} (i:Nat),Vals xs us→Vals (xs.set i x) (us.set i u)
  | _,_,_,.nil=>.nil
  | _,_,0,.cons _ t=>.cons r t
  | _,_,i + 1,.cons q t=>.cons q (Vals.set r i t)
theorem Vals.append:∀ {xs ys:List V} {us ws:List Value},Vals xs us→Vals ys ws→Vals (xs++ys) (us++ws)
  | _,_,_,_,.nil,s=>s
  | _,_,_,_,.cons r t,s=>.cons r (Vals.append t s)
theorem Vals.take:∀ {xs:List V} {us:List Value} (n:Nat),Vals xs us→Vals (xs.take n) (us.take n)
  | _,_,0,_=>.nil
  | _,_,_ + 1,.nil=>.nil
  | _,_,n + 1,.cons r t=>.cons r (Vals.take n t)
theorem Vals.drop:∀ {xs:List V} {us:List Value} (n:Nat),Vals xs us→Vals (xs.drop n) (us.drop n)
  | _,_,0,r=>r
  | _,_,_ + 1,.nil=>.nil
  | _,_,n + 1,.cons _ t=>Vals.drop n t
def Av:Option V→Option Value→Prop
  | some v,some u=>RelV v u
  | none,none=>True
  | _,_=>False
def KV {κ:Type}:List (κ × V)→List (κ × Value)→Prop:=Paired fun (p:κ × V) (q:κ × Value)=>p.1=q.1∧RelV p.2 q.2
def kV:Key→V
  | .inl i=>.int i
  | .inr x=>.str x
inductive HO where
  /-- a list -/
  | lst (xs:List V)
  /-- a tuple (never changes) -/
  | tup (xs:List V)
  /-- a dict whose keys are ints and texts; one whose keys are tuples of ints and texts (the empty one is both) -/
  | dK (kvs:List (Key × V)) | dT (kvs:List (List Key × V))
  /-- a set of ints: its members, its size -/
  | set (S:Int→Bool) (n:Nat)
  /-- an instance of the class at C, its dict at dx, its attributes -/
  | ins (C dx:Addr) (fs:List (Str × V))
  /-- the dict of the instance at x -/
  | own (x:Addr)
  /-- the dict of an exception -/
  | xd (fs:List (Str × V))
  /-- a bound method, f of x -/
  | met (f x:Addr)
  /-- a range object lo, lo + 1, .. below hi -/
  | rng (lo hi:Int)
  /-- a thing that is known to the object (the script; a dict while a loop walks it): read, never written while it is so -/
  | frz (o:Obj) (u:HO)
  /-- a code object's table -/
  | tbl (ps:Array Value)
  /-- any other thing, by what is true of its one object (a def of one's own: SetO a S n := HO.ext fun h => ..) -/
  | ext (φ:Heap→Prop)
abbrev Hp:=Addr→Option HO
def upd (H:Hp) (a:Addr) (o:HO):Hp:=fun b=>if b=a then some o else H b
theorem aZ {H:Hp} {a:Addr} {o:HO}:upd H a o a=some o:=by unfold upd;rw [if_pos rfl]
theorem aL {H:Hp} {a b:Addr} {o:HO} (h:b≠a):upd H a o b=H b:=by unfold upd;rw [if_neg h]
theorem aQ {H:Hp} {a b:Addr} {o:HO} (h:H a=some o) (h':H b=none):a≠b:=by
  intro e;subst e;rw [h] at h';cases h'
section
variable (P:Program) (w:World)
def iy (H:Hp) (h:Heap) (a:Addr):HO→Prop
  | .lst xs=>xs.length≤sizeLine∧∃ (its:List Value) (n:Nat),Vals xs its∧h.get? a=some { cls:=.type "list",data:=.seq its.toArray n }
  | .tup xs=>xs.length≤sizeLine∧∃ its:List Value,Vals xs its∧IsTup h a its.toArray
  | .dK kvs=>kvs.length≤sizeLine∧(a == sysModules)=false∧∃ vs,KV kvs vs∧h.DictOf (uW P w) a vs
  | .dT kvs=>kvs.length≤sizeLine∧(a == sysModules)=false∧∃ xs:List (List Key × Addr × Value),
      Paired (fun (p:List Key × V) (q:List Key × Addr × Value)=>p.1=q.1∧H q.2.1=some (.tup (p.1.map kV))∧RelV p.2 q.2.2) kvs xs ∧
      ∃ o es ep,h.get? a=some o∧o.ExactDict∧o.data=.dict es ep∧es.toList=xs.map (entryOfKey (tupleKind (uW P w)))∧(xs.map (·.1)).Nodup
  | .set S n=>h.SetOf (intKind P w) a S n
  | .ins C dx fs=>H dx=some (.own a)∧fs.length≤1000∧dx≠a∧h.get? a=some (PySem.W.instObj C dx) ∧
      ∃ mA,h.Ns1 dx mA∧(∀ f,Av (fs.lookup f) (mA f))∧PySem.Within mA (fs.map (·.1))
  | .own _=>∃ o,h.get? a=some o
  | .xd fs=>∃ mA,h.Ns1 a mA∧∀ f,Av (fs.lookup f) (mA f)
  | .rng lo hi=>∃ t u v,h.get? a=some { cls:=.type "range",data:=.fields #[.int lo t,.int hi u,.int 1 v] }
  | .frz o u=>h.get? a=some o∧iy H h a u
  | .tbl ps=>h.get? a=some { cls:=.none,data:=.fields ps }
  | .met f x=>h.get? a=some (PySem.W.methodObj (.ref f) (.ref x))
  | .ext φ=>φ h∧(∃ o,h.get? a=some o)∧∀ h1 h2:Heap,φ h1→(∀ o,h1.get? a=some o→h2.get? a=some o)→φ h2
def HOk (H:Hp) (h:Heap):Prop:=∀ a o,H a=some o→iy P w H h a o
end
section
variable {P:Program} {w:World} {H H':Hp} {h h':Heap} {a:Addr} {o:HO}
theorem iy.lt (x:iy P w H h a o):a<h.objs.size:=by
  cases o with
  | lst xs=>obtain ⟨_,_,_,_,e⟩:=x;exact Heap.lt_size e
  | tup xs=>obtain ⟨_,_,_,p⟩:=x;exact p.lt
  | dK kvs=>obtain ⟨_,_,_,_,o,_,_,e,_⟩:=x;exact Heap.lt_size e
  | dT kvs=>obtain ⟨_,_,_,_,o,_,_,e,_⟩:=x;exact Heap.lt_size e
  | set S n=>obtain ⟨o,_,_,_,e,_⟩:=x;exact Heap.lt_size e
  | ins C dx fs=>obtain ⟨_,_,_,e,_⟩:=x;exact Heap.lt_size e
  | own y=>obtain ⟨_,e⟩:=x;exact Heap.lt_size e
  | xd fs=>obtain ⟨_,⟨_,_,_,e,_⟩,_⟩:=x;exact Heap.lt_size e
  | rng lo hi=>obtain ⟨_,_,_,e⟩:=x;exact Heap.lt_size e
  | frz ob u=>obtain ⟨e,_⟩:=x;exact Heap.lt_size e
  | tbl ps=>exact Heap.lt_size (show h.get? a=some _ from x)
  | met f y=>exact Heap.lt_size (show h.get? a=some _ from x)
  | ext φ=>obtain ⟨_,⟨_,e⟩,_⟩:=x;exact Heap.lt_size e
theorem Paired.Vn {α β:Type} {F G:α→β→Prop}:∀ {l₁:List α} {l₂:List β},Paired F l₁ l₂→(∀ a b,F a b→G a b)→Paired G l₁ l₂
  | _,_,.nil,_=>.nil
  | _,_,.cons r t,f=>.cons (f _ _ r) (Paired.Vn t f)
theorem iy.stay (x:iy P w H h a o) (k:∀ b u,(b=a∨H b=some (.own a))→h.get? b=some u→h'.get? b=some u)
    (ho:∀ b,H b=some (.own a)→H' b=some (.own a)) (ht:∀ b xs,H b=some (.tup xs)→H' b=some (.tup xs)):iy P w H' h' a o:=by
  induction o with
  | lst xs=>obtain ⟨z,its,n,r,e⟩:=x;exact ⟨z,its,n,r,k _ _ (.inl rfl) e⟩
  | tup xs=>obtain ⟨z,its,r,ob,e,c⟩:=x;exact ⟨z,its,r,ob,k _ _ (.inl rfl) e,c⟩
  | dK kvs=>obtain ⟨z,y,vs,r,ob,es,ep,e,c⟩:=x;exact ⟨z,y,vs,r,ob,es,ep,k _ _ (.inl rfl) e,c⟩
  | dT kvs =>
    obtain ⟨z,y,xs,r,ob,es,ep,e,c⟩:=x
    exact ⟨z,y,xs,Paired.Vn r fun p q z=>⟨z.1,ht _ _ z.2.1,z.2.2⟩,ob,es,ep,k _ _ (.inl rfl) e,c⟩
  | set S n=>obtain ⟨ob,es,ep,t,e,c⟩:=x;exact ⟨ob,es,ep,t,k _ _ (.inl rfl) e,c⟩
  | ins C dx fs =>
    obtain ⟨d,z,ne,e,mA,⟨od,es,ep,e2,c⟩,r⟩:=x
    exact ⟨ho _ d,z,ne,k _ _ (.inl rfl) e,mA,⟨od,es,ep,k _ _ (.inr d) e2,c⟩,r⟩
  | own y=>obtain ⟨ob,e⟩:=x;exact ⟨ob,k _ _ (.inl rfl) e⟩
  | xd fs=>obtain ⟨mA,⟨od,es,ep,e,c⟩,r⟩:=x;exact ⟨mA,⟨od,es,ep,k _ _ (.inl rfl) e,c⟩,r⟩
  | rng lo hi=>obtain ⟨t,u,v,e⟩:=x;exact ⟨t,u,v,k _ _ (.inl rfl) e⟩
  | frz ob u ih=>obtain ⟨e,q⟩:=x;exact ⟨k _ _ (.inl rfl) e,ih q⟩
  | tbl ps =>
    have e:h.get? a=some { cls:=.none,data:=.fields ps }:=x
    show h'.get? a=some { cls:=.none,data:=.fields ps }
    exact k a _ (.inl rfl) e
  | met f y =>
    have e:h.get? a=some (PySem.W.methodObj (.ref f) (.ref y)):=x
    show h'.get? a=some (PySem.W.methodObj (.ref f) (.ref y))
    exact k a _ (.inl rfl) e
  | ext φ=>obtain ⟨p,⟨o,e⟩,st⟩:=x;exact ⟨st _ _ p fun o q=>k _ _ (.inl rfl) q,⟨o,k _ _ (.inl rfl) e⟩,st⟩
theorem HOk.lt (x:HOk P w H h) (e:H a=some o):a<h.objs.size:=(x a o e).lt
theorem HOk.fresh (x:HOk P w H h) (e:h.objs.size≤a):H a=none:=by
  cases q:H a with
  | none=>rfl
  | some u=>exact absurd (Nat.lt_of_lt_of_le (x.lt q) e) (Nat.lt_irrefl _)
theorem HOk.kept (x:HOk P w H h) (k:∀ b u,h.get? b=some u→h'.get? b=some u):HOk P w H h':=fun a o e =>
  (x a o e).stay (fun b u _ q=>k b u q) (fun _ q=>q) fun _ _ q=>q
theorem HOk.laid (x:HOk P w H h) (k:∀ b u,h.get? b=some u→h'.get? b=some u) (hp:h.objs.size≤a) (new:iy P w (upd H a o) h' a o):HOk P w (upd H a o) h':=fun b u e=>by
  have hn:=x.fresh hp
  by_cases hb:b=a
  · subst hb;rw [aZ] at e;cases e;exact new
  · rw [aL hb] at e
    exact (x b u e).stay (fun c v _ q=>k c v q) (fun c q=>by rw [aL (aQ q hn)];exact q) fun c xs q=>by rw [aL (aQ q hn)];exact q
end
def Rd (H:Hp) (a:Addr) (u:HO):Prop:=H a=some u∨∃ o,H a=some (.frz o u)
theorem Rd.ok {P:Program} {w:World} {H:Hp} {h:Heap} {a:Addr} {u:HO} (r:Rd H a u) (x:HOk P w H h):iy P w H h a u:=by
  rcases r with r | ⟨o,r⟩
  · exact x a u r
  · obtain ⟨_,q⟩:=x a _ r
    exact q
def Mut:Option HO→Prop
  | some (.lst _)=>True
  | some (.dK _)=>True
  | some (.dT _)=>True
  | some (.set _ _)=>True
  | some (.ins _ _ _)=>True
  | some (.ext _)=>True
  | _=>False
section
variable {P:Program} {w:World} {H:Hp} {h h':Heap} {x e:Addr} {o':HO}
theorem HOk.write (ok:HOk P w H h) (mu:Mut (H x)) (he:e=x∨H e=some (.own x)) (k:∀ b u,b≠e→h.get? b=some u→h'.get? b=some u) (heo:∃ u,h'.get? e=some u)
    (new:iy P w (upd H x o') h' x o'):HOk P w (upd H x o') h':=fun b u q=>by
  have nown:∀ c y,H c=some (.own y)→c≠x:=fun c y r z=>by subst z;rw [r] at mu;exact mu
  have ntup:∀ c xs,H c=some (.tup xs)→c≠x:=fun c xs r z=>by subst z;rw [r] at mu;exact mu
  by_cases hb:b=x
  · subst hb;rw [aZ] at q;cases q;exact new
  · rw [aL hb] at q
    by_cases hbe:b=e
    · have q':H b=some (.own x):=by
        rcases he with z | z
        · exact absurd (hbe.trans z) hb
        · rw [hbe];exact z
      rw [q] at q';cases q'
      obtain ⟨v,hv⟩:=heo
      exact ⟨v,by rw [hbe];exact hv⟩
    · refine (ok b u q).stay (fun c v hc r=>k c v ?_ r) (fun c r=>by rw [aL (nown c b r)];exact r) fun c xs r=>by rw [aL (ntup c xs r)];exact r
      rcases hc with rfl | hc
      · exact hbe
      · rintro rfl
        rcases he with z | z
        · exact nown c b hc z
        · rw [hc] at z;cases z;exact hb rfl
end
structure Un (fs ex:List Addr) (H H':Hp) (h h':Heap):Prop where
  keep:∀ b o,h.get? b=some o→H b=none→b ∉ fs→b ∉ ex→h'.get? b=some o
  slot:∀ b o,h.get? b=some o→H b=none→b∈fs→b ∉ ex→∃ sl,h'.get? b=some { o with slots:=sl }
  free:∀ b o,h.get? b=some o→H b=none→b ∉ ex→H' b=none
  there:∀ b o,h.get? b=some o→b ∉ ex→∃ o',h'.get? b=some o'
  tups:∀ b xs,H b=some (.tup xs)→H' b=some (.tup xs)
  frzs:∀ b o u,H b=some (.frz o u)→H' b=some (.frz o u)
  tbls:∀ b ps,H b=some (.tbl ps)→∃ more,H' b=some (.tbl (ps++more))
section
variable {fs fs' ex ex':List Addr} {H H1 H2:Hp} {h h1 h2 h':Heap} {a x e:Addr} {o:HO}
theorem Un.any (u:Un fs ex H H1 h h1) {b:Addr} {ob:Obj} (q:h.get? b=some ob) (n:H b=none) (hx:b ∉ ex):∃ sl,h1.get? b=some { ob with slots:=sl }:=by
  by_cases hb:b∈fs
  · exact u.slot b ob q n hb hx
  · exact ⟨ob.slots,u.keep b ob q n hb hx⟩
theorem Un.kept (k:∀ b u,h.get? b=some u→h'.get? b=some u):Un fs ex H H h h' :=
  ⟨fun b ob q _ _ _=>k b ob q,fun b ob q _ _ _=>⟨ob.slots,k b ob q⟩,fun _ _ _ n _=>n,fun b ob q _=>⟨ob,k b ob q⟩,fun _ _ q=>q,fun _ _ _ q=>q,fun _ ps q=>⟨#[],by rw [q];simp⟩⟩
theorem Un.refl:Un fs ex H H h h:=Un.kept fun _ _ q=>q
theorem Un.laid (k:∀ b u,h.get? b=some u→h'.get? b=some u) (hp:h.objs.size≤a) (hn:H a=none):Un fs ex H (upd H a o) h h' where
  keep:=fun b u q _ _ _=>k b u q
  slot:=fun b u q _ _ _=>⟨u.slots,k b u q⟩
  free:=fun b u q n _=>by rw [aL (Nat.ne_of_lt (Nat.lt_of_lt_of_le (Heap.lt_size q) hp))];exact n
  there:=fun b u q _=>⟨u,k b u q⟩
  tups:=fun b xs q=>by rw [aL (aQ q hn)];exact q
  frzs:=fun b u xs q=>by rw [aL (aQ q hn)];exact q
  tbls:=fun b ps q=>⟨#[],by rw [aL (aQ q hn),q];simp⟩
theorem Un.write (mu:Mut (H x)) (he:e=x∨H e=some (.own x)) (k:∀ b u,b≠e→h.get? b=some u→h'.get? b=some u) (heo:∃ u,h'.get? e=some u):Un fs ex H (upd H x o) h h':=by
  have hx:∀ b,H b=none→b≠x:=fun b n z=>by subst z;rw [n] at mu;exact mu
  have hb:∀ b,H b=none→b≠e:=fun b n z=>by
    subst z
    rcases he with r | r
    · exact hx b n r
    · rw [n] at r;cases r
  have hm:∀ b u,H b=some u→¬ Mut (some u)→b≠x:=fun b u q nm z=>by subst z;rw [q] at mu;exact nm mu
  refine ⟨fun b u q n _ _=>k b u (hb b n) q,fun b u q n _ _=>⟨u.slots,k b u (hb b n) q⟩,fun b u q n _=>by rw [aL (hx b n)];exact n,fun b u q _=>?_,
    fun b xs q=>by rw [aL (hm b _ q fun z=>z)];exact q,fun b u xs q=>by rw [aL (hm b _ q fun z=>z)];exact q,fun b ps q=>⟨#[],by rw [aL (hm b _ q fun z=>z),q];simp⟩⟩
  by_cases hbe:b=e
  · subst hbe;exact heo
  · exact ⟨u,k b u hbe q⟩
end
def trk (h:Heap) (H:Hp):List Addr:=(List.range h.objs.size).filter fun a=>(H a).isSome
def Ck (h:Heap) (H:Hp):Heap:=PySem.W.hideAll h (trk h H)
theorem z6 (h:Heap) (H:Hp):(Ck h H).objs.size=h.objs.size:=PySem.W.hideAll_size _ _
theorem Cj {h:Heap} {H:Hp} {b:Addr} {o:Obj} (e:h.get? b=some o) (n:H b=none):(Ck h H).get? b=some o :=
  PySem.W.hideAll_get _ e fun hm=>by
    have q:(H b).isSome=true:=(List.mem_filter.mp hm).2
    rw [n] at q;simp at q
theorem Mt {h:Heap} {H:Hp} {b:Addr} {o:Obj} (e:(Ck h H).get? b=some o):h.get? b=some o∧H b=none:=by
  have e':h.get? b=some o:=PySem.W.of_hideAll (trk h H) e
  refine ⟨e',?_⟩
  cases q:H b with
  | none=>rfl
  | some x =>
    have hm:b∈trk h H:=List.mem_filter.mpr ⟨List.mem_range.mpr (Heap.lt_size e'),by simp [q]⟩
    have z:(Ck h H).get? b=none:=PySem.W.hideAll_none (trk h H) hm
    rw [z] at e;cases e
end L2
namespace L2
open PySem PySem.Spec PyProof.Rows
structure Mod (K:PySem.W.Frag) (mg:Str→Option Value) (base:Heap):Prop where
  kin:K.In base
  glob:base.Ns mainGlobals mg
  blt:∃ mb,base.Ns builtinsNs mb∧∀ x:Str,x≠"__name__"→mb x=bootBuiltins x
  nolimit:base.NoLimit
structure Cx where
  prog:Program
  w:World
  K:PySem.W.Frag
  mg:Str→Option Value
  base:Heap
  A:Around
  N:List Str
  s₀:Shared
  H₀:Hp
  env:Env
  outer:List Env
  stack:List Env
  ex:List Addr
  fn:Str→Bool
  calm:Bool
  pn:List (Addr × Obj)
  xe:Value→Shared→Prop
def frs (l:List Env):List Addr:=l.filterMap (·.frame)
abbrev Cx.fs (X:Cx):List Addr:=frs X.outer
def Vis (sc:Scope) (x:Str):Prop:=sc.names.lookup x=some .local∨sc.names.lookup x=some .cell∨sc.names.lookup x=some .free
def Loc (sc:Scope) (x:Str):Prop:=sc.names.lookup x=some .local∨sc.names.lookup x=some .cell
def Look (env:Env) (h:Heap) (m:Str→Option Value) (x:Str) (u:Value):Prop :=
  (env.kindOf x=some .local∧m x=some u)∨((env.kindOf x=some .cell∨env.kindOf x=some .free)∧∃ c,env.cells.lookup x=some c∧h.IsCell c (some u))
structure Cx.Ok (X:Cx):Prop where
  mod:Mod X.K X.mg X.base
  kind:X.env.scope.kind=.function
  glob:X.env.globals=mainGlobals
  blt:X.env.builtins=builtinsNs
  above:X.s₀.heap.objs.size≤X.env.locals
  inj:∀ x y c,X.env.cells.lookup x=some c→X.env.cells.lookup y=some c→x=y
  has:∀ x,(X.env.kindOf x=some .cell∨X.env.kindOf x=some .free)→∃ c,X.env.cells.lookup x=some c
  cab:∀ x c,X.fn x=true→X.env.cells.lookup x=some c→X.s₀.heap.objs.size≤c
  hd:X.calm=true→X.A.handled=none
  frames:X.A.frames=some X.stack
  stk:X.stack=X.outer∨(X.stack=X.env :: X.outer∧X.env.frame=some X.env.locals)
  exf:∀ b∈X.ex,b≠X.env.locals∧∀ x c,X.env.cells.lookup x=some c→c≠b
  bs:∀ b o,X.base.get? b=some o→X.s₀.heap.get? b=some o∧X.H₀ b=none
  bsz:X.base.objs.size≤X.s₀.heap.objs.size
  noex:∀ b o,X.base.get? b=some o→b ∉ X.ex
  exfs:∀ b∈X.ex,b ∉ X.fs
  rH:X.s₀.heap.FunFrames X.base X.outer
  frf:∀ b∈X.fs,X.H₀ b=none
structure Inv (X:Cx) (pins:List (Addr × Obj)) (σ:List (Option V)) (H:Hp) (s:Shared):Prop where
  ok:X.Ok
  os:s.os=X.s₀.os
  bare:AllBare s.gens
  base:Un X.fs X.ex X.H₀ H X.s₀.heap s.heap
  loc:∃ m,s.heap.Ns X.env.locals m∧∀ (i:Nat) (x:Str) (v:V),X.N[i]?=some x→σ[i]?=some (some v)→Vis X.env.scope x→∃ u,RelV v u∧Look X.env s.heap m x u
  cell:∀ x c,X.env.cells.lookup x=some c→∃ v,s.heap.IsCell c v
  free:H X.env.locals=none
  freeC:∀ x c,X.env.cells.lookup x=some c→H c=none
  pin:∀ p∈X.pn++pins,s.heap.get? p.1=some p.2∧H p.1=none∧p.1≠X.env.locals∧p.1 ∉ X.fs∧∀ v,p.2.data≠.cell v
  hok:HOk X.prog X.w H s.heap
  len:σ.length=X.N.length
section
variable {X:Cx} {pins:List (Addr × Obj)} {σ:List (Option V)} {H H':Hp} {s:Shared} {h':Heap}
theorem Cx.Ok.nofr (ok:X.Ok) {b:Addr} {o:Obj} (e:X.base.get? b=some o):b ∉ X.fs:=fun hb=>by
  have:=(ok.rH.mem hb).1
  rw [e] at this;cases this
theorem Inv.bs (I:Inv X pins σ H s):∀ b o,X.base.get? b=some o→s.heap.get? b=some o∧H b=none:=fun b o e =>
  ⟨I.base.keep b o (I.ok.bs b o e).1 (I.ok.bs b o e).2 (I.ok.nofr e) (I.ok.noex b o e),I.base.free b o (I.ok.bs b o e).1 (I.ok.bs b o e).2 (I.ok.noex b o e)⟩
theorem Inv.bk (I:Inv X pins σ H s):∀ b o,X.base.get? b=some o→s.heap.get? b=some o:=fun b o e=>(I.bs b o e).1
theorem Inv.mod (I:Inv X pins σ H s):Mod X.K X.mg X.base:=I.ok.mod
theorem Inv.kIn (I:Inv X pins σ H s):X.K.In s.heap:=I.ok.mod.kin.keeps I.bk
theorem Inv.lt (I:Inv X pins σ H s):X.env.locals<s.heap.objs.size:=let ⟨_,hn,_⟩:=I.loc;hn.lt
theorem Inv.sz (I:Inv X pins σ H s):X.s₀.heap.objs.size≤s.heap.objs.size:=Nat.le_trans I.ok.above (Nat.le_of_lt I.lt)
theorem Inv.nofs (I:Inv X pins σ H s) {a:Addr} (h:s.heap.objs.size≤a):a ∉ X.fs:=fun hb=>by
  obtain ⟨_,o,ho,_⟩:=I.ok.rH.mem hb
  exact absurd (Nat.lt_of_lt_of_le (Heap.lt_size ho) (Nat.le_trans I.sz h)) (Nat.lt_irrefl _)
theorem Inv.cne (I:Inv X pins σ H s):∀ x c,X.env.cells.lookup x=some c→c≠X.env.locals:=fun x c e z=>by
  obtain ⟨v,o,ho,hd⟩:=I.cell x c e
  obtain ⟨m,⟨o',es,ep,ho',hd',_⟩,_⟩:=I.loc
  rw [z,ho'] at ho;cases ho;rw [hd'] at hd;cases hd
theorem Inv.rH (I:Inv X pins σ H s):s.heap.FunFrames X.base X.outer:=by
  have all:∀ (l:List Env),(∀ b∈frs l,b∈X.fs)→X.s₀.heap.FunFrames X.base l→s.heap.FunFrames X.base l:=by
    intro l
    induction l with
    | nil=>intro _ _;trivial
    | cons env r ih =>
      intro hs hl
      obtain ⟨hk,⟨L,o,hf,hn,ho,hd⟩,hr⟩:=hl
      have hL:L∈X.fs:=hs L (by unfold frs;rw [List.filterMap_cons,hf];exact List.mem_cons_self)
      obtain ⟨sl,e⟩:=I.base.slot L o ho (I.ok.frf L hL) hL fun z=>I.ok.exfs L z hL
      exact ⟨hk,⟨L,_,hf,hn,e,hd⟩,ih (fun b hb=>hs b (by unfold frs;rw [List.filterMap_cons,hf];exact List.mem_cons_of_mem _ hb)) hr⟩
  exact all X.outer (fun _ hb=>hb) I.ok.rH
theorem Inv.stack (I:Inv X pins σ H s):s.heap.FunFrames X.base X.stack:=by
  rcases I.ok.stk with e | ⟨e,hf⟩
  · rw [e];exact I.rH
  · rw [e]
    obtain ⟨m,hn,_⟩:=I.loc
    refine .cons (by rw [I.ok.kind];decide) hf hn ?_ I.rH
    exact Heap.get?_none_of_le (Nat.le_trans I.ok.bsz I.ok.above)
theorem Inv.tX (I:Inv X pins σ H s):∀ b∈frs X.stack,b∈X.env.locals :: X.fs:=fun b hb=>by
  rcases I.ok.stk with e | ⟨e,hf⟩
  · rw [e] at hb;exact List.mem_cons_of_mem _ hb
  · rw [e] at hb
    unfold frs at hb
    rw [List.filterMap_cons,hf] at hb
    exact hb
theorem Inv.pQ (I:Inv X pins σ H s):∀ b∈frs X.stack,H b=none:=fun b hb=>by
  rcases List.mem_cons.mp (I.tX b hb) with e | hb
  · rw [e];exact I.free
  · obtain ⟨_,o,ho,_⟩:=I.ok.rH.mem hb
    exact I.base.free b o ho (I.ok.frf b hb) fun z=>I.ok.exfs b z hb
theorem Inv.step {g':Array GenState} {t':Nat} {d':Drawn} {ch:List Addr} (I:Inv X pins σ H s)
    (hch:∀ b∈ch,(b∈X.ex∨X.s₀.heap.objs.size≤b)∧b≠X.env.locals∧(∀ x c,X.env.cells.lookup x=some c→c≠b)∧∀ p∈X.pn++pins,p.1≠b)
    (keep:∀ b o,b≠X.env.locals→b ∉ X.fs→b ∉ ch→s.heap.get? b=some o→H b=none→h'.get? b=some o)
    (slot:∀ b o,b≠X.env.locals→b∈X.fs→b ∉ ch→s.heap.get? b=some o→H b=none→∃ sl,h'.get? b=some { o with slots:=sl }) (free:∀ b o,b ∉ ch→s.heap.get? b=some o→H b=none→H' b=none)
    (there:∀ b o,b ∉ ch→s.heap.get? b=some o→∃ o',h'.get? b=some o')
    (tups:∀ b xs,H b=some (.tup xs)→H' b=some (.tup xs)) (frzs:∀ b o u,H b=some (.frz o u)→H' b=some (.frz o u)) (tbls:∀ b ps,H b=some (.tbl ps)→∃ more,H' b=some (.tbl (ps++more)))
    (ns:∀ m,s.heap.Ns X.env.locals m→h'.Ns X.env.locals m) (hok:HOk X.prog X.w H' h') (hg:AllBare g') :
    Inv X pins σ H' { s with heap:=h',gens:=g',drawn:=d',toks:=t' }:=by
  have neL:∀ b o,X.s₀.heap.get? b=some o→b≠X.env.locals:=fun b o e=>Nat.ne_of_lt (Nat.lt_of_lt_of_le (Heap.lt_size e) I.ok.above)
  have neC:∀ b o,X.s₀.heap.get? b=some o→b ∉ X.ex→b ∉ ch:=fun b o e hx hb=>by
    rcases (hch b hb).1 with z | z
    · exact hx z
    · exact absurd (Nat.lt_of_lt_of_le (Heap.lt_size e) z) (Nat.lt_irrefl _)
  have cellK:∀ x c,X.env.cells.lookup x=some c→∀ v,s.heap.IsCell c v→h'.IsCell c v:=fun x c e v ⟨o,ho,hd⟩=>by
    have nch:c ∉ ch:=fun z=>(hch c z).2.2.1 x c e rfl
    by_cases hc:c∈X.fs
    · obtain ⟨sl,q⟩:=slot c o (I.cne x c e) hc nch ho (I.freeC x c e)
      exact ⟨_,q,hd⟩
    · exact ⟨o,keep c o (I.cne x c e) hc nch ho (I.freeC x c e),hd⟩
  refine ⟨I.ok,I.os,hg,⟨fun b o e n hb hx=>?_,fun b o e n hb hx=>?_,fun b o e n hx=>?_,fun b o e hx=>?_,fun b xs e=>tups b xs (I.base.tups b xs e),fun b o xs e=>frzs b o xs (I.base.frzs b o xs e),fun b ps e=>?_⟩,?_,fun x c e=>?_,?_,fun x c e=>?_,fun p hp=>?_,hok,I.len⟩
  · exact keep b o (neL b o e) hb (neC b o e hx) (I.base.keep b o e n hb hx) (I.base.free b o e n hx)
  · obtain ⟨sl,e1⟩:=I.base.slot b o e n hb hx
    obtain ⟨sl',e2⟩:=slot b _ (neL b o e) hb (neC b o e hx) e1 (I.base.free b o e n hx)
    exact ⟨sl',e2⟩
  · obtain ⟨o',e1⟩:=I.base.there b o e hx
    exact free b o' (neC b o e hx) e1 (I.base.free b o e n hx)
  · obtain ⟨o',e1⟩:=I.base.there b o e hx
    exact there b o' (neC b o e hx) e1
  · obtain ⟨m1,e1⟩:=I.base.tbls b ps e
    obtain ⟨m2,e2⟩:=tbls b _ e1
    exact ⟨m1++m2,by rw [e2,Array.append_assoc]⟩
  · obtain ⟨m,hn,hl⟩:=I.loc
    refine ⟨m,ns m hn,fun i x v e1 e2 e3=>?_⟩
    obtain ⟨u,r,l⟩:=hl i x v e1 e2 e3
    refine ⟨u,r,?_⟩
    rcases l with l | ⟨k,c,e,z⟩
    · exact .inl l
    · exact .inr ⟨k,c,e,cellK x c e _ z⟩
  · obtain ⟨v,z⟩:=I.cell x c e
    exact ⟨v,cellK x c e v z⟩
  · obtain ⟨m,⟨o,_,_,ho,_⟩,_⟩:=I.loc
    exact free _ o (fun z=>(hch _ z).2.1 rfl) ho I.free
  · obtain ⟨v,o,ho,hd⟩:=I.cell x c e
    exact free c o (fun z=>(hch c z).2.2.1 x c e rfl) ho (I.freeC x c e)
  · obtain ⟨e,n,ne,nf,d⟩:=I.pin p hp
    have nch:p.1 ∉ ch:=fun z=>(hch p.1 z).2.2.2 p hp rfl
    exact ⟨keep p.1 p.2 ne nf nch e n,free p.1 p.2 nch e n,ne,nf,d⟩
theorem Inv.un {t':Nat} (I:Inv X pins σ H s) (u:Un X.fs [] H H' s.heap h') (hok:HOk X.prog X.w H' h'):Inv X pins σ H' { s with heap:=h',toks:=t' }:=by
  obtain ⟨m,⟨o,es,ep,ho,r⟩,_⟩:=id I.loc
  obtain ⟨sl,hL⟩:=u.any ho I.free (by simp)
  exact I.step (g':=s.gens) (d':=s.drawn) (ch:=[]) (fun _ z=>nomatch z) (fun b o _ hb _ e n=>u.keep b o e n hb (by simp)) (fun b o _ hb _ e n=>u.slot b o e n hb (by simp)) (fun b o _ e n=>u.free b o e n (by simp)) (fun b o _ e=>u.there b o e (by simp)) u.tups u.frzs u.tbls (fun m' hm=>by
    obtain ⟨o',es',ep',ho',r'⟩:=hm
    rw [ho] at ho';cases ho'
    exact ⟨_,es',ep',hL,r'⟩) hok I.bare
theorem Inv.call {g':Array GenState} {t':Nat} {d':Drawn} {ch:List Addr} (I:Inv X pins σ H s) (u:Un (frs X.stack) ch H H' s.heap h') (hok:HOk X.prog X.w H' h') (hg:AllBare g')
    (hch:∀ b∈ch,(b∈X.ex∨X.s₀.heap.objs.size≤b)∧b≠X.env.locals∧(∀ x c,X.env.cells.lookup x=some c→c≠b)∧∀ p∈X.pn++pins,p.1≠b) :
    Inv X pins σ H' { s with heap:=h',gens:=g',drawn:=d',toks:=t' }:=by
  obtain ⟨m,⟨o,es,ep,ho,r⟩,_⟩:=id I.loc
  obtain ⟨sl,hL⟩:=u.any ho I.free fun z=>(hch _ z).2.1 rfl
  exact I.step (ch:=ch) hch (fun b o hL hb hc e n=>u.keep b o e n (fun z=>(List.mem_cons.mp (I.tX b z)).elim hL hb) hc) (fun b o _ _ hc e n=>u.any e n hc) (fun b o hc e n=>u.free b o e n hc) (fun b o hc e=>u.there b o e hc) u.tups u.frzs u.tbls (fun m' hm=>by
    obtain ⟨o',es',ep',ho',r'⟩:=hm
    rw [ho] at ho';cases ho'
    exact ⟨_,es',ep',hL,r'⟩) hok hg
theorem Inv.turned {t':Nat} {it:Addr} (I:Inv X pins σ H s) (k:∀ b o,b≠it→s.heap.get? b=some o→h'.get? b=some o) (hn:H it=none) (hL:it≠X.env.locals)
    (h1:it∈X.ex∨X.s₀.heap.objs.size≤it) (h2:∀ x c,X.env.cells.lookup x=some c→c≠it) (h3:∀ p∈X.pn++pins,p.1≠it):Inv X pins σ H { s with heap:=h',toks:=t' }:=by
  have nit:∀ b u,H b=some u→b≠it:=fun b u e z=>by rw [z,hn] at e;cases e
  refine I.step (g':=s.gens) (d':=s.drawn) (ch:=[it]) (fun b hb=>?_) (fun b o _ _ hc e _=>k b o (fun z=>hc (by simp [z])) e) (fun b o _ _ hc e _=>⟨o.slots,k b o (fun z=>hc (by simp [z])) e⟩) (fun _ _ _ _ n=>n)
    (fun b o hc e=>⟨o,k b o (fun z=>hc (by simp [z])) e⟩) (fun _ _ e=>e) (fun _ _ _ e=>e) (fun b ps e=>⟨#[],by rw [e];simp⟩) (fun m hm=>?_) (fun b u e=>?_) I.bare
  · have e:b=it:=by simpa using hb
    subst e
    exact ⟨h1,hL,h2,h3⟩
  · obtain ⟨o,es,ep,ho,r⟩:=hm
    exact ⟨o,es,ep,k _ o (Ne.symm hL) ho,r⟩
  · refine (I.hok b u e).stay (fun c v hc q=>k c v ?_ q) (fun _ q=>q) fun _ _ q=>q
    rcases hc with z | z
    · rw [z];exact nit b u e
    · exact nit c _ z
theorem Inv.tok (I:Inv X pins σ H s) (t:Nat):Inv X pins σ H { s with toks:=t }:=I.un (h':=s.heap) (t':=t) Un.refl I.hok
theorem Inv.kept {t':Nat} (I:Inv X pins σ H s) (k:∀ b u,s.heap.get? b=some u→h'.get? b=some u):Inv X pins σ H { s with heap:=h',toks:=t' }:=I.un (Un.kept k) (I.hok.kept k)
theorem Inv.laid {a:Addr} {o:HO} {t':Nat} (I:Inv X pins σ H s) (k:∀ b u,s.heap.get? b=some u→h'.get? b=some u) (hp:s.heap.objs.size≤a) (new:iy X.prog X.w (upd H a o) h' a o) :
    Inv X pins σ (upd H a o) { s with heap:=h',toks:=t' }:=I.un (Un.laid k hp (I.hok.fresh hp)) (I.hok.laid k hp new)
theorem Inv.write {x e:Addr} {o:HO} {t':Nat} (I:Inv X pins σ H s) (mu:Mut (H x)) (he:e=x∨H e=some (.own x)) (k:∀ b u,b≠e→s.heap.get? b=some u→h'.get? b=some u) (heo:∃ u,h'.get? e=some u)
    (new:iy X.prog X.w (upd H x o) h' x o):Inv X pins σ (upd H x o) { s with heap:=h',toks:=t' }:=I.un (Un.write mu he k heo) (I.hok.write mu he k heo new)
theorem Inv.uD {pins':List (Addr × Obj)} (I:Inv X pins σ H s) (h:∀ p∈pins',s.heap.get? p.1=some p.2∧H p.1=none∧p.1≠X.env.locals∧p.1 ∉ X.fs∧∀ v,p.2.data≠.cell v):Inv X pins' σ H s :=
  ⟨I.ok,I.os,I.bare,I.base,I.loc,I.cell,I.free,I.freeC,fun p hp=>(List.mem_append.mp hp).elim (fun z=>I.pin p (List.mem_append_left _ z)) (h p),I.hok,I.len⟩
theorem rC {N:List Str} (hN:N.Nodup) {i j:Nat} {x:Str} (a:N[i]?=some x) (b:N[j]?=some x):i=j:=by
  obtain ⟨h1,e1⟩:=List.getElem?_eq_some_iff.mp a
  obtain ⟨h2,e2⟩:=List.getElem?_eq_some_iff.mp b
  exact (List.getElem_inj hN).mp (e1.trans e2.symm)
theorem oA {M:Model} {A:Around} {E:Value→Shared→Prop} {i:Nat} {x:Str} {v:V} {u:Value} {Q:Unit→Shared→Prop} (I:Inv X pins σ H s) (hN:X.N.Nodup) (hi:X.N[i]?=some x) (hx:Loc X.env.scope x) (r:RelV v u)
    (h:∀ s',Inv X pins (σ.set i (some v)) H s'→(∃ a,Heap.SameBut a s.heap s'.heap∧(a=X.env.locals∨X.env.cells.lookup x=some a))→Q () s') (hf:X.fn x=true∨X.env.scope.names.lookup x=some .local:=by first | exact .inl rfl | exact .inr rfl | assumption):wpAny M A (storeName X.env x u) Q E s:=by
  obtain ⟨m,hn,hl⟩:=id I.loc
  have hcls:(X.env.scope.kind == .class || (X.env.scope.kind == .module && X.env.locals != X.env.globals))=false:=by rw [I.ok.kind];rfl
  have hiσ:i<σ.length:=by rw [I.len];exact (List.getElem?_eq_some_iff.mp hi).1
  have cne:=I.cne
  have tracked:∀ {a:Addr} {h':Heap},(∃ o,s.heap.get? a=some o∧H a=none)→Heap.SameBut a s.heap h'→HOk X.prog X.w H h':=fun {a h'} ha hs b ob e=>by
    obtain ⟨_,_,hfree⟩:=ha
    refine (I.hok b ob e).stay (fun c w' hc q=>(hs.2 c ?_).trans q) (fun _ q=>q) fun _ _ q=>q
    rintro rfl
    rcases hc with rfl | hc
    · rw [hfree] at e;cases e
    · rw [hfree] at hc;cases hc
  rcases hx with hk | hk
  · refine wpAny_storeName_local hk hn (fun h' hn' hs=>?_) hcls
    obtain ⟨oL,_,_,hoL,_⟩:=id hn
    refine h _ ⟨I.ok,I.os,I.bare,⟨fun b o e n hb hx=>?_,fun b o e n hb hx=>?_,I.base.free,fun b o e hx=>?_,I.base.tups,I.base.frzs,I.base.tbls⟩,⟨_,hn',fun j y v' e1 e2 e3=>?_⟩,fun y c e=>?_,I.free,I.freeC,fun p hp=>?_,tracked ⟨oL,hoL,I.free⟩ hs,by simpa using I.len⟩ ⟨_,hs,.inl rfl⟩
    · exact (hs.2 b (Nat.ne_of_lt (Nat.lt_of_lt_of_le (Heap.lt_size e) I.ok.above))).trans (I.base.keep b o e n hb hx)
    · obtain ⟨sl,e1⟩:=I.base.slot b o e n hb hx
      exact ⟨sl,(hs.2 b (Nat.ne_of_lt (Nat.lt_of_lt_of_le (Heap.lt_size e) I.ok.above))).trans e1⟩
    · obtain ⟨o',e1⟩:=I.base.there b o e hx
      exact ⟨o',(hs.2 b (Nat.ne_of_lt (Nat.lt_of_lt_of_le (Heap.lt_size e) I.ok.above))).trans e1⟩
    · by_cases hj:j=i
      · subst hj
        rw [hi] at e1;cases e1
        rw [List.getElem?_set_self hiσ] at e2
        cases e2
        exact ⟨u,r,.inl ⟨hk,by simp⟩⟩
      · rw [List.getElem?_set_ne (Ne.symm hj)] at e2
        obtain ⟨u',r',q⟩:=hl j y v' e1 e2 e3
        refine ⟨u',r',?_⟩
        rcases q with ⟨k,e⟩ | ⟨k,c,e,z⟩
        · refine .inl ⟨k,?_⟩
          have:y≠x:=fun e=>hj (rC hN e1 (e ▸ hi))
          simp [this,e]
        · exact .inr ⟨k,c,e,z.sameBut hs (cne y c e)⟩
    · obtain ⟨w',z⟩:=I.cell y c e
      exact ⟨w',z.sameBut hs (cne y c e)⟩
    · obtain ⟨e,n,ne,nf,d⟩:=I.pin p hp
      exact ⟨(hs.2 p.1 ne).trans e,n,ne,nf,d⟩
  · have hfn:X.fn x=true:=by
      rcases hf with z | z
      · exact z
      · rw [z] at hk;cases hk
    obtain ⟨c,hc⟩:=I.ok.has x (.inl hk)
    obtain ⟨w',z⟩:=I.cell x c hc
    refine wpAny_storeName_cell I.ok.kind hk hc z (fun h' hc' hs=>?_)
    obtain ⟨oc,hoc,hocd⟩:=id z
    refine h { s with heap:=h' } ⟨I.ok,I.os,I.bare,⟨fun b o e n hb hx=>?_,fun b o e n hb hx=>?_,I.base.free,fun b o e hx=>?_,I.base.tups,I.base.frzs,I.base.tbls⟩,⟨m,hn.sameBut hs (Ne.symm (cne x c hc)),fun j y v' e1 e2 e3=>?_⟩,fun y c' e=>?_,I.free,I.freeC,fun p hp=>?_,tracked ⟨oc,hoc,I.freeC x c hc⟩ hs,by simpa using I.len⟩ ⟨c,hs,.inr hc⟩
    · exact (hs.2 b (Nat.ne_of_lt (Nat.lt_of_lt_of_le (Heap.lt_size e) (I.ok.cab x c hfn hc)))).trans (I.base.keep b o e n hb hx)
    · obtain ⟨sl,e1⟩:=I.base.slot b o e n hb hx
      exact ⟨sl,(hs.2 b (Nat.ne_of_lt (Nat.lt_of_lt_of_le (Heap.lt_size e) (I.ok.cab x c hfn hc)))).trans e1⟩
    · obtain ⟨o',e1⟩:=I.base.there b o e hx
      exact ⟨o',(hs.2 b (Nat.ne_of_lt (Nat.lt_of_lt_of_le (Heap.lt_size e) (I.ok.cab x c hfn hc)))).trans e1⟩
    · by_cases hj:j=i
      · subst hj
        rw [hi] at e1;cases e1
        rw [List.getElem?_set_self hiσ] at e2
        cases e2
        exact ⟨u,r,.inr ⟨.inl hk,c,hc,hc'⟩⟩
      · rw [List.getElem?_set_ne (Ne.symm hj)] at e2
        obtain ⟨u',r',q⟩:=hl j y v' e1 e2 e3
        refine ⟨u',r',?_⟩
        rcases q with q | ⟨k,c',e,z'⟩
        · exact .inl q
        · refine .inr ⟨k,c',e,z'.sameBut hs ?_⟩
          rintro rfl
          exact hj (rC hN e1 (I.ok.inj _ _ _ e hc ▸ hi))
    · by_cases hcc:c'=c
      · subst hcc;exact ⟨_,hc'⟩
      · obtain ⟨w2,z2⟩:=I.cell y c' e
        exact ⟨w2,z2.sameBut hs hcc⟩
    · obtain ⟨e,n,ne,nf,d⟩:=I.pin p hp
      refine ⟨(hs.2 p.1 ?_).trans e,n,ne,nf,d⟩
      intro q
      rw [q,hoc] at e
      have q':oc=p.2:=Option.some.inj e
      exact d w' (by rw [← q'];exact hocd)
theorem lA {M:Model} {A:Around} {E:Value→Shared→Prop} {i:Nat} {x:Str} {v:V} {u:Value} {Q:Unit→Shared→Prop} (I:Inv X pins σ H s) (hN:X.N.Nodup) (hi:X.N[i]?=some x) (hx:Loc X.env.scope x) (r:RelV v u)
    (h:∀ s',Inv X pins (σ.set i (some v)) H s'→Q () s') (hf:X.fn x=true∨X.env.scope.names.lookup x=some .local:=by first | exact .inl rfl | exact .inr rfl | assumption):wpAny M A (storeName X.env x u) Q E s :=
  oA I hN hi hx r (fun s' I' _=>h s' I') hf
theorem Inv.call' {s':Shared} {ch:List Addr} (I:Inv X pins σ H s) (ho:s'.os=s.os) (u:Un (frs X.stack) ch H H' s.heap s'.heap) (hok:HOk X.prog X.w H' s'.heap) (hg:AllBare s'.gens)
    (hch:∀ b∈ch,(b∈X.ex∨X.s₀.heap.objs.size≤b)∧b≠X.env.locals∧(∀ x c,X.env.cells.lookup x=some c→c≠b)∧∀ p∈X.pn++pins,p.1≠b):Inv X pins σ H' s':=by
  obtain ⟨h',g',d',t',o'⟩:=s'
  have e:o'=s.os:=ho
  subst e
  exact I.call (g':=g') (t':=t') (d':=d') u hok hg hch
end
abbrev XK:=Value→Option Addr→Hp→Prop
abbrev St:=List (Option V)
abbrev VK:=V→Hp→Prop
abbrev TE:=St→Hp→VK→Prop
abbrev TT:=St→Hp→(Bool→Hp→Prop)→Prop
abbrev TA:=St→Hp→(List V→Hp→Prop)→Prop
structure Ends where
  nx:St→Hp→Prop
  rt:VK
  bk:St→Hp→Prop:=fun _ _=>False
  ct:St→Hp→Prop:=fun _ _=>False
abbrev TS:=Ends→St→Hp→Prop
def EP (X:Cx) (pins:List (Addr × Obj)) (σ:St) (Q:VK) (u:Value) (s':Shared):Prop:=∃ v H',Inv X pins σ H' s'∧RelV v u∧Q v H'
def TP (X:Cx) (pins:List (Addr × Obj)) (σ:St) (Q:Bool→Hp→Prop) (b:Bool) (s':Shared):Prop:=∃ H',Inv X pins σ H' s'∧Q b H'
def AP (X:Cx) (pins:List (Addr × Obj)) (σ:St) (Q:List V→Hp→Prop) (us:List Value) (s':Shared):Prop:=∃ vs H',Inv X pins σ H' s'∧Vals vs us∧Q vs H'
def SP (X:Cx) (pins:List (Addr × Obj)) (D:Ends) (f:Flow) (s':Shared):Prop :=
  match f with
  | .next=>∃ σ' H',Inv X pins σ' H' s'∧D.nx σ' H'
  | .brk=>∃ σ' H',Inv X pins σ' H' s'∧D.bk σ' H'
  | .cont=>∃ σ' H',Inv X pins σ' H' s'∧D.ct σ' H'
  | .ret u=>∃ v σ' H',Inv X pins σ' H' s'∧RelV v u∧D.rt v H'
def PE (X:Cx) (e:Expr) (t:TE):Prop :=
  ∀ (pins:List (Addr × Obj)) (s:Shared) (σ:St) (H:Hp) (Q:VK),Inv X pins σ H s→t σ H Q→wpAny (model X.prog X.w) X.A (eval e X.env) (EP X pins σ Q) X.xe s
def PT (X:Cx) (e:Expr) (t:TT):Prop :=
  ∀ (pins:List (Addr × Obj)) (s:Shared) (σ:St) (H:Hp) (Q:Bool→Hp→Prop),Inv X pins σ H s→t σ H Q→wpAny (model X.prog X.w) X.A (isTrue e X.env (eval e X.env)) (TP X pins σ Q) X.xe s
def PW (X:Cx) (e:Expr) (t:TT):Prop :=
  ∀ (whole:Sem Value) (pins:List (Addr × Obj)) (s:Shared) (σ:St) (H:Hp) (Q:Bool→Hp→Prop),Inv X pins σ H s→t σ H Q→wpAny (model X.prog X.w) X.A (isTrue e X.env whole) (TP X pins σ Q) X.xe s
theorem PW.pt {X:Cx} {e:Expr} {t:TT} (h:PW X e t):PT X e t:=h _
def PA (X:Cx) (es:List Expr) (t:TA):Prop :=
  ∀ (pos:Pos) (pins:List (Addr × Obj)) (s:Shared) (σ:St) (H:Hp) (Q:List V→Hp→Prop),Inv X pins σ H s→t σ H Q→wpAny (model X.prog X.w) X.A (spliced (backTo pos (starEach es X.env))) (AP X pins σ Q) X.xe s
def PS (X:Cx) (st:Stmt) (t:TS):Prop :=
  ∀ (pins:List (Addr × Obj)) (s:Shared) (σ:St) (H:Hp) (D:Ends),Inv X pins σ H s→t D σ H→wpAny (model X.prog X.w) X.A (exec st X.env) (SP X pins D) X.xe s
def PSs (X:Cx) (st:List Stmt) (t:TS):Prop :=
  ∀ (pins:List (Addr × Obj)) (s:Shared) (σ:St) (H:Hp) (D:Ends),Inv X pins σ H s→t D σ H→wpAny (model X.prog X.w) X.A (execs st X.env) (SP X pins D) X.xe s
theorem thn {α:Type} {t:Sem α} {Q Q':α→Shared→Prop} {M:Model} {A:Around} {E:Value→Shared→Prop} {s:Shared} (h:wpAny M A t Q E s) (hQ:∀ a s,Q a s→Q' a s):wpAny M A t Q' E s:=wpAny_mono h hQ fun _ _ x=>x
end L2
namespace L2
open PySem PySem.Spec PyProof.Rows
section
variable {X:Cx}
def Ub (i:Nat):TE:=fun σ H Q=>∃ v,σ[i]?=some (some v)∧Q v H
def tC (v:V):TE:=fun _ H Q=>Q v H
theorem Pn {i:Nat} {x:Str} {pos:Pos} (hN:X.N[i]?=some x) (hv:Vis X.env.scope x) (hd:(x == ("__debug__":Str))=false:=by decide) (hcd:(x == ("__classdict__":Str))=false:=by decide):PE X (.Name x pos) (Ub i):=by
  intro pins s σ H Q I h
  obtain ⟨v,e,h⟩:=h
  obtain ⟨m,hn,hl⟩:=I.loc
  obtain ⟨u,r,l⟩:=hl i x v hN e hv
  have fin:EP X pins σ Q u s:=⟨v,H,I,r,h⟩
  rcases l with ⟨hk,hm⟩ | ⟨hk,c,hc,hcell⟩
  · exact wpAny_Name (wpAny_loadName_local I.ok.kind hk hn hm fin) hd
  · rcases hk with hk | hk
    · exact wpAny_Name (wpAny_loadName_cell I.ok.kind hk hc hcell fin) hd
    · exact wpAny_Name (wpAny_loadName_free I.ok.kind hk hc hcell fin hcd) hd
theorem aA {i j pos}:PE X (.Constant (.int i) j pos) (tC (.int i)):=fun _ _ _ H _ I h=>wpAny_Constant_int ⟨.int i,H,I.tok _,⟨_,rfl⟩,h⟩
theorem gk {b j pos}:PE X (.Constant (.bool b) j pos) (tC (.bl b)):=fun _ _ _ H _ I h=>Constant_bool ⟨.bl b,H,I,rfl,h⟩
theorem qW {j pos}:PE X (.Constant .none j pos) (tC .non):=fun _ _ _ H _ I h=>Constant_none ⟨.non,H,I,rfl,h⟩
theorem iG {x j pos}:PE X (.Constant (.str x) j pos) (tC (.str x)):=fun _ _ _ H _ I h=>Calls.Constant_str ⟨.str x,H,I.tok _,⟨_,rfl⟩,h⟩
def Gl (X:Cx) (x:Str):Prop:=X.env.kindOf x=some .globalImplicit
theorem j5 {E:Value→Shared→Prop} {pins:List (Addr × Obj)} {s:Shared} {σ:St} {H:Hp} {x:Str} {u:Value} {pos:Pos} {Q:Value→Shared→Prop} (I:Inv X pins σ H s) (hg:Gl X x) (hm:X.mg x=some u) (h:Q u s)
    (hd:(x == ("__debug__":Str))=false:=by decide):wpAny (model X.prog X.w) X.A (eval (.Name x pos) X.env) Q E s :=
  Calls.Name_function_global I.ok.kind hg (Calls.loadGlobal_global (by rw [I.ok.glob];exact I.mod.glob.keeps I.bk) hm h) hd
theorem oZ {E:Value→Shared→Prop} {pins:List (Addr × Obj)} {s:Shared} {σ:St} {H:Hp} {x:Str} {u:Value} {pos:Pos} {Q:Value→Shared→Prop} (I:Inv X pins σ H s) (hg:Gl X x) (hm:X.mg x=none) (hv:bootBuiltins x=some u) (h:Q u s)
    (hn:x≠"__name__":=by decide) (hd:(x == ("__debug__":Str))=false:=by decide):wpAny (model X.prog X.w) X.A (eval (.Name x pos) X.env) Q E s:=by
  obtain ⟨mb,h1,h2⟩:=I.mod.blt
  exact Calls.Name_function_global I.ok.kind hg (Calls.loadGlobal_builtin (by rw [I.ok.glob];exact I.mod.glob.keeps I.bk) hm (by rw [I.ok.blt];exact h1.keeps I.bk) ((h2 x hn).trans hv) h) hd
theorem fH {x:Str} {v:V} {u:Value} {pos:Pos} (hg:Gl X x) (hm:X.mg x=some u) (r:RelV v u) (hd:(x == ("__debug__":Str))=false:=by decide):PE X (.Name x pos) (tC v) :=
  fun _ _ _ H _ I h=>j5 I hg hm ⟨v,H,I,r,h⟩ hd
theorem nA {x:Str} {v:V} {u:Value} {pos:Pos} (hg:Gl X x) (hm:X.mg x=none) (hv:bootBuiltins x=some u) (r:RelV v u) (hn:x≠"__name__":=by decide) (hd:(x == ("__debug__":Str))=false:=by decide):PE X (.Name x pos) (tC v) :=
  fun _ _ _ H _ I h=>oZ I hg hm hv ⟨v,H,I,r,h⟩ hn hd
def t2I (ta tb:TE) (k:Int→Int→Hp→Prop):St→Hp→Prop:=fun σ H=>ta σ H fun x H1=>tb σ H1 fun y H2=>∃ i j,x=.int i∧y=.int j∧k i j H2
variable {a b:Expr} {ta tb:TE} {pos:Pos}
def Ov (p:Int→Int→Bool) (ta tb:TE):TE:=fun σ H Q=>t2I ta tb (fun i j H2=>Q (.bl (p i j)) H2) σ H
abbrev tLt:TE→TE→TE:=Ov fun i j=>decide (i<j)
abbrev tLe:TE→TE→TE:=Ov fun i j=>decide (i≤j)
abbrev tGt:TE→TE→TE:=Ov fun i j=>decide (j<i)
abbrev tGe:TE→TE→TE:=Ov fun i j=>decide (j≤i)
abbrev tEqI:TE→TE→TE:=Ov fun i j=>decide (i=j)
abbrev tNeI:TE→TE→TE:=Ov fun i j=>!decide (i=j)
def tB (t:TE):TT:=fun σ H Q=>t σ H fun x H1=>∃ c,x=.bl c∧Q c H1
theorem jB {e:Expr} {t:TE} (h:PE X e t) (he:∀ whole,isTrue e X.env whole=(do let v ← whole;standAt e.pos;holding [v] (truthy v)):=by intro _;rfl):PT X e (tB t):=by
  intro pins s σ H Q I hw
  refine isTrue_plain (thn (h pins s σ H _ I hw) fun v s1 ⟨x,H1,I1,r1,q1⟩=>?_) (he _)
  obtain ⟨d,rfl,q⟩:=q1
  cases r1
  exact wpAny_truthy_bool ⟨H1,I1,q⟩
variable {tA tB':TT} {rest:List Expr}
def tAnd (t u:TT):TT:=fun σ H Q=>t σ H fun c H1=>if c=true then u σ H1 Q else Q false H1
def tOr (t u:TT):TT:=fun σ H Q=>t σ H fun c H1=>if c=true then Q true H1 else u σ H1 Q
def tNot (t:TT):TT:=fun σ H Q=>t σ H fun c H1=>Q (!c) H1
theorem pw_and1 (ha:PT X a tA):PW X (.BoolOp .And [a] pos) tA:=by
  intro wh pins s σ H Q I h
  refine isTrue_and (thn (ha pins s σ H Q I h) fun c s1 e=>?_)
  cases c with
  | true=>exact isTrue_and_nil e
  | false=>exact e
theorem pw_or1 (ha:PT X a tA):PW X (.BoolOp .Or [a] pos) tA:=by
  intro wh pins s σ H Q I h
  refine isTrue_or (thn (ha pins s σ H Q I h) fun c s1 e=>?_)
  cases c with
  | false=>exact isTrue_or_nil e
  | true=>exact e
theorem pw_and (ha:PT X a tA) (hb:PW X (.BoolOp .And (b :: rest) pos) tB'):PW X (.BoolOp .And (a :: b :: rest) pos) (tAnd tA tB'):=by
  intro wh pins s σ H Q I h
  refine isTrue_and (thn (ha pins s σ H _ I h) fun c s1 ⟨H1,I1,q1⟩=>?_)
  cases c with
  | true=>exact hb wh pins s1 σ H1 Q I1 q1
  | false=>exact ⟨H1,I1,q1⟩
theorem pw_or (ha:PT X a tA) (hb:PW X (.BoolOp .Or (b :: rest) pos) tB'):PW X (.BoolOp .Or (a :: b :: rest) pos) (tOr tA tB'):=by
  intro wh pins s σ H Q I h
  refine isTrue_or (thn (ha pins s σ H _ I h) fun c s1 ⟨H1,I1,q1⟩=>?_)
  cases c with
  | true=>exact ⟨H1,I1,q1⟩
  | false=>exact hb wh pins s1 σ H1 Q I1 q1
theorem jC (ha:PT X a tA):PT X (.UnaryOp .Not a pos) (tNot tA):=by
  intro pins s σ H Q I h
  exact isTrue_not (ha pins s σ H (fun c H1=>Q (!c) H1) I h)
def Uw (ta tb:TE):TE:=fun σ H Q=>ta σ H fun x H1=>∃ c,x=.bl c∧if c=true then tb σ H1 Q else Q (.bl false) H1
def tOrV (ta tb:TE):TE:=fun σ H Q=>ta σ H fun x H1=>∃ c,x=.bl c∧if c=true then Q (.bl true) H1 else tb σ H1 Q
def Ur (ta:TE):TE:=fun σ H Q=>ta σ H fun x H1=>∃ c,x=.bl c∧Q (.bl (!c)) H1
theorem oY {op} {t:TE} (h:PE X a t):PE X (.BoolOp op [a] pos) t:=fun pins s σ H Q I hw=>BoolOp_one (h pins s σ H Q I hw)
theorem mK (ha:PE X a ta) (hb:PE X (.BoolOp .And (b :: rest) pos) tb):PE X (.BoolOp .And (a :: b :: rest) pos) (Uw ta tb):=by
  intro pins s σ H Q I h
  refine BoolOp_and (thn (ha pins s σ H _ I h) fun v s1 ⟨x,H1,I1,r1,q1⟩=>?_)
  obtain ⟨c,rfl,q1⟩:=q1
  cases r1
  refine wpAny_truthy_bool ?_
  cases c with
  | true=>exact hb pins s1 σ H1 Q I1 q1
  | false=>exact ⟨.bl false,H1,I1,rfl,q1⟩
theorem Uy (ha:PE X a ta) (hb:PE X (.BoolOp .Or (b :: rest) pos) tb):PE X (.BoolOp .Or (a :: b :: rest) pos) (tOrV ta tb):=by
  intro pins s σ H Q I h
  refine BoolOp_or (thn (ha pins s σ H _ I h) fun v s1 ⟨x,H1,I1,r1,q1⟩=>?_)
  obtain ⟨c,rfl,q1⟩:=q1
  cases r1
  refine wpAny_truthy_bool ?_
  cases c with
  | false=>exact hb pins s1 σ H1 Q I1 q1
  | true=>exact ⟨.bl true,H1,I1,rfl,q1⟩
theorem Pq (ha:PE X a ta):PE X (.UnaryOp .Not a pos) (Ur ta):=by
  intro pins s σ H Q I h
  refine UnaryOp_ (thn (ha pins s σ H _ I h) fun v s1 ⟨x,H1,I1,r1,q1⟩=>?_)
  obtain ⟨c,rfl,q1⟩:=q1
  cases r1
  exact not_of (wpAny_truthy_bool ⟨.bl (!c),H1,I1,rfl,q1⟩)
def tIf (t:TT) (ta tb:TE):TE:=fun σ H Q=>t σ H fun c H1=>if c=true then ta σ H1 Q else tb σ H1 Q
theorem Bh {c:Expr} (hc:PT X c tA) (ha:PE X a ta) (hb:PE X b tb):PE X (.IfExp c a b pos) (tIf tA ta tb):=by
  intro pins s σ H Q I h
  refine wpAny_IfExp (thn (hc pins s σ H _ I h) fun d s1 ⟨H1,I1,q1⟩=>?_)
  cases d with
  | true=>exact ha pins s1 σ H1 Q I1 q1
  | false=>exact hb pins s1 σ H1 Q I1 q1
end
end L2
namespace L2
open PySem PySem.Spec PyProof.Rows
def SqL (K:PySem.W.Frag) (H:Hp) (a:Addr) (xs:List V):Prop :=
  Rd H a (.lst xs) ∨
    ∃ (o:Obj) (its:Array Value) (n:Nat),K.lookup a=some o∧o.cls=.type "list"∧o.dict=none∧o.data=.seq its n∧its.size≤sizeLine∧Vals xs its.toList
def SqT (K:PySem.W.Frag) (H:Hp) (a:Addr) (xs:List V):Prop :=
  Rd H a (.tup xs) ∨
    ∃ (o:Obj) (its:Array Value) (n:Nat),K.lookup a=some o∧o.cls=.type "tuple"∧o.data=.seq its n∧its.size≤sizeLine∧Vals xs its.toList
def absV:Value→Option V
  | .none=>some .non
  | .bool b=>some (.bl b)
  | .int i _=>some (.int i)
  | .str x _=>some (.str x)
  | .bytes b _=>some (.byt b)
  | .float b _=>some (.flt b)
  | .ref a=>some (.ref a)
  | .type n=>some (.ty n)
  | _=>none
theorem RelV.abs {x:V} {u:Value} (r:RelV x u):absV u=some x:=by
  cases x with
  | non=>cases r;rfl
  | bl _=>cases r;rfl
  | int _=>obtain ⟨t,rfl⟩:=r;rfl
  | str _=>obtain ⟨t,rfl⟩:=r;rfl
  | byt _=>obtain ⟨t,rfl⟩:=r;rfl
  | flt _=>obtain ⟨t,rfl⟩:=r;rfl
  | ref _=>cases r;rfl
  | ty _=>cases r;rfl
theorem RelV.inj {x y:V} {u:Value} (r:RelV x u) (q:RelV y u):x=y:=Option.some.inj (r.abs.symm.trans q.abs)
theorem Vals.inj:∀ {xs ys:List V} {us:List Value},Vals xs us→Vals ys us→xs=ys
  | _,_,_,.nil,.nil=>rfl
  | _,_,_,.cons r t,.cons r' t'=>by rw [r.inj r',Vals.inj t t']
section
variable {X:Cx} {pins:List (Addr × Obj)} {σ:St} {H:Hp} {s:Shared} {a:Addr} {xs ys:List V}
theorem SqL.of {K:PySem.W.Frag} (h:H a=some (.lst xs)):SqL K H a xs:=.inl (.inl h)
theorem SqT.of {K:PySem.W.Frag} (h:H a=some (.tup xs)):SqT K H a xs:=.inl (.inl h)
theorem Inv.list (I:Inv X pins σ H s) (h:SqL X.K H a xs):∃ its:List Value,Vals xs its∧PlainL s.heap a its.toArray∧xs.length≤sizeLine:=by
  rcases h with h | ⟨o,its,n,hk,hc,hd,hs,hz,r⟩
  · obtain ⟨z,its,n,r,e⟩:=h.ok I.hok
    exact ⟨its,r,⟨_,n,e,rfl,rfl,rfl⟩,z⟩
  · refine ⟨its.toList,r,⟨o,n,I.kIn a o hk,hc,hd,by simpa using hs⟩,?_⟩
    have e:=r.length
    simp only [Array.length_toList] at e
    omega
theorem Inv.tuple (I:Inv X pins σ H s) (h:SqT X.K H a xs):∃ its:List Value,Vals xs its∧IsTup s.heap a its.toArray∧xs.length≤sizeLine:=by
  rcases h with h | ⟨o,its,n,hk,hc,hs,hz,r⟩
  · obtain ⟨z,its,r,p⟩:=h.ok I.hok
    exact ⟨its,r,p,z⟩
  · refine ⟨its.toList,r,⟨o,I.kIn a o hk,hc,n,by simpa using hs⟩,?_⟩
    have e:=r.length
    simp only [Array.length_toList] at e
    omega
theorem Inv.BX (I:Inv X pins σ H s) (h:SqL X.K H a xs) (h':SqL X.K H a ys):xs=ys:=by
  obtain ⟨its,r,⟨o,n,e,_,_,d⟩,_⟩:=I.list h
  obtain ⟨its',r',⟨o',n',e',_,_,d'⟩,_⟩:=I.list h'
  rw [e] at e';cases e'
  rw [d] at d'
  injection d' with d1 _
  have:its=its':=by simpa using congrArg Array.toList d1
  subst this
  exact r.inj r'
end
abbrev Cx.wish (X:Cx) (E:Value→Shared→Prop):Cx:={ X with xe:=E }
abbrev Cx.nox (X:Cx):Cx:=X.wish fun _ _=>False
theorem Cx.Ok.wish {X:Cx} (ok:X.Ok) (E:Value→Shared→Prop):(X.wish E).Ok :=
  ⟨ok.mod,ok.kind,ok.glob,ok.blt,ok.above,ok.inj,ok.has,ok.cab,ok.hd,ok.frames,ok.stk,ok.exf,ok.bs,ok.bsz,ok.noex,ok.exfs,ok.rH,ok.frf⟩
theorem Cx.Ok.jd {X:Cx} {E:Value→Shared→Prop} (ok:(X.wish E).Ok):X.Ok :=
  ⟨ok.mod,ok.kind,ok.glob,ok.blt,ok.above,ok.inj,ok.has,ok.cab,ok.hd,ok.frames,ok.stk,ok.exf,ok.bs,ok.bsz,ok.noex,ok.exfs,ok.rH,ok.frf⟩
section
variable {X:Cx} {pins:List (Addr × Obj)} {σ:St} {H:Hp} {s:Shared} {E:Value→Shared→Prop}
theorem Inv.wish (I:Inv X pins σ H s) (E:Value→Shared→Prop):Inv (X.wish E) pins σ H s:=⟨I.ok.wish E,I.os,I.bare,I.base,I.loc,I.cell,I.free,I.freeC,I.pin,I.hok,I.len⟩
theorem Inv.jd (I:Inv (X.wish E) pins σ H s):Inv X pins σ H s:=⟨I.ok.jd,I.os,I.bare,I.base,I.loc,I.cell,I.free,I.freeC,I.pin,I.hok,I.len⟩
theorem SP.jd {D:Ends} {f:Flow} {s':Shared} (h:SP (X.wish E) pins D f s'):SP X pins D f s':=by
  cases f with
  | next=>obtain ⟨σ',H',I,q⟩:=h;exact ⟨σ',H',I.jd,q⟩
  | brk=>obtain ⟨σ',H',I,q⟩:=h;exact ⟨σ',H',I.jd,q⟩
  | cont=>obtain ⟨σ',H',I,q⟩:=h;exact ⟨σ',H',I.jd,q⟩
  | ret u=>obtain ⟨v,σ',H',I,r,q⟩:=h;exact ⟨v,σ',H',I.jd,r,q⟩
theorem PSs.nox {st:List Stmt} {t:TS} (h:PSs X.nox st t):PSs X st t:=fun pins s σ H D I hw =>
  wpAny_mono (h pins s σ H D (I.wish _) hw) (fun _ _ q=>q.jd) fun _ _ z=>False.elim z
end
section
variable {X:Cx} {st:Stmt} {rest:List Stmt} {t u:TS} {e:Expr} {te:TE} {pos:Pos}
def Us:TS:=fun D σ H=>D.nx σ H
def tSeq (t u:TS):TS:=fun D σ H=>t { D with nx:=u D } σ H
theorem bA:PSs X [] Us:=fun _ _ σ H _ I h=>wpAny_execs_nil ⟨σ,H,I,h⟩
theorem au (h1:PS X st t) (h2:PSs X rest u):PSs X (st :: rest) (tSeq t u):=by
  intro pins s σ H D I h
  refine wpAny_execs_cons (thn (h1 pins s σ H { D with nx:=u D } I h) fun f s1 q=>?_)
  cases f with
  | next =>
    obtain ⟨σ',H',I',q⟩:=q
    exact h2 pins s1 σ' H' D I' q
  | ret v=>exact q
  | brk=>exact q
  | cont=>exact q
theorem aD (h1:PS X st t):PSs X [st] t:=by
  intro pins s σ H D I h
  refine wpAny_execs_cons (thn (h1 pins s σ H D I h) fun f s1 q=>?_)
  cases f with
  | next=>exact wpAny_execs_nil q
  | ret v=>exact q
  | brk=>exact q
  | cont=>exact q
theorem Inv.quiet {pins:List (Addr × Obj)} {σ:St} {H:Hp} {s:Shared} (I:Inv X pins σ H s):interactive X.env=false:=by simp [interactive,I.ok.kind]
def Uu (te:TE):TS:=fun D σ H=>te σ H fun _ H1=>D.nx σ H1
theorem bV (he:PE X e te) (hs:swapsWith e none pos.line X.env=pure false:=by rfl):PS X (.Expr e pos) (Uu te):=by
  intro pins s σ H D I h
  exact wpAny_Expr_any (thn (he pins s σ H _ I h) fun v s1 ⟨x,H1,I1,r1,q1⟩=>⟨σ,H1,I1,q1⟩) I.quiet hs
def tRet (te:TE):TS:=fun D σ H=>te σ H D.rt
theorem bC (he:PE X e te):PS X (.Return (some e) pos) (tRet te):=by
  intro pins s σ H D I h
  exact wpAny_Return_some (thn (he pins s σ H _ I h) fun v s1 ⟨x,H1,I1,r1,q1⟩=>⟨x,σ,H1,I1,r1,q1⟩)
def tIfS (c:TT) (t u:TS):TS:=fun D σ H=>c σ H fun b H1=>if b=true then t D σ H1 else u D σ H1
theorem eN {c:Expr} {a b:List Stmt} {tc:TT} (hc:PT X c tc) (ha:PSs X a t) (hb:PSs X b u):PS X (.If c a b pos) (tIfS tc t u):=by
  intro pins s σ H D I h
  refine wpAny_If (thn (hc pins s σ H _ I h) fun d s1 ⟨H1,I1,q1⟩=>?_)
  cases d with
  | true=>exact ha pins s1 σ H1 D I1 q1
  | false=>exact hb pins s1 σ H1 D I1 q1
end
abbrev TG:=V→St→Hp→(St→Hp→Prop)→Prop
abbrev TGs:=List V→St→Hp→(St→Hp→Prop)→Prop
def PG (X:Cx) (target:Expr) (t:TG):Prop :=
  ∀ (pins:List (Addr × Obj)) (s:Shared) (σ:St) (H:Hp) (v:V) (u:Value) (Q:St→Hp→Prop),Inv X pins σ H s→RelV v u→t v σ H Q →
    wpAny (model X.prog X.w) X.A (assign target X.env u) (fun _ s'=>∃ σ' H',Inv X pins σ' H' s'∧Q σ' H') X.xe s
def PGs (X:Cx) (ts:List Expr) (t:TGs):Prop :=
  ∀ (pins:List (Addr × Obj)) (s:Shared) (σ:St) (H:Hp) (vs:List V) (us:List Value) (Q:St→Hp→Prop),Inv X pins σ H s→Vals vs us→t vs σ H Q →
    wpAny (model X.prog X.w) X.A (assignInOrder ((assignEach ts X.env).map (·.2)) us) (fun _ s'=>∃ σ' H',Inv X pins σ' H' s'∧Q σ' H') X.xe s
abbrev Va:=V→V→V→Hp→(Hp→Prop)→Prop
def Vr (X:Cx) (t:Va):Prop :=
  ∀ (pins:List (Addr × Obj)) (s:Shared) (σ:St) (H:Hp) (o i v:V) (ov iv u:Value) (Q:Hp→Prop),Inv X pins σ H s→RelV o ov→RelV i iv→RelV v u→t o i v H Q →
    wpAny (model X.prog X.w) X.A (setItem ov iv u) (fun _ s'=>∃ H',Inv X pins σ H' s'∧Q H') X.xe s
abbrev TIp:=V→V→Hp→VK→Prop
section
variable {X:Cx} {pos:Pos}
def Cp (i:Nat):TG:=fun v σ H Q=>Q (σ.set i (some v)) H
theorem bD {i:Nat} {x:Str} (hN:X.N.Nodup) (hi:X.N[i]?=some x) (hx:Loc X.env.scope x) (hf:X.fn x=true∨X.env.scope.names.lookup x=some .local:=by first | exact .inl rfl | exact .inr rfl | assumption):PG X (.Name x pos) (Cp i):=by
  intro pins s σ H v u Q I r h
  exact wpAny_assign_Name (lA I hN hi hx r (fun s' I'=>⟨_,H,I',h⟩) hf)
def gNil:TGs:=fun vs σ H Q=>vs=[]∧Q σ H
def U5 (t:TG) (u:TGs):TGs:=fun vs σ H Q=>∃ v r,vs=v :: r∧t v σ H fun σ' H'=>u r σ' H' Q
theorem lK:PGs X [] gNil:=by
  intro pins s σ H vs us Q I r h
  obtain ⟨e,h⟩:=h
  subst e
  cases r
  exact assignInOrder_nil ⟨σ,H,I,h⟩
theorem cU {e:Expr} {es:List Expr} {t:TG} {u:TGs} (h1:PG X e t) (h2:PGs X es u)
    (hs:(assignEach (e :: es) X.env).map (·.2)=assign e X.env :: (assignEach es X.env).map (·.2):=by rfl):PGs X (e :: es) (U5 t u):=by
  intro pins s σ H vs us Q I r h
  obtain ⟨v,vr,e1,h⟩:=h
  subst e1
  cases r with
  | cons r rr =>
    rw [hs]
    refine assignInOrder_cons (thn (h1 pins s σ H _ _ _ I r h) fun _ s1 ⟨σ1,H1,I1,q1⟩=>?_)
    exact h2 pins s1 σ1 H1 _ _ Q I1 rr q1
def Vq (K:PySem.W.Frag) (n:Nat) (t:TGs):TG:=fun v σ H Q=>∃ a xs,v=.ref a∧SqT K H a xs∧xs.length=n∧t xs σ H Q
theorem oX {es:List Expr} {k:Nat} {t:TGs} {n:Nat} (hc:X.calm=true) (h:PGs X es t)
    (hn:(assignEach es X.env).length=n:=by rfl) (hst:(assignEach es X.env).findIdx? (·.1)=none:=by rfl):PG X (.Tuple es k pos) (Vq X.K n t):=by
  intro pins s σ H v u Q I r hw
  obtain ⟨a,xs,e1,hq,hl,hw⟩:=hw
  subst e1
  cases r
  obtain ⟨its,rv,ht,hz⟩:=I.tuple hq
  refine assign_Tuple_tuple (I.ok.hd hc) ht (by simp [hn,← hl,rv.length]) hst fun h' hx=>?_
  have I1:Inv X pins σ H { s with heap:=h' }:=I.kept (t':=s.toks) fun b o e=>hx b o (Nat.ne_of_lt (Heap.lt_size e)) e
  exact h pins _ σ H xs _ Q I1 (by simpa using rv) hw
def gSub (to ti:TE) (t:Va):TG:=fun v σ H Q=>to σ H fun o H1=>ti σ H1 fun i H2=>t o i v H2 fun H3=>Q σ H3
theorem qU {o i:Expr} {to ti:TE} {t:Va} (ho:PE X o to) (hi:PE X i ti) (hs:Vr X t)
    (ha:∀ v,assign (.Subscript o i pos) X.env v=(do
      let ov ← holding [v] (eval o X.env)
      let iv ← holding [v,ov] (eval i X.env)
      standAt pos
      holding [v,ov,iv] (setItem ov iv v)
      release [v,ov,iv] []):=by intro _;rfl):PG X (.Subscript o i pos) (gSub to ti t):=by
  intro pins s σ H v u Q I r h
  rw [ha]
  refine wpAny_bind (wpAny_holding (thn (ho pins s σ H _ I h) fun ov s1 ⟨x,H1,I1,r1,q1⟩=>?_))
  refine wpAny_bind (wpAny_holding (thn (hi pins s1 σ H1 _ I1 q1) fun iv s2 ⟨y,H2,I2,r2,q2⟩=>?_))
  refine wpAny_bind (wpAny_standAt (wpAny_bind (wpAny_holding (thn (hs pins s2 σ H2 x y v ov iv u _ I2 r1 r2 r q2) fun _ s3 ⟨H3,I3,q3⟩=>?_))))
  exact wpAny_release ⟨σ,H3,I3,q3⟩
def Uv (te:TE) (g:TG):TS:=fun D σ H=>te σ H fun x H1=>g x σ H1 D.nx
theorem kE {tg e:Expr} {te:TE} {g:TG} (he:PE X e te) (hg:PG X tg g) (hs:swapsWithSole [tg] e pos.line X.env=pure false:=by rfl) (hw:swappedStores [tg] e X.env=pure none:=by rfl)
    (h1:(assignEach [tg] X.env).map (·.2)=[assign tg X.env]:=by rfl):PS X (.Assign [tg] e pos) (Uv te g):=by
  intro pins s σ H D I h
  refine wpAny_Assign_stores (thn (he pins s σ H _ I h) fun v s1 ⟨x,H1,I1,r1,q1⟩=>?_) hs hw
  rw [h1]
  exact thn (hg pins s1 σ H1 x v _ I1 r1 q1) fun _ s2 q=>q
theorem bh {i:Nat} {x:Str} {e:Expr} {te:TE} {pos':Pos} (hN:X.N.Nodup) (hi:X.N[i]?=some x) (hx:Loc X.env.scope x) (he:PE X e te) (hs:swapsWith e (some (.Name x pos')) pos.line X.env=pure false:=by rfl) (hf:X.fn x=true∨X.env.scope.names.lookup x=some .local:=by first | exact .inl rfl | exact .inr rfl | assumption) :
    PS X (.Assign [.Name x pos'] e pos) (Uv te (Cp i)):=by
  intro pins s σ H D I h
  refine wpAny_Assign_Name (thn (he pins s σ H _ I h) fun v s1 ⟨y,H1,I1,r1,q1⟩=>?_) hs
  exact lA I1 hN hi hx r1 (fun s2 I2=>⟨_,H1,I2,q1⟩) hf
end
section
variable {X:Cx} {pos:Pos}
def O7 (c:TT) (tb:TS):TS:=fun D σ H=>∃ W:Nat→St→Hp→Prop,(∃ m,W m σ H)∧∀ m σ H,W m σ H →
  c σ H fun b H1=>if b=true then ∃ N:St→Hp→Prop,(∀ σ' H',N σ' H'→∃ m',m'<m∧W m' σ' H')∧tb { D with nx:=N,ct:=N,bk:=D.nx } σ H1 else D.nx σ H1
theorem Bg {c:Expr} {body:List Stmt} {tc:TT} {tb:TS} (hp:PassesOwn (model X.prog X.w) X.A X.env X.xe) (hc:PT X c tc) (hb:PSs X body tb):PS X (.While c body [] pos) (O7 tc tb):=by
  intro pins s σ H D I h
  obtain ⟨W,⟨m0,w0⟩,turn⟩:=h
  refine wpAny_While (codeAny_whileLoop (fun n s'=>∃ σ' H',Inv X pins σ' H' s'∧W n σ' H') ?_ m0 ⟨σ,H,I,w0⟩)
  rintro n s1 ⟨σ1,H1,I1,w1⟩
  refine wpAny_passesOwn hp (thn (hc pins s1 σ1 H1 _ I1 (turn n σ1 H1 w1)) fun b s2 ⟨H2,I2,q2⟩=>?_)
  cases b with
  | true =>
    obtain ⟨N,hN,q2⟩:=q2
    rw [if_pos rfl]
    refine wpAny_passesOwn hp (thn (hb pins s2 σ1 H2 _ I2 q2) fun f s3 q3=>?_)
    cases f with
    | next =>
      obtain ⟨σ3,H3,I3,n3⟩:=q3
      obtain ⟨m',hm,w3⟩:=hN σ3 H3 n3
      exact ⟨m',hm,σ3,H3,I3,w3⟩
    | cont =>
      obtain ⟨σ3,H3,I3,n3⟩:=q3
      obtain ⟨m',hm,w3⟩:=hN σ3 H3 n3
      exact ⟨m',hm,σ3,H3,I3,w3⟩
    | brk=>exact q3
    | ret v=>exact q3
  | false =>
    rw [if_neg Bool.false_ne_true]
    exact wpAny_execs_nil ⟨σ1,H2,I2,q2⟩
end
structure It where
  go:Nat→Hp→Prop
  yld:Nat→Hp→V→Hp→Prop
  stop:Nat→Hp→Prop
def Lk (X:Cx) (pins:List (Addr × Obj)) (H:Hp) (b:Addr):Prop :=
  H b=none∧b≠X.env.locals∧b ∉ X.fs∧(b∈X.ex∨X.s₀.heap.objs.size≤b)∧(∀ x c,X.env.cells.lookup x=some c→c≠b)∧∀ p∈X.pn++pins,p.1≠b
theorem Inv.U6 {X:Cx} {pins:List (Addr × Obj)} {σ:St} {H H':Hp} {s:Shared} {b:Addr} (I:Inv X pins σ H s) (hb:s.heap.objs.size≤b) (hn:H' b=none):Lk X pins H' b:=by
  refine ⟨hn,Nat.ne_of_gt (Nat.lt_of_lt_of_le I.lt hb),I.nofs hb,.inr (Nat.le_trans I.sz hb),fun x c e z=>?_,fun p hp z=>?_⟩
  · obtain ⟨v,q⟩:=I.cell x c e
    exact absurd (Nat.lt_of_lt_of_le q.lt (by rw [z];exact hb)) (Nat.lt_irrefl _)
  · exact absurd (Nat.lt_of_lt_of_le (Heap.lt_size (I.pin p hp).1) (by rw [z];exact hb)) (Nat.lt_irrefl _)
structure Turn (P:Program) (w:World) (K:PySem.W.Frag) (tg:Expr) (J:It) (fp:List Addr) (it:Addr) (tn:Nat→Heap→Prop):Prop where
  mem:it∈fp
  obj:∀ i h,tn i h→∀ b∈fp,∃ o,h.get? b=some o∧∀ v,o.data≠.cell v
  keep:∀ i h h',tn i h→(∀ b∈fp,∀ o,h.get? b=some o→h'.get? b=some o)→tn i h'
  item:∀ (X:Cx),X.prog=P→X.w=w→X.K=K→X.calm=true→∀ (i:Nat) (pins:List (Addr × Obj)) (s:Shared) (σ:St) (H:Hp) (E:Value→Shared→Prop),Inv X pins σ H s→(∀ b∈fp,Lk X pins H b)→tn i s.heap→J.go i H →
    wpAny (model P w) X.A (pyNext (.ref it)) (fun r s1=>∃ u,r=some u ∧
      wpAny (model P w) X.A (letOwnedTupleGo tg (.ref it) u) (fun _ s2=>∃ x H',Inv X pins σ H' s2∧RelV x u∧J.yld i H x H'∧tn (i + 1) s2.heap∧∀ b∈fp,H' b=none) E s1) E s
  done:∀ (X:Cx),X.prog=P→X.w=w→X.K=K→X.calm=true→∀ (i:Nat) (pins:List (Addr × Obj)) (s:Shared) (σ:St) (H:Hp) (E:Value→Shared→Prop),Inv X pins σ H s→(∀ b∈fp,Lk X pins H b)→tn i s.heap→J.stop i H →
    wpAny (model P w) X.A (pyNext (.ref it)) (fun r s1=>r=none∧Inv X pins σ H s1) E s
  self:∀ (A:Around) (i:Nat) (s:Shared) (Q:Value→Shared→Prop) (E:Value→Shared→Prop),tn i s.heap→Q (.ref it) s→wpAny (model P w) A (pyIter (.ref it)) Q E s
abbrev TI:=St→Hp→(It→Hp→Prop)→Prop
def PIE (X:Cx) (pins:List (Addr × Obj)) (σ:St) (tg:Expr) (R:It→Hp→Prop) (itv:Value) (s2:Shared):Prop :=
  ∃ (it:Addr) (fp:List Addr) (tn:Nat→Heap→Prop) (J:It) (H':Hp),itv=.ref it∧Inv X pins σ H' s2∧Turn X.prog X.w X.K tg J fp it tn∧tn 0 s2.heap∧(∀ b∈fp,Lk X pins H' b)∧R J H'
def PI (X:Cx) (tg iter:Expr) (wi:TI):Prop :=
  ∀ (pins:List (Addr × Obj)) (s:Shared) (σ:St) (H:Hp) (R:It→Hp→Prop),Inv X pins σ H s→wi σ H R →
    wpAny (model X.prog X.w) X.A (eval iter X.env) (fun v s1=>wpAny (model X.prog X.w) X.A (pyIter v) (PIE X pins σ tg R) X.xe s1) X.xe s
theorem Oa {M:Model} {A:Around} {E:Value→Shared→Prop} {s:Shared} {tg:Expr} {it:Addr} {u:Value} {o:Obj} {n:String} {vs:Array Value} {Q:Unit→Shared→Prop} (ho:s.heap.get? it=some o) (hc:o.cls=.type n) (hd:o.data=.fields vs)
    (hn:["enumerate","zip","dict_itemiterator","dict_reverseitemiterator","odict_iterator","itertools.zip_longest","itertools.pairwise"].contains n=false) (hQ:Q () s):wpAny M A (letOwnedTupleGo tg (.ref it) u) Q E s:=by
  unfold letOwnedTupleGo
  cases tg <;> first
    | exact wpAny_pure hQ
    | (cases u <;> first
        | exact wpAny_pure hQ
        | (refine wpAny_bind (wpAny_load ho ?_)
           rw [hc,hd]
           show wpAny M A (if (["enumerate","zip","dict_itemiterator","dict_reverseitemiterator","odict_iterator","itertools.zip_longest","itertools.pairwise"].contains n && vs[0]? == some (rawInt _))=true then _ else _) Q E s
           rw [if_neg (by intro h;rw [hn,Bool.false_and] at h;cases h)]
           exact wpAny_pure hQ))
def Itl (K:PySem.W.Frag) (a:Addr):It :=
  ⟨fun i H=>∃ xs x,SqL K H a xs∧xs[i]?=some x,fun i H x H'=>H'=H∧∀ xs,SqL K H a xs→xs[i]?=some x,fun i H=>∃ xs,SqL K H a xs∧xs.length≤i⟩
def Itr (lo:Int) (n:Nat):It:=⟨fun i _=>i<n,fun i H x H'=>H'=H∧x=.int (lo + i),fun i _=>n≤i⟩
theorem tV {P:Program} {w:World} {K:PySem.W.Frag} {tg:Expr} (a it:Addr):Turn P w K tg (Itl K a) [it] it (fun i h=>h.IsListIter it a i) where
  mem:=by simp
  obj:=fun i h st b hb=>by
    have e:b=it:=by simpa using hb
    subst e
    obtain ⟨o,e,c,d⟩:=st
    exact ⟨o,e,fun v z=>by rw [d] at z;cases z⟩
  keep:=fun i h h' st k=>st.at fun o e=>k it (by simp) o e
  item:=by
    intro X hP hw hK hc i pins s σ H E I hf st hg
    subst hP hw hK
    obtain ⟨xs,x,hq,hx⟩:=hg
    obtain ⟨its,rv,p,hz⟩:=I.list hq
    obtain ⟨u,hu,ru⟩:=rv.get hx
    obtain ⟨f0,f1,f2,f3,f4,f5⟩:=hf it (by simp)
    refine wpAny_pyNext_list_item st p.isList (x:=u) (by simpa using hu) fun h' st' sb=>?_
    have I1:Inv X pins σ H { s with heap:=h' }:=I.turned (t':=s.toks) (fun b o hb e=>(sb.2 b hb).trans e) f0 f1 f3 f4 f5
    obtain ⟨o,e,c,d⟩:=id st'
    exact ⟨u,rfl,Oa (s:={ s with heap:=h' }) e c d (by decide) ⟨x,H,I1,ru,⟨rfl,fun ys hy=>by rw [I.BX hy hq];exact hx⟩,st',fun b hb=>(hf b hb).1⟩⟩
  done:=by
    intro X hP hw hK hc i pins s σ H E I hf st hg
    subst hP hw hK
    obtain ⟨xs,hq,hx⟩:=hg
    obtain ⟨its,rv,p,hz⟩:=I.list hq
    obtain ⟨f0,f1,f2,f3,f4,f5⟩:=hf it (by simp)
    have hl:=rv.length
    exact wpAny_pyNext_list_end (I.ok.hd hc) st p.isList (by simp;omega) fun h' eb=>⟨rfl,I.turned (t':=s.toks) (fun b o hb e=>eb b o hb e) f0 f1 f3 f4 f5⟩
  self:=fun _ _ _ _ _ st h=>wpAny_pyIter_listiter st h
theorem rW {P:Program} {w:World} {K:PySem.W.Frag} {tg:Expr} (it:Addr) (lo:Int) (n:Nat):Turn P w K tg (Itr lo n) [it] it (fun i h=>IsRangeIter h it (lo + (i:Nat) * 1) ((n:Int) - (i:Nat)) 1) where
  mem:=by simp
  obj:=fun i h st b hb=>by
    have e:b=it:=by simpa using hb
    subst e
    exact ⟨_,st,fun v z=>by
      have z':Data.fields _=Data.cell v:=z
      cases z'⟩
  keep:=fun i h h' st k=>k it (by simp) _ st
  item:=by
    intro X hP hw hK hc i pins s σ H E I hf st hg
    subst hP hw hK
    obtain ⟨f0,f1,f2,f3,f4,f5⟩:=hf it (by simp)
    have W:=Walks.range (prog:=X.prog) (w:=X.w) (I.ok.hd hc) it lo 1 n
    refine W.item i s _ _ hg st fun v h' tk hv st' kk=>?_
    obtain ⟨t,rfl⟩:=hv
    have I1:Inv X pins σ H { s with heap:=h',toks:=tk }:=I.turned (fun b o hb e=>kk b o (by simpa using hb) e) f0 f1 f3 f4 f5
    refine ⟨_,rfl,Oa (s:={ s with heap:=h',toks:=tk }) (n:="range_iterator") st' rfl rfl (by decide) ⟨.int (lo + i),H,I1,⟨t,?_⟩,⟨rfl,rfl⟩,st',fun b hb=>(hf b hb).1⟩⟩
    rw [Int.mul_one]
  done:=by
    intro X hP hw hK hc i pins s σ H E I hf st hg
    subst hP hw hK
    obtain ⟨f0,f1,f2,f3,f4,f5⟩:=hf it (by simp)
    exact wpAny_pyNext_range_end (I.ok.hd hc) st (by have:n≤i:=hg;omega) fun h' eb=>⟨rfl,I.turned (t':=s.toks) (fun b o hb e=>eb b o hb e) f0 f1 f3 f4 f5⟩
  self:=fun _ _ _ _ _ st h=>wpAny_pyIter_rangeiter st h
end L2
namespace L2
open PySem PySem.Spec PyProof.Rows
section
variable {X:Cx} {tg:Expr}
def UW (K:PySem.W.Frag) (tl:TE):TI:=fun σ H R=>tl σ H fun x H1=>∃ a,x=.ref a∧(∃ xs,SqL K H1 a xs)∧R (Itl K a) H1
theorem jY {l:Expr} {tl:TE} (hl:PE X l tl):PI X tg l (UW X.K tl):=by
  intro pins s σ H R I h
  refine thn (hl pins s σ H _ I h) fun v s1 ⟨x,H1,I1,r1,q1⟩=>?_
  obtain ⟨a,e,⟨xs,hq⟩,q⟩:=q1
  subst e
  cases r1
  obtain ⟨its,rv,p,hz⟩:=I1.list hq
  refine wpAny_pyIter_list p.isList ?_
  refine ⟨s1.heap.objs.size,[s1.heap.objs.size],_,_,H1,rfl,I1.kept (t':=s1.toks) fun b o e=>Heap.get?_push_of_some _ e,tV a _,⟨_,Heap.get?_push_size _ rfl,rfl,rfl⟩,fun b hb=>?_,q⟩
  have e:b=s1.heap.objs.size:=by simpa using hb
  subst e
  exact I1.U6 (Nat.le_refl _) (I1.hok.fresh (Nat.le_refl _))
theorem qT {pins:List (Addr × Obj)} {σ:St} {H:Hp} {s:Shared} {R:It→Hp→Prop} {E:Value→Shared→Prop} {lo hi:Int} {t u v:Tok} {tk:Nat} (I:Inv X pins σ H s) (h1:-(2 ^ 62)≤lo) (h2:lo<2 ^ 62) (h3:-(2 ^ 62)≤hi) (h4:hi<2 ^ 62)
    (q:R (Itr lo (hi - lo).toNat) H):wpAny (model X.prog X.w) X.A (pyIter (.ref s.heap.objs.size)) (PIE X pins σ tg R) E { s with heap:=s.heap.push { cls:=.type "range",data:=.fields #[.int lo t,.int hi u,.int 1 v] },toks:=tk }:=by
  refine wpAny_pyIter_range (IsRange.new ..) (small_one h1 h2 h3 h4) ?_
  have I1:Inv X pins σ H { s with heap:=s.heap.push { cls:=.type "range",data:=.fields #[.int lo t,.int hi u,.int 1 v] },toks:=tk }:=I.kept fun b o e=>Heap.get?_push_of_some _ e
  refine ⟨(s.heap.push { cls:=.type "range",data:=.fields #[.int lo t,.int hi u,.int 1 v] }).objs.size,[(s.heap.push { cls:=.type "range",data:=.fields #[.int lo t,.int hi u,.int 1 v] }).objs.size],_,_,H,rfl,
    I1.kept (t':=tk) fun b o e=>Heap.get?_push_of_some _ e,rW _ lo (hi - lo).toNat,?_,fun b hb=>?_,q⟩
  · have e1:lo + ((0:Nat):Int) * 1=lo:=by simp
    have e2:(((hi - lo).toNat:Nat):Int) - ((0:Nat):Int)=Builtin.Range.rangeSize lo hi 1:=by rw [rangeSize_one];split <;> omega
    show IsRangeIter _ _ (lo + ((0:Nat):Int) * 1) ((((hi - lo).toNat:Nat):Int) - ((0:Nat):Int)) 1
    rw [e1,e2]
    exact Heap.get?_push_size _ rfl
  · have e:b=(s.heap.push { cls:=.type "range",data:=.fields #[.int lo t,.int hi u,.int 1 v] }).objs.size:=by simpa using hb
    subst e
    exact I1.U6 (Nat.le_refl _) (I1.hok.fresh (Nat.le_refl _))
def UL (ta:TA):TI:=fun σ H R=>ta σ H fun vs H1=>∃ j:Int,vs=[.int j]∧-(2 ^ 62)≤j∧j<2 ^ 62∧R (Itr 0 j.toNat) H1
def UJ (ta:TA):TI:=fun σ H R=>ta σ H fun vs H1=>∃ i j:Int,vs=[.int i,.int j]∧(-(2 ^ 62)≤i∧i<2 ^ 62∧-(2 ^ 62)≤j∧j<2 ^ 62)∧R (Itr i (j - i).toNat) H1
theorem gG {a:Expr} {ta:TA} {p pos:Pos} (hg:Gl X "range") (hm:X.mg "range"=none) (ha:PA X [a] ta) (hs:starEach [a] X.env=[(false,eval a X.env)]:=by rfl):PI X tg (.Call (.Name "range" p) [a] [] pos) (UL ta):=by
  intro pins s σ H R I h
  refine Call_ (oZ I hg hm boot_range (PyProof.Rows.callWith_type1 (thn (ha pos pins s σ H _ I h) fun us s1 ⟨vs,H1,I1,r1,q1⟩=>?_) hs rfl))
  obtain ⟨j,e,q1,q2,q⟩:=q1
  subst e
  cases r1 with
  | cons r rr =>
    cases rr
    obtain ⟨t,rfl⟩:=r
    exact call_range_1 (qT I1 (by omega) (by omega) q1 q2 (by simpa using q))
theorem uE {a b:Expr} {ta:TA} {p pos:Pos} (hg:Gl X "range") (hm:X.mg "range"=none) (ha:PA X [a,b] ta) (hs:starEach [a,b] X.env=[(false,eval a X.env),(false,eval b X.env)]:=by rfl) (hs2:starEach [b] X.env=[(false,eval b X.env)]:=by rfl) :
    PI X tg (.Call (.Name "range" p) [a,b] [] pos) (UJ ta):=by
  intro pins s σ H R I h
  refine Call_ (oZ I hg hm boot_range (PyProof.Rows.callWith_type1 (thn (ha pos pins s σ H _ I h) fun us s1 ⟨vs,H1,I1,r1,q1⟩=>?_) (by rw [hs,hs2]) (by rw [hs2];rfl)))
  obtain ⟨i,j,e,⟨q1,q2,q3,q4⟩,q⟩:=q1
  subst e
  cases r1 with
  | cons r rr =>
    cases rr with
    | cons r' rr =>
      cases rr
      obtain ⟨t,rfl⟩:=r
      obtain ⟨t',rfl⟩:=r'
      exact call_range_2 (qT I1 q1 q2 q3 q4 q)
def tFor (wi:TI) (g:TG) (tb:TS):TS:=fun D σ H=>wi σ H fun J H1=>∃ W:Nat→Nat→St→Hp→Prop,(∃ m,W 0 m σ H1)∧∀ i m σ H,W i m σ H →
  (J.stop i H∧D.nx σ H)∨(J.go i H∧∃ N:St→Hp→Prop,(∀ σ' H',N σ' H'→∃ m',m'<m∧W (i + 1) m' σ' H')∧∀ x H',J.yld i H x H'→g x σ H' fun σ2 H2=>tb { D with nx:=N,ct:=N,bk:=D.nx } σ2 H2)
def oW (fp:List Addr) (h:Heap):List (Addr × Obj):=fp.filterMap fun b=>(h.get? b).map fun o=>(b,o)
theorem ju {fp:List Addr} {h:Heap} {b:Addr} {o:Obj} (hb:b∈fp) (e:h.get? b=some o):(b,o)∈oW fp h:=List.mem_filterMap.mpr ⟨b,hb,by rw [e];rfl⟩
theorem uU {fp:List Addr} {h:Heap} {p:Addr × Obj} (hp:p∈oW fp h):p.1∈fp∧h.get? p.1=some p.2:=by
  obtain ⟨b,hb,e⟩:=List.mem_filterMap.mp hp
  cases q:h.get? b with
  | none=>rw [q] at e;cases e
  | some o =>
    rw [q] at e
    have e':(b,o)=p:=Option.some.inj e
    subst e'
    exact ⟨hb,q⟩
theorem Inv.pinned {pins:List (Addr × Obj)} {σ:St} {H:Hp} {s:Shared} {fp:List Addr} (I:Inv X pins σ H s) (hf:∀ b∈fp,Lk X pins H b) (ho:∀ b∈fp,∃ o,s.heap.get? b=some o∧∀ v,o.data≠.cell v):Inv X (pins++oW fp s.heap) σ H s :=
  I.uD fun p hp=>(List.mem_append.mp hp).elim (fun z=>I.pin p (List.mem_append_right _ z)) fun z=>by
    obtain ⟨hb,e⟩:=uU z
    obtain ⟨f0,f1,f2,_⟩:=hf p.1 hb
    obtain ⟨o,e',d⟩:=ho p.1 hb
    rw [e] at e';cases e'
    exact ⟨e,f0,f1,f2,d⟩
theorem Inv.lu {pins pl:List (Addr × Obj)} {σ:St} {H:Hp} {s:Shared} (I:Inv X (pins++pl) σ H s):Inv X pins σ H s:=I.uD fun p hp=>I.pin p (List.mem_append_right _ (List.mem_append_left _ hp))
theorem kj {iter:Expr} {body:List Stmt} {wi:TI} {g:TG} {tb:TS} {pos:Pos} (hp:PassesOwn (model X.prog X.w) X.A X.env X.xe) (hc:X.calm=true) (hi:PI X tg iter wi) (hg:PG X tg g) (hb:PSs X body tb)
    (hs:∀ x,foldedSetIterable iter X.env x=pure x:=by intro _;rfl):PS X (.For tg iter body [] pos) (tFor wi g tb):=by
  intro pins s σ H D I h
  refine wpAny_For (thn (hi pins s σ H _ I h) fun v s1 h1=>thn h1 fun itv s2 h2=>?_) hs
  obtain ⟨it,fp,tn,J,H2,e,I2,T,st2,f2,W,⟨m0,w0⟩,turn⟩:=h2
  subst e
  have stat:∀ {H':Hp},(∀ b∈fp,H' b=none)→∀ b∈fp,Lk X pins H' b:=fun hn b hb=>⟨hn b hb,(f2 b hb).2⟩
  refine codeAny_forLoop_any (fun n s'=>∃ i σ' H',Inv X pins σ' H' s'∧tn i s'.heap∧(∀ b∈fp,H' b=none)∧W i n σ' H') ?_ m0 ⟨0,σ,H2,I2,st2,fun b hb=>(f2 b hb).1,w0⟩
  rintro n s3 ⟨i,σ3,H3,I3,st3,fr3,w3⟩
  rcases turn i n σ3 H3 w3 with ⟨stop,qn⟩ | ⟨go,N,hN,step⟩
  · refine wpAny_passesOwn hp (thn (T.done X rfl rfl rfl hc i pins s3 σ3 H3 X.xe I3 (stat fr3) st3 stop) fun r s4 ⟨hr,I4⟩=>?_)
    subst hr
    exact wpAny_execs_nil ⟨σ3,H3,I4,qn⟩
  · refine wpAny_passesOwn hp (thn (T.item X rfl rfl rfl hc i pins s3 σ3 H3 X.xe I3 (stat fr3) st3 go) fun r s4 ⟨u,hr,h4⟩=>?_)
    subst hr
    refine wpAny_passesOwn hp (thn h4 fun _ s5 ⟨x,H5,I5,r5,y5,st5,fr5⟩=>?_)
    have I5':=I5.pinned (stat fr5) (T.obj _ _ st5)
    refine wpAny_passesOwn hp (thn (hg _ s5 σ3 H5 x u _ I5' r5 (step x H5 y5)) fun _ s6 ⟨σ6,H6,I6,q6⟩=>?_)
    refine wpAny_passesOwn hp (thn (hb _ s6 σ6 H6 _ I6 q6) fun f s7 q7=>?_)
    have again:∀ {σ7:St} {H7:Hp},Inv X (pins++oW fp s5.heap) σ7 H7 s7→N σ7 H7→∃ m,m<n∧∃ i σ' H',Inv X pins σ' H' s7∧tn i s7.heap∧(∀ b∈fp,H' b=none)∧W i m σ' H':=fun {σ7 H7} I7 n7=>by
      obtain ⟨m',hm,w7⟩:=hN σ7 H7 n7
      refine ⟨m',hm,i + 1,σ7,H7,I7.lu,T.keep _ _ _ st5 fun b hb o e=>(I7.pin (b,o) (List.mem_append_right _ (List.mem_append_right _ (ju hb e)))).1,fun b hb=>?_,w7⟩
      obtain ⟨o,e,d⟩:=T.obj _ _ st5 b hb
      exact (I7.pin (b,o) (List.mem_append_right _ (List.mem_append_right _ (ju hb e)))).2.1
    cases f with
    | next=>obtain ⟨σ7,H7,I7,n7⟩:=q7;exact again I7 n7
    | cont=>obtain ⟨σ7,H7,I7,n7⟩:=q7;exact again I7 n7
    | brk=>obtain ⟨σ7,H7,I7,q7⟩:=q7;exact ⟨σ7,H7,I7.lu,q7⟩
    | ret v=>obtain ⟨x7,σ7,H7,I7,r7,q7⟩:=q7;exact ⟨x7,σ7,H7,I7.lu,r7,q7⟩
end
theorem rJ {K:PySem.W.Frag} {a:Addr} {xs:List V} {g:TG} {tb:TS} {D:Ends} {σ:St} {H:Hp} (Pv:Nat→St→Hp→Prop) (h0:Pv 0 σ H) (hl:∀ i σ H,i≤xs.length→Pv i σ H→SqL K H a xs)
    (hs:∀ i x σ H,xs[i]?=some x→Pv i σ H→g x σ H fun σ2 H2=>tb { D with nx:=Pv (i + 1),ct:=Pv (i + 1),bk:=D.nx } σ2 H2) (hd:∀ σ H,Pv xs.length σ H→D.nx σ H) :
    ∃ W:Nat→Nat→St→Hp→Prop,(∃ m,W 0 m σ H)∧∀ i m σ H,W i m σ H →
      ((Itl K a).stop i H∧D.nx σ H)∨((Itl K a).go i H∧∃ N:St→Hp→Prop,(∀ σ' H',N σ' H'→∃ m',m'<m∧W (i + 1) m' σ' H')∧∀ x H',(Itl K a).yld i H x H'→g x σ H' fun σ2 H2=>tb { D with nx:=N,ct:=N,bk:=D.nx } σ2 H2):=by
  refine ⟨fun i m σ H=>m=xs.length - i∧i≤xs.length∧Pv i σ H,⟨xs.length,by simp,Nat.zero_le _,h0⟩,?_⟩
  rintro i m σ H ⟨rfl,hi,p⟩
  have q:=hl i σ H hi p
  by_cases hlt:i<xs.length
  · refine .inr ⟨⟨xs,xs[i],q,by simp [hlt]⟩,Pv (i + 1),fun σ' H' p'=>⟨xs.length - (i + 1),by omega,rfl,hlt,p'⟩,fun x H' y=>?_⟩
    obtain ⟨e,y⟩:=y
    subst e
    exact hs i x σ _ (y xs q) p
  · have e:i=xs.length:=by omega
    subst e
    exact .inl ⟨⟨xs,q,Nat.le_refl _⟩,hd σ H p⟩
theorem iQ {lo:Int} {n:Nat} {g:TG} {tb:TS} {D:Ends} {σ:St} {H:Hp} (Pv:Nat→St→Hp→Prop) (h0:Pv 0 σ H)
    (hs:∀ i σ H,i<n→Pv i σ H→g (.int (lo + i)) σ H fun σ2 H2=>tb { D with nx:=Pv (i + 1),ct:=Pv (i + 1),bk:=D.nx } σ2 H2) (hd:∀ σ H,Pv n σ H→D.nx σ H) :
    ∃ W:Nat→Nat→St→Hp→Prop,(∃ m,W 0 m σ H)∧∀ i m σ H,W i m σ H →
      ((Itr lo n).stop i H∧D.nx σ H)∨((Itr lo n).go i H∧∃ N:St→Hp→Prop,(∀ σ' H',N σ' H'→∃ m',m'<m∧W (i + 1) m' σ' H')∧∀ x H',(Itr lo n).yld i H x H'→g x σ H' fun σ2 H2=>tb { D with nx:=N,ct:=N,bk:=D.nx } σ2 H2):=by
  refine ⟨fun i m σ H=>m=n - i∧i≤n∧Pv i σ H,⟨n,by simp,Nat.zero_le _,h0⟩,?_⟩
  rintro i m σ H ⟨rfl,hi,p⟩
  by_cases hlt:i<n
  · refine .inr ⟨hlt,Pv (i + 1),fun σ' H' p'=>⟨n - (i + 1),by omega,rfl,hlt,p'⟩,fun x H' y=>?_⟩
    obtain ⟨e,y⟩:=y
    subst e y
    exact hs i σ _ hlt p
  · have e:i=n:=by omega
    subst e
    exact .inl ⟨Nat.le_refl _,hd σ H p⟩
end L2
namespace L2
open PySem PySem.Spec PyProof.Rows
abbrev R2:=V→V→Hp→VK→Prop
def OpR (X:Cx) (f:Value→Value→Sem Value) (r:R2):Prop :=
  ∀ (pins:List (Addr × Obj)) (s:Shared) (σ:St) (H:Hp) (x y:V) (v u:Value) (Q:VK),Inv X pins σ H s→RelV x v→RelV y u→r x y H Q →
    wpAny (model X.prog X.w) X.A (f v u) (EP X pins σ Q) X.xe s
def UnR (X:Cx) (f:Value→Sem Value) (r:V→Hp→VK→Prop):Prop :=
  ∀ (pins:List (Addr × Obj)) (s:Shared) (σ:St) (H:Hp) (x:V) (v:Value) (Q:VK),Inv X pins σ H s→RelV x v→r x H Q →
    wpAny (model X.prog X.w) X.A (f v) (EP X pins σ Q) X.xe s
def mC (X:Cx) (f:Value) (r:List V→Hp→VK→Prop):Prop :=
  ∀ (pins:List (Addr × Obj)) (s:Shared) (σ:St) (H:Hp) (xs:List V) (us:List Value) (Q:VK),Inv X pins σ H s→Vals xs us→r xs H Q →
    wpAny (model X.prog X.w) X.A (call f us) (EP X pins σ Q) X.xe s
def tOp (r:R2) (ta tb:TE):TE:=fun σ H Q=>ta σ H fun x H1=>tb σ H1 fun y H2=>r x y H2 Q
def tUn (r:V→Hp→VK→Prop) (ta:TE):TE:=fun σ H Q=>ta σ H fun x H1=>r x H1 Q
def rI (C:Int→Int→Prop) (g:Int→Int→V):R2:=fun x y H Q=>∃ i j,x=.int i∧y=.int j∧C i j∧Q (g i j) H
def rI0 (g:Int→Int→V):R2:=fun x y H Q=>∃ i j,x=.int i∧y=.int j∧Q (g i j) H
def rU (g:Int→V):V→Hp→VK→Prop:=fun x H Q=>∃ i,x=.int i∧Q (g i) H
section
variable {X:Cx} {a b c:Expr} {ta tb tc:TE} {pos:Pos}
theorem Ue (ha:PE X a ta) (hb:PE X b tb) {pins:List (Addr × Obj)} {s:Shared} {σ:St} {H:Hp} {R:V→V→Hp→Prop} (I:Inv X pins σ H s)
    (h:ta σ H fun x H1=>tb σ H1 fun y H2=>R x y H2) {Q:Value→Shared→Prop} {f:Value→Value→Sem Value}
    (hf:∀ v u s2 x y H2,Inv X pins σ H2 s2→RelV x v→RelV y u→R x y H2→wpAny (model X.prog X.w) X.A (f v u) Q X.xe s2) :
    wpAny (model X.prog X.w) X.A (eval a X.env) (fun v s₁=>wpAny (model X.prog X.w) X.A (eval b X.env) (fun u s₂=>wpAny (model X.prog X.w) X.A (f v u) Q X.xe s₂) X.xe s₁) X.xe s:=by
  refine thn (ha pins s σ H _ I h) fun v s1 ⟨x,H1,I1,r1,q1⟩=>?_
  refine thn (hb pins s1 σ H1 _ I1 q1) fun u s2 ⟨y,H2,I2,r2,q2⟩=>?_
  exact hf v u s2 x y H2 I2 r1 r2 q2
theorem aV {op:Operator} {r:R2} (ho:OpR X (binaryOp op) r) (ha:PE X a ta) (hb:PE X b tb):PE X (.BinOp a op b pos) (tOp r ta tb):=by
  intro pins s σ H Q I h
  exact wpAny_BinOp (Ue ha hb I h fun v u s2 x y H2 I2 rx ry q=>ho pins s2 σ H2 x y v u Q I2 rx ry q)
theorem lZ {op:UnaryOp} {r:V→Hp→VK→Prop} (ho:UnR X (unaryOp op) r) (ha:PE X a ta):PE X (.UnaryOp op a pos) (tUn r ta):=by
  intro pins s σ H Q I h
  exact UnaryOp_ (thn (ha pins s σ H _ I h) fun v s1 ⟨x,H1,I1,r1,q1⟩=>ho pins s1 σ H1 x v Q I1 r1 q1)
theorem opI {f:Value→Value→Sem Value} {C:Int→Int→Prop} {g:Int→Int→Int}
    (rule:∀ (i j:Int) (t u:Tok) (s:Shared) (Q:Value→Shared→Prop) (E:Value→Shared→Prop),C i j→Q (.int (g i j) s.toks) { s with toks:=s.toks + 1 }→wpAny (model X.prog X.w) X.A (f (.int i t) (.int j u)) Q E s) :
    OpR X f (rI C fun i j=>.int (g i j)):=by
  intro pins s σ H x y v u Q I rx ry h
  obtain ⟨i,j,rfl,rfl,hc,q⟩:=h
  obtain ⟨t,rfl⟩:=rx
  obtain ⟨t',rfl⟩:=ry
  exact rule i j t t' s _ _ hc ⟨.int (g i j),H,I.tok _,⟨_,rfl⟩,q⟩
theorem Vm {f:Value→Value→Sem Value} {g:Int→Int→Int}
    (rule:∀ (i j:Int) (t u:Tok) (s:Shared) (Q:Value→Shared→Prop) (E:Value→Shared→Prop),Q (.int (g i j) s.toks) { s with toks:=s.toks + 1 }→wpAny (model X.prog X.w) X.A (f (.int i t) (.int j u)) Q E s) :
    OpR X f (rI0 fun i j=>.int (g i j)):=by
  intro pins s σ H x y v u Q I rx ry h
  obtain ⟨i,j,rfl,rfl,q⟩:=h
  obtain ⟨t,rfl⟩:=rx
  obtain ⟨t',rfl⟩:=ry
  exact rule i j t t' s _ _ ⟨.int (g i j),H,I.tok _,⟨_,rfl⟩,q⟩
theorem Ud {f:Value→Value→Sem Value} {g:Int→Int→Bool}
    (rule:∀ (i j:Int) (t u:Tok) (s:Shared) (Q:Value→Shared→Prop) (E:Value→Shared→Prop),Q (.bool (g i j)) s→wpAny (model X.prog X.w) X.A (f (.int i t) (.int j u)) Q E s) :
    OpR X f (rI0 fun i j=>.bl (g i j)):=by
  intro pins s σ H x y v u Q I rx ry h
  obtain ⟨i,j,rfl,rfl,q⟩:=h
  obtain ⟨t,rfl⟩:=rx
  obtain ⟨t',rfl⟩:=ry
  exact rule i j t t' s _ _ ⟨.bl (g i j),H,I,rfl,q⟩
def Vs (i j:Int):Prop:=0<j∧j<1073741824
def CPow (i j:Int):Prop:=0≤j∧j≤1000000∧i.natAbs<2 ^ 64
def Vd (i j:Int):Prop:=(-(2 ^ 64)<i∧i<2 ^ 64)∨(-(2 ^ 64)<j∧j<2 ^ 64)
theorem Vd.ok {i j:Int} (h:Vd i j):IntMulOk i j:=by
  rcases h with ⟨h1,h2⟩ | ⟨h1,h2⟩
  · exact .of_left (intBits_le_64 h1 h2)
  · exact .of_right (intBits_le_64 h1 h2)
theorem gq:OpR X (binaryOp .Add) (rI0 fun i j=>.int (i + j)):=Vm fun _ _ _ _ _ _ _ q=>add_int q
theorem qZ:OpR X (binaryOp .Sub) (rI0 fun i j=>.int (i - j)):=Vm fun _ _ _ _ _ _ _ q=>sub_int q
theorem rz:OpR X (binaryOp .Mult) (rI Vd fun i j=>.int (i * j)):=opI fun _ _ _ _ _ _ _ hc q=>mul_int q hc.ok
theorem iu:OpR X (binaryOp .FloorDiv) (rI Vs fun i j=>.int (i / j)):=opI fun i j _ _ _ _ _ hc q=>by
  have h1:(0:Int)<j:=hc.1
  have h2:j<1073741824:=hc.2
  exact floordiv_int (by omega) (by rw [Int.fdiv_eq_ediv_of_nonneg i (by omega)];exact q) (.inl (PyProof.noPylong_small (by omega)))
theorem cZ:OpR X (binaryOp .Mod) (rI (fun _ j=>0<j) fun i j=>.int (i % j)):=opI fun i j _ _ _ _ _ hc q=>by
  have h1:(0:Int)<j:=hc
  exact mod_int' (by omega) (by rw [Int.fmod_eq_emod_of_nonneg i (by omega)];exact q)
theorem mL:OpR X (binaryOp .Pow) (rI CPow fun i j=>.int (i ^ j.toNat)):=opI fun _ _ _ _ _ _ _ hc q=>pow_int_small hc.1 hc.2.1 hc.2.2 q
theorem unI {f:Value→Sem Value} {g:Int→Int}
    (rule:∀ (i:Int) (t:Tok) (s:Shared) (Q:Value→Shared→Prop) (E:Value→Shared→Prop),Q (.int (g i) s.toks) { s with toks:=s.toks + 1 }→wpAny (model X.prog X.w) X.A (f (.int i t)) Q E s) :
    UnR X f (rU fun i=>.int (g i)):=by
  intro pins s σ H x v Q I rx h
  obtain ⟨i,rfl,q⟩:=h
  obtain ⟨t,rfl⟩:=rx
  exact rule i t s _ _ ⟨.int (g i),H,I.tok _,⟨_,rfl⟩,q⟩
theorem jz:UnR X (unaryOp .USub) (rU fun i=>.int (-i)):=unI fun _ _ _ _ _ q=>neg_int q
end
def Vh:V→V→Bool
  | .non,.non=>true | .non,.int _=>true | .int _,.non=>true | .non,.bl _=>true | .bl _,.non=>true | .non,.str _=>true | .str _,.non=>true
  | .int _,.int _=>true | .bl _,.bl _=>true | .str _,.str _=>true | .byt _,.byt _=>true
  | .int _,.str _=>true | .str _,.int _=>true | .bl _,.str _=>true | .str _,.bl _=>true
  | _,_=>false
def rEq:R2:=fun x y H Q=>Vh x y=true∧Q (.bl (decide (x=y))) H
def rNe:R2:=fun x y H Q=>Vh x y=true∧Q (.bl (!decide (x=y))) H
theorem Ab {i j:Int}:decide (V.int i=V.int j)=(i == j):=by
  rw [Bool.eq_iff_iff]
  simp
theorem Lf {i j:Bool}:decide (V.bl i=V.bl j)=(i == j):=by
  rw [Bool.eq_iff_iff]
  simp
theorem Aa {i j:Str}:decide (V.str i=V.str j)=(i == j):=by
  rw [Bool.eq_iff_iff]
  simp
theorem Ac {i j:Array UInt8}:decide (V.byt i=V.byt j)=(i.toList == j.toList):=by
  rw [Bool.eq_iff_iff]
  cases i
  cases j
  simp
section
variable {X:Cx} {a b c:Expr} {ta tb tc:TE} {pos:Pos}
theorem cB {pins:List (Addr × Obj)} {σ:St} {H:Hp} {s:Shared} {Q:VK} {k k':Bool} (I:Inv X pins σ H s) (q:Q (.bl k) H) (e:k=k'):EP X pins σ Q (.bool k') s:=by
  subst e
  exact ⟨.bl k,H,I,rfl,q⟩
theorem jy:OpR X (compareOp .Eq) rEq:=by
  intro pins s σ H x y v u Q I rx ry h
  obtain ⟨hs,q⟩:=h
  cases x with
  | non =>
    cases rx
    cases y with
    | non=>cases ry;exact PySem.EqNone.eq_none_none (cB I q (by simp))
    | bl j=>cases ry;exact PySem.EqNone.eq_none_bool (cB I q (by simp))
    | int j=>obtain ⟨t',rfl⟩:=ry;exact PySem.EqNone.eq_none_int (cB I q (by simp))
    | str j=>obtain ⟨t',rfl⟩:=ry;exact PySem.EqNone.eq_none_str (cB I q (by simp))
    | _=>exact absurd (show false=true from hs) Bool.false_ne_true
  | bl i =>
    cases rx
    cases y with
    | non=>cases ry;exact PySem.EqNone.eq_bool_none (cB I q (by simp))
    | bl j=>cases ry;exact eq_bool (cB I q Lf)
    | str j=>obtain ⟨t',rfl⟩:=ry;exact PySem.EqMixed.eq_bool_str (cB I q (by simp))
    | _=>exact absurd (show false=true from hs) Bool.false_ne_true
  | int i =>
    obtain ⟨t,rfl⟩:=rx
    cases y with
    | non=>cases ry;exact PySem.EqNone.eq_int_none (cB I q (by simp))
    | int j=>obtain ⟨t',rfl⟩:=ry;exact eq_int (cB I q Ab)
    | str j=>obtain ⟨t',rfl⟩:=ry;exact PySem.EqMixed.eq_int_str (cB I q (by simp))
    | _=>exact absurd (show false=true from hs) Bool.false_ne_true
  | str i =>
    obtain ⟨t,rfl⟩:=rx
    cases y with
    | non=>cases ry;exact PySem.EqNone.eq_str_none (cB I q (by simp))
    | bl j=>cases ry;exact PySem.EqMixed.eq_str_bool (cB I q (by simp))
    | int j=>obtain ⟨t',rfl⟩:=ry;exact PySem.EqMixed.eq_str_int (cB I q (by simp))
    | str j=>obtain ⟨t',rfl⟩:=ry;exact eq_str (cB I q Aa)
    | _=>exact absurd (show false=true from hs) Bool.false_ne_true
  | byt i =>
    obtain ⟨t,rfl⟩:=rx
    cases y with
    | byt j=>obtain ⟨t',rfl⟩:=ry;exact PySem.W.eq_bytes (cB I q Ac)
    | _=>exact absurd (show false=true from hs) Bool.false_ne_true
  | _=>cases y <;> exact absurd (show false=true from hs) Bool.false_ne_true
theorem p8:OpR X (compareOp .NotEq) rNe:=by
  intro pins s σ H x y v u Q I rx ry h
  obtain ⟨hs,q⟩:=h
  cases x with
  | non =>
    cases rx
    cases y with
    | non=>cases ry;exact PySem.EqNone.ne_none_none (cB I q (by simp))
    | bl j=>cases ry;exact PySem.EqNone.ne_none_bool (cB I q (by simp))
    | int j=>obtain ⟨t',rfl⟩:=ry;exact PySem.EqNone.ne_none_int (cB I q (by simp))
    | str j=>obtain ⟨t',rfl⟩:=ry;exact PySem.EqNone.ne_none_str (cB I q (by simp))
    | _=>exact absurd (show false=true from hs) Bool.false_ne_true
  | bl i =>
    cases rx
    cases y with
    | non=>cases ry;exact PySem.EqNone.ne_bool_none (cB I q (by simp))
    | bl j=>cases ry;exact ne_bool (cB I q (congrArg not Lf))
    | str j=>obtain ⟨t',rfl⟩:=ry;exact PySem.EqMixed.ne_bool_str (cB I q (by simp))
    | _=>exact absurd (show false=true from hs) Bool.false_ne_true
  | int i =>
    obtain ⟨t,rfl⟩:=rx
    cases y with
    | non=>cases ry;exact PySem.EqNone.ne_int_none (cB I q (by simp))
    | int j=>obtain ⟨t',rfl⟩:=ry;exact ne_int (cB I q (congrArg not Ab))
    | str j=>obtain ⟨t',rfl⟩:=ry;exact PySem.EqMixed.ne_int_str (cB I q (by simp))
    | _=>exact absurd (show false=true from hs) Bool.false_ne_true
  | str i =>
    obtain ⟨t,rfl⟩:=rx
    cases y with
    | non=>cases ry;exact PySem.EqNone.ne_str_none (cB I q (by simp))
    | bl j=>cases ry;exact PySem.EqMixed.ne_str_bool (cB I q (by simp))
    | int j=>obtain ⟨t',rfl⟩:=ry;exact PySem.EqMixed.ne_str_int (cB I q (by simp))
    | str j=>obtain ⟨t',rfl⟩:=ry;exact ne_str (cB I q (congrArg not Aa))
    | _=>exact absurd (show false=true from hs) Bool.false_ne_true
  | byt i =>
    obtain ⟨t,rfl⟩:=rx
    cases y with
    | byt j=>obtain ⟨t',rfl⟩:=ry;exact PySem.W.ne_bytes (cB I q (congrArg not Ac))
    | _=>exact absurd (show false=true from hs) Bool.false_ne_true
  | _=>cases y <;> exact absurd (show false=true from hs) Bool.false_ne_true
theorem nC:OpR X (compareOp .Lt) (rI0 fun i j=>.bl (decide (i<j))):=Ud fun _ _ _ _ _ _ _ q=>lt_int q
theorem jJ:OpR X (compareOp .LtE) (rI0 fun i j=>.bl (decide (i≤j))):=Ud fun _ _ _ _ _ _ _ q=>le_int q
theorem Bk:OpR X (compareOp .Gt) (rI0 fun i j=>.bl (decide (j<i))):=Ud fun _ _ _ _ _ _ _ q=>gt_int q
theorem Mj:OpR X (compareOp .GtE) (rI0 fun i j=>.bl (decide (j≤i))):=Ud fun _ _ _ _ _ _ _ q=>ge_int q
theorem uL:OpR X (compareOp .In) (fun x y H Q=>∃ i j,x=.str i∧y=.str j∧Q (.bl (!(Builtin.Str.occurrences j i 0 j.length 1).isEmpty)) H):=by
  intro pins s σ H x y v u Q I rx ry h
  obtain ⟨i,j,rfl,rfl,q⟩:=h
  obtain ⟨t,rfl⟩:=rx
  obtain ⟨t',rfl⟩:=ry
  exact in_str (cB I q rfl)
theorem Dp:OpR X (compareOp .Is) (fun x y H Q=>y=.non∧Q (.bl (decide (x=.non))) H):=by
  intro pins s σ H x y v u Q I rx ry h
  obtain ⟨rfl,q⟩:=h
  cases ry
  refine is_none_gen (cB I q ?_)
  cases x <;> first
    | (cases rx;rfl)
    | (obtain ⟨t,rfl⟩:=rx;rfl)
theorem bx (b:Expr) {op:CmpOp} (h:op≠.In:=by decide) (h2:op≠.NotIn:=by decide):behindInMarks op b=false:=by
  have e1:(op == CmpOp.In)=false:=by cases op <;> first | rfl | exact absurd rfl h
  have e2:(op == CmpOp.NotIn)=false:=by cases op <;> first | rfl | exact absurd rfl h2
  cases b <;> simp [behindInMarks,e1,e2]
theorem iI {op:CmpOp} {r:R2} (ho:OpR X (compareOp op) r) (ha:PE X a ta) (hb:PE X b tb) (hm:behindInMarks op b=false):PE X (.Compare a [op] [b] pos) (tOp r ta tb):=by
  intro pins s σ H Q I h
  exact wpAny_Compare1 (Ue ha hb I h fun v u s2 x y H2 I2 rx ry q=>ho pins s2 σ H2 x y v u Q I2 rx ry q) hm
def Lw (t:TE):TT:=fun σ H Q=>t σ H fun x H'=>∃ k,x=.bl k∧Q k H'
theorem aY {op:CmpOp} {r:R2} (ho:OpR X (compareOp op) r) (ha:PE X a ta) (hb:PE X b tb) (hm:behindInMarks op b=false):PT X (.Compare a [op] [b] pos) (Lw (tOp r ta tb)):=by
  intro pins s σ H Q I h
  refine wpAny_isTrue_Compare1 (thn (ha pins s σ H _ I h) fun v s1 ⟨x,H1,I1,r1,q1⟩=>thn (hb pins s1 σ H1 _ I1 q1) fun u s2 ⟨y,H2,I2,r2,q2⟩ =>
    thn (ho pins s2 σ H2 x y v u _ I2 r1 r2 q2) fun c s3 ⟨z,H3,I3,r3,k,e,q3⟩=>?_) hm
  subst e
  cases r3
  exact wpAny_truthy_bool ⟨H3,I3,q3⟩
def CZ (r r':R2) (ta tb tc:TE):TE:=fun σ H Q=>ta σ H fun x H1=>tb σ H1 fun y H2=>r x y H2 fun z H3=>∃ k,z=.bl k ∧
  (if k=true then tc σ H3 fun w' H4=>r' y w' H4 Q else Q (.bl false) H3)
theorem nu {op op':CmpOp} {r r':R2} (ho:OpR X (compareOp op) r) (ho':OpR X (compareOp op') r') (ha:PE X a ta) (hb:PE X b tb) (hc:PE X c tc)
    (hm:lastMarks [op,op'] [b,c]=false:=by with_unfolding_all rfl):PE X (.Compare a [op,op'] [b,c] pos) (CZ r r' ta tb tc):=by
  intro pins s σ H Q I h
  refine Compare_chain (thn (ha pins s σ H _ I h) fun v s1 ⟨x,H1,I1,r1,q1⟩=>chain_link (thn (hb pins s1 σ H1 _ I1 q1) fun u s2 ⟨y,H2,I2,r2,q2⟩ =>
    thn (ho pins s2 σ H2 x y v u _ I2 r1 r2 q2) fun d s3 ⟨z,H3,I3,r3,k,e,q3⟩=>?_)) hm
  subst e
  cases r3
  refine wpAny_truthy_bool ?_
  cases k with
  | false=>exact ite_ff ⟨.bl false,H3,I3,rfl,q3⟩
  | true=>exact ite_tt (chain_last (thn (hc pins s3 σ H3 _ I3 q3) fun w' s4 ⟨z',H4,I4,r4,q4⟩=>ho' pins s4 σ H4 y z' u w' Q I4 r2 r4 q4))
theorem iU {op op':CmpOp} {r r':R2} (ho:OpR X (compareOp op) r) (ho':OpR X (compareOp op') r') (ha:PE X a ta) (hb:PE X b tb) (hc:PE X c tc)
    (hm:lastMarks [op,op'] [b,c]=false:=by with_unfolding_all rfl):PT X (.Compare a [op,op'] [b,c] pos) (Lw (CZ r r' ta tb tc)):=by
  intro pins s σ H Q I h
  refine isTrue_chain (thn (ha pins s σ H _ I h) fun v s1 ⟨x,H1,I1,r1,q1⟩=>test_link (thn (hb pins s1 σ H1 _ I1 q1) fun u s2 ⟨y,H2,I2,r2,q2⟩ =>
    thn (ho pins s2 σ H2 x y v u _ I2 r1 r2 q2) fun d s3 ⟨z,H3,I3,r3,k,e,q3⟩=>?_)) hm
  subst e
  cases r3
  refine wpAny_truthy_bool ?_
  cases k with
  | false =>
    obtain ⟨k',e',q'⟩:=q3
    cases e'
    exact ite_ff ⟨H3,I3,q'⟩
  | true =>
    refine ite_tt (test_last (thn (hc pins s3 σ H3 _ I3 q3) fun w' s4 ⟨z',H4,I4,r4,q4⟩=>thn (ho' pins s4 σ H4 y z' u w' _ I4 r2 r4 q4) fun d' s5 ⟨z2,H5,I5,r5,k2,e2,q5⟩=>?_))
    subst e2
    cases r5
    exact wpAny_truthy_bool ⟨H5,I5,q5⟩
theorem mQ:(sizeLine:Nat)<2 ^ 63:=by rw [sizeLine_eq];decide
theorem sI:OpR X (binaryOp .Add) (fun x y H Q=>∃ i j,x=.str i∧y=.str j∧i.length + j.length≤sizeLine∧Q (.str (i++j)) H):=by
  intro pins s σ H x y v u Q I rx ry h
  obtain ⟨i,j,rfl,rfl,hz,q⟩:=h
  obtain ⟨t,rfl⟩:=rx
  obtain ⟨t',rfl⟩:=ry
  exact add_str (fun t' tk=>⟨.str (i++j),H,I.tok _,⟨_,rfl⟩,q⟩) hz
def CK (b:Expr):Prop:=∀ o i,subscripted b false o i=operate [o,i] (getItem o i)
theorem pZ (ha:PE X a ta) (hb:PE X b tb) (hs:CK b) :
    PE X (.Subscript a b pos) (tOp (fun x y H Q=>∃ z i c,x=.str z∧y=.int i∧0≤i∧i<2 ^ 63∧i<z.length∧z.cps[i.toNat]?=some c∧Q (.str ⟨#[c]⟩) H) ta tb):=by
  intro pins s σ H Q I h
  refine Subscript_ (Ue ha hb I h fun v u s2 x y H2 I2 rx ry q=>?_)
  obtain ⟨z,i,c,rfl,rfl,h0,h63,h1,hc,q⟩:=q
  obtain ⟨t,rfl⟩:=rx
  obtain ⟨t',rfl⟩:=ry
  have e:seqIndex? i z.length=some i.toNat:=PySem.StrLaws.seqIndex_nonneg h0 h1
  exact tail_any (typeIs_str s2 z t) slot_str_getitem.lookup (getItem_str (c:=c) (by
    have e1:decide (i < -(2 ^ 63:Int))=false:=decide_eq_false (by omega)
    have e2:decide (i ≥ 2 ^ 63)=false:=decide_eq_false (by omega)
    rw [e1,e2] <;> rfl) (by rw [e];exact hc) ⟨.str ⟨#[c]⟩,H2,I2.tok _,⟨_,rfl⟩,q⟩) (hs _ _)
theorem vals1 {x:V} {us:List Value} (r:Vals [x] us):∃ u,us=[u]∧RelV x u:=by
  cases r with
  | cons r1 r2=>cases r2;exact ⟨_,rfl,r1⟩
theorem vals2 {x y:V} {us:List Value} (r:Vals [x,y] us):∃ u w',us=[u,w']∧RelV x u∧RelV y w':=by
  cases r with
  | cons r1 r2 =>
    cases r2 with
    | cons r3 r4=>cases r4;exact ⟨_,_,rfl,r1,r3⟩
end
end L2
namespace L2
open PySem PySem.Spec PyProof.Rows
structure Oq (h:Heap) (x dx C:Addr) (mA:Str→Option Value):Prop where
  obj:h.get? x=some (PySem.W.instObj C dx)
  ns:h.Ns1 dx mA
  ne:dx≠x
theorem uX {h:Heap} {dx:Addr} {mA:Str→Option Value} (n:h.Ns1 dx mA):∃ od,h.get? dx=some od∧∀ name,PySem.W.lookIn name od=some (mA name):=by
  obtain ⟨o,es,ep,ho,hd,hk,_,hm⟩:=n
  refine ⟨o,ho,fun name=>?_⟩
  have e:=hm name
  unfold nsFind findBy at e
  rw [← Array.find?_toList] at e
  unfold PySem.W.lookIn
  rw [hd]
  dsimp only
  split
  · rename_i y q
    rw [q] at e
    exact congrArg some e
  · rename_i q
    rw [q] at e
    have a:es.toList.any (·.refKey)=false:=by
      rw [List.any_eq_false]
      intro y hy
      obtain ⟨z,t,hkey⟩:=hk y (Array.mem_toList_iff.mp hy)
      simp [DictEntry.refKey,hkey]
    have a':¬ es.toList.any (·.refKey)=true:=by rw [a];exact Bool.false_ne_true
    rw [if_neg a']
    exact congrArg some e
theorem Oq.look {h:Heap} {x dx C:Addr} {mA:Str→Option Value} (I:Oq h x dx C mA):∃ od,PySem.W.InstAt h x (PySem.W.instObj C dx) C (some od)∧∀ name,PySem.W.lookIn name od=some (mA name) :=
  let ⟨od,ho,hl⟩:=uX I.ns
  ⟨od,⟨I.obj,rfl,rfl,ho⟩,hl⟩
section
variable {prog:Program} {w:World} {A:Around} {E:Value→Shared→Prop} {s:Shared} {K:PySem.W.Frag} {x dx C f:Addr} {mA:Str→Option Value} {name:Str} {v:Value}
theorem get_map {expr:Bool} {Q:Value→Shared→Prop} (X:K.In s.heap) (I:Oq s.heap x dx C mA) (hg:PySem.W.plainGet K C name=true) (hh:PySem.W.hasDictIn K C=true)
    (ha:PySem.W.findIn K (.ref C) name=some none) (hv:mA name=some v) (hv':PySem.W.handedIn v=true) (h:Q v { s with toks:=s.toks + 1 }) :
    wpAny (model prog w) A (getAttr (.ref x) name expr) Q E s:=by
  obtain ⟨od,J,hl⟩:=I.look
  exact PySem.W.get_value X J (PySem.W.plainGet_of hg).1 (PySem.W.findObj_own hh ha rfl (by rw [hl,hv])) hv' h
theorem Cm {pl:Sem Bool} {Q:Value × List Value→Shared→Prop} (X:K.In s.heap) (I:Oq s.heap x dx C mA) (hg:PySem.W.plainGet K C name=true)
    (hf:PySem.W.findIn K (.ref C) name=some (some (.ref f))) (ht:PySem.W.isFn K (.ref f)=true) (hv:mA name=none) (h:Q (.ref f,[.ref x]) s) :
    wpAny (model prog w) A (getMethod (.ref x) name pl) Q E s:=by
  obtain ⟨od,J,hl⟩:=I.look
  exact PySem.W.method_fn X J (PySem.W.plainGet_of hg).1 (PySem.W.plainGet_of hg).2 hf (beq_iff_eq.mp ht) (by show (PySem.W.lookIn name od).map (·.isSome)=some false;rw [hl,hv];rfl) h
theorem LK {ns:List Str} {Q:Unit→Shared→Prop} (X:K.In s.heap) (I:Oq s.heap x dx C mA)
    (hs:PySem.W.findIn K (.ref C) "__setattr__"=some (some (.builtin "object.__setattr__"))) (hp:PySem.W.plainOver K C=true) (ht:PySem.W.takerIn K C name=some none) (hh:PySem.W.hasDictIn K C=true)
    (hw:PySem.Within mA ns) (hsz:ns.length≤sizeLine)
    (h:∀ h',Oq h' x dx C (fun y=>if y=name then some v else mA y)→Heap.SameBut dx s.heap h'→Q () { s with heap:=h',toks:=s.toks + 2 }) :
    wpAny (model prog w) A (setAttr (.ref x) name v) Q E s:=by
  obtain ⟨od,J,hl⟩:=I.look
  refine PySem.W.set_plain X J hs (PySem.W.osa_open (s:={ s with toks:=s.toks + 1 }) (r:=none) X J hp ht fun b=>?_)
  obtain ⟨cd,hc,hd'⟩:=PySem.W.any_some hh
  have hx:s.heap.get? x=some ⟨.ref C,some dx,.plain,#[]⟩:=I.obj
  refine wpAny_bind (wpAny_pure (wpAny_bind (wpAny_bind (wpAny_loadPart hx (wpAny_bind (PySem.W.Looks.here (s:={ s with toks:=s.toks + 1 }) (PySem.W.looks_clsIn X hc) ?_))))))
  rw [hd']
  refine wpAny_pure (a:=some dx) (wpAny_bind (wpAny_pure (wpAny_bind ?_)))
  refine wpAny_nsSet1 (s:={ s with toks:=s.toks + 1 }) I.ns fun h' hn2 hs2=>?_
  obtain ⟨oD,esD,epD,hoD,hdD,hcD⟩:=hn2.count (PySem.Within.cons name v hw)
  refine wpAny_bind (wpAny_lookBehind hoD (by rw [hdD];exact pastItsLine_dict (Nat.le_trans hcD (by rw [List.length_cons];omega))) ?_)
  exact wpAny_pure (h _ ⟨(hs2.2 _ (Ne.symm I.ne)).trans I.obj,hn2,I.ne⟩ hs2)
theorem BW {R:Result→Shared→Prop} {vs:List Value} {kw:List (Str × Value)} (X:K.In s.heap) (hm:PySem.W.makesIn K C=true)
    (hi:PySem.W.findIn K (.ref C) "__init__"=some (some (.ref f))) (hf:PySem.W.typeIn K (.ref f)=some (.type "function"))
    (h:codeAny (model prog w) (A.under (.builtin "type.__call__" ⟨.ref C :: vs,kw⟩)) (.call (.ref f) ⟨.ref (s.heap.objs.size + 1) :: vs,kw⟩) (PySem.W.InitBack (s.heap.objs.size + 1) R)
      { s with heap:=(s.heap.push PySem.W.emptyDict).push (PySem.W.instObj C s.heap.objs.size) }) :
    codeAny (model prog w) A (.call (.ref C) ⟨vs,kw⟩) R s:=by
  obtain ⟨hh,g,d,t,os⟩:=s
  exact PySem.W.make_core (PySem.W.makes_of X hm) (PySem.W.looks_findIn X hi) (fun self=>PySem.W.bind_fn X self hf) (.inl rfl) h
end
def pO (f:Str) (v:V):List (Str × V)→List (Str × V)
  | []=>[(f,v)]
  | (g,x) :: r=>if g=f then (g,v) :: r else (g,x) :: pO f v r
theorem lM (f g:Str) (v:V):∀ fs:List (Str × V),(pO f v fs).lookup g=if g=f then some v else fs.lookup g
  | []=>by
    show List.lookup g [(f,v)]=_
    by_cases h:g=f
    · have hb:(g == f)=true:=beq_iff_eq.mpr h
      simp only [List.lookup,hb,if_pos h]
    · have hb:(g == f)=false:=beq_eq_false_iff_ne.mpr h
      simp only [List.lookup,hb,if_neg h]
  | (k,x) :: r=>by
    have ih:=lM f g v r
    rw [show pO f v ((k,x) :: r)=(if k=f then (k,v) :: r else (k,x) :: pO f v r) from rfl]
    by_cases hk:k=f
    · rw [if_pos hk]
      by_cases h:g=k
      · have hb:(g == k)=true:=beq_iff_eq.mpr h
        simp only [List.lookup,hb,if_pos (h.trans hk)]
      · have hb:(g == k)=false:=beq_eq_false_iff_ne.mpr h
        simp only [List.lookup,hb,if_neg (fun e:g=f=>h (e.trans hk.symm))]
    · rw [if_neg hk]
      by_cases h:g=k
      · have hb:(g == k)=true:=beq_iff_eq.mpr h
        simp only [List.lookup,hb,if_neg (fun e:g=f=>hk (h.symm.trans e))]
      · have hb:(g == k)=false:=beq_eq_false_iff_ne.mpr h
        simp only [List.lookup,hb]
        exact ih
theorem lO (f:Str) (v:V):∀ fs:List (Str × V),f∈(pO f v fs).map (·.1)∧∀ g,g∈fs.map (·.1)→g∈(pO f v fs).map (·.1)
  | []=>⟨by simp [pO],fun g h=>by simp at h⟩
  | (k,x) :: r=>by
    obtain ⟨i1,i2⟩:=lO f v r
    rw [show pO f v ((k,x) :: r)=(if k=f then (k,v) :: r else (k,x) :: pO f v r) from rfl]
    by_cases hk:k=f
    · rw [if_pos hk]
      subst hk
      exact ⟨by simp,fun g h=>by simpa using h⟩
    · rw [if_neg hk]
      refine ⟨?_,fun g h=>?_⟩
      · rw [List.map_cons]
        exact List.mem_cons_of_mem _ i1
      · rw [List.map_cons] at h ⊢
        rcases List.mem_cons.mp h with e | e
        · exact List.mem_cons.mpr (.inl e)
        · exact List.mem_cons_of_mem _ (i2 g e)
theorem lN (f:Str) (v:V):∀ fs:List (Str × V),(pO f v fs).length≤fs.length + 1
  | []=>by simp [pO]
  | (k,x) :: r=>by
    have ih:=lN f v r
    rw [show pO f v ((k,x) :: r)=(if k=f then (k,v) :: r else (k,x) :: pO f v r) from rfl]
    by_cases hk:k=f
    · rw [if_pos hk,List.length_cons,List.length_cons];omega
    · rw [if_neg hk,List.length_cons,List.length_cons];omega
theorem Av.some_of {v:V} {o:Option Value} (r:Av (some v) o):∃ u,o=some u∧RelV v u:=by
  cases o with
  | none=>exact (show False from r).elim
  | some u=>exact ⟨u,rfl,r⟩
theorem Av.none_of {o:Option Value} (r:Av none o):o=none:=by
  cases o with
  | none=>rfl
  | some u=>exact (show False from r).elim
theorem z7 {v:V} {u:Value} (r:RelV v u):PySem.W.handedIn u=true:=by
  cases v with
  | non=>cases (show u=Value.none from r);rfl
  | bl b=>cases (show u=Value.bool b from r);rfl
  | int i=>obtain ⟨t,e⟩:=(show ∃ t,u=Value.int i t from r);cases e;rfl
  | str x=>obtain ⟨t,e⟩:=(show ∃ t,u=Value.str x t from r);cases e;rfl
  | byt b=>obtain ⟨t,e⟩:=(show ∃ t,u=Value.bytes b t from r);cases e;rfl
  | flt b=>obtain ⟨t,e⟩:=(show ∃ t,u=Value.float b t from r);cases e;rfl
  | ref a=>cases (show u=Value.ref a from r);rfl
  | ty n=>cases (show u=Value.type n from r);rfl
section
variable {P:Program} {w:World} {H H':Hp} {h h':Heap} {a C dx:Addr} {fs fs':List (Str × V)}
theorem nP (hok:HOk P w H h) (e:H a=some (.ins C dx fs)):∃ mA,Oq h a dx C mA∧(∀ f,Av (fs.lookup f) (mA f))∧PySem.Within mA (fs.map (·.1))∧fs.length≤1000∧H dx=some (.own a):=by
  obtain ⟨d,z,ne,ob,mA,n,r,q⟩:=(show iy P w H h a (.ins C dx fs) from hok a _ e)
  exact ⟨mA,⟨ob,n,ne⟩,r,q,z,d⟩
end
structure Cls (K:PySem.W.Frag) (C:Addr):Prop where
  pg:PySem.W.plainGet K C Str.empty=true
  hd:PySem.W.hasDictIn K C=true
  po:PySem.W.plainOver K C=true
  sa:PySem.W.findIn K (.ref C) "__setattr__"=some (some (.builtin "object.__setattr__"))
theorem Cls.get {K:PySem.W.Frag} {C:Addr} (c:Cls K C) (f:Str):PySem.W.plainGet K C f=true:=c.pg
def gK (K:PySem.W.Frag) (C:Addr) (f:Str):Prop:=PySem.W.findIn K (.ref C) f=some none
theorem gK.taker {K:PySem.W.Frag} {C:Addr} {f:Str} (n:gK K C f):PySem.W.takerIn K C f=some none:=by
  unfold PySem.W.takerIn
  rw [show PySem.W.findIn K (.ref C) f=some none from n]
  rfl
structure Meth (K:PySem.W.Frag) (C:Addr) (m:Str) (f:Addr):Prop where
  at_:PySem.W.findIn K (.ref C) m=some (some (.ref f))
  fn:PySem.W.isFn K (.ref f)=true
  kp:PySem.W.keepIn K (.ref f)=true
section
variable {X:Cx} {pins:List (Addr × Obj)} {σ:St} {H:Hp} {s:Shared} {a C dx:Addr} {fs:List (Str × V)} {f:Str} {v:V} {A:Around} {E:Value→Shared→Prop}
theorem sX {b:Bool} {Q:Value→Shared→Prop} (I:Inv X pins σ H s) (e:H a=some (.ins C dx fs)) (c:Cls X.K C) (n:gK X.K C f) (l:fs.lookup f=some v)
    (h:∀ u s',Inv X pins σ H s'→RelV v u→Q u s'):wpAny (model X.prog X.w) A (getAttr (.ref a) f b) Q E s:=by
  obtain ⟨mA,O,r,_,_,_⟩:=nP I.hok e
  obtain ⟨u,hu,ru⟩:=Av.some_of (v:=v) (o:=mA f) (by rw [← l];exact r f)
  exact get_map I.kIn O (c.get f) c.hd n hu (z7 ru) (h u _ (I.tok _) ru)
theorem j6 {m:Str} {g:Addr} {pl:Sem Bool} {Q:Value × List Value→Shared→Prop} (I:Inv X pins σ H s) (e:H a=some (.ins C dx fs)) (c:Cls X.K C) (k:Meth X.K C m g) (l:fs.lookup m=none)
    (h:Q (.ref g,[.ref a]) s):wpAny (model X.prog X.w) A (getMethod (.ref a) m pl) Q E s:=by
  obtain ⟨mA,O,r,_,_,_⟩:=nP I.hok e
  have hn:mA m=none:=Av.none_of (by rw [← l];exact r m)
  exact Cm I.kIn O (c.get m) k.at_ k.fn hn h
theorem su {y:V} {u:Value} {Q:Unit→Shared→Prop} (I:Inv X pins σ H s) (e:H a=some (.ins C dx fs)) (c:Cls X.K C) (n:gK X.K C f) (hl:fs.length<1000) (ry:RelV y u)
    (h:∀ s',Inv X pins σ (upd H a (.ins C dx (pO f y fs))) s'→Q () s'):wpAny (model X.prog X.w) A (setAttr (.ref a) f u) Q E s:=by
  obtain ⟨mA,O,r,wi,_,ho⟩:=nP I.hok e
  have hz:(fs.map (·.1)).length≤sizeLine:=by rw [List.length_map,sizeLine_eq];omega
  refine LK I.kIn O c.sa c.po n.taker c.hd wi hz fun h' O' sb=>h _ ?_
  have hd:∃ o,h'.get? dx=some o:=let ⟨o,_,_,e',_⟩:=O'.ns;⟨o,e'⟩
  refine I.write (x:=a) (e:=dx) (by rw [e];exact True.intro) (.inr ho) (fun b q hb z=>(sb.2 b hb).trans z) hd ?_
  refine ⟨by rw [aL O.ne];exact ho,?_,O.ne,O'.obj,_,O'.ns,fun g=>?_,fun g hg=>?_⟩
  · have:=lN f y fs;omega
  · show Av ((pO f y fs).lookup g) (if g=f then some u else mA g)
    rw [lM]
    by_cases q:g=f
    · rw [if_pos q,if_pos q];exact ry
    · rw [if_neg q,if_neg q];exact r g
  · by_cases q:g=f
    · rw [q];exact (lO f y fs).1
    · refine (lO f y fs).2 g (wi g fun z=>hg ?_)
      show (if g=f then some u else mA g)=none
      rw [if_neg q];exact z
theorem Inv.made (I:Inv X pins σ H s):Inv X pins σ (upd (upd H s.heap.objs.size (.own (s.heap.objs.size + 1))) (s.heap.objs.size + 1) (.ins C s.heap.objs.size []))
    { s with heap:=(s.heap.push PySem.W.emptyDict).push (PySem.W.instObj C s.heap.objs.size) }:=by
  have e1:(s.heap.push PySem.W.emptyDict).get? s.heap.objs.size=some PySem.W.emptyDict:=Heap.get?_push_size s.heap rfl
  have e2:((s.heap.push PySem.W.emptyDict).push (PySem.W.instObj C s.heap.objs.size)).get? (s.heap.objs.size + 1)=some (PySem.W.instObj C s.heap.objs.size):=by
    have:=Heap.get?_push_size (s.heap.push PySem.W.emptyDict) (o:=PySem.W.instObj C s.heap.objs.size) rfl
    rwa [Heap.size_push] at this
  have e3:(s.heap.push PySem.W.emptyDict).Ns s.heap.objs.size (fun _=>none):=⟨PySem.W.emptyDict,#[],_,e1,rfl,(fun e he=>absurd he (by simp)),fun _=>rfl⟩
  have I1:=I.laid (a:=s.heap.objs.size) (o:=.own (s.heap.objs.size + 1)) (h':=s.heap.push PySem.W.emptyDict) (t':=s.toks) (fun b u q=>Heap.get?_push_of_some _ q) (Nat.le_refl _) ⟨_,e1⟩
  refine I1.laid (a:=s.heap.objs.size + 1) (o:=.ins C s.heap.objs.size []) (t':=s.toks) (fun b u q=>Heap.get?_push_of_some _ q) (Nat.le_of_eq (Heap.size_push _ _)) ?_
  have ne:s.heap.objs.size≠s.heap.objs.size + 1:=Nat.ne_of_lt (Nat.lt_succ_self _)
  refine ⟨by rw [aL ne,aZ],Nat.zero_le _,ne,e2,fun _=>none,(Heap.Ns1.of_empty e3).at fun o q=>Heap.get?_push_of_some _ q,fun _=>True.intro,fun y hy=>absurd rfl hy⟩
theorem Ol {prog:Program} {w:World} {env:Env} {e:Expr} {f:Str} {pos:Pos} {s:Shared} {Q:Value→Shared→Prop} (hb:attributeBase e f env (eval e env)=eval e env)
    (h:wpAny (model prog w) A (eval e env) (fun o s₁=>wpAny (model prog w) A (getAttr o f true) Q E s₁) E s):wpAny (model prog w) A (eval (.Attribute e f pos) env) Q E s :=
  Attribute_any_ h (by rw [arm_eval_Attribute,hb])
end
def tFld (K:PySem.W.Frag) (ta:TE) (f:Str):TE:=fun σ H Q=>ta σ H fun x H1=>∃ a C dx fs v,x=.ref a∧H1 a=some (.ins C dx fs)∧Cls K C∧gK K C f∧fs.lookup f=some v∧Q v H1
def sFld (K:PySem.W.Frag) (ta tv:TE) (f:Str):TS:=fun D σ H=>tv σ H fun y H1=>ta σ H1 fun x H2=>∃ a C dx fs,x=.ref a∧H2 a=some (.ins C dx fs)∧Cls K C∧gK K C f∧fs.length<1000 ∧
  D.nx σ (upd H2 a (.ins C dx (pO f y fs)))
section
variable {X:Cx} {o e value:Expr} {f:Str} {pos pos' tpos:Pos} {ta tv:TE}
theorem eO (he:PE X e ta) (hb:attributeBase e f X.env (eval e X.env)=eval e X.env):PE X (.Attribute e f pos) (tFld X.K ta f):=by
  intro pins s σ H Q I h
  refine Ol hb (thn (he pins s σ H _ I h) fun u s1 ⟨x,H1,I1,rx,a,C,dx,fs,v,ex,ea,c,n,l,q⟩=>?_)
  subst ex
  obtain rfl:u=Value.ref a:=rx
  exact sX I1 ea c n l fun u' s2 I2 ru=>⟨v,H1,I2,ru,q⟩
theorem jD (ha:PE X o ta) (hv:PE X value tv) (hs:swapsWith value (some (.Attribute o f pos')) pos.line X.env=pure false):PS X (.Assign [.Attribute o f pos'] value pos) (sFld X.K ta tv f):=by
  intro pins s σ H D I h
  refine plainObj_wpAny_Assign_Attribute (thn (hv pins s σ H _ I h) fun u s1 ⟨y,H1,I1,ry,q⟩=>thn (ha pins s1 σ H1 _ I1 q) fun ov s2 ⟨x,H2,I2,rx,a,C,dx,fs,ex,ea,c,n,l,q2⟩=>?_) hs
  subst ex
  obtain rfl:ov=Value.ref a:=rx
  exact su I2 ea c n l ry fun s3 I3=>⟨σ,_,I3,q2⟩
end
section
variable {X:Cx} {pins:List (Addr × Obj)} {σ:St} {H:Hp} {s:Shared} {A:Around} {E:Value→Shared→Prop} {Q:Value→Shared→Prop} {c:Value} {b:Bool}
inductive rR (K:PySem.W.Frag) (H:Hp):V→Value→Prop where
  | non:rR K H .non (.type "NoneType")
  | bl (x:Bool):rR K H (.bl x) (.type "bool")
  | int (i:Int):rR K H (.int i) (.type "int")
  | str (x:Str):rR K H (.str x) (.type "str")
  | flt (x:UInt64):rR K H (.flt x) (.type "float")
  | lst {a:Addr} {xs:List V} (e:H a=some (.lst xs)):rR K H (.ref a) (.type "list")
  | frz {a:Addr} {o:Obj} {xs:List V} (e:H a=some (.frz o (.lst xs))):rR K H (.ref a) (.type "list")
  | tup {a:Addr} {xs:List V} (e:H a=some (.tup xs)):rR K H (.ref a) (.type "tuple")
  | dK {a:Addr} {kvs:List (Key × V)} (e:H a=some (.dK kvs)):rR K H (.ref a) (.type "dict")
  | dT {a:Addr} {kvs:List (List Key × V)} (e:H a=some (.dT kvs)):rR K H (.ref a) (.type "dict")
  | ins {a C dx:Addr} {fs:List (Str × V)} (e:H a=some (.ins C dx fs)) (cl:Cls K C) (ha:PySem.W.findIn K (.ref C) "__class__"=some (some (.builtin "object.__class__")))
      (hn:PySem.W.specialIn K (.builtin "object.__class__") "__get__"=some (some (.builtin "getset_descriptor.__get__"))) (htk:PySem.W.takesIn K (.builtin "object.__class__")=some true)
      (hm:PySem.W.mroIn K C (.type "object")=some true):rR K H (.ref a) (.ref C)
theorem uZ {x:V} {u t:Value} (I:Inv X pins σ H s) (rx:RelV x u) (ty:rR X.K H x t) (e:PySem.W.kitOne X.K t c=some b) (h:∀ tk,Q (.bool b) { s with toks:=tk }) :
    wpAny (model X.prog X.w) A (call (.builtin "isinstance") [u,c]) Q E s:=by
  cases ty with
  | non=>cases (show u=Value.none from rx);exact PySem.W.kia_one PySem.W.kitx_none I.kIn True.intro e (fun z=>nomatch z) h
  | bl y=>cases (show u=Value.bool y from rx);exact PySem.W.kia_one PySem.W.kitx_bool I.kIn True.intro e (fun z=>nomatch z) h
  | int i=>obtain ⟨t,q⟩:=(show ∃ t,u=Value.int i t from rx);cases q;exact PySem.W.kia_one PySem.W.kitx_int I.kIn True.intro e (fun z=>nomatch z) h
  | str y=>obtain ⟨t,q⟩:=(show ∃ t,u=Value.str y t from rx);cases q;exact PySem.W.kia_one PySem.W.kitx_str I.kIn True.intro e (fun z=>nomatch z) h
  | flt y=>obtain ⟨t,q⟩:=(show ∃ t,u=Value.float y t from rx);cases q;exact PySem.W.kia_one PySem.W.kitx_float I.kIn True.intro e (fun z=>nomatch z) h
  | @lst a xs ea =>
    cases (show u=Value.ref a from rx)
    obtain ⟨_,_,n,_,h1⟩:=(show iy X.prog X.w H s.heap a (.lst xs) from I.hok a _ ea)
    exact PySem.W.kia_one PySem.W.kitx_list I.kIn ⟨_,h1,rfl⟩ e (fun z=>nomatch z) h
  | @frz a ob xs ea =>
    cases (show u=Value.ref a from rx)
    obtain ⟨_,_,_,n,_,h1⟩:=(show iy X.prog X.w H s.heap a (.frz ob (.lst xs)) from I.hok a _ ea)
    exact PySem.W.kia_one PySem.W.kitx_list I.kIn ⟨_,h1,rfl⟩ e (fun z=>nomatch z) h
  | @tup a xs ea =>
    cases (show u=Value.ref a from rx)
    obtain ⟨_,_,_,p⟩:=(show iy X.prog X.w H s.heap a (.tup xs) from I.hok a _ ea)
    obtain ⟨o,h1,h2,_⟩:=p
    exact PySem.W.kia_one PySem.W.kitx_tuple I.kIn ⟨o,h1,h2⟩ e (fun z=>nomatch z) h
  | @dK a kvs ea =>
    cases (show u=Value.ref a from rx)
    obtain ⟨_,_,vs,_,p⟩:=(show iy X.prog X.w H s.heap a (.dK kvs) from I.hok a _ ea)
    obtain ⟨o,es,ep,h1,h2,_⟩:=p
    exact PySem.W.kia_one PySem.W.kitx_dict I.kIn ⟨o,h1,h2.1⟩ e (fun z=>nomatch z) h
  | @dT a kvs ea =>
    cases (show u=Value.ref a from rx)
    obtain ⟨_,_,xs,_,o,es,ep,h1,h2,_⟩:=(show iy X.prog X.w H s.heap a (.dT kvs) from I.hok a _ ea)
    exact PySem.W.kia_one PySem.W.kitx_dict I.kIn ⟨o,h1,h2.1⟩ e (fun z=>nomatch z) h
  | @ins a C dx fs ea cl ha hn htk hm =>
    cases (show u=Value.ref a from rx)
    obtain ⟨mA,O,_⟩:=nP I.hok ea
    obtain ⟨od,J,_⟩:=O.look
    exact PySem.W.kia_one (PySem.W.kitx_own (cl.get _) cl.hd ha hn htk hm) I.kIn J e (fun z=>nomatch z) h
end
end L2
namespace L2
open PySem PySem.Spec PyProof.Rows
structure jV (k:Nat) (A:Around):Prop where
  hd:A.handled=none
  dp:A.depth + 3 * k + 5<recursionLimit
  un:A.units + 16 * k + 200<cLine
theorem jV.mono {j k:Nat} {A:Around} (r:jV k A) (h:j≤k):jV j A:=⟨r.hd,by have:=r.dp;omega,by have:=r.un;omega⟩
theorem jV.deeper {k:Nat} {A:Around} (r:jV (k + 1) A) (env:Env):jV k (A.deeper env) :=
  ⟨r.hd,by have:=r.dp;show A.depth + 1 + 3 * k + 5<_;omega,by have:=r.un;show A.units + 3 + 16 * k + 200<_;omega⟩
theorem sV {A:Around} {C:Addr} {us:List Value} {kw:List (Str × Value)}:(A.under (.builtin "type.__call__" ⟨.ref C :: us,kw⟩)).depth=A.depth + 1:=by
  first | rfl | simp [Around.under,Code.weight,Code.isCreation,Code.isGuard,Code.isCaller,Code.frames,Code.isFrame,guardIds]
theorem sU {A:Around} {C:Addr} {us:List Value} {kw:List (Str × Value)}:(A.under (.builtin "type.__call__" ⟨.ref C :: us,kw⟩)).units=A.units + 1:=by
  first | rfl | simp [Around.under,Code.cUnits,Code.frames,Code.isFrame]
theorem jV.make {k:Nat} {A:Around} (r:jV (k + 1) A) (C:Addr) (us:List Value) (kw:List (Str × Value)):jV k (A.under (.builtin "type.__call__" ⟨.ref C :: us,kw⟩)) :=
  ⟨r.hd,by have:=r.dp;rw [sV];omega,by have:=r.un;rw [sU];omega⟩
theorem jV.depth {k:Nat} {A:Around} (r:jV k A):A.depth<recursionLimit:=by have:=r.dp;omega
theorem jV.units {k:Nat} {A:Around} (r:jV k A):A.units + 64<cLine:=by have:=r.un;omega
def Vf:TA:=fun _ H Q=>Q [] H
def Pa (ta:TE) (tr:TA):TA:=fun σ H Q=>ta σ H fun x H1=>tr σ H1 fun xs H2=>Q (x :: xs) H2
section
variable {X:Cx} {e:Expr} {es:List Expr} {te:TE} {t:TA} {pos:Pos}
theorem aq:PA X [] Vf:=fun _ _ _ _ H Q I h=>Calls.spliced_nil ⟨[],H,I,.nil,h⟩
theorem aC (ha:PE X e te) (hr:PA X es t) (hs:starEach (e :: es) X.env=(false,eval e X.env) :: starEach es X.env:=by rfl):PA X (e :: es) (Pa te t):=by
  intro pos pins s σ H Q I h
  rw [hs]
  show wpAny _ _ (spliced ((false,eval e X.env) :: backTo pos (starEach es X.env))) _ _ s
  refine Calls.spliced_cons (thn (ha pins s σ H _ I h) fun u s1 ⟨x,H1,I1,r1,q1⟩=>?_)
  exact thn (hr pos pins s1 σ H1 _ I1 q1) fun us s2 ⟨xs,H2,I2,r2,q2⟩=>⟨x :: xs,H2,I2,.cons r1 r2,q2⟩
def tTup (t:TA):TE:=fun σ H Q=>t σ H fun xs H1=>xs.length≤sizeLine∧∀ p,H1 p=none→Q (.ref p) (upd H1 p (.tup xs))
def tLst (t:TA):TE:=fun σ H Q=>t σ H fun xs H1=>xs.length≤sizeLine∧∀ p,H1 p=none→Q (.ref p) (upd H1 p (.lst xs))
theorem ji {x1} (h:PA X es t):PE X (.Tuple es x1 pos) (tTup t):=by
  intro pins s σ H Q I hq
  refine wpAny_Tuple_spliced (thn (h pos pins s σ H _ I hq) fun us s1 ⟨xs,H1,I1,r,z,q⟩=>⟨by rw [← r.length];exact z,?_⟩)
  have hf:H1 s1.heap.objs.size=none:=I1.hok.fresh (Nat.le_refl _)
  refine ⟨.ref s1.heap.objs.size,upd H1 s1.heap.objs.size (.tup xs),I1.laid (t':=s1.toks) (fun b u e=>Heap.get?_push_of_some _ e) (Nat.le_refl _) ?_,rfl,q _ hf⟩
  exact ⟨z,us,r,⟨_,Heap.get?_push_size _ rfl,rfl,_,rfl⟩⟩
theorem cI (h:PA X es t):PE X (.List es pos) (tLst t):=by
  intro pins s σ H Q I hq
  refine wpAny_List_spliced (thn (h pos pins s σ H _ I hq) fun us s1 ⟨xs,H1,I1,r,z,q⟩=>⟨by rw [← r.length];exact z,?_⟩)
  have hf:H1 s1.heap.objs.size=none:=I1.hok.fresh (Nat.le_refl _)
  refine ⟨.ref s1.heap.objs.size,upd H1 s1.heap.objs.size (.lst xs),I1.laid (t':=s1.toks) (fun b u e=>Heap.get?_push_of_some _ e) (Nat.le_refl _) ?_,rfl,q _ hf⟩
  exact ⟨z,us,0,r,Heap.get?_push_size _ rfl⟩
end
abbrev Sp:=List V→Hp→VK→XK→Prop
abbrev CXT:=List Env→Hp→Shared→XK→Value→Shared→Prop
structure Ot (P:Program) (w:World) (K:PySem.W.Frag) (mg:Str→Option Value) (base:Heap) (A:Around) (outer:List Env) (s:Shared) (H:Hp):Prop where
  frames:A.frames=some outer
  mod:Mod K mg base
  bs:∀ b o,base.get? b=some o→s.heap.get? b=some o∧H b=none
  bsz:base.objs.size≤s.heap.objs.size
  rH:s.heap.FunFrames base outer
  frf:∀ b∈frs outer,H b=none
  hok:HOk P w H s.heap
  bare:AllBare s.gens
def CE (outer:List Env) (P:Program) (w:World) (H:Hp) (s:Shared) (Q:VK) (u:Value) (s':Shared):Prop :=
  ∃ v H',s'.os=s.os∧AllBare s'.gens∧Un (frs outer) [] H H' s.heap s'.heap∧HOk P w H' s'.heap∧RelV v u∧Q v H'
def CR (CX:CXT) (outer:List Env) (P:Program) (w:World) (H:Hp) (s:Shared) (Q:VK) (E:XK) (r:Result) (s':Shared):Prop :=
  match r with
  | .ok (.ret u)=>CE outer P w H s Q u s'
  | .ok _=>False
  | .error e=>CX outer H s E e s'
structure bM (P:Program) (w:World) (K:PySem.W.Frag) (mg:Str→Option Value) (base:Heap) (CX:CXT) (k:Nat) (f:Addr) (fd:FuncData) (ps:List Str) (sp:Sp):Prop where
  len:∀ vs H Q E,sp vs H Q E→vs.length=ps.length
  run:∀ (A:Around) (outer:List Env) (s:Shared) (H:Hp) (args:Args) (us:List Value) (vs:List V) (Q:VK) (E:XK),jV k A→Ot P w K mg base A outer s H→BindsTo s fd args (ps.zip us)→Vals vs us→sp vs H Q E →
    codeAny (model P w) A (.call (.ref f) args) (CR CX outer P w H s Q E) s
theorem Ot.make {P:Program} {w:World} {K:PySem.W.Frag} {mg:Str→Option Value} {base:Heap} {A:Around} {outer:List Env} {s:Shared} {H:Hp} (e:Ot P w K mg base A outer s H) (C:Addr) (us:List Value) (kw:List (Str × Value)) :
    Ot P w K mg base (A.under (.builtin "type.__call__" ⟨.ref C :: us,kw⟩)) outer s H:=⟨by first | exact e.frames | (simpa [Around.under,Code.envs,Code.isFrame,pushEnvs] using e.frames),e.mod,e.bs,e.bsz,e.rH,e.frf,e.hok,e.bare⟩
section
variable {X:Cx} {pins:List (Addr × Obj)} {σ:St} {H:Hp} {s s':Shared}
theorem Inv.env0 (I:Inv X pins σ H s):Ot X.prog X.w X.K X.mg X.base X.A X.stack s H :=
  ⟨I.ok.frames,I.ok.mod,I.bs,Nat.le_trans I.ok.bsz I.sz,I.stack,I.pQ,I.hok,I.bare⟩
theorem Inv.after {Q:VK} {u:Value} (I:Inv X pins σ H s) (h:CE X.stack X.prog X.w H s Q u s'):EP X pins σ Q u s':=by
  obtain ⟨v,H',os,bare,un,hok,r,q⟩:=h
  obtain ⟨hh,g,d,t,os'⟩:=s'
  obtain rfl:os'=s.os:=os
  exact ⟨v,H',I.call (h':=hh) (g':=g) (d':=d) (t':=t) (ch:=[]) un hok bare (fun b z=>absurd z (by simp)),r,q⟩
end
def Pb (sp:Sp) (dvs:List V) (E:XK) (t:TA):TE:=fun σ H Q=>t σ H fun vs H1=>sp (vs++dvs) H1 Q E
def O9 (C:Addr) (m:Str) (sp:Sp) (dvs:List V) (E:XK) (ta:TE) (t:TA):TE:=fun σ H Q=>ta σ H fun x H1=>∃ a dx fs,x=.ref a∧H1 a=some (.ins C dx fs)∧fs.lookup m=none ∧
  t σ H1 fun vs H2=>sp (x :: (vs++dvs)) H2 Q E
def Ut (C:Addr) (sp:Sp) (dvs:List V) (E:XK) (t:TA):TE:=fun σ H Q=>t σ H fun vs H1=>∀ x dx,H1 x=none→H1 dx=none→dx≠x →
  sp (.ref x :: (vs++dvs)) (upd (upd H1 dx (.own x)) x (.ins C dx [])) (fun v H2=>v=.non∧Q (.ref x) H2) E
def Binds (K:PySem.W.Frag) (fd:FuncData) (ps:List Str) (ds:List Value):Prop :=
  ∀ (s:Shared) (us:List Value),K.In s.heap→(us++ds).length=ps.length→BindsTo s fd ⟨us,[]⟩ (ps.zip (us++ds))
theorem Binds.all {K:PySem.W.Frag} {fd:FuncData} {ps:List Str} (h:∀ us:List Value,us.length=ps.length→bindArgs fd ⟨us,[]⟩=pure (ps.zip us)):Binds K fd ps []:=fun s us _ hl=>by
  rw [List.append_nil] at hl ⊢
  exact .of_eq (h us hl)
def Passes (CX:CXT) (X:Cx) (E:XK):Prop:=∀ (pins:List (Addr × Obj)) (σ:St) (H:Hp) (s:Shared) (e:Value) (s':Shared),Inv X pins σ H s→CX X.stack H s E e s'→X.xe e s'
section
variable {X:Cx} {CX:CXT} {k:Nat} {f C:Addr} {fd:FuncData} {ps:List Str} {sp:Sp} {dvs:List V} {ds:List Value} {E:XK} {x m:Str} {p pos apos:Pos} {e o:Expr} {es:List Expr} {ta:TE} {t:TA}
theorem qR {pins:List (Addr × Obj)} {σ:St} {H:Hp} {s:Shared} {Q:VK} {us:List Value} {vs:List V} (F:bM X.prog X.w X.K X.mg X.base CX k f fd ps sp) (hr:jV k X.A) (hb:Binds X.K fd ps ds) (hd:Vals dvs ds) (hx:Passes CX X E)
    (I:Inv X pins σ H s) (r:Vals vs us) (h:sp (vs++dvs) H Q E):wpAny (model X.prog X.w) X.A (call (.ref f) us) (EP X pins σ Q) X.xe s:=by
  have r2:Vals (vs++dvs) (us++ds):=r.append hd
  have hl:(us++ds).length=ps.length:=by rw [← r2.length];exact F.len _ _ _ _ h
  refine wpAny_call (codeAny_mono (F.run X.A X.stack s H ⟨us,[]⟩ (us++ds) (vs++dvs) Q E hr I.env0 (hb s us I.kIn hl) r2 h) fun r s' hq=>?_)
  cases r with
  | error e=>exact hx pins σ H s e s' I hq
  | ok fl =>
    cases fl with
    | ret u=>exact I.after hq
    | next=>exact False.elim hq
    | brk=>exact False.elim hq
    | cont=>exact False.elim hq
theorem aW (F:bM X.prog X.w X.K X.mg X.base CX k f fd ps sp) (hr:jV k X.A) (hg:Gl X x) (hm:X.mg x=some (.ref f)) (hk:PySem.W.keepIn X.K (.ref f)=true) (hb:Binds X.K fd ps ds) (hd:Vals dvs ds) (hx:Passes CX X E)
    (ha:PA X (e :: es) t) (hdb:(x == ("__debug__":Str))=false:=by decide) (he:starEach (e :: es) X.env=(false,eval e X.env) :: starEach es X.env:=by rfl) (hpl:(backTo pos (starEach es X.env)).any (·.1)=false:=by rfl) :
    PE X (.Call (.Name x p) (e :: es) [] pos) (Pb sp dvs E t):=by
  intro pins s σ H Q I h
  refine wpAny_Call_Name_kw (j5 I hg hm ?_ hdb)
  refine PySem.W.callWith_K (h₀:=X.base) I.ok.mod.kin hk (thn (ha pos pins s σ H _ I h) fun us s1 ⟨vs,H1,I1,r,q⟩=>⟨I1.kIn,?_⟩) he hpl
  exact qR F hr hb hd hx I1 r q
theorem jj {pl:Sem Bool} (he:PE X o ta) (c:Cls X.K C) (hm:Meth X.K C m f) (F:bM X.prog X.w X.K X.mg X.base CX k f fd ps sp) (hr:jV k X.A) (hb:Binds X.K fd ps ds) (hd:Vals dvs ds) (hx:Passes CX X E) (ha:PA X (e :: es) t)
    (hst:starEach (e :: es) X.env=(false,eval e X.env) :: starEach es X.env:=by rfl) (hpl:(backTo pos (starEach es X.env)).any (·.1)=false:=by rfl)
    (ht:eval (.Call (.Attribute o m apos) (e :: es) [] pos) X.env=(do
      let ov ← eval o X.env
      standAt apos.atName
      let (f,first) ← holding [ov] (getMethod ov m pl)
      callWith pos f first (backTo pos (starEach (e :: es) X.env)) (backToKw pos (keywordEach [] X.env))):=by rfl) :
    PE X (.Call (.Attribute o m apos) (e :: es) [] pos) (O9 C m sp dvs E ta t):=by
  intro pins s σ H Q I h
  refine PySem.W.methodCall_KW (pl:=pl) (thn (he pins s σ H _ I h) fun u s1 ⟨x,H1,I1,rx,a,dx,fs,ex,ea,l,q⟩=>?_) ht
  subst ex
  obtain rfl:u=Value.ref a:=rx
  refine j6 I1 ea c hm l ?_
  refine PySem.W.callWith_K (first:=[.ref a]) (h₀:=X.base) I.ok.mod.kin hm.kp (thn (ha pos pins s1 σ H1 _ I1 q) fun us s2 ⟨vs,H2,I2,r,q2⟩=>⟨I2.kIn,?_⟩) hst hpl
  exact qR (us:=.ref a :: us) (vs:=.ref a :: vs) F hr hb hd hx I2 (.cons rfl r) q2
theorem dO {pl:Sem Bool} (he:PE X o ta) (c:Cls X.K C) (hm:Meth X.K C m f) (F:bM X.prog X.w X.K X.mg X.base CX k f fd ps sp) (hr:jV k X.A) (hb:Binds X.K fd ps ds) (hd:Vals dvs ds) (hx:Passes CX X E)
    (ht:eval (.Call (.Attribute o m apos) [] [] pos) X.env=(do
      let ov ← eval o X.env
      standAt apos.atName
      let (f,first) ← holding [ov] (getMethod ov m pl)
      callWith pos f first (backTo pos (starEach [] X.env)) (backToKw pos (keywordEach [] X.env))):=by rfl) :
    PE X (.Call (.Attribute o m apos) [] [] pos) (O9 C m sp dvs E ta Vf):=by
  intro pins s σ H Q I h
  refine PySem.W.methodCall_KW (pl:=pl) (thn (he pins s σ H _ I h) fun u s1 ⟨x,H1,I1,rx,a,dx,fs,ex,ea,l,q⟩=>?_) ht
  subst ex
  obtain rfl:u=Value.ref a:=rx
  refine j6 I1 ea c hm l ?_
  exact PySem.W.callWith_K0 (first:=[.ref a]) I1.kIn hm.kp (qR (us:=[.ref a]) (vs:=[.ref a]) F hr hb hd hx I1 (.cons rfl .nil) q)
structure Mk (K:PySem.W.Frag) (C f:Addr):Prop where
  makes:PySem.W.makesIn K C=true
  init:PySem.W.findIn K (.ref C) "__init__"=some (some (.ref f))
  fn:PySem.W.isFn K (.ref f)=true
  kp:PySem.W.keepIn K (.ref C)=true
theorem Bf {pins:List (Addr × Obj)} {σ:St} {H:Hp} {s:Shared} {Q:VK} {us:List Value} {vs:List V} (M:Mk X.K C f) (F:bM X.prog X.w X.K X.mg X.base CX k f fd ps sp) (hr:jV (k + 1) X.A) (hb:Binds X.K fd ps ds) (hd:Vals dvs ds)
    (hx:Passes CX X E) (I:Inv X pins σ H s) (r:Vals vs us)
    (h:∀ x dx,H x=none→H dx=none→dx≠x→sp (.ref x :: (vs++dvs)) (upd (upd H dx (.own x)) x (.ins C dx [])) (fun v H2=>v=.non∧Q (.ref x) H2) E) :
    wpAny (model X.prog X.w) X.A (call (.ref C) us) (EP X pins σ Q) X.xe s:=by
  have hq:=h (s.heap.objs.size + 1) s.heap.objs.size (I.hok.fresh (Nat.le_succ _)) (I.hok.fresh (Nat.le_refl _)) (Nat.ne_of_lt (Nat.lt_succ_self _))
  have I2:=Inv.made (C:=C) I
  have r2:Vals (V.ref (s.heap.objs.size + 1) :: (vs++dvs)) (Value.ref (s.heap.objs.size + 1) :: (us++ds)):=.cons rfl (r.append hd)
  have hl:(Value.ref (s.heap.objs.size + 1) :: us++ds).length=ps.length:=by
    have e:=r2.length
    rw [F.len _ _ _ _ hq] at e
    exact e.symm
  refine wpAny_call (BW (f:=f) I.kIn M.makes M.init (beq_iff_eq.mp M.fn) (codeAny_mono (F.run _ X.stack _ _ ⟨Value.ref (s.heap.objs.size + 1) :: us,[]⟩ (Value.ref (s.heap.objs.size + 1) :: (us++ds)) _ _ E (hr.make C us [])
    (I2.env0.make C us []) (hb _ (Value.ref (s.heap.objs.size + 1) :: us) I2.kIn hl) r2 hq) fun r s' hq'=>?_))
  cases r with
  | error e=>exact hx pins σ _ _ e s' I2 hq'
  | ok fl =>
    cases fl with
    | ret u =>
      obtain ⟨v,H',I3,rv,ev,q3⟩:=I2.after hq'
      subst ev
      exact ⟨rv,⟨V.ref (s.heap.objs.size + 1),H',I3,rfl,q3⟩⟩
    | next=>exact False.elim hq'
    | brk=>exact False.elim hq'
    | cont=>exact False.elim hq'
theorem uI (M:Mk X.K C f) (F:bM X.prog X.w X.K X.mg X.base CX k f fd ps sp) (hr:jV (k + 1) X.A) (hg:Gl X x) (hm:X.mg x=some (.ref C)) (hb:Binds X.K fd ps ds) (hd:Vals dvs ds) (hx:Passes CX X E)
    (ha:PA X (e :: es) t) (hdb:(x == ("__debug__":Str))=false:=by decide) (he:starEach (e :: es) X.env=(false,eval e X.env) :: starEach es X.env:=by rfl) (hpl:(backTo pos (starEach es X.env)).any (·.1)=false:=by rfl) :
    PE X (.Call (.Name x p) (e :: es) [] pos) (Ut C sp dvs E t):=by
  intro pins s σ H Q I h
  refine wpAny_Call_Name_kw (j5 I hg hm ?_ hdb)
  refine PySem.W.callWith_K (h₀:=X.base) I.ok.mod.kin M.kp (thn (ha pos pins s σ H _ I h) fun us s1 ⟨vs,H1,I1,r,q⟩=>⟨I1.kIn,?_⟩) he hpl
  exact Bf M F hr hb hd hx I1 r q
end
structure aN (N P:List Str) (sc:Scope):Prop where
  kind:sc.kind=.function
  co:sc.isCoroutine=false
  gen:sc.isGenerator=false
  nd:N.Nodup
  pre:N.take P.length=P
  par:∀ x∈P,sc.names.lookup x=some .local∨sc.names.lookup x=some .cell
  nofree:∀ y∈sc.names,y.2≠.free
theorem pq {kindOf:Str→Option NameKind} {x:Str}:∀ {binds:List (Str × Value)} {m:Str→Option Value},(∀ v,(x,v) ∉ binds)→bindL kindOf binds m x=m x
  | [],_,_=>rfl
  | (n,v) :: r,m,h=>by
    unfold bindL
    rw [pq fun w hw=>h w (List.mem_cons_of_mem _ hw)]
    split
    · have:x≠n:=by rintro rfl;exact h v List.mem_cons_self
      simp [this]
    · rfl
theorem pC {kindOf:Str→Option NameKind} {x:Str}:∀ {binds:List (Str × Value)} {m:Str→Option Value},(∀ v,(x,v) ∉ binds)→bindC kindOf binds m x=m x
  | [],_,_=>rfl
  | (n,v) :: r,m,h=>by
    unfold bindC
    rw [pC fun w hw=>h w (List.mem_cons_of_mem _ hw)]
    split
    · rfl
    · have:x≠n:=by rintro rfl;exact h v List.mem_cons_self
      simp [this]
theorem pA {kindOf:Str→Option NameKind} {x:Str} {v:Value}:∀ {P:List Str} {vs:List Value} {i:Nat} {m:Str→Option Value},P.Nodup→P[i]?=some x→vs[i]?=some v→kindOf x=some .local →
    bindL kindOf (P.zip vs) m x=some v
  | [],_,_,_,_,h,_,_=>by simp at h
  | _ :: _,[],_,_,_,_,h,_=>by simp at h
  | p :: P,w :: vs,0,m,nd,h1,h2,hk=>by
    simp at h1 h2;subst h1;subst h2
    show bindL kindOf ((p,w) :: P.zip vs) m p=_
    unfold bindL
    rw [pq fun v hv=>(List.nodup_cons.mp nd).1 (List.of_mem_zip hv).1,if_pos hk]
    simp
  | p :: P,w :: vs,i + 1,m,nd,h1,h2,hk=>by
    show bindL kindOf ((p,w) :: P.zip vs) m x=_
    unfold bindL
    exact pA (i:=i) (List.nodup_cons.mp nd).2 (by simpa using h1) (by simpa using h2) hk
theorem pD {kindOf:Str→Option NameKind} {x:Str} {v:Value}:∀ {P:List Str} {vs:List Value} {i:Nat} {m:Str→Option Value},P.Nodup→P[i]?=some x→vs[i]?=some v→kindOf x≠some .local →
    bindC kindOf (P.zip vs) m x=some v
  | [],_,_,_,_,h,_,_=>by simp at h
  | _ :: _,[],_,_,_,_,h,_=>by simp at h
  | p :: P,w :: vs,0,m,nd,h1,h2,hk=>by
    simp at h1 h2;subst h1;subst h2
    show bindC kindOf ((p,w) :: P.zip vs) m p=_
    unfold bindC
    rw [pC fun v hv=>(List.nodup_cons.mp nd).1 (List.of_mem_zip hv).1,if_neg hk]
    simp
  | p :: P,w :: vs,i + 1,m,nd,h1,h2,hk=>by
    show bindC kindOf ((p,w) :: P.zip vs) m x=_
    unfold bindC
    exact pD (i:=i) (List.nodup_cons.mp nd).2 (by simpa using h1) (by simpa using h2) hk
def start (N:List Str) (vs:List V):St:=vs.map some++List.replicate (N.length - vs.length) none
def Ar (CX:CXT) (P:Program) (w:World) (K:PySem.W.Frag) (mg:Str→Option Value) (base:Heap) (N:List Str) (qual:Str) (scope:Scope) (f:Addr) (cd:Value) (A:Around) (outer:List Env) (s:Shared) (H:Hp) (E:XK):Cx where
  prog:=P
  w:=w
  K:=K
  mg:=mg
  base:=base
  A:=A.deeper (envOfC qual scope s.heap.objs.size f cd)
  N:=N
  s₀:=s
  H₀:=H
  env:=envOfC qual scope s.heap.objs.size f cd
  outer:=outer
  stack:=envOfC qual scope s.heap.objs.size f cd :: outer
  ex:=[]
  calm:=true
  fn:=fun _=>true
  pn:=[]
  xe:=fun e s'=>wpAny (model P w) (A.deeper (envOfC qual scope s.heap.objs.size f cd)) (leaving (envOfC qual scope s.heap.objs.size f cd) e) (fun _ s''=>CX outer H s E e s'') (fun e' s''=>CX outer H s E e' s'') s'
theorem rO {sc:Scope} {n:Nat} {x:Str} (h:sc.names.lookup x=some .cell):∃ c,(cellsFrom n sc.names []).lookup x=some c:=by
  have q:=PySem.W.cellsFrom_some sc.names n [] (.inl h)
  exact Option.isSome_iff_exists.mp q
theorem u5 {CX:CXT} {P:Program} {w:World} {K:PySem.W.Frag} {mg:Str→Option Value} {base:Heap} {N ps:List Str} {qual:Str} {scope:Scope} {f:Addr} {cd:Value} {A:Around} {outer:List Env} {s s1:Shared} {H:Hp} {E:XK} {us:List Value} {vs:List V}
    (S:aN N ps scope) (hd:A.handled=none) (e0:Ot P w K mg base A outer s H) (hl:vs.length=ps.length) (r:Vals vs us)
    (x:InCallC s s.heap.objs.size (bindL (envOfC qual scope s.heap.objs.size f cd).kindOf (ps.zip us) fun _=>none) (cellsFrom (s.heap.objs.size + 1) scope.names []) (bindC (envOfC qual scope s.heap.objs.size f cd).kindOf (ps.zip us) fun _=>none) s1) :
    Inv (Ar CX P w K mg base N qual scope f cd A outer s H E) [] (start N vs) H s1:=by
  have hpl:ps.length≤N.length:=by have:=congrArg List.length S.pre;rw [List.length_take] at this;omega
  obtain ⟨h1,tk,rfl,hk⟩:=x.done
  have noA:∀ b:Addr,b ∉ (Ar CX P w K mg base N qual scope f cd A outer s H E).ex:=fun b z=>absurd (show b∈([]:List Addr) from z) (by simp)
  refine ⟨⟨e0.mod,S.kind,rfl,rfl,Nat.le_refl _,fun y z c h1 h2=>?_,fun y hy=>?_,fun y c _ h=>?_,fun _=>hd,Around.frames_deeper e0.frames,.inr ⟨rfl,rfl⟩,fun b z=>absurd z (noA b),e0.bs,e0.bsz,fun b _ _=>noA b,fun b z=>absurd z (noA b),e0.rH,e0.frf⟩,
    rfl,e0.bare,Un.kept hk,⟨_,x.toInCall.ns,fun i y v h1 h2 h3=>?_⟩,fun y c h=>⟨_,x.cell y c h⟩,e0.hok.fresh (Nat.le_refl _),fun y c h=>?_,fun p hp=>absurd (show p∈([]:List (Addr × Obj)) from hp) (by simp),e0.hok.kept hk,?_⟩
  · exact name_of_addr x.apart (PySem.mem_of_lookup h1) (PySem.mem_of_lookup h2)
  · have hy:scope.names.lookup y=some .cell∨scope.names.lookup y=some .free:=hy
    rcases hy with hy | hy
    · exact rO hy
    · exact absurd rfl (S.nofree _ (PySem.mem_of_lookup hy))
  · exact Nat.le_of_lt (x.above y c (PySem.mem_of_lookup h))
  · have hi:i<vs.length:=by
      unfold start at h2
      by_cases hi:i<vs.length
      · exact hi
      · rw [List.getElem?_append_right (by simpa using hi)] at h2
        rw [List.getElem?_replicate] at h2
        split at h2 <;> cases h2
    have ha:vs[i]?=some v:=by
      unfold start at h2
      rw [List.getElem?_append_left (by simpa using hi),List.getElem?_map] at h2
      cases e:vs[i]? with
      | none=>rw [e] at h2;cases h2
      | some a=>rw [e] at h2;cases h2;rfl
    obtain ⟨u,hu,rv⟩:=r.get ha
    have hp:ps[i]?=some y:=by
      rw [← S.pre,List.getElem?_take_of_lt (by omega)];exact h1
    have ndP:ps.Nodup:=by rw [← S.pre];exact S.nd.sublist (List.take_sublist _ _)
    refine ⟨u,rv,?_⟩
    rcases S.par y (List.mem_of_getElem? hp) with k | k
    · exact .inl ⟨k,pA ndP hp hu k⟩
    · obtain ⟨c,e⟩:=rO (n:=s.heap.objs.size + 1) k
      refine .inr ⟨.inl k,c,e,?_⟩
      have q:=x.cell y c e
      rw [pD ndP hp hu (by show scope.names.lookup y≠_;rw [k];decide)] at q
      exact q
  · exact e0.hok.fresh (Nat.le_of_lt (x.above y c (PySem.mem_of_lookup h)))
  · unfold start
    show _=N.length
    rw [List.length_append,List.length_map,List.length_replicate]
    omega
theorem Ob {CX:CXT} {P:Program} {w:World} {K:PySem.W.Frag} {mg:Str→Option Value} {base:Heap} {k:Nat} {f:Addr} {name qual:Str} {params:Arguments} {body:List Stmt} {scope:Scope} {dV kV doc pm cdv ct oc:Value} {an od:Option Addr}
    {osl:Array (Option Value)} {N ps:List Str} {sp:Sp} (lk:K.lookup f=some ⟨oc,od,.func (PySem.W.fnOf name qual params body scope dV kV doc pm an cdv ct),osl⟩) (hcd:PySem.W.codeIn K cdv qual=true) (S:aN N ps scope)
    (len:∀ vs H Q E,sp vs H Q E→vs.length=ps.length)
    (hbody:∀ (A:Around) (outer:List Env) (s:Shared) (H:Hp) (vs:List V) (Q:VK) (E:XK),jV k (A.deeper (envOfC qual scope s.heap.objs.size f cdv))→sp vs H Q E →
      ∃ t,PSs (Ar CX P w K mg base N qual scope f cdv A outer s H E) body t∧t { nx:=fun _ H'=>Q .non H',rt:=Q } (start N vs) H) :
    bM P w K mg base CX (k + 1) f (PySem.W.fnOf name qual params body scope dV kV doc pm an cdv ct) ps sp:=by
  refine ⟨len,fun A outer s H args us vs Q E hr e0 hb r hsp=>?_⟩
  have hl:=len _ _ _ _ hsp
  have KX:K.In s.heap:=e0.mod.kin.keeps fun b o e=>(e0.bs b o e).1
  have lim:s.heap.NoLimit:=e0.mod.nolimit.keeps fun b o e=>(e0.bs b o e).1
  have hkind:∀ y∈ps.zip us,scope.names.lookup y.1=some .local∨(scope.names.lookup y.1=some .cell∧((cellsFrom (s.heap.objs.size + 1) scope.names []).lookup y.1).isSome=true):=fun ⟨n,v⟩ hy=>by
    rcases S.par n (List.of_mem_zip hy).1 with q | q
    · exact .inl q
    · exact .inr ⟨q,PySem.W.cellsFrom_some _ _ _ (.inl q)⟩
  refine codeAny_call_function hr.depth (KX _ _ lk) rfl S.co S.gen rfl (PySem.W.codeRec_of KX hcd) (hb _ _ _ _ ?_)
  refine wpAny_newFunctionEnv_cells S.kind hkind fun env he s1 x=>?_
  subst he
  refine ⟨lim.keeps x.toInCall.keep,codeAny_func ?_⟩
  obtain ⟨t,ht,hq⟩:=hbody A outer s H vs Q E (hr.deeper _) hsp
  have I:Inv (Ar CX P w K mg base N qual scope f cdv A outer s H E) [] (start N vs) H s1:=u5 S hr.hd e0 hl r x
  refine wpAny_mono (ht [] s1 (start N vs) H _ I hq) (fun fl s' hs=>?_) fun e s' hs=>hs
  have fin:∀ {σ':St} {H':Hp} {v:V} {u:Value},Inv (Ar CX P w K mg base N qual scope f cdv A outer s H E) [] σ' H' s'→RelV v u→Q v H'→CE outer P w H s Q u s' :=
    fun {σ' H' v u} J rv q=>⟨v,H',J.os,J.bare,J.base,J.hok,rv,q⟩
  cases fl with
  | ret u =>
    obtain ⟨v,σ',H',J,rv,q⟩:=hs
    exact fin J rv q
  | next =>
    obtain ⟨σ',H',J,q⟩:=hs
    exact fin (v:=V.non) (u:=Value.none) J rfl q
  | brk =>
    obtain ⟨_,_,_,q⟩:=hs
    exact False.elim q
  | cont =>
    obtain ⟨_,_,_,q⟩:=hs
    exact False.elim q
end L2
namespace L2
open PySem PySem.Spec PyProof.Rows
section
variable {X:Cx} {x:Str} {p pos:Pos} {e:Expr} {es:List Expr} {t:TA} {id T:String} {r:List V→Hp→VK→Prop}
def tCB (r:List V→Hp→VK→Prop) (t:TA):TE:=fun σ H Q=>t σ H fun vs H1=>r vs H1 Q
theorem aJ (hc:mC X (.builtin id) r) (hg:Gl X x) (hm:X.mg x=none) (hv:bootBuiltins x=some (.builtin id)) (ha:PA X (e :: es) t) (hn:x≠"__name__":=by decide) (hdb:(x == ("__debug__":Str))=false:=by decide)
    (he:starEach (e :: es) X.env=(false,eval e X.env) :: starEach es X.env:=by rfl) (hpl:(backTo pos (starEach es X.env)).any (·.1)=false:=by rfl):PE X (.Call (.Name x p) (e :: es) [] pos) (tCB r t):=by
  intro pins s σ H Q I h
  refine wpAny_Call_Name_kw (oZ I hg hm hv ?_ hn hdb)
  exact PyProof.Rows.callWith_builtin1 (thn (ha pos pins s σ H _ I h) fun us s1 ⟨vs,H1,I1,r1,q1⟩=>hc pins s1 σ H1 vs us Q I1 r1 q1) he hpl
theorem gH (hc:mC X (.type T) r) (hg:Gl X x) (hm:X.mg x=none) (hv:bootBuiltins x=some (.type T)) (ha:PA X (e :: es) t) (hn:x≠"__name__":=by decide) (hdb:(x == ("__debug__":Str))=false:=by decide)
    (he:starEach (e :: es) X.env=(false,eval e X.env) :: starEach es X.env:=by rfl) (hpl:(backTo pos (starEach es X.env)).any (·.1)=false:=by rfl):PE X (.Call (.Name x p) (e :: es) [] pos) (tCB r t):=by
  intro pins s σ H Q I h
  refine wpAny_Call_Name_kw (oZ I hg hm hv ?_ hn hdb)
  exact PyProof.Rows.callWith_type1 (thn (ha pos pins s σ H _ I h) fun us s1 ⟨vs,H1,I1,r1,q1⟩=>hc pins s1 σ H1 vs us Q I1 r1 q1) he hpl
end
end L2
namespace HT
open PySem PyProof.Rows
section
open PySem.SeqAt
open PySem.AutoSeq1 (wpAny_loadPart')
open PySem.MeetsSeq PySem.MeetsSeq2 PySem.MeetsSeq3
end
section
variable {prog:Program} {w:World} {A:Around} {E:Value→Shared→Prop} {s:Shared}
def sIx (n d:Nat):Option Int→Nat
  | none=>d
  | some v=>if v<0 then (v + (n:Int)).toNat else min v.toNat n
theorem pY (n d k:Nat):sIx n d (some (k:Int))=min k n:=by
  show (if (k:Int)<0 then ((k:Int) + (n:Int)).toNat else min (k:Int).toNat n)=min k n
  rw [if_neg (by omega),Int.toNat_natCast]
end
end HT
namespace L2
open PySem PySem.Spec PyProof.Rows
abbrev TO:=St→Hp→(Option Int→Hp→Prop)→Prop
def PO (X:Cx) (e:Option Expr) (t:TO):Prop :=
  ∀ (pins:List (Addr × Obj)) (s:Shared) (σ:St) (H:Hp) (Q:Option Int→Hp→Prop),Inv X pins σ H s→t σ H Q →
    wpAny (model X.prog X.w) X.A (evalPart e X.env) (fun u s'=>∃ o H',Inv X pins σ H' s'∧IsPart u o∧Q o H') X.xe s
def Lx:TO:=fun _ H Q=>Q none H
def Uq (t:TE):TO:=fun σ H Q=>t σ H fun x H1=>∃ i,x=.int i∧Q (some i) H1
section
variable {X:Cx} {e:Expr} {te:TE} {lo hi:Option Expr} {tl th:TO} {pos p2:Pos}
theorem Mg:PO X none Lx:=by
  intro pins s σ H Q I h
  rw [evalPart_none]
  exact wpAny_pure ⟨none,H,I,.none,h⟩
theorem lJ (h:PE X e te):PO X (some e) (Uq te):=by
  intro pins s σ H Q I hw
  rw [evalPart_some]
  refine thn (h pins s σ H _ I hw) fun u s1 ⟨x,H1,I1,r1,q1⟩=>?_
  obtain ⟨i,rfl,q⟩:=q1
  obtain ⟨t,rfl⟩:=r1
  exact ⟨some i,H1,I1,.int i t,q⟩
def SlR (X:Cx) (r:V→Option Int→Option Int→Hp→VK→Prop):Prop :=
  ∀ (pins:List (Addr × Obj)) (s:Shared) (σ:St) (H:Hp) (x:V) (v vl vu:Value) (lo hi:Option Int) (sl:Addr) (Q:VK),Inv X pins σ H s→RelV x v→s.heap.IsSliceOf sl vl vu .none→IsPart vl lo→IsPart vu hi→r x lo hi H Q →
    ∃ T id,typeLookup (.type T) "__getitem__"=pure (some (.builtin id))∧s.TypeIs v T∧wpAny (model X.prog X.w) X.A (getItem v (.ref sl)) (EP X pins σ Q) X.xe s
def tSl (r:V→Option Int→Option Int→Hp→VK→Prop) (te:TE) (tl th:TO):TE:=fun σ H Q=>te σ H fun x H1=>tl σ H1 fun l H2=>th σ H2 fun u H3=>r x l u H3 Q
theorem nq {r:V→Option Int→Option Int→Hp→VK→Prop} (hr:SlR X r) (he:PE X e te) (hl:PO X lo tl) (hu:PO X hi th):PE X (.Subscript e (.Slice lo hi none p2) pos) (tSl r te tl th):=by
  intro pins s σ H Q I h
  refine Subscript_ (thn (he pins s σ H _ I h) fun v s1 ⟨x,H1,I1,r1,q1⟩=>?_)
  refine wpAny_Slice (thn (hl pins s1 σ H1 _ I1 q1) fun vl s2 ⟨l,H2,I2,pl,q2⟩=>thn (hu pins s2 σ H2 _ I2 q2) fun vu s3 ⟨u,H3,I3,pu,q3⟩=>?_)
  rw [evalPart_none]
  refine wpAny_pure ?_
  have I4:Inv X pins σ H3 { s3 with heap:=s3.heap.push { cls:=.type "slice",data:=.fields #[vl,vu,.none] } }:=I3.kept (t':=s3.toks) fun b ob q=>Heap.get?_push_of_some _ q
  obtain ⟨T,id,hT,ht,hg⟩:=hr pins { s3 with heap:=s3.heap.push { cls:=.type "slice",data:=.fields #[vl,vu,.none] } } σ H3 x v vl vu l u s3.heap.objs.size Q I4 r1 (Heap.IsSliceOf.new ..) pl pu q3
  show wpAny (model X.prog X.w) X.A (subscriptTail e (.Slice lo hi none p2) v (.ref s3.heap.objs.size)) (EP X pins σ Q) X.xe { s3 with heap:=s3.heap.push { cls:=.type "slice",data:=.fields #[vl,vu,.none] } }
  exact tail_any (ops:=[.ref s3.heap.objs.size,v]) ht hT hg (by with_unfolding_all rfl)
def tK (xs:List V) (lo hi:Option Int):List V:=(xs.drop (HT.sIx xs.length 0 lo)).take (HT.sIx xs.length xs.length hi - HT.sIx xs.length 0 lo)
theorem ql (xs:List V) (lo hi:Option Int):(tK xs lo hi).length≤xs.length:=by
  unfold tK
  rw [List.length_take,List.length_drop]
  omega
end
end L2
namespace L2
open PySem PySem.Spec PyProof.Rows
def ixN (n:Nat) (i:Int):Option Nat:=if 0≤i then (if i<n then some i.toNat else none) else if -(n:Int)≤i then some (i + n).toNat else none
def atI {α:Type} (xs:List α) (i:Int):Option α:=(ixN xs.length i).bind fun j=>xs[j]?
theorem uY {n:Nat} {i:Int} {j:Nat} (h:ixN n i=some j):seqIndex? i n=some j∧j<n∧-(n:Int)≤i∧i<n:=by
  unfold ixN at h
  by_cases h0:0≤i
  · rw [if_pos h0] at h
    by_cases h1:i<n
    · rw [if_pos h1] at h
      have e:i.toNat=j:=Option.some.inj h
      exact ⟨by rw [seqIndex_of h0 h1,e],by omega,by omega,h1⟩
    · rw [if_neg h1] at h;cases h
  · rw [if_neg h0] at h
    by_cases h1:-(n:Int)≤i
    · rw [if_pos h1] at h
      have e:(i + n).toNat=j:=Option.some.inj h
      exact ⟨by rw [seqIndex_neg (by omega) h1,e],by omega,h1,by omega⟩
    · rw [if_neg h1] at h;cases h
theorem Al {α:Type} {xs:List α} {i:Int} {v:α} (h:atI xs i=some v):∃ j,seqIndex? i xs.length=some j∧xs[j]?=some v∧j<xs.length∧-(xs.length:Int)≤i∧i<xs.length:=by
  unfold atI at h
  cases e:ixN xs.length i with
  | none=>rw [e] at h;cases h
  | some j =>
    rw [e] at h
    obtain ⟨h1,h2,h3,h4⟩:=uY e
    exact ⟨j,h1,h,h2,h3,h4⟩
theorem gP {α:Type} {xs:List α} {j:Nat} {v:α} (h:xs[j]?=some v):atI xs (j:Int)=some v:=by
  have hj:j<xs.length:=(List.getElem?_eq_some_iff.mp h).1
  have e:ixN xs.length (j:Int)=some j:=by
    unfold ixN
    rw [if_pos (by omega),if_pos (by omega)];simp
  unfold atI;rw [e];exact h
theorem CJ {α:Type} (xs:List α) (v:α):atI (xs++[v]) (-1)=some v:=by
  have hl:(xs++[v]).length=xs.length + 1:=by simp
  have e:ixN (xs++[v]).length (-1)=some xs.length:=by
    unfold ixN
    rw [hl,if_neg (by decide),if_pos (by omega)]
    congr 1
    omega
  unfold atI
  rw [e]
  show (xs++[v])[xs.length]?=some v
  simp
def Oo (b:Expr):Prop:=∀ o i,subscripted b false o i=operate [o,i] (getItem o i)
def IxR (X:Cx) (r:R2):Prop :=
  ∀ (value slice:Expr) (pins:List (Addr × Obj)) (s:Shared) (σ:St) (H:Hp) (x y:V) (v u:Value) (Q:VK),Inv X pins σ H s→RelV x v→RelV y u→r x y H Q →
    subscripted slice false v u=operate [v,u] (getItem v u)→wpAny (model X.prog X.w) X.A (subscriptTail value slice v u) (EP X pins σ Q) X.xe s
def MtR (X:Cx) (id:String) (r:V→List V→Hp→VK→Prop):Prop :=
  ∀ (pins:List (Addr × Obj)) (s:Shared) (σ:St) (H:Hp) (x:V) (xs:List V) (v:Value) (us:List Value) (Q:VK),Inv X pins σ H s→RelV x v→Vals xs us→r x xs H Q →
    wpAny (model X.prog X.w) X.A (call (.builtin id) (v :: us)) (EP X pins σ Q) X.xe s
section
variable {X:Cx} {a b:Expr} {ta tb:TE} {pos:Pos}
theorem cG {r:R2} (hr:IxR X r) (ha:PE X a ta) (hb:PE X b tb) (hs:Oo b):PE X (.Subscript a b pos) (tOp r ta tb):=by
  intro pins s σ H Q I h
  exact Subscript_ (Ue ha hb I h fun v u s2 x y H2 I2 rx ry q=>hr a b pins s2 σ H2 x y v u Q I2 rx ry q (hs _ _))
def Vj (K:PySem.W.Frag):R2:=fun x y H Q=>∃ p xs i v,x=.ref p∧y=.int i∧SqL K H p xs∧atI xs i=some v∧Q v H
def Vi (K:PySem.W.Frag):R2:=fun x y H Q=>∃ p xs i v,x=.ref p∧y=.int i∧SqT K H p xs∧atI xs i=some v∧Q v H
theorem aX:IxR X (Vj X.K):=by
  intro value slice pins s σ H x y v u Q I rx ry h hs
  obtain ⟨p,xs,i,z,rfl,rfl,hq,he,q⟩:=h
  cases rx
  obtain ⟨t,rfl⟩:=ry
  obtain ⟨its,r,pl,hz⟩:=I.list hq
  obtain ⟨j,h1,h2,h3,h4,h5⟩:=Al he
  obtain ⟨w,ew,rw'⟩:=r.get h2
  have hl:=r.length
  have hn:=mQ
  have fin:EP X pins σ Q w s:=⟨z,H,I,rw',q⟩
  by_cases h0:0≤i
  · have hj:i.toNat=j:=by
      rw [seqIndex_of h0 h5] at h1
      exact Option.some.inj h1
    exact item_listR pl.isList h0 (by omega) (by rw [hj];simpa using ew) fin hs
  · have hj:(i + (its.toArray.size:Int)).toNat=j:=by
      rw [seqIndex_neg (by omega) h4] at h1
      rw [List.size_toArray,← hl]
      exact Option.some.inj h1
    exact subscriptTail_builtinR (x:=w) pl.isList.typeIs slot_list_getitem.lookup
      (wpAny_getItem_list_neg (Q:=fun r s'=>r=w∧EP X pins σ Q r s') pl.isList (by omega) (by rw [List.size_toArray] <;> omega) (by omega) (by rw [hj];simpa using ew) ⟨rfl,fin⟩) hs
theorem kI:IxR X (Vi X.K):=by
  intro value slice pins s σ H x y v u Q I rx ry h hs
  obtain ⟨p,xs,i,z,rfl,rfl,hq,he,q⟩:=h
  cases rx
  obtain ⟨t,rfl⟩:=ry
  obtain ⟨its,r,pl,hz⟩:=I.tuple hq
  obtain ⟨j,h1,h2,h3,h4,h5⟩:=Al he
  obtain ⟨w,ew,rw'⟩:=r.get h2
  have hl:=r.length
  have hn:=mQ
  have fin:EP X pins σ Q w s:=⟨z,H,I,rw',q⟩
  exact subscriptTail_builtinR (x:=w) pl.typeIs slot_tuple_getitem.lookup
    (getItem_tuple (j:=j) (Q:=fun r s'=>r=w∧EP X pins σ Q r s') pl (by omega) (by omega) (by rw [List.size_toArray,← hl];exact h1) (by simpa using ew) ⟨rfl,fin⟩) hs
theorem sS (its:List Value) (n j:Nat) (u:Value):Obj.mapSeq (·.setIfInBounds j u) { cls:=.type "list",data:=.seq its.toArray n }={ cls:=.type "list",data:=.seq (its.set j u).toArray n }:=by
  simp [Obj.mapSeq]
theorem Inv.lst {pins:List (Addr × Obj)} {σ:St} {H:Hp} {s:Shared} {p:Addr} {xs:List V} (I:Inv X pins σ H s) (h:H p=some (.lst xs)) :
    ∃ (its:List Value) (n:Nat),Vals xs its∧s.heap.get? p=some { cls:=.type "list",data:=.seq its.toArray n }∧xs.length≤sizeLine:=by
  obtain ⟨z,its,n,r,e⟩:=I.hok p _ h
  exact ⟨its,n,r,e,z⟩
theorem Inv.Qe {pins:List (Addr × Obj)} {σ:St} {H:Hp} {s:Shared} {p:Addr} {xs ys:List V} {its its':List Value} {n n':Nat} {f:Obj→Obj} (I:Inv X pins σ H s) (h:H p=some (.lst xs))
    (ho:s.heap.get? p=some { cls:=.type "list",data:=.seq its.toArray n }) (hf:f { cls:=.type "list",data:=.seq its.toArray n }={ cls:=.type "list",data:=.seq its'.toArray n' }) (r:Vals ys its') (hz:ys.length≤sizeLine) (t:Nat) :
    Inv X pins σ (upd H p (.lst ys)) { s with heap:=s.heap.update p f,toks:=t }:=by
  have e:(s.heap.update p f).get? p=some { cls:=.type "list",data:=.seq its'.toArray n' }:=by
    rw [Heap.get?_update_self f ho (by rw [hf] <;> rfl),hf]
  refine I.write (x:=p) (e:=p) (by rw [h];trivial) (.inl rfl) (fun b u hb q=>(Heap.get?_update_other _ _ (Ne.symm hb)).trans q) ⟨_,e⟩ ?_
  exact ⟨hz,its',n',r,e⟩
def Ph:V→V→V→Hp→(Hp→Prop)→Prop:=fun o i v H Q=>∃ p xs k j,o=.ref p∧i=.int k∧H p=some (.lst xs)∧ixN xs.length k=some j∧Q (upd H p (.lst (xs.set j v)))
theorem set_list:Vr X Ph:=by
  intro pins s σ H o i v ov iv u Q I ro ri rv h
  obtain ⟨p,xs,k,j,rfl,rfl,hp,hj,q⟩:=h
  cases ro
  obtain ⟨t,rfl⟩:=ri
  obtain ⟨its,n,r,ho,hz⟩:=I.lst hp
  obtain ⟨h1,h2,h3,h4⟩:=uY hj
  have hl:=r.length
  have hn:=mQ
  have I':Inv X pins σ (upd H p (.lst (xs.set j v))) { s with heap:=s.heap.update p (Obj.mapSeq (·.setIfInBounds j u)) } :=
    I.Qe hp ho (sS its n j u) (r.set rv j) (by rw [List.length_set];exact hz) s.toks
  by_cases h0:0≤k
  · have hk:k.toNat=j:=by
      rw [seqIndex_of h0 h4] at h1
      exact Option.some.inj h1
    exact PySem.W.ki_setAt ho h0 (by omega) (by rw [List.size_toArray,← hl];exact h4) (by rw [hk];exact ⟨_,I',q⟩)
  · have hk:(k + (its.toArray.size:Int)).toNat=j:=by
      rw [seqIndex_neg (by omega) h3] at h1
      rw [List.size_toArray,← hl]
      exact Option.some.inj h1
    exact PySem.W.ki_setBack ho (by omega) (by rw [List.size_toArray,← hl];exact h3) (by omega) (by rw [hk];exact ⟨_,I',q⟩)
theorem oH (lo hi:Option Int) (n:Nat):(sliceBounds lo hi none n).1=((HT.sIx n 0 lo:Nat):Int)∧(sliceBounds lo hi none n).2.1=((HT.sIx n n hi:Nat):Int)∧(sliceBounds lo hi none n).2.2=1:=by
  refine ⟨?_,?_,rfl⟩
  · cases lo with
    | none=>simp [sliceBounds,HT.sIx]
    | some i =>
      simp only [sliceBounds,HT.sIx,Option.getD_none,show (1:Int) > 0 by decide,if_true]
      by_cases h:i<0
      · simp only [h,if_true] <;> omega
      · simp only [h,if_false] <;> omega
  · cases hi with
    | none=>simp [sliceBounds,HT.sIx]
    | some i =>
      simp only [sliceBounds,HT.sIx,Option.getD_none,show (1:Int) > 0 by decide,if_true]
      by_cases h:i<0
      · simp only [h,if_true] <;> omega
      · simp only [h,if_false] <;> omega
theorem mZ (its:List Value) (lo hi:Option Int):slicePick its.toArray lo hi none=((its.drop (HT.sIx its.length 0 lo)).take (HT.sIx its.length its.length hi - HT.sIx its.length 0 lo)).toArray:=by
  obtain ⟨h1,h2,h3⟩:=oH lo hi its.toArray.size
  unfold slicePick
  rw [h1,h2,h3]
  simp only [sliceRange_one,pick_run,List.size_toArray] <;> rfl
def rSlL (K:PySem.W.Frag):V→Option Int→Option Int→Hp→VK→Prop:=fun x lo hi H Q=>∃ a xs,x=.ref a∧SqL K H a xs∧∀ p,H p=none→Q (.ref p) (upd H p (.lst (tK xs lo hi)))
theorem pU:SlR X (rSlL X.K):=by
  intro pins s σ H x v vl vu lo hi sl Q I rx hs pl pu h
  obtain ⟨a,xs,rfl,hx,q⟩:=h
  cases rx
  obtain ⟨its,r,ht,hz⟩:=I.list hx
  have hlen:=r.length
  refine ⟨"list",_,slot_list_getitem.lookup,ht.isList.typeIs,?_⟩
  refine wpAny_getItem_list_slice ht.isList hs pl pu .none (by simp) ?_ (by rw [List.size_toArray] <;> omega)
  rw [mZ,← hlen]
  refine ⟨.ref s.heap.objs.size,_,I.laid (t':=s.toks) (o:=.lst (tK xs lo hi)) (fun b ob q=>Heap.get?_push_of_some _ q) (Nat.le_refl _) ?_,rfl,q _ (I.hok.fresh (Nat.le_refl _))⟩
  exact ⟨Nat.le_trans (ql xs lo hi) hz,_,0,(r.drop (HT.sIx xs.length 0 lo)).take (HT.sIx xs.length xs.length hi - HT.sIx xs.length 0 lo),Heap.get?_push_size _ rfl⟩
def nT:V→Bool
  | .non=>true
  | .bl _=>true
  | .int _=>true
  | .str _=>true
  | _=>false
def eqV:V→V→Bool
  | .non,.non=>true
  | .bl a,.bl b=>a == b
  | .bl a,.int b=>(if a then 1 else 0) == b
  | .int a,.bl b=>a == (if b then 1 else 0)
  | .int a,.int b=>a == b
  | .str a,.str b=>a == b
  | _,_=>false
theorem T8 {A:Around} {s:Shared} {y x:V} {u v:Value} (ry:RelV y u) (rx:RelV x v) (fy:nT y=true) (fx:nT x=true):SeqAt.EqAt A s u v (eqV y x):=by
  cases y with
  | non =>
    cases ry
    cases x with
    | non=>cases rx;exact SeqAt.EqAt.same _
    | bl b=>cases rx;exact SeqAt.EqAt.none_bool b
    | int b=>obtain ⟨t,rfl⟩:=rx;exact SeqAt.EqAt.none_int b t
    | str b=>obtain ⟨t,rfl⟩:=rx;exact SeqAt.EqAt.none_str b t
    | _=>exact absurd (show false=true from fx) Bool.false_ne_true
  | bl a =>
    cases ry
    cases x with
    | non=>cases rx;exact SeqAt.EqAt.bool_none a
    | bl b=>cases rx;exact SeqAt.EqAt.bool_bool a b
    | int b=>obtain ⟨t,rfl⟩:=rx;exact SeqAt.EqAt.bool_int a b t
    | str b=>obtain ⟨t,rfl⟩:=rx;exact SeqAt.EqAt.bool_str a b t
    | _=>exact absurd (show false=true from fx) Bool.false_ne_true
  | int a =>
    obtain ⟨t',rfl⟩:=ry
    cases x with
    | non=>cases rx;exact SeqAt.EqAt.int_none a t'
    | bl b=>cases rx;exact SeqAt.EqAt.int_bool a t' b
    | int b=>obtain ⟨t,rfl⟩:=rx;exact SeqAt.EqAt.int_int a t' b t
    | str b=>obtain ⟨t,rfl⟩:=rx;exact SeqAt.EqAt.int_str a t' b t
    | _=>exact absurd (show false=true from fx) Bool.false_ne_true
  | str a =>
    obtain ⟨t',rfl⟩:=ry
    cases x with
    | non=>cases rx;exact SeqAt.EqAt.str_none a t'
    | bl b=>cases rx;exact SeqAt.EqAt.str_bool a t' b
    | int b=>obtain ⟨t,rfl⟩:=rx;exact SeqAt.EqAt.str_int a t' b t
    | str b=>obtain ⟨t,rfl⟩:=rx;exact SeqAt.EqAt.str_str a t' b t
    | _=>exact absurd (show false=true from fx) Bool.false_ne_true
  | _=>exact absurd (show false=true from fy) Bool.false_ne_true
def eqU (x:V) (u:Value):Bool:=match u with
  | .none=>eqV .non x
  | .bool b=>eqV (.bl b) x
  | .int i _=>eqV (.int i) x
  | .str z _=>eqV (.str z) x
  | _=>false
theorem Le {x y:V} {u:Value} (r:RelV y u) (f:nT y=true):eqU x u=eqV y x:=by
  cases y with
  | non=>cases r;rfl
  | bl b=>cases r;rfl
  | int i=>obtain ⟨t,rfl⟩:=r;rfl
  | str z=>obtain ⟨t,rfl⟩:=r;rfl
  | _=>exact absurd (show false=true from f) Bool.false_ne_true
theorem qu {x:V}:∀ {xs:List V} {us:List Value},Vals xs us→xs.all nT=true→us.any (eqU x)=xs.any fun y=>eqV y x
  | _,_,.nil,_=>rfl
  | y :: xs,u :: us,.cons r t,f=>by
    rw [List.all_cons,Bool.and_eq_true] at f
    rw [List.any_cons,List.any_cons,Le r f.1,qu t f.2]
theorem nF {A:Around} {s:Shared} {x:V} {v:Value} (rx:RelV x v) (fx:nT x=true):∀ {xs:List V} {us:List Value},Vals xs us→xs.all nT=true→∀ u∈us,SeqAt.EqAt A s u v (eqU x u)
  | _,_,.nil,_=>fun u hu=>by cases hu
  | y :: xs,u :: us,.cons r t,f=>fun u' hu=>by
    rw [List.all_cons,Bool.and_eq_true] at f
    rcases List.mem_cons.mp hu with rfl | hu
    · rw [Le r f.1];exact T8 r rx f.1 fx
    · exact nF rx fx t f.2 u' hu
def inV (x:V) (xs:List V):Bool:=xs.any fun y=>eqV y x
def rIn (K:PySem.W.Frag) (neg:Bool):R2:=fun x y H Q=>∃ p xs,y=.ref p∧(SqL K H p xs∨SqT K H p xs)∧nT x=true∧xs.all nT=true∧Q (.bl (if neg then !inV x xs else inV x xs)) H
theorem uM:OpR X (compareOp .In) (rIn X.K false):=by
  intro pins s σ H x y v u Q I rx ry h
  obtain ⟨p,xs,rfl,hq,fx,fs,q⟩:=h
  cases ry
  rcases hq with hq | hq
  · obtain ⟨its,r,pl,hz⟩:=I.list hq
    refine SeqAt.in_listAt (eqU x) pl.isList (fun w hw=>nF rx fx r fs w (by simpa using hw)) ⟨.bl _,H,I,rfl,?_⟩
    rw [show its.toArray.any (eqU x)=its.any (eqU x) by simp,qu r fs]
    exact q
  · obtain ⟨its,r,pl,hz⟩:=I.tuple hq
    refine SeqAt.in_tupleAt (eqU x) pl (fun w hw=>nF rx fx r fs w (by simpa using hw)) ⟨.bl _,H,I,rfl,?_⟩
    rw [show its.toArray.any (eqU x)=its.any (eqU x) by simp,qu r fs]
    exact q
theorem aF:mC X (.builtin "len") (fun xs H Q=>∃ p ys,xs=[.ref p]∧(SqL X.K H p ys∨SqT X.K H p ys)∧Q (.int ys.length) H):=by
  intro pins s σ H xs us Q I r h
  obtain ⟨p,ys,rfl,hq,q⟩:=h
  obtain ⟨u,rfl,rx⟩:=vals1 r
  cases rx
  have hn:=mQ
  rcases hq with hq | hq
  · obtain ⟨its,r',pl,hz⟩:=I.list hq
    have hlen:=r'.length
    exact Calls.call_len_list pl.isList (by simp only [List.size_toArray] <;> omega) ⟨.int ys.length,H,I.tok _,⟨s.toks + 1,by rw [List.size_toArray,hlen]⟩,q⟩
  · obtain ⟨its,r',pl,hz⟩:=I.tuple hq
    have hlen:=r'.length
    exact len_tuple pl (by simp only [List.size_toArray] <;> omega) ⟨.int ys.length,H,I.tok _,⟨s.toks + 1,by rw [List.size_toArray,hlen]⟩,q⟩
theorem o9:mC X (.builtin "len") (fun xs H Q=>∃ z,xs=[.str z]∧z.length≤sizeLine∧Q (.int z.length) H):=by
  intro pins s σ H xs us Q I r h
  obtain ⟨z,rfl,hz,q⟩:=h
  obtain ⟨u,rfl,t,rfl⟩:=vals1 r
  have hn:=mQ
  exact len_str (by omega) ⟨.int z.length,H,I.tok _,⟨_,rfl⟩,q⟩
theorem dJ:mC X (.type "list") (fun xs H Q=>∃ p ys,xs=[.ref p]∧(SqL X.K H p ys∨SqT X.K H p ys)∧∀ l,H l=none→Q (.ref l) (upd H l (.lst ys))):=by
  intro pins s σ H xs us Q I r h
  obtain ⟨p,ys,rfl,hq,q⟩:=h
  obtain ⟨u,rfl,rx⟩:=vals1 r
  cases rx
  have fin:∀ (its:List Value),Vals ys its→ys.length≤sizeLine→∀ (h':Heap) (c':Nat),(∀ b o',s.heap.get? b=some o'→h'.get? b=some o') →
      h'.get? s.heap.objs.size=some { cls:=.type "list",dict:=none,data:=.seq its.toArray c',slots:=#[] }→EP X pins σ Q (.ref s.heap.objs.size) { s with heap:=h' }:=fun its r' hz h' c' kp e =>
    ⟨.ref s.heap.objs.size,_,I.laid (t':=s.toks) kp (Nat.le_refl _) (show iy X.prog X.w _ h' _ (.lst ys) from ⟨hz,its,c',r',e⟩),rfl,q _ (I.hok.fresh (Nat.le_refl _))⟩
  rcases hq with hq | hq
  · obtain ⟨its,r',pl,hz⟩:=I.list hq
    have hlen:=r'.length
    obtain ⟨o,ho,hc,n,hd⟩:=pl.isList
    exact call_list_seq p (.inl rfl) ho hc hd (fun h' c' kp e=>fin its r' hz h' c' kp e) (by simp only [List.size_toArray] <;> omega)
  · obtain ⟨its,r',pl,hz⟩:=I.tuple hq
    have hlen:=r'.length
    obtain ⟨o,ho,hc,n,hd⟩:=pl
    exact call_list_seq p (.inr rfl) ho hc hd (fun h' c' kp e=>fin its r' hz h' c' kp e) (by simp only [List.size_toArray] <;> omega)
def tyV (K:PySem.W.Frag) (T:String) (x:V) (H:Hp):Prop:=match x with
  | .str _=>T="str"
  | .int _=>T="int"
  | .ref p=>(T="list"∧∃ xs,SqL K H p xs)∨(T="tuple"∧∃ o,K.lookup p=some o∧o.cls=.type "tuple"∧o.dict=none) ∨
      (T="dict"∧((∃ kvs,H p=some (.dK kvs))∨∃ kvs,H p=some (.dT kvs)))∨(T="set"∧∃ S n,H p=some (.set S n))
  | _=>False
theorem O4 {pins:List (Addr × Obj)} {σ:St} {H:Hp} {s:Shared} {T:String} {x:V} {v:Value} (I:Inv X pins σ H s) (r:RelV x v) (ty:tyV X.K T x H) :
    s.TypeIs v T∧∀ a,v=.ref a→∃ ob,s.heap.get? a=some ob∧ob.dict=none:=by
  cases x with
  | str z =>
    obtain ⟨t,rfl⟩:=r
    cases (show T="str" from ty)
    exact ⟨typeIs_str s z t,fun _ e=>nomatch e⟩
  | int i =>
    obtain ⟨t,rfl⟩:=r
    cases (show T="int" from ty)
    exact ⟨typeIs_int s i t,fun _ e=>nomatch e⟩
  | ref p =>
    cases r
    rcases ty with ⟨rfl,xs,hq⟩ | ⟨rfl,o,hk,hc,hd⟩ | ⟨rfl,hk⟩ | ⟨rfl,S,n,hk⟩
    · obtain ⟨its,_,pl,_⟩:=I.list hq
      refine ⟨pl.isList.typeIs,fun a e=>?_⟩
      cases e
      obtain ⟨o,n,e,c,hd,_⟩:=pl
      exact ⟨o,e,hd⟩
    · refine ⟨⟨o,I.kIn p o hk,hc⟩,fun a e=>?_⟩
      cases e
      exact ⟨o,I.kIn _ o hk,hd⟩
    · have z:∃ o,s.heap.get? p=some o∧o.ExactDict:=by
        rcases hk with ⟨kvs,hk⟩ | ⟨kvs,hk⟩
        · obtain ⟨_,_,_,_,o,_,_,e,ex,_⟩:=I.hok p _ hk
          exact ⟨o,e,ex⟩
        · obtain ⟨_,_,_,_,o,_,_,e,ex,_⟩:=I.hok p _ hk
          exact ⟨o,e,ex⟩
      obtain ⟨o,e,ex⟩:=z
      refine ⟨⟨o,e,ex.1⟩,fun a e2=>?_⟩
      cases e2
      exact ⟨o,e,ex.2.1⟩
    · obtain ⟨o,_,_,_,e,ex,_⟩:=I.hok p _ hk
      refine ⟨⟨o,e,ex.1⟩,fun a e2=>?_⟩
      cases e2
      exact ⟨o,e,ex.2.1⟩
  | _=>exact False.elim ty
def tBM (K:PySem.W.Frag) (T:String) (r:V→List V→Hp→VK→Prop) (to:TE) (t:TA):TE:=fun σ H Q=>to σ H fun x H1=>tyV K T x H1∧t σ H1 fun xs H2=>r x xs H2 Q
variable {o e:Expr} {es:List Expr} {to:TE} {t:TA} {name:Str} {apos cpos:Pos} {T id:String} {r:V→List V→Hp→VK→Prop}
theorem j4 (pa:PlainAttrs T) (slot:Slot T name id) (hty:typeOf (.builtin id)=pure (.type "method_descriptor")) (hm:MtR X id r) (ho:PE X o to) (ha:PA X (e :: es) t)
    (hbase:attributeBase o name X.env (eval o X.env)=eval o X.env:=by rfl)
    (hfew:((backTo cpos (starEach (e :: es) X.env)).all (fun x=>!x.1) && (backToKw cpos (keywordEach [] X.env)).all (fun x=>x.1.isSome)
      && decide ((e :: es).length + ([]:List Keyword).length + (if ([]:List Keyword).isEmpty then 0 else 1)<30))=true:=by rfl)
    (hline:(apos.endLine == cpos.line)=true:=by rfl) (hs:starEach (e :: es) X.env=(false,eval e X.env) :: starEach es X.env:=by rfl) (hplain:(backTo cpos (starEach es X.env)).any (·.1)=false:=by rfl) :
    PE X (.Call (.Attribute o name apos) (e :: es) [] cpos) (tBM X.K T r to t):=by
  intro pins s σ H Q I h
  refine wpAny_Call_method_late hbase hfew hline rfl (thn (ho pins s σ H _ I h) fun v s1 ⟨x,H1,I1,r1,ty,q1⟩=>?_)
  obtain ⟨h1,h2⟩:=O4 I1 r1 ty
  refine ⟨T,id,pa,slot,hty,h1,h2,?_⟩
  have hA:=ha cpos pins s1 σ H1 _ I1 q1
  rw [hs] at hA ⊢
  refine Calls.callWith_builtin (by show (false || (backTo cpos (starEach es X.env)).any (·.1))=false;rw [hplain] <;> rfl) (Calls.evalArgs_plain ?_)
  exact thn hA fun us s2 ⟨vs,H2,I2,r2,q2⟩=>hm pins s2 σ H2 x vs v us Q I2 r1 r2 q2
end
end L2
namespace L2
open PySem PySem.Spec PyProof.Rows
def MtM (X:Cx) (id:String) (r:V→List V→Hp→VK→Prop):Prop :=
  ∀ (pins:List (Addr × Obj)) (s:Shared) (σ:St) (H:Hp) (x:V) (xs:List V) (v:Value) (us:List Value) (Q:VK),Inv X pins σ H s→RelV x v→Vals xs us→r x xs H Q →
    wpAny (model X.prog X.w) X.A (call (.builtin id) (v :: us)) (EP X pins σ Q) X.xe s
theorem Vals.one:∀ {x:V} {us:List Value},Vals [x] us→∃ u,us=[u]∧RelV x u
  | _,_,.cons r .nil=>⟨_,rfl,r⟩
theorem Vals.two:∀ {x y:V} {us:List Value},Vals [x,y] us→∃ u v,us=[u,v]∧RelV x u∧RelV y v
  | _,_,_,.cons r (.cons q .nil)=>⟨_,_,rfl,r,q⟩
theorem Vals.rep {xs:List V} {us:List Value} (h:Vals xs us):∀ k:Nat,Vals (List.replicate k xs).flatten (List.replicate k us).flatten
  | 0=>.nil
  | k + 1=>by
    rw [List.replicate_succ,List.replicate_succ,List.flatten_cons,List.flatten_cons]
    exact Vals.append h (Vals.rep h k)
theorem foldl_rep (its:List Value):∀ (k:Nat) (acc:List Value),
    List.foldl (fun x1 x2=>x1++x2) acc.toArray (List.replicate k its.toArray)=(acc++(List.replicate k its).flatten).toArray
  | 0,acc=>by simp
  | k + 1,acc=>by
    have e:acc.toArray++its.toArray=(acc++its).toArray:=by simp
    have e2:(acc++its)++(List.replicate k its).flatten=acc++(List.replicate (k + 1) its).flatten:=by
      rw [List.replicate_succ,List.flatten_cons,List.append_assoc]
    rw [← e2,← foldl_rep its k (acc++its),← e,List.replicate_succ,List.foldl_cons]
section
variable {X:Cx} {pins:List (Addr × Obj)} {σ:St} {H:Hp} {s:Shared} {l b:Addr} {xs ys zs:List V}
theorem Inv.Vo {its its':List Value} {n:Nat} {f:Array Value→Array Value} {t':Nat} (I:Inv X pins σ H s) (hH:H l=some (.lst xs))
    (e:s.heap.get? l=some { cls:=.type "list",data:=.seq its.toArray n }) (hf:f its.toArray=its'.toArray) (hv:Vals ys its') (hz:ys.length≤sizeLine) :
    Inv X pins σ (upd H l (.lst ys)) { s with heap:=s.heap.update l (Obj.mapSeq f),toks:=t' }:=by
  have q:=PySem.IsL.update e f
  rw [hf] at q
  refine I.write (x:=l) (e:=l) (by rw [hH];exact trivial) (.inl rfl) (fun b' u hb hu=>(Heap.get?_update_other s.heap (Obj.mapSeq f) (Ne.symm hb)).trans hu) ⟨_,q⟩ ?_
  exact ⟨hz,its',_,hv,q⟩
theorem Inv.Vp {its:List Value} {t':Nat} (I:Inv X pins σ H s) (hv:Vals ys its) (hz:ys.length≤sizeLine) :
    Inv X pins σ (upd H s.heap.objs.size (.lst ys)) { s with heap:=s.heap.push { cls:=.type "list",data:=.seq its.toArray },toks:=t' } :=
  I.laid (fun _ _ q=>Heap.get?_push_of_some _ q) (Nat.le_refl _) ⟨hz,its,0,hv,Heap.get?_push_size _ rfl⟩
theorem Inv.fresh (I:Inv X pins σ H s):H s.heap.objs.size=none:=I.hok.fresh (Nat.le_refl _)
theorem Inv.Qf (I:Inv X pins σ H s) (hH:H l=some (.lst xs)):xs.length≤sizeLine∧∃ (its:List Value) (n:Nat),Vals xs its∧xs.length=its.length∧s.heap.get? l=some { cls:=.type "list",data:=.seq its.toArray n }:=by
  obtain ⟨z,its,n,r,e⟩:=I.hok l _ hH
  exact ⟨z,its,n,r,r.length,e⟩
theorem BR {n:Nat} (h:n≤sizeLine):Builtin.List.listTooLong n=false:=by
  unfold Builtin.List.listTooLong
  exact decide_eq_false (by omega)
end
section
variable {X:Cx}
def LR:V→List V→Hp→VK→Prop:=fun x vs H Q=>∃ l xs y,x=.ref l∧vs=[y]∧H l=some (.lst xs)∧xs.length<sizeLine∧Q .non (upd H l (.lst (xs++[y])))
theorem dg:MtM X "list.append" LR:=by
  intro pins s σ H x vs v us Q I rx rv h
  obtain ⟨l,xs,y,rfl,rfl,hH,hz,q⟩:=h
  cases rx
  obtain ⟨u,rfl,ru⟩:=rv.one
  obtain ⟨z,its,n,r,hl,e⟩:=I.Qf hH
  refine call_meets F.slot_list_append ⟨_,e,rfl⟩ F.entry_list_append (F.args_list_append_2 _ _) (PySem.list_append l its.toArray n u (by rw [List.size_toArray];omega)) ⟨e,?_⟩
  refine ⟨.non,_,I.Vo (its':=its++[u]) hH e (by simp) (r.append (.cons ru .nil)) ?_,rfl,q⟩
  rw [List.length_append,List.length_singleton]
  omega
def rCat:R2:=fun x y H Q=>∃ l b xs zs,x=.ref l∧y=.ref b∧H l=some (.lst xs)∧H b=some (.lst zs)∧xs.length + zs.length≤sizeLine∧∀ p,H p=none→Q (.ref p) (upd H p (.lst (xs++zs)))
theorem rB:OpR X (binaryOp .Add) rCat:=by
  intro pins s σ H x y v u Q I rx ry h
  obtain ⟨l,b,xs,zs,rfl,rfl,hH,hB,hz,q⟩:=h
  cases rx
  cases ry
  obtain ⟨z,its,n,r,hl,e⟩:=I.Qf hH
  obtain ⟨z2,its2,n2,r2,hl2,e2⟩:=I.Qf hB
  refine PySem.P.add_list e e2 ?_ (by rw [List.size_toArray,List.size_toArray];omega)
  have ea:its.toArray++its2.toArray=(its++its2).toArray:=by simp
  rw [ea]
  exact ⟨.ref _,_,I.Vp (t':=s.toks) (r.append r2) (by rw [List.length_append];omega),rfl,q _ I.fresh⟩
def rRep:R2:=fun x y H Q=>∃ l k xs,x=.ref l∧y=.int k∧H l=some (.lst xs)∧-(2 ^ 63)≤k∧k<2 ^ 63∧xs.length * k.toNat≤sizeLine ∧
  ∀ p,H p=none→Q (.ref p) (upd H p (.lst (List.replicate k.toNat xs).flatten))
theorem len_rep {α:Type} (xs:List α) (k:Nat):(List.replicate k xs).flatten.length=k * xs.length:=by
  induction k with
  | zero=>simp
  | succ k ih=>rw [List.replicate_succ,List.flatten_cons,List.length_append,ih,Nat.succ_mul,Nat.add_comm]
theorem uK:OpR X (binaryOp .Mult) rRep:=by
  intro pins s σ H x y v u Q I rx ry h
  obtain ⟨l,k,xs,rfl,rfl,hH,h1,h2,hz,q⟩:=h
  cases rx
  obtain ⟨t,rfl⟩:=ry
  obtain ⟨z,its,n,r,hl,e⟩:=I.Qf hH
  have hlen:its.toArray.size * k.toNat≤sizeLine:=by rw [List.size_toArray,← hl];exact hz
  have hcap:¬ its.toArray.size * k.toNat > (2 ^ 63 - 1) / 8:=by
    have:(sizeLine:Nat)≤(2 ^ 63 - 1) / 8:=by decide
    omega
  have hfit:¬ (!Builtin.List.listFitsIndex k)=true:=by
    rw [fitsIndex_both h1 h2]
    exact Bool.false_ne_true
  have hlong:¬ Builtin.List.listTooLong (its.toArray.size * k.toNat)=true:=by
    rw [BR hlen]
    exact Bool.false_ne_true
  have hnew:List.foldl (fun x1 x2=>x1++x2) #[] (List.replicate (if its.toArray.isEmpty=true then 0 else k.toNat) its.toArray)=(List.replicate k.toNat its).flatten.toArray:=by
    have f0:∀ m:Nat,List.foldl (fun x1 x2=>x1++x2) #[] (List.replicate m its.toArray)=(List.replicate m its).flatten.toArray:=fun m=>by
      have:=foldl_rep its m []
      rw [List.nil_append] at this
      exact this
    rw [f0]
    cases its with
    | nil=>simp
    | cons a r'=>rw [if_neg (by simp)]
  refine wpAny_binaryOp_repeat_ref (T:="list") (U:="int") (by decide) ⟨_,e,rfl⟩ (fun s'=>typeIs_int s' k t) noFill_list_mul F.fills_int_mul F.slot_int_rmul repeat_list F.slot_int_index.lookup
    (call_meets F.slot_int_rmul (typeIs_int s k t) F.entry_int_rmul (F.args_int_rmul_2 _ _) (int___rmul___int_list k t l its.toArray n)
      ⟨e,rfl,⟨_,e,rfl⟩,call_meets F.slot_list_mul ⟨_,e,rfl⟩ F.entry_list_mul (F.args_list_mul_2 _ _) (AutoListH.list___mul___list_int_3 l its.toArray n k t hfit hcap hlong) ⟨e,?_⟩⟩)
  rw [hnew]
  exact ⟨.ref _,_,I.Vp (t':=s.toks) (r.rep k.toNat) (by rw [len_rep,Nat.mul_comm];exact hz),rfl,q _ I.fresh⟩
end
end L2
namespace Att
open PySem PySem.W PySem.Calls PyProof.Rows
theorem lQ {P:Params} {h:Heap}:∀ (ns:List Int) (vs:List Value),WellAll P h vs (ns.map WData.int)→IntsAre vs ns:=by
  intro ns
  induction ns with
  | nil =>
    intro vs w
    rw [List.map_nil] at w
    cases w
    exact .nil
  | cons n ns ih =>
    intro vs w
    rw [List.map_cons] at w
    cases w with
    | cons a b =>
      cases a
      exact .cons _ _ (ih _ b)
theorem uo {l:OpenLaw} {n:Nat} (hn:l.most=some n) {P:Params} {h:Heap} {args:List WData} {vals:List Value}
    (hpre:l.row.toRowW.claim.pre args=true) (hwl:WellAll P h vals args) :
    ∃ a vs ns,vals=[Value.ref a]∧args=[WData.list (ns.map WData.int)]∧h.get? a=some { cls:=.type "list",data:=.seq vs.toArray }∧IntsAre vs ns∧ns.length≤n:=by
  have hsh:WShape.hasAll [] args [.list .int]=true:=(pre_splitW hpre).1
  have hc:l.pre.holds [] { args:=args }=true:=(pre_splitW hpre).2
  obtain ⟨d,r,rfl,h1,h2⟩:=hasAllW_cons hsh
  obtain rfl:=hasAllW_nil h2
  obtain ⟨xs,rfl,h3⟩:=hasW_list h1
  obtain ⟨ns,rfl⟩:=items_int h3
  have hlen:ns.length≤n:=by
    unfold OpenLaw.pre at hc
    have h4:(WTm.not (.lt (.lit (.int (n:Int))) (.len (.arg 0)))).holds [] { args:=[.list (ns.map .int)] }=true:=by
      have h4:=(holds_andW hc).1
      rw [hn] at h4
      exact h4
    have h5:=condW_of h4 (w_not (w_lt w_lit (w_len_list (w_arg rfl))))
    rw [List.length_map] at h5
    refine Nat.le_of_not_lt fun q=>?_
    have q':(n:Int)<((ns.length:Nat):Int):=by omega
    first
      | (rw [decide_eq_true q'] at h5;exact absurd h5 (by decide))
      | (simp at h5;omega)
  cases hwl with
  | cons w1 w2 =>
    cases w2
    cases w1 with
    | list ho hall=>exact ⟨_,_,ns,rfl,rfl,ho,lQ ns _ hall,hlen⟩
theorem uy (l:OpenLaw) (args:List WData):l.row.toRowW.claim.post args (.bool true) args=true :=
  postW_of (r:=l.row.toRowW) (X:=(true == true))
    (show WShape.has [] (.bool true) .bool=true by first | rfl | decide | simp [WShape.has,WShape.arms,WShape.armsAll])
    (show (WTm.eq .res (.lit (.bool true))).value [] { args:=args,res:=some (.bool true),after:=args }=some (.bool (true == true)) from w_eq_bool (w_res rfl) w_lit) rfl
theorem qt {l:OpenLaw} {n:Nat} {q:Program} {loose:List Str} {XP:(Str→Option Value)→Heap→Prop} {YP:World→Heap→Prop} {d:DefRec}
    (hn:l.most=some n) (hdf:d.params.defaults=[])
    (call:∀ (w:World) (s₀ s₁:Shared) (mg mb:Str→Option Value) (fa:Addr) (o:Obj) (pm cd doc:Value) (a:Addr) (vs:List Value) (ns:List Int),
      Ground q loose [] XP w s₀ mg mb s₁.heap→YP w s₁.heap →
      s₁.heap.get? fa=some o→o.data=.func (docDef d.name d.params d.body d.scope pm cd doc)→s₁.heap.CodeRec cd d.name→mg d.name=some (.ref fa) →
      s₁.heap.get? a=some { cls:=.type "list",data:=.seq vs.toArray }→IntsAre vs ns→ns.length≤n→s₁.gens=#[] →
      codeAny (model l.prog w) callerA (.call (.ref fa) ⟨[.ref a],[]⟩) (fun r s'=>r=.ok (.ret (.bool true))∧OldK s₁.heap s'.heap∧s'.os=s₁.os∧AllBare s'.gens) s₁) :
    WalkO q loose XP YP l.row.toRowW d [] (fun f vs=>PySem.call f vs):=by
  intro w s₀ s₁ mg mb G Y fa o pm cd doc dV kV ho hd hcd hD hmg hg args vals as hpre hlay hrd hwl hlo
  obtain rfl:dV=.none:=Dflts.none hD hdf
  obtain rfl:kV=.none:=Dflts.noKw hD
  obtain ⟨a,vs,ns,rfl,rfl,hobj,hints,hlen⟩:=uo hn hpre hwl
  refine enter_call (codeAny_mono (call w s₀ s₁ mg mb fa o pm cd doc a vs ns G Y ho (fd_plain hd) hcd hmg hobj hints hlen hg) fun r s' hq=>?_)
  obtain ⟨rfl,h2,h3,h4⟩:=hq
  exact ⟨.inl ⟨.bool true,.bool true,[],rfl,fun _=>rfl,.bool true,uy l _,fun _=>⟨List.Pairwise.nil,fun _ hm=>(nomatch hm)⟩⟩,h2,h3,h4⟩
end Att
namespace L2
open PySem PySem.Spec PyProof.Rows
theorem ou:∀ {vs:List Value} {ns:List Int},IntsAre vs ns→Vals (ns.map V.int) vs
  | _,_,.nil=>.nil
  | _,_,.cons n t h=>.cons ⟨t,rfl⟩ (ou h)
def Only (H:Hp):Prop:=∀ b,H b=none∨∃ o xs,H b=some (.frz o (.lst xs))
theorem BZ {P:Program} {w:World} {K:PySem.W.Frag} {mg mb:Str→Option Value} {CX:CXT} {k:Nat} {fa a:Addr} {fd:FuncData} {x:Str} {sp:Sp} {s₁:Shared} {vs:List Value} {ns:List Int}
    (KX:K.In s₁.heap) (hns:s₁.heap.Ns mainGlobals mg) (hb:s₁.heap.Ns builtinsNs mb) (hbb:∀ x:Str,x≠"__name__"→mb x=bootBuiltins x) (hlim:s₁.heap.NoLimit) (hg:s₁.gens=#[])
    (ha:s₁.heap.get? a=some { cls:=.type "list",data:=.seq vs.toArray }) (hi:IntsAre vs ns) (hl:ns.length≤sizeLine) (hr:jV k callerA)
    (F:∀ base:Heap,K.In base→base.Ns mainGlobals mg→bM P w K mg base CX k fa fd [x] sp) (hbind:∀ (s:Shared) (u:Value),BindsTo s fd ⟨[u],[]⟩ [(x,u)])
    (hsp:∀ H:Hp,Only H→SqL K H a (ns.map V.int)→sp [.ref a] H (fun v _=>v=.bl true) fun _ _ _=>False)
    (hCX:∀ H e s',CX [] H s₁ (fun _ _ _=>False) e s'→False) :
    codeAny (model P w) callerA (.call (.ref fa) ⟨[.ref a],[]⟩) (fun r s'=>r=.ok (.ret (.bool true))∧OldK s₁.heap s'.heap∧s'.os=s₁.os∧AllBare s'.gens) s₁:=by
  have rv:=ou hi
  have lenV:=hi.length
  have core:∀ H:Hp,Only H→SqL K H a (ns.map V.int)→HOk P w H s₁.heap→(∀ b,H b≠none→b=a)→(H a≠none→K.lookup a=none) →
      codeAny (model P w) callerA (.call (.ref fa) ⟨[.ref a],[]⟩) (fun r s'=>r=.ok (.ret (.bool true))∧OldK s₁.heap s'.heap∧s'.os=s₁.os∧AllBare s'.gens) s₁:=by
    intro H hO hS hok hA hK
    have base_of:∀ {b:Addr} {o:Obj},s₁.heap.get? b=some o→H b=none→(Ck s₁.heap H).get? b=some o:=fun e n=>Cj e n
    have noA:∀ {b:Addr} {o:Obj} {es:Array DictEntry} {ep:Nat},s₁.heap.get? b=some o→o.data=.dict es ep→H b=none:=fun {b o es ep} e d=>by
      cases q:H b with
      | none=>rfl
      | some u =>
        have e':b=a:=hA b (by rw [q];simp)
        subst e'
        rw [ha] at e;cases e
        have d':Data.seq vs.toArray _=Data.dict es ep:=d
        cases d'
    have nsK:∀ {b:Addr} {m:Str→Option Value},s₁.heap.Ns b m→(Ck s₁.heap H).Ns b m:=fun {b m} ⟨o,es,ep,e,d,r⟩=>⟨o,es,ep,base_of e (noA e d),d,r⟩
    have hKb:K.In (Ck s₁.heap H):=fun b o e=>base_of (KX b o e) (by
      cases q:H b with
      | none=>rfl
      | some u =>
        have e':b=a:=hA b (by rw [q];simp)
        subst e'
        rw [hK (by rw [q];simp)] at e;cases e)
    have hM:Mod K mg (Ck s₁.heap H):=⟨hKb,nsK hns,⟨mb,nsK hb,hbb⟩,let ⟨mc,h1,h2⟩:=hlim;⟨mc,nsK h1,h2⟩⟩
    have e0:Ot P w K mg (Ck s₁.heap H) callerA [] s₁ H:=⟨rfl,hM,fun b o e=>Mt e,Nat.le_of_eq (z6 _ _),trivial,fun b hb=>absurd (show b∈([]:List Addr) from hb) (by simp),hok,.of_eq hg⟩
    refine codeAny_mono ((F _ hKb (nsK hns)).run callerA [] s₁ H ⟨[.ref a],[]⟩ [.ref a] [.ref a] _ _ hr e0 (hbind s₁ (.ref a)) (.cons rfl .nil) (hsp H hO hS)) fun r s' h=>?_
    cases r with
    | error e=>exact (hCX H e s' h).elim
    | ok fl =>
      cases fl with
      | next=>exact False.elim h
      | brk=>exact False.elim h
      | cont=>exact False.elim h
      | ret u =>
        obtain ⟨v,H',os,bare,un,hok',r',q⟩:=h
        have q':v=.bl true:=q
        subst q'
        obtain rfl:u=Value.bool true:=r'
        refine ⟨rfl,OldK.of_keep fun b o e=>?_,os,bare⟩
        cases q:H b with
        | none=>exact un.keep b o e q (by intro z;exact absurd (show b∈([]:List Addr) from z) (by simp)) (by simp)
        | some u =>
          rcases hO b with z | ⟨ob,xs,z⟩
          · rw [q] at z;cases z
          · have z2:=un.frzs b ob _ z
            obtain ⟨e1,_⟩:=hok b _ z
            obtain ⟨e2,_⟩:=hok' b _ z2
            rw [e] at e1;cases e1
            exact e2
  cases hk:K.lookup a with
  | some o =>
    have e:=KX a o hk
    rw [ha] at e
    cases e
    refine core (fun _=>none) (fun _=>.inl rfl) (.inr ⟨_,vs.toArray,_,hk,rfl,rfl,rfl,by rw [List.size_toArray,lenV];exact hl,by simpa using rv⟩) (fun b u z=>by have z':(none:Option HO)=some u:=z;cases z') (fun b z=>absurd rfl z) fun z=>absurd rfl z
  | none =>
    refine core (fun b=>if b=a then some (.frz { cls:=.type "list",data:=.seq vs.toArray } (.lst (ns.map V.int))) else none) (fun b=>?_) (.inl (.inr ⟨{ cls:=.type "list",data:=.seq vs.toArray },if_pos rfl⟩)) (fun b u z=>?_) (fun b z=>?_) fun _=>hk
    · by_cases hb:b=a
      · exact .inr ⟨_,_,if_pos hb⟩
      · exact .inl (if_neg hb)
    · by_cases hb:b=a
      · have z':=(if_pos hb).symm.trans z
        cases z'
        subst hb
        exact ⟨ha,by rw [List.length_map];exact hl,vs,_,rv,ha⟩
      · have z':=(if_neg hb).symm.trans z
        cases z'
    · by_cases hb:b=a
      · exact hb
      · exact absurd (if_neg hb) z
end L2
namespace L2
open PySem PySem.Spec PyProof.Rows
abbrev KOf {K:PySem.W.Frag} {h:Heap} (_:K.In h):PySem.W.Frag:=K
theorem Lq {l:PySem.W.OpenLaw} {n k:Nat} {q:Program} {loose:List Str} {XP:(Str→Option Value)→Heap→Prop} {YP:World→Heap→Prop} {d:DefRec} {K:Params→PySem.W.Frag} {CX:World→CXT} {sp:World→Sp} {x:Str}
    (hn:l.most=some n) (hn2:n≤sizeLine) (hdf:d.params.defaults=[]) (hr:jV k callerA)
    (hY:∀ (w:World) (h:Heap),YP w h→(K w.params).In h)
    (F:∀ (w:World) (mg:Str→Option Value) (fa:Addr) (h:Heap),(K w.params).In h→h.Ns mainGlobals mg→mg d.name=some (.ref fa) →
      ∃ fd:FuncData,(∀ (s:Shared) (u:Value),BindsTo s fd ⟨[u],[]⟩ [(x,u)]) ∧
        ∀ base:Heap,(K w.params).In base→base.Ns mainGlobals mg→bM l.prog w (K w.params) mg base (CX w) k fa fd [x] (sp w))
    (hsp:∀ (w:World) (H:Hp) (a:Addr) (ns:List Int),ns.length≤n→Only H→SqL (K w.params) H a (ns.map V.int)→sp w [.ref a] H (fun v _=>v=.bl true) fun _ _ _=>False)
    (hCX:∀ (w:World) (H:Hp) (s:Shared) (e:Value) (s':Shared),CX w [] H s (fun _ _ _=>False) e s'→False) :
    PySem.W.WalkO q loose XP YP l.row.toRowW d [] (fun f vs=>PySem.call f vs):=by
  refine Att.qt hn hdf fun w s₀ s₁ mg mb fa o pm cd doc a vs ns G Y ho hd hcd hmg hobj hints hlen hg=>?_
  have KX:=hY w _ Y
  obtain ⟨fd,hb,hF⟩:=F w mg fa _ KX G.T.g hmg
  exact BZ KX G.T.g G.T.b G.T.builtins G.T.nolimit hg hobj hints (Nat.le_trans hlen hn2) hr hF hb (fun H hO hS=>hsp w H a ns hlen hO hS) fun H e s'=>hCX w H s₁ e s'
end L2
namespace L2
open PySem PySem.Spec PyProof.Rows
abbrev CX0:CXT:=fun _ _ _ _ _ _=>False
abbrev E0:XK:=fun _ _ _=>False
theorem bZ {X:Cx}:Passes CX0 X E0:=fun _ _ _ _ _ _ _ h=>h.elim
structure Fun (K:PySem.W.Frag) (x qual:Str) (st:Stmt) (f:Addr) (fd:FuncData):Prop where
  ex:∃ (oc:Value) (od:Option Addr) (kV doc pm:Value) (an:Option Addr) (cdv ct:Value) (osl:Array (Option Value)),
    fd=PySem.W.fnOf x qual (ao st) (ak st) (aj st) .none kV doc pm an cdv ct∧K.lookup f=some ⟨oc,od,.func fd,osl⟩∧PySem.W.codeIn K cdv qual=true
  kp:PySem.W.keepIn K (.ref f)=true
variable {P:Program} {w:World} {K:PySem.W.Frag} {mg:Str→Option Value} {base:Heap} {T:fJ}
theorem Fun.ok {x qual:Str} {st:Stmt} {f:Addr} {fd:FuncData} {N ps:List Str} {k:Nat} {sp:Sp} (F:Fun K x qual st f fd) (S:aN N ps (aj st)) (len:∀ vs H Q E,sp vs H Q E→vs.length=ps.length)
    (hbody:∀ (cdv:Value) (A:Around) (outer:List Env) (s:Shared) (H:Hp) (vs:List V) (Q:VK) (E:XK),jV k (A.deeper (envOfC qual (aj st) s.heap.objs.size f cdv))→sp vs H Q E →
      ∃ t,PSs (Ar CX0 P w K mg base N qual (aj st) f cdv A outer s H E).nox (ak st) t∧t { nx:=fun _ H'=>Q .non H',rt:=Q } (start N vs) H):bM P w K mg base CX0 (k + 1) f fd ps sp:=by
  obtain ⟨oc,od,kV,doc,pm,an,cdv,ct,osl,rfl,lk,hcd⟩:=F.ex
  refine Ob lk hcd S len fun A outer s H vs Q E hr hsp=>?_
  obtain ⟨t,h,q⟩:=hbody cdv A outer s H vs Q E hr hsp
  exact ⟨t,h.nox,q⟩
theorem Fun.binds {x qual:Str} {st:Stmt} {f:Addr} {fd:FuncData} {ps:List Str} (F:Fun K x qual st f fd)
    (h:∀ (kV doc pm:Value) (an:Option Addr) (cdv ct:Value) (us:List Value),us.length=ps.length→bindArgs (PySem.W.fnOf x qual (ao st) (ak st) (aj st) .none kV doc pm an cdv ct) ⟨us,[]⟩=pure (ps.zip us)):Binds K fd ps []:=by
  obtain ⟨oc,od,kV,doc,pm,an,cdv,ct,osl,rfl,lk,hcd⟩:=F.ex
  exact .all (h kV doc pm an cdv ct)
theorem bL {x qual:Str} {st:Stmt} {f:Addr} {oc:Value} {od an:Option Addr} {osl:Array (Option Value)} {kV doc pm cdv ct:Value} (l:K.lookup f=some ⟨oc,od,.func (PySem.W.fnOf x qual (ao st) (ak st) (aj st) .none kV doc pm an cdv ct),osl⟩)
    (c:PySem.W.codeIn K cdv qual=true) (k:PySem.W.keepIn K (.ref f)=true):Fun K x qual st f (PySem.W.fnOf x qual (ao st) (ak st) (aj st) .none kV doc pm an cdv ct):=⟨⟨oc,od,kV,doc,pm,an,cdv,ct,osl,rfl,l,c⟩,k⟩
section
variable {X:Cx}
theorem pv (i:Nat) {x:Str} {pos:Pos} (hN:X.N[i]?=some x:=by rfl) (hv:Vis X.env.scope x:=by first | exact Or.inl rfl | exact Or.inr (Or.inl rfl) | exact Or.inr (Or.inr rfl)) (hd:(x == ("__debug__":Str))=false:=by decide)
    (hcd:(x == ("__classdict__":Str))=false:=by decide):PE X (.Name x pos) (Ub i):=Pn hN hv hd hcd
end
theorem nM {A B:Prop} (h:B):if false=true then A else B:=by
  rw [if_neg Bool.false_ne_true]
  exact h
theorem nJ {A B:Prop} (h:A):if true=true then A else B:=by
  rw [if_pos rfl]
  exact h
theorem Ox {c A B:Prop} [Decidable c] (h1:c→A) (h2:¬ c→B):if c then A else B:=by
  by_cases h:c
  · rw [if_pos h]
    exact h1 h
  · rw [if_neg h]
    exact h2 h
theorem Qm {c A B:Prop} [Decidable c] (hc:c) (h:B):if (!decide c)=true then A else B:=by
  rw [decide_eq_true hc]
  exact nM h
def Same (H H':Hp):Prop:=∀ b o,H b=some o→H' b=some o
theorem Same.refl (H:Hp):Same H H:=fun _ _ h=>h
theorem Same.free {H H':Hp} (e:Same H H') {l:Addr} (h:H' l=Option.none):H l=Option.none:=by
  cases q:H l with
  | none=>rfl
  | some o =>
    rw [e l o q] at h
    cases h
theorem Same.seq {K:PySem.W.Frag} {H H':Hp} {a:Addr} {xs:List V} (e:Same H H') (h:SqL K H a xs):SqL K H' a xs:=by
  rcases h with (h | ⟨o,h⟩) | h
  · exact .inl (.inl (e _ _ h))
  · exact .inl (.inr ⟨o,e _ _ h⟩)
  · exact .inr h
end L2
namespace L2
open PySem PySem.Spec PyProof.Rows
def clo (cells:List (Str × Addr)):List (Str × NameKind)→List (Str × Addr)→List (Str × Addr)
  | [],cs=>cs
  | (n,k) :: r,cs=>clo cells r (if k == .free then (n,(cells.lookup n).getD 0) :: cs else cs)
theorem Ag {env:Env}:∀ (names:List (Str × NameKind)) (cs:List (Str × Addr)),(∀ y∈names,y.2=.free→∃ c,env.cells.lookup y.1=some c) →
    (forIn names cs fun (x:Str × NameKind) (r:List (Str × Addr))=>(do
      let cs:=r
      match x with
      | (name,kind) =>
        if kind == .free then do
          let c ← cellOf env name
          let cs:=(name,c) :: cs
          pure (ForInStep.yield cs)
        else pure (ForInStep.yield cs):Sem (ForInStep (List (Str × Addr)))))=pure (clo env.cells names cs)
  | [],cs,_=>rfl
  | (n,k) :: r,cs,h=>by
    rw [List.forIn_cons]
    by_cases hk:k=.free
    · subst hk
      obtain ⟨c,hc⟩:=h (n,.free) List.mem_cons_self rfl
      have e:cellOf env n=pure c:=by unfold cellOf;rw [hc]
      simp only [beq_self_eq_true,if_true,e,pure_bind]
      rw [Ag r _ fun y hy=>h y (List.mem_cons_of_mem _ hy)]
      simp [clo,hc]
    · have hb:(k == NameKind.free)=false:=by simpa using hk
      simp only [hb,Bool.false_eq_true,if_false,pure_bind]
      rw [Ag r _ fun y hy=>h y (List.mem_cons_of_mem _ hy)]
      simp [clo,hb]
theorem mj {env:Env} {scope:Scope} (h:∀ y∈scope.names,y.2=.free→∃ c,env.cells.lookup y.1=some c):closureFor scope env=pure (clo env.cells scope.names []):=by
  unfold closureFor
  have e:=Ag (env:=env) scope.names [] h
  first
    | (rw [← e];rfl)
    | (simp only [bind_pure];exact e)
    | exact e
theorem Af {cells:List (Str × Addr)}:∀ (names:List (Str × NameKind)) (cs:List (Str × Addr)) (p:Str × Addr),p∈clo cells names cs→p∈cs∨p.2=(cells.lookup p.1).getD 0
  | [],_,_,h=>.inl h
  | (n,k) :: r,cs,p,h=>by
    rcases Af r _ p h with h' | h'
    · by_cases hk:(k == NameKind.free)=true
      · rw [if_pos hk] at h'
        rcases List.mem_cons.mp h' with e | e
        · subst e;exact .inr rfl
        · exact .inl e
      · rw [if_neg hk] at h';exact .inl h'
    · exact .inr h'
theorem rM {cells:List (Str × Addr)}:∀ (names:List (Str × NameKind)) (cs:List (Str × Addr)) (x:Str),(cs.lookup x).isSome=true→((clo cells names cs).lookup x).isSome=true
  | [],_,_,h=>h
  | (n,k) :: r,cs,x,h=>by
    refine rM r _ x ?_
    by_cases hk:(k == NameKind.free)=true
    · rw [if_pos hk]
      rw [List.lookup_cons]
      cases x == n with
      | true=>rfl
      | false=>exact h
    · rw [if_neg hk];exact h
theorem qm {cells:List (Str × Addr)}:∀ (names:List (Str × NameKind)) (cs:List (Str × Addr)) (x:Str),(x,NameKind.free)∈names→((clo cells names cs).lookup x).isSome=true
  | [],_,_,h=>nomatch h
  | (n,k) :: r,cs,x,h=>by
    show ((clo cells r _).lookup x).isSome=true
    rcases List.mem_cons.mp h with e | e
    · have e1:x=n:=congrArg Prod.fst e
      have e2:NameKind.free=k:=congrArg Prod.snd e
      subst e1
      subst e2
      refine rM r _ x ?_
      rw [if_pos (by decide),List.lookup_cons]
      simp
    · exact qm r _ x e
theorem Og {cells:List (Str × Addr)} {names:List (Str × NameKind)} {x:Str} {c:Addr} (h:(clo cells names []).lookup x=some c):c=(cells.lookup x).getD 0:=by
  rcases Af names [] _ (PySem.mem_of_lookup h) with z | z
  · exact nomatch z
  · exact z
theorem rN {cells:List (Str × Addr)}:∀ {names:List (Str × NameKind)} (cs:List (Str × Addr)) {p:Str × Addr},p∈clo cells names cs→p∈cs∨(p.1,NameKind.free)∈names
  | [],_,_,h=>.inl h
  | (n,k) :: r,cs,p,h=>by
    rcases rN (names:=r) _ h with h' | h'
    · by_cases hk:(k == NameKind.free)=true
      · rw [if_pos hk] at h'
        rcases List.mem_cons.mp h' with e | e
        · subst e
          have:k=.free:=by simpa using hk
          subst this
          exact .inr List.mem_cons_self
        · exact .inl e
      · rw [if_neg hk] at h';exact .inl h'
    · exact .inr (List.mem_cons_of_mem _ h')
def jE (X:Cx) (scope:Scope) (N:List Str) (s:Shared) (H:Hp) (ex:List Addr):Cx :=
  { X with N:=N,s₀:=s,H₀:=H,env:=compEnvC scope (clo X.env.cells scope.names []) s.heap.objs.size X.env,outer:=X.stack,stack:=X.stack,ex:=ex,fn:=fun x=>((clo X.env.cells scope.names []).lookup x).isNone,pn:=[],xe:=fun _ _=>False }
def freeOk (sc scope:Scope):Bool:=scope.names.all fun y=>(y.2 != .free) || (sc.names.lookup y.1 == some .cell) || (sc.names.lookup y.1 == some .free)
def Bj (scope:Scope):Bool:=(scope.kind == .function) && (scope.names.all fun y=>y.2 != .cell) && (scope.names.all fun y=>y.2 != .local || scope.names.lookup y.1 == some .local)
def Cy (scope:Scope) (N N':List Str) (cap:List (Option Nat)):Bool:=(cap.length == N'.length) && (N'.zip cap).all fun p=>match p.2 with
  | none=>true
  | some j=>N[j]? == some p.1 && scope.names.lookup p.1 == some .free
def Ah (cap:List (Option Nat)) (σ:St):St:=cap.map fun o=>o.bind fun j=>(σ[j]?).bind id
theorem jK {f:Str × NameKind→Str × NameKind} (hf:∀ y,(f y).1=y.1) (x:Str):∀ names:List (Str × NameKind),(names.map f).lookup x=(names.lookup x).map fun k=>(f (x,k)).2
  | []=>rfl
  | (n,k) :: r=>by
    have ih:=jK hf x r
    have e1:(f (n,k)).1=n:=hf (n,k)
    have e2:f (n,k)=(n,(f (n,k)).2):=Prod.ext e1 rfl
    rw [List.map_cons,e2,List.lookup_cons,List.lookup_cons]
    cases hx:x == n with
    | true =>
      have:x=n:=by simpa using hx
      subst this
      rfl
    | false=>exact ih
def rlb (env:Env):Str × NameKind→Str × NameKind:=fun (n,k)=>if (k == NameKind.free && env.scope.kind == .function && env.kindOf n == some .cell) then (n,NameKind.cell) else (n,k)
theorem ur (env:Env) (y:Str × NameKind):(rlb env y).1=y.1:=by
  obtain ⟨n,k⟩:=y
  unfold rlb
  dsimp only
  split <;> rfl
theorem uq (env:Env) (n:Str) (k:NameKind):(rlb env (n,k)).2=k∨((rlb env (n,k)).2=.cell∧k=.free):=by
  unfold rlb
  dsimp only
  split
  · rename_i h
    rw [Bool.and_eq_true,Bool.and_eq_true] at h
    exact .inr ⟨rfl,by simpa using h.1.1⟩
  · exact .inl rfl
theorem jR (scope:Scope) (env:Env):(relabel scope env).names=scope.names.map (rlb env):=rfl
theorem oU {scope:Scope} {env:Env} {x:Str} (h:scope.names.lookup x=some .free):(relabel scope env).names.lookup x=some .cell∨(relabel scope env).names.lookup x=some .free:=by
  rw [jR,jK (ur env),h]
  rcases uq env x .free with e | ⟨e,_⟩
  · exact .inr (congrArg some e)
  · exact .inl (congrArg some e)
theorem kh {scope:Scope} {env:Env} {x:Str} {k':NameKind} (hk:k'=.cell∨k'=.free) (hn:∀ y∈scope.names,y.2≠.cell) (h:(relabel scope env).names.lookup x=some k'):(x,NameKind.free)∈scope.names:=by
  rw [jR,jK (ur env)] at h
  cases e:scope.names.lookup x with
  | none=>rw [e] at h;cases h
  | some k =>
    rw [e] at h
    have h':(rlb env (x,k)).2=k':=Option.some.inj h
    have hm:=PySem.mem_of_lookup e
    rcases uq env x k with z | ⟨_,z⟩
    · rw [z] at h'
      subst h'
      rcases hk with z2 | z2
      · exact absurd z2 (hn _ hm)
      · rw [z2] at hm;exact hm
    · rw [z] at hm;exact hm
def PTs (X:Cx) (ifs:List Expr) (t:TT):Prop :=
  ∀ (pins:List (Addr × Obj)) (s:Shared) (σ:St) (H:Hp) (Q:Bool→Hp→Prop),Inv X pins σ H s→t σ H Q →
    wpAny (model X.prog X.w) X.A (forIn ifs true fun c r=>if r=true then do let ok ← isTrue c X.env (eval c X.env);pure (ForInStep.yield ok) else pure (ForInStep.yield r)) (TP X pins σ Q) X.xe s
def Um:TT:=fun _ H Q=>Q true H
theorem Ou {i:Nat} {x:V} {τ:St} {H:Hp} {A B:St→Hp→Prop} (h:A (τ.set i (some x)) H):Cp i x τ H fun τ4 H4=>Um τ4 H4 fun b H5=>if b=true then A τ4 H5 else B τ4 H5:=by
  show if true=true then A (τ.set i (some x)) H else B (τ.set i (some x)) H
  rw [if_pos rfl];exact h
theorem jH {X:Cx}:PTs X [] Um:=fun _ _ _ H _ I h=>wpAny_tests_nil ⟨H,I,h⟩
theorem Ma {X:Cx} {c:Expr} {t:TT} (h:PT X c t):PTs X [c] t:=fun pins s σ H Q I hq=>wpAny_tests_one (h pins s σ H Q I hq)
def qD (J:It) (acc:Addr) (g:TG) (tc:TT) (te:TE) (τ:St) (H1:Hp) (Q:Hp→Prop):Prop :=
  ∃ W:Nat→Nat→St→Hp→Prop,(∃ m,W 0 m τ (upd H1 acc (.lst [])))∧∀ i m τ H2,W i m τ H2→(J.stop i H2∧Q H2)∨(J.go i H2∧∃ N:St→Hp→Prop,(∀ τ' H',N τ' H'→∃ m',m'<m∧W (i + 1) m' τ' H')∧∀ x H3,J.yld i H2 x H3→g x τ H3 fun τ4 H4 =>
    tc τ4 H4 fun b H5=>if b=true then te τ4 H5 fun y H6=>∃ ys,H6 acc=some (.lst ys)∧ys.length<sizeLine∧N τ4 (upd H6 acc (.lst (ys++[y]))) else N τ4 H5)
theorem j7 {lo:Int} {n:Nat} {acc:Addr} {g:TG} {tc:TT} {te:TE} {τ:St} {H1:Hp} {Q:Hp→Prop} (Pv:Nat→St→Hp→Prop) (h0:Pv 0 τ (upd H1 acc (.lst [])))
    (hs:∀ i τ H,i<n→Pv i τ H→g (.int (lo + i)) τ H fun τ4 H4=>tc τ4 H4 fun b H5=>if b=true then te τ4 H5 fun y H6=>∃ ys,H6 acc=some (.lst ys)∧ys.length<sizeLine∧Pv (i + 1) τ4 (upd H6 acc (.lst (ys++[y]))) else Pv (i + 1) τ4 H5)
    (hd:∀ τ H,Pv n τ H→Q H):qD (Itr lo n) acc g tc te τ H1 Q:=by
  refine ⟨fun i m τ H=>m=n - i∧i≤n∧Pv i τ H,⟨n,by simp,Nat.zero_le _,h0⟩,?_⟩
  rintro i m τ H ⟨rfl,hi,p⟩
  by_cases hlt:i<n
  · refine .inr ⟨hlt,Pv (i + 1),fun τ' H' p'=>⟨n - (i + 1),by omega,rfl,hlt,p'⟩,fun x H' y=>?_⟩
    obtain ⟨e,y⟩:=y
    subst e y
    exact hs i τ _ hlt p
  · have e:i=n:=by omega
    subst e
    exact .inl ⟨Nat.le_refl _,hd τ H p⟩
theorem jU {K:PySem.W.Frag} {a:Addr} {xs:List V} {acc:Addr} {g:TG} {tc:TT} {te:TE} {τ:St} {H1:Hp} {Q:Hp→Prop} (Pv:Nat→St→Hp→Prop) (h0:Pv 0 τ (upd H1 acc (.lst []))) (hl:∀ i τ H,i≤xs.length→Pv i τ H→SqL K H a xs)
    (hs:∀ i x τ H,xs[i]?=some x→Pv i τ H→g x τ H fun τ4 H4=>tc τ4 H4 fun b H5=>if b=true then te τ4 H5 fun y H6=>∃ ys,H6 acc=some (.lst ys)∧ys.length<sizeLine∧Pv (i + 1) τ4 (upd H6 acc (.lst (ys++[y]))) else Pv (i + 1) τ4 H5)
    (hd:∀ τ H,Pv xs.length τ H→Q H):qD (Itl K a) acc g tc te τ H1 Q:=by
  refine ⟨fun i m τ H=>m=xs.length - i∧i≤xs.length∧Pv i τ H,⟨xs.length,by simp,Nat.zero_le _,h0⟩,?_⟩
  rintro i m τ H ⟨rfl,hi,p⟩
  have q:=hl i τ H hi p
  by_cases hlt:i<xs.length
  · refine .inr ⟨⟨xs,xs[i],q,by simp [hlt]⟩,Pv (i + 1),fun τ' H' p'=>⟨xs.length - (i + 1),by omega,rfl,hlt,p'⟩,fun x H' y=>?_⟩
    obtain ⟨e,y⟩:=y
    subst e
    exact hs i x τ _ (y xs q) p
  · have e:i=xs.length:=by omega
    subst e
    exact .inl ⟨⟨xs,q,Nat.le_refl _⟩,hd τ H p⟩
def Ly (wi:TI) (cap:List (Option Nat)) (g:TG) (tc:TT) (te:TE):TE:=fun σ H Q=>wi σ H fun J H1=>∀ acc,H1 acc=none→qD J acc g tc te (Ah cap σ) H1 (fun H2=>Q (.ref acc) H2)
abbrev T9 (ifs:List Expr) (env:Env):Sem Bool:=forIn ifs true fun c r=>if r=true then do let ok ← isTrue c env (eval c env);pure (ForInStep.yield ok) else pure (ForInStep.yield r)
abbrev wpQ {α:Type} (prog:Program) (w:World) (A:Around) (m:Sem α) (Q:α→Shared→Prop) (s:Shared):Prop:=wpAny (model prog w) A m Q (fun _ _=>False) s
theorem Ae {prog:Program} {w:World} {A:Around} {R:Result→Shared→Prop} {s:Shared} {elt target iter:Expr} {ifs:List Expr} {scope:Scope} {pos:Pos} {it acc:Value} {env:Env} (I:Nat→Shared→Prop)
    (turn:∀ k s0,I k s0→wpQ prog w A (pyNext it) (fun r s1=>(r=none∧R (.ok .next) s1)∨∃ v,r=some v ∧
      wpQ prog w A (letOwnedTupleGo target it v) (fun _ s2=>wpQ prog w A (assign target env v) (fun _ s3=>wpQ prog w A (T9 ifs env) (fun ok s4 =>
        (ok=false∧∃ m,m<k∧I m s4)∨(ok=true∧wpQ prog w A (eval elt env) (fun x s5=>wpQ prog w A (call (.builtin "list.append") [acc,x]) (fun _ s6=>∃ m,m<k∧I m s6) s5) s4)) s3) s2) s1) s0)
    (k:Nat) (h:I k s):codeAny (model prog w) A (.compLoop (.ListComp elt [⟨target,iter,ifs,0⟩] scope pos) 0 it acc env) R s:=by
  have quiet:∀ (e:Value) (s':Shared),False→notedBy (model prog w) A env (fun e s'=>R (.error e) s') e s':=fun _ _ z=>z.elim
  apply codeAny_loop rfl I _ k h
  intro k s0 start
  apply wpAny_noted
  rw [compTurn_list]
  apply wpAny_bind
  apply wpAny_standAt
  apply wpAny_bind
  apply wpAny_mono (turn k s0 start) _ quiet
  rintro r s1 (⟨rfl,stop⟩ | ⟨v,rfl,rest⟩)
  · exact wpAny_pure stop
  apply wpAny_bind
  apply wpAny_mono rest _ quiet
  intro _ s2 h2
  apply wpAny_bind
  apply wpAny_mono h2 _ quiet
  intro _ s3 h3
  apply wpAny_bind
  apply wpAny_mono h3 _ quiet
  rintro ok s4 (⟨rfl,skip⟩ | ⟨rfl,add⟩)
  · exact wpAny_pure ⟨rfl,skip⟩
  apply wpAny_bind
  apply wpAny_bind
  apply wpAny_mono add _ quiet
  intro x s5 h5
  apply wpAny_bind
  apply wpAny_mono h5 _ quiet
  intro _ s6 h6
  exact wpAny_pure (wpAny_pure ⟨rfl,h6⟩)
section
variable {X:Cx} {tg iter elt:Expr} {ifs:List Expr} {scope:Scope} {pos:Pos} {wi:TI} {N':List Str} {cap:List (Option Nat)} {g:TG} {tc:TT} {te:TE}
theorem mV {use:Option (Value→Sem Unit)} {R:Value→Shared→Prop} (sc:Scope) (hsc:X.env.scope=sc) (N₀:List Str) (hN₀:X.N=N₀) (f1:freeOk sc scope=true) (f2:Bj scope=true) (f3:Cy scope N₀ N' cap=true) (hcalm:X.calm=true)
    (hi:PI X tg iter wi)
    (hg:∀ (s:Shared) (H:Hp) (ex:List Addr),PG (jE X scope N' s H ex) tg g)
    (hc:∀ (s:Shared) (H:Hp) (ex:List Addr),PTs (jE X scope N' s H ex) ifs tc)
    (he:∀ (s:Shared) (H:Hp) (ex:List Addr),PE (jE X scope N' s H ex) elt te)
    (hs:∀ x,foldedSetIterable iter X.env x=pure x)
    {pins:List (Addr × Obj)} {s:Shared} {σ:St} {H:Hp} {Q:V→Hp→Prop} (I:Inv X pins σ H s) (h:Ly wi cap g tc te σ H Q)
    (fin:∀ (acc C:Addr) (s':Shared) (H':Hp) (m:Str→Option Value),Inv X pins σ H' s'→s'.heap.Ns C m→H' C=none→C≠X.env.locals→X.s₀.heap.objs.size≤C→(∀ x c,X.env.cells.lookup x=some c→c≠C)→(∀ p∈X.pn++pins,p.1≠C)→Q (.ref acc) H' →
      compPost (model X.prog X.w) X.A X.xe use R (.ref acc) C (.ok .next) s') :
    wpAny (model X.prog X.w) X.A (comprehension (.ListComp elt [⟨tg,iter,ifs,0⟩] scope pos) scope X.env (firstIterPos [⟨tg,iter,ifs,0⟩] pos) (newList []) false (firstIter [⟨tg,iter,ifs,0⟩] X.env) use) R X.xe s:=by
  have ok:=I.ok
  have fr:∀ y∈scope.names,y.2=.free→X.env.kindOf y.1=some .cell∨X.env.kindOf y.1=some .free:=fun y hy e=>by
    have q:=List.all_eq_true.mp f1 y hy
    rw [e] at q
    have q':((sc.names.lookup y.1 == some NameKind.cell) || (sc.names.lookup y.1 == some NameKind.free))=true:=by simpa using q
    rw [Bool.or_eq_true] at q'
    unfold Env.kindOf
    rw [hsc]
    rcases q' with z | z
    · exact .inl (by simpa using z)
    · exact .inr (by simpa using z)
  obtain ⟨⟨k1,k2⟩,k3⟩:((scope.kind == .function)=true∧(scope.names.all fun y=>y.2 != .cell)=true)∧(scope.names.all fun y=>y.2 != .local || scope.names.lookup y.1 == some .local)=true:=by
    unfold Bj at f2
    rw [Bool.and_eq_true,Bool.and_eq_true] at f2
    exact f2
  have hkind:scope.kind=.function:=by simpa using k1
  have hcell:∀ y∈scope.names,y.2≠.cell:=fun y hy=>by
    have q:=List.all_eq_true.mp k2 y hy
    simpa using q
  have hnames:∀ y∈scope.names,y.2=.local→scope.names.lookup y.1=some .local:=fun y hy e=>by
    have q:=List.all_eq_true.mp k3 y hy
    rw [e] at q
    simpa using q
  have hclos:closureFor scope X.env=pure (clo X.env.cells scope.names []):=mj fun y hy e=>ok.has y.1 (fr y hy e)
  have clX:∀ x c,(clo X.env.cells scope.names []).lookup x=some c→X.env.cells.lookup x=some c:=fun x c e=>by
    have e1:=Og e
    have hx:(x,NameKind.free)∈scope.names:=by
      rcases rN [] (PySem.mem_of_lookup e) with z | z
      · exact nomatch z
      · exact z
    obtain ⟨c',e2⟩:=ok.has x (fr (x,.free) hx rfl)
    rw [e2] at e1 ⊢
    rw [e1];rfl
  refine wpAny_comprehension_free (use:=use) rfl hs hclos hkind hnames ?_
  show wpAny (model X.prog X.w) X.A (eval iter X.env) _ X.xe s
  refine thn (hi pins s σ H _ I h) fun v s1 h1=>thn h1 fun itv s2 h2=>?_
  obtain ⟨it,fp,tn,J,H2,e,I2,T,st2,f2',h3⟩:=h2
  subst e
  refine wpAny_newObj_type ?_
  have fresh2:H2 s2.heap.objs.size=none:=I2.hok.fresh (Nat.le_refl _)
  have I3:Inv X pins σ (upd H2 s2.heap.objs.size (.lst [])) { s2 with heap:=s2.heap.push { cls:=.type "list",data:=.seq ([]:List Value).toArray } } :=
    I2.laid (t':=s2.toks) (fun b o e=>Heap.get?_push_of_some _ e) (Nat.le_refl _) ⟨Nat.zero_le _,[],0,.nil,Heap.get?_push_size _ rfl⟩
  have st3:tn 0 (s2.heap.push { cls:=.type "list",data:=.seq ([]:List Value).toArray }):=T.keep _ _ _ st2 fun b _ o e=>Heap.get?_push_of_some _ e
  have fpne:∀ b∈fp,b≠s2.heap.objs.size:=fun b hb z=>by
    obtain ⟨o,eo,_⟩:=T.obj 0 _ st2 b hb
    exact absurd (Heap.lt_size eo) (by rw [z];exact Nat.lt_irrefl _)
  have fp3:∀ b∈fp,Lk X pins (upd H2 s2.heap.objs.size (.lst [])) b:=fun b hb=>by
    obtain ⟨a0,a1⟩:=f2' b hb
    exact ⟨by rw [aL (fpne b hb)];exact a0,a1⟩
  obtain ⟨W,⟨m0,w0⟩,turn⟩:=h3 s2.heap.objs.size fresh2
  generalize hacc:s2.heap.objs.size=acc at I3 fp3 w0 turn fpne ⊢
  generalize hs3:({ s2 with heap:=s2.heap.push { cls:=.type "list",data:=.seq ([]:List Value).toArray } }:Shared)=s3 at I3 ⊢
  have st3:tn 0 s3.heap:=by rw [← hs3];exact st3
  have accTr:(upd H2 acc (.lst [])) acc=some (.lst []):=aZ
  refine wpAny_newFunctionEnv hcell (by intro y hy;cases hy) (fun h4 hns hsb=>?_) hkind
  have hCf:s3.heap.get? s3.heap.objs.size=none:=Heap.get?_none_of_le (Nat.le_refl _)
  have kp4:∀ b o,s3.heap.get? b=some o→h4.get? b=some o:=fun b o e=>hsb.extBut b o (Nat.ne_of_lt (Heap.lt_size e)) (Heap.get?_push_of_some _ e)
  let Y:Cx:=jE X scope N' s3 (upd H2 acc (.lst [])) fp
  have envY:Y.env=compEnvC scope (clo X.env.cells scope.names []) s3.heap.objs.size X.env:=rfl
  have okY:Y.Ok:=by
    refine ⟨ok.mod,?_,ok.glob,ok.blt,Nat.le_refl _,?_,?_,?_,ok.hd,ok.frames,.inl rfl,?_,?_,?_,?_,?_,?_,?_⟩
    · show (relabel scope X.env).kind=.function
      exact hkind
    · exact fun x y c h1 h2=>ok.inj x y c (clX x c h1) (clX y c h2)
    · intro x hx
      have hx':(relabel scope X.env).names.lookup x=some .cell∨(relabel scope X.env).names.lookup x=some .free:=hx
      have hm:(x,NameKind.free)∈scope.names:=by
        rcases hx' with z | z
        · exact kh (.inl rfl) hcell z
        · exact kh (.inr rfl) hcell z
      exact Option.isSome_iff_exists.mp (qm scope.names [] x hm)
    · intro x c hx h1
      have hx':((clo X.env.cells scope.names []).lookup x).isNone=true:=hx
      have h1':(clo X.env.cells scope.names []).lookup x=some c:=h1
      rw [h1'] at hx';cases hx'
    · intro b hb
      obtain ⟨q0,q1,q2,q3,q4,q5⟩:=fp3 b hb
      refine ⟨?_,fun x c h1=>q4 x c (clX x c h1)⟩
      obtain ⟨o,eo,_⟩:=T.obj 0 _ st3 b hb
      exact Nat.ne_of_lt (Heap.lt_size eo)
    · exact fun b o e=>I3.bs b o e
    · exact Nat.le_trans ok.bsz I3.sz
    · intro b o e hb
      obtain ⟨q0,q1,q2,q3,q4,q5⟩:=fp3 b hb
      rcases q3 with z | z
      · exact ok.noex b o e z
      · exact absurd (Nat.lt_of_lt_of_le (Heap.lt_size e) (Nat.le_trans ok.bsz z)) (Nat.lt_irrefl _)
    · intro b hb hf
      obtain ⟨q0,q1,q2,q3,q4,q5⟩:=fp3 b hb
      rcases List.mem_cons.mp (I3.tX b hf) with z | z
      · exact q1 z
      · exact q2 z
    · exact I3.stack
    · exact I3.pQ
  have capl:cap.length=N'.length∧∀ p∈N'.zip cap,(match p.2 with | none=>true | some j=>N₀[j]? == some p.1 && scope.names.lookup p.1 == some .free)=true:=by
    unfold Cy at f3
    rw [Bool.and_eq_true] at f3
    exact ⟨by simpa using f3.1,fun p hp=>List.all_eq_true.mp f3.2 p hp⟩
  have IY:Inv Y [] (Ah cap σ) (upd H2 acc (.lst [])) { s3 with heap:=h4,toks:=s3.toks + ([]:List (Str × Value)).length }:=by
    refine ⟨okY,rfl,I3.bare,Un.kept kp4,⟨_,hns,?_⟩,?_,?_,?_,fun p hp=>absurd (show p∈([]:List (Addr × Obj)) from hp) (by simp),I3.hok.kept kp4,?_⟩
    · intro i x v e1 e2 e3
      have e1':N'[i]?=some x:=e1
      unfold Ah at e2
      rw [List.getElem?_map] at e2
      cases ec:cap[i]? with
      | none=>rw [ec] at e2;cases e2
      | some o =>
        rw [ec] at e2
        cases o with
        | none=>cases e2
        | some j =>
          have e2':(σ[j]?).bind id=some v:=by simpa using e2
          have hz:(x,some j)∈N'.zip cap:=by
            refine List.mem_of_getElem? (i:=i) ?_
            rw [List.getElem?_zip_eq_some]
            exact ⟨e1',ec⟩
          have q:=capl.2 _ hz
          have q':(N₀[j]? == some x)=true∧(scope.names.lookup x == some NameKind.free)=true:=by simpa [Bool.and_eq_true] using q
          have q1:X.N[j]?=some x:=by rw [hN₀];simpa using q'.1
          have q2:scope.names.lookup x=some .free:=by simpa using q'.2
          have eσ:σ[j]?=some (some v):=by
            cases z:σ[j]? with
            | none=>rw [z] at e2';cases e2'
            | some y =>
              rw [z] at e2'
              have:y=some v:=e2'
              rw [this]
          have hk:=fr (x,.free) (PySem.mem_of_lookup q2) rfl
          obtain ⟨m,hn,hl⟩:=I3.loc
          have vis:Vis X.env.scope x:=by
            rcases hk with z | z
            · exact .inr (.inl z)
            · exact .inr (.inr z)
          obtain ⟨u,r,l⟩:=hl j x v q1 eσ vis
          refine ⟨u,r,.inr ⟨?_,?_⟩⟩
          · rcases oU (scope:=scope) (env:=X.env) q2 with z | z
            · exact .inl z
            · exact .inr z
          · rcases l with ⟨kl,_⟩ | ⟨_,c,ecx,hcx⟩
            · rcases hk with z | z
              · have z':X.env.kindOf x=some .cell:=z
                rw [kl] at z';cases z'
              · have z':X.env.kindOf x=some .free:=z
                rw [kl] at z';cases z'
            · have hh:=qm (cells:=X.env.cells) scope.names [] x (PySem.mem_of_lookup q2)
              obtain ⟨c',ec'⟩:=Option.isSome_iff_exists.mp hh
              have ec2:=clX x c' ec'
              rw [ecx] at ec2
              cases ec2
              exact ⟨c,ec',hcx.keeps kp4⟩
    · intro x c e
      obtain ⟨v,z⟩:=I3.cell x c (clX x c e)
      exact ⟨v,z.keeps kp4⟩
    · exact I3.hok.fresh (Nat.le_refl _)
    · exact fun x c e=>I3.freeC x c (clX x c e)
    · show (Ah cap σ).length=N'.length
      unfold Ah
      rw [List.length_map];exact capl.1
  have fpY:∀ {H':Hp},(∀ b∈fp,H' b=none)→∀ b∈fp,Lk Y [] H' b:=fun {H'} hn b hb=>by
    obtain ⟨q0,q1,q2,q3,q4,q5⟩:=fp3 b hb
    refine ⟨hn b hb,(okY.exf b hb).1,okY.exfs b hb,.inl hb,(okY.exf b hb).2,fun p hp=>absurd (show p∈([]:List (Addr × Obj)) from hp) (by simp)⟩
  have st4:tn 0 h4:=T.keep _ _ _ st3 fun b _ o e=>kp4 b o e
  have back:∀ {τ:St} {H':Hp} {s':Shared},Inv Y [] τ H' s'→Q (.ref acc) H'→compPost (model X.prog X.w) X.A X.xe use R (.ref acc) s3.heap.objs.size (.ok .next) s':=fun {τ H' s'} J q=>by
    have un:Un (frs X.stack) fp (upd H2 acc (.lst [])) H' s3.heap s'.heap:=J.base
    have IX:Inv X pins σ H' s':=I3.call' (J.os) un J.hok J.bare fun b hb=>by
      obtain ⟨q0,q1,q2,q3,q4,q5⟩:=fp3 b hb
      exact ⟨q3,q1,q4,q5⟩
    obtain ⟨m,hn,_⟩:=J.loc
    refine fin acc s3.heap.objs.size s' H' m IX hn J.free (Nat.ne_of_gt I3.lt) I3.sz (fun x c e z=>?_) (fun p hp z=>?_) q
    · obtain ⟨v,q⟩:=I3.cell x c e
      exact absurd q.lt (by rw [z];exact Nat.lt_irrefl _)
    · exact absurd (Heap.lt_size (I3.pin p hp).1) (by rw [z];exact Nat.lt_irrefl _)
  have loop:∀ s5:Shared,s5={ s3 with heap:=h4,toks:=s3.toks + ([]:List (Str × Value)).length } →
      codeAny (model X.prog X.w) X.A (.compLoop (.ListComp elt [⟨tg,iter,ifs,0⟩] scope pos) 0 (.ref it) (.ref acc) Y.env) (compPost (model X.prog X.w) X.A X.xe use R (.ref acc) s3.heap.objs.size) s5:=by
    rintro s5 rfl
    refine Ae (fun n s'=>∃ i τ H',Inv Y [] τ H' s'∧tn i s'.heap∧(∀ b∈fp,H' b=none)∧W i n τ H') ?_ m0 ⟨0,_,_,IY,st4,fun b hb=>(fp3 b hb).1,w0⟩
    rintro n s6 ⟨i,τ,H6,I6,st6,fr6,w6⟩
    rcases turn i n τ H6 w6 with ⟨stop,q⟩ | ⟨go,N,hN,step⟩
    · refine wpAny_mono (T.done Y rfl rfl rfl hcalm i [] s6 τ H6 (fun _ _=>False) I6 (fpY fr6) st6 stop) (fun r s7 ⟨hr,I7⟩=>?_) fun _ _ z=>z.elim
      exact .inl ⟨hr,back I7 q⟩
    · refine wpAny_mono (T.item Y rfl rfl rfl hcalm i [] s6 τ H6 (fun _ _=>False) I6 (fpY fr6) st6 go) (fun r s6b ⟨u,hr,h7⟩=>?_) fun _ _ z=>z.elim
      refine .inr ⟨u,hr,?_⟩
      refine wpAny_mono h7 (fun _ s7 ⟨x,H7,I7,r7,y7,st7,fr7⟩=>?_) fun _ _ z=>z.elim
      have I7':=I7.pinned (fpY fr7) (T.obj _ _ st7)
      have again:∀ {τ8:St} {H8:Hp} {s8:Shared},Inv Y ([]++oW fp s7.heap) τ8 H8 s8→N τ8 H8→∃ m,m<n∧∃ i τ H',Inv Y [] τ H' s8∧tn i s8.heap∧(∀ b∈fp,H' b=none)∧W i m τ H':=fun {τ8 H8 s8} I8 n8=>by
        obtain ⟨m',hm,w8⟩:=hN τ8 H8 n8
        refine ⟨m',hm,i + 1,τ8,H8,I8.lu,T.keep _ _ _ st7 fun b hb o e=>(I8.pin (b,o) (List.mem_append_right _ (List.mem_append_right _ (ju hb e)))).1,fun b hb=>?_,w8⟩
        obtain ⟨o,e,d⟩:=T.obj _ _ st7 b hb
        exact (I8.pin (b,o) (List.mem_append_right _ (List.mem_append_right _ (ju hb e)))).2.1
      refine wpAny_mono (hg s3 (upd H2 acc (.lst [])) fp _ s7 τ H7 x u _ I7' r7 (step x H7 y7)) (fun _ s8 ⟨τ8,H8,I8,q8⟩=>?_) fun _ _ z=>z.elim
      refine wpAny_mono (hc s3 (upd H2 acc (.lst [])) fp _ s8 τ8 H8 _ I8 q8) (fun b s9 ⟨H9,I9,q9⟩=>?_) fun _ _ z=>z.elim
      cases b with
      | false =>
        rw [if_neg Bool.false_ne_true] at q9
        exact .inl ⟨rfl,again I9 q9⟩
      | true =>
        rw [if_pos rfl] at q9
        refine .inr ⟨rfl,?_⟩
        refine wpAny_mono (he s3 (upd H2 acc (.lst [])) fp _ s9 τ8 H9 _ I9 q9) (fun y s10 ⟨yv,H10,I10,r10,ys,hl,hz,q10⟩=>?_) fun _ _ z=>z.elim
        refine wpAny_mono (dg (X:=Y) _ s10 τ8 H10 (.ref acc) [yv] (.ref acc) [y] (fun v H'=>N τ8 H') I10 rfl (.cons r10 .nil) ⟨acc,ys,yv,rfl,rfl,hl,hz,q10⟩) (fun v s11 ⟨vv,H11,I11,r11,q11⟩=>?_) fun _ _ z=>z.elim
        exact again I11 q11
  exact codeAny_compStart_list (loop _ rfl) (T.self _ _ _ _ _ st4 (loop _ rfl))
theorem jZ (sc:Scope) (hsc:X.env.scope=sc) (N₀:List Str) (hN₀:X.N=N₀) (N':List Str) (cap:List (Option Nat)) (f1:freeOk sc scope=true) (f2:Bj scope=true) (f3:Cy scope N₀ N' cap=true) (hcalm:X.calm=true)
    (hi:PI X tg iter wi)
    (hg:∀ (s:Shared) (H:Hp) (ex:List Addr),PG (jE X scope N' s H ex) tg g)
    (hc:∀ (s:Shared) (H:Hp) (ex:List Addr),PTs (jE X scope N' s H ex) ifs tc)
    (he:∀ (s:Shared) (H:Hp) (ex:List Addr),PE (jE X scope N' s H ex) elt te)
    (hs:∀ x,foldedSetIterable iter X.env x=pure x:=by intro _;rfl) :
    PE X (.ListComp elt [⟨tg,iter,ifs,0⟩] scope pos) (Ly wi cap g tc te):=by
  intro pins s σ H Q I h
  rw [eval_ListComp]
  refine mV (use:=none) sc hsc N₀ hN₀ f1 f2 f3 hcalm hi hg hc he hs I h ?_
  intro acc C s' H' m IX hn hC h1 h2 h3 h4 q
  refine ⟨m,hn,fun h'' hs''=>?_⟩
  exact ⟨.ref acc,H',IX.turned (t':=s'.toks) (fun b o hb e=>(hs''.2 b hb).trans e) hC h1 (.inr h2) h3 h4,rfl,q⟩
theorem mH {i:Nat} {x:Str} {pos' spos:Pos} (sc:Scope) (hsc:X.env.scope=sc) (N₀:List Str) (hN₀:X.N=N₀) (N':List Str) (cap:List (Option Nat)) (f1:freeOk sc scope=true) (f2:Bj scope=true) (f3:Cy scope N₀ N' cap=true) (hcalm:X.calm=true)
    (hnd:X.N.Nodup) (hix:X.N[i]?=some x) (hx:X.env.scope.names.lookup x=some .local)
    (hi:PI X tg iter wi)
    (hg:∀ (s:Shared) (H:Hp) (ex:List Addr),PG (jE X scope N' s H ex) tg g)
    (hc:∀ (s:Shared) (H:Hp) (ex:List Addr),PTs (jE X scope N' s H ex) ifs tc)
    (he:∀ (s:Shared) (H:Hp) (ex:List Addr),PE (jE X scope N' s H ex) elt te)
    (hsw:swapsWith (.ListComp elt [⟨tg,iter,ifs,0⟩] scope pos) (some (.Name x pos')) spos.line X.env=pure true)
    (hs:∀ x,foldedSetIterable iter X.env x=pure x:=by intro _;rfl) :
    PS X (.Assign [.Name x pos'] (.ListComp elt [⟨tg,iter,ifs,0⟩] scope pos) spos) (Uv (Ly wi cap g tc te) (Cp i)):=by
  intro pins s σ H D I h
  rw [exec_Assign_Name_used _ _ _ _ hsw]
  refine wpAny_bind (wpAny_standAt (wpAny_bind ?_))
  show wpAny _ X.A (do let _ ← comprehension (.ListComp elt [⟨tg,iter,ifs,0⟩] scope pos) scope X.env _ (newList []) false (firstIter [⟨tg,iter,ifs,0⟩] X.env) (some (assign (.Name x pos') X.env))) _ _ s
  refine wpAny_bind (wpAny_mono (mV (use:=some (assign (.Name x pos') X.env)) (R:=fun _ s'=>SP X pins D .next s') sc hsc N₀ hN₀ f1 f2 f3 hcalm hi hg hc he hs I h ?_) (fun _ s' hq=>wpAny_pure (wpAny_pure hq)) fun _ _ e=>e)
  intro acc C s' H' m IX hn hC h1 h2 h3 h4 q
  show wpAny _ X.A (assign (.Name x pos') X.env (.ref acc)) _ _ _
  refine wpAny_assign_Name (oA (v:=.ref acc) IX hnd hix (.inl hx) rfl (fun s2 I2 hsb=>?_) (.inr hx))
  obtain ⟨a,sb,ha⟩:=hsb
  have hCa:C≠a:=by
    rcases ha with z | z
    · rw [z];exact h1
    · exact fun w=>h3 x a z w.symm
  refine ⟨m,hn.sameBut sb hCa,fun h'' hs''=>?_⟩
  exact ⟨_,H',I2.turned (t':=s2.toks) (fun b o hb e=>(hs''.2 b hb).trans e) hC h1 (.inr h2) h3 h4,q⟩
end
end L2
namespace L2
open PySem PySem.Spec PyProof.Rows
section
variable {X:Cx}
theorem Vals.UG {xs:List V} {us:List Value} {y:V} {u:Value} (r:Vals xs us) (ru:RelV y u) (k:Nat):Vals (xs.take k++y :: xs.drop k) (us.take k++u :: us.drop k):=Vals.append (r.take k) (.cons ru (r.drop k))
theorem Qn (its:List Value) (y:Value) (k:Nat):(its.toArray.extract 0 k).push y++its.toArray.extract k=(its.take k++y :: its.drop k).toArray:=by
  apply Array.toList_inj.mp
  first
    | (simp;done)
    | (simp [List.take_of_length_le];done)
    | (simp
       exact List.take_of_length_le (by simp))
def LQ:V→List V→Hp→VK→Prop:=fun x vs H Q=>∃ (l:Addr) (xs:List V) (y:V) (i:Int),x=.ref l∧vs=[.int i,y]∧H l=some (.lst xs)∧0≤i∧i≤xs.length∧xs.length<sizeLine∧Q .non (upd H l (.lst (xs.take i.toNat++y :: xs.drop i.toNat)))
theorem uV:MtM X "list.insert" LQ:=by
  intro pins s σ H x vs v us Q I rx rv h
  obtain ⟨l,xs,y,i,rfl,rfl,hH,h0,hk,hz,q⟩:=h
  cases rx
  obtain ⟨u,w,rfl,ru,rw'⟩:=rv.two
  obtain ⟨t,rfl⟩:=ru
  obtain ⟨z,its,n,r,hl,e⟩:=I.Qf hH
  have hn:=mQ
  have hf1:¬ (!Builtin.List.listFitsIndex i)=true:=by
    rw [fitsIndex_both (by omega) (by omega)];exact Bool.false_ne_true
  have hf2:its.toArray.size≤sizeLine:=by rw [List.size_toArray];omega
  refine call_meets F.slot_list_insert ⟨_,e,rfl⟩ F.entry_list_insert (F.args_list_insert_3 _ _ _) (AutoSeq1.list_insert_list_int_val_1 l its.toArray n i t w hf1 hf2) ⟨e,?_⟩
  refine ⟨.non,_,I.Vo (its':=its.take i.toNat++w :: its.drop i.toNat) hH e ?_ (r.UG rw' i.toNat) ?_,rfl,q⟩
  · show (its.toArray.extract 0 (if i<0 then (i + (its.toArray.size:Int)).toNat else min i.toNat its.toArray.size)).push w++its.toArray.extract (if i<0 then (i + (its.toArray.size:Int)).toNat else min i.toNat its.toArray.size)=_
    have e1:(if i<0 then (i + (its.toArray.size:Int)).toNat else min i.toNat its.toArray.size)=i.toNat:=by
      rw [if_neg (by omega),List.size_toArray];omega
    rw [e1]
    exact Qn its w i.toNat
  · rw [List.length_append,List.length_cons,List.length_take,List.length_drop];omega
def Vk (K:PySem.W.Frag) (neg:Bool):R2:=fun x y H Q=>∃ (a b:Addr) (ns ms:List Int),x=.ref a∧y=.ref b∧SqL K H a (ns.map V.int)∧SqL K H b (ms.map V.int)∧Q (.bl (if neg then !decide (ns=ms) else decide (ns=ms))) H
theorem jL:mC X (.builtin "isinstance") (fun xs H Q=>∃ x t c b,xs=[x,.ty c]∧rR X.K H x t∧PySem.W.kitOne X.K t (.type c)=some b∧Q (.bl b) H):=by
  intro pins s σ H xs us Q I r h
  obtain ⟨x,t,c,b,rfl,ty,e,q⟩:=h
  obtain ⟨u,w,rfl,ru,rw'⟩:=vals2 r
  obtain rfl:w=Value.type c:=rw'
  exact uZ I ru ty e fun tk=>⟨.bl b,H,I.tok tk,rfl,q⟩
theorem sH:∀ (bs:List Bool),((List.range bs.length).all fun i=>(bs[i]?).getD true)=bs.all id:=by
  intro bs
  rw [Bool.eq_iff_iff]
  simp only [List.all_eq_true,List.mem_range,id_eq]
  constructor
  · intro h b hb
    obtain ⟨i,hi,e⟩:=List.getElem_of_mem hb
    have:=h i hi
    rw [List.getElem?_eq_getElem hi,e] at this
    exact this
  · intro h i hi
    rw [List.getElem?_eq_getElem hi]
    exact h _ (List.getElem_mem hi)
theorem nZ (hc:X.calm=true):mC X (.builtin "all") (fun xs H Q=>∃ (p:Addr) (bs:List Bool),xs=[.ref p]∧SqL X.K H p (bs.map V.bl)∧Q (.bl (bs.all id)) H):=by
  intro pins s σ H xs us Q I r h
  obtain ⟨p,bs,rfl,hq,q⟩:=h
  obtain ⟨u,rfl,ru⟩:=vals1 r
  cases ru
  obtain ⟨its,r1,p1,hz⟩:=I.list hq
  have hl:=p1.isList
  have hlt:p<s.heap.objs.size:=p1.lt
  have hlen:=r1.length
  rw [List.length_map] at hlen
  refine call_all_walk (wpAny_pyIter_list hl ?_)
  refine ⟨s.heap.objs.size,[s.heap.objs.size,p],[s.heap.objs.size],its.toArray.size,_,_,fun i=>(bs[i]?).getD true,rfl,Walks.list (A:=X.A.in1) (I.ok.hd hc) _ p (Nat.ne_of_lt hlt) its.toArray,
    ⟨⟨_,Heap.get?_push_size _ rfl,rfl,rfl⟩,hl.push _⟩,fun i v s' Q' E' hP hQ=>?_,fun h' tk hk=>?_⟩
  · have hP':its[i]?=some v:=by simpa using hP
    have hi:i<bs.length:=by
      have:=(List.getElem?_eq_some_iff.mp hP').1
      omega
    obtain ⟨u,eu,ru⟩:=r1.get (x:=.bl bs[i]) (by rw [List.getElem?_map,List.getElem?_eq_getElem hi];rfl)
    rw [hP'] at eu
    cases eu
    cases ru
    dsimp only at hQ
    rw [List.getElem?_eq_getElem hi] at hQ
    exact wpAny_truthy_bool hQ
  · have e:((List.range its.toArray.size).all fun i=>(bs[i]?).getD true)=bs.all id:=by
      rw [List.size_toArray,← hlen];exact sH bs
    rw [e]
    refine ⟨.bl _,H,I.kept fun b o eo=>hk b o (fun hm=>?_) (Heap.get?_push_of_some _ eo),rfl,q⟩
    rw [List.mem_singleton.mp hm] at eo
    exact Nat.lt_irrefl _ (Heap.lt_size eo)
end
end L2
namespace L2
open PySem PySem.Spec PyProof.Rows
section
variable {X:Cx} {st:Stmt} {rest:List Stmt} {t u:TS}
def Uo (t u:TS):TS:=fun D σ H=>∃ M:St→Hp→Prop,t { D with nx:=M } σ H∧∀ σ' H',M σ' H'→u D σ' H'
theorem ig (h1:PS X st t) (h2:PSs X rest u):PSs X (st :: rest) (Uo t u):=by
  intro pins s σ H D I h
  obtain ⟨M,ha,hb⟩:=h
  refine wpAny_execs_cons (thn (h1 pins s σ H { D with nx:=M } I ha) fun f s1 q=>?_)
  cases f with
  | next =>
    obtain ⟨σ',H',I',q⟩:=q
    exact h2 pins s1 σ' H' D I' (hb σ' H' q)
  | ret v=>exact q
  | brk=>exact q
  | cont=>exact q
end
end L2
namespace L2
open PySem PySem.Spec PyProof.Rows
def Ug (H:Hp) (P:List V→Prop) (Q:VK):Prop:=∀ (l:Addr) (H':Hp) (xs:List V),Same H H'→H l=none→H' l=some (.lst xs)→P xs→Q (.ref l) H'
structure Df (K:PySem.W.Frag) (mg:Str→Option Value) (x:Str) (st:Stmt) (ps:List Str) (a:Addr) (fd:FuncData):Prop where
  F:Fun K x x st a fd
  b:Binds K fd ps []
  m:mg x=some (.ref a)
theorem Same.upd {H H':Hp} {l:Addr} {o:HO} (s:Same H H') (h:H l=none):Same H (L2.upd H' l o):=fun b u e=>by
  rw [aL (aQ e h)];exact s b u e
theorem ints_get {ns:List Int} {i:Nat} {y:V} (h:(ns.map V.int)[i]?=some y):∃ z,ns[i]?=some z∧y=V.int z:=by
  rw [List.getElem?_map] at h
  cases e:ns[i]? with
  | none=>rw [e] at h;cases h
  | some z=>rw [e] at h;exact ⟨z,rfl,(Option.some.inj h).symm⟩
theorem cX {ns:List Int} {i:Nat} {z:Int} (h:ns[i]?=some z):atI (ns.map V.int) (i:Int)=some (V.int z):=gP (by rw [List.getElem?_map,h];rfl)
theorem lB {ns:List Int} {i:Int} {z:Int} (h0:0≤i) (h:ns[i.toNat]?=some z):atI (ns.map V.int) i=some (V.int z):=by
  obtain ⟨k,rfl⟩:=Int.eq_ofNat_of_zero_le h0
  exact cX (by simpa using h)
theorem nH {n j:Nat} (h:j<n):ixN n (j:Int)=some j:=by
  unfold ixN
  rw [if_pos (by omega),if_pos (by omega)];simp
theorem ux {α:Type} (n:Nat) (x:α):(List.replicate n [x]).flatten=List.replicate n x:=by
  induction n with
  | zero=>rfl
  | succ n ih=>rw [List.replicate_succ,List.flatten_cons,ih,List.replicate_succ];rfl
theorem iC {n:Nat} (h:n≤100000):n≤sizeLine:=Nat.le_trans h (by decide)
theorem bH {n:Nat} (h:n≤100000):n<sizeLine:=Nat.lt_of_le_of_lt h (by decide)
structure Blt (mg:Str→Option Value):Prop where
  len:mg "len"=none
  range:mg "range"=none
  list:mg "list"=none
  isinstance:mg "isinstance"=none
  bool:mg "bool"=none
  int:mg "int"=none
  all:mg "all"=none
  min:mg "min"=none
  max:mg "max"=none
  sum:mg "sum"=none
  sorted:mg "sorted"=none
  zip:mg "zip"=none
  tuple:mg "tuple"=none
  str:mg "str"=none
  any:mg "any"=none
  enumerate:mg "enumerate"=none
  reversed:mg "reversed"=none
  abs:mg "abs"=none
  ValueError:mg "ValueError"=none
  set:mg "set"=none
structure Mth (mg:Str→Option Value):Prop where
  MOUTH:∃ t,mg "MOUTH"=some (.int (-1) t)
section
variable {X:Cx} {K:PySem.W.Frag}
theorem Cd (h:X.K=K):IxR X (Vj K):=h ▸ aX
theorem Mz (h:X.K=K):IxR X (Vi K):=h ▸ kI
theorem nY (h:X.K=K):mC X (.builtin "len") (fun xs H Q=>∃ p ys,xs=[.ref p]∧(SqL K H p ys∨SqT K H p ys)∧Q (.int ys.length) H):=h ▸ aF
end
end L2
namespace L2
open PySem PySem.W PyProof.Rows
section
variable {N:Nat} {κ:Nat→Int} {R:Shared→Prop} {cmp:Nat→Nat→(Bool→Shared→Prop)→Shared→Prop}
def Cmp (N:Nat) (κ:Nat→Int) (R:Shared→Prop) (cmp:Nat→Nat→(Bool→Shared→Prop)→Shared→Prop):Prop :=
  ∀ i j C s,i<N→j<N→R s→(∀ s',R s'→C (decide (κ i<κ j)) s')→cmp i j C s
def Inj (N:Nat) (κ:Nat→Int):Prop:=∀ i j,i<N→j<N→i≠j→κ i≠κ j
variable (hc:Cmp N κ R cmp) (hI:Inj N κ)
include hc hI
end
end L2
namespace L2
open PySem PySem.Spec PyProof.Rows
end L2
namespace L2
open PySem PySem.W PySem.Spec PyProof.Rows
end L2
namespace L2
open PySem PySem.W PySem.Spec PyProof.Rows
end L2
namespace L2
open PySem PySem.W PySem.Spec PyProof.Rows
end L2
namespace L2
open PySem PySem.W PySem.Spec PyProof.Rows
end L2
namespace L2
open PySem PySem.W PySem.Spec PyProof.Rows
section
variable {X:Cx} {pins:List (Addr × Obj)} {σ:St} {H:Hp} {s:Shared}
def TabOk (P:Addr) (pos:Pos) (qual:Str) (H:Hp):Prop:=H P=some (.tbl #[])∨∃ c':Addr,H P=some (.tbl #[rawInt pos.line,rawInt pos.col,.ref c'])∧H c'=some (.ext fun h=>h.CodeRec (.ref c') qual)
end
end L2
namespace L2
open PySem PySem.W PySem.Spec PyProof.Rows
end L2
namespace L2
open PySem PySem.W PySem.Spec PyProof.Rows
end L2
namespace L2
open PySem PySem.Spec PyProof.Rows
mutual
inductive Den (K:PySem.W.Frag) (H:Hp):V→PyData→Prop
  | non:Den K H .non .none
  | bl (b:Bool):Den K H (.bl b) (.bool b)
  | int (i:Int):Den K H (.int i) (.int i)
  | str (x:Str):Den K H (.str x) (.str x)
  | list {a:Addr} {xs:List V} {ds:List PyData}:SqL K H a xs→d9 K H xs ds→Den K H (.ref a) (.list ds)
  | tuple {a:Addr} {xs:List V} {ds:List PyData}:SqT K H a xs→d9 K H xs ds→Den K H (.ref a) (.tuple ds)
inductive d9 (K:PySem.W.Frag) (H:Hp):List V→List PyData→Prop
  | nil:d9 K H [] []
  | cons {v:V} {vs:List V} {d:PyData} {ds:List PyData}:Den K H v d→d9 K H vs ds→d9 K H (v :: vs) (d :: ds)
end
theorem d9.length {K:PySem.W.Frag} {H:Hp}:∀ {vs:List V} {ds:List PyData},d9 K H vs ds→vs.length=ds.length
  | _,_,.nil=>rfl
  | _,_,.cons _ hs=>by rw [List.length_cons,List.length_cons,d9.length hs]
theorem d9.append {K:PySem.W.Frag} {H:Hp}:∀ {vs ws:List V} {ds es:List PyData},d9 K H vs ds→d9 K H ws es→d9 K H (vs++ws) (ds++es)
  | _,_,_,_,.nil,h=>h
  | _,_,_,_,.cons h hs,h'=>.cons h (d9.append hs h')
theorem d9.get {K:PySem.W.Frag} {H:Hp}:∀ {vs:List V} {ds:List PyData} {i:Nat} {d:PyData},d9 K H vs ds→ds[i]?=some d→∃ v,vs[i]?=some v∧Den K H v d
  | _,_,_,_,.nil,e=>by simp at e
  | _,_,0,_,.cons h _,e=>by simp at e;subst e;exact ⟨_,rfl,h⟩
  | _,_,i + 1,d,.cons _ hs,e=>by
    obtain ⟨v,h1,h2⟩:=d9.get (i:=i) (d:=d) hs (by simpa using e)
    exact ⟨v,by simpa using h1,h2⟩
theorem d9.get' {K:PySem.W.Frag} {H:Hp}:∀ {vs:List V} {ds:List PyData} {i:Nat} {v:V},d9 K H vs ds→vs[i]?=some v→∃ d,ds[i]?=some d∧Den K H v d
  | _,_,_,_,.nil,e=>by simp at e
  | _,_,0,_,.cons h _,e=>by simp at e;subst e;exact ⟨_,rfl,h⟩
  | _,_,i + 1,v,.cons _ hs,e=>by
    obtain ⟨d,h1,h2⟩:=d9.get' (i:=i) (v:=v) hs (by simpa using e)
    exact ⟨d,by simpa using h1,h2⟩
theorem d9.ints {K:PySem.W.Frag} {H:Hp}:∀ (ns:List Int),d9 K H (ns.map V.int) (ns.map PyData.int)
  | []=>.nil
  | n :: ns=>.cons (.int n) (d9.ints ns)
def Ad (ns:List Int):PyData:=.list (ns.map PyData.int)
theorem Den.ints {K:PySem.W.Frag} {H:Hp} {a:Addr} {ns:List Int} (h:SqL K H a (ns.map V.int)):Den K H (.ref a) (Ad ns):=.list h (d9.ints ns)
theorem d9.int_inv {K:PySem.W.Frag} {H:Hp}:∀ {vs:List V} {ns:List Int},d9 K H vs (ns.map PyData.int)→vs=ns.map V.int
  | _,[],.nil=>rfl
  | _,n :: ns,.cons h hs=>by
    cases h
    rw [d9.int_inv hs];rfl
section
variable {X:Cx} {pins:List (Addr × Obj)} {σ:St} {H:Hp} {s:Shared}
mutual
theorem Den.reads (I:Inv X pins σ H s):∀ {v:V} {d:PyData} {u:Value},Den X.K H v d→RelV v u→∃ as,Reads s.heap u d as
  | _,_,_,.non,r=>by cases r;exact ⟨_,.none⟩
  | _,_,_,.bl b,r=>by cases r;exact ⟨_,.bool b⟩
  | _,_,_,.int i,r=>by obtain ⟨t,rfl⟩:=r;exact ⟨_,.int i t⟩
  | _,_,_,.str x,r=>by obtain ⟨t,rfl⟩:=r;exact ⟨_,.str x t⟩
  | _,_,_,.list h hs,r=>by
    cases r
    obtain ⟨its,r1,⟨o,n,e,c,_,d⟩,_⟩:=I.list h
    obtain ⟨as,q⟩:=d9.reads I hs r1
    exact ⟨_,.list e c d (by simpa using q)⟩
  | _,_,_,.tuple h hs,r=>by
    cases r
    obtain ⟨its,r1,⟨o,e,c,n,d⟩,_⟩:=I.tuple h
    obtain ⟨as,q⟩:=d9.reads I hs r1
    exact ⟨_,.tuple e c d (by simpa using q)⟩
theorem d9.reads (I:Inv X pins σ H s):∀ {vs:List V} {ds:List PyData} {us:List Value},d9 X.K H vs ds→Vals vs us→∃ as,ReadsAll s.heap us ds as
  | _,_,_,.nil,r=>by cases r;exact ⟨_,.nil⟩
  | _,_,_,.cons h hs,r=>by
    cases r with
    | cons r1 r2 =>
      obtain ⟨as,q⟩:=Den.reads I h r1
      obtain ⟨bs,q'⟩:=d9.reads I hs r2
      exact ⟨_,.cons q q'⟩
end
def Vl (K:PySem.W.Frag) (neg:Bool):R2:=fun x y H Q=>∃ d e,Den K H x d∧Den K H y e∧SeqAt.shaped d=true∧SeqAt.shaped e=true∧Q (.bl (if neg then !PyData.eqv d e else PyData.eqv d e)) H
theorem rA (hu:X.A.units + 64<cLine):OpR X (compareOp .Eq) (Vl X.K false):=by
  intro pins s σ H x y v u Q I rx ry h
  obtain ⟨d,e,hd,he,sd,se,q⟩:=h
  obtain ⟨as,ra⟩:=hd.reads I rx
  obtain ⟨bs,rb⟩:=he.reads I ry
  exact SeqAt.compareEq_shaped ra rb sd se hu ⟨.bl _,H,I,rfl,q⟩
theorem rm (hu:X.A.units + 64<cLine):OpR X (compareOp .NotEq) (Vl X.K true):=by
  intro pins s σ H x y v u Q I rx ry h
  obtain ⟨d,e,hd,he,sd,se,q⟩:=h
  obtain ⟨as,ra⟩:=hd.reads I rx
  obtain ⟨bs,rb⟩:=he.reads I ry
  exact SeqAt.compareNe_shaped ra rb sd se hu ⟨.bl _,H,I,rfl,q⟩
end
def Sh (n:Nat) (d:PyData):Prop:=d.canLay0=true∧d.depth≤n
theorem Ai:∀ {ds:List PyData},(∀ d∈ds,d.canLay0=true)→PyData.canLayAll0 ds=true
  | [],_=>rfl
  | d :: ds,h=>by rw [PyData.canLayAll0,h d List.mem_cons_self,Ai fun x hx=>h x (List.mem_cons_of_mem _ hx)];rfl
theorem z9 {n:Nat}:∀ {ds:List PyData},(∀ d∈ds,d.depth≤n)→PyData.depthAll ds≤n
  | [],_=>by simp [PyData.depthAll]
  | d :: ds,h=>by
    have h1:=h d List.mem_cons_self
    have h2:=z9 fun x hx=>h x (List.mem_cons_of_mem _ hx)
    simp only [PyData.depthAll]
    omega
theorem Sh.int (n:Nat) (i:Int):Sh n (.int i):=⟨rfl,by simp [PyData.depth]⟩
theorem Sh.list {n:Nat} {ds:List PyData} (h:∀ d∈ds,Sh n d):Sh (n + 1) (.list ds):=⟨by rw [PyData.canLay0];exact Ai fun d hd=>(h d hd).1,by
  have:=z9 fun d hd=>(h d hd).2
  simp only [PyData.depth];omega⟩
theorem Sh.tuple {n:Nat} {ds:List PyData} (h:∀ d∈ds,Sh n d):Sh (n + 1) (.tuple ds):=⟨by rw [PyData.canLay0];exact Ai fun d hd=>(h d hd).1,by
  have:=z9 fun d hd=>(h d hd).2
  simp only [PyData.depth];omega⟩
theorem Sh.ints (n:Nat) (ns:List Int):Sh (n + 1) (Ad ns):=.list fun d hd=>by
  obtain ⟨i,_,rfl⟩:=List.mem_map.mp hd
  exact .int n i
theorem Sh.ok {n:Nat} {d:PyData} (h:Sh n d) (hn:n≤64):SeqAt.shaped d=true:=by
  unfold SeqAt.shaped
  rw [h.1,decide_eq_true (by have:=h.2;omega)];rfl
theorem jT {n:Nat} {d:PyData} (h:Sh n d):PyData.eqv d d=true:=SeqAt.eqv_refl d h.1
abbrev fJ:=List (Addr × Pos × Str)
def TabsOk (T:fJ) (H:Hp):Prop:=∀ t∈T,TabOk t.1 t.2.1 t.2.2 H
structure aR (T:fJ) (H H':Hp):Prop where
  t0:TabsOk T H
  t1:TabsOk T H'
  keep:∀ b o,H b=some o→(∀ ps,o≠.tbl ps)→H' b=some o
  tb:∀ b ps,H b=some (.tbl ps)→∃ ps',H' b=some (.tbl ps')
theorem TabsOk.nil (H:Hp):TabsOk [] H:=fun t ht=>nomatch ht
theorem TabsOk.mono {T:fJ} {H H':Hp} (t:TabsOk T H) (s:Same H H'):TabsOk T H':=fun q hq=>by
  rcases t q hq with e | ⟨c,e1,e2⟩
  · exact .inl (s _ _ e)
  · exact .inr ⟨c,s _ _ e1,s _ _ e2⟩
theorem aR.refl {T:fJ} {H:Hp} (t:TabsOk T H):aR T H H:=⟨t,t,fun _ _ h _=>h,fun _ ps h=>⟨ps,h⟩⟩
theorem aR.of {T:fJ} {H H':Hp} (t:TabsOk T H) (s:Same H H'):aR T H H':=⟨t,t.mono s,fun b o h _=>s b o h,fun b ps h=>⟨ps,s _ _ h⟩⟩
theorem aR.trans {T:fJ} {H H1 H2:Hp} (a:aR T H H1) (b:aR T H1 H2):aR T H H2:=⟨a.t0,b.t1,fun c o h n=>b.keep c o (a.keep c o h n) n,fun c ps h=>by
  obtain ⟨ps',e⟩:=a.tb c ps h
  exact b.tb c ps' e⟩
theorem aR.free {T:fJ} {H H':Hp} (a:aR T H H') {l:Addr} (h:H' l=none):H l=none:=by
  cases q:H l with
  | none=>rfl
  | some o =>
    have key:(∃ ps,o=.tbl ps)∨∀ ps,o≠.tbl ps:=by
      cases o with
      | tbl ps=>exact .inl ⟨ps,rfl⟩
      | _=>exact .inr fun _ z=>by cases z
    rcases key with ⟨ps,rfl⟩ | n
    · obtain ⟨ps',e⟩:=a.tb l ps q
      rw [h] at e;cases e
    · have:=a.keep l o q n
      rw [h] at this;cases this
theorem aR.seq {T:fJ} {K:PySem.W.Frag} {H H':Hp} {a:Addr} {xs:List V} (e:aR T H H') (h:SqL K H a xs):SqL K H' a xs:=by
  rcases h with (h | ⟨o,h⟩) | h
  · exact .inl (.inl (e.keep _ _ h fun _ z=>by cases z))
  · exact .inl (.inr ⟨o,e.keep _ _ h fun _ z=>by cases z⟩)
  · exact .inr h
theorem aR.Vg {T:fJ} {K:PySem.W.Frag} {H H':Hp} {a:Addr} {xs:List V} (e:aR T H H') (h:SqT K H a xs):SqT K H' a xs:=by
  rcases h with (h | ⟨o,h⟩) | h
  · exact .inl (.inl (e.keep _ _ h fun _ z=>by cases z))
  · exact .inl (.inr ⟨o,e.keep _ _ h fun _ z=>by cases z⟩)
  · exact .inr h
mutual
theorem Den.sJ {T:fJ} {K:PySem.W.Frag} {H H':Hp} (e:aR T H H'):∀ {v:V} {d:PyData},Den K H v d→Den K H' v d
  | _,_,.non=>.non
  | _,_,.bl b=>.bl b
  | _,_,.int i=>.int i
  | _,_,.str x=>.str x
  | _,_,.list h hs=>.list (e.seq h) (d9.sJ e hs)
  | _,_,.tuple h hs=>.tuple (e.Vg h) (d9.sJ e hs)
theorem d9.sJ {T:fJ} {K:PySem.W.Frag} {H H':Hp} (e:aR T H H'):∀ {vs:List V} {ds:List PyData},d9 K H vs ds→d9 K H' vs ds
  | _,_,.nil=>.nil
  | _,_,.cons h hs=>.cons (Den.sJ e h) (d9.sJ e hs)
end
def Om (T:fJ) (H:Hp) (P:List V→Prop) (Q:VK):Prop:=∀ (l:Addr) (H':Hp) (xs:List V),aR T H H'→H l=none→H' l=some (.lst xs)→P xs→Q (.ref l) H'
def iW:HO→Bool
  | .tbl _=>false
  | .ext _=>false
  | _=>true
structure Ow (T:fJ) (H0 H:Hp) (L:List (Addr × HO)):Prop where
  same:aR T H0 H
  new:∀ p∈L,H0 p.1=none
  at_:∀ p∈L,H p.1=some p.2
  pl:∀ p∈L,iW p.2=true
  nd:(L.map (·.1)).Nodup
section
variable {T:fJ} {H0 H1 H H':Hp} {L L':List (Addr × HO)} {a l:Addr} {o o':HO} {xs:List V}
theorem Ow.refl (t:TabsOk T H):Ow T H H []:=⟨aR.refl t,(fun p hp=>nomatch hp),(fun p hp=>nomatch hp),(fun p hp=>nomatch hp),List.nodup_nil⟩
theorem Ow.Ux (H:Hp):Ow [] H H []:=Ow.refl (TabsOk.nil H)
theorem Ow.get (O:Ow T H0 H L) (k:Nat) (h:L[k]?=some (a,o):=by rfl):H a=some o:=O.at_ _ (List.mem_of_getElem? h)
theorem Ow.fr (O:Ow T H0 H L) (k:Nat) (h:L[k]?=some (a,o):=by rfl):H0 a=none:=O.new _ (List.mem_of_getElem? h)
theorem Ow.sq {K:PySem.W.Frag} (O:Ow T H0 H L) (k:Nat) (h:L[k]?=some (a,.lst xs):=by rfl):SqL K H a xs:=SqL.of (O.get k h)
theorem Ow.sqT {K:PySem.W.Frag} (O:Ow T H0 H L) (k:Nat) (h:L[k]?=some (a,.tup xs):=by rfl):SqT K H a xs:=SqT.of (O.get k h)
theorem TabOk.upd {P:Addr} {pos:Pos} {q:Str} (t:TabOk P pos q H) (h:H a=none∨∃ o,H a=some o∧iW o=true):TabOk P pos q (L2.upd H a o'):=by
  have ne:∀ b u,H b=some u→iW u=false→b≠a:=fun b u e p z=>by
    subst z
    rcases h with h | ⟨o,h,ho⟩
    · rw [h] at e;cases e
    · rw [h] at e;cases e;rw [ho] at p;cases p
  rcases t with e | ⟨c,e1,e2⟩
  · exact .inl (by rw [aL (ne _ _ e rfl)];exact e)
  · exact .inr ⟨c,by rw [aL (ne _ _ e1 rfl)];exact e1,by rw [aL (ne _ _ e2 rfl)];exact e2⟩
theorem aR.upd (s:aR T H0 H) (h:H0 a=none) (h':H a=none∨∃ o,H a=some o∧iW o=true):aR T H0 (L2.upd H a o') :=
  ⟨s.t0,fun t ht=>(s.t1 t ht).upd h',fun b u e n=>by rw [aL (aQ e h)];exact s.keep b u e n,fun b ps e=>by rw [aL (aQ e h)];exact s.tb b ps e⟩
theorem Ow.mk' (O:Ow T H0 H L) (h:H a=none) (ho:iW o=true):Ow T H0 (upd H a o) ((a,o) :: L):=by
  have ne:∀ p∈L,p.1≠a:=fun p hp=>aQ (O.at_ p hp) h
  have n0:H0 a=none:=O.same.free h
  refine ⟨O.same.upd n0 (.inl h),fun p hp=>?_,fun p hp=>?_,fun p hp=>?_,?_⟩
  · rcases List.mem_cons.mp hp with e | e
    · rw [e];exact n0
    · exact O.new p e
  · rcases List.mem_cons.mp hp with e | e
    · rw [e];exact aZ
    · rw [aL (ne p e)];exact O.at_ p e
  · rcases List.mem_cons.mp hp with e | e
    · rw [e];exact ho
    · exact O.pl p e
  · rw [List.map_cons,List.nodup_cons]
    refine ⟨fun hm=>?_,O.nd⟩
    obtain ⟨p,hp,e⟩:=List.mem_map.mp hm
    exact ne p hp e
theorem um:∀ {L:List (Addr × HO)} {k:Nat} {a:Addr} {o o':HO},L[k]?=some (a,o)→(L.set k (a,o')).map (·.1)=L.map (·.1)
  | [],_,_,_,_,h=>by simp at h
  | p :: L,0,a,o,o',h=>by
    have:p=(a,o):=by simpa using h
    rw [this];rfl
  | p :: L,k + 1,a,o,o',h=>by
    rw [List.set_cons_succ,List.map_cons,List.map_cons,um (L:=L) (k:=k) (o:=o) (by simpa using h)]
theorem Ow.Uc (O:Ow T H0 H L) (k:Nat) (h:L[k]?=some (a,o)) (ho:iW o'=true):Ow T H0 (upd H a o') (L.set k (a,o')):=by
  have hm0:=List.mem_of_getElem? h
  have n0:H0 a=none:=O.new _ hm0
  have hk:k<L.length:=(List.getElem?_eq_some_iff.mp h).1
  refine ⟨O.same.upd n0 (.inr ⟨o,O.at_ _ hm0,O.pl _ hm0⟩),fun p hp=>?_,fun p hp=>?_,fun p hp=>?_,by rw [um h];exact O.nd⟩
  · rcases List.mem_or_eq_of_mem_set hp with e | e
    · exact O.new p e
    · rw [e];exact n0
  · obtain ⟨j,hj,e⟩:=List.getElem_of_mem hp
    by_cases hjk:j=k
    · subst hjk
      rw [List.getElem_set_self] at e
      rw [← e];exact aZ
    · rw [List.getElem_set_ne (Ne.symm hjk)] at e
      have hj':j<L.length:=by rw [List.length_set] at hj;exact hj
      have hm:p∈L:=by rw [← e];exact List.getElem_mem hj'
      rw [aL]
      · exact O.at_ p hm
      · intro z
        have e1:(L.map (·.1))[j]?=some p.1:=by rw [List.getElem?_map,List.getElem?_eq_getElem hj',e];rfl
        have e2:(L.map (·.1))[k]?=some a:=by rw [List.getElem?_map,h];rfl
        rw [z] at e1
        obtain ⟨a1,a2⟩:=List.getElem?_eq_some_iff.mp e1
        obtain ⟨b1,b2⟩:=List.getElem?_eq_some_iff.mp e2
        exact hjk ((List.getElem_inj O.nd).mp (a2.trans b2.symm))
  · rcases List.mem_or_eq_of_mem_set hp with e | e
    · exact O.pl p e
    · rw [e];exact ho
theorem uz {o:HO} (h:iW o=true):∀ ps,o≠.tbl ps:=fun ps z=>by rw [z] at h;cases h
theorem Ow.fX (O:Ow T H0 H L) (s:aR T H H'):Ow T H0 H' L:=⟨O.same.trans s,O.new,fun p hp=>s.keep _ _ (O.at_ p hp) (uz (O.pl p hp)),O.pl,O.nd⟩
theorem Ow.Qc (O:Ow T H0 H L) (s:aR T H H') (n:H l=none) (h:H' l=some o) (ho:iW o=true):Ow T H0 H' ((l,o) :: L):=by
  have O2:=O.fX s
  refine ⟨O2.same,fun p hp=>?_,fun p hp=>?_,fun p hp=>?_,?_⟩
  · rcases List.mem_cons.mp hp with e | e
    · rw [e];exact O.same.free n
    · exact O.new p e
  · rcases List.mem_cons.mp hp with e | e
    · rw [e];exact h
    · exact O2.at_ p e
  · rcases List.mem_cons.mp hp with e | e
    · rw [e];exact ho
    · exact O.pl p e
  · rw [List.map_cons,List.nodup_cons]
    refine ⟨fun hm=>?_,O.nd⟩
    obtain ⟨p,hp,e⟩:=List.mem_map.mp hm
    exact aQ (O.at_ p hp) n e
theorem Ow.more (O:Ow T H0 H L) (s:Same H H') (n:H l=none) (h:H' l=some o) (ho:iW o=true):Ow T H0 H' ((l,o) :: L):=O.Qc (aR.of O.same.t1 s) n h ho
theorem Ow.sub (O:Ow T H0 H L) (h:L'.Sublist L):Ow T H0 H L':=⟨O.same,fun p hp=>O.new p (h.subset hp),fun p hp=>O.at_ p (h.subset hp),fun p hp=>O.pl p (h.subset hp),O.nd.sublist (h.map _)⟩
theorem Ow.perm (O:Ow T H0 H L) (h:L'.Perm L):Ow T H0 H L':=⟨O.same,fun p hp=>O.new p (h.mem_iff.mp hp),fun p hp=>O.at_ p (h.mem_iff.mp hp),fun p hp=>O.pl p (h.mem_iff.mp hp),(h.map _).nodup_iff.mpr O.nd⟩
theorem Ow.tail {p:Addr × HO} (O:Ow T H0 H (p :: L)):Ow T H0 H L:=O.sub (List.sublist_cons_self _ _)
theorem Ow.two {p q:Addr × HO} (O:Ow T H0 H (p :: q :: L)):Ow T H0 H (p :: L):=O.sub ((List.sublist_cons_self _ _).cons₂ _)
theorem Ow.reb (O:Ow T H0 H L):∃ H1,Ow T H1 H L∧aR T H0 H1∧∀ b o,H b=some o→(∀ p∈L,p.1≠b)→H1 b=some o:=by
  have keep:∀ b u,H b=some u→(∀ p∈L,p.1≠b)→(fun b=>if b∈L.map (·.1) then none else H b:Hp) b=some u:=fun b u e h=>by
    show (if b∈L.map (·.1) then none else H b)=some u
    rw [if_neg fun hm=>?_];· exact e
    obtain ⟨p,hp,z⟩:=List.mem_map.mp hm
    exact h p hp z
  have back:∀ b u,(fun b=>if b∈L.map (·.1) then none else H b:Hp) b=some u→H b=some u:=fun b u e=>by
    dsimp only at e
    split at e
    · cases e
    · exact e
  have npl:∀ b u,H b=some u→iW u=false→∀ p∈L,p.1≠b:=fun b u e h p hp z=>by
    have:=O.at_ p hp
    rw [z,e] at this
    have e':u=p.2:=Option.some.inj this
    rw [e',O.pl p hp] at h;cases h
  have tk:TabsOk T (fun b=>if b∈L.map (·.1) then none else H b):=fun t ht=>by
    rcases O.same.t1 t ht with e | ⟨c,e1,e2⟩
    · exact .inl (keep _ _ e (npl _ _ e rfl))
    · exact .inr ⟨c,keep _ _ e1 (npl _ _ e1 rfl),keep _ _ e2 (npl _ _ e2 rfl)⟩
  refine ⟨fun b=>if b∈L.map (·.1) then none else H b,⟨⟨tk,O.same.t1,fun b u e _=>back b u e,fun b ps e=>⟨ps,back _ _ e⟩⟩,fun p hp=>?_,O.at_,O.pl,O.nd⟩,⟨O.same.t0,tk,fun b u e n=>?_,fun b ps e=>?_⟩,keep⟩
  · exact if_pos (List.mem_map.mpr ⟨p,hp,rfl⟩)
  · refine keep b u (O.same.keep b u e n) fun p hp z=>?_
    rw [← z,O.new p hp] at e;cases e
  · obtain ⟨ps',e'⟩:=O.same.tb b ps e
    exact ⟨ps',keep _ _ e' (npl _ _ e' rfl)⟩
theorem Dn {i:Int} {j:Nat} {v:V} {Q:Hp→Prop} (O:Ow T H0 H L) (k:Nat) (h:L[k]?=some (l,.lst xs)) (hi:ixN xs.length i=some j) (q:∀ H',Ow T H0 H' (L.set k (l,.lst (xs.set j v)))→Q H'):Ph (.ref l) (.int i) v H Q :=
  ⟨l,xs,i,j,rfl,rfl,O.get k h,hi,q _ (O.Uc k h rfl)⟩
theorem Ow.ret {P:List V→Prop} {Q:VK} (O:Ow T H0 H L) (k:Nat) (h:L[k]?=some (l,.lst xs)) (q:Om T H0 P Q) (p:P xs):Q (.ref l) H:=q l H xs O.same (O.fr k h) (O.get k h) p
theorem Ow.got {P:List V→Prop} {Q:VK} (O:Ow T H0 H L) (k:∀ l H' xs,Ow T H0 H' ((l,.lst xs) :: L)→P xs→Q (.ref l) H'):Ug H P Q:=fun l H' xs s n h p=>k l H' xs (O.more s n h rfl) p
theorem Ow.gotT {P:List V→Prop} {Q:VK} (O:Ow T H0 H L) (k:∀ l H' xs,Ow T H0 H' ((l,.lst xs) :: L)→P xs→Q (.ref l) H'):Om T H P Q:=fun l H' xs s n h p=>k l H' xs (O.Qc s n h rfl) p
end
end L2
namespace L2
open PySem PySem.W PySem.Spec PyProof.Rows
theorem szl {n:Nat} (h:Nat.ble n 100000=true:=by rfl):n≤sizeLine:=iC (Nat.le_of_ble_eq_true h)
theorem MF (p:Int) (ns:List Int):inV (.int p) (ns.map V.int)=decide (p∈ns):=by
  unfold inV
  rw [List.any_map,Bool.eq_iff_iff]
  simp only [List.any_eq_true,decide_eq_true_eq]
  constructor
  · rintro ⟨x,hx,e⟩
    have e':(x == p)=true:=e
    have:x=p:=by simpa using e'
    rw [← this];exact hx
  · intro h
    exact ⟨p,h,show (p == p)=true by simp⟩
theorem z8 (ns:List Int):(ns.map V.int).all nT=true:=by
  rw [List.all_map,List.all_eq_true];intro _ _;rfl
section
variable {X:Cx}
theorem lR:∀ ns ms:List Int,PyData.eqvAll (ns.map PyData.int) (ms.map PyData.int)=decide (ns=ms)
  | [],[]=>by simp [PyData.eqvAll]
  | [],_ :: _=>by simp [PyData.eqvAll]
  | _ :: _,[]=>by simp [PyData.eqvAll]
  | n :: ns,m :: ms=>by
    rw [List.map_cons,List.map_cons,PyData.eqvAll,lR ns ms]
    have e:PyData.eqv (.int n) (.int m)=decide (n=m):=by
      rw [PyData.eqv];rfl
    rw [e,Bool.eq_iff_iff]
    simp
theorem rK (ns ms:List Int):PyData.eqv (Ad ns) (Ad ms)=decide (ns=ms):=by
  unfold Ad
  rw [PyData.eqv];exact lR ns ms
theorem Dq (hu:X.A.units + 64<cLine):OpR X (compareOp .Eq) (Vk X.K false):=by
  intro pins s σ H x y v u Q I rx ry h
  obtain ⟨a,b,ns,ms,rfl,rfl,ha,hb,q⟩:=h
  refine rA hu pins s σ H _ _ v u Q I rx ry ⟨_,_,Den.ints ha,Den.ints hb,(Sh.ints 0 ns).ok (by decide),(Sh.ints 0 ms).ok (by decide),?_⟩
  rw [rK];exact q
theorem Pr (hu:X.A.units + 64<cLine):OpR X (compareOp .NotEq) (Vk X.K true):=by
  intro pins s σ H x y v u Q I rx ry h
  obtain ⟨a,b,ns,ms,rfl,rfl,ha,hb,q⟩:=h
  refine rm hu pins s σ H _ _ v u Q I rx ry ⟨_,_,Den.ints ha,Den.ints hb,(Sh.ints 0 ns).ok (by decide),(Sh.ints 0 ms).ok (by decide),?_⟩
  rw [rK];exact q
end
section
variable {T:fJ} {H0 H:Hp} {L:List (Addr × HO)} {l:Addr} {xs:List V}
theorem Ow.mkE {a:Addr} {o:HO} {H':Hp} (O:Ow T H0 H L) (h:H a=none) (e:upd H a o=H') (ho:iW o=true):Ow T H0 H' ((a,o) :: L):=e ▸ O.mk' h ho
theorem Ow.mG {a:Addr} {o o':HO} {H':Hp} (O:Ow T H0 H L) (k:Nat) (h:L[k]?=some (a,o)) (e:upd H a o'=H') (ho:iW o'=true):Ow T H0 H' (L.set k (a,o')):=e ▸ O.Uc k h ho
end
def dMv (m:Int × Int × Int):PyData:=.tuple [.int m.1,.int m.2.1,.int m.2.2]
def dMvs (ms:List (Int × Int × Int)):PyData:=.list (ms.map dMv)
theorem Den.Qa {K:PySem.W.Frag} {H:Hp} {v:V} {m:Int × Int × Int} (h:Den K H v (dMv m)):∃ a,v=.ref a∧SqT K H a [.int m.1,.int m.2.1,.int m.2.2]:=by
  cases h with
  | tuple h hs =>
    have e:=d9.int_inv (ns:=[m.1,m.2.1,m.2.2]) hs
    exact ⟨_,rfl,by rw [e] at h;exact h⟩
theorem Den.mv {K:PySem.W.Frag} {H:Hp} {a:Addr} {m:Int × Int × Int} (h:SqT K H a [.int m.1,.int m.2.1,.int m.2.2]):Den K H (.ref a) (dMv m):=.tuple h (.cons (.int _) (.cons (.int _) (.cons (.int _) .nil)))
theorem Sh.mv (n:Nat) (m:Int × Int × Int):Sh (n + 1) (dMv m):=.tuple fun d hd=>by
  simp at hd
  rcases hd with e | e | e <;> (rw [e];exact .int _ _)
theorem Sh.mvs (n:Nat) (ms:List (Int × Int × Int)):Sh (n + 2) (dMvs ms):=.list fun d hd=>by
  obtain ⟨m,_,rfl⟩:=List.mem_map.mp hd
  exact .mv n m
end L2
namespace L2
open PySem PySem.W PySem.Spec PySem.Calls PyProof.Rows PySem.Builtin PySem.Builtin.ObjectAttr PySem.Builtin.Getset_descriptor
section
variable {prog:Program} {w:World} {A:Around} {E:Value→Shared→Prop} {K:Frag} {e D:Addr} {hh:Heap} {g:Array GenState} {d:Drawn} {t:Nat} {os:OsState}
structure Lh (K:Frag) (D:Addr):Prop where
  ga:findIn K (.ref D) "__getattribute__"=some (some (.builtin "BaseException.__getattribute__"))
  gt:findIn K (.ref D) "__getattr__"=some none
  at_:findIn K (.ref D) "__class__"=some (some (.builtin "object.__class__"))
  sp:specialIn K (.builtin "object.__class__") "__get__"=some (some (.builtin "getset_descriptor.__get__"))
  tk:takesIn K (.builtin "object.__class__")=some true
  mo:mroIn K D (.type "object")=some true
  mb:mroIn K D (.type "BaseException")=some true
  cl:(clsIn K D).isSome=true
theorem Lp {M:Model} (X:K.In hh) (C:Lh K D):Looks M hh (Builtin.ObjectAttr.find (.ref e) (.ref D) "__class__") (.bind (.builtin "getset_descriptor.__get__") (.builtin "object.__class__")):=by
  have L3:Looks M hh (Builtin.ObjectAttr.dataDescriptor? (some (.builtin "object.__class__")) (some (.builtin "getset_descriptor.__get__"))) (some (.builtin "getset_descriptor.__get__",.builtin "object.__class__")):=(looks_takesIn X C.tk).andThen .now
  exact (looks_findIn X C.at_).andThen ((looks_specialIn X C.sp).andThen (L3.andThen (Looks.tag .now)))
theorem OJ {R:Result→Shared→Prop} {tp:Value} (LT:Looks (model prog w) hh (typeOf (.ref e)) (.ref D)) (X:K.In hh) (C:Lh K D) (q:R (.ok (.ret (.ref D))) ⟨hh,g,d,t,os⟩) :
    codeAny (model prog w) A (.call (.builtin "getset_descriptor.__get__") ⟨[.builtin "object.__class__",.ref e,tp],[]⟩) R ⟨hh,g,d,t,os⟩:=by
  have LS:=looks_mroIn (M:=model prog w) X C.mo
  clear C X
  refine codeAny_call_builtin KF.slot_gs.plain KF.entry_gs (KF.slot_gs.check _ _ _ _ _ _ _ _ KF.type_class (KF.args_gs _ _ (tp)) ?_)
  unfold Builtin.«getset_descriptor.__get__» descrGet;rw [dga_obj];refine wpAny_bind (wpAny_pure ?_)
  unfold descrGetter descrCheckInstance descrNameAndClass isInstance;simp only [KF.owner_class];repeat lk
  refine ⟨Code.quiet_builtin _ (by decide +kernel),codeAny_builtin KF.entry_class ?_⟩;unfold Builtin.«object.__class__» shownTypeOf;(repeat lk);exact q
theorem Ax {tk:Tok} {Q:Fin→Shared→Prop} (LT:Looks (model prog w) hh (typeOf (.ref e)) (.ref D)) (X:K.In hh) (C:Lh K D) (h:Q (.done (.ret (.ref D))) ⟨hh,g,d,t,os⟩) :
    wpAny (model prog w) A (Builtin.«object.__getattribute__» ⟨[.ref e,.str "__class__" tk],[]⟩) Q E ⟨hh,g,d,t,os⟩:=by
  unfold Builtin.«object.__getattribute__»
  refine wpAny_bind (m:=slotArgs "__getattribute__" 1 _) (wpAny_pure ?_)
  refine wpAny_bind (m:=Builtin.ObjectAttr.attrName _) (wpAny_pure ?_)
  refine wpAny_bind (LT.at (wpAny_bind ((Lp X C).at ?_)))
  unfold Builtin.ObjectAttr.bindTo
  exact wpAny_bind (wpAny_holding (wpAny_call (OJ LT X C (wpAny_pure h))))
theorem Ay {Q:Option Value→Shared→Prop} (LT:Looks (model prog w) hh (typeOf (.ref e)) (.ref D)) (X:K.In hh) (C:Lh K D) (h:Q (some (.ref D)) ⟨hh,g,d,t + 1,os⟩) :
    wpAny (model prog w) A (getAttr? (.ref e) "__class__") Q E ⟨hh,g,d,t,os⟩:=by
  have L1:=looks_findIn (M:=model prog w) X C.ga
  have L2:=looks_findIn (M:=model prog w) X C.gt
  have LI:Looks (model prog w) hh (isInstance (.ref e) (.type "BaseException")) true:=LT.andThen (looks_mroIn X C.mb)
  have f3:=PySem.F.attr_ValueError.ga.bind (.ref e)
  have hx2:(Value.builtin "BaseException.__getattribute__" == Value.builtin "object.__getattribute__")=false:=by decide +kernel
  unfold getAttr? getAttrBy? getAttrBy
  refine wpAny_bind (wpAny_mkText (wpAny_bind (wpAny_attempt (wpAny_holding (wpAny_bind (LT.at (wpAny_bind (L1.at ?_))))))))
  dsimp only
  rw [if_neg (by rw [hx2];simp)]
  unfold getAttrByItsOwn hookBefore callGetattribute
  refine wpAny_bind ?_
  rw [if_pos (show onTheHeap (Value.ref D)=true from rfl)]
  refine L2.at ?_
  refine wpAny_bind (wpAny_attempt (wpAny_holding ?_))
  rw [if_neg (by simp)]
  unfold boundAndCalled
  rw [f3]
  refine wpAny_bind (wpAny_pure ?_)
  refine wpAny_call (codeAny_call_builtin PySem.F.attr_ValueError.ga.plain PySem.F.entry_bexc_ga ?_)
  have kd:builtinKind "BaseException.__getattribute__"=some .slot:=by decide +kernel
  have spl:splitId "BaseException.__getattribute__"=some ("BaseException","__getattribute__"):=by decide +kernel
  have ha:=PySem.F.args_bexc_ga (.ref e) (.str "__class__" t)
  simp only [checkBuiltinCall,kd,spl]
  refine wpAny_bind (LI.at ?_)
  rw [if_neg (by simp)]
  refine wpAny_of_eq (a:=()) ha ?_
  refine Ax (t:=t + 1) LT X C ?_
  show wpAny (model prog w) A (handedOut (.ref D)) _ _ _
  exact wpAny_pure (wpAny_pure h)
def XAt (e D:Addr) (h:Heap):Prop:=∃ o,h.get? e=some o∧o.cls=.ref D
theorem tU {M:Model} {h:Heap} (x:XAt e D h):Looks M h (typeOf (.ref e)) (.ref D):=by
  obtain ⟨o,h1,h2⟩:=x
  rw [← h2]
  exact (Looks.ld h1).andThen .now
theorem Ca (C:Lh K D):KitX K (.ref e) (.ref D) (XAt e D) where
  ty:=fun _ _ _ p=>tU p
  it:=fun M h X _=>by
    have c:=C.cl
    unfold clsIn at c
    split at c
    · rename_i ho
      intro _ _ _ _ k q
      unfold isType loadHead
      exact wpAny_bind (wpAny_loadPart (k _ _ (X _ _ ho)) (wpAny_pure q))
    · cases c
  ne:=fun h tp dd its n sl X htp=>by
    have c:=C.cl
    refine Bool.eq_false_iff.mpr fun q=>?_
    cases Value.ref.inj (beq_iff_eq.mp q)
    unfold clsIn at c
    split at c
    · rename_i ho
      cases (X _ _ ho).symm.trans htp
    · cases c
  ca:=fun {_ _ _ _ _ s} X p k=>by
    obtain ⟨h0,g0,d0,t0,o0⟩:=s
    exact Ay (tU p) X C k
end
end L2
namespace L2
open PySem PySem.W PySem.Spec PySem.Calls PyProof.Rows
theorem iy.obj {P:Program} {w:World} {H:Hp} {h:Heap} {a:Addr} {o:HO} (x:iy P w H h a o):∃ ob,h.get? a=some ob:=by
  cases o with
  | lst xs=>obtain ⟨_,_,_,_,e⟩:=x;exact ⟨_,e⟩
  | tup xs=>obtain ⟨_,_,_,o,e,_⟩:=x;exact ⟨_,e⟩
  | dK kvs=>obtain ⟨_,_,_,_,o,_,_,e,_⟩:=x;exact ⟨_,e⟩
  | dT kvs=>obtain ⟨_,_,_,_,o,_,_,e,_⟩:=x;exact ⟨_,e⟩
  | set S n=>obtain ⟨o,_,_,_,e,_⟩:=x;exact ⟨_,e⟩
  | ins C dx fs=>obtain ⟨_,_,_,e,_⟩:=x;exact ⟨_,e⟩
  | own y=>exact x
  | xd fs=>obtain ⟨_,⟨_,_,_,e,_⟩,_⟩:=x;exact ⟨_,e⟩
  | rng lo hi=>obtain ⟨_,_,_,e⟩:=x;exact ⟨_,e⟩
  | frz ob u=>obtain ⟨e,_⟩:=x;exact ⟨_,e⟩
  | tbl ps=>exact ⟨_,x⟩
  | met f y=>exact ⟨_,x⟩
  | ext φ=>obtain ⟨_,e,_⟩:=x;exact e
structure Fly (P:Program) (w:World) (B:Heap) (fs:List Addr) (H:Hp) (h0:Heap) (H':Hp) (h:Heap):Prop where
  un:Un fs [] H H' h0 h
  hok:HOk P w H' h
  old:∀ b o,h0.get? b=some o→b ∉ fs→∃ o',B.get? b=some o'∧(H b=none→o'=o)
  trk:∀ b u,H' b=some u→∃ o,h.get? b=some o∧B.get? b=some o
section
variable {P:Program} {w:World} {B h0 h h2:Heap} {fs:List Addr} {H H':Hp}
theorem Fly.on (x:Fly P w B fs H h0 H' h) (sb:B.StaysIn h2) (sm:∀ b∈fs,∀ o,h.get? b=some o→∃ sl,h2.get? b=some { o with slots:=sl }):Fly P w B fs H h0 H' h2:=by
  have kp:∀ b o,h0.get? b=some o→H b=none→b ∉ fs→h2.get? b=some o:=fun b o q n hb=>by
    obtain ⟨o',e,k⟩:=x.old b o q hb
    rw [← k n];exact sb b o' e
  have sl:∀ b o,h0.get? b=some o→H b=none→b∈fs→∃ s,h2.get? b=some { o with slots:=s }:=fun b o q n hb=>by
    obtain ⟨s1,e1⟩:=x.un.slot b o q n hb (by simp)
    obtain ⟨s2,e2⟩:=sm b hb _ e1
    exact ⟨s2,e2⟩
  refine ⟨⟨fun b o q n hb _=>kp b o q n hb,fun b o q n hb _=>sl b o q n hb,x.un.free,fun b o q _=>?_,x.un.tups,x.un.frzs,x.un.tbls⟩,fun a u e=>?_,x.old,fun b u e=>?_⟩
  · by_cases hb:b∈fs
    · obtain ⟨o1,e1⟩:=x.un.there b o q (by simp)
      obtain ⟨s2,e2⟩:=sm b hb _ e1
      exact ⟨_,e2⟩
    · obtain ⟨o',e,_⟩:=x.old b o q hb
      exact ⟨o',sb b o' e⟩
  · refine (x.hok a u e).stay (fun b v hb q=>?_) (fun _ q=>q) fun _ _ q=>q
    have tr:∃ u',H' b=some u':=by
      rcases hb with z | z
      · exact ⟨u,by rw [z];exact e⟩
      · exact ⟨_,z⟩
    obtain ⟨u',e'⟩:=tr
    obtain ⟨o,e1,e2⟩:=x.trk b u' e'
    rw [q] at e1;cases e1
    exact sb b v e2
  · obtain ⟨o,e1,e2⟩:=x.trk b u e
    exact ⟨o,sb b o e2,e2⟩
end
def CXE (P:Program) (w:World):CXT:=fun outer H s E e s'=>∃ (ea t C:Addr) (B:Heap) (H':Hp),e=.ref ea∧s'.os=s.os∧AllBare s'.gens∧Fly P w B (frs outer) H s.heap H' s'.heap∧Heap.FlyingW B outer ea (.ref C) (.ref t) s'.heap ∧
  s.heap.get? ea=none∧H' ea=none∧E (.ref C) (some ea) H'
theorem nQ {env:Env} {l:List Env} {L:Addr} (hf:env.frame=some L):frs (env :: l)=L :: frs l:=by unfold frs;rw [List.filterMap_cons,hf]
theorem Qo {l:List Env}:∀ env∈l,∀ b,env.frame=some b→b∈frs l:=fun env he b hb=>List.mem_filterMap.mpr ⟨env,he,hb⟩
theorem je {B h:Heap} {l:List Env} {h2:Heap} (f:h.FunFrames B l) (sm:h.UpToSlots h2):∀ b∈frs l,∀ o,h.get? b=some o→∃ sl,h2.get? b=some { o with slots:=sl }:=fun b hb o e=>by
  obtain ⟨_,o',e',d⟩:=f.mem hb
  rw [e] at e';cases e'
  exact sm b o e d
section
variable {X:Cx} {pins:List (Addr × Obj)} {σ:St} {H:Hp} {s:Shared} {E:XK}
structure Body (X:Cx):Prop where
  st:X.stack=X.env :: X.outer
  fr:X.env.frame=some X.env.locals
  ex:X.ex=[]
theorem Inv.qj (I:Inv X pins σ H s) (hB:Body X) {b:Addr} {o:Obj} (e:X.s₀.heap.get? b=some o) (hb:b ∉ frs X.outer):b ∉ frs X.stack:=by
  rw [hB.st,nQ hB.fr]
  intro hm
  rcases List.mem_cons.mp hm with z | z
  · exact absurd (Heap.lt_size e) (by rw [z];exact Nat.not_lt.mpr I.ok.above)
  · exact hb z
theorem oV {e C:Addr} {args:List Value} {h':Heap} {F:Value→Shared→Prop} (hB:Body X) (I:Inv X pins σ H s) (hm:Heap.MadeExcOf s.heap h' e (.ref C) args) (hE:H e=none→E (.ref C) (some e) H) :
    wpAny (model X.prog X.w) X.A (leaving X.env (.ref e)) (fun _ s''=>CXE X.prog X.w X.outer X.H₀ X.s₀ E (.ref e) s'') F { s with heap:=h' }:=by
  have hfr:X.A.frames=some (X.env :: X.outer):=by rw [← hB.st];exact I.ok.frames
  have stk:=I.stack
  have hl:s.heap.FunFrames (hideAll s.heap (frs X.stack)) (X.env :: X.outer):=by
    have:=funFrames_hide stk Qo
    rw [hB.st] at this ⊢;exact this
  have hne:∀ b o,s.heap.get? b=some o→b ∉ frs X.stack→(hideAll s.heap (frs X.stack)).get? b=some o:=fun b o q n=>hideAll_get _ q n
  have htr:∀ b u,H b=some u→∃ o,s.heap.get? b=some o∧(hideAll s.heap (frs X.stack)).get? b=some o:=fun b u q=>by
    obtain ⟨o,eo⟩:=(I.hok b u q).obj
    exact ⟨o,eo,hne b o eo fun z=>by rw [I.pQ b z] at q;cases q⟩
  have hnx:∀ b:Addr,b ∉ X.ex:=fun b=>by rw [hB.ex];simp
  refine wpAny_leaves_madeW (base:=hideAll s.heap (frs X.stack)) (h:=s.heap) hfr hB.fr (fun b o q=>of_hideAll _ q) hl hm fun h2 t fl _ _ sm=>?_
  have F0:Fly X.prog X.w (hideAll s.heap (frs X.stack)) (frs X.outer) X.H₀ X.s₀.heap H s.heap:=by
    refine ⟨?_,I.hok,fun b o q n=>?_,htr⟩
    · have u:=I.base
      rw [hB.ex] at u
      exact u
    · obtain ⟨o',e'⟩:=I.base.there b o q (hnx b)
      refine ⟨o',hne b o' e' (I.qj hB q n),fun z=>?_⟩
      have:=I.base.keep b o q z n (hnx b)
      rw [e'] at this;exact Option.some.inj this
  have F1:=F0.on (h2:=h2) fl.1 fun b hb o q=>by
    have hb':b∈frs X.stack:=by rw [hB.st,nQ hB.fr];exact List.mem_cons_of_mem _ hb
    obtain ⟨_,o',e',d⟩:=stk.mem hb'
    rw [q] at e';cases e'
    exact sm b o (hm.keeps b o q) d
  have he0:H e=none:=by
    cases q:H e with
    | none=>rfl
    | some u =>
      obtain ⟨o,eo⟩:=(I.hok e u q).obj
      rw [hm.new] at eo;cases eo
  refine ⟨e,t,C,_,H,rfl,I.os,I.bare,F1,fl,?_,he0,hE he0⟩
  · cases q:X.s₀.heap.get? e with
    | none=>rfl
    | some o =>
      obtain ⟨o',e'⟩:=I.base.there e o q (hnx e)
      rw [hm.new] at e';cases e'
theorem qp {e:Value} {s':Shared} {F:Value→Shared→Prop} (hB:Body X) (I:Inv X pins σ H s) (h:CXE X.prog X.w X.stack H s E e s') :
    wpAny (model X.prog X.w) X.A (leaving X.env e) (fun _ s''=>CXE X.prog X.w X.outer X.H₀ X.s₀ E e s'') F s':=by
  obtain ⟨ea,t,C,B,H',rfl,os,bare,fl,fy,new,nh,hE⟩:=h
  have hfr:X.A.frames=some (X.env :: X.outer):=by rw [← hB.st];exact I.ok.frames
  have hnx:∀ b:Addr,b ∉ X.ex:=fun b=>by rw [hB.ex];simp
  rw [hB.st] at fy
  refine wpAny_leaves_onW hfr hB.fr fy fun h2 fy2 sm=>?_
  have sub:∀ b,b∈frs X.outer→b∈frs X.stack:=fun b hb=>by rw [hB.st,nQ hB.fr];exact List.mem_cons_of_mem _ hb
  have F0:Fly X.prog X.w B (frs X.outer) X.H₀ X.s₀.heap H' s'.heap:=by
    refine ⟨⟨fun b o q n hb _=>?_,fun b o q n hb _=>?_,fun b o q n _=>?_,fun b o q _=>?_,fun b xs q=>fl.un.tups b xs (I.base.tups b xs q),fun b o u q=>fl.un.frzs b o u (I.base.frzs b o u q),fun b ps q=>?_⟩,fl.hok,fun b o q n=>?_,fl.trk⟩
    · have e1:=I.base.keep b o q n hb (hnx b)
      exact fl.un.keep b o e1 (I.base.free b o q n (hnx b)) (I.qj hB q hb) (by simp)
    · obtain ⟨s1,e1⟩:=I.base.slot b o q n hb (hnx b)
      obtain ⟨s2,e2⟩:=fl.un.slot b _ e1 (I.base.free b o q n (hnx b)) (sub b hb) (by simp)
      exact ⟨s2,e2⟩
    · obtain ⟨o',e'⟩:=I.base.there b o q (hnx b)
      exact fl.un.free b o' e' (I.base.free b o q n (hnx b)) (by simp)
    · obtain ⟨o',e'⟩:=I.base.there b o q (hnx b)
      exact fl.un.there b o' e' (by simp)
    · obtain ⟨m1,e1⟩:=I.base.tbls b ps q
      obtain ⟨m2,e2⟩:=fl.un.tbls b _ e1
      exact ⟨m1++m2,by rw [e2,Array.append_assoc]⟩
    · obtain ⟨o',e'⟩:=I.base.there b o q (hnx b)
      obtain ⟨o2,e2,k⟩:=fl.old b o' e' (I.qj hB q n)
      refine ⟨o2,e2,fun z=>?_⟩
      rw [k (I.base.free b o q z (hnx b))]
      have:=I.base.keep b o q z n (hnx b)
      rw [e'] at this;exact Option.some.inj this
  have F1:=F0.on (h2:=h2) fy2.1 fun b hb o q=>by
    obtain ⟨_,o',e',d⟩:=fy.2.2.1.mem (by rw [hB.st] at sub;exact sub b hb)
    rw [q] at e';cases e'
    exact sm b o q d
  refine ⟨ea,t,C,B,H',rfl,os.trans I.os,bare,F1,fy2,?_,nh,hE⟩
  cases q:X.s₀.heap.get? ea with
  | none=>rfl
  | some o =>
    obtain ⟨o',e'⟩:=I.base.there ea o q (hnx ea)
    rw [new] at e';cases e'
end
section
variable {P:Program} {w:World} {K:PySem.W.Frag} {mg:Str→Option Value} {base:Heap} {N:List Str} {qual:Str} {scope:Scope} {f:Addr} {cd:Value} {A:Around} {outer:List Env} {s:Shared} {H:Hp} {E:XK}
theorem iJ {CX:CXT}:Body (Ar CX P w K mg base N qual scope f cd A outer s H E):=⟨rfl,rfl,rfl⟩
theorem p7:Passes (CXE P w) (Ar (CXE P w) P w K mg base N qual scope f cd A outer s H E) E:=fun _ _ _ _ _ _ I h=>qp iJ I h
theorem Fun.okX {x:Str} {st:Stmt} {fd:FuncData} {ps:List Str} {k:Nat} {sp:Sp} (F:Fun K x qual st f fd) (S:aN N ps (aj st)) (len:∀ vs H Q E,sp vs H Q E→vs.length=ps.length)
    (hbody:∀ (cdv:Value) (A:Around) (outer:List Env) (s:Shared) (H:Hp) (vs:List V) (Q:VK) (E:XK),jV k (A.deeper (envOfC qual (aj st) s.heap.objs.size f cdv))→sp vs H Q E →
      ∃ t,PSs (Ar (CXE P w) P w K mg base N qual (aj st) f cdv A outer s H E) (ak st) t∧t { nx:=fun _ H'=>Q .non H',rt:=Q } (start N vs) H):bM P w K mg base (CXE P w) (k + 1) f fd ps sp:=by
  obtain ⟨oc,od,kV,doc,pm,an,cdv,ct,osl,rfl,lk,hcd⟩:=F.ex
  exact Ob lk hcd S len fun A outer s H vs Q E hr hsp=>hbody cdv A outer s H vs Q E hr hsp
end
end L2
namespace L2
open PySem PySem.W PySem.Spec PySem.Calls PyProof.Rows
abbrev sZ:List Value:=[.type "ValueError",.type "Exception",.type "BaseException",.type "object"]
theorem Oc {K:Frag} {h:Heap} {C:Addr} (X:K.In h) (q:excIn K C sZ "ValueError.__new__"=true) :
    ∃ bm N nm qn bs hdct sn sub ab col dd k0 k1 k2 k3 k5 mN,h.get? C=some (excClassObj nm qn C N bs bm hdct sn sub ab col dd k0 k1 k2 k3 k5 "ValueError.__new__")∧h.Ns N mN∧mN "__init__"=none∧OwnTail h sZ bm:=by
  unfold excIn at q
  split at q
  · rename_i d1 c1 s1 look
    split at q
    · rename_i C1 bm1 a0 a1 a2 a3 n1 a5 m1 l1
      simp only [Bool.and_eq_true,beq_iff_eq,Bool.not_eq_true'] at q
      obtain ⟨⟨⟨⟨⟨e1,e2⟩,e3⟩,e4⟩,e5⟩,e6⟩:=q
      subst e1 e2
      obtain ⟨nm,bs,mro,ns,qn,hd,sn,sub,ab,col,del⟩:=c1
      dsimp only at m1 e3 e5 e6
      subst m1 e3
      have es:s1=#[a0,a1,a2,a3,some (.builtin "ValueError.__new__"),a5]:=by cases s1;simp only at l1;rw [l1]
      subst es
      exact ⟨bm1,ns,nm,qn,bs,hd,sn,sub,ab,col,d1,a0,a1,a2,a3,a5,_,X _ _ look,Heap.Ns.of_isNs (isNs_of_in X e5),nsMap_none_of_in X e5 e6,tail_of_in X e4⟩
    · cases q
  · cases q
def O8 (E:XK) (C:Addr) (ta:TA):TS:=fun _ σ H=>ta σ H fun vs H1=>vs.length≤sizeLine∧∀ e,H1 e=none→E (.ref C) (some e) H1
section
variable {X:Cx} {E:XK} {x:Str} {C:Addr} {np cpos pos:Pos} {e0:Expr} {ta:TA}
theorem gR (hB:Body X) (hc:X.calm=true) (hx:∀ e s',wpAny (model X.prog X.w) X.A (leaving X.env e) (fun _ s''=>CXE X.prog X.w X.outer X.H₀ X.s₀ E e s'') (fun e s''=>CXE X.prog X.w X.outer X.H₀ X.s₀ E e s'') s'→X.xe e s')
    (hg:Gl X x) (hm:X.mg x=some (.ref C)) (hq:excIn X.K C sZ "ValueError.__new__"=true) (ha:PA X [e0] ta) (he:starEach [e0] X.env=[(false,eval e0 X.env)]:=by rfl) (hd:(x == ("__debug__":Str))=false:=by decide) :
    PS X (.Raise (some (.Call (.Name x np) [e0] [] cpos)) none pos) (O8 E C ta):=by
  intro pins s σ H D I h
  obtain ⟨bm,Nn,nm,qn,bs,hdct,sn,sub,ab,col,dd,k0,k1,k2,k3,k5,mN,hC,hN,hni,TL⟩:=Oc I.ok.mod.kin hq
  refine wpAny_Raise_call_subU (C:=C) (nm:=nm) (q:=qn) (N:=Nn) (bs:=bs) (bm:=bm) (hdct:=hdct) (sn:=sn) (sub:=sub) (ab:=ab) (col:=col) (dd:=dd) (k0:=k0) (k1:=k1) (k2:=k2) (k3:=k3) (k5:=k5) (mN:=mN) (newId:="ValueError.__new__")
    PySem.F.excBase_ValueError PySem.F.excBase_ValueError.hasB PySem.F.excBase_ValueError (TL.hasType PySem.F.excBase_ValueError.hasBase) (I.ok.hd hc) (by rw [he];rfl) hni ?_
  refine j5 I hg hm ⟨rfl,?_⟩ hd
  have a:=ha cpos pins s σ H _ I h
  rw [he] at a ⊢
  refine Calls.evalArgs_plain (wpAny_mono a (fun us s1 ⟨vs,H1,I1,r1,hz,q1⟩=>?_) fun _ _ z=>z)
  exact ⟨rfl,by show us.length≤_;rw [← r1.length];exact hz,I1.bk _ _ hC,hN.keeps I1.bk,TL.keeps I1.bk,fun h' e mk=>hx _ _ (oV hB I1 mk (q1 e))⟩
end
end L2
namespace L2
open PySem PySem.W PySem.Spec PySem.Calls PyProof.Rows
def XS (X:Cx) (pins:List (Addr × Obj)) (Ex:St→XK) (ev:Value) (s':Shared):Prop:=∃ σ H s,Inv X pins σ H s∧CXE X.prog X.w X.stack H s (Ex σ) ev s'
def PEx (X:Cx) (e:Expr) (t:St→Hp→VK→XK→Prop):Prop :=
  ∀ (pins:List (Addr × Obj)) (s:Shared) (σ:St) (H:Hp) (Q:VK) (Ex:St→XK),Inv X pins σ H s→t σ H Q (Ex σ)→wpAny (model X.prog X.w) X.A (eval e X.env) (EP X pins σ Q) (XS X pins Ex) s
abbrev TX:=Ends→(St→XK)→St→Hp→Prop
def PSx (X:Cx) (st:Stmt) (t:TX):Prop :=
  ∀ (pins:List (Addr × Obj)) (s:Shared) (σ:St) (H:Hp) (D:Ends) (Ex:St→XK),Inv X pins σ H s→t D Ex σ H→wpAny (model X.prog X.w) X.A (exec st X.env) (SP X pins D) (XS X pins Ex) s
def Uh (X:Cx) (sts:List Stmt) (t:TX):Prop :=
  ∀ (pins:List (Addr × Obj)) (s:Shared) (σ:St) (H:Hp) (D:Ends) (Ex:St→XK),Inv X pins σ H s→t D Ex σ H→wpAny (model X.prog X.w) X.A (execs sts X.env) (SP X pins D) (XS X pins Ex) s
section
variable {X:Cx} {k:Nat} {f:Addr} {fd:FuncData} {ps:List Str} {sp:Sp} {dvs:List V} {ds:List Value} {x:Str} {p pos:Pos} {e:Expr} {es:List Expr} {t:TA}
theorem CT {i:Nat} {te:St→Hp→VK→XK→Prop} {pos pos':Pos} (hN:X.N.Nodup) (hi:X.N[i]?=some x) (hx:Loc X.env.scope x) (he:PEx X e te) (hs:swapsWith e (some (.Name x pos')) pos.line X.env=pure false:=by rfl) (hf:X.fn x=true∨X.env.scope.names.lookup x=some .local:=by first | exact .inl rfl | exact .inr rfl | assumption) :
    PSx X (.Assign [.Name x pos'] e pos) (fun D Ex σ H=>te σ H (fun v H1=>D.nx (σ.set i (some v)) H1) (Ex σ)):=by
  intro pins s σ H D Ex I h
  refine wpAny_Assign_Name (wpAny_mono (he pins s σ H _ Ex I h) (fun v s1 ⟨y,H1,I1,r1,q1⟩=>?_) fun _ _ z=>z) hs
  exact lA I1 hN hi hx r1 (fun s2 I2=>⟨_,H1,I2,q1⟩) hf
theorem pP {st:Stmt} {tx:TX} (h:PSx X st tx):Uh X [st] tx:=by
  intro pins s σ H D Ex I hq
  refine wpAny_execs_cons (wpAny_mono (h pins s σ H D Ex I hq) (fun fl s1 q=>?_) fun _ _ z=>z)
  cases fl with
  | next=>exact wpAny_execs_nil q
  | ret v=>exact q
  | brk=>exact q
  | cont=>exact q
end
section
variable {X:Cx} {pins:List (Addr × Obj)} {σ:St} {H:Hp} {s:Shared}
def rY (X:Cx) (e:Addr):Cx:={ X with A:=X.A.mark (some (.ref e)),calm:=false,xe:=fun _ _=>False }
theorem Inv.sup (I:Inv X pins σ H s) (e:Addr):Inv (rY X e) pins σ H s :=
  ⟨⟨I.ok.mod,I.ok.kind,I.ok.glob,I.ok.blt,I.ok.above,I.ok.inj,I.ok.has,I.ok.cab,fun z=>(by cases z),I.ok.frames,I.ok.stk,I.ok.exf,I.ok.bs,I.ok.bsz,I.ok.noex,I.ok.exfs,I.ok.rH,I.ok.frf⟩,I.os,I.bare,I.base,I.loc,I.cell,I.free,I.freeC,I.pin,I.hok,I.len⟩
theorem Inv.Ul {e:Addr} (hc:X.calm=true→X.A.handled=none) (I:Inv (rY X e) pins σ H s):Inv X pins σ H s :=
  ⟨⟨I.ok.mod,I.ok.kind,I.ok.glob,I.ok.blt,I.ok.above,I.ok.inj,I.ok.has,I.ok.cab,hc,I.ok.frames,I.ok.stk,I.ok.exf,I.ok.bs,I.ok.bsz,I.ok.noex,I.ok.exfs,I.ok.rH,I.ok.frf⟩,I.os,I.bare,I.base,I.loc,I.cell,I.free,I.freeC,I.pin,I.hok,I.len⟩
theorem Inv.Ua {a:Addr} {o:HO} (I:Inv X pins σ H s) (hn:H a=none) (hL:a≠X.env.locals) (h0:X.s₀.heap.get? a=none) (hc:∀ x c,X.env.cells.lookup x=some c→c≠a) (hp:∀ p∈X.pn++pins,p.1≠a)
    (new:iy X.prog X.w (upd H a o) s.heap a o):Inv X pins σ (upd H a o) s:=by
  have ne:∀ b u,H b=some u→b≠a:=fun b u e=>aQ e hn
  refine ⟨I.ok,I.os,I.bare,⟨I.base.keep,I.base.slot,fun b ob e n hx=>?_,I.base.there,fun b xs e=>?_,fun b ob xs e=>?_,fun b ps e=>?_⟩,I.loc,I.cell,?_,fun x c e=>?_,fun p hq=>?_,fun b u e=>?_,I.len⟩
  · rw [aL fun z=>by rw [z,h0] at e;cases e];exact I.base.free b ob e n hx
  · have:=I.base.tups b xs e;rw [aL (ne b _ this)];exact this
  · have:=I.base.frzs b ob xs e;rw [aL (ne b _ this)];exact this
  · obtain ⟨m,e1⟩:=I.base.tbls b ps e;exact ⟨m,by rw [aL (ne b _ e1)];exact e1⟩
  · rw [aL hL.symm];exact I.free
  · rw [aL (hc x c e)];exact I.freeC x c e
  · obtain ⟨e1,n,r⟩:=I.pin p hq;exact ⟨e1,by rw [aL (hp p hq)];exact n,r⟩
  · by_cases hb:b=a
    · subst hb;rw [aZ] at e;cases e;exact new
    · rw [aL hb] at e
      exact (I.hok b u e).stay (fun _ _ _ q=>q) (fun c q=>by rw [aL (ne c _ q)];exact q) fun c xs q=>by rw [aL (ne c _ q)];exact q
theorem Inv.O1 {i:Nat} {n:Str} {h':Heap} {v:Option Value} {m:Str→Option Value} {t':Nat} (I:Inv X pins σ H s) (hN:X.N.Nodup) (hi:X.N[i]?=some n) (hs:Heap.SameBut X.env.locals s.heap h') (hm:s.heap.Ns X.env.locals m)
    (hl:∀ (j:Nat) (x:Str) (w:V),X.N[j]?=some x→σ[j]?=some (some w)→Vis X.env.scope x→∃ u,RelV w u∧Look X.env s.heap m x u) (hn:h'.Ns X.env.locals (fun x=>if x=n then v else m x)):Inv X pins (σ.set i none) H { s with heap:=h',toks:=t' }:=by
  have kp:∀ b o,b≠X.env.locals→s.heap.get? b=some o→h'.get? b=some o:=fun b o hb e=>(hs.2 b hb).trans e
  have old:∀ b o,X.s₀.heap.get? b=some o→b≠X.env.locals:=fun b o e=>Nat.ne_of_lt (Nat.lt_of_lt_of_le (Heap.lt_size e) I.ok.above)
  refine ⟨I.ok,I.os,I.bare,⟨fun b o e n hb hx=>kp b o (old b o e) (I.base.keep b o e n hb hx),fun b o e n hb hx=>?_,I.base.free,fun b o e hx=>?_,I.base.tups,I.base.frzs,I.base.tbls⟩,⟨_,hn,fun j x w e1 e2 e3=>?_⟩,fun x c e=>?_,I.free,I.freeC,fun p hp=>?_,fun b u e=>?_,by rw [List.length_set];exact I.len⟩
  · obtain ⟨sl,e1⟩:=I.base.slot b o e n hb hx
    exact ⟨sl,kp b _ (old b o e) e1⟩
  · obtain ⟨o',e1⟩:=I.base.there b o e hx
    exact ⟨o',kp b _ (old b o e) e1⟩
  · by_cases hj:j=i
    · subst hj
      have hj':j<σ.length:=by
        have:=(List.getElem?_eq_some_iff.mp e2).1
        rw [List.length_set] at this;exact this
      rw [List.getElem?_set_self hj'] at e2;cases e2
    · rw [List.getElem?_set_ne (Ne.symm hj)] at e2
      have hx:x≠n:=fun z=>by
        subst z
        obtain ⟨a1,a2⟩:=List.getElem?_eq_some_iff.mp e1
        obtain ⟨b1,b2⟩:=List.getElem?_eq_some_iff.mp hi
        exact hj ((List.getElem_inj hN).mp (a2.trans b2.symm))
      obtain ⟨u,r,l⟩:=hl j x w e1 e2 e3
      refine ⟨u,r,?_⟩
      rcases l with ⟨k,z⟩ | ⟨k,c,ec,z⟩
      · exact .inl ⟨k,by dsimp only;rw [if_neg hx];exact z⟩
      · refine .inr ⟨k,c,ec,?_⟩
        obtain ⟨o,ho,hd⟩:=z
        exact ⟨o,kp c o (I.cne x c ec) ho,hd⟩
  · obtain ⟨w,o,ho,hd⟩:=I.cell x c e
    exact ⟨w,o,kp c o (I.cne x c e) ho,hd⟩
  · obtain ⟨e1,n1,l1,r⟩:=I.pin p hp
    exact ⟨kp _ _ l1 e1,n1,l1,r⟩
  · refine (I.hok b u e).stay (fun c w hc q=>kp c w (fun z=>?_) q) (fun _ q=>q) fun _ _ q=>q
    rcases hc with y | y
    · rw [← y,z,I.free] at e;cases e
    · rw [z,I.free] at y;cases y
end
end L2
namespace L2
open PySem PySem.W PySem.Spec PySem.Calls PyProof.Rows
def Uk (K:PySem.W.Frag) (Bc:Value) (i:Nat) (th:TS) (D:Ends):St→XK:=fun σ cls oe H=>∃ C e,cls=.ref C∧oe=some e∧exmOne K (.ref C) Bc=some true ∧
  th { nx:=fun σ' H'=>D.nx (σ'.set i none) H',rt:=D.rt,bk:=fun σ' H'=>D.bk (σ'.set i none) H',ct:=fun σ' H'=>D.ct (σ'.set i none) H' } (σ.set i (some (.ref e))) (upd H e (.ext (XAt e C)))
def tTry (K:PySem.W.Frag) (Bc:Value) (i:Nat) (tb:TX) (th:TS):TS:=fun D σ H=>tb D (Uk K Bc i th D) σ H
section
variable {X:Cx} {body suite:List Stmt} {b0:Stmt} {x n:Str} {Ba:Addr} {i:Nat} {tb:TX} {th:TS} {np hpos pos:Pos}
theorem Pj (hB:Body X) (hc:X.calm=true) (hb:Uh X body tb) (hg:Gl X x) (hm:X.mg x=some (.ref Ba)) (hN:X.N.Nodup) (hi:X.N[i]?=some n) (hlo:X.env.scope.names.lookup n=some .local)
    (hs:∀ e:Addr,PSs (rY X e) (b0 :: suite) th) (hd:(x == ("__debug__":Str))=false:=by decide) :
    PS X (.Try body [.ExceptHandler (some (.Name x np)) (some n) (b0 :: suite) hpos] [] [] pos) (tTry X.K (.ref Ba) i tb th):=by
  intro pins s σ H D I h
  refine wpAny_Try_except (wpAny_mono (hb pins s σ H D _ I h) (fun fl s1 q=>?_) fun ev s1 q=>?_)
  · cases fl with
    | next=>exact wpAny_execs_nil q
    | ret v=>exact q
    | brk=>exact q
    | cont=>exact q
  obtain ⟨σ1,H1,s0,I1,ea,t,C,B,H',rfl,os,bare,fl,fy,new,nh,C',e',ec,ee,hx,ht⟩:=q
  cases ec
  cases ee
  have hfr:X.A.frames=some (X.env :: X.outer):=by rw [← hB.st];exact I1.ok.frames
  have fy0:Heap.FlyingW B (X.env :: X.outer) ea (.ref C) (.ref t) s1.heap:=by rw [← hB.st];exact fy
  refine wpAny_looks_onW hfr hB.fr fy0 fun h4 hd4 sm4=>?_
  have fl4:=fl.on (h2:=h4) hd4.1 (je fy.2.2.1 sm4)
  refine wpAny_landsW hd4 fun h5 fy5 sm5=>?_
  have fl5:=fl4.on (h2:=h5) fy5.1 (by rw [hB.st];exact je hd4.2.2.1 sm5)
  have I5:Inv X pins σ1 H' { s1 with heap:=h5 }:=I1.call' (s':={ s1 with heap:=h5 }) (ch:=[]) os fl5.un fl5.hok bare (fun b z=>nomatch z)
  have hxe:XAt ea C h5:=by obtain ⟨ob,h1,h2⟩:=fy5.there;exact ⟨ob,h1,h2⟩
  refine wpAny_handleBy_cons (codeAny_handlers_test ?_) (by intro q;cases q)
  refine j5 (X:=rY X ea) (I5.sup ea) hg hm ?_ hd
  refine (exm_one (K:=X.K) I5.kIn (tU hxe) hx).at ?_
  show codeAny _ _ _ _ _
  refine codeAny_handlers_suite_as ?_
  refine lands_againW fy5 fun h6 fy6 sm6=>?_
  have fl6:=fl5.on (h2:=h6) fy6.1 (by rw [hB.st];exact je fy5.2.2.1 sm6)
  have I6:Inv X pins σ1 H' { s1 with heap:=h6 }:=I1.call' (s':={ s1 with heap:=h6 }) (ch:=[]) os fl6.un fl6.hok bare (fun b z=>nomatch z)
  have hxe6:XAt ea C h6:=by obtain ⟨ob,h1,h2⟩:=fy6.there;exact ⟨ob,h1,h2⟩
  have newS:X.s₀.heap.get? ea=none:=by
    cases q:X.s₀.heap.get? ea with
    | none=>rfl
    | some o =>
      obtain ⟨o',e'⟩:=I1.base.there ea o q (by rw [hB.ex];simp)
      rw [new] at e';cases e'
  have I7:Inv X pins σ1 (upd H' ea (.ext (XAt ea C))) { s1 with heap:=h6 }:=by
    refine I6.Ua nh (fun z=>?_) newS (fun y c e z=>?_) (fun p hp z=>?_) ⟨hxe6,(by obtain ⟨o,h1,_⟩:=hxe6;exact ⟨o,h1⟩),fun g1 g2 p k=>?_⟩
    · obtain ⟨m,⟨o,_,_,ho,_⟩,_⟩:=I1.loc
      rw [← z,new] at ho;cases ho
    · obtain ⟨v,o,ho,_⟩:=I1.cell y c e
      rw [z,new] at ho;cases ho
    · have ho:=(I1.pin p hp).1
      rw [z,new] at ho;cases ho
    · obtain ⟨o,h1,h2⟩:=p
      exact ⟨o,k o h1,h2⟩
  refine lA (X:=rY X ea) (I7.sup ea) hN hi (.inl hlo) (v:=.ref ea) rfl (fun s8 I8=>?_) (.inr hlo)
  refine wpAny_mono (hs ea pins s8 _ _ _ I8 ht) (fun f s9 q=>?_) fun _ _ z=>z.elim
  have out:∀ {σ9:St} {H9:Hp} (J:Inv (rY X ea) pins σ9 H9 s9) (Z:Shared→Prop),(∀ s10,Inv X pins (σ9.set i none) H9 s10→Z s10)→wpAny (model X.prog X.w) X.A (do bindName X.env n .none;unbindBehindTheSuite X.env n hpos) (fun _ s10=>Z s10) X.xe s9:=fun {σ9 H9} J Z k=>by
    have J':Inv X pins σ9 H9 s9:=J.Ul fun hc=>I1.ok.hd hc
    obtain ⟨m,hn,hl⟩:=id J'.loc
    exact wpAny_nameGoes_keeps hlo hn (by rw [J'.ok.kind];rfl) fun h' v hn' hsb=>k _ (J'.O1 hN hi hsb hn hl hn')
  cases f with
  | next=>obtain ⟨σ9,H9,J,q⟩:=q;exact out J _ fun s10 J10=>⟨_,H9,J10,q⟩
  | brk=>obtain ⟨σ9,H9,J,q⟩:=q;exact out J _ fun s10 J10=>⟨_,H9,J10,q⟩
  | cont=>obtain ⟨σ9,H9,J,q⟩:=q;exact out J _ fun s10 J10=>⟨_,H9,J10,q⟩
  | ret u=>obtain ⟨v,σ9,H9,J,r,q⟩:=q;exact out J _ fun s10 J10=>⟨v,_,H9,J10,r,q⟩
def ClsV (c:V) (t:Value):Prop:=(∃ T,c=.ty T∧t=.type T)∨∃ a,c=.ref a∧t=.ref a
theorem gJ:mC X (.builtin "isinstance") (fun xs H Q=>∃ (e D:Addr) (c:V) (t:Value) (b:Bool),xs=[.ref e,c]∧H e=some (.ext (XAt e D))∧Lh X.K D∧ClsV c t∧PySem.W.kitOne X.K (.ref D) t=some b∧Q (.bl b) H):=by
  intro pins s σ H xs us Q I r h
  obtain ⟨e,D,c,t,b,rfl,he,hD,hc,hk,q⟩:=h
  obtain ⟨u,v,rfl,ru,rv⟩:=vals2 r
  cases ru
  have ev:v=t:=by
    rcases hc with ⟨T,rfl,rfl⟩ | ⟨a,rfl,rfl⟩
    · exact rv
    · exact rv
  subst ev
  obtain ⟨hx,_,_⟩:=(show iy X.prog X.w H s.heap e (.ext (XAt e D)) from I.hok e _ he)
  exact PySem.W.kia_one (Ca hD) I.kIn hx hk (fun z=>nomatch z) fun tk=>⟨.bl b,H,I.tok tk,rfl,q⟩
end
theorem Oh:bootBuiltins "ValueError"=some (.type "ValueError"):=by kernel_rfl
theorem uJ {X:Cx}:Passes (CXE X.prog X.w) X E0:=fun _ _ _ _ _ _ _ h=>by
  obtain ⟨_,_,_,_,_,_,_,_,_,_,_,_,hE⟩:=h
  exact hE.elim
theorem qX {X:Cx} {x:Str} {C:Addr} {pos:Pos} (hg:Gl X x) (hm:X.mg x=some (.ref C)) (hd:(x == ("__debug__":Str))=false:=by decide):PE X (.Name x pos) (tC (.ref C)):=fH (v:=.ref C) hg hm rfl hd
structure mz (K:PySem.W.Frag) (mg:Str→Option Value) (x:Str) (C:Addr):Prop where
  m:mg x=some (.ref C)
  q:excIn K C sZ "ValueError.__new__"=true
  x:Lh K C
end L2
namespace L2
open PySem PySem.Spec PyProof.Rows
end L2
namespace L2
open PySem PySem.Spec PyProof.Rows
end L2
namespace L2
open PySem PySem.Spec PyProof.Rows
structure Iv (P:Prop):Prop where
  t:True
  p:P
theorem ifT {c:Bool} {A B:Prop} (h:c=true) (a:A):if c=true then A else B:=by rw [if_pos h];exact a
theorem ifF {c:Bool} {A B:Prop} (h:c=false) (b:B):if c=true then A else B:=by rw [if_neg (by rw [h];exact Bool.false_ne_true)];exact b
theorem ifB {c:Bool} {A B:Prop} (h1:c=true→A) (h2:c=false→B):if c=true then A else B:=by
  cases c with
  | true=>exact ifT rfl (h1 rfl)
  | false=>exact ifF rfl (h2 rfl)
theorem Od (x y:Int):decide (V.int x=V.int y)=decide (x=y):=by
  by_cases h:x=y
  · simp [h]
  · have:¬ V.int x=V.int y:=fun e=>h (by cases e;rfl)
    simp [h,this]
theorem o7 {ns:List Int} {k:Nat} (h:k<ns.length):ns[k]?=some (ns.getD k 0):=by
  rw [List.getD_eq_getElem?_getD,List.getElem?_eq_getElem h];rfl
theorem d9.mo {T:fJ} {K:PySem.W.Frag} {H H':Hp} {vs:List V} {ds:List PyData} (h:d9 K H vs ds) (e:aR T H H'):d9 K H' vs ds:=d9.sJ e h
theorem SqT.mo {T:fJ} {K:PySem.W.Frag} {H H':Hp} {a:Addr} {xs:List V} (h:SqT K H a xs) (e:aR T H H'):SqT K H' a xs:=e.Vg h
section
variable {T:fJ} {H0 H1 H H':Hp} {L L':List (Addr × HO)} {a l p:Addr} {o o':HO} {xs:List V} {K:PySem.W.Frag}
theorem Ow.frz (O:Ow T H0 H ((p,o) :: L)):∃ Hn,Ow T Hn H L∧aR T H0 Hn∧Hn p=some o:=by
  obtain ⟨Hn,On,sn,kn⟩:=O.tail.reb
  refine ⟨Hn,On,sn,kn p o (O.get 0) fun q hq z=>?_⟩
  have nd:=O.nd
  rw [List.map_cons,List.nodup_cons] at nd
  exact nd.1 (List.mem_map.mpr ⟨q,hq,z⟩)
theorem Ow.join (O:Ow T H0 H L) (O':Ow T H H' L'):Ow T H0 H' (L'++L):=by
  have keep:∀ q∈L,H' q.1=some q.2:=fun q hq=>(O.fX O'.same).at_ q hq
  refine ⟨O.same.trans O'.same,fun q hq=>?_,fun q hq=>?_,fun q hq=>?_,?_⟩
  · rcases List.mem_append.mp hq with h | h
    · exact O.same.free (O'.new q h)
    · exact O.new q h
  · rcases List.mem_append.mp hq with h | h
    · exact O'.at_ q h
    · exact keep q h
  · rcases List.mem_append.mp hq with h | h
    · exact O'.pl q h
    · exact O.pl q h
  · rw [List.map_append,List.nodup_append]
    refine ⟨O'.nd,O.nd,fun x hx y hy z=>?_⟩
    obtain ⟨q,hq,rfl⟩:=List.mem_map.mp hx
    obtain ⟨r,hr,rfl⟩:=List.mem_map.mp hy
    have:=O'.new q hq
    rw [z,O.at_ r hr] at this
    cases this
end
def dTup (ns:List Int):PyData:=.tuple (ns.map PyData.int)
section
variable {K:PySem.W.Frag} {H:Hp} {v:V} {a:Addr} {ns:List Int} {rs:List (List Int)}
theorem Den.tup (h:SqT K H a (ns.map V.int)):Den K H (.ref a) (dTup ns):=.tuple h (d9.ints ns)
theorem Den.Ls (h:Den K H v (dTup ns)):∃ a,v=.ref a∧SqT K H a (ns.map V.int):=by
  cases h with
  | tuple h hs=>exact ⟨_,rfl,by rw [← d9.int_inv hs];exact h⟩
theorem Sh.tup (n:Nat) (ns:List Int):Sh (n + 1) (dTup ns):=.tuple fun d hd=>by
  obtain ⟨i,_,rfl⟩:=List.mem_map.mp hd
  exact .int n i
end
end L2
namespace L2
open PySem PySem.Spec PyProof.Rows
section
variable {A B:Prop}
theorem ifD {p:Prop} [Decidable p] (h1:p→A) (h2:¬ p→B):if decide p=true then A else B:=ifB (fun h=>h1 (of_decide_eq_true h)) fun h=>h2 (of_decide_eq_false h)
theorem ifI {x y:Int} (h1:x=y→A) (h2:¬ x=y→B):if decide (V.int x=V.int y)=true then A else B:=by rw [Od];exact ifD h1 h2
theorem ifN {c:Bool} (h:if c=true then B else A):if (!c)=true then A else B:=by cases c <;> simpa using h
end
structure Lic where
  day:Int
  start:Int
  back:Int
  most:Int
def sY (l:Lic):PyData:=dTup [l.day,l.start,l.back,l.most]
def U8 (ls:List Lic):PyData:=.list (ls.map sY)
abbrev Lr (l:Lic):List V:=[.int l.day,.int l.start,.int l.back,.int l.most]
section
variable {K:PySem.W.Frag} {H:Hp} {v:V} {a:Addr} {ls:List Lic} {l:Lic} {xs:List V} {k:Nat}
theorem Den.lic (h:SqT K H a (Lr l)):Den K H (.ref a) (sY l):=Den.tup (ns:=[l.day,l.start,l.back,l.most]) h
theorem Den.Mw (h:Den K H v (sY l)):∃ a,v=.ref a∧SqT K H a (Lr l):=h.Ls
theorem d9.Du (h:d9 K H xs (ls.map sY)) (hk:ls[k]?=some l):∃ a,xs[k]?=some (.ref a)∧SqT K H a (Lr l):=by
  obtain ⟨v,h1,h2⟩:=h.get (i:=k) (d:=sY l) (by rw [List.getElem?_map,hk];rfl)
  obtain ⟨a,rfl,hT⟩:=h2.Mw
  exact ⟨a,h1,hT⟩
theorem Sh.lic (n:Nat) (l:Lic):Sh (n + 1) (sY l):=Sh.tup n _
theorem Sh.roll (n:Nat) (ls:List Lic):Sh (n + 2) (U8 ls):=.list fun d hd=>by
  obtain ⟨i,_,rfl⟩:=List.mem_map.mp hd
  exact .lic n i
end
theorem Oe (xs:List V) (i j:Nat):tK xs (some (i:Int)) (some (j:Int))=(xs.drop i).take (j - i):=by
  unfold tK
  rw [HT.pY,HT.pY]
  refine List.ext_getElem? fun k=>?_
  simp only [List.getElem?_take,List.getElem?_drop]
  by_cases h1:k<j - i
  · rw [if_pos h1]
    by_cases h2:i + k<xs.length
    · rw [if_pos (by omega),show min i xs.length=i by omega]
    · rw [List.getElem?_eq_none (l:=xs) (i:=i + k) (by omega)]
      split
      · exact List.getElem?_eq_none (by omega)
      · rfl
  · rw [if_neg h1]
    split
    · rename_i h3
      omega
    · rfl
theorem Lg (ns:List Int) (i j:Nat):tK (ns.map V.int) (some (i:Int)) (some (j:Int))=((ns.drop i).take (j - i)).map V.int:=by
  rw [Oe,List.map_take,List.map_drop]
theorem Cu (ns:List Int) (i:Nat):tK (ns.map V.int) (some (i:Int)) none=(ns.drop i).map V.int:=by
  unfold tK
  rw [HT.pY,List.length_map,show HT.sIx ns.length ns.length none=ns.length from rfl,List.map_drop]
  by_cases h:i≤ns.length
  · rw [Nat.min_eq_left h,List.take_of_length_le (by rw [List.length_drop,List.length_map];omega)]
  · rw [Nat.min_eq_right (by omega),List.drop_of_length_le (l:=ns.map V.int) (i:=i) (by rw [List.length_map];omega),Nat.sub_self,List.take_zero]
end L2
namespace L2
open PySem PySem.Spec PyProof.Rows
end L2
namespace L2
open PySem PySem.Spec PyProof.Rows
theorem Mh {X:Cx} {K:PySem.W.Frag} {pos:Pos} {es:List Expr} {k:Nat} {t:TGs} {n:Nat} (hK:X.K=K) (hc:X.calm=true) (h:PGs X es t) (hn:(assignEach es X.env).length=n:=by rfl) (hst:(assignEach es X.env).findIdx? (·.1)=none:=by rfl):PG X (.Tuple es k pos) (Vq K n t):=hK ▸ oX hc h hn hst
end L2
namespace L2
open PySem PySem.Spec PyProof.Rows
theorem Ve {τ:St} {H:Hp} {A B:Hp→Prop} (h:A H):Um τ H fun b H5=>if b=true then A H5 else B H5:=by
  show if true=true then A H else B H
  rw [if_pos rfl];exact h
end L2
namespace L2
open PySem PySem.Spec PyProof.Rows
theorem mU {α:Type}:∀ {L:List α} {k:Nat} {p:α},L[k]?=some p→(p :: L.eraseIdx k).Perm L
  | [],_,_,h=>by simp at h
  | a :: L,0,p,h=>by
    have e:a=p:=by simpa using h
    subst e;exact List.Perm.refl _
  | a :: L,k + 1,p,h=>by
    have h':L[k]?=some p:=by simpa using h
    rw [List.eraseIdx_cons_succ]
    exact (List.Perm.swap a p _).trans ((mU h').cons a)
section
variable {T:fJ} {H0 H:Hp} {L:List (Addr × HO)} {p:Addr} {o:HO}
theorem Ow.pull (O:Ow T H0 H L) (k:Nat) (h:L[k]?=some (p,o):=by rfl):Ow T H0 H ((p,o) :: L.eraseIdx k):=O.perm (mU h)
end
end L2
namespace L2
open PySem PySem.Spec PyProof.Rows
end L2
namespace L2
open PySem PySem.Spec PyProof.Rows
end L2
namespace L2
open PySem PySem.W PySem.Spec PyProof.Rows
end L2
namespace L2
open PySem PySem.Spec PyProof.Rows
abbrev KT (H:Hp):List (List Key × V)→List (List Key × Addr × Value)→Prop:=Paired fun p q=>p.1=q.1∧H q.2.1=some (.tup (p.1.map kV))∧RelV p.2 q.2.2
abbrev VV:List (V × V)→List (Value × Value)→Prop:=Paired fun p q=>RelV p.1 q.1∧RelV p.2 q.2
end L2
namespace L2
open PySem PySem.W PySem.Spec PyProof.Rows
end L2
namespace L2
open PySem PySem.W PySem.Spec PyProof.Rows
section
variable {X:Cx}
theorem d9.Dr {K:PySem.W.Frag} {H:Hp} {xs:List V} {ps:List (Int × Int × Int)} {i:Nat} {x:V} (h:d9 K H xs (ps.map dMv)) (hx:xs[i]?=some x):∃ a p,x=.ref a∧ps[i]?=some p∧SqT K H a [.int p.1,.int p.2.1,.int p.2.2]:=by
  obtain ⟨d,hd,hv⟩:=h.get' hx
  rw [List.getElem?_map] at hd
  cases hp:ps[i]? with
  | none=>rw [hp] at hd;cases hd
  | some z =>
    rw [hp] at hd
    have e:dMv z=d:=Option.some.inj hd
    subst e
    obtain ⟨a,rfl,hT⟩:=hv.Qa
    exact ⟨a,z,rfl,rfl,hT⟩
abbrev oLic (l:Lic):HO:=.tup (Lr l)
abbrev oInts (w:List Int):HO:=.lst (w.map V.int)
end
end L2
namespace L2
open PySem PySem.W PySem.Spec PyProof.Rows
end L2
namespace L2
open PySem PySem.W PySem.Spec PyProof.Rows
end L2
namespace HT
open PySem PyProof.Rows
end HT
namespace L2
open PySem PySem.W PySem.Spec PyProof.Rows
end L2
namespace L2
open PySem
end L2
namespace L2
open PySem
abbrev ldOf (w:World):Bool:=!w.params.followText "set-order"
end L2
namespace L2
open PySem
end L2
namespace L2
open PySem
end L2
namespace L2
open PySem
end L2
namespace L2
open PySem
end L2
namespace L2
open PySem PyProof.Rows
end L2
namespace L2
open PySem PySem.Spec PyProof.Rows
section
variable {X:Cx}
theorem sG (bs:List Bool):((List.range bs.length).any fun i=>(bs[i]?).getD false)=bs.any id:=by
  rw [Bool.eq_iff_iff,List.any_eq_true,List.any_eq_true]
  constructor
  · rintro ⟨i,hi,h⟩
    rw [List.mem_range] at hi
    rw [List.getElem?_eq_getElem hi] at h
    exact ⟨_,List.getElem_mem hi,h⟩
  · rintro ⟨b,hb,h⟩
    obtain ⟨i,hi,rfl⟩:=List.getElem_of_mem hb
    exact ⟨i,List.mem_range.mpr hi,by rw [List.getElem?_eq_getElem hi];exact h⟩
theorem Cz (hc:X.calm=true):mC X (.builtin "any") (fun xs H Q=>∃ (p:Addr) (bs:List Bool),xs=[.ref p]∧SqL X.K H p (bs.map V.bl)∧Q (.bl (bs.any id)) H):=by
  intro pins s σ H xs us Q I r h
  obtain ⟨p,bs,rfl,hq,q⟩:=h
  obtain ⟨u,rfl,ru⟩:=vals1 r
  cases ru
  obtain ⟨its,r1,p1,hz⟩:=I.list hq
  have hl:=p1.isList
  have hlt:p<s.heap.objs.size:=p1.lt
  have hlen:=r1.length
  rw [List.length_map] at hlen
  refine call_any_walk (wpAny_pyIter_list hl ?_)
  refine ⟨s.heap.objs.size,[s.heap.objs.size,p],[s.heap.objs.size],its.toArray.size,_,_,fun i=>(bs[i]?).getD false,rfl,Walks.list (A:=X.A.in1) (I.ok.hd hc) _ p (Nat.ne_of_lt hlt) its.toArray,
    ⟨⟨_,Heap.get?_push_size _ rfl,rfl,rfl⟩,hl.push _⟩,fun i v s' Q' E' hP hQ=>?_,fun h' tk hk=>?_⟩
  · have hP':its[i]?=some v:=by simpa using hP
    have hi:i<bs.length:=by
      have:=(List.getElem?_eq_some_iff.mp hP').1
      omega
    obtain ⟨u,eu,ru⟩:=r1.get (x:=.bl bs[i]) (by rw [List.getElem?_map,List.getElem?_eq_getElem hi];rfl)
    rw [hP'] at eu
    cases eu
    cases ru
    dsimp only at hQ
    rw [List.getElem?_eq_getElem hi] at hQ
    exact wpAny_truthy_bool hQ
  · have e:((List.range its.toArray.size).any fun i=>(bs[i]?).getD false)=bs.any id:=by
      rw [List.size_toArray,← hlen];exact sG bs
    rw [e]
    refine ⟨.bl _,H,I.kept fun b o eo=>hk b o (fun hm=>?_) (Heap.get?_push_of_some _ eo),rfl,q⟩
    rw [List.mem_singleton.mp hm] at eo
    exact Nat.lt_irrefl _ (Heap.lt_size eo)
end
end L2
namespace L2
open PySem PySem.Spec PyProof.Rows
def Its (x:Str):It:=⟨fun i _=>i<x.cps.size,fun i H y H'=>H'=H∧∃ c,x.cps[i]?=some c∧y=.str ⟨#[c]⟩,fun i _=>x.cps.size≤i⟩
theorem Bb {P:Program} {w:World} {K:PySem.W.Frag} {tg:Expr} (it:Addr) (x:Str) (t:Tok):Turn P w K tg (Its x) [it] it (fun i h=>h.IsStrIter it "str_ascii_iterator" x t i) where
  mem:=by simp
  obj:=fun i h st b hb=>by
    have e:b=it:=by simpa using hb
    subst e
    obtain ⟨o,e,c,d⟩:=st
    exact ⟨o,e,fun v z=>by rw [d] at z;cases z⟩
  keep:=fun i h h' st k=>let ⟨o,e,r⟩:=st;⟨o,k it (by simp) o e,r⟩
  item:=by
    intro X hP hw hK hc i pins s σ H E I hf st hg
    subst hP hw hK
    obtain ⟨f0,f1,f2,f3,f4,f5⟩:=hf it (by simp)
    have hg:i<x.cps.size:=hg
    have hx:x.cps[i]?=some x.cps[i]:=by simp [hg]
    refine wpAny_pyNext_ascii_item st hx fun h' st' sb=>?_
    have I1:Inv X pins σ H { s with heap:=h',toks:=s.toks + 1 }:=I.turned (fun b o hb e=>(sb.2 b hb).trans e) f0 f1 f3 f4 f5
    obtain ⟨o,e,c,d⟩:=id st'
    exact ⟨_,rfl,Oa (s:={ s with heap:=h',toks:=s.toks + 1 }) e c d (by decide) ⟨.str ⟨#[x.cps[i]]⟩,H,I1,⟨_,rfl⟩,⟨rfl,_,hx,rfl⟩,st',fun b hb=>(hf b hb).1⟩⟩
  done:=by
    intro X hP hw hK hc i pins s σ H E I hf st hg
    subst hP hw hK
    obtain ⟨f0,f1,f2,f3,f4,f5⟩:=hf it (by simp)
    have hg:x.cps.size≤i:=hg
    exact wpAny_pyNext_ascii_end (I.ok.hd hc) st (by simp [hg]) fun h' eb=>⟨rfl,I.turned (t':=s.toks) (fun b o hb e=>eb b o hb e) f0 f1 f3 f4 f5⟩
  self:=fun _ _ _ _ _ st h=>wpAny_pyIter_striter_ascii st h
section
variable {X:Cx} {tg:Expr}
def iStr (tl:TE):TI:=fun σ H R=>tl σ H fun v H1=>∃ x,v=.str x∧x.cps.all (·<128)=true∧R (Its x) H1
theorem Pk {l:Expr} {tl:TE} (hl:PE X l tl):PI X tg l (iStr tl):=by
  intro pins s σ H R I h
  refine thn (hl pins s σ H _ I h) fun v s1 ⟨x,H1,I1,r1,q1⟩=>?_
  obtain ⟨z,e,ha,q⟩:=q1
  subst e
  obtain ⟨t,rfl⟩:=r1
  refine wpAny_pyIter_ascii ha ?_
  refine ⟨s1.heap.objs.size,[s1.heap.objs.size],_,_,H1,rfl,I1.kept (t':=s1.toks) fun b o e=>Heap.get?_push_of_some _ e,Bb _ z t,⟨_,Heap.get?_push_size _ rfl,rfl,rfl⟩,fun b hb=>?_,q⟩
  have e:b=s1.heap.objs.size:=by simpa using hb
  subst e
  exact I1.U6 (Nat.le_refl _) (I1.hok.fresh (Nat.le_refl _))
theorem Cv {x:Str} {acc:Addr} {g:TG} {tc:TT} {te:TE} {τ:St} {H1:Hp} {Q:Hp→Prop} (Pv:Nat→St→Hp→Prop) (h0:Pv 0 τ (upd H1 acc (.lst [])))
    (hs:∀ i c τ H,x.cps[i]?=some c→Pv i τ H→g (.str ⟨#[c]⟩) τ H fun τ4 H4=>tc τ4 H4 fun b H5=>if b=true then te τ4 H5 fun y H6=>∃ ys,H6 acc=some (.lst ys)∧ys.length<sizeLine∧Pv (i + 1) τ4 (upd H6 acc (.lst (ys++[y]))) else Pv (i + 1) τ4 H5)
    (hd:∀ τ H,Pv x.cps.size τ H→Q H):qD (Its x) acc g tc te τ H1 Q:=by
  refine ⟨fun i m τ H=>m=x.cps.size - i∧i≤x.cps.size∧Pv i τ H,⟨x.cps.size,by simp,Nat.zero_le _,h0⟩,?_⟩
  rintro i m τ H ⟨rfl,hi,p⟩
  by_cases hlt:i<x.cps.size
  · refine .inr ⟨hlt,Pv (i + 1),fun τ' H' p'=>⟨x.cps.size - (i + 1),by omega,rfl,hlt,p'⟩,fun y H' e=>?_⟩
    obtain ⟨e,c,hc,ey⟩:=e
    subst e ey
    exact hs i c τ _ hc p
  · have e:i=x.cps.size:=by omega
    subst e
    exact .inl ⟨Nat.le_refl _,hd τ H p⟩
structure Dm (K:PySem.W.Frag) (C:Addr) (x qual:Str) (st:Stmt) (ps:List Str) (a:Addr) (fd:FuncData):Prop where
  F:Fun K x qual st a fd
  b:Binds K fd ps []
  m:Meth K C x a
structure Lj (K:PySem.W.Frag) (x qual:Str) (st:Stmt) (dv:List Value) (f:Addr) (fd:FuncData):Prop where
  ex:∃ (oc:Value) (od:Option Addr) (T:Addr) (o:Obj) (n:Nat) (kV doc pm:Value) (an:Option Addr) (cdv ct:Value) (osl:Array (Option Value)),
    fd=PySem.W.fnOf x qual (ao st) (ak st) (aj st) (.ref T) kV doc pm an cdv ct∧K.lookup f=some ⟨oc,od,.func fd,osl⟩∧PySem.W.codeIn K cdv qual=true∧K.lookup T=some o∧o.data=.seq dv.toArray n
  kp:PySem.W.keepIn K (.ref f)=true
section
variable {P:Program} {w:World} {K:PySem.W.Frag} {mg:Str→Option Value} {base:Heap} {x qual:Str} {st:Stmt} {dv:List Value} {f:Addr} {fd:FuncData} {N ps:List Str} {k:Nat} {sp:Sp}
theorem Lj.okX (F:Lj K x qual st dv f fd) (S:aN N ps (aj st)) (len:∀ vs H Q E,sp vs H Q E→vs.length=ps.length)
    (hbody:∀ (cdv:Value) (A:Around) (outer:List Env) (s:Shared) (H:Hp) (vs:List V) (Q:VK) (E:XK),jV k (A.deeper (envOfC qual (aj st) s.heap.objs.size f cdv))→sp vs H Q E →
      ∃ t,PSs (Ar (CXE P w) P w K mg base N qual (aj st) f cdv A outer s H E) (ak st) t∧t { nx:=fun _ H'=>Q .non H',rt:=Q } (start N vs) H):bM P w K mg base (CXE P w) (k + 1) f fd ps sp:=by
  obtain ⟨oc,od,T,o,n,kV,doc,pm,an,cdv,ct,osl,rfl,lk,hcd,_⟩:=F.ex
  exact Ob lk hcd S len fun A outer s H vs Q E hr hsp=>hbody cdv A outer s H vs Q E hr hsp
theorem Lj.binds {ds:List Value} (F:Lj K x qual st dv f fd)
    (h:∀ (T:Addr) (kV doc pm:Value) (an:Option Addr) (cdv ct:Value) (us:List Value),(us++ds).length=ps.length→∃ k:Option (Array Value)→Sem (List (Str × Value)),
      bindArgs (PySem.W.fnOf x qual (ao st) (ak st) (aj st) (.ref T) kV doc pm an cdv ct) ⟨us,[]⟩=(seqItems? (.ref T) >>= k)∧k (some dv.toArray)=pure (ps.zip (us++ds))):Binds K fd ps ds:=by
  obtain ⟨oc,od,T,o,n,kV,doc,pm,an,cdv,ct,osl,rfl,lk,hcd,lt,hs⟩:=F.ex
  intro s us X hl
  obtain ⟨k,h1,h2⟩:=h T kV doc pm an cdv ct us hl
  exact BindsTo.of_defaults rfl (X _ _ lt) hs h1 h2
end
structure DmD (K:PySem.W.Frag) (C:Addr) (x qual:Str) (st:Stmt) (ps:List Str) (a:Addr) (fd:FuncData):Prop where
  F:Lj K x qual st [.none] a fd
  b0:Binds K fd ps []
  b1:Binds K fd ps [.none]
  m:Meth K C x a
structure Cl (K:PySem.W.Frag) (mg:Str→Option Value) (x:Str) (C f:Addr) (fs:List Str):Prop where
  c:Cls K C
  k:Mk K C f
  m:mg x=some (.ref C)
  n:∀ y∈fs,gK K C y
end
section
variable {T:fJ} {H0 H:Hp} {L R B:List (Addr × HO)} {a b:Addr} {o o':HO} {x y:Addr × HO}
theorem Ow.ne (O:Ow T H0 H L) (i j:Nat) (hi:L[i]?=some (a,o):=by rfl) (hj:L[j]?=some (b,o'):=by rfl) (hij:i≠j:=by decide):a≠b:=by
  intro e
  subst e
  have h1:(L.map (·.1))[i]?=some a:=by rw [List.getElem?_map,hi];rfl
  have h2:(L.map (·.1))[j]?=some a:=by rw [List.getElem?_map,hj];rfl
  exact hij ((List.getElem?_inj (List.getElem?_eq_some_iff.mp h1).1 O.nd).mp (h1.trans h2.symm))
end
end L2
namespace L2
open PySem PySem.Spec PyProof.Rows
section
variable {X:Cx} {k:Nat} {f C:Addr} {fd:FuncData} {ps:List Str} {sp:Sp} {dvs:List V} {ds:List Value} {m:Str} {apos pos:Pos} {o e:Expr} {es:List Expr} {t:TA} {ta:TE}
def Uj (C:Addr) (m:Str) (sp:Sp) (dvs:List V) (ta:TE) (t:TA):St→Hp→VK→XK→Prop:=fun σ H Q Ex=>ta σ H fun x H1=>∃ a dx fs,x=.ref a∧H1 a=some (.ins C dx fs)∧fs.lookup m=none∧t σ H1 fun vs H2=>sp (x :: (vs++dvs)) H2 Q Ex
theorem tQ {pl:Sem Bool} (he:PE X.nox o ta) (c:Cls X.K C) (hm:Meth X.K C m f) (F:bM X.prog X.w X.K X.mg X.base (CXE X.prog X.w) k f fd ps sp) (hr:jV k X.A) (hb:Binds X.K fd ps ds) (hd:Vals dvs ds) (ha:PA X.nox (e :: es) t)
    (hst:starEach (e :: es) X.env=(false,eval e X.env) :: starEach es X.env:=by rfl) (hpl:(backTo pos (starEach es X.env)).any (·.1)=false:=by rfl)
    (ht:eval (.Call (.Attribute o m apos) (e :: es) [] pos) X.env=(do
      let ov ← eval o X.env
      standAt apos.atName
      let (f,first) ← holding [ov] (getMethod ov m pl)
      callWith pos f first (backTo pos (starEach (e :: es) X.env)) (backToKw pos (keywordEach [] X.env))):=by rfl) :
    PEx X (.Call (.Attribute o m apos) (e :: es) [] pos) (Uj C m sp dvs ta t):=by
  intro pins s σ H Q Ex I h
  refine PySem.W.methodCall_KW (pl:=pl) (wpAny_mono (he pins s σ H _ (I.wish _) h) (fun u s1 ⟨x,H1,I1,rx,a,dx,fs,ex,ea,l,q⟩=>?_) fun _ _ z=>z.elim) ht
  subst ex
  obtain rfl:u=Value.ref a:=rx
  have I1:=I1.jd
  refine j6 I1 ea c hm l ?_
  refine PySem.W.callWith_K (first:=[.ref a]) (h₀:=X.base) I.ok.mod.kin hm.kp (wpAny_mono (ha pos pins s1 σ H1 _ (I1.wish _) q) (fun us s2 ⟨vs,H2,I2,r,q2⟩=>?_) fun _ _ z=>z.elim) hst hpl
  have I2:=I2.jd
  refine ⟨I2.kIn,?_⟩
  have r2:Vals (V.ref a :: (vs++dvs)) (Value.ref a :: (us++ds)):=.cons rfl (r.append hd)
  have hl:(Value.ref a :: us++ds).length=ps.length:=by
    have e:=r2.length
    rw [F.len _ _ _ _ q2] at e
    exact e.symm
  refine wpAny_call (codeAny_mono (F.run X.A X.stack s2 H2 ⟨Value.ref a :: us,[]⟩ (Value.ref a :: us++ds) (V.ref a :: (vs++dvs)) Q (Ex σ) hr I2.env0 (hb s2 (Value.ref a :: us) I2.kIn hl) r2 q2) fun rr s' hq=>?_)
  cases rr with
  | error ev=>exact ⟨σ,H2,s2,I2,hq⟩
  | ok fl =>
    cases fl with
    | ret u=>exact I2.after hq
    | next=>exact False.elim hq
    | brk=>exact False.elim hq
    | cont=>exact False.elim hq
end
end L2
namespace L2
open PySem PySem.Spec PyProof.Rows
section
variable {X:Cx}
def xIfS (c:TT) (t u:TX):TX:=fun D Ex σ H=>c σ H fun b H1=>if b=true then t D Ex σ H1 else u D Ex σ H1
theorem Ui {c:Expr} {a b:List Stmt} {tc:TT} {t u:TX} {pos:Pos} (hc:PT X.nox c tc) (ha:Uh X a t) (hb:Uh X b u):PSx X (.If c a b pos) (xIfS tc t u):=by
  intro pins s σ H D Ex I h
  refine wpAny_If (wpAny_mono (hc pins s σ H _ (I.wish _) h) (fun d s1 ⟨H1,I1,q1⟩=>?_) fun _ _ z=>z.elim)
  have I1:=I1.jd
  cases d with
  | true=>exact ha pins s1 σ H1 D Ex I1 q1
  | false=>exact hb pins s1 σ H1 D Ex I1 q1
end
end L2
namespace L2
open PySem PySem.Spec PyProof.Rows
section
variable {X:Cx} {e:Expr} {es:List Expr} {te:TE} {t:TA}
def Dl:Expr→Bool
  | .Starred ..=>false
  | _=>true
theorem rZ (e:Expr) (h:Dl e=true) (es:List Expr) (env:Env):starEach (e :: es) env=(false,eval e env) :: starEach es env:=by
  cases e <;> first | rfl | cases h
theorem aB (ha:PE X e te) (hr:PA X es t) (h:Dl e=true:=by rfl):PA X (e :: es) (Pa te t):=aC ha hr (rZ e h es X.env)
end
end L2
namespace L2
open PySem PySem.Spec PyProof.Rows
structure ClF (K:PySem.W.Frag) (C f:Addr) (m:Str):Prop where
  ga:PySem.W.specialIn K (.ref C) "__getattribute__"=some (some (.builtin "type.__getattribute__"))
  rd:PySem.W.readsIn K C (.type "type")=true
  fc:PySem.W.findCls K (.ref C) (.type "type") m=some (.val (.ref f))
  kp:PySem.W.keepIn K (.ref f)=true
section
variable {X:Cx} {CX:CXT} {k:Nat} {f C:Addr} {fd:FuncData} {ps:List Str} {sp:Sp} {dvs:List V} {ds:List Value} {E:XK} {x m:Str} {p pos apos:Pos} {e:Expr} {es:List Expr} {t:TA}
theorem Mi {pl:Sem Bool} (hg:Gl X x) (hmg:X.mg x=some (.ref C)) (hc:ClF X.K C f m) (F:bM X.prog X.w X.K X.mg X.base CX k f fd ps sp) (hr:jV k X.A) (hb:Binds X.K fd ps ds) (hd:Vals dvs ds) (hx:Passes CX X E) (ha:PA X (e :: es) t)
    (hdb:(x == ("__debug__":Str))=false:=by decide) (hst:starEach (e :: es) X.env=(false,eval e X.env) :: starEach es X.env:=by rfl) (hpl:(backTo pos (starEach es X.env)).any (·.1)=false:=by rfl)
    (ht:eval (.Call (.Attribute (.Name x p) m apos) (e :: es) [] pos) X.env=(do
      let ov ← eval (.Name x p) X.env
      standAt apos.atName
      let (f,first) ← holding [ov] (getMethod ov m pl)
      callWith pos f first (backTo pos (starEach (e :: es) X.env)) (backToKw pos (keywordEach [] X.env))):=by rfl) :
    PE X (.Call (.Attribute (.Name x p) m apos) (e :: es) [] pos) (Pb sp dvs E t):=by
  intro pins s σ H Q I h
  refine PySem.W.methodCall_KW (pl:=pl) (j5 I hg hmg ?_ hdb) ht
  refine PySem.W.method_cls I.kIn hc.ga (PySem.W.cls_value I.kIn hc.rd hc.fc rfl ?_)
  refine PySem.W.callWith_K (first:=[]) (h₀:=X.base) I.ok.mod.kin hc.kp (thn (ha pos pins _ σ H _ (I.tok _) h) fun us s2 ⟨vs,H2,I2,r,q2⟩=>⟨I2.kIn,?_⟩) hst hpl
  exact qR (us:=us) (vs:=vs) F hr hb hd hx I2 r q2
end
section
structure DmZ (K:PySem.W.Frag) (C:Addr) (x qual:Str) (st:Stmt) (ps:List Str) (a:Addr) (fd:FuncData):Prop where
  F:∃ t:Tok,Lj K x qual st [.int 0 t] a fd∧Binds K fd ps [.int 0 t]
  b0:Binds K fd ps []
  m:Meth K C x a
end
end L2
namespace Rv
def lU (r:List Int):Prop:=∃ rk:Nat→Nat,(∀ i,i<r.length→rk i<r.length) ∧
  ∀ (i:Nat) (x:Int),r[i]?=some x→x=-1∨(0≤x∧x<r.length∧rk x.toNat<rk i)
def nxt (r:List Int) (p:Int):Int:=r.getD p.toNat (-1)
theorem jk {r:List Int} {p:Int} (h0:0≤p) (h1:p<r.length):r[p.toNat]?=some (nxt r p):=by
  have h:p.toNat<r.length:=by omega
  unfold nxt
  rw [List.getD_eq_getElem?_getD,List.getElem?_eq_getElem h];rfl
theorem lU.step {r:List Int} (h:lU r) {p:Int} (h0:0≤p) (h1:p<r.length):nxt r p=-1∨(0≤nxt r p∧nxt r p<r.length):=by
  obtain ⟨rk,_,h3⟩:=h
  rcases h3 _ _ (jk h0 h1) with e | ⟨a,b,_⟩
  · exact .inl e
  · exact .inr ⟨a,b⟩
def lC (r:List Int):Nat→Int→List Int
  | 0,_=>[]
  | f + 1,p=>if p=-1 then [] else p :: lC r f (nxt r p)
def walk (r:List Int) (p:Int):List Int:=lC r (r.length + 1) p
theorem jP (r:List Int) (f:Nat):lC r f (-1)=[]:=by
  cases f with
  | zero=>rfl
  | succ f=>unfold lC;rw [if_pos rfl]
theorem qC (r:List Int):walk r (-1)=[]:=jP r _
theorem j9 {r:List Int} {rk:Nat→Nat} (h:∀ (i:Nat) (x:Int),r[i]?=some x→x=-1∨(0≤x∧x<r.length∧rk x.toNat<rk i)) :
    ∀ (f g:Nat) (p:Int),0≤p→p<r.length→rk p.toNat<f→rk p.toNat<g→lC r f p=lC r g p
  | 0,_,_,_,_,hf,_=>by omega
  | _ + 1,0,_,_,_,_,hg=>by omega
  | f + 1,g + 1,p,h0,h1,hf,hg=>by
    unfold lC
    rw [if_neg (by omega),if_neg (by omega)]
    rcases h _ _ (jk h0 h1) with e | ⟨a,b,c⟩
    · rw [e,jP,jP]
    · rw [j9 h f g _ a b (by omega) (by omega)]
theorem iM {r:List Int} (h:lU r) {p:Int} (h0:0≤p) (h1:p<r.length):walk r p=p :: walk r (nxt r p):=by
  obtain ⟨rk,h2,h3⟩:=h
  show lC r (r.length + 1) p=_
  unfold lC
  rw [if_neg (by omega)]
  rcases h3 _ _ (jk h0 h1) with e | ⟨a,b,c⟩
  · rw [e,jP,qC]
  · have:=h2 p.toNat (by omega)
    unfold walk
    rw [j9 h3 r.length (r.length + 1) _ a b (by omega) (by omega)]
theorem oh (r:List Int):∀ (f:Nat) (p:Int),(lC r f p).length≤f
  | 0,_=>Nat.le_refl _
  | f + 1,p=>by
    unfold lC
    split
    · exact Nat.zero_le _
    · exact Nat.succ_le_succ (oh r f _)
theorem Az (r:List Int) (p:Int):(walk r p).length≤r.length + 1:=oh r _ _
noncomputable def mea (r:List Int) (p:Int):Nat:=(walk r p).length
theorem Qd {r:List Int} (h:lU r) {p:Int} (h0:0≤p) (h1:p<r.length):mea r (nxt r p)<mea r p:=by
  unfold mea;rw [iM h h0 h1];exact Nat.lt_succ_self _
structure Ord (k:Nat) (o:List Nat):Prop where
  perm:o.Perm (List.range k)
theorem Ord.len {k:Nat} {o:List Nat} (h:Ord k o):o.length=k:=by rw [h.perm.length_eq,List.length_range]
theorem Ord.lt {k:Nat} {o:List Nat} (h:Ord k o) {j:Nat} (hj:j∈o):j<k:=by
  have:=h.perm.mem_iff.mp hj;exact List.mem_range.mp this
theorem Ord.nd {k:Nat} {o:List Nat} (h:Ord k o):o.Nodup:=h.perm.nodup_iff.mpr List.nodup_range
theorem Ord.one:Ord 1 [0]:=⟨List.Perm.refl _⟩
theorem Ord.ins {k:Nat} {o:List Nat} (h:Ord k o) (i:Nat):Ord (k + 1) (o.take i++k :: o.drop i):=by
  refine ⟨?_⟩
  have e:(o.take i++k :: o.drop i).Perm (k :: o):=by
    have:=(List.perm_middle (a:=k) (l₁:=o.take i) (l₂:=o.drop i))
    rw [List.take_append_drop] at this
    exact this
  refine e.trans ?_
  rw [List.range_succ]
  exact (List.Perm.cons k h.perm).trans (List.perm_append_singleton k (List.range k)).symm
structure Onw (k:Nat) (w:List Int):Prop where
  len:w.length=k
  lt:∀ (j:Nat) (x:Int),w[j]?=some x→x=-1∨(0≤x∧x<j)
theorem Onw.one:Onw 1 [-1]:=⟨rfl,fun j x h=>by
  cases j with
  | zero=>simp at h;exact .inl h.symm
  | succ j=>simp at h⟩
theorem Onw.app {k:Nat} {w:List Int} (h:Onw k w) {y:Int} (hy:y=-1∨(0≤y∧y<k)):Onw (k + 1) (w++[y]):=by
  refine ⟨by rw [List.length_append,h.len];rfl,fun j x e=>?_⟩
  by_cases hj:j<w.length
  · rw [List.getElem?_append_left hj] at e;exact h.lt j x e
  · rw [List.getElem?_append_right (by omega)] at e
    have hl:=h.len
    have hj':j - w.length=0:=by
      have:=(List.getElem?_eq_some_iff.mp e).1
      simp at this;omega
    rw [hj'] at e
    simp at e
    subst e
    rcases hy with e | ⟨a,b⟩
    · exact .inl e
    · exact .inr ⟨a,by omega⟩
structure Plc (n:Nat) (o:List Nat) (t:Nat) (pl:List Int):Prop where
  len:pl.length=n
  at_:∀ (a:Nat) (j:Nat),a<t→o[a]?=some j→pl[j]?=some (a:Int)
theorem Plc.start (n:Nat) (o:List Nat) (pl:List Int) (h:pl.length=n):Plc n o 0 pl:=⟨h,fun a j h _=>by omega⟩
theorem Plc.turn {n:Nat} {o:List Nat} {t:Nat} {pl:List Int} (h:Plc n o t pl) (O:Ord n o) {j:Nat} (hj:o[t]?=some j):Plc n o (t + 1) (pl.set j (t:Int)):=by
  refine ⟨by rw [List.length_set];exact h.len,fun a j' ha e=>?_⟩
  by_cases hat:a=t
  · subst hat
    rw [hj] at e
    cases e
    have hj2:j<n:=O.lt (List.mem_of_getElem? hj)
    exact List.getElem?_set_self (by rw [h.len];exact hj2)
  · have hne:j'≠j:=by
      intro z
      subst z
      obtain ⟨h1,e1⟩:=List.getElem?_eq_some_iff.mp hj
      obtain ⟨h2,e2⟩:=List.getElem?_eq_some_iff.mp e
      exact hat ((List.getElem_inj O.nd).mp (e2.trans e1.symm))
    rw [List.getElem?_set_ne (Ne.symm hne)]
    exact h.at_ a j' (by omega) e
theorem Plc.all {n:Nat} {o:List Nat} {pl:List Int} (h:Plc n o n pl) (O:Ord n o) {k:Nat} (hk:k<n):∃ a:Nat,a<n∧pl[k]?=some (a:Int)∧o[a]?=some k:=by
  have hm:k∈o:=O.perm.mem_iff.mpr (List.mem_range.mpr hk)
  obtain ⟨a,ha,e⟩:=List.getElem_of_mem hm
  have e':o[a]?=some k:=by rw [List.getElem?_eq_getElem ha,e]
  have hl:=O.len
  exact ⟨a,by omega,h.at_ a k (by omega) e',e'⟩
structure Fnd (n:Nat) (o:List Nat) (_t:Nat) (r:List Int):Prop where
  len:r.length=n
  at_:∀ (i:Nat) (x:Int),r[i]?=some x→x=-1∨∃ (b k j:Nat),x=(b:Int)∧b<n∧o[i]?=some k∧o[b]?=some j∧j<k
theorem Fnd.start (n:Nat) (o:List Nat) (r:List Int) (hl:r.length=n) (h:∀ x∈r,x=-1):Fnd n o 0 r:=⟨hl,fun i x e=>.inl (h x (List.mem_of_getElem? e))⟩
theorem Fnd.turn {n:Nat} {o:List Nat} {t:Nat} {r:List Int} (h:Fnd n o t r) {a b k j:Nat} (hb:b<n) (ha:o[a]?=some k) (hj:o[b]?=some j) (hjk:j<k) (t':Nat):Fnd n o t' (r.set a (b:Int)):=by
  refine ⟨by rw [List.length_set];exact h.len,fun i x e=>?_⟩
  by_cases hia:i=a
  · subst hia
    have hi:i<r.length:=by
      have:=(List.getElem?_eq_some_iff.mp e).1
      rw [List.length_set] at this;exact this
    rw [List.getElem?_set_self hi] at e
    cases e
    exact .inr ⟨b,k,j,rfl,hb,ha,hj,hjk⟩
  · rw [List.getElem?_set_ne (Ne.symm hia)] at e
    exact h.at_ i x e
theorem Fnd.same {n:Nat} {o:List Nat} {t:Nat} {r:List Int} (h:Fnd n o t r) (t':Nat):Fnd n o t' r:=⟨h.len,h.at_⟩
theorem Fnd.oR {n:Nat} {o:List Nat} {t:Nat} {r:List Int} (h:Fnd n o t r) (O:Ord n o):lU r:=by
  refine ⟨fun i=>o.getD i 0,fun i hi=>?_,fun i x e=>?_⟩
  · have hl:=O.len
    have hi':i<o.length:=by rw [hl,← h.len];exact hi
    show o.getD i 0<r.length
    rw [List.getD_eq_getElem?_getD,List.getElem?_eq_getElem hi',h.len]
    exact O.lt (List.getElem_mem hi')
  · rcases h.at_ i x e with z | ⟨b,k,j,rfl,hb,h1,h2,h3⟩
    · exact .inl z
    · refine .inr ⟨by omega,by rw [h.len];omega,?_⟩
      show o.getD (b:Int).toNat 0<o.getD i 0
      rw [Int.toNat_natCast,List.getD_eq_getElem?_getD,List.getD_eq_getElem?_getD,h1,h2]
      exact h3
def stp (r:List Int) (p:Int):Int:=if p=-1 then -1 else nxt r p
def jW (r:List Int):Nat→Int→Int
  | 0,p=>p
  | f + 1,p=>jW r f (stp r p)
theorem qF (r:List Int):∀ f,jW r f (-1)=-1
  | 0=>rfl
  | f + 1=>by
    show jW r f (stp r (-1))=-1
    unfold stp
    rw [if_pos rfl];exact qF r f
theorem jq (r:List Int):∀ (f:Nat) (p:Int),jW r (f + 1) p=stp r (jW r f p)
  | 0,_=>rfl
  | f + 1,p=>by
    show jW r (f + 1) (stp r p)=stp r (jW r f (stp r p))
    exact jq r f (stp r p)
theorem qG (r:List Int) (p:Int) {f:Nat} (h:jW r f p=-1):∀ g,jW r (f + g) p=-1
  | 0=>h
  | g + 1=>by
    rw [show f + (g + 1)=(f + g) + 1 from rfl,jq,qG r p h g]
    unfold stp;rw [if_pos rfl]
def inB (r:List Int):Prop:=∀ x∈r,-1≤x∧x<(r.length:Int)
instance (r:List Int):Decidable (inB r):=inferInstanceAs (Decidable (∀ x∈r,-1≤x∧x<(r.length:Int)))
theorem MJ {r:List Int} (h:inB r) {p:Int} (h0:0≤p) (h1:p<r.length):-1≤nxt r p∧nxt r p<r.length:=h _ (List.mem_of_getElem? (jk h0 h1))
theorem rF {r:List Int} (h:inB r) {p:Int} (h0:0≤p) (h1:p<r.length):∀ f,-1≤jW r f p∧jW r f p<(r.length:Int)
  | 0=>⟨by show -1≤p;omega,h1⟩
  | f + 1=>by
    rw [jq]
    obtain ⟨a,b⟩:=rF h h0 h1 f
    unfold stp
    by_cases e:jW r f p=-1
    · rw [if_pos e];omega
    · rw [if_neg e];exact MJ h (by omega) b
def isR (r:List Int):Bool:=decide (1≤r.length∧r.length≤40) && decide (inB r) && decide (∀ i,i<r.length→jW r r.length (i:Int)=-1)
end Rv
namespace Rv
end Rv
namespace Rv
abbrev Mv:=Int × Int × Int
end Rv
namespace Rv
end Rv
namespace Rv
end Rv
namespace Rv
end Rv
namespace Rv
end Rv
namespace Rv
end Rv
namespace Tn
end Tn
namespace Tn
end Tn
namespace Tn
end Tn
namespace Tn
end Tn
namespace Tn
end Tn
namespace Tn
end Tn
namespace Tn
end Tn
namespace Tn
end Tn
namespace Tn
end Tn
namespace Tn
theorem lD {α:Type} {gs:List α} {i:Nat} {k:α} (h:gs[i]?=some k):gs.take (i + 1)=gs.take i++[k]:=by
  rw [List.take_add_one,h];rfl
end Tn
namespace Tn
end Tn
namespace Tn
end Tn
namespace Tn
end Tn
namespace Tn
end Tn
namespace Rv
end Rv
namespace Rv
end Rv
namespace Tn
end Tn
namespace Rv
end Rv
namespace Tn
end Tn
namespace Tn
end Tn
namespace Rv
end Rv
namespace Tn
end Tn
namespace Rv
end Rv
namespace Tn
end Tn
namespace Rv
end Rv
namespace My
open PySem L2
local macro_rules | `(tactic| walk_at "new") => `(tactic| (generalize hE : upd _ _ _ = Hn; have On := Ow.mkE (by assumption) (by assumption) hE rfl; clear hE; revert On; revert Hn))
local macro_rules | `(tactic| walk_at "put") => `(tactic| (generalize hE : upd _ _ _ = Hn; (first | have On := Ow.mG (by assumption) 0 rfl hE rfl | have On := Ow.mG (by assumption) 1 rfl hE rfl | have On := Ow.mG (by assumption) 2 rfl hE rfl | have On := Ow.mG (by assumption) 3 rfl hE rfl | have On := Ow.mG (by assumption) 4 rfl hE rfl | have On := Ow.mG (by assumption) 5 rfl hE rfl); clear hE; (try simp only [List.set_cons_zero, List.set_cons_succ] at On); revert On; revert Hn))
set_option hygiene false
local macro_rules | `(tactic| walk_at "get") => `(tactic| first | assumption | exact O.get 0 | exact O.get 1 | exact O.get 2 | exact O.get 3 | exact O.get 4 | exact O.get 5 | exact O.get 6 | exact O.get 7 | exact O.get 8 | exact O.get 9 | exact O.get 10 | exact O.get 11 | exact O.get 12 | fail)
local macro_rules | `(tactic| walk_at "sq") => `(tactic| first | assumption | exact O.sq 0 | exact O.sq 1 | exact O.sq 2 | exact O.sq 3 | exact O.sq 4 | exact O.sq 5 | exact O.sq 6 | exact O.sq 7 | exact O.sq 8 | exact O.sq 9 | exact O.sq 10 | exact O.sq 11 | exact O.sq 12 | exact SqL.mo (by assumption) O.same | exact SqL.mo (by assumption) (s0.trans O.same) | fail)
local macro_rules | `(tactic| walk_at "sqT") => `(tactic| first | assumption | exact O.sqT 0 | exact O.sqT 1 | exact O.sqT 2 | exact O.sqT 3 | exact O.sqT 4 | exact O.sqT 5 | exact O.sqT 6 | exact O.sqT 7 | exact SqT.mo (by assumption) O.same | exact SqT.mo (by assumption) (s0.trans O.same) | fail)
local macro_rules | `(tactic| walk_at "at") => `(tactic| first | rfl | exact cX (by assumption) | exact gP (by assumption) | exact ints_atZ (by omega) (by omega) | exact lastV _ _ | exact ints_last (by omega) | exact ints_atZ (ns := [_, _]) (by omega) (by simp only [List.length_cons, List.length_nil]; omega) | exact ints_atZ (ns := [_, _, _]) (by omega) (by simp only [List.length_cons, List.length_nil]; omega) | exact ints_atZ (ns := [_, _, _, _]) (by omega) (by simp only [List.length_cons, List.length_nil]; omega) | exact ints_atZ (ns := [_, _, _, _, _]) (by omega) (by simp only [List.length_cons, List.length_nil]; omega) | exact ints_atZ (ns := [_, _, _, _, _, _]) (by omega) (by simp only [List.length_cons, List.length_nil]; omega) | exact ints_atZ (ns := [_, _, _, _, _, _, _]) (by omega) (by simp only [List.length_cons, List.length_nil]; omega) | exact ints_atZ (ns := [_, _, _, _, _, _, _, _]) (by omega) (by simp only [List.length_cons, List.length_nil]; omega) | fail)
local macro_rules | `(tactic| walk_at "c") => `(tactic| first | omega | (simp only [List.length_map]; omega) | exact szl | (show (0 : Int) < _; decide) | (show (0 : Int) < _; omega) | exact ⟨by decide, by decide⟩ | exact .inl ⟨by decide, by decide⟩ | exact .inr ⟨by decide, by decide⟩ | exact ⟨by decide, by decide, by decide⟩ | exact .inl ⟨by omega, by omega⟩ | exact .inr ⟨by omega, by omega⟩ | exact ⟨by omega, by omega⟩ | (split <;> omega) | fail)
local macro_rules | `(tactic| walk_at "ty") => `(tactic| first | exact .int _ | exact .bl _ | exact .lst (by walk_at "get") | exact .tup (by walk_at "get") | exact .non | fail)
local macro_rules | `(tactic| walk_at "kit") => `(tactic| first | exact Dw K | exact Dy K | exact Dv K | exact kit_bb K | exact kit_bi K | exact kit_tt K | fail)
local macro_rules | `(tactic| walk_at "sz") => `(tactic| exact bH (by (try simp only [List.length_map, List.length_append, List.length_cons, List.length_nil]); omega))
local macro_rules | `(tactic| walk_at "s") => `(tactic| first | refine Ve ?_ | refine ⟨_, rfl, ?_⟩ | refine ⟨_, _, rfl, rfl, ?_⟩ | refine And.intro rfl ?_ | refine And.intro (by walk_at "c") ?_ | refine ⟨_, _, _, _, rfl, rfl, (show SqL _ _ _ _ by walk_at "sq"), (show atI _ _ = some _ by walk_at "at"), ?_⟩ | refine ⟨_, _, _, _, rfl, rfl, (show SqT _ _ _ _ by walk_at "sqT"), (show atI _ _ = some _ by walk_at "at"), ?_⟩ | refine ⟨_, _, rfl, .inl (show SqL _ _ _ _ by walk_at "sq"), ?_⟩ | refine ⟨_, _, rfl, .inr (show SqT _ _ _ _ by walk_at "sqT"), ?_⟩ | refine ⟨_, _, rfl, (show SqL _ _ _ _ by walk_at "sq"), ?_⟩ | refine And.intro ⟨_, (show SqL _ _ _ _ by walk_at "sq")⟩ ?_ | refine And.intro (.inl ⟨rfl, _, (show SqL _ _ _ _ by walk_at "sq")⟩) ?_ | refine ⟨_, _, _, _, rfl, (show rR _ _ _ _ by walk_at "ty"), (show PySem.W.kitOne _ _ _ = some _ by walk_at "kit"), ?_⟩ | refine ⟨_, _, rfl, ?_⟩ | fail)
local macro_rules | `(tactic| walk_at "w") => `(tactic| repeat walk_at "s")
local macro_rules | `(tactic| walk_at "if") => `(tactic| first | refine nJ ?_ | refine nM ?_ | refine ifN ?_ | refine ifI (fun hc => ?_) (fun hc => ?_) | refine ifD (fun hc => ?_) (fun hc => ?_) | refine ifB (fun hc => ?_) (fun hc => ?_) | fail)
local macro_rules | `(tactic| walk_at "go") => `(tactic| repeat' (first | walk_at "if" | walk_at "s" | fail))
local macro_rules | `(tactic| walk_at "nw") => `(tactic| (generalize hE : upd _ _ _ = Hn; replace O := Ow.mkE O (by assumption) hE rfl; clear hE))
local macro_rules | `(tactic| walk_at "pt") => `(tactic| (generalize hE : upd _ _ _ = Hn; (first | replace O := Ow.mG O 0 rfl hE rfl | replace O := Ow.mG O 1 rfl hE rfl | replace O := Ow.mG O 2 rfl hE rfl | replace O := Ow.mG O 3 rfl hE rfl | replace O := Ow.mG O 4 rfl hE rfl | replace O := Ow.mG O 5 rfl hE rfl | replace O := Ow.mG O 6 rfl hE rfl | replace O := Ow.mG O 7 rfl hE rfl); clear hE; (try simp only [List.set_cons_zero, List.set_cons_succ] at O)))
local macro_rules | `(tactic| walk_at "app") => `(tactic| (refine ⟨_, _, _, rfl, rfl, (by walk_at "get"), (by walk_at "sz"), ?_⟩; walk_at "pt"))
local macro_rules | `(tactic| walk_at "elt") => `(tactic| (refine ⟨_, (by walk_at "get"), (by walk_at "sz"), ?_⟩; walk_at "pt"))
local macro_rules | `(tactic| walk_at "frz") => `(tactic| (obtain ⟨Hn, On, sn, en⟩ := O.frz; clear O; have O := On; clear On; (try replace s0 := s0.mo sn); (try replace d0 := d0.mo sn); (try replace d1 := d1.mo sn); (try replace d2 := d2.mo sn); (try replace d3 := d3.mo sn); (try replace d4 := d4.mo sn); (try replace d5 := d5.mo sn); (try replace d6 := d6.mo sn); (try replace d7 := d7.mo sn)))
local macro_rules | `(tactic| walk_at "mo") => `(tactic| ((try simp only [List.eraseIdx_cons_zero, List.eraseIdx_cons_succ] at O); (try replace s0 := s0.mo sn); (try replace d0 := d0.mo sn); (try replace d1 := d1.mo sn); (try replace d2 := d2.mo sn); (try replace d3 := d3.mo sn); (try replace d4 := d4.mo sn); (try replace d5 := d5.mo sn); (try replace d6 := d6.mo sn); (try replace d7 := d7.mo sn)))
local macro_rules | `(tactic| walk_at "er") => `(tactic| simp only [List.eraseIdx_cons_zero, List.eraseIdx_cons_succ] at O)
local macro_rules | `(tactic| walk_at "jn") => `(tactic| simp only [List.cons_append, List.nil_append] at O)
def top (i:Nat):Stmt:=PySem.Challenge.pw_sluice_k62_ponds_put.main.body.getD i (.Pass ⟨0,0,0,0⟩)
abbrev iD:Stmt:=top 22
theorem oJ:aN ["below","reach","way"] ["below","reach"] (aj iD):=⟨rfl,rfl,rfl,by decide +kernel,rfl,by decide +kernel,by decide +kernel⟩
def Dc (K:PySem.W.Frag):Sp:=fun vs H Q _=>∃ (a:Addr) (r:List Int) (p:Int),vs=[.ref a,.int p]∧SqL K H a (r.map V.int)∧Rv.lU r∧0≤p∧p<r.length∧r.length≤900 ∧
  Ug H (fun xs=>xs=(Rv.walk r p).map V.int) Q
theorem Ak (pre:List Int) (z:Int):atI ((pre++[z]).map V.int) (-1)=some (V.int z):=by
  rw [List.map_append];exact CJ _ _
theorem Pu {f:Addr} {fd:FuncData} (D:Df K mg "way_of" iD ["below","reach"] f fd) (C:Mth mg):bM P w K mg base CX0 1 f fd ["below","reach"] (Dc K):=by
  obtain ⟨tM,hMOUTH⟩:=C.MOUTH
  refine D.F.ok oJ (fun vs H Q E h=>?_) (fun cdv A outer s H vs Q E hr h=>?_)
  · obtain ⟨a,r,p,rfl,_⟩:=h;rfl
  · obtain ⟨a,r,p,rfl,hS,hR,p0,p1,hn,q⟩:=h
    refine ⟨_,(au (bh (i:=2) oJ.nd rfl (Or.inl rfl) (cI (aC (pv 1) aq)))
      (au (Bg PassesOwn.never (aY p8 (cG aX (pv 0) (cG aX (pv 2) (lZ jz aA) (fun _ _=>rfl)) (fun _ _=>rfl)) (fH (v:=.int (-1)) rfl hMOUTH ⟨_,rfl⟩) (bx _))
        (aD (bV (j4 PySem.F.plainAttrs_list PySem.F.slot_list_append PySem.F.type_list_append dg (pv 2) (aC (cG aX (pv 0) (cG aX (pv 2) (lZ jz aA) (fun _ _=>rfl)) (fun _ _=>rfl)) aq)))))
      (aD (bC (pv 2))))),?_⟩
    refine ⟨_,rfl,(by show 1≤sizeLine;decide),fun lw hlw=>?_⟩
    refine ⟨fun m σ H'=>∃ (pre:List Int) (z:Int),σ=[some (.ref a),some (.int p),some (.ref lw)]∧Same H H'∧H' lw=some (.lst ((pre++[z]).map V.int))∧0≤z∧z<r.length∧pre++Rv.walk r z=Rv.walk r p∧m=Rv.mea r z,
      ⟨_,[],p,rfl,(Same.refl H).upd hlw,aZ,p0,p1,rfl,rfl⟩,?_⟩
    rintro m σ H2 ⟨pre,z,rfl,s2,h2,z0,z1,e,rfl⟩
    have g:=Rv.jk z0 z1
    have hlen:pre.length + (Rv.walk r z).length≤r.length + 1:=by
      have:=Rv.Az r p
      rw [← e,List.length_append] at this;exact this
    refine ⟨_,rfl,_,rfl,_,rfl,lw,_,_,_,rfl,rfl,SqL.of h2,Ak pre z,a,_,_,_,rfl,rfl,s2.seq hS,lB z0 g,rfl,_,rfl,?_⟩
    rcases hR.step z0 z1 with hm | ⟨n0,n1⟩
    · rw [hm]
      refine Qm rfl ?_
      refine ⟨_,rfl,q lw H2 _ s2 hlw h2 ?_⟩
      have ew:Rv.walk r z=[z]:=by rw [Rv.iM hR z0 z1,hm,Rv.qC]
      rw [← e,ew]
    · have hd:(!decide (V.int (Rv.nxt r z)=V.int (-1)))=true:=by
        have:¬ Rv.nxt r z=-1:=by omega
        simp [this]
      rw [hd]
      refine nJ ?_
      refine ⟨fun σ' H'=>∃ m',m'<Rv.mea r z∧∃ (pre:List Int) (z:Int),σ'=[some (.ref a),some (.int p),some (.ref lw)]∧Same H H'∧H' lw=some (.lst ((pre++[z]).map V.int))∧0≤z∧z<r.length∧pre++Rv.walk r z=Rv.walk r p∧m'=Rv.mea r z,fun _ _ x=>x,?_⟩
      refine ⟨_,rfl,.inl ⟨rfl,_,SqL.of h2⟩,_,rfl,_,rfl,_,rfl,lw,_,_,_,rfl,rfl,SqL.of h2,Ak pre z,a,_,_,_,rfl,rfl,s2.seq hS,lB z0 g,lw,_,_,rfl,rfl,h2,bH ?_,?_⟩
      · rw [List.length_map,List.length_append]
        have:1≤(Rv.walk r z).length:=by rw [Rv.iM hR z0 z1];exact Nat.succ_le_succ (Nat.zero_le _)
        show pre.length + 1≤_
        omega
      · refine ⟨_,Rv.Qd hR z0 z1,pre++[z],Rv.nxt r z,rfl,s2.upd hlw,?_,n0,n1,?_,rfl⟩
        · rw [aZ,List.map_append (l₁:=pre++[z])];rfl
        · rw [List.append_assoc]
          show pre++(z :: Rv.walk r (Rv.nxt r z))=_
          rw [← Rv.iM hR z0 z1];exact e
abbrev bK:Stmt:=top 20
theorem eY:aN ["below","start","reach","step"] ["below","start"] (aj bK):=⟨rfl,rfl,rfl,by decide +kernel,rfl,by decide +kernel,by decide +kernel⟩
def qP (K:PySem.W.Frag):Sp:=fun vs H Q _=>∃ (a:Addr) (r:List Int) (i:Nat),vs=[.ref a,.int (i:Int)]∧SqL K H a (r.map V.int)∧Rv.inB r∧i<r.length∧r.length≤900∧Q (.bl (decide (Rv.jW r r.length (i:Int)=-1))) H
structure Cst (mg:Str→Option Value):Prop where
  MOUTH:∃ t,mg "MOUTH"=some (.int (-1) t)
  MOST_REACHES:∃ t,mg "MOST_REACHES"=some (.int 40 t)
theorem Bs {f:Addr} {fd:FuncData} (D:Df K mg "comes_to_mouth" bK ["below","start"] f fd) (B:Blt mg) (C:Cst mg):bM P w K mg base CX0 1 f fd ["below","start"] (qP K):=by
  obtain ⟨tM,hMOUTH⟩:=C.MOUTH
  refine D.F.ok eY (fun vs H Q E h=>?_) (fun cdv A outer s H vs Q E hr h=>?_)
  · obtain ⟨a,r,i,rfl,_⟩:=h;rfl
  · obtain ⟨a,r,i,rfl,hS,hB,hi,hn,q⟩:=h
    refine ⟨_,(au (bh (i:=2) eY.nd rfl (Or.inl rfl) (pv 1))
      (au (kj PassesOwn.never rfl (gG rfl B.range (aC (aJ aF rfl B.len PySem.boot_len (aC (pv 0) aq)) aq)) (bD (i:=3) eY.nd rfl (Or.inl rfl))
        (au (bh (i:=2) eY.nd rfl (Or.inl rfl) (cG aX (pv 0) (pv 2) (fun _ _=>rfl)))
        (aD (eN (aY jy (pv 2) (fH (v:=.int (-1)) rfl hMOUTH ⟨_,rfl⟩) (bx _))
          (aD (bC gk))
          bA))))
      (aD (bC gk)))),?_⟩
    refine ⟨_,rfl,_,rfl,a,_,rfl,.inl hS,_,rfl,by rw [List.length_map];omega,by rw [List.length_map];omega,?_⟩
    rw [List.length_map,Int.toNat_natCast]
    refine iQ (n:=r.length) (fun j σ H2=>∃ (v:Option V),σ=[some (.ref a),some (.int (i:Int)),some (.int (Rv.jW r j (i:Int))),v]∧H=H2∧(j=0∨Rv.jW r j (i:Int)≠-1)) ⟨none,rfl,rfl,.inl rfl⟩ ?_ ?_
    · rintro j σ H2 hj ⟨v,rfl,rfl,hne⟩
      obtain ⟨b0,b1⟩:=Rv.rF hB (p:=(i:Int)) (by omega) (by omega) j
      have hne':Rv.jW r j (i:Int)≠-1:=by
        rcases hne with e | e
        · subst e
          show (i:Int)≠-1
          omega
        · exact e
      have g:=Rv.jk (r:=r) (p:=Rv.jW r j (i:Int)) (by omega) b1
      have es:Rv.nxt r (Rv.jW r j (i:Int))=Rv.jW r (j + 1) (i:Int):=by
        rw [Rv.jq];unfold Rv.stp;rw [if_neg hne']
      rw [es] at g
      refine ⟨_,rfl,_,rfl,a,_,_,_,rfl,rfl,hS,lB (by omega) g,_,rfl,rfl,_,rfl,?_⟩
      refine Ox (fun h=>?_) (fun h=>?_)
      · have e:Rv.jW r (j + 1) (i:Int)=-1:=by
          have:=of_decide_eq_true h
          exact V.int.inj this
        have e2:Rv.jW r r.length (i:Int)=-1:=by
          have:=Rv.qG r (i:Int) e (r.length - (j + 1))
          rw [show j + 1 + (r.length - (j + 1))=r.length by omega] at this
          exact this
        rw [decide_eq_true e2] at q
        exact q
      · refine ⟨_,rfl,rfl,.inr fun e=>h (decide_eq_true (by rw [e]))⟩
    · rintro σ H2 ⟨v,rfl,rfl,hne⟩
      have e:¬ Rv.jW r r.length (i:Int)=-1:=by
        rcases hne with e | e
        · omega
        · exact e
      rw [decide_eq_false e] at q
      exact q
abbrev dY:Stmt:=top 21
theorem pX:aN ["below"] ["below"] (aj dY):=⟨rfl,rfl,rfl,by decide +kernel,rfl,by decide +kernel,by decide +kernel⟩
def Dh (K:PySem.W.Frag):Sp:=fun vs H Q _=>∃ (a:Addr) (r:List Int),vs=[.ref a]∧SqL K H a (r.map V.int)∧r.length≤900∧∀ H',Same H H'→Q (.bl (Rv.isR r)) H'
theorem rQ {α:Type} {p:α→Bool} {l:List α}:(l.map p).all id=l.all p:=by
  rw [List.all_map];rfl
theorem MK (r:List Int):(r.all fun x=>decide (-1≤x) && decide (x<(r.length:Int)))=decide (Rv.inB r):=by
  rw [Bool.eq_iff_iff]
  simp only [List.all_eq_true,Bool.and_eq_true,decide_eq_true_eq]
  exact Iff.rfl
theorem PJ {f fC:Addr} {fd fdC:FuncData} (D:Df K mg "is_river" dY ["below"] f fd) (B:Blt mg) (C:Cst mg) (cJ:Df K mg "comes_to_mouth" bK ["below","start"] fC fdC)
    (kZ:bM P w K mg base CX0 1 fC fdC ["below","start"] (qP K)):bM P w K mg base CX0 2 f fd ["below"] (Dh K):=by
  obtain ⟨tM,hMOUTH⟩:=C.MOUTH
  obtain ⟨tR,hMOST_REACHES⟩:=C.MOST_REACHES
  refine D.F.ok pX (fun vs H Q E h=>?_) (fun cdv A outer s H vs Q E hr h=>?_)
  · obtain ⟨a,r,rfl,_⟩:=h;rfl
  · obtain ⟨a,r,rfl,hS,hn,q⟩:=h
    refine ⟨_,(au (eN (jC (iU jJ jJ aA (aJ aF rfl B.len PySem.boot_len (aC (pv 0) aq)) (fH (v:=.int (40)) rfl hMOST_REACHES ⟨_,rfl⟩)))
        (aD (bC gk))
        bA)
      (au (eN (jC (jB (aJ (nZ rfl) rfl B.all PyProof.Rows.boot_all (aC (jZ (aj dY) rfl ["below"] rfl ["reach","below"] [none,some 0] (by decide +kernel) (by decide +kernel) (by decide +kernel) rfl (jY (pv 0)) (fun _ _ _=>(bD (i:=0) (show (["reach","below"]:List Str).Nodup by decide +kernel) rfl (Or.inl rfl))) (fun _ _ _=>jH) (fun _ _ _=>(nu jJ nC (fH (v:=.int (-1)) rfl hMOUTH ⟨_,rfl⟩) (pv 0) (aJ (nY (K:=K) rfl) rfl B.len PySem.boot_len (aC (pv 1) aq))))) aq))))
        (aD (bC gk))
        bA)
      (aD (bC (aJ (nZ rfl) rfl B.all PyProof.Rows.boot_all (aC (jZ (aj dY) rfl ["below"] rfl ["start","below"] [none,some 0] (by decide +kernel) (by decide +kernel) (by decide +kernel) rfl (gG rfl B.range (aC (aJ aF rfl B.len PySem.boot_len (aC (pv 0) aq)) aq)) (fun _ _ _=>(bD (i:=0) (show (["start","below"]:List Str).Nodup by decide +kernel) rfl (Or.inl rfl))) (fun _ _ _=>jH) (fun _ _ _=>(aW kZ (hr.mono (by decide)) rfl cJ.m cJ.F.kp cJ.b .nil bZ (aC (pv 1) (aC (pv 0) aq))))) aq)))))),?_⟩
    refine ⟨_,rfl,a,_,rfl,.inl hS,_,_,rfl,rfl,_,rfl,?_⟩
    rw [List.length_map]
    have no1:¬ (1≤r.length∧r.length≤40)→Q (.bl false) H:=fun h=>by
      have e:Rv.isR r=false:=by unfold Rv.isR;rw [decide_eq_false h];rfl
      have:=q H (Same.refl H)
      rw [e] at this
      exact this
    refine Ox (fun h1=>⟨_,_,rfl,rfl,_,rfl,?_⟩) (fun h1=>⟨_,rfl,?_⟩)
    case refine_2=>exact nJ (no1 fun z=>h1 (decide_eq_true (by omega)))
    have g1:=of_decide_eq_true h1
    by_cases h2:r.length≤40
    case neg =>
      rw [decide_eq_false (by omega)]
      exact nJ (no1 fun z=>h2 z.2)
    rw [decide_eq_true (by omega)]
    refine nM ?_
    refine ⟨_,rfl,a,rfl,⟨_,hS⟩,fun acc hacc=>?_⟩
    refine jU (K:=K) (a:=a) (xs:=r.map V.int) (fun i τ H2=>∃ v,τ=[v,some (.ref a)]∧Same H H2∧H2 acc=some (.lst (((r.take i).map fun x=>decide (-1≤x) && decide (x<(r.length:Int))).map V.bl)))
      ⟨none,rfl,(Same.refl H).upd hacc,by rw [aZ];rfl⟩ (fun i τ H2 _ ⟨_,_,s2,_⟩=>s2.seq hS) ?_ ?_
    · rintro i y τ H2 hi ⟨v,rfl,s2,h2'⟩
      obtain ⟨z,hz,rfl⟩:=ints_get hi
      have hil:i<r.length:=(List.getElem?_eq_some_iff.mp hz).1
      have e:∀ b:Bool,b=(decide (-1≤z) && decide (z<(r.length:Int)))→((r.take i).map fun x=>decide (-1≤x) && decide (x<(r.length:Int))).map V.bl++[V.bl b]=((r.take (i + 1)).map fun x=>decide (-1≤x) && decide (x<(r.length:Int))).map V.bl:=fun b hb=>by
        rw [List.take_add_one,hz,List.map_append,List.map_append,hb];rfl
      have hsz:(((r.take i).map fun x=>decide (-1≤x) && decide (x<(r.length:Int))).map V.bl).length<sizeLine:=bH (by rw [List.length_map,List.length_map,List.length_take];omega)
      refine Ou ?_
      refine ⟨_,rfl,_,_,rfl,rfl,_,rfl,?_⟩
      refine Ox (fun h3=>?_) (fun h3=>?_)
      · refine ⟨_,rfl,a,_,rfl,.inl (s2.seq hS),_,_,rfl,rfl,_,h2',hsz,_,rfl,s2.upd hacc,?_⟩
        rw [aZ,e _ (by rw [h3,List.length_map];rfl)]
      · refine ⟨_,h2',hsz,_,rfl,s2.upd hacc,?_⟩
        have h3':decide (-1≤z)=false:=by simpa using h3
        rw [aZ,e false (by rw [h3'];rfl)]
    · rintro τ H2 ⟨v,rfl,s2,h2'⟩
      rw [List.length_map,List.take_length] at h2'
      refine ⟨acc,_,rfl,SqL.of h2',_,rfl,?_⟩
      rw [rQ,MK]
      by_cases hB:Rv.inB r
      case neg =>
        rw [decide_eq_false hB]
        refine nJ ?_
        have e:Rv.isR r=false:=by unfold Rv.isR;rw [decide_eq_false hB,Bool.and_false];rfl
        have:=q H2 s2
        rw [e] at this
        exact this
      rw [decide_eq_true hB]
      refine nM ?_
      refine ⟨_,rfl,a,_,rfl,.inl (s2.seq hS),_,rfl,by rw [List.length_map];omega,by rw [List.length_map];omega,fun ac2 hac2=>?_⟩
      rw [List.length_map,Int.toNat_natCast]
      have nac2:H ac2=none:=s2.free hac2
      refine j7 (fun i τ H3=>∃ v,τ=[v,some (.ref a)]∧Same H H3∧H3 ac2=some (.lst (((List.range i).map fun (j:Nat)=>decide (Rv.jW r r.length (j:Int)=-1)).map V.bl))) ⟨none,rfl,s2.upd nac2,by rw [aZ];rfl⟩ ?_ ?_
      · rintro i τ H3 hi ⟨v,rfl,s3,h3⟩
        rw [show (0:Int) + (i:Int)=(i:Int) by omega]
        refine Ou ?_
        refine ⟨_,rfl,_,rfl,a,r,i,rfl,s3.seq hS,hB,hi,hn,?_⟩
        refine ⟨_,h3,bH (by rw [List.length_map,List.length_map,List.length_range];omega),_,rfl,s3.upd nac2,?_⟩
        rw [aZ,List.range_succ,List.map_append,List.map_append];rfl
      · rintro τ H3 ⟨v,rfl,s3,h3⟩
        refine ⟨ac2,_,rfl,SqL.of h3,?_⟩
        have e:(((List.range r.length).map fun (j:Nat)=>decide (Rv.jW r r.length (j:Int)=-1)).all id)=Rv.isR r:=by
          unfold Rv.isR
          rw [rQ,decide_eq_true (show 1≤r.length∧r.length≤40 from ⟨by omega,h2⟩),decide_eq_true hB,Bool.true_and,Bool.true_and,Bool.eq_iff_iff]
          simp only [List.all_eq_true,List.mem_range,decide_eq_true_eq]
        rw [e]
        exact q H3 s3
abbrev fj:Stmt:=top 5
theorem pW:aN ["amount"] ["amount"] (aj fj):=⟨rfl,rfl,rfl,by decide +kernel,rfl,by decide +kernel,by decide +kernel⟩
def mX:Sp:=fun vs H Q _=>∃ (z:Int),vs=[.int z]∧∀ b:Bool,(b=true↔(0≤z∧z≤1000000000000))→Q (.bl b) H
theorem Bm {f:Addr} {fd:FuncData} (D:Df K mg "is_water" fj ["amount"] f fd) (CW:∃ t,mg "MOST_WATER"=some (.int 1000000000000 t)):bM P w K mg base CX0 1 f fd ["amount"] mX:=by
  obtain ⟨tW,hMOST_WATER⟩:=CW
  refine D.F.ok pW (fun vs H Q E h=>?_) (fun cdv A outer s H vs Q E hr h=>?_)
  · obtain ⟨_,rfl,_⟩:=h;rfl
  · obtain ⟨z,rfl,q⟩:=h
    refine ⟨_,(aD (bC (nu jJ jJ aA (pv 0) (fH (v:=.int (1000000000000)) rfl hMOST_WATER ⟨_,rfl⟩)))),?_⟩
    walk_at "go"
    all_goals refine q _ ?_
    all_goals simp only [decide_eq_true_eq,Bool.false_eq_true,true_iff,false_iff]
    all_goals omega
abbrev dw:Stmt:=top 25
theorem fZ:aN ["below","one","day","start","back","most"] ["below","one"] (aj dw):=⟨rfl,rfl,rfl,by decide +kernel,rfl,by decide +kernel,by decide +kernel⟩
def Ao (r:List Int) (l:Lic):Prop:=(0≤l.day∧l.day≤1000000∧0≤l.start∧l.start<r.length∧0≤l.most∧l.most≤1000000000000)∧(l.back=-1∨l.back∈(Rv.walk r l.start).drop 1)
def qL (K:PySem.W.Frag) (T:fJ):Sp:=fun vs H Q _=>∃ (a t:Addr) (r:List Int) (l:Lic),vs=[.ref a,.ref t]∧SqL K H a (r.map V.int)∧Rv.lU r∧r.length≤900∧SqT K H t (Lr l)∧TabsOk T H∧∀ (b:Bool) (H':Hp),aR T H H'→(b=true↔Ao r l)→Q (.bl b) H'
theorem Bq {f f1 f2:Addr} {fd fd1 fd2:FuncData} (D:Df K mg "is_licence" dw ["below","one"] f fd) (B:Blt mg) (C:Mth mg) (CD:∃ t,mg "LAST_DAY"=some (.int 1000000 t))
    (dj:Df K mg "is_water" fj ["amount"] f1 fd1) (j8:bM P w K mg base CX0 1 f1 fd1 ["amount"] mX)
    (jw:Df K mg "way_of" iD ["below","reach"] f2 fd2) (CQ:bM P w K mg base CX0 1 f2 fd2 ["below","reach"] (Dc K)):bM P w K mg base CX0 2 f fd ["below","one"] (qL K T):=by
  obtain ⟨tM,hMOUTH⟩:=C.MOUTH
  obtain ⟨tD,hLAST_DAY⟩:=CD
  refine D.F.ok fZ (fun vs H Q E h=>?_) (fun cdv A outer s H vs Q E hr h=>?_)
  · obtain ⟨_,_,_,_,rfl,_⟩:=h;rfl
  · obtain ⟨a,t,r,l,rfl,hA,hR,hn,hT,tk,q⟩:=h
    have hml:((r.map V.int).length:Int)=(r.length:Int):=by rw [List.length_map]
    have O:=Ow.refl tk
    have s0:=O.same
    have no:¬ (0≤l.day∧l.day≤1000000∧0≤l.start∧l.start<r.length∧0≤l.most∧l.most≤1000000000000)→Q (.bl false) H:=fun h=>q _ _ O.same ⟨(fun e=>by cases e),fun z=>absurd z.1 h⟩
    refine ⟨_,(au (kE (pv 1) (oX rfl (cU (bD (i:=2) fZ.nd rfl (Or.inl rfl)) (cU (bD (i:=3) fZ.nd rfl (Or.inl rfl)) (cU (bD (i:=4) fZ.nd rfl (Or.inl rfl)) (cU (bD (i:=5) fZ.nd rfl (Or.inl rfl)) lK))))))
      (au (eN (jC (PW.pt (pw_and (iU jJ jJ aA (pv 2) (fH (v:=.int (1000000)) rfl hLAST_DAY ⟨_,rfl⟩)) (pw_and (iU jJ nC aA (pv 3) (aJ aF rfl B.len PySem.boot_len (aC (pv 0) aq))) (pw_and1 (jB (aW j8 (hr.mono (by decide)) rfl dj.m dj.F.kp dj.b .nil bZ (aC (pv 5) aq))))))))
        (aD (bC gk))
        bA)
      (aD (bC (Uy (iI jy (pv 4) (fH (v:=.int (-1)) rfl hMOUTH ⟨_,rfl⟩) (bx _)) (oY (iI uM (pv 4) (nq pU (aW CQ (hr.mono (by decide)) rfl jw.m jw.F.kp jw.b .nil bZ (aC (pv 0) (aC (pv 3) aq))) (lJ aA) Mg) (by rfl)))))))),?_⟩
    refine ⟨_,rfl,t,_,rfl,hT,rfl,_,_,rfl,_,_,rfl,_,_,rfl,_,_,rfl,rfl,?_⟩
    walk_at "go"
    all_goals first | (refine no ?_;omega) | skip
    intro b hb
    walk_at "go"
    · have hm:=hb.mp (by assumption)
      have num:0≤l.day∧l.day≤1000000∧0≤l.start∧l.start<r.length∧0≤l.most∧l.most≤1000000000000:=by omega
      exact q _ _ O.same ⟨fun _=>⟨num,.inl (by omega)⟩,fun _=>rfl⟩
    · have hm:=hb.mp (by assumption)
      have num:0≤l.day∧l.day≤1000000∧0≤l.start∧l.start<r.length∧0≤l.most∧l.most≤1000000000000:=by omega
      refine ⟨a,r,l.start,rfl,hA,hR,by omega,by omega,hn,O.got fun lw H2 xs O e=>?_⟩
      subst e
      refine ⟨1,rfl,lw,_,rfl,O.sq 0,fun l1 h1=>?_⟩
      walk_at "nw"
      rw [show tK ((Rv.walk r l.start).map V.int) (some 1) none=((Rv.walk r l.start).drop 1).map V.int from Cu _ 1] at O
      refine ⟨l1,_,rfl,.inl (O.sq 0),rfl,z8 _,?_⟩
      rw [if_neg Bool.false_ne_true,MF]
      refine q _ _ O.same ?_
      rw [decide_eq_true_iff]
      exact ⟨fun h=>⟨num,.inr h⟩,fun h=>h.2.resolve_left (by omega)⟩
    · refine no fun z=>?_
      have:=hb.mpr ⟨z.2.2.2.2.1,z.2.2.2.2.2⟩
      simp_all
abbrev cu:Stmt:=top 38
theorem lG:aN ["script","k"] ["script","k"] (aj cu):=⟨rfl,rfl,rfl,by decide +kernel,rfl,by decide +kernel,by decide +kernel⟩
def uh (K:PySem.W.Frag):Sp:=fun vs H Q _=>∃ (a:Addr) (ns:List Int) (k:Nat),vs=[.ref a,.int (k:Int)]∧SqL K H a (ns.map V.int)∧Q (.int (ns.getD k 0)) H
theorem Ms {f:Addr} {fd:FuncData} (D:Df K mg "_law_cell_at" cu ["script","k"] f fd) (B:Blt mg):bM P w K mg base CX0 1 f fd ["script","k"] (uh K):=by
  refine D.F.ok lG (fun vs H Q E h=>?_) (fun cdv A outer s H vs Q E hr h=>?_)
  · obtain ⟨a,ns,k,rfl,_⟩:=h;rfl
  · obtain ⟨a,ns,k,rfl,hS,q⟩:=h
    refine ⟨_,(au (eN (aY nC (pv 1) (aJ aF rfl B.len PySem.boot_len (aC (pv 0) aq)) (bx _))
        (aD (bC (cG aX (pv 0) (pv 1) (fun _ _=>rfl))))
        bA)
      (aD (bC aA))),?_⟩
    refine ⟨_,rfl,_,rfl,a,_,rfl,.inl hS,_,_,rfl,rfl,_,rfl,?_⟩
    refine Ox (fun h=>?_) (fun h=>?_)
    · have hk:k<ns.length:=by
        have:=of_decide_eq_true h
        rw [List.length_map] at this;omega
      have e:ns[k]?=some (ns.getD k 0):=by rw [List.getD_eq_getElem?_getD,List.getElem?_eq_getElem hk];rfl
      exact ⟨_,rfl,_,rfl,a,_,_,_,rfl,rfl,hS,cX e,q⟩
    · have hk:¬ k<ns.length:=fun z=>h (decide_eq_true (by rw [List.length_map];omega))
      have e:ns.getD k 0=0:=by rw [List.getD_eq_getElem?_getD,List.getElem?_eq_none (by omega)];rfl
      rw [e] at q
      exact q
abbrev bI:Stmt:=top 40
theorem jA:aN ["cell","k","mark"] ["cell","k"] (aj bI):=⟨rfl,rfl,rfl,by decide +kernel,rfl,by decide +kernel,by decide +kernel⟩
def peb (c k:Int):Int:=((c % 8589934583 + 4409) * (2 * k + 3) + 90001 * k) ^ 3 % 68719476731 / 32
theorem uH (c k:Int):0≤peb c k:=Int.ediv_nonneg (Int.emod_nonneg _ (by decide)) (by decide)
theorem sO (c k:Int) (h0:0≤k) (h1:k≤1000):((c % 8589934583 + 4409) * (2 * k + 3) + 90001 * k).natAbs<2 ^ 64:=by
  have a0:=Int.emod_nonneg c (show (8589934583:Int)≠0 by decide)
  have a1:=Int.emod_lt_of_pos c (show (0:Int)<8589934583 by decide)
  have hp:0≤(c % 8589934583 + 4409) * (2 * k + 3):=Int.mul_nonneg (by omega) (by omega)
  have hq:(c % 8589934583 + 4409) * (2 * k + 3)≤8589939000 * 2003:=Int.mul_le_mul (by omega) (by omega) (by omega) (by decide)
  omega
def oF:Sp:=fun vs H Q _=>∃ (c k:Int),vs=[.int c,.int k]∧0≤k∧k≤1000∧Q (.int (peb c k)) H
theorem Pz {f:Addr} {fd:FuncData} (D:Df K mg "_law_pebble" bI ["cell","k"] f fd):bM P w K mg base CX0 1 f fd ["cell","k"] oF:=by
  refine D.F.ok jA (fun vs H Q E h=>?_) (fun cdv A outer s H vs Q E hr h=>?_)
  · obtain ⟨c,k,rfl,_⟩:=h;rfl
  · obtain ⟨c,k,rfl,h0,h1,q⟩:=h
    refine ⟨_,(au (bh (i:=2) jA.nd rfl (Or.inl rfl) (aV gq (aV rz (aV gq (aV cZ (pv 0) aA) aA) (aV gq (aV rz aA (pv 1)) aA)) (aV rz aA (pv 1))))
      (aD (bC (aV iu (aV cZ (aV mL (pv 2) aA) aA) aA)))),?_⟩
    refine ⟨_,rfl,_,_,rfl,rfl,(by show (0:Int)<8589934583;decide),_,_,rfl,rfl,?_⟩
    refine ⟨_,rfl,_,_,rfl,rfl,.inl ⟨by decide,by decide⟩,_,_,rfl,rfl,_,_,rfl,rfl,.inr ⟨by omega,by omega⟩,?_⟩
    refine ⟨_,rfl,_,_,rfl,rfl,.inl ⟨by decide,by decide⟩,_,_,rfl,rfl,?_⟩
    refine ⟨_,rfl,_,_,rfl,rfl,⟨by decide,by decide,sO c k h0 h1⟩,_,_,rfl,rfl,(by show (0:Int)<68719476731;decide),_,_,rfl,rfl,⟨by decide,by decide⟩,?_⟩
    exact q
abbrev bB:Stmt:=top 41
theorem lF:aN ["cell","many"] ["cell","many"] (aj bB):=⟨rfl,rfl,rfl,by decide +kernel,rfl,by decide +kernel,by decide +kernel⟩
def mJ (c:Int) (n:Nat):List Int:=(List.range n).map fun (i:Nat)=>peb c (i:Int)
theorem uF (c:Int) (n:Nat):mJ c (n + 1)=mJ c n++[peb c (n:Int)]:=by
  unfold mJ;rw [List.range_succ,List.map_append];rfl
theorem jr (c:Int) (n:Nat):(mJ c n).length=n:=by unfold mJ;simp
def mY:Sp:=fun vs H Q _=>∃ (c m:Int),vs=[.int c,.int m]∧-1000≤m∧m≤1000∧Ug H (fun xs=>xs=(mJ c m.toNat).map V.int) Q
theorem Mr {f fP:Addr} {fd fdP:FuncData} (D:Df K mg "_law_pebbles" bB ["cell","many"] f fd) (B:Blt mg) (aH:Df K mg "_law_pebble" bI ["cell","k"] fP fdP)
    (dU:bM P w K mg base CX0 1 fP fdP ["cell","k"] oF):bM P w K mg base CX0 2 f fd ["cell","many"] mY:=by
  refine D.F.ok lF (fun vs H Q E h=>?_) (fun cdv A outer s H vs Q E hr h=>?_)
  · obtain ⟨c,k,rfl,_⟩:=h;rfl
  · obtain ⟨c,m,rfl,h0,h1,q⟩:=h
    refine ⟨_,(aD (bC (jZ (aj bB) rfl ["cell","many"] rfl ["k","cell"] [none,some 0] (by decide +kernel) (by decide +kernel) (by decide +kernel) rfl (gG rfl B.range (aC (pv 1) aq)) (fun _ _ _=>(bD (i:=0) (show (["k","cell"]:List Str).Nodup by decide +kernel) rfl (Or.inl rfl))) (fun _ _ _=>jH) (fun _ _ _=>(aW dU (hr.mono (by decide)) rfl aH.m aH.F.kp aH.b .nil bZ (aC (pv 1) (aC (pv 0) aq))))))),?_⟩
    refine ⟨_,rfl,m,rfl,by omega,by omega,fun acc hacc=>?_⟩
    refine j7 (fun i τ H2=>∃ v,τ=[v,some (.int c)]∧Same H H2∧H2 acc=some (.lst ((mJ c i).map V.int))) ⟨none,rfl,(Same.refl H).upd hacc,aZ⟩ ?_ ?_
    · rintro i τ H2 hi ⟨v,rfl,s2,h2⟩
      refine Ou ?_
      refine ⟨_,rfl,_,rfl,c,_,rfl,by omega,by omega,?_⟩
      refine ⟨_,h2,bH (by rw [List.length_map,jr];omega),_,rfl,s2.upd hacc,?_⟩
      rw [aZ,uF,List.map_append,show (0:Int) + (i:Int)=(i:Int) by omega];rfl
    · rintro τ H2 ⟨v,rfl,s2,h2⟩
      exact q acc H2 _ s2 hacc h2 rfl
abbrev dF:Stmt:=top 42
theorem cM:aN ["xs","cell","order","onward","k","place","at","found"] ["xs","cell"] (aj dF):=⟨rfl,rfl,rfl,by decide +kernel,rfl,by decide +kernel,by decide +kernel⟩
def qJ (K:PySem.W.Frag):Sp:=fun vs H Q _=>∃ (a:Addr) (ns:List Int) (c:Int),vs=[.ref a,.int c]∧SqL K H a (ns.map V.int)∧ns.length≤900 ∧
  Ug H (fun xs=>∃ r,xs=r.map V.int∧Rv.lU r∧r.length=ns.length + 1) Q
theorem Cw (o:List Nat) (i k:Nat):((o.map fun j:Nat=>V.int (j:Int)).take i++V.int (k:Int) :: (o.map fun j:Nat=>V.int (j:Int)).drop i)=(o.take i++k :: o.drop i).map fun j:Nat=>V.int (j:Int):=by
  rw [List.map_append,List.map_cons,List.map_take,List.map_drop]
theorem Bo {f fP:Addr} {fd fdP:FuncData} (D:Df K mg "_law_river" dF ["xs","cell"] f fd) (B:Blt mg) (aH:Df K mg "_law_pebble" bI ["cell","k"] fP fdP)
    (dU:bM P w K mg base CX0 1 fP fdP ["cell","k"] oF):bM P w K mg base CX0 2 f fd ["xs","cell"] (qJ K):=by
  refine D.F.ok cM (fun vs H Q E h=>?_) (fun cdv A outer s H vs Q E hr h=>?_)
  · obtain ⟨a,ns,k,rfl,_⟩:=h;rfl
  · obtain ⟨a,ns,c,rfl,hS,hn,q⟩:=h
    refine ⟨_,(au (bh (i:=2) cM.nd rfl (Or.inl rfl) (cI (aC aA aq)))
      (au (bh (i:=3) cM.nd rfl (Or.inl rfl) (cI (aC (lZ jz aA) aq)))
      (au (kj PassesOwn.never rfl (gG rfl B.range (aC (aJ aF rfl B.len PySem.boot_len (aC (pv 0) aq)) aq)) (bD (i:=4) cM.nd rfl (Or.inl rfl))
        (au (bV (j4 PySem.F.plainAttrs_list PySem.F.slot_list_insert PySem.F.type_list_insert uV (pv 2) (aC (aV cZ (aW dU (hr.mono (by decide)) rfl aH.m aH.F.kp aH.b .nil bZ (aC (pv 1) (aC (pv 4) aq))) (aV gq (pv 4) aA)) (aC (aV gq (pv 4) aA) aq))))
        (aD (eN (aY jy (aV cZ (cG aX (pv 0) (pv 4) (fun _ _=>rfl)) aA) aA (bx _))
          (aD (bV (j4 PySem.F.plainAttrs_list PySem.F.slot_list_append PySem.F.type_list_append dg (pv 3) (aC (lZ jz aA) aq))))
          (aD (eN (aY jy (aV cZ (aV iu (cG aX (pv 0) (pv 4) (fun _ _=>rfl)) aA) aA) aA (bx _))
            (aD (bV (j4 PySem.F.plainAttrs_list PySem.F.slot_list_append PySem.F.type_list_append dg (pv 3) (aC (pv 4) aq))))
            (aD (bV (j4 PySem.F.plainAttrs_list PySem.F.slot_list_append PySem.F.type_list_append dg (pv 3) (aC (aV cZ (aV iu (cG aX (pv 0) (pv 4) (fun _ _=>rfl)) aA) (aV gq (pv 4) aA)) aq))))))))))
      (au (bh (i:=5) cM.nd rfl (Or.inl rfl) (aV uK (cI (aC aA aq)) (aJ aF rfl B.len PySem.boot_len (aC (pv 2) aq))))
      (au (kj PassesOwn.never rfl (gG rfl B.range (aC (aJ aF rfl B.len PySem.boot_len (aC (pv 2) aq)) aq)) (bD (i:=6) cM.nd rfl (Or.inl rfl))
        (aD (kE (pv 6) (qU (pv 5) (cG aX (pv 2) (pv 6) (fun _ _=>rfl)) set_list))))
      (au (bh (i:=7) cM.nd rfl (Or.inl rfl) (aV uK (cI (aC (lZ jz aA) aq)) (aJ aF rfl B.len PySem.boot_len (aC (pv 2) aq))))
      (au (kj PassesOwn.never rfl (uE rfl B.range (aC aA (aC (aJ aF rfl B.len PySem.boot_len (aC (pv 2) aq)) aq))) (bD (i:=4) cM.nd rfl (Or.inl rfl))
        (aD (eN (aY p8 (cG aX (pv 3) (pv 4) (fun _ _=>rfl)) (lZ jz aA) (bx _))
          (aD (kE (cG aX (pv 5) (cG aX (pv 3) (pv 4) (fun _ _=>rfl)) (fun _ _=>rfl)) (qU (pv 7) (cG aX (pv 5) (pv 4) (fun _ _=>rfl)) set_list)))
          bA)))
      (aD (bC (pv 7)))))))))),?_⟩
    refine ⟨by decide,fun lo hlo=>?_⟩
    refine ⟨_,rfl,by decide,fun lw hlw=>?_⟩
    have nlo:H lo=none:=hlo
    have nlw:H lw=none:=((Same.refl H).upd hlo).free hlw
    have now:lo≠lw:=aQ (H:=upd H lo _) aZ hlw
    have s1:Same H (upd (upd H lo (.lst [V.int 0])) lw (.lst [V.int (-1)])):=((Same.refl H).upd nlo).upd nlw
    refine ⟨_,rfl,a,_,rfl,.inl (s1.seq hS),_,rfl,by rw [List.length_map];omega,by rw [List.length_map];omega,?_⟩
    rw [List.length_map,Int.toNat_natCast]
    refine iQ (n:=ns.length) (fun i σ H2=>∃ (o:List Nat) (wd:List Int) (v4:Option V),σ=[some (.ref a),some (.int c),some (.ref lo),some (.ref lw),v4,none,none,none]∧Same H H2 ∧
      H2 lo=some (.lst (o.map fun j:Nat=>V.int (j:Int)))∧H2 lw=some (.lst (wd.map V.int))∧Rv.Ord (i + 1) o∧Rv.Onw (i + 1) wd)
      ⟨[0],[-1],none,rfl,s1,by rw [aL now,aZ];rfl,by rw [aZ];rfl,Rv.Ord.one,Rv.Onw.one⟩ ?_ ?_
    · rintro i σ H2 hi ⟨o,wd,v4,rfl,s2,hO,hW,O,W⟩
      have zi:(0:Int) + (i:Int)=(i:Int):=by omega
      rw [zi]
      have xi:ns[i]?=some (ns.getD i 0):=by rw [List.getD_eq_getElem?_getD,List.getElem?_eq_getElem hi];rfl
      refine ⟨_,rfl,.inl ⟨rfl,_,SqL.of hO⟩,_,rfl,_,rfl,c,_,rfl,by omega,by omega,_,rfl,_,_,rfl,rfl,_,_,rfl,rfl,by omega,_,rfl,_,_,rfl,rfl,?_⟩
      have m0:=Int.emod_nonneg (peb c (i:Int)) (show ((i:Int) + 2)≠0 by omega)
      have m1:=Int.emod_lt_of_pos (peb c (i:Int)) (show (0:Int)<(i:Int) + 2 by omega)
      have hol:=O.len
      refine ⟨lo,_,V.int ((i + 1:Nat):Int),peb c (i:Int) % ((i:Int) + 2),rfl,rfl,hO,m0,by rw [List.length_map];omega,bH (by rw [List.length_map];omega),?_⟩
      generalize (peb c (i:Int) % ((i:Int) + 2)).toNat=j
      have O2:=O.ins j
      rw [Cw]
      have s3:=s2.upd (o:=.lst ((o.take j++(i + 1) :: o.drop j).map fun j:Nat=>V.int (j:Int))) nlo
      have hW3:(upd H2 lo (.lst ((o.take j++(i + 1) :: o.drop j).map fun j:Nat=>V.int (j:Int)))) lw=some (.lst (wd.map V.int)):=by rw [aL now.symm];exact hW
      have fin:∀ y:Int,(y=-1∨(0≤y∧y<(i + 1:Nat)))→∃ (o':List Nat) (wd':List Int) (v4':Option V),
          ([some (.ref a),some (.int c),some (.ref lo),some (.ref lw),some (V.int (i:Int)),none,none,none]:St)=[some (.ref a),some (.int c),some (.ref lo),some (.ref lw),v4',none,none,none] ∧
          Same H (upd (upd H2 lo (.lst ((o.take j++(i + 1) :: o.drop j).map fun j:Nat=>V.int (j:Int)))) lw (.lst (wd.map V.int++[V.int y]))) ∧
          (upd (upd H2 lo (.lst ((o.take j++(i + 1) :: o.drop j).map fun j:Nat=>V.int (j:Int)))) lw (.lst (wd.map V.int++[V.int y]))) lo=some (.lst (o'.map fun j:Nat=>V.int (j:Int))) ∧
          (upd (upd H2 lo (.lst ((o.take j++(i + 1) :: o.drop j).map fun j:Nat=>V.int (j:Int)))) lw (.lst (wd.map V.int++[V.int y]))) lw=some (.lst (wd'.map V.int))∧Rv.Ord (i + 1 + 1) o'∧Rv.Onw (i + 1 + 1) wd' :=
        fun y hy=>⟨_,wd++[y],_,rfl,s3.upd nlw,by rw [aL now,aZ],by rw [aZ,List.map_append];rfl,O2,W.app hy⟩
      have hwl:=W.len
      have hz:(wd.map V.int).length<sizeLine:=bH (by rw [List.length_map];omega)
      refine ⟨_,rfl,_,rfl,a,_,_,_,rfl,rfl,s3.seq hS,cX xi,_,_,rfl,rfl,(by show (0:Int)<7;decide),rfl,_,rfl,?_⟩
      refine Ox (fun _=>?_) (fun _=>?_)
      · exact ⟨_,rfl,.inl ⟨rfl,_,SqL.of hW3⟩,_,rfl,lw,_,_,rfl,rfl,hW3,hz,fin (-1) (.inl rfl)⟩
      · refine ⟨_,rfl,_,rfl,a,_,_,_,rfl,rfl,s3.seq hS,cX xi,_,_,rfl,rfl,⟨by decide,by decide⟩,_,_,rfl,rfl,(by show (0:Int)<2;decide),rfl,_,rfl,?_⟩
        refine Ox (fun _=>?_) (fun _=>?_)
        · exact ⟨_,rfl,.inl ⟨rfl,_,SqL.of hW3⟩,_,rfl,lw,_,_,rfl,rfl,hW3,hz,fin (i:Int) (.inr ⟨by omega,by omega⟩)⟩
        · refine ⟨_,rfl,.inl ⟨rfl,_,SqL.of hW3⟩,_,rfl,_,rfl,a,_,_,_,rfl,rfl,s3.seq hS,cX xi,_,_,rfl,rfl,⟨by decide,by decide⟩,_,rfl,_,_,rfl,rfl,_,_,rfl,rfl,by omega,lw,_,_,rfl,rfl,hW3,hz,fin _ (.inr ⟨?_,?_⟩)⟩
          · exact Int.emod_nonneg _ (by omega)
          · have:=Int.emod_lt_of_pos (ns.getD i 0 / 14) (show (0:Int)<(i:Int) + 1 by omega)
            omega
    · rintro σ H2 ⟨o,wd,v4,rfl,s2,hO,hW,O,W⟩
      have hol:=O.len
      have hwl:=W.len
      refine ⟨by decide,fun l0 hl0=>?_⟩
      have n0:H l0=none:=s2.free hl0
      have nO:lo≠l0:=aQ hO hl0
      have nW:lw≠l0:=aQ hW hl0
      have hO3:(upd H2 l0 (.lst [V.int 0])) lo=some (.lst (o.map fun j:Nat=>V.int (j:Int))):=by rw [aL nO];exact hO
      refine ⟨_,rfl,lo,_,rfl,.inl (SqL.of hO3),l0,_,_,rfl,rfl,aZ,by omega,?_,?_,fun lp hlp=>?_⟩
      · rw [List.length_map,hol];omega
      · rw [List.length_map,hol];exact iC (by rw [Int.toNat_natCast];simp;omega)
      have s3:Same H (upd H2 l0 (.lst [V.int 0])):=s2.upd n0
      have np:H lp=none:=s3.free hlp
      have nOp:lo≠lp:=aQ hO3 hlp
      have hW3:(upd H2 l0 (.lst [V.int 0])) lw=some (.lst (wd.map V.int)):=by rw [aL nW];exact hW
      have nWp:lw≠lp:=aQ hW3 hlp
      have e0:(List.replicate ((o.map fun j:Nat=>V.int (j:Int)).length:Int).toNat [V.int 0]).flatten=(List.replicate (ns.length + 1) (0:Int)).map V.int:=by
        rw [List.length_map,hol,Int.toNat_natCast,List.map_replicate]
        exact ux _ _
      generalize hH4:(upd (upd H2 l0 (.lst [V.int 0])) lp (.lst (List.replicate ((o.map fun j:Nat=>V.int (j:Int)).length:Int).toNat [V.int 0]).flatten))=H4
      have s4:Same H H4:=by rw [← hH4];exact s3.upd np
      have hO4:H4 lo=some (.lst (o.map fun j:Nat=>V.int (j:Int))):=by rw [← hH4,aL nOp];exact hO3
      have hW4:H4 lw=some (.lst (wd.map V.int)):=by rw [← hH4,aL nWp];exact hW3
      have hP4:H4 lp=some (.lst ((List.replicate (ns.length + 1) (0:Int)).map V.int)):=by rw [← hH4,aZ,e0]
      refine ⟨_,rfl,lo,_,rfl,.inl (SqL.of hO4),_,rfl,by rw [List.length_map];omega,by rw [List.length_map];omega,?_⟩
      rw [List.length_map,hol,Int.toNat_natCast]
      refine iQ (n:=ns.length + 1) (fun i σ H5=>∃ (pl:List Int) (v6:Option V),σ=[some (.ref a),some (.int c),some (.ref lo),some (.ref lw),v4,some (.ref lp),v6,none]∧Same H H5 ∧
        H5 lo=some (.lst (o.map fun j:Nat=>V.int (j:Int)))∧H5 lw=some (.lst (wd.map V.int))∧H5 lp=some (.lst (pl.map V.int))∧Rv.Plc (ns.length + 1) o i pl)
        ⟨_,none,rfl,s4,hO4,hW4,hP4,Rv.Plc.start _ _ _ (by simp)⟩ ?_ ?_
      · rintro i σ H5 hi ⟨pl,v6,rfl,s5,hO5,hW5,hP5,PL⟩
        have zi:(0:Int) + (i:Int)=(i:Int):=by omega
        rw [zi]
        have hio:i<o.length:=by omega
        have hj:o[i]<ns.length + 1:=O.lt (List.getElem_mem hio)
        have oj:o[i]?=some o[i]:=List.getElem?_eq_getElem hio
        have pll:=PL.len
        refine ⟨_,rfl,_,rfl,_,rfl,_,rfl,lo,_,_,_,rfl,rfl,SqL.of hO5,gP (v:=V.int (o[i]:Int)) (by rw [List.getElem?_map,oj];rfl),lp,_,_,_,rfl,rfl,hP5,nH (by rw [List.length_map,pll];exact hj),?_⟩
        refine ⟨_,_,rfl,s5.upd np,by rw [aL nOp];exact hO5,by rw [aL nWp];exact hW5,by rw [aZ,← List.map_set],PL.turn O oj⟩
      · rintro σ H5 ⟨pl,v6,rfl,s5,hO5,hW5,hP5,PL⟩
        have pll:=PL.len
        refine ⟨_,rfl,by decide,fun l1 hl1=>?_⟩
        have n1:H l1=none:=s5.free hl1
        have mO:lo≠l1:=aQ hO5 hl1
        have mW:lw≠l1:=aQ hW5 hl1
        have mP:lp≠l1:=aQ hP5 hl1
        have hO6:(upd H5 l1 (.lst [V.int (-1)])) lo=some (.lst (o.map fun j:Nat=>V.int (j:Int))):=by rw [aL mO];exact hO5
        refine ⟨_,rfl,lo,_,rfl,.inl (SqL.of hO6),l1,_,_,rfl,rfl,aZ,by omega,?_,?_,fun lf hlf=>?_⟩
        · rw [List.length_map,hol];omega
        · rw [List.length_map,hol];exact iC (by rw [Int.toNat_natCast];simp;omega)
        have s6:Same H (upd H5 l1 (.lst [V.int (-1)])):=s5.upd n1
        have nf:H lf=none:=s6.free hlf
        have hW6:(upd H5 l1 (.lst [V.int (-1)])) lw=some (.lst (wd.map V.int)):=by rw [aL mW];exact hW5
        have hP6:(upd H5 l1 (.lst [V.int (-1)])) lp=some (.lst (pl.map V.int)):=by rw [aL mP];exact hP5
        have nOf:lo≠lf:=aQ hO6 hlf
        have nWf:lw≠lf:=aQ hW6 hlf
        have nPf:lp≠lf:=aQ hP6 hlf
        have e1:(List.replicate ((o.map fun j:Nat=>V.int (j:Int)).length:Int).toNat [V.int (-1)]).flatten=(List.replicate (ns.length + 1) (-1:Int)).map V.int:=by
          rw [List.length_map,hol,Int.toNat_natCast,List.map_replicate]
          exact ux _ _
        generalize hH7:(upd (upd H5 l1 (.lst [V.int (-1)])) lf (.lst (List.replicate ((o.map fun j:Nat=>V.int (j:Int)).length:Int).toNat [V.int (-1)]).flatten))=H7
        have s7:Same H H7:=by rw [← hH7];exact s6.upd nf
        have hO7:H7 lo=some (.lst (o.map fun j:Nat=>V.int (j:Int))):=by rw [← hH7,aL nOf];exact hO6
        have hW7:H7 lw=some (.lst (wd.map V.int)):=by rw [← hH7,aL nWf];exact hW6
        have hP7:H7 lp=some (.lst (pl.map V.int)):=by rw [← hH7,aL nPf];exact hP6
        have hF7:H7 lf=some (.lst ((List.replicate (ns.length + 1) (-1:Int)).map V.int)):=by rw [← hH7,aZ,e1]
        refine ⟨_,rfl,lo,_,rfl,.inl (SqL.of hO7),_,_,rfl,⟨by decide,by decide,by rw [List.length_map];omega,by rw [List.length_map];omega⟩,?_⟩
        rw [List.length_map,hol,show (((ns.length + 1:Nat):Int) - 1).toNat=ns.length by omega]
        refine iQ (n:=ns.length) (fun i σ H8=>∃ (r:List Int) (v4':Option V),σ=[some (.ref a),some (.int c),some (.ref lo),some (.ref lw),v4',some (.ref lp),v6,some (.ref lf)]∧Same H H8 ∧
          H8 lo=some (.lst (o.map fun j:Nat=>V.int (j:Int)))∧H8 lw=some (.lst (wd.map V.int))∧H8 lp=some (.lst (pl.map V.int))∧H8 lf=some (.lst (r.map V.int))∧Rv.Fnd (ns.length + 1) o i r)
          ⟨_,v4,rfl,s7,hO7,hW7,hP7,hF7,Rv.Fnd.start _ _ _ (by simp) (fun x hx=>(List.mem_replicate.mp hx).2)⟩ ?_ ?_
        · rintro i σ H8 hi ⟨r,v4',rfl,s8,hO8,hW8,hP8,hF8,FD⟩
          have zi:(1:Int) + (i:Int)=((i + 1:Nat):Int):=by omega
          rw [zi]
          have hiw:i + 1<wd.length:=by omega
          have wi:wd[i + 1]?=some wd[i + 1]:=List.getElem?_eq_getElem hiw
          have fl:=FD.len
          refine ⟨_,rfl,_,rfl,lw,_,_,_,rfl,rfl,SqL.of hW8,cX wi,_,rfl,rfl,_,rfl,?_⟩
          by_cases hm:wd[i + 1]=-1
          · rw [hm]
            refine Qm rfl ?_
            exact ⟨r,_,rfl,s8,hO8,hW8,hP8,hF8,FD.same _⟩
          · have hd:(!decide (V.int wd[i + 1]=V.int (-1)))=true:=by simp [hm]
            rw [hd]
            refine nJ ?_
            obtain ⟨w0,w1⟩:=(W.lt _ _ wi).resolve_left hm
            obtain ⟨ka,hka,pa,oa⟩:=PL.all O (k:=i + 1) (by omega)
            obtain ⟨kb,hkb,pb,ob⟩:=PL.all O (k:=wd[i + 1].toNat) (by omega)
            refine ⟨_,rfl,_,rfl,_,rfl,lw,_,_,_,rfl,rfl,SqL.of hW8,cX wi,lp,_,_,_,rfl,rfl,SqL.of hP8,lB w0 pb,_,rfl,_,rfl,_,rfl,lp,_,_,_,rfl,rfl,SqL.of hP8,cX pa,lf,_,_,_,rfl,rfl,hF8,nH (by rw [List.length_map,fl];exact hka),?_⟩
            refine ⟨_,_,rfl,s8.upd nf,by rw [aL nOf];exact hO8,by rw [aL nWf];exact hW8,by rw [aL nPf];exact hP8,by rw [aZ,← List.map_set],FD.turn hkb oa ob (by omega) _⟩
        · rintro σ H8 ⟨r,v4',rfl,s8,hO8,hW8,hP8,hF8,FD⟩
          exact ⟨_,rfl,q lf H8 _ s8 nf hF8 ⟨r,rfl,FD.oR O,FD.len⟩⟩
def gQ (x:Str):Prop:=1≤x.cps.size∧x.cps.size≤8∧∀ c∈x.cps.toList,97≤c∧c≤122
def Asc (x:Str):Prop:=x.cps.all (·<128)=true∧x.cps.size≤1000
theorem sW:∀ c:Nat,c<128→(!(Builtin.Str.occurrences ("abcdefghijklmnopqrstuvwxyz":Str) ⟨#[c]⟩ 0 ("abcdefghijklmnopqrstuvwxyz":Str).length 1).isEmpty)=decide (97≤c∧c≤122):=by
  have h:∀ k:Fin 128,(!(Builtin.Str.occurrences ("abcdefghijklmnopqrstuvwxyz":Str) ⟨#[k.val]⟩ 0 ("abcdefghijklmnopqrstuvwxyz":Str).length 1).isEmpty)=decide (97≤k.val∧k.val≤122):=by decide +kernel
  exact fun c hc=>h ⟨c,hc⟩
abbrev gj:Stmt:=top 6
theorem sE:aN ["text"] ["text"] (aj gj):=⟨rfl,rfl,rfl,by decide +kernel,rfl,by decide +kernel,by decide +kernel⟩
def oG (T:fJ):Sp:=fun vs H Q _=>∃ (x:Str),vs=[.str x]∧Asc x∧TabsOk T H∧∀ (b:Bool) H',(b=true↔gQ x)→aR T H H'→Q (.bl b) H'
structure CN (mg:Str→Option Value):Prop where
  LONGEST_NAME:∃ t,mg "LONGEST_NAME"=some (.int 8 t)
  LETTERS:∃ t,mg "LETTERS"=some (.str "abcdefghijklmnopqrstuvwxyz" t)
theorem uO {f:Addr} {fd:FuncData} (D:Df K mg "is_name" gj ["text"] f fd) (B:Blt mg) (CN:CN mg):bM P w K mg base CX0 1 f fd ["text"] (oG T):=by
  obtain ⟨tM,hLONGEST_NAME⟩:=CN.LONGEST_NAME
  obtain ⟨tL,hLETTERS⟩:=CN.LETTERS
  refine D.F.ok sE (fun vs H Q E h=>?_) (fun cdv A outer s H vs Q E hr h=>?_)
  · obtain ⟨_,rfl,_⟩:=h;rfl
  · obtain ⟨x,rfl,⟨ha,hx⟩,tk,q⟩:=h
    have hu:=hr.units
    have O:=Ow.refl tk
    refine ⟨_,(aD (bC (mK (nu jJ jJ aA (aJ o9 rfl B.len PySem.boot_len (aC (pv 0) aq)) (fH (v:=.int (8)) rfl hLONGEST_NAME ⟨_,rfl⟩)) (oY (aJ (nZ rfl) rfl B.all PyProof.Rows.boot_all (aC (jZ (aj gj) rfl ["text"] rfl ["sign"] [none] (by decide +kernel) (by decide +kernel) (by decide +kernel) rfl (Pk (pv 0)) (fun _ _ _=>(bD (i:=0) (show (["sign"]:List Str).Nodup by decide +kernel) rfl (Or.inl rfl))) (fun _ _ _=>jH) (fun _ _ _=>(iI uL (pv 0) (fH (v:=.str "abcdefghijklmnopqrstuvwxyz") rfl hLETTERS ⟨_,rfl⟩) (by rfl)))) aq)))))),?_⟩
    have hl:x.length=x.cps.size:=rfl
    refine ⟨_,rfl,x,rfl,(by rw [hl,sizeLine_eq];omega),_,_,rfl,rfl,?_⟩
    refine ⟨_,rfl,?_⟩
    refine ifD (fun h1=>?_) (fun h1=>?_)
    rotate_left
    · exact ⟨_,rfl,nM (q _ _ ⟨(fun z=>nomatch z),fun z=>absurd z.1 (by omega)⟩ O.same)⟩
    refine ⟨_,_,rfl,rfl,_,rfl,?_⟩
    refine ifD (fun h2=>?_) (fun h2=>?_)
    rotate_left
    · exact q _ _ ⟨(fun z=>nomatch z),fun z=>absurd z.2.1 (by omega)⟩ O.same
    refine ⟨_,rfl,x,rfl,ha,fun lw hlw=>?_⟩
    refine Cv (fun i τ H'=>Iv (∃ (v0:Option V) (bs:List Bool),τ=[v0]∧bs.length=i∧(bs.all id=true↔∀ c∈x.cps.toList.take i,97≤c∧c≤122)∧Ow T H H' [(lw,.lst (bs.map V.bl))])) ⟨trivial,none,[],rfl,rfl,⟨(fun _ c hc=>nomatch hc),fun _=>rfl⟩,O.mk' hlw rfl⟩ ?_ ?_
    · rintro i c τ H4 hc ⟨-,v0,bs,rfl,hbl,hb,O⟩
      have hi:i<x.cps.size:=by
        rcases Nat.lt_or_ge i x.cps.size with h | h
        · exact h
        · rw [Array.getElem?_eq_none h] at hc;cases hc
      have hm:x.cps.toList[i]?=some c:=by rw [Array.getElem?_toList];exact hc
      have hc128:c<128:=by
        have:=Array.all_eq_true.mp ha i hi
        rw [Array.getElem?_eq_getElem hi] at hc
        cases hc;exact of_decide_eq_true this
      refine Ou ?_
      refine ⟨_,rfl,_,_,rfl,rfl,?_⟩
      rw [sW c hc128]
      refine ⟨_,O.get 0,bH (by rw [List.length_map];omega),?_⟩
      walk_at "pt"
      refine ⟨trivial,_,bs++[decide (97≤c∧c≤122)],rfl,by rw [List.length_append,hbl];rfl,?_,?_⟩
      · rw [Tn.lD hm,List.all_append,Bool.and_eq_true,hb]
        constructor
        · rintro ⟨z1,z2⟩ y hy
          rcases List.mem_append.mp hy with h | h
          · exact z1 y h
          · rw [List.mem_singleton.mp h];simpa using z2
        · intro z
          exact ⟨fun y hy=>z y (List.mem_append_left _ hy),by simpa using z c (List.mem_append_right _ (List.mem_singleton.mpr rfl))⟩
      · rw [List.map_append];exact O
    rintro τ H4 ⟨-,v0,bs,rfl,hbl,hb,O⟩
    refine ⟨lw,_,rfl,O.sq 0,?_⟩
    rw [show x.cps.size=x.cps.toList.length by simp,List.take_length] at hb
    exact q _ _ ⟨fun z=>⟨by omega,by omega,hb.mp z⟩,fun z=>hb.mpr z.2.2⟩ O.same
abbrev bO:Stmt:=top 32
theorem lE:aN ["name"] ["name"] (aj bO):=⟨rfl,rfl,rfl,by decide +kernel,rfl,by decide +kernel,by decide +kernel⟩
def jG (T:fJ) (cH:Addr):Sp:=fun vs H Q E=>∃ (x:Str),vs=[.str x]∧Asc x∧TabsOk T H∧(gQ x→∀ H',aR T H H'→Q .non H')∧(¬ gQ x→∀ (e:Addr) (H':Hp),aR T H H'→H' e=none→E (.ref cH) (some e) H')
theorem qb {f f1 cH:Addr} {fd fd1:FuncData} (D:Df K mg "look_at_name" bO ["name"] f fd) (X_NoHolder:mz K mg "NoHolder" cH)
    (iT:Df K mg "is_name" gj ["text"] f1 fd1) (Aq:bM P w K mg base CX0 1 f1 fd1 ["text"] (oG T)):bM P w K mg base (CXE P w) 2 f fd ["name"] (jG T cH):=by
  refine D.F.okX lE (fun vs H Q E h=>?_) (fun cdv A outer s H vs Q E hr h=>?_)
  · obtain ⟨_,rfl,_⟩:=h;rfl
  · obtain ⟨x,rfl,ax,tk,q,qx⟩:=h
    refine ⟨_,(aD (eN (jC (jB (aW Aq (hr.mono (by decide)) rfl iT.m iT.F.kp iT.b .nil bZ (aC (pv 0) aq))))
        (aD (gR iJ rfl (fun _ _ z=>z) rfl X_NoHolder.m X_NoHolder.q (aC iG aq)))
        bA)),?_⟩
    refine ⟨_,rfl,x,rfl,ax,tk,fun b H1 hb s1=>?_⟩
    cases b with
    | true=>exact ⟨_,rfl,nM (q (hb.mp rfl) _ s1)⟩
    | false=>exact ⟨_,rfl,nJ ⟨szl,fun e he=>qx (fun z=>nomatch hb.mpr z) e _ s1 he⟩⟩
structure Rs where
  p:Addr
  dx:Addr
  lb:Addr
  ll:Addr
  ln:Addr
  lo:Addr
abbrev rollF:List Str:=["below","day","licences","names","done"]
abbrev Dz (C:Addr) (A:Rs) (ex:List (Str × V)) (day:Int):HO:=.ins C A.dx (("below",.ref A.lb) :: ("day",.int day) :: ("licences",.ref A.ll) :: ("names",.ref A.ln) :: ("done",.ref A.lo) :: ex)
abbrev RX (C:Addr) (A:Rs) (ex:List (Str × V)) (r:List Int) (day:Int) (us:List V) (ns:List Str) (ds:List V):List (Addr × HO) :=
  [(A.p,Dz C A ex day),(A.dx,.own A.p),(A.lb,.lst (r.map V.int)),(A.ll,.lst us),(A.ln,.lst (ns.map V.str)),(A.lo,.lst ds)]
structure RC (K:PySem.W.Frag) (C:Addr):Prop where
  c:Cls K C
  nB:gK K C "below"
  nD:gK K C "day"
  nL:gK K C "licences"
  nN:gK K C "names"
  nO:gK K C "done"
inductive Ln
  | turn
  | file (x:Str) (s m b:Int)
  | sy (n:Int) (y z:Str)
  | part (n:Int) (y:Str) (m:Int) (z:Str)
  | drop (n:Int) (y:Str)
  | move (n:Int) (y:Str) (s:Int)
  | lapse (xs:List Int)
def nU:Ln→PyData
  | .turn=>.tuple [.str "turn"]
  | .file x s m b=>.tuple [.str "file",.str x,.int s,.int m,.int b]
  | .sy n y z=>.tuple [.str "sell",.int n,.str y,.str z]
  | .part n y m z=>.tuple [.str "part",.int n,.str y,.int m,.str z]
  | .drop n y=>.tuple [.str "drop",.int n,.str y]
  | .move n y s=>.tuple [.str "move",.int n,.str y,.int s]
  | .lapse xs=>.tuple [.str "lapse",.tuple (xs.map PyData.int)]
structure RS where
  day:Int
  ls:List Lic
  ns:List Str
  ds:List Ln
inductive EK
  | number | yours | holder | licence | much | alone | full | oR
structure Ec where
  number:Addr
  yours:Addr
  holder:Addr
  licence:Addr
  much:Addr
  alone:Addr
  full:Addr
  oR:Addr
def Ec.at_ (c:Ec):EK→Addr
  | .number=>c.number | .yours=>c.yours | .holder=>c.holder | .licence=>c.licence | .much=>c.much | .alone=>c.alone | .full=>c.full | .oR=>c.oR
def wm (l:Lic) (m:Int):Lic:=⟨l.day,l.start,l.back,m⟩
def wst (l:Lic) (s:Int):Lic:=⟨l.day,s,l.back,l.most⟩
def CV (ls:List Lic) (d:Int):Nat→List Int
  | 0=>[]
  | i + 1=>CV ls d i++(match ls[i]? with | some l=>if l.day=d∧0<l.most then [(i:Int)] else [] | none=>[])
def Qg (ls:List Lic) (xs:List Int):List Lic:=List.zipWith (fun l x=>wm l (min l.most x)) ls xs
def RS.at_ (S:RS) (n:Int):Lic:=S.ls.getD n.toNat ⟨0,0,0,0⟩
open Classical in
noncomputable def RS.tO (S:RS) (n:Int) (y:Str) (k:Except EK RS):Except EK RS :=
  if ¬ (0≤n∧n<S.ls.length) then .error .number else if S.ns[n.toNat]?≠some y then .error .yours else k
open Classical in
noncomputable def step (r:List Int) (S:RS):Ln→Except EK RS
  | .turn=>.ok ⟨S.day + 1,S.ls,S.ns,S.ds++[.turn]⟩
  | .file x s m b=>if ¬ gQ x then .error .holder else if m=0∨¬ Ao r ⟨S.day,s,b,m⟩ then .error .licence else if 60≤S.ls.length then .error .full else
      .ok ⟨S.day,S.ls++[⟨S.day,s,b,m⟩],S.ns++[x],S.ds++[.file x s m b]⟩
  | .sy n y z=>S.tO n y (if ¬ gQ z then .error .holder else .ok ⟨S.day,S.ls,S.ns.set n.toNat z,S.ds++[.sy n y z]⟩)
  | .part n y m z=>S.tO n y (if ¬ gQ z then .error .holder else if ¬ (1≤m∧m<(S.at_ n).most) then .error .much else if CV S.ls (S.at_ n).day S.ls.length≠[n] then .error .alone else if 60≤S.ls.length then .error .full else
      .ok ⟨S.day,S.ls.set n.toNat (wm (S.at_ n) ((S.at_ n).most - m))++[wm (S.at_ n) m],S.ns++[z],S.ds++[.part n y m z]⟩)
  | .drop n y=>S.tO n y (.ok ⟨S.day,S.ls.set n.toNat (wm (S.at_ n) 0),S.ns,S.ds++[.drop n y]⟩)
  | .move n y s=>S.tO n y (if ¬ Ao r (wst (S.at_ n) s) then .error .licence else .ok ⟨S.day,S.ls.set n.toNat (wst (S.at_ n) s),S.ns,S.ds++[.move n y s]⟩)
  | .lapse xs=>if xs.length≠S.ls.length then .error .number else if ¬ ∀ x∈xs,0≤x∧x≤1000000000000 then .error .much else
      .ok ⟨S.day,Qg S.ls xs,S.ns,S.ds++[.lapse xs]⟩
def RA (K:PySem.W.Frag) (T:fJ) (C:Addr) (A:Rs) (ex:List (Str × V)) (r:List Int) (H0 H:Hp) (B:List (Addr × HO)) (S:RS):Prop :=
  ∃ us vs,Ow T H0 H (RX C A ex r S.day us S.ns vs++B)∧d9 K H0 us (S.ls.map sY)∧d9 K H0 vs (S.ds.map nU)
structure Vb (ex:List (Str × V)):Prop where
  num:ex.lookup ("look_at_number":Str)=none
  hol:ex.lookup ("look_at_holder":Str)=none
  room:ex.lookup ("look_at_room":Str)=none
  ent:ex.lookup ("enter":Str)=none
  al:ex.lookup ("is_alone":Str)=none
  lmv:ex.lookup ("look_move":Str)=none
  lp:ex.lookup ("lapse":Str)=none
  tn:ex.lookup ("turn":Str)=none
  rl:ex.lookup ("roll":Str)=none
  hs:ex.lookup ("holders":Str)=none
  de:ex.lookup ("deeds":Str)=none
  td:ex.lookup ("today":Str)=none
  fi:ex.lookup ("file":Str)=none
  se:ex.lookup ("sell":Str)=none
  pa:ex.lookup ("part":Str)=none
  dr:ex.lookup ("drop":Str)=none
  mv:ex.lookup ("move":Str)=none
structure RP (r:List Int) (ex:List (Str × V)) (S:RS):Prop where
  rv:Rv.lU r
  r40:r.length≤40
  nn:S.ns.length=S.ls.length
  l60:S.ls.length≤60
  dl:S.ds.length≤9000
  e9:ex.length≤100
  ex:Vb ex
def After (K:PySem.W.Frag) (T:fJ) (C:Addr) (c:Ec) (A:Rs) (ex:List (Str × V)) (r:List Int) (H0 H:Hp) (B:List (Addr × HO)) (S:RS) (d:Ln) (v:V) (Q:VK) (E:XK):Prop :=
  (∀ S',step r S d=.ok S'→∀ Hb H',aR T H0 Hb→RA K T C A ex r Hb H' B S'→Q v H')∧(∀ k,step r S d=.error k→∀ (e:Addr) (H':Hp),aR T H H'→H' e=none→E (.ref (c.at_ k)) (some e) H')
def fD (K:PySem.W.Frag) (C:Addr) (y:Str):Sp:=fun vs H Q _=>∃ (p dx l:Addr) (fs:List (Str × V)) (us:List V),vs=[.ref p]∧H p=some (.ins C dx fs)∧fs.lookup y=some (.ref l)∧SqL K H l us∧∀ l',H l'=none→Q (.ref l') (upd H l' (.lst us))
abbrev cW:Stmt:=inClass (top 33) 2
theorem oM:aN ["self"] ["self"] (aj cW):=⟨rfl,rfl,rfl,by decide +kernel,rfl,by decide +kernel,by decide +kernel⟩
section
variable {P:Program} {w:World} {K:PySem.W.Frag} {mg:Str→Option Value} {base:Heap} {C:Addr}
theorem Bv {f:Addr} {fd:FuncData} (D:Dm K C "roll" "Roll.roll" cW ["self"] f fd) (B:Blt mg) (R:RC K C):bM P w K mg base CX0 1 f fd ["self"] (fD K C "licences"):=by
  refine D.F.ok oM (fun vs H Q E h=>?_) (fun cdv A outer s H vs Q E hr h=>?_)
  · obtain ⟨_,_,_,_,_,rfl,_⟩:=h;rfl
  · obtain ⟨p,dx,l,fs,us,rfl,hp,hf,hl,q⟩:=h
    refine ⟨_,(aD (bC (gH dJ rfl B.list PyProof.Rows.boot_list (aC (eO (pv 0) rfl) aq)))),?_⟩
    exact ⟨_,rfl,p,C,dx,fs,.ref l,rfl,hp,R.c,R.nL,hf,l,us,rfl,.inl hl,q⟩
end
abbrev bQ:Stmt:=inClass (top 33) 3
theorem lH:aN ["self"] ["self"] (aj bQ):=⟨rfl,rfl,rfl,by decide +kernel,rfl,by decide +kernel,by decide +kernel⟩
section
variable {P:Program} {w:World} {K:PySem.W.Frag} {mg:Str→Option Value} {base:Heap} {C:Addr}
theorem qg {f:Addr} {fd:FuncData} (D:Dm K C "holders" "Roll.holders" bQ ["self"] f fd) (B:Blt mg) (R:RC K C):bM P w K mg base CX0 1 f fd ["self"] (fD K C "names"):=by
  refine D.F.ok lH (fun vs H Q E h=>?_) (fun cdv A outer s H vs Q E hr h=>?_)
  · obtain ⟨_,_,_,_,_,rfl,_⟩:=h;rfl
  · obtain ⟨p,dx,l,fs,us,rfl,hp,hf,hl,q⟩:=h
    refine ⟨_,(aD (bC (gH dJ rfl B.list PyProof.Rows.boot_list (aC (eO (pv 0) rfl) aq)))),?_⟩
    exact ⟨_,rfl,p,C,dx,fs,.ref l,rfl,hp,R.c,R.nN,hf,l,us,rfl,.inl hl,q⟩
end
abbrev cQ:Stmt:=inClass (top 33) 4
theorem ni:aN ["self"] ["self"] (aj cQ):=⟨rfl,rfl,rfl,by decide +kernel,rfl,by decide +kernel,by decide +kernel⟩
section
variable {P:Program} {w:World} {K:PySem.W.Frag} {mg:Str→Option Value} {base:Heap} {C:Addr}
theorem uR {f:Addr} {fd:FuncData} (D:Dm K C "deeds" "Roll.deeds" cQ ["self"] f fd) (B:Blt mg) (R:RC K C):bM P w K mg base CX0 1 f fd ["self"] (fD K C "done"):=by
  refine D.F.ok ni (fun vs H Q E h=>?_) (fun cdv A outer s H vs Q E hr h=>?_)
  · obtain ⟨_,_,_,_,_,rfl,_⟩:=h;rfl
  · obtain ⟨p,dx,l,fs,us,rfl,hp,hf,hl,q⟩:=h
    refine ⟨_,(aD (bC (gH dJ rfl B.list PyProof.Rows.boot_list (aC (eO (pv 0) rfl) aq)))),?_⟩
    exact ⟨_,rfl,p,C,dx,fs,.ref l,rfl,hp,R.c,R.nO,hf,l,us,rfl,.inl hl,q⟩
end
abbrev dH:Stmt:=inClass (top 33) 1
theorem m7:aN ["self"] ["self"] (aj dH):=⟨rfl,rfl,rfl,by decide +kernel,rfl,by decide +kernel,by decide +kernel⟩
def qI (C:Addr):Sp:=fun vs H Q _=>∃ (A:Rs) (ex:List (Str × V)) (day:Int),vs=[.ref A.p]∧H A.p=some (Dz C A ex day)∧Q (.int day) H
section
variable {P:Program} {w:World} {K:PySem.W.Frag} {mg:Str→Option Value} {base:Heap} {C:Addr}
theorem uP {f:Addr} {fd:FuncData} (D:Dm K C "today" "Roll.today" dH ["self"] f fd) (R:RC K C):bM P w K mg base CX0 1 f fd ["self"] (qI C):=by
  refine D.F.ok m7 (fun vs H Q E h=>?_) (fun cdv A outer s H vs Q E hr h=>?_)
  · obtain ⟨_,_,_,rfl,_⟩:=h;rfl
  · obtain ⟨A,ex,day,rfl,hp,q⟩:=h
    refine ⟨_,(aD (bC (eO (pv 0) rfl))),?_⟩
    exact ⟨_,rfl,A.p,C,A.dx,_,.int day,rfl,hp,R.c,R.nD,rfl,q⟩
end
abbrev dI:Stmt:=inClass (top 33) 13
theorem m8:aN ["self","one","holder"] ["self","one","holder"] (aj dI):=⟨rfl,rfl,rfl,by decide +kernel,rfl,by decide +kernel,by decide +kernel⟩
def qO (C:Addr):Sp:=fun vs H Q _=>∃ (A:Rs) (ex:List (Str × V)) (day:Int) (us:List V) (ns:List V) (v x:V),vs=[.ref A.p,v,x]∧H A.p=some (Dz C A ex day)∧H A.ll=some (.lst us)∧H A.ln=some (.lst ns)∧us.length≤900∧ns.length≤900∧A.p≠A.ll∧A.p≠A.ln∧A.ln≠A.ll ∧
  Q (.int us.length) (upd (upd H A.ll (.lst (us++[v]))) A.ln (.lst (ns++[x])))
section
variable {P:Program} {w:World} {K:PySem.W.Frag} {mg:Str→Option Value} {base:Heap} {T:fJ} {C:Addr}
theorem uQ {f:Addr} {fd:FuncData} (D:Dm K C "enter" "Roll.enter" dI ["self","one","holder"] f fd) (B:Blt mg) (R:RC K C):bM P w K mg base CX0 1 f fd ["self","one","holder"] (qO C):=by
  refine D.F.ok m8 (fun vs H Q E h=>?_) (fun cdv A outer s H vs Q E hr h=>?_)
  · obtain ⟨_,_,_,_,_,_,_,rfl,_⟩:=h;rfl
  · obtain ⟨A,ex,day,us,ns,v,x,rfl,hp,hl,hn,ul,nl,n1,n2,n3,q⟩:=h
    refine ⟨_,(au (bV (j4 PySem.F.plainAttrs_list PySem.F.slot_list_append PySem.F.type_list_append dg (eO (pv 0) rfl) (aC (pv 1) aq)))
      (au (bV (j4 PySem.F.plainAttrs_list PySem.F.slot_list_append PySem.F.type_list_append dg (eO (pv 0) rfl) (aC (pv 2) aq)))
      (aD (bC (aV qZ (aJ aF rfl B.len PySem.boot_len (aC (eO (pv 0) rfl) aq)) aA))))),?_⟩
    refine ⟨_,rfl,A.p,C,A.dx,_,.ref A.ll,rfl,hp,R.c,R.nL,rfl,.inl ⟨rfl,_,SqL.of hl⟩,_,rfl,A.ll,_,_,rfl,rfl,hl,bH (by omega),?_⟩
    have hp:=(aL (H:=H) (o:=.lst (us++[v])) n1).trans hp
    have hn:=(aL (H:=H) (o:=.lst (us++[v])) n3).trans hn
    have hl:upd H A.ll (.lst (us++[v])) A.ll=some (.lst (us++[v])):=aZ
    refine ⟨_,rfl,A.p,C,A.dx,_,.ref A.ln,rfl,hp,R.c,R.nN,rfl,.inl ⟨rfl,_,SqL.of hn⟩,_,rfl,A.ln,_,_,rfl,rfl,hn,bH (by omega),?_⟩
    have hp:=(aL (o:=.lst (ns++[x])) n2).trans hp
    have hl:=(aL (o:=.lst (ns++[x])) n3.symm).trans hl
    refine ⟨_,rfl,A.p,C,A.dx,_,.ref A.ll,rfl,hp,R.c,R.nL,rfl,A.ll,_,rfl,.inl (SqL.of hl),_,_,rfl,rfl,?_⟩
    dsimp only
    rw [show (((us++[v]).length:Nat):Int) - 1=(us.length:Int) by rw [List.length_append];simp]
    exact q
end
abbrev bf:Stmt:=inClass (top 33) 17
theorem jx:aN ["self"] ["self"] (aj bf):=⟨rfl,rfl,rfl,by decide +kernel,rfl,by decide +kernel,by decide +kernel⟩
def uc (K:PySem.W.Frag) (T:fJ) (C cF:Addr):Sp:=fun vs H Q E=>∃ (A:Rs) (ex:List (Str × V)) (day:Int) (us:List V),vs=[.ref A.p]∧H A.p=some (Dz C A ex day)∧SqL K H A.ll us∧TabsOk T H∧(us.length<60→Q .non H)∧(60≤us.length→∀ (e:Addr) (H':Hp),aR T H H'→H' e=none→E (.ref cF) (some e) H')
section
variable {P:Program} {w:World} {K:PySem.W.Frag} {mg:Str→Option Value} {base:Heap} {T:fJ} {C:Addr}
theorem Bu {f cF:Addr} {fd:FuncData} (D:Dm K C "look_at_room" "Roll.look_at_room" bf ["self"] f fd) (B:Blt mg) (R:RC K C) (X_Full:mz K mg "Full" cF) (CL:∃ t,mg "MOST_LICENCES"=some (.int 60 t)):bM P w K mg base (CXE P w) 1 f fd ["self"] (uc K T C cF):=by
  obtain ⟨tL,hMOST_LICENCES⟩:=CL
  refine D.F.okX jx (fun vs H Q E h=>?_) (fun cdv A outer s H vs Q E hr h=>?_)
  · obtain ⟨_,_,_,_,rfl,_⟩:=h;rfl
  · obtain ⟨A,ex,day,us,rfl,hp,hl,tk,q,qx⟩:=h
    refine ⟨_,(aD (eN (aY Mj (aJ aF rfl B.len PySem.boot_len (aC (eO (pv 0) rfl) aq)) (fH (v:=.int (60)) rfl hMOST_LICENCES ⟨_,rfl⟩) (bx _))
        (aD (gR iJ rfl (fun _ _ z=>z) rfl X_Full.m X_Full.q (aC iG aq)))
        bA)),?_⟩
    refine ⟨_,rfl,A.p,C,A.dx,_,.ref A.ll,rfl,hp,R.c,R.nL,rfl,A.ll,_,rfl,.inl hl,_,_,rfl,rfl,_,rfl,ifD (fun h=>?_) (fun h=>?_)⟩
    · have h:(60:Int)≤(us.length:Int):=h
      exact ⟨szl,fun e he=>qx (by omega) e H (aR.refl tk) he⟩
    · have h:¬ (60:Int)≤(us.length:Int):=h
      exact q (by omega)
end
abbrev aU:Stmt:=inClass (top 33) 15
theorem iY:aN ["self","number"] ["self","number"] (aj aU):=⟨rfl,rfl,rfl,by decide +kernel,rfl,by decide +kernel,by decide +kernel⟩
def mD (K:PySem.W.Frag) (T:fJ) (C cN:Addr):Sp:=fun vs H Q E=>∃ (A:Rs) (ex:List (Str × V)) (day:Int) (us:List V) (n:Int),vs=[.ref A.p,.int n]∧H A.p=some (Dz C A ex day)∧SqL K H A.ll us∧TabsOk T H∧(0≤n→n<us.length→Q .non H)∧(¬ (0≤n∧n<us.length)→∀ (e:Addr) (H':Hp),aR T H H'→H' e=none→E (.ref cN) (some e) H')
section
variable {P:Program} {w:World} {K:PySem.W.Frag} {mg:Str→Option Value} {base:Heap} {T:fJ} {C:Addr}
theorem qd {f cN:Addr} {fd:FuncData} (D:Dm K C "look_at_number" "Roll.look_at_number" aU ["self","number"] f fd) (B:Blt mg) (R:RC K C) (X_NoNumber:mz K mg "NoNumber" cN):bM P w K mg base (CXE P w) 1 f fd ["self","number"] (mD K T C cN):=by
  refine D.F.okX iY (fun vs H Q E h=>?_) (fun cdv A outer s H vs Q E hr h=>?_)
  · obtain ⟨_,_,_,_,_,rfl,_⟩:=h;rfl
  · obtain ⟨A,ex,day,us,n,rfl,hp,hl,tk,q,qx⟩:=h
    refine ⟨_,(aD (eN (jC (iU jJ nC aA (pv 1) (aJ aF rfl B.len PySem.boot_len (aC (eO (pv 0) rfl) aq))))
        (aD (gR iJ rfl (fun _ _ z=>z) rfl X_NoNumber.m X_NoNumber.q (aC iG aq)))
        bA)),?_⟩
    refine ⟨_,rfl,_,_,rfl,rfl,_,rfl,ifD (fun h1=>?_) (fun h1=>?_)⟩
    rotate_left
    · refine ⟨_,rfl,nJ ⟨szl,fun e he=>qx (fun z=>h1 z.1) e H (aR.refl tk) he⟩⟩
    refine ⟨_,rfl,A.p,C,A.dx,_,.ref A.ll,rfl,hp,R.c,R.nL,rfl,A.ll,_,rfl,.inl hl,_,_,rfl,rfl,_,rfl,ifN (ifD (fun h2=>?_) (fun h2=>?_))⟩
    · exact q h1 h2
    · exact ⟨szl,fun e he=>qx (fun z=>h2 z.2) e H (aR.refl tk) he⟩
end
abbrev aM:Stmt:=inClass (top 33) 16
theorem iZ:aN ["self","number","holder"] ["self","number","holder"] (aj aM):=⟨rfl,rfl,rfl,by decide +kernel,rfl,by decide +kernel,by decide +kernel⟩
def jX (K:PySem.W.Frag) (T:fJ) (C cN cY:Addr):Sp:=fun vs H Q E=>∃ (A:Rs) (ex:List (Str × V)) (day:Int) (us:List V) (ns:List Str) (n:Int) (y:Str),vs=[.ref A.p,.int n,.str y]∧H A.p=some (Dz C A ex day)∧SqL K H A.ll us∧SqL K H A.ln (ns.map V.str)∧us.length=ns.length∧Vb ex∧TabsOk T H ∧
  (0≤n→n<ns.length→ns[n.toNat]?=some y→Q .non H)∧(¬ (0≤n∧n<ns.length)→∀ (e:Addr) (H':Hp),aR T H H'→H' e=none→E (.ref cN) (some e) H') ∧
  (0≤n→n<ns.length→ns[n.toNat]?≠some y→∀ (e:Addr) (H':Hp),aR T H H'→H' e=none→E (.ref cY) (some e) H')
section
variable {P:Program} {w:World} {K:PySem.W.Frag} {mg:Str→Option Value} {base:Heap} {T:fJ} {C:Addr}
theorem qe {f f1 cN cY:Addr} {fd fd1:FuncData} (D:Dm K C "look_at_holder" "Roll.look_at_holder" aM ["self","number","holder"] f fd) (B:Blt mg) (R_Roll:RC K C) (X_NotYours:mz K mg "NotYours" cY)
    (bW:Dm K C "look_at_number" "Roll.look_at_number" aU ["self","number"] f1 fd1) (jl:bM P w K mg base (CXE P w) 1 f1 fd1 ["self","number"] (mD K T C cN)) :
    bM P w K mg base (CXE P w) 2 f fd ["self","number","holder"] (jX K T C cN cY):=by
  have R:=R_Roll
  refine D.F.okX iZ (fun vs H Q E h=>?_) (fun cdv A outer s H vs Q E hr h=>?_)
  · obtain ⟨_,_,_,_,_,_,_,rfl,_⟩:=h;rfl
  · obtain ⟨A,ex,day,us,ns,n,y,rfl,hp,hl,hn,hul,hex,tk,q,qN,qY⟩:=h
    refine ⟨_,(au (bV (jj (pv 0) R_Roll.c bW.m jl (hr.mono (by decide)) bW.b .nil p7 (aC (pv 1) aq)))
      (aD (eN (aY p8 (cG aX (eO (pv 0) rfl) (pv 1) (fun _ _=>rfl)) (pv 2) (bx _))
        (aD (gR iJ rfl (fun _ _ z=>z) rfl X_NotYours.m X_NotYours.q (aC iG aq)))
        bA))),?_⟩
    refine ⟨_,rfl,A.p,A.dx,_,rfl,hp,hex.num,_,rfl,A,ex,day,us,n,rfl,hp,hl,tk,fun h0 h1=>?_,fun h=>qN (fun z=>h (by omega))⟩
    obtain ⟨k,rfl⟩:=Int.eq_ofNat_of_zero_le h0
    obtain ⟨x,hx⟩:∃ x,ns[k]?=some x:=⟨_,List.getElem?_eq_getElem (by omega)⟩
    refine ⟨_,rfl,A.p,C,A.dx,_,.ref A.ln,rfl,hp,R.c,R.nN,rfl,_,rfl,A.ln,_,_,_,rfl,rfl,hn,gP (show (ns.map V.str)[k]?=some (.str x) by rw [List.getElem?_map,hx];rfl),_,rfl,rfl,_,rfl,ifN (ifD (fun h=>?_) (fun h=>?_))⟩
    · exact q h0 (by omega) (by rw [Int.toNat_natCast,hx,V.str.inj h])
    · refine ⟨szl,fun e he=>?_⟩
      exact qY h0 (by omega) (fun z=>h (by rw [Int.toNat_natCast,hx] at z;rw [Option.some.inj z])) e H (aR.refl tk) he
end
theorem Dt {S:RS} {n:Int} {k:Nat} {l:Lic} (e:n=(k:Int)) (h:S.ls[k]?=some l):S.at_ n=l:=by
  unfold RS.at_
  rw [e,Int.toNat_natCast,List.getD_eq_getElem?_getD,h];rfl
section
variable {K:PySem.W.Frag} {T:fJ} {C:Addr} {c:Ec} {A:Rs} {ex:List (Str × V)} {r:List Int} {H0 H:Hp} {B:List (Addr × HO)} {S S':RS} {d:Ln} {v:V} {Q:VK} {E:XK} {n:Int} {y:Str} {k:Except EK RS} {ek:EK}
theorem CG (h:¬ (0≤n∧n<S.ls.length)):S.tO n y k=.error .number:=if_pos h
theorem tu (h0:0≤n) (h1:n<S.ls.length) (h:S.ns[n.toNat]?≠some y):S.tO n y k=.error .yours:=by unfold RS.tO;rw [if_neg (not_not_intro ⟨h0,h1⟩),if_pos h]
theorem Aj (h0:0≤n) (h1:n<S.ls.length) (h:S.ns[n.toNat]?=some y):S.tO n y k=k:=by unfold RS.tO;rw [if_neg (not_not_intro ⟨h0,h1⟩),if_neg (not_not_intro h)]
theorem After.tO {k:Except EK RS} (q:After K T C c A ex r H0 H B S d v Q E) (hk:step r S d=S.tO n y k) (hnn:S.ns.length=S.ls.length) :
    (¬ (0≤n∧n<S.ns.length)→∀ (e:Addr) (H':Hp),aR T H H'→H' e=none→E (.ref c.number) (some e) H')∧(0≤n→n<S.ns.length→S.ns[n.toNat]?≠some y→∀ (e:Addr) (H':Hp),aR T H H'→H' e=none→E (.ref c.yours) (some e) H') :=
  ⟨fun h=>q.2 .number (hk.trans (CG (by rw [← hnn];exact h))),fun h0 h1 h=>q.2 .yours (hk.trans (tu h0 (by rw [← hnn];exact h1) h))⟩
end
abbrev dM:Stmt:=inClass (top 33) 7
theorem oK:aN ["self","number","holder","to"] ["self","number","holder","to"] (aj dM):=⟨rfl,rfl,rfl,by decide +kernel,rfl,by decide +kernel,by decide +kernel⟩
def pR (K:PySem.W.Frag) (T:fJ) (C:Addr) (c:Ec):Sp:=fun vs H Q E=>∃ (A:Rs) (ex:List (Str × V)) (H0:Hp) (B:List (Addr × HO)) (r:List Int) (S:RS) (n:Int) (y z:Str),vs=[.ref A.p,.int n,.str y,.str z]∧RA K T C A ex r H0 H B S∧RP r ex S∧Asc z∧After K T C c A ex r H0 H B S (.sy n y z) .non Q E
section
variable {P:Program} {w:World} {K:PySem.W.Frag} {mg:Str→Option Value} {base:Heap} {T:fJ} {C:Addr} {c:Ec}
theorem Bt {f f1 f2:Addr} {fd fd1 fd2:FuncData} (D:Dm K C "sell" "Roll.sell" dM ["self","number","holder","to"] f fd) (R_Roll:RC K C)
    (aO:Dm K C "look_at_holder" "Roll.look_at_holder" aM ["self","number","holder"] f1 fd1) (eU:bM P w K mg base (CXE P w) 2 f1 fd1 ["self","number","holder"] (jX K T C c.number c.yours))
    (bF:Df K mg "look_at_name" bO ["name"] f2 fd2) (iK:bM P w K mg base (CXE P w) 2 f2 fd2 ["name"] (jG T c.holder)):bM P w K mg base (CXE P w) 3 f fd ["self","number","holder","to"] (pR K T C c):=by
  have R:=R_Roll
  refine D.F.okX oK (fun vs H Q E h=>?_) (fun cdv A outer s H vs Q E hr h=>?_)
  · obtain ⟨_,_,_,_,_,_,_,_,_,rfl,_⟩:=h;rfl
  · obtain ⟨A,ex,H0,L,r,S,n,y,z,rfl,⟨us,vs,O,d0,d1⟩,hp,az,q⟩:=h
    have hul:us.length=S.ls.length:=by rw [d0.length,List.length_map]
    have hvl:vs.length=S.ds.length:=by rw [d1.length,List.length_map]
    have hnn:=hp.nn
    have hdl:=hp.dl
    obtain ⟨qN,qY⟩:=After.tO (n:=n) (y:=y) q rfl hnn
    refine ⟨_,(au (bV (jj (pv 0) R_Roll.c aO.m eU (hr.mono (by decide)) aO.b .nil p7 (aC (pv 1) (aC (pv 2) aq))))
      (au (bV (aW iK (hr.mono (by decide)) rfl bF.m bF.F.kp bF.b .nil p7 (aC (pv 3) aq)))
      (au (kE (pv 3) (qU (eO (pv 0) rfl) (pv 1) set_list))
      (aD (bV (j4 PySem.F.plainAttrs_list PySem.F.slot_list_append PySem.F.type_list_append dg (eO (pv 0) rfl) (aC (ji (aC iG (aC (pv 1) (aC (pv 2) (aC (pv 3) aq))))) aq))))))),?_⟩
    refine ⟨_,rfl,A.p,A.dx,_,rfl,O.get 0,(by exact hp.ex.hol),_,rfl,_,rfl,A,ex,S.day,us,S.ns,n,y,rfl,O.get 0,O.sq 3,O.sq 4,by omega,hp.ex,O.same.t1,fun h0 h1 hx=>?_,qN,qY⟩
    have hst:step r S (.sy n y z)=_:=Aj h0 (by omega) hx
    refine ⟨_,rfl,z,rfl,az,O.same.t1,fun nz H2 s2=>?_,fun nz e H' s' he=>q.2 .holder (hst.trans (if_pos nz)) e H' s' he⟩
    have hst:=hst.trans (if_neg (not_not_intro nz))
    have O:=O.fX s2
    obtain ⟨k,rfl⟩:=Int.eq_ofNat_of_zero_le h0
    rw [Int.toNat_natCast] at hst
    refine ⟨_,rfl,_,rfl,A.p,C,A.dx,_,.ref A.ln,rfl,O.get 0,R.c,R.nN,rfl,_,rfl,?_⟩
    refine Dn O 4 rfl (nH (by rw [List.length_map];omega)) fun H6 O=>?_
    refine ⟨_,rfl,A.p,C,A.dx,_,.ref A.lo,rfl,O.get 0,R.c,R.nO,rfl,.inl ⟨rfl,_,O.sq 5⟩,_,rfl,_,rfl,_,rfl,szl,fun t2 ht2=>?_⟩
    walk_at "nw"
    refine ⟨A.lo,_,_,rfl,rfl,O.get 6,bH (by omega),?_⟩
    generalize hE:upd _ _ _=Hn
    have O:=Ow.mG O 6 rfl hE rfl
    obtain ⟨Hb,O,sb,e2⟩:=(show Ow T H0 Hn ((t2,.tup [.str "sell",.int (k:Int),.str y,.str z]) :: (RX C A ex r S.day us (S.ns.set k z) (vs++[V.ref t2])++L) ) from by simp only [RX,List.map_set];exact O).frz
    refine q.1 _ hst Hb _ sb ⟨us,vs++[V.ref t2],O,d0.mo sb,?_⟩
    rw [List.map_append]
    exact (d1.mo sb).append (.cons (.tuple (SqT.of e2) (.cons (.str _) (.cons (.int _) (.cons (.str _) (.cons (.str _) .nil))))) .nil)
end
abbrev eG:Stmt:=inClass (top 33) 6
theorem jh:aN ["self","holder","start","most","back","stop","one"] ["self","holder","start","most","back"] (aj eG):=⟨rfl,rfl,rfl,by decide +kernel,rfl,by decide +kernel,by decide +kernel⟩
def ug (K:PySem.W.Frag) (T:fJ) (C:Addr) (c:Ec):Sp:=fun vs H Q E=>∃ (A:Rs) (ex:List (Str × V)) (H0:Hp) (B:List (Addr × HO)) (r:List Int) (S:RS) (x:Str) (st m b:Int) (bv:V),vs=[.ref A.p,.str x,.int st,.int m,bv]∧(bv=.non∧b=-1∨bv=.int b)∧RA K T C A ex r H0 H B S∧RP r ex S∧Asc x∧After K T C c A ex r H0 H B S (.file x st m b) (.int (S.ls.length:Int)) Q E
theorem Lz {j:Nat} {σ:St} {H:Hp} {Q:VK} {bv:V} {stop:Int} (hb:bv=.non∧stop=-1∨bv=.int stop) (hj:σ[j]?=some (some bv)) (h:Q (.int stop) H) :
    tIf (Lw (tOp (fun x y H Q=>y=V.non∧Q (V.bl (decide (x=V.non))) H) (Ub j) (tC V.non))) (tC (V.int (-1))) (Ub j) σ H Q:=by
  refine ⟨bv,hj,rfl,_,rfl,?_⟩
  rcases hb with ⟨rfl,rfl⟩ | rfl
  · exact nJ h
  · exact nM ⟨_,hj,h⟩
section
variable {P:Program} {w:World} {K:PySem.W.Frag} {mg:Str→Option Value} {base:Heap} {T:fJ} {C:Addr} {c:Ec}
theorem BJ {f f1 f2 f3 f4:Addr} {fd fd1 fd2 fd3 fd4:FuncData} (D:DmD K C "file" "Roll.file" eG ["self","holder","start","most","back"] f fd) (B:Blt mg) (CM:Mth mg) (R_Roll:RC K C) (X_NoLicence:mz K mg "NoLicence" c.licence)
    (bF:Df K mg "look_at_name" bO ["name"] f1 fd1) (iK:bM P w K mg base (CXE P w) 2 f1 fd1 ["name"] (jG T c.holder))
    (fO:Df K mg "is_licence" dw ["below","one"] f2 fd2) (pF:bM P w K mg base CX0 2 f2 fd2 ["below","one"] (qL K T))
    (cD:Dm K C "look_at_room" "Roll.look_at_room" bf ["self"] f3 fd3) (jN:bM P w K mg base (CXE P w) 1 f3 fd3 ["self"] (uc K T C c.full))
    (gO:Dm K C "enter" "Roll.enter" dI ["self","one","holder"] f4 fd4) (pL:bM P w K mg base CX0 1 f4 fd4 ["self","one","holder"] (qO C)) :
    bM P w K mg base (CXE P w) 3 f fd ["self","holder","start","most","back"] (ug K T C c):=by
  obtain ⟨tM,hMOUTH⟩:=CM.MOUTH
  have R:=R_Roll
  refine D.F.okX jh (fun vs H Q E h=>?_) (fun cdv A outer s H vs Q E hr h=>?_)
  · obtain ⟨_,_,_,_,_,_,_,_,_,_,_,rfl,_⟩:=h;rfl
  · obtain ⟨A,ex,H0,L,r,S,x,st,m,b,bv,rfl,hb,⟨us,vs,O,d0,d1⟩,hp,ax,q⟩:=h
    have hul:us.length=S.ls.length:=by rw [d0.length,List.length_map]
    have hvl:vs.length=S.ds.length:=by rw [d1.length,List.length_map]
    have hnn:=hp.nn
    have hdl:=hp.dl
    have hr40:=hp.r40
    have hl60:=hp.l60
    have sA:=aR.refl O.same.t1
    refine ⟨_,(au (bV (aW iK (hr.mono (by decide)) rfl bF.m bF.F.kp bF.b .nil p7 (aC (pv 1) aq)))
      (au (bh (i:=5) jh.nd rfl (Or.inl rfl) (Bh (aY Dp (pv 4) qW (bx _)) (fH (v:=.int (-1)) rfl hMOUTH ⟨_,rfl⟩) (pv 4)))
      (au (bh (i:=6) jh.nd rfl (Or.inl rfl) (ji (aC (eO (pv 0) rfl) (aC (pv 2) (aC (pv 5) (aC (pv 3) aq))))))
      (au (eN (PW.pt (pw_or (aY jy (pv 3) aA (bx _)) (pw_or1 (jC (jB (aW pF (hr.mono (by decide)) rfl fO.m fO.F.kp fO.b .nil bZ (aC (eO (pv 0) rfl) (aC (pv 6) aq))))))))
        (aD (gR iJ rfl (fun _ _ z=>z) rfl X_NoLicence.m X_NoLicence.q (aC iG aq)))
        bA)
      (au (bV (dO (pv 0) R_Roll.c cD.m jN (hr.mono (by decide)) cD.b .nil p7))
      (au (bV (j4 PySem.F.plainAttrs_list PySem.F.slot_list_append PySem.F.type_list_append dg (eO (pv 0) rfl) (aC (ji (aC iG (aC (pv 1) (aC (pv 2) (aC (pv 3) (aC (pv 5) aq)))))) aq)))
      (aD (bC (jj (pv 0) R_Roll.c gO.m pL (hr.mono (by decide)) gO.b .nil bZ (aC (pv 6) (aC (pv 1) aq))))))))))),?_⟩
    refine ⟨_,rfl,x,rfl,ax,O.same.t1,fun nx H1 s1=>?_,fun nx e H' s' he=>q.2 .holder (if_pos nx) e H' s' he⟩
    have hst:step r S (.file x st m b)=_:=if_neg (not_not_intro nx)
    have O:=O.fX s1
    refine Lz hb rfl ?_
    refine ⟨_,rfl,A.p,C,A.dx,_,.int S.day,rfl,O.get 0,R.c,R.nD,rfl,_,rfl,_,rfl,_,rfl,szl,fun t1 ht1=>?_⟩
    generalize hE:upd _ _ _=Hn
    have s2:aR T H Hn:=hE ▸ s1.upd (s1.free ht1) (.inl ht1)
    replace O:=Ow.mkE O ht1 hE rfl
    clear hE
    refine ⟨_,rfl,rfl,_,rfl,ifI (fun m0=>?_) (fun m0=>?_)⟩
    · exact ⟨szl,fun e he=>q.2 .licence (hst.trans (if_pos (.inl m0))) e _ s2 he⟩
    refine ⟨_,rfl,A.p,C,A.dx,_,.ref A.lb,rfl,O.get 1,R.c,R.nB,rfl,_,rfl,A.lb,t1,r,⟨S.day,st,b,m⟩,rfl,O.sq 3,hp.rv,by omega,O.sqT 0,O.same.t1,fun bb H2 s3 hb2=>?_⟩
    have O:=O.fX s3
    cases bb with
    | false=>exact ⟨_,rfl,nJ ⟨szl,fun e he=>q.2 .licence (hst.trans (if_pos (.inr fun z=>nomatch hb2.mpr z))) e _ (s2.trans s3) he⟩⟩
    | true =>
    refine ⟨_,rfl,nM ?_⟩
    have hl:=hb2.mp rfl
    have hst:=hst.trans (if_neg (show ¬ (m=0∨¬ Ao r ⟨S.day,st,b,m⟩) from fun z=>z.elim m0 fun w=>w hl))
    refine ⟨_,rfl,A.p,A.dx,_,rfl,O.get 1,(by exact hp.ex.room),A,ex,S.day,us,rfl,O.get 1,O.sq 4,O.same.t1,fun h4=>?_,fun h4 e H' s' he=>q.2 .full (hst.trans (if_pos (by omega))) e H' ((s2.trans s3).trans s') he⟩
    have hst:=hst.trans (if_neg (by omega))
    refine ⟨_,rfl,A.p,C,A.dx,_,.ref A.lo,rfl,O.get 1,R.c,R.nO,rfl,.inl ⟨rfl,_,O.sq 6⟩,_,rfl,_,rfl,_,rfl,_,rfl,szl,fun t2 ht2=>?_⟩
    walk_at "nw"
    refine ⟨A.lo,_,_,rfl,rfl,O.get 7,bH (by omega),?_⟩
    generalize hE:upd _ _ _=Hn2
    replace O:=Ow.mG O 7 rfl hE rfl
    clear hE
    refine ⟨_,rfl,A.p,A.dx,_,rfl,O.get 2,(by exact hp.ex.ent),_,rfl,_,rfl,A,ex,S.day,us,S.ns.map V.str,.ref t1,.str x,rfl,O.get 2,O.get 5,O.get 6,by omega,by rw [List.length_map];omega,O.ne 2 5,O.ne 2 6,O.ne 6 5,?_⟩
    have O:=(O.Uc 5 rfl (o':=.lst (us++[.ref t1])) rfl).Uc 6 rfl (o':=.lst (S.ns.map V.str++[.str x])) rfl
    rw [hul]
    obtain ⟨Hb,O,sb,e2⟩:=(show Ow T H0 _ ((t2,.tup [.str "file",.str x,.int st,.int m,.int b]) :: (t1,.tup (Lr ⟨S.day,st,b,m⟩)) :: (RX C A ex r S.day (us++[.ref t1]) (S.ns++[x]) (vs++[V.ref t2])++L)) from by simp only [RX,List.map_append,List.map_cons,List.map_nil];exact O).frz
    obtain ⟨Hc,O,sc,e1⟩:=O.frz
    have e2:=sc.keep _ _ e2 (fun _ z=>nomatch z)
    have sx:=sb.trans sc
    refine q.1 _ hst Hc _ sx ⟨us++[V.ref t1],vs++[V.ref t2],O,?_,?_⟩
    · rw [List.map_append]
      exact (d0.mo sx).append (.cons (Den.lic (l:=⟨S.day,st,b,m⟩) (SqT.of e1)) .nil)
    · rw [List.map_append]
      exact (d1.mo sx).append (.cons (.tuple (SqT.of e2) (.cons (.str _) (.cons (.str _) (.cons (.int _) (.cons (.int _) (.cons (.int _) .nil)))))) .nil)
end
abbrev bT:Stmt:=inClass (top 33) 0
theorem kJ:aN ["self","below"] ["self","below"] (aj bT):=⟨rfl,rfl,rfl,by decide +kernel,rfl,by decide +kernel,by decide +kernel⟩
def uf (K:PySem.W.Frag) (T:fJ) (C:Addr) (c:Ec):Sp:=fun vs H Q E=>∃ (p dx lv:Addr) (H0:Hp) (B:List (Addr × HO)) (r:List Int),vs=[.ref p,.ref lv]∧Ow T H0 H ((p,.ins C dx []) :: (dx,.own p) :: B)∧SqL K H lv (r.map V.int)∧r.length≤900 ∧
  (Rv.isR r=true→∀ (A:Rs) (H':Hp),A.p=p→Ow T H0 H' (RX C A [] r 0 [] [] []++B)→Q .non H')∧(Rv.isR r=false→∀ (e:Addr) (H':Hp),aR T H H'→H' e=none→E (.ref c.oR) (some e) H')
section
variable {P:Program} {w:World} {K:PySem.W.Frag} {mg:Str→Option Value} {base:Heap} {T:fJ} {C:Addr} {c:Ec}
theorem Bw {f f1 C':Addr} {fd fd1:FuncData} (D:Dm K C' "__init__" "Roll.__init__" bT ["self","below"] f fd) (B:Blt mg) (R:RC K C) (X_NoRiver:mz K mg "NoRiver" c.oR)
    (gV:Df K mg "is_river" dY ["below"] f1 fd1) (tE:bM P w K mg base CX0 2 f1 fd1 ["below"] (Dh K)) :
    bM P w K mg base (CXE P w) 3 f fd ["self","below"] (uf K T C c):=by
  refine D.F.okX kJ (fun vs H Q E h=>?_) (fun cdv A outer s H vs Q E hr h=>?_)
  · obtain ⟨_,_,_,_,_,_,rfl,_⟩:=h;rfl
  · obtain ⟨p,dx,lv,H0,L,r,rfl,O,hv,r9,q,qx⟩:=h
    refine ⟨_,(@au _ _ _ _ _ (@eN _ _ _ _ _ _ _ _ (jC (jB (aW tE (hr.mono (by decide)) rfl gV.m gV.F.kp gV.b .nil bZ (@aB _ _ _ _ _ (pv 1) aq rfl))))
        (@aD _ _ _ (gR iJ rfl (fun _ _ z=>z) rfl X_NoRiver.m X_NoRiver.q (@aB _ _ _ _ _ iG aq rfl)))
        bA)
      (@au _ _ _ _ _ (jD (pv 0) (gH dJ rfl B.list PyProof.Rows.boot_list (@aB _ _ _ _ _ (pv 1) aq rfl)) rfl)
      (@au _ _ _ _ _ (jD (pv 0) aA rfl)
      (@au _ _ _ _ _ (jD (pv 0) (@cI _ _ _ _ aq) rfl)
      (@au _ _ _ _ _ (jD (pv 0) (@cI _ _ _ _ aq) rfl)
      (@aD _ _ _ (jD (pv 0) (@cI _ _ _ _ aq) rfl))))))),?_⟩
    refine ⟨_,rfl,lv,r,rfl,hv,by omega,fun H1 s1=>?_⟩
    have s1:=aR.of O.same.t1 s1
    cases hR:Rv.isR r with
    | false=>exact ⟨_,rfl,nJ ⟨szl,fun e he=>qx hR e _ s1 he⟩⟩
    | true =>
    refine ⟨_,rfl,nM ?_⟩
    have hv:=s1.seq hv
    have O:=O.fX s1
    refine ⟨_,rfl,lv,_,rfl,.inl hv,fun lb hlb=>?_⟩
    walk_at "nw"
    refine ⟨_,rfl,p,C,dx,_,rfl,O.get 1,R.c,R.nB,(by show 0<1000;decide),?_⟩
    walk_at "pt"
    refine ⟨_,rfl,p,C,dx,_,rfl,O.get 1,R.c,R.nD,(by show 1<1000;decide),?_⟩
    walk_at "pt"
    refine ⟨szl,fun ll hll=>?_⟩
    walk_at "nw"
    refine ⟨_,rfl,p,C,dx,_,rfl,O.get 2,R.c,R.nL,(by show 2<1000;decide),?_⟩
    walk_at "pt"
    refine ⟨szl,fun ln hln=>?_⟩
    walk_at "nw"
    refine ⟨_,rfl,p,C,dx,_,rfl,O.get 3,R.c,R.nN,(by show 3<1000;decide),?_⟩
    walk_at "pt"
    refine ⟨szl,fun lo hlo=>?_⟩
    walk_at "nw"
    refine ⟨_,rfl,p,C,dx,_,rfl,O.get 4,R.c,R.nO,(by show 4<1000;decide),?_⟩
    walk_at "pt"
    have O:=((((O.pull 1 rfl).pull 2 rfl).pull 3 rfl).pull 5 rfl).pull 5 rfl
    exact q hR ⟨p,dx,lb,ll,ln,lo⟩ _ rfl O
end
def rT:Ln→Prop
  | .file x _ _ _=>Asc x
  | .sy _ y z=>Asc y∧Asc z
  | .part _ y _ z=>Asc y∧Asc z
  | .drop _ y=>Asc y
  | .move _ y _=>Asc y
  | .lapse xs=>xs.length≤1000
  | .turn=>True
theorem Sh.str (n:Nat) {x:Str} (h:Asc x):Sh n (.str x):=by
  refine ⟨?_,by simp [PyData.depth]⟩
  rw [PyData.canLay0]
  show x.cps.all (·<0x110000)=true
  rw [Array.all_eq_true]
  intro i hi
  have:=of_decide_eq_true (Array.all_eq_true.mp h.1 i hi)
  exact decide_eq_true (by omega)
theorem iV:∀ x∈(["turn","file","sell","part","drop","move","lapse"]:List Str),Asc x:=fun x hx=>by
  simp only [List.mem_cons,List.not_mem_nil,or_false] at hx
  rcases hx with rfl | rfl | rfl | rfl | rfl | rfl | rfl <;> exact ⟨by decide +kernel,by decide +kernel⟩
theorem Sh.deed {d:Ln} (h:rT d):Sh 2 (nU d):=by
  cases d with
  | turn =>
    exact .tuple fun e he=>by
      simp only [List.mem_cons,List.not_mem_nil,or_false] at he
      subst he;exact Sh.str _ (iV _ (by simp))
  | file x s m b =>
    exact .tuple fun e he=>by
      simp only [List.mem_cons,List.not_mem_nil,or_false] at he
      rcases he with rfl | rfl | rfl | rfl | rfl
      · exact Sh.str _ (iV _ (by simp))
      · exact Sh.str _ h
      · exact Sh.int _ _
      · exact Sh.int _ _
      · exact Sh.int _ _
  | sy n y z =>
    exact .tuple fun e he=>by
      simp only [List.mem_cons,List.not_mem_nil,or_false] at he
      rcases he with rfl | rfl | rfl | rfl
      · exact Sh.str _ (iV _ (by simp))
      · exact Sh.int _ _
      · exact Sh.str _ h.1
      · exact Sh.str _ h.2
  | part n y m z =>
    exact .tuple fun e he=>by
      simp only [List.mem_cons,List.not_mem_nil,or_false] at he
      rcases he with rfl | rfl | rfl | rfl | rfl
      · exact Sh.str _ (iV _ (by simp))
      · exact Sh.int _ _
      · exact Sh.str _ h.1
      · exact Sh.int _ _
      · exact Sh.str _ h.2
  | drop n y =>
    exact .tuple fun e he=>by
      simp only [List.mem_cons,List.not_mem_nil,or_false] at he
      rcases he with rfl | rfl | rfl
      · exact Sh.str _ (iV _ (by simp))
      · exact Sh.int _ _
      · exact Sh.str _ h
  | move n y s =>
    exact .tuple fun e he=>by
      simp only [List.mem_cons,List.not_mem_nil,or_false] at he
      rcases he with rfl | rfl | rfl | rfl
      · exact Sh.str _ (iV _ (by simp))
      · exact Sh.int _ _
      · exact Sh.str _ h
      · exact Sh.int _ _
  | lapse xs =>
    exact .tuple fun e he=>by
      simp only [List.mem_cons,List.not_mem_nil,or_false] at he
      rcases he with rfl | rfl
      · exact Sh.str _ (iV _ (by simp))
      · exact .tuple fun e he=>by
          obtain ⟨i,_,rfl⟩:=List.mem_map.mp he
          exact Sh.int _ _
theorem Sh.U7 {ds:List Ln} (h:∀ d∈ds,rT d):Sh 3 (.list (ds.map nU)):=.list fun e he=>by
  obtain ⟨d,hd,rfl⟩:=List.mem_map.mp he
  exact Sh.deed (h d hd)
structure Bx where
  ld:Addr
  lk:Addr
  lr:Addr
  lg:Addr
  la:V
abbrev exB (Z:Bx):List (Str × V):=[("dug",.ref Z.ld),("keeps",.ref Z.lk),("ran",.ref Z.lr),("last",Z.la),("greatest",.ref Z.lg)]
abbrev BL (Z:Bx) (gs rs ks us:List V):List (Addr × HO):=[(Z.lg,.lst gs),(Z.lr,.lst rs),(Z.lk,.lst ks),(Z.ld,.lst us)]
theorem Ld (Z:Bx):Vb (exB Z):=⟨rfl,rfl,rfl,rfl,rfl,rfl,rfl,rfl,rfl,rfl,rfl,rfl,rfl,rfl,rfl,rfl,rfl⟩
abbrev Oi:List Str:=["below","day","licences","names","done","dug","keeps","ran","last","greatest"]
structure BC (K:PySem.W.Frag) (C:Addr):Prop where
  c:Cls K C
  r:RC K C
  nD:gK K C "dug"
  nK:gK K C "keeps"
  nR:gK K C "ran"
  nL:gK K C "last"
  nG:gK K C "greatest"
theorem Oj {K:PySem.W.Frag} {mg:Str→Option Value} {C f0:Addr} (R:Cl K mg "Book" C f0 Oi):BC K C:=by
  have n:=R.n
  simp only [Oi,List.mem_cons,List.not_mem_nil,or_false,forall_eq_or_imp,forall_eq] at n
  obtain ⟨a1,a2,a3,a4,a5,a6,a7,a8,a9,a10⟩:=n
  exact ⟨R.c,⟨R.c,a1,a2,a3,a4,a5⟩,a6,a7,a8,a9,a10⟩
theorem Ow.front {T:fJ} {H0 H:Hp} (X R B:List (Addr × HO)) (O:Ow T H0 H (X++(R++B))):Ow T H0 H (R++(X++B)):=O.perm (List.perm_append_comm_assoc _ _ _)
abbrev bU:Stmt:=inClass (top 36) 0
theorem kW:aN ["self","below"] ["self","below"] (aj bU):=⟨rfl,rfl,rfl,by decide +kernel,rfl,by decide +kernel,by decide +kernel⟩
def qQ (K:PySem.W.Frag) (T:fJ) (C:Addr) (c:Ec):Sp:=fun vs H Q E=>∃ (p dx lv:Addr) (H0:Hp) (B:List (Addr × HO)) (r:List Int),vs=[.ref p,.ref lv]∧Ow T H0 H ((p,.ins C dx []) :: (dx,.own p) :: B)∧SqL K H lv (r.map V.int)∧r.length≤900 ∧
  (Rv.isR r=true→∀ (A:Rs) (Z:Bx) (H':Hp),A.p=p→Z.la=.non→Ow T H0 H' (RX C A (exB Z) r 0 [] [] []++(BL Z [] [] [] []++B))→Q .non H')∧(Rv.isR r=false→∀ (e:Addr) (H':Hp),aR T H H'→H' e=none→E (.ref c.oR) (some e) H')
section
variable {P:Program} {w:World} {K:PySem.W.Frag} {mg:Str→Option Value} {base:Heap} {T:fJ} {C CR:Addr} {c:Ec}
theorem BP {f f1:Addr} {fd fd1:FuncData} (D:Dm K C "__init__" "Book.__init__" bU ["self","below"] f fd) (R_Book:BC K C) (N_Roll:mg "Roll"=some (.ref CR)) (F_Roll___init__:ClF K CR f1 "__init__")
    (gn:Dm K CR "__init__" "Roll.__init__" bT ["self","below"] f1 fd1) (lV:bM P w K mg base (CXE P w) 3 f1 fd1 ["self","below"] (uf K T C c)) :
    bM P w K mg base (CXE P w) 4 f fd ["self","below"] (qQ K T C c):=by
  have R:=R_Book
  refine D.F.okX kW (fun vs H Q E h=>?_) (fun cdv A outer s H vs Q E hr h=>?_)
  · obtain ⟨_,_,_,_,_,_,rfl,_⟩:=h;rfl
  · obtain ⟨p,dx,lv,H0,L,r,rfl,O,hv,r9,q,qx⟩:=h
    refine ⟨_,(@au _ _ _ _ _ (bV (Mi rfl N_Roll F_Roll___init__ lV (hr.mono (by decide)) gn.b .nil p7 (@aB _ _ _ _ _ (pv 0) (@aB _ _ _ _ _ (pv 1) aq rfl) rfl)))
      (@au _ _ _ _ _ (jD (pv 0) (@cI _ _ _ _ aq) rfl)
      (@au _ _ _ _ _ (jD (pv 0) (@cI _ _ _ _ aq) rfl)
      (@au _ _ _ _ _ (jD (pv 0) (@cI _ _ _ _ aq) rfl)
      (@au _ _ _ _ _ (jD (pv 0) qW rfl)
      (@aD _ _ _ (jD (pv 0) (@cI _ _ _ _ aq) rfl))))))),?_⟩
    refine ⟨_,rfl,_,rfl,p,dx,lv,H0,_,r,rfl,O,hv,r9,fun hR A H5 eA O5=>?_,fun hR e H' s he=>qx hR e H' s he⟩
    clear O
    subst eA
    have O:=O5
    clear O5
    refine ⟨szl,fun ld hld=>?_⟩
    walk_at "nw"
    refine ⟨_,rfl,A.p,C,A.dx,_,rfl,O.get 1,R.c,R.nD,(by show 5<1000;decide),?_⟩
    walk_at "pt"
    refine ⟨szl,fun lk hlk=>?_⟩
    walk_at "nw"
    refine ⟨_,rfl,A.p,C,A.dx,_,rfl,O.get 2,R.c,R.nK,(by show 6<1000;decide),?_⟩
    walk_at "pt"
    refine ⟨szl,fun lr hlr=>?_⟩
    walk_at "nw"
    refine ⟨_,rfl,A.p,C,A.dx,_,rfl,O.get 3,R.c,R.nR,(by show 7<1000;decide),?_⟩
    walk_at "pt"
    refine ⟨_,rfl,A.p,C,A.dx,_,rfl,O.get 3,R.c,R.nL,(by show 8<1000;decide),?_⟩
    walk_at "pt"
    refine ⟨szl,fun lg hlg=>?_⟩
    walk_at "nw"
    refine ⟨_,rfl,A.p,C,A.dx,_,rfl,O.get 4,R.c,R.nG,(by show 9<1000;decide),?_⟩
    walk_at "pt"
    exact q hR A ⟨ld,lk,lr,lg,.non⟩ _ rfl rfl (Ow.front [(lg,.lst []),(lr,.lst []),(lk,.lst []),(ld,.lst [])] (RX C A (exB ⟨ld,lk,lr,lg,.non⟩) r 0 [] [] []) L O)
end
abbrev cR:Stmt:=inClass (top 36) 2
theorem nj:aN ["self"] ["self"] (aj cR):=⟨rfl,rfl,rfl,by decide +kernel,rfl,by decide +kernel,by decide +kernel⟩
section
variable {P:Program} {w:World} {K:PySem.W.Frag} {mg:Str→Option Value} {base:Heap} {C:Addr}
theorem uT {f:Addr} {fd:FuncData} (D:Dm K C "ponds" "Book.ponds" cR ["self"] f fd) (B:Blt mg) (R:BC K C):bM P w K mg base CX0 1 f fd ["self"] (fD K C "dug"):=by
  refine D.F.ok nj (fun vs H Q E h=>?_) (fun cdv A outer s H vs Q E hr h=>?_)
  · obtain ⟨_,_,_,_,_,rfl,_⟩:=h;rfl
  · obtain ⟨p,dx,l,fs,us,rfl,hp,hf,hl,q⟩:=h
    refine ⟨_,(aD (bC (gH dJ rfl B.list PyProof.Rows.boot_list (aC (eO (pv 0) rfl) aq)))),?_⟩
    exact ⟨_,rfl,p,C,dx,fs,.ref l,rfl,hp,R.c,R.nD,hf,l,us,rfl,.inl hl,q⟩
end
abbrev dN:Stmt:=inClass (top 36) 3
theorem oO:aN ["self"] ["self"] (aj dN):=⟨rfl,rfl,rfl,by decide +kernel,rfl,by decide +kernel,by decide +kernel⟩
section
variable {P:Program} {w:World} {K:PySem.W.Frag} {mg:Str→Option Value} {base:Heap} {C:Addr}
theorem BK {f:Addr} {fd:FuncData} (D:Dm K C "kept" "Book.kept" dN ["self"] f fd) (B:Blt mg) (R:BC K C):bM P w K mg base CX0 1 f fd ["self"] (fD K C "keeps"):=by
  refine D.F.ok oO (fun vs H Q E h=>?_) (fun cdv A outer s H vs Q E hr h=>?_)
  · obtain ⟨_,_,_,_,_,rfl,_⟩:=h;rfl
  · obtain ⟨p,dx,l,fs,us,rfl,hp,hf,hl,q⟩:=h
    refine ⟨_,(aD (bC (gH dJ rfl B.list PyProof.Rows.boot_list (aC (eO (pv 0) rfl) aq)))),?_⟩
    exact ⟨_,rfl,p,C,dx,fs,.ref l,rfl,hp,R.c,R.nK,hf,l,us,rfl,.inl hl,q⟩
end
abbrev dz:Stmt:=top 26
theorem m5:aN ["one"] ["one"] (aj dz):=⟨rfl,rfl,rfl,by decide +kernel,rfl,by decide +kernel,by decide +kernel⟩
def Pg (K:PySem.W.Frag):Sp:=fun vs H Q _=>∃ (t:Addr) (l:Lic),vs=[.ref t]∧SqT K H t (Lr l)∧Q (.bl (!decide (l.back=-1))) H
theorem Uz {f:Addr} {fd:FuncData} (D:Df K mg "gives_back" dz ["one"] f fd) (C:Mth mg):bM P w K mg base CX0 1 f fd ["one"] (Pg K):=by
  obtain ⟨tM,hMOUTH⟩:=C.MOUTH
  refine D.F.ok m5 (fun vs H Q E h=>?_) (fun cdv A outer s H vs Q E hr h=>?_)
  · obtain ⟨_,_,rfl,_⟩:=h;rfl
  · obtain ⟨t,l,rfl,hT,q⟩:=h
    refine ⟨_,(aD (bC (iI p8 (cG kI (pv 0) aA (fun _ _=>rfl)) (fH (v:=.int (-1)) rfl hMOUTH ⟨_,rfl⟩) (bx _)))),?_⟩
    refine ⟨_,rfl,t,_,2,_,rfl,rfl,hT,rfl,rfl,?_⟩
    rw [show decide (V.int l.back=V.int (-1))=decide (l.back=-1) from by simp]
    exact q
abbrev Pd:=Int × Int × Int
def Lb (ps:List Pd) (n:Int):Bool:=(ps.map fun p=>decide (n=p.1)).any id
abbrev bJ:Stmt:=inClass (top 36) 4
theorem kO:aN ["self","number"] ["self","number"] (aj bJ):=⟨rfl,rfl,rfl,by decide +kernel,rfl,by decide +kernel,by decide +kernel⟩
def Di (K:PySem.W.Frag) (T:fJ) (C:Addr):Sp:=fun vs H Q _=>∃ (A:Rs) (Z:Bx) (day n:Int) (us:List V) (ps:List Pd),vs=[.ref A.p,.int n]∧H A.p=some (Dz C A (exB Z) day)∧SqL K H Z.ld us∧d9 K H us (ps.map dMv)∧ps.length≤900∧TabsOk T H∧∀ H',aR T H H'→Q (.bl (Lb ps n)) H'
section
variable {P:Program} {w:World} {K:PySem.W.Frag} {mg:Str→Option Value} {base:Heap} {T:fJ} {C:Addr}
theorem PN {f:Addr} {fd:FuncData} (D:Dm K C "has_pond" "Book.has_pond" bJ ["self","number"] f fd) (B:Blt mg) (R:BC K C):bM P w K mg base CX0 1 f fd ["self","number"] (Di K T C):=by
  refine D.F.ok kO (fun vs H Q E h=>?_) (fun cdv A outer s H vs Q E hr h=>?_)
  · obtain ⟨_,_,_,_,_,_,rfl,_⟩:=h;rfl
  · obtain ⟨A,Z,day,n,us,ps,rfl,hp,hL,d1,h9,tk,q⟩:=h
    have hul:us.length=ps.length:=by rw [d1.length,List.length_map]
    have O:=Ow.refl tk
    refine ⟨_,(@aD _ _ _ (@bC _ _ _ _ (aJ (Cz rfl) rfl B.any PyProof.Rows.boot_any (@aB _ _ _ _ _ (jZ (aj bJ) rfl ["self","number"] rfl ["other","room","leak","number"] [none,none,none,some 1] (by decide +kernel) (by decide +kernel) (by decide +kernel) rfl (jY (eO (pv 0) rfl)) (fun _ _ _=>(Mh (K:=K) (n:=3) rfl rfl (cU (bD (i:=0) (show (["other","room","leak","number"]:List Str).Nodup by decide +kernel) rfl (Or.inl rfl)) (cU (bD (i:=1) (show (["other","room","leak","number"]:List Str).Nodup by decide +kernel) rfl (Or.inl rfl)) (cU (bD (i:=2) (show (["other","room","leak","number"]:List Str).Nodup by decide +kernel) rfl (Or.inl rfl)) lK))))) (fun _ _ _=>jH) (fun _ _ _=>(iI jy (pv 3) (pv 0) (bx _)))) aq rfl)))),?_⟩
    refine ⟨_,rfl,A.p,C,A.dx,_,.ref Z.ld,rfl,hp,R.c,R.nD,rfl,Z.ld,rfl,⟨_,hL⟩,fun lw hlw=>?_⟩
    refine jU (K:=K) (xs:=us) (fun i τ H'=>Iv (∃ (v0 v1 v2:Option V),τ=[v0,v1,v2,some (.int n)]∧Ow T H H' [(lw,.lst (((ps.take i).map fun p:Pd=>decide (n=p.1)).map V.bl))])) ⟨trivial,none,none,none,rfl,O.mk' hlw rfl⟩ (fun i τ H' _ ⟨_,_,_,_,_,O⟩=>O.same.seq hL) ?_ ?_
    · clear O
      rintro i y τ H3 hy ⟨-,v0,v1,v2,rfl,O⟩
      obtain ⟨ap,p,rfl,hp',hT⟩:=d1.Dr hy
      have hi:=(List.getElem?_eq_some_iff.mp hp').1
      refine ⟨ap,_,rfl,hT.mo O.same,rfl,_,_,rfl,_,_,rfl,_,_,rfl,rfl,?_⟩
      refine Ve ?_
      refine ⟨_,rfl,_,rfl,rfl,_,O.get 0,bH (by rw [List.length_map,List.length_map,List.length_take];omega),?_⟩
      walk_at "pt"
      refine ⟨trivial,_,_,_,rfl,?_⟩
      rw [Tn.lD hp',List.map_append,List.map_append]
      rw [show decide (V.int n=V.int p.1)=decide (n=p.1) from by simp] at O
      exact O
    clear O
    rintro τ H3 ⟨-,v0,v1,v2,rfl,O⟩
    rw [hul,List.take_of_length_le (Nat.le_refl _)] at O
    exact ⟨lw,_,rfl,O.sq 0,q _ O.same⟩
end
inductive PK
  | number | yours | pond
def PK.at_ (c:Ec) (cP:Addr):PK→Addr
  | .number=>c.number | .yours=>c.yours | .pond=>cP
open Classical in
noncomputable def jc (S:RS) (ps:List Pd) (n:Int) (y:Str) (room leak:Int):Option PK :=
  if ¬ (0≤n∧n<S.ls.length) then some .number else if S.ns[n.toNat]?≠some y then some .yours else
  if (S.at_ n).back≠-1∨Lb ps n=true∨10≤ps.length∨¬ (0≤room∧room≤1000000000000∧0≤leak∧leak≤1000) then some .pond else none
abbrev eH:Stmt:=inClass (top 36) 1
theorem oN:aN ["self","number","holder","room","leak"] ["self","number","holder","room","leak"] (aj eH):=⟨rfl,rfl,rfl,by decide +kernel,rfl,by decide +kernel,by decide +kernel⟩
def ud (K:PySem.W.Frag) (T:fJ) (C:Addr) (c:Ec) (cP:Addr):Sp:=fun vs H Q E=>∃ (A:Rs) (Z:Bx) (H0:Hp) (B:List (Addr × HO)) (r:List Int) (S:RS) (gs rs ks us:List V) (ps:List Pd) (n:Int) (y:Str) (room leak:Int),vs=[.ref A.p,.int n,.str y,.int room,.int leak] ∧
  RA K T C A (exB Z) r H0 H (BL Z gs rs ks us++B) S∧RP r (exB Z) S∧d9 K H0 us (ps.map dMv)∧ps.length≤900∧ks.length≤900 ∧
  (jc S ps n y room leak=none→∀ (t:Addr) (Hb H':Hp),aR T H0 Hb→RA K T C A (exB Z) r Hb H' (BL Z gs rs (ks++[.int 0]) (us++[.ref t])++B) S→d9 K Hb (us++[.ref t]) ((ps++[(n,room,leak)]).map dMv)→Q (.int (ps.length:Int)) H') ∧
  (∀ k,jc S ps n y room leak=some k→∀ (e:Addr) (H':Hp),aR T H H'→H' e=none→E (.ref (k.at_ c cP)) (some e) H')
section
variable {P:Program} {w:World} {K:PySem.W.Frag} {mg:Str→Option Value} {base:Heap} {T:fJ} {C:Addr} {c:Ec} {cP:Addr}
theorem Mq {f f1 f2 f3 f4:Addr} {fd fd1 fd2 fd3 fd4:FuncData} (D:DmZ K C "pond" "Book.pond" eH ["self","number","holder","room","leak"] f fd) (B:Blt mg) (R_Book:BC K C) (R_Roll:RC K C) (X_NoPond:mz K mg "NoPond" cP) (CP:∃ t,mg "MOST_PONDS"=some (.int 10 t)) (CW:∃ t,mg "WHOLE"=some (.int 1000 t))
    (aO:Dm K C "look_at_holder" "Roll.look_at_holder" aM ["self","number","holder"] f1 fd1) (eU:bM P w K mg base (CXE P w) 2 f1 fd1 ["self","number","holder"] (jX K T C c.number c.yours))
    (fQ:Df K mg "gives_back" dz ["one"] f2 fd2) (pG:bM P w K mg base CX0 1 f2 fd2 ["one"] (Pg K))
    (eV:Dm K C "has_pond" "Book.has_pond" bJ ["self","number"] f3 fd3) (lX:bM P w K mg base CX0 1 f3 fd3 ["self","number"] (Di K T C))
    (dj:Df K mg "is_water" fj ["amount"] f4 fd4) (j8:bM P w K mg base CX0 1 f4 fd4 ["amount"] mX) :
    bM P w K mg base (CXE P w) 3 f fd ["self","number","holder","room","leak"] (ud K T C c cP):=by
  obtain ⟨tP,hMOST_PONDS⟩:=CP
  obtain ⟨tW,hWHOLE⟩:=CW
  obtain ⟨tz,Fz,_⟩:=D.F
  have R:=R_Book
  refine Fz.okX oN (fun vs H Q E h=>?_) (fun cdv A outer s H vs Q E hr h=>?_)
  · obtain ⟨_,_,_,_,_,_,_,_,_,_,_,_,_,_,_,rfl,_⟩:=h;rfl
  · obtain ⟨A,Z,H0,L,r,S,gs,rs,ks,us,ps,n,y,room,leak,rfl,⟨ls,vs,O,d0,d1⟩,hp,dP,hpl,hkl,q,qE⟩:=h
    have hll:ls.length=S.ls.length:=by rw [d0.length,List.length_map]
    have hul:us.length=ps.length:=by rw [dP.length,List.length_map]
    have hnn:=hp.nn
    have h60:=hp.l60
    refine ⟨_,(@au _ _ _ _ _ (bV (jj (pv 0) R_Roll.c aO.m eU (hr.mono (by decide)) aO.b .nil p7 (@aB _ _ _ _ _ (pv 1) (@aB _ _ _ _ _ (pv 2) aq rfl) rfl)))
      (@au _ _ _ _ _ (@eN _ _ _ _ _ _ _ _ (PW.pt (pw_or (jB (aW pG (hr.mono (by decide)) rfl fQ.m fQ.F.kp fQ.b .nil bZ (@aB _ _ _ _ _ (@cG _ _ _ _ _ _ _ aX (eO (pv 0) rfl) (pv 1) (fun _ _=>rfl)) aq rfl))) (pw_or1 (jB (jj (pv 0) R_Book.c eV.m lX (hr.mono (by decide)) eV.b .nil bZ (@aB _ _ _ _ _ (pv 1) aq rfl))))))
        (@aD _ _ _ (gR iJ rfl (fun _ _ z=>z) rfl X_NoPond.m X_NoPond.q (@aB _ _ _ _ _ iG aq rfl)))
        bA)
      (@au _ _ _ _ _ (@eN _ _ _ _ _ _ _ _ (aY Mj (aJ aF rfl B.len PySem.boot_len (@aB _ _ _ _ _ (eO (pv 0) rfl) aq rfl)) (fH (v:=.int (10)) rfl hMOST_PONDS ⟨_,rfl⟩) (bx _))
        (@aD _ _ _ (gR iJ rfl (fun _ _ z=>z) rfl X_NoPond.m X_NoPond.q (@aB _ _ _ _ _ iG aq rfl)))
        bA)
      (@au _ _ _ _ _ (@eN _ _ _ _ _ _ _ _ (jC (PW.pt (pw_and (jB (aW j8 (hr.mono (by decide)) rfl dj.m dj.F.kp dj.b .nil bZ (@aB _ _ _ _ _ (pv 3) aq rfl))) (pw_and1 (iU jJ jJ aA (pv 4) (fH (v:=.int (1000)) rfl hWHOLE ⟨_,rfl⟩))))))
        (@aD _ _ _ (gR iJ rfl (fun _ _ z=>z) rfl X_NoPond.m X_NoPond.q (@aB _ _ _ _ _ iG aq rfl)))
        bA)
      (@au _ _ _ _ _ (bV (j4 PySem.F.plainAttrs_list PySem.F.slot_list_append PySem.F.type_list_append dg (eO (pv 0) rfl) (@aB _ _ _ _ _ (@ji _ _ _ _ _ (@aB _ _ _ _ _ (pv 1) (@aB _ _ _ _ _ (pv 3) (@aB _ _ _ _ _ (pv 4) aq rfl) rfl) rfl)) aq rfl)))
      (@au _ _ _ _ _ (bV (j4 PySem.F.plainAttrs_list PySem.F.slot_list_append PySem.F.type_list_append dg (eO (pv 0) rfl) (@aB _ _ _ _ _ aA aq rfl)))
      (@aD _ _ _ (@bC _ _ _ _ (@aV _ _ _ _ _ _ _ _ qZ (aJ aF rfl B.len PySem.boot_len (@aB _ _ _ _ _ (eO (pv 0) rfl) aq rfl)) aA))))))))),?_⟩
    refine ⟨_,rfl,A.p,A.dx,_,rfl,O.get 0,rfl,_,rfl,_,rfl,A,exB Z,S.day,ls,S.ns,n,y,rfl,O.get 0,O.sq 3,O.sq 4,by omega,Ld Z,O.same.t1,fun h0 h1 hy=>?_,fun h=>qE .number (by unfold jc;rw [if_pos (fun z=>h (by omega))]),fun h0 h1 hy=>qE .yours (by unfold jc;rw [if_neg (not_not_intro ⟨h0,by omega⟩),if_pos hy])⟩
    obtain ⟨j,rfl⟩:=Int.eq_ofNat_of_zero_le h0
    obtain ⟨l,hl⟩:∃ l,S.ls[j]?=some l:=⟨_,List.getElem?_eq_getElem (by omega)⟩
    obtain ⟨al,hal,hT⟩:=d0.Du hl
    have hat:S.at_ (j:Int)=l:=Dt rfl hl
    have hE:jc S ps (j:Int) y room leak=open Classical in if l.back≠-1∨Lb ps (j:Int)=true∨10≤ps.length∨¬ (0≤room∧room≤1000000000000∧0≤leak∧leak≤1000) then some .pond else none:=by
      unfold jc;rw [if_neg (not_not_intro ⟨h0,by omega⟩),if_neg (not_not_intro hy),hat]
    refine ⟨_,rfl,A.p,C,A.dx,_,.ref A.ll,rfl,O.get 0,R_Roll.c,R_Roll.nL,rfl,_,rfl,A.ll,_,_,_,rfl,rfl,O.sq 3,gP hal,al,l,rfl,hT.mo O.same,?_⟩
    have bad:∀ {H'},aR T H H'→(l.back≠-1∨Lb ps (j:Int)=true∨10≤ps.length∨¬ (0≤room∧room≤1000000000000∧0≤leak∧leak≤1000))→∀ e,H' e=none→E (.ref cP) (some e) H':=fun {H'} s h e he=>qE .pond (by rw [hE,if_pos h]) e H' s he
    have s0:aR T H H:=aR.refl O.same.t1
    refine ⟨_,rfl,ifN (ifD (fun hb=>?_) (fun hb=>⟨szl,fun e he=>bad s0 (.inl hb) e he⟩))⟩
    refine ⟨_,rfl,A.p,A.dx,_,rfl,O.get 0,rfl,_,rfl,A,Z,S.day,(j:Int),us,ps,rfl,O.get 0,O.sq 9,dP.mo O.same,hpl,O.same.t1,fun H1 s1=>?_⟩
    have O:=O.fX s1
    refine ⟨_,rfl,ifB (fun hh=>⟨szl,fun e he=>bad s1 (.inr (.inl hh)) e he⟩) (fun hh=>?_)⟩
    refine ⟨_,rfl,A.p,C,A.dx,_,.ref Z.ld,rfl,O.get 0,R.c,R.nD,rfl,Z.ld,_,rfl,.inl (O.sq 9),_,_,rfl,rfl,_,rfl,ifD (fun h10=>⟨szl,fun e he=>bad s1 (.inr (.inr (.inl (by have h10:(10:Int)≤(us.length:Int):=h10;omega)))) e he⟩) (fun h10=>?_)⟩
    have h10:¬ (10:Int)≤(us.length:Int):=h10
    refine ⟨_,rfl,room,rfl,fun bw hbw=>?_⟩
    refine ⟨_,rfl,ifB (fun hw=>?_) (fun hw=>?_)⟩
    rotate_left
    · exact nJ ⟨szl,fun e he=>bad s1 (.inr (.inr (.inr fun z=>by rw [hbw.mpr ⟨z.1,z.2.1⟩] at hw;cases hw))) e he⟩
    have hw:=hbw.mp hw
    refine ⟨_,rfl,_,_,rfl,rfl,_,rfl,ifD (fun l0=>?_) (fun l0=>?_)⟩
    rotate_left
    · exact ⟨_,rfl,nJ ⟨szl,fun e he=>bad s1 (.inr (.inr (.inr fun z=>l0 z.2.2.1))) e he⟩⟩
    refine ⟨_,_,rfl,rfl,_,rfl,ifN (ifD (fun l1=>?_) (fun l1=>⟨szl,fun e he=>bad s1 (.inr (.inr (.inr fun z=>l1 z.2.2.2))) e he⟩))⟩
    have hN:jc S ps (j:Int) y room leak=none:=by
      rw [hE,if_neg]
      rintro (z | z | z | z)
      · exact z hb
      · rw [hh] at z;cases z
      · omega
      · exact z ⟨hw.1,hw.2,l0,l1⟩
    refine ⟨_,rfl,A.p,C,A.dx,_,.ref Z.ld,rfl,O.get 0,R.c,R.nD,rfl,.inl ⟨rfl,_,O.sq 9⟩,_,rfl,_,rfl,_,rfl,szl,fun t ht=>?_⟩
    walk_at "nw"
    refine ⟨Z.ld,_,_,rfl,rfl,O.get 10,bH (by omega),?_⟩
    generalize hE2:upd _ _ _=Hn
    have O:=Ow.mG O 10 rfl hE2 rfl
    clear hE2
    refine ⟨_,rfl,A.p,C,A.dx,_,.ref Z.lk,rfl,O.get 1,R.c,R.nK,rfl,.inl ⟨rfl,_,O.sq 9⟩,Z.lk,_,_,rfl,rfl,O.get 9,bH (by omega),?_⟩
    generalize hE2:upd _ _ _=Hm
    have O:=Ow.mG O 9 rfl hE2 rfl
    clear hE2
    refine ⟨_,rfl,A.p,C,A.dx,_,.ref Z.ld,rfl,O.get 1,R.c,R.nD,rfl,Z.ld,_,rfl,.inl (O.sq 10),_,_,rfl,rfl,?_⟩
    dsimp only
    rw [show (((us++[V.ref t]).length:Nat):Int) - 1=(ps.length:Int) by rw [List.length_append,hul];simp]
    obtain ⟨Hb,O,sb,e1⟩:=(show Ow T H0 Hm ((t,_) :: (RX C A (exB Z) r S.day ls S.ns vs++(BL Z gs rs (ks++[.int 0]) (us++[.ref t])++L))) from O).frz
    refine q hN t Hb Hm sb ⟨ls,vs,O,d0.mo sb,d1.mo sb⟩ ?_
    rw [List.map_append]
    exact (dP.mo sb).append (.cons (Den.mv (m:=((j:Int),room,leak)) (SqT.of e1)) .nil)
end
theorem Am (x y:Str):(x++y).cps.toList=x.cps.toList++y.cps.toList:=by
  show (x.cps++y.cps).toList=_
  simp
theorem U9 {i:Int} (h0:0≤i) (h1:i<26):("abcdefghijklmnopqrstuvwxyz":Str).cps[i.toNat]?=some (97 + i.toNat):=by
  have h:∀ k:Fin 26,("abcdefghijklmnopqrstuvwxyz":Str).cps[k.val]?=some (97 + k.val):=by decide +kernel
  exact h ⟨i.toNat,by omega⟩
theorem jt {x:Str} (h:gQ x):Asc x:=⟨by
  rw [Array.all_eq_true_iff_forall_mem]
  intro c hc
  have:=h.2.2 c (by simpa using hc)
  simp only [decide_eq_true_eq]
  omega,by have:=h.2.1;omega⟩
abbrev cC:Stmt:=top 43
theorem gF:aN ["x","letters","name","k"] ["x"] (aj cC):=⟨rfl,rfl,rfl,by decide +kernel,rfl,by decide +kernel,by decide +kernel⟩
def jQ (T:fJ):Sp:=fun vs H Q _=>∃ (n:Int),vs=[.int n]∧0≤n∧TabsOk T H∧∀ (x:Str) (H':Hp),gQ x→aR T H H'→Q (.str x) H'
theorem Bp {f:Addr} {fd:FuncData} (D:Df K mg "_law_name" cC ["x"] f fd) (B:Blt mg):bM P w K mg base CX0 1 f fd ["x"] (jQ T):=by
  refine D.F.ok gF (fun vs H Q E h=>?_) (fun cdv A outer s H vs Q E hr h=>?_)
  · obtain ⟨_,rfl,_⟩:=h;rfl
  · obtain ⟨n,rfl,n0,tk,q⟩:=h
    have O:=Ow.refl tk
    refine ⟨_,(@au _ _ _ _ _ (bh (i:=1) gF.nd rfl (Or.inl rfl) iG)
      (@au _ _ _ _ _ (bh (i:=2) gF.nd rfl (Or.inl rfl) iG)
      (@au _ _ _ _ _ (kj PassesOwn.never rfl (gG rfl B.range (@aB _ _ _ _ _ (@aV _ _ _ _ _ _ _ _ gq aA (@aV _ _ _ _ _ _ _ _ cZ (pv 0) aA)) aq rfl)) (bD (i:=3) gF.nd rfl (Or.inl rfl))
        (@aD _ _ _ (bh (i:=2) gF.nd rfl (Or.inl rfl) (@aV _ _ _ _ _ _ _ _ sI (pv 2) (pZ (pv 1) (@aV _ _ _ _ _ _ _ _ cZ (@aV _ _ _ _ _ _ _ _ gq (@aV _ _ _ _ _ _ _ _ iu (@aV _ _ _ _ _ _ _ _ iu (pv 0) aA) (@aV _ _ _ _ _ _ _ _ gq (pv 3) aA)) (@aV _ _ _ _ _ _ _ _ rz (pv 3) (pv 3))) aA) (fun _ _=>rfl))))))
      (@aD _ _ _ (@bC _ _ _ _ (pv 2)))))),?_⟩
    have s0:=Int.emod_nonneg n (show (8:Int)≠0 by decide)
    have s1:=Int.emod_lt_of_pos n (show (0:Int)<8 by decide)
    obtain ⟨sz,hsz⟩:∃ sz:Nat,1 + n % 8=(sz:Int):=⟨(1 + n % 8).toNat,by omega⟩
    refine ⟨_,rfl,_,_,rfl,rfl,(by show (0:Int)<8;decide),_,_,rfl,rfl,?_⟩
    refine ⟨sz,congrArg (fun z=>[V.int z]) hsz,by omega,by omega,?_⟩
    refine iQ (fun i σ H'=>Iv (∃ (z:Str) (v3:Option V),σ=[some (.int n),some (.str ("abcdefghijklmnopqrstuvwxyz":Str)),some (.str z),v3]∧z.cps.toList.length=i∧(∀ c∈z.cps.toList,97≤c∧c≤122)∧aR T H H')) ⟨trivial,"",none,rfl,rfl,(fun c hc=>nomatch hc),aR.refl tk⟩ ?_ ?_
    · rintro i σ H3 hi ⟨-,z,v3,rfl,hz,hc,s⟩
      rw [show (0:Int) + (i:Int)=(i:Int) by omega]
      have hi:i<sz:=by omega
      have b0:=Int.emod_nonneg (n / 8 / ((i:Int) + 1) + (i:Int) * (i:Int)) (show (26:Int)≠0 by decide)
      have b1:=Int.emod_lt_of_pos (n / 8 / ((i:Int) + 1) + (i:Int) * (i:Int)) (show (0:Int)<26 by decide)
      refine ⟨_,rfl,_,rfl,_,rfl,_,_,rfl,rfl,⟨by decide,by decide⟩,_,rfl,_,_,rfl,rfl,_,_,rfl,rfl,(show Vs _ _ from ⟨by show (0:Int)<(i:Int) + 1;omega,by show (i:Int) + 1<_;omega⟩),_,rfl,_,rfl,_,_,rfl,rfl,.inl ⟨by omega,by omega⟩,_,_,rfl,rfl,_,_,rfl,rfl,(by show (0:Int)<26;decide),_,_,_,rfl,rfl,b0,(by show (n / 8 / ((i:Int) + 1) + (i:Int) * (i:Int)) % 26<2 ^ 63;omega),b1,U9 b0 b1,?_⟩
      have slen:∀ x:Str,x.length=x.cps.toList.length:=fun x=>by show x.cps.size=_;simp
      refine ⟨_,_,rfl,rfl,by rw [slen,slen,hz,sizeLine_eq];simp;omega,?_⟩
      refine ⟨trivial,_,_,rfl,by rw [Am,List.length_append,hz];rfl,fun c h=>?_,s⟩
      rw [Am] at h
      rcases List.mem_append.mp h with h | h
      · exact hc c h
      · have h:c∈[97 + ((n / 8 / ((i:Int) + 1) + (i:Int) * (i:Int)) % 26).toNat]:=h
        rw [List.mem_singleton.mp h]
        omega
    rintro σ H3 ⟨-,z,v3,rfl,hz,hc,s⟩
    have hs:z.cps.size=z.cps.toList.length:=by simp
    exact ⟨_,rfl,q z H3 ⟨by omega,by omega,hc⟩ s⟩
structure pN (r:List Int) (Z:Bx) (S:RS):Prop where
  rp:RP r (exB Z) S
  na:∀ x∈S.ns,gQ x
  dk:∀ d∈S.ds,rT d
  d0:S.day=0
theorem Mu {r:List Int} (h:Rv.lU r) {p:Int} (h0:0≤p) (h1:p<r.length) {b:Int} (hb:Rv.nxt r p=b):b=-1∨b∈(Rv.walk r p).drop 1:=by
  by_cases e:b=-1
  · exact .inl e
  · right
    have hr:=h
    obtain ⟨rk,k1,k2⟩:=hr
    rcases k2 _ _ (Rv.jk h0 h1) with z | ⟨a,c,_⟩
    · exact absurd (hb.symm.trans z) e
    · rw [hb] at a c
      rw [Rv.iM h h0 h1,hb,Rv.iM h a c]
      exact List.mem_cons_self
theorem pN.file {r:List Int} {Z:Bx} {S:RS} (h:pN r Z S) {x:Str} {s m b:Int} (hl:S.ls.length<60) (hd:S.ds.length<8000) (hx:gQ x) (s0:0≤s) (s1:s<r.length) (hb:b=-1∨b∈(Rv.walk r s).drop 1) (m1:1≤m) (m2:m≤1000000000000) :
    step r S (.file x s m b)=.ok ⟨S.day,S.ls++[⟨S.day,s,b,m⟩],S.ns++[x],S.ds++[.file x s m b]⟩∧pN r Z ⟨S.day,S.ls++[⟨S.day,s,b,m⟩],S.ns++[x],S.ds++[.file x s m b]⟩:=by
  have d0:=h.d0
  have hli:Ao r ⟨S.day,s,b,m⟩:=⟨⟨by show 0≤S.day;omega,by show S.day≤1000000;omega,s0,s1,by show 0≤m;omega,m2⟩,hb⟩
  refine ⟨?_,⟨h.rp.rv,h.rp.r40,?_,?_,?_,h.rp.e9,h.rp.ex⟩,?_,?_,d0⟩
  · simp only [step]
    rw [if_neg (not_not_intro hx),if_neg (fun z=>z.elim (by omega) fun w=>w hli),if_neg (by omega)]
  · have:=h.rp.nn
    show (S.ns++[x]).length=(S.ls++_).length
    rw [List.length_append,List.length_append,this];rfl
  · show (S.ls++_).length≤60
    rw [List.length_append];simp only [List.length_cons,List.length_nil];omega
  · show (S.ds++_).length≤9000
    rw [List.length_append];simp only [List.length_cons,List.length_nil];omega
  · intro y hy
    rcases List.mem_append.mp hy with z | z
    · exact h.na y z
    · rw [List.mem_singleton.mp z];exact hx
  · intro y hy
    rcases List.mem_append.mp hy with z | z
    · exact h.dk y z
    · rw [List.mem_singleton.mp z];exact jt hx
theorem pN.sy {r:List Int} {Z:Bx} {S:RS} (h:pN r Z S) {x y:Str} {j:Nat} (hd:S.ds.length<8000) (hj:S.ns[j]?=some x) (hy:gQ y) :
    step r S (.sy (j:Int) x y)=.ok ⟨S.day,S.ls,S.ns.set j y,S.ds++[.sy (j:Int) x y]⟩∧pN r Z ⟨S.day,S.ls,S.ns.set j y,S.ds++[.sy (j:Int) x y]⟩:=by
  have hi:=(List.getElem?_eq_some_iff.mp hj).1
  have nn:=h.rp.nn
  refine ⟨?_,⟨h.rp.rv,h.rp.r40,?_,h.rp.l60,?_,h.rp.e9,h.rp.ex⟩,?_,?_,h.d0⟩
  · simp only [step]
    rw [Aj (by omega) (by omega) (by rw [Int.toNat_natCast];exact hj),if_neg (not_not_intro hy),Int.toNat_natCast]
  · show (S.ns.set j y).length=S.ls.length
    rw [List.length_set,nn]
  · show (S.ds++_).length≤9000
    rw [List.length_append];simp only [List.length_cons,List.length_nil];omega
  · intro z hz
    rcases List.mem_or_eq_of_mem_set hz with e | e
    · exact h.na z e
    · rw [e];exact hy
  · intro d hd
    rcases List.mem_append.mp hd with z | z
    · exact h.dk d z
    · rw [List.mem_singleton.mp z];exact ⟨jt (h.na x (List.mem_of_getElem? hj)),jt hy⟩
theorem Ds (a:Int) (n:Nat) (h:0<n):0≤a % (n:Int)∧a % (n:Int)<n:=⟨Int.emod_nonneg _ (by omega),Int.emod_lt_of_pos _ (by omega)⟩
theorem uG (c:Int) (n:Nat):∀ x∈mJ c n,0≤x:=fun x hx=>by
  unfold mJ at hx
  obtain ⟨k,_,rfl⟩:=List.mem_map.mp hx
  exact uH _ _
abbrev dG:Stmt:=top 44
theorem gb:aN ["book","river","cell","xs","start","back"] ["book","river","cell"] (aj dG):=⟨rfl,rfl,rfl,by decide +kernel,rfl,by decide +kernel,by decide +kernel⟩
def qM (K:PySem.W.Frag) (T:fJ) (C:Addr):Sp:=fun vs H Q _=>∃ (A:Rs) (Z:Bx) (H0:Hp) (B:List (Addr × HO)) (r:List Int) (S:RS) (lv:Addr) (z:Int),vs=[.ref A.p,.ref lv,.int z]∧RA K T C A (exB Z) r H0 H B S∧pN r Z S∧SqL K H lv (r.map V.int)∧1≤r.length∧S.ls.length<60∧S.ds.length<8000 ∧
  ∀ (S':RS) (Hb H':Hp),aR T H0 Hb→RA K T C A (exB Z) r Hb H' B S'→pN r Z S'→S'.ls.length=S.ls.length + 1→S'.ds.length=S.ds.length + 1→Q .non H'
section
variable {P:Program} {w:World} {K:PySem.W.Frag} {mg:Str→Option Value} {base:Heap} {T:fJ} {C:Addr} {c:Ec}
theorem Br {f f1 f2 f3:Addr} {fd fd1 fd2 fd3:FuncData} (D:Df K mg "_law_filed" dG ["book","river","cell"] f fd) (B:Blt mg) (R_Roll:RC K C)
    (aG:Df K mg "_law_pebbles" bB ["cell","many"] f1 fd1) (dZ:bM P w K mg base CX0 2 f1 fd1 ["cell","many"] mY)
    (aP:Df K mg "_law_name" cC ["x"] f2 fd2) (fK:bM P w K mg base CX0 1 f2 fd2 ["x"] (jQ T))
    (iB:DmD K C "file" "Roll.file" eG ["self","holder","start","most","back"] f3 fd3) (qz:bM P w K mg base (CXE P w) 3 f3 fd3 ["self","holder","start","most","back"] (ug K T C c)) :
    bM P w K mg base CX0 4 f fd ["book","river","cell"] (qM K T C):=by
  refine D.F.ok gb (fun vs H Q E h=>?_) (fun cdv A outer s H vs Q E hr h=>?_)
  · obtain ⟨_,_,_,_,_,_,_,_,rfl,_⟩:=h;rfl
  · obtain ⟨A,Z,H0,L,r,S,lv,z,rfl,⟨us,vs,OB,d0,d1⟩,hA,hV,r1,hl,hd,q⟩:=h
    have hml:(((r.map V.int).length:Nat):Int)=(r.length:Int):=by rw [List.length_map]
    refine ⟨_,(@au _ _ _ _ _ (bh (i:=3) gb.nd rfl (Or.inl rfl) (aW dZ (hr.mono (by decide)) rfl aG.m aG.F.kp aG.b .nil bZ (@aB _ _ _ _ _ (pv 2) (@aB _ _ _ _ _ aA aq rfl) rfl)))
      (@au _ _ _ _ _ (bh (i:=4) gb.nd rfl (Or.inl rfl) (@aV _ _ _ _ _ _ _ _ cZ (@cG _ _ _ _ _ _ _ aX (pv 3) aA (fun _ _=>rfl)) (aJ aF rfl B.len PySem.boot_len (@aB _ _ _ _ _ (pv 1) aq rfl))))
      (@au _ _ _ _ _ (bh (i:=5) gb.nd rfl (Or.inl rfl) (@cG _ _ _ _ _ _ _ aX (pv 1) (pv 4) (fun _ _=>rfl)))
      (ig (@eN _ _ _ _ _ _ _ _ (aY Bk (@aV _ _ _ _ _ _ _ _ cZ (@cG _ _ _ _ _ _ _ aX (pv 3) aA (fun _ _=>rfl)) aA) aA (bx _))
        (@aD _ _ _ (bh (i:=5) gb.nd rfl (Or.inl rfl) (@lZ _ _ _ _ _ _ jz aA)))
        bA)
      (@aD _ _ _ (bV (jj (pv 0) R_Roll.c iB.m qz (hr.mono (by decide)) iB.b0 .nil uJ (@aB _ _ _ _ _ (aW fK (hr.mono (by decide)) rfl aP.m aP.F.kp aP.b .nil bZ (@aB _ _ _ _ _ (@cG _ _ _ _ _ _ _ aX (pv 3) aA (fun _ _=>rfl)) aq rfl)) (@aB _ _ _ _ _ (pv 4) (@aB _ _ _ _ _ (@aV _ _ _ _ _ _ _ _ gq aA (@aV _ _ _ _ _ _ _ _ cZ (@cG _ _ _ _ _ _ _ aX (pv 3) aA (fun _ _=>rfl)) (@aV _ _ _ _ _ _ _ _ mL aA aA))) (@aB _ _ _ _ _ (pv 5) aq rfl) rfl) rfl) rfl)))))))),?_⟩
    have O:=Ow.refl OB.same.t1
    refine ⟨_,rfl,z,4,rfl,by decide,by decide,O.got fun lx H1 xs O e=>?_⟩
    have e:xs=(mJ z 4).map V.int:=e
    subst e
    have g:∀ k:Nat,k<4→(mJ z 4)[k]?=some ((mJ z 4).getD k 0):=fun k hk=>o7 (by rw [jr];omega)
    have gp:∀ k:Nat,k<4→0≤(mJ z 4).getD k 0:=fun k hk=>uG z 4 _ (List.mem_of_getElem? (g k hk))
    generalize mJ z 4=xs at O g gp
    have s0:=Ds (xs.getD 0 0) r.length (by omega)
    refine ⟨_,rfl,lx,_,0,_,rfl,rfl,O.sq 0,cX (i:=0) (g 0 (by decide)),_,rfl,lv,_,rfl,.inl (O.same.seq hV),_,_,rfl,rfl,(by rw [hml];omega),?_⟩
    dsimp only
    rw [hml]
    generalize xs.getD 0 0 % (r.length:Int)=st at s0
    obtain ⟨k,rfl⟩:=Int.eq_ofNat_of_zero_le s0.1
    obtain ⟨b,hb⟩:∃ b,r[k]?=some b:=⟨_,List.getElem?_eq_getElem (by omega)⟩
    have hnx:Rv.nxt r (k:Int)=b:=by unfold Rv.nxt;rw [Int.toNat_natCast,List.getD_eq_getElem?_getD,hb];rfl
    refine ⟨_,rfl,_,rfl,lv,_,_,_,rfl,rfl,O.same.seq hV,cX hb,?_⟩
    refine ⟨fun σ H'=>Iv (∃ bk:Int,σ=[some (.ref A.p),some (.ref lv),some (.int z),some (.ref lx),some (.int (k:Int)),some (.int bk)]∧(bk=-1∨bk∈(Rv.walk r (k:Int)).drop 1)∧Ow T H H' [(lx,.lst (xs.map V.int))]),?_,?_⟩
    · refine ⟨_,rfl,lx,_,1,_,rfl,rfl,O.sq 0,cX (i:=1) (g 1 (by decide)),_,_,rfl,rfl,(by show (0:Int)<4;decide),_,_,rfl,rfl,_,rfl,ifD (fun _=>?_) (fun _=>⟨trivial,b,rfl,Mu hA.rp.rv s0.1 s0.2 hnx,O⟩)⟩
      exact ⟨1,rfl,trivial,-1,rfl,.inl rfl,O⟩
    clear O
    rintro σ H2 ⟨-,bk,rfl,hbk,O⟩
    refine ⟨_,rfl,A.p,A.dx,_,rfl,(OB.fX O.same).get 0,rfl,?_⟩
    refine ⟨_,rfl,lx,_,2,_,rfl,rfl,O.sq 0,cX (i:=2) (g 2 (by decide)),_,rfl,gp 2 (by decide),O.same.t1,fun x H3 hx s3=>?_⟩
    have O:=O.fX s3
    have a3:=Int.emod_nonneg (xs.getD 3 0) (show (1000000000000:Int)≠0 by decide)
    have a4:=Int.emod_lt_of_pos (xs.getD 3 0) (show (0:Int)<1000000000000 by decide)
    have p12:(10:Int) ^ (12:Int).toNat=1000000000000:=by decide
    obtain ⟨hst,hA'⟩:=hA.file (x:=x) (s:=(k:Int)) (m:=1 + xs.getD 3 0 % 10 ^ (12:Int).toNat) (b:=bk) hl hd hx s0.1 s0.2 hbk (by rw [p12];omega) (by rw [p12];omega)
    refine ⟨_,rfl,_,rfl,lx,_,3,_,rfl,rfl,O.sq 0,cX (i:=3) (g 3 (by decide)),_,_,rfl,rfl,⟨by decide,by decide,by decide⟩,_,_,rfl,rfl,(by show (0:Int)<10 ^ (12:Int).toNat;decide),_,_,rfl,rfl,_,rfl,A,exB Z,H0,_,r,S,x,(k:Int),1 + xs.getD 3 0 % 10 ^ (12:Int).toNat,bk,.int bk,rfl,.inr rfl,⟨us,vs,OB.fX O.same,d0,d1⟩,hA.rp,jt hx,fun S' e Hb H' sb ra=>?_,fun k2 e=>by rw [hst] at e;cases e⟩
    rw [hst] at e
    cases e
    exact q _ Hb H' sb ra hA' (by show (_++[_]).length=_;rw [List.length_append];rfl) (by show (_++[_]).length=_;rw [List.length_append];rfl)
end
abbrev cA:Stmt:=top 45
theorem jg:aN ["x","cell","most","far"] ["x","cell","most"] (aj cA):=⟨rfl,rfl,rfl,by decide +kernel,rfl,by decide +kernel,by decide +kernel⟩
def Dk (T:fJ):Sp:=fun vs H Q _=>∃ (x c m:Int),vs=[.int x,.int c,.int m]∧0≤x∧0≤m∧TabsOk T H∧∀ (v:Int) (H':Hp),aR T H H'→Q (.int v) H'
theorem Cr {a b c d e f g h:Int} {j:Int} (h0:0≤j) (h1:j<8):∃ x:Int,atI [V.int a,V.int b,V.int c,V.int d,V.int e,V.int f,V.int g,V.int h] j=some (V.int x):=by
  rcases (by omega:j=0∨j=1∨j=2∨j=3∨j=4∨j=5∨j=6∨j=7) with rfl | rfl | rfl | rfl | rfl | rfl | rfl | rfl <;> exact ⟨_,rfl⟩
theorem Bd {a b c:Int} {j:Int} (h0:0≤j) (h1:j<3):∃ x:Int,atI [V.int a,V.int b,V.int c] j=some (V.int x):=by
  rcases (by omega:j=0∨j=1∨j=2) with rfl | rfl | rfl <;> exact ⟨_,rfl⟩
theorem P0 {f:Addr} {fd:FuncData} (D:Df K mg "_law_bounded" cA ["x","cell","most"] f fd):bM P w K mg base CX0 1 f fd ["x","cell","most"] (Dk T):=by
  refine D.F.ok jg (fun vs H Q E h=>?_) (fun cdv A outer s H vs Q E hr h=>?_)
  · obtain ⟨_,_,_,rfl,_⟩:=h;rfl
  · obtain ⟨x,c,m,rfl,x0,m0,tk,q⟩:=h
    have O:=Ow.refl tk
    refine ⟨_,(@au _ _ _ _ _ (bh (i:=3) jg.nd rfl (Or.inl rfl) (@cG _ _ _ _ _ _ _ aX (@cI _ _ _ _ (@aB _ _ _ _ _ aA (@aB _ _ _ _ _ aA (@aB _ _ _ _ _ (@aV _ _ _ _ _ _ _ _ cZ (pv 1) (@aV _ _ _ _ _ _ _ _ mL aA aA)) aq rfl) rfl) rfl)) (@aV _ _ _ _ _ _ _ _ cZ (@aV _ _ _ _ _ _ _ _ iu (pv 0) aA) aA) (fun _ _=>rfl)))
      (@aD _ _ _ (@bC _ _ _ _ (@cG _ _ _ _ _ _ _ aX (@cI _ _ _ _ (@aB _ _ _ _ _ aA (@aB _ _ _ _ _ (pv 2) (@aB _ _ _ _ _ aA (@aB _ _ _ _ _ (@aV _ _ _ _ _ _ _ _ cZ (pv 0) (@aV _ _ _ _ _ _ _ _ gq (pv 2) aA)) (@aB _ _ _ _ _ (@aV _ _ _ _ _ _ _ _ cZ (pv 0) (@aV _ _ _ _ _ _ _ _ gq (pv 2) aA)) (@aB _ _ _ _ _ (@aV _ _ _ _ _ _ _ _ cZ (pv 0) (@aV _ _ _ _ _ _ _ _ gq (pv 2) aA)) (@aB _ _ _ _ _ (@aV _ _ _ _ _ _ _ _ gq (@aV _ _ _ _ _ _ _ _ gq (pv 2) aA) (pv 3)) (@aB _ _ _ _ _ (@aV _ _ _ _ _ _ _ _ qZ (@lZ _ _ _ _ _ _ jz aA) (pv 3)) aq rfl) rfl) rfl) rfl) rfl) rfl) rfl) rfl)) (@aV _ _ _ _ _ _ _ _ cZ (pv 0) aA) (fun _ _=>rfl))))),?_⟩
    refine ⟨_,rfl,_,_,rfl,rfl,⟨by decide,by decide,by decide⟩,_,_,rfl,rfl,(by show (0:Int)<10 ^ (60:Int).toNat;decide),szl,fun l1 h1=>?_⟩
    walk_at "nw"
    obtain ⟨fr,hfr⟩:=Bd (a:=0) (b:=1) (c:=c % 10 ^ (60:Int).toNat) (Ds (x / 8) 3 (by decide)).1 (Ds (x / 8) 3 (by decide)).2
    refine ⟨_,rfl,_,_,rfl,rfl,⟨by decide,by decide⟩,_,_,rfl,rfl,(by show (0:Int)<3;decide),l1,_,_,_,rfl,rfl,O.sq 0,hfr,?_⟩
    have O:=O.tail
    have hp:(0:Int)<m + 1:=by omega
    refine ⟨_,rfl,_,rfl,_,rfl,_,_,rfl,rfl,_,_,rfl,rfl,hp,_,rfl,_,rfl,_,_,rfl,rfl,_,_,rfl,rfl,hp,_,rfl,_,rfl,_,_,rfl,rfl,_,_,rfl,rfl,hp,_,rfl,_,_,rfl,rfl,_,rfl,_,_,rfl,rfl,1,rfl,_,rfl,_,_,rfl,rfl,szl,fun l2 h2=>?_⟩
    walk_at "nw"
    obtain ⟨v,hv⟩:=Cr (a:=0) (b:=m) (c:=1) (d:=x % (m + 1)) (e:=x % (m + 1)) (f:=x % (m + 1)) (g:=m + 1 + fr) (h:=-1 - fr) (Ds x 8 (by decide)).1 (Ds x 8 (by decide)).2
    exact ⟨_,rfl,_,_,rfl,rfl,(by show (0:Int)<8;decide),l2,_,_,_,rfl,rfl,O.sq 0,hv,q v _ O.same⟩
abbrev eF:Stmt:=top 46
theorem jf:aN ["book","cell","number","x"] ["book","cell"] (aj eF):=⟨rfl,rfl,rfl,by decide +kernel,rfl,by decide +kernel,by decide +kernel⟩
def tZ (K:PySem.W.Frag) (T:fJ) (C:Addr):Sp:=fun vs H Q _=>∃ (A:Rs) (Z:Bx) (H0:Hp) (B:List (Addr × HO)) (r:List Int) (S:RS) (z:Int),vs=[.ref A.p,.int z]∧RA K T C A (exB Z) r H0 H B S∧pN r Z S∧S.ds.length≤7000 ∧
  ∀ (S':RS) (Hb H':Hp),aR T H0 Hb→RA K T C A (exB Z) r Hb H' B S'→pN r Z S'→S'.ls=S.ls→S'.ds.length≤S.ds.length + S.ls.length→Q .non H'
section
variable {P:Program} {w:World} {K:PySem.W.Frag} {mg:Str→Option Value} {base:Heap} {T:fJ} {C:Addr} {c:Ec}
theorem Mp {f f1 f2 f3 f4 f5:Addr} {fd fd1 fd2 fd3 fd4 fd5:FuncData} (D:Df K mg "_law_sold" eF ["book","cell"] f fd) (B:Blt mg) (R_Roll:RC K C)
    (bN:Dm K C "roll" "Roll.roll" cW ["self"] f1 fd1) (iz:bM P w K mg base CX0 1 f1 fd1 ["self"] (fD K C "licences"))
    (aH:Df K mg "_law_pebble" bI ["cell","k"] f2 fd2) (dU:bM P w K mg base CX0 1 f2 fd2 ["cell","k"] oF)
    (bG:Dm K C "holders" "Roll.holders" bQ ["self"] f3 fd3) (gD:bM P w K mg base CX0 1 f3 fd3 ["self"] (fD K C "names"))
    (aP:Df K mg "_law_name" cC ["x"] f4 fd4) (fK:bM P w K mg base CX0 1 f4 fd4 ["x"] (jQ T))
    (dW:Dm K C "sell" "Roll.sell" dM ["self","number","holder","to"] f5 fd5) (jM:bM P w K mg base (CXE P w) 3 f5 fd5 ["self","number","holder","to"] (pR K T C c)) :
    bM P w K mg base CX0 4 f fd ["book","cell"] (tZ K T C):=by
  refine D.F.ok jf (fun vs H Q E h=>?_) (fun cdv A outer s H vs Q E hr h=>?_)
  · obtain ⟨_,_,_,_,_,_,_,rfl,_⟩:=h;rfl
  · obtain ⟨A,Z,H0,L,r,S,z,rfl,⟨us,vs,O,d0,d1⟩,hA,hd,q⟩:=h
    have hul:us.length=S.ls.length:=by rw [d0.length,List.length_map]
    have h60:=hA.rp.l60
    refine ⟨_,(@aD _ _ _ (kj PassesOwn.never rfl (gG rfl B.range (@aB _ _ _ _ _ (aJ aF rfl B.len PySem.boot_len (@aB _ _ _ _ _ (dO (pv 0) R_Roll.c bN.m iz (hr.mono (by decide)) bN.b .nil bZ) aq rfl)) aq rfl)) (bD (i:=2) jf.nd rfl (Or.inl rfl))
        (@au _ _ _ _ _ (bh (i:=3) jf.nd rfl (Or.inl rfl) (aW dU (hr.mono (by decide)) rfl aH.m aH.F.kp aH.b .nil bZ (@aB _ _ _ _ _ (pv 1) (@aB _ _ _ _ _ (@aV _ _ _ _ _ _ _ _ gq (pv 2) aA) aq rfl) rfl)))
        (@aD _ _ _ (@eN _ _ _ _ _ _ _ _ (aY jy (@aV _ _ _ _ _ _ _ _ cZ (pv 3) aA) aA (bx _))
          (@aD _ _ _ (bV (jj (pv 0) R_Roll.c dW.m jM (hr.mono (by decide)) dW.b .nil uJ (@aB _ _ _ _ _ (pv 2) (@aB _ _ _ _ _ (@cG _ _ _ _ _ _ _ aX (dO (pv 0) R_Roll.c bG.m gD (hr.mono (by decide)) bG.b .nil bZ) (pv 2) (fun _ _=>rfl)) (@aB _ _ _ _ _ (aW fK (hr.mono (by decide)) rfl aP.m aP.F.kp aP.b .nil bZ (@aB _ _ _ _ _ (@aV _ _ _ _ _ _ _ _ iu (pv 3) aA) aq rfl)) aq rfl) rfl) rfl))))
          bA))))),?_⟩
    refine ⟨_,rfl,A.p,A.dx,_,rfl,O.get 0,rfl,A.p,A.dx,A.ll,_,us,rfl,O.get 0,rfl,O.sq 3,fun l1 h1=>?_⟩
    walk_at "nw"
    refine ⟨l1,_,rfl,.inl (O.sq 0),us.length,rfl,by omega,by omega,?_⟩
    have O:=O.tail
    refine iQ (n:=us.length) (fun i σ H'=>Iv (∃ (v2 v3:Option V) (Hb:Hp) (S':RS),σ=[some (.ref A.p),some (.int z),v2,v3]∧aR T H0 Hb∧RA K T C A (exB Z) r Hb H' L S'∧pN r Z S'∧S'.ls=S.ls∧S'.ds.length≤S.ds.length + i))
      ⟨trivial,none,none,H0,S,rfl,aR.refl O.same.t0,⟨us,vs,O,d0,d1⟩,hA,rfl,Nat.le_refl _⟩ ?_ ?_
    · clear O
      rintro i σ H3 hi ⟨-,v2,v3,Hb,S',rfl,sb,⟨us',vs',O,e0,e1⟩,hA',hls,hds⟩
      rw [show (0:Int) + (i:Int)=(i:Int) by omega]
      refine ⟨_,rfl,_,rfl,_,_,rfl,rfl,z,(i:Int) + 40,rfl,by omega,by omega,?_⟩
      have p0:=uH z ((i:Int) + 40)
      generalize peb z ((i:Int) + 40)=x at p0
      refine ⟨_,rfl,_,_,rfl,rfl,(by show (0:Int)<3;decide),rfl,_,rfl,ifI (fun _=>?_) (fun _=>⟨trivial,_,_,Hb,S',rfl,sb,⟨us',vs',O,e0,e1⟩,hA',hls,by omega⟩)⟩
      have hnn:=hA'.rp.nn
      rw [hls] at hnn
      obtain ⟨y,hy⟩:∃ y,S'.ns[i]?=some y:=⟨_,List.getElem?_eq_getElem (by omega)⟩
      refine ⟨_,rfl,A.p,A.dx,_,rfl,O.get 0,rfl,_,rfl,_,rfl,A.p,A.dx,_,rfl,O.get 0,rfl,A.p,A.dx,A.ln,_,_,rfl,O.get 0,rfl,O.sq 4,fun l2 h2=>?_⟩
      walk_at "nw"
      refine ⟨_,rfl,l2,_,_,_,rfl,rfl,O.sq 0,gP (show (S'.ns.map V.str)[i]?=some (.str y) by rw [List.getElem?_map,hy];rfl),?_⟩
      have O:=O.tail
      refine ⟨_,rfl,_,_,rfl,rfl,⟨by decide,by decide⟩,_,rfl,Int.ediv_nonneg p0 (by decide),O.same.t1,fun to H4 hto s4=>?_⟩
      have O:=O.fX s4
      obtain ⟨hst,hA2⟩:=hA'.sy (by omega) hy hto
      refine ⟨A,exB Z,Hb,_,r,S',(i:Int),y,to,rfl,⟨us',vs',O,e0,e1⟩,hA'.rp,jt hto,fun S2 e Hc H5 sc ra=>?_,fun k e=>by rw [hst] at e;cases e⟩
      rw [hst] at e
      cases e
      exact ⟨trivial,_,_,Hc,_,rfl,sb.trans sc,ra,hA2,hls,by show (_++[_]).length≤_;rw [List.length_append];simp only [List.length_cons,List.length_nil];omega⟩
    clear O
    rintro σ H3 ⟨-,v2,v3,Hb,S',rfl,sb,ra,hA',hls,hds⟩
    exact q S' Hb H3 sb ra hA' hls (by omega)
end
abbrev cj:Stmt:=top 47
theorem gZ:aN ["book","x","owners","trail","number","to"] ["book","x","owners","trail"] (aj cj):=⟨rfl,rfl,rfl,by decide +kernel,rfl,by decide +kernel,by decide +kernel⟩
def Dd (K:PySem.W.Frag) (T:fJ) (C:Addr):Sp:=fun vs H Q _=>∃ (A:Rs) (Z:Bx) (H0:Hp) (B:List (Addr × HO)) (r:List Int) (S:RS) (x:Int) (lo lt:Addr) (vt:List V),vs=[.ref A.p,.int x,.ref lo,.ref lt]∧RA K T C A (exB Z) r H0 H ((lo,.lst (S.ns.map V.str)) :: (lt,.lst vt) :: B) S∧d9 K H0 vt (S.ds.map nU)∧0≤x∧pN r Z S∧1≤S.ls.length∧S.ds.length<8000 ∧
  ∀ (S':RS) (Hb H':Hp) (vt':List V),aR T H0 Hb→RA K T C A (exB Z) r Hb H' ((lo,.lst (S'.ns.map V.str)) :: (lt,.lst vt') :: B) S'→d9 K Hb vt' (S'.ds.map nU)→pN r Z S'→S'.ls=S.ls→S'.ds.length≤S.ds.length + 1→Q .non H'
section
variable {P:Program} {w:World} {K:PySem.W.Frag} {mg:Str→Option Value} {base:Heap} {T:fJ} {C:Addr} {c:Ec}
theorem Px {f f4 f5:Addr} {fd fd4 fd5:FuncData} (D:Df K mg "_law_sold_on" cj ["book","x","owners","trail"] f fd) (B:Blt mg) (R_Roll:RC K C)
    (aP:Df K mg "_law_name" cC ["x"] f4 fd4) (fK:bM P w K mg base CX0 1 f4 fd4 ["x"] (jQ T))
    (dW:Dm K C "sell" "Roll.sell" dM ["self","number","holder","to"] f5 fd5) (jM:bM P w K mg base (CXE P w) 3 f5 fd5 ["self","number","holder","to"] (pR K T C c)) :
    bM P w K mg base CX0 4 f fd ["book","x","owners","trail"] (Dd K T C):=by
  refine D.F.ok gZ (fun vs H Q E h=>?_) (fun cdv A outer s H vs Q E hr h=>?_)
  · obtain ⟨_,_,_,_,_,_,_,_,_,_,rfl,_⟩:=h;rfl
  · obtain ⟨A,Z,H0,L,r,S,x,lo,lt,vt,rfl,⟨us,vs,O,d0,d1⟩,dt,x0,hA,hl1,hd,q⟩:=h
    have hnn:=hA.rp.nn
    have h60:=hA.rp.l60
    have hvt:vt.length=S.ds.length:=by rw [dt.length,List.length_map]
    have hml:(((S.ns.map V.str).length:Nat):Int)=(S.ls.length:Int):=by rw [List.length_map,hnn]
    have n0:=Ds (x / 3) S.ls.length (by omega)
    refine ⟨_,(@au _ _ _ _ _ (bh (i:=4) gZ.nd rfl (Or.inl rfl) (@aV _ _ _ _ _ _ _ _ cZ (@aV _ _ _ _ _ _ _ _ iu (pv 1) aA) (aJ aF rfl B.len PySem.boot_len (@aB _ _ _ _ _ (pv 2) aq rfl))))
      (@aD _ _ _ (@eN _ _ _ _ _ _ _ _ (aY jy (@aV _ _ _ _ _ _ _ _ cZ (pv 1) aA) aA (bx _))
        (@au _ _ _ _ _ (bh (i:=5) gZ.nd rfl (Or.inl rfl) (aW fK (hr.mono (by decide)) rfl aP.m aP.F.kp aP.b .nil bZ (@aB _ _ _ _ _ (@aV _ _ _ _ _ _ _ _ iu (pv 1) aA) aq rfl)))
        (@au _ _ _ _ _ (bV (jj (pv 0) R_Roll.c dW.m jM (hr.mono (by decide)) dW.b .nil uJ (@aB _ _ _ _ _ (pv 4) (@aB _ _ _ _ _ (@cG _ _ _ _ _ _ _ aX (pv 2) (pv 4) (fun _ _=>rfl)) (@aB _ _ _ _ _ (pv 5) aq rfl) rfl) rfl)))
        (@au _ _ _ _ _ (bV (j4 PySem.F.plainAttrs_list PySem.F.slot_list_append PySem.F.type_list_append dg (pv 3) (@aB _ _ _ _ _ (@ji _ _ _ _ _ (@aB _ _ _ _ _ iG (@aB _ _ _ _ _ (pv 4) (@aB _ _ _ _ _ (@cG _ _ _ _ _ _ _ aX (pv 2) (pv 4) (fun _ _=>rfl)) (@aB _ _ _ _ _ (pv 5) aq rfl) rfl) rfl) rfl)) aq rfl)))
        (@aD _ _ _ (kE (pv 5) (qU (pv 2) (pv 4) set_list))))))
        bA))),?_⟩
    refine ⟨_,rfl,_,_,rfl,rfl,⟨by decide,by decide⟩,_,rfl,lo,_,rfl,.inl (O.sq 6),_,_,rfl,rfl,(by rw [hml];omega),?_⟩
    dsimp only
    rw [hml]
    generalize x / 3 % (S.ls.length:Int)=nb at n0
    obtain ⟨j,rfl⟩:=Int.eq_ofNat_of_zero_le n0.1
    obtain ⟨y,hy⟩:∃ y,S.ns[j]?=some y:=⟨_,List.getElem?_eq_getElem (by omega)⟩
    have hyA:atI (S.ns.map V.str) (j:Int)=some (.str y):=gP (show (S.ns.map V.str)[j]?=some (.str y) by rw [List.getElem?_map,hy];rfl)
    refine ⟨_,rfl,_,_,rfl,rfl,(by show (0:Int)<3;decide),rfl,_,rfl,ifI (fun _=>?_) (fun _=>?_)⟩
    rotate_left
    · exact q S H0 H vt (aR.refl O.same.t0) ⟨us,vs,O,d0,d1⟩ dt hA rfl (by omega)
    refine ⟨_,rfl,_,_,rfl,rfl,⟨by decide,by decide⟩,_,rfl,Int.ediv_nonneg x0 (by decide),O.same.t1,fun to H4 hto s4=>?_⟩
    have O:=O.fX s4
    obtain ⟨hst,hA2⟩:=hA.sy (by omega) hy hto
    refine ⟨_,rfl,A.p,A.dx,_,rfl,O.get 0,rfl,_,rfl,_,rfl,_,rfl,lo,_,_,_,rfl,rfl,O.sq 6,hyA,_,rfl,A,exB Z,H0,_,r,S,(j:Int),y,to,rfl,⟨us,vs,O,d0,d1⟩,hA.rp,jt hto,fun S2 e Hc H5 sc ra=>?_,fun k e=>by rw [hst] at e;cases e⟩
    rw [hst] at e
    cases e
    clear O
    obtain ⟨us,vs,O,d0,d1⟩:=ra
    have dt:=dt.mo sc
    refine ⟨_,rfl,.inl ⟨rfl,_,O.sq 7⟩,_,rfl,_,rfl,_,rfl,lo,_,_,_,rfl,rfl,O.sq 6,hyA,_,rfl,szl,fun t ht=>?_⟩
    walk_at "nw"
    refine ⟨lt,_,_,rfl,rfl,O.get 8,bH (by omega),?_⟩
    generalize hE2:upd _ _ _=Hn
    have O:=Ow.mG O 8 rfl hE2 rfl
    clear hE2
    refine ⟨_,rfl,_,rfl,_,rfl,?_⟩
    refine Dn O 7 rfl (nH (by rw [List.length_map];omega)) fun H6 O=>?_
    obtain ⟨Hd,O,sd,e2⟩:=(show Ow T Hc H6 ((t,.tup [.str "sell",.int (j:Int),.str y,.str to]) :: (RX C A (exB Z) r S.day us (S.ns.set j to) vs++((lo,.lst ((S.ns.set j to).map V.str)) :: (lt,.lst (vt++[.ref t])) :: L))) from by simp only [RX,List.map_set];simp only [RX,List.map_set] at O;exact O).frz
    refine q _ Hd H6 (vt++[.ref t]) (sc.trans sd) ⟨us,vs,O,d0.mo sd,d1.mo sd⟩ ?_ hA2 rfl (by show (_++[_]).length≤_;rw [List.length_append];exact Nat.le_refl _)
    show d9 K Hd _ ((S.ds++[_]).map nU)
    rw [List.map_append]
    exact (dt.mo sd).append (.cons (.tuple (SqT.of e2) (.cons (.str _) (.cons (.int _) (.cons (.str _) (.cons (.str _) .nil))))) .nil)
end
abbrev eE:Stmt:=top 48
theorem cL:aN ["roll","old","owners","cell","xs","number","holder","room","leak"] ["roll","old","owners","cell"] (aj eE):=⟨rfl,rfl,rfl,by decide +kernel,rfl,by decide +kernel,by decide +kernel⟩
def tY (K:PySem.W.Frag) (T:fJ):Sp:=fun vs H Q _=>∃ (la lb lo:Addr) (us:List V) (ns0 ns:List Str) (c:Int),vs=[.ref la,.ref lb,.ref lo,.int c]∧SqL K H la us∧SqL K H lb (ns0.map V.str)∧SqL K H lo (ns.map V.str)∧ns0.length=us.length∧ns.length=us.length∧us.length≤60∧(∀ x∈ns0,gQ x)∧(∀ x∈ns,gQ x)∧TabsOk T H ∧
  ∀ (t:Addr) (n:Int) (y:Str) (room leak:Int) (H':Hp),Ow T H H' [(t,.tup [.int n,.str y,.int room,.int leak])]→gQ y→Q (.ref t) H'
theorem Ml {f f1 f2 f3:Addr} {fd fd1 fd2 fd3:FuncData} (D:Df K mg "_law_wish" eE ["roll","old","owners","cell"] f fd) (B:Blt mg)
    (aG:Df K mg "_law_pebbles" bB ["cell","many"] f1 fd1) (dZ:bM P w K mg base CX0 2 f1 fd1 ["cell","many"] mY)
    (aP:Df K mg "_law_name" cC ["x"] f2 fd2) (fK:bM P w K mg base CX0 1 f2 fd2 ["x"] (jQ T))
    (bR:Df K mg "_law_bounded" cA ["x","cell","most"] f3 fd3) (jF:bM P w K mg base CX0 1 f3 fd3 ["x","cell","most"] (Dk T)) :
    bM P w K mg base CX0 3 f fd ["roll","old","owners","cell"] (tY K T):=by
  refine D.F.ok cL (fun vs H Q E h=>?_) (fun cdv A outer s H vs Q E hr h=>?_)
  · obtain ⟨_,_,_,_,_,_,_,rfl,_⟩:=h;rfl
  · obtain ⟨la,lb,lo,us,ns0,ns,c,rfl,hA,hB,hN,l0,l1,l60,k0,k1,tk,q⟩:=h
    refine ⟨_,(@au _ _ _ _ _ (bh (i:=4) cL.nd rfl (Or.inl rfl) (aW dZ (hr.mono (by decide)) rfl aG.m aG.F.kp aG.b .nil bZ (@aB _ _ _ _ _ (pv 3) (@aB _ _ _ _ _ aA aq rfl) rfl)))
      (@au _ _ _ _ _ (bh (i:=5) cL.nd rfl (Or.inl rfl) (@aV _ _ _ _ _ _ _ _ qZ (@aV _ _ _ _ _ _ _ _ cZ (@cG _ _ _ _ _ _ _ aX (pv 4) aA (fun _ _=>rfl)) (@aV _ _ _ _ _ _ _ _ gq (aJ aF rfl B.len PySem.boot_len (@aB _ _ _ _ _ (pv 0) aq rfl)) aA)) aA))
      (@au _ _ _ _ _ (bh (i:=6) cL.nd rfl (Or.inl rfl) (aW fK (hr.mono (by decide)) rfl aP.m aP.F.kp aP.b .nil bZ (@aB _ _ _ _ _ (@cG _ _ _ _ _ _ _ aX (pv 4) aA (fun _ _=>rfl)) aq rfl)))
      (ig (@eN _ _ _ _ _ _ _ _ (PW.pt (pw_and (aY jy (@aV _ _ _ _ _ _ _ _ cZ (@cG _ _ _ _ _ _ _ aX (pv 4) aA (fun _ _=>rfl)) aA) aA (bx _)) (pw_and1 (iU jJ nC aA (pv 5) (aJ aF rfl B.len PySem.boot_len (@aB _ _ _ _ _ (pv 0) aq rfl))))))
        (@aD _ _ _ (bh (i:=6) cL.nd rfl (Or.inl rfl) (@cG _ _ _ _ _ _ _ aX (pv 1) (pv 5) (fun _ _=>rfl))))
        bA)
      (ig (@eN _ _ _ _ _ _ _ _ (PW.pt (pw_and (aY Bk (@aV _ _ _ _ _ _ _ _ cZ (@cG _ _ _ _ _ _ _ aX (pv 4) aA (fun _ _=>rfl)) aA) aA (bx _)) (pw_and1 (iU jJ nC aA (pv 5) (aJ aF rfl B.len PySem.boot_len (@aB _ _ _ _ _ (pv 0) aq rfl))))))
        (@aD _ _ _ (bh (i:=6) cL.nd rfl (Or.inl rfl) (@cG _ _ _ _ _ _ _ aX (pv 2) (pv 5) (fun _ _=>rfl))))
        bA)
      (@au _ _ _ _ _ (bh (i:=7) cL.nd rfl (Or.inl rfl) (aW jF (hr.mono (by decide)) rfl bR.m bR.F.kp bR.b .nil bZ (@aB _ _ _ _ _ (@cG _ _ _ _ _ _ _ aX (pv 4) aA (fun _ _=>rfl)) (@aB _ _ _ _ _ (pv 3) (@aB _ _ _ _ _ (@aV _ _ _ _ _ _ _ _ mL aA aA) aq rfl) rfl) rfl)))
      (@au _ _ _ _ _ (bh (i:=8) cL.nd rfl (Or.inl rfl) (aW jF (hr.mono (by decide)) rfl bR.m bR.F.kp bR.b .nil bZ (@aB _ _ _ _ _ (@cG _ _ _ _ _ _ _ aX (pv 4) aA (fun _ _=>rfl)) (@aB _ _ _ _ _ (pv 3) (@aB _ _ _ _ _ aA aq rfl) rfl) rfl)))
      (ig (@eN _ _ _ _ _ _ _ _ (aY jy (@aV _ _ _ _ _ _ _ _ cZ (@cG _ _ _ _ _ _ _ aX (pv 4) aA (fun _ _=>rfl)) aA) aA (bx _))
        (@aD _ _ _ (bh (i:=8) cL.nd rfl (Or.inl rfl) aA))
        bA)
      (@aD _ _ _ (@bC _ _ _ _ (@ji _ _ _ _ _ (@aB _ _ _ _ _ (pv 5) (@aB _ _ _ _ _ (pv 6) (@aB _ _ _ _ _ (pv 7) (@aB _ _ _ _ _ (pv 8) aq rfl) rfl) rfl) rfl)))))))))))),?_⟩
    have O:=Ow.refl tk
    refine ⟨_,rfl,c,6,rfl,by decide,by decide,O.got fun lx H1 xs O e=>?_⟩
    have e:xs=(mJ c 6).map V.int:=e
    subst e
    have g:∀ k:Nat,k<6→(mJ c 6)[k]?=some ((mJ c 6).getD k 0):=fun k hk=>o7 (by rw [jr];omega)
    have gp:∀ k:Nat,k<6→0≤(mJ c 6).getD k 0:=fun k hk=>uG c 6 _ (List.mem_of_getElem? (g k hk))
    generalize mJ c 6=xs at O g gp
    refine ⟨_,rfl,lx,_,0,_,rfl,rfl,O.sq 0,cX (i:=0) (g 0 (by decide)),_,rfl,la,_,rfl,.inl (O.same.seq hA),_,_,rfl,rfl,_,_,rfl,rfl,(by show (0:Int)<(us.length:Int) + 2;omega),_,_,rfl,rfl,?_⟩
    dsimp only
    generalize xs.getD 0 0 % ((us.length:Int) + 2) - 1=n
    refine ⟨_,rfl,lx,_,1,_,rfl,rfl,O.sq 0,cX (i:=1) (g 1 (by decide)),_,rfl,gp 1 (by decide),O.same.t1,fun y0 H2 hy0 s2=>?_⟩
    have O:=O.fX s2
    refine ⟨fun σ H'=>Iv (∃ y:Str,σ=[some (.ref la),some (.ref lb),some (.ref lo),some (.int c),some (.ref lx),some (.int n),some (.str y),none,none]∧gQ y∧Ow T H H' [(lx,.lst (xs.map V.int))]),?_,?_⟩
    · refine ⟨_,rfl,lx,_,2,_,rfl,rfl,O.sq 0,cX (i:=2) (g 2 (by decide)),_,_,rfl,rfl,(by show (0:Int)<5;decide),rfl,_,rfl,ifI (fun _=>?_) (fun _=>⟨trivial,y0,rfl,hy0,O⟩)⟩
      refine ⟨_,rfl,_,_,rfl,rfl,_,rfl,ifD (fun h0=>?_) (fun _=>⟨_,rfl,nM ⟨trivial,y0,rfl,hy0,O⟩⟩)⟩
      refine ⟨_,rfl,la,_,rfl,.inl (O.same.seq hA),_,_,rfl,rfl,_,rfl,ifD (fun h1=>?_) (fun _=>⟨trivial,y0,rfl,hy0,O⟩)⟩
      obtain ⟨j,rfl⟩:=Int.eq_ofNat_of_zero_le h0
      have h1:(j:Int)<(us.length:Int):=h1
      obtain ⟨y,hy⟩:∃ y,ns0[j]?=some y:=⟨_,List.getElem?_eq_getElem (by omega)⟩
      exact ⟨_,rfl,_,rfl,lb,_,_,_,rfl,rfl,O.same.seq hB,gP (show (ns0.map V.str)[j]?=some (.str y) by rw [List.getElem?_map,hy];rfl),trivial,y,rfl,k0 y (List.mem_of_getElem? hy),O⟩
    clear O
    rintro σ H3 ⟨-,y0,rfl,hy0,O⟩
    refine ⟨fun σ H'=>Iv (∃ y:Str,σ=[some (.ref la),some (.ref lb),some (.ref lo),some (.int c),some (.ref lx),some (.int n),some (.str y),none,none]∧gQ y∧Ow T H H' [(lx,.lst (xs.map V.int))]),?_,?_⟩
    · refine ⟨_,rfl,lx,_,2,_,rfl,rfl,O.sq 0,cX (i:=2) (g 2 (by decide)),_,_,rfl,rfl,(by show (0:Int)<5;decide),_,_,rfl,rfl,_,rfl,ifD (fun _=>?_) (fun _=>⟨trivial,y0,rfl,hy0,O⟩)⟩
      refine ⟨_,rfl,_,_,rfl,rfl,_,rfl,ifD (fun h0=>?_) (fun _=>⟨_,rfl,nM ⟨trivial,y0,rfl,hy0,O⟩⟩)⟩
      refine ⟨_,rfl,la,_,rfl,.inl (O.same.seq hA),_,_,rfl,rfl,_,rfl,ifD (fun h1=>?_) (fun _=>⟨trivial,y0,rfl,hy0,O⟩)⟩
      obtain ⟨j,rfl⟩:=Int.eq_ofNat_of_zero_le h0
      have h1:(j:Int)<(us.length:Int):=h1
      obtain ⟨y,hy⟩:∃ y,ns[j]?=some y:=⟨_,List.getElem?_eq_getElem (by omega)⟩
      exact ⟨_,rfl,_,rfl,lo,_,_,_,rfl,rfl,O.same.seq hN,gP (show (ns.map V.str)[j]?=some (.str y) by rw [List.getElem?_map,hy];rfl),trivial,y,rfl,k1 y (List.mem_of_getElem? hy),O⟩
    clear O
    rintro σ H4 ⟨-,y,rfl,hy,O⟩
    refine ⟨_,rfl,lx,_,3,_,rfl,rfl,O.sq 0,cX (i:=3) (g 3 (by decide)),_,rfl,_,_,rfl,rfl,⟨by decide,by decide,by decide⟩,_,c,_,rfl,gp 3 (by decide),(by show (0:Int)≤10 ^ (12:Int).toNat;decide),O.same.t1,fun room H5 s5=>?_⟩
    have O:=O.fX s5
    refine ⟨_,rfl,lx,_,4,_,rfl,rfl,O.sq 0,cX (i:=4) (g 4 (by decide)),_,rfl,_,c,_,rfl,gp 4 (by decide),(by decide),O.same.t1,fun leak H6 s6=>?_⟩
    have O:=O.fX s6
    refine ⟨fun σ H'=>Iv (∃ z:Int,σ=[some (.ref la),some (.ref lb),some (.ref lo),some (.int c),some (.ref lx),some (.int n),some (.str y),some (.int room),some (.int z)]∧Ow T H H' []),?_,?_⟩
    · exact ⟨_,rfl,lx,_,5,_,rfl,rfl,O.sq 0,cX (i:=5) (g 5 (by decide)),_,_,rfl,rfl,(by show (0:Int)<2;decide),rfl,_,rfl,ifI (fun _=>⟨trivial,0,rfl,O.tail⟩) (fun _=>⟨trivial,leak,rfl,O.tail⟩)⟩
    clear O
    rintro σ H7 ⟨-,z,rfl,O⟩
    refine ⟨_,rfl,_,rfl,_,rfl,_,rfl,szl,fun t ht=>?_⟩
    walk_at "nw"
    exact q t n y room z _ O hy
def mR:Option PK→List V
  | none=>[]
  | some .number=>[.bl true,.bl false,.bl false,.bl false,.bl true]
  | some .yours=>[.bl false,.bl true,.bl false,.bl false,.bl true]
  | some .pond=>[.bl false,.bl false,.bl true,.bl false,.bl true]
theorem Cq (ps:List Pd):PyData.eqv (.list (ps.map dMv)) (.list [])=decide (ps=[]):=by
  cases ps with
  | nil=>rfl
  | cons p ps=>simp [PyData.eqv,PyData.eqvAll]
theorem rG (ps:List Pd) (n:Int):ps.filter (fun p=>decide (p.1=n))=[]↔¬ Lb ps n=true:=by
  unfold Lb
  rw [List.filter_eq_nil_iff]
  constructor
  · intro h z
    rw [List.any_map,List.any_eq_true] at z
    obtain ⟨p,hp,e⟩:=z
    have e:n=p.1:=of_decide_eq_true e
    exact h p hp (decide_eq_true e.symm)
  · intro h p hp e
    apply h
    rw [List.any_map,List.any_eq_true]
    exact ⟨p,hp,decide_eq_true (of_decide_eq_true e).symm⟩
abbrev fu:Stmt:=top 49
theorem gw:aN ["roll","owners","basins","wish","number","holder","room","leak","had"] ["roll","owners","basins","wish"] (aj fu):=⟨rfl,rfl,rfl,by decide +kernel,rfl,by decide +kernel,by decide +kernel⟩
def Dj (K:PySem.W.Frag) (T:fJ):Sp:=fun vs H Q _=>∃ (la lo lb t:Addr) (us bs:List V) (S:RS) (ps:List Pd) (n:Int) (y:Str) (room leak:Int),vs=[.ref la,.ref lo,.ref lb,.ref t]∧SqL K H la us∧d9 K H us (S.ls.map sY)∧SqL K H lo (S.ns.map V.str)∧SqL K H lb bs∧d9 K H bs (ps.map dMv)∧SqT K H t [.int n,.str y,.int room,.int leak]∧S.ns.length=S.ls.length∧S.ls.length≤60∧ps.length≤10∧TabsOk T H ∧
  Om T H (fun xs=>xs=mR (jc S ps n y room leak)) Q
theorem PX {f:Addr} {fd:FuncData} (D:Df K mg "_law_due" fu ["roll","owners","basins","wish"] f fd) (B:Blt mg):bM P w K mg base CX0 1 f fd ["roll","owners","basins","wish"] (Dj K T):=by
  refine D.F.ok gw (fun vs H Q E h=>?_) (fun cdv A outer s H vs Q E hr h=>?_)
  · obtain ⟨_,_,_,_,_,_,_,_,_,_,_,_,rfl,_⟩:=h;rfl
  · obtain ⟨la,lo,lb,t,us,bs,S,ps,n,y,room,leak,rfl,hA,d0,hN,hB,dP,hT,hnn,h60,hp10,tk,q⟩:=h
    have hu:=hr.units
    have hul:us.length=S.ls.length:=by rw [d0.length,List.length_map]
    have hbl:bs.length=ps.length:=by rw [dP.length,List.length_map]
    have p12:(10:Int) ^ (12:Int).toNat=1000000000000:=by decide
    have O:=Ow.refl tk
    refine ⟨_,(@au _ _ _ _ _ (kE (pv 3) (oX rfl (cU (bD (i:=4) gw.nd rfl (Or.inr rfl)) (cU (bD (i:=5) gw.nd rfl (Or.inl rfl)) (cU (bD (i:=6) gw.nd rfl (Or.inl rfl)) (cU (bD (i:=7) gw.nd rfl (Or.inl rfl)) lK))))))
      (@au _ _ _ _ _ (@eN _ _ _ _ _ _ _ _ (PW.pt (pw_or (aY nC (pv 4) aA (bx _)) (pw_or1 (aY Mj (pv 4) (aJ aF rfl B.len PySem.boot_len (@aB _ _ _ _ _ (pv 0) aq rfl)) (bx _)))))
        (@aD _ _ _ (@bC _ _ _ _ (@cI _ _ _ _ (@aB _ _ _ _ _ gk (@aB _ _ _ _ _ gk (@aB _ _ _ _ _ gk (@aB _ _ _ _ _ gk (@aB _ _ _ _ _ gk aq rfl) rfl) rfl) rfl) rfl))))
        bA)
      (@au _ _ _ _ _ (@eN _ _ _ _ _ _ _ _ (aY p8 (@cG _ _ _ _ _ _ _ aX (pv 1) (pv 4) (fun _ _=>rfl)) (pv 5) (bx _))
        (@aD _ _ _ (@bC _ _ _ _ (@cI _ _ _ _ (@aB _ _ _ _ _ gk (@aB _ _ _ _ _ gk (@aB _ _ _ _ _ gk (@aB _ _ _ _ _ gk (@aB _ _ _ _ _ gk aq rfl) rfl) rfl) rfl) rfl))))
        bA)
      (@au _ _ _ _ _ (mH (i:=8) (aj fu) rfl ["roll","owners","basins","wish","number","holder","room","leak","had"] rfl ["basin","number"] [none,some 4] (by decide +kernel) (by decide +kernel) (by decide +kernel) rfl gw.nd rfl rfl (jY (pv 2)) (fun _ _ _=>(bD (i:=0) (show (["basin","number"]:List Str).Nodup by decide +kernel) rfl (Or.inl rfl))) (fun _ _ _=>(Ma (aY jy (@cG _ _ _ _ _ _ _ (Mz (K:=K) rfl) (pv 0) aA (fun _ _=>rfl)) (pv 1) (bx _)))) (fun _ _ _=>(pv 0)) rfl)
      (@au _ _ _ _ _ (@eN _ _ _ _ _ _ _ _ (PW.pt (pw_or (aY p8 (@cG _ _ _ _ _ _ _ kI (@cG _ _ _ _ _ _ _ aX (pv 0) (pv 4) (fun _ _=>rfl)) aA (fun _ _=>rfl)) (@lZ _ _ _ _ _ _ jz aA) (bx _)) (pw_or (aY (rm hu) (pv 8) (@cI _ _ _ _ aq) (bx _)) (pw_or1 (aY jy (aJ aF rfl B.len PySem.boot_len (@aB _ _ _ _ _ (pv 2) aq rfl)) aA (bx _))))))
        (@aD _ _ _ (@bC _ _ _ _ (@cI _ _ _ _ (@aB _ _ _ _ _ gk (@aB _ _ _ _ _ gk (@aB _ _ _ _ _ gk (@aB _ _ _ _ _ gk (@aB _ _ _ _ _ gk aq rfl) rfl) rfl) rfl) rfl))))
        bA)
      (@au _ _ _ _ _ (@eN _ _ _ _ _ _ _ _ (PW.pt (pw_or (aY nC (pv 6) aA (bx _)) (pw_or (aY Bk (pv 6) (@aV _ _ _ _ _ _ _ _ mL aA aA) (bx _)) (pw_or (aY nC (pv 7) aA (bx _)) (pw_or1 (aY Bk (pv 7) aA (bx _)))))))
        (@aD _ _ _ (@bC _ _ _ _ (@cI _ _ _ _ (@aB _ _ _ _ _ gk (@aB _ _ _ _ _ gk (@aB _ _ _ _ _ gk (@aB _ _ _ _ _ gk (@aB _ _ _ _ _ gk aq rfl) rfl) rfl) rfl) rfl))))
        bA)
      (@aD _ _ _ (@bC _ _ _ _ (@cI _ _ _ _ aq))))))))),?_⟩
    refine ⟨_,rfl,t,_,rfl,hT,rfl,_,_,rfl,_,_,rfl,_,_,rfl,_,_,rfl,rfl,?_⟩
    have num:¬ (0≤n∧n<S.ls.length)→jc S ps n y room leak=some .number:=fun h=>by unfold jc;rw [if_pos h]
    refine ⟨_,rfl,_,_,rfl,rfl,_,rfl,ifD (fun h0=>?_) (fun h0=>?_)⟩
    · refine ⟨szl,fun l1 h1=>?_⟩
      walk_at "nw"
      exact O.ret 0 rfl q (by rw [num (fun z=>by have h0:n<0:=h0;omega)];rfl)
    refine ⟨_,rfl,_,rfl,la,_,rfl,.inl hA,_,_,rfl,rfl,_,rfl,ifD (fun h1=>?_) (fun h1=>?_)⟩
    · refine ⟨szl,fun l1 h1'=>?_⟩
      walk_at "nw"
      exact O.ret 0 rfl q (by rw [num (fun z=>by have h1:(us.length:Int)≤n:=h1;omega)];rfl)
    have h0:¬ n<0:=h0
    have h1:¬ (us.length:Int)≤n:=h1
    obtain ⟨j,rfl⟩:=Int.eq_ofNat_of_zero_le (show 0≤n by omega)
    obtain ⟨x,hx⟩:∃ x,S.ns[j]?=some x:=⟨_,List.getElem?_eq_getElem (by omega)⟩
    obtain ⟨l,hl⟩:∃ l,S.ls[j]?=some l:=⟨_,List.getElem?_eq_getElem (by omega)⟩
    obtain ⟨al,hal,hTl⟩:=d0.Du hl
    have hat:S.at_ (j:Int)=l:=Dt rfl hl
    refine ⟨_,rfl,_,rfl,lo,_,_,_,rfl,rfl,hN,gP (show (S.ns.map V.str)[j]?=some (.str x) by rw [List.getElem?_map,hx];rfl),_,rfl,rfl,_,rfl,ifN (ifD (fun hxy=>?_) (fun hxy=>?_))⟩
    rotate_left
    · refine ⟨szl,fun l1 h1'=>?_⟩
      walk_at "nw"
      exact O.ret 0 rfl q (by unfold jc;rw [if_neg (not_not_intro ⟨by omega,by omega⟩),if_pos (by rw [Int.toNat_natCast,hx];exact fun z=>hxy (by rw [Option.some.inj z]))];rfl)
    have hxy:x=y:=V.str.inj hxy
    subst hxy
    have hE:jc S ps (j:Int) x room leak=open Classical in if l.back≠-1∨Lb ps (j:Int)=true∨10≤ps.length∨¬ (0≤room∧room≤1000000000000∧0≤leak∧leak≤1000) then some .pond else none:=by
      unfold jc;rw [if_neg (not_not_intro ⟨by omega,by omega⟩),if_neg (not_not_intro (by rw [Int.toNat_natCast];exact hx)),hat]
    have bad:∀ {H'} , Ow T H H' []→(l.back≠-1∨Lb ps (j:Int)=true∨10≤ps.length∨¬ (0≤room∧room≤1000000000000∧0≤leak∧leak≤1000))→∀ l1,H' l1=none→Q (.ref l1) (upd H' l1 (.lst [.bl false,.bl false,.bl true,.bl false,.bl true])):=fun {H'} O h l1 h1=>by
      walk_at "nw"
      exact O.ret 0 rfl q (by rw [hE,if_pos h];rfl)
    refine ⟨_,rfl,lb,rfl,⟨_,hB⟩,fun lw hlw=>?_⟩
    refine jU (K:=K) (xs:=bs) (fun i τ H'=>Iv (∃ (v0:Option V) (hv:List V),τ=[v0,some (.int (j:Int))]∧Ow T H H' [(lw,.lst hv)]∧d9 K H hv (((ps.take i).filter fun p=>decide (p.1=(j:Int))).map dMv))) ⟨trivial,none,[],rfl,O.mk' hlw rfl,.nil⟩ (fun i τ H' _ ⟨_,_,_,_,O,_⟩=>O.same.seq hB) ?_ ?_
    · clear O
      rintro i v τ H5 hv0 ⟨-,v0,hv,rfl,O,dh⟩
      obtain ⟨ap,p,rfl,hp',hT'⟩:=dP.Dr hv0
      have hi:=(List.getElem?_eq_some_iff.mp hp').1
      have hhl:hv.length≤i:=by
        rw [dh.length,List.length_map]
        exact Nat.le_trans (List.length_filter_le _ _) (by rw [List.length_take];omega)
      have tn:(ps.take (i + 1)).filter (fun p=>decide (p.1=(j:Int)))=(ps.take i).filter (fun p=>decide (p.1=(j:Int)))++(if p.1=(j:Int) then [p] else []):=by
        rw [Tn.lD hp',List.filter_append]
        congr 1
        by_cases e:p.1=(j:Int)
        · rw [if_pos e];simp [e]
        · rw [if_neg e];simp [e]
      refine ⟨_,rfl,ap,_,0,_,rfl,rfl,hT'.mo O.same,rfl,_,rfl,rfl,_,rfl,ifI (fun e=>?_) (fun e=>?_)⟩
      · have e:p.1=(j:Int):=e
        refine ⟨_,rfl,_,O.get 0,bH (by omega),?_⟩
        walk_at "pt"
        refine ⟨trivial,_,_,rfl,O,?_⟩
        rw [tn,if_pos e,List.map_append]
        exact dh.append (.cons (Den.mv hT') .nil)
      · have e:¬ p.1=(j:Int):=e
        exact ⟨trivial,_,hv,rfl,O,by rw [tn,if_neg e,List.append_nil];exact dh⟩
    clear O
    rintro τ H5 ⟨-,v0,hv,rfl,O,dh⟩
    rw [hbl,List.take_of_length_le (Nat.le_refl _)] at dh
    refine ⟨_,rfl,_,rfl,la,_,_,_,rfl,rfl,O.same.seq hA,gP hal,al,_,2,_,rfl,rfl,hTl.mo O.same,rfl,1,rfl,rfl,_,rfl,ifN (ifI (fun hb=>?_) (fun hb=>⟨szl,bad O.tail (.inl hb)⟩))⟩
    refine ⟨_,rfl,szl,fun lz hz=>?_⟩
    walk_at "nw"
    refine ⟨_,_,Den.list (O.sq 1) (dh.mo O.same),Den.list (ds:=[]) (O.sq 0) .nil,(Sh.mvs 0 _).ok (by decide),(Sh.mvs 0 []).ok (by decide),_,rfl,?_⟩
    rw [if_pos rfl,Cq]
    have O:=O.tail.tail
    refine ifN (ifD (fun hh=>?_) (fun hh=>⟨szl,bad O (.inr (.inl (Classical.not_not.mp fun z=>hh ((rG ps _).mpr z))))⟩))
    have hh:=(rG ps _).mp hh
    refine ⟨_,rfl,lb,_,rfl,.inl (O.same.seq hB),rfl,_,rfl,ifI (fun h10=>⟨szl,bad O (.inr (.inr (.inl (by have h10:(bs.length:Int)=10:=h10;omega))))⟩) (fun h10=>?_)⟩
    have h10:¬ (bs.length:Int)=10:=h10
    refine ⟨_,rfl,_,_,rfl,rfl,_,rfl,ifD (fun e=>⟨szl,bad O (.inr (.inr (.inr fun z=>by have e:room<0:=e;omega)))⟩) (fun e1=>?_)⟩
    refine ⟨_,rfl,_,_,rfl,rfl,⟨by decide,by decide,by decide⟩,_,_,rfl,rfl,_,rfl,ifD (fun e=>⟨szl,bad O (.inr (.inr (.inr fun z=>by have e:(10:Int) ^ (12:Int).toNat<room:=e;rw [p12] at e;omega)))⟩) (fun e2=>?_)⟩
    refine ⟨_,rfl,_,_,rfl,rfl,_,rfl,ifD (fun e=>⟨szl,bad O (.inr (.inr (.inr fun z=>by have e:leak<0:=e;omega)))⟩) (fun e3=>?_)⟩
    refine ⟨_,rfl,_,_,rfl,rfl,_,rfl,ifD (fun e=>⟨szl,bad O (.inr (.inr (.inr fun z=>by have e:1000<leak:=e;omega)))⟩) (fun e4=>?_)⟩
    have e1:¬ room<0:=e1
    have e2:¬ (10:Int) ^ (12:Int).toNat<room:=e2
    rw [p12] at e2
    have e3:¬ leak<0:=e3
    have e4:¬ 1000<leak:=e4
    refine ⟨szl,fun l1 h1'=>?_⟩
    walk_at "nw"
    refine O.ret 0 rfl q ?_
    rw [hE,if_neg]
    · rfl
    · rintro (z | z | z | z)
      · exact z hb
      · exact hh z
      · omega
      · exact z ⟨by omega,by omega,by omega,by omega⟩
def PK.ix:PK→Nat
  | .number=>0 | .yours=>1 | .pond=>2
structure Li (K:PySem.W.Frag) (c:Ec) (cP:Addr) (cl:List Addr) (cS:Addr):Prop where
  m:∀ k:PK,PySem.W.exmOne K (.ref (k.at_ c cP)) (.ref cS)=some true
  kt:∀ k:PK,∀ j a,cl[j]?=some a→PySem.W.kitOne K (.ref (k.at_ c cP)) (.ref a)=some (decide (j=k.ix))
  kv:∀ k:PK,PySem.W.kitOne K (.ref (k.at_ c cP)) (.type "ValueError")=some true
  x:∀ k:PK,Lh K (k.at_ c cP)
abbrev fM:Stmt:=top 50
theorem cg:aN ["book","wish","number","holder","room","leak","caught","place","e","kinds"] ["book","wish"] (aj fM):=⟨rfl,rfl,rfl,by decide +kernel,rfl,by decide +kernel,by decide +kernel⟩
def Dg (K:PySem.W.Frag) (T:fJ) (C:Addr):Sp:=fun vs H Q _=>∃ (A:Rs) (Z:Bx) (H0:Hp) (B:List (Addr × HO)) (r:List Int) (S:RS) (gs rs ks us:List V) (ps:List Pd) (t:Addr) (n:Int) (y:Str) (room leak:Int),vs=[.ref A.p,.ref t]∧SqT K H t [.int n,.str y,.int room,.int leak] ∧
  RA K T C A (exB Z) r H0 H (BL Z gs rs ks us++B) S∧RP r (exB Z) S∧d9 K H0 us (ps.map dMv)∧ps.length≤900∧ks.length≤900 ∧
  (jc S ps n y room leak=none→∀ (tb p l:Addr) (Hb H':Hp),aR T H0 Hb→RA K T C A (exB Z) r Hb H' (BL Z gs rs (ks++[.int 0]) (us++[.ref tb])++((p,.tup [.ref l,.int (ps.length:Int)]) :: (l,.lst []) :: B)) S→d9 K Hb (us++[.ref tb]) ((ps++[(n,room,leak)]).map dMv)→Q (.ref p) H') ∧
  (∀ k,jc S ps n y room leak=some k→∀ (p l:Addr) (H':Hp),RA K T C A (exB Z) r H0 H' (BL Z gs rs ks us++((p,.tup [.ref l,.int (-1)]) :: (l,.lst (mR (some k))) :: B)) S→Q (.ref p) H')
section
variable {P:Program} {w:World} {K:PySem.W.Frag} {mg:Str→Option Value} {base:Heap} {T:fJ} {C:Addr} {c:Ec}
theorem Py {f f1 b0 b1 b2 b3 cS:Addr} {fd fd1:FuncData} (D:Df K mg "_law_put" fM ["book","wish"] f fd) (B:Blt mg) (R_Book:BC K C) (X_SluiceError:mz K mg "SluiceError" cS) (TT:Li K c b2 [b0,b1,b2,b3] cS)
    (X_NoNumber:mz K mg "NoNumber" b0) (X_NotYours:mz K mg "NotYours" b1) (X_NoPond:mz K mg "NoPond" b2) (X_TooMuch:mz K mg "TooMuch" b3)
    (fL:DmZ K C "pond" "Book.pond" eH ["self","number","holder","room","leak"] f1 fd1) (lW:bM P w K mg base (CXE P w) 3 f1 fd1 ["self","number","holder","room","leak"] (ud K T C c b2)) :
    bM P w K mg base CX0 4 f fd ["book","wish"] (Dg K T C):=by
  obtain ⟨tz,-,zb_Book_pond⟩:=fL.F
  refine D.F.ok cg (fun vs H Q E h=>?_) (fun cdv A outer s H vs Q E hr h=>?_)
  · obtain ⟨_,_,_,_,_,_,_,_,_,_,_,_,_,_,_,_,rfl,_⟩:=h;rfl
  · obtain ⟨A,Z,H0,L,r,S,gs,rs,ks,us,ps,t,n,y,room,leak,rfl,hT,ra,hp,dP,hpl,hkl,q,qE⟩:=h
    obtain ⟨ls,vs,O,d0,d1⟩:=id ra
    refine ⟨_,(@au _ _ _ _ _ (kE (pv 1) (oX rfl (cU (bD (i:=2) cg.nd rfl (Or.inl rfl)) (cU (bD (i:=3) cg.nd rfl (Or.inl rfl)) (cU (bD (i:=4) cg.nd rfl (Or.inl rfl)) (cU (bD (i:=5) cg.nd rfl (Or.inl rfl)) lK))))))
      (@au _ _ _ _ _ (bh (i:=6) cg.nd rfl (Or.inl rfl) qW)
      (@au _ _ _ _ _ (bh (i:=7) cg.nd rfl (Or.inl rfl) (@lZ _ _ _ _ _ _ jz aA))
      (@au _ _ _ _ _ (Pj (i:=8) ⟨rfl,rfl,rfl⟩ rfl (pP (Ui (aY jy (pv 5) aA (bx _)) (pP (CT (i:=7) cg.nd rfl (Or.inl rfl) (tQ (pv 0) R_Book.c fL.m lW (hr.mono (by decide)) zb_Book_pond (.cons (show RelV (.int 0) _ from ⟨_,rfl⟩) .nil) (@aB _ _ _ _ _ (pv 2) (@aB _ _ _ _ _ (pv 3) (@aB _ _ _ _ _ (pv 4) aq rfl) rfl) rfl)))) (pP (CT (i:=7) cg.nd rfl (Or.inl rfl) (tQ (pv 0) R_Book.c fL.m lW (hr.mono (by decide)) fL.b0 .nil (@aB _ _ _ _ _ (pv 2) (@aB _ _ _ _ _ (pv 3) (@aB _ _ _ _ _ (pv 4) (@aB _ _ _ _ _ (pv 5) aq rfl) rfl) rfl) rfl)))))) rfl X_SluiceError.m cg.nd rfl rfl (fun e =>
        (@aD _ _ _ (bh (i:=6) cg.nd rfl (Or.inl rfl) (pv 8)))))
      (@au _ _ _ _ _ (@eN _ _ _ _ _ _ _ _ (aY Dp (pv 6) qW (bx _))
        (@aD _ _ _ (@bC _ _ _ _ (@ji _ _ _ _ _ (@aB _ _ _ _ _ (@cI _ _ _ _ aq) (@aB _ _ _ _ _ (pv 7) aq rfl) rfl))))
        bA)
      (@au _ _ _ _ _ (bh (i:=9) cg.nd rfl (Or.inl rfl) (@cI _ _ _ _ (@aB _ _ _ _ _ (aJ gJ rfl B.isinstance PyProof.Rows.boot_isinstance (@aB _ _ _ _ _ (pv 6) (@aB _ _ _ _ _ (qX rfl X_NoNumber.m) aq rfl) rfl)) (@aB _ _ _ _ _ (aJ gJ rfl B.isinstance PyProof.Rows.boot_isinstance (@aB _ _ _ _ _ (pv 6) (@aB _ _ _ _ _ (qX rfl X_NotYours.m) aq rfl) rfl)) (@aB _ _ _ _ _ (aJ gJ rfl B.isinstance PyProof.Rows.boot_isinstance (@aB _ _ _ _ _ (pv 6) (@aB _ _ _ _ _ (qX rfl X_NoPond.m) aq rfl) rfl)) aq rfl) rfl) rfl)))
      (@aD _ _ _ (@bC _ _ _ _ (@ji _ _ _ _ _ (@aB _ _ _ _ _ (@aV _ _ _ _ _ _ _ _ rB (pv 9) (@cI _ _ _ _ (@aB _ _ _ _ _ (aJ gJ rfl B.isinstance PyProof.Rows.boot_isinstance (@aB _ _ _ _ _ (pv 6) (@aB _ _ _ _ _ (qX rfl X_TooMuch.m) aq rfl) rfl)) (@aB _ _ _ _ _ (aJ gJ rfl B.isinstance PyProof.Rows.boot_isinstance (@aB _ _ _ _ _ (pv 6) (@aB _ _ _ _ _ (nA (v:=.ty "ValueError") rfl B.ValueError Oh rfl) aq rfl) rfl)) aq rfl) rfl))) (@aB _ _ _ _ _ (pv 7) aq rfl) rfl)))))))))),?_⟩
    refine ⟨_,rfl,t,_,rfl,hT,rfl,_,_,rfl,_,_,rfl,_,_,rfl,_,_,rfl,rfl,1,rfl,?_⟩
    refine ⟨_,rfl,rfl,_,rfl,ifI (fun e0=>⟨_,rfl,A.p,A.dx,_,rfl,O.get 0,rfl,_,rfl,_,rfl,_,rfl,A,Z,H0,L,r,S,gs,rs,ks,us,ps,n,y,room,leak,(by rw [show leak=0 from e0];rfl),ra,hp,dP,hpl,hkl,?ok1,?er1⟩)
      (fun _=>⟨_,rfl,A.p,A.dx,_,rfl,O.get 0,rfl,_,rfl,_,rfl,_,rfl,_,rfl,A,Z,H0,L,r,S,gs,rs,ks,us,ps,n,y,room,leak,rfl,ra,hp,dP,hpl,hkl,?ok2,?er2⟩)⟩
    case ok1 | ok2 =>
      clear O
      rintro hN tb Hb H1 sb ⟨ls,vs,O,d0,d1⟩ dP'
      refine ⟨_,rfl,rfl,_,rfl,nJ ?_⟩
      refine ⟨szl,fun l hl=>?_⟩
      walk_at "nw"
      refine ⟨_,rfl,szl,fun p hp=>?_⟩
      walk_at "nw"
      have O:=Ow.front [(p,.tup [.ref l,.int (ps.length:Int)]),(l,.lst [])] (RX C A (exB Z) r S.day ls S.ns vs++BL Z gs rs (ks++[.int 0]) (us++[.ref tb])) L (by rw [List.append_assoc];exact O)
      rw [List.append_assoc] at O
      exact q hN tb p l Hb _ sb ⟨ls,vs,O,d0,d1⟩ dP'
    case er1 | er2 =>
      intro k hk e H1 s1 he
      have O:=(O.fX s1).fX ((aR.refl s1.t1).upd (o':=.ext (XAt e (k.at_ c b2))) he (.inl he))
      have hX:(upd H1 e (.ext (XAt e (k.at_ c b2)))) e=some (.ext (XAt e (k.at_ c b2))):=aZ
      refine ⟨_,e,rfl,rfl,TT.m k,?_⟩
      generalize upd H1 e (.ext (XAt e (k.at_ c b2)))=H2 at O hX
      have hD:=TT.x k
      have kt:=TT.kt k
      refine ⟨_,rfl,_,rfl,rfl,_,rfl,nM ?_⟩
      refine ⟨_,rfl,e,_,_,_,_,rfl,hX,hD,.inr ⟨_,rfl,rfl⟩,kt 0 _ rfl,_,rfl,e,_,_,_,_,rfl,hX,hD,.inr ⟨_,rfl,rfl⟩,kt 1 _ rfl,_,rfl,e,_,_,_,_,rfl,hX,hD,.inr ⟨_,rfl,rfl⟩,kt 2 _ rfl,szl,fun l1 h1=>?_⟩
      have hX1:=(aL (H:=H2) (o:=.lst [.bl (decide (0=k.ix)),.bl (decide (1=k.ix)),.bl (decide (2=k.ix))]) (aQ hX h1)).trans hX
      generalize hE1:upd _ _ _=Hn
      have O:=Ow.mkE O h1 hE1 rfl
      have hX1:Hn e=some (.ext (XAt e (k.at_ c b2))):=by rw [← hE1];exact hX1
      refine ⟨_,rfl,_,rfl,e,_,_,_,_,rfl,hX1,hD,.inr ⟨_,rfl,rfl⟩,kt 3 _ rfl,_,rfl,e,_,_,_,_,rfl,hX1,hD,.inl ⟨_,rfl,rfl⟩,TT.kv k,szl,fun l2 h2=>?_⟩
      walk_at "nw"
      refine ⟨l1,l2,_,_,rfl,rfl,O.get 1,O.get 0,iC (by simp),fun l3 h3=>?_⟩
      walk_at "nw"
      refine ⟨_,rfl,szl,fun p hp=>?_⟩
      walk_at "nw"
      have O:=O.sub (.cons₂ _ (.cons₂ _ (.cons _ (.cons _ (List.Sublist.refl _)))))
      have O:=Ow.front [(p,.tup [.ref l3,.int (-1)]),(l3,.lst (mR (some k)))] (RX C A (exB Z) r S.day ls S.ns vs++BL Z gs rs ks us) L (by rw [List.append_assoc];cases k <;> exact O)
      rw [List.append_assoc] at O
      exact qE k hk p l3 _ ⟨ls,vs,O,d0,d1⟩
end
theorem rep0 (n:Nat):(List.replicate ((n:Int)).toNat [V.int 0]).flatten=(List.replicate n (0:Int)).map V.int:=by
  rw [Int.toNat_natCast]
  induction n with
  | zero=>rfl
  | succ n ih=>rw [List.replicate_succ,List.flatten_cons,ih,List.replicate_succ];rfl
abbrev cO:Stmt:=top 51
theorem lY:aN ["book","basins","roll","trail"] ["book","basins","roll","trail"] (aj cO):=⟨rfl,rfl,rfl,by decide +kernel,rfl,by decide +kernel,by decide +kernel⟩
def oE (K:PySem.W.Frag) (T:fJ) (C:Addr):Sp:=fun vs H Q _=>∃ (A:Rs) (Z:Bx) (H0:Hp) (B:List (Addr × HO)) (r:List Int) (S:RS) (gs rs us bs ls' vt:List V) (ps:List Pd) (lb la lt:Addr),vs=[.ref A.p,.ref lb,.ref la,.ref lt] ∧
  RA K T C A (exB Z) r H0 H (BL Z gs rs ((List.replicate ps.length (0:Int)).map V.int) us++B) S∧d9 K H us (ps.map dMv)∧ps.length≤900∧SqL K H lb bs∧d9 K H bs (ps.map dMv)∧SqL K H la ls'∧d9 K H ls' (S.ls.map sY)∧SqL K H lt vt∧d9 K H vt (S.ds.map nU)∧(∀ d∈S.ds,rT d)∧S.day=0 ∧
  ∀ H',aR T H H'→Q (.bl true) H'
section
variable {P:Program} {w:World} {K:PySem.W.Frag} {mg:Str→Option Value} {base:Heap} {T:fJ} {C:Addr}
theorem uN {f f1 f2 f3 f4 f5:Addr} {fd fd1 fd2 fd3 fd4 fd5:FuncData} (D:Df K mg "_law_stands" cO ["book","basins","roll","trail"] f fd) (B:Blt mg) (R_Roll:RC K C) (R_Book:BC K C)
    (bY:Dm K C "ponds" "Book.ponds" cR ["self"] f1 fd1) (iH:bM P w K mg base CX0 1 f1 fd1 ["self"] (fD K C "dug"))
    (dX:Dm K C "kept" "Book.kept" dN ["self"] f2 fd2) (jO:bM P w K mg base CX0 1 f2 fd2 ["self"] (fD K C "keeps"))
    (bN:Dm K C "roll" "Roll.roll" cW ["self"] f3 fd3) (iz:bM P w K mg base CX0 1 f3 fd3 ["self"] (fD K C "licences"))
    (cV:Dm K C "deeds" "Roll.deeds" cQ ["self"] f4 fd4) (jm:bM P w K mg base CX0 1 f4 fd4 ["self"] (fD K C "done"))
    (gM:Dm K C "today" "Roll.today" dH ["self"] f5 fd5) (pK:bM P w K mg base CX0 1 f5 fd5 ["self"] (qI C)) :
    bM P w K mg base CX0 2 f fd ["book","basins","roll","trail"] (oE K T C):=by
  refine D.F.ok lY (fun vs H Q E h=>?_) (fun cdv A outer s H vs Q E hr h=>?_)
  · obtain ⟨_,_,_,_,_,_,_,_,_,_,_,_,_,_,_,_,rfl,_⟩:=h;rfl
  · obtain ⟨A,Z,H0,L,r,S,gs,rs,us,bs,ls',vt,ps,lb,la,lt,rfl,⟨ls,vs,OB,d0,d1⟩,dP,hp9,hB,dB,hA,dA,hT,dT,hok,hd0,q⟩:=h
    have hu:=hr.units
    have hbl:bs.length=ps.length:=by rw [dB.length,List.length_map]
    have O:=Ow.refl OB.same.t1
    have d0:=d0.mo OB.same
    have d1:=d1.mo OB.same
    have shp:=Sh.mvs 0 ps
    have shr:=Sh.roll 0 S.ls
    have shd:=Sh.U7 hok
    refine ⟨_,(@au _ _ _ _ _ (@eN _ _ _ _ _ _ _ _ (PW.pt (pw_or (aY (rm hu) (dO (pv 0) R_Book.c bY.m iH (hr.mono (by decide)) bY.b .nil bZ) (pv 1) (bx _)) (pw_or1 (aY (Pr hu) (dO (pv 0) R_Book.c dX.m jO (hr.mono (by decide)) dX.b .nil bZ) (@aV _ _ _ _ _ _ _ _ uK (@cI _ _ _ _ (@aB _ _ _ _ _ aA aq rfl)) (aJ aF rfl B.len PySem.boot_len (@aB _ _ _ _ _ (pv 1) aq rfl))) (bx _)))))
        (@aD _ _ _ (@bC _ _ _ _ gk))
        bA)
      (@aD _ _ _ (@bC _ _ _ _ (mK (iI (rA hu) (dO (pv 0) R_Roll.c bN.m iz (hr.mono (by decide)) bN.b .nil bZ) (pv 2) (bx _)) (mK (iI (rA hu) (dO (pv 0) R_Roll.c cV.m jm (hr.mono (by decide)) cV.b .nil bZ) (pv 3) (bx _)) (oY (iI jy (dO (pv 0) R_Roll.c gM.m pK (hr.mono (by decide)) gM.b .nil bZ) aA (bx _)))))))),?_⟩
    refine ⟨_,rfl,A.p,A.dx,_,rfl,OB.get 0,rfl,A.p,A.dx,Z.ld,_,us,rfl,OB.get 0,rfl,OB.sq 9,fun l1 h1=>?_⟩
    walk_at "nw"
    refine ⟨_,rfl,_,_,Den.list (O.sq 0) (dP.mo O.same),Den.list (O.same.seq hB) (dB.mo O.same),shp.ok (by decide),shp.ok (by decide),_,rfl,?_⟩
    rw [if_pos rfl,show PyData.eqv (.list (ps.map dMv)) (.list (ps.map dMv))=true from jT shp]
    refine nM ?_
    have O:=O.tail
    refine ⟨_,rfl,A.p,A.dx,_,rfl,(OB.fX O.same).get 0,rfl,A.p,A.dx,Z.lk,_,_,rfl,(OB.fX O.same).get 0,rfl,(OB.fX O.same).sq 8,fun l2 h2=>?_⟩
    walk_at "nw"
    refine ⟨szl,fun l3 h3=>?_⟩
    walk_at "nw"
    refine ⟨_,rfl,lb,_,rfl,.inl (O.same.seq hB),?_⟩
    refine ⟨l3,_,_,rfl,rfl,O.get 0,by omega,by omega,iC (by rw [Int.toNat_natCast];simp only [List.length_cons,List.length_nil];omega),fun l4 h4=>?_⟩
    walk_at "nw"
    rw [rep0,hbl] at O
    refine ⟨l2,l4,_,_,rfl,rfl,O.sq 2,O.sq 0,_,rfl,?_⟩
    rw [if_pos rfl,decide_eq_true rfl]
    refine nM ?_
    have O:=O.tail.tail.tail
    refine ⟨_,rfl,A.p,A.dx,_,rfl,(OB.fX O.same).get 0,rfl,A.p,A.dx,A.ll,_,ls,rfl,(OB.fX O.same).get 0,rfl,(OB.fX O.same).sq 3,fun l5 h5=>?_⟩
    walk_at "nw"
    refine ⟨_,rfl,_,_,Den.list (O.sq 0) (d0.mo O.same),Den.list (O.same.seq hA) (dA.mo O.same),shr.ok (by decide),shr.ok (by decide),?_⟩
    rw [if_neg Bool.false_ne_true,show PyData.eqv (.list (S.ls.map sY)) (.list (S.ls.map sY))=true from jT shr]
    refine ⟨_,rfl,nJ ?_⟩
    have O:=O.tail
    refine ⟨_,rfl,A.p,A.dx,_,rfl,(OB.fX O.same).get 0,rfl,A.p,A.dx,A.lo,_,vs,rfl,(OB.fX O.same).get 0,rfl,(OB.fX O.same).sq 5,fun l6 h6=>?_⟩
    walk_at "nw"
    refine ⟨_,rfl,_,_,Den.list (O.sq 0) (d1.mo O.same),Den.list (O.same.seq hT) (dT.mo O.same),shd.ok (by decide),shd.ok (by decide),?_⟩
    rw [if_neg Bool.false_ne_true,jT shd]
    refine ⟨_,rfl,nJ ?_⟩
    have O:=O.tail
    refine ⟨_,rfl,A.p,A.dx,_,rfl,(OB.fX O.same).get 0,rfl,A,exB Z,S.day,rfl,(OB.fX O.same).get 0,?_⟩
    rw [hd0]
    exact ⟨rfl,q _ O.same⟩
end
abbrev dD:Stmt:=top 39
theorem m6:aN ["found"] ["found"] (aj dD):=⟨rfl,rfl,rfl,by decide +kernel,rfl,by decide +kernel,by decide +kernel⟩
def qH:Sp:=fun vs H Q _=>∃ (z:Int),vs=[.int z]∧Q (.bl true) H
theorem Dw (K:PySem.W.Frag):PySem.W.kitOne K (.type "int") (.type "int")=some true:=by rfl
theorem Dy (K:PySem.W.Frag):PySem.W.kitOne K (.type "int") (.type "bool")=some false:=by rfl
theorem Dv (K:PySem.W.Frag):PySem.W.kitOne K (.type "list") (.type "list")=some true:=by rfl
theorem Bl {f:Addr} {fd:FuncData} (D:Df K mg "_law_whole" dD ["found"] f fd) (B:Blt mg):bM P w K mg base CX0 1 f fd ["found"] qH:=by
  refine D.F.ok m6 (fun vs H Q E h=>?_) (fun cdv A outer s H vs Q E hr h=>?_)
  · obtain ⟨z,rfl,_⟩:=h;rfl
  · obtain ⟨z,rfl,q⟩:=h
    refine ⟨_,(aD (bC (mK (aJ jL rfl B.isinstance PyProof.Rows.boot_isinstance (aC (pv 0) (aC (nA (v:=.ty "int") rfl B.int PyProof.Rows.boot_int rfl) aq))) (oY (Pq (aJ jL rfl B.isinstance PyProof.Rows.boot_isinstance (aC (pv 0) (aC (nA (v:=.ty "bool") rfl B.bool PyProof.Rows.boot_bool rfl) aq)))))))),?_⟩
    refine ⟨_,rfl,_,_,_,true,rfl,.int _,Dw K,_,rfl,nJ ?_⟩
    exact ⟨_,rfl,_,_,_,false,rfl,.int _,Dy K,_,rfl,q⟩
theorem Mx {K:PySem.W.Frag} {rows cols:List Addr} {n m:Nat} (h:rows.map (fun a=>cols.map (fun b=>PySem.W.kitOne K (.ref a) (.ref b)))=(List.range n).map fun i=>(List.range m).map fun j=>some (decide (j=i))) {i j:Nat} {a b:Addr} (ha:rows[i]?=some a) (hb:cols[j]?=some b):PySem.W.kitOne K (.ref a) (.ref b)=some (decide (j=i)):=by
  have h1:=congrArg (fun z=>z[i]?) h
  simp only [List.getElem?_map,ha,Option.map_some] at h1
  by_cases hi:i<n
  · rw [List.getElem?_range hi,Option.map_some] at h1
    have h2:=congrArg (fun z=>z[j]?) (Option.some.inj h1)
    simp only [List.getElem?_map,hb,Option.map_some] at h2
    by_cases hj:j<m
    · rw [List.getElem?_range hj,Option.map_some] at h2
      exact Option.some.inj h2
    · rw [List.getElem?_eq_none (by rw [List.length_range];omega)] at h2;cases h2
  · rw [List.getElem?_eq_none (by rw [List.length_range];omega)] at h1;cases h1
theorem mF {r:List Int} {rk:Nat→Nat} (h3:∀ (i:Nat) (x:Int),r[i]?=some x→x=-1∨(0≤x∧x<r.length∧rk x.toNat<rk i)):∀ (f:Nat) (p:Int),0≤p→p<r.length→rk p.toNat<f→Rv.jW r f p=-1
  | 0,p,_,_,h=>absurd h (Nat.not_lt_zero _)
  | f + 1,p,h0,h1,h=>by
    show Rv.jW r f (Rv.stp r p)=-1
    unfold Rv.stp
    rw [if_neg (by omega)]
    rcases h3 _ _ (Rv.jk h0 h1) with e | ⟨a,b,c⟩
    · rw [e];exact Rv.qF r f
    · exact mF h3 f _ a b (by omega)
theorem uw {r:List Int} (hR:Rv.lU r) (h1:1≤r.length) (h2:r.length≤40):Rv.isR r=true:=by
  obtain ⟨rk,k1,k2⟩:=hR
  have hB:Rv.inB r:=fun x hx=>by
    obtain ⟨i,hi⟩:=List.getElem?_of_mem hx
    rcases k2 i x hi with e | ⟨a,b,_⟩ <;> omega
  unfold Rv.isR
  rw [decide_eq_true (⟨h1,h2⟩:1≤r.length∧r.length≤40),decide_eq_true hB,decide_eq_true (fun i hi=>mF k2 _ _ (by omega) (by omega) (by rw [Int.toNat_natCast];exact k1 i hi))]
  rfl
theorem RA.swap {K:PySem.W.Frag} {T:fJ} {C:Addr} {A:Rs} {ex:List (Str × V)} {r:List Int} {H0 H:Hp} {S:RS} (X Y B:List (Addr × HO)) (h:RA K T C A ex r H0 H (X++(Y++B)) S):RA K T C A ex r H0 H (Y++(X++B)) S:=by
  obtain ⟨us,vs,O,d0,d1⟩:=h
  exact ⟨us,vs,O.perm (List.Perm.append_left _ (List.perm_append_comm_assoc _ _ _)),d0,d1⟩
def RS.new:RS:=⟨0,[],[],[]⟩
theorem Aw (n:Nat):((List.replicate n (0:Int)).map V.int)++[V.int 0]=(List.replicate (n + 1) (0:Int)).map V.int:=by
  rw [List.replicate_succ',List.map_append];rfl
theorem Mf {S:RS} {ps:List Pd} {n:Int} {y:Str} {room leak:Int} (h:jc S ps n y room leak=none):ps.length<10:=by
  unfold jc at h
  split at h
  · cases h
  · split at h
    · cases h
    · split at h
      · cases h
      · rename_i h3
        exact Nat.lt_of_not_le fun z=>h3 (.inr (.inr (.inl z)))
def WOk (K:PySem.W.Frag) (H:Hp) (v:V):Prop:=∃ a,v=.ref a∧((∃ (n:Int) (y:Str) (room leak:Int),SqT K H a [.int n,.str y,.int room,.int leak])∨∃ z:Int,SqT K H a [.int z])
theorem WOk.mo {K:PySem.W.Frag} {T:fJ} {H H':Hp} {v:V} (h:WOk K H v) (s:aR T H H'):WOk K H' v:=by
  obtain ⟨a,e,h⟩:=h
  rcases h with ⟨n,y,room,leak,h⟩ | ⟨z,h⟩
  · exact ⟨a,e,.inl ⟨n,y,room,leak,h.mo s⟩⟩
  · exact ⟨a,e,.inr ⟨z,h.mo s⟩⟩
def rE:Option PK→List PyData
  | none=>[]
  | some .number=>[.bool true,.bool false,.bool false,.bool false,.bool true]
  | some .yours=>[.bool false,.bool true,.bool false,.bool false,.bool true]
  | some .pond=>[.bool false,.bool false,.bool true,.bool false,.bool true]
theorem gU {K:PySem.W.Frag} {H:Hp} (o:Option PK):d9 K H (mR o) (rE o):=by
  rcases o with _ | _ | _ | _
  · exact .nil
  · exact .cons (.bl _) (.cons (.bl _) (.cons (.bl _) (.cons (.bl _) (.cons (.bl _) .nil))))
  · exact .cons (.bl _) (.cons (.bl _) (.cons (.bl _) (.cons (.bl _) (.cons (.bl _) .nil))))
  · exact .cons (.bl _) (.cons (.bl _) (.cons (.bl _) (.cons (.bl _) (.cons (.bl _) .nil))))
theorem LC (b:Bool):Sh 0 (.bool b):=by
  cases b <;> exact ⟨by decide +kernel,by decide +kernel⟩
theorem gC (o:Option PK):Sh 1 (.list (rE o)):=.list fun d hd=>by
  rcases o with _ | _ | _ | _
  · cases hd
  all_goals
    simp only [rE,List.mem_cons,List.not_mem_nil,or_false] at hd
    rcases hd with rfl | rfl | rfl | rfl | rfl <;> exact LC _
theorem o8 (o:Option PK):PyData.eqv (.list (rE o)) (.list [])=decide (o=none):=by
  rcases o with _ | _ | _ | _ <;> rfl
abbrev kY:Stmt:=top 52
theorem fY:aN ["script","first","river","book","beside","cell","old","roll","owners","trail","none","wishes","basins","wish","due","kinds","place"] ["script"] (aj kY):=⟨rfl,rfl,rfl,by decide +kernel,rfl,by decide +kernel,by decide +kernel⟩
def qK (K:PySem.W.Frag):Sp:=fun vs H Q _=>∃ (a:Addr) (ns:List Int),vs=[.ref a]∧SqL K H a (ns.map V.int)∧ns.length≤63∧∀ H',Q (.bl true) H'
section
variable {P:Program} {w:World} {K:PySem.W.Frag} {mg:Str→Option Value} {base:Heap} {C f2:Addr} {c:Ec}
theorem PB {f f1 f3 f4 f5 f6 f7 f8 f9 f10 f11 f12 f13 f14 f15 f16 f17:Addr} {fd fd1 fd2 fd3 fd4 fd5 fd6 fd7 fd8 fd9 fd10 fd11 fd12 fd13 fd14 fd15 fd16 fd17:FuncData} (D:Df K mg "law" kY ["script"] f fd) (B:Blt mg) (R_Book:Cl K mg "Book" C f2 Oi) (R_Roll:RC K C)
    (aK:Df K mg "_law_cell_at" cu ["script","k"] f1 fd1) (fG:bM P w K mg base CX0 1 f1 fd1 ["script","k"] (uh K))
    (aH:Df K mg "_law_pebble" bI ["cell","k"] f3 fd3) (dU:bM P w K mg base CX0 1 f3 fd3 ["cell","k"] oF)
    (aG:Df K mg "_law_pebbles" bB ["cell","many"] f4 fd4) (dZ:bM P w K mg base CX0 2 f4 fd4 ["cell","many"] mY)
    (fV:Df K mg "_law_river" dF ["xs","cell"] f5 fd5) (pI:bM P w K mg base CX0 2 f5 fd5 ["xs","cell"] (qJ K))
    (eX:Dm K C "__init__" "Book.__init__" bU ["self","below"] f2 fd2) (jo:bM P w K mg base (CXE P w) 4 f2 fd2 ["self","below"] (qQ K [] C c))
    (fW:Df K mg "_law_filed" dG ["book","river","cell"] f6 fd6) (pJ:bM P w K mg base CX0 4 f6 fd6 ["book","river","cell"] (qM K [] C))
    (bG:Dm K C "holders" "Roll.holders" bQ ["self"] f7 fd7) (gD:bM P w K mg base CX0 1 f7 fd7 ["self"] (fD K C "names"))
    (gB:Df K mg "_law_sold" eF ["book","cell"] f8 fd8) (qy:bM P w K mg base CX0 4 f8 fd8 ["book","cell"] (tZ K [] C))
    (bN:Dm K C "roll" "Roll.roll" cW ["self"] f9 fd9) (iz:bM P w K mg base CX0 1 f9 fd9 ["self"] (fD K C "licences"))
    (cV:Dm K C "deeds" "Roll.deeds" cQ ["self"] f10 fd10) (jm:bM P w K mg base CX0 1 f10 fd10 ["self"] (fD K C "done"))
    (bY:Dm K C "ponds" "Book.ponds" cR ["self"] f11 fd11) (iH:bM P w K mg base CX0 1 f11 fd11 ["self"] (fD K C "dug"))
    (dX:Dm K C "kept" "Book.kept" dN ["self"] f12 fd12) (jO:bM P w K mg base CX0 1 f12 fd12 ["self"] (fD K C "keeps"))
    (d8:Df K mg "_law_sold_on" cj ["book","x","owners","trail"] f13 fd13) (mq:bM P w K mg base CX0 4 f13 fd13 ["book","x","owners","trail"] (Dd K [] C))
    (gA:Df K mg "_law_wish" eE ["roll","old","owners","cell"] f14 fd14) (qw:bM P w K mg base CX0 3 f14 fd14 ["roll","old","owners","cell"] (tY K []))
    (gY:Df K mg "_law_due" fu ["roll","owners","basins","wish"] f15 fd15) (tH:bM P w K mg base CX0 1 f15 fd15 ["roll","owners","basins","wish"] (Dj K []))
    (gW:Df K mg "_law_put" fM ["book","wish"] f16 fd16) (tG:bM P w K mg base CX0 4 f16 fd16 ["book","wish"] (Dg K [] C))
    (fB:Df K mg "_law_stands" cO ["book","basins","roll","trail"] f17 fd17) (n6:bM P w K mg base CX0 2 f17 fd17 ["book","basins","roll","trail"] (oE K [] C))
    {f18:Addr} {fd18:FuncData} (fU:Df K mg "_law_whole" dD ["found"] f18 fd18) (pH:bM P w K mg base CX0 1 f18 fd18 ["found"] qH):bM P w K mg base CX0 6 f fd ["script"] (qK K):=by
  refine D.F.ok fY (fun vs H Q E h=>?_) (fun cdv A outer s H vs Q E hr h=>?_)
  · obtain ⟨_,_,rfl,_⟩:=h;rfl
  · obtain ⟨a,ns,rfl,hS,hlen,k⟩:=h
    have hu:=hr.units
    refine ⟨_,(@au _ _ _ _ _ (bh (i:=1) fY.nd rfl (Or.inl rfl) (aW fG (hr.mono (by decide)) rfl aK.m aK.F.kp aK.b .nil bZ (@aB _ _ _ _ _ (pv 0) (@aB _ _ _ _ _ aA aq rfl) rfl)))
      (@au _ _ _ _ _ (bh (i:=2) fY.nd rfl (Or.inl rfl) (aW pI (hr.mono (by decide)) rfl fV.m fV.F.kp fV.b .nil bZ (@aB _ _ _ _ _ (aW dZ (hr.mono (by decide)) rfl aG.m aG.F.kp aG.b .nil bZ (@aB _ _ _ _ _ (aW fG (hr.mono (by decide)) rfl aK.m aK.F.kp aK.b .nil bZ (@aB _ _ _ _ _ (pv 0) (@aB _ _ _ _ _ aA aq rfl) rfl)) (@aB _ _ _ _ _ (@aV _ _ _ _ _ _ _ _ cZ (pv 1) aA) aq rfl) rfl)) (@aB _ _ _ _ _ (aW fG (hr.mono (by decide)) rfl aK.m aK.F.kp aK.b .nil bZ (@aB _ _ _ _ _ (pv 0) (@aB _ _ _ _ _ aA aq rfl) rfl)) aq rfl) rfl)))
      (@au _ _ _ _ _ (bh (i:=3) fY.nd rfl (Or.inl rfl) (uI R_Book.k jo (hr.mono (by decide)) rfl R_Book.m eX.b .nil uJ (@aB _ _ _ _ _ (gH dJ rfl B.list PyProof.Rows.boot_list (@aB _ _ _ _ _ (pv 2) aq rfl)) aq rfl)))
      (@au _ _ _ _ _ (bh (i:=4) fY.nd rfl (Or.inl rfl) (uI R_Book.k jo (hr.mono (by decide)) rfl R_Book.m eX.b .nil uJ (@aB _ _ _ _ _ (gH dJ rfl B.list PyProof.Rows.boot_list (@aB _ _ _ _ _ (pv 2) aq rfl)) aq rfl)))
      (@au _ _ _ _ _ (kj PassesOwn.never rfl (jY (@aV _ _ _ _ _ _ _ _ rB (@aV _ _ _ _ _ _ _ _ rB (nq pU (pv 0) (lJ aA) (lJ aA)) (@cI _ _ _ _ (@aB _ _ _ _ _ (pv 1) aq rfl))) (aW dZ (hr.mono (by decide)) rfl aG.m aG.F.kp aG.b .nil bZ (@aB _ _ _ _ _ (pv 1) (@aB _ _ _ _ _ (@aV _ _ _ _ _ _ _ _ cZ (@aV _ _ _ _ _ _ _ _ iu (pv 1) aA) aA) aq rfl) rfl)))) (bD (i:=5) fY.nd rfl (Or.inl rfl))
        (@aD _ _ _ (bV (aW pJ (hr.mono (by decide)) rfl fW.m fW.F.kp fW.b .nil bZ (@aB _ _ _ _ _ (pv 3) (@aB _ _ _ _ _ (pv 2) (@aB _ _ _ _ _ (pv 5) aq rfl) rfl) rfl)))))
      (@au _ _ _ _ _ (bh (i:=6) fY.nd rfl (Or.inl rfl) (dO (pv 3) R_Roll.c bG.m gD (hr.mono (by decide)) bG.b .nil bZ))
      (@au _ _ _ _ _ (bV (aW qy (hr.mono (by decide)) rfl gB.m gB.F.kp gB.b .nil bZ (@aB _ _ _ _ _ (pv 3) (@aB _ _ _ _ _ (aW fG (hr.mono (by decide)) rfl aK.m aK.F.kp aK.b .nil bZ (@aB _ _ _ _ _ (pv 0) (@aB _ _ _ _ _ aA aq rfl) rfl)) aq rfl) rfl)))
      (@au _ _ _ _ _ (bh (i:=7) fY.nd rfl (Or.inl rfl) (dO (pv 3) R_Roll.c bN.m iz (hr.mono (by decide)) bN.b .nil bZ))
      (@au _ _ _ _ _ (bh (i:=8) fY.nd rfl (Or.inr rfl) (dO (pv 3) R_Roll.c bG.m gD (hr.mono (by decide)) bG.b .nil bZ))
      (@au _ _ _ _ _ (bh (i:=9) fY.nd rfl (Or.inl rfl) (dO (pv 3) R_Roll.c cV.m jm (hr.mono (by decide)) cV.b .nil bZ))
      (@au _ _ _ _ _ (bh (i:=10) fY.nd rfl (Or.inl rfl) (dO (pv 3) R_Book.c bY.m iH (hr.mono (by decide)) bY.b .nil bZ))
      (@au _ _ _ _ _ (bh (i:=11) fY.nd rfl (Or.inl rfl) (@cI _ _ _ _ aq))
      (ig (@eN _ _ _ _ _ _ _ _ (aY jy (@aV _ _ _ _ _ _ _ _ cZ (@aV _ _ _ _ _ _ _ _ iu (pv 1) aA) aA) aA (bx _))
        (@aD _ _ _ (mH (i:=11) (aj kY) rfl ["script","first","river","book","beside","cell","old","roll","owners","trail","none","wishes","basins","wish","due","kinds","place"] rfl ["k","owners","script"] [none,some 8,some 0] (by decide +kernel) (by decide +kernel) (by decide +kernel) rfl fY.nd rfl rfl (gG rfl B.range (@aB _ _ _ _ _ (aJ aF rfl B.len PySem.boot_len (@aB _ _ _ _ _ (pv 7) aq rfl)) aq rfl)) (fun _ _ _=>(bD (i:=0) (show (["k","owners","script"]:List Str).Nodup by decide +kernel) rfl (Or.inl rfl))) (fun _ _ _=>jH) (fun _ _ _=>(@ji _ _ _ _ _ (@aB _ _ _ _ _ (pv 0) (@aB _ _ _ _ _ (@cG _ _ _ _ _ _ _ (Cd (K:=K) rfl) (pv 1) (pv 0) (fun _ _=>rfl)) (@aB _ _ _ _ _ (@aV _ _ _ _ _ _ _ _ cZ (aW fG (hr.mono (by decide)) rfl aK.m aK.F.kp aK.b .nil bZ (@aB _ _ _ _ _ (pv 2) (@aB _ _ _ _ _ aA aq rfl) rfl)) (@aV _ _ _ _ _ _ _ _ gq (@aV _ _ _ _ _ _ _ _ mL aA aA) aA)) (@aB _ _ _ _ _ (pv 0) aq rfl) rfl) rfl) rfl))) rfl))
        bA)
      (@au _ _ _ _ _ (bh (i:=12) fY.nd rfl (Or.inl rfl) (@cI _ _ _ _ aq))
      (@au _ _ _ _ _ (kj PassesOwn.never rfl (jY (@aV _ _ _ _ _ _ _ _ rB (pv 11) (jZ (aj kY) rfl ["script","first","river","book","beside","cell","old","roll","owners","trail","none","wishes","basins","wish","due","kinds","place"] rfl ["cell"] [none] (by decide +kernel) (by decide +kernel) (by decide +kernel) rfl (jY (nq pU (pv 0) (lJ aA) (lJ aA))) (fun _ _ _=>(bD (i:=0) (show (["cell"]:List Str).Nodup by decide +kernel) rfl (Or.inl rfl))) (fun _ _ _=>jH) (fun _ _ _=>(@ji _ _ _ _ _ (@aB _ _ _ _ _ (pv 0) aq rfl)))))) (bD (i:=13) fY.nd rfl (Or.inl rfl))
        (ig (@eN _ _ _ _ _ _ _ _ (aY jy (aJ aF rfl B.len PySem.boot_len (@aB _ _ _ _ _ (pv 13) aq rfl)) aA (bx _))
          (@au _ _ _ _ _ (bV (aW mq (hr.mono (by decide)) rfl d8.m d8.F.kp d8.b .nil bZ (@aB _ _ _ _ _ (pv 3) (@aB _ _ _ _ _ (aW dU (hr.mono (by decide)) rfl aH.m aH.F.kp aH.b .nil bZ (@aB _ _ _ _ _ (@cG _ _ _ _ _ _ _ kI (pv 13) aA (fun _ _=>rfl)) (@aB _ _ _ _ _ aA aq rfl) rfl)) (@aB _ _ _ _ _ (pv 8) (@aB _ _ _ _ _ (pv 9) aq rfl) rfl) rfl) rfl)))
          (@aD _ _ _ (bh (i:=13) fY.nd rfl (Or.inl rfl) (aW qw (hr.mono (by decide)) rfl gA.m gA.F.kp gA.b .nil bZ (@aB _ _ _ _ _ (pv 7) (@aB _ _ _ _ _ (pv 6) (@aB _ _ _ _ _ (pv 8) (@aB _ _ _ _ _ (@cG _ _ _ _ _ _ _ kI (pv 13) aA (fun _ _=>rfl)) aq rfl) rfl) rfl) rfl)))))
          bA)
        (@au _ _ _ _ _ (bh (i:=14) fY.nd rfl (Or.inl rfl) (aW tH (hr.mono (by decide)) rfl gY.m gY.F.kp gY.b .nil bZ (@aB _ _ _ _ _ (pv 7) (@aB _ _ _ _ _ (pv 8) (@aB _ _ _ _ _ (pv 12) (@aB _ _ _ _ _ (pv 13) aq rfl) rfl) rfl) rfl)))
        (@au _ _ _ _ _ (kE (aW tG (hr.mono (by decide)) rfl gW.m gW.F.kp gW.b .nil bZ (@aB _ _ _ _ _ (pv 3) (@aB _ _ _ _ _ (pv 13) aq rfl) rfl)) (oX rfl (cU (bD (i:=15) fY.nd rfl (Or.inl rfl)) (cU (bD (i:=16) fY.nd rfl (Or.inl rfl)) lK))))
        (@au _ _ _ _ _ (@eN _ _ _ _ _ _ _ _ (aY (rm hu) (pv 15) (pv 14) (bx _))
          (@aD _ _ _ (@bC _ _ _ _ gk))
          bA)
        (ig (@eN _ _ _ _ _ _ _ _ (aY (rA hu) (pv 14) (@cI _ _ _ _ aq) (bx _))
          (@au _ _ _ _ _ (@eN _ _ _ _ _ _ _ _ (PW.pt (pw_or (jC (jB (aW pH (hr.mono (by decide)) rfl fU.m fU.F.kp fU.b .nil bZ (@aB _ _ _ _ _ (pv 16) aq rfl)))) (pw_or1 (aY p8 (pv 16) (aJ aF rfl B.len PySem.boot_len (@aB _ _ _ _ _ (pv 12) aq rfl)) (bx _)))))
            (@aD _ _ _ (@bC _ _ _ _ gk))
            bA)
          (@aD _ _ _ (bV (j4 PySem.F.plainAttrs_list PySem.F.slot_list_append PySem.F.type_list_append dg (pv 12) (@aB _ _ _ _ _ (@ji _ _ _ _ _ (@aB _ _ _ _ _ (@cG _ _ _ _ _ _ _ kI (pv 13) aA (fun _ _=>rfl)) (@aB _ _ _ _ _ (@cG _ _ _ _ _ _ _ kI (pv 13) aA (fun _ _=>rfl)) (@aB _ _ _ _ _ (@cG _ _ _ _ _ _ _ kI (pv 13) aA (fun _ _=>rfl)) aq rfl) rfl) rfl)) aq rfl)))))
          bA)
        (@aD _ _ _ (@eN _ _ _ _ _ _ _ _ (jC (jB (aW n6 (hr.mono (by decide)) rfl fB.m fB.F.kp fB.b .nil bZ (@aB _ _ _ _ _ (pv 3) (@aB _ _ _ _ _ (pv 12) (@aB _ _ _ _ _ (pv 7) (@aB _ _ _ _ _ (pv 9) aq rfl) rfl) rfl) rfl))))
          (@aD _ _ _ (@bC _ _ _ _ gk))
          bA))))))))
      (@aD _ _ _ (@bC _ _ _ _ (mK (iI (Dq hu) (pv 10) (@cI _ _ _ _ aq) (bx _)) (mK (iI (Dq hu) (dO (pv 4) R_Book.c bY.m iH (hr.mono (by decide)) bY.b .nil bZ) (@cI _ _ _ _ aq) (bx _)) (oY (aJ jL rfl B.isinstance PyProof.Rows.boot_isinstance (@aB _ _ _ _ _ (dO (pv 3) R_Book.c dX.m jO (hr.mono (by decide)) dX.b .nil bZ) (@aB _ _ _ _ _ (nA (v:=.ty "list") rfl B.list PyProof.Rows.boot_list rfl) aq rfl) rfl)))))))))))))))))))))),?_⟩
    have O:=Ow.Ux H
    refine ⟨_,rfl,a,ns,0,rfl,hS,?_⟩
    generalize ns.getD 0 0=fi
    have m9:=Ds fi 9 (by decide)
    refine ⟨_,rfl,a,ns,1,rfl,hS,_,rfl,_,_,rfl,rfl,(by show (0:Int)<9;decide),_,_,rfl,by omega,by omega,O.got fun lp H1 xs O e=>?_⟩
    subst e
    refine ⟨_,rfl,a,ns,2,rfl,O.same.seq hS,lp,_,_,rfl,O.sq 0,by rw [jr];omega,O.got fun lv H2 xs O e=>?_⟩
    obtain ⟨r,rfl,hR,hrl⟩:=e
    rw [jr] at hrl
    have r1:1≤r.length:=by omega
    have r9:r.length≤9:=by omega
    have hIR:=uw hR r1 (by omega)
    refine ⟨_,rfl,lv,_,rfl,.inl (O.sq 0),fun lb hlb=>?_⟩
    walk_at "nw"
    intro x dx nx ndx nex
    have O:=(O.mk' ndx (o:=.own x) rfl).mk' (a:=x) (o:=.ins C dx []) (by rw [aL nex.symm];exact nx) rfl
    refine ⟨x,dx,lb,H,_,r,rfl,O,O.sq 2,by omega,fun _ A Z H5 eA eZ O5=>⟨rfl,?_⟩,fun z=>by rw [hIR] at z;cases z⟩
    subst eA
    clear O nx ndx nex
    have O:Ow [] H H5 ((RX C A (exB Z) r 0 [] [] []++BL Z [] [] [] [])++[(lv,.lst (r.map V.int))]):=O5.sub (by rw [List.append_assoc];exact List.Sublist.append_left (List.Sublist.append_left (List.Sublist.cons _ (List.Sublist.cons₂ _ (List.nil_sublist _))) _) _)
    clear O5
    refine ⟨_,rfl,lv,_,rfl,.inl (O.sq 10),fun lb2 hlb2=>?_⟩
    walk_at "nw"
    intro x dx nx ndx nex
    have O:=(O.mk' ndx (o:=.own x) rfl).mk' (a:=x) (o:=.ins C dx []) (by rw [aL nex.symm];exact nx) rfl
    refine ⟨x,dx,lb2,H,_,r,rfl,O,O.sq 2,by omega,fun _ A2 Z2 H6 eA eZ2 O6=>⟨rfl,?_⟩,fun z=>by rw [hIR] at z;cases z⟩
    subst eA
    clear O nx ndx nex
    obtain ⟨W,hW,hw1,hw2⟩:∃ W,W=RX C A2 (exB Z2) r 0 [] [] []++BL Z2 [] [] [] []∧(A2.p,Dz C A2 (exB Z2) 0)∈W∧(Z2.ld,HO.lst [])∈W:=⟨_,rfl,.head _,List.mem_append_right _ (.tail _ (.tail _ (.tail _ (.head _))))⟩
    have O:Ow [] H H6 (RX C A (exB Z) r 0 [] [] []++(BL Z [] [] [] []++((lv,.lst (r.map V.int)) :: W))):=by
      have O:=O6.sub (List.Sublist.append_left (List.Sublist.append_left (List.sublist_cons_self _ _) _) _)
      rw [← List.append_assoc,← hW] at O
      exact (show Ow [] H H6 ((((RX C A (exB Z) r 0 [] [] [])++BL Z [] [] [] [])++[(lv,HO.lst (r.map V.int))])++W) from O.perm List.perm_append_comm)
    clear O6 hW
    have at0:pN r Z RS.new:=⟨⟨hR,by omega,rfl,by decide,by decide,by show (exB Z).length≤100;exact (by decide:5≤100),Ld Z⟩,(fun d hd=>nomatch hd),(fun d hd=>nomatch hd),rfl⟩
    refine ⟨_,rfl,3,rfl,9,rfl,a,_,rfl,O.same.seq hS,fun l1 h1=>?_⟩
    walk_at "nw"
    rw [show tK (ns.map V.int) (some 3) (some 9)=((ns.drop 3).take 6).map V.int from Lg ns 3 9] at O
    have hql:((ns.drop 3).take 6).length≤6:=by rw [List.length_take];omega
    generalize (ns.drop 3).take 6=q1 at O hql
    refine ⟨_,rfl,szl,fun l2 h2=>?_⟩
    walk_at "nw"
    refine ⟨l1,l2,_,_,rfl,rfl,O.get 1,O.get 0,iC (by rw [List.length_map];simp only [List.length_cons,List.length_nil];omega),fun l3 h3=>?_⟩
    walk_at "nw"
    have O:=O.two.two
    have m10:=Ds (fi / 9) 10 (by decide)
    refine ⟨_,rfl,_,rfl,_,_,rfl,rfl,⟨by decide,by decide⟩,_,_,rfl,rfl,(by show (0:Int)<10;decide),_,_,rfl,by omega,by omega,O.got fun l4 H7 xs O e=>?_⟩
    subst e
    have hpl:=jr fi (fi / 9 % 10).toNat
    generalize mJ fi (fi / 9 % 10).toNat=q2 at O hpl
    refine ⟨l3,l4,_,_,rfl,rfl,O.get 1,O.get 0,iC (by simp only [List.length_append,List.length_map,List.length_cons,List.length_nil];omega),fun lq hlq=>?_⟩
    walk_at "nw"
    have O:=O.two.two
    rw [show q1.map V.int++[V.int fi]++q2.map V.int=(q1++[fi]++q2).map V.int by rw [List.map_append,List.map_append];rfl] at O
    have hqs:(q1++[fi]++q2).length≤16:=by simp only [List.length_append,List.length_cons,List.length_nil];omega
    have hqs1:1≤(q1++[fi]++q2).length:=by simp only [List.length_append,List.length_cons,List.length_nil];omega
    generalize q1++[fi]++q2=qs at O hqs hqs1
    have O:=Ow.front [(lq,.lst (qs.map V.int))] (RX C A (exB Z) r 0 [] [] []++BL Z [] [] [] []) ((lv,.lst (r.map V.int)) :: W) O
    refine ⟨lq,rfl,⟨_,O.sq 10⟩,?_⟩
    refine rJ (K:=K) (xs:=qs.map V.int) (fun i σ H'=>Iv (∃ (Hb:Hp) (S:RS) (v5:Option V),σ=[some (.ref a),some (.int fi),some (.ref lv),some (.ref A.p),some (.ref A2.p),v5,none,none,none,none,none,none,none,none,none,none,none]∧aR [] H Hb ∧
      RA K [] C A (exB Z) r Hb H' (BL Z [] [] [] []++((lq,.lst (qs.map V.int)) :: (lv,.lst (r.map V.int)) :: W)) S∧pN r Z S∧S.ls.length=i∧S.ds.length=i))
      ⟨trivial,H,RS.new,none,rfl,aR.refl (TabsOk.nil H),⟨[],[],O,.nil,.nil⟩,at0,rfl,rfl⟩ (fun i σ H' _ ⟨_,_,_,_,_,_,⟨_,_,O,_⟩,_⟩=>O.sq 10) ?_ ?_
    · clear O
      rintro i y σ H8 hy ⟨-,Hb,S,v5,rfl,sb,ra,hA,hl,hd⟩
      obtain ⟨z,hz,rfl⟩:=ints_get hy
      have hi:=(List.getElem?_eq_some_iff.mp hz).1
      obtain ⟨us,vs,O,d0,d1⟩:=id ra
      refine ⟨_,rfl,_,rfl,_,rfl,A,Z,Hb,_,r,S,lv,z,rfl,ra,hA,O.sq 11,r1,by omega,by omega,fun S' Hc H9 sc ra' hA' e1 e2=>?_⟩
      exact ⟨trivial,Hc,S',_,rfl,sb.trans sc,ra',hA',by omega,by omega⟩
    clear O
    rintro σ H8 ⟨-,Hb,S0,v5,rfl,sb,ra,hA,hl,hd⟩
    rw [List.length_map] at hl hd
    obtain ⟨us,vs,O,d0,d1⟩:=ra
    refine ⟨_,rfl,A.p,A.dx,_,rfl,O.get 0,rfl,A.p,A.dx,A.ln,_,_,rfl,O.get 0,rfl,O.sq 4,fun lold hlold=>?_⟩
    walk_at "nw"
    have ra:RA K [] C A (exB Z) r Hb _ ([(lold,.lst (S0.ns.map V.str))]++(BL Z [] [] [] []++W)) S0:=⟨us,vs,(Ow.front [(lold,.lst (S0.ns.map V.str))] (RX C A (exB Z) r S0.day us S0.ns vs) (BL Z [] [] [] []++W) (O.sub (List.Sublist.cons₂ _ (List.Sublist.append_left (List.Sublist.append_left (List.Sublist.cons _ (List.sublist_cons_self _ _)) (BL Z [] [] [] [])) (RX C A (exB Z) r S0.day us S0.ns vs))))),d0,d1⟩
    have na0:=hA.na
    have nn0:=hA.rp.nn
    clear O
    refine ⟨_,rfl,_,rfl,a,ns,2,rfl,(sb.trans (show Ow [] Hb _ _ from ra.choose_spec.choose_spec.1).same).seq hS,A,Z,Hb,_,r,S0,_,rfl,ra,hA,by omega,fun S Hc H9 sc ra hA hls hds=>?_⟩
    obtain ⟨us,vs,O,d0,d1⟩:=ra
    have hul:us.length=S.ls.length:=by rw [d0.length,List.length_map]
    have hsl:S.ls.length=qs.length:=by rw [hls,hl]
    refine ⟨_,rfl,A.p,A.dx,_,rfl,O.get 0,rfl,A.p,A.dx,A.ll,_,us,rfl,O.get 0,rfl,O.sq 3,fun la hla=>?_⟩
    walk_at "nw"
    refine ⟨_,rfl,A.p,A.dx,_,rfl,O.get 1,rfl,A.p,A.dx,A.ln,_,_,rfl,O.get 1,rfl,O.sq 5,fun lo hlo=>?_⟩
    walk_at "nw"
    refine ⟨_,rfl,A.p,A.dx,_,rfl,O.get 2,rfl,A.p,A.dx,A.lo,_,vs,rfl,O.get 2,rfl,O.sq 7,fun lt hlt=>?_⟩
    walk_at "nw"
    refine ⟨_,rfl,A.p,A.dx,_,rfl,O.get 3,rfl,A.p,A.dx,Z.ld,_,[],rfl,O.get 3,rfl,O.sq 13,fun lnone hln=>?_⟩
    walk_at "nw"
    have O:=(O.pull 1 rfl).pull 2 rfl
    have O:=Ow.front [(lo,.lst (S.ns.map V.str)),(lt,.lst vs),(lnone,.lst []),(la,.lst us)] (RX C A (exB Z) r S.day us S.ns vs) ((lold,.lst (S0.ns.map V.str)) :: (BL Z [] [] [] []++W)) O
    have O:Ow [] Hc _ (RX C A (exB Z) r S.day us S.ns vs++(BL Z [] [] [] []++((lo,.lst (S.ns.map V.str)) :: (lt,.lst vs) :: (lnone,.lst []) :: (la,.lst us) :: (lold,.lst (S0.ns.map V.str)) :: W))):=O.perm (List.Perm.append_left (RX C A (exB Z) r S.day us S.ns vs) (List.perm_append_comm_assoc (BL Z [] [] [] []) [(lo,HO.lst (S.ns.map V.str)),(lt,HO.lst vs),(lnone,HO.lst []),(la,HO.lst us),(lold,HO.lst (S0.ns.map V.str))] W))
    refine ⟨szl,fun lw0 hlw0=>?_⟩
    walk_at "nw"
    have p12:(10:Int) ^ (12:Int).toNat=1000000000000:=by decide
    have sb:=sb.trans sc
    clear sc ra
    refine ⟨fun σ H'=>Iv (∃ (lw:Addr) (wv:List V) (Hd:Hp),σ=[some (.ref a),some (.int fi),some (.ref lv),some (.ref A.p),some (.ref A2.p),v5,some (.ref lold),some (.ref la),some (.ref lo),some (.ref lt),some (.ref lnone),some (.ref lw),none,none,none,none,none]∧aR [] Hc Hd∧Ow [] Hd H' ((lw,.lst wv) :: (RX C A (exB Z) r S.day us S.ns vs++(BL Z [] [] [] []++((lo,.lst (S.ns.map V.str)) :: (lt,.lst vs) :: (lnone,.lst []) :: (la,.lst us) :: (lold,.lst (S0.ns.map V.str)) :: W))))∧(∀ v∈wv,WOk K Hd v)∧wv.length≤16),?_,?_⟩
    · refine ⟨_,rfl,_,_,rfl,rfl,⟨by decide,by decide⟩,_,_,rfl,rfl,(by show (0:Int)<3;decide),rfl,_,rfl,ifI (fun _=>?_) (fun _=>⟨trivial,lw0,[],Hc,rfl,aR.refl (TabsOk.nil Hc),O,(fun v hv=>nomatch hv),by decide⟩)⟩
      have O:=O.tail
      refine ⟨_,rfl,la,_,rfl,.inl (O.sq 13),us.length,rfl,by omega,by omega,fun lw hlw=>?_⟩
      refine j7 (fun i τ H'=>Iv (∃ (v0:Option V) (Hd:Hp) (wv:List V),τ=[v0,some (.ref lo),some (.ref a)]∧aR [] Hc Hd∧Ow [] Hd H' ((lw,.lst wv) :: (RX C A (exB Z) r S.day us S.ns vs++(BL Z [] [] [] []++((lo,.lst (S.ns.map V.str)) :: (lt,.lst vs) :: (lnone,.lst []) :: (la,.lst us) :: (lold,.lst (S0.ns.map V.str)) :: W))))∧(∀ v∈wv,WOk K Hd v)∧wv.length=i)) ⟨trivial,none,Hc,[],rfl,aR.refl (TabsOk.nil Hc),O.mk' hlw rfl,(fun v hv=>nomatch hv),rfl⟩ ?_ ?_
      · clear O
        rintro i τ H4 hi ⟨-,v0,Hd,wv,rfl,sd,O,hwv,hwl⟩
        have hi:i<us.length:=by omega
        have nnS:=hA.rp.nn
        obtain ⟨y,hy⟩:∃ y,S.ns[i]?=some y:=⟨_,List.getElem?_eq_getElem (by omega)⟩
        refine Ou ?_
        rw [show (0:Int) + (i:Int)=(i:Int) by omega]
        refine ⟨_,rfl,_,rfl,_,rfl,lo,_,_,_,rfl,rfl,O.sq 11,gP (show (S.ns.map V.str)[i]?=some (.str y) by rw [List.getElem?_map,hy];rfl),_,rfl,a,ns,2,rfl,((sb.trans sd).trans O.same).seq hS,_,_,rfl,rfl,⟨by decide,by decide,by decide⟩,_,_,rfl,rfl,_,_,rfl,rfl,(by show (0:Int)<10 ^ (12:Int).toNat + 1;decide),_,rfl,szl,fun t ht=>?_⟩
        walk_at "nw"
        refine ⟨_,O.get 1,bH (by omega),?_⟩
        walk_at "pt"
        obtain ⟨He,O,se,e1⟩:=O.frz
        refine ⟨trivial,_,He,wv++[V.ref t],rfl,sd.trans se,O,fun v hv=>?_,by rw [List.length_append,hwl];rfl⟩
        rcases List.mem_append.mp hv with h | h
        · exact (hwv v h).mo se
        · rw [List.mem_singleton.mp h];exact ⟨t,rfl,.inl ⟨_,_,_,_,SqT.of e1⟩⟩
      rintro τ H4 ⟨-,v0,Hd,wv,rfl,sd,O,hwv,hwl⟩
      exact ⟨trivial,lw,wv,Hd,rfl,sd,O,hwv,by rw [Int.toNat_natCast] at hwl;omega⟩
    clear O hlw0 lw0
    rintro σ H10 ⟨-,lw,wv,Hd,rfl,sd,O,hwv,hwl⟩
    have d0:=d0.mo sd
    have d1:=d1.mo sd
    have sb:=sb.trans sd
    clear sd
    refine ⟨szl,fun lb hlb=>?_⟩
    walk_at "nw"
    refine ⟨_,rfl,_,rfl,9,rfl,49,rfl,a,_,rfl,(sb.trans O.same).seq hS,fun ls hls'=>?_⟩
    walk_at "nw"
    rw [show tK (ns.map V.int) (some 9) (some 49)=((ns.drop 9).take 40).map V.int from Lg ns 9 49] at O
    have hql:((ns.drop 9).take 40).length≤40:=by rw [List.length_take];omega
    generalize (ns.drop 9).take 40=q3 at O hql
    refine ⟨ls,rfl,⟨_,O.sq 0⟩,fun lc hlc=>?_⟩
    refine jU (K:=K) (xs:=q3.map V.int) (fun i τ H'=>Iv (∃ (v0:Option V) (He:Hp) (cv:List V),τ=[v0]∧aR [] Hd He∧Ow [] He H' ((lc,.lst cv) :: (ls,.lst (q3.map V.int)) :: (lb,.lst []) :: (lw,.lst wv) :: (RX C A (exB Z) r S.day us S.ns vs++(BL Z [] [] [] []++((lo,.lst (S.ns.map V.str)) :: (lt,.lst vs) :: (lnone,.lst []) :: (la,.lst us) :: (lold,.lst (S0.ns.map V.str)) :: W))))∧(∀ v∈cv,WOk K He v)∧cv.length=i)) ⟨trivial,none,Hd,[],rfl,aR.refl (TabsOk.nil Hd),O.mk' hlc rfl,(fun v hv=>nomatch hv),rfl⟩ (fun i τ H' _ ⟨_,_,_,_,_,_,O,_⟩=>O.sq 1) ?_ ?_
    · clear O
      rintro i v τ H4 hv0 ⟨-,v0,He,cv,rfl,se,O,hcv,hcl⟩
      obtain ⟨z,hz,rfl⟩:=ints_get hv0
      have hi:=(List.getElem?_eq_some_iff.mp hz).1
      refine Ou ?_
      refine ⟨_,rfl,szl,fun t ht=>?_⟩
      walk_at "nw"
      refine ⟨_,O.get 1,bH (by omega),?_⟩
      walk_at "pt"
      obtain ⟨Hf,O,sf,e1⟩:=O.frz
      refine ⟨trivial,_,Hf,cv++[V.ref t],rfl,se.trans sf,O,fun v hv=>?_,by rw [List.length_append,hcl];rfl⟩
      rcases List.mem_append.mp hv with h | h
      · exact (hcv v h).mo sf
      · rw [List.mem_singleton.mp h];exact ⟨t,rfl,.inr ⟨_,SqT.of e1⟩⟩
    clear O
    rintro τ H4 ⟨-,v0,He,cv,rfl,se,O,hcv,hcl⟩
    rw [List.length_map] at hcl
    have d0:=d0.mo se
    have d1:=d1.mo se
    have sb:=sb.trans se
    refine ⟨lw,lc,_,_,rfl,rfl,O.get 3,O.get 0,iC (by omega),fun lx hlx=>?_⟩
    walk_at "nw"
    have hxs:∀ v∈wv++cv,WOk K He v:=fun v hv=>by
      rcases List.mem_append.mp hv with h | h
      · exact (hwv v h).mo se
      · exact hcv v h
    have hxl:(wv++cv).length≤56:=by rw [List.length_append];omega
    generalize wv++cv=xs at O hxs hxl
    clear hwv hcv hcl hwl se
    have O:Ow [] He _ ((lx,.lst xs) :: (lb,.lst []) :: (RX C A (exB Z) r S.day us S.ns vs++(BL Z [] [] [] []++((lo,.lst (S.ns.map V.str)) :: (lt,.lst vs) :: (lnone,.lst []) :: (la,.lst us) :: (lold,.lst (S0.ns.map V.str)) :: W)))):=O.sub (.cons₂ _ (.cons _ (.cons _ (.cons₂ _ (List.sublist_cons_self _ _)))))
    have O:=Ow.front [(lx,.lst xs),(lb,.lst [])] (RX C A (exB Z) r S.day us S.ns vs++BL Z [] [] [] []) ((lo,.lst (S.ns.map V.str)) :: (lt,.lst vs) :: (lnone,.lst []) :: (la,.lst us) :: (lold,.lst (S0.ns.map V.str)) :: W) (by rw [List.append_assoc];exact O)
    rw [List.append_assoc] at O
    refine ⟨lx,rfl,⟨_,O.sq 10⟩,?_⟩
    have hsl1:1≤S0.ls.length:=by omega
    have hds40:S.ds.length≤40:=by omega
    refine rJ (K:=K) (xs:=xs) (fun i σ H'=>Iv (∃ (Hb:Hp) (S:RS) (pu bs vt ua:List V) (ps:List Pd) (v13 v14 v15 v16:Option V),σ=[some (.ref a),some (.int fi),some (.ref lv),some (.ref A.p),some (.ref A2.p),v5,some (.ref lold),some (.ref la),some (.ref lo),some (.ref lt),some (.ref lnone),some (.ref lw),some (.ref lb),v13,v14,v15,v16]∧aR [] H Hb∧RA K [] C A (exB Z) r Hb H' (BL Z [] [] ((List.replicate ps.length (0:Int)).map V.int) pu++((lx,.lst xs) :: (lb,.lst bs) :: (lo,.lst (S.ns.map V.str)) :: (lt,.lst vt) :: (lnone,.lst []) :: (la,.lst ua) :: (lold,.lst (S0.ns.map V.str)) :: W)) S∧d9 K Hb pu (ps.map dMv)∧d9 K Hb bs (ps.map dMv)∧d9 K Hb vt (S.ds.map nU)∧d9 K Hb ua (S.ls.map sY)∧(∀ v∈xs,WOk K Hb v)∧pN r Z S∧S.ls=S0.ls∧ps.length≤10∧S.ds.length≤40 + i))
      ⟨trivial,He,S,[],[],vs,us,[],none,none,none,none,rfl,sb,⟨us,vs,O,d0,d1⟩,.nil,.nil,d1,d0,hxs,hA,hls,by decide,hds40⟩ (fun i σ H' _ ⟨_,_,_,_,_,_,_,_,_,_,_,_,_,_,⟨_,_,O,_⟩,_⟩=>O.sq 10) ?_ ?_
    · clear O d0 d1 sb hA hls hds40 hxs hul hsl hds
      rintro i yv σ H5 hyv ⟨-,Hb,S,pu,bs,vt,ua,ps,v13,v14,v15,v16,rfl,sb,ra,dP,dB,dT,dA,hxs,hA,hls,hp10,hds⟩
      have hi:=(List.getElem?_eq_some_iff.mp hyv).1
      obtain ⟨tw,rfl,hw⟩:=hxs yv (List.mem_of_getElem? hyv)
      refine ⟨fun σ H'=>Iv (∃ (Hb:Hp) (S:RS) (pu bs vt ua:List V) (ps:List Pd) (t:Addr) (n:Int) (y:Str) (room leak:Int),σ=[some (.ref a),some (.int fi),some (.ref lv),some (.ref A.p),some (.ref A2.p),v5,some (.ref lold),some (.ref la),some (.ref lo),some (.ref lt),some (.ref lnone),some (.ref lw),some (.ref lb),some (.ref t),v14,v15,v16]∧aR [] H Hb∧RA K [] C A (exB Z) r Hb H' (BL Z [] [] ((List.replicate ps.length (0:Int)).map V.int) pu++((lx,.lst xs) :: (lb,.lst bs) :: (lo,.lst (S.ns.map V.str)) :: (lt,.lst vt) :: (lnone,.lst []) :: (la,.lst ua) :: (lold,.lst (S0.ns.map V.str)) :: W)) S∧d9 K Hb pu (ps.map dMv)∧d9 K Hb bs (ps.map dMv)∧d9 K Hb vt (S.ds.map nU)∧d9 K Hb ua (S.ls.map sY)∧(∀ v∈xs,WOk K Hb v)∧pN r Z S∧S.ls=S0.ls∧ps.length≤10∧S.ds.length≤40 + (i + 1)∧SqT K Hb t [.int n,.str y,.int room,.int leak]),?_,?_⟩
      · obtain ⟨us,vs,O,d0,d1⟩:=id ra
        rcases hw with ⟨n,y,room,leak,hw⟩ | ⟨z,hw⟩
        · refine ⟨_,rfl,tw,_,rfl,.inr (hw.mo O.same),rfl,_,rfl,ifI (fun e=>absurd (show (4:Int)=1 from e) (by decide)) (fun _=>?_)⟩
          exact ⟨trivial,Hb,S,pu,bs,vt,ua,ps,tw,n,y,room,leak,rfl,sb,ra,dP,dB,dT,dA,hxs,hA,hls,hp10,by omega,hw⟩
        · refine ⟨_,rfl,tw,_,rfl,.inr (hw.mo O.same),rfl,_,rfl,ifI (fun _=>?_) (fun e=>absurd rfl e)⟩
          refine ⟨_,rfl,_,rfl,tw,_,0,_,rfl,rfl,hw.mo O.same,rfl,z,60,rfl,by decide,by decide,_,rfl,_,rfl,A,Z,Hb,_,r,S,peb z 60,lo,lt,vt,rfl,RA.swap (BL Z [] [] ((List.replicate ps.length (0:Int)).map V.int) pu++[(lx,.lst xs),(lb,.lst bs)]) [(lo,.lst (S.ns.map V.str)),(lt,.lst vt)] _ ra,dT,uH _ _,hA,by rw [hls];exact hsl1,by omega,fun S' Hc H6 vt' sc ra' dT' hA' hls' hds'=>?_⟩
          have ra':=RA.swap [(lo,.lst (S'.ns.map V.str)),(lt,.lst vt')] (BL Z [] [] ((List.replicate ps.length (0:Int)).map V.int) pu++[(lx,.lst xs),(lb,.lst bs)]) _ ra'
          clear O d0 d1
          obtain ⟨us,vs,O,d0,d1⟩:=ra'
          have nn':=hA'.rp.nn
          have l60':=hA'.rp.l60
          have hual:ua.length=S.ls.length:=by rw [dA.length,List.length_map]
          rw [hls'] at nn' l60'
          have hl0:S.ls.length=S0.ls.length:=by rw [hls]
          refine ⟨_,rfl,_,rfl,_,rfl,_,rfl,tw,_,0,_,rfl,rfl,hw.mo (sc.trans O.same),rfl,la,lold,lo,ua,S0.ns,S'.ns,z,rfl,O.sq 15,O.sq 16,O.sq 12,by omega,by omega,by omega,na0,hA'.na,O.same.t1,fun t n y room leak H7 OD hy=>?_⟩
          obtain ⟨Hd,O,sd,e1⟩:=(show Ow [] Hc H7 ((t,_) :: _) from O.join OD).frz
          refine ⟨trivial,Hd,S',pu,bs,vt',ua,ps,t,n,y,room,leak,rfl,(sb.trans sc).trans sd,⟨us,vs,O,d0.mo sd,d1.mo sd⟩,(dP.mo sc).mo sd,(dB.mo sc).mo sd,dT'.mo sd,?_,fun v hv=>((hxs v hv).mo sc).mo sd,hA',hls'.trans hls,hp10,by omega,SqT.of e1⟩
          rw [hls'];exact (dA.mo sc).mo sd
      clear hw ra dP dB dT dA hxs hA hls hp10 hds sb
      rintro σ H6 ⟨-,Hb,S,pu,bs,vt,ua,ps,t,n,y,room,leak,rfl,sb,ra,dP,dB,dT,dA,hxs,hA,hls,hp10,hds,hT⟩
      obtain ⟨us,vs,O,d0,d1⟩:=ra
      refine ⟨_,rfl,_,rfl,_,rfl,_,rfl,la,lo,lb,t,ua,bs,S,ps,n,y,room,leak,rfl,O.sq 15,dA.mo O.same,O.sq 12,O.sq 11,dB.mo O.same,hT.mo O.same,hA.rp.nn,hA.rp.l60,hp10,O.same.t1,O.gotT fun ldue H7 zs O e=>?_⟩
      subst e
      have O:=Ow.front [(ldue,.lst (mR (jc S ps n y room leak)))] (RX C A (exB Z) r S.day us S.ns vs++BL Z [] [] ((List.replicate ps.length (0:Int)).map V.int) pu) ((lx,.lst xs) :: (lb,.lst bs) :: (lo,.lst (S.ns.map V.str)) :: (lt,.lst vt) :: (lnone,.lst []) :: (la,.lst ua) :: (lold,.lst (S0.ns.map V.str)) :: W) (by rw [List.append_assoc];exact O)
      rw [List.append_assoc] at O
      have hbl:bs.length=ps.length:=by rw [dB.length,List.length_map]
      have hpul:pu.length=ps.length:=by rw [dP.length,List.length_map]
      refine ⟨_,rfl,_,rfl,A,Z,Hb,_,r,S,[],[],((List.replicate ps.length (0:Int)).map V.int),pu,ps,t,n,y,room,leak,rfl,hT.mo O.same,⟨us,vs,O,d0,d1⟩,hA.rp,dP,by omega,by rw [List.length_map,List.length_replicate];omega,fun hN tb p l Hc H8 sc ra dP'=>?_,fun kk hk p l H8 ra=>?_⟩
      · clear O d0 d1
        obtain ⟨us,vs,O,d0,d1⟩:=ra
        rw [hN] at O
        have hp9:=Mf hN
        refine ⟨p,_,rfl,O.sqT 10,rfl,_,_,rfl,_,_,rfl,rfl,?_⟩
        refine ⟨_,rfl,_,rfl,_,_,Den.list (O.sq 11) (gU none),Den.list (O.sq 12) (gU none),(gC none).ok (by decide),(gC none).ok (by decide),_,rfl,?_⟩
        rw [if_pos rfl,jT (gC none)]
        refine nM ?_
        refine ⟨fun σ H'=>Iv (∃ (tb2:Addr) (Hd:Hp),σ=[some (.ref a),some (.int fi),some (.ref lv),some (.ref A.p),some (.ref A2.p),v5,some (.ref lold),some (.ref la),some (.ref lo),some (.ref lt),some (.ref lnone),some (.ref lw),some (.ref lb),some (.ref t),some (.ref ldue),some (.ref l),some (.int (ps.length:Int))]∧aR [] Hc Hd∧Ow [] Hd H' (RX C A (exB Z) r S.day us S.ns vs++(BL Z [] [] (((List.replicate ps.length (0:Int)).map V.int)++[.int 0]) (pu++[.ref tb])++((lx,.lst xs) :: (lb,.lst (bs++[.ref tb2])) :: (lo,.lst (S.ns.map V.str)) :: (lt,.lst vt) :: (lnone,.lst []) :: (la,.lst ua) :: (lold,.lst (S0.ns.map V.str)) :: W)))∧Den K Hd (.ref tb2) (dMv (n,room,leak))),?_,?_⟩
        · refine ⟨_,rfl,szl,fun lz hz=>?_⟩
          walk_at "nw"
          refine ⟨_,_,Den.list (O.sq 13) (gU none),Den.list (ds:=[]) (O.sq 0) .nil,(gC none).ok (by decide),(gC none).ok (by decide),?_⟩
          rw [if_neg Bool.false_ne_true,o8]
          refine ⟨_,rfl,ifD (fun _=>?_) (fun z=>absurd rfl z)⟩
          have O:=O.tail
          refine ⟨_,rfl,_,rfl,_,rfl,nM ?_⟩
          refine ⟨_,rfl,_,rfl,lb,_,rfl,.inl (O.sq 14),rfl,_,rfl,ifN (ifI (fun _=>?_) (fun e=>absurd (show (ps.length:Int)=(bs.length:Int) by rw [hbl]) e))⟩
          have hT':=hT.mo (sc.trans O.same)
          refine ⟨_,rfl,.inl ⟨rfl,_,O.sq 14⟩,_,rfl,t,_,0,_,rfl,rfl,hT',rfl,_,rfl,t,_,2,_,rfl,rfl,hT',rfl,_,rfl,t,_,3,_,rfl,rfl,hT',rfl,szl,fun tb2 htb2=>?_⟩
          walk_at "nw"
          refine ⟨lb,_,_,rfl,rfl,O.get 15,bH (by omega),?_⟩
          generalize hE2:upd _ _ _=Hn
          have O:=Ow.mG O 15 rfl hE2 rfl
          clear hE2
          obtain ⟨Hd,O,sd,e1⟩:=(show Ow [] Hc Hn ((tb2,.tup [.int n,.int room,.int leak]) :: (RX C A (exB Z) r S.day us S.ns vs++(BL Z [] [] (((List.replicate ps.length (0:Int)).map V.int)++[.int 0]) (pu++[.ref tb])++((p,.tup [.ref l,.int (ps.length:Int)]) :: (l,.lst []) :: (ldue,.lst (mR none)) :: ((lx,.lst xs) :: (lb,.lst (bs++[.ref tb2])) :: (lo,.lst (S.ns.map V.str)) :: (lt,.lst vt) :: (lnone,.lst []) :: (la,.lst ua) :: (lold,.lst (S0.ns.map V.str)) :: W))))) from O).frz
          refine ⟨trivial,tb2,Hd,rfl,sd,O.sub (List.Sublist.append_left (List.Sublist.append_left (.cons _ (.cons _ (List.sublist_cons_self _ _))) _) _),Den.mv (m:=(n,room,leak)) (SqT.of e1)⟩
        clear O
        rintro σ H9 ⟨-,tb2,Hd,rfl,sd,O,dtb⟩
        have sb':=(sb.trans sc).trans sd
        have dA:=(dA.mo sc).mo sd
        have dT:=(dT.mo sc).mo sd
        have dP':=dP'.mo sd
        have dB':d9 K Hd (bs++[.ref tb2]) ((ps++[(n,room,leak)]).map dMv):=by rw [List.map_append];exact ((dB.mo sc).mo sd).append (.cons dtb .nil)
        rw [Aw,show ps.length + 1=(ps++[(n,room,leak)]).length by rw [List.length_append];rfl] at O
        have hpl:(ps++[(n,room,leak)]).length≤10:=by rw [List.length_append];exact hp9
        generalize ps++[(n,room,leak)]=ps2 at O dP' dB' hpl
        generalize pu++[V.ref tb]=pu2 at O dP'
        generalize bs++[V.ref tb2]=bs2 at O dB'
        refine ⟨_,rfl,_,rfl,_,rfl,_,rfl,A,Z,Hd,_,r,S,[],[],pu2,bs2,ua,vt,ps2,lb,la,lt,rfl,⟨us,vs,O,d0.mo sd,d1.mo sd⟩,dP'.mo O.same,by omega,O.sq 11,dB'.mo O.same,O.sq 15,dA.mo O.same,O.sq 13,dT.mo O.same,hA.dk,hA.d0,fun H10 s10=>?_⟩
        exact ⟨_,rfl,nM ⟨trivial,Hd,S,pu2,bs2,vt,ua,ps2,_,_,_,_,rfl,sb',⟨us,vs,O.fX s10,d0.mo sd,d1.mo sd⟩,dP',dB',dT,dA,fun v hv=>((hxs v hv).mo sc).mo sd,hA,hls,hpl,hds⟩⟩
      · clear O d0 d1
        obtain ⟨us,vs,O,d0,d1⟩:=ra
        rw [hk] at O
        refine ⟨p,_,rfl,O.sqT 10,rfl,_,_,rfl,_,_,rfl,rfl,?_⟩
        refine ⟨_,rfl,_,rfl,_,_,Den.list (O.sq 11) (gU (some kk)),Den.list (O.sq 12) (gU (some kk)),(gC (some kk)).ok (by decide),(gC (some kk)).ok (by decide),_,rfl,?_⟩
        rw [if_pos rfl,jT (gC (some kk))]
        refine nM ?_
        refine ⟨fun σ H'=>Iv (σ=[some (.ref a),some (.int fi),some (.ref lv),some (.ref A.p),some (.ref A2.p),v5,some (.ref lold),some (.ref la),some (.ref lo),some (.ref lt),some (.ref lnone),some (.ref lw),some (.ref lb),some (.ref t),some (.ref ldue),some (.ref l),some (.int (-1))]∧Ow [] Hb H' (RX C A (exB Z) r S.day us S.ns vs++(BL Z [] [] ((List.replicate ps.length (0:Int)).map V.int) pu++((lx,.lst xs) :: (lb,.lst bs) :: (lo,.lst (S.ns.map V.str)) :: (lt,.lst vt) :: (lnone,.lst []) :: (la,.lst ua) :: (lold,.lst (S0.ns.map V.str)) :: W)))),?_,?_⟩
        · refine ⟨_,rfl,szl,fun lz hz=>?_⟩
          walk_at "nw"
          refine ⟨_,_,Den.list (O.sq 13) (gU (some kk)),Den.list (ds:=[]) (O.sq 0) .nil,(gC (some kk)).ok (by decide),(gC none).ok (by decide),?_⟩
          rw [if_neg Bool.false_ne_true,o8]
          refine ⟨_,rfl,ifD (fun z=>nomatch z) (fun _=>?_)⟩
          exact ⟨trivial,rfl,O.tail.sub (List.Sublist.append_left (List.Sublist.append_left (.cons _ (.cons _ (List.sublist_cons_self _ _))) _) _)⟩
        clear O
        rintro σ H9 ⟨-,rfl,O⟩
        refine ⟨_,rfl,_,rfl,_,rfl,_,rfl,A,Z,Hb,_,r,S,[],[],pu,bs,ua,vt,ps,lb,la,lt,rfl,⟨us,vs,O,d0,d1⟩,dP.mo O.same,by omega,O.sq 11,dB.mo O.same,O.sq 15,dA.mo O.same,O.sq 13,dT.mo O.same,hA.dk,hA.d0,fun H10 s10=>?_⟩
        exact ⟨_,rfl,nM ⟨trivial,Hb,S,pu,bs,vt,ua,ps,_,_,_,_,rfl,sb,⟨us,vs,O.fX s10,d0,d1⟩,dP,dB,dT,dA,hxs,hA,hls,hp10,hds⟩⟩
    clear O
    rintro σ H5 ⟨-,Hb,S,pu,bs,vt,ua,ps,v13,v14,v15,v16,rfl,sb,⟨us,vs,O,d0,d1⟩,_,_,_,_,_,_,_,_,_⟩
    refine ⟨_,rfl,szl,fun l1 h1=>?_⟩
    walk_at "nw"
    refine ⟨lnone,l1,[],[],rfl,rfl,O.sq 15,O.sq 0,?_⟩
    rw [if_neg Bool.false_ne_true,decide_eq_true rfl]
    refine ⟨_,rfl,nJ ?_⟩
    have O:=O.tail
    have hA2:=O.at_ _ (List.mem_append_right (RX C A (exB Z) r S.day us S.ns vs) (List.mem_append_right (BL Z [] [] ((List.replicate ps.length (0:Int)).map V.int) pu) (.tail _ (.tail _ (.tail _ (.tail _ (.tail _ (.tail _ (.tail _ hw1)))))))))
    have hZ2:=O.at_ _ (List.mem_append_right (RX C A (exB Z) r S.day us S.ns vs) (List.mem_append_right (BL Z [] [] ((List.replicate ps.length (0:Int)).map V.int) pu) (.tail _ (.tail _ (.tail _ (.tail _ (.tail _ (.tail _ (.tail _ hw2)))))))))
    refine ⟨_,rfl,A2.p,A2.dx,_,rfl,hA2,rfl,A2.p,A2.dx,Z2.ld,_,[],rfl,hA2,rfl,SqL.of hZ2,fun l2 h2=>?_⟩
    walk_at "nw"
    refine ⟨szl,fun l3 h3=>?_⟩
    walk_at "nw"
    refine ⟨l2,l3,[],[],rfl,rfl,O.sq 1,O.sq 0,?_⟩
    rw [if_neg Bool.false_ne_true,decide_eq_true rfl]
    refine ⟨_,rfl,nJ ?_⟩
    have O:=O.tail.tail
    refine ⟨_,rfl,A.p,A.dx,_,rfl,O.get 0,rfl,A.p,A.dx,Z.lk,_,_,rfl,O.get 0,rfl,O.sq 8,fun l4 h4=>?_⟩
    walk_at "nw"
    exact ⟨_,_,_,true,rfl,.lst (O.get 0),Dv K,k _⟩
end
theorem iw {K:PySem.W.Frag} {x qual:Str} {st:Stmt} {f:Addr} {fd:FuncData} {n0:Str} (F:Fun K x qual st f fd) (h:∀ (kV doc pm:Value) (an:Option Addr) (cdv ct u0:Value),bindArgs (PySem.W.fnOf x qual (ao st) (ak st) (aj st) .none kV doc pm an cdv ct) ⟨[u0],[]⟩=pure (([n0]:List Str).zip [u0])):Binds K fd [n0] [] :=
  F.binds (ps:=[n0]) fun kV doc pm an cdv ct us hl=>match us,hl with | [u0],_=>h kV doc pm an cdv ct u0
theorem iR {K:PySem.W.Frag} {x qual:Str} {st:Stmt} {f:Addr} {fd:FuncData} {n0 n1:Str} (F:Fun K x qual st f fd) (h:∀ (kV doc pm:Value) (an:Option Addr) (cdv ct u0 u1:Value),bindArgs (PySem.W.fnOf x qual (ao st) (ak st) (aj st) .none kV doc pm an cdv ct) ⟨[u0,u1],[]⟩=pure (([n0,n1]:List Str).zip [u0,u1])):Binds K fd [n0,n1] [] :=
  F.binds (ps:=[n0,n1]) fun kV doc pm an cdv ct us hl=>match us,hl with | [u0,u1],_=>h kV doc pm an cdv ct u0 u1
theorem rP {K:PySem.W.Frag} {x qual:Str} {st:Stmt} {f:Addr} {fd:FuncData} {n0 n1 n2:Str} (F:Fun K x qual st f fd) (h:∀ (kV doc pm:Value) (an:Option Addr) (cdv ct u0 u1 u2:Value),bindArgs (PySem.W.fnOf x qual (ao st) (ak st) (aj st) .none kV doc pm an cdv ct) ⟨[u0,u1,u2],[]⟩=pure (([n0,n1,n2]:List Str).zip [u0,u1,u2])):Binds K fd [n0,n1,n2] [] :=
  F.binds (ps:=[n0,n1,n2]) fun kV doc pm an cdv ct us hl=>match us,hl with | [u0,u1,u2],_=>h kV doc pm an cdv ct u0 u1 u2
theorem pB {K:PySem.W.Frag} {x qual:Str} {st:Stmt} {f:Addr} {fd:FuncData} {n0 n1 n2 n3:Str} (F:Fun K x qual st f fd) (h:∀ (kV doc pm:Value) (an:Option Addr) (cdv ct u0 u1 u2 u3:Value),bindArgs (PySem.W.fnOf x qual (ao st) (ak st) (aj st) .none kV doc pm an cdv ct) ⟨[u0,u1,u2,u3],[]⟩=pure (([n0,n1,n2,n3]:List Str).zip [u0,u1,u2,u3])):Binds K fd [n0,n1,n2,n3] [] :=
  F.binds (ps:=[n0,n1,n2,n3]) fun kV doc pm an cdv ct us hl=>match us,hl with | [u0,u1,u2,u3],_=>h kV doc pm an cdv ct u0 u1 u2 u3
theorem all_mk {l:PySem.W.OpenLaw} {w:World} {K:PySem.W.Frag} {h:Heap} {mg:Str→Option Value} {fa f0 f1 f2 f3 f4 f5 f6 f7 f8 f9 f10 f11 f12 f13 f14 f15 f16 f17 f18 f19 f20 f21 f22 cR_Book cR_Roll fm_Book___init__ fm_Book_pond dT_Book_pond fm_Book_ponds fm_Book_kept fm_Book_has_pond fm_Roll___init__ fm_Roll_today fm_Roll_roll fm_Roll_holders fm_Roll_deeds fm_Roll_file dT_Roll_file fm_Roll_sell fm_Roll_enter fm_Roll_look_at_number fm_Roll_look_at_holder fm_Roll_look_at_room cX_SluiceError cX_NoRiver cX_NoLicence cX_NoNumber cX_NoHolder cX_NotYours cX_TooMuch cX_Full cX_NoPond:Addr} (X:K.In h) (G:h.Ns mainGlobals mg) (hfa:mg "law"=some (.ref fa))
    {odM0 anM0 odM1 anM1 odM2 anM2 odM3 anM3 odM4 anM4 odM5 anM5 odM6 anM6 odM7 anM7 odM8 anM8 odM9 anM9 odM10 anM10 odM11 anM11 odM12 anM12 odM13 anM13 odM14 anM14 odM15 anM15:Option Addr} {slM0 slM1 slM2 slM3 slM4 slM5 slM6 slM7 slM8 slM9 slM10 slM11 slM12 slM13 slM14 slM15:Array (Option Value)} {ocM0 kVM0 dcM0 pmM0 cdM0 ctM0 ocM1 kVM1 dcM1 pmM1 cdM1 ctM1 ocM2 kVM2 dcM2 pmM2 cdM2 ctM2 ocM3 kVM3 dcM3 pmM3 cdM3 ctM3 ocM4 kVM4 dcM4 pmM4 cdM4 ctM4 ocM5 kVM5 dcM5 pmM5 cdM5 ctM5 ocM6 kVM6 dcM6 pmM6 cdM6 ctM6 ocM7 kVM7 dcM7 pmM7 cdM7 ctM7 ocM8 kVM8 dcM8 pmM8 cdM8 ctM8 ocM9 kVM9 dcM9 pmM9 cdM9 ctM9 ocM10 kVM10 dcM10 pmM10 cdM10 ctM10 ocM11 kVM11 dcM11 pmM11 cdM11 ctM11 ocM12 kVM12 dcM12 pmM12 cdM12 ctM12 ocM13 kVM13 dcM13 pmM13 cdM13 ctM13 ocM14 kVM14 dcM14 pmM14 cdM14 ctM14 ocM15 kVM15 dcM15 pmM15 cdM15 ctM15:Value} {oT_Book_pond:Obj} {oT_Roll_file:Obj}
    {od0 an0 od1 an1 od2 an2 od3 an3 od4 an4 od5 an5 od6 an6 od7 an7 od8 an8 od9 an9 od10 an10 od11 an11 od12 an12 od13 an13 od14 an14 od15 an15 od16 an16 od17 an17 od18 an18 od19 an19 od20 an20 od21 an21 od22 an22:Option Addr} {sl0 sl1 sl2 sl3 sl4 sl5 sl6 sl7 sl8 sl9 sl10 sl11 sl12 sl13 sl14 sl15 sl16 sl17 sl18 sl19 sl20 sl21 sl22:Array (Option Value)} {oc0 kV0 dc0 pm0 cd0 ct0 oc1 kV1 dc1 pm1 cd1 ct1 oc2 kV2 dc2 pm2 cd2 ct2 oc3 kV3 dc3 pm3 cd3 ct3 oc4 kV4 dc4 pm4 cd4 ct4 oc5 kV5 dc5 pm5 cd5 ct5 oc6 kV6 dc6 pm6 cd6 ct6 oc7 kV7 dc7 pm7 cd7 ct7 oc8 kV8 dc8 pm8 cd8 ct8 oc9 kV9 dc9 pm9 cd9 ct9 oc10 kV10 dc10 pm10 cd10 ct10 oc11 kV11 dc11 pm11 cd11 ct11 oc12 kV12 dc12 pm12 cd12 ct12 oc13 kV13 dc13 pm13 cd13 ct13 oc14 kV14 dc14 pm14 cd14 ct14 oc15 kV15 dc15 pm15 cd15 ct15 oc16 kV16 dc16 pm16 cd16 ct16 oc17 kV17 dc17 pm17 cd17 ct17 oc18 kV18 dc18 pm18 cd18 ct18 oc19 kV19 dc19 pm19 cd19 ct19 oc20 kV20 dc20 pm20 cd20 ct20 oc21 kV21 dc21 pm21 cd21 ct21 oc22 kV22 dc22 pm22 cd22 ct22:Value} {t0 t1 t2 t3 t4 t5 t6 t7 t8:Tok}
    (a0:PySem.W.nsIn K mainGlobals "is_water"=some (some (.ref f0))) (l0:K.lookup f0=some ⟨oc0,od0,.func (PySem.W.fnOf "is_water" "is_water" (ao fj) (ak fj) (aj fj) .none kV0 dc0 pm0 an0 cd0 ct0),sl0⟩) (c0:PySem.W.codeIn K cd0 "is_water"=true) (k0:PySem.W.keepIn K (.ref f0)=true)
    (a1:PySem.W.nsIn K mainGlobals "is_name"=some (some (.ref f1))) (l1:K.lookup f1=some ⟨oc1,od1,.func (PySem.W.fnOf "is_name" "is_name" (ao gj) (ak gj) (aj gj) .none kV1 dc1 pm1 an1 cd1 ct1),sl1⟩) (c1:PySem.W.codeIn K cd1 "is_name"=true) (k1:PySem.W.keepIn K (.ref f1)=true)
    (a2:PySem.W.nsIn K mainGlobals "comes_to_mouth"=some (some (.ref f2))) (l2:K.lookup f2=some ⟨oc2,od2,.func (PySem.W.fnOf "comes_to_mouth" "comes_to_mouth" (ao bK) (ak bK) (aj bK) .none kV2 dc2 pm2 an2 cd2 ct2),sl2⟩) (c2:PySem.W.codeIn K cd2 "comes_to_mouth"=true) (k2:PySem.W.keepIn K (.ref f2)=true)
    (a3:PySem.W.nsIn K mainGlobals "is_river"=some (some (.ref f3))) (l3:K.lookup f3=some ⟨oc3,od3,.func (PySem.W.fnOf "is_river" "is_river" (ao dY) (ak dY) (aj dY) .none kV3 dc3 pm3 an3 cd3 ct3),sl3⟩) (c3:PySem.W.codeIn K cd3 "is_river"=true) (k3:PySem.W.keepIn K (.ref f3)=true)
    (a4:PySem.W.nsIn K mainGlobals "way_of"=some (some (.ref f4))) (l4:K.lookup f4=some ⟨oc4,od4,.func (PySem.W.fnOf "way_of" "way_of" (ao iD) (ak iD) (aj iD) .none kV4 dc4 pm4 an4 cd4 ct4),sl4⟩) (c4:PySem.W.codeIn K cd4 "way_of"=true) (k4:PySem.W.keepIn K (.ref f4)=true)
    (a5:PySem.W.nsIn K mainGlobals "is_licence"=some (some (.ref f5))) (l5:K.lookup f5=some ⟨oc5,od5,.func (PySem.W.fnOf "is_licence" "is_licence" (ao dw) (ak dw) (aj dw) .none kV5 dc5 pm5 an5 cd5 ct5),sl5⟩) (c5:PySem.W.codeIn K cd5 "is_licence"=true) (k5:PySem.W.keepIn K (.ref f5)=true)
    (a6:PySem.W.nsIn K mainGlobals "gives_back"=some (some (.ref f6))) (l6:K.lookup f6=some ⟨oc6,od6,.func (PySem.W.fnOf "gives_back" "gives_back" (ao dz) (ak dz) (aj dz) .none kV6 dc6 pm6 an6 cd6 ct6),sl6⟩) (c6:PySem.W.codeIn K cd6 "gives_back"=true) (k6:PySem.W.keepIn K (.ref f6)=true)
    (a7:PySem.W.nsIn K mainGlobals "look_at_name"=some (some (.ref f7))) (l7:K.lookup f7=some ⟨oc7,od7,.func (PySem.W.fnOf "look_at_name" "look_at_name" (ao bO) (ak bO) (aj bO) .none kV7 dc7 pm7 an7 cd7 ct7),sl7⟩) (c7:PySem.W.codeIn K cd7 "look_at_name"=true) (k7:PySem.W.keepIn K (.ref f7)=true)
    (a8:PySem.W.nsIn K mainGlobals "_law_cell_at"=some (some (.ref f8))) (l8:K.lookup f8=some ⟨oc8,od8,.func (PySem.W.fnOf "_law_cell_at" "_law_cell_at" (ao cu) (ak cu) (aj cu) .none kV8 dc8 pm8 an8 cd8 ct8),sl8⟩) (c8:PySem.W.codeIn K cd8 "_law_cell_at"=true) (k8:PySem.W.keepIn K (.ref f8)=true)
    (a9:PySem.W.nsIn K mainGlobals "_law_whole"=some (some (.ref f9))) (l9:K.lookup f9=some ⟨oc9,od9,.func (PySem.W.fnOf "_law_whole" "_law_whole" (ao dD) (ak dD) (aj dD) .none kV9 dc9 pm9 an9 cd9 ct9),sl9⟩) (c9:PySem.W.codeIn K cd9 "_law_whole"=true) (k9:PySem.W.keepIn K (.ref f9)=true)
    (a10:PySem.W.nsIn K mainGlobals "_law_pebble"=some (some (.ref f10))) (l10:K.lookup f10=some ⟨oc10,od10,.func (PySem.W.fnOf "_law_pebble" "_law_pebble" (ao bI) (ak bI) (aj bI) .none kV10 dc10 pm10 an10 cd10 ct10),sl10⟩) (c10:PySem.W.codeIn K cd10 "_law_pebble"=true) (k10:PySem.W.keepIn K (.ref f10)=true)
    (a11:PySem.W.nsIn K mainGlobals "_law_pebbles"=some (some (.ref f11))) (l11:K.lookup f11=some ⟨oc11,od11,.func (PySem.W.fnOf "_law_pebbles" "_law_pebbles" (ao bB) (ak bB) (aj bB) .none kV11 dc11 pm11 an11 cd11 ct11),sl11⟩) (c11:PySem.W.codeIn K cd11 "_law_pebbles"=true) (k11:PySem.W.keepIn K (.ref f11)=true)
    (a12:PySem.W.nsIn K mainGlobals "_law_river"=some (some (.ref f12))) (l12:K.lookup f12=some ⟨oc12,od12,.func (PySem.W.fnOf "_law_river" "_law_river" (ao dF) (ak dF) (aj dF) .none kV12 dc12 pm12 an12 cd12 ct12),sl12⟩) (c12:PySem.W.codeIn K cd12 "_law_river"=true) (k12:PySem.W.keepIn K (.ref f12)=true)
    (a13:PySem.W.nsIn K mainGlobals "_law_name"=some (some (.ref f13))) (l13:K.lookup f13=some ⟨oc13,od13,.func (PySem.W.fnOf "_law_name" "_law_name" (ao cC) (ak cC) (aj cC) .none kV13 dc13 pm13 an13 cd13 ct13),sl13⟩) (c13:PySem.W.codeIn K cd13 "_law_name"=true) (k13:PySem.W.keepIn K (.ref f13)=true)
    (a14:PySem.W.nsIn K mainGlobals "_law_filed"=some (some (.ref f14))) (l14:K.lookup f14=some ⟨oc14,od14,.func (PySem.W.fnOf "_law_filed" "_law_filed" (ao dG) (ak dG) (aj dG) .none kV14 dc14 pm14 an14 cd14 ct14),sl14⟩) (c14:PySem.W.codeIn K cd14 "_law_filed"=true) (k14:PySem.W.keepIn K (.ref f14)=true)
    (a15:PySem.W.nsIn K mainGlobals "_law_bounded"=some (some (.ref f15))) (l15:K.lookup f15=some ⟨oc15,od15,.func (PySem.W.fnOf "_law_bounded" "_law_bounded" (ao cA) (ak cA) (aj cA) .none kV15 dc15 pm15 an15 cd15 ct15),sl15⟩) (c15:PySem.W.codeIn K cd15 "_law_bounded"=true) (k15:PySem.W.keepIn K (.ref f15)=true)
    (a16:PySem.W.nsIn K mainGlobals "_law_sold"=some (some (.ref f16))) (l16:K.lookup f16=some ⟨oc16,od16,.func (PySem.W.fnOf "_law_sold" "_law_sold" (ao eF) (ak eF) (aj eF) .none kV16 dc16 pm16 an16 cd16 ct16),sl16⟩) (c16:PySem.W.codeIn K cd16 "_law_sold"=true) (k16:PySem.W.keepIn K (.ref f16)=true)
    (a17:PySem.W.nsIn K mainGlobals "_law_sold_on"=some (some (.ref f17))) (l17:K.lookup f17=some ⟨oc17,od17,.func (PySem.W.fnOf "_law_sold_on" "_law_sold_on" (ao cj) (ak cj) (aj cj) .none kV17 dc17 pm17 an17 cd17 ct17),sl17⟩) (c17:PySem.W.codeIn K cd17 "_law_sold_on"=true) (k17:PySem.W.keepIn K (.ref f17)=true)
    (a18:PySem.W.nsIn K mainGlobals "_law_wish"=some (some (.ref f18))) (l18:K.lookup f18=some ⟨oc18,od18,.func (PySem.W.fnOf "_law_wish" "_law_wish" (ao eE) (ak eE) (aj eE) .none kV18 dc18 pm18 an18 cd18 ct18),sl18⟩) (c18:PySem.W.codeIn K cd18 "_law_wish"=true) (k18:PySem.W.keepIn K (.ref f18)=true)
    (a19:PySem.W.nsIn K mainGlobals "_law_due"=some (some (.ref f19))) (l19:K.lookup f19=some ⟨oc19,od19,.func (PySem.W.fnOf "_law_due" "_law_due" (ao fu) (ak fu) (aj fu) .none kV19 dc19 pm19 an19 cd19 ct19),sl19⟩) (c19:PySem.W.codeIn K cd19 "_law_due"=true) (k19:PySem.W.keepIn K (.ref f19)=true)
    (a20:PySem.W.nsIn K mainGlobals "_law_put"=some (some (.ref f20))) (l20:K.lookup f20=some ⟨oc20,od20,.func (PySem.W.fnOf "_law_put" "_law_put" (ao fM) (ak fM) (aj fM) .none kV20 dc20 pm20 an20 cd20 ct20),sl20⟩) (c20:PySem.W.codeIn K cd20 "_law_put"=true) (k20:PySem.W.keepIn K (.ref f20)=true)
    (a21:PySem.W.nsIn K mainGlobals "_law_stands"=some (some (.ref f21))) (l21:K.lookup f21=some ⟨oc21,od21,.func (PySem.W.fnOf "_law_stands" "_law_stands" (ao cO) (ak cO) (aj cO) .none kV21 dc21 pm21 an21 cd21 ct21),sl21⟩) (c21:PySem.W.codeIn K cd21 "_law_stands"=true) (k21:PySem.W.keepIn K (.ref f21)=true)
    (a22:PySem.W.nsIn K mainGlobals "law"=some (some (.ref f22))) (l22:K.lookup f22=some ⟨oc22,od22,.func (PySem.W.fnOf "law" "law" (ao kY) (ak kY) (aj kY) .none kV22 dc22 pm22 an22 cd22 ct22),sl22⟩) (c22:PySem.W.codeIn K cd22 "law"=true) (k22:PySem.W.keepIn K (.ref f22)=true)
    (e0:PySem.W.nsIn K mainGlobals "MOST_WATER"=some (some (.int (1000000000000) t0)))
    (e1:PySem.W.nsIn K mainGlobals "LONGEST_NAME"=some (some (.int (8) t1)))
    (e2:PySem.W.nsIn K mainGlobals "LETTERS"=some (some (.str "abcdefghijklmnopqrstuvwxyz" t2)))
    (e3:PySem.W.nsIn K mainGlobals "MOST_REACHES"=some (some (.int (40) t3)))
    (e4:PySem.W.nsIn K mainGlobals "MOUTH"=some (some (.int (-1) t4)))
    (e5:PySem.W.nsIn K mainGlobals "LAST_DAY"=some (some (.int (1000000) t5)))
    (e6:PySem.W.nsIn K mainGlobals "WHOLE"=some (some (.int (1000) t6)))
    (e7:PySem.W.nsIn K mainGlobals "MOST_LICENCES"=some (some (.int (60) t7)))
    (e8:PySem.W.nsIn K mainGlobals "MOST_PONDS"=some (some (.int (10) t8)))
    (n_Book:PySem.W.nsIn K mainGlobals "Book"=some (some (.ref cR_Book))) (ka_Book:PySem.W.plainGet K cR_Book Str.empty=true) (kb_Book:PySem.W.hasDictIn K cR_Book=true) (kc_Book:PySem.W.plainOver K cR_Book=true) (kd_Book:PySem.W.findIn K (.ref cR_Book) "__setattr__"=some (some (.builtin "object.__setattr__")))
    (ke_Book:PySem.W.makesIn K cR_Book=true) (kf_Book:PySem.W.keepIn K (.ref cR_Book)=true)
    (kn_Book_below:PySem.W.findIn K (.ref cR_Book) "below"=some none)
    (kn_Book_day:PySem.W.findIn K (.ref cR_Book) "day"=some none)
    (kn_Book_licences:PySem.W.findIn K (.ref cR_Book) "licences"=some none)
    (kn_Book_names:PySem.W.findIn K (.ref cR_Book) "names"=some none)
    (kn_Book_done:PySem.W.findIn K (.ref cR_Book) "done"=some none)
    (kn_Book_dug:PySem.W.findIn K (.ref cR_Book) "dug"=some none)
    (kn_Book_keeps:PySem.W.findIn K (.ref cR_Book) "keeps"=some none)
    (kn_Book_ran:PySem.W.findIn K (.ref cR_Book) "ran"=some none)
    (kn_Book_last:PySem.W.findIn K (.ref cR_Book) "last"=some none)
    (kn_Book_greatest:PySem.W.findIn K (.ref cR_Book) "greatest"=some none)
    (ma_Book___init__:PySem.W.findIn K (.ref cR_Book) "__init__"=some (some (.ref fm_Book___init__))) (mf_Book___init__:PySem.W.isFn K (.ref fm_Book___init__)=true) (mk_Book___init__:PySem.W.keepIn K (.ref fm_Book___init__)=true) (ml_Book___init__:K.lookup fm_Book___init__=some ⟨ocM0,odM0,.func (PySem.W.fnOf "__init__" "Book.__init__" (ao bU) (ak bU) (aj bU) .none kVM0 dcM0 pmM0 anM0 cdM0 ctM0),slM0⟩) (mc_Book___init__:PySem.W.codeIn K cdM0 "Book.__init__"=true)
    (ma_Book_pond:PySem.W.findIn K (.ref cR_Book) "pond"=some (some (.ref fm_Book_pond))) (mf_Book_pond:PySem.W.isFn K (.ref fm_Book_pond)=true) (mk_Book_pond:PySem.W.keepIn K (.ref fm_Book_pond)=true) (ml_Book_pond:K.lookup fm_Book_pond=some ⟨ocM1,odM1,.func (PySem.W.fnOf "pond" "Book.pond" (ao eH) (ak eH) (aj eH) (.ref dT_Book_pond) kVM1 dcM1 pmM1 anM1 cdM1 ctM1),slM1⟩) (mc_Book_pond:PySem.W.codeIn K cdM1 "Book.pond"=true)
    (mt_Book_pond:K.lookup dT_Book_pond=some oT_Book_pond) (mu_Book_pond:∃ n t,oT_Book_pond.data=.seq #[.int 0 t] n)
    (ma_Book_ponds:PySem.W.findIn K (.ref cR_Book) "ponds"=some (some (.ref fm_Book_ponds))) (mf_Book_ponds:PySem.W.isFn K (.ref fm_Book_ponds)=true) (mk_Book_ponds:PySem.W.keepIn K (.ref fm_Book_ponds)=true) (ml_Book_ponds:K.lookup fm_Book_ponds=some ⟨ocM2,odM2,.func (PySem.W.fnOf "ponds" "Book.ponds" (ao cR) (ak cR) (aj cR) .none kVM2 dcM2 pmM2 anM2 cdM2 ctM2),slM2⟩) (mc_Book_ponds:PySem.W.codeIn K cdM2 "Book.ponds"=true)
    (ma_Book_kept:PySem.W.findIn K (.ref cR_Book) "kept"=some (some (.ref fm_Book_kept))) (mf_Book_kept:PySem.W.isFn K (.ref fm_Book_kept)=true) (mk_Book_kept:PySem.W.keepIn K (.ref fm_Book_kept)=true) (ml_Book_kept:K.lookup fm_Book_kept=some ⟨ocM3,odM3,.func (PySem.W.fnOf "kept" "Book.kept" (ao dN) (ak dN) (aj dN) .none kVM3 dcM3 pmM3 anM3 cdM3 ctM3),slM3⟩) (mc_Book_kept:PySem.W.codeIn K cdM3 "Book.kept"=true)
    (ma_Book_has_pond:PySem.W.findIn K (.ref cR_Book) "has_pond"=some (some (.ref fm_Book_has_pond))) (mf_Book_has_pond:PySem.W.isFn K (.ref fm_Book_has_pond)=true) (mk_Book_has_pond:PySem.W.keepIn K (.ref fm_Book_has_pond)=true) (ml_Book_has_pond:K.lookup fm_Book_has_pond=some ⟨ocM4,odM4,.func (PySem.W.fnOf "has_pond" "Book.has_pond" (ao bJ) (ak bJ) (aj bJ) .none kVM4 dcM4 pmM4 anM4 cdM4 ctM4),slM4⟩) (mc_Book_has_pond:PySem.W.codeIn K cdM4 "Book.has_pond"=true)
    (n_Roll:PySem.W.nsIn K mainGlobals "Roll"=some (some (.ref cR_Roll)))
    (ma_Roll___init__:PySem.W.findIn K (.ref cR_Roll) "__init__"=some (some (.ref fm_Roll___init__))) (mf_Roll___init__:PySem.W.isFn K (.ref fm_Roll___init__)=true) (mk_Roll___init__:PySem.W.keepIn K (.ref fm_Roll___init__)=true) (ml_Roll___init__:K.lookup fm_Roll___init__=some ⟨ocM5,odM5,.func (PySem.W.fnOf "__init__" "Roll.__init__" (ao bT) (ak bT) (aj bT) .none kVM5 dcM5 pmM5 anM5 cdM5 ctM5),slM5⟩) (mc_Roll___init__:PySem.W.codeIn K cdM5 "Roll.__init__"=true)
    (ma_Roll_today:PySem.W.findIn K (.ref cR_Book) "today"=some (some (.ref fm_Roll_today))) (mf_Roll_today:PySem.W.isFn K (.ref fm_Roll_today)=true) (mk_Roll_today:PySem.W.keepIn K (.ref fm_Roll_today)=true) (ml_Roll_today:K.lookup fm_Roll_today=some ⟨ocM6,odM6,.func (PySem.W.fnOf "today" "Roll.today" (ao dH) (ak dH) (aj dH) .none kVM6 dcM6 pmM6 anM6 cdM6 ctM6),slM6⟩) (mc_Roll_today:PySem.W.codeIn K cdM6 "Roll.today"=true)
    (ma_Roll_roll:PySem.W.findIn K (.ref cR_Book) "roll"=some (some (.ref fm_Roll_roll))) (mf_Roll_roll:PySem.W.isFn K (.ref fm_Roll_roll)=true) (mk_Roll_roll:PySem.W.keepIn K (.ref fm_Roll_roll)=true) (ml_Roll_roll:K.lookup fm_Roll_roll=some ⟨ocM7,odM7,.func (PySem.W.fnOf "roll" "Roll.roll" (ao cW) (ak cW) (aj cW) .none kVM7 dcM7 pmM7 anM7 cdM7 ctM7),slM7⟩) (mc_Roll_roll:PySem.W.codeIn K cdM7 "Roll.roll"=true)
    (ma_Roll_holders:PySem.W.findIn K (.ref cR_Book) "holders"=some (some (.ref fm_Roll_holders))) (mf_Roll_holders:PySem.W.isFn K (.ref fm_Roll_holders)=true) (mk_Roll_holders:PySem.W.keepIn K (.ref fm_Roll_holders)=true) (ml_Roll_holders:K.lookup fm_Roll_holders=some ⟨ocM8,odM8,.func (PySem.W.fnOf "holders" "Roll.holders" (ao bQ) (ak bQ) (aj bQ) .none kVM8 dcM8 pmM8 anM8 cdM8 ctM8),slM8⟩) (mc_Roll_holders:PySem.W.codeIn K cdM8 "Roll.holders"=true)
    (ma_Roll_deeds:PySem.W.findIn K (.ref cR_Book) "deeds"=some (some (.ref fm_Roll_deeds))) (mf_Roll_deeds:PySem.W.isFn K (.ref fm_Roll_deeds)=true) (mk_Roll_deeds:PySem.W.keepIn K (.ref fm_Roll_deeds)=true) (ml_Roll_deeds:K.lookup fm_Roll_deeds=some ⟨ocM9,odM9,.func (PySem.W.fnOf "deeds" "Roll.deeds" (ao cQ) (ak cQ) (aj cQ) .none kVM9 dcM9 pmM9 anM9 cdM9 ctM9),slM9⟩) (mc_Roll_deeds:PySem.W.codeIn K cdM9 "Roll.deeds"=true)
    (ma_Roll_file:PySem.W.findIn K (.ref cR_Book) "file"=some (some (.ref fm_Roll_file))) (mf_Roll_file:PySem.W.isFn K (.ref fm_Roll_file)=true) (mk_Roll_file:PySem.W.keepIn K (.ref fm_Roll_file)=true) (ml_Roll_file:K.lookup fm_Roll_file=some ⟨ocM10,odM10,.func (PySem.W.fnOf "file" "Roll.file" (ao eG) (ak eG) (aj eG) (.ref dT_Roll_file) kVM10 dcM10 pmM10 anM10 cdM10 ctM10),slM10⟩) (mc_Roll_file:PySem.W.codeIn K cdM10 "Roll.file"=true)
    (mt_Roll_file:K.lookup dT_Roll_file=some oT_Roll_file) (mu_Roll_file:∃ n,oT_Roll_file.data=.seq #[.none] n)
    (ma_Roll_sell:PySem.W.findIn K (.ref cR_Book) "sell"=some (some (.ref fm_Roll_sell))) (mf_Roll_sell:PySem.W.isFn K (.ref fm_Roll_sell)=true) (mk_Roll_sell:PySem.W.keepIn K (.ref fm_Roll_sell)=true) (ml_Roll_sell:K.lookup fm_Roll_sell=some ⟨ocM11,odM11,.func (PySem.W.fnOf "sell" "Roll.sell" (ao dM) (ak dM) (aj dM) .none kVM11 dcM11 pmM11 anM11 cdM11 ctM11),slM11⟩) (mc_Roll_sell:PySem.W.codeIn K cdM11 "Roll.sell"=true)
    (ma_Roll_enter:PySem.W.findIn K (.ref cR_Book) "enter"=some (some (.ref fm_Roll_enter))) (mf_Roll_enter:PySem.W.isFn K (.ref fm_Roll_enter)=true) (mk_Roll_enter:PySem.W.keepIn K (.ref fm_Roll_enter)=true) (ml_Roll_enter:K.lookup fm_Roll_enter=some ⟨ocM12,odM12,.func (PySem.W.fnOf "enter" "Roll.enter" (ao dI) (ak dI) (aj dI) .none kVM12 dcM12 pmM12 anM12 cdM12 ctM12),slM12⟩) (mc_Roll_enter:PySem.W.codeIn K cdM12 "Roll.enter"=true)
    (ma_Roll_look_at_number:PySem.W.findIn K (.ref cR_Book) "look_at_number"=some (some (.ref fm_Roll_look_at_number))) (mf_Roll_look_at_number:PySem.W.isFn K (.ref fm_Roll_look_at_number)=true) (mk_Roll_look_at_number:PySem.W.keepIn K (.ref fm_Roll_look_at_number)=true) (ml_Roll_look_at_number:K.lookup fm_Roll_look_at_number=some ⟨ocM13,odM13,.func (PySem.W.fnOf "look_at_number" "Roll.look_at_number" (ao aU) (ak aU) (aj aU) .none kVM13 dcM13 pmM13 anM13 cdM13 ctM13),slM13⟩) (mc_Roll_look_at_number:PySem.W.codeIn K cdM13 "Roll.look_at_number"=true)
    (ma_Roll_look_at_holder:PySem.W.findIn K (.ref cR_Book) "look_at_holder"=some (some (.ref fm_Roll_look_at_holder))) (mf_Roll_look_at_holder:PySem.W.isFn K (.ref fm_Roll_look_at_holder)=true) (mk_Roll_look_at_holder:PySem.W.keepIn K (.ref fm_Roll_look_at_holder)=true) (ml_Roll_look_at_holder:K.lookup fm_Roll_look_at_holder=some ⟨ocM14,odM14,.func (PySem.W.fnOf "look_at_holder" "Roll.look_at_holder" (ao aM) (ak aM) (aj aM) .none kVM14 dcM14 pmM14 anM14 cdM14 ctM14),slM14⟩) (mc_Roll_look_at_holder:PySem.W.codeIn K cdM14 "Roll.look_at_holder"=true)
    (ma_Roll_look_at_room:PySem.W.findIn K (.ref cR_Book) "look_at_room"=some (some (.ref fm_Roll_look_at_room))) (mf_Roll_look_at_room:PySem.W.isFn K (.ref fm_Roll_look_at_room)=true) (mk_Roll_look_at_room:PySem.W.keepIn K (.ref fm_Roll_look_at_room)=true) (ml_Roll_look_at_room:K.lookup fm_Roll_look_at_room=some ⟨ocM15,odM15,.func (PySem.W.fnOf "look_at_room" "Roll.look_at_room" (ao bf) (ak bf) (aj bf) .none kVM15 dcM15 pmM15 anM15 cdM15 ctM15),slM15⟩) (mc_Roll_look_at_room:PySem.W.codeIn K cdM15 "Roll.look_at_room"=true)
    (fa_Roll:PySem.W.specialIn K (.ref cR_Roll) "__getattribute__"=some (some (.builtin "type.__getattribute__"))) (fb_Roll:PySem.W.readsIn K cR_Roll (.type "type")=true) (fc_Roll:PySem.W.findCls K (.ref cR_Roll) (.type "type") "__init__"=some (.val (.ref fm_Roll___init__)))
    (z_len:PySem.W.nsIn K mainGlobals "len"=some none)
    (z_range:PySem.W.nsIn K mainGlobals "range"=some none)
    (z_list:PySem.W.nsIn K mainGlobals "list"=some none)
    (z_isinstance:PySem.W.nsIn K mainGlobals "isinstance"=some none)
    (z_bool:PySem.W.nsIn K mainGlobals "bool"=some none)
    (z_int:PySem.W.nsIn K mainGlobals "int"=some none)
    (z_all:PySem.W.nsIn K mainGlobals "all"=some none)
    (z_min:PySem.W.nsIn K mainGlobals "min"=some none)
    (z_max:PySem.W.nsIn K mainGlobals "max"=some none)
    (z_sum:PySem.W.nsIn K mainGlobals "sum"=some none)
    (z_sorted:PySem.W.nsIn K mainGlobals "sorted"=some none)
    (z_zip:PySem.W.nsIn K mainGlobals "zip"=some none)
    (z_tuple:PySem.W.nsIn K mainGlobals "tuple"=some none)
    (z_str:PySem.W.nsIn K mainGlobals "str"=some none)
    (z_any:PySem.W.nsIn K mainGlobals "any"=some none)
    (z_enumerate:PySem.W.nsIn K mainGlobals "enumerate"=some none)
    (z_reversed:PySem.W.nsIn K mainGlobals "reversed"=some none)
    (z_abs:PySem.W.nsIn K mainGlobals "abs"=some none)
    (z_ValueError:PySem.W.nsIn K mainGlobals "ValueError"=some none)
    (z_set:PySem.W.nsIn K mainGlobals "set"=some none)
    (n_SluiceError:PySem.W.nsIn K mainGlobals "SluiceError"=some (some (.ref cX_SluiceError))) (q_SluiceError:PySem.W.excIn K cX_SluiceError sZ "ValueError.__new__"=true)
    (xa_SluiceError:PySem.W.findIn K (.ref cX_SluiceError) "__getattribute__"=some (some (.builtin "BaseException.__getattribute__"))) (xb_SluiceError:PySem.W.findIn K (.ref cX_SluiceError) "__getattr__"=some none) (xc_SluiceError:PySem.W.findIn K (.ref cX_SluiceError) "__class__"=some (some (.builtin "object.__class__")))
    (xd_SluiceError:PySem.W.specialIn K (.builtin "object.__class__") "__get__"=some (some (.builtin "getset_descriptor.__get__"))) (xe_SluiceError:PySem.W.takesIn K (.builtin "object.__class__")=some true) (xf_SluiceError:PySem.W.mroIn K cX_SluiceError (.type "object")=some true) (xg_SluiceError:PySem.W.mroIn K cX_SluiceError (.type "BaseException")=some true) (xh_SluiceError:(PySem.W.clsIn K cX_SluiceError).isSome=true)
    (n_NoRiver:PySem.W.nsIn K mainGlobals "NoRiver"=some (some (.ref cX_NoRiver))) (q_NoRiver:PySem.W.excIn K cX_NoRiver sZ "ValueError.__new__"=true)
    (xa_NoRiver:PySem.W.findIn K (.ref cX_NoRiver) "__getattribute__"=some (some (.builtin "BaseException.__getattribute__"))) (xb_NoRiver:PySem.W.findIn K (.ref cX_NoRiver) "__getattr__"=some none) (xc_NoRiver:PySem.W.findIn K (.ref cX_NoRiver) "__class__"=some (some (.builtin "object.__class__")))
    (xd_NoRiver:PySem.W.specialIn K (.builtin "object.__class__") "__get__"=some (some (.builtin "getset_descriptor.__get__"))) (xe_NoRiver:PySem.W.takesIn K (.builtin "object.__class__")=some true) (xf_NoRiver:PySem.W.mroIn K cX_NoRiver (.type "object")=some true) (xg_NoRiver:PySem.W.mroIn K cX_NoRiver (.type "BaseException")=some true) (xh_NoRiver:(PySem.W.clsIn K cX_NoRiver).isSome=true)
    (n_NoLicence:PySem.W.nsIn K mainGlobals "NoLicence"=some (some (.ref cX_NoLicence))) (q_NoLicence:PySem.W.excIn K cX_NoLicence sZ "ValueError.__new__"=true)
    (xa_NoLicence:PySem.W.findIn K (.ref cX_NoLicence) "__getattribute__"=some (some (.builtin "BaseException.__getattribute__"))) (xb_NoLicence:PySem.W.findIn K (.ref cX_NoLicence) "__getattr__"=some none) (xc_NoLicence:PySem.W.findIn K (.ref cX_NoLicence) "__class__"=some (some (.builtin "object.__class__")))
    (xd_NoLicence:PySem.W.specialIn K (.builtin "object.__class__") "__get__"=some (some (.builtin "getset_descriptor.__get__"))) (xe_NoLicence:PySem.W.takesIn K (.builtin "object.__class__")=some true) (xf_NoLicence:PySem.W.mroIn K cX_NoLicence (.type "object")=some true) (xg_NoLicence:PySem.W.mroIn K cX_NoLicence (.type "BaseException")=some true) (xh_NoLicence:(PySem.W.clsIn K cX_NoLicence).isSome=true)
    (n_NoNumber:PySem.W.nsIn K mainGlobals "NoNumber"=some (some (.ref cX_NoNumber))) (q_NoNumber:PySem.W.excIn K cX_NoNumber sZ "ValueError.__new__"=true)
    (xa_NoNumber:PySem.W.findIn K (.ref cX_NoNumber) "__getattribute__"=some (some (.builtin "BaseException.__getattribute__"))) (xb_NoNumber:PySem.W.findIn K (.ref cX_NoNumber) "__getattr__"=some none) (xc_NoNumber:PySem.W.findIn K (.ref cX_NoNumber) "__class__"=some (some (.builtin "object.__class__")))
    (xd_NoNumber:PySem.W.specialIn K (.builtin "object.__class__") "__get__"=some (some (.builtin "getset_descriptor.__get__"))) (xe_NoNumber:PySem.W.takesIn K (.builtin "object.__class__")=some true) (xf_NoNumber:PySem.W.mroIn K cX_NoNumber (.type "object")=some true) (xg_NoNumber:PySem.W.mroIn K cX_NoNumber (.type "BaseException")=some true) (xh_NoNumber:(PySem.W.clsIn K cX_NoNumber).isSome=true)
    (n_NoHolder:PySem.W.nsIn K mainGlobals "NoHolder"=some (some (.ref cX_NoHolder))) (q_NoHolder:PySem.W.excIn K cX_NoHolder sZ "ValueError.__new__"=true)
    (xa_NoHolder:PySem.W.findIn K (.ref cX_NoHolder) "__getattribute__"=some (some (.builtin "BaseException.__getattribute__"))) (xb_NoHolder:PySem.W.findIn K (.ref cX_NoHolder) "__getattr__"=some none) (xc_NoHolder:PySem.W.findIn K (.ref cX_NoHolder) "__class__"=some (some (.builtin "object.__class__")))
    (xd_NoHolder:PySem.W.specialIn K (.builtin "object.__class__") "__get__"=some (some (.builtin "getset_descriptor.__get__"))) (xe_NoHolder:PySem.W.takesIn K (.builtin "object.__class__")=some true) (xf_NoHolder:PySem.W.mroIn K cX_NoHolder (.type "object")=some true) (xg_NoHolder:PySem.W.mroIn K cX_NoHolder (.type "BaseException")=some true) (xh_NoHolder:(PySem.W.clsIn K cX_NoHolder).isSome=true)
    (n_NotYours:PySem.W.nsIn K mainGlobals "NotYours"=some (some (.ref cX_NotYours))) (q_NotYours:PySem.W.excIn K cX_NotYours sZ "ValueError.__new__"=true)
    (xa_NotYours:PySem.W.findIn K (.ref cX_NotYours) "__getattribute__"=some (some (.builtin "BaseException.__getattribute__"))) (xb_NotYours:PySem.W.findIn K (.ref cX_NotYours) "__getattr__"=some none) (xc_NotYours:PySem.W.findIn K (.ref cX_NotYours) "__class__"=some (some (.builtin "object.__class__")))
    (xd_NotYours:PySem.W.specialIn K (.builtin "object.__class__") "__get__"=some (some (.builtin "getset_descriptor.__get__"))) (xe_NotYours:PySem.W.takesIn K (.builtin "object.__class__")=some true) (xf_NotYours:PySem.W.mroIn K cX_NotYours (.type "object")=some true) (xg_NotYours:PySem.W.mroIn K cX_NotYours (.type "BaseException")=some true) (xh_NotYours:(PySem.W.clsIn K cX_NotYours).isSome=true)
    (n_TooMuch:PySem.W.nsIn K mainGlobals "TooMuch"=some (some (.ref cX_TooMuch))) (q_TooMuch:PySem.W.excIn K cX_TooMuch sZ "ValueError.__new__"=true)
    (xa_TooMuch:PySem.W.findIn K (.ref cX_TooMuch) "__getattribute__"=some (some (.builtin "BaseException.__getattribute__"))) (xb_TooMuch:PySem.W.findIn K (.ref cX_TooMuch) "__getattr__"=some none) (xc_TooMuch:PySem.W.findIn K (.ref cX_TooMuch) "__class__"=some (some (.builtin "object.__class__")))
    (xd_TooMuch:PySem.W.specialIn K (.builtin "object.__class__") "__get__"=some (some (.builtin "getset_descriptor.__get__"))) (xe_TooMuch:PySem.W.takesIn K (.builtin "object.__class__")=some true) (xf_TooMuch:PySem.W.mroIn K cX_TooMuch (.type "object")=some true) (xg_TooMuch:PySem.W.mroIn K cX_TooMuch (.type "BaseException")=some true) (xh_TooMuch:(PySem.W.clsIn K cX_TooMuch).isSome=true)
    (n_Full:PySem.W.nsIn K mainGlobals "Full"=some (some (.ref cX_Full))) (q_Full:PySem.W.excIn K cX_Full sZ "ValueError.__new__"=true)
    (xa_Full:PySem.W.findIn K (.ref cX_Full) "__getattribute__"=some (some (.builtin "BaseException.__getattribute__"))) (xb_Full:PySem.W.findIn K (.ref cX_Full) "__getattr__"=some none) (xc_Full:PySem.W.findIn K (.ref cX_Full) "__class__"=some (some (.builtin "object.__class__")))
    (xd_Full:PySem.W.specialIn K (.builtin "object.__class__") "__get__"=some (some (.builtin "getset_descriptor.__get__"))) (xe_Full:PySem.W.takesIn K (.builtin "object.__class__")=some true) (xf_Full:PySem.W.mroIn K cX_Full (.type "object")=some true) (xg_Full:PySem.W.mroIn K cX_Full (.type "BaseException")=some true) (xh_Full:(PySem.W.clsIn K cX_Full).isSome=true)
    (n_NoPond:PySem.W.nsIn K mainGlobals "NoPond"=some (some (.ref cX_NoPond))) (q_NoPond:PySem.W.excIn K cX_NoPond sZ "ValueError.__new__"=true)
    (xa_NoPond:PySem.W.findIn K (.ref cX_NoPond) "__getattribute__"=some (some (.builtin "BaseException.__getattribute__"))) (xb_NoPond:PySem.W.findIn K (.ref cX_NoPond) "__getattr__"=some none) (xc_NoPond:PySem.W.findIn K (.ref cX_NoPond) "__class__"=some (some (.builtin "object.__class__")))
    (xd_NoPond:PySem.W.specialIn K (.builtin "object.__class__") "__get__"=some (some (.builtin "getset_descriptor.__get__"))) (xe_NoPond:PySem.W.takesIn K (.builtin "object.__class__")=some true) (xf_NoPond:PySem.W.mroIn K cX_NoPond (.type "object")=some true) (xg_NoPond:PySem.W.mroIn K cX_NoPond (.type "BaseException")=some true) (xh_NoPond:(PySem.W.clsIn K cX_NoPond).isSome=true)
    (m_NoNumber_SluiceError:PySem.W.exmOne K (.ref cX_NoNumber) (.ref cX_SluiceError)=some true)
    (m_NotYours_SluiceError:PySem.W.exmOne K (.ref cX_NotYours) (.ref cX_SluiceError)=some true)
    (m_NoPond_SluiceError:PySem.W.exmOne K (.ref cX_NoPond) (.ref cX_SluiceError)=some true)
    (i_NoNumber_ValueError:PySem.W.kitOne K (.ref cX_NoNumber) (.type "ValueError")=some true)
    (i_NotYours_ValueError:PySem.W.kitOne K (.ref cX_NotYours) (.type "ValueError")=some true)
    (i_NoPond_ValueError:PySem.W.kitOne K (.ref cX_NoPond) (.type "ValueError")=some true)
    (m_kall:([cX_NoNumber,cX_NotYours,cX_NoPond]:List Addr).map (fun a=>([cX_NoNumber,cX_NotYours,cX_NoPond,cX_TooMuch]:List Addr).map (fun b=>PySem.W.kitOne K (.ref a) (.ref b)))=(List.range 3).map fun i=>(List.range 4).map fun j=>some (decide (j=i)))
    : ∃ fd:FuncData,(∀ (s:Shared) (v:Value),BindsTo s fd ⟨[v],[]⟩ [("script",v)])∧∀ base:Heap,K.In base→base.Ns mainGlobals mg→bM l.prog w K mg base CX0 6 fa fd ["script"] (qK K):=by
  have e:=hfa.symm.trans (PySem.W.mg_of X G a22)
  cases e
  have B:Blt mg:=⟨PySem.W.mg_none_of X G z_len,PySem.W.mg_none_of X G z_range,PySem.W.mg_none_of X G z_list,PySem.W.mg_none_of X G z_isinstance,PySem.W.mg_none_of X G z_bool,PySem.W.mg_none_of X G z_int,PySem.W.mg_none_of X G z_all,PySem.W.mg_none_of X G z_min,PySem.W.mg_none_of X G z_max,PySem.W.mg_none_of X G z_sum,PySem.W.mg_none_of X G z_sorted,PySem.W.mg_none_of X G z_zip,PySem.W.mg_none_of X G z_tuple,PySem.W.mg_none_of X G z_str,PySem.W.mg_none_of X G z_any,PySem.W.mg_none_of X G z_enumerate,PySem.W.mg_none_of X G z_reversed,PySem.W.mg_none_of X G z_abs,PySem.W.mg_none_of X G z_ValueError,PySem.W.mg_none_of X G z_set⟩
  have h_MOST_WATER:∃ t,mg "MOST_WATER"=some (.int (1000000000000) t):=⟨_,PySem.W.mg_of X G e0⟩
  have h_LONGEST_NAME:∃ t,mg "LONGEST_NAME"=some (.int (8) t):=⟨_,PySem.W.mg_of X G e1⟩
  have h_LETTERS:∃ t,mg "LETTERS"=some (.str "abcdefghijklmnopqrstuvwxyz" t):=⟨_,PySem.W.mg_of X G e2⟩
  have h_MOST_REACHES:∃ t,mg "MOST_REACHES"=some (.int (40) t):=⟨_,PySem.W.mg_of X G e3⟩
  have h_MOUTH:∃ t,mg "MOUTH"=some (.int (-1) t):=⟨_,PySem.W.mg_of X G e4⟩
  have h_LAST_DAY:∃ t,mg "LAST_DAY"=some (.int (1000000) t):=⟨_,PySem.W.mg_of X G e5⟩
  have h_WHOLE:∃ t,mg "WHOLE"=some (.int (1000) t):=⟨_,PySem.W.mg_of X G e6⟩
  have h_MOST_LICENCES:∃ t,mg "MOST_LICENCES"=some (.int (60) t):=⟨_,PySem.W.mg_of X G e7⟩
  have h_MOST_PONDS:∃ t,mg "MOST_PONDS"=some (.int (10) t):=⟨_,PySem.W.mg_of X G e8⟩
  have FM_Book___init__:=bL (st:=bU) ml_Book___init__ mc_Book___init__ mk_Book___init__
  have eX:Dm K cR_Book "__init__" "Book.__init__" bU ["self","below"] fm_Book___init__ _:=⟨FM_Book___init__,iR FM_Book___init__ (fun _ _ _ _ _ _ _ _=>rfl),⟨ma_Book___init__,mf_Book___init__,mk_Book___init__⟩⟩
  obtain ⟨nT_Book_pond,tT_Book_pond,mu_Book_pond⟩:=mu_Book_pond
  have FM_Book_pond:Lj K "pond" "Book.pond" eH [.int 0 tT_Book_pond] fm_Book_pond _:=⟨⟨_,_,_,_,_,_,_,_,_,_,_,_,rfl,ml_Book_pond,mc_Book_pond,mt_Book_pond,mu_Book_pond⟩,mk_Book_pond⟩
  have fL:DmZ K cR_Book "pond" "Book.pond" eH ["self","number","holder","room","leak"] fm_Book_pond _:=⟨⟨tT_Book_pond,FM_Book_pond,FM_Book_pond.binds (fun _ _ _ _ _ _ _ us hl=>match us,(show us.length=4 by simpa using hl) with | [u0,u1,u2,u3],_=>⟨_,rfl,rfl⟩)⟩,FM_Book_pond.binds (fun _ _ _ _ _ _ _ us hl=>match us,(show us.length=5 by simpa using hl) with | [u0,u1,u2,u3,u4],_=>⟨_,rfl,rfl⟩),⟨ma_Book_pond,mf_Book_pond,mk_Book_pond⟩⟩
  have FM_Book_ponds:=bL (st:=cR) ml_Book_ponds mc_Book_ponds mk_Book_ponds
  have bY:Dm K cR_Book "ponds" "Book.ponds" cR ["self"] fm_Book_ponds _:=⟨FM_Book_ponds,iw FM_Book_ponds (fun _ _ _ _ _ _ _=>rfl),⟨ma_Book_ponds,mf_Book_ponds,mk_Book_ponds⟩⟩
  have FM_Book_kept:=bL (st:=dN) ml_Book_kept mc_Book_kept mk_Book_kept
  have dX:Dm K cR_Book "kept" "Book.kept" dN ["self"] fm_Book_kept _:=⟨FM_Book_kept,iw FM_Book_kept (fun _ _ _ _ _ _ _=>rfl),⟨ma_Book_kept,mf_Book_kept,mk_Book_kept⟩⟩
  have FM_Book_has_pond:=bL (st:=bJ) ml_Book_has_pond mc_Book_has_pond mk_Book_has_pond
  have eV:Dm K cR_Book "has_pond" "Book.has_pond" bJ ["self","number"] fm_Book_has_pond _:=⟨FM_Book_has_pond,iR FM_Book_has_pond (fun _ _ _ _ _ _ _ _=>rfl),⟨ma_Book_has_pond,mf_Book_has_pond,mk_Book_has_pond⟩⟩
  have R_Book:Cl K mg "Book" cR_Book fm_Book___init__ ["below","day","licences","names","done","dug","keeps","ran","last","greatest"]:=⟨⟨ka_Book,kb_Book,kc_Book,kd_Book⟩,⟨ke_Book,ma_Book___init__,mf_Book___init__,kf_Book⟩,PySem.W.mg_of X G n_Book,by
    simp only [List.mem_cons,List.not_mem_nil,or_false,forall_eq_or_imp,forall_eq]
    exact ⟨kn_Book_below,kn_Book_day,kn_Book_licences,kn_Book_names,kn_Book_done,kn_Book_dug,kn_Book_keeps,kn_Book_ran,kn_Book_last,kn_Book_greatest⟩⟩
  have FM_Roll___init__:=bL (st:=bT) ml_Roll___init__ mc_Roll___init__ mk_Roll___init__
  have gn:Dm K cR_Roll "__init__" "Roll.__init__" bT ["self","below"] fm_Roll___init__ _:=⟨FM_Roll___init__,iR FM_Roll___init__ (fun _ _ _ _ _ _ _ _=>rfl),⟨ma_Roll___init__,mf_Roll___init__,mk_Roll___init__⟩⟩
  have FM_Roll_today:=bL (st:=dH) ml_Roll_today mc_Roll_today mk_Roll_today
  have gM:Dm K cR_Book "today" "Roll.today" dH ["self"] fm_Roll_today _:=⟨FM_Roll_today,iw FM_Roll_today (fun _ _ _ _ _ _ _=>rfl),⟨ma_Roll_today,mf_Roll_today,mk_Roll_today⟩⟩
  have FM_Roll_roll:=bL (st:=cW) ml_Roll_roll mc_Roll_roll mk_Roll_roll
  have bN:Dm K cR_Book "roll" "Roll.roll" cW ["self"] fm_Roll_roll _:=⟨FM_Roll_roll,iw FM_Roll_roll (fun _ _ _ _ _ _ _=>rfl),⟨ma_Roll_roll,mf_Roll_roll,mk_Roll_roll⟩⟩
  have FM_Roll_holders:=bL (st:=bQ) ml_Roll_holders mc_Roll_holders mk_Roll_holders
  have bG:Dm K cR_Book "holders" "Roll.holders" bQ ["self"] fm_Roll_holders _:=⟨FM_Roll_holders,iw FM_Roll_holders (fun _ _ _ _ _ _ _=>rfl),⟨ma_Roll_holders,mf_Roll_holders,mk_Roll_holders⟩⟩
  have FM_Roll_deeds:=bL (st:=cQ) ml_Roll_deeds mc_Roll_deeds mk_Roll_deeds
  have cV:Dm K cR_Book "deeds" "Roll.deeds" cQ ["self"] fm_Roll_deeds _:=⟨FM_Roll_deeds,iw FM_Roll_deeds (fun _ _ _ _ _ _ _=>rfl),⟨ma_Roll_deeds,mf_Roll_deeds,mk_Roll_deeds⟩⟩
  obtain ⟨nT_Roll_file,mu_Roll_file⟩:=mu_Roll_file
  have FM_Roll_file:Lj K "file" "Roll.file" eG [.none] fm_Roll_file _:=⟨⟨_,_,_,_,_,_,_,_,_,_,_,_,rfl,ml_Roll_file,mc_Roll_file,mt_Roll_file,mu_Roll_file⟩,mk_Roll_file⟩
  have iB:DmD K cR_Book "file" "Roll.file" eG ["self","holder","start","most","back"] fm_Roll_file _:=⟨FM_Roll_file,FM_Roll_file.binds (fun _ _ _ _ _ _ _ us hl=>match us,(show us.length=5 by simpa using hl) with | [u0,u1,u2,u3,u4],_=>⟨_,rfl,rfl⟩),FM_Roll_file.binds (fun _ _ _ _ _ _ _ us hl=>match us,(show us.length=4 by simpa using hl) with | [u0,u1,u2,u3],_=>⟨_,rfl,rfl⟩),⟨ma_Roll_file,mf_Roll_file,mk_Roll_file⟩⟩
  have FM_Roll_sell:=bL (st:=dM) ml_Roll_sell mc_Roll_sell mk_Roll_sell
  have dW:Dm K cR_Book "sell" "Roll.sell" dM ["self","number","holder","to"] fm_Roll_sell _:=⟨FM_Roll_sell,pB FM_Roll_sell (fun _ _ _ _ _ _ _ _ _ _=>rfl),⟨ma_Roll_sell,mf_Roll_sell,mk_Roll_sell⟩⟩
  have FM_Roll_enter:=bL (st:=dI) ml_Roll_enter mc_Roll_enter mk_Roll_enter
  have gO:Dm K cR_Book "enter" "Roll.enter" dI ["self","one","holder"] fm_Roll_enter _:=⟨FM_Roll_enter,rP FM_Roll_enter (fun _ _ _ _ _ _ _ _ _=>rfl),⟨ma_Roll_enter,mf_Roll_enter,mk_Roll_enter⟩⟩
  have FM_Roll_look_at_number:=bL (st:=aU) ml_Roll_look_at_number mc_Roll_look_at_number mk_Roll_look_at_number
  have bW:Dm K cR_Book "look_at_number" "Roll.look_at_number" aU ["self","number"] fm_Roll_look_at_number _:=⟨FM_Roll_look_at_number,iR FM_Roll_look_at_number (fun _ _ _ _ _ _ _ _=>rfl),⟨ma_Roll_look_at_number,mf_Roll_look_at_number,mk_Roll_look_at_number⟩⟩
  have FM_Roll_look_at_holder:=bL (st:=aM) ml_Roll_look_at_holder mc_Roll_look_at_holder mk_Roll_look_at_holder
  have aO:Dm K cR_Book "look_at_holder" "Roll.look_at_holder" aM ["self","number","holder"] fm_Roll_look_at_holder _:=⟨FM_Roll_look_at_holder,rP FM_Roll_look_at_holder (fun _ _ _ _ _ _ _ _ _=>rfl),⟨ma_Roll_look_at_holder,mf_Roll_look_at_holder,mk_Roll_look_at_holder⟩⟩
  have FM_Roll_look_at_room:=bL (st:=bf) ml_Roll_look_at_room mc_Roll_look_at_room mk_Roll_look_at_room
  have cD:Dm K cR_Book "look_at_room" "Roll.look_at_room" bf ["self"] fm_Roll_look_at_room _:=⟨FM_Roll_look_at_room,iw FM_Roll_look_at_room (fun _ _ _ _ _ _ _=>rfl),⟨ma_Roll_look_at_room,mf_Roll_look_at_room,mk_Roll_look_at_room⟩⟩
  have N_Roll:=PySem.W.mg_of X G n_Roll
  have F_Roll___init__:ClF K cR_Roll fm_Roll___init__ "__init__":=⟨fa_Roll,fb_Roll,fc_Roll,mk_Roll___init__⟩
  have X_SluiceError:mz K mg "SluiceError" cX_SluiceError:=⟨PySem.W.mg_of X G n_SluiceError,q_SluiceError,⟨xa_SluiceError,xb_SluiceError,xc_SluiceError,xd_SluiceError,xe_SluiceError,xf_SluiceError,xg_SluiceError,xh_SluiceError⟩⟩
  have X_NoRiver:mz K mg "NoRiver" cX_NoRiver:=⟨PySem.W.mg_of X G n_NoRiver,q_NoRiver,⟨xa_NoRiver,xb_NoRiver,xc_NoRiver,xd_NoRiver,xe_NoRiver,xf_NoRiver,xg_NoRiver,xh_NoRiver⟩⟩
  have X_NoLicence:mz K mg "NoLicence" cX_NoLicence:=⟨PySem.W.mg_of X G n_NoLicence,q_NoLicence,⟨xa_NoLicence,xb_NoLicence,xc_NoLicence,xd_NoLicence,xe_NoLicence,xf_NoLicence,xg_NoLicence,xh_NoLicence⟩⟩
  have X_NoNumber:mz K mg "NoNumber" cX_NoNumber:=⟨PySem.W.mg_of X G n_NoNumber,q_NoNumber,⟨xa_NoNumber,xb_NoNumber,xc_NoNumber,xd_NoNumber,xe_NoNumber,xf_NoNumber,xg_NoNumber,xh_NoNumber⟩⟩
  have X_NoHolder:mz K mg "NoHolder" cX_NoHolder:=⟨PySem.W.mg_of X G n_NoHolder,q_NoHolder,⟨xa_NoHolder,xb_NoHolder,xc_NoHolder,xd_NoHolder,xe_NoHolder,xf_NoHolder,xg_NoHolder,xh_NoHolder⟩⟩
  have X_NotYours:mz K mg "NotYours" cX_NotYours:=⟨PySem.W.mg_of X G n_NotYours,q_NotYours,⟨xa_NotYours,xb_NotYours,xc_NotYours,xd_NotYours,xe_NotYours,xf_NotYours,xg_NotYours,xh_NotYours⟩⟩
  have X_TooMuch:mz K mg "TooMuch" cX_TooMuch:=⟨PySem.W.mg_of X G n_TooMuch,q_TooMuch,⟨xa_TooMuch,xb_TooMuch,xc_TooMuch,xd_TooMuch,xe_TooMuch,xf_TooMuch,xg_TooMuch,xh_TooMuch⟩⟩
  have X_Full:mz K mg "Full" cX_Full:=⟨PySem.W.mg_of X G n_Full,q_Full,⟨xa_Full,xb_Full,xc_Full,xd_Full,xe_Full,xf_Full,xg_Full,xh_Full⟩⟩
  have X_NoPond:mz K mg "NoPond" cX_NoPond:=⟨PySem.W.mg_of X G n_NoPond,q_NoPond,⟨xa_NoPond,xb_NoPond,xc_NoPond,xd_NoPond,xe_NoPond,xf_NoPond,xg_NoPond,xh_NoPond⟩⟩
  have F0:=bL (st:=fj) l0 c0 k0
  have dj:Df K mg "is_water" fj ["amount"] _ _:=⟨F0,iw F0 (fun _ _ _ _ _ _ _=>rfl),PySem.W.mg_of X G a0⟩
  have F1:=bL (st:=gj) l1 c1 k1
  have iT:Df K mg "is_name" gj ["text"] _ _:=⟨F1,iw F1 (fun _ _ _ _ _ _ _=>rfl),PySem.W.mg_of X G a1⟩
  have F2:=bL (st:=bK) l2 c2 k2
  have cJ:Df K mg "comes_to_mouth" bK ["below","start"] _ _:=⟨F2,iR F2 (fun _ _ _ _ _ _ _ _=>rfl),PySem.W.mg_of X G a2⟩
  have F3:=bL (st:=dY) l3 c3 k3
  have gV:Df K mg "is_river" dY ["below"] _ _:=⟨F3,iw F3 (fun _ _ _ _ _ _ _=>rfl),PySem.W.mg_of X G a3⟩
  have F4:=bL (st:=iD) l4 c4 k4
  have jw:Df K mg "way_of" iD ["below","reach"] _ _:=⟨F4,iR F4 (fun _ _ _ _ _ _ _ _=>rfl),PySem.W.mg_of X G a4⟩
  have F5:=bL (st:=dw) l5 c5 k5
  have fO:Df K mg "is_licence" dw ["below","one"] _ _:=⟨F5,iR F5 (fun _ _ _ _ _ _ _ _=>rfl),PySem.W.mg_of X G a5⟩
  have F6:=bL (st:=dz) l6 c6 k6
  have fQ:Df K mg "gives_back" dz ["one"] _ _:=⟨F6,iw F6 (fun _ _ _ _ _ _ _=>rfl),PySem.W.mg_of X G a6⟩
  have F7:=bL (st:=bO) l7 c7 k7
  have bF:Df K mg "look_at_name" bO ["name"] _ _:=⟨F7,iw F7 (fun _ _ _ _ _ _ _=>rfl),PySem.W.mg_of X G a7⟩
  have F8:=bL (st:=cu) l8 c8 k8
  have aK:Df K mg "_law_cell_at" cu ["script","k"] _ _:=⟨F8,iR F8 (fun _ _ _ _ _ _ _ _=>rfl),PySem.W.mg_of X G a8⟩
  have F9:=bL (st:=dD) l9 c9 k9
  have fU:Df K mg "_law_whole" dD ["found"] _ _:=⟨F9,iw F9 (fun _ _ _ _ _ _ _=>rfl),PySem.W.mg_of X G a9⟩
  have F10:=bL (st:=bI) l10 c10 k10
  have aH:Df K mg "_law_pebble" bI ["cell","k"] _ _:=⟨F10,iR F10 (fun _ _ _ _ _ _ _ _=>rfl),PySem.W.mg_of X G a10⟩
  have F11:=bL (st:=bB) l11 c11 k11
  have aG:Df K mg "_law_pebbles" bB ["cell","many"] _ _:=⟨F11,iR F11 (fun _ _ _ _ _ _ _ _=>rfl),PySem.W.mg_of X G a11⟩
  have F12:=bL (st:=dF) l12 c12 k12
  have fV:Df K mg "_law_river" dF ["xs","cell"] _ _:=⟨F12,iR F12 (fun _ _ _ _ _ _ _ _=>rfl),PySem.W.mg_of X G a12⟩
  have F13:=bL (st:=cC) l13 c13 k13
  have aP:Df K mg "_law_name" cC ["x"] _ _:=⟨F13,iw F13 (fun _ _ _ _ _ _ _=>rfl),PySem.W.mg_of X G a13⟩
  have F14:=bL (st:=dG) l14 c14 k14
  have fW:Df K mg "_law_filed" dG ["book","river","cell"] _ _:=⟨F14,rP F14 (fun _ _ _ _ _ _ _ _ _=>rfl),PySem.W.mg_of X G a14⟩
  have F15:=bL (st:=cA) l15 c15 k15
  have bR:Df K mg "_law_bounded" cA ["x","cell","most"] _ _:=⟨F15,rP F15 (fun _ _ _ _ _ _ _ _ _=>rfl),PySem.W.mg_of X G a15⟩
  have F16:=bL (st:=eF) l16 c16 k16
  have gB:Df K mg "_law_sold" eF ["book","cell"] _ _:=⟨F16,iR F16 (fun _ _ _ _ _ _ _ _=>rfl),PySem.W.mg_of X G a16⟩
  have F17:=bL (st:=cj) l17 c17 k17
  have d8:Df K mg "_law_sold_on" cj ["book","x","owners","trail"] _ _:=⟨F17,pB F17 (fun _ _ _ _ _ _ _ _ _ _=>rfl),PySem.W.mg_of X G a17⟩
  have F18:=bL (st:=eE) l18 c18 k18
  have gA:Df K mg "_law_wish" eE ["roll","old","owners","cell"] _ _:=⟨F18,pB F18 (fun _ _ _ _ _ _ _ _ _ _=>rfl),PySem.W.mg_of X G a18⟩
  have F19:=bL (st:=fu) l19 c19 k19
  have gY:Df K mg "_law_due" fu ["roll","owners","basins","wish"] _ _:=⟨F19,pB F19 (fun _ _ _ _ _ _ _ _ _ _=>rfl),PySem.W.mg_of X G a19⟩
  have F20:=bL (st:=fM) l20 c20 k20
  have gW:Df K mg "_law_put" fM ["book","wish"] _ _:=⟨F20,iR F20 (fun _ _ _ _ _ _ _ _=>rfl),PySem.W.mg_of X G a20⟩
  have F21:=bL (st:=cO) l21 c21 k21
  have fB:Df K mg "_law_stands" cO ["book","basins","roll","trail"] _ _:=⟨F21,pB F21 (fun _ _ _ _ _ _ _ _ _ _=>rfl),PySem.W.mg_of X G a21⟩
  have F22:=bL (st:=kY) l22 c22 k22
  have Vc:Df K mg "law" kY ["script"] _ _:=⟨F22,iw F22 (fun _ _ _ _ _ _ _=>rfl),PySem.W.mg_of X G a22⟩
  refine ⟨PySem.W.fnOf "law" "law" (ao kY) (ak kY) (aj kY) .none kV22 dc22 pm22 an22 cd22 ct22,fun s v=>.of_eq rfl,fun base _ _=>?_⟩
  have RB:BC K cR_Book:=Oj R_Book
  have RR:RC K cR_Book:=RB.r
  have TTP:Li K (⟨cX_NoNumber,cX_NotYours,cX_NoHolder,cX_NoLicence,cX_TooMuch,cX_Full,cX_Full,cX_NoRiver⟩:Ec) cX_NoPond [cX_NoNumber,cX_NotYours,cX_NoPond,cX_TooMuch] cX_SluiceError:=⟨fun k=>match k with | .number=>m_NoNumber_SluiceError | .yours=>m_NotYours_SluiceError | .pond=>m_NoPond_SluiceError,fun k j a h=>match k with | .number=>Mx m_kall (i:=0) rfl h | .yours=>Mx m_kall (i:=1) rfl h | .pond=>Mx m_kall (i:=2) rfl h,fun k=>match k with | .number=>i_NoNumber_ValueError | .yours=>i_NotYours_ValueError | .pond=>i_NoPond_ValueError,fun k=>match k with | .number=>X_NoNumber.x | .yours=>X_NotYours.x | .pond=>X_NoPond.x⟩
  have C:Mth mg:=⟨h_MOUTH⟩
  have CS:Cst mg:=⟨h_MOUTH,h_MOST_REACHES⟩
  have CNm:CN mg:=⟨h_LONGEST_NAME,h_LETTERS⟩
  have g1:=Pu (P:=l.prog) (w:=w) (base:=base) jw C
  have g2:=Bs (P:=l.prog) (w:=w) (base:=base) cJ B CS
  have g3:=PJ gV B CS cJ g2
  have g4:=Bm (P:=l.prog) (w:=w) (base:=base) dj h_MOST_WATER
  have g5:=Bq (T:=[]) fO B C h_LAST_DAY dj g4 jw g1
  have g6:=Ms (P:=l.prog) (w:=w) (base:=base) aK B
  have g7:=Pz (P:=l.prog) (w:=w) (base:=base) aH
  have g8:=Mr aG B aH g7
  have g9:=Bo fV B aH g7
  have g10:=uO (P:=l.prog) (w:=w) (base:=base) (T:=[]) iT B CNm
  have g11:=qb (T:=[]) bF X_NoHolder iT g10
  have g12:=Bv (P:=l.prog) (w:=w) (base:=base) (mg:=mg) bN B RR
  have g13:=qg (P:=l.prog) (w:=w) (base:=base) (mg:=mg) bG B RR
  have g14:=uR (P:=l.prog) (w:=w) (base:=base) (mg:=mg) cV B RR
  have g15:=uP (P:=l.prog) (w:=w) (base:=base) (mg:=mg) gM RR
  have g16:=uQ (P:=l.prog) (w:=w) (base:=base) (mg:=mg) gO B RR
  have g17:=Bu (P:=l.prog) (w:=w) (base:=base) (mg:=mg) (T:=[]) cD B RR X_Full h_MOST_LICENCES
  have g18:=qd (P:=l.prog) (w:=w) (base:=base) (mg:=mg) (T:=[]) bW B RR X_NoNumber
  have g19:=qe (T:=[]) aO B RR X_NotYours bW g18
  have g20:=Bt (T:=[]) (c:=(⟨cX_NoNumber,cX_NotYours,cX_NoHolder,cX_NoLicence,cX_TooMuch,cX_Full,cX_Full,cX_NoRiver⟩:Ec)) dW RR aO g19 bF g11
  have g21:=BJ (T:=[]) (c:=(⟨cX_NoNumber,cX_NotYours,cX_NoHolder,cX_NoLicence,cX_TooMuch,cX_Full,cX_Full,cX_NoRiver⟩:Ec)) iB B C RR X_NoLicence bF g11 fO g5 cD g17 gO g16
  have g22:=Bw (T:=[]) (c:=(⟨cX_NoNumber,cX_NotYours,cX_NoHolder,cX_NoLicence,cX_TooMuch,cX_Full,cX_Full,cX_NoRiver⟩:Ec)) gn B RR X_NoRiver gV g3
  have g23:=BP (T:=[]) (c:=(⟨cX_NoNumber,cX_NotYours,cX_NoHolder,cX_NoLicence,cX_TooMuch,cX_Full,cX_Full,cX_NoRiver⟩:Ec)) eX RB N_Roll F_Roll___init__ gn g22
  have g24:=uT (P:=l.prog) (w:=w) (base:=base) (mg:=mg) bY B RB
  have g25:=BK (P:=l.prog) (w:=w) (base:=base) (mg:=mg) dX B RB
  have g26:=Uz (P:=l.prog) (w:=w) (base:=base) fQ C
  have g27:=PN (P:=l.prog) (w:=w) (base:=base) (mg:=mg) (T:=[]) eV B RB
  have g28:=Mq (T:=[]) (c:=(⟨cX_NoNumber,cX_NotYours,cX_NoHolder,cX_NoLicence,cX_TooMuch,cX_Full,cX_Full,cX_NoRiver⟩:Ec)) fL B RB RR X_NoPond h_MOST_PONDS h_WHOLE aO g19 fQ g26 eV g27 dj g4
  have g29:=Bp (P:=l.prog) (w:=w) (base:=base) (T:=[]) aP B
  have g30:=Br (T:=[]) (c:=(⟨cX_NoNumber,cX_NotYours,cX_NoHolder,cX_NoLicence,cX_TooMuch,cX_Full,cX_Full,cX_NoRiver⟩:Ec)) fW B RR aG g8 aP g29 iB g21
  have g31:=P0 (P:=l.prog) (w:=w) (base:=base) (T:=[]) bR
  have g32:=Mp (T:=[]) (c:=(⟨cX_NoNumber,cX_NotYours,cX_NoHolder,cX_NoLicence,cX_TooMuch,cX_Full,cX_Full,cX_NoRiver⟩:Ec)) gB B RR bN g12 aH g7 bG g13 aP g29 dW g20
  have g33:=Px (T:=[]) (c:=(⟨cX_NoNumber,cX_NotYours,cX_NoHolder,cX_NoLicence,cX_TooMuch,cX_Full,cX_Full,cX_NoRiver⟩:Ec)) d8 B RR aP g29 dW g20
  have g34:=Ml (T:=[]) gA B aG g8 aP g29 bR g31
  have g35:=PX (P:=l.prog) (w:=w) (base:=base) (T:=[]) gY B
  have g36:=Py (T:=[]) (c:=(⟨cX_NoNumber,cX_NotYours,cX_NoHolder,cX_NoLicence,cX_TooMuch,cX_Full,cX_Full,cX_NoRiver⟩:Ec)) gW B RB X_SluiceError TTP X_NoNumber X_NotYours X_NoPond X_TooMuch fL g28
  have g37:=uN (T:=[]) fB B RR RB bY g24 dX g25 bN g12 cV g14 gM g15
  have g38:=Bl (P:=l.prog) (w:=w) (base:=base) fU B
  exact PB Vc B R_Book RR aK g6 aH g7 aG g8 fV g9 eX g23 fW g30 bG g13 gB g32 bN g12 cV g14 bY g24 dX g25 d8 g33 gA g34 gY g35 gW g36 fB g37 fU g38
theorem walk {l:PySem.W.OpenLaw} {q:Program} {loose:List Str} {XP:(Str→Option Value)→Heap→Prop} {YP:World→Heap→Prop} {d:DefRec} {K:Params→PySem.W.Frag} (hn:l.most=some 63) (hdf:d.params.defaults=[])
    (hY:∀ (w:World) (h:Heap),YP w h→(K w.params).In h)
    (F:∀ (w:World) (mg:Str→Option Value) (fa:Addr) (h:Heap),(K w.params).In h→h.Ns mainGlobals mg→mg d.name=some (.ref fa) →
      ∃ fd:FuncData,(∀ (s:Shared) (u:Value),BindsTo s fd ⟨[u],[]⟩ [("script",u)])∧∀ base:Heap,(K w.params).In base→base.Ns mainGlobals mg→bM l.prog w (K w.params) mg base CX0 6 fa fd ["script"] (qK (K w.params))) :
    PySem.W.WalkO q loose XP YP l.row.toRowW d [] (fun f vs=>PySem.call f vs) :=
  L2.Lq (n:=63) (k:=6) (x:="script") (CX:=fun _=>CX0) (sp:=fun w=>qK (K w.params)) hn (by decide) hdf ⟨rfl,by decide,by decide⟩ hY F (fun _ _ a ns hl _ hS=>⟨a,ns,rfl,hS,hl,fun _=>rfl⟩) fun _ _ _ _ _ z=>z
end My
open PySem PySem.W PyProof.Rows
set_option maxRecDepth 100000 in
set_option maxHeartbeats 0 in
theorem PySem.Challenge.cw_sluice_k62_ponds_put_holds : PySem.Challenge.rw_sluice_k62_ponds_put.Holds := by
  w_on;o_law
  refine PySem.W.holds_open (q:=My.qv) (loose:=My.rD) (Xt:=(fun s=>PySem.W.xlAt My.qv [] s && PySem.W.recOk (PySem.W.RowW.records PySem.Challenge.rw_sluice_k62_ponds_put.row.toRowW) s)) (XP:=PySem.W.XL My.qv []) (Yf:=PySem.W.Hook.obs (PySem.W.kHook My.Kf My.asK My.hkE)) (Ya:=PySem.W.Hook.val (PySem.W.kHook My.Kf My.asK My.hkE)) (YP:=PySem.W.Hook.says (PySem.W.kHook My.Kf My.asK My.hkE)) (N:=8492) My.hlE (PySem.W.Hook.of (PySem.W.kHook My.Kf My.asK My.hkE)) (PySem.W.Hook.keeps (PySem.W.kHook My.Kf My.asK My.hkE)) (fun s e=>PySem.W.xl_of s (Bool.and_eq_true_iff.mp e).1) PySem.W.XL.keeps (by rfl) (by rfl) (by rfl) (fun s e=>PySem.W.recFacts_of (Bool.and_eq_true_iff.mp e).2) (by rfl) (by first | assumption | decide +kernel) (by decide +kernel) ⟨rfl,rfl,rfl,rfl,rfl,by decide +kernel⟩ ?hw ?hc
  case hw=>w_witness2
  k_fill
  refine My.walk (l:=PySem.Challenge.rw_sluice_k62_ponds_put) rfl rfl (fun w h Y=>PySem.W.kIn_of Y) ?F
  case F =>
    intro w mg fa h KX G hmg
    refine' My.all_mk KX G hmg ?a0 ?l0 ?c0 ?k0 ?a1 ?l1 ?c1 ?k1 ?a2 ?l2 ?c2 ?k2 ?a3 ?l3 ?c3 ?k3 ?a4 ?l4 ?c4 ?k4 ?a5 ?l5 ?c5 ?k5 ?a6 ?l6 ?c6 ?k6 ?a7 ?l7 ?c7 ?k7 ?a8 ?l8 ?c8 ?k8 ?a9 ?l9 ?c9 ?k9 ?a10 ?l10 ?c10 ?k10 ?a11 ?l11 ?c11 ?k11 ?a12 ?l12 ?c12 ?k12 ?a13 ?l13 ?c13 ?k13 ?a14 ?l14 ?c14 ?k14 ?a15 ?l15 ?c15 ?k15 ?a16 ?l16 ?c16 ?k16 ?a17 ?l17 ?c17 ?k17 ?a18 ?l18 ?c18 ?k18 ?a19 ?l19 ?c19 ?k19 ?a20 ?l20 ?c20 ?k20 ?a21 ?l21 ?c21 ?k21 ?a22 ?l22 ?c22 ?k22 ?e0 ?e1 ?e2 ?e3 ?e4 ?e5 ?e6 ?e7 ?e8 ?n_Book ?ka_Book ?kb_Book ?kc_Book ?kd_Book ?ke_Book ?kf_Book ?kn_Book_below ?kn_Book_day ?kn_Book_licences ?kn_Book_names ?kn_Book_done ?kn_Book_dug ?kn_Book_keeps ?kn_Book_ran ?kn_Book_last ?kn_Book_greatest ?ma_Book___init__ ?mf_Book___init__ ?mk_Book___init__ ?ml_Book___init__ ?mc_Book___init__ ?ma_Book_pond ?mf_Book_pond ?mk_Book_pond ?ml_Book_pond ?mc_Book_pond ?mt_Book_pond ?mu_Book_pond ?ma_Book_ponds ?mf_Book_ponds ?mk_Book_ponds ?ml_Book_ponds ?mc_Book_ponds ?ma_Book_kept ?mf_Book_kept ?mk_Book_kept ?ml_Book_kept ?mc_Book_kept ?ma_Book_has_pond ?mf_Book_has_pond ?mk_Book_has_pond ?ml_Book_has_pond ?mc_Book_has_pond ?n_Roll ?ma_Roll___init__ ?mf_Roll___init__ ?mk_Roll___init__ ?ml_Roll___init__ ?mc_Roll___init__ ?ma_Roll_today ?mf_Roll_today ?mk_Roll_today ?ml_Roll_today ?mc_Roll_today ?ma_Roll_roll ?mf_Roll_roll ?mk_Roll_roll ?ml_Roll_roll ?mc_Roll_roll ?ma_Roll_holders ?mf_Roll_holders ?mk_Roll_holders ?ml_Roll_holders ?mc_Roll_holders ?ma_Roll_deeds ?mf_Roll_deeds ?mk_Roll_deeds ?ml_Roll_deeds ?mc_Roll_deeds ?ma_Roll_file ?mf_Roll_file ?mk_Roll_file ?ml_Roll_file ?mc_Roll_file ?mt_Roll_file ?mu_Roll_file ?ma_Roll_sell ?mf_Roll_sell ?mk_Roll_sell ?ml_Roll_sell ?mc_Roll_sell ?ma_Roll_enter ?mf_Roll_enter ?mk_Roll_enter ?ml_Roll_enter ?mc_Roll_enter ?ma_Roll_look_at_number ?mf_Roll_look_at_number ?mk_Roll_look_at_number ?ml_Roll_look_at_number ?mc_Roll_look_at_number ?ma_Roll_look_at_holder ?mf_Roll_look_at_holder ?mk_Roll_look_at_holder ?ml_Roll_look_at_holder ?mc_Roll_look_at_holder ?ma_Roll_look_at_room ?mf_Roll_look_at_room ?mk_Roll_look_at_room ?ml_Roll_look_at_room ?mc_Roll_look_at_room ?fa_Roll ?fb_Roll ?fc_Roll ?z_len ?z_range ?z_list ?z_isinstance ?z_bool ?z_int ?z_all ?z_min ?z_max ?z_sum ?z_sorted ?z_zip ?z_tuple ?z_str ?z_any ?z_enumerate ?z_reversed ?z_abs ?z_ValueError ?z_set ?n_SluiceError ?q_SluiceError ?xa_SluiceError ?xb_SluiceError ?xc_SluiceError ?xd_SluiceError ?xe_SluiceError ?xf_SluiceError ?xg_SluiceError ?xh_SluiceError ?n_NoRiver ?q_NoRiver ?xa_NoRiver ?xb_NoRiver ?xc_NoRiver ?xd_NoRiver ?xe_NoRiver ?xf_NoRiver ?xg_NoRiver ?xh_NoRiver ?n_NoLicence ?q_NoLicence ?xa_NoLicence ?xb_NoLicence ?xc_NoLicence ?xd_NoLicence ?xe_NoLicence ?xf_NoLicence ?xg_NoLicence ?xh_NoLicence ?n_NoNumber ?q_NoNumber ?xa_NoNumber ?xb_NoNumber ?xc_NoNumber ?xd_NoNumber ?xe_NoNumber ?xf_NoNumber ?xg_NoNumber ?xh_NoNumber ?n_NoHolder ?q_NoHolder ?xa_NoHolder ?xb_NoHolder ?xc_NoHolder ?xd_NoHolder ?xe_NoHolder ?xf_NoHolder ?xg_NoHolder ?xh_NoHolder ?n_NotYours ?q_NotYours ?xa_NotYours ?xb_NotYours ?xc_NotYours ?xd_NotYours ?xe_NotYours ?xf_NotYours ?xg_NotYours ?xh_NotYours ?n_TooMuch ?q_TooMuch ?xa_TooMuch ?xb_TooMuch ?xc_TooMuch ?xd_TooMuch ?xe_TooMuch ?xf_TooMuch ?xg_TooMuch ?xh_TooMuch ?n_Full ?q_Full ?xa_Full ?xb_Full ?xc_Full ?xd_Full ?xe_Full ?xf_Full ?xg_Full ?xh_Full ?n_NoPond ?q_NoPond ?xa_NoPond ?xb_NoPond ?xc_NoPond ?xd_NoPond ?xe_NoPond ?xf_NoPond ?xg_NoPond ?xh_NoPond ?m_NoNumber_SluiceError ?m_NotYours_SluiceError ?m_NoPond_SluiceError ?i_NoNumber_ValueError ?i_NotYours_ValueError ?i_NoPond_ValueError ?m_kall
    (case a0=>k_is)
    (case l0=>k_is)
    (case c0=>k_is)
    (case k0=>k_is)
    (case a1=>k_is)
    (case l1=>k_is)
    (case c1=>k_is)
    (case k1=>k_is)
    (case a2=>k_is)
    (case l2=>k_is)
    (case c2=>k_is)
    (case k2=>k_is)
    (case a3=>k_is)
    (case l3=>k_is)
    (case c3=>k_is)
    (case k3=>k_is)
    (case a4=>k_is)
    (case l4=>k_is)
    (case c4=>k_is)
    (case k4=>k_is)
    (case a5=>k_is)
    (case l5=>k_is)
    (case c5=>k_is)
    (case k5=>k_is)
    (case a6=>k_is)
    (case l6=>k_is)
    (case c6=>k_is)
    (case k6=>k_is)
    (case a7=>k_is)
    (case l7=>k_is)
    (case c7=>k_is)
    (case k7=>k_is)
    (case a8=>k_is)
    (case l8=>k_is)
    (case c8=>k_is)
    (case k8=>k_is)
    (case a9=>k_is)
    (case l9=>k_is)
    (case c9=>k_is)
    (case k9=>k_is)
    (case a10=>k_is)
    (case l10=>k_is)
    (case c10=>k_is)
    (case k10=>k_is)
    (case a11=>k_is)
    (case l11=>k_is)
    (case c11=>k_is)
    (case k11=>k_is)
    (case a12=>k_is)
    (case l12=>k_is)
    (case c12=>k_is)
    (case k12=>k_is)
    (case a13=>k_is)
    (case l13=>k_is)
    (case c13=>k_is)
    (case k13=>k_is)
    (case a14=>k_is)
    (case l14=>k_is)
    (case c14=>k_is)
    (case k14=>k_is)
    (case a15=>k_is)
    (case l15=>k_is)
    (case c15=>k_is)
    (case k15=>k_is)
    (case a16=>k_is)
    (case l16=>k_is)
    (case c16=>k_is)
    (case k16=>k_is)
    (case a17=>k_is)
    (case l17=>k_is)
    (case c17=>k_is)
    (case k17=>k_is)
    (case a18=>k_is)
    (case l18=>k_is)
    (case c18=>k_is)
    (case k18=>k_is)
    (case a19=>k_is)
    (case l19=>k_is)
    (case c19=>k_is)
    (case k19=>k_is)
    (case a20=>k_is)
    (case l20=>k_is)
    (case c20=>k_is)
    (case k20=>k_is)
    (case a21=>k_is)
    (case l21=>k_is)
    (case c21=>k_is)
    (case k21=>k_is)
    (case a22=>k_is)
    (case l22=>k_is)
    (case c22=>k_is)
    (case k22=>k_is)
    (case e0=>k_is)
    (case e1=>k_is)
    (case e2=>k_is)
    (case e3=>k_is)
    (case e4=>k_is)
    (case e5=>k_is)
    (case e6=>k_is)
    (case e7=>k_is)
    (case e8=>k_is)
    (case n_Book=>k_is)
    (case ka_Book=>(first | k_is | kernel_rfl | rfl))
    (case kb_Book=>(first | k_is | kernel_rfl | rfl))
    (case kc_Book=>(first | k_is | kernel_rfl | rfl))
    (case kd_Book=>(first | k_is | kernel_rfl | rfl))
    (case ke_Book=>(first | k_is | kernel_rfl | rfl))
    (case kf_Book=>(first | k_is | kernel_rfl | rfl))
    (case kn_Book_below=>(first | k_is | kernel_rfl | rfl))
    (case kn_Book_day=>(first | k_is | kernel_rfl | rfl))
    (case kn_Book_licences=>(first | k_is | kernel_rfl | rfl))
    (case kn_Book_names=>(first | k_is | kernel_rfl | rfl))
    (case kn_Book_done=>(first | k_is | kernel_rfl | rfl))
    (case kn_Book_dug=>(first | k_is | kernel_rfl | rfl))
    (case kn_Book_keeps=>(first | k_is | kernel_rfl | rfl))
    (case kn_Book_ran=>(first | k_is | kernel_rfl | rfl))
    (case kn_Book_last=>(first | k_is | kernel_rfl | rfl))
    (case kn_Book_greatest=>(first | k_is | kernel_rfl | rfl))
    (case ma_Book___init__=>k_is)
    (case mf_Book___init__=>(first | k_is | kernel_rfl | rfl))
    (case mk_Book___init__=>k_is)
    (case ml_Book___init__=>k_is)
    (case mc_Book___init__=>k_is)
    (case ma_Book_pond=>k_is)
    (case mf_Book_pond=>(first | k_is | kernel_rfl | rfl))
    (case mk_Book_pond=>k_is)
    (case ml_Book_pond=>k_is)
    (case mc_Book_pond=>k_is)
    (case mt_Book_pond=>k_is)
    (case mu_Book_pond=>exact ⟨_,_,rfl⟩)
    (case ma_Book_ponds=>k_is)
    (case mf_Book_ponds=>(first | k_is | kernel_rfl | rfl))
    (case mk_Book_ponds=>k_is)
    (case ml_Book_ponds=>k_is)
    (case mc_Book_ponds=>k_is)
    (case ma_Book_kept=>k_is)
    (case mf_Book_kept=>(first | k_is | kernel_rfl | rfl))
    (case mk_Book_kept=>k_is)
    (case ml_Book_kept=>k_is)
    (case mc_Book_kept=>k_is)
    (case ma_Book_has_pond=>k_is)
    (case mf_Book_has_pond=>(first | k_is | kernel_rfl | rfl))
    (case mk_Book_has_pond=>k_is)
    (case ml_Book_has_pond=>k_is)
    (case mc_Book_has_pond=>k_is)
    (case n_Roll=>k_is)
    (case ma_Roll___init__=>k_is)
    (case mf_Roll___init__=>(first | k_is | kernel_rfl | rfl))
    (case mk_Roll___init__=>k_is)
    (case ml_Roll___init__=>k_is)
    (case mc_Roll___init__=>k_is)
    (case ma_Roll_today=>k_is)
    (case mf_Roll_today=>(first | k_is | kernel_rfl | rfl))
    (case mk_Roll_today=>k_is)
    (case ml_Roll_today=>k_is)
    (case mc_Roll_today=>k_is)
    (case ma_Roll_roll=>k_is)
    (case mf_Roll_roll=>(first | k_is | kernel_rfl | rfl))
    (case mk_Roll_roll=>k_is)
    (case ml_Roll_roll=>k_is)
    (case mc_Roll_roll=>k_is)
    (case ma_Roll_holders=>k_is)
    (case mf_Roll_holders=>(first | k_is | kernel_rfl | rfl))
    (case mk_Roll_holders=>k_is)
    (case ml_Roll_holders=>k_is)
    (case mc_Roll_holders=>k_is)
    (case ma_Roll_deeds=>k_is)
    (case mf_Roll_deeds=>(first | k_is | kernel_rfl | rfl))
    (case mk_Roll_deeds=>k_is)
    (case ml_Roll_deeds=>k_is)
    (case mc_Roll_deeds=>k_is)
    (case ma_Roll_file=>k_is)
    (case mf_Roll_file=>(first | k_is | kernel_rfl | rfl))
    (case mk_Roll_file=>k_is)
    (case ml_Roll_file=>k_is)
    (case mc_Roll_file=>k_is)
    (case mt_Roll_file=>k_is)
    (case mu_Roll_file=>exact ⟨_,rfl⟩)
    (case ma_Roll_sell=>k_is)
    (case mf_Roll_sell=>(first | k_is | kernel_rfl | rfl))
    (case mk_Roll_sell=>k_is)
    (case ml_Roll_sell=>k_is)
    (case mc_Roll_sell=>k_is)
    (case ma_Roll_enter=>k_is)
    (case mf_Roll_enter=>(first | k_is | kernel_rfl | rfl))
    (case mk_Roll_enter=>k_is)
    (case ml_Roll_enter=>k_is)
    (case mc_Roll_enter=>k_is)
    (case ma_Roll_look_at_number=>k_is)
    (case mf_Roll_look_at_number=>(first | k_is | kernel_rfl | rfl))
    (case mk_Roll_look_at_number=>k_is)
    (case ml_Roll_look_at_number=>k_is)
    (case mc_Roll_look_at_number=>k_is)
    (case ma_Roll_look_at_holder=>k_is)
    (case mf_Roll_look_at_holder=>(first | k_is | kernel_rfl | rfl))
    (case mk_Roll_look_at_holder=>k_is)
    (case ml_Roll_look_at_holder=>k_is)
    (case mc_Roll_look_at_holder=>k_is)
    (case ma_Roll_look_at_room=>k_is)
    (case mf_Roll_look_at_room=>(first | k_is | kernel_rfl | rfl))
    (case mk_Roll_look_at_room=>k_is)
    (case ml_Roll_look_at_room=>k_is)
    (case mc_Roll_look_at_room=>k_is)
    (case fa_Roll=>(first | k_is | kernel_rfl | rfl))
    (case fb_Roll=>(first | k_is | kernel_rfl | rfl))
    (case fc_Roll=>(first | k_is | kernel_rfl | rfl))
    (case z_len=>k_is)
    (case z_range=>k_is)
    (case z_list=>k_is)
    (case z_isinstance=>k_is)
    (case z_bool=>k_is)
    (case z_int=>k_is)
    (case z_all=>k_is)
    (case z_min=>k_is)
    (case z_max=>k_is)
    (case z_sum=>k_is)
    (case z_sorted=>k_is)
    (case z_zip=>k_is)
    (case z_tuple=>k_is)
    (case z_str=>k_is)
    (case z_any=>k_is)
    (case z_enumerate=>k_is)
    (case z_reversed=>k_is)
    (case z_abs=>k_is)
    (case z_ValueError=>k_is)
    (case z_set=>k_is)
    (case n_SluiceError=>k_is)
    (case q_SluiceError=>(first | k_is | kernel_rfl))
    (case xa_SluiceError=>(first | k_is | kernel_rfl))
    (case xb_SluiceError=>(first | k_is | kernel_rfl))
    (case xc_SluiceError=>(first | k_is | kernel_rfl))
    (case xd_SluiceError=>(first | k_is | kernel_rfl))
    (case xe_SluiceError=>(first | k_is | kernel_rfl))
    (case xf_SluiceError=>(first | k_is | kernel_rfl))
    (case xg_SluiceError=>(first | k_is | kernel_rfl))
    (case xh_SluiceError=>(first | k_is | kernel_rfl))
    (case n_NoRiver=>k_is)
    (case q_NoRiver=>(first | k_is | kernel_rfl))
    (case xa_NoRiver=>(first | k_is | kernel_rfl))
    (case xb_NoRiver=>(first | k_is | kernel_rfl))
    (case xc_NoRiver=>(first | k_is | kernel_rfl))
    (case xd_NoRiver=>(first | k_is | kernel_rfl))
    (case xe_NoRiver=>(first | k_is | kernel_rfl))
    (case xf_NoRiver=>(first | k_is | kernel_rfl))
    (case xg_NoRiver=>(first | k_is | kernel_rfl))
    (case xh_NoRiver=>(first | k_is | kernel_rfl))
    (case n_NoLicence=>k_is)
    (case q_NoLicence=>(first | k_is | kernel_rfl))
    (case xa_NoLicence=>(first | k_is | kernel_rfl))
    (case xb_NoLicence=>(first | k_is | kernel_rfl))
    (case xc_NoLicence=>(first | k_is | kernel_rfl))
    (case xd_NoLicence=>(first | k_is | kernel_rfl))
    (case xe_NoLicence=>(first | k_is | kernel_rfl))
    (case xf_NoLicence=>(first | k_is | kernel_rfl))
    (case xg_NoLicence=>(first | k_is | kernel_rfl))
    (case xh_NoLicence=>(first | k_is | kernel_rfl))
    (case n_NoNumber=>k_is)
    (case q_NoNumber=>(first | k_is | kernel_rfl))
    (case xa_NoNumber=>(first | k_is | kernel_rfl))
    (case xb_NoNumber=>(first | k_is | kernel_rfl))
    (case xc_NoNumber=>(first | k_is | kernel_rfl))
    (case xd_NoNumber=>(first | k_is | kernel_rfl))
    (case xe_NoNumber=>(first | k_is | kernel_rfl))
    (case xf_NoNumber=>(first | k_is | kernel_rfl))
    (case xg_NoNumber=>(first | k_is | kernel_rfl))
    (case xh_NoNumber=>(first | k_is | kernel_rfl))
    (case n_NoHolder=>k_is)
    (case q_NoHolder=>(first | k_is | kernel_rfl))
    (case xa_NoHolder=>(first | k_is | kernel_rfl))
    (case xb_NoHolder=>(first | k_is | kernel_rfl))
    (case xc_NoHolder=>(first | k_is | kernel_rfl))
    (case xd_NoHolder=>(first | k_is | kernel_rfl))
    (case xe_NoHolder=>(first | k_is | kernel_rfl))
    (case xf_NoHolder=>(first | k_is | kernel_rfl))
    (case xg_NoHolder=>(first | k_is | kernel_rfl))
    (case xh_NoHolder=>(first | k_is | kernel_rfl))
    (case n_NotYours=>k_is)
    (case q_NotYours=>(first | k_is | kernel_rfl))
    (case xa_NotYours=>(first | k_is | kernel_rfl))
    (case xb_NotYours=>(first | k_is | kernel_rfl))
    (case xc_NotYours=>(first | k_is | kernel_rfl))
    (case xd_NotYours=>(first | k_is | kernel_rfl))
    (case xe_NotYours=>(first | k_is | kernel_rfl))
    (case xf_NotYours=>(first | k_is | kernel_rfl))
    (case xg_NotYours=>(first | k_is | kernel_rfl))
    (case xh_NotYours=>(first | k_is | kernel_rfl))
    (case n_TooMuch=>k_is)
    (case q_TooMuch=>(first | k_is | kernel_rfl))
    (case xa_TooMuch=>(first | k_is | kernel_rfl))
    (case xb_TooMuch=>(first | k_is | kernel_rfl))
    (case xc_TooMuch=>(first | k_is | kernel_rfl))
    (case xd_TooMuch=>(first | k_is | kernel_rfl))
    (case xe_TooMuch=>(first | k_is | kernel_rfl))
    (case xf_TooMuch=>(first | k_is | kernel_rfl))
    (case xg_TooMuch=>(first | k_is | kernel_rfl))
    (case xh_TooMuch=>(first | k_is | kernel_rfl))
    (case n_Full=>k_is)
    (case q_Full=>(first | k_is | kernel_rfl))
    (case xa_Full=>(first | k_is | kernel_rfl))
    (case xb_Full=>(first | k_is | kernel_rfl))
    (case xc_Full=>(first | k_is | kernel_rfl))
    (case xd_Full=>(first | k_is | kernel_rfl))
    (case xe_Full=>(first | k_is | kernel_rfl))
    (case xf_Full=>(first | k_is | kernel_rfl))
    (case xg_Full=>(first | k_is | kernel_rfl))
    (case xh_Full=>(first | k_is | kernel_rfl))
    (case n_NoPond=>k_is)
    (case q_NoPond=>(first | k_is | kernel_rfl))
    (case xa_NoPond=>(first | k_is | kernel_rfl))
    (case xb_NoPond=>(first | k_is | kernel_rfl))
    (case xc_NoPond=>(first | k_is | kernel_rfl))
    (case xd_NoPond=>(first | k_is | kernel_rfl))
    (case xe_NoPond=>(first | k_is | kernel_rfl))
    (case xf_NoPond=>(first | k_is | kernel_rfl))
    (case xg_NoPond=>(first | k_is | kernel_rfl))
    (case xh_NoPond=>(first | k_is | kernel_rfl))
    (case m_NoNumber_SluiceError=>(first | k_is | kernel_rfl))
    (case m_NotYours_SluiceError=>(first | k_is | kernel_rfl))
    (case m_NoPond_SluiceError=>(first | k_is | kernel_rfl))
    (case i_NoNumber_ValueError=>(first | k_is | kernel_rfl))
    (case i_NotYours_ValueError=>(first | k_is | kernel_rfl))
    (case i_NoPond_ValueError=>(first | k_is | kernel_rfl))
    (case m_kall=>(first | k_is | kernel_rfl))
