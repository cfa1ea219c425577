import PyProof.Rows.All
import Wide.All
import OpenK.AllK
import Wide.FinOn
import Lean
import PyProof.EqAt
import PyProof.EqKinds
import PyProof.TupleCall
import KE.KSortTup
import PySem.Challenge.RW_sluice_k34_whole_no_takes_more
set_option Elab.async false
set_option linter.all false
set_option maxRecDepth 100000
set_option maxHeartbeats 4000000
local macro_rules | `(tactic| omega) => `(tactic| first | lia | omega (splitDisjunctions := true))
namespace L2
open PySem
def aC (s:Stmt):Arguments:=match s with
  | .FunctionDef _ a _ _ _ _ _ _ _ _=>a
  | _=>{ posonlyargs:=[],args:=[],vararg:=none,kwonlyargs:=[],kw_defaults:=[],kwarg:=none,defaults:=[] }
def aB (s:Stmt):List Stmt:=match s with
  | .FunctionDef _ _ b _ _ _ _ _ _ _=>b
  | _=>[]
def ao (s:Stmt):Scope:=match s with
  | .FunctionDef _ _ _ _ _ _ sc _ _ _=>sc
  | _=>{ kind:=.function,names:=[],isGenerator:=false,isCoroutine:=false }
end L2
namespace My
open PySem L2
noncomputable def top0 (i:Nat):Stmt:=PySem.Challenge.pw_sluice_k34_whole_no_takes_more.main.body.getD i (.Pass ⟨0,0,0,0⟩)
noncomputable def en (P:Params) (x:Str) (t:Tok) (v:Value):DictEntry:=⟨PyData.keyHash P x,.str x t,v⟩
noncomputable section
def tq (a:Array Value):Obj:={ cls:=.type "tuple",data:=.seq a }
def fc (a:Array Value):Obj:={ cls:=.type "code",data:=.fields a }
def cp (n:Nat):Value:=.str "/claim/cut.py" n
def pr0 (x:Str) (i:Nat):Obj:={ cls:=.none,data:=.func { name:=x,qualname:=x,params:=aC (top0 i),body:=.stmts (aB (top0 i)),scope:=ao (top0 i),globals:=0,closure:=[],defaults:=.none,kwdefaults:=.none } }
def Vh (P:Params):Obj:={ cls:=.type "dict",data:=Data.dict #[en P "__name__" 1 (.str "builtins" 160),en P "__doc__" 2 (.builtin "builtins.__doc__:str#opaque"),en P "__package__" 3 (.builtin "builtins.__package__:str#opaque"),en P "__loader__" 4 (.builtin "builtins.__loader__:shared#opaque"),en P "__spec__" 5 (.builtin "builtins.__spec__#opaque"),en P "__build_class__" 6 (.builtin "__build_class__"),en P "__import__" 7 (.builtin "__import__"),en P "abs" 8 (.builtin "abs"),en P "all" 9 (.builtin "all"),en P "any" 10 (.builtin "any"),en P "ascii" 11 (.builtin "ascii"),en P "bin" 12 (.builtin "bin"),en P "breakpoint" 13 (.builtin "breakpoint"),en P "callable" 14 (.builtin "callable"),en P "chr" 15 (.builtin "chr"),en P "compile" 16 (.builtin "compile"),en P "delattr" 17 (.builtin "delattr"),en P "dir" 18 (.builtin "dir"),en P "divmod" 19 (.builtin "divmod"),en P "eval" 20 (.builtin "eval"),en P "exec" 21 (.builtin "exec"),en P "format" 22 (.builtin "format"),en P "getattr" 23 (.builtin "getattr"),en P "globals" 24 (.builtin "globals"),en P "hasattr" 25 (.builtin "hasattr"),en P "hash" 26 (.builtin "hash"),en P "hex" 27 (.builtin "hex"),en P "id" 28 (.builtin "id"),en P "input" 29 (.builtin "input"),en P "isinstance" 30 (.builtin "isinstance"),en P "issubclass" 31 (.builtin "issubclass"),en P "iter" 32 (.builtin "iter"),en P "aiter" 33 (.builtin "aiter"),en P "len" 34 (.builtin "len"),en P "locals" 35 (.builtin "locals"),en P "max" 36 (.builtin "max"),en P "min" 37 (.builtin "min"),en P "next" 38 (.builtin "next"),en P "anext" 39 (.builtin "anext"),en P "oct" 40 (.builtin "oct"),en P "ord" 41 (.builtin "ord"),en P "pow" 42 (.builtin "pow"),en P "print" 43 (.builtin "print"),en P "repr" 44 (.builtin "repr"),en P "round" 45 (.builtin "round"),en P "setattr" 46 (.builtin "setattr"),en P "sorted" 47 (.builtin "sorted"),en P "sum" 48 (.builtin "sum"),en P "vars" 49 (.builtin "vars"),en P "None" 50 .none,en P "Ellipsis" 51 .ellipsis,en P "NotImplemented" 52 .notImplemented,en P "False" 53 (.bool false),en P "True" 54 (.bool true),en P "bool" 55 (.type "bool"),en P "memoryview" 56 (.type "memoryview"),en P "bytearray" 57 (.type "bytearray"),en P "bytes" 58 (.type "bytes"),en P "classmethod" 59 (.type "classmethod"),en P "complex" 60 (.type "complex"),en P "dict" 61 (.type "dict"),en P "enumerate" 62 (.type "enumerate"),en P "filter" 63 (.type "filter"),en P "float" 64 (.type "float"),en P "frozenset" 65 (.type "frozenset"),en P "property" 66 (.type "property"),en P "int" 67 (.type "int"),en P "list" 68 (.type "list"),en P "map" 69 (.type "map"),en P "object" 70 (.type "object"),en P "range" 71 (.type "range"),en P "reversed" 72 (.type "reversed"),en P "set" 73 (.type "set"),en P "slice" 74 (.type "slice"),en P "staticmethod" 75 (.type "staticmethod"),en P "str" 76 (.type "str"),en P "super" 77 (.type "super"),en P "tuple" 78 (.type "tuple"),en P "type" 79 (.type "type"),en P "zip" 80 (.type "zip"),en P "__debug__" 81 (.bool true),en P "BaseException" 82 (.type "BaseException"),en P "BaseExceptionGroup" 83 (.type "BaseExceptionGroup"),en P "Exception" 84 (.type "Exception"),en P "GeneratorExit" 85 (.type "GeneratorExit"),en P "KeyboardInterrupt" 86 (.type "KeyboardInterrupt"),en P "SystemExit" 87 (.type "SystemExit"),en P "ArithmeticError" 88 (.type "ArithmeticError"),en P "AssertionError" 89 (.type "AssertionError"),en P "AttributeError" 90 (.type "AttributeError"),en P "BufferError" 91 (.type "BufferError"),en P "EOFError" 92 (.type "EOFError"),en P "ImportError" 93 (.type "ImportError"),en P "LookupError" 94 (.type "LookupError"),en P "MemoryError" 95 (.type "MemoryError"),en P "NameError" 96 (.type "NameError"),en P "OSError" 97 (.type "OSError"),en P "ReferenceError" 98 (.type "ReferenceError"),en P "RuntimeError" 99 (.type "RuntimeError"),en P "StopAsyncIteration" 100 (.type "StopAsyncIteration"),en P "StopIteration" 101 (.type "StopIteration"),en P "SyntaxError" 102 (.type "SyntaxError"),en P "SystemError" 103 (.type "SystemError"),en P "TypeError" 104 (.type "TypeError"),en P "ValueError" 105 (.type "ValueError"),en P "Warning" 106 (.type "Warning"),en P "FloatingPointError" 107 (.type "FloatingPointError"),en P "OverflowError" 108 (.type "OverflowError"),en P "ZeroDivisionError" 109 (.type "ZeroDivisionError"),en P "BytesWarning" 110 (.type "BytesWarning"),en P "DeprecationWarning" 111 (.type "DeprecationWarning"),en P "EncodingWarning" 112 (.type "EncodingWarning"),en P "FutureWarning" 113 (.type "FutureWarning"),en P "ImportWarning" 114 (.type "ImportWarning"),en P "PendingDeprecationWarning" 115 (.type "PendingDeprecationWarning"),en P "ResourceWarning" 116 (.type "ResourceWarning"),en P "RuntimeWarning" 117 (.type "RuntimeWarning"),en P "SyntaxWarning" 118 (.type "SyntaxWarning"),en P "UnicodeWarning" 119 (.type "UnicodeWarning"),en P "UserWarning" 120 (.type "UserWarning"),en P "BlockingIOError" 121 (.type "BlockingIOError"),en P "ChildProcessError" 122 (.type "ChildProcessError"),en P "ConnectionError" 123 (.type "ConnectionError"),en P "FileExistsError" 124 (.type "FileExistsError"),en P "FileNotFoundError" 125 (.type "FileNotFoundError"),en P "InterruptedError" 126 (.type "InterruptedError"),en P "IsADirectoryError" 127 (.type "IsADirectoryError"),en P "NotADirectoryError" 128 (.type "NotADirectoryError"),en P "PermissionError" 129 (.type "PermissionError"),en P "ProcessLookupError" 130 (.type "ProcessLookupError"),en P "TimeoutError" 131 (.type "TimeoutError"),en P "IndentationError" 132 (.type "IndentationError"),en P "_IncompleteInputError" 133 (.type "_IncompleteInputError"),en P "IndexError" 134 (.type "IndexError"),en P "KeyError" 135 (.type "KeyError"),en P "ModuleNotFoundError" 136 (.type "ModuleNotFoundError"),en P "NotImplementedError" 137 (.type "NotImplementedError"),en P "PythonFinalizationError" 138 (.type "PythonFinalizationError"),en P "RecursionError" 139 (.type "RecursionError"),en P "UnboundLocalError" 140 (.type "UnboundLocalError"),en P "UnicodeError" 141 (.type "UnicodeError"),en P "BrokenPipeError" 142 (.type "BrokenPipeError"),en P "ConnectionAbortedError" 143 (.type "ConnectionAbortedError"),en P "ConnectionRefusedError" 144 (.type "ConnectionRefusedError"),en P "ConnectionResetError" 145 (.type "ConnectionResetError"),en P "TabError" 146 (.type "TabError"),en P "UnicodeDecodeError" 147 (.type "UnicodeDecodeError"),en P "UnicodeEncodeError" 148 (.type "UnicodeEncodeError"),en P "UnicodeTranslateError" 149 (.type "UnicodeTranslateError"),en P "ExceptionGroup" 150 (.type "ExceptionGroup"),en P "EnvironmentError" 151 (.type "OSError"),en P "IOError" 152 (.type "OSError"),en P "open" 153 (.builtin "open"),en P "quit" 154 (.builtin "builtins.quit#opaque"),en P "exit" 155 (.builtin "builtins.exit#opaque"),en P "copyright" 156 (.builtin "builtins.copyright#opaque"),en P "credits" 157 (.builtin "builtins.credits#opaque"),en P "license" 158 (.builtin "builtins.license#opaque"),en P "help" 159 (.builtin "builtins.help#opaque")] 159 }
def Vg (P:Params):Obj:={ cls:=.type "dict",data:=Data.dict #[en P "builtins" 162 (.ref 4),en P "__main__" 163 (.ref 5)] 2 }
def Ub (P:Params):Obj:={ cls:=.none,data:=Data.dict #[] }
def ho_4 (P:Params):Obj:={ cls:=.type "dict",data:=Data.dict #[en P "__name__" 165 (.str "__main__" 164),en P "__doc__" 166 .none,en P "__package__" 167 .none,en P "__loader__" 168 (.builtin "__main__.__loader__#opaque"),en P "__spec__" 169 .none,en P "__annotations__" 170 (.ref 6),en P "__builtins__" 171 (.ref 4),en P "__file__" 173 (cp 172),en P "__cached__" 174 .none] 9 }
def Vf (P:Params):Obj:={ cls:=.type "module",dict:=some 0 }
def Ve (P:Params):Obj:={ cls:=.type "module",dict:=some 3 }
def Vd (P:Params):Obj:={ cls:=.type "dict",data:=Data.dict #[] }
def Vc (P:Params):Obj:=(tq #[])
def Vb (P:Params):Obj:={ cls:=.none,data:=Data.fields #[] }
def Q5 (P:Params):Obj:=(fc #[.str "<module>" 176,.str "<module>" 177,cp 178,.int 1 0,.int 0 0,.int 0 0,.int 0 0,.int 0 0,.ref 7,.bool false,.int 175 0,.ref 8,.none,.none,.none,.none,.int 179 0,.int 1 0,cp 180])
def QW (P:Params):Obj:={ cls:=.type "frame",slots:=#[some (.ref 9),some (.ref 3),some (.ref 3),none,some (.str "__main__" 164),none,some (.ref 0)] }
def QJ (P:Params):Obj:={ cls:=.type "dict",data:=Data.dict #[en P "__name__" 165 (.str "law_sluice_k34_whole_no_takes_more" 449),en P "__doc__" 166 .none,en P "__package__" 167 .none,en P "__loader__" 168 (.builtin "__main__.__loader__#opaque"),en P "__spec__" 169 .none,en P "__annotations__" 170 (.ref 6),en P "__builtins__" 171 (.ref 4),en P "__file__" 173 (cp 172),en P "__cached__" 174 .none,en P "SluiceError" 206 (.ref 24),en P "NoReach" 222 (.ref 37),en P "NoCut" 238 (.ref 49),en P "MOUTH" 243 (.int (-1) 242),en P "way_of" 252 (.ref 58),en P "tops_first" 260 (.ref 65),en P "stretch_of" 270 (.ref 72),en P "natural_of" 282 (.ref 79),en P "reaches_of" 296 (.ref 86),en P "day_filed" 303 (.ref 93),en P "gives_back" 310 (.ref 100),en P "most_of" 317 (.ref 107),en P "ranked" 325 (.ref 114),en P "groups_of" 334 (.ref 121),en P "wants_of" 340 (.ref 126),en P "count_ways" 353 (.ref 133),en P "whole_turns" 359 (.ref 138),en P "draw" 369 (.ref 145),en P "take_whole_turns" 375 (.ref 150),en P "take_one_turn" 381 (.ref 155),en P "deal_turns" 393 (.ref 162),en P "deal" 401 (.ref 167),en P "holds_of" 416 (.ref 174),en P "free_of" 422 (.ref 179),en P "dry_of" 430 (.ref 184),en P "meets" 436 (.ref 189),en P "lowest_of" 442 (.ref 194),en P "cut_of" 448 (.ref 199),en P "_law_cell_at" 458 (.ref 206),en P "_law_whole" 465 (.ref 213),en P "_law_draw" 475 (.ref 220),en P "_law_mixed" 481 (.ref 225),en P "_law_river" 487 (.ref 230),en P "_law_springs" 498 (.ref 237),en P "_law_way" 507 (.ref 244),en P "_law_natural" 519 (.ref 251),en P "_law_drawn" 532 (.ref 258),en P "_law_rival" 538 (.ref 263),en P "law" 544 (.ref 268)] 48 }
def Uo (P:Params):Obj:=(tq #[])
def Um (P:Params):Obj:={ cls:=.none,data:=Data.fields #[.int 2 0,.int 0 0,.ref 20,.int 4 0,.int 0 0,.ref 33,.int 6 0,.int 0 0,.ref 45,.int 10 0,.int 0 0,.ref 57,.int 15 0,.int 0 0,.ref 64,.int 17 0,.int 0 0,.ref 71,.int 25 0,.int 0 0,.ref 78,.int 32 0,.int 0 0,.ref 85,.int 35 0,.int 0 0,.ref 92,.int 37 0,.int 0 0,.ref 99,.int 39 0,.int 0 0,.ref 106,.int 41 0,.int 0 0,.ref 113,.int 43 0,.int 0 0,.ref 120,.int 48 0,.int 0 0,.ref 125,.int 51 0,.int 0 0,.ref 132,.int 57 0,.int 0 0,.ref 137,.int 61 0,.int 0 0,.ref 144,.int 64 0,.int 0 0,.ref 149,.int 70 0,.int 0 0,.ref 154,.int 78 0,.int 0 0,.ref 161,.int 87 0,.int 0 0,.ref 166,.int 98 0,.int 0 0,.ref 173,.int 104 0,.int 0 0,.ref 178,.int 108 0,.int 0 0,.ref 183,.int 110 0,.int 0 0,.ref 188,.int 112 0,.int 0 0,.ref 193,.int 114 0,.int 0 0,.ref 198,.int 125 0,.int 0 0,.ref 205,.int 129 0,.int 0 0,.ref 212,.int 131 0,.int 0 0,.ref 219,.int 135 0,.int 0 0,.ref 224,.int 137 0,.int 0 0,.ref 229,.int 148 0,.int 0 0,.ref 236,.int 158 0,.int 0 0,.ref 243,.int 164 0,.int 0 0,.ref 250,.int 170 0,.int 0 0,.ref 257,.int 180 0,.int 0 0,.ref 262,.int 195 0,.int 0 0,.ref 267] }
def Ul (P:Params):Obj:=(fc #[.str "<module>" 182,.str "<module>" 183,cp 184,.int 1 0,.int 0 0,.int 0 0,.int 0 0,.int 0 0,.ref 11,.bool false,.int 181 0,.ref 12,.none,.none,.none,.none,.int 185 0,.int 1 0,cp 186])
def Uk (P:Params):Obj:={ cls:=.type "frame",slots:=#[some (.ref 13),some (.ref 3),some (.ref 3),none,some (.str "__main__" 164),none,some (.ref 0)] }
def Qn (P:Params):Obj:=(tq #[.type "ValueError"])
def Uj (P:Params):Obj:={ cls:=.type "builtin_function_or_method",data:=Data.fields #[.builtin "type.__prepare__",.type "type"] }
def Ui (P:Params):Obj:={ cls:=.type "dict",data:=Data.dict #[en P "__module__" 196 (.str "sluice.errors" 187),en P "__qualname__" 198 (.str "SluiceError" 197),en P "__firstlineno__" 200 (.int 2 199),en P "__static_attributes__" 201 (.ref 22)] 4 }
def Uh (P:Params):Obj:=(tq #[])
def Ug (P:Params):Obj:={ cls:=.none,data:=Data.fields #[] }
def Ue (P:Params):Obj:=(fc #[.str "SluiceError" 191,.str "SluiceError" 192,cp 193,.int 2 0,.int 0 0,.int 0 0,.int 0 0,.int 0 0,.ref 18,.bool false,.int 181 0,.ref 19,.none,.none,.none,.none,.int 194 0,.int 2 0,cp 195])
def Ud (P:Params):Obj:={ cls:=.type "frame",slots:=#[some (.ref 20),some (.ref 3),some (.ref 17),none,some (.str "sluice.errors" 187),none,some (.ref 0)] }
def Pk (P:Params):Obj:=(tq #[])
def Pa (P:Params):Obj:={ cls:=.type "dict",data:=Data.dict #[en P "__module__" 196 (.str "sluice.errors" 187),en P "__firstlineno__" 200 (.int 2 199),en P "__static_attributes__" 201 (.ref 22),en P "__weakref__" 203 (.ref 25),en P "__doc__" 204 .none] 3 }
def Ox (P:Params):Obj:={ cls:=.type "type",data:=Data.cls { name:="SluiceError",bases:=[.type "ValueError"],mro:=[.ref 24,.type "ValueError",.type "Exception",.type "BaseException",.type "object"],ns:=23,qualname:="SluiceError",subclasses:=[.ref 37,.ref 49] },slots:=#[some (.ref 15),none,some (.str "SluiceError" 189),some (.str "SluiceError" 197),some (.builtin "ValueError.__new__"),some (.bool true)] }
def Ov (P:Params):Obj:={ cls:=.type "getset_descriptor",data:=Data.fields #[.str "__weakref__" 202,.ref 24,.builtin "ExceptionGroup.__weakref__",.none] }
def Uc (P:Params):Obj:={ cls:=.type "super",data:=Data.fields #[.ref 24,.ref 24,.ref 24] }
def Ua (P:Params):Obj:={ cls:=.type "builtin_function_or_method",data:=Data.fields #[.builtin "object.__init_subclass__",.ref 24] }
def Ou (P:Params):Obj:=(tq #[.ref 24])
def T9 (P:Params):Obj:={ cls:=.type "builtin_function_or_method",data:=Data.fields #[.builtin "type.__prepare__",.type "type"] }
def T8 (P:Params):Obj:={ cls:=.type "dict",data:=Data.dict #[en P "__module__" 214 (.str "sluice.errors" 187),en P "__qualname__" 216 (.str "NoReach" 215),en P "__firstlineno__" 218 (.int 4 217),en P "__static_attributes__" 219 (.ref 35)] 4 }
def T7 (P:Params):Obj:=(tq #[])
def T6 (P:Params):Obj:={ cls:=.none,data:=Data.fields #[] }
def T5 (P:Params):Obj:=(fc #[.str "NoReach" 209,.str "NoReach" 210,cp 211,.int 4 0,.int 0 0,.int 0 0,.int 0 0,.int 0 0,.ref 31,.bool false,.int 181 0,.ref 32,.none,.none,.none,.none,.int 212 0,.int 4 0,cp 213])
def T4 (P:Params):Obj:={ cls:=.type "frame",slots:=#[some (.ref 33),some (.ref 3),some (.ref 30),none,some (.str "sluice.errors" 187),none,some (.ref 0)] }
def Ot (P:Params):Obj:=(tq #[])
def Oq (P:Params):Obj:={ cls:=.type "dict",data:=Data.dict #[en P "__module__" 214 (.str "sluice.errors" 187),en P "__firstlineno__" 218 (.int 4 217),en P "__static_attributes__" 219 (.ref 35),en P "__doc__" 220 .none] 2 }
def Oo (P:Params):Obj:={ cls:=.type "type",data:=Data.cls { name:="NoReach",bases:=[.ref 24],mro:=[.ref 37,.ref 24,.type "ValueError",.type "Exception",.type "BaseException",.type "object"],ns:=36,qualname:="NoReach" },slots:=#[some (.ref 28),none,some (.str "NoReach" 207),some (.str "NoReach" 215),some (.builtin "ValueError.__new__"),some (.bool true)] }
def T3 (P:Params):Obj:={ cls:=.type "super",data:=Data.fields #[.ref 37,.ref 37,.ref 37] }
def TY (P:Params):Obj:={ cls:=.type "builtin_function_or_method",data:=Data.fields #[.builtin "object.__init_subclass__",.ref 37] }
def Om (P:Params):Obj:=(tq #[.ref 24])
def TV (P:Params):Obj:={ cls:=.type "builtin_function_or_method",data:=Data.fields #[.builtin "type.__prepare__",.type "type"] }
def TQ (P:Params):Obj:={ cls:=.type "dict",data:=Data.dict #[en P "__module__" 230 (.str "sluice.errors" 187),en P "__qualname__" 232 (.str "NoCut" 231),en P "__firstlineno__" 234 (.int 6 233),en P "__static_attributes__" 235 (.ref 47)] 4 }
def TJ (P:Params):Obj:=(tq #[])
def TF (P:Params):Obj:={ cls:=.none,data:=Data.fields #[] }
def Tw (P:Params):Obj:=(fc #[.str "NoCut" 225,.str "NoCut" 226,cp 227,.int 6 0,.int 0 0,.int 0 0,.int 0 0,.int 0 0,.ref 43,.bool false,.int 181 0,.ref 44,.none,.none,.none,.none,.int 228 0,.int 6 0,cp 229])
def Tv (P:Params):Obj:={ cls:=.type "frame",slots:=#[some (.ref 45),some (.ref 3),some (.ref 42),none,some (.str "sluice.errors" 187),none,some (.ref 0)] }
def Ol (P:Params):Obj:=(tq #[])
def Oj (P:Params):Obj:={ cls:=.type "dict",data:=Data.dict #[en P "__module__" 230 (.str "sluice.errors" 187),en P "__firstlineno__" 234 (.int 6 233),en P "__static_attributes__" 235 (.ref 47),en P "__doc__" 236 .none] 2 }
def Oi (P:Params):Obj:={ cls:=.type "type",data:=Data.cls { name:="NoCut",bases:=[.ref 24],mro:=[.ref 49,.ref 24,.type "ValueError",.type "Exception",.type "BaseException",.type "object"],ns:=48,qualname:="NoCut" },slots:=#[some (.ref 40),none,some (.str "NoCut" 223),some (.str "NoCut" 231),some (.builtin "ValueError.__new__"),some (.bool true)] }
def Tt (P:Params):Obj:={ cls:=.type "super",data:=Data.fields #[.ref 49,.ref 49,.ref 49] }
def Tr (P:Params):Obj:={ cls:=.type "builtin_function_or_method",data:=Data.fields #[.builtin "object.__init_subclass__",.ref 49] }
def Oh (P:Params):Obj:=(tq #[])
def Tq (P:Params):Obj:={ cls:=.none,data:=Data.fields #[] }
def Og (P:Params):Obj:=(tq #[.str "below" 247,.str "reach" 248,.str "way" 249])
def Oe (P:Params):Obj:=(tq #[])
def Tp (P:Params):Obj:=(pr0 "way_of" 6)
def Od (P:Params):Obj:=(fc #[.str "way_of" 244,.str "way_of" 245,cp 246,.int 10 0,.int 2 0,.int 0 0,.int 0 0,.int 3 0,.ref 52,.bool true,.int 181 0,.ref 53,.none,.ref 54,.ref 55,.ref 56,.int 250 0,.int 10 0,cp 251])
def Oc (P:Params):Obj:=⟨.type "function",none,.func (PySem.W.fnOf "way_of" "way_of" (aC (top0 6)) (aB (top0 6)) (ao (top0 6)) .none .none .none (.str "sluice.rivers" 239) none (.ref 57) .none),#[]⟩
def Ob (P:Params):Obj:=(tq #[])
def Tj (P:Params):Obj:={ cls:=.none,data:=Data.fields #[] }
def Oa (P:Params):Obj:=(tq #[.str "below" 256])
def N8 (P:Params):Obj:=(tq #[.str "below" 257])
def Ti (P:Params):Obj:=(pr0 "tops_first" 7)
def N7 (P:Params):Obj:=(fc #[.str "tops_first" 253,.str "tops_first" 254,cp 255,.int 15 0,.int 1 0,.int 0 0,.int 0 0,.int 3 0,.ref 59,.bool true,.int 181 0,.ref 60,.none,.ref 61,.ref 62,.ref 63,.int 258 0,.int 15 0,cp 259])
def N6 (P:Params):Obj:=⟨.type "function",none,.func (PySem.W.fnOf "tops_first" "tops_first" (aC (top0 7)) (aB (top0 7)) (ao (top0 7)) .none .none .none (.str "sluice.rivers" 239) none (.ref 64) .none),#[]⟩
def N5 (P:Params):Obj:=(tq #[])
def Tg (P:Params):Obj:={ cls:=.none,data:=Data.fields #[] }
def NZ (P:Params):Obj:=(tq #[.str "below" 264,.str "start" 265,.str "stop" 266,.str "way" 267])
def NT (P:Params):Obj:=(tq #[])
def Tf (P:Params):Obj:=(pr0 "stretch_of" 8)
def NQ (P:Params):Obj:=(fc #[.str "stretch_of" 261,.str "stretch_of" 262,cp 263,.int 17 0,.int 3 0,.int 0 0,.int 0 0,.int 3 0,.ref 66,.bool true,.int 181 0,.ref 67,.none,.ref 68,.ref 69,.ref 70,.int 268 0,.int 17 0,cp 269])
def NP (P:Params):Obj:=⟨.type "function",none,.func (PySem.W.fnOf "stretch_of" "stretch_of" (aC (top0 8)) (aB (top0 8)) (ao (top0 8)) .none .none .none (.str "sluice.rivers" 239) none (.ref 71) .none),#[]⟩
def NK (P:Params):Obj:=(tq #[])
def Te (P:Params):Obj:={ cls:=.none,data:=Data.fields #[] }
def Nz (P:Params):Obj:=(tq #[.str "below" 276,.str "springs" 277,.str "flows" 278,.str "reach" 279])
def Ny (P:Params):Obj:=(tq #[])
def Td (P:Params):Obj:=(pr0 "natural_of" 10)
def Nx (P:Params):Obj:=(fc #[.str "natural_of" 273,.str "natural_of" 274,cp 275,.int 25 0,.int 2 0,.int 0 0,.int 0 0,.int 3 0,.ref 73,.bool true,.int 181 0,.ref 74,.none,.ref 75,.ref 76,.ref 77,.int 280 0,.int 25 0,cp 281])
def Nv (P:Params):Obj:=⟨.type "function",none,.func (PySem.W.fnOf "natural_of" "natural_of" (aC (top0 10)) (aB (top0 10)) (ao (top0 10)) .none .none .none (.str "sluice.flows" 271) none (.ref 78) .none),#[]⟩
def Nu (P:Params):Obj:=(tq #[])
def Tc (P:Params):Obj:={ cls:=.none,data:=Data.fields #[] }
def Nt (P:Params):Obj:=(tq #[.str "below" 288,.str "one" 289,.str "day" 290,.str "start" 291,.str "back" 292,.str "most" 293])
def Nr (P:Params):Obj:=(tq #[])
def S9 (P:Params):Obj:=(pr0 "reaches_of" 12)
def Nq (P:Params):Obj:=(fc #[.str "reaches_of" 285,.str "reaches_of" 286,cp 287,.int 32 0,.int 2 0,.int 0 0,.int 0 0,.int 3 0,.ref 80,.bool true,.int 181 0,.ref 81,.none,.ref 82,.ref 83,.ref 84,.int 294 0,.int 32 0,cp 295])
def Np (P:Params):Obj:=⟨.type "function",none,.func (PySem.W.fnOf "reaches_of" "reaches_of" (aC (top0 12)) (aB (top0 12)) (ao (top0 12)) .none .none .none (.str "sluice.licences" 283) none (.ref 85) .none),#[]⟩
def Nm (P:Params):Obj:=(tq #[])
def S8 (P:Params):Obj:={ cls:=.none,data:=Data.fields #[] }
def Nk (P:Params):Obj:=(tq #[.str "one" 300])
def Nj (P:Params):Obj:=(tq #[])
def S7 (P:Params):Obj:=(pr0 "day_filed" 13)
def Ni (P:Params):Obj:=(fc #[.str "day_filed" 297,.str "day_filed" 298,cp 299,.int 35 0,.int 1 0,.int 0 0,.int 0 0,.int 3 0,.ref 87,.bool true,.int 181 0,.ref 88,.none,.ref 89,.ref 90,.ref 91,.int 301 0,.int 35 0,cp 302])
def Nh (P:Params):Obj:=⟨.type "function",none,.func (PySem.W.fnOf "day_filed" "day_filed" (aC (top0 13)) (aB (top0 13)) (ao (top0 13)) .none .none .none (.str "sluice.licences" 283) none (.ref 92) .none),#[]⟩
def Ng (P:Params):Obj:=(tq #[])
def S6 (P:Params):Obj:={ cls:=.none,data:=Data.fields #[] }
def Nf (P:Params):Obj:=(tq #[.str "one" 307])
def JW (P:Params):Obj:=(tq #[])
def Q0 (P:Params):Obj:=(pr0 "gives_back" 14)
def JV (P:Params):Obj:=(fc #[.str "gives_back" 304,.str "gives_back" 305,cp 306,.int 37 0,.int 1 0,.int 0 0,.int 0 0,.int 3 0,.ref 94,.bool true,.int 181 0,.ref 95,.none,.ref 96,.ref 97,.ref 98,.int 308 0,.int 37 0,cp 309])
def JT (P:Params):Obj:=⟨.type "function",none,.func (PySem.W.fnOf "gives_back" "gives_back" (aC (top0 14)) (aB (top0 14)) (ao (top0 14)) .none .none .none (.str "sluice.licences" 283) none (.ref 99) .none),#[]⟩
def JR (P:Params):Obj:=(tq #[])
def QZ (P:Params):Obj:={ cls:=.none,data:=Data.fields #[] }
def JQ (P:Params):Obj:=(tq #[.str "one" 314])
def JN (P:Params):Obj:=(tq #[])
def QX (P:Params):Obj:=(pr0 "most_of" 15)
def JM (P:Params):Obj:=(fc #[.str "most_of" 311,.str "most_of" 312,cp 313,.int 39 0,.int 1 0,.int 0 0,.int 0 0,.int 3 0,.ref 101,.bool true,.int 181 0,.ref 102,.none,.ref 103,.ref 104,.ref 105,.int 315 0,.int 39 0,cp 316])
def JL (P:Params):Obj:=⟨.type "function",none,.func (PySem.W.fnOf "most_of" "most_of" (aC (top0 15)) (aB (top0 15)) (ao (top0 15)) .none .none .none (.str "sluice.licences" 283) none (.ref 106) .none),#[]⟩
def JK (P:Params):Obj:=(tq #[])
def QV (P:Params):Obj:={ cls:=.none,data:=Data.fields #[] }
def JH (P:Params):Obj:=(tq #[.str "roll" 321])
def JG (P:Params):Obj:=(tq #[.str "roll" 322])
def QT (P:Params):Obj:=(pr0 "ranked" 16)
def JF (P:Params):Obj:=(fc #[.str "ranked" 318,.str "ranked" 319,cp 320,.int 41 0,.int 1 0,.int 0 0,.int 0 0,.int 3 0,.ref 108,.bool true,.int 181 0,.ref 109,.none,.ref 110,.ref 111,.ref 112,.int 323 0,.int 41 0,cp 324])
def JD (P:Params):Obj:=⟨.type "function",none,.func (PySem.W.fnOf "ranked" "ranked" (aC (top0 16)) (aB (top0 16)) (ao (top0 16)) .none .none .none (.str "sluice.licences" 283) none (.ref 113) .none),#[]⟩
def JC (P:Params):Obj:=(tq #[])
def QS (P:Params):Obj:={ cls:=.none,data:=Data.fields #[] }
def JB (P:Params):Obj:=(tq #[.str "roll" 329,.str "groups" 330,.str "number" 331])
def Jz (P:Params):Obj:=(tq #[])
def QM (P:Params):Obj:=(pr0 "groups_of" 17)
def Jy (P:Params):Obj:=(fc #[.str "groups_of" 326,.str "groups_of" 327,cp 328,.int 43 0,.int 1 0,.int 0 0,.int 0 0,.int 3 0,.ref 115,.bool true,.int 181 0,.ref 116,.none,.ref 117,.ref 118,.ref 119,.int 332 0,.int 43 0,cp 333])
def Jx (P:Params):Obj:=⟨.type "function",none,.func (PySem.W.fnOf "groups_of" "groups_of" (aC (top0 17)) (aB (top0 17)) (ao (top0 17)) .none .none .none (.str "sluice.licences" 283) none (.ref 120) .none),#[]⟩
def Jw (P:Params):Obj:=(tq #[])
def QL (P:Params):Obj:={ cls:=.none,data:=Data.fields #[] }
def QK (P:Params):Obj:=(pr0 "wants_of" 18)
def Jv (P:Params):Obj:=(fc #[.str "wants_of" 335,.str "wants_of" 336,cp 337,.int 48 0,.int 2 0,.int 0 0,.int 0 0,.int 3 0,.ref 122,.bool true,.int 181 0,.ref 123,.none,.none,.none,.ref 124,.int 338 0,.int 48 0,cp 339])
def Ju (P:Params):Obj:=⟨.type "function",none,.func (PySem.W.fnOf "wants_of" "wants_of" (aC (top0 18)) (aB (top0 18)) (ao (top0 18)) .none .none .none (.str "sluice.licences" 283) none (.ref 125) .none),#[]⟩
def Jt (P:Params):Obj:=(tq #[])
def QH (P:Params):Obj:={ cls:=.none,data:=Data.fields #[] }
def Js (P:Params):Obj:=(tq #[.str "free" 346,.str "ways" 347,.str "counts" 348,.str "way" 349,.str "reach" 350])
def Jr (P:Params):Obj:=(tq #[])
def QG (P:Params):Obj:=(pr0 "count_ways" 20)
def Jq (P:Params):Obj:=(fc #[.str "count_ways" 343,.str "count_ways" 344,cp 345,.int 51 0,.int 2 0,.int 0 0,.int 0 0,.int 3 0,.ref 127,.bool true,.int 181 0,.ref 128,.none,.ref 129,.ref 130,.ref 131,.int 351 0,.int 51 0,cp 352])
def Jp (P:Params):Obj:=⟨.type "function",none,.func (PySem.W.fnOf "count_ways" "count_ways" (aC (top0 20)) (aB (top0 20)) (ao (top0 20)) .none .none .none (.str "sluice.turns" 341) none (.ref 132) .none),#[]⟩
def Jo (P:Params):Obj:=(tq #[])
def QF (P:Params):Obj:={ cls:=.none,data:=Data.fields #[] }
def QD (P:Params):Obj:=(pr0 "whole_turns" 21)
def Jm (P:Params):Obj:=(fc #[.str "whole_turns" 354,.str "whole_turns" 355,cp 356,.int 57 0,.int 3 0,.int 0 0,.int 0 0,.int 3 0,.ref 134,.bool true,.int 181 0,.ref 135,.none,.none,.none,.ref 136,.int 357 0,.int 57 0,cp 358])
def Jl (P:Params):Obj:=⟨.type "function",none,.func (PySem.W.fnOf "whole_turns" "whole_turns" (aC (top0 21)) (aB (top0 21)) (ao (top0 21)) .none .none .none (.str "sluice.turns" 341) none (.ref 137) .none),#[]⟩
def Jk (P:Params):Obj:=(tq #[])
def QC (P:Params):Obj:={ cls:=.none,data:=Data.fields #[] }
def Jj (P:Params):Obj:=(tq #[.str "left" 363,.str "way" 364,.str "drops" 365,.str "reach" 366])
def Ji (P:Params):Obj:=(tq #[])
def QB (P:Params):Obj:=(pr0 "draw" 22)
def Jh (P:Params):Obj:=(fc #[.str "draw" 360,.str "draw" 361,cp 362,.int 61 0,.int 3 0,.int 0 0,.int 0 0,.int 3 0,.ref 139,.bool true,.int 181 0,.ref 140,.none,.ref 141,.ref 142,.ref 143,.int 367 0,.int 61 0,cp 368])
def Jg (P:Params):Obj:=⟨.type "function",none,.func (PySem.W.fnOf "draw" "draw" (aC (top0 22)) (aB (top0 22)) (ao (top0 22)) .none .none .none (.str "sluice.turns" 341) none (.ref 144) .none),#[]⟩
def Jf (P:Params):Obj:=(tq #[])
def Qz (P:Params):Obj:={ cls:=.none,data:=Data.fields #[] }
def Qy (P:Params):Obj:=(pr0 "take_whole_turns" 23)
def Je (P:Params):Obj:=(fc #[.str "take_whole_turns" 370,.str "take_whole_turns" 371,cp 372,.int 64 0,.int 5 0,.int 0 0,.int 0 0,.int 3 0,.ref 146,.bool true,.int 181 0,.ref 147,.none,.none,.none,.ref 148,.int 373 0,.int 64 0,cp 374])
def Jd (P:Params):Obj:=⟨.type "function",none,.func (PySem.W.fnOf "take_whole_turns" "take_whole_turns" (aC (top0 23)) (aB (top0 23)) (ao (top0 23)) .none .none .none (.str "sluice.turns" 341) none (.ref 149) .none),#[]⟩
def Jc (P:Params):Obj:=(tq #[])
def Qx (P:Params):Obj:={ cls:=.none,data:=Data.fields #[] }
def Qw (P:Params):Obj:=(pr0 "take_one_turn" 24)
def Jb (P:Params):Obj:=(fc #[.str "take_one_turn" 376,.str "take_one_turn" 377,cp 378,.int 70 0,.int 5 0,.int 0 0,.int 0 0,.int 3 0,.ref 151,.bool true,.int 181 0,.ref 152,.none,.none,.none,.ref 153,.int 379 0,.int 70 0,cp 380])
def Ja (P:Params):Obj:=⟨.type "function",none,.func (PySem.W.fnOf "take_one_turn" "take_one_turn" (aC (top0 24)) (aB (top0 24)) (ao (top0 24)) .none .none .none (.str "sluice.turns" 341) none (.ref 154) .none),#[]⟩
def IW (P:Params):Obj:=(tq #[])
def Qv (P:Params):Obj:={ cls:=.none,data:=Data.fields #[] }
def IV (P:Params):Obj:=(tq #[.str "free" 385,.str "ways" 386,.str "rests" 387,.str "left" 388,.str "takes" 389,.str "going" 390])
def IK (P:Params):Obj:=(tq #[])
def Qu (P:Params):Obj:=(pr0 "deal_turns" 25)
def Iz (P:Params):Obj:=(fc #[.str "deal_turns" 382,.str "deal_turns" 383,cp 384,.int 78 0,.int 3 0,.int 0 0,.int 0 0,.int 3 0,.ref 156,.bool true,.int 181 0,.ref 157,.none,.ref 158,.ref 159,.ref 160,.int 391 0,.int 78 0,cp 392])
def Iw (P:Params):Obj:=⟨.type "function",none,.func (PySem.W.fnOf "deal_turns" "deal_turns" (aC (top0 25)) (aB (top0 25)) (ao (top0 25)) .none .none .none (.str "sluice.turns" 341) none (.ref 161) .none),#[]⟩
def Iu (P:Params):Obj:=(tq #[])
def Qt (P:Params):Obj:={ cls:=.none,data:=Data.fields #[] }
def Qs (P:Params):Obj:=(pr0 "deal" 27)
def Ir (P:Params):Obj:=(fc #[.str "deal" 396,.str "deal" 397,cp 398,.int 87 0,.int 4 0,.int 0 0,.int 0 0,.int 3 0,.ref 163,.bool true,.int 181 0,.ref 164,.none,.none,.none,.ref 165,.int 399 0,.int 87 0,cp 400])
def Ip (P:Params):Obj:=⟨.type "function",none,.func (PySem.W.fnOf "deal" "deal" (aC (top0 27)) (aB (top0 27)) (ao (top0 27)) .none .none .none (.str "sluice.dealing" 394) none (.ref 166) .none),#[]⟩
def Io (P:Params):Obj:=(tq #[])
def Qq (P:Params):Obj:={ cls:=.none,data:=Data.fields #[] }
def Im (P:Params):Obj:=(tq #[.str "below" 407,.str "roll" 408,.str "takes" 409,.str "holds" 410,.str "one" 411,.str "take" 412,.str "reach" 413])
def Il (P:Params):Obj:=(tq #[])
def Qp (P:Params):Obj:=(pr0 "holds_of" 29)
def Ik (P:Params):Obj:=(fc #[.str "holds_of" 404,.str "holds_of" 405,cp 406,.int 98 0,.int 3 0,.int 0 0,.int 0 0,.int 3 0,.ref 168,.bool true,.int 181 0,.ref 169,.none,.ref 170,.ref 171,.ref 172,.int 414 0,.int 98 0,cp 415])
def Ij (P:Params):Obj:=⟨.type "function",none,.func (PySem.W.fnOf "holds_of" "holds_of" (aC (top0 29)) (aB (top0 29)) (ao (top0 29)) .none .none .none (.str "sluice.holds" 402) none (.ref 173) .none),#[]⟩
def Ii (P:Params):Obj:=(tq #[])
def Qo (P:Params):Obj:={ cls:=.none,data:=Data.fields #[] }
def Qm (P:Params):Obj:=(pr0 "free_of" 30)
def Ih (P:Params):Obj:=(fc #[.str "free_of" 417,.str "free_of" 418,cp 419,.int 104 0,.int 4 0,.int 0 0,.int 0 0,.int 3 0,.ref 175,.bool true,.int 181 0,.ref 176,.none,.none,.none,.ref 177,.int 420 0,.int 104 0,cp 421])
def Ig (P:Params):Obj:=⟨.type "function",none,.func (PySem.W.fnOf "free_of" "free_of" (aC (top0 30)) (aB (top0 30)) (ao (top0 30)) .none .none .none (.str "sluice.holds" 402) none (.ref 178) .none),#[]⟩
def Ie (P:Params):Obj:=(tq #[])
def Ql (P:Params):Obj:={ cls:=.none,data:=Data.fields #[] }
def Qk (P:Params):Obj:=(pr0 "dry_of" 32)
def Ib (P:Params):Obj:=(fc #[.str "dry_of" 425,.str "dry_of" 426,cp 427,.int 108 0,.int 4 0,.int 0 0,.int 0 0,.int 3 0,.ref 180,.bool true,.int 181 0,.ref 181,.none,.none,.none,.ref 182,.int 428 0,.int 108 0,cp 429])
def Ia (P:Params):Obj:=⟨.type "function",none,.func (PySem.W.fnOf "dry_of" "dry_of" (aC (top0 32)) (aB (top0 32)) (ao (top0 32)) .none .none .none (.str "sluice.cuts" 423) none (.ref 183) .none),#[]⟩
def HY (P:Params):Obj:=(tq #[])
def Qj (P:Params):Obj:={ cls:=.none,data:=Data.fields #[] }
def Qi (P:Params):Obj:=(pr0 "meets" 33)
def HX (P:Params):Obj:=(fc #[.str "meets" 431,.str "meets" 432,cp 433,.int 110 0,.int 2 0,.int 0 0,.int 0 0,.int 3 0,.ref 185,.bool true,.int 181 0,.ref 186,.none,.none,.none,.ref 187,.int 434 0,.int 110 0,cp 435])
def HW (P:Params):Obj:=⟨.type "function",none,.func (PySem.W.fnOf "meets" "meets" (aC (top0 33)) (aB (top0 33)) (ao (top0 33)) .none .none .none (.str "sluice.cuts" 423) none (.ref 188) .none),#[]⟩
def HS (P:Params):Obj:=(tq #[])
def Qh (P:Params):Obj:={ cls:=.none,data:=Data.fields #[] }
def Qg (P:Params):Obj:=(pr0 "lowest_of" 34)
def HN (P:Params):Obj:=(fc #[.str "lowest_of" 437,.str "lowest_of" 438,cp 439,.int 112 0,.int 2 0,.int 0 0,.int 0 0,.int 3 0,.ref 190,.bool true,.int 181 0,.ref 191,.none,.none,.none,.ref 192,.int 440 0,.int 112 0,cp 441])
def HJ (P:Params):Obj:=⟨.type "function",none,.func (PySem.W.fnOf "lowest_of" "lowest_of" (aC (top0 34)) (aB (top0 34)) (ao (top0 34)) .none .none .none (.str "sluice.cuts" 423) none (.ref 193) .none),#[]⟩
def HF (P:Params):Obj:=(tq #[])
def Qf (P:Params):Obj:={ cls:=.none,data:=Data.fields #[] }
def Qe (P:Params):Obj:=(pr0 "cut_of" 35)
def HD (P:Params):Obj:=(fc #[.str "cut_of" 443,.str "cut_of" 444,cp 445,.int 114 0,.int 4 0,.int 0 0,.int 0 0,.int 3 0,.ref 195,.bool true,.int 181 0,.ref 196,.none,.none,.none,.ref 197,.int 446 0,.int 114 0,cp 447])
def HB (P:Params):Obj:=⟨.type "function",none,.func (PySem.W.fnOf "cut_of" "cut_of" (aC (top0 35)) (aB (top0 35)) (ao (top0 35)) .none .none .none (.str "sluice.cuts" 423) none (.ref 198) .none),#[]⟩
def Hz (P:Params):Obj:=(tq #[])
def Qd (P:Params):Obj:={ cls:=.none,data:=Data.fields #[] }
def Hy (P:Params):Obj:=(tq #[.str "script" 454,.str "k" 455])
def Hx (P:Params):Obj:=(tq #[])
def Qc (P:Params):Obj:=(pr0 "_law_cell_at" 37)
def Hw (P:Params):Obj:=(fc #[.str "_law_cell_at" 451,.str "_law_cell_at" 452,cp 453,.int 125 0,.int 2 0,.int 0 0,.int 0 0,.int 3 0,.ref 200,.bool true,.int 181 0,.ref 201,.none,.ref 202,.ref 203,.ref 204,.int 456 0,.int 125 0,cp 457])
def Hv (P:Params):Obj:=⟨.type "function",none,.func (PySem.W.fnOf "_law_cell_at" "_law_cell_at" (aC (top0 37)) (aB (top0 37)) (ao (top0 37)) .none .none .none (.str "law_sluice_k34_whole_no_takes_more" 449) none (.ref 205) .none),#[]⟩
def Hu (P:Params):Obj:=(tq #[])
def Qa (P:Params):Obj:={ cls:=.none,data:=Data.fields #[] }
def Ht (P:Params):Obj:=(tq #[.str "found" 462])
def Hs (P:Params):Obj:=(tq #[])
def PX (P:Params):Obj:=(pr0 "_law_whole" 38)
def Hr (P:Params):Obj:=(fc #[.str "_law_whole" 459,.str "_law_whole" 460,cp 461,.int 129 0,.int 1 0,.int 0 0,.int 0 0,.int 3 0,.ref 207,.bool true,.int 181 0,.ref 208,.none,.ref 209,.ref 210,.ref 211,.int 463 0,.int 129 0,cp 464])
def Hq (P:Params):Obj:=⟨.type "function",none,.func (PySem.W.fnOf "_law_whole" "_law_whole" (aC (top0 38)) (aB (top0 38)) (ao (top0 38)) .none .none .none (.str "law_sluice_k34_whole_no_takes_more" 449) none (.ref 212) .none),#[]⟩
def Ho (P:Params):Obj:=(tq #[])
def PN (P:Params):Obj:={ cls:=.none,data:=Data.fields #[] }
def Hl (P:Params):Obj:=(tq #[.str "cell" 469,.str "k" 470,.str "seed" 471,.str "turned" 472])
def Hj (P:Params):Obj:=(tq #[])
def PL (P:Params):Obj:=(pr0 "_law_draw" 39)
def Hi (P:Params):Obj:=(fc #[.str "_law_draw" 466,.str "_law_draw" 467,cp 468,.int 131 0,.int 2 0,.int 0 0,.int 0 0,.int 3 0,.ref 214,.bool true,.int 181 0,.ref 215,.none,.ref 216,.ref 217,.ref 218,.int 473 0,.int 131 0,cp 474])
def Hh (P:Params):Obj:=⟨.type "function",none,.func (PySem.W.fnOf "_law_draw" "_law_draw" (aC (top0 39)) (aB (top0 39)) (ao (top0 39)) .none .none .none (.str "law_sluice_k34_whole_no_takes_more" 449) none (.ref 219) .none),#[]⟩
def Hg (P:Params):Obj:=(tq #[])
def PK (P:Params):Obj:={ cls:=.none,data:=Data.fields #[] }
def PJ (P:Params):Obj:=(pr0 "_law_mixed" 40)
def Hf (P:Params):Obj:=(fc #[.str "_law_mixed" 476,.str "_law_mixed" 477,cp 478,.int 135 0,.int 2 0,.int 0 0,.int 0 0,.int 3 0,.ref 221,.bool true,.int 181 0,.ref 222,.none,.none,.none,.ref 223,.int 479 0,.int 135 0,cp 480])
def G9 (P:Params):Obj:=⟨.type "function",none,.func (PySem.W.fnOf "_law_mixed" "_law_mixed" (aC (top0 40)) (aB (top0 40)) (ao (top0 40)) .none .none .none (.str "law_sluice_k34_whole_no_takes_more" 449) none (.ref 224) .none),#[]⟩
def G8 (P:Params):Obj:=(tq #[])
def PB (P:Params):Obj:={ cls:=.none,data:=Data.fields #[] }
def Py (P:Params):Obj:=(pr0 "_law_river" 41)
def G7 (P:Params):Obj:=(fc #[.str "_law_river" 482,.str "_law_river" 483,cp 484,.int 137 0,.int 1 0,.int 0 0,.int 0 0,.int 3 0,.ref 226,.bool true,.int 181 0,.ref 227,.none,.none,.none,.ref 228,.int 485 0,.int 137 0,cp 486])
def G6 (P:Params):Obj:=⟨.type "function",none,.func (PySem.W.fnOf "_law_river" "_law_river" (aC (top0 41)) (aB (top0 41)) (ao (top0 41)) .none .none .none (.str "law_sluice_k34_whole_no_takes_more" 449) none (.ref 229) .none),#[]⟩
def G5 (P:Params):Obj:=(tq #[])
def Px (P:Params):Obj:={ cls:=.none,data:=Data.fields #[] }
def G4 (P:Params):Obj:=(tq #[.str "cell" 491,.str "size" 492,.str "kind" 493,.str "found" 494,.str "x" 495])
def G3 (P:Params):Obj:=(tq #[])
def Pu (P:Params):Obj:=(pr0 "_law_springs" 42)
def GZ (P:Params):Obj:=(fc #[.str "_law_springs" 488,.str "_law_springs" 489,cp 490,.int 148 0,.int 3 0,.int 0 0,.int 0 0,.int 3 0,.ref 231,.bool true,.int 181 0,.ref 232,.none,.ref 233,.ref 234,.ref 235,.int 496 0,.int 148 0,cp 497])
def GX (P:Params):Obj:=⟨.type "function",none,.func (PySem.W.fnOf "_law_springs" "_law_springs" (aC (top0 42)) (aB (top0 42)) (ao (top0 42)) .none .none .none (.str "law_sluice_k34_whole_no_takes_more" 449) none (.ref 236) .none),#[]⟩
def GR (P:Params):Obj:=(tq #[])
def Pr (P:Params):Obj:={ cls:=.none,data:=Data.fields #[] }
def GQ (P:Params):Obj:=(tq #[.str "below" 502,.str "reach" 503,.str "way" 504])
def GP (P:Params):Obj:=(tq #[])
def Pq (P:Params):Obj:=(pr0 "_law_way" 43)
def GK (P:Params):Obj:=(fc #[.str "_law_way" 499,.str "_law_way" 500,cp 501,.int 158 0,.int 2 0,.int 0 0,.int 0 0,.int 3 0,.ref 238,.bool true,.int 181 0,.ref 239,.none,.ref 240,.ref 241,.ref 242,.int 505 0,.int 158 0,cp 506])
def GJ (P:Params):Obj:=⟨.type "function",none,.func (PySem.W.fnOf "_law_way" "_law_way" (aC (top0 43)) (aB (top0 43)) (ao (top0 43)) .none .none .none (.str "law_sluice_k34_whole_no_takes_more" 449) none (.ref 243) .none),#[]⟩
def GF (P:Params):Obj:=(tq #[])
def Pn (P:Params):Obj:={ cls:=.none,data:=Data.fields #[] }
def GD (P:Params):Obj:=(tq #[.str "below" 511,.str "springs" 512,.str "flow" 513,.str "reach" 514,.str "rises" 515,.str "low" 516])
def GC (P:Params):Obj:=(tq #[])
def Pj (P:Params):Obj:=(pr0 "_law_natural" 44)
def Gz (P:Params):Obj:=(fc #[.str "_law_natural" 508,.str "_law_natural" 509,cp 510,.int 164 0,.int 2 0,.int 0 0,.int 0 0,.int 3 0,.ref 245,.bool true,.int 181 0,.ref 246,.none,.ref 247,.ref 248,.ref 249,.int 517 0,.int 164 0,cp 518])
def Gy (P:Params):Obj:=⟨.type "function",none,.func (PySem.W.fnOf "_law_natural" "_law_natural" (aC (top0 44)) (aB (top0 44)) (ao (top0 44)) .none .none .none (.str "law_sluice_k34_whole_no_takes_more" 449) none (.ref 250) .none),#[]⟩
def Gx (P:Params):Obj:=(tq #[])
def Ph (P:Params):Obj:={ cls:=.none,data:=Data.fields #[] }
def Gw (P:Params):Obj:=(tq #[.str "cell" 523,.str "size" 524,.str "far" 525,.str "kind" 526,.str "xs" 527,.str "most" 528,.str "call" 529])
def Gv (P:Params):Obj:=(tq #[])
def Pb (P:Params):Obj:=(pr0 "_law_drawn" 45)
def Gu (P:Params):Obj:=(fc #[.str "_law_drawn" 520,.str "_law_drawn" 521,cp 522,.int 170 0,.int 4 0,.int 0 0,.int 0 0,.int 3 0,.ref 252,.bool true,.int 181 0,.ref 253,.none,.ref 254,.ref 255,.ref 256,.int 530 0,.int 170 0,cp 531])
def Gs (P:Params):Obj:=⟨.type "function",none,.func (PySem.W.fnOf "_law_drawn" "_law_drawn" (aC (top0 45)) (aB (top0 45)) (ao (top0 45)) .none .none .none (.str "law_sluice_k34_whole_no_takes_more" 449) none (.ref 257) .none),#[]⟩
def Gq (P:Params):Obj:=(tq #[])
def O9 (P:Params):Obj:={ cls:=.none,data:=Data.fields #[] }
def O8 (P:Params):Obj:=(pr0 "_law_rival" 46)
def Gp (P:Params):Obj:=(fc #[.str "_law_rival" 533,.str "_law_rival" 534,cp 535,.int 180 0,.int 5 0,.int 0 0,.int 0 0,.int 3 0,.ref 259,.bool true,.int 181 0,.ref 260,.none,.none,.none,.ref 261,.int 536 0,.int 180 0,cp 537])
def Gn (P:Params):Obj:=⟨.type "function",none,.func (PySem.W.fnOf "_law_rival" "_law_rival" (aC (top0 46)) (aB (top0 46)) (ao (top0 46)) .none .none .none (.str "law_sluice_k34_whole_no_takes_more" 449) none (.ref 262) .none),#[]⟩
def Gm (P:Params):Obj:=(tq #[])
def OJ (P:Params):Obj:={ cls:=.none,data:=Data.fields #[] }
def Oz (P:Params):Obj:=(pr0 "law" 47)
def Gk (P:Params):Obj:=(fc #[.str "law" 539,.str "law" 540,cp 541,.int 195 0,.int 1 0,.int 0 0,.int 0 0,.int 3 0,.ref 264,.bool true,.int 181 0,.ref 265,.none,.none,.none,.ref 266,.int 542 0,.int 195 0,cp 543])
def Gj (P:Params):Obj:=⟨.type "function",none,.func (PySem.W.fnOf "law" "law" (aC (top0 47)) (aB (top0 47)) (ao (top0 47)) .none .none .none (.str "law_sluice_k34_whole_no_takes_more" 449) none (.ref 267) .none),#[]⟩
def H0:Params→Heap:=fun P=>{ objs:=⟨Vh P :: Vg P :: Ub P :: ho_4 P :: Vf P :: Ve P :: Vd P :: Vc P :: Vb P :: Q5 P :: QW P :: []⟩ }
def H1:Params→Heap:=fun P=>{ objs:=⟨Vh P :: Vg P :: Ub P :: QJ P :: Vf P :: Ve P :: Vd P :: Vc P :: Vb P :: Q5 P :: QW P :: Uo P :: Um P :: Ul P :: Uk P :: Qn P :: Uj P :: Ui P :: Uh P :: Ug P :: Ue P :: Ud P :: Pk P :: Pa P :: Ox P :: Ov P :: Uc P :: Ua P :: Ou P :: T9 P :: T8 P :: T7 P :: T6 P :: T5 P :: T4 P :: Ot P :: Oq P :: Oo P :: T3 P :: TY P :: Om P :: TV P :: TQ P :: TJ P :: TF P :: Tw P :: Tv P :: Ol P :: Oj P :: Oi P :: Tt P :: Tr P :: Oh P :: Tq P :: Og P :: Oe P :: Tp P :: Od P :: Oc P :: Ob P :: Tj P :: Oa P :: N8 P :: Ti P :: N7 P :: N6 P :: N5 P :: Tg P :: NZ P :: NT P :: Tf P :: NQ P :: NP P :: NK P :: Te P :: Nz P :: Ny P :: Td P :: Nx P :: Nv P :: Nu P :: Tc P :: Nt P :: Nr P :: S9 P :: Nq P :: Np P :: Nm P :: S8 P :: Nk P :: Nj P :: S7 P :: Ni P :: Nh P :: Ng P :: S6 P :: Nf P :: JW P :: Q0 P :: JV P :: JT P :: JR P :: QZ P :: JQ P :: JN P :: QX P :: JM P :: JL P :: JK P :: QV P :: JH P :: JG P :: QT P :: JF P :: JD P :: JC P :: QS P :: JB P :: Jz P :: QM P :: Jy P :: Jx P :: Jw P :: QL P :: QK P :: Jv P :: Ju P :: Jt P :: QH P :: Js P :: Jr P :: QG P :: Jq P :: Jp P :: Jo P :: QF P :: QD P :: Jm P :: Jl P :: Jk P :: QC P :: Jj P :: Ji P :: QB P :: Jh P :: Jg P :: Jf P :: Qz P :: Qy P :: Je P :: Jd P :: Jc P :: Qx P :: Qw P :: Jb P :: Ja P :: IW P :: Qv P :: IV P :: IK P :: Qu P :: Iz P :: Iw P :: Iu P :: Qt P :: Qs P :: Ir P :: Ip P :: Io P :: Qq P :: Im P :: Il P :: Qp P :: Ik P :: Ij P :: Ii P :: Qo P :: Qm P :: Ih P :: Ig P :: Ie P :: Ql P :: Qk P :: Ib P :: Ia P :: HY P :: Qj P :: Qi P :: HX P :: HW P :: HS P :: Qh P :: Qg P :: HN P :: HJ P :: HF P :: Qf P :: Qe P :: HD P :: HB P :: Hz P :: Qd P :: Hy P :: Hx P :: Qc P :: Hw P :: Hv P :: Hu P :: Qa P :: Ht P :: Hs P :: PX P :: Hr P :: Hq P :: Ho P :: PN P :: Hl P :: Hj P :: PL P :: Hi P :: Hh P :: Hg P :: PK P :: PJ P :: Hf P :: G9 P :: G8 P :: PB P :: Py P :: G7 P :: G6 P :: G5 P :: Px P :: G4 P :: G3 P :: Pu P :: GZ P :: GX P :: GR P :: Pr P :: GQ P :: GP P :: Pq P :: GK P :: GJ P :: GF P :: Pn P :: GD P :: GC P :: Pj P :: Gz P :: Gy P :: Gx P :: Ph P :: Gw P :: Gv P :: Pb P :: Gu P :: Gs P :: Gq P :: O9 P :: O8 P :: Gp P :: Gn P :: Gm P :: OJ P :: Oz P :: Gk P :: Gj P :: []⟩ }
def Kf:Params→PySem.W.Frag:=fun P=>(nat_lit 2,Ub P) ::
 (nat_lit 3,QJ P) ::
 (nat_lit 15,Qn P) ::
 (nat_lit 22,Pk P) ::
 (nat_lit 23,Pa P) ::
 (nat_lit 24,Ox P) ::
 (nat_lit 25,Ov P) ::
 (nat_lit 28,Ou P) ::
 (nat_lit 35,Ot P) ::
 (nat_lit 36,Oq P) ::
 (nat_lit 37,Oo P) ::
 (nat_lit 40,Om P) ::
 (nat_lit 47,Ol P) ::
 (nat_lit 48,Oj P) ::
 (nat_lit 49,Oi P) ::
 (nat_lit 52,Oh P) ::
 (nat_lit 54,Og P) ::
 (nat_lit 55,Oe P) ::
 (nat_lit 57,Od P) ::
 (nat_lit 58,Oc P) ::
 (nat_lit 59,Ob P) ::
 (nat_lit 61,Oa P) ::
 (nat_lit 62,N8 P) ::
 (nat_lit 64,N7 P) ::
 (nat_lit 65,N6 P) ::
 (nat_lit 66,N5 P) ::
 (nat_lit 68,NZ P) ::
 (nat_lit 69,NT P) ::
 (nat_lit 71,NQ P) ::
 (nat_lit 72,NP P) ::
 (nat_lit 73,NK P) ::
 (nat_lit 75,Nz P) ::
 (nat_lit 76,Ny P) ::
 (nat_lit 78,Nx P) ::
 (nat_lit 79,Nv P) ::
 (nat_lit 80,Nu P) ::
 (nat_lit 82,Nt P) ::
 (nat_lit 83,Nr P) ::
 (nat_lit 85,Nq P) ::
 (nat_lit 86,Np P) ::
 (nat_lit 87,Nm P) ::
 (nat_lit 89,Nk P) ::
 (nat_lit 90,Nj P) ::
 (nat_lit 92,Ni P) ::
 (nat_lit 93,Nh P) ::
 (nat_lit 94,Ng P) ::
 (nat_lit 96,Nf P) ::
 (nat_lit 97,JW P) ::
 (nat_lit 99,JV P) ::
 (nat_lit 100,JT P) ::
 (nat_lit 101,JR P) ::
 (nat_lit 103,JQ P) ::
 (nat_lit 104,JN P) ::
 (nat_lit 106,JM P) ::
 (nat_lit 107,JL P) ::
 (nat_lit 108,JK P) ::
 (nat_lit 110,JH P) ::
 (nat_lit 111,JG P) ::
 (nat_lit 113,JF P) ::
 (nat_lit 114,JD P) ::
 (nat_lit 115,JC P) ::
 (nat_lit 117,JB P) ::
 (nat_lit 118,Jz P) ::
 (nat_lit 120,Jy P) ::
 (nat_lit 121,Jx P) ::
 (nat_lit 122,Jw P) ::
 (nat_lit 125,Jv P) ::
 (nat_lit 126,Ju P) ::
 (nat_lit 127,Jt P) ::
 (nat_lit 129,Js P) ::
 (nat_lit 130,Jr P) ::
 (nat_lit 132,Jq P) ::
 (nat_lit 133,Jp P) ::
 (nat_lit 134,Jo P) ::
 (nat_lit 137,Jm P) ::
 (nat_lit 138,Jl P) ::
 (nat_lit 139,Jk P) ::
 (nat_lit 141,Jj P) ::
 (nat_lit 142,Ji P) ::
 (nat_lit 144,Jh P) ::
 (nat_lit 145,Jg P) ::
 (nat_lit 146,Jf P) ::
 (nat_lit 149,Je P) ::
 (nat_lit 150,Jd P) ::
 (nat_lit 151,Jc P) ::
 (nat_lit 154,Jb P) ::
 (nat_lit 155,Ja P) ::
 (nat_lit 156,IW P) ::
 (nat_lit 158,IV P) ::
 (nat_lit 159,IK P) ::
 (nat_lit 161,Iz P) ::
 (nat_lit 162,Iw P) ::
 (nat_lit 163,Iu P) ::
 (nat_lit 166,Ir P) ::
 (nat_lit 167,Ip P) ::
 (nat_lit 168,Io P) ::
 (nat_lit 170,Im P) ::
 (nat_lit 171,Il P) ::
 (nat_lit 173,Ik P) ::
 (nat_lit 174,Ij P) ::
 (nat_lit 175,Ii P) ::
 (nat_lit 178,Ih P) ::
 (nat_lit 179,Ig P) ::
 (nat_lit 180,Ie P) ::
 (nat_lit 183,Ib P) ::
 (nat_lit 184,Ia P) ::
 (nat_lit 185,HY P) ::
 (nat_lit 188,HX P) ::
 (nat_lit 189,HW P) ::
 (nat_lit 190,HS P) ::
 (nat_lit 193,HN P) ::
 (nat_lit 194,HJ P) ::
 (nat_lit 195,HF P) ::
 (nat_lit 198,HD P) ::
 (nat_lit 199,HB P) ::
 (nat_lit 200,Hz P) ::
 (nat_lit 202,Hy P) ::
 (nat_lit 203,Hx P) ::
 (nat_lit 205,Hw P) ::
 (nat_lit 206,Hv P) ::
 (nat_lit 207,Hu P) ::
 (nat_lit 209,Ht P) ::
 (nat_lit 210,Hs P) ::
 (nat_lit 212,Hr P) ::
 (nat_lit 213,Hq P) ::
 (nat_lit 214,Ho P) ::
 (nat_lit 216,Hl P) ::
 (nat_lit 217,Hj P) ::
 (nat_lit 219,Hi P) ::
 (nat_lit 220,Hh P) ::
 (nat_lit 221,Hg P) ::
 (nat_lit 224,Hf P) ::
 (nat_lit 225,G9 P) ::
 (nat_lit 226,G8 P) ::
 (nat_lit 229,G7 P) ::
 (nat_lit 230,G6 P) ::
 (nat_lit 231,G5 P) ::
 (nat_lit 233,G4 P) ::
 (nat_lit 234,G3 P) ::
 (nat_lit 236,GZ P) ::
 (nat_lit 237,GX P) ::
 (nat_lit 238,GR P) ::
 (nat_lit 240,GQ P) ::
 (nat_lit 241,GP P) ::
 (nat_lit 243,GK P) ::
 (nat_lit 244,GJ P) ::
 (nat_lit 245,GF P) ::
 (nat_lit 247,GD P) ::
 (nat_lit 248,GC P) ::
 (nat_lit 250,Gz P) ::
 (nat_lit 251,Gy P) ::
 (nat_lit 252,Gx P) ::
 (nat_lit 254,Gw P) ::
 (nat_lit 255,Gv P) ::
 (nat_lit 257,Gu P) ::
 (nat_lit 258,Gs P) ::
 (nat_lit 259,Gq P) ::
 (nat_lit 262,Gp P) ::
 (nat_lit 263,Gn P) ::
 (nat_lit 264,Gm P) ::
 (nat_lit 267,Gk P) ::
 (nat_lit 268,Gj P) :: []
def asK:List Addr:=[2,3,15,22,23,24,25,28,35,36,37,40,47,48,49,52,54,55,57,58,59,61,62,64,65,66,68,69,71,72,73,75,76,78,79,80,82,83,85,86,87,89,90,92,93,94,96,97,99,100,101,103,104,106,107,108,110,111,113,114,115,117,118,120,121,122,125,126,127,129,130,132,133,134,137,138,139,141,142,144,145,146,149,150,151,154,155,156,158,159,161,162,163,166,167,168,170,171,173,174,175,178,179,180,183,184,185,188,189,190,193,194,195,198,199,200,202,203,205,206,207,209,210,212,213,214,216,217,219,220,221,224,225,226,229,230,231,233,234,236,237,238,240,241,243,244,245,247,248,250,251,252,254,255,257,258,259,262,263,264,267,268]
def tsK:List Addr:=[109,60]
theorem hkE:∀ P,asK=(Kf P).map (·.1):=fun _=>by kernel_rfl
def qv:Program:={ PySem.Challenge.pw_sluice_k34_whole_no_takes_more with main:={ PySem.Challenge.pw_sluice_k34_whole_no_takes_more.main with body:=[top0 47] } }
def wG:List Str:=("SluiceError":Str) :: ("NoReach":Str) :: ("NoCut":Str) :: ("MOUTH":Str) :: ("way_of":Str) :: ("tops_first":Str) :: ("stretch_of":Str) :: ("natural_of":Str) :: ("reaches_of":Str) :: ("day_filed":Str) :: ("gives_back":Str) :: ("most_of":Str) :: ("ranked":Str) :: ("groups_of":Str) :: ("wants_of":Str) :: ("count_ways":Str) :: ("whole_turns":Str) :: ("draw":Str) :: ("take_whole_turns":Str) :: ("take_one_turn":Str) :: ("deal_turns":Str) :: ("deal":Str) :: ("holds_of":Str) :: ("free_of":Str) :: ("dry_of":Str) :: ("meets":Str) :: ("lowest_of":Str) :: ("cut_of":Str) :: ("_law_cell_at":Str) :: ("_law_whole":Str) :: ("_law_draw":Str) :: ("_law_mixed":Str) :: ("_law_river":Str) :: ("_law_springs":Str) :: ("_law_way":Str) :: ("_law_natural":Str) :: ("_law_drawn":Str) :: ("_law_rival":Str) :: []
end
theorem hp1:∀ w:World,(PySem.W.fencedOpening PySem.treeTable PySem.Challenge.rw_sluice_k34_whole_no_takes_more.row.toRowW.prog w 3598).map (fun s=>(s.heap,s.gens,s.drawn,s.toks))=some (H0 w.params,#[],{},181):=by
  intro w;kernel_rfl
theorem hp2:∀ w:World,((H0 w.params).isNs mainGlobals && (#[]:Array GenState).size == 0,(H0 w.params).objs.size,(H0 w.params).nsMap mainGlobals "__annotations__")=(true,11,some (Value.ref 6)):=by
  intro w;kernel_rfl
theorem hp3:∀ (w:World) (os:OsState),PySem.W.topRun PySem.treeTable PySem.Challenge.rw_sluice_k34_whole_no_takes_more.row.toRowW.prog w 11 (some (Value.ref 6)) 3598 ⟨H0 w.params,#[],{},181,os⟩ (PySem.W.topStub PySem.Challenge.rw_sluice_k34_whole_no_takes_more.row.toRowW.prog)=some ⟨H1 w.params,#[],{},545,os⟩:=by
  intro w os;kernel_rfl
theorem hp4:∀ w:World,(fun os=>((PySem.W.staticsOk (importedModules PySem.Challenge.rw_sluice_k34_whole_no_takes_more.row.toRowW.prog.main.body) (H0 w.params) (H1 w.params) && PySem.W.namesBound PySem.Challenge.rw_sluice_k34_whole_no_takes_more.row.toRowW.prog (H1 w.params) && PySem.W.gensDone ⟨H1 w.params,#[],{},545,os⟩ && PySem.W.laidKept (H0 w.params) (H1 w.params)),PySem.W.openSeen qv wG (importedModules PySem.Challenge.rw_sluice_k34_whole_no_takes_more.row.toRowW.prog.main.body) (fun s=>PySem.W.xlAt My.qv [] s && PySem.W.recOk (PySem.W.RowW.records PySem.Challenge.rw_sluice_k34_whole_no_takes_more.row.toRowW) s) true ⟨H1 w.params,#[],{},545,os⟩,(PySem.W.Hook.obs (PySem.W.kmHook My.Kf My.asK My.hkE My.tsK)) ⟨H1 w.params,#[],{},545,os⟩))=fun _=>(true,PySem.W.openGood qv wG,(PySem.W.Hook.val (PySem.W.kmHook My.Kf My.asK My.hkE My.tsK)) w):=by
  intro w;kernel_rfl
theorem hlE:PySem.W.LeftO PySem.Challenge.rw_sluice_k34_whole_no_takes_more.row.toRowW.prog qv My.wG (fun s=>PySem.W.xlAt My.qv [] s && PySem.W.recOk (PySem.W.RowW.records PySem.Challenge.rw_sluice_k34_whole_no_takes_more.row.toRowW) s) (PySem.W.Hook.obs (PySem.W.kmHook My.Kf My.asK My.hkE My.tsK)) (PySem.W.Hook.val (PySem.W.kmHook My.Kf My.asK My.hkE My.tsK)) 3598:=PySem.W.LeftO.of_pieces hp1 hp2 hp3 (by decide) hp4
end My
namespace L2
open PySem PySem.Spec PyProof.Rows
abbrev Key:=Sum Int Str
def yg:Key→Value→Bool
  | .inl k,v=>Value.isInt k v
  | .inr x,v=>Value.isStrOf x v
def keyH (w:World):Key→Int
  | .inl k=>hashInt k
  | .inr x=>hashStr w x
theorem cZ:∀ {k:Key} {v:Value},yg k v=true→(∃ i t,k=Sum.inl i∧v=Value.int i t)∨(∃ x t,k=Sum.inr x∧v=Value.str x t)
  | .inl i,v,h=>by
    obtain ⟨t,e⟩:=Value.isInt_shape (k:=i) (v:=v) h
    exact .inl ⟨i,t,rfl,e⟩
  | .inr x,v,h=>by
    obtain ⟨t,e⟩:=Value.isStrOf_shape (x:=x) (v:=v) h
    exact .inr ⟨x,t,rfl,e⟩
theorem Bb (i:Int) (t:Tok):yg (.inl i) (.int i t)=true:=by simp [yg,Value.isInt]
theorem Az (x:Str) (t:Tok):yg (.inr x) (.str x t)=true:=by simp [yg,Value.isStrOf]
theorem M8 (a b:Int):decide ((Sum.inl a:Key)=Sum.inl b)=(a == b):=by
  by_cases e:a=b
  · subst e;simp
  · have h:¬ (Sum.inl a:Key)=Sum.inl b:=fun q=>e (Sum.inl.inj q)
    rw [decide_eq_false h]
    exact (beq_eq_false_iff_ne.mpr e).symm
theorem M4 (a b:Str):decide ((Sum.inr a:Key)=Sum.inr b)=decide (a=b):=by
  by_cases e:a=b
  · subst e;simp
  · have h:¬ (Sum.inr a:Key)=Sum.inr b:=fun q=>e (Sum.inr.inj q)
    rw [decide_eq_false h,decide_eq_false e]
theorem M7 (a:Int) (b:Str):decide ((Sum.inl a:Key)=Sum.inr b)=false:=decide_eq_false (fun q=>nomatch q)
theorem M5 (a:Str) (b:Int):decide ((Sum.inr a:Key)=Sum.inl b)=false:=decide_eq_false (fun q=>nomatch q)
def dZ (prog:Program) (w:World):PySem.KeyKind prog w Key where
  is:=yg
  hash:=keyH w
  inj:=fun v a b ha hb=>by
    rcases cZ ha with ⟨i,t,rfl,rfl⟩ | ⟨x,t,rfl,rfl⟩
    · rcases cZ hb with ⟨j,u,rfl,e⟩ | ⟨y,u,rfl,e⟩
      · injection e with e1 _;rw [e1]
      · exact nomatch e
    · rcases cZ hb with ⟨j,u,rfl,e⟩ | ⟨y,u,rfl,e⟩
      · exact nomatch e
      · injection e with e1 _;rw [e1]
  byValue:=fun k v h=>by
    rcases cZ h with ⟨i,t,rfl,rfl⟩ | ⟨x,t,rfl,rfl⟩ <;> rfl
  pyHash:=fun hv h=>by
    rcases cZ hv with ⟨i,t,rfl,rfl⟩ | ⟨x,t,rfl,rfl⟩
    · exact wpAny_pyHash_int h
    · exact wpAny_pyHash_str h
  eqBool:=fun hu hv h=>by
    rcases cZ hu with ⟨i,t,rfl,rfl⟩ | ⟨x,t,rfl,rfl⟩
    · rcases cZ hv with ⟨j,u,rfl,rfl⟩ | ⟨y,u,rfl,rfl⟩
      · rw [M8] at h;exact wpAny_eqBool_int h
      · rw [M7] at h;exact SeqAt.EqAt.int_str i t y u _ _ _ _ h
    · rcases cZ hv with ⟨j,u,rfl,rfl⟩ | ⟨y,u,rfl,rfl⟩
      · rw [M5] at h;exact SeqAt.EqAt.str_int x t j u _ _ _ _ h
      · rw [M4] at h;exact wpAny_eqBool_str h
  «strs»:=fun k x t v h=>by
    rcases cZ h with ⟨i,u,rfl,e⟩ | ⟨y,u,rfl,e⟩
    · exact nomatch e
    · injection e with e1 _
      subst e1
      cases v <;> rfl
theorem u9 (prog:Program) (w:World) (i:Int) (t:Tok):(dZ prog w).is (.inl i) (.int i t)=true:=Bb i t
theorem u6 (prog:Program) (w:World) (x:Str) (t:Tok):(dZ prog w).is (.inr x) (.str x t)=true:=Az x t
end L2
namespace L2
open PySem PySem.Spec PyProof.Rows
inductive V where
  | non | bl (b:Bool) | int (i:Int) | str (x:Str) | byt (b:Array UInt8) | flt (b:UInt64) | ref (a:Addr) | ty (n:String)
  deriving DecidableEq
def RelV:V→Value→Prop
  | .non,u=>u=Value.none
  | .bl b,u=>u=Value.bool b
  | .int i,u=>∃ t,u=Value.int i t
  | .str x,u=>∃ t,u=Value.str x t
  | .byt b,u=>∃ t,u=Value.bytes b t
  | .flt b,u=>∃ t,u=Value.float b t
  | .ref a,u=>u=Value.ref a
  | .ty n,u=>u=Value.type n
abbrev Vals:List V→List Value→Prop:=Paired RelV
theorem Vals.length {xs:List V} {us:List Value} (r:Vals xs us):xs.length=us.length:=Paired.length r
theorem Vals.get:∀ {xs:List V} {us:List Value} {i:Nat} {x:V},Vals xs us→xs[i]?=some x→∃ u,us[i]?=some u∧RelV x u
  | _,_,_,_,.nil,e=>by simp at e
  | _,_,0,_,.cons r _,e=>by simp at e;subst e;exact ⟨_,rfl,r⟩
  | _,_,i + 1,x,.cons _ t,e=>by
    obtain ⟨u,h1,h2⟩:=Vals.get (i:=i) (x:=x) t (by simpa using e)
    exact ⟨u,by simpa using h1,h2⟩
theorem Vals.set {x:V} {u:Value} (r:RelV x u):∀ {xs:List V} {us:List Value} (i:Nat),Vals xs us→Vals (xs.set i x) (us.set i u)
  | _,_,_,.nil=>.nil
  | _,_,0,.cons _ t=>.cons r t
  | _,_,i + 1,.cons q t=>.cons q (Vals.set r i t)
theorem Vals.append:∀ {xs ys:List V} {us ws:List Value},Vals xs us→Vals ys ws→Vals (xs++ys) (us++ws)
  | _,_,_,_,.nil,s=>s
  | _,_,_,_,.cons r t,s=>.cons r (Vals.append t s)
theorem Vals.take:∀ {xs:List V} {us:List Value} (n:Nat),Vals xs us→Vals (xs.take n) (us.take n)
  | _,_,0,_=>.nil
  | _,_,_ + 1,.nil=>.nil
  | _,_,n + 1,.cons r t=>.cons r (Vals.take n t)
theorem Vals.drop:∀ {xs:List V} {us:List Value} (n:Nat),Vals xs us→Vals (xs.drop n) (us.drop n)
  | _,_,0,r=>r
  | _,_,_ + 1,.nil=>.nil
  | _,_,n + 1,.cons _ t=>Vals.drop n t
def Rq:Option V→Option Value→Prop
  | some v,some u=>RelV v u
  | none,none=>True
  | _,_=>False
def KV {κ:Type}:List (κ × V)→List (κ × Value)→Prop:=Paired fun (p:κ × V) (q:κ × Value)=>p.1=q.1∧RelV p.2 q.2
def kV:Key→V
  | .inl i=>.int i
  | .inr x=>.str x
inductive HO where
  /-- a list -/
  | lst (xs:List V)
  /-- a tuple (never changes) -/
  | tup (xs:List V)
  /-- a dict whose keys are ints and texts; one whose keys are tuples of ints and texts (the empty one is both) -/
  | dK (kvs:List (Key × V)) | dT (kvs:List (List Key × V))
  /-- a set of ints: its members, its size -/
  | set (S:Int→Bool) (n:Nat)
  /-- an instance of the class at C, its dict at dx, its attributes -/
  | ins (C dx:Addr) (fs:List (Str × V))
  /-- the dict of the instance at x -/
  | own (x:Addr)
  /-- the dict of an exception -/
  | xd (fs:List (Str × V))
  /-- a bound method, f of x -/
  | met (f x:Addr)
  /-- a range object lo, lo + 1, .. below hi -/
  | rng (lo hi:Int)
  /-- a thing that is known to the object (the script; a dict while a loop walks it): read, never written while it is so -/
  | frz (o:Obj) (u:HO)
  /-- a code object's table -/
  | tbl (ps:Array Value)
  /-- any other thing, by what is true of its one object (a def of one's own: rG a S n := HO.ext fun h => ..) -/
  | ext (φ:Heap→Prop)
abbrev Hp:=Addr→Option HO
def upd (H:Hp) (a:Addr) (o:HO):Hp:=fun b=>if b=a then some o else H b
theorem bG {H:Hp} {a:Addr} {o:HO}:upd H a o a=some o:=by unfold upd;rw [if_pos rfl]
theorem aV {H:Hp} {a b:Addr} {o:HO} (h:b≠a):upd H a o b=H b:=by unfold upd;rw [if_neg h]
theorem bD {H:Hp} {a b:Addr} {o:HO} (h:H a=some o) (h':H b=none):a≠b:=by
  intro e;subst e;rw [h] at h';cases h'
section
variable (P:Program) (w:World)
def eG (H:Hp) (h:Heap) (a:Addr):HO→Prop
  | .lst xs=>xs.length≤sizeLine∧∃ (its:List Value) (n:Nat),Vals xs its∧h.get? a=some { cls:=.type "list",data:=.seq its.toArray n }
  | .tup xs=>xs.length≤sizeLine∧∃ its:List Value,Vals xs its∧IsTup h a its.toArray
  | .dK kvs=>kvs.length≤sizeLine∧(a == sysModules)=false∧∃ vs,KV kvs vs∧h.DictOf (dZ P w) a vs
  | .dT kvs=>kvs.length≤sizeLine∧(a == sysModules)=false∧∃ xs:List (List Key × Addr × Value),
      Paired (fun (p:List Key × V) (q:List Key × Addr × Value)=>p.1=q.1∧H q.2.1=some (.tup (p.1.map kV))∧RelV p.2 q.2.2) kvs xs ∧
      ∃ o es ep,h.get? a=some o∧o.ExactDict∧o.data=.dict es ep∧es.toList=xs.map (entryOfKey (tupleKind (dZ P w)))∧(xs.map (·.1)).Nodup
  | .set S n=>h.SetOf (intKind P w) a S n
  | .ins C dx fs=>H dx=some (.own a)∧fs.length≤1000∧dx≠a∧h.get? a=some (PySem.W.instObj C dx) ∧
      ∃ mA,h.Ns1 dx mA∧(∀ f,Rq (fs.lookup f) (mA f))∧PySem.Within mA (fs.map (·.1))
  | .own _=>∃ o,h.get? a=some o
  | .xd fs=>∃ mA,h.Ns1 a mA∧∀ f,Rq (fs.lookup f) (mA f)
  | .rng lo hi=>∃ t u v,h.get? a=some { cls:=.type "range",data:=.fields #[.int lo t,.int hi u,.int 1 v] }
  | .frz o u=>h.get? a=some o∧eG H h a u
  | .tbl ps=>h.get? a=some { cls:=.none,data:=.fields ps }
  | .met f x=>h.get? a=some (PySem.W.methodObj (.ref f) (.ref x))
  | .ext φ=>φ h∧(∃ o,h.get? a=some o)∧∀ h1 h2:Heap,φ h1→(∀ o,h1.get? a=some o→h2.get? a=some o)→φ h2
def HOk (H:Hp) (h:Heap):Prop:=∀ a o,H a=some o→eG P w H h a o
end
section
variable {P:Program} {w:World} {H H':Hp} {h h':Heap} {a:Addr} {o:HO}
theorem eG.lt (x:eG P w H h a o):a<h.objs.size:=by
  cases o with
  | lst xs=>obtain ⟨_,_,_,_,e⟩:=x;exact Heap.lt_size e
  | tup xs=>obtain ⟨_,_,_,p⟩:=x;exact p.lt
  | dK kvs=>obtain ⟨_,_,_,_,o,_,_,e,_⟩:=x;exact Heap.lt_size e
  | dT kvs=>obtain ⟨_,_,_,_,o,_,_,e,_⟩:=x;exact Heap.lt_size e
  | set S n=>obtain ⟨o,_,_,_,e,_⟩:=x;exact Heap.lt_size e
  | ins C dx fs=>obtain ⟨_,_,_,e,_⟩:=x;exact Heap.lt_size e
  | own y=>obtain ⟨_,e⟩:=x;exact Heap.lt_size e
  | xd fs=>obtain ⟨_,⟨_,_,_,e,_⟩,_⟩:=x;exact Heap.lt_size e
  | rng lo hi=>obtain ⟨_,_,_,e⟩:=x;exact Heap.lt_size e
  | frz ob u=>obtain ⟨e,_⟩:=x;exact Heap.lt_size e
  | tbl ps=>exact Heap.lt_size (show h.get? a=some _ from x)
  | met f y=>exact Heap.lt_size (show h.get? a=some _ from x)
  | ext φ=>obtain ⟨_,⟨_,e⟩,_⟩:=x;exact Heap.lt_size e
theorem Paired.U8 {α β:Type} {F G:α→β→Prop}:∀ {l₁:List α} {l₂:List β},Paired F l₁ l₂→(∀ a b,F a b→G a b)→Paired G l₁ l₂
  | _,_,.nil,_=>.nil
  | _,_,.cons r t,f=>.cons (f _ _ r) (Paired.U8 t f)
theorem eG.stay (x:eG P w H h a o) (k:∀ b u,(b=a∨H b=some (.own a))→h.get? b=some u→h'.get? b=some u)
    (ho:∀ b,H b=some (.own a)→H' b=some (.own a)) (ht:∀ b xs,H b=some (.tup xs)→H' b=some (.tup xs)):eG P w H' h' a o:=by
  induction o with
  | lst xs=>obtain ⟨z,its,n,r,e⟩:=x;exact ⟨z,its,n,r,k _ _ (.inl rfl) e⟩
  | tup xs=>obtain ⟨z,its,r,ob,e,c⟩:=x;exact ⟨z,its,r,ob,k _ _ (.inl rfl) e,c⟩
  | dK kvs=>obtain ⟨z,y,vs,r,ob,es,ep,e,c⟩:=x;exact ⟨z,y,vs,r,ob,es,ep,k _ _ (.inl rfl) e,c⟩
  | dT kvs =>
    obtain ⟨z,y,xs,r,ob,es,ep,e,c⟩:=x
    exact ⟨z,y,xs,Paired.U8 r fun p q z=>⟨z.1,ht _ _ z.2.1,z.2.2⟩,ob,es,ep,k _ _ (.inl rfl) e,c⟩
  | set S n=>obtain ⟨ob,es,ep,t,e,c⟩:=x;exact ⟨ob,es,ep,t,k _ _ (.inl rfl) e,c⟩
  | ins C dx fs =>
    obtain ⟨d,z,ne,e,mA,⟨od,es,ep,e2,c⟩,r⟩:=x
    exact ⟨ho _ d,z,ne,k _ _ (.inl rfl) e,mA,⟨od,es,ep,k _ _ (.inr d) e2,c⟩,r⟩
  | own y=>obtain ⟨ob,e⟩:=x;exact ⟨ob,k _ _ (.inl rfl) e⟩
  | xd fs=>obtain ⟨mA,⟨od,es,ep,e,c⟩,r⟩:=x;exact ⟨mA,⟨od,es,ep,k _ _ (.inl rfl) e,c⟩,r⟩
  | rng lo hi=>obtain ⟨t,u,v,e⟩:=x;exact ⟨t,u,v,k _ _ (.inl rfl) e⟩
  | frz ob u ih=>obtain ⟨e,q⟩:=x;exact ⟨k _ _ (.inl rfl) e,ih q⟩
  | tbl ps =>
    have e:h.get? a=some { cls:=.none,data:=.fields ps }:=x
    show h'.get? a=some { cls:=.none,data:=.fields ps }
    exact k a _ (.inl rfl) e
  | met f y =>
    have e:h.get? a=some (PySem.W.methodObj (.ref f) (.ref y)):=x
    show h'.get? a=some (PySem.W.methodObj (.ref f) (.ref y))
    exact k a _ (.inl rfl) e
  | ext φ=>obtain ⟨p,⟨o,e⟩,st⟩:=x;exact ⟨st _ _ p fun o q=>k _ _ (.inl rfl) q,⟨o,k _ _ (.inl rfl) e⟩,st⟩
theorem HOk.lt (x:HOk P w H h) (e:H a=some o):a<h.objs.size:=(x a o e).lt
theorem HOk.fresh (x:HOk P w H h) (e:h.objs.size≤a):H a=none:=by
  cases q:H a with
  | none=>rfl
  | some u=>exact absurd (Nat.lt_of_lt_of_le (x.lt q) e) (Nat.lt_irrefl _)
theorem HOk.kept (x:HOk P w H h) (k:∀ b u,h.get? b=some u→h'.get? b=some u):HOk P w H h':=fun a o e =>
  (x a o e).stay (fun b u _ q=>k b u q) (fun _ q=>q) fun _ _ q=>q
theorem HOk.laid (x:HOk P w H h) (k:∀ b u,h.get? b=some u→h'.get? b=some u) (hp:h.objs.size≤a) (new:eG P w (upd H a o) h' a o):HOk P w (upd H a o) h':=fun b u e=>by
  have hn:=x.fresh hp
  by_cases hb:b=a
  · subst hb;rw [bG] at e;cases e;exact new
  · rw [aV hb] at e
    exact (x b u e).stay (fun c v _ q=>k c v q) (fun c q=>by rw [aV (bD q hn)];exact q) fun c xs q=>by rw [aV (bD q hn)];exact q
end
def Rd (H:Hp) (a:Addr) (u:HO):Prop:=H a=some u∨∃ o,H a=some (.frz o u)
theorem Rd.ok {P:Program} {w:World} {H:Hp} {h:Heap} {a:Addr} {u:HO} (r:Rd H a u) (x:HOk P w H h):eG P w H h a u:=by
  rcases r with r | ⟨o,r⟩
  · exact x a u r
  · obtain ⟨_,q⟩:=x a _ r
    exact q
def Mut:Option HO→Prop
  | some (.lst _)=>True
  | some (.dK _)=>True
  | some (.dT _)=>True
  | some (.set _ _)=>True
  | some (.ins _ _ _)=>True
  | some (.ext _)=>True
  | _=>False
section
variable {P:Program} {w:World} {H:Hp} {h h':Heap} {x e:Addr} {o':HO}
theorem HOk.write (ok:HOk P w H h) (mu:Mut (H x)) (he:e=x∨H e=some (.own x)) (k:∀ b u,b≠e→h.get? b=some u→h'.get? b=some u) (heo:∃ u,h'.get? e=some u)
    (new:eG P w (upd H x o') h' x o'):HOk P w (upd H x o') h':=fun b u q=>by
  have nown:∀ c y,H c=some (.own y)→c≠x:=fun c y r z=>by subst z;rw [r] at mu;exact mu
  have ntup:∀ c xs,H c=some (.tup xs)→c≠x:=fun c xs r z=>by subst z;rw [r] at mu;exact mu
  by_cases hb:b=x
  · subst hb;rw [bG] at q;cases q;exact new
  · rw [aV hb] at q
    by_cases hbe:b=e
    · have q':H b=some (.own x):=by
        rcases he with z | z
        · exact absurd (hbe.trans z) hb
        · rw [hbe];exact z
      rw [q] at q';cases q'
      obtain ⟨v,hv⟩:=heo
      exact ⟨v,by rw [hbe];exact hv⟩
    · refine (ok b u q).stay (fun c v hc r=>k c v ?_ r) (fun c r=>by rw [aV (nown c b r)];exact r) fun c xs r=>by rw [aV (ntup c xs r)];exact r
      rcases hc with rfl | hc
      · exact hbe
      · rintro rfl
        rcases he with z | z
        · exact nown c b hc z
        · rw [hc] at z;cases z;exact hb rfl
end
structure Un (fs ex:List Addr) (H H':Hp) (h h':Heap):Prop where
  keep:∀ b o,h.get? b=some o→H b=none→b ∉ fs→b ∉ ex→h'.get? b=some o
  slot:∀ b o,h.get? b=some o→H b=none→b∈fs→b ∉ ex→∃ sl,h'.get? b=some { o with slots:=sl }
  free:∀ b o,h.get? b=some o→H b=none→b ∉ ex→H' b=none
  there:∀ b o,h.get? b=some o→b ∉ ex→∃ o',h'.get? b=some o'
  tups:∀ b xs,H b=some (.tup xs)→H' b=some (.tup xs)
  frzs:∀ b o u,H b=some (.frz o u)→H' b=some (.frz o u)
  tbls:∀ b ps,H b=some (.tbl ps)→∃ more,H' b=some (.tbl (ps++more))
section
variable {fs fs' ex ex':List Addr} {H H1 H2:Hp} {h h1 h2 h':Heap} {a x e:Addr} {o:HO}
theorem Un.any (u:Un fs ex H H1 h h1) {b:Addr} {ob:Obj} (q:h.get? b=some ob) (n:H b=none) (hx:b ∉ ex):∃ sl,h1.get? b=some { ob with slots:=sl }:=by
  by_cases hb:b∈fs
  · exact u.slot b ob q n hb hx
  · exact ⟨ob.slots,u.keep b ob q n hb hx⟩
theorem Un.kept (k:∀ b u,h.get? b=some u→h'.get? b=some u):Un fs ex H H h h' :=
  ⟨fun b ob q _ _ _=>k b ob q,fun b ob q _ _ _=>⟨ob.slots,k b ob q⟩,fun _ _ _ n _=>n,fun b ob q _=>⟨ob,k b ob q⟩,fun _ _ q=>q,fun _ _ _ q=>q,fun _ ps q=>⟨#[],by rw [q];simp⟩⟩
theorem Un.refl:Un fs ex H H h h:=Un.kept fun _ _ q=>q
theorem Un.laid (k:∀ b u,h.get? b=some u→h'.get? b=some u) (hp:h.objs.size≤a) (hn:H a=none):Un fs ex H (upd H a o) h h' where
  keep:=fun b u q _ _ _=>k b u q
  slot:=fun b u q _ _ _=>⟨u.slots,k b u q⟩
  free:=fun b u q n _=>by rw [aV (Nat.ne_of_lt (Nat.lt_of_lt_of_le (Heap.lt_size q) hp))];exact n
  there:=fun b u q _=>⟨u,k b u q⟩
  tups:=fun b xs q=>by rw [aV (bD q hn)];exact q
  frzs:=fun b u xs q=>by rw [aV (bD q hn)];exact q
  tbls:=fun b ps q=>⟨#[],by rw [aV (bD q hn),q];simp⟩
theorem Un.write (mu:Mut (H x)) (he:e=x∨H e=some (.own x)) (k:∀ b u,b≠e→h.get? b=some u→h'.get? b=some u) (heo:∃ u,h'.get? e=some u):Un fs ex H (upd H x o) h h':=by
  have hx:∀ b,H b=none→b≠x:=fun b n z=>by subst z;rw [n] at mu;exact mu
  have hb:∀ b,H b=none→b≠e:=fun b n z=>by
    subst z
    rcases he with r | r
    · exact hx b n r
    · rw [n] at r;cases r
  have hm:∀ b u,H b=some u→¬ Mut (some u)→b≠x:=fun b u q nm z=>by subst z;rw [q] at mu;exact nm mu
  refine ⟨fun b u q n _ _=>k b u (hb b n) q,fun b u q n _ _=>⟨u.slots,k b u (hb b n) q⟩,fun b u q n _=>by rw [aV (hx b n)];exact n,fun b u q _=>?_,
    fun b xs q=>by rw [aV (hm b _ q fun z=>z)];exact q,fun b u xs q=>by rw [aV (hm b _ q fun z=>z)];exact q,fun b ps q=>⟨#[],by rw [aV (hm b _ q fun z=>z),q];simp⟩⟩
  by_cases hbe:b=e
  · subst hbe;exact heo
  · exact ⟨u,k b u hbe q⟩
end
def trk (h:Heap) (H:Hp):List Addr:=(List.range h.objs.size).filter fun a=>(H a).isSome
def Cw (h:Heap) (H:Hp):Heap:=PySem.W.hideAll h (trk h H)
theorem Bm (h:Heap) (H:Hp):(Cw h H).objs.size=h.objs.size:=PySem.W.hideAll_size _ _
theorem El {h:Heap} {H:Hp} {b:Addr} {o:Obj} (e:h.get? b=some o) (n:H b=none):(Cw h H).get? b=some o :=
  PySem.W.hideAll_get _ e fun hm=>by
    have q:(H b).isSome=true:=(List.mem_filter.mp hm).2
    rw [n] at q;simp at q
theorem KH {h:Heap} {H:Hp} {b:Addr} {o:Obj} (e:(Cw h H).get? b=some o):h.get? b=some o∧H b=none:=by
  have e':h.get? b=some o:=PySem.W.of_hideAll (trk h H) e
  refine ⟨e',?_⟩
  cases q:H b with
  | none=>rfl
  | some x =>
    have hm:b∈trk h H:=List.mem_filter.mpr ⟨List.mem_range.mpr (Heap.lt_size e'),by simp [q]⟩
    have z:(Cw h H).get? b=none:=PySem.W.hideAll_none (trk h H) hm
    rw [z] at e;cases e
end L2
namespace L2
open PySem PySem.Spec PyProof.Rows
structure Mod (K:PySem.W.Frag) (mg:Str→Option Value) (base:Heap):Prop where
  kin:K.In base
  glob:base.Ns mainGlobals mg
  blt:∃ mb,base.Ns builtinsNs mb∧∀ x:Str,x≠"__name__"→mb x=bootBuiltins x
  nolimit:base.NoLimit
structure Cx where
  prog:Program
  w:World
  K:PySem.W.Frag
  mg:Str→Option Value
  base:Heap
  A:Around
  N:List Str
  s₀:Shared
  H₀:Hp
  env:Env
  outer:List Env
  stack:List Env
  ex:List Addr
  fn:Str→Bool
  calm:Bool
  pn:List (Addr × Obj)
  xe:Value→Shared→Prop
def frs (l:List Env):List Addr:=l.filterMap (·.frame)
abbrev Cx.fs (X:Cx):List Addr:=frs X.outer
def Vis (sc:Scope) (x:Str):Prop:=sc.names.lookup x=some .local∨sc.names.lookup x=some .cell∨sc.names.lookup x=some .free
def Loc (sc:Scope) (x:Str):Prop:=sc.names.lookup x=some .local∨sc.names.lookup x=some .cell
def Look (env:Env) (h:Heap) (m:Str→Option Value) (x:Str) (u:Value):Prop :=
  (env.kindOf x=some .local∧m x=some u)∨((env.kindOf x=some .cell∨env.kindOf x=some .free)∧∃ c,env.cells.lookup x=some c∧h.IsCell c (some u))
structure Cx.Ok (X:Cx):Prop where
  mod:Mod X.K X.mg X.base
  kind:X.env.scope.kind=.function
  glob:X.env.globals=mainGlobals
  blt:X.env.builtins=builtinsNs
  above:X.s₀.heap.objs.size≤X.env.locals
  inj:∀ x y c,X.env.cells.lookup x=some c→X.env.cells.lookup y=some c→x=y
  has:∀ x,(X.env.kindOf x=some .cell∨X.env.kindOf x=some .free)→∃ c,X.env.cells.lookup x=some c
  cab:∀ x c,X.fn x=true→X.env.cells.lookup x=some c→X.s₀.heap.objs.size≤c
  hd:X.calm=true→X.A.handled=none
  frames:X.A.frames=some X.stack
  stk:X.stack=X.outer∨(X.stack=X.env :: X.outer∧X.env.frame=some X.env.locals)
  exf:∀ b∈X.ex,b≠X.env.locals∧∀ x c,X.env.cells.lookup x=some c→c≠b
  bs:∀ b o,X.base.get? b=some o→X.s₀.heap.get? b=some o∧X.H₀ b=none
  bsz:X.base.objs.size≤X.s₀.heap.objs.size
  noex:∀ b o,X.base.get? b=some o→b ∉ X.ex
  exfs:∀ b∈X.ex,b ∉ X.fs
  Bo:X.s₀.heap.FunFrames X.base X.outer
  frf:∀ b∈X.fs,X.H₀ b=none
structure Inv (X:Cx) (pins:List (Addr × Obj)) (σ:List (Option V)) (H:Hp) (s:Shared):Prop where
  ok:X.Ok
  os:s.os=X.s₀.os
  bare:AllBare s.gens
  base:Un X.fs X.ex X.H₀ H X.s₀.heap s.heap
  loc:∃ m,s.heap.Ns X.env.locals m∧∀ (i:Nat) (x:Str) (v:V),X.N[i]?=some x→σ[i]?=some (some v)→Vis X.env.scope x→∃ u,RelV v u∧Look X.env s.heap m x u
  cell:∀ x c,X.env.cells.lookup x=some c→∃ v,s.heap.IsCell c v
  free:H X.env.locals=none
  freeC:∀ x c,X.env.cells.lookup x=some c→H c=none
  pin:∀ p∈X.pn++pins,s.heap.get? p.1=some p.2∧H p.1=none∧p.1≠X.env.locals∧p.1 ∉ X.fs∧∀ v,p.2.data≠.cell v
  hok:HOk X.prog X.w H s.heap
  len:σ.length=X.N.length
section
variable {X:Cx} {pins:List (Addr × Obj)} {σ:List (Option V)} {H H':Hp} {s:Shared} {h':Heap}
theorem Cx.Ok.nofr (ok:X.Ok) {b:Addr} {o:Obj} (e:X.base.get? b=some o):b ∉ X.fs:=fun hb=>by
  have:=(ok.Bo.mem hb).1
  rw [e] at this;cases this
theorem Inv.bs (I:Inv X pins σ H s):∀ b o,X.base.get? b=some o→s.heap.get? b=some o∧H b=none:=fun b o e =>
  ⟨I.base.keep b o (I.ok.bs b o e).1 (I.ok.bs b o e).2 (I.ok.nofr e) (I.ok.noex b o e),I.base.free b o (I.ok.bs b o e).1 (I.ok.bs b o e).2 (I.ok.noex b o e)⟩
theorem Inv.bk (I:Inv X pins σ H s):∀ b o,X.base.get? b=some o→s.heap.get? b=some o:=fun b o e=>(I.bs b o e).1
theorem Inv.mod (I:Inv X pins σ H s):Mod X.K X.mg X.base:=I.ok.mod
theorem Inv.kIn (I:Inv X pins σ H s):X.K.In s.heap:=I.ok.mod.kin.keeps I.bk
theorem Inv.nolimit (I:Inv X pins σ H s):s.heap.NoLimit:=I.ok.mod.nolimit.keeps I.bk
theorem Inv.lt (I:Inv X pins σ H s):X.env.locals<s.heap.objs.size:=let ⟨_,hn,_⟩:=I.loc;hn.lt
theorem Inv.sz (I:Inv X pins σ H s):X.s₀.heap.objs.size≤s.heap.objs.size:=Nat.le_trans I.ok.above (Nat.le_of_lt I.lt)
theorem Inv.nofs (I:Inv X pins σ H s) {a:Addr} (h:s.heap.objs.size≤a):a ∉ X.fs:=fun hb=>by
  obtain ⟨_,o,ho,_⟩:=I.ok.Bo.mem hb
  exact absurd (Nat.lt_of_lt_of_le (Heap.lt_size ho) (Nat.le_trans I.sz h)) (Nat.lt_irrefl _)
theorem Inv.cne (I:Inv X pins σ H s):∀ x c,X.env.cells.lookup x=some c→c≠X.env.locals:=fun x c e z=>by
  obtain ⟨v,o,ho,hd⟩:=I.cell x c e
  obtain ⟨m,⟨o',es,ep,ho',hd',_⟩,_⟩:=I.loc
  rw [z,ho'] at ho;cases ho;rw [hd'] at hd;cases hd
theorem Inv.Bo (I:Inv X pins σ H s):s.heap.FunFrames X.base X.outer:=by
  have all:∀ (l:List Env),(∀ b∈frs l,b∈X.fs)→X.s₀.heap.FunFrames X.base l→s.heap.FunFrames X.base l:=by
    intro l
    induction l with
    | nil=>intro _ _;trivial
    | cons env r ih =>
      intro hs hl
      obtain ⟨hk,⟨L,o,hf,hn,ho,hd⟩,hr⟩:=hl
      have hL:L∈X.fs:=hs L (by unfold frs;rw [List.filterMap_cons,hf];exact List.mem_cons_self)
      obtain ⟨sl,e⟩:=I.base.slot L o ho (I.ok.frf L hL) hL fun z=>I.ok.exfs L z hL
      exact ⟨hk,⟨L,_,hf,hn,e,hd⟩,ih (fun b hb=>hs b (by unfold frs;rw [List.filterMap_cons,hf];exact List.mem_cons_of_mem _ hb)) hr⟩
  exact all X.outer (fun _ hb=>hb) I.ok.Bo
theorem Inv.stack (I:Inv X pins σ H s):s.heap.FunFrames X.base X.stack:=by
  rcases I.ok.stk with e | ⟨e,hf⟩
  · rw [e];exact I.Bo
  · rw [e]
    obtain ⟨m,hn,_⟩:=I.loc
    refine .cons (by rw [I.ok.kind];decide) hf hn ?_ I.Bo
    exact Heap.get?_none_of_le (Nat.le_trans I.ok.bsz I.ok.above)
theorem Inv.yZ (I:Inv X pins σ H s):∀ b∈frs X.stack,b∈X.env.locals :: X.fs:=fun b hb=>by
  rcases I.ok.stk with e | ⟨e,hf⟩
  · rw [e] at hb;exact List.mem_cons_of_mem _ hb
  · rw [e] at hb
    unfold frs at hb
    rw [List.filterMap_cons,hf] at hb
    exact hb
theorem Inv.uJ (I:Inv X pins σ H s):∀ b∈frs X.stack,H b=none:=fun b hb=>by
  rcases List.mem_cons.mp (I.yZ b hb) with e | hb
  · rw [e];exact I.free
  · obtain ⟨_,o,ho,_⟩:=I.ok.Bo.mem hb
    exact I.base.free b o ho (I.ok.frf b hb) fun z=>I.ok.exfs b z hb
theorem Inv.step {g':Array GenState} {t':Nat} {d':Drawn} {ch:List Addr} (I:Inv X pins σ H s)
    (hch:∀ b∈ch,(b∈X.ex∨X.s₀.heap.objs.size≤b)∧b≠X.env.locals∧(∀ x c,X.env.cells.lookup x=some c→c≠b)∧∀ p∈X.pn++pins,p.1≠b)
    (keep:∀ b o,b≠X.env.locals→b ∉ X.fs→b ∉ ch→s.heap.get? b=some o→H b=none→h'.get? b=some o)
    (slot:∀ b o,b≠X.env.locals→b∈X.fs→b ∉ ch→s.heap.get? b=some o→H b=none→∃ sl,h'.get? b=some { o with slots:=sl }) (free:∀ b o,b ∉ ch→s.heap.get? b=some o→H b=none→H' b=none)
    (there:∀ b o,b ∉ ch→s.heap.get? b=some o→∃ o',h'.get? b=some o')
    (tups:∀ b xs,H b=some (.tup xs)→H' b=some (.tup xs)) (frzs:∀ b o u,H b=some (.frz o u)→H' b=some (.frz o u)) (tbls:∀ b ps,H b=some (.tbl ps)→∃ more,H' b=some (.tbl (ps++more)))
    (ns:∀ m,s.heap.Ns X.env.locals m→h'.Ns X.env.locals m) (hok:HOk X.prog X.w H' h') (hg:AllBare g') :
    Inv X pins σ H' { s with heap:=h',gens:=g',drawn:=d',toks:=t' }:=by
  have neL:∀ b o,X.s₀.heap.get? b=some o→b≠X.env.locals:=fun b o e=>Nat.ne_of_lt (Nat.lt_of_lt_of_le (Heap.lt_size e) I.ok.above)
  have neC:∀ b o,X.s₀.heap.get? b=some o→b ∉ X.ex→b ∉ ch:=fun b o e hx hb=>by
    rcases (hch b hb).1 with z | z
    · exact hx z
    · exact absurd (Nat.lt_of_lt_of_le (Heap.lt_size e) z) (Nat.lt_irrefl _)
  have cellK:∀ x c,X.env.cells.lookup x=some c→∀ v,s.heap.IsCell c v→h'.IsCell c v:=fun x c e v ⟨o,ho,hd⟩=>by
    have nch:c ∉ ch:=fun z=>(hch c z).2.2.1 x c e rfl
    by_cases hc:c∈X.fs
    · obtain ⟨sl,q⟩:=slot c o (I.cne x c e) hc nch ho (I.freeC x c e)
      exact ⟨_,q,hd⟩
    · exact ⟨o,keep c o (I.cne x c e) hc nch ho (I.freeC x c e),hd⟩
  refine ⟨I.ok,I.os,hg,⟨fun b o e n hb hx=>?_,fun b o e n hb hx=>?_,fun b o e n hx=>?_,fun b o e hx=>?_,fun b xs e=>tups b xs (I.base.tups b xs e),fun b o xs e=>frzs b o xs (I.base.frzs b o xs e),fun b ps e=>?_⟩,?_,fun x c e=>?_,?_,fun x c e=>?_,fun p hp=>?_,hok,I.len⟩
  · exact keep b o (neL b o e) hb (neC b o e hx) (I.base.keep b o e n hb hx) (I.base.free b o e n hx)
  · obtain ⟨sl,e1⟩:=I.base.slot b o e n hb hx
    obtain ⟨sl',e2⟩:=slot b _ (neL b o e) hb (neC b o e hx) e1 (I.base.free b o e n hx)
    exact ⟨sl',e2⟩
  · obtain ⟨o',e1⟩:=I.base.there b o e hx
    exact free b o' (neC b o e hx) e1 (I.base.free b o e n hx)
  · obtain ⟨o',e1⟩:=I.base.there b o e hx
    exact there b o' (neC b o e hx) e1
  · obtain ⟨m1,e1⟩:=I.base.tbls b ps e
    obtain ⟨m2,e2⟩:=tbls b _ e1
    exact ⟨m1++m2,by rw [e2,Array.append_assoc]⟩
  · obtain ⟨m,hn,hl⟩:=I.loc
    refine ⟨m,ns m hn,fun i x v e1 e2 e3=>?_⟩
    obtain ⟨u,r,l⟩:=hl i x v e1 e2 e3
    refine ⟨u,r,?_⟩
    rcases l with l | ⟨k,c,e,z⟩
    · exact .inl l
    · exact .inr ⟨k,c,e,cellK x c e _ z⟩
  · obtain ⟨v,z⟩:=I.cell x c e
    exact ⟨v,cellK x c e v z⟩
  · obtain ⟨m,⟨o,_,_,ho,_⟩,_⟩:=I.loc
    exact free _ o (fun z=>(hch _ z).2.1 rfl) ho I.free
  · obtain ⟨v,o,ho,hd⟩:=I.cell x c e
    exact free c o (fun z=>(hch c z).2.2.1 x c e rfl) ho (I.freeC x c e)
  · obtain ⟨e,n,ne,nf,d⟩:=I.pin p hp
    have nch:p.1 ∉ ch:=fun z=>(hch p.1 z).2.2.2 p hp rfl
    exact ⟨keep p.1 p.2 ne nf nch e n,free p.1 p.2 nch e n,ne,nf,d⟩
theorem Inv.un {t':Nat} (I:Inv X pins σ H s) (u:Un X.fs [] H H' s.heap h') (hok:HOk X.prog X.w H' h'):Inv X pins σ H' { s with heap:=h',toks:=t' }:=by
  obtain ⟨m,⟨o,es,ep,ho,r⟩,_⟩:=id I.loc
  obtain ⟨sl,hL⟩:=u.any ho I.free (by simp)
  exact I.step (g':=s.gens) (d':=s.drawn) (ch:=[]) (fun _ z=>nomatch z) (fun b o _ hb _ e n=>u.keep b o e n hb (by simp)) (fun b o _ hb _ e n=>u.slot b o e n hb (by simp)) (fun b o _ e n=>u.free b o e n (by simp)) (fun b o _ e=>u.there b o e (by simp)) u.tups u.frzs u.tbls (fun m' hm=>by
    obtain ⟨o',es',ep',ho',r'⟩:=hm
    rw [ho] at ho';cases ho'
    exact ⟨_,es',ep',hL,r'⟩) hok I.bare
theorem Inv.call {g':Array GenState} {t':Nat} {d':Drawn} {ch:List Addr} (I:Inv X pins σ H s) (u:Un (frs X.stack) ch H H' s.heap h') (hok:HOk X.prog X.w H' h') (hg:AllBare g')
    (hch:∀ b∈ch,(b∈X.ex∨X.s₀.heap.objs.size≤b)∧b≠X.env.locals∧(∀ x c,X.env.cells.lookup x=some c→c≠b)∧∀ p∈X.pn++pins,p.1≠b) :
    Inv X pins σ H' { s with heap:=h',gens:=g',drawn:=d',toks:=t' }:=by
  obtain ⟨m,⟨o,es,ep,ho,r⟩,_⟩:=id I.loc
  obtain ⟨sl,hL⟩:=u.any ho I.free fun z=>(hch _ z).2.1 rfl
  exact I.step (ch:=ch) hch (fun b o hL hb hc e n=>u.keep b o e n (fun z=>(List.mem_cons.mp (I.yZ b z)).elim hL hb) hc) (fun b o _ _ hc e n=>u.any e n hc) (fun b o hc e n=>u.free b o e n hc) (fun b o hc e=>u.there b o e hc) u.tups u.frzs u.tbls (fun m' hm=>by
    obtain ⟨o',es',ep',ho',r'⟩:=hm
    rw [ho] at ho';cases ho'
    exact ⟨_,es',ep',hL,r'⟩) hok hg
theorem Inv.turned {t':Nat} {it:Addr} (I:Inv X pins σ H s) (k:∀ b o,b≠it→s.heap.get? b=some o→h'.get? b=some o) (hn:H it=none) (hL:it≠X.env.locals)
    (h1:it∈X.ex∨X.s₀.heap.objs.size≤it) (h2:∀ x c,X.env.cells.lookup x=some c→c≠it) (h3:∀ p∈X.pn++pins,p.1≠it):Inv X pins σ H { s with heap:=h',toks:=t' }:=by
  have nit:∀ b u,H b=some u→b≠it:=fun b u e z=>by rw [z,hn] at e;cases e
  refine I.step (g':=s.gens) (d':=s.drawn) (ch:=[it]) (fun b hb=>?_) (fun b o _ _ hc e _=>k b o (fun z=>hc (by simp [z])) e) (fun b o _ _ hc e _=>⟨o.slots,k b o (fun z=>hc (by simp [z])) e⟩) (fun _ _ _ _ n=>n)
    (fun b o hc e=>⟨o,k b o (fun z=>hc (by simp [z])) e⟩) (fun _ _ e=>e) (fun _ _ _ e=>e) (fun b ps e=>⟨#[],by rw [e];simp⟩) (fun m hm=>?_) (fun b u e=>?_) I.bare
  · have e:b=it:=by simpa using hb
    subst e
    exact ⟨h1,hL,h2,h3⟩
  · obtain ⟨o,es,ep,ho,r⟩:=hm
    exact ⟨o,es,ep,k _ o (Ne.symm hL) ho,r⟩
  · refine (I.hok b u e).stay (fun c v hc q=>k c v ?_ q) (fun _ q=>q) fun _ _ q=>q
    rcases hc with z | z
    · rw [z];exact nit b u e
    · exact nit c _ z
theorem Inv.tok (I:Inv X pins σ H s) (t:Nat):Inv X pins σ H { s with toks:=t }:=I.un (h':=s.heap) (t':=t) Un.refl I.hok
theorem Inv.kept {t':Nat} (I:Inv X pins σ H s) (k:∀ b u,s.heap.get? b=some u→h'.get? b=some u):Inv X pins σ H { s with heap:=h',toks:=t' }:=I.un (Un.kept k) (I.hok.kept k)
theorem Inv.laid {a:Addr} {o:HO} {t':Nat} (I:Inv X pins σ H s) (k:∀ b u,s.heap.get? b=some u→h'.get? b=some u) (hp:s.heap.objs.size≤a) (new:eG X.prog X.w (upd H a o) h' a o) :
    Inv X pins σ (upd H a o) { s with heap:=h',toks:=t' }:=I.un (Un.laid k hp (I.hok.fresh hp)) (I.hok.laid k hp new)
theorem Inv.write {x e:Addr} {o:HO} {t':Nat} (I:Inv X pins σ H s) (mu:Mut (H x)) (he:e=x∨H e=some (.own x)) (k:∀ b u,b≠e→s.heap.get? b=some u→h'.get? b=some u) (heo:∃ u,h'.get? e=some u)
    (new:eG X.prog X.w (upd H x o) h' x o):Inv X pins σ (upd H x o) { s with heap:=h',toks:=t' }:=I.un (Un.write mu he k heo) (I.hok.write mu he k heo new)
theorem Inv.uV {pins':List (Addr × Obj)} (I:Inv X pins σ H s) (h:∀ p∈pins',s.heap.get? p.1=some p.2∧H p.1=none∧p.1≠X.env.locals∧p.1 ∉ X.fs∧∀ v,p.2.data≠.cell v):Inv X pins' σ H s :=
  ⟨I.ok,I.os,I.bare,I.base,I.loc,I.cell,I.free,I.freeC,fun p hp=>(List.mem_append.mp hp).elim (fun z=>I.pin p (List.mem_append_left _ z)) (h p),I.hok,I.len⟩
theorem wD {N:List Str} (hN:N.Nodup) {i j:Nat} {x:Str} (a:N[i]?=some x) (b:N[j]?=some x):i=j:=by
  obtain ⟨h1,e1⟩:=List.getElem?_eq_some_iff.mp a
  obtain ⟨h2,e2⟩:=List.getElem?_eq_some_iff.mp b
  exact (List.getElem_inj hN).mp (e1.trans e2.symm)
theorem rP {M:Model} {A:Around} {E:Value→Shared→Prop} {i:Nat} {x:Str} {v:V} {u:Value} {Q:Unit→Shared→Prop} (I:Inv X pins σ H s) (hN:X.N.Nodup) (hi:X.N[i]?=some x) (hx:Loc X.env.scope x) (r:RelV v u)
    (h:∀ s',Inv X pins (σ.set i (some v)) H s'→(∃ a,Heap.SameBut a s.heap s'.heap∧(a=X.env.locals∨X.env.cells.lookup x=some a))→Q () s') (hf:X.fn x=true∨X.env.scope.names.lookup x=some .local:=by first | exact .inl rfl | exact .inr rfl | assumption):wpAny M A (storeName X.env x u) Q E s:=by
  obtain ⟨m,hn,hl⟩:=id I.loc
  have hcls:(X.env.scope.kind == .class || (X.env.scope.kind == .module && X.env.locals != X.env.globals))=false:=by rw [I.ok.kind];rfl
  have hiσ:i<σ.length:=by rw [I.len];exact (List.getElem?_eq_some_iff.mp hi).1
  have cne:=I.cne
  have tracked:∀ {a:Addr} {h':Heap},(∃ o,s.heap.get? a=some o∧H a=none)→Heap.SameBut a s.heap h'→HOk X.prog X.w H h':=fun {a h'} ha hs b ob e=>by
    obtain ⟨_,_,hfree⟩:=ha
    refine (I.hok b ob e).stay (fun c w' hc q=>(hs.2 c ?_).trans q) (fun _ q=>q) fun _ _ q=>q
    rintro rfl
    rcases hc with rfl | hc
    · rw [hfree] at e;cases e
    · rw [hfree] at hc;cases hc
  rcases hx with hk | hk
  · refine wpAny_storeName_local hk hn (fun h' hn' hs=>?_) hcls
    obtain ⟨oL,_,_,hoL,_⟩:=id hn
    refine h _ ⟨I.ok,I.os,I.bare,⟨fun b o e n hb hx=>?_,fun b o e n hb hx=>?_,I.base.free,fun b o e hx=>?_,I.base.tups,I.base.frzs,I.base.tbls⟩,⟨_,hn',fun j y v' e1 e2 e3=>?_⟩,fun y c e=>?_,I.free,I.freeC,fun p hp=>?_,tracked ⟨oL,hoL,I.free⟩ hs,by simpa using I.len⟩ ⟨_,hs,.inl rfl⟩
    · exact (hs.2 b (Nat.ne_of_lt (Nat.lt_of_lt_of_le (Heap.lt_size e) I.ok.above))).trans (I.base.keep b o e n hb hx)
    · obtain ⟨sl,e1⟩:=I.base.slot b o e n hb hx
      exact ⟨sl,(hs.2 b (Nat.ne_of_lt (Nat.lt_of_lt_of_le (Heap.lt_size e) I.ok.above))).trans e1⟩
    · obtain ⟨o',e1⟩:=I.base.there b o e hx
      exact ⟨o',(hs.2 b (Nat.ne_of_lt (Nat.lt_of_lt_of_le (Heap.lt_size e) I.ok.above))).trans e1⟩
    · by_cases hj:j=i
      · subst hj
        rw [hi] at e1;cases e1
        rw [List.getElem?_set_self hiσ] at e2
        cases e2
        exact ⟨u,r,.inl ⟨hk,by simp⟩⟩
      · rw [List.getElem?_set_ne (Ne.symm hj)] at e2
        obtain ⟨u',r',q⟩:=hl j y v' e1 e2 e3
        refine ⟨u',r',?_⟩
        rcases q with ⟨k,e⟩ | ⟨k,c,e,z⟩
        · refine .inl ⟨k,?_⟩
          have:y≠x:=fun e=>hj (wD hN e1 (e ▸ hi))
          simp [this,e]
        · exact .inr ⟨k,c,e,z.sameBut hs (cne y c e)⟩
    · obtain ⟨w',z⟩:=I.cell y c e
      exact ⟨w',z.sameBut hs (cne y c e)⟩
    · obtain ⟨e,n,ne,nf,d⟩:=I.pin p hp
      exact ⟨(hs.2 p.1 ne).trans e,n,ne,nf,d⟩
  · have hfn:X.fn x=true:=by
      rcases hf with z | z
      · exact z
      · rw [z] at hk;cases hk
    obtain ⟨c,hc⟩:=I.ok.has x (.inl hk)
    obtain ⟨w',z⟩:=I.cell x c hc
    refine wpAny_storeName_cell I.ok.kind hk hc z (fun h' hc' hs=>?_)
    obtain ⟨oc,hoc,hocd⟩:=id z
    refine h { s with heap:=h' } ⟨I.ok,I.os,I.bare,⟨fun b o e n hb hx=>?_,fun b o e n hb hx=>?_,I.base.free,fun b o e hx=>?_,I.base.tups,I.base.frzs,I.base.tbls⟩,⟨m,hn.sameBut hs (Ne.symm (cne x c hc)),fun j y v' e1 e2 e3=>?_⟩,fun y c' e=>?_,I.free,I.freeC,fun p hp=>?_,tracked ⟨oc,hoc,I.freeC x c hc⟩ hs,by simpa using I.len⟩ ⟨c,hs,.inr hc⟩
    · exact (hs.2 b (Nat.ne_of_lt (Nat.lt_of_lt_of_le (Heap.lt_size e) (I.ok.cab x c hfn hc)))).trans (I.base.keep b o e n hb hx)
    · obtain ⟨sl,e1⟩:=I.base.slot b o e n hb hx
      exact ⟨sl,(hs.2 b (Nat.ne_of_lt (Nat.lt_of_lt_of_le (Heap.lt_size e) (I.ok.cab x c hfn hc)))).trans e1⟩
    · obtain ⟨o',e1⟩:=I.base.there b o e hx
      exact ⟨o',(hs.2 b (Nat.ne_of_lt (Nat.lt_of_lt_of_le (Heap.lt_size e) (I.ok.cab x c hfn hc)))).trans e1⟩
    · by_cases hj:j=i
      · subst hj
        rw [hi] at e1;cases e1
        rw [List.getElem?_set_self hiσ] at e2
        cases e2
        exact ⟨u,r,.inr ⟨.inl hk,c,hc,hc'⟩⟩
      · rw [List.getElem?_set_ne (Ne.symm hj)] at e2
        obtain ⟨u',r',q⟩:=hl j y v' e1 e2 e3
        refine ⟨u',r',?_⟩
        rcases q with q | ⟨k,c',e,z'⟩
        · exact .inl q
        · refine .inr ⟨k,c',e,z'.sameBut hs ?_⟩
          rintro rfl
          exact hj (wD hN e1 (I.ok.inj _ _ _ e hc ▸ hi))
    · by_cases hcc:c'=c
      · subst hcc;exact ⟨_,hc'⟩
      · obtain ⟨w2,z2⟩:=I.cell y c' e
        exact ⟨w2,z2.sameBut hs hcc⟩
    · obtain ⟨e,n,ne,nf,d⟩:=I.pin p hp
      refine ⟨(hs.2 p.1 ?_).trans e,n,ne,nf,d⟩
      intro q
      rw [q,hoc] at e
      have q':oc=p.2:=Option.some.inj e
      exact d w' (by rw [← q'];exact hocd)
theorem vQ {M:Model} {A:Around} {E:Value→Shared→Prop} {i:Nat} {x:Str} {v:V} {u:Value} {Q:Unit→Shared→Prop} (I:Inv X pins σ H s) (hN:X.N.Nodup) (hi:X.N[i]?=some x) (hx:Loc X.env.scope x) (r:RelV v u)
    (h:∀ s',Inv X pins (σ.set i (some v)) H s'→Q () s') (hf:X.fn x=true∨X.env.scope.names.lookup x=some .local:=by first | exact .inl rfl | exact .inr rfl | assumption):wpAny M A (storeName X.env x u) Q E s :=
  rP I hN hi hx r (fun s' I' _=>h s' I') hf
theorem Inv.call' {s':Shared} {ch:List Addr} (I:Inv X pins σ H s) (ho:s'.os=s.os) (u:Un (frs X.stack) ch H H' s.heap s'.heap) (hok:HOk X.prog X.w H' s'.heap) (hg:AllBare s'.gens)
    (hch:∀ b∈ch,(b∈X.ex∨X.s₀.heap.objs.size≤b)∧b≠X.env.locals∧(∀ x c,X.env.cells.lookup x=some c→c≠b)∧∀ p∈X.pn++pins,p.1≠b):Inv X pins σ H' s':=by
  obtain ⟨h',g',d',t',o'⟩:=s'
  have e:o'=s.os:=ho
  subst e
  exact I.call (g':=g') (t':=t') (d':=d') u hok hg hch
end
abbrev XK:=Value→Option Addr→Hp→Prop
abbrev St:=List (Option V)
abbrev VK:=V→Hp→Prop
abbrev TE:=St→Hp→VK→Prop
abbrev TT:=St→Hp→(Bool→Hp→Prop)→Prop
abbrev TA:=St→Hp→(List V→Hp→Prop)→Prop
structure Ends where
  nx:St→Hp→Prop
  rt:VK
  bk:St→Hp→Prop:=fun _ _=>False
  ct:St→Hp→Prop:=fun _ _=>False
abbrev TS:=Ends→St→Hp→Prop
def EP (X:Cx) (pins:List (Addr × Obj)) (σ:St) (Q:VK) (u:Value) (s':Shared):Prop:=∃ v H',Inv X pins σ H' s'∧RelV v u∧Q v H'
def TP (X:Cx) (pins:List (Addr × Obj)) (σ:St) (Q:Bool→Hp→Prop) (b:Bool) (s':Shared):Prop:=∃ H',Inv X pins σ H' s'∧Q b H'
def AP (X:Cx) (pins:List (Addr × Obj)) (σ:St) (Q:List V→Hp→Prop) (us:List Value) (s':Shared):Prop:=∃ vs H',Inv X pins σ H' s'∧Vals vs us∧Q vs H'
def SP (X:Cx) (pins:List (Addr × Obj)) (D:Ends) (f:Flow) (s':Shared):Prop :=
  match f with
  | .next=>∃ σ' H',Inv X pins σ' H' s'∧D.nx σ' H'
  | .brk=>∃ σ' H',Inv X pins σ' H' s'∧D.bk σ' H'
  | .cont=>∃ σ' H',Inv X pins σ' H' s'∧D.ct σ' H'
  | .ret u=>∃ v σ' H',Inv X pins σ' H' s'∧RelV v u∧D.rt v H'
def PE (X:Cx) (e:Expr) (t:TE):Prop :=
  ∀ (pins:List (Addr × Obj)) (s:Shared) (σ:St) (H:Hp) (Q:VK),Inv X pins σ H s→t σ H Q→wpAny (model X.prog X.w) X.A (eval e X.env) (EP X pins σ Q) X.xe s
def PT (X:Cx) (e:Expr) (t:TT):Prop :=
  ∀ (pins:List (Addr × Obj)) (s:Shared) (σ:St) (H:Hp) (Q:Bool→Hp→Prop),Inv X pins σ H s→t σ H Q→wpAny (model X.prog X.w) X.A (isTrue e X.env (eval e X.env)) (TP X pins σ Q) X.xe s
def PW (X:Cx) (e:Expr) (t:TT):Prop :=
  ∀ (whole:Sem Value) (pins:List (Addr × Obj)) (s:Shared) (σ:St) (H:Hp) (Q:Bool→Hp→Prop),Inv X pins σ H s→t σ H Q→wpAny (model X.prog X.w) X.A (isTrue e X.env whole) (TP X pins σ Q) X.xe s
theorem PW.pt {X:Cx} {e:Expr} {t:TT} (h:PW X e t):PT X e t:=h _
def PA (X:Cx) (es:List Expr) (t:TA):Prop :=
  ∀ (pos:Pos) (pins:List (Addr × Obj)) (s:Shared) (σ:St) (H:Hp) (Q:List V→Hp→Prop),Inv X pins σ H s→t σ H Q→wpAny (model X.prog X.w) X.A (spliced (backTo pos (starEach es X.env))) (AP X pins σ Q) X.xe s
def PS (X:Cx) (st:Stmt) (t:TS):Prop :=
  ∀ (pins:List (Addr × Obj)) (s:Shared) (σ:St) (H:Hp) (D:Ends),Inv X pins σ H s→t D σ H→wpAny (model X.prog X.w) X.A (exec st X.env) (SP X pins D) X.xe s
def PSs (X:Cx) (st:List Stmt) (t:TS):Prop :=
  ∀ (pins:List (Addr × Obj)) (s:Shared) (σ:St) (H:Hp) (D:Ends),Inv X pins σ H s→t D σ H→wpAny (model X.prog X.w) X.A (execs st X.env) (SP X pins D) X.xe s
theorem thn {α:Type} {t:Sem α} {Q Q':α→Shared→Prop} {M:Model} {A:Around} {E:Value→Shared→Prop} {s:Shared} (h:wpAny M A t Q E s) (hQ:∀ a s,Q a s→Q' a s):wpAny M A t Q' E s:=wpAny_mono h hQ fun _ _ x=>x
end L2
namespace L2
open PySem PySem.Spec PyProof.Rows
section
variable {X:Cx}
def UJ (i:Nat):TE:=fun σ H Q=>∃ v,σ[i]?=some (some v)∧Q v H
def tC (v:V):TE:=fun _ H Q=>Q v H
theorem Mj {i:Nat} {x:Str} {pos:Pos} (hN:X.N[i]?=some x) (hv:Vis X.env.scope x) (hd:(x == ("__debug__":Str))=false:=by decide) (hcd:(x == ("__classdict__":Str))=false:=by decide):PE X (.Name x pos) (UJ i):=by
  intro pins s σ H Q I h
  obtain ⟨v,e,h⟩:=h
  obtain ⟨m,hn,hl⟩:=I.loc
  obtain ⟨u,r,l⟩:=hl i x v hN e hv
  have fin:EP X pins σ Q u s:=⟨v,H,I,r,h⟩
  rcases l with ⟨hk,hm⟩ | ⟨hk,c,hc,hcell⟩
  · exact wpAny_Name (wpAny_loadName_local I.ok.kind hk hn hm fin) hd
  · rcases hk with hk | hk
    · exact wpAny_Name (wpAny_loadName_cell I.ok.kind hk hc hcell fin) hd
    · exact wpAny_Name (wpAny_loadName_free I.ok.kind hk hc hcell fin hcd) hd
theorem aA {i j pos}:PE X (.Constant (.int i) j pos) (tC (.int i)):=fun _ _ _ H _ I h=>wpAny_Constant_int ⟨.int i,H,I.tok _,⟨_,rfl⟩,h⟩
theorem Kq {b j pos}:PE X (.Constant (.bool b) j pos) (tC (.bl b)):=fun _ _ _ H _ I h=>Constant_bool ⟨.bl b,H,I,rfl,h⟩
def Gl (X:Cx) (x:Str):Prop:=X.env.kindOf x=some .globalImplicit
theorem Ax {E:Value→Shared→Prop} {pins:List (Addr × Obj)} {s:Shared} {σ:St} {H:Hp} {x:Str} {u:Value} {pos:Pos} {Q:Value→Shared→Prop} (I:Inv X pins σ H s) (hg:Gl X x) (hm:X.mg x=some u) (h:Q u s)
    (hd:(x == ("__debug__":Str))=false:=by decide):wpAny (model X.prog X.w) X.A (eval (.Name x pos) X.env) Q E s :=
  Calls.Name_function_global I.ok.kind hg (Calls.loadGlobal_global (by rw [I.ok.glob];exact I.mod.glob.keeps I.bk) hm h) hd
theorem iJ {E:Value→Shared→Prop} {pins:List (Addr × Obj)} {s:Shared} {σ:St} {H:Hp} {x:Str} {u:Value} {pos:Pos} {Q:Value→Shared→Prop} (I:Inv X pins σ H s) (hg:Gl X x) (hm:X.mg x=none) (hv:bootBuiltins x=some u) (h:Q u s)
    (hn:x≠"__name__":=by decide) (hd:(x == ("__debug__":Str))=false:=by decide):wpAny (model X.prog X.w) X.A (eval (.Name x pos) X.env) Q E s:=by
  obtain ⟨mb,h1,h2⟩:=I.mod.blt
  exact Calls.Name_function_global I.ok.kind hg (Calls.loadGlobal_builtin (by rw [I.ok.glob];exact I.mod.glob.keeps I.bk) hm (by rw [I.ok.blt];exact h1.keeps I.bk) ((h2 x hn).trans hv) h) hd
theorem qL {x:Str} {v:V} {u:Value} {pos:Pos} (hg:Gl X x) (hm:X.mg x=some u) (r:RelV v u) (hd:(x == ("__debug__":Str))=false:=by decide):PE X (.Name x pos) (tC v) :=
  fun _ _ _ H _ I h=>Ax I hg hm ⟨v,H,I,r,h⟩ hd
theorem qM {x:Str} {v:V} {u:Value} {pos:Pos} (hg:Gl X x) (hm:X.mg x=none) (hv:bootBuiltins x=some u) (r:RelV v u) (hn:x≠"__name__":=by decide) (hd:(x == ("__debug__":Str))=false:=by decide):PE X (.Name x pos) (tC v) :=
  fun _ _ _ H _ I h=>iJ I hg hm hv ⟨v,H,I,r,h⟩ hn hd
def t2I (ta tb:TE) (k:Int→Int→Hp→Prop):St→Hp→Prop:=fun σ H=>ta σ H fun x H1=>tb σ H1 fun y H2=>∃ i j,x=.int i∧y=.int j∧k i j H2
variable {a b:Expr} {ta tb:TE} {pos:Pos}
def Lp (p:Int→Int→Bool) (ta tb:TE):TE:=fun σ H Q=>t2I ta tb (fun i j H2=>Q (.bl (p i j)) H2) σ H
abbrev tLt:TE→TE→TE:=Lp fun i j=>decide (i<j)
abbrev tLe:TE→TE→TE:=Lp fun i j=>decide (i≤j)
abbrev tGt:TE→TE→TE:=Lp fun i j=>decide (j<i)
abbrev tGe:TE→TE→TE:=Lp fun i j=>decide (j≤i)
abbrev tEqI:TE→TE→TE:=Lp fun i j=>decide (i=j)
abbrev tNeI:TE→TE→TE:=Lp fun i j=>!decide (i=j)
def tB (t:TE):TT:=fun σ H Q=>t σ H fun x H1=>∃ c,x=.bl c∧Q c H1
theorem mG {e:Expr} {t:TE} (h:PE X e t) (he:∀ whole,isTrue e X.env whole=(do let v ← whole;standAt e.pos;holding [v] (truthy v)):=by intro _;rfl):PT X e (tB t):=by
  intro pins s σ H Q I hw
  refine isTrue_plain (thn (h pins s σ H _ I hw) fun v s1 ⟨x,H1,I1,r1,q1⟩=>?_) (he _)
  obtain ⟨d,rfl,q⟩:=q1
  cases r1
  exact wpAny_truthy_bool ⟨H1,I1,q⟩
variable {tA tB':TT} {rest:List Expr}
def tAnd (t u:TT):TT:=fun σ H Q=>t σ H fun c H1=>if c=true then u σ H1 Q else Q false H1
def tOr (t u:TT):TT:=fun σ H Q=>t σ H fun c H1=>if c=true then Q true H1 else u σ H1 Q
def tNot (t:TT):TT:=fun σ H Q=>t σ H fun c H1=>Q (!c) H1
theorem pw_and1 (ha:PT X a tA):PW X (.BoolOp .And [a] pos) tA:=by
  intro wh pins s σ H Q I h
  refine isTrue_and (thn (ha pins s σ H Q I h) fun c s1 e=>?_)
  cases c with
  | true=>exact isTrue_and_nil e
  | false=>exact e
theorem pw_or1 (ha:PT X a tA):PW X (.BoolOp .Or [a] pos) tA:=by
  intro wh pins s σ H Q I h
  refine isTrue_or (thn (ha pins s σ H Q I h) fun c s1 e=>?_)
  cases c with
  | false=>exact isTrue_or_nil e
  | true=>exact e
theorem pw_and (ha:PT X a tA) (hb:PW X (.BoolOp .And (b :: rest) pos) tB'):PW X (.BoolOp .And (a :: b :: rest) pos) (tAnd tA tB'):=by
  intro wh pins s σ H Q I h
  refine isTrue_and (thn (ha pins s σ H _ I h) fun c s1 ⟨H1,I1,q1⟩=>?_)
  cases c with
  | true=>exact hb wh pins s1 σ H1 Q I1 q1
  | false=>exact ⟨H1,I1,q1⟩
theorem pw_or (ha:PT X a tA) (hb:PW X (.BoolOp .Or (b :: rest) pos) tB'):PW X (.BoolOp .Or (a :: b :: rest) pos) (tOr tA tB'):=by
  intro wh pins s σ H Q I h
  refine isTrue_or (thn (ha pins s σ H _ I h) fun c s1 ⟨H1,I1,q1⟩=>?_)
  cases c with
  | true=>exact ⟨H1,I1,q1⟩
  | false=>exact hb wh pins s1 σ H1 Q I1 q1
theorem sI (ha:PT X a tA):PT X (.UnaryOp .Not a pos) (tNot tA):=by
  intro pins s σ H Q I h
  exact isTrue_not (ha pins s σ H (fun c H1=>Q (!c) H1) I h)
def RN (ta tb:TE):TE:=fun σ H Q=>ta σ H fun x H1=>∃ c,x=.bl c∧if c=true then tb σ H1 Q else Q (.bl false) H1
def Ry (ta:TE):TE:=fun σ H Q=>ta σ H fun x H1=>∃ c,x=.bl c∧Q (.bl (!c)) H1
theorem FZ {op} {t:TE} (h:PE X a t):PE X (.BoolOp op [a] pos) t:=fun pins s σ H Q I hw=>BoolOp_one (h pins s σ H Q I hw)
theorem Ga (ha:PE X a ta) (hb:PE X (.BoolOp .And (b :: rest) pos) tb):PE X (.BoolOp .And (a :: b :: rest) pos) (RN ta tb):=by
  intro pins s σ H Q I h
  refine BoolOp_and (thn (ha pins s σ H _ I h) fun v s1 ⟨x,H1,I1,r1,q1⟩=>?_)
  obtain ⟨c,rfl,q1⟩:=q1
  cases r1
  refine wpAny_truthy_bool ?_
  cases c with
  | true=>exact hb pins s1 σ H1 Q I1 q1
  | false=>exact ⟨.bl false,H1,I1,rfl,q1⟩
theorem Ml (ha:PE X a ta):PE X (.UnaryOp .Not a pos) (Ry ta):=by
  intro pins s σ H Q I h
  refine UnaryOp_ (thn (ha pins s σ H _ I h) fun v s1 ⟨x,H1,I1,r1,q1⟩=>?_)
  obtain ⟨c,rfl,q1⟩:=q1
  cases r1
  exact not_of (wpAny_truthy_bool ⟨.bl (!c),H1,I1,rfl,q1⟩)
end
end L2
namespace L2
open PySem PySem.Spec PyProof.Rows
def SqL (K:PySem.W.Frag) (H:Hp) (a:Addr) (xs:List V):Prop :=
  Rd H a (.lst xs) ∨
    ∃ (o:Obj) (its:Array Value) (n:Nat),K.lookup a=some o∧o.cls=.type "list"∧o.dict=none∧o.data=.seq its n∧its.size≤sizeLine∧Vals xs its.toList
def SqT (K:PySem.W.Frag) (H:Hp) (a:Addr) (xs:List V):Prop :=
  Rd H a (.tup xs) ∨
    ∃ (o:Obj) (its:Array Value) (n:Nat),K.lookup a=some o∧o.cls=.type "tuple"∧o.data=.seq its n∧its.size≤sizeLine∧Vals xs its.toList
def absV:Value→Option V
  | .none=>some .non
  | .bool b=>some (.bl b)
  | .int i _=>some (.int i)
  | .str x _=>some (.str x)
  | .bytes b _=>some (.byt b)
  | .float b _=>some (.flt b)
  | .ref a=>some (.ref a)
  | .type n=>some (.ty n)
  | _=>none
theorem RelV.abs {x:V} {u:Value} (r:RelV x u):absV u=some x:=by
  cases x with
  | non=>cases r;rfl
  | bl _=>cases r;rfl
  | int _=>obtain ⟨t,rfl⟩:=r;rfl
  | str _=>obtain ⟨t,rfl⟩:=r;rfl
  | byt _=>obtain ⟨t,rfl⟩:=r;rfl
  | flt _=>obtain ⟨t,rfl⟩:=r;rfl
  | ref _=>cases r;rfl
  | ty _=>cases r;rfl
theorem RelV.inj {x y:V} {u:Value} (r:RelV x u) (q:RelV y u):x=y:=Option.some.inj (r.abs.symm.trans q.abs)
theorem Vals.inj:∀ {xs ys:List V} {us:List Value},Vals xs us→Vals ys us→xs=ys
  | _,_,_,.nil,.nil=>rfl
  | _,_,_,.cons r t,.cons r' t'=>by rw [r.inj r',Vals.inj t t']
section
variable {X:Cx} {pins:List (Addr × Obj)} {σ:St} {H:Hp} {s:Shared} {a:Addr} {xs ys:List V}
theorem SqL.of {K:PySem.W.Frag} (h:H a=some (.lst xs)):SqL K H a xs:=.inl (.inl h)
theorem SqT.of {K:PySem.W.Frag} (h:H a=some (.tup xs)):SqT K H a xs:=.inl (.inl h)
theorem Inv.list (I:Inv X pins σ H s) (h:SqL X.K H a xs):∃ its:List Value,Vals xs its∧PlainL s.heap a its.toArray∧xs.length≤sizeLine:=by
  rcases h with h | ⟨o,its,n,hk,hc,hd,hs,hz,r⟩
  · obtain ⟨z,its,n,r,e⟩:=h.ok I.hok
    exact ⟨its,r,⟨_,n,e,rfl,rfl,rfl⟩,z⟩
  · refine ⟨its.toList,r,⟨o,n,I.kIn a o hk,hc,hd,by simpa using hs⟩,?_⟩
    have e:=r.length
    simp only [Array.length_toList] at e
    omega
theorem Inv.tuple (I:Inv X pins σ H s) (h:SqT X.K H a xs):∃ its:List Value,Vals xs its∧IsTup s.heap a its.toArray∧xs.length≤sizeLine:=by
  rcases h with h | ⟨o,its,n,hk,hc,hs,hz,r⟩
  · obtain ⟨z,its,r,p⟩:=h.ok I.hok
    exact ⟨its,r,p,z⟩
  · refine ⟨its.toList,r,⟨o,I.kIn a o hk,hc,n,by simpa using hs⟩,?_⟩
    have e:=r.length
    simp only [Array.length_toList] at e
    omega
theorem Inv.DY (I:Inv X pins σ H s) (h:SqL X.K H a xs) (h':SqL X.K H a ys):xs=ys:=by
  obtain ⟨its,r,⟨o,n,e,_,_,d⟩,_⟩:=I.list h
  obtain ⟨its',r',⟨o',n',e',_,_,d'⟩,_⟩:=I.list h'
  rw [e] at e';cases e'
  rw [d] at d'
  injection d' with d1 _
  have:its=its':=by simpa using congrArg Array.toList d1
  subst this
  exact r.inj r'
end
abbrev Cx.wish (X:Cx) (E:Value→Shared→Prop):Cx:={ X with xe:=E }
abbrev Cx.nox (X:Cx):Cx:=X.wish fun _ _=>False
theorem Cx.Ok.wish {X:Cx} (ok:X.Ok) (E:Value→Shared→Prop):(X.wish E).Ok :=
  ⟨ok.mod,ok.kind,ok.glob,ok.blt,ok.above,ok.inj,ok.has,ok.cab,ok.hd,ok.frames,ok.stk,ok.exf,ok.bs,ok.bsz,ok.noex,ok.exfs,ok.Bo,ok.frf⟩
theorem Cx.Ok.mz {X:Cx} {E:Value→Shared→Prop} (ok:(X.wish E).Ok):X.Ok :=
  ⟨ok.mod,ok.kind,ok.glob,ok.blt,ok.above,ok.inj,ok.has,ok.cab,ok.hd,ok.frames,ok.stk,ok.exf,ok.bs,ok.bsz,ok.noex,ok.exfs,ok.Bo,ok.frf⟩
section
variable {X:Cx} {pins:List (Addr × Obj)} {σ:St} {H:Hp} {s:Shared} {E:Value→Shared→Prop}
theorem Inv.wish (I:Inv X pins σ H s) (E:Value→Shared→Prop):Inv (X.wish E) pins σ H s:=⟨I.ok.wish E,I.os,I.bare,I.base,I.loc,I.cell,I.free,I.freeC,I.pin,I.hok,I.len⟩
theorem Inv.mz (I:Inv (X.wish E) pins σ H s):Inv X pins σ H s:=⟨I.ok.mz,I.os,I.bare,I.base,I.loc,I.cell,I.free,I.freeC,I.pin,I.hok,I.len⟩
theorem SP.mz {D:Ends} {f:Flow} {s':Shared} (h:SP (X.wish E) pins D f s'):SP X pins D f s':=by
  cases f with
  | next=>obtain ⟨σ',H',I,q⟩:=h;exact ⟨σ',H',I.mz,q⟩
  | brk=>obtain ⟨σ',H',I,q⟩:=h;exact ⟨σ',H',I.mz,q⟩
  | cont=>obtain ⟨σ',H',I,q⟩:=h;exact ⟨σ',H',I.mz,q⟩
  | ret u=>obtain ⟨v,σ',H',I,r,q⟩:=h;exact ⟨v,σ',H',I.mz,r,q⟩
theorem PSs.nox {st:List Stmt} {t:TS} (h:PSs X.nox st t):PSs X st t:=fun pins s σ H D I hw =>
  wpAny_mono (h pins s σ H D (I.wish _) hw) (fun _ _ q=>q.mz) fun _ _ z=>False.elim z
end
section
variable {X:Cx} {st:Stmt} {rest:List Stmt} {t u:TS} {e:Expr} {te:TE} {pos:Pos}
def Rz:TS:=fun D σ H=>D.nx σ H
def aP (t u:TS):TS:=fun D σ H=>t { D with nx:=u D } σ H
theorem gB:PSs X [] Rz:=fun _ _ σ H _ I h=>wpAny_execs_nil ⟨σ,H,I,h⟩
theorem au (h1:PS X st t) (h2:PSs X rest u):PSs X (st :: rest) (aP t u):=by
  intro pins s σ H D I h
  refine wpAny_execs_cons (thn (h1 pins s σ H { D with nx:=u D } I h) fun f s1 q=>?_)
  cases f with
  | next =>
    obtain ⟨σ',H',I',q⟩:=q
    exact h2 pins s1 σ' H' D I' q
  | ret v=>exact q
  | brk=>exact q
  | cont=>exact q
theorem aD (h1:PS X st t):PSs X [st] t:=by
  intro pins s σ H D I h
  refine wpAny_execs_cons (thn (h1 pins s σ H D I h) fun f s1 q=>?_)
  cases f with
  | next=>exact wpAny_execs_nil q
  | ret v=>exact q
  | brk=>exact q
  | cont=>exact q
theorem Inv.quiet {pins:List (Addr × Obj)} {σ:St} {H:Hp} {s:Shared} (I:Inv X pins σ H s):interactive X.env=false:=by simp [interactive,I.ok.kind]
def RD (te:TE):TS:=fun D σ H=>te σ H fun _ H1=>D.nx σ H1
theorem gY (he:PE X e te) (hs:swapsWith e none pos.line X.env=pure false:=by rfl):PS X (.Expr e pos) (RD te):=by
  intro pins s σ H D I h
  exact wpAny_Expr_any (thn (he pins s σ H _ I h) fun v s1 ⟨x,H1,I1,r1,q1⟩=>⟨σ,H1,I1,q1⟩) I.quiet hs
def tRet (te:TE):TS:=fun D σ H=>te σ H D.rt
theorem bA (he:PE X e te):PS X (.Return (some e) pos) (tRet te):=by
  intro pins s σ H D I h
  exact wpAny_Return_some (thn (he pins s σ H _ I h) fun v s1 ⟨x,H1,I1,r1,q1⟩=>⟨x,σ,H1,I1,r1,q1⟩)
def jV (c:TT) (t u:TS):TS:=fun D σ H=>c σ H fun b H1=>if b=true then t D σ H1 else u D σ H1
theorem jX {c:Expr} {a b:List Stmt} {tc:TT} (hc:PT X c tc) (ha:PSs X a t) (hb:PSs X b u):PS X (.If c a b pos) (jV tc t u):=by
  intro pins s σ H D I h
  refine wpAny_If (thn (hc pins s σ H _ I h) fun d s1 ⟨H1,I1,q1⟩=>?_)
  cases d with
  | true=>exact ha pins s1 σ H1 D I1 q1
  | false=>exact hb pins s1 σ H1 D I1 q1
def Lw:TS:=fun _ _ _=>False
theorem wC:PS X st Lw:=fun _ _ _ _ _ _ h=>h.elim
end
abbrev TG:=V→St→Hp→(St→Hp→Prop)→Prop
abbrev TGs:=List V→St→Hp→(St→Hp→Prop)→Prop
def PG (X:Cx) (target:Expr) (t:TG):Prop :=
  ∀ (pins:List (Addr × Obj)) (s:Shared) (σ:St) (H:Hp) (v:V) (u:Value) (Q:St→Hp→Prop),Inv X pins σ H s→RelV v u→t v σ H Q →
    wpAny (model X.prog X.w) X.A (assign target X.env u) (fun _ s'=>∃ σ' H',Inv X pins σ' H' s'∧Q σ' H') X.xe s
def PGs (X:Cx) (ts:List Expr) (t:TGs):Prop :=
  ∀ (pins:List (Addr × Obj)) (s:Shared) (σ:St) (H:Hp) (vs:List V) (us:List Value) (Q:St→Hp→Prop),Inv X pins σ H s→Vals vs us→t vs σ H Q →
    wpAny (model X.prog X.w) X.A (assignInOrder ((assignEach ts X.env).map (·.2)) us) (fun _ s'=>∃ σ' H',Inv X pins σ' H' s'∧Q σ' H') X.xe s
abbrev Ri:=V→V→V→Hp→(Hp→Prop)→Prop
def Ux (X:Cx) (t:Ri):Prop :=
  ∀ (pins:List (Addr × Obj)) (s:Shared) (σ:St) (H:Hp) (o i v:V) (ov iv u:Value) (Q:Hp→Prop),Inv X pins σ H s→RelV o ov→RelV i iv→RelV v u→t o i v H Q →
    wpAny (model X.prog X.w) X.A (setItem ov iv u) (fun _ s'=>∃ H',Inv X pins σ H' s'∧Q H') X.xe s
abbrev TIp:=V→V→Hp→VK→Prop
def PIp (X:Cx) (op:Operator) (t:TIp):Prop :=
  ∀ (pins:List (Addr × Obj)) (s:Shared) (σ:St) (H:Hp) (x y:V) (v u:Value) (Q:VK),Inv X pins σ H s→RelV x v→RelV y u→t x y H Q →
    wpAny (model X.prog X.w) X.A (inplaceOp op v u) (EP X pins σ Q) X.xe s
section
variable {X:Cx} {pos:Pos}
def Em (i:Nat):TG:=fun v σ H Q=>Q (σ.set i (some v)) H
theorem aG {i:Nat} {x:Str} (hN:X.N.Nodup) (hi:X.N[i]?=some x) (hx:Loc X.env.scope x) (hf:X.fn x=true∨X.env.scope.names.lookup x=some .local:=by first | exact .inl rfl | exact .inr rfl | assumption):PG X (.Name x pos) (Em i):=by
  intro pins s σ H v u Q I r h
  exact wpAny_assign_Name (vQ I hN hi hx r (fun s' I'=>⟨_,H,I',h⟩) hf)
def gNil:TGs:=fun vs σ H Q=>vs=[]∧Q σ H
def Uq (t:TG) (u:TGs):TGs:=fun vs σ H Q=>∃ v r,vs=v :: r∧t v σ H fun σ' H'=>u r σ' H' Q
theorem iI:PGs X [] gNil:=by
  intro pins s σ H vs us Q I r h
  obtain ⟨e,h⟩:=h
  subst e
  cases r
  exact assignInOrder_nil ⟨σ,H,I,h⟩
theorem aZ {e:Expr} {es:List Expr} {t:TG} {u:TGs} (h1:PG X e t) (h2:PGs X es u)
    (hs:(assignEach (e :: es) X.env).map (·.2)=assign e X.env :: (assignEach es X.env).map (·.2):=by rfl):PGs X (e :: es) (Uq t u):=by
  intro pins s σ H vs us Q I r h
  obtain ⟨v,vr,e1,h⟩:=h
  subst e1
  cases r with
  | cons r rr =>
    rw [hs]
    refine assignInOrder_cons (thn (h1 pins s σ H _ _ _ I r h) fun _ s1 ⟨σ1,H1,I1,q1⟩=>?_)
    exact h2 pins s1 σ1 H1 _ _ Q I1 rr q1
def Vi (K:PySem.W.Frag) (n:Nat) (t:TGs):TG:=fun v σ H Q=>∃ a xs,v=.ref a∧SqT K H a xs∧xs.length=n∧t xs σ H Q
theorem nT {es:List Expr} {k:Nat} {t:TGs} {n:Nat} (hc:X.calm=true) (h:PGs X es t)
    (hn:(assignEach es X.env).length=n:=by rfl) (hst:(assignEach es X.env).findIdx? (·.1)=none:=by rfl):PG X (.Tuple es k pos) (Vi X.K n t):=by
  intro pins s σ H v u Q I r hw
  obtain ⟨a,xs,e1,hq,hl,hw⟩:=hw
  subst e1
  cases r
  obtain ⟨its,rv,ht,hz⟩:=I.tuple hq
  refine assign_Tuple_tuple (I.ok.hd hc) ht (by simp [hn,← hl,rv.length]) hst fun h' hx=>?_
  have I1:Inv X pins σ H { s with heap:=h' }:=I.kept (t':=s.toks) fun b o e=>hx b o (Nat.ne_of_lt (Heap.lt_size e)) e
  exact h pins _ σ H xs _ Q I1 (by simpa using rv) hw
def gSub (to ti:TE) (t:Ri):TG:=fun v σ H Q=>to σ H fun o H1=>ti σ H1 fun i H2=>t o i v H2 fun H3=>Q σ H3
theorem sS {o i:Expr} {to ti:TE} {t:Ri} (ho:PE X o to) (hi:PE X i ti) (hs:Ux X t)
    (ha:∀ v,assign (.Subscript o i pos) X.env v=(do
      let ov ← holding [v] (eval o X.env)
      let iv ← holding [v,ov] (eval i X.env)
      standAt pos
      holding [v,ov,iv] (setItem ov iv v)
      release [v,ov,iv] []):=by intro _;rfl):PG X (.Subscript o i pos) (gSub to ti t):=by
  intro pins s σ H v u Q I r h
  rw [ha]
  refine wpAny_bind (wpAny_holding (thn (ho pins s σ H _ I h) fun ov s1 ⟨x,H1,I1,r1,q1⟩=>?_))
  refine wpAny_bind (wpAny_holding (thn (hi pins s1 σ H1 _ I1 q1) fun iv s2 ⟨y,H2,I2,r2,q2⟩=>?_))
  refine wpAny_bind (wpAny_standAt (wpAny_bind (wpAny_holding (thn (hs pins s2 σ H2 x y v ov iv u _ I2 r1 r2 r q2) fun _ s3 ⟨H3,I3,q3⟩=>?_))))
  exact wpAny_release ⟨σ,H3,I3,q3⟩
def RM (te:TE) (g:TG):TS:=fun D σ H=>te σ H fun x H1=>g x σ H1 D.nx
theorem mH {tg e:Expr} {te:TE} {g:TG} (he:PE X e te) (hg:PG X tg g) (hs:swapsWithSole [tg] e pos.line X.env=pure false:=by rfl) (hw:swappedStores [tg] e X.env=pure none:=by rfl)
    (h1:(assignEach [tg] X.env).map (·.2)=[assign tg X.env]:=by rfl):PS X (.Assign [tg] e pos) (RM te g):=by
  intro pins s σ H D I h
  refine wpAny_Assign_stores (thn (he pins s σ H _ I h) fun v s1 ⟨x,H1,I1,r1,q1⟩=>?_) hs hw
  rw [h1]
  exact thn (hg pins s1 σ H1 x v _ I1 r1 q1) fun _ s2 q=>q
theorem aN {i:Nat} {x:Str} {e:Expr} {te:TE} {pos':Pos} (hN:X.N.Nodup) (hi:X.N[i]?=some x) (hx:Loc X.env.scope x) (he:PE X e te) (hs:swapsWith e (some (.Name x pos')) pos.line X.env=pure false:=by rfl) (hf:X.fn x=true∨X.env.scope.names.lookup x=some .local:=by first | exact .inl rfl | exact .inr rfl | assumption) :
    PS X (.Assign [.Name x pos'] e pos) (RM te (Em i)):=by
  intro pins s σ H D I h
  refine wpAny_Assign_Name (thn (he pins s σ H _ I h) fun v s1 ⟨y,H1,I1,r1,q1⟩=>?_) hs
  exact vQ I1 hN hi hx r1 (fun s2 I2=>⟨_,H1,I2,q1⟩) hf
def RL (to ti te:TE) (tget:V→V→Hp→VK→Prop) (tip:TIp) (tset:Ri):TS:=fun D σ H=>to σ H fun o H1=>ti σ H1 fun i H2=>tget o i H2 fun x H3=>te σ H3 fun y H4=>tip x y H4 fun z H5=>tset o i z H5 fun H6=>D.nx σ H6
def Vm (X:Cx) (t:V→V→Hp→VK→Prop):Prop :=
  ∀ (pins:List (Addr × Obj)) (s:Shared) (σ:St) (H:Hp) (o i:V) (ov iv:Value) (Q:VK),Inv X pins σ H s→RelV o ov→RelV i iv→t o i H Q →
    wpAny (model X.prog X.w) X.A (getItem ov iv) (EP X pins σ Q) X.xe s
theorem lM {o i e:Expr} {to ti te:TE} {tget:V→V→Hp→VK→Prop} {tip:TIp} {tset:Ri} {op:Operator} {tpos:Pos} (ho:PE X o to) (hi:PE X i ti) (hg:Vm X tget) (he:PE X e te) (hp:PIp X op tip) (hs:Ux X tset)
    (ha:∀ ov iv new,augStore i ov iv new=(do holding [new,ov,iv] (setItem ov iv new);release [new,ov,iv] [];pure .next):=by intros;rfl):PS X (.AugAssign (.Subscript o i tpos) op e pos) (RL to ti te tget tip tset):=by
  intro pins s σ H D I h
  refine wpAny_AugAssign_SubscriptAny (thn (ho pins s σ H _ I h) fun ov s1 ⟨x1,H1,I1,r1,q1⟩=>?_) ha
  refine thn (hi pins s1 σ H1 _ I1 q1) fun iv s2 ⟨x2,H2,I2,r2,q2⟩=>?_
  refine thn (hg pins s2 σ H2 x1 x2 ov iv _ I2 r1 r2 q2) fun old s3 ⟨x3,H3,I3,r3,q3⟩=>?_
  refine thn (he pins s3 σ H3 _ I3 q3) fun v s4 ⟨x4,H4,I4,r4,q4⟩=>?_
  refine thn (hp pins s4 σ H4 x3 x4 old v _ I4 r3 r4 q4) fun new s5 ⟨x5,H5,I5,r5,q5⟩=>?_
  exact thn (hs pins s5 σ H5 x1 x2 x5 ov iv new _ I5 r1 r2 r5 q5) fun _ s6 ⟨H6,I6,q6⟩=>⟨σ,H6,I6,q6⟩
def ipI (f:Int→Int→Int):TIp:=fun x y H Q=>∃ i j,x=.int i∧y=.int j∧Q (.int (f i j)) H
theorem tE:PIp X .Add (ipI fun i j=>i + j):=by
  intro pins s σ H x y v u Q I r1 r2 h
  obtain ⟨i,j,e1,e2,q⟩:=h
  subst e1;subst e2
  obtain ⟨t,rfl⟩:=r1
  obtain ⟨t',rfl⟩:=r2
  exact iadd_int ⟨.int _,H,I.tok _,⟨_,rfl⟩,q⟩
theorem Nb:PIp X .Sub (ipI fun i j=>i - j):=by
  intro pins s σ H x y v u Q I r1 r2 h
  obtain ⟨i,j,e1,e2,q⟩:=h
  subst e1;subst e2
  obtain ⟨t,rfl⟩:=r1
  obtain ⟨t',rfl⟩:=r2
  exact isub_int ⟨.int _,H,I.tok _,⟨_,rfl⟩,q⟩
end
section
variable {X:Cx} {pos:Pos}
def nA (c:TT) (tb:TS):TS:=fun D σ H=>∃ W:Nat→St→Hp→Prop,(∃ m,W m σ H)∧∀ m σ H,W m σ H →
  c σ H fun b H1=>if b=true then ∃ N:St→Hp→Prop,(∀ σ' H',N σ' H'→∃ m',m'<m∧W m' σ' H')∧tb { D with nx:=N,ct:=N,bk:=D.nx } σ H1 else D.nx σ H1
theorem qI {c:Expr} {body:List Stmt} {tc:TT} {tb:TS} (hp:PassesOwn (model X.prog X.w) X.A X.env X.xe) (hc:PT X c tc) (hb:PSs X body tb):PS X (.While c body [] pos) (nA tc tb):=by
  intro pins s σ H D I h
  obtain ⟨W,⟨m0,w0⟩,turn⟩:=h
  refine wpAny_While (codeAny_whileLoop (fun n s'=>∃ σ' H',Inv X pins σ' H' s'∧W n σ' H') ?_ m0 ⟨σ,H,I,w0⟩)
  rintro n s1 ⟨σ1,H1,I1,w1⟩
  refine wpAny_passesOwn hp (thn (hc pins s1 σ1 H1 _ I1 (turn n σ1 H1 w1)) fun b s2 ⟨H2,I2,q2⟩=>?_)
  cases b with
  | true =>
    obtain ⟨N,hN,q2⟩:=q2
    rw [if_pos rfl]
    refine wpAny_passesOwn hp (thn (hb pins s2 σ1 H2 _ I2 q2) fun f s3 q3=>?_)
    cases f with
    | next =>
      obtain ⟨σ3,H3,I3,n3⟩:=q3
      obtain ⟨m',hm,w3⟩:=hN σ3 H3 n3
      exact ⟨m',hm,σ3,H3,I3,w3⟩
    | cont =>
      obtain ⟨σ3,H3,I3,n3⟩:=q3
      obtain ⟨m',hm,w3⟩:=hN σ3 H3 n3
      exact ⟨m',hm,σ3,H3,I3,w3⟩
    | brk=>exact q3
    | ret v=>exact q3
  | false =>
    rw [if_neg Bool.false_ne_true]
    exact wpAny_execs_nil ⟨σ1,H2,I2,q2⟩
end
structure It where
  go:Nat→Hp→Prop
  yld:Nat→Hp→V→Hp→Prop
  stop:Nat→Hp→Prop
def uD (X:Cx) (pins:List (Addr × Obj)) (H:Hp) (b:Addr):Prop :=
  H b=none∧b≠X.env.locals∧b ∉ X.fs∧(b∈X.ex∨X.s₀.heap.objs.size≤b)∧(∀ x c,X.env.cells.lookup x=some c→c≠b)∧∀ p∈X.pn++pins,p.1≠b
theorem Inv.yE {X:Cx} {pins:List (Addr × Obj)} {σ:St} {H H':Hp} {s:Shared} {b:Addr} (I:Inv X pins σ H s) (hb:s.heap.objs.size≤b) (hn:H' b=none):uD X pins H' b:=by
  refine ⟨hn,Nat.ne_of_gt (Nat.lt_of_lt_of_le I.lt hb),I.nofs hb,.inr (Nat.le_trans I.sz hb),fun x c e z=>?_,fun p hp z=>?_⟩
  · obtain ⟨v,q⟩:=I.cell x c e
    exact absurd (Nat.lt_of_lt_of_le q.lt (by rw [z];exact hb)) (Nat.lt_irrefl _)
  · exact absurd (Nat.lt_of_lt_of_le (Heap.lt_size (I.pin p hp).1) (by rw [z];exact hb)) (Nat.lt_irrefl _)
structure Turn (P:Program) (w:World) (K:PySem.W.Frag) (tg:Expr) (J:It) (fp:List Addr) (it:Addr) (tn:Nat→Heap→Prop):Prop where
  mem:it∈fp
  obj:∀ i h,tn i h→∀ b∈fp,∃ o,h.get? b=some o∧∀ v,o.data≠.cell v
  keep:∀ i h h',tn i h→(∀ b∈fp,∀ o,h.get? b=some o→h'.get? b=some o)→tn i h'
  item:∀ (X:Cx),X.prog=P→X.w=w→X.K=K→X.calm=true→∀ (i:Nat) (pins:List (Addr × Obj)) (s:Shared) (σ:St) (H:Hp) (E:Value→Shared→Prop),Inv X pins σ H s→(∀ b∈fp,uD X pins H b)→tn i s.heap→J.go i H →
    wpAny (model P w) X.A (pyNext (.ref it)) (fun r s1=>∃ u,r=some u ∧
      wpAny (model P w) X.A (letOwnedTupleGo tg (.ref it) u) (fun _ s2=>∃ x H',Inv X pins σ H' s2∧RelV x u∧J.yld i H x H'∧tn (i + 1) s2.heap∧∀ b∈fp,H' b=none) E s1) E s
  done:∀ (X:Cx),X.prog=P→X.w=w→X.K=K→X.calm=true→∀ (i:Nat) (pins:List (Addr × Obj)) (s:Shared) (σ:St) (H:Hp) (E:Value→Shared→Prop),Inv X pins σ H s→(∀ b∈fp,uD X pins H b)→tn i s.heap→J.stop i H →
    wpAny (model P w) X.A (pyNext (.ref it)) (fun r s1=>r=none∧Inv X pins σ H s1) E s
  self:∀ (A:Around) (i:Nat) (s:Shared) (Q:Value→Shared→Prop) (E:Value→Shared→Prop),tn i s.heap→Q (.ref it) s→wpAny (model P w) A (pyIter (.ref it)) Q E s
abbrev TI:=St→Hp→(It→Hp→Prop)→Prop
def PIE (X:Cx) (pins:List (Addr × Obj)) (σ:St) (tg:Expr) (R:It→Hp→Prop) (itv:Value) (s2:Shared):Prop :=
  ∃ (it:Addr) (fp:List Addr) (tn:Nat→Heap→Prop) (J:It) (H':Hp),itv=.ref it∧Inv X pins σ H' s2∧Turn X.prog X.w X.K tg J fp it tn∧tn 0 s2.heap∧(∀ b∈fp,uD X pins H' b)∧R J H'
def PI (X:Cx) (tg iter:Expr) (wi:TI):Prop :=
  ∀ (pins:List (Addr × Obj)) (s:Shared) (σ:St) (H:Hp) (R:It→Hp→Prop),Inv X pins σ H s→wi σ H R →
    wpAny (model X.prog X.w) X.A (eval iter X.env) (fun v s1=>wpAny (model X.prog X.w) X.A (pyIter v) (PIE X pins σ tg R) X.xe s1) X.xe s
theorem Q6 {M:Model} {A:Around} {E:Value→Shared→Prop} {s:Shared} {tg:Expr} {it:Addr} {u:Value} {o:Obj} {n:String} {vs:Array Value} {Q:Unit→Shared→Prop} (ho:s.heap.get? it=some o) (hc:o.cls=.type n) (hd:o.data=.fields vs)
    (hn:["enumerate","zip","dict_itemiterator","dict_reverseitemiterator","odict_iterator","itertools.zip_longest","itertools.pairwise"].contains n=false) (hQ:Q () s):wpAny M A (letOwnedTupleGo tg (.ref it) u) Q E s:=by
  unfold letOwnedTupleGo
  cases tg <;> first
    | exact wpAny_pure hQ
    | (cases u <;> first
        | exact wpAny_pure hQ
        | (refine wpAny_bind (wpAny_load ho ?_)
           rw [hc,hd]
           show wpAny M A (if (["enumerate","zip","dict_itemiterator","dict_reverseitemiterator","odict_iterator","itertools.zip_longest","itertools.pairwise"].contains n && vs[0]? == some (rawInt _))=true then _ else _) Q E s
           rw [if_neg (by intro h;rw [hn,Bool.false_and] at h;cases h)]
           exact wpAny_pure hQ))
def Itl (K:PySem.W.Frag) (a:Addr):It :=
  ⟨fun i H=>∃ xs x,SqL K H a xs∧xs[i]?=some x,fun i H x H'=>H'=H∧∀ xs,SqL K H a xs→xs[i]?=some x,fun i H=>∃ xs,SqL K H a xs∧xs.length≤i⟩
def Itr (lo:Int) (n:Nat):It:=⟨fun i _=>i<n,fun i H x H'=>H'=H∧x=.int (lo + i),fun i _=>n≤i⟩
theorem yN {P:Program} {w:World} {K:PySem.W.Frag} {tg:Expr} (a it:Addr):Turn P w K tg (Itl K a) [it] it (fun i h=>h.IsListIter it a i) where
  mem:=by simp
  obj:=fun i h st b hb=>by
    have e:b=it:=by simpa using hb
    subst e
    obtain ⟨o,e,c,d⟩:=st
    exact ⟨o,e,fun v z=>by rw [d] at z;cases z⟩
  keep:=fun i h h' st k=>st.at fun o e=>k it (by simp) o e
  item:=by
    intro X hP hw hK hc i pins s σ H E I hf st hg
    subst hP hw hK
    obtain ⟨xs,x,hq,hx⟩:=hg
    obtain ⟨its,rv,p,hz⟩:=I.list hq
    obtain ⟨u,hu,ru⟩:=rv.get hx
    obtain ⟨f0,f1,f2,f3,f4,f5⟩:=hf it (by simp)
    refine wpAny_pyNext_list_item st p.isList (x:=u) (by simpa using hu) fun h' st' sb=>?_
    have I1:Inv X pins σ H { s with heap:=h' }:=I.turned (t':=s.toks) (fun b o hb e=>(sb.2 b hb).trans e) f0 f1 f3 f4 f5
    obtain ⟨o,e,c,d⟩:=id st'
    exact ⟨u,rfl,Q6 (s:={ s with heap:=h' }) e c d (by decide) ⟨x,H,I1,ru,⟨rfl,fun ys hy=>by rw [I.DY hy hq];exact hx⟩,st',fun b hb=>(hf b hb).1⟩⟩
  done:=by
    intro X hP hw hK hc i pins s σ H E I hf st hg
    subst hP hw hK
    obtain ⟨xs,hq,hx⟩:=hg
    obtain ⟨its,rv,p,hz⟩:=I.list hq
    obtain ⟨f0,f1,f2,f3,f4,f5⟩:=hf it (by simp)
    have hl:=rv.length
    exact wpAny_pyNext_list_end (I.ok.hd hc) st p.isList (by simp;omega) fun h' eb=>⟨rfl,I.turned (t':=s.toks) (fun b o hb e=>eb b o hb e) f0 f1 f3 f4 f5⟩
  self:=fun _ _ _ _ _ st h=>wpAny_pyIter_listiter st h
theorem xu {P:Program} {w:World} {K:PySem.W.Frag} {tg:Expr} (it:Addr) (lo:Int) (n:Nat):Turn P w K tg (Itr lo n) [it] it (fun i h=>IsRangeIter h it (lo + (i:Nat) * 1) ((n:Int) - (i:Nat)) 1) where
  mem:=by simp
  obj:=fun i h st b hb=>by
    have e:b=it:=by simpa using hb
    subst e
    exact ⟨_,st,fun v z=>by
      have z':Data.fields _=Data.cell v:=z
      cases z'⟩
  keep:=fun i h h' st k=>k it (by simp) _ st
  item:=by
    intro X hP hw hK hc i pins s σ H E I hf st hg
    subst hP hw hK
    obtain ⟨f0,f1,f2,f3,f4,f5⟩:=hf it (by simp)
    have W:=Walks.range (prog:=X.prog) (w:=X.w) (I.ok.hd hc) it lo 1 n
    refine W.item i s _ _ hg st fun v h' tk hv st' kk=>?_
    obtain ⟨t,rfl⟩:=hv
    have I1:Inv X pins σ H { s with heap:=h',toks:=tk }:=I.turned (fun b o hb e=>kk b o (by simpa using hb) e) f0 f1 f3 f4 f5
    refine ⟨_,rfl,Q6 (s:={ s with heap:=h',toks:=tk }) (n:="range_iterator") st' rfl rfl (by decide) ⟨.int (lo + i),H,I1,⟨t,?_⟩,⟨rfl,rfl⟩,st',fun b hb=>(hf b hb).1⟩⟩
    rw [Int.mul_one]
  done:=by
    intro X hP hw hK hc i pins s σ H E I hf st hg
    subst hP hw hK
    obtain ⟨f0,f1,f2,f3,f4,f5⟩:=hf it (by simp)
    exact wpAny_pyNext_range_end (I.ok.hd hc) st (by have:n≤i:=hg;omega) fun h' eb=>⟨rfl,I.turned (t':=s.toks) (fun b o hb e=>eb b o hb e) f0 f1 f3 f4 f5⟩
  self:=fun _ _ _ _ _ st h=>wpAny_pyIter_rangeiter st h
end L2
namespace L2
open PySem PySem.Spec PyProof.Rows
section
variable {X:Cx} {tg:Expr}
def SX (K:PySem.W.Frag) (tl:TE):TI:=fun σ H R=>tl σ H fun x H1=>∃ a,x=.ref a∧(∃ xs,SqL K H1 a xs)∧R (Itl K a) H1
theorem bM {l:Expr} {tl:TE} (hl:PE X l tl):PI X tg l (SX X.K tl):=by
  intro pins s σ H R I h
  refine thn (hl pins s σ H _ I h) fun v s1 ⟨x,H1,I1,r1,q1⟩=>?_
  obtain ⟨a,e,⟨xs,hq⟩,q⟩:=q1
  subst e
  cases r1
  obtain ⟨its,rv,p,hz⟩:=I1.list hq
  refine wpAny_pyIter_list p.isList ?_
  refine ⟨s1.heap.objs.size,[s1.heap.objs.size],_,_,H1,rfl,I1.kept (t':=s1.toks) fun b o e=>Heap.get?_push_of_some _ e,yN a _,⟨_,Heap.get?_push_size _ rfl,rfl,rfl⟩,fun b hb=>?_,q⟩
  have e:b=s1.heap.objs.size:=by simpa using hb
  subst e
  exact I1.yE (Nat.le_refl _) (I1.hok.fresh (Nat.le_refl _))
theorem wA {pins:List (Addr × Obj)} {σ:St} {H:Hp} {s:Shared} {R:It→Hp→Prop} {E:Value→Shared→Prop} {lo hi:Int} {t u v:Tok} {tk:Nat} (I:Inv X pins σ H s) (h1:-(2 ^ 62)≤lo) (h2:lo<2 ^ 62) (h3:-(2 ^ 62)≤hi) (h4:hi<2 ^ 62)
    (q:R (Itr lo (hi - lo).toNat) H):wpAny (model X.prog X.w) X.A (pyIter (.ref s.heap.objs.size)) (PIE X pins σ tg R) E { s with heap:=s.heap.push { cls:=.type "range",data:=.fields #[.int lo t,.int hi u,.int 1 v] },toks:=tk }:=by
  refine wpAny_pyIter_range (IsRange.new ..) (small_one h1 h2 h3 h4) ?_
  have I1:Inv X pins σ H { s with heap:=s.heap.push { cls:=.type "range",data:=.fields #[.int lo t,.int hi u,.int 1 v] },toks:=tk }:=I.kept fun b o e=>Heap.get?_push_of_some _ e
  refine ⟨(s.heap.push { cls:=.type "range",data:=.fields #[.int lo t,.int hi u,.int 1 v] }).objs.size,[(s.heap.push { cls:=.type "range",data:=.fields #[.int lo t,.int hi u,.int 1 v] }).objs.size],_,_,H,rfl,
    I1.kept (t':=tk) fun b o e=>Heap.get?_push_of_some _ e,xu _ lo (hi - lo).toNat,?_,fun b hb=>?_,q⟩
  · have e1:lo + ((0:Nat):Int) * 1=lo:=by simp
    have e2:(((hi - lo).toNat:Nat):Int) - ((0:Nat):Int)=Builtin.Range.rangeSize lo hi 1:=by rw [rangeSize_one];split <;> omega
    show IsRangeIter _ _ (lo + ((0:Nat):Int) * 1) ((((hi - lo).toNat:Nat):Int) - ((0:Nat):Int)) 1
    rw [e1,e2]
    exact Heap.get?_push_size _ rfl
  · have e:b=(s.heap.push { cls:=.type "range",data:=.fields #[.int lo t,.int hi u,.int 1 v] }).objs.size:=by simpa using hb
    subst e
    exact I1.yE (Nat.le_refl _) (I1.hok.fresh (Nat.le_refl _))
def SQ (ta:TA):TI:=fun σ H R=>ta σ H fun vs H1=>∃ j:Int,vs=[.int j]∧-(2 ^ 62)≤j∧j<2 ^ 62∧R (Itr 0 j.toNat) H1
def SN (ta:TA):TI:=fun σ H R=>ta σ H fun vs H1=>∃ i j:Int,vs=[.int i,.int j]∧(-(2 ^ 62)≤i∧i<2 ^ 62∧-(2 ^ 62)≤j∧j<2 ^ 62)∧R (Itr i (j - i).toNat) H1
theorem nQ {a:Expr} {ta:TA} {p pos:Pos} (hg:Gl X "range") (hm:X.mg "range"=none) (ha:PA X [a] ta) (hs:starEach [a] X.env=[(false,eval a X.env)]:=by rfl):PI X tg (.Call (.Name "range" p) [a] [] pos) (SQ ta):=by
  intro pins s σ H R I h
  refine Call_ (iJ I hg hm boot_range (PyProof.Rows.callWith_type1 (thn (ha pos pins s σ H _ I h) fun us s1 ⟨vs,H1,I1,r1,q1⟩=>?_) hs rfl))
  obtain ⟨j,e,q1,q2,q⟩:=q1
  subst e
  cases r1 with
  | cons r rr =>
    cases rr
    obtain ⟨t,rfl⟩:=r
    exact call_range_1 (wA I1 (by omega) (by omega) q1 q2 (by simpa using q))
theorem zU {a b:Expr} {ta:TA} {p pos:Pos} (hg:Gl X "range") (hm:X.mg "range"=none) (ha:PA X [a,b] ta) (hs:starEach [a,b] X.env=[(false,eval a X.env),(false,eval b X.env)]:=by rfl) (hs2:starEach [b] X.env=[(false,eval b X.env)]:=by rfl) :
    PI X tg (.Call (.Name "range" p) [a,b] [] pos) (SN ta):=by
  intro pins s σ H R I h
  refine Call_ (iJ I hg hm boot_range (PyProof.Rows.callWith_type1 (thn (ha pos pins s σ H _ I h) fun us s1 ⟨vs,H1,I1,r1,q1⟩=>?_) (by rw [hs,hs2]) (by rw [hs2];rfl)))
  obtain ⟨i,j,e,⟨q1,q2,q3,q4⟩,q⟩:=q1
  subst e
  cases r1 with
  | cons r rr =>
    cases rr with
    | cons r' rr =>
      cases rr
      obtain ⟨t,rfl⟩:=r
      obtain ⟨t',rfl⟩:=r'
      exact call_range_2 (wA I1 q1 q2 q3 q4 q)
def j8 (wi:TI) (g:TG) (tb:TS):TS:=fun D σ H=>wi σ H fun J H1=>∃ W:Nat→Nat→St→Hp→Prop,(∃ m,W 0 m σ H1)∧∀ i m σ H,W i m σ H →
  (J.stop i H∧D.nx σ H)∨(J.go i H∧∃ N:St→Hp→Prop,(∀ σ' H',N σ' H'→∃ m',m'<m∧W (i + 1) m' σ' H')∧∀ x H',J.yld i H x H'→g x σ H' fun σ2 H2=>tb { D with nx:=N,ct:=N,bk:=D.nx } σ2 H2)
def sJ (fp:List Addr) (h:Heap):List (Addr × Obj):=fp.filterMap fun b=>(h.get? b).map fun o=>(b,o)
theorem jL {fp:List Addr} {h:Heap} {b:Addr} {o:Obj} (hb:b∈fp) (e:h.get? b=some o):(b,o)∈sJ fp h:=List.mem_filterMap.mpr ⟨b,hb,by rw [e];rfl⟩
theorem Ab {fp:List Addr} {h:Heap} {p:Addr × Obj} (hp:p∈sJ fp h):p.1∈fp∧h.get? p.1=some p.2:=by
  obtain ⟨b,hb,e⟩:=List.mem_filterMap.mp hp
  cases q:h.get? b with
  | none=>rw [q] at e;cases e
  | some o =>
    rw [q] at e
    have e':(b,o)=p:=Option.some.inj e
    subst e'
    exact ⟨hb,q⟩
theorem Inv.pinned {pins:List (Addr × Obj)} {σ:St} {H:Hp} {s:Shared} {fp:List Addr} (I:Inv X pins σ H s) (hf:∀ b∈fp,uD X pins H b) (ho:∀ b∈fp,∃ o,s.heap.get? b=some o∧∀ v,o.data≠.cell v):Inv X (pins++sJ fp s.heap) σ H s :=
  I.uV fun p hp=>(List.mem_append.mp hp).elim (fun z=>I.pin p (List.mem_append_right _ z)) fun z=>by
    obtain ⟨hb,e⟩:=Ab z
    obtain ⟨f0,f1,f2,_⟩:=hf p.1 hb
    obtain ⟨o,e',d⟩:=ho p.1 hb
    rw [e] at e';cases e'
    exact ⟨e,f0,f1,f2,d⟩
theorem Inv.gZ {pins pl:List (Addr × Obj)} {σ:St} {H:Hp} {s:Shared} (I:Inv X (pins++pl) σ H s):Inv X pins σ H s:=I.uV fun p hp=>I.pin p (List.mem_append_right _ (List.mem_append_left _ hp))
theorem gq {iter:Expr} {body:List Stmt} {wi:TI} {g:TG} {tb:TS} {pos:Pos} (hp:PassesOwn (model X.prog X.w) X.A X.env X.xe) (hc:X.calm=true) (hi:PI X tg iter wi) (hg:PG X tg g) (hb:PSs X body tb)
    (hs:∀ x,foldedSetIterable iter X.env x=pure x:=by intro _;rfl):PS X (.For tg iter body [] pos) (j8 wi g tb):=by
  intro pins s σ H D I h
  refine wpAny_For (thn (hi pins s σ H _ I h) fun v s1 h1=>thn h1 fun itv s2 h2=>?_) hs
  obtain ⟨it,fp,tn,J,H2,e,I2,T,st2,f2,W,⟨m0,w0⟩,turn⟩:=h2
  subst e
  have stat:∀ {H':Hp},(∀ b∈fp,H' b=none)→∀ b∈fp,uD X pins H' b:=fun hn b hb=>⟨hn b hb,(f2 b hb).2⟩
  refine codeAny_forLoop_any (fun n s'=>∃ i σ' H',Inv X pins σ' H' s'∧tn i s'.heap∧(∀ b∈fp,H' b=none)∧W i n σ' H') ?_ m0 ⟨0,σ,H2,I2,st2,fun b hb=>(f2 b hb).1,w0⟩
  rintro n s3 ⟨i,σ3,H3,I3,st3,fr3,w3⟩
  rcases turn i n σ3 H3 w3 with ⟨stop,qn⟩ | ⟨go,N,hN,step⟩
  · refine wpAny_passesOwn hp (thn (T.done X rfl rfl rfl hc i pins s3 σ3 H3 X.xe I3 (stat fr3) st3 stop) fun r s4 ⟨hr,I4⟩=>?_)
    subst hr
    exact wpAny_execs_nil ⟨σ3,H3,I4,qn⟩
  · refine wpAny_passesOwn hp (thn (T.item X rfl rfl rfl hc i pins s3 σ3 H3 X.xe I3 (stat fr3) st3 go) fun r s4 ⟨u,hr,h4⟩=>?_)
    subst hr
    refine wpAny_passesOwn hp (thn h4 fun _ s5 ⟨x,H5,I5,r5,y5,st5,fr5⟩=>?_)
    have I5':=I5.pinned (stat fr5) (T.obj _ _ st5)
    refine wpAny_passesOwn hp (thn (hg _ s5 σ3 H5 x u _ I5' r5 (step x H5 y5)) fun _ s6 ⟨σ6,H6,I6,q6⟩=>?_)
    refine wpAny_passesOwn hp (thn (hb _ s6 σ6 H6 _ I6 q6) fun f s7 q7=>?_)
    have again:∀ {σ7:St} {H7:Hp},Inv X (pins++sJ fp s5.heap) σ7 H7 s7→N σ7 H7→∃ m,m<n∧∃ i σ' H',Inv X pins σ' H' s7∧tn i s7.heap∧(∀ b∈fp,H' b=none)∧W i m σ' H':=fun {σ7 H7} I7 n7=>by
      obtain ⟨m',hm,w7⟩:=hN σ7 H7 n7
      refine ⟨m',hm,i + 1,σ7,H7,I7.gZ,T.keep _ _ _ st5 fun b hb o e=>(I7.pin (b,o) (List.mem_append_right _ (List.mem_append_right _ (jL hb e)))).1,fun b hb=>?_,w7⟩
      obtain ⟨o,e,d⟩:=T.obj _ _ st5 b hb
      exact (I7.pin (b,o) (List.mem_append_right _ (List.mem_append_right _ (jL hb e)))).2.1
    cases f with
    | next=>obtain ⟨σ7,H7,I7,n7⟩:=q7;exact again I7 n7
    | cont=>obtain ⟨σ7,H7,I7,n7⟩:=q7;exact again I7 n7
    | brk=>obtain ⟨σ7,H7,I7,q7⟩:=q7;exact ⟨σ7,H7,I7.gZ,q7⟩
    | ret v=>obtain ⟨x7,σ7,H7,I7,r7,q7⟩:=q7;exact ⟨x7,σ7,H7,I7.gZ,r7,q7⟩
end
theorem dX {K:PySem.W.Frag} {a:Addr} {xs:List V} {g:TG} {tb:TS} {D:Ends} {σ:St} {H:Hp} (Pv:Nat→St→Hp→Prop) (h0:Pv 0 σ H) (hl:∀ i σ H,i≤xs.length→Pv i σ H→SqL K H a xs)
    (hs:∀ i x σ H,xs[i]?=some x→Pv i σ H→g x σ H fun σ2 H2=>tb { D with nx:=Pv (i + 1),ct:=Pv (i + 1),bk:=D.nx } σ2 H2) (hd:∀ σ H,Pv xs.length σ H→D.nx σ H) :
    ∃ W:Nat→Nat→St→Hp→Prop,(∃ m,W 0 m σ H)∧∀ i m σ H,W i m σ H →
      ((Itl K a).stop i H∧D.nx σ H)∨((Itl K a).go i H∧∃ N:St→Hp→Prop,(∀ σ' H',N σ' H'→∃ m',m'<m∧W (i + 1) m' σ' H')∧∀ x H',(Itl K a).yld i H x H'→g x σ H' fun σ2 H2=>tb { D with nx:=N,ct:=N,bk:=D.nx } σ2 H2):=by
  refine ⟨fun i m σ H=>m=xs.length - i∧i≤xs.length∧Pv i σ H,⟨xs.length,by simp,Nat.zero_le _,h0⟩,?_⟩
  rintro i m σ H ⟨rfl,hi,p⟩
  have q:=hl i σ H hi p
  by_cases hlt:i<xs.length
  · refine .inr ⟨⟨xs,xs[i],q,by simp [hlt]⟩,Pv (i + 1),fun σ' H' p'=>⟨xs.length - (i + 1),by omega,rfl,hlt,p'⟩,fun x H' y=>?_⟩
    obtain ⟨e,y⟩:=y
    subst e
    exact hs i x σ _ (y xs q) p
  · have e:i=xs.length:=by omega
    subst e
    exact .inl ⟨⟨xs,q,Nat.le_refl _⟩,hd σ H p⟩
theorem tL {lo:Int} {n:Nat} {g:TG} {tb:TS} {D:Ends} {σ:St} {H:Hp} (Pv:Nat→St→Hp→Prop) (h0:Pv 0 σ H)
    (hs:∀ i σ H,i<n→Pv i σ H→g (.int (lo + i)) σ H fun σ2 H2=>tb { D with nx:=Pv (i + 1),ct:=Pv (i + 1),bk:=D.nx } σ2 H2) (hd:∀ σ H,Pv n σ H→D.nx σ H) :
    ∃ W:Nat→Nat→St→Hp→Prop,(∃ m,W 0 m σ H)∧∀ i m σ H,W i m σ H →
      ((Itr lo n).stop i H∧D.nx σ H)∨((Itr lo n).go i H∧∃ N:St→Hp→Prop,(∀ σ' H',N σ' H'→∃ m',m'<m∧W (i + 1) m' σ' H')∧∀ x H',(Itr lo n).yld i H x H'→g x σ H' fun σ2 H2=>tb { D with nx:=N,ct:=N,bk:=D.nx } σ2 H2):=by
  refine ⟨fun i m σ H=>m=n - i∧i≤n∧Pv i σ H,⟨n,by simp,Nat.zero_le _,h0⟩,?_⟩
  rintro i m σ H ⟨rfl,hi,p⟩
  by_cases hlt:i<n
  · refine .inr ⟨hlt,Pv (i + 1),fun σ' H' p'=>⟨n - (i + 1),by omega,rfl,hlt,p'⟩,fun x H' y=>?_⟩
    obtain ⟨e,y⟩:=y
    subst e y
    exact hs i σ _ hlt p
  · have e:i=n:=by omega
    subst e
    exact .inl ⟨Nat.le_refl _,hd σ H p⟩
end L2
namespace L2
open PySem PySem.Spec PyProof.Rows
abbrev R2:=V→V→Hp→VK→Prop
def OpR (X:Cx) (f:Value→Value→Sem Value) (r:R2):Prop :=
  ∀ (pins:List (Addr × Obj)) (s:Shared) (σ:St) (H:Hp) (x y:V) (v u:Value) (Q:VK),Inv X pins σ H s→RelV x v→RelV y u→r x y H Q →
    wpAny (model X.prog X.w) X.A (f v u) (EP X pins σ Q) X.xe s
def UnR (X:Cx) (f:Value→Sem Value) (r:V→Hp→VK→Prop):Prop :=
  ∀ (pins:List (Addr × Obj)) (s:Shared) (σ:St) (H:Hp) (x:V) (v:Value) (Q:VK),Inv X pins σ H s→RelV x v→r x H Q →
    wpAny (model X.prog X.w) X.A (f v) (EP X pins σ Q) X.xe s
def mQ (X:Cx) (f:Value) (r:List V→Hp→VK→Prop):Prop :=
  ∀ (pins:List (Addr × Obj)) (s:Shared) (σ:St) (H:Hp) (xs:List V) (us:List Value) (Q:VK),Inv X pins σ H s→Vals xs us→r xs H Q →
    wpAny (model X.prog X.w) X.A (call f us) (EP X pins σ Q) X.xe s
def TruR (X:Cx) (r:V→Hp→(Bool→Hp→Prop)→Prop):Prop :=
  ∀ (pins:List (Addr × Obj)) (s:Shared) (σ:St) (H:Hp) (x:V) (v:Value) (Q:Bool→Hp→Prop),Inv X pins σ H s→RelV x v→r x H Q →
    wpAny (model X.prog X.w) X.A (truthy v) (TP X pins σ Q) X.xe s
def tOp (r:R2) (ta tb:TE):TE:=fun σ H Q=>ta σ H fun x H1=>tb σ H1 fun y H2=>r x y H2 Q
def tUn (r:V→Hp→VK→Prop) (ta:TE):TE:=fun σ H Q=>ta σ H fun x H1=>r x H1 Q
def rI (C:Int→Int→Prop) (g:Int→Int→V):R2:=fun x y H Q=>∃ i j,x=.int i∧y=.int j∧C i j∧Q (g i j) H
def rI0 (g:Int→Int→V):R2:=fun x y H Q=>∃ i j,x=.int i∧y=.int j∧Q (g i j) H
def rU (g:Int→V):V→Hp→VK→Prop:=fun x H Q=>∃ i,x=.int i∧Q (g i) H
section
variable {X:Cx} {a b c:Expr} {ta tb tc:TE} {pos:Pos}
theorem Uv (ha:PE X a ta) (hb:PE X b tb) {pins:List (Addr × Obj)} {s:Shared} {σ:St} {H:Hp} {R:V→V→Hp→Prop} (I:Inv X pins σ H s)
    (h:ta σ H fun x H1=>tb σ H1 fun y H2=>R x y H2) {Q:Value→Shared→Prop} {f:Value→Value→Sem Value}
    (hf:∀ v u s2 x y H2,Inv X pins σ H2 s2→RelV x v→RelV y u→R x y H2→wpAny (model X.prog X.w) X.A (f v u) Q X.xe s2) :
    wpAny (model X.prog X.w) X.A (eval a X.env) (fun v s₁=>wpAny (model X.prog X.w) X.A (eval b X.env) (fun u s₂=>wpAny (model X.prog X.w) X.A (f v u) Q X.xe s₂) X.xe s₁) X.xe s:=by
  refine thn (ha pins s σ H _ I h) fun v s1 ⟨x,H1,I1,r1,q1⟩=>?_
  refine thn (hb pins s1 σ H1 _ I1 q1) fun u s2 ⟨y,H2,I2,r2,q2⟩=>?_
  exact hf v u s2 x y H2 I2 r1 r2 q2
theorem aL {op:Operator} {r:R2} (ho:OpR X (binaryOp op) r) (ha:PE X a ta) (hb:PE X b tb):PE X (.BinOp a op b pos) (tOp r ta tb):=by
  intro pins s σ H Q I h
  exact wpAny_BinOp (Uv ha hb I h fun v u s2 x y H2 I2 rx ry q=>ho pins s2 σ H2 x y v u Q I2 rx ry q)
theorem xV {op:UnaryOp} {r:V→Hp→VK→Prop} (ho:UnR X (unaryOp op) r) (ha:PE X a ta):PE X (.UnaryOp op a pos) (tUn r ta):=by
  intro pins s σ H Q I h
  exact UnaryOp_ (thn (ha pins s σ H _ I h) fun v s1 ⟨x,H1,I1,r1,q1⟩=>ho pins s1 σ H1 x v Q I1 r1 q1)
theorem opI {f:Value→Value→Sem Value} {C:Int→Int→Prop} {g:Int→Int→Int}
    (rule:∀ (i j:Int) (t u:Tok) (s:Shared) (Q:Value→Shared→Prop) (E:Value→Shared→Prop),C i j→Q (.int (g i j) s.toks) { s with toks:=s.toks + 1 }→wpAny (model X.prog X.w) X.A (f (.int i t) (.int j u)) Q E s) :
    OpR X f (rI C fun i j=>.int (g i j)):=by
  intro pins s σ H x y v u Q I rx ry h
  obtain ⟨i,j,rfl,rfl,hc,q⟩:=h
  obtain ⟨t,rfl⟩:=rx
  obtain ⟨t',rfl⟩:=ry
  exact rule i j t t' s _ _ hc ⟨.int (g i j),H,I.tok _,⟨_,rfl⟩,q⟩
theorem U7 {f:Value→Value→Sem Value} {g:Int→Int→Int}
    (rule:∀ (i j:Int) (t u:Tok) (s:Shared) (Q:Value→Shared→Prop) (E:Value→Shared→Prop),Q (.int (g i j) s.toks) { s with toks:=s.toks + 1 }→wpAny (model X.prog X.w) X.A (f (.int i t) (.int j u)) Q E s) :
    OpR X f (rI0 fun i j=>.int (g i j)):=by
  intro pins s σ H x y v u Q I rx ry h
  obtain ⟨i,j,rfl,rfl,q⟩:=h
  obtain ⟨t,rfl⟩:=rx
  obtain ⟨t',rfl⟩:=ry
  exact rule i j t t' s _ _ ⟨.int (g i j),H,I.tok _,⟨_,rfl⟩,q⟩
theorem Sq {f:Value→Value→Sem Value} {g:Int→Int→Bool}
    (rule:∀ (i j:Int) (t u:Tok) (s:Shared) (Q:Value→Shared→Prop) (E:Value→Shared→Prop),Q (.bool (g i j)) s→wpAny (model X.prog X.w) X.A (f (.int i t) (.int j u)) Q E s) :
    OpR X f (rI0 fun i j=>.bl (g i j)):=by
  intro pins s σ H x y v u Q I rx ry h
  obtain ⟨i,j,rfl,rfl,q⟩:=h
  obtain ⟨t,rfl⟩:=rx
  obtain ⟨t',rfl⟩:=ry
  exact rule i j t t' s _ _ ⟨.bl (g i j),H,I,rfl,q⟩
def CDiv (i j:Int):Prop:=0<j∧j<1073741824
def CPow (i j:Int):Prop:=0≤j∧j≤1000000∧i.natAbs<2 ^ 64
def UG (i j:Int):Prop:=(-(2 ^ 64)<i∧i<2 ^ 64)∨(-(2 ^ 64)<j∧j<2 ^ 64)
theorem UG.ok {i j:Int} (h:UG i j):IntMulOk i j:=by
  rcases h with ⟨h1,h2⟩ | ⟨h1,h2⟩
  · exact .of_left (intBits_le_64 h1 h2)
  · exact .of_right (intBits_le_64 h1 h2)
theorem dh:OpR X (binaryOp .Add) (rI0 fun i j=>.int (i + j)):=U7 fun _ _ _ _ _ _ _ q=>add_int q
theorem mK:OpR X (binaryOp .Sub) (rI0 fun i j=>.int (i - j)):=U7 fun _ _ _ _ _ _ _ q=>sub_int q
theorem gO:OpR X (binaryOp .Mult) (rI UG fun i j=>.int (i * j)):=opI fun _ _ _ _ _ _ _ hc q=>mul_int q hc.ok
theorem jA:OpR X (binaryOp .FloorDiv) (rI CDiv fun i j=>.int (i / j)):=opI fun i j _ _ _ _ _ hc q=>by
  have h1:(0:Int)<j:=hc.1
  have h2:j<1073741824:=hc.2
  exact floordiv_int (by omega) (by rw [Int.fdiv_eq_ediv_of_nonneg i (by omega)];exact q) (.inl (PyProof.noPylong_small (by omega)))
theorem cD:OpR X (binaryOp .Mod) (rI (fun _ j=>0<j) fun i j=>.int (i % j)):=opI fun i j _ _ _ _ _ hc q=>by
  have h1:(0:Int)<j:=hc
  exact mod_int' (by omega) (by rw [Int.fmod_eq_emod_of_nonneg i (by omega)];exact q)
theorem sV:OpR X (binaryOp .Pow) (rI CPow fun i j=>.int (i ^ j.toNat)):=opI fun _ _ _ _ _ _ _ hc q=>pow_int_small hc.1 hc.2.1 hc.2.2 q
theorem unI {f:Value→Sem Value} {g:Int→Int}
    (rule:∀ (i:Int) (t:Tok) (s:Shared) (Q:Value→Shared→Prop) (E:Value→Shared→Prop),Q (.int (g i) s.toks) { s with toks:=s.toks + 1 }→wpAny (model X.prog X.w) X.A (f (.int i t)) Q E s) :
    UnR X f (rU fun i=>.int (g i)):=by
  intro pins s σ H x v Q I rx h
  obtain ⟨i,rfl,q⟩:=h
  obtain ⟨t,rfl⟩:=rx
  exact rule i t s _ _ ⟨.int (g i),H,I.tok _,⟨_,rfl⟩,q⟩
theorem pH:UnR X (unaryOp .USub) (rU fun i=>.int (-i)):=unI fun _ _ _ _ _ q=>neg_int q
end
def U3:V→V→Bool
  | .non,.non=>true | .non,.int _=>true | .int _,.non=>true | .non,.bl _=>true | .bl _,.non=>true | .non,.str _=>true | .str _,.non=>true
  | .int _,.int _=>true | .bl _,.bl _=>true | .str _,.str _=>true | .byt _,.byt _=>true
  | .int _,.str _=>true | .str _,.int _=>true | .bl _,.str _=>true | .str _,.bl _=>true
  | _,_=>false
def rEq:R2:=fun x y H Q=>U3 x y=true∧Q (.bl (decide (x=y))) H
def rNe:R2:=fun x y H Q=>U3 x y=true∧Q (.bl (!decide (x=y))) H
theorem Bu {i j:Int}:decide (V.int i=V.int j)=(i == j):=by
  rw [Bool.eq_iff_iff]
  simp
theorem J0 {i j:Bool}:decide (V.bl i=V.bl j)=(i == j):=by
  rw [Bool.eq_iff_iff]
  simp
theorem Bt {i j:Str}:decide (V.str i=V.str j)=(i == j):=by
  rw [Bool.eq_iff_iff]
  simp
theorem Bv {i j:Array UInt8}:decide (V.byt i=V.byt j)=(i.toList == j.toList):=by
  rw [Bool.eq_iff_iff]
  cases i
  cases j
  simp
section
variable {X:Cx} {a b c:Expr} {ta tb tc:TE} {pos:Pos}
theorem cg {pins:List (Addr × Obj)} {σ:St} {H:Hp} {s:Shared} {Q:VK} {k k':Bool} (I:Inv X pins σ H s) (q:Q (.bl k) H) (e:k=k'):EP X pins σ Q (.bool k') s:=by
  subst e
  exact ⟨.bl k,H,I,rfl,q⟩
theorem u5:OpR X (compareOp .Eq) rEq:=by
  intro pins s σ H x y v u Q I rx ry h
  obtain ⟨hs,q⟩:=h
  cases x with
  | non =>
    cases rx
    cases y with
    | non=>cases ry;exact PySem.EqNone.eq_none_none (cg I q (by simp))
    | bl j=>cases ry;exact PySem.EqNone.eq_none_bool (cg I q (by simp))
    | int j=>obtain ⟨t',rfl⟩:=ry;exact PySem.EqNone.eq_none_int (cg I q (by simp))
    | str j=>obtain ⟨t',rfl⟩:=ry;exact PySem.EqNone.eq_none_str (cg I q (by simp))
    | _=>exact absurd (show false=true from hs) Bool.false_ne_true
  | bl i =>
    cases rx
    cases y with
    | non=>cases ry;exact PySem.EqNone.eq_bool_none (cg I q (by simp))
    | bl j=>cases ry;exact eq_bool (cg I q J0)
    | str j=>obtain ⟨t',rfl⟩:=ry;exact PySem.EqMixed.eq_bool_str (cg I q (by simp))
    | _=>exact absurd (show false=true from hs) Bool.false_ne_true
  | int i =>
    obtain ⟨t,rfl⟩:=rx
    cases y with
    | non=>cases ry;exact PySem.EqNone.eq_int_none (cg I q (by simp))
    | int j=>obtain ⟨t',rfl⟩:=ry;exact eq_int (cg I q Bu)
    | str j=>obtain ⟨t',rfl⟩:=ry;exact PySem.EqMixed.eq_int_str (cg I q (by simp))
    | _=>exact absurd (show false=true from hs) Bool.false_ne_true
  | str i =>
    obtain ⟨t,rfl⟩:=rx
    cases y with
    | non=>cases ry;exact PySem.EqNone.eq_str_none (cg I q (by simp))
    | bl j=>cases ry;exact PySem.EqMixed.eq_str_bool (cg I q (by simp))
    | int j=>obtain ⟨t',rfl⟩:=ry;exact PySem.EqMixed.eq_str_int (cg I q (by simp))
    | str j=>obtain ⟨t',rfl⟩:=ry;exact eq_str (cg I q Bt)
    | _=>exact absurd (show false=true from hs) Bool.false_ne_true
  | byt i =>
    obtain ⟨t,rfl⟩:=rx
    cases y with
    | byt j=>obtain ⟨t',rfl⟩:=ry;exact PySem.W.eq_bytes (cg I q Bv)
    | _=>exact absurd (show false=true from hs) Bool.false_ne_true
  | _=>cases y <;> exact absurd (show false=true from hs) Bool.false_ne_true
theorem uZ:OpR X (compareOp .NotEq) rNe:=by
  intro pins s σ H x y v u Q I rx ry h
  obtain ⟨hs,q⟩:=h
  cases x with
  | non =>
    cases rx
    cases y with
    | non=>cases ry;exact PySem.EqNone.ne_none_none (cg I q (by simp))
    | bl j=>cases ry;exact PySem.EqNone.ne_none_bool (cg I q (by simp))
    | int j=>obtain ⟨t',rfl⟩:=ry;exact PySem.EqNone.ne_none_int (cg I q (by simp))
    | str j=>obtain ⟨t',rfl⟩:=ry;exact PySem.EqNone.ne_none_str (cg I q (by simp))
    | _=>exact absurd (show false=true from hs) Bool.false_ne_true
  | bl i =>
    cases rx
    cases y with
    | non=>cases ry;exact PySem.EqNone.ne_bool_none (cg I q (by simp))
    | bl j=>cases ry;exact ne_bool (cg I q (congrArg not J0))
    | str j=>obtain ⟨t',rfl⟩:=ry;exact PySem.EqMixed.ne_bool_str (cg I q (by simp))
    | _=>exact absurd (show false=true from hs) Bool.false_ne_true
  | int i =>
    obtain ⟨t,rfl⟩:=rx
    cases y with
    | non=>cases ry;exact PySem.EqNone.ne_int_none (cg I q (by simp))
    | int j=>obtain ⟨t',rfl⟩:=ry;exact ne_int (cg I q (congrArg not Bu))
    | str j=>obtain ⟨t',rfl⟩:=ry;exact PySem.EqMixed.ne_int_str (cg I q (by simp))
    | _=>exact absurd (show false=true from hs) Bool.false_ne_true
  | str i =>
    obtain ⟨t,rfl⟩:=rx
    cases y with
    | non=>cases ry;exact PySem.EqNone.ne_str_none (cg I q (by simp))
    | bl j=>cases ry;exact PySem.EqMixed.ne_str_bool (cg I q (by simp))
    | int j=>obtain ⟨t',rfl⟩:=ry;exact PySem.EqMixed.ne_str_int (cg I q (by simp))
    | str j=>obtain ⟨t',rfl⟩:=ry;exact ne_str (cg I q (congrArg not Bt))
    | _=>exact absurd (show false=true from hs) Bool.false_ne_true
  | byt i =>
    obtain ⟨t,rfl⟩:=rx
    cases y with
    | byt j=>obtain ⟨t',rfl⟩:=ry;exact PySem.W.ne_bytes (cg I q (congrArg not Bv))
    | _=>exact absurd (show false=true from hs) Bool.false_ne_true
  | _=>cases y <;> exact absurd (show false=true from hs) Bool.false_ne_true
theorem Mp:OpR X (compareOp .Lt) (rI0 fun i j=>.bl (decide (i<j))):=Sq fun _ _ _ _ _ _ _ q=>lt_int q
theorem Sh:OpR X (compareOp .LtE) (rI0 fun i j=>.bl (decide (i≤j))):=Sq fun _ _ _ _ _ _ _ q=>le_int q
theorem Dq:OpR X (compareOp .Gt) (rI0 fun i j=>.bl (decide (j<i))):=Sq fun _ _ _ _ _ _ _ q=>gt_int q
theorem d9 (b:Expr) {op:CmpOp} (h:op≠.In:=by decide) (h2:op≠.NotIn:=by decide):behindInMarks op b=false:=by
  have e1:(op == CmpOp.In)=false:=by cases op <;> first | rfl | exact absurd rfl h
  have e2:(op == CmpOp.NotIn)=false:=by cases op <;> first | rfl | exact absurd rfl h2
  cases b <;> simp [behindInMarks,e1,e2]
theorem nU {op:CmpOp} {r:R2} (ho:OpR X (compareOp op) r) (ha:PE X a ta) (hb:PE X b tb) (hm:behindInMarks op b=false):PE X (.Compare a [op] [b] pos) (tOp r ta tb):=by
  intro pins s σ H Q I h
  exact wpAny_Compare1 (Uv ha hb I h fun v u s2 x y H2 I2 rx ry q=>ho pins s2 σ H2 x y v u Q I2 rx ry q) hm
def Rw (t:TE):TT:=fun σ H Q=>t σ H fun x H'=>∃ k,x=.bl k∧Q k H'
theorem dF {op:CmpOp} {r:R2} (ho:OpR X (compareOp op) r) (ha:PE X a ta) (hb:PE X b tb) (hm:behindInMarks op b=false):PT X (.Compare a [op] [b] pos) (Rw (tOp r ta tb)):=by
  intro pins s σ H Q I h
  refine wpAny_isTrue_Compare1 (thn (ha pins s σ H _ I h) fun v s1 ⟨x,H1,I1,r1,q1⟩=>thn (hb pins s1 σ H1 _ I1 q1) fun u s2 ⟨y,H2,I2,r2,q2⟩ =>
    thn (ho pins s2 σ H2 x y v u _ I2 r1 r2 q2) fun c s3 ⟨z,H3,I3,r3,k,e,q3⟩=>?_) hm
  subst e
  cases r3
  exact wpAny_truthy_bool ⟨H3,I3,q3⟩
def Vl (K:PySem.W.Frag) (x:V) (H:Hp) (k:Bool):Prop :=
  match x with
  | .non=>k=false
  | .bl b=>k=b
  | .int i=>k=(i != 0)
  | .str y=>y.length≤sizeLine∧k=((y.length:Int) != 0)
  | .byt y=>y.size≤sizeLine∧k=((y.size:Int) != 0)
  | .ref p=>(∃ xs,SqL K H p xs∧k=!xs.isEmpty)∨(∃ xs,SqT K H p xs∧k=!xs.isEmpty)∨∃ kvs,H p=some (.dK kvs)∧k=!kvs.isEmpty
  | _=>False
theorem yh {κ:Type} {kvs:List (κ × V)} {vs:List (κ × Value)} (r:KV kvs vs):(!vs.isEmpty)=!kvs.isEmpty:=by
  cases r <;> rfl
theorem pU {xs:List V} {its:List Value} (r:Vals xs its):(!its.toArray.isEmpty)=!xs.isEmpty:=by
  cases r <;> simp
theorem oh:(sizeLine:Nat)<2 ^ 63:=by rw [sizeLine_eq];decide
theorem Ls:TruR X (fun x H Q=>∃ k,Vl X.K x H k∧Q k H):=by
  intro pins s σ H x v Q I rx h
  obtain ⟨k,e,q⟩:=h
  have hl:=oh
  have hs:sizeLine=16777216:=sizeLine_eq
  cases x with
  | non =>
    cases rx
    have e':k=false:=e
    subst e'
    exact truthy_none ⟨H,I,q⟩
  | bl b =>
    cases rx
    have e':k=b:=e
    subst e'
    exact wpAny_truthy_bool ⟨H,I,q⟩
  | int i =>
    obtain ⟨t,rfl⟩:=rx
    have e':k=(i != 0):=e
    subst e'
    exact PySem.P.truthy_int ⟨H,I,q⟩
  | str y =>
    obtain ⟨t,rfl⟩:=rx
    obtain ⟨hy,e'⟩:y.length≤sizeLine∧k=((y.length:Int) != 0):=e
    subst e'
    exact PySem.P.truthy_str (by omega) ⟨H,I.tok _,q⟩
  | byt y =>
    obtain ⟨t,rfl⟩:=rx
    obtain ⟨hy,e'⟩:y.size≤sizeLine∧k=((y.size:Int) != 0):=e
    subst e'
    exact PySem.W.truthy_bytes (by omega) ⟨H,I.tok _,q⟩
  | ref p =>
    cases rx
    have e':(∃ xs,SqL X.K H p xs∧k=!xs.isEmpty)∨(∃ xs,SqT X.K H p xs∧k=!xs.isEmpty)∨∃ kvs,H p=some (.dK kvs)∧k=!kvs.isEmpty:=e
    rcases e' with ⟨xs,hx,e'⟩ | ⟨xs,hx,e'⟩ | ⟨kvs,hx,e'⟩
    · subst e'
      obtain ⟨its,r,pl,hz⟩:=I.list hx
      have hlen:=r.length
      exact wpAny_truthy_list pl.isList (by simp only [List.size_toArray];omega) ⟨H,I.tok _,by rw [pU r];exact q⟩
    · subst e'
      obtain ⟨its,r,pl,hz⟩:=I.tuple hx
      have hlen:=r.length
      exact truthy_tuple pl (by simp only [List.size_toArray];omega) ⟨H,I.tok _,by rw [pU r];exact q⟩
    · subst e'
      obtain ⟨hz,hS,vs,r,m⟩:kvs.length≤sizeLine∧(p == sysModules)=false∧∃ vs,KV kvs vs∧s.heap.DictOf (dZ X.prog X.w) p vs:=I.hok p _ hx
      have hlen:kvs.length=vs.length:=Paired.length r
      exact wpAny_truthy_dict hS m (by omega) ⟨H,I.tok _,by rw [yh r];exact q⟩
  | _=>exact (show False from e).elim
theorem Dm (ha:PE X a ta) (he:∀ whole,isTrue a X.env whole=(do let v ← whole;standAt a.pos;holding [v] (truthy v))) :
    PT X a (fun σ H Q=>ta σ H fun x H'=>∃ k,Vl X.K x H' k∧Q k H'):=by
  intro pins s σ H Q I h
  exact isTrue_plain (thn (ha pins s σ H _ I h) fun v s1 ⟨x,H1,I1,r1,q1⟩=>Ls pins s1 σ H1 x v Q I1 r1 q1) (he _)
theorem vals1 {x:V} {us:List Value} (r:Vals [x] us):∃ u,us=[u]∧RelV x u:=by
  cases r with
  | cons r1 r2=>cases r2;exact ⟨_,rfl,r1⟩
theorem vals2 {x y:V} {us:List Value} (r:Vals [x,y] us):∃ u w',us=[u,w']∧RelV x u∧RelV y w':=by
  cases r with
  | cons r1 r2 =>
    cases r2 with
    | cons r3 r4=>cases r4;exact ⟨_,_,rfl,r1,r3⟩
theorem oR (hc:X.calm=true):mQ X (.builtin "max") (fun xs H Q=>∃ i j,xs=[.int i,.int j]∧Q (.int (if j > i then j else i)) H):=by
  intro pins s σ H xs us Q I r h
  obtain ⟨i,j,rfl,q⟩:=h
  obtain ⟨u,w',rfl,⟨t,rfl⟩,⟨t',rfl⟩⟩:=vals2 r
  refine max_two_ints (I.ok.hd hc) fun h' tk k=>⟨_,H,I.kept k,?_,q⟩
  by_cases hj:j > i
  · rw [if_pos hj,if_pos hj];exact ⟨_,rfl⟩
  · rw [if_neg hj,if_neg hj];exact ⟨_,rfl⟩
theorem oO (hc:X.calm=true):mQ X (.builtin "min") (fun xs H Q=>∃ i j,xs=[.int i,.int j]∧Q (.int (if j<i then j else i)) H):=by
  intro pins s σ H xs us Q I r h
  obtain ⟨i,j,rfl,q⟩:=h
  obtain ⟨u,w',rfl,⟨t,rfl⟩,⟨t',rfl⟩⟩:=vals2 r
  refine min_two_ints (I.ok.hd hc) fun h' tk k=>⟨_,H,I.kept k,?_,q⟩
  by_cases hj:j<i
  · rw [if_pos hj,if_pos hj];exact ⟨_,rfl⟩
  · rw [if_neg hj,if_neg hj];exact ⟨_,rfl⟩
end
end L2
namespace L2
open PySem PySem.Spec PyProof.Rows
structure Uy (h:Heap) (x dx C:Addr) (mA:Str→Option Value):Prop where
  obj:h.get? x=some (PySem.W.instObj C dx)
  ns:h.Ns1 dx mA
  ne:dx≠x
theorem Aq {h:Heap} {dx:Addr} {mA:Str→Option Value} (n:h.Ns1 dx mA):∃ od,h.get? dx=some od∧∀ name,PySem.W.lookIn name od=some (mA name):=by
  obtain ⟨o,es,ep,ho,hd,hk,_,hm⟩:=n
  refine ⟨o,ho,fun name=>?_⟩
  have e:=hm name
  unfold nsFind findBy at e
  rw [← Array.find?_toList] at e
  unfold PySem.W.lookIn
  rw [hd]
  dsimp only
  split
  · rename_i y q
    rw [q] at e
    exact congrArg some e
  · rename_i q
    rw [q] at e
    have a:es.toList.any (·.refKey)=false:=by
      rw [List.any_eq_false]
      intro y hy
      obtain ⟨z,t,hkey⟩:=hk y (Array.mem_toList_iff.mp hy)
      simp [DictEntry.refKey,hkey]
    have a':¬ es.toList.any (·.refKey)=true:=by rw [a];exact Bool.false_ne_true
    rw [if_neg a']
    exact congrArg some e
theorem Uy.look {h:Heap} {x dx C:Addr} {mA:Str→Option Value} (I:Uy h x dx C mA):∃ od,PySem.W.InstAt h x (PySem.W.instObj C dx) C (some od)∧∀ name,PySem.W.lookIn name od=some (mA name) :=
  let ⟨od,ho,hl⟩:=Aq I.ns
  ⟨od,⟨I.obj,rfl,rfl,ho⟩,hl⟩
section
variable {prog:Program} {w:World} {A:Around} {E:Value→Shared→Prop} {s:Shared} {K:PySem.W.Frag} {x dx C f:Addr} {mA:Str→Option Value} {name:Str} {v:Value}
end
section
variable {P:Program} {w:World} {H H':Hp} {h h':Heap} {a C dx:Addr} {fs fs':List (Str × V)}
theorem K3 (hok:HOk P w H h) (e:H a=some (.ins C dx fs)):∃ mA,Uy h a dx C mA∧(∀ f,Rq (fs.lookup f) (mA f))∧PySem.Within mA (fs.map (·.1))∧fs.length≤1000∧H dx=some (.own a):=by
  obtain ⟨d,z,ne,ob,mA,n,r,q⟩:=(show eG P w H h a (.ins C dx fs) from hok a _ e)
  exact ⟨mA,⟨ob,n,ne⟩,r,q,z,d⟩
end
structure Cls (K:PySem.W.Frag) (C:Addr):Prop where
  pg:PySem.W.plainGet K C Str.empty=true
  hd:PySem.W.hasDictIn K C=true
  po:PySem.W.plainOver K C=true
  sa:PySem.W.findIn K (.ref C) "__setattr__"=some (some (.builtin "object.__setattr__"))
theorem Cls.get {K:PySem.W.Frag} {C:Addr} (c:Cls K C) (f:Str):PySem.W.plainGet K C f=true:=c.pg
section
variable {X:Cx} {pins:List (Addr × Obj)} {σ:St} {H:Hp} {s:Shared} {a C dx:Addr} {fs:List (Str × V)} {f:Str} {v:V} {A:Around} {E:Value→Shared→Prop}
end
section
variable {X:Cx} {o e value:Expr} {f:Str} {pos pos' tpos:Pos} {ta tv:TE}
end
section
variable {X:Cx} {pins:List (Addr × Obj)} {σ:St} {H:Hp} {s:Shared} {A:Around} {E:Value→Shared→Prop} {Q:Value→Shared→Prop} {c:Value} {b:Bool}
inductive wY (K:PySem.W.Frag) (H:Hp):V→Value→Prop where
  | non:wY K H .non (.type "NoneType")
  | bl (x:Bool):wY K H (.bl x) (.type "bool")
  | int (i:Int):wY K H (.int i) (.type "int")
  | str (x:Str):wY K H (.str x) (.type "str")
  | flt (x:UInt64):wY K H (.flt x) (.type "float")
  | lst {a:Addr} {xs:List V} (e:H a=some (.lst xs)):wY K H (.ref a) (.type "list")
  | frz {a:Addr} {o:Obj} {xs:List V} (e:H a=some (.frz o (.lst xs))):wY K H (.ref a) (.type "list")
  | tup {a:Addr} {xs:List V} (e:H a=some (.tup xs)):wY K H (.ref a) (.type "tuple")
  | dK {a:Addr} {kvs:List (Key × V)} (e:H a=some (.dK kvs)):wY K H (.ref a) (.type "dict")
  | dT {a:Addr} {kvs:List (List Key × V)} (e:H a=some (.dT kvs)):wY K H (.ref a) (.type "dict")
  | ins {a C dx:Addr} {fs:List (Str × V)} (e:H a=some (.ins C dx fs)) (cl:Cls K C) (ha:PySem.W.findIn K (.ref C) "__class__"=some (some (.builtin "object.__class__")))
      (hn:PySem.W.specialIn K (.builtin "object.__class__") "__get__"=some (some (.builtin "getset_descriptor.__get__"))) (htk:PySem.W.takesIn K (.builtin "object.__class__")=some true)
      (hm:PySem.W.mroIn K C (.type "object")=some true):wY K H (.ref a) (.ref C)
theorem Bd {x:V} {u t:Value} (I:Inv X pins σ H s) (rx:RelV x u) (ty:wY X.K H x t) (e:PySem.W.kitOne X.K t c=some b) (h:∀ tk,Q (.bool b) { s with toks:=tk }) :
    wpAny (model X.prog X.w) A (call (.builtin "isinstance") [u,c]) Q E s:=by
  cases ty with
  | non=>cases (show u=Value.none from rx);exact PySem.W.kia_one PySem.W.kitx_none I.kIn True.intro e (fun z=>nomatch z) h
  | bl y=>cases (show u=Value.bool y from rx);exact PySem.W.kia_one PySem.W.kitx_bool I.kIn True.intro e (fun z=>nomatch z) h
  | int i=>obtain ⟨t,q⟩:=(show ∃ t,u=Value.int i t from rx);cases q;exact PySem.W.kia_one PySem.W.kitx_int I.kIn True.intro e (fun z=>nomatch z) h
  | str y=>obtain ⟨t,q⟩:=(show ∃ t,u=Value.str y t from rx);cases q;exact PySem.W.kia_one PySem.W.kitx_str I.kIn True.intro e (fun z=>nomatch z) h
  | flt y=>obtain ⟨t,q⟩:=(show ∃ t,u=Value.float y t from rx);cases q;exact PySem.W.kia_one PySem.W.kitx_float I.kIn True.intro e (fun z=>nomatch z) h
  | @lst a xs ea =>
    cases (show u=Value.ref a from rx)
    obtain ⟨_,_,n,_,h1⟩:=(show eG X.prog X.w H s.heap a (.lst xs) from I.hok a _ ea)
    exact PySem.W.kia_one PySem.W.kitx_list I.kIn ⟨_,h1,rfl⟩ e (fun z=>nomatch z) h
  | @frz a ob xs ea =>
    cases (show u=Value.ref a from rx)
    obtain ⟨_,_,_,n,_,h1⟩:=(show eG X.prog X.w H s.heap a (.frz ob (.lst xs)) from I.hok a _ ea)
    exact PySem.W.kia_one PySem.W.kitx_list I.kIn ⟨_,h1,rfl⟩ e (fun z=>nomatch z) h
  | @tup a xs ea =>
    cases (show u=Value.ref a from rx)
    obtain ⟨_,_,_,p⟩:=(show eG X.prog X.w H s.heap a (.tup xs) from I.hok a _ ea)
    obtain ⟨o,h1,h2,_⟩:=p
    exact PySem.W.kia_one PySem.W.kitx_tuple I.kIn ⟨o,h1,h2⟩ e (fun z=>nomatch z) h
  | @dK a kvs ea =>
    cases (show u=Value.ref a from rx)
    obtain ⟨_,_,vs,_,p⟩:=(show eG X.prog X.w H s.heap a (.dK kvs) from I.hok a _ ea)
    obtain ⟨o,es,ep,h1,h2,_⟩:=p
    exact PySem.W.kia_one PySem.W.kitx_dict I.kIn ⟨o,h1,h2.1⟩ e (fun z=>nomatch z) h
  | @dT a kvs ea =>
    cases (show u=Value.ref a from rx)
    obtain ⟨_,_,xs,_,o,es,ep,h1,h2,_⟩:=(show eG X.prog X.w H s.heap a (.dT kvs) from I.hok a _ ea)
    exact PySem.W.kia_one PySem.W.kitx_dict I.kIn ⟨o,h1,h2.1⟩ e (fun z=>nomatch z) h
  | @ins a C dx fs ea cl ha hn htk hm =>
    cases (show u=Value.ref a from rx)
    obtain ⟨mA,O,_⟩:=K3 I.hok ea
    obtain ⟨od,J,_⟩:=O.look
    exact PySem.W.kia_one (PySem.W.kitx_own (cl.get _) cl.hd ha hn htk hm) I.kIn J e (fun z=>nomatch z) h
end
end L2
namespace L2
open PySem PySem.Spec PyProof.Rows
structure rE (k:Nat) (A:Around):Prop where
  hd:A.handled=none
  dp:A.depth + 3 * k + 5<recursionLimit
  un:A.units + 16 * k + 200<cLine
theorem rE.mono {j k:Nat} {A:Around} (r:rE k A) (h:j≤k):rE j A:=⟨r.hd,by have:=r.dp;omega,by have:=r.un;omega⟩
theorem rE.deeper {k:Nat} {A:Around} (r:rE (k + 1) A) (env:Env):rE k (A.deeper env) :=
  ⟨r.hd,by have:=r.dp;show A.depth + 1 + 3 * k + 5<_;omega,by have:=r.un;show A.units + 3 + 16 * k + 200<_;omega⟩
theorem rE.depth {k:Nat} {A:Around} (r:rE k A):A.depth<recursionLimit:=by have:=r.dp;omega
def tNil:TA:=fun _ H Q=>Q [] H
def RJ (ta:TE) (tr:TA):TA:=fun σ H Q=>ta σ H fun x H1=>tr σ H1 fun xs H2=>Q (x :: xs) H2
section
variable {X:Cx} {e:Expr} {es:List Expr} {te:TE} {t:TA} {pos:Pos}
theorem aq:PA X [] tNil:=fun _ _ _ _ H Q I h=>Calls.spliced_nil ⟨[],H,I,.nil,h⟩
theorem ak (ha:PE X e te) (hr:PA X es t) (hs:starEach (e :: es) X.env=(false,eval e X.env) :: starEach es X.env:=by rfl):PA X (e :: es) (RJ te t):=by
  intro pos pins s σ H Q I h
  rw [hs]
  show wpAny _ _ (spliced ((false,eval e X.env) :: backTo pos (starEach es X.env))) _ _ s
  refine Calls.spliced_cons (thn (ha pins s σ H _ I h) fun u s1 ⟨x,H1,I1,r1,q1⟩=>?_)
  exact thn (hr pos pins s1 σ H1 _ I1 q1) fun us s2 ⟨xs,H2,I2,r2,q2⟩=>⟨x :: xs,H2,I2,.cons r1 r2,q2⟩
def tTup (t:TA):TE:=fun σ H Q=>t σ H fun xs H1=>xs.length≤sizeLine∧∀ p,H1 p=none→Q (.ref p) (upd H1 p (.tup xs))
def tLst (t:TA):TE:=fun σ H Q=>t σ H fun xs H1=>xs.length≤sizeLine∧∀ p,H1 p=none→Q (.ref p) (upd H1 p (.lst xs))
theorem pP {x1} (h:PA X es t):PE X (.Tuple es x1 pos) (tTup t):=by
  intro pins s σ H Q I hq
  refine wpAny_Tuple_spliced (thn (h pos pins s σ H _ I hq) fun us s1 ⟨xs,H1,I1,r,z,q⟩=>⟨by rw [← r.length];exact z,?_⟩)
  have hf:H1 s1.heap.objs.size=none:=I1.hok.fresh (Nat.le_refl _)
  refine ⟨.ref s1.heap.objs.size,upd H1 s1.heap.objs.size (.tup xs),I1.laid (t':=s1.toks) (fun b u e=>Heap.get?_push_of_some _ e) (Nat.le_refl _) ?_,rfl,q _ hf⟩
  exact ⟨z,us,r,⟨_,Heap.get?_push_size _ rfl,rfl,_,rfl⟩⟩
theorem gM (h:PA X es t):PE X (.List es pos) (tLst t):=by
  intro pins s σ H Q I hq
  refine wpAny_List_spliced (thn (h pos pins s σ H _ I hq) fun us s1 ⟨xs,H1,I1,r,z,q⟩=>⟨by rw [← r.length];exact z,?_⟩)
  have hf:H1 s1.heap.objs.size=none:=I1.hok.fresh (Nat.le_refl _)
  refine ⟨.ref s1.heap.objs.size,upd H1 s1.heap.objs.size (.lst xs),I1.laid (t':=s1.toks) (fun b u e=>Heap.get?_push_of_some _ e) (Nat.le_refl _) ?_,rfl,q _ hf⟩
  exact ⟨z,us,0,r,Heap.get?_push_size _ rfl⟩
end
abbrev Sp:=List V→Hp→VK→XK→Prop
abbrev CXT:=List Env→Hp→Shared→XK→Value→Shared→Prop
structure Rr (P:Program) (w:World) (K:PySem.W.Frag) (mg:Str→Option Value) (base:Heap) (A:Around) (outer:List Env) (s:Shared) (H:Hp):Prop where
  frames:A.frames=some outer
  mod:Mod K mg base
  bs:∀ b o,base.get? b=some o→s.heap.get? b=some o∧H b=none
  bsz:base.objs.size≤s.heap.objs.size
  Bo:s.heap.FunFrames base outer
  frf:∀ b∈frs outer,H b=none
  hok:HOk P w H s.heap
  bare:AllBare s.gens
def CE (outer:List Env) (P:Program) (w:World) (H:Hp) (s:Shared) (Q:VK) (u:Value) (s':Shared):Prop :=
  ∃ v H',s'.os=s.os∧AllBare s'.gens∧Un (frs outer) [] H H' s.heap s'.heap∧HOk P w H' s'.heap∧RelV v u∧Q v H'
def CR (CX:CXT) (outer:List Env) (P:Program) (w:World) (H:Hp) (s:Shared) (Q:VK) (E:XK) (r:Result) (s':Shared):Prop :=
  match r with
  | .ok (.ret u)=>CE outer P w H s Q u s'
  | .ok _=>False
  | .error e=>CX outer H s E e s'
structure bZ (P:Program) (w:World) (K:PySem.W.Frag) (mg:Str→Option Value) (base:Heap) (CX:CXT) (k:Nat) (f:Addr) (fd:FuncData) (ps:List Str) (sp:Sp):Prop where
  len:∀ vs H Q E,sp vs H Q E→vs.length=ps.length
  run:∀ (A:Around) (outer:List Env) (s:Shared) (H:Hp) (args:Args) (us:List Value) (vs:List V) (Q:VK) (E:XK),rE k A→Rr P w K mg base A outer s H→BindsTo s fd args (ps.zip us)→Vals vs us→sp vs H Q E →
    codeAny (model P w) A (.call (.ref f) args) (CR CX outer P w H s Q E) s
section
variable {X:Cx} {pins:List (Addr × Obj)} {σ:St} {H:Hp} {s s':Shared}
theorem Inv.env0 (I:Inv X pins σ H s):Rr X.prog X.w X.K X.mg X.base X.A X.stack s H :=
  ⟨I.ok.frames,I.ok.mod,I.bs,Nat.le_trans I.ok.bsz I.sz,I.stack,I.uJ,I.hok,I.bare⟩
theorem Inv.after {Q:VK} {u:Value} (I:Inv X pins σ H s) (h:CE X.stack X.prog X.w H s Q u s'):EP X pins σ Q u s':=by
  obtain ⟨v,H',os,bare,un,hok,r,q⟩:=h
  obtain ⟨hh,g,d,t,os'⟩:=s'
  obtain rfl:os'=s.os:=os
  exact ⟨v,H',I.call (h':=hh) (g':=g) (d':=d) (t':=t) (ch:=[]) un hok bare (fun b z=>absurd z (by simp)),r,q⟩
end
def RK (sp:Sp) (dvs:List V) (E:XK) (t:TA):TE:=fun σ H Q=>t σ H fun vs H1=>sp (vs++dvs) H1 Q E
def Binds (K:PySem.W.Frag) (fd:FuncData) (ps:List Str) (ds:List Value):Prop :=
  ∀ (s:Shared) (us:List Value),K.In s.heap→(us++ds).length=ps.length→BindsTo s fd ⟨us,[]⟩ (ps.zip (us++ds))
theorem Binds.all {K:PySem.W.Frag} {fd:FuncData} {ps:List Str} (h:∀ us:List Value,us.length=ps.length→bindArgs fd ⟨us,[]⟩=pure (ps.zip us)):Binds K fd ps []:=fun s us _ hl=>by
  rw [List.append_nil] at hl ⊢
  exact .of_eq (h us hl)
def Passes (CX:CXT) (X:Cx) (E:XK):Prop:=∀ (pins:List (Addr × Obj)) (σ:St) (H:Hp) (s:Shared) (e:Value) (s':Shared),Inv X pins σ H s→CX X.stack H s E e s'→X.xe e s'
section
variable {X:Cx} {CX:CXT} {k:Nat} {f C:Addr} {fd:FuncData} {ps:List Str} {sp:Sp} {dvs:List V} {ds:List Value} {E:XK} {x m:Str} {p pos apos:Pos} {e o:Expr} {es:List Expr} {ta:TE} {t:TA}
theorem Ma {pins:List (Addr × Obj)} {σ:St} {H:Hp} {s:Shared} {Q:VK} {us:List Value} {vs:List V} (F:bZ X.prog X.w X.K X.mg X.base CX k f fd ps sp) (hr:rE k X.A) (hb:Binds X.K fd ps ds) (hd:Vals dvs ds) (hx:Passes CX X E)
    (I:Inv X pins σ H s) (r:Vals vs us) (h:sp (vs++dvs) H Q E):wpAny (model X.prog X.w) X.A (call (.ref f) us) (EP X pins σ Q) X.xe s:=by
  have r2:Vals (vs++dvs) (us++ds):=r.append hd
  have hl:(us++ds).length=ps.length:=by rw [← r2.length];exact F.len _ _ _ _ h
  refine wpAny_call (codeAny_mono (F.run X.A X.stack s H ⟨us,[]⟩ (us++ds) (vs++dvs) Q E hr I.env0 (hb s us I.kIn hl) r2 h) fun r s' hq=>?_)
  cases r with
  | error e=>exact hx pins σ H s e s' I hq
  | ok fl =>
    cases fl with
    | ret u=>exact I.after hq
    | next=>exact False.elim hq
    | brk=>exact False.elim hq
    | cont=>exact False.elim hq
theorem aF (F:bZ X.prog X.w X.K X.mg X.base CX k f fd ps sp) (hr:rE k X.A) (hg:Gl X x) (hm:X.mg x=some (.ref f)) (hk:PySem.W.keepIn X.K (.ref f)=true) (hb:Binds X.K fd ps ds) (hd:Vals dvs ds) (hx:Passes CX X E)
    (ha:PA X (e :: es) t) (hdb:(x == ("__debug__":Str))=false:=by decide) (he:starEach (e :: es) X.env=(false,eval e X.env) :: starEach es X.env:=by rfl) (hpl:(backTo pos (starEach es X.env)).any (·.1)=false:=by rfl) :
    PE X (.Call (.Name x p) (e :: es) [] pos) (RK sp dvs E t):=by
  intro pins s σ H Q I h
  refine wpAny_Call_Name_kw (Ax I hg hm ?_ hdb)
  refine PySem.W.callWith_K (h₀:=X.base) I.ok.mod.kin hk (thn (ha pos pins s σ H _ I h) fun us s1 ⟨vs,H1,I1,r,q⟩=>⟨I1.kIn,?_⟩) he hpl
  exact Ma F hr hb hd hx I1 r q
end
section
variable {X:Cx} {CX:CXT} {k:Nat} {f C:Addr} {fd:FuncData} {ps ks:List Str} {sp:Sp} {E:XK} {x m:Str} {p pos apos kpos:Pos} {e o:Expr} {es:List Expr} {kws:List Keyword} {te ta:TE} {t tk:TA} {nm:Option Str}
variable {g:List Value→List Value→List Value} {gV:List V→List V→List V}
end
structure aU (N P:List Str) (sc:Scope):Prop where
  kind:sc.kind=.function
  co:sc.isCoroutine=false
  gen:sc.isGenerator=false
  nd:N.Nodup
  pre:N.take P.length=P
  par:∀ x∈P,sc.names.lookup x=some .local∨sc.names.lookup x=some .cell
  nofree:∀ y∈sc.names,y.2≠.free
theorem tW {kindOf:Str→Option NameKind} {x:Str}:∀ {binds:List (Str × Value)} {m:Str→Option Value},(∀ v,(x,v) ∉ binds)→bindL kindOf binds m x=m x
  | [],_,_=>rfl
  | (n,v) :: r,m,h=>by
    unfold bindL
    rw [tW fun w hw=>h w (List.mem_cons_of_mem _ hw)]
    split
    · have:x≠n:=by rintro rfl;exact h v List.mem_cons_self
      simp [this]
    · rfl
theorem tZ {kindOf:Str→Option NameKind} {x:Str}:∀ {binds:List (Str × Value)} {m:Str→Option Value},(∀ v,(x,v) ∉ binds)→bindC kindOf binds m x=m x
  | [],_,_=>rfl
  | (n,v) :: r,m,h=>by
    unfold bindC
    rw [tZ fun w hw=>h w (List.mem_cons_of_mem _ hw)]
    split
    · rfl
    · have:x≠n:=by rintro rfl;exact h v List.mem_cons_self
      simp [this]
theorem tX {kindOf:Str→Option NameKind} {x:Str} {v:Value}:∀ {P:List Str} {vs:List Value} {i:Nat} {m:Str→Option Value},P.Nodup→P[i]?=some x→vs[i]?=some v→kindOf x=some .local →
    bindL kindOf (P.zip vs) m x=some v
  | [],_,_,_,_,h,_,_=>by simp at h
  | _ :: _,[],_,_,_,_,h,_=>by simp at h
  | p :: P,w :: vs,0,m,nd,h1,h2,hk=>by
    simp at h1 h2;subst h1;subst h2
    show bindL kindOf ((p,w) :: P.zip vs) m p=_
    unfold bindL
    rw [tW fun v hv=>(List.nodup_cons.mp nd).1 (List.of_mem_zip hv).1,if_pos hk]
    simp
  | p :: P,w :: vs,i + 1,m,nd,h1,h2,hk=>by
    show bindL kindOf ((p,w) :: P.zip vs) m x=_
    unfold bindL
    exact tX (i:=i) (List.nodup_cons.mp nd).2 (by simpa using h1) (by simpa using h2) hk
theorem uc {kindOf:Str→Option NameKind} {x:Str} {v:Value}:∀ {P:List Str} {vs:List Value} {i:Nat} {m:Str→Option Value},P.Nodup→P[i]?=some x→vs[i]?=some v→kindOf x≠some .local →
    bindC kindOf (P.zip vs) m x=some v
  | [],_,_,_,_,h,_,_=>by simp at h
  | _ :: _,[],_,_,_,_,h,_=>by simp at h
  | p :: P,w :: vs,0,m,nd,h1,h2,hk=>by
    simp at h1 h2;subst h1;subst h2
    show bindC kindOf ((p,w) :: P.zip vs) m p=_
    unfold bindC
    rw [tZ fun v hv=>(List.nodup_cons.mp nd).1 (List.of_mem_zip hv).1,if_neg hk]
    simp
  | p :: P,w :: vs,i + 1,m,nd,h1,h2,hk=>by
    show bindC kindOf ((p,w) :: P.zip vs) m x=_
    unfold bindC
    exact uc (i:=i) (List.nodup_cons.mp nd).2 (by simpa using h1) (by simpa using h2) hk
def start (N:List Str) (vs:List V):St:=vs.map some++List.replicate (N.length - vs.length) none
def Lb (CX:CXT) (P:Program) (w:World) (K:PySem.W.Frag) (mg:Str→Option Value) (base:Heap) (N:List Str) (qual:Str) (scope:Scope) (f:Addr) (cd:Value) (A:Around) (outer:List Env) (s:Shared) (H:Hp) (E:XK):Cx where
  prog:=P
  w:=w
  K:=K
  mg:=mg
  base:=base
  A:=A.deeper (envOfC qual scope s.heap.objs.size f cd)
  N:=N
  s₀:=s
  H₀:=H
  env:=envOfC qual scope s.heap.objs.size f cd
  outer:=outer
  stack:=envOfC qual scope s.heap.objs.size f cd :: outer
  ex:=[]
  calm:=true
  fn:=fun _=>true
  pn:=[]
  xe:=fun e s'=>wpAny (model P w) (A.deeper (envOfC qual scope s.heap.objs.size f cd)) (leaving (envOfC qual scope s.heap.objs.size f cd) e) (fun _ s''=>CX outer H s E e s'') (fun e' s''=>CX outer H s E e' s'') s'
theorem wV {sc:Scope} {n:Nat} {x:Str} (h:sc.names.lookup x=some .cell):∃ c,(cellsFrom n sc.names []).lookup x=some c:=by
  have q:=PySem.W.cellsFrom_some sc.names n [] (.inl h)
  exact Option.isSome_iff_exists.mp q
theorem Bf {CX:CXT} {P:Program} {w:World} {K:PySem.W.Frag} {mg:Str→Option Value} {base:Heap} {N ps:List Str} {qual:Str} {scope:Scope} {f:Addr} {cd:Value} {A:Around} {outer:List Env} {s s1:Shared} {H:Hp} {E:XK} {us:List Value} {vs:List V}
    (S:aU N ps scope) (hd:A.handled=none) (e0:Rr P w K mg base A outer s H) (hl:vs.length=ps.length) (r:Vals vs us)
    (x:InCallC s s.heap.objs.size (bindL (envOfC qual scope s.heap.objs.size f cd).kindOf (ps.zip us) fun _=>none) (cellsFrom (s.heap.objs.size + 1) scope.names []) (bindC (envOfC qual scope s.heap.objs.size f cd).kindOf (ps.zip us) fun _=>none) s1) :
    Inv (Lb CX P w K mg base N qual scope f cd A outer s H E) [] (start N vs) H s1:=by
  have hpl:ps.length≤N.length:=by have:=congrArg List.length S.pre;rw [List.length_take] at this;omega
  obtain ⟨h1,tk,rfl,hk⟩:=x.done
  have noA:∀ b:Addr,b ∉ (Lb CX P w K mg base N qual scope f cd A outer s H E).ex:=fun b z=>absurd (show b∈([]:List Addr) from z) (by simp)
  refine ⟨⟨e0.mod,S.kind,rfl,rfl,Nat.le_refl _,fun y z c h1 h2=>?_,fun y hy=>?_,fun y c _ h=>?_,fun _=>hd,Around.frames_deeper e0.frames,.inr ⟨rfl,rfl⟩,fun b z=>absurd z (noA b),e0.bs,e0.bsz,fun b _ _=>noA b,fun b z=>absurd z (noA b),e0.Bo,e0.frf⟩,
    rfl,e0.bare,Un.kept hk,⟨_,x.toInCall.ns,fun i y v h1 h2 h3=>?_⟩,fun y c h=>⟨_,x.cell y c h⟩,e0.hok.fresh (Nat.le_refl _),fun y c h=>?_,fun p hp=>absurd (show p∈([]:List (Addr × Obj)) from hp) (by simp),e0.hok.kept hk,?_⟩
  · exact name_of_addr x.apart (PySem.mem_of_lookup h1) (PySem.mem_of_lookup h2)
  · have hy:scope.names.lookup y=some .cell∨scope.names.lookup y=some .free:=hy
    rcases hy with hy | hy
    · exact wV hy
    · exact absurd rfl (S.nofree _ (PySem.mem_of_lookup hy))
  · exact Nat.le_of_lt (x.above y c (PySem.mem_of_lookup h))
  · have hi:i<vs.length:=by
      unfold start at h2
      by_cases hi:i<vs.length
      · exact hi
      · rw [List.getElem?_append_right (by simpa using hi)] at h2
        rw [List.getElem?_replicate] at h2
        split at h2 <;> cases h2
    have ha:vs[i]?=some v:=by
      unfold start at h2
      rw [List.getElem?_append_left (by simpa using hi),List.getElem?_map] at h2
      cases e:vs[i]? with
      | none=>rw [e] at h2;cases h2
      | some a=>rw [e] at h2;cases h2;rfl
    obtain ⟨u,hu,rv⟩:=r.get ha
    have hp:ps[i]?=some y:=by
      rw [← S.pre,List.getElem?_take_of_lt (by omega)];exact h1
    have ndP:ps.Nodup:=by rw [← S.pre];exact S.nd.sublist (List.take_sublist _ _)
    refine ⟨u,rv,?_⟩
    rcases S.par y (List.mem_of_getElem? hp) with k | k
    · exact .inl ⟨k,tX ndP hp hu k⟩
    · obtain ⟨c,e⟩:=wV (n:=s.heap.objs.size + 1) k
      refine .inr ⟨.inl k,c,e,?_⟩
      have q:=x.cell y c e
      rw [uc ndP hp hu (by show scope.names.lookup y≠_;rw [k];decide)] at q
      exact q
  · exact e0.hok.fresh (Nat.le_of_lt (x.above y c (PySem.mem_of_lookup h)))
  · unfold start
    show _=N.length
    rw [List.length_append,List.length_map,List.length_replicate]
    omega
theorem Q7 {CX:CXT} {P:Program} {w:World} {K:PySem.W.Frag} {mg:Str→Option Value} {base:Heap} {k:Nat} {f:Addr} {name qual:Str} {params:Arguments} {body:List Stmt} {scope:Scope} {dV kV doc pm cdv ct oc:Value} {an od:Option Addr}
    {osl:Array (Option Value)} {N ps:List Str} {sp:Sp} (lk:K.lookup f=some ⟨oc,od,.func (PySem.W.fnOf name qual params body scope dV kV doc pm an cdv ct),osl⟩) (hcd:PySem.W.codeIn K cdv qual=true) (S:aU N ps scope)
    (len:∀ vs H Q E,sp vs H Q E→vs.length=ps.length)
    (hbody:∀ (A:Around) (outer:List Env) (s:Shared) (H:Hp) (vs:List V) (Q:VK) (E:XK),rE k (A.deeper (envOfC qual scope s.heap.objs.size f cdv))→sp vs H Q E →
      ∃ t,PSs (Lb CX P w K mg base N qual scope f cdv A outer s H E) body t∧t { nx:=fun _ H'=>Q .non H',rt:=Q } (start N vs) H) :
    bZ P w K mg base CX (k + 1) f (PySem.W.fnOf name qual params body scope dV kV doc pm an cdv ct) ps sp:=by
  refine ⟨len,fun A outer s H args us vs Q E hr e0 hb r hsp=>?_⟩
  have hl:=len _ _ _ _ hsp
  have KX:K.In s.heap:=e0.mod.kin.keeps fun b o e=>(e0.bs b o e).1
  have lim:s.heap.NoLimit:=e0.mod.nolimit.keeps fun b o e=>(e0.bs b o e).1
  have hkind:∀ y∈ps.zip us,scope.names.lookup y.1=some .local∨(scope.names.lookup y.1=some .cell∧((cellsFrom (s.heap.objs.size + 1) scope.names []).lookup y.1).isSome=true):=fun ⟨n,v⟩ hy=>by
    rcases S.par n (List.of_mem_zip hy).1 with q | q
    · exact .inl q
    · exact .inr ⟨q,PySem.W.cellsFrom_some _ _ _ (.inl q)⟩
  refine codeAny_call_function hr.depth (KX _ _ lk) rfl S.co S.gen rfl (PySem.W.codeRec_of KX hcd) (hb _ _ _ _ ?_)
  refine wpAny_newFunctionEnv_cells S.kind hkind fun env he s1 x=>?_
  subst he
  refine ⟨lim.keeps x.toInCall.keep,codeAny_func ?_⟩
  obtain ⟨t,ht,hq⟩:=hbody A outer s H vs Q E (hr.deeper _) hsp
  have I:Inv (Lb CX P w K mg base N qual scope f cdv A outer s H E) [] (start N vs) H s1:=Bf S hr.hd e0 hl r x
  refine wpAny_mono (ht [] s1 (start N vs) H _ I hq) (fun fl s' hs=>?_) fun e s' hs=>hs
  have fin:∀ {σ':St} {H':Hp} {v:V} {u:Value},Inv (Lb CX P w K mg base N qual scope f cdv A outer s H E) [] σ' H' s'→RelV v u→Q v H'→CE outer P w H s Q u s' :=
    fun {σ' H' v u} J rv q=>⟨v,H',J.os,J.bare,J.base,J.hok,rv,q⟩
  cases fl with
  | ret u =>
    obtain ⟨v,σ',H',J,rv,q⟩:=hs
    exact fin J rv q
  | next =>
    obtain ⟨σ',H',J,q⟩:=hs
    exact fin (v:=V.non) (u:=Value.none) J rfl q
  | brk =>
    obtain ⟨_,_,_,q⟩:=hs
    exact False.elim q
  | cont =>
    obtain ⟨_,_,_,q⟩:=hs
    exact False.elim q
end L2
namespace L2
open PySem PySem.Spec PyProof.Rows
section
variable {X:Cx} {x:Str} {p pos:Pos} {e:Expr} {es:List Expr} {t:TA} {id T:String} {r:List V→Hp→VK→Prop}
def tCB (r:List V→Hp→VK→Prop) (t:TA):TE:=fun σ H Q=>t σ H fun vs H1=>r vs H1 Q
theorem aH (hc:mQ X (.builtin id) r) (hg:Gl X x) (hm:X.mg x=none) (hv:bootBuiltins x=some (.builtin id)) (ha:PA X (e :: es) t) (hn:x≠"__name__":=by decide) (hdb:(x == ("__debug__":Str))=false:=by decide)
    (he:starEach (e :: es) X.env=(false,eval e X.env) :: starEach es X.env:=by rfl) (hpl:(backTo pos (starEach es X.env)).any (·.1)=false:=by rfl):PE X (.Call (.Name x p) (e :: es) [] pos) (tCB r t):=by
  intro pins s σ H Q I h
  refine wpAny_Call_Name_kw (iJ I hg hm hv ?_ hn hdb)
  exact PyProof.Rows.callWith_builtin1 (thn (ha pos pins s σ H _ I h) fun us s1 ⟨vs,H1,I1,r1,q1⟩=>hc pins s1 σ H1 vs us Q I1 r1 q1) he hpl
theorem dO (hc:mQ X (.type T) r) (hg:Gl X x) (hm:X.mg x=none) (hv:bootBuiltins x=some (.type T)) (ha:PA X (e :: es) t) (hn:x≠"__name__":=by decide) (hdb:(x == ("__debug__":Str))=false:=by decide)
    (he:starEach (e :: es) X.env=(false,eval e X.env) :: starEach es X.env:=by rfl) (hpl:(backTo pos (starEach es X.env)).any (·.1)=false:=by rfl):PE X (.Call (.Name x p) (e :: es) [] pos) (tCB r t):=by
  intro pins s σ H Q I h
  refine wpAny_Call_Name_kw (iJ I hg hm hv ?_ hn hdb)
  exact PyProof.Rows.callWith_type1 (thn (ha pos pins s σ H _ I h) fun us s1 ⟨vs,H1,I1,r1,q1⟩=>hc pins s1 σ H1 vs us Q I1 r1 q1) he hpl
end
end L2
namespace HT
open PySem PyProof.Rows
def lexLt:List Int→List Int→Bool
  | [],[]=>false
  | [],_ :: _=>true
  | _ :: _,[]=>false
  | x :: xs,y :: ys=>if x=y then lexLt xs ys else decide (x<y)
theorem jg (x y:Int) (xs ys:List Int):lexLt (x :: xs) (y :: ys)=if x=y then lexLt xs ys else decide (x<y):=rfl
theorem kJ:lexLt [] []=false:=rfl
section
open PySem.SeqAt
open PySem.AutoSeq1 (wpAny_loadPart')
open PySem.MeetsSeq PySem.MeetsSeq2 PySem.MeetsSeq3
end
section
variable {prog:Program} {w:World} {A:Around} {E:Value→Shared→Prop} {s:Shared}
def sIx (n d:Nat):Option Int→Nat
  | none=>d
  | some v=>if v<0 then (v + (n:Int)).toNat else min v.toNat n
theorem Dk (n d:Nat):sIx n d none=d:=rfl
theorem qH (n d k:Nat):sIx n d (some (k:Int))=min k n:=by
  show (if (k:Int)<0 then ((k:Int) + (n:Int)).toNat else min (k:Int).toNat n)=min k n
  rw [if_neg (by omega),Int.toNat_natCast]
end
end HT
namespace L2
open PySem PySem.Spec PyProof.Rows
abbrev TO:=St→Hp→(Option Int→Hp→Prop)→Prop
def PO (X:Cx) (e:Option Expr) (t:TO):Prop :=
  ∀ (pins:List (Addr × Obj)) (s:Shared) (σ:St) (H:Hp) (Q:Option Int→Hp→Prop),Inv X pins σ H s→t σ H Q →
    wpAny (model X.prog X.w) X.A (evalPart e X.env) (fun u s'=>∃ o H',Inv X pins σ H' s'∧IsPart u o∧Q o H') X.xe s
def Ka:TO:=fun _ H Q=>Q none H
def Rx (t:TE):TO:=fun σ H Q=>t σ H fun x H1=>∃ i,x=.int i∧Q (some i) H1
theorem intsAre_of {ns:List Int}:∀ {us:List Value},Vals (ns.map V.int) us→IntsAre us ns:=by
  induction ns with
  | nil=>intro us r;rw [List.map_nil] at r;cases r;exact .nil
  | cons n ns ih =>
    intro us r
    rw [List.map_cons] at r
    cases r with
    | cons r1 r2 =>
      obtain ⟨t,e⟩:=r1
      subst e
      exact .cons n t (ih r2)
section
variable {X:Cx} {e:Expr} {te:TE} {lo hi:Option Expr} {tl th:TO} {pos p2:Pos}
theorem zQ:PO X none Ka:=by
  intro pins s σ H Q I h
  rw [evalPart_none]
  exact wpAny_pure ⟨none,H,I,.none,h⟩
theorem qJ (h:PE X e te):PO X (some e) (Rx te):=by
  intro pins s σ H Q I hw
  rw [evalPart_some]
  refine thn (h pins s σ H _ I hw) fun u s1 ⟨x,H1,I1,r1,q1⟩=>?_
  obtain ⟨i,rfl,q⟩:=q1
  obtain ⟨t,rfl⟩:=r1
  exact ⟨some i,H1,I1,.int i t,q⟩
def SlR (X:Cx) (r:V→Option Int→Option Int→Hp→VK→Prop):Prop :=
  ∀ (pins:List (Addr × Obj)) (s:Shared) (σ:St) (H:Hp) (x:V) (v vl vu:Value) (lo hi:Option Int) (sl:Addr) (Q:VK),Inv X pins σ H s→RelV x v→s.heap.IsSliceOf sl vl vu .none→IsPart vl lo→IsPart vu hi→r x lo hi H Q →
    ∃ T id,typeLookup (.type T) "__getitem__"=pure (some (.builtin id))∧s.TypeIs v T∧wpAny (model X.prog X.w) X.A (getItem v (.ref sl)) (EP X pins σ Q) X.xe s
def tSl (r:V→Option Int→Option Int→Hp→VK→Prop) (te:TE) (tl th:TO):TE:=fun σ H Q=>te σ H fun x H1=>tl σ H1 fun l H2=>th σ H2 fun u H3=>r x l u H3 Q
theorem qK {r:V→Option Int→Option Int→Hp→VK→Prop} (hr:SlR X r) (he:PE X e te) (hl:PO X lo tl) (hu:PO X hi th):PE X (.Subscript e (.Slice lo hi none p2) pos) (tSl r te tl th):=by
  intro pins s σ H Q I h
  refine Subscript_ (thn (he pins s σ H _ I h) fun v s1 ⟨x,H1,I1,r1,q1⟩=>?_)
  refine wpAny_Slice (thn (hl pins s1 σ H1 _ I1 q1) fun vl s2 ⟨l,H2,I2,pl,q2⟩=>thn (hu pins s2 σ H2 _ I2 q2) fun vu s3 ⟨u,H3,I3,pu,q3⟩=>?_)
  rw [evalPart_none]
  refine wpAny_pure ?_
  have I4:Inv X pins σ H3 { s3 with heap:=s3.heap.push { cls:=.type "slice",data:=.fields #[vl,vu,.none] } }:=I3.kept (t':=s3.toks) fun b ob q=>Heap.get?_push_of_some _ q
  obtain ⟨T,id,hT,ht,hg⟩:=hr pins { s3 with heap:=s3.heap.push { cls:=.type "slice",data:=.fields #[vl,vu,.none] } } σ H3 x v vl vu l u s3.heap.objs.size Q I4 r1 (Heap.IsSliceOf.new ..) pl pu q3
  show wpAny (model X.prog X.w) X.A (subscriptTail e (.Slice lo hi none p2) v (.ref s3.heap.objs.size)) (EP X pins σ Q) X.xe { s3 with heap:=s3.heap.push { cls:=.type "slice",data:=.fields #[vl,vu,.none] } }
  exact tail_any (ops:=[.ref s3.heap.objs.size,v]) ht hT hg (by with_unfolding_all rfl)
def yr (xs:List V) (lo hi:Option Int):List V:=(xs.drop (HT.sIx xs.length 0 lo)).take (HT.sIx xs.length xs.length hi - HT.sIx xs.length 0 lo)
theorem vp (xs:List V) (lo hi:Option Int):(yr xs lo hi).length≤xs.length:=by
  unfold yr
  rw [List.length_take,List.length_drop]
  omega
end
end L2
namespace L2
open PySem PySem.Spec PyProof.Rows
def ixN (n:Nat) (i:Int):Option Nat:=if 0≤i then (if i<n then some i.toNat else none) else if -(n:Int)≤i then some (i + n).toNat else none
def atI {α:Type} (xs:List α) (i:Int):Option α:=(ixN xs.length i).bind fun j=>xs[j]?
theorem Bc {n:Nat} {i:Int} {j:Nat} (h:ixN n i=some j):seqIndex? i n=some j∧j<n∧-(n:Int)≤i∧i<n:=by
  unfold ixN at h
  by_cases h0:0≤i
  · rw [if_pos h0] at h
    by_cases h1:i<n
    · rw [if_pos h1] at h
      have e:i.toNat=j:=Option.some.inj h
      exact ⟨by rw [seqIndex_of h0 h1,e],by omega,by omega,h1⟩
    · rw [if_neg h1] at h;cases h
  · rw [if_neg h0] at h
    by_cases h1:-(n:Int)≤i
    · rw [if_pos h1] at h
      have e:(i + n).toNat=j:=Option.some.inj h
      exact ⟨by rw [seqIndex_neg (by omega) h1,e],by omega,h1,by omega⟩
    · rw [if_neg h1] at h;cases h
theorem Cj {α:Type} {xs:List α} {i:Int} {v:α} (h:atI xs i=some v):∃ j,seqIndex? i xs.length=some j∧xs[j]?=some v∧j<xs.length∧-(xs.length:Int)≤i∧i<xs.length:=by
  unfold atI at h
  cases e:ixN xs.length i with
  | none=>rw [e] at h;cases h
  | some j =>
    rw [e] at h
    obtain ⟨h1,h2,h3,h4⟩:=Bc e
    exact ⟨j,h1,h,h2,h3,h4⟩
theorem iT {α:Type} {xs:List α} {j:Nat} {v:α} (h:xs[j]?=some v):atI xs (j:Int)=some v:=by
  have hj:j<xs.length:=(List.getElem?_eq_some_iff.mp h).1
  have e:ixN xs.length (j:Int)=some j:=by
    unfold ixN
    rw [if_pos (by omega),if_pos (by omega)];simp
  unfold atI;rw [e];exact h
theorem Fi {α:Type} (xs:List α) (v:α):atI (xs++[v]) (-1)=some v:=by
  have hl:(xs++[v]).length=xs.length + 1:=by simp
  have e:ixN (xs++[v]).length (-1)=some xs.length:=by
    unfold ixN
    rw [hl,if_neg (by decide),if_pos (by omega)]
    congr 1
    omega
  unfold atI
  rw [e]
  show (xs++[v])[xs.length]?=some v
  simp
def Lj (b:Expr):Prop:=∀ o i,subscripted b false o i=operate [o,i] (getItem o i)
def IxR (X:Cx) (r:R2):Prop :=
  ∀ (value slice:Expr) (pins:List (Addr × Obj)) (s:Shared) (σ:St) (H:Hp) (x y:V) (v u:Value) (Q:VK),Inv X pins σ H s→RelV x v→RelV y u→r x y H Q →
    subscripted slice false v u=operate [v,u] (getItem v u)→wpAny (model X.prog X.w) X.A (subscriptTail value slice v u) (EP X pins σ Q) X.xe s
def MtR (X:Cx) (id:String) (r:V→List V→Hp→VK→Prop):Prop :=
  ∀ (pins:List (Addr × Obj)) (s:Shared) (σ:St) (H:Hp) (x:V) (xs:List V) (v:Value) (us:List Value) (Q:VK),Inv X pins σ H s→RelV x v→Vals xs us→r x xs H Q →
    wpAny (model X.prog X.w) X.A (call (.builtin id) (v :: us)) (EP X pins σ Q) X.xe s
section
variable {X:Cx} {a b:Expr} {ta tb:TE} {pos:Pos}
theorem bC {r:R2} (hr:IxR X r) (ha:PE X a ta) (hb:PE X b tb) (hs:Lj b):PE X (.Subscript a b pos) (tOp r ta tb):=by
  intro pins s σ H Q I h
  exact Subscript_ (Uv ha hb I h fun v u s2 x y H2 I2 rx ry q=>hr a b pins s2 σ H2 x y v u Q I2 rx ry q (hs _ _))
def U5 (K:PySem.W.Frag):R2:=fun x y H Q=>∃ p xs i v,x=.ref p∧y=.int i∧SqL K H p xs∧atI xs i=some v∧Q v H
def rIxT (K:PySem.W.Frag):R2:=fun x y H Q=>∃ p xs i v,x=.ref p∧y=.int i∧SqT K H p xs∧atI xs i=some v∧Q v H
theorem aR:IxR X (U5 X.K):=by
  intro value slice pins s σ H x y v u Q I rx ry h hs
  obtain ⟨p,xs,i,z,rfl,rfl,hq,he,q⟩:=h
  cases rx
  obtain ⟨t,rfl⟩:=ry
  obtain ⟨its,r,pl,hz⟩:=I.list hq
  obtain ⟨j,h1,h2,h3,h4,h5⟩:=Cj he
  obtain ⟨w,ew,rw'⟩:=r.get h2
  have hl:=r.length
  have hn:=oh
  have fin:EP X pins σ Q w s:=⟨z,H,I,rw',q⟩
  by_cases h0:0≤i
  · have hj:i.toNat=j:=by
      rw [seqIndex_of h0 h5] at h1
      exact Option.some.inj h1
    exact item_listR pl.isList h0 (by omega) (by rw [hj];simpa using ew) fin hs
  · have hj:(i + (its.toArray.size:Int)).toNat=j:=by
      rw [seqIndex_neg (by omega) h4] at h1
      rw [List.size_toArray,← hl]
      exact Option.some.inj h1
    exact subscriptTail_builtinR (x:=w) pl.isList.typeIs slot_list_getitem.lookup
      (wpAny_getItem_list_neg (Q:=fun r s'=>r=w∧EP X pins σ Q r s') pl.isList (by omega) (by rw [List.size_toArray] <;> omega) (by omega) (by rw [hj];simpa using ew) ⟨rfl,fin⟩) hs
theorem oA:IxR X (rIxT X.K):=by
  intro value slice pins s σ H x y v u Q I rx ry h hs
  obtain ⟨p,xs,i,z,rfl,rfl,hq,he,q⟩:=h
  cases rx
  obtain ⟨t,rfl⟩:=ry
  obtain ⟨its,r,pl,hz⟩:=I.tuple hq
  obtain ⟨j,h1,h2,h3,h4,h5⟩:=Cj he
  obtain ⟨w,ew,rw'⟩:=r.get h2
  have hl:=r.length
  have hn:=oh
  have fin:EP X pins σ Q w s:=⟨z,H,I,rw',q⟩
  exact subscriptTail_builtinR (x:=w) pl.typeIs slot_tuple_getitem.lookup
    (getItem_tuple (j:=j) (Q:=fun r s'=>r=w∧EP X pins σ Q r s') pl (by omega) (by omega) (by rw [List.size_toArray,← hl];exact h1) (by simpa using ew) ⟨rfl,fin⟩) hs
theorem yd (its:List Value) (n j:Nat) (u:Value):Obj.mapSeq (·.setIfInBounds j u) { cls:=.type "list",data:=.seq its.toArray n }={ cls:=.type "list",data:=.seq (its.set j u).toArray n }:=by
  simp [Obj.mapSeq]
theorem Inv.lst {pins:List (Addr × Obj)} {σ:St} {H:Hp} {s:Shared} {p:Addr} {xs:List V} (I:Inv X pins σ H s) (h:H p=some (.lst xs)) :
    ∃ (its:List Value) (n:Nat),Vals xs its∧s.heap.get? p=some { cls:=.type "list",data:=.seq its.toArray n }∧xs.length≤sizeLine:=by
  obtain ⟨z,its,n,r,e⟩:=I.hok p _ h
  exact ⟨its,n,r,e,z⟩
theorem Inv.MK {pins:List (Addr × Obj)} {σ:St} {H:Hp} {s:Shared} {p:Addr} {xs ys:List V} {its its':List Value} {n n':Nat} {f:Obj→Obj} (I:Inv X pins σ H s) (h:H p=some (.lst xs))
    (ho:s.heap.get? p=some { cls:=.type "list",data:=.seq its.toArray n }) (hf:f { cls:=.type "list",data:=.seq its.toArray n }={ cls:=.type "list",data:=.seq its'.toArray n' }) (r:Vals ys its') (hz:ys.length≤sizeLine) (t:Nat) :
    Inv X pins σ (upd H p (.lst ys)) { s with heap:=s.heap.update p f,toks:=t }:=by
  have e:(s.heap.update p f).get? p=some { cls:=.type "list",data:=.seq its'.toArray n' }:=by
    rw [Heap.get?_update_self f ho (by rw [hf] <;> rfl),hf]
  refine I.write (x:=p) (e:=p) (by rw [h];trivial) (.inl rfl) (fun b u hb q=>(Heap.get?_update_other _ _ (Ne.symm hb)).trans q) ⟨_,e⟩ ?_
  exact ⟨hz,its',n',r,e⟩
def Mg:V→V→V→Hp→(Hp→Prop)→Prop:=fun o i v H Q=>∃ p xs k j,o=.ref p∧i=.int k∧H p=some (.lst xs)∧ixN xs.length k=some j∧Q (upd H p (.lst (xs.set j v)))
theorem set_list:Ux X Mg:=by
  intro pins s σ H o i v ov iv u Q I ro ri rv h
  obtain ⟨p,xs,k,j,rfl,rfl,hp,hj,q⟩:=h
  cases ro
  obtain ⟨t,rfl⟩:=ri
  obtain ⟨its,n,r,ho,hz⟩:=I.lst hp
  obtain ⟨h1,h2,h3,h4⟩:=Bc hj
  have hl:=r.length
  have hn:=oh
  have I':Inv X pins σ (upd H p (.lst (xs.set j v))) { s with heap:=s.heap.update p (Obj.mapSeq (·.setIfInBounds j u)) } :=
    I.MK hp ho (yd its n j u) (r.set rv j) (by rw [List.length_set];exact hz) s.toks
  by_cases h0:0≤k
  · have hk:k.toNat=j:=by
      rw [seqIndex_of h0 h4] at h1
      exact Option.some.inj h1
    exact PySem.W.ki_setAt ho h0 (by omega) (by rw [List.size_toArray,← hl];exact h4) (by rw [hk];exact ⟨_,I',q⟩)
  · have hk:(k + (its.toArray.size:Int)).toNat=j:=by
      rw [seqIndex_neg (by omega) h3] at h1
      rw [List.size_toArray,← hl]
      exact Option.some.inj h1
    exact PySem.W.ki_setBack ho (by omega) (by rw [List.size_toArray,← hl];exact h3) (by omega) (by rw [hk];exact ⟨_,I',q⟩)
theorem rW (lo hi:Option Int) (n:Nat):(sliceBounds lo hi none n).1=((HT.sIx n 0 lo:Nat):Int)∧(sliceBounds lo hi none n).2.1=((HT.sIx n n hi:Nat):Int)∧(sliceBounds lo hi none n).2.2=1:=by
  refine ⟨?_,?_,rfl⟩
  · cases lo with
    | none=>simp [sliceBounds,HT.sIx]
    | some i =>
      simp only [sliceBounds,HT.sIx,Option.getD_none,show (1:Int) > 0 by decide,if_true]
      by_cases h:i<0
      · simp only [h,if_true] <;> omega
      · simp only [h,if_false] <;> omega
  · cases hi with
    | none=>simp [sliceBounds,HT.sIx]
    | some i =>
      simp only [sliceBounds,HT.sIx,Option.getD_none,show (1:Int) > 0 by decide,if_true]
      by_cases h:i<0
      · simp only [h,if_true] <;> omega
      · simp only [h,if_false] <;> omega
theorem qz (its:List Value) (lo hi:Option Int):slicePick its.toArray lo hi none=((its.drop (HT.sIx its.length 0 lo)).take (HT.sIx its.length its.length hi - HT.sIx its.length 0 lo)).toArray:=by
  obtain ⟨h1,h2,h3⟩:=rW lo hi its.toArray.size
  unfold slicePick
  rw [h1,h2,h3]
  simp only [sliceRange_one,pick_run,List.size_toArray] <;> rfl
def U4 (K:PySem.W.Frag):V→Option Int→Option Int→Hp→VK→Prop:=fun x lo hi H Q=>∃ a xs,x=.ref a∧SqL K H a xs∧∀ p,H p=none→Q (.ref p) (upd H p (.lst (yr xs lo hi)))
theorem uP:SlR X (U4 X.K):=by
  intro pins s σ H x v vl vu lo hi sl Q I rx hs pl pu h
  obtain ⟨a,xs,rfl,hx,q⟩:=h
  cases rx
  obtain ⟨its,r,ht,hz⟩:=I.list hx
  have hlen:=r.length
  refine ⟨"list",_,slot_list_getitem.lookup,ht.isList.typeIs,?_⟩
  refine wpAny_getItem_list_slice ht.isList hs pl pu .none (by simp) ?_ (by rw [List.size_toArray] <;> omega)
  rw [qz,← hlen]
  refine ⟨.ref s.heap.objs.size,_,I.laid (t':=s.toks) (o:=.lst (yr xs lo hi)) (fun b ob q=>Heap.get?_push_of_some _ q) (Nat.le_refl _) ?_,rfl,q _ (I.hok.fresh (Nat.le_refl _))⟩
  exact ⟨Nat.le_trans (vp xs lo hi) hz,_,0,(r.drop (HT.sIx xs.length 0 lo)).take (HT.sIx xs.length xs.length hi - HT.sIx xs.length 0 lo),Heap.get?_push_size _ rfl⟩
def qU:V→Bool
  | .non=>true
  | .bl _=>true
  | .int _=>true
  | .str _=>true
  | _=>false
def eqV:V→V→Bool
  | .non,.non=>true
  | .bl a,.bl b=>a == b
  | .bl a,.int b=>(if a then 1 else 0) == b
  | .int a,.bl b=>a == (if b then 1 else 0)
  | .int a,.int b=>a == b
  | .str a,.str b=>a == b
  | _,_=>false
theorem Q8 {A:Around} {s:Shared} {y x:V} {u v:Value} (ry:RelV y u) (rx:RelV x v) (fy:qU y=true) (fx:qU x=true):SeqAt.EqAt A s u v (eqV y x):=by
  cases y with
  | non =>
    cases ry
    cases x with
    | non=>cases rx;exact SeqAt.EqAt.same _
    | bl b=>cases rx;exact SeqAt.EqAt.none_bool b
    | int b=>obtain ⟨t,rfl⟩:=rx;exact SeqAt.EqAt.none_int b t
    | str b=>obtain ⟨t,rfl⟩:=rx;exact SeqAt.EqAt.none_str b t
    | _=>exact absurd (show false=true from fx) Bool.false_ne_true
  | bl a =>
    cases ry
    cases x with
    | non=>cases rx;exact SeqAt.EqAt.bool_none a
    | bl b=>cases rx;exact SeqAt.EqAt.bool_bool a b
    | int b=>obtain ⟨t,rfl⟩:=rx;exact SeqAt.EqAt.bool_int a b t
    | str b=>obtain ⟨t,rfl⟩:=rx;exact SeqAt.EqAt.bool_str a b t
    | _=>exact absurd (show false=true from fx) Bool.false_ne_true
  | int a =>
    obtain ⟨t',rfl⟩:=ry
    cases x with
    | non=>cases rx;exact SeqAt.EqAt.int_none a t'
    | bl b=>cases rx;exact SeqAt.EqAt.int_bool a t' b
    | int b=>obtain ⟨t,rfl⟩:=rx;exact SeqAt.EqAt.int_int a t' b t
    | str b=>obtain ⟨t,rfl⟩:=rx;exact SeqAt.EqAt.int_str a t' b t
    | _=>exact absurd (show false=true from fx) Bool.false_ne_true
  | str a =>
    obtain ⟨t',rfl⟩:=ry
    cases x with
    | non=>cases rx;exact SeqAt.EqAt.str_none a t'
    | bl b=>cases rx;exact SeqAt.EqAt.str_bool a t' b
    | int b=>obtain ⟨t,rfl⟩:=rx;exact SeqAt.EqAt.str_int a t' b t
    | str b=>obtain ⟨t,rfl⟩:=rx;exact SeqAt.EqAt.str_str a t' b t
    | _=>exact absurd (show false=true from fx) Bool.false_ne_true
  | _=>exact absurd (show false=true from fy) Bool.false_ne_true
def eqU (x:V) (u:Value):Bool:=match u with
  | .none=>eqV .non x
  | .bool b=>eqV (.bl b) x
  | .int i _=>eqV (.int i) x
  | .str z _=>eqV (.str z) x
  | _=>false
theorem JX {x y:V} {u:Value} (r:RelV y u) (f:qU y=true):eqU x u=eqV y x:=by
  cases y with
  | non=>cases r;rfl
  | bl b=>cases r;rfl
  | int i=>obtain ⟨t,rfl⟩:=r;rfl
  | str z=>obtain ⟨t,rfl⟩:=r;rfl
  | _=>exact absurd (show false=true from f) Bool.false_ne_true
theorem oU {x:V}:∀ {xs:List V} {us:List Value},Vals xs us→xs.all qU=true→us.any (eqU x)=xs.any fun y=>eqV y x
  | _,_,.nil,_=>rfl
  | y :: xs,u :: us,.cons r t,f=>by
    rw [List.all_cons,Bool.and_eq_true] at f
    rw [List.any_cons,List.any_cons,JX r f.1,oU t f.2]
theorem kI {A:Around} {s:Shared} {x:V} {v:Value} (rx:RelV x v) (fx:qU x=true):∀ {xs:List V} {us:List Value},Vals xs us→xs.all qU=true→∀ u∈us,SeqAt.EqAt A s u v (eqU x u)
  | _,_,.nil,_=>fun u hu=>by cases hu
  | y :: xs,u :: us,.cons r t,f=>fun u' hu=>by
    rw [List.all_cons,Bool.and_eq_true] at f
    rcases List.mem_cons.mp hu with rfl | hu
    · rw [JX r f.1];exact Q8 r rx f.1 fx
    · exact kI rx fx t f.2 u' hu
def inV (x:V) (xs:List V):Bool:=xs.any fun y=>eqV y x
def rIn (K:PySem.W.Frag) (neg:Bool):R2:=fun x y H Q=>∃ p xs,y=.ref p∧(SqL K H p xs∨SqT K H p xs)∧qU x=true∧xs.all qU=true∧Q (.bl (if neg then !inV x xs else inV x xs)) H
theorem zX:OpR X (compareOp .In) (rIn X.K false):=by
  intro pins s σ H x y v u Q I rx ry h
  obtain ⟨p,xs,rfl,hq,fx,fs,q⟩:=h
  cases ry
  rcases hq with hq | hq
  · obtain ⟨its,r,pl,hz⟩:=I.list hq
    refine SeqAt.in_listAt (eqU x) pl.isList (fun w hw=>kI rx fx r fs w (by simpa using hw)) ⟨.bl _,H,I,rfl,?_⟩
    rw [show its.toArray.any (eqU x)=its.any (eqU x) by simp,oU r fs]
    exact q
  · obtain ⟨its,r,pl,hz⟩:=I.tuple hq
    refine SeqAt.in_tupleAt (eqU x) pl (fun w hw=>kI rx fx r fs w (by simpa using hw)) ⟨.bl _,H,I,rfl,?_⟩
    rw [show its.toArray.any (eqU x)=its.any (eqU x) by simp,oU r fs]
    exact q
theorem sW:OpR X (compareOp .NotIn) (rIn X.K true):=by
  intro pins s σ H x y v u Q I rx ry h
  obtain ⟨p,xs,rfl,hq,fx,fs,q⟩:=h
  cases ry
  rcases hq with hq | hq
  · obtain ⟨its,r,pl,hz⟩:=I.list hq
    refine SeqAt.notIn_listAt (eqU x) pl.isList (fun w hw=>kI rx fx r fs w (by simpa using hw)) ⟨.bl _,H,I,rfl,?_⟩
    rw [show its.toArray.any (eqU x)=its.any (eqU x) by simp,oU r fs]
    exact q
  · obtain ⟨its,r,pl,hz⟩:=I.tuple hq
    refine SeqAt.notIn_tupleAt (eqU x) pl (fun w hw=>kI rx fx r fs w (by simpa using hw)) ⟨.bl _,H,I,rfl,?_⟩
    rw [show its.toArray.any (eqU x)=its.any (eqU x) by simp,oU r fs]
    exact q
theorem aK:mQ X (.builtin "len") (fun xs H Q=>∃ p ys,xs=[.ref p]∧(SqL X.K H p ys∨SqT X.K H p ys)∧Q (.int ys.length) H):=by
  intro pins s σ H xs us Q I r h
  obtain ⟨p,ys,rfl,hq,q⟩:=h
  obtain ⟨u,rfl,rx⟩:=vals1 r
  cases rx
  have hn:=oh
  rcases hq with hq | hq
  · obtain ⟨its,r',pl,hz⟩:=I.list hq
    have hlen:=r'.length
    exact Calls.call_len_list pl.isList (by simp only [List.size_toArray] <;> omega) ⟨.int ys.length,H,I.tok _,⟨s.toks + 1,by rw [List.size_toArray,hlen]⟩,q⟩
  · obtain ⟨its,r',pl,hz⟩:=I.tuple hq
    have hlen:=r'.length
    exact len_tuple pl (by simp only [List.size_toArray] <;> omega) ⟨.int ys.length,H,I.tok _,⟨s.toks + 1,by rw [List.size_toArray,hlen]⟩,q⟩
theorem bK:mQ X (.type "list") (fun xs H Q=>∃ p ys,xs=[.ref p]∧(SqL X.K H p ys∨SqT X.K H p ys)∧∀ l,H l=none→Q (.ref l) (upd H l (.lst ys))):=by
  intro pins s σ H xs us Q I r h
  obtain ⟨p,ys,rfl,hq,q⟩:=h
  obtain ⟨u,rfl,rx⟩:=vals1 r
  cases rx
  have fin:∀ (its:List Value),Vals ys its→ys.length≤sizeLine→∀ (h':Heap) (c':Nat),(∀ b o',s.heap.get? b=some o'→h'.get? b=some o') →
      h'.get? s.heap.objs.size=some { cls:=.type "list",dict:=none,data:=.seq its.toArray c',slots:=#[] }→EP X pins σ Q (.ref s.heap.objs.size) { s with heap:=h' }:=fun its r' hz h' c' kp e =>
    ⟨.ref s.heap.objs.size,_,I.laid (t':=s.toks) kp (Nat.le_refl _) (show eG X.prog X.w _ h' _ (.lst ys) from ⟨hz,its,c',r',e⟩),rfl,q _ (I.hok.fresh (Nat.le_refl _))⟩
  rcases hq with hq | hq
  · obtain ⟨its,r',pl,hz⟩:=I.list hq
    have hlen:=r'.length
    obtain ⟨o,ho,hc,n,hd⟩:=pl.isList
    exact call_list_seq p (.inl rfl) ho hc hd (fun h' c' kp e=>fin its r' hz h' c' kp e) (by simp only [List.size_toArray] <;> omega)
  · obtain ⟨its,r',pl,hz⟩:=I.tuple hq
    have hlen:=r'.length
    obtain ⟨o,ho,hc,n,hd⟩:=pl
    exact call_list_seq p (.inr rfl) ho hc hd (fun h' c' kp e=>fin its r' hz h' c' kp e) (by simp only [List.size_toArray] <;> omega)
def tyV (K:PySem.W.Frag) (T:String) (x:V) (H:Hp):Prop:=match x with
  | .str _=>T="str"
  | .int _=>T="int"
  | .ref p=>(T="list"∧∃ xs,SqL K H p xs)∨(T="tuple"∧∃ o,K.lookup p=some o∧o.cls=.type "tuple"∧o.dict=none) ∨
      (T="dict"∧((∃ kvs,H p=some (.dK kvs))∨∃ kvs,H p=some (.dT kvs)))∨(T="set"∧∃ S n,H p=some (.set S n))
  | _=>False
theorem Lr {pins:List (Addr × Obj)} {σ:St} {H:Hp} {s:Shared} {T:String} {x:V} {v:Value} (I:Inv X pins σ H s) (r:RelV x v) (ty:tyV X.K T x H) :
    s.TypeIs v T∧∀ a,v=.ref a→∃ ob,s.heap.get? a=some ob∧ob.dict=none:=by
  cases x with
  | str z =>
    obtain ⟨t,rfl⟩:=r
    cases (show T="str" from ty)
    exact ⟨typeIs_str s z t,fun _ e=>nomatch e⟩
  | int i =>
    obtain ⟨t,rfl⟩:=r
    cases (show T="int" from ty)
    exact ⟨typeIs_int s i t,fun _ e=>nomatch e⟩
  | ref p =>
    cases r
    rcases ty with ⟨rfl,xs,hq⟩ | ⟨rfl,o,hk,hc,hd⟩ | ⟨rfl,hk⟩ | ⟨rfl,S,n,hk⟩
    · obtain ⟨its,_,pl,_⟩:=I.list hq
      refine ⟨pl.isList.typeIs,fun a e=>?_⟩
      cases e
      obtain ⟨o,n,e,c,hd,_⟩:=pl
      exact ⟨o,e,hd⟩
    · refine ⟨⟨o,I.kIn p o hk,hc⟩,fun a e=>?_⟩
      cases e
      exact ⟨o,I.kIn _ o hk,hd⟩
    · have z:∃ o,s.heap.get? p=some o∧o.ExactDict:=by
        rcases hk with ⟨kvs,hk⟩ | ⟨kvs,hk⟩
        · obtain ⟨_,_,_,_,o,_,_,e,ex,_⟩:=I.hok p _ hk
          exact ⟨o,e,ex⟩
        · obtain ⟨_,_,_,_,o,_,_,e,ex,_⟩:=I.hok p _ hk
          exact ⟨o,e,ex⟩
      obtain ⟨o,e,ex⟩:=z
      refine ⟨⟨o,e,ex.1⟩,fun a e2=>?_⟩
      cases e2
      exact ⟨o,e,ex.2.1⟩
    · obtain ⟨o,_,_,_,e,ex,_⟩:=I.hok p _ hk
      refine ⟨⟨o,e,ex.1⟩,fun a e2=>?_⟩
      cases e2
      exact ⟨o,e,ex.2.1⟩
  | _=>exact False.elim ty
def tBM (K:PySem.W.Frag) (T:String) (r:V→List V→Hp→VK→Prop) (to:TE) (t:TA):TE:=fun σ H Q=>to σ H fun x H1=>tyV K T x H1∧t σ H1 fun xs H2=>r x xs H2 Q
variable {o e:Expr} {es:List Expr} {to:TE} {t:TA} {name:Str} {apos cpos:Pos} {T id:String} {r:V→List V→Hp→VK→Prop}
theorem o7 (pa:PlainAttrs T) (slot:Slot T name id) (hty:typeOf (.builtin id)=pure (.type "method_descriptor")) (hm:MtR X id r) (ho:PE X o to) (ha:PA X (e :: es) t)
    (hbase:attributeBase o name X.env (eval o X.env)=eval o X.env:=by rfl)
    (hfew:((backTo cpos (starEach (e :: es) X.env)).all (fun x=>!x.1) && (backToKw cpos (keywordEach [] X.env)).all (fun x=>x.1.isSome)
      && decide ((e :: es).length + ([]:List Keyword).length + (if ([]:List Keyword).isEmpty then 0 else 1)<30))=true:=by rfl)
    (hline:(apos.endLine == cpos.line)=true:=by rfl) (hs:starEach (e :: es) X.env=(false,eval e X.env) :: starEach es X.env:=by rfl) (hplain:(backTo cpos (starEach es X.env)).any (·.1)=false:=by rfl) :
    PE X (.Call (.Attribute o name apos) (e :: es) [] cpos) (tBM X.K T r to t):=by
  intro pins s σ H Q I h
  refine wpAny_Call_method_late hbase hfew hline rfl (thn (ho pins s σ H _ I h) fun v s1 ⟨x,H1,I1,r1,ty,q1⟩=>?_)
  obtain ⟨h1,h2⟩:=Lr I1 r1 ty
  refine ⟨T,id,pa,slot,hty,h1,h2,?_⟩
  have hA:=ha cpos pins s1 σ H1 _ I1 q1
  rw [hs] at hA ⊢
  refine Calls.callWith_builtin (by show (false || (backTo cpos (starEach es X.env)).any (·.1))=false;rw [hplain] <;> rfl) (Calls.evalArgs_plain ?_)
  exact thn hA fun us s2 ⟨vs,H2,I2,r2,q2⟩=>hm pins s2 σ H2 x vs v us Q I2 r1 r2 q2
end
end L2
namespace L2
open PySem PySem.Spec PyProof.Rows
def MtM (X:Cx) (id:String) (r:V→List V→Hp→VK→Prop):Prop :=
  ∀ (pins:List (Addr × Obj)) (s:Shared) (σ:St) (H:Hp) (x:V) (xs:List V) (v:Value) (us:List Value) (Q:VK),Inv X pins σ H s→RelV x v→Vals xs us→r x xs H Q →
    wpAny (model X.prog X.w) X.A (call (.builtin id) (v :: us)) (EP X pins σ Q) X.xe s
theorem Vals.one:∀ {x:V} {us:List Value},Vals [x] us→∃ u,us=[u]∧RelV x u
  | _,_,.cons r .nil=>⟨_,rfl,r⟩
theorem Vals.rep {xs:List V} {us:List Value} (h:Vals xs us):∀ k:Nat,Vals (List.replicate k xs).flatten (List.replicate k us).flatten
  | 0=>.nil
  | k + 1=>by
    rw [List.replicate_succ,List.replicate_succ,List.flatten_cons,List.flatten_cons]
    exact Vals.append h (Vals.rep h k)
theorem foldl_rep (its:List Value):∀ (k:Nat) (acc:List Value),
    List.foldl (fun x1 x2=>x1++x2) acc.toArray (List.replicate k its.toArray)=(acc++(List.replicate k its).flatten).toArray
  | 0,acc=>by simp
  | k + 1,acc=>by
    have e:acc.toArray++its.toArray=(acc++its).toArray:=by simp
    have e2:(acc++its)++(List.replicate k its).flatten=acc++(List.replicate (k + 1) its).flatten:=by
      rw [List.replicate_succ,List.flatten_cons,List.append_assoc]
    rw [← e2,← foldl_rep its k (acc++its),← e,List.replicate_succ,List.foldl_cons]
section
variable {X:Cx} {pins:List (Addr × Obj)} {σ:St} {H:Hp} {s:Shared} {l b:Addr} {xs ys zs:List V}
theorem Inv.lset {its its':List Value} {n:Nat} {f:Array Value→Array Value} {t':Nat} (I:Inv X pins σ H s) (hH:H l=some (.lst xs))
    (e:s.heap.get? l=some { cls:=.type "list",data:=.seq its.toArray n }) (hf:f its.toArray=its'.toArray) (hv:Vals ys its') (hz:ys.length≤sizeLine) :
    Inv X pins σ (upd H l (.lst ys)) { s with heap:=s.heap.update l (Obj.mapSeq f),toks:=t' }:=by
  have q:=PySem.IsL.update e f
  rw [hf] at q
  refine I.write (x:=l) (e:=l) (by rw [hH];exact trivial) (.inl rfl) (fun b' u hb hu=>(Heap.get?_update_other s.heap (Obj.mapSeq f) (Ne.symm hb)).trans hu) ⟨_,q⟩ ?_
  exact ⟨hz,its',_,hv,q⟩
theorem Inv.U9 {its:List Value} {t':Nat} (I:Inv X pins σ H s) (hv:Vals ys its) (hz:ys.length≤sizeLine) :
    Inv X pins σ (upd H s.heap.objs.size (.lst ys)) { s with heap:=s.heap.push { cls:=.type "list",data:=.seq its.toArray },toks:=t' } :=
  I.laid (fun _ _ q=>Heap.get?_push_of_some _ q) (Nat.le_refl _) ⟨hz,its,0,hv,Heap.get?_push_size _ rfl⟩
theorem Inv.fresh (I:Inv X pins σ H s):H s.heap.objs.size=none:=I.hok.fresh (Nat.le_refl _)
theorem Inv.Rn (I:Inv X pins σ H s) (hH:H l=some (.lst xs)):xs.length≤sizeLine∧∃ (its:List Value) (n:Nat),Vals xs its∧xs.length=its.length∧s.heap.get? l=some { cls:=.type "list",data:=.seq its.toArray n }:=by
  obtain ⟨z,its,n,r,e⟩:=I.hok l _ hH
  exact ⟨z,its,n,r,r.length,e⟩
theorem DG {n:Nat} (h:n≤sizeLine):Builtin.List.listTooLong n=false:=by
  unfold Builtin.List.listTooLong
  exact decide_eq_false (by omega)
end
section
variable {X:Cx}
def Kl:V→List V→Hp→VK→Prop:=fun x vs H Q=>∃ l xs y,x=.ref l∧vs=[y]∧H l=some (.lst xs)∧xs.length<sizeLine∧Q .non (upd H l (.lst (xs++[y])))
theorem eE:MtM X "list.append" Kl:=by
  intro pins s σ H x vs v us Q I rx rv h
  obtain ⟨l,xs,y,rfl,rfl,hH,hz,q⟩:=h
  cases rx
  obtain ⟨u,rfl,ru⟩:=rv.one
  obtain ⟨z,its,n,r,hl,e⟩:=I.Rn hH
  refine call_meets F.slot_list_append ⟨_,e,rfl⟩ F.entry_list_append (F.args_list_append_2 _ _) (PySem.list_append l its.toArray n u (by rw [List.size_toArray];omega)) ⟨e,?_⟩
  refine ⟨.non,_,I.lset (its':=its++[u]) hH e (by simp) (r.append (.cons ru .nil)) ?_,rfl,q⟩
  rw [List.length_append,List.length_singleton]
  omega
def rCat:R2:=fun x y H Q=>∃ l b xs zs,x=.ref l∧y=.ref b∧H l=some (.lst xs)∧H b=some (.lst zs)∧xs.length + zs.length≤sizeLine∧∀ p,H p=none→Q (.ref p) (upd H p (.lst (xs++zs)))
theorem Mq:OpR X (binaryOp .Add) rCat:=by
  intro pins s σ H x y v u Q I rx ry h
  obtain ⟨l,b,xs,zs,rfl,rfl,hH,hB,hz,q⟩:=h
  cases rx
  cases ry
  obtain ⟨z,its,n,r,hl,e⟩:=I.Rn hH
  obtain ⟨z2,its2,n2,r2,hl2,e2⟩:=I.Rn hB
  refine PySem.P.add_list e e2 ?_ (by rw [List.size_toArray,List.size_toArray];omega)
  have ea:its.toArray++its2.toArray=(its++its2).toArray:=by simp
  rw [ea]
  exact ⟨.ref _,_,I.U9 (t':=s.toks) (r.append r2) (by rw [List.length_append];omega),rfl,q _ I.fresh⟩
def rRep:R2:=fun x y H Q=>∃ l k xs,x=.ref l∧y=.int k∧H l=some (.lst xs)∧-(2 ^ 63)≤k∧k<2 ^ 63∧xs.length * k.toNat≤sizeLine ∧
  ∀ p,H p=none→Q (.ref p) (upd H p (.lst (List.replicate k.toNat xs).flatten))
theorem len_rep {α:Type} (xs:List α) (k:Nat):(List.replicate k xs).flatten.length=k * xs.length:=by
  induction k with
  | zero=>simp
  | succ k ih=>rw [List.replicate_succ,List.flatten_cons,List.length_append,ih,Nat.succ_mul,Nat.add_comm]
theorem nW:OpR X (binaryOp .Mult) rRep:=by
  intro pins s σ H x y v u Q I rx ry h
  obtain ⟨l,k,xs,rfl,rfl,hH,h1,h2,hz,q⟩:=h
  cases rx
  obtain ⟨t,rfl⟩:=ry
  obtain ⟨z,its,n,r,hl,e⟩:=I.Rn hH
  have hlen:its.toArray.size * k.toNat≤sizeLine:=by rw [List.size_toArray,← hl];exact hz
  have hcap:¬ its.toArray.size * k.toNat > (2 ^ 63 - 1) / 8:=by
    have:(sizeLine:Nat)≤(2 ^ 63 - 1) / 8:=by decide
    omega
  have hfit:¬ (!Builtin.List.listFitsIndex k)=true:=by
    rw [fitsIndex_both h1 h2]
    exact Bool.false_ne_true
  have hlong:¬ Builtin.List.listTooLong (its.toArray.size * k.toNat)=true:=by
    rw [DG hlen]
    exact Bool.false_ne_true
  have hnew:List.foldl (fun x1 x2=>x1++x2) #[] (List.replicate (if its.toArray.isEmpty=true then 0 else k.toNat) its.toArray)=(List.replicate k.toNat its).flatten.toArray:=by
    have f0:∀ m:Nat,List.foldl (fun x1 x2=>x1++x2) #[] (List.replicate m its.toArray)=(List.replicate m its).flatten.toArray:=fun m=>by
      have:=foldl_rep its m []
      rw [List.nil_append] at this
      exact this
    rw [f0]
    cases its with
    | nil=>simp
    | cons a r'=>rw [if_neg (by simp)]
  refine wpAny_binaryOp_repeat_ref (T:="list") (U:="int") (by decide) ⟨_,e,rfl⟩ (fun s'=>typeIs_int s' k t) noFill_list_mul F.fills_int_mul F.slot_int_rmul repeat_list F.slot_int_index.lookup
    (call_meets F.slot_int_rmul (typeIs_int s k t) F.entry_int_rmul (F.args_int_rmul_2 _ _) (int___rmul___int_list k t l its.toArray n)
      ⟨e,rfl,⟨_,e,rfl⟩,call_meets F.slot_list_mul ⟨_,e,rfl⟩ F.entry_list_mul (F.args_list_mul_2 _ _) (AutoListH.list___mul___list_int_3 l its.toArray n k t hfit hcap hlong) ⟨e,?_⟩⟩)
  rw [hnew]
  exact ⟨.ref _,_,I.U9 (t':=s.toks) (r.rep k.toNat) (by rw [len_rep,Nat.mul_comm];exact hz),rfl,q _ I.fresh⟩
end
section
variable {prog:Program} {w:World} {A:Around} {E:Value→Shared→Prop} {s:Shared}
end
section
variable {X:Cx}
end
end L2
namespace Att
open PySem PySem.W PySem.Calls PyProof.Rows
theorem oF {P:Params} {h:Heap}:∀ (ns:List Int) (vs:List Value),WellAll P h vs (ns.map WData.int)→IntsAre vs ns:=by
  intro ns
  induction ns with
  | nil =>
    intro vs w
    rw [List.map_nil] at w
    cases w
    exact .nil
  | cons n ns ih =>
    intro vs w
    rw [List.map_cons] at w
    cases w with
    | cons a b =>
      cases a
      exact .cons _ _ (ih _ b)
theorem zE {l:OpenLaw} {n:Nat} (hn:l.most=some n) {P:Params} {h:Heap} {args:List WData} {vals:List Value}
    (hpre:l.row.toRowW.claim.pre args=true) (hwl:WellAll P h vals args) :
    ∃ a vs ns,vals=[Value.ref a]∧args=[WData.list (ns.map WData.int)]∧h.get? a=some { cls:=.type "list",data:=.seq vs.toArray }∧IntsAre vs ns∧ns.length≤n:=by
  have hsh:WShape.hasAll [] args [.list .int]=true:=(pre_splitW hpre).1
  have hc:l.pre.holds [] { args:=args }=true:=(pre_splitW hpre).2
  obtain ⟨d,r,rfl,h1,h2⟩:=hasAllW_cons hsh
  obtain rfl:=hasAllW_nil h2
  obtain ⟨xs,rfl,h3⟩:=hasW_list h1
  obtain ⟨ns,rfl⟩:=items_int h3
  have hlen:ns.length≤n:=by
    unfold OpenLaw.pre at hc
    have h4:(WTm.not (.lt (.lit (.int (n:Int))) (.len (.arg 0)))).holds [] { args:=[.list (ns.map .int)] }=true:=by
      have h4:=(holds_andW hc).1
      rw [hn] at h4
      exact h4
    have h5:=condW_of h4 (w_not (w_lt w_lit (w_len_list (w_arg rfl))))
    rw [List.length_map] at h5
    refine Nat.le_of_not_lt fun q=>?_
    have q':(n:Int)<((ns.length:Nat):Int):=by omega
    first
      | (rw [decide_eq_true q'] at h5;exact absurd h5 (by decide))
      | (simp at h5;omega)
  cases hwl with
  | cons w1 w2 =>
    cases w2
    cases w1 with
    | list ho hall=>exact ⟨_,_,ns,rfl,rfl,ho,oF ns _ hall,hlen⟩
theorem zP (l:OpenLaw) (args:List WData):l.row.toRowW.claim.post args (.bool true) args=true :=
  postW_of (r:=l.row.toRowW) (X:=(true == true))
    (show WShape.has [] (.bool true) .bool=true by first | rfl | decide | simp [WShape.has,WShape.arms,WShape.armsAll])
    (show (WTm.eq .res (.lit (.bool true))).value [] { args:=args,res:=some (.bool true),after:=args }=some (.bool (true == true)) from w_eq_bool (w_res rfl) w_lit) rfl
theorem vB {l:OpenLaw} {n:Nat} {q:Program} {loose:List Str} {XP:(Str→Option Value)→Heap→Prop} {YP:World→Heap→Prop} {d:DefRec}
    (hn:l.most=some n) (hdf:d.params.defaults=[])
    (call:∀ (w:World) (s₀ s₁:Shared) (mg mb:Str→Option Value) (fa:Addr) (o:Obj) (pm cd doc:Value) (a:Addr) (vs:List Value) (ns:List Int),
      Ground q loose [] XP w s₀ mg mb s₁.heap→YP w s₁.heap →
      s₁.heap.get? fa=some o→o.data=.func (docDef d.name d.params d.body d.scope pm cd doc)→s₁.heap.CodeRec cd d.name→mg d.name=some (.ref fa) →
      s₁.heap.get? a=some { cls:=.type "list",data:=.seq vs.toArray }→IntsAre vs ns→ns.length≤n→s₁.gens=#[] →
      codeAny (model l.prog w) callerA (.call (.ref fa) ⟨[.ref a],[]⟩) (fun r s'=>r=.ok (.ret (.bool true))∧OldK s₁.heap s'.heap∧s'.os=s₁.os∧AllBare s'.gens) s₁) :
    WalkO q loose XP YP l.row.toRowW d [] (fun f vs=>PySem.call f vs):=by
  intro w s₀ s₁ mg mb G Y fa o pm cd doc dV kV ho hd hcd hD hmg hg args vals as hpre hlay hrd hwl hlo
  obtain rfl:dV=.none:=Dflts.none hD hdf
  obtain rfl:kV=.none:=Dflts.noKw hD
  obtain ⟨a,vs,ns,rfl,rfl,hobj,hints,hlen⟩:=zE hn hpre hwl
  refine enter_call (codeAny_mono (call w s₀ s₁ mg mb fa o pm cd doc a vs ns G Y ho (fd_plain hd) hcd hmg hobj hints hlen hg) fun r s' hq=>?_)
  obtain ⟨rfl,h2,h3,h4⟩:=hq
  exact ⟨.inl ⟨.bool true,.bool true,[],rfl,fun _=>rfl,.bool true,zP l _,fun _=>⟨List.Pairwise.nil,fun _ hm=>(nomatch hm)⟩⟩,h2,h3,h4⟩
section
variable {prog:Program} {w:World} {A:Around} {E:Value→Shared→Prop} {s:Shared} {K:Frag}
end
end Att
namespace L2
open PySem PySem.Spec PyProof.Rows
theorem nq:∀ {vs:List Value} {ns:List Int},IntsAre vs ns→Vals (ns.map V.int) vs
  | _,_,.nil=>.nil
  | _,_,.cons n t h=>.cons ⟨t,rfl⟩ (nq h)
end L2
namespace L2
open PySem PySem.Spec PyProof.Rows
abbrev KOf {K:PySem.W.Frag} {h:Heap} (_:K.In h):PySem.W.Frag:=K
end L2
namespace L2
open PySem PySem.Spec PyProof.Rows
abbrev CX0:CXT:=fun _ _ _ _ _ _=>False
abbrev E0:XK:=fun _ _ _=>False
theorem bH {X:Cx}:Passes CX0 X E0:=fun _ _ _ _ _ _ _ h=>h.elim
structure Fun (K:PySem.W.Frag) (x qual:Str) (st:Stmt) (f:Addr) (fd:FuncData):Prop where
  ex:∃ (oc:Value) (od:Option Addr) (kV doc pm:Value) (an:Option Addr) (cdv ct:Value) (osl:Array (Option Value)),
    fd=PySem.W.fnOf x qual (aC st) (aB st) (ao st) .none kV doc pm an cdv ct∧K.lookup f=some ⟨oc,od,.func fd,osl⟩∧PySem.W.codeIn K cdv qual=true
  kp:PySem.W.keepIn K (.ref f)=true
variable {P:Program} {w:World} {K:PySem.W.Frag} {mg:Str→Option Value} {base:Heap} {T:gk}
theorem Fun.ok {x qual:Str} {st:Stmt} {f:Addr} {fd:FuncData} {N ps:List Str} {k:Nat} {sp:Sp} (F:Fun K x qual st f fd) (S:aU N ps (ao st)) (len:∀ vs H Q E,sp vs H Q E→vs.length=ps.length)
    (hbody:∀ (cdv:Value) (A:Around) (outer:List Env) (s:Shared) (H:Hp) (vs:List V) (Q:VK) (E:XK),rE k (A.deeper (envOfC qual (ao st) s.heap.objs.size f cdv))→sp vs H Q E →
      ∃ t,PSs (Lb CX0 P w K mg base N qual (ao st) f cdv A outer s H E).nox (aB st) t∧t { nx:=fun _ H'=>Q .non H',rt:=Q } (start N vs) H):bZ P w K mg base CX0 (k + 1) f fd ps sp:=by
  obtain ⟨oc,od,kV,doc,pm,an,cdv,ct,osl,rfl,lk,hcd⟩:=F.ex
  refine Q7 lk hcd S len fun A outer s H vs Q E hr hsp=>?_
  obtain ⟨t,h,q⟩:=hbody cdv A outer s H vs Q E hr hsp
  exact ⟨t,h.nox,q⟩
theorem Fun.binds {x qual:Str} {st:Stmt} {f:Addr} {fd:FuncData} {ps:List Str} (F:Fun K x qual st f fd)
    (h:∀ (kV doc pm:Value) (an:Option Addr) (cdv ct:Value) (us:List Value),us.length=ps.length→bindArgs (PySem.W.fnOf x qual (aC st) (aB st) (ao st) .none kV doc pm an cdv ct) ⟨us,[]⟩=pure (ps.zip us)):Binds K fd ps []:=by
  obtain ⟨oc,od,kV,doc,pm,an,cdv,ct,osl,rfl,lk,hcd⟩:=F.ex
  exact .all (h kV doc pm an cdv ct)
theorem bJ {x qual:Str} {st:Stmt} {f:Addr} {oc:Value} {od an:Option Addr} {osl:Array (Option Value)} {kV doc pm cdv ct:Value} (l:K.lookup f=some ⟨oc,od,.func (PySem.W.fnOf x qual (aC st) (aB st) (ao st) .none kV doc pm an cdv ct),osl⟩)
    (c:PySem.W.codeIn K cdv qual=true) (k:PySem.W.keepIn K (.ref f)=true):Fun K x qual st f (PySem.W.fnOf x qual (aC st) (aB st) (ao st) .none kV doc pm an cdv ct):=⟨⟨oc,od,kV,doc,pm,an,cdv,ct,osl,rfl,l,c⟩,k⟩
section
variable {X:Cx}
theorem pv (i:Nat) {x:Str} {pos:Pos} (hN:X.N[i]?=some x:=by rfl) (hv:Vis X.env.scope x:=by first | exact Or.inl rfl | exact Or.inr (Or.inl rfl) | exact Or.inr (Or.inr rfl)) (hd:(x == ("__debug__":Str))=false:=by decide)
    (hcd:(x == ("__classdict__":Str))=false:=by decide):PE X (.Name x pos) (UJ i):=Mj hN hv hd hcd
end
theorem Gh {A B:Prop} (h:B):if false=true then A else B:=by
  rw [if_neg Bool.false_ne_true]
  exact h
theorem KZ {A B:Prop} (h:A):if true=true then A else B:=by
  rw [if_pos rfl]
  exact h
theorem Va {c A B:Prop} [Decidable c] (h1:c→A) (h2:¬ c→B):if c then A else B:=by
  by_cases h:c
  · rw [if_pos h]
    exact h1 h
  · rw [if_neg h]
    exact h2 h
theorem K1 {c A B:Prop} [Decidable c] (hc:c) (h:B):if (!decide c)=true then A else B:=by
  rw [decide_eq_true hc]
  exact Gh h
def Same (H H':Hp):Prop:=∀ b o,H b=some o→H' b=some o
theorem Same.refl (H:Hp):Same H H:=fun _ _ h=>h
theorem Same.free {H H':Hp} (e:Same H H') {l:Addr} (h:H' l=Option.none):H l=Option.none:=by
  cases q:H l with
  | none=>rfl
  | some o =>
    rw [e l o q] at h
    cases h
theorem Same.seq {K:PySem.W.Frag} {H H':Hp} {a:Addr} {xs:List V} (e:Same H H') (h:SqL K H a xs):SqL K H' a xs:=by
  rcases h with (h | ⟨o,h⟩) | h
  · exact .inl (.inl (e _ _ h))
  · exact .inl (.inr ⟨o,e _ _ h⟩)
  · exact .inr h
end L2
namespace L2
open PySem PySem.Spec PyProof.Rows
def clo (cells:List (Str × Addr)):List (Str × NameKind)→List (Str × Addr)→List (Str × Addr)
  | [],cs=>cs
  | (n,k) :: r,cs=>clo cells r (if k == .free then (n,(cells.lookup n).getD 0) :: cs else cs)
theorem BR {env:Env}:∀ (names:List (Str × NameKind)) (cs:List (Str × Addr)),(∀ y∈names,y.2=.free→∃ c,env.cells.lookup y.1=some c) →
    (forIn names cs fun (x:Str × NameKind) (r:List (Str × Addr))=>(do
      let cs:=r
      match x with
      | (name,kind) =>
        if kind == .free then do
          let c ← cellOf env name
          let cs:=(name,c) :: cs
          pure (ForInStep.yield cs)
        else pure (ForInStep.yield cs):Sem (ForInStep (List (Str × Addr)))))=pure (clo env.cells names cs)
  | [],cs,_=>rfl
  | (n,k) :: r,cs,h=>by
    rw [List.forIn_cons]
    by_cases hk:k=.free
    · subst hk
      obtain ⟨c,hc⟩:=h (n,.free) List.mem_cons_self rfl
      have e:cellOf env n=pure c:=by unfold cellOf;rw [hc]
      simp only [beq_self_eq_true,if_true,e,pure_bind]
      rw [BR r _ fun y hy=>h y (List.mem_cons_of_mem _ hy)]
      simp [clo,hc]
    · have hb:(k == NameKind.free)=false:=by simpa using hk
      simp only [hb,Bool.false_eq_true,if_false,pure_bind]
      rw [BR r _ fun y hy=>h y (List.mem_cons_of_mem _ hy)]
      simp [clo,hb]
theorem jU {env:Env} {scope:Scope} (h:∀ y∈scope.names,y.2=.free→∃ c,env.cells.lookup y.1=some c):closureFor scope env=pure (clo env.cells scope.names []):=by
  unfold closureFor
  have e:=BR (env:=env) scope.names [] h
  first
    | (rw [← e];rfl)
    | (simp only [bind_pure];exact e)
    | exact e
theorem BP {cells:List (Str × Addr)}:∀ (names:List (Str × NameKind)) (cs:List (Str × Addr)) (p:Str × Addr),p∈clo cells names cs→p∈cs∨p.2=(cells.lookup p.1).getD 0
  | [],_,_,h=>.inl h
  | (n,k) :: r,cs,p,h=>by
    rcases BP r _ p h with h' | h'
    · by_cases hk:(k == NameKind.free)=true
      · rw [if_pos hk] at h'
        rcases List.mem_cons.mp h' with e | e
        · subst e;exact .inr rfl
        · exact .inl e
      · rw [if_neg hk] at h';exact .inl h'
    · exact .inr h'
theorem wU {cells:List (Str × Addr)}:∀ (names:List (Str × NameKind)) (cs:List (Str × Addr)) (x:Str),(cs.lookup x).isSome=true→((clo cells names cs).lookup x).isSome=true
  | [],_,_,h=>h
  | (n,k) :: r,cs,x,h=>by
    refine wU r _ x ?_
    by_cases hk:(k == NameKind.free)=true
    · rw [if_pos hk]
      rw [List.lookup_cons]
      cases x == n with
      | true=>rfl
      | false=>exact h
    · rw [if_neg hk];exact h
theorem oN {cells:List (Str × Addr)}:∀ (names:List (Str × NameKind)) (cs:List (Str × Addr)) (x:Str),(x,NameKind.free)∈names→((clo cells names cs).lookup x).isSome=true
  | [],_,_,h=>nomatch h
  | (n,k) :: r,cs,x,h=>by
    show ((clo cells r _).lookup x).isSome=true
    rcases List.mem_cons.mp h with e | e
    · have e1:x=n:=congrArg Prod.fst e
      have e2:NameKind.free=k:=congrArg Prod.snd e
      subst e1
      subst e2
      refine wU r _ x ?_
      rw [if_pos (by decide),List.lookup_cons]
      simp
    · exact oN r _ x e
theorem BL {cells:List (Str × Addr)} {names:List (Str × NameKind)} {x:Str} {c:Addr} (h:(clo cells names []).lookup x=some c):c=(cells.lookup x).getD 0:=by
  rcases BP names [] _ (PySem.mem_of_lookup h) with z | z
  · exact nomatch z
  · exact z
theorem rA {cells:List (Str × Addr)}:∀ {names:List (Str × NameKind)} (cs:List (Str × Addr)) {p:Str × Addr},p∈clo cells names cs→p∈cs∨(p.1,NameKind.free)∈names
  | [],_,_,h=>.inl h
  | (n,k) :: r,cs,p,h=>by
    rcases rA (names:=r) _ h with h' | h'
    · by_cases hk:(k == NameKind.free)=true
      · rw [if_pos hk] at h'
        rcases List.mem_cons.mp h' with e | e
        · subst e
          have:k=.free:=by simpa using hk
          subst this
          exact .inr List.mem_cons_self
        · exact .inl e
      · rw [if_neg hk] at h';exact .inl h'
    · exact .inr (List.mem_cons_of_mem _ h')
def jT (X:Cx) (scope:Scope) (N:List Str) (s:Shared) (H:Hp) (ex:List Addr):Cx :=
  { X with N:=N,s₀:=s,H₀:=H,env:=compEnvC scope (clo X.env.cells scope.names []) s.heap.objs.size X.env,outer:=X.stack,stack:=X.stack,ex:=ex,fn:=fun x=>((clo X.env.cells scope.names []).lookup x).isNone,pn:=[],xe:=fun _ _=>False }
def freeOk (sc scope:Scope):Bool:=scope.names.all fun y=>(y.2 != .free) || (sc.names.lookup y.1 == some .cell) || (sc.names.lookup y.1 == some .free)
def uY (scope:Scope):Bool:=(scope.kind == .function) && (scope.names.all fun y=>y.2 != .cell) && (scope.names.all fun y=>y.2 != .local || scope.names.lookup y.1 == some .local)
def vA (scope:Scope) (N N':List Str) (cap:List (Option Nat)):Bool:=(cap.length == N'.length) && (N'.zip cap).all fun p=>match p.2 with
  | none=>true
  | some j=>N[j]? == some p.1 && scope.names.lookup p.1 == some .free
def BW (cap:List (Option Nat)) (σ:St):St:=cap.map fun o=>o.bind fun j=>(σ[j]?).bind id
theorem jZ {f:Str × NameKind→Str × NameKind} (hf:∀ y,(f y).1=y.1) (x:Str):∀ names:List (Str × NameKind),(names.map f).lookup x=(names.lookup x).map fun k=>(f (x,k)).2
  | []=>rfl
  | (n,k) :: r=>by
    have ih:=jZ hf x r
    have e1:(f (n,k)).1=n:=hf (n,k)
    have e2:f (n,k)=(n,(f (n,k)).2):=Prod.ext e1 rfl
    rw [List.map_cons,e2,List.lookup_cons,List.lookup_cons]
    cases hx:x == n with
    | true =>
      have:x=n:=by simpa using hx
      subst this
      rfl
    | false=>exact ih
def rlb (env:Env):Str × NameKind→Str × NameKind:=fun (n,k)=>if (k == NameKind.free && env.scope.kind == .function && env.kindOf n == some .cell) then (n,NameKind.cell) else (n,k)
theorem zK (env:Env) (y:Str × NameKind):(rlb env y).1=y.1:=by
  obtain ⟨n,k⟩:=y
  unfold rlb
  dsimp only
  split <;> rfl
theorem zJ (env:Env) (n:Str) (k:NameKind):(rlb env (n,k)).2=k∨((rlb env (n,k)).2=.cell∧k=.free):=by
  unfold rlb
  dsimp only
  split
  · rename_i h
    rw [Bool.and_eq_true,Bool.and_eq_true] at h
    exact .inr ⟨rfl,by simpa using h.1.1⟩
  · exact .inl rfl
theorem kE (scope:Scope) (env:Env):(relabel scope env).names=scope.names.map (rlb env):=rfl
theorem sH {scope:Scope} {env:Env} {x:Str} (h:scope.names.lookup x=some .free):(relabel scope env).names.lookup x=some .cell∨(relabel scope env).names.lookup x=some .free:=by
  rw [kE,jZ (zK env),h]
  rcases zJ env x .free with e | ⟨e,_⟩
  · exact .inr (congrArg some e)
  · exact .inl (congrArg some e)
theorem mF {scope:Scope} {env:Env} {x:Str} {k':NameKind} (hk:k'=.cell∨k'=.free) (hn:∀ y∈scope.names,y.2≠.cell) (h:(relabel scope env).names.lookup x=some k'):(x,NameKind.free)∈scope.names:=by
  rw [kE,jZ (zK env)] at h
  cases e:scope.names.lookup x with
  | none=>rw [e] at h;cases h
  | some k =>
    rw [e] at h
    have h':(rlb env (x,k)).2=k':=Option.some.inj h
    have hm:=PySem.mem_of_lookup e
    rcases zJ env x k with z | ⟨_,z⟩
    · rw [z] at h'
      subst h'
      rcases hk with z2 | z2
      · exact absurd z2 (hn _ hm)
      · rw [z2] at hm;exact hm
    · rw [z] at hm;exact hm
def PTs (X:Cx) (ifs:List Expr) (t:TT):Prop :=
  ∀ (pins:List (Addr × Obj)) (s:Shared) (σ:St) (H:Hp) (Q:Bool→Hp→Prop),Inv X pins σ H s→t σ H Q →
    wpAny (model X.prog X.w) X.A (forIn ifs true fun c r=>if r=true then do let ok ← isTrue c X.env (eval c X.env);pure (ForInStep.yield ok) else pure (ForInStep.yield r)) (TP X pins σ Q) X.xe s
def Ru:TT:=fun _ H Q=>Q true H
theorem yD {i:Nat} {x:V} {τ:St} {H:Hp} {A B:St→Hp→Prop} (h:A (τ.set i (some x)) H):Em i x τ H fun τ4 H4=>Ru τ4 H4 fun b H5=>if b=true then A τ4 H5 else B τ4 H5:=by
  show if true=true then A (τ.set i (some x)) H else B (τ.set i (some x)) H
  rw [if_pos rfl];exact h
theorem fQ {X:Cx}:PTs X [] Ru:=fun _ _ _ H _ I h=>wpAny_tests_nil ⟨H,I,h⟩
theorem nO {X:Cx} {c:Expr} {t:TT} (h:PT X c t):PTs X [c] t:=fun pins s σ H Q I hq=>wpAny_tests_one (h pins s σ H Q I hq)
def rO (J:It) (acc:Addr) (g:TG) (tc:TT) (te:TE) (τ:St) (H1:Hp) (Q:Hp→Prop):Prop :=
  ∃ W:Nat→Nat→St→Hp→Prop,(∃ m,W 0 m τ (upd H1 acc (.lst [])))∧∀ i m τ H2,W i m τ H2→(J.stop i H2∧Q H2)∨(J.go i H2∧∃ N:St→Hp→Prop,(∀ τ' H',N τ' H'→∃ m',m'<m∧W (i + 1) m' τ' H')∧∀ x H3,J.yld i H2 x H3→g x τ H3 fun τ4 H4 =>
    tc τ4 H4 fun b H5=>if b=true then te τ4 H5 fun y H6=>∃ ys,H6 acc=some (.lst ys)∧ys.length<sizeLine∧N τ4 (upd H6 acc (.lst (ys++[y]))) else N τ4 H5)
theorem p7 {lo:Int} {n:Nat} {acc:Addr} {g:TG} {tc:TT} {te:TE} {τ:St} {H1:Hp} {Q:Hp→Prop} (Pv:Nat→St→Hp→Prop) (h0:Pv 0 τ (upd H1 acc (.lst [])))
    (hs:∀ i τ H,i<n→Pv i τ H→g (.int (lo + i)) τ H fun τ4 H4=>tc τ4 H4 fun b H5=>if b=true then te τ4 H5 fun y H6=>∃ ys,H6 acc=some (.lst ys)∧ys.length<sizeLine∧Pv (i + 1) τ4 (upd H6 acc (.lst (ys++[y]))) else Pv (i + 1) τ4 H5)
    (hd:∀ τ H,Pv n τ H→Q H):rO (Itr lo n) acc g tc te τ H1 Q:=by
  refine ⟨fun i m τ H=>m=n - i∧i≤n∧Pv i τ H,⟨n,by simp,Nat.zero_le _,h0⟩,?_⟩
  rintro i m τ H ⟨rfl,hi,p⟩
  by_cases hlt:i<n
  · refine .inr ⟨hlt,Pv (i + 1),fun τ' H' p'=>⟨n - (i + 1),by omega,rfl,hlt,p'⟩,fun x H' y=>?_⟩
    obtain ⟨e,y⟩:=y
    subst e y
    exact hs i τ _ hlt p
  · have e:i=n:=by omega
    subst e
    exact .inl ⟨Nat.le_refl _,hd τ H p⟩
theorem dw {K:PySem.W.Frag} {a:Addr} {xs:List V} {acc:Addr} {g:TG} {tc:TT} {te:TE} {τ:St} {H1:Hp} {Q:Hp→Prop} (Pv:Nat→St→Hp→Prop) (h0:Pv 0 τ (upd H1 acc (.lst []))) (hl:∀ i τ H,i≤xs.length→Pv i τ H→SqL K H a xs)
    (hs:∀ i x τ H,xs[i]?=some x→Pv i τ H→g x τ H fun τ4 H4=>tc τ4 H4 fun b H5=>if b=true then te τ4 H5 fun y H6=>∃ ys,H6 acc=some (.lst ys)∧ys.length<sizeLine∧Pv (i + 1) τ4 (upd H6 acc (.lst (ys++[y]))) else Pv (i + 1) τ4 H5)
    (hd:∀ τ H,Pv xs.length τ H→Q H):rO (Itl K a) acc g tc te τ H1 Q:=by
  refine ⟨fun i m τ H=>m=xs.length - i∧i≤xs.length∧Pv i τ H,⟨xs.length,by simp,Nat.zero_le _,h0⟩,?_⟩
  rintro i m τ H ⟨rfl,hi,p⟩
  have q:=hl i τ H hi p
  by_cases hlt:i<xs.length
  · refine .inr ⟨⟨xs,xs[i],q,by simp [hlt]⟩,Pv (i + 1),fun τ' H' p'=>⟨xs.length - (i + 1),by omega,rfl,hlt,p'⟩,fun x H' y=>?_⟩
    obtain ⟨e,y⟩:=y
    subst e
    exact hs i x τ _ (y xs q) p
  · have e:i=xs.length:=by omega
    subst e
    exact .inl ⟨⟨xs,q,Nat.le_refl _⟩,hd τ H p⟩
def Kc (wi:TI) (cap:List (Option Nat)) (g:TG) (tc:TT) (te:TE):TE:=fun σ H Q=>wi σ H fun J H1=>∀ acc,H1 acc=none→rO J acc g tc te (BW cap σ) H1 (fun H2=>Q (.ref acc) H2)
abbrev Rh (ifs:List Expr) (env:Env):Sem Bool:=forIn ifs true fun c r=>if r=true then do let ok ← isTrue c env (eval c env);pure (ForInStep.yield ok) else pure (ForInStep.yield r)
abbrev wpQ {α:Type} (prog:Program) (w:World) (A:Around) (m:Sem α) (Q:α→Shared→Prop) (s:Shared):Prop:=wpAny (model prog w) A m Q (fun _ _=>False) s
theorem BJ {prog:Program} {w:World} {A:Around} {R:Result→Shared→Prop} {s:Shared} {elt target iter:Expr} {ifs:List Expr} {scope:Scope} {pos:Pos} {it acc:Value} {env:Env} (I:Nat→Shared→Prop)
    (turn:∀ k s0,I k s0→wpQ prog w A (pyNext it) (fun r s1=>(r=none∧R (.ok .next) s1)∨∃ v,r=some v ∧
      wpQ prog w A (letOwnedTupleGo target it v) (fun _ s2=>wpQ prog w A (assign target env v) (fun _ s3=>wpQ prog w A (Rh ifs env) (fun ok s4 =>
        (ok=false∧∃ m,m<k∧I m s4)∨(ok=true∧wpQ prog w A (eval elt env) (fun x s5=>wpQ prog w A (call (.builtin "list.append") [acc,x]) (fun _ s6=>∃ m,m<k∧I m s6) s5) s4)) s3) s2) s1) s0)
    (k:Nat) (h:I k s):codeAny (model prog w) A (.compLoop (.ListComp elt [⟨target,iter,ifs,0⟩] scope pos) 0 it acc env) R s:=by
  have quiet:∀ (e:Value) (s':Shared),False→notedBy (model prog w) A env (fun e s'=>R (.error e) s') e s':=fun _ _ z=>z.elim
  apply codeAny_loop rfl I _ k h
  intro k s0 start
  apply wpAny_noted
  rw [compTurn_list]
  apply wpAny_bind
  apply wpAny_standAt
  apply wpAny_bind
  apply wpAny_mono (turn k s0 start) _ quiet
  rintro r s1 (⟨rfl,stop⟩ | ⟨v,rfl,rest⟩)
  · exact wpAny_pure stop
  apply wpAny_bind
  apply wpAny_mono rest _ quiet
  intro _ s2 h2
  apply wpAny_bind
  apply wpAny_mono h2 _ quiet
  intro _ s3 h3
  apply wpAny_bind
  apply wpAny_mono h3 _ quiet
  rintro ok s4 (⟨rfl,skip⟩ | ⟨rfl,add⟩)
  · exact wpAny_pure ⟨rfl,skip⟩
  apply wpAny_bind
  apply wpAny_bind
  apply wpAny_mono add _ quiet
  intro x s5 h5
  apply wpAny_bind
  apply wpAny_mono h5 _ quiet
  intro _ s6 h6
  exact wpAny_pure (wpAny_pure ⟨rfl,h6⟩)
section
variable {X:Cx} {tg iter elt:Expr} {ifs:List Expr} {scope:Scope} {pos:Pos} {wi:TI} {N':List Str} {cap:List (Option Nat)} {g:TG} {tc:TT} {te:TE}
theorem p8 {use:Option (Value→Sem Unit)} {R:Value→Shared→Prop} (sc:Scope) (hsc:X.env.scope=sc) (N₀:List Str) (hN₀:X.N=N₀) (f1:freeOk sc scope=true) (f2:uY scope=true) (f3:vA scope N₀ N' cap=true) (hcalm:X.calm=true)
    (hi:PI X tg iter wi)
    (hg:∀ (s:Shared) (H:Hp) (ex:List Addr),PG (jT X scope N' s H ex) tg g)
    (hc:∀ (s:Shared) (H:Hp) (ex:List Addr),PTs (jT X scope N' s H ex) ifs tc)
    (he:∀ (s:Shared) (H:Hp) (ex:List Addr),PE (jT X scope N' s H ex) elt te)
    (hs:∀ x,foldedSetIterable iter X.env x=pure x)
    {pins:List (Addr × Obj)} {s:Shared} {σ:St} {H:Hp} {Q:V→Hp→Prop} (I:Inv X pins σ H s) (h:Kc wi cap g tc te σ H Q)
    (fin:∀ (acc C:Addr) (s':Shared) (H':Hp) (m:Str→Option Value),Inv X pins σ H' s'→s'.heap.Ns C m→H' C=none→C≠X.env.locals→X.s₀.heap.objs.size≤C→(∀ x c,X.env.cells.lookup x=some c→c≠C)→(∀ p∈X.pn++pins,p.1≠C)→Q (.ref acc) H' →
      compPost (model X.prog X.w) X.A X.xe use R (.ref acc) C (.ok .next) s') :
    wpAny (model X.prog X.w) X.A (comprehension (.ListComp elt [⟨tg,iter,ifs,0⟩] scope pos) scope X.env (firstIterPos [⟨tg,iter,ifs,0⟩] pos) (newList []) false (firstIter [⟨tg,iter,ifs,0⟩] X.env) use) R X.xe s:=by
  have ok:=I.ok
  have fr:∀ y∈scope.names,y.2=.free→X.env.kindOf y.1=some .cell∨X.env.kindOf y.1=some .free:=fun y hy e=>by
    have q:=List.all_eq_true.mp f1 y hy
    rw [e] at q
    have q':((sc.names.lookup y.1 == some NameKind.cell) || (sc.names.lookup y.1 == some NameKind.free))=true:=by simpa using q
    rw [Bool.or_eq_true] at q'
    unfold Env.kindOf
    rw [hsc]
    rcases q' with z | z
    · exact .inl (by simpa using z)
    · exact .inr (by simpa using z)
  obtain ⟨⟨k1,k2⟩,k3⟩:((scope.kind == .function)=true∧(scope.names.all fun y=>y.2 != .cell)=true)∧(scope.names.all fun y=>y.2 != .local || scope.names.lookup y.1 == some .local)=true:=by
    unfold uY at f2
    rw [Bool.and_eq_true,Bool.and_eq_true] at f2
    exact f2
  have hkind:scope.kind=.function:=by simpa using k1
  have hcell:∀ y∈scope.names,y.2≠.cell:=fun y hy=>by
    have q:=List.all_eq_true.mp k2 y hy
    simpa using q
  have hnames:∀ y∈scope.names,y.2=.local→scope.names.lookup y.1=some .local:=fun y hy e=>by
    have q:=List.all_eq_true.mp k3 y hy
    rw [e] at q
    simpa using q
  have hclos:closureFor scope X.env=pure (clo X.env.cells scope.names []):=jU fun y hy e=>ok.has y.1 (fr y hy e)
  have clX:∀ x c,(clo X.env.cells scope.names []).lookup x=some c→X.env.cells.lookup x=some c:=fun x c e=>by
    have e1:=BL e
    have hx:(x,NameKind.free)∈scope.names:=by
      rcases rA [] (PySem.mem_of_lookup e) with z | z
      · exact nomatch z
      · exact z
    obtain ⟨c',e2⟩:=ok.has x (fr (x,.free) hx rfl)
    rw [e2] at e1 ⊢
    rw [e1];rfl
  refine wpAny_comprehension_free (use:=use) rfl hs hclos hkind hnames ?_
  show wpAny (model X.prog X.w) X.A (eval iter X.env) _ X.xe s
  refine thn (hi pins s σ H _ I h) fun v s1 h1=>thn h1 fun itv s2 h2=>?_
  obtain ⟨it,fp,tn,J,H2,e,I2,T,st2,f2',h3⟩:=h2
  subst e
  refine wpAny_newObj_type ?_
  have fresh2:H2 s2.heap.objs.size=none:=I2.hok.fresh (Nat.le_refl _)
  have I3:Inv X pins σ (upd H2 s2.heap.objs.size (.lst [])) { s2 with heap:=s2.heap.push { cls:=.type "list",data:=.seq ([]:List Value).toArray } } :=
    I2.laid (t':=s2.toks) (fun b o e=>Heap.get?_push_of_some _ e) (Nat.le_refl _) ⟨Nat.zero_le _,[],0,.nil,Heap.get?_push_size _ rfl⟩
  have st3:tn 0 (s2.heap.push { cls:=.type "list",data:=.seq ([]:List Value).toArray }):=T.keep _ _ _ st2 fun b _ o e=>Heap.get?_push_of_some _ e
  have fpne:∀ b∈fp,b≠s2.heap.objs.size:=fun b hb z=>by
    obtain ⟨o,eo,_⟩:=T.obj 0 _ st2 b hb
    exact absurd (Heap.lt_size eo) (by rw [z];exact Nat.lt_irrefl _)
  have fp3:∀ b∈fp,uD X pins (upd H2 s2.heap.objs.size (.lst [])) b:=fun b hb=>by
    obtain ⟨a0,a1⟩:=f2' b hb
    exact ⟨by rw [aV (fpne b hb)];exact a0,a1⟩
  obtain ⟨W,⟨m0,w0⟩,turn⟩:=h3 s2.heap.objs.size fresh2
  generalize hacc:s2.heap.objs.size=acc at I3 fp3 w0 turn fpne ⊢
  generalize hs3:({ s2 with heap:=s2.heap.push { cls:=.type "list",data:=.seq ([]:List Value).toArray } }:Shared)=s3 at I3 ⊢
  have st3:tn 0 s3.heap:=by rw [← hs3];exact st3
  have accTr:(upd H2 acc (.lst [])) acc=some (.lst []):=bG
  refine wpAny_newFunctionEnv hcell (by intro y hy;cases hy) (fun h4 hns hsb=>?_) hkind
  have hCf:s3.heap.get? s3.heap.objs.size=none:=Heap.get?_none_of_le (Nat.le_refl _)
  have kp4:∀ b o,s3.heap.get? b=some o→h4.get? b=some o:=fun b o e=>hsb.extBut b o (Nat.ne_of_lt (Heap.lt_size e)) (Heap.get?_push_of_some _ e)
  let Y:Cx:=jT X scope N' s3 (upd H2 acc (.lst [])) fp
  have envY:Y.env=compEnvC scope (clo X.env.cells scope.names []) s3.heap.objs.size X.env:=rfl
  have okY:Y.Ok:=by
    refine ⟨ok.mod,?_,ok.glob,ok.blt,Nat.le_refl _,?_,?_,?_,ok.hd,ok.frames,.inl rfl,?_,?_,?_,?_,?_,?_,?_⟩
    · show (relabel scope X.env).kind=.function
      exact hkind
    · exact fun x y c h1 h2=>ok.inj x y c (clX x c h1) (clX y c h2)
    · intro x hx
      have hx':(relabel scope X.env).names.lookup x=some .cell∨(relabel scope X.env).names.lookup x=some .free:=hx
      have hm:(x,NameKind.free)∈scope.names:=by
        rcases hx' with z | z
        · exact mF (.inl rfl) hcell z
        · exact mF (.inr rfl) hcell z
      exact Option.isSome_iff_exists.mp (oN scope.names [] x hm)
    · intro x c hx h1
      have hx':((clo X.env.cells scope.names []).lookup x).isNone=true:=hx
      have h1':(clo X.env.cells scope.names []).lookup x=some c:=h1
      rw [h1'] at hx';cases hx'
    · intro b hb
      obtain ⟨q0,q1,q2,q3,q4,q5⟩:=fp3 b hb
      refine ⟨?_,fun x c h1=>q4 x c (clX x c h1)⟩
      obtain ⟨o,eo,_⟩:=T.obj 0 _ st3 b hb
      exact Nat.ne_of_lt (Heap.lt_size eo)
    · exact fun b o e=>I3.bs b o e
    · exact Nat.le_trans ok.bsz I3.sz
    · intro b o e hb
      obtain ⟨q0,q1,q2,q3,q4,q5⟩:=fp3 b hb
      rcases q3 with z | z
      · exact ok.noex b o e z
      · exact absurd (Nat.lt_of_lt_of_le (Heap.lt_size e) (Nat.le_trans ok.bsz z)) (Nat.lt_irrefl _)
    · intro b hb hf
      obtain ⟨q0,q1,q2,q3,q4,q5⟩:=fp3 b hb
      rcases List.mem_cons.mp (I3.yZ b hf) with z | z
      · exact q1 z
      · exact q2 z
    · exact I3.stack
    · exact I3.uJ
  have capl:cap.length=N'.length∧∀ p∈N'.zip cap,(match p.2 with | none=>true | some j=>N₀[j]? == some p.1 && scope.names.lookup p.1 == some .free)=true:=by
    unfold vA at f3
    rw [Bool.and_eq_true] at f3
    exact ⟨by simpa using f3.1,fun p hp=>List.all_eq_true.mp f3.2 p hp⟩
  have IY:Inv Y [] (BW cap σ) (upd H2 acc (.lst [])) { s3 with heap:=h4,toks:=s3.toks + ([]:List (Str × Value)).length }:=by
    refine ⟨okY,rfl,I3.bare,Un.kept kp4,⟨_,hns,?_⟩,?_,?_,?_,fun p hp=>absurd (show p∈([]:List (Addr × Obj)) from hp) (by simp),I3.hok.kept kp4,?_⟩
    · intro i x v e1 e2 e3
      have e1':N'[i]?=some x:=e1
      unfold BW at e2
      rw [List.getElem?_map] at e2
      cases ec:cap[i]? with
      | none=>rw [ec] at e2;cases e2
      | some o =>
        rw [ec] at e2
        cases o with
        | none=>cases e2
        | some j =>
          have e2':(σ[j]?).bind id=some v:=by simpa using e2
          have hz:(x,some j)∈N'.zip cap:=by
            refine List.mem_of_getElem? (i:=i) ?_
            rw [List.getElem?_zip_eq_some]
            exact ⟨e1',ec⟩
          have q:=capl.2 _ hz
          have q':(N₀[j]? == some x)=true∧(scope.names.lookup x == some NameKind.free)=true:=by simpa [Bool.and_eq_true] using q
          have q1:X.N[j]?=some x:=by rw [hN₀];simpa using q'.1
          have q2:scope.names.lookup x=some .free:=by simpa using q'.2
          have eσ:σ[j]?=some (some v):=by
            cases z:σ[j]? with
            | none=>rw [z] at e2';cases e2'
            | some y =>
              rw [z] at e2'
              have:y=some v:=e2'
              rw [this]
          have hk:=fr (x,.free) (PySem.mem_of_lookup q2) rfl
          obtain ⟨m,hn,hl⟩:=I3.loc
          have vis:Vis X.env.scope x:=by
            rcases hk with z | z
            · exact .inr (.inl z)
            · exact .inr (.inr z)
          obtain ⟨u,r,l⟩:=hl j x v q1 eσ vis
          refine ⟨u,r,.inr ⟨?_,?_⟩⟩
          · rcases sH (scope:=scope) (env:=X.env) q2 with z | z
            · exact .inl z
            · exact .inr z
          · rcases l with ⟨kl,_⟩ | ⟨_,c,ecx,hcx⟩
            · rcases hk with z | z
              · have z':X.env.kindOf x=some .cell:=z
                rw [kl] at z';cases z'
              · have z':X.env.kindOf x=some .free:=z
                rw [kl] at z';cases z'
            · have hh:=oN (cells:=X.env.cells) scope.names [] x (PySem.mem_of_lookup q2)
              obtain ⟨c',ec'⟩:=Option.isSome_iff_exists.mp hh
              have ec2:=clX x c' ec'
              rw [ecx] at ec2
              cases ec2
              exact ⟨c,ec',hcx.keeps kp4⟩
    · intro x c e
      obtain ⟨v,z⟩:=I3.cell x c (clX x c e)
      exact ⟨v,z.keeps kp4⟩
    · exact I3.hok.fresh (Nat.le_refl _)
    · exact fun x c e=>I3.freeC x c (clX x c e)
    · show (BW cap σ).length=N'.length
      unfold BW
      rw [List.length_map];exact capl.1
  have fpY:∀ {H':Hp},(∀ b∈fp,H' b=none)→∀ b∈fp,uD Y [] H' b:=fun {H'} hn b hb=>by
    obtain ⟨q0,q1,q2,q3,q4,q5⟩:=fp3 b hb
    refine ⟨hn b hb,(okY.exf b hb).1,okY.exfs b hb,.inl hb,(okY.exf b hb).2,fun p hp=>absurd (show p∈([]:List (Addr × Obj)) from hp) (by simp)⟩
  have st4:tn 0 h4:=T.keep _ _ _ st3 fun b _ o e=>kp4 b o e
  have back:∀ {τ:St} {H':Hp} {s':Shared},Inv Y [] τ H' s'→Q (.ref acc) H'→compPost (model X.prog X.w) X.A X.xe use R (.ref acc) s3.heap.objs.size (.ok .next) s':=fun {τ H' s'} J q=>by
    have un:Un (frs X.stack) fp (upd H2 acc (.lst [])) H' s3.heap s'.heap:=J.base
    have IX:Inv X pins σ H' s':=I3.call' (J.os) un J.hok J.bare fun b hb=>by
      obtain ⟨q0,q1,q2,q3,q4,q5⟩:=fp3 b hb
      exact ⟨q3,q1,q4,q5⟩
    obtain ⟨m,hn,_⟩:=J.loc
    refine fin acc s3.heap.objs.size s' H' m IX hn J.free (Nat.ne_of_gt I3.lt) I3.sz (fun x c e z=>?_) (fun p hp z=>?_) q
    · obtain ⟨v,q⟩:=I3.cell x c e
      exact absurd q.lt (by rw [z];exact Nat.lt_irrefl _)
    · exact absurd (Heap.lt_size (I3.pin p hp).1) (by rw [z];exact Nat.lt_irrefl _)
  have loop:∀ s5:Shared,s5={ s3 with heap:=h4,toks:=s3.toks + ([]:List (Str × Value)).length } →
      codeAny (model X.prog X.w) X.A (.compLoop (.ListComp elt [⟨tg,iter,ifs,0⟩] scope pos) 0 (.ref it) (.ref acc) Y.env) (compPost (model X.prog X.w) X.A X.xe use R (.ref acc) s3.heap.objs.size) s5:=by
    rintro s5 rfl
    refine BJ (fun n s'=>∃ i τ H',Inv Y [] τ H' s'∧tn i s'.heap∧(∀ b∈fp,H' b=none)∧W i n τ H') ?_ m0 ⟨0,_,_,IY,st4,fun b hb=>(fp3 b hb).1,w0⟩
    rintro n s6 ⟨i,τ,H6,I6,st6,fr6,w6⟩
    rcases turn i n τ H6 w6 with ⟨stop,q⟩ | ⟨go,N,hN,step⟩
    · refine wpAny_mono (T.done Y rfl rfl rfl hcalm i [] s6 τ H6 (fun _ _=>False) I6 (fpY fr6) st6 stop) (fun r s7 ⟨hr,I7⟩=>?_) fun _ _ z=>z.elim
      exact .inl ⟨hr,back I7 q⟩
    · refine wpAny_mono (T.item Y rfl rfl rfl hcalm i [] s6 τ H6 (fun _ _=>False) I6 (fpY fr6) st6 go) (fun r s6b ⟨u,hr,h7⟩=>?_) fun _ _ z=>z.elim
      refine .inr ⟨u,hr,?_⟩
      refine wpAny_mono h7 (fun _ s7 ⟨x,H7,I7,r7,y7,st7,fr7⟩=>?_) fun _ _ z=>z.elim
      have I7':=I7.pinned (fpY fr7) (T.obj _ _ st7)
      have again:∀ {τ8:St} {H8:Hp} {s8:Shared},Inv Y ([]++sJ fp s7.heap) τ8 H8 s8→N τ8 H8→∃ m,m<n∧∃ i τ H',Inv Y [] τ H' s8∧tn i s8.heap∧(∀ b∈fp,H' b=none)∧W i m τ H':=fun {τ8 H8 s8} I8 n8=>by
        obtain ⟨m',hm,w8⟩:=hN τ8 H8 n8
        refine ⟨m',hm,i + 1,τ8,H8,I8.gZ,T.keep _ _ _ st7 fun b hb o e=>(I8.pin (b,o) (List.mem_append_right _ (List.mem_append_right _ (jL hb e)))).1,fun b hb=>?_,w8⟩
        obtain ⟨o,e,d⟩:=T.obj _ _ st7 b hb
        exact (I8.pin (b,o) (List.mem_append_right _ (List.mem_append_right _ (jL hb e)))).2.1
      refine wpAny_mono (hg s3 (upd H2 acc (.lst [])) fp _ s7 τ H7 x u _ I7' r7 (step x H7 y7)) (fun _ s8 ⟨τ8,H8,I8,q8⟩=>?_) fun _ _ z=>z.elim
      refine wpAny_mono (hc s3 (upd H2 acc (.lst [])) fp _ s8 τ8 H8 _ I8 q8) (fun b s9 ⟨H9,I9,q9⟩=>?_) fun _ _ z=>z.elim
      cases b with
      | false =>
        rw [if_neg Bool.false_ne_true] at q9
        exact .inl ⟨rfl,again I9 q9⟩
      | true =>
        rw [if_pos rfl] at q9
        refine .inr ⟨rfl,?_⟩
        refine wpAny_mono (he s3 (upd H2 acc (.lst [])) fp _ s9 τ8 H9 _ I9 q9) (fun y s10 ⟨yv,H10,I10,r10,ys,hl,hz,q10⟩=>?_) fun _ _ z=>z.elim
        refine wpAny_mono (eE (X:=Y) _ s10 τ8 H10 (.ref acc) [yv] (.ref acc) [y] (fun v H'=>N τ8 H') I10 rfl (.cons r10 .nil) ⟨acc,ys,yv,rfl,rfl,hl,hz,q10⟩) (fun v s11 ⟨vv,H11,I11,r11,q11⟩=>?_) fun _ _ z=>z.elim
        exact again I11 q11
  exact codeAny_compStart_list (loop _ rfl) (T.self _ _ _ _ _ st4 (loop _ rfl))
theorem fU (sc:Scope) (hsc:X.env.scope=sc) (N₀:List Str) (hN₀:X.N=N₀) (N':List Str) (cap:List (Option Nat)) (f1:freeOk sc scope=true) (f2:uY scope=true) (f3:vA scope N₀ N' cap=true) (hcalm:X.calm=true)
    (hi:PI X tg iter wi)
    (hg:∀ (s:Shared) (H:Hp) (ex:List Addr),PG (jT X scope N' s H ex) tg g)
    (hc:∀ (s:Shared) (H:Hp) (ex:List Addr),PTs (jT X scope N' s H ex) ifs tc)
    (he:∀ (s:Shared) (H:Hp) (ex:List Addr),PE (jT X scope N' s H ex) elt te)
    (hs:∀ x,foldedSetIterable iter X.env x=pure x:=by intro _;rfl) :
    PE X (.ListComp elt [⟨tg,iter,ifs,0⟩] scope pos) (Kc wi cap g tc te):=by
  intro pins s σ H Q I h
  rw [eval_ListComp]
  refine p8 (use:=none) sc hsc N₀ hN₀ f1 f2 f3 hcalm hi hg hc he hs I h ?_
  intro acc C s' H' m IX hn hC h1 h2 h3 h4 q
  refine ⟨m,hn,fun h'' hs''=>?_⟩
  exact ⟨.ref acc,H',IX.turned (t':=s'.toks) (fun b o hb e=>(hs''.2 b hb).trans e) hC h1 (.inr h2) h3 h4,rfl,q⟩
theorem jf {i:Nat} {x:Str} {pos' spos:Pos} (sc:Scope) (hsc:X.env.scope=sc) (N₀:List Str) (hN₀:X.N=N₀) (N':List Str) (cap:List (Option Nat)) (f1:freeOk sc scope=true) (f2:uY scope=true) (f3:vA scope N₀ N' cap=true) (hcalm:X.calm=true)
    (hnd:X.N.Nodup) (hix:X.N[i]?=some x) (hx:X.env.scope.names.lookup x=some .local)
    (hi:PI X tg iter wi)
    (hg:∀ (s:Shared) (H:Hp) (ex:List Addr),PG (jT X scope N' s H ex) tg g)
    (hc:∀ (s:Shared) (H:Hp) (ex:List Addr),PTs (jT X scope N' s H ex) ifs tc)
    (he:∀ (s:Shared) (H:Hp) (ex:List Addr),PE (jT X scope N' s H ex) elt te)
    (hsw:swapsWith (.ListComp elt [⟨tg,iter,ifs,0⟩] scope pos) (some (.Name x pos')) spos.line X.env=pure true)
    (hs:∀ x,foldedSetIterable iter X.env x=pure x:=by intro _;rfl) :
    PS X (.Assign [.Name x pos'] (.ListComp elt [⟨tg,iter,ifs,0⟩] scope pos) spos) (RM (Kc wi cap g tc te) (Em i)):=by
  intro pins s σ H D I h
  rw [exec_Assign_Name_used _ _ _ _ hsw]
  refine wpAny_bind (wpAny_standAt (wpAny_bind ?_))
  show wpAny _ X.A (do let _ ← comprehension (.ListComp elt [⟨tg,iter,ifs,0⟩] scope pos) scope X.env _ (newList []) false (firstIter [⟨tg,iter,ifs,0⟩] X.env) (some (assign (.Name x pos') X.env))) _ _ s
  refine wpAny_bind (wpAny_mono (p8 (use:=some (assign (.Name x pos') X.env)) (R:=fun _ s'=>SP X pins D .next s') sc hsc N₀ hN₀ f1 f2 f3 hcalm hi hg hc he hs I h ?_) (fun _ s' hq=>wpAny_pure (wpAny_pure hq)) fun _ _ e=>e)
  intro acc C s' H' m IX hn hC h1 h2 h3 h4 q
  show wpAny _ X.A (assign (.Name x pos') X.env (.ref acc)) _ _ _
  refine wpAny_assign_Name (rP (v:=.ref acc) IX hnd hix (.inl hx) rfl (fun s2 I2 hsb=>?_) (.inr hx))
  obtain ⟨a,sb,ha⟩:=hsb
  have hCa:C≠a:=by
    rcases ha with z | z
    · rw [z];exact h1
    · exact fun w=>h3 x a z w.symm
  refine ⟨m,hn.sameBut sb hCa,fun h'' hs''=>?_⟩
  exact ⟨_,H',I2.turned (t':=s2.toks) (fun b o hb e=>(hs''.2 b hb).trans e) hC h1 (.inr h2) h3 h4,q⟩
end
end L2
namespace L2
open PySem PySem.Spec PyProof.Rows
section
variable {X:Cx}
def R9 (K:PySem.W.Frag):V→V→Hp→VK→Prop:=fun x y H Q=>∃ p xs j v,x=.ref p∧y=.int (j:Nat)∧SqL K H p xs∧xs[j]?=some v∧Q v H
theorem jN:Vm X (R9 X.K):=by
  intro pins s σ H o i ov iv Q I ro ri h
  obtain ⟨p,xs,j,z,rfl,rfl,hq,he,q⟩:=h
  cases ro
  obtain ⟨t,rfl⟩:=ri
  obtain ⟨its,r,pl,hz⟩:=I.list hq
  obtain ⟨w,ew,rw'⟩:=r.get he
  have hl:=r.length
  have hn:=oh
  have hj:j<xs.length:=(List.getElem?_eq_some_iff.mp he).1
  exact wpAny_getItem_list pl.isList (by omega) (by omega) (by rw [Int.toNat_natCast];simpa using ew) ⟨z,H,I,rw',q⟩
theorem jq:mQ X (.builtin "isinstance") (fun xs H Q=>∃ x t c b,xs=[x,.ty c]∧wY X.K H x t∧PySem.W.kitOne X.K t (.type c)=some b∧Q (.bl b) H):=by
  intro pins s σ H xs us Q I r h
  obtain ⟨x,t,c,b,rfl,ty,e,q⟩:=h
  obtain ⟨u,w,rfl,ru,rw'⟩:=vals2 r
  obtain rfl:w=Value.type c:=rw'
  exact Bd I ru ty e fun tk=>⟨.bl b,H,I.tok tk,rfl,q⟩
theorem xT:∀ (bs:List Bool),((List.range bs.length).all fun i=>(bs[i]?).getD true)=bs.all id:=by
  intro bs
  rw [Bool.eq_iff_iff]
  simp only [List.all_eq_true,List.mem_range,id_eq]
  constructor
  · intro h b hb
    obtain ⟨i,hi,e⟩:=List.getElem_of_mem hb
    have:=h i hi
    rw [List.getElem?_eq_getElem hi,e] at this
    exact this
  · intro h i hi
    rw [List.getElem?_eq_getElem hi]
    exact h _ (List.getElem_mem hi)
theorem Fd (hc:X.calm=true):mQ X (.builtin "all") (fun xs H Q=>∃ (p:Addr) (bs:List Bool),xs=[.ref p]∧SqL X.K H p (bs.map V.bl)∧Q (.bl (bs.all id)) H):=by
  intro pins s σ H xs us Q I r h
  obtain ⟨p,bs,rfl,hq,q⟩:=h
  obtain ⟨u,rfl,ru⟩:=vals1 r
  cases ru
  obtain ⟨its,r1,p1,hz⟩:=I.list hq
  have hl:=p1.isList
  have hlt:p<s.heap.objs.size:=p1.lt
  have hlen:=r1.length
  rw [List.length_map] at hlen
  refine call_all_walk (wpAny_pyIter_list hl ?_)
  refine ⟨s.heap.objs.size,[s.heap.objs.size,p],[s.heap.objs.size],its.toArray.size,_,_,fun i=>(bs[i]?).getD true,rfl,Walks.list (A:=X.A.in1) (I.ok.hd hc) _ p (Nat.ne_of_lt hlt) its.toArray,
    ⟨⟨_,Heap.get?_push_size _ rfl,rfl,rfl⟩,hl.push _⟩,fun i v s' Q' E' hP hQ=>?_,fun h' tk hk=>?_⟩
  · have hP':its[i]?=some v:=by simpa using hP
    have hi:i<bs.length:=by
      have:=(List.getElem?_eq_some_iff.mp hP').1
      omega
    obtain ⟨u,eu,ru⟩:=r1.get (x:=.bl bs[i]) (by rw [List.getElem?_map,List.getElem?_eq_getElem hi];rfl)
    rw [hP'] at eu
    cases eu
    cases ru
    dsimp only at hQ
    rw [List.getElem?_eq_getElem hi] at hQ
    exact wpAny_truthy_bool hQ
  · have e:((List.range its.toArray.size).all fun i=>(bs[i]?).getD true)=bs.all id:=by
      rw [List.size_toArray,← hlen];exact xT bs
    rw [e]
    refine ⟨.bl _,H,I.kept fun b o eo=>hk b o (fun hm=>?_) (Heap.get?_push_of_some _ eo),rfl,q⟩
    rw [List.mem_singleton.mp hm] at eo
    exact Nat.lt_irrefl _ (Heap.lt_size eo)
end
end L2
namespace L2
open PySem PySem.Spec PyProof.Rows
section
variable {X:Cx} {st:Stmt} {rest:List Stmt} {t u:TS}
def uH (t u:TS):TS:=fun D σ H=>∃ M:St→Hp→Prop,t { D with nx:=M } σ H∧∀ σ' H',M σ' H'→u D σ' H'
theorem nP (h1:PS X st t) (h2:PSs X rest u):PSs X (st :: rest) (uH t u):=by
  intro pins s σ H D I h
  obtain ⟨M,ha,hb⟩:=h
  refine wpAny_execs_cons (thn (h1 pins s σ H { D with nx:=M } I ha) fun f s1 q=>?_)
  cases f with
  | next =>
    obtain ⟨σ',H',I',q⟩:=q
    exact h2 pins s1 σ' H' D I' (hb σ' H' q)
  | ret v=>exact q
  | brk=>exact q
  | cont=>exact q
end
end L2
namespace L2
open PySem PySem.Spec PyProof.Rows
def Rj (H:Hp) (P:List V→Prop) (Q:VK):Prop:=∀ (l:Addr) (H':Hp) (xs:List V),Same H H'→H l=none→H' l=some (.lst xs)→P xs→Q (.ref l) H'
structure Df (K:PySem.W.Frag) (mg:Str→Option Value) (x:Str) (st:Stmt) (ps:List Str) (a:Addr) (fd:FuncData):Prop where
  F:Fun K x x st a fd
  b:Binds K fd ps []
  m:mg x=some (.ref a)
theorem Same.upd {H H':Hp} {l:Addr} {o:HO} (s:Same H H') (h:H l=none):Same H (L2.upd H' l o):=fun b u e=>by
  rw [aV (bD e h)];exact s b u e
theorem ints_get {ns:List Int} {i:Nat} {y:V} (h:(ns.map V.int)[i]?=some y):∃ z,ns[i]?=some z∧y=V.int z:=by
  rw [List.getElem?_map] at h
  cases e:ns[i]? with
  | none=>rw [e] at h;cases h
  | some z=>rw [e] at h;exact ⟨z,rfl,(Option.some.inj h).symm⟩
theorem eO {ns:List Int} {i:Nat} {z:Int} (h:ns[i]?=some z):atI (ns.map V.int) (i:Int)=some (V.int z):=iT (by rw [List.getElem?_map,h];rfl)
theorem kO {ns:List Int} {i:Int} {z:Int} (h0:0≤i) (h:ns[i.toNat]?=some z):atI (ns.map V.int) i=some (V.int z):=by
  obtain ⟨k,rfl⟩:=Int.eq_ofNat_of_zero_le h0
  exact eO (by simpa using h)
theorem jd {n j:Nat} (h:j<n):ixN n (j:Int)=some j:=by
  unfold ixN
  rw [if_pos (by omega),if_pos (by omega)];simp
theorem Kh {α:Type} (n:Nat) (x:α):(List.replicate n [x]).flatten=List.replicate n x:=by
  induction n with
  | zero=>rfl
  | succ n ih=>rw [List.replicate_succ,List.flatten_cons,ih,List.replicate_succ];rfl
theorem ig {n:Nat} (h:n≤100000):n≤sizeLine:=Nat.le_trans h (by decide)
theorem aQ {n:Nat} (h:n≤100000):n<sizeLine:=Nat.lt_of_le_of_lt h (by decide)
structure Blt (mg:Str→Option Value):Prop where
  len:mg "len"=none
  range:mg "range"=none
  list:mg "list"=none
  isinstance:mg "isinstance"=none
  bool:mg "bool"=none
  int:mg "int"=none
  all:mg "all"=none
  min:mg "min"=none
  max:mg "max"=none
  sum:mg "sum"=none
  sorted:mg "sorted"=none
  zip:mg "zip"=none
  tuple:mg "tuple"=none
  str:mg "str"=none
  any:mg "any"=none
  enumerate:mg "enumerate"=none
  reversed:mg "reversed"=none
  abs:mg "abs"=none
  ValueError:mg "ValueError"=none
  set:mg "set"=none
structure Mth (mg:Str→Option Value):Prop where
  MOUTH:∃ t,mg "MOUTH"=some (.int (-1) t)
section
variable {X:Cx} {K:PySem.W.Frag}
theorem fZ (h:X.K=K):IxR X (U5 K):=h ▸ aR
theorem rB (h:X.K=K):mQ X (.builtin "len") (fun xs H Q=>∃ p ys,xs=[.ref p]∧(SqL K H p ys∨SqT K H p ys)∧Q (.int ys.length) H):=h ▸ aK
theorem xX (h:X.K=K):OpR X (compareOp .In) (rIn K false):=h ▸ zX
end
end L2
namespace L2
open PySem PySem.W PyProof.Rows
structure Arr (N:Nat) (p:Array Nat):Prop where
  size:p.size=N
  perm:p.toList.Perm (List.range N)
theorem Arr.start (N:Nat):Arr N (List.toArray (List.range N)):=⟨by simp,by simp⟩
theorem Arr.nd {N:Nat} {p:Array Nat} (h:Arr N p):p.toList.Nodup:=h.perm.nodup_iff.mpr List.nodup_range
theorem Arr.get {N:Nat} {p:Array Nat} (h:Arr N p) {i:Nat} (hi:i<N):p.toList[i]?=some (p.getD i 0):=by
  have hi':i<p.size:=by rw [h.size];exact hi
  simp [Array.getD,hi']
theorem Arr.lt {N:Nat} {p:Array Nat} (h:Arr N p) {i:Nat} (hi:i<N):p.getD i 0<N:=by
  have:=h.perm.mem_iff.mp (List.mem_of_getElem? (h.get hi))
  exact List.mem_range.mp this
theorem Arr.ne {N:Nat} {p:Array Nat} (h:Arr N p) {i j:Nat} (hi:i<N) (hj:j<N) (hij:i≠j):p.getD i 0≠p.getD j 0:=by
  intro e
  obtain ⟨a1,a2⟩:=List.getElem?_eq_some_iff.mp (h.get hi)
  obtain ⟨b1,b2⟩:=List.getElem?_eq_some_iff.mp (h.get hj)
  exact hij ((List.getElem_inj h.nd).mp (by rw [a2,b2,e]))
theorem Arr.Ac {N:Nat} {p q:Array Nat} (h:Arr N p) (hs:q.size=p.size) (hp:q.Perm p):Arr N q:=⟨hs.trans h.size,(Array.perm_iff_toList_perm.mp hp).trans h.perm⟩
theorem Arr.rev {N:Nat} {p:Array Nat} (h:Arr N p) (i j:Nat):Arr N (kas_rev p i j):=h.Ac (mirror_size _ _ _ _) (mirror_perm _ _ _ _)
theorem Arr.bub {N:Nat} {p:Array Nat} (h:Arr N p) (k d:Nat):Arr N (bubble p k d):=h.Ac (bubble_size _ _ _) (bubble_perm _ _ _)
theorem qT {p q:Array Nat} {i j:Nat} (h:p[i]?=q[j]?):p.getD i 0=q.getD j 0:=by
  rw [Array.getD_eq_getD_getElem?,Array.getD_eq_getD_getElem?,h]
theorem zM {N:Nat} {p:Array Nat} (h:Arr N p) {n k:Nat} (hn:n≤N) (hk:k<n):(kas_rev p 0 n).getD k 0=p.getD (n - 1 - k) 0:=by
  refine qT ?_
  unfold kas_rev
  rw [getElem?_mirror (by rw [h.size];exact hn) ((n - 0) / 2) (by omega) k]
  split
  · congr 1;omega
  · congr 1;omega
theorem Ce {N:Nat} {p:Array Nat} (h:Arr N p) {k l j:Nat} (hk:k<N) (hl:l≤k):(bubble p k (k - l)).getD j 0=if j=l then p.getD k 0 else if l<j∧j≤k then p.getD (j - 1) 0 else p.getD j 0:=by
  have e:=getElem?_bubble (xs:=p) (src:=k) (by rw [h.size];exact hk) (k - l) (by omega) j
  have e1:k - (k - l)=l:=by omega
  rw [e1] at e
  by_cases h1:j=l
  · rw [if_pos h1] at e ⊢;exact qT e
  · rw [if_neg h1] at e ⊢
    by_cases h2:l<j∧j≤k
    · rw [if_pos h2] at e ⊢;exact qT e
    · rw [if_neg h2] at e ⊢;exact qT e
section
variable {N:Nat} {κ:Nat→Int} {R:Shared→Prop} {cmp:Nat→Nat→(Bool→Shared→Prop)→Shared→Prop}
def Srt (κ:Nat→Int) (p:Array Nat) (n:Nat):Prop:=∀ i j,i<j→j<n→κ (p.getD i 0)<κ (p.getD j 0)
def Dsc (κ:Nat→Int) (p:Array Nat) (n:Nat):Prop:=∀ i j,i<j→j<n→κ (p.getD j 0)<κ (p.getD i 0)
def Cmp (N:Nat) (κ:Nat→Int) (R:Shared→Prop) (cmp:Nat→Nat→(Bool→Shared→Prop)→Shared→Prop):Prop :=
  ∀ i j C s,i<N→j<N→R s→(∀ s',R s'→C (decide (κ i<κ j)) s')→cmp i j C s
def Inj (N:Nat) (κ:Nat→Int):Prop:=∀ i j,i<N→j<N→i≠j→κ i≠κ j
theorem Srt.snoc {p:Array Nat} {n:Nat} (h:Srt κ p n) (hn:1≤n) (e:κ (p.getD (n - 1) 0)<κ (p.getD n 0)):Srt κ p (n + 1):=fun i j hij hj=>by
  by_cases hjn:j=n
  · subst hjn
    by_cases hi:i=j - 1
    · rw [hi];exact e
    · have:=h i (j - 1) (by omega) (by omega)
      omega
  · exact h i j hij (by omega)
theorem Dsc.snoc {p:Array Nat} {n:Nat} (h:Dsc κ p n) (hn:1≤n) (e:κ (p.getD n 0)<κ (p.getD (n - 1) 0)):Dsc κ p (n + 1):=fun i j hij hj=>by
  by_cases hjn:j=n
  · subst hjn
    by_cases hi:i=j - 1
    · rw [hi];exact e
    · have:=h i (j - 1) (by omega) (by omega)
      omega
  · exact h i j hij (by omega)
variable (hc:Cmp N κ R cmp) (hI:Inj N κ)
include hc hI
theorem qt {p:Array Nat} (A:Arr N p) {Q:Nat→Shared→Prop}:∀ (f n:Nat) (s:Shared),1≤n→n + f=N→Srt κ p n→R s →
    (∀ m s',n≤m→m≤N→Srt κ p m→(m<N→κ (p.getD m 0)<κ (p.getD (m - 1) 0))→R s'→Q m s')→(kas_asc p f n).kasWp cmp Q s
  | 0,n,s,h1,hf,hS,r,k=>k n s (Nat.le_refl _) (by omega) hS (fun z=>by omega) r
  | f + 1,n,s,h1,hf,hS,r,k=>by
    unfold kas_asc
    refine hc _ _ _ s (A.lt (by omega)) (A.lt (by omega)) r fun s' r'=>?_
    by_cases hlt:κ (p.getD n 0)<κ (p.getD (n - 1) 0)
    · rw [decide_eq_true hlt];dsimp only;rw [if_pos rfl]
      exact k n s' (Nat.le_refl _) (by omega) hS (fun _=>hlt) r'
    · rw [decide_eq_false hlt];dsimp only;rw [if_neg Bool.false_ne_true]
      have hne:=hI _ _ (A.lt (show n<N by omega)) (A.lt (show n - 1<N by omega)) (A.ne (show n<N by omega) (show n - 1<N by omega) (by omega))
      exact qt A f (n + 1) s' (by omega) (by omega) (hS.snoc h1 (by omega)) r' fun m s2 a b c d e=>k m s2 (by omega) b c d e
theorem rN {p:Array Nat} (A:Arr N p) {Q:Array Nat × Nat × Nat→Shared→Prop}:∀ (f n:Nat) (s:Shared),1≤n→n + f=N→Dsc κ p n→R s →
    (∀ m s',n≤m→m≤N→Dsc κ p m→R s'→Q (p,m,0) s')→(kas_desc f p n 0).kasWp cmp Q s
  | 0,n,s,h1,hf,hS,r,k=>k n s (Nat.le_refl _) (by omega) hS r
  | f + 1,n,s,h1,hf,hS,r,k=>by
    unfold kas_desc
    refine hc _ _ _ s (A.lt (by omega)) (A.lt (by omega)) r fun s' r'=>?_
    by_cases hlt:κ (p.getD n 0)<κ (p.getD (n - 1) 0)
    · rw [decide_eq_true hlt];dsimp only;rw [if_pos rfl,if_neg (by omega)]
      exact rN A f (n + 1) s' (by omega) (by omega) (hS.snoc h1 hlt) r' fun m s2 a b c d=>k m s2 (by omega) b c d
    · rw [decide_eq_false hlt];dsimp only;rw [if_neg Bool.false_ne_true]
      have hne:=hI _ _ (A.lt (show n<N by omega)) (A.lt (show n - 1<N by omega)) (A.ne (show n<N by omega) (show n - 1<N by omega) (by omega))
      refine hc _ _ _ s' (A.lt (by omega)) (A.lt (by omega)) r' fun s2 r2=>?_
      rw [decide_eq_true (by omega)];dsimp only;rw [if_pos rfl]
      exact k n s2 (Nat.le_refl _) (by omega) hS r2
theorem xH {p:Array Nat} (A:Arr N p) (h2:2≤N) {Q:Nat × Array Nat→Shared→Prop} {s:Shared} (r:R s)
    (k:∀ m p' s',1≤m→m≤N→Arr N p'→Srt κ p' m→R s'→Q (m,p') s'):(kas_count N p).kasWp cmp Q s:=by
  unfold kas_count
  rw [KasT.kasWp_bind]
  refine qt hc hI A (N - 1) 1 s (Nat.le_refl _) (by omega) (fun i j a b=>by omega) r fun n s' h1 hn hS hd r'=>?_
  by_cases hnN:n=N
  · rw [if_pos (by simp [hnN])]
    exact k n p s' h1 hn A hS r'
  · rw [if_neg (by simp [hnN])]
    have hd':=hd (by omega)
    by_cases h1n:n > 1
    · rw [if_pos h1n]
      refine hc _ _ _ s' (A.lt (by omega)) (A.lt (by omega)) r' fun s2 r2=>?_
      rw [decide_eq_true (hS 0 (n - 1) (by omega) (by omega))];dsimp only;rw [if_pos rfl]
      exact k n p s2 h1 hn A hS r2
    · rw [if_neg h1n]
      have hn1:n=1:=by omega
      subst hn1
      unfold kas_descPart
      rw [KasT.kasWp_bind]
      refine rN hc hI A (N - 2) 2 s' (by omega) (by omega) (fun i j a b=>?_) r' fun m s2 hm2 hm hD r2=>?_
      · have hi:i=0:=by omega
        have hj:j=1:=by omega
        subst hi;subst hj
        exact hd'
      · rw [if_neg (by show ¬ (0:Nat) > 0;omega)]
        show (kas_tail3 m N p).kasWp cmp Q s2
        unfold kas_tail3
        rw [KasT.kasWp_bind]
        refine qt hc hI (A.rev 0 m) (N - m) m s2 (by omega) (by omega) (fun i j a b=>?_) r2 fun m' s3 a b c d e=>?_
        · rw [zM A hm (by omega),zM A hm (by omega)]
          exact hD _ _ (by omega) (by omega)
        · exact k m' _ s3 (by omega) b (A.rev 0 m) c e
theorem lJ {p:Array Nat} (A:Arr N p) {k:Nat} (hk:k<N) (hS:Srt κ p k) {Q:Nat→Shared→Prop}:∀ (f l r:Nat) (s:Shared),l≤r→r≤k→r - l≤f →
    (∀ i,i<l→κ (p.getD i 0)<κ (p.getD k 0))→(∀ i,r≤i→i<k→κ (p.getD k 0)<κ (p.getD i 0))→R s →
    (∀ l s',l≤k→(∀ i,i<l→κ (p.getD i 0)<κ (p.getD k 0))→(∀ i,l≤i→i<k→κ (p.getD k 0)<κ (p.getD i 0))→R s'→Q l s')→(kas_place p k f l r).kasWp cmp Q s
  | 0,l,r,s,h1,h2,hf,ha,hb,hr,q=>by
    have e:l=r:=by omega
    subst e
    exact q l s h2 ha hb hr
  | f + 1,l,r,s,h1,h2,hf,ha,hb,hr,q=>by
    unfold kas_place
    by_cases hlr:l ≥ r
    · rw [if_pos hlr]
      have e:l=r:=by omega
      subst e
      exact q l s h2 ha hb hr
    · rw [if_neg hlr]
      have m1:(l + r) / 2<r:=by omega
      have m0:l≤(l + r) / 2:=by omega
      refine hc _ _ _ s (A.lt hk) (A.lt (by omega)) hr fun s' r'=>?_
      by_cases hlt:κ (p.getD k 0)<κ (p.getD ((l + r) / 2) 0)
      · rw [decide_eq_true hlt];dsimp only;rw [if_pos rfl]
        refine lJ A hk hS f l ((l + r) / 2) s' m0 (by omega) (by omega) ha (fun i hi hik=>?_) r' q
        by_cases he:i=(l + r) / 2
        · rw [he];exact hlt
        · have:=hS ((l + r) / 2) i (by omega) hik
          omega
      · rw [decide_eq_false hlt];dsimp only;rw [if_neg Bool.false_ne_true]
        have hne:=hI _ _ (A.lt hk) (A.lt (show (l + r) / 2<N by omega)) (A.ne hk (show (l + r) / 2<N by omega) (by omega))
        refine lJ A hk hS f ((l + r) / 2 + 1) r s' (by omega) h2 (by omega) (fun i hi=>?_) hb r' q
        by_cases he:i=(l + r) / 2
        · rw [he];omega
        · have:=hS i ((l + r) / 2) (by omega) (by omega)
          omega
theorem vN {Q:Array Nat→Shared→Prop} (q:∀ p s',Arr N p→Srt κ p N→R s'→Q p s'):∀ (f:Nat) (p:Array Nat) (k:Nat) (s:Shared),Arr N p→k + f=N→Srt κ p k→R s→(kas_bin f p k).kasWp cmp Q s
  | 0,p,k,s,A,hf,hS,r=>by
    have e:k=N:=by omega
    subst e
    exact q p s A hS r
  | f + 1,p,k,s,A,hf,hS,r=>by
    unfold kas_bin
    rw [KasT.kasWp_bind]
    refine lJ hc hI A (show k<N by omega) hS k 0 k s (Nat.zero_le _) (Nat.le_refl _) (by omega) (fun i hi=>by omega) (fun i a b=>by omega) r fun l s' hl ha hb r'=>?_
    refine vN q f _ (k + 1) s' (A.bub k (k - l)) (by omega) (fun i j hij hj=>?_) r'
    rw [Ce A (by omega) hl,Ce A (by omega) hl]
    by_cases h1:i=l
    · rw [if_pos h1,if_neg (by omega),if_pos (by omega)]
      exact hb _ (by omega) (by omega)
    · rw [if_neg h1]
      by_cases h2:j=l
      · rw [if_pos h2,if_neg (by omega)]
        exact ha _ (by omega)
      · rw [if_neg h2]
        by_cases h3:l<i∧i≤k
        · rw [if_pos h3,if_pos (by omega)]
          exact hS _ _ (by omega) (by omega)
        · rw [if_neg h3]
          by_cases h4:l<j∧j≤k
          · rw [if_pos h4]
            by_cases h5:i<j - 1
            · exact hS _ _ h5 (by omega)
            · omega
          · rw [if_neg h4]
            exact hS _ _ hij (by omega)
theorem yQ (h2:2≤N) {Q:Array Nat→Shared→Prop} {s:Shared} (r:R s) (q:∀ p s',Arr N p→Srt κ p N→R s'→Q p s'):(kas_sort N).kasWp cmp Q s:=by
  unfold kas_sort
  rw [KasT.kasWp_bind]
  refine xH hc hI (Arr.start N) h2 r fun m p' s' h1 hm A hS r'=>?_
  by_cases hlt:m<N
  · rw [if_pos hlt]
    have e:max m 1=m:=by omega
    rw [e]
    exact vN hc hI q _ p' m s' A (by omega) hS r'
  · rw [if_neg hlt]
    have e:m=N:=by omega
    subst e
    exact q p' s' A hS r'
end
end L2
namespace L2
open PySem PySem.Spec PyProof.Rows
section
variable {X:Cx} {pins:List (Addr × Obj)} {σ:St} {H:Hp} {s:Shared} {a:Addr} {o:HO}
theorem Inv.adopt (I:Inv X pins σ H s) (hn:H a=none) (hL:a≠X.env.locals) (h0:X.s₀.heap.objs.size≤a) (hc:∀ x c,X.env.cells.lookup x=some c→c≠a) (hp:∀ p∈X.pn++pins,p.1≠a)
    (new:eG X.prog X.w (upd H a o) s.heap a o):Inv X pins σ (upd H a o) s:=by
  have ne:∀ b u,H b=some u→b≠a:=fun b u e=>bD e hn
  refine ⟨I.ok,I.os,I.bare,⟨I.base.keep,I.base.slot,fun b ob e n hx=>?_,I.base.there,fun b xs e=>?_,fun b ob xs e=>?_,fun b ps e=>?_⟩,I.loc,I.cell,?_,fun x c e=>?_,fun p hq=>?_,fun b u e=>?_,I.len⟩
  · rw [aV (Nat.ne_of_lt (Nat.lt_of_lt_of_le (Heap.lt_size e) h0))];exact I.base.free b ob e n hx
  · have:=I.base.tups b xs e;rw [aV (ne b _ this)];exact this
  · have:=I.base.frzs b ob xs e;rw [aV (ne b _ this)];exact this
  · obtain ⟨m,e1⟩:=I.base.tbls b ps e;exact ⟨m,by rw [aV (ne b _ e1)];exact e1⟩
  · rw [aV hL.symm];exact I.free
  · rw [aV (hc x c e)];exact I.freeC x c e
  · obtain ⟨e1,n,r⟩:=I.pin p hq;exact ⟨e1,by rw [aV (hp p hq)];exact n,r⟩
  · by_cases hb:b=a
    · subst hb;rw [bG] at e;cases e;exact new
    · rw [aV hb] at e
      exact (I.hok b u e).stay (fun _ _ _ q=>q) (fun c q=>by rw [aV (ne c _ q)];exact q) fun c xs q=>by rw [aV (ne c _ q)];exact q
end
section
variable {prog:Program} {w:World} {A:Around} {E:Value→Shared→Prop} {s:Shared}
theorem rm {r:Addr} {b:Int} {t u v:Tok} {n:Nat} {Q:List Value→Shared→Prop} (hh:A.handled=none) (hr:IsRange s.heap r 0 b 1 t u v) (hsmall:Builtin.Range.small 0 b 1=true)
    (hn:Builtin.Range.rangeSize 0 b 1=n) (hlen:n≤2 ^ 24)
    (h:∀ h' tk vs,(∀ b o,s.heap.get? b=some o→h'.get? b=some o)→Vals ((List.range n).map fun (i:Nat)=>V.int (i:Int)) vs→Q vs { s with heap:=h',toks:=tk }) :
    wpAny (model prog w) A (collect (.ref r)) Q E s:=by
  unfold collect
  refine wpAny_bind (wpAny_runValue (codeAny_builtin entry_proto_collect' ?_))
  show wpAny _ _ (do again (.builtin "list.__iadd__" ⟨[← newList [],.ref r],[]⟩)) _ _ s
  refine wpAny_bind (wpAny_newList (wpAny_pure ⟨Code.quiet_builtin _ (by decide +kernel),codeAny_builtin entry_list_iadd' ?_⟩))
  have e1:A.under (.builtin "proto.collect" ⟨[.ref r],[]⟩)=A.in1:=Around.under_plainId F.plain_proto_collect _
  have e2:A.under (.builtin "list.__iadd__" ⟨[.ref s.heap.objs.size,.ref r],[]⟩)=A.in1:=Around.under_plainId F.plain_list_iadd _
  rw [e2]
  show wpAny _ A.in1 (Builtin.List.listExtendWith (.ref s.heap.objs.size) (.ref r) (.ref s.heap.objs.size)) _ _ { s with heap:=s.heap.push (seqObj "list" #[] 0) }
  have hS:(s.heap.push (seqObj "list" #[] 0)).get? s.heap.objs.size=some { cls:=.type "list",data:=.seq #[] 0 }:=Heap.get?_push_size _ rfl
  have hr':IsRange (s.heap.push (seqObj "list" #[] 0)) r 0 b 1 t u v:=Heap.get?_push_of_some _ hr
  refine wpAny_mono (wpAny_extend_range (A:=A) (R:=fun r s'=>match r with
      | .ok (.ret v)=>wpAny (model prog w) A (match v with
          | .ref a=>do
            let o ← load a
            match o.data with
            | .seq xs _=>pure xs.toList
            | _=>unsupported "internal:collect"
          | _=>unsupported "internal:collect") Q E s'
      | .ok _=>False
      | .error e=>E e s') (s:={ s with heap:=s.heap.push (seqObj "list" #[] 0) }) hh hr' hsmall hn hlen s.heap.objs.size (.ref s.heap.objs.size) 0 hS fun h' tk acc c hk hS' hacc=>?_) (fun fin s' q=>?_) (fun e s' q=>q)
  case refine_2 =>
    cases fin with
    | done f=>exact q
    | again c'=>exact q
  show wpAny (model prog w) A (do
      let o ← load s.heap.objs.size
      match o.data with
      | .seq xs _=>pure xs.toList
      | _=>unsupported "internal:collect") Q E { s with heap:=h',toks:=tk }
  refine wpAny_bind (wpAny_load hS' ?_)
  refine wpAny_pure (h h' tk acc.toList (fun b o e=>hk b o (Nat.ne_of_lt (Heap.lt_size e)) (Heap.get?_push_of_some _ e)) ?_)
  have hsz:acc.toList.length=n:=by rw [Array.length_toList];exact hacc.1
  have key:∀ (k:Nat) (l:List Value),l.length=k→(∀ (j:Nat) (v:Value),l[j]?=some v→∃ t,v=.int ((n - k + j:Nat):Int) t)→k≤n→Vals ((List.range' (n - k) k).map fun (i:Nat)=>V.int (i:Int)) l:=by
    intro k
    induction k with
    | zero =>
      intro l hl _ _
      have:l=[]:=List.length_eq_zero_iff.mp hl
      subst this
      exact .nil
    | succ k ih =>
      intro l hl hP hk
      match l,hl with
      | v :: l,hl =>
        have hl':l.length=k:=by simpa using hl
        rw [List.range'_succ,List.map_cons]
        obtain ⟨t,ht⟩:=hP 0 v rfl
        refine .cons ⟨t,?_⟩ ?_
        · rw [ht];rfl
        · have e:n - (k + 1) + 1=n - k:=by omega
          rw [e]
          refine ih l hl' (fun j v' e'=>?_) (by omega)
          obtain ⟨t',ht'⟩:=hP (j + 1) v' (by simpa using e')
          exact ⟨t',by rw [ht'];congr 2;omega⟩
  have:=key n acc.toList hsz (fun j v e=>by
    obtain ⟨t,ht⟩:=hacc.2 j v (by simpa using e)
    refine ⟨t,?_⟩
    rw [ht]
    congr 1
    omega) (Nat.le_refl _)
  rw [Nat.sub_self,← List.range_eq_range'] at this
  exact this
end
end L2
namespace L2
open PySem PySem.W PySem.Spec PyProof.Rows
section
variable {prog:Program} {w:World} {A:Around} {E:Value→Shared→Prop} {s:Shared}
theorem ou {Q:Bool→Shared→Prop}:∀ {xs ys:List Value} {ns ms:List Int},IntsAre xs ns→IntsAre ys ms→ns.length=ms.length→∀ i:Nat,Q (HT.lexLt ns ms) s→KatLex prog w A true false Q (xs.zip ys) i s
  | _,_,_,_,.nil,.nil,_,i,q=>by rw [List.zip_nil_left];exact kat_nil q
  | _,_,_,_,.nil,.cons _ _ _,hl,_,_=>by simp at hl
  | _,_,_,_,.cons _ _ _,.nil,hl,_,_=>by simp at hl
  | _,_,_,_,.cons a t hx,.cons c u hy,hl,i,q=>by
    rw [List.zip_cons_cons]
    refine kat_cons (wpAny_eqBool_int ?_)
    rw [HT.jg] at q
    by_cases h:a=c
    · rw [if_pos h] at q
      have e:(a == c)=true:=by simp [h]
      rw [e]
      exact kat_yes (ou hx hy (by simpa using hl) (i + 1) q)
    · rw [if_neg h] at q
      have e:(a == c)=false:=by simp [h]
      rw [e]
      refine kat_no ?_
      by_cases hi:i=0
      · have ei:(true && i == 0)=true:=by simp [hi]
        rw [ei]
        exact oneLt_int q
      · have ei:(true && i == 0)=false:=by simp [hi]
        rw [ei]
        exact kat_one _ _ (lt_int q)
structure Keys (h:Heap) (ks:List Value) (key:Nat→List Int) (N len:Nat):Prop where
  size:ks.length=N
  at_:∀ i,i<N→∃ t its,ks[i]?=some (.ref t)∧IsTup h t its.toArray∧IntsAre its (key i)
  long:∀ i,i<N→(key i).length=len + 1
theorem Keys.cmp {ks:List Value} {key:Nat→List Int} {N len:Nat} {κ:Nat→Int} (K:Keys s.heap ks key N len) (hκ:∀ i j,i<N→j<N→HT.lexLt (key i) (key j)=decide (κ i<κ j)) :
    Cmp N κ (fun s'=>s'=s) (kas_ask prog w A (tuples' true) ks):=by
  intro i j C s1 hi hj e h
  subst e
  obtain ⟨t,its,e1,⟨o,ho,hc,n,hd⟩,i1⟩:=K.at_ i hi
  obtain ⟨t2,its2,e2,⟨o2,ho2,hc2,n2,hd2⟩,i2⟩:=K.at_ j hj
  unfold kas_ask
  rw [List.getD_eq_getElem?_getD,List.getD_eq_getElem?_getD,e1,e2]
  have l1:its.length=(key i).length:=i1.length
  have l2:its2.length=(key j).length:=i2.length
  have hl:(key i).length=(key j).length:=by rw [K.long i hi,K.long j hj]
  refine kat_lt ho hd ho2 hd2 ?_
  have ef:decide (its.toArray.size<its2.toArray.size)=false:=decide_eq_false (by simp only [List.size_toArray];omega)
  rw [ef]
  refine ou i1 i2 hl 0 ?_
  rw [hκ i j hi hj]
  exact h s1 rfl
theorem Keys.tups {key:Nat→List Int} {len:Nat}:∀ {ks:List Value} {N:Nat},Keys s.heap ks key N len→∃ fs:List Value,KatTups s.heap ks fs∧fs.length=N∧∀ v∈fs,∃ a t,v=.int a t:=by
  have go:∀ (ks:List Value),(∀ i,i<ks.length→∃ t its a u r,ks[i]?=some (.ref t)∧IsTup s.heap t its.toArray∧its=Value.int a u :: r)→∃ fs:List Value,KatTups s.heap ks fs∧fs.length=ks.length∧∀ v∈fs,∃ a t,v=Value.int a t:=by
    intro ks
    induction ks with
    | nil=>intro _;exact ⟨[],trivial,rfl,fun v hv=>nomatch hv⟩
    | cons k ks ih =>
      intro h
      obtain ⟨fs,h1,h2,h3⟩:=ih fun i hi=>by
        obtain ⟨t,its,a,u,r,e,p⟩:=h (i + 1) (by simpa using hi)
        exact ⟨t,its,a,u,r,by simpa using e,p⟩
      obtain ⟨t,its,a,u,r,e,⟨o,ho,hc,n,hd⟩,rfl⟩:=h 0 (by simp)
      have e':k=.ref t:=by simpa using e
      subst e'
      refine ⟨.int a u :: fs,KatTups.cons ho hc hd rfl h1,by simp [h2],fun v hv=>?_⟩
      rcases List.mem_cons.mp hv with e | e
      · exact ⟨a,u,e⟩
      · exact h3 v e
  intro ks N K
  obtain ⟨fs,h1,h2,h3⟩:=go ks fun i hi=>by
    obtain ⟨t,its,e1,p,i1⟩:=K.at_ i (by rw [← K.size];exact hi)
    have hl:=K.long i (by rw [← K.size];exact hi)
    generalize key i=kl at i1 hl
    cases i1 with
    | nil=>simp at hl
    | cons a u hx=>exact ⟨t,_,a,u,_,e1,p,rfl⟩
  exact ⟨fs,h1,by rw [h2,K.size],h3⟩
end
end L2
namespace L2
open PySem PySem.W PySem.Spec PyProof.Rows
def lE (κ:Nat→Int) (xs ys:List V):Prop:=∃ p:List Nat,p.Perm (List.range xs.length)∧ys=p.map (fun i=>xs.getD i .non)∧p.Pairwise fun i j=>κ i<κ j
theorem zy {κ:Nat→Int} {xs:List V} {p:Array Nat} (A:Arr xs.length p) (hS:Srt κ p xs.length):lE κ xs (p.toList.map fun i=>xs.getD i .non):=by
  refine ⟨p.toList,A.perm,rfl,?_⟩
  rw [List.pairwise_iff_getElem]
  intro i j hi hj hij
  have hj':j<xs.length:=by rw [Array.length_toList,A.size] at hj;exact hj
  have e1:p.toList[i]=p.getD i 0:=by
    have:=A.get (show i<xs.length by omega)
    rw [List.getElem?_eq_getElem hi] at this
    exact Option.some.inj this
  have e2:p.toList[j]=p.getD j 0:=by
    have:=A.get hj'
    rw [List.getElem?_eq_getElem hj] at this
    exact Option.some.inj this
  rw [e1,e2]
  exact hS i j hij hj'
theorem rK {xs:List V} {vs:List Value} (r:Vals xs vs):∀ (p:List Nat),(∀ i∈p,i<xs.length)→Vals (p.map fun i=>xs.getD i .non) (p.map fun i=>vs.getD i .none)
  | [],_=>.nil
  | i :: p,h=>by
    have hi:i<xs.length:=h i List.mem_cons_self
    obtain ⟨u,e,ru⟩:=r.get (List.getElem?_eq_getElem hi)
    refine .cons ?_ (rK r p fun j hj=>h j (List.mem_cons_of_mem _ hj))
    show RelV (xs.getD i .non) (vs.getD i .none)
    rw [List.getD_eq_getElem?_getD,List.getD_eq_getElem?_getD,e,List.getElem?_eq_getElem hi]
    exact ru
section
variable {X:Cx} {pins:List (Addr × Obj)} {σ:St} {H:Hp} {s:Shared} {A:Around} {E:Value→Shared→Prop}
theorem Inv.lN (I:Inv X pins σ H s) {b:Addr} {o:Obj} (f:uD X pins H b) (e:s.heap.get? b=some o) (d:∀ v,o.data≠.cell v):Inv X (pins++[(b,o)]) σ H s :=
  I.uV fun p hp=>(List.mem_append.mp hp).elim (fun z=>I.pin p (List.mem_append_right _ z)) fun z=>by
    have e':p=(b,o):=by simpa using z
    subst e'
    obtain ⟨f0,f1,f2,_⟩:=f
    exact ⟨e,f0,f1,f2,d⟩
theorem sort_keys {f:Value} {D kS:Addr} {e1:Nat} {xs:List V} {vs:List Value} (rv:Vals xs vs) (h64:xs.length<64) (Pv:Nat→List Addr→Hp→Prop)
    (fpD:∀ H',H' D=none→uD X pins H' D) (fpK:∀ H',H' kS=none→uD X pins H' kS) (hDK:D≠kS)
    (hcall:∀ i x u ts pins' s' H',xs[i]?=some x→RelV x u→Inv X pins' σ H' s'→(∀ p∈pins,p∈pins')→Pv i ts H'→wpAny (model X.prog X.w) A (call f [u]) (fun k s2=>∃ t H2,k=.ref t∧Inv X pins' σ H2 s2∧Pv (i + 1) (ts++[t]) H2) (fun _ _=>False) s')
    {body:Value→PUnit→Sem (ForInStep PUnit)}
    (hb:∀ x (s:Shared) (R:Value→Shared→Prop) (Q:ForInStep PUnit→Shared→Prop),wpAny (model X.prog X.w) A (call f [x]) R (fun _ _=>False) s→(∀ k s',R k s'→wpAny (model X.prog X.w) A (Builtin.List.listUpdate (.ref kS) (·.push k)) (fun _ s''=>Q (.yield ⟨⟩) s'') E s') →
      wpAny (model X.prog X.w) A (body x ⟨⟩) Q E s) :
    ∀ (r:List Value) (i:Nat) (ts:List Addr) (e:Nat) (s:Shared) (H:Hp),vs.drop i=r→ts.length=i→i≤vs.length→Inv X (pins++[(D,seqObj "list" #[] e1)]++[(kS,seqObj "list" (ts.map Value.ref).toArray e)]) σ H s→Pv i ts H →
      wpAny (model X.prog X.w) A (forIn r PUnit.unit body) (fun _ s'=>∃ ts' e' H',ts'.length=vs.length∧Inv X (pins++[(D,seqObj "list" #[] e1)]++[(kS,seqObj "list" (ts'.map Value.ref).toArray e')]) σ H' s'∧Pv vs.length ts' H') E s
  | [],i,ts,e,s,H,hr,hl,hi,I,p=>by
    rw [List.forIn_nil]
    have hn:i=vs.length:=by
      have:=congrArg List.length hr
      rw [List.length_drop] at this
      simp at this
      omega
    subst hn
    exact wpAny_pure ⟨ts,e,H,hl,I,p⟩
  | u :: r,i,ts,e,s,H,hr,hl,hi,I,p=>by
    rw [List.forIn_cons]
    have hlen:=rv.length
    have hiv:i<vs.length:=by
      have:=congrArg List.length hr
      rw [List.length_drop] at this
      simp at this
      omega
    have eu:vs[i]?=some u:=by
      have:(vs.drop i)[0]?=some u:=by rw [hr];rfl
      rw [List.getElem?_drop] at this
      simpa using this
    have hix:i<xs.length:=by omega
    obtain ⟨u',e',ru⟩:=rv.get (List.getElem?_eq_getElem hix)
    rw [eu] at e'
    cases e'
    refine wpAny_bind (hb u s _ _ (hcall i _ u ts _ s H (List.getElem?_eq_getElem hix) ru I (fun p hp=>List.mem_append_left _ (List.mem_append_left _ hp)) p) fun k s2 ⟨t,H2,ek,I2,p2⟩=>?_)
    subst ek
    have pk:=I2.pin (kS,seqObj "list" (ts.map Value.ref).toArray e) (List.mem_append_right _ (List.mem_append_right _ (by simp)))
    have pD:=I2.pin (D,seqObj "list" #[] e1) (List.mem_append_right _ (List.mem_append_left _ (List.mem_append_right _ (by simp))))
    refine listUpdate_at pk.1 rfl ?_ (by rw [List.size_toArray,List.length_map,sizeLine_eq];omega) (by rw [Array.size_push,List.size_toArray,List.length_map,sizeLine_eq];omega)
    have I2':Inv X (pins++[(D,seqObj "list" #[] e1)]) σ H2 s2:=I2.gZ
    have fK:uD X (pins++[(D,seqObj "list" #[] e1)]) H2 kS:=by
      obtain ⟨a0,a1,a2,a3,a4,a5⟩:=fpK H2 pk.2.1
      refine ⟨a0,a1,a2,a3,a4,fun p hp=>?_⟩
      rcases List.mem_append.mp hp with z | z
      · exact a5 p (List.mem_append_left _ z)
      · rcases List.mem_append.mp z with z | z
        · exact a5 p (List.mem_append_right _ z)
        · have:p=(D,seqObj "list" #[] e1):=by simpa using z
          rw [this];exact hDK
    obtain ⟨a0,a1,a2,a3,a4,a5⟩:=fK
    have I3:Inv X (pins++[(D,seqObj "list" #[] e1)]) σ H2 { s2 with heap:=s2.heap.update kS (Obj.mapSeq (·.push (Value.ref t))) } :=
      I2'.turned (t':=s2.toks) (fun b o hb e=>(Heap.get?_update_other _ _ (Ne.symm hb)).trans e) a0 a1 a3 a4 a5
    have ea:((ts.map Value.ref).toArray).push (Value.ref t)=((ts++[t]).map Value.ref).toArray:=by simp
    obtain ⟨c2,hc2⟩:∃ c2,(s2.heap.update kS (Obj.mapSeq (·.push (Value.ref t)))).get? kS=some (seqObj "list" ((ts++[t]).map Value.ref).toArray c2):=⟨_,by rw [← ea];exact get?_update_seq pk.1 (·.push (Value.ref t))⟩
    have I4:=I3.lN ⟨a0,a1,a2,a3,a4,a5⟩ hc2 (fun v z=>by cases z)
    show wpAny (model X.prog X.w) A (forIn r PUnit.unit body) _ E _
    refine sort_keys rv h64 Pv fpD fpK hDK hcall hb r (i + 1) (ts++[t]) c2 _ H2 ?_ (by rw [List.length_append,hl];rfl) (by omega) I4 p2
    have:(vs.drop i).drop 1=r:=by rw [hr];rfl
    rw [List.drop_drop] at this
    exact this
end
end L2
namespace L2
open PySem PySem.W PySem.Spec PyProof.Rows
section
variable {X:Cx} {pins:List (Addr × Obj)} {σ:St} {H:Hp} {s:Shared} {A:Around} {E:Value→Shared→Prop}
theorem zA {f:Value} {D:Addr} {n0 m:Nat} {xs:List V} {vs:List Value} {key:Nat→List Int} {κ:Nat→Int} (rv:Vals xs vs) (h64:xs.length<64) (Pv:Nat→List Addr→Hp→Prop) (I:Inv X pins σ H s)
    (hD:s.heap.get? D=some (seqObj "list" vs.toArray n0)) (fpD:∀ H',H' D=none→uD X pins H' D) (nD:H D=none) (hfresh:X.s₀.heap.objs.size≤D) (p0:Pv 0 [] H)
    (hcall:∀ i x u ts pins' s' H',xs[i]?=some x→RelV x u→Inv X pins' σ H' s'→(∀ p∈pins,p∈pins')→Pv i ts H'→wpAny (model X.prog X.w) A (call f [u]) (fun k s2=>∃ t H2,k=.ref t∧Inv X pins' σ H2 s2∧Pv (i + 1) (ts++[t]) H2) (fun _ _=>False) s')
    (htup:∀ ts H',Pv xs.length ts H'→∀ i t,ts[i]?=some t→H' t=some (.tup ((key i).map V.int))) (hlong:∀ i,i<xs.length→(key i).length=m + 1)
    (hκ:∀ i j,i<xs.length→j<xs.length→HT.lexLt (key i) (key j)=decide (κ i<κ j)) (hinj:Inj xs.length κ) :
    wpAny (model X.prog X.w) A (ksk_tree D f false) (fun fin s'=>fin=.done (.ret .none)∧∃ ts H' ys,Pv xs.length ts H'∧H' D=none∧lE κ xs ys∧Inv X pins σ (upd H' D (.lst ys)) s') E s:=by
  have hlen:=rv.length
  unfold ksk_tree
  refine wpAny_bind (listItems_at hD rfl ?_)
  refine wpAny_bind (listUpdate_at hD rfl ?_ (by rw [List.size_toArray,sizeLine_eq];omega) (Nat.zero_le _))
  obtain ⟨e1,ho1⟩:∃ e1,(s.heap.update D (Obj.mapSeq fun _=>(#[]:Array Value))).get? D=some (seqObj "list" #[] e1):=⟨_,get?_update_seq hD fun _=>#[]⟩
  obtain ⟨a0,a1,a2,a3,a4,a5⟩:=fpD H nD
  have I1:Inv X pins σ H { s with heap:=s.heap.update D (Obj.mapSeq fun _=>(#[]:Array Value)) }:=I.turned (t':=s.toks) (fun b o hb e=>(Heap.get?_update_other _ _ (Ne.symm hb)).trans e) a0 a1 a3 a4 a5
  refine wpAny_bind (seqEpoch_at ho1 rfl ?_)
  refine wpAny_bind (wpAny_newTuple ?_ (by show vs.length≤_;rw [sizeLine_eq];omega))
  refine wpAny_bind (wpAny_newList ?_ (Nat.zero_le _))
  refine wpAny_holding ?_
  have I2:Inv X pins σ H { s with heap:=(s.heap.update D (Obj.mapSeq fun _=>(#[]:Array Value))).push (seqObj "tuple" vs.toArray 0) }:=I1.kept (t':=s.toks) fun b o e=>Heap.get?_push_of_some _ e
  have I3:Inv X pins σ H { s with heap:=((s.heap.update D (Obj.mapSeq fun _=>(#[]:Array Value))).push (seqObj "tuple" vs.toArray 0)).push (seqObj "list" #[] 0) }:=I2.kept (t':=s.toks) fun b o e=>Heap.get?_push_of_some _ e
  have fpK:∀ H',H' (((s.heap.update D (Obj.mapSeq fun _=>(#[]:Array Value))).push (seqObj "tuple" vs.toArray 0)).objs.size)=none→uD X pins H' _:=fun H' hn=>I2.yE (Nat.le_refl _) hn
  have nK:H (((s.heap.update D (Obj.mapSeq fun _=>(#[]:Array Value))).push (seqObj "tuple" vs.toArray 0)).objs.size)=none:=I2.hok.fresh (Nat.le_refl _)
  have hDK:D≠((s.heap.update D (Obj.mapSeq fun _=>(#[]:Array Value))).push (seqObj "tuple" vs.toArray 0)).objs.size:=Nat.ne_of_lt (Heap.lt_size (Heap.get?_push_of_some (seqObj "tuple" vs.toArray 0) ho1))
  have hD3:(((s.heap.update D (Obj.mapSeq fun _=>(#[]:Array Value))).push (seqObj "tuple" vs.toArray 0)).push (seqObj "list" #[] 0)).get? D=some (seqObj "list" #[] e1):=Heap.get?_push_of_some _ (Heap.get?_push_of_some _ ho1)
  have hK3:(((s.heap.update D (Obj.mapSeq fun _=>(#[]:Array Value))).push (seqObj "tuple" vs.toArray 0)).push (seqObj "list" #[] 0)).get? (((s.heap.update D (Obj.mapSeq fun _=>(#[]:Array Value))).push (seqObj "tuple" vs.toArray 0)).objs.size)=some (seqObj "list" #[] 0):=Heap.get?_push_size _ rfl
  generalize ((s.heap.update D (Obj.mapSeq fun _=>(#[]:Array Value))).push (seqObj "tuple" vs.toArray 0)).objs.size=kS at fpK nK hDK hK3 ⊢
  generalize hs3:({ s with heap:=((s.heap.update D (Obj.mapSeq fun _=>(#[]:Array Value))).push (seqObj "tuple" vs.toArray 0)).push (seqObj "list" #[] 0) }:Shared)=s3 at I3 ⊢
  have hD3':s3.heap.get? D=some (seqObj "list" #[] e1):=by rw [← hs3];exact hD3
  have hK3':s3.heap.get? kS=some (seqObj "list" #[] 0):=by rw [← hs3];exact hK3
  have I4:Inv X (pins++[(D,seqObj "list" #[] e1)]) σ H s3:=I3.lN (fpD H nD) hD3' (fun v z=>by cases z)
  have fK:∀ H',H' kS=none→uD X (pins++[(D,seqObj "list" #[] e1)]) H' kS:=fun H' hn=>by
    obtain ⟨b0,b1,b2,b3,b4,b5⟩:=fpK H' hn
    refine ⟨b0,b1,b2,b3,b4,fun p hp=>?_⟩
    rcases List.mem_append.mp hp with z | z
    · exact b5 p (List.mem_append_left _ z)
    · rcases List.mem_append.mp z with z | z
      · exact b5 p (List.mem_append_right _ z)
      · have:p=(D,seqObj "list" #[] e1):=by simpa using z
        rw [this];exact hDK
  have I5:=I4.lN (fK H nK) hK3' (fun v z=>by cases z)
  unfold ksk_rest
  refine wpAny_bind (wpAny_rule ?_)
  first
    | rw [List.forIn_toArray]
    | (rw [← Array.forIn_toList];simp only [List.toList_toArray])
    | rw [← Array.forIn_toList]
  refine wpAny_bind (wpAny_mono (sort_keys (E:=E) rv h64 Pv fpD fpK hDK hcall (fun x s' R Q' hx hk=>?_) vs 0 [] 0 s3 H rfl rfl (Nat.zero_le _) I5 p0) (fun _ s4 hd=>?_) fun _ _ x=>x)
  · refine wpAny_bind (wpAny_attempt (wpAny_mono hx (fun k s'' hq=>?_) fun _ _ hF=>hF.elim))
    dsimp only
    refine wpAny_bind (wpAny_mono (hk k s'' hq) (fun _ s5 hq5=>wpAny_pure hq5) fun _ _ x=>x)
  obtain ⟨ts,e',H4,htl,I6,p4⟩:=hd
  have pk:=I6.pin (kS,seqObj "list" (ts.map Value.ref).toArray e') (List.mem_append_right _ (List.mem_append_right _ (by simp)))
  have pD:=I6.pin (D,seqObj "list" #[] e1) (List.mem_append_right _ (List.mem_append_left _ (List.mem_append_right _ (by simp))))
  refine wpAny_bind (listItems_at pk.1 rfl ?_)
  have p4':Pv xs.length ts H4:=by rw [hlen];exact p4
  have I7:Inv X pins σ H4 s4:=I6.gZ.gZ
  have fin:∀ (st:SortSt) (q:List Nat),(arrOf st).map (·.2)=List.toArray (q.map fun i=>vs.getD i Value.none)→failedOf st=none→(∀ i∈q,i<xs.length)→q.length=xs.length→lE κ xs (q.map fun i=>xs.getD i .non) →
      wpAny (model X.prog X.w) A (ksk_tail D false e1 (.ref kS) st) (fun fin s'=>fin=.done (.ret .none)∧∃ ts H' ys,Pv xs.length ts H'∧H' D=none∧lE κ xs ys∧Inv X pins σ (upd H' D (.lst ys)) s') E s4:=by
    intro st q hout hf hq hql hsb
    unfold ksk_tail
    dsimp only
    refine wpAny_bind (listUpdate_at pk.1 rfl ?_ (by rw [List.size_toArray,List.length_map,sizeLine_eq];omega) (Nat.zero_le _))
    obtain ⟨b0,b1,b2,b3,b4,b5⟩:=fpK H4 pk.2.1
    have I8:Inv X pins σ H4 { s4 with heap:=s4.heap.update kS (Obj.mapSeq fun _=>(#[]:Array Value)) }:=I7.turned (t':=s4.toks) (fun b o hb e=>(Heap.get?_update_other _ _ (Ne.symm hb)).trans e) b0 b1 b3 b4 b5
    have hD8:(s4.heap.update kS (Obj.mapSeq fun _=>(#[]:Array Value))).get? D=some (seqObj "list" #[] e1):=(Heap.get?_update_other _ _ (Ne.symm hDK)).trans pD.1
    refine wpAny_bind (wpAny_letGo ?_)
    refine wpAny_bind (seqEpoch_at hD8 rfl ?_)
    have hsz:(if false=true then ((arrOf st).map (·.2)).reverse else (arrOf st).map (·.2))=List.toArray (q.map fun i=>vs.getD i Value.none):=by rw [if_neg Bool.false_ne_true];exact hout
    refine wpAny_bind (listUpdate_at hD8 rfl ?_ (Nat.zero_le _) (by show (if false=true then ((arrOf st).map (·.2)).reverse else (arrOf st).map (·.2)).size≤_;rw [hsz,List.size_toArray,List.length_map,sizeLine_eq];omega))
    rw [hf]
    simp only [bne_self_eq_false,Bool.false_eq_true,if_false]
    refine wpAny_pure ⟨rfl,ts,H4,_,p4',pD.2.1,hsb,?_⟩
    obtain ⟨c0,c1,c2,c3,c4,c5⟩:=fpD H4 pD.2.1
    have I9:=I8.turned (h':=(s4.heap.update kS (Obj.mapSeq fun _=>(#[]:Array Value))).update D (Obj.mapSeq fun _=>(arrOf st).map (·.2))) (t':=s4.toks) (fun b o hb e=>(Heap.get?_update_other _ _ (Ne.symm hb)).trans e) c0 c1 c3 c4 c5
    obtain ⟨cc,hcc⟩:∃ cc,((s4.heap.update kS (Obj.mapSeq fun _=>(#[]:Array Value))).update D (Obj.mapSeq fun _=>(arrOf st).map (·.2))).get? D=some (seqObj "list" (q.map fun i=>vs.getD i Value.none).toArray cc):=⟨_,by rw [← hout];exact get?_update_seq hD8 fun _=>(arrOf st).map (·.2)⟩
    exact I9.adopt pD.2.1 c1 hfresh c4 c5 ⟨by rw [List.length_map,sizeLine_eq];omega,_,cc,rK rv q hq,hcc⟩
  have eks:ts.length=xs.length:=by omega
  unfold ksk_end
  dsimp only
  rw [if_neg Bool.false_ne_true]
  by_cases h2:xs.length<2
  · have hs2:vs.toArray.size<2:=by rw [List.size_toArray];omega
    rw [if_pos hs2,if_pos hs2]
    refine wpAny_bind (wpAny_pure ?_)
    refine wpAny_bind ?_
    rw [StateT.run_pure]
    refine wpAny_pure ?_
    dsimp only
    have hr:∀ i∈List.range xs.length,i<xs.length:=fun i hi=>List.mem_range.mp hi
    refine fin _ (List.range xs.length) ?_ rfl hr (List.length_range) ⟨List.range xs.length,List.Perm.refl _,rfl,?_⟩
    · show ((if false=true then ((ts.map Value.ref).toArray.zip vs.toArray).reverse else (ts.map Value.ref).toArray.zip vs.toArray)).map (·.2)=_
      rw [if_neg Bool.false_ne_true]
      apply Array.toList_inj.mp
      rw [Array.toList_map,Array.toList_zip,List.map_snd_zip (by rw [List.toList_toArray,List.toList_toArray,List.length_map];omega)]
      rw [List.toList_toArray]
      apply List.ext_getElem?
      intro j
      rw [List.toList_toArray,List.getElem?_map]
      by_cases hj:j<xs.length
      · rw [List.getElem?_range hj]
        show _=some (vs.getD j Value.none)
        rw [List.getD_eq_getElem?_getD,List.getElem?_eq_getElem (by omega)];rfl
      · rw [List.getElem?_eq_none (by omega),List.getElem?_eq_none (by rw [List.length_range];omega)];rfl
    · match hx:xs.length,h2 with
      | 0,_=>exact List.Pairwise.nil
      | 1,_=>exact List.pairwise_singleton _ _
  · have hs2:¬ vs.toArray.size<2:=by rw [List.size_toArray];omega
    rw [if_neg hs2,if_neg hs2]
    have KK:Keys s4.heap (ts.map Value.ref) key xs.length m:=by
      refine ⟨by rw [List.length_map];exact eks,fun i hi=>?_,hlong⟩
      have hit:i<ts.length:=by omega
      have et:=htup ts H4 p4' i ts[i] (List.getElem?_eq_getElem hit)
      obtain ⟨_,its,r,hT⟩:=I7.hok _ _ et
      exact ⟨ts[i],its,by rw [List.getElem?_map,List.getElem?_eq_getElem hit];rfl,hT,intsAre_of r⟩
    obtain ⟨fs,kt,kl,kv⟩:=KK.tups
    refine wpAny_bind (kat_kind kt (by omega) (fun v hv=>by obtain ⟨a,t,rfl⟩:=kv v hv;exact Looks.of_pure rfl) (T:=.type "int") (by decide) ?_)
    have ett:(Value.type "int" != Value.type "tuple")=true:=by decide
    rw [ett]
    have ez:(if false=true then ((ts.map Value.ref).toArray.zip vs.toArray).reverse else (ts.map Value.ref).toArray.zip vs.toArray)=(ts.map Value.ref).toArray.zip vs.toArray:=by rw [if_neg Bool.false_ne_true]
    rw [ez]
    have hkl:(ts.map Value.ref).length=vs.length:=by rw [List.length_map];omega
    have run:=kat_run (prog:=X.prog) (w:=X.w) (A:=A) (E:=E) (s:=s4) (κ:=tuples' true) (ks:=ts.map Value.ref) (vs:=vs)
      (Q:=fun st' s'=>s'=s4∧∃ p:Array Nat,arrOf st'=p.map (kas_item ((ts.map Value.ref).toArray.zip vs.toArray))∧failedOf st'=none∧Arr xs.length p∧Srt κ p xs.length)
      (G:=fun p s'=>s'=s4∧Arr xs.length p∧Srt κ p xs.length) hkl (by omega) (by omega) (fun p st' s' _ b c ⟨d,a1,a2⟩=>⟨d,p,b,c,a1,a2⟩) (by
        have:=yQ (N:=xs.length) (KK.cmp (prog:=X.prog) (w:=X.w) (A:=A) hκ) hinj (by omega) (Q:=fun p s'=>s'=s4∧Arr xs.length p∧Srt κ p xs.length) (s:=s4) rfl fun p s' a b c=>⟨c,a,b⟩
        rw [← hlen]
        exact this)
    refine wpAny_bind (wpAny_mono run ?_ fun _ _ x=>x)
    rintro ⟨⟨⟩,st'⟩ s5 ⟨rfl,p,har,hf,AR,SR⟩
    dsimp only
    refine fin st' p.toList (kat_snds hkl har) hf (fun i hi=>?_) (by rw [Array.length_toList,AR.size]) (zy AR SR)
    exact List.mem_range.mp (AR.perm.mem_iff.mp hi)
end
end L2
namespace L2
open PySem PySem.W PySem.Spec PyProof.Rows
def KY (X:Cx) (scope:Scope) (qual:Str) (c:Value) (N:List Str) (A:Around) (f:Addr) (s:Shared) (H:Hp):Cx :=
  let env:Env:=envX qual scope s.heap.objs.size f c (clo X.env.cells scope.names [])
  { prog:=X.prog,w:=X.w,K:=X.K,mg:=X.mg,base:=X.base,A:=A.deeper env,N:=N,s₀:=s,H₀:=H,env:=env,outer:=X.stack,stack:=env :: X.stack,ex:=[],fn:=fun x=>((clo X.env.cells scope.names []).lookup x).isNone,calm:=true,pn:=[],xe:=fun _ _=>False }
def qR (x:V) (cap:List (Option Nat)) (σ:St):St:=some x :: (cap.map fun o=>o.bind fun j=>(σ[j]?).bind id)
def KR (scope:Scope) (p:Str) (N N':List Str) (cap:List (Option Nat)):Bool:=(scope.names.lookup p == some .local) && !scope.isCoroutine && !scope.isGenerator && (!N'.contains p) && vA scope N N' cap
section
variable {X:Cx} {pins:List (Addr × Obj)} {σ:St} {H:Hp} {s:Shared} {body:Expr} {scope:Scope} {params:Arguments} {te:TE}
theorem Ec (sc:Scope) (hsc:X.env.scope=sc) (N₀:List Str) (hN₀:X.N=N₀) {N':List Str} {cap:List (Option Nat)} {p:Str} (f1:freeOk sc scope=true) (f2:uY scope=true) (f3:KR scope p N₀ N' cap=true)
    {A:Around} {f:Addr} {name qual:Str} {c pm ctv:Value} {x:V} {u:Value} {Q:VK} (I:Inv X pins σ H s) (hA:A.frames=some X.stack) (hd:A.handled=none) (hroom:A.depth<recursionLimit)
    (hf:(f,({ cls:=.type "function",data:=.func (kla_fn name qual params body scope (clo X.env.cells scope.names []) pm c ctv) }:Obj))∈pins) (hcd:s.heap.CodeRec c qual)
    (hbind:bindArgs (kla_fn name qual params body scope (clo X.env.cells scope.names []) pm c ctv) ⟨[u],[]⟩=pure [(p,u)])
    (hb:PE (KY X scope qual c (p :: N') A f s H) body te) (rx:RelV x u) (h:te (qR x cap σ) H Q) :
    wpAny (model X.prog X.w) A (call (.ref f) [u]) (fun k s2=>∃ v H2,RelV v k∧Inv X pins σ H2 s2∧Q v H2) (fun _ _=>False) s:=by
  have ok:=I.ok
  have fr:∀ y∈scope.names,y.2=.free→X.env.kindOf y.1=some .cell∨X.env.kindOf y.1=some .free:=fun y hy e=>by
    have q:=List.all_eq_true.mp f1 y hy
    rw [e] at q
    have q':((sc.names.lookup y.1 == some NameKind.cell) || (sc.names.lookup y.1 == some NameKind.free))=true:=by simpa using q
    rw [Bool.or_eq_true] at q'
    unfold Env.kindOf
    rw [hsc]
    rcases q' with z | z
    · exact .inl (by simpa using z)
    · exact .inr (by simpa using z)
  obtain ⟨⟨k1,k2⟩,k3⟩:((scope.kind == .function)=true∧(scope.names.all fun y=>y.2 != .cell)=true)∧(scope.names.all fun y=>y.2 != .local || scope.names.lookup y.1 == some .local)=true:=by
    unfold uY at f2
    rw [Bool.and_eq_true,Bool.and_eq_true] at f2
    exact f2
  have hkind:scope.kind=.function:=by simpa using k1
  have hcell:∀ y∈scope.names,y.2≠.cell:=fun y hy=>by
    have q:=List.all_eq_true.mp k2 y hy
    simpa using q
  obtain ⟨⟨⟨⟨g1,g2⟩,g3⟩,g4⟩,g5⟩:((((scope.names.lookup p == some .local)=true∧(!scope.isCoroutine)=true)∧(!scope.isGenerator)=true)∧(!N'.contains p)=true)∧vA scope N₀ N' cap=true:=by
    unfold KR at f3
    rw [Bool.and_eq_true,Bool.and_eq_true,Bool.and_eq_true,Bool.and_eq_true] at f3
    exact f3
  have hploc:scope.names.lookup p=some .local:=by simpa using g1
  have clX:∀ x c,(clo X.env.cells scope.names []).lookup x=some c→X.env.cells.lookup x=some c:=fun x c e=>by
    have e1:=BL e
    have hx:(x,NameKind.free)∈scope.names:=by
      rcases rA [] (PySem.mem_of_lookup e) with z | z
      · exact nomatch z
      · exact z
    obtain ⟨c',e2⟩:=ok.has x (fr (x,.free) hx rfl)
    rw [e2] at e1 ⊢
    rw [e1];rfl
  have pf:=I.pin _ (List.mem_append_right _ hf)
  refine wpAny_call (kla_callFunE hroom pf.1 rfl (by simpa using g2) (by simpa using g3) rfl hcd ?_)
  rw [hbind]
  refine wpAny_pure ?_
  refine wpAny_newFunctionEnv hcell (fun y hy=>?_) (fun h4 hns hsb=>?_) hkind
  · have:y=(p,u):=by simpa using hy
    rw [this];exact hploc
  have kp4:∀ b o,s.heap.get? b=some o→h4.get? b=some o:=fun b o e=>hsb.extBut b o (Nat.ne_of_lt (Heap.lt_size e)) (Heap.get?_push_of_some _ e)
  refine ⟨I.nolimit.keeps kp4,kla_codeExpr ?_⟩
  let Z:Cx:=KY X scope qual c (p :: N') A f s H
  have okZ:Z.Ok:=by
    refine ⟨ok.mod,hkind,rfl,rfl,Nat.le_refl _,?_,?_,?_,fun _=>hd,Around.frames_deeper hA,.inr ⟨rfl,rfl⟩,?_,?_,?_,?_,?_,?_,?_⟩
    · exact fun x y c h1 h2=>ok.inj x y c (clX x c h1) (clX y c h2)
    · intro x hx
      have hx':scope.names.lookup x=some .cell∨scope.names.lookup x=some .free:=hx
      rcases hx' with z | z
      · exact absurd rfl (hcell _ (PySem.mem_of_lookup z))
      · exact Option.isSome_iff_exists.mp (oN scope.names [] x (PySem.mem_of_lookup z))
    · intro x c hx h1
      have hx':((clo X.env.cells scope.names []).lookup x).isNone=true:=hx
      have h1':(clo X.env.cells scope.names []).lookup x=some c:=h1
      rw [h1'] at hx';cases hx'
    · exact fun b hb=>absurd (show b∈([]:List Addr) from hb) (by simp)
    · exact fun b o e=>I.bs b o e
    · exact Nat.le_trans ok.bsz I.sz
    · exact fun b o e hb=>absurd (show b∈([]:List Addr) from hb) (by simp)
    · exact fun b hb=>absurd (show b∈([]:List Addr) from hb) (by simp)
    · exact I.stack
    · exact I.uJ
  have capl:cap.length=N'.length∧∀ p∈N'.zip cap,(match p.2 with | none=>true | some j=>N₀[j]? == some p.1 && scope.names.lookup p.1 == some .free)=true:=by
    unfold vA at g5
    rw [Bool.and_eq_true] at g5
    exact ⟨by simpa using g5.1,fun p hp=>List.all_eq_true.mp g5.2 p hp⟩
  have IZ:Inv Z [] (qR x cap σ) H { s with heap:=h4,toks:=s.toks + [(p,u)].length }:=by
    refine ⟨okZ,rfl,I.bare,Un.kept kp4,⟨_,hns,?_⟩,?_,?_,?_,fun p hp=>absurd (show p∈([]:List (Addr × Obj)) from hp) (by simp),I.hok.kept kp4,?_⟩
    · intro i y v e1 e2 e3
      cases i with
      | zero =>
        have e1':p=y:=by
          have e1'':(p :: N')[0]?=some y:=e1
          simpa using e1''
        have e2':x=v:=by
          have e2'':(qR x cap σ)[0]?=some (some v):=e2
          simpa [qR] using e2''
        subst e1' e2'
        exact ⟨u,rx,.inl ⟨hploc,by simp [List.lookup]⟩⟩
      | succ i =>
        have e1':N'[i]?=some y:=by
          have e1'':(p :: N')[i + 1]?=some y:=e1
          simpa using e1''
        have e2':(cap.map fun o=>o.bind fun j=>(σ[j]?).bind id)[i]?=some (some v):=by
          have e2'':(qR x cap σ)[i + 1]?=some (some v):=e2
          simpa [qR] using e2''
        rw [List.getElem?_map] at e2'
        cases ec:cap[i]? with
        | none=>rw [ec] at e2';cases e2'
        | some o =>
          rw [ec] at e2'
          cases o with
          | none=>cases e2'
          | some j =>
            have e3':(σ[j]?).bind id=some v:=by simpa using e2'
            have hz:(y,some j)∈N'.zip cap:=by
              refine List.mem_of_getElem? (i:=i) ?_
              rw [List.getElem?_zip_eq_some]
              exact ⟨e1',ec⟩
            have q:=capl.2 _ hz
            have q':(N₀[j]? == some y)=true∧(scope.names.lookup y == some NameKind.free)=true:=by simpa [Bool.and_eq_true] using q
            have q1:X.N[j]?=some y:=by rw [hN₀];simpa using q'.1
            have q2:scope.names.lookup y=some .free:=by simpa using q'.2
            have eσ:σ[j]?=some (some v):=by
              cases z:σ[j]? with
              | none=>rw [z] at e3';cases e3'
              | some y' =>
                rw [z] at e3'
                have:y'=some v:=e3'
                rw [this]
            have hk:=fr (y,.free) (PySem.mem_of_lookup q2) rfl
            obtain ⟨m,hn,hl⟩:=I.loc
            have vis:Vis X.env.scope y:=by
              rcases hk with z | z
              · exact .inr (.inl z)
              · exact .inr (.inr z)
            obtain ⟨u',r,l⟩:=hl j y v q1 eσ vis
            refine ⟨u',r,.inr ⟨.inr q2,?_⟩⟩
            rcases l with ⟨kl,_⟩ | ⟨_,c,ecx,hcx⟩
            · rcases hk with z | z
              · have z':X.env.kindOf y=some .cell:=z
                rw [kl] at z';cases z'
              · have z':X.env.kindOf y=some .free:=z
                rw [kl] at z';cases z'
            · have hh:=oN (cells:=X.env.cells) scope.names [] y (PySem.mem_of_lookup q2)
              obtain ⟨c',ec'⟩:=Option.isSome_iff_exists.mp hh
              have ec2:=clX y c' ec'
              rw [ecx] at ec2
              cases ec2
              exact ⟨c,ec',hcx.keeps kp4⟩
    · intro y c e
      obtain ⟨v,z⟩:=I.cell y c (clX y c e)
      exact ⟨v,z.keeps kp4⟩
    · exact I.hok.fresh (Nat.le_refl _)
    · exact fun y c e=>I.freeC y c (clX y c e)
    · show (qR x cap σ).length=(p :: N').length
      unfold qR
      rw [List.length_cons,List.length_cons,List.length_map,capl.1]
  refine wpAny_mono (hb [] _ _ H Q IZ h) (fun v s2 ⟨vv,H2,J,rv,q⟩=>?_) fun _ _ z=>z.elim
  refine ⟨vv,H2,rv,?_,q⟩
  have un:Un (frs X.stack) [] H H2 s.heap s2.heap:=J.base
  exact I.call' J.os un J.hok J.bare fun b hb=>absurd hb (by simp)
end
end L2
namespace L2
open PySem PySem.W PySem.Spec PyProof.Rows
section
variable {X:Cx} {pins:List (Addr × Obj)} {σ:St} {H:Hp} {s:Shared}
theorem Inv.grow {P:Addr} {ps more:Array Value} {h':Heap} {t':Nat} (I:Inv X pins σ H s) (hP:H P=some (.tbl ps)) (hx:Heap.ExtBut P s.heap h') (hP':h'.get? P=some { cls:=.none,data:=.fields (ps++more) }) :
    Inv X pins σ (upd H P (.tbl (ps++more))) { s with heap:=h',toks:=t' }:=by
  have ne:∀ b,H b=none→b≠P:=fun b n z=>by rw [z,hP] at n;cases n
  have hL:X.env.locals≠P:=ne _ I.free
  refine I.step (g':=s.gens) (d':=s.drawn) (ch:=[]) (fun _ z=>nomatch z) (fun b o _ _ _ e n=>hx b o (ne b n) e) (fun b o _ _ _ e n=>⟨o.slots,hx b o (ne b n) e⟩) (fun b o _ _ n=>by rw [aV (ne b n)];exact n) (fun b o _ e=>?_) (fun b xs e=>?_) (fun b ob u e=>?_) (fun b qs e=>?_) (fun m hm=>?_) (fun b u e=>?_) I.bare
  · by_cases hb:b=P
    · subst hb;exact ⟨_,hP'⟩
    · exact ⟨o,hx b o hb e⟩
  · rw [aV (fun z=>by rw [z,hP] at e;cases e)];exact e
  · rw [aV (fun z=>by rw [z,hP] at e;cases e)];exact e
  · by_cases hb:b=P
    · subst hb
      rw [hP] at e;cases e
      exact ⟨more,by rw [bG]⟩
    · exact ⟨#[],by rw [aV hb,e];simp⟩
  · exact hm.extBut hx hL
  · by_cases hb:b=P
    · subst hb;rw [bG] at e;cases e;exact hP'
    · rw [aV hb] at e
      refine (I.hok b u e).stay (fun c v hc q=>hx c v ?_ q) (fun c q=>by rw [aV (fun z=>by rw [z,hP] at q;cases q)];exact q) fun c xs q=>by rw [aV (fun z=>by rw [z,hP] at q;cases q)];exact q
      rcases hc with z | z
      · rw [z];exact hb
      · intro w;rw [w,hP] at z;cases z
def TabOk (P:Addr) (pos:Pos) (qual:Str) (H:Hp):Prop:=H P=some (.tbl #[])∨∃ c':Addr,H P=some (.tbl #[rawInt pos.line,rawInt pos.col,.ref c'])∧H c'=some (.ext fun h=>h.CodeRec (.ref c') qual)
def BM (mg:Str→Option Value) (base:Heap):Prop:=∃ bm ob,mg "__builtins__"=some (.ref bm)∧bm≠builtinsNs∧bm≠mainGlobals∧base.get? bm=some ob∧ob.cls=.type "module"∧ob.dict=some builtinsNs∧ob.data=.plain
theorem Eb {P c:Addr} {params:Arguments} {body:Expr} {scope:Scope} {pos:Pos} {Q:Value→Shared→Prop} {E:Value→Shared→Prop} {A:Around} (sc:Scope) (hsc:X.env.scope=sc) (f1:freeOk sc scope=true) (I:Inv X pins σ H s) (hbm:BM X.mg X.base) (hcode:X.env.code=.ref c)
    (hhd:codeHdIn X.K c P=true) (hT:TabOk P pos (X.env.qual++"<lambda>") H) (hdef:defaultsOf params X.env=([],[]))
    (h:∀ (f:Addr) (H':Hp) (s':Shared) (c':Addr) (pm ctv:Value),(∀ b o,H b=some o→b≠P→H' b=some o)→(∀ b,H' b=none→H b=none)→TabOk P pos (X.env.qual++"<lambda>") H'→H' c'=some (.ext fun h=>h.CodeRec (.ref c') (X.env.qual++"<lambda>")) →
      Inv X (pins++[(f,({ cls:=.type "function",data:=.func (kla_fn "<lambda>" (X.env.qual++"<lambda>") params body scope (clo X.env.cells scope.names []) pm (.ref c') ctv) }:Obj))]) σ H' s'→Q (.ref f) s') :
    wpAny (model X.prog X.w) A (eval (.Lambda params body scope pos) X.env) Q E s:=by
  have ok:=I.ok
  have fr:∀ y∈scope.names,y.2=.free→X.env.kindOf y.1=some .cell∨X.env.kindOf y.1=some .free:=fun y hy e=>by
    have q:=List.all_eq_true.mp f1 y hy
    rw [e] at q
    have q':((sc.names.lookup y.1 == some NameKind.cell) || (sc.names.lookup y.1 == some NameKind.free))=true:=by simpa using q
    rw [Bool.or_eq_true] at q'
    unfold Env.kindOf
    rw [hsc]
    rcases q' with z | z
    · exact .inl (by simpa using z)
    · exact .inr (by simpa using z)
  have hclos:closureFor scope X.env=pure (clo X.env.cells scope.names []):=jU fun y hy e=>ok.has y.1 (fr y hy e)
  have hg:s.heap.Ns mainGlobals X.mg:=I.mod.glob.keeps I.bk
  have C:CodeHd s.heap c P:=codeHd_of_K I.kIn hhd
  obtain ⟨bm,ob,b1,b2,b3,b4,b5,b6,b7⟩:=hbm
  have hbmP:∀ ps,H P=some (.tbl ps)→bm≠P:=fun ps e z=>by
    have:=(I.bs bm ob b4).2
    rw [z,e] at this;cases this
  have hB:∀ ps,H P=some (.tbl ps)→s.heap.BuiltinsAt X.mg P:=fun ps e=>⟨bm,ob,b1,b2,b3,hbmP ps e,I.bk bm ob b4,b5,b6,b7⟩
  refine kla_eval hdef ?_
  rcases hT with hT | ⟨c',hT,hc'⟩
  · have hPo:s.heap.get? P=some (tabObj #[]):=I.hok P _ hT
    have hgP:mainGlobals≠P:=fun q=>by
      obtain ⟨o,es,ep,e,hd,_⟩:=id hg
      rw [q,hPo] at e;cases e;cases hd
    refine kla_makeFunction (mg:=X.mg) hclos ok.glob hg hcode C hPo trivial rfl hgP (hB _ hT) fun c' ctv h' tk hx hge hlt hrec htb=>?_
    have hPlt:P<s.heap.objs.size:=Heap.lt_size hPo
    have I1:Inv X pins σ (upd H P (.tbl (#[]++#[rawInt pos.line,rawInt pos.col,.ref c']))) { s with heap:=h',toks:=tk }:=I.grow hT hx htb
    have nc':H c'=none:=I.hok.fresh hge
    have hcP:c'≠P:=fun z=>by rw [z] at hge;exact absurd hPlt (Nat.not_lt.mpr hge)
    have nc1:(upd H P (.tbl (#[]++#[rawInt pos.line,rawInt pos.col,.ref c']))) c'=none:=by rw [aV hcP];exact nc'
    obtain ⟨q0,q1,q2,q3,q4,q5⟩:=I.yE (H':=H) hge nc'
    have hs0:X.s₀.heap.objs.size≤c':=Nat.le_trans I.sz hge
    have I2:=I1.adopt (a:=c') (o:=.ext fun h=>h.CodeRec (.ref c') (X.env.qual++"<lambda>")) nc1 q1 hs0 q4 q5
      ⟨hrec,by obtain ⟨cc,o,vs,t,e1,e2,_⟩:=hrec;cases e1;exact ⟨o,e2⟩,fun h1 h2 x k=>x.at k⟩
    have I3:=I2.kept (h':=h'.push (kla_obj "<lambda>" (X.env.qual++"<lambda>") params body scope (clo X.env.cells scope.names []) ((X.mg "__name__").getD .none) c' ctv)) (t':=tk) fun b o e=>Heap.get?_push_of_some _ e
    have nf:(upd (upd H P (.tbl (#[]++#[rawInt pos.line,rawInt pos.col,.ref c']))) c' (.ext fun h=>h.CodeRec (.ref c') (X.env.qual++"<lambda>"))) h'.objs.size=none:=I2.hok.fresh (Nat.le_refl _)
    have I4:=I3.lN (I2.yE (Nat.le_refl _) nf) (Heap.get?_push_size _ rfl) (fun v z=>by cases z)
    refine h _ _ _ c' _ ctv (fun b o e hb=>?_) (fun b e=>?_) (.inr ⟨c',?_,bG⟩) bG I4
    · rw [aV (bD e nc'),aV hb];exact e
    · cases z:H b with
      | none=>rfl
      | some o =>
        by_cases hb:b=P
        · rw [hb,aV hcP.symm,bG] at e;cases e
        · rw [aV (bD z nc'),aV hb,z] at e;cases e
    · rw [aV hcP.symm,bG];simp
  · have hPo:s.heap.get? P=some (tabObj #[rawInt pos.line,rawInt pos.col,.ref c']):=I.hok P _ hT
    have hfnd:codeAmong pos (#[rawInt pos.line,rawInt pos.col,.ref c']:Array Value).toList=some (.ref c'):=by simp [codeAmong,rawInt]
    refine kla_makeFunctionHit (mg:=X.mg) hclos ok.glob hg hcode C hPo trivial hfnd (hB _ hT) fun ctv h' tk hk hsz=>?_
    have I1:Inv X pins σ H { s with heap:=h',toks:=tk }:=I.kept hk
    have I3:=I1.kept (h':=h'.push ({ cls:=.type "function",data:=.func (kla_fn "<lambda>" (X.env.qual++"<lambda>") params body scope (clo X.env.cells scope.names []) ((X.mg "__name__").getD .none) (.ref c') ctv) }:Obj)) (t':=tk) fun b o e=>Heap.get?_push_of_some _ e
    have nf:H h'.objs.size=none:=I1.hok.fresh (Nat.le_refl _)
    have I4:=I3.lN (I1.yE (Nat.le_refl _) nf) (Heap.get?_push_size _ rfl) (fun v z=>by cases z)
    exact h _ _ _ c' _ ctv (fun b o e _=>e) (fun b e=>e) (.inr ⟨c',hT,hc'⟩) hc' I4
end
end L2
namespace L2
open PySem PySem.W PySem.Spec PyProof.Rows
def gA (n:Nat):List V:=(List.range n).map fun (i:Nat)=>V.int (i:Int)
def CV (P:Addr) (lpos:Pos) (qual:Str) (cap:List (Option Nat)) (ta:TA) (te:TE):TE:=fun σ H Q=>ta σ H fun vs H1=>∃ n:Nat,vs=[.int (n:Int)]∧n<64∧TabOk P lpos qual H1 ∧
  ∀ H2,(∀ b o,H1 b=some o→b≠P→H2 b=some o)→(∀ b,H2 b=none→H1 b=none)→TabOk P lpos qual H2 →
    ∃ (Pv:Nat→List Addr→Hp→Prop) (key:Nat→List Int) (κ:Nat→Int) (m:Nat),Pv 0 [] H2∧(∀ i ts H3,i<n→Pv i ts H3→(∀ c',H2 c'=some (.ext fun h=>h.CodeRec (.ref c') qual)→H3 c'=some (.ext fun h=>h.CodeRec (.ref c') qual))∧te (qR (.int (i:Int)) cap σ) H3 fun v H4=>∃ t,v=.ref t∧Pv (i + 1) (ts++[t]) H4) ∧
      (∀ ts H3,Pv n ts H3→∀ i t,ts[i]?=some t→H3 t=some (.tup ((key i).map V.int)))∧(∀ i,i<n→(key i).length=m + 1)∧(∀ i j,i<n→j<n→HT.lexLt (key i) (key j)=decide (κ i<κ j))∧Inj n κ ∧
      ∀ ts H3 D ys,Pv n ts H3→H3 D=none→lE κ (gA n) ys→Q (.ref D) (upd H3 D (.lst ys))
section
variable {X:Cx} {e body:Expr} {ta:TA} {te:TE} {params:Arguments} {scope:Scope} {p1 p2 p3 lpos kp pos:Pos}
theorem mJ {P c:Addr} {p:Str} (sc:Scope) (hsc:X.env.scope=sc) (N₀:List Str) (hN₀:X.N=N₀) (N':List Str) (cap:List (Option Nat)) (f1:freeOk sc scope=true) (f2:uY scope=true) (f3:KR scope p N₀ N' cap=true)
    (hcalm:X.calm=true) (hbm:BM X.mg X.base) (hcode:X.env.code=.ref c) (hhd:codeHdIn X.K c P=true) (hroom:X.A.depth + 4<recursionLimit)
    (hgs:Gl X "sorted") (hms:X.mg "sorted"=none) (hgr:Gl X "range") (hmr:X.mg "range"=none) (ha:PA X [e] ta)
    (hb:∀ (A:Around) (f:Addr) (cv:Value) (s:Shared) (H:Hp),A.handled=none→A.depth≤X.A.depth + 2→A.units≤X.A.units + 2→PE (KY X scope (X.env.qual++"<lambda>") cv (p :: N') A f s H) body te)
    (hbind:∀ (pm cv ctv u:Value),bindArgs (kla_fn "<lambda>" (X.env.qual++"<lambda>") params body scope (clo X.env.cells scope.names []) pm cv ctv) ⟨[u],[]⟩=pure [(p,u)])
    (hdef:defaultsOf params X.env=([],[]):=by rfl) (hs:starEach [e] X.env=[(false,eval e X.env)]:=by rfl) :
    PE X (.Call (.Name "sorted" p1) [.Call (.Name "range" p2) [e] [] p3] [⟨some "key",.Lambda params body scope lpos,kp⟩] pos) (CV P lpos (X.env.qual++"<lambda>") cap ta te):=by
  intro pins s σ H Q I h
  refine wpAny_Call_Name_kw (iJ I hgs hms boot_sorted ?_)
  refine callWith_kw ?_
  show wpAny _ _ (spliced ((false,eval (.Call (.Name "range" p2) [e] [] p3) X.env) :: [])) _ _ s
  refine Calls.spliced_cons (Call_ (iJ I hgr hmr boot_range (PyProof.Rows.callWith_type1 (thn (ha p3 pins s σ H _ I h) fun us s1 ⟨vs,H1,I1,r1,q1⟩=>?_) hs rfl)))
  obtain ⟨n,e1,hn,hT,q⟩:=q1
  subst e1
  obtain ⟨u,rfl,t,rfl⟩:=vals1 r1
  refine call_range_1 ?_
  refine Calls.spliced_nil ?_
  generalize hro:({ cls:=.type "range",data:=.fields #[.int 0 s1.toks,.int (n:Int) t,.int 1 (s1.toks + 1)] }:Obj)=ro
  have hrd:∀ v,ro.data≠.cell v:=fun v z=>by rw [← hro] at z;cases z
  have I2:Inv X pins σ H1 { s1 with heap:=s1.heap.push ro,toks:=s1.toks + 1 + 1 }:=I1.kept fun b o e=>Heap.get?_push_of_some _ e
  have nr:H1 s1.heap.objs.size=none:=I1.hok.fresh (Nat.le_refl _)
  have I3:=I2.lN (I1.yE (Nat.le_refl _) nr) (Heap.get?_push_size _ (by rw [← hro];rfl)) hrd
  generalize ({ s1 with heap:=s1.heap.push ro,toks:=s1.toks + 1 + 1 }:Shared)=s2 at I3 ⊢
  generalize s1.heap.objs.size=r at I3 ⊢
  refine kws_cons (Eb (P:=P) (c:=c) sc hsc f1 I3 hbm hcode hhd hT hdef fun f H2 s3 c' pm ctv k1 k2 hT2 hc' I4=>?_)
  refine kws_nil ?_
  show wpAny _ _ (call (.builtin "sorted") [.ref r] [(Str.ofString "key",.ref f)]) _ _ s3
  obtain ⟨Pv,key,κ,m,p0,step,htup,hlong,hκ,hinj,fin⟩:=q H2 k1 k2 hT2
  refine call_function_entry_kw kind_sorted plain_sorted entry_sorted (ksk_s1 _ _) ?_
  unfold Builtin.«sorted»
  refine wpAny_bind (m:=checkCount "sorted" 1 1 _) (wpAny_pure ?_)
  have pr:=I4.pin (r,ro) (List.mem_append_right _ (List.mem_append_left _ (List.mem_append_right _ (by simp))))
  have hR:IsRange s3.heap r 0 (n:Int) 1 s1.toks t (s1.toks + 1):=by
    show s3.heap.get? r=_
    rw [pr.1,← hro]
  have hrs:Builtin.Range.rangeSize 0 (n:Int) 1=(n:Nat):=by rw [rangeSize_one];split <;> omega
  refine wpAny_bind (rm (A:=X.A.in1) (I.ok.hd hcalm) hR (small_one (by omega) (by omega) (by omega) (by omega)) hrs (by omega) fun h' tk vs hk rv=>?_)
  have I5:Inv X _ σ H2 { s3 with heap:=h',toks:=tk }:=I4.kept hk
  have hlen:=rv.length
  rw [List.length_map,List.length_range] at hlen
  refine wpAny_bind (wpAny_newList ?_ (by rw [sizeLine_eq];omega))
  have nD:H2 h'.objs.size=none:=I5.hok.fresh (Nat.le_refl _)
  have I6:Inv X _ σ H2 { s3 with heap:=h'.push (seqObj "list" vs.toArray 0),toks:=tk }:=I5.kept (t':=tk) fun b o e=>Heap.get?_push_of_some _ e
  have hD6:(h'.push (seqObj "list" vs.toArray 0)).get? h'.objs.size=some (seqObj "list" vs.toArray 0):=Heap.get?_push_size _ rfl
  have hxl:((List.range n).map fun (i:Nat)=>V.int (i:Int)).length=n:=by simp
  refine wpAny_bind (wpAny_holding (wpAny_call_entry_kw slot_list_sort ⟨_,hD6,rfl⟩ entry_list_sort ?body (ksk_l1 _ _)))
  show wpAny (model X.prog X.w) X.A.in1.in1 (Builtin.«list.sort» ⟨[.ref h'.objs.size],[(Str.ofString "key",.ref f)]⟩) _ _ _
  rw [ksk_t1]
  refine wpAny_mono (zA (X:=X) (A:=X.A.in1.in1) (s:={ s3 with heap:=h'.push (seqObj "list" vs.toArray 0),toks:=tk }) (xs:=gA n) (key:=key) (κ:=κ) (m:=m) (n0:=0) rv (by show ((List.range n).map _).length<64;rw [hxl];exact hn) Pv I6 hD6
    (fun H' hn'=>I5.yE (Nat.le_refl _) hn') nD (Nat.le_trans I5.sz (Nat.le_refl _)) p0 ?call ?tup ?long ?kap ?inj) ?_ fun _ _ x=>x
  case call =>
    intro i x u ts pins' s' H' hx rx I' hsub pv
    obtain ⟨hi,ex⟩:i<n∧x=V.int (i:Int):=by
      have hx':((List.range n).map fun (i:Nat)=>V.int (i:Int))[i]?=some x:=hx
      rw [List.getElem?_map] at hx'
      by_cases hi:i<n
      · rw [List.getElem?_range hi] at hx'
        exact ⟨hi,(Option.some.inj hx').symm⟩
      · rw [List.getElem?_eq_none (by rw [List.length_range];omega)] at hx';cases hx'
    subst ex
    obtain ⟨hkc,ht⟩:=step i ts H' hi pv
    have hcr:s'.heap.CodeRec (.ref c') (X.env.qual++"<lambda>"):=(I'.hok c' _ (hkc c' hc')).1
    refine wpAny_mono (Ec (X:=X) (A:=X.A.in1.in1) sc hsc N₀ hN₀ f1 f2 f3 I' I.ok.frames (I.ok.hd hcalm) (by show X.A.depth<recursionLimit;omega) (hsub _ (List.mem_append_right _ List.mem_cons_self)) hcr (hbind _ _ _ _)
      (hb _ f _ s' H' (I.ok.hd hcalm) (by show X.A.depth≤X.A.depth + 2;omega) (by show X.A.units + 1 + 1≤X.A.units + 2;omega)) rx ht) (fun k s2 ⟨v,H3,rv',I7,t',ev,pv'⟩=>?_) fun _ _ x=>x
    subst ev
    have ek:k=.ref t':=rv'
    exact ⟨t',H3,ek,I7,pv'⟩
  case tup =>
    intro ts H' pv
    have pv':Pv n ts H':=by
      have:Pv ((List.range n).map fun (i:Nat)=>V.int (i:Int)).length ts H':=pv
      rw [hxl] at this;exact this
    exact htup ts H' pv'
  case long =>
    intro i hi
    have hi':i<((List.range n).map fun (i:Nat)=>V.int (i:Int)).length:=hi
    rw [hxl] at hi'
    exact hlong i hi'
  case kap =>
    intro i j hi hj
    have hi':i<((List.range n).map fun (i:Nat)=>V.int (i:Int)).length:=hi
    have hj':j<((List.range n).map fun (i:Nat)=>V.int (i:Int)).length:=hj
    rw [hxl] at hi' hj'
    exact hκ i j hi' hj'
  case inj =>
    have:(gA n).length=n:=hxl
    rw [this];exact hinj
  rintro fin' s8 ⟨rfl,ts,H8,ys,pv,nD8,hsb,I8⟩
  refine ⟨_,rfl,wpAny_pure ⟨_,rfl,?_⟩⟩
  have pv':Pv n ts H8:=by
    have e':(gA n).length=n:=hxl
    rw [e'] at pv;exact pv
  exact ⟨.ref h'.objs.size,_,I8.gZ.gZ,rfl,fin ts H8 _ ys pv' nD8 hsb⟩
end
end L2
namespace L2
open PySem PySem.W PySem.Spec PyProof.Rows
def Lk (ts:List Addr) (H:Hp):Prop:=∀ b,H b=none∨(∃ o xs,H b=some (.frz o (.lst xs)))∨(b∈ts∧H b=some (.tbl #[]))
theorem Ay {P:Program} {w:World} {K:PySem.W.Frag} {mg mb:Str→Option Value} {CX:CXT} {k:Nat} {fa a:Addr} {fd:FuncData} {x:Str} {sp:Sp} {s₁:Shared} {vs:List Value} {ns:List Int} {ts:List Addr}
    (KX:K.In s₁.heap) (hns:s₁.heap.Ns mainGlobals mg) (hb:s₁.heap.Ns builtinsNs mb) (hbb:∀ x:Str,x≠"__name__"→mb x=bootBuiltins x) (hlim:s₁.heap.NoLimit) (hg:s₁.gens=#[])
    (ha:s₁.heap.get? a=some { cls:=.type "list",data:=.seq vs.toArray }) (hi:IntsAre vs ns) (hl:ns.length≤sizeLine) (hr:rE k callerA)
    (hts:∀ P∈ts,s₁.heap.get? P=some (tabObj #[])) (htk:∀ P∈ts,K.lookup P=none) (htc:∀ P∈ts,isCodeTable s₁.heap P)
    (hbm:∃ bm ob,mg "__builtins__"=some (.ref bm)∧bm≠builtinsNs∧s₁.heap.get? bm=some ob∧ob.cls=.type "module"∧ob.dict=some builtinsNs∧ob.data=.plain)
    (F:∀ base:Heap,K.In base→base.Ns mainGlobals mg→BM mg base→bZ P w K mg base CX k fa fd [x] sp) (hbind:∀ (s:Shared) (u:Value),BindsTo s fd ⟨[u],[]⟩ [(x,u)])
    (hsp:∀ H:Hp,Lk ts H→(∀ P∈ts,H P=some (.tbl #[]))→SqL K H a (ns.map V.int)→sp [.ref a] H (fun v _=>v=.bl true) fun _ _ _=>False)
    (hCX:∀ H e s',CX [] H s₁ (fun _ _ _=>False) e s'→False) :
    codeAny (model P w) callerA (.call (.ref fa) ⟨[.ref a],[]⟩) (fun r s'=>r=.ok (.ret (.bool true))∧OldK s₁.heap s'.heap∧s'.os=s₁.os∧AllBare s'.gens) s₁:=by
  have rv:=nq hi
  have lenV:=hi.length
  have haT:a ∉ ts:=fun z=>by have:=hts a z;rw [ha] at this;cases this
  have core:∀ H:Hp,Lk ts H→(∀ P∈ts,H P=some (.tbl #[]))→SqL K H a (ns.map V.int)→HOk P w H s₁.heap→(∀ b,H b≠none→b=a∨b∈ts)→(H a≠none→K.lookup a=none) →
      codeAny (model P w) callerA (.call (.ref fa) ⟨[.ref a],[]⟩) (fun r s'=>r=.ok (.ret (.bool true))∧OldK s₁.heap s'.heap∧s'.os=s₁.os∧AllBare s'.gens) s₁:=by
    intro H hO hTb hS hok hA hK
    have base_of:∀ {b:Addr} {o:Obj},s₁.heap.get? b=some o→H b=none→(Cw s₁.heap H).get? b=some o:=fun e n=>El e n
    have noA:∀ {b:Addr} {o:Obj},s₁.heap.get? b=some o→(∀ xs n,o.data≠.seq xs n)→(∀ ps,o.data≠.fields ps)→H b=none:=fun {b o} e d1 d2=>by
      cases q:H b with
      | none=>rfl
      | some u =>
        rcases hA b (by rw [q];simp) with e' | e'
        · subst e'
          rw [ha] at e;cases e
          exact absurd rfl (d1 _ _)
        · have:=hts b e'
          rw [e] at this;cases this
          exact absurd rfl (d2 _)
    have nsK:∀ {b:Addr} {m:Str→Option Value},s₁.heap.Ns b m→(Cw s₁.heap H).Ns b m:=fun {b m} ⟨o,es,ep,e,d,r⟩=>⟨o,es,ep,base_of e (noA e (fun _ _ z=>by rw [d] at z;cases z) fun _ z=>by rw [d] at z;cases z),d,r⟩
    have hKb:K.In (Cw s₁.heap H):=fun b o e=>base_of (KX b o e) (by
      cases q:H b with
      | none=>rfl
      | some u =>
        rcases hA b (by rw [q];simp) with e' | e'
        · subst e'
          rw [hK (by rw [q];simp)] at e;cases e
        · rw [htk b e'] at e;cases e)
    have hM:Mod K mg (Cw s₁.heap H):=⟨hKb,nsK hns,⟨mb,nsK hb,hbb⟩,let ⟨mc,h1,h2⟩:=hlim;⟨mc,nsK h1,h2⟩⟩
    have hBM:BM mg (Cw s₁.heap H):=by
      obtain ⟨bm,ob,c1,c2,c3,c4,c5,c6⟩:=hbm
      refine ⟨bm,ob,c1,c2,fun q=>?_,base_of c3 (noA c3 (fun _ _ z=>by rw [c6] at z;cases z) fun _ z=>by rw [c6] at z;cases z),c4,c5,c6⟩
      obtain ⟨o,es,ep,e,hd,_⟩:=id hns
      rw [q,e] at c3;cases c3;rw [hd] at c6;cases c6
    have e0:Rr P w K mg (Cw s₁.heap H) callerA [] s₁ H:=⟨rfl,hM,fun b o e=>KH e,Nat.le_of_eq (Bm _ _),trivial,fun b hb=>absurd (show b∈([]:List Addr) from hb) (by simp),hok,.of_eq hg⟩
    refine codeAny_mono ((F _ hKb (nsK hns) hBM).run callerA [] s₁ H ⟨[.ref a],[]⟩ [.ref a] [.ref a] _ _ hr e0 (hbind s₁ (.ref a)) (.cons rfl .nil) (hsp H hO hTb hS)) fun r s' h=>?_
    cases r with
    | error e=>exact (hCX H e s' h).elim
    | ok fl =>
      cases fl with
      | next=>exact False.elim h
      | brk=>exact False.elim h
      | cont=>exact False.elim h
      | ret u =>
        obtain ⟨v,H',os,bare,un,hok',r',q⟩:=h
        have q':v=.bl true:=q
        subst q'
        obtain rfl:u=Value.bool true:=r'
        have old:∀ b o,s₁.heap.get? b=some o→asItWas s₁.heap s'.heap b o:=fun b o e=>by
          rcases hO b with z | ⟨ob,xs,z⟩ | ⟨hbt,z⟩
          · exact .inl (un.keep b o e z (by intro z;exact absurd (show b∈([]:List Addr) from z) (by simp)) (by simp))
          · have z2:=un.frzs b ob _ z
            obtain ⟨e1,_⟩:=hok b _ z
            obtain ⟨e2,_⟩:=hok' b _ z2
            rw [e] at e1;cases e1
            exact .inl e2
          · obtain ⟨more,z2⟩:=un.tbls b #[] z
            have e2:s'.heap.get? b=some { cls:=.none,data:=.fields (#[]++more) }:=hok' b _ z2
            have e3:=hts b hbt
            rw [e] at e3;cases e3
            exact .inr (.inl ⟨htc b hbt,rfl,#[],more,rfl,e2⟩)
        refine ⟨rfl,⟨old,fun b o e=>?_⟩,os,bare⟩
        exact un.there b o e (by simp)
  have tb:∀ b,(if b∈ts then some (HO.tbl #[]) else none)=none∨b∈ts:=fun b=>by
    by_cases h:b∈ts
    · exact .inr h
    · exact .inl (if_neg h)
  cases hk:K.lookup a with
  | some o =>
    have e:=KX a o hk
    rw [ha] at e
    cases e
    refine core (fun b=>if b∈ts then some (.tbl #[]) else none) (fun b=>?_) (fun P hP=>if_pos hP) (.inr ⟨_,vs.toArray,_,hk,rfl,rfl,rfl,by rw [List.size_toArray,lenV];exact hl,by simpa using rv⟩) (fun b u z=>?_) (fun b z=>?_) (fun z=>absurd (if_neg haT) z)
    · by_cases h:b∈ts
      · exact .inr (.inr ⟨h,if_pos h⟩)
      · exact .inl (if_neg h)
    · by_cases h:b∈ts
      · have z':=(if_pos h).symm.trans z
        cases z'
        exact hts b h
      · have z':=(if_neg h).symm.trans z
        cases z'
    · by_cases h:b∈ts
      · exact .inr h
      · exact absurd (if_neg h) z
  | none =>
    refine core (fun b=>if b=a then some (.frz { cls:=.type "list",data:=.seq vs.toArray } (.lst (ns.map V.int))) else if b∈ts then some (.tbl #[]) else none) (fun b=>?_) (fun P hP=>?_) (.inl (.inr ⟨{ cls:=.type "list",data:=.seq vs.toArray },if_pos rfl⟩)) (fun b u z=>?_) (fun b z=>?_) fun _=>hk
    · by_cases hb:b=a
      · exact .inr (.inl ⟨_,_,if_pos hb⟩)
      · by_cases h:b∈ts
        · exact .inr (.inr ⟨h,(if_neg hb).trans (if_pos h)⟩)
        · exact .inl ((if_neg hb).trans (if_neg h))
    · have hb:P≠a:=fun z=>haT (z ▸ hP)
      exact (if_neg hb).trans (if_pos hP)
    · by_cases hb:b=a
      · have z':=(if_pos hb).symm.trans z
        cases z'
        subst hb
        exact ⟨ha,by rw [List.length_map];exact hl,vs,_,rv,ha⟩
      · have z1:=(if_neg hb).symm.trans z
        by_cases h:b∈ts
        · have z':=(if_pos h).symm.trans z1
          cases z'
          exact hts b h
        · have z':=(if_neg h).symm.trans z1
          cases z'
    · by_cases hb:b=a
      · exact .inl hb
      · by_cases h:b∈ts
        · exact .inr h
        · exact absurd ((if_neg hb).trans (if_neg h)) z
theorem CN {l:PySem.W.OpenLaw} {n k:Nat} {q:Program} {loose:List Str} {XP:(Str→Option Value)→Heap→Prop} {YP:World→Heap→Prop} {d:DefRec} {K:Params→PySem.W.Frag} {CX:World→CXT} {sp:World→Sp} {x:Str} {ts:List Addr}
    (hn:l.most=some n) (hn2:n≤sizeLine) (hdf:d.params.defaults=[]) (hr:rE k callerA)
    (hY:∀ (w:World) (h:Heap),YP w h→(K w.params).In h) (hYt:∀ (w:World) (h:Heap),YP w h→∀ P∈ts,h.get? P=some (tabObj #[]))
    (hts:∀ (w:World),∀ P∈ts,(K w.params).lookup P=none∧∃ c,codeHdIn (K w.params) c P=true)
    (F:∀ (w:World) (mg:Str→Option Value) (fa:Addr) (h:Heap),(K w.params).In h→h.Ns mainGlobals mg→mg d.name=some (.ref fa) →
      ∃ fd:FuncData,(∀ (s:Shared) (u:Value),BindsTo s fd ⟨[u],[]⟩ [(x,u)]) ∧
        ∀ base:Heap,(K w.params).In base→base.Ns mainGlobals mg→BM mg base→bZ l.prog w (K w.params) mg base (CX w) k fa fd [x] (sp w))
    (hsp:∀ (w:World) (H:Hp) (a:Addr) (ns:List Int),ns.length≤n→Lk ts H→(∀ P∈ts,H P=some (.tbl #[]))→SqL (K w.params) H a (ns.map V.int)→sp w [.ref a] H (fun v _=>v=.bl true) fun _ _ _=>False)
    (hCX:∀ (w:World) (H:Hp) (s:Shared) (e:Value) (s':Shared),CX w [] H s (fun _ _ _=>False) e s'→False) :
    PySem.W.WalkO q loose XP YP l.row.toRowW d [] (fun f vs=>PySem.call f vs):=by
  refine Att.vB hn hdf fun w s₀ s₁ mg mb fa o pm cd doc a vs ns G Y ho hd hcd hmg hobj hints hlen hg=>?_
  have KX:=hY w _ Y
  obtain ⟨fd,hb,hF⟩:=F w mg fa _ KX G.T.g hmg
  refine Ay KX G.T.g G.T.b G.T.builtins G.T.nolimit hg hobj hints (Nat.le_trans hlen hn2) hr (hYt w _ Y) (fun P hP=>(hts w P hP).1) (fun P hP=>?_) G.T.bmain hF hb (fun H hO hT hS=>hsp w H a ns hlen hO hT hS) fun H e s'=>hCX w H s₁ e s'
  obtain ⟨c,hc⟩:=(hts w P hP).2
  obtain ⟨o,vs,file,tf,flags,tg,inF,text,tt,e1,e2,e3,e4,_⟩:=codeHd_of_K KX hc
  exact ⟨c,o,vs,e1,e2,e3,e4⟩
end L2
namespace L2
open PySem PySem.Spec PyProof.Rows
mutual
inductive Den (K:PySem.W.Frag) (H:Hp):V→PyData→Prop
  | non:Den K H .non .none
  | bl (b:Bool):Den K H (.bl b) (.bool b)
  | int (i:Int):Den K H (.int i) (.int i)
  | str (x:Str):Den K H (.str x) (.str x)
  | list {a:Addr} {xs:List V} {ds:List PyData}:SqL K H a xs→gR K H xs ds→Den K H (.ref a) (.list ds)
  | tuple {a:Addr} {xs:List V} {ds:List PyData}:SqT K H a xs→gR K H xs ds→Den K H (.ref a) (.tuple ds)
inductive gR (K:PySem.W.Frag) (H:Hp):List V→List PyData→Prop
  | nil:gR K H [] []
  | cons {v:V} {vs:List V} {d:PyData} {ds:List PyData}:Den K H v d→gR K H vs ds→gR K H (v :: vs) (d :: ds)
end
theorem gR.length {K:PySem.W.Frag} {H:Hp}:∀ {vs:List V} {ds:List PyData},gR K H vs ds→vs.length=ds.length
  | _,_,.nil=>rfl
  | _,_,.cons _ hs=>by rw [List.length_cons,List.length_cons,gR.length hs]
theorem gR.append {K:PySem.W.Frag} {H:Hp}:∀ {vs ws:List V} {ds es:List PyData},gR K H vs ds→gR K H ws es→gR K H (vs++ws) (ds++es)
  | _,_,_,_,.nil,h=>h
  | _,_,_,_,.cons h hs,h'=>.cons h (gR.append hs h')
theorem gR.get {K:PySem.W.Frag} {H:Hp}:∀ {vs:List V} {ds:List PyData} {i:Nat} {d:PyData},gR K H vs ds→ds[i]?=some d→∃ v,vs[i]?=some v∧Den K H v d
  | _,_,_,_,.nil,e=>by simp at e
  | _,_,0,_,.cons h _,e=>by simp at e;subst e;exact ⟨_,rfl,h⟩
  | _,_,i + 1,d,.cons _ hs,e=>by
    obtain ⟨v,h1,h2⟩:=gR.get (i:=i) (d:=d) hs (by simpa using e)
    exact ⟨v,by simpa using h1,h2⟩
theorem gR.get' {K:PySem.W.Frag} {H:Hp}:∀ {vs:List V} {ds:List PyData} {i:Nat} {v:V},gR K H vs ds→vs[i]?=some v→∃ d,ds[i]?=some d∧Den K H v d
  | _,_,_,_,.nil,e=>by simp at e
  | _,_,0,_,.cons h _,e=>by simp at e;subst e;exact ⟨_,rfl,h⟩
  | _,_,i + 1,v,.cons _ hs,e=>by
    obtain ⟨d,h1,h2⟩:=gR.get' (i:=i) (v:=v) hs (by simpa using e)
    exact ⟨d,by simpa using h1,h2⟩
theorem gR.ints {K:PySem.W.Frag} {H:Hp}:∀ (ns:List Int),gR K H (ns.map V.int) (ns.map PyData.int)
  | []=>.nil
  | n :: ns=>.cons (.int n) (gR.ints ns)
def pA (ns:List Int):PyData:=.list (ns.map PyData.int)
theorem Den.ints {K:PySem.W.Frag} {H:Hp} {a:Addr} {ns:List Int} (h:SqL K H a (ns.map V.int)):Den K H (.ref a) (pA ns):=.list h (gR.ints ns)
theorem gR.int_inv {K:PySem.W.Frag} {H:Hp}:∀ {vs:List V} {ns:List Int},gR K H vs (ns.map PyData.int)→vs=ns.map V.int
  | _,[],.nil=>rfl
  | _,n :: ns,.cons h hs=>by
    cases h
    rw [gR.int_inv hs];rfl
theorem Den.wL {K:PySem.W.Frag} {H:Hp} {v:V} {ns:List Int} (h:Den K H v (pA ns)):∃ a,v=.ref a∧SqL K H a (ns.map V.int):=by
  cases h with
  | list h hs=>exact ⟨_,rfl,by rw [← gR.int_inv hs];exact h⟩
section
variable {X:Cx} {pins:List (Addr × Obj)} {σ:St} {H:Hp} {s:Shared}
end
abbrev gk:=List (Addr × Pos × Str)
def TabsOk (T:gk) (H:Hp):Prop:=∀ t∈T,TabOk t.1 t.2.1 t.2.2 H
structure bF (T:gk) (H H':Hp):Prop where
  t0:TabsOk T H
  t1:TabsOk T H'
  keep:∀ b o,H b=some o→(∀ ps,o≠.tbl ps)→H' b=some o
  tb:∀ b ps,H b=some (.tbl ps)→∃ ps',H' b=some (.tbl ps')
theorem TabsOk.mono {T:gk} {H H':Hp} (t:TabsOk T H) (s:Same H H'):TabsOk T H':=fun q hq=>by
  rcases t q hq with e | ⟨c,e1,e2⟩
  · exact .inl (s _ _ e)
  · exact .inr ⟨c,s _ _ e1,s _ _ e2⟩
theorem bF.refl {T:gk} {H:Hp} (t:TabsOk T H):bF T H H:=⟨t,t,fun _ _ h _=>h,fun _ ps h=>⟨ps,h⟩⟩
theorem bF.of {T:gk} {H H':Hp} (t:TabsOk T H) (s:Same H H'):bF T H H':=⟨t,t.mono s,fun b o h _=>s b o h,fun b ps h=>⟨ps,s _ _ h⟩⟩
theorem bF.trans {T:gk} {H H1 H2:Hp} (a:bF T H H1) (b:bF T H1 H2):bF T H H2:=⟨a.t0,b.t1,fun c o h n=>b.keep c o (a.keep c o h n) n,fun c ps h=>by
  obtain ⟨ps',e⟩:=a.tb c ps h
  exact b.tb c ps' e⟩
theorem bF.free {T:gk} {H H':Hp} (a:bF T H H') {l:Addr} (h:H' l=none):H l=none:=by
  cases q:H l with
  | none=>rfl
  | some o =>
    have key:(∃ ps,o=.tbl ps)∨∀ ps,o≠.tbl ps:=by
      cases o with
      | tbl ps=>exact .inl ⟨ps,rfl⟩
      | _=>exact .inr fun _ z=>by cases z
    rcases key with ⟨ps,rfl⟩ | n
    · obtain ⟨ps',e⟩:=a.tb l ps q
      rw [h] at e;cases e
    · have:=a.keep l o q n
      rw [h] at this;cases this
theorem bF.seq {T:gk} {K:PySem.W.Frag} {H H':Hp} {a:Addr} {xs:List V} (e:bF T H H') (h:SqL K H a xs):SqL K H' a xs:=by
  rcases h with (h | ⟨o,h⟩) | h
  · exact .inl (.inl (e.keep _ _ h fun _ z=>by cases z))
  · exact .inl (.inr ⟨o,e.keep _ _ h fun _ z=>by cases z⟩)
  · exact .inr h
theorem bF.U0 {T:gk} {K:PySem.W.Frag} {H H':Hp} {a:Addr} {xs:List V} (e:bF T H H') (h:SqT K H a xs):SqT K H' a xs:=by
  rcases h with (h | ⟨o,h⟩) | h
  · exact .inl (.inl (e.keep _ _ h fun _ z=>by cases z))
  · exact .inl (.inr ⟨o,e.keep _ _ h fun _ z=>by cases z⟩)
  · exact .inr h
mutual
theorem Den.lQ {T:gk} {K:PySem.W.Frag} {H H':Hp} (e:bF T H H'):∀ {v:V} {d:PyData},Den K H v d→Den K H' v d
  | _,_,.non=>.non
  | _,_,.bl b=>.bl b
  | _,_,.int i=>.int i
  | _,_,.str x=>.str x
  | _,_,.list h hs=>.list (e.seq h) (gR.lQ e hs)
  | _,_,.tuple h hs=>.tuple (e.U0 h) (gR.lQ e hs)
theorem gR.lQ {T:gk} {K:PySem.W.Frag} {H H':Hp} (e:bF T H H'):∀ {vs:List V} {ds:List PyData},gR K H vs ds→gR K H' vs ds
  | _,_,.nil=>.nil
  | _,_,.cons h hs=>.cons (Den.lQ e h) (gR.lQ e hs)
end
def jF (T:gk) (H:Hp) (P:List V→Prop) (Q:VK):Prop:=∀ (l:Addr) (H':Hp) (xs:List V),bF T H H'→H l=none→H' l=some (.lst xs)→P xs→Q (.ref l) H'
def jr:HO→Bool
  | .tbl _=>false
  | .ext _=>false
  | _=>true
structure Ow (T:gk) (H0 H:Hp) (L:List (Addr × HO)):Prop where
  same:bF T H0 H
  new:∀ p∈L,H0 p.1=none
  at_:∀ p∈L,H p.1=some p.2
  pl:∀ p∈L,jr p.2=true
  nd:(L.map (·.1)).Nodup
section
variable {T:gk} {H0 H1 H H':Hp} {L L':List (Addr × HO)} {a l:Addr} {o o':HO} {xs:List V}
theorem Ow.refl (t:TabsOk T H):Ow T H H []:=⟨bF.refl t,(fun p hp=>nomatch hp),(fun p hp=>nomatch hp),(fun p hp=>nomatch hp),List.nodup_nil⟩
theorem Ow.get (O:Ow T H0 H L) (k:Nat) (h:L[k]?=some (a,o):=by rfl):H a=some o:=O.at_ _ (List.mem_of_getElem? h)
theorem Ow.fr (O:Ow T H0 H L) (k:Nat) (h:L[k]?=some (a,o):=by rfl):H0 a=none:=O.new _ (List.mem_of_getElem? h)
theorem Ow.sq {K:PySem.W.Frag} (O:Ow T H0 H L) (k:Nat) (h:L[k]?=some (a,.lst xs):=by rfl):SqL K H a xs:=SqL.of (O.get k h)
theorem Ow.sqT {K:PySem.W.Frag} (O:Ow T H0 H L) (k:Nat) (h:L[k]?=some (a,.tup xs):=by rfl):SqT K H a xs:=SqT.of (O.get k h)
theorem TabOk.upd {P:Addr} {pos:Pos} {q:Str} (t:TabOk P pos q H) (h:H a=none∨∃ o,H a=some o∧jr o=true):TabOk P pos q (L2.upd H a o'):=by
  have ne:∀ b u,H b=some u→jr u=false→b≠a:=fun b u e p z=>by
    subst z
    rcases h with h | ⟨o,h,ho⟩
    · rw [h] at e;cases e
    · rw [h] at e;cases e;rw [ho] at p;cases p
  rcases t with e | ⟨c,e1,e2⟩
  · exact .inl (by rw [aV (ne _ _ e rfl)];exact e)
  · exact .inr ⟨c,by rw [aV (ne _ _ e1 rfl)];exact e1,by rw [aV (ne _ _ e2 rfl)];exact e2⟩
theorem bF.upd (s:bF T H0 H) (h:H0 a=none) (h':H a=none∨∃ o,H a=some o∧jr o=true):bF T H0 (L2.upd H a o') :=
  ⟨s.t0,fun t ht=>(s.t1 t ht).upd h',fun b u e n=>by rw [aV (bD e h)];exact s.keep b u e n,fun b ps e=>by rw [aV (bD e h)];exact s.tb b ps e⟩
theorem Ow.mk' (O:Ow T H0 H L) (h:H a=none) (ho:jr o=true):Ow T H0 (upd H a o) ((a,o) :: L):=by
  have ne:∀ p∈L,p.1≠a:=fun p hp=>bD (O.at_ p hp) h
  have n0:H0 a=none:=O.same.free h
  refine ⟨O.same.upd n0 (.inl h),fun p hp=>?_,fun p hp=>?_,fun p hp=>?_,?_⟩
  · rcases List.mem_cons.mp hp with e | e
    · rw [e];exact n0
    · exact O.new p e
  · rcases List.mem_cons.mp hp with e | e
    · rw [e];exact bG
    · rw [aV (ne p e)];exact O.at_ p e
  · rcases List.mem_cons.mp hp with e | e
    · rw [e];exact ho
    · exact O.pl p e
  · rw [List.map_cons,List.nodup_cons]
    refine ⟨fun hm=>?_,O.nd⟩
    obtain ⟨p,hp,e⟩:=List.mem_map.mp hm
    exact ne p hp e
theorem zB:∀ {L:List (Addr × HO)} {k:Nat} {a:Addr} {o o':HO},L[k]?=some (a,o)→(L.set k (a,o')).map (·.1)=L.map (·.1)
  | [],_,_,_,_,h=>by simp at h
  | p :: L,0,a,o,o',h=>by
    have:p=(a,o):=by simpa using h
    rw [this];rfl
  | p :: L,k + 1,a,o,o',h=>by
    rw [List.set_cons_succ,List.map_cons,List.map_cons,zB (L:=L) (k:=k) (o:=o) (by simpa using h)]
theorem Ow.U6 (O:Ow T H0 H L) (k:Nat) (h:L[k]?=some (a,o)) (ho:jr o'=true):Ow T H0 (upd H a o') (L.set k (a,o')):=by
  have hm0:=List.mem_of_getElem? h
  have n0:H0 a=none:=O.new _ hm0
  have hk:k<L.length:=(List.getElem?_eq_some_iff.mp h).1
  refine ⟨O.same.upd n0 (.inr ⟨o,O.at_ _ hm0,O.pl _ hm0⟩),fun p hp=>?_,fun p hp=>?_,fun p hp=>?_,by rw [zB h];exact O.nd⟩
  · rcases List.mem_or_eq_of_mem_set hp with e | e
    · exact O.new p e
    · rw [e];exact n0
  · obtain ⟨j,hj,e⟩:=List.getElem_of_mem hp
    by_cases hjk:j=k
    · subst hjk
      rw [List.getElem_set_self] at e
      rw [← e];exact bG
    · rw [List.getElem_set_ne (Ne.symm hjk)] at e
      have hj':j<L.length:=by rw [List.length_set] at hj;exact hj
      have hm:p∈L:=by rw [← e];exact List.getElem_mem hj'
      rw [aV]
      · exact O.at_ p hm
      · intro z
        have e1:(L.map (·.1))[j]?=some p.1:=by rw [List.getElem?_map,List.getElem?_eq_getElem hj',e];rfl
        have e2:(L.map (·.1))[k]?=some a:=by rw [List.getElem?_map,h];rfl
        rw [z] at e1
        obtain ⟨a1,a2⟩:=List.getElem?_eq_some_iff.mp e1
        obtain ⟨b1,b2⟩:=List.getElem?_eq_some_iff.mp e2
        exact hjk ((List.getElem_inj O.nd).mp (a2.trans b2.symm))
  · rcases List.mem_or_eq_of_mem_set hp with e | e
    · exact O.pl p e
    · rw [e];exact ho
theorem zR {o:HO} (h:jr o=true):∀ ps,o≠.tbl ps:=fun ps z=>by rw [z] at h;cases h
theorem Ow.yt (O:Ow T H0 H L) (s:bF T H H'):Ow T H0 H' L:=⟨O.same.trans s,O.new,fun p hp=>s.keep _ _ (O.at_ p hp) (zR (O.pl p hp)),O.pl,O.nd⟩
theorem Ow.MJ (O:Ow T H0 H L) (s:bF T H H') (n:H l=none) (h:H' l=some o) (ho:jr o=true):Ow T H0 H' ((l,o) :: L):=by
  have O2:=O.yt s
  refine ⟨O2.same,fun p hp=>?_,fun p hp=>?_,fun p hp=>?_,?_⟩
  · rcases List.mem_cons.mp hp with e | e
    · rw [e];exact O.same.free n
    · exact O.new p e
  · rcases List.mem_cons.mp hp with e | e
    · rw [e];exact h
    · exact O2.at_ p e
  · rcases List.mem_cons.mp hp with e | e
    · rw [e];exact ho
    · exact O.pl p e
  · rw [List.map_cons,List.nodup_cons]
    refine ⟨fun hm=>?_,O.nd⟩
    obtain ⟨p,hp,e⟩:=List.mem_map.mp hm
    exact bD (O.at_ p hp) n e
theorem Ow.more (O:Ow T H0 H L) (s:Same H H') (n:H l=none) (h:H' l=some o) (ho:jr o=true):Ow T H0 H' ((l,o) :: L):=O.MJ (bF.of O.same.t1 s) n h ho
theorem Ow.sub (O:Ow T H0 H L) (h:L'.Sublist L):Ow T H0 H L':=⟨O.same,fun p hp=>O.new p (h.subset hp),fun p hp=>O.at_ p (h.subset hp),fun p hp=>O.pl p (h.subset hp),O.nd.sublist (h.map _)⟩
theorem Ow.perm (O:Ow T H0 H L) (h:L'.Perm L):Ow T H0 H L':=⟨O.same,fun p hp=>O.new p (h.mem_iff.mp hp),fun p hp=>O.at_ p (h.mem_iff.mp hp),fun p hp=>O.pl p (h.mem_iff.mp hp),(h.map _).nodup_iff.mpr O.nd⟩
theorem Ow.tail {p:Addr × HO} (O:Ow T H0 H (p :: L)):Ow T H0 H L:=O.sub (List.sublist_cons_self _ _)
theorem Ow.two {p q:Addr × HO} (O:Ow T H0 H (p :: q :: L)):Ow T H0 H (p :: L):=O.sub ((List.sublist_cons_self _ _).cons₂ _)
theorem Ow.base (O:Ow T H0 H L) (s:bF T H1 H0):Ow T H1 H L:=⟨s.trans O.same,fun p hp=>s.free (O.new p hp),O.at_,O.pl,O.nd⟩
theorem Ow.reb (O:Ow T H0 H L):∃ H1,Ow T H1 H L∧bF T H0 H1∧∀ b o,H b=some o→(∀ p∈L,p.1≠b)→H1 b=some o:=by
  have keep:∀ b u,H b=some u→(∀ p∈L,p.1≠b)→(fun b=>if b∈L.map (·.1) then none else H b:Hp) b=some u:=fun b u e h=>by
    show (if b∈L.map (·.1) then none else H b)=some u
    rw [if_neg fun hm=>?_];· exact e
    obtain ⟨p,hp,z⟩:=List.mem_map.mp hm
    exact h p hp z
  have back:∀ b u,(fun b=>if b∈L.map (·.1) then none else H b:Hp) b=some u→H b=some u:=fun b u e=>by
    dsimp only at e
    split at e
    · cases e
    · exact e
  have npl:∀ b u,H b=some u→jr u=false→∀ p∈L,p.1≠b:=fun b u e h p hp z=>by
    have:=O.at_ p hp
    rw [z,e] at this
    have e':u=p.2:=Option.some.inj this
    rw [e',O.pl p hp] at h;cases h
  have tk:TabsOk T (fun b=>if b∈L.map (·.1) then none else H b):=fun t ht=>by
    rcases O.same.t1 t ht with e | ⟨c,e1,e2⟩
    · exact .inl (keep _ _ e (npl _ _ e rfl))
    · exact .inr ⟨c,keep _ _ e1 (npl _ _ e1 rfl),keep _ _ e2 (npl _ _ e2 rfl)⟩
  refine ⟨fun b=>if b∈L.map (·.1) then none else H b,⟨⟨tk,O.same.t1,fun b u e _=>back b u e,fun b ps e=>⟨ps,back _ _ e⟩⟩,fun p hp=>?_,O.at_,O.pl,O.nd⟩,⟨O.same.t0,tk,fun b u e n=>?_,fun b ps e=>?_⟩,keep⟩
  · exact if_pos (List.mem_map.mpr ⟨p,hp,rfl⟩)
  · refine keep b u (O.same.keep b u e n) fun p hp z=>?_
    rw [← z,O.new p hp] at e;cases e
  · obtain ⟨ps',e'⟩:=O.same.tb b ps e
    exact ⟨ps',keep _ _ e' (npl _ _ e' rfl)⟩
theorem zV {i:Int} {j:Nat} {v:V} {Q:Hp→Prop} (O:Ow T H0 H L) (k:Nat) (h:L[k]?=some (l,.lst xs)) (hi:ixN xs.length i=some j) (q:∀ H',Ow T H0 H' (L.set k (l,.lst (xs.set j v)))→Q H'):Mg (.ref l) (.int i) v H Q :=
  ⟨l,xs,i,j,rfl,rfl,O.get k h,hi,q _ (O.U6 k h rfl)⟩
theorem Ow.ret {P:List V→Prop} {Q:VK} (O:Ow T H0 H L) (k:Nat) (h:L[k]?=some (l,.lst xs)) (q:jF T H0 P Q) (p:P xs):Q (.ref l) H:=q l H xs O.same (O.fr k h) (O.get k h) p
theorem Ow.got {P:List V→Prop} {Q:VK} (O:Ow T H0 H L) (k:∀ l H' xs,Ow T H0 H' ((l,.lst xs) :: L)→P xs→Q (.ref l) H'):Rj H P Q:=fun l H' xs s n h p=>k l H' xs (O.more s n h rfl) p
theorem Ow.pX {P:List V→Prop} {Q:VK} (O:Ow T H0 H L) (k:∀ l H' xs,Ow T H0 H' ((l,.lst xs) :: L)→P xs→Q (.ref l) H'):jF T H P Q:=fun l H' xs s n h p=>k l H' xs (O.MJ s n h rfl) p
end
end L2
namespace L2
open PySem PySem.W PySem.Spec PyProof.Rows
theorem szl {n:Nat} (h:Nat.ble n 100000=true:=by rfl):n≤sizeLine:=ig (Nat.le_of_ble_eq_true h)
theorem Bj (p:Int) (ns:List Int):inV (.int p) (ns.map V.int)=decide (p∈ns):=by
  unfold inV
  rw [List.any_map,Bool.eq_iff_iff]
  simp only [List.any_eq_true,decide_eq_true_eq]
  constructor
  · rintro ⟨x,hx,e⟩
    have e':(x == p)=true:=e
    have:x=p:=by simpa using e'
    rw [← this];exact hx
  · intro h
    exact ⟨p,h,show (p == p)=true by simp⟩
theorem tO (ns:List Int):(ns.map V.int).all qU=true:=by
  rw [List.all_map,List.all_eq_true];intro _ _;rfl
theorem Fun.okC {P:Program} {w:World} {K:PySem.W.Frag} {mg:Str→Option Value} {base:Heap} {x qual:Str} {st:Stmt} {f:Addr} {fd:FuncData} {N ps:List Str} {k:Nat} {sp:Sp} {c:Value} (F:Fun K x qual st f fd) (hc:fd.code=c) (S:aU N ps (ao st)) (len:∀ vs H Q E,sp vs H Q E→vs.length=ps.length)
    (hbody:∀ (A:Around) (outer:List Env) (s:Shared) (H:Hp) (vs:List V) (Q:VK) (E:XK),rE k (A.deeper (envOfC qual (ao st) s.heap.objs.size f c))→sp vs H Q E →
      ∃ t,PSs (Lb CX0 P w K mg base N qual (ao st) f c A outer s H E).nox (aB st) t∧t { nx:=fun _ H'=>Q .non H',rt:=Q } (start N vs) H):bZ P w K mg base CX0 (k + 1) f fd ps sp:=by
  obtain ⟨oc,od,kV,doc,pm,an,cdv,ct,osl,rfl,lk,hcd⟩:=F.ex
  have e:cdv=c:=hc
  subst e
  refine Q7 lk hcd S len fun A outer s H vs Q E hr hsp=>?_
  obtain ⟨t,h,q⟩:=hbody A outer s H vs Q E hr hsp
  exact ⟨t,h.nox,q⟩
theorem wI {k:Nat} {A XA:Around} {env:Env} (r:rE (k + 2) XA) (hh:A.handled=none) (hd:A.depth≤XA.depth + 2) (hu:A.units≤XA.units + 2):rE k (A.deeper env) :=
  ⟨hh,by have:=r.dp;show A.depth + 1 + 3 * k + 5<_;omega,by have:=r.un;show A.units + 3 + 16 * k + 200<_;omega⟩
theorem wJ {A:Around} (r:rE 1 A):A.depth + 4<recursionLimit:=by have:=r.dp;omega
theorem bF.tab {T:gk} {H H2:Hp} {P:Addr} {pos:Pos} {q:Str} (t:TabsOk T H) (hm:(P,pos,q)∈T) (nd:(T.map (·.1)).Nodup) (k1:∀ b o,H b=some o→b≠P→H2 b=some o) (t2:TabOk P pos q H2):bF T H H2:=by
  have hP:∃ ps,H P=some (.tbl ps):=by
    rcases t _ hm with e | ⟨c,e,_⟩
    · exact ⟨_,e⟩
    · exact ⟨_,e⟩
  obtain ⟨ps0,hP⟩:=hP
  have hP2:∃ ps,H2 P=some (.tbl ps):=by
    rcases t2 with e | ⟨c,e,_⟩
    · exact ⟨_,e⟩
    · exact ⟨_,e⟩
  refine ⟨t,fun u hu=>?_,fun b o e n=>k1 b o e fun z=>?_,fun b ps e=>?_⟩
  · by_cases hb:u.1=P
    · have:u=(P,pos,q):=by
        obtain ⟨i,hi,ei⟩:=List.getElem_of_mem hu
        obtain ⟨j,hj,ej⟩:=List.getElem_of_mem hm
        have e1:(T.map (·.1))[i]?=some P:=by rw [List.getElem?_map,List.getElem?_eq_getElem hi,ei,← hb];rfl
        have e2:(T.map (·.1))[j]?=some P:=by rw [List.getElem?_map,List.getElem?_eq_getElem hj,ej];rfl
        obtain ⟨a1,a2⟩:=List.getElem?_eq_some_iff.mp e1
        obtain ⟨b1,b2⟩:=List.getElem?_eq_some_iff.mp e2
        have hij:i=j:=(List.getElem_inj nd).mp (a2.trans b2.symm)
        subst hij
        rw [← ei,← ej]
      rw [this];exact t2
    · rcases t u hu with e | ⟨c,e1,e2⟩
      · exact .inl (k1 _ _ e hb)
      · exact .inr ⟨c,k1 _ _ e1 hb,k1 _ _ e2 fun z=>by rw [z,hP] at e2;cases e2⟩
  · subst z
    rw [hP] at e;cases e
    exact n ps0 rfl
  · by_cases hb:b=P
    · rw [hb];exact hP2
    · exact ⟨ps,k1 _ _ e hb⟩
section
variable {X:Cx}
theorem lA (hc:X.calm=true):mQ X (.builtin "sum") (fun xs H Q=>∃ (p:Addr) (ns:List Int),xs=[.ref p]∧SqL X.K H p (ns.map V.int)∧Q (.int ns.sum) H):=by
  intro pins s σ H xs us Q I r h
  obtain ⟨p,ns,rfl,hq,q⟩:=h
  obtain ⟨u,rfl,ru⟩:=vals1 r
  cases ru
  obtain ⟨its,r1,p1,hz⟩:=I.list hq
  have hi:IntsAre its ns:=intsAre_of r1
  obtain ⟨ys,hx⟩:=hi.allInts.items
  have hl':s.heap.IsList p (intItems ys):=hx ▸ p1.isList
  refine sum_intListG (I.ok.hd hc) hl' fun h' tk t' hk=>?_
  have e1:ns=ys.toList.map (·.1):=by
    rw [← nums_intItems,← hx]
    exact (show numsOf its.toArray.toList=ns from hi.numsOf).symm
  have e2:preSum (numAt ys) ys.size=ns.sum:=by
    rw [preSum_eq,List.take_of_length_le (by simp),e1]
  rw [e2]
  exact ⟨.int ns.sum,H,I.kept hk,⟨t',rfl⟩,q⟩
def Mh (K:PySem.W.Frag):V→List V→Hp→VK→Prop:=fun x vs H Q=>∃ (l:Addr) (ns:List Int) (k:Int),x=.ref l∧vs=[.int k]∧SqL K H l (ns.map V.int)∧k∈ns∧Q (.int (ns.idxOf k:Nat)) H
theorem DQ:MtR X "list.index" (Mh X.K):=by
  intro pins s σ H x vs v us Q I rx rv h
  obtain ⟨l,ns,k,rfl,rfl,hq,hk,q⟩:=h
  cases rx
  obtain ⟨u,rfl,t,rfl⟩:=vals1 rv
  obtain ⟨its,r1,p1,hz⟩:=I.list hq
  have hi:IntsAre its ns:=intsAre_of r1
  obtain ⟨⟨cls,dd,data,sl⟩,ho,hc,n,hd⟩:=id p1.isList
  simp only at hc hd
  subst hc hd
  have hlen:=hi.length
  have hj:ns.idxOf k<ns.length:=List.idxOf_lt_length_iff.mpr hk
  have hn:=oh
  rw [List.length_map] at hz
  refine call_meets PySem.F.slot_list_index ⟨_,ho,rfl⟩ PySem.F.entry_list_index (PySem.F.args_list_index_2 _ _)
    (SeqAt.list_indexAt l its.toArray n dd sl (.int k t) (isInt k) (ns.idxOf k) (by simpa [hlen] using hj) (by omega) ?_ ?_) ⟨ho,fun y hy=>(eq_isInt k t hi y (by simpa using hy)).at _ _,?_⟩
  · show isInt k its[ns.idxOf k]=true
    rw [isInt_at k hi _ (by omega) hj]
    simpa using List.getElem_idxOf hj
  · intro j hjs hlt
    show isInt k its[j]=false
    rw [isInt_at k hi j (by simpa using hjs) (by omega)]
    exact ne_of_lt_idxOf hlt _
  · exact ⟨.int (ns.idxOf k:Nat),H,I.tok _,⟨_,rfl⟩,q⟩
end
section
variable {T:gk} {H0 H:Hp} {L:List (Addr × HO)} {l:Addr} {xs:List V}
theorem Ow.mkE {a:Addr} {o:HO} {H':Hp} (O:Ow T H0 H L) (h:H a=none) (e:upd H a o=H') (ho:jr o=true):Ow T H0 H' ((a,o) :: L):=e ▸ O.mk' h ho
theorem Ow.uU {a:Addr} {o o':HO} {H':Hp} (O:Ow T H0 H L) (k:Nat) (h:L[k]?=some (a,o)) (e:upd H a o'=H') (ho:jr o'=true):Ow T H0 H' (L.set k (a,o')):=e ▸ O.U6 k h ho
end
end L2
namespace L2
open PySem PySem.W PySem.Spec PySem.Calls PyProof.Rows PySem.Builtin PySem.Builtin.ObjectAttr PySem.Builtin.Getset_descriptor
section
variable {prog:Program} {w:World} {A:Around} {E:Value→Shared→Prop} {K:Frag} {e D:Addr} {hh:Heap} {g:Array GenState} {d:Drawn} {t:Nat} {os:OsState}
end
end L2
namespace L2
open PySem PySem.W PySem.Spec PySem.Calls PyProof.Rows
section
variable {P:Program} {w:World} {B h0 h h2:Heap} {fs:List Addr} {H H':Hp}
end
section
variable {X:Cx} {pins:List (Addr × Obj)} {σ:St} {H:Hp} {s:Shared} {E:XK}
end
section
variable {P:Program} {w:World} {K:PySem.W.Frag} {mg:Str→Option Value} {base:Heap} {N:List Str} {qual:Str} {scope:Scope} {f:Addr} {cd:Value} {A:Around} {outer:List Env} {s:Shared} {H:Hp} {E:XK}
end
end L2
namespace L2
open PySem PySem.W PySem.Spec PySem.Calls PyProof.Rows
abbrev bmVE:List Value:=[.type "ValueError",.type "Exception",.type "BaseException",.type "object"]
section
variable {X:Cx} {E:XK} {x:Str} {C:Addr} {np cpos pos:Pos} {e0:Expr} {ta:TA}
end
end L2
namespace L2
open PySem PySem.W PySem.Spec PySem.Calls PyProof.Rows
abbrev TX:=Ends→(St→XK)→St→Hp→Prop
section
variable {X:Cx} {k:Nat} {f:Addr} {fd:FuncData} {ps:List Str} {sp:Sp} {dvs:List V} {ds:List Value} {x:Str} {p pos:Pos} {e:Expr} {es:List Expr} {t:TA}
end
section
variable {X:Cx} {pins:List (Addr × Obj)} {σ:St} {H:Hp} {s:Shared}
end
end L2
namespace L2
open PySem PySem.W PySem.Spec PySem.Calls PyProof.Rows
section
variable {X:Cx} {body suite:List Stmt} {b0:Stmt} {x n:Str} {Ba:Addr} {i:Nat} {tb:TX} {th:TS} {np hpos pos:Pos}
end
end L2
namespace L2
open PySem PySem.Spec PyProof.Rows
section
variable {X:Cx}
theorem xq {n:Nat} {acc:Array Value} (hacc:ItemsOf (fun i v=>∃ t,v=.int (0 + (i:Nat) * 1) t) acc n):Vals (gA n) acc.toList:=by
  have hsz:acc.toList.length=n:=by rw [Array.length_toList];exact hacc.1
  have key:∀ (k:Nat) (l:List Value),l.length=k→(∀ (j:Nat) (v:Value),l[j]?=some v→∃ t,v=.int ((n - k + j:Nat):Int) t)→k≤n→Vals ((List.range' (n - k) k).map fun (i:Nat)=>V.int (i:Int)) l:=by
    intro k
    induction k with
    | zero =>
      intro l hl _ _
      have:l=[]:=List.length_eq_zero_iff.mp hl
      subst this
      exact .nil
    | succ k ih =>
      intro l hl hP hk
      match l,hl with
      | v :: l,hl =>
        have hl':l.length=k:=by simpa using hl
        rw [List.range'_succ,List.map_cons]
        obtain ⟨t,ht⟩:=hP 0 v rfl
        refine .cons ⟨t,?_⟩ ?_
        · rw [ht];rfl
        · have e:n - (k + 1) + 1=n - k:=by omega
          rw [e]
          refine ih l hl' (fun j v' e'=>?_) (by omega)
          obtain ⟨t',ht'⟩:=hP (j + 1) v' (by simpa using e')
          exact ⟨t',by rw [ht'];congr 2;omega⟩
  have:=key n acc.toList hsz (fun j v e=>by
    obtain ⟨t,ht⟩:=hacc.2 j v (by simpa using e)
    refine ⟨t,?_⟩
    rw [ht]
    congr 1
    omega) (Nat.le_refl _)
  rw [Nat.sub_self,← List.range_eq_range'] at this
  exact this
def xJ (ta:TA):TE:=fun σ H Q=>ta σ H fun vs H1=>∃ n:Nat,vs=[.int (n:Int)]∧n<64∧∀ l,H1 l=none→Q (.ref l) (upd H1 l (.lst (gA n)))
theorem sU {e:Expr} {ta:TA} {p1 p2 p3 pos:Pos} (hcalm:X.calm=true) (hgs:Gl X "list") (hms:X.mg "list"=none) (hgr:Gl X "range") (hmr:X.mg "range"=none) (ha:PA X [e] ta) (hs:starEach [e] X.env=[(false,eval e X.env)]:=by rfl) :
    PE X (.Call (.Name "list" p1) [.Call (.Name "range" p2) [e] [] p3] [] pos) (xJ ta):=by
  intro pins s σ H Q I h
  refine Call_ (iJ I hgs hms boot_list (PyProof.Rows.callWith_type1 ?_ rfl rfl))
  show wpAny _ _ (spliced ((false,eval (.Call (.Name "range" p2) [e] [] p3) X.env) :: [])) _ _ s
  refine Calls.spliced_cons (Call_ (iJ I hgr hmr boot_range (PyProof.Rows.callWith_type1 (thn (ha p3 pins s σ H _ I h) fun us s1 ⟨vs,H1,I1,r1,q1⟩=>?_) hs rfl)))
  obtain ⟨n,e1,hn,q⟩:=q1
  subst e1
  obtain ⟨u,rfl,t,rfl⟩:=vals1 r1
  refine call_range_1 ?_
  refine Calls.spliced_nil ?_
  have hrs:Builtin.Range.rangeSize 0 (n:Int) 1=(n:Nat):=by rw [rangeSize_one];split <;> omega
  generalize hro:({ cls:=.type "range",data:=.fields #[.int 0 s1.toks,.int (n:Int) t,.int 1 (s1.toks + 1)] }:Obj)=ro
  have I2:Inv X pins σ H1 { s1 with heap:=s1.heap.push ro,toks:=s1.toks + 1 + 1 }:=I1.kept fun b o e=>Heap.get?_push_of_some _ e
  have hR:IsRange (s1.heap.push ro) s1.heap.objs.size 0 (n:Int) 1 s1.toks t (s1.toks + 1):=by
    rw [← hro];exact Heap.get?_push_size _ rfl
  refine call_list_range (I.ok.hd hcalm) hR (small_one (by omega) (by omega) (by omega) (by omega)) hrs (by omega) fun h' tk acc c hk hS hacc=>?_
  exact ⟨.ref (s1.heap.push ro).objs.size,_,I2.laid (t':=tk) hk (Nat.le_refl _) (show eG X.prog X.w _ h' _ (.lst (gA n)) from ⟨by unfold gA;rw [List.length_map,List.length_range,sizeLine_eq];omega,acc.toList,c,xq hacc,by simpa using hS⟩),rfl,q _ (I2.hok.fresh (Nat.le_refl _))⟩
theorem Inv.qp {pins:List (Addr × Obj)} {σ:St} {H:Hp} {s:Shared} {h':Heap} {t':Nat} {ch:List Addr} (I:Inv X pins σ H s) (k:∀ b o,b ∉ ch→s.heap.get? b=some o→h'.get? b=some o) (f:∀ b∈ch,uD X pins H b):Inv X pins σ H { s with heap:=h',toks:=t' }:=by
  have nit:∀ b u,H b=some u→b ∉ ch:=fun b u e z=>by rw [(f b z).1] at e;cases e
  refine I.step (g':=s.gens) (d':=s.drawn) (ch:=ch) (fun b hb=>?_) (fun b o _ _ hc e _=>k b o hc e) (fun b o _ _ hc e _=>⟨o.slots,k b o hc e⟩) (fun _ _ _ _ n=>n)
    (fun b o hc e=>⟨o,k b o hc e⟩) (fun _ _ e=>e) (fun _ _ _ e=>e) (fun b ps e=>⟨#[],by rw [e];simp⟩) (fun m hm=>?_) (fun b u e=>?_) I.bare
  · obtain ⟨f0,f1,f2,f3,f4,f5⟩:=f b hb
    exact ⟨f3,f1,f4,f5⟩
  · obtain ⟨o,es,ep,ho,r⟩:=hm
    exact ⟨o,es,ep,k _ o (fun z=>(f _ z).2.1 rfl) ho,r⟩
  · refine (I.hok b u e).stay (fun c v hc q=>k c v ?_ q) (fun _ q=>q) fun _ _ q=>q
    rcases hc with z | z
    · rw [z];exact nit b u e
    · exact nit c _ z
def Itz (K:PySem.W.Frag) (l1 l2:Addr) (xs ys:List V):It :=
  ⟨fun i H=>SqL K H l1 xs∧SqL K H l2 ys∧i<xs.length∧i<ys.length,fun i H x H'=>∃ T a b,x=.ref T∧H T=none∧xs[i]?=some a∧ys[i]?=some b∧H'=upd H T (.tup [a,b]),
   fun i H=>SqL K H l1 xs∧SqL K H l2 ys∧(xs.length≤i∨ys.length≤i)⟩
def Uw (z TI TO i1 i2 l1 l2:Addr) (i:Nat) (h:Heap):Prop:=IsZip h z TI TO .none∧IsPair h TI (.ref i1) (.ref i2)∧(∃ a b,IsPair h TO a b)∧h.IsListIter i1 l1 i∧h.IsListIter i2 l2 i
theorem CP {P:Program} {w:World} {K:PySem.W.Frag} {elts:List Expr} {kk:Nat} {tpos:Pos} {z TI TO i1 i2 l1 l2:Addr} {xs ys:List V} (D:ZipApart z TI TO i1 i2 l1 l2) :
    Turn P w K (.Tuple elts kk tpos) (Itz K l1 l2 xs ys) [z,TI,TO,i1,i2] z (Uw z TI TO i1 i2 l1 l2) where
  mem:=by simp
  obj:=fun i h st b hb=>by
    obtain ⟨hz,hTI,⟨a,b',hTO⟩,⟨o1,e1,c1,d1⟩,⟨o2,e2,c2,d2⟩⟩:=st
    simp at hb
    rcases hb with rfl | rfl | rfl | rfl | rfl
    · exact ⟨_,hz,fun v z=>by cases (show Data.fields _=Data.cell v from z)⟩
    · exact ⟨_,hTI,fun v z=>by cases (show Data.seq _ _=Data.cell v from z)⟩
    · exact ⟨_,hTO,fun v z=>by cases (show Data.seq _ _=Data.cell v from z)⟩
    · exact ⟨o1,e1,fun v z=>by rw [d1] at z;cases z⟩
    · exact ⟨o2,e2,fun v z=>by rw [d2] at z;cases z⟩
  keep:=fun i h h' st k=>by
    obtain ⟨hz,hTI,⟨a,b,hTO⟩,h1,h2⟩:=st
    exact ⟨k z (by simp) _ hz,k TI (by simp) _ hTI,⟨a,b,k TO (by simp) _ hTO⟩,h1.at fun o e=>k i1 (by simp) o e,h2.at fun o e=>k i2 (by simp) o e⟩
  item:=by
    intro X hP hw hK hc i pins s σ H E I hf st hg
    subst hP hw hK
    obtain ⟨hz,hTI,⟨p,p',hTO⟩,h1,h2⟩:=st
    obtain ⟨hq1,hq2,hi1,hi2⟩:=hg
    obtain ⟨its1,rv1,pl1,hz1⟩:=I.list hq1
    obtain ⟨its2,rv2,pl2,hz2⟩:=I.list hq2
    obtain ⟨u1,hu1,ru1⟩:=rv1.get (List.getElem?_eq_getElem hi1)
    obtain ⟨u2,hu2,ru2⟩:=rv2.get (List.getElem?_eq_getElem hi2)
    refine wpAny_pyNext_zip_item D hz hTI hTO h1 h2 pl1.isList pl2.isList (x:=u1) (y:=u2) (by simpa using hu1) (by simpa using hu2) fun h' a1 a2 a3 a4 a5 a6 hk=>?_
    have lt:∀ {c o},s.heap.get? c=some o→s.heap.objs.size≠c:=fun e=>Nat.ne_of_gt (Heap.lt_size e)
    refine ⟨.ref s.heap.objs.size,rfl,wpAny_letOwnedTupleGo_zip (s:={ s with heap:=h' }) a1 fun h'' hz' hs'=>?_⟩
    have Tz:s.heap.objs.size≠z:=lt hz
    have sub:∀ b∈([z,TO,i1,i2]:List Addr),b∈([z,TI,TO,i1,i2]:List Addr):=fun b hb=>by
      simp at hb ⊢
      rcases hb with rfl | rfl | rfl | rfl <;> simp
    have I1:Inv X pins σ H { s with heap:=h'' }:=I.qp (t':=s.toks) (ch:=[z,TO,i1,i2])
      (fun b o hb e=>hs'.extBut b o (fun x=>hb (by simp [x])) (hk b o (fun x=>hb (by simp [x])) (fun x=>hb (by simp [x])) (fun x=>hb (by simp [x])) (fun x=>hb (by simp [x])) e)) fun b hb=>hf b (sub b hb)
    have F:=I.yE (H':=H) (Nat.le_refl _) (I.hok.fresh (Nat.le_refl _))
    obtain ⟨F0,F1,F2,F3,F4,F5⟩:=F
    have hT:IsTup h'' s.heap.objs.size #[u1,u2]:=⟨_,hs'.extBut _ _ Tz a5,rfl,_,rfl⟩
    have I2:Inv X pins σ (upd H s.heap.objs.size (.tup [xs[i],ys[i]])) { s with heap:=h'' }:=I1.adopt F0 F1 I.sz F4 F5 (show eG X.prog X.w _ h'' _ (.tup [xs[i],ys[i]]) from ⟨by rw [sizeLine_eq];simp,[u1,u2],.cons ru1 (.cons ru2 .nil),hT⟩)
    refine ⟨.ref s.heap.objs.size,_,I2,rfl,⟨_,_,_,rfl,F0,List.getElem?_eq_getElem hi1,List.getElem?_eq_getElem hi2,rfl⟩,?_,fun b hb=>?_⟩
    · exact ⟨hz',hs'.extBut _ _ D.TIz (hk _ _ D.TIz D.TITO D.TIi1 D.TIi2 hTI),⟨_,_,hs'.extBut _ _ D.TOz a2⟩,a3.extBut hs'.extBut D.i1z,a4.extBut hs'.extBut D.i2z⟩
    · rw [aV]
      · exact (hf b hb).1
      · simp at hb
        obtain ⟨o1,e1,_⟩:=h1
        obtain ⟨o2,e2,_⟩:=h2
        rcases hb with rfl | rfl | rfl | rfl | rfl
        · exact (lt hz).symm
        · exact (lt hTI).symm
        · exact (lt hTO).symm
        · exact (lt e1).symm
        · exact (lt e2).symm
  done:=by
    intro X hP hw hK hc i pins s σ H E I hf st hg
    subst hP hw hK
    obtain ⟨hz,hTI,⟨p,p',hTO⟩,h1,h2⟩:=st
    obtain ⟨hq1,hq2,hend⟩:=hg
    obtain ⟨its1,rv1,pl1,hz1⟩:=I.list hq1
    obtain ⟨its2,rv2,pl2,hz2⟩:=I.list hq2
    have e1:=rv1.length
    have e2:=rv2.length
    have sub:∀ b∈([z,TO,i1,i2]:List Addr),b∈([z,TI,TO,i1,i2]:List Addr):=fun b hb=>by
      simp at hb ⊢
      rcases hb with rfl | rfl | rfl | rfl <;> simp
    refine wpAny_pyNext_zip_end (I.ok.hd hc) D hz hTI hTO h1 h2 pl1.isList pl2.isList ?_ fun h' hk=>⟨rfl,I.qp (t':=s.toks) (ch:=[z,TO,i1,i2])
      (fun b o hb e=>hk b o (fun x=>hb (by simp [x])) (fun x=>hb (by simp [x])) (fun x=>hb (by simp [x])) (fun x=>hb (by simp [x])) e) fun b hb=>hf b (sub b hb)⟩
    rcases hend with h | h
    · exact .inl (by simp;omega)
    · exact .inr (by simp;omega)
  self:=fun _ _ _ _ _ st h=>wpAny_pyIter_zip st.1 h
def iZip (K:PySem.W.Frag) (ta:TA):TI:=fun σ H R=>ta σ H fun vs H1=>∃ l1 l2 xs ys,vs=[.ref l1,.ref l2]∧SqL K H1 l1 xs∧SqL K H1 l2 ys∧R (Itz K l1 l2 xs ys) H1
theorem sO {elts:List Expr} {kk:Nat} {tpos:Pos} {a b:Expr} {ta:TA} {p pos:Pos} (hg:Gl X "zip") (hm:X.mg "zip"=none) (ha:PA X [a,b] ta) (hs:starEach [a,b] X.env=[(false,eval a X.env),(false,eval b X.env)]:=by rfl) (hs2:starEach [b] X.env=[(false,eval b X.env)]:=by rfl) :
    PI X (.Tuple elts kk tpos) (.Call (.Name "zip" p) [a,b] [] pos) (iZip X.K ta):=by
  intro pins s σ H R I h
  refine Call_ (iJ I hg hm boot_zip (PyProof.Rows.callWith_type1 (thn (ha pos pins s σ H _ I h) fun us s1 ⟨vs,H1,I1,r1,q1⟩=>?_) (by rw [hs,hs2]) (by rw [hs2];rfl)))
  obtain ⟨l1,l2,xs,ys,e,hq1,hq2,q⟩:=q1
  subst e
  cases r1 with
  | cons r rr =>
    cases rr with
    | cons r' rr =>
      cases rr
      cases r
      cases r'
      obtain ⟨its1,rv1,pl1,hz1⟩:=I1.list hq1
      obtain ⟨its2,rv2,pl2,hz2⟩:=I1.list hq2
      refine call_zip_2 pl1.isList pl2.isList fun h' a1 a2 a3 a4 a5 a6 hk=>?_
      refine wpAny_pyIter_zip a1 ?_
      have b1:l1<s1.heap.objs.size:=by obtain ⟨o,e,_⟩:=pl1.isList;exact Heap.lt_size e
      have b2:l2<s1.heap.objs.size:=by obtain ⟨o,e,_⟩:=pl2.isList;exact Heap.lt_size e
      refine ⟨_,_,_,_,H1,rfl,I1.kept (t':=s1.toks) hk,CP (l1:=l1) (l2:=l2) (xs:=xs) (ys:=ys) (TI:=s1.heap.objs.size + 2) (TO:=s1.heap.objs.size + 3) (i1:=s1.heap.objs.size) (i2:=s1.heap.objs.size + 1) ?_,⟨a1,a2,⟨_,_,a3⟩,a4,a5⟩,fun b hb=>?_,q⟩
      · constructor <;> exact fun z=>by simp only [Addr] at z b1 b2;omega
      · have hb':s1.heap.objs.size≤b:=by
          simp at hb
          rcases hb with rfl | rfl | rfl | rfl | rfl <;> simp
        exact I1.yE hb' (I1.hok.fresh hb')
theorem Bp {K:PySem.W.Frag} {l1 l2:Addr} {xs ys:List V} {g:TG} {tb:TS} {D:Ends} {σ:St} {H:Hp} (Pv:Nat→St→Hp→Prop) (hxy:xs.length=ys.length) (h0:Pv 0 σ H) (hl:∀ i σ H,i≤xs.length→Pv i σ H→SqL K H l1 xs∧SqL K H l2 ys)
    (hs:∀ i a b T σ H,xs[i]?=some a→ys[i]?=some b→Pv i σ H→H T=none→g (.ref T) σ (upd H T (.tup [a,b])) fun σ2 H2=>tb { D with nx:=Pv (i + 1),ct:=Pv (i + 1),bk:=D.nx } σ2 H2) (hd:∀ σ H,Pv xs.length σ H→D.nx σ H) :
    ∃ W:Nat→Nat→St→Hp→Prop,(∃ m,W 0 m σ H)∧∀ i m σ H,W i m σ H →
      ((Itz K l1 l2 xs ys).stop i H∧D.nx σ H)∨((Itz K l1 l2 xs ys).go i H∧∃ N:St→Hp→Prop,(∀ σ' H',N σ' H'→∃ m',m'<m∧W (i + 1) m' σ' H')∧∀ x H',(Itz K l1 l2 xs ys).yld i H x H'→g x σ H' fun σ2 H2=>tb { D with nx:=N,ct:=N,bk:=D.nx } σ2 H2):=by
  refine ⟨fun i m σ H=>m=xs.length - i∧i≤xs.length∧Pv i σ H,⟨xs.length,by simp,Nat.zero_le _,h0⟩,?_⟩
  rintro i m σ H ⟨rfl,hi,p⟩
  obtain ⟨q1,q2⟩:=hl i σ H hi p
  by_cases hlt:i<xs.length
  · refine .inr ⟨⟨q1,q2,hlt,by omega⟩,Pv (i + 1),fun σ' H' p'=>⟨xs.length - (i + 1),by omega,rfl,hlt,p'⟩,fun x H' y=>?_⟩
    obtain ⟨T,a,b,rfl,hT,ha,hb,rfl⟩:=y
    exact hs i a b T σ _ ha hb p hT
  · have e:i=xs.length:=by omega
    subst e
    exact .inl ⟨⟨q1,q2,.inl (Nat.le_refl _)⟩,hd σ H p⟩
end
end L2
namespace L2
open PySem PySem.Spec PyProof.Rows
section
variable {X:Cx}
def Ite (K:PySem.W.Frag) (l:Addr) (xs:List V):It :=
  ⟨fun i H=>SqL K H l xs∧i<xs.length,fun i H x H'=>∃ T a,x=.ref T∧H T=none∧xs[i]?=some a∧H'=upd H T (.tup [.int (i:Int),a]),fun i H=>SqL K H l xs∧xs.length≤i⟩
def Rm (e it l:Addr) (i:Nat) (h:Heap):Prop:=(∃ old,IsEnum h e it i old)∧h.IsListIter it l i
theorem yO {P:Program} {w:World} {K:PySem.W.Frag} {elts:List Expr} {kk:Nat} {tpos:Pos} {e it l:Addr} {xs:List V} (hei:e≠it) :
    Turn P w K (.Tuple elts kk tpos) (Ite K l xs) [e,it] e (Rm e it l) where
  mem:=by simp
  obj:=fun i h st b hb=>by
    obtain ⟨⟨old,he⟩,⟨o1,e1,c1,d1⟩⟩:=st
    simp at hb
    rcases hb with rfl | rfl
    · exact ⟨_,he,fun v z=>by cases (show Data.fields _=Data.cell v from z)⟩
    · exact ⟨o1,e1,fun v z=>by rw [d1] at z;cases z⟩
  keep:=fun i h h' st k=>by
    obtain ⟨⟨old,he⟩,h1⟩:=st
    exact ⟨⟨old,k e (by simp) _ he⟩,h1.at fun o x=>k it (by simp) o x⟩
  item:=by
    intro X hP hw hK hc i pins s σ H E I hf st hg
    subst hP hw hK
    obtain ⟨⟨old,he⟩,h1⟩:=st
    obtain ⟨hq1,hi1⟩:=hg
    obtain ⟨its1,rv1,pl1,hz1⟩:=I.list hq1
    obtain ⟨u1,hu1,ru1⟩:=rv1.get (List.getElem?_eq_getElem hi1)
    refine wpAny_pyNext_enum_item he h1 pl1.isList (x:=u1) (by simpa using hu1) hei fun h' a1 a2 a3 a4 hk=>?_
    have lt:∀ {c o},s.heap.get? c=some o→s.heap.objs.size≠c:=fun e=>Nat.ne_of_gt (Heap.lt_size e)
    refine ⟨.ref s.heap.objs.size,rfl,wpAny_letOwnedTupleGo_enum (s:={ s with heap:=h',toks:=s.toks + 1 }) a1 fun h'' hz' hs'=>?_⟩
    have Tz:s.heap.objs.size≠e:=lt he
    have I1:Inv X pins σ H { s with heap:=h'',toks:=s.toks + 1 }:=I.qp (ch:=[e,it])
      (fun b o hb x=>hs'.extBut b o (fun z=>hb (by simp [z])) (hk b o (fun z=>hb (by simp [z])) (fun z=>hb (by simp [z])) x)) fun b hb=>hf b hb
    obtain ⟨F0,F1,F2,F3,F4,F5⟩:=I.yE (H':=H) (Nat.le_refl _) (I.hok.fresh (Nat.le_refl _))
    have hT:IsTup h'' s.heap.objs.size #[.int (i:Int) s.toks,u1]:=⟨_,hs'.extBut _ _ Tz a3,rfl,_,rfl⟩
    have I2:Inv X pins σ (upd H s.heap.objs.size (.tup [.int (i:Int),xs[i]])) { s with heap:=h'',toks:=s.toks + 1 }:=I1.adopt F0 F1 I.sz F4 F5 (show eG X.prog X.w _ h'' _ (.tup [.int (i:Int),xs[i]]) from ⟨by rw [sizeLine_eq];simp,[.int (i:Int) s.toks,u1],.cons ⟨_,rfl⟩ (.cons ru1 .nil),hT⟩)
    refine ⟨.ref s.heap.objs.size,_,I2,rfl,⟨_,_,rfl,F0,List.getElem?_eq_getElem hi1,rfl⟩,?_,fun b hb=>?_⟩
    · exact ⟨⟨_,by simpa using hz'⟩,a2.extBut hs'.extBut hei.symm⟩
    · rw [aV]
      · exact (hf b hb).1
      · simp at hb
        obtain ⟨o1,e1,_⟩:=h1
        rcases hb with rfl | rfl
        · exact (lt he).symm
        · exact (lt e1).symm
  done:=by
    intro X hP hw hK hc i pins s σ H E I hf st hg
    subst hP hw hK
    obtain ⟨⟨old,he⟩,h1⟩:=st
    obtain ⟨hq1,hend⟩:=hg
    obtain ⟨its1,rv1,pl1,hz1⟩:=I.list hq1
    have e1:=rv1.length
    exact wpAny_pyNext_enum_end (I.ok.hd hc) he h1 pl1.isList (by simp;omega) fun h' hk=>⟨rfl,I.qp (t':=s.toks) (ch:=[e,it])
      (fun b o hb x=>hk b o (fun z=>hb (by simp [z])) x) fun b hb=>hf b hb⟩
  self:=fun _ _ _ _ _ st h=>by
    obtain ⟨⟨old,he⟩,_⟩:=st
    exact wpAny_pyIter_enum he h
def S5 (K:PySem.W.Frag) (ta:TA):TI:=fun σ H R=>ta σ H fun vs H1=>∃ l xs,vs=[.ref l]∧SqL K H1 l xs∧R (Ite K l xs) H1
theorem uW {elts:List Expr} {kk:Nat} {tpos:Pos} {a:Expr} {ta:TA} {p pos:Pos} (hg:Gl X "enumerate") (hm:X.mg "enumerate"=none) (ha:PA X [a] ta) (hs:starEach [a] X.env=[(false,eval a X.env)]:=by rfl) :
    PI X (.Tuple elts kk tpos) (.Call (.Name "enumerate" p) [a] [] pos) (S5 X.K ta):=by
  intro pins s σ H R I h
  refine Call_ (iJ I hg hm boot_enumerate (PyProof.Rows.callWith_type1 (thn (ha pos pins s σ H _ I h) fun us s1 ⟨vs,H1,I1,r1,q1⟩=>?_) hs rfl))
  obtain ⟨l1,xs,e,hq1,q⟩:=q1
  subst e
  obtain ⟨u,rfl,ru⟩:=vals1 r1
  cases ru
  obtain ⟨its1,rv1,pl1,hz1⟩:=I1.list hq1
  refine call_enumerate_list pl1.isList fun h' a1 a2 a3 hk=>?_
  refine wpAny_pyIter_enum a1 ?_
  refine ⟨_,_,_,_,H1,rfl,I1.kept (t':=s1.toks) hk,yO (l:=l1) (xs:=xs) (it:=s1.heap.objs.size) (Nat.succ_ne_self _),⟨⟨_,a1⟩,a2⟩,fun b hb=>?_,q⟩
  have hb':s1.heap.objs.size≤b:=by
    simp at hb
    rcases hb with rfl | rfl <;> simp
  exact I1.yE hb' (I1.hok.fresh hb')
theorem Eo {K:PySem.W.Frag} {l:Addr} {xs:List V} {g:TG} {tb:TS} {D:Ends} {σ:St} {H:Hp} (Pv:Nat→St→Hp→Prop) (h0:Pv 0 σ H) (hl:∀ i σ H,i≤xs.length→Pv i σ H→SqL K H l xs)
    (hs:∀ i a T σ H,xs[i]?=some a→Pv i σ H→H T=none→g (.ref T) σ (upd H T (.tup [.int (i:Int),a])) fun σ2 H2=>tb { D with nx:=Pv (i + 1),ct:=Pv (i + 1),bk:=D.nx } σ2 H2) (hd:∀ σ H,Pv xs.length σ H→D.nx σ H) :
    ∃ W:Nat→Nat→St→Hp→Prop,(∃ m,W 0 m σ H)∧∀ i m σ H,W i m σ H →
      ((Ite K l xs).stop i H∧D.nx σ H)∨((Ite K l xs).go i H∧∃ N:St→Hp→Prop,(∀ σ' H',N σ' H'→∃ m',m'<m∧W (i + 1) m' σ' H')∧∀ x H',(Ite K l xs).yld i H x H'→g x σ H' fun σ2 H2=>tb { D with nx:=N,ct:=N,bk:=D.nx } σ2 H2):=by
  refine ⟨fun i m σ H=>m=xs.length - i∧i≤xs.length∧Pv i σ H,⟨xs.length,by simp,Nat.zero_le _,h0⟩,?_⟩
  rintro i m σ H ⟨rfl,hi,p⟩
  have q1:=hl i σ H hi p
  by_cases hlt:i<xs.length
  · refine .inr ⟨⟨q1,hlt⟩,Pv (i + 1),fun σ' H' p'=>⟨xs.length - (i + 1),by omega,rfl,hlt,p'⟩,fun x H' y=>?_⟩
    obtain ⟨T,a,rfl,hT,ha,rfl⟩:=y
    exact hs i a T σ _ ha p hT
  · have e:i=xs.length:=by omega
    subst e
    exact .inl ⟨⟨q1,Nat.le_refl _⟩,hd σ H p⟩
theorem tU {K:PySem.W.Frag} {a:Addr} {xs:List V} {acc:Addr} {g:TG} {tc:TT} {te:TE} {τ:St} {H1:Hp} {Q:Hp→Prop} (Pv:Nat→St→Hp→Prop) (h0:Pv 0 τ (upd H1 acc (.lst []))) (hl:∀ i τ H,i≤xs.length→Pv i τ H→SqL K H a xs)
    (hs:∀ i x T τ H,xs[i]?=some x→Pv i τ H→H T=none→g (.ref T) τ (upd H T (.tup [.int (i:Int),x])) fun τ4 H4=>tc τ4 H4 fun b H5=>if b=true then te τ4 H5 fun y H6=>∃ ys,H6 acc=some (.lst ys)∧ys.length<sizeLine∧Pv (i + 1) τ4 (upd H6 acc (.lst (ys++[y]))) else Pv (i + 1) τ4 H5)
    (hd:∀ τ H,Pv xs.length τ H→Q H):rO (Ite K a xs) acc g tc te τ H1 Q:=by
  refine ⟨fun i m τ H=>m=xs.length - i∧i≤xs.length∧Pv i τ H,⟨xs.length,by simp,Nat.zero_le _,h0⟩,?_⟩
  rintro i m τ H ⟨rfl,hi,p⟩
  have q:=hl i τ H hi p
  by_cases hlt:i<xs.length
  · refine .inr ⟨⟨q,hlt⟩,Pv (i + 1),fun τ' H' p'=>⟨xs.length - (i + 1),by omega,rfl,hlt,p'⟩,fun x H' y=>?_⟩
    obtain ⟨T,b,rfl,hT,hb,rfl⟩:=y
    exact hs i b T τ _ hb p hT
  · have e:i=xs.length:=by omega
    subst e
    exact .inl ⟨⟨q,Nat.le_refl _⟩,hd τ H p⟩
theorem qZ {K:PySem.W.Frag} {l1 l2:Addr} {xs ys:List V} {acc:Addr} {g:TG} {tc:TT} {te:TE} {τ:St} {H1:Hp} {Q:Hp→Prop} (Pv:Nat→St→Hp→Prop) (hxy:xs.length=ys.length) (h0:Pv 0 τ (upd H1 acc (.lst []))) (hl:∀ i τ H,i≤xs.length→Pv i τ H→SqL K H l1 xs∧SqL K H l2 ys)
    (hs:∀ i x y T τ H,xs[i]?=some x→ys[i]?=some y→Pv i τ H→H T=none→g (.ref T) τ (upd H T (.tup [x,y])) fun τ4 H4=>tc τ4 H4 fun b H5=>if b=true then te τ4 H5 fun y H6=>∃ ys,H6 acc=some (.lst ys)∧ys.length<sizeLine∧Pv (i + 1) τ4 (upd H6 acc (.lst (ys++[y]))) else Pv (i + 1) τ4 H5)
    (hd:∀ τ H,Pv xs.length τ H→Q H):rO (Itz K l1 l2 xs ys) acc g tc te τ H1 Q:=by
  refine ⟨fun i m τ H=>m=xs.length - i∧i≤xs.length∧Pv i τ H,⟨xs.length,by simp,Nat.zero_le _,h0⟩,?_⟩
  rintro i m τ H ⟨rfl,hi,p⟩
  obtain ⟨q1,q2⟩:=hl i τ H hi p
  by_cases hlt:i<xs.length
  · refine .inr ⟨⟨q1,q2,hlt,by omega⟩,Pv (i + 1),fun τ' H' p'=>⟨xs.length - (i + 1),by omega,rfl,hlt,p'⟩,fun x H' y=>?_⟩
    obtain ⟨T,b,c,rfl,hT,hb,hc,rfl⟩:=y
    exact hs i b c T τ _ hb hc p hT
  · have e:i=xs.length:=by omega
    subst e
    exact .inl ⟨⟨q1,q2,.inl (Nat.le_refl _)⟩,hd τ H p⟩
theorem BZ (hc:X.calm=true):mQ X (.builtin "min") (fun xs H Q=>∃ (p:Addr) (ns:List Int),xs=[.ref p]∧SqL X.K H p (ns.map V.int)∧0<ns.length∧∀ M∈ns,(∀ a∈ns,M≤a)→Q (.int M) H):=by
  intro pins s σ H xs us Q I r h
  obtain ⟨p,ns,rfl,hq,hne,q⟩:=h
  obtain ⟨u,rfl,ru⟩:=vals1 r
  cases ru
  obtain ⟨its,r1,p1,hz⟩:=I.list hq
  have hi:IntsAre its ns:=intsAre_of r1
  obtain ⟨ys,hx⟩:=hi.allInts.items
  have hl':s.heap.IsList p (intItems ys):=hx ▸ p1.isList
  have hns:ns=ys.toList.map (·.1):=by
    rw [← nums_intItems,← hx]
    exact (show numsOf its.toArray.toList=ns from hi.numsOf).symm
  have hsz:0<ys.size:=by
    have z:=congrArg List.length hns
    simp at z
    omega
  refine min_intList (I.ok.hd hc) hl' hsz fun v h' tk hv hk=>?_
  obtain ⟨t,rfl⟩:=intItems_at hv
  obtain ⟨h1,h2⟩:=argBest_lt (numAt ys) (ys.size - 1)
  refine ⟨.int _,H,I.kept hk,⟨t,rfl⟩,q _ ?_ fun a ha=>?_⟩
  · rw [hns,numAt_eq];exact getD_mem (by rw [List.length_map,Array.length_toList];omega)
  · rw [hns] at ha
    obtain ⟨j,hj,rfl⟩:=mem_getD ha
    rw [List.length_map,Array.length_toList] at hj
    rw [← numAt_eq];exact h2 j (by omega)
end
end L2
namespace L2
open PySem PySem.Spec PyProof.Rows
structure Iv (P:Prop):Prop where
  t:True
  p:P
theorem ifT {c:Bool} {A B:Prop} (h:c=true) (a:A):if c=true then A else B:=by rw [if_pos h];exact a
theorem ifF {c:Bool} {A B:Prop} (h:c=false) (b:B):if c=true then A else B:=by rw [if_neg (by rw [h];exact Bool.false_ne_true)];exact b
theorem ifB {c:Bool} {A B:Prop} (h1:c=true→A) (h2:c=false→B):if c=true then A else B:=by
  cases c with
  | true=>exact ifT rfl (h1 rfl)
  | false=>exact ifF rfl (h2 rfl)
theorem K8 (x y:Int):decide (V.int x=V.int y)=decide (x=y):=by
  by_cases h:x=y
  · simp [h]
  · have:¬ V.int x=V.int y:=fun e=>h (by cases e;rfl)
    simp [h,this]
theorem bY {ns:List Int} {i:Int} (h0:0≤i) (h1:i<(ns.length:Int)):atI (ns.map V.int) i=some (V.int (ns.getD i.toNat 0)):=by
  refine kO h0 ?_
  rw [List.getD_eq_getElem?_getD,List.getElem?_eq_getElem (by omega)];rfl
theorem bI {ns:List Int} {k:Nat} (h:k<ns.length):ns[k]?=some (ns.getD k 0):=by
  rw [List.getD_eq_getElem?_getD,List.getElem?_eq_getElem h];rfl
theorem SM {n:Nat} {i:Int} (h0:0≤i) (h1:i<(n:Int)):ixN n i=some i.toNat:=by
  unfold ixN;rw [if_pos h0,if_pos h1]
theorem gR.mo {T:gk} {K:PySem.W.Frag} {H H':Hp} {vs:List V} {ds:List PyData} (h:gR K H vs ds) (e:bF T H H'):gR K H' vs ds:=gR.lQ e h
theorem SqL.mo {T:gk} {K:PySem.W.Frag} {H H':Hp} {a:Addr} {xs:List V} (h:SqL K H a xs) (e:bF T H H'):SqL K H' a xs:=e.seq h
theorem SqT.mo {T:gk} {K:PySem.W.Frag} {H H':Hp} {a:Addr} {xs:List V} (h:SqT K H a xs) (e:bF T H H'):SqT K H' a xs:=e.U0 h
theorem bF.mo {T:gk} {H H1 H2:Hp} (a:bF T H H1) (b:bF T H1 H2):bF T H H2:=a.trans b
section
variable {T:gk} {H0 H1 H H':Hp} {L L':List (Addr × HO)} {a l p:Addr} {o o':HO} {xs:List V} {K:PySem.W.Frag}
theorem Ow.frz (O:Ow T H0 H ((p,o) :: L)):∃ Hn,Ow T Hn H L∧bF T H0 Hn∧Hn p=some o:=by
  obtain ⟨Hn,On,sn,kn⟩:=O.tail.reb
  refine ⟨Hn,On,sn,kn p o (O.get 0) fun q hq z=>?_⟩
  have nd:=O.nd
  rw [List.map_cons,List.nodup_cons] at nd
  exact nd.1 (List.mem_map.mpr ⟨q,hq,z⟩)
theorem Ow.join (O:Ow T H0 H L) (O':Ow T H H' L'):Ow T H0 H' (L'++L):=by
  have keep:∀ q∈L,H' q.1=some q.2:=fun q hq=>(O.yt O'.same).at_ q hq
  refine ⟨O.same.trans O'.same,fun q hq=>?_,fun q hq=>?_,fun q hq=>?_,?_⟩
  · rcases List.mem_append.mp hq with h | h
    · exact O.same.free (O'.new q h)
    · exact O.new q h
  · rcases List.mem_append.mp hq with h | h
    · exact O'.at_ q h
    · exact keep q h
  · rcases List.mem_append.mp hq with h | h
    · exact O'.pl q h
    · exact O.pl q h
  · rw [List.map_append,List.nodup_append]
    refine ⟨O'.nd,O.nd,fun x hx y hy z=>?_⟩
    obtain ⟨q,hq,rfl⟩:=List.mem_map.mp hx
    obtain ⟨r,hr,rfl⟩:=List.mem_map.mp hy
    have:=O'.new q hq
    rw [z,O.at_ r hr] at this
    cases this
end
def dTup (ns:List Int):PyData:=.tuple (ns.map PyData.int)
def wR (rs:List (List Int)):PyData:=.list (rs.map pA)
section
variable {K:PySem.W.Frag} {H:Hp} {v:V} {a:Addr} {ns:List Int} {rs:List (List Int)}
theorem Den.tup (h:SqT K H a (ns.map V.int)):Den K H (.ref a) (dTup ns):=.tuple h (gR.ints ns)
theorem Den.J7 (h:Den K H v (dTup ns)):∃ a,v=.ref a∧SqT K H a (ns.map V.int):=by
  cases h with
  | tuple h hs=>exact ⟨_,rfl,by rw [← gR.int_inv hs];exact h⟩
theorem Den.fY {ds:List PyData} (h:Den K H v (.list ds)):∃ a xs,v=.ref a∧SqL K H a xs∧gR K H xs ds:=by
  cases h with
  | list h hs=>exact ⟨_,_,rfl,h,hs⟩
end
end L2
namespace L2
open PySem PySem.Spec PyProof.Rows
section
variable {A B:Prop}
theorem ifD {p:Prop} [Decidable p] (h1:p→A) (h2:¬ p→B):if decide p=true then A else B:=ifB (fun h=>h1 (of_decide_eq_true h)) fun h=>h2 (of_decide_eq_false h)
theorem ifI {x y:Int} (h1:x=y→A) (h2:¬ x=y→B):if decide (V.int x=V.int y)=true then A else B:=by rw [K8];exact ifD h1 h2
theorem ifN {c:Bool} (h:if c=true then B else A):if (!c)=true then A else B:=by cases c <;> simpa using h
end
structure Lic where
  day:Int
  start:Int
  back:Int
  most:Int
def La (l:Lic):PyData:=dTup [l.day,l.start,l.back,l.most]
def pq (ls:List Lic):PyData:=.list (ls.map La)
abbrev Cu (l:Lic):List V:=[.int l.day,.int l.start,.int l.back,.int l.most]
section
variable {K:PySem.W.Frag} {H:Hp} {v:V} {a:Addr} {ls:List Lic} {l:Lic} {xs:List V} {k:Nat}
theorem Den.lic (h:SqT K H a (Cu l)):Den K H (.ref a) (La l):=Den.tup (ns:=[l.day,l.start,l.back,l.most]) h
theorem Den.Ar (h:Den K H v (La l)):∃ a,v=.ref a∧SqT K H a (Cu l):=h.J7
theorem gR.wH (h:gR K H xs (ls.map La)) (hk:ls[k]?=some l):∃ a,xs[k]?=some (.ref a)∧SqT K H a (Cu l):=by
  obtain ⟨v,h1,h2⟩:=h.get (i:=k) (d:=La l) (by rw [List.getElem?_map,hk];rfl)
  obtain ⟨a,rfl,hT⟩:=h2.Ar
  exact ⟨a,h1,hT⟩
theorem gR.qQ (h:gR K H xs (ls.map La)) (hx:xs[k]?=some v):∃ a l,v=.ref a∧ls[k]?=some l∧SqT K H a (Cu l):=by
  obtain ⟨d,h1,h2⟩:=h.get' hx
  rw [List.getElem?_map] at h1
  cases e:ls[k]? with
  | none=>rw [e] at h1;cases h1
  | some l =>
    rw [e] at h1
    cases h1
    obtain ⟨a,rfl,hT⟩:=h2.Ar
    exact ⟨a,l,rfl,rfl,hT⟩
end
theorem Le (xs:List V) (i j:Nat):yr xs (some (i:Int)) (some (j:Int))=(xs.drop i).take (j - i):=by
  unfold yr
  rw [HT.qH,HT.qH]
  refine List.ext_getElem? fun k=>?_
  simp only [List.getElem?_take,List.getElem?_drop]
  by_cases h1:k<j - i
  · rw [if_pos h1]
    by_cases h2:i + k<xs.length
    · rw [if_pos (by omega),show min i xs.length=i by omega]
    · rw [List.getElem?_eq_none (l:=xs) (i:=i + k) (by omega)]
      split
      · exact List.getElem?_eq_none (by omega)
      · rfl
  · rw [if_neg h1]
    split
    · rename_i h3
      omega
    · rfl
theorem Rb (ns:List Int) (i j:Nat):yr (ns.map V.int) (some (i:Int)) (some (j:Int))=((ns.drop i).take (j - i)).map V.int:=by
  rw [Le,List.map_take,List.map_drop]
theorem Ez (ns:List Int) (i:Nat):yr (ns.map V.int) (some (i:Int)) none=(ns.drop i).map V.int:=by
  unfold yr
  rw [HT.qH,List.length_map,show HT.sIx ns.length ns.length none=ns.length from rfl,List.map_drop]
  by_cases h:i≤ns.length
  · rw [Nat.min_eq_left h,List.take_of_length_le (by rw [List.length_drop,List.length_map];omega)]
  · rw [Nat.min_eq_right (by omega),List.drop_of_length_le (l:=ns.map V.int) (i:=i) (by rw [List.length_map];omega),Nat.sub_self,List.take_zero]
end L2
namespace L2
open PySem PySem.Spec PyProof.Rows
theorem Ow.lend {T:gk} {H0 H:Hp} {A B:List (Addr × HO)} (O:Ow T H0 H (A++B)):∃ H1,Ow T H1 H A∧bF T H0 H1∧(∀ p∈B,H1 p.1=some p.2)∧∀ (H':Hp) (A':List (Addr × HO)),Ow T H1 H' A'→Ow T H0 H' (A'++B):=by
  have OA:Ow T H0 H A:=O.sub (List.sublist_append_left A B)
  have OB:Ow T H0 H B:=O.sub (List.sublist_append_right A B)
  obtain ⟨H1,O1,s1,k1⟩:=OA.reb
  have nd:=O.nd
  rw [List.map_append,List.nodup_append] at nd
  have hB:∀ p∈B,H1 p.1=some p.2:=fun p hp=>k1 p.1 p.2 (OB.at_ p hp) fun q hq z=>nd.2.2 q.1 (List.mem_map.mpr ⟨q,hq,rfl⟩) p.1 (List.mem_map.mpr ⟨p,hp,rfl⟩) z
  refine ⟨H1,O1,s1,hB,fun H' A' O'=>?_⟩
  refine ⟨s1.trans O'.same,fun p hp=>?_,fun p hp=>?_,fun p hp=>?_,?_⟩
  · rcases List.mem_append.mp hp with h | h
    · exact s1.free (O'.new p h)
    · exact OB.new p h
  · rcases List.mem_append.mp hp with h | h
    · exact O'.at_ p h
    · refine O'.same.keep _ _ (hB p h) fun ps z=>?_
      have:=OB.pl p h
      rw [z] at this;cases this
  · rcases List.mem_append.mp hp with h | h
    · exact O'.pl p h
    · exact OB.pl p h
  · rw [List.map_append,List.nodup_append]
    refine ⟨O'.nd,OB.nd,fun x hx y hy z=>?_⟩
    obtain ⟨q,hq,rfl⟩:=List.mem_map.mp hx
    obtain ⟨r,hr,rfl⟩:=List.mem_map.mp hy
    have e:=O'.new q hq
    rw [z,hB r hr] at e
    cases e
end L2
namespace L2
open PySem PySem.Spec PyProof.Rows
theorem nR {X:Cx} {K:PySem.W.Frag} {pos:Pos} {es:List Expr} {k:Nat} {t:TGs} {n:Nat} (hK:X.K=K) (hc:X.calm=true) (h:PGs X es t) (hn:(assignEach es X.env).length=n:=by rfl) (hst:(assignEach es X.env).findIdx? (·.1)=none:=by rfl):PG X (.Tuple es k pos) (Vi K n t):=hK ▸ nT hc h hn hst
end L2
namespace L2
open PySem PySem.Spec PyProof.Rows
theorem Rt {τ:St} {H:Hp} {A B:Hp→Prop} (h:A H):Ru τ H fun b H5=>if b=true then A H5 else B H5:=by
  show if true=true then A H else B H
  rw [if_pos rfl];exact h
end L2
namespace L2
open PySem PySem.Spec PyProof.Rows
theorem pZ {α:Type}:∀ {L:List α} {k:Nat} {p:α},L[k]?=some p→(p :: L.eraseIdx k).Perm L
  | [],_,_,h=>by simp at h
  | a :: L,0,p,h=>by
    have e:a=p:=by simpa using h
    subst e;exact List.Perm.refl _
  | a :: L,k + 1,p,h=>by
    have h':L[k]?=some p:=by simpa using h
    rw [List.eraseIdx_cons_succ]
    exact (List.Perm.swap a p _).trans ((pZ h').cons a)
section
variable {T:gk} {H0 H:Hp} {L:List (Addr × HO)} {p:Addr} {o:HO}
theorem Ow.pull (O:Ow T H0 H L) (k:Nat) (h:L[k]?=some (p,o):=by rfl):Ow T H0 H ((p,o) :: L.eraseIdx k):=O.perm (pZ h)
theorem Ow.Ur (O:Ow T H0 H L) (k:Nat) (h:L[k]?=some (p,o):=by rfl):∃ Hn,Ow T Hn H (L.eraseIdx k)∧bF T H0 Hn∧Hn p=some o:=(O.pull k h).frz
theorem Ow.del (O:Ow T H0 H L) (k:Nat):Ow T H0 H (L.eraseIdx k):=O.sub (List.eraseIdx_sublist L k)
end
theorem mZ (ns:List Int) (z:Int):ns.map V.int++[V.int z]=(ns++[z]).map V.int:=by rw [List.map_append];rfl
end L2
namespace L2
open PySem PySem.Spec PyProof.Rows
theorem gR.J5 {K:PySem.W.Frag} {H:Hp} {xs:List V} {ws:List (List Int)} {i:Nat} {x:V} (h:gR K H xs (ws.map pA)) (hx:xs[i]?=some x):∃ a w,x=.ref a∧ws[i]?=some w∧SqL K H a (w.map V.int):=by
  obtain ⟨d,h1,h2⟩:=h.get' hx
  rw [List.getElem?_map] at h1
  cases e:ws[i]? with
  | none=>rw [e] at h1;cases h1
  | some w =>
    rw [e] at h1
    cases h1
    obtain ⟨a,rfl,hL⟩:=h2.wL
    exact ⟨a,w,rfl,rfl,hL⟩
theorem gR.yK {K:PySem.W.Frag} {H:Hp} {xs:List V} {ws:List (List Int)} {i:Nat} {w:List Int} (h:gR K H xs (ws.map pA)) (hw:ws[i]?=some w):∃ a,xs[i]?=some (.ref a)∧SqL K H a (w.map V.int):=by
  obtain ⟨v,h1,h2⟩:=h.get (i:=i) (d:=pA w) (by rw [List.getElem?_map,hw];rfl)
  obtain ⟨a,rfl,hL⟩:=h2.wL
  exact ⟨a,h1,hL⟩
end L2
namespace L2
open PySem PySem.Spec PyProof.Rows
end L2
namespace L2
open PySem PySem.W PySem.Spec PyProof.Rows
section
variable {prog:Program} {w:World} {A:Around} {E:Value→Shared→Prop} {s:Shared}
end
section
variable {X:Cx}
end
theorem Ah (a v:Value):argsOk "min" ⟨[a],[(Str.ofString "default",v)]⟩:=by unfold argsOk;kernel_rfl
section
variable {prog:Program} {w:World} {A:Around} {R:Result→Shared→Prop} {I:Addr} {fp wr:List Addr} {n:Nat} {P:Nat→Value→Prop} {St:Nat→Heap→Prop}
theorem Ag (W:Walks prog w A.in1 I fp wr n P St) (bt:Nat→Nat→Bool) (hcmp:CmpOf prog w A.in1 .Lt P bt) (S:Addr) (hSf:S ∉ fp) (d:Value) :
    ∀ (k j:Nat) (s:Shared) (bs:Array Value) (c:Nat),n - j=k→j≤n→St j s.heap→((j=0∧bs=#[])∨∃ i vb,j=i + 1∧bs=#[vb,vb]∧P (argBest bt i) vb) →
    s.heap.get? S=some { cls:=.type "list",dict:=none,data:=.seq bs c,slots:=#[] } →
    (n=0→∀ h' tk,(∀ b o,b ∉ wr→b≠S→s.heap.get? b=some o→h'.get? b=some o)→R (.ok (.ret d)) { s with heap:=h',toks:=tk }) →
    (∀ v h' tk,0<n→P (argBest bt (n - 1)) v→(∀ b o,b ∉ wr→b≠S→s.heap.get? b=some o→h'.get? b=some o)→R (.ok (.ret v)) { s with heap:=h',toks:=tk }) →
    codeAny (model prog w) A (.builtin "min.loop" ⟨[.ref I,.none,.ref S],[(Str.ofString "default",d)]⟩) R s:=by
  have nSw:S ∉ wr:=fun h=>hSf (W.sub _ h)
  have nm:(toString "min"++toString ".loop":String)="min.loop":=by decide
  intro k
  induction k with
  | zero =>
    intro j s bs c hk hj hst hb hS hR0 hR1
    have ej:j=n:=Nat.le_antisymm hj (Nat.le_of_sub_eq_zero hk)
    subst ej
    refine codeAny_builtin F.entry_min_loop ?_;rw [Around.under_plainId F.plain_min_loop _]
    show wpAny _ A.in1 (seqItems? (.ref S) >>= _) _ _ s;refine wpAny_bind (wpAny_seqItems hS rfl ?_)
    rcases hb with ⟨e0,rfl⟩ | ⟨i,vb,ei,rfl,hP⟩
    · show wpAny _ A.in1 (tryCatch (pyNext (.ref I)) _ >>= _) _ _ s;refine wpAny_bind (wpAny_tryCatch (W.done s _ _ hst fun h' tk hk'=>?_))
      refine wpAny_bind (wpAny_rule ?_)
      exact wpAny_pure (hR0 e0 h' tk fun b o hbw _ e=>hk' b o hbw e)
    · show wpAny _ A.in1 (tryCatch (pyNext (.ref I)) _ >>= _) _ _ s;refine wpAny_bind (wpAny_tryCatch (W.done s _ _ hst fun h' tk hk'=>?_))
      have hS':=hk' S _ nSw hS
      show wpAny _ A.in1 (updateSeq S (fun _=>#[]) >>= _) _ _ _
      refine wpAny_bind (wpAny_updateSeq hS' rfl (wpAny_bind (wpAny_letGo (wpAny_pure ?_))))
      exact hR1 vb _ tk (by omega) (by rw [ei];exact hP) fun b o hbw hbS e=>(Heap.get?_update_other _ _ (Ne.symm hbS)).trans (hk' b o hbw e)
  | succ k ih =>
    intro j s bs c hk hj hst hb hS hR0 hR1
    have hlt:j<n:=Nat.sub_pos_iff_lt.mp (by rw [hk];exact Nat.succ_pos k)
    refine codeAny_builtin F.entry_min_loop ?_;rw [Around.under_plainId F.plain_min_loop _]
    show wpAny _ A.in1 (seqItems? (.ref S) >>= _) _ _ s;refine wpAny_bind (wpAny_seqItems hS rfl ?_)
    rcases hb with ⟨e0,rfl⟩ | ⟨i,vb,ei,rfl,hPb⟩
    · show wpAny _ A.in1 (tryCatch (pyNext (.ref I)) _ >>= _) _ _ s;refine wpAny_bind (wpAny_tryCatch (W.item j s _ _ hlt hst fun v h' tk hP hst' hk'=>?_))
      have hS':=hk' S _ nSw hS
      show wpAny _ A.in1 (updateSeq S (fun _=>#[v,v]) >>= _) _ _ _
      refine wpAny_bind (wpAny_updateSeq hS' rfl ?_)
      rw [nm]
      subst e0
      refine wpAny_pure ⟨plainId_quiet F.plain_min_loop _,ih 1 _ _ _ (by omega) (by omega) (W.frame _ _ _ hst' fun b hbf o e=>(Heap.get?_update_other _ _ (fun h:S=b=>hSf (by rw [h];exact hbf))).trans e) (.inr ⟨0,v,rfl,rfl,hP⟩) (Heap.get?_update_self _ hS' rfl) (fun z=>by omega) fun v' h'' tk'' hn' hP' hk''=>?_⟩
      exact hR1 v' h'' tk'' hn' hP' fun b o hbw hbS e=>hk'' b o hbw hbS ((Heap.get?_update_other _ _ (Ne.symm hbS)).trans (hk' b o hbw e))
    · subst ei
      show wpAny _ A.in1 (tryCatch (pyNext (.ref I)) _ >>= _) _ _ s;refine wpAny_bind (wpAny_tryCatch (W.item (i + 1) s _ _ hlt hst fun v h' tk hP hst' hk'=>?_))
      have hS':=hk' S _ nSw hS
      show wpAny _ A.in1 (tryCatch (holding [v,v] (richCompare .Lt v vb >>= _)) _ >>= _) _ _ _
      refine wpAny_bind (wpAny_tryCatch (wpAny_holding (wpAny_bind (hcmp (i + 1) (argBest bt i) v vb _ _ _ hP hPb (wpAny_bind (wpAny_holding (wpAny_truthy_bool (wpAny_bind (wpAny_letGo (wpAny_pure ?_))))))))))
      cases hb:bt (i + 1) (argBest bt i) with
      | true =>
        simp only [if_true]
        refine wpAny_bind (wpAny_updateSeq hS' rfl (wpAny_bind (wpAny_letGo ?_)));rw [nm]
        refine wpAny_pure ⟨plainId_quiet F.plain_min_loop _,ih (i + 1 + 1) _ _ _ (by omega) (by omega) (W.frame _ _ _ hst' fun b hbf o e=>(Heap.get?_update_other _ _ (fun h:S=b=>hSf (by rw [h];exact hbf))).trans e) (.inr ⟨i + 1,v,rfl,rfl,by simp only [argBest,hb,if_true];exact hP⟩) (Heap.get?_update_self _ hS' rfl) (fun z=>by omega) fun v' h'' tk'' hn' hP' hk''=>?_⟩
        exact hR1 v' h'' tk'' hn' hP' fun b o hbw hbS e=>hk'' b o hbw hbS ((Heap.get?_update_other _ _ (Ne.symm hbS)).trans (hk' b o hbw e))
      | false =>
        simp only [Bool.false_eq_true,if_false]
        refine wpAny_bind (wpAny_letGo ?_);rw [nm]
        refine wpAny_pure ⟨plainId_quiet F.plain_min_loop _,ih (i + 1 + 1) _ _ c (by omega) (by omega) hst' (.inr ⟨i + 1,vb,rfl,rfl,by simp only [argBest,hb,Bool.false_eq_true,if_false];exact hPb⟩) hS' (fun z=>by omega) fun v' h'' tk'' hn' hP' hk''=>?_⟩
        exact hR1 v' h'' tk'' hn' hP' fun b o hbw hbS e=>hk'' b o hbw hbS (hk' b o hbw e)
end
section
variable {X:Cx}
def RB (K:PySem.W.Frag) (d:Int) (te:TE):TE:=fun σ H Q=>te σ H fun x H1=>∃ (p:Addr) (ns:List Int),x=.ref p∧SqL K H1 p (ns.map V.int)∧(ns=[]→Q (.int d) H1)∧∀ M∈ns,(∀ a∈ns,M≤a)→Q (.int M) H1
theorem Ko {e:Expr} {te:TE} {d:Int} {j:Nat} {p1 cp kp pos:Pos} (hcalm:X.calm=true) (hg:Gl X "min") (hm:X.mg "min"=none) (he:PE X e te) (h1:backTo pos (starEach [e] X.env)=(false,eval e X.env) :: backTo pos (starEach [] X.env):=by rfl) (h2:(backTo pos (starEach [e] X.env)).any (·.1)=false:=by rfl) :
    PE X (.Call (.Name "min" p1) [e] [⟨some "default",.Constant (.int d) j cp,kp⟩] pos) (RB X.K d te):=by
  intro pins s σ H Q I h
  refine wpAny_Call_Name_kw (iJ I hg hm boot_min ?_)
  refine callWith_kw ?_ h1 h2
  rw [h1]
  refine Calls.spliced_cons (thn (he pins s σ H _ I h) fun u s1 ⟨x,H1,I1,rx,q1⟩=>?_)
  obtain ⟨p,ns,rfl,hq,q0,qm⟩:=q1
  cases rx
  refine Calls.spliced_nil ?_
  refine kws_cons (wpAny_Constant_int ?_)
  refine kws_nil ?_
  show wpAny _ _ (call (.builtin "min") [.ref p] [(Str.ofString "default",.int d _)]) _ _ _
  obtain ⟨its,r1,p1,hz⟩:=I1.list hq
  have hi:IntsAre its ns:=intsAre_of r1
  obtain ⟨ys,hx⟩:=hi.allInts.items
  have hl':s1.heap.IsList p (intItems ys):=hx ▸ p1.isList
  have hns:ns=ys.toList.map (·.1):=by
    rw [← nums_intItems,← hx]
    exact (show numsOf its.toArray.toList=ns from hi.numsOf).symm
  have nm:(toString "min"++toString ".loop":String)="min.loop":=by decide
  have hys:(intItems ys).size=ns.length:=by rw [hns];simp [intItems]
  refine kmb_tree F.kind_min F.plain_min F.entry_min (Ah _ _) ?_
  show wpAny _ _ (Builtin.Builtins.bindParams "min" ["key","default"] 0 ⟨[],[(Str.ofString "default",.int d s1.toks)]⟩ >>= _) _ _ _
  refine wpAny_bind (wpAny_of_eq (show Builtin.Builtins.bindParams "min" ["key","default"] 0 ⟨[],[(Str.ofString "default",.int d s1.toks)]⟩=pure [none,some (.int d s1.toks)] from rfl) ?_)
  refine wpAny_bind (wpAny_pure ?_)
  refine wpAny_bind (iter_intList (s:={ s1 with toks:=s1.toks + 1 }) hl' fun s₂ e st hfp hlI=>?_)
  subst e
  refine wpAny_bind (wpAny_newObj_type ?_);rw [nm]
  have kept:∀ {h':Heap} {g:Heap} {S:Addr},(∀ b o,s1.heap.get? b=some o→g.get? b=some o)→S=s1.heap.objs.size + 1→(∀ b o,b ∉ [s1.heap.objs.size]→b≠S→g.get? b=some o→h'.get? b=some o)→∀ b o,s1.heap.get? b=some o→h'.get? b=some o:=fun hg hS hk b o e=>by
    have lt:=Heap.lt_size e
    refine hk b o (fun z=>?_) (fun z=>?_) (hg b o e)
    · rw [List.mem_singleton.mp z] at lt;exact Nat.lt_irrefl _ lt
    · rw [z,hS] at lt;exact absurd lt (by simp only [Addr] at lt ⊢;omega)
  have hg2:∀ b o,s1.heap.get? b=some o→((s1.heap.push { cls:=.type "list_iterator",data:=.fields #[.ref p,.int 0 0] }).push { cls:=.type "list",data:=.seq #[] }).get? b=some o:=fun b o e=>Heap.get?_push_of_some _ (Heap.get?_push_of_some _ e)
  have hsz:(s1.heap.push { cls:=.type "list_iterator",data:=.fields #[.ref p,.int 0 0] }).objs.size=s1.heap.objs.size + 1:=Heap.size_push ..
  refine wpAny_pure ⟨plainId_quiet F.plain_min_loop _,Ag (Walks.list (A:=X.A.in1) (I.ok.hd hcalm) _ p hlI (intItems ys)) _ (CmpOf.ints_lt (numAt ys) (fun _ _=>intItems_at)) _ (fun hm=>Nat.lt_irrefl _ (hfp _ hm)) (.int d s1.toks) _ 0 _ #[] _ rfl (Nat.zero_le _)
    ⟨Heap.IsListIter.at st.1 fun o e=>Heap.get?_push_of_some _ e,st.2.push _⟩ (.inl ⟨rfl,rfl⟩) (Heap.get?_push_size _ rfl) (fun h0 h' tk hk=>?_) fun v h' tk hn hP hk=>?_⟩
  · have e0:ns=[]:=List.length_eq_zero_iff.mp (by rw [← hys];exact h0)
    exact ⟨.int d,H1,I1.kept (t':=tk) (kept hg2 hsz hk),⟨_,rfl⟩,q0 e0⟩
  · obtain ⟨t,rfl⟩:=intItems_at hP
    obtain ⟨h1,h2⟩:=argBest_lt (numAt ys) ((intItems ys).size - 1)
    have hyz:(intItems ys).size=ys.size:=by simp [intItems]
    refine ⟨.int _,H1,I1.kept (t':=tk) (kept hg2 hsz hk),⟨t,rfl⟩,qm _ ?_ fun a ha=>?_⟩
    · rw [hns,numAt_eq];exact getD_mem (by rw [List.length_map,Array.length_toList];omega)
    · rw [hns] at ha
      obtain ⟨j,hj,rfl⟩:=mem_getD ha
      rw [List.length_map,Array.length_toList] at hj
      rw [← numAt_eq];exact h2 j (by omega)
end
end L2
namespace L2
open PySem PySem.Spec PyProof.Rows
section
variable {κ:Type} [DecidableEq κ]
def uy (kvs:List (κ × V)) (k:κ):Option V:=(kvs.find? fun kv=>decide (kv.1=k)).map (·.2)
def putK (kvs:List (κ × V)) (k:κ) (v:V):List (κ × V) :=
  if (kvs.any fun kv=>decide (kv.1=k))=true then kvs.map (fun kv=>if kv.1=k then (kv.1,v) else kv) else kvs++[(k,v)]
theorem vK {p:κ × V} {r:List (κ × V)} {k:κ} (e:p.1=k):uy (p :: r) k=some p.2:=by simp [uy,List.find?_cons,e]
theorem vL {p:κ × V} {r:List (κ × V)} {k:κ} (e:¬ p.1=k):uy (p :: r) k=uy r k:=by simp [uy,List.find?_cons,e]
theorem vM (k:κ):∀ kvs:List (κ × V),(kvs.any fun kv=>decide (kv.1=k))=(uy kvs k).isSome
  | []=>rfl
  | p :: r=>by
    rw [List.any_cons]
    by_cases e:p.1=k
    · simp only [vK e,decide_eq_true e,Bool.true_or,Option.isSome_some]
    · rw [vL e,decide_eq_false e,Bool.false_or];exact vM k r
theorem vg (kvs:List (κ × V)) (k:κ) (v:V):(putK kvs k v).length≤kvs.length + 1:=by
  unfold putK
  split
  · rw [List.length_map];omega
  · rw [List.length_append,List.length_cons,List.length_nil];omega
theorem Dl {kvs:List (κ × V)} {k:κ} (v:V) (h:uy kvs k=none):putK kvs k v=kvs++[(k,v)]:=by
  unfold putK
  rw [vM,h]
  exact if_neg (by decide)
theorem KV.val {kvs:List (κ × V)} {vs:List (κ × Value)} (r:KV kvs vs) (k:κ):Rq (uy kvs k) (valueAt vs k):=by
  unfold KV at r
  induction r with
  | nil=>exact True.intro
  | @cons p q ps qs h t ih =>
    obtain ⟨h1,h2⟩:=h
    by_cases e:p.1=k
    · have e':q.1=k:=h1.symm.trans e
      have b:valueAt (q :: qs) k=some q.2:=by simp [valueAt,List.find?_cons,e']
      rw [vK e,b];exact h2
    · have e':¬ q.1=k:=fun z=>e (h1.trans z)
      have b:valueAt (q :: qs) k=valueAt qs k:=by simp [valueAt,List.find?_cons,e']
      rw [vL e,b];exact ih
theorem KV.any {kvs:List (κ × V)} {vs:List (κ × Value)} (r:KV kvs vs) (k:κ):(kvs.any fun kv=>decide (kv.1=k))=vs.any fun kv=>decide (kv.1=k):=by
  unfold KV at r
  induction r with
  | nil=>rfl
  | cons h t ih=>rw [List.any_cons,List.any_cons,ih,h.1]
theorem KV.repl {kvs:List (κ × V)} {vs:List (κ × Value)} (r:KV kvs vs) (k:κ) {y:V} {u:Value} (ry:RelV y u) :
    KV (kvs.map fun kv=>if kv.1=k then (kv.1,y) else kv) (vs.map fun kv=>if kv.1=k then (kv.1,u) else kv):=by
  unfold KV at r ⊢
  induction r with
  | nil=>exact .nil
  | @cons p q ps qs h t ih =>
    rw [List.map_cons,List.map_cons]
    refine .cons ?_ ih
    obtain ⟨h1,h2⟩:=h
    by_cases e:p.1=k
    · rw [if_pos e,if_pos (h1.symm.trans e)];exact ⟨h1,ry⟩
    · rw [if_neg e,if_neg (fun z=>e (h1.trans z))];exact ⟨h1,h2⟩
theorem KV.put {kvs:List (κ × V)} {vs:List (κ × Value)} (r:KV kvs vs) (k:κ) {y:V} {u:Value} (ry:RelV y u):KV (putK kvs k y) (stored vs k u):=by
  unfold putK stored
  rw [r.any k]
  by_cases e:(vs.any fun kv=>decide (kv.1=k))=true
  · rw [if_pos e,if_pos e];exact r.repl k ry
  · rw [if_neg e,if_neg e];exact Paired.snoc r ⟨rfl,ry⟩
theorem KV.length {kvs:List (κ × V)} {vs:List (κ × Value)} (r:KV kvs vs):kvs.length=vs.length:=Paired.length r
end
theorem M9 {P:Program} {w:World} {k:Key} {u:Value} (r:RelV (kV k) u):(dZ P w).is k u=true:=by
  cases k with
  | inl i=>obtain ⟨t,e⟩:=(show ∃ t,u=Value.int i t from r);subst e;exact u9 P w i t
  | inr x=>obtain ⟨t,e⟩:=(show ∃ t,u=Value.str x t from r);subst e;exact u6 P w x t
theorem tD {P:Program} {w:World}:∀ {ks:List Key} {us:List Value},Vals (ks.map kV) us→ItemsAre (dZ P w) ks us
  | [],_,r=>by rw [List.map_nil] at r;cases r;exact .nil
  | k :: ks,_,r=>by
    rw [List.map_cons] at r
    cases r with
    | cons h t=>exact .cons (M9 h) (tD t)
abbrev KT (H:Hp):List (List Key × V)→List (List Key × Addr × Value)→Prop:=Paired fun p q=>p.1=q.1∧H q.2.1=some (.tup (p.1.map kV))∧RelV p.2 q.2.2
section
variable {P:Program} {w:World} {H:Hp} {h:Heap} {a:Addr}
theorem Mf {u:HO} (ok:HOk P w H h) (e:Rd H a u):eG P w H h a u:=e.ok ok
theorem K7 {kvs:List (Key × V)} (ok:HOk P w H h) (e:Rd H a (.dK kvs)):kvs.length≤sizeLine∧(a == sysModules)=false∧∃ vs,KV kvs vs∧h.DictOf (dZ P w) a vs :=
  show eG P w H h a (.dK kvs) from Mf ok e
theorem Uu {kvs:List (Key × V)} (ok:HOk P w H h) (e:H a=some (.dK kvs)):kvs.length≤sizeLine∧(a == sysModules)=false∧∃ vs,KV kvs vs∧h.DictOf (dZ P w) a vs:=K7 ok (.inl e)
theorem M6 {ks:List Key} (ok:HOk P w H h) (e:H a=some (.tup (ks.map kV))):(tupleKind (dZ P w)).is h ks a:=by
  obtain ⟨_,its,r,o,h1,h2,n,h3⟩:=(show eG P w H h a (.tup (ks.map kV)) from ok a _ e)
  exact ⟨o,its.toArray,n,h1,h2,h3,by simpa using tD r⟩
theorem Ut {kvs:List (List Key × V)} (ok:HOk P w H h) (e:Rd H a (.dT kvs)):kvs.length≤sizeLine∧(a == sysModules)=false ∧
    ∃ xs,KT H kvs xs∧h.DictOfH (tupleKind (dZ P w)) a xs:=by
  obtain ⟨z,y,xs,r,o,es,ep,h1,h2,h3,h4,h5⟩:=(show eG P w H h a (.dT kvs) from Mf ok e)
  refine ⟨z,y,xs,r,o,es,ep,h1,h2,h3,h4,fun x hx=>?_,h5⟩
  have all:∀ {l:List (List Key × V)} {m:List (List Key × Addr × Value)},KT H l m→∀ x∈m,(tupleKind (dZ P w)).is h x.1 x.2.1:=by
    intro l m q
    induction q with
    | nil=>intro x hx;exact nomatch hx
    | @cons p q ps qs hq t ih =>
      intro x hx
      rcases List.mem_cons.mp hx with e | hx
      · subst e
        exact M6 ok (by rw [← hq.1];exact hq.2.1)
      · exact ih x hx
  exact all r x hx
end
section
variable {X:Cx} {pins:List (Addr × Obj)} {σ:St} {H:Hp} {s:Shared} {a:Addr} {y v:V} {u r:Value} {o:Option V} {A:Around} {E:Value→Shared→Prop}
theorem Inv.big (I:Inv X pins σ H s):sysModules<s.heap.objs.size:=by
  have h:mainGlobals<s.heap.objs.size:=(I.mod.glob.keeps I.bk).lt
  exact Nat.lt_trans (by decide) h
theorem K9 {h':Heap} {t':Nat} {ob:HO} (I:Inv X pins σ H s) (mu:Mut (H a)) (hs:Heap.SameBut a s.heap h') (he:∃ q,h'.get? a=some q) (new:eG X.prog X.w (upd H a ob) h' a ob) :
    Inv X pins σ (upd H a ob) { s with heap:=h',toks:=t' } :=
  I.write (x:=a) (e:=a) mu (.inl rfl) (fun b q hb z=>(hs.2 b hb).trans z) he new
theorem Ra {P:Program} {w:World} {H':Hp} {h':Heap} {kvs:List (Key × V)} {vs:List (Key × Value)} (z:kvs.length≤sizeLine) (hd:(a == sysModules)=false) (rel:KV kvs vs) (dd:h'.DictOf (dZ P w) a vs) :
    eG P w H' h' a (.dK kvs):=⟨z,hd,vs,rel,dd⟩
end
section
variable {X:Cx} {pins:List (Addr × Obj)} {σ:St} {H:Hp} {s:Shared} {a:Addr} {kvs:List (Key × V)} {k:Key} {u:Value} {A:Around} {E:Value→Shared→Prop}
end
section
variable {X:Cx} {o i e value:Expr} {pos pos' tpos:Pos} {td ty tv:TE}
end
theorem Es {P:Program} {w:World} {H:Hp} (h:Heap) (hb:sysModules<h.objs.size):eG P w H (h.push { cls:=.type "dict",data:=.dict #[] }) h.objs.size (.dK []) :=
  ⟨Nat.zero_le _,beq_eq_false_iff_ne.mpr (Ne.symm (Nat.ne_of_lt hb)),[],.nil,Heap.DictOf.new h⟩
def Lx:TE:=fun _ H Q=>∀ p,H p=none→Q (.ref p) (upd H p (.dK []))
section
variable {X:Cx} {pos:Pos}
theorem Dp:PE X (.Dict [] [] pos) Lx:=fun pins s σ H Q I h =>
  wpAny_Dict_empty ⟨.ref s.heap.objs.size,_,I.laid (a:=s.heap.objs.size) (o:=.dK []) (t':=s.toks) (fun _ _ q=>Heap.get?_push_of_some _ q) (Nat.le_refl _) (Es s.heap I.big),rfl,h _ (I.hok.fresh (Nat.le_refl _))⟩
end
abbrev VV:List (V × V)→List (Value × Value)→Prop:=Paired fun p q=>RelV p.1 q.1∧RelV p.2 q.2
structure M2 (X:Cx) (o:Expr) (m:Str) (apos:Pos) (e f:Expr) (cpos:Pos):Prop where
  base:attributeBase o m X.env (eval o X.env)=eval o X.env
  few:((backTo cpos (starEach [e,f] X.env)).all (fun x=>!x.1) && (backToKw cpos (keywordEach [] X.env)).all (fun x=>x.1.isSome)
    && decide (([e,f]:List Expr).length + ([]:List Keyword).length + (if ([]:List Keyword).isEmpty then 0 else 1)<30))=true
  line:(apos.endLine == cpos.line)=true
  trees:backTo cpos (starEach [e,f] X.env)=[(false,eval e X.env),(false,eval f X.env)]
def IsD (H:Hp) (a:Addr):Prop:=(∃ kvs,Rd H a (.dK kvs))∨∃ kvs,Rd H a (.dT kvs)
theorem Gi {X:Cx} {pins:List (Addr × Obj)} {σ:St} {H:Hp} {s:Shared} {a:Addr} (I:Inv X pins σ H s) (d:IsD H a) :
    s.TypeIs (.ref a) "dict"∧(∀ b,Value.ref a=.ref b→∃ ob,s.heap.get? b=some ob∧ob.dict=none)∧(a == sysModules)=false:=by
  rcases d with ⟨kvs,e⟩ | ⟨kvs,e⟩
  · obtain ⟨_,hd,vs,_,dd⟩:=K7 I.hok e
    refine ⟨dd.typeIs,fun b q=>?_,hd⟩
    cases q
    obtain ⟨ob,_,_,h1,h2,_⟩:=dd
    exact ⟨ob,h1,h2.2.1⟩
  · obtain ⟨_,hd,xs,_,dd⟩:=Ut I.hok e
    refine ⟨dd.typeIs,fun b q=>?_,hd⟩
    cases q
    obtain ⟨ob,_,_,h1,h2,_⟩:=dd
    exact ⟨ob,h1,h2.2.1⟩
section
variable {X:Cx} {pins:List (Addr × Obj)} {σ:St} {H:Hp} {s:Shared} {a:Addr} {y d:V} {u r:Value} {o:Option V} {A:Around} {E:Value→Shared→Prop}
end
section
variable {X:Cx} {o e f:Expr} {apos cpos:Pos} {td ty tx:TE}
end
end L2
namespace L2
open PySem PySem.W PySem.Spec PyProof.Rows
def RG (td ty tx:TE):TE:=fun σ H Q=>td σ H fun x H1=>∃ a,x=.ref a∧IsD H1 a∧ty σ H1 fun y H2=>tx σ H2 fun z H3=>∃ kvs k,H3 a=some (.dK kvs)∧y=kV k∧kvs.length<sizeLine ∧
  (∀ v,uy kvs k=some v→Q v H3)∧(uy kvs k=none→Q z (upd H3 a (.dK (putK kvs k z))))
section
variable {X:Cx} {o e f:Expr} {apos cpos:Pos} {td ty tx:TE}
theorem Kp (ho:PE X o td) (he:PE X e ty) (hf:PE X f tx) (m:M2 X o "setdefault" apos e f cpos):PE X (.Call (.Attribute o "setdefault" apos) [e,f] [] cpos) (RG td ty tx):=by
  intro pins s σ H Q I h
  refine wpAny_Call_method m.base m.few m.line PySem.F.plainAttrs_dict PySem.F.slot_dict_setdefault PySem.F.type_dict_setdefault (thn (ho pins s σ H _ I h) fun u s1 ⟨x,H1,I1,rx,a,ex,d,q1⟩=>?_)
  subst ex
  obtain rfl:u=Value.ref a:=rx
  obtain ⟨t1,t2,_⟩:=Gi I1 d
  refine ⟨t1,t2,?_⟩
  rw [m.trees]
  refine Calls.callWith_builtin rfl (Calls.evalArgs_plain (Calls.spliced_cons (thn (he pins s1 σ H1 _ I1 q1) fun iv s2 ⟨y,H2,I2,ry,q2⟩ =>
    Calls.spliced_cons (thn (hf pins s2 σ H2 _ I2 q2) fun fv s3 ⟨z,H3,I3,rz,kvs,k,ea,ey,hl,q3,q4⟩=>Calls.spliced_nil ?_))))
  subst ey
  obtain ⟨z1,hd,vs,rel,dd⟩:=Uu I3.hok ea
  have rv:=rel.val k
  have hlen:=rel.length
  refine call_meetsIn PySem.F.slot_dict_setdefault dd.typeIs PySem.F.entry_dict_setdefault (PySem.F.args_dict_setdefault_3 _ _ _) (kt_meets_setdefault (dZ X.prog X.w) a (M9 ry) hd fv) ⟨vs,dd,by omega,fun v hv=>?_,fun hn h' dd' hs=>?_⟩
  · rw [hv] at rv
    cases l:uy kvs k with
    | none=>rw [l] at rv;cases rv
    | some v'=>rw [l] at rv;exact ⟨v',H3,I3.tok _,rv,q3 v' l⟩
  · rw [hn] at rv
    cases l:uy kvs k with
    | some v'=>rw [l] at rv;cases rv
    | none=>exact ⟨z,_,K9 I3 (by rw [ea];trivial) hs (by obtain ⟨ob,es,ep,he',_⟩:=dd';exact ⟨ob,he'⟩) (Ra (Nat.le_trans (vg _ _ _) hl) hd (rel.put k rz) dd'),rz,q4 l⟩
end
def yU (td:TE):TE:=fun σ H Q=>td σ H fun x H1=>∃ a kvs,x=.ref a∧Rd H1 a (.dK kvs)∧∀ l,H1 l=none→Q (.ref l) (upd H1 l (.lst (kvs.map (·.2))))
theorem KV.vals {kvs:List (Key × V)} {vs:List (Key × Value)} (r:KV kvs vs):Vals (kvs.map (·.2)) (vs.map (·.2)):=by
  induction r with
  | nil=>exact .nil
  | cons h _ ih=>exact .cons h.2 ih
section
variable {X:Cx} {o:Expr} {td:TE} {p1 apos cpos pos:Pos}
theorem uX (hcalm:X.calm=true) (hgs:Gl X "list") (hms:X.mg "list"=none) (ho:PE X o td) (hb:attributeBase o "values" X.env (eval o X.env)=eval o X.env:=by rfl) (hline:(apos.endLine == cpos.line)=true:=by rfl) :
    PE X (.Call (.Name "list" p1) [.Call (.Attribute o "values" apos) [] [] cpos] [] pos) (yU td):=by
  intro pins s σ H Q I h
  refine Call_ (iJ I hgs hms boot_list (PyProof.Rows.callWith_type1 ?_ rfl rfl))
  show wpAny _ _ (spliced ((false,eval (.Call (.Attribute o "values" apos) [] [] cpos) X.env) :: [])) _ _ s
  refine Calls.spliced_cons (wpAny_Call_method hb rfl hline PySem.F.plainAttrs_dict PySem.F.slot_dict_values PySem.F.type_dict_values (thn (ho pins s σ H _ I h) fun u s1 ⟨x,H1,I1,rx,a,kvs,ex,d,q1⟩=>?_))
  subst ex
  obtain rfl:u=Value.ref a:=rx
  obtain ⟨t1,t2,_⟩:=Gi I1 (.inl ⟨kvs,d⟩)
  refine ⟨t1,t2,?_⟩
  obtain ⟨hz,hd,vs,rel,dd⟩:=K7 I1.hok d
  refine Calls.callWith_builtin rfl (PyProof.Rows.evalArgs_none ?_)
  refine call_meetsIn PySem.F.slot_dict_values dd.typeIs PySem.F.entry_dict_values (PySem.F.args_dict_values_1 _) (meets_dict_values (dZ X.prog X.w) a hd) ⟨⟨vs,dd⟩,?_⟩
  refine Calls.spliced_nil ?_
  obtain ⟨ep,da⟩:=dd.dictAt
  have hlen:=rel.length
  have hsz:(s1.heap.push { cls:=.type "dict_values",data:=.fields #[.ref a] }).objs.size=s1.heap.objs.size + 1:=Heap.size_push ..
  refine kdl_call (kdl_values (knd:=dZ X.prog X.w) (r:=s1.heap.objs.size) (d:=a) (kvs:=vs) (ep:=ep)) (I.ok.hd hcalm) ⟨⟨_,Heap.get?_push_size _ rfl,rfl,rfl⟩,da.push _⟩ (by omega) fun h' tk acc c hk hS hacc=>?_
  have e:acc.toList=vs.map (·.2):=kdl_vals_eq acc.toList (by rw [Array.length_toList];exact hacc.1) fun j v ej=>hacc.2 j v (by rw [← Array.getElem?_toList];exact ej)
  refine ⟨.ref (s1.heap.push { cls:=.type "dict_values",data:=.fields #[.ref a] }).objs.size,_,I1.laid (t':=tk) (fun b o e=>hk b o (Heap.get?_push_of_some _ e)) (by rw [hsz];exact Nat.le_succ _)
    (show eG X.prog X.w _ h' _ (.lst (kvs.map (·.2))) from ⟨by rw [List.length_map];exact hz,acc.toList,c,by rw [e];exact rel.vals,by simpa using hS⟩),rfl,q1 _ (I1.hok.fresh (by rw [hsz];exact Nat.le_succ _))⟩
end
end L2
namespace L2
open PySem PySem.W PySem.Spec PyProof.Rows
section
variable {prog:Program} {w:World} {A:Around} {E:Value→Shared→Prop} {s:Shared}
end
section
variable {X:Cx}
abbrev oLic (l:Lic):HO:=.tup (Cu l)
abbrev oInts (w:List Int):HO:=.lst (w.map V.int)
end
end L2
namespace L2
open PySem PySem.W PySem.Spec PyProof.Rows
section
variable {X:Cx}
end
end L2
namespace L2
open PySem PySem.W PySem.Spec PyProof.Rows
end L2
namespace HT
open PySem PyProof.Rows
end HT
namespace L2
open PySem PySem.W PySem.Spec PyProof.Rows
end L2
namespace L2
open PySem
def Ris (l:List Nat):Prop:=l.Pairwise (·<·)
theorem sG {l:List Nat} (R:Ris l) {i j a b:Nat} (h:i<j) (ha:l[i]?=some a) (hb:l[j]?=some b):a<b:=by
  obtain ⟨hi,rfl⟩:=List.getElem?_eq_some_iff.mp ha
  obtain ⟨hj,rfl⟩:=List.getElem?_eq_some_iff.mp hb
  exact List.pairwise_iff_getElem.mp R i j hi hj h
theorem Fg (xs:Array Nat) (j:Nat) (R:Ris xs.toList):∀ (fuel lo hi:Nat),hi≤xs.size→hi - lo≤fuel→lo≤hi →
    (∀ i a,i<lo→xs[i]?=some a→a<j)→(∀ i a,hi≤i→xs[i]?=some a→j≤a) →
    (∀ i a,i<SetTable.below.go xs j fuel lo hi→xs[i]?=some a→a<j)∧(∀ i a,SetTable.below.go xs j fuel lo hi≤i→xs[i]?=some a→j≤a)∧SetTable.below.go xs j fuel lo hi≤xs.size:=by
  intro fuel
  induction fuel with
  | zero =>
    intro lo hi h1 h2 h3 h4 h5
    unfold SetTable.below.go
    have:lo=hi:=by omega
    subst this
    exact ⟨h4,h5,h1⟩
  | succ f ih =>
    intro lo hi h1 h2 h3 h4 h5
    unfold SetTable.below.go
    by_cases hl:lo<hi
    · rw [if_pos hl]
      dsimp only
      have hm:(lo + hi) / 2<xs.size:=by omega
      have hx:xs[(lo + hi) / 2]?=some xs[(lo + hi) / 2]:=by simp [hm]
      have hg:xs.getD ((lo + hi) / 2) j=xs[(lo + hi) / 2]:=by rw [Array.getD_eq_getD_getElem?,hx];rfl
      rw [hg]
      split
      · rename_i hlt
        refine ih _ _ h1 (by omega) (by omega) (fun i a hi' ha=>?_) h5
        rcases Nat.lt_or_ge i ((lo + hi) / 2) with h | h
        · exact Nat.lt_trans (sG R h (by simpa using ha) (by simpa using hx)) hlt
        · have:i=(lo + hi) / 2:=by omega
          subst this
          rw [hx] at ha;cases ha;exact hlt
      · rename_i hge
        refine ih _ _ (by omega) (by omega) (by omega) h4 (fun i a hi' ha=>?_)
        rcases Nat.lt_or_ge ((lo + hi) / 2) i with h | h
        · have:=sG R h (by rw [Array.getElem?_toList];exact hx) (by rw [Array.getElem?_toList];exact ha)
          omega
        · have:i=(lo + hi) / 2:=by omega
          subst this
          rw [hx] at ha;cases ha;omega
    · rw [if_neg hl]
      have:lo=hi:=by omega
      subst this
      exact ⟨h4,h5,h1⟩
theorem qg (xs:Array Nat) (j:Nat) (R:Ris xs.toList) :
    (∀ i a,i<SetTable.below xs j→xs[i]?=some a→a<j)∧(∀ i a,SetTable.below xs j≤i→xs[i]?=some a→j≤a)∧SetTable.below xs j≤xs.size :=
  Fg xs j R xs.size 0 xs.size (Nat.le_refl _) (by omega) (Nat.zero_le _) (fun i a h=>absurd h (Nat.not_lt_zero _)) (fun i a h e=>by simp [Array.getElem?_eq_none h] at e)
theorem qe {xs:Array Nat} {j k:Nat} (R:Ris xs.toList) (hk:k≤xs.size) (h1:∀ i a,i<k→xs[i]?=some a→a<j) (h2:∀ i a,k≤i→xs[i]?=some a→j≤a):SetTable.below xs j=k:=by
  obtain ⟨b1,b2,b3⟩:=qg xs j R
  rcases Nat.lt_trichotomy (SetTable.below xs j) k with h | h | h
  · have hx:xs[SetTable.below xs j]?=some xs[SetTable.below xs j]:=by simp
    have:=h1 _ _ h hx
    have:=b2 _ _ (Nat.le_refl _) hx
    omega
  · exact h
  · have hk':k<xs.size:=by omega
    have hx:xs[k]?=some xs[k]:=by simp [hk']
    have:=b1 _ _ h hx
    have:=h2 _ _ (Nat.le_refl _) hx
    omega
theorem yu (xs:Array Nat) (R:Ris xs.toList):SetTable.below xs 0=0:=qe R (Nat.zero_le _) (fun i a h=>absurd h (Nat.not_lt_zero _)) fun i a _ _=>Nat.zero_le _
theorem yw {xs:Array Nat} {i a:Nat} (R:Ris xs.toList) (h:xs[i]?=some a):SetTable.below xs (a + 1)=i + 1:=by
  have hi:i<xs.size:=by
    rcases Nat.lt_or_ge i xs.size with h' | h'
    · exact h'
    · simp [Array.getElem?_eq_none h'] at h
  refine qe R hi (fun k b hk hb=>?_) fun k b hk hb=>?_
  · rcases Nat.lt_or_ge k i with h' | h'
    · have:=sG R h' (by simpa using hb) (by simpa using h);omega
    · have:k=i:=by omega
      subst this;rw [h] at hb;cases hb;omega
  · exact sG R (show i<k by omega) (by simpa using h) (by simpa using hb)
theorem Kg {xs:Array Nat} {j:Nat} (R:Ris xs.toList) (h:xs[SetTable.below xs j]?≠some j):Ris (SetTable.insertAt xs (SetTable.below xs j) j).toList:=by
  obtain ⟨b1,b2,b3⟩:=qg xs j R
  have e:(SetTable.insertAt xs (SetTable.below xs j) j).toList=xs.toList.take (SetTable.below xs j)++j :: xs.toList.drop (SetTable.below xs j):=by
    simp [SetTable.insertAt,List.extract_eq_take_drop,List.take_of_length_le]
  have ha:∀ a∈xs.toList.take (SetTable.below xs j),a<j:=by
    intro a ha
    obtain ⟨i,hi,rfl⟩:=List.getElem_of_mem ha
    rw [List.length_take] at hi
    refine b1 i _ (by omega) ?_
    rw [List.getElem_take,← Array.getElem?_toList]
    exact List.getElem?_eq_getElem _
  have hd:∀ a∈xs.toList.drop (SetTable.below xs j),j<a:=by
    intro a ha'
    obtain ⟨i,hi,rfl⟩:=List.getElem_of_mem ha'
    rw [List.length_drop] at hi
    have hx:xs[SetTable.below xs j + i]?=some (xs.toList.drop (SetTable.below xs j))[i]:=by
      rw [List.getElem_drop,← Array.getElem?_toList]
      exact List.getElem?_eq_getElem _
    have h2:=b2 _ _ (Nat.le_add_right _ i) hx
    rcases Nat.lt_or_ge j (xs.toList.drop (SetTable.below xs j))[i] with h' | h'
    · exact h'
    · exfalso
      have ej:(xs.toList.drop (SetTable.below xs j))[i]=j:=by omega
      rw [ej] at hx
      cases i with
      | zero=>exact h hx
      | succ i =>
        have hlt:SetTable.below xs j<xs.size:=by simp at hi;omega
        have hz:xs[SetTable.below xs j]?=some xs[SetTable.below xs j]:=by simp
        have h3:=b2 _ _ (Nat.le_refl _) hz
        have h4:=sG R (show SetTable.below xs j<SetTable.below xs j + (i + 1) by omega) (by rw [Array.getElem?_toList];exact hz) (by rw [Array.getElem?_toList];exact hx)
        omega
  rw [e]
  refine List.pairwise_append.mpr ⟨R.sublist (List.take_sublist _ _),List.pairwise_cons.mpr ⟨hd,R.sublist (List.drop_sublist _ _)⟩,fun a h1 b h2=>?_⟩
  rcases List.mem_cons.mp h2 with rfl | h2
  · exact ha a h1
  · exact Nat.lt_trans (ha a h1) (hd b h2)
structure TOk (ld:Bool) (t:SetTable):Prop where
  led:t.led=ld
  dum:t.dummies=#[]
  ris:Ris t.place.toList
theorem TOk.fresh (ld:Bool):TOk ld (.fresh 0 0 ld):=⟨rfl,rfl,List.Pairwise.nil⟩
theorem TOk.standIn {ld:Bool} {t:SetTable} (T:TOk ld t) (n:Nat):TOk ld (t.standIn n) :=
  ⟨T.led,rfl,by show Ris (Array.range n).toList;rw [Array.toList_range];exact List.pairwise_lt_range⟩
theorem TOk.orStandIn {ld:Bool} {t:SetTable} (T:TOk ld t) (n:Nat):TOk ld (t.orStandIn n):=by
  unfold SetTable.orStandIn;split
  · exact T
  · exact T.standIn n
theorem pN {t:SetTable} {j:Nat} (hd:t.dummies=#[]):t.slot j≠.dummy∧(t.slot j=.empty→t.place[SetTable.below t.place j]?≠some j):=by
  unfold SetTable.slot SetTable.has
  rw [hd]
  dsimp only
  split
  · exact ⟨by simp,by simp⟩
  · rename_i hn
    exact ⟨by simp,fun _ e=>hn (by simp [e])⟩
theorem Dn {t:SetTable} (hd:t.dummies=#[]) (h:Int):∀ (fuel:Nat) (p:SetTable.Probe) (j:Nat) (d:Option Nat),p.dummy=none→SetTable.probe.go t (fun _=>h + 1) h fuel p=some (.empty j d)→t.slot j=.empty∧d=none:=by
  intro fuel
  induction fuel with
  | zero=>intro p j d _ e;simp [SetTable.probe.go] at e
  | succ f ih =>
    intro p j d hp e
    unfold SetTable.probe.go at e
    cases hs:t.slot p.j with
    | empty=>rw [hs] at e;simp at e;obtain ⟨rfl,rfl⟩:=e;exact ⟨hs,hp⟩
    | dummy=>exact absurd hs (pN hd).1
    | live i =>
      rw [hs] at e
      have hne:(h + 1 == h)=false:=by simp;omega
      simp only [hne,Bool.false_eq_true,if_false] at e
      refine ih _ j d ?_ e
      unfold SetTable.advance
      split <;> exact hp
theorem TOk.put {ld:Bool} {t:SetTable} (T:TOk ld t) {j:Nat} (h:t.slot j=.empty):TOk ld (t.put j).1:=by
  refine ⟨T.led,?_,Kg T.ris ((pN T.dum).2 h)⟩
  show (if SetTable.has t.dummies j then SetTable.eraseAt t.dummies (SetTable.below t.dummies j) else t.dummies)=#[]
  rw [T.dum];simp [SetTable.has]
theorem TOk.layNew {ld:Bool} {t:SetTable} (T:TOk ld t) (es:Array (Int × Value)) (h:Int) (x:Value):TOk ld (PySem.layNew t es h x).2.1:=by
  unfold PySem.layNew
  split
  · rename_i sl wd hf
    unfold SetTable.freeSlot SetTable.probe at hf
    split at hf
    · rename_i j d hg
      obtain ⟨h1,rfl⟩:=Dn T.dum h _ _ _ _ rfl hg
      simp at hf
      obtain ⟨rfl,rfl⟩:=hf
      exact (T.put h1).orStandIn _
    · cases hf
  · exact T.standIn _
theorem TOk.R8 {ld:Bool} {t:SetTable} (T:TOk ld t) (es:Array (Int × Value)) (k:Nat):TOk ld (relayAll t es k).2.1:=by
  unfold relayAll
  split
  · rename_i t' od hr
    dsimp only
    split
    · unfold SetTable.relaid SetTable.laid at hr
      cases hc:SetTable.layClean (SetTable.sizeAbove k - 1) (es.map (·.1)) with
      | none=>rw [hc] at hr;simp at hr
      | some ow =>
        rw [hc] at hr
        simp at hr
        obtain ⟨rfl,rfl⟩:=hr
        refine ⟨T.led,rfl,?_⟩
        show List.Pairwise _ _
        simp only [List.map_filterMap]
        refine List.Pairwise.filterMap _ (R:=(·<·)) (fun a a' hlt b hb b' hb'=>?_) List.pairwise_lt_range
        simp at hb hb'
        obtain ⟨_,_,rfl⟩:=hb
        obtain ⟨_,_,rfl⟩:=hb'
        exact hlt
    · exact T.standIn _
  · exact T.standIn _
theorem oM {α:Type} {l:List α} {i:Nat} (h:i<l.length):([l[i]]++l.eraseIdx i).Perm l:=by
  rw [List.eraseIdx_eq_take_drop_succ]
  conv=>rhs;rw [← List.take_append_drop i l,List.drop_eq_getElem_cons h]
  show (l[i] :: (List.take i l++List.drop (i + 1) l)).Perm _
  exact List.perm_middle.symm
theorem Km {α:Type} (f:Nat→Nat):∀ (n k:Nat) (l:List α) (out:Array α),l.length=n→(pickOrder.go f n k l out).toList.Perm (out.toList++l):=by
  intro n
  induction n with
  | zero=>intro k l out hl;have:l=[]:=List.length_eq_zero_iff.mp hl;subst this;unfold pickOrder.go;simp
  | succ n ih =>
    intro k l out hl
    unfold pickOrder.go
    have hi:f k % l.length<l.length:=Nat.mod_lt _ (by omega)
    rw [List.getElem?_eq_getElem hi]
    dsimp only
    refine (ih _ _ _ (by rw [List.length_eraseIdx_of_lt hi];omega)).trans ?_
    rw [Array.toList_push,List.append_assoc]
    refine List.Perm.append_left _ ?_
    exact oM hi
theorem zT {α:Type} (f:Nat→Nat) (xs:Array α):(pickOrder f xs).toList.Perm xs.toList:=by
  have:=Km f xs.size 0 xs.toList #[] (by simp)
  rw [show (#[]:Array α).toList++xs.toList=xs.toList by simp] at this
  exact this
end L2
namespace L2
open PySem
abbrev Ro (w:World):Bool:=!w.params.followText "set-order"
structure rG (w:World) (h:Heap) (a:Addr) (es:Array (Int × Value)) (ep:Nat) (t:SetTable):Prop where
  ob:∃ o,h.get? a=some o∧o.cls=.type "set"∧o.data=.set es ep t
  fit:t.place.size=es.size∧t.fill≤t.mask
  tab:TOk (Ro w) t
theorem rG.at {w:World} {h h':Heap} {a:Addr} {es:Array (Int × Value)} {ep:Nat} {t:SetTable} (S:rG w h a es ep t) (k:∀ o,h.get? a=some o→h'.get? a=some o):rG w h' a es ep t :=
  ⟨let ⟨o,x,r⟩:=S.ob;⟨o,k o x,r⟩,S.fit,S.tab⟩
def iU (h:Heap) (I a:Addr) (fst:Value) (i n ep:Nat):Prop :=
  ∃ o,h.get? I=some o∧o.cls=.type "set_iterator"∧o.data=.fields #[fst,rawInt i,.ref a,rawInt n,rawInt ep]
theorem cj:Slot "set_iterator" "__next__" "set_iterator.__next__" :=
  .of (owner:="set_iterator") (n:="__next__") (by rw [typeLookup_type,builtinLookup_eq_fast];kernel_rfl) (by decide +kernel)
    (by decide +kernel) (by decide +kernel) (.inl (by decide +kernel)) (by rw [isSubtype_type];kernel_rfl)
theorem mC:Slot "set_iterator" "__iter__" "set_iterator.__iter__" :=
  .of (owner:="set_iterator") (n:="__iter__") (by rw [typeLookup_type,builtinLookup_eq_fast];kernel_rfl) (by decide +kernel)
    (by decide +kernel) (by decide +kernel) (.inl (by decide +kernel)) (by rw [isSubtype_type];kernel_rfl)
theorem jo:entryFor table "set_iterator.__next__"=some Builtin.«set_iterator.__next__»:=entryFor_of_fast (by kernel_rfl)
theorem qW:entryFor table "set_iterator.__iter__"=some Builtin.«dict_keyiterator.__iter__» :=
  entryFor_alias (id':="dict_keyiterator.__iter__") (by kernel_rfl) rfl
    (by decide +kernel) (by kernel_rfl)
theorem tQ:entryFor table "set.__iter__"=some Builtin.«frozenset.__iter__» :=
  entryFor_alias (id':="frozenset.__iter__") (by kernel_rfl) rfl
    (by decide +kernel) (by kernel_rfl)
theorem jE (v:Value):argsOk "set_iterator.__next__" ⟨[v],[]⟩:=by
  unfold argsOk
  kernel_rfl
theorem uf (v:Value):argsOk "set_iterator.__iter__" ⟨[v],[]⟩:=by
  unfold argsOk
  kernel_rfl
section
variable {prog:Program} {w:World} {A:Around} {E:Value→Shared→Prop} {s:Shared} {a I:Addr} {es:Array (Int × Value)} {ep:Nat} {t:SetTable}
theorem iU.ty {fst:Value} {i n:Nat} (h:iU s.heap I a fst i n ep):s.TypeIs (.ref I) "set_iterator":=let ⟨o,x,y,_⟩:=h;⟨o,x,y⟩
theorem dG {Q:(Array (Int × Value) × Nat × SetTable)→Shared→Prop} (S:rG w s.heap a es ep t) (h:Q (es,ep,t) s):wpAny (model prog w) A (setState a) Q E s:=by
  obtain ⟨o,ho,_,hd⟩:=S.ob
  unfold setState
  refine wpAny_bind (wpAny_load ho ?_)
  rw [hd]
  dsimp only
  have hc:(t.place.size != es.size || decide (t.fill > t.mask))=false:=by simp [S.fit.1,Nat.not_lt.mpr S.fit.2]
  rw [hc]
  simp only [Bool.false_eq_true,↓reduceIte]
  exact wpAny_pure h
theorem yJ {α:Type} {Q:α→Shared→Prop} (hh:A.handled=none) (h:∀ x h',(∃ o,h'.get? x=some o∧o.cls=.type "StopIteration")→(∀ b o,s.heap.get? b=some o→h'.get? b=some o)→E (.ref x) { s with heap:=h' }) :
    wpAny (model prog w) A (do raiseNew (← newExc (.type "StopIteration") []):Sem α) Q E s:=by
  refine wpAny_bind ?_
  simp only [newExc,newTuple]
  refine wpAny_bind (wpAny_newObj_type ?_ (by size_fits))
  refine wpAny_bind (m:=firstArgMember _ _) (wpAny_of_eq (a:=Value.none) (by first | rfl | (simp only [firstArgMember];rfl)) ?_)
  refine wpAny_newObj_type ?_ (by size_fits)
  simp only [raiseNew]
  refine wpAny_bind (wpAny_handled ?_)
  rw [hh]
  refine wpAny_bind (wpAny_pure (wpAny_throw (h _ _ ⟨_,Heap.get?_push_size _ rfl,rfl⟩ fun b o e=>?_)))
  exact Heap.get?_push_of_some _ (Heap.get?_push_of_some _ e)
end
end L2
namespace L2
open PySem
section
variable {prog:Program} {w:World} {A:Around} {E:Value→Shared→Prop} {s:Shared} {a I:Addr} {es:Array (Int × Value)} {ep:Nat} {t:SetTable}
theorem jJ {Q:Array (Int × Value)→Shared→Prop} (S:rG w s.heap a es ep t) (h:Q es s):wpAny (model prog w) A (setEntries a) Q E s:=by
  unfold setEntries
  exact wpAny_bind (dG S (wpAny_pure h))
theorem mj {sl i:Nat} {Q:Option (Value × Nat)→Shared→Prop} (ht:w.params.followText "set-order"=true) (S:rG w s.heap a es ep t)
    (h:Q (((pickOrder (w.params.setOrder a ep) es)[i]?).map fun e=>(e.2,sl)) s):wpAny (model prog w) A (setNext a sl i ep) Q E s:=by
  unfold setNext setsByText
  refine wpAny_bind (dG S ?_)
  dsimp only
  refine wpAny_bind (wpAny_bind (wpAny_askSetting (wpAny_pure ?_)))
  show wpAny _ _ (if w.params.followText "set-order"=true then _ else _) _ _ _
  rw [if_pos ht]
  rw [if_neg (by simp)]
  unfold setWalk setsByText
  refine wpAny_bind (wpAny_bind (dG S ?_))
  dsimp only
  refine wpAny_bind (wpAny_bind (wpAny_askSetting (wpAny_pure ?_)))
  show wpAny _ _ (if w.params.followText "set-order"=true then _ else _) _ _ _
  rw [if_pos ht]
  exact wpAny_bind (wpAny_askSetting (wpAny_pure (wpAny_pure h)))
theorem j5 {sl i:Nat} {Q:Option (Value × Nat)→Shared→Prop} (ht:w.params.followText "set-order"=false) (hp:(!t.plain && decide (es.size > 1))=false) (S:rG w s.heap a es ep t)
    (h:Q (match es[SetTable.below t.place sl]?,t.place[SetTable.below t.place sl]? with | some (_,x),some j=>some (x,j + 1) | _,_=>none) s):wpAny (model prog w) A (setNext a sl i ep) Q E s:=by
  unfold setNext setsByText
  refine wpAny_bind (dG S ?_)
  dsimp only
  refine wpAny_bind (wpAny_bind (wpAny_askSetting (wpAny_pure ?_)))
  show wpAny _ _ (if w.params.followText "set-order"=true then _ else _) _ _ _
  rw [if_neg (by rw [ht];decide)]
  refine wpAny_bind (wpAny_pure ?_)
  show wpAny _ _ (if (!t.plain && decide (es.size > 1))=true then _ else _) _ _ _
  rw [if_neg (by rw [hp];decide)]
  have hl:t.led=true:=by rw [S.tab.led];show (!w.params.followText "set-order")=true;rw [ht];rfl
  refine wpAny_bind ?_
  show wpAny _ _ (if (!t.led && !es.isEmpty)=true then _ else _) _ _ _
  rw [if_neg (by rw [hl];simp)]
  exact wpAny_pure (wpAny_pure h)
theorem mX {fst i n:Nat} {Q:Option Value→Shared→Prop} (hh:A.handled=none) (S:rG w s.heap a es ep t) (hn:n=es.size) (It:iU s.heap I a (rawInt fst) i n ep) (r:Option (Value × Nat))
    (hr:∀ (A':Around) (E':Value→Shared→Prop) (Q':Option (Value × Nat)→Shared→Prop),Q' r s→wpAny (model prog w) A' (setNext a fst i ep) Q' E' s)
    (h:∀ h',(∀ b o,b≠I→s.heap.get? b=some o→h'.get? b=some o)→(∀ x k,r=some (x,k)→iU h' I a (rawInt k) (i + 1) n ep)→Q (r.map (·.1)) { s with heap:=h' }) :
    wpAny (model prog w) A (pyNext (.ref I)) Q E s:=by
  obtain ⟨o,ho,hc,hd⟩:=id It
  unfold pyNext
  refine wpAny_bind (wpAny_attempt (wpAny_callSpecial?_slot (name:=Str.ofString "__next__") It.ty cj (wpAny_call_entry cj It.ty jo ?_ (jE _))))
  show wpAny _ _ (fieldsOf (.ref I) >>= _) _ _ s
  refine wpAny_bind (wpAny_fieldsOf ho hd ?_)
  show wpAny _ _ (setEntries a >>= _) _ _ s
  refine wpAny_bind (jJ S ?_)
  rw [if_neg (by subst hn;simp)]
  show wpAny _ _ (setNext a (Int.toNat (fst:Int)) (Int.toNat (i:Int)) (Int.toNat (ep:Int)) >>= _) _ _ s
  simp only [Int.toNat_natCast]
  refine wpAny_bind (hr _ _ _ ?_)
  cases r with
  | none =>
    dsimp only
    refine wpAny_bind (wpAny_setField ho hd (by simp) ?_)
    refine yJ hh fun x h' hx hk=>?_
    refine wpAny_bind (wpAny_isInstance (T:="StopIteration") (b:=true) hx isSubtype_stop ?_)
    exact wpAny_pure (h h' (fun b o hb e=>hk b o ((Heap.get?_update_other _ _ (Ne.symm hb)).trans e)) (fun _ _ z=>nomatch z))
  | some p =>
    obtain ⟨x,k⟩:=p
    dsimp only
    refine wpAny_bind (wpAny_setField ho hd (by simp) ?_)
    have ho1:=Heap.get?_update_self (Obj.mapFields (·.setIfInBounds 0 (rawInt k))) ho (Obj.isFreed_of_fields (Obj.data_mapFields hd _))
    have hd1:=Obj.data_mapFields hd (·.setIfInBounds 0 (rawInt k))
    refine wpAny_bind (wpAny_setField ho1 hd1 (by simp) ?_)
    refine wpAny_pure ⟨x,rfl,wpAny_pure (h _ (fun b o hb e=>?_) fun x' k' e=>?_)⟩
    · exact (Heap.get?_update_other _ _ (Ne.symm hb)).trans ((Heap.get?_update_other _ _ (Ne.symm hb)).trans e)
    · cases e
      exact ⟨_,Heap.get?_update_self _ ho1 (Obj.isFreed_of_fields (Obj.data_mapFields hd1 _)),(Obj.cls_mapFields ..).trans ((Obj.cls_mapFields ..).trans hc),by
        rw [Obj.data_mapFields hd1];simp [rawInt]⟩
theorem oE {fst:Value} {i n:Nat} {Q:Value→Shared→Prop} (It:iU s.heap I a fst i n ep) (h:Q (.ref I) s):wpAny (model prog w) A (pyIter (.ref I)) Q E s:=by
  refine wpAny_pyIter_slot It.ty mC (wpAny_call_entry mC It.ty qW ?_ (uf _))
  show wpAny _ _ (ret (.ref I)) _ _ s
  exact wpAny_pure ⟨_,rfl,"set_iterator",_,It.ty,cj.lookup,h⟩
theorem iU.at {h h':Heap} {fst:Value} {i n:Nat} (x:iU h I a fst i n ep) (k:∀ o,h.get? I=some o→h'.get? I=some o):iU h' I a fst i n ep:=let ⟨o,y,r⟩:=x;⟨o,k o y,r⟩
theorem w5 (hh:A.handled=none) (ht:w.params.followText "set-order"=true) (hne:a≠I) (vs:List Value) (hv:vs=((pickOrder (w.params.setOrder a ep) es).toList.map (·.2))) (hl:vs.length=es.size) :
    Walks prog w A I [I,a] [I] vs.length (fun i v=>vs[i]?=some v) (fun i h=>iU h I a (rawInt (0:Nat)) i es.size ep∧rG w h a es ep t) where
  sub:=fun b hb=>by simp at hb;simp [hb]
  frame:=fun _ _ _ st hk=>⟨st.1.at fun o e=>hk I (by simp) o e,st.2.at fun o e=>hk a (by simp) o e⟩
  item:=fun i s Q E hi st hQ=>by
    obtain ⟨e,he⟩:∃ e,(pickOrder (w.params.setOrder a ep) es)[i]?=some e:=by
      have:i<(pickOrder (w.params.setOrder a ep) es).size:=by rw [hv] at hi;simpa using hi
      exact ⟨_,by simp [this];rfl⟩
    have hx:vs[i]?=some e.2:=by rw [hv,List.getElem?_map,Array.getElem?_toList,he];rfl
    refine mX hh st.2 rfl st.1 (some (e.2,0)) (fun A' E' Q' q=>mj ht st.2 (by rw [he];exact q)) fun h' k it=>?_
    exact hQ e.2 h' s.toks hx ⟨it _ _ rfl,st.2.at fun o z=>k a o hne z⟩ fun b o hb z=>k b o (fun q=>hb (by simp [q])) z
  done:=fun s Q E st hQ=>by
    have he:(pickOrder (w.params.setOrder a ep) es)[vs.length]?=none:=by
      rw [hv];simp
    refine mX hh st.2 rfl st.1 none (fun A' E' Q' q=>mj ht st.2 (by rw [he];exact q)) fun h' k it=>?_
    exact hQ h' s.toks fun b o hb z=>k b o (fun q=>hb (by simp [q])) z
  self:=fun _ _ _ _ st hQ=>oE st.1 hQ
theorem uE (hh:A.handled=none) (ht:w.params.followText "set-order"=false) (hp:(!t.plain && decide (es.size > 1))=false) (hne:a≠I) (vs:List Value) (hv:vs=(es.toList.map (·.2))) :
    Walks prog w A I [I,a] [I] vs.length (fun i v=>vs[i]?=some v) (fun i h=>(∃ k:Nat,iU h I a (rawInt k) i es.size ep∧SetTable.below t.place k=i)∧rG w h a es ep t) where
  sub:=fun b hb=>by simp at hb;simp [hb]
  frame:=fun _ _ _ st hk=>⟨let ⟨k,x,y⟩:=st.1;⟨k,x.at fun o e=>hk I (by simp) o e,y⟩,st.2.at fun o e=>hk a (by simp) o e⟩
  item:=fun i s Q E hi st hQ=>by
    obtain ⟨⟨k,it,hb⟩,S⟩:=st
    have hi':i<es.size:=by rw [hv] at hi;simpa using hi
    have hip:i<t.place.size:=by rw [S.fit.1];exact hi'
    have he:es[i]?=some (es[i].1,es[i].2):=by rw [Array.getElem?_eq_getElem hi']
    have hq:t.place[i]?=some t.place[i]:=by rw [Array.getElem?_eq_getElem hip]
    have hx:vs[i]?=some es[i].2:=by rw [hv,List.getElem?_map,Array.getElem?_toList,he];rfl
    refine mX hh S rfl it (some (es[i].2,t.place[i] + 1)) (fun A' E' Q' q=>j5 ht hp S (by rw [hb,he,hq];exact q)) fun h' kk it'=>?_
    exact hQ es[i].2 h' s.toks hx ⟨⟨_,it' _ _ rfl,yw S.tab.ris hq⟩,S.at fun o z=>kk a o hne z⟩ fun b o hb z=>kk b o (fun q=>hb (by simp [q])) z
  done:=fun s Q E st hQ=>by
    obtain ⟨⟨k,it,hb⟩,S⟩:=st
    have he:es[vs.length]?=none:=by rw [hv];simp
    refine mX hh S rfl it none (fun A' E' Q' q=>j5 ht hp S (by rw [hb,he];exact q)) fun h' kk it'=>?_
    exact hQ h' s.toks fun b o hb z=>kk b o (fun q=>hb (by simp [q])) z
  self:=fun _ _ _ _ st hQ=>let ⟨k,x,y⟩:=st.1;oE x hQ
end
end L2
namespace L2
open PySem
section
variable {prog:Program} {w:World} {A:Around} {E:Value→Shared→Prop} {s:Shared} {a I:Addr} {es:Array (Int × Value)} {ep:Nat} {t:SetTable}
theorem wp_choose {src:Source} {n:Nat} {Q:Nat→Shared→Prop} (hn:n≠0) (h:∀ k d',k<n→Q k { s with drawn:=d' }):wpAny (model prog w) A (choose src n) Q E s :=
  fun _ _ _=>⟨hn,h _ _ (Nat.mod_lt _ (Nat.pos_of_ne_zero hn))⟩
theorem J4:∀ (n:Nat) (xs:List Nat) {s:Shared} {Q:List Nat→Shared→Prop},xs.length=n→(∀ ys d',ys.Perm xs→Q ys { s with drawn:=d' })→wpAny (model prog w) A (drawOrder n xs) Q E s:=by
  intro n
  induction n with
  | zero =>
    intro xs s Q hl h
    have:xs=[]:=List.length_eq_zero_iff.mp hl
    subst this
    exact wpAny_pure (h [] s.drawn List.Perm.nil)
  | succ n ih =>
    intro xs s Q hl h
    match xs,hl with
    | x :: xs,hl =>
      unfold drawOrder
      refine wpAny_bind (wp_choose (by simp) fun k d' hk=>?_)
      rw [List.getElem?_eq_getElem hk]
      dsimp only
      refine wpAny_bind (ih _ (by rw [List.length_eraseIdx_of_lt hk];simp at hl ⊢;exact hl) fun ys d'' hp=>wpAny_pure (h _ d'' ?_))
      exact ((List.Perm.cons _ hp).trans (oM hk))
theorem qj {k:Nat} {e:Int × Value} {Q:Value→Shared→Prop} (S:rG w s.heap a es ep t) (he:es[k]?=some e) (h:Q e.2 s):wpAny (model prog w) A (setNextDrawn a k ep) Q E s:=by
  unfold setNextDrawn
  refine wpAny_bind (dG S ?_)
  dsimp only
  rw [if_neg (by simp),he]
  exact wpAny_pure h
def IsTup (h:Heap) (T:Addr) (l:List Nat):Prop:=∃ o,h.get? T=some o∧o.data=.seq (l.map fun (i:Nat)=>rawInt i).toArray 0
theorem uF {T:Addr} (hh:A.handled=none) (hne:a≠I) (hT:T≠I) (od:List Nat) (hod:od.length=es.size) (hlt:∀ k∈od,k<es.size) (vs:List Value) (hv:vs=od.map fun k=>(es.getD k (0,.none)).2) :
    Walks prog w A I [I,a,T] [I] vs.length (fun i v=>vs[i]?=some v) (fun i h=>iU h I a (.ref T) i es.size ep∧rG w h a es ep t∧IsTup h T od) where
  sub:=fun b hb=>by simp at hb;simp [hb]
  frame:=fun _ _ _ st hk=>⟨st.1.at fun o e=>hk I (by simp) o e,st.2.1.at fun o e=>hk a (by simp) o e,let ⟨o,x,y⟩:=st.2.2;⟨o,hk T (by simp) o x,y⟩⟩
  item:=fun i s Q E hi st hQ=>by
    obtain ⟨It,S,To⟩:=st
    obtain ⟨o,ho,hc,hd⟩:=id It
    obtain ⟨oT,hoT,hdT⟩:=id To
    have hi':i<od.length:=by rw [hv] at hi;simpa using hi
    have hk:od[i]<es.size:=hlt _ (List.getElem_mem hi')
    have he:es[od[i]]?=some es[od[i]]:=by rw [Array.getElem?_eq_getElem hk]
    have hx:vs[i]?=some es[od[i]].2:=by
      rw [hv,List.getElem?_map,List.getElem?_eq_getElem hi']
      show some (es.getD od[i] (0,.none)).2=_
      rw [Array.getD_eq_getD_getElem?,he];rfl
    have hpl:((od.map fun (i:Nat)=>rawInt i).toArray)[i]?=some (rawInt (od[i]:Nat)):=by
      rw [List.getElem?_toArray,List.getElem?_map,List.getElem?_eq_getElem hi'];rfl
    unfold pyNext
    refine wpAny_bind (wpAny_attempt (wpAny_callSpecial?_slot (name:=Str.ofString "__next__") It.ty cj (wpAny_call_entry cj It.ty jo ?_ (jE _))))
    show wpAny _ _ (fieldsOf (.ref I) >>= _) _ _ s
    refine wpAny_bind (wpAny_fieldsOf ho hd ?_)
    show wpAny _ _ (setEntries a >>= _) _ _ s
    refine wpAny_bind (jJ S ?_)
    rw [if_neg (by simp)]
    show wpAny _ _ (seqItems? (.ref T) >>= _) _ _ s
    refine wpAny_bind (wpAny_seqItems hoT hdT ?_)
    show wpAny _ _ (match ((od.map fun (i:Nat)=>rawInt i).toArray)[Int.toNat (i:Int)]? with | some (.int place _)=>_ | some _=>_ | none=>_) _ _ s
    simp only [Int.toNat_natCast,hpl]
    show wpAny _ _ (setNextDrawn a (Int.toNat (od[i]:Nat)) (Int.toNat (ep:Nat)) >>= _) _ _ s
    simp only [Int.toNat_natCast]
    refine wpAny_bind (qj S he ?_)
    refine wpAny_bind (wpAny_setField ho hd (by simp) ?_)
    have kk:∀ b o,b≠I→s.heap.get? b=some o→(s.heap.update I (Obj.mapFields (·.setIfInBounds 1 (rawInt ((i:Int) + 1))))).get? b=some o:=fun b o hb e=>(Heap.get?_update_other _ _ (Ne.symm hb)).trans e
    refine wpAny_pure ⟨_,rfl,wpAny_pure (hQ _ _ s.toks hx ⟨?_,S.at fun o z=>kk a o hne z,oT,kk T oT hT hoT,hdT⟩ fun b o hb z=>kk b o (fun q=>hb (by simp [q])) z)⟩
    exact ⟨_,Heap.get?_update_self _ ho (Obj.isFreed_of_fields (Obj.data_mapFields hd _)),(Obj.cls_mapFields ..).trans hc,by rw [Obj.data_mapFields hd];simp [rawInt]⟩
  done:=fun s Q E st hQ=>by
    obtain ⟨It,S,To⟩:=st
    obtain ⟨o,ho,hc,hd⟩:=id It
    obtain ⟨oT,hoT,hdT⟩:=id To
    have hl:vs.length=od.length:=by rw [hv];simp
    have hpl:((od.map fun (i:Nat)=>rawInt i).toArray)[vs.length]?=none:=by rw [List.getElem?_toArray,List.getElem?_map,hl];simp
    unfold pyNext
    refine wpAny_bind (wpAny_attempt (wpAny_callSpecial?_slot (name:=Str.ofString "__next__") It.ty cj (wpAny_call_entry cj It.ty jo ?_ (jE _))))
    show wpAny _ _ (fieldsOf (.ref I) >>= _) _ _ s
    refine wpAny_bind (wpAny_fieldsOf ho hd ?_)
    show wpAny _ _ (setEntries a >>= _) _ _ s
    refine wpAny_bind (jJ S ?_)
    rw [if_neg (by simp)]
    show wpAny _ _ (seqItems? (.ref T) >>= _) _ _ s
    refine wpAny_bind (wpAny_seqItems hoT hdT ?_)
    show wpAny _ _ (match ((od.map fun (i:Nat)=>rawInt i).toArray)[Int.toNat (vs.length:Int)]? with | some (.int place _)=>_ | some _=>_ | none=>_) _ _ s
    simp only [Int.toNat_natCast,hpl]
    refine wpAny_bind (wpAny_setField ho hd (by simp) ?_)
    have ho1:=Heap.get?_update_self (Obj.mapFields (·.setIfInBounds 0 (rawInt 0))) ho (Obj.isFreed_of_fields (Obj.data_mapFields hd _))
    have hd1:=Obj.data_mapFields hd (·.setIfInBounds 0 (rawInt 0))
    refine wpAny_bind (wpAny_setField ho1 hd1 (by simp) ?_)
    refine yJ hh fun x h' hx hk=>?_
    refine wpAny_bind (wpAny_isInstance (T:="StopIteration") (b:=true) hx isSubtype_stop ?_)
    exact wpAny_pure (hQ h' s.toks fun b o hb e=>hk b o ((Heap.get?_update_other _ _ (fun q:I=b=>hb (by simp [q]))).trans ((Heap.get?_update_other _ _ (fun q:I=b=>hb (by simp [q]))).trans e)))
  self:=fun _ _ _ _ st hQ=>oE st.1 hQ
theorem xU {α:Type} (xs:List α) (d:α) {od:List Nat} (h:od.Perm (List.range xs.length)):(od.map fun k=>xs.getD k d).Perm xs:=by
  refine (h.map _).trans (List.Perm.of_eq ?_)
  refine List.ext_getElem (by simp) fun i h1 h2=>?_
  simp at h1 ⊢
  rw [List.getElem?_eq_getElem h1]
  rfl
theorem vC (v:Value):argsOk "set.__iter__" ⟨[v],[]⟩:=by
  unfold argsOk
  kernel_rfl
theorem nG:Slot "set" "__iter__" "set.__iter__" :=
  .of (owner:="set") (n:="__iter__") (by rw [typeLookup_type,builtinLookup_eq_fast];kernel_rfl) (by decide +kernel)
    (by decide +kernel) (by decide +kernel) (.inl (by decide +kernel)) (by rw [isSubtype_type];kernel_rfl)
theorem Eh {Q:Value→Shared→Prop} (S:rG w s.heap a es ep t) (hb:es.size<scanBound) (hh:A.handled=none)
    (h:∀ (I:Addr) (fp:List Addr) (vs:List Value) (St:Nat→Heap→Prop) (h':Heap) d',s.heap.objs.size≤I→(∀ b o,s.heap.get? b=some o→h'.get? b=some o)→(∃ o,h'.get? I=some o∧o.cls=.type "set_iterator") →
      (∀ b∈fp,b=a∨s.heap.objs.size≤b)→Walks prog w A I fp [I] vs.length (fun i v=>vs[i]?=some v) St→St 0 h'→vs.Perm (es.toList.map (·.2))→Q (.ref I) { s with heap:=h',drawn:=d' }) :
    wpAny (model prog w) A (pyIter (.ref a)) Q E s:=by
  obtain ⟨oa,hoa,hca,hda⟩:=S.ob
  have hta:s.TypeIs (.ref a) "set":=⟨oa,hoa,hca⟩
  have hlt:a<s.heap.objs.size:=Heap.lt_size hoa
  refine wpAny_pyIter_slot hta nG (wpAny_call_entry nG hta tQ ?_ (vC _))
  show wpAny _ _ (Builtin.Frozenset.sizeOf a >>= _) _ _ s
  unfold Builtin.Frozenset.sizeOf
  refine wpAny_bind (wpAny_bind (jJ S (wpAny_pure ?_)))
  unfold setDrawn setsByText
  refine wpAny_bind (wpAny_bind (dG S (wpAny_bind (wpAny_bind (wpAny_askSetting (wpAny_pure ?_))))))
  show wpAny _ _ (pure (!w.params.followText "set-order" && (!t.plain && decide (es.size > 1)))) _ _ s
  refine wpAny_pure ?_
  by_cases hd:(!w.params.followText "set-order" && (!t.plain && decide (es.size > 1)))=true
  · rw [if_pos hd]
    refine wpAny_bind (J4 es.size (List.range es.size) (by simp) fun od d' hp=>?_)
    have hodl:od.length=es.size:=by rw [hp.length_eq];simp
    refine wpAny_bind (wpAny_newTuple ?_ (by rw [List.length_map,hodl,sizeLine_eq];unfold scanBound at hb;omega))
    have hto:(s.heap.push { cls:=.type "tuple",data:=.seq (od.map fun (i:Nat)=>rawInt i).toArray }).get? s.heap.objs.size=some { cls:=.type "tuple",data:=.seq (od.map fun (i:Nat)=>rawInt i).toArray }:=Heap.get?_push_size _ rfl
    refine wpAny_bind ?_
    unfold setEpoch
    have S1:rG w (s.heap.push { cls:=.type "tuple",data:=.seq (od.map fun (i:Nat)=>rawInt i).toArray }) a es ep t:=S.at fun o e=>Heap.get?_push_of_some _ e
    refine wpAny_bind (dG S1 (wpAny_pure ?_))
    unfold newFields
    refine wpAny_bind (wpAny_newObj_type ?_ (by size_fits))
    refine wpAny_pure ⟨_,rfl,"set_iterator",_,⟨_,Heap.get?_push_size _ rfl,rfl⟩,cj.lookup,?_⟩
    have hsz:(s.heap.push { cls:=.type "tuple",data:=.seq (od.map fun (i:Nat)=>rawInt i).toArray }).objs.size=s.heap.objs.size + 1:=Heap.size_push _ _
    have hvs:=xU (es.toList) ((0:Int),Value.none) (od:=od) (by simpa using hp)
    refine h _ [_,a,s.heap.objs.size] ((od.map fun k=>(es.getD k (0,.none)).2)) _ _ d' (by rw [hsz];omega) (fun b o e=>Heap.get?_push_of_some _ (Heap.get?_push_of_some _ e)) ⟨_,Heap.get?_push_size _ rfl,rfl⟩ (fun b hb=>?_)
      (uF (T:=s.heap.objs.size) (es:=es) (ep:=ep) (t:=t) hh (Nat.ne_of_lt (by rw [hsz];exact Nat.lt_succ_of_lt hlt)) (Nat.ne_of_lt (by rw [hsz];exact Nat.lt_succ_self _)) od hodl (fun k hk=>by simpa using hp.mem_iff.mp hk) _ rfl) ⟨⟨_,Heap.get?_push_size _ rfl,rfl,rfl⟩,S1.at fun o e=>Heap.get?_push_of_some _ e,_,Heap.get?_push_of_some _ hto,rfl⟩ ?_
    · rcases List.mem_cons.mp hb with rfl | hb
      · exact .inr (by rw [hsz];exact Nat.le_succ _)
      · rcases List.mem_cons.mp hb with rfl | hb
        · exact .inl rfl
        · exact .inr (by rw [List.mem_singleton.mp hb];exact Nat.le_refl _)
    · have:=hvs.map (·.2)
      rw [List.map_map] at this
      refine List.Perm.trans (List.Perm.of_eq ?_) this
      refine List.map_congr_left fun k _=>?_
      show _=(es.toList.getD k _).2
      rw [Array.getD_eq_getD_getElem?,List.getD_eq_getElem?_getD,Array.getElem?_toList]
  · rw [if_neg hd]
    refine wpAny_bind (wpAny_pure ?_)
    refine wpAny_bind ?_
    unfold setEpoch
    refine wpAny_bind (dG S (wpAny_pure ?_))
    unfold newFields
    refine wpAny_bind (wpAny_newObj_type ?_ (by size_fits))
    refine wpAny_pure ⟨_,rfl,"set_iterator",_,⟨_,Heap.get?_push_size _ rfl,rfl⟩,cj.lookup,?_⟩
    have hfp:∀ b∈[s.heap.objs.size,a],b=a∨s.heap.objs.size≤b:=by
      intro b hb
      rcases List.mem_cons.mp hb with rfl | hb
      · exact .inr (Nat.le_refl _)
      · exact .inl (List.mem_singleton.mp hb)
    have hS:=S.at (h':=s.heap.push { cls:=.type "set_iterator",data:=.fields [rawInt 0,rawInt 0,Value.ref a,rawInt es.size,rawInt ep].toArray }) fun o e=>Heap.get?_push_of_some _ e
    cases hx:w.params.followText "set-order" with
    | true =>
      have hpp:=zT (w.params.setOrder a ep) es
      refine h _ [_,a] ((pickOrder (w.params.setOrder a ep) es).toList.map (·.2)) _ _ s.drawn (Nat.le_refl _) (fun b o e=>Heap.get?_push_of_some _ e) ⟨_,Heap.get?_push_size _ rfl,rfl⟩ hfp
        (w5 (es:=es) (ep:=ep) (t:=t) hh hx (Nat.ne_of_lt hlt) _ rfl (by rw [List.length_map,hpp.length_eq];simp)) ⟨⟨_,Heap.get?_push_size _ rfl,rfl,rfl⟩,hS⟩ (hpp.map _)
    | false =>
      refine h _ [_,a] (es.toList.map (·.2)) _ _ s.drawn (Nat.le_refl _) (fun b o e=>Heap.get?_push_of_some _ e) ⟨_,Heap.get?_push_size _ rfl,rfl⟩ hfp
        (uE (es:=es) (ep:=ep) (t:=t) hh hx (by rw [hx] at hd;simpa using hd) (Nat.ne_of_lt hlt) _ rfl) ⟨⟨0,⟨_,Heap.get?_push_size _ rfl,rfl,rfl⟩,yu _ S.tab.ris⟩,hS⟩ (List.Perm.refl _)
end
end L2
namespace L2
open PySem
section
variable {prog:Program} {w:World} {A:Around} {E:Value→Shared→Prop} {s:Shared} {a I:Addr} {es:Array (Int × Value)} {ep:Nat} {t:SetTable}
theorem xP:Slot "set" "__len__" "set.__len__" :=
  .of (owner:="set") (n:="__len__") (by rw [typeLookup_type,builtinLookup_eq_fast];kernel_rfl) (by decide +kernel)
    (by decide +kernel) (by decide +kernel) (.inl (by decide +kernel)) (by rw [isSubtype_type];kernel_rfl)
theorem Ek {Q:Bool→Shared→Prop} (hT:s.TypeIs (.ref a) "set") (h:Q false s):wpAny (model prog w) A (Builtin.List.listLengthHint (.ref a)) Q E s:=by
  unfold Builtin.List.listLengthHint
  refine wpAny_bind (wpAny_specialOf hT xP.lookup ?_)
  generalize hid:("set.__len__":String)=id0
  wp_delta
  rw [show splitId id0=some ("set","__len__") from by subst hid;decide +kernel]
  subst hid
  refine wpAny_bind (wpAny_isInstance (T:="set") (b:=true) hT (by rw [isSubtype_type];kernel_rfl) ?_)
  refine wpAny_ite_split (fun hab=>absurd hab (by decide)) (fun _=>?_)
  refine wpAny_ite_split (fun _=>?_) (fun hab=>absurd (by decide +kernel) hab)
  refine wpAny_bind (wpAny_typeOf hT ?_)
  exact wpAny_pure h
theorem vq {Q:List Value→Shared→Prop} (S:rG w s.heap a es ep t) (hb:es.size<scanBound) (hh:A.handled=none)
    (h:∀ (vs:List Value) (h':Heap) d' tk,s.heap.objs.size<h'.objs.size→(∀ b o,s.heap.get? b=some o→h'.get? b=some o)→vs.Perm (es.toList.map (·.2))→Q vs { s with heap:=h',drawn:=d',toks:=tk }) :
    wpAny (model prog w) A (collect (.ref a)) Q E s:=by
  obtain ⟨oa,hoa,hca,hda⟩:=S.ob
  have hlt:a<s.heap.objs.size:=Heap.lt_size hoa
  unfold collect
  refine wpAny_bind (wpAny_runValue (codeAny_builtin F.entry_proto_collect ?_))
  rw [Around.under_plainId F.plain_proto_collect _]
  show wpAny _ A.in1 (newList [] >>= fun l=>again (.builtin "list.__iadd__" ⟨[l,.ref a],[]⟩)) _ _ s
  refine wpAny_bind (wpAny_newObj_type ?_)
  refine wpAny_pure ⟨plainId_quiet F.plain_list_iadd _,codeAny_builtin F.entry_list_iadd ?_⟩
  rw [Around.under_plainId F.plain_list_iadd _]
  generalize hL:({ cls:=.type "list",data:=.seq ([]:List Value).toArray }:Obj)=L0
  have hS0:(s.heap.push L0).get? s.heap.objs.size=some L0:=Heap.get?_push_size _ (by rw [← hL];rfl)
  have S1:rG w (s.heap.push L0) a es ep t:=S.at fun o e=>Heap.get?_push_of_some _ e
  have hT1:Shared.TypeIs { s with heap:=s.heap.push L0 } (.ref a) "set":=⟨oa,Heap.get?_push_of_some _ hoa,hca⟩
  show wpAny _ A.in1 (Builtin.List.listExtendWith (.ref s.heap.objs.size) (.ref a) (.ref s.heap.objs.size)) _ _ { s with heap:=s.heap.push L0 }
  unfold Builtin.List.listExtendWith
  refine wpAny_bind (wpAny_typeOf hT1 ?_)
  have hne:s.heap.objs.size≠a:=Nat.ne_of_gt hlt
  have h1:Builtin.List.listSameRef (.ref s.heap.objs.size) (.ref a)=false:=by simp [Builtin.List.listSameRef,hne]
  have h2:(Value.type "set" == Value.type "list" || Value.type "set" == Value.type "tuple")=false:=by decide
  rw [if_neg (by rw [h1,Bool.false_or,h2];decide)]
  refine wpAny_bind (Eh S1 hb (show A.in1.handled=none from hh) fun I fp vs St h' d' hI hk hIo hfp W hst hp=>?_)
  have hIs:I≠s.heap.objs.size:=by rw [Heap.size_push] at hI;exact Nat.ne_of_gt (Nat.lt_of_lt_of_le (Nat.lt_succ_self _) hI)
  have hL':(s.heap.push L0).get? s.heap.objs.size=some { cls:=.type "list",data:=.seq #[] }:=by rw [hS0,← hL]
  have hS1:h'.get? s.heap.objs.size=some { cls:=.type "list",data:=.seq #[] }:=hk _ _ hL'
  have hT2:Shared.TypeIs { s with heap:=h',drawn:=d' } (.ref a) "set":=⟨oa,hk _ _ (Heap.get?_push_of_some _ hoa),hca⟩
  refine wpAny_bind (wpAny_holding (Ek hT2 ?_))
  refine wpAny_ite_split (fun _=>?_) (fun hab=>absurd (by decide +kernel) hab)
  refine wpAny_bind (wpAny_rule ?_)
  refine wpAny_bind ?_
  show wpAny _ _ (updateSeq s.heap.objs.size (·.push .none) >>= fun _=>updateSeq s.heap.objs.size (·.pop)) _ _ _
  refine wpAny_bind (wpAny_updateSeq hS1 rfl ?_)
  have hS2:=Heap.get?_update_self (Obj.mapSeq (·.push Value.none)) hS1 rfl
  refine wpAny_updateSeq (hz:=by seq_fits) hS2 rfl ?_
  have hS3:=Heap.get?_update_self (Obj.mapSeq (·.pop)) hS2 rfl
  have hSf:s.heap.objs.size ∉ fp:=fun hm=>by
    rcases hfp _ hm with e | e
    · exact hne e
    · rw [Heap.size_push] at e;exact Nat.not_succ_le_self _ e
  have oth:∀ b o,b≠s.heap.objs.size→h'.get? b=some o→((h'.update s.heap.objs.size (Obj.mapSeq (·.push Value.none))).update s.heap.objs.size (Obj.mapSeq (·.pop))).get? b=some o :=
    fun b o hb e=>(Heap.get?_update_other _ _ (Ne.symm hb)).trans ((Heap.get?_update_other _ _ (Ne.symm hb)).trans e)
  have hvl:vs.length≤sizeLine:=by rw [hp.length_eq,List.length_map,sizeLine_eq];unfold scanBound at hb;simp;omega
  refine wpAny_pure ⟨plainId_quiet F.plain_extend_loop _,codeAny_extend_loopS W.toS hvl _ hSf _ vs.length 0 _ _ _ rfl (Nat.zero_le _)
    (W.frame 0 h' _ hst fun b hb o e=>oth b o (fun q=>hSf (q ▸ hb)) e) hS3 (ItemsOf.nil _) fun s' acc c' hm hS' hacc=>?_⟩
  show wpAny _ A (load s.heap.objs.size >>= _) _ _ s'
  refine wpAny_bind (wpAny_load hS' ?_)
  have hv:acc.toList=vs:=by
    refine List.ext_getElem? fun i=>?_
    rw [Array.getElem?_toList]
    cases he:acc[i]? with
    | some v=>exact (hacc.2 i v he).symm
    | none =>
      have:acc.size≤i:=by
        rcases Nat.lt_or_ge i acc.size with q | q
        · rw [Array.getElem?_eq_getElem q] at he;cases he
        · exact q
      rw [hacc.1] at this
      exact (List.getElem?_eq_none this).symm
  obtain ⟨hp',g',d2,tk',os'⟩:=s'
  have e1:g'=s.gens:=hm.gens
  have e2:d2=d':=hm.drawn
  have e3:os'=s.os:=hm.os
  subst e1 e2 e3
  refine wpAny_pure ?_
  show Q acc.toList _
  rw [hv]
  refine h vs hp' d2 tk' (Heap.lt_size hS') (fun b o e=>hm.heap b o (fun q=>?_) (oth b o (Nat.ne_of_lt (Heap.lt_size e)) (hk b o (Heap.get?_push_of_some _ e)))) hp
  rcases List.mem_cons.mp q with q | q
  · exact Nat.ne_of_lt (Heap.lt_size e) q
  · rw [List.mem_singleton.mp q] at e
    rw [Heap.size_push] at hI
    exact Nat.lt_irrefl _ (Nat.lt_of_lt_of_le (Heap.lt_size e) (Nat.le_trans (Nat.le_succ _) hI))
end
end L2
namespace L2
open PySem
section
variable {prog:Program} {w:World} {A:Around} {E:Value→Shared→Prop} {s:Shared} {a I:Addr} {es:Array (Int × Value)} {ep:Nat} {t:SetTable}
def vInt:Value→Int | .int n _=>n | _=>0
def m8 (ks:List Int) (k:Int):List Int:=if k∈ks then ks else ks++[k]
structure Ck (prog:Program) (w:World) (h:Heap) (a:Addr) (ks:List Int):Prop where
  ex:∃ o es ep t,h.get? a=some o∧o.ExactSet∧o.data=.set es ep t∧ElemsOf (intKind prog w) es.toList∧(es.toList.map fun e=>vInt e.2).Perm ks∧es.size<scanBound∧t.fits es.size=true∧TOk (Ro w) t
theorem wK (k:Int) (tk:Tok):(intKind prog w).is k (.int k tk)=true:=by simp [intKind,Value.isInt]
theorem wQ {l:List (Int × Value)} (h:ElemsOf (intKind prog w) l) {e:Int × Value} (he:e∈l):∃ tk,e.2=.int (vInt e.2) tk:=by
  obtain ⟨⟨k,hk,_⟩,_⟩:=h e he
  obtain ⟨tk,hx⟩:=Value.isInt_shape hk
  exact ⟨tk,by rw [hx];rfl⟩
theorem Ai {l:List (Int × Value)} (h:ElemsOf (intKind prog w) l) {ks:List Int} (hp:(l.map fun e=>vInt e.2).Perm ks) (k:Int):k∈ks↔∃ e∈l,(intKind prog w).is k e.2=true:=by
  rw [← hp.mem_iff,List.mem_map]
  constructor
  · rintro ⟨e,he,rfl⟩
    obtain ⟨tk,hx⟩:=wQ h he
    exact ⟨e,he,by rw [hx];exact wK _ _⟩
  · rintro ⟨e,he,hk⟩
    obtain ⟨tk,hx⟩:=Value.isInt_shape hk
    exact ⟨e,he,by rw [hx];rfl⟩
theorem zO {h:Heap} {o:Obj} (es':Array (Int × Value)) (t':SetTable) (ho:h.get? a=some o) (hd:o.data=.set es ep t) :
    (h.update a (Obj.putSet es' t')).get? a=some { o with data:=.set es' (ep + 1) t' }:=by
  have q:=Heap.get?_update_self (Obj.putSet es' t') ho (by rw [putSet_of es' t' hd];rfl)
  rwa [putSet_of es' t' hd] at q
theorem Kd {ks:List Int} {k:Int} {tk:Tok} {Q:Bool→Shared→Prop} (S:Ck prog w s.heap a ks) (hr:ks.length + 1<scanBound)
    (h:∀ h' t' b,s.toks≤t'→Heap.SameBut a s.heap h'→Ck prog w h' a (m8 ks k)→Q b { s with heap:=h',toks:=t' }):wpAny (model prog w) A (setAdd a (.int k tk)) Q E s:=by
  obtain ⟨o,es,ep,t,ho,hx,hd,he,hp,hb,hf,T⟩:=S.ex
  have hsc:(Value.int k tk).scannable=true:=rfl
  have hlen:es.size=ks.length:=by rw [← hp.length_eq];simp
  unfold setAdd
  refine wpAny_holding (wpAny_bind ((intKind prog w).pyHash (k:=k) (wK k tk) ?_))
  unfold setAddHashed setAddHashedIn
  refine wpAny_holding (wpAny_bind (wpAny_setState_of (s:={ s with toks:=s.toks + 1 }) ho hd hf ?_))
  dsimp only
  rw [byScan_of hsc hb he]
  simp only [↓reduceIte]
  unfold setAddByScan
  refine wpAny_bind (wpAny_bind (wpAny_rule (wpAny_bind (wpAny_setScan_of (wK k tk) ho hd hf he ?_))))
  cases hfi:List.findIdx? (fun e=>(intKind prog w).is k e.2) es.toList with
  | some j =>
    dsimp only
    obtain ⟨hj,hpj,_⟩:=List.findIdx?_eq_some_iff_getElem.mp hfi
    have hmem:k∈ks:=(Ai he hp k).mpr ⟨_,List.getElem_mem hj,hpj⟩
    refine wpAny_pure (wpAny_pure (h s.heap (s.toks + 1) _ (Nat.le_succ _) (Heap.SameBut.refl a s.heap) ?_))
    unfold m8
    rw [if_pos hmem]
    exact S
  | none =>
    dsimp only
    have hnot:k ∉ ks:=fun hm=>by
      obtain ⟨e,h1,h2⟩:=(Ai he hp k).mp hm
      rw [List.findIdx?_eq_none_iff.mp hfi e h1] at h2
      cases h2
    have q1:=layNew_perm t es ((intKind prog w).hash k) (.int k tk)
    have q2:=layNew_fits t es ((intKind prog w).hash k) (.int k tk)
    have q3:=T.layNew es ((intKind prog w).hash k) (.int k tk)
    generalize layNew t es ((intKind prog w).hash k) (.int k tk)=L at q1 q2 q3 ⊢
    obtain ⟨es1,t1,wd,gv⟩:=L
    dsimp only at q1 q2 q3 ⊢
    rw [Array.toList_push] at q1
    have he1:ElemsOf (intKind prog w) es1.toList:=(he.push (wK k tk) hsc).perm q1
    have hp1:(es1.toList.map fun e=>vInt e.2).Perm (ks++[k]):=by
      refine (q1.map _).trans ?_
      rw [List.map_append]
      exact hp.append (List.Perm.refl _)
    have hs1:es1.size=es.size + 1:=by rw [← Array.length_toList,q1.length_eq];simp
    have hb1:es1.size<scanBound:=by omega
    have gw:∀ (b:Bool) {s1:Shared} {Q':Unit→Shared→Prop},Q' () s1→wpAny (model prog w) A (match b with | true=>rule "set.scan.the-table-gave-way" | false=>pure ()) Q' E s1 :=
      fun b s1 Q' hq=>by cases b with | true=>exact wpAny_rule hq | false=>exact wpAny_pure hq
    refine wpAny_bind (gw _ ?_)
    have hbv:hashByValue 8 (.int k tk)=pure true:=rfl
    have fin:∀ h' es2 t2 ep2,h'.get? a=some { o with data:=.set es2 ep2 t2 }→Heap.SameBut a s.heap h'→es2.toList.Perm es1.toList→t2.fits es2.size=true→TOk (Ro w) t2→Q true { s with heap:=h',toks:=s.toks + 1 }:=by
      intro h' es2 t2 ep2 g1 g2 g3 g4 g5
      refine h h' (s.toks + 1) true (Nat.le_succ _) g2 ⟨_,es2,ep2,t2,g1,hx,rfl,he1.perm g3,?_,?_,g4,g5⟩
      · unfold m8;rw [if_neg hnot];exact (g3.map _).trans hp1
      · rw [← Array.length_toList,g3.length_eq,Array.length_toList];exact hb1
    have tail:wpAny (model prog w) A (do
        storeSet a es1 t1
        if (!wd && t1.tooFull)=true then do
            (match (relayAll t1 es1 (SetTable.grown es1.size)).2.2 with | true=>rule "set.scan.the-table-gave-way" | false=>pure ())
            storeSet a (relayAll t1 es1 (SetTable.grown es1.size)).1 (relayAll t1 es1 (SetTable.grown es1.size)).2.1
            pure (some true)
          else pure (some true)) (fun r s'=>wpAny (model prog w) A (match r with | some added=>pure added | none=>do return ← setAddHashedIn a (.int k tk) ((intKind prog w).hash k) 99999) Q E s') E { s with toks:=s.toks + 1 }:=by
      refine wpAny_bind (wpAny_storeSet_of ho hd ?_ (fits_of_scanBound hb1))
      have g1:=zO es1 t1 ho hd
      have sb1:=Heap.SameBut.update s.heap a (Obj.putSet es1 t1)
      split
      · have r1:=relayAll_perm t1 es1 (SetTable.grown es1.size)
        have r2:=relayAll_fits t1 es1 (SetTable.grown es1.size)
        have r3:=q3.R8 es1 (SetTable.grown es1.size)
        generalize relayAll t1 es1 (SetTable.grown es1.size)=Rl at r1 r2 r3 ⊢
        obtain ⟨es2,t3,gv2⟩:=Rl
        dsimp only at r1 r2 r3 ⊢
        refine wpAny_bind (gw _ ?_)
        refine wpAny_bind (wpAny_storeSet_of g1 rfl ?_ (fits_of_scanBound (by rw [← Array.length_toList,r1.length_eq,Array.length_toList];exact hb1)))
        have g2:=zO es2 t3 g1 rfl
        exact wpAny_pure (wpAny_pure (fin _ es2 t3 _ g2 (sb1.trans (Heap.SameBut.update _ a _)) r1 r2 r3))
      · exact wpAny_pure (wpAny_pure (fin _ es1 t1 _ g1 sb1 (List.Perm.refl _) q2 q3))
    split
    · rw [hbv]
      exact wpAny_bind (wpAny_pure tail)
    · exact wpAny_bind (wpAny_pure tail)
theorem Ck.setO {h:Heap} {ks:List Int} (S:Ck prog w h a ks):∃ es ep t,rG w h a es ep t∧es.size<scanBound∧(∀ v∈es.toList.map (·.2),∃ tk,v=.int (vInt v) tk)∧((es.toList.map (·.2)).map vInt).Perm ks:=by
  obtain ⟨o,es,ep,t,ho,hx,hd,he,hp,hb,hf,T⟩:=S.ex
  refine ⟨es,ep,t,⟨⟨o,ho,hx.1,hd⟩,?_,T⟩,hb,fun v hv=>?_,by rw [List.map_map];exact hp⟩
  · simp only [SetTable.fits,Bool.and_eq_true,beq_iff_eq,decide_eq_true_eq] at hf;exact hf
  · obtain ⟨e,h1,rfl⟩:=List.mem_map.mp hv
    exact wQ he h1
end
end L2
namespace L2
open PySem PyProof.Rows
section
variable {prog:Program} {w:World} {A:Around} {E:Value→Shared→Prop} {R:Result→Shared→Prop} {s:Shared}
theorem Dh {vs:List Value} {ns:List Int} (h:IntsAre vs ns) (i:Nat) {v:Value} (e:vs[i]?=some v):∃ tk,v=.int (ns.getD i 0) tk:=h.int_at i v e
theorem Dg {vs:List Value} {ns:List Int} (h:IntsAre vs ns):vs.length=ns.length:=h.length
theorem Di {l I S:Addr} {items:Array Value} {ns:List Int} (hh:A.in1.handled=none) (hli:l≠I) (hSI:S≠I) (hSl:S≠l) (hi:IntsAre items.toList ns) (hb:ns.length + 1<scanBound) :
    ∀ (k i:Nat) (s:Shared),ns.length - i=k→i≤ns.length→s.heap.IsListIter I l i→s.heap.IsList l items→Ck prog w s.heap S ((ns.take i).foldl m8 []) →
      (∀ h' tk,Ck prog w h' S (ns.foldl m8 [])→(∀ b o,b≠S→b≠I→s.heap.get? b=some o→h'.get? b=some o)→R (.ok (.ret .none)) { s with heap:=h',toks:=tk }) →
      codeAny (model prog w) A (.builtin "set.update.loop" ⟨[.ref S,.ref I],[]⟩) R s:=by
  have hsz:items.size=ns.length:=by rw [← Dg hi];simp
  have fl:∀ (l:List Int) (b:List Int),(l.foldl m8 b).length≤b.length + l.length:=by
    intro l
    induction l with
    | nil=>intro b;simp
    | cons x l ih =>
      intro b
      have h1:=ih (m8 b x)
      have h2:(m8 b x).length≤b.length + 1:=by unfold m8;split <;> simp
      simp only [List.foldl_cons,List.length_cons]
      omega
  intro k
  induction k with
  | zero =>
    intro i s hk hle It hl hS hR
    have hin:i=ns.length:=by omega
    subst hin
    refine codeAny_builtin PyProof.Rows.F.entry_set_update_loop ?_
    rw [Around.under_plainId PyProof.Rows.F.plain_set_update_loop _]
    show wpAny _ A.in1 (pyNext (.ref I) >>= fun _=>_) _ _ s
    refine wpAny_bind (wpAny_pyNext_list_end hh It hl (by rw [← hsz];simp) fun h' he=>?_)
    have q:Ck prog w h' S (ns.foldl m8 []):=by
      obtain ⟨o,es,ep,t,ho,r⟩:=hS.ex
      rw [List.take_length] at r
      exact ⟨o,es,ep,t,he S o hSI ho,r⟩
    exact wpAny_pure (hR h' s.toks q fun b o _ hbI e=>he b o hbI e)
  | succ k ih =>
    intro i s hk hle It hl hS hR
    have hlt:i<ns.length:=by omega
    have hlt':i<items.size:=by omega
    refine codeAny_builtin PyProof.Rows.F.entry_set_update_loop ?_
    rw [Around.under_plainId PyProof.Rows.F.plain_set_update_loop _]
    show wpAny _ A.in1 (pyNext (.ref I) >>= fun _=>_) _ _ s
    refine wpAny_bind (wpAny_pyNext_list_item It hl (x:=items[i]) (by rw [Array.getElem?_eq_getElem hlt']) fun h' It' hs'=>?_)
    obtain ⟨tk,hx⟩:=Dh hi i (v:=items[i]) (by rw [Array.getElem?_toList,Array.getElem?_eq_getElem hlt'])
    rw [hx]
    have hS1:Ck prog w h' S ((ns.take i).foldl m8 []):=by
      obtain ⟨o,es,ep,t,ho,r⟩:=hS.ex
      exact ⟨o,es,ep,t,hs'.extBut S o hSI ho,r⟩
    show wpAny _ A.in1 (holding [Value.int (ns.getD i 0) tk] (setAdd S (.int (ns.getD i 0) tk)) >>= fun _=>_) _ _ { s with heap:=h' }
    have hlen:((ns.take i).foldl m8 []).length + 1<scanBound:=by
      have:=fl (ns.take i) []
      rw [List.length_take] at this
      simp only [List.length_nil] at this
      omega
    refine wpAny_bind (wpAny_holding (Kd hS1 hlen fun h2 t2 b hle2 sb hS2=>?_))
    have e1:ns.take (i + 1)=ns.take i++[ns.getD i 0]:=by
      rw [List.take_succ,List.getElem?_eq_getElem hlt,List.getD_eq_getElem?_getD,List.getElem?_eq_getElem hlt];rfl
    refine wpAny_pure ⟨plainId_quiet PyProof.Rows.F.plain_set_update_loop _,ih (i + 1) _ (by omega) hlt ?_ ?_ ?_ fun h3 t3 hS3 k3=>?_⟩
    · obtain ⟨o,ho,r⟩:=It'
      exact ⟨o,sb.extBut I o (Ne.symm hSI) ho,r⟩
    · exact (hl.extBut hs'.extBut hli).extBut sb.extBut (Ne.symm hSl)
    · rw [e1,List.foldl_append]
      exact hS2
    · exact hR h3 t3 hS3 fun b o hbS hbI e=>k3 b o hbS hbI (sb.extBut b o hbS (hs'.extBut b o hbI e))
abbrev gb (w:World):Obj:={ cls:=.type "set",dict:=none,data:=.set #[] 0 (.fresh 0 0 (Ro w)) }
theorem uR (v:Value) {Q:Value→Shared→Prop} (h:Q (.ref s.heap.objs.size) { s with heap:=s.heap.push (gb w) }) :
    codeAny (model prog w) A (.call (.builtin "set.__new__") ⟨[.type "set",v],[]⟩) (wants Q E) s:=by
  refine codeAny_of_tree ?_
  show wpAny _ A.in1 (checkBuiltinCall "set.__new__" ⟨[.type "set",v],[]⟩ >>= fun _=>again (.builtin "set.__new__" ⟨[.type "set",v],[]⟩)) _ _ s
  refine wpAny_bind (wpAny_of_eq (F.newCall_set_1 v) (wpAny_pure ⟨plainId_quiet F.plain_set_new _,codeAny_builtin F.entry_set_new ?_⟩))
  rw [Around.under_plainId F.plain_set_new _]
  unfold Builtin.«set.__new__» Builtin.Frozenset.newClass
  have hsub:=sub_set_self
  obtain ⟨hp,g,d,tk,os⟩:=s
  dsimp only
  wp_walk
  refine wpAny_askSetting (wpAny_pure ?_)
  dsimp only
  simp only [newObj]
  exact wpAny_bind (wpAny_alloc (wpAny_pure (wpAny_pure h)))
abbrev J2 (prog:Program) (w:World) (s:Shared) (ns:List Int) (s2:Shared):Prop :=
  ∃ h' tk,s2={ s with heap:=h',toks:=tk }∧Ck prog w h' s.heap.objs.size (ns.foldl m8 [])∧∀ b o,s.heap.get? b=some o→h'.get? b=some o
set_option maxHeartbeats 8000000 in
theorem Bh {l:Addr} {items:Array Value} {ns:List Int} (hh:A.handled=none) (hl:s.heap.IsList l items) (hi:IntsAre items.toList ns) (hb:ns.length + 1<scanBound) :
    wpAny (model prog w) A.in1 (Builtin.«set.__init__» ⟨[.ref s.heap.objs.size,.ref l],[]⟩) (fun fin s'=>fin=.done (.ret .none)∧J2 prog w s ns s') E { s with heap:=s.heap.push (gb w) }:=by
  have hS:(s.heap.push (gb w)).get? s.heap.objs.size=some (gb w):=Heap.get?_push_size _ rfl
  have hT:Shared.TypeIs { s with heap:=s.heap.push (gb w) } (.ref s.heap.objs.size) "set":=⟨_,hS,rfl⟩
  have hl0:=hl
  obtain ⟨⟨oc,od,oda,osl⟩,hol,hcl,nl,hdl⟩:=hl0
  dsimp only at hcl hdl
  subst hcl hdl
  have hol':=Heap.get?_push_of_some (gb w) hol
  have z1:=F.sub_list_set
  have z2:=F.sub_list_frozenset
  have z3:(Value.type "list" == Value.type "dict")=false:=by decide
  unfold Builtin.«set.__init__» noKeywords Builtin.Frozenset.updateFrom
  generalize hPI:pyIter=PI
  wp_walk
  subst hPI
  have hlS:l<s.heap.objs.size:=Heap.lt_size hol
  have hszp:(s.heap.push (gb w)).objs.size=s.heap.objs.size + 1:=Heap.size_push _ _
  refine wpAny_pyIter_list (hl.push (gb w)) (wpAny_bind (wpAny_runValue ?_))
  refine Di (A:=A.in1) (l:=l) (I:=(s.heap.push (gb w)).objs.size) (S:=s.heap.objs.size) (items:=items) (by simp [hh]) (Nat.ne_of_lt (by rw [hszp];exact Nat.lt_succ_of_lt hlS)) (Nat.ne_of_lt (by rw [hszp];exact Nat.lt_succ_self _)) (Nat.ne_of_gt hlS) hi hb ns.length 0 _ (by omega) (Nat.zero_le _)
    ⟨_,Heap.get?_push_size _ rfl,rfl,rfl⟩ ((hl.push _).push _) ?_ fun h' tk hS' hk=>?_
  · exact ⟨_,#[],0,_,Heap.get?_push_of_some _ hS,⟨rfl,rfl,rfl⟩,rfl,fun e he=>by simp at he,by simp,by decide,by rfl,TOk.fresh _⟩
  · show wpAny _ _ _ _ _ _
    refine wpAny_pure (show wpAny _ _ (ret Value.none) _ _ _ from wpAny_pure ⟨rfl,h',tk,rfl,hS',fun b o e=>?_⟩)
    have hbl:=Heap.lt_size e
    exact hk b o (Nat.ne_of_lt hbl) (by rw [hszp];exact Nat.ne_of_lt (Nat.lt_succ_of_lt hbl)) (Heap.get?_push_of_some _ (Heap.get?_push_of_some _ e))
set_option maxHeartbeats 8000000 in
theorem BX {l:Addr} {items:Array Value} {ns:List Int} {Q:Value→Shared→Prop} (hh:A.handled=none) (hl:s.heap.IsList l items) (hi:IntsAre items.toList ns) (hb:ns.length + 1<scanBound)
    (h:∀ h' tk,Ck prog w h' s.heap.objs.size (ns.foldl m8 [])→(∀ b o,s.heap.get? b=some o→h'.get? b=some o)→Q (.ref s.heap.objs.size) { s with heap:=h',toks:=tk }) :
    wpAny (model prog w) A (call (.type "set") [.ref l]) Q E s:=by
  have y0:=F.called_set
  obtain ⟨c,tl,y1⟩:=y0.mro
  have y2:=y0.made
  have y3:=y0.sub
  have y4:=y0.notType
  have y5:=y0.canCreate
  have y6:=F.typeCall_set_1 (.ref l)
  refine wpAny_call (codeAny_of_tree (show wpAny _ _ (callAny (.type "set") _) _ _ _ from wpAny_pure ⟨Code.quiet_builtin _ (by decide +kernel),codeAny_builtin F.entry_type_call ?_⟩))
  rw [Around.under_plain (weight_type_call_type "set" [.ref l] []) rfl]
  repeat any_goals first | assumption | wp_step
  refine codeAny_mono (uR (.ref l) (E:=E) (Q:=fun ob s1=>ob=.ref s.heap.objs.size∧s1={ s with heap:=s.heap.push (gb w) }) ⟨rfl,rfl⟩) fun r s1 hr=>?_
  match r,hr with
  | .error e,hr=>exact hr
  | .ok .next,hr=>exact hr.elim
  | .ok .brk,hr=>exact hr.elim
  | .ok .cont,hr=>exact hr.elim
  | .ok (.ret ob),hr =>
    obtain ⟨rfl,rfl⟩:=hr
    have hT:Shared.TypeIs { s with heap:=s.heap.push (gb w) } (.ref s.heap.objs.size) "set":=⟨_,Heap.get?_push_size _ rfl,rfl⟩
    have y7:=y0.init.lookup
    have y8:=y0.init.bind (.ref s.heap.objs.size)
    repeat any_goals first | assumption | wp_step
    refine codeAny_mono (codeAny_call_builtin (R:=wants (fun r s2=>r=.none∧J2 prog w s ns s2) E) y0.init.plain F.entry_set_init (check_set_init_1 hT (wpAny_mono (Bh hh hl hi hb) (fun fin s' q=>?_) fun _ _ q=>q))) fun r2 s2 hr2=>?_
    · obtain ⟨rfl,q⟩:=q
      exact ⟨rfl,q⟩
    · match r2,hr2 with
      | .error e,hr2=>exact hr2
      | .ok .next,hr2=>exact hr2.elim
      | .ok .brk,hr2=>exact hr2.elim
      | .ok .cont,hr2=>exact hr2.elim
      | .ok (.ret r),hr2 =>
        obtain ⟨rfl,h',tk,rfl,hS',hk'⟩:=hr2
        repeat any_goals first | assumption | wp_step
        exact h _ _ hS' hk'
theorem xO {a:Addr} {ks:List Int} {Q:Value→Shared→Prop} (hh:A.handled=none) (S:Ck prog w s.heap a ks) (h64:ks.length<64)
    (h:∀ (x:Addr) (vs:List Value) (ms:List Int) (h':Heap) d' tk c,s.heap.objs.size≤x→(∀ b o,s.heap.get? b=some o→h'.get? b=some o)→h'.get? x=some (seqObj "list" vs.toArray c)→IntsAre vs ms→ms.Perm ks→ms.Pairwise (·≤·)→Q (.ref x) { s with heap:=h',drawn:=d',toks:=tk }) :
    wpAny (model prog w) A (call (.builtin "sorted") [.ref a]) Q E s:=by
  obtain ⟨es,ep,t,So,hb,hv,hp⟩:=S.setO
  refine Calls.call_function_entry kind_sorted plain_sorted entry_sorted (args_sorted1 _) ?_
  unfold Builtin.«sorted»
  refine wpAny_bind (m:=checkCount "sorted" 1 1 _) (wpAny_pure ?_)
  refine wpAny_bind (vq So hb (show A.in1.handled=none from hh) fun vs h' d' tk hsz hk pv=>?_)
  have hI:∀ l:List Value,(∀ v∈l,∃ tk,v=.int (vInt v) tk)→IntsAre l (l.map vInt):=by
    intro l
    induction l with
    | nil=>intro _;exact .nil
    | cons v l ih =>
      intro q
      obtain ⟨tk,e⟩:=q v List.mem_cons_self
      rw [List.map_cons,e]
      exact .cons _ tk (ih fun u hu=>q u (List.mem_cons_of_mem _ hu))
  have hvi:=hI vs fun v hm=>hv v (pv.mem_iff.mp hm)
  have hpk:(vs.map vInt).Perm ks:=(pv.map vInt).trans hp
  have h64':vs.length<64:=by rw [← hpk.length_eq] at h64;simpa using h64
  refine wpAny_bind (wpAny_newList ?_ (by rw [sizeLine_eq];omega))
  have hoL:(h'.push (seqObj "list" vs.toArray 0)).get? h'.objs.size=some (seqObj "list" vs.toArray 0):=Heap.get?_push_size _ rfl
  refine wpAny_bind (wpAny_holding (wpAny_call_entry slot_list_sort ⟨_,hoL,rfl⟩ entry_list_sort (list_sort_tree hoL hvi h64' fun out ms a1 a2 a3=>⟨_,rfl,?_⟩) (args_list_sort _)))
  obtain ⟨c,hc⟩:=sortedHeap_at (out:=out) hoL
  refine wpAny_pure ⟨_,rfl,h _ out.toList ms _ d' tk c (Nat.le_of_lt hsz) (fun b o e=>?_) (by simpa using hc) a1 (a2.trans hpk) a3⟩
  have hbl:b<h'.objs.size:=Heap.lt_size (hk b o e)
  rw [sortedHeap_old (Nat.ne_of_lt hbl) (by rw [size_push'];exact Nat.lt_succ_of_lt hbl)]
  exact Heap.get?_push_of_some _ (hk b o e)
end
end L2
namespace L2
open PySem PySem.Spec PyProof.Rows
theorem Fj (ks:List Int) (k x:Int):x∈m8 ks k↔x∈ks∨x=k:=by
  unfold m8
  split
  · rename_i h
    exact ⟨.inl,fun q=>q.elim id fun e=>e ▸ h⟩
  · rw [List.mem_append,List.mem_singleton]
theorem Li {ks:List Int} (h:ks.Nodup) (k:Int):(m8 ks k).Nodup:=by
  unfold m8
  split
  · exact h
  · rename_i hn
    refine List.nodup_append.mpr ⟨h,by simp,fun a ha b hb=>?_⟩
    rw [List.mem_singleton.mp hb]
    exact fun e=>hn (e ▸ ha)
theorem Bq:∀ (ns ks:List Int),ks.Nodup→(ns.foldl m8 ks).Nodup∧(ns.foldl m8 ks).length≤ks.length + ns.length∧∀ x,x∈ns.foldl m8 ks↔x∈ks∨x∈ns:=by
  intro ns
  induction ns with
  | nil=>intro ks h;exact ⟨h,Nat.le_refl _,fun x=>by simp⟩
  | cons n ns ih =>
    intro ks h
    obtain ⟨a1,a2,a3⟩:=ih (m8 ks n) (Li h n)
    have a4:(m8 ks n).length≤ks.length + 1:=by unfold m8;split <;> simp
    refine ⟨a1,by simp only [List.foldl_cons,List.length_cons];omega,fun x=>?_⟩
    rw [List.foldl_cons,a3,Fj,List.mem_cons,or_assoc]
theorem sE:∀ {ms:List Int},ms.Pairwise (·≤·)→ms.Nodup→ms.Pairwise (·<·)
  | [],_,_=>.nil
  | a :: l,h,nd=>by
    obtain ⟨h1,h2⟩:=List.pairwise_cons.mp h
    obtain ⟨n1,n2⟩:=List.nodup_cons.mp nd
    refine List.pairwise_cons.mpr ⟨fun b hb=>?_,sE h2 n2⟩
    have:=h1 b hb
    rcases Int.lt_or_lt_of_ne (fun e:a=b=>n1 (e ▸ hb)) with q | q
    · exact q
    · omega
def CT (K:PySem.W.Frag) (ta:TA):TE:=fun σ H Q=>ta σ H fun vs H1=>∃ (p:Addr) (ns:List Int),vs=[.ref p]∧SqL K H1 p (ns.map V.int)∧ns.length<64∧∀ (l:Addr) (ms:List Int),H1 l=none→ms.Pairwise (·<·)→(∀ x,x∈ms↔x∈ns)→ms.length≤ns.length→Q (.ref l) (upd H1 l (.lst (ms.map V.int)))
section
variable {X:Cx}
theorem Inv.K6 {pins:List (Addr × Obj)} {σ:St} {H:Hp} {s:Shared} (I:Inv X pins σ H s) (d':PySem.Drawn):Inv X pins σ H { s with drawn:=d' } :=
  ⟨I.ok,I.os,I.bare,I.base,I.loc,I.cell,I.free,I.freeC,I.pin,I.hok,I.len⟩
theorem xW {e:Expr} {ta:TA} {p1 p2 p3 pos:Pos} (hcalm:X.calm=true) (hgs:Gl X "sorted") (hms:X.mg "sorted"=none) (hgr:Gl X "set") (hmr:X.mg "set"=none) (ha:PA X [e] ta) (hs:starEach [e] X.env=[(false,eval e X.env)]:=by rfl) :
    PE X (.Call (.Name "sorted" p1) [.Call (.Name "set" p2) [e] [] p3] [] pos) (CT X.K ta):=by
  intro pins s σ H Q I h
  refine Call_ (iJ I hgs hms boot_sorted ?_)
  refine Calls.callWith_builtin rfl (Calls.evalArgs_plain ?_)
  refine Calls.spliced_cons (Call_ (iJ I hgr hmr PyProof.Rows.boot_set (PyProof.Rows.callWith_type1 (thn (ha p3 pins s σ H _ I h) fun us s1 ⟨vs,H1,I1,r1,q1⟩=>?_) hs rfl)))
  obtain ⟨p,ns,e1,hq,hn,q⟩:=q1
  subst e1
  obtain ⟨u,rfl,ru⟩:=vals1 r1
  cases ru
  obtain ⟨its,r2,p2',hz⟩:=I1.list hq
  have hi:IntsAre its ns:=intsAre_of r2
  have hhd:=I.ok.hd hcalm
  refine BX hhd p2'.isList (by simpa using hi) (by unfold scanBound;omega) fun h' tk S hk=>?_
  refine Calls.spliced_nil ?_
  obtain ⟨f1,f2,f3⟩:=Bq ns [] List.nodup_nil
  refine xO hhd S (by simp at f2;omega) fun x vs ms h2 d2 tk2 c hx hk2 hox hi2 hp hle=>?_
  have I2:Inv X pins σ H1 { s1 with heap:=h',toks:=tk }:=I1.kept fun b o e=>hk b o e
  have hml:ms.length≤ns.length:=by rw [hp.length_eq];simp at f2;exact f2
  refine ⟨.ref x,_,Inv.K6 (I2.laid (t':=tk2) hk2 hx (show eG X.prog X.w _ h2 _ (.lst (ms.map V.int)) from ⟨by rw [List.length_map,sizeLine_eq];omega,vs,c,nq hi2,hox⟩)) d2,rfl,q _ _ (I2.hok.fresh hx) (sE hle (hp.nodup_iff.mpr f1)) (fun y=>by rw [hp.mem_iff,f3];simp) hml⟩
theorem xR (bs:List Bool):((List.range bs.length).any fun i=>(bs[i]?).getD false)=bs.any id:=by
  rw [Bool.eq_iff_iff,List.any_eq_true,List.any_eq_true]
  constructor
  · rintro ⟨i,hi,h⟩
    rw [List.mem_range] at hi
    rw [List.getElem?_eq_getElem hi] at h
    exact ⟨_,List.getElem_mem hi,h⟩
  · rintro ⟨b,hb,h⟩
    obtain ⟨i,hi,rfl⟩:=List.getElem_of_mem hb
    exact ⟨i,List.mem_range.mpr hi,by rw [List.getElem?_eq_getElem hi];exact h⟩
theorem wW (hc:X.calm=true):mQ X (.builtin "any") (fun xs H Q=>∃ (p:Addr) (bs:List Bool),xs=[.ref p]∧SqL X.K H p (bs.map V.bl)∧Q (.bl (bs.any id)) H):=by
  intro pins s σ H xs us Q I r h
  obtain ⟨p,bs,rfl,hq,q⟩:=h
  obtain ⟨u,rfl,ru⟩:=vals1 r
  cases ru
  obtain ⟨its,r1,p1,hz⟩:=I.list hq
  have hl:=p1.isList
  have hlt:p<s.heap.objs.size:=p1.lt
  have hlen:=r1.length
  rw [List.length_map] at hlen
  refine call_any_walk (wpAny_pyIter_list hl ?_)
  refine ⟨s.heap.objs.size,[s.heap.objs.size,p],[s.heap.objs.size],its.toArray.size,_,_,fun i=>(bs[i]?).getD false,rfl,Walks.list (A:=X.A.in1) (I.ok.hd hc) _ p (Nat.ne_of_lt hlt) its.toArray,
    ⟨⟨_,Heap.get?_push_size _ rfl,rfl,rfl⟩,hl.push _⟩,fun i v s' Q' E' hP hQ=>?_,fun h' tk hk=>?_⟩
  · have hP':its[i]?=some v:=by simpa using hP
    have hi:i<bs.length:=by
      have:=(List.getElem?_eq_some_iff.mp hP').1
      omega
    obtain ⟨u,eu,ru⟩:=r1.get (x:=.bl bs[i]) (by rw [List.getElem?_map,List.getElem?_eq_getElem hi];rfl)
    rw [hP'] at eu
    cases eu
    cases ru
    dsimp only at hQ
    rw [List.getElem?_eq_getElem hi] at hQ
    exact wpAny_truthy_bool hQ
  · have e:((List.range its.toArray.size).any fun i=>(bs[i]?).getD false)=bs.any id:=by
      rw [List.size_toArray,← hlen];exact xR bs
    rw [e]
    refine ⟨.bl _,H,I.kept fun b o eo=>hk b o (fun hm=>?_) (Heap.get?_push_of_some _ eo),rfl,q⟩
    rw [List.mem_singleton.mp hm] at eo
    exact Nat.lt_irrefl _ (Heap.lt_size eo)
end
end L2
namespace Rv
def cG (r:List Int):Prop:=∃ rk:Nat→Nat,(∀ i,i<r.length→rk i<r.length) ∧
  ∀ (i:Nat) (x:Int),r[i]?=some x→x=-1∨(0≤x∧x<r.length∧rk x.toNat<rk i)
def nxt (r:List Int) (p:Int):Int:=r.getD p.toNat (-1)
theorem jB {r:List Int} {p:Int} (h0:0≤p) (h1:p<r.length):r[p.toNat]?=some (nxt r p):=by
  have h:p.toNat<r.length:=by omega
  unfold nxt
  rw [List.getD_eq_getElem?_getD,List.getElem?_eq_getElem h];rfl
theorem cG.step {r:List Int} (h:cG r) {p:Int} (h0:0≤p) (h1:p<r.length):nxt r p=-1∨(0≤nxt r p∧nxt r p<r.length):=by
  obtain ⟨rk,_,h3⟩:=h
  rcases h3 _ _ (jB h0 h1) with e | ⟨a,b,_⟩
  · exact .inl e
  · exact .inr ⟨a,b⟩
def nj (r:List Int):Nat→Int→List Int
  | 0,_=>[]
  | f + 1,p=>if p=-1 then [] else p :: nj r f (nxt r p)
def walk (r:List Int) (p:Int):List Int:=nj r (r.length + 1) p
theorem j7 (r:List Int) (f:Nat):nj r f (-1)=[]:=by
  cases f with
  | zero=>rfl
  | succ f=>unfold nj;rw [if_pos rfl]
theorem fJ (r:List Int):walk r (-1)=[]:=j7 r _
theorem mq {r:List Int} {rk:Nat→Nat} (h:∀ (i:Nat) (x:Int),r[i]?=some x→x=-1∨(0≤x∧x<r.length∧rk x.toNat<rk i)) :
    ∀ (f g:Nat) (p:Int),0≤p→p<r.length→rk p.toNat<f→rk p.toNat<g→nj r f p=nj r g p
  | 0,_,_,_,_,hf,_=>by omega
  | _ + 1,0,_,_,_,_,hg=>by omega
  | f + 1,g + 1,p,h0,h1,hf,hg=>by
    unfold nj
    rw [if_neg (by omega),if_neg (by omega)]
    rcases h _ _ (jB h0 h1) with e | ⟨a,b,c⟩
    · rw [e,j7,j7]
    · rw [mq h f g _ a b (by omega) (by omega)]
theorem bB {r:List Int} (h:cG r) {p:Int} (h0:0≤p) (h1:p<r.length):walk r p=p :: walk r (nxt r p):=by
  obtain ⟨rk,h2,h3⟩:=h
  show nj r (r.length + 1) p=_
  unfold nj
  rw [if_neg (by omega)]
  rcases h3 _ _ (jB h0 h1) with e | ⟨a,b,c⟩
  · rw [e,j7,fJ]
  · have:=h2 p.toNat (by omega)
    unfold walk
    rw [mq h3 r.length (r.length + 1) _ a b (by omega) (by omega)]
theorem J6 {r:List Int} (h:cG r) {p:Int} (h0:0≤p) (h1:p<r.length):walk r p≠[]:=by
  rw [bB h h0 h1];exact List.cons_ne_nil _ _
theorem rJ (r:List Int):∀ (f:Nat) (p:Int),(nj r f p).length≤f
  | 0,_=>Nat.le_refl _
  | f + 1,p=>by
    unfold nj
    split
    · exact Nat.zero_le _
    · exact Nat.succ_le_succ (rJ r f _)
theorem j6 (r:List Int) (p:Int):(walk r p).length≤r.length + 1:=rJ r _ _
theorem cG.ind {r:List Int} (h:cG r) {P:Int→Prop} (hm:P (-1)) (hs:∀ p:Int,0≤p→p<r.length→P (nxt r p)→P p):∀ p:Int,0≤p→p<r.length→P p:=by
  obtain ⟨rk,_,h3⟩:=h
  have key:∀ (n:Nat) (p:Int),0≤p→p<r.length→rk p.toNat<n→P p:=by
    intro n
    induction n with
    | zero=>intro p _ _ h;omega
    | succ n ih =>
      intro p h0 h1 h2
      refine hs p h0 h1 ?_
      rcases h3 _ _ (jB h0 h1) with e | ⟨a,b,c⟩
      · rw [e];exact hm
      · exact ih _ a b (by omega)
  exact fun p h0 h1=>key _ p h0 h1 (Nat.lt_succ_self _)
theorem jk {r:List Int} (h:cG r):∀ p:Int,0≤p→p<r.length→∀ q∈walk r p,0≤q∧q<r.length:=by
  refine h.ind (P:=fun p=>∀ q∈walk r p,0≤q∧q<r.length) ?_ ?_
  · intro q hq;rw [fJ] at hq;cases hq
  · intro p h0 h1 ih q hq
    rw [bB h h0 h1] at hq
    rcases List.mem_cons.mp hq with e | e
    · rw [e];exact ⟨h0,h1⟩
    · exact ih q e
noncomputable def mea (r:List Int) (p:Int):Nat:=(walk r p).length
theorem Gb {r:List Int} (h:cG r) {p:Int} (h0:0≤p) (h1:p<r.length):mea r (nxt r p)<mea r p:=by
  unfold mea;rw [bB h h0 h1];exact Nat.lt_succ_self _
theorem xg {r:List Int} (h:cG r):∃ rk:Nat→Nat,∀ p:Int,0≤p→p<r.length→(walk r p).Nodup∧∀ q∈walk r p,rk q.toNat≤rk p.toNat:=by
  obtain ⟨rk,h2,h3⟩:=id h
  refine ⟨rk,?_⟩
  have key:=h.ind (P:=fun p=>(walk r p).Nodup∧(0≤p→∀ q∈walk r p,rk q.toNat≤rk p.toNat)) ?_ ?_
  · exact fun p h0 h1=>⟨(key p h0 h1).1,(key p h0 h1).2 h0⟩
  · rw [fJ];exact ⟨List.nodup_nil,fun h=>by omega⟩
  · intro p h0 h1 ⟨nd,ih⟩
    rw [bB h h0 h1]
    rcases h3 _ _ (jB h0 h1) with e | ⟨a,b,c⟩
    · rw [e,fJ]
      refine ⟨by simp,fun _ q hq=>?_⟩
      have:q=p:=by simpa using hq
      rw [this];exact Nat.le_refl _
    · have ih':=ih a
      refine ⟨List.nodup_cons.mpr ⟨fun hm=>?_,nd⟩,fun _ q hq=>?_⟩
      · have:=ih' p hm
        omega
      · rcases List.mem_cons.mp hq with e | e
        · rw [e];exact Nat.le_refl _
        · have:=ih' q e;omega
theorem ql {r:List Int} (h:cG r) {p:Int} (h0:0≤p) (h1:p<r.length):(walk r p).Nodup:=by
  obtain ⟨rk,k⟩:=xg h
  exact (k p h0 h1).1
end Rv
namespace Rv
def tot:Nat→(Nat→Int)→Int
  | 0,_=>0
  | n + 1,f=>tot n f + f n
theorem jw {n:Nat} {f g:Nat→Int} (h:∀ i,i<n→f i=g i):tot n f=tot n g:=by
  induction n with
  | zero=>rfl
  | succ n ih=>unfold tot;rw [ih fun i hi=>h i (by omega),h n (by omega)]
theorem uG (n:Nat) (f g:Nat→Int):tot n (fun i=>f i + g i)=tot n f + tot n g:=by
  induction n with
  | zero=>rfl
  | succ n ih=>unfold tot;rw [ih];dsimp only;omega
theorem mU {n:Nat} {f:Nat→Int} (h:∀ i,i<n→f i=0):tot n f=0:=by
  induction n with
  | zero=>rfl
  | succ n ih=>unfold tot;rw [ih fun i hi=>h i (by omega),h n (by omega)];rfl
theorem CQ (n m:Nat) (f:Nat→Nat→Int):tot n (fun i=>tot m (fun j=>f i j))=tot m (fun j=>tot n (fun i=>f i j)):=by
  induction n with
  | zero=>exact (mU fun _ _=>rfl).symm
  | succ n ih=>show tot n _ + tot m _=_;rw [ih,← uG];rfl
theorem yS {n k:Nat} (f:Nat→Int) (hk:k<n):tot n (fun i=>if i=k then f i else 0)=f k:=by
  induction n with
  | zero=>omega
  | succ n ih =>
    unfold tot
    dsimp only
    by_cases h:k=n
    · subst h
      rw [if_pos rfl,mU fun i hi=>if_neg (by omega)];omega
    · rw [ih (by omega),if_neg (fun (z:n=k)=>h z.symm)];omega
theorem J8 (n:Nat) (c:Int) (f:Nat→Int):tot n (fun i=>c * f i)=c * tot n f:=by
  induction n with
  | zero=>simp [tot]
  | succ n ih=>unfold tot;rw [ih,Int.mul_add]
theorem J9 (n:Nat) (f:Nat→Int) (p:Prop) [Decidable p]:tot n (fun i=>if p then f i else 0)=if p then tot n f else 0:=by
  by_cases h:p
  · rw [if_pos h];exact jw fun i _=>if_pos h
  · rw [if_neg h];exact mU fun i _=>if_neg h
def lsum:List Nat→(Nat→Int)→Int
  | [],_=>0
  | k :: l,f=>f k + lsum l f
theorem jM (f:Nat→Int):∀ (l m:List Nat),lsum (l++m) f=lsum l f + lsum m f
  | [],m=>by show _=0 + _;rw [Int.zero_add];rfl
  | k :: l,m=>by show f k + lsum (l++m) f=f k + lsum l f + lsum m f;rw [jM f l m];omega
theorem sZ {f:Nat→Int} {l m:List Nat} (h:l.Perm m):lsum l f=lsum m f:=by
  induction h with
  | nil=>rfl
  | cons k _ ih=>show f k + _=f k + _;rw [ih]
  | swap a b l=>show f b + (f a + _)=f a + (f b + _);omega
  | trans _ _ h1 h2=>exact h1.trans h2
theorem lU (f:Nat→Int):∀ n,lsum (List.range n) f=tot n f
  | 0=>rfl
  | n + 1=>by rw [List.range_succ,jM,lU f n];show _ + (f n + 0)=_ + f n;omega
theorem sY {f:Nat→Int}:∀ {l:List Nat},(∀ k∈l,f k=0)→lsum l f=0
  | [],_=>rfl
  | k :: l,h=>by show f k + lsum l f=0;rw [h k List.mem_cons_self,sY fun j hj=>h j (List.mem_cons_of_mem _ hj)];rfl
def one (p:Prop) [Decidable p]:Int:=if p then 1 else 0
def mL (r s:List Int) (i:Int):Int:=tot r.length fun j=>if i∈walk r (j:Int) then s.getD j 0 else 0
theorem met {r:List Int} (h:cG r) {i:Int} (hi:0≤i):∀ p:Int,0≤p→p<r.length→one (i∈walk r p)=one (p=i) + tot r.length fun k=>if nxt r (k:Int)=i then one ((k:Int)∈walk r p) else 0:=by
  have key:=h.ind (P:=fun p=>(p=-1∨(0≤p∧p<r.length))→one (i∈walk r p)=one (p=i) + tot r.length fun k=>if nxt r (k:Int)=i then one ((k:Int)∈walk r p) else 0) ?_ ?_
  · exact fun p h0 h1=>key p h0 h1 (.inr ⟨h0,h1⟩)
  · intro _
    rw [fJ,mU fun k _=>?_]
    · unfold one;rw [if_neg (by simp),if_neg (by omega)];rfl
    · unfold one;rw [if_neg (show ¬ (k:Int)∈([]:List Int) by simp)];split <;> rfl
  · intro p h0 h1 ih _
    have ih':=ih (h.step h0 h1)
    have nd:=ql h h0 h1
    rw [bB h h0 h1] at nd ⊢
    obtain ⟨np,_⟩:=List.nodup_cons.mp nd
    have e1:one (i∈p :: walk r (nxt r p))=one (p=i) + one (i∈walk r (nxt r p)):=by
      unfold one
      by_cases hpi:p=i
      · subst hpi
        rw [if_pos List.mem_cons_self,if_pos rfl,if_neg np];rfl
      · rw [if_neg hpi]
        by_cases hm:i∈walk r (nxt r p)
        · rw [if_pos (List.mem_cons_of_mem _ hm),if_pos hm];rfl
        · rw [if_neg hm,if_neg fun z=>?_];· rfl
          rcases List.mem_cons.mp z with z | z
          · exact hpi z.symm
          · exact hm z
    have e2:(tot r.length fun k=>if nxt r (k:Int)=i then one ((k:Int)∈p :: walk r (nxt r p)) else 0) =
        one (nxt r p=i) + tot r.length fun k=>if nxt r (k:Int)=i then one ((k:Int)∈walk r (nxt r p)) else 0:=by
      have:(tot r.length fun k=>if nxt r (k:Int)=i then one ((k:Int)∈p :: walk r (nxt r p)) else 0) =
          tot r.length fun k=>(if k=p.toNat then (fun k=>if nxt r (k:Int)=i then (1:Int) else 0) k else 0) + if nxt r (k:Int)=i then one ((k:Int)∈walk r (nxt r p)) else 0:=by
        refine jw fun k hk=>?_
        by_cases hn:nxt r (k:Int)=i
        · simp only [if_pos hn]
          by_cases hkp:k=p.toNat
          · have hkp':(k:Int)=p:=by omega
            rw [if_pos hkp,hkp']
            unfold one
            rw [if_pos List.mem_cons_self,if_neg np];rfl
          · have hkp':¬ (k:Int)=p:=by omega
            rw [if_neg hkp]
            unfold one
            by_cases hm:(k:Int)∈walk r (nxt r p)
            · rw [if_pos (List.mem_cons_of_mem _ hm),if_pos hm];rfl
            · rw [if_neg hm,if_neg fun z=>?_];· rfl
              rcases List.mem_cons.mp z with z | z
              · exact hkp' z
              · exact hm z
        · simp only [if_neg hn];split <;> rfl
      rw [this,uG,yS _ (by omega)]
      have e:((p.toNat:Nat):Int)=p:=by omega
      show (if nxt r ((p.toNat:Nat):Int)=i then (1:Int) else 0) + _=_
      rw [e];rfl
    rw [e1,e2,ih']
theorem wF {r:List Int} (h:cG r) (s:List Int) {i:Nat} (hi:i<r.length):mL r s (i:Int)=s.getD i 0 + tot r.length fun k=>if nxt r (k:Int)=(i:Int) then mL r s (k:Int) else 0:=by
  have e:mL r s (i:Int)=tot r.length fun j=>(if j=i then s.getD j 0 else 0) + tot r.length fun k=>if nxt r (k:Int)=(i:Int) then (if (k:Int)∈walk r (j:Int) then s.getD j 0 else 0) else 0:=by
    refine jw fun j hj=>?_
    have m:=met h (i:=(i:Int)) (by omega) (j:Int) (by omega) (by omega)
    have e1:(if (i:Int)∈walk r (j:Int) then s.getD j 0 else 0)=s.getD j 0 * one ((i:Int)∈walk r (j:Int)):=by unfold one;split <;> simp
    rw [e1,m,Int.mul_add,← J8]
    congr 1
    · unfold one
      by_cases hji:j=i
      · rw [if_pos (by omega),if_pos hji];simp
      · rw [if_neg (by omega),if_neg hji];simp
    · refine jw fun k hk=>?_
      split
      · unfold one;split <;> simp
      · simp
  rw [e,uG,yS (fun j=>s.getD j 0) hi,CQ]
  congr 1
  refine jw fun k hk=>?_
  rw [J9]
  rfl
def iW (r:List Int) (a b:Int):List Int:=if b=-1 then walk r a else (walk r a).takeWhile (fun x=>!decide (x=b))
def Stop (r:List Int) (a b:Int):Prop:=b=-1∨b∈walk r a
theorem yX {r:List Int} {a b x:Int} (h:x∈iW r a b):x∈walk r a:=by
  unfold iW at h
  split at h
  · exact h
  · exact (List.takeWhile_prefix _).subset h
theorem Dc {r:List Int} (h:cG r) {a b:Int} (h0:0≤a) (h1:a<r.length):(iW r a b).Nodup:=by
  unfold iW
  split
  · exact ql h h0 h1
  · exact (ql h h0 h1).sublist (List.takeWhile_sublist _)
end Rv
namespace Rv
structure Fl (n:Nat) (fl:List Int) (g:Nat→Int):Prop where
  len:fl.length=n
  at_:∀ i,i<n→fl[i]?=some (g i)
theorem Fl.of (fl:List Int):Fl fl.length fl (fun i=>fl.getD i 0):=⟨rfl,fun i hi=>by rw [List.getElem?_eq_getElem hi,List.getD_eq_getElem?_getD,List.getElem?_eq_getElem hi];rfl⟩
theorem Fl.uz {n:Nat} {fl:List Int} {g g':Nat→Int} (h:Fl n fl g) (e:∀ i,i<n→g i=g' i):Fl n fl g':=⟨h.len,fun i hi=>by rw [h.at_ i hi,e i hi]⟩
theorem Fl.set {n:Nat} {fl:List Int} {g g':Nat→Int} {j:Nat} {y:Int} (h:Fl n fl g) (hj:j<n) (e:∀ i,i<n→i≠j→g' i=g i) (ey:y=g' j):Fl n (fl.set j y) g' :=
  ⟨by rw [List.length_set];exact h.len,fun i hi=>by
    by_cases hij:i=j
    · subst hij;rw [List.getElem?_set_self (by rw [h.len];exact hj),ey]
    · rw [List.getElem?_set_ne (Ne.symm hij),h.at_ i hi,e i hi hij]⟩
theorem Fl.ext {n:Nat} {fl fl':List Int} {g:Nat→Int} (h:Fl n fl g) (h':Fl n fl' g):fl=fl':=by
  apply List.ext_getElem?
  intro i
  by_cases hi:i<n
  · rw [h.at_ i hi,h'.at_ i hi]
  · rw [List.getElem?_eq_none (by rw [h.len];omega),List.getElem?_eq_none (by rw [h'.len];omega)]
theorem Fl.getD {n:Nat} {fl:List Int} {g:Nat→Int} (h:Fl n fl g) {i:Nat} (hi:i<n):fl.getD i 0=g i:=by
  rw [List.getD_eq_getElem?_getD,h.at_ i hi];rfl
theorem Fl.map (n:Nat) (g:Nat→Int):Fl n ((List.range n).map g) g:=⟨by simp,fun i hi=>by rw [List.getElem?_map,List.getElem?_range hi];rfl⟩
theorem Fl.rep (n:Nat) (x:Int):Fl n (List.replicate n x) fun _=>x:=⟨by simp,fun i hi=>by rw [List.getElem?_replicate,if_pos hi]⟩
def kap (r:List Int) (i:Nat):Int:=(i:Int) - 64 * ((walk r (i:Int)).length:Int)
structure CG (r:List Int) (p:List Nat):Prop where
  perm:p.Perm (List.range r.length)
  ord:p.Pairwise fun i j=>kap r i<kap r j
theorem CG.len {r:List Int} {p:List Nat} (h:CG r p):p.length=r.length:=by rw [h.perm.length_eq,List.length_range]
theorem CG.lt {r:List Int} {p:List Nat} (h:CG r p) {j:Nat} (hj:j∈p):j<r.length:=List.mem_range.mp (h.perm.mem_iff.mp hj)
theorem CG.first {r:List Int} {p p1 p2:List Nat} {j k:Nat} (h:CG r p) (hR:cG r) (h64:r.length<64) (e:p=p1++j :: p2) (hk:k<r.length) (hn:nxt r (k:Int)=(j:Int)):k∈p1:=by
  have hjm:j∈p:=by rw [e];simp
  have hj:=h.lt hjm
  have hkm:k∈p:=h.perm.mem_iff.mpr (List.mem_range.mpr hk)
  have hw:(walk r (k:Int)).length=(walk r (j:Int)).length + 1:=by rw [bB hR (p:=(k:Int)) (by omega) (by omega),hn,List.length_cons]
  have hlt:kap r k<kap r j:=by unfold kap;omega
  rw [e] at hkm
  rcases List.mem_append.mp hkm with z | z
  · exact z
  · have ord:=h.ord
    rw [e,List.pairwise_append] at ord
    rcases List.mem_cons.mp z with z | z
    · subst z;omega
    · have:=(List.pairwise_cons.mp ord.2.1).1 k z
      omega
def nats (r s:List Int):List Int:=(List.range r.length).map fun (i:Nat)=>mL r s (i:Int)
theorem jY (r s:List Int):Fl r.length (nats r s) fun i=>mL r s (i:Int):=Fl.map _ _
def wZ (r s:List Int) (p:List Nat) (t:Nat) (fl:List Int):Prop:=Fl r.length fl fun i=>s.getD i 0 + lsum (p.take t) fun k=>if nxt r (k:Int)=(i:Int) then mL r s (k:Int) else 0
theorem wZ.start (r s:List Int) (p:List Nat) (hs:s.length=r.length):wZ r s p 0 s:=by
  have:=Fl.of s
  rw [hs] at this
  exact this.uz fun i _=>by rw [List.take_zero];show _=_ + 0;omega
theorem take_cons {p:List Nat} {t j:Nat} (h:p[t]?=some j):p.take (t + 1)=p.take t++[j]:=by rw [List.take_add_one,h];rfl
theorem wZ.here {r s:List Int} {p:List Nat} {t j:Nat} {fl:List Int} (T:CG r p) (hR:cG r) (h64:r.length<64) (h:wZ r s p t fl) (hj:p[t]?=some j):fl[j]?=some (mL r s (j:Int)):=by
  have hjl:=T.lt (List.mem_of_getElem? hj)
  rw [h.at_ j hjl,wF hR s hjl]
  congr 2
  rw [← lU,← sZ T.perm]
  obtain ⟨ht,et⟩:=List.getElem?_eq_some_iff.mp hj
  have e:p=p.take t++j :: p.drop (t + 1):=by
    rw [← et,List.getElem_cons_drop,List.take_append_drop]
  conv=>rhs;rw [e]
  rw [jM]
  have z:lsum (j :: p.drop (t + 1)) (fun k=>if nxt r (k:Int)=(j:Int) then mL r s (k:Int) else 0)=0:=by
    refine sY fun k hk=>if_neg fun hn=>?_
    have hkp:k∈p:=by rw [e];exact List.mem_append_right _ hk
    have h1:=T.first hR h64 e (T.lt hkp) hn
    have nd:p.Nodup:=T.perm.nodup_iff.mpr List.nodup_range
    rw [e,List.nodup_append] at nd
    exact nd.2.2 k h1 k hk rfl
  rw [z];omega
theorem wZ.SJ {r s:List Int} {p:List Nat} {t j:Nat} {fl:List Int} (h:wZ r s p t fl) (hj:p[t]?=some j) (hm:nxt r (j:Int)=-1):wZ r s p (t + 1) fl :=
  Fl.uz h fun i _=>by
    rw [take_cons hj,jM]
    show _=_ + (_ + ((if nxt r (j:Int)=(i:Int) then mL r s (j:Int) else 0) + 0))
    rw [if_neg (by omega)];omega
theorem wZ.turn {r s:List Int} {p:List Nat} {t j b:Nat} {fl:List Int} (T:CG r p) (hR:cG r) (h64:r.length<64) (h:wZ r s p t fl) (hj:p[t]?=some j) (hb:nxt r (j:Int)=(b:Int)) (hbl:b<r.length) {x:Int} (hx:fl[b]?=some x) :
    wZ r s p (t + 1) (fl.set b (x + mL r s (j:Int))):=by
  refine Fl.set h hbl (fun i _ hib=>?_) ?_
  · rw [take_cons hj,jM]
    show _ + (_ + ((if nxt r (j:Int)=(i:Int) then mL r s (j:Int) else 0) + 0))=_
    rw [if_neg (by omega)];omega
  · rw [h.at_ b hbl] at hx
    rw [← Option.some.inj hx,take_cons hj,jM]
    show _=_ + (_ + ((if nxt r (j:Int)=(b:Int) then mL r s (j:Int) else 0) + 0))
    rw [if_pos hb];omega
theorem wZ.done {r s:List Int} {p:List Nat} {fl:List Int} (T:CG r p) (hR:cG r) (h:wZ r s p r.length fl):fl=nats r s:=by
  refine Fl.ext (g:=fun i=>mL r s (i:Int)) (Fl.uz h fun i hi=>?_) (jY r s)
  rw [← T.len,List.take_length,wF hR s hi,← lU,sZ T.perm]
abbrev Mv:=Int × Int × Int
def KJ (r:List Int) (ms:List Mv) (i:Int):Int:=(ms.map fun m=>if i∈iW r m.1 m.2.1 then m.2.2 else 0).sum
def Vj (r s:List Int) (ms:List Mv):List Int:=(List.range r.length).map fun (i:Nat)=>mL r s (i:Int) - KJ r ms (i:Int)
theorem Br (r s:List Int) (ms:List Mv):Fl r.length (Vj r s ms) fun i=>mL r s (i:Int) - KJ r ms (i:Int):=Fl.map _ _
def MvI (r:List Int) (g:Nat→Int) (am:Int) (pre:List Int) (fl:List Int):Prop:=Fl r.length fl fun i=>g i - if (i:Int)∈pre then am else 0
theorem MvI.start {r:List Int} {g:Nat→Int} {fl:List Int} (am:Int) (h:Fl r.length fl g):MvI r g am [] fl:=Fl.uz h fun i _=>by rw [if_neg (by simp)];omega
theorem MvI.turn {r:List Int} {g:Nat→Int} {am:Int} {pre:List Int} {fl:List Int} (h:MvI r g am pre fl) {j:Nat} (hj:j<r.length) (hn:¬ (j:Int)∈pre) {x:Int} (hx:fl[j]?=some x):MvI r g am (pre++[(j:Int)]) (fl.set j (x - am)):=by
  refine Fl.set h hj (fun i _ hij=>?_) ?_
  · have:((i:Int)∈pre++[(j:Int)])=((i:Int)∈pre):=by
      apply propext;simp;omega
    simp only [this]
  · rw [h.at_ j hj,if_neg hn] at hx
    rw [← Option.some.inj hx,if_pos (by simp)];omega
end Rv
namespace Rv
end Rv
namespace Rv
end Rv
namespace Rv
theorem yR:∀ (s:List Int),(tot s.length fun i=>s.getD i 0)=s.sum:=by
  intro s
  have key:∀ (n:Nat),n≤s.length→(tot n fun i=>s.getD i 0)=(s.take n).sum:=by
    intro n
    induction n with
    | zero=>intro _;rfl
    | succ n ih =>
      intro h
      show tot n _ + s.getD n 0=_
      rw [ih (by omega),List.take_add_one,List.sum_append,List.getD_eq_getElem?_getD,List.getElem?_eq_getElem (by omega)]
      simp
  rw [key s.length (Nat.le_refl _),List.take_length]
end Rv
namespace Rv
def wsum (r s:List Int) (t:Nat) (i:Nat):Int:=tot t fun j=>if (i:Int)∈walk r (j:Int) then s.getD j 0 else 0
theorem yI {r s:List Int} {t:Nat} {fl:List Int} (h:MvI r (wsum r s t) (-(s.getD t 0)) (walk r (t:Int)) fl):Fl r.length fl (wsum r s (t + 1)) :=
  Fl.uz h fun i _=>by
    show wsum r s t i - (if (i:Int)∈walk r (t:Int) then -(s.getD t 0) else 0)=wsum r s t i + if (i:Int)∈walk r (t:Int) then s.getD t 0 else 0
    split <;> omega
end Rv
namespace Rv
end Rv
namespace Tn
def d8:Nat→(Nat→Int)→Int
  | 0,_=>0
  | n + 1,f=>d8 n f + f n
theorem aW {f g:Nat→Int}:∀ {n:Nat},(∀ k,k<n→f k=g k)→d8 n f=d8 n g
  | 0,_=>rfl
  | n + 1,h=>by
    show d8 n f + f n=d8 n g + g n
    rw [aW fun k hk=>h k (by omega),h n (by omega)]
theorem lK {f g:Nat→Int}:∀ {n:Nat},(∀ k,k<n→f k≤g k)→d8 n f≤d8 n g
  | 0,_=>Int.le_refl _
  | n + 1,h=>by
    show d8 n f + f n≤d8 n g + g n
    have a:=lK fun k hk=>h k (Nat.lt_succ_of_lt hk)
    have b:=h n (Nat.lt_succ_self n)
    omega
theorem yW {f g:Nat→Int} {i:Nat}:∀ {n:Nat},i<n→(∀ k,k<n→f k≤g k)→f i<g i→d8 n f<d8 n g
  | 0,hi,_,_=>absurd hi (Nat.not_lt_zero _)
  | n + 1,hi,h,hl=>by
    show d8 n f + f n<d8 n g + g n
    by_cases e:i=n
    · subst e
      have a:=lK fun k hk=>h k (Nat.lt_succ_of_lt hk)
      omega
    · have a:=yW (n:=n) (by omega) (fun k hk=>h k (Nat.lt_succ_of_lt hk)) hl
      have b:=h n (Nat.lt_succ_self n)
      omega
theorem gG (f g:Nat→Int):∀ n:Nat,d8 n (fun k=>f k + g k)=d8 n f + d8 n g
  | 0=>rfl
  | n + 1=>by
    show d8 n _ + (f n + g n)=d8 n f + f n + (d8 n g + g n)
    rw [gG f g n];omega
theorem qw (f g:Nat→Int):∀ n:Nat,d8 n (fun k=>f k - g k)=d8 n f - d8 n g
  | 0=>rfl
  | n + 1=>by
    show d8 n _ + (f n - g n)=d8 n f + f n - (d8 n g + g n)
    rw [qw f g n];omega
theorem dI:∀ n:Nat,d8 n (fun _=>0)=0
  | 0=>rfl
  | n + 1=>by show d8 n _ + 0=0;rw [dI n];rfl
theorem j9 {i:Nat} (c:Int):∀ {n:Nat},i<n→d8 n (fun k=>if k=i then c else 0)=c
  | 0,hi=>absurd hi (Nat.not_lt_zero _)
  | n + 1,hi=>by
    show d8 n _ + (if n=i then c else 0)=c
    by_cases e:n=i
    · subst e
      rw [if_pos rfl,aW (g:=fun _=>0) fun k hk=>if_neg (by omega),dI];omega
    · rw [if_neg e,j9 c (by omega)];omega
theorem uI {f:Nat→Int} {n:Nat} (h:∀ k,k<n→0≤f k):0≤d8 n f:=by
  have:=lK (f:=fun _=>0) (g:=f) h
  rw [dI] at this;exact this
theorem nC {f:Nat→Int} {n i:Nat} (hi:i<n) (h:∀ k,k<n→0≤f k):f i≤d8 n f:=by
  have:=lK (f:=fun k=>if k=i then f i else 0) (g:=f) (n:=n) fun k hk=>by
    by_cases e:k=i
    · subst e;rw [if_pos rfl];exact Int.le_refl _
    · rw [if_neg e];exact h k hk
  rw [j9 _ hi] at this;exact this
def hold (n:Nat) (W:Nat→List Int) (x:Nat→Int) (r:Int):Int:=d8 n fun k=>if r∈W k then x k else 0
theorem K4 {n i:Nat} {W:Nat→List Int} {x y:Nat→Int} {r:Int} (hi:i<n) (hr:r∈W i) (h:∀ k,k<n→r∈W k→x k≤y k) (hl:x i<y i):hold n W x r<hold n W y r :=
  yW hi (fun k hk=>by
    by_cases e:r∈W k
    · rw [if_pos e,if_pos e];exact h k hk e
    · rw [if_neg e,if_neg e];exact Int.le_refl _) (by rw [if_pos hr,if_pos hr];exact hl)
theorem pW {n:Nat} {W:Nat→List Int} {x y:Nat→Int} {r:Int} (h:∀ k,k<n→r∈W k→x k=y k):hold n W x r=hold n W y r :=
  aW fun k hk=>by
    by_cases e:r∈W k
    · rw [if_pos e,if_pos e];exact h k hk e
    · rw [if_neg e,if_neg e]
def put (x:Nat→Int) (i:Nat) (c:Int):Nat→Int:=fun k=>if k=i then x k + c else x k
theorem wB (x:Nat→Int) (i:Nat) (c:Int):put x i c i=x i + c:=if_pos rfl
theorem nM {x:Nat→Int} {i k:Nat} {c:Int} (h:k≠i):put x i c k=x k:=if_neg h
theorem m5 {n i:Nat} {W:Nat→List Int} {x:Nat→Int} {r c:Int} (hi:i<n):hold n W (put x i c) r=hold n W x r + (if r∈W i then c else 0):=by
  have e:∀ k,k<n→(if r∈W k then put x i c k else 0)=(if r∈W k then x k else 0) + (if k=i then (if r∈W i then c else 0) else 0):=fun k _=>by
    by_cases h1:r∈W k
    · by_cases h2:k=i
      · subst h2;simp [put,h1]
      · simp [put,h1,h2]
    · by_cases h2:k=i
      · subst h2;simp [h1]
      · simp [h1,h2]
  unfold hold
  rw [aW e,gG,j9 _ hi]
theorem jh (n:Nat) (W:Nat→List Int) (r:Int):hold n W (fun _=>0) r=0:=by
  unfold hold
  rw [aW (g:=fun _=>0) fun k _=>by split <;> rfl,dI]
def Fw (d n i d' m j:Int):Prop:=d<d'∨d=d'∧(n<m∨n=m∧i<j)
structure Fit (n:Nat) (F:Int→Int) (W:Nat→List Int) (want x:Nat→Int):Prop where
  nn:∀ k,k<n→0≤x k
  le:∀ k,k<n→x k≤want k
  fits:∀ r,(∃ k,k<n∧r∈W k)→hold n W x r≤F r
def rD (n:Nat) (F:Int→Int) (W:Nat→List Int) (day x:Nat→Int) (k:Nat) (r:Int):Prop :=
  r∈W k∧hold n W x r=F r∧∀ j,j<n→r∈W j→0<x j→Fw (day j) (x j) j (day k) (x k + 1) k
def lW (n:Nat) (F:Int→Int) (W:Nat→List Int) (day want x:Nat→Int):Prop :=
  ∀ k,k<n→x k<want k→∃ r,rD n F W day x k r
theorem pY {P:Nat→Prop} (f:Nat→Nat) (h:∃ k,P k):∃ k,P k∧∀ j,P j→f k≤f j:=by
  obtain ⟨k,hk⟩:=h
  have key:∀ (m k:Nat),f k≤m→P k→∃ k,P k∧∀ j,P j→f k≤f j:=by
    intro m
    induction m with
    | zero=>intro k hk hp;exact ⟨k,hp,fun j _=>by omega⟩
    | succ m ih =>
      intro k hk hp
      by_cases hx:∃ j,P j∧f j<f k
      · obtain ⟨j,hj,hl⟩:=hx
        exact ih j (by omega) hj
      · exact ⟨k,hp,fun j hj=>Classical.byContradiction fun hn=>hx ⟨j,hj,by omega⟩⟩
  exact key (f k) k (Nat.le_refl _) hk
theorem oK {P:Nat→Prop} (f:Nat→Int) (b:Int) (hb:∀ k,P k→b≤f k) (h:∃ k,P k):∃ k,P k∧∀ j,P j→f k≤f j:=by
  obtain ⟨k,hk,hm⟩:=pY (fun k=>(f k - b).toNat) h
  refine ⟨k,hk,fun j hj=>?_⟩
  have a1:=hm j hj
  have a2:=hb k hk
  have a3:=hb j hj
  omega
theorem yq {n:Nat} {day x y:Nat→Int} (hd:∀ k,k<n→0≤day k) (hx:∀ k,k<n→0≤x k) (hy:∀ k,k<n→0≤y k) (h:∃ k,k<n∧x k≠y k) :
    ∃ k,k<n∧x k≠y k∧∀ j,j<n→x j≠y j→j=k∨Fw (day k) (min (x k) (y k)) k (day j) (min (x j) (y j)) j:=by
  obtain ⟨k1,p1,m1⟩:=oK (P:=fun k=>k<n∧x k≠y k) day 0 (fun k hk=>hd k hk.1) h
  obtain ⟨k2,p2,m2⟩:=oK (P:=fun k=>(k<n∧x k≠y k)∧day k=day k1) (fun k=>min (x k) (y k)) 0 (fun k hk=>by
    have a:=hx k hk.1.1
    have b:=hy k hk.1.1
    show (0:Int)≤min (x k) (y k)
    omega) ⟨k1,p1,rfl⟩
  obtain ⟨k3,p3,m3⟩:=pY (P:=fun k=>((k<n∧x k≠y k)∧day k=day k1)∧min (x k) (y k)=min (x k2) (y k2)) (fun k=>k) ⟨k2,p2,rfl⟩
  refine ⟨k3,p3.1.1.1,p3.1.1.2,fun j hj hne=>?_⟩
  have a1:=m1 j ⟨hj,hne⟩
  have a2:=p3.1.2
  by_cases hday:day j=day k1
  · have b1:=m2 j ⟨⟨hj,hne⟩,hday⟩
    have b2:=p3.2
    by_cases hmin:min (x j) (y j)=min (x k2) (y k2)
    · have c1:=m3 j ⟨⟨⟨hj,hne⟩,hday⟩,hmin⟩
      by_cases e:j=k3
      · exact .inl e
      · exact .inr (.inr ⟨by omega,.inr ⟨by omega,by omega⟩⟩)
    · refine .inr (.inr ⟨by omega,.inl ?_⟩)
      have b3:min (x k2) (y k2)≤min (x j) (y j):=b1
      omega
  · exact .inr (.inl (by omega))
theorem jR {n:Nat} {F:Int→Int} {W:Nat→List Int} {day want x y:Nat→Int} (sx:lW n F W day want x) (fy:Fit n F W want y)
    {k:Nat} (hk:k<n) (hne:x k≠y k) (hm:∀ j,j<n→x j≠y j→j=k∨Fw (day k) (min (x k) (y k)) k (day j) (min (x j) (y j)) j):y k<x k:=by
  refine Classical.byContradiction fun hn=>?_
  have hlt:x k<y k:=by omega
  obtain ⟨r,hr,hF,hall⟩:=sx k hk (by have:=fy.le k hk;omega)
  have h1:hold n W x r<hold n W y r:=K4 hk hr (fun j hj hrj=>by
    refine Classical.byContradiction fun hle=>?_
    have hyx:y j<x j:=by omega
    have hjk:j≠k:=fun e=>by subst e;omega
    have hy0:=fy.nn j hj
    rcases hm j hj (by omega) with e | a
    · exact hjk e
    · rw [show min (x k) (y k)=x k by omega,show min (x j) (y j)=y j by omega] at a
      have b:=hall j hj hrj (by omega)
      unfold Fw at a b
      omega) hlt
  have h2:=fy.fits r ⟨k,hk,hr⟩
  omega
theorem unique {n:Nat} {F:Int→Int} {W:Nat→List Int} {day want x y:Nat→Int} (hd:∀ k,k<n→0≤day k) (fx:Fit n F W want x) (sx:lW n F W day want x) (fy:Fit n F W want y) (sy:lW n F W day want y) :
    ∀ k,k<n→x k=y k:=by
  refine Classical.byContradiction fun hn=>?_
  have hex:∃ k,k<n∧x k≠y k:=Classical.byContradiction fun h=>hn fun k hk=>Classical.byContradiction fun hne=>h ⟨k,hk,hne⟩
  obtain ⟨k,hk,hne,hm⟩:=yq hd fx.nn fy.nn hex
  have a:=jR sx fy hk hne hm
  have b:=jR sy fx hk (Ne.symm hne) fun j hj h=>by
    rw [show min (y k) (x k)=min (x k) (y k) by omega,show min (y j) (x j)=min (x j) (y j) by omega]
    exact hm j hj (Ne.symm h)
  omega
end Tn
namespace Tn
def d0:Nat→Int:=fun _=>0
structure yF (n:Nat) (F:Int→Int) (W:Nat→List Int) (want x:Nat→Int) (G:Nat→Bool) (t:Int):Prop where
  fit:Fit n F W want x
  go:∀ k,G k=true→k<n∧x k=t
  top:∀ k,k<n→x k≤t
  done:∀ k,k<n→G k=false→x k<want k→∃ r,rD n F W d0 x k r
theorem yF.start {n:Nat} {F:Int→Int} {W:Nat→List Int} {want:Nat→Int} (hw:∀ k,k<n→0≤want k) (hF:∀ r,(∃ k,k<n∧r∈W k)→0≤F r) :
    yF n F W want (fun _=>0) (fun k=>decide (k<n)) 0 :=
  ⟨⟨fun _ _=>Int.le_refl _,hw,fun r hr=>by rw [jh];exact hF r hr⟩,fun k hk=>⟨by simpa using hk,rfl⟩,fun _ _=>Int.le_refl _,fun k hk hg=>by simp [hk] at hg⟩
theorem yF.finish {n:Nat} {F:Int→Int} {W:Nat→List Int} {want x:Nat→Int} {G:Nat→Bool} {t:Int} (h:yF n F W want x G t) (hG:∀ k,k<n→G k=false):Fit n F W want x∧lW n F W d0 want x :=
  ⟨h.fit,fun k hk hl=>h.done k hk (hG k hk) hl⟩
def cnt (n:Nat) (W:Nat→List Int) (G:Nat→Bool) (r:Int):Int:=hold n W (fun k=>if G k then 1 else 0) r
def jump (x:Nat→Int) (G:Nat→Bool) (m:Int):Nat→Int:=fun k=>if G k then x k + m else x k
theorem oG (n:Nat) (W:Nat→List Int) (x:Nat→Int) (G:Nat→Bool) (m r:Int):hold n W (jump x G m) r=hold n W x r + m * cnt n W G r:=by
  unfold cnt hold jump
  induction n with
  | zero=>simp [d8]
  | succ n ih =>
    simp only [d8]
    rw [ih,Int.mul_add]
    by_cases h1:r∈W n
    · by_cases h2:G n=true
      · simp [h1,h2];omega
      · simp [h1,h2];omega
    · simp [h1]
theorem Lg {n:Nat} {W:Nat→List Int} {G:Nat→Bool} {r:Int} {j:Nat} (hj:j<n) (hr:r∈W j) (hg:G j=true):0<cnt n W G r:=by
  have h:=nC (f:=fun k=>if r∈W k then (if G k then (1:Int) else 0) else 0) hj fun k _=>by
    split
    · split <;> decide
    · decide
  simp only [hr,hg,if_true] at h
  show 0<d8 n fun k=>if r∈W k then (if G k then (1:Int) else 0) else 0
  omega
theorem Rg (n:Nat) (W:Nat→List Int) (G:Nat→Bool) (r:Int):0≤cnt n W G r:=uI fun k _=>by
  show (0:Int)≤if r∈W k then (if G k then (1:Int) else 0) else 0
  split
  · split <;> decide
  · decide
theorem yF.jump {n:Nat} {F:Int→Int} {W:Nat→List Int} {want x:Nat→Int} {G:Nat→Bool} {t m:Int} (h:yF n F W want x G t) (hm:0≤m) (h1:∀ k,G k=true→x k + m≤want k)
    (h2:∀ r,(∃ k,k<n∧r∈W k)→m * cnt n W G r≤F r - hold n W x r):yF n F W want (jump x G m) G (t + m):=by
  refine ⟨⟨fun k hk=>?_,fun k hk=>?_,fun r hr=>?_⟩,fun k hk=>⟨(h.go k hk).1,?_⟩,fun k hk=>?_,fun k hk hg hl=>?_⟩
  · have:=h.fit.nn k hk
    unfold Tn.jump;split <;> omega
  · unfold Tn.jump
    split
    · rename_i hg;exact h1 k hg
    · exact h.fit.le k hk
  · rw [oG]
    have:=h2 r hr
    omega
  · unfold Tn.jump
    rw [if_pos hk,(h.go k hk).2]
  · have:=h.top k hk
    unfold Tn.jump;split <;> omega
  · have ek:Tn.jump x G m k=x k:=by unfold Tn.jump;rw [hg];rfl
    rw [ek] at hl
    obtain ⟨r,hr,hF,hall⟩:=h.done k hk hg hl
    by_cases hm0:m=0
    · have e:Tn.jump x G m=x:=by
        funext j
        unfold Tn.jump
        split <;> omega
      rw [e]
      exact ⟨r,hr,hF,hall⟩
    · have hc:=h2 r ⟨k,hk,hr⟩
      have hno:∀ j,j<n→r∈W j→G j=false:=fun j hj hrj=>by
        cases hgj:G j with
        | false=>rfl
        | true =>
          exfalso
          have p:=Lg hj hrj hgj
          have q:0<m * cnt n W G r:=Int.mul_pos (by omega) p
          omega
      have same:∀ j,j<n→r∈W j→Tn.jump x G m j=x j:=fun j hj hrj=>by unfold Tn.jump;rw [hno j hj hrj];rfl
      refine ⟨r,hr,?_,fun j hj hrj hp=>?_⟩
      · rw [pW (y:=x) same];exact hF
      · rw [same j hj hrj] at hp ⊢
        rw [ek]
        exact hall j hj hrj hp
structure vD (n:Nat) (F:Int→Int) (W:Nat→List Int) (want x:Nat→Int) (G S:Nat→Bool) (t:Int) (p:Nat):Prop where
  fit:Fit n F W want x
  still:∀ k,S k=true→k<p∧k<n∧x k=t + 1
  wait:∀ k,k<n→G k=true→p≤k→x k=t
  low:∀ k,k<n→S k=false→x k≤t
  done:∀ k,k<n→S k=false→(k<p∨G k=false)→x k<want k→∃ r,rD n F W d0 x k r
theorem yF.pass {n:Nat} {F:Int→Int} {W:Nat→List Int} {want x:Nat→Int} {G:Nat→Bool} {t:Int} (h:yF n F W want x G t):vD n F W want x G (fun _=>false) t 0 :=
  ⟨h.fit,(fun _ hk=>by cases hk),fun k _ hg _=>(h.go k hg).2,fun k hk _=>h.top k hk,fun k hk _ hg hl=>by
    rcases hg with z | z
    · exact absurd z (Nat.not_lt_zero _)
    · exact h.done k hk z hl⟩
theorem vD.skip {n:Nat} {F:Int→Int} {W:Nat→List Int} {want x:Nat→Int} {G S:Nat→Bool} {t:Int} {p q:Nat} (h:vD n F W want x G S t p) (hpq:p≤q) (hno:∀ k,p≤k→k<q→G k=false):vD n F W want x G S t q :=
  ⟨h.fit,fun k hk=>⟨by have:=(h.still k hk).1;omega,(h.still k hk).2⟩,fun k hk hg hq=>h.wait k hk hg (by omega),h.low,fun k hk hs hg hl=>by
    refine h.done k hk hs ?_ hl
    rcases hg with z | z
    · by_cases e:k<p
      · exact .inl e
      · exact .inr (hno k (by omega) z)
    · exact .inr z⟩
theorem vD.gets {n:Nat} {F:Int→Int} {W:Nat→List Int} {want x:Nat→Int} {G S:Nat→Bool} {t:Int} {p:Nat} (h:vD n F W want x G S t p) (hp:p<n) (hg:G p=true) (hw:x p<want p) (hfree:∀ r,r∈W p→0<F r - hold n W x r) :
    vD n F W want (put x p 1) G (fun k=>if k=p then true else S k) t (p + 1):=by
  have xp:=h.wait p hp hg (Nat.le_refl _)
  refine ⟨⟨fun k hk=>?_,fun k hk=>?_,fun r hr=>?_⟩,fun k hk=>?_,fun k hk hg hq=>?_,fun k hk hs=>?_,fun k hk hs hq hl=>?_⟩
  · have:=h.fit.nn k hk
    unfold put;split <;> omega
  · by_cases e:k=p
    · subst e;rw [wB];omega
    · rw [nM e];exact h.fit.le k hk
  · rw [m5 hp]
    by_cases e:r∈W p
    · rw [if_pos e];have:=hfree r e;omega
    · rw [if_neg e];have:=h.fit.fits r hr;omega
  · by_cases e:k=p
    · subst e;rw [wB];exact ⟨by omega,hp,by omega⟩
    · simp only [e,if_false] at hk
      obtain ⟨a,b,c⟩:=h.still k hk
      rw [nM e];exact ⟨by omega,b,c⟩
  · rw [nM (by omega)];exact h.wait k hk hg (by omega)
  · by_cases e:k=p
    · simp [e] at hs
    · simp only [e,if_false] at hs
      rw [nM e];exact h.low k hk hs
  · by_cases e:k=p
    · simp [e] at hs
    · simp only [e,if_false] at hs
      rw [nM e] at hl
      obtain ⟨r,hr,hF,hall⟩:=h.done k hk hs (by
        rcases hq with z | z
        · exact .inl (by omega)
        · exact .inr z) hl
      have hrp:¬ r∈W p:=fun z=>by have:=hfree r z;omega
      refine ⟨r,hr,?_,fun j hj hrj hpos=>?_⟩
      · rw [m5 hp,if_neg hrp];omega
      · have hjp:j≠p:=fun z=>hrp (z ▸ hrj)
        rw [nM hjp] at hpos ⊢
        rw [nM e]
        exact hall j hj hrj hpos
theorem vD.ends {n:Nat} {F:Int→Int} {W:Nat→List Int} {want x:Nat→Int} {G S:Nat→Bool} {t:Int} {p:Nat} (h:vD n F W want x G S t p) (hp:p<n) (hg:G p=true) (hn:want p≤x p∨∃ r,r∈W p∧F r - hold n W x r≤0) :
    vD n F W want x G S t (p + 1):=by
  have xp:=h.wait p hp hg (Nat.le_refl _)
  refine ⟨h.fit,fun k hk=>⟨by have:=(h.still k hk).1;omega,(h.still k hk).2⟩,fun k hk hg hq=>h.wait k hk hg (by omega),h.low,fun k hk hs hq hl=>?_⟩
  by_cases e:k=p
  · subst e
    rcases hn with z | ⟨r,hr,hle⟩
    · omega
    · refine ⟨r,hr,?_,fun j hj hrj hpos=>?_⟩
      · have:=h.fit.fits r ⟨k,hk,hr⟩
        omega
      · cases hsj:S j with
        | false =>
          have:=h.low j hj hsj
          exact .inr ⟨rfl,.inl (by omega)⟩
        | true =>
          obtain ⟨a,b,c⟩:=h.still j hsj
          exact .inr ⟨rfl,.inr ⟨by omega,by omega⟩⟩
  · exact h.done k hk hs (by
      rcases hq with z | z
      · exact .inl (by omega)
      · exact .inr z) hl
theorem vD.finish {n:Nat} {F:Int→Int} {W:Nat→List Int} {want x:Nat→Int} {G S:Nat→Bool} {t:Int} (h:vD n F W want x G S t n):yF n F W want x S (t + 1) :=
  ⟨h.fit,fun k hk=>(h.still k hk).2,fun k hk=>by
    cases hs:S k with
    | false=>have:=h.low k hk hs;omega
    | true=>have:=(h.still k hs).2.2;omega,fun k hk hs hl=>h.done k hk hs (.inl hk) hl⟩
end Tn
namespace Tn
def bump (xs w:List Int) (c:Int):List Int:=w.foldl (fun xs r=>xs.set r.toNat (xs.getD r.toNat 0 + c)) xs
theorem Fe (xs:List Int) (c:Int):bump xs [] c=xs:=rfl
theorem tV (xs w:List Int) (r c:Int):bump xs (r :: w) c=bump (xs.set r.toNat (xs.getD r.toNat 0 + c)) w c:=rfl
theorem Cd (xs w:List Int) (r c:Int):bump xs (w++[r]) c=(bump xs w c).set r.toNat ((bump xs w c).getD r.toNat 0 + c):=by
  unfold bump;rw [List.foldl_append];rfl
theorem gJ:∀ (w xs:List Int) (c:Int),(bump xs w c).length=xs.length
  | [],_,_=>rfl
  | r :: w,xs,c=>by rw [tV,gJ w,List.length_set]
theorem m6 {xs:List Int} {i k:Nat} {v:Int} (hi:i<xs.length):(xs.set i v).getD k 0=if k=i then v else xs.getD k 0:=by
  rw [List.getD_eq_getElem?_getD,List.getElem?_set,List.getD_eq_getElem?_getD]
  by_cases h:i=k
  · subst h;simp [hi]
  · have h':¬ k=i:=fun e=>h e.symm
    simp [h,h']
theorem lC:∀ {w xs:List Int} {c:Int},w.Nodup→(∀ r∈w,0≤r∧r<xs.length)→∀ k:Nat,(bump xs w c).getD k 0=xs.getD k 0 + (if (k:Int)∈w then c else 0)
  | [],xs,c,_,_,k=>by simp [Fe]
  | r :: w,xs,c,hw,hin,k=>by
    rw [List.nodup_cons] at hw
    obtain ⟨r0,r1⟩:=hin r List.mem_cons_self
    have hl:r.toNat<xs.length:=by omega
    rw [tV,lC hw.2 (fun q hq=>by rw [List.length_set];exact hin q (List.mem_cons_of_mem _ hq)) k,m6 hl]
    by_cases e:k=r.toNat
    · have ek:(k:Int)=r:=by omega
      have hn:¬ (k:Int)∈w:=by rw [ek];exact hw.1
      rw [if_pos e,if_neg hn,if_pos (by rw [ek];exact List.mem_cons_self),e];omega
    · have ek:¬ (k:Int)=r:=by omega
      rw [if_neg e]
      by_cases h:(k:Int)∈w
      · rw [if_pos h,if_pos (List.mem_cons_of_mem _ h)]
      · rw [if_neg h,if_neg (fun z=>by rcases List.mem_cons.mp z with q | q;exact ek q;exact h q)]
def bumps (xs:List Int) (ps:List (List Int × Int)):List Int:=ps.foldl (fun xs p=>bump xs p.1 p.2) xs
theorem Ca (xs:List Int):bumps xs []=xs:=rfl
theorem qb (xs:List Int) (p:List Int × Int) (ps:List (List Int × Int)):bumps xs (p :: ps)=bumps (bump xs p.1 p.2) ps:=rfl
theorem lV (xs:List Int) (ps:List (List Int × Int)) (p:List Int × Int):bumps xs (ps++[p])=bump (bumps xs ps) p.1 p.2:=by
  unfold bumps;rw [List.foldl_append];rfl
theorem iR:∀ (ps:List (List Int × Int)) (xs:List Int),(bumps xs ps).length=xs.length
  | [],_=>rfl
  | p :: ps,xs=>by rw [qb,iR ps,gJ]
def WOk (n:Nat) (w:List Int):Prop:=w.Nodup∧∀ r∈w,0≤r∧r<(n:Int)
theorem jD:∀ {ps:List (List Int × Int)} {xs:List Int},(∀ p∈ps,WOk xs.length p.1)→∀ k:Nat,(bumps xs ps).getD k 0=xs.getD k 0 + (ps.map fun p=>if (k:Int)∈p.1 then p.2 else 0).sum
  | [],xs,_,k=>by simp [Ca]
  | p :: ps,xs,h,k=>by
    have hp:=h p List.mem_cons_self
    rw [qb,jD (fun q hq=>by rw [gJ];exact h q (List.mem_cons_of_mem _ hq)) k,lC hp.1 hp.2 k,List.map_cons,List.sum_cons]
    omega
theorem CZ {α:Type} (l:List α) (f:α→Int) (g:Nat→Int) (h:∀ k a,l[k]?=some a→g k=f a):(l.map f).sum=d8 l.length g:=by
  have key:∀ n,n≤l.length→((l.take n).map f).sum=d8 n g:=by
    intro n
    induction n with
    | zero=>intro _;rfl
    | succ n ih =>
      intro hn
      have e:l[n]?=some l[n]:=List.getElem?_eq_getElem (by omega)
      rw [List.take_succ,e,List.map_append,List.sum_append,ih (by omega)]
      show _ + (f l[n] + 0)=d8 n g + g n
      rw [h n _ e];omega
  have:=key l.length (Nat.le_refl _)
  rwa [List.take_of_length_le (Nat.le_refl _)] at this
theorem mV {n:Nat} {f:Nat→Int}:∀ {g:List Nat},g.Nodup→(∀ k∈g,k<n)→(g.map f).sum=d8 n fun k=>if k∈g then f k else 0
  | [],_,_=>by simp [dI]
  | a :: g,hn,hl=>by
    rw [List.nodup_cons] at hn
    rw [List.map_cons,List.sum_cons,mV hn.2 fun k hk=>hl k (List.mem_cons_of_mem _ hk)]
    have e:∀ k,k<n→(if k∈a :: g then f k else 0)=(if k=a then f a else 0) + (if k∈g then f k else 0):=fun k _=>by
      by_cases h:k=a
      · subst h;simp [hn.1]
      · simp [h]
    rw [aW e,gG,j9 _ (hl a List.mem_cons_self)]
def shares (fs cs:List Int):List Int:=((fs.zip cs).filter fun p=>decide (0<p.2)).map fun p=>p.1 / p.2
def WT (fs cs rs:List Int) (M:Int):Prop:=(rs++shares fs cs=[]∧M=0)∨∃ m∈rs++shares fs cs,(∀ a∈rs++shares fs cs,m≤a)∧M=max 0 m
theorem pR {fs cs:List Int} {a:Int}:a∈shares fs cs↔∃ (k:Nat) (f c:Int),fs[k]?=some f∧cs[k]?=some c∧0<c∧a=f / c:=by
  unfold shares
  simp only [List.mem_map,List.mem_filter,decide_eq_true_eq]
  constructor
  · rintro ⟨⟨f,c⟩,⟨hm,hc⟩,rfl⟩
    obtain ⟨k,hk,e⟩:=List.getElem_of_mem hm
    have e':(fs.zip cs)[k]?=some (f,c):=by rw [List.getElem?_eq_getElem hk,e]
    rw [List.getElem?_zip_eq_some] at e'
    exact ⟨k,f,c,e'.1,e'.2,hc,rfl⟩
  · rintro ⟨k,f,c,h1,h2,h3,rfl⟩
    exact ⟨(f,c),⟨List.mem_of_getElem? (i:=k) (List.getElem?_zip_eq_some.mpr ⟨h1,h2⟩),h3⟩,rfl⟩
theorem WT.nn {fs cs rs:List Int} {M:Int} (h:WT fs cs rs M):0≤M:=by
  rcases h with ⟨_,e⟩ | ⟨m,_,_,e⟩ <;> omega
theorem WT.low {fs cs rs:List Int} {M:Int} (h:WT fs cs rs M) (hr:∀ a∈rs,0≤a) (hf:∀ a∈fs,0≤a):(∀ a∈rs,M≤a)∧∀ (k:Nat) (f c:Int),fs[k]?=some f→cs[k]?=some c→0<c→M * c≤f:=by
  have hall:∀ a∈rs++shares fs cs,0≤a:=fun a ha=>by
    rcases List.mem_append.mp ha with z | z
    · exact hr a z
    · obtain ⟨k,f,c,h1,h2,h3,rfl⟩:=pR.mp z
      exact Int.ediv_nonneg (hf f (List.mem_of_getElem? h1)) (by omega)
  have hle:∀ a∈rs++shares fs cs,M≤a:=by
    rcases h with ⟨e,_⟩ | ⟨m,hm,hl,rfl⟩
    · intro a ha;rw [e] at ha;cases ha
    · intro a ha
      have:=hl a ha
      have:=hall m hm
      omega
  refine ⟨fun a ha=>hle a (List.mem_append_left _ ha),fun k f c h1 h2 h3=>?_⟩
  exact (Int.le_ediv_iff_mul_le h3).mp (hle _ (List.mem_append_right _ (pR.mpr ⟨k,f,c,h1,h2,h3,rfl⟩)))
end Tn
namespace Tn
structure yH (n:Nat) (F:Int→Int) (W:Nat→List Int) (day want x:Nat→Int) (Pz:Nat→Prop):Prop where
  fit:Fit n F W want x
  shown:∀ k,k<n→Pz k→x k<want k→∃ r,rD n F W day x k r
  zero:∀ k,k<n→¬ Pz k→x k=0
theorem yH.start {n:Nat} {F:Int→Int} {W:Nat→List Int} {day want:Nat→Int} (hw:∀ k,k<n→0≤want k) (hF:∀ r,(∃ k,k<n∧r∈W k)→0≤F r):yH n F W day want (fun _=>0) (fun _=>False) :=
  ⟨⟨fun _ _=>Int.le_refl _,hw,fun r hr=>by rw [jh];exact hF r hr⟩,fun _ _ z=>z.elim,fun _ _ _=>rfl⟩
def over (x:Nat→Int) (g:List Nat) (y:Nat→Int):Nat→Int:=fun k=>if k∈g then y (g.idxOf k) else x k
theorem jC {g:List Nat} {i:Nat} (h:i<g.length):g.getD i 0=g[i]:=by rw [List.getD_eq_getElem?_getD,List.getElem?_eq_getElem h];rfl
theorem eU {g:List Nat} (h:g.Pairwise (·<·)):g.Nodup:=h.imp fun e=>Nat.ne_of_lt e
theorem wM {g:List Nat} (h:g.Nodup) {i:Nat} (hi:i<g.length):g.idxOf g[i]=i:=by
  have h1:g.idxOf g[i]<g.length:=List.idxOf_lt_length_iff.mpr (List.getElem_mem hi)
  exact (List.getElem_inj (h₀:=h1) (h₁:=hi) h).mp (List.getElem_idxOf h1)
theorem lO {x y:Nat→Int} {g:List Nat} (h:g.Nodup) {i:Nat} (hi:i<g.length):over x g y (g.getD i 0)=y i:=by
  unfold over
  rw [jC hi,if_pos (List.getElem_mem hi),wM h hi]
theorem jm {x y:Nat→Int} {g:List Nat} {k:Nat} (h:¬ k∈g):over x g y k=x k:=if_neg h
theorem tH {n:Nat} {W:Nat→List Int} {x y:Nat→Int} {g:List Nat} (r:Int) (hg:g.Nodup) (hn:∀ k∈g,k<n) (hz:∀ k∈g,x k=0) :
    hold n W (over x g y) r=hold n W x r + hold g.length (fun i=>W (g.getD i 0)) y r:=by
  have e:∀ k,k<n→(if r∈W k then over x g y k else 0)=(if r∈W k then x k else 0) + (if k∈g then (if r∈W k then y (g.idxOf k) else 0) else 0):=fun k _=>by
    by_cases h:k∈g
    · unfold over
      rw [if_pos h,if_pos h,hz k h]
      by_cases h2:r∈W k
      · simp [h2]
      · simp [h2]
    · rw [jm h,if_neg h];omega
  have e2:=mV (n:=n) (f:=fun k=>if r∈W k then y (g.idxOf k) else 0) hg hn
  have e3:=CZ g (fun k=>if r∈W k then y (g.idxOf k) else 0) (fun i=>if r∈W (g.getD i 0) then y i else 0) fun i a ha=>by
    obtain ⟨hi,rfl⟩:=List.getElem?_eq_some_iff.mp ha
    rw [jC hi,wM hg hi]
  unfold hold
  rw [aW e,gG,← e2,e3]
theorem yH.step {n:Nat} {F:Int→Int} {W:Nat→List Int} {day want x y:Nat→Int} {Pz:Nat→Prop} {g:List Nat} {d:Int} (D:yH n F W day want x Pz) (hg:g.Pairwise (·<·)) (hgn:∀ k∈g,k<n∧day k=d∧¬ Pz k) (hd:∀ k,Pz k→day k<d)
    (fy:Fit g.length (fun r=>F r - hold n W x r) (fun i=>W (g.getD i 0)) (fun i=>want (g.getD i 0)) y) (sy:lW g.length (fun r=>F r - hold n W x r) (fun i=>W (g.getD i 0)) d0 (fun i=>want (g.getD i 0)) y) :
    yH n F W day want (over x g y) (fun k=>Pz k∨k∈g):=by
  have nd:=eU hg
  have hn:∀ k∈g,k<n:=fun k hk=>(hgn k hk).1
  have hz:∀ k∈g,x k=0:=fun k hk=>D.zero k (hn k hk) (hgn k hk).2.2
  have hh:=fun r=>tH (n:=n) (W:=W) (x:=x) (y:=y) r nd hn hz
  have inv:∀ k∈g,∃ i,i<g.length∧g.getD i 0=k:=fun k hk=>by
    obtain ⟨i,hi,e⟩:=List.getElem_of_mem hk
    exact ⟨i,hi,by rw [jC hi,e]⟩
  have yn:∀ r,0≤hold g.length (fun i=>W (g.getD i 0)) y r:=fun r=>uI fun i hi=>by
    split
    · exact fy.nn i hi
    · exact Int.le_refl _
  refine ⟨⟨fun k hk=>?_,fun k hk=>?_,fun r hr=>?_⟩,fun k hk hp hl=>?_,fun k hk hp=>?_⟩
  · by_cases h:k∈g
    · obtain ⟨i,hi,rfl⟩:=inv k h
      rw [lO nd hi];exact fy.nn i hi
    · rw [jm h];exact D.fit.nn k hk
  · by_cases h:k∈g
    · obtain ⟨i,hi,rfl⟩:=inv k h
      rw [lO nd hi];exact fy.le i hi
    · rw [jm h];exact D.fit.le k hk
  · rw [hh r]
    by_cases h:∃ i,i<g.length∧r∈W (g.getD i 0)
    · have q:hold g.length (fun i=>W (g.getD i 0)) y r≤F r - hold n W x r:=fy.fits r h
      omega
    · have e:hold g.length (fun i=>W (g.getD i 0)) y r=0:=by
        unfold hold
        rw [aW (g:=fun _=>0) fun i hi=>if_neg fun z=>h ⟨i,hi,z⟩,dI]
      have:=D.fit.fits r hr
      omega
  · by_cases h:k∈g
    · obtain ⟨i,hi,rfl⟩:=inv k h
      rw [lO nd hi] at hl
      obtain ⟨r,hr,hF,hall⟩:=sy i hi hl
      refine ⟨r,hr,?_,fun j hj hrj hpos=>?_⟩
      · have q:hold g.length (fun i=>W (g.getD i 0)) y r=F r - hold n W x r:=hF
        rw [hh r,q];omega
      · rw [lO nd hi]
        have dk:=(hgn _ h).2.1
        by_cases hj':j∈g
        · obtain ⟨i',hi',rfl⟩:=inv j hj'
          rw [lO nd hi'] at hpos ⊢
          have dj:=(hgn _ hj').2.1
          have a:=hall i' hi' hrj hpos
          rcases a with a | ⟨_,a⟩
          · exact absurd a (Int.lt_irrefl _)
          · refine .inr ⟨by rw [dk,dj],?_⟩
            rcases a with a | ⟨a,b⟩
            · exact .inl a
            · refine .inr ⟨a,?_⟩
              have hlt:i'<i:=by omega
              have:=List.pairwise_iff_getElem.mp hg i' i hi' hi hlt
              rw [jC hi,jC hi'];omega
        · rw [jm hj'] at hpos
          by_cases hpj:Pz j
          · have:=hd j hpj
            exact .inl (by rw [dk];exact this)
          · have:=D.zero j hj hpj
            omega
    · have hpk:Pz k:=hp.resolve_right h
      rw [jm h] at hl
      obtain ⟨r,hr,hF,hall⟩:=D.shown k hk hpk hl
      have none:∀ i,i<g.length→r∈W (g.getD i 0)→y i=0:=fun i hi hri=>by
        have a:hold g.length (fun i=>W (g.getD i 0)) y r≤F r - hold n W x r:=fy.fits r ⟨i,hi,hri⟩
        have b:=nC (f:=fun i=>if r∈W (g.getD i 0) then y i else 0) hi fun j hj=>by
          show (0:Int)≤if r∈W (g.getD j 0) then y j else 0
          split
          · exact fy.nn j hj
          · exact Int.le_refl _
        have c:=fy.nn i hi
        have e:(if r∈W (g.getD i 0) then y i else 0)=y i:=if_pos hri
        have b':y i≤hold g.length (fun i=>W (g.getD i 0)) y r:=by rw [← e];exact b
        omega
      have same:∀ j,j<n→r∈W j→over x g y j=x j:=fun j hj hrj=>by
        by_cases h2:j∈g
        · obtain ⟨i,hi,rfl⟩:=inv j h2
          rw [lO nd hi,none i hi hrj,hz _ h2]
        · exact jm h2
      refine ⟨r,hr,?_,fun j hj hrj hpos=>?_⟩
      · rw [pW (y:=x) same];exact hF
      · rw [same j hj hrj] at hpos ⊢
        rw [jm h]
        exact hall j hj hrj hpos
  · have h:¬ k∈g:=fun z=>hp (.inr z)
    rw [jm h]
    exact D.zero k hk fun z=>hp (.inl z)
theorem yH.finish {n:Nat} {F:Int→Int} {W:Nat→List Int} {day want x:Nat→Int} {Pz:Nat→Prop} (D:yH n F W day want x Pz) (h:∀ k,k<n→Pz k):Fit n F W want x∧lW n F W day want x:=⟨D.fit,fun k hk hl=>D.shown k hk (h k hk) hl⟩
end Tn
namespace Tn
end Tn
namespace Tn
structure oY (V:Int→Prop) (dn:Int→List Int):Prop where
  valid:∀ {r q:Int},V r→q∈dn r→V q
  refl:∀ {r:Int},V r→r∈dn r
  trans:∀ {a b c:Int},V a→b∈dn a→c∈dn b→c∈dn a
  chain:∀ {a b c:Int},V c→a∈dn c→b∈dn c→a∈dn b∨b∈dn a
  len:∀ {r q:Int},V r→q∈dn r→q≠r→(dn q).length<(dn r).length
def lows (dn:Int→List Int) (R:List Int):List Int:=R.filter fun r=>!(R.any fun q=>decide (q≠r) && decide (q∈dn r))
theorem mY {dn:Int→List Int} {R:List Int} {r:Int}:r∈lows dn R↔r∈R∧∀ q∈R,q∈dn r→q=r:=by
  unfold lows
  simp only [List.mem_filter,Bool.not_eq_true',List.any_eq_false,Bool.and_eq_true,decide_eq_true_eq,not_and]
  constructor
  · rintro ⟨h1,h2⟩
    exact ⟨h1,fun q hq hd=>Classical.byContradiction fun hne=>h2 q hq hne hd⟩
  · rintro ⟨h1,h2⟩
    exact ⟨h1,fun q hq hne hd=>hne (h2 q hq hd)⟩
theorem Ak {V:Int→Prop} {dn:Int→List Int} (Fo:oY V dn) {R:List Int} {s:Int} (hs:V s) (h:∃ r∈R,r∈dn s):∃ r∈lows dn R,r∈dn s:=by
  have key:∀ (m:Nat) (r:Int),(dn r).length≤m→r∈R→r∈dn s→∃ r∈lows dn R,r∈dn s:=by
    intro m
    induction m with
    | zero =>
      intro r hm hr hrs
      have:=Fo.refl (Fo.valid hs hrs)
      have e:dn r=[]:=List.length_eq_zero_iff.mp (by omega)
      rw [e] at this;cases this
    | succ m ih =>
      intro r hm hr hrs
      by_cases hx:∃ q,q∈R∧q∈dn r∧q≠r
      · obtain ⟨q,hq,hd,hne⟩:=hx
        have:=Fo.len (Fo.valid hs hrs) hd hne
        exact ih q (by omega) hq (Fo.trans hs hrs hd)
      · exact ⟨r,mY.mpr ⟨hr,fun q hq hd=>Classical.byContradiction fun hne=>hx ⟨q,hq,hd,hne⟩⟩,hrs⟩
  obtain ⟨r,hr,hrs⟩:=h
  exact key _ r (Nat.le_refl _) hr hrs
def Fv (dn:Int→List Int) (D:List Int):Prop:=D.Nodup∧∀ a∈D,∀ b∈D,b∈dn a→b=a
theorem Al {dn:Int→List Int} {R:List Int} (h:R.Nodup):Fv dn (lows dn R):=⟨h.filter _,fun a ha b hb hd=>(mY.mp ha).2 b (mY.mp hb).1 hd⟩
theorem Fv.tail {dn:Int→List Int} {t:Int} {D:List Int} (h:Fv dn (t :: D)):Fv dn D:=⟨(List.nodup_cons.mp h.1).2,fun a ha b hb=>h.2 a (List.mem_cons_of_mem _ ha) b (List.mem_cons_of_mem _ hb)⟩
theorem Fv.one {V:Int→Prop} {dn:Int→List Int} (Fo:oY V dn) {D:List Int} (h:Fv dn D) {s a b:Int} (hs:V s) (ha:a∈D) (hb:b∈D) (has:a∈dn s) (hbs:b∈dn s):a=b:=by
  rcases Fo.chain hs has hbs with z | z
  · exact h.2 b hb a ha z
  · exact (h.2 a ha b hb z).symm
theorem rC {V:Int→Prop} {dn:Int→List Int} (Fo:oY V dn) {n:Nat} {st:Nat→Int} (hv:∀ k,k<n→V (st k)) (y:Nat→Int):∀ {D:List Int},Fv dn D →
    (D.map fun t=>hold n (fun k=>dn (st k)) y t).sum=d8 n fun k=>if D.any (fun t=>decide (t∈dn (st k))) then y k else 0
  | [],_=>by simp [dI]
  | t :: D,h=>by
    rw [List.map_cons,List.sum_cons,rC Fo hv y h.tail]
    unfold hold
    rw [← gG]
    refine aW fun k hk=>?_
    rw [List.any_cons]
    by_cases h1:t∈dn (st k)
    · have h2:D.any (fun t=>decide (t∈dn (st k)))=false:=by
        rw [List.any_eq_false]
        intro b hb hd
        have hd':b∈dn (st k):=by simpa using hd
        have e:=h.one Fo (hv k hk) List.mem_cons_self (List.mem_cons_of_mem _ hb) h1 hd'
        exact (List.nodup_cons.mp h.1).1 (e ▸ hb)
      simp [h1,h2]
    · simp [h1]
theorem Fy {f g:Int→Int}:∀ {D:List Int},(∀ t∈D,f t≤g t)→(D.map f).sum≤(D.map g).sum
  | [],_=>Int.le_refl _
  | t :: D,h=>by
    rw [List.map_cons,List.map_cons,List.sum_cons,List.sum_cons]
    have a:=h t List.mem_cons_self
    have b:=Fy (f:=f) (g:=g) fun q hq=>h q (List.mem_cons_of_mem _ hq)
    omega
theorem Fz {f g:Int→Int}:∀ {D:List Int},(∀ t∈D,f t=g t)→(D.map f).sum=(D.map g).sum
  | [],_=>rfl
  | t :: D,h=>by
    rw [List.map_cons,List.map_cons,List.sum_cons,List.sum_cons,h t List.mem_cons_self,Fz fun q hq=>h q (List.mem_cons_of_mem _ hq)]
theorem Rc {V:Int→Prop} {dn:Int→List Int} (Fo:oY V dn) {n:Nat} {st:Nat→Int} (hv:∀ k,k<n→V (st k)) {F:Int→Int} {want y:Nat→Int} (fy:Fit n F (fun k=>dn (st k)) want y) {D:List Int} (hD:Fv dn D) (hF:∀ t∈D,0≤F t) :
    d8 n y≤(D.map F).sum + d8 n fun k=>if D.any (fun t=>decide (t∈dn (st k))) then 0 else want k:=by
  have a:=rC Fo hv y hD
  have b:(D.map fun t=>hold n (fun k=>dn (st k)) y t).sum≤(D.map F).sum:=Fy fun t ht=>by
    by_cases h:∃ k,k<n∧t∈dn (st k)
    · exact fy.fits t h
    · have e:hold n (fun k=>dn (st k)) y t=0:=by
        unfold hold
        rw [aW (g:=fun _=>0) fun k hk=>if_neg fun z=>h ⟨k,hk,z⟩,dI]
      rw [e];exact hF t ht
  have c:d8 n y≤(d8 n fun k=>if D.any (fun t=>decide (t∈dn (st k))) then y k else 0) + d8 n fun k=>if D.any (fun t=>decide (t∈dn (st k))) then 0 else want k:=by
    rw [← gG]
    refine lK fun k hk=>?_
    have:=fy.le k hk
    split <;> omega
  omega
theorem Rf {V:Int→Prop} {dn:Int→List Int} (Fo:oY V dn) {n:Nat} {st:Nat→Int} (hv:∀ k,k<n→V (st k)) {F:Int→Int} {want x:Nat→Int} (fx:Fit n F (fun k=>dn (st k)) want x) {D:List Int} (hD:Fv dn D)
    (hdry:∀ t∈D,hold n (fun k=>dn (st k)) x t=F t) (hfull:∀ k,k<n→x k<want k→∃ t∈D,t∈dn (st k)) :
    d8 n x=(D.map F).sum + d8 n fun k=>if D.any (fun t=>decide (t∈dn (st k))) then 0 else want k:=by
  have a:=rC Fo hv x hD
  rw [Fz hdry] at a
  rw [a,← gG]
  refine aW fun k hk=>?_
  have h1:=fx.le k hk
  by_cases h:D.any (fun t=>decide (t∈dn (st k)))=true
  · simp [h]
  · have h2:¬ x k<want k:=fun hl=>by
      obtain ⟨t,ht,hd⟩:=hfull k hk hl
      exact h (List.any_eq_true.mpr ⟨t,ht,by simpa using hd⟩)
    simp [h];omega
theorem most {V:Int→Prop} {dn:Int→List Int} (Fo:oY V dn) {n:Nat} {st:Nat→Int} (hv:∀ k,k<n→V (st k)) {All:List Int} (hA:All.Nodup) (hall:∀ k,k<n→∀ r∈dn (st k),r∈All) {F:Int→Int} (hF:∀ r∈All,0≤F r) {day want x y:Nat→Int}
    (fx:Fit n F (fun k=>dn (st k)) want x) (sx:lW n F (fun k=>dn (st k)) day want x) (fy:Fit n F (fun k=>dn (st k)) want y):d8 n y≤d8 n x:=by
  have hR:(All.filter fun r=>decide (hold n (fun k=>dn (st k)) x r=F r)).Nodup:=hA.filter _
  have hD:=Al (dn:=dn) hR
  have mem:∀ t∈lows dn (All.filter fun r=>decide (hold n (fun k=>dn (st k)) x r=F r)),t∈All∧hold n (fun k=>dn (st k)) x t=F t:=fun t ht=>by
    have:=(mY.mp ht).1
    simpa using this
  rw [Rf Fo hv fx hD (fun t ht=>(mem t ht).2) fun k hk hl=>by
    obtain ⟨r,hr,hFr,_⟩:=sx k hk hl
    exact Ak Fo (hv k hk) ⟨r,by simpa using ⟨hall k hk r hr,hFr⟩,hr⟩]
  exact Rc Fo hv fy hD fun t ht=>hF t (mem t ht).1
end Tn
namespace Tn
end Tn
namespace Tn
def fW (ws:List (List Int)):Nat→List Int:=fun k=>ws.getD k []
def fX (xs:List Int):Nat→Int:=fun k=>xs.getD k 0
def fF (fs:List Int):Int→Int:=fun r=>fs.getD r.toNat 0
def asI (gs:List Nat):List Int:=gs.map fun k:Nat=>(k:Int)
def fG (gs:List Nat):Nat→Bool:=fun k=>decide (k∈gs)
structure oW (fs:List Int) (ws:List (List Int)) (rs l xs:List Int) (gs:List Nat) (t:Int):Prop where
  ll:l.length=fs.length
  xl:xs.length=ws.length
  left:∀ r:Nat,r<fs.length→l.getD r 0=fs.getD r 0 - hold ws.length (fW ws) (fX xs) (r:Int)
  srt:gs.Pairwise (·<·)
  inv:yF ws.length (fF fs) (fW ws) (fX rs) (fX xs) (fG gs) t
theorem oJ (fs:List Int) (r:Nat):fF fs (r:Int)=fs.getD r 0:=by unfold fF;rw [Int.toNat_natCast]
theorem n6 {ws:List (List Int)} {k:Nat} (hk:k<ws.length):fW ws k∈ws:=by
  unfold fW
  rw [List.getD_eq_getElem?_getD,List.getElem?_eq_getElem hk];exact List.getElem_mem hk
theorem iz (n k:Nat):(List.replicate n (0:Int)).getD k 0=0:=by
  rw [List.getD_eq_getElem?_getD,List.getElem?_replicate]
  split <;> rfl
theorem oW.start {fs:List Int} {ws:List (List Int)} {rs:List Int} (hf:∀ a∈fs,0≤a) (hr:∀ a∈rs,0≤a) (hws:∀ w∈ws,WOk fs.length w):oW fs ws rs fs (List.replicate ws.length 0) (List.range ws.length) 0:=by
  have e:fX (List.replicate ws.length 0)=fun _=>0:=by
    funext k;exact iz _ _
  have g0:∀ (l:List Int) (k:Nat),(∀ a∈l,0≤a)→0≤l.getD k 0:=fun l k h=>by
    rw [List.getD_eq_getElem?_getD]
    cases hk:l[k]? with
    | none=>exact Int.le_refl _
    | some a=>exact h a (List.mem_of_getElem? hk)
  refine ⟨rfl,by simp,fun r hr=>?_,List.pairwise_lt_range,?_⟩
  · rw [e,jh];omega
  · rw [e,show fG (List.range ws.length)=fun k=>decide (k<ws.length) from by funext k;simp [fG]]
    exact yF.start (fun k _=>g0 rs k hr) fun r _=>g0 fs _ hf
theorem oW.nn {fs:List Int} {ws:List (List Int)} {rs l xs:List Int} {gs:List Nat} {t:Int} (h:oW fs ws rs l xs gs t) (hf:∀ a∈fs,0≤a):∀ a∈l,0≤a:=fun a ha=>by
  obtain ⟨r,hr,rfl⟩:=List.getElem_of_mem ha
  have hr':r<fs.length:=by rw [← h.ll];exact hr
  have e:l[r]=l.getD r 0:=by rw [List.getD_eq_getElem?_getD,List.getElem?_eq_getElem hr];rfl
  rw [e,h.left r hr']
  by_cases hx:∃ k,k<ws.length∧(r:Int)∈fW ws k
  · have:=h.inv.fit.fits r hx
    rw [oJ] at this
    omega
  · have e0:hold ws.length (fW ws) (fX xs) (r:Int)=0:=by
      unfold hold
      rw [aW (g:=fun _=>0) fun k hk=>if_neg fun z=>hx ⟨k,hk,z⟩,dI]
    have:=hf fs[r] (List.getElem_mem hr')
    have e1:fs.getD r 0=fs[r]:=by rw [List.getD_eq_getElem?_getD,List.getElem?_eq_getElem hr'];rfl
    omega
def Cz (n:Nat) (ws:List (List Int)) (gs:List Nat):List Int:=bumps (List.replicate n 0) (gs.map fun k=>(fW ws k,1))
theorem Fb {n:Nat} {ws:List (List Int)} {gs:List Nat} (hws:∀ w∈ws,WOk n w) (hg:gs.Nodup) (hn:∀ k∈gs,k<ws.length) (r:Nat):(Cz n ws gs).getD r 0=cnt ws.length (fW ws) (fG gs) (r:Int):=by
  unfold Cz
  rw [jD (fun p hp=>by
    obtain ⟨k,hk,rfl⟩:=List.mem_map.mp hp
    rw [List.length_replicate]
    exact hws _ (n6 (hn k hk))) r,iz,List.map_map]
  have e:=mV (n:=ws.length) (f:=fun k=>if (r:Int)∈fW ws k then (1:Int) else 0) hg hn
  have e':((fun p:List Int × Int=>if (r:Int)∈p.1 then p.2 else 0) ∘ fun k=>(fW ws k,(1:Int)))=fun k=>if (r:Int)∈fW ws k then (1:Int) else 0:=rfl
  rw [e',e]
  unfold cnt hold fG
  rw [Int.zero_add]
  refine aW fun k _=>?_
  by_cases h1:k∈gs
  · simp [h1]
  · simp [h1]
theorem EY (n:Nat) (ws:List (List Int)) (gs:List Nat):(Cz n ws gs).length=n:=by unfold Cz;rw [iR,List.length_replicate]
def unmet (rs xs:List Int) (gs:List Nat):List Int:=gs.map fun k=>rs.getD k 0 - xs.getD k 0
theorem Bg {gs:List Nat} {n:Nat} (hg:gs.Nodup) (hn:∀ k∈gs,k<n):WOk n (asI gs):=by
  refine ⟨?_,fun r hr=>?_⟩
  · unfold asI
    exact List.Pairwise.map _ (fun a b h=>by omega) hg
  · obtain ⟨k,hk,rfl⟩:=List.mem_map.mp hr
    have:=hn k hk
    omega
theorem qP {gs:List Nat} {k:Nat}:(k:Int)∈asI gs↔k∈gs:=by
  unfold asI
  rw [List.mem_map]
  constructor
  · rintro ⟨a,ha,e⟩
    have:a=k:=by omega
    rw [← this];exact ha
  · intro h;exact ⟨k,h,rfl⟩
theorem oW.going {fs:List Int} {ws:List (List Int)} {rs l xs:List Int} {gs:List Nat} {t:Int} (h:oW fs ws rs l xs gs t):∀ k∈gs,k<ws.length∧xs.getD k 0=t:=fun k hk=>h.inv.go k (by simpa [fG] using hk)
theorem oW.whole {fs:List Int} {ws:List (List Int)} {rs l xs:List Int} {gs:List Nat} {t M:Int} (h:oW fs ws rs l xs gs t) (hf:∀ a∈fs,0≤a) (hws:∀ w∈ws,WOk fs.length w) (hM:WT l (Cz fs.length ws gs) (unmet rs xs gs) M) :
    oW fs ws rs (bumps l (gs.map fun k=>(fW ws k,-M))) (bump xs (asI gs) M) gs (t + M):=by
  have nd:=eU h.srt
  have hn:∀ k∈gs,k<ws.length:=fun k hk=>(h.going k hk).1
  have hl:=h.nn hf
  have hun:∀ a∈unmet rs xs gs,0≤a:=fun a ha=>by
    obtain ⟨k,hk,rfl⟩:=List.mem_map.mp ha
    have:fX xs k≤fX rs k:=h.inv.fit.le k (hn k hk)
    unfold fX at this
    omega
  obtain ⟨lo1,lo2⟩:=hM.low hun hl
  have ex:fX (bump xs (asI gs) M)=jump (fX xs) (fG gs) M:=by
    funext k
    show (bump xs (asI gs) M).getD k 0=if fG gs k then fX xs k + M else fX xs k
    have ok:=Bg nd (n:=xs.length) fun k hk=>by rw [h.xl];exact hn k hk
    rw [lC ok.1 ok.2 k]
    by_cases hk:k∈gs
    · rw [if_pos (qP.mpr hk)];simp [fG,hk,fX]
    · rw [if_neg (fun z=>hk (qP.mp z))];simp [fG,hk,fX]
  have key:∀ r:Nat,r<fs.length→M * cnt ws.length (fW ws) (fG gs) (r:Int)≤l.getD r 0:=fun r hr=>by
    have c0:=Rg ws.length (fW ws) (fG gs) (r:Int)
    have hlr:r<l.length:=by rw [h.ll];exact hr
    have e1:l[r]?=some (l.getD r 0):=by rw [List.getD_eq_getElem?_getD,List.getElem?_eq_getElem hlr];rfl
    have hcr:r<(Cz fs.length ws gs).length:=by rw [EY];exact hr
    have e2:(Cz fs.length ws gs)[r]?=some (cnt ws.length (fW ws) (fG gs) (r:Int)):=by
      rw [← Fb hws nd hn r,List.getD_eq_getElem?_getD,List.getElem?_eq_getElem hcr];rfl
    by_cases hp:0<cnt ws.length (fW ws) (fG gs) (r:Int)
    · exact lo2 r _ _ e1 e2 hp
    · have:cnt ws.length (fW ws) (fG gs) (r:Int)=0:=by omega
      rw [this,Int.mul_zero]
      exact hl _ (List.mem_of_getElem? e1)
  refine ⟨by rw [iR];exact h.ll,by rw [gJ];exact h.xl,fun r hr=>?_,h.srt,?_⟩
  · rw [jD (fun p hp=>by
      obtain ⟨k,hk,rfl⟩:=List.mem_map.mp hp
      rw [h.ll]
      exact hws _ (n6 (hn k hk))) r,h.left r hr,ex,oG,List.map_map]
    have e:=mV (n:=ws.length) (f:=fun k=>if (r:Int)∈fW ws k then -M else 0) nd hn
    have e':((fun p:List Int × Int=>if (r:Int)∈p.1 then p.2 else 0) ∘ fun k=>(fW ws k,-M))=fun k=>if (r:Int)∈fW ws k then -M else 0:=rfl
    rw [e',e]
    have e3:(d8 ws.length fun k=>if k∈gs then (if (r:Int)∈fW ws k then -M else 0) else 0)=-(M * cnt ws.length (fW ws) (fG gs) (r:Int)):=by
      have a:=oG ws.length (fW ws) (fun _=>0) (fG gs) (-M) (r:Int)
      rw [jh] at a
      have b:hold ws.length (fW ws) (jump (fun _=>0) (fG gs) (-M)) (r:Int)=d8 ws.length fun k=>if k∈gs then (if (r:Int)∈fW ws k then -M else 0) else 0:=by
        unfold hold jump fG
        refine aW fun k _=>?_
        by_cases h1:k∈gs
        · simp [h1]
        · simp [h1]
      rw [← b,a,Int.neg_mul];omega
    rw [e3];omega
  · rw [ex]
    refine h.inv.jump hM.nn (fun k hk=>?_) fun r hr=>?_
    · have hk':k∈gs:=by simpa [fG] using hk
      have:=lo1 (rs.getD k 0 - xs.getD k 0) (List.mem_map.mpr ⟨k,hk',rfl⟩)
      unfold fX;omega
    · obtain ⟨k,hk,hr⟩:=hr
      have hw:=hws _ (n6 hk)
      obtain ⟨r0,r1⟩:=hw.2 r hr
      obtain ⟨rn,rfl⟩:=Int.eq_ofNat_of_zero_le r0
      have hrn:rn<fs.length:=by omega
      have a:=key rn hrn
      rw [h.left rn hrn] at a
      rw [oJ];exact a
end Tn
namespace Tn
def step1 (ws:List (List Int)) (rs:List Int) (s:List Int × List Int × List Nat) (k:Nat):List Int × List Int × List Nat :=
  if s.2.1.getD k 0<rs.getD k 0∧(fW ws k).all (fun r=>decide (0<s.1.getD r.toNat 0))=true then (bump s.1 (fW ws k) (-1),s.2.1.set k (s.2.1.getD k 0 + 1),s.2.2++[k]) else s
def gU (ws:List (List Int)) (rs:List Int) (gs:List Nat) (s:List Int × List Int × List Nat):List Int × List Int × List Nat:=gs.foldl (step1 ws rs) s
theorem pI (ws:List (List Int)) (rs:List Int) (gs:List Nat) (k:Nat) (s:List Int × List Int × List Nat):gU ws rs (gs++[k]) s=step1 ws rs (gU ws rs gs s) k:=by
  unfold gU;rw [List.foldl_append];rfl
def rem (rs xs:List Int) (n:Nat):Int:=d8 n fun k=>fX rs k - fX xs k
structure J3 (fs:List Int) (ws:List (List Int)) (rs:List Int) (gs:List Nat) (t S0:Int) (i:Nat) (s:List Int × List Int × List Nat):Prop where
  ll:s.1.length=fs.length
  xl:s.2.1.length=ws.length
  left:∀ r:Nat,r<fs.length→s.1.getD r 0=fs.getD r 0 - hold ws.length (fW ws) (fX s.2.1) (r:Int)
  sub:s.2.2.Sublist (gs.take i)
  sum:rem rs s.2.1 ws.length + s.2.2.length=S0
  pv:∃ p,vD ws.length (fF fs) (fW ws) (fX rs) (fX s.2.1) (fG gs) (fG s.2.2) t p∧p≤ws.length∧(∀ j (h:j<gs.length),i≤j→p≤gs[j])∧∀ j (h:j<gs.length),j<i→gs[j]<p
theorem oW.pass {fs:List Int} {ws:List (List Int)} {rs l xs:List Int} {gs:List Nat} {t:Int} (h:oW fs ws rs l xs gs t):J3 fs ws rs gs t (rem rs xs ws.length) 0 (l,xs,[]) :=
  ⟨h.ll,h.xl,h.left,by simp,by simp,0,by
    have:=h.inv.pass
    rw [show fG []=fun _=>false from by funext k;simp [fG]]
    exact this,Nat.zero_le _,fun _ _ _=>Nat.zero_le _,fun j _ hj=>absurd hj (Nat.not_lt_zero _)⟩
theorem J3.step {fs:List Int} {ws:List (List Int)} {rs:List Int} {gs:List Nat} {t S0:Int} {i:Nat} {s:List Int × List Int × List Nat} (h:J3 fs ws rs gs t S0 i s) (srt:gs.Pairwise (·<·)) (hn:∀ k∈gs,k<ws.length) (hws:∀ w∈ws,WOk fs.length w) (hi:i<gs.length) :
    J3 fs ws rs gs t S0 (i + 1) (step1 ws rs s gs[i]):=by
  obtain ⟨l,xs,st⟩:=s
  obtain ⟨p,P0,pn,hp1,hp2⟩:=h.pv
  have hll:l.length=fs.length:=h.ll
  have hxl:xs.length=ws.length:=h.xl
  have hleft:∀ r:Nat,r<fs.length→l.getD r 0=fs.getD r 0 - hold ws.length (fW ws) (fX xs) (r:Int):=h.left
  have hsum:rem rs xs ws.length + st.length=S0:=h.sum
  have hsub:st.Sublist (gs.take i):=h.sub
  have P0:vD ws.length (fF fs) (fW ws) (fX rs) (fX xs) (fG gs) (fG st) t p:=P0
  have hk:gs[i]<ws.length:=hn _ (List.getElem_mem hi)
  have inc:=List.pairwise_iff_getElem.mp srt
  have P1:=P0.skip (q:=gs[i]) (hp1 i hi (Nat.le_refl _)) fun k h1 h2=>by
    cases hg:fG gs k with
    | false=>rfl
    | true =>
      exfalso
      have hm:k∈gs:=by simpa [fG] using hg
      obtain ⟨j,hj,rfl⟩:=List.getElem_of_mem hm
      by_cases hji:j<i
      · have:=hp2 j hj hji
        omega
      · by_cases e:j=i
        · subst e;omega
        · have:=inc i j hi hj (by omega)
          omega
  have hG:fG gs gs[i]=true:=by simp [fG]
  have next1:∀ j (h:j<gs.length),i + 1≤j→gs[i] + 1≤gs[j]:=fun j hj hji=>inc i j hi hj (by omega)
  have next2:∀ j (h:j<gs.length),j<i + 1→gs[j]<gs[i] + 1:=fun j hj hji=>by
    by_cases e:j=i
    · subst e;omega
    · have:=inc j i hj hi (by omega)
      omega
  have wk:=hws _ (n6 hk)
  have at_:∀ r∈fW ws gs[i],fF fs r - hold ws.length (fW ws) (fX xs) r=l.getD r.toNat 0:=fun r hr=>by
    obtain ⟨r0,r1⟩:=wk.2 r hr
    obtain ⟨rn,rfl⟩:=Int.eq_ofNat_of_zero_le r0
    rw [oJ,Int.toNat_natCast,hleft rn (by omega)]
  by_cases hc:xs.getD gs[i] 0<rs.getD gs[i] 0∧(fW ws gs[i]).all (fun r=>decide (0<l.getD r.toNat 0))=true
  · have e:step1 ws rs (l,xs,st) gs[i]=(bump l (fW ws gs[i]) (-1),xs.set gs[i] (xs.getD gs[i] 0 + 1),st++[gs[i]]):=if_pos hc
    rw [e]
    have ex:fX (xs.set gs[i] (xs.getD gs[i] 0 + 1))=put (fX xs) gs[i] 1:=by
      funext k
      show (xs.set gs[i] (xs.getD gs[i] 0 + 1)).getD k 0=if k=gs[i] then xs.getD k 0 + 1 else xs.getD k 0
      rw [m6 (by rw [hxl];exact hk)]
      by_cases z:k=gs[i]
      · rw [if_pos z,if_pos z,z]
      · rw [if_neg z,if_neg z]
    have P2:=P1.gets hk hG (by unfold fX;exact hc.1) fun r hr=>by
      rw [at_ r hr]
      have:=List.all_eq_true.mp hc.2 r hr
      simpa using this
    refine ⟨by rw [gJ];exact hll,by rw [List.length_set];exact hxl,fun r hr=>?_,?_,?_,gs[i] + 1,?_,by omega,next1,next2⟩
    · show (bump l (fW ws gs[i]) (-1)).getD r 0=fs.getD r 0 - hold ws.length (fW ws) (fX (xs.set gs[i] (xs.getD gs[i] 0 + 1))) (r:Int)
      rw [lC wk.1 (by rw [hll];exact wk.2) r,hleft r hr,ex,m5 hk]
      split <;> omega
    · show (st++[gs[i]]).Sublist (gs.take (i + 1))
      rw [List.take_add_one,List.getElem?_eq_getElem hi]
      exact hsub.append (List.Sublist.refl _)
    · show rem rs (xs.set gs[i] (xs.getD gs[i] 0 + 1)) ws.length + ((st++[gs[i]]).length:Nat)=S0
      have a:rem rs (xs.set gs[i] (xs.getD gs[i] 0 + 1)) ws.length=rem rs xs ws.length - 1:=by
        unfold rem
        rw [ex,qw,qw]
        have:d8 ws.length (put (fX xs) gs[i] 1)=d8 ws.length (fX xs) + 1:=by
          have b:∀ k,k<ws.length→put (fX xs) gs[i] 1 k=fX xs k + (if k=gs[i] then 1 else 0):=fun k _=>by
            unfold put;split <;> omega
          rw [aW b,gG,j9 _ hk]
        omega
      rw [a,List.length_append,List.length_singleton]
      omega
    · show vD ws.length (fF fs) (fW ws) (fX rs) (fX (xs.set gs[i] (xs.getD gs[i] 0 + 1))) (fG gs) (fG (st++[gs[i]])) t (gs[i] + 1)
      rw [ex,show fG (st++[gs[i]])=fun k=>if k=gs[i] then true else fG st k from by
        funext k
        by_cases z:k=gs[i]
        · simp [fG,z]
        · simp [fG,z]]
      exact P2
  · have e:step1 ws rs (l,xs,st) gs[i]=(l,xs,st):=if_neg hc
    rw [e]
    refine ⟨hll,hxl,hleft,?_,hsum,gs[i] + 1,P1.ends hk hG ?_,by omega,next1,next2⟩
    · exact hsub.trans (by rw [List.take_add_one];exact List.sublist_append_left _ _)
    · by_cases z:xs.getD gs[i] 0<rs.getD gs[i] 0
      · have hno:¬ (fW ws gs[i]).all (fun r=>decide (0<l.getD r.toNat 0))=true:=fun y=>hc ⟨z,y⟩
        refine .inr ?_
        refine Classical.byContradiction fun hx=>hno (List.all_eq_true.mpr fun r hr=>?_)
        refine decide_eq_true ?_
        refine Classical.byContradiction fun hle=>hx ⟨r,hr,?_⟩
        rw [at_ r hr];omega
      · exact .inl (by unfold fX;omega)
theorem J3.finish {fs:List Int} {ws:List (List Int)} {rs:List Int} {gs:List Nat} {t S0:Int} {s:List Int × List Int × List Nat} (h:J3 fs ws rs gs t S0 gs.length s) (srt:gs.Pairwise (·<·)):oW fs ws rs s.1 s.2.1 s.2.2 (t + 1):=by
  obtain ⟨p,P0,pn,hp1,hp2⟩:=h.pv
  have P1:=P0.skip (q:=ws.length) pn fun k h1 h2=>by
    cases hg:fG gs k with
    | false=>rfl
    | true =>
      exfalso
      have hm:k∈gs:=by simpa [fG] using hg
      obtain ⟨j,hj,rfl⟩:=List.getElem_of_mem hm
      have:=hp2 j hj hj
      omega
  have hsub:=h.sub
  rw [List.take_of_length_le (Nat.le_refl _)] at hsub
  exact ⟨h.ll,h.xl,h.left,srt.sublist hsub,P1.finish⟩
theorem yP {fs:List Int} {ws:List (List Int)} {rs l xs:List Int} {gs:List Nat} {t:Int} (h:oW fs ws rs l xs gs t) (hws:∀ w∈ws,WOk fs.length w):∀ i,i≤gs.length→J3 fs ws rs gs t (rem rs xs ws.length) i (gU ws rs (gs.take i) (l,xs,[])):=by
  intro i
  induction i with
  | zero=>intro _;exact h.pass
  | succ i ih =>
    intro hi
    rw [List.take_add_one,List.getElem?_eq_getElem (by omega:i<gs.length)]
    show J3 fs ws rs gs t _ (i + 1) (gU ws rs (gs.take i++[gs[i]]) (l,xs,[]))
    rw [pI]
    exact (ih (by omega)).step h.srt (fun k hk=>(h.going k hk).1) hws (by omega)
theorem oW.one {fs:List Int} {ws:List (List Int)} {rs l xs:List Int} {gs:List Nat} {t:Int} (h:oW fs ws rs l xs gs t) (hws:∀ w∈ws,WOk fs.length w) :
    oW fs ws rs (gU ws rs gs (l,xs,[])).1 (gU ws rs gs (l,xs,[])).2.1 (gU ws rs gs (l,xs,[])).2.2 (t + 1)∧rem rs (gU ws rs gs (l,xs,[])).2.1 ws.length + ((gU ws rs gs (l,xs,[])).2.2.length:Nat)=rem rs xs ws.length:=by
  have q:=yP h hws gs.length (Nat.le_refl _)
  rw [List.take_of_length_le (Nat.le_refl _)] at q
  exact ⟨q.finish h.srt,q.sum⟩
theorem oW.FT {fs:List Int} {ws:List (List Int)} {rs l xs:List Int} {gs:List Nat} {t:Int} (h:oW fs ws rs l xs gs t):0≤rem rs xs ws.length:=uI fun k hk=>by
  have:=h.inv.fit.le k hk
  omega
theorem zN {fs:List Int} {ws:List (List Int)} {rs l xs:List Int} {gs:List Nat} {t M:Int} (h:oW fs ws rs l xs gs t) (hM:0≤M):rem rs (bump xs (asI gs) M) ws.length≤rem rs xs ws.length:=by
  refine lK fun k hk=>?_
  have ok:=Bg (eU h.srt) (n:=xs.length) fun k hk=>by rw [h.xl];exact (h.going k hk).1
  have:fX (bump xs (asI gs) M) k=fX xs k + (if (k:Int)∈asI gs then M else 0):=lC ok.1 ok.2 k
  rw [this]
  split <;> omega
end Tn
namespace Tn
theorem WOk.len {n:Nat} {w:List Int} (h:WOk n w):w.length≤n:=by
  have:=List.Nodup.length_le_of_subset (l₂:=asI (List.range n)) h.1 fun r hr=>by
    obtain ⟨r0,r1⟩:=h.2 r hr
    obtain ⟨k,rfl⟩:=Int.eq_ofNat_of_zero_le r0
    exact qP.mpr (List.mem_range.mpr (by omega))
  simpa [asI] using this
theorem vP (r:Int):∀ ws:List (List Int),((ws.map fun w=>(w,(1:Int))).map fun p=>if r∈p.1 then p.2 else 0).sum≤(ws.length:Int)
  | []=>by simp
  | w :: ws=>by
    have:=vP r ws
    simp only [List.map_cons,List.sum_cons,List.length_cons]
    split <;> omega
theorem cw_bound {n:Nat} {ws:List (List Int)} (hws:∀ w∈ws,WOk n w):∀ c∈bumps (List.replicate n 0) (ws.map fun w=>(w,(1:Int))),c≤(ws.length:Int):=fun c hc=>by
  obtain ⟨k,hk,rfl⟩:=List.getElem_of_mem hc
  have e:(bumps (List.replicate n 0) (ws.map fun w=>(w,(1:Int))))[k]=(bumps (List.replicate n 0) (ws.map fun w=>(w,(1:Int)))).getD k 0:=by
    rw [List.getD_eq_getElem?_getD,List.getElem?_eq_getElem hk];rfl
  rw [e,jD (fun p hp=>by
    obtain ⟨w,hw,rfl⟩:=List.mem_map.mp hp
    rw [List.length_replicate];exact hws w hw) k,iz]
  have:=vP (k:Int) ws
  omega
theorem uQ {fs cs:List Int} {i:Nat} {f c:Int} (hf:fs[i]?=some f) (hc:cs[i]?=some c):shares (fs.take (i + 1)) (cs.take (i + 1))=shares (fs.take i) (cs.take i)++(if 0<c then [f / c] else []):=by
  have l1:=(List.getElem?_eq_some_iff.mp hf).1
  have l2:=(List.getElem?_eq_some_iff.mp hc).1
  unfold shares
  rw [List.take_add_one,List.take_add_one,hf,hc,List.zip_append (by rw [List.length_take,List.length_take];omega),List.filter_append,List.map_append]
  congr 1
  by_cases h:0<c
  · simp [h]
  · simp [h]
theorem iK {gs:List Nat} {i:Nat} {z:Int} (h:(asI gs)[i]?=some z):∃ k:Nat,gs[i]?=some k∧z=(k:Int):=by
  unfold asI at h
  rw [List.getElem?_map] at h
  cases e:gs[i]? with
  | none=>rw [e] at h;cases h
  | some k=>rw [e] at h;exact ⟨k,rfl,(Option.some.inj h).symm⟩
theorem tG (gs:List Nat) (i:Nat):(asI gs).take i=asI (gs.take i):=by unfold asI;rw [List.map_take]
theorem dW (gs:List Nat):(asI gs).length=gs.length:=by unfold asI;rw [List.length_map]
theorem xr {rs xs:List Int} {gs:List Nat} {i k:Nat} (h:gs[i]?=some k):unmet rs xs (gs.take (i + 1))=unmet rs xs (gs.take i)++[rs.getD k 0 - xs.getD k 0]:=by
  unfold unmet;rw [List.take_add_one,h,List.map_append];rfl
theorem fV {α β:Type} {f:α→β} {gs:List α} {i:Nat} {k:α} (h:gs[i]?=some k):(gs.take (i + 1)).map f=(gs.take i).map f++[f k]:=by
  rw [List.take_add_one,h,List.map_append];rfl
theorem bV {α:Type} {gs:List α} {i:Nat} {k:α} (h:gs[i]?=some k):gs.take (i + 1)=gs.take i++[k]:=by
  rw [List.take_add_one,h];rfl
theorem xG {ws:List (List Int)} {rs:List Int} {gs:List Nat} {i k:Nat} {s:List Int × List Int × List Nat} (h:gs[i]?=some k):gU ws rs (gs.take (i + 1)) s=step1 ws rs (gU ws rs (gs.take i) s) k:=by
  rw [bV h];exact pI _ _ _ _ _
theorem zc (ws:List (List Int)) (rs:List Int) (s:List Int × List Int × List Nat) (k:Nat):(step1 ws rs s k).1.length=s.1.length∧(step1 ws rs s k).2.1.length=s.2.1.length∧(step1 ws rs s k).2.2.length≤s.2.2.length + 1:=by
  unfold step1
  split
  · exact ⟨gJ _ _ _,List.length_set,by simp⟩
  · exact ⟨rfl,rfl,by omega⟩
theorem rM (ws:List (List Int)) (rs:List Int):∀ (gs:List Nat) (s:List Int × List Int × List Nat),(gU ws rs gs s).1.length=s.1.length∧(gU ws rs gs s).2.1.length=s.2.1.length∧(gU ws rs gs s).2.2.length≤s.2.2.length + gs.length
  | [],s=>⟨rfl,rfl,by simp [gU]⟩
  | k :: gs,s=>by
    have a:=zc ws rs s k
    have b:=rM ws rs gs (step1 ws rs s k)
    have e:gU ws rs (k :: gs) s=gU ws rs gs (step1 ws rs s k):=rfl
    rw [e]
    refine ⟨by rw [b.1,a.1],by rw [b.2.1,a.2.1],?_⟩
    have:=b.2.2
    rw [List.length_cons];omega
end Tn
namespace Tn
end Tn
namespace Tn
end Tn
namespace Tn
structure Grp (day:Nat→Int) (q:List Nat) (gs:List (Int × List Nat)):Prop where
  flat:(gs.map (·.2)).flatten=q
  ord:(gs.map (·.1)).Pairwise (·<·)
  grp:∀ g∈gs,g.2≠[]∧∀ k∈g.2,day k=g.1
theorem Grp.start (day:Nat→Int):Grp day [] []:=⟨rfl,.nil,fun _ h=>nomatch h⟩
theorem Grp.mem {day:Nat→Int} {q:List Nat} {gs:List (Int × List Nat)} (h:Grp day q gs) {g:Int × List Nat} (hg:g∈gs):∃ k∈q,day k=g.1:=by
  obtain ⟨h1,h2⟩:=h.grp g hg
  cases e:g.2 with
  | nil=>exact absurd e h1
  | cons k r =>
    refine ⟨k,?_,h2 k (by rw [e];exact List.mem_cons_self)⟩
    rw [← h.flat]
    exact List.mem_flatten.mpr ⟨g.2,List.mem_map_of_mem hg,by rw [e];exact List.mem_cons_self⟩
theorem Grp.new {day:Nat→Int} {q:List Nat} {gs:List (Int × List Nat)} {k:Nat} (h:Grp day q gs) (hn:∀ g∈gs,g.1≠day k) (hq:∀ j∈q,day j≤day k):Grp day (q++[k]) (gs++[(day k,[k])]):=by
  refine ⟨?_,?_,fun g hg=>?_⟩
  · rw [List.map_append,List.flatten_append,h.flat];rfl
  · rw [List.map_append,List.pairwise_append]
    refine ⟨h.ord,by simp,fun a ha b hb=>?_⟩
    obtain ⟨g,hg,rfl⟩:=List.mem_map.mp ha
    have hb:b=day k:=by simpa using hb
    subst hb
    obtain ⟨j,hj,e⟩:=h.mem hg
    have:=hq j hj
    have:=hn g hg
    omega
  · rcases List.mem_append.mp hg with e | e
    · exact h.grp g e
    · have:g=(day k,[k]):=by simpa using e
      subst this
      exact ⟨by simp,fun j hj=>by
        have:j=k:=by simpa using hj
        rw [this]⟩
theorem Grp.last {day:Nat→Int} {q:List Nat} {gs:List (Int × List Nat)} {k j:Nat} {g:Int × List Nat} (h:Grp day q gs) (hj:gs[j]?=some g) (hk:g.1=day k) (hq:∀ j∈q,day j≤day k):gs=gs.take j++[g]:=by
  obtain ⟨hl,e⟩:=List.getElem?_eq_some_iff.mp hj
  have hlen:gs.length=j + 1:=by
    refine Nat.le_antisymm (Nat.le_of_not_lt fun hlt=>?_) hl
    have ord:=List.pairwise_iff_getElem.mp h.ord j (j + 1) (by rw [List.length_map];exact hl) (by rw [List.length_map];exact hlt) (by omega)
    rw [List.getElem_map,List.getElem_map,e] at ord
    obtain ⟨i,hi,ei⟩:=h.mem (List.getElem_mem (l:=gs) (n:=j + 1) hlt)
    have:=hq i hi
    omega
  have:gs.take (j + 1)=gs.take j++[g]:=bV hj
  rw [← this,List.take_of_length_le (by omega)]
theorem Grp.more {day:Nat→Int} {q:List Nat} {gs:List (Int × List Nat)} {k j:Nat} {g:Int × List Nat} (h:Grp day q gs) (hj:gs[j]?=some g) (hk:g.1=day k) (hq:∀ j∈q,day j≤day k):Grp day (q++[k]) (gs.set j (g.1,g.2++[k])):=by
  have e:=h.last hj hk hq
  have hl:=(List.getElem?_eq_some_iff.mp hj).1
  have es:gs.set j (g.1,g.2++[k])=gs.take j++[(g.1,g.2++[k])]:=by
    conv=>lhs;rw [e]
    have:(gs.take j).length=j:=by rw [List.length_take];omega
    rw [List.set_append,if_neg (by omega),this,Nat.sub_self];rfl
  have hf:=h.flat
  have ho:=h.ord
  rw [e] at hf ho
  rw [List.map_append,List.flatten_append] at hf
  rw [List.map_append] at ho
  rw [es]
  refine ⟨?_,?_,fun g' hg'=>?_⟩
  · rw [List.map_append,List.flatten_append,← hf];simp
  · rw [List.map_append];exact ho
  · rcases List.mem_append.mp hg' with e' | e'
    · exact h.grp g' (List.mem_of_mem_take e')
    · have:g'=(g.1,g.2++[k]):=by simpa using e'
      subst this
      refine ⟨by simp,fun i hi=>?_⟩
      rcases List.mem_append.mp hi with z | z
      · exact (h.grp g (List.mem_of_getElem? hj)).2 i z
      · have:i=k:=by simpa using z
        rw [this,hk]
structure Rk (day:Nat→Int) (n:Nat) (p:List Nat):Prop where
  perm:p.Perm (List.range n)
  ord:p.Pairwise fun i j=>day i<day j∨day i=day j∧i<j
theorem Rk.len {day:Nat→Int} {n:Nat} {p:List Nat} (h:Rk day n p):p.length=n:=by rw [h.perm.length_eq,List.length_range]
theorem Rk.lt {day:Nat→Int} {n:Nat} {p:List Nat} (h:Rk day n p) {j:Nat} (hj:j∈p):j<n:=List.mem_range.mp (h.perm.mem_iff.mp hj)
theorem Rk.before {day:Nat→Int} {n:Nat} {p:List Nat} (h:Rk day n p) {i k:Nat} (hi:p[i]?=some k):∀ j∈p.take i,day j≤day k:=fun j hj=>by
  obtain ⟨hl,e⟩:=List.getElem?_eq_some_iff.mp hi
  obtain ⟨m,hm,em⟩:=List.getElem_of_mem hj
  rw [List.length_take] at hm
  rw [List.getElem_take] at em
  have:=List.pairwise_iff_getElem.mp h.ord m i (by omega) hl (by omega)
  rw [em,e] at this
  omega
theorem m7 {α:Type}:∀ {L:List (List α)} {g:List α},g∈L→g.Sublist L.flatten
  | [],_,h=>nomatch h
  | x :: L,g,h=>by
    rw [List.flatten_cons]
    rcases List.mem_cons.mp h with e | e
    · rw [e];exact List.sublist_append_left _ _
    · exact (m7 e).trans (List.sublist_append_right _ _)
theorem Grp.up {day:Nat→Int} {n:Nat} {p:List Nat} {gs:List (Int × List Nat)} (h:Grp day p gs) (r:Rk day n p) {g:Int × List Nat} (hg:g∈gs):g.2.Pairwise (·<·):=by
  have hs:g.2.Sublist p:=by rw [← h.flat];exact m7 (List.mem_map_of_mem hg)
  have:=r.ord.sublist hs
  refine List.Pairwise.imp_of_mem (fun {a b} ha hb hab=>?_) this
  have ea:=(h.grp g hg).2 a ha
  have eb:=(h.grp g hg).2 b hb
  omega
def inG (gs:List (Int × List Nat)) (j:Nat) (k:Nat):Prop:=∃ g∈gs.take j,k∈g.2
theorem Ei (gs:List (Int × List Nat)) (k:Nat):¬ inG gs 0 k:=fun ⟨_,h,_⟩=>by simp at h
theorem Ej {gs:List (Int × List Nat)} {j:Nat} {g:Int × List Nat} (h:gs[j]?=some g) (k:Nat):inG gs (j + 1) k↔inG gs j k∨k∈g.2:=by
  unfold inG
  rw [bV h]
  constructor
  · rintro ⟨g',h1,h2⟩
    rcases List.mem_append.mp h1 with e | e
    · exact .inl ⟨g',e,h2⟩
    · have:g'=g:=by simpa using e
      rw [this] at h2;exact .inr h2
  · rintro (⟨g',h1,h2⟩ | h)
    · exact ⟨g',List.mem_append_left _ h1,h2⟩
    · exact ⟨g,List.mem_append_right _ (by simp),h⟩
theorem Grp.all {day:Nat→Int} {n:Nat} {p:List Nat} {gs:List (Int × List Nat)} (h:Grp day p gs) (r:Rk day n p) {k:Nat} (hk:k<n):inG gs gs.length k:=by
  have hm:k∈p:=r.perm.mem_iff.mpr (List.mem_range.mpr hk)
  rw [← h.flat] at hm
  obtain ⟨l,hl,hkl⟩:=List.mem_flatten.mp hm
  obtain ⟨g,hg,rfl⟩:=List.mem_map.mp hl
  exact ⟨g,by rw [List.take_length];exact hg,hkl⟩
theorem Grp.later {day:Nat→Int} {p:List Nat} {gs:List (Int × List Nat)} (h:Grp day p gs) {j:Nat} {g:Int × List Nat} (hj:gs[j]?=some g) {k:Nat} (hk:inG gs j k):day k<g.1:=by
  obtain ⟨g',h1,h2⟩:=hk
  obtain ⟨hl,e⟩:=List.getElem?_eq_some_iff.mp hj
  obtain ⟨m,hm,em⟩:=List.getElem_of_mem h1
  rw [List.length_take] at hm
  rw [List.getElem_take] at em
  have ord:=List.pairwise_iff_getElem.mp h.ord m j (by rw [List.length_map];omega) (by rw [List.length_map];exact hl) (by omega)
  rw [List.getElem_map,List.getElem_map,e,em] at ord
  rw [(h.grp g' (List.mem_of_mem_take h1)).2 k h2];exact ord
end Tn
namespace Tn
theorem iM {n:Nat} {W W':Nat→List Int} {x x':Nat→Int} (hW:∀ k,k<n→W k=W' k) (hx:∀ k,k<n→x k=x' k) (r:Int):hold n W x r=hold n W' x' r :=
  aW fun k hk=>by rw [hW k hk,hx k hk]
theorem Fit.uz {n:Nat} {F F':Int→Int} {W W':Nat→List Int} {want want' x x':Nat→Int} (h:Fit n F W want x) (hW:∀ k,k<n→W k=W' k) (hw:∀ k,k<n→want k=want' k) (hx:∀ k,k<n→x k=x' k) (hF:∀ r,(∃ k,k<n∧r∈W k)→F r=F' r):Fit n F' W' want' x':=by
  refine ⟨fun k hk=>by rw [← hx k hk];exact h.nn k hk,fun k hk=>by rw [← hx k hk,← hw k hk];exact h.le k hk,fun r hr=>?_⟩
  obtain ⟨k,hk,hm⟩:=hr
  have hr:∃ k,k<n∧r∈W k:=⟨k,hk,by rw [hW k hk];exact hm⟩
  rw [← iM hW hx r,← hF r hr]
  exact h.fits r hr
theorem lW.uz {n:Nat} {F F':Int→Int} {W W':Nat→List Int} {day want want' x x':Nat→Int} (h:lW n F W day want x) (hW:∀ k,k<n→W k=W' k) (hw:∀ k,k<n→want k=want' k) (hx:∀ k,k<n→x k=x' k) (hF:∀ r,(∃ k,k<n∧r∈W k)→F r=F' r):lW n F' W' day want' x':=by
  intro k hk hl
  rw [← hx k hk,← hw k hk] at hl
  obtain ⟨r,h1,h2,h3⟩:=h k hk hl
  refine ⟨r,by rw [← hW k hk];exact h1,by rw [← iM hW hx r,← hF r ⟨k,hk,h1⟩];exact h2,fun j hj hr hp=>?_⟩
  rw [← hx j hj,← hx k hk]
  exact h3 j hj (by rw [hW j hj];exact hr) (by rw [hx j hj];exact hp)
theorem yH.uz {n:Nat} {F:Int→Int} {W:Nat→List Int} {day want x x':Nat→Int} {Pz Pz':Nat→Prop} (D:yH n F W day want x Pz) (hx:∀ k,x k=x' k) (hP:∀ k,Pz k↔Pz' k):yH n F W day want x' Pz':=by
  have e:x=x':=funext hx
  have e':Pz=Pz':=funext fun k=>propext (hP k)
  rw [← e,← e'];exact D
structure yG (n:Nat) (fs:List Int) (W:Nat→List Int) (day want:Nat→Int) (gs:List (Int × List Nat)) (j:Nat) (xs fl:List Int):Prop where
  xl:xs.length=n
  fll:fl.length=fs.length
  left:∀ i:Nat,i<fs.length→fl.getD i 0=fs.getD i 0 - hold n W (fX xs) (i:Int)
  inv:yH n (fF fs) W day want (fX xs) (inG gs j)
theorem Aj {fs:List Int} {a:Int} (h:a∈fs):∃ i,i<fs.length∧fs.getD i 0=a:=by
  obtain ⟨i,hi,e⟩:=List.getElem_of_mem h
  exact ⟨i,hi,by rw [List.getD_eq_getElem?_getD,List.getElem?_eq_getElem hi];exact e⟩
theorem iQ {fs:List Int} {i:Nat} (h:i<fs.length):fs.getD i 0∈fs:=by
  rw [List.getD_eq_getElem?_getD,List.getElem?_eq_getElem h];exact List.getElem_mem h
theorem Us {fs:List Int} (hf:∀ a∈fs,0≤a) (r:Int):0≤fF fs r:=by
  unfold fF
  by_cases h:r.toNat<fs.length
  · exact hf _ (iQ h)
  · rw [List.getD_eq_getElem?_getD,List.getElem?_eq_none (by omega)];exact Int.le_refl _
theorem yG.start {n:Nat} {fs:List Int} {W:Nat→List Int} {day want:Nat→Int} (gs:List (Int × List Nat)) (hw:∀ k,k<n→0≤want k) (hf:∀ a∈fs,0≤a):yG n fs W day want gs 0 (List.replicate n 0) fs:=by
  have e:∀ k,fX (List.replicate n 0) k=0:=fun k=>iz n k
  refine ⟨by simp,rfl,fun i _=>?_,?_⟩
  · have:hold n W (fX (List.replicate n 0)) (i:Int)=0:=by
      rw [iM (W':=W) (x':=fun _=>0) (fun _ _=>rfl) (fun k _=>e k),jh]
    omega
  · exact (yH.start (day:=day) hw fun r _=>Us hf r).uz (fun k=>(e k).symm) fun k=>⟨fun z=>z.elim,fun z=>absurd z (Ei gs k)⟩
theorem Bl {n:Nat} {W:Nat→List Int} {x:Nat→Int} {r:Int} (h:¬ ∃ k,k<n∧r∈W k):hold n W x r=0:=by
  unfold hold
  rw [aW (g:=fun _=>0) fun k hk=>if_neg fun z=>h ⟨k,hk,z⟩,dI]
theorem yG.nn {n:Nat} {fs:List Int} {W:Nat→List Int} {day want:Nat→Int} {gs:List (Int × List Nat)} {j:Nat} {xs fl:List Int} (h:yG n fs W day want gs j xs fl) (hf:∀ a∈fs,0≤a):∀ a∈fl,0≤a:=fun a ha=>by
  obtain ⟨i,hi,rfl⟩:=Aj ha
  rw [h.fll] at hi
  rw [h.left i hi]
  by_cases hw:∃ k,k<n∧(i:Int)∈W k
  · have:=h.inv.fit.fits (i:Int) hw
    rw [oJ] at this
    omega
  · rw [Bl hw]
    have:=hf _ (iQ hi)
    omega
theorem yG.step {n:Nat} {fs:List Int} {W:Nat→List Int} {day want:Nat→Int} {gs:List (Int × List Nat)} {j:Nat} {xs fl ys left cur:List Int} {q:List Nat} {t:Int} {g:Int × List Nat} (h:yG n fs W day want gs j xs fl) (G:Grp day q gs) (R:Rk day n q) (hj:gs[j]?=some g)
    (hW:∀ k,k<n→WOk fs.length (W k)) (L:oW fl (g.2.map W) (g.2.map want) left ys [] t) (hcl:cur.length=n) (hc:∀ k,fX cur k=over (fX xs) g.2 (fX ys) k):yG n fs W day want gs (j + 1) cur left:=by
  have hgm:=List.mem_of_getElem? hj
  have up:=G.up R hgm
  have nd:=eU up
  have hlt:∀ k∈g.2,k<n:=fun k hk=>R.lt (by rw [← G.flat];exact List.mem_flatten.mpr ⟨g.2,List.mem_map_of_mem hgm,hk⟩)
  have hn:∀ k∈g.2,¬ inG gs j k:=fun k hk z=>by
    have:=G.later hj z
    have:=(G.grp g hgm).2 k hk
    omega
  have hz:∀ k∈g.2,fX xs k=0:=fun k hk=>h.inv.zero k (hlt k hk) (hn k hk)
  have hlen:(g.2.map W).length=g.2.length:=List.length_map _
  have eW:∀ i,i<(g.2.map W).length→fW (g.2.map W) i=W (g.2.getD i 0):=fun i hi=>by
    rw [hlen] at hi
    unfold fW
    rw [List.getD_eq_getElem?_getD,List.getElem?_map,List.getElem?_eq_getElem hi,jC hi];rfl
  have ew:∀ i,i<(g.2.map W).length→fX (g.2.map want) i=want (g.2.getD i 0):=fun i hi=>by
    rw [hlen] at hi
    unfold fX
    rw [List.getD_eq_getElem?_getD,List.getElem?_map,List.getElem?_eq_getElem hi,jC hi];rfl
  have eF:∀ r,(∃ k,k<(g.2.map W).length∧r∈fW (g.2.map W) k)→fF fl r=fF fs r - hold n W (fX xs) r:=fun r hr=>by
    obtain ⟨i,hi,hm⟩:=hr
    rw [eW i hi] at hm
    have hk:g.2.getD i 0<n:=hlt _ (by rw [jC (by omega)];exact List.getElem_mem (by omega))
    obtain ⟨r0,r1⟩:=(hW _ hk).2 r hm
    obtain ⟨rn,rfl⟩:=Int.eq_ofNat_of_zero_le r0
    rw [oJ,oJ]
    exact h.left rn (by omega)
  obtain ⟨fy,sy⟩:=L.inv.finish fun k _=>by simp [fG]
  have fy:=fy.uz eW ew (x':=fX ys) (fun _ _=>rfl) eF
  have sy:=sy.uz eW ew (x':=fX ys) (fun _ _=>rfl) eF
  rw [hlen] at fy sy
  have st:=h.inv.step up (d:=g.1) (fun k hk=>⟨hlt k hk,(G.grp g hgm).2 k hk,hn k hk⟩) (fun k hk=>G.later hj hk) fy sy
  refine ⟨hcl,by rw [L.ll,h.fll],fun i hi=>?_,st.uz (fun k=>(hc k).symm) fun k=>(Ej hj k).symm⟩
  rw [L.left i (by rw [h.fll];exact hi),h.left i hi,iM (W':=W) (x':=over (fX xs) g.2 (fX ys)) (fun _ _=>rfl) (fun k _=>hc k) (i:Int),tH (i:Int) nd hlt hz,iM (x':=fX ys) eW (fun _ _=>rfl) (i:Int),hlen]
  omega
theorem yG.finish {n:Nat} {fs:List Int} {W:Nat→List Int} {day want:Nat→Int} {gs:List (Int × List Nat)} {xs fl:List Int} {q:List Nat} (h:yG n fs W day want gs gs.length xs fl) (G:Grp day q gs) (R:Rk day n q):Fit n (fF fs) W want (fX xs)∧lW n (fF fs) W day want (fX xs) :=
  h.inv.finish fun k hk=>G.all R hk
theorem zW {x y:Nat→Int} {g:List Nat} {i m:Nat} (nd:g.Nodup) (h:g[i]?=some m) (k:Nat):over x (g.take (i + 1)) y k=if k=m then y i else over x (g.take i) y k:=by
  obtain ⟨hi,e⟩:=List.getElem?_eq_some_iff.mp h
  have hm:¬ m∈g.take i:=fun z=>by
    obtain ⟨a,ha,ea⟩:=List.getElem_of_mem z
    rw [List.length_take] at ha
    rw [List.getElem_take] at ea
    have:=(List.getElem_inj nd).mp (ea.trans e.symm)
    omega
  unfold over
  rw [bV h]
  by_cases hk:k=m
  · subst hk
    rw [if_pos rfl,if_pos (by simp),List.idxOf_append,if_neg hm,List.length_take]
    simp
    congr 1
    omega
  · rw [if_neg hk]
    by_cases hb:k∈g.take i
    · rw [if_pos (by simp [hb]),if_pos hb,List.idxOf_append,if_pos hb]
    · rw [if_neg (by simp [hb,hk]),if_neg hb]
end Tn
namespace Rv
theorem mW {r:List Int} (h:cG r) {p b:Int} (h0:0≤p) (h1:p<r.length):Tn.WOk r.length (iW r p b):=⟨Dc h h0 h1,fun q hq=>jk h p h0 h1 q (yX hq)⟩
end Rv
namespace Rv
def spot (n x s:Int) (k:Nat):Int:=(x + s * (k:Int)) % n
theorem wO {n a b:Int} (hn:0<n) (h:a % n=b % n) (h1:a - b<n) (h2:b - a<n):a=b:=by
  have ea:=Int.emod_add_mul_ediv a n
  have eb:=Int.emod_add_mul_ediv b n
  have e:a - b=n * (a / n - b / n):=by rw [Int.mul_sub];omega
  generalize a / n - b / n=q at e
  by_cases h0:q=0
  · rw [h0,Int.mul_zero] at e;omega
  · by_cases hp:1≤q
    · have:=Int.mul_le_mul_of_nonneg_left hp (Int.le_of_lt hn)
      rw [Int.mul_one] at this;omega
    · have:q≤-1:=by omega
      have:=Int.mul_le_mul_of_nonneg_left this (Int.le_of_lt hn)
      rw [Int.mul_neg,Int.mul_one] at this;omega
theorem vU {n x s:Int} (hn:0<n) (hs:s=1∨s=n - 1) {j k:Nat} (hj:(j:Int)<n) (hk:(k:Int)<n) (h:spot n x s j=spot n x s k):j=k:=by
  unfold spot at h
  rcases hs with rfl | rfl
  · rw [Int.one_mul,Int.one_mul] at h
    have:=wO hn h (by omega) (by omega)
    omega
  · have e:∀ m:Nat,(x + (n - 1) * (m:Int)) % n=(x - (m:Int)) % n:=fun m=>by
      have:x + (n - 1) * (m:Int)=(x - (m:Int)) + n * (m:Int):=by rw [Int.sub_mul];omega
      rw [this,Int.add_mul_emod_self_left]
    rw [e j,e k] at h
    have:=wO hn h (by omega) (by omega)
    omega
theorem uK {n x s:Int} (hn:0<n) (k:Nat):0≤spot n x s k:=Int.emod_nonneg _ (by omega)
theorem uL {n x s:Int} (hn:0<n) (k:Nat):spot n x s k<n:=Int.emod_lt_of_pos _ hn
def spots (n x s:Int) (m:Nat):List Int:=(List.range m).map (spot n x s)
theorem zf (n x s:Int) (m:Nat):(spots n x s m).length=m:=by simp [spots]
theorem xM (n x s:Int) (m:Nat):spots n x s (m + 1)=spots n x s m++[spot n x s m]:=by
  unfold spots;rw [List.range_succ,List.map_append];rfl
theorem vR {n x s:Int} {m k:Nat} (h:k<m):(spots n x s m)[k]?=some (spot n x s k):=by
  unfold spots;rw [List.getElem?_map,List.getElem?_range h];rfl
structure Lnk (n:Nat) (sp:Nat→Int) (k:Nat) (b:List Int):Prop where
  len:b.length=n
  at_:∀ (i:Nat) (x:Int),b[i]?=some x→x=-1∨∃ j m,j<m∧m<k∧m<n∧sp m=(i:Int)∧x=sp j
theorem Lnk.start (n:Nat) (sp:Nat→Int):Lnk n sp 1 (List.replicate n (-1)) :=
  ⟨by simp,fun i x h=>.inl (by
    rw [List.getElem?_replicate] at h
    split at h
    · exact (Option.some.inj h).symm
    · cases h)⟩
theorem Lnk.skip {n:Nat} {sp:Nat→Int} {k:Nat} {b:List Int} (h:Lnk n sp k b):Lnk n sp (k + 1) b :=
  ⟨h.len,fun i x hx=>(h.at_ i x hx).imp id fun ⟨j,m,h1,h2,h3⟩=>⟨j,m,h1,by omega,h3⟩⟩
theorem Lnk.turn {n:Nat} {sp:Nat→Int} {k j:Nat} {b:List Int} (h:Lnk n sp k b) (hk:k<n) (hj:j<k) (h0:0≤sp k):Lnk n sp (k + 1) (b.set (sp k).toNat (sp j)):=by
  refine ⟨by rw [List.length_set];exact h.len,fun i x hx=>?_⟩
  rw [List.getElem?_set] at hx
  split at hx
  · rename_i e
    split at hx
    · exact .inr ⟨j,k,hj,by omega,hk,by omega,(Option.some.inj hx).symm⟩
    · cases hx
  · exact h.skip.at_ i x hx
theorem Lnk.R7 {n:Nat} {sp:Nat→Int} {k:Nat} {b:List Int} (h:Lnk n sp k b) (h0:∀ k,0≤sp k) (h1:∀ k,sp k<n) (inj:∀ j k,j<n→k<n→sp j=sp k→j=k) (hn:0<n):cG b:=by
  classical
  let rk:Nat→Nat:=fun i=>if h:∃ k,k<n∧sp k=(i:Int) then h.choose else 0
  have rk_at:∀ k,k<n→rk (sp k).toNat=k:=fun k hk=>by
    have hex:∃ m,m<n∧sp m=((sp k).toNat:Int):=⟨k,hk,by have:=h0 k;omega⟩
    show (if h:∃ m,m<n∧sp m=((sp k).toNat:Int) then h.choose else 0)=k
    rw [dif_pos hex]
    obtain ⟨a1,a2⟩:=hex.choose_spec
    exact inj _ _ a1 hk (by have:=h0 k;omega)
  refine ⟨rk,fun i _=>?_,fun i x hx=>?_⟩
  · rw [h.len]
    show (if h:∃ k,k<n∧sp k=(i:Int) then h.choose else 0)<n
    split
    · rename_i hex;exact hex.choose_spec.1
    · exact hn
  · rcases h.at_ i x hx with e | ⟨j,m,hjm,_,hm,e,rfl⟩
    · exact .inl e
    · refine .inr ⟨h0 j,by rw [h.len];exact h1 j,?_⟩
      have ei:i=(sp m).toNat:=by have:=h0 m;omega
      rw [ei,rk_at m hm,rk_at j (by omega)]
      exact hjm
end Rv
namespace Tn
end Tn
namespace Rv
theorem mR {r:List Int} (h:cG r):∀ p:Int,0≤p→p<r.length→∀ q∈walk r p,walk r q <:+ walk r p:=by
  refine h.ind (P:=fun p=>∀ q∈walk r p,walk r q <:+ walk r p) ?_ ?_
  · intro q hq;rw [fJ] at hq;cases hq
  · intro p h0 h1 ih q hq
    rw [bB h h0 h1] at hq
    rcases List.mem_cons.mp hq with e | e
    · rw [e];exact List.suffix_refl _
    · rw [bB h h0 h1]
      exact (ih q e).trans (List.suffix_cons _ _)
theorem ni {r:List Int} (h:cG r) {p:Int} (h0:0≤p) (h1:p<r.length):p∈walk r p:=by
  rw [bB h h0 h1];exact List.mem_cons_self
theorem forest {r:List Int} (h:cG r):Tn.oY (fun x=>0≤x∧x<r.length) (walk r):=by
  refine ⟨fun hr hq=>jk h _ hr.1 hr.2 _ hq,fun hr=>ni h hr.1 hr.2,fun ha hb hc=>(mR h _ ha.1 ha.2 _ hb).subset hc,fun {a b c} hc ha hb=>?_,fun {p q} hp hq hne=>?_⟩
  · have va:=jk h _ hc.1 hc.2 _ ha
    have vb:=jk h _ hc.1 hc.2 _ hb
    rcases List.suffix_or_suffix_of_suffix (mR h _ hc.1 hc.2 _ ha) (mR h _ hc.1 hc.2 _ hb) with e | e
    · exact .inl (e.subset (ni h va.1 va.2))
    · exact .inr (e.subset (ni h vb.1 vb.2))
  · have e:=bB h hp.1 hp.2
    rw [e] at hq
    have hq:=(List.mem_cons.mp hq).resolve_left hne
    rw [e,List.length_cons]
    refine Nat.lt_succ_of_le ?_
    rcases h.step hp.1 hp.2 with z | ⟨z0,z1⟩
    · rw [z,fJ] at hq;cases hq
    · exact (mR h _ z0 z1 _ hq).length_le
theorem qu (f:Nat→Int):∀ n,tot n f=Tn.d8 n f
  | 0=>rfl
  | n + 1=>by show tot n f + f n=Tn.d8 n f + f n;rw [qu f n]
theorem vm {r s:List Int} {t:Int} (h0:0≤t) (h1:t<r.length):Tn.fF (nats r s) t=mL r s t:=by
  unfold Tn.fF nats
  rw [List.getD_eq_getElem?_getD,List.getElem?_map,List.getElem?_range (by omega)]
  show mL r s (t.toNat:Int)=_
  rw [Int.toNat_of_nonneg h0]
end Rv
namespace Tn
structure Riv (n:Nat) (fs:List Int) (W:Nat→List Int) (want sp:Nat→Int) (k:Nat) (xs fl:List Int):Prop where
  xl:xs.length=n
  fll:fl.length=fs.length
  left:∀ i:Nat,i<fs.length→fl.getD i 0=fs.getD i 0 - hold n W (fX xs) (i:Int)
  nn:∀ i:Nat,i<fs.length→0≤fl.getD i 0
  x0:∀ j,j<n→0≤xs.getD j 0∧xs.getD j 0≤want j
  zero:∀ j,j<n→(∀ m,m<k→sp m≠(j:Int))→xs.getD j 0=0
theorem oH (n k:Nat):(List.replicate n (0:Int)).getD k 0=0:=by
  rw [List.getD_eq_getElem?_getD,List.getElem?_replicate];split <;> rfl
theorem Riv.start {n:Nat} {fs:List Int} {W:Nat→List Int} {want:Nat→Int} (sp:Nat→Int) (hw:∀ k,k<n→0≤want k) (hf:∀ a∈fs,0≤a):Riv n fs W want sp 0 (List.replicate n 0) fs:=by
  refine ⟨by simp,rfl,fun i _=>?_,fun i hi=>hf _ (iQ hi),fun j hj=>by rw [oH];exact ⟨Int.le_refl _,hw j hj⟩,fun j _ _=>oH n j⟩
  have:hold n W (fX (List.replicate n 0)) (i:Int)=0:=by
    rw [iM (x:=fX (List.replicate n 0)) (W':=W) (x':=fun _=>0) (fun _ _=>rfl) (fun k _=>oH n k),jh]
  omega
theorem Riv.step {n:Nat} {fs:List Int} {W:Nat→List Int} {want sp:Nat→Int} {k j:Nat} {t:Int} {xs fl fl':List Int} (h:Riv n fs W want sp k xs fl) (hj:j<n) (ej:sp k=(j:Int)) (hne:∀ m,m<k→sp m≠sp k) (t0:0≤t) (t1:t≤want j)
    (tf:∀ i:Nat,i<fs.length→(i:Int)∈W j→t≤fl.getD i 0) (hl:fl'.length=fl.length) (hfl:∀ i:Nat,i<fs.length→fl'.getD i 0=fl.getD i 0 - if (i:Int)∈W j then t else 0):Riv n fs W want sp (k + 1) (xs.set j t) fl':=by
  have hxl:=h.xl
  have z:xs.getD j 0=0:=h.zero j hj fun m hm e=>hne m hm (by rw [e,ej])
  have gs:∀ m,(xs.set j t).getD m 0=if m=j then t else xs.getD m 0:=fun m=>m6 (by omega)
  have hp:∀ m,fX (xs.set j t) m=put (fX xs) j t m:=fun m=>by
    show (xs.set j t).getD m 0=if m=j then fX xs m + t else fX xs m
    rw [gs m]
    by_cases e:m=j
    · rw [if_pos e,if_pos e];show t=xs.getD m 0 + t;rw [e,z];omega
    · rw [if_neg e,if_neg e];rfl
  have hh:∀ i:Int,hold n W (fX (xs.set j t)) i=hold n W (fX xs) i + if i∈W j then t else 0:=fun i=>by
    rw [iM (W':=W) (x':=put (fX xs) j t) (fun _ _=>rfl) (fun m _=>hp m),m5 hj]
  refine ⟨by rw [List.length_set];exact hxl,by rw [hl];exact h.fll,fun i hi=>?_,fun i hi=>?_,fun m hm=>?_,fun m hm hn=>?_⟩
  · rw [hfl i hi,h.left i hi,hh];omega
  · rw [hfl i hi]
    have:=h.nn i hi
    by_cases c:(i:Int)∈W j
    · rw [if_pos c];have:=tf i hi c;omega
    · rw [if_neg c];omega
  · rw [gs m]
    by_cases e:m=j
    · rw [if_pos e,e];exact ⟨t0,t1⟩
    · rw [if_neg e];exact h.x0 m hm
  · rw [gs m,if_neg (fun e=>hn k (by omega) (by rw [ej,e]))]
    exact h.zero m hm fun m' hm'=>hn m' (by omega)
theorem Riv.fit {n:Nat} {fs:List Int} {W:Nat→List Int} {want sp:Nat→Int} {k:Nat} {xs fl:List Int} (h:Riv n fs W want sp k xs fl) (hW:∀ m,m<n→∀ p∈W m,0≤p∧p<fs.length):Fit n (fF fs) W want (fX xs):=by
  refine ⟨fun m hm=>(h.x0 m hm).1,fun m hm=>(h.x0 m hm).2,fun p hp=>?_⟩
  obtain ⟨m,hm,hpm⟩:=hp
  obtain ⟨p0,p1⟩:=hW m hm p hpm
  obtain ⟨i,rfl⟩:=Int.eq_ofNat_of_zero_le p0
  have a:=h.left i (by omega)
  have b:=h.nn i (by omega)
  rw [oJ];omega
end Tn
namespace Tn
end Tn
namespace Rv
theorem yc {r s:List Int} (h:cG r) (hnn:∀ t,0≤mL r s t) {n:Nat} {st:Nat→Int} (hv:∀ k,k<n→0≤st k∧st k<r.length) {W:Nat→List Int} (hW:∀ k,k<n→W k=walk r (st k)) {day want x y:Nat→Int}
    (fx:Tn.Fit n (Tn.fF (nats r s)) W want x) (sx:Tn.lW n (Tn.fF (nats r s)) W day want x) (fy:Tn.Fit n (Tn.fF (nats r s)) W want y):Tn.d8 n y≤Tn.d8 n x:=by
  have cv:∀ t,(∃ k,k<n∧t∈W k)→0≤t∧t<r.length:=fun t ⟨k,hk,ht⟩=>jk h _ (hv k hk).1 (hv k hk).2 _ (by rw [← hW k hk];exact ht)
  have e:∀ t,(∃ k,k<n∧t∈W k)→Tn.fF (nats r s) t=mL r s t:=fun t ht=>vm (cv t ht).1 (cv t ht).2
  have f1:=fx.uz (W':=fun k=>walk r (st k)) hW (fun _ _=>rfl) (fun _ _=>rfl) (F':=mL r s) e
  have s1:=sx.uz (W':=fun k=>walk r (st k)) hW (fun _ _=>rfl) (fun _ _=>rfl) (F':=mL r s) e
  have f2:=fy.uz (W':=fun k=>walk r (st k)) hW (fun _ _=>rfl) (fun _ _=>rfl) (F':=mL r s) e
  have nd:((List.range r.length).map fun j:Nat=>(j:Int)).Nodup:=by
    rw [List.nodup_iff_pairwise_ne,List.pairwise_map]
    exact List.nodup_range.imp fun hne e=>hne (by omega)
  refine Tn.most (forest h) hv (All:=(List.range r.length).map fun j:Nat=>(j:Int)) nd (fun k hk t ht=>?_) (fun t _=>hnn t) f1 s1 f2
  have:=jk h _ (hv k hk).1 (hv k hk).2 _ ht
  exact List.mem_map.mpr ⟨t.toNat,List.mem_range.mpr (by omega),by omega⟩
end Rv
namespace Tn
end Tn
namespace Rv
end Rv
namespace Tn
end Tn
namespace Rv
end Rv
namespace Rv
theorem zL:∀ {l m:List Int},l.Pairwise (·<·)→m.Pairwise (·<·)→(∀ x,x∈l↔x∈m)→l=m
  | [],[],_,_,_=>rfl
  | [],b :: m,_,_,h=>absurd ((h b).mpr List.mem_cons_self) (by simp)
  | a :: l,[],_,_,h=>absurd ((h a).mp List.mem_cons_self) (by simp)
  | a :: l,b :: m,hl,hm,h=>by
    obtain ⟨l1,l2⟩:=List.pairwise_cons.mp hl
    obtain ⟨m1,m2⟩:=List.pairwise_cons.mp hm
    have e:a=b:=by
      rcases List.mem_cons.mp ((h a).mp List.mem_cons_self) with e | e
      · exact e
      · rcases List.mem_cons.mp ((h b).mpr List.mem_cons_self) with e2 | e2
        · exact e2.symm
        · have:=m1 a e
          have:=l1 b e2
          omega
    subst e
    congr 1
    refine zL l2 m2 fun x=>⟨fun hx=>?_,fun hx=>?_⟩
    · rcases List.mem_cons.mp ((h x).mp (List.mem_cons_of_mem _ hx)) with e | e
      · have:=l1 x hx;omega
      · exact e
    · rcases List.mem_cons.mp ((h x).mpr (List.mem_cons_of_mem _ hx)) with e | e
      · have:=m1 x hx;omega
      · exact e
def fH (xs ys:List Int):Bool:=xs.any fun x=>decide (x∈ys)
def vf (r xs:List Int) (x:Int):Bool:=decide (x∈xs) && !fH ((walk r x).drop 1) xs
def vd (r xs:List Int) (n:Nat):List Nat:=(List.range n).filter fun i=>vf r xs (i:Int)
theorem DW (r xs:List Int) (n:Nat):(vd r xs n).length≤n:=by
  unfold vd;refine Nat.le_trans (List.length_filter_le _ _) (by rw [List.length_range];exact Nat.le_refl _)
theorem wX {l:List Nat} (h:l.Pairwise (·<·)):(Tn.asI l).Pairwise (·<·):=by
  unfold Tn.asI
  refine List.Pairwise.map _ (fun a b hab=>?_) h
  exact Int.ofNat_lt.mpr hab
theorem MP {r xs ms:List Int} (h0:∀ x∈xs,0≤x∧x<(r.length:Int)) (hm:ms.Pairwise (·<·)) (he:∀ x,x∈ms↔x∈xs):(ms.filter fun x=>!fH ((walk r x).drop 1) xs)=Tn.asI (vd r xs r.length):=by
  refine zL (hm.sublist List.filter_sublist) (wX (List.Pairwise.sublist List.filter_sublist List.pairwise_lt_range)) fun x=>?_
  unfold Tn.asI vd
  rw [List.mem_filter,List.mem_map,he]
  constructor
  · rintro ⟨h1,h2⟩
    obtain ⟨a0,a1⟩:=h0 x h1
    refine ⟨x.toNat,List.mem_filter.mpr ⟨List.mem_range.mpr (by omega),?_⟩,by omega⟩
    rw [show ((x.toNat:Nat):Int)=x by omega]
    unfold vf
    rw [decide_eq_true h1,h2];rfl
  · rintro ⟨k,hk,rfl⟩
    obtain ⟨_,h2⟩:=List.mem_filter.mp hk
    unfold vf at h2
    rw [Bool.and_eq_true] at h2
    exact ⟨of_decide_eq_true h2.1,h2.2⟩
theorem DR {r D:List Int} (h:cG r):∀ p:Int,0≤p→p<r.length→(∃ z∈walk r p,z∈D)→∃ z∈walk r p,vf r D z=true:=by
  refine h.ind (P:=fun p=>(∃ z∈walk r p,z∈D)→∃ z∈walk r p,vf r D z=true) (fun ⟨z,hz,_⟩=>by rw [fJ] at hz;cases hz) fun p h0 h1 ih=>?_
  rw [bB h h0 h1]
  rintro ⟨z,hz,hD⟩
  by_cases c:∃ z∈walk r (nxt r p),z∈D
  · obtain ⟨y,hy,hl⟩:=ih c
    exact ⟨y,List.mem_cons_of_mem _ hy,hl⟩
  · rcases List.mem_cons.mp hz with e | e
    · subst e
      refine ⟨z,List.mem_cons_self,?_⟩
      unfold vf fH
      rw [bB h h0 h1,decide_eq_true hD,Bool.true_and,List.drop_succ_cons,List.drop_zero,Bool.not_eq_true',← Bool.not_eq_true,List.any_eq_true]
      rintro ⟨y,hy,hq⟩
      exact c ⟨y,hy,of_decide_eq_true hq⟩
    · exact absurd ⟨z,e,hD⟩ c
theorem Am {r D:List Int} (h:cG r) {p y:Int} (h0:0≤p) (h1:p<r.length) (hp:vf r D p=true) (hy:y∈walk r (nxt r p)):y ∉ D:=fun hD=>by
  unfold vf fH at hp
  rw [bB h h0 h1,List.drop_succ_cons,List.drop_zero,Bool.and_eq_true,Bool.not_eq_true',← Bool.not_eq_true,List.any_eq_true] at hp
  exact hp.2 ⟨y,hy,decide_eq_true hD⟩
theorem tu {r D:List Int} {z:Int} (h:vf r D z=true):z∈D:=by
  unfold vf at h
  rw [Bool.and_eq_true] at h
  exact of_decide_eq_true h.1
theorem KN {r D:List Int} (h:cG r):∀ p:Int,0≤p→p<r.length→∀ z y,z∈walk r p→y∈walk r p→vf r D z=true→vf r D y=true→z=y:=by
  refine h.ind (P:=fun p=>∀ z y,z∈walk r p→y∈walk r p→vf r D z=true→vf r D y=true→z=y) (fun z y hz=>by rw [fJ] at hz;cases hz) fun p h0 h1 ih z y hz hy lz ly=>?_
  rw [bB h h0 h1] at hz hy
  rcases List.mem_cons.mp hz with e | e
  · subst e
    rcases List.mem_cons.mp hy with e2 | e2
    · exact e2.symm
    · exact absurd (tu ly) (Am h h0 h1 lz e2)
  · rcases List.mem_cons.mp hy with e2 | e2
    · subst e2
      exact absurd (tu lz) (Am h h0 h1 ly e)
    · exact ih z y e e2 lz ly
theorem nZ {r D:List Int} (h0:∀ x∈D,0≤x∧x<(r.length:Int)) (z:Int):z∈Tn.asI (vd r D r.length)↔vf r D z=true:=by
  unfold Tn.asI vd
  rw [List.mem_map]
  constructor
  · rintro ⟨k,hk,rfl⟩
    exact (List.mem_filter.mp hk).2
  · intro hz
    obtain ⟨a0,a1⟩:=h0 z (tu hz)
    exact ⟨z.toNat,List.mem_filter.mpr ⟨List.mem_range.mpr (by omega),by rw [show ((z.toNat:Nat):Int)=z by omega];exact hz⟩,by omega⟩
theorem MN (r D:List Int) (n:Nat):(Tn.asI (vd r D n)).Nodup:=by
  have:=wX (List.Pairwise.sublist List.filter_sublist (List.pairwise_lt_range (n:=n)):(vd r D n).Pairwise (·<·))
  exact this.imp fun hab=>by omega
theorem tR {n:Nat} {W:Nat→List Int} (y:Nat→Int):∀ {L:List Int},L.Nodup→(∀ k,k<n→∀ a b,a∈L→b∈L→a∈W k→b∈W k→a=b) →
    (L.map (Tn.hold n W y)).sum=Tn.d8 n fun k=>if fH (W k) L=true then y k else 0
  | [],_,_=>by
    have e:(Tn.d8 n fun k=>if fH (W k) []=true then y k else 0)=Tn.d8 n fun _=>0:=Tn.aW fun k _=>by
      rw [if_neg]
      unfold fH
      rw [List.any_eq_true]
      rintro ⟨_,_,h⟩
      exact absurd (of_decide_eq_true h) (by simp)
    rw [e,Tn.dI];rfl
  | z :: L,nd,h1=>by
    obtain ⟨n1,n2⟩:=List.nodup_cons.mp nd
    rw [List.map_cons,List.sum_cons,tR y n2 fun k hk a b ha hb=>h1 k hk a b (List.mem_cons_of_mem _ ha) (List.mem_cons_of_mem _ hb)]
    unfold Tn.hold
    rw [← Tn.gG]
    refine Tn.aW fun k hk=>?_
    have em:∀ M:List Int,fH (W k) M=true↔∃ x∈W k,x∈M:=fun M=>by
      unfold fH;rw [List.any_eq_true]
      exact ⟨fun ⟨x,a,b⟩=>⟨x,a,of_decide_eq_true b⟩,fun ⟨x,a,b⟩=>⟨x,a,decide_eq_true b⟩⟩
    by_cases c1:z∈W k
    · have c2:¬ fH (W k) L=true:=fun q=>by
        obtain ⟨x,hx,hl⟩:=(em L).mp q
        have:=h1 k hk z x List.mem_cons_self (List.mem_cons_of_mem _ hl) c1 hx
        subst this
        exact n1 hl
      rw [if_pos c1,if_neg c2,if_pos ((em _).mpr ⟨z,c1,List.mem_cons_self⟩)];omega
    · rw [if_neg c1]
      by_cases c2:fH (W k) L=true
      · obtain ⟨x,hx,hl⟩:=(em L).mp c2
        rw [if_pos c2,if_pos ((em _).mpr ⟨x,hx,List.mem_cons_of_mem _ hl⟩)];omega
      · rw [if_neg c2,if_neg fun q=>?_]
        · rfl
        · obtain ⟨x,hx,hl⟩:=(em _).mp q
          rcases List.mem_cons.mp hl with e | e
          · subst e;exact c1 hx
          · exact c2 ((em _).mpr ⟨x,hx,e⟩)
theorem Ey {n:Nat} {W:Nat→List Int} {L:List Int} (y:Nat→Int):(((List.range n).filter fun k=>!fH (W k) L).map y).sum=Tn.d8 n fun k=>if fH (W k) L=true then 0 else y k:=by
  induction n with
  | zero=>rfl
  | succ n ih =>
    rw [List.range_succ,List.filter_append,List.map_append,List.sum_append,ih]
    show _=_ + _
    congr 1
    dsimp only
    by_cases c:fH (W n) L=true
    · rw [if_pos c,List.filter_cons,if_neg (by rw [c];decide)];rfl
    · rw [if_neg c,List.filter_cons,if_pos (by rw [Bool.not_eq_true] at c;rw [c];rfl)]
      show [y n].sum=_
      rw [List.sum_cons,List.sum_nil,Int.add_zero]
theorem Lf {n:Nat} {W:Nat→List Int} {L:List Int} (y:Nat→Int) (nd:L.Nodup) (h1:∀ k,k<n→∀ a b,a∈L→b∈L→a∈W k→b∈W k→a=b) :
    Tn.d8 n y=(L.map (Tn.hold n W y)).sum + (((List.range n).filter fun k=>!fH (W k) L).map y).sum:=by
  rw [tR y nd h1,Ey,← Tn.gG]
  exact Tn.aW fun k _=>by split <;> omega
theorem pK {α:Type} {f g:α→Int}:∀ {l:List α},(∀ x∈l,f x=g x)→(l.map f).sum=(l.map g).sum:=fun {l} h=>by rw [List.map_congr_left h]
section
variable {r D:List Int} {n:Nat} {st:Nat→Int} {nat:Int→Int} {x want:Nat→Int}
theorem Ao (h:cG r) (hD:∀ z∈D,0≤z∧z<(r.length:Int)) {W:Nat→List Int} (hst:∀ k,k<n→0≤st k∧st k<(r.length:Int)∧W k=walk r (st k)) :
    ∀ k,k<n→∀ a b,a∈Tn.asI (vd r D r.length)→b∈Tn.asI (vd r D r.length)→a∈W k→b∈W k→a=b:=fun k hk a b ha hb wa wb=>by
  obtain ⟨s0,s1,e⟩:=hst k hk
  rw [e] at wa wb
  exact KN h _ s0 s1 a b wa wb ((nZ hD a).mp ha) ((nZ hD b).mp hb)
theorem Ld (h:cG r) (hD:∀ z∈D,0≤z∧z<(r.length:Int)) {W:Nat→List Int} (hst:∀ k,k<n→0≤st k∧st k<(r.length:Int)∧W k=walk r (st k)) (hn:∀ z∈D,nat z=Tn.hold n W x z)
    (hw:∀ k,k<n→x k=want k∨∃ z∈W k,z∈D) :
    ((Tn.asI (vd r D r.length)).map nat).sum + (((List.range n).filter fun k=>!fH (W k) (Tn.asI (vd r D r.length))).map want).sum=Tn.d8 n x:=by
  rw [Lf x (MN r D r.length) (Ao h hD hst)]
  congr 1
  · exact pK fun z hz=>hn z (tu ((nZ hD z).mp hz))
  · refine pK fun k hk=>?_
    obtain ⟨k1,k2⟩:=List.mem_filter.mp hk
    have hk:=List.mem_range.mp k1
    rcases hw k hk with e | e
    · exact e.symm
    · exfalso
      obtain ⟨s0,s1,ew⟩:=hst k hk
      rw [ew] at e
      obtain ⟨z,hz,lz⟩:=DR h _ s0 s1 e
      have:fH (W k) (Tn.asI (vd r D r.length))=true:=by
        unfold fH;rw [List.any_eq_true]
        exact ⟨z,by rw [ew];exact hz,decide_eq_true ((nZ hD z).mpr lz)⟩
      rw [this] at k2
      cases k2
end
end Rv
namespace My
open PySem L2
local macro_rules | `(tactic| walk_at "new") => `(tactic| (generalize hE : upd _ _ _ = Hn; have On := Ow.mkE (by assumption) (by assumption) hE rfl; clear hE; revert On; revert Hn))
local macro_rules | `(tactic| walk_at "put") => `(tactic| (generalize hE : upd _ _ _ = Hn; (first | have On := Ow.uU (by assumption) 0 rfl hE rfl | have On := Ow.uU (by assumption) 1 rfl hE rfl | have On := Ow.uU (by assumption) 2 rfl hE rfl | have On := Ow.uU (by assumption) 3 rfl hE rfl | have On := Ow.uU (by assumption) 4 rfl hE rfl | have On := Ow.uU (by assumption) 5 rfl hE rfl); clear hE; (try simp only [List.set_cons_zero, List.set_cons_succ] at On); revert On; revert Hn))
set_option hygiene false
local macro_rules | `(tactic| walk_at "get") => `(tactic| first | assumption | exact O.get 0 | exact O.get 1 | exact O.get 2 | exact O.get 3 | exact O.get 4 | exact O.get 5 | exact O.get 6 | exact O.get 7 | exact O.get 8 | exact O.get 9 | exact O.get 10 | exact O.get 11 | exact O.get 12 | fail)
local macro_rules | `(tactic| walk_at "sq") => `(tactic| first | assumption | exact O.sq 0 | exact O.sq 1 | exact O.sq 2 | exact O.sq 3 | exact O.sq 4 | exact O.sq 5 | exact O.sq 6 | exact O.sq 7 | exact O.sq 8 | exact O.sq 9 | exact O.sq 10 | exact O.sq 11 | exact O.sq 12 | exact SqL.mo (by assumption) O.same | exact SqL.mo (by assumption) (s0.trans O.same) | fail)
local macro_rules | `(tactic| walk_at "sqT") => `(tactic| first | assumption | exact O.sqT 0 | exact O.sqT 1 | exact O.sqT 2 | exact O.sqT 3 | exact O.sqT 4 | exact O.sqT 5 | exact O.sqT 6 | exact O.sqT 7 | exact SqT.mo (by assumption) O.same | exact SqT.mo (by assumption) (s0.trans O.same) | fail)
local macro_rules | `(tactic| walk_at "at") => `(tactic| first | rfl | exact eO (by assumption) | exact iT (by assumption) | exact bY (by omega) (by omega) | exact lastV _ _ | exact ints_last (by omega) | exact bY (ns := [_, _]) (by omega) (by simp only [List.length_cons, List.length_nil]; omega) | exact bY (ns := [_, _, _]) (by omega) (by simp only [List.length_cons, List.length_nil]; omega) | exact bY (ns := [_, _, _, _]) (by omega) (by simp only [List.length_cons, List.length_nil]; omega) | exact bY (ns := [_, _, _, _, _]) (by omega) (by simp only [List.length_cons, List.length_nil]; omega) | exact bY (ns := [_, _, _, _, _, _]) (by omega) (by simp only [List.length_cons, List.length_nil]; omega) | exact bY (ns := [_, _, _, _, _, _, _]) (by omega) (by simp only [List.length_cons, List.length_nil]; omega) | exact bY (ns := [_, _, _, _, _, _, _, _]) (by omega) (by simp only [List.length_cons, List.length_nil]; omega) | fail)
local macro_rules | `(tactic| walk_at "c") => `(tactic| first | omega | (simp only [List.length_map]; omega) | exact szl | (show (0 : Int) < _; decide) | (show (0 : Int) < _; omega) | exact ⟨by decide, by decide⟩ | exact .inl ⟨by decide, by decide⟩ | exact .inr ⟨by decide, by decide⟩ | exact ⟨by decide, by decide, by decide⟩ | exact .inl ⟨by omega, by omega⟩ | exact .inr ⟨by omega, by omega⟩ | exact ⟨by omega, by omega⟩ | (split <;> omega) | fail)
local macro_rules | `(tactic| walk_at "ty") => `(tactic| first | exact .int _ | exact .bl _ | exact .lst (by walk_at "get") | exact .tup (by walk_at "get") | exact .non | fail)
local macro_rules | `(tactic| walk_at "kit") => `(tactic| first | exact Gf K | exact Gg K | exact Ge K | exact kit_bb K | exact kit_bi K | exact Gd K | fail)
local macro_rules | `(tactic| walk_at "sz") => `(tactic| exact aQ (by (try simp only [List.length_map, List.length_append, List.length_cons, List.length_nil]); omega))
local macro_rules | `(tactic| walk_at "s") => `(tactic| first | refine Rt ?_ | refine ⟨_, rfl, ?_⟩ | refine ⟨_, _, rfl, rfl, ?_⟩ | refine And.intro rfl ?_ | refine And.intro (by walk_at "c") ?_ | refine ⟨_, _, _, _, rfl, rfl, (show SqL _ _ _ _ by walk_at "sq"), (show atI _ _ = some _ by walk_at "at"), ?_⟩ | refine ⟨_, _, _, _, rfl, rfl, (show SqT _ _ _ _ by walk_at "sqT"), (show atI _ _ = some _ by walk_at "at"), ?_⟩ | refine ⟨_, _, rfl, .inl (show SqL _ _ _ _ by walk_at "sq"), ?_⟩ | refine ⟨_, _, rfl, .inr (show SqT _ _ _ _ by walk_at "sqT"), ?_⟩ | refine ⟨_, _, rfl, (show SqL _ _ _ _ by walk_at "sq"), ?_⟩ | refine And.intro ⟨_, (show SqL _ _ _ _ by walk_at "sq")⟩ ?_ | refine And.intro (.inl ⟨rfl, _, (show SqL _ _ _ _ by walk_at "sq")⟩) ?_ | refine ⟨_, _, _, _, rfl, (show wY _ _ _ _ by walk_at "ty"), (show PySem.W.kitOne _ _ _ = some _ by walk_at "kit"), ?_⟩ | refine ⟨_, _, rfl, ?_⟩ | fail)
local macro_rules | `(tactic| walk_at "w") => `(tactic| repeat walk_at "s")
local macro_rules | `(tactic| walk_at "if") => `(tactic| first | refine KZ ?_ | refine Gh ?_ | refine ifN ?_ | refine ifI (fun hc => ?_) (fun hc => ?_) | refine ifD (fun hc => ?_) (fun hc => ?_) | refine ifB (fun hc => ?_) (fun hc => ?_) | fail)
local macro_rules | `(tactic| walk_at "go") => `(tactic| repeat' (first | walk_at "if" | walk_at "s" | fail))
local macro_rules | `(tactic| walk_at "nw") => `(tactic| (generalize hE : upd _ _ _ = Hn; replace O := Ow.mkE O (by assumption) hE rfl; clear hE))
local macro_rules | `(tactic| walk_at "pt") => `(tactic| (generalize hE : upd _ _ _ = Hn; (first | replace O := Ow.uU O 0 rfl hE rfl | replace O := Ow.uU O 1 rfl hE rfl | replace O := Ow.uU O 2 rfl hE rfl | replace O := Ow.uU O 3 rfl hE rfl | replace O := Ow.uU O 4 rfl hE rfl | replace O := Ow.uU O 5 rfl hE rfl | replace O := Ow.uU O 6 rfl hE rfl | replace O := Ow.uU O 7 rfl hE rfl); clear hE; (try simp only [List.set_cons_zero, List.set_cons_succ] at O)))
local macro_rules | `(tactic| walk_at "app") => `(tactic| (refine ⟨_, _, _, rfl, rfl, (by walk_at "get"), (by walk_at "sz"), ?_⟩; walk_at "pt"))
local macro_rules | `(tactic| walk_at "elt") => `(tactic| (refine ⟨_, (by walk_at "get"), (by walk_at "sz"), ?_⟩; walk_at "pt"))
local macro_rules | `(tactic| walk_at "frz") => `(tactic| (obtain ⟨Hn, On, sn, en⟩ := O.frz; clear O; have O := On; clear On; (try replace s0 := s0.mo sn); (try replace d0 := d0.mo sn); (try replace d1 := d1.mo sn); (try replace d2 := d2.mo sn); (try replace d3 := d3.mo sn); (try replace d4 := d4.mo sn); (try replace d5 := d5.mo sn); (try replace d6 := d6.mo sn); (try replace d7 := d7.mo sn)))
local macro_rules | `(tactic| walk_at "mo") => `(tactic| ((try simp only [List.eraseIdx_cons_zero, List.eraseIdx_cons_succ] at O); (try replace s0 := s0.mo sn); (try replace d0 := d0.mo sn); (try replace d1 := d1.mo sn); (try replace d2 := d2.mo sn); (try replace d3 := d3.mo sn); (try replace d4 := d4.mo sn); (try replace d5 := d5.mo sn); (try replace d6 := d6.mo sn); (try replace d7 := d7.mo sn)))
local macro_rules | `(tactic| walk_at "er") => `(tactic| simp only [List.eraseIdx_cons_zero, List.eraseIdx_cons_succ] at O)
local macro_rules | `(tactic| walk_at "jn") => `(tactic| simp only [List.cons_append, List.nil_append] at O)
def top (i:Nat):Stmt:=PySem.Challenge.pw_sluice_k34_whole_no_takes_more.main.body.getD i (.Pass ⟨0,0,0,0⟩)
abbrev bU:Stmt:=top 37
theorem nH:aU ["script","k"] ["script","k"] (ao bU):=⟨rfl,rfl,rfl,by decide +kernel,rfl,by decide +kernel,by decide +kernel⟩
def zx (K:PySem.W.Frag):Sp:=fun vs H Q _=>∃ (a:Addr) (ns:List Int) (k:Nat),vs=[.ref a,.int (k:Int)]∧SqL K H a (ns.map V.int)∧Q (.int (ns.getD k 0)) H
theorem sl_1 {a1:TT} {a2:TS} {a4:TS} {a5:TS} {D:Ends} {σ:St} {H:Hp} (h:let z3:TS:=a2;let z6:TS:=a5;(aP (jV a1 z3 a4) z6) D σ H):(aP (jV a1 a2 a4) a5) D σ H:=h
theorem UW {a1:TS} {a2:TS} {a3:TS} {D:Ends} {σ:St} {H:Hp} (h:let z4:TS:=a3;let z5:TS:=aP a2 z4;(aP a1 z5) D σ H):(aP a1 (aP a2 a3)) D σ H:=h
theorem sl_3 {a1:TS} {a2:TT} {a3:TS} {a5:TS} {D:Ends} {σ:St} {H:Hp} (h:let z4:TS:=a3;let z6:TS:=a5;let z7:TS:=aP (nA a2 z4) z6;(aP a1 z7) D σ H):(aP a1 (aP (nA a2 a3) a5)) D σ H:=h
theorem sl_4 {a1:TS} {a2:TI} {a3:TG} {a4:TT} {a5:TS} {a7:TS} {a9:TS} {D:Ends} {σ:St} {H:Hp} (h:let z6:TS:=a5;let z8:TS:=jV a4 z6 a7;let z10:TS:=a9;let z11:TS:=aP (j8 a2 a3 z8) z10;(aP a1 z11) D σ H):(aP a1 (aP (j8 a2 a3 (jV a4 a5 a7)) a9)) D σ H:=h
theorem sl_5 {a1:TS} {a2:TT} {a3:TS} {a5:TS} {a6:TT} {a7:TS} {a9:TS} {a10:TS} {D:Ends} {σ:St} {H:Hp} (h:let z4:TS:=a3;let z8:TS:=a7;let z11:TS:=a10;let z12:TS:=aP (jV a6 z8 a9) z11;let z13:TS:=aP (jV a2 z4 a5) z12;(aP a1 z13) D σ H):(aP a1 (aP (jV a2 a3 a5) (aP (jV a6 a7 a9) a10))) D σ H:=h
theorem UL {a1:TS} {a2:TS} {D:Ends} {σ:St} {H:Hp} (h:let z3:TS:=a2;(aP a1 z3) D σ H):(aP a1 a2) D σ H:=h
theorem RP {a1:TS} {a2:TI} {a3:TG} {a4:TI} {a5:TG} {a6:TS} {a9:TS} {D:Ends} {σ:St} {H:Hp} (h:let z7:TS:=a6;let z8:TS:=j8 a4 a5 z7;let z10:TS:=a9;let z11:TS:=aP (j8 a2 a3 z8) z10;(aP a1 z11) D σ H):(aP a1 (aP (j8 a2 a3 (j8 a4 a5 a6)) a9)) D σ H:=h
theorem sl_8 {a1:TI} {a2:TG} {a3:TS} {D:Ends} {σ:St} {H:Hp} (h:let z4:TS:=a3;(j8 a1 a2 z4) D σ H):(j8 a1 a2 a3) D σ H:=h
theorem sl_9 {a1:TS} {a2:TS} {a3:TI} {a4:TG} {a5:TS} {a6:TS} {D:Ends} {σ:St} {H:Hp} (h:let z7:TS:=a6;let z8:TS:=aP a5 z7;let z9:TS:=j8 a3 a4 z8;let z10:TS:=aP a2 z9;(aP a1 z10) D σ H):(aP a1 (aP a2 (j8 a3 a4 (aP a5 a6)))) D σ H:=h
theorem R6 {a1:TS} {a2:TI} {a3:TG} {a4:TT} {a5:TS} {a6:TS} {a7:TS} {a11:TS} {a13:TS} {D:Ends} {σ:St} {H:Hp} (h:let z8:TS:=a7;let z9:TS:=aP a6 z8;let z10:TS:=aP a5 z9;let z12:TS:=jV a4 z10 a11;let z14:TS:=a13;let z15:TS:=aP (j8 a2 a3 z12) z14;(aP a1 z15) D σ H):(aP a1 (aP (j8 a2 a3 (jV a4 (aP a5 (aP a6 a7)) a11)) a13)) D σ H:=h
theorem R5 {a1:TS} {a2:TS} {a3:TS} {a4:TT} {a5:TS} {a6:TS} {a9:TS} {D:Ends} {σ:St} {H:Hp} (h:let z7:TS:=a6;let z8:TS:=aP a5 z7;let z10:TS:=a9;let z11:TS:=aP (nA a4 z8) z10;let z12:TS:=aP a3 z11;let z13:TS:=aP a2 z12;(aP a1 z13) D σ H):(aP a1 (aP a2 (aP a3 (aP (nA a4 (aP a5 a6)) a9)))) D σ H:=h
theorem R4 {a1:TS} {a2:TI} {a3:TG} {a4:TS} {a6:TS} {D:Ends} {σ:St} {H:Hp} (h:let z5:TS:=a4;let z7:TS:=a6;let z8:TS:=aP (j8 a2 a3 z5) z7;(aP a1 z8) D σ H):(aP a1 (aP (j8 a2 a3 a4) a6)) D σ H:=h
theorem R3 {a1:TS} {a2:TS} {a3:TS} {a4:TI} {a5:TG} {a6:TS} {a7:TS} {a8:TI} {a9:TG} {a10:TS} {a15:TS} {D:Ends} {σ:St} {H:Hp} (h:let z11:TS:=a10;let z12:TS:=j8 a8 a9 z11;let z13:TS:=aP a7 z12;let z14:TS:=aP a6 z13;let z16:TS:=a15;let z17:TS:=aP (j8 a4 a5 z14) z16;let z18:TS:=aP a3 z17;let z19:TS:=aP a2 z18;(aP a1 z19) D σ H):(aP a1 (aP a2 (aP a3 (aP (j8 a4 a5 (aP a6 (aP a7 (j8 a8 a9 a10)))) a15)))) D σ H:=h
theorem R0 {a1:TS} {a2:TS} {a3:TS} {a4:TS} {a5:TS} {a6:TI} {a7:TG} {a8:TS} {a9:TT} {a10:TS} {a12:TS} {a15:TS} {D:Ends} {σ:St} {H:Hp} (h:let z11:TS:=a10;let z13:TS:=jV a9 z11 a12;let z14:TS:=aP a8 z13;let z16:TS:=a15;let z17:TS:=aP (j8 a6 a7 z14) z16;let z18:TS:=aP a5 z17;let z19:TS:=aP a4 z18;let z20:TS:=aP a3 z19;let z21:TS:=aP a2 z20;(aP a1 z21) D σ H):(aP a1 (aP a2 (aP a3 (aP a4 (aP a5 (aP (j8 a6 a7 (aP a8 (jV a9 a10 a12))) a15)))))) D σ H:=h
theorem RZ {a1:TS} {a2:TI} {a3:TG} {a4:TT} {a5:TS} {a7:TT} {a8:TS} {a10:TS} {a14:TS} {D:Ends} {σ:St} {H:Hp} (h:let z6:TS:=a5;let z9:TS:=a8;let z11:TS:=a10;let z12:TS:=jV a7 z9 z11;let z13:TS:=jV a4 z6 z12;let z15:TS:=a14;let z16:TS:=aP (j8 a2 a3 z13) z15;(aP a1 z16) D σ H):(aP a1 (aP (j8 a2 a3 (jV a4 a5 (jV a7 a8 a10))) a14)) D σ H:=h
theorem RX {a1:TS} {a2:TT} {a3:TS} {a4:TS} {a7:TS} {D:Ends} {σ:St} {H:Hp} (h:let z5:TS:=a4;let z6:TS:=aP a3 z5;let z8:TS:=a7;let z9:TS:=aP (nA a2 z6) z8;(aP a1 z9) D σ H):(aP a1 (aP (nA a2 (aP a3 a4)) a7)) D σ H:=h
theorem RW {a1:TS} {a2:TS} {a3:TS} {a4:TT} {a5:TS} {a6:TS} {a9:TS} {a10:TT} {a11:TS} {a13:TS} {a14:TS} {D:Ends} {σ:St} {H:Hp} (h:let z7:TS:=a6;let z8:TS:=aP a5 z7;let z12:TS:=a11;let z15:TS:=a14;let z16:TS:=uH (jV a10 z12 a13) z15;let z17:TS:=uH (jV a4 z8 a9) z16;let z18:TS:=aP a3 z17;let z19:TS:=aP a2 z18;(aP a1 z19) D σ H):(aP a1 (aP a2 (aP a3 (uH (jV a4 (aP a5 a6) a9) (uH (jV a10 a11 a13) a14))))) D σ H:=h
theorem RV {a1:TS} {a2:TS} {a3:TS} {a4:TS} {a5:TI} {a6:TG} {a7:TS} {a8:TS} {a9:TS} {a10:TT} {a11:TS} {a13:TS} {a14:TS} {a15:TI} {a16:TG} {a17:TS} {a25:TS} {D:Ends} {σ:St} {H:Hp} (h:let z12:TS:=a11;let z18:TS:=a17;let z19:TS:=j8 a15 a16 z18;let z20:TS:=aP a14 z19;let z21:TS:=uH (jV a10 z12 a13) z20;let z22:TS:=aP a9 z21;let z23:TS:=aP a8 z22;let z24:TS:=aP a7 z23;let z26:TS:=a25;let z27:TS:=aP (j8 a5 a6 z24) z26;let z28:TS:=aP a4 z27;let z29:TS:=aP a3 z28;let z30:TS:=aP a2 z29;(aP a1 z30) D σ H):(aP a1 (aP a2 (aP a3 (aP a4 (aP (j8 a5 a6 (aP a7 (aP a8 (aP a9 (uH (jV a10 a11 a13) (aP a14 (j8 a15 a16 a17))))))) a25))))) D σ H:=h
theorem RT {a1:TT} {a2:TS} {a4:TS} {a5:TS} {a6:TS} {a7:TS} {a8:TS} {a9:TS} {a10:TS} {a11:TS} {D:Ends} {σ:St} {H:Hp} (h:let z3:TS:=a2;let z12:TS:=a11;let z13:TS:=aP a10 z12;let z14:TS:=aP a9 z13;let z15:TS:=aP a8 z14;let z16:TS:=aP a7 z15;let z17:TS:=aP a6 z16;let z18:TS:=aP a5 z17;(aP (jV a1 z3 a4) z18) D σ H):(aP (jV a1 a2 a4) (aP a5 (aP a6 (aP a7 (aP a8 (aP a9 (aP a10 a11))))))) D σ H:=h
theorem RQ {a1:TS} {a2:TS} {a3:TS} {a4:TS} {a5:TS} {a6:TS} {a7:TI} {a8:TG} {a9:TS} {a10:TS} {a11:TS} {a15:TS} {a16:TS} {a17:TT} {a18:TS} {a20:TS} {a21:TT} {a22:TS} {a24:TS} {a25:TS} {a26:TT} {a27:TS} {a29:TS} {a30:TS} {D:Ends} {σ:St} {H:Hp} (h:let z12:TS:=a11;let z13:TS:=aP a10 z12;let z14:TS:=aP a9 z13;let z19:TS:=a18;let z23:TS:=a22;let z28:TS:=a27;let z31:TS:=a30;let z32:TS:=aP (jV a26 z28 a29) z31;let z33:TS:=aP a25 z32;let z34:TS:=aP (jV a21 z23 a24) z33;let z35:TS:=aP (jV a17 z19 a20) z34;let z36:TS:=aP a16 z35;let z37:TS:=aP a15 z36;let z38:TS:=aP (j8 a7 a8 z14) z37;let z39:TS:=aP a6 z38;let z40:TS:=aP a5 z39;let z41:TS:=aP a4 z40;let z42:TS:=aP a3 z41;let z43:TS:=aP a2 z42;(aP a1 z43) D σ H):(aP a1 (aP a2 (aP a3 (aP a4 (aP a5 (aP a6 (aP (j8 a7 a8 (aP a9 (aP a10 a11))) (aP a15 (aP a16 (aP (jV a17 a18 a20) (aP (jV a21 a22 a24) (aP a25 (aP (jV a26 a27 a29) a30))))))))))))) D σ H:=h
theorem KD {f:Addr} {fd:FuncData} (D:Df K mg "_law_cell_at" bU ["script","k"] f fd) (B:Blt mg):bZ P w K mg base CX0 1 f fd ["script","k"] (zx K):=by
  refine D.F.ok nH (fun vs H Q E h=>?_) (fun cdv A outer s H vs Q E hr h=>?_)
  · obtain ⟨a,ns,k,rfl,_⟩:=h;rfl
  · obtain ⟨a,ns,k,rfl,hS,q⟩:=h
    refine ⟨_,(au (jX (dF Mp (pv 1) (aH aK rfl B.len PySem.boot_len (ak (pv 0) aq)) (d9 _))
        (aD (bA (bC aR (pv 0) (pv 1) (fun _ _=>rfl))))
        gB)
      (aD (bA aA))),?_⟩
    refine sl_1 ?_
    intro zu0 zu1
    refine ⟨_,rfl,_,rfl,a,_,rfl,.inl hS,_,_,rfl,rfl,_,rfl,?_⟩
    refine Va (fun h=>?_) (fun h=>?_)
    · have hk:k<ns.length:=by
        have:=of_decide_eq_true h
        rw [List.length_map] at this;omega
      have e:ns[k]?=some (ns.getD k 0):=by rw [List.getD_eq_getElem?_getD,List.getElem?_eq_getElem hk];rfl
      exact ⟨_,rfl,_,rfl,a,_,_,_,rfl,rfl,hS,eO e,q⟩
    · have hk:¬ k<ns.length:=fun z=>h (decide_eq_true (by rw [List.length_map];omega))
      have e:ns.getD k 0=0:=by rw [List.getD_eq_getElem?_getD,List.getElem?_eq_none (by omega)];rfl
      rw [e] at q
      exact q
abbrev dN:Stmt:=top 39
theorem jy:aU ["cell","k","seed","turned"] ["cell","k"] (ao dN):=⟨rfl,rfl,rfl,by decide +kernel,rfl,by decide +kernel,by decide +kernel⟩
def drw (c k:Int):Int:=((c % 1000000007 * 6007 + 613 * k + 104729) * (c % 1000000007 * 6007 + 613 * k + 104729) % 1000000007 * (c % 1000000007 * 6007 + 613 * k + 104729 + 5 * k + 1) % 998244353) * ((c % 1000000007 * 6007 + 613 * k + 104729) * (c % 1000000007 * 6007 + 613 * k + 104729) % 1000000007 * (c % 1000000007 * 6007 + 613 * k + 104729 + 5 * k + 1) % 998244353 + 2 * k + 3) % 4294967291
theorem JZ (c k:Int):0≤drw c k:=Int.emod_nonneg _ (by decide)
theorem Q9 (c k:Int):drw c k<4294967291:=Int.emod_lt_of_pos _ (by decide)
def FP:Sp:=fun vs H Q _=>∃ (c k:Int),vs=[.int c,.int k]∧0≤k∧k≤1000∧Q (.int (drw c k)) H
theorem Mx {f:Addr} {fd:FuncData} (D:Df K mg "_law_draw" dN ["cell","k"] f fd):bZ P w K mg base CX0 1 f fd ["cell","k"] FP:=by
  refine D.F.ok jy (fun vs H Q E h=>?_) (fun cdv A outer s H vs Q E hr h=>?_)
  · obtain ⟨c,k,rfl,_⟩:=h;rfl
  · obtain ⟨c,k,rfl,h0,h1,q⟩:=h
    have a0:=Int.emod_nonneg c (show (1000000007:Int)≠0 by decide)
    have a1:=Int.emod_lt_of_pos c (show (0:Int)<1000000007 by decide)
    refine ⟨_,(au (aN (i:=2) jy.nd rfl (Or.inl rfl) (aL dh (aL dh (aL gO (aL cD (pv 0) aA) aA) (aL gO aA (pv 1))) aA))
      (au (aN (i:=3) jy.nd rfl (Or.inl rfl) (aL cD (aL gO (aL cD (aL gO (pv 2) (pv 2)) aA) (aL dh (aL dh (pv 2) (aL gO aA (pv 1))) aA)) aA))
      (aD (bA (aL cD (aL gO (pv 3) (aL dh (aL dh (pv 3) (aL gO aA (pv 1))) aA)) aA))))),?_⟩
    refine UW ?_
    intro zu0 zu1
    refine ⟨_,rfl,_,_,rfl,rfl,(by show (0:Int)<1000000007;decide),_,_,rfl,rfl,.inr ⟨by decide,by decide⟩,_,rfl,_,_,rfl,rfl,.inl ⟨by decide,by decide⟩,_,_,rfl,rfl,_,_,rfl,rfl,?_⟩
    refine ⟨_,rfl,_,rfl,_,_,rfl,rfl,.inl ⟨by omega,by omega⟩,_,_,rfl,rfl,(by show (0:Int)<1000000007;decide),_,rfl,_,rfl,_,_,rfl,rfl,.inl ⟨by decide,by decide⟩,_,_,rfl,rfl,_,_,rfl,rfl,_,_,rfl,rfl,.inr ⟨by omega,by omega⟩,_,_,rfl,rfl,(by show (0:Int)<998244353;decide),?_⟩
    have b0:=Int.emod_nonneg ((c % 1000000007 * 6007 + 613 * k + 104729) * (c % 1000000007 * 6007 + 613 * k + 104729) % 1000000007 * (c % 1000000007 * 6007 + 613 * k + 104729 + 5 * k + 1)) (show (998244353:Int)≠0 by decide)
    have b1:=Int.emod_lt_of_pos ((c % 1000000007 * 6007 + 613 * k + 104729) * (c % 1000000007 * 6007 + 613 * k + 104729) % 1000000007 * (c % 1000000007 * 6007 + 613 * k + 104729 + 5 * k + 1)) (show (0:Int)<998244353 by decide)
    exact ⟨_,rfl,_,rfl,_,rfl,_,_,rfl,rfl,.inl ⟨by decide,by decide⟩,_,_,rfl,rfl,_,_,rfl,rfl,_,_,rfl,rfl,.inl ⟨by omega,by omega⟩,_,_,rfl,rfl,(by show (0:Int)<4294967291;decide),q⟩
abbrev bx:Stmt:=top 40
theorem qG:aU ["cell","many"] ["cell","many"] (ao bx):=⟨rfl,rfl,rfl,by decide +kernel,rfl,by decide +kernel,by decide +kernel⟩
def Cy (c:Int) (n:Nat):List Int:=(List.range n).map fun (i:Nat)=>drw c (i:Int)
theorem Bs (c:Int) (n:Nat):Cy c (n + 1)=Cy c n++[drw c (n:Int)]:=by
  unfold Cy;rw [List.range_succ,List.map_append];rfl
theorem kZ (c:Int) (n:Nat):(Cy c n).length=n:=by unfold Cy;simp
theorem vo {c:Int} {n:Nat} {k:Nat}:0≤(Cy c n).getD k 0:=by
  rw [List.getD_eq_getElem?_getD]
  unfold Cy
  rw [List.getElem?_map]
  cases (List.range n)[k]? with
  | none=>exact Int.le_refl _
  | some i=>exact JZ _ _
def nF:Sp:=fun vs H Q _=>∃ (c m:Int),vs=[.int c,.int m]∧-1000≤m∧m≤1000∧Rj H (fun xs=>∃ ys,xs=ys.map V.int∧ys=Cy c m.toNat) Q
theorem Ky {f fP:Addr} {fd fdP:FuncData} (D:Df K mg "_law_mixed" bx ["cell","many"] f fd) (B:Blt mg) (gF:Df K mg "_law_draw" dN ["cell","k"] fP fdP)
    (vJ:bZ P w K mg base CX0 1 fP fdP ["cell","k"] FP):bZ P w K mg base CX0 2 f fd ["cell","many"] nF:=by
  refine D.F.ok qG (fun vs H Q E h=>?_) (fun cdv A outer s H vs Q E hr h=>?_)
  · obtain ⟨c,k,rfl,_⟩:=h;rfl
  · obtain ⟨c,m,rfl,h0,h1,q⟩:=h
    refine ⟨_,(aD (bA (fU (ao bx) rfl ["cell","many"] rfl ["k","cell"] [none,some 0] (by decide +kernel) (by decide +kernel) (by decide +kernel) rfl (nQ rfl B.range (ak (pv 1) aq)) (fun _ _ _=>(aG (i:=0) (show (["k","cell"]:List Str).Nodup by decide +kernel) rfl (Or.inl rfl))) (fun _ _ _=>fQ) (fun _ _ _=>(aF vJ (hr.mono (by decide)) rfl gF.m gF.F.kp gF.b .nil bH (ak (pv 1) (ak (pv 0) aq))))))),?_⟩
    refine ⟨_,rfl,m,rfl,by omega,by omega,fun acc hacc=>?_⟩
    refine p7 (fun i τ H2=>∃ v,τ=[v,some (.int c)]∧Same H H2∧H2 acc=some (.lst ((Cy c i).map V.int))) ⟨none,rfl,(Same.refl H).upd hacc,bG⟩ ?_ ?_
    · rintro i τ H2 hi ⟨v,rfl,s2,h2⟩
      refine yD ?_
      refine ⟨_,rfl,_,rfl,c,_,rfl,by omega,by omega,?_⟩
      refine ⟨_,h2,aQ (by rw [List.length_map,kZ];omega),_,rfl,s2.upd hacc,?_⟩
      rw [bG,Bs,List.map_append,show (0:Int) + (i:Int)=(i:Int) by omega];rfl
    · rintro τ H2 ⟨v,rfl,s2,h2⟩
      exact q acc H2 _ s2 hacc h2 ⟨_,rfl,rfl⟩
abbrev cR:Stmt:=top 38
theorem qF:aU ["found"] ["found"] (ao cR):=⟨rfl,rfl,rfl,by decide +kernel,rfl,by decide +kernel,by decide +kernel⟩
def vV:Sp:=fun vs H Q _=>∃ (z:Int),vs=[.int z]∧Q (.bl true) H
theorem Gf (K:PySem.W.Frag):PySem.W.kitOne K (.type "int") (.type "int")=some true:=by rfl
theorem Gg (K:PySem.W.Frag):PySem.W.kitOne K (.type "int") (.type "bool")=some false:=by rfl
theorem Ge (K:PySem.W.Frag):PySem.W.kitOne K (.type "list") (.type "list")=some true:=by rfl
theorem Dr {f:Addr} {fd:FuncData} (D:Df K mg "_law_whole" cR ["found"] f fd) (B:Blt mg):bZ P w K mg base CX0 1 f fd ["found"] vV:=by
  refine D.F.ok qF (fun vs H Q E h=>?_) (fun cdv A outer s H vs Q E hr h=>?_)
  · obtain ⟨z,rfl,_⟩:=h;rfl
  · obtain ⟨z,rfl,q⟩:=h
    refine ⟨_,(aD (bA (Ga (aH jq rfl B.isinstance PyProof.Rows.boot_isinstance (ak (pv 0) (ak (qM (v:=.ty "int") rfl B.int PyProof.Rows.boot_int rfl) aq))) (FZ (Ml (aH jq rfl B.isinstance PyProof.Rows.boot_isinstance (ak (pv 0) (ak (qM (v:=.ty "bool") rfl B.bool PyProof.Rows.boot_bool rfl) aq)))))))),?_⟩
    refine ⟨_,rfl,_,_,_,true,rfl,.int _,Gf K,_,rfl,KZ ?_⟩
    exact ⟨_,rfl,_,_,_,false,rfl,.int _,Gg K,_,rfl,q⟩
theorem iH (n:Nat) (x:Int):(List.replicate n [V.int x]).flatten=(List.replicate n x).map V.int:=by rw [List.map_replicate];exact Kh _ _
theorem lB {w cur:List Int} {c z:Int} {j:Nat} (hz:w[j]?=some z):Tn.bump cur (w.take (j + 1)) c=(Tn.bump cur (w.take j) c).set z.toNat ((Tn.bump cur (w.take j) c).getD z.toNat 0 + c):=by
  rw [List.take_add_one,hz];exact Tn.Cd _ _ _ _
abbrev gH:Stmt:=top 6
theorem rY:aU ["below","reach","way"] ["below","reach"] (ao gH):=⟨rfl,rfl,rfl,by decide +kernel,rfl,by decide +kernel,by decide +kernel⟩
def vW (K:PySem.W.Frag):Sp:=fun vs H Q _=>∃ (a:Addr) (r:List Int) (p:Int),vs=[.ref a,.int p]∧SqL K H a (r.map V.int)∧Rv.cG r∧0≤p∧p<r.length∧r.length≤900 ∧
  Rj H (fun xs=>xs=(Rv.walk r p).map V.int) Q
theorem Ci (pre:List Int) (z:Int):atI ((pre++[z]).map V.int) (-1)=some (V.int z):=by
  rw [List.map_append];exact Fi _ _
theorem Mr {f:Addr} {fd:FuncData} (D:Df K mg "way_of" gH ["below","reach"] f fd) (C:Mth mg):bZ P w K mg base CX0 1 f fd ["below","reach"] (vW K):=by
  obtain ⟨tM,hMOUTH⟩:=C.MOUTH
  refine D.F.ok rY (fun vs H Q E h=>?_) (fun cdv A outer s H vs Q E hr h=>?_)
  · obtain ⟨a,r,p,rfl,_⟩:=h;rfl
  · obtain ⟨a,r,p,rfl,hS,hR,p0,p1,hn,q⟩:=h
    refine ⟨_,(au (aN (i:=2) rY.nd rfl (Or.inl rfl) (gM (ak (pv 1) aq)))
      (au (qI PassesOwn.never (dF uZ (bC aR (pv 0) (bC aR (pv 2) (xV pH aA) (fun _ _=>rfl)) (fun _ _=>rfl)) (qL (v:=.int (-1)) rfl hMOUTH ⟨_,rfl⟩) (d9 _))
        (aD (gY (o7 PySem.F.plainAttrs_list PySem.F.slot_list_append PySem.F.type_list_append eE (pv 2) (ak (bC aR (pv 0) (bC aR (pv 2) (xV pH aA) (fun _ _=>rfl)) (fun _ _=>rfl)) aq)))))
      (aD (bA (pv 2))))),?_⟩
    refine sl_3 ?_
    intro zu0 zu1 zu2
    refine ⟨_,rfl,(by show 1≤sizeLine;decide),fun lw hlw=>?_⟩
    refine ⟨fun m σ H'=>∃ (pre:List Int) (z:Int),σ=[some (.ref a),some (.int p),some (.ref lw)]∧Same H H'∧H' lw=some (.lst ((pre++[z]).map V.int))∧0≤z∧z<r.length∧pre++Rv.walk r z=Rv.walk r p∧m=Rv.mea r z,
      ⟨_,[],p,rfl,(Same.refl H).upd hlw,bG,p0,p1,rfl,rfl⟩,?_⟩
    rintro m σ H2 ⟨pre,z,rfl,s2,h2,z0,z1,e,rfl⟩
    have g:=Rv.jB z0 z1
    have hlen:pre.length + (Rv.walk r z).length≤r.length + 1:=by
      have:=Rv.j6 r p
      rw [← e,List.length_append] at this;exact this
    refine ⟨_,rfl,_,rfl,_,rfl,lw,_,_,_,rfl,rfl,SqL.of h2,Ci pre z,a,_,_,_,rfl,rfl,s2.seq hS,kO z0 g,rfl,_,rfl,?_⟩
    rcases hR.step z0 z1 with hm | ⟨n0,n1⟩
    · rw [hm]
      refine K1 rfl ?_
      refine ⟨_,rfl,q lw H2 _ s2 hlw h2 ?_⟩
      have ew:Rv.walk r z=[z]:=by rw [Rv.bB hR z0 z1,hm,Rv.fJ]
      rw [← e,ew]
    · have hd:(!decide (V.int (Rv.nxt r z)=V.int (-1)))=true:=by
        have:¬ Rv.nxt r z=-1:=by omega
        simp [this]
      rw [hd]
      refine KZ ?_
      refine ⟨fun σ' H'=>∃ m',m'<Rv.mea r z∧∃ (pre:List Int) (z:Int),σ'=[some (.ref a),some (.int p),some (.ref lw)]∧Same H H'∧H' lw=some (.lst ((pre++[z]).map V.int))∧0≤z∧z<r.length∧pre++Rv.walk r z=Rv.walk r p∧m'=Rv.mea r z,fun _ _ x=>x,?_⟩
      refine ⟨_,rfl,.inl ⟨rfl,_,SqL.of h2⟩,_,rfl,_,rfl,_,rfl,lw,_,_,_,rfl,rfl,SqL.of h2,Ci pre z,a,_,_,_,rfl,rfl,s2.seq hS,kO z0 g,lw,_,_,rfl,rfl,h2,aQ ?_,?_⟩
      · rw [List.length_map,List.length_append]
        have:1≤(Rv.walk r z).length:=by rw [Rv.bB hR z0 z1];exact Nat.succ_le_succ (Nat.zero_le _)
        show pre.length + 1≤_
        omega
      · refine ⟨_,Rv.Gb hR z0 z1,pre++[z],Rv.nxt r z,rfl,s2.upd hlw,?_,n0,n1,?_,rfl⟩
        · rw [bG,List.map_append (l₁:=pre++[z])];rfl
        · rw [List.append_assoc]
          show pre++(z :: Rv.walk r (Rv.nxt r z))=_
          rw [← Rv.bB hR z0 z1];exact e
abbrev cA:Stmt:=top 7
theorem qC:aU ["below"] ["below"] (ao cA):=⟨rfl,rfl,rfl,by decide +kernel,rfl,by decide +kernel,by decide +kernel⟩
def Ke (K:PySem.W.Frag) (H:Hp) (a:Addr) (r:List Int):Prop:=SqL K H a (r.map V.int)∧Rv.cG r∧r.length<64
def cH:Pos × Str:=(⟨16,41,16,90⟩,"tops_first.<locals>.<lambda>")
def TT1 (P:Addr) (T:gk):Prop:=(P,cH.1,cH.2)∈T∧(T.map (·.1)).Nodup
def zj (K:PySem.W.Frag) (T:gk):Sp:=fun vs H Q _=>∃ (a:Addr) (r:List Int),vs=[.ref a]∧Ke K H a r∧TabsOk T H ∧
  jF T H (fun xs=>∃ p,xs=p.map (fun (i:Nat)=>V.int (i:Int))∧Rv.CG r p) Q
theorem KQ {r:List Int} {i j:Nat} (hi:i<64) (hj:j<64):HT.lexLt [-((Rv.walk r (i:Int)).length:Int),(i:Int)] [-((Rv.walk r (j:Int)).length:Int),(j:Int)]=decide (Rv.kap r i<Rv.kap r j):=by
  unfold Rv.kap
  rw [HT.jg,HT.jg,HT.kJ]
  rw [Bool.eq_iff_iff]
  split
  · split
    · simp only [Bool.false_eq_true,decide_eq_true_eq,false_iff];omega
    · simp only [decide_eq_true_eq];omega
  · simp only [decide_eq_true_eq];omega
theorem Kr {f fW:Addr} {fd fdW:FuncData} {pT cT:Addr} {T:gk} (D:Df K mg "tops_first" cA ["below"] f fd) (hcd:fd.code=.ref cT) (hhd:PySem.W.codeHdIn K cT pT=true) (hT:TT1 pT T) (hbm:BM mg base) (B:Blt mg)
    (cI:Df K mg "way_of" gH ["below","reach"] fW fdW) (lF:bZ P w K mg base CX0 1 fW fdW ["below","reach"] (vW K)):bZ P w K mg base CX0 5 f fd ["below"] (zj K T):=by
  refine D.F.okC hcd qC (fun vs H Q E h=>?_) (fun A outer s H vs Q E hr h=>?_)
  · obtain ⟨a,r,rfl,_⟩:=h;rfl
  · obtain ⟨a,r,rfl,⟨hS,hR,h64⟩,tk,q⟩:=h
    refine ⟨_,(aD (bA (mJ (P:=pT) (c:=cT) (p:="reach") (ao cA) rfl ["below"] rfl ["below"] [some 0] (by decide +kernel) (by decide +kernel) (by decide +kernel) rfl hbm rfl hhd (wJ (hr.mono (by decide))) rfl B.sorted rfl B.range (ak (aH aK rfl B.len PySem.boot_len (ak (pv 0) aq)) aq) (fun A f cv s H hh hd hu=>(pP (ak (xV pH (aH (rB (K:=K) rfl) rfl B.len PySem.boot_len (ak (aF lF (wI (hr.mono (by decide)) hh hd hu) rfl cI.m cI.F.kp cI.b .nil bH (ak (pv 1) (ak (pv 0) aq))) aq))) (ak (pv 0) aq)))) (fun _ _ _ _=>rfl)))),?_⟩
    have hl:(r.map V.int).length=r.length:=List.length_map _
    refine ⟨_,rfl,a,_,rfl,.inl hS,r.length,by rw [hl],h64,tk _ hT.1,fun H2 k1 k2 t2=>?_⟩
    have sT:bF T H H2:=bF.tab tk hT.1 hT.2 k1 t2
    refine ⟨fun i ts H3=>bF T H2 H3∧ts.length=i∧∀ (j:Nat) (t:Addr),ts[j]?=some t→H3 t=some (.tup ([-((Rv.walk r (j:Int)).length:Int),(j:Int)].map V.int)),fun i=>[-((Rv.walk r (i:Int)).length:Int),(i:Int)],Rv.kap r,1,⟨bF.refl sT.t1,rfl,fun j t e=>by simp at e⟩,?_,?_,fun _ _=>rfl,fun i j hi hj=>KQ (by omega) (by omega),?_,?_⟩
    · rintro i ts H3 hi ⟨s3,htl,h3⟩
      refine ⟨fun c' e=>s3.keep c' _ e fun ps z=>(by cases z),?_⟩
      refine ⟨_,rfl,_,rfl,a,r,(i:Int),rfl,(sT.trans s3).seq hS,hR,by omega,by omega,by omega,fun l H4 xs s4 n4 h4 e4=>?_⟩
      subst e4
      refine ⟨l,_,rfl,.inl (SqL.of h4),_,rfl,_,rfl,(by show 2≤sizeLine;decide),fun t ht=>⟨t,rfl,?_⟩⟩
      have sT4:bF T H2 H4:=s3.trans (bF.of s3.t1 s4)
      have nt:H2 t=none:=sT4.free ht
      refine ⟨sT4.upd nt (.inl ht),by rw [List.length_append,htl];rfl,fun j t' e=>?_⟩
      by_cases hj:j<ts.length
      · rw [List.getElem?_append_left hj] at e
        have h4':=s4 _ _ (h3 j t' e)
        rw [aV (bD h4' ht)];exact h4'
      · rw [List.getElem?_append_right (by omega)] at e
        have hj0:j - ts.length=0:=by
          have:=(List.getElem?_eq_some_iff.mp e).1
          simp at this;omega
        have hji:j=i:=by omega
        rw [hj0] at e
        simp at e
        subst e
        subst hji
        rw [bG,List.length_map];rfl
    · rintro ts H3 ⟨_,_,h3⟩
      exact h3
    · intro i j hi hj hij e
      unfold Rv.kap at e
      omega
    · rintro ts H3 D' ys ⟨s3,_,_⟩ hD ⟨p,hp,rfl,ho⟩
      have hbl:(gA r.length).length=r.length:=by unfold gA;simp
      rw [hbl] at hp
      refine q D' _ _ ((sT.trans s3).upd ((sT.trans s3).free hD) (.inl hD)) ((sT.trans s3).free hD) bG ⟨p,?_,hp,ho⟩
      refine List.map_congr_left fun i hi=>?_
      have hi':i<r.length:=List.mem_range.mp (hp.mem_iff.mp hi)
      show (gA r.length).getD i .non=_
      unfold gA
      rw [List.getD_eq_getElem?_getD,List.getElem?_map,List.getElem?_range hi'];rfl
abbrev bQ:Stmt:=top 10
theorem jl:aU ["below","springs","flows","reach"] ["below","springs"] (ao bQ):=⟨rfl,rfl,rfl,by decide +kernel,rfl,by decide +kernel,by decide +kernel⟩
def vZ (K:PySem.W.Frag) (T:gk):Sp:=fun vs H Q _=>∃ (a b:Addr) (r s:List Int),vs=[.ref a,.ref b]∧Ke K H a r∧SqL K H b (s.map V.int)∧s.length=r.length∧TabsOk T H ∧
  jF T H (fun xs=>xs=(Rv.nats r s).map V.int) Q
theorem Mt {f fT:Addr} {fd fdT:FuncData} {T:gk} (D:Df K mg "natural_of" bQ ["below","springs"] f fd) (B:Blt mg) (C:Mth mg)
    (eX:Df K mg "tops_first" cA ["below"] fT fdT) (ug:bZ P w K mg base CX0 5 fT fdT ["below"] (zj K T)):bZ P w K mg base CX0 6 f fd ["below","springs"] (vZ K T):=by
  obtain ⟨tM,hMOUTH⟩:=C.MOUTH
  refine D.F.ok jl (fun vs H Q E h=>?_) (fun cdv A outer s H vs Q E hr h=>?_)
  · obtain ⟨a,b,r,s,rfl,_⟩:=h;rfl
  · obtain ⟨a,b,r,sp,rfl,⟨hS,hR,h64⟩,hB,hl,tk,q⟩:=h
    refine ⟨_,(au (aN (i:=2) jl.nd rfl (Or.inl rfl) (dO bK rfl B.list PyProof.Rows.boot_list (ak (pv 1) aq)))
      (au (gq PassesOwn.never rfl (bM (aF ug (hr.mono (by decide)) rfl eX.m eX.F.kp eX.b .nil bH (ak (pv 0) aq))) (aG (i:=3) jl.nd rfl (Or.inl rfl))
        (aD (jX (dF uZ (bC aR (pv 0) (pv 3) (fun _ _=>rfl)) (qL (v:=.int (-1)) rfl hMOUTH ⟨_,rfl⟩) (d9 _))
          (aD (lM (pv 2) (bC aR (pv 0) (pv 3) (fun _ _=>rfl)) jN (bC aR (pv 2) (pv 3) (fun _ _=>rfl)) tE set_list))
          gB)))
      (aD (bA (pv 2))))),?_⟩
    refine sl_4 ?_
    intro zu0 zu1 zu2 zu3
    have O:=Ow.refl tk
    refine ⟨_,rfl,b,_,rfl,.inl hB,fun lf hlf=>?_⟩
    walk_at "new";intro H1 O
    refine ⟨_,rfl,a,r,rfl,⟨O.same.seq hS,hR,h64⟩,O.same.t1,O.pX fun lt H2 xs O ⟨p,ep,hp⟩=>?_⟩
    subst ep
    refine ⟨lt,rfl,⟨_,O.sq 0⟩,?_⟩
    refine dX (K:=K) (a:=lt) (xs:=p.map fun (i:Nat)=>V.int (i:Int)) (fun t σ H3=>∃ (v3:Option V) (fl:List Int),σ=[some (.ref a),some (.ref b),some (.ref lf),v3]∧Ow T H H3 [(lt,.lst (p.map fun (i:Nat)=>V.int (i:Int))),(lf,.lst (fl.map V.int))]∧Rv.wZ r sp p t fl)
      ⟨none,sp,rfl,O,Rv.wZ.start r sp p hl⟩ (fun _ _ _ _ ⟨_,_,_,O,_⟩=>O.sq 0) ?_ ?_
    · rintro t y σ H3 hy ⟨v3,fl,rfl,O,N⟩
      rw [List.getElem?_map] at hy
      obtain ⟨j,hj,rfl⟩:∃ j,p[t]?=some j∧y=V.int (j:Int):=by
        cases e:p[t]? with
        | none=>rw [e] at hy;cases hy
        | some j=>rw [e] at hy;exact ⟨j,rfl,(Option.some.inj hy).symm⟩
      have hjr:=hp.lt (List.mem_of_getElem? hj)
      have gj:=Rv.jB (r:=r) (p:=(j:Int)) (by omega) (by omega)
      have aj:=kO (ns:=r) (i:=(j:Int)) (by omega) gj
      have here:=N.here hp hR h64 hj
      refine ⟨_,rfl,_,rfl,a,_,_,_,rfl,rfl,O.same.seq hS,aj,rfl,_,rfl,?_⟩
      rcases hR.step (p:=(j:Int)) (by omega) (by omega) with hm | ⟨n0,n1⟩
      · rw [hm]
        refine K1 rfl ?_
        exact ⟨_,fl,rfl,O,N.SJ hj hm⟩
      · have hd:(!decide (V.int (Rv.nxt r (j:Int))=V.int (-1)))=true:=by
          have:¬ Rv.nxt r (j:Int)=-1:=by omega
          simp [this]
        rw [hd]
        refine KZ ?_
        obtain ⟨bn,ebn⟩:=Int.eq_ofNat_of_zero_le n0
        have hbl:bn<r.length:=by omega
        rw [ebn] at aj
        obtain ⟨x,hx⟩:∃ x,fl[bn]?=some x:=⟨_,N.at_ bn hbl⟩
        refine ⟨_,rfl,_,rfl,_,rfl,a,_,_,_,rfl,rfl,O.same.seq hS,aj,lf,_,bn,V.int x,rfl,rfl,O.sq 1,by rw [List.getElem?_map,hx];rfl,_,rfl,_,rfl,lf,_,_,_,rfl,rfl,O.sq 1,eO here,_,_,rfl,rfl,?_⟩
        refine zV O 1 rfl (jd (by rw [List.length_map,N.len];exact hbl)) fun H4 O=>?_
        refine ⟨_,fl.set bn (x + Rv.mL r sp (j:Int)),rfl,?_,N.turn hp hR h64 hj ebn hbl hx⟩
        rw [List.map_set];exact O
    · rintro σ H3 ⟨v3,fl,rfl,O,N⟩
      rw [List.length_map,hp.len] at N
      exact ⟨_,rfl,O.ret 1 rfl q (by rw [N.done hp hR])⟩
abbrev cN:Stmt:=top 8
theorem kh:aU ["below","start","stop","way"] ["below","start","stop"] (ao cN):=⟨rfl,rfl,rfl,by decide +kernel,rfl,by decide +kernel,by decide +kernel⟩
theorem vO (b:Int):∀ l:List Int,l.take (l.idxOf b)=l.takeWhile (fun x=>!decide (x=b))
  | []=>rfl
  | x :: l=>by
    rw [List.idxOf_cons,List.takeWhile_cons]
    by_cases h:x=b
    · simp [h]
    · have e:(x == b)=false:=by simp [h]
      rw [e,cond_false,List.take_succ_cons,vO b l]
      simp [h]
theorem Ew (ns:List Int) (k:Nat):yr (ns.map V.int) none (some (k:Int))=(ns.take k).map V.int:=by
  unfold yr
  rw [HT.Dk,HT.qH,List.drop_zero,List.length_map,Nat.sub_zero,← List.map_take]
  congr 1
  rw [List.take_eq_take_iff];omega
def vX (K:PySem.W.Frag):Sp:=fun vs H Q _=>∃ (a:Addr) (r:List Int) (p b:Int),vs=[.ref a,.int p,.int b]∧SqL K H a (r.map V.int)∧Rv.cG r∧0≤p∧p<r.length∧r.length≤900∧Rv.Stop r p b ∧
  Rj H (fun xs=>xs=(Rv.iW r p b).map V.int) Q
theorem Dt {f fW:Addr} {fd fdW:FuncData} (D:Df K mg "stretch_of" cN ["below","start","stop"] f fd) (C:Mth mg) (cI:Df K mg "way_of" gH ["below","reach"] fW fdW)
    (lF:bZ P w K mg base CX0 1 fW fdW ["below","reach"] (vW K)):bZ P w K mg base CX0 2 f fd ["below","start","stop"] (vX K):=by
  obtain ⟨tM,hMOUTH⟩:=C.MOUTH
  refine D.F.ok kh (fun vs H Q E h=>?_) (fun cdv A outer s H vs Q E hr h=>?_)
  · obtain ⟨a,r,p,b,rfl,_⟩:=h;rfl
  · obtain ⟨a,r,p,b,rfl,hS,hR,p0,p1,hn,st,q⟩:=h
    refine ⟨_,(au (aN (i:=3) kh.nd rfl (Or.inl rfl) (aF lF (hr.mono (by decide)) rfl cI.m cI.F.kp cI.b .nil bH (ak (pv 0) (ak (pv 1) aq))))
      (au (jX (dF u5 (pv 2) (qL (v:=.int (-1)) rfl hMOUTH ⟨_,rfl⟩) (d9 _))
        (aD (bA (pv 3)))
        gB)
      (au (jX (dF sW (pv 2) (pv 3) (by rfl))
        (aD wC)
        gB)
      (aD (bA (qK uP (pv 3) zQ (qJ (o7 PySem.F.plainAttrs_list PySem.F.slot_list_index PySem.F.type_list_index DQ (pv 3) (ak (pv 2) aq))))))))),?_⟩
    refine sl_5 ?_
    intro zu0 zu1 zu2 zu3 zu4
    refine ⟨_,rfl,_,rfl,a,r,p,rfl,hS,hR,p0,p1,hn,fun lw H1 xs s1 n1 h1 e1=>?_⟩
    subst e1
    refine ⟨_,rfl,rfl,_,rfl,Va (fun h=>?_) fun h=>?_⟩
    · have hb:b=-1:=V.int.inj (of_decide_eq_true h)
      refine ⟨_,rfl,q lw H1 _ s1 n1 h1 ?_⟩
      unfold Rv.iW;rw [if_pos hb]
    · have hb:¬ b=-1:=fun z=>h (decide_eq_true (by rw [z]))
      have hm:b∈Rv.walk r p:=st.resolve_left hb
      refine ⟨_,rfl,_,rfl,lw,_,rfl,.inl (SqL.of h1),rfl,tO _,_,rfl,?_⟩
      rw [if_pos rfl,Bj,decide_eq_true hm]
      refine Gh ?_
      refine ⟨_,rfl,_,rfl,.inl ⟨rfl,_,SqL.of h1⟩,_,rfl,lw,_,b,rfl,rfl,SqL.of h1,hm,_,rfl,lw,_,rfl,SqL.of h1,fun l hl=>?_⟩
      refine q l _ _ (s1.upd (s1.free hl)) (s1.free hl) bG ?_
      rw [Ew,vO]
      unfold Rv.iW;rw [if_neg hb]
abbrev bO:Stmt:=top 12
theorem fL:aU ["below","one","day","start","back","most"] ["below","one"] (ao bO):=⟨rfl,rfl,rfl,by decide +kernel,rfl,by decide +kernel,by decide +kernel⟩
def pB (r:List Int) (l:Lic):Prop:=0≤l.start∧l.start<r.length∧Rv.Stop r l.start l.back
def jK (K:PySem.W.Frag):Sp:=fun vs H Q _=>∃ (a t:Addr) (r:List Int) (l:Lic),vs=[.ref a,.ref t]∧SqL K H a (r.map V.int)∧Rv.cG r∧r.length≤900∧SqT K H t (Cu l)∧pB r l∧Rj H (fun xs=>xs=(Rv.iW r l.start l.back).map V.int) Q
theorem xZ {f f1:Addr} {fd fd1:FuncData} (D:Df K mg "reaches_of" bO ["below","one"] f fd) (eY:Df K mg "stretch_of" cN ["below","start","stop"] f1 fd1) (uh:bZ P w K mg base CX0 2 f1 fd1 ["below","start","stop"] (vX K)) :
    bZ P w K mg base CX0 3 f fd ["below","one"] (jK K):=by
  refine D.F.ok fL (fun vs H Q E h=>?_) (fun cdv A outer s H vs Q E hr h=>?_)
  · obtain ⟨_,_,_,_,rfl,_⟩:=h;rfl
  · obtain ⟨a,t,r,l,rfl,hA,hR,hn,hT,ok,q⟩:=h
    refine ⟨_,(au (mH (pv 1) (nT rfl (aZ (aG (i:=2) fL.nd rfl (Or.inl rfl)) (aZ (aG (i:=3) fL.nd rfl (Or.inl rfl)) (aZ (aG (i:=4) fL.nd rfl (Or.inl rfl)) (aZ (aG (i:=5) fL.nd rfl (Or.inl rfl)) iI))))))
      (aD (bA (aF uh (hr.mono (by decide)) rfl eY.m eY.F.kp eY.b .nil bH (ak (pv 0) (ak (pv 3) (ak (pv 4) aq))))))),?_⟩
    refine UL ?_
    intro zu0
    refine ⟨_,rfl,t,_,rfl,hT,rfl,_,_,rfl,_,_,rfl,_,_,rfl,_,_,rfl,rfl,?_⟩
    exact ⟨_,rfl,_,rfl,_,rfl,a,r,l.start,l.back,rfl,hA,hR,ok.1,ok.2.1,hn,ok.2.2,q⟩
abbrev gK:Stmt:=top 15
theorem xQ:aU ["one"] ["one"] (ao gK):=⟨rfl,rfl,rfl,by decide +kernel,rfl,by decide +kernel,by decide +kernel⟩
def zm (K:PySem.W.Frag):Sp:=fun vs H Q _=>∃ (a:Addr) (l:Lic),vs=[.ref a]∧SqT K H a (Cu l)∧Q (.int l.most) H
theorem Ks {f:Addr} {fd:FuncData} (D:Df K mg "most_of" gK ["one"] f fd):bZ P w K mg base CX0 1 f fd ["one"] (zm K):=by
  refine D.F.ok xQ (fun vs H Q E h=>?_) (fun cdv A outer s H vs Q E hr h=>?_)
  · obtain ⟨c,k,rfl,_⟩:=h;rfl
  · obtain ⟨a,l,rfl,hT,q⟩:=h
    refine ⟨_,(aD (bA (bC oA (pv 0) aA (fun _ _=>rfl)))),?_⟩
    exact ⟨_,rfl,_,_,_,_,rfl,rfl,hT,rfl,q⟩
abbrev dz:Stmt:=top 18
theorem uT:aU ["roll","calls"] ["roll","calls"] (ao dz):=⟨rfl,rfl,rfl,by decide +kernel,rfl,by decide +kernel,by decide +kernel⟩
def dH (ls:List Lic) (cs:List Int):List Int:=List.zipWith (fun l c=>min c l.most) ls cs
theorem Bk (i j:Int):(if j<i then j else i)=min i j:=by
  by_cases h:j<i
  · rw [if_pos h];omega
  · rw [if_neg h];omega
theorem CJ {α β γ:Type} (f:α→β→γ) {as:List α} {bs:List β} {i:Nat} {a:α} {b:β} (ha:as[i]?=some a) (hb:bs[i]?=some b):List.zipWith f (as.take (i + 1)) (bs.take (i + 1))=List.zipWith f (as.take i) (bs.take i)++[f a b]:=by
  have h1:=(List.getElem?_eq_some_iff.mp ha)
  have h2:=(List.getElem?_eq_some_iff.mp hb)
  obtain ⟨l1,e1⟩:=h1
  obtain ⟨l2,e2⟩:=h2
  rw [List.take_succ,List.take_succ,ha,hb,List.zipWith_append (by rw [List.length_take,List.length_take];omega)]
  rfl
def qx (K:PySem.W.Frag) (T:gk):Sp:=fun vs H Q _=>∃ (v:V) (b:Addr) (ls:List Lic) (cs:List Int),vs=[v,.ref b]∧Den K H v (pq ls)∧SqL K H b (cs.map V.int)∧ls.length=cs.length∧ls.length≤1000∧TabsOk T H∧jF T H (fun xs=>xs=(dH ls cs).map V.int) Q
theorem Ds {f f1:Addr} {fd fd1:FuncData} (D:Df K mg "wants_of" dz ["roll","calls"] f fd) (B:Blt mg) (ji:Df K mg "most_of" gK ["one"] f1 fd1) (Cm:bZ P w K mg base CX0 1 f1 fd1 ["one"] (zm K)) :
    bZ P w K mg base CX0 2 f fd ["roll","calls"] (qx K T):=by
  refine D.F.ok uT (fun vs H Q E h=>?_) (fun cdv A outer s H vs Q E hr h=>?_)
  · obtain ⟨_,_,_,_,rfl,_⟩:=h;rfl
  · obtain ⟨v,b,ls,cs,rfl,hd,hb,hlc,hlen,tk,q⟩:=h
    obtain ⟨a,xs,rfl,hL,hds⟩:=hd.fY
    have hxl:xs.length=ls.length:=by rw [hds.length,List.length_map]
    refine ⟨_,(aD (bA (fU (ao dz) rfl ["roll","calls"] rfl ["one","call"] [none,none] (by decide +kernel) (by decide +kernel) (by decide +kernel) rfl (sO rfl B.zip (ak (pv 0) (ak (pv 1) aq))) (fun _ _ _=>(nR (K:=K) (n:=2) rfl rfl (aZ (aG (i:=0) (show (["one","call"]:List Str).Nodup by decide +kernel) rfl (Or.inl rfl)) (aZ (aG (i:=1) (show (["one","call"]:List Str).Nodup by decide +kernel) rfl (Or.inl rfl)) iI)))) (fun _ _ _=>fQ) (fun _ _ _=>(aH (oO rfl) rfl B.min PyProof.Rows.boot_min (ak (pv 1) (ak (aF Cm (hr.mono (by decide)) rfl ji.m ji.F.kp ji.b .nil bH (ak (pv 0) aq)) aq))))))),?_⟩
    have O:=Ow.refl tk
    refine ⟨_,rfl,_,rfl,a,b,_,_,rfl,hL,hb,fun acc hacc=>?_⟩
    refine qZ (K:=K) (fun i τ H'=>Iv (∃ (v0 v1:Option V),τ=[v0,v1]∧Ow T H H' [(acc,.lst ((List.zipWith (fun l c=>min c l.most) (ls.take i) (cs.take i)).map V.int))])) (by rw [List.length_map];omega)
      ⟨trivial,none,none,rfl,O.mk' hacc rfl⟩ (fun i τ H' _ ⟨_,_,_,_,O⟩=>⟨O.same.seq hL,O.same.seq hb⟩) ?_ ?_
    · rintro i x y t τ H' hx hy ⟨-,v0,v1,rfl,O⟩ ht
      obtain ⟨z,hz,rfl⟩:=ints_get hy
      obtain ⟨al,l,rfl,hl,hT⟩:=hds.qQ hx
      have hi:=(List.getElem?_eq_some_iff.mp hz).1
      walk_at "nw"
      refine ⟨t,_,rfl,O.sqT 0,rfl,_,_,rfl,_,_,rfl,rfl,?_⟩
      refine Rt ?_
      refine ⟨_,rfl,_,rfl,al,l,rfl,hT.mo O.same,_,_,rfl,?_⟩
      refine ⟨_,O.get 1,aQ (by rw [List.length_map,List.length_zipWith,List.length_take];omega),?_⟩
      walk_at "pt"
      refine ⟨trivial,_,_,rfl,?_⟩
      rw [CJ _ hl hz,List.map_append,← Bk]
      exact O.tail
    · rintro τ H' ⟨-,v0,v1,rfl,O⟩
      refine O.ret 0 rfl q ?_
      rw [hxl,List.take_of_length_le (Nat.le_refl _),List.take_of_length_le (by omega)];rfl
abbrev cQ:Stmt:=top 20
theorem iu:aU ["free","ways","counts","way","reach"] ["free","ways"] (ao cQ):=⟨rfl,rfl,rfl,by decide +kernel,rfl,by decide +kernel,by decide +kernel⟩
def wz (K:PySem.W.Frag) (T:gk):Sp:=fun vs H Q _=>∃ (a:Addr) (v:V) (fs:List Int) (ws:List (List Int)),vs=[.ref a,v]∧SqL K H a (fs.map V.int)∧fs.length≤1000∧Den K H v (wR ws)∧(∀ w∈ws,Tn.WOk fs.length w)∧TabsOk T H ∧
  jF T H (fun xs=>xs=(Tn.bumps (List.replicate fs.length 0) (ws.map fun w=>(w,1))).map V.int) Q
theorem Dz {f:Addr} {fd:FuncData} (D:Df K mg "count_ways" cQ ["free","ways"] f fd) (B:Blt mg):bZ P w K mg base CX0 1 f fd ["free","ways"] (wz K T):=by
  refine D.F.ok iu (fun vs H Q E h=>?_) (fun cdv A outer s H vs Q E hr h=>?_)
  · obtain ⟨_,_,_,_,rfl,_⟩:=h;rfl
  · obtain ⟨a,v,fs,ws,rfl,hA,hfl,hd,hws,tk,q⟩:=h
    obtain ⟨b,xs,rfl,hL,hds⟩:=hd.fY
    have hxl:xs.length=ws.length:=by rw [hds.length,List.length_map]
    refine ⟨_,(au (aN (i:=2) iu.nd rfl (Or.inl rfl) (aL nW (gM (ak aA aq)) (aH aK rfl B.len PySem.boot_len (ak (pv 0) aq))))
      (au (gq PassesOwn.never rfl (bM (pv 1)) (aG (i:=3) iu.nd rfl (Or.inl rfl))
        (aD (gq PassesOwn.never rfl (bM (pv 3)) (aG (i:=4) iu.nd rfl (Or.inl rfl))
          (aD (lM (pv 2) (pv 4) jN aA tE set_list)))))
      (aD (bA (pv 2))))),?_⟩
    refine RP ?_
    intro zu0 zu1 zu2 zu3
    have O:=Ow.refl tk
    have s0:=O.same
    walk_at "w"
    intro l1 h1
    walk_at "nw"
    walk_at "w"
    refine ⟨l1,_,_,rfl,rfl,O.get 0,by rw [List.length_map];omega,by rw [List.length_map];omega,ig (by rw [List.length_map,Int.toNat_natCast];simp;omega),fun lc hlc=>?_⟩
    walk_at "nw"
    rw [List.length_map,Int.toNat_natCast,iH] at O
    have O:=O.two
    refine ⟨_,rfl,b,rfl,⟨_,O.same.seq hL⟩,?_⟩
    refine dX (K:=K) (xs:=xs) (fun i σ H'=>Iv (∃ v3 v4:Option V,σ=[some (.ref a),some (.ref b),some (.ref lc),v3,v4]∧Ow T H H' [(lc,.lst ((Tn.bumps (List.replicate fs.length 0) ((ws.take i).map fun w=>(w,1))).map V.int))]))
      ⟨trivial,none,none,rfl,O⟩ (fun i σ H' _ ⟨_,_,_,_,O⟩=>O.same.seq hL) ?_ ?_
    · rintro i x σ H2 hx ⟨-,v3,v4,rfl,O⟩
      obtain ⟨wa,w,rfl,hw,hW⟩:=hds.J5 hx
      have ok:=hws w (List.mem_of_getElem? hw)
      have hnext:Tn.bumps (List.replicate fs.length 0) ((ws.take (i + 1)).map fun w=>(w,(1:Int)))=Tn.bump (Tn.bumps (List.replicate fs.length 0) ((ws.take i).map fun w=>(w,1))) w 1:=by
        rw [List.take_add_one,hw,List.map_append];exact Tn.lV _ _ _
      have hcl:(Tn.bumps (List.replicate fs.length 0) ((ws.take i).map fun w=>(w,(1:Int)))).length=fs.length:=by rw [Tn.iR,List.length_replicate]
      generalize Tn.bumps (List.replicate fs.length 0) ((ws.take i).map fun w=>(w,(1:Int)))=cur at O hnext hcl
      refine ⟨_,rfl,wa,rfl,⟨_,O.same.seq hW⟩,?_⟩
      refine dX (K:=K) (xs:=w.map V.int) (fun j σ H'=>Iv (∃ v4:Option V,σ=[some (.ref a),some (.ref b),some (.ref lc),some (.ref wa),v4]∧Ow T H H' [(lc,.lst ((Tn.bump cur (w.take j) 1).map V.int))]))
        ⟨trivial,v4,rfl,O⟩ (fun i σ H' _ ⟨_,_,_,O⟩=>O.same.seq hW) ?_ ?_
      · rintro j y σ H3 hy ⟨-,v4,rfl,O⟩
        obtain ⟨z,hz,rfl⟩:=ints_get hy
        obtain ⟨z0,z1⟩:=ok.2 z (List.mem_of_getElem? hz)
        obtain ⟨zn,rfl⟩:=Int.eq_ofNat_of_zero_le z0
        have hbl:(Tn.bump cur (w.take j) 1).length=fs.length:=by rw [Tn.gJ,hcl]
        refine ⟨_,rfl,_,rfl,lc,_,zn,_,rfl,rfl,O.sq 0,by rw [List.getElem?_map,bI (by omega)];rfl,?_⟩
        refine ⟨_,_,rfl,rfl,lc,_,_,zn,rfl,rfl,O.get 0,jd (by rw [List.length_map];omega),?_⟩
        walk_at "pt"
        refine ⟨trivial,_,rfl,?_⟩
        rw [lB hz,Int.toNat_natCast,List.map_set];exact O
      · rintro σ H3 ⟨-,v4,rfl,O⟩
        rw [List.length_map,List.take_of_length_le (Nat.le_refl _)] at O
        refine ⟨trivial,_,_,rfl,?_⟩
        rw [hnext];exact O
    rintro σ H2 ⟨-,v3,v4,rfl,O⟩
    refine ⟨_,rfl,O.ret 0 rfl q ?_⟩
    rw [hxl,List.take_of_length_le (Nat.le_refl _)]
abbrev bN:Stmt:=top 21
theorem iY:aU ["free","ways","rests","counts","shares"] ["free","ways","rests"] (ao bN):=⟨rfl,rfl,rfl,by decide +kernel,rfl,by decide +kernel,by decide +kernel⟩
def Lz (K:PySem.W.Frag) (T:gk):Sp:=fun vs H Q _=>∃ (a b:Addr) (v:V) (fs rs:List Int) (ws:List (List Int)),vs=[.ref a,v,.ref b]∧SqL K H a (fs.map V.int)∧Den K H v (wR ws)∧SqL K H b (rs.map V.int)∧fs.length≤1000∧rs.length≤1000∧ws.length≤1000 ∧
  (∀ w∈ws,Tn.WOk fs.length w)∧TabsOk T H∧∀ (M:Int) (H':Hp),bF T H H'→Tn.WT fs (Tn.bumps (List.replicate fs.length 0) (ws.map fun w=>(w,1))) rs M→Q (.int M) H'
theorem Ss {f f1:Addr} {fd fd1:FuncData} (D:Df K mg "whole_turns" bN ["free","ways","rests"] f fd) (B:Blt mg) (fu:Df K mg "count_ways" cQ ["free","ways"] f1 fd1) (uq:bZ P w K mg base CX0 1 f1 fd1 ["free","ways"] (wz K T)) :
    bZ P w K mg base CX0 2 f fd ["free","ways","rests"] (Lz K T):=by
  refine D.F.ok iY (fun vs H Q E h=>?_) (fun cdv A outer s H vs Q E hr h=>?_)
  · obtain ⟨_,_,_,_,_,_,rfl,_⟩:=h;rfl
  · obtain ⟨a,b,v,fs,rs,ws,rfl,hA,hd,hB,hfl,hrl,hwl,hws,tk,q⟩:=h
    refine ⟨_,(au (aN (i:=3) iY.nd rfl (Or.inl rfl) (aF uq (hr.mono (by decide)) rfl fu.m fu.F.kp fu.b .nil bH (ak (pv 0) (ak (pv 1) aq))))
      (au (jf (i:=4) (ao bN) rfl ["free","ways","rests","counts","shares"] rfl ["drops","count"] [none,none] (by decide +kernel) (by decide +kernel) (by decide +kernel) rfl iY.nd rfl rfl (sO rfl B.zip (ak (pv 0) (ak (pv 3) aq))) (fun _ _ _=>(nR (K:=K) (n:=2) rfl rfl (aZ (aG (i:=0) (show (["drops","count"]:List Str).Nodup by decide +kernel) rfl (Or.inl rfl)) (aZ (aG (i:=1) (show (["drops","count"]:List Str).Nodup by decide +kernel) rfl (Or.inl rfl)) iI)))) (fun _ _ _=>(nO (dF Dq (pv 1) aA (d9 _)))) (fun _ _ _=>(aL jA (pv 0) (pv 1))) rfl)
      (aD (bA (aH (oR rfl) rfl B.max PyProof.Rows.boot_max (ak aA (ak (Ko rfl rfl B.min (aL Mq (dO bK rfl B.list PyProof.Rows.boot_list (ak (pv 2) aq)) (pv 4))) aq))))))),?_⟩
    refine UW ?_
    intro zu0 zu1
    have O:=Ow.refl tk
    have s0:=O.same
    refine ⟨_,rfl,_,rfl,a,v,fs,ws,rfl,hA,hfl,hd,hws,tk,O.pX fun lc H2 xs O e=>?_⟩
    subst e
    have hcb:=Tn.cw_bound hws
    have hcl:(Tn.bumps (List.replicate fs.length 0) (ws.map fun w=>(w,(1:Int)))).length=fs.length:=by rw [Tn.iR,List.length_replicate]
    generalize Tn.bumps (List.replicate fs.length 0) (ws.map fun w=>(w,(1:Int)))=cs at O hcb hcl q
    refine ⟨_,rfl,_,rfl,a,lc,_,_,rfl,O.same.seq hA,O.sq 0,fun acc hacc=>?_⟩
    refine qZ (K:=K) (fun i τ H'=>Iv (∃ (v0 v1:Option V),τ=[v0,v1]∧Ow T H H' [(acc,.lst ((Tn.shares (fs.take i) (cs.take i)).map V.int)),(lc,.lst (cs.map V.int))])) (by rw [List.length_map,List.length_map];omega)
      ⟨trivial,none,none,rfl,O.mk' hacc rfl⟩ (fun i τ H' _ ⟨_,_,_,_,O⟩=>⟨O.same.seq hA,O.sq 1⟩) ?_ ?_
    · rintro i x y t τ H' hx hy ⟨-,v0,v1,rfl,O⟩ ht
      obtain ⟨z,hz,rfl⟩:=ints_get hx
      obtain ⟨c,hc,rfl⟩:=ints_get hy
      have hi:=(List.getElem?_eq_some_iff.mp hz).1
      have hcm:=hcb c (List.mem_of_getElem? hc)
      have hnext:=Tn.uQ hz hc
      have hsl:(Tn.shares (fs.take i) (cs.take i)).length≤1000:=by
        unfold Tn.shares
        rw [List.length_map]
        refine Nat.le_trans (List.length_filter_le _ _) ?_
        rw [List.length_zip,List.length_take];omega
      walk_at "nw"
      refine ⟨t,_,rfl,O.sqT 0,rfl,_,_,rfl,_,_,rfl,rfl,?_⟩
      refine ⟨_,rfl,_,_,rfl,rfl,_,rfl,ifD (fun hp=>?_) fun hp=>?_⟩
      · rw [if_pos hp] at hnext
        refine ⟨_,rfl,_,rfl,_,_,rfl,rfl,⟨hp,by omega⟩,?_⟩
        refine ⟨_,O.get 1,aQ (by rw [List.length_map];omega),?_⟩
        walk_at "pt"
        refine ⟨trivial,_,_,rfl,?_⟩
        rw [hnext,List.map_append];exact O.tail
      · rw [if_neg hp,List.append_nil] at hnext
        refine ⟨trivial,_,_,rfl,?_⟩
        rw [hnext];exact O.tail
    rintro τ H' ⟨-,v0,v1,rfl,O⟩
    rw [List.length_map,List.take_of_length_le (Nat.le_refl _),List.take_of_length_le (by omega)] at O
    have hsl:(Tn.shares fs cs).length≤1000:=by
      unfold Tn.shares
      rw [List.length_map]
      refine Nat.le_trans (List.length_filter_le _ _) ?_
      rw [List.length_zip];omega
    refine ⟨_,rfl,b,_,rfl,.inl (O.same.seq hB),fun lr hlr=>?_⟩
    walk_at "nw"
    refine ⟨_,rfl,lr,acc,_,_,rfl,rfl,O.get 0,O.get 1,ig (by rw [List.length_map,List.length_map];omega),fun l2 hl2=>?_⟩
    walk_at "nw"
    rw [← List.map_append] at O
    refine ⟨l2,rs++Tn.shares fs cs,rfl,O.sq 0,fun e0=>?_,fun m hm hle=>?_⟩
    · exact ⟨_,_,rfl,q _ _ O.same (.inl ⟨e0,rfl⟩)⟩
    · refine ⟨_,_,rfl,q _ _ O.same (.inr ⟨m,hm,hle,?_⟩)⟩
      by_cases h:m > 0
      · rw [if_pos h];omega
      · rw [if_neg h];omega
abbrev kj:Stmt:=top 22
theorem zH:aU ["left","way","drops","reach"] ["left","way","drops"] (ao kj):=⟨rfl,rfl,rfl,by decide +kernel,rfl,by decide +kernel,by decide +kernel⟩
def uN (K:PySem.W.Frag) (T:gk):Sp:=fun vs H Q _=>∃ (a b:Addr) (fs w:List Int) (c:Int) (Hb:Hp),vs=[.ref a,.ref b,.int c]∧Ow T Hb H [(a,.lst (fs.map V.int))]∧SqL K Hb b (w.map V.int)∧Tn.WOk fs.length w ∧
  ∀ H',Ow T Hb H' [(a,.lst ((Tn.bump fs w (-c)).map V.int))]→Q .non H'
theorem Kz {f:Addr} {fd:FuncData} (D:Df K mg "draw" kj ["left","way","drops"] f fd):bZ P w K mg base CX0 1 f fd ["left","way","drops"] (uN K T):=by
  refine D.F.ok zH (fun vs H Q E h=>?_) (fun cdv A outer s H vs Q E hr h=>?_)
  · obtain ⟨_,_,_,_,_,_,rfl,_⟩:=h;rfl
  · obtain ⟨a,b,fs,w,c,Hb,rfl,O,hW,ok,q⟩:=h
    refine ⟨_,(aD (gq PassesOwn.never rfl (bM (pv 1)) (aG (i:=3) zH.nd rfl (Or.inl rfl))
        (aD (lM (pv 0) (pv 3) jN (pv 2) Nb set_list)))),?_⟩
    refine sl_8 ?_
    intro zu0
    refine ⟨_,rfl,b,rfl,⟨_,O.same.seq hW⟩,?_⟩
    refine dX (K:=K) (xs:=w.map V.int) (fun j σ H'=>Iv (∃ v3:Option V,σ=[some (.ref a),some (.ref b),some (.int c),v3]∧Ow T Hb H' [(a,.lst ((Tn.bump fs (w.take j) (-c)).map V.int))]))
      ⟨trivial,none,rfl,O⟩ (fun i σ H' _ ⟨_,_,_,O⟩=>O.same.seq hW) ?_ ?_
    · rintro j y σ H3 hy ⟨-,v4,rfl,O⟩
      obtain ⟨z,hz,rfl⟩:=ints_get hy
      obtain ⟨z0,z1⟩:=ok.2 z (List.mem_of_getElem? hz)
      obtain ⟨zn,rfl⟩:=Int.eq_ofNat_of_zero_le z0
      have hbl:(Tn.bump fs (w.take j) (-c)).length=fs.length:=Tn.gJ _ _ _
      refine ⟨_,rfl,_,rfl,a,_,zn,_,rfl,rfl,O.sq 0,by rw [List.getElem?_map,bI (by omega)];rfl,?_⟩
      refine ⟨_,rfl,_,_,rfl,rfl,a,_,_,zn,rfl,rfl,O.get 0,jd (by rw [List.length_map];omega),?_⟩
      walk_at "pt"
      refine ⟨trivial,_,rfl,?_⟩
      rw [lB hz,Int.toNat_natCast,List.map_set];exact O
    · rintro σ H3 ⟨-,v4,rfl,O⟩
      rw [List.length_map,List.take_of_length_le (Nat.le_refl _)] at O
      exact q _ O
abbrev aO:Stmt:=top 23
theorem cV:aU ["left","ways","rests","takes","going","unmet","turns","taker"] ["left","ways","rests","takes","going"] (ao aO):=⟨rfl,rfl,rfl,by decide +kernel,rfl,by decide +kernel,by decide +kernel⟩
structure Vk (K:PySem.W.Frag) (T:gk) (H Hb:Hp) (a b t g:Addr) (v:V) (fs rs xs:List Int) (ws:List (List Int)) (gs:List Nat):Prop where
  O:Ow T Hb H [(a,.lst (fs.map V.int)),(t,.lst (xs.map V.int))]
  d0:Den K Hb v (wR ws)
  d1:SqL K Hb b (rs.map V.int)
  d2:SqL K Hb g ((Tn.asI gs).map V.int)
  rl:rs.length=ws.length
  xl:xs.length=ws.length
  gn:∀ k∈gs,k<ws.length
  nd:gs.Nodup
  wok:∀ w∈ws,Tn.WOk fs.length w
  fl:fs.length≤1000
  wl:ws.length≤1000
  gl:gs.length≤1000
def LC (K:PySem.W.Frag) (T:gk):Sp:=fun vs H Q _=>∃ (a b t g:Addr) (v:V) (fs rs xs:List Int) (ws:List (List Int)) (gs:List Nat) (Hb:Hp),vs=[.ref a,v,.ref b,.ref t,.ref g]∧Vk K T H Hb a b t g v fs rs xs ws gs ∧
  ∀ (M:Int) (H':Hp),Tn.WT fs (Tn.Cz fs.length ws gs) (Tn.unmet rs xs gs) M→Ow T Hb H' [(a,.lst ((Tn.bumps fs (gs.map fun k=>(Tn.fW ws k,-M))).map V.int)),(t,.lst ((Tn.bump xs (Tn.asI gs) M).map V.int))]→Q .non H'
theorem vh {ws:List (List Int)} {k:Nat} (h:k<ws.length):ws[k]?=some (Tn.fW ws k):=by
  unfold Tn.fW;rw [List.getD_eq_getElem?_getD,List.getElem?_eq_getElem h];rfl
theorem Sv {f f1 f2:Addr} {fd fd1 fd2:FuncData} (D:Df K mg "take_whole_turns" aO ["left","ways","rests","takes","going"] f fd) (B:Blt mg)
    (dY:Df K mg "whole_turns" bN ["free","ways","rests"] f1 fd1) (rF:bZ P w K mg base CX0 2 f1 fd1 ["free","ways","rests"] (Lz K T))
    (jG:Df K mg "draw" kj ["left","way","drops"] f2 fd2) (Cq:bZ P w K mg base CX0 1 f2 fd2 ["left","way","drops"] (uN K T)) :
    bZ P w K mg base CX0 3 f fd ["left","ways","rests","takes","going"] (LC K T):=by
  refine D.F.ok cV (fun vs H Q E h=>?_) (fun cdv A outer s H vs Q E hr h=>?_)
  · obtain ⟨_,_,_,_,_,_,_,_,_,_,_,rfl,_⟩:=h;rfl
  · obtain ⟨a,b,t,g,v,fs,rs,xs,ws,gs,Hb,rfl,⟨O,d0,d1,d2,rl,xl,gn,nd,wok,fl,wl,gl⟩,q⟩:=h
    obtain ⟨va,vs,rfl,hV,hds⟩:=d0.fY
    have hil:((Tn.asI gs).map V.int).length=gs.length:=by rw [List.length_map,Tn.dW]
    refine ⟨_,(au (jf (i:=5) (ao aO) rfl ["left","ways","rests","takes","going","unmet","turns","taker"] rfl ["taker","rests","takes"] [none,some 2,some 3] (by decide +kernel) (by decide +kernel) (by decide +kernel) rfl cV.nd rfl rfl (bM (pv 4)) (fun _ _ _=>(aG (i:=0) (show (["taker","rests","takes"]:List Str).Nodup by decide +kernel) rfl (Or.inl rfl))) (fun _ _ _=>fQ) (fun _ _ _=>(aL mK (bC (fZ (K:=K) rfl) (pv 1) (pv 0) (fun _ _=>rfl)) (bC (fZ (K:=K) rfl) (pv 2) (pv 0) (fun _ _=>rfl)))) rfl)
      (au (aN (i:=6) cV.nd rfl (Or.inl rfl) (aF rF (hr.mono (by decide)) rfl dY.m dY.F.kp dY.b .nil bH (ak (pv 0) (ak (fU (ao aO) rfl ["left","ways","rests","takes","going","unmet","turns","taker"] rfl ["taker","ways"] [none,some 1] (by decide +kernel) (by decide +kernel) (by decide +kernel) rfl (bM (pv 4)) (fun _ _ _=>(aG (i:=0) (show (["taker","ways"]:List Str).Nodup by decide +kernel) rfl (Or.inl rfl))) (fun _ _ _=>fQ) (fun _ _ _=>(bC (fZ (K:=K) rfl) (pv 1) (pv 0) (fun _ _=>rfl)))) (ak (pv 5) aq)))))
      (aD (gq PassesOwn.never rfl (bM (pv 4)) (aG (i:=7) cV.nd rfl (Or.inl rfl))
        (au (gY (aF Cq (hr.mono (by decide)) rfl jG.m jG.F.kp jG.b .nil bH (ak (pv 0) (ak (bC aR (pv 1) (pv 7) (fun _ _=>rfl)) (ak (pv 6) aq)))))
        (aD (lM (pv 3) (pv 7) jN (pv 6) tE set_list))))))),?_⟩
    refine sl_9 ?_
    intro zu0 zu1 zu2 zu3
    /- unmet -/
    refine ⟨_,rfl,g,rfl,⟨_,O.same.seq d2⟩,fun lu hlu=>?_⟩
    refine dw (K:=K) (xs:=(Tn.asI gs).map V.int) (fun i τ H'=>Iv (∃ v0:Option V,τ=[v0,some (.ref b),some (.ref t)]∧Ow T Hb H' [(lu,.lst ((Tn.unmet rs xs (gs.take i)).map V.int)),(a,.lst (fs.map V.int)),(t,.lst (xs.map V.int))]))
      ⟨trivial,none,rfl,O.mk' hlu rfl⟩ (fun i τ H' _ ⟨_,_,_,O⟩=>O.same.seq d2) ?_ ?_
    · rintro i y τ H2 hy ⟨-,v0,rfl,O⟩
      obtain ⟨z,hz,rfl⟩:=ints_get hy
      obtain ⟨k,hk,rfl⟩:=Tn.iK hz
      have hkn:=gn k (List.mem_of_getElem? hk)
      have hi:=(List.getElem?_eq_some_iff.mp hk).1
      refine yD ?_
      refine ⟨_,rfl,_,rfl,b,_,_,_,rfl,rfl,O.same.seq d1,eO (bI (by omega)),_,rfl,_,rfl,t,_,_,_,rfl,rfl,O.sq 2,eO (bI (by omega)),_,_,rfl,rfl,?_⟩
      refine ⟨_,O.get 0,aQ (by rw [List.length_map];unfold Tn.unmet;rw [List.length_map,List.length_take];omega),?_⟩
      walk_at "pt"
      refine ⟨trivial,_,rfl,?_⟩
      rw [Tn.xr hk,List.map_append];exact O
    rintro τ H2 ⟨-,v0,rfl,O⟩
    rw [hil,List.take_of_length_le (Nat.le_refl _)] at O
    have hul:(Tn.unmet rs xs gs).length=gs.length:=by unfold Tn.unmet;rw [List.length_map]
    /- whole_turns(left, .., unmet) -/
    refine ⟨_,rfl,_,rfl,g,rfl,⟨_,O.same.seq d2⟩,fun lw hlw=>?_⟩
    refine dw (K:=K) (xs:=(Tn.asI gs).map V.int) (fun i τ H'=>Iv (∃ (v0:Option V) (us:List V),τ=[v0,some (.ref va)]∧gR K Hb us ((gs.take i).map fun k=>pA (Tn.fW ws k))∧Ow T Hb H' [(lw,.lst us),(lu,.lst ((Tn.unmet rs xs gs).map V.int)),(a,.lst (fs.map V.int)),(t,.lst (xs.map V.int))]))
      ⟨trivial,none,[],rfl,.nil,O.mk' hlw rfl⟩ (fun i τ H' _ ⟨_,_,_,_,_,O⟩=>O.same.seq d2) ?_ ?_
    · rintro i y τ H3 hy ⟨-,v0,us,rfl,hus,O⟩
      obtain ⟨z,hz,rfl⟩:=ints_get hy
      obtain ⟨k,hk,rfl⟩:=Tn.iK hz
      have hkn:=gn k (List.mem_of_getElem? hk)
      have hi:=(List.getElem?_eq_some_iff.mp hk).1
      obtain ⟨wa,hwa,hW⟩:=hds.yK (vh hkn)
      refine yD ?_
      refine ⟨_,rfl,_,rfl,va,_,_,_,rfl,rfl,O.same.seq hV,iT hwa,?_⟩
      refine ⟨_,O.get 0,aQ (by rw [hus.length,List.length_map,List.length_take];omega),?_⟩
      walk_at "pt"
      refine ⟨trivial,_,us++[.ref wa],rfl,?_,O⟩
      rw [Tn.fV hk]
      exact hus.append (.cons (Den.ints hW) .nil)
    rintro τ H3 ⟨-,v0,us,rfl,hus,O⟩
    rw [hil,List.take_of_length_le (Nat.le_refl _)] at hus
    have hus':gR K Hb us ((gs.map fun k=>Tn.fW ws k).map pA):=by rw [List.map_map];exact hus
    refine ⟨_,rfl,a,lu,.ref lw,fs,Tn.unmet rs xs gs,gs.map fun k=>Tn.fW ws k,rfl,O.sq 2,.list (O.sq 0) (hus'.mo O.same),O.sq 1,fl,by omega,by rw [List.length_map];omega,fun w hw=>?_,O.same.t1,fun M H4 sm hM=>?_⟩
    · obtain ⟨k,hk,rfl⟩:=List.mem_map.mp hw
      exact wok _ (Tn.n6 (gn k hk))
    have hM:Tn.WT fs (Tn.Cz fs.length ws gs) (Tn.unmet rs xs gs) M:=by
      unfold Tn.Cz
      rw [List.map_map] at hM
      exact hM
    have O:=((O.yt sm).tail).tail
    /- the loop -/
    refine ⟨_,rfl,g,rfl,⟨_,O.same.seq d2⟩,?_⟩
    refine dX (K:=K) (xs:=(Tn.asI gs).map V.int) (fun i σ H'=>Iv (∃ v7:Option V,σ=[some (.ref a),some (.ref va),some (.ref b),some (.ref t),some (.ref g),some (.ref lu),some (.int M),v7] ∧
      Ow T Hb H' [(a,.lst ((Tn.bumps fs ((gs.take i).map fun k=>(Tn.fW ws k,-M))).map V.int)),(t,.lst ((Tn.bump xs (Tn.asI (gs.take i)) M).map V.int))]))
      ⟨trivial,none,rfl,O⟩ (fun i σ H' _ ⟨_,_,_,O⟩=>O.same.seq d2) ?_ ?_
    · rintro i y σ H5 hy ⟨-,v7,rfl,O⟩
      obtain ⟨z,hz,rfl⟩:=ints_get hy
      obtain ⟨k,hk,rfl⟩:=Tn.iK hz
      have hkn:=gn k (List.mem_of_getElem? hk)
      obtain ⟨wa,hwa,hW⟩:=hds.yK (vh hkn)
      have hn1:Tn.bumps fs ((gs.take (i + 1)).map fun k=>(Tn.fW ws k,-M))=Tn.bump (Tn.bumps fs ((gs.take i).map fun k=>(Tn.fW ws k,-M))) (Tn.fW ws k) (-M):=by
        rw [Tn.fV hk];exact Tn.lV _ _ _
      have hl1:(Tn.bumps fs ((gs.take i).map fun k=>(Tn.fW ws k,-M))).length=fs.length:=Tn.iR _ _
      have hl2:(Tn.bump xs (Tn.asI (gs.take i)) M).length=ws.length:=by rw [Tn.gJ];exact xl
      have hn2:Tn.bump xs (Tn.asI (gs.take (i + 1))) M=(Tn.bump xs (Tn.asI (gs.take i)) M).set k ((Tn.bump xs (Tn.asI (gs.take i)) M).getD k 0 + M):=by
        rw [← Tn.tG,← Tn.tG,lB hz,Int.toNat_natCast]
      obtain ⟨H1,O1,s1,hB,back⟩:=Ow.lend (A:=[(a,.lst ((Tn.bumps fs ((gs.take i).map fun k=>(Tn.fW ws k,-M))).map V.int))]) (B:=[(t,.lst ((Tn.bump xs (Tn.asI (gs.take i)) M).map V.int))]) O
      refine ⟨_,rfl,_,rfl,_,rfl,va,_,_,_,rfl,rfl,O.same.seq hV,iT hwa,_,rfl,a,wa,_,_,M,H1,rfl,O1,hW.mo s1,by rw [hl1];exact wok _ (Tn.n6 hkn),fun H6 O6=>?_⟩
      have O:=back _ _ O6
      refine ⟨_,rfl,_,rfl,t,_,k,_,rfl,rfl,O.sq 1,by rw [List.getElem?_map,bI (by omega)];rfl,_,rfl,_,_,rfl,rfl,t,_,_,k,rfl,rfl,O.get 1,jd (by rw [List.length_map];omega),?_⟩
      walk_at "pt"
      refine ⟨trivial,_,rfl,?_⟩
      rw [hn1,hn2,List.map_set];exact O
    rintro σ H5 ⟨-,v7,rfl,O⟩
    rw [hil,List.take_of_length_le (Nat.le_refl _)] at O
    exact q M _ hM O
abbrev bh:Stmt:=top 24
theorem gW:aU ["left","ways","rests","takes","going","still","taker"] ["left","ways","rests","takes","going"] (ao bh):=⟨rfl,rfl,rfl,by decide +kernel,rfl,by decide +kernel,by decide +kernel⟩
def LK (K:PySem.W.Frag) (T:gk):Sp:=fun vs H Q _=>∃ (a b t g:Addr) (v:V) (fs rs xs:List Int) (ws:List (List Int)) (gs:List Nat) (Hb:Hp),vs=[.ref a,v,.ref b,.ref t,.ref g]∧Vk K T H Hb a b t g v fs rs xs ws gs ∧
  ∀ (l:Addr) (H':Hp),Ow T Hb H' [(l,.lst ((Tn.asI (Tn.gU ws rs gs (fs,xs,[])).2.2).map V.int)),(a,.lst ((Tn.gU ws rs gs (fs,xs,[])).1.map V.int)),(t,.lst ((Tn.gU ws rs gs (fs,xs,[])).2.1.map V.int))]→Q (.ref l) H'
theorem Lh {w l:List Int}:((w.map fun r:Int=>decide (0<l.getD r.toNat 0)).all id)=w.all (fun r=>decide (0<l.getD r.toNat 0)):=by rw [List.all_map];rfl
theorem Sw {f f2:Addr} {fd fd2:FuncData} (D:Df K mg "take_one_turn" bh ["left","ways","rests","takes","going"] f fd) (B:Blt mg)
    (jG:Df K mg "draw" kj ["left","way","drops"] f2 fd2) (Cq:bZ P w K mg base CX0 1 f2 fd2 ["left","way","drops"] (uN K T)) :
    bZ P w K mg base CX0 2 f fd ["left","ways","rests","takes","going"] (LK K T):=by
  refine D.F.ok gW (fun vs H Q E h=>?_) (fun cdv A outer s H vs Q E hr h=>?_)
  · obtain ⟨_,_,_,_,_,_,_,_,_,_,_,rfl,_⟩:=h;rfl
  · obtain ⟨a,b,t,g,v,fs,rs,xs,ws,gs,Hb,rfl,⟨O,d0,d1,d2,rl,xl,gn,nd,wok,fl,wl,gl⟩,q⟩:=h
    obtain ⟨va,vs,rfl,hV,hds⟩:=d0.fY
    have hil:((Tn.asI gs).map V.int).length=gs.length:=by rw [List.length_map,Tn.dW]
    refine ⟨_,(au (aN (i:=5) gW.nd rfl (Or.inl rfl) (gM aq))
      (au (gq PassesOwn.never rfl (bM (pv 4)) (aG (i:=6) gW.nd rfl (Or.inl rfl))
        (aD (jX (PW.pt (pw_and (dF Mp (bC aR (pv 3) (pv 6) (fun _ _=>rfl)) (bC aR (pv 2) (pv 6) (fun _ _=>rfl)) (d9 _)) (pw_and1 (mG (aH (Fd rfl) rfl B.all PyProof.Rows.boot_all (ak (fU (ao bh) rfl ["left","ways","rests","takes","going","still","taker"] rfl ["reach","left"] [none,some 0] (by decide +kernel) (by decide +kernel) (by decide +kernel) rfl (bM (bC aR (pv 1) (pv 6) (fun _ _=>rfl))) (fun _ _ _=>(aG (i:=0) (show (["reach","left"]:List Str).Nodup by decide +kernel) rfl (Or.inl rfl))) (fun _ _ _=>fQ) (fun _ _ _=>(nU Dq (bC (fZ (K:=K) rfl) (pv 1) (pv 0) (fun _ _=>rfl)) aA (d9 _)))) aq))))))
          (au (gY (aF Cq (hr.mono (by decide)) rfl jG.m jG.F.kp jG.b .nil bH (ak (pv 0) (ak (bC aR (pv 1) (pv 6) (fun _ _=>rfl)) (ak aA aq)))))
          (au (lM (pv 3) (pv 6) jN aA tE set_list)
          (aD (gY (o7 PySem.F.plainAttrs_list PySem.F.slot_list_append PySem.F.type_list_append eE (pv 5) (ak (pv 6) aq))))))
          gB)))
      (aD (bA (pv 5))))),?_⟩
    refine R6 ?_
    intro zu0 zu1 zu2 zu3 zu4 zu5
    refine ⟨szl,fun ls hls=>?_⟩
    walk_at "nw"
    refine ⟨_,rfl,g,rfl,⟨_,O.same.seq d2⟩,?_⟩
    refine dX (K:=K) (xs:=(Tn.asI gs).map V.int) (fun i σ H'=>Iv (∃ v6:Option V,σ=[some (.ref a),some (.ref va),some (.ref b),some (.ref t),some (.ref g),some (.ref ls),v6] ∧
      Ow T Hb H' [(ls,.lst ((Tn.asI (Tn.gU ws rs (gs.take i) (fs,xs,[])).2.2).map V.int)),(a,.lst ((Tn.gU ws rs (gs.take i) (fs,xs,[])).1.map V.int)),(t,.lst ((Tn.gU ws rs (gs.take i) (fs,xs,[])).2.1.map V.int))]))
      ⟨trivial,none,rfl,O⟩ (fun i σ H' _ ⟨_,_,_,O⟩=>O.same.seq d2) ?_ ?_
    · rintro i y σ H5 hy ⟨-,v7,rfl,O⟩
      obtain ⟨z,hz,rfl⟩:=ints_get hy
      obtain ⟨k,hk,rfl⟩:=Tn.iK hz
      have hkn:=gn k (List.mem_of_getElem? hk)
      have hi:=(List.getElem?_eq_some_iff.mp hk).1
      obtain ⟨wa,hwa,hW⟩:=hds.yK (vh hkn)
      have hnext:=Tn.xG (ws:=ws) (rs:=rs) (s:=(fs,xs,[])) hk
      have hlen:=Tn.rM ws rs (gs.take i) (fs,xs,[])
      rw [hnext]
      generalize Tn.gU ws rs (gs.take i) (fs,xs,[])=S at O hlen ⊢
      obtain ⟨l,x,st⟩:=S
      obtain ⟨hl1,hl2,hl3⟩:=hlen
      have hl1:l.length=fs.length:=hl1
      have hl2:x.length=xs.length:=hl2
      have hl3:st.length≤i:=by
        have:st.length≤0 + (gs.take i).length:=hl3
        rw [List.length_take] at this;omega
      have O:Ow T Hb H5 [(ls,.lst ((Tn.asI st).map V.int)),(a,.lst (l.map V.int)),(t,.lst (x.map V.int))]:=O
      have ok:=wok _ (Tn.n6 hkn)
      have no:¬ (x.getD k 0<rs.getD k 0∧(Tn.fW ws k).all (fun r=>decide (0<l.getD r.toNat 0))=true)→Tn.step1 ws rs (l,x,st) k=(l,x,st):=fun h=>if_neg h
      have yes:(x.getD k 0<rs.getD k 0∧(Tn.fW ws k).all (fun r=>decide (0<l.getD r.toNat 0))=true)→Tn.step1 ws rs (l,x,st) k=(Tn.bump l (Tn.fW ws k) (-1),x.set k (x.getD k 0 + 1),st++[k]):=fun h=>if_pos h
      generalize Tn.step1 ws rs (l,x,st) k=S' at no yes ⊢
      refine ⟨_,rfl,_,rfl,t,_,_,_,rfl,rfl,O.sq 2,eO (bI (by omega)),_,rfl,_,rfl,b,_,_,_,rfl,rfl,O.same.seq d1,eO (bI (by omega)),_,_,rfl,rfl,_,rfl,ifD (fun hc1=>?_) fun hc1=>?_⟩
      · refine ⟨_,rfl,_,rfl,va,_,_,_,rfl,rfl,O.same.seq hV,iT hwa,wa,rfl,⟨_,O.same.seq hW⟩,fun lb hlb=>?_⟩
        refine dw (K:=K) (xs:=(Tn.fW ws k).map V.int) (fun j τ H'=>Iv (∃ v0:Option V,τ=[v0,some (.ref a)]∧Ow T Hb H' [(lb,.lst ((((Tn.fW ws k).take j).map fun r:Int=>decide (0<l.getD r.toNat 0)).map V.bl)),(ls,.lst ((Tn.asI st).map V.int)),(a,.lst (l.map V.int)),(t,.lst (x.map V.int))]))
          ⟨trivial,none,rfl,O.mk' hlb rfl⟩ (fun i τ H' _ ⟨_,_,_,O⟩=>O.same.seq hW) ?_ ?_
        · rintro j y τ H6 hy ⟨-,v0,rfl,O⟩
          obtain ⟨r,hr,rfl⟩:=ints_get hy
          have hj:=(List.getElem?_eq_some_iff.mp hr).1
          obtain ⟨r0,r1⟩:=ok.2 r (List.mem_of_getElem? hr)
          refine yD ?_
          refine ⟨_,rfl,_,rfl,a,_,_,_,rfl,rfl,O.sq 2,bY r0 (by omega),_,_,rfl,rfl,?_⟩
          refine ⟨_,O.get 0,aQ (by rw [List.length_map,List.length_map,List.length_take];have:=ok.len;omega),?_⟩
          walk_at "pt"
          refine ⟨trivial,_,rfl,?_⟩
          rw [Tn.fV hr,List.map_append];exact O
        rintro τ H6 ⟨-,v0,rfl,O⟩
        rw [List.length_map,List.take_of_length_le (Nat.le_refl _)] at O
        refine ⟨lb,_,rfl,O.sq 0,?_⟩
        rw [Lh]
        have O:=O.tail
        refine ⟨_,rfl,ifB (fun hc2=>?_) fun hc2=>?_⟩
        · rw [yes ⟨hc1,hc2⟩]
          obtain ⟨H1,O1,s1,hB,back⟩:=Ow.lend (A:=[(a,.lst (l.map V.int))]) (B:=[(ls,.lst ((Tn.asI st).map V.int)),(t,.lst (x.map V.int))]) (O.pull 1)
          refine ⟨_,rfl,_,rfl,_,rfl,va,_,_,_,rfl,rfl,O.same.seq hV,iT hwa,a,wa,l,_,1,H1,rfl,O1,hW.mo s1,by rw [hl1];exact ok,fun H7 O7=>?_⟩
          have O:=back _ _ O7
          have O:Ow T Hb H7 [(a,.lst ((Tn.bump l (Tn.fW ws k) (-1)).map V.int)),(ls,.lst ((Tn.asI st).map V.int)),(t,.lst (x.map V.int))]:=O
          refine ⟨_,rfl,_,rfl,t,_,k,_,rfl,rfl,O.sq 2,by rw [List.getElem?_map,bI (by omega)];rfl,_,_,rfl,rfl,t,_,_,k,rfl,rfl,O.get 2,jd (by rw [List.length_map];omega),?_⟩
          walk_at "pt"
          refine ⟨_,rfl,.inl ⟨rfl,_,O.sq 1⟩,_,rfl,ls,_,_,rfl,rfl,O.get 1,aQ (by rw [List.length_map,Tn.dW];omega),?_⟩
          walk_at "pt"
          refine ⟨trivial,_,rfl,?_⟩
          have O:=O.pull 1
          show Ow T Hb _ [(ls,.lst ((Tn.asI (st++[k])).map V.int)),(a,.lst ((Tn.bump l (Tn.fW ws k) (-1)).map V.int)),(t,.lst ((x.set k (x.getD k 0 + 1)).map V.int))]
          rw [List.map_set]
          unfold Tn.asI
          rw [List.map_append,List.map_append]
          exact O
        · rw [no fun z=>by rw [z.2] at hc2;cases hc2]
          exact ⟨trivial,_,rfl,O⟩
      · refine Gh ?_
        rw [no fun z=>hc1 z.1]
        exact ⟨trivial,_,rfl,O⟩
    rintro σ H5 ⟨-,v7,rfl,O⟩
    rw [hil,List.take_of_length_le (Nat.le_refl _)] at O
    exact ⟨_,rfl,q _ _ O⟩
abbrev cP:Stmt:=top 25
theorem fM:aU ["free","ways","rests","left","takes","going"] ["free","ways","rests"] (ao cP):=⟨rfl,rfl,rfl,by decide +kernel,rfl,by decide +kernel,by decide +kernel⟩
def LR (K:PySem.W.Frag) (T:gk):Sp:=fun vs H Q _=>∃ (a b:Addr) (v:V) (fs rs:List Int) (ws:List (List Int)),vs=[.ref a,v,.ref b]∧SqL K H a (fs.map V.int)∧Den K H v (wR ws)∧SqL K H b (rs.map V.int)∧rs.length=ws.length∧fs.length≤1000∧ws.length<64 ∧
  (∀ w∈ws,Tn.WOk fs.length w)∧(∀ x∈fs,0≤x)∧(∀ x∈rs,0≤x)∧TabsOk T H ∧
  ∀ (l lt ll:Addr) (xs left:List Int) (t:Int) (H':Hp),Ow T H H' [(l,.tup [.ref lt,.ref ll]),(lt,.lst (xs.map V.int)),(ll,.lst (left.map V.int))]→Tn.oW fs ws rs left xs [] t→Q (.ref l) H'
theorem Sy {f f1 f2:Addr} {fd fd1 fd2:FuncData} (D:Df K mg "deal_turns" cP ["free","ways","rests"] f fd) (B:Blt mg)
    (bL:Df K mg "take_whole_turns" aO ["left","ways","rests","takes","going"] f1 fd1) (lG:bZ P w K mg base CX0 3 f1 fd1 ["left","ways","rests","takes","going"] (LC K T))
    (cL:Df K mg "take_one_turn" bh ["left","ways","rests","takes","going"] f2 fd2) (oX:bZ P w K mg base CX0 2 f2 fd2 ["left","ways","rests","takes","going"] (LK K T)) :
    bZ P w K mg base CX0 4 f fd ["free","ways","rests"] (LR K T):=by
  refine D.F.ok fM (fun vs H Q E h=>?_) (fun cdv A outer s H vs Q E hr h=>?_)
  · obtain ⟨_,_,_,_,_,_,rfl,_⟩:=h;rfl
  · obtain ⟨a,b,v,fs,rs,ws,rfl,hA,d0,hB,rl,fl,wl,wok,hf,hrs,tk,q⟩:=h
    obtain ⟨va,vs,rfl,hV,hds⟩:=d0.fY
    have hvl:vs.length=ws.length:=by rw [hds.length,List.length_map]
    refine ⟨_,(au (aN (i:=3) fM.nd rfl (Or.inl rfl) (dO bK rfl B.list PyProof.Rows.boot_list (ak (pv 0) aq)))
      (au (aN (i:=4) fM.nd rfl (Or.inl rfl) (aL nW (gM (ak aA aq)) (aH aK rfl B.len PySem.boot_len (ak (pv 1) aq))))
      (au (aN (i:=5) fM.nd rfl (Or.inl rfl) (sU rfl rfl B.list rfl B.range (ak (aH aK rfl B.len PySem.boot_len (ak (pv 1) aq)) aq)))
      (au (qI PassesOwn.never (Dm (pv 5) (fun _=>rfl))
        (au (gY (aF lG (hr.mono (by decide)) rfl bL.m bL.F.kp bL.b .nil bH (ak (pv 3) (ak (pv 1) (ak (pv 2) (ak (pv 4) (ak (pv 5) aq)))))))
        (aD (aN (i:=5) fM.nd rfl (Or.inl rfl) (aF oX (hr.mono (by decide)) rfl cL.m cL.F.kp cL.b .nil bH (ak (pv 3) (ak (pv 1) (ak (pv 2) (ak (pv 4) (ak (pv 5) aq))))))))))
      (aD (bA (pP (ak (pv 4) (ak (pv 3) aq))))))))),?_⟩
    refine R5 ?_
    intro zu0 zu1 zu2 zu3 zu4 zu5
    have O:=Ow.refl tk
    refine ⟨_,rfl,a,_,rfl,.inl (O.same.seq hA),fun ll hll=>?_⟩
    walk_at "nw"
    refine ⟨szl,fun l1 h1=>?_⟩
    walk_at "nw"
    refine ⟨_,rfl,va,_,rfl,.inl (O.same.seq hV),l1,_,_,rfl,rfl,O.get 0,by omega,by omega,ig (by rw [hvl,Int.toNat_natCast];simp;omega),fun lt hlt=>?_⟩
    walk_at "nw"
    rw [hvl,Int.toNat_natCast,iH] at O
    have O:=O.two
    refine ⟨_,rfl,va,_,rfl,.inl (O.same.seq hV),ws.length,by rw [hvl],wl,fun lg hlg=>?_⟩
    walk_at "nw"
    have eg:gA ws.length=(Tn.asI (List.range ws.length)).map V.int:=by unfold gA Tn.asI;rw [List.map_map];rfl
    rw [eg] at O
    refine ⟨fun m σ H'=>Iv (∃ (lg:Addr) (gs:List Nat) (l xs:List Int) (t:Int),σ=[some (.ref a),some (.ref va),some (.ref b),some (.ref ll),some (.ref lt),some (.ref lg)]∧Tn.oW fs ws rs l xs gs t∧m=(Tn.rem rs xs ws.length + (gs.length:Int)).toNat ∧
      Ow T H H' [(lg,.lst ((Tn.asI gs).map V.int)),(lt,.lst (xs.map V.int)),(ll,.lst (l.map V.int))]),⟨_,trivial,lg,_,fs,_,0,rfl,Tn.oW.start hf hrs wok,rfl,O⟩,?_⟩
    rintro m σ H2 ⟨-,lg,gs,l,xs,t,rfl,LI,rfl,O⟩
    have nd:=Tn.eU LI.srt
    have gn:∀ k∈gs,k<ws.length:=fun k hk=>(LI.going k hk).1
    have gl:gs.length≤1000:=by
      have:gs.length≤ws.length:=by
        have:=List.Nodup.length_le_of_subset (l₂:=List.range ws.length) nd fun k hk=>List.mem_range.mpr (gn k hk)
        simpa using this
      omega
    refine ⟨_,rfl,_,.inl ⟨_,O.sq 0,rfl⟩,ifB (fun hc=>?_) fun hc=>?_⟩
    · have hne:0<gs.length:=by
        cases gs with
        | nil=>simp [Tn.asI] at hc
        | cons x gs=>simp
      refine ⟨_,fun σ' H' h=>h,?_⟩
      obtain ⟨H1,O1,s1,hBk,back⟩:=Ow.lend (A:=[(ll,.lst (l.map V.int)),(lt,.lst (xs.map V.int))]) (B:=[(lg,.lst ((Tn.asI gs).map V.int))]) (((O.pull 1).pull 2))
      refine ⟨_,rfl,_,rfl,_,rfl,_,rfl,_,rfl,ll,b,lt,lg,.ref va,l,rs,xs,ws,gs,H1,rfl,⟨O1,.list (hV.mo s1) (hds.mo s1),hB.mo s1,SqL.of (hBk (lg,.lst ((Tn.asI gs).map V.int)) (by simp)),rl,LI.xl,gn,nd,by rw [LI.ll];exact wok,by rw [LI.ll];exact fl,by omega,gl⟩,fun M H3 hM O3=>?_⟩
      rw [LI.ll] at hM
      have L2:=LI.whole hf wok hM
      have M0:=hM.nn
      have rw1:=Tn.zN LI M0
      have O:=back _ _ O3
      have hll2:=L2.ll
      obtain ⟨L3,hsum⟩:=L2.one wok
      obtain ⟨H4,O4,s4,hBk4,back4⟩:=Ow.lend (A:=[(ll,.lst ((Tn.bumps l (gs.map fun k=>(Tn.fW ws k,-M))).map V.int)),(lt,.lst ((Tn.bump xs (Tn.asI gs) M).map V.int))]) (B:=[(lg,.lst ((Tn.asI gs).map V.int))]) O
      refine ⟨_,rfl,_,rfl,_,rfl,_,rfl,_,rfl,ll,b,lt,lg,.ref va,_,rs,_,ws,gs,H4,rfl,⟨O4,.list (hV.mo s4) (hds.mo s4),hB.mo s4,SqL.of (hBk4 (lg,.lst ((Tn.asI gs).map V.int)) (by simp)),rl,L2.xl,gn,nd,by rw [L2.ll];exact wok,by rw [L2.ll];exact fl,by omega,gl⟩,fun l5 H5 O5=>?_⟩
      have O:=back4 _ _ O5
      have O:=(O.del 3)
      have O:=O.pull 2
      have O:=(O.pull 1)
      refine ⟨_,?_,trivial,l5,_,_,_,_,rfl,L3,rfl,?_⟩
      · have a1:=L3.FT
        have a2:=LI.FT
        omega
      · exact O
    · have hg:gs=[]:=by
        cases gs with
        | nil=>rfl
        | cons x gs=>simp [Tn.asI] at hc
      subst hg
      refine ⟨_,rfl,_,rfl,szl,fun l5 hl5=>?_⟩
      walk_at "nw"
      exact q l5 lt ll xs l t _ (O.two) LI
abbrev cY:Stmt:=top 13
theorem su:aU ["one"] ["one"] (ao cY):=⟨rfl,rfl,rfl,by decide +kernel,rfl,by decide +kernel,by decide +kernel⟩
def zu (K:PySem.W.Frag):Sp:=fun vs H Q _=>∃ (t:Addr) (l:Lic),vs=[.ref t]∧SqT K H t (Cu l)∧Q (.int l.day) H
theorem Mz {f:Addr} {fd:FuncData} (D:Df K mg "day_filed" cY ["one"] f fd):bZ P w K mg base CX0 1 f fd ["one"] (zu K):=by
  refine D.F.ok su (fun vs H Q E h=>?_) (fun cdv A outer s H vs Q E hr h=>?_)
  · obtain ⟨_,_,rfl,_⟩:=h;rfl
  · obtain ⟨t,l,rfl,hT,q⟩:=h
    refine ⟨_,(aD (bA (bC oA (pv 0) aA (fun _ _=>rfl)))),?_⟩
    exact ⟨_,rfl,t,_,0,_,rfl,rfl,hT,rfl,q⟩
abbrev iw:Stmt:=top 16
theorem zF:aU ["roll"] ["roll"] (ao iw):=⟨rfl,rfl,rfl,by decide +kernel,rfl,by decide +kernel,by decide +kernel⟩
def bw:Pos × Str:=(⟨42,40,42,88⟩,"ranked.<locals>.<lambda>")
def TT2 (P:Addr) (T:gk):Prop:=(P,bw.1,bw.2)∈T∧(T.map (·.1)).Nodup
def qY (ls:List Lic):Nat→Int:=fun k=>(ls[k]?.map Lic.day).getD 0
theorem Bw {ls:List Lic} {k:Nat} {l:Lic} (h:ls[k]?=some l):qY ls k=l.day:=by unfold qY;rw [h];rfl
def rQ (K:PySem.W.Frag) (T:gk):Sp:=fun vs H Q _=>∃ (v:V) (ls:List Lic),vs=[v]∧Den K H v (pq ls)∧ls.length<64∧TabsOk T H ∧
  jF T H (fun xs=>∃ p,xs=p.map (fun (i:Nat)=>V.int (i:Int))∧Tn.Rk (qY ls) ls.length p) Q
def Lq (day:Nat→Int) (i:Nat):Int:=64 * day i + (i:Int)
theorem Ea {day:Nat→Int} {i j:Nat} (hi:i<64) (hj:j<64):HT.lexLt [day i,(i:Int)] [day j,(j:Int)]=decide (Lq day i<Lq day j):=by
  unfold Lq
  rw [HT.jg,HT.jg,HT.kJ]
  rw [Bool.eq_iff_iff]
  split
  · split
    · simp only [Bool.false_eq_true,decide_eq_true_eq,false_iff];omega
    · simp only [decide_eq_true_eq];omega
  · simp only [decide_eq_true_eq];omega
theorem zY {f fW:Addr} {fd fdW:FuncData} {pT cT:Addr} {T:gk} (D:Df K mg "ranked" iw ["roll"] f fd) (hcd:fd.code=.ref cT) (hhd:PySem.W.codeHdIn K cT pT=true) (hT:TT2 pT T) (hbm:BM mg base) (B:Blt mg)
    (bW:Df K mg "day_filed" cY ["one"] fW fdW) (j4:bZ P w K mg base CX0 1 fW fdW ["one"] (zu K)):bZ P w K mg base CX0 5 f fd ["roll"] (rQ K T):=by
  refine D.F.okC hcd zF (fun vs H Q E h=>?_) (fun A outer s H vs Q E hr h=>?_)
  · obtain ⟨_,_,rfl,_⟩:=h;rfl
  · obtain ⟨v,ls,rfl,hd,h64,tk,q⟩:=h
    obtain ⟨va,vs,rfl,hV,d0⟩:=hd.fY
    have hvl:vs.length=ls.length:=by rw [d0.length,List.length_map]
    refine ⟨_,(aD (bA (mJ (P:=pT) (c:=cT) (p:="number") (ao iw) rfl ["roll"] rfl ["roll"] [some 0] (by decide +kernel) (by decide +kernel) (by decide +kernel) rfl hbm rfl hhd (wJ (hr.mono (by decide))) rfl B.sorted rfl B.range (ak (aH aK rfl B.len PySem.boot_len (ak (pv 0) aq)) aq) (fun A f cv s H hh hd hu=>(pP (ak (aF j4 (wI (hr.mono (by decide)) hh hd hu) rfl bW.m bW.F.kp bW.b .nil bH (ak (bC (fZ (K:=K) rfl) (pv 1) (pv 0) (fun _ _=>rfl)) aq)) (ak (pv 0) aq)))) (fun _ _ _ _=>rfl)))),?_⟩
    refine ⟨_,rfl,va,_,rfl,.inl hV,ls.length,by rw [hvl],h64,tk _ hT.1,fun H2 k1 k2 t2=>?_⟩
    have sT:bF T H H2:=bF.tab tk hT.1 hT.2 k1 t2
    refine ⟨fun i ts H3=>bF T H2 H3∧ts.length=i∧∀ (j:Nat) (t:Addr),ts[j]?=some t→H3 t=some (.tup ([qY ls j,(j:Int)].map V.int)),fun i=>[qY ls i,(i:Int)],Lq (qY ls),1,⟨bF.refl sT.t1,rfl,fun j t e=>by simp at e⟩,?_,?_,fun _ _=>rfl,fun i j hi hj=>Ea (by omega) (by omega),?_,?_⟩
    · rintro i ts H3 hi ⟨s3,htl,h3⟩
      refine ⟨fun c' e=>s3.keep c' _ e fun ps z=>(by cases z),?_⟩
      obtain ⟨al,hal,hTl⟩:=d0.wH (List.getElem?_eq_getElem hi)
      have hTl:=hTl.mo (sT.trans s3)
      have edl:=Bw (List.getElem?_eq_getElem hi)
      refine ⟨_,rfl,_,rfl,va,_,(i:Int),_,rfl,rfl,(sT.trans s3).seq hV,iT hal,al,_,rfl,hTl,?_⟩
      refine ⟨_,rfl,(by show 2≤sizeLine;decide),fun t ht=>⟨t,rfl,?_⟩⟩
      have nt:H2 t=none:=s3.free ht
      refine ⟨s3.upd nt (.inl ht),by rw [List.length_append,htl];rfl,fun j t' e=>?_⟩
      by_cases hj:j<ts.length
      · rw [List.getElem?_append_left hj] at e
        have h4':=h3 j t' e
        rw [aV (bD h4' ht)];exact h4'
      · rw [List.getElem?_append_right (by omega)] at e
        have hj0:j - ts.length=0:=by
          have:=(List.getElem?_eq_some_iff.mp e).1
          simp at this;omega
        have hji:j=i:=by omega
        rw [hj0] at e
        simp at e
        subst e
        subst hji
        rw [bG,edl];rfl
    · rintro ts H3 ⟨_,_,h3⟩
      exact h3
    · intro i j hi hj hij e
      unfold Lq at e
      omega
    · rintro ts H3 D' ys ⟨s3,_,_⟩ hD ⟨p,hp,rfl,ho⟩
      have hbl:(gA ls.length).length=ls.length:=by unfold gA;simp
      rw [hbl] at hp
      refine q D' _ _ ((sT.trans s3).upd ((sT.trans s3).free hD) (.inl hD)) ((sT.trans s3).free hD) bG ⟨p,?_,hp,?_⟩
      · refine List.map_congr_left fun i hi=>?_
        have hi':i<ls.length:=List.mem_range.mp (hp.mem_iff.mp hi)
        show (gA ls.length).getD i .non=_
        unfold gA
        rw [List.getD_eq_getElem?_getD,List.getElem?_map,List.getElem?_range hi'];rfl
      · refine List.Pairwise.imp_of_mem (fun {a b} ha hb hab=>?_) ho
        have ha:=List.mem_range.mp (hp.mem_iff.mp ha)
        have hb:=List.mem_range.mp (hp.mem_iff.mp hb)
        unfold Lq at hab
        omega
abbrev dM:Stmt:=top 17
theorem jx:aU ["roll","groups","number"] ["roll"] (ao dM):=⟨rfl,rfl,rfl,by decide +kernel,rfl,by decide +kernel,by decide +kernel⟩
abbrev Pg:=Addr × Int × List Nat
def Cv (ps:List Pg):List (Addr × HO):=ps.map fun p=>(p.1,.lst ((Tn.asI p.2.2).map V.int))
def kvG (ps:List Pg):List (Key × V):=ps.map fun p=>(Sum.inl p.2.1,V.ref p.1)
def rT (K:PySem.W.Frag) (T:gk):Sp:=fun vs H Q _=>∃ (v:V) (ls:List Lic),vs=[v]∧Den K H v (pq ls)∧ls.length<64∧TabsOk T H ∧
  ∀ (l:Addr) (H':Hp) (ps:List Pg) (p:List Nat),Ow T H H' ((l,.lst (ps.map fun p=>V.ref p.1)) :: Cv ps)→Tn.Rk (qY ls) ls.length p→Tn.Grp (qY ls) p (ps.map (·.2))→Q (.ref l) H'
theorem Ed {ps:List Pg} {d:Int} {v:V} (h:uy (kvG ps) (Sum.inl d)=some v):∃ (j:Nat) (p:Pg),ps[j]?=some p∧p.2.1=d∧v=.ref p.1:=by
  unfold uy kvG at h
  rw [List.find?_map,Option.map_map] at h
  cases e:ps.find? ((fun kv:Key × V=>decide (kv.1=Sum.inl d)) ∘ fun p:Pg=>(Sum.inl p.2.1,V.ref p.1)) with
  | none=>rw [e] at h;cases h
  | some p =>
    rw [e] at h
    obtain ⟨j,hj⟩:=List.getElem?_of_mem (List.mem_of_find?_eq_some e)
    have hp:=List.find?_some e
    simp only [Function.comp,decide_eq_true_eq] at hp
    exact ⟨j,p,hj,Sum.inl.inj hp,(Option.some.inj h).symm⟩
theorem Ef {ps:List Pg} {d:Int} (h:uy (kvG ps) (Sum.inl d)=none):∀ p∈ps,p.2.1≠d:=fun p hp e=>by
  unfold uy kvG at h
  rw [Option.map_eq_none_iff,List.find?_eq_none] at h
  have:=h _ (List.mem_map_of_mem hp)
  simp [e] at this
theorem Aw {ps:List Pg} {j:Nat} {p:Pg} (h:ps[j]?=some p):(Cv ps)[j]?=some (p.1,.lst ((Tn.asI p.2.2).map V.int)):=by
  unfold Cv;rw [List.getElem?_map,h];rfl
theorem mD {α β:Type} {f:α→β}:∀ {ps:List α} {j:Nat} {p q:α},ps[j]?=some p→f q=f p→(ps.set j q).map f=ps.map f
  | [],_,_,_,h,_=>by simp at h
  | a :: ps,0,p,q,h,e=>by
    have:a=p:=by simpa using h
    subst this
    simp [e]
  | a :: ps,j + 1,p,q,h,e=>by
    rw [List.set_cons_succ,List.map_cons,List.map_cons,mD (by simpa using h) e]
theorem Aa {f f1 f2:Addr} {fd fd1 fd2:FuncData} (D:Df K mg "groups_of" dM ["roll"] f fd) (B:Blt mg)
    (bW:Df K mg "day_filed" cY ["one"] f1 fd1) (j4:bZ P w K mg base CX0 1 f1 fd1 ["one"] (zu K))
    (jO:Df K mg "ranked" iw ["roll"] f2 fd2) (Fp:bZ P w K mg base CX0 5 f2 fd2 ["roll"] (rQ K T)):bZ P w K mg base CX0 6 f fd ["roll"] (rT K T):=by
  refine D.F.ok jx (fun vs H Q E h=>?_) (fun cdv A outer s H vs Q E hr h=>?_)
  · obtain ⟨_,_,rfl,_⟩:=h;rfl
  · obtain ⟨v,ls,rfl,hd,h64,tk,q⟩:=h
    obtain ⟨va,vs,rfl,hV,d0⟩:=hd.fY
    have hvl:vs.length=ls.length:=by rw [d0.length,List.length_map]
    refine ⟨_,(au (aN (i:=1) jx.nd rfl (Or.inl rfl) Dp)
      (au (gq PassesOwn.never rfl (bM (aF Fp (hr.mono (by decide)) rfl jO.m jO.F.kp jO.b .nil bH (ak (pv 0) aq))) (aG (i:=2) jx.nd rfl (Or.inl rfl))
        (aD (gY (o7 PySem.F.plainAttrs_list PySem.F.slot_list_append PySem.F.type_list_append eE (Kp (pv 1) (aF j4 (hr.mono (by decide)) rfl bW.m bW.F.kp bW.b .nil bH (ak (bC aR (pv 0) (pv 2) (fun _ _=>rfl)) aq)) (gM aq) ⟨rfl,rfl,rfl,rfl⟩) (ak (pv 2) aq)))))
      (aD (bA (uX rfl rfl B.list (pv 1)))))),?_⟩
    refine R4 ?_
    intro zu0 zu1 zu2
    have O:=Ow.refl tk
    intro dg hdg
    walk_at "nw"
    refine ⟨_,rfl,.ref va,ls,rfl,hd.lQ O.same,h64,O.same.t1,O.pX fun lt H2 xs O ⟨p,ep,hp⟩=>?_⟩
    subst ep
    refine ⟨lt,rfl,⟨_,O.sq 0⟩,?_⟩
    refine dX (K:=K) (xs:=p.map fun (i:Nat)=>V.int (i:Int)) (fun i σ H'=>Iv (∃ (v2:Option V) (ps:List Pg),σ=[some (.ref va),some (.ref dg),v2]∧ps.length≤i ∧
      Ow T H H' ((lt,.lst (p.map fun (i:Nat)=>V.int (i:Int))) :: (dg,.dK (kvG ps)) :: Cv ps)∧Tn.Grp (qY ls) (p.take i) (ps.map (·.2))))
      ⟨trivial,none,[],rfl,Nat.le_refl _,O,Tn.Grp.start _⟩ (fun i σ H' _ ⟨_,_,_,_,_,O,_⟩=>O.sq 0) ?_ ?_
    · rintro i y σ H3 hy ⟨-,v2,ps,rfl,hpl,O,G⟩
      rw [List.getElem?_map] at hy
      obtain ⟨k,hk,rfl⟩:∃ k,p[i]?=some k∧y=V.int (k:Int):=by
        cases e:p[i]? with
        | none=>rw [e] at hy;cases hy
        | some j=>rw [e] at hy;exact ⟨j,rfl,(Option.some.inj hy).symm⟩
      have hi:=(List.getElem?_eq_some_iff.mp hk).1
      have hpn:=hp.len
      have hkl:=hp.lt (List.mem_of_getElem? hk)
      have hbe:=hp.before hk
      obtain ⟨al,hal,hTl⟩:=d0.wH (List.getElem?_eq_getElem hkl)
      have edl:=Bw (List.getElem?_eq_getElem hkl)
      have hvk:vs[k]?=some (.ref al):=hal
      refine ⟨_,rfl,dg,rfl,.inl ⟨_,.inl (O.get 1)⟩,_,rfl,_,rfl,va,_,(k:Int),_,rfl,rfl,O.same.seq hV,iT hvk,al,_,rfl,hTl.mo O.same,?_⟩
      rw [← edl]
      refine ⟨szl,fun l1 h1=>?_⟩
      walk_at "nw"
      refine ⟨kvG ps,Sum.inl (qY ls k),O.get 2,rfl,?_,fun v hv=>?_,fun hn=>?_⟩
      · unfold kvG
        exact aQ (by rw [List.length_map];omega)
      · have O:=O.tail
        obtain ⟨j,pj,hj,ej,rfl⟩:=Ed hv
        have hgj:(ps.map (·.2))[j]?=some pj.2:=by rw [List.getElem?_map,hj];rfl
        have lat:((lt,HO.lst (p.map fun (i:Nat)=>V.int (i:Int))) :: (dg,HO.dK (kvG ps)) :: Cv ps)[j + 2]?=some (pj.1,.lst ((Tn.asI pj.2.2).map V.int)):=by
          rw [List.getElem?_cons_succ,List.getElem?_cons_succ];exact Aw hj
        have hgl:pj.2.2.length≤1000:=by
          have hs:pj.2.2.Sublist (p.take i):=by rw [← G.flat];exact Tn.m7 (List.mem_map_of_mem (List.mem_of_getElem? hgj))
          have:=hs.length_le
          rw [List.length_take] at this;omega
        refine ⟨.inl ⟨rfl,_,SqL.of (O.get (j + 2) lat)⟩,_,rfl,pj.1,_,_,rfl,rfl,O.get (j + 2) lat,aQ (by rw [List.length_map,Tn.dW];omega),?_⟩
        generalize hE:upd _ _ _=Hn
        have O:=Ow.uU O (j + 2) lat hE rfl
        clear hE
        refine ⟨trivial,_,ps.set j (pj.1,pj.2.1,pj.2.2++[k]),rfl,by rw [List.length_set];omega,?_,?_⟩
        · rw [show kvG (ps.set j (pj.1,pj.2.1,pj.2.2++[k]))=kvG ps from mD hj rfl]
          rw [List.set_cons_succ,List.set_cons_succ] at O
          unfold Cv
          rw [List.map_set]
          unfold Cv at O
          simp only [Tn.asI,List.map_append,List.map_cons,List.map_nil]
          exact O
        · rw [Tn.bV hk,List.map_set]
          exact G.more hgj ej hbe
      · rw [Dl _ hn]
        walk_at "pt"
        refine ⟨.inl ⟨rfl,_,O.sq 0⟩,_,rfl,l1,_,_,rfl,rfl,O.get 0,aQ (by simp),?_⟩
        walk_at "pt"
        refine ⟨trivial,_,ps++[(l1,qY ls k,[k])],rfl,by rw [List.length_append];simp;omega,?_,?_⟩
        · unfold kvG Cv
          rw [List.map_append,List.map_append]
          unfold kvG Cv at O
          refine O.perm ?_
          have e:((lt,HO.lst (p.map fun (i:Nat)=>V.int (i:Int))) :: (dg,HO.dK (ps.map (fun p=>((Sum.inl p.2.1:Key),V.ref p.1))++[(l1,qY ls k,[k])].map (fun p:Pg=>((Sum.inl p.2.1:Key),V.ref p.1)))) :: (ps.map (fun p=>(p.1,HO.lst ((Tn.asI p.2.2).map V.int)))++[(l1,qY ls k,[k])].map (fun p:Pg=>(p.1,HO.lst ((Tn.asI p.2.2).map V.int)))))
            = ((lt,HO.lst (p.map fun (i:Nat)=>V.int (i:Int))) :: (dg,HO.dK (ps.map (fun p=>((Sum.inl p.2.1:Key),V.ref p.1))++[(Sum.inl (qY ls k),V.ref l1)])) :: ps.map (fun p=>(p.1,HO.lst ((Tn.asI p.2.2).map V.int))))++[(l1,HO.lst ([]++[V.int (k:Int)]))]:=rfl
          rw [e]
          exact List.perm_append_comm
        · rw [Tn.bV hk,List.map_append]
          exact G.new (fun g hg=>by
            obtain ⟨p',hp',rfl⟩:=List.mem_map.mp hg
            exact Ef hn p' hp') hbe
    · rintro σ H3 ⟨-,v2,ps,rfl,hpl,O,G⟩
      rw [List.length_map,List.take_of_length_le (Nat.le_refl _)] at G
      refine ⟨_,rfl,dg,kvG ps,rfl,.inl (O.get 1),fun l hl=>?_⟩
      walk_at "nw"
      have e:(kvG ps).map (·.2)=ps.map fun p=>V.ref p.1:=by unfold kvG;rw [List.map_map];rfl
      rw [e] at O
      exact q l _ ps p (O.sub ((List.Sublist.cons _ (List.Sublist.cons _ (List.Sublist.refl _))).cons₂ _)) hp G
abbrev jz:Stmt:=top 27
theorem iZ:aU ["below","springs","roll","calls","free","wants","takes","group","ways","dealt","number","take"] ["below","springs","roll","calls"] (ao jz):=⟨rfl,rfl,rfl,by decide +kernel,rfl,by decide +kernel,by decide +kernel⟩
def oZ (r:List Int) (ls:List Lic):Nat→List Int:=Tn.fW (ls.map fun l=>Rv.iW r l.start l.back)
theorem ju {r:List Int} {ls:List Lic} {k:Nat} {l:Lic} (h:ls[k]?=some l):oZ r ls k=Rv.iW r l.start l.back:=by
  unfold oZ Tn.fW;rw [List.getD_eq_getElem?_getD,List.getElem?_map,h];rfl
def oV (r:List Int) (l:Lic):Prop:=pB r l∧0≤l.most
theorem yL {r:List Int} (hR:Rv.cG r) {ls:List Lic} (h:∀ l∈ls,oV r l) {k:Nat} (hk:k<ls.length):Tn.WOk r.length (oZ r ls k):=by
  obtain ⟨h0,h1,_⟩:=(h _ (List.getElem_mem hk)).1
  rw [ju (List.getElem?_eq_getElem hk)]
  exact Rv.mW hR h0 h1
structure yC (r s:List Int) (ls:List Lic) (cs xs:List Int):Prop where
  len:xs.length=ls.length
  fit:Tn.Fit ls.length (Tn.fF (Rv.nats r s)) (oZ r ls) (Tn.fX (dH ls cs)) (Tn.fX xs)
  shown:Tn.lW ls.length (Tn.fF (Rv.nats r s)) (oZ r ls) (qY ls) (Tn.fX (dH ls cs)) (Tn.fX xs)
theorem Ae {r s:List Int} (h:∀ x∈s,0≤x) (i:Int):0≤Rv.mL r s i:=by
  have key:∀ (n:Nat) (f:Nat→Int),(∀ j,j<n→0≤f j)→0≤Rv.tot n f:=by
    intro n f
    induction n with
    | zero=>intro _;exact Int.le_refl _
    | succ n ih =>
      intro hf
      have:=ih fun j hj=>hf j (by omega)
      have:=hf n (by omega)
      show 0≤Rv.tot n f + f n
      omega
  refine key _ _ fun j _=>?_
  by_cases hj:j<s.length
  · have:=h _ (Tn.iQ hj)
    split
    · exact this
    · exact Int.le_refl _
  · rw [List.getD_eq_getElem?_getD,List.getElem?_eq_none (by omega)]
    split <;> exact Int.le_refl _
theorem Ad {r s:List Int} (h:∀ x∈s,0≤x):∀ x∈Rv.nats r s,0≤x:=fun x hx=>by
  obtain ⟨i,_,rfl⟩:=List.mem_map.mp hx
  exact Ae h _
theorem lH {ls:List Lic} {cs:List Int} (h:ls.length=cs.length):(dH ls cs).length=ls.length:=by
  unfold dH;rw [List.length_zipWith];omega
theorem yM {ls:List Lic} {cs:List Int} {k:Nat} {l:Lic} {c:Int} (hl:ls[k]?=some l) (hc:cs[k]?=some c):(dH ls cs)[k]?=some (min c l.most):=by
  unfold dH;rw [List.getElem?_zipWith,hl,hc]
theorem rH {r:List Int} {ls:List Lic} {cs:List Int} (h:∀ l∈ls,oV r l) (hc:∀ c∈cs,0≤c):∀ x∈dH ls cs,0≤x:=fun x hx=>by
  obtain ⟨k,hk⟩:=List.getElem?_of_mem hx
  unfold dH at hk
  rw [List.getElem?_zipWith] at hk
  cases e1:ls[k]? with
  | none=>rw [e1] at hk;simp at hk
  | some l =>
    cases e2:cs[k]? with
    | none=>rw [e1,e2] at hk;simp at hk
    | some c =>
      rw [e1,e2] at hk
      have:=(h l (List.mem_of_getElem? e1)).2
      have:=hc c (List.mem_of_getElem? e2)
      have:x=min c l.most:=(Option.some.inj hk).symm
      omega
def uO (K:PySem.W.Frag) (T:gk):Sp:=fun vs H Q _=>∃ (a b c:Addr) (v:V) (r s:List Int) (ls:List Lic) (cs:List Int),vs=[.ref a,.ref b,v,.ref c]∧Ke K H a r∧SqL K H b (s.map V.int)∧s.length=r.length∧(∀ x∈s,0≤x)∧Den K H v (pq ls)∧ls.length<64∧SqL K H c (cs.map V.int)∧ls.length=cs.length∧(∀ l∈ls,oV r l)∧(∀ c∈cs,0≤c)∧TabsOk T H ∧
  jF T H (fun ys=>∃ xs,ys=xs.map V.int∧yC r s ls cs xs) Q
theorem KC {f f1 f2 f3 f4 f5:Addr} {fd fd1 fd2 fd3 fd4 fd5:FuncData} (D:Df K mg "deal" jz ["below","springs","roll","calls"] f fd) (B:Blt mg)
    (aY:Df K mg "natural_of" bQ ["below","springs"] f1 fd1) (gQ:bZ P w K mg base CX0 6 f1 fd1 ["below","springs"] (vZ K T))
    (cJ:Df K mg "wants_of" dz ["roll","calls"] f2 fd2) (lX:bZ P w K mg base CX0 2 f2 fd2 ["roll","calls"] (qx K T))
    (gD:Df K mg "groups_of" dM ["roll"] f3 fd3) (vI:bZ P w K mg base CX0 6 f3 fd3 ["roll"] (rT K T))
    (aX:Df K mg "reaches_of" bO ["below","one"] f4 fd4) (gP:bZ P w K mg base CX0 3 f4 fd4 ["below","one"] (jK K))
    (fj:Df K mg "deal_turns" cP ["free","ways","rests"] f5 fd5) (uo:bZ P w K mg base CX0 4 f5 fd5 ["free","ways","rests"] (LR K T)) :
    bZ P w K mg base CX0 7 f fd ["below","springs","roll","calls"] (uO K T):=by
  refine D.F.ok iZ (fun vs H Q E h=>?_) (fun cdv A outer s H vs Q E hr h=>?_)
  · obtain ⟨_,_,_,_,_,_,_,_,rfl,_⟩:=h;rfl
  · obtain ⟨a,b,c,v,r,sp,ls,cs,rfl,⟨hA,hR,h64⟩,hB,hsl,hsn,hd,hl64,hC,hlc,ok,hcn,tk,q⟩:=h
    obtain ⟨va,vs,rfl,hV,d0⟩:=hd.fY
    have hvl:vs.length=ls.length:=by rw [d0.length,List.length_map]
    refine ⟨_,(au (aN (i:=4) iZ.nd rfl (Or.inl rfl) (aF gQ (hr.mono (by decide)) rfl aY.m aY.F.kp aY.b .nil bH (ak (pv 0) (ak (pv 1) aq))))
      (au (aN (i:=5) iZ.nd rfl (Or.inr rfl) (aF lX (hr.mono (by decide)) rfl cJ.m cJ.F.kp cJ.b .nil bH (ak (pv 2) (ak (pv 3) aq))))
      (au (aN (i:=6) iZ.nd rfl (Or.inl rfl) (aL nW (gM (ak aA aq)) (aH aK rfl B.len PySem.boot_len (ak (pv 2) aq))))
      (au (gq PassesOwn.never rfl (bM (aF vI (hr.mono (by decide)) rfl gD.m gD.F.kp gD.b .nil bH (ak (pv 2) aq))) (aG (i:=7) iZ.nd rfl (Or.inl rfl))
        (au (jf (i:=8) (ao jz) rfl ["below","springs","roll","calls","free","wants","takes","group","ways","dealt","number","take"] rfl ["number","below","roll"] [none,some 0,some 2] (by decide +kernel) (by decide +kernel) (by decide +kernel) rfl iZ.nd rfl rfl (bM (pv 7)) (fun _ _ _=>(aG (i:=0) (show (["number","below","roll"]:List Str).Nodup by decide +kernel) rfl (Or.inl rfl))) (fun _ _ _=>fQ) (fun _ _ _=>(aF gP (hr.mono (by decide)) rfl aX.m aX.F.kp aX.b .nil bH (ak (pv 1) (ak (bC (fZ (K:=K) rfl) (pv 2) (pv 0) (fun _ _=>rfl)) aq)))) rfl)
        (au (mH (aF uo (hr.mono (by decide)) rfl fj.m fj.F.kp fj.b .nil bH (ak (pv 4) (ak (pv 8) (ak (fU (ao jz) rfl ["below","springs","roll","calls","free","wants","takes","group","ways","dealt","number","take"] rfl ["number","wants"] [none,some 5] (by decide +kernel) (by decide +kernel) (by decide +kernel) rfl (bM (pv 7)) (fun _ _ _=>(aG (i:=0) (show (["number","wants"]:List Str).Nodup by decide +kernel) rfl (Or.inl rfl))) (fun _ _ _=>fQ) (fun _ _ _=>(bC (fZ (K:=K) rfl) (pv 1) (pv 0) (fun _ _=>rfl)))) aq)))) (nT rfl (aZ (aG (i:=9) iZ.nd rfl (Or.inl rfl)) (aZ (aG (i:=4) iZ.nd rfl (Or.inl rfl)) iI))))
        (aD (gq PassesOwn.never rfl (sO rfl B.zip (ak (pv 7) (ak (pv 9) aq))) (nT rfl (aZ (aG (i:=10) iZ.nd rfl (Or.inl rfl)) (aZ (aG (i:=11) iZ.nd rfl (Or.inl rfl)) iI)))
          (aD (mH (pv 11) (sS (pv 6) (pv 10) set_list))))))))
      (aD (bA (pv 6))))))),?_⟩
    refine R3 ?_
    intro zu0 zu1 zu2 zu3 zu4 zu5 zu6 zu7
    have O:=Ow.refl tk
    refine ⟨_,rfl,_,rfl,a,b,r,sp,rfl,⟨hA,hR,h64⟩,hB,hsl,tk,O.pX fun lf H1 ys O e=>?_⟩
    subst e
    refine ⟨_,rfl,_,rfl,.ref va,c,ls,cs,rfl,hd.lQ O.same,O.same.seq hC,hlc,by omega,O.same.t1,O.pX fun lw H2 ys O e=>?_⟩
    subst e
    have hnl:(Rv.nats r sp).length=r.length:=(Rv.jY r sp).len
    have hnn:=Ad (r:=r) hsn
    have hwl:=lH hlc
    have hwn:=rH ok hcn
    have hW:=fun k (hk:k<ls.length)=>yL hR ok hk
    have hwk:∀ k,k<ls.length→0≤Tn.fX (dH ls cs) k:=fun k hk=>hwn _ (Tn.iQ (by omega))
    generalize hwa:dH ls cs=wa at O hwl hwn hwk
    refine ⟨szl,fun l1 h1=>?_⟩
    walk_at "nw"
    refine ⟨_,rfl,va,_,rfl,.inl (O.same.seq hV),l1,_,_,rfl,rfl,O.get 0,by omega,by omega,ig (by rw [Int.toNat_natCast];simp;omega),fun lt hlt=>?_⟩
    walk_at "nw"
    rw [Int.toNat_natCast,iH,hvl] at O
    have O:=O.two
    refine ⟨_,rfl,.ref va,ls,rfl,hd.lQ O.same,hl64,O.same.t1,fun lg H3 ps p OG R G=>?_⟩
    have nin:∀ q∈((lg,HO.lst (ps.map fun p=>V.ref p.1)) :: Cv ps),∀ z∈[(lt,HO.lst ((List.replicate ls.length 0).map V.int)),(lw,.lst (wa.map V.int)),(lf,.lst ((Rv.nats r sp).map V.int))],z.1≠q.1:=fun q hq z hz e=>by
      have h1:=OG.new q hq
      have h2:=O.at_ z hz
      rw [e,h1] at h2;cases h2
    obtain ⟨Hb,O,sb,kb⟩:=(O.yt OG.same).reb
    have hG:SqL K Hb lg (ps.map fun p=>V.ref p.1):=SqL.of (kb lg _ (OG.get 0) (nin _ List.mem_cons_self))
    have hP:∀ (j:Nat) (pj:Pg),ps[j]?=some pj→SqL K Hb pj.1 ((Tn.asI pj.2.2).map V.int):=fun j pj hj=>by
      have:=Aw hj
      have hm:=List.mem_of_getElem? this
      exact SqL.of (kb _ _ (OG.at_ _ (List.mem_cons_of_mem _ hm)) (nin _ (List.mem_cons_of_mem _ hm)))
    clear nin kb OG
    have hA:=sb.seq hA
    have hV:=sb.seq hV
    have d0:=d0.mo sb
    refine ⟨lg,rfl,⟨_,O.same.seq hG⟩,?_⟩
    refine dX (K:=K) (xs:=ps.map fun p=>V.ref p.1) (fun j σ H'=>Iv (∃ (lf:Addr) (v7 v8 v9 v10 v11:Option V) (xs fl:List Int),σ=[some (.ref a),some (.ref b),some (.ref va),some (.ref c),some (.ref lf),some (.ref lw),some (.ref lt),v7,v8,v9,v10,v11] ∧
      Ow T Hb H' [(lt,.lst (xs.map V.int)),(lw,.lst (wa.map V.int)),(lf,.lst (fl.map V.int))]∧Tn.yG ls.length (Rv.nats r sp) (oZ r ls) (qY ls) (Tn.fX wa) (ps.map (·.2)) j xs fl))
      ⟨trivial,lf,none,none,none,none,none,_,_,rfl,O,Tn.yG.start _ hwk hnn⟩ (fun i σ H' _ ⟨_,_,_,_,_,_,_,_,_,_,O,_⟩=>O.same.seq hG) ?_ ?_
    · rintro j y σ H4 hy ⟨-,lf,v7,v8,v9,v10,v11,xs,fl,rfl,O,GI⟩
      rw [List.getElem?_map] at hy
      obtain ⟨pj,hj,rfl⟩:∃ pj,ps[j]?=some pj∧y=V.ref pj.1:=by
        cases e:ps[j]? with
        | none=>rw [e] at hy;cases hy
        | some j=>rw [e] at hy;exact ⟨j,rfl,(Option.some.inj hy).symm⟩
      have hgj:(ps.map (·.2))[j]?=some pj.2:=by rw [List.getElem?_map,hj];rfl
      have hPj:=hP j pj hj
      have up:=G.up R (List.mem_of_getElem? hgj)
      have nd:=Tn.eU up
      have hlt:∀ k∈pj.2.2,k<ls.length:=fun k hk=>R.lt (by rw [← G.flat];exact List.mem_flatten.mpr ⟨pj.2.2,List.mem_map_of_mem (List.mem_of_getElem? hgj),hk⟩)
      have hgl:pj.2.2.length≤ls.length:=by
        have hs:pj.2.2.Sublist p:=by rw [← G.flat];exact Tn.m7 (List.mem_map_of_mem (List.mem_of_getElem? hgj))
        have:=hs.length_le
        rw [R.len] at this;exact this
      have hfl:=GI.fll
      have hxl:=GI.xl
      have hfn:=GI.nn hnn
      /- ways -/
      refine ⟨_,rfl,pj.1,rfl,⟨_,O.same.seq hPj⟩,fun acc hacc=>?_⟩
      refine dw (K:=K) (xs:=(Tn.asI pj.2.2).map V.int) (fun i τ H'=>Iv (∃ (v0:Option V) (Hc:Hp) (us:List V),τ=[v0,some (.ref a),some (.ref va)]∧Ow T Hc H' [(acc,.lst us),(lt,.lst (xs.map V.int)),(lw,.lst (wa.map V.int)),(lf,.lst (fl.map V.int))]∧bF T Hb Hc∧gR K Hc us ((pj.2.2.take i).map fun k=>pA (oZ r ls k))))
        ⟨trivial,none,Hb,[],rfl,O.mk' hacc rfl,bF.refl O.same.t0,.nil⟩ (fun i τ H' _ ⟨_,_,_,_,_,O,sc,_⟩=>(sc.trans O.same).seq hPj) ?_ ?_
      · rintro i y τ H5 hy ⟨-,v0,Hc,us,rfl,O,sc,d1⟩
        obtain ⟨z,hz,rfl⟩:=ints_get hy
        obtain ⟨k,hk,rfl⟩:=Tn.iK hz
        have hi:=(List.getElem?_eq_some_iff.mp hk).1
        have hkl:=hlt k (List.mem_of_getElem? hk)
        obtain ⟨al,hal,hTl⟩:=d0.wH (List.getElem?_eq_getElem hkl)
        refine yD ?_
        refine ⟨_,rfl,_,rfl,_,rfl,va,_,(k:Int),_,rfl,rfl,(sc.trans O.same).seq hV,iT hal,a,al,r,_,rfl,(sc.trans O.same).seq hA,hR,by omega,hTl.mo (sc.trans O.same),(ok _ (List.getElem_mem hkl)).1,O.got fun lx H6 ys O e=>?_⟩
        subst e
        refine ⟨_,O.get 1,aQ (by rw [d1.length,List.length_map,List.length_take];omega),?_⟩
        walk_at "pt"
        obtain ⟨Hn2,O,sn,en2⟩:=O.frz
        refine ⟨trivial,_,Hn2,us++[.ref lx],rfl,O,sc.trans sn,?_⟩
        rw [Tn.fV hk]
        refine (d1.mo sn).append (.cons ?_ .nil)
        rw [ju (List.getElem?_eq_getElem hkl)]
        exact Den.ints (SqL.of en2)
      rintro τ H5 ⟨-,v0,Hc,us,rfl,O,sc,d1⟩
      rw [List.length_map,Tn.dW,List.take_of_length_le (Nat.le_refl _)] at d1
      /- rests -/
      refine ⟨_,rfl,_,rfl,_,rfl,pj.1,rfl,⟨_,(sc.trans O.same).seq hPj⟩,fun ac2 hac2=>?_⟩
      refine dw (K:=K) (xs:=(Tn.asI pj.2.2).map V.int) (fun i τ H'=>Iv (∃ (v0:Option V),τ=[v0,some (.ref lw)]∧Ow T Hc H' [(ac2,.lst (((pj.2.2.take i).map (Tn.fX wa)).map V.int)),(acc,.lst us),(lt,.lst (xs.map V.int)),(lw,.lst (wa.map V.int)),(lf,.lst (fl.map V.int))]))
        ⟨trivial,none,rfl,O.mk' hac2 rfl⟩ (fun i τ H' _ ⟨_,_,_,O⟩=>(sc.trans O.same).seq hPj) ?_ ?_
      · rintro i y τ H6 hy ⟨-,v0,rfl,O⟩
        obtain ⟨z,hz,rfl⟩:=ints_get hy
        obtain ⟨k,hk,rfl⟩:=Tn.iK hz
        have hi:=(List.getElem?_eq_some_iff.mp hk).1
        have hkl:=hlt k (List.mem_of_getElem? hk)
        refine yD ?_
        refine ⟨_,rfl,_,rfl,lw,_,(k:Int),_,rfl,rfl,O.sq 3,eO (bI (ns:=wa) (k:=k) (by omega)),?_⟩
        refine ⟨_,O.get 0,aQ (by rw [List.length_map,List.length_map,List.length_take];omega),?_⟩
        walk_at "pt"
        refine ⟨trivial,_,rfl,?_⟩
        rw [Tn.fV hk,List.map_append];exact O
      rintro τ H6 ⟨-,v0,rfl,O⟩
      rw [List.length_map,Tn.dW,List.take_of_length_le (Nat.le_refl _)] at O
      have dws:gR K Hc us ((pj.2.2.map (oZ r ls)).map pA):=by rw [List.map_map];exact d1
      refine ⟨lf,ac2,.ref acc,fl,pj.2.2.map (Tn.fX wa),pj.2.2.map (oZ r ls),rfl,O.sq 4,.list (O.sq 1) (dws.mo O.same),O.sq 0,by rw [List.length_map,List.length_map],by omega,by rw [List.length_map];omega,fun w hw=>?_,hfn,fun x hx=>?_,O.same.t1,fun l lt2 ll ys left t H7 OD L=>?_⟩
      · obtain ⟨k,hk,rfl⟩:=List.mem_map.mp hw
        rw [hfl,hnl]
        exact hW k (hlt k hk)
      · obtain ⟨k,hk,rfl⟩:=List.mem_map.mp hx
        exact hwk k (hlt k hk)
      have O:=O.join OD
      walk_at "jn"
      refine ⟨l,_,rfl,O.sqT 0,rfl,_,_,rfl,_,_,rfl,rfl,?_⟩
      have O:=((((O.del 0).del 2).del 2).del 4)
      walk_at "er"
      have hyl:ys.length=pj.2.2.length:=by rw [L.xl,List.length_map]
      refine ⟨_,rfl,_,rfl,pj.1,lt2,_,_,rfl,(sc.trans O.same).seq hPj,O.sq 0,?_⟩
      refine Bp (K:=K) (fun i σ H'=>Iv (∃ (v10 v11:Option V) (cur:List Int),σ=[some (.ref a),some (.ref b),some (.ref va),some (.ref c),some (.ref ll),some (.ref lw),some (.ref lt),some (.ref pj.1),some (.ref acc),some (.ref lt2),v10,v11]∧cur.length=ls.length∧(∀ k,Tn.fX cur k=Tn.over (Tn.fX xs) (pj.2.2.take i) (Tn.fX ys) k) ∧
        Ow T Hc H' [(lt2,.lst (ys.map V.int)),(ll,.lst (left.map V.int)),(lt,.lst (cur.map V.int)),(lw,.lst (wa.map V.int))])) (by rw [List.length_map,List.length_map,Tn.dW];omega)
        ⟨trivial,_,_,xs,rfl,hxl,fun k=>by rw [List.take_zero,Tn.jm (by simp)],O⟩ (fun i σ H' _ ⟨_,_,_,_,_,_,_,O⟩=>⟨(sc.trans O.same).seq hPj,O.sq 0⟩) ?_ ?_
      · rintro i x y t' σ H8 hx hy ⟨-,v10,v11,cur,rfl,hcl,hov,O⟩ ht
        obtain ⟨z,hz,rfl⟩:=ints_get hx
        obtain ⟨k,hk,rfl⟩:=Tn.iK hz
        obtain ⟨u,hu,rfl⟩:=ints_get hy
        have hkl:=hlt k (List.mem_of_getElem? hk)
        walk_at "nw"
        refine ⟨t',_,rfl,O.sqT 0,rfl,_,_,rfl,_,_,rfl,rfl,?_⟩
        refine ⟨_,rfl,_,rfl,_,rfl,lt,_,_,k,rfl,rfl,O.get 3,jd (by rw [List.length_map];omega),?_⟩
        walk_at "pt"
        have O:=O.tail
        refine ⟨trivial,_,_,cur.set k u,rfl,by rw [List.length_set];exact hcl,fun m=>?_,by rw [List.map_set];exact O⟩
        rw [Tn.zW nd hk m,← hov m]
        unfold Tn.fX
        rw [Tn.m6 (by omega)]
        by_cases hm:m=k
        · rw [if_pos hm,if_pos hm,List.getD_eq_getElem?_getD,hu];rfl
        · rw [if_neg hm,if_neg hm]
      · rintro σ H8 ⟨-,v10,v11,cur,rfl,hcl,hov,O⟩
        rw [List.length_map,Tn.dW,List.take_of_length_le (Nat.le_refl _)] at hov
        have O:=(O.base sc).tail
        have O:=O.pull 2
        walk_at "er"
        have O:=O.pull 2
        walk_at "er"
        refine ⟨trivial,ll,_,_,_,_,_,cur,left,rfl,O,?_⟩
        exact GI.step G R hgj (by rw [hnl];exact hW) L hcl hov
    · rintro σ H4 ⟨-,lf,v7,v8,v9,v10,v11,xs,fl,rfl,O,GI⟩
      rw [List.length_map] at GI
      have GI:Tn.yG ls.length (Rv.nats r sp) (oZ r ls) (qY ls) (Tn.fX wa) (ps.map (·.2)) (ps.map (·.2)).length xs fl:=by rw [List.length_map];exact GI
      obtain ⟨F1,F2⟩:=GI.finish G R
      rw [← hwa] at F1 F2
      exact ⟨_,rfl,(O.base sb).ret 0 rfl q ⟨xs,rfl,GI.xl,F1,F2⟩⟩
theorem Sd {x w:Int} (hx:1≤x) (hx2:x≤40) (h0:0≤w) (h1:w<8):∃ n:Nat,atI [V.int 1,V.int 2,V.int 3,V.int 5,V.int 8,V.int 12,V.int 7,V.int x] w=some (V.int (n:Int))∧1≤n∧n≤40:=by
  rcases (by omega:w=0∨w=1∨w=2∨w=3∨w=4∨w=5∨w=6∨w=7) with e | e | e | e | e | e | e | e <;> subst e
  · exact ⟨1,rfl,by omega,by omega⟩
  · exact ⟨2,rfl,by omega,by omega⟩
  · exact ⟨3,rfl,by omega,by omega⟩
  · exact ⟨5,rfl,by omega,by omega⟩
  · exact ⟨8,rfl,by omega,by omega⟩
  · exact ⟨12,rfl,by omega,by omega⟩
  · exact ⟨7,rfl,by omega,by omega⟩
  · exact ⟨x.toNat,by rw [Int.toNat_of_nonneg (by omega)];rfl,by omega,by omega⟩
theorem Mi {x y:Int} {w:Int} (h0:0≤w) (h1:w<2) (hx:0≤x) (hy:0≤y) {k:Nat} (hxk:x<k) (hyk:y<k):∃ j:Nat,atI [V.int x,V.int y] w=some (V.int (j:Int))∧j<k:=by
  rcases (by omega:w=0∨w=1) with e | e <;> subst e
  · exact ⟨x.toNat,by rw [Int.toNat_of_nonneg hx];rfl,by omega⟩
  · exact ⟨y.toNat,by rw [Int.toNat_of_nonneg hy];rfl,by omega⟩
theorem za (a:Int) (n:Nat):(1 + a % 2 * (if ((n:Int) - 2) > 0 then ((n:Int) - 2) else 0))=1∨(1 + a % 2 * (if ((n:Int) - 2) > 0 then ((n:Int) - 2) else 0))=(n:Int) - 1:=by
  rcases Int.emod_two_eq a with e | e
  · rw [e,Int.zero_mul];exact .inl rfl
  · rw [e,Int.one_mul]
    split
    · right;omega
    · left;omega
abbrev cB:Stmt:=top 41
theorem cu:aU ["cell","size","xs","step","spots","below","k","number"] ["cell"] (ao cB):=⟨rfl,rfl,rfl,by decide +kernel,rfl,by decide +kernel,by decide +kernel⟩
def vY (T:gk):Sp:=fun vs H Q _=>∃ (c:Int),vs=[.int c]∧TabsOk T H∧jF T H (fun xs=>∃ r,xs=r.map V.int∧Rv.cG r∧1≤r.length∧r.length≤40) Q
theorem Du {f f1:Addr} {fd fd1:FuncData} (D:Df K mg "_law_river" cB ["cell"] f fd) (B:Blt mg)
    (aM:Df K mg "_law_mixed" bx ["cell","many"] f1 fd1) (dR:bZ P w K mg base CX0 2 f1 fd1 ["cell","many"] nF):bZ P w K mg base CX0 3 f fd ["cell"] (vY T):=by
  refine D.F.ok cu (fun vs H Q E h=>?_) (fun cdv A outer s H vs Q E hr h=>?_)
  · obtain ⟨_,rfl,_⟩:=h;rfl
  · obtain ⟨c,rfl,tk,q⟩:=h
    change ∃ t,PSs _ (_ :: _) t∧_
    generalize hc0:Expr.Constant (Const.int 1) 0 ⟨138,12,138,13⟩=a0
    have hA0:∀ X:Cx,PE X a0 (tC (.int 1)):=fun X=>by rw [← hc0];exact aA
    have hN0:∀ (es:List Expr) (env:Env),starEach (a0 :: es) env=(false,eval a0 env) :: starEach es env:=fun es env=>by rw [← hc0];rfl
    generalize hc1:Expr.Constant (Const.int 2) 0 ⟨138,15,138,16⟩=a1
    have hA1:∀ X:Cx,PE X a1 (tC (.int 2)):=fun X=>by rw [← hc1];exact aA
    have hN1:∀ (es:List Expr) (env:Env),starEach (a1 :: es) env=(false,eval a1 env) :: starEach es env:=fun es env=>by rw [← hc1];rfl
    generalize hc2:Expr.Constant (Const.int 3) 0 ⟨138,18,138,19⟩=a2
    have hA2:∀ X:Cx,PE X a2 (tC (.int 3)):=fun X=>by rw [← hc2];exact aA
    have hN2:∀ (es:List Expr) (env:Env),starEach (a2 :: es) env=(false,eval a2 env) :: starEach es env:=fun es env=>by rw [← hc2];rfl
    generalize hc3:Expr.Constant (Const.int 5) 0 ⟨138,21,138,22⟩=a3
    have hA3:∀ X:Cx,PE X a3 (tC (.int 5)):=fun X=>by rw [← hc3];exact aA
    have hN3:∀ (es:List Expr) (env:Env),starEach (a3 :: es) env=(false,eval a3 env) :: starEach es env:=fun es env=>by rw [← hc3];rfl
    generalize hc4:Expr.Constant (Const.int 8) 0 ⟨138,24,138,25⟩=a4
    have hA4:∀ X:Cx,PE X a4 (tC (.int 8)):=fun X=>by rw [← hc4];exact aA
    have hN4:∀ (es:List Expr) (env:Env),starEach (a4 :: es) env=(false,eval a4 env) :: starEach es env:=fun es env=>by rw [← hc4];rfl
    generalize hc5:Expr.Constant (Const.int 12) 0 ⟨138,27,138,29⟩=a5
    have hA5:∀ X:Cx,PE X a5 (tC (.int 12)):=fun X=>by rw [← hc5];exact aA
    have hN5:∀ (es:List Expr) (env:Env),starEach (a5 :: es) env=(false,eval a5 env) :: starEach es env:=fun es env=>by rw [← hc5];rfl
    generalize hc6:Expr.Constant (Const.int 7) 0 ⟨138,31,138,32⟩=a6
    have hA6:∀ X:Cx,PE X a6 (tC (.int 7)):=fun X=>by rw [← hc6];exact aA
    have hN6:∀ (es:List Expr) (env:Env),starEach (a6 :: es) env=(false,eval a6 env) :: starEach es env:=fun es env=>by rw [← hc6];rfl
    refine ⟨_,(au (aN (i:=1) cu.nd rfl (Or.inr rfl) (bC aR (gM (ak (hA0 _) (ak (hA1 _) (ak (hA2 _) (ak (hA3 _) (ak (hA4 _) (ak (hA5 _) (ak (hA6 _) (ak (aL mK aA (aL cD (aL jA (pv 0) aA) aA)) aq) (hN6 _ _)) (hN5 _ _)) (hN4 _ _)) (hN3 _ _)) (hN2 _ _)) (hN1 _ _)) (hN0 _ _))) (aL cD (pv 0) aA) (fun _ _=>rfl)))
      (au (aN (i:=2) cu.nd rfl (Or.inr rfl) (aF dR (hr.mono (by decide)) rfl aM.m aM.F.kp aM.b .nil bH (ak (aL jA (pv 0) aA) (ak (aL dh (pv 1) aA) aq))))
      (au (aN (i:=3) cu.nd rfl (Or.inr rfl) (aL dh aA (aL gO (aL cD (bC aR (pv 2) aA (fun _ _=>rfl)) aA) (aH (oR rfl) rfl B.max PyProof.Rows.boot_max (ak aA (ak (aL mK (pv 1) aA) aq))))))
      (au (jf (i:=4) (ao cB) rfl ["cell","size","xs","step","spots","below","k","number"] rfl ["k","size","xs","step"] [none,some 1,some 2,some 3] (by decide +kernel) (by decide +kernel) (by decide +kernel) rfl cu.nd rfl rfl (nQ rfl B.range (ak (pv 1) aq)) (fun _ _ _=>(aG (i:=0) (show (["k","size","xs","step"]:List Str).Nodup by decide +kernel) rfl (Or.inl rfl))) (fun _ _ _=>fQ) (fun _ _ _=>(aL cD (aL dh (bC (fZ (K:=K) rfl) (pv 2) aA (fun _ _=>rfl)) (aL gO (pv 3) (pv 0))) (pv 1))) rfl)
      (au (aN (i:=5) cu.nd rfl (Or.inl rfl) (aL nW (gM (ak (xV pH aA) aq)) (pv 1)))
      (au (gq PassesOwn.never rfl (zU rfl B.range (ak aA (ak (pv 1) aq))) (aG (i:=6) cu.nd rfl (Or.inl rfl))
        (au (aN (i:=7) cu.nd rfl (Or.inl rfl) (bC aR (pv 2) (aL dh (pv 6) aA) (fun _ _=>rfl)))
        (aD (jX (dF Dq (aL cD (pv 7) aA) aA (d9 _))
          (aD (mH (bC aR (pv 4) (bC aR (gM (ak (aL mK (pv 6) aA) (ak (aL cD (aL jA (pv 7) aA) (pv 6)) aq))) (aL cD (aL jA (pv 7) aA) aA) (fun _ _=>rfl)) (fun _ _=>rfl)) (sS (pv 5) (bC aR (pv 4) (pv 6) (fun _ _=>rfl)) set_list)))
          gB))))
      (aD (bA (pv 5))))))))),?_⟩
    refine R0 ?_
    intro zu0 zu1 zu2 zu3 zu4 zu5 zu6 zu7 zu8
    have O:=Ow.refl tk
    have c0:=Int.emod_nonneg c (show (8:Int)≠0 by decide)
    have c1:=Int.emod_lt_of_pos c (show (0:Int)<8 by decide)
    have e0:=Int.emod_nonneg (c / 8) (show (40:Int)≠0 by decide)
    have e1:=Int.emod_lt_of_pos (c / 8) (show (0:Int)<40 by decide)
    refine ⟨_,rfl,_,_,rfl,rfl,⟨by decide,by decide⟩,_,_,rfl,rfl,(by show (0:Int)<40;decide),_,_,rfl,rfl,szl,fun l1 h1=>?_⟩
    walk_at "nw"
    obtain ⟨n,hv,n1,n40⟩:=Sd (x:=40 - c / 8 % 40) (by omega) (by omega) c0 c1
    refine ⟨_,rfl,_,_,rfl,rfl,(by show (0:Int)<8;decide),l1,_,_,_,rfl,rfl,O.sq 0,hv,?_⟩
    have O:=O.tail
    refine ⟨_,rfl,_,_,rfl,rfl,⟨by decide,by decide⟩,_,rfl,_,_,rfl,rfl,_,_,rfl,by omega,by omega,O.got fun lx H2 xs O e=>?_⟩
    obtain ⟨ys,rfl,hy⟩:=e
    have hyl:ys.length=n + 2:=by rw [hy,kZ];omega
    have hyn:∀ k,0≤ys.getD k 0:=fun k=>by rw [hy];exact vo
    have hst:=za (ys.getD (0:Int).toNat 0) n
    refine ⟨_,rfl,lx,_,0,_,rfl,rfl,O.sq 0,bY (by omega) (by omega),_,_,rfl,rfl,(by show (0:Int)<2;decide),_,rfl,_,_,rfl,rfl,_,_,rfl,_,_,rfl,rfl,.inl ⟨by omega,by omega⟩,_,_,rfl,rfl,?_⟩
    dsimp only
    generalize (1 + ys.getD (0:Int).toNat 0 % 2 * (if ((n:Int) - 2) > 0 then ((n:Int) - 2) else 0))=st at hst
    have nn:(0:Int)<(n:Int):=by omega
    refine ⟨_,rfl,(n:Int),rfl,by omega,by omega,fun acc hacc=>?_⟩
    refine p7 (fun i τ H'=>Iv (∃ (v0:Option V),τ=[v0,some (.int (n:Int)),some (.ref lx),some (.int st)]∧Ow T H H' [(acc,.lst ((Rv.spots n (ys.getD (1:Int).toNat 0) st i).map V.int)),(lx,.lst (ys.map V.int))])) ⟨trivial,none,rfl,O.mk' hacc rfl⟩ ?_ ?_
    · rintro i τ H3 hi ⟨-,v0,rfl,O⟩
      rw [show (0:Int) + (i:Int)=(i:Int) by omega]
      refine yD ?_
      refine ⟨_,rfl,lx,_,1,_,rfl,rfl,O.sq 1,bY (by omega) (by omega),_,rfl,_,rfl,_,_,rfl,rfl,.inl ⟨by omega,by omega⟩,_,_,rfl,rfl,_,rfl,_,_,rfl,rfl,nn,?_⟩
      refine ⟨_,O.get 0,aQ (by rw [List.length_map,Rv.zf];omega),?_⟩
      walk_at "pt"
      refine ⟨trivial,_,rfl,?_⟩
      rw [Rv.xM,List.map_append];exact O
    rintro τ H3 ⟨-,v0,rfl,O⟩
    rw [Int.toNat_natCast] at O
    generalize ys.getD (1:Int).toNat 0=x1 at O
    refine ⟨_,rfl,szl,fun l2 h2=>?_⟩
    walk_at "nw"
    refine ⟨_,rfl,l2,_,_,rfl,rfl,O.get 0,by omega,by omega,ig (by rw [Int.toNat_natCast];simp;omega),fun lb hlb=>?_⟩
    walk_at "nw"
    rw [Int.toNat_natCast,iH] at O
    have O:=O.two
    refine ⟨_,rfl,1,(n:Int),rfl,⟨by omega,by omega,by omega,by omega⟩,?_⟩
    rw [show ((n:Int) - 1).toNat=n - 1 by omega]
    refine tL (n:=n - 1) (fun i σ H'=>Iv (∃ (v6 v7:Option V) (b:List Int),σ=[some (.int c),some (.int (n:Int)),some (.ref lx),some (.int st),some (.ref acc),some (.ref lb),v6,v7]∧Rv.Lnk n (Rv.spot n x1 st) (i + 1) b ∧
      Ow T H H' [(lb,.lst (b.map V.int)),(acc,.lst ((Rv.spots n x1 st n).map V.int)),(lx,.lst (ys.map V.int))])) ⟨trivial,none,none,_,rfl,Rv.Lnk.start _ _,O⟩ ?_ ?_
    · rintro i σ H3 hi ⟨-,v6,v7,b,rfl,L,O⟩
      rw [show (1:Int) + (i:Int)=((i + 1:Nat):Int) by omega]
      have hz:0≤ys.getD (((i + 1:Nat):Int) + 1).toNat 0:=hyn _
      refine ⟨_,rfl,_,rfl,_,_,rfl,rfl,lx,_,_,_,rfl,rfl,O.sq 2,bY (by omega) (by omega),?_⟩
      generalize ys.getD (((i + 1:Nat):Int) + 1).toNat 0=z at hz
      refine ⟨_,rfl,_,_,rfl,rfl,(by show (0:Int)<7;decide),_,_,rfl,rfl,_,rfl,ifD (fun hc=>?_) fun hc=>?_⟩
      · have m0:=Int.emod_nonneg (z / 14) (show ((i + 1:Nat):Int)≠0 by omega)
        have m1:=Int.emod_lt_of_pos (z / 14) (show (0:Int)<((i + 1:Nat):Int) by omega)
        obtain ⟨j,hj,hjk⟩:=Mi (x:=((i + 1:Nat):Int) - 1) (y:=z / 14 % ((i + 1:Nat):Int)) (w:=z / 7 % 2) (by omega) (by omega) (by omega) m0 (k:=i + 1) (by omega) m1
        refine ⟨_,rfl,_,rfl,_,_,rfl,rfl,_,rfl,_,_,rfl,rfl,⟨by decide,by decide⟩,_,rfl,_,_,rfl,rfl,(by show (0:Int)<((i + 1:Nat):Int);omega),szl,fun l3 h3=>?_⟩
        walk_at "nw"
        refine ⟨_,rfl,_,_,rfl,rfl,⟨by decide,by decide⟩,_,_,rfl,rfl,(by show (0:Int)<2;decide),l3,_,_,_,rfl,rfl,O.sq 0,hj,acc,_,_,_,rfl,rfl,O.sq 2,eO (Rv.vR (by omega)),?_⟩
        have O:=O.tail
        have s0:=Rv.uK (x:=x1) (s:=st) nn (i + 1)
        have s1:=Rv.uL (x:=x1) (s:=st) nn (i + 1)
        refine ⟨_,rfl,_,rfl,_,rfl,acc,_,_,_,rfl,rfl,O.sq 1,eO (Rv.vR (by omega)),lb,_,_,_,rfl,rfl,O.get 0,SM s0 (by rw [List.length_map,L.len];exact s1),?_⟩
        walk_at "pt"
        refine ⟨trivial,_,_,_,rfl,L.turn (by omega) hjk s0,?_⟩
        rw [List.map_set];exact O
      · exact ⟨trivial,_,_,b,rfl,L.skip,O⟩
    · rintro σ H3 ⟨-,v6,v7,b,rfl,L,O⟩
      refine ⟨_,rfl,O.ret 0 rfl q ⟨b,rfl,L.R7 (Rv.uK nn) (Rv.uL nn) (fun j k hj hk h=>Rv.vU nn hst (by omega) (by omega) h) n1,by rw [L.len];exact n1,by rw [L.len];exact n40⟩⟩
theorem Sg {x y z w:Int} (hx:0≤x) (hy:0≤y) (hz:0≤z) (h0:0≤w) (h1:w<3):∃ v,atI [V.int x,V.int y,V.int z] w=some (V.int v)∧0≤v:=by
  rcases (by omega:w=0∨w=1∨w=2) with e | e | e <;> subst e
  · exact ⟨x,rfl,hx⟩
  · exact ⟨y,rfl,hy⟩
  · exact ⟨z,rfl,hz⟩
theorem qN {s:List Int} {v:Int} (h:∀ x∈s,0≤x) (hv:0≤v):∀ x∈s++[v],0≤x:=fun x hx=>by
  rcases List.mem_append.mp hx with e | e
  · exact h x e
  · have:x=v:=by simpa using e
    rw [this];exact hv
theorem Er {c:Int} {n:Nat} {x:Int} (h:x∈Cy c n):0≤x∧x<4294967291:=by
  obtain ⟨i,_,rfl⟩:=List.mem_map.mp h
  exact ⟨JZ _ _,Q9 _ _⟩
abbrev bR:Stmt:=top 42
theorem iG:aU ["cell","size","kind","found","x"] ["cell","size","kind"] (ao bR):=⟨rfl,rfl,rfl,by decide +kernel,rfl,by decide +kernel,by decide +kernel⟩
def pL (T:gk):Sp:=fun vs H Q _=>∃ (c kd:Int) (n:Nat),vs=[.int c,.int (n:Int),.int kd]∧n≤900∧TabsOk T H∧jF T H (fun xs=>∃ s:List Int,xs=s.map V.int∧s.length=n∧∀ x∈s,0≤x) Q
theorem xY {f f1:Addr} {fd fd1:FuncData} (D:Df K mg "_law_springs" bR ["cell","size","kind"] f fd) (B:Blt mg)
    (aM:Df K mg "_law_mixed" bx ["cell","many"] f1 fd1) (dR:bZ P w K mg base CX0 2 f1 fd1 ["cell","many"] nF):bZ P w K mg base CX0 3 f fd ["cell","size","kind"] (pL T):=by
  refine D.F.ok iG (fun vs H Q E h=>?_) (fun cdv A outer s H vs Q E hr h=>?_)
  · obtain ⟨_,_,_,rfl,_⟩:=h;rfl
  · obtain ⟨c,kd,n,rfl,hn,tk,q⟩:=h
    refine ⟨_,(au (aN (i:=3) iG.nd rfl (Or.inl rfl) (gM aq))
      (au (gq PassesOwn.never rfl (bM (aF dR (hr.mono (by decide)) rfl aM.m aM.F.kp aM.b .nil bH (ak (pv 0) (ak (pv 1) aq)))) (aG (i:=4) iG.nd rfl (Or.inl rfl))
        (aD (jX (dF u5 (pv 2) aA (d9 _))
          (aD (gY (o7 PySem.F.plainAttrs_list PySem.F.slot_list_append PySem.F.type_list_append eE (pv 3) (ak (aL cD (pv 4) aA) aq))))
          (aD (jX (dF u5 (pv 2) aA (d9 _))
            (aD (gY (o7 PySem.F.plainAttrs_list PySem.F.slot_list_append PySem.F.type_list_append eE (pv 3) (ak (aL cD (aL dh (pv 0) (aL gO (pv 4) aA)) (aL dh (aL sV aA aA) aA)) aq))))
            (aD (gY (o7 PySem.F.plainAttrs_list PySem.F.slot_list_append PySem.F.type_list_append eE (pv 3) (ak (bC aR (gM (ak aA (ak aA (ak (aL cD (aL gO (pv 4) aA) (aL dh (aL sV aA aA) aA)) aq)))) (aL cD (aL jA (pv 4) aA) aA) (fun _ _=>rfl)) aq)))))))))
      (aD (bA (pv 3))))),?_⟩
    refine RZ ?_
    intro zu0 zu1 zu2 zu3 zu4 zu5 zu6
    have O:=Ow.refl tk
    refine ⟨szl,fun lf hlf=>?_⟩
    walk_at "nw"
    refine ⟨_,rfl,_,rfl,c,_,rfl,by omega,by omega,O.got fun lx H2 xs O e=>?_⟩
    obtain ⟨ys,rfl,hy⟩:=e
    have hyl:ys.length=n:=by rw [hy,kZ];omega
    refine ⟨lx,rfl,⟨_,O.sq 0⟩,?_⟩
    refine dX (K:=K) (xs:=ys.map V.int) (fun i σ H'=>Iv (∃ (v4:Option V) (s:List Int),σ=[some (.int c),some (.int (n:Int)),some (.int kd),some (.ref lf),v4]∧s.length=i∧(∀ x∈s,0≤x)∧Ow T H H' [(lx,.lst (ys.map V.int)),(lf,.lst (s.map V.int))]))
      ⟨trivial,none,[],rfl,rfl,(fun x hx=>nomatch hx),O⟩ (fun i σ H' _ ⟨_,_,_,_,_,_,O⟩=>O.sq 0) ?_ ?_
    · rintro i y σ H3 hy' ⟨-,v4,s,rfl,hs,hsn,O⟩
      obtain ⟨z,hz,rfl⟩:=ints_get hy'
      have hi:=(List.getElem?_eq_some_iff.mp hz).1
      obtain ⟨z0,z1⟩:0≤z∧z<4294967291:=Er (by rw [← hy];exact List.mem_of_getElem? hz)
      walk_at "go"
      · walk_at "app"
        rw [mZ] at O
        exact ⟨trivial,_,_,rfl,by rw [List.length_append,hs];rfl,qN hsn (Int.emod_nonneg _ (by decide)),O⟩
      · walk_at "app"
        rw [mZ] at O
        exact ⟨trivial,_,_,rfl,by rw [List.length_append,hs];rfl,qN hsn (Int.emod_nonneg _ (by decide)),O⟩
      · intro l3 h3
        walk_at "nw"
        have m0:0≤z * 7919 % (10 ^ (12:Int).toNat + 1):=Int.emod_nonneg _ (by decide)
        obtain ⟨v,hv,v0⟩:=Sg (x:=0) (y:=3) (z:=z * 7919 % (10 ^ (12:Int).toNat + 1)) (w:=z / 5 % 3) (by decide) (by decide) m0 (by omega) (by omega)
        refine ⟨_,rfl,_,_,rfl,rfl,⟨by decide,by decide⟩,_,_,rfl,rfl,(by show (0:Int)<3;decide),l3,_,_,_,rfl,rfl,O.sq 0,hv,?_⟩
        have O:=O.tail
        walk_at "app"
        rw [mZ] at O
        exact ⟨trivial,_,_,rfl,by rw [List.length_append,hs];rfl,qN hsn v0,O⟩
    · rintro σ H3 ⟨-,v4,s,rfl,hs,hsn,O⟩
      rw [List.length_map] at hs
      exact ⟨_,rfl,O.ret 1 rfl q ⟨s,rfl,by omega,hsn⟩⟩
abbrev dU:Stmt:=top 43
theorem jW:aU ["below","reach","way"] ["below","reach"] (ao dU):=⟨rfl,rfl,rfl,by decide +kernel,rfl,by decide +kernel,by decide +kernel⟩
def uM (K:PySem.W.Frag) (T:gk):Sp:=fun vs H Q _=>∃ (a:Addr) (r:List Int) (p:Int),vs=[.ref a,.int p]∧SqL K H a (r.map V.int)∧Rv.cG r∧0≤p∧p<r.length∧r.length≤900∧TabsOk T H∧jF T H (fun xs=>xs=(Rv.walk r p).map V.int) Q
theorem Ku {f:Addr} {fd:FuncData} {T:gk} (D:Df K mg "_law_way" dU ["below","reach"] f fd):bZ P w K mg base CX0 1 f fd ["below","reach"] (uM K T):=by
  refine D.F.ok jW (fun vs H Q E h=>?_) (fun cdv A outer s H vs Q E hr h=>?_)
  · obtain ⟨a,r,p,rfl,_⟩:=h;rfl
  · obtain ⟨a,r,p,rfl,hS,hR,p0,p1,hn,tk,q⟩:=h
    refine ⟨_,(au (aN (i:=2) jW.nd rfl (Or.inl rfl) (gM aq))
      (au (qI PassesOwn.never (dF uZ (pv 1) (xV pH aA) (d9 _))
        (au (gY (o7 PySem.F.plainAttrs_list PySem.F.slot_list_append PySem.F.type_list_append eE (pv 2) (ak (pv 1) aq)))
        (aD (aN (i:=1) jW.nd rfl (Or.inl rfl) (bC aR (pv 0) (pv 1) (fun _ _=>rfl))))))
      (aD (bA (pv 2))))),?_⟩
    refine RX ?_
    intro zu0 zu1 zu2 zu3
    have O:=Ow.refl tk
    refine ⟨szl,fun lw hlw=>?_⟩
    walk_at "nw"
    refine ⟨fun m σ H2=>∃ (pre:List Int) (z:Int),σ=[some (.ref a),some (.int z),some (.ref lw)]∧Ow T H H2 [(lw,.lst (pre.map V.int))]∧(z=-1∨(0≤z∧z<r.length))∧pre++Rv.walk r z=Rv.walk r p∧m=Rv.mea r z,
      ⟨_,[],p,rfl,O,.inr ⟨p0,p1⟩,rfl,rfl⟩,?_⟩
    rintro m σ H2 ⟨pre,z,rfl,O,hz,e,rfl⟩
    refine ⟨_,rfl,_,rfl,rfl,_,rfl,?_⟩
    rcases hz with rfl | ⟨z0,z1⟩
    · refine K1 rfl ?_
      rw [Rv.fJ,List.append_nil] at e
      exact ⟨_,rfl,O.ret 0 rfl q (by rw [e])⟩
    · have hd:(!decide (V.int z=V.int (-1)))=true:=by
        have:¬ z=-1:=by omega
        simp [this]
      rw [hd]
      refine KZ ?_
      have hlen:pre.length + (Rv.walk r z).length≤r.length + 1:=by
        have:=Rv.j6 r p
        rw [← e,List.length_append] at this;exact this
      refine ⟨fun σ' H'=>∃ m',m'<Rv.mea r z∧∃ (pre:List Int) (z:Int),σ'=[some (.ref a),some (.int z),some (.ref lw)]∧Ow T H H' [(lw,.lst (pre.map V.int))]∧(z=-1∨(0≤z∧z<r.length))∧pre++Rv.walk r z=Rv.walk r p∧m'=Rv.mea r z,fun _ _ x=>x,?_⟩
      have g:=Rv.jB z0 z1
      refine ⟨_,rfl,.inl ⟨rfl,_,O.sq 0⟩,_,rfl,lw,_,_,rfl,rfl,O.get 0,aQ (by rw [List.length_map];omega),?_⟩
      walk_at "pt"
      refine ⟨_,rfl,_,rfl,a,_,_,_,rfl,rfl,O.same.seq hS,kO z0 g,?_⟩
      refine ⟨_,Rv.Gb hR z0 z1,pre++[z],Rv.nxt r z,rfl,?_,hR.step z0 z1,?_,rfl⟩
      · rw [List.map_append];exact O
      · rw [List.append_assoc]
        show pre++(z :: Rv.walk r (Rv.nxt r z))=_
        rw [← Rv.bB hR z0 z1];exact e
abbrev cU:Stmt:=top 45
theorem cW:aU ["cell","size","far","kind","xs","most","call"] ["cell","size","far","kind"] (ao cU):=⟨rfl,rfl,rfl,by decide +kernel,rfl,by decide +kernel,by decide +kernel⟩
def wu (T:gk):Sp:=fun vs H Q _=>∃ (c far kd:Int) (n:Nat),vs=[.int c,.int (n:Int),.int far,.int kd]∧1≤n∧n≤900∧0≤far∧TabsOk T H ∧
  ∀ (t t2:Addr) (H':Hp) (l:Lic) (ca:Int),Ow T H H' [(t,.tup [.ref t2,.int ca]),(t2,.tup (Cu l))]→0≤l.start→l.start<(n:Int)→l.back=-1→0≤l.most→0≤l.day→0≤ca→Q (.ref t) H'
theorem Dy {f f1:Addr} {fd fd1:FuncData} (D:Df K mg "_law_drawn" cU ["cell","size","far","kind"] f fd) (B:Blt mg)
    (aM:Df K mg "_law_mixed" bx ["cell","many"] f1 fd1) (dR:bZ P w K mg base CX0 2 f1 fd1 ["cell","many"] nF):bZ P w K mg base CX0 3 f fd ["cell","size","far","kind"] (wu T):=by
  refine D.F.ok cW (fun vs H Q E h=>?_) (fun cdv A outer s H vs Q E hr h=>?_)
  · obtain ⟨_,_,_,_,rfl,_⟩:=h;rfl
  · obtain ⟨c,far,kd,n,rfl,n1,n9,hfar,tk,q⟩:=h
    refine ⟨_,(au (aN (i:=4) cW.nd rfl (Or.inl rfl) (aF dR (hr.mono (by decide)) rfl aM.m aM.F.kp aM.b .nil bH (ak (pv 0) (ak aA aq))))
      (au (aN (i:=5) cW.nd rfl (Or.inl rfl) (aL cD (bC aR (pv 4) aA (fun _ _=>rfl)) aA))
      (au (aN (i:=6) cW.nd rfl (Or.inl rfl) (aL cD (bC aR (pv 4) aA (fun _ _=>rfl)) aA))
      (nP (jX (dF Dq (pv 3) aA (d9 _))
        (au (aN (i:=5) cW.nd rfl (Or.inl rfl) (aL cD (aL dh (aL gO (pv 0) aA) (aL gO (bC aR (pv 4) aA (fun _ _=>rfl)) aA)) (aL dh (aL sV aA aA) aA)))
        (aD (aN (i:=6) cW.nd rfl (Or.inl rfl) (aL cD (aL gO (bC aR (pv 4) aA (fun _ _=>rfl)) aA) (aL dh (aL sV aA aA) aA)))))
        gB)
      (nP (jX (dF u5 (aL cD (bC aR (pv 4) aA (fun _ _=>rfl)) aA) aA (d9 _))
        (aD (aN (i:=6) cW.nd rfl (Or.inl rfl) (aL sV aA aA)))
        gB)
      (aD (bA (pP (ak (pP (ak (aL gO (aL cD (bC aR (pv 4) aA (fun _ _=>rfl)) aA) (pv 2)) (ak (aL cD (bC aR (pv 4) aA (fun _ _=>rfl)) (pv 1)) (ak (xV pH aA) (ak (pv 5) aq))))) (ak (pv 6) aq)))))))))),?_⟩
    refine RW ?_
    intro zu0 zu1 zu2 zu3 zu4 zu5 zu6 zu7
    have O:=Ow.refl tk
    have s0:=O.same
    refine ⟨_,rfl,c,6,rfl,by omega,by omega,O.got fun lx H2 xs O e=>?_⟩
    obtain ⟨ys,rfl,hy⟩:=e
    have hyl:ys.length=6:=by rw [hy,kZ];rfl
    have hyn:∀ k,0≤ys.getD k 0:=fun k=>by rw [hy];exact vo
    have nn:(0:Int)<(n:Int):=by omega
    clear hy
    walk_at "w"
    have a0:0≤ys.getD (3:Int).toNat 0 % 7:=Int.emod_nonneg _ (by decide)
    have a1:0≤ys.getD (4:Int).toNat 0 % 7:=Int.emod_nonneg _ (by decide)
    refine ⟨fun σ H'=>Iv (∃ (mo ca:Int),σ=[some (.int c),some (.int (n:Int)),some (.int far),some (.int kd),some (.ref lx),some (.int mo),some (.int ca)]∧0≤mo∧0≤ca∧H'=H2),?_,?_⟩
    · walk_at "go"
      · exact ⟨trivial,_,_,rfl,Int.emod_nonneg _ (by decide),Int.emod_nonneg _ (by decide),rfl⟩
      · exact ⟨trivial,_,_,rfl,a0,a1,rfl⟩
    rintro σ H3 ⟨-,mo,ca,rfl,m0,ca0,rfl⟩
    refine ⟨fun σ H'=>Iv (∃ (ca:Int),σ=[some (.int c),some (.int (n:Int)),some (.int far),some (.int kd),some (.ref lx),some (.int mo),some (.int ca)]∧0≤ca∧H'=H3),?_,?_⟩
    · walk_at "go"
      · exact ⟨trivial,_,rfl,by decide,rfl⟩
      · exact ⟨trivial,_,rfl,ca0,rfl⟩
    rintro σ H4 ⟨-,ca,rfl,ca0,rfl⟩
    have d0:0≤ys.getD (0:Int).toNat 0 % 4 * far:=Int.mul_nonneg (Int.emod_nonneg _ (by decide)) hfar
    have p0:=Int.emod_nonneg (ys.getD (1:Int).toNat 0) (show (n:Int)≠0 by omega)
    have p1:=Int.emod_lt_of_pos (ys.getD (1:Int).toNat 0) nn
    walk_at "w"
    intro t2 h2
    walk_at "nw"
    walk_at "w"
    intro t ht
    walk_at "nw"
    have O:=O.del 2
    walk_at "er"
    exact q t t2 _ ⟨_,_,_,_⟩ ca O p0 p1 rfl m0 d0 ca0
def stL (ls:List Lic):Nat→Int:=fun k=>(ls[k]?.map Lic.start).getD 0
theorem Ly {ls:List Lic} {k:Nat} {l:Lic} (h:ls[k]?=some l):stL ls k=l.start:=by unfold stL;rw [h];rfl
def Ln (r:List Int) (l:Lic):Prop:=oV r l∧0≤l.day∧l.back=-1
theorem Ln.mk' {r:List Int} {l:Lic} (h0:0≤l.start) (h1:l.start<(r.length:Int)) (hb:l.back=-1) (hm:0≤l.most) (hd:0≤l.day):Ln r l:=⟨⟨⟨h0,h1,.inl hb⟩,hm⟩,hd,hb⟩
theorem Av {P:Lic→Prop} {ls:List Lic} {l:Lic} (h:∀ l∈ls,P l) (hl:P l):∀ x∈ls++[l],P x:=fun x hx=>by
  rcases List.mem_append.mp hx with e | e
  · exact h x e
  · have:x=l:=by simpa using e
    rw [this];exact hl
theorem Ep {ls:List Lic} {cs:List Int} {k:Nat} {l:Lic} (hl:ls[k]?=some l) (hlc:ls.length=cs.length):Tn.fX (dH ls cs) k=min (cs.getD k 0) l.most:=by
  have hk:=(List.getElem?_eq_some_iff.mp hl).1
  unfold Tn.fX
  rw [List.getD_eq_getElem?_getD,yM hl (bI (ns:=cs) (by omega))];rfl
theorem nY {l:List Int} (nd:l.Nodup) {i:Nat} {z:Int} (hz:l[i]?=some z):¬ z∈l.take i:=fun hmm=>by
  obtain ⟨h1,h2⟩:=List.getElem?_eq_some_iff.mp hz
  obtain ⟨j,hj,ej⟩:=List.getElem_of_mem hmm
  rw [List.getElem_take] at ej
  rw [List.length_take] at hj
  have:=(List.getElem_inj nd).mp (ej.trans h2.symm)
  omega
abbrev bT:Stmt:=top 44
theorem dJ:aU ["below","springs","flow","reach","rises","low"] ["below","springs"] (ao bT):=⟨rfl,rfl,rfl,by decide +kernel,rfl,by decide +kernel,by decide +kernel⟩
def zp (K:PySem.W.Frag) (T:gk):Sp:=fun vs H Q _=>∃ (a b:Addr) (r s:List Int),vs=[.ref a,.ref b]∧SqL K H a (r.map V.int)∧Rv.cG r∧r.length<64∧SqL K H b (s.map V.int)∧s.length=r.length∧TabsOk T H∧jF T H (fun xs=>xs=(Rv.nats r s).map V.int) Q
theorem Kv {f fW:Addr} {fd fdW:FuncData} (D:Df K mg "_law_natural" bT ["below","springs"] f fd) (B:Blt mg) (cM:Df K mg "_law_way" dU ["below","reach"] fW fdW) (lY:bZ P w K mg base CX0 1 fW fdW ["below","reach"] (uM K T)) :
    bZ P w K mg base CX0 2 f fd ["below","springs"] (zp K T):=by
  refine D.F.ok dJ (fun vs H Q E h=>?_) (fun cdv A outer s H vs Q E hr h=>?_)
  · obtain ⟨_,_,_,_,rfl,_⟩:=h;rfl
  · obtain ⟨a,b,r,sp,rfl,hS,hR,h64,hB,hl,tk,q⟩:=h
    refine ⟨_,(au (aN (i:=2) dJ.nd rfl (Or.inl rfl) (aL nW (gM (ak aA aq)) (aH aK rfl B.len PySem.boot_len (ak (pv 0) aq))))
      (au (gq PassesOwn.never rfl (uW rfl B.enumerate (ak (pv 1) aq)) (nT rfl (aZ (aG (i:=3) dJ.nd rfl (Or.inl rfl)) (aZ (aG (i:=4) dJ.nd rfl (Or.inl rfl)) iI)))
        (aD (gq PassesOwn.never rfl (bM (aF lY (hr.mono (by decide)) rfl cM.m cM.F.kp cM.b .nil bH (ak (pv 0) (ak (pv 3) aq)))) (aG (i:=5) dJ.nd rfl (Or.inl rfl))
          (aD (mH (aL dh (bC aR (pv 2) (pv 5) (fun _ _=>rfl)) (pv 4)) (sS (pv 2) (pv 5) set_list))))))
      (aD (bA (pv 2))))),?_⟩
    refine RP ?_
    intro zu0 zu1 zu2 zu3
    have hml:(r.map V.int).length=r.length:=List.length_map _
    have O:=Ow.refl tk
    refine ⟨szl,fun l0 hl0=>?_⟩
    walk_at "nw"
    refine ⟨_,rfl,a,_,rfl,.inl (O.same.seq hS),l0,_,_,rfl,rfl,O.get 0,by rw [hml];omega,by rw [hml];omega,ig (by rw [hml,Int.toNat_natCast];simp;omega),fun ld hld=>?_⟩
    walk_at "nw"
    rw [hml,Int.toNat_natCast,iH] at O
    have O:=O.two
    refine ⟨_,rfl,b,_,rfl,O.same.seq hB,?_⟩
    refine Eo (K:=K) (xs:=sp.map V.int) (fun t σ H3=>Iv (∃ (v3 v4 v5:Option V) (fl:List Int),σ=[some (.ref a),some (.ref b),some (.ref ld),v3,v4,v5]∧Ow T H H3 [(ld,.lst (fl.map V.int))]∧Rv.Fl r.length fl (Rv.wsum r sp t)))
      ⟨trivial,none,none,none,_,rfl,O,(Rv.Fl.rep r.length 0).uz fun i _=>rfl⟩ (fun _ _ _ _ ⟨_,_,_,_,_,_,O,_⟩=>O.same.seq hB) ?_ ?_
    · rintro t y t' σ H3 hy ⟨-,v3,v4,v5,fl,rfl,O,FL⟩ ht'
      obtain ⟨u,hu,rfl⟩:=ints_get hy
      have ht:=(List.getElem?_eq_some_iff.mp hu).1
      have eu:u=sp.getD t 0:=by rw [List.getD_eq_getElem?_getD,hu];rfl
      walk_at "nw"
      refine ⟨t',_,rfl,O.sqT 0,rfl,_,_,rfl,_,_,rfl,rfl,?_⟩
      have O:=O.tail
      refine ⟨_,rfl,_,rfl,a,r,(t:Int),rfl,O.same.seq hS,hR,by omega,by omega,by omega,O.same.t1,O.pX fun lw H4 ws O ew=>?_⟩
      subst ew
      refine ⟨lw,rfl,⟨_,O.sq 0⟩,?_⟩
      refine dX (K:=K) (a:=lw) (xs:=(Rv.walk r (t:Int)).map V.int) (fun i σ H5=>Iv (∃ (v5:Option V) (fl:List Int),σ=[some (.ref a),some (.ref b),some (.ref ld),some (.int (t:Int)),some (.int u),v5] ∧
        Ow T H H5 [(lw,.lst ((Rv.walk r (t:Int)).map V.int)),(ld,.lst (fl.map V.int))]∧Rv.MvI r (Rv.wsum r sp t) (-(sp.getD t 0)) ((Rv.walk r (t:Int)).take i) fl))
        ⟨trivial,v5,fl,rfl,O,Rv.MvI.start _ FL⟩ (fun _ _ _ _ ⟨_,_,_,_,O,_⟩=>O.sq 0) ?_ ?_
      · rintro i y σ H5 hy ⟨-,v5,fl,rfl,O,MI⟩
        obtain ⟨z,hz,rfl⟩:=ints_get hy
        obtain ⟨z0,z1⟩:=Rv.jk hR (t:Int) (by omega) (by omega) z (List.mem_of_getElem? hz)
        obtain ⟨zn,rfl⟩:=Int.eq_ofNat_of_zero_le z0
        have hzl:zn<r.length:=by omega
        obtain ⟨x,hx⟩:∃ x,fl[zn]?=some x:=⟨_,MI.at_ zn hzl⟩
        refine ⟨_,rfl,_,rfl,ld,_,_,_,rfl,rfl,O.sq 1,eO hx,_,rfl,_,_,rfl,rfl,_,rfl,_,rfl,?_⟩
        refine zV O 1 rfl (jd (by rw [List.length_map,MI.len];exact hzl)) fun H6 O=>?_
        refine ⟨trivial,_,fl.set zn (x + u),rfl,?_,?_⟩
        · rw [List.map_set];exact O
        · rw [List.take_add_one,hz,eu,show x + sp.getD t 0=x - -(sp.getD t 0) by omega]
          exact MI.turn hzl (nY (Rv.ql hR (by omega) (by omega)) hz) hx
      · rintro σ H5 ⟨-,v5,fl,rfl,O,MI⟩
        rw [List.length_map,List.take_length] at MI
        exact ⟨trivial,_,_,_,fl,rfl,O.tail,Rv.yI MI⟩
    rintro σ H3 ⟨-,v3,v4,v5,fl,rfl,O,FL⟩
    rw [List.length_map,hl] at FL
    have e:fl=Rv.nats r sp:=Rv.Fl.ext (g:=fun i=>Rv.mL r sp (i:Int)) FL (Rv.jY r sp)
    exact ⟨_,rfl,O.ret 0 rfl q (by rw [e])⟩
theorem pJ {α:Type} {xs:List α} {i:Nat} {z:α} (h:xs[i]?=some z):xs.take (i + 1)=xs.take i++[z]:=by rw [List.take_succ,h];rfl
abbrev cC:Stmt:=top 46
theorem bf:aU ["below","springs","roll","calls","cell","free","takes","xs","step","k","number","way","take","reach"] ["below","springs","roll","calls","cell"] (ao cC):=⟨rfl,rfl,rfl,by decide +kernel,rfl,by decide +kernel,by decide +kernel⟩
def FJ (K:PySem.W.Frag) (T:gk):Sp:=fun vs H Q _=>∃ (a b c:Addr) (v:V) (cell:Int) (r s:List Int) (ls:List Lic) (cs:List Int),vs=[.ref a,.ref b,v,.ref c,.int cell]∧SqL K H a (r.map V.int)∧Rv.cG r∧r.length<64∧SqL K H b (s.map V.int)∧s.length=r.length∧(∀ x∈s,0≤x)∧Den K H v (pq ls)∧ls.length<64∧SqL K H c (cs.map V.int)∧ls.length=cs.length∧(∀ l∈ls,Ln r l)∧(∀ c∈cs,0≤c)∧TabsOk T H ∧
  jF T H (fun ys=>∃ xs,ys=xs.map V.int∧xs.length=ls.length∧Tn.Fit ls.length (Tn.fF (Rv.nats r s)) (oZ r ls) (Tn.fX (dH ls cs)) (Tn.fX xs)) Q
theorem Ms {f f1 f2 f3:Addr} {fd fd1 fd2 fd3:FuncData} (D:Df K mg "_law_rival" cC ["below","springs","roll","calls","cell"] f fd) (B:Blt mg)
    (dD:Df K mg "_law_natural" bT ["below","springs"] f1 fd1) (pF:bZ P w K mg base CX0 2 f1 fd1 ["below","springs"] (zp K T))
    (cM:Df K mg "_law_way" dU ["below","reach"] f2 fd2) (lY:bZ P w K mg base CX0 1 f2 fd2 ["below","reach"] (uM K T))
    (aM:Df K mg "_law_mixed" bx ["cell","many"] f3 fd3) (dR:bZ P w K mg base CX0 2 f3 fd3 ["cell","many"] nF):bZ P w K mg base CX0 3 f fd ["below","springs","roll","calls","cell"] (FJ K T):=by
  refine D.F.ok bf (fun vs H Q E h=>?_) (fun cdv A outer s H vs Q E hr h=>?_)
  · obtain ⟨_,_,_,_,_,_,_,_,_,rfl,_⟩:=h;rfl
  · obtain ⟨a,b,c,v,cell,r,sp,ls,cs,rfl,hA,hR,h64,hB,hsl,hsn,hd,hl64,hC,hlc,ok,hcn,tk,q⟩:=h
    obtain ⟨va,vs,rfl,hV,d0⟩:=hd.fY
    have hvl:vs.length=ls.length:=by rw [d0.length,List.length_map]
    refine ⟨_,(au (aN (i:=5) bf.nd rfl (Or.inr rfl) (aF pF (hr.mono (by decide)) rfl dD.m dD.F.kp dD.b .nil bH (ak (pv 0) (ak (pv 1) aq))))
      (au (aN (i:=6) bf.nd rfl (Or.inl rfl) (aL nW (gM (ak aA aq)) (aH aK rfl B.len PySem.boot_len (ak (pv 2) aq))))
      (au (aN (i:=7) bf.nd rfl (Or.inl rfl) (aF dR (hr.mono (by decide)) rfl aM.m aM.F.kp aM.b .nil bH (ak (pv 4) (ak (aL dh (aH aK rfl B.len PySem.boot_len (ak (pv 2) aq)) aA) aq))))
      (au (aN (i:=8) bf.nd rfl (Or.inl rfl) (aL dh aA (aL gO (aL cD (bC aR (pv 7) aA (fun _ _=>rfl)) aA) (aH (oR rfl) rfl B.max PyProof.Rows.boot_max (ak aA (ak (aL mK (aH aK rfl B.len PySem.boot_len (ak (pv 2) aq)) aA) aq))))))
      (au (gq PassesOwn.never rfl (nQ rfl B.range (ak (aH aK rfl B.len PySem.boot_len (ak (pv 2) aq)) aq)) (aG (i:=9) bf.nd rfl (Or.inl rfl))
        (au (aN (i:=10) bf.nd rfl (Or.inl rfl) (aL cD (aL dh (bC aR (pv 7) aA (fun _ _=>rfl)) (aL gO (pv 8) (pv 9))) (aH aK rfl B.len PySem.boot_len (ak (pv 2) aq))))
        (au (aN (i:=11) bf.nd rfl (Or.inl rfl) (aF lY (hr.mono (by decide)) rfl cM.m cM.F.kp cM.b .nil bH (ak (pv 0) (ak (bC oA (bC aR (pv 2) (pv 10) (fun _ _=>rfl)) aA (fun _ _=>rfl)) aq))))
        (au (aN (i:=12) bf.nd rfl (Or.inl rfl) (aH (oO rfl) rfl B.min PyProof.Rows.boot_min (ak (aH (oO rfl) rfl B.min PyProof.Rows.boot_min (ak (bC aR (pv 3) (pv 10) (fun _ _=>rfl)) (ak (bC oA (bC aR (pv 2) (pv 10) (fun _ _=>rfl)) aA (fun _ _=>rfl)) aq))) (ak (aH (BZ rfl) rfl B.min PyProof.Rows.boot_min (ak (fU (ao cC) rfl ["below","springs","roll","calls","cell","free","takes","xs","step","k","number","way","take","reach"] rfl ["reach","free"] [none,some 5] (by decide +kernel) (by decide +kernel) (by decide +kernel) rfl (bM (pv 11)) (fun _ _ _=>(aG (i:=0) (show (["reach","free"]:List Str).Nodup by decide +kernel) rfl (Or.inl rfl))) (fun _ _ _=>fQ) (fun _ _ _=>(bC (fZ (K:=K) rfl) (pv 1) (pv 0) (fun _ _=>rfl)))) aq)) aq))))
        (nP (jX (dF u5 (aL cD (bC aR (pv 7) (aL dh (pv 9) aA) (fun _ _=>rfl)) aA) aA (d9 _))
          (aD (aN (i:=12) bf.nd rfl (Or.inl rfl) (aL mK (pv 12) (aL cD (aL cD (aL jA (bC aR (pv 7) (aL dh (pv 9) aA) (fun _ _=>rfl)) aA) aA) (aL dh (pv 12) aA)))))
          gB)
        (au (mH (pv 12) (sS (pv 6) (pv 10) set_list))
        (aD (gq PassesOwn.never rfl (bM (pv 11)) (aG (i:=13) bf.nd rfl (Or.inl rfl))
          (aD (mH (aL mK (bC aR (pv 5) (pv 13) (fun _ _=>rfl)) (pv 12)) (sS (pv 5) (pv 13) set_list)))))))))))
      (aD (bA (pv 6)))))))),?_⟩
    refine RV ?_
    intro zu0 zu1 zu2 zu3 zu4 zu5 zu6 zu7 zu8 zu9 zu10 zu11 zu12
    have O:=Ow.refl tk
    refine ⟨_,rfl,_,rfl,a,b,r,sp,rfl,hA,hR,h64,hB,hsl,tk,O.pX fun lf H1 ys O e=>?_⟩
    subst e
    have hnl:(Rv.nats r sp).length=r.length:=(Rv.jY r sp).len
    have ok2:∀ l∈ls,oV r l:=fun l hl=>(ok l hl).1
    have hW:=fun k (hk:k<ls.length)=>yL hR ok2 hk
    have hwn:=rH ok2 hcn
    have hwl:=lH hlc
    refine ⟨szl,fun z0 hz0=>?_⟩
    walk_at "nw"
    refine ⟨_,rfl,va,_,rfl,.inl (O.same.seq hV),z0,_,_,rfl,rfl,O.get 0,by omega,by omega,ig (by rw [Int.toNat_natCast];simp;omega),fun lt hlt=>?_⟩
    walk_at "nw"
    rw [Int.toNat_natCast,iH,hvl] at O
    have O:=O.two
    refine ⟨_,rfl,_,rfl,va,_,rfl,.inl (O.same.seq hV),_,_,rfl,rfl,cell,_,rfl,by omega,by omega,O.got fun lx H2 xs O e=>?_⟩
    obtain ⟨ys,rfl,hy⟩:=e
    have hyl:ys.length=ls.length + 2:=by rw [hy,kZ,hvl];omega
    have hyn:∀ k,0≤ys.getD k 0:=fun k=>by rw [hy];exact vo
    clear hy
    have hst:=za (ys.getD (0:Int).toNat 0) ls.length
    refine ⟨_,rfl,lx,_,0,_,rfl,rfl,O.sq 0,bY (by omega) (by omega),_,_,rfl,rfl,(by show (0:Int)<2;decide),_,rfl,va,_,rfl,.inl (O.same.seq hV),_,_,rfl,rfl,_,_,rfl,_,_,rfl,rfl,.inl ⟨by omega,by omega⟩,_,_,rfl,rfl,?_⟩
    dsimp only
    rw [hvl]
    generalize (1 + ys.getD (0:Int).toNat 0 % 2 * (if ((ls.length:Int) - 2) > 0 then ((ls.length:Int) - 2) else 0))=st at hst
    refine ⟨_,rfl,va,_,rfl,.inl (O.same.seq hV),_,rfl,by omega,by omega,?_⟩
    rw [hvl,Int.toNat_natCast]
    generalize hx1:ys.getD (1:Int).toNat 0=x1
    refine tL (n:=ls.length) (fun i σ H'=>Iv (∃ (v9 v10 v11 v12 v13:Option V) (xs fl:List Int),σ=[some (.ref a),some (.ref b),some (.ref va),some (.ref c),some (.int cell),some (.ref lf),some (.ref lt),some (.ref lx),some (.int st),v9,v10,v11,v12,v13] ∧
      Tn.Riv ls.length (Rv.nats r sp) (oZ r ls) (Tn.fX (dH ls cs)) (Rv.spot ls.length x1 st) i xs fl∧Ow T H H' [(lx,.lst (ys.map V.int)),(lt,.lst (xs.map V.int)),(lf,.lst (fl.map V.int))]))
      ⟨trivial,none,none,none,none,none,_,_,rfl,Tn.Riv.start _ (fun k hk=>hwn _ (Tn.iQ (by omega))) (Ad hsn),O⟩ ?_ ?_
    · rintro i σ H3 hi ⟨-,v9,v10,v11,v12,v13,xs,fl,rfl,RI,O⟩
      rw [show (0:Int) + (i:Int)=(i:Int) by omega]
      have nn:(0:Int)<(ls.length:Int):=by omega
      have p0:=Rv.uK (x:=x1) (s:=st) nn i
      have p1:=Rv.uL (x:=x1) (s:=st) nn i
      refine ⟨_,rfl,lx,_,1,_,rfl,rfl,O.sq 0,bY (by omega) (by omega),_,rfl,_,rfl,_,_,rfl,rfl,.inl ⟨by omega,by omega⟩,_,_,rfl,rfl,_,rfl,va,_,rfl,.inl (O.same.seq hV),_,_,rfl,rfl,(by rw [hvl];exact nn),?_⟩
      dsimp only
      rw [hvl,hx1]
      have hsp:Rv.spot ls.length x1 st i=(x1 + st * (i:Int)) % (ls.length:Int):=rfl
      obtain ⟨j,ej⟩:=Int.eq_ofNat_of_zero_le p0
      have hj:j<ls.length:=by omega
      rw [show (x1 + st * (i:Int)) % (ls.length:Int)=(j:Int) from hsp.symm.trans ej]
      obtain ⟨al,hal,hTl⟩:=d0.wH (List.getElem?_eq_getElem hj)
      have elj:=List.getElem?_eq_getElem hj
      have hokj:=ok _ (List.getElem_mem hj)
      generalize ls[j]=l at hTl elj hokj
      have hWj:oZ r ls j=Rv.walk r l.start:=by rw [ju elj,hokj.2.2];unfold Rv.iW;rw [if_pos rfl]
      have hwk:=hW j hj
      have hwp:=List.length_pos_iff.mpr (Rv.J6 hR hokj.1.1.1 hokj.1.1.2.1)
      refine ⟨_,rfl,_,rfl,_,rfl,va,_,_,_,rfl,rfl,O.same.seq hV,iT hal,al,_,1,_,rfl,rfl,hTl.mo O.same,rfl,a,r,l.start,rfl,O.same.seq hA,hR,hokj.1.1.1,hokj.1.1.2.1,by omega,O.same.t1,O.pX fun lw H4 us O e=>?_⟩
      subst e
      rw [← hWj] at hwp O
      have hwlen:=hwk.len
      have hwm:=hwk.2
      generalize hWj':oZ r ls j=Wj at hwk hwp O hwlen hwm hWj
      have hfl:=RI.fll
      have hwant:Tn.fX (dH ls cs) j=min (cs.getD j 0) l.most:=Ep elj hlc
      refine ⟨_,rfl,_,rfl,c,_,_,_,rfl,rfl,O.same.seq hC,eO (bI (by omega)),_,rfl,_,rfl,va,_,_,_,rfl,rfl,O.same.seq hV,iT hal,al,_,3,_,rfl,rfl,hTl.mo O.same,rfl,_,_,rfl,?_⟩
      refine ⟨_,rfl,lw,rfl,⟨_,O.sq 0⟩,fun acc hacc=>?_⟩
      refine dw (K:=K) (xs:=Wj.map V.int) (fun i τ H'=>Iv (∃ (v0:Option V),τ=[v0,some (.ref lf)]∧Ow T H H' [(acc,.lst (((Wj.take i).map (Tn.fF fl)).map V.int)),(lw,.lst (Wj.map V.int)),(lx,.lst (ys.map V.int)),(lt,.lst (xs.map V.int)),(lf,.lst (fl.map V.int))]))
        ⟨trivial,none,rfl,O.mk' hacc rfl⟩ (fun i τ H' _ ⟨_,_,_,O⟩=>O.sq 1) ?_ ?_
      · rintro i' y τ H8 hy ⟨-,v0,rfl,O⟩
        obtain ⟨p,hp,rfl⟩:=ints_get hy
        have hi':=(List.getElem?_eq_some_iff.mp hp).1
        obtain ⟨p0,p1⟩:=hwm p (List.mem_of_getElem? hp)
        refine yD ?_
        refine ⟨_,rfl,_,rfl,lf,_,p,_,rfl,rfl,O.sq 4,bY p0 (by omega),?_⟩
        refine ⟨_,O.get 0,aQ (by rw [List.length_map,List.length_map,List.length_take];omega),?_⟩
        walk_at "pt"
        refine ⟨trivial,_,rfl,?_⟩
        rw [pJ hp,List.map_append,List.map_append];exact O
      rintro τ H8 ⟨-,v0,rfl,O⟩
      rw [List.length_map,List.take_of_length_le (Nat.le_refl _)] at O
      refine ⟨acc,_,rfl,O.sq 0,by rw [List.length_map];exact hwp,fun M hM hle=>?_⟩
      refine ⟨_,_,rfl,?_⟩
      rw [Bk,Bk]
      have O:=O.tail
      have M0:0≤M:=by
        obtain ⟨p,hp,rfl⟩:=List.mem_map.mp hM
        obtain ⟨p0,p1⟩:=hwm p hp
        exact RI.nn p.toNat (by omega)
      have w0:0≤min (cs.getD j 0) l.most:=by rw [← hwant];exact hwn _ (Tn.iQ (by omega))
      have mle:∀ p∈Wj,M≤fl.getD p.toNat 0:=fun p hp=>hle _ (List.mem_map_of_mem hp)
      generalize hmt:min (min (cs.getD j 0) l.most) M=mt
      refine ⟨fun σ H'=>Iv (∃ (tk:Int),σ=[some (.ref a),some (.ref b),some (.ref va),some (.ref c),some (.int cell),some (.ref lf),some (.ref lt),some (.ref lx),some (.int st),some (.int (i:Int)),some (.int (j:Int)),some (.ref lw),some (.int tk),v13]∧0≤tk∧tk≤mt∧Ow T H H' [(lw,.lst (Wj.map V.int)),(lx,.lst (ys.map V.int)),(lt,.lst (xs.map V.int)),(lf,.lst (fl.map V.int))]),?_,?_⟩
      · refine ⟨_,rfl,_,rfl,_,_,rfl,rfl,lx,_,_,_,rfl,rfl,O.sq 1,bY (by omega) (by omega),_,_,rfl,rfl,(by show (0:Int)<3;decide),rfl,_,rfl,ifI (fun hc=>?_) fun hc=>?_⟩
        · have hy0:=hyn ((i:Int) + 2).toNat
          refine ⟨_,rfl,_,rfl,_,rfl,_,_,rfl,rfl,lx,_,_,_,rfl,rfl,O.sq 1,bY (by omega) (by omega),?_⟩
          generalize ys.getD ((i:Int) + 2).toNat 0=yy at hy0
          have q0:=Int.emod_nonneg (yy / 3 % 8) (show mt + 1≠0 by omega)
          have q1:=Int.emod_lt_of_pos (yy / 3 % 8) (show 0<mt + 1 by omega)
          refine ⟨_,_,rfl,rfl,⟨by decide,by decide⟩,_,_,rfl,rfl,(by show (0:Int)<8;decide),_,rfl,_,_,rfl,rfl,_,_,rfl,rfl,(by show (0:Int)<mt + 1;omega),_,_,rfl,rfl,trivial,_,rfl,?_,?_,O⟩
          · show 0≤mt - yy / 3 % 8 % (mt + 1);omega
          · show mt - yy / 3 % 8 % (mt + 1)≤mt;omega
        · exact ⟨trivial,_,rfl,by omega,Int.le_refl _,O⟩
      rintro σ H9 ⟨-,tk2,rfl,tk0,tk1,O⟩
      refine ⟨_,rfl,_,rfl,_,rfl,lt,_,_,j,rfl,rfl,O.get 2,jd (by rw [List.length_map,RI.xl];exact hj),?_⟩
      walk_at "pt"
      refine ⟨_,rfl,lw,rfl,⟨_,O.sq 0⟩,?_⟩
      refine dX (K:=K) (a:=lw) (xs:=Wj.map V.int) (fun i' σ H5=>Iv (∃ (v13:Option V) (fl2:List Int),σ=[some (.ref a),some (.ref b),some (.ref va),some (.ref c),some (.int cell),some (.ref lf),some (.ref lt),some (.ref lx),some (.int st),some (.int (i:Int)),some (.int (j:Int)),some (.ref lw),some (.int tk2),v13] ∧
        Ow T H H5 [(lw,.lst (Wj.map V.int)),(lx,.lst (ys.map V.int)),(lt,.lst ((xs.map V.int).set j (.int tk2))),(lf,.lst (fl2.map V.int))]∧Rv.MvI r (fun i=>fl.getD i 0) tk2 (Wj.take i') fl2))
        ⟨trivial,v13,fl,rfl,O,Rv.MvI.start _ (by have:=Rv.Fl.of fl;rw [hfl,hnl] at this;exact this)⟩ (fun _ _ _ _ ⟨_,_,_,_,O,_⟩=>O.sq 0) ?_ ?_
      · rintro i' y σ H5 hy ⟨-,v13,fl2,rfl,O,MI⟩
        obtain ⟨z,hz,rfl⟩:=ints_get hy
        obtain ⟨z0,z1⟩:=hwm z (List.mem_of_getElem? hz)
        obtain ⟨zn,rfl⟩:=Int.eq_ofNat_of_zero_le z0
        have hzl:zn<r.length:=by omega
        obtain ⟨x,hx⟩:∃ x,fl2[zn]?=some x:=⟨_,MI.at_ zn hzl⟩
        refine ⟨_,rfl,_,rfl,lf,_,_,_,rfl,rfl,O.sq 3,eO hx,_,rfl,_,_,rfl,rfl,_,rfl,_,rfl,?_⟩
        refine zV O 3 rfl (jd (by rw [List.length_map,MI.len];exact hzl)) fun H6 O=>?_
        refine ⟨trivial,_,fl2.set zn (x - tk2),rfl,?_,?_⟩
        · rw [List.map_set];exact O
        · rw [List.take_add_one,hz]
          exact MI.turn hzl (nY hwk.1 hz) hx
      · rintro σ H5 ⟨-,v13,fl2,rfl,O,MI⟩
        rw [List.length_map,List.take_length] at MI
        refine ⟨trivial,_,_,_,_,_,xs.set j tk2,fl2,rfl,?_,by rw [List.map_set];exact O.tail⟩
        refine RI.step hj ej (fun m hm e=>?_) tk0 (by rw [hwant];omega) (fun i' hi' hm=>?_) (by rw [MI.len,hfl,hnl]) (fun i' hi'=>?_)
        · have:=Rv.vU nn hst (by omega) (by omega) e
          omega
        · rw [hWj'] at hm
          have:=mle (i':Int) hm
          rw [Int.toNat_natCast] at this;omega
        · rw [hWj'];exact Rv.Fl.getD MI (by omega)
    · rintro σ H3 ⟨-,v9,v10,v11,v12,v13,xs,fl,rfl,RI,O⟩
      exact ⟨_,rfl,O.ret 1 rfl q ⟨xs,rfl,RI.xl,RI.fit fun m hm p hp=>by rw [hnl];exact (hW m hm).2 p hp⟩⟩
abbrev eV:Stmt:=top 29
theorem iC:aU ["below","roll","takes","holds","one","take","reach"] ["below","roll","takes"] (ao eV):=⟨rfl,rfl,rfl,by decide +kernel,rfl,by decide +kernel,by decide +kernel⟩
def kY (r:List Int) (ls:List Lic) (xs:List Int):List Int:=Tn.bumps (List.replicate r.length 0) ((ls.zip xs).map fun p=>(Rv.iW r p.1.start p.1.back,p.2))
def wj (K:PySem.W.Frag) (T:gk):Sp:=fun vs H Q _=>∃ (a b:Addr) (v:V) (r:List Int) (ls:List Lic) (xs:List Int),vs=[.ref a,v,.ref b]∧SqL K H a (r.map V.int)∧Rv.cG r∧r.length≤900∧Den K H v (pq ls)∧SqL K H b (xs.map V.int)∧ls.length=xs.length∧(∀ l∈ls,pB r l)∧TabsOk T H ∧
  jF T H (fun ys=>ys=(kY r ls xs).map V.int) Q
theorem CK {ls:List Lic} {xs:List Int} {i:Nat} {l:Lic} {x:Int} (hl:ls[i]?=some l) (hx:xs[i]?=some x):(ls.take (i + 1)).zip (xs.take (i + 1))=(ls.take i).zip (xs.take i)++[(l,x)]:=by
  have h1:=(List.getElem?_eq_some_iff.mp hl).1
  have h2:=(List.getElem?_eq_some_iff.mp hx).1
  rw [Tn.bV hl,Tn.bV hx,List.zip_append (by rw [List.length_take,List.length_take];omega)];rfl
theorem yj {r:List Int} {ls:List Lic} {xs:List Int} {i:Nat} {l:Lic} {x:Int} (hl:ls[i]?=some l) (hx:xs[i]?=some x):kY r (ls.take (i + 1)) (xs.take (i + 1))=Tn.bump (kY r (ls.take i) (xs.take i)) (Rv.iW r l.start l.back) x:=by
  unfold kY
  rw [CK hl hx,List.map_append];exact Tn.lV _ _ _
theorem kW (r:List Int) (ls:List Lic) (xs:List Int):(kY r ls xs).length=r.length:=by unfold kY;rw [Tn.iR,List.length_replicate]
theorem Dw {f f1:Addr} {fd fd1:FuncData} (D:Df K mg "holds_of" eV ["below","roll","takes"] f fd) (B:Blt mg) (aX:Df K mg "reaches_of" bO ["below","one"] f1 fd1) (gP:bZ P w K mg base CX0 3 f1 fd1 ["below","one"] (jK K)) :
    bZ P w K mg base CX0 4 f fd ["below","roll","takes"] (wj K T):=by
  refine D.F.ok iC (fun vs H Q E h=>?_) (fun cdv A outer s H vs Q E hr h=>?_)
  · obtain ⟨_,_,_,_,_,_,rfl,_⟩:=h;rfl
  · obtain ⟨a,b,v,r,ls,xs,rfl,hA,hR,hn,hd,hB,hlx,ok,tk,q⟩:=h
    obtain ⟨va,vs,rfl,hV,hds⟩:=hd.fY
    have hvl:vs.length=ls.length:=by rw [hds.length,List.length_map]
    refine ⟨_,(au (aN (i:=3) iC.nd rfl (Or.inl rfl) (aL nW (gM (ak aA aq)) (aH aK rfl B.len PySem.boot_len (ak (pv 0) aq))))
      (au (gq PassesOwn.never rfl (sO rfl B.zip (ak (pv 1) (ak (pv 2) aq))) (nT rfl (aZ (aG (i:=4) iC.nd rfl (Or.inl rfl)) (aZ (aG (i:=5) iC.nd rfl (Or.inl rfl)) iI)))
        (aD (gq PassesOwn.never rfl (bM (aF gP (hr.mono (by decide)) rfl aX.m aX.F.kp aX.b .nil bH (ak (pv 0) (ak (pv 4) aq)))) (aG (i:=6) iC.nd rfl (Or.inl rfl))
          (aD (lM (pv 3) (pv 6) jN (pv 5) tE set_list)))))
      (aD (bA (pv 3))))),?_⟩
    refine RP ?_
    intro zu0 zu1 zu2 zu3
    have O:=Ow.refl tk
    refine ⟨szl,fun l1 h1=>?_⟩
    walk_at "nw"
    refine ⟨_,rfl,a,_,rfl,.inl (O.same.seq hA),l1,_,_,rfl,rfl,O.get 0,by rw [List.length_map];omega,by rw [List.length_map];omega,ig (by rw [List.length_map,Int.toNat_natCast];simp;omega),fun lh hlh=>?_⟩
    walk_at "nw"
    rw [List.length_map,Int.toNat_natCast,iH] at O
    have O:=O.two
    refine ⟨_,rfl,_,rfl,va,b,_,_,rfl,O.same.seq hV,O.same.seq hB,?_⟩
    refine Bp (K:=K) (fun i σ H'=>Iv (∃ v4 v5 v6:Option V,σ=[some (.ref a),some (.ref va),some (.ref b),some (.ref lh),v4,v5,v6]∧Ow T H H' [(lh,.lst ((kY r (ls.take i) (xs.take i)).map V.int))])) (by rw [List.length_map];omega)
      ⟨trivial,none,none,none,rfl,O⟩ (fun i σ H' _ ⟨_,_,_,_,_,O⟩=>⟨O.same.seq hV,O.same.seq hB⟩) ?_ ?_
    · rintro i x y t σ H2 hx hy ⟨-,v4,v5,v6,rfl,O⟩ ht
      obtain ⟨z,hz,rfl⟩:=ints_get hy
      obtain ⟨al,l,rfl,hl,hT⟩:=hds.qQ hx
      have okl:=ok l (List.mem_of_getElem? hl)
      have wok:=Rv.mW hR (b:=l.back) okl.1 okl.2.1
      have hnext:=yj (r:=r) hl hz
      have hcl:=kW r (ls.take i) (xs.take i)
      generalize kY r (ls.take i) (xs.take i)=cur at O hnext hcl
      walk_at "nw"
      refine ⟨t,_,rfl,O.sqT 0,rfl,_,_,rfl,_,_,rfl,rfl,?_⟩
      refine ⟨_,rfl,_,rfl,a,al,r,l,rfl,O.same.seq hA,hR,hn,hT.mo O.same,okl,O.got fun lw H3 ws O e=>?_⟩
      subst e
      have O:=O.two
      generalize Rv.iW r l.start l.back=w at O wok hnext
      refine ⟨lw,rfl,⟨_,O.sq 0⟩,?_⟩
      refine dX (K:=K) (xs:=w.map V.int) (fun j σ H'=>Iv (∃ v6:Option V,σ=[some (.ref a),some (.ref va),some (.ref b),some (.ref lh),some (.ref al),some (.int z),v6]∧Ow T H H' [(lw,.lst (w.map V.int)),(lh,.lst ((Tn.bump cur (w.take j) z).map V.int))]))
        ⟨trivial,v6,rfl,O⟩ (fun i σ H' _ ⟨_,_,_,O⟩=>O.sq 0) ?_ ?_
      · rintro j y σ H4 hy ⟨-,v6,rfl,O⟩
        obtain ⟨u,hu,rfl⟩:=ints_get hy
        obtain ⟨u0,u1⟩:=wok.2 u (List.mem_of_getElem? hu)
        obtain ⟨un,rfl⟩:=Int.eq_ofNat_of_zero_le u0
        have hbl:(Tn.bump cur (w.take j) z).length=r.length:=by rw [Tn.gJ,hcl]
        refine ⟨_,rfl,_,rfl,lh,_,un,_,rfl,rfl,O.sq 1,by rw [List.getElem?_map,bI (by omega)];rfl,?_⟩
        refine ⟨_,rfl,_,_,rfl,rfl,lh,_,_,un,rfl,rfl,O.get 1,jd (by rw [List.length_map];omega),?_⟩
        walk_at "pt"
        refine ⟨trivial,_,rfl,?_⟩
        rw [lB hu,Int.toNat_natCast,List.map_set];exact O
      · rintro σ H4 ⟨-,v6,rfl,O⟩
        rw [List.length_map,List.take_of_length_le (Nat.le_refl _)] at O
        refine ⟨trivial,_,_,_,rfl,?_⟩
        rw [hnext];exact O.tail
    rintro σ H2 ⟨-,v4,v5,v6,rfl,O⟩
    refine ⟨_,rfl,O.ret 0 rfl q ?_⟩
    rw [hvl,List.take_of_length_le (Nat.le_refl _),List.take_of_length_le (by omega)]
abbrev fO:Stmt:=top 30
theorem pO:aU ["below","springs","roll","takes","natural"] ["below","springs","roll","takes"] (ao fO):=⟨rfl,rfl,rfl,by decide +kernel,rfl,by decide +kernel,by decide +kernel⟩
def o9 (r s:List Int) (ls:List Lic) (xs:List Int):List Int:=List.zipWith (fun x y=>x - y) (Rv.nats r s) (kY r ls xs)
def DP (ls:List Lic) (xs:List Int):List Rv.Mv:=(ls.zip xs).map fun p=>(p.1.start,p.1.back,p.2)
theorem DK {ls:List Lic} {xs:List Int} (h:ls.length=xs.length):(DP ls xs).length=ls.length:=by
  unfold DP;rw [List.length_map,List.length_zip];omega
theorem DN {ls:List Lic} {xs:List Int} {i:Nat} {l:Lic} {x:Int} (hl:ls[i]?=some l) (hx:xs[i]?=some x):(DP ls xs)[i]?=some (l.start,l.back,x):=by
  unfold DP
  have e:(ls.zip xs)[i]?=some (l,x):=List.getElem?_zip_eq_some.mpr ⟨hl,hx⟩
  rw [List.getElem?_map,e];rfl
theorem qO (r s:List Int):(Rv.nats r s).length=r.length:=(Rv.jY r s).len
theorem tK (r s:List Int) (ls:List Lic) (xs:List Int):(o9 r s ls xs).length=r.length:=by
  unfold o9;rw [List.length_zipWith,qO,kW,Nat.min_self]
theorem K5 {r:List Int} {ls:List Lic} {xs:List Int} (hR:Rv.cG r) (h:∀ l∈ls,pB r l) (i:Nat):(kY r ls xs).getD i 0=Rv.KJ r (DP ls xs) (i:Int):=by
  unfold kY DP Rv.KJ
  rw [Tn.jD (fun p hp=>?_) i,List.map_map,List.map_map]
  · have:(List.replicate r.length (0:Int)).getD i 0=0:=by
      rw [List.getD_eq_getElem?_getD,List.getElem?_replicate];split <;> rfl
    rw [this,Int.zero_add];rfl
  · obtain ⟨q,hq,rfl⟩:=List.mem_map.mp hp
    obtain ⟨h0,h1,_⟩:=h _ (List.of_mem_zip hq).1
    rw [List.length_replicate]
    exact Rv.mW hR h0 h1
theorem En {r:List Int} (s:List Int) {ls:List Lic} {xs:List Int} (hR:Rv.cG r) (h:∀ l∈ls,pB r l):o9 r s ls xs=Rv.Vj r s (DP ls xs):=by
  refine Rv.Fl.ext (n:=r.length) (g:=fun i=>Rv.mL r s (i:Int) - Rv.KJ r (DP ls xs) (i:Int)) ⟨tK ..,fun i hi=>?_⟩ (Rv.Br r s _)
  unfold o9
  rw [List.getElem?_zipWith,(Rv.jY r s).at_ i hi,bI (ns:=kY r ls xs) (by rw [kW];exact hi),K5 hR h]
def zq (K:PySem.W.Frag) (T:gk):Sp:=fun vs H Q _=>∃ (a b c:Addr) (v:V) (r s:List Int) (ls:List Lic) (xs:List Int),vs=[.ref a,.ref b,v,.ref c]∧Ke K H a r∧SqL K H b (s.map V.int)∧s.length=r.length∧Den K H v (pq ls)∧SqL K H c (xs.map V.int)∧ls.length=xs.length∧(∀ l∈ls,pB r l)∧TabsOk T H ∧
  jF T H (fun ys=>ys=(o9 r s ls xs).map V.int) Q
theorem yp {ys zs:List Int} {i:Nat} {a b:Int} (ha:ys[i]?=some a) (hb:zs[i]?=some b):List.zipWith (fun x y=>x - y) (ys.take (i + 1)) (zs.take (i + 1))=List.zipWith (fun x y:Int=>x - y) (ys.take i) (zs.take i)++[a - b]:=by
  have h1:=(List.getElem?_eq_some_iff.mp ha).1
  have h2:=(List.getElem?_eq_some_iff.mp hb).1
  rw [Tn.bV ha,Tn.bV hb,List.zipWith_append (by rw [List.length_take,List.length_take];omega)];rfl
theorem Kw {f f1 f2:Addr} {fd fd1 fd2:FuncData} (D:Df K mg "free_of" fO ["below","springs","roll","takes"] f fd) (B:Blt mg)
    (aY:Df K mg "natural_of" bQ ["below","springs"] f1 fd1) (gQ:bZ P w K mg base CX0 6 f1 fd1 ["below","springs"] (vZ K T))
    (iB:Df K mg "holds_of" eV ["below","roll","takes"] f2 fd2) (yx:bZ P w K mg base CX0 4 f2 fd2 ["below","roll","takes"] (wj K T)) :
    bZ P w K mg base CX0 7 f fd ["below","springs","roll","takes"] (zq K T):=by
  refine D.F.ok pO (fun vs H Q E h=>?_) (fun cdv A outer s H vs Q E hr h=>?_)
  · obtain ⟨_,_,_,_,_,_,_,_,rfl,_⟩:=h;rfl
  · obtain ⟨a,b,c,v,r,sp,ls,xs,rfl,⟨hA,hR,h64⟩,hB,hsl,hd,hC,hlx,ok,tk,q⟩:=h
    refine ⟨_,(au (aN (i:=4) pO.nd rfl (Or.inl rfl) (aF gQ (hr.mono (by decide)) rfl aY.m aY.F.kp aY.b .nil bH (ak (pv 0) (ak (pv 1) aq))))
      (aD (bA (fU (ao fO) rfl ["below","springs","roll","takes","natural"] rfl ["flow","held"] [none,none] (by decide +kernel) (by decide +kernel) (by decide +kernel) rfl (sO rfl B.zip (ak (pv 4) (ak (aF yx (hr.mono (by decide)) rfl iB.m iB.F.kp iB.b .nil bH (ak (pv 0) (ak (pv 2) (ak (pv 3) aq)))) aq))) (fun _ _ _=>(nR (K:=K) (n:=2) rfl rfl (aZ (aG (i:=0) (show (["flow","held"]:List Str).Nodup by decide +kernel) rfl (Or.inl rfl)) (aZ (aG (i:=1) (show (["flow","held"]:List Str).Nodup by decide +kernel) rfl (Or.inl rfl)) iI)))) (fun _ _ _=>fQ) (fun _ _ _=>(aL mK (pv 0) (pv 1))))))),?_⟩
    refine UL ?_
    intro zu0
    have O:=Ow.refl tk
    refine ⟨_,rfl,_,rfl,a,b,r,sp,rfl,⟨hA,hR,h64⟩,hB,hsl,tk,O.pX fun ln H1 ys O e=>?_⟩
    subst e
    refine ⟨_,rfl,_,rfl,_,rfl,_,rfl,a,c,v,r,ls,xs,rfl,O.same.seq hA,hR,by omega,hd.lQ O.same,O.same.seq hC,hlx,ok,O.same.t1,O.pX fun lh H2 zs O e=>?_⟩
    subst e
    refine ⟨ln,lh,_,_,rfl,O.sq 1,O.sq 0,fun acc hacc=>?_⟩
    have hnl:=qO r sp
    have hhl:=kW r ls xs
    refine qZ (K:=K) (fun i τ H'=>Iv (∃ (v0 v1:Option V),τ=[v0,v1]∧Ow T H H' [(acc,.lst ((List.zipWith (fun x y:Int=>x - y) ((Rv.nats r sp).take i) ((kY r ls xs).take i)).map V.int)),(lh,.lst ((kY r ls xs).map V.int)),(ln,.lst ((Rv.nats r sp).map V.int))])) (by rw [List.length_map,List.length_map];omega)
      ⟨trivial,none,none,rfl,O.mk' hacc rfl⟩ (fun i τ H' _ ⟨_,_,_,_,O⟩=>⟨O.sq 2,O.sq 1⟩) ?_ ?_
    · rintro i x y t τ H' hx hy ⟨-,v0,v1,rfl,O⟩ ht
      obtain ⟨z,hz,rfl⟩:=ints_get hy
      obtain ⟨u,hu,rfl⟩:=ints_get hx
      have hi:=(List.getElem?_eq_some_iff.mp hz).1
      walk_at "nw"
      refine ⟨t,_,rfl,O.sqT 0,rfl,_,_,rfl,_,_,rfl,rfl,?_⟩
      refine Rt ?_
      refine ⟨_,rfl,_,rfl,_,_,rfl,rfl,?_⟩
      refine ⟨_,O.get 1,aQ (by rw [List.length_map,List.length_zipWith,List.length_take];omega),?_⟩
      walk_at "pt"
      refine ⟨trivial,_,_,rfl,?_⟩
      rw [yp hu hz,List.map_append]
      exact O.tail
    · rintro τ H' ⟨-,v0,v1,rfl,O⟩
      refine O.ret 0 rfl q ?_
      rw [List.length_map,List.take_of_length_le (Nat.le_refl _),List.take_of_length_le (by omega)];rfl
theorem ud (g:List Nat) (k:Nat):(Tn.asI (g++[k])).map V.int=(Tn.asI g).map V.int++[V.int (k:Int)]:=by
  unfold Tn.asI;rw [List.map_append,List.map_append];rfl
theorem Af {r:List Int} {ls:List Lic} {xs:List Int} (h:ls.length=xs.length) (i:Int):Rv.KJ r (DP ls xs) i=Tn.hold ls.length (oZ r ls) (Tn.fX xs) i:=by
  unfold Rv.KJ Tn.hold
  rw [← Rv.yR,Rv.qu,List.length_map,DK h]
  refine Tn.aW fun k hk=>?_
  have e:=List.getElem?_eq_getElem hk
  rw [List.getD_eq_getElem?_getD,List.getElem?_map,DN e (bI (ns:=xs) (by omega)),ju e];rfl
theorem wN {r s:List Int} {ls:List Lic} {xs:List Int} (hR:Rv.cG r) (ok:∀ l∈ls,pB r l) (h:ls.length=xs.length) {i:Nat} (hi:i<r.length):(o9 r s ls xs).getD i 0=Tn.fF (Rv.nats r s) (i:Int) - Tn.hold ls.length (oZ r ls) (Tn.fX xs) (i:Int):=by
  rw [En s hR ok,(Rv.Br r s _).getD hi,Af h,Rv.vm (by omega) (by omega)]
def lZ (fl:List Int) (n:Nat):List Nat:=(List.range n).filter fun i=>decide (fl.getD i 0=0)
theorem m9 (fl:List Int) (n:Nat):lZ fl (n + 1)=lZ fl n++(if fl.getD n 0=0 then [n] else []):=by
  unfold lZ;rw [List.range_succ,List.filter_append]
  congr 1
  by_cases h:fl.getD n 0=0
  · rw [if_pos h,List.filter_cons,List.filter_nil,if_pos (decide_eq_true h)]
  · rw [if_neg h,List.filter_cons,List.filter_nil,if_neg (by rw [decide_eq_true_iff];exact h)]
theorem pG (fl:List Int) (n:Nat):(lZ fl n).length≤n:=by
  unfold lZ;refine Nat.le_trans (List.length_filter_le _ _) (by rw [List.length_range];exact Nat.le_refl _)
abbrev iy:Stmt:=top 32
theorem zG:aU ["below","springs","roll","takes"] ["below","springs","roll","takes"] (ao iy):=⟨rfl,rfl,rfl,by decide +kernel,rfl,by decide +kernel,by decide +kernel⟩
def FN (K:PySem.W.Frag) (T:gk):Sp:=fun vs H Q _=>∃ (a b c:Addr) (v:V) (r s:List Int) (ls:List Lic) (xs:List Int),vs=[.ref a,.ref b,v,.ref c]∧Ke K H a r∧SqL K H b (s.map V.int)∧s.length=r.length∧Den K H v (pq ls)∧SqL K H c (xs.map V.int)∧ls.length=xs.length∧(∀ l∈ls,pB r l)∧TabsOk T H ∧
  jF T H (fun ys=>ys=(Tn.asI (lZ (o9 r s ls xs) r.length)).map V.int) Q
theorem Mw {f f1:Addr} {fd fd1:FuncData} (D:Df K mg "dry_of" iy ["below","springs","roll","takes"] f fd) (B:Blt mg)
    (jj:Df K mg "free_of" fO ["below","springs","roll","takes"] f1 fd1) (Cp:bZ P w K mg base CX0 7 f1 fd1 ["below","springs","roll","takes"] (zq K T)):bZ P w K mg base CX0 8 f fd ["below","springs","roll","takes"] (FN K T):=by
  refine D.F.ok zG (fun vs H Q E h=>?_) (fun cdv A outer s H vs Q E hr h=>?_)
  · obtain ⟨_,_,_,_,_,_,_,_,rfl,_⟩:=h;rfl
  · obtain ⟨a,b,c,v,r,sp,ls,xs,rfl,⟨hA,hR,h64⟩,hB,hsl,hd,hC,hlx,ok,tk,q⟩:=h
    refine ⟨_,(aD (bA (fU (ao iy) rfl ["below","springs","roll","takes"] rfl ["reach","drops"] [none,none] (by decide +kernel) (by decide +kernel) (by decide +kernel) rfl (uW rfl B.enumerate (ak (aF Cp (hr.mono (by decide)) rfl jj.m jj.F.kp jj.b .nil bH (ak (pv 0) (ak (pv 1) (ak (pv 2) (ak (pv 3) aq))))) aq)) (fun _ _ _=>(nR (K:=K) (n:=2) rfl rfl (aZ (aG (i:=0) (show (["reach","drops"]:List Str).Nodup by decide +kernel) rfl (Or.inl rfl)) (aZ (aG (i:=1) (show (["reach","drops"]:List Str).Nodup by decide +kernel) rfl (Or.inl rfl)) iI)))) (fun _ _ _=>(nO (dF u5 (pv 1) aA (d9 _)))) (fun _ _ _=>(pv 0))))),?_⟩
    have O:=Ow.refl tk
    refine ⟨_,rfl,_,rfl,_,rfl,_,rfl,a,b,c,v,r,sp,ls,xs,rfl,⟨hA,hR,h64⟩,hB,hsl,hd,hC,hlx,ok,tk,O.pX fun lf H1 ys O e=>?_⟩
    subst e
    have hfl:=tK r sp ls xs
    generalize o9 r sp ls xs=fl at O hfl q
    refine ⟨lf,_,rfl,O.sq 0,fun acc hacc=>?_⟩
    refine tU (K:=K) (xs:=fl.map V.int) (fun i τ H'=>Iv (∃ (v0 v1:Option V),τ=[v0,v1]∧Ow T H H' [(acc,.lst ((Tn.asI (lZ fl i)).map V.int)),(lf,.lst (fl.map V.int))]))
      ⟨trivial,none,none,rfl,O.mk' hacc rfl⟩ (fun i τ H' _ ⟨_,_,_,_,O⟩=>O.sq 1) ?_ ?_
    · rintro i y t' τ H3 hy ⟨-,v0,v1,rfl,O⟩ ht'
      obtain ⟨u,hu,rfl⟩:=ints_get hy
      have hi:=(List.getElem?_eq_some_iff.mp hu).1
      have eu:fl.getD i 0=u:=by rw [List.getD_eq_getElem?_getD,hu];rfl
      have hzl:=pG fl i
      walk_at "nw"
      refine ⟨t',_,rfl,O.sqT 0,rfl,_,_,rfl,_,_,rfl,rfl,?_⟩
      have O:=O.tail
      refine ⟨_,rfl,rfl,_,rfl,ifI (fun h1=>?_) fun h1=>⟨trivial,_,_,rfl,by rw [m9,eu,if_neg h1,List.append_nil];exact O⟩⟩
      refine ⟨_,rfl,_,O.get 0,aQ (by rw [List.length_map,Tn.dW];omega),?_⟩
      walk_at "pt"
      refine ⟨trivial,_,_,rfl,?_⟩
      rw [m9,eu,if_pos h1,ud];exact O
    · rintro τ H3 ⟨-,v0,v1,rfl,O⟩
      rw [List.length_map,hfl] at O
      exact O.ret 0 rfl q rfl
theorem Dd {X:Cx} {K:PySem.W.Frag} (h:X.K=K):SlR X (U4 K):=h ▸ uP
abbrev jc:Stmt:=top 33
theorem Dj:aU ["reaches","others"] ["reaches","others"] (ao jc):=⟨rfl,rfl,rfl,by decide +kernel,rfl,by decide +kernel,by decide +kernel⟩
def qy (K:PySem.W.Frag) (T:gk):Sp:=fun vs H Q _=>∃ (a b:Addr) (xs ys:List Int),vs=[.ref a,.ref b]∧SqL K H a (xs.map V.int)∧SqL K H b (ys.map V.int)∧xs.length≤900∧TabsOk T H∧∀ H',bF T H H'→Q (.bl (Rv.fH xs ys)) H'
abbrev cX:Stmt:=top 34
theorem rZ:aU ["below","reaches"] ["below","reaches"] (ao cX):=⟨rfl,rfl,rfl,by decide +kernel,rfl,by decide +kernel,by decide +kernel⟩
def rR (K:PySem.W.Frag) (T:gk):Sp:=fun vs H Q _=>∃ (a b:Addr) (r xs:List Int),vs=[.ref a,.ref b]∧Ke K H a r∧SqL K H b (xs.map V.int)∧xs.length<64∧(∀ x∈xs,0≤x∧x<(r.length:Int))∧TabsOk T H ∧
  jF T H (fun ys=>ys=(Tn.asI (Rv.vd r xs r.length)).map V.int) Q
theorem Dv {f:Addr} {fd:FuncData} (D:Df K mg "meets" jc ["reaches","others"] f fd) (B:Blt mg):bZ P w K mg base CX0 1 f fd ["reaches","others"] (qy K T):=by
  refine D.F.ok Dj (fun vs H Q E h=>?_) (fun cdv A outer s H vs Q E hr h=>?_)
  · obtain ⟨_,_,_,_,rfl,_⟩:=h;rfl
  · obtain ⟨a,b,xs,ys,rfl,hA,hB,hn,tk,q⟩:=h
    refine ⟨_,(aD (bA (aH (wW rfl) rfl B.any PyProof.Rows.boot_any (ak (fU (ao jc) rfl ["reaches","others"] rfl ["reach","others"] [none,some 1] (by decide +kernel) (by decide +kernel) (by decide +kernel) rfl (bM (pv 0)) (fun _ _ _=>(aG (i:=0) (show (["reach","others"]:List Str).Nodup by decide +kernel) rfl (Or.inl rfl))) (fun _ _ _=>fQ) (fun _ _ _=>(nU (xX (K:=K) rfl) (pv 0) (pv 1) (by rfl)))) aq)))),?_⟩
    have O:=Ow.refl tk
    refine ⟨_,rfl,a,rfl,⟨_,hA⟩,fun acc hacc=>?_⟩
    refine dw (K:=K) (xs:=xs.map V.int) (fun i τ H'=>Iv (∃ (v0:Option V),τ=[v0,some (.ref b)]∧Ow T H H' [(acc,.lst (((xs.take i).map fun x=>decide (x∈ys)).map V.bl))])) ⟨trivial,none,rfl,O.mk' hacc rfl⟩ (fun i τ H' _ ⟨_,_,_,O⟩=>O.same.seq hA) ?_ ?_
    · rintro i y τ H3 hy ⟨-,v0,rfl,O⟩
      obtain ⟨z,hz,rfl⟩:=ints_get hy
      refine yD ?_
      refine ⟨_,rfl,_,rfl,b,_,rfl,.inl (O.same.seq hB),rfl,tO _,?_⟩
      rw [if_neg Bool.false_ne_true,Bj]
      refine ⟨_,O.get 0,aQ (by rw [List.length_map,List.length_map,List.length_take];omega),?_⟩
      walk_at "pt"
      refine ⟨trivial,_,rfl,?_⟩
      rw [Tn.bV hz,List.map_append,List.map_append];exact O
    rintro τ H3 ⟨-,v0,rfl,O⟩
    rw [List.length_map,List.take_of_length_le (Nat.le_refl _)] at O
    refine ⟨acc,_,rfl,O.sq 0,?_⟩
    rw [List.any_map]
    exact q _ O.same
theorem zZ {f f1 f2:Addr} {fd fd1 fd2:FuncData} (D:Df K mg "lowest_of" cX ["below","reaches"] f fd) (B:Blt mg)
    (cI:Df K mg "way_of" gH ["below","reach"] f1 fd1) (lF:bZ P w K mg base CX0 1 f1 fd1 ["below","reach"] (vW K))
    (iV:Df K mg "meets" jc ["reaches","others"] f2 fd2) (vG:bZ P w K mg base CX0 1 f2 fd2 ["reaches","others"] (qy K T)):bZ P w K mg base CX0 2 f fd ["below","reaches"] (rR K T):=by
  refine D.F.ok rZ (fun vs H Q E h=>?_) (fun cdv A outer s H vs Q E hr h=>?_)
  · obtain ⟨_,_,_,_,rfl,_⟩:=h;rfl
  · obtain ⟨a,b,r,xs,rfl,⟨hA,hR,h64⟩,hB,hx64,hx,tk,q⟩:=h
    refine ⟨_,(aD (bA (fU (ao cX) rfl ["below","reaches"] rfl ["reach","reaches","below"] [none,some 1,some 0] (by decide +kernel) (by decide +kernel) (by decide +kernel) rfl (bM (xW rfl rfl B.sorted rfl B.set (ak (pv 1) aq))) (fun _ _ _=>(aG (i:=0) (show (["reach","reaches","below"]:List Str).Nodup by decide +kernel) rfl (Or.inl rfl))) (fun _ _ _=>(nO (sI (mG (aF vG (hr.mono (by decide)) rfl iV.m iV.F.kp iV.b .nil bH (ak (qK (Dd (K:=K) rfl) (aF lF (hr.mono (by decide)) rfl cI.m cI.F.kp cI.b .nil bH (ak (pv 2) (ak (pv 0) aq))) (qJ aA) zQ) (ak (pv 1) aq))))))) (fun _ _ _=>(pv 0))))),?_⟩
    have O:=Ow.refl tk
    refine ⟨_,rfl,b,xs,rfl,hB,hx64,fun lm ms hlm hrise hmem hml=>?_⟩
    walk_at "nw"
    refine ⟨lm,rfl,⟨_,O.sq 0⟩,fun acc hacc=>?_⟩
    refine dw (K:=K) (xs:=ms.map V.int) (fun i τ H'=>Iv (∃ (v0:Option V),τ=[v0,some (.ref b),some (.ref a)]∧Ow T H H' [(acc,.lst (((ms.take i).filter fun x=>!Rv.fH ((Rv.walk r x).drop 1) xs).map V.int)),(lm,.lst (ms.map V.int))])) ⟨trivial,none,rfl,O.mk' hacc rfl⟩ (fun i τ H' _ ⟨_,_,_,O⟩=>O.sq 1) ?_ ?_
    · rintro i y τ H3 hy ⟨-,v0,rfl,O⟩
      obtain ⟨z,hz,rfl⟩:=ints_get hy
      obtain ⟨z0,z1⟩:=hx z ((hmem z).mp (List.mem_of_getElem? hz))
      have hi:=(List.getElem?_eq_some_iff.mp hz).1
      refine ⟨_,rfl,_,rfl,a,r,z,rfl,O.same.seq hA,hR,z0,z1,by omega,O.got fun lw H4 ws O e=>?_⟩
      subst e
      refine ⟨1,rfl,lw,_,rfl,O.sq 0,fun l2 hl2=>?_⟩
      walk_at "nw"
      rw [show yr ((Rv.walk r z).map V.int) (some 1) none=((Rv.walk r z).drop 1).map V.int from Ez _ 1] at O
      refine ⟨_,rfl,l2,b,_,xs,rfl,O.sq 0,O.same.seq hB,by have:=Rv.j6 r z;rw [List.length_drop];omega,O.same.t1,fun H5 sm=>?_⟩
      have O:=((O.yt sm).tail).tail
      refine ⟨_,rfl,?_⟩
      have hfil:(ms.take (i + 1)).filter (fun x=>!Rv.fH ((Rv.walk r x).drop 1) xs)=(ms.take i).filter (fun x=>!Rv.fH ((Rv.walk r x).drop 1) xs)++(if Rv.fH ((Rv.walk r z).drop 1) xs=true then [] else [z]):=by
        rw [Tn.bV hz,List.filter_append]
        congr 1
        rw [List.filter_cons,List.filter_nil]
        cases Rv.fH ((Rv.walk r z).drop 1) xs <;> rfl
      cases hm:Rv.fH ((Rv.walk r z).drop 1) xs with
      | true =>
        rw [hm,if_pos rfl,List.append_nil] at hfil
        exact ⟨trivial,_,rfl,by rw [hfil];exact O⟩
      | false =>
        rw [hm,if_neg Bool.false_ne_true] at hfil
        refine ⟨_,rfl,_,O.get 0,aQ (by rw [List.length_map];have h1:=List.length_filter_le (fun x=>!Rv.fH ((Rv.walk r x).drop 1) xs) (ms.take i);rw [List.length_take] at h1;omega),?_⟩
        walk_at "pt"
        refine ⟨trivial,_,rfl,?_⟩
        rw [hfil,List.map_append];exact O
    rintro τ H3 ⟨-,v0,rfl,O⟩
    rw [List.length_map,List.take_of_length_le (Nat.le_refl _),Rv.MP hx hrise hmem] at O
    exact O.ret 0 rfl q rfl
abbrev cO:Stmt:=top 14
theorem qD:aU ["one"] ["one"] (ao cO):=⟨rfl,rfl,rfl,by decide +kernel,rfl,by decide +kernel,by decide +kernel⟩
def LQ (K:PySem.W.Frag):Sp:=fun vs H Q _=>∃ (t:Addr) (l:Lic),vs=[.ref t]∧SqT K H t (Cu l)∧Q (.bl (!decide (l.back=-1))) H
abbrev eN:Stmt:=top 35
theorem iD:aU ["below","springs","roll","calls","dry","lowest","numbers","natural","wants","total"] ["below","springs","roll","calls"] (ao eN):=⟨rfl,rfl,rfl,by decide +kernel,rfl,by decide +kernel,by decide +kernel⟩
def o8 (r:List Int) (ls:List Lic) (L:List Int) (n:Nat):List Nat:=(List.range n).filter fun k=>!Rv.fH (oZ r ls k) L
theorem pQ (r:List Int) (ls:List Lic) (L:List Int) (n:Nat):o8 r ls L (n + 1)=o8 r ls L n++(if Rv.fH (oZ r ls n) L=true then [] else [n]):=by
  unfold o8;rw [List.range_succ,List.filter_append]
  congr 1
  by_cases h:Rv.fH (oZ r ls n) L=true
  · rw [if_pos h,List.filter_cons,List.filter_nil,if_neg (by rw [h];decide)]
  · rw [if_neg h,List.filter_cons,List.filter_nil,if_pos (by rw [Bool.not_eq_true] at h;rw [h];rfl)]
theorem sX (r:List Int) (ls:List Lic) (L:List Int) (n:Nat):(o8 r ls L n).length≤n:=by
  unfold o8;refine Nat.le_trans (List.length_filter_le _ _) (by rw [List.length_range];exact Nat.le_refl _)
abbrev Rp (r s:List Int) (ls:List Lic) (xs:List Int):List Int:=Tn.asI (lZ (o9 r s ls xs) r.length)
abbrev J1 (r s:List Int) (ls:List Lic) (xs:List Int):List Int:=Tn.asI (Rv.vd r (Rp r s ls xs) r.length)
theorem qX (r s:List Int) (ls:List Lic) (xs:List Int):∀ x∈Rp r s ls xs,0≤x∧x<(r.length:Int):=fun x hx=>by
  obtain ⟨j,hj,rfl⟩:=List.mem_map.mp hx
  have:=List.mem_range.mp (List.mem_filter.mp hj).1
  omega
theorem xK (r:List Int) (p b:Int):(Rv.iW r p b).length≤r.length + 1:=by
  unfold Rv.iW
  split
  · exact Rv.j6 r p
  · exact Nat.le_trans (List.takeWhile_sublist _).length_le (Rv.j6 r p)
theorem yV (xs:List Int):Tn.d8 xs.length (Tn.fX xs)=xs.sum:=by
  rw [← Rv.yR,Rv.qu];rfl
theorem Bx {r s:List Int} {ls:List Lic} {cs xs:List Int} (hR:Rv.cG r) (ok:∀ l∈ls,pB r l) (hb:∀ l∈ls,l.back=-1) (D:yC r s ls cs xs) :
    ((J1 r s ls xs).map fun z=>(Rv.nats r s).getD z.toNat 0).sum + ((o8 r ls (J1 r s ls xs) ls.length).map fun k=>(dH ls cs).getD k 0).sum=xs.sum:=by
  have hl:=D.len
  rw [← yV xs,hl]
  refine Rv.Ld (st:=fun k=>((ls[k]?).map Lic.start).getD 0) (want:=fun k=>(dH ls cs).getD k 0) hR (qX r s ls xs) (fun k hk=>?_) (fun z hz=>?_) fun k hk=>?_
  · have e:=List.getElem?_eq_getElem hk
    obtain ⟨h0,h1,_⟩:=ok _ (List.getElem_mem hk)
    rw [e,ju e]
    refine ⟨h0,h1,?_⟩
    unfold Rv.iW
    rw [if_pos (hb _ (List.getElem_mem hk))];rfl
  · obtain ⟨j,hj,rfl⟩:=List.mem_map.mp hz
    obtain ⟨j1,j2⟩:=List.mem_filter.mp hj
    have hjl:=List.mem_range.mp j1
    have e:=wN (s:=s) hR ok hl.symm hjl
    rw [of_decide_eq_true j2,Rv.vm (by omega) (by omega)] at e
    show (Rv.nats r s).getD (j:Int).toNat 0=_
    rw [Int.toNat_natCast,(Rv.jY r s).getD hjl]
    omega
  · have h1:=D.fit.le k hk
    rcases Int.lt_or_le (Tn.fX xs k) (Tn.fX (dH ls cs) k) with c | c
    · obtain ⟨z,hz,he,_⟩:=D.shown k hk c
      refine .inr ⟨z,hz,?_⟩
      have e:=List.getElem?_eq_getElem hk
      rw [ju e] at hz
      obtain ⟨h0,h1,_⟩:=ok _ (List.getElem_mem hk)
      obtain ⟨z0,z1⟩:=(Rv.mW hR h0 h1).2 z hz
      obtain ⟨zn,rfl⟩:=Int.eq_ofNat_of_zero_le z0
      have hzl:zn<r.length:=by omega
      have e2:=wN (s:=s) hR ok hl.symm hzl
      refine List.mem_map.mpr ⟨zn,List.mem_filter.mpr ⟨List.mem_range.mpr hzl,decide_eq_true ?_⟩,rfl⟩
      rw [e2];omega
    · exact .inl (Int.le_antisymm h1 c)
def FQ (K:PySem.W.Frag) (T:gk):Sp:=fun vs H Q _=>∃ (a b c:Addr) (v:V) (r s:List Int) (ls:List Lic) (cs:List Int),vs=[.ref a,.ref b,v,.ref c]∧Ke K H a r∧SqL K H b (s.map V.int)∧s.length=r.length∧(∀ x∈s,0≤x)∧Den K H v (pq ls)∧ls.length<64∧SqL K H c (cs.map V.int)∧ls.length=cs.length∧(∀ l∈ls,oV r l)∧(∀ c∈cs,0≤c)∧(∀ l∈ls,l.back=-1)∧TabsOk T H ∧
  ∀ (t lo nu:Addr) (H':Hp) (xs:List Int),yC r s ls cs xs→Ow T H H' [(t,.tup [.int xs.sum,.ref lo,.ref nu]),(nu,.lst ((Tn.asI (o8 r ls (J1 r s ls xs) ls.length)).map V.int)),(lo,.lst ((J1 r s ls xs).map V.int))]→Q (.ref t) H'
theorem Sx {f:Addr} {fd:FuncData} (D:Df K mg "gives_back" cO ["one"] f fd) (C:Mth mg):bZ P w K mg base CX0 1 f fd ["one"] (LQ K):=by
  obtain ⟨tM,hMOUTH⟩:=C.MOUTH
  refine D.F.ok qD (fun vs H Q E h=>?_) (fun cdv A outer s H vs Q E hr h=>?_)
  · obtain ⟨_,_,rfl,_⟩:=h;rfl
  · obtain ⟨t,l,rfl,hT,q⟩:=h
    refine ⟨_,(aD (bA (nU uZ (bC oA (pv 0) aA (fun _ _=>rfl)) (qL (v:=.int (-1)) rfl hMOUTH ⟨_,rfl⟩) (d9 _)))),?_⟩
    refine ⟨_,rfl,t,_,2,_,rfl,rfl,hT,rfl,rfl,?_⟩
    rw [show decide (V.int l.back=V.int (-1))=decide (l.back=-1) from by simp]
    exact q
theorem MF {f f1 f2 f3 f4 f5 f6 f7 f8:Addr} {fd fd1 fd2 fd3 fd4 fd5 fd6 fd7 fd8:FuncData} (D:Df K mg "cut_of" eN ["below","springs","roll","calls"] f fd) (B:Blt mg)
    (eZ:Df K mg "gives_back" cO ["one"] f1 fd1) (um:bZ P w K mg base CX0 1 f1 fd1 ["one"] (LQ K))
    (jH:Df K mg "deal" jz ["below","springs","roll","calls"] f2 fd2) (Cr:bZ P w K mg base CX0 7 f2 fd2 ["below","springs","roll","calls"] (uO K T))
    (jP:Df K mg "dry_of" iy ["below","springs","roll","takes"] f3 fd3) (Fq:bZ P w K mg base CX0 8 f3 fd3 ["below","springs","roll","takes"] (FN K T))
    (gC:Df K mg "lowest_of" cX ["below","reaches"] f4 fd4) (vH:bZ P w K mg base CX0 2 f4 fd4 ["below","reaches"] (rR K T))
    (aX:Df K mg "reaches_of" bO ["below","one"] f5 fd5) (gP:bZ P w K mg base CX0 3 f5 fd5 ["below","one"] (jK K))
    (iV:Df K mg "meets" jc ["reaches","others"] f6 fd6) (vG:bZ P w K mg base CX0 1 f6 fd6 ["reaches","others"] (qy K T))
    (aY:Df K mg "natural_of" bQ ["below","springs"] f7 fd7) (gQ:bZ P w K mg base CX0 6 f7 fd7 ["below","springs"] (vZ K T))
    (cJ:Df K mg "wants_of" dz ["roll","calls"] f8 fd8) (lX:bZ P w K mg base CX0 2 f8 fd8 ["roll","calls"] (qx K T)):bZ P w K mg base CX0 9 f fd ["below","springs","roll","calls"] (FQ K T):=by
  refine D.F.ok iD (fun vs H Q E h=>?_) (fun cdv A outer s H vs Q E hr h=>?_)
  · obtain ⟨_,_,_,_,_,_,_,_,rfl,_⟩:=h;rfl
  · obtain ⟨a,b,c,v,r,sp,ls,cs,rfl,⟨hA,hR,h64⟩,hB,hsl,hsn,hd,hl64,hC,hlc,ok,hcn,hback,tk,q⟩:=h
    obtain ⟨va,vs,rfl,hV,d0⟩:=hd.fY
    have hvl:vs.length=ls.length:=by rw [d0.length,List.length_map]
    have ok1:∀ l∈ls,pB r l:=fun l hl=>(ok l hl).1
    refine ⟨_,(au (jX (mG (aH (wW rfl) rfl B.any PyProof.Rows.boot_any (ak (fU (ao eN) rfl ["below","springs","roll","calls","dry","lowest","numbers","natural","wants","total"] rfl ["one"] [none] (by decide +kernel) (by decide +kernel) (by decide +kernel) rfl (bM (pv 2)) (fun _ _ _=>(aG (i:=0) (show (["one"]:List Str).Nodup by decide +kernel) rfl (Or.inl rfl))) (fun _ _ _=>fQ) (fun _ _ _=>(aF um (hr.mono (by decide)) rfl eZ.m eZ.F.kp eZ.b .nil bH (ak (pv 0) aq)))) aq)))
        (aD wC)
        gB)
      (au (aN (i:=4) iD.nd rfl (Or.inl rfl) (aF Fq (hr.mono (by decide)) rfl jP.m jP.F.kp jP.b .nil bH (ak (pv 0) (ak (pv 1) (ak (pv 2) (ak (aF Cr (hr.mono (by decide)) rfl jH.m jH.F.kp jH.b .nil bH (ak (pv 0) (ak (pv 1) (ak (pv 2) (ak (pv 3) aq))))) aq))))))
      (au (aN (i:=5) iD.nd rfl (Or.inr rfl) (aF vH (hr.mono (by decide)) rfl gC.m gC.F.kp gC.b .nil bH (ak (pv 0) (ak (pv 4) aq))))
      (au (jf (i:=6) (ao eN) rfl ["below","springs","roll","calls","dry","lowest","numbers","natural","wants","total"] rfl ["number","one","lowest","below"] [none,none,some 5,some 0] (by decide +kernel) (by decide +kernel) (by decide +kernel) rfl iD.nd rfl rfl (uW rfl B.enumerate (ak (pv 2) aq)) (fun _ _ _=>(nR (K:=K) (n:=2) rfl rfl (aZ (aG (i:=0) (show (["number","one","lowest","below"]:List Str).Nodup by decide +kernel) rfl (Or.inl rfl)) (aZ (aG (i:=1) (show (["number","one","lowest","below"]:List Str).Nodup by decide +kernel) rfl (Or.inl rfl)) iI)))) (fun _ _ _=>(nO (sI (mG (aF vG (hr.mono (by decide)) rfl iV.m iV.F.kp iV.b .nil bH (ak (aF gP (hr.mono (by decide)) rfl aX.m aX.F.kp aX.b .nil bH (ak (pv 3) (ak (pv 1) aq))) (ak (pv 2) aq))))))) (fun _ _ _=>(pv 0)) rfl)
      (au (aN (i:=7) iD.nd rfl (Or.inr rfl) (aF gQ (hr.mono (by decide)) rfl aY.m aY.F.kp aY.b .nil bH (ak (pv 0) (ak (pv 1) aq))))
      (au (aN (i:=8) iD.nd rfl (Or.inr rfl) (aF lX (hr.mono (by decide)) rfl cJ.m cJ.F.kp cJ.b .nil bH (ak (pv 2) (ak (pv 3) aq))))
      (au (aN (i:=9) iD.nd rfl (Or.inl rfl) (aL dh (aH (lA rfl) rfl B.sum PyProof.Rows.boot_sum (ak (fU (ao eN) rfl ["below","springs","roll","calls","dry","lowest","numbers","natural","wants","total"] rfl ["reach","natural"] [none,some 7] (by decide +kernel) (by decide +kernel) (by decide +kernel) rfl (bM (pv 5)) (fun _ _ _=>(aG (i:=0) (show (["reach","natural"]:List Str).Nodup by decide +kernel) rfl (Or.inl rfl))) (fun _ _ _=>fQ) (fun _ _ _=>(bC (fZ (K:=K) rfl) (pv 1) (pv 0) (fun _ _=>rfl)))) aq)) (aH (lA rfl) rfl B.sum PyProof.Rows.boot_sum (ak (fU (ao eN) rfl ["below","springs","roll","calls","dry","lowest","numbers","natural","wants","total"] rfl ["number","wants"] [none,some 8] (by decide +kernel) (by decide +kernel) (by decide +kernel) rfl (bM (pv 6)) (fun _ _ _=>(aG (i:=0) (show (["number","wants"]:List Str).Nodup by decide +kernel) rfl (Or.inl rfl))) (fun _ _ _=>fQ) (fun _ _ _=>(bC (fZ (K:=K) rfl) (pv 1) (pv 0) (fun _ _=>rfl)))) aq))))
      (aD (bA (pP (ak (pv 9) (ak (pv 5) (ak (pv 6) aq))))))))))))),?_⟩
    refine RT ?_
    intro zu0 zu1 zu2 zu3 zu4 zu5 zu6 zu7
    have O:=Ow.refl tk
    refine ⟨_,rfl,va,rfl,⟨_,hV⟩,fun acc hacc=>?_⟩
    refine dw (K:=K) (xs:=vs) (fun i τ H'=>Iv (∃ (v0:Option V),τ=[v0]∧Ow T H H' [(acc,.lst (((ls.take i).map fun l:Lic=>!decide (l.back=-1)).map V.bl))])) ⟨trivial,none,rfl,O.mk' hacc rfl⟩ (fun i τ H' _ ⟨_,_,_,O⟩=>O.same.seq hV) ?_ ?_
    · rintro i y τ H3 hy ⟨-,v0,rfl,O⟩
      obtain ⟨al,l,rfl,hl,hT⟩:=d0.qQ hy
      refine yD ?_
      refine ⟨_,rfl,al,l,rfl,hT.mo O.same,?_⟩
      refine ⟨_,O.get 0,aQ (by rw [List.length_map,List.length_map,List.length_take];omega),?_⟩
      walk_at "pt"
      refine ⟨trivial,_,rfl,?_⟩
      rw [Tn.bV hl,List.map_append,List.map_append];exact O
    rintro τ H3 ⟨-,v0,rfl,O⟩
    rw [hvl,List.take_of_length_le (Nat.le_refl _)] at O
    refine ⟨acc,_,rfl,O.sq 0,?_⟩
    rw [show (ls.map fun l:Lic=>!decide (l.back=-1)).any id=false from by
      rw [List.any_map,List.any_eq_false]
      intro l hl
      simp [hback l hl]]
    refine ⟨_,rfl,Gh ?_⟩
    have O:=O.tail
    refine ⟨_,rfl,_,rfl,_,rfl,_,rfl,_,rfl,_,rfl,_,rfl,a,b,c,.ref va,r,sp,ls,cs,rfl,⟨O.same.seq hA,hR,h64⟩,O.same.seq hB,hsl,hsn,hd.lQ O.same,hl64,O.same.seq hC,hlc,ok,hcn,O.same.t1,O.pX fun lt H4 ys O e=>?_⟩
    obtain ⟨xs,rfl,DL⟩:=e
    have hxl:=DL.len
    refine ⟨a,b,lt,.ref va,r,sp,ls,xs,rfl,⟨O.same.seq hA,hR,h64⟩,O.same.seq hB,hsl,hd.lQ O.same,O.sq 0,hxl.symm,ok1,O.same.t1,O.pX fun ly H5 ys O e=>?_⟩
    subst e
    have hyl:(Rp r sp ls xs).length<64:=by have:=pG (o9 r sp ls xs) r.length;rw [Tn.dW];omega
    refine ⟨_,rfl,_,rfl,a,ly,r,_,rfl,⟨O.same.seq hA,hR,h64⟩,O.sq 0,hyl,qX r sp ls xs,O.same.t1,O.pX fun lo H6 ys O e=>?_⟩
    subst e
    have O:=(O.del 1).del 1
    walk_at "er"
    have tot:=Bx hR ok1 hback DL
    have hcl:(J1 r sp ls xs).length≤64:=by have:=Rv.DW r (Rp r sp ls xs) r.length;rw [Tn.dW];omega
    have hcr:∀ x∈J1 r sp ls xs,0≤x∧x<(r.length:Int):=fun x hx=>qX r sp ls xs x (Rv.tu ((Rv.nZ (qX r sp ls xs) x).mp hx))
    have q:=fun t nu H'=>q t lo nu H' xs DL
    have O:Ow T H _ [(lo,.lst ((J1 r sp ls xs).map V.int))]:=O
    generalize J1 r sp ls xs=L at O tot hcl hcr q
    /- numbers -/
    refine ⟨_,rfl,va,_,rfl,O.same.seq hV,fun nu hnu=>?_⟩
    refine tU (K:=K) (xs:=vs) (fun i τ H'=>Iv (∃ (v0 v1:Option V),τ=[v0,v1,some (.ref lo),some (.ref a)]∧Ow T H H' [(nu,.lst ((Tn.asI (o8 r ls L i)).map V.int)),(lo,.lst (L.map V.int))]))
      ⟨trivial,none,none,rfl,O.mk' hnu rfl⟩ (fun i τ H' _ ⟨_,_,_,_,O⟩=>O.same.seq hV) ?_ ?_
    · rintro i y t' τ H7 hy ⟨-,v0,v1,rfl,O⟩ ht'
      obtain ⟨al,l,rfl,hl,hT⟩:=d0.qQ hy
      have hi:=(List.getElem?_eq_some_iff.mp hl).1
      have hnl:=sX r ls L i
      walk_at "nw"
      refine ⟨t',_,rfl,O.sqT 0,rfl,_,_,rfl,_,_,rfl,rfl,?_⟩
      have O:=O.tail
      refine ⟨_,rfl,_,rfl,a,al,r,l,rfl,O.same.seq hA,hR,by omega,hT.mo O.same,ok1 l (List.mem_of_getElem? hl),O.got fun lw H8 ws O e=>?_⟩
      subst e
      refine ⟨_,rfl,lw,lo,_,_,rfl,O.sq 0,O.sq 2,by have:=xK r l.start l.back;omega,O.same.t1,fun H9 sm=>?_⟩
      have O:=(O.yt sm).tail
      refine ⟨_,rfl,?_⟩
      have ew:oZ r ls i=Rv.iW r l.start l.back:=ju hl
      cases hm:Rv.fH (Rv.iW r l.start l.back) L with
      | true=>exact ⟨trivial,_,_,rfl,by rw [pQ,ew,if_pos hm,List.append_nil];exact O⟩
      | false =>
        refine ⟨_,rfl,_,O.get 0,aQ (by rw [List.length_map,Tn.dW];omega),?_⟩
        walk_at "pt"
        refine ⟨trivial,_,_,rfl,?_⟩
        rw [pQ,ew,if_neg (by rw [hm];decide),ud];exact O
    rintro τ H7 ⟨-,v0,v1,rfl,O⟩
    rw [hvl] at O
    refine ⟨_,rfl,_,rfl,a,b,r,sp,rfl,⟨O.same.seq hA,hR,h64⟩,O.same.seq hB,hsl,O.same.t1,O.pX fun ln H8 ys O e=>?_⟩
    subst e
    refine ⟨_,rfl,_,rfl,.ref va,c,ls,cs,rfl,hd.lQ O.same,O.same.seq hC,hlc,by omega,O.same.t1,O.pX fun lw H9 ys O e=>?_⟩
    subst e
    have hnl:(Rv.nats r sp).length=r.length:=qO r sp
    have hwl:=lH hlc
    have hmr:∀ k∈o8 r ls L ls.length,k<ls.length:=fun k hk=>List.mem_range.mp (List.mem_filter.mp hk).1
    have hml:=sX r ls L ls.length
    generalize hne:o8 r ls L ls.length=N at O tot hmr hml
    refine ⟨_,rfl,lo,rfl,⟨_,O.sq 3⟩,fun l1 hl1=>?_⟩
    refine dw (K:=K) (xs:=L.map V.int) (fun i τ H'=>Iv (∃ (v0:Option V),τ=[v0,some (.ref ln)]∧Ow T H H' [(l1,.lst (((L.take i).map fun z=>(Rv.nats r sp).getD z.toNat 0).map V.int)),(lw,.lst ((dH ls cs).map V.int)),(ln,.lst ((Rv.nats r sp).map V.int)),(nu,.lst ((Tn.asI N).map V.int)),(lo,.lst (L.map V.int))])) ⟨trivial,none,rfl,O.mk' hl1 rfl⟩ (fun i τ H' _ ⟨_,_,_,O⟩=>O.sq 4) ?_ ?_
    · rintro i y τ H10 hy ⟨-,v0,rfl,O⟩
      obtain ⟨z,hz,rfl⟩:=ints_get hy
      obtain ⟨z0,z1⟩:=hcr z (List.mem_of_getElem? hz)
      have hi:=(List.getElem?_eq_some_iff.mp hz).1
      refine yD ?_
      refine ⟨_,rfl,_,rfl,ln,_,_,_,rfl,rfl,O.sq 2,bY z0 (by rw [hnl];exact z1),?_⟩
      refine ⟨_,O.get 0,aQ (by rw [List.length_map,List.length_map,List.length_take];omega),?_⟩
      walk_at "pt"
      refine ⟨trivial,_,rfl,?_⟩
      rw [Tn.bV hz,List.map_append,List.map_append];exact O
    rintro τ H10 ⟨-,v0,rfl,O⟩
    rw [List.length_map,List.take_of_length_le (Nat.le_refl _)] at O
    refine ⟨l1,_,rfl,O.sq 0,?_⟩
    have O:=O.tail
    refine ⟨_,rfl,nu,rfl,⟨_,O.sq 2⟩,fun l2 hl2=>?_⟩
    refine dw (K:=K) (xs:=(Tn.asI N).map V.int) (fun i τ H'=>Iv (∃ (v0:Option V),τ=[v0,some (.ref lw)]∧Ow T H H' [(l2,.lst (((N.take i).map fun k=>(dH ls cs).getD k 0).map V.int)),(lw,.lst ((dH ls cs).map V.int)),(ln,.lst ((Rv.nats r sp).map V.int)),(nu,.lst ((Tn.asI N).map V.int)),(lo,.lst (L.map V.int))])) ⟨trivial,none,rfl,O.mk' hl2 rfl⟩ (fun i τ H' _ ⟨_,_,_,O⟩=>O.sq 3) ?_ ?_
    · rintro i y τ H11 hy ⟨-,v0,rfl,O⟩
      obtain ⟨z,hz,rfl⟩:=ints_get hy
      have hz2:∃ k,N[i]?=some k∧z=(k:Int):=by
        unfold Tn.asI at hz
        rw [List.getElem?_map] at hz
        cases e:N[i]? with
        | none=>rw [e] at hz;cases hz
        | some k=>rw [e] at hz;exact ⟨k,rfl,(Option.some.inj hz).symm⟩
      obtain ⟨kk,hk,rfl⟩:=hz2
      have hkl:=hmr kk (List.mem_of_getElem? hk)
      refine yD ?_
      refine ⟨_,rfl,_,rfl,lw,_,_,_,rfl,rfl,O.sq 1,eO (bI (ns:=dH ls cs) (k:=kk) (by omega)),?_⟩
      refine ⟨_,O.get 0,aQ (by rw [List.length_map,List.length_map,List.length_take];omega),?_⟩
      walk_at "pt"
      refine ⟨trivial,_,rfl,?_⟩
      rw [Tn.bV hk,List.map_append,List.map_append];exact O
    rintro τ H11 ⟨-,v0,rfl,O⟩
    rw [List.length_map,Tn.dW,List.take_of_length_le (Nat.le_refl _)] at O
    refine ⟨l2,_,rfl,O.sq 0,_,_,rfl,rfl,?_⟩
    dsimp only
    rw [tot]
    have O:=((O.del 0).del 0).del 0
    walk_at "er"
    refine ⟨_,rfl,_,rfl,_,rfl,szl,fun t ht=>?_⟩
    walk_at "nw"
    exact q t nu _ (by rw [hne];exact O)
theorem Eu {ls:List Lic} (h:∀ l∈ls,0≤l.day) (k:Nat):0≤qY ls k:=by
  unfold qY
  cases e:ls[k]? with
  | none=>exact Int.le_refl _
  | some l=>exact h l (List.mem_of_getElem? e)
theorem Et {r s:List Int} {ls:List Lic} {cs xs ys:List Int} (hd:∀ l∈ls,0≤l.day) (a:yC r s ls cs xs) (b:yC r s ls cs ys):ys=xs:=by
  have xl:=a.len
  have yl:=b.len
  refine List.ext_getElem? fun i=>?_
  by_cases hi:i<ls.length
  · have:=Tn.unique (fun k _=>Eu hd k) b.fit b.shown a.fit a.shown i hi
    rw [bI (ns:=ys) (by omega),bI (ns:=xs) (by omega)]
    exact congrArg some this
  · rw [List.getElem?_eq_none (by omega),List.getElem?_eq_none (by omega)]
abbrev nJ:Stmt:=top 47
theorem je:aU ["script","below","kind","springs","far","roll","calls","cell","one","call","rival","found","told"] ["script"] (ao nJ):=⟨rfl,rfl,rfl,by decide +kernel,rfl,by decide +kernel,by decide +kernel⟩
def wg (K:PySem.W.Frag) (T:gk):Sp:=fun vs H Q _=>∃ (a:Addr) (ns:List Int),vs=[.ref a]∧SqL K H a (ns.map V.int)∧ns.length≤63∧TabsOk T H∧∀ H',Q (.bl true) H'
theorem Fx {r:List Int} {ls:List Lic} (ok:∀ l∈ls,Ln r l) {k:Nat} (hk:k<ls.length):(0≤stL ls k∧stL ls k<r.length)∧oZ r ls k=Rv.walk r (stL ls k):=by
  have e:=List.getElem?_eq_getElem hk
  obtain ⟨⟨⟨h0,h1,_⟩,_⟩,_,hb⟩:=ok _ (List.getElem_mem hk)
  rw [Ly e,ju e]
  refine ⟨⟨h0,h1⟩,?_⟩
  unfold Rv.iW;rw [if_pos hb]
theorem CW {r s:List Int} {ls:List Lic} {cs xs ws:List Int} (hR:Rv.cG r) (hsn:∀ x∈s,0≤x) (ok:∀ l∈ls,Ln r l) (D:yC r s ls cs xs) (wl:ws.length=ls.length) (F:Tn.Fit ls.length (Tn.fF (Rv.nats r s)) (oZ r ls) (Tn.fX (dH ls cs)) (Tn.fX ws)):ws.sum≤xs.sum:=by
  have h:=Rv.yc hR (Ae hsn) (fun k hk=>(Fx ok hk).1) (fun k hk=>(Fx ok hk).2) D.fit D.shown F
  have e1:=yV ws
  have e2:=yV xs
  rw [wl] at e1
  rw [D.len] at e2
  omega
theorem Gd (K:PySem.W.Frag):PySem.W.kitOne K (.type "tuple") (.type "tuple")=some true:=by rfl
theorem Mu {f f1 f2 f3 f4 f5 f6 f7 f8:Addr} {fd fd1 fd2 fd3 fd4 fd5 fd6 fd7 fd8:FuncData} (D:Df K mg "law" nJ ["script"] f fd) (B:Blt mg)
    (aJ:Df K mg "_law_cell_at" bU ["script","k"] f1 fd1) (eH:bZ P w K mg base CX0 1 f1 fd1 ["script","k"] (zx K))
    (fB:Df K mg "_law_river" cB ["cell"] f2 fd2) (ur:bZ P w K mg base CX0 3 f2 fd2 ["cell"] (vY T))
    (dB:Df K mg "_law_springs" bR ["cell","size","kind"] f3 fd3) (pC:bZ P w K mg base CX0 3 f3 fd3 ["cell","size","kind"] (pL T))
    (fD:Df K mg "_law_drawn" cU ["cell","size","far","kind"] f4 fd4) (ux:bZ P w K mg base CX0 3 f4 fd4 ["cell","size","far","kind"] (wu T))
    (fC:Df K mg "_law_rival" cC ["below","springs","roll","calls","cell"] f5 fd5) (uw:bZ P w K mg base CX0 3 f5 fd5 ["below","springs","roll","calls","cell"] (FJ K T))
    (jQ:Df K mg "cut_of" eN ["below","springs","roll","calls"] f8 fd8) (Ft:bZ P w K mg base CX0 9 f8 fd8 ["below","springs","roll","calls"] (FQ K T))
    (jH:Df K mg "deal" jz ["below","springs","roll","calls"] f6 fd6) (Cr:bZ P w K mg base CX0 7 f6 fd6 ["below","springs","roll","calls"] (uO K T))
    (cF:Df K mg "_law_whole" cR ["found"] f7 fd7) (mO:bZ P w K mg base CX0 1 f7 fd7 ["found"] vV):bZ P w K mg base CX0 10 f fd ["script"] (wg K T):=by
  refine D.F.ok je (fun vs H Q E h=>?_) (fun cdv A outer s H vs Q E hr h=>?_)
  · obtain ⟨_,_,rfl,_⟩:=h;rfl
  · obtain ⟨a,ns,rfl,hS,hlen,tk,k⟩:=h
    refine ⟨_,(au (aN (i:=1) je.nd rfl (Or.inl rfl) (aF ur (hr.mono (by decide)) rfl fB.m fB.F.kp fB.b .nil bH (ak (aF eH (hr.mono (by decide)) rfl aJ.m aJ.F.kp aJ.b .nil bH (ak (pv 0) (ak aA aq))) aq)))
      (au (aN (i:=2) je.nd rfl (Or.inl rfl) (aL cD (aF eH (hr.mono (by decide)) rfl aJ.m aJ.F.kp aJ.b .nil bH (ak (pv 0) (ak aA aq))) aA))
      (au (aN (i:=3) je.nd rfl (Or.inl rfl) (aF pC (hr.mono (by decide)) rfl dB.m dB.F.kp dB.b .nil bH (ak (aF eH (hr.mono (by decide)) rfl aJ.m aJ.F.kp aJ.b .nil bH (ak (pv 0) (ak aA aq))) (ak (aH aK rfl B.len PySem.boot_len (ak (pv 1) aq)) (ak (pv 2) aq)))))
      (au (aN (i:=4) je.nd rfl (Or.inl rfl) (aL dh aA (aL cD (aL jA (aF eH (hr.mono (by decide)) rfl aJ.m aJ.F.kp aJ.b .nil bH (ak (pv 0) (ak aA aq))) aA) aA)))
      (au (aN (i:=5) je.nd rfl (Or.inl rfl) (gM aq))
      (au (aN (i:=6) je.nd rfl (Or.inl rfl) (gM aq))
      (au (gq PassesOwn.never rfl (bM (qK uP (pv 0) (qJ aA) (qJ aA))) (aG (i:=7) je.nd rfl (Or.inl rfl))
        (au (mH (aF ux (hr.mono (by decide)) rfl fD.m fD.F.kp fD.b .nil bH (ak (pv 7) (ak (aH aK rfl B.len PySem.boot_len (ak (pv 1) aq)) (ak (pv 4) (ak (pv 2) aq))))) (nT rfl (aZ (aG (i:=8) je.nd rfl (Or.inl rfl)) (aZ (aG (i:=9) je.nd rfl (Or.inl rfl)) iI))))
        (au (gY (o7 PySem.F.plainAttrs_list PySem.F.slot_list_append PySem.F.type_list_append eE (pv 5) (ak (pv 8) aq)))
        (aD (gY (o7 PySem.F.plainAttrs_list PySem.F.slot_list_append PySem.F.type_list_append eE (pv 6) (ak (pv 9) aq)))))))
      (au (aN (i:=10) je.nd rfl (Or.inl rfl) (aF uw (hr.mono (by decide)) rfl fC.m fC.F.kp fC.b .nil bH (ak (pv 1) (ak (pv 3) (ak (pv 5) (ak (pv 6) (ak (aF eH (hr.mono (by decide)) rfl aJ.m aJ.F.kp aJ.b .nil bH (ak (pv 0) (ak aA aq))) aq)))))))
      (au (aN (i:=11) je.nd rfl (Or.inl rfl) (aF Cr (hr.mono (by decide)) rfl jH.m jH.F.kp jH.b .nil bH (ak (dO bK rfl B.list PyProof.Rows.boot_list (ak (pv 1) aq)) (ak (dO bK rfl B.list PyProof.Rows.boot_list (ak (pv 3) aq)) (ak (dO bK rfl B.list PyProof.Rows.boot_list (ak (pv 5) aq)) (ak (dO bK rfl B.list PyProof.Rows.boot_list (ak (pv 6) aq)) aq))))))
      (au (jX (PW.pt (pw_or (sI (mG (aH jq rfl B.isinstance PyProof.Rows.boot_isinstance (ak (pv 11) (ak (qM (v:=.ty "list") rfl B.list PyProof.Rows.boot_list rfl) aq))))) (pw_or1 (dF uZ (aH aK rfl B.len PySem.boot_len (ak (pv 11) aq)) (aH aK rfl B.len PySem.boot_len (ak (pv 5) aq)) (d9 _)))))
        (aD (bA Kq))
        gB)
      (au (jX (dF uZ (aH aK rfl B.len PySem.boot_len (ak (fU (ao nJ) rfl ["script","below","kind","springs","far","roll","calls","cell","one","call","rival","found","told"] rfl ["take"] [none] (by decide +kernel) (by decide +kernel) (by decide +kernel) rfl (bM (pv 11)) (fun _ _ _=>(aG (i:=0) (show (["take"]:List Str).Nodup by decide +kernel) rfl (Or.inl rfl))) (fun _ _ _=>(nO (mG (aF mO (hr.mono (by decide)) rfl cF.m cF.F.kp cF.b .nil bH (ak (pv 0) aq))))) (fun _ _ _=>(pv 0))) aq)) (aH aK rfl B.len PySem.boot_len (ak (pv 5) aq)) (d9 _))
        (aD (bA Kq))
        gB)
      (au (aN (i:=12) je.nd rfl (Or.inl rfl) (aF Ft (hr.mono (by decide)) rfl jQ.m jQ.F.kp jQ.b .nil bH (ak (dO bK rfl B.list PyProof.Rows.boot_list (ak (pv 1) aq)) (ak (dO bK rfl B.list PyProof.Rows.boot_list (ak (pv 3) aq)) (ak (dO bK rfl B.list PyProof.Rows.boot_list (ak (pv 5) aq)) (ak (dO bK rfl B.list PyProof.Rows.boot_list (ak (pv 6) aq)) aq))))))
      (au (jX (PW.pt (pw_or (sI (mG (aH jq rfl B.isinstance PyProof.Rows.boot_isinstance (ak (pv 12) (ak (qM (v:=.ty "tuple") rfl B.tuple PyProof.Rows.boot_tuple rfl) aq))))) (pw_or (dF uZ (aH aK rfl B.len PySem.boot_len (ak (pv 12) aq)) aA (d9 _)) (pw_or1 (sI (mG (aF mO (hr.mono (by decide)) rfl cF.m cF.F.kp cF.b .nil bH (ak (bC oA (pv 12) aA (fun _ _=>rfl)) aq))))))))
        (aD (bA Kq))
        gB)
      (aD (bA (Ga (nU Sh (aH (lA rfl) rfl B.sum PyProof.Rows.boot_sum (ak (pv 10) aq)) (aH (lA rfl) rfl B.sum PyProof.Rows.boot_sum (ak (pv 11) aq)) (d9 _)) (FZ (nU u5 (aH (lA rfl) rfl B.sum PyProof.Rows.boot_sum (ak (pv 11) aq)) (bC oA (pv 12) aA (fun _ _=>rfl)) (d9 _))))))))))))))))))),?_⟩
    refine RQ ?_
    intro zu0 zu1 zu2 zu3 zu4 zu5 zu6 zu7 zu8 zu9 zu10 zu11 zu12 zu13 zu14 zu15 zu16 zu17 zu18
    have O:=Ow.refl tk
    have s0:=O.same
    refine ⟨_,rfl,a,ns,0,rfl,hS,_,rfl,tk,O.pX fun lv H1 rs O e=>?_⟩
    obtain ⟨r,rfl,hR,r1,r40⟩:=e
    have hml:(r.map V.int).length=r.length:=List.length_map _
    refine ⟨_,rfl,a,ns,2,rfl,O.same.seq hS,_,_,rfl,rfl,(by show (0:Int)<3;decide),?_⟩
    dsimp only
    generalize ns.getD 2 0 % 3=kd
    refine ⟨_,rfl,a,ns,1,rfl,O.same.seq hS,_,rfl,lv,_,rfl,.inl (O.sq 0),_,rfl,_,kd,r.length,by rw [hml];rfl,by omega,O.same.t1,O.pX fun lg H2 ss O e=>?_⟩
    obtain ⟨sp,rfl,hsl,hsn⟩:=e
    refine ⟨_,rfl,a,ns,2,rfl,O.same.seq hS,_,_,rfl,rfl,⟨by decide,by decide⟩,_,_,rfl,rfl,(by show (0:Int)<333333;decide),_,_,rfl,rfl,?_⟩
    dsimp only
    have hfar:0≤1 + ns.getD 2 0 / 3 % 333333:=by omega
    generalize 1 + ns.getD 2 0 / 3 % 333333=far at hfar
    refine ⟨szl,fun lr hlr=>?_⟩
    walk_at "nw"
    refine ⟨szl,fun lc hlc=>?_⟩
    walk_at "nw"
    refine ⟨_,rfl,4,rfl,44,rfl,a,_,rfl,O.same.seq hS,fun lq hlq=>?_⟩
    walk_at "nw"
    rw [show yr (ns.map V.int) (some 4) (some 44)=((ns.drop 4).take 40).map V.int from Rb ns 4 44] at O
    have hql:((ns.drop 4).take 40).length≤40:=by rw [List.length_take];omega
    generalize (ns.drop 4).take 40=qs at O hql
    refine ⟨lq,rfl,⟨_,O.sq 0⟩,?_⟩
    refine dX (K:=K) (xs:=qs.map V.int) (fun i σ H'=>Iv (∃ (Hb:Hp) (vs:List V) (ls:List Lic) (cs:List Int) (v7 v8 v9:Option V),σ=[some (.ref a),some (.ref lv),some (.int kd),some (.ref lg),some (.int far),some (.ref lr),some (.ref lc),v7,v8,v9,none,none,none] ∧
      Ow T Hb H' [(lq,.lst (qs.map V.int)),(lc,.lst (cs.map V.int)),(lr,.lst vs),(lg,.lst (sp.map V.int)),(lv,.lst (r.map V.int))]∧bF T H Hb∧gR K Hb vs (ls.map La)∧ls.length=i∧cs.length=i∧(∀ l∈ls,Ln r l)∧∀ c∈cs,0≤c))
      ⟨trivial,H,[],[],[],none,none,none,rfl,O,s0,.nil,rfl,rfl,(fun l hl=>nomatch hl),fun l hl=>nomatch hl⟩ (fun i σ H' _ ⟨_,_,_,_,_,_,_,_,_,O,_⟩=>O.sq 0) ?_ ?_
    · rintro i y σ H4 hy ⟨-,Hb,vs,ls,cs,v7,v8,v9,rfl,O,s0,d0,hli,hci,hok,hcn⟩
      obtain ⟨z,hz,rfl⟩:=ints_get hy
      have hi:=(List.getElem?_eq_some_iff.mp hz).1
      have hvl:vs.length=ls.length:=by rw [d0.length,List.length_map]
      refine ⟨_,rfl,_,rfl,lv,_,rfl,.inl (O.sq 4),_,rfl,_,rfl,z,far,kd,r.length,by rw [hml];rfl,r1,by omega,hfar,O.same.t1,fun t t2 H5 l ca OD l0 l1 l2 l3 l4 c0=>?_⟩
      have O:=O.join OD
      walk_at "jn"
      refine ⟨t,_,rfl,O.sqT 0,rfl,_,_,rfl,_,_,rfl,rfl,?_⟩
      have O:=O.tail
      walk_at "w"
      walk_at "app"
      walk_at "w"
      walk_at "app"
      rw [mZ] at O
      obtain ⟨Hn2,O,sn,en⟩:=O.Ur 0
      walk_at "mo"
      refine ⟨trivial,Hn2,vs++[.ref t2],ls++[l],cs++[ca],_,_,_,rfl,O,s0,?_,by rw [List.length_append,hli];rfl,by rw [List.length_append,hci];rfl,Av hok (Ln.mk' l0 l1 l2 l3 l4),qN hcn c0⟩
      rw [List.map_append]
      exact d0.append (.cons (Den.lic (SqT.of en)) .nil)
    rintro σ H4 ⟨-,Hb,vs,ls,cs,v7,v8,v9,rfl,O,s0,d0,hli,hci,hok,hcn⟩
    rw [List.length_map] at hli hci
    have hvl:vs.length=ls.length:=by rw [d0.length,List.length_map]
    have O:=O.tail
    have hlc:ls.length=cs.length:=by omega
    have dr:∀ (H':Hp) (v:Addr),bF T Hb H'→SqL K H' v vs→Den K H' (.ref v) (pq ls):=fun H' v sm h=>.list h (d0.mo sm)
    have hok2:∀ l∈ls,oV r l:=fun l hl=>(hok l hl).1
    /- rival -/
    refine ⟨_,rfl,_,rfl,_,rfl,_,rfl,_,rfl,a,ns,3,rfl,(s0.trans O.same).seq hS,lv,lg,lc,.ref lr,_,r,sp,ls,cs,rfl,O.sq 3,hR,by omega,O.sq 2,hsl,hsn,dr _ lr O.same (O.sq 1),by omega,O.sq 0,hlc,hok,hcn,O.same.t1,O.pX fun lR H5 ys O e=>?_⟩
    obtain ⟨ws,rfl,wl,FW⟩:=e
    /- found -/
    refine ⟨_,rfl,lv,_,rfl,.inl (O.sq 4),fun la1 hla1=>?_⟩
    walk_at "nw"
    refine ⟨_,rfl,lg,_,rfl,.inl (O.sq 4),fun lj hlj=>?_⟩
    walk_at "nw"
    refine ⟨_,rfl,lr,_,rfl,.inl (O.sq 4),fun lb hlb=>?_⟩
    walk_at "nw"
    refine ⟨_,rfl,lc,_,rfl,.inl (O.sq 4),fun lx hlx=>?_⟩
    walk_at "nw"
    refine ⟨la1,lj,lx,.ref lb,r,sp,ls,cs,rfl,⟨O.sq 3,hR,by omega⟩,O.sq 2,hsl,hsn,dr _ lb O.same (O.sq 1),by omega,O.sq 0,hlc,hok2,hcn,O.same.t1,O.pX fun lf H7 ys O e=>?_⟩
    obtain ⟨xs,rfl,DX⟩:=e
    have O:=(((O.del 1).del 1).del 1).del 1
    walk_at "er"
    have xl:=DX.len
    have hxm:(xs.map V.int).length=xs.length:=List.length_map _
    refine ⟨_,rfl,_,_,_,true,rfl,.lst (O.get 0),Ge K,_,rfl,Gh ?_⟩
    refine ⟨_,rfl,lf,_,rfl,.inl (O.sq 0),_,rfl,lr,_,rfl,.inl (O.sq 3),rfl,_,rfl,ifN (ifI (fun _=>?_) fun hc=>absurd (by rw [hxm,hvl,xl]) hc)⟩
    /- whole -/
    refine ⟨_,rfl,lf,rfl,⟨_,O.sq 0⟩,fun ln hln=>?_⟩
    refine dw (K:=K) (xs:=xs.map V.int) (fun i τ H'=>Iv (∃ (v0:Option V),τ=[v0]∧Ow T Hb H' [(ln,.lst ((xs.take i).map V.int)),(lf,.lst (xs.map V.int)),(lR,.lst (ws.map V.int)),(lc,.lst (cs.map V.int)),(lr,.lst vs),(lg,.lst (sp.map V.int)),(lv,.lst (r.map V.int))]))
      ⟨trivial,none,rfl,O.mk' hln rfl⟩ (fun i τ H' _ ⟨_,_,_,O⟩=>O.sq 1) ?_ ?_
    · rintro i y τ H9 hy ⟨-,v0,rfl,O⟩
      obtain ⟨z,hz,rfl⟩:=ints_get hy
      have hi:=(List.getElem?_eq_some_iff.mp hz).1
      refine ⟨_,rfl,z,rfl,_,rfl,KZ ?_⟩
      refine ⟨_,rfl,_,O.get 0,aQ (by rw [List.length_map,List.length_take];omega),?_⟩
      walk_at "pt"
      refine ⟨trivial,_,rfl,?_⟩
      rw [pJ hz,List.map_append];exact O
    rintro τ H9 ⟨-,v0,rfl,O⟩
    rw [List.length_map,List.take_of_length_le (Nat.le_refl _)] at O
    refine ⟨ln,_,rfl,.inl (O.sq 0),_,rfl,lr,_,rfl,.inl (O.sq 4),rfl,_,rfl,ifN (ifI (fun _=>?_) fun hc=>absurd (by rw [hxm,hvl,xl]) hc)⟩
    have O:=O.tail
    /- told -/
    refine ⟨_,rfl,lv,_,rfl,.inl (O.sq 5),fun la2 hla2=>?_⟩
    walk_at "nw"
    refine ⟨_,rfl,lg,_,rfl,.inl (O.sq 5),fun lj2 hlj2=>?_⟩
    walk_at "nw"
    refine ⟨_,rfl,lr,_,rfl,.inl (O.sq 5),fun lb2 hlb2=>?_⟩
    walk_at "nw"
    refine ⟨_,rfl,lc,_,rfl,.inl (O.sq 5),fun lx2 hlx2=>?_⟩
    walk_at "nw"
    refine ⟨la2,lj2,lx2,.ref lb2,r,sp,ls,cs,rfl,⟨O.sq 3,hR,by omega⟩,O.sq 2,hsl,hsn,dr _ lb2 O.same (O.sq 1),by omega,O.sq 0,hlc,hok2,hcn,(fun l hl=>(hok l hl).2.2),O.same.t1,fun t lo nu H10 xs2 DX2 OD=>?_⟩
    have ex:xs2=xs:=Et (fun l hl=>(hok l hl).2.1) DX DX2
    subst ex
    have O:=O.join OD
    walk_at "jn"
    refine ⟨_,rfl,_,_,_,true,rfl,.tup (O.get 0),Gd K,_,rfl,Gh ?_⟩
    refine ⟨_,rfl,t,_,rfl,.inr (O.sqT 0),rfl,_,rfl,ifN (ifI (fun _=>?_) fun hc=>absurd rfl hc)⟩
    refine ⟨_,rfl,t,_,0,_,rfl,rfl,O.sqT 0,rfl,_,rfl,_,rfl,Gh ?_⟩
    refine ⟨_,rfl,lR,ws,rfl,O.sq 8,_,rfl,lf,_,rfl,O.sq 7,_,_,rfl,rfl,_,rfl,?_⟩
    rw [decide_eq_true (CW hR hsn hok DX wl FW)]
    refine KZ ?_
    refine ⟨_,rfl,lf,_,rfl,O.sq 7,_,rfl,t,_,0,_,rfl,rfl,O.sqT 0,rfl,rfl,?_⟩
    rw [decide_eq_true rfl]
    exact k _
theorem lD {K:PySem.W.Frag} {x qual:Str} {st:Stmt} {f:Addr} {fd:FuncData} {n0:Str} (F:Fun K x qual st f fd) (h:∀ (kV doc pm:Value) (an:Option Addr) (cdv ct u0:Value),bindArgs (PySem.W.fnOf x qual (aC st) (aB st) (ao st) .none kV doc pm an cdv ct) ⟨[u0],[]⟩=pure (([n0]:List Str).zip [u0])):Binds K fd [n0] [] :=
  F.binds (ps:=[n0]) fun kV doc pm an cdv ct us hl=>match us,hl with | [u0],_=>h kV doc pm an cdv ct u0
theorem jt {K:PySem.W.Frag} {x qual:Str} {st:Stmt} {f:Addr} {fd:FuncData} {n0 n1:Str} (F:Fun K x qual st f fd) (h:∀ (kV doc pm:Value) (an:Option Addr) (cdv ct u0 u1:Value),bindArgs (PySem.W.fnOf x qual (aC st) (aB st) (ao st) .none kV doc pm an cdv ct) ⟨[u0,u1],[]⟩=pure (([n0,n1]:List Str).zip [u0,u1])):Binds K fd [n0,n1] [] :=
  F.binds (ps:=[n0,n1]) fun kV doc pm an cdv ct us hl=>match us,hl with | [u0,u1],_=>h kV doc pm an cdv ct u0 u1
theorem qd {K:PySem.W.Frag} {x qual:Str} {st:Stmt} {f:Addr} {fd:FuncData} {n0 n1 n2:Str} (F:Fun K x qual st f fd) (h:∀ (kV doc pm:Value) (an:Option Addr) (cdv ct u0 u1 u2:Value),bindArgs (PySem.W.fnOf x qual (aC st) (aB st) (ao st) .none kV doc pm an cdv ct) ⟨[u0,u1,u2],[]⟩=pure (([n0,n1,n2]:List Str).zip [u0,u1,u2])):Binds K fd [n0,n1,n2] [] :=
  F.binds (ps:=[n0,n1,n2]) fun kV doc pm an cdv ct us hl=>match us,hl with | [u0,u1,u2],_=>h kV doc pm an cdv ct u0 u1 u2
theorem tY {K:PySem.W.Frag} {x qual:Str} {st:Stmt} {f:Addr} {fd:FuncData} {n0 n1 n2 n3:Str} (F:Fun K x qual st f fd) (h:∀ (kV doc pm:Value) (an:Option Addr) (cdv ct u0 u1 u2 u3:Value),bindArgs (PySem.W.fnOf x qual (aC st) (aB st) (ao st) .none kV doc pm an cdv ct) ⟨[u0,u1,u2,u3],[]⟩=pure (([n0,n1,n2,n3]:List Str).zip [u0,u1,u2,u3])):Binds K fd [n0,n1,n2,n3] [] :=
  F.binds (ps:=[n0,n1,n2,n3]) fun kV doc pm an cdv ct us hl=>match us,hl with | [u0,u1,u2,u3],_=>h kV doc pm an cdv ct u0 u1 u2 u3
theorem Cg {K:PySem.W.Frag} {x qual:Str} {st:Stmt} {f:Addr} {fd:FuncData} {n0 n1 n2 n3 n4:Str} (F:Fun K x qual st f fd) (h:∀ (kV doc pm:Value) (an:Option Addr) (cdv ct u0 u1 u2 u3 u4:Value),bindArgs (PySem.W.fnOf x qual (aC st) (aB st) (ao st) .none kV doc pm an cdv ct) ⟨[u0,u1,u2,u3,u4],[]⟩=pure (([n0,n1,n2,n3,n4]:List Str).zip [u0,u1,u2,u3,u4])):Binds K fd [n0,n1,n2,n3,n4] [] :=
  F.binds (ps:=[n0,n1,n2,n3,n4]) fun kV doc pm an cdv ct us hl=>match us,hl with | [u0,u1,u2,u3,u4],_=>h kV doc pm an cdv ct u0 u1 u2 u3 u4
theorem all_mk {l:PySem.W.OpenLaw} {w:World} {K:PySem.W.Frag} {h:Heap} {mg:Str→Option Value} {fa f0 f1 f2 f3 f4 f5 f6 f7 f8 f9 f10 f11 f12 f13 f14 f15 f16 f17 f18 f19 f20 f21 f22 f23 f24 f25 f26 f27 f28 f29 f30 f31 f32 f33 f34 pT0 cT0 pT1 cT1:Addr} (X:K.In h) (G:h.Ns mainGlobals mg) (hfa:mg "law"=some (.ref fa))
    {od0 an0 od1 an1 od2 an2 od3 an3 od4 an4 od5 an5 od6 an6 od7 an7 od8 an8 od9 an9 od10 an10 od11 an11 od12 an12 od13 an13 od14 an14 od15 an15 od16 an16 od17 an17 od18 an18 od19 an19 od20 an20 od21 an21 od22 an22 od23 an23 od24 an24 od25 an25 od26 an26 od27 an27 od28 an28 od29 an29 od30 an30 od31 an31 od32 an32 od33 an33 od34 an34:Option Addr} {sl0 sl1 sl2 sl3 sl4 sl5 sl6 sl7 sl8 sl9 sl10 sl11 sl12 sl13 sl14 sl15 sl16 sl17 sl18 sl19 sl20 sl21 sl22 sl23 sl24 sl25 sl26 sl27 sl28 sl29 sl30 sl31 sl32 sl33 sl34:Array (Option Value)} {oc0 kV0 dc0 pm0 cd0 ct0 oc1 kV1 dc1 pm1 ct1 oc2 kV2 dc2 pm2 cd2 ct2 oc3 kV3 dc3 pm3 cd3 ct3 oc4 kV4 dc4 pm4 cd4 ct4 oc5 kV5 dc5 pm5 cd5 ct5 oc6 kV6 dc6 pm6 cd6 ct6 oc7 kV7 dc7 pm7 cd7 ct7 oc8 kV8 dc8 pm8 ct8 oc9 kV9 dc9 pm9 cd9 ct9 oc10 kV10 dc10 pm10 cd10 ct10 oc11 kV11 dc11 pm11 cd11 ct11 oc12 kV12 dc12 pm12 cd12 ct12 oc13 kV13 dc13 pm13 cd13 ct13 oc14 kV14 dc14 pm14 cd14 ct14 oc15 kV15 dc15 pm15 cd15 ct15 oc16 kV16 dc16 pm16 cd16 ct16 oc17 kV17 dc17 pm17 cd17 ct17 oc18 kV18 dc18 pm18 cd18 ct18 oc19 kV19 dc19 pm19 cd19 ct19 oc20 kV20 dc20 pm20 cd20 ct20 oc21 kV21 dc21 pm21 cd21 ct21 oc22 kV22 dc22 pm22 cd22 ct22 oc23 kV23 dc23 pm23 cd23 ct23 oc24 kV24 dc24 pm24 cd24 ct24 oc25 kV25 dc25 pm25 cd25 ct25 oc26 kV26 dc26 pm26 cd26 ct26 oc27 kV27 dc27 pm27 cd27 ct27 oc28 kV28 dc28 pm28 cd28 ct28 oc29 kV29 dc29 pm29 cd29 ct29 oc30 kV30 dc30 pm30 cd30 ct30 oc31 kV31 dc31 pm31 cd31 ct31 oc32 kV32 dc32 pm32 cd32 ct32 oc33 kV33 dc33 pm33 cd33 ct33 oc34 kV34 dc34 pm34 cd34 ct34:Value} {t0:Tok}
    (a0:PySem.W.nsIn K mainGlobals "way_of"=some (some (.ref f0))) (l0:K.lookup f0=some ⟨oc0,od0,.func (PySem.W.fnOf "way_of" "way_of" (aC gH) (aB gH) (ao gH) .none kV0 dc0 pm0 an0 cd0 ct0),sl0⟩) (c0:PySem.W.codeIn K cd0 "way_of"=true) (k0:PySem.W.keepIn K (.ref f0)=true)
    (a1:PySem.W.nsIn K mainGlobals "tops_first"=some (some (.ref f1))) (l1:K.lookup f1=some ⟨oc1,od1,.func (PySem.W.fnOf "tops_first" "tops_first" (aC cA) (aB cA) (ao cA) .none kV1 dc1 pm1 an1 (.ref cT1) ct1),sl1⟩) (c1:PySem.W.codeIn K (.ref cT1) "tops_first"=true) (k1:PySem.W.keepIn K (.ref f1)=true)
    (a2:PySem.W.nsIn K mainGlobals "stretch_of"=some (some (.ref f2))) (l2:K.lookup f2=some ⟨oc2,od2,.func (PySem.W.fnOf "stretch_of" "stretch_of" (aC cN) (aB cN) (ao cN) .none kV2 dc2 pm2 an2 cd2 ct2),sl2⟩) (c2:PySem.W.codeIn K cd2 "stretch_of"=true) (k2:PySem.W.keepIn K (.ref f2)=true)
    (a3:PySem.W.nsIn K mainGlobals "natural_of"=some (some (.ref f3))) (l3:K.lookup f3=some ⟨oc3,od3,.func (PySem.W.fnOf "natural_of" "natural_of" (aC bQ) (aB bQ) (ao bQ) .none kV3 dc3 pm3 an3 cd3 ct3),sl3⟩) (c3:PySem.W.codeIn K cd3 "natural_of"=true) (k3:PySem.W.keepIn K (.ref f3)=true)
    (a4:PySem.W.nsIn K mainGlobals "reaches_of"=some (some (.ref f4))) (l4:K.lookup f4=some ⟨oc4,od4,.func (PySem.W.fnOf "reaches_of" "reaches_of" (aC bO) (aB bO) (ao bO) .none kV4 dc4 pm4 an4 cd4 ct4),sl4⟩) (c4:PySem.W.codeIn K cd4 "reaches_of"=true) (k4:PySem.W.keepIn K (.ref f4)=true)
    (a5:PySem.W.nsIn K mainGlobals "day_filed"=some (some (.ref f5))) (l5:K.lookup f5=some ⟨oc5,od5,.func (PySem.W.fnOf "day_filed" "day_filed" (aC cY) (aB cY) (ao cY) .none kV5 dc5 pm5 an5 cd5 ct5),sl5⟩) (c5:PySem.W.codeIn K cd5 "day_filed"=true) (k5:PySem.W.keepIn K (.ref f5)=true)
    (a6:PySem.W.nsIn K mainGlobals "gives_back"=some (some (.ref f6))) (l6:K.lookup f6=some ⟨oc6,od6,.func (PySem.W.fnOf "gives_back" "gives_back" (aC cO) (aB cO) (ao cO) .none kV6 dc6 pm6 an6 cd6 ct6),sl6⟩) (c6:PySem.W.codeIn K cd6 "gives_back"=true) (k6:PySem.W.keepIn K (.ref f6)=true)
    (a7:PySem.W.nsIn K mainGlobals "most_of"=some (some (.ref f7))) (l7:K.lookup f7=some ⟨oc7,od7,.func (PySem.W.fnOf "most_of" "most_of" (aC gK) (aB gK) (ao gK) .none kV7 dc7 pm7 an7 cd7 ct7),sl7⟩) (c7:PySem.W.codeIn K cd7 "most_of"=true) (k7:PySem.W.keepIn K (.ref f7)=true)
    (a8:PySem.W.nsIn K mainGlobals "ranked"=some (some (.ref f8))) (l8:K.lookup f8=some ⟨oc8,od8,.func (PySem.W.fnOf "ranked" "ranked" (aC iw) (aB iw) (ao iw) .none kV8 dc8 pm8 an8 (.ref cT0) ct8),sl8⟩) (c8:PySem.W.codeIn K (.ref cT0) "ranked"=true) (k8:PySem.W.keepIn K (.ref f8)=true)
    (a9:PySem.W.nsIn K mainGlobals "groups_of"=some (some (.ref f9))) (l9:K.lookup f9=some ⟨oc9,od9,.func (PySem.W.fnOf "groups_of" "groups_of" (aC dM) (aB dM) (ao dM) .none kV9 dc9 pm9 an9 cd9 ct9),sl9⟩) (c9:PySem.W.codeIn K cd9 "groups_of"=true) (k9:PySem.W.keepIn K (.ref f9)=true)
    (a10:PySem.W.nsIn K mainGlobals "wants_of"=some (some (.ref f10))) (l10:K.lookup f10=some ⟨oc10,od10,.func (PySem.W.fnOf "wants_of" "wants_of" (aC dz) (aB dz) (ao dz) .none kV10 dc10 pm10 an10 cd10 ct10),sl10⟩) (c10:PySem.W.codeIn K cd10 "wants_of"=true) (k10:PySem.W.keepIn K (.ref f10)=true)
    (a11:PySem.W.nsIn K mainGlobals "count_ways"=some (some (.ref f11))) (l11:K.lookup f11=some ⟨oc11,od11,.func (PySem.W.fnOf "count_ways" "count_ways" (aC cQ) (aB cQ) (ao cQ) .none kV11 dc11 pm11 an11 cd11 ct11),sl11⟩) (c11:PySem.W.codeIn K cd11 "count_ways"=true) (k11:PySem.W.keepIn K (.ref f11)=true)
    (a12:PySem.W.nsIn K mainGlobals "whole_turns"=some (some (.ref f12))) (l12:K.lookup f12=some ⟨oc12,od12,.func (PySem.W.fnOf "whole_turns" "whole_turns" (aC bN) (aB bN) (ao bN) .none kV12 dc12 pm12 an12 cd12 ct12),sl12⟩) (c12:PySem.W.codeIn K cd12 "whole_turns"=true) (k12:PySem.W.keepIn K (.ref f12)=true)
    (a13:PySem.W.nsIn K mainGlobals "draw"=some (some (.ref f13))) (l13:K.lookup f13=some ⟨oc13,od13,.func (PySem.W.fnOf "draw" "draw" (aC kj) (aB kj) (ao kj) .none kV13 dc13 pm13 an13 cd13 ct13),sl13⟩) (c13:PySem.W.codeIn K cd13 "draw"=true) (k13:PySem.W.keepIn K (.ref f13)=true)
    (a14:PySem.W.nsIn K mainGlobals "take_whole_turns"=some (some (.ref f14))) (l14:K.lookup f14=some ⟨oc14,od14,.func (PySem.W.fnOf "take_whole_turns" "take_whole_turns" (aC aO) (aB aO) (ao aO) .none kV14 dc14 pm14 an14 cd14 ct14),sl14⟩) (c14:PySem.W.codeIn K cd14 "take_whole_turns"=true) (k14:PySem.W.keepIn K (.ref f14)=true)
    (a15:PySem.W.nsIn K mainGlobals "take_one_turn"=some (some (.ref f15))) (l15:K.lookup f15=some ⟨oc15,od15,.func (PySem.W.fnOf "take_one_turn" "take_one_turn" (aC bh) (aB bh) (ao bh) .none kV15 dc15 pm15 an15 cd15 ct15),sl15⟩) (c15:PySem.W.codeIn K cd15 "take_one_turn"=true) (k15:PySem.W.keepIn K (.ref f15)=true)
    (a16:PySem.W.nsIn K mainGlobals "deal_turns"=some (some (.ref f16))) (l16:K.lookup f16=some ⟨oc16,od16,.func (PySem.W.fnOf "deal_turns" "deal_turns" (aC cP) (aB cP) (ao cP) .none kV16 dc16 pm16 an16 cd16 ct16),sl16⟩) (c16:PySem.W.codeIn K cd16 "deal_turns"=true) (k16:PySem.W.keepIn K (.ref f16)=true)
    (a17:PySem.W.nsIn K mainGlobals "deal"=some (some (.ref f17))) (l17:K.lookup f17=some ⟨oc17,od17,.func (PySem.W.fnOf "deal" "deal" (aC jz) (aB jz) (ao jz) .none kV17 dc17 pm17 an17 cd17 ct17),sl17⟩) (c17:PySem.W.codeIn K cd17 "deal"=true) (k17:PySem.W.keepIn K (.ref f17)=true)
    (a18:PySem.W.nsIn K mainGlobals "holds_of"=some (some (.ref f18))) (l18:K.lookup f18=some ⟨oc18,od18,.func (PySem.W.fnOf "holds_of" "holds_of" (aC eV) (aB eV) (ao eV) .none kV18 dc18 pm18 an18 cd18 ct18),sl18⟩) (c18:PySem.W.codeIn K cd18 "holds_of"=true) (k18:PySem.W.keepIn K (.ref f18)=true)
    (a19:PySem.W.nsIn K mainGlobals "free_of"=some (some (.ref f19))) (l19:K.lookup f19=some ⟨oc19,od19,.func (PySem.W.fnOf "free_of" "free_of" (aC fO) (aB fO) (ao fO) .none kV19 dc19 pm19 an19 cd19 ct19),sl19⟩) (c19:PySem.W.codeIn K cd19 "free_of"=true) (k19:PySem.W.keepIn K (.ref f19)=true)
    (a20:PySem.W.nsIn K mainGlobals "dry_of"=some (some (.ref f20))) (l20:K.lookup f20=some ⟨oc20,od20,.func (PySem.W.fnOf "dry_of" "dry_of" (aC iy) (aB iy) (ao iy) .none kV20 dc20 pm20 an20 cd20 ct20),sl20⟩) (c20:PySem.W.codeIn K cd20 "dry_of"=true) (k20:PySem.W.keepIn K (.ref f20)=true)
    (a21:PySem.W.nsIn K mainGlobals "meets"=some (some (.ref f21))) (l21:K.lookup f21=some ⟨oc21,od21,.func (PySem.W.fnOf "meets" "meets" (aC jc) (aB jc) (ao jc) .none kV21 dc21 pm21 an21 cd21 ct21),sl21⟩) (c21:PySem.W.codeIn K cd21 "meets"=true) (k21:PySem.W.keepIn K (.ref f21)=true)
    (a22:PySem.W.nsIn K mainGlobals "lowest_of"=some (some (.ref f22))) (l22:K.lookup f22=some ⟨oc22,od22,.func (PySem.W.fnOf "lowest_of" "lowest_of" (aC cX) (aB cX) (ao cX) .none kV22 dc22 pm22 an22 cd22 ct22),sl22⟩) (c22:PySem.W.codeIn K cd22 "lowest_of"=true) (k22:PySem.W.keepIn K (.ref f22)=true)
    (a23:PySem.W.nsIn K mainGlobals "cut_of"=some (some (.ref f23))) (l23:K.lookup f23=some ⟨oc23,od23,.func (PySem.W.fnOf "cut_of" "cut_of" (aC eN) (aB eN) (ao eN) .none kV23 dc23 pm23 an23 cd23 ct23),sl23⟩) (c23:PySem.W.codeIn K cd23 "cut_of"=true) (k23:PySem.W.keepIn K (.ref f23)=true)
    (a24:PySem.W.nsIn K mainGlobals "_law_cell_at"=some (some (.ref f24))) (l24:K.lookup f24=some ⟨oc24,od24,.func (PySem.W.fnOf "_law_cell_at" "_law_cell_at" (aC bU) (aB bU) (ao bU) .none kV24 dc24 pm24 an24 cd24 ct24),sl24⟩) (c24:PySem.W.codeIn K cd24 "_law_cell_at"=true) (k24:PySem.W.keepIn K (.ref f24)=true)
    (a25:PySem.W.nsIn K mainGlobals "_law_whole"=some (some (.ref f25))) (l25:K.lookup f25=some ⟨oc25,od25,.func (PySem.W.fnOf "_law_whole" "_law_whole" (aC cR) (aB cR) (ao cR) .none kV25 dc25 pm25 an25 cd25 ct25),sl25⟩) (c25:PySem.W.codeIn K cd25 "_law_whole"=true) (k25:PySem.W.keepIn K (.ref f25)=true)
    (a26:PySem.W.nsIn K mainGlobals "_law_draw"=some (some (.ref f26))) (l26:K.lookup f26=some ⟨oc26,od26,.func (PySem.W.fnOf "_law_draw" "_law_draw" (aC dN) (aB dN) (ao dN) .none kV26 dc26 pm26 an26 cd26 ct26),sl26⟩) (c26:PySem.W.codeIn K cd26 "_law_draw"=true) (k26:PySem.W.keepIn K (.ref f26)=true)
    (a27:PySem.W.nsIn K mainGlobals "_law_mixed"=some (some (.ref f27))) (l27:K.lookup f27=some ⟨oc27,od27,.func (PySem.W.fnOf "_law_mixed" "_law_mixed" (aC bx) (aB bx) (ao bx) .none kV27 dc27 pm27 an27 cd27 ct27),sl27⟩) (c27:PySem.W.codeIn K cd27 "_law_mixed"=true) (k27:PySem.W.keepIn K (.ref f27)=true)
    (a28:PySem.W.nsIn K mainGlobals "_law_river"=some (some (.ref f28))) (l28:K.lookup f28=some ⟨oc28,od28,.func (PySem.W.fnOf "_law_river" "_law_river" (aC cB) (aB cB) (ao cB) .none kV28 dc28 pm28 an28 cd28 ct28),sl28⟩) (c28:PySem.W.codeIn K cd28 "_law_river"=true) (k28:PySem.W.keepIn K (.ref f28)=true)
    (a29:PySem.W.nsIn K mainGlobals "_law_springs"=some (some (.ref f29))) (l29:K.lookup f29=some ⟨oc29,od29,.func (PySem.W.fnOf "_law_springs" "_law_springs" (aC bR) (aB bR) (ao bR) .none kV29 dc29 pm29 an29 cd29 ct29),sl29⟩) (c29:PySem.W.codeIn K cd29 "_law_springs"=true) (k29:PySem.W.keepIn K (.ref f29)=true)
    (a30:PySem.W.nsIn K mainGlobals "_law_way"=some (some (.ref f30))) (l30:K.lookup f30=some ⟨oc30,od30,.func (PySem.W.fnOf "_law_way" "_law_way" (aC dU) (aB dU) (ao dU) .none kV30 dc30 pm30 an30 cd30 ct30),sl30⟩) (c30:PySem.W.codeIn K cd30 "_law_way"=true) (k30:PySem.W.keepIn K (.ref f30)=true)
    (a31:PySem.W.nsIn K mainGlobals "_law_natural"=some (some (.ref f31))) (l31:K.lookup f31=some ⟨oc31,od31,.func (PySem.W.fnOf "_law_natural" "_law_natural" (aC bT) (aB bT) (ao bT) .none kV31 dc31 pm31 an31 cd31 ct31),sl31⟩) (c31:PySem.W.codeIn K cd31 "_law_natural"=true) (k31:PySem.W.keepIn K (.ref f31)=true)
    (a32:PySem.W.nsIn K mainGlobals "_law_drawn"=some (some (.ref f32))) (l32:K.lookup f32=some ⟨oc32,od32,.func (PySem.W.fnOf "_law_drawn" "_law_drawn" (aC cU) (aB cU) (ao cU) .none kV32 dc32 pm32 an32 cd32 ct32),sl32⟩) (c32:PySem.W.codeIn K cd32 "_law_drawn"=true) (k32:PySem.W.keepIn K (.ref f32)=true)
    (a33:PySem.W.nsIn K mainGlobals "_law_rival"=some (some (.ref f33))) (l33:K.lookup f33=some ⟨oc33,od33,.func (PySem.W.fnOf "_law_rival" "_law_rival" (aC cC) (aB cC) (ao cC) .none kV33 dc33 pm33 an33 cd33 ct33),sl33⟩) (c33:PySem.W.codeIn K cd33 "_law_rival"=true) (k33:PySem.W.keepIn K (.ref f33)=true)
    (a34:PySem.W.nsIn K mainGlobals "law"=some (some (.ref f34))) (l34:K.lookup f34=some ⟨oc34,od34,.func (PySem.W.fnOf "law" "law" (aC nJ) (aB nJ) (ao nJ) .none kV34 dc34 pm34 an34 cd34 ct34),sl34⟩) (c34:PySem.W.codeIn K cd34 "law"=true) (k34:PySem.W.keepIn K (.ref f34)=true)
    (e0:PySem.W.nsIn K mainGlobals "MOUTH"=some (some (.int (-1) t0)))
    (z_len:PySem.W.nsIn K mainGlobals "len"=some none)
    (z_range:PySem.W.nsIn K mainGlobals "range"=some none)
    (z_list:PySem.W.nsIn K mainGlobals "list"=some none)
    (z_isinstance:PySem.W.nsIn K mainGlobals "isinstance"=some none)
    (z_bool:PySem.W.nsIn K mainGlobals "bool"=some none)
    (z_int:PySem.W.nsIn K mainGlobals "int"=some none)
    (z_all:PySem.W.nsIn K mainGlobals "all"=some none)
    (z_min:PySem.W.nsIn K mainGlobals "min"=some none)
    (z_max:PySem.W.nsIn K mainGlobals "max"=some none)
    (z_sum:PySem.W.nsIn K mainGlobals "sum"=some none)
    (z_sorted:PySem.W.nsIn K mainGlobals "sorted"=some none)
    (z_zip:PySem.W.nsIn K mainGlobals "zip"=some none)
    (z_tuple:PySem.W.nsIn K mainGlobals "tuple"=some none)
    (z_str:PySem.W.nsIn K mainGlobals "str"=some none)
    (z_any:PySem.W.nsIn K mainGlobals "any"=some none)
    (z_enumerate:PySem.W.nsIn K mainGlobals "enumerate"=some none)
    (z_reversed:PySem.W.nsIn K mainGlobals "reversed"=some none)
    (z_abs:PySem.W.nsIn K mainGlobals "abs"=some none)
    (z_ValueError:PySem.W.nsIn K mainGlobals "ValueError"=some none)
    (z_set:PySem.W.nsIn K mainGlobals "set"=some none)
    (y0:PySem.W.codeHdIn K cT0 pT0=true)
    (y1:PySem.W.codeHdIn K cT1 pT1=true)
    (dd0_1:pT0≠pT1)
    : ∃ fd:FuncData,(∀ (s:Shared) (v:Value),BindsTo s fd ⟨[v],[]⟩ [("script",v)])∧∀ base:Heap,K.In base→base.Ns mainGlobals mg→BM mg base→bZ l.prog w K mg base CX0 10 fa fd ["script"] (wg K [(pT0,bw.1,bw.2),(pT1,cH.1,cH.2)]):=by
  have e:=hfa.symm.trans (PySem.W.mg_of X G a34)
  cases e
  have B:Blt mg:=⟨PySem.W.mg_none_of X G z_len,PySem.W.mg_none_of X G z_range,PySem.W.mg_none_of X G z_list,PySem.W.mg_none_of X G z_isinstance,PySem.W.mg_none_of X G z_bool,PySem.W.mg_none_of X G z_int,PySem.W.mg_none_of X G z_all,PySem.W.mg_none_of X G z_min,PySem.W.mg_none_of X G z_max,PySem.W.mg_none_of X G z_sum,PySem.W.mg_none_of X G z_sorted,PySem.W.mg_none_of X G z_zip,PySem.W.mg_none_of X G z_tuple,PySem.W.mg_none_of X G z_str,PySem.W.mg_none_of X G z_any,PySem.W.mg_none_of X G z_enumerate,PySem.W.mg_none_of X G z_reversed,PySem.W.mg_none_of X G z_abs,PySem.W.mg_none_of X G z_ValueError,PySem.W.mg_none_of X G z_set⟩
  have h_MOUTH:∃ t,mg "MOUTH"=some (.int (-1) t):=⟨_,PySem.W.mg_of X G e0⟩
  have F0:=bJ (st:=gH) l0 c0 k0
  have cI:Df K mg "way_of" gH ["below","reach"] _ _:=⟨F0,jt F0 (fun _ _ _ _ _ _ _ _=>rfl),PySem.W.mg_of X G a0⟩
  have F1:=bJ (st:=cA) l1 c1 k1
  have eX:Df K mg "tops_first" cA ["below"] _ _:=⟨F1,lD F1 (fun _ _ _ _ _ _ _=>rfl),PySem.W.mg_of X G a1⟩
  have F2:=bJ (st:=cN) l2 c2 k2
  have eY:Df K mg "stretch_of" cN ["below","start","stop"] _ _:=⟨F2,qd F2 (fun _ _ _ _ _ _ _ _ _=>rfl),PySem.W.mg_of X G a2⟩
  have F3:=bJ (st:=bQ) l3 c3 k3
  have aY:Df K mg "natural_of" bQ ["below","springs"] _ _:=⟨F3,jt F3 (fun _ _ _ _ _ _ _ _=>rfl),PySem.W.mg_of X G a3⟩
  have F4:=bJ (st:=bO) l4 c4 k4
  have aX:Df K mg "reaches_of" bO ["below","one"] _ _:=⟨F4,jt F4 (fun _ _ _ _ _ _ _ _=>rfl),PySem.W.mg_of X G a4⟩
  have F5:=bJ (st:=cY) l5 c5 k5
  have bW:Df K mg "day_filed" cY ["one"] _ _:=⟨F5,lD F5 (fun _ _ _ _ _ _ _=>rfl),PySem.W.mg_of X G a5⟩
  have F6:=bJ (st:=cO) l6 c6 k6
  have eZ:Df K mg "gives_back" cO ["one"] _ _:=⟨F6,lD F6 (fun _ _ _ _ _ _ _=>rfl),PySem.W.mg_of X G a6⟩
  have F7:=bJ (st:=gK) l7 c7 k7
  have ji:Df K mg "most_of" gK ["one"] _ _:=⟨F7,lD F7 (fun _ _ _ _ _ _ _=>rfl),PySem.W.mg_of X G a7⟩
  have F8:=bJ (st:=iw) l8 c8 k8
  have jO:Df K mg "ranked" iw ["roll"] _ _:=⟨F8,lD F8 (fun _ _ _ _ _ _ _=>rfl),PySem.W.mg_of X G a8⟩
  have F9:=bJ (st:=dM) l9 c9 k9
  have gD:Df K mg "groups_of" dM ["roll"] _ _:=⟨F9,lD F9 (fun _ _ _ _ _ _ _=>rfl),PySem.W.mg_of X G a9⟩
  have F10:=bJ (st:=dz) l10 c10 k10
  have cJ:Df K mg "wants_of" dz ["roll","calls"] _ _:=⟨F10,jt F10 (fun _ _ _ _ _ _ _ _=>rfl),PySem.W.mg_of X G a10⟩
  have F11:=bJ (st:=cQ) l11 c11 k11
  have fu:Df K mg "count_ways" cQ ["free","ways"] _ _:=⟨F11,jt F11 (fun _ _ _ _ _ _ _ _=>rfl),PySem.W.mg_of X G a11⟩
  have F12:=bJ (st:=bN) l12 c12 k12
  have dY:Df K mg "whole_turns" bN ["free","ways","rests"] _ _:=⟨F12,qd F12 (fun _ _ _ _ _ _ _ _ _=>rfl),PySem.W.mg_of X G a12⟩
  have F13:=bJ (st:=kj) l13 c13 k13
  have jG:Df K mg "draw" kj ["left","way","drops"] _ _:=⟨F13,qd F13 (fun _ _ _ _ _ _ _ _ _=>rfl),PySem.W.mg_of X G a13⟩
  have F14:=bJ (st:=aO) l14 c14 k14
  have bL:Df K mg "take_whole_turns" aO ["left","ways","rests","takes","going"] _ _:=⟨F14,Cg F14 (fun _ _ _ _ _ _ _ _ _ _ _=>rfl),PySem.W.mg_of X G a14⟩
  have F15:=bJ (st:=bh) l15 c15 k15
  have cL:Df K mg "take_one_turn" bh ["left","ways","rests","takes","going"] _ _:=⟨F15,Cg F15 (fun _ _ _ _ _ _ _ _ _ _ _=>rfl),PySem.W.mg_of X G a15⟩
  have F16:=bJ (st:=cP) l16 c16 k16
  have fj:Df K mg "deal_turns" cP ["free","ways","rests"] _ _:=⟨F16,qd F16 (fun _ _ _ _ _ _ _ _ _=>rfl),PySem.W.mg_of X G a16⟩
  have F17:=bJ (st:=jz) l17 c17 k17
  have jH:Df K mg "deal" jz ["below","springs","roll","calls"] _ _:=⟨F17,tY F17 (fun _ _ _ _ _ _ _ _ _ _=>rfl),PySem.W.mg_of X G a17⟩
  have F18:=bJ (st:=eV) l18 c18 k18
  have iB:Df K mg "holds_of" eV ["below","roll","takes"] _ _:=⟨F18,qd F18 (fun _ _ _ _ _ _ _ _ _=>rfl),PySem.W.mg_of X G a18⟩
  have F19:=bJ (st:=fO) l19 c19 k19
  have jj:Df K mg "free_of" fO ["below","springs","roll","takes"] _ _:=⟨F19,tY F19 (fun _ _ _ _ _ _ _ _ _ _=>rfl),PySem.W.mg_of X G a19⟩
  have F20:=bJ (st:=iy) l20 c20 k20
  have jP:Df K mg "dry_of" iy ["below","springs","roll","takes"] _ _:=⟨F20,tY F20 (fun _ _ _ _ _ _ _ _ _ _=>rfl),PySem.W.mg_of X G a20⟩
  have F21:=bJ (st:=jc) l21 c21 k21
  have iV:Df K mg "meets" jc ["reaches","others"] _ _:=⟨F21,jt F21 (fun _ _ _ _ _ _ _ _=>rfl),PySem.W.mg_of X G a21⟩
  have F22:=bJ (st:=cX) l22 c22 k22
  have gC:Df K mg "lowest_of" cX ["below","reaches"] _ _:=⟨F22,jt F22 (fun _ _ _ _ _ _ _ _=>rfl),PySem.W.mg_of X G a22⟩
  have F23:=bJ (st:=eN) l23 c23 k23
  have jQ:Df K mg "cut_of" eN ["below","springs","roll","calls"] _ _:=⟨F23,tY F23 (fun _ _ _ _ _ _ _ _ _ _=>rfl),PySem.W.mg_of X G a23⟩
  have F24:=bJ (st:=bU) l24 c24 k24
  have aJ:Df K mg "_law_cell_at" bU ["script","k"] _ _:=⟨F24,jt F24 (fun _ _ _ _ _ _ _ _=>rfl),PySem.W.mg_of X G a24⟩
  have F25:=bJ (st:=cR) l25 c25 k25
  have cF:Df K mg "_law_whole" cR ["found"] _ _:=⟨F25,lD F25 (fun _ _ _ _ _ _ _=>rfl),PySem.W.mg_of X G a25⟩
  have F26:=bJ (st:=dN) l26 c26 k26
  have gF:Df K mg "_law_draw" dN ["cell","k"] _ _:=⟨F26,jt F26 (fun _ _ _ _ _ _ _ _=>rfl),PySem.W.mg_of X G a26⟩
  have F27:=bJ (st:=bx) l27 c27 k27
  have aM:Df K mg "_law_mixed" bx ["cell","many"] _ _:=⟨F27,jt F27 (fun _ _ _ _ _ _ _ _=>rfl),PySem.W.mg_of X G a27⟩
  have F28:=bJ (st:=cB) l28 c28 k28
  have fB:Df K mg "_law_river" cB ["cell"] _ _:=⟨F28,lD F28 (fun _ _ _ _ _ _ _=>rfl),PySem.W.mg_of X G a28⟩
  have F29:=bJ (st:=bR) l29 c29 k29
  have dB:Df K mg "_law_springs" bR ["cell","size","kind"] _ _:=⟨F29,qd F29 (fun _ _ _ _ _ _ _ _ _=>rfl),PySem.W.mg_of X G a29⟩
  have F30:=bJ (st:=dU) l30 c30 k30
  have cM:Df K mg "_law_way" dU ["below","reach"] _ _:=⟨F30,jt F30 (fun _ _ _ _ _ _ _ _=>rfl),PySem.W.mg_of X G a30⟩
  have F31:=bJ (st:=bT) l31 c31 k31
  have dD:Df K mg "_law_natural" bT ["below","springs"] _ _:=⟨F31,jt F31 (fun _ _ _ _ _ _ _ _=>rfl),PySem.W.mg_of X G a31⟩
  have F32:=bJ (st:=cU) l32 c32 k32
  have fD:Df K mg "_law_drawn" cU ["cell","size","far","kind"] _ _:=⟨F32,tY F32 (fun _ _ _ _ _ _ _ _ _ _=>rfl),PySem.W.mg_of X G a32⟩
  have F33:=bJ (st:=cC) l33 c33 k33
  have fC:Df K mg "_law_rival" cC ["below","springs","roll","calls","cell"] _ _:=⟨F33,Cg F33 (fun _ _ _ _ _ _ _ _ _ _ _=>rfl),PySem.W.mg_of X G a33⟩
  have F34:=bJ (st:=nJ) l34 c34 k34
  have Uz:Df K mg "law" nJ ["script"] _ _:=⟨F34,lD F34 (fun _ _ _ _ _ _ _=>rfl),PySem.W.mg_of X G a34⟩
  refine ⟨PySem.W.fnOf "law" "law" (aC nJ) (aB nJ) (ao nJ) .none kV34 dc34 pm34 an34 cd34 ct34,fun s v=>.of_eq rfl,fun base _ _ hbm=>?_⟩
  have C:Mth mg:=⟨h_MOUTH⟩
  have nd:([(pT0,bw.1,bw.2),(pT1,cH.1,cH.2)].map (·.1)).Nodup:=by
    show ([pT0,pT1]:List Addr).Nodup
    simp [dd0_1]
  have hT:TT1 pT1 [(pT0,bw.1,bw.2),(pT1,cH.1,cH.2)]:=⟨List.mem_cons_of_mem _ List.mem_cons_self,nd⟩
  have hT2:TT2 pT0 [(pT0,bw.1,bw.2),(pT1,cH.1,cH.2)]:=⟨List.mem_cons_self,nd⟩
  clear nd
  generalize ([(pT0,bw.1,bw.2),(pT1,cH.1,cH.2)]:gk)=T at hT hT2 ⊢
  have g1:=KD (P:=l.prog) (w:=w) (base:=base) aJ B
  have g2:=Mx (P:=l.prog) (w:=w) (K:=K) (base:=base) gF
  have g3:=Ky aM B gF g2
  have g4:=Dr (P:=l.prog) (w:=w) (base:=base) cF B
  have g5:=Mr (P:=l.prog) (w:=w) (base:=base) cI C
  have g6:=Dt eY C cI g5
  have g7:=xZ aX eY g6
  have g8:=Kr (T:=T) eX rfl y1 hT hbm B cI g5
  have g9:=Mt aY B C eX g8
  have g10:=Ks (P:=l.prog) (w:=w) (base:=base) ji
  have g11:=Ds (T:=T) cJ B ji g10
  have g12:=Dz (P:=l.prog) (w:=w) (base:=base) (T:=T) fu B
  have g13:=Ss dY B fu g12
  have g14:=Kz (P:=l.prog) (w:=w) (base:=base) (T:=T) jG
  have g15:=Sv bL B dY g13 jG g14
  have g16:=Sw cL B jG g14
  have g17:=Sy fj B bL g15 cL g16
  have g18:=Mz (P:=l.prog) (w:=w) (base:=base) bW
  have g19:=zY (T:=T) jO rfl y0 hT2 hbm B bW g18
  have g20:=Aa gD B bW g18 jO g19
  have g21:=KC jH B aY g9 cJ g11 gD g20 aX g7 fj g17
  have g22:=Du (T:=T) fB B aM g3
  have g23:=xY (T:=T) dB B aM g3
  have g24:=Ku (P:=l.prog) (w:=w) (base:=base) (T:=T) cM
  have g25:=Dy (T:=T) fD B aM g3
  have g26:=Kv dD B cM g24
  have g27:=Ms fC B dD g26 cM g24 aM g3
  have g31:=Dw (T:=T) iB B aX g7
  have g32:=Kw jj B aY g9 iB g31
  have g33:=Mw jP B jj g32
  have g34:=Dv (P:=l.prog) (w:=w) (base:=base) (T:=T) iV B
  have g35:=zZ gC B cI g5 iV g34
  have g36:=Sx (P:=l.prog) (w:=w) (base:=base) eZ C
  have g37:=MF jQ B eZ g36 jH g21 jP g33 gC g35 aX g7 iV g34 aY g9 cJ g11
  exact Mu Uz B aJ g1 fB g22 dB g23 fD g25 fC g27 jQ g37 jH g21 cF g4
def codeOf (K:PySem.W.Frag) (x:Str):Addr:=match PySem.W.nsIn K mainGlobals x with
  | some (some (.ref f))=>match K.lookup f with
    | some ⟨_,_,.func fd,_⟩=>match fd.code with
      | .ref c=>c
      | _=>0
    | _=>0
  | _=>0
theorem BK {K:PySem.W.Frag} {P:Addr} (x:Str) (h:PySem.W.codeHdIn K (codeOf K x) P=true):∃ c,PySem.W.codeHdIn K c P=true:=⟨_,h⟩
theorem walk {l:PySem.W.OpenLaw} {q:Program} {loose:List Str} {XP:(Str→Option Value)→Heap→Prop} {YP:World→Heap→Prop} {d:DefRec} {K:Params→PySem.W.Frag} {P0 P1:Addr} (hn:l.most=some 63) (hdf:d.params.defaults=[])
    (hY:∀ (w:World) (h:Heap),YP w h→(K w.params).In h) (hYt:∀ (w:World) (h:Heap),YP w h→∀ P∈([P0,P1]:List Addr),h.get? P=some (PySem.W.tabObj #[])) (hts:∀ (w:World),∀ P∈([P0,P1]:List Addr),(K w.params).lookup P=none∧∃ c,PySem.W.codeHdIn (K w.params) c P=true)
    (F:∀ (w:World) (mg:Str→Option Value) (fa:Addr) (h:Heap),(K w.params).In h→h.Ns mainGlobals mg→mg d.name=some (.ref fa) →
      ∃ fd:FuncData,(∀ (s:Shared) (u:Value),BindsTo s fd ⟨[u],[]⟩ [("script",u)])∧∀ base:Heap,(K w.params).In base→base.Ns mainGlobals mg→BM mg base→bZ l.prog w (K w.params) mg base CX0 10 fa fd ["script"] (wg (K w.params) [(P0,bw.1,bw.2),(P1,cH.1,cH.2)])) :
    PySem.W.WalkO q loose XP YP l.row.toRowW d [] (fun f vs=>PySem.call f vs) :=
  L2.CN (n:=63) (k:=10) (x:="script") (CX:=fun _=>CX0) (sp:=fun w=>wg (K w.params) [(P0,bw.1,bw.2),(P1,cH.1,cH.2)]) (ts:=([P0,P1]:List Addr)) hn (by decide) hdf ⟨rfl,by decide,by decide⟩ hY hYt hts F (fun _ H a ns hl _ hT hS=>⟨a,ns,rfl,hS,hl,fun t ht=>.inl (hT t.1 (by simp only [List.mem_cons,List.not_mem_nil,or_false] at ht ⊢;(try rcases ht with rfl | ht) <;> (try subst ht) <;> simp)),fun _=>rfl⟩) fun _ _ _ _ _ z=>z
end My
open PySem PySem.W PyProof.Rows
set_option maxRecDepth 100000 in
set_option maxHeartbeats 0 in
theorem PySem.Challenge.cw_sluice_k34_whole_no_takes_more_holds : PySem.Challenge.rw_sluice_k34_whole_no_takes_more.Holds := by
  w_on;o_law
  refine PySem.W.holds_open (q:=My.qv) (loose:=My.wG) (Xt:=(fun s=>PySem.W.xlAt My.qv [] s && PySem.W.recOk (PySem.W.RowW.records PySem.Challenge.rw_sluice_k34_whole_no_takes_more.row.toRowW) s)) (XP:=PySem.W.XL My.qv []) (Yf:=PySem.W.Hook.obs (PySem.W.kmHook My.Kf My.asK My.hkE My.tsK)) (Ya:=PySem.W.Hook.val (PySem.W.kmHook My.Kf My.asK My.hkE My.tsK)) (YP:=PySem.W.Hook.says (PySem.W.kmHook My.Kf My.asK My.hkE My.tsK)) (N:=3598) My.hlE (PySem.W.Hook.of (PySem.W.kmHook My.Kf My.asK My.hkE My.tsK)) (PySem.W.Hook.keeps (PySem.W.kmHook My.Kf My.asK My.hkE My.tsK)) (fun s e=>PySem.W.xl_of s (Bool.and_eq_true_iff.mp e).1) PySem.W.XL.keeps (by rfl) (by rfl) (by rfl) (fun s e=>PySem.W.recFacts_of (Bool.and_eq_true_iff.mp e).2) (by rfl) (by first | assumption | decide +kernel) (by decide +kernel) ⟨rfl,rfl,rfl,rfl,rfl,by decide +kernel⟩ ?hw ?hc
  case hw=>w_witness2
  k_fill
  refine' My.walk (l:=PySem.Challenge.rw_sluice_k34_whole_no_takes_more) rfl rfl (fun w h Y=>PySem.W.km_in_of Y) (fun w h Y=>PySem.W.km_tabs_of Y) ?hts ?F
  case F =>
    intro w mg fa h KX G hmg
    refine' My.all_mk KX G hmg ?a0 ?l0 ?c0 ?k0 ?a1 ?l1 ?c1 ?k1 ?a2 ?l2 ?c2 ?k2 ?a3 ?l3 ?c3 ?k3 ?a4 ?l4 ?c4 ?k4 ?a5 ?l5 ?c5 ?k5 ?a6 ?l6 ?c6 ?k6 ?a7 ?l7 ?c7 ?k7 ?a8 ?l8 ?c8 ?k8 ?a9 ?l9 ?c9 ?k9 ?a10 ?l10 ?c10 ?k10 ?a11 ?l11 ?c11 ?k11 ?a12 ?l12 ?c12 ?k12 ?a13 ?l13 ?c13 ?k13 ?a14 ?l14 ?c14 ?k14 ?a15 ?l15 ?c15 ?k15 ?a16 ?l16 ?c16 ?k16 ?a17 ?l17 ?c17 ?k17 ?a18 ?l18 ?c18 ?k18 ?a19 ?l19 ?c19 ?k19 ?a20 ?l20 ?c20 ?k20 ?a21 ?l21 ?c21 ?k21 ?a22 ?l22 ?c22 ?k22 ?a23 ?l23 ?c23 ?k23 ?a24 ?l24 ?c24 ?k24 ?a25 ?l25 ?c25 ?k25 ?a26 ?l26 ?c26 ?k26 ?a27 ?l27 ?c27 ?k27 ?a28 ?l28 ?c28 ?k28 ?a29 ?l29 ?c29 ?k29 ?a30 ?l30 ?c30 ?k30 ?a31 ?l31 ?c31 ?k31 ?a32 ?l32 ?c32 ?k32 ?a33 ?l33 ?c33 ?k33 ?a34 ?l34 ?c34 ?k34 ?e0 ?z_len ?z_range ?z_list ?z_isinstance ?z_bool ?z_int ?z_all ?z_min ?z_max ?z_sum ?z_sorted ?z_zip ?z_tuple ?z_str ?z_any ?z_enumerate ?z_reversed ?z_abs ?z_ValueError ?z_set ?y0 ?y1 ?dd0_1
    (case a0=>k_is)
    (case l0=>k_is)
    (case c0=>k_is)
    (case k0=>k_is)
    (case a1=>k_is)
    (case l1=>k_is)
    (case c1=>k_is)
    (case k1=>k_is)
    (case a2=>k_is)
    (case l2=>k_is)
    (case c2=>k_is)
    (case k2=>k_is)
    (case a3=>k_is)
    (case l3=>k_is)
    (case c3=>k_is)
    (case k3=>k_is)
    (case a4=>k_is)
    (case l4=>k_is)
    (case c4=>k_is)
    (case k4=>k_is)
    (case a5=>k_is)
    (case l5=>k_is)
    (case c5=>k_is)
    (case k5=>k_is)
    (case a6=>k_is)
    (case l6=>k_is)
    (case c6=>k_is)
    (case k6=>k_is)
    (case a7=>k_is)
    (case l7=>k_is)
    (case c7=>k_is)
    (case k7=>k_is)
    (case a8=>k_is)
    (case l8=>k_is)
    (case c8=>k_is)
    (case k8=>k_is)
    (case a9=>k_is)
    (case l9=>k_is)
    (case c9=>k_is)
    (case k9=>k_is)
    (case a10=>k_is)
    (case l10=>k_is)
    (case c10=>k_is)
    (case k10=>k_is)
    (case a11=>k_is)
    (case l11=>k_is)
    (case c11=>k_is)
    (case k11=>k_is)
    (case a12=>k_is)
    (case l12=>k_is)
    (case c12=>k_is)
    (case k12=>k_is)
    (case a13=>k_is)
    (case l13=>k_is)
    (case c13=>k_is)
    (case k13=>k_is)
    (case a14=>k_is)
    (case l14=>k_is)
    (case c14=>k_is)
    (case k14=>k_is)
    (case a15=>k_is)
    (case l15=>k_is)
    (case c15=>k_is)
    (case k15=>k_is)
    (case a16=>k_is)
    (case l16=>k_is)
    (case c16=>k_is)
    (case k16=>k_is)
    (case a17=>k_is)
    (case l17=>k_is)
    (case c17=>k_is)
    (case k17=>k_is)
    (case a18=>k_is)
    (case l18=>k_is)
    (case c18=>k_is)
    (case k18=>k_is)
    (case a19=>k_is)
    (case l19=>k_is)
    (case c19=>k_is)
    (case k19=>k_is)
    (case a20=>k_is)
    (case l20=>k_is)
    (case c20=>k_is)
    (case k20=>k_is)
    (case a21=>k_is)
    (case l21=>k_is)
    (case c21=>k_is)
    (case k21=>k_is)
    (case a22=>k_is)
    (case l22=>k_is)
    (case c22=>k_is)
    (case k22=>k_is)
    (case a23=>k_is)
    (case l23=>k_is)
    (case c23=>k_is)
    (case k23=>k_is)
    (case a24=>k_is)
    (case l24=>k_is)
    (case c24=>k_is)
    (case k24=>k_is)
    (case a25=>k_is)
    (case l25=>k_is)
    (case c25=>k_is)
    (case k25=>k_is)
    (case a26=>k_is)
    (case l26=>k_is)
    (case c26=>k_is)
    (case k26=>k_is)
    (case a27=>k_is)
    (case l27=>k_is)
    (case c27=>k_is)
    (case k27=>k_is)
    (case a28=>k_is)
    (case l28=>k_is)
    (case c28=>k_is)
    (case k28=>k_is)
    (case a29=>k_is)
    (case l29=>k_is)
    (case c29=>k_is)
    (case k29=>k_is)
    (case a30=>k_is)
    (case l30=>k_is)
    (case c30=>k_is)
    (case k30=>k_is)
    (case a31=>k_is)
    (case l31=>k_is)
    (case c31=>k_is)
    (case k31=>k_is)
    (case a32=>k_is)
    (case l32=>k_is)
    (case c32=>k_is)
    (case k32=>k_is)
    (case a33=>k_is)
    (case l33=>k_is)
    (case c33=>k_is)
    (case k33=>k_is)
    (case a34=>k_is)
    (case l34=>k_is)
    (case c34=>k_is)
    (case k34=>k_is)
    (case e0=>k_is)
    (case z_len=>k_is)
    (case z_range=>k_is)
    (case z_list=>k_is)
    (case z_isinstance=>k_is)
    (case z_bool=>k_is)
    (case z_int=>k_is)
    (case z_all=>k_is)
    (case z_min=>k_is)
    (case z_max=>k_is)
    (case z_sum=>k_is)
    (case z_sorted=>k_is)
    (case z_zip=>k_is)
    (case z_tuple=>k_is)
    (case z_str=>k_is)
    (case z_any=>k_is)
    (case z_enumerate=>k_is)
    (case z_reversed=>k_is)
    (case z_abs=>k_is)
    (case z_ValueError=>k_is)
    (case z_set=>k_is)
    (case y0=>kernel_rfl)
    (case y1=>kernel_rfl)
    (case dd0_1=>(first | decide | (intro h;cases h) | (intro h;simp at h)))
  case hts =>
    intro w P hP
    simp only [List.mem_cons,List.not_mem_nil,or_false] at hP
    rcases hP with rfl | rfl
    · exact ⟨by kernel_rfl,My.BK "ranked" (by kernel_rfl)⟩
    · exact ⟨by kernel_rfl,My.BK "tops_first" (by kernel_rfl)⟩
