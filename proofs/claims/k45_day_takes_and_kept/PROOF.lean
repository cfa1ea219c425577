import PyProof.Rows.All
import Wide.All
import OpenK.AllK
import Wide.FinOn
import Lean
import PyProof.EqAt
import PyProof.EqKinds
import PyProof.TupleCall
import KE.KSortTup
import PySem.Challenge.RW_sluice_k45_day_takes_and_kept
set_option Elab.async false
set_option linter.all false
set_option maxRecDepth 100000
set_option maxHeartbeats 4000000
namespace L2
open PySem
def defArgs (s:Stmt):Arguments:=match s with
  | .FunctionDef _ a _ _ _ _ _ _ _ _=>a
  | _=>{ posonlyargs:=[],args:=[],vararg:=none,kwonlyargs:=[],kw_defaults:=[],kwarg:=none,defaults:=[] }
def defBody (s:Stmt):List Stmt:=match s with
  | .FunctionDef _ _ b _ _ _ _ _ _ _=>b
  | _=>[]
def defScope (s:Stmt):Scope:=match s with
  | .FunctionDef _ _ _ _ _ _ sc _ _ _=>sc
  | _=>{ kind:=.function,names:=[],isGenerator:=false,isCoroutine:=false }
end L2
namespace My
open PySem L2
noncomputable def top0 (i:Nat):Stmt:=PySem.Challenge.pw_sluice_k45_day_takes_and_kept.main.body.getD i (.Pass ⟨0,0,0,0⟩)
noncomputable def en (P:Params) (x:Str) (t:Tok) (v:Value):DictEntry:=⟨PyData.keyHash P x,.str x t,v⟩
noncomputable section
def tq (a:Array Value):Obj:={ cls:=.type "tuple",data:=.seq a }
def fc (a:Array Value):Obj:={ cls:=.type "code",data:=.fields a }
def cp (n:Nat):Value:=.str "/claim/cut.py" n
def pr0 (x:Str) (i:Nat):Obj:={ cls:=.none,data:=.func { name:=x,qualname:=x,params:=defArgs (top0 i),body:=.stmts (defBody (top0 i)),scope:=defScope (top0 i),globals:=0,closure:=[],defaults:=.none,kwdefaults:=.none } }
def Kf:Params→PySem.W.Frag:=fun P=>(nat_lit 2,{ cls:=.none,data:=Data.dict #[] }) ::
 (nat_lit 3,{ cls:=.type "dict",data:=Data.dict #[en P "__name__" 165 (.str "law_sluice_k45_day_takes_and_kept" 571),en P "__doc__" 166 .none,en P "__package__" 167 .none,en P "__loader__" 168 (.builtin "__main__.__loader__#opaque"),en P "__spec__" 169 .none,en P "__annotations__" 170 (.ref 6),en P "__builtins__" 171 (.ref 4),en P "__file__" 173 (cp 172),en P "__cached__" 174 .none,en P "SluiceError" 206 (.ref 24),en P "NoReach" 222 (.ref 37),en P "TooMuch" 238 (.ref 49),en P "NoPond" 254 (.ref 61),en P "MOUTH" 259 (.int (-1) 258),en P "way_of" 268 (.ref 70),en P "tops_first" 276 (.ref 77),en P "mouths_of" 282 (.ref 82),en P "stretch_of" 292 (.ref 89),en P "natural_of" 304 (.ref 96),en P "flows_of" 318 (.ref 103),en P "reaches_of" 332 (.ref 110),en P "day_filed" 339 (.ref 117),en P "start_of" 346 (.ref 124),en P "gives_back" 353 (.ref 131),en P "most_of" 360 (.ref 138),en P "ranked" 368 (.ref 145),en P "groups_of" 377 (.ref 152),en P "wants_of" 383 (.ref 157),en P "count_ways" 396 (.ref 164),en P "whole_turns" 402 (.ref 169),en P "draw" 412 (.ref 176),en P "take_whole_turns" 418 (.ref 181),en P "take_one_turn" 424 (.ref 186),en P "deal_turns" 436 (.ref 193),en P "deal" 444 (.ref 198),en P "WHOLE" 448 (.int 1000 447),en P "pond_start" 459 (.ref 205),en P "look_at_let" 473 (.ref 212),en P "let_out" 489 (.ref 219),en P "pond_calls" 505 (.ref 226),en P "evening" 523 (.ref 233),en P "morning_of" 538 (.ref 240),en P "moves_of" 558 (.ref 247),en P "used_of" 564 (.ref 252),en P "day_of" 570 (.ref 257),en P "_law_nth" 581 (.ref 264),en P "_law_draws" 592 (.ref 271),en P "_law_river" 598 (.ref 276),en P "_law_way" 608 (.ref 283),en P "_law_amount" 616 (.ref 290),en P "_law_some" 624 (.ref 297),en P "_law_line" 637 (.ref 304),en P "_law_call" 645 (.ref 311),en P "_law_roll" 661 (.ref 318),en P "_law_put_in" 674 (.ref 325),en P "_law_ponds" 680 (.ref 330),en P "_law_lets" 696 (.ref 337),en P "_law_numbers" 702 (.ref 342),en P "_law_kept" 715 (.ref 349),en P "_law_kinds" 725 (.ref 356),en P "law" 731 (.ref 361)] 61 }) ::
 (nat_lit 15,(tq #[.type "ValueError"])) ::
 (nat_lit 22,(tq #[])) ::
 (nat_lit 23,{ cls:=.type "dict",data:=Data.dict #[en P "__module__" 196 (.str "sluice.errors" 187),en P "__firstlineno__" 200 (.int 2 199),en P "__static_attributes__" 201 (.ref 22),en P "__weakref__" 203 (.ref 25),en P "__doc__" 204 .none] 3 }) ::
 (nat_lit 24,{ cls:=.type "type",data:=Data.cls { name:="SluiceError",bases:=[.type "ValueError"],mro:=[.ref 24,.type "ValueError",.type "Exception",.type "BaseException",.type "object"],ns:=23,qualname:="SluiceError",subclasses:=[.ref 37,.ref 49,.ref 61] },slots:=#[some (.ref 15),none,some (.str "SluiceError" 189),some (.str "SluiceError" 197),some (.builtin "ValueError.__new__"),some (.bool true)] }) ::
 (nat_lit 25,{ cls:=.type "getset_descriptor",data:=Data.fields #[.str "__weakref__" 202,.ref 24,.builtin "ExceptionGroup.__weakref__",.none] }) ::
 (nat_lit 28,(tq #[.ref 24])) ::
 (nat_lit 35,(tq #[])) ::
 (nat_lit 36,{ cls:=.type "dict",data:=Data.dict #[en P "__module__" 214 (.str "sluice.errors" 187),en P "__firstlineno__" 218 (.int 4 217),en P "__static_attributes__" 219 (.ref 35),en P "__doc__" 220 .none] 2 }) ::
 (nat_lit 37,{ cls:=.type "type",data:=Data.cls { name:="NoReach",bases:=[.ref 24],mro:=[.ref 37,.ref 24,.type "ValueError",.type "Exception",.type "BaseException",.type "object"],ns:=36,qualname:="NoReach" },slots:=#[some (.ref 28),none,some (.str "NoReach" 207),some (.str "NoReach" 215),some (.builtin "ValueError.__new__"),some (.bool true)] }) ::
 (nat_lit 40,(tq #[.ref 24])) ::
 (nat_lit 47,(tq #[])) ::
 (nat_lit 48,{ cls:=.type "dict",data:=Data.dict #[en P "__module__" 230 (.str "sluice.errors" 187),en P "__firstlineno__" 234 (.int 6 233),en P "__static_attributes__" 235 (.ref 47),en P "__doc__" 236 .none] 2 }) ::
 (nat_lit 49,{ cls:=.type "type",data:=Data.cls { name:="TooMuch",bases:=[.ref 24],mro:=[.ref 49,.ref 24,.type "ValueError",.type "Exception",.type "BaseException",.type "object"],ns:=48,qualname:="TooMuch" },slots:=#[some (.ref 40),none,some (.str "TooMuch" 223),some (.str "TooMuch" 231),some (.builtin "ValueError.__new__"),some (.bool true)] }) ::
 (nat_lit 52,(tq #[.ref 24])) ::
 (nat_lit 59,(tq #[])) ::
 (nat_lit 60,{ cls:=.type "dict",data:=Data.dict #[en P "__module__" 246 (.str "sluice.errors" 187),en P "__firstlineno__" 250 (.int 8 249),en P "__static_attributes__" 251 (.ref 59),en P "__doc__" 252 .none] 2 }) ::
 (nat_lit 61,{ cls:=.type "type",data:=Data.cls { name:="NoPond",bases:=[.ref 24],mro:=[.ref 61,.ref 24,.type "ValueError",.type "Exception",.type "BaseException",.type "object"],ns:=60,qualname:="NoPond" },slots:=#[some (.ref 52),none,some (.str "NoPond" 239),some (.str "NoPond" 247),some (.builtin "ValueError.__new__"),some (.bool true)] }) ::
 (nat_lit 64,(tq #[])) ::
 (nat_lit 66,(tq #[.str "below" 263,.str "reach" 264,.str "way" 265])) ::
 (nat_lit 67,(tq #[])) ::
 (nat_lit 69,(fc #[.str "way_of" 260,.str "way_of" 261,cp 262,.int 12 0,.int 2 0,.int 0 0,.int 0 0,.int 3 0,.ref 64,.bool true,.int 181 0,.ref 65,.none,.ref 66,.ref 67,.ref 68,.int 266 0,.int 12 0,cp 267])) ::
 (nat_lit 70,⟨.type "function",none,.func (PySem.W.fnOf "way_of" "way_of" (defArgs (top0 7)) (defBody (top0 7)) (defScope (top0 7)) .none .none .none (.str "sluice.rivers" 255) none (.ref 69) .none),#[]⟩) ::
 (nat_lit 71,(tq #[])) ::
 (nat_lit 73,(tq #[.str "below" 272])) ::
 (nat_lit 74,(tq #[.str "below" 273])) ::
 (nat_lit 76,(fc #[.str "tops_first" 269,.str "tops_first" 270,cp 271,.int 17 0,.int 1 0,.int 0 0,.int 0 0,.int 3 0,.ref 71,.bool true,.int 181 0,.ref 72,.none,.ref 73,.ref 74,.ref 75,.int 274 0,.int 17 0,cp 275])) ::
 (nat_lit 77,⟨.type "function",none,.func (PySem.W.fnOf "tops_first" "tops_first" (defArgs (top0 8)) (defBody (top0 8)) (defScope (top0 8)) .none .none .none (.str "sluice.rivers" 255) none (.ref 76) .none),#[]⟩) ::
 (nat_lit 78,(tq #[])) ::
 (nat_lit 81,(fc #[.str "mouths_of" 277,.str "mouths_of" 278,cp 279,.int 19 0,.int 1 0,.int 0 0,.int 0 0,.int 3 0,.ref 78,.bool true,.int 181 0,.ref 79,.none,.none,.none,.ref 80,.int 280 0,.int 19 0,cp 281])) ::
 (nat_lit 82,⟨.type "function",none,.func (PySem.W.fnOf "mouths_of" "mouths_of" (defArgs (top0 9)) (defBody (top0 9)) (defScope (top0 9)) .none .none .none (.str "sluice.rivers" 255) none (.ref 81) .none),#[]⟩) ::
 (nat_lit 83,(tq #[])) ::
 (nat_lit 85,(tq #[.str "below" 286,.str "start" 287,.str "stop" 288,.str "way" 289])) ::
 (nat_lit 86,(tq #[])) ::
 (nat_lit 88,(fc #[.str "stretch_of" 283,.str "stretch_of" 284,cp 285,.int 21 0,.int 3 0,.int 0 0,.int 0 0,.int 3 0,.ref 83,.bool true,.int 181 0,.ref 84,.none,.ref 85,.ref 86,.ref 87,.int 290 0,.int 21 0,cp 291])) ::
 (nat_lit 89,⟨.type "function",none,.func (PySem.W.fnOf "stretch_of" "stretch_of" (defArgs (top0 10)) (defBody (top0 10)) (defScope (top0 10)) .none .none .none (.str "sluice.rivers" 255) none (.ref 88) .none),#[]⟩) ::
 (nat_lit 90,(tq #[])) ::
 (nat_lit 92,(tq #[.str "below" 298,.str "springs" 299,.str "flows" 300,.str "reach" 301])) ::
 (nat_lit 93,(tq #[])) ::
 (nat_lit 95,(fc #[.str "natural_of" 295,.str "natural_of" 296,cp 297,.int 29 0,.int 2 0,.int 0 0,.int 0 0,.int 3 0,.ref 90,.bool true,.int 181 0,.ref 91,.none,.ref 92,.ref 93,.ref 94,.int 302 0,.int 29 0,cp 303])) ::
 (nat_lit 96,⟨.type "function",none,.func (PySem.W.fnOf "natural_of" "natural_of" (defArgs (top0 12)) (defBody (top0 12)) (defScope (top0 12)) .none .none .none (.str "sluice.flows" 293) none (.ref 95) .none),#[]⟩) ::
 (nat_lit 97,(tq #[])) ::
 (nat_lit 99,(tq #[.str "below" 308,.str "springs" 309,.str "moves" 310,.str "flows" 311,.str "start" 312,.str "stop" 313,.str "amount" 314,.str "reach" 315])) ::
 (nat_lit 100,(tq #[])) ::
 (nat_lit 102,(fc #[.str "flows_of" 305,.str "flows_of" 306,cp 307,.int 35 0,.int 3 0,.int 0 0,.int 0 0,.int 3 0,.ref 97,.bool true,.int 181 0,.ref 98,.none,.ref 99,.ref 100,.ref 101,.int 316 0,.int 35 0,cp 317])) ::
 (nat_lit 103,⟨.type "function",none,.func (PySem.W.fnOf "flows_of" "flows_of" (defArgs (top0 13)) (defBody (top0 13)) (defScope (top0 13)) .none .none .none (.str "sluice.flows" 293) none (.ref 102) .none),#[]⟩) ::
 (nat_lit 104,(tq #[])) ::
 (nat_lit 106,(tq #[.str "below" 324,.str "one" 325,.str "day" 326,.str "start" 327,.str "back" 328,.str "most" 329])) ::
 (nat_lit 107,(tq #[])) ::
 (nat_lit 109,(fc #[.str "reaches_of" 321,.str "reaches_of" 322,cp 323,.int 42 0,.int 2 0,.int 0 0,.int 0 0,.int 3 0,.ref 104,.bool true,.int 181 0,.ref 105,.none,.ref 106,.ref 107,.ref 108,.int 330 0,.int 42 0,cp 331])) ::
 (nat_lit 110,⟨.type "function",none,.func (PySem.W.fnOf "reaches_of" "reaches_of" (defArgs (top0 15)) (defBody (top0 15)) (defScope (top0 15)) .none .none .none (.str "sluice.licences" 319) none (.ref 109) .none),#[]⟩) ::
 (nat_lit 111,(tq #[])) ::
 (nat_lit 113,(tq #[.str "one" 336])) ::
 (nat_lit 114,(tq #[])) ::
 (nat_lit 116,(fc #[.str "day_filed" 333,.str "day_filed" 334,cp 335,.int 45 0,.int 1 0,.int 0 0,.int 0 0,.int 3 0,.ref 111,.bool true,.int 181 0,.ref 112,.none,.ref 113,.ref 114,.ref 115,.int 337 0,.int 45 0,cp 338])) ::
 (nat_lit 117,⟨.type "function",none,.func (PySem.W.fnOf "day_filed" "day_filed" (defArgs (top0 16)) (defBody (top0 16)) (defScope (top0 16)) .none .none .none (.str "sluice.licences" 319) none (.ref 116) .none),#[]⟩) ::
 (nat_lit 118,(tq #[])) ::
 (nat_lit 120,(tq #[.str "one" 343])) ::
 (nat_lit 121,(tq #[])) ::
 (nat_lit 123,(fc #[.str "start_of" 340,.str "start_of" 341,cp 342,.int 47 0,.int 1 0,.int 0 0,.int 0 0,.int 3 0,.ref 118,.bool true,.int 181 0,.ref 119,.none,.ref 120,.ref 121,.ref 122,.int 344 0,.int 47 0,cp 345])) ::
 (nat_lit 124,⟨.type "function",none,.func (PySem.W.fnOf "start_of" "start_of" (defArgs (top0 17)) (defBody (top0 17)) (defScope (top0 17)) .none .none .none (.str "sluice.licences" 319) none (.ref 123) .none),#[]⟩) ::
 (nat_lit 125,(tq #[])) ::
 (nat_lit 127,(tq #[.str "one" 350])) ::
 (nat_lit 128,(tq #[])) ::
 (nat_lit 130,(fc #[.str "gives_back" 347,.str "gives_back" 348,cp 349,.int 49 0,.int 1 0,.int 0 0,.int 0 0,.int 3 0,.ref 125,.bool true,.int 181 0,.ref 126,.none,.ref 127,.ref 128,.ref 129,.int 351 0,.int 49 0,cp 352])) ::
 (nat_lit 131,⟨.type "function",none,.func (PySem.W.fnOf "gives_back" "gives_back" (defArgs (top0 18)) (defBody (top0 18)) (defScope (top0 18)) .none .none .none (.str "sluice.licences" 319) none (.ref 130) .none),#[]⟩) ::
 (nat_lit 132,(tq #[])) ::
 (nat_lit 134,(tq #[.str "one" 357])) ::
 (nat_lit 135,(tq #[])) ::
 (nat_lit 137,(fc #[.str "most_of" 354,.str "most_of" 355,cp 356,.int 51 0,.int 1 0,.int 0 0,.int 0 0,.int 3 0,.ref 132,.bool true,.int 181 0,.ref 133,.none,.ref 134,.ref 135,.ref 136,.int 358 0,.int 51 0,cp 359])) ::
 (nat_lit 138,⟨.type "function",none,.func (PySem.W.fnOf "most_of" "most_of" (defArgs (top0 19)) (defBody (top0 19)) (defScope (top0 19)) .none .none .none (.str "sluice.licences" 319) none (.ref 137) .none),#[]⟩) ::
 (nat_lit 139,(tq #[])) ::
 (nat_lit 141,(tq #[.str "roll" 364])) ::
 (nat_lit 142,(tq #[.str "roll" 365])) ::
 (nat_lit 144,(fc #[.str "ranked" 361,.str "ranked" 362,cp 363,.int 53 0,.int 1 0,.int 0 0,.int 0 0,.int 3 0,.ref 139,.bool true,.int 181 0,.ref 140,.none,.ref 141,.ref 142,.ref 143,.int 366 0,.int 53 0,cp 367])) ::
 (nat_lit 145,⟨.type "function",none,.func (PySem.W.fnOf "ranked" "ranked" (defArgs (top0 20)) (defBody (top0 20)) (defScope (top0 20)) .none .none .none (.str "sluice.licences" 319) none (.ref 144) .none),#[]⟩) ::
 (nat_lit 146,(tq #[])) ::
 (nat_lit 148,(tq #[.str "roll" 372,.str "groups" 373,.str "number" 374])) ::
 (nat_lit 149,(tq #[])) ::
 (nat_lit 151,(fc #[.str "groups_of" 369,.str "groups_of" 370,cp 371,.int 55 0,.int 1 0,.int 0 0,.int 0 0,.int 3 0,.ref 146,.bool true,.int 181 0,.ref 147,.none,.ref 148,.ref 149,.ref 150,.int 375 0,.int 55 0,cp 376])) ::
 (nat_lit 152,⟨.type "function",none,.func (PySem.W.fnOf "groups_of" "groups_of" (defArgs (top0 21)) (defBody (top0 21)) (defScope (top0 21)) .none .none .none (.str "sluice.licences" 319) none (.ref 151) .none),#[]⟩) ::
 (nat_lit 153,(tq #[])) ::
 (nat_lit 156,(fc #[.str "wants_of" 378,.str "wants_of" 379,cp 380,.int 60 0,.int 2 0,.int 0 0,.int 0 0,.int 3 0,.ref 153,.bool true,.int 181 0,.ref 154,.none,.none,.none,.ref 155,.int 381 0,.int 60 0,cp 382])) ::
 (nat_lit 157,⟨.type "function",none,.func (PySem.W.fnOf "wants_of" "wants_of" (defArgs (top0 22)) (defBody (top0 22)) (defScope (top0 22)) .none .none .none (.str "sluice.licences" 319) none (.ref 156) .none),#[]⟩) ::
 (nat_lit 158,(tq #[])) ::
 (nat_lit 160,(tq #[.str "free" 389,.str "ways" 390,.str "counts" 391,.str "way" 392,.str "reach" 393])) ::
 (nat_lit 161,(tq #[])) ::
 (nat_lit 163,(fc #[.str "count_ways" 386,.str "count_ways" 387,cp 388,.int 63 0,.int 2 0,.int 0 0,.int 0 0,.int 3 0,.ref 158,.bool true,.int 181 0,.ref 159,.none,.ref 160,.ref 161,.ref 162,.int 394 0,.int 63 0,cp 395])) ::
 (nat_lit 164,⟨.type "function",none,.func (PySem.W.fnOf "count_ways" "count_ways" (defArgs (top0 24)) (defBody (top0 24)) (defScope (top0 24)) .none .none .none (.str "sluice.turns" 384) none (.ref 163) .none),#[]⟩) ::
 (nat_lit 165,(tq #[])) ::
 (nat_lit 168,(fc #[.str "whole_turns" 397,.str "whole_turns" 398,cp 399,.int 69 0,.int 3 0,.int 0 0,.int 0 0,.int 3 0,.ref 165,.bool true,.int 181 0,.ref 166,.none,.none,.none,.ref 167,.int 400 0,.int 69 0,cp 401])) ::
 (nat_lit 169,⟨.type "function",none,.func (PySem.W.fnOf "whole_turns" "whole_turns" (defArgs (top0 25)) (defBody (top0 25)) (defScope (top0 25)) .none .none .none (.str "sluice.turns" 384) none (.ref 168) .none),#[]⟩) ::
 (nat_lit 170,(tq #[])) ::
 (nat_lit 172,(tq #[.str "left" 406,.str "way" 407,.str "drops" 408,.str "reach" 409])) ::
 (nat_lit 173,(tq #[])) ::
 (nat_lit 175,(fc #[.str "draw" 403,.str "draw" 404,cp 405,.int 73 0,.int 3 0,.int 0 0,.int 0 0,.int 3 0,.ref 170,.bool true,.int 181 0,.ref 171,.none,.ref 172,.ref 173,.ref 174,.int 410 0,.int 73 0,cp 411])) ::
 (nat_lit 176,⟨.type "function",none,.func (PySem.W.fnOf "draw" "draw" (defArgs (top0 26)) (defBody (top0 26)) (defScope (top0 26)) .none .none .none (.str "sluice.turns" 384) none (.ref 175) .none),#[]⟩) ::
 (nat_lit 177,(tq #[])) ::
 (nat_lit 180,(fc #[.str "take_whole_turns" 413,.str "take_whole_turns" 414,cp 415,.int 76 0,.int 5 0,.int 0 0,.int 0 0,.int 3 0,.ref 177,.bool true,.int 181 0,.ref 178,.none,.none,.none,.ref 179,.int 416 0,.int 76 0,cp 417])) ::
 (nat_lit 181,⟨.type "function",none,.func (PySem.W.fnOf "take_whole_turns" "take_whole_turns" (defArgs (top0 27)) (defBody (top0 27)) (defScope (top0 27)) .none .none .none (.str "sluice.turns" 384) none (.ref 180) .none),#[]⟩) ::
 (nat_lit 182,(tq #[])) ::
 (nat_lit 185,(fc #[.str "take_one_turn" 419,.str "take_one_turn" 420,cp 421,.int 82 0,.int 5 0,.int 0 0,.int 0 0,.int 3 0,.ref 182,.bool true,.int 181 0,.ref 183,.none,.none,.none,.ref 184,.int 422 0,.int 82 0,cp 423])) ::
 (nat_lit 186,⟨.type "function",none,.func (PySem.W.fnOf "take_one_turn" "take_one_turn" (defArgs (top0 28)) (defBody (top0 28)) (defScope (top0 28)) .none .none .none (.str "sluice.turns" 384) none (.ref 185) .none),#[]⟩) ::
 (nat_lit 187,(tq #[])) ::
 (nat_lit 189,(tq #[.str "free" 428,.str "ways" 429,.str "rests" 430,.str "left" 431,.str "takes" 432,.str "going" 433])) ::
 (nat_lit 190,(tq #[])) ::
 (nat_lit 192,(fc #[.str "deal_turns" 425,.str "deal_turns" 426,cp 427,.int 90 0,.int 3 0,.int 0 0,.int 0 0,.int 3 0,.ref 187,.bool true,.int 181 0,.ref 188,.none,.ref 189,.ref 190,.ref 191,.int 434 0,.int 90 0,cp 435])) ::
 (nat_lit 193,⟨.type "function",none,.func (PySem.W.fnOf "deal_turns" "deal_turns" (defArgs (top0 29)) (defBody (top0 29)) (defScope (top0 29)) .none .none .none (.str "sluice.turns" 384) none (.ref 192) .none),#[]⟩) ::
 (nat_lit 194,(tq #[])) ::
 (nat_lit 197,(fc #[.str "deal" 439,.str "deal" 440,cp 441,.int 99 0,.int 4 0,.int 0 0,.int 0 0,.int 3 0,.ref 194,.bool true,.int 181 0,.ref 195,.none,.none,.none,.ref 196,.int 442 0,.int 99 0,cp 443])) ::
 (nat_lit 198,⟨.type "function",none,.func (PySem.W.fnOf "deal" "deal" (defArgs (top0 31)) (defBody (top0 31)) (defScope (top0 31)) .none .none .none (.str "sluice.dealing" 437) none (.ref 197) .none),#[]⟩) ::
 (nat_lit 199,(tq #[])) ::
 (nat_lit 201,(tq #[.str "roll" 452,.str "pond" 453,.str "number" 454,.str "room" 455,.str "leak" 456])) ::
 (nat_lit 202,(tq #[])) ::
 (nat_lit 204,(fc #[.str "pond_start" 449,.str "pond_start" 450,cp 451,.int 111 0,.int 2 0,.int 0 0,.int 0 0,.int 3 0,.ref 199,.bool true,.int 181 0,.ref 200,.none,.ref 201,.ref 202,.ref 203,.int 457 0,.int 111 0,cp 458])) ::
 (nat_lit 205,⟨.type "function",none,.func (PySem.W.fnOf "pond_start" "pond_start" (defArgs (top0 34)) (defBody (top0 34)) (defScope (top0 34)) .none .none .none (.str "sluice.ponds" 445) none (.ref 204) .none),#[]⟩) ::
 (nat_lit 206,(tq #[])) ::
 (nat_lit 208,(tq #[.str "below" 463,.str "roll" 464,.str "ponds" 465,.str "kept" 466,.str "let" 467,.str "place" 468,.str "reach" 469,.str "amount" 470])) ::
 (nat_lit 209,(tq #[])) ::
 (nat_lit 211,(fc #[.str "look_at_let" 460,.str "look_at_let" 461,cp 462,.int 114 0,.int 5 0,.int 0 0,.int 0 0,.int 3 0,.ref 206,.bool true,.int 181 0,.ref 207,.none,.ref 208,.ref 209,.ref 210,.int 471 0,.int 114 0,cp 472])) ::
 (nat_lit 212,⟨.type "function",none,.func (PySem.W.fnOf "look_at_let" "look_at_let" (defArgs (top0 35)) (defBody (top0 35)) (defScope (top0 35)) .none .none .none (.str "sluice.ponds" 445) none (.ref 211) .none),#[]⟩) ::
 (nat_lit 213,(tq #[])) ::
 (nat_lit 215,(tq #[.str "below" 477,.str "roll" 478,.str "ponds" 479,.str "kept" 480,.str "lets" 481,.str "left" 482,.str "let" 483,.str "place" 484,.str "reach" 485,.str "amount" 486])) ::
 (nat_lit 216,(tq #[])) ::
 (nat_lit 218,(fc #[.str "let_out" 474,.str "let_out" 475,cp 476,.int 122 0,.int 5 0,.int 0 0,.int 0 0,.int 3 0,.ref 213,.bool true,.int 181 0,.ref 214,.none,.ref 215,.ref 216,.ref 217,.int 487 0,.int 122 0,cp 488])) ::
 (nat_lit 219,⟨.type "function",none,.func (PySem.W.fnOf "let_out" "let_out" (defArgs (top0 36)) (defBody (top0 36)) (defScope (top0 36)) .none .none .none (.str "sluice.ponds" 445) none (.ref 218) .none),#[]⟩) ::
 (nat_lit 220,(tq #[])) ::
 (nat_lit 222,(tq #[.str "roll" 493,.str "ponds" 494,.str "kept" 495,.str "calls" 496,.str "lessened" 497,.str "pond" 498,.str "keeps" 499,.str "number" 500,.str "room" 501,.str "leak" 502])) ::
 (nat_lit 223,(tq #[])) ::
 (nat_lit 225,(fc #[.str "pond_calls" 490,.str "pond_calls" 491,cp 492,.int 129 0,.int 4 0,.int 0 0,.int 0 0,.int 3 0,.ref 220,.bool true,.int 181 0,.ref 221,.none,.ref 222,.ref 223,.ref 224,.int 503 0,.int 129 0,cp 504])) ::
 (nat_lit 226,⟨.type "function",none,.func (PySem.W.fnOf "pond_calls" "pond_calls" (defArgs (top0 37)) (defBody (top0 37)) (defScope (top0 37)) .none .none .none (.str "sluice.ponds" 445) none (.ref 225) .none),#[]⟩) ::
 (nat_lit 227,(tq #[])) ::
 (nat_lit 229,(tq #[.str "ponds" 509,.str "kept" 510,.str "takes" 511,.str "after" 512,.str "lost" 513,.str "pond" 514,.str "keeps" 515,.str "number" 516,.str "room" 517,.str "leak" 518,.str "full" 519,.str "loss" 520])) ::
 (nat_lit 230,(tq #[])) ::
 (nat_lit 232,(fc #[.str "evening" 506,.str "evening" 507,cp 508,.int 135 0,.int 3 0,.int 0 0,.int 0 0,.int 3 0,.ref 227,.bool true,.int 181 0,.ref 228,.none,.ref 229,.ref 230,.ref 231,.int 521 0,.int 135 0,cp 522])) ::
 (nat_lit 233,⟨.type "function",none,.func (PySem.W.fnOf "evening" "evening" (defArgs (top0 38)) (defBody (top0 38)) (defScope (top0 38)) .none .none .none (.str "sluice.ponds" 445) none (.ref 232) .none),#[]⟩) ::
 (nat_lit 234,(tq #[])) ::
 (nat_lit 236,(tq #[.str "below" 529,.str "roll" 530,.str "ponds" 531,.str "kept" 532,.str "calls" 533,.str "lets" 534,.str "left" 535])) ::
 (nat_lit 237,(tq #[])) ::
 (nat_lit 239,(fc #[.str "morning_of" 526,.str "morning_of" 527,cp 528,.int 146 0,.int 6 0,.int 0 0,.int 0 0,.int 3 0,.ref 234,.bool true,.int 181 0,.ref 235,.none,.ref 236,.ref 237,.ref 238,.int 536 0,.int 146 0,cp 537])) ::
 (nat_lit 240,⟨.type "function",none,.func (PySem.W.fnOf "morning_of" "morning_of" (defArgs (top0 40)) (defBody (top0 40)) (defScope (top0 40)) .none .none .none (.str "sluice.days" 524) none (.ref 239) .none),#[]⟩) ::
 (nat_lit 241,(tq #[])) ::
 (nat_lit 243,(tq #[.str "roll" 542,.str "ponds" 543,.str "takes" 544,.str "lets" 545,.str "moves" 546,.str "one" 547,.str "take" 548,.str "day" 549,.str "start" 550,.str "back" 551,.str "most" 552,.str "place" 553,.str "reach" 554,.str "amount" 555])) ::
 (nat_lit 244,(tq #[])) ::
 (nat_lit 246,(fc #[.str "moves_of" 539,.str "moves_of" 540,cp 541,.int 149 0,.int 4 0,.int 0 0,.int 0 0,.int 3 0,.ref 241,.bool true,.int 181 0,.ref 242,.none,.ref 243,.ref 244,.ref 245,.int 556 0,.int 149 0,cp 557])) ::
 (nat_lit 247,⟨.type "function",none,.func (PySem.W.fnOf "moves_of" "moves_of" (defArgs (top0 41)) (defBody (top0 41)) (defScope (top0 41)) .none .none .none (.str "sluice.days" 524) none (.ref 246) .none),#[]⟩) ::
 (nat_lit 248,(tq #[])) ::
 (nat_lit 251,(fc #[.str "used_of" 559,.str "used_of" 560,cp 561,.int 157 0,.int 4 0,.int 0 0,.int 0 0,.int 3 0,.ref 248,.bool true,.int 181 0,.ref 249,.none,.none,.none,.ref 250,.int 562 0,.int 157 0,cp 563])) ::
 (nat_lit 252,⟨.type "function",none,.func (PySem.W.fnOf "used_of" "used_of" (defArgs (top0 42)) (defBody (top0 42)) (defScope (top0 42)) .none .none .none (.str "sluice.days" 524) none (.ref 251) .none),#[]⟩) ::
 (nat_lit 253,(tq #[])) ::
 (nat_lit 256,(fc #[.str "day_of" 565,.str "day_of" 566,cp 567,.int 161 0,.int 7 0,.int 0 0,.int 0 0,.int 3 0,.ref 253,.bool true,.int 181 0,.ref 254,.none,.none,.none,.ref 255,.int 568 0,.int 161 0,cp 569])) ::
 (nat_lit 257,⟨.type "function",none,.func (PySem.W.fnOf "day_of" "day_of" (defArgs (top0 43)) (defBody (top0 43)) (defScope (top0 43)) .none .none .none (.str "sluice.days" 524) none (.ref 256) .none),#[]⟩) ::
 (nat_lit 258,(tq #[])) ::
 (nat_lit 260,(tq #[.str "script" 576,.str "k" 577,.str "cell" 578])) ::
 (nat_lit 261,(tq #[])) ::
 (nat_lit 263,(fc #[.str "_law_nth" 573,.str "_law_nth" 574,cp 575,.int 170 0,.int 2 0,.int 0 0,.int 0 0,.int 3 0,.ref 258,.bool true,.int 181 0,.ref 259,.none,.ref 260,.ref 261,.ref 262,.int 579 0,.int 170 0,cp 580])) ::
 (nat_lit 264,⟨.type "function",none,.func (PySem.W.fnOf "_law_nth" "_law_nth" (defArgs (top0 45)) (defBody (top0 45)) (defScope (top0 45)) .none .none .none (.str "law_sluice_k45_day_takes_and_kept" 571) none (.ref 263) .none),#[]⟩) ::
 (nat_lit 265,(tq #[])) ::
 (nat_lit 267,(tq #[.str "cell" 585,.str "many" 586,.str "drawn" 587,.str "k" 588,.str "base" 589])) ::
 (nat_lit 268,(tq #[])) ::
 (nat_lit 270,(fc #[.str "_law_draws" 582,.str "_law_draws" 583,cp 584,.int 174 0,.int 2 0,.int 0 0,.int 0 0,.int 3 0,.ref 265,.bool true,.int 181 0,.ref 266,.none,.ref 267,.ref 268,.ref 269,.int 590 0,.int 174 0,cp 591])) ::
 (nat_lit 271,⟨.type "function",none,.func (PySem.W.fnOf "_law_draws" "_law_draws" (defArgs (top0 46)) (defBody (top0 46)) (defScope (top0 46)) .none .none .none (.str "law_sluice_k45_day_takes_and_kept" 571) none (.ref 270) .none),#[]⟩) ::
 (nat_lit 272,(tq #[])) ::
 (nat_lit 275,(fc #[.str "_law_river" 593,.str "_law_river" 594,cp 595,.int 180 0,.int 1 0,.int 0 0,.int 0 0,.int 3 0,.ref 272,.bool true,.int 181 0,.ref 273,.none,.none,.none,.ref 274,.int 596 0,.int 180 0,cp 597])) ::
 (nat_lit 276,⟨.type "function",none,.func (PySem.W.fnOf "_law_river" "_law_river" (defArgs (top0 47)) (defBody (top0 47)) (defScope (top0 47)) .none .none .none (.str "law_sluice_k45_day_takes_and_kept" 571) none (.ref 275) .none),#[]⟩) ::
 (nat_lit 277,(tq #[])) ::
 (nat_lit 279,(tq #[.str "below" 602,.str "start" 603,.str "way" 604,.str "at" 605])) ::
 (nat_lit 280,(tq #[])) ::
 (nat_lit 282,(fc #[.str "_law_way" 599,.str "_law_way" 600,cp 601,.int 200 0,.int 2 0,.int 0 0,.int 0 0,.int 3 0,.ref 277,.bool true,.int 181 0,.ref 278,.none,.ref 279,.ref 280,.ref 281,.int 606 0,.int 200 0,cp 607])) ::
 (nat_lit 283,⟨.type "function",none,.func (PySem.W.fnOf "_law_way" "_law_way" (defArgs (top0 48)) (defBody (top0 48)) (defScope (top0 48)) .none .none .none (.str "law_sluice_k45_day_takes_and_kept" 571) none (.ref 282) .none),#[]⟩) ::
 (nat_lit 284,(tq #[])) ::
 (nat_lit 286,(tq #[.str "number" 612,.str "kind" 613])) ::
 (nat_lit 287,(tq #[])) ::
 (nat_lit 289,(fc #[.str "_law_amount" 609,.str "_law_amount" 610,cp 611,.int 207 0,.int 2 0,.int 0 0,.int 0 0,.int 3 0,.ref 284,.bool true,.int 181 0,.ref 285,.none,.ref 286,.ref 287,.ref 288,.int 614 0,.int 207 0,cp 615])) ::
 (nat_lit 290,⟨.type "function",none,.func (PySem.W.fnOf "_law_amount" "_law_amount" (defArgs (top0 49)) (defBody (top0 49)) (defScope (top0 49)) .none .none .none (.str "law_sluice_k45_day_takes_and_kept" 571) none (.ref 289) .none),#[]⟩) ::
 (nat_lit 291,(tq #[])) ::
 (nat_lit 293,(tq #[.str "number" 620,.str "most" 621])) ::
 (nat_lit 294,(tq #[])) ::
 (nat_lit 296,(fc #[.str "_law_some" 617,.str "_law_some" 618,cp 619,.int 215 0,.int 2 0,.int 0 0,.int 0 0,.int 3 0,.ref 291,.bool true,.int 181 0,.ref 292,.none,.ref 293,.ref 294,.ref 295,.int 622 0,.int 215 0,cp 623])) ::
 (nat_lit 297,⟨.type "function",none,.func (PySem.W.fnOf "_law_some" "_law_some" (defArgs (top0 50)) (defBody (top0 50)) (defScope (top0 50)) .none .none .none (.str "law_sluice_k45_day_takes_and_kept" 571) none (.ref 296) .none),#[]⟩) ::
 (nat_lit 298,(tq #[])) ::
 (nat_lit 300,(tq #[.str "xs" 628,.str "below" 629,.str "kind" 630,.str "far" 631,.str "start" 632,.str "way" 633,.str "back" 634])) ::
 (nat_lit 301,(tq #[])) ::
 (nat_lit 303,(fc #[.str "_law_line" 625,.str "_law_line" 626,cp 627,.int 221 0,.int 4 0,.int 0 0,.int 0 0,.int 3 0,.ref 298,.bool true,.int 181 0,.ref 299,.none,.ref 300,.ref 301,.ref 302,.int 635 0,.int 221 0,cp 636])) ::
 (nat_lit 304,⟨.type "function",none,.func (PySem.W.fnOf "_law_line" "_law_line" (defArgs (top0 51)) (defBody (top0 51)) (defScope (top0 51)) .none .none .none (.str "law_sluice_k45_day_takes_and_kept" 571) none (.ref 303) .none),#[]⟩) ::
 (nat_lit 305,(tq #[])) ::
 (nat_lit 307,(tq #[.str "number" 641,.str "most" 642])) ::
 (nat_lit 308,(tq #[])) ::
 (nat_lit 310,(fc #[.str "_law_call" 638,.str "_law_call" 639,cp 640,.int 228 0,.int 2 0,.int 0 0,.int 0 0,.int 3 0,.ref 305,.bool true,.int 181 0,.ref 306,.none,.ref 307,.ref 308,.ref 309,.int 643 0,.int 228 0,cp 644])) ::
 (nat_lit 311,⟨.type "function",none,.func (PySem.W.fnOf "_law_call" "_law_call" (defArgs (top0 52)) (defBody (top0 52)) (defScope (top0 52)) .none .none .none (.str "law_sluice_k45_day_takes_and_kept" 571) none (.ref 310) .none),#[]⟩) ::
 (nat_lit 312,(tq #[])) ::
 (nat_lit 314,(tq #[.str "cell" 649,.str "cells" 650,.str "below" 651,.str "kind" 652,.str "many" 653,.str "far" 654,.str "roll" 655,.str "k" 656,.str "one" 657,.str "xs" 658])) ::
 (nat_lit 315,(tq #[])) ::
 (nat_lit 317,(fc #[.str "_law_roll" 646,.str "_law_roll" 647,cp 648,.int 234 0,.int 4 0,.int 0 0,.int 0 0,.int 3 0,.ref 312,.bool true,.int 181 0,.ref 313,.none,.ref 314,.ref 315,.ref 316,.int 659 0,.int 234 0,cp 660])) ::
 (nat_lit 318,⟨.type "function",none,.func (PySem.W.fnOf "_law_roll" "_law_roll" (defArgs (top0 53)) (defBody (top0 53)) (defScope (top0 53)) .none .none .none (.str "law_sluice_k45_day_takes_and_kept" 571) none (.ref 317) .none),#[]⟩) ::
 (nat_lit 319,(tq #[])) ::
 (nat_lit 321,(tq #[.str "cells" 665,.str "springs" 666,.str "calls" 667,.str "roll" 668,.str "kind" 669,.str "one" 670,.str "xs" 671])) ::
 (nat_lit 322,(tq #[])) ::
 (nat_lit 324,(fc #[.str "_law_put_in" 662,.str "_law_put_in" 663,cp 664,.int 247 0,.int 5 0,.int 0 0,.int 0 0,.int 3 0,.ref 319,.bool true,.int 181 0,.ref 320,.none,.ref 321,.ref 322,.ref 323,.int 672 0,.int 247 0,cp 673])) ::
 (nat_lit 325,⟨.type "function",none,.func (PySem.W.fnOf "_law_put_in" "_law_put_in" (defArgs (top0 54)) (defBody (top0 54)) (defScope (top0 54)) .none .none .none (.str "law_sluice_k45_day_takes_and_kept" 571) none (.ref 324) .none),#[]⟩) ::
 (nat_lit 326,(tq #[])) ::
 (nat_lit 329,(fc #[.str "_law_ponds" 675,.str "_law_ponds" 676,cp 677,.int 254 0,.int 3 0,.int 0 0,.int 0 0,.int 3 0,.ref 326,.bool true,.int 181 0,.ref 327,.none,.none,.none,.ref 328,.int 678 0,.int 254 0,cp 679])) ::
 (nat_lit 330,⟨.type "function",none,.func (PySem.W.fnOf "_law_ponds" "_law_ponds" (defArgs (top0 55)) (defBody (top0 55)) (defScope (top0 55)) .none .none .none (.str "law_sluice_k45_day_takes_and_kept" 571) none (.ref 329) .none),#[]⟩) ::
 (nat_lit 331,(tq #[])) ::
 (nat_lit 333,(tq #[.str "cells" 684,.str "below" 685,.str "roll" 686,.str "ponds" 687,.str "left" 688,.str "lets" 689,.str "one" 690,.str "xs" 691,.str "pond" 692,.str "way" 693])) ::
 (nat_lit 334,(tq #[])) ::
 (nat_lit 336,(fc #[.str "_law_lets" 681,.str "_law_lets" 682,cp 683,.int 261 0,.int 5 0,.int 0 0,.int 0 0,.int 3 0,.ref 331,.bool true,.int 181 0,.ref 332,.none,.ref 333,.ref 334,.ref 335,.int 694 0,.int 261 0,cp 695])) ::
 (nat_lit 337,⟨.type "function",none,.func (PySem.W.fnOf "_law_lets" "_law_lets" (defArgs (top0 56)) (defBody (top0 56)) (defScope (top0 56)) .none .none .none (.str "law_sluice_k45_day_takes_and_kept" 571) none (.ref 336) .none),#[]⟩) ::
 (nat_lit 338,(tq #[])) ::
 (nat_lit 341,(fc #[.str "_law_numbers" 697,.str "_law_numbers" 698,cp 699,.int 271 0,.int 2 0,.int 0 0,.int 0 0,.int 3 0,.ref 338,.bool true,.int 181 0,.ref 339,.none,.none,.none,.ref 340,.int 700 0,.int 271 0,cp 701])) ::
 (nat_lit 342,⟨.type "function",none,.func (PySem.W.fnOf "_law_numbers" "_law_numbers" (defArgs (top0 57)) (defBody (top0 57)) (defScope (top0 57)) .none .none .none (.str "law_sluice_k45_day_takes_and_kept" 571) none (.ref 341) .none),#[]⟩) ::
 (nat_lit 343,(tq #[])) ::
 (nat_lit 345,(tq #[.str "told" 706,.str "ponds" 707,.str "left" 708,.str "takes" 709,.str "k" 710,.str "held" 711,.str "rest" 712])) ::
 (nat_lit 346,(tq #[])) ::
 (nat_lit 348,(fc #[.str "_law_kept" 703,.str "_law_kept" 704,cp 705,.int 275 0,.int 4 0,.int 0 0,.int 0 0,.int 3 0,.ref 343,.bool true,.int 181 0,.ref 344,.none,.ref 345,.ref 346,.ref 347,.int 713 0,.int 275 0,cp 714])) ::
 (nat_lit 349,⟨.type "function",none,.func (PySem.W.fnOf "_law_kept" "_law_kept" (defArgs (top0 58)) (defBody (top0 58)) (defScope (top0 58)) .none .none .none (.str "law_sluice_k45_day_takes_and_kept" 571) none (.ref 348) .none),#[]⟩) ::
 (nat_lit 350,(tq #[])) ::
 (nat_lit 352,(tq #[.str "told" 719,.str "below" 720,.str "roll" 721,.str "ponds" 722])) ::
 (nat_lit 353,(tq #[])) ::
 (nat_lit 355,(fc #[.str "_law_kinds" 716,.str "_law_kinds" 717,cp 718,.int 282 0,.int 4 0,.int 0 0,.int 0 0,.int 3 0,.ref 350,.bool true,.int 181 0,.ref 351,.none,.ref 352,.ref 353,.ref 354,.int 723 0,.int 282 0,cp 724])) ::
 (nat_lit 356,⟨.type "function",none,.func (PySem.W.fnOf "_law_kinds" "_law_kinds" (defArgs (top0 59)) (defBody (top0 59)) (defScope (top0 59)) .none .none .none (.str "law_sluice_k45_day_takes_and_kept" 571) none (.ref 355) .none),#[]⟩) ::
 (nat_lit 357,(tq #[])) ::
 (nat_lit 360,(fc #[.str "law" 726,.str "law" 727,cp 728,.int 288 0,.int 1 0,.int 0 0,.int 0 0,.int 3 0,.ref 357,.bool true,.int 181 0,.ref 358,.none,.none,.none,.ref 359,.int 729 0,.int 288 0,cp 730])) ::
 (nat_lit 361,⟨.type "function",none,.func (PySem.W.fnOf "law" "law" (defArgs (top0 60)) (defBody (top0 60)) (defScope (top0 60)) .none .none .none (.str "law_sluice_k45_day_takes_and_kept" 571) none (.ref 360) .none),#[]⟩) :: []
def asK:List Addr:=[2,3,15,22,23,24,25,28,35,36,37,40,47,48,49,52,59,60,61,64,66,67,69,70,71,73,74,76,77,78,81,82,83,85,86,88,89,90,92,93,95,96,97,99,100,102,103,104,106,107,109,110,111,113,114,116,117,118,120,121,123,124,125,127,128,130,131,132,134,135,137,138,139,141,142,144,145,146,148,149,151,152,153,156,157,158,160,161,163,164,165,168,169,170,172,173,175,176,177,180,181,182,185,186,187,189,190,192,193,194,197,198,199,201,202,204,205,206,208,209,211,212,213,215,216,218,219,220,222,223,225,226,227,229,230,232,233,234,236,237,239,240,241,243,244,246,247,248,251,252,253,256,257,258,260,261,263,264,265,267,268,270,271,272,275,276,277,279,280,282,283,284,286,287,289,290,291,293,294,296,297,298,300,301,303,304,305,307,308,310,311,312,314,315,317,318,319,321,322,324,325,326,329,330,331,333,334,336,337,338,341,342,343,345,346,348,349,350,352,353,355,356,357,360,361]
def tsK:List Addr:=[140,72]
theorem hkE:∀ P,asK=(Kf P).map (·.1):=fun _=>by kernel_rfl
def qv:Program:={ PySem.Challenge.pw_sluice_k45_day_takes_and_kept with main:={ PySem.Challenge.pw_sluice_k45_day_takes_and_kept.main with body:=[top0 60] } }
def looseK:List Str:=("SluiceError":Str) :: ("NoReach":Str) :: ("TooMuch":Str) :: ("NoPond":Str) :: ("MOUTH":Str) :: ("way_of":Str) :: ("tops_first":Str) :: ("mouths_of":Str) :: ("stretch_of":Str) :: ("natural_of":Str) :: ("flows_of":Str) :: ("reaches_of":Str) :: ("day_filed":Str) :: ("start_of":Str) :: ("gives_back":Str) :: ("most_of":Str) :: ("ranked":Str) :: ("groups_of":Str) :: ("wants_of":Str) :: ("count_ways":Str) :: ("whole_turns":Str) :: ("draw":Str) :: ("take_whole_turns":Str) :: ("take_one_turn":Str) :: ("deal_turns":Str) :: ("deal":Str) :: ("WHOLE":Str) :: ("pond_start":Str) :: ("look_at_let":Str) :: ("let_out":Str) :: ("pond_calls":Str) :: ("evening":Str) :: ("morning_of":Str) :: ("moves_of":Str) :: ("used_of":Str) :: ("day_of":Str) :: ("_law_nth":Str) :: ("_law_draws":Str) :: ("_law_river":Str) :: ("_law_way":Str) :: ("_law_amount":Str) :: ("_law_some":Str) :: ("_law_line":Str) :: ("_law_call":Str) :: ("_law_roll":Str) :: ("_law_put_in":Str) :: ("_law_ponds":Str) :: ("_law_lets":Str) :: ("_law_numbers":Str) :: ("_law_kept":Str) :: ("_law_kinds":Str) :: []
def ho_1 (P:Params):Obj:={ cls:=.type "dict",data:=Data.dict #[en P "__name__" 1 (.str "builtins" 160),en P "__doc__" 2 (.builtin "builtins.__doc__:str#opaque"),en P "__package__" 3 (.builtin "builtins.__package__:str#opaque"),en P "__loader__" 4 (.builtin "builtins.__loader__:shared#opaque"),en P "__spec__" 5 (.builtin "builtins.__spec__#opaque"),en P "__build_class__" 6 (.builtin "__build_class__"),en P "__import__" 7 (.builtin "__import__"),en P "abs" 8 (.builtin "abs"),en P "all" 9 (.builtin "all"),en P "any" 10 (.builtin "any"),en P "ascii" 11 (.builtin "ascii"),en P "bin" 12 (.builtin "bin"),en P "breakpoint" 13 (.builtin "breakpoint"),en P "callable" 14 (.builtin "callable"),en P "chr" 15 (.builtin "chr"),en P "compile" 16 (.builtin "compile"),en P "delattr" 17 (.builtin "delattr"),en P "dir" 18 (.builtin "dir"),en P "divmod" 19 (.builtin "divmod"),en P "eval" 20 (.builtin "eval"),en P "exec" 21 (.builtin "exec"),en P "format" 22 (.builtin "format"),en P "getattr" 23 (.builtin "getattr"),en P "globals" 24 (.builtin "globals"),en P "hasattr" 25 (.builtin "hasattr"),en P "hash" 26 (.builtin "hash"),en P "hex" 27 (.builtin "hex"),en P "id" 28 (.builtin "id"),en P "input" 29 (.builtin "input"),en P "isinstance" 30 (.builtin "isinstance"),en P "issubclass" 31 (.builtin "issubclass"),en P "iter" 32 (.builtin "iter"),en P "aiter" 33 (.builtin "aiter"),en P "len" 34 (.builtin "len"),en P "locals" 35 (.builtin "locals"),en P "max" 36 (.builtin "max"),en P "min" 37 (.builtin "min"),en P "next" 38 (.builtin "next"),en P "anext" 39 (.builtin "anext"),en P "oct" 40 (.builtin "oct"),en P "ord" 41 (.builtin "ord"),en P "pow" 42 (.builtin "pow"),en P "print" 43 (.builtin "print"),en P "repr" 44 (.builtin "repr"),en P "round" 45 (.builtin "round"),en P "setattr" 46 (.builtin "setattr"),en P "sorted" 47 (.builtin "sorted"),en P "sum" 48 (.builtin "sum"),en P "vars" 49 (.builtin "vars"),en P "None" 50 .none,en P "Ellipsis" 51 .ellipsis,en P "NotImplemented" 52 .notImplemented,en P "False" 53 (.bool false),en P "True" 54 (.bool true),en P "bool" 55 (.type "bool"),en P "memoryview" 56 (.type "memoryview"),en P "bytearray" 57 (.type "bytearray"),en P "bytes" 58 (.type "bytes"),en P "classmethod" 59 (.type "classmethod"),en P "complex" 60 (.type "complex"),en P "dict" 61 (.type "dict"),en P "enumerate" 62 (.type "enumerate"),en P "filter" 63 (.type "filter"),en P "float" 64 (.type "float"),en P "frozenset" 65 (.type "frozenset"),en P "property" 66 (.type "property"),en P "int" 67 (.type "int"),en P "list" 68 (.type "list"),en P "map" 69 (.type "map"),en P "object" 70 (.type "object"),en P "range" 71 (.type "range"),en P "reversed" 72 (.type "reversed"),en P "set" 73 (.type "set"),en P "slice" 74 (.type "slice"),en P "staticmethod" 75 (.type "staticmethod"),en P "str" 76 (.type "str"),en P "super" 77 (.type "super"),en P "tuple" 78 (.type "tuple"),en P "type" 79 (.type "type"),en P "zip" 80 (.type "zip"),en P "__debug__" 81 (.bool true),en P "BaseException" 82 (.type "BaseException"),en P "BaseExceptionGroup" 83 (.type "BaseExceptionGroup"),en P "Exception" 84 (.type "Exception"),en P "GeneratorExit" 85 (.type "GeneratorExit"),en P "KeyboardInterrupt" 86 (.type "KeyboardInterrupt"),en P "SystemExit" 87 (.type "SystemExit"),en P "ArithmeticError" 88 (.type "ArithmeticError"),en P "AssertionError" 89 (.type "AssertionError"),en P "AttributeError" 90 (.type "AttributeError"),en P "BufferError" 91 (.type "BufferError"),en P "EOFError" 92 (.type "EOFError"),en P "ImportError" 93 (.type "ImportError"),en P "LookupError" 94 (.type "LookupError"),en P "MemoryError" 95 (.type "MemoryError"),en P "NameError" 96 (.type "NameError"),en P "OSError" 97 (.type "OSError"),en P "ReferenceError" 98 (.type "ReferenceError"),en P "RuntimeError" 99 (.type "RuntimeError"),en P "StopAsyncIteration" 100 (.type "StopAsyncIteration"),en P "StopIteration" 101 (.type "StopIteration"),en P "SyntaxError" 102 (.type "SyntaxError"),en P "SystemError" 103 (.type "SystemError"),en P "TypeError" 104 (.type "TypeError"),en P "ValueError" 105 (.type "ValueError"),en P "Warning" 106 (.type "Warning"),en P "FloatingPointError" 107 (.type "FloatingPointError"),en P "OverflowError" 108 (.type "OverflowError"),en P "ZeroDivisionError" 109 (.type "ZeroDivisionError"),en P "BytesWarning" 110 (.type "BytesWarning"),en P "DeprecationWarning" 111 (.type "DeprecationWarning"),en P "EncodingWarning" 112 (.type "EncodingWarning"),en P "FutureWarning" 113 (.type "FutureWarning"),en P "ImportWarning" 114 (.type "ImportWarning"),en P "PendingDeprecationWarning" 115 (.type "PendingDeprecationWarning"),en P "ResourceWarning" 116 (.type "ResourceWarning"),en P "RuntimeWarning" 117 (.type "RuntimeWarning"),en P "SyntaxWarning" 118 (.type "SyntaxWarning"),en P "UnicodeWarning" 119 (.type "UnicodeWarning"),en P "UserWarning" 120 (.type "UserWarning"),en P "BlockingIOError" 121 (.type "BlockingIOError"),en P "ChildProcessError" 122 (.type "ChildProcessError"),en P "ConnectionError" 123 (.type "ConnectionError"),en P "FileExistsError" 124 (.type "FileExistsError"),en P "FileNotFoundError" 125 (.type "FileNotFoundError"),en P "InterruptedError" 126 (.type "InterruptedError"),en P "IsADirectoryError" 127 (.type "IsADirectoryError"),en P "NotADirectoryError" 128 (.type "NotADirectoryError"),en P "PermissionError" 129 (.type "PermissionError"),en P "ProcessLookupError" 130 (.type "ProcessLookupError"),en P "TimeoutError" 131 (.type "TimeoutError"),en P "IndentationError" 132 (.type "IndentationError"),en P "_IncompleteInputError" 133 (.type "_IncompleteInputError"),en P "IndexError" 134 (.type "IndexError"),en P "KeyError" 135 (.type "KeyError"),en P "ModuleNotFoundError" 136 (.type "ModuleNotFoundError"),en P "NotImplementedError" 137 (.type "NotImplementedError"),en P "PythonFinalizationError" 138 (.type "PythonFinalizationError"),en P "RecursionError" 139 (.type "RecursionError"),en P "UnboundLocalError" 140 (.type "UnboundLocalError"),en P "UnicodeError" 141 (.type "UnicodeError"),en P "BrokenPipeError" 142 (.type "BrokenPipeError"),en P "ConnectionAbortedError" 143 (.type "ConnectionAbortedError"),en P "ConnectionRefusedError" 144 (.type "ConnectionRefusedError"),en P "ConnectionResetError" 145 (.type "ConnectionResetError"),en P "TabError" 146 (.type "TabError"),en P "UnicodeDecodeError" 147 (.type "UnicodeDecodeError"),en P "UnicodeEncodeError" 148 (.type "UnicodeEncodeError"),en P "UnicodeTranslateError" 149 (.type "UnicodeTranslateError"),en P "ExceptionGroup" 150 (.type "ExceptionGroup"),en P "EnvironmentError" 151 (.type "OSError"),en P "IOError" 152 (.type "OSError"),en P "open" 153 (.builtin "open"),en P "quit" 154 (.builtin "builtins.quit#opaque"),en P "exit" 155 (.builtin "builtins.exit#opaque"),en P "copyright" 156 (.builtin "builtins.copyright#opaque"),en P "credits" 157 (.builtin "builtins.credits#opaque"),en P "license" 158 (.builtin "builtins.license#opaque"),en P "help" 159 (.builtin "builtins.help#opaque")] 159 }
def ho_2 (P:Params):Obj:={ cls:=.type "dict",data:=Data.dict #[en P "builtins" 162 (.ref 4),en P "__main__" 163 (.ref 5)] 2 }
def ho_3 (P:Params):Obj:={ cls:=.none,data:=Data.dict #[] }
def ho_4 (P:Params):Obj:={ cls:=.type "dict",data:=Data.dict #[en P "__name__" 165 (.str "__main__" 164),en P "__doc__" 166 .none,en P "__package__" 167 .none,en P "__loader__" 168 (.builtin "__main__.__loader__#opaque"),en P "__spec__" 169 .none,en P "__annotations__" 170 (.ref 6),en P "__builtins__" 171 (.ref 4),en P "__file__" 173 (cp 172),en P "__cached__" 174 .none] 9 }
def ho_5 (P:Params):Obj:={ cls:=.type "module",dict:=some 0 }
def ho_6 (P:Params):Obj:={ cls:=.type "module",dict:=some 3 }
def ho_7 (P:Params):Obj:={ cls:=.type "dict",data:=Data.dict #[] }
def ho_8 (P:Params):Obj:=(tq #[])
def ho_9 (P:Params):Obj:={ cls:=.none,data:=Data.fields #[] }
def ho_10 (P:Params):Obj:=(fc #[.str "<module>" 176,.str "<module>" 177,cp 178,.int 1 0,.int 0 0,.int 0 0,.int 0 0,.int 0 0,.ref 7,.bool false,.int 175 0,.ref 8,.none,.none,.none,.none,.int 179 0,.int 1 0,cp 180])
def ho_11 (P:Params):Obj:={ cls:=.type "frame",slots:=#[some (.ref 9),some (.ref 3),some (.ref 3),none,some (.str "__main__" 164),none,some (.ref 0)] }
def ho_13 (P:Params):Obj:={ cls:=.type "dict",data:=Data.dict #[en P "__name__" 165 (.str "law_sluice_k45_day_takes_and_kept" 571),en P "__doc__" 166 .none,en P "__package__" 167 .none,en P "__loader__" 168 (.builtin "__main__.__loader__#opaque"),en P "__spec__" 169 .none,en P "__annotations__" 170 (.ref 6),en P "__builtins__" 171 (.ref 4),en P "__file__" 173 (cp 172),en P "__cached__" 174 .none,en P "SluiceError" 206 (.ref 24),en P "NoReach" 222 (.ref 37),en P "TooMuch" 238 (.ref 49),en P "NoPond" 254 (.ref 61),en P "MOUTH" 259 (.int (-1) 258),en P "way_of" 268 (.ref 70),en P "tops_first" 276 (.ref 77),en P "mouths_of" 282 (.ref 82),en P "stretch_of" 292 (.ref 89),en P "natural_of" 304 (.ref 96),en P "flows_of" 318 (.ref 103),en P "reaches_of" 332 (.ref 110),en P "day_filed" 339 (.ref 117),en P "start_of" 346 (.ref 124),en P "gives_back" 353 (.ref 131),en P "most_of" 360 (.ref 138),en P "ranked" 368 (.ref 145),en P "groups_of" 377 (.ref 152),en P "wants_of" 383 (.ref 157),en P "count_ways" 396 (.ref 164),en P "whole_turns" 402 (.ref 169),en P "draw" 412 (.ref 176),en P "take_whole_turns" 418 (.ref 181),en P "take_one_turn" 424 (.ref 186),en P "deal_turns" 436 (.ref 193),en P "deal" 444 (.ref 198),en P "WHOLE" 448 (.int 1000 447),en P "pond_start" 459 (.ref 205),en P "look_at_let" 473 (.ref 212),en P "let_out" 489 (.ref 219),en P "pond_calls" 505 (.ref 226),en P "evening" 523 (.ref 233),en P "morning_of" 538 (.ref 240),en P "moves_of" 558 (.ref 247),en P "used_of" 564 (.ref 252),en P "day_of" 570 (.ref 257),en P "_law_nth" 581 (.ref 264),en P "_law_draws" 592 (.ref 271),en P "_law_river" 598 (.ref 276),en P "_law_way" 608 (.ref 283),en P "_law_amount" 616 (.ref 290),en P "_law_some" 624 (.ref 297),en P "_law_line" 637 (.ref 304),en P "_law_call" 645 (.ref 311),en P "_law_roll" 661 (.ref 318),en P "_law_put_in" 674 (.ref 325),en P "_law_ponds" 680 (.ref 330),en P "_law_lets" 696 (.ref 337),en P "_law_numbers" 702 (.ref 342),en P "_law_kept" 715 (.ref 349),en P "_law_kinds" 725 (.ref 356),en P "law" 731 (.ref 361)] 61 }
def ho_14 (P:Params):Obj:=(tq #[])
def ho_15 (P:Params):Obj:={ cls:=.none,data:=Data.fields #[.int 2 0,.int 0 0,.ref 20,.int 4 0,.int 0 0,.ref 33,.int 6 0,.int 0 0,.ref 45,.int 8 0,.int 0 0,.ref 57,.int 12 0,.int 0 0,.ref 69,.int 17 0,.int 0 0,.ref 76,.int 19 0,.int 0 0,.ref 81,.int 21 0,.int 0 0,.ref 88,.int 29 0,.int 0 0,.ref 95,.int 35 0,.int 0 0,.ref 102,.int 42 0,.int 0 0,.ref 109,.int 45 0,.int 0 0,.ref 116,.int 47 0,.int 0 0,.ref 123,.int 49 0,.int 0 0,.ref 130,.int 51 0,.int 0 0,.ref 137,.int 53 0,.int 0 0,.ref 144,.int 55 0,.int 0 0,.ref 151,.int 60 0,.int 0 0,.ref 156,.int 63 0,.int 0 0,.ref 163,.int 69 0,.int 0 0,.ref 168,.int 73 0,.int 0 0,.ref 175,.int 76 0,.int 0 0,.ref 180,.int 82 0,.int 0 0,.ref 185,.int 90 0,.int 0 0,.ref 192,.int 99 0,.int 0 0,.ref 197,.int 111 0,.int 0 0,.ref 204,.int 114 0,.int 0 0,.ref 211,.int 122 0,.int 0 0,.ref 218,.int 129 0,.int 0 0,.ref 225,.int 135 0,.int 0 0,.ref 232,.int 146 0,.int 0 0,.ref 239,.int 149 0,.int 0 0,.ref 246,.int 157 0,.int 0 0,.ref 251,.int 161 0,.int 0 0,.ref 256,.int 170 0,.int 0 0,.ref 263,.int 174 0,.int 0 0,.ref 270,.int 180 0,.int 0 0,.ref 275,.int 200 0,.int 0 0,.ref 282,.int 207 0,.int 0 0,.ref 289,.int 215 0,.int 0 0,.ref 296,.int 221 0,.int 0 0,.ref 303,.int 228 0,.int 0 0,.ref 310,.int 234 0,.int 0 0,.ref 317,.int 247 0,.int 0 0,.ref 324,.int 254 0,.int 0 0,.ref 329,.int 261 0,.int 0 0,.ref 336,.int 271 0,.int 0 0,.ref 341,.int 275 0,.int 0 0,.ref 348,.int 282 0,.int 0 0,.ref 355,.int 288 0,.int 0 0,.ref 360] }
def ho_16 (P:Params):Obj:=(fc #[.str "<module>" 182,.str "<module>" 183,cp 184,.int 1 0,.int 0 0,.int 0 0,.int 0 0,.int 0 0,.ref 11,.bool false,.int 181 0,.ref 12,.none,.none,.none,.none,.int 185 0,.int 1 0,cp 186])
def ho_17 (P:Params):Obj:={ cls:=.type "frame",slots:=#[some (.ref 13),some (.ref 3),some (.ref 3),none,some (.str "__main__" 164),none,some (.ref 0)] }
def ho_18 (P:Params):Obj:=(tq #[.type "ValueError"])
def ho_19 (P:Params):Obj:={ cls:=.type "builtin_function_or_method",data:=Data.fields #[.builtin "type.__prepare__",.type "type"] }
def ho_20 (P:Params):Obj:={ cls:=.type "dict",data:=Data.dict #[en P "__module__" 196 (.str "sluice.errors" 187),en P "__qualname__" 198 (.str "SluiceError" 197),en P "__firstlineno__" 200 (.int 2 199),en P "__static_attributes__" 201 (.ref 22)] 4 }
def ho_21 (P:Params):Obj:=(tq #[])
def ho_22 (P:Params):Obj:={ cls:=.none,data:=Data.fields #[] }
def ho_23 (P:Params):Obj:=(fc #[.str "SluiceError" 191,.str "SluiceError" 192,cp 193,.int 2 0,.int 0 0,.int 0 0,.int 0 0,.int 0 0,.ref 18,.bool false,.int 181 0,.ref 19,.none,.none,.none,.none,.int 194 0,.int 2 0,cp 195])
def ho_24 (P:Params):Obj:={ cls:=.type "frame",slots:=#[some (.ref 20),some (.ref 3),some (.ref 17),none,some (.str "sluice.errors" 187),none,some (.ref 0)] }
def ho_25 (P:Params):Obj:=(tq #[])
def ho_26 (P:Params):Obj:={ cls:=.type "dict",data:=Data.dict #[en P "__module__" 196 (.str "sluice.errors" 187),en P "__firstlineno__" 200 (.int 2 199),en P "__static_attributes__" 201 (.ref 22),en P "__weakref__" 203 (.ref 25),en P "__doc__" 204 .none] 3 }
def ho_27 (P:Params):Obj:={ cls:=.type "type",data:=Data.cls { name:="SluiceError",bases:=[.type "ValueError"],mro:=[.ref 24,.type "ValueError",.type "Exception",.type "BaseException",.type "object"],ns:=23,qualname:="SluiceError",subclasses:=[.ref 37,.ref 49,.ref 61] },slots:=#[some (.ref 15),none,some (.str "SluiceError" 189),some (.str "SluiceError" 197),some (.builtin "ValueError.__new__"),some (.bool true)] }
def ho_28 (P:Params):Obj:={ cls:=.type "getset_descriptor",data:=Data.fields #[.str "__weakref__" 202,.ref 24,.builtin "ExceptionGroup.__weakref__",.none] }
def ho_29 (P:Params):Obj:={ cls:=.type "super",data:=Data.fields #[.ref 24,.ref 24,.ref 24] }
def ho_30 (P:Params):Obj:={ cls:=.type "builtin_function_or_method",data:=Data.fields #[.builtin "object.__init_subclass__",.ref 24] }
def ho_31 (P:Params):Obj:=(tq #[.ref 24])
def ho_32 (P:Params):Obj:={ cls:=.type "builtin_function_or_method",data:=Data.fields #[.builtin "type.__prepare__",.type "type"] }
def ho_33 (P:Params):Obj:={ cls:=.type "dict",data:=Data.dict #[en P "__module__" 214 (.str "sluice.errors" 187),en P "__qualname__" 216 (.str "NoReach" 215),en P "__firstlineno__" 218 (.int 4 217),en P "__static_attributes__" 219 (.ref 35)] 4 }
def ho_34 (P:Params):Obj:=(tq #[])
def ho_35 (P:Params):Obj:={ cls:=.none,data:=Data.fields #[] }
def ho_36 (P:Params):Obj:=(fc #[.str "NoReach" 209,.str "NoReach" 210,cp 211,.int 4 0,.int 0 0,.int 0 0,.int 0 0,.int 0 0,.ref 31,.bool false,.int 181 0,.ref 32,.none,.none,.none,.none,.int 212 0,.int 4 0,cp 213])
def ho_37 (P:Params):Obj:={ cls:=.type "frame",slots:=#[some (.ref 33),some (.ref 3),some (.ref 30),none,some (.str "sluice.errors" 187),none,some (.ref 0)] }
def ho_38 (P:Params):Obj:=(tq #[])
def ho_39 (P:Params):Obj:={ cls:=.type "dict",data:=Data.dict #[en P "__module__" 214 (.str "sluice.errors" 187),en P "__firstlineno__" 218 (.int 4 217),en P "__static_attributes__" 219 (.ref 35),en P "__doc__" 220 .none] 2 }
def ho_40 (P:Params):Obj:={ cls:=.type "type",data:=Data.cls { name:="NoReach",bases:=[.ref 24],mro:=[.ref 37,.ref 24,.type "ValueError",.type "Exception",.type "BaseException",.type "object"],ns:=36,qualname:="NoReach" },slots:=#[some (.ref 28),none,some (.str "NoReach" 207),some (.str "NoReach" 215),some (.builtin "ValueError.__new__"),some (.bool true)] }
def ho_41 (P:Params):Obj:={ cls:=.type "super",data:=Data.fields #[.ref 37,.ref 37,.ref 37] }
def ho_42 (P:Params):Obj:={ cls:=.type "builtin_function_or_method",data:=Data.fields #[.builtin "object.__init_subclass__",.ref 37] }
def ho_43 (P:Params):Obj:=(tq #[.ref 24])
def ho_44 (P:Params):Obj:={ cls:=.type "builtin_function_or_method",data:=Data.fields #[.builtin "type.__prepare__",.type "type"] }
def ho_45 (P:Params):Obj:={ cls:=.type "dict",data:=Data.dict #[en P "__module__" 230 (.str "sluice.errors" 187),en P "__qualname__" 232 (.str "TooMuch" 231),en P "__firstlineno__" 234 (.int 6 233),en P "__static_attributes__" 235 (.ref 47)] 4 }
def ho_46 (P:Params):Obj:=(tq #[])
def ho_47 (P:Params):Obj:={ cls:=.none,data:=Data.fields #[] }
def ho_48 (P:Params):Obj:=(fc #[.str "TooMuch" 225,.str "TooMuch" 226,cp 227,.int 6 0,.int 0 0,.int 0 0,.int 0 0,.int 0 0,.ref 43,.bool false,.int 181 0,.ref 44,.none,.none,.none,.none,.int 228 0,.int 6 0,cp 229])
def ho_49 (P:Params):Obj:={ cls:=.type "frame",slots:=#[some (.ref 45),some (.ref 3),some (.ref 42),none,some (.str "sluice.errors" 187),none,some (.ref 0)] }
def ho_50 (P:Params):Obj:=(tq #[])
def ho_51 (P:Params):Obj:={ cls:=.type "dict",data:=Data.dict #[en P "__module__" 230 (.str "sluice.errors" 187),en P "__firstlineno__" 234 (.int 6 233),en P "__static_attributes__" 235 (.ref 47),en P "__doc__" 236 .none] 2 }
def ho_52 (P:Params):Obj:={ cls:=.type "type",data:=Data.cls { name:="TooMuch",bases:=[.ref 24],mro:=[.ref 49,.ref 24,.type "ValueError",.type "Exception",.type "BaseException",.type "object"],ns:=48,qualname:="TooMuch" },slots:=#[some (.ref 40),none,some (.str "TooMuch" 223),some (.str "TooMuch" 231),some (.builtin "ValueError.__new__"),some (.bool true)] }
def ho_53 (P:Params):Obj:={ cls:=.type "super",data:=Data.fields #[.ref 49,.ref 49,.ref 49] }
def ho_54 (P:Params):Obj:={ cls:=.type "builtin_function_or_method",data:=Data.fields #[.builtin "object.__init_subclass__",.ref 49] }
def ho_55 (P:Params):Obj:=(tq #[.ref 24])
def ho_56 (P:Params):Obj:={ cls:=.type "builtin_function_or_method",data:=Data.fields #[.builtin "type.__prepare__",.type "type"] }
def ho_57 (P:Params):Obj:={ cls:=.type "dict",data:=Data.dict #[en P "__module__" 246 (.str "sluice.errors" 187),en P "__qualname__" 248 (.str "NoPond" 247),en P "__firstlineno__" 250 (.int 8 249),en P "__static_attributes__" 251 (.ref 59)] 4 }
def ho_58 (P:Params):Obj:=(tq #[])
def ho_59 (P:Params):Obj:={ cls:=.none,data:=Data.fields #[] }
def ho_60 (P:Params):Obj:=(fc #[.str "NoPond" 241,.str "NoPond" 242,cp 243,.int 8 0,.int 0 0,.int 0 0,.int 0 0,.int 0 0,.ref 55,.bool false,.int 181 0,.ref 56,.none,.none,.none,.none,.int 244 0,.int 8 0,cp 245])
def ho_61 (P:Params):Obj:={ cls:=.type "frame",slots:=#[some (.ref 57),some (.ref 3),some (.ref 54),none,some (.str "sluice.errors" 187),none,some (.ref 0)] }
def ho_62 (P:Params):Obj:=(tq #[])
def ho_63 (P:Params):Obj:={ cls:=.type "dict",data:=Data.dict #[en P "__module__" 246 (.str "sluice.errors" 187),en P "__firstlineno__" 250 (.int 8 249),en P "__static_attributes__" 251 (.ref 59),en P "__doc__" 252 .none] 2 }
def ho_64 (P:Params):Obj:={ cls:=.type "type",data:=Data.cls { name:="NoPond",bases:=[.ref 24],mro:=[.ref 61,.ref 24,.type "ValueError",.type "Exception",.type "BaseException",.type "object"],ns:=60,qualname:="NoPond" },slots:=#[some (.ref 52),none,some (.str "NoPond" 239),some (.str "NoPond" 247),some (.builtin "ValueError.__new__"),some (.bool true)] }
def ho_65 (P:Params):Obj:={ cls:=.type "super",data:=Data.fields #[.ref 61,.ref 61,.ref 61] }
def ho_66 (P:Params):Obj:={ cls:=.type "builtin_function_or_method",data:=Data.fields #[.builtin "object.__init_subclass__",.ref 61] }
def ho_67 (P:Params):Obj:=(tq #[])
def ho_68 (P:Params):Obj:={ cls:=.none,data:=Data.fields #[] }
def ho_69 (P:Params):Obj:=(tq #[.str "below" 263,.str "reach" 264,.str "way" 265])
def ho_70 (P:Params):Obj:=(tq #[])
def ho_71 (P:Params):Obj:=(pr0 "way_of" 7)
def ho_72 (P:Params):Obj:=(fc #[.str "way_of" 260,.str "way_of" 261,cp 262,.int 12 0,.int 2 0,.int 0 0,.int 0 0,.int 3 0,.ref 64,.bool true,.int 181 0,.ref 65,.none,.ref 66,.ref 67,.ref 68,.int 266 0,.int 12 0,cp 267])
def ho_73 (P:Params):Obj:=⟨.type "function",none,.func (PySem.W.fnOf "way_of" "way_of" (defArgs (top0 7)) (defBody (top0 7)) (defScope (top0 7)) .none .none .none (.str "sluice.rivers" 255) none (.ref 69) .none),#[]⟩
def ho_74 (P:Params):Obj:=(tq #[])
def ho_75 (P:Params):Obj:={ cls:=.none,data:=Data.fields #[] }
def ho_76 (P:Params):Obj:=(tq #[.str "below" 272])
def ho_77 (P:Params):Obj:=(tq #[.str "below" 273])
def ho_78 (P:Params):Obj:=(pr0 "tops_first" 8)
def ho_79 (P:Params):Obj:=(fc #[.str "tops_first" 269,.str "tops_first" 270,cp 271,.int 17 0,.int 1 0,.int 0 0,.int 0 0,.int 3 0,.ref 71,.bool true,.int 181 0,.ref 72,.none,.ref 73,.ref 74,.ref 75,.int 274 0,.int 17 0,cp 275])
def ho_80 (P:Params):Obj:=⟨.type "function",none,.func (PySem.W.fnOf "tops_first" "tops_first" (defArgs (top0 8)) (defBody (top0 8)) (defScope (top0 8)) .none .none .none (.str "sluice.rivers" 255) none (.ref 76) .none),#[]⟩
def ho_81 (P:Params):Obj:=(tq #[])
def ho_82 (P:Params):Obj:={ cls:=.none,data:=Data.fields #[] }
def ho_83 (P:Params):Obj:=(pr0 "mouths_of" 9)
def ho_84 (P:Params):Obj:=(fc #[.str "mouths_of" 277,.str "mouths_of" 278,cp 279,.int 19 0,.int 1 0,.int 0 0,.int 0 0,.int 3 0,.ref 78,.bool true,.int 181 0,.ref 79,.none,.none,.none,.ref 80,.int 280 0,.int 19 0,cp 281])
def ho_85 (P:Params):Obj:=⟨.type "function",none,.func (PySem.W.fnOf "mouths_of" "mouths_of" (defArgs (top0 9)) (defBody (top0 9)) (defScope (top0 9)) .none .none .none (.str "sluice.rivers" 255) none (.ref 81) .none),#[]⟩
def ho_86 (P:Params):Obj:=(tq #[])
def ho_87 (P:Params):Obj:={ cls:=.none,data:=Data.fields #[] }
def ho_88 (P:Params):Obj:=(tq #[.str "below" 286,.str "start" 287,.str "stop" 288,.str "way" 289])
def ho_89 (P:Params):Obj:=(tq #[])
def ho_90 (P:Params):Obj:=(pr0 "stretch_of" 10)
def ho_91 (P:Params):Obj:=(fc #[.str "stretch_of" 283,.str "stretch_of" 284,cp 285,.int 21 0,.int 3 0,.int 0 0,.int 0 0,.int 3 0,.ref 83,.bool true,.int 181 0,.ref 84,.none,.ref 85,.ref 86,.ref 87,.int 290 0,.int 21 0,cp 291])
def ho_92 (P:Params):Obj:=⟨.type "function",none,.func (PySem.W.fnOf "stretch_of" "stretch_of" (defArgs (top0 10)) (defBody (top0 10)) (defScope (top0 10)) .none .none .none (.str "sluice.rivers" 255) none (.ref 88) .none),#[]⟩
def ho_93 (P:Params):Obj:=(tq #[])
def ho_94 (P:Params):Obj:={ cls:=.none,data:=Data.fields #[] }
def ho_95 (P:Params):Obj:=(tq #[.str "below" 298,.str "springs" 299,.str "flows" 300,.str "reach" 301])
def ho_96 (P:Params):Obj:=(tq #[])
def ho_97 (P:Params):Obj:=(pr0 "natural_of" 12)
def ho_98 (P:Params):Obj:=(fc #[.str "natural_of" 295,.str "natural_of" 296,cp 297,.int 29 0,.int 2 0,.int 0 0,.int 0 0,.int 3 0,.ref 90,.bool true,.int 181 0,.ref 91,.none,.ref 92,.ref 93,.ref 94,.int 302 0,.int 29 0,cp 303])
def ho_99 (P:Params):Obj:=⟨.type "function",none,.func (PySem.W.fnOf "natural_of" "natural_of" (defArgs (top0 12)) (defBody (top0 12)) (defScope (top0 12)) .none .none .none (.str "sluice.flows" 293) none (.ref 95) .none),#[]⟩
def ho_100 (P:Params):Obj:=(tq #[])
def ho_101 (P:Params):Obj:={ cls:=.none,data:=Data.fields #[] }
def ho_102 (P:Params):Obj:=(tq #[.str "below" 308,.str "springs" 309,.str "moves" 310,.str "flows" 311,.str "start" 312,.str "stop" 313,.str "amount" 314,.str "reach" 315])
def ho_103 (P:Params):Obj:=(tq #[])
def ho_104 (P:Params):Obj:=(pr0 "flows_of" 13)
def ho_105 (P:Params):Obj:=(fc #[.str "flows_of" 305,.str "flows_of" 306,cp 307,.int 35 0,.int 3 0,.int 0 0,.int 0 0,.int 3 0,.ref 97,.bool true,.int 181 0,.ref 98,.none,.ref 99,.ref 100,.ref 101,.int 316 0,.int 35 0,cp 317])
def ho_106 (P:Params):Obj:=⟨.type "function",none,.func (PySem.W.fnOf "flows_of" "flows_of" (defArgs (top0 13)) (defBody (top0 13)) (defScope (top0 13)) .none .none .none (.str "sluice.flows" 293) none (.ref 102) .none),#[]⟩
def ho_107 (P:Params):Obj:=(tq #[])
def ho_108 (P:Params):Obj:={ cls:=.none,data:=Data.fields #[] }
def ho_109 (P:Params):Obj:=(tq #[.str "below" 324,.str "one" 325,.str "day" 326,.str "start" 327,.str "back" 328,.str "most" 329])
def ho_110 (P:Params):Obj:=(tq #[])
def ho_111 (P:Params):Obj:=(pr0 "reaches_of" 15)
def ho_112 (P:Params):Obj:=(fc #[.str "reaches_of" 321,.str "reaches_of" 322,cp 323,.int 42 0,.int 2 0,.int 0 0,.int 0 0,.int 3 0,.ref 104,.bool true,.int 181 0,.ref 105,.none,.ref 106,.ref 107,.ref 108,.int 330 0,.int 42 0,cp 331])
def ho_113 (P:Params):Obj:=⟨.type "function",none,.func (PySem.W.fnOf "reaches_of" "reaches_of" (defArgs (top0 15)) (defBody (top0 15)) (defScope (top0 15)) .none .none .none (.str "sluice.licences" 319) none (.ref 109) .none),#[]⟩
def ho_114 (P:Params):Obj:=(tq #[])
def ho_115 (P:Params):Obj:={ cls:=.none,data:=Data.fields #[] }
def ho_116 (P:Params):Obj:=(tq #[.str "one" 336])
def ho_117 (P:Params):Obj:=(tq #[])
def ho_118 (P:Params):Obj:=(pr0 "day_filed" 16)
def ho_119 (P:Params):Obj:=(fc #[.str "day_filed" 333,.str "day_filed" 334,cp 335,.int 45 0,.int 1 0,.int 0 0,.int 0 0,.int 3 0,.ref 111,.bool true,.int 181 0,.ref 112,.none,.ref 113,.ref 114,.ref 115,.int 337 0,.int 45 0,cp 338])
def ho_120 (P:Params):Obj:=⟨.type "function",none,.func (PySem.W.fnOf "day_filed" "day_filed" (defArgs (top0 16)) (defBody (top0 16)) (defScope (top0 16)) .none .none .none (.str "sluice.licences" 319) none (.ref 116) .none),#[]⟩
def ho_121 (P:Params):Obj:=(tq #[])
def ho_122 (P:Params):Obj:={ cls:=.none,data:=Data.fields #[] }
def ho_123 (P:Params):Obj:=(tq #[.str "one" 343])
def ho_124 (P:Params):Obj:=(tq #[])
def ho_125 (P:Params):Obj:=(pr0 "start_of" 17)
def ho_126 (P:Params):Obj:=(fc #[.str "start_of" 340,.str "start_of" 341,cp 342,.int 47 0,.int 1 0,.int 0 0,.int 0 0,.int 3 0,.ref 118,.bool true,.int 181 0,.ref 119,.none,.ref 120,.ref 121,.ref 122,.int 344 0,.int 47 0,cp 345])
def ho_127 (P:Params):Obj:=⟨.type "function",none,.func (PySem.W.fnOf "start_of" "start_of" (defArgs (top0 17)) (defBody (top0 17)) (defScope (top0 17)) .none .none .none (.str "sluice.licences" 319) none (.ref 123) .none),#[]⟩
def ho_128 (P:Params):Obj:=(tq #[])
def ho_129 (P:Params):Obj:={ cls:=.none,data:=Data.fields #[] }
def ho_130 (P:Params):Obj:=(tq #[.str "one" 350])
def ho_131 (P:Params):Obj:=(tq #[])
def ho_132 (P:Params):Obj:=(pr0 "gives_back" 18)
def ho_133 (P:Params):Obj:=(fc #[.str "gives_back" 347,.str "gives_back" 348,cp 349,.int 49 0,.int 1 0,.int 0 0,.int 0 0,.int 3 0,.ref 125,.bool true,.int 181 0,.ref 126,.none,.ref 127,.ref 128,.ref 129,.int 351 0,.int 49 0,cp 352])
def ho_134 (P:Params):Obj:=⟨.type "function",none,.func (PySem.W.fnOf "gives_back" "gives_back" (defArgs (top0 18)) (defBody (top0 18)) (defScope (top0 18)) .none .none .none (.str "sluice.licences" 319) none (.ref 130) .none),#[]⟩
def ho_135 (P:Params):Obj:=(tq #[])
def ho_136 (P:Params):Obj:={ cls:=.none,data:=Data.fields #[] }
def ho_137 (P:Params):Obj:=(tq #[.str "one" 357])
def ho_138 (P:Params):Obj:=(tq #[])
def ho_139 (P:Params):Obj:=(pr0 "most_of" 19)
def ho_140 (P:Params):Obj:=(fc #[.str "most_of" 354,.str "most_of" 355,cp 356,.int 51 0,.int 1 0,.int 0 0,.int 0 0,.int 3 0,.ref 132,.bool true,.int 181 0,.ref 133,.none,.ref 134,.ref 135,.ref 136,.int 358 0,.int 51 0,cp 359])
def ho_141 (P:Params):Obj:=⟨.type "function",none,.func (PySem.W.fnOf "most_of" "most_of" (defArgs (top0 19)) (defBody (top0 19)) (defScope (top0 19)) .none .none .none (.str "sluice.licences" 319) none (.ref 137) .none),#[]⟩
def ho_142 (P:Params):Obj:=(tq #[])
def ho_143 (P:Params):Obj:={ cls:=.none,data:=Data.fields #[] }
def ho_144 (P:Params):Obj:=(tq #[.str "roll" 364])
def ho_145 (P:Params):Obj:=(tq #[.str "roll" 365])
def ho_146 (P:Params):Obj:=(pr0 "ranked" 20)
def ho_147 (P:Params):Obj:=(fc #[.str "ranked" 361,.str "ranked" 362,cp 363,.int 53 0,.int 1 0,.int 0 0,.int 0 0,.int 3 0,.ref 139,.bool true,.int 181 0,.ref 140,.none,.ref 141,.ref 142,.ref 143,.int 366 0,.int 53 0,cp 367])
def ho_148 (P:Params):Obj:=⟨.type "function",none,.func (PySem.W.fnOf "ranked" "ranked" (defArgs (top0 20)) (defBody (top0 20)) (defScope (top0 20)) .none .none .none (.str "sluice.licences" 319) none (.ref 144) .none),#[]⟩
def ho_149 (P:Params):Obj:=(tq #[])
def ho_150 (P:Params):Obj:={ cls:=.none,data:=Data.fields #[] }
def ho_151 (P:Params):Obj:=(tq #[.str "roll" 372,.str "groups" 373,.str "number" 374])
def ho_152 (P:Params):Obj:=(tq #[])
def ho_153 (P:Params):Obj:=(pr0 "groups_of" 21)
def ho_154 (P:Params):Obj:=(fc #[.str "groups_of" 369,.str "groups_of" 370,cp 371,.int 55 0,.int 1 0,.int 0 0,.int 0 0,.int 3 0,.ref 146,.bool true,.int 181 0,.ref 147,.none,.ref 148,.ref 149,.ref 150,.int 375 0,.int 55 0,cp 376])
def ho_155 (P:Params):Obj:=⟨.type "function",none,.func (PySem.W.fnOf "groups_of" "groups_of" (defArgs (top0 21)) (defBody (top0 21)) (defScope (top0 21)) .none .none .none (.str "sluice.licences" 319) none (.ref 151) .none),#[]⟩
def ho_156 (P:Params):Obj:=(tq #[])
def ho_157 (P:Params):Obj:={ cls:=.none,data:=Data.fields #[] }
def ho_158 (P:Params):Obj:=(pr0 "wants_of" 22)
def ho_159 (P:Params):Obj:=(fc #[.str "wants_of" 378,.str "wants_of" 379,cp 380,.int 60 0,.int 2 0,.int 0 0,.int 0 0,.int 3 0,.ref 153,.bool true,.int 181 0,.ref 154,.none,.none,.none,.ref 155,.int 381 0,.int 60 0,cp 382])
def ho_160 (P:Params):Obj:=⟨.type "function",none,.func (PySem.W.fnOf "wants_of" "wants_of" (defArgs (top0 22)) (defBody (top0 22)) (defScope (top0 22)) .none .none .none (.str "sluice.licences" 319) none (.ref 156) .none),#[]⟩
def ho_161 (P:Params):Obj:=(tq #[])
def ho_162 (P:Params):Obj:={ cls:=.none,data:=Data.fields #[] }
def ho_163 (P:Params):Obj:=(tq #[.str "free" 389,.str "ways" 390,.str "counts" 391,.str "way" 392,.str "reach" 393])
def ho_164 (P:Params):Obj:=(tq #[])
def ho_165 (P:Params):Obj:=(pr0 "count_ways" 24)
def ho_166 (P:Params):Obj:=(fc #[.str "count_ways" 386,.str "count_ways" 387,cp 388,.int 63 0,.int 2 0,.int 0 0,.int 0 0,.int 3 0,.ref 158,.bool true,.int 181 0,.ref 159,.none,.ref 160,.ref 161,.ref 162,.int 394 0,.int 63 0,cp 395])
def ho_167 (P:Params):Obj:=⟨.type "function",none,.func (PySem.W.fnOf "count_ways" "count_ways" (defArgs (top0 24)) (defBody (top0 24)) (defScope (top0 24)) .none .none .none (.str "sluice.turns" 384) none (.ref 163) .none),#[]⟩
def ho_168 (P:Params):Obj:=(tq #[])
def ho_169 (P:Params):Obj:={ cls:=.none,data:=Data.fields #[] }
def ho_170 (P:Params):Obj:=(pr0 "whole_turns" 25)
def ho_171 (P:Params):Obj:=(fc #[.str "whole_turns" 397,.str "whole_turns" 398,cp 399,.int 69 0,.int 3 0,.int 0 0,.int 0 0,.int 3 0,.ref 165,.bool true,.int 181 0,.ref 166,.none,.none,.none,.ref 167,.int 400 0,.int 69 0,cp 401])
def ho_172 (P:Params):Obj:=⟨.type "function",none,.func (PySem.W.fnOf "whole_turns" "whole_turns" (defArgs (top0 25)) (defBody (top0 25)) (defScope (top0 25)) .none .none .none (.str "sluice.turns" 384) none (.ref 168) .none),#[]⟩
def ho_173 (P:Params):Obj:=(tq #[])
def ho_174 (P:Params):Obj:={ cls:=.none,data:=Data.fields #[] }
def ho_175 (P:Params):Obj:=(tq #[.str "left" 406,.str "way" 407,.str "drops" 408,.str "reach" 409])
def ho_176 (P:Params):Obj:=(tq #[])
def ho_177 (P:Params):Obj:=(pr0 "draw" 26)
def ho_178 (P:Params):Obj:=(fc #[.str "draw" 403,.str "draw" 404,cp 405,.int 73 0,.int 3 0,.int 0 0,.int 0 0,.int 3 0,.ref 170,.bool true,.int 181 0,.ref 171,.none,.ref 172,.ref 173,.ref 174,.int 410 0,.int 73 0,cp 411])
def ho_179 (P:Params):Obj:=⟨.type "function",none,.func (PySem.W.fnOf "draw" "draw" (defArgs (top0 26)) (defBody (top0 26)) (defScope (top0 26)) .none .none .none (.str "sluice.turns" 384) none (.ref 175) .none),#[]⟩
def ho_180 (P:Params):Obj:=(tq #[])
def ho_181 (P:Params):Obj:={ cls:=.none,data:=Data.fields #[] }
def ho_182 (P:Params):Obj:=(pr0 "take_whole_turns" 27)
def ho_183 (P:Params):Obj:=(fc #[.str "take_whole_turns" 413,.str "take_whole_turns" 414,cp 415,.int 76 0,.int 5 0,.int 0 0,.int 0 0,.int 3 0,.ref 177,.bool true,.int 181 0,.ref 178,.none,.none,.none,.ref 179,.int 416 0,.int 76 0,cp 417])
def ho_184 (P:Params):Obj:=⟨.type "function",none,.func (PySem.W.fnOf "take_whole_turns" "take_whole_turns" (defArgs (top0 27)) (defBody (top0 27)) (defScope (top0 27)) .none .none .none (.str "sluice.turns" 384) none (.ref 180) .none),#[]⟩
def ho_185 (P:Params):Obj:=(tq #[])
def ho_186 (P:Params):Obj:={ cls:=.none,data:=Data.fields #[] }
def ho_187 (P:Params):Obj:=(pr0 "take_one_turn" 28)
def ho_188 (P:Params):Obj:=(fc #[.str "take_one_turn" 419,.str "take_one_turn" 420,cp 421,.int 82 0,.int 5 0,.int 0 0,.int 0 0,.int 3 0,.ref 182,.bool true,.int 181 0,.ref 183,.none,.none,.none,.ref 184,.int 422 0,.int 82 0,cp 423])
def ho_189 (P:Params):Obj:=⟨.type "function",none,.func (PySem.W.fnOf "take_one_turn" "take_one_turn" (defArgs (top0 28)) (defBody (top0 28)) (defScope (top0 28)) .none .none .none (.str "sluice.turns" 384) none (.ref 185) .none),#[]⟩
def ho_190 (P:Params):Obj:=(tq #[])
def ho_191 (P:Params):Obj:={ cls:=.none,data:=Data.fields #[] }
def ho_192 (P:Params):Obj:=(tq #[.str "free" 428,.str "ways" 429,.str "rests" 430,.str "left" 431,.str "takes" 432,.str "going" 433])
def ho_193 (P:Params):Obj:=(tq #[])
def ho_194 (P:Params):Obj:=(pr0 "deal_turns" 29)
def ho_195 (P:Params):Obj:=(fc #[.str "deal_turns" 425,.str "deal_turns" 426,cp 427,.int 90 0,.int 3 0,.int 0 0,.int 0 0,.int 3 0,.ref 187,.bool true,.int 181 0,.ref 188,.none,.ref 189,.ref 190,.ref 191,.int 434 0,.int 90 0,cp 435])
def ho_196 (P:Params):Obj:=⟨.type "function",none,.func (PySem.W.fnOf "deal_turns" "deal_turns" (defArgs (top0 29)) (defBody (top0 29)) (defScope (top0 29)) .none .none .none (.str "sluice.turns" 384) none (.ref 192) .none),#[]⟩
def ho_197 (P:Params):Obj:=(tq #[])
def ho_198 (P:Params):Obj:={ cls:=.none,data:=Data.fields #[] }
def ho_199 (P:Params):Obj:=(pr0 "deal" 31)
def ho_200 (P:Params):Obj:=(fc #[.str "deal" 439,.str "deal" 440,cp 441,.int 99 0,.int 4 0,.int 0 0,.int 0 0,.int 3 0,.ref 194,.bool true,.int 181 0,.ref 195,.none,.none,.none,.ref 196,.int 442 0,.int 99 0,cp 443])
def ho_201 (P:Params):Obj:=⟨.type "function",none,.func (PySem.W.fnOf "deal" "deal" (defArgs (top0 31)) (defBody (top0 31)) (defScope (top0 31)) .none .none .none (.str "sluice.dealing" 437) none (.ref 197) .none),#[]⟩
def ho_202 (P:Params):Obj:=(tq #[])
def ho_203 (P:Params):Obj:={ cls:=.none,data:=Data.fields #[] }
def ho_204 (P:Params):Obj:=(tq #[.str "roll" 452,.str "pond" 453,.str "number" 454,.str "room" 455,.str "leak" 456])
def ho_205 (P:Params):Obj:=(tq #[])
def ho_206 (P:Params):Obj:=(pr0 "pond_start" 34)
def ho_207 (P:Params):Obj:=(fc #[.str "pond_start" 449,.str "pond_start" 450,cp 451,.int 111 0,.int 2 0,.int 0 0,.int 0 0,.int 3 0,.ref 199,.bool true,.int 181 0,.ref 200,.none,.ref 201,.ref 202,.ref 203,.int 457 0,.int 111 0,cp 458])
def ho_208 (P:Params):Obj:=⟨.type "function",none,.func (PySem.W.fnOf "pond_start" "pond_start" (defArgs (top0 34)) (defBody (top0 34)) (defScope (top0 34)) .none .none .none (.str "sluice.ponds" 445) none (.ref 204) .none),#[]⟩
def ho_209 (P:Params):Obj:=(tq #[])
def ho_210 (P:Params):Obj:={ cls:=.none,data:=Data.fields #[] }
def ho_211 (P:Params):Obj:=(tq #[.str "below" 463,.str "roll" 464,.str "ponds" 465,.str "kept" 466,.str "let" 467,.str "place" 468,.str "reach" 469,.str "amount" 470])
def ho_212 (P:Params):Obj:=(tq #[])
def ho_213 (P:Params):Obj:=(pr0 "look_at_let" 35)
def ho_214 (P:Params):Obj:=(fc #[.str "look_at_let" 460,.str "look_at_let" 461,cp 462,.int 114 0,.int 5 0,.int 0 0,.int 0 0,.int 3 0,.ref 206,.bool true,.int 181 0,.ref 207,.none,.ref 208,.ref 209,.ref 210,.int 471 0,.int 114 0,cp 472])
def ho_215 (P:Params):Obj:=⟨.type "function",none,.func (PySem.W.fnOf "look_at_let" "look_at_let" (defArgs (top0 35)) (defBody (top0 35)) (defScope (top0 35)) .none .none .none (.str "sluice.ponds" 445) none (.ref 211) .none),#[]⟩
def ho_216 (P:Params):Obj:=(tq #[])
def ho_217 (P:Params):Obj:={ cls:=.none,data:=Data.fields #[] }
def ho_218 (P:Params):Obj:=(tq #[.str "below" 477,.str "roll" 478,.str "ponds" 479,.str "kept" 480,.str "lets" 481,.str "left" 482,.str "let" 483,.str "place" 484,.str "reach" 485,.str "amount" 486])
def ho_219 (P:Params):Obj:=(tq #[])
def ho_220 (P:Params):Obj:=(pr0 "let_out" 36)
def ho_221 (P:Params):Obj:=(fc #[.str "let_out" 474,.str "let_out" 475,cp 476,.int 122 0,.int 5 0,.int 0 0,.int 0 0,.int 3 0,.ref 213,.bool true,.int 181 0,.ref 214,.none,.ref 215,.ref 216,.ref 217,.int 487 0,.int 122 0,cp 488])
def ho_222 (P:Params):Obj:=⟨.type "function",none,.func (PySem.W.fnOf "let_out" "let_out" (defArgs (top0 36)) (defBody (top0 36)) (defScope (top0 36)) .none .none .none (.str "sluice.ponds" 445) none (.ref 218) .none),#[]⟩
def ho_223 (P:Params):Obj:=(tq #[])
def ho_224 (P:Params):Obj:={ cls:=.none,data:=Data.fields #[] }
def ho_225 (P:Params):Obj:=(tq #[.str "roll" 493,.str "ponds" 494,.str "kept" 495,.str "calls" 496,.str "lessened" 497,.str "pond" 498,.str "keeps" 499,.str "number" 500,.str "room" 501,.str "leak" 502])
def ho_226 (P:Params):Obj:=(tq #[])
def ho_227 (P:Params):Obj:=(pr0 "pond_calls" 37)
def ho_228 (P:Params):Obj:=(fc #[.str "pond_calls" 490,.str "pond_calls" 491,cp 492,.int 129 0,.int 4 0,.int 0 0,.int 0 0,.int 3 0,.ref 220,.bool true,.int 181 0,.ref 221,.none,.ref 222,.ref 223,.ref 224,.int 503 0,.int 129 0,cp 504])
def ho_229 (P:Params):Obj:=⟨.type "function",none,.func (PySem.W.fnOf "pond_calls" "pond_calls" (defArgs (top0 37)) (defBody (top0 37)) (defScope (top0 37)) .none .none .none (.str "sluice.ponds" 445) none (.ref 225) .none),#[]⟩
def ho_230 (P:Params):Obj:=(tq #[])
def ho_231 (P:Params):Obj:={ cls:=.none,data:=Data.fields #[] }
def ho_232 (P:Params):Obj:=(tq #[.str "ponds" 509,.str "kept" 510,.str "takes" 511,.str "after" 512,.str "lost" 513,.str "pond" 514,.str "keeps" 515,.str "number" 516,.str "room" 517,.str "leak" 518,.str "full" 519,.str "loss" 520])
def ho_233 (P:Params):Obj:=(tq #[])
def ho_234 (P:Params):Obj:=(pr0 "evening" 38)
def ho_235 (P:Params):Obj:=(fc #[.str "evening" 506,.str "evening" 507,cp 508,.int 135 0,.int 3 0,.int 0 0,.int 0 0,.int 3 0,.ref 227,.bool true,.int 181 0,.ref 228,.none,.ref 229,.ref 230,.ref 231,.int 521 0,.int 135 0,cp 522])
def ho_236 (P:Params):Obj:=⟨.type "function",none,.func (PySem.W.fnOf "evening" "evening" (defArgs (top0 38)) (defBody (top0 38)) (defScope (top0 38)) .none .none .none (.str "sluice.ponds" 445) none (.ref 232) .none),#[]⟩
def ho_237 (P:Params):Obj:=(tq #[])
def ho_238 (P:Params):Obj:={ cls:=.none,data:=Data.fields #[] }
def ho_239 (P:Params):Obj:=(tq #[.str "below" 529,.str "roll" 530,.str "ponds" 531,.str "kept" 532,.str "calls" 533,.str "lets" 534,.str "left" 535])
def ho_240 (P:Params):Obj:=(tq #[])
def ho_241 (P:Params):Obj:=(pr0 "morning_of" 40)
def ho_242 (P:Params):Obj:=(fc #[.str "morning_of" 526,.str "morning_of" 527,cp 528,.int 146 0,.int 6 0,.int 0 0,.int 0 0,.int 3 0,.ref 234,.bool true,.int 181 0,.ref 235,.none,.ref 236,.ref 237,.ref 238,.int 536 0,.int 146 0,cp 537])
def ho_243 (P:Params):Obj:=⟨.type "function",none,.func (PySem.W.fnOf "morning_of" "morning_of" (defArgs (top0 40)) (defBody (top0 40)) (defScope (top0 40)) .none .none .none (.str "sluice.days" 524) none (.ref 239) .none),#[]⟩
def ho_244 (P:Params):Obj:=(tq #[])
def ho_245 (P:Params):Obj:={ cls:=.none,data:=Data.fields #[] }
def ho_246 (P:Params):Obj:=(tq #[.str "roll" 542,.str "ponds" 543,.str "takes" 544,.str "lets" 545,.str "moves" 546,.str "one" 547,.str "take" 548,.str "day" 549,.str "start" 550,.str "back" 551,.str "most" 552,.str "place" 553,.str "reach" 554,.str "amount" 555])
def ho_247 (P:Params):Obj:=(tq #[])
def ho_248 (P:Params):Obj:=(pr0 "moves_of" 41)
def ho_249 (P:Params):Obj:=(fc #[.str "moves_of" 539,.str "moves_of" 540,cp 541,.int 149 0,.int 4 0,.int 0 0,.int 0 0,.int 3 0,.ref 241,.bool true,.int 181 0,.ref 242,.none,.ref 243,.ref 244,.ref 245,.int 556 0,.int 149 0,cp 557])
def ho_250 (P:Params):Obj:=⟨.type "function",none,.func (PySem.W.fnOf "moves_of" "moves_of" (defArgs (top0 41)) (defBody (top0 41)) (defScope (top0 41)) .none .none .none (.str "sluice.days" 524) none (.ref 246) .none),#[]⟩
def ho_251 (P:Params):Obj:=(tq #[])
def ho_252 (P:Params):Obj:={ cls:=.none,data:=Data.fields #[] }
def ho_253 (P:Params):Obj:=(pr0 "used_of" 42)
def ho_254 (P:Params):Obj:=(fc #[.str "used_of" 559,.str "used_of" 560,cp 561,.int 157 0,.int 4 0,.int 0 0,.int 0 0,.int 3 0,.ref 248,.bool true,.int 181 0,.ref 249,.none,.none,.none,.ref 250,.int 562 0,.int 157 0,cp 563])
def ho_255 (P:Params):Obj:=⟨.type "function",none,.func (PySem.W.fnOf "used_of" "used_of" (defArgs (top0 42)) (defBody (top0 42)) (defScope (top0 42)) .none .none .none (.str "sluice.days" 524) none (.ref 251) .none),#[]⟩
def ho_256 (P:Params):Obj:=(tq #[])
def ho_257 (P:Params):Obj:={ cls:=.none,data:=Data.fields #[] }
def ho_258 (P:Params):Obj:=(pr0 "day_of" 43)
def ho_259 (P:Params):Obj:=(fc #[.str "day_of" 565,.str "day_of" 566,cp 567,.int 161 0,.int 7 0,.int 0 0,.int 0 0,.int 3 0,.ref 253,.bool true,.int 181 0,.ref 254,.none,.none,.none,.ref 255,.int 568 0,.int 161 0,cp 569])
def ho_260 (P:Params):Obj:=⟨.type "function",none,.func (PySem.W.fnOf "day_of" "day_of" (defArgs (top0 43)) (defBody (top0 43)) (defScope (top0 43)) .none .none .none (.str "sluice.days" 524) none (.ref 256) .none),#[]⟩
def ho_261 (P:Params):Obj:=(tq #[])
def ho_262 (P:Params):Obj:={ cls:=.none,data:=Data.fields #[] }
def ho_263 (P:Params):Obj:=(tq #[.str "script" 576,.str "k" 577,.str "cell" 578])
def ho_264 (P:Params):Obj:=(tq #[])
def ho_265 (P:Params):Obj:=(pr0 "_law_nth" 45)
def ho_266 (P:Params):Obj:=(fc #[.str "_law_nth" 573,.str "_law_nth" 574,cp 575,.int 170 0,.int 2 0,.int 0 0,.int 0 0,.int 3 0,.ref 258,.bool true,.int 181 0,.ref 259,.none,.ref 260,.ref 261,.ref 262,.int 579 0,.int 170 0,cp 580])
def ho_267 (P:Params):Obj:=⟨.type "function",none,.func (PySem.W.fnOf "_law_nth" "_law_nth" (defArgs (top0 45)) (defBody (top0 45)) (defScope (top0 45)) .none .none .none (.str "law_sluice_k45_day_takes_and_kept" 571) none (.ref 263) .none),#[]⟩
def ho_268 (P:Params):Obj:=(tq #[])
def ho_269 (P:Params):Obj:={ cls:=.none,data:=Data.fields #[] }
def ho_270 (P:Params):Obj:=(tq #[.str "cell" 585,.str "many" 586,.str "drawn" 587,.str "k" 588,.str "base" 589])
def ho_271 (P:Params):Obj:=(tq #[])
def ho_272 (P:Params):Obj:=(pr0 "_law_draws" 46)
def ho_273 (P:Params):Obj:=(fc #[.str "_law_draws" 582,.str "_law_draws" 583,cp 584,.int 174 0,.int 2 0,.int 0 0,.int 0 0,.int 3 0,.ref 265,.bool true,.int 181 0,.ref 266,.none,.ref 267,.ref 268,.ref 269,.int 590 0,.int 174 0,cp 591])
def ho_274 (P:Params):Obj:=⟨.type "function",none,.func (PySem.W.fnOf "_law_draws" "_law_draws" (defArgs (top0 46)) (defBody (top0 46)) (defScope (top0 46)) .none .none .none (.str "law_sluice_k45_day_takes_and_kept" 571) none (.ref 270) .none),#[]⟩
def ho_275 (P:Params):Obj:=(tq #[])
def ho_276 (P:Params):Obj:={ cls:=.none,data:=Data.fields #[] }
def ho_277 (P:Params):Obj:=(pr0 "_law_river" 47)
def ho_278 (P:Params):Obj:=(fc #[.str "_law_river" 593,.str "_law_river" 594,cp 595,.int 180 0,.int 1 0,.int 0 0,.int 0 0,.int 3 0,.ref 272,.bool true,.int 181 0,.ref 273,.none,.none,.none,.ref 274,.int 596 0,.int 180 0,cp 597])
def ho_279 (P:Params):Obj:=⟨.type "function",none,.func (PySem.W.fnOf "_law_river" "_law_river" (defArgs (top0 47)) (defBody (top0 47)) (defScope (top0 47)) .none .none .none (.str "law_sluice_k45_day_takes_and_kept" 571) none (.ref 275) .none),#[]⟩
def ho_280 (P:Params):Obj:=(tq #[])
def ho_281 (P:Params):Obj:={ cls:=.none,data:=Data.fields #[] }
def ho_282 (P:Params):Obj:=(tq #[.str "below" 602,.str "start" 603,.str "way" 604,.str "at" 605])
def ho_283 (P:Params):Obj:=(tq #[])
def ho_284 (P:Params):Obj:=(pr0 "_law_way" 48)
def ho_285 (P:Params):Obj:=(fc #[.str "_law_way" 599,.str "_law_way" 600,cp 601,.int 200 0,.int 2 0,.int 0 0,.int 0 0,.int 3 0,.ref 277,.bool true,.int 181 0,.ref 278,.none,.ref 279,.ref 280,.ref 281,.int 606 0,.int 200 0,cp 607])
def ho_286 (P:Params):Obj:=⟨.type "function",none,.func (PySem.W.fnOf "_law_way" "_law_way" (defArgs (top0 48)) (defBody (top0 48)) (defScope (top0 48)) .none .none .none (.str "law_sluice_k45_day_takes_and_kept" 571) none (.ref 282) .none),#[]⟩
def ho_287 (P:Params):Obj:=(tq #[])
def ho_288 (P:Params):Obj:={ cls:=.none,data:=Data.fields #[] }
def ho_289 (P:Params):Obj:=(tq #[.str "number" 612,.str "kind" 613])
def ho_290 (P:Params):Obj:=(tq #[])
def ho_291 (P:Params):Obj:=(pr0 "_law_amount" 49)
def ho_292 (P:Params):Obj:=(fc #[.str "_law_amount" 609,.str "_law_amount" 610,cp 611,.int 207 0,.int 2 0,.int 0 0,.int 0 0,.int 3 0,.ref 284,.bool true,.int 181 0,.ref 285,.none,.ref 286,.ref 287,.ref 288,.int 614 0,.int 207 0,cp 615])
def ho_293 (P:Params):Obj:=⟨.type "function",none,.func (PySem.W.fnOf "_law_amount" "_law_amount" (defArgs (top0 49)) (defBody (top0 49)) (defScope (top0 49)) .none .none .none (.str "law_sluice_k45_day_takes_and_kept" 571) none (.ref 289) .none),#[]⟩
def ho_294 (P:Params):Obj:=(tq #[])
def ho_295 (P:Params):Obj:={ cls:=.none,data:=Data.fields #[] }
def ho_296 (P:Params):Obj:=(tq #[.str "number" 620,.str "most" 621])
def ho_297 (P:Params):Obj:=(tq #[])
def ho_298 (P:Params):Obj:=(pr0 "_law_some" 50)
def ho_299 (P:Params):Obj:=(fc #[.str "_law_some" 617,.str "_law_some" 618,cp 619,.int 215 0,.int 2 0,.int 0 0,.int 0 0,.int 3 0,.ref 291,.bool true,.int 181 0,.ref 292,.none,.ref 293,.ref 294,.ref 295,.int 622 0,.int 215 0,cp 623])
def ho_300 (P:Params):Obj:=⟨.type "function",none,.func (PySem.W.fnOf "_law_some" "_law_some" (defArgs (top0 50)) (defBody (top0 50)) (defScope (top0 50)) .none .none .none (.str "law_sluice_k45_day_takes_and_kept" 571) none (.ref 296) .none),#[]⟩
def ho_301 (P:Params):Obj:=(tq #[])
def ho_302 (P:Params):Obj:={ cls:=.none,data:=Data.fields #[] }
def ho_303 (P:Params):Obj:=(tq #[.str "xs" 628,.str "below" 629,.str "kind" 630,.str "far" 631,.str "start" 632,.str "way" 633,.str "back" 634])
def ho_304 (P:Params):Obj:=(tq #[])
def ho_305 (P:Params):Obj:=(pr0 "_law_line" 51)
def ho_306 (P:Params):Obj:=(fc #[.str "_law_line" 625,.str "_law_line" 626,cp 627,.int 221 0,.int 4 0,.int 0 0,.int 0 0,.int 3 0,.ref 298,.bool true,.int 181 0,.ref 299,.none,.ref 300,.ref 301,.ref 302,.int 635 0,.int 221 0,cp 636])
def ho_307 (P:Params):Obj:=⟨.type "function",none,.func (PySem.W.fnOf "_law_line" "_law_line" (defArgs (top0 51)) (defBody (top0 51)) (defScope (top0 51)) .none .none .none (.str "law_sluice_k45_day_takes_and_kept" 571) none (.ref 303) .none),#[]⟩
def ho_308 (P:Params):Obj:=(tq #[])
def ho_309 (P:Params):Obj:={ cls:=.none,data:=Data.fields #[] }
def ho_310 (P:Params):Obj:=(tq #[.str "number" 641,.str "most" 642])
def ho_311 (P:Params):Obj:=(tq #[])
def ho_312 (P:Params):Obj:=(pr0 "_law_call" 52)
def ho_313 (P:Params):Obj:=(fc #[.str "_law_call" 638,.str "_law_call" 639,cp 640,.int 228 0,.int 2 0,.int 0 0,.int 0 0,.int 3 0,.ref 305,.bool true,.int 181 0,.ref 306,.none,.ref 307,.ref 308,.ref 309,.int 643 0,.int 228 0,cp 644])
def ho_314 (P:Params):Obj:=⟨.type "function",none,.func (PySem.W.fnOf "_law_call" "_law_call" (defArgs (top0 52)) (defBody (top0 52)) (defScope (top0 52)) .none .none .none (.str "law_sluice_k45_day_takes_and_kept" 571) none (.ref 310) .none),#[]⟩
def ho_315 (P:Params):Obj:=(tq #[])
def ho_316 (P:Params):Obj:={ cls:=.none,data:=Data.fields #[] }
def ho_317 (P:Params):Obj:=(tq #[.str "cell" 649,.str "cells" 650,.str "below" 651,.str "kind" 652,.str "many" 653,.str "far" 654,.str "roll" 655,.str "k" 656,.str "one" 657,.str "xs" 658])
def ho_318 (P:Params):Obj:=(tq #[])
def ho_319 (P:Params):Obj:=(pr0 "_law_roll" 53)
def ho_320 (P:Params):Obj:=(fc #[.str "_law_roll" 646,.str "_law_roll" 647,cp 648,.int 234 0,.int 4 0,.int 0 0,.int 0 0,.int 3 0,.ref 312,.bool true,.int 181 0,.ref 313,.none,.ref 314,.ref 315,.ref 316,.int 659 0,.int 234 0,cp 660])
def ho_321 (P:Params):Obj:=⟨.type "function",none,.func (PySem.W.fnOf "_law_roll" "_law_roll" (defArgs (top0 53)) (defBody (top0 53)) (defScope (top0 53)) .none .none .none (.str "law_sluice_k45_day_takes_and_kept" 571) none (.ref 317) .none),#[]⟩
def ho_322 (P:Params):Obj:=(tq #[])
def ho_323 (P:Params):Obj:={ cls:=.none,data:=Data.fields #[] }
def ho_324 (P:Params):Obj:=(tq #[.str "cells" 665,.str "springs" 666,.str "calls" 667,.str "roll" 668,.str "kind" 669,.str "one" 670,.str "xs" 671])
def ho_325 (P:Params):Obj:=(tq #[])
def ho_326 (P:Params):Obj:=(pr0 "_law_put_in" 54)
def ho_327 (P:Params):Obj:=(fc #[.str "_law_put_in" 662,.str "_law_put_in" 663,cp 664,.int 247 0,.int 5 0,.int 0 0,.int 0 0,.int 3 0,.ref 319,.bool true,.int 181 0,.ref 320,.none,.ref 321,.ref 322,.ref 323,.int 672 0,.int 247 0,cp 673])
def ho_328 (P:Params):Obj:=⟨.type "function",none,.func (PySem.W.fnOf "_law_put_in" "_law_put_in" (defArgs (top0 54)) (defBody (top0 54)) (defScope (top0 54)) .none .none .none (.str "law_sluice_k45_day_takes_and_kept" 571) none (.ref 324) .none),#[]⟩
def ho_329 (P:Params):Obj:=(tq #[])
def ho_330 (P:Params):Obj:={ cls:=.none,data:=Data.fields #[] }
def ho_331 (P:Params):Obj:=(pr0 "_law_ponds" 55)
def ho_332 (P:Params):Obj:=(fc #[.str "_law_ponds" 675,.str "_law_ponds" 676,cp 677,.int 254 0,.int 3 0,.int 0 0,.int 0 0,.int 3 0,.ref 326,.bool true,.int 181 0,.ref 327,.none,.none,.none,.ref 328,.int 678 0,.int 254 0,cp 679])
def ho_333 (P:Params):Obj:=⟨.type "function",none,.func (PySem.W.fnOf "_law_ponds" "_law_ponds" (defArgs (top0 55)) (defBody (top0 55)) (defScope (top0 55)) .none .none .none (.str "law_sluice_k45_day_takes_and_kept" 571) none (.ref 329) .none),#[]⟩
def ho_334 (P:Params):Obj:=(tq #[])
def ho_335 (P:Params):Obj:={ cls:=.none,data:=Data.fields #[] }
def ho_336 (P:Params):Obj:=(tq #[.str "cells" 684,.str "below" 685,.str "roll" 686,.str "ponds" 687,.str "left" 688,.str "lets" 689,.str "one" 690,.str "xs" 691,.str "pond" 692,.str "way" 693])
def ho_337 (P:Params):Obj:=(tq #[])
def ho_338 (P:Params):Obj:=(pr0 "_law_lets" 56)
def ho_339 (P:Params):Obj:=(fc #[.str "_law_lets" 681,.str "_law_lets" 682,cp 683,.int 261 0,.int 5 0,.int 0 0,.int 0 0,.int 3 0,.ref 331,.bool true,.int 181 0,.ref 332,.none,.ref 333,.ref 334,.ref 335,.int 694 0,.int 261 0,cp 695])
def ho_340 (P:Params):Obj:=⟨.type "function",none,.func (PySem.W.fnOf "_law_lets" "_law_lets" (defArgs (top0 56)) (defBody (top0 56)) (defScope (top0 56)) .none .none .none (.str "law_sluice_k45_day_takes_and_kept" 571) none (.ref 336) .none),#[]⟩
def ho_341 (P:Params):Obj:=(tq #[])
def ho_342 (P:Params):Obj:={ cls:=.none,data:=Data.fields #[] }
def ho_343 (P:Params):Obj:=(pr0 "_law_numbers" 57)
def ho_344 (P:Params):Obj:=(fc #[.str "_law_numbers" 697,.str "_law_numbers" 698,cp 699,.int 271 0,.int 2 0,.int 0 0,.int 0 0,.int 3 0,.ref 338,.bool true,.int 181 0,.ref 339,.none,.none,.none,.ref 340,.int 700 0,.int 271 0,cp 701])
def ho_345 (P:Params):Obj:=⟨.type "function",none,.func (PySem.W.fnOf "_law_numbers" "_law_numbers" (defArgs (top0 57)) (defBody (top0 57)) (defScope (top0 57)) .none .none .none (.str "law_sluice_k45_day_takes_and_kept" 571) none (.ref 341) .none),#[]⟩
def ho_346 (P:Params):Obj:=(tq #[])
def ho_347 (P:Params):Obj:={ cls:=.none,data:=Data.fields #[] }
def ho_348 (P:Params):Obj:=(tq #[.str "told" 706,.str "ponds" 707,.str "left" 708,.str "takes" 709,.str "k" 710,.str "held" 711,.str "rest" 712])
def ho_349 (P:Params):Obj:=(tq #[])
def ho_350 (P:Params):Obj:=(pr0 "_law_kept" 58)
def ho_351 (P:Params):Obj:=(fc #[.str "_law_kept" 703,.str "_law_kept" 704,cp 705,.int 275 0,.int 4 0,.int 0 0,.int 0 0,.int 3 0,.ref 343,.bool true,.int 181 0,.ref 344,.none,.ref 345,.ref 346,.ref 347,.int 713 0,.int 275 0,cp 714])
def ho_352 (P:Params):Obj:=⟨.type "function",none,.func (PySem.W.fnOf "_law_kept" "_law_kept" (defArgs (top0 58)) (defBody (top0 58)) (defScope (top0 58)) .none .none .none (.str "law_sluice_k45_day_takes_and_kept" 571) none (.ref 348) .none),#[]⟩
def ho_353 (P:Params):Obj:=(tq #[])
def ho_354 (P:Params):Obj:={ cls:=.none,data:=Data.fields #[] }
def ho_355 (P:Params):Obj:=(tq #[.str "told" 719,.str "below" 720,.str "roll" 721,.str "ponds" 722])
def ho_356 (P:Params):Obj:=(tq #[])
def ho_357 (P:Params):Obj:=(pr0 "_law_kinds" 59)
def ho_358 (P:Params):Obj:=(fc #[.str "_law_kinds" 716,.str "_law_kinds" 717,cp 718,.int 282 0,.int 4 0,.int 0 0,.int 0 0,.int 3 0,.ref 350,.bool true,.int 181 0,.ref 351,.none,.ref 352,.ref 353,.ref 354,.int 723 0,.int 282 0,cp 724])
def ho_359 (P:Params):Obj:=⟨.type "function",none,.func (PySem.W.fnOf "_law_kinds" "_law_kinds" (defArgs (top0 59)) (defBody (top0 59)) (defScope (top0 59)) .none .none .none (.str "law_sluice_k45_day_takes_and_kept" 571) none (.ref 355) .none),#[]⟩
def ho_360 (P:Params):Obj:=(tq #[])
def ho_361 (P:Params):Obj:={ cls:=.none,data:=Data.fields #[] }
def ho_362 (P:Params):Obj:=(pr0 "law" 60)
def ho_363 (P:Params):Obj:=(fc #[.str "law" 726,.str "law" 727,cp 728,.int 288 0,.int 1 0,.int 0 0,.int 0 0,.int 3 0,.ref 357,.bool true,.int 181 0,.ref 358,.none,.none,.none,.ref 359,.int 729 0,.int 288 0,cp 730])
def ho_364 (P:Params):Obj:=⟨.type "function",none,.func (PySem.W.fnOf "law" "law" (defArgs (top0 60)) (defBody (top0 60)) (defScope (top0 60)) .none .none .none (.str "law_sluice_k45_day_takes_and_kept" 571) none (.ref 360) .none),#[]⟩
def H0:Params→Heap:=fun P=>{ objs:=⟨ho_1 P :: ho_2 P :: ho_3 P :: ho_4 P :: ho_5 P :: ho_6 P :: ho_7 P :: ho_8 P :: ho_9 P :: ho_10 P :: ho_11 P :: []⟩ }
def H1:Params→Heap:=fun P=>{ objs:=⟨ho_1 P :: ho_2 P :: ho_3 P :: ho_13 P :: ho_5 P :: ho_6 P :: ho_7 P :: ho_8 P :: ho_9 P :: ho_10 P :: ho_11 P :: ho_14 P :: ho_15 P :: ho_16 P :: ho_17 P :: ho_18 P :: ho_19 P :: ho_20 P :: ho_21 P :: ho_22 P :: ho_23 P :: ho_24 P :: ho_25 P :: ho_26 P :: ho_27 P :: ho_28 P :: ho_29 P :: ho_30 P :: ho_31 P :: ho_32 P :: ho_33 P :: ho_34 P :: ho_35 P :: ho_36 P :: ho_37 P :: ho_38 P :: ho_39 P :: ho_40 P :: ho_41 P :: ho_42 P :: ho_43 P :: ho_44 P :: ho_45 P :: ho_46 P :: ho_47 P :: ho_48 P :: ho_49 P :: ho_50 P :: ho_51 P :: ho_52 P :: ho_53 P :: ho_54 P :: ho_55 P :: ho_56 P :: ho_57 P :: ho_58 P :: ho_59 P :: ho_60 P :: ho_61 P :: ho_62 P :: ho_63 P :: ho_64 P :: ho_65 P :: ho_66 P :: ho_67 P :: ho_68 P :: ho_69 P :: ho_70 P :: ho_71 P :: ho_72 P :: ho_73 P :: ho_74 P :: ho_75 P :: ho_76 P :: ho_77 P :: ho_78 P :: ho_79 P :: ho_80 P :: ho_81 P :: ho_82 P :: ho_83 P :: ho_84 P :: ho_85 P :: ho_86 P :: ho_87 P :: ho_88 P :: ho_89 P :: ho_90 P :: ho_91 P :: ho_92 P :: ho_93 P :: ho_94 P :: ho_95 P :: ho_96 P :: ho_97 P :: ho_98 P :: ho_99 P :: ho_100 P :: ho_101 P :: ho_102 P :: ho_103 P :: ho_104 P :: ho_105 P :: ho_106 P :: ho_107 P :: ho_108 P :: ho_109 P :: ho_110 P :: ho_111 P :: ho_112 P :: ho_113 P :: ho_114 P :: ho_115 P :: ho_116 P :: ho_117 P :: ho_118 P :: ho_119 P :: ho_120 P :: ho_121 P :: ho_122 P :: ho_123 P :: ho_124 P :: ho_125 P :: ho_126 P :: ho_127 P :: ho_128 P :: ho_129 P :: ho_130 P :: ho_131 P :: ho_132 P :: ho_133 P :: ho_134 P :: ho_135 P :: ho_136 P :: ho_137 P :: ho_138 P :: ho_139 P :: ho_140 P :: ho_141 P :: ho_142 P :: ho_143 P :: ho_144 P :: ho_145 P :: ho_146 P :: ho_147 P :: ho_148 P :: ho_149 P :: ho_150 P :: ho_151 P :: ho_152 P :: ho_153 P :: ho_154 P :: ho_155 P :: ho_156 P :: ho_157 P :: ho_158 P :: ho_159 P :: ho_160 P :: ho_161 P :: ho_162 P :: ho_163 P :: ho_164 P :: ho_165 P :: ho_166 P :: ho_167 P :: ho_168 P :: ho_169 P :: ho_170 P :: ho_171 P :: ho_172 P :: ho_173 P :: ho_174 P :: ho_175 P :: ho_176 P :: ho_177 P :: ho_178 P :: ho_179 P :: ho_180 P :: ho_181 P :: ho_182 P :: ho_183 P :: ho_184 P :: ho_185 P :: ho_186 P :: ho_187 P :: ho_188 P :: ho_189 P :: ho_190 P :: ho_191 P :: ho_192 P :: ho_193 P :: ho_194 P :: ho_195 P :: ho_196 P :: ho_197 P :: ho_198 P :: ho_199 P :: ho_200 P :: ho_201 P :: ho_202 P :: ho_203 P :: ho_204 P :: ho_205 P :: ho_206 P :: ho_207 P :: ho_208 P :: ho_209 P :: ho_210 P :: ho_211 P :: ho_212 P :: ho_213 P :: ho_214 P :: ho_215 P :: ho_216 P :: ho_217 P :: ho_218 P :: ho_219 P :: ho_220 P :: ho_221 P :: ho_222 P :: ho_223 P :: ho_224 P :: ho_225 P :: ho_226 P :: ho_227 P :: ho_228 P :: ho_229 P :: ho_230 P :: ho_231 P :: ho_232 P :: ho_233 P :: ho_234 P :: ho_235 P :: ho_236 P :: ho_237 P :: ho_238 P :: ho_239 P :: ho_240 P :: ho_241 P :: ho_242 P :: ho_243 P :: ho_244 P :: ho_245 P :: ho_246 P :: ho_247 P :: ho_248 P :: ho_249 P :: ho_250 P :: ho_251 P :: ho_252 P :: ho_253 P :: ho_254 P :: ho_255 P :: ho_256 P :: ho_257 P :: ho_258 P :: ho_259 P :: ho_260 P :: ho_261 P :: ho_262 P :: ho_263 P :: ho_264 P :: ho_265 P :: ho_266 P :: ho_267 P :: ho_268 P :: ho_269 P :: ho_270 P :: ho_271 P :: ho_272 P :: ho_273 P :: ho_274 P :: ho_275 P :: ho_276 P :: ho_277 P :: ho_278 P :: ho_279 P :: ho_280 P :: ho_281 P :: ho_282 P :: ho_283 P :: ho_284 P :: ho_285 P :: ho_286 P :: ho_287 P :: ho_288 P :: ho_289 P :: ho_290 P :: ho_291 P :: ho_292 P :: ho_293 P :: ho_294 P :: ho_295 P :: ho_296 P :: ho_297 P :: ho_298 P :: ho_299 P :: ho_300 P :: ho_301 P :: ho_302 P :: ho_303 P :: ho_304 P :: ho_305 P :: ho_306 P :: ho_307 P :: ho_308 P :: ho_309 P :: ho_310 P :: ho_311 P :: ho_312 P :: ho_313 P :: ho_314 P :: ho_315 P :: ho_316 P :: ho_317 P :: ho_318 P :: ho_319 P :: ho_320 P :: ho_321 P :: ho_322 P :: ho_323 P :: ho_324 P :: ho_325 P :: ho_326 P :: ho_327 P :: ho_328 P :: ho_329 P :: ho_330 P :: ho_331 P :: ho_332 P :: ho_333 P :: ho_334 P :: ho_335 P :: ho_336 P :: ho_337 P :: ho_338 P :: ho_339 P :: ho_340 P :: ho_341 P :: ho_342 P :: ho_343 P :: ho_344 P :: ho_345 P :: ho_346 P :: ho_347 P :: ho_348 P :: ho_349 P :: ho_350 P :: ho_351 P :: ho_352 P :: ho_353 P :: ho_354 P :: ho_355 P :: ho_356 P :: ho_357 P :: ho_358 P :: ho_359 P :: ho_360 P :: ho_361 P :: ho_362 P :: ho_363 P :: ho_364 P :: []⟩ }
end
theorem hp1:∀ w:World,(PySem.W.fencedOpening PySem.treeTable PySem.Challenge.rw_sluice_k45_day_takes_and_kept.row.toRowW.prog w 4872).map (fun s=>(s.heap,s.gens,s.drawn,s.toks))=some (H0 w.params,#[],{},181):=by
  intro w;kernel_rfl
theorem hp2:∀ w:World,((H0 w.params).isNs mainGlobals && (#[]:Array GenState).size == 0,(H0 w.params).objs.size,(H0 w.params).nsMap mainGlobals "__annotations__")=(true,11,some (Value.ref 6)):=by
  intro w;kernel_rfl
theorem hp3:∀ (w:World) (os:OsState),PySem.W.topRun PySem.treeTable PySem.Challenge.rw_sluice_k45_day_takes_and_kept.row.toRowW.prog w 11 (some (Value.ref 6)) 4872 ⟨H0 w.params,#[],{},181,os⟩ (PySem.W.topStub PySem.Challenge.rw_sluice_k45_day_takes_and_kept.row.toRowW.prog)=some ⟨H1 w.params,#[],{},732,os⟩:=by
  intro w os;kernel_rfl
theorem hp4:∀ w:World,(fun os=>((PySem.W.staticsOk (importedModules PySem.Challenge.rw_sluice_k45_day_takes_and_kept.row.toRowW.prog.main.body) (H0 w.params) (H1 w.params) && PySem.W.namesBound PySem.Challenge.rw_sluice_k45_day_takes_and_kept.row.toRowW.prog (H1 w.params) && PySem.W.gensDone ⟨H1 w.params,#[],{},732,os⟩ && PySem.W.laidKept (H0 w.params) (H1 w.params)),PySem.W.openSeen qv looseK (importedModules PySem.Challenge.rw_sluice_k45_day_takes_and_kept.row.toRowW.prog.main.body) (fun s=>PySem.W.xlAt My.qv [] s && PySem.W.recOk (PySem.W.RowW.records PySem.Challenge.rw_sluice_k45_day_takes_and_kept.row.toRowW) s) true ⟨H1 w.params,#[],{},732,os⟩,(PySem.W.Hook.obs (PySem.W.kmHook My.Kf My.asK My.hkE My.tsK)) ⟨H1 w.params,#[],{},732,os⟩))=fun _=>(true,PySem.W.openGood qv looseK,(PySem.W.Hook.val (PySem.W.kmHook My.Kf My.asK My.hkE My.tsK)) w):=by
  intro w;kernel_rfl
theorem hlE:PySem.W.LeftO PySem.Challenge.rw_sluice_k45_day_takes_and_kept.row.toRowW.prog qv My.looseK (fun s=>PySem.W.xlAt My.qv [] s && PySem.W.recOk (PySem.W.RowW.records PySem.Challenge.rw_sluice_k45_day_takes_and_kept.row.toRowW) s) (PySem.W.Hook.obs (PySem.W.kmHook My.Kf My.asK My.hkE My.tsK)) (PySem.W.Hook.val (PySem.W.kmHook My.Kf My.asK My.hkE My.tsK)) 4872:=PySem.W.LeftO.of_pieces hp1 hp2 hp3 (by decide) hp4
end My
namespace L2
open PySem PySem.Spec PyProof.Rows
abbrev Key:=Sum Int Str
def keyIs:Key→Value→Bool
  | .inl k,v=>Value.isInt k v
  | .inr x,v=>Value.isStrOf x v
def keyH (w:World):Key→Int
  | .inl k=>hashInt k
  | .inr x=>hashStr w x
theorem keyIs_shape:∀ {k:Key} {v:Value},keyIs k v=true→(∃ i t,k=Sum.inl i∧v=Value.int i t)∨(∃ x t,k=Sum.inr x∧v=Value.str x t)
  | .inl i,v,h=>by
    obtain ⟨t,e⟩:=Value.isInt_shape (k:=i) (v:=v) h
    exact .inl ⟨i,t,rfl,e⟩
  | .inr x,v,h=>by
    obtain ⟨t,e⟩:=Value.isStrOf_shape (x:=x) (v:=v) h
    exact .inr ⟨x,t,rfl,e⟩
theorem keyIs_int (i:Int) (t:Tok):keyIs (.inl i) (.int i t)=true:=by simp [keyIs,Value.isInt]
theorem keyIs_str (x:Str) (t:Tok):keyIs (.inr x) (.str x t)=true:=by simp [keyIs,Value.isStrOf]
theorem key_ll (a b:Int):decide ((Sum.inl a:Key)=Sum.inl b)=(a == b):=by
  by_cases e:a=b
  · subst e;simp
  · have h:¬ (Sum.inl a:Key)=Sum.inl b:=fun q=>e (Sum.inl.inj q)
    rw [decide_eq_false h]
    exact (beq_eq_false_iff_ne.mpr e).symm
theorem key_rr (a b:Str):decide ((Sum.inr a:Key)=Sum.inr b)=decide (a=b):=by
  by_cases e:a=b
  · subst e;simp
  · have h:¬ (Sum.inr a:Key)=Sum.inr b:=fun q=>e (Sum.inr.inj q)
    rw [decide_eq_false h,decide_eq_false e]
theorem key_lr (a:Int) (b:Str):decide ((Sum.inl a:Key)=Sum.inr b)=false:=decide_eq_false (fun q=>nomatch q)
theorem key_rl (a:Str) (b:Int):decide ((Sum.inr a:Key)=Sum.inl b)=false:=decide_eq_false (fun q=>nomatch q)
def mixKind (prog:Program) (w:World):PySem.KeyKind prog w Key where
  is:=keyIs
  hash:=keyH w
  inj:=fun v a b ha hb=>by
    rcases keyIs_shape ha with ⟨i,t,rfl,rfl⟩ | ⟨x,t,rfl,rfl⟩
    · rcases keyIs_shape hb with ⟨j,u,rfl,e⟩ | ⟨y,u,rfl,e⟩
      · injection e with e1 _;rw [e1]
      · exact nomatch e
    · rcases keyIs_shape hb with ⟨j,u,rfl,e⟩ | ⟨y,u,rfl,e⟩
      · exact nomatch e
      · injection e with e1 _;rw [e1]
  byValue:=fun k v h=>by
    rcases keyIs_shape h with ⟨i,t,rfl,rfl⟩ | ⟨x,t,rfl,rfl⟩ <;> rfl
  pyHash:=fun hv h=>by
    rcases keyIs_shape hv with ⟨i,t,rfl,rfl⟩ | ⟨x,t,rfl,rfl⟩
    · exact wpAny_pyHash_int h
    · exact wpAny_pyHash_str h
  eqBool:=fun hu hv h=>by
    rcases keyIs_shape hu with ⟨i,t,rfl,rfl⟩ | ⟨x,t,rfl,rfl⟩
    · rcases keyIs_shape hv with ⟨j,u,rfl,rfl⟩ | ⟨y,u,rfl,rfl⟩
      · rw [key_ll] at h;exact wpAny_eqBool_int h
      · rw [key_lr] at h;exact SeqAt.EqAt.int_str i t y u _ _ _ _ h
    · rcases keyIs_shape hv with ⟨j,u,rfl,rfl⟩ | ⟨y,u,rfl,rfl⟩
      · rw [key_rl] at h;exact SeqAt.EqAt.str_int x t j u _ _ _ _ h
      · rw [key_rr] at h;exact wpAny_eqBool_str h
  «strs»:=fun k x t v h=>by
    rcases keyIs_shape h with ⟨i,u,rfl,e⟩ | ⟨y,u,rfl,e⟩
    · exact nomatch e
    · injection e with e1 _
      subst e1
      cases v <;> rfl
theorem mixKind_int (prog:Program) (w:World) (i:Int) (t:Tok):(mixKind prog w).is (.inl i) (.int i t)=true:=keyIs_int i t
theorem mixKind_str (prog:Program) (w:World) (x:Str) (t:Tok):(mixKind prog w).is (.inr x) (.str x t)=true:=keyIs_str x t
end L2
namespace L2
open PySem PySem.Spec PyProof.Rows
inductive V where
  | non | bl (b:Bool) | int (i:Int) | str (x:Str) | byt (b:Array UInt8) | flt (b:UInt64) | ref (a:Addr) | ty (n:String)
  deriving DecidableEq
def RelV:V→Value→Prop
  | .non,u=>u=Value.none
  | .bl b,u=>u=Value.bool b
  | .int i,u=>∃ t,u=Value.int i t
  | .str x,u=>∃ t,u=Value.str x t
  | .byt b,u=>∃ t,u=Value.bytes b t
  | .flt b,u=>∃ t,u=Value.float b t
  | .ref a,u=>u=Value.ref a
  | .ty n,u=>u=Value.type n
abbrev Vals:List V→List Value→Prop:=Paired RelV
theorem Vals.length {xs:List V} {us:List Value} (r:Vals xs us):xs.length=us.length:=Paired.length r
theorem Vals.get:∀ {xs:List V} {us:List Value} {i:Nat} {x:V},Vals xs us→xs[i]?=some x→∃ u,us[i]?=some u∧RelV x u
  | _,_,_,_,.nil,e=>by simp at e
  | _,_,0,_,.cons r _,e=>by simp at e;subst e;exact ⟨_,rfl,r⟩
  | _,_,i + 1,x,.cons _ t,e=>by
    obtain ⟨u,h1,h2⟩:=Vals.get (i:=i) (x:=x) t (by simpa using e)
    exact ⟨u,by simpa using h1,h2⟩
theorem Vals.set {x:V} {u:Value} (r:RelV x u):∀ {xs:List V} {us:List Value} (i:Nat),Vals xs us→Vals (xs.set i x) (us.set i u)
  | _,_,_,.nil=>.nil
  | _,_,0,.cons _ t=>.cons r t
  | _,_,i + 1,.cons q t=>.cons q (Vals.set r i t)
theorem Vals.append:∀ {xs ys:List V} {us ws:List Value},Vals xs us→Vals ys ws→Vals (xs++ys) (us++ws)
  | _,_,_,_,.nil,s=>s
  | _,_,_,_,.cons r t,s=>.cons r (Vals.append t s)
theorem Vals.take:∀ {xs:List V} {us:List Value} (n:Nat),Vals xs us→Vals (xs.take n) (us.take n)
  | _,_,0,_=>.nil
  | _,_,_ + 1,.nil=>.nil
  | _,_,n + 1,.cons r t=>.cons r (Vals.take n t)
theorem Vals.drop:∀ {xs:List V} {us:List Value} (n:Nat),Vals xs us→Vals (xs.drop n) (us.drop n)
  | _,_,0,r=>r
  | _,_,_ + 1,.nil=>.nil
  | _,_,n + 1,.cons _ t=>Vals.drop n t
def RelO:Option V→Option Value→Prop
  | some v,some u=>RelV v u
  | none,none=>True
  | _,_=>False
def KV {κ:Type}:List (κ × V)→List (κ × Value)→Prop:=Paired fun (p:κ × V) (q:κ × Value)=>p.1=q.1∧RelV p.2 q.2
def kV:Key→V
  | .inl i=>.int i
  | .inr x=>.str x
inductive HO where
  /-- a list -/
  | lst (xs:List V)
  /-- a tuple (never changes) -/
  | tup (xs:List V)
  /-- a dict whose keys are ints and texts; one whose keys are tuples of ints and texts (the empty one is both) -/
  | dK (kvs:List (Key × V)) | dT (kvs:List (List Key × V))
  /-- a set of ints: its members, its size -/
  | set (S:Int→Bool) (n:Nat)
  /-- an instance of the class at C, its dict at dx, its attributes -/
  | ins (C dx:Addr) (fs:List (Str × V))
  /-- the dict of the instance at x -/
  | own (x:Addr)
  /-- the dict of an exception -/
  | xd (fs:List (Str × V))
  /-- a bound method, f of x -/
  | met (f x:Addr)
  /-- a range object lo, lo + 1, .. below hi -/
  | rng (lo hi:Int)
  /-- a thing that is known to the object (the script; a dict while a loop walks it): read, never written while it is so -/
  | frz (o:Obj) (u:HO)
  /-- a code object's table -/
  | tbl (ps:Array Value)
  /-- any other thing, by what is true of its one object (a def of one's own: SetO a S n := HO.ext fun h => ..) -/
  | ext (φ:Heap→Prop)
abbrev Hp:=Addr→Option HO
def upd (H:Hp) (a:Addr) (o:HO):Hp:=fun b=>if b=a then some o else H b
theorem upd_same {H:Hp} {a:Addr} {o:HO}:upd H a o a=some o:=by unfold upd;rw [if_pos rfl]
theorem upd_ne {H:Hp} {a b:Addr} {o:HO} (h:b≠a):upd H a o b=H b:=by unfold upd;rw [if_neg h]
theorem ne_of_none {H:Hp} {a b:Addr} {o:HO} (h:H a=some o) (h':H b=none):a≠b:=by
  intro e;subst e;rw [h] at h';cases h'
section
variable (P:Program) (w:World)
def ObjOk (H:Hp) (h:Heap) (a:Addr):HO→Prop
  | .lst xs=>xs.length≤sizeLine∧∃ (its:List Value) (n:Nat),Vals xs its∧h.get? a=some { cls:=.type "list",data:=.seq its.toArray n }
  | .tup xs=>xs.length≤sizeLine∧∃ its:List Value,Vals xs its∧IsTup h a its.toArray
  | .dK kvs=>kvs.length≤sizeLine∧(a == sysModules)=false∧∃ vs,KV kvs vs∧h.DictOf (mixKind P w) a vs
  | .dT kvs=>kvs.length≤sizeLine∧(a == sysModules)=false∧∃ xs:List (List Key × Addr × Value),
      Paired (fun (p:List Key × V) (q:List Key × Addr × Value)=>p.1=q.1∧H q.2.1=some (.tup (p.1.map kV))∧RelV p.2 q.2.2) kvs xs ∧
      ∃ o es ep,h.get? a=some o∧o.ExactDict∧o.data=.dict es ep∧es.toList=xs.map (entryOfKey (tupleKind (mixKind P w)))∧(xs.map (·.1)).Nodup
  | .set S n=>h.SetOf (intKind P w) a S n
  | .ins C dx fs=>H dx=some (.own a)∧fs.length≤1000∧dx≠a∧h.get? a=some (PySem.W.instObj C dx) ∧
      ∃ mA,h.Ns1 dx mA∧(∀ f,RelO (fs.lookup f) (mA f))∧PySem.Within mA (fs.map (·.1))
  | .own _=>∃ o,h.get? a=some o
  | .xd fs=>∃ mA,h.Ns1 a mA∧∀ f,RelO (fs.lookup f) (mA f)
  | .rng lo hi=>∃ t u v,h.get? a=some { cls:=.type "range",data:=.fields #[.int lo t,.int hi u,.int 1 v] }
  | .frz o u=>h.get? a=some o∧ObjOk H h a u
  | .tbl ps=>h.get? a=some { cls:=.none,data:=.fields ps }
  | .met f x=>h.get? a=some (PySem.W.methodObj (.ref f) (.ref x))
  | .ext φ=>φ h∧(∃ o,h.get? a=some o)∧∀ h1 h2:Heap,φ h1→(∀ o,h1.get? a=some o→h2.get? a=some o)→φ h2
def HOk (H:Hp) (h:Heap):Prop:=∀ a o,H a=some o→ObjOk P w H h a o
end
section
variable {P:Program} {w:World} {H H':Hp} {h h':Heap} {a:Addr} {o:HO}
theorem ObjOk.lt (x:ObjOk P w H h a o):a<h.objs.size:=by
  cases o with
  | lst xs=>obtain ⟨_,_,_,_,e⟩:=x;exact Heap.lt_size e
  | tup xs=>obtain ⟨_,_,_,p⟩:=x;exact p.lt
  | dK kvs=>obtain ⟨_,_,_,_,o,_,_,e,_⟩:=x;exact Heap.lt_size e
  | dT kvs=>obtain ⟨_,_,_,_,o,_,_,e,_⟩:=x;exact Heap.lt_size e
  | set S n=>obtain ⟨o,_,_,_,e,_⟩:=x;exact Heap.lt_size e
  | ins C dx fs=>obtain ⟨_,_,_,e,_⟩:=x;exact Heap.lt_size e
  | own y=>obtain ⟨_,e⟩:=x;exact Heap.lt_size e
  | xd fs=>obtain ⟨_,⟨_,_,_,e,_⟩,_⟩:=x;exact Heap.lt_size e
  | rng lo hi=>obtain ⟨_,_,_,e⟩:=x;exact Heap.lt_size e
  | frz ob u=>obtain ⟨e,_⟩:=x;exact Heap.lt_size e
  | tbl ps=>exact Heap.lt_size (show h.get? a=some _ from x)
  | met f y=>exact Heap.lt_size (show h.get? a=some _ from x)
  | ext φ=>obtain ⟨_,⟨_,e⟩,_⟩:=x;exact Heap.lt_size e
theorem Paired.mapP {α β:Type} {F G:α→β→Prop}:∀ {l₁:List α} {l₂:List β},Paired F l₁ l₂→(∀ a b,F a b→G a b)→Paired G l₁ l₂
  | _,_,.nil,_=>.nil
  | _,_,.cons r t,f=>.cons (f _ _ r) (Paired.mapP t f)
theorem ObjOk.stay (x:ObjOk P w H h a o) (k:∀ b u,(b=a∨H b=some (.own a))→h.get? b=some u→h'.get? b=some u)
    (ho:∀ b,H b=some (.own a)→H' b=some (.own a)) (ht:∀ b xs,H b=some (.tup xs)→H' b=some (.tup xs)):ObjOk P w H' h' a o:=by
  induction o with
  | lst xs=>obtain ⟨z,its,n,r,e⟩:=x;exact ⟨z,its,n,r,k _ _ (.inl rfl) e⟩
  | tup xs=>obtain ⟨z,its,r,ob,e,c⟩:=x;exact ⟨z,its,r,ob,k _ _ (.inl rfl) e,c⟩
  | dK kvs=>obtain ⟨z,y,vs,r,ob,es,ep,e,c⟩:=x;exact ⟨z,y,vs,r,ob,es,ep,k _ _ (.inl rfl) e,c⟩
  | dT kvs =>
    obtain ⟨z,y,xs,r,ob,es,ep,e,c⟩:=x
    exact ⟨z,y,xs,Paired.mapP r fun p q z=>⟨z.1,ht _ _ z.2.1,z.2.2⟩,ob,es,ep,k _ _ (.inl rfl) e,c⟩
  | set S n=>obtain ⟨ob,es,ep,t,e,c⟩:=x;exact ⟨ob,es,ep,t,k _ _ (.inl rfl) e,c⟩
  | ins C dx fs =>
    obtain ⟨d,z,ne,e,mA,⟨od,es,ep,e2,c⟩,r⟩:=x
    exact ⟨ho _ d,z,ne,k _ _ (.inl rfl) e,mA,⟨od,es,ep,k _ _ (.inr d) e2,c⟩,r⟩
  | own y=>obtain ⟨ob,e⟩:=x;exact ⟨ob,k _ _ (.inl rfl) e⟩
  | xd fs=>obtain ⟨mA,⟨od,es,ep,e,c⟩,r⟩:=x;exact ⟨mA,⟨od,es,ep,k _ _ (.inl rfl) e,c⟩,r⟩
  | rng lo hi=>obtain ⟨t,u,v,e⟩:=x;exact ⟨t,u,v,k _ _ (.inl rfl) e⟩
  | frz ob u ih=>obtain ⟨e,q⟩:=x;exact ⟨k _ _ (.inl rfl) e,ih q⟩
  | tbl ps =>
    have e:h.get? a=some { cls:=.none,data:=.fields ps }:=x
    show h'.get? a=some { cls:=.none,data:=.fields ps }
    exact k a _ (.inl rfl) e
  | met f y =>
    have e:h.get? a=some (PySem.W.methodObj (.ref f) (.ref y)):=x
    show h'.get? a=some (PySem.W.methodObj (.ref f) (.ref y))
    exact k a _ (.inl rfl) e
  | ext φ=>obtain ⟨p,⟨o,e⟩,st⟩:=x;exact ⟨st _ _ p fun o q=>k _ _ (.inl rfl) q,⟨o,k _ _ (.inl rfl) e⟩,st⟩
theorem HOk.lt (x:HOk P w H h) (e:H a=some o):a<h.objs.size:=(x a o e).lt
theorem HOk.fresh (x:HOk P w H h) (e:h.objs.size≤a):H a=none:=by
  cases q:H a with
  | none=>rfl
  | some u=>exact absurd (Nat.lt_of_lt_of_le (x.lt q) e) (Nat.lt_irrefl _)
theorem HOk.kept (x:HOk P w H h) (k:∀ b u,h.get? b=some u→h'.get? b=some u):HOk P w H h':=fun a o e =>
  (x a o e).stay (fun b u _ q=>k b u q) (fun _ q=>q) fun _ _ q=>q
theorem HOk.laid (x:HOk P w H h) (k:∀ b u,h.get? b=some u→h'.get? b=some u) (hp:h.objs.size≤a) (new:ObjOk P w (upd H a o) h' a o):HOk P w (upd H a o) h':=fun b u e=>by
  have hn:=x.fresh hp
  by_cases hb:b=a
  · subst hb;rw [upd_same] at e;cases e;exact new
  · rw [upd_ne hb] at e
    exact (x b u e).stay (fun c v _ q=>k c v q) (fun c q=>by rw [upd_ne (ne_of_none q hn)];exact q) fun c xs q=>by rw [upd_ne (ne_of_none q hn)];exact q
end
def Rd (H:Hp) (a:Addr) (u:HO):Prop:=H a=some u∨∃ o,H a=some (.frz o u)
theorem Rd.ok {P:Program} {w:World} {H:Hp} {h:Heap} {a:Addr} {u:HO} (r:Rd H a u) (x:HOk P w H h):ObjOk P w H h a u:=by
  rcases r with r | ⟨o,r⟩
  · exact x a u r
  · obtain ⟨_,q⟩:=x a _ r
    exact q
def Mut:Option HO→Prop
  | some (.lst _)=>True
  | some (.dK _)=>True
  | some (.dT _)=>True
  | some (.set _ _)=>True
  | some (.ins _ _ _)=>True
  | some (.ext _)=>True
  | _=>False
section
variable {P:Program} {w:World} {H:Hp} {h h':Heap} {x e:Addr} {o':HO}
theorem HOk.write (ok:HOk P w H h) (mu:Mut (H x)) (he:e=x∨H e=some (.own x)) (k:∀ b u,b≠e→h.get? b=some u→h'.get? b=some u) (heo:∃ u,h'.get? e=some u)
    (new:ObjOk P w (upd H x o') h' x o'):HOk P w (upd H x o') h':=fun b u q=>by
  have nown:∀ c y,H c=some (.own y)→c≠x:=fun c y r z=>by subst z;rw [r] at mu;exact mu
  have ntup:∀ c xs,H c=some (.tup xs)→c≠x:=fun c xs r z=>by subst z;rw [r] at mu;exact mu
  by_cases hb:b=x
  · subst hb;rw [upd_same] at q;cases q;exact new
  · rw [upd_ne hb] at q
    by_cases hbe:b=e
    · have q':H b=some (.own x):=by
        rcases he with z | z
        · exact absurd (hbe.trans z) hb
        · rw [hbe];exact z
      rw [q] at q';cases q'
      obtain ⟨v,hv⟩:=heo
      exact ⟨v,by rw [hbe];exact hv⟩
    · refine (ok b u q).stay (fun c v hc r=>k c v ?_ r) (fun c r=>by rw [upd_ne (nown c b r)];exact r) fun c xs r=>by rw [upd_ne (ntup c xs r)];exact r
      rcases hc with rfl | hc
      · exact hbe
      · rintro rfl
        rcases he with z | z
        · exact nown c b hc z
        · rw [hc] at z;cases z;exact hb rfl
end
structure Un (fs ex:List Addr) (H H':Hp) (h h':Heap):Prop where
  keep:∀ b o,h.get? b=some o→H b=none→b ∉ fs→b ∉ ex→h'.get? b=some o
  slot:∀ b o,h.get? b=some o→H b=none→b∈fs→b ∉ ex→∃ sl,h'.get? b=some { o with slots:=sl }
  free:∀ b o,h.get? b=some o→H b=none→b ∉ ex→H' b=none
  there:∀ b o,h.get? b=some o→b ∉ ex→∃ o',h'.get? b=some o'
  tups:∀ b xs,H b=some (.tup xs)→H' b=some (.tup xs)
  frzs:∀ b o u,H b=some (.frz o u)→H' b=some (.frz o u)
  tbls:∀ b ps,H b=some (.tbl ps)→∃ more,H' b=some (.tbl (ps++more))
section
variable {fs fs' ex ex':List Addr} {H H1 H2:Hp} {h h1 h2 h':Heap} {a x e:Addr} {o:HO}
theorem Un.any (u:Un fs ex H H1 h h1) {b:Addr} {ob:Obj} (q:h.get? b=some ob) (n:H b=none) (hx:b ∉ ex):∃ sl,h1.get? b=some { ob with slots:=sl }:=by
  by_cases hb:b∈fs
  · exact u.slot b ob q n hb hx
  · exact ⟨ob.slots,u.keep b ob q n hb hx⟩
theorem Un.kept (k:∀ b u,h.get? b=some u→h'.get? b=some u):Un fs ex H H h h' :=
  ⟨fun b ob q _ _ _=>k b ob q,fun b ob q _ _ _=>⟨ob.slots,k b ob q⟩,fun _ _ _ n _=>n,fun b ob q _=>⟨ob,k b ob q⟩,fun _ _ q=>q,fun _ _ _ q=>q,fun _ ps q=>⟨#[],by rw [q];simp⟩⟩
theorem Un.refl:Un fs ex H H h h:=Un.kept fun _ _ q=>q
theorem Un.laid (k:∀ b u,h.get? b=some u→h'.get? b=some u) (hp:h.objs.size≤a) (hn:H a=none):Un fs ex H (upd H a o) h h' where
  keep:=fun b u q _ _ _=>k b u q
  slot:=fun b u q _ _ _=>⟨u.slots,k b u q⟩
  free:=fun b u q n _=>by rw [upd_ne (Nat.ne_of_lt (Nat.lt_of_lt_of_le (Heap.lt_size q) hp))];exact n
  there:=fun b u q _=>⟨u,k b u q⟩
  tups:=fun b xs q=>by rw [upd_ne (ne_of_none q hn)];exact q
  frzs:=fun b u xs q=>by rw [upd_ne (ne_of_none q hn)];exact q
  tbls:=fun b ps q=>⟨#[],by rw [upd_ne (ne_of_none q hn),q];simp⟩
theorem Un.write (mu:Mut (H x)) (he:e=x∨H e=some (.own x)) (k:∀ b u,b≠e→h.get? b=some u→h'.get? b=some u) (heo:∃ u,h'.get? e=some u):Un fs ex H (upd H x o) h h':=by
  have hx:∀ b,H b=none→b≠x:=fun b n z=>by subst z;rw [n] at mu;exact mu
  have hb:∀ b,H b=none→b≠e:=fun b n z=>by
    subst z
    rcases he with r | r
    · exact hx b n r
    · rw [n] at r;cases r
  have hm:∀ b u,H b=some u→¬ Mut (some u)→b≠x:=fun b u q nm z=>by subst z;rw [q] at mu;exact nm mu
  refine ⟨fun b u q n _ _=>k b u (hb b n) q,fun b u q n _ _=>⟨u.slots,k b u (hb b n) q⟩,fun b u q n _=>by rw [upd_ne (hx b n)];exact n,fun b u q _=>?_,
    fun b xs q=>by rw [upd_ne (hm b _ q fun z=>z)];exact q,fun b u xs q=>by rw [upd_ne (hm b _ q fun z=>z)];exact q,fun b ps q=>⟨#[],by rw [upd_ne (hm b _ q fun z=>z),q];simp⟩⟩
  by_cases hbe:b=e
  · subst hbe;exact heo
  · exact ⟨u,k b u hbe q⟩
end
def trk (h:Heap) (H:Hp):List Addr:=(List.range h.objs.size).filter fun a=>(H a).isSome
def hidT (h:Heap) (H:Hp):Heap:=PySem.W.hideAll h (trk h H)
theorem hidT_size (h:Heap) (H:Hp):(hidT h H).objs.size=h.objs.size:=PySem.W.hideAll_size _ _
theorem hidT_get {h:Heap} {H:Hp} {b:Addr} {o:Obj} (e:h.get? b=some o) (n:H b=none):(hidT h H).get? b=some o :=
  PySem.W.hideAll_get _ e fun hm=>by
    have q:(H b).isSome=true:=(List.mem_filter.mp hm).2
    rw [n] at q;simp at q
theorem of_hidT {h:Heap} {H:Hp} {b:Addr} {o:Obj} (e:(hidT h H).get? b=some o):h.get? b=some o∧H b=none:=by
  have e':h.get? b=some o:=PySem.W.of_hideAll (trk h H) e
  refine ⟨e',?_⟩
  cases q:H b with
  | none=>rfl
  | some x =>
    have hm:b∈trk h H:=List.mem_filter.mpr ⟨List.mem_range.mpr (Heap.lt_size e'),by simp [q]⟩
    have z:(hidT h H).get? b=none:=PySem.W.hideAll_none (trk h H) hm
    rw [z] at e;cases e
end L2
namespace L2
open PySem PySem.Spec PyProof.Rows
structure Mod (K:PySem.W.Frag) (mg:Str→Option Value) (base:Heap):Prop where
  kin:K.In base
  glob:base.Ns mainGlobals mg
  blt:∃ mb,base.Ns builtinsNs mb∧∀ x:Str,x≠"__name__"→mb x=bootBuiltins x
  nolimit:base.NoLimit
structure Cx where
  prog:Program
  w:World
  K:PySem.W.Frag
  mg:Str→Option Value
  base:Heap
  A:Around
  N:List Str
  s₀:Shared
  H₀:Hp
  env:Env
  outer:List Env
  stack:List Env
  ex:List Addr
  fn:Str→Bool
  calm:Bool
  pn:List (Addr × Obj)
  xe:Value→Shared→Prop
def frs (l:List Env):List Addr:=l.filterMap (·.frame)
abbrev Cx.fs (X:Cx):List Addr:=frs X.outer
def Vis (sc:Scope) (x:Str):Prop:=sc.names.lookup x=some .local∨sc.names.lookup x=some .cell∨sc.names.lookup x=some .free
def Loc (sc:Scope) (x:Str):Prop:=sc.names.lookup x=some .local∨sc.names.lookup x=some .cell
def Look (env:Env) (h:Heap) (m:Str→Option Value) (x:Str) (u:Value):Prop :=
  (env.kindOf x=some .local∧m x=some u)∨((env.kindOf x=some .cell∨env.kindOf x=some .free)∧∃ c,env.cells.lookup x=some c∧h.IsCell c (some u))
structure Cx.Ok (X:Cx):Prop where
  mod:Mod X.K X.mg X.base
  kind:X.env.scope.kind=.function
  glob:X.env.globals=mainGlobals
  blt:X.env.builtins=builtinsNs
  above:X.s₀.heap.objs.size≤X.env.locals
  inj:∀ x y c,X.env.cells.lookup x=some c→X.env.cells.lookup y=some c→x=y
  has:∀ x,(X.env.kindOf x=some .cell∨X.env.kindOf x=some .free)→∃ c,X.env.cells.lookup x=some c
  cab:∀ x c,X.fn x=true→X.env.cells.lookup x=some c→X.s₀.heap.objs.size≤c
  hd:X.calm=true→X.A.handled=none
  frames:X.A.frames=some X.stack
  stk:X.stack=X.outer∨(X.stack=X.env :: X.outer∧X.env.frame=some X.env.locals)
  exf:∀ b∈X.ex,b≠X.env.locals∧∀ x c,X.env.cells.lookup x=some c→c≠b
  bs:∀ b o,X.base.get? b=some o→X.s₀.heap.get? b=some o∧X.H₀ b=none
  bsz:X.base.objs.size≤X.s₀.heap.objs.size
  noex:∀ b o,X.base.get? b=some o→b ∉ X.ex
  exfs:∀ b∈X.ex,b ∉ X.fs
  funs:X.s₀.heap.FunFrames X.base X.outer
  frf:∀ b∈X.fs,X.H₀ b=none
structure Inv (X:Cx) (pins:List (Addr × Obj)) (σ:List (Option V)) (H:Hp) (s:Shared):Prop where
  ok:X.Ok
  os:s.os=X.s₀.os
  bare:AllBare s.gens
  base:Un X.fs X.ex X.H₀ H X.s₀.heap s.heap
  loc:∃ m,s.heap.Ns X.env.locals m∧∀ (i:Nat) (x:Str) (v:V),X.N[i]?=some x→σ[i]?=some (some v)→Vis X.env.scope x→∃ u,RelV v u∧Look X.env s.heap m x u
  cell:∀ x c,X.env.cells.lookup x=some c→∃ v,s.heap.IsCell c v
  free:H X.env.locals=none
  freeC:∀ x c,X.env.cells.lookup x=some c→H c=none
  pin:∀ p∈X.pn++pins,s.heap.get? p.1=some p.2∧H p.1=none∧p.1≠X.env.locals∧p.1 ∉ X.fs∧∀ v,p.2.data≠.cell v
  hok:HOk X.prog X.w H s.heap
  len:σ.length=X.N.length
section
variable {X:Cx} {pins:List (Addr × Obj)} {σ:List (Option V)} {H H':Hp} {s:Shared} {h':Heap}
theorem Cx.Ok.nofr (ok:X.Ok) {b:Addr} {o:Obj} (e:X.base.get? b=some o):b ∉ X.fs:=fun hb=>by
  have:=(ok.funs.mem hb).1
  rw [e] at this;cases this
theorem Inv.bs (I:Inv X pins σ H s):∀ b o,X.base.get? b=some o→s.heap.get? b=some o∧H b=none:=fun b o e =>
  ⟨I.base.keep b o (I.ok.bs b o e).1 (I.ok.bs b o e).2 (I.ok.nofr e) (I.ok.noex b o e),I.base.free b o (I.ok.bs b o e).1 (I.ok.bs b o e).2 (I.ok.noex b o e)⟩
theorem Inv.bk (I:Inv X pins σ H s):∀ b o,X.base.get? b=some o→s.heap.get? b=some o:=fun b o e=>(I.bs b o e).1
theorem Inv.mod (I:Inv X pins σ H s):Mod X.K X.mg X.base:=I.ok.mod
theorem Inv.kIn (I:Inv X pins σ H s):X.K.In s.heap:=I.ok.mod.kin.keeps I.bk
theorem Inv.nolimit (I:Inv X pins σ H s):s.heap.NoLimit:=I.ok.mod.nolimit.keeps I.bk
theorem Inv.lt (I:Inv X pins σ H s):X.env.locals<s.heap.objs.size:=let ⟨_,hn,_⟩:=I.loc;hn.lt
theorem Inv.sz (I:Inv X pins σ H s):X.s₀.heap.objs.size≤s.heap.objs.size:=Nat.le_trans I.ok.above (Nat.le_of_lt I.lt)
theorem Inv.nofs (I:Inv X pins σ H s) {a:Addr} (h:s.heap.objs.size≤a):a ∉ X.fs:=fun hb=>by
  obtain ⟨_,o,ho,_⟩:=I.ok.funs.mem hb
  exact absurd (Nat.lt_of_lt_of_le (Heap.lt_size ho) (Nat.le_trans I.sz h)) (Nat.lt_irrefl _)
theorem Inv.cne (I:Inv X pins σ H s):∀ x c,X.env.cells.lookup x=some c→c≠X.env.locals:=fun x c e z=>by
  obtain ⟨v,o,ho,hd⟩:=I.cell x c e
  obtain ⟨m,⟨o',es,ep,ho',hd',_⟩,_⟩:=I.loc
  rw [z,ho'] at ho;cases ho;rw [hd'] at hd;cases hd
theorem Inv.funs (I:Inv X pins σ H s):s.heap.FunFrames X.base X.outer:=by
  have all:∀ (l:List Env),(∀ b∈frs l,b∈X.fs)→X.s₀.heap.FunFrames X.base l→s.heap.FunFrames X.base l:=by
    intro l
    induction l with
    | nil=>intro _ _;trivial
    | cons env r ih =>
      intro hs hl
      obtain ⟨hk,⟨L,o,hf,hn,ho,hd⟩,hr⟩:=hl
      have hL:L∈X.fs:=hs L (by unfold frs;rw [List.filterMap_cons,hf];exact List.mem_cons_self)
      obtain ⟨sl,e⟩:=I.base.slot L o ho (I.ok.frf L hL) hL fun z=>I.ok.exfs L z hL
      exact ⟨hk,⟨L,_,hf,hn,e,hd⟩,ih (fun b hb=>hs b (by unfold frs;rw [List.filterMap_cons,hf];exact List.mem_cons_of_mem _ hb)) hr⟩
  exact all X.outer (fun _ hb=>hb) I.ok.funs
theorem Inv.stack (I:Inv X pins σ H s):s.heap.FunFrames X.base X.stack:=by
  rcases I.ok.stk with e | ⟨e,hf⟩
  · rw [e];exact I.funs
  · rw [e]
    obtain ⟨m,hn,_⟩:=I.loc
    refine .cons (by rw [I.ok.kind];decide) hf hn ?_ I.funs
    exact Heap.get?_none_of_le (Nat.le_trans I.ok.bsz I.ok.above)
theorem Inv.stkSub (I:Inv X pins σ H s):∀ b∈frs X.stack,b∈X.env.locals :: X.fs:=fun b hb=>by
  rcases I.ok.stk with e | ⟨e,hf⟩
  · rw [e] at hb;exact List.mem_cons_of_mem _ hb
  · rw [e] at hb
    unfold frs at hb
    rw [List.filterMap_cons,hf] at hb
    exact hb
theorem Inv.stkFree (I:Inv X pins σ H s):∀ b∈frs X.stack,H b=none:=fun b hb=>by
  rcases List.mem_cons.mp (I.stkSub b hb) with e | hb
  · rw [e];exact I.free
  · obtain ⟨_,o,ho,_⟩:=I.ok.funs.mem hb
    exact I.base.free b o ho (I.ok.frf b hb) fun z=>I.ok.exfs b z hb
theorem Inv.step {g':Array GenState} {t':Nat} {d':Drawn} {ch:List Addr} (I:Inv X pins σ H s)
    (hch:∀ b∈ch,(b∈X.ex∨X.s₀.heap.objs.size≤b)∧b≠X.env.locals∧(∀ x c,X.env.cells.lookup x=some c→c≠b)∧∀ p∈X.pn++pins,p.1≠b)
    (keep:∀ b o,b≠X.env.locals→b ∉ X.fs→b ∉ ch→s.heap.get? b=some o→H b=none→h'.get? b=some o)
    (slot:∀ b o,b≠X.env.locals→b∈X.fs→b ∉ ch→s.heap.get? b=some o→H b=none→∃ sl,h'.get? b=some { o with slots:=sl }) (free:∀ b o,b ∉ ch→s.heap.get? b=some o→H b=none→H' b=none)
    (there:∀ b o,b ∉ ch→s.heap.get? b=some o→∃ o',h'.get? b=some o')
    (tups:∀ b xs,H b=some (.tup xs)→H' b=some (.tup xs)) (frzs:∀ b o u,H b=some (.frz o u)→H' b=some (.frz o u)) (tbls:∀ b ps,H b=some (.tbl ps)→∃ more,H' b=some (.tbl (ps++more)))
    (ns:∀ m,s.heap.Ns X.env.locals m→h'.Ns X.env.locals m) (hok:HOk X.prog X.w H' h') (hg:AllBare g') :
    Inv X pins σ H' { s with heap:=h',gens:=g',drawn:=d',toks:=t' }:=by
  have neL:∀ b o,X.s₀.heap.get? b=some o→b≠X.env.locals:=fun b o e=>Nat.ne_of_lt (Nat.lt_of_lt_of_le (Heap.lt_size e) I.ok.above)
  have neC:∀ b o,X.s₀.heap.get? b=some o→b ∉ X.ex→b ∉ ch:=fun b o e hx hb=>by
    rcases (hch b hb).1 with z | z
    · exact hx z
    · exact absurd (Nat.lt_of_lt_of_le (Heap.lt_size e) z) (Nat.lt_irrefl _)
  have cellK:∀ x c,X.env.cells.lookup x=some c→∀ v,s.heap.IsCell c v→h'.IsCell c v:=fun x c e v ⟨o,ho,hd⟩=>by
    have nch:c ∉ ch:=fun z=>(hch c z).2.2.1 x c e rfl
    by_cases hc:c∈X.fs
    · obtain ⟨sl,q⟩:=slot c o (I.cne x c e) hc nch ho (I.freeC x c e)
      exact ⟨_,q,hd⟩
    · exact ⟨o,keep c o (I.cne x c e) hc nch ho (I.freeC x c e),hd⟩
  refine ⟨I.ok,I.os,hg,⟨fun b o e n hb hx=>?_,fun b o e n hb hx=>?_,fun b o e n hx=>?_,fun b o e hx=>?_,fun b xs e=>tups b xs (I.base.tups b xs e),fun b o xs e=>frzs b o xs (I.base.frzs b o xs e),fun b ps e=>?_⟩,?_,fun x c e=>?_,?_,fun x c e=>?_,fun p hp=>?_,hok,I.len⟩
  · exact keep b o (neL b o e) hb (neC b o e hx) (I.base.keep b o e n hb hx) (I.base.free b o e n hx)
  · obtain ⟨sl,e1⟩:=I.base.slot b o e n hb hx
    obtain ⟨sl',e2⟩:=slot b _ (neL b o e) hb (neC b o e hx) e1 (I.base.free b o e n hx)
    exact ⟨sl',e2⟩
  · obtain ⟨o',e1⟩:=I.base.there b o e hx
    exact free b o' (neC b o e hx) e1 (I.base.free b o e n hx)
  · obtain ⟨o',e1⟩:=I.base.there b o e hx
    exact there b o' (neC b o e hx) e1
  · obtain ⟨m1,e1⟩:=I.base.tbls b ps e
    obtain ⟨m2,e2⟩:=tbls b _ e1
    exact ⟨m1++m2,by rw [e2,Array.append_assoc]⟩
  · obtain ⟨m,hn,hl⟩:=I.loc
    refine ⟨m,ns m hn,fun i x v e1 e2 e3=>?_⟩
    obtain ⟨u,r,l⟩:=hl i x v e1 e2 e3
    refine ⟨u,r,?_⟩
    rcases l with l | ⟨k,c,e,z⟩
    · exact .inl l
    · exact .inr ⟨k,c,e,cellK x c e _ z⟩
  · obtain ⟨v,z⟩:=I.cell x c e
    exact ⟨v,cellK x c e v z⟩
  · obtain ⟨m,⟨o,_,_,ho,_⟩,_⟩:=I.loc
    exact free _ o (fun z=>(hch _ z).2.1 rfl) ho I.free
  · obtain ⟨v,o,ho,hd⟩:=I.cell x c e
    exact free c o (fun z=>(hch c z).2.2.1 x c e rfl) ho (I.freeC x c e)
  · obtain ⟨e,n,ne,nf,d⟩:=I.pin p hp
    have nch:p.1 ∉ ch:=fun z=>(hch p.1 z).2.2.2 p hp rfl
    exact ⟨keep p.1 p.2 ne nf nch e n,free p.1 p.2 nch e n,ne,nf,d⟩
theorem Inv.un {t':Nat} (I:Inv X pins σ H s) (u:Un X.fs [] H H' s.heap h') (hok:HOk X.prog X.w H' h'):Inv X pins σ H' { s with heap:=h',toks:=t' }:=by
  obtain ⟨m,⟨o,es,ep,ho,r⟩,_⟩:=id I.loc
  obtain ⟨sl,hL⟩:=u.any ho I.free (by simp)
  exact I.step (g':=s.gens) (d':=s.drawn) (ch:=[]) (fun _ z=>nomatch z) (fun b o _ hb _ e n=>u.keep b o e n hb (by simp)) (fun b o _ hb _ e n=>u.slot b o e n hb (by simp)) (fun b o _ e n=>u.free b o e n (by simp)) (fun b o _ e=>u.there b o e (by simp)) u.tups u.frzs u.tbls (fun m' hm=>by
    obtain ⟨o',es',ep',ho',r'⟩:=hm
    rw [ho] at ho';cases ho'
    exact ⟨_,es',ep',hL,r'⟩) hok I.bare
theorem Inv.call {g':Array GenState} {t':Nat} {d':Drawn} {ch:List Addr} (I:Inv X pins σ H s) (u:Un (frs X.stack) ch H H' s.heap h') (hok:HOk X.prog X.w H' h') (hg:AllBare g')
    (hch:∀ b∈ch,(b∈X.ex∨X.s₀.heap.objs.size≤b)∧b≠X.env.locals∧(∀ x c,X.env.cells.lookup x=some c→c≠b)∧∀ p∈X.pn++pins,p.1≠b) :
    Inv X pins σ H' { s with heap:=h',gens:=g',drawn:=d',toks:=t' }:=by
  obtain ⟨m,⟨o,es,ep,ho,r⟩,_⟩:=id I.loc
  obtain ⟨sl,hL⟩:=u.any ho I.free fun z=>(hch _ z).2.1 rfl
  exact I.step (ch:=ch) hch (fun b o hL hb hc e n=>u.keep b o e n (fun z=>(List.mem_cons.mp (I.stkSub b z)).elim hL hb) hc) (fun b o _ _ hc e n=>u.any e n hc) (fun b o hc e n=>u.free b o e n hc) (fun b o hc e=>u.there b o e hc) u.tups u.frzs u.tbls (fun m' hm=>by
    obtain ⟨o',es',ep',ho',r'⟩:=hm
    rw [ho] at ho';cases ho'
    exact ⟨_,es',ep',hL,r'⟩) hok hg
theorem Inv.turned {t':Nat} {it:Addr} (I:Inv X pins σ H s) (k:∀ b o,b≠it→s.heap.get? b=some o→h'.get? b=some o) (hn:H it=none) (hL:it≠X.env.locals)
    (h1:it∈X.ex∨X.s₀.heap.objs.size≤it) (h2:∀ x c,X.env.cells.lookup x=some c→c≠it) (h3:∀ p∈X.pn++pins,p.1≠it):Inv X pins σ H { s with heap:=h',toks:=t' }:=by
  have nit:∀ b u,H b=some u→b≠it:=fun b u e z=>by rw [z,hn] at e;cases e
  refine I.step (g':=s.gens) (d':=s.drawn) (ch:=[it]) (fun b hb=>?_) (fun b o _ _ hc e _=>k b o (fun z=>hc (by simp [z])) e) (fun b o _ _ hc e _=>⟨o.slots,k b o (fun z=>hc (by simp [z])) e⟩) (fun _ _ _ _ n=>n)
    (fun b o hc e=>⟨o,k b o (fun z=>hc (by simp [z])) e⟩) (fun _ _ e=>e) (fun _ _ _ e=>e) (fun b ps e=>⟨#[],by rw [e];simp⟩) (fun m hm=>?_) (fun b u e=>?_) I.bare
  · have e:b=it:=by simpa using hb
    subst e
    exact ⟨h1,hL,h2,h3⟩
  · obtain ⟨o,es,ep,ho,r⟩:=hm
    exact ⟨o,es,ep,k _ o (Ne.symm hL) ho,r⟩
  · refine (I.hok b u e).stay (fun c v hc q=>k c v ?_ q) (fun _ q=>q) fun _ _ q=>q
    rcases hc with z | z
    · rw [z];exact nit b u e
    · exact nit c _ z
theorem Inv.tok (I:Inv X pins σ H s) (t:Nat):Inv X pins σ H { s with toks:=t }:=I.un (h':=s.heap) (t':=t) Un.refl I.hok
theorem Inv.kept {t':Nat} (I:Inv X pins σ H s) (k:∀ b u,s.heap.get? b=some u→h'.get? b=some u):Inv X pins σ H { s with heap:=h',toks:=t' }:=I.un (Un.kept k) (I.hok.kept k)
theorem Inv.laid {a:Addr} {o:HO} {t':Nat} (I:Inv X pins σ H s) (k:∀ b u,s.heap.get? b=some u→h'.get? b=some u) (hp:s.heap.objs.size≤a) (new:ObjOk X.prog X.w (upd H a o) h' a o) :
    Inv X pins σ (upd H a o) { s with heap:=h',toks:=t' }:=I.un (Un.laid k hp (I.hok.fresh hp)) (I.hok.laid k hp new)
theorem Inv.write {x e:Addr} {o:HO} {t':Nat} (I:Inv X pins σ H s) (mu:Mut (H x)) (he:e=x∨H e=some (.own x)) (k:∀ b u,b≠e→s.heap.get? b=some u→h'.get? b=some u) (heo:∃ u,h'.get? e=some u)
    (new:ObjOk X.prog X.w (upd H x o) h' x o):Inv X pins σ (upd H x o) { s with heap:=h',toks:=t' }:=I.un (Un.write mu he k heo) (I.hok.write mu he k heo new)
theorem Inv.pins_of {pins':List (Addr × Obj)} (I:Inv X pins σ H s) (h:∀ p∈pins',s.heap.get? p.1=some p.2∧H p.1=none∧p.1≠X.env.locals∧p.1 ∉ X.fs∧∀ v,p.2.data≠.cell v):Inv X pins' σ H s :=
  ⟨I.ok,I.os,I.bare,I.base,I.loc,I.cell,I.free,I.freeC,fun p hp=>(List.mem_append.mp hp).elim (fun z=>I.pin p (List.mem_append_left _ z)) (h p),I.hok,I.len⟩
theorem nodup_ix {N:List Str} (hN:N.Nodup) {i j:Nat} {x:Str} (a:N[i]?=some x) (b:N[j]?=some x):i=j:=by
  obtain ⟨h1,e1⟩:=List.getElem?_eq_some_iff.mp a
  obtain ⟨h2,e2⟩:=List.getElem?_eq_some_iff.mp b
  exact (List.getElem_inj hN).mp (e1.trans e2.symm)
theorem store_ok2 {M:Model} {A:Around} {E:Value→Shared→Prop} {i:Nat} {x:Str} {v:V} {u:Value} {Q:Unit→Shared→Prop} (I:Inv X pins σ H s) (hN:X.N.Nodup) (hi:X.N[i]?=some x) (hx:Loc X.env.scope x) (r:RelV v u)
    (h:∀ s',Inv X pins (σ.set i (some v)) H s'→(∃ a,Heap.SameBut a s.heap s'.heap∧(a=X.env.locals∨X.env.cells.lookup x=some a))→Q () s') (hf:X.fn x=true∨X.env.scope.names.lookup x=some .local:=by first | exact .inl rfl | exact .inr rfl | assumption):wpAny M A (storeName X.env x u) Q E s:=by
  obtain ⟨m,hn,hl⟩:=id I.loc
  have hcls:(X.env.scope.kind == .class || (X.env.scope.kind == .module && X.env.locals != X.env.globals))=false:=by rw [I.ok.kind];rfl
  have hiσ:i<σ.length:=by rw [I.len];exact (List.getElem?_eq_some_iff.mp hi).1
  have cne:=I.cne
  have tracked:∀ {a:Addr} {h':Heap},(∃ o,s.heap.get? a=some o∧H a=none)→Heap.SameBut a s.heap h'→HOk X.prog X.w H h':=fun {a h'} ha hs b ob e=>by
    obtain ⟨_,_,hfree⟩:=ha
    refine (I.hok b ob e).stay (fun c w' hc q=>(hs.2 c ?_).trans q) (fun _ q=>q) fun _ _ q=>q
    rintro rfl
    rcases hc with rfl | hc
    · rw [hfree] at e;cases e
    · rw [hfree] at hc;cases hc
  rcases hx with hk | hk
  · refine wpAny_storeName_local hk hn (fun h' hn' hs=>?_) hcls
    obtain ⟨oL,_,_,hoL,_⟩:=id hn
    refine h _ ⟨I.ok,I.os,I.bare,⟨fun b o e n hb hx=>?_,fun b o e n hb hx=>?_,I.base.free,fun b o e hx=>?_,I.base.tups,I.base.frzs,I.base.tbls⟩,⟨_,hn',fun j y v' e1 e2 e3=>?_⟩,fun y c e=>?_,I.free,I.freeC,fun p hp=>?_,tracked ⟨oL,hoL,I.free⟩ hs,by simpa using I.len⟩ ⟨_,hs,.inl rfl⟩
    · exact (hs.2 b (Nat.ne_of_lt (Nat.lt_of_lt_of_le (Heap.lt_size e) I.ok.above))).trans (I.base.keep b o e n hb hx)
    · obtain ⟨sl,e1⟩:=I.base.slot b o e n hb hx
      exact ⟨sl,(hs.2 b (Nat.ne_of_lt (Nat.lt_of_lt_of_le (Heap.lt_size e) I.ok.above))).trans e1⟩
    · obtain ⟨o',e1⟩:=I.base.there b o e hx
      exact ⟨o',(hs.2 b (Nat.ne_of_lt (Nat.lt_of_lt_of_le (Heap.lt_size e) I.ok.above))).trans e1⟩
    · by_cases hj:j=i
      · subst hj
        rw [hi] at e1;cases e1
        rw [List.getElem?_set_self hiσ] at e2
        cases e2
        exact ⟨u,r,.inl ⟨hk,by simp⟩⟩
      · rw [List.getElem?_set_ne (Ne.symm hj)] at e2
        obtain ⟨u',r',q⟩:=hl j y v' e1 e2 e3
        refine ⟨u',r',?_⟩
        rcases q with ⟨k,e⟩ | ⟨k,c,e,z⟩
        · refine .inl ⟨k,?_⟩
          have:y≠x:=fun e=>hj (nodup_ix hN e1 (e ▸ hi))
          simp [this,e]
        · exact .inr ⟨k,c,e,z.sameBut hs (cne y c e)⟩
    · obtain ⟨w',z⟩:=I.cell y c e
      exact ⟨w',z.sameBut hs (cne y c e)⟩
    · obtain ⟨e,n,ne,nf,d⟩:=I.pin p hp
      exact ⟨(hs.2 p.1 ne).trans e,n,ne,nf,d⟩
  · have hfn:X.fn x=true:=by
      rcases hf with z | z
      · exact z
      · rw [z] at hk;cases hk
    obtain ⟨c,hc⟩:=I.ok.has x (.inl hk)
    obtain ⟨w',z⟩:=I.cell x c hc
    refine wpAny_storeName_cell I.ok.kind hk hc z (fun h' hc' hs=>?_)
    obtain ⟨oc,hoc,hocd⟩:=id z
    refine h { s with heap:=h' } ⟨I.ok,I.os,I.bare,⟨fun b o e n hb hx=>?_,fun b o e n hb hx=>?_,I.base.free,fun b o e hx=>?_,I.base.tups,I.base.frzs,I.base.tbls⟩,⟨m,hn.sameBut hs (Ne.symm (cne x c hc)),fun j y v' e1 e2 e3=>?_⟩,fun y c' e=>?_,I.free,I.freeC,fun p hp=>?_,tracked ⟨oc,hoc,I.freeC x c hc⟩ hs,by simpa using I.len⟩ ⟨c,hs,.inr hc⟩
    · exact (hs.2 b (Nat.ne_of_lt (Nat.lt_of_lt_of_le (Heap.lt_size e) (I.ok.cab x c hfn hc)))).trans (I.base.keep b o e n hb hx)
    · obtain ⟨sl,e1⟩:=I.base.slot b o e n hb hx
      exact ⟨sl,(hs.2 b (Nat.ne_of_lt (Nat.lt_of_lt_of_le (Heap.lt_size e) (I.ok.cab x c hfn hc)))).trans e1⟩
    · obtain ⟨o',e1⟩:=I.base.there b o e hx
      exact ⟨o',(hs.2 b (Nat.ne_of_lt (Nat.lt_of_lt_of_le (Heap.lt_size e) (I.ok.cab x c hfn hc)))).trans e1⟩
    · by_cases hj:j=i
      · subst hj
        rw [hi] at e1;cases e1
        rw [List.getElem?_set_self hiσ] at e2
        cases e2
        exact ⟨u,r,.inr ⟨.inl hk,c,hc,hc'⟩⟩
      · rw [List.getElem?_set_ne (Ne.symm hj)] at e2
        obtain ⟨u',r',q⟩:=hl j y v' e1 e2 e3
        refine ⟨u',r',?_⟩
        rcases q with q | ⟨k,c',e,z'⟩
        · exact .inl q
        · refine .inr ⟨k,c',e,z'.sameBut hs ?_⟩
          rintro rfl
          exact hj (nodup_ix hN e1 (I.ok.inj _ _ _ e hc ▸ hi))
    · by_cases hcc:c'=c
      · subst hcc;exact ⟨_,hc'⟩
      · obtain ⟨w2,z2⟩:=I.cell y c' e
        exact ⟨w2,z2.sameBut hs hcc⟩
    · obtain ⟨e,n,ne,nf,d⟩:=I.pin p hp
      refine ⟨(hs.2 p.1 ?_).trans e,n,ne,nf,d⟩
      intro q
      rw [q,hoc] at e
      have q':oc=p.2:=Option.some.inj e
      exact d w' (by rw [← q'];exact hocd)
theorem store_ok {M:Model} {A:Around} {E:Value→Shared→Prop} {i:Nat} {x:Str} {v:V} {u:Value} {Q:Unit→Shared→Prop} (I:Inv X pins σ H s) (hN:X.N.Nodup) (hi:X.N[i]?=some x) (hx:Loc X.env.scope x) (r:RelV v u)
    (h:∀ s',Inv X pins (σ.set i (some v)) H s'→Q () s') (hf:X.fn x=true∨X.env.scope.names.lookup x=some .local:=by first | exact .inl rfl | exact .inr rfl | assumption):wpAny M A (storeName X.env x u) Q E s :=
  store_ok2 I hN hi hx r (fun s' I' _=>h s' I') hf
theorem Inv.call' {s':Shared} {ch:List Addr} (I:Inv X pins σ H s) (ho:s'.os=s.os) (u:Un (frs X.stack) ch H H' s.heap s'.heap) (hok:HOk X.prog X.w H' s'.heap) (hg:AllBare s'.gens)
    (hch:∀ b∈ch,(b∈X.ex∨X.s₀.heap.objs.size≤b)∧b≠X.env.locals∧(∀ x c,X.env.cells.lookup x=some c→c≠b)∧∀ p∈X.pn++pins,p.1≠b):Inv X pins σ H' s':=by
  obtain ⟨h',g',d',t',o'⟩:=s'
  have e:o'=s.os:=ho
  subst e
  exact I.call (g':=g') (t':=t') (d':=d') u hok hg hch
end
abbrev XK:=Value→Option Addr→Hp→Prop
abbrev St:=List (Option V)
abbrev VK:=V→Hp→Prop
abbrev TE:=St→Hp→VK→Prop
abbrev TT:=St→Hp→(Bool→Hp→Prop)→Prop
abbrev TA:=St→Hp→(List V→Hp→Prop)→Prop
structure Ends where
  nx:St→Hp→Prop
  rt:VK
  bk:St→Hp→Prop:=fun _ _=>False
  ct:St→Hp→Prop:=fun _ _=>False
abbrev TS:=Ends→St→Hp→Prop
def EP (X:Cx) (pins:List (Addr × Obj)) (σ:St) (Q:VK) (u:Value) (s':Shared):Prop:=∃ v H',Inv X pins σ H' s'∧RelV v u∧Q v H'
def TP (X:Cx) (pins:List (Addr × Obj)) (σ:St) (Q:Bool→Hp→Prop) (b:Bool) (s':Shared):Prop:=∃ H',Inv X pins σ H' s'∧Q b H'
def AP (X:Cx) (pins:List (Addr × Obj)) (σ:St) (Q:List V→Hp→Prop) (us:List Value) (s':Shared):Prop:=∃ vs H',Inv X pins σ H' s'∧Vals vs us∧Q vs H'
def SP (X:Cx) (pins:List (Addr × Obj)) (D:Ends) (f:Flow) (s':Shared):Prop :=
  match f with
  | .next=>∃ σ' H',Inv X pins σ' H' s'∧D.nx σ' H'
  | .brk=>∃ σ' H',Inv X pins σ' H' s'∧D.bk σ' H'
  | .cont=>∃ σ' H',Inv X pins σ' H' s'∧D.ct σ' H'
  | .ret u=>∃ v σ' H',Inv X pins σ' H' s'∧RelV v u∧D.rt v H'
def PE (X:Cx) (e:Expr) (t:TE):Prop :=
  ∀ (pins:List (Addr × Obj)) (s:Shared) (σ:St) (H:Hp) (Q:VK),Inv X pins σ H s→t σ H Q→wpAny (model X.prog X.w) X.A (eval e X.env) (EP X pins σ Q) X.xe s
def PT (X:Cx) (e:Expr) (t:TT):Prop :=
  ∀ (pins:List (Addr × Obj)) (s:Shared) (σ:St) (H:Hp) (Q:Bool→Hp→Prop),Inv X pins σ H s→t σ H Q→wpAny (model X.prog X.w) X.A (isTrue e X.env (eval e X.env)) (TP X pins σ Q) X.xe s
def PW (X:Cx) (e:Expr) (t:TT):Prop :=
  ∀ (whole:Sem Value) (pins:List (Addr × Obj)) (s:Shared) (σ:St) (H:Hp) (Q:Bool→Hp→Prop),Inv X pins σ H s→t σ H Q→wpAny (model X.prog X.w) X.A (isTrue e X.env whole) (TP X pins σ Q) X.xe s
theorem PW.pt {X:Cx} {e:Expr} {t:TT} (h:PW X e t):PT X e t:=h _
def PA (X:Cx) (es:List Expr) (t:TA):Prop :=
  ∀ (pos:Pos) (pins:List (Addr × Obj)) (s:Shared) (σ:St) (H:Hp) (Q:List V→Hp→Prop),Inv X pins σ H s→t σ H Q→wpAny (model X.prog X.w) X.A (spliced (backTo pos (starEach es X.env))) (AP X pins σ Q) X.xe s
def PS (X:Cx) (st:Stmt) (t:TS):Prop :=
  ∀ (pins:List (Addr × Obj)) (s:Shared) (σ:St) (H:Hp) (D:Ends),Inv X pins σ H s→t D σ H→wpAny (model X.prog X.w) X.A (exec st X.env) (SP X pins D) X.xe s
def PSs (X:Cx) (st:List Stmt) (t:TS):Prop :=
  ∀ (pins:List (Addr × Obj)) (s:Shared) (σ:St) (H:Hp) (D:Ends),Inv X pins σ H s→t D σ H→wpAny (model X.prog X.w) X.A (execs st X.env) (SP X pins D) X.xe s
theorem thn {α:Type} {t:Sem α} {Q Q':α→Shared→Prop} {M:Model} {A:Around} {E:Value→Shared→Prop} {s:Shared} (h:wpAny M A t Q E s) (hQ:∀ a s,Q a s→Q' a s):wpAny M A t Q' E s:=wpAny_mono h hQ fun _ _ x=>x
end L2
namespace L2
open PySem PySem.Spec PyProof.Rows
section
variable {X:Cx}
def tVar (i:Nat):TE:=fun σ H Q=>∃ v,σ[i]?=some (some v)∧Q v H
def tC (v:V):TE:=fun _ H Q=>Q v H
theorem pe_var {i:Nat} {x:Str} {pos:Pos} (hN:X.N[i]?=some x) (hv:Vis X.env.scope x) (hd:(x == ("__debug__":Str))=false:=by decide) (hcd:(x == ("__classdict__":Str))=false:=by decide):PE X (.Name x pos) (tVar i):=by
  intro pins s σ H Q I h
  obtain ⟨v,e,h⟩:=h
  obtain ⟨m,hn,hl⟩:=I.loc
  obtain ⟨u,r,l⟩:=hl i x v hN e hv
  have fin:EP X pins σ Q u s:=⟨v,H,I,r,h⟩
  rcases l with ⟨hk,hm⟩ | ⟨hk,c,hc,hcell⟩
  · exact wpAny_Name (wpAny_loadName_local I.ok.kind hk hn hm fin) hd
  · rcases hk with hk | hk
    · exact wpAny_Name (wpAny_loadName_cell I.ok.kind hk hc hcell fin) hd
    · exact wpAny_Name (wpAny_loadName_free I.ok.kind hk hc hcell fin hcd) hd
theorem pe_int {i j pos}:PE X (.Constant (.int i) j pos) (tC (.int i)):=fun _ _ _ H _ I h=>wpAny_Constant_int ⟨.int i,H,I.tok _,⟨_,rfl⟩,h⟩
theorem pe_bl {b j pos}:PE X (.Constant (.bool b) j pos) (tC (.bl b)):=fun _ _ _ H _ I h=>Constant_bool ⟨.bl b,H,I,rfl,h⟩
def Gl (X:Cx) (x:Str):Prop:=X.env.kindOf x=some .globalImplicit
theorem ld_glob {E:Value→Shared→Prop} {pins:List (Addr × Obj)} {s:Shared} {σ:St} {H:Hp} {x:Str} {u:Value} {pos:Pos} {Q:Value→Shared→Prop} (I:Inv X pins σ H s) (hg:Gl X x) (hm:X.mg x=some u) (h:Q u s)
    (hd:(x == ("__debug__":Str))=false:=by decide):wpAny (model X.prog X.w) X.A (eval (.Name x pos) X.env) Q E s :=
  Calls.Name_function_global I.ok.kind hg (Calls.loadGlobal_global (by rw [I.ok.glob];exact I.mod.glob.keeps I.bk) hm h) hd
theorem ld_blt {E:Value→Shared→Prop} {pins:List (Addr × Obj)} {s:Shared} {σ:St} {H:Hp} {x:Str} {u:Value} {pos:Pos} {Q:Value→Shared→Prop} (I:Inv X pins σ H s) (hg:Gl X x) (hm:X.mg x=none) (hv:bootBuiltins x=some u) (h:Q u s)
    (hn:x≠"__name__":=by decide) (hd:(x == ("__debug__":Str))=false:=by decide):wpAny (model X.prog X.w) X.A (eval (.Name x pos) X.env) Q E s:=by
  obtain ⟨mb,h1,h2⟩:=I.mod.blt
  exact Calls.Name_function_global I.ok.kind hg (Calls.loadGlobal_builtin (by rw [I.ok.glob];exact I.mod.glob.keeps I.bk) hm (by rw [I.ok.blt];exact h1.keeps I.bk) ((h2 x hn).trans hv) h) hd
theorem pe_glob {x:Str} {v:V} {u:Value} {pos:Pos} (hg:Gl X x) (hm:X.mg x=some u) (r:RelV v u) (hd:(x == ("__debug__":Str))=false:=by decide):PE X (.Name x pos) (tC v) :=
  fun _ _ _ H _ I h=>ld_glob I hg hm ⟨v,H,I,r,h⟩ hd
theorem pe_bltn {x:Str} {v:V} {u:Value} {pos:Pos} (hg:Gl X x) (hm:X.mg x=none) (hv:bootBuiltins x=some u) (r:RelV v u) (hn:x≠"__name__":=by decide) (hd:(x == ("__debug__":Str))=false:=by decide):PE X (.Name x pos) (tC v) :=
  fun _ _ _ H _ I h=>ld_blt I hg hm hv ⟨v,H,I,r,h⟩ hn hd
def t2I (ta tb:TE) (k:Int→Int→Hp→Prop):St→Hp→Prop:=fun σ H=>ta σ H fun x H1=>tb σ H1 fun y H2=>∃ i j,x=.int i∧y=.int j∧k i j H2
variable {a b:Expr} {ta tb:TE} {pos:Pos}
def tCmp (p:Int→Int→Bool) (ta tb:TE):TE:=fun σ H Q=>t2I ta tb (fun i j H2=>Q (.bl (p i j)) H2) σ H
abbrev tLt:TE→TE→TE:=tCmp fun i j=>decide (i<j)
abbrev tLe:TE→TE→TE:=tCmp fun i j=>decide (i≤j)
abbrev tGt:TE→TE→TE:=tCmp fun i j=>decide (j<i)
abbrev tGe:TE→TE→TE:=tCmp fun i j=>decide (j≤i)
abbrev tEqI:TE→TE→TE:=tCmp fun i j=>decide (i=j)
abbrev tNeI:TE→TE→TE:=tCmp fun i j=>!decide (i=j)
def tB (t:TE):TT:=fun σ H Q=>t σ H fun x H1=>∃ c,x=.bl c∧Q c H1
theorem pt_val {e:Expr} {t:TE} (h:PE X e t) (he:∀ whole,isTrue e X.env whole=(do let v ← whole;standAt e.pos;holding [v] (truthy v)):=by intro _;rfl):PT X e (tB t):=by
  intro pins s σ H Q I hw
  refine isTrue_plain (thn (h pins s σ H _ I hw) fun v s1 ⟨x,H1,I1,r1,q1⟩=>?_) (he _)
  obtain ⟨d,rfl,q⟩:=q1
  cases r1
  exact wpAny_truthy_bool ⟨H1,I1,q⟩
variable {tA tB':TT} {rest:List Expr}
def tAnd (t u:TT):TT:=fun σ H Q=>t σ H fun c H1=>if c=true then u σ H1 Q else Q false H1
def tOr (t u:TT):TT:=fun σ H Q=>t σ H fun c H1=>if c=true then Q true H1 else u σ H1 Q
def tNot (t:TT):TT:=fun σ H Q=>t σ H fun c H1=>Q (!c) H1
theorem pw_and1 (ha:PT X a tA):PW X (.BoolOp .And [a] pos) tA:=by
  intro wh pins s σ H Q I h
  refine isTrue_and (thn (ha pins s σ H Q I h) fun c s1 e=>?_)
  cases c with
  | true=>exact isTrue_and_nil e
  | false=>exact e
theorem pw_or1 (ha:PT X a tA):PW X (.BoolOp .Or [a] pos) tA:=by
  intro wh pins s σ H Q I h
  refine isTrue_or (thn (ha pins s σ H Q I h) fun c s1 e=>?_)
  cases c with
  | false=>exact isTrue_or_nil e
  | true=>exact e
theorem pw_and (ha:PT X a tA) (hb:PW X (.BoolOp .And (b :: rest) pos) tB'):PW X (.BoolOp .And (a :: b :: rest) pos) (tAnd tA tB'):=by
  intro wh pins s σ H Q I h
  refine isTrue_and (thn (ha pins s σ H _ I h) fun c s1 ⟨H1,I1,q1⟩=>?_)
  cases c with
  | true=>exact hb wh pins s1 σ H1 Q I1 q1
  | false=>exact ⟨H1,I1,q1⟩
theorem pw_or (ha:PT X a tA) (hb:PW X (.BoolOp .Or (b :: rest) pos) tB'):PW X (.BoolOp .Or (a :: b :: rest) pos) (tOr tA tB'):=by
  intro wh pins s σ H Q I h
  refine isTrue_or (thn (ha pins s σ H _ I h) fun c s1 ⟨H1,I1,q1⟩=>?_)
  cases c with
  | true=>exact ⟨H1,I1,q1⟩
  | false=>exact hb wh pins s1 σ H1 Q I1 q1
theorem pt_not (ha:PT X a tA):PT X (.UnaryOp .Not a pos) (tNot tA):=by
  intro pins s σ H Q I h
  exact isTrue_not (ha pins s σ H (fun c H1=>Q (!c) H1) I h)
end
end L2
namespace L2
open PySem PySem.Spec PyProof.Rows
def SqL (K:PySem.W.Frag) (H:Hp) (a:Addr) (xs:List V):Prop :=
  Rd H a (.lst xs) ∨
    ∃ (o:Obj) (its:Array Value) (n:Nat),K.lookup a=some o∧o.cls=.type "list"∧o.dict=none∧o.data=.seq its n∧its.size≤sizeLine∧Vals xs its.toList
def SqT (K:PySem.W.Frag) (H:Hp) (a:Addr) (xs:List V):Prop :=
  Rd H a (.tup xs) ∨
    ∃ (o:Obj) (its:Array Value) (n:Nat),K.lookup a=some o∧o.cls=.type "tuple"∧o.data=.seq its n∧its.size≤sizeLine∧Vals xs its.toList
def absV:Value→Option V
  | .none=>some .non
  | .bool b=>some (.bl b)
  | .int i _=>some (.int i)
  | .str x _=>some (.str x)
  | .bytes b _=>some (.byt b)
  | .float b _=>some (.flt b)
  | .ref a=>some (.ref a)
  | .type n=>some (.ty n)
  | _=>none
theorem RelV.abs {x:V} {u:Value} (r:RelV x u):absV u=some x:=by
  cases x with
  | non=>cases r;rfl
  | bl _=>cases r;rfl
  | int _=>obtain ⟨t,rfl⟩:=r;rfl
  | str _=>obtain ⟨t,rfl⟩:=r;rfl
  | byt _=>obtain ⟨t,rfl⟩:=r;rfl
  | flt _=>obtain ⟨t,rfl⟩:=r;rfl
  | ref _=>cases r;rfl
  | ty _=>cases r;rfl
theorem RelV.inj {x y:V} {u:Value} (r:RelV x u) (q:RelV y u):x=y:=Option.some.inj (r.abs.symm.trans q.abs)
theorem Vals.inj:∀ {xs ys:List V} {us:List Value},Vals xs us→Vals ys us→xs=ys
  | _,_,_,.nil,.nil=>rfl
  | _,_,_,.cons r t,.cons r' t'=>by rw [r.inj r',Vals.inj t t']
section
variable {X:Cx} {pins:List (Addr × Obj)} {σ:St} {H:Hp} {s:Shared} {a:Addr} {xs ys:List V}
theorem SqL.of {K:PySem.W.Frag} (h:H a=some (.lst xs)):SqL K H a xs:=.inl (.inl h)
theorem SqT.of {K:PySem.W.Frag} (h:H a=some (.tup xs)):SqT K H a xs:=.inl (.inl h)
theorem Inv.list (I:Inv X pins σ H s) (h:SqL X.K H a xs):∃ its:List Value,Vals xs its∧PlainL s.heap a its.toArray∧xs.length≤sizeLine:=by
  rcases h with h | ⟨o,its,n,hk,hc,hd,hs,hz,r⟩
  · obtain ⟨z,its,n,r,e⟩:=h.ok I.hok
    exact ⟨its,r,⟨_,n,e,rfl,rfl,rfl⟩,z⟩
  · refine ⟨its.toList,r,⟨o,n,I.kIn a o hk,hc,hd,by simpa using hs⟩,?_⟩
    have e:=r.length
    simp only [Array.length_toList] at e
    omega
theorem Inv.tuple (I:Inv X pins σ H s) (h:SqT X.K H a xs):∃ its:List Value,Vals xs its∧IsTup s.heap a its.toArray∧xs.length≤sizeLine:=by
  rcases h with h | ⟨o,its,n,hk,hc,hs,hz,r⟩
  · obtain ⟨z,its,r,p⟩:=h.ok I.hok
    exact ⟨its,r,p,z⟩
  · refine ⟨its.toList,r,⟨o,I.kIn a o hk,hc,n,by simpa using hs⟩,?_⟩
    have e:=r.length
    simp only [Array.length_toList] at e
    omega
theorem Inv.list_inj (I:Inv X pins σ H s) (h:SqL X.K H a xs) (h':SqL X.K H a ys):xs=ys:=by
  obtain ⟨its,r,⟨o,n,e,_,_,d⟩,_⟩:=I.list h
  obtain ⟨its',r',⟨o',n',e',_,_,d'⟩,_⟩:=I.list h'
  rw [e] at e';cases e'
  rw [d] at d'
  injection d' with d1 _
  have:its=its':=by simpa using congrArg Array.toList d1
  subst this
  exact r.inj r'
end
abbrev Cx.wish (X:Cx) (E:Value→Shared→Prop):Cx:={ X with xe:=E }
abbrev Cx.nox (X:Cx):Cx:=X.wish fun _ _=>False
theorem Cx.Ok.wish {X:Cx} (ok:X.Ok) (E:Value→Shared→Prop):(X.wish E).Ok :=
  ⟨ok.mod,ok.kind,ok.glob,ok.blt,ok.above,ok.inj,ok.has,ok.cab,ok.hd,ok.frames,ok.stk,ok.exf,ok.bs,ok.bsz,ok.noex,ok.exfs,ok.funs,ok.frf⟩
theorem Cx.Ok.unwish {X:Cx} {E:Value→Shared→Prop} (ok:(X.wish E).Ok):X.Ok :=
  ⟨ok.mod,ok.kind,ok.glob,ok.blt,ok.above,ok.inj,ok.has,ok.cab,ok.hd,ok.frames,ok.stk,ok.exf,ok.bs,ok.bsz,ok.noex,ok.exfs,ok.funs,ok.frf⟩
section
variable {X:Cx} {pins:List (Addr × Obj)} {σ:St} {H:Hp} {s:Shared} {E:Value→Shared→Prop}
theorem Inv.wish (I:Inv X pins σ H s) (E:Value→Shared→Prop):Inv (X.wish E) pins σ H s:=⟨I.ok.wish E,I.os,I.bare,I.base,I.loc,I.cell,I.free,I.freeC,I.pin,I.hok,I.len⟩
theorem Inv.unwish (I:Inv (X.wish E) pins σ H s):Inv X pins σ H s:=⟨I.ok.unwish,I.os,I.bare,I.base,I.loc,I.cell,I.free,I.freeC,I.pin,I.hok,I.len⟩
theorem SP.unwish {D:Ends} {f:Flow} {s':Shared} (h:SP (X.wish E) pins D f s'):SP X pins D f s':=by
  cases f with
  | next=>obtain ⟨σ',H',I,q⟩:=h;exact ⟨σ',H',I.unwish,q⟩
  | brk=>obtain ⟨σ',H',I,q⟩:=h;exact ⟨σ',H',I.unwish,q⟩
  | cont=>obtain ⟨σ',H',I,q⟩:=h;exact ⟨σ',H',I.unwish,q⟩
  | ret u=>obtain ⟨v,σ',H',I,r,q⟩:=h;exact ⟨v,σ',H',I.unwish,r,q⟩
theorem PSs.nox {st:List Stmt} {t:TS} (h:PSs X.nox st t):PSs X st t:=fun pins s σ H D I hw =>
  wpAny_mono (h pins s σ H D (I.wish _) hw) (fun _ _ q=>q.unwish) fun _ _ z=>False.elim z
end
section
variable {X:Cx} {st:Stmt} {rest:List Stmt} {t u:TS} {e:Expr} {te:TE} {pos:Pos}
def tNext:TS:=fun D σ H=>D.nx σ H
def tSeq (t u:TS):TS:=fun D σ H=>t { D with nx:=u D } σ H
theorem pss_nil:PSs X [] tNext:=fun _ _ σ H _ I h=>wpAny_execs_nil ⟨σ,H,I,h⟩
theorem pss_cons (h1:PS X st t) (h2:PSs X rest u):PSs X (st :: rest) (tSeq t u):=by
  intro pins s σ H D I h
  refine wpAny_execs_cons (thn (h1 pins s σ H { D with nx:=u D } I h) fun f s1 q=>?_)
  cases f with
  | next =>
    obtain ⟨σ',H',I',q⟩:=q
    exact h2 pins s1 σ' H' D I' q
  | ret v=>exact q
  | brk=>exact q
  | cont=>exact q
theorem pss_one (h1:PS X st t):PSs X [st] t:=by
  intro pins s σ H D I h
  refine wpAny_execs_cons (thn (h1 pins s σ H D I h) fun f s1 q=>?_)
  cases f with
  | next=>exact wpAny_execs_nil q
  | ret v=>exact q
  | brk=>exact q
  | cont=>exact q
theorem Inv.quiet {pins:List (Addr × Obj)} {σ:St} {H:Hp} {s:Shared} (I:Inv X pins σ H s):interactive X.env=false:=by simp [interactive,I.ok.kind]
def tDrop (te:TE):TS:=fun D σ H=>te σ H fun _ H1=>D.nx σ H1
theorem ps_expr (he:PE X e te) (hs:swapsWith e none pos.line X.env=pure false:=by rfl):PS X (.Expr e pos) (tDrop te):=by
  intro pins s σ H D I h
  exact wpAny_Expr_any (thn (he pins s σ H _ I h) fun v s1 ⟨x,H1,I1,r1,q1⟩=>⟨σ,H1,I1,q1⟩) I.quiet hs
def tRet (te:TE):TS:=fun D σ H=>te σ H D.rt
theorem ps_ret (he:PE X e te):PS X (.Return (some e) pos) (tRet te):=by
  intro pins s σ H D I h
  exact wpAny_Return_some (thn (he pins s σ H _ I h) fun v s1 ⟨x,H1,I1,r1,q1⟩=>⟨x,σ,H1,I1,r1,q1⟩)
def tIfS (c:TT) (t u:TS):TS:=fun D σ H=>c σ H fun b H1=>if b=true then t D σ H1 else u D σ H1
theorem ps_if {c:Expr} {a b:List Stmt} {tc:TT} (hc:PT X c tc) (ha:PSs X a t) (hb:PSs X b u):PS X (.If c a b pos) (tIfS tc t u):=by
  intro pins s σ H D I h
  refine wpAny_If (thn (hc pins s σ H _ I h) fun d s1 ⟨H1,I1,q1⟩=>?_)
  cases d with
  | true=>exact ha pins s1 σ H1 D I1 q1
  | false=>exact hb pins s1 σ H1 D I1 q1
def tNever:TS:=fun _ _ _=>False
theorem ps_never:PS X st tNever:=fun _ _ _ _ _ _ h=>h.elim
end
abbrev TG:=V→St→Hp→(St→Hp→Prop)→Prop
abbrev TGs:=List V→St→Hp→(St→Hp→Prop)→Prop
def PG (X:Cx) (target:Expr) (t:TG):Prop :=
  ∀ (pins:List (Addr × Obj)) (s:Shared) (σ:St) (H:Hp) (v:V) (u:Value) (Q:St→Hp→Prop),Inv X pins σ H s→RelV v u→t v σ H Q →
    wpAny (model X.prog X.w) X.A (assign target X.env u) (fun _ s'=>∃ σ' H',Inv X pins σ' H' s'∧Q σ' H') X.xe s
def PGs (X:Cx) (ts:List Expr) (t:TGs):Prop :=
  ∀ (pins:List (Addr × Obj)) (s:Shared) (σ:St) (H:Hp) (vs:List V) (us:List Value) (Q:St→Hp→Prop),Inv X pins σ H s→Vals vs us→t vs σ H Q →
    wpAny (model X.prog X.w) X.A (assignInOrder ((assignEach ts X.env).map (·.2)) us) (fun _ s'=>∃ σ' H',Inv X pins σ' H' s'∧Q σ' H') X.xe s
abbrev TSet:=V→V→V→Hp→(Hp→Prop)→Prop
def PSet (X:Cx) (t:TSet):Prop :=
  ∀ (pins:List (Addr × Obj)) (s:Shared) (σ:St) (H:Hp) (o i v:V) (ov iv u:Value) (Q:Hp→Prop),Inv X pins σ H s→RelV o ov→RelV i iv→RelV v u→t o i v H Q →
    wpAny (model X.prog X.w) X.A (setItem ov iv u) (fun _ s'=>∃ H',Inv X pins σ H' s'∧Q H') X.xe s
abbrev TIp:=V→V→Hp→VK→Prop
def PIp (X:Cx) (op:Operator) (t:TIp):Prop :=
  ∀ (pins:List (Addr × Obj)) (s:Shared) (σ:St) (H:Hp) (x y:V) (v u:Value) (Q:VK),Inv X pins σ H s→RelV x v→RelV y u→t x y H Q →
    wpAny (model X.prog X.w) X.A (inplaceOp op v u) (EP X pins σ Q) X.xe s
section
variable {X:Cx} {pos:Pos}
def gName (i:Nat):TG:=fun v σ H Q=>Q (σ.set i (some v)) H
theorem pg_name {i:Nat} {x:Str} (hN:X.N.Nodup) (hi:X.N[i]?=some x) (hx:Loc X.env.scope x) (hf:X.fn x=true∨X.env.scope.names.lookup x=some .local:=by first | exact .inl rfl | exact .inr rfl | assumption):PG X (.Name x pos) (gName i):=by
  intro pins s σ H v u Q I r h
  exact wpAny_assign_Name (store_ok I hN hi hx r (fun s' I'=>⟨_,H,I',h⟩) hf)
def gNil:TGs:=fun vs σ H Q=>vs=[]∧Q σ H
def gCons (t:TG) (u:TGs):TGs:=fun vs σ H Q=>∃ v r,vs=v :: r∧t v σ H fun σ' H'=>u r σ' H' Q
theorem pgs_nil:PGs X [] gNil:=by
  intro pins s σ H vs us Q I r h
  obtain ⟨e,h⟩:=h
  subst e
  cases r
  exact assignInOrder_nil ⟨σ,H,I,h⟩
theorem pgs_cons {e:Expr} {es:List Expr} {t:TG} {u:TGs} (h1:PG X e t) (h2:PGs X es u)
    (hs:(assignEach (e :: es) X.env).map (·.2)=assign e X.env :: (assignEach es X.env).map (·.2):=by rfl):PGs X (e :: es) (gCons t u):=by
  intro pins s σ H vs us Q I r h
  obtain ⟨v,vr,e1,h⟩:=h
  subst e1
  cases r with
  | cons r rr =>
    rw [hs]
    refine assignInOrder_cons (thn (h1 pins s σ H _ _ _ I r h) fun _ s1 ⟨σ1,H1,I1,q1⟩=>?_)
    exact h2 pins s1 σ1 H1 _ _ Q I1 rr q1
def gTup (K:PySem.W.Frag) (n:Nat) (t:TGs):TG:=fun v σ H Q=>∃ a xs,v=.ref a∧SqT K H a xs∧xs.length=n∧t xs σ H Q
theorem pg_tup {es:List Expr} {k:Nat} {t:TGs} {n:Nat} (hc:X.calm=true) (h:PGs X es t)
    (hn:(assignEach es X.env).length=n:=by rfl) (hst:(assignEach es X.env).findIdx? (·.1)=none:=by rfl):PG X (.Tuple es k pos) (gTup X.K n t):=by
  intro pins s σ H v u Q I r hw
  obtain ⟨a,xs,e1,hq,hl,hw⟩:=hw
  subst e1
  cases r
  obtain ⟨its,rv,ht,hz⟩:=I.tuple hq
  refine assign_Tuple_tuple (I.ok.hd hc) ht (by simp [hn,← hl,rv.length]) hst fun h' hx=>?_
  have I1:Inv X pins σ H { s with heap:=h' }:=I.kept (t':=s.toks) fun b o e=>hx b o (Nat.ne_of_lt (Heap.lt_size e)) e
  exact h pins _ σ H xs _ Q I1 (by simpa using rv) hw
def gSub (to ti:TE) (t:TSet):TG:=fun v σ H Q=>to σ H fun o H1=>ti σ H1 fun i H2=>t o i v H2 fun H3=>Q σ H3
theorem pg_sub {o i:Expr} {to ti:TE} {t:TSet} (ho:PE X o to) (hi:PE X i ti) (hs:PSet X t)
    (ha:∀ v,assign (.Subscript o i pos) X.env v=(do
      let ov ← holding [v] (eval o X.env)
      let iv ← holding [v,ov] (eval i X.env)
      standAt pos
      holding [v,ov,iv] (setItem ov iv v)
      release [v,ov,iv] []):=by intro _;rfl):PG X (.Subscript o i pos) (gSub to ti t):=by
  intro pins s σ H v u Q I r h
  rw [ha]
  refine wpAny_bind (wpAny_holding (thn (ho pins s σ H _ I h) fun ov s1 ⟨x,H1,I1,r1,q1⟩=>?_))
  refine wpAny_bind (wpAny_holding (thn (hi pins s1 σ H1 _ I1 q1) fun iv s2 ⟨y,H2,I2,r2,q2⟩=>?_))
  refine wpAny_bind (wpAny_standAt (wpAny_bind (wpAny_holding (thn (hs pins s2 σ H2 x y v ov iv u _ I2 r1 r2 r q2) fun _ s3 ⟨H3,I3,q3⟩=>?_))))
  exact wpAny_release ⟨σ,H3,I3,q3⟩
def tAsg (te:TE) (g:TG):TS:=fun D σ H=>te σ H fun x H1=>g x σ H1 D.nx
theorem ps_asg {tg e:Expr} {te:TE} {g:TG} (he:PE X e te) (hg:PG X tg g) (hs:swapsWithSole [tg] e pos.line X.env=pure false:=by rfl) (hw:swappedStores [tg] e X.env=pure none:=by rfl)
    (h1:(assignEach [tg] X.env).map (·.2)=[assign tg X.env]:=by rfl):PS X (.Assign [tg] e pos) (tAsg te g):=by
  intro pins s σ H D I h
  refine wpAny_Assign_stores (thn (he pins s σ H _ I h) fun v s1 ⟨x,H1,I1,r1,q1⟩=>?_) hs hw
  rw [h1]
  exact thn (hg pins s1 σ H1 x v _ I1 r1 q1) fun _ s2 q=>q
theorem ps_set {i:Nat} {x:Str} {e:Expr} {te:TE} {pos':Pos} (hN:X.N.Nodup) (hi:X.N[i]?=some x) (hx:Loc X.env.scope x) (he:PE X e te) (hs:swapsWith e (some (.Name x pos')) pos.line X.env=pure false:=by rfl) (hf:X.fn x=true∨X.env.scope.names.lookup x=some .local:=by first | exact .inl rfl | exact .inr rfl | assumption) :
    PS X (.Assign [.Name x pos'] e pos) (tAsg te (gName i)):=by
  intro pins s σ H D I h
  refine wpAny_Assign_Name (thn (he pins s σ H _ I h) fun v s1 ⟨y,H1,I1,r1,q1⟩=>?_) hs
  exact store_ok I1 hN hi hx r1 (fun s2 I2=>⟨_,H1,I2,q1⟩) hf
def tAugS (to ti te:TE) (tget:V→V→Hp→VK→Prop) (tip:TIp) (tset:TSet):TS:=fun D σ H=>to σ H fun o H1=>ti σ H1 fun i H2=>tget o i H2 fun x H3=>te σ H3 fun y H4=>tip x y H4 fun z H5=>tset o i z H5 fun H6=>D.nx σ H6
def PGet (X:Cx) (t:V→V→Hp→VK→Prop):Prop :=
  ∀ (pins:List (Addr × Obj)) (s:Shared) (σ:St) (H:Hp) (o i:V) (ov iv:Value) (Q:VK),Inv X pins σ H s→RelV o ov→RelV i iv→t o i H Q →
    wpAny (model X.prog X.w) X.A (getItem ov iv) (EP X pins σ Q) X.xe s
theorem ps_augS {o i e:Expr} {to ti te:TE} {tget:V→V→Hp→VK→Prop} {tip:TIp} {tset:TSet} {op:Operator} {tpos:Pos} (ho:PE X o to) (hi:PE X i ti) (hg:PGet X tget) (he:PE X e te) (hp:PIp X op tip) (hs:PSet X tset)
    (ha:∀ ov iv new,augStore i ov iv new=(do holding [new,ov,iv] (setItem ov iv new);release [new,ov,iv] [];pure .next):=by intros;rfl):PS X (.AugAssign (.Subscript o i tpos) op e pos) (tAugS to ti te tget tip tset):=by
  intro pins s σ H D I h
  refine wpAny_AugAssign_SubscriptAny (thn (ho pins s σ H _ I h) fun ov s1 ⟨x1,H1,I1,r1,q1⟩=>?_) ha
  refine thn (hi pins s1 σ H1 _ I1 q1) fun iv s2 ⟨x2,H2,I2,r2,q2⟩=>?_
  refine thn (hg pins s2 σ H2 x1 x2 ov iv _ I2 r1 r2 q2) fun old s3 ⟨x3,H3,I3,r3,q3⟩=>?_
  refine thn (he pins s3 σ H3 _ I3 q3) fun v s4 ⟨x4,H4,I4,r4,q4⟩=>?_
  refine thn (hp pins s4 σ H4 x3 x4 old v _ I4 r3 r4 q4) fun new s5 ⟨x5,H5,I5,r5,q5⟩=>?_
  exact thn (hs pins s5 σ H5 x1 x2 x5 ov iv new _ I5 r1 r2 r5 q5) fun _ s6 ⟨H6,I6,q6⟩=>⟨σ,H6,I6,q6⟩
def ipI (f:Int→Int→Int):TIp:=fun x y H Q=>∃ i j,x=.int i∧y=.int j∧Q (.int (f i j)) H
theorem ip_add:PIp X .Add (ipI fun i j=>i + j):=by
  intro pins s σ H x y v u Q I r1 r2 h
  obtain ⟨i,j,e1,e2,q⟩:=h
  subst e1;subst e2
  obtain ⟨t,rfl⟩:=r1
  obtain ⟨t',rfl⟩:=r2
  exact iadd_int ⟨.int _,H,I.tok _,⟨_,rfl⟩,q⟩
theorem ip_sub:PIp X .Sub (ipI fun i j=>i - j):=by
  intro pins s σ H x y v u Q I r1 r2 h
  obtain ⟨i,j,e1,e2,q⟩:=h
  subst e1;subst e2
  obtain ⟨t,rfl⟩:=r1
  obtain ⟨t',rfl⟩:=r2
  exact isub_int ⟨.int _,H,I.tok _,⟨_,rfl⟩,q⟩
end
section
variable {X:Cx} {pos:Pos}
def tWhile (c:TT) (tb:TS):TS:=fun D σ H=>∃ W:Nat→St→Hp→Prop,(∃ m,W m σ H)∧∀ m σ H,W m σ H →
  c σ H fun b H1=>if b=true then ∃ N:St→Hp→Prop,(∀ σ' H',N σ' H'→∃ m',m'<m∧W m' σ' H')∧tb { D with nx:=N,ct:=N,bk:=D.nx } σ H1 else D.nx σ H1
theorem ps_while {c:Expr} {body:List Stmt} {tc:TT} {tb:TS} (hp:PassesOwn (model X.prog X.w) X.A X.env X.xe) (hc:PT X c tc) (hb:PSs X body tb):PS X (.While c body [] pos) (tWhile tc tb):=by
  intro pins s σ H D I h
  obtain ⟨W,⟨m0,w0⟩,turn⟩:=h
  refine wpAny_While (codeAny_whileLoop (fun n s'=>∃ σ' H',Inv X pins σ' H' s'∧W n σ' H') ?_ m0 ⟨σ,H,I,w0⟩)
  rintro n s1 ⟨σ1,H1,I1,w1⟩
  refine wpAny_passesOwn hp (thn (hc pins s1 σ1 H1 _ I1 (turn n σ1 H1 w1)) fun b s2 ⟨H2,I2,q2⟩=>?_)
  cases b with
  | true =>
    obtain ⟨N,hN,q2⟩:=q2
    rw [if_pos rfl]
    refine wpAny_passesOwn hp (thn (hb pins s2 σ1 H2 _ I2 q2) fun f s3 q3=>?_)
    cases f with
    | next =>
      obtain ⟨σ3,H3,I3,n3⟩:=q3
      obtain ⟨m',hm,w3⟩:=hN σ3 H3 n3
      exact ⟨m',hm,σ3,H3,I3,w3⟩
    | cont =>
      obtain ⟨σ3,H3,I3,n3⟩:=q3
      obtain ⟨m',hm,w3⟩:=hN σ3 H3 n3
      exact ⟨m',hm,σ3,H3,I3,w3⟩
    | brk=>exact q3
    | ret v=>exact q3
  | false =>
    rw [if_neg Bool.false_ne_true]
    exact wpAny_execs_nil ⟨σ1,H2,I2,q2⟩
end
structure It where
  go:Nat→Hp→Prop
  yld:Nat→Hp→V→Hp→Prop
  stop:Nat→Hp→Prop
def FpOk (X:Cx) (pins:List (Addr × Obj)) (H:Hp) (b:Addr):Prop :=
  H b=none∧b≠X.env.locals∧b ∉ X.fs∧(b∈X.ex∨X.s₀.heap.objs.size≤b)∧(∀ x c,X.env.cells.lookup x=some c→c≠b)∧∀ p∈X.pn++pins,p.1≠b
theorem Inv.fpOk {X:Cx} {pins:List (Addr × Obj)} {σ:St} {H H':Hp} {s:Shared} {b:Addr} (I:Inv X pins σ H s) (hb:s.heap.objs.size≤b) (hn:H' b=none):FpOk X pins H' b:=by
  refine ⟨hn,Nat.ne_of_gt (Nat.lt_of_lt_of_le I.lt hb),I.nofs hb,.inr (Nat.le_trans I.sz hb),fun x c e z=>?_,fun p hp z=>?_⟩
  · obtain ⟨v,q⟩:=I.cell x c e
    exact absurd (Nat.lt_of_lt_of_le q.lt (by rw [z];exact hb)) (Nat.lt_irrefl _)
  · exact absurd (Nat.lt_of_lt_of_le (Heap.lt_size (I.pin p hp).1) (by rw [z];exact hb)) (Nat.lt_irrefl _)
structure Turn (P:Program) (w:World) (K:PySem.W.Frag) (tg:Expr) (J:It) (fp:List Addr) (it:Addr) (tn:Nat→Heap→Prop):Prop where
  mem:it∈fp
  obj:∀ i h,tn i h→∀ b∈fp,∃ o,h.get? b=some o∧∀ v,o.data≠.cell v
  keep:∀ i h h',tn i h→(∀ b∈fp,∀ o,h.get? b=some o→h'.get? b=some o)→tn i h'
  item:∀ (X:Cx),X.prog=P→X.w=w→X.K=K→X.calm=true→∀ (i:Nat) (pins:List (Addr × Obj)) (s:Shared) (σ:St) (H:Hp) (E:Value→Shared→Prop),Inv X pins σ H s→(∀ b∈fp,FpOk X pins H b)→tn i s.heap→J.go i H →
    wpAny (model P w) X.A (pyNext (.ref it)) (fun r s1=>∃ u,r=some u ∧
      wpAny (model P w) X.A (letOwnedTupleGo tg (.ref it) u) (fun _ s2=>∃ x H',Inv X pins σ H' s2∧RelV x u∧J.yld i H x H'∧tn (i + 1) s2.heap∧∀ b∈fp,H' b=none) E s1) E s
  done:∀ (X:Cx),X.prog=P→X.w=w→X.K=K→X.calm=true→∀ (i:Nat) (pins:List (Addr × Obj)) (s:Shared) (σ:St) (H:Hp) (E:Value→Shared→Prop),Inv X pins σ H s→(∀ b∈fp,FpOk X pins H b)→tn i s.heap→J.stop i H →
    wpAny (model P w) X.A (pyNext (.ref it)) (fun r s1=>r=none∧Inv X pins σ H s1) E s
  self:∀ (A:Around) (i:Nat) (s:Shared) (Q:Value→Shared→Prop) (E:Value→Shared→Prop),tn i s.heap→Q (.ref it) s→wpAny (model P w) A (pyIter (.ref it)) Q E s
abbrev TI:=St→Hp→(It→Hp→Prop)→Prop
def PIE (X:Cx) (pins:List (Addr × Obj)) (σ:St) (tg:Expr) (R:It→Hp→Prop) (itv:Value) (s2:Shared):Prop :=
  ∃ (it:Addr) (fp:List Addr) (tn:Nat→Heap→Prop) (J:It) (H':Hp),itv=.ref it∧Inv X pins σ H' s2∧Turn X.prog X.w X.K tg J fp it tn∧tn 0 s2.heap∧(∀ b∈fp,FpOk X pins H' b)∧R J H'
def PI (X:Cx) (tg iter:Expr) (wi:TI):Prop :=
  ∀ (pins:List (Addr × Obj)) (s:Shared) (σ:St) (H:Hp) (R:It→Hp→Prop),Inv X pins σ H s→wi σ H R →
    wpAny (model X.prog X.w) X.A (eval iter X.env) (fun v s1=>wpAny (model X.prog X.w) X.A (pyIter v) (PIE X pins σ tg R) X.xe s1) X.xe s
theorem go_of {M:Model} {A:Around} {E:Value→Shared→Prop} {s:Shared} {tg:Expr} {it:Addr} {u:Value} {o:Obj} {n:String} {vs:Array Value} {Q:Unit→Shared→Prop} (ho:s.heap.get? it=some o) (hc:o.cls=.type n) (hd:o.data=.fields vs)
    (hn:["enumerate","zip","dict_itemiterator","dict_reverseitemiterator","odict_iterator","itertools.zip_longest","itertools.pairwise"].contains n=false) (hQ:Q () s):wpAny M A (letOwnedTupleGo tg (.ref it) u) Q E s:=by
  unfold letOwnedTupleGo
  cases tg <;> first
    | exact wpAny_pure hQ
    | (cases u <;> first
        | exact wpAny_pure hQ
        | (refine wpAny_bind (wpAny_load ho ?_)
           rw [hc,hd]
           show wpAny M A (if (["enumerate","zip","dict_itemiterator","dict_reverseitemiterator","odict_iterator","itertools.zip_longest","itertools.pairwise"].contains n && vs[0]? == some (rawInt _))=true then _ else _) Q E s
           rw [if_neg (by intro h;rw [hn,Bool.false_and] at h;cases h)]
           exact wpAny_pure hQ))
def Itl (K:PySem.W.Frag) (a:Addr):It :=
  ⟨fun i H=>∃ xs x,SqL K H a xs∧xs[i]?=some x,fun i H x H'=>H'=H∧∀ xs,SqL K H a xs→xs[i]?=some x,fun i H=>∃ xs,SqL K H a xs∧xs.length≤i⟩
def Itr (lo:Int) (n:Nat):It:=⟨fun i _=>i<n,fun i H x H'=>H'=H∧x=.int (lo + i),fun i _=>n≤i⟩
theorem turn_list {P:Program} {w:World} {K:PySem.W.Frag} {tg:Expr} (a it:Addr):Turn P w K tg (Itl K a) [it] it (fun i h=>h.IsListIter it a i) where
  mem:=by simp
  obj:=fun i h st b hb=>by
    have e:b=it:=by simpa using hb
    subst e
    obtain ⟨o,e,c,d⟩:=st
    exact ⟨o,e,fun v z=>by rw [d] at z;cases z⟩
  keep:=fun i h h' st k=>st.at fun o e=>k it (by simp) o e
  item:=by
    intro X hP hw hK hc i pins s σ H E I hf st hg
    subst hP hw hK
    obtain ⟨xs,x,hq,hx⟩:=hg
    obtain ⟨its,rv,p,hz⟩:=I.list hq
    obtain ⟨u,hu,ru⟩:=rv.get hx
    obtain ⟨f0,f1,f2,f3,f4,f5⟩:=hf it (by simp)
    refine wpAny_pyNext_list_item st p.isList (x:=u) (by simpa using hu) fun h' st' sb=>?_
    have I1:Inv X pins σ H { s with heap:=h' }:=I.turned (t':=s.toks) (fun b o hb e=>(sb.2 b hb).trans e) f0 f1 f3 f4 f5
    obtain ⟨o,e,c,d⟩:=id st'
    exact ⟨u,rfl,go_of (s:={ s with heap:=h' }) e c d (by decide) ⟨x,H,I1,ru,⟨rfl,fun ys hy=>by rw [I.list_inj hy hq];exact hx⟩,st',fun b hb=>(hf b hb).1⟩⟩
  done:=by
    intro X hP hw hK hc i pins s σ H E I hf st hg
    subst hP hw hK
    obtain ⟨xs,hq,hx⟩:=hg
    obtain ⟨its,rv,p,hz⟩:=I.list hq
    obtain ⟨f0,f1,f2,f3,f4,f5⟩:=hf it (by simp)
    have hl:=rv.length
    exact wpAny_pyNext_list_end (I.ok.hd hc) st p.isList (by simp;omega) fun h' eb=>⟨rfl,I.turned (t':=s.toks) (fun b o hb e=>eb b o hb e) f0 f1 f3 f4 f5⟩
  self:=fun _ _ _ _ _ st h=>wpAny_pyIter_listiter st h
theorem turn_range {P:Program} {w:World} {K:PySem.W.Frag} {tg:Expr} (it:Addr) (lo:Int) (n:Nat):Turn P w K tg (Itr lo n) [it] it (fun i h=>IsRangeIter h it (lo + (i:Nat) * 1) ((n:Int) - (i:Nat)) 1) where
  mem:=by simp
  obj:=fun i h st b hb=>by
    have e:b=it:=by simpa using hb
    subst e
    exact ⟨_,st,fun v z=>by
      have z':Data.fields _=Data.cell v:=z
      cases z'⟩
  keep:=fun i h h' st k=>k it (by simp) _ st
  item:=by
    intro X hP hw hK hc i pins s σ H E I hf st hg
    subst hP hw hK
    obtain ⟨f0,f1,f2,f3,f4,f5⟩:=hf it (by simp)
    have W:=Walks.range (prog:=X.prog) (w:=X.w) (I.ok.hd hc) it lo 1 n
    refine W.item i s _ _ hg st fun v h' tk hv st' kk=>?_
    obtain ⟨t,rfl⟩:=hv
    have I1:Inv X pins σ H { s with heap:=h',toks:=tk }:=I.turned (fun b o hb e=>kk b o (by simpa using hb) e) f0 f1 f3 f4 f5
    refine ⟨_,rfl,go_of (s:={ s with heap:=h',toks:=tk }) (n:="range_iterator") st' rfl rfl (by decide) ⟨.int (lo + i),H,I1,⟨t,?_⟩,⟨rfl,rfl⟩,st',fun b hb=>(hf b hb).1⟩⟩
    rw [Int.mul_one]
  done:=by
    intro X hP hw hK hc i pins s σ H E I hf st hg
    subst hP hw hK
    obtain ⟨f0,f1,f2,f3,f4,f5⟩:=hf it (by simp)
    exact wpAny_pyNext_range_end (I.ok.hd hc) st (by have:n≤i:=hg;omega) fun h' eb=>⟨rfl,I.turned (t':=s.toks) (fun b o hb e=>eb b o hb e) f0 f1 f3 f4 f5⟩
  self:=fun _ _ _ _ _ st h=>wpAny_pyIter_rangeiter st h
end L2
namespace L2
open PySem PySem.Spec PyProof.Rows
section
variable {X:Cx} {tg:Expr}
def iList (K:PySem.W.Frag) (tl:TE):TI:=fun σ H R=>tl σ H fun x H1=>∃ a,x=.ref a∧(∃ xs,SqL K H1 a xs)∧R (Itl K a) H1
theorem pi_list {l:Expr} {tl:TE} (hl:PE X l tl):PI X tg l (iList X.K tl):=by
  intro pins s σ H R I h
  refine thn (hl pins s σ H _ I h) fun v s1 ⟨x,H1,I1,r1,q1⟩=>?_
  obtain ⟨a,e,⟨xs,hq⟩,q⟩:=q1
  subst e
  cases r1
  obtain ⟨its,rv,p,hz⟩:=I1.list hq
  refine wpAny_pyIter_list p.isList ?_
  refine ⟨s1.heap.objs.size,[s1.heap.objs.size],_,_,H1,rfl,I1.kept (t':=s1.toks) fun b o e=>Heap.get?_push_of_some _ e,turn_list a _,⟨_,Heap.get?_push_size _ rfl,rfl,rfl⟩,fun b hb=>?_,q⟩
  have e:b=s1.heap.objs.size:=by simpa using hb
  subst e
  exact I1.fpOk (Nat.le_refl _) (I1.hok.fresh (Nat.le_refl _))
theorem range_it {pins:List (Addr × Obj)} {σ:St} {H:Hp} {s:Shared} {R:It→Hp→Prop} {E:Value→Shared→Prop} {lo hi:Int} {t u v:Tok} {tk:Nat} (I:Inv X pins σ H s) (h1:-(2 ^ 62)≤lo) (h2:lo<2 ^ 62) (h3:-(2 ^ 62)≤hi) (h4:hi<2 ^ 62)
    (q:R (Itr lo (hi - lo).toNat) H):wpAny (model X.prog X.w) X.A (pyIter (.ref s.heap.objs.size)) (PIE X pins σ tg R) E { s with heap:=s.heap.push { cls:=.type "range",data:=.fields #[.int lo t,.int hi u,.int 1 v] },toks:=tk }:=by
  refine wpAny_pyIter_range (IsRange.new ..) (small_one h1 h2 h3 h4) ?_
  have I1:Inv X pins σ H { s with heap:=s.heap.push { cls:=.type "range",data:=.fields #[.int lo t,.int hi u,.int 1 v] },toks:=tk }:=I.kept fun b o e=>Heap.get?_push_of_some _ e
  refine ⟨(s.heap.push { cls:=.type "range",data:=.fields #[.int lo t,.int hi u,.int 1 v] }).objs.size,[(s.heap.push { cls:=.type "range",data:=.fields #[.int lo t,.int hi u,.int 1 v] }).objs.size],_,_,H,rfl,
    I1.kept (t':=tk) fun b o e=>Heap.get?_push_of_some _ e,turn_range _ lo (hi - lo).toNat,?_,fun b hb=>?_,q⟩
  · have e1:lo + ((0:Nat):Int) * 1=lo:=by simp
    have e2:(((hi - lo).toNat:Nat):Int) - ((0:Nat):Int)=Builtin.Range.rangeSize lo hi 1:=by rw [rangeSize_one];split <;> omega
    show IsRangeIter _ _ (lo + ((0:Nat):Int) * 1) ((((hi - lo).toNat:Nat):Int) - ((0:Nat):Int)) 1
    rw [e1,e2]
    exact Heap.get?_push_size _ rfl
  · have e:b=(s.heap.push { cls:=.type "range",data:=.fields #[.int lo t,.int hi u,.int 1 v] }).objs.size:=by simpa using hb
    subst e
    exact I1.fpOk (Nat.le_refl _) (I1.hok.fresh (Nat.le_refl _))
def iRng1 (ta:TA):TI:=fun σ H R=>ta σ H fun vs H1=>∃ j:Int,vs=[.int j]∧-(2 ^ 62)≤j∧j<2 ^ 62∧R (Itr 0 j.toNat) H1
theorem pi_range1 {a:Expr} {ta:TA} {p pos:Pos} (hg:Gl X "range") (hm:X.mg "range"=none) (ha:PA X [a] ta) (hs:starEach [a] X.env=[(false,eval a X.env)]:=by rfl):PI X tg (.Call (.Name "range" p) [a] [] pos) (iRng1 ta):=by
  intro pins s σ H R I h
  refine Call_ (ld_blt I hg hm boot_range (PyProof.Rows.callWith_type1 (thn (ha pos pins s σ H _ I h) fun us s1 ⟨vs,H1,I1,r1,q1⟩=>?_) hs rfl))
  obtain ⟨j,e,q1,q2,q⟩:=q1
  subst e
  cases r1 with
  | cons r rr =>
    cases rr
    obtain ⟨t,rfl⟩:=r
    exact call_range_1 (range_it I1 (by omega) (by omega) q1 q2 (by simpa using q))
def tFor (wi:TI) (g:TG) (tb:TS):TS:=fun D σ H=>wi σ H fun J H1=>∃ W:Nat→Nat→St→Hp→Prop,(∃ m,W 0 m σ H1)∧∀ i m σ H,W i m σ H →
  (J.stop i H∧D.nx σ H)∨(J.go i H∧∃ N:St→Hp→Prop,(∀ σ' H',N σ' H'→∃ m',m'<m∧W (i + 1) m' σ' H')∧∀ x H',J.yld i H x H'→g x σ H' fun σ2 H2=>tb { D with nx:=N,ct:=N,bk:=D.nx } σ2 H2)
def pinsAt (fp:List Addr) (h:Heap):List (Addr × Obj):=fp.filterMap fun b=>(h.get? b).map fun o=>(b,o)
theorem mem_pinsAt {fp:List Addr} {h:Heap} {b:Addr} {o:Obj} (hb:b∈fp) (e:h.get? b=some o):(b,o)∈pinsAt fp h:=List.mem_filterMap.mpr ⟨b,hb,by rw [e];rfl⟩
theorem of_pinsAt {fp:List Addr} {h:Heap} {p:Addr × Obj} (hp:p∈pinsAt fp h):p.1∈fp∧h.get? p.1=some p.2:=by
  obtain ⟨b,hb,e⟩:=List.mem_filterMap.mp hp
  cases q:h.get? b with
  | none=>rw [q] at e;cases e
  | some o =>
    rw [q] at e
    have e':(b,o)=p:=Option.some.inj e
    subst e'
    exact ⟨hb,q⟩
theorem Inv.pinned {pins:List (Addr × Obj)} {σ:St} {H:Hp} {s:Shared} {fp:List Addr} (I:Inv X pins σ H s) (hf:∀ b∈fp,FpOk X pins H b) (ho:∀ b∈fp,∃ o,s.heap.get? b=some o∧∀ v,o.data≠.cell v):Inv X (pins++pinsAt fp s.heap) σ H s :=
  I.pins_of fun p hp=>(List.mem_append.mp hp).elim (fun z=>I.pin p (List.mem_append_right _ z)) fun z=>by
    obtain ⟨hb,e⟩:=of_pinsAt z
    obtain ⟨f0,f1,f2,_⟩:=hf p.1 hb
    obtain ⟨o,e',d⟩:=ho p.1 hb
    rw [e] at e';cases e'
    exact ⟨e,f0,f1,f2,d⟩
theorem Inv.unpinned {pins pl:List (Addr × Obj)} {σ:St} {H:Hp} {s:Shared} (I:Inv X (pins++pl) σ H s):Inv X pins σ H s:=I.pins_of fun p hp=>I.pin p (List.mem_append_right _ (List.mem_append_left _ hp))
theorem ps_for {iter:Expr} {body:List Stmt} {wi:TI} {g:TG} {tb:TS} {pos:Pos} (hp:PassesOwn (model X.prog X.w) X.A X.env X.xe) (hc:X.calm=true) (hi:PI X tg iter wi) (hg:PG X tg g) (hb:PSs X body tb)
    (hs:∀ x,foldedSetIterable iter X.env x=pure x:=by intro _;rfl):PS X (.For tg iter body [] pos) (tFor wi g tb):=by
  intro pins s σ H D I h
  refine wpAny_For (thn (hi pins s σ H _ I h) fun v s1 h1=>thn h1 fun itv s2 h2=>?_) hs
  obtain ⟨it,fp,tn,J,H2,e,I2,T,st2,f2,W,⟨m0,w0⟩,turn⟩:=h2
  subst e
  have stat:∀ {H':Hp},(∀ b∈fp,H' b=none)→∀ b∈fp,FpOk X pins H' b:=fun hn b hb=>⟨hn b hb,(f2 b hb).2⟩
  refine codeAny_forLoop_any (fun n s'=>∃ i σ' H',Inv X pins σ' H' s'∧tn i s'.heap∧(∀ b∈fp,H' b=none)∧W i n σ' H') ?_ m0 ⟨0,σ,H2,I2,st2,fun b hb=>(f2 b hb).1,w0⟩
  rintro n s3 ⟨i,σ3,H3,I3,st3,fr3,w3⟩
  rcases turn i n σ3 H3 w3 with ⟨stop,qn⟩ | ⟨go,N,hN,step⟩
  · refine wpAny_passesOwn hp (thn (T.done X rfl rfl rfl hc i pins s3 σ3 H3 X.xe I3 (stat fr3) st3 stop) fun r s4 ⟨hr,I4⟩=>?_)
    subst hr
    exact wpAny_execs_nil ⟨σ3,H3,I4,qn⟩
  · refine wpAny_passesOwn hp (thn (T.item X rfl rfl rfl hc i pins s3 σ3 H3 X.xe I3 (stat fr3) st3 go) fun r s4 ⟨u,hr,h4⟩=>?_)
    subst hr
    refine wpAny_passesOwn hp (thn h4 fun _ s5 ⟨x,H5,I5,r5,y5,st5,fr5⟩=>?_)
    have I5':=I5.pinned (stat fr5) (T.obj _ _ st5)
    refine wpAny_passesOwn hp (thn (hg _ s5 σ3 H5 x u _ I5' r5 (step x H5 y5)) fun _ s6 ⟨σ6,H6,I6,q6⟩=>?_)
    refine wpAny_passesOwn hp (thn (hb _ s6 σ6 H6 _ I6 q6) fun f s7 q7=>?_)
    have again:∀ {σ7:St} {H7:Hp},Inv X (pins++pinsAt fp s5.heap) σ7 H7 s7→N σ7 H7→∃ m,m<n∧∃ i σ' H',Inv X pins σ' H' s7∧tn i s7.heap∧(∀ b∈fp,H' b=none)∧W i m σ' H':=fun {σ7 H7} I7 n7=>by
      obtain ⟨m',hm,w7⟩:=hN σ7 H7 n7
      refine ⟨m',hm,i + 1,σ7,H7,I7.unpinned,T.keep _ _ _ st5 fun b hb o e=>(I7.pin (b,o) (List.mem_append_right _ (List.mem_append_right _ (mem_pinsAt hb e)))).1,fun b hb=>?_,w7⟩
      obtain ⟨o,e,d⟩:=T.obj _ _ st5 b hb
      exact (I7.pin (b,o) (List.mem_append_right _ (List.mem_append_right _ (mem_pinsAt hb e)))).2.1
    cases f with
    | next=>obtain ⟨σ7,H7,I7,n7⟩:=q7;exact again I7 n7
    | cont=>obtain ⟨σ7,H7,I7,n7⟩:=q7;exact again I7 n7
    | brk=>obtain ⟨σ7,H7,I7,q7⟩:=q7;exact ⟨σ7,H7,I7.unpinned,q7⟩
    | ret v=>obtain ⟨x7,σ7,H7,I7,r7,q7⟩:=q7;exact ⟨x7,σ7,H7,I7.unpinned,r7,q7⟩
end
theorem for_list {K:PySem.W.Frag} {a:Addr} {xs:List V} {g:TG} {tb:TS} {D:Ends} {σ:St} {H:Hp} (Pv:Nat→St→Hp→Prop) (h0:Pv 0 σ H) (hl:∀ i σ H,i≤xs.length→Pv i σ H→SqL K H a xs)
    (hs:∀ i x σ H,xs[i]?=some x→Pv i σ H→g x σ H fun σ2 H2=>tb { D with nx:=Pv (i + 1),ct:=Pv (i + 1),bk:=D.nx } σ2 H2) (hd:∀ σ H,Pv xs.length σ H→D.nx σ H) :
    ∃ W:Nat→Nat→St→Hp→Prop,(∃ m,W 0 m σ H)∧∀ i m σ H,W i m σ H →
      ((Itl K a).stop i H∧D.nx σ H)∨((Itl K a).go i H∧∃ N:St→Hp→Prop,(∀ σ' H',N σ' H'→∃ m',m'<m∧W (i + 1) m' σ' H')∧∀ x H',(Itl K a).yld i H x H'→g x σ H' fun σ2 H2=>tb { D with nx:=N,ct:=N,bk:=D.nx } σ2 H2):=by
  refine ⟨fun i m σ H=>m=xs.length - i∧i≤xs.length∧Pv i σ H,⟨xs.length,by simp,Nat.zero_le _,h0⟩,?_⟩
  rintro i m σ H ⟨rfl,hi,p⟩
  have q:=hl i σ H hi p
  by_cases hlt:i<xs.length
  · refine .inr ⟨⟨xs,xs[i],q,by simp [hlt]⟩,Pv (i + 1),fun σ' H' p'=>⟨xs.length - (i + 1),by omega,rfl,hlt,p'⟩,fun x H' y=>?_⟩
    obtain ⟨e,y⟩:=y
    subst e
    exact hs i x σ _ (y xs q) p
  · have e:i=xs.length:=by omega
    subst e
    exact .inl ⟨⟨xs,q,Nat.le_refl _⟩,hd σ H p⟩
theorem for_range {lo:Int} {n:Nat} {g:TG} {tb:TS} {D:Ends} {σ:St} {H:Hp} (Pv:Nat→St→Hp→Prop) (h0:Pv 0 σ H)
    (hs:∀ i σ H,i<n→Pv i σ H→g (.int (lo + i)) σ H fun σ2 H2=>tb { D with nx:=Pv (i + 1),ct:=Pv (i + 1),bk:=D.nx } σ2 H2) (hd:∀ σ H,Pv n σ H→D.nx σ H) :
    ∃ W:Nat→Nat→St→Hp→Prop,(∃ m,W 0 m σ H)∧∀ i m σ H,W i m σ H →
      ((Itr lo n).stop i H∧D.nx σ H)∨((Itr lo n).go i H∧∃ N:St→Hp→Prop,(∀ σ' H',N σ' H'→∃ m',m'<m∧W (i + 1) m' σ' H')∧∀ x H',(Itr lo n).yld i H x H'→g x σ H' fun σ2 H2=>tb { D with nx:=N,ct:=N,bk:=D.nx } σ2 H2):=by
  refine ⟨fun i m σ H=>m=n - i∧i≤n∧Pv i σ H,⟨n,by simp,Nat.zero_le _,h0⟩,?_⟩
  rintro i m σ H ⟨rfl,hi,p⟩
  by_cases hlt:i<n
  · refine .inr ⟨hlt,Pv (i + 1),fun σ' H' p'=>⟨n - (i + 1),by omega,rfl,hlt,p'⟩,fun x H' y=>?_⟩
    obtain ⟨e,y⟩:=y
    subst e y
    exact hs i σ _ hlt p
  · have e:i=n:=by omega
    subst e
    exact .inl ⟨Nat.le_refl _,hd σ H p⟩
end L2
namespace L2
open PySem PySem.Spec PyProof.Rows
abbrev R2:=V→V→Hp→VK→Prop
def OpR (X:Cx) (f:Value→Value→Sem Value) (r:R2):Prop :=
  ∀ (pins:List (Addr × Obj)) (s:Shared) (σ:St) (H:Hp) (x y:V) (v u:Value) (Q:VK),Inv X pins σ H s→RelV x v→RelV y u→r x y H Q →
    wpAny (model X.prog X.w) X.A (f v u) (EP X pins σ Q) X.xe s
def UnR (X:Cx) (f:Value→Sem Value) (r:V→Hp→VK→Prop):Prop :=
  ∀ (pins:List (Addr × Obj)) (s:Shared) (σ:St) (H:Hp) (x:V) (v:Value) (Q:VK),Inv X pins σ H s→RelV x v→r x H Q →
    wpAny (model X.prog X.w) X.A (f v) (EP X pins σ Q) X.xe s
def CallR (X:Cx) (f:Value) (r:List V→Hp→VK→Prop):Prop :=
  ∀ (pins:List (Addr × Obj)) (s:Shared) (σ:St) (H:Hp) (xs:List V) (us:List Value) (Q:VK),Inv X pins σ H s→Vals xs us→r xs H Q →
    wpAny (model X.prog X.w) X.A (call f us) (EP X pins σ Q) X.xe s
def TruR (X:Cx) (r:V→Hp→(Bool→Hp→Prop)→Prop):Prop :=
  ∀ (pins:List (Addr × Obj)) (s:Shared) (σ:St) (H:Hp) (x:V) (v:Value) (Q:Bool→Hp→Prop),Inv X pins σ H s→RelV x v→r x H Q →
    wpAny (model X.prog X.w) X.A (truthy v) (TP X pins σ Q) X.xe s
def tOp (r:R2) (ta tb:TE):TE:=fun σ H Q=>ta σ H fun x H1=>tb σ H1 fun y H2=>r x y H2 Q
def tUn (r:V→Hp→VK→Prop) (ta:TE):TE:=fun σ H Q=>ta σ H fun x H1=>r x H1 Q
def rI (C:Int→Int→Prop) (g:Int→Int→V):R2:=fun x y H Q=>∃ i j,x=.int i∧y=.int j∧C i j∧Q (g i j) H
def rI0 (g:Int→Int→V):R2:=fun x y H Q=>∃ i j,x=.int i∧y=.int j∧Q (g i j) H
def rU (g:Int→V):V→Hp→VK→Prop:=fun x H Q=>∃ i,x=.int i∧Q (g i) H
section
variable {X:Cx} {a b c:Expr} {ta tb tc:TE} {pos:Pos}
theorem binT (ha:PE X a ta) (hb:PE X b tb) {pins:List (Addr × Obj)} {s:Shared} {σ:St} {H:Hp} {R:V→V→Hp→Prop} (I:Inv X pins σ H s)
    (h:ta σ H fun x H1=>tb σ H1 fun y H2=>R x y H2) {Q:Value→Shared→Prop} {f:Value→Value→Sem Value}
    (hf:∀ v u s2 x y H2,Inv X pins σ H2 s2→RelV x v→RelV y u→R x y H2→wpAny (model X.prog X.w) X.A (f v u) Q X.xe s2) :
    wpAny (model X.prog X.w) X.A (eval a X.env) (fun v s₁=>wpAny (model X.prog X.w) X.A (eval b X.env) (fun u s₂=>wpAny (model X.prog X.w) X.A (f v u) Q X.xe s₂) X.xe s₁) X.xe s:=by
  refine thn (ha pins s σ H _ I h) fun v s1 ⟨x,H1,I1,r1,q1⟩=>?_
  refine thn (hb pins s1 σ H1 _ I1 q1) fun u s2 ⟨y,H2,I2,r2,q2⟩=>?_
  exact hf v u s2 x y H2 I2 r1 r2 q2
theorem pe_op {op:Operator} {r:R2} (ho:OpR X (binaryOp op) r) (ha:PE X a ta) (hb:PE X b tb):PE X (.BinOp a op b pos) (tOp r ta tb):=by
  intro pins s σ H Q I h
  exact wpAny_BinOp (binT ha hb I h fun v u s2 x y H2 I2 rx ry q=>ho pins s2 σ H2 x y v u Q I2 rx ry q)
theorem pe_un {op:UnaryOp} {r:V→Hp→VK→Prop} (ho:UnR X (unaryOp op) r) (ha:PE X a ta):PE X (.UnaryOp op a pos) (tUn r ta):=by
  intro pins s σ H Q I h
  exact UnaryOp_ (thn (ha pins s σ H _ I h) fun v s1 ⟨x,H1,I1,r1,q1⟩=>ho pins s1 σ H1 x v Q I1 r1 q1)
theorem opI {f:Value→Value→Sem Value} {C:Int→Int→Prop} {g:Int→Int→Int}
    (rule:∀ (i j:Int) (t u:Tok) (s:Shared) (Q:Value→Shared→Prop) (E:Value→Shared→Prop),C i j→Q (.int (g i j) s.toks) { s with toks:=s.toks + 1 }→wpAny (model X.prog X.w) X.A (f (.int i t) (.int j u)) Q E s) :
    OpR X f (rI C fun i j=>.int (g i j)):=by
  intro pins s σ H x y v u Q I rx ry h
  obtain ⟨i,j,rfl,rfl,hc,q⟩:=h
  obtain ⟨t,rfl⟩:=rx
  obtain ⟨t',rfl⟩:=ry
  exact rule i j t t' s _ _ hc ⟨.int (g i j),H,I.tok _,⟨_,rfl⟩,q⟩
theorem opI0 {f:Value→Value→Sem Value} {g:Int→Int→Int}
    (rule:∀ (i j:Int) (t u:Tok) (s:Shared) (Q:Value→Shared→Prop) (E:Value→Shared→Prop),Q (.int (g i j) s.toks) { s with toks:=s.toks + 1 }→wpAny (model X.prog X.w) X.A (f (.int i t) (.int j u)) Q E s) :
    OpR X f (rI0 fun i j=>.int (g i j)):=by
  intro pins s σ H x y v u Q I rx ry h
  obtain ⟨i,j,rfl,rfl,q⟩:=h
  obtain ⟨t,rfl⟩:=rx
  obtain ⟨t',rfl⟩:=ry
  exact rule i j t t' s _ _ ⟨.int (g i j),H,I.tok _,⟨_,rfl⟩,q⟩
theorem opB0 {f:Value→Value→Sem Value} {g:Int→Int→Bool}
    (rule:∀ (i j:Int) (t u:Tok) (s:Shared) (Q:Value→Shared→Prop) (E:Value→Shared→Prop),Q (.bool (g i j)) s→wpAny (model X.prog X.w) X.A (f (.int i t) (.int j u)) Q E s) :
    OpR X f (rI0 fun i j=>.bl (g i j)):=by
  intro pins s σ H x y v u Q I rx ry h
  obtain ⟨i,j,rfl,rfl,q⟩:=h
  obtain ⟨t,rfl⟩:=rx
  obtain ⟨t',rfl⟩:=ry
  exact rule i j t t' s _ _ ⟨.bl (g i j),H,I,rfl,q⟩
def CDiv (i j:Int):Prop:=0<j∧j<1073741824
def CPow (i j:Int):Prop:=0≤j∧j≤1000000∧i.natAbs<2 ^ 64
def CMul (i j:Int):Prop:=(-(2 ^ 64)<i∧i<2 ^ 64)∨(-(2 ^ 64)<j∧j<2 ^ 64)
theorem CMul.ok {i j:Int} (h:CMul i j):IntMulOk i j:=by
  rcases h with ⟨h1,h2⟩ | ⟨h1,h2⟩
  · exact .of_left (intBits_le_64 h1 h2)
  · exact .of_right (intBits_le_64 h1 h2)
theorem op_add:OpR X (binaryOp .Add) (rI0 fun i j=>.int (i + j)):=opI0 fun _ _ _ _ _ _ _ q=>add_int q
theorem op_sub:OpR X (binaryOp .Sub) (rI0 fun i j=>.int (i - j)):=opI0 fun _ _ _ _ _ _ _ q=>sub_int q
theorem op_mul:OpR X (binaryOp .Mult) (rI CMul fun i j=>.int (i * j)):=opI fun _ _ _ _ _ _ _ hc q=>mul_int q hc.ok
theorem op_fdiv:OpR X (binaryOp .FloorDiv) (rI CDiv fun i j=>.int (i / j)):=opI fun i j _ _ _ _ _ hc q=>by
  have h1:(0:Int)<j:=hc.1
  have h2:j<1073741824:=hc.2
  exact floordiv_int (by omega) (by rw [Int.fdiv_eq_ediv_of_nonneg i (by omega)];exact q) (.inl (PyProof.noPylong_small (by omega)))
theorem op_mod:OpR X (binaryOp .Mod) (rI (fun _ j=>0<j) fun i j=>.int (i % j)):=opI fun i j _ _ _ _ _ hc q=>by
  have h1:(0:Int)<j:=hc
  exact mod_int' (by omega) (by rw [Int.fmod_eq_emod_of_nonneg i (by omega)];exact q)
theorem op_pow:OpR X (binaryOp .Pow) (rI CPow fun i j=>.int (i ^ j.toNat)):=opI fun _ _ _ _ _ _ _ hc q=>pow_int_small hc.1 hc.2.1 hc.2.2 q
theorem unI {f:Value→Sem Value} {g:Int→Int}
    (rule:∀ (i:Int) (t:Tok) (s:Shared) (Q:Value→Shared→Prop) (E:Value→Shared→Prop),Q (.int (g i) s.toks) { s with toks:=s.toks + 1 }→wpAny (model X.prog X.w) X.A (f (.int i t)) Q E s) :
    UnR X f (rU fun i=>.int (g i)):=by
  intro pins s σ H x v Q I rx h
  obtain ⟨i,rfl,q⟩:=h
  obtain ⟨t,rfl⟩:=rx
  exact rule i t s _ _ ⟨.int (g i),H,I.tok _,⟨_,rfl⟩,q⟩
theorem un_neg:UnR X (unaryOp .USub) (rU fun i=>.int (-i)):=unI fun _ _ _ _ _ q=>neg_int q
end
def scal:V→V→Bool
  | .non,.non=>true | .non,.int _=>true | .int _,.non=>true | .non,.bl _=>true | .bl _,.non=>true | .non,.str _=>true | .str _,.non=>true
  | .int _,.int _=>true | .bl _,.bl _=>true | .str _,.str _=>true | .byt _,.byt _=>true
  | .int _,.str _=>true | .str _,.int _=>true | .bl _,.str _=>true | .str _,.bl _=>true
  | _,_=>false
def rEq:R2:=fun x y H Q=>scal x y=true∧Q (.bl (decide (x=y))) H
def rNe:R2:=fun x y H Q=>scal x y=true∧Q (.bl (!decide (x=y))) H
theorem dec_int {i j:Int}:decide (V.int i=V.int j)=(i == j):=by
  rw [Bool.eq_iff_iff]
  simp
theorem dec_bl {i j:Bool}:decide (V.bl i=V.bl j)=(i == j):=by
  rw [Bool.eq_iff_iff]
  simp
theorem dec_str {i j:Str}:decide (V.str i=V.str j)=(i == j):=by
  rw [Bool.eq_iff_iff]
  simp
theorem dec_byt {i j:Array UInt8}:decide (V.byt i=V.byt j)=(i.toList == j.toList):=by
  rw [Bool.eq_iff_iff]
  cases i
  cases j
  simp
section
variable {X:Cx} {a b c:Expr} {ta tb tc:TE} {pos:Pos}
theorem fin_bl {pins:List (Addr × Obj)} {σ:St} {H:Hp} {s:Shared} {Q:VK} {k k':Bool} (I:Inv X pins σ H s) (q:Q (.bl k) H) (e:k=k'):EP X pins σ Q (.bool k') s:=by
  subst e
  exact ⟨.bl k,H,I,rfl,q⟩
theorem op_eq:OpR X (compareOp .Eq) rEq:=by
  intro pins s σ H x y v u Q I rx ry h
  obtain ⟨hs,q⟩:=h
  cases x with
  | non =>
    cases rx
    cases y with
    | non=>cases ry;exact PySem.EqNone.eq_none_none (fin_bl I q (by simp))
    | bl j=>cases ry;exact PySem.EqNone.eq_none_bool (fin_bl I q (by simp))
    | int j=>obtain ⟨t',rfl⟩:=ry;exact PySem.EqNone.eq_none_int (fin_bl I q (by simp))
    | str j=>obtain ⟨t',rfl⟩:=ry;exact PySem.EqNone.eq_none_str (fin_bl I q (by simp))
    | _=>exact absurd (show false=true from hs) Bool.false_ne_true
  | bl i =>
    cases rx
    cases y with
    | non=>cases ry;exact PySem.EqNone.eq_bool_none (fin_bl I q (by simp))
    | bl j=>cases ry;exact eq_bool (fin_bl I q dec_bl)
    | str j=>obtain ⟨t',rfl⟩:=ry;exact PySem.EqMixed.eq_bool_str (fin_bl I q (by simp))
    | _=>exact absurd (show false=true from hs) Bool.false_ne_true
  | int i =>
    obtain ⟨t,rfl⟩:=rx
    cases y with
    | non=>cases ry;exact PySem.EqNone.eq_int_none (fin_bl I q (by simp))
    | int j=>obtain ⟨t',rfl⟩:=ry;exact eq_int (fin_bl I q dec_int)
    | str j=>obtain ⟨t',rfl⟩:=ry;exact PySem.EqMixed.eq_int_str (fin_bl I q (by simp))
    | _=>exact absurd (show false=true from hs) Bool.false_ne_true
  | str i =>
    obtain ⟨t,rfl⟩:=rx
    cases y with
    | non=>cases ry;exact PySem.EqNone.eq_str_none (fin_bl I q (by simp))
    | bl j=>cases ry;exact PySem.EqMixed.eq_str_bool (fin_bl I q (by simp))
    | int j=>obtain ⟨t',rfl⟩:=ry;exact PySem.EqMixed.eq_str_int (fin_bl I q (by simp))
    | str j=>obtain ⟨t',rfl⟩:=ry;exact eq_str (fin_bl I q dec_str)
    | _=>exact absurd (show false=true from hs) Bool.false_ne_true
  | byt i =>
    obtain ⟨t,rfl⟩:=rx
    cases y with
    | byt j=>obtain ⟨t',rfl⟩:=ry;exact PySem.W.eq_bytes (fin_bl I q dec_byt)
    | _=>exact absurd (show false=true from hs) Bool.false_ne_true
  | _=>cases y <;> exact absurd (show false=true from hs) Bool.false_ne_true
theorem op_ne:OpR X (compareOp .NotEq) rNe:=by
  intro pins s σ H x y v u Q I rx ry h
  obtain ⟨hs,q⟩:=h
  cases x with
  | non =>
    cases rx
    cases y with
    | non=>cases ry;exact PySem.EqNone.ne_none_none (fin_bl I q (by simp))
    | bl j=>cases ry;exact PySem.EqNone.ne_none_bool (fin_bl I q (by simp))
    | int j=>obtain ⟨t',rfl⟩:=ry;exact PySem.EqNone.ne_none_int (fin_bl I q (by simp))
    | str j=>obtain ⟨t',rfl⟩:=ry;exact PySem.EqNone.ne_none_str (fin_bl I q (by simp))
    | _=>exact absurd (show false=true from hs) Bool.false_ne_true
  | bl i =>
    cases rx
    cases y with
    | non=>cases ry;exact PySem.EqNone.ne_bool_none (fin_bl I q (by simp))
    | bl j=>cases ry;exact ne_bool (fin_bl I q (congrArg not dec_bl))
    | str j=>obtain ⟨t',rfl⟩:=ry;exact PySem.EqMixed.ne_bool_str (fin_bl I q (by simp))
    | _=>exact absurd (show false=true from hs) Bool.false_ne_true
  | int i =>
    obtain ⟨t,rfl⟩:=rx
    cases y with
    | non=>cases ry;exact PySem.EqNone.ne_int_none (fin_bl I q (by simp))
    | int j=>obtain ⟨t',rfl⟩:=ry;exact ne_int (fin_bl I q (congrArg not dec_int))
    | str j=>obtain ⟨t',rfl⟩:=ry;exact PySem.EqMixed.ne_int_str (fin_bl I q (by simp))
    | _=>exact absurd (show false=true from hs) Bool.false_ne_true
  | str i =>
    obtain ⟨t,rfl⟩:=rx
    cases y with
    | non=>cases ry;exact PySem.EqNone.ne_str_none (fin_bl I q (by simp))
    | bl j=>cases ry;exact PySem.EqMixed.ne_str_bool (fin_bl I q (by simp))
    | int j=>obtain ⟨t',rfl⟩:=ry;exact PySem.EqMixed.ne_str_int (fin_bl I q (by simp))
    | str j=>obtain ⟨t',rfl⟩:=ry;exact ne_str (fin_bl I q (congrArg not dec_str))
    | _=>exact absurd (show false=true from hs) Bool.false_ne_true
  | byt i =>
    obtain ⟨t,rfl⟩:=rx
    cases y with
    | byt j=>obtain ⟨t',rfl⟩:=ry;exact PySem.W.ne_bytes (fin_bl I q (congrArg not dec_byt))
    | _=>exact absurd (show false=true from hs) Bool.false_ne_true
  | _=>cases y <;> exact absurd (show false=true from hs) Bool.false_ne_true
theorem op_lt:OpR X (compareOp .Lt) (rI0 fun i j=>.bl (decide (i<j))):=opB0 fun _ _ _ _ _ _ _ q=>lt_int q
theorem op_le:OpR X (compareOp .LtE) (rI0 fun i j=>.bl (decide (i≤j))):=opB0 fun _ _ _ _ _ _ _ q=>le_int q
theorem op_gt:OpR X (compareOp .Gt) (rI0 fun i j=>.bl (decide (j<i))):=opB0 fun _ _ _ _ _ _ _ q=>gt_int q
theorem op_ge:OpR X (compareOp .GtE) (rI0 fun i j=>.bl (decide (j≤i))):=opB0 fun _ _ _ _ _ _ _ q=>ge_int q
theorem nomark (b:Expr) {op:CmpOp} (h:op≠.In:=by decide) (h2:op≠.NotIn:=by decide):behindInMarks op b=false:=by
  have e1:(op == CmpOp.In)=false:=by cases op <;> first | rfl | exact absurd rfl h
  have e2:(op == CmpOp.NotIn)=false:=by cases op <;> first | rfl | exact absurd rfl h2
  cases b <;> simp [behindInMarks,e1,e2]
theorem pe_cmpR {op:CmpOp} {r:R2} (ho:OpR X (compareOp op) r) (ha:PE X a ta) (hb:PE X b tb) (hm:behindInMarks op b=false):PE X (.Compare a [op] [b] pos) (tOp r ta tb):=by
  intro pins s σ H Q I h
  exact wpAny_Compare1 (binT ha hb I h fun v u s2 x y H2 I2 rx ry q=>ho pins s2 σ H2 x y v u Q I2 rx ry q) hm
def tTest (t:TE):TT:=fun σ H Q=>t σ H fun x H'=>∃ k,x=.bl k∧Q k H'
theorem pt_cmpR {op:CmpOp} {r:R2} (ho:OpR X (compareOp op) r) (ha:PE X a ta) (hb:PE X b tb) (hm:behindInMarks op b=false):PT X (.Compare a [op] [b] pos) (tTest (tOp r ta tb)):=by
  intro pins s σ H Q I h
  refine wpAny_isTrue_Compare1 (thn (ha pins s σ H _ I h) fun v s1 ⟨x,H1,I1,r1,q1⟩=>thn (hb pins s1 σ H1 _ I1 q1) fun u s2 ⟨y,H2,I2,r2,q2⟩ =>
    thn (ho pins s2 σ H2 x y v u _ I2 r1 r2 q2) fun c s3 ⟨z,H3,I3,r3,k,e,q3⟩=>?_) hm
  subst e
  cases r3
  exact wpAny_truthy_bool ⟨H3,I3,q3⟩
def tChain (r r':R2) (ta tb tc:TE):TE:=fun σ H Q=>ta σ H fun x H1=>tb σ H1 fun y H2=>r x y H2 fun z H3=>∃ k,z=.bl k ∧
  (if k=true then tc σ H3 fun w' H4=>r' y w' H4 Q else Q (.bl false) H3)
theorem pt_chain {op op':CmpOp} {r r':R2} (ho:OpR X (compareOp op) r) (ho':OpR X (compareOp op') r') (ha:PE X a ta) (hb:PE X b tb) (hc:PE X c tc)
    (hm:lastMarks [op,op'] [b,c]=false:=by with_unfolding_all rfl):PT X (.Compare a [op,op'] [b,c] pos) (tTest (tChain r r' ta tb tc)):=by
  intro pins s σ H Q I h
  refine isTrue_chain (thn (ha pins s σ H _ I h) fun v s1 ⟨x,H1,I1,r1,q1⟩=>test_link (thn (hb pins s1 σ H1 _ I1 q1) fun u s2 ⟨y,H2,I2,r2,q2⟩ =>
    thn (ho pins s2 σ H2 x y v u _ I2 r1 r2 q2) fun d s3 ⟨z,H3,I3,r3,k,e,q3⟩=>?_)) hm
  subst e
  cases r3
  refine wpAny_truthy_bool ?_
  cases k with
  | false =>
    obtain ⟨k',e',q'⟩:=q3
    cases e'
    exact ite_ff ⟨H3,I3,q'⟩
  | true =>
    refine ite_tt (test_last (thn (hc pins s3 σ H3 _ I3 q3) fun w' s4 ⟨z',H4,I4,r4,q4⟩=>thn (ho' pins s4 σ H4 y z' u w' _ I4 r2 r4 q4) fun d' s5 ⟨z2,H5,I5,r5,k2,e2,q5⟩=>?_))
    subst e2
    cases r5
    exact wpAny_truthy_bool ⟨H5,I5,q5⟩
def TruV (K:PySem.W.Frag) (x:V) (H:Hp) (k:Bool):Prop :=
  match x with
  | .non=>k=false
  | .bl b=>k=b
  | .int i=>k=(i != 0)
  | .str y=>y.length≤sizeLine∧k=((y.length:Int) != 0)
  | .byt y=>y.size≤sizeLine∧k=((y.size:Int) != 0)
  | .ref p=>(∃ xs,SqL K H p xs∧k=!xs.isEmpty)∨(∃ xs,SqT K H p xs∧k=!xs.isEmpty)∨∃ kvs,H p=some (.dK kvs)∧k=!kvs.isEmpty
  | _=>False
theorem isEmpty_kv {κ:Type} {kvs:List (κ × V)} {vs:List (κ × Value)} (r:KV kvs vs):(!vs.isEmpty)=!kvs.isEmpty:=by
  cases r <;> rfl
theorem isEmpty_of {xs:List V} {its:List Value} (r:Vals xs its):(!its.toArray.isEmpty)=!xs.isEmpty:=by
  cases r <;> simp
theorem line63:(sizeLine:Nat)<2 ^ 63:=by rw [sizeLine_eq];decide
theorem tru_ok:TruR X (fun x H Q=>∃ k,TruV X.K x H k∧Q k H):=by
  intro pins s σ H x v Q I rx h
  obtain ⟨k,e,q⟩:=h
  have hl:=line63
  have hs:sizeLine=16777216:=sizeLine_eq
  cases x with
  | non =>
    cases rx
    have e':k=false:=e
    subst e'
    exact truthy_none ⟨H,I,q⟩
  | bl b =>
    cases rx
    have e':k=b:=e
    subst e'
    exact wpAny_truthy_bool ⟨H,I,q⟩
  | int i =>
    obtain ⟨t,rfl⟩:=rx
    have e':k=(i != 0):=e
    subst e'
    exact PySem.P.truthy_int ⟨H,I,q⟩
  | str y =>
    obtain ⟨t,rfl⟩:=rx
    obtain ⟨hy,e'⟩:y.length≤sizeLine∧k=((y.length:Int) != 0):=e
    subst e'
    exact PySem.P.truthy_str (by omega) ⟨H,I.tok _,q⟩
  | byt y =>
    obtain ⟨t,rfl⟩:=rx
    obtain ⟨hy,e'⟩:y.size≤sizeLine∧k=((y.size:Int) != 0):=e
    subst e'
    exact PySem.W.truthy_bytes (by omega) ⟨H,I.tok _,q⟩
  | ref p =>
    cases rx
    have e':(∃ xs,SqL X.K H p xs∧k=!xs.isEmpty)∨(∃ xs,SqT X.K H p xs∧k=!xs.isEmpty)∨∃ kvs,H p=some (.dK kvs)∧k=!kvs.isEmpty:=e
    rcases e' with ⟨xs,hx,e'⟩ | ⟨xs,hx,e'⟩ | ⟨kvs,hx,e'⟩
    · subst e'
      obtain ⟨its,r,pl,hz⟩:=I.list hx
      have hlen:=r.length
      exact wpAny_truthy_list pl.isList (by simp only [List.size_toArray];omega) ⟨H,I.tok _,by rw [isEmpty_of r];exact q⟩
    · subst e'
      obtain ⟨its,r,pl,hz⟩:=I.tuple hx
      have hlen:=r.length
      exact truthy_tuple pl (by simp only [List.size_toArray];omega) ⟨H,I.tok _,by rw [isEmpty_of r];exact q⟩
    · subst e'
      obtain ⟨hz,hS,vs,r,m⟩:kvs.length≤sizeLine∧(p == sysModules)=false∧∃ vs,KV kvs vs∧s.heap.DictOf (mixKind X.prog X.w) p vs:=I.hok p _ hx
      have hlen:kvs.length=vs.length:=Paired.length r
      exact wpAny_truthy_dict hS m (by omega) ⟨H,I.tok _,by rw [isEmpty_kv r];exact q⟩
  | _=>exact (show False from e).elim
theorem pt_truth (ha:PE X a ta) (he:∀ whole,isTrue a X.env whole=(do let v ← whole;standAt a.pos;holding [v] (truthy v))) :
    PT X a (fun σ H Q=>ta σ H fun x H'=>∃ k,TruV X.K x H' k∧Q k H'):=by
  intro pins s σ H Q I h
  exact isTrue_plain (thn (ha pins s σ H _ I h) fun v s1 ⟨x,H1,I1,r1,q1⟩=>tru_ok pins s1 σ H1 x v Q I1 r1 q1) (he _)
theorem vals1 {x:V} {us:List Value} (r:Vals [x] us):∃ u,us=[u]∧RelV x u:=by
  cases r with
  | cons r1 r2=>cases r2;exact ⟨_,rfl,r1⟩
theorem vals2 {x y:V} {us:List Value} (r:Vals [x,y] us):∃ u w',us=[u,w']∧RelV x u∧RelV y w':=by
  cases r with
  | cons r1 r2 =>
    cases r2 with
    | cons r3 r4=>cases r4;exact ⟨_,_,rfl,r1,r3⟩
theorem call_max2 (hc:X.calm=true):CallR X (.builtin "max") (fun xs H Q=>∃ i j,xs=[.int i,.int j]∧Q (.int (if j > i then j else i)) H):=by
  intro pins s σ H xs us Q I r h
  obtain ⟨i,j,rfl,q⟩:=h
  obtain ⟨u,w',rfl,⟨t,rfl⟩,⟨t',rfl⟩⟩:=vals2 r
  refine max_two_ints (I.ok.hd hc) fun h' tk k=>⟨_,H,I.kept k,?_,q⟩
  by_cases hj:j > i
  · rw [if_pos hj,if_pos hj];exact ⟨_,rfl⟩
  · rw [if_neg hj,if_neg hj];exact ⟨_,rfl⟩
theorem call_min2 (hc:X.calm=true):CallR X (.builtin "min") (fun xs H Q=>∃ i j,xs=[.int i,.int j]∧Q (.int (if j<i then j else i)) H):=by
  intro pins s σ H xs us Q I r h
  obtain ⟨i,j,rfl,q⟩:=h
  obtain ⟨u,w',rfl,⟨t,rfl⟩,⟨t',rfl⟩⟩:=vals2 r
  refine min_two_ints (I.ok.hd hc) fun h' tk k=>⟨_,H,I.kept k,?_,q⟩
  by_cases hj:j<i
  · rw [if_pos hj,if_pos hj];exact ⟨_,rfl⟩
  · rw [if_neg hj,if_neg hj];exact ⟨_,rfl⟩
end
end L2
namespace L2
open PySem PySem.Spec PyProof.Rows
structure ObjM (h:Heap) (x dx C:Addr) (mA:Str→Option Value):Prop where
  obj:h.get? x=some (PySem.W.instObj C dx)
  ns:h.Ns1 dx mA
  ne:dx≠x
theorem lookIn_ns {h:Heap} {dx:Addr} {mA:Str→Option Value} (n:h.Ns1 dx mA):∃ od,h.get? dx=some od∧∀ name,PySem.W.lookIn name od=some (mA name):=by
  obtain ⟨o,es,ep,ho,hd,hk,_,hm⟩:=n
  refine ⟨o,ho,fun name=>?_⟩
  have e:=hm name
  unfold nsFind findBy at e
  rw [← Array.find?_toList] at e
  unfold PySem.W.lookIn
  rw [hd]
  dsimp only
  split
  · rename_i y q
    rw [q] at e
    exact congrArg some e
  · rename_i q
    rw [q] at e
    have a:es.toList.any (·.refKey)=false:=by
      rw [List.any_eq_false]
      intro y hy
      obtain ⟨z,t,hkey⟩:=hk y (Array.mem_toList_iff.mp hy)
      simp [DictEntry.refKey,hkey]
    have a':¬ es.toList.any (·.refKey)=true:=by rw [a];exact Bool.false_ne_true
    rw [if_neg a']
    exact congrArg some e
theorem ObjM.look {h:Heap} {x dx C:Addr} {mA:Str→Option Value} (I:ObjM h x dx C mA):∃ od,PySem.W.InstAt h x (PySem.W.instObj C dx) C (some od)∧∀ name,PySem.W.lookIn name od=some (mA name) :=
  let ⟨od,ho,hl⟩:=lookIn_ns I.ns
  ⟨od,⟨I.obj,rfl,rfl,ho⟩,hl⟩
section
variable {prog:Program} {w:World} {A:Around} {E:Value→Shared→Prop} {s:Shared} {K:PySem.W.Frag} {x dx C f:Addr} {mA:Str→Option Value} {name:Str} {v:Value}
end
section
variable {P:Program} {w:World} {H H':Hp} {h h':Heap} {a C dx:Addr} {fs fs':List (Str × V)}
theorem ins_get (hok:HOk P w H h) (e:H a=some (.ins C dx fs)):∃ mA,ObjM h a dx C mA∧(∀ f,RelO (fs.lookup f) (mA f))∧PySem.Within mA (fs.map (·.1))∧fs.length≤1000∧H dx=some (.own a):=by
  obtain ⟨d,z,ne,ob,mA,n,r,q⟩:=(show ObjOk P w H h a (.ins C dx fs) from hok a _ e)
  exact ⟨mA,⟨ob,n,ne⟩,r,q,z,d⟩
end
structure Cls (K:PySem.W.Frag) (C:Addr):Prop where
  pg:PySem.W.plainGet K C Str.empty=true
  hd:PySem.W.hasDictIn K C=true
  po:PySem.W.plainOver K C=true
  sa:PySem.W.findIn K (.ref C) "__setattr__"=some (some (.builtin "object.__setattr__"))
theorem Cls.get {K:PySem.W.Frag} {C:Addr} (c:Cls K C) (f:Str):PySem.W.plainGet K C f=true:=c.pg
section
variable {X:Cx} {pins:List (Addr × Obj)} {σ:St} {H:Hp} {s:Shared} {a C dx:Addr} {fs:List (Str × V)} {f:Str} {v:V} {A:Around} {E:Value→Shared→Prop}
end
section
variable {X:Cx} {o e value:Expr} {f:Str} {pos pos' tpos:Pos} {ta tv:TE}
end
section
variable {X:Cx} {pins:List (Addr × Obj)} {σ:St} {H:Hp} {s:Shared} {A:Around} {E:Value→Shared→Prop} {Q:Value→Shared→Prop} {c:Value} {b:Bool}
inductive TyOf (K:PySem.W.Frag) (H:Hp):V→Value→Prop where
  | non:TyOf K H .non (.type "NoneType")
  | bl (x:Bool):TyOf K H (.bl x) (.type "bool")
  | int (i:Int):TyOf K H (.int i) (.type "int")
  | str (x:Str):TyOf K H (.str x) (.type "str")
  | flt (x:UInt64):TyOf K H (.flt x) (.type "float")
  | lst {a:Addr} {xs:List V} (e:H a=some (.lst xs)):TyOf K H (.ref a) (.type "list")
  | frz {a:Addr} {o:Obj} {xs:List V} (e:H a=some (.frz o (.lst xs))):TyOf K H (.ref a) (.type "list")
  | tup {a:Addr} {xs:List V} (e:H a=some (.tup xs)):TyOf K H (.ref a) (.type "tuple")
  | dK {a:Addr} {kvs:List (Key × V)} (e:H a=some (.dK kvs)):TyOf K H (.ref a) (.type "dict")
  | dT {a:Addr} {kvs:List (List Key × V)} (e:H a=some (.dT kvs)):TyOf K H (.ref a) (.type "dict")
  | ins {a C dx:Addr} {fs:List (Str × V)} (e:H a=some (.ins C dx fs)) (cl:Cls K C) (ha:PySem.W.findIn K (.ref C) "__class__"=some (some (.builtin "object.__class__")))
      (hn:PySem.W.specialIn K (.builtin "object.__class__") "__get__"=some (some (.builtin "getset_descriptor.__get__"))) (htk:PySem.W.takesIn K (.builtin "object.__class__")=some true)
      (hm:PySem.W.mroIn K C (.type "object")=some true):TyOf K H (.ref a) (.ref C)
theorem isinst_ok {x:V} {u t:Value} (I:Inv X pins σ H s) (rx:RelV x u) (ty:TyOf X.K H x t) (e:PySem.W.kitOne X.K t c=some b) (h:∀ tk,Q (.bool b) { s with toks:=tk }) :
    wpAny (model X.prog X.w) A (call (.builtin "isinstance") [u,c]) Q E s:=by
  cases ty with
  | non=>cases (show u=Value.none from rx);exact PySem.W.kia_one PySem.W.kitx_none I.kIn True.intro e (fun z=>nomatch z) h
  | bl y=>cases (show u=Value.bool y from rx);exact PySem.W.kia_one PySem.W.kitx_bool I.kIn True.intro e (fun z=>nomatch z) h
  | int i=>obtain ⟨t,q⟩:=(show ∃ t,u=Value.int i t from rx);cases q;exact PySem.W.kia_one PySem.W.kitx_int I.kIn True.intro e (fun z=>nomatch z) h
  | str y=>obtain ⟨t,q⟩:=(show ∃ t,u=Value.str y t from rx);cases q;exact PySem.W.kia_one PySem.W.kitx_str I.kIn True.intro e (fun z=>nomatch z) h
  | flt y=>obtain ⟨t,q⟩:=(show ∃ t,u=Value.float y t from rx);cases q;exact PySem.W.kia_one PySem.W.kitx_float I.kIn True.intro e (fun z=>nomatch z) h
  | @lst a xs ea =>
    cases (show u=Value.ref a from rx)
    obtain ⟨_,_,n,_,h1⟩:=(show ObjOk X.prog X.w H s.heap a (.lst xs) from I.hok a _ ea)
    exact PySem.W.kia_one PySem.W.kitx_list I.kIn ⟨_,h1,rfl⟩ e (fun z=>nomatch z) h
  | @frz a ob xs ea =>
    cases (show u=Value.ref a from rx)
    obtain ⟨_,_,_,n,_,h1⟩:=(show ObjOk X.prog X.w H s.heap a (.frz ob (.lst xs)) from I.hok a _ ea)
    exact PySem.W.kia_one PySem.W.kitx_list I.kIn ⟨_,h1,rfl⟩ e (fun z=>nomatch z) h
  | @tup a xs ea =>
    cases (show u=Value.ref a from rx)
    obtain ⟨_,_,_,p⟩:=(show ObjOk X.prog X.w H s.heap a (.tup xs) from I.hok a _ ea)
    obtain ⟨o,h1,h2,_⟩:=p
    exact PySem.W.kia_one PySem.W.kitx_tuple I.kIn ⟨o,h1,h2⟩ e (fun z=>nomatch z) h
  | @dK a kvs ea =>
    cases (show u=Value.ref a from rx)
    obtain ⟨_,_,vs,_,p⟩:=(show ObjOk X.prog X.w H s.heap a (.dK kvs) from I.hok a _ ea)
    obtain ⟨o,es,ep,h1,h2,_⟩:=p
    exact PySem.W.kia_one PySem.W.kitx_dict I.kIn ⟨o,h1,h2.1⟩ e (fun z=>nomatch z) h
  | @dT a kvs ea =>
    cases (show u=Value.ref a from rx)
    obtain ⟨_,_,xs,_,o,es,ep,h1,h2,_⟩:=(show ObjOk X.prog X.w H s.heap a (.dT kvs) from I.hok a _ ea)
    exact PySem.W.kia_one PySem.W.kitx_dict I.kIn ⟨o,h1,h2.1⟩ e (fun z=>nomatch z) h
  | @ins a C dx fs ea cl ha hn htk hm =>
    cases (show u=Value.ref a from rx)
    obtain ⟨mA,O,_⟩:=ins_get I.hok ea
    obtain ⟨od,J,_⟩:=O.look
    exact PySem.W.kia_one (PySem.W.kitx_own (cl.get _) cl.hd ha hn htk hm) I.kIn J e (fun z=>nomatch z) h
end
end L2
namespace L2
open PySem PySem.Spec PyProof.Rows
structure Room (k:Nat) (A:Around):Prop where
  hd:A.handled=none
  dp:A.depth + 3 * k + 5<recursionLimit
  un:A.units + 16 * k + 200<cLine
theorem Room.mono {j k:Nat} {A:Around} (r:Room k A) (h:j≤k):Room j A:=⟨r.hd,by have:=r.dp;omega,by have:=r.un;omega⟩
theorem Room.deeper {k:Nat} {A:Around} (r:Room (k + 1) A) (env:Env):Room k (A.deeper env) :=
  ⟨r.hd,by have:=r.dp;show A.depth + 1 + 3 * k + 5<_;omega,by have:=r.un;show A.units + 3 + 16 * k + 200<_;omega⟩
theorem Room.depth {k:Nat} {A:Around} (r:Room k A):A.depth<recursionLimit:=by have:=r.dp;omega
theorem Room.units {k:Nat} {A:Around} (r:Room k A):A.units + 64<cLine:=by have:=r.un;omega
def tNil:TA:=fun _ H Q=>Q [] H
def tCons (ta:TE) (tr:TA):TA:=fun σ H Q=>ta σ H fun x H1=>tr σ H1 fun xs H2=>Q (x :: xs) H2
section
variable {X:Cx} {e:Expr} {es:List Expr} {te:TE} {t:TA} {pos:Pos}
theorem pa_nil:PA X [] tNil:=fun _ _ _ _ H Q I h=>Calls.spliced_nil ⟨[],H,I,.nil,h⟩
theorem pa_cons (ha:PE X e te) (hr:PA X es t) (hs:starEach (e :: es) X.env=(false,eval e X.env) :: starEach es X.env:=by rfl):PA X (e :: es) (tCons te t):=by
  intro pos pins s σ H Q I h
  rw [hs]
  show wpAny _ _ (spliced ((false,eval e X.env) :: backTo pos (starEach es X.env))) _ _ s
  refine Calls.spliced_cons (thn (ha pins s σ H _ I h) fun u s1 ⟨x,H1,I1,r1,q1⟩=>?_)
  exact thn (hr pos pins s1 σ H1 _ I1 q1) fun us s2 ⟨xs,H2,I2,r2,q2⟩=>⟨x :: xs,H2,I2,.cons r1 r2,q2⟩
def tTup (t:TA):TE:=fun σ H Q=>t σ H fun xs H1=>xs.length≤sizeLine∧∀ p,H1 p=none→Q (.ref p) (upd H1 p (.tup xs))
def tLst (t:TA):TE:=fun σ H Q=>t σ H fun xs H1=>xs.length≤sizeLine∧∀ p,H1 p=none→Q (.ref p) (upd H1 p (.lst xs))
theorem pe_tup {x1} (h:PA X es t):PE X (.Tuple es x1 pos) (tTup t):=by
  intro pins s σ H Q I hq
  refine wpAny_Tuple_spliced (thn (h pos pins s σ H _ I hq) fun us s1 ⟨xs,H1,I1,r,z,q⟩=>⟨by rw [← r.length];exact z,?_⟩)
  have hf:H1 s1.heap.objs.size=none:=I1.hok.fresh (Nat.le_refl _)
  refine ⟨.ref s1.heap.objs.size,upd H1 s1.heap.objs.size (.tup xs),I1.laid (t':=s1.toks) (fun b u e=>Heap.get?_push_of_some _ e) (Nat.le_refl _) ?_,rfl,q _ hf⟩
  exact ⟨z,us,r,⟨_,Heap.get?_push_size _ rfl,rfl,_,rfl⟩⟩
theorem pe_lst (h:PA X es t):PE X (.List es pos) (tLst t):=by
  intro pins s σ H Q I hq
  refine wpAny_List_spliced (thn (h pos pins s σ H _ I hq) fun us s1 ⟨xs,H1,I1,r,z,q⟩=>⟨by rw [← r.length];exact z,?_⟩)
  have hf:H1 s1.heap.objs.size=none:=I1.hok.fresh (Nat.le_refl _)
  refine ⟨.ref s1.heap.objs.size,upd H1 s1.heap.objs.size (.lst xs),I1.laid (t':=s1.toks) (fun b u e=>Heap.get?_push_of_some _ e) (Nat.le_refl _) ?_,rfl,q _ hf⟩
  exact ⟨z,us,0,r,Heap.get?_push_size _ rfl⟩
end
abbrev Sp:=List V→Hp→VK→XK→Prop
abbrev CXT:=List Env→Hp→Shared→XK→Value→Shared→Prop
structure Env0 (P:Program) (w:World) (K:PySem.W.Frag) (mg:Str→Option Value) (base:Heap) (A:Around) (outer:List Env) (s:Shared) (H:Hp):Prop where
  frames:A.frames=some outer
  mod:Mod K mg base
  bs:∀ b o,base.get? b=some o→s.heap.get? b=some o∧H b=none
  bsz:base.objs.size≤s.heap.objs.size
  funs:s.heap.FunFrames base outer
  frf:∀ b∈frs outer,H b=none
  hok:HOk P w H s.heap
  bare:AllBare s.gens
def CE (outer:List Env) (P:Program) (w:World) (H:Hp) (s:Shared) (Q:VK) (u:Value) (s':Shared):Prop :=
  ∃ v H',s'.os=s.os∧AllBare s'.gens∧Un (frs outer) [] H H' s.heap s'.heap∧HOk P w H' s'.heap∧RelV v u∧Q v H'
def CR (CX:CXT) (outer:List Env) (P:Program) (w:World) (H:Hp) (s:Shared) (Q:VK) (E:XK) (r:Result) (s':Shared):Prop :=
  match r with
  | .ok (.ret u)=>CE outer P w H s Q u s'
  | .ok _=>False
  | .error e=>CX outer H s E e s'
structure FnOk (P:Program) (w:World) (K:PySem.W.Frag) (mg:Str→Option Value) (base:Heap) (CX:CXT) (k:Nat) (f:Addr) (fd:FuncData) (ps:List Str) (sp:Sp):Prop where
  len:∀ vs H Q E,sp vs H Q E→vs.length=ps.length
  run:∀ (A:Around) (outer:List Env) (s:Shared) (H:Hp) (args:Args) (us:List Value) (vs:List V) (Q:VK) (E:XK),Room k A→Env0 P w K mg base A outer s H→BindsTo s fd args (ps.zip us)→Vals vs us→sp vs H Q E →
    codeAny (model P w) A (.call (.ref f) args) (CR CX outer P w H s Q E) s
section
variable {X:Cx} {pins:List (Addr × Obj)} {σ:St} {H:Hp} {s s':Shared}
theorem Inv.env0 (I:Inv X pins σ H s):Env0 X.prog X.w X.K X.mg X.base X.A X.stack s H :=
  ⟨I.ok.frames,I.ok.mod,I.bs,Nat.le_trans I.ok.bsz I.sz,I.stack,I.stkFree,I.hok,I.bare⟩
theorem Inv.after {Q:VK} {u:Value} (I:Inv X pins σ H s) (h:CE X.stack X.prog X.w H s Q u s'):EP X pins σ Q u s':=by
  obtain ⟨v,H',os,bare,un,hok,r,q⟩:=h
  obtain ⟨hh,g,d,t,os'⟩:=s'
  obtain rfl:os'=s.os:=os
  exact ⟨v,H',I.call (h':=hh) (g':=g) (d':=d) (t':=t) (ch:=[]) un hok bare (fun b z=>absurd z (by simp)),r,q⟩
end
def tCall (sp:Sp) (dvs:List V) (E:XK) (t:TA):TE:=fun σ H Q=>t σ H fun vs H1=>sp (vs++dvs) H1 Q E
def Binds (K:PySem.W.Frag) (fd:FuncData) (ps:List Str) (ds:List Value):Prop :=
  ∀ (s:Shared) (us:List Value),K.In s.heap→(us++ds).length=ps.length→BindsTo s fd ⟨us,[]⟩ (ps.zip (us++ds))
theorem Binds.all {K:PySem.W.Frag} {fd:FuncData} {ps:List Str} (h:∀ us:List Value,us.length=ps.length→bindArgs fd ⟨us,[]⟩=pure (ps.zip us)):Binds K fd ps []:=fun s us _ hl=>by
  rw [List.append_nil] at hl ⊢
  exact .of_eq (h us hl)
def Passes (CX:CXT) (X:Cx) (E:XK):Prop:=∀ (pins:List (Addr × Obj)) (σ:St) (H:Hp) (s:Shared) (e:Value) (s':Shared),Inv X pins σ H s→CX X.stack H s E e s'→X.xe e s'
section
variable {X:Cx} {CX:CXT} {k:Nat} {f C:Addr} {fd:FuncData} {ps:List Str} {sp:Sp} {dvs:List V} {ds:List Value} {E:XK} {x m:Str} {p pos apos:Pos} {e o:Expr} {es:List Expr} {ta:TE} {t:TA}
theorem run_fn {pins:List (Addr × Obj)} {σ:St} {H:Hp} {s:Shared} {Q:VK} {us:List Value} {vs:List V} (F:FnOk X.prog X.w X.K X.mg X.base CX k f fd ps sp) (hr:Room k X.A) (hb:Binds X.K fd ps ds) (hd:Vals dvs ds) (hx:Passes CX X E)
    (I:Inv X pins σ H s) (r:Vals vs us) (h:sp (vs++dvs) H Q E):wpAny (model X.prog X.w) X.A (call (.ref f) us) (EP X pins σ Q) X.xe s:=by
  have r2:Vals (vs++dvs) (us++ds):=r.append hd
  have hl:(us++ds).length=ps.length:=by rw [← r2.length];exact F.len _ _ _ _ h
  refine wpAny_call (codeAny_mono (F.run X.A X.stack s H ⟨us,[]⟩ (us++ds) (vs++dvs) Q E hr I.env0 (hb s us I.kIn hl) r2 h) fun r s' hq=>?_)
  cases r with
  | error e=>exact hx pins σ H s e s' I hq
  | ok fl =>
    cases fl with
    | ret u=>exact I.after hq
    | next=>exact False.elim hq
    | brk=>exact False.elim hq
    | cont=>exact False.elim hq
theorem pe_call (F:FnOk X.prog X.w X.K X.mg X.base CX k f fd ps sp) (hr:Room k X.A) (hg:Gl X x) (hm:X.mg x=some (.ref f)) (hk:PySem.W.keepIn X.K (.ref f)=true) (hb:Binds X.K fd ps ds) (hd:Vals dvs ds) (hx:Passes CX X E)
    (ha:PA X (e :: es) t) (hdb:(x == ("__debug__":Str))=false:=by decide) (he:starEach (e :: es) X.env=(false,eval e X.env) :: starEach es X.env:=by rfl) (hpl:(backTo pos (starEach es X.env)).any (·.1)=false:=by rfl) :
    PE X (.Call (.Name x p) (e :: es) [] pos) (tCall sp dvs E t):=by
  intro pins s σ H Q I h
  refine wpAny_Call_Name_kw (ld_glob I hg hm ?_ hdb)
  refine PySem.W.callWith_K (h₀:=X.base) I.ok.mod.kin hk (thn (ha pos pins s σ H _ I h) fun us s1 ⟨vs,H1,I1,r,q⟩=>⟨I1.kIn,?_⟩) he hpl
  exact run_fn F hr hb hd hx I1 r q
end
section
variable {X:Cx} {CX:CXT} {k:Nat} {f C:Addr} {fd:FuncData} {ps ks:List Str} {sp:Sp} {E:XK} {x m:Str} {p pos apos kpos:Pos} {e o:Expr} {es:List Expr} {kws:List Keyword} {te ta:TE} {t tk:TA} {nm:Option Str}
variable {g:List Value→List Value→List Value} {gV:List V→List V→List V}
end
structure FnScope (N P:List Str) (sc:Scope):Prop where
  kind:sc.kind=.function
  co:sc.isCoroutine=false
  gen:sc.isGenerator=false
  nd:N.Nodup
  pre:N.take P.length=P
  par:∀ x∈P,sc.names.lookup x=some .local∨sc.names.lookup x=some .cell
  nofree:∀ y∈sc.names,y.2≠.free
theorem bindL_out {kindOf:Str→Option NameKind} {x:Str}:∀ {binds:List (Str × Value)} {m:Str→Option Value},(∀ v,(x,v) ∉ binds)→bindL kindOf binds m x=m x
  | [],_,_=>rfl
  | (n,v) :: r,m,h=>by
    unfold bindL
    rw [bindL_out fun w hw=>h w (List.mem_cons_of_mem _ hw)]
    split
    · have:x≠n:=by rintro rfl;exact h v List.mem_cons_self
      simp [this]
    · rfl
theorem bindC_out {kindOf:Str→Option NameKind} {x:Str}:∀ {binds:List (Str × Value)} {m:Str→Option Value},(∀ v,(x,v) ∉ binds)→bindC kindOf binds m x=m x
  | [],_,_=>rfl
  | (n,v) :: r,m,h=>by
    unfold bindC
    rw [bindC_out fun w hw=>h w (List.mem_cons_of_mem _ hw)]
    split
    · rfl
    · have:x≠n:=by rintro rfl;exact h v List.mem_cons_self
      simp [this]
theorem bindL_get {kindOf:Str→Option NameKind} {x:Str} {v:Value}:∀ {P:List Str} {vs:List Value} {i:Nat} {m:Str→Option Value},P.Nodup→P[i]?=some x→vs[i]?=some v→kindOf x=some .local →
    bindL kindOf (P.zip vs) m x=some v
  | [],_,_,_,_,h,_,_=>by simp at h
  | _ :: _,[],_,_,_,_,h,_=>by simp at h
  | p :: P,w :: vs,0,m,nd,h1,h2,hk=>by
    simp at h1 h2;subst h1;subst h2
    show bindL kindOf ((p,w) :: P.zip vs) m p=_
    unfold bindL
    rw [bindL_out fun v hv=>(List.nodup_cons.mp nd).1 (List.of_mem_zip hv).1,if_pos hk]
    simp
  | p :: P,w :: vs,i + 1,m,nd,h1,h2,hk=>by
    show bindL kindOf ((p,w) :: P.zip vs) m x=_
    unfold bindL
    exact bindL_get (i:=i) (List.nodup_cons.mp nd).2 (by simpa using h1) (by simpa using h2) hk
theorem bindC_get {kindOf:Str→Option NameKind} {x:Str} {v:Value}:∀ {P:List Str} {vs:List Value} {i:Nat} {m:Str→Option Value},P.Nodup→P[i]?=some x→vs[i]?=some v→kindOf x≠some .local →
    bindC kindOf (P.zip vs) m x=some v
  | [],_,_,_,_,h,_,_=>by simp at h
  | _ :: _,[],_,_,_,_,h,_=>by simp at h
  | p :: P,w :: vs,0,m,nd,h1,h2,hk=>by
    simp at h1 h2;subst h1;subst h2
    show bindC kindOf ((p,w) :: P.zip vs) m p=_
    unfold bindC
    rw [bindC_out fun v hv=>(List.nodup_cons.mp nd).1 (List.of_mem_zip hv).1,if_neg hk]
    simp
  | p :: P,w :: vs,i + 1,m,nd,h1,h2,hk=>by
    show bindC kindOf ((p,w) :: P.zip vs) m x=_
    unfold bindC
    exact bindC_get (i:=i) (List.nodup_cons.mp nd).2 (by simpa using h1) (by simpa using h2) hk
def start (N:List Str) (vs:List V):St:=vs.map some++List.replicate (N.length - vs.length) none
def cxOf (CX:CXT) (P:Program) (w:World) (K:PySem.W.Frag) (mg:Str→Option Value) (base:Heap) (N:List Str) (qual:Str) (scope:Scope) (f:Addr) (cd:Value) (A:Around) (outer:List Env) (s:Shared) (H:Hp) (E:XK):Cx where
  prog:=P
  w:=w
  K:=K
  mg:=mg
  base:=base
  A:=A.deeper (envOfC qual scope s.heap.objs.size f cd)
  N:=N
  s₀:=s
  H₀:=H
  env:=envOfC qual scope s.heap.objs.size f cd
  outer:=outer
  stack:=envOfC qual scope s.heap.objs.size f cd :: outer
  ex:=[]
  calm:=true
  fn:=fun _=>true
  pn:=[]
  xe:=fun e s'=>wpAny (model P w) (A.deeper (envOfC qual scope s.heap.objs.size f cd)) (leaving (envOfC qual scope s.heap.objs.size f cd) e) (fun _ s''=>CX outer H s E e s'') (fun e' s''=>CX outer H s E e' s'') s'
theorem cell_has {sc:Scope} {n:Nat} {x:Str} (h:sc.names.lookup x=some .cell):∃ c,(cellsFrom n sc.names []).lookup x=some c:=by
  have q:=PySem.W.cellsFrom_some sc.names n [] (.inl h)
  exact Option.isSome_iff_exists.mp q
theorem inv_start {CX:CXT} {P:Program} {w:World} {K:PySem.W.Frag} {mg:Str→Option Value} {base:Heap} {N ps:List Str} {qual:Str} {scope:Scope} {f:Addr} {cd:Value} {A:Around} {outer:List Env} {s s1:Shared} {H:Hp} {E:XK} {us:List Value} {vs:List V}
    (S:FnScope N ps scope) (hd:A.handled=none) (e0:Env0 P w K mg base A outer s H) (hl:vs.length=ps.length) (r:Vals vs us)
    (x:InCallC s s.heap.objs.size (bindL (envOfC qual scope s.heap.objs.size f cd).kindOf (ps.zip us) fun _=>none) (cellsFrom (s.heap.objs.size + 1) scope.names []) (bindC (envOfC qual scope s.heap.objs.size f cd).kindOf (ps.zip us) fun _=>none) s1) :
    Inv (cxOf CX P w K mg base N qual scope f cd A outer s H E) [] (start N vs) H s1:=by
  have hpl:ps.length≤N.length:=by have:=congrArg List.length S.pre;rw [List.length_take] at this;omega
  obtain ⟨h1,tk,rfl,hk⟩:=x.done
  have noA:∀ b:Addr,b ∉ (cxOf CX P w K mg base N qual scope f cd A outer s H E).ex:=fun b z=>absurd (show b∈([]:List Addr) from z) (by simp)
  refine ⟨⟨e0.mod,S.kind,rfl,rfl,Nat.le_refl _,fun y z c h1 h2=>?_,fun y hy=>?_,fun y c _ h=>?_,fun _=>hd,Around.frames_deeper e0.frames,.inr ⟨rfl,rfl⟩,fun b z=>absurd z (noA b),e0.bs,e0.bsz,fun b _ _=>noA b,fun b z=>absurd z (noA b),e0.funs,e0.frf⟩,
    rfl,e0.bare,Un.kept hk,⟨_,x.toInCall.ns,fun i y v h1 h2 h3=>?_⟩,fun y c h=>⟨_,x.cell y c h⟩,e0.hok.fresh (Nat.le_refl _),fun y c h=>?_,fun p hp=>absurd (show p∈([]:List (Addr × Obj)) from hp) (by simp),e0.hok.kept hk,?_⟩
  · exact name_of_addr x.apart (PySem.mem_of_lookup h1) (PySem.mem_of_lookup h2)
  · have hy:scope.names.lookup y=some .cell∨scope.names.lookup y=some .free:=hy
    rcases hy with hy | hy
    · exact cell_has hy
    · exact absurd rfl (S.nofree _ (PySem.mem_of_lookup hy))
  · exact Nat.le_of_lt (x.above y c (PySem.mem_of_lookup h))
  · have hi:i<vs.length:=by
      unfold start at h2
      by_cases hi:i<vs.length
      · exact hi
      · rw [List.getElem?_append_right (by simpa using hi)] at h2
        rw [List.getElem?_replicate] at h2
        split at h2 <;> cases h2
    have ha:vs[i]?=some v:=by
      unfold start at h2
      rw [List.getElem?_append_left (by simpa using hi),List.getElem?_map] at h2
      cases e:vs[i]? with
      | none=>rw [e] at h2;cases h2
      | some a=>rw [e] at h2;cases h2;rfl
    obtain ⟨u,hu,rv⟩:=r.get ha
    have hp:ps[i]?=some y:=by
      rw [← S.pre,List.getElem?_take_of_lt (by omega)];exact h1
    have ndP:ps.Nodup:=by rw [← S.pre];exact S.nd.sublist (List.take_sublist _ _)
    refine ⟨u,rv,?_⟩
    rcases S.par y (List.mem_of_getElem? hp) with k | k
    · exact .inl ⟨k,bindL_get ndP hp hu k⟩
    · obtain ⟨c,e⟩:=cell_has (n:=s.heap.objs.size + 1) k
      refine .inr ⟨.inl k,c,e,?_⟩
      have q:=x.cell y c e
      rw [bindC_get ndP hp hu (by show scope.names.lookup y≠_;rw [k];decide)] at q
      exact q
  · exact e0.hok.fresh (Nat.le_of_lt (x.above y c (PySem.mem_of_lookup h)))
  · unfold start
    show _=N.length
    rw [List.length_append,List.length_map,List.length_replicate]
    omega
theorem fn_of {CX:CXT} {P:Program} {w:World} {K:PySem.W.Frag} {mg:Str→Option Value} {base:Heap} {k:Nat} {f:Addr} {name qual:Str} {params:Arguments} {body:List Stmt} {scope:Scope} {dV kV doc pm cdv ct oc:Value} {an od:Option Addr}
    {osl:Array (Option Value)} {N ps:List Str} {sp:Sp} (lk:K.lookup f=some ⟨oc,od,.func (PySem.W.fnOf name qual params body scope dV kV doc pm an cdv ct),osl⟩) (hcd:PySem.W.codeIn K cdv qual=true) (S:FnScope N ps scope)
    (len:∀ vs H Q E,sp vs H Q E→vs.length=ps.length)
    (hbody:∀ (A:Around) (outer:List Env) (s:Shared) (H:Hp) (vs:List V) (Q:VK) (E:XK),Room k (A.deeper (envOfC qual scope s.heap.objs.size f cdv))→sp vs H Q E →
      ∃ t,PSs (cxOf CX P w K mg base N qual scope f cdv A outer s H E) body t∧t { nx:=fun _ H'=>Q .non H',rt:=Q } (start N vs) H) :
    FnOk P w K mg base CX (k + 1) f (PySem.W.fnOf name qual params body scope dV kV doc pm an cdv ct) ps sp:=by
  refine ⟨len,fun A outer s H args us vs Q E hr e0 hb r hsp=>?_⟩
  have hl:=len _ _ _ _ hsp
  have KX:K.In s.heap:=e0.mod.kin.keeps fun b o e=>(e0.bs b o e).1
  have lim:s.heap.NoLimit:=e0.mod.nolimit.keeps fun b o e=>(e0.bs b o e).1
  have hkind:∀ y∈ps.zip us,scope.names.lookup y.1=some .local∨(scope.names.lookup y.1=some .cell∧((cellsFrom (s.heap.objs.size + 1) scope.names []).lookup y.1).isSome=true):=fun ⟨n,v⟩ hy=>by
    rcases S.par n (List.of_mem_zip hy).1 with q | q
    · exact .inl q
    · exact .inr ⟨q,PySem.W.cellsFrom_some _ _ _ (.inl q)⟩
  refine codeAny_call_function hr.depth (KX _ _ lk) rfl S.co S.gen rfl (PySem.W.codeRec_of KX hcd) (hb _ _ _ _ ?_)
  refine wpAny_newFunctionEnv_cells S.kind hkind fun env he s1 x=>?_
  subst he
  refine ⟨lim.keeps x.toInCall.keep,codeAny_func ?_⟩
  obtain ⟨t,ht,hq⟩:=hbody A outer s H vs Q E (hr.deeper _) hsp
  have I:Inv (cxOf CX P w K mg base N qual scope f cdv A outer s H E) [] (start N vs) H s1:=inv_start S hr.hd e0 hl r x
  refine wpAny_mono (ht [] s1 (start N vs) H _ I hq) (fun fl s' hs=>?_) fun e s' hs=>hs
  have fin:∀ {σ':St} {H':Hp} {v:V} {u:Value},Inv (cxOf CX P w K mg base N qual scope f cdv A outer s H E) [] σ' H' s'→RelV v u→Q v H'→CE outer P w H s Q u s' :=
    fun {σ' H' v u} J rv q=>⟨v,H',J.os,J.bare,J.base,J.hok,rv,q⟩
  cases fl with
  | ret u =>
    obtain ⟨v,σ',H',J,rv,q⟩:=hs
    exact fin J rv q
  | next =>
    obtain ⟨σ',H',J,q⟩:=hs
    exact fin (v:=V.non) (u:=Value.none) J rfl q
  | brk =>
    obtain ⟨_,_,_,q⟩:=hs
    exact False.elim q
  | cont =>
    obtain ⟨_,_,_,q⟩:=hs
    exact False.elim q
end L2
namespace L2
open PySem PySem.Spec PyProof.Rows
section
variable {X:Cx} {x:Str} {p pos:Pos} {e:Expr} {es:List Expr} {t:TA} {id T:String} {r:List V→Hp→VK→Prop}
def tCB (r:List V→Hp→VK→Prop) (t:TA):TE:=fun σ H Q=>t σ H fun vs H1=>r vs H1 Q
theorem pe_callB (hc:CallR X (.builtin id) r) (hg:Gl X x) (hm:X.mg x=none) (hv:bootBuiltins x=some (.builtin id)) (ha:PA X (e :: es) t) (hn:x≠"__name__":=by decide) (hdb:(x == ("__debug__":Str))=false:=by decide)
    (he:starEach (e :: es) X.env=(false,eval e X.env) :: starEach es X.env:=by rfl) (hpl:(backTo pos (starEach es X.env)).any (·.1)=false:=by rfl):PE X (.Call (.Name x p) (e :: es) [] pos) (tCB r t):=by
  intro pins s σ H Q I h
  refine wpAny_Call_Name_kw (ld_blt I hg hm hv ?_ hn hdb)
  exact PyProof.Rows.callWith_builtin1 (thn (ha pos pins s σ H _ I h) fun us s1 ⟨vs,H1,I1,r1,q1⟩=>hc pins s1 σ H1 vs us Q I1 r1 q1) he hpl
theorem pe_callTy (hc:CallR X (.type T) r) (hg:Gl X x) (hm:X.mg x=none) (hv:bootBuiltins x=some (.type T)) (ha:PA X (e :: es) t) (hn:x≠"__name__":=by decide) (hdb:(x == ("__debug__":Str))=false:=by decide)
    (he:starEach (e :: es) X.env=(false,eval e X.env) :: starEach es X.env:=by rfl) (hpl:(backTo pos (starEach es X.env)).any (·.1)=false:=by rfl):PE X (.Call (.Name x p) (e :: es) [] pos) (tCB r t):=by
  intro pins s σ H Q I h
  refine wpAny_Call_Name_kw (ld_blt I hg hm hv ?_ hn hdb)
  exact PyProof.Rows.callWith_type1 (thn (ha pos pins s σ H _ I h) fun us s1 ⟨vs,H1,I1,r1,q1⟩=>hc pins s1 σ H1 vs us Q I1 r1 q1) he hpl
end
end L2
namespace HT
open PySem PyProof.Rows
def lexLt:List Int→List Int→Bool
  | [],[]=>false
  | [],_ :: _=>true
  | _ :: _,[]=>false
  | x :: xs,y :: ys=>if x=y then lexLt xs ys else decide (x<y)
theorem lexLt_cons (x y:Int) (xs ys:List Int):lexLt (x :: xs) (y :: ys)=if x=y then lexLt xs ys else decide (x<y):=rfl
theorem lexLt_nil_nil:lexLt [] []=false:=rfl
section
open PySem.SeqAt
open PySem.AutoSeq1 (wpAny_loadPart')
open PySem.MeetsSeq PySem.MeetsSeq2 PySem.MeetsSeq3
end
section
variable {prog:Program} {w:World} {A:Around} {E:Value→Shared→Prop} {s:Shared}
def sIx (n d:Nat):Option Int→Nat
  | none=>d
  | some v=>if v<0 then (v + (n:Int)).toNat else min v.toNat n
theorem sIx_none (n d:Nat):sIx n d none=d:=rfl
theorem sIx_nat (n d k:Nat):sIx n d (some (k:Int))=min k n:=by
  show (if (k:Int)<0 then ((k:Int) + (n:Int)).toNat else min (k:Int).toNat n)=min k n
  rw [if_neg (by omega),Int.toNat_natCast]
end
end HT
namespace L2
open PySem PySem.Spec PyProof.Rows
abbrev TO:=St→Hp→(Option Int→Hp→Prop)→Prop
def PO (X:Cx) (e:Option Expr) (t:TO):Prop :=
  ∀ (pins:List (Addr × Obj)) (s:Shared) (σ:St) (H:Hp) (Q:Option Int→Hp→Prop),Inv X pins σ H s→t σ H Q →
    wpAny (model X.prog X.w) X.A (evalPart e X.env) (fun u s'=>∃ o H',Inv X pins σ H' s'∧IsPart u o∧Q o H') X.xe s
def tNoPart:TO:=fun _ H Q=>Q none H
def tPart (t:TE):TO:=fun σ H Q=>t σ H fun x H1=>∃ i,x=.int i∧Q (some i) H1
theorem intsAre_of {ns:List Int}:∀ {us:List Value},Vals (ns.map V.int) us→IntsAre us ns:=by
  induction ns with
  | nil=>intro us r;rw [List.map_nil] at r;cases r;exact .nil
  | cons n ns ih =>
    intro us r
    rw [List.map_cons] at r
    cases r with
    | cons r1 r2 =>
      obtain ⟨t,e⟩:=r1
      subst e
      exact .cons n t (ih r2)
section
variable {X:Cx} {e:Expr} {te:TE} {lo hi:Option Expr} {tl th:TO} {pos p2:Pos}
theorem po_none:PO X none tNoPart:=by
  intro pins s σ H Q I h
  rw [evalPart_none]
  exact wpAny_pure ⟨none,H,I,.none,h⟩
theorem po_some (h:PE X e te):PO X (some e) (tPart te):=by
  intro pins s σ H Q I hw
  rw [evalPart_some]
  refine thn (h pins s σ H _ I hw) fun u s1 ⟨x,H1,I1,r1,q1⟩=>?_
  obtain ⟨i,rfl,q⟩:=q1
  obtain ⟨t,rfl⟩:=r1
  exact ⟨some i,H1,I1,.int i t,q⟩
def SlR (X:Cx) (r:V→Option Int→Option Int→Hp→VK→Prop):Prop :=
  ∀ (pins:List (Addr × Obj)) (s:Shared) (σ:St) (H:Hp) (x:V) (v vl vu:Value) (lo hi:Option Int) (sl:Addr) (Q:VK),Inv X pins σ H s→RelV x v→s.heap.IsSliceOf sl vl vu .none→IsPart vl lo→IsPart vu hi→r x lo hi H Q →
    ∃ T id,typeLookup (.type T) "__getitem__"=pure (some (.builtin id))∧s.TypeIs v T∧wpAny (model X.prog X.w) X.A (getItem v (.ref sl)) (EP X pins σ Q) X.xe s
def tSl (r:V→Option Int→Option Int→Hp→VK→Prop) (te:TE) (tl th:TO):TE:=fun σ H Q=>te σ H fun x H1=>tl σ H1 fun l H2=>th σ H2 fun u H3=>r x l u H3 Q
theorem pe_slice {r:V→Option Int→Option Int→Hp→VK→Prop} (hr:SlR X r) (he:PE X e te) (hl:PO X lo tl) (hu:PO X hi th):PE X (.Subscript e (.Slice lo hi none p2) pos) (tSl r te tl th):=by
  intro pins s σ H Q I h
  refine Subscript_ (thn (he pins s σ H _ I h) fun v s1 ⟨x,H1,I1,r1,q1⟩=>?_)
  refine wpAny_Slice (thn (hl pins s1 σ H1 _ I1 q1) fun vl s2 ⟨l,H2,I2,pl,q2⟩=>thn (hu pins s2 σ H2 _ I2 q2) fun vu s3 ⟨u,H3,I3,pu,q3⟩=>?_)
  rw [evalPart_none]
  refine wpAny_pure ?_
  have I4:Inv X pins σ H3 { s3 with heap:=s3.heap.push { cls:=.type "slice",data:=.fields #[vl,vu,.none] } }:=I3.kept (t':=s3.toks) fun b ob q=>Heap.get?_push_of_some _ q
  obtain ⟨T,id,hT,ht,hg⟩:=hr pins { s3 with heap:=s3.heap.push { cls:=.type "slice",data:=.fields #[vl,vu,.none] } } σ H3 x v vl vu l u s3.heap.objs.size Q I4 r1 (Heap.IsSliceOf.new ..) pl pu q3
  show wpAny (model X.prog X.w) X.A (subscriptTail e (.Slice lo hi none p2) v (.ref s3.heap.objs.size)) (EP X pins σ Q) X.xe { s3 with heap:=s3.heap.push { cls:=.type "slice",data:=.fields #[vl,vu,.none] } }
  exact tail_any (ops:=[.ref s3.heap.objs.size,v]) ht hT hg (by with_unfolding_all rfl)
def cutV (xs:List V) (lo hi:Option Int):List V:=(xs.drop (HT.sIx xs.length 0 lo)).take (HT.sIx xs.length xs.length hi - HT.sIx xs.length 0 lo)
theorem cutV_length (xs:List V) (lo hi:Option Int):(cutV xs lo hi).length≤xs.length:=by
  unfold cutV
  rw [List.length_take,List.length_drop]
  omega
end
end L2
namespace L2
open PySem PySem.Spec PyProof.Rows
def ixN (n:Nat) (i:Int):Option Nat:=if 0≤i then (if i<n then some i.toNat else none) else if -(n:Int)≤i then some (i + n).toNat else none
def atI {α:Type} (xs:List α) (i:Int):Option α:=(ixN xs.length i).bind fun j=>xs[j]?
theorem ixN_seq {n:Nat} {i:Int} {j:Nat} (h:ixN n i=some j):seqIndex? i n=some j∧j<n∧-(n:Int)≤i∧i<n:=by
  unfold ixN at h
  by_cases h0:0≤i
  · rw [if_pos h0] at h
    by_cases h1:i<n
    · rw [if_pos h1] at h
      have e:i.toNat=j:=Option.some.inj h
      exact ⟨by rw [seqIndex_of h0 h1,e],by omega,by omega,h1⟩
    · rw [if_neg h1] at h;cases h
  · rw [if_neg h0] at h
    by_cases h1:-(n:Int)≤i
    · rw [if_pos h1] at h
      have e:(i + n).toNat=j:=Option.some.inj h
      exact ⟨by rw [seqIndex_neg (by omega) h1,e],by omega,h1,by omega⟩
    · rw [if_neg h1] at h;cases h
theorem atI_get {α:Type} {xs:List α} {i:Int} {v:α} (h:atI xs i=some v):∃ j,seqIndex? i xs.length=some j∧xs[j]?=some v∧j<xs.length∧-(xs.length:Int)≤i∧i<xs.length:=by
  unfold atI at h
  cases e:ixN xs.length i with
  | none=>rw [e] at h;cases h
  | some j =>
    rw [e] at h
    obtain ⟨h1,h2,h3,h4⟩:=ixN_seq e
    exact ⟨j,h1,h,h2,h3,h4⟩
theorem atI_nat {α:Type} {xs:List α} {j:Nat} {v:α} (h:xs[j]?=some v):atI xs (j:Int)=some v:=by
  have hj:j<xs.length:=(List.getElem?_eq_some_iff.mp h).1
  have e:ixN xs.length (j:Int)=some j:=by
    unfold ixN
    rw [if_pos (by omega),if_pos (by omega)];simp
  unfold atI;rw [e];exact h
theorem atI_last {α:Type} (xs:List α) (v:α):atI (xs++[v]) (-1)=some v:=by
  have hl:(xs++[v]).length=xs.length + 1:=by simp
  have e:ixN (xs++[v]).length (-1)=some xs.length:=by
    unfold ixN
    rw [hl,if_neg (by decide),if_pos (by omega)]
    congr 1
    omega
  unfold atI
  rw [e]
  show (xs++[v])[xs.length]?=some v
  simp
def PlainIx (b:Expr):Prop:=∀ o i,subscripted b false o i=operate [o,i] (getItem o i)
def IxR (X:Cx) (r:R2):Prop :=
  ∀ (value slice:Expr) (pins:List (Addr × Obj)) (s:Shared) (σ:St) (H:Hp) (x y:V) (v u:Value) (Q:VK),Inv X pins σ H s→RelV x v→RelV y u→r x y H Q →
    subscripted slice false v u=operate [v,u] (getItem v u)→wpAny (model X.prog X.w) X.A (subscriptTail value slice v u) (EP X pins σ Q) X.xe s
def MtR (X:Cx) (id:String) (r:V→List V→Hp→VK→Prop):Prop :=
  ∀ (pins:List (Addr × Obj)) (s:Shared) (σ:St) (H:Hp) (x:V) (xs:List V) (v:Value) (us:List Value) (Q:VK),Inv X pins σ H s→RelV x v→Vals xs us→r x xs H Q →
    wpAny (model X.prog X.w) X.A (call (.builtin id) (v :: us)) (EP X pins σ Q) X.xe s
section
variable {X:Cx} {a b:Expr} {ta tb:TE} {pos:Pos}
theorem pe_ix {r:R2} (hr:IxR X r) (ha:PE X a ta) (hb:PE X b tb) (hs:PlainIx b):PE X (.Subscript a b pos) (tOp r ta tb):=by
  intro pins s σ H Q I h
  exact Subscript_ (binT ha hb I h fun v u s2 x y H2 I2 rx ry q=>hr a b pins s2 σ H2 x y v u Q I2 rx ry q (hs _ _))
def rIxL (K:PySem.W.Frag):R2:=fun x y H Q=>∃ p xs i v,x=.ref p∧y=.int i∧SqL K H p xs∧atI xs i=some v∧Q v H
def rIxT (K:PySem.W.Frag):R2:=fun x y H Q=>∃ p xs i v,x=.ref p∧y=.int i∧SqT K H p xs∧atI xs i=some v∧Q v H
theorem ix_list:IxR X (rIxL X.K):=by
  intro value slice pins s σ H x y v u Q I rx ry h hs
  obtain ⟨p,xs,i,z,rfl,rfl,hq,he,q⟩:=h
  cases rx
  obtain ⟨t,rfl⟩:=ry
  obtain ⟨its,r,pl,hz⟩:=I.list hq
  obtain ⟨j,h1,h2,h3,h4,h5⟩:=atI_get he
  obtain ⟨w,ew,rw'⟩:=r.get h2
  have hl:=r.length
  have hn:=line63
  have fin:EP X pins σ Q w s:=⟨z,H,I,rw',q⟩
  by_cases h0:0≤i
  · have hj:i.toNat=j:=by
      rw [seqIndex_of h0 h5] at h1
      exact Option.some.inj h1
    exact item_listR pl.isList h0 (by omega) (by rw [hj];simpa using ew) fin hs
  · have hj:(i + (its.toArray.size:Int)).toNat=j:=by
      rw [seqIndex_neg (by omega) h4] at h1
      rw [List.size_toArray,← hl]
      exact Option.some.inj h1
    exact subscriptTail_builtinR (x:=w) pl.isList.typeIs slot_list_getitem.lookup
      (wpAny_getItem_list_neg (Q:=fun r s'=>r=w∧EP X pins σ Q r s') pl.isList (by omega) (by rw [List.size_toArray] <;> omega) (by omega) (by rw [hj];simpa using ew) ⟨rfl,fin⟩) hs
theorem ix_tup:IxR X (rIxT X.K):=by
  intro value slice pins s σ H x y v u Q I rx ry h hs
  obtain ⟨p,xs,i,z,rfl,rfl,hq,he,q⟩:=h
  cases rx
  obtain ⟨t,rfl⟩:=ry
  obtain ⟨its,r,pl,hz⟩:=I.tuple hq
  obtain ⟨j,h1,h2,h3,h4,h5⟩:=atI_get he
  obtain ⟨w,ew,rw'⟩:=r.get h2
  have hl:=r.length
  have hn:=line63
  have fin:EP X pins σ Q w s:=⟨z,H,I,rw',q⟩
  exact subscriptTail_builtinR (x:=w) pl.typeIs slot_tuple_getitem.lookup
    (getItem_tuple (j:=j) (Q:=fun r s'=>r=w∧EP X pins σ Q r s') pl (by omega) (by omega) (by rw [List.size_toArray,← hl];exact h1) (by simpa using ew) ⟨rfl,fin⟩) hs
theorem mapSeq_set (its:List Value) (n j:Nat) (u:Value):Obj.mapSeq (·.setIfInBounds j u) { cls:=.type "list",data:=.seq its.toArray n }={ cls:=.type "list",data:=.seq (its.set j u).toArray n }:=by
  simp [Obj.mapSeq]
theorem Inv.lst {pins:List (Addr × Obj)} {σ:St} {H:Hp} {s:Shared} {p:Addr} {xs:List V} (I:Inv X pins σ H s) (h:H p=some (.lst xs)) :
    ∃ (its:List Value) (n:Nat),Vals xs its∧s.heap.get? p=some { cls:=.type "list",data:=.seq its.toArray n }∧xs.length≤sizeLine:=by
  obtain ⟨z,its,n,r,e⟩:=I.hok p _ h
  exact ⟨its,n,r,e,z⟩
theorem Inv.lstUpd {pins:List (Addr × Obj)} {σ:St} {H:Hp} {s:Shared} {p:Addr} {xs ys:List V} {its its':List Value} {n n':Nat} {f:Obj→Obj} (I:Inv X pins σ H s) (h:H p=some (.lst xs))
    (ho:s.heap.get? p=some { cls:=.type "list",data:=.seq its.toArray n }) (hf:f { cls:=.type "list",data:=.seq its.toArray n }={ cls:=.type "list",data:=.seq its'.toArray n' }) (r:Vals ys its') (hz:ys.length≤sizeLine) (t:Nat) :
    Inv X pins σ (upd H p (.lst ys)) { s with heap:=s.heap.update p f,toks:=t }:=by
  have e:(s.heap.update p f).get? p=some { cls:=.type "list",data:=.seq its'.toArray n' }:=by
    rw [Heap.get?_update_self f ho (by rw [hf] <;> rfl),hf]
  refine I.write (x:=p) (e:=p) (by rw [h];trivial) (.inl rfl) (fun b u hb q=>(Heap.get?_update_other _ _ (Ne.symm hb)).trans q) ⟨_,e⟩ ?_
  exact ⟨hz,its',n',r,e⟩
def rSetL:V→V→V→Hp→(Hp→Prop)→Prop:=fun o i v H Q=>∃ p xs k j,o=.ref p∧i=.int k∧H p=some (.lst xs)∧ixN xs.length k=some j∧Q (upd H p (.lst (xs.set j v)))
theorem set_list:PSet X rSetL:=by
  intro pins s σ H o i v ov iv u Q I ro ri rv h
  obtain ⟨p,xs,k,j,rfl,rfl,hp,hj,q⟩:=h
  cases ro
  obtain ⟨t,rfl⟩:=ri
  obtain ⟨its,n,r,ho,hz⟩:=I.lst hp
  obtain ⟨h1,h2,h3,h4⟩:=ixN_seq hj
  have hl:=r.length
  have hn:=line63
  have I':Inv X pins σ (upd H p (.lst (xs.set j v))) { s with heap:=s.heap.update p (Obj.mapSeq (·.setIfInBounds j u)) } :=
    I.lstUpd hp ho (mapSeq_set its n j u) (r.set rv j) (by rw [List.length_set];exact hz) s.toks
  by_cases h0:0≤k
  · have hk:k.toNat=j:=by
      rw [seqIndex_of h0 h4] at h1
      exact Option.some.inj h1
    exact PySem.W.ki_setAt ho h0 (by omega) (by rw [List.size_toArray,← hl];exact h4) (by rw [hk];exact ⟨_,I',q⟩)
  · have hk:(k + (its.toArray.size:Int)).toNat=j:=by
      rw [seqIndex_neg (by omega) h3] at h1
      rw [List.size_toArray,← hl]
      exact Option.some.inj h1
    exact PySem.W.ki_setBack ho (by omega) (by rw [List.size_toArray,← hl];exact h3) (by omega) (by rw [hk];exact ⟨_,I',q⟩)
theorem slice_bounds (lo hi:Option Int) (n:Nat):(sliceBounds lo hi none n).1=((HT.sIx n 0 lo:Nat):Int)∧(sliceBounds lo hi none n).2.1=((HT.sIx n n hi:Nat):Int)∧(sliceBounds lo hi none n).2.2=1:=by
  refine ⟨?_,?_,rfl⟩
  · cases lo with
    | none=>simp [sliceBounds,HT.sIx]
    | some i =>
      simp only [sliceBounds,HT.sIx,Option.getD_none,show (1:Int) > 0 by decide,if_true]
      by_cases h:i<0
      · simp only [h,if_true] <;> omega
      · simp only [h,if_false] <;> omega
  · cases hi with
    | none=>simp [sliceBounds,HT.sIx]
    | some i =>
      simp only [sliceBounds,HT.sIx,Option.getD_none,show (1:Int) > 0 by decide,if_true]
      by_cases h:i<0
      · simp only [h,if_true] <;> omega
      · simp only [h,if_false] <;> omega
theorem slicePick_cut (its:List Value) (lo hi:Option Int):slicePick its.toArray lo hi none=((its.drop (HT.sIx its.length 0 lo)).take (HT.sIx its.length its.length hi - HT.sIx its.length 0 lo)).toArray:=by
  obtain ⟨h1,h2,h3⟩:=slice_bounds lo hi its.toArray.size
  unfold slicePick
  rw [h1,h2,h3]
  simp only [sliceRange_one,pick_run,List.size_toArray] <;> rfl
def rSlL (K:PySem.W.Frag):V→Option Int→Option Int→Hp→VK→Prop:=fun x lo hi H Q=>∃ a xs,x=.ref a∧SqL K H a xs∧∀ p,H p=none→Q (.ref p) (upd H p (.lst (cutV xs lo hi)))
theorem sl_list:SlR X (rSlL X.K):=by
  intro pins s σ H x v vl vu lo hi sl Q I rx hs pl pu h
  obtain ⟨a,xs,rfl,hx,q⟩:=h
  cases rx
  obtain ⟨its,r,ht,hz⟩:=I.list hx
  have hlen:=r.length
  refine ⟨"list",_,slot_list_getitem.lookup,ht.isList.typeIs,?_⟩
  refine wpAny_getItem_list_slice ht.isList hs pl pu .none (by simp) ?_ (by rw [List.size_toArray] <;> omega)
  rw [slicePick_cut,← hlen]
  refine ⟨.ref s.heap.objs.size,_,I.laid (t':=s.toks) (o:=.lst (cutV xs lo hi)) (fun b ob q=>Heap.get?_push_of_some _ q) (Nat.le_refl _) ?_,rfl,q _ (I.hok.fresh (Nat.le_refl _))⟩
  exact ⟨Nat.le_trans (cutV_length xs lo hi) hz,_,0,(r.drop (HT.sIx xs.length 0 lo)).take (HT.sIx xs.length xs.length hi - HT.sIx xs.length 0 lo),Heap.get?_push_size _ rfl⟩
def flatV:V→Bool
  | .non=>true
  | .bl _=>true
  | .int _=>true
  | .str _=>true
  | _=>false
def eqV:V→V→Bool
  | .non,.non=>true
  | .bl a,.bl b=>a == b
  | .bl a,.int b=>(if a then 1 else 0) == b
  | .int a,.bl b=>a == (if b then 1 else 0)
  | .int a,.int b=>a == b
  | .str a,.str b=>a == b
  | _,_=>false
theorem eqAt_V {A:Around} {s:Shared} {y x:V} {u v:Value} (ry:RelV y u) (rx:RelV x v) (fy:flatV y=true) (fx:flatV x=true):SeqAt.EqAt A s u v (eqV y x):=by
  cases y with
  | non =>
    cases ry
    cases x with
    | non=>cases rx;exact SeqAt.EqAt.same _
    | bl b=>cases rx;exact SeqAt.EqAt.none_bool b
    | int b=>obtain ⟨t,rfl⟩:=rx;exact SeqAt.EqAt.none_int b t
    | str b=>obtain ⟨t,rfl⟩:=rx;exact SeqAt.EqAt.none_str b t
    | _=>exact absurd (show false=true from fx) Bool.false_ne_true
  | bl a =>
    cases ry
    cases x with
    | non=>cases rx;exact SeqAt.EqAt.bool_none a
    | bl b=>cases rx;exact SeqAt.EqAt.bool_bool a b
    | int b=>obtain ⟨t,rfl⟩:=rx;exact SeqAt.EqAt.bool_int a b t
    | str b=>obtain ⟨t,rfl⟩:=rx;exact SeqAt.EqAt.bool_str a b t
    | _=>exact absurd (show false=true from fx) Bool.false_ne_true
  | int a =>
    obtain ⟨t',rfl⟩:=ry
    cases x with
    | non=>cases rx;exact SeqAt.EqAt.int_none a t'
    | bl b=>cases rx;exact SeqAt.EqAt.int_bool a t' b
    | int b=>obtain ⟨t,rfl⟩:=rx;exact SeqAt.EqAt.int_int a t' b t
    | str b=>obtain ⟨t,rfl⟩:=rx;exact SeqAt.EqAt.int_str a t' b t
    | _=>exact absurd (show false=true from fx) Bool.false_ne_true
  | str a =>
    obtain ⟨t',rfl⟩:=ry
    cases x with
    | non=>cases rx;exact SeqAt.EqAt.str_none a t'
    | bl b=>cases rx;exact SeqAt.EqAt.str_bool a t' b
    | int b=>obtain ⟨t,rfl⟩:=rx;exact SeqAt.EqAt.str_int a t' b t
    | str b=>obtain ⟨t,rfl⟩:=rx;exact SeqAt.EqAt.str_str a t' b t
    | _=>exact absurd (show false=true from fx) Bool.false_ne_true
  | _=>exact absurd (show false=true from fy) Bool.false_ne_true
def eqU (x:V) (u:Value):Bool:=match u with
  | .none=>eqV .non x
  | .bool b=>eqV (.bl b) x
  | .int i _=>eqV (.int i) x
  | .str z _=>eqV (.str z) x
  | _=>false
theorem eqU_of {x y:V} {u:Value} (r:RelV y u) (f:flatV y=true):eqU x u=eqV y x:=by
  cases y with
  | non=>cases r;rfl
  | bl b=>cases r;rfl
  | int i=>obtain ⟨t,rfl⟩:=r;rfl
  | str z=>obtain ⟨t,rfl⟩:=r;rfl
  | _=>exact absurd (show false=true from f) Bool.false_ne_true
theorem any_eqU {x:V}:∀ {xs:List V} {us:List Value},Vals xs us→xs.all flatV=true→us.any (eqU x)=xs.any fun y=>eqV y x
  | _,_,.nil,_=>rfl
  | y :: xs,u :: us,.cons r t,f=>by
    rw [List.all_cons,Bool.and_eq_true] at f
    rw [List.any_cons,List.any_cons,eqU_of r f.1,any_eqU t f.2]
theorem mem_eqAt {A:Around} {s:Shared} {x:V} {v:Value} (rx:RelV x v) (fx:flatV x=true):∀ {xs:List V} {us:List Value},Vals xs us→xs.all flatV=true→∀ u∈us,SeqAt.EqAt A s u v (eqU x u)
  | _,_,.nil,_=>fun u hu=>by cases hu
  | y :: xs,u :: us,.cons r t,f=>fun u' hu=>by
    rw [List.all_cons,Bool.and_eq_true] at f
    rcases List.mem_cons.mp hu with rfl | hu
    · rw [eqU_of r f.1];exact eqAt_V r rx f.1 fx
    · exact mem_eqAt rx fx t f.2 u' hu
def inV (x:V) (xs:List V):Bool:=xs.any fun y=>eqV y x
def rIn (K:PySem.W.Frag) (neg:Bool):R2:=fun x y H Q=>∃ p xs,y=.ref p∧(SqL K H p xs∨SqT K H p xs)∧flatV x=true∧xs.all flatV=true∧Q (.bl (if neg then !inV x xs else inV x xs)) H
theorem op_notIn_seq:OpR X (compareOp .NotIn) (rIn X.K true):=by
  intro pins s σ H x y v u Q I rx ry h
  obtain ⟨p,xs,rfl,hq,fx,fs,q⟩:=h
  cases ry
  rcases hq with hq | hq
  · obtain ⟨its,r,pl,hz⟩:=I.list hq
    refine SeqAt.notIn_listAt (eqU x) pl.isList (fun w hw=>mem_eqAt rx fx r fs w (by simpa using hw)) ⟨.bl _,H,I,rfl,?_⟩
    rw [show its.toArray.any (eqU x)=its.any (eqU x) by simp,any_eqU r fs]
    exact q
  · obtain ⟨its,r,pl,hz⟩:=I.tuple hq
    refine SeqAt.notIn_tupleAt (eqU x) pl (fun w hw=>mem_eqAt rx fx r fs w (by simpa using hw)) ⟨.bl _,H,I,rfl,?_⟩
    rw [show its.toArray.any (eqU x)=its.any (eqU x) by simp,any_eqU r fs]
    exact q
theorem call_len_seq:CallR X (.builtin "len") (fun xs H Q=>∃ p ys,xs=[.ref p]∧(SqL X.K H p ys∨SqT X.K H p ys)∧Q (.int ys.length) H):=by
  intro pins s σ H xs us Q I r h
  obtain ⟨p,ys,rfl,hq,q⟩:=h
  obtain ⟨u,rfl,rx⟩:=vals1 r
  cases rx
  have hn:=line63
  rcases hq with hq | hq
  · obtain ⟨its,r',pl,hz⟩:=I.list hq
    have hlen:=r'.length
    exact Calls.call_len_list pl.isList (by simp only [List.size_toArray] <;> omega) ⟨.int ys.length,H,I.tok _,⟨s.toks + 1,by rw [List.size_toArray,hlen]⟩,q⟩
  · obtain ⟨its,r',pl,hz⟩:=I.tuple hq
    have hlen:=r'.length
    exact len_tuple pl (by simp only [List.size_toArray] <;> omega) ⟨.int ys.length,H,I.tok _,⟨s.toks + 1,by rw [List.size_toArray,hlen]⟩,q⟩
theorem call_list_of:CallR X (.type "list") (fun xs H Q=>∃ p ys,xs=[.ref p]∧(SqL X.K H p ys∨SqT X.K H p ys)∧∀ l,H l=none→Q (.ref l) (upd H l (.lst ys))):=by
  intro pins s σ H xs us Q I r h
  obtain ⟨p,ys,rfl,hq,q⟩:=h
  obtain ⟨u,rfl,rx⟩:=vals1 r
  cases rx
  have fin:∀ (its:List Value),Vals ys its→ys.length≤sizeLine→∀ (h':Heap) (c':Nat),(∀ b o',s.heap.get? b=some o'→h'.get? b=some o') →
      h'.get? s.heap.objs.size=some { cls:=.type "list",dict:=none,data:=.seq its.toArray c',slots:=#[] }→EP X pins σ Q (.ref s.heap.objs.size) { s with heap:=h' }:=fun its r' hz h' c' kp e =>
    ⟨.ref s.heap.objs.size,_,I.laid (t':=s.toks) kp (Nat.le_refl _) (show ObjOk X.prog X.w _ h' _ (.lst ys) from ⟨hz,its,c',r',e⟩),rfl,q _ (I.hok.fresh (Nat.le_refl _))⟩
  rcases hq with hq | hq
  · obtain ⟨its,r',pl,hz⟩:=I.list hq
    have hlen:=r'.length
    obtain ⟨o,ho,hc,n,hd⟩:=pl.isList
    exact call_list_seq p (.inl rfl) ho hc hd (fun h' c' kp e=>fin its r' hz h' c' kp e) (by simp only [List.size_toArray] <;> omega)
  · obtain ⟨its,r',pl,hz⟩:=I.tuple hq
    have hlen:=r'.length
    obtain ⟨o,ho,hc,n,hd⟩:=pl
    exact call_list_seq p (.inr rfl) ho hc hd (fun h' c' kp e=>fin its r' hz h' c' kp e) (by simp only [List.size_toArray] <;> omega)
def tyV (K:PySem.W.Frag) (T:String) (x:V) (H:Hp):Prop:=match x with
  | .str _=>T="str"
  | .int _=>T="int"
  | .ref p=>(T="list"∧∃ xs,SqL K H p xs)∨(T="tuple"∧∃ o,K.lookup p=some o∧o.cls=.type "tuple"∧o.dict=none) ∨
      (T="dict"∧((∃ kvs,H p=some (.dK kvs))∨∃ kvs,H p=some (.dT kvs)))∨(T="set"∧∃ S n,H p=some (.set S n))
  | _=>False
theorem tyV_is {pins:List (Addr × Obj)} {σ:St} {H:Hp} {s:Shared} {T:String} {x:V} {v:Value} (I:Inv X pins σ H s) (r:RelV x v) (ty:tyV X.K T x H) :
    s.TypeIs v T∧∀ a,v=.ref a→∃ ob,s.heap.get? a=some ob∧ob.dict=none:=by
  cases x with
  | str z =>
    obtain ⟨t,rfl⟩:=r
    cases (show T="str" from ty)
    exact ⟨typeIs_str s z t,fun _ e=>nomatch e⟩
  | int i =>
    obtain ⟨t,rfl⟩:=r
    cases (show T="int" from ty)
    exact ⟨typeIs_int s i t,fun _ e=>nomatch e⟩
  | ref p =>
    cases r
    rcases ty with ⟨rfl,xs,hq⟩ | ⟨rfl,o,hk,hc,hd⟩ | ⟨rfl,hk⟩ | ⟨rfl,S,n,hk⟩
    · obtain ⟨its,_,pl,_⟩:=I.list hq
      refine ⟨pl.isList.typeIs,fun a e=>?_⟩
      cases e
      obtain ⟨o,n,e,c,hd,_⟩:=pl
      exact ⟨o,e,hd⟩
    · refine ⟨⟨o,I.kIn p o hk,hc⟩,fun a e=>?_⟩
      cases e
      exact ⟨o,I.kIn _ o hk,hd⟩
    · have z:∃ o,s.heap.get? p=some o∧o.ExactDict:=by
        rcases hk with ⟨kvs,hk⟩ | ⟨kvs,hk⟩
        · obtain ⟨_,_,_,_,o,_,_,e,ex,_⟩:=I.hok p _ hk
          exact ⟨o,e,ex⟩
        · obtain ⟨_,_,_,_,o,_,_,e,ex,_⟩:=I.hok p _ hk
          exact ⟨o,e,ex⟩
      obtain ⟨o,e,ex⟩:=z
      refine ⟨⟨o,e,ex.1⟩,fun a e2=>?_⟩
      cases e2
      exact ⟨o,e,ex.2.1⟩
    · obtain ⟨o,_,_,_,e,ex,_⟩:=I.hok p _ hk
      refine ⟨⟨o,e,ex.1⟩,fun a e2=>?_⟩
      cases e2
      exact ⟨o,e,ex.2.1⟩
  | _=>exact False.elim ty
def tBM (K:PySem.W.Frag) (T:String) (r:V→List V→Hp→VK→Prop) (to:TE) (t:TA):TE:=fun σ H Q=>to σ H fun x H1=>tyV K T x H1∧t σ H1 fun xs H2=>r x xs H2 Q
variable {o e:Expr} {es:List Expr} {to:TE} {t:TA} {name:Str} {apos cpos:Pos} {T id:String} {r:V→List V→Hp→VK→Prop}
theorem pe_bm (pa:PlainAttrs T) (slot:Slot T name id) (hty:typeOf (.builtin id)=pure (.type "method_descriptor")) (hm:MtR X id r) (ho:PE X o to) (ha:PA X (e :: es) t)
    (hbase:attributeBase o name X.env (eval o X.env)=eval o X.env:=by rfl)
    (hfew:((backTo cpos (starEach (e :: es) X.env)).all (fun x=>!x.1) && (backToKw cpos (keywordEach [] X.env)).all (fun x=>x.1.isSome)
      && decide ((e :: es).length + ([]:List Keyword).length + (if ([]:List Keyword).isEmpty then 0 else 1)<30))=true:=by rfl)
    (hline:(apos.endLine == cpos.line)=true:=by rfl) (hs:starEach (e :: es) X.env=(false,eval e X.env) :: starEach es X.env:=by rfl) (hplain:(backTo cpos (starEach es X.env)).any (·.1)=false:=by rfl) :
    PE X (.Call (.Attribute o name apos) (e :: es) [] cpos) (tBM X.K T r to t):=by
  intro pins s σ H Q I h
  refine wpAny_Call_method_late hbase hfew hline rfl (thn (ho pins s σ H _ I h) fun v s1 ⟨x,H1,I1,r1,ty,q1⟩=>?_)
  obtain ⟨h1,h2⟩:=tyV_is I1 r1 ty
  refine ⟨T,id,pa,slot,hty,h1,h2,?_⟩
  have hA:=ha cpos pins s1 σ H1 _ I1 q1
  rw [hs] at hA ⊢
  refine Calls.callWith_builtin (by show (false || (backTo cpos (starEach es X.env)).any (·.1))=false;rw [hplain] <;> rfl) (Calls.evalArgs_plain ?_)
  exact thn hA fun us s2 ⟨vs,H2,I2,r2,q2⟩=>hm pins s2 σ H2 x vs v us Q I2 r1 r2 q2
end
end L2
namespace L2
open PySem PySem.Spec PyProof.Rows
def MtM (X:Cx) (id:String) (r:V→List V→Hp→VK→Prop):Prop :=
  ∀ (pins:List (Addr × Obj)) (s:Shared) (σ:St) (H:Hp) (x:V) (xs:List V) (v:Value) (us:List Value) (Q:VK),Inv X pins σ H s→RelV x v→Vals xs us→r x xs H Q →
    wpAny (model X.prog X.w) X.A (call (.builtin id) (v :: us)) (EP X pins σ Q) X.xe s
theorem Vals.one:∀ {x:V} {us:List Value},Vals [x] us→∃ u,us=[u]∧RelV x u
  | _,_,.cons r .nil=>⟨_,rfl,r⟩
theorem Vals.rep {xs:List V} {us:List Value} (h:Vals xs us):∀ k:Nat,Vals (List.replicate k xs).flatten (List.replicate k us).flatten
  | 0=>.nil
  | k + 1=>by
    rw [List.replicate_succ,List.replicate_succ,List.flatten_cons,List.flatten_cons]
    exact Vals.append h (Vals.rep h k)
theorem foldl_rep (its:List Value):∀ (k:Nat) (acc:List Value),
    List.foldl (fun x1 x2=>x1++x2) acc.toArray (List.replicate k its.toArray)=(acc++(List.replicate k its).flatten).toArray
  | 0,acc=>by simp
  | k + 1,acc=>by
    have e:acc.toArray++its.toArray=(acc++its).toArray:=by simp
    have e2:(acc++its)++(List.replicate k its).flatten=acc++(List.replicate (k + 1) its).flatten:=by
      rw [List.replicate_succ,List.flatten_cons,List.append_assoc]
    rw [← e2,← foldl_rep its k (acc++its),← e,List.replicate_succ,List.foldl_cons]
section
variable {X:Cx} {pins:List (Addr × Obj)} {σ:St} {H:Hp} {s:Shared} {l b:Addr} {xs ys zs:List V}
theorem Inv.lset {its its':List Value} {n:Nat} {f:Array Value→Array Value} {t':Nat} (I:Inv X pins σ H s) (hH:H l=some (.lst xs))
    (e:s.heap.get? l=some { cls:=.type "list",data:=.seq its.toArray n }) (hf:f its.toArray=its'.toArray) (hv:Vals ys its') (hz:ys.length≤sizeLine) :
    Inv X pins σ (upd H l (.lst ys)) { s with heap:=s.heap.update l (Obj.mapSeq f),toks:=t' }:=by
  have q:=PySem.IsL.update e f
  rw [hf] at q
  refine I.write (x:=l) (e:=l) (by rw [hH];exact trivial) (.inl rfl) (fun b' u hb hu=>(Heap.get?_update_other s.heap (Obj.mapSeq f) (Ne.symm hb)).trans hu) ⟨_,q⟩ ?_
  exact ⟨hz,its',_,hv,q⟩
theorem Inv.lnew {its:List Value} {t':Nat} (I:Inv X pins σ H s) (hv:Vals ys its) (hz:ys.length≤sizeLine) :
    Inv X pins σ (upd H s.heap.objs.size (.lst ys)) { s with heap:=s.heap.push { cls:=.type "list",data:=.seq its.toArray },toks:=t' } :=
  I.laid (fun _ _ q=>Heap.get?_push_of_some _ q) (Nat.le_refl _) ⟨hz,its,0,hv,Heap.get?_push_size _ rfl⟩
theorem Inv.fresh (I:Inv X pins σ H s):H s.heap.objs.size=none:=I.hok.fresh (Nat.le_refl _)
theorem Inv.lstM (I:Inv X pins σ H s) (hH:H l=some (.lst xs)):xs.length≤sizeLine∧∃ (its:List Value) (n:Nat),Vals xs its∧xs.length=its.length∧s.heap.get? l=some { cls:=.type "list",data:=.seq its.toArray n }:=by
  obtain ⟨z,its,n,r,e⟩:=I.hok l _ hH
  exact ⟨z,its,n,r,r.length,e⟩
theorem notLongL {n:Nat} (h:n≤sizeLine):Builtin.List.listTooLong n=false:=by
  unfold Builtin.List.listTooLong
  exact decide_eq_false (by omega)
end
section
variable {X:Cx}
def rAppend:V→List V→Hp→VK→Prop:=fun x vs H Q=>∃ l xs y,x=.ref l∧vs=[y]∧H l=some (.lst xs)∧xs.length<sizeLine∧Q .non (upd H l (.lst (xs++[y])))
theorem mt_append:MtM X "list.append" rAppend:=by
  intro pins s σ H x vs v us Q I rx rv h
  obtain ⟨l,xs,y,rfl,rfl,hH,hz,q⟩:=h
  cases rx
  obtain ⟨u,rfl,ru⟩:=rv.one
  obtain ⟨z,its,n,r,hl,e⟩:=I.lstM hH
  refine call_meets F.slot_list_append ⟨_,e,rfl⟩ F.entry_list_append (F.args_list_append_2 _ _) (PySem.list_append l its.toArray n u (by rw [List.size_toArray];omega)) ⟨e,?_⟩
  refine ⟨.non,_,I.lset (its':=its++[u]) hH e (by simp) (r.append (.cons ru .nil)) ?_,rfl,q⟩
  rw [List.length_append,List.length_singleton]
  omega
def rCat:R2:=fun x y H Q=>∃ l b xs zs,x=.ref l∧y=.ref b∧H l=some (.lst xs)∧H b=some (.lst zs)∧xs.length + zs.length≤sizeLine∧∀ p,H p=none→Q (.ref p) (upd H p (.lst (xs++zs)))
theorem op_cat:OpR X (binaryOp .Add) rCat:=by
  intro pins s σ H x y v u Q I rx ry h
  obtain ⟨l,b,xs,zs,rfl,rfl,hH,hB,hz,q⟩:=h
  cases rx
  cases ry
  obtain ⟨z,its,n,r,hl,e⟩:=I.lstM hH
  obtain ⟨z2,its2,n2,r2,hl2,e2⟩:=I.lstM hB
  refine PySem.P.add_list e e2 ?_ (by rw [List.size_toArray,List.size_toArray];omega)
  have ea:its.toArray++its2.toArray=(its++its2).toArray:=by simp
  rw [ea]
  exact ⟨.ref _,_,I.lnew (t':=s.toks) (r.append r2) (by rw [List.length_append];omega),rfl,q _ I.fresh⟩
def rRep:R2:=fun x y H Q=>∃ l k xs,x=.ref l∧y=.int k∧H l=some (.lst xs)∧-(2 ^ 63)≤k∧k<2 ^ 63∧xs.length * k.toNat≤sizeLine ∧
  ∀ p,H p=none→Q (.ref p) (upd H p (.lst (List.replicate k.toNat xs).flatten))
theorem len_rep {α:Type} (xs:List α) (k:Nat):(List.replicate k xs).flatten.length=k * xs.length:=by
  induction k with
  | zero=>simp
  | succ k ih=>rw [List.replicate_succ,List.flatten_cons,List.length_append,ih,Nat.succ_mul,Nat.add_comm]
theorem op_rep:OpR X (binaryOp .Mult) rRep:=by
  intro pins s σ H x y v u Q I rx ry h
  obtain ⟨l,k,xs,rfl,rfl,hH,h1,h2,hz,q⟩:=h
  cases rx
  obtain ⟨t,rfl⟩:=ry
  obtain ⟨z,its,n,r,hl,e⟩:=I.lstM hH
  have hlen:its.toArray.size * k.toNat≤sizeLine:=by rw [List.size_toArray,← hl];exact hz
  have hcap:¬ its.toArray.size * k.toNat > (2 ^ 63 - 1) / 8:=by
    have:(sizeLine:Nat)≤(2 ^ 63 - 1) / 8:=by decide
    omega
  have hfit:¬ (!Builtin.List.listFitsIndex k)=true:=by
    rw [fitsIndex_both h1 h2]
    exact Bool.false_ne_true
  have hlong:¬ Builtin.List.listTooLong (its.toArray.size * k.toNat)=true:=by
    rw [notLongL hlen]
    exact Bool.false_ne_true
  have hnew:List.foldl (fun x1 x2=>x1++x2) #[] (List.replicate (if its.toArray.isEmpty=true then 0 else k.toNat) its.toArray)=(List.replicate k.toNat its).flatten.toArray:=by
    have f0:∀ m:Nat,List.foldl (fun x1 x2=>x1++x2) #[] (List.replicate m its.toArray)=(List.replicate m its).flatten.toArray:=fun m=>by
      have:=foldl_rep its m []
      rw [List.nil_append] at this
      exact this
    rw [f0]
    cases its with
    | nil=>simp
    | cons a r'=>rw [if_neg (by simp)]
  refine wpAny_binaryOp_repeat_ref (T:="list") (U:="int") (by decide) ⟨_,e,rfl⟩ (fun s'=>typeIs_int s' k t) noFill_list_mul F.fills_int_mul F.slot_int_rmul repeat_list F.slot_int_index.lookup
    (call_meets F.slot_int_rmul (typeIs_int s k t) F.entry_int_rmul (F.args_int_rmul_2 _ _) (int___rmul___int_list k t l its.toArray n)
      ⟨e,rfl,⟨_,e,rfl⟩,call_meets F.slot_list_mul ⟨_,e,rfl⟩ F.entry_list_mul (F.args_list_mul_2 _ _) (AutoListH.list___mul___list_int_3 l its.toArray n k t hfit hcap hlong) ⟨e,?_⟩⟩)
  rw [hnew]
  exact ⟨.ref _,_,I.lnew (t':=s.toks) (r.rep k.toNat) (by rw [len_rep,Nat.mul_comm];exact hz),rfl,q _ I.fresh⟩
end
section
variable {prog:Program} {w:World} {A:Around} {E:Value→Shared→Prop} {s:Shared}
end
section
variable {X:Cx}
end
end L2
namespace Att
open PySem PySem.W PySem.Calls PyProof.Rows
theorem ints_of_wellAll {P:Params} {h:Heap}:∀ (ns:List Int) (vs:List Value),WellAll P h vs (ns.map WData.int)→IntsAre vs ns:=by
  intro ns
  induction ns with
  | nil =>
    intro vs w
    rw [List.map_nil] at w
    cases w
    exact .nil
  | cons n ns ih =>
    intro vs w
    rw [List.map_cons] at w
    cases w with
    | cons a b =>
      cases a
      exact .cons _ _ (ih _ b)
theorem script_of {l:OpenLaw} {n:Nat} (hn:l.most=some n) {P:Params} {h:Heap} {args:List WData} {vals:List Value}
    (hpre:l.row.toRowW.claim.pre args=true) (hwl:WellAll P h vals args) :
    ∃ a vs ns,vals=[Value.ref a]∧args=[WData.list (ns.map WData.int)]∧h.get? a=some { cls:=.type "list",data:=.seq vs.toArray }∧IntsAre vs ns∧ns.length≤n:=by
  have hsh:WShape.hasAll [] args [.list .int]=true:=(pre_splitW hpre).1
  have hc:l.pre.holds [] { args:=args }=true:=(pre_splitW hpre).2
  obtain ⟨d,r,rfl,h1,h2⟩:=hasAllW_cons hsh
  obtain rfl:=hasAllW_nil h2
  obtain ⟨xs,rfl,h3⟩:=hasW_list h1
  obtain ⟨ns,rfl⟩:=items_int h3
  have hlen:ns.length≤n:=by
    unfold OpenLaw.pre at hc
    have h4:(WTm.not (.lt (.lit (.int (n:Int))) (.len (.arg 0)))).holds [] { args:=[.list (ns.map .int)] }=true:=by
      have h4:=(holds_andW hc).1
      rw [hn] at h4
      exact h4
    have h5:=condW_of h4 (w_not (w_lt w_lit (w_len_list (w_arg rfl))))
    rw [List.length_map] at h5
    refine Nat.le_of_not_lt fun q=>?_
    have q':(n:Int)<((ns.length:Nat):Int):=by omega
    first
      | (rw [decide_eq_true q'] at h5;exact absurd h5 (by decide))
      | (simp at h5;omega)
  cases hwl with
  | cons w1 w2 =>
    cases w2
    cases w1 with
    | list ho hall=>exact ⟨_,_,ns,rfl,rfl,ho,ints_of_wellAll ns _ hall,hlen⟩
theorem post_true (l:OpenLaw) (args:List WData):l.row.toRowW.claim.post args (.bool true) args=true :=
  postW_of (r:=l.row.toRowW) (X:=(true == true))
    (show WShape.has [] (.bool true) .bool=true by first | rfl | decide | simp [WShape.has,WShape.arms,WShape.armsAll])
    (show (WTm.eq .res (.lit (.bool true))).value [] { args:=args,res:=some (.bool true),after:=args }=some (.bool (true == true)) from w_eq_bool (w_res rfl) w_lit) rfl
theorem attach_call {l:OpenLaw} {n:Nat} {q:Program} {loose:List Str} {XP:(Str→Option Value)→Heap→Prop} {YP:World→Heap→Prop} {d:DefRec}
    (hn:l.most=some n) (hdf:d.params.defaults=[])
    (call:∀ (w:World) (s₀ s₁:Shared) (mg mb:Str→Option Value) (fa:Addr) (o:Obj) (pm cd doc:Value) (a:Addr) (vs:List Value) (ns:List Int),
      Ground q loose [] XP w s₀ mg mb s₁.heap→YP w s₁.heap →
      s₁.heap.get? fa=some o→o.data=.func (docDef d.name d.params d.body d.scope pm cd doc)→s₁.heap.CodeRec cd d.name→mg d.name=some (.ref fa) →
      s₁.heap.get? a=some { cls:=.type "list",data:=.seq vs.toArray }→IntsAre vs ns→ns.length≤n→s₁.gens=#[] →
      codeAny (model l.prog w) callerA (.call (.ref fa) ⟨[.ref a],[]⟩) (fun r s'=>r=.ok (.ret (.bool true))∧OldK s₁.heap s'.heap∧s'.os=s₁.os∧AllBare s'.gens) s₁) :
    WalkO q loose XP YP l.row.toRowW d [] (fun f vs=>PySem.call f vs):=by
  intro w s₀ s₁ mg mb G Y fa o pm cd doc dV kV ho hd hcd hD hmg hg args vals as hpre hlay hrd hwl hlo
  obtain rfl:dV=.none:=Dflts.none hD hdf
  obtain rfl:kV=.none:=Dflts.noKw hD
  obtain ⟨a,vs,ns,rfl,rfl,hobj,hints,hlen⟩:=script_of hn hpre hwl
  refine enter_call (codeAny_mono (call w s₀ s₁ mg mb fa o pm cd doc a vs ns G Y ho (fd_plain hd) hcd hmg hobj hints hlen hg) fun r s' hq=>?_)
  obtain ⟨rfl,h2,h3,h4⟩:=hq
  exact ⟨.inl ⟨.bool true,.bool true,[],rfl,fun _=>rfl,.bool true,post_true l _,fun _=>⟨List.Pairwise.nil,fun _ hm=>(nomatch hm)⟩⟩,h2,h3,h4⟩
section
variable {prog:Program} {w:World} {A:Around} {E:Value→Shared→Prop} {s:Shared} {K:Frag}
end
end Att
namespace L2
open PySem PySem.Spec PyProof.Rows
theorem vals_ints:∀ {vs:List Value} {ns:List Int},IntsAre vs ns→Vals (ns.map V.int) vs
  | _,_,.nil=>.nil
  | _,_,.cons n t h=>.cons ⟨t,rfl⟩ (vals_ints h)
end L2
namespace L2
open PySem PySem.Spec PyProof.Rows
abbrev KOf {K:PySem.W.Frag} {h:Heap} (_:K.In h):PySem.W.Frag:=K
end L2
namespace L2
open PySem PySem.Spec PyProof.Rows
abbrev CX0:CXT:=fun _ _ _ _ _ _=>False
abbrev E0:XK:=fun _ _ _=>False
theorem pass0 {X:Cx}:Passes CX0 X E0:=fun _ _ _ _ _ _ _ h=>h.elim
structure Fun (K:PySem.W.Frag) (x qual:Str) (st:Stmt) (f:Addr) (fd:FuncData):Prop where
  ex:∃ (oc:Value) (od:Option Addr) (kV doc pm:Value) (an:Option Addr) (cdv ct:Value) (osl:Array (Option Value)),
    fd=PySem.W.fnOf x qual (defArgs st) (defBody st) (defScope st) .none kV doc pm an cdv ct∧K.lookup f=some ⟨oc,od,.func fd,osl⟩∧PySem.W.codeIn K cdv qual=true
  kp:PySem.W.keepIn K (.ref f)=true
variable {P:Program} {w:World} {K:PySem.W.Frag} {mg:Str→Option Value} {base:Heap} {T:Tabs}
theorem Fun.ok {x qual:Str} {st:Stmt} {f:Addr} {fd:FuncData} {N ps:List Str} {k:Nat} {sp:Sp} (F:Fun K x qual st f fd) (S:FnScope N ps (defScope st)) (len:∀ vs H Q E,sp vs H Q E→vs.length=ps.length)
    (hbody:∀ (cdv:Value) (A:Around) (outer:List Env) (s:Shared) (H:Hp) (vs:List V) (Q:VK) (E:XK),Room k (A.deeper (envOfC qual (defScope st) s.heap.objs.size f cdv))→sp vs H Q E →
      ∃ t,PSs (cxOf CX0 P w K mg base N qual (defScope st) f cdv A outer s H E).nox (defBody st) t∧t { nx:=fun _ H'=>Q .non H',rt:=Q } (start N vs) H):FnOk P w K mg base CX0 (k + 1) f fd ps sp:=by
  obtain ⟨oc,od,kV,doc,pm,an,cdv,ct,osl,rfl,lk,hcd⟩:=F.ex
  refine fn_of lk hcd S len fun A outer s H vs Q E hr hsp=>?_
  obtain ⟨t,h,q⟩:=hbody cdv A outer s H vs Q E hr hsp
  exact ⟨t,h.nox,q⟩
theorem Fun.binds {x qual:Str} {st:Stmt} {f:Addr} {fd:FuncData} {ps:List Str} (F:Fun K x qual st f fd)
    (h:∀ (kV doc pm:Value) (an:Option Addr) (cdv ct:Value) (us:List Value),us.length=ps.length→bindArgs (PySem.W.fnOf x qual (defArgs st) (defBody st) (defScope st) .none kV doc pm an cdv ct) ⟨us,[]⟩=pure (ps.zip us)):Binds K fd ps []:=by
  obtain ⟨oc,od,kV,doc,pm,an,cdv,ct,osl,rfl,lk,hcd⟩:=F.ex
  exact .all (h kV doc pm an cdv ct)
theorem fun_mk {x qual:Str} {st:Stmt} {f:Addr} {oc:Value} {od an:Option Addr} {osl:Array (Option Value)} {kV doc pm cdv ct:Value} (l:K.lookup f=some ⟨oc,od,.func (PySem.W.fnOf x qual (defArgs st) (defBody st) (defScope st) .none kV doc pm an cdv ct),osl⟩)
    (c:PySem.W.codeIn K cdv qual=true) (k:PySem.W.keepIn K (.ref f)=true):Fun K x qual st f (PySem.W.fnOf x qual (defArgs st) (defBody st) (defScope st) .none kV doc pm an cdv ct):=⟨⟨oc,od,kV,doc,pm,an,cdv,ct,osl,rfl,l,c⟩,k⟩
section
variable {X:Cx}
theorem pv (i:Nat) {x:Str} {pos:Pos} (hN:X.N[i]?=some x:=by rfl) (hv:Vis X.env.scope x:=by first | exact Or.inl rfl | exact Or.inr (Or.inl rfl) | exact Or.inr (Or.inr rfl)) (hd:(x == ("__debug__":Str))=false:=by decide)
    (hcd:(x == ("__classdict__":Str))=false:=by decide):PE X (.Name x pos) (tVar i):=pe_var hN hv hd hcd
end
theorem iteF {A B:Prop} (h:B):if false=true then A else B:=by
  rw [if_neg Bool.false_ne_true]
  exact h
theorem iteT {A B:Prop} (h:A):if true=true then A else B:=by
  rw [if_pos rfl]
  exact h
theorem ite2 {c A B:Prop} [Decidable c] (h1:c→A) (h2:¬ c→B):if c then A else B:=by
  by_cases h:c
  · rw [if_pos h]
    exact h1 h
  · rw [if_neg h]
    exact h2 h
theorem iteNS {c A B:Prop} [Decidable c] (hc:c) (h:B):if (!decide c)=true then A else B:=by
  rw [decide_eq_true hc]
  exact iteF h
def Same (H H':Hp):Prop:=∀ b o,H b=some o→H' b=some o
theorem Same.refl (H:Hp):Same H H:=fun _ _ h=>h
theorem Same.free {H H':Hp} (e:Same H H') {l:Addr} (h:H' l=Option.none):H l=Option.none:=by
  cases q:H l with
  | none=>rfl
  | some o =>
    rw [e l o q] at h
    cases h
theorem Same.seq {K:PySem.W.Frag} {H H':Hp} {a:Addr} {xs:List V} (e:Same H H') (h:SqL K H a xs):SqL K H' a xs:=by
  rcases h with (h | ⟨o,h⟩) | h
  · exact .inl (.inl (e _ _ h))
  · exact .inl (.inr ⟨o,e _ _ h⟩)
  · exact .inr h
end L2
namespace L2
open PySem PySem.Spec PyProof.Rows
def clo (cells:List (Str × Addr)):List (Str × NameKind)→List (Str × Addr)→List (Str × Addr)
  | [],cs=>cs
  | (n,k) :: r,cs=>clo cells r (if k == .free then (n,(cells.lookup n).getD 0) :: cs else cs)
theorem clo_eq {env:Env}:∀ (names:List (Str × NameKind)) (cs:List (Str × Addr)),(∀ y∈names,y.2=.free→∃ c,env.cells.lookup y.1=some c) →
    (forIn names cs fun (x:Str × NameKind) (r:List (Str × Addr))=>(do
      let cs:=r
      match x with
      | (name,kind) =>
        if kind == .free then do
          let c ← cellOf env name
          let cs:=(name,c) :: cs
          pure (ForInStep.yield cs)
        else pure (ForInStep.yield cs):Sem (ForInStep (List (Str × Addr)))))=pure (clo env.cells names cs)
  | [],cs,_=>rfl
  | (n,k) :: r,cs,h=>by
    rw [List.forIn_cons]
    by_cases hk:k=.free
    · subst hk
      obtain ⟨c,hc⟩:=h (n,.free) List.mem_cons_self rfl
      have e:cellOf env n=pure c:=by unfold cellOf;rw [hc]
      simp only [beq_self_eq_true,if_true,e,pure_bind]
      rw [clo_eq r _ fun y hy=>h y (List.mem_cons_of_mem _ hy)]
      simp [clo,hc]
    · have hb:(k == NameKind.free)=false:=by simpa using hk
      simp only [hb,Bool.false_eq_true,if_false,pure_bind]
      rw [clo_eq r _ fun y hy=>h y (List.mem_cons_of_mem _ hy)]
      simp [clo,hb]
theorem closureFor_clo {env:Env} {scope:Scope} (h:∀ y∈scope.names,y.2=.free→∃ c,env.cells.lookup y.1=some c):closureFor scope env=pure (clo env.cells scope.names []):=by
  unfold closureFor
  have e:=clo_eq (env:=env) scope.names [] h
  first
    | (rw [← e];rfl)
    | (simp only [bind_pure];exact e)
    | exact e
theorem clo_mem {cells:List (Str × Addr)}:∀ (names:List (Str × NameKind)) (cs:List (Str × Addr)) (p:Str × Addr),p∈clo cells names cs→p∈cs∨p.2=(cells.lookup p.1).getD 0
  | [],_,_,h=>.inl h
  | (n,k) :: r,cs,p,h=>by
    rcases clo_mem r _ p h with h' | h'
    · by_cases hk:(k == NameKind.free)=true
      · rw [if_pos hk] at h'
        rcases List.mem_cons.mp h' with e | e
        · subst e;exact .inr rfl
        · exact .inl e
      · rw [if_neg hk] at h';exact .inl h'
    · exact .inr h'
theorem clo_keep {cells:List (Str × Addr)}:∀ (names:List (Str × NameKind)) (cs:List (Str × Addr)) (x:Str),(cs.lookup x).isSome=true→((clo cells names cs).lookup x).isSome=true
  | [],_,_,h=>h
  | (n,k) :: r,cs,x,h=>by
    refine clo_keep r _ x ?_
    by_cases hk:(k == NameKind.free)=true
    · rw [if_pos hk]
      rw [List.lookup_cons]
      cases x == n with
      | true=>rfl
      | false=>exact h
    · rw [if_neg hk];exact h
theorem clo_has {cells:List (Str × Addr)}:∀ (names:List (Str × NameKind)) (cs:List (Str × Addr)) (x:Str),(x,NameKind.free)∈names→((clo cells names cs).lookup x).isSome=true
  | [],_,_,h=>nomatch h
  | (n,k) :: r,cs,x,h=>by
    show ((clo cells r _).lookup x).isSome=true
    rcases List.mem_cons.mp h with e | e
    · have e1:x=n:=congrArg Prod.fst e
      have e2:NameKind.free=k:=congrArg Prod.snd e
      subst e1
      subst e2
      refine clo_keep r _ x ?_
      rw [if_pos (by decide),List.lookup_cons]
      simp
    · exact clo_has r _ x e
theorem clo_sub {cells:List (Str × Addr)} {names:List (Str × NameKind)} {x:Str} {c:Addr} (h:(clo cells names []).lookup x=some c):c=(cells.lookup x).getD 0:=by
  rcases clo_mem names [] _ (PySem.mem_of_lookup h) with z | z
  · exact nomatch z
  · exact z
theorem clo_free {cells:List (Str × Addr)}:∀ {names:List (Str × NameKind)} (cs:List (Str × Addr)) {p:Str × Addr},p∈clo cells names cs→p∈cs∨(p.1,NameKind.free)∈names
  | [],_,_,h=>.inl h
  | (n,k) :: r,cs,p,h=>by
    rcases clo_free (names:=r) _ h with h' | h'
    · by_cases hk:(k == NameKind.free)=true
      · rw [if_pos hk] at h'
        rcases List.mem_cons.mp h' with e | e
        · subst e
          have:k=.free:=by simpa using hk
          subst this
          exact .inr List.mem_cons_self
        · exact .inl e
      · rw [if_neg hk] at h';exact .inl h'
    · exact .inr (List.mem_cons_of_mem _ h')
def compCx (X:Cx) (scope:Scope) (N:List Str) (s:Shared) (H:Hp) (ex:List Addr):Cx :=
  { X with N:=N,s₀:=s,H₀:=H,env:=compEnvC scope (clo X.env.cells scope.names []) s.heap.objs.size X.env,outer:=X.stack,stack:=X.stack,ex:=ex,fn:=fun x=>((clo X.env.cells scope.names []).lookup x).isNone,pn:=[],xe:=fun _ _=>False }
def freeOk (sc scope:Scope):Bool:=scope.names.all fun y=>(y.2 != .free) || (sc.names.lookup y.1 == some .cell) || (sc.names.lookup y.1 == some .free)
def ownOk (scope:Scope):Bool:=(scope.kind == .function) && (scope.names.all fun y=>y.2 != .cell) && (scope.names.all fun y=>y.2 != .local || scope.names.lookup y.1 == some .local)
def capOk (scope:Scope) (N N':List Str) (cap:List (Option Nat)):Bool:=(cap.length == N'.length) && (N'.zip cap).all fun p=>match p.2 with
  | none=>true
  | some j=>N[j]? == some p.1 && scope.names.lookup p.1 == some .free
def capSt (cap:List (Option Nat)) (σ:St):St:=cap.map fun o=>o.bind fun j=>(σ[j]?).bind id
theorem lookup_mapK {f:Str × NameKind→Str × NameKind} (hf:∀ y,(f y).1=y.1) (x:Str):∀ names:List (Str × NameKind),(names.map f).lookup x=(names.lookup x).map fun k=>(f (x,k)).2
  | []=>rfl
  | (n,k) :: r=>by
    have ih:=lookup_mapK hf x r
    have e1:(f (n,k)).1=n:=hf (n,k)
    have e2:f (n,k)=(n,(f (n,k)).2):=Prod.ext e1 rfl
    rw [List.map_cons,e2,List.lookup_cons,List.lookup_cons]
    cases hx:x == n with
    | true =>
      have:x=n:=by simpa using hx
      subst this
      rfl
    | false=>exact ih
def rlb (env:Env):Str × NameKind→Str × NameKind:=fun (n,k)=>if (k == NameKind.free && env.scope.kind == .function && env.kindOf n == some .cell) then (n,NameKind.cell) else (n,k)
theorem rlb_fst (env:Env) (y:Str × NameKind):(rlb env y).1=y.1:=by
  obtain ⟨n,k⟩:=y
  unfold rlb
  dsimp only
  split <;> rfl
theorem rlb_snd (env:Env) (n:Str) (k:NameKind):(rlb env (n,k)).2=k∨((rlb env (n,k)).2=.cell∧k=.free):=by
  unfold rlb
  dsimp only
  split
  · rename_i h
    rw [Bool.and_eq_true,Bool.and_eq_true] at h
    exact .inr ⟨rfl,by simpa using h.1.1⟩
  · exact .inl rfl
theorem relabel_names (scope:Scope) (env:Env):(relabel scope env).names=scope.names.map (rlb env):=rfl
theorem relabel_free {scope:Scope} {env:Env} {x:Str} (h:scope.names.lookup x=some .free):(relabel scope env).names.lookup x=some .cell∨(relabel scope env).names.lookup x=some .free:=by
  rw [relabel_names,lookup_mapK (rlb_fst env),h]
  rcases rlb_snd env x .free with e | ⟨e,_⟩
  · exact .inr (congrArg some e)
  · exact .inl (congrArg some e)
theorem relabel_back {scope:Scope} {env:Env} {x:Str} {k':NameKind} (hk:k'=.cell∨k'=.free) (hn:∀ y∈scope.names,y.2≠.cell) (h:(relabel scope env).names.lookup x=some k'):(x,NameKind.free)∈scope.names:=by
  rw [relabel_names,lookup_mapK (rlb_fst env)] at h
  cases e:scope.names.lookup x with
  | none=>rw [e] at h;cases h
  | some k =>
    rw [e] at h
    have h':(rlb env (x,k)).2=k':=Option.some.inj h
    have hm:=PySem.mem_of_lookup e
    rcases rlb_snd env x k with z | ⟨_,z⟩
    · rw [z] at h'
      subst h'
      rcases hk with z2 | z2
      · exact absurd z2 (hn _ hm)
      · rw [z2] at hm;exact hm
    · rw [z] at hm;exact hm
def PTs (X:Cx) (ifs:List Expr) (t:TT):Prop :=
  ∀ (pins:List (Addr × Obj)) (s:Shared) (σ:St) (H:Hp) (Q:Bool→Hp→Prop),Inv X pins σ H s→t σ H Q →
    wpAny (model X.prog X.w) X.A (forIn ifs true fun c r=>if r=true then do let ok ← isTrue c X.env (eval c X.env);pure (ForInStep.yield ok) else pure (ForInStep.yield r)) (TP X pins σ Q) X.xe s
def tYes:TT:=fun _ H Q=>Q true H
theorem yesT {i:Nat} {x:V} {τ:St} {H:Hp} {A B:St→Hp→Prop} (h:A (τ.set i (some x)) H):gName i x τ H fun τ4 H4=>tYes τ4 H4 fun b H5=>if b=true then A τ4 H5 else B τ4 H5:=by
  show if true=true then A (τ.set i (some x)) H else B (τ.set i (some x)) H
  rw [if_pos rfl];exact h
theorem pts_nil {X:Cx}:PTs X [] tYes:=fun _ _ _ H _ I h=>wpAny_tests_nil ⟨H,I,h⟩
theorem pts_one {X:Cx} {c:Expr} {t:TT} (h:PT X c t):PTs X [c] t:=fun pins s σ H Q I hq=>wpAny_tests_one (h pins s σ H Q I hq)
def tTurns (J:It) (acc:Addr) (g:TG) (tc:TT) (te:TE) (τ:St) (H1:Hp) (Q:Hp→Prop):Prop :=
  ∃ W:Nat→Nat→St→Hp→Prop,(∃ m,W 0 m τ (upd H1 acc (.lst [])))∧∀ i m τ H2,W i m τ H2→(J.stop i H2∧Q H2)∨(J.go i H2∧∃ N:St→Hp→Prop,(∀ τ' H',N τ' H'→∃ m',m'<m∧W (i + 1) m' τ' H')∧∀ x H3,J.yld i H2 x H3→g x τ H3 fun τ4 H4 =>
    tc τ4 H4 fun b H5=>if b=true then te τ4 H5 fun y H6=>∃ ys,H6 acc=some (.lst ys)∧ys.length<sizeLine∧N τ4 (upd H6 acc (.lst (ys++[y]))) else N τ4 H5)
theorem comp_range {lo:Int} {n:Nat} {acc:Addr} {g:TG} {tc:TT} {te:TE} {τ:St} {H1:Hp} {Q:Hp→Prop} (Pv:Nat→St→Hp→Prop) (h0:Pv 0 τ (upd H1 acc (.lst [])))
    (hs:∀ i τ H,i<n→Pv i τ H→g (.int (lo + i)) τ H fun τ4 H4=>tc τ4 H4 fun b H5=>if b=true then te τ4 H5 fun y H6=>∃ ys,H6 acc=some (.lst ys)∧ys.length<sizeLine∧Pv (i + 1) τ4 (upd H6 acc (.lst (ys++[y]))) else Pv (i + 1) τ4 H5)
    (hd:∀ τ H,Pv n τ H→Q H):tTurns (Itr lo n) acc g tc te τ H1 Q:=by
  refine ⟨fun i m τ H=>m=n - i∧i≤n∧Pv i τ H,⟨n,by simp,Nat.zero_le _,h0⟩,?_⟩
  rintro i m τ H ⟨rfl,hi,p⟩
  by_cases hlt:i<n
  · refine .inr ⟨hlt,Pv (i + 1),fun τ' H' p'=>⟨n - (i + 1),by omega,rfl,hlt,p'⟩,fun x H' y=>?_⟩
    obtain ⟨e,y⟩:=y
    subst e y
    exact hs i τ _ hlt p
  · have e:i=n:=by omega
    subst e
    exact .inl ⟨Nat.le_refl _,hd τ H p⟩
theorem comp_list {K:PySem.W.Frag} {a:Addr} {xs:List V} {acc:Addr} {g:TG} {tc:TT} {te:TE} {τ:St} {H1:Hp} {Q:Hp→Prop} (Pv:Nat→St→Hp→Prop) (h0:Pv 0 τ (upd H1 acc (.lst []))) (hl:∀ i τ H,i≤xs.length→Pv i τ H→SqL K H a xs)
    (hs:∀ i x τ H,xs[i]?=some x→Pv i τ H→g x τ H fun τ4 H4=>tc τ4 H4 fun b H5=>if b=true then te τ4 H5 fun y H6=>∃ ys,H6 acc=some (.lst ys)∧ys.length<sizeLine∧Pv (i + 1) τ4 (upd H6 acc (.lst (ys++[y]))) else Pv (i + 1) τ4 H5)
    (hd:∀ τ H,Pv xs.length τ H→Q H):tTurns (Itl K a) acc g tc te τ H1 Q:=by
  refine ⟨fun i m τ H=>m=xs.length - i∧i≤xs.length∧Pv i τ H,⟨xs.length,by simp,Nat.zero_le _,h0⟩,?_⟩
  rintro i m τ H ⟨rfl,hi,p⟩
  have q:=hl i τ H hi p
  by_cases hlt:i<xs.length
  · refine .inr ⟨⟨xs,xs[i],q,by simp [hlt]⟩,Pv (i + 1),fun τ' H' p'=>⟨xs.length - (i + 1),by omega,rfl,hlt,p'⟩,fun x H' y=>?_⟩
    obtain ⟨e,y⟩:=y
    subst e
    exact hs i x τ _ (y xs q) p
  · have e:i=xs.length:=by omega
    subst e
    exact .inl ⟨⟨xs,q,Nat.le_refl _⟩,hd τ H p⟩
def tComp (wi:TI) (cap:List (Option Nat)) (g:TG) (tc:TT) (te:TE):TE:=fun σ H Q=>wi σ H fun J H1=>∀ acc,H1 acc=none→tTurns J acc g tc te (capSt cap σ) H1 (fun H2=>Q (.ref acc) H2)
abbrev cTests (ifs:List Expr) (env:Env):Sem Bool:=forIn ifs true fun c r=>if r=true then do let ok ← isTrue c env (eval c env);pure (ForInStep.yield ok) else pure (ForInStep.yield r)
abbrev wpQ {α:Type} (prog:Program) (w:World) (A:Around) (m:Sem α) (Q:α→Shared→Prop) (s:Shared):Prop:=wpAny (model prog w) A m Q (fun _ _=>False) s
theorem comp_loop {prog:Program} {w:World} {A:Around} {R:Result→Shared→Prop} {s:Shared} {elt target iter:Expr} {ifs:List Expr} {scope:Scope} {pos:Pos} {it acc:Value} {env:Env} (I:Nat→Shared→Prop)
    (turn:∀ k s0,I k s0→wpQ prog w A (pyNext it) (fun r s1=>(r=none∧R (.ok .next) s1)∨∃ v,r=some v ∧
      wpQ prog w A (letOwnedTupleGo target it v) (fun _ s2=>wpQ prog w A (assign target env v) (fun _ s3=>wpQ prog w A (cTests ifs env) (fun ok s4 =>
        (ok=false∧∃ m,m<k∧I m s4)∨(ok=true∧wpQ prog w A (eval elt env) (fun x s5=>wpQ prog w A (call (.builtin "list.append") [acc,x]) (fun _ s6=>∃ m,m<k∧I m s6) s5) s4)) s3) s2) s1) s0)
    (k:Nat) (h:I k s):codeAny (model prog w) A (.compLoop (.ListComp elt [⟨target,iter,ifs,0⟩] scope pos) 0 it acc env) R s:=by
  have quiet:∀ (e:Value) (s':Shared),False→notedBy (model prog w) A env (fun e s'=>R (.error e) s') e s':=fun _ _ z=>z.elim
  apply codeAny_loop rfl I _ k h
  intro k s0 start
  apply wpAny_noted
  rw [compTurn_list]
  apply wpAny_bind
  apply wpAny_standAt
  apply wpAny_bind
  apply wpAny_mono (turn k s0 start) _ quiet
  rintro r s1 (⟨rfl,stop⟩ | ⟨v,rfl,rest⟩)
  · exact wpAny_pure stop
  apply wpAny_bind
  apply wpAny_mono rest _ quiet
  intro _ s2 h2
  apply wpAny_bind
  apply wpAny_mono h2 _ quiet
  intro _ s3 h3
  apply wpAny_bind
  apply wpAny_mono h3 _ quiet
  rintro ok s4 (⟨rfl,skip⟩ | ⟨rfl,add⟩)
  · exact wpAny_pure ⟨rfl,skip⟩
  apply wpAny_bind
  apply wpAny_bind
  apply wpAny_mono add _ quiet
  intro x s5 h5
  apply wpAny_bind
  apply wpAny_mono h5 _ quiet
  intro _ s6 h6
  exact wpAny_pure (wpAny_pure ⟨rfl,h6⟩)
section
variable {X:Cx} {tg iter elt:Expr} {ifs:List Expr} {scope:Scope} {pos:Pos} {wi:TI} {N':List Str} {cap:List (Option Nat)} {g:TG} {tc:TT} {te:TE}
theorem comp_block {use:Option (Value→Sem Unit)} {R:Value→Shared→Prop} (sc:Scope) (hsc:X.env.scope=sc) (N₀:List Str) (hN₀:X.N=N₀) (f1:freeOk sc scope=true) (f2:ownOk scope=true) (f3:capOk scope N₀ N' cap=true) (hcalm:X.calm=true)
    (hi:PI X tg iter wi)
    (hg:∀ (s:Shared) (H:Hp) (ex:List Addr),PG (compCx X scope N' s H ex) tg g)
    (hc:∀ (s:Shared) (H:Hp) (ex:List Addr),PTs (compCx X scope N' s H ex) ifs tc)
    (he:∀ (s:Shared) (H:Hp) (ex:List Addr),PE (compCx X scope N' s H ex) elt te)
    (hs:∀ x,foldedSetIterable iter X.env x=pure x)
    {pins:List (Addr × Obj)} {s:Shared} {σ:St} {H:Hp} {Q:V→Hp→Prop} (I:Inv X pins σ H s) (h:tComp wi cap g tc te σ H Q)
    (fin:∀ (acc C:Addr) (s':Shared) (H':Hp) (m:Str→Option Value),Inv X pins σ H' s'→s'.heap.Ns C m→H' C=none→C≠X.env.locals→X.s₀.heap.objs.size≤C→(∀ x c,X.env.cells.lookup x=some c→c≠C)→(∀ p∈X.pn++pins,p.1≠C)→Q (.ref acc) H' →
      compPost (model X.prog X.w) X.A X.xe use R (.ref acc) C (.ok .next) s') :
    wpAny (model X.prog X.w) X.A (comprehension (.ListComp elt [⟨tg,iter,ifs,0⟩] scope pos) scope X.env (firstIterPos [⟨tg,iter,ifs,0⟩] pos) (newList []) false (firstIter [⟨tg,iter,ifs,0⟩] X.env) use) R X.xe s:=by
  have ok:=I.ok
  have fr:∀ y∈scope.names,y.2=.free→X.env.kindOf y.1=some .cell∨X.env.kindOf y.1=some .free:=fun y hy e=>by
    have q:=List.all_eq_true.mp f1 y hy
    rw [e] at q
    have q':((sc.names.lookup y.1 == some NameKind.cell) || (sc.names.lookup y.1 == some NameKind.free))=true:=by simpa using q
    rw [Bool.or_eq_true] at q'
    unfold Env.kindOf
    rw [hsc]
    rcases q' with z | z
    · exact .inl (by simpa using z)
    · exact .inr (by simpa using z)
  obtain ⟨⟨k1,k2⟩,k3⟩:((scope.kind == .function)=true∧(scope.names.all fun y=>y.2 != .cell)=true)∧(scope.names.all fun y=>y.2 != .local || scope.names.lookup y.1 == some .local)=true:=by
    unfold ownOk at f2
    rw [Bool.and_eq_true,Bool.and_eq_true] at f2
    exact f2
  have hkind:scope.kind=.function:=by simpa using k1
  have hcell:∀ y∈scope.names,y.2≠.cell:=fun y hy=>by
    have q:=List.all_eq_true.mp k2 y hy
    simpa using q
  have hnames:∀ y∈scope.names,y.2=.local→scope.names.lookup y.1=some .local:=fun y hy e=>by
    have q:=List.all_eq_true.mp k3 y hy
    rw [e] at q
    simpa using q
  have hclos:closureFor scope X.env=pure (clo X.env.cells scope.names []):=closureFor_clo fun y hy e=>ok.has y.1 (fr y hy e)
  have clX:∀ x c,(clo X.env.cells scope.names []).lookup x=some c→X.env.cells.lookup x=some c:=fun x c e=>by
    have e1:=clo_sub e
    have hx:(x,NameKind.free)∈scope.names:=by
      rcases clo_free [] (PySem.mem_of_lookup e) with z | z
      · exact nomatch z
      · exact z
    obtain ⟨c',e2⟩:=ok.has x (fr (x,.free) hx rfl)
    rw [e2] at e1 ⊢
    rw [e1];rfl
  refine wpAny_comprehension_free (use:=use) rfl hs hclos hkind hnames ?_
  show wpAny (model X.prog X.w) X.A (eval iter X.env) _ X.xe s
  refine thn (hi pins s σ H _ I h) fun v s1 h1=>thn h1 fun itv s2 h2=>?_
  obtain ⟨it,fp,tn,J,H2,e,I2,T,st2,f2',h3⟩:=h2
  subst e
  refine wpAny_newObj_type ?_
  have fresh2:H2 s2.heap.objs.size=none:=I2.hok.fresh (Nat.le_refl _)
  have I3:Inv X pins σ (upd H2 s2.heap.objs.size (.lst [])) { s2 with heap:=s2.heap.push { cls:=.type "list",data:=.seq ([]:List Value).toArray } } :=
    I2.laid (t':=s2.toks) (fun b o e=>Heap.get?_push_of_some _ e) (Nat.le_refl _) ⟨Nat.zero_le _,[],0,.nil,Heap.get?_push_size _ rfl⟩
  have st3:tn 0 (s2.heap.push { cls:=.type "list",data:=.seq ([]:List Value).toArray }):=T.keep _ _ _ st2 fun b _ o e=>Heap.get?_push_of_some _ e
  have fpne:∀ b∈fp,b≠s2.heap.objs.size:=fun b hb z=>by
    obtain ⟨o,eo,_⟩:=T.obj 0 _ st2 b hb
    exact absurd (Heap.lt_size eo) (by rw [z];exact Nat.lt_irrefl _)
  have fp3:∀ b∈fp,FpOk X pins (upd H2 s2.heap.objs.size (.lst [])) b:=fun b hb=>by
    obtain ⟨a0,a1⟩:=f2' b hb
    exact ⟨by rw [upd_ne (fpne b hb)];exact a0,a1⟩
  obtain ⟨W,⟨m0,w0⟩,turn⟩:=h3 s2.heap.objs.size fresh2
  generalize hacc:s2.heap.objs.size=acc at I3 fp3 w0 turn fpne ⊢
  generalize hs3:({ s2 with heap:=s2.heap.push { cls:=.type "list",data:=.seq ([]:List Value).toArray } }:Shared)=s3 at I3 ⊢
  have st3:tn 0 s3.heap:=by rw [← hs3];exact st3
  have accTr:(upd H2 acc (.lst [])) acc=some (.lst []):=upd_same
  refine wpAny_newFunctionEnv hcell (by intro y hy;cases hy) (fun h4 hns hsb=>?_) hkind
  have hCf:s3.heap.get? s3.heap.objs.size=none:=Heap.get?_none_of_le (Nat.le_refl _)
  have kp4:∀ b o,s3.heap.get? b=some o→h4.get? b=some o:=fun b o e=>hsb.extBut b o (Nat.ne_of_lt (Heap.lt_size e)) (Heap.get?_push_of_some _ e)
  let Y:Cx:=compCx X scope N' s3 (upd H2 acc (.lst [])) fp
  have envY:Y.env=compEnvC scope (clo X.env.cells scope.names []) s3.heap.objs.size X.env:=rfl
  have okY:Y.Ok:=by
    refine ⟨ok.mod,?_,ok.glob,ok.blt,Nat.le_refl _,?_,?_,?_,ok.hd,ok.frames,.inl rfl,?_,?_,?_,?_,?_,?_,?_⟩
    · show (relabel scope X.env).kind=.function
      exact hkind
    · exact fun x y c h1 h2=>ok.inj x y c (clX x c h1) (clX y c h2)
    · intro x hx
      have hx':(relabel scope X.env).names.lookup x=some .cell∨(relabel scope X.env).names.lookup x=some .free:=hx
      have hm:(x,NameKind.free)∈scope.names:=by
        rcases hx' with z | z
        · exact relabel_back (.inl rfl) hcell z
        · exact relabel_back (.inr rfl) hcell z
      exact Option.isSome_iff_exists.mp (clo_has scope.names [] x hm)
    · intro x c hx h1
      have hx':((clo X.env.cells scope.names []).lookup x).isNone=true:=hx
      have h1':(clo X.env.cells scope.names []).lookup x=some c:=h1
      rw [h1'] at hx';cases hx'
    · intro b hb
      obtain ⟨q0,q1,q2,q3,q4,q5⟩:=fp3 b hb
      refine ⟨?_,fun x c h1=>q4 x c (clX x c h1)⟩
      obtain ⟨o,eo,_⟩:=T.obj 0 _ st3 b hb
      exact Nat.ne_of_lt (Heap.lt_size eo)
    · exact fun b o e=>I3.bs b o e
    · exact Nat.le_trans ok.bsz I3.sz
    · intro b o e hb
      obtain ⟨q0,q1,q2,q3,q4,q5⟩:=fp3 b hb
      rcases q3 with z | z
      · exact ok.noex b o e z
      · exact absurd (Nat.lt_of_lt_of_le (Heap.lt_size e) (Nat.le_trans ok.bsz z)) (Nat.lt_irrefl _)
    · intro b hb hf
      obtain ⟨q0,q1,q2,q3,q4,q5⟩:=fp3 b hb
      rcases List.mem_cons.mp (I3.stkSub b hf) with z | z
      · exact q1 z
      · exact q2 z
    · exact I3.stack
    · exact I3.stkFree
  have capl:cap.length=N'.length∧∀ p∈N'.zip cap,(match p.2 with | none=>true | some j=>N₀[j]? == some p.1 && scope.names.lookup p.1 == some .free)=true:=by
    unfold capOk at f3
    rw [Bool.and_eq_true] at f3
    exact ⟨by simpa using f3.1,fun p hp=>List.all_eq_true.mp f3.2 p hp⟩
  have IY:Inv Y [] (capSt cap σ) (upd H2 acc (.lst [])) { s3 with heap:=h4,toks:=s3.toks + ([]:List (Str × Value)).length }:=by
    refine ⟨okY,rfl,I3.bare,Un.kept kp4,⟨_,hns,?_⟩,?_,?_,?_,fun p hp=>absurd (show p∈([]:List (Addr × Obj)) from hp) (by simp),I3.hok.kept kp4,?_⟩
    · intro i x v e1 e2 e3
      have e1':N'[i]?=some x:=e1
      unfold capSt at e2
      rw [List.getElem?_map] at e2
      cases ec:cap[i]? with
      | none=>rw [ec] at e2;cases e2
      | some o =>
        rw [ec] at e2
        cases o with
        | none=>cases e2
        | some j =>
          have e2':(σ[j]?).bind id=some v:=by simpa using e2
          have hz:(x,some j)∈N'.zip cap:=by
            refine List.mem_of_getElem? (i:=i) ?_
            rw [List.getElem?_zip_eq_some]
            exact ⟨e1',ec⟩
          have q:=capl.2 _ hz
          have q':(N₀[j]? == some x)=true∧(scope.names.lookup x == some NameKind.free)=true:=by simpa [Bool.and_eq_true] using q
          have q1:X.N[j]?=some x:=by rw [hN₀];simpa using q'.1
          have q2:scope.names.lookup x=some .free:=by simpa using q'.2
          have eσ:σ[j]?=some (some v):=by
            cases z:σ[j]? with
            | none=>rw [z] at e2';cases e2'
            | some y =>
              rw [z] at e2'
              have:y=some v:=e2'
              rw [this]
          have hk:=fr (x,.free) (PySem.mem_of_lookup q2) rfl
          obtain ⟨m,hn,hl⟩:=I3.loc
          have vis:Vis X.env.scope x:=by
            rcases hk with z | z
            · exact .inr (.inl z)
            · exact .inr (.inr z)
          obtain ⟨u,r,l⟩:=hl j x v q1 eσ vis
          refine ⟨u,r,.inr ⟨?_,?_⟩⟩
          · rcases relabel_free (scope:=scope) (env:=X.env) q2 with z | z
            · exact .inl z
            · exact .inr z
          · rcases l with ⟨kl,_⟩ | ⟨_,c,ecx,hcx⟩
            · rcases hk with z | z
              · have z':X.env.kindOf x=some .cell:=z
                rw [kl] at z';cases z'
              · have z':X.env.kindOf x=some .free:=z
                rw [kl] at z';cases z'
            · have hh:=clo_has (cells:=X.env.cells) scope.names [] x (PySem.mem_of_lookup q2)
              obtain ⟨c',ec'⟩:=Option.isSome_iff_exists.mp hh
              have ec2:=clX x c' ec'
              rw [ecx] at ec2
              cases ec2
              exact ⟨c,ec',hcx.keeps kp4⟩
    · intro x c e
      obtain ⟨v,z⟩:=I3.cell x c (clX x c e)
      exact ⟨v,z.keeps kp4⟩
    · exact I3.hok.fresh (Nat.le_refl _)
    · exact fun x c e=>I3.freeC x c (clX x c e)
    · show (capSt cap σ).length=N'.length
      unfold capSt
      rw [List.length_map];exact capl.1
  have fpY:∀ {H':Hp},(∀ b∈fp,H' b=none)→∀ b∈fp,FpOk Y [] H' b:=fun {H'} hn b hb=>by
    obtain ⟨q0,q1,q2,q3,q4,q5⟩:=fp3 b hb
    refine ⟨hn b hb,(okY.exf b hb).1,okY.exfs b hb,.inl hb,(okY.exf b hb).2,fun p hp=>absurd (show p∈([]:List (Addr × Obj)) from hp) (by simp)⟩
  have st4:tn 0 h4:=T.keep _ _ _ st3 fun b _ o e=>kp4 b o e
  have back:∀ {τ:St} {H':Hp} {s':Shared},Inv Y [] τ H' s'→Q (.ref acc) H'→compPost (model X.prog X.w) X.A X.xe use R (.ref acc) s3.heap.objs.size (.ok .next) s':=fun {τ H' s'} J q=>by
    have un:Un (frs X.stack) fp (upd H2 acc (.lst [])) H' s3.heap s'.heap:=J.base
    have IX:Inv X pins σ H' s':=I3.call' (J.os) un J.hok J.bare fun b hb=>by
      obtain ⟨q0,q1,q2,q3,q4,q5⟩:=fp3 b hb
      exact ⟨q3,q1,q4,q5⟩
    obtain ⟨m,hn,_⟩:=J.loc
    refine fin acc s3.heap.objs.size s' H' m IX hn J.free (Nat.ne_of_gt I3.lt) I3.sz (fun x c e z=>?_) (fun p hp z=>?_) q
    · obtain ⟨v,q⟩:=I3.cell x c e
      exact absurd q.lt (by rw [z];exact Nat.lt_irrefl _)
    · exact absurd (Heap.lt_size (I3.pin p hp).1) (by rw [z];exact Nat.lt_irrefl _)
  have loop:∀ s5:Shared,s5={ s3 with heap:=h4,toks:=s3.toks + ([]:List (Str × Value)).length } →
      codeAny (model X.prog X.w) X.A (.compLoop (.ListComp elt [⟨tg,iter,ifs,0⟩] scope pos) 0 (.ref it) (.ref acc) Y.env) (compPost (model X.prog X.w) X.A X.xe use R (.ref acc) s3.heap.objs.size) s5:=by
    rintro s5 rfl
    refine comp_loop (fun n s'=>∃ i τ H',Inv Y [] τ H' s'∧tn i s'.heap∧(∀ b∈fp,H' b=none)∧W i n τ H') ?_ m0 ⟨0,_,_,IY,st4,fun b hb=>(fp3 b hb).1,w0⟩
    rintro n s6 ⟨i,τ,H6,I6,st6,fr6,w6⟩
    rcases turn i n τ H6 w6 with ⟨stop,q⟩ | ⟨go,N,hN,step⟩
    · refine wpAny_mono (T.done Y rfl rfl rfl hcalm i [] s6 τ H6 (fun _ _=>False) I6 (fpY fr6) st6 stop) (fun r s7 ⟨hr,I7⟩=>?_) fun _ _ z=>z.elim
      exact .inl ⟨hr,back I7 q⟩
    · refine wpAny_mono (T.item Y rfl rfl rfl hcalm i [] s6 τ H6 (fun _ _=>False) I6 (fpY fr6) st6 go) (fun r s6b ⟨u,hr,h7⟩=>?_) fun _ _ z=>z.elim
      refine .inr ⟨u,hr,?_⟩
      refine wpAny_mono h7 (fun _ s7 ⟨x,H7,I7,r7,y7,st7,fr7⟩=>?_) fun _ _ z=>z.elim
      have I7':=I7.pinned (fpY fr7) (T.obj _ _ st7)
      have again:∀ {τ8:St} {H8:Hp} {s8:Shared},Inv Y ([]++pinsAt fp s7.heap) τ8 H8 s8→N τ8 H8→∃ m,m<n∧∃ i τ H',Inv Y [] τ H' s8∧tn i s8.heap∧(∀ b∈fp,H' b=none)∧W i m τ H':=fun {τ8 H8 s8} I8 n8=>by
        obtain ⟨m',hm,w8⟩:=hN τ8 H8 n8
        refine ⟨m',hm,i + 1,τ8,H8,I8.unpinned,T.keep _ _ _ st7 fun b hb o e=>(I8.pin (b,o) (List.mem_append_right _ (List.mem_append_right _ (mem_pinsAt hb e)))).1,fun b hb=>?_,w8⟩
        obtain ⟨o,e,d⟩:=T.obj _ _ st7 b hb
        exact (I8.pin (b,o) (List.mem_append_right _ (List.mem_append_right _ (mem_pinsAt hb e)))).2.1
      refine wpAny_mono (hg s3 (upd H2 acc (.lst [])) fp _ s7 τ H7 x u _ I7' r7 (step x H7 y7)) (fun _ s8 ⟨τ8,H8,I8,q8⟩=>?_) fun _ _ z=>z.elim
      refine wpAny_mono (hc s3 (upd H2 acc (.lst [])) fp _ s8 τ8 H8 _ I8 q8) (fun b s9 ⟨H9,I9,q9⟩=>?_) fun _ _ z=>z.elim
      cases b with
      | false =>
        rw [if_neg Bool.false_ne_true] at q9
        exact .inl ⟨rfl,again I9 q9⟩
      | true =>
        rw [if_pos rfl] at q9
        refine .inr ⟨rfl,?_⟩
        refine wpAny_mono (he s3 (upd H2 acc (.lst [])) fp _ s9 τ8 H9 _ I9 q9) (fun y s10 ⟨yv,H10,I10,r10,ys,hl,hz,q10⟩=>?_) fun _ _ z=>z.elim
        refine wpAny_mono (mt_append (X:=Y) _ s10 τ8 H10 (.ref acc) [yv] (.ref acc) [y] (fun v H'=>N τ8 H') I10 rfl (.cons r10 .nil) ⟨acc,ys,yv,rfl,rfl,hl,hz,q10⟩) (fun v s11 ⟨vv,H11,I11,r11,q11⟩=>?_) fun _ _ z=>z.elim
        exact again I11 q11
  exact codeAny_compStart_list (loop _ rfl) (T.self _ _ _ _ _ st4 (loop _ rfl))
theorem pe_comp (sc:Scope) (hsc:X.env.scope=sc) (N₀:List Str) (hN₀:X.N=N₀) (N':List Str) (cap:List (Option Nat)) (f1:freeOk sc scope=true) (f2:ownOk scope=true) (f3:capOk scope N₀ N' cap=true) (hcalm:X.calm=true)
    (hi:PI X tg iter wi)
    (hg:∀ (s:Shared) (H:Hp) (ex:List Addr),PG (compCx X scope N' s H ex) tg g)
    (hc:∀ (s:Shared) (H:Hp) (ex:List Addr),PTs (compCx X scope N' s H ex) ifs tc)
    (he:∀ (s:Shared) (H:Hp) (ex:List Addr),PE (compCx X scope N' s H ex) elt te)
    (hs:∀ x,foldedSetIterable iter X.env x=pure x:=by intro _;rfl) :
    PE X (.ListComp elt [⟨tg,iter,ifs,0⟩] scope pos) (tComp wi cap g tc te):=by
  intro pins s σ H Q I h
  rw [eval_ListComp]
  refine comp_block (use:=none) sc hsc N₀ hN₀ f1 f2 f3 hcalm hi hg hc he hs I h ?_
  intro acc C s' H' m IX hn hC h1 h2 h3 h4 q
  refine ⟨m,hn,fun h'' hs''=>?_⟩
  exact ⟨.ref acc,H',IX.turned (t':=s'.toks) (fun b o hb e=>(hs''.2 b hb).trans e) hC h1 (.inr h2) h3 h4,rfl,q⟩
theorem ps_setComp {i:Nat} {x:Str} {pos' spos:Pos} (sc:Scope) (hsc:X.env.scope=sc) (N₀:List Str) (hN₀:X.N=N₀) (N':List Str) (cap:List (Option Nat)) (f1:freeOk sc scope=true) (f2:ownOk scope=true) (f3:capOk scope N₀ N' cap=true) (hcalm:X.calm=true)
    (hnd:X.N.Nodup) (hix:X.N[i]?=some x) (hx:X.env.scope.names.lookup x=some .local)
    (hi:PI X tg iter wi)
    (hg:∀ (s:Shared) (H:Hp) (ex:List Addr),PG (compCx X scope N' s H ex) tg g)
    (hc:∀ (s:Shared) (H:Hp) (ex:List Addr),PTs (compCx X scope N' s H ex) ifs tc)
    (he:∀ (s:Shared) (H:Hp) (ex:List Addr),PE (compCx X scope N' s H ex) elt te)
    (hsw:swapsWith (.ListComp elt [⟨tg,iter,ifs,0⟩] scope pos) (some (.Name x pos')) spos.line X.env=pure true)
    (hs:∀ x,foldedSetIterable iter X.env x=pure x:=by intro _;rfl) :
    PS X (.Assign [.Name x pos'] (.ListComp elt [⟨tg,iter,ifs,0⟩] scope pos) spos) (tAsg (tComp wi cap g tc te) (gName i)):=by
  intro pins s σ H D I h
  rw [exec_Assign_Name_used _ _ _ _ hsw]
  refine wpAny_bind (wpAny_standAt (wpAny_bind ?_))
  show wpAny _ X.A (do let _ ← comprehension (.ListComp elt [⟨tg,iter,ifs,0⟩] scope pos) scope X.env _ (newList []) false (firstIter [⟨tg,iter,ifs,0⟩] X.env) (some (assign (.Name x pos') X.env))) _ _ s
  refine wpAny_bind (wpAny_mono (comp_block (use:=some (assign (.Name x pos') X.env)) (R:=fun _ s'=>SP X pins D .next s') sc hsc N₀ hN₀ f1 f2 f3 hcalm hi hg hc he hs I h ?_) (fun _ s' hq=>wpAny_pure (wpAny_pure hq)) fun _ _ e=>e)
  intro acc C s' H' m IX hn hC h1 h2 h3 h4 q
  show wpAny _ X.A (assign (.Name x pos') X.env (.ref acc)) _ _ _
  refine wpAny_assign_Name (store_ok2 (v:=.ref acc) IX hnd hix (.inl hx) rfl (fun s2 I2 hsb=>?_) (.inr hx))
  obtain ⟨a,sb,ha⟩:=hsb
  have hCa:C≠a:=by
    rcases ha with z | z
    · rw [z];exact h1
    · exact fun w=>h3 x a z w.symm
  refine ⟨m,hn.sameBut sb hCa,fun h'' hs''=>?_⟩
  exact ⟨_,H',I2.turned (t':=s2.toks) (fun b o hb e=>(hs''.2 b hb).trans e) hC h1 (.inr h2) h3 h4,q⟩
end
end L2
namespace L2
open PySem PySem.Spec PyProof.Rows
section
variable {X:Cx}
def rGetL (K:PySem.W.Frag):V→V→Hp→VK→Prop:=fun x y H Q=>∃ p xs j v,x=.ref p∧y=.int (j:Nat)∧SqL K H p xs∧xs[j]?=some v∧Q v H
theorem get_list:PGet X (rGetL X.K):=by
  intro pins s σ H o i ov iv Q I ro ri h
  obtain ⟨p,xs,j,z,rfl,rfl,hq,he,q⟩:=h
  cases ro
  obtain ⟨t,rfl⟩:=ri
  obtain ⟨its,r,pl,hz⟩:=I.list hq
  obtain ⟨w,ew,rw'⟩:=r.get he
  have hl:=r.length
  have hn:=line63
  have hj:j<xs.length:=(List.getElem?_eq_some_iff.mp he).1
  exact wpAny_getItem_list pl.isList (by omega) (by omega) (by rw [Int.toNat_natCast];simpa using ew) ⟨z,H,I,rw',q⟩
def rEqL (K:PySem.W.Frag) (neg:Bool):R2:=fun x y H Q=>∃ (a b:Addr) (ns ms:List Int),x=.ref a∧y=.ref b∧SqL K H a (ns.map V.int)∧SqL K H b (ms.map V.int)∧Q (.bl (if neg then !decide (ns=ms) else decide (ns=ms))) H
theorem call_isinst:CallR X (.builtin "isinstance") (fun xs H Q=>∃ x t c b,xs=[x,.ty c]∧TyOf X.K H x t∧PySem.W.kitOne X.K t (.type c)=some b∧Q (.bl b) H):=by
  intro pins s σ H xs us Q I r h
  obtain ⟨x,t,c,b,rfl,ty,e,q⟩:=h
  obtain ⟨u,w,rfl,ru,rw'⟩:=vals2 r
  obtain rfl:w=Value.type c:=rw'
  exact isinst_ok I ru ty e fun tk=>⟨.bl b,H,I.tok tk,rfl,q⟩
theorem range_all':∀ (bs:List Bool),((List.range bs.length).all fun i=>(bs[i]?).getD true)=bs.all id:=by
  intro bs
  rw [Bool.eq_iff_iff]
  simp only [List.all_eq_true,List.mem_range,id_eq]
  constructor
  · intro h b hb
    obtain ⟨i,hi,e⟩:=List.getElem_of_mem hb
    have:=h i hi
    rw [List.getElem?_eq_getElem hi,e] at this
    exact this
  · intro h i hi
    rw [List.getElem?_eq_getElem hi]
    exact h _ (List.getElem_mem hi)
theorem call_all (hc:X.calm=true):CallR X (.builtin "all") (fun xs H Q=>∃ (p:Addr) (bs:List Bool),xs=[.ref p]∧SqL X.K H p (bs.map V.bl)∧Q (.bl (bs.all id)) H):=by
  intro pins s σ H xs us Q I r h
  obtain ⟨p,bs,rfl,hq,q⟩:=h
  obtain ⟨u,rfl,ru⟩:=vals1 r
  cases ru
  obtain ⟨its,r1,p1,hz⟩:=I.list hq
  have hl:=p1.isList
  have hlt:p<s.heap.objs.size:=p1.lt
  have hlen:=r1.length
  rw [List.length_map] at hlen
  refine call_all_walk (wpAny_pyIter_list hl ?_)
  refine ⟨s.heap.objs.size,[s.heap.objs.size,p],[s.heap.objs.size],its.toArray.size,_,_,fun i=>(bs[i]?).getD true,rfl,Walks.list (A:=X.A.in1) (I.ok.hd hc) _ p (Nat.ne_of_lt hlt) its.toArray,
    ⟨⟨_,Heap.get?_push_size _ rfl,rfl,rfl⟩,hl.push _⟩,fun i v s' Q' E' hP hQ=>?_,fun h' tk hk=>?_⟩
  · have hP':its[i]?=some v:=by simpa using hP
    have hi:i<bs.length:=by
      have:=(List.getElem?_eq_some_iff.mp hP').1
      omega
    obtain ⟨u,eu,ru⟩:=r1.get (x:=.bl bs[i]) (by rw [List.getElem?_map,List.getElem?_eq_getElem hi];rfl)
    rw [hP'] at eu
    cases eu
    cases ru
    dsimp only at hQ
    rw [List.getElem?_eq_getElem hi] at hQ
    exact wpAny_truthy_bool hQ
  · have e:((List.range its.toArray.size).all fun i=>(bs[i]?).getD true)=bs.all id:=by
      rw [List.size_toArray,← hlen];exact range_all' bs
    rw [e]
    refine ⟨.bl _,H,I.kept fun b o eo=>hk b o (fun hm=>?_) (Heap.get?_push_of_some _ eo),rfl,q⟩
    rw [List.mem_singleton.mp hm] at eo
    exact Nat.lt_irrefl _ (Heap.lt_size eo)
end
end L2
namespace L2
open PySem PySem.Spec PyProof.Rows
section
variable {X:Cx} {st:Stmt} {rest:List Stmt} {t u:TS}
def tSeqM (t u:TS):TS:=fun D σ H=>∃ M:St→Hp→Prop,t { D with nx:=M } σ H∧∀ σ' H',M σ' H'→u D σ' H'
theorem pss_consM (h1:PS X st t) (h2:PSs X rest u):PSs X (st :: rest) (tSeqM t u):=by
  intro pins s σ H D I h
  obtain ⟨M,ha,hb⟩:=h
  refine wpAny_execs_cons (thn (h1 pins s σ H { D with nx:=M } I ha) fun f s1 q=>?_)
  cases f with
  | next =>
    obtain ⟨σ',H',I',q⟩:=q
    exact h2 pins s1 σ' H' D I' (hb σ' H' q)
  | ret v=>exact q
  | brk=>exact q
  | cont=>exact q
end
end L2
namespace L2
open PySem PySem.Spec PyProof.Rows
def RetL (H:Hp) (P:List V→Prop) (Q:VK):Prop:=∀ (l:Addr) (H':Hp) (xs:List V),Same H H'→H l=none→H' l=some (.lst xs)→P xs→Q (.ref l) H'
structure Df (K:PySem.W.Frag) (mg:Str→Option Value) (x:Str) (st:Stmt) (ps:List Str) (a:Addr) (fd:FuncData):Prop where
  F:Fun K x x st a fd
  b:Binds K fd ps []
  m:mg x=some (.ref a)
theorem Same.upd {H H':Hp} {l:Addr} {o:HO} (s:Same H H') (h:H l=none):Same H (L2.upd H' l o):=fun b u e=>by
  rw [upd_ne (ne_of_none e h)];exact s b u e
theorem ints_get {ns:List Int} {i:Nat} {y:V} (h:(ns.map V.int)[i]?=some y):∃ z,ns[i]?=some z∧y=V.int z:=by
  rw [List.getElem?_map] at h
  cases e:ns[i]? with
  | none=>rw [e] at h;cases h
  | some z=>rw [e] at h;exact ⟨z,rfl,(Option.some.inj h).symm⟩
theorem ints_at {ns:List Int} {i:Nat} {z:Int} (h:ns[i]?=some z):atI (ns.map V.int) (i:Int)=some (V.int z):=atI_nat (by rw [List.getElem?_map,h];rfl)
theorem ints_atI {ns:List Int} {i:Int} {z:Int} (h0:0≤i) (h:ns[i.toNat]?=some z):atI (ns.map V.int) i=some (V.int z):=by
  obtain ⟨k,rfl⟩:=Int.eq_ofNat_of_zero_le h0
  exact ints_at (by simpa using h)
theorem ixN_nat {n j:Nat} (h:j<n):ixN n (j:Int)=some j:=by
  unfold ixN
  rw [if_pos (by omega),if_pos (by omega)];simp
theorem rep_one {α:Type} (n:Nat) (x:α):(List.replicate n [x]).flatten=List.replicate n x:=by
  induction n with
  | zero=>rfl
  | succ n ih=>rw [List.replicate_succ,List.flatten_cons,ih,List.replicate_succ];rfl
theorem small100 {n:Nat} (h:n≤100000):n≤sizeLine:=Nat.le_trans h (by decide)
theorem small100' {n:Nat} (h:n≤100000):n<sizeLine:=Nat.lt_of_le_of_lt h (by decide)
structure Blt (mg:Str→Option Value):Prop where
  len:mg "len"=none
  range:mg "range"=none
  list:mg "list"=none
  isinstance:mg "isinstance"=none
  bool:mg "bool"=none
  int:mg "int"=none
  all:mg "all"=none
  min:mg "min"=none
  max:mg "max"=none
  sum:mg "sum"=none
  sorted:mg "sorted"=none
  zip:mg "zip"=none
  tuple:mg "tuple"=none
  str:mg "str"=none
  any:mg "any"=none
  enumerate:mg "enumerate"=none
  reversed:mg "reversed"=none
  abs:mg "abs"=none
  ValueError:mg "ValueError"=none
structure Mth (mg:Str→Option Value):Prop where
  MOUTH:∃ t,mg "MOUTH"=some (.int (-1) t)
section
variable {X:Cx} {K:PySem.W.Frag}
theorem ix_listK (h:X.K=K):IxR X (rIxL K):=h ▸ ix_list
theorem ix_tupK (h:X.K=K):IxR X (rIxT K):=h ▸ ix_tup
theorem call_len_seqK (h:X.K=K):CallR X (.builtin "len") (fun xs H Q=>∃ p ys,xs=[.ref p]∧(SqL K H p ys∨SqT K H p ys)∧Q (.int ys.length) H):=h ▸ call_len_seq
theorem op_notIn_seqK (h:X.K=K):OpR X (compareOp .NotIn) (rIn K true):=h ▸ op_notIn_seq
end
end L2
namespace L2
open PySem PySem.W PyProof.Rows
structure Arr (N:Nat) (p:Array Nat):Prop where
  size:p.size=N
  perm:p.toList.Perm (List.range N)
theorem Arr.start (N:Nat):Arr N (List.toArray (List.range N)):=⟨by simp,by simp⟩
theorem Arr.nd {N:Nat} {p:Array Nat} (h:Arr N p):p.toList.Nodup:=h.perm.nodup_iff.mpr List.nodup_range
theorem Arr.get {N:Nat} {p:Array Nat} (h:Arr N p) {i:Nat} (hi:i<N):p.toList[i]?=some (p.getD i 0):=by
  have hi':i<p.size:=by rw [h.size];exact hi
  simp [Array.getD,hi']
theorem Arr.lt {N:Nat} {p:Array Nat} (h:Arr N p) {i:Nat} (hi:i<N):p.getD i 0<N:=by
  have:=h.perm.mem_iff.mp (List.mem_of_getElem? (h.get hi))
  exact List.mem_range.mp this
theorem Arr.ne {N:Nat} {p:Array Nat} (h:Arr N p) {i j:Nat} (hi:i<N) (hj:j<N) (hij:i≠j):p.getD i 0≠p.getD j 0:=by
  intro e
  obtain ⟨a1,a2⟩:=List.getElem?_eq_some_iff.mp (h.get hi)
  obtain ⟨b1,b2⟩:=List.getElem?_eq_some_iff.mp (h.get hj)
  exact hij ((List.getElem_inj h.nd).mp (by rw [a2,b2,e]))
theorem Arr.of_perm {N:Nat} {p q:Array Nat} (h:Arr N p) (hs:q.size=p.size) (hp:q.Perm p):Arr N q:=⟨hs.trans h.size,(Array.perm_iff_toList_perm.mp hp).trans h.perm⟩
theorem Arr.rev {N:Nat} {p:Array Nat} (h:Arr N p) (i j:Nat):Arr N (kas_rev p i j):=h.of_perm (mirror_size _ _ _ _) (mirror_perm _ _ _ _)
theorem Arr.bub {N:Nat} {p:Array Nat} (h:Arr N p) (k d:Nat):Arr N (bubble p k d):=h.of_perm (bubble_size _ _ _) (bubble_perm _ _ _)
theorem getD_of {p q:Array Nat} {i j:Nat} (h:p[i]?=q[j]?):p.getD i 0=q.getD j 0:=by
  rw [Array.getD_eq_getD_getElem?,Array.getD_eq_getD_getElem?,h]
theorem rev_get {N:Nat} {p:Array Nat} (h:Arr N p) {n k:Nat} (hn:n≤N) (hk:k<n):(kas_rev p 0 n).getD k 0=p.getD (n - 1 - k) 0:=by
  refine getD_of ?_
  unfold kas_rev
  rw [getElem?_mirror (by rw [h.size];exact hn) ((n - 0) / 2) (by omega) k]
  split
  · congr 1;omega
  · congr 1;omega
theorem bub_get {N:Nat} {p:Array Nat} (h:Arr N p) {k l j:Nat} (hk:k<N) (hl:l≤k):(bubble p k (k - l)).getD j 0=if j=l then p.getD k 0 else if l<j∧j≤k then p.getD (j - 1) 0 else p.getD j 0:=by
  have e:=getElem?_bubble (xs:=p) (src:=k) (by rw [h.size];exact hk) (k - l) (by omega) j
  have e1:k - (k - l)=l:=by omega
  rw [e1] at e
  by_cases h1:j=l
  · rw [if_pos h1] at e ⊢;exact getD_of e
  · rw [if_neg h1] at e ⊢
    by_cases h2:l<j∧j≤k
    · rw [if_pos h2] at e ⊢;exact getD_of e
    · rw [if_neg h2] at e ⊢;exact getD_of e
section
variable {N:Nat} {κ:Nat→Int} {R:Shared→Prop} {cmp:Nat→Nat→(Bool→Shared→Prop)→Shared→Prop}
def Srt (κ:Nat→Int) (p:Array Nat) (n:Nat):Prop:=∀ i j,i<j→j<n→κ (p.getD i 0)<κ (p.getD j 0)
def Dsc (κ:Nat→Int) (p:Array Nat) (n:Nat):Prop:=∀ i j,i<j→j<n→κ (p.getD j 0)<κ (p.getD i 0)
def Cmp (N:Nat) (κ:Nat→Int) (R:Shared→Prop) (cmp:Nat→Nat→(Bool→Shared→Prop)→Shared→Prop):Prop :=
  ∀ i j C s,i<N→j<N→R s→(∀ s',R s'→C (decide (κ i<κ j)) s')→cmp i j C s
def Inj (N:Nat) (κ:Nat→Int):Prop:=∀ i j,i<N→j<N→i≠j→κ i≠κ j
theorem Srt.snoc {p:Array Nat} {n:Nat} (h:Srt κ p n) (hn:1≤n) (e:κ (p.getD (n - 1) 0)<κ (p.getD n 0)):Srt κ p (n + 1):=fun i j hij hj=>by
  by_cases hjn:j=n
  · subst hjn
    by_cases hi:i=j - 1
    · rw [hi];exact e
    · have:=h i (j - 1) (by omega) (by omega)
      omega
  · exact h i j hij (by omega)
theorem Dsc.snoc {p:Array Nat} {n:Nat} (h:Dsc κ p n) (hn:1≤n) (e:κ (p.getD n 0)<κ (p.getD (n - 1) 0)):Dsc κ p (n + 1):=fun i j hij hj=>by
  by_cases hjn:j=n
  · subst hjn
    by_cases hi:i=j - 1
    · rw [hi];exact e
    · have:=h i (j - 1) (by omega) (by omega)
      omega
  · exact h i j hij (by omega)
variable (hc:Cmp N κ R cmp) (hI:Inj N κ)
include hc hI
theorem tree_asc {p:Array Nat} (A:Arr N p) {Q:Nat→Shared→Prop}:∀ (f n:Nat) (s:Shared),1≤n→n + f=N→Srt κ p n→R s →
    (∀ m s',n≤m→m≤N→Srt κ p m→(m<N→κ (p.getD m 0)<κ (p.getD (m - 1) 0))→R s'→Q m s')→(kas_asc p f n).kasWp cmp Q s
  | 0,n,s,h1,hf,hS,r,k=>k n s (Nat.le_refl _) (by omega) hS (fun z=>by omega) r
  | f + 1,n,s,h1,hf,hS,r,k=>by
    unfold kas_asc
    refine hc _ _ _ s (A.lt (by omega)) (A.lt (by omega)) r fun s' r'=>?_
    by_cases hlt:κ (p.getD n 0)<κ (p.getD (n - 1) 0)
    · rw [decide_eq_true hlt];dsimp only;rw [if_pos rfl]
      exact k n s' (Nat.le_refl _) (by omega) hS (fun _=>hlt) r'
    · rw [decide_eq_false hlt];dsimp only;rw [if_neg Bool.false_ne_true]
      have hne:=hI _ _ (A.lt (show n<N by omega)) (A.lt (show n - 1<N by omega)) (A.ne (show n<N by omega) (show n - 1<N by omega) (by omega))
      exact tree_asc A f (n + 1) s' (by omega) (by omega) (hS.snoc h1 (by omega)) r' fun m s2 a b c d e=>k m s2 (by omega) b c d e
theorem tree_desc {p:Array Nat} (A:Arr N p) {Q:Array Nat × Nat × Nat→Shared→Prop}:∀ (f n:Nat) (s:Shared),1≤n→n + f=N→Dsc κ p n→R s →
    (∀ m s',n≤m→m≤N→Dsc κ p m→R s'→Q (p,m,0) s')→(kas_desc f p n 0).kasWp cmp Q s
  | 0,n,s,h1,hf,hS,r,k=>k n s (Nat.le_refl _) (by omega) hS r
  | f + 1,n,s,h1,hf,hS,r,k=>by
    unfold kas_desc
    refine hc _ _ _ s (A.lt (by omega)) (A.lt (by omega)) r fun s' r'=>?_
    by_cases hlt:κ (p.getD n 0)<κ (p.getD (n - 1) 0)
    · rw [decide_eq_true hlt];dsimp only;rw [if_pos rfl,if_neg (by omega)]
      exact tree_desc A f (n + 1) s' (by omega) (by omega) (hS.snoc h1 hlt) r' fun m s2 a b c d=>k m s2 (by omega) b c d
    · rw [decide_eq_false hlt];dsimp only;rw [if_neg Bool.false_ne_true]
      have hne:=hI _ _ (A.lt (show n<N by omega)) (A.lt (show n - 1<N by omega)) (A.ne (show n<N by omega) (show n - 1<N by omega) (by omega))
      refine hc _ _ _ s' (A.lt (by omega)) (A.lt (by omega)) r' fun s2 r2=>?_
      rw [decide_eq_true (by omega)];dsimp only;rw [if_pos rfl]
      exact k n s2 (Nat.le_refl _) (by omega) hS r2
theorem tree_count {p:Array Nat} (A:Arr N p) (h2:2≤N) {Q:Nat × Array Nat→Shared→Prop} {s:Shared} (r:R s)
    (k:∀ m p' s',1≤m→m≤N→Arr N p'→Srt κ p' m→R s'→Q (m,p') s'):(kas_count N p).kasWp cmp Q s:=by
  unfold kas_count
  rw [KasT.kasWp_bind]
  refine tree_asc hc hI A (N - 1) 1 s (Nat.le_refl _) (by omega) (fun i j a b=>by omega) r fun n s' h1 hn hS hd r'=>?_
  by_cases hnN:n=N
  · rw [if_pos (by simp [hnN])]
    exact k n p s' h1 hn A hS r'
  · rw [if_neg (by simp [hnN])]
    have hd':=hd (by omega)
    by_cases h1n:n > 1
    · rw [if_pos h1n]
      refine hc _ _ _ s' (A.lt (by omega)) (A.lt (by omega)) r' fun s2 r2=>?_
      rw [decide_eq_true (hS 0 (n - 1) (by omega) (by omega))];dsimp only;rw [if_pos rfl]
      exact k n p s2 h1 hn A hS r2
    · rw [if_neg h1n]
      have hn1:n=1:=by omega
      subst hn1
      unfold kas_descPart
      rw [KasT.kasWp_bind]
      refine tree_desc hc hI A (N - 2) 2 s' (by omega) (by omega) (fun i j a b=>?_) r' fun m s2 hm2 hm hD r2=>?_
      · have hi:i=0:=by omega
        have hj:j=1:=by omega
        subst hi;subst hj
        exact hd'
      · rw [if_neg (by show ¬ (0:Nat) > 0;omega)]
        show (kas_tail3 m N p).kasWp cmp Q s2
        unfold kas_tail3
        rw [KasT.kasWp_bind]
        refine tree_asc hc hI (A.rev 0 m) (N - m) m s2 (by omega) (by omega) (fun i j a b=>?_) r2 fun m' s3 a b c d e=>?_
        · rw [rev_get A hm (by omega),rev_get A hm (by omega)]
          exact hD _ _ (by omega) (by omega)
        · exact k m' _ s3 (by omega) b (A.rev 0 m) c e
theorem tree_place {p:Array Nat} (A:Arr N p) {k:Nat} (hk:k<N) (hS:Srt κ p k) {Q:Nat→Shared→Prop}:∀ (f l r:Nat) (s:Shared),l≤r→r≤k→r - l≤f →
    (∀ i,i<l→κ (p.getD i 0)<κ (p.getD k 0))→(∀ i,r≤i→i<k→κ (p.getD k 0)<κ (p.getD i 0))→R s →
    (∀ l s',l≤k→(∀ i,i<l→κ (p.getD i 0)<κ (p.getD k 0))→(∀ i,l≤i→i<k→κ (p.getD k 0)<κ (p.getD i 0))→R s'→Q l s')→(kas_place p k f l r).kasWp cmp Q s
  | 0,l,r,s,h1,h2,hf,ha,hb,hr,q=>by
    have e:l=r:=by omega
    subst e
    exact q l s h2 ha hb hr
  | f + 1,l,r,s,h1,h2,hf,ha,hb,hr,q=>by
    unfold kas_place
    by_cases hlr:l ≥ r
    · rw [if_pos hlr]
      have e:l=r:=by omega
      subst e
      exact q l s h2 ha hb hr
    · rw [if_neg hlr]
      have m1:(l + r) / 2<r:=by omega
      have m0:l≤(l + r) / 2:=by omega
      refine hc _ _ _ s (A.lt hk) (A.lt (by omega)) hr fun s' r'=>?_
      by_cases hlt:κ (p.getD k 0)<κ (p.getD ((l + r) / 2) 0)
      · rw [decide_eq_true hlt];dsimp only;rw [if_pos rfl]
        refine tree_place A hk hS f l ((l + r) / 2) s' m0 (by omega) (by omega) ha (fun i hi hik=>?_) r' q
        by_cases he:i=(l + r) / 2
        · rw [he];exact hlt
        · have:=hS ((l + r) / 2) i (by omega) hik
          omega
      · rw [decide_eq_false hlt];dsimp only;rw [if_neg Bool.false_ne_true]
        have hne:=hI _ _ (A.lt hk) (A.lt (show (l + r) / 2<N by omega)) (A.ne hk (show (l + r) / 2<N by omega) (by omega))
        refine tree_place A hk hS f ((l + r) / 2 + 1) r s' (by omega) h2 (by omega) (fun i hi=>?_) hb r' q
        by_cases he:i=(l + r) / 2
        · rw [he];omega
        · have:=hS i ((l + r) / 2) (by omega) (by omega)
          omega
theorem tree_bin {Q:Array Nat→Shared→Prop} (q:∀ p s',Arr N p→Srt κ p N→R s'→Q p s'):∀ (f:Nat) (p:Array Nat) (k:Nat) (s:Shared),Arr N p→k + f=N→Srt κ p k→R s→(kas_bin f p k).kasWp cmp Q s
  | 0,p,k,s,A,hf,hS,r=>by
    have e:k=N:=by omega
    subst e
    exact q p s A hS r
  | f + 1,p,k,s,A,hf,hS,r=>by
    unfold kas_bin
    rw [KasT.kasWp_bind]
    refine tree_place hc hI A (show k<N by omega) hS k 0 k s (Nat.zero_le _) (Nat.le_refl _) (by omega) (fun i hi=>by omega) (fun i a b=>by omega) r fun l s' hl ha hb r'=>?_
    refine tree_bin q f _ (k + 1) s' (A.bub k (k - l)) (by omega) (fun i j hij hj=>?_) r'
    rw [bub_get A (by omega) hl,bub_get A (by omega) hl]
    by_cases h1:i=l
    · rw [if_pos h1,if_neg (by omega),if_pos (by omega)]
      exact hb _ (by omega) (by omega)
    · rw [if_neg h1]
      by_cases h2:j=l
      · rw [if_pos h2,if_neg (by omega)]
        exact ha _ (by omega)
      · rw [if_neg h2]
        by_cases h3:l<i∧i≤k
        · rw [if_pos h3,if_pos (by omega)]
          exact hS _ _ (by omega) (by omega)
        · rw [if_neg h3]
          by_cases h4:l<j∧j≤k
          · rw [if_pos h4]
            by_cases h5:i<j - 1
            · exact hS _ _ h5 (by omega)
            · omega
          · rw [if_neg h4]
            exact hS _ _ hij (by omega)
theorem tree_sort (h2:2≤N) {Q:Array Nat→Shared→Prop} {s:Shared} (r:R s) (q:∀ p s',Arr N p→Srt κ p N→R s'→Q p s'):(kas_sort N).kasWp cmp Q s:=by
  unfold kas_sort
  rw [KasT.kasWp_bind]
  refine tree_count hc hI (Arr.start N) h2 r fun m p' s' h1 hm A hS r'=>?_
  by_cases hlt:m<N
  · rw [if_pos hlt]
    have e:max m 1=m:=by omega
    rw [e]
    exact tree_bin hc hI q _ p' m s' A (by omega) hS r'
  · rw [if_neg hlt]
    have e:m=N:=by omega
    subst e
    exact q p' s' A hS r'
end
end L2
namespace L2
open PySem PySem.Spec PyProof.Rows
section
variable {X:Cx} {pins:List (Addr × Obj)} {σ:St} {H:Hp} {s:Shared} {a:Addr} {o:HO}
theorem Inv.adopt (I:Inv X pins σ H s) (hn:H a=none) (hL:a≠X.env.locals) (h0:X.s₀.heap.objs.size≤a) (hc:∀ x c,X.env.cells.lookup x=some c→c≠a) (hp:∀ p∈X.pn++pins,p.1≠a)
    (new:ObjOk X.prog X.w (upd H a o) s.heap a o):Inv X pins σ (upd H a o) s:=by
  have ne:∀ b u,H b=some u→b≠a:=fun b u e=>ne_of_none e hn
  refine ⟨I.ok,I.os,I.bare,⟨I.base.keep,I.base.slot,fun b ob e n hx=>?_,I.base.there,fun b xs e=>?_,fun b ob xs e=>?_,fun b ps e=>?_⟩,I.loc,I.cell,?_,fun x c e=>?_,fun p hq=>?_,fun b u e=>?_,I.len⟩
  · rw [upd_ne (Nat.ne_of_lt (Nat.lt_of_lt_of_le (Heap.lt_size e) h0))];exact I.base.free b ob e n hx
  · have:=I.base.tups b xs e;rw [upd_ne (ne b _ this)];exact this
  · have:=I.base.frzs b ob xs e;rw [upd_ne (ne b _ this)];exact this
  · obtain ⟨m,e1⟩:=I.base.tbls b ps e;exact ⟨m,by rw [upd_ne (ne b _ e1)];exact e1⟩
  · rw [upd_ne hL.symm];exact I.free
  · rw [upd_ne (hc x c e)];exact I.freeC x c e
  · obtain ⟨e1,n,r⟩:=I.pin p hq;exact ⟨e1,by rw [upd_ne (hp p hq)];exact n,r⟩
  · by_cases hb:b=a
    · subst hb;rw [upd_same] at e;cases e;exact new
    · rw [upd_ne hb] at e
      exact (I.hok b u e).stay (fun _ _ _ q=>q) (fun c q=>by rw [upd_ne (ne c _ q)];exact q) fun c xs q=>by rw [upd_ne (ne c _ q)];exact q
end
section
variable {prog:Program} {w:World} {A:Around} {E:Value→Shared→Prop} {s:Shared}
theorem collect_range {r:Addr} {b:Int} {t u v:Tok} {n:Nat} {Q:List Value→Shared→Prop} (hh:A.handled=none) (hr:IsRange s.heap r 0 b 1 t u v) (hsmall:Builtin.Range.small 0 b 1=true)
    (hn:Builtin.Range.rangeSize 0 b 1=n) (hlen:n≤2 ^ 24)
    (h:∀ h' tk vs,(∀ b o,s.heap.get? b=some o→h'.get? b=some o)→Vals ((List.range n).map fun (i:Nat)=>V.int (i:Int)) vs→Q vs { s with heap:=h',toks:=tk }) :
    wpAny (model prog w) A (collect (.ref r)) Q E s:=by
  unfold collect
  refine wpAny_bind (wpAny_runValue (codeAny_builtin entry_proto_collect' ?_))
  show wpAny _ _ (do again (.builtin "list.__iadd__" ⟨[← newList [],.ref r],[]⟩)) _ _ s
  refine wpAny_bind (wpAny_newList (wpAny_pure ⟨Code.quiet_builtin _ (by decide +kernel),codeAny_builtin entry_list_iadd' ?_⟩))
  have e1:A.under (.builtin "proto.collect" ⟨[.ref r],[]⟩)=A.in1:=Around.under_plainId F.plain_proto_collect _
  have e2:A.under (.builtin "list.__iadd__" ⟨[.ref s.heap.objs.size,.ref r],[]⟩)=A.in1:=Around.under_plainId F.plain_list_iadd _
  rw [e2]
  show wpAny _ A.in1 (Builtin.List.listExtendWith (.ref s.heap.objs.size) (.ref r) (.ref s.heap.objs.size)) _ _ { s with heap:=s.heap.push (seqObj "list" #[] 0) }
  have hS:(s.heap.push (seqObj "list" #[] 0)).get? s.heap.objs.size=some { cls:=.type "list",data:=.seq #[] 0 }:=Heap.get?_push_size _ rfl
  have hr':IsRange (s.heap.push (seqObj "list" #[] 0)) r 0 b 1 t u v:=Heap.get?_push_of_some _ hr
  refine wpAny_mono (wpAny_extend_range (A:=A) (R:=fun r s'=>match r with
      | .ok (.ret v)=>wpAny (model prog w) A (match v with
          | .ref a=>do
            let o ← load a
            match o.data with
            | .seq xs _=>pure xs.toList
            | _=>unsupported "internal:collect"
          | _=>unsupported "internal:collect") Q E s'
      | .ok _=>False
      | .error e=>E e s') (s:={ s with heap:=s.heap.push (seqObj "list" #[] 0) }) hh hr' hsmall hn hlen s.heap.objs.size (.ref s.heap.objs.size) 0 hS fun h' tk acc c hk hS' hacc=>?_) (fun fin s' q=>?_) (fun e s' q=>q)
  case refine_2 =>
    cases fin with
    | done f=>exact q
    | again c'=>exact q
  show wpAny (model prog w) A (do
      let o ← load s.heap.objs.size
      match o.data with
      | .seq xs _=>pure xs.toList
      | _=>unsupported "internal:collect") Q E { s with heap:=h',toks:=tk }
  refine wpAny_bind (wpAny_load hS' ?_)
  refine wpAny_pure (h h' tk acc.toList (fun b o e=>hk b o (Nat.ne_of_lt (Heap.lt_size e)) (Heap.get?_push_of_some _ e)) ?_)
  have hsz:acc.toList.length=n:=by rw [Array.length_toList];exact hacc.1
  have key:∀ (k:Nat) (l:List Value),l.length=k→(∀ (j:Nat) (v:Value),l[j]?=some v→∃ t,v=.int ((n - k + j:Nat):Int) t)→k≤n→Vals ((List.range' (n - k) k).map fun (i:Nat)=>V.int (i:Int)) l:=by
    intro k
    induction k with
    | zero =>
      intro l hl _ _
      have:l=[]:=List.length_eq_zero_iff.mp hl
      subst this
      exact .nil
    | succ k ih =>
      intro l hl hP hk
      match l,hl with
      | v :: l,hl =>
        have hl':l.length=k:=by simpa using hl
        rw [List.range'_succ,List.map_cons]
        obtain ⟨t,ht⟩:=hP 0 v rfl
        refine .cons ⟨t,?_⟩ ?_
        · rw [ht];rfl
        · have e:n - (k + 1) + 1=n - k:=by omega
          rw [e]
          refine ih l hl' (fun j v' e'=>?_) (by omega)
          obtain ⟨t',ht'⟩:=hP (j + 1) v' (by simpa using e')
          exact ⟨t',by rw [ht'];congr 2;omega⟩
  have:=key n acc.toList hsz (fun j v e=>by
    obtain ⟨t,ht⟩:=hacc.2 j v (by simpa using e)
    refine ⟨t,?_⟩
    rw [ht]
    congr 1
    omega) (Nat.le_refl _)
  rw [Nat.sub_self,← List.range_eq_range'] at this
  exact this
end
end L2
namespace L2
open PySem PySem.W PySem.Spec PyProof.Rows
section
variable {prog:Program} {w:World} {A:Around} {E:Value→Shared→Prop} {s:Shared}
theorem katLex_ints {Q:Bool→Shared→Prop}:∀ {xs ys:List Value} {ns ms:List Int},IntsAre xs ns→IntsAre ys ms→ns.length=ms.length→∀ i:Nat,Q (HT.lexLt ns ms) s→KatLex prog w A true false Q (xs.zip ys) i s
  | _,_,_,_,.nil,.nil,_,i,q=>by rw [List.zip_nil_left];exact kat_nil q
  | _,_,_,_,.nil,.cons _ _ _,hl,_,_=>by simp at hl
  | _,_,_,_,.cons _ _ _,.nil,hl,_,_=>by simp at hl
  | _,_,_,_,.cons a t hx,.cons c u hy,hl,i,q=>by
    rw [List.zip_cons_cons]
    refine kat_cons (wpAny_eqBool_int ?_)
    rw [HT.lexLt_cons] at q
    by_cases h:a=c
    · rw [if_pos h] at q
      have e:(a == c)=true:=by simp [h]
      rw [e]
      exact kat_yes (katLex_ints hx hy (by simpa using hl) (i + 1) q)
    · rw [if_neg h] at q
      have e:(a == c)=false:=by simp [h]
      rw [e]
      refine kat_no ?_
      by_cases hi:i=0
      · have ei:(true && i == 0)=true:=by simp [hi]
        rw [ei]
        exact oneLt_int q
      · have ei:(true && i == 0)=false:=by simp [hi]
        rw [ei]
        exact kat_one _ _ (lt_int q)
structure Keys (h:Heap) (ks:List Value) (key:Nat→List Int) (N len:Nat):Prop where
  size:ks.length=N
  at_:∀ i,i<N→∃ t its,ks[i]?=some (.ref t)∧IsTup h t its.toArray∧IntsAre its (key i)
  long:∀ i,i<N→(key i).length=len + 1
theorem Keys.cmp {ks:List Value} {key:Nat→List Int} {N len:Nat} {κ:Nat→Int} (K:Keys s.heap ks key N len) (hκ:∀ i j,i<N→j<N→HT.lexLt (key i) (key j)=decide (κ i<κ j)) :
    Cmp N κ (fun s'=>s'=s) (kas_ask prog w A (tuples' true) ks):=by
  intro i j C s1 hi hj e h
  subst e
  obtain ⟨t,its,e1,⟨o,ho,hc,n,hd⟩,i1⟩:=K.at_ i hi
  obtain ⟨t2,its2,e2,⟨o2,ho2,hc2,n2,hd2⟩,i2⟩:=K.at_ j hj
  unfold kas_ask
  rw [List.getD_eq_getElem?_getD,List.getD_eq_getElem?_getD,e1,e2]
  have l1:its.length=(key i).length:=i1.length
  have l2:its2.length=(key j).length:=i2.length
  have hl:(key i).length=(key j).length:=by rw [K.long i hi,K.long j hj]
  refine kat_lt ho hd ho2 hd2 ?_
  have ef:decide (its.toArray.size<its2.toArray.size)=false:=decide_eq_false (by simp only [List.size_toArray];omega)
  rw [ef]
  refine katLex_ints i1 i2 hl 0 ?_
  rw [hκ i j hi hj]
  exact h s1 rfl
theorem Keys.tups {key:Nat→List Int} {len:Nat}:∀ {ks:List Value} {N:Nat},Keys s.heap ks key N len→∃ fs:List Value,KatTups s.heap ks fs∧fs.length=N∧∀ v∈fs,∃ a t,v=.int a t:=by
  have go:∀ (ks:List Value),(∀ i,i<ks.length→∃ t its a u r,ks[i]?=some (.ref t)∧IsTup s.heap t its.toArray∧its=Value.int a u :: r)→∃ fs:List Value,KatTups s.heap ks fs∧fs.length=ks.length∧∀ v∈fs,∃ a t,v=Value.int a t:=by
    intro ks
    induction ks with
    | nil=>intro _;exact ⟨[],trivial,rfl,fun v hv=>nomatch hv⟩
    | cons k ks ih =>
      intro h
      obtain ⟨fs,h1,h2,h3⟩:=ih fun i hi=>by
        obtain ⟨t,its,a,u,r,e,p⟩:=h (i + 1) (by simpa using hi)
        exact ⟨t,its,a,u,r,by simpa using e,p⟩
      obtain ⟨t,its,a,u,r,e,⟨o,ho,hc,n,hd⟩,rfl⟩:=h 0 (by simp)
      have e':k=.ref t:=by simpa using e
      subst e'
      refine ⟨.int a u :: fs,KatTups.cons ho hc hd rfl h1,by simp [h2],fun v hv=>?_⟩
      rcases List.mem_cons.mp hv with e | e
      · exact ⟨a,u,e⟩
      · exact h3 v e
  intro ks N K
  obtain ⟨fs,h1,h2,h3⟩:=go ks fun i hi=>by
    obtain ⟨t,its,e1,p,i1⟩:=K.at_ i (by rw [← K.size];exact hi)
    have hl:=K.long i (by rw [← K.size];exact hi)
    generalize key i=kl at i1 hl
    cases i1 with
    | nil=>simp at hl
    | cons a u hx=>exact ⟨t,_,a,u,_,e1,p,rfl⟩
  exact ⟨fs,h1,by rw [h2,K.size],h3⟩
end
end L2
namespace L2
open PySem PySem.W PySem.Spec PyProof.Rows
def SortedBy (κ:Nat→Int) (xs ys:List V):Prop:=∃ p:List Nat,p.Perm (List.range xs.length)∧ys=p.map (fun i=>xs.getD i .non)∧p.Pairwise fun i j=>κ i<κ j
theorem sorted_of {κ:Nat→Int} {xs:List V} {p:Array Nat} (A:Arr xs.length p) (hS:Srt κ p xs.length):SortedBy κ xs (p.toList.map fun i=>xs.getD i .non):=by
  refine ⟨p.toList,A.perm,rfl,?_⟩
  rw [List.pairwise_iff_getElem]
  intro i j hi hj hij
  have hj':j<xs.length:=by rw [Array.length_toList,A.size] at hj;exact hj
  have e1:p.toList[i]=p.getD i 0:=by
    have:=A.get (show i<xs.length by omega)
    rw [List.getElem?_eq_getElem hi] at this
    exact Option.some.inj this
  have e2:p.toList[j]=p.getD j 0:=by
    have:=A.get hj'
    rw [List.getElem?_eq_getElem hj] at this
    exact Option.some.inj this
  rw [e1,e2]
  exact hS i j hij hj'
theorem vals_perm {xs:List V} {vs:List Value} (r:Vals xs vs):∀ (p:List Nat),(∀ i∈p,i<xs.length)→Vals (p.map fun i=>xs.getD i .non) (p.map fun i=>vs.getD i .none)
  | [],_=>.nil
  | i :: p,h=>by
    have hi:i<xs.length:=h i List.mem_cons_self
    obtain ⟨u,e,ru⟩:=r.get (List.getElem?_eq_getElem hi)
    refine .cons ?_ (vals_perm r p fun j hj=>h j (List.mem_cons_of_mem _ hj))
    show RelV (xs.getD i .non) (vs.getD i .none)
    rw [List.getD_eq_getElem?_getD,List.getD_eq_getElem?_getD,e,List.getElem?_eq_getElem hi]
    exact ru
section
variable {X:Cx} {pins:List (Addr × Obj)} {σ:St} {H:Hp} {s:Shared} {A:Around} {E:Value→Shared→Prop}
theorem Inv.pinMore (I:Inv X pins σ H s) {b:Addr} {o:Obj} (f:FpOk X pins H b) (e:s.heap.get? b=some o) (d:∀ v,o.data≠.cell v):Inv X (pins++[(b,o)]) σ H s :=
  I.pins_of fun p hp=>(List.mem_append.mp hp).elim (fun z=>I.pin p (List.mem_append_right _ z)) fun z=>by
    have e':p=(b,o):=by simpa using z
    subst e'
    obtain ⟨f0,f1,f2,_⟩:=f
    exact ⟨e,f0,f1,f2,d⟩
theorem sort_keys {f:Value} {D kS:Addr} {e1:Nat} {xs:List V} {vs:List Value} (rv:Vals xs vs) (h64:xs.length<64) (Pv:Nat→List Addr→Hp→Prop)
    (fpD:∀ H',H' D=none→FpOk X pins H' D) (fpK:∀ H',H' kS=none→FpOk X pins H' kS) (hDK:D≠kS)
    (hcall:∀ i x u ts pins' s' H',xs[i]?=some x→RelV x u→Inv X pins' σ H' s'→(∀ p∈pins,p∈pins')→Pv i ts H'→wpAny (model X.prog X.w) A (call f [u]) (fun k s2=>∃ t H2,k=.ref t∧Inv X pins' σ H2 s2∧Pv (i + 1) (ts++[t]) H2) (fun _ _=>False) s')
    {body:Value→PUnit→Sem (ForInStep PUnit)}
    (hb:∀ x (s:Shared) (R:Value→Shared→Prop) (Q:ForInStep PUnit→Shared→Prop),wpAny (model X.prog X.w) A (call f [x]) R (fun _ _=>False) s→(∀ k s',R k s'→wpAny (model X.prog X.w) A (Builtin.List.listUpdate (.ref kS) (·.push k)) (fun _ s''=>Q (.yield ⟨⟩) s'') E s') →
      wpAny (model X.prog X.w) A (body x ⟨⟩) Q E s) :
    ∀ (r:List Value) (i:Nat) (ts:List Addr) (e:Nat) (s:Shared) (H:Hp),vs.drop i=r→ts.length=i→i≤vs.length→Inv X (pins++[(D,seqObj "list" #[] e1)]++[(kS,seqObj "list" (ts.map Value.ref).toArray e)]) σ H s→Pv i ts H →
      wpAny (model X.prog X.w) A (forIn r PUnit.unit body) (fun _ s'=>∃ ts' e' H',ts'.length=vs.length∧Inv X (pins++[(D,seqObj "list" #[] e1)]++[(kS,seqObj "list" (ts'.map Value.ref).toArray e')]) σ H' s'∧Pv vs.length ts' H') E s
  | [],i,ts,e,s,H,hr,hl,hi,I,p=>by
    rw [List.forIn_nil]
    have hn:i=vs.length:=by
      have:=congrArg List.length hr
      rw [List.length_drop] at this
      simp at this
      omega
    subst hn
    exact wpAny_pure ⟨ts,e,H,hl,I,p⟩
  | u :: r,i,ts,e,s,H,hr,hl,hi,I,p=>by
    rw [List.forIn_cons]
    have hlen:=rv.length
    have hiv:i<vs.length:=by
      have:=congrArg List.length hr
      rw [List.length_drop] at this
      simp at this
      omega
    have eu:vs[i]?=some u:=by
      have:(vs.drop i)[0]?=some u:=by rw [hr];rfl
      rw [List.getElem?_drop] at this
      simpa using this
    have hix:i<xs.length:=by omega
    obtain ⟨u',e',ru⟩:=rv.get (List.getElem?_eq_getElem hix)
    rw [eu] at e'
    cases e'
    refine wpAny_bind (hb u s _ _ (hcall i _ u ts _ s H (List.getElem?_eq_getElem hix) ru I (fun p hp=>List.mem_append_left _ (List.mem_append_left _ hp)) p) fun k s2 ⟨t,H2,ek,I2,p2⟩=>?_)
    subst ek
    have pk:=I2.pin (kS,seqObj "list" (ts.map Value.ref).toArray e) (List.mem_append_right _ (List.mem_append_right _ (by simp)))
    have pD:=I2.pin (D,seqObj "list" #[] e1) (List.mem_append_right _ (List.mem_append_left _ (List.mem_append_right _ (by simp))))
    refine listUpdate_at pk.1 rfl ?_ (by rw [List.size_toArray,List.length_map,sizeLine_eq];omega) (by rw [Array.size_push,List.size_toArray,List.length_map,sizeLine_eq];omega)
    have I2':Inv X (pins++[(D,seqObj "list" #[] e1)]) σ H2 s2:=I2.unpinned
    have fK:FpOk X (pins++[(D,seqObj "list" #[] e1)]) H2 kS:=by
      obtain ⟨a0,a1,a2,a3,a4,a5⟩:=fpK H2 pk.2.1
      refine ⟨a0,a1,a2,a3,a4,fun p hp=>?_⟩
      rcases List.mem_append.mp hp with z | z
      · exact a5 p (List.mem_append_left _ z)
      · rcases List.mem_append.mp z with z | z
        · exact a5 p (List.mem_append_right _ z)
        · have:p=(D,seqObj "list" #[] e1):=by simpa using z
          rw [this];exact hDK
    obtain ⟨a0,a1,a2,a3,a4,a5⟩:=fK
    have I3:Inv X (pins++[(D,seqObj "list" #[] e1)]) σ H2 { s2 with heap:=s2.heap.update kS (Obj.mapSeq (·.push (Value.ref t))) } :=
      I2'.turned (t':=s2.toks) (fun b o hb e=>(Heap.get?_update_other _ _ (Ne.symm hb)).trans e) a0 a1 a3 a4 a5
    have ea:((ts.map Value.ref).toArray).push (Value.ref t)=((ts++[t]).map Value.ref).toArray:=by simp
    obtain ⟨c2,hc2⟩:∃ c2,(s2.heap.update kS (Obj.mapSeq (·.push (Value.ref t)))).get? kS=some (seqObj "list" ((ts++[t]).map Value.ref).toArray c2):=⟨_,by rw [← ea];exact get?_update_seq pk.1 (·.push (Value.ref t))⟩
    have I4:=I3.pinMore ⟨a0,a1,a2,a3,a4,a5⟩ hc2 (fun v z=>by cases z)
    show wpAny (model X.prog X.w) A (forIn r PUnit.unit body) _ E _
    refine sort_keys rv h64 Pv fpD fpK hDK hcall hb r (i + 1) (ts++[t]) c2 _ H2 ?_ (by rw [List.length_append,hl];rfl) (by omega) I4 p2
    have:(vs.drop i).drop 1=r:=by rw [hr];rfl
    rw [List.drop_drop] at this
    exact this
end
end L2
namespace L2
open PySem PySem.W PySem.Spec PyProof.Rows
section
variable {X:Cx} {pins:List (Addr × Obj)} {σ:St} {H:Hp} {s:Shared} {A:Around} {E:Value→Shared→Prop}
theorem sort_tree {f:Value} {D:Addr} {n0 m:Nat} {xs:List V} {vs:List Value} {key:Nat→List Int} {κ:Nat→Int} (rv:Vals xs vs) (h64:xs.length<64) (Pv:Nat→List Addr→Hp→Prop) (I:Inv X pins σ H s)
    (hD:s.heap.get? D=some (seqObj "list" vs.toArray n0)) (fpD:∀ H',H' D=none→FpOk X pins H' D) (nD:H D=none) (hfresh:X.s₀.heap.objs.size≤D) (p0:Pv 0 [] H)
    (hcall:∀ i x u ts pins' s' H',xs[i]?=some x→RelV x u→Inv X pins' σ H' s'→(∀ p∈pins,p∈pins')→Pv i ts H'→wpAny (model X.prog X.w) A (call f [u]) (fun k s2=>∃ t H2,k=.ref t∧Inv X pins' σ H2 s2∧Pv (i + 1) (ts++[t]) H2) (fun _ _=>False) s')
    (htup:∀ ts H',Pv xs.length ts H'→∀ i t,ts[i]?=some t→H' t=some (.tup ((key i).map V.int))) (hlong:∀ i,i<xs.length→(key i).length=m + 1)
    (hκ:∀ i j,i<xs.length→j<xs.length→HT.lexLt (key i) (key j)=decide (κ i<κ j)) (hinj:Inj xs.length κ) :
    wpAny (model X.prog X.w) A (ksk_tree D f false) (fun fin s'=>fin=.done (.ret .none)∧∃ ts H' ys,Pv xs.length ts H'∧H' D=none∧SortedBy κ xs ys∧Inv X pins σ (upd H' D (.lst ys)) s') E s:=by
  have hlen:=rv.length
  unfold ksk_tree
  refine wpAny_bind (listItems_at hD rfl ?_)
  refine wpAny_bind (listUpdate_at hD rfl ?_ (by rw [List.size_toArray,sizeLine_eq];omega) (Nat.zero_le _))
  obtain ⟨e1,ho1⟩:∃ e1,(s.heap.update D (Obj.mapSeq fun _=>(#[]:Array Value))).get? D=some (seqObj "list" #[] e1):=⟨_,get?_update_seq hD fun _=>#[]⟩
  obtain ⟨a0,a1,a2,a3,a4,a5⟩:=fpD H nD
  have I1:Inv X pins σ H { s with heap:=s.heap.update D (Obj.mapSeq fun _=>(#[]:Array Value)) }:=I.turned (t':=s.toks) (fun b o hb e=>(Heap.get?_update_other _ _ (Ne.symm hb)).trans e) a0 a1 a3 a4 a5
  refine wpAny_bind (seqEpoch_at ho1 rfl ?_)
  refine wpAny_bind (wpAny_newTuple ?_ (by show vs.length≤_;rw [sizeLine_eq];omega))
  refine wpAny_bind (wpAny_newList ?_ (Nat.zero_le _))
  refine wpAny_holding ?_
  have I2:Inv X pins σ H { s with heap:=(s.heap.update D (Obj.mapSeq fun _=>(#[]:Array Value))).push (seqObj "tuple" vs.toArray 0) }:=I1.kept (t':=s.toks) fun b o e=>Heap.get?_push_of_some _ e
  have I3:Inv X pins σ H { s with heap:=((s.heap.update D (Obj.mapSeq fun _=>(#[]:Array Value))).push (seqObj "tuple" vs.toArray 0)).push (seqObj "list" #[] 0) }:=I2.kept (t':=s.toks) fun b o e=>Heap.get?_push_of_some _ e
  have fpK:∀ H',H' (((s.heap.update D (Obj.mapSeq fun _=>(#[]:Array Value))).push (seqObj "tuple" vs.toArray 0)).objs.size)=none→FpOk X pins H' _:=fun H' hn=>I2.fpOk (Nat.le_refl _) hn
  have nK:H (((s.heap.update D (Obj.mapSeq fun _=>(#[]:Array Value))).push (seqObj "tuple" vs.toArray 0)).objs.size)=none:=I2.hok.fresh (Nat.le_refl _)
  have hDK:D≠((s.heap.update D (Obj.mapSeq fun _=>(#[]:Array Value))).push (seqObj "tuple" vs.toArray 0)).objs.size:=Nat.ne_of_lt (Heap.lt_size (Heap.get?_push_of_some (seqObj "tuple" vs.toArray 0) ho1))
  have hD3:(((s.heap.update D (Obj.mapSeq fun _=>(#[]:Array Value))).push (seqObj "tuple" vs.toArray 0)).push (seqObj "list" #[] 0)).get? D=some (seqObj "list" #[] e1):=Heap.get?_push_of_some _ (Heap.get?_push_of_some _ ho1)
  have hK3:(((s.heap.update D (Obj.mapSeq fun _=>(#[]:Array Value))).push (seqObj "tuple" vs.toArray 0)).push (seqObj "list" #[] 0)).get? (((s.heap.update D (Obj.mapSeq fun _=>(#[]:Array Value))).push (seqObj "tuple" vs.toArray 0)).objs.size)=some (seqObj "list" #[] 0):=Heap.get?_push_size _ rfl
  generalize ((s.heap.update D (Obj.mapSeq fun _=>(#[]:Array Value))).push (seqObj "tuple" vs.toArray 0)).objs.size=kS at fpK nK hDK hK3 ⊢
  generalize hs3:({ s with heap:=((s.heap.update D (Obj.mapSeq fun _=>(#[]:Array Value))).push (seqObj "tuple" vs.toArray 0)).push (seqObj "list" #[] 0) }:Shared)=s3 at I3 ⊢
  have hD3':s3.heap.get? D=some (seqObj "list" #[] e1):=by rw [← hs3];exact hD3
  have hK3':s3.heap.get? kS=some (seqObj "list" #[] 0):=by rw [← hs3];exact hK3
  have I4:Inv X (pins++[(D,seqObj "list" #[] e1)]) σ H s3:=I3.pinMore (fpD H nD) hD3' (fun v z=>by cases z)
  have fK:∀ H',H' kS=none→FpOk X (pins++[(D,seqObj "list" #[] e1)]) H' kS:=fun H' hn=>by
    obtain ⟨b0,b1,b2,b3,b4,b5⟩:=fpK H' hn
    refine ⟨b0,b1,b2,b3,b4,fun p hp=>?_⟩
    rcases List.mem_append.mp hp with z | z
    · exact b5 p (List.mem_append_left _ z)
    · rcases List.mem_append.mp z with z | z
      · exact b5 p (List.mem_append_right _ z)
      · have:p=(D,seqObj "list" #[] e1):=by simpa using z
        rw [this];exact hDK
  have I5:=I4.pinMore (fK H nK) hK3' (fun v z=>by cases z)
  unfold ksk_rest
  refine wpAny_bind (wpAny_rule ?_)
  first
    | rw [List.forIn_toArray]
    | (rw [← Array.forIn_toList];simp only [List.toList_toArray])
    | rw [← Array.forIn_toList]
  refine wpAny_bind (wpAny_mono (sort_keys (E:=E) rv h64 Pv fpD fpK hDK hcall (fun x s' R Q' hx hk=>?_) vs 0 [] 0 s3 H rfl rfl (Nat.zero_le _) I5 p0) (fun _ s4 hd=>?_) fun _ _ x=>x)
  · refine wpAny_bind (wpAny_attempt (wpAny_mono hx (fun k s'' hq=>?_) fun _ _ hF=>hF.elim))
    dsimp only
    refine wpAny_bind (wpAny_mono (hk k s'' hq) (fun _ s5 hq5=>wpAny_pure hq5) fun _ _ x=>x)
  obtain ⟨ts,e',H4,htl,I6,p4⟩:=hd
  have pk:=I6.pin (kS,seqObj "list" (ts.map Value.ref).toArray e') (List.mem_append_right _ (List.mem_append_right _ (by simp)))
  have pD:=I6.pin (D,seqObj "list" #[] e1) (List.mem_append_right _ (List.mem_append_left _ (List.mem_append_right _ (by simp))))
  refine wpAny_bind (listItems_at pk.1 rfl ?_)
  have p4':Pv xs.length ts H4:=by rw [hlen];exact p4
  have I7:Inv X pins σ H4 s4:=I6.unpinned.unpinned
  have fin:∀ (st:SortSt) (q:List Nat),(arrOf st).map (·.2)=List.toArray (q.map fun i=>vs.getD i Value.none)→failedOf st=none→(∀ i∈q,i<xs.length)→q.length=xs.length→SortedBy κ xs (q.map fun i=>xs.getD i .non) →
      wpAny (model X.prog X.w) A (ksk_tail D false e1 (.ref kS) st) (fun fin s'=>fin=.done (.ret .none)∧∃ ts H' ys,Pv xs.length ts H'∧H' D=none∧SortedBy κ xs ys∧Inv X pins σ (upd H' D (.lst ys)) s') E s4:=by
    intro st q hout hf hq hql hsb
    unfold ksk_tail
    dsimp only
    refine wpAny_bind (listUpdate_at pk.1 rfl ?_ (by rw [List.size_toArray,List.length_map,sizeLine_eq];omega) (Nat.zero_le _))
    obtain ⟨b0,b1,b2,b3,b4,b5⟩:=fpK H4 pk.2.1
    have I8:Inv X pins σ H4 { s4 with heap:=s4.heap.update kS (Obj.mapSeq fun _=>(#[]:Array Value)) }:=I7.turned (t':=s4.toks) (fun b o hb e=>(Heap.get?_update_other _ _ (Ne.symm hb)).trans e) b0 b1 b3 b4 b5
    have hD8:(s4.heap.update kS (Obj.mapSeq fun _=>(#[]:Array Value))).get? D=some (seqObj "list" #[] e1):=(Heap.get?_update_other _ _ (Ne.symm hDK)).trans pD.1
    refine wpAny_bind (wpAny_letGo ?_)
    refine wpAny_bind (seqEpoch_at hD8 rfl ?_)
    have hsz:(if false=true then ((arrOf st).map (·.2)).reverse else (arrOf st).map (·.2))=List.toArray (q.map fun i=>vs.getD i Value.none):=by rw [if_neg Bool.false_ne_true];exact hout
    refine wpAny_bind (listUpdate_at hD8 rfl ?_ (Nat.zero_le _) (by show (if false=true then ((arrOf st).map (·.2)).reverse else (arrOf st).map (·.2)).size≤_;rw [hsz,List.size_toArray,List.length_map,sizeLine_eq];omega))
    rw [hf]
    simp only [bne_self_eq_false,Bool.false_eq_true,if_false]
    refine wpAny_pure ⟨rfl,ts,H4,_,p4',pD.2.1,hsb,?_⟩
    obtain ⟨c0,c1,c2,c3,c4,c5⟩:=fpD H4 pD.2.1
    have I9:=I8.turned (h':=(s4.heap.update kS (Obj.mapSeq fun _=>(#[]:Array Value))).update D (Obj.mapSeq fun _=>(arrOf st).map (·.2))) (t':=s4.toks) (fun b o hb e=>(Heap.get?_update_other _ _ (Ne.symm hb)).trans e) c0 c1 c3 c4 c5
    obtain ⟨cc,hcc⟩:∃ cc,((s4.heap.update kS (Obj.mapSeq fun _=>(#[]:Array Value))).update D (Obj.mapSeq fun _=>(arrOf st).map (·.2))).get? D=some (seqObj "list" (q.map fun i=>vs.getD i Value.none).toArray cc):=⟨_,by rw [← hout];exact get?_update_seq hD8 fun _=>(arrOf st).map (·.2)⟩
    exact I9.adopt pD.2.1 c1 hfresh c4 c5 ⟨by rw [List.length_map,sizeLine_eq];omega,_,cc,vals_perm rv q hq,hcc⟩
  have eks:ts.length=xs.length:=by omega
  unfold ksk_end
  dsimp only
  rw [if_neg Bool.false_ne_true]
  by_cases h2:xs.length<2
  · have hs2:vs.toArray.size<2:=by rw [List.size_toArray];omega
    rw [if_pos hs2,if_pos hs2]
    refine wpAny_bind (wpAny_pure ?_)
    refine wpAny_bind ?_
    rw [StateT.run_pure]
    refine wpAny_pure ?_
    dsimp only
    have hr:∀ i∈List.range xs.length,i<xs.length:=fun i hi=>List.mem_range.mp hi
    refine fin _ (List.range xs.length) ?_ rfl hr (List.length_range) ⟨List.range xs.length,List.Perm.refl _,rfl,?_⟩
    · show ((if false=true then ((ts.map Value.ref).toArray.zip vs.toArray).reverse else (ts.map Value.ref).toArray.zip vs.toArray)).map (·.2)=_
      rw [if_neg Bool.false_ne_true]
      apply Array.toList_inj.mp
      rw [Array.toList_map,Array.toList_zip,List.map_snd_zip (by rw [List.toList_toArray,List.toList_toArray,List.length_map];omega)]
      rw [List.toList_toArray]
      apply List.ext_getElem?
      intro j
      rw [List.toList_toArray,List.getElem?_map]
      by_cases hj:j<xs.length
      · rw [List.getElem?_range hj]
        show _=some (vs.getD j Value.none)
        rw [List.getD_eq_getElem?_getD,List.getElem?_eq_getElem (by omega)];rfl
      · rw [List.getElem?_eq_none (by omega),List.getElem?_eq_none (by rw [List.length_range];omega)];rfl
    · match hx:xs.length,h2 with
      | 0,_=>exact List.Pairwise.nil
      | 1,_=>exact List.pairwise_singleton _ _
  · have hs2:¬ vs.toArray.size<2:=by rw [List.size_toArray];omega
    rw [if_neg hs2,if_neg hs2]
    have KK:Keys s4.heap (ts.map Value.ref) key xs.length m:=by
      refine ⟨by rw [List.length_map];exact eks,fun i hi=>?_,hlong⟩
      have hit:i<ts.length:=by omega
      have et:=htup ts H4 p4' i ts[i] (List.getElem?_eq_getElem hit)
      obtain ⟨_,its,r,hT⟩:=I7.hok _ _ et
      exact ⟨ts[i],its,by rw [List.getElem?_map,List.getElem?_eq_getElem hit];rfl,hT,intsAre_of r⟩
    obtain ⟨fs,kt,kl,kv⟩:=KK.tups
    refine wpAny_bind (kat_kind kt (by omega) (fun v hv=>by obtain ⟨a,t,rfl⟩:=kv v hv;exact Looks.of_pure rfl) (T:=.type "int") (by decide) ?_)
    have ett:(Value.type "int" != Value.type "tuple")=true:=by decide
    rw [ett]
    have ez:(if false=true then ((ts.map Value.ref).toArray.zip vs.toArray).reverse else (ts.map Value.ref).toArray.zip vs.toArray)=(ts.map Value.ref).toArray.zip vs.toArray:=by rw [if_neg Bool.false_ne_true]
    rw [ez]
    have hkl:(ts.map Value.ref).length=vs.length:=by rw [List.length_map];omega
    have run:=kat_run (prog:=X.prog) (w:=X.w) (A:=A) (E:=E) (s:=s4) (κ:=tuples' true) (ks:=ts.map Value.ref) (vs:=vs)
      (Q:=fun st' s'=>s'=s4∧∃ p:Array Nat,arrOf st'=p.map (kas_item ((ts.map Value.ref).toArray.zip vs.toArray))∧failedOf st'=none∧Arr xs.length p∧Srt κ p xs.length)
      (G:=fun p s'=>s'=s4∧Arr xs.length p∧Srt κ p xs.length) hkl (by omega) (by omega) (fun p st' s' _ b c ⟨d,a1,a2⟩=>⟨d,p,b,c,a1,a2⟩) (by
        have:=tree_sort (N:=xs.length) (KK.cmp (prog:=X.prog) (w:=X.w) (A:=A) hκ) hinj (by omega) (Q:=fun p s'=>s'=s4∧Arr xs.length p∧Srt κ p xs.length) (s:=s4) rfl fun p s' a b c=>⟨c,a,b⟩
        rw [← hlen]
        exact this)
    refine wpAny_bind (wpAny_mono run ?_ fun _ _ x=>x)
    rintro ⟨⟨⟩,st'⟩ s5 ⟨rfl,p,har,hf,AR,SR⟩
    dsimp only
    refine fin st' p.toList (kat_snds hkl har) hf (fun i hi=>?_) (by rw [Array.length_toList,AR.size]) (sorted_of AR SR)
    exact List.mem_range.mp (AR.perm.mem_iff.mp hi)
end
end L2
namespace L2
open PySem PySem.W PySem.Spec PyProof.Rows
def lamCx (X:Cx) (scope:Scope) (qual:Str) (c:Value) (N:List Str) (A:Around) (f:Addr) (s:Shared) (H:Hp):Cx :=
  let env:Env:=envX qual scope s.heap.objs.size f c (clo X.env.cells scope.names [])
  { prog:=X.prog,w:=X.w,K:=X.K,mg:=X.mg,base:=X.base,A:=A.deeper env,N:=N,s₀:=s,H₀:=H,env:=env,outer:=X.stack,stack:=env :: X.stack,ex:=[],fn:=fun x=>((clo X.env.cells scope.names []).lookup x).isNone,calm:=true,pn:=[],xe:=fun _ _=>False }
def lamSt (x:V) (cap:List (Option Nat)) (σ:St):St:=some x :: (cap.map fun o=>o.bind fun j=>(σ[j]?).bind id)
def lamOk (scope:Scope) (p:Str) (N N':List Str) (cap:List (Option Nat)):Bool:=(scope.names.lookup p == some .local) && !scope.isCoroutine && !scope.isGenerator && (!N'.contains p) && capOk scope N N' cap
section
variable {X:Cx} {pins:List (Addr × Obj)} {σ:St} {H:Hp} {s:Shared} {body:Expr} {scope:Scope} {params:Arguments} {te:TE}
theorem lam_call (sc:Scope) (hsc:X.env.scope=sc) (N₀:List Str) (hN₀:X.N=N₀) {N':List Str} {cap:List (Option Nat)} {p:Str} (f1:freeOk sc scope=true) (f2:ownOk scope=true) (f3:lamOk scope p N₀ N' cap=true)
    {A:Around} {f:Addr} {name qual:Str} {c pm ctv:Value} {x:V} {u:Value} {Q:VK} (I:Inv X pins σ H s) (hA:A.frames=some X.stack) (hd:A.handled=none) (hroom:A.depth<recursionLimit)
    (hf:(f,({ cls:=.type "function",data:=.func (kla_fn name qual params body scope (clo X.env.cells scope.names []) pm c ctv) }:Obj))∈pins) (hcd:s.heap.CodeRec c qual)
    (hbind:bindArgs (kla_fn name qual params body scope (clo X.env.cells scope.names []) pm c ctv) ⟨[u],[]⟩=pure [(p,u)])
    (hb:PE (lamCx X scope qual c (p :: N') A f s H) body te) (rx:RelV x u) (h:te (lamSt x cap σ) H Q) :
    wpAny (model X.prog X.w) A (call (.ref f) [u]) (fun k s2=>∃ v H2,RelV v k∧Inv X pins σ H2 s2∧Q v H2) (fun _ _=>False) s:=by
  have ok:=I.ok
  have fr:∀ y∈scope.names,y.2=.free→X.env.kindOf y.1=some .cell∨X.env.kindOf y.1=some .free:=fun y hy e=>by
    have q:=List.all_eq_true.mp f1 y hy
    rw [e] at q
    have q':((sc.names.lookup y.1 == some NameKind.cell) || (sc.names.lookup y.1 == some NameKind.free))=true:=by simpa using q
    rw [Bool.or_eq_true] at q'
    unfold Env.kindOf
    rw [hsc]
    rcases q' with z | z
    · exact .inl (by simpa using z)
    · exact .inr (by simpa using z)
  obtain ⟨⟨k1,k2⟩,k3⟩:((scope.kind == .function)=true∧(scope.names.all fun y=>y.2 != .cell)=true)∧(scope.names.all fun y=>y.2 != .local || scope.names.lookup y.1 == some .local)=true:=by
    unfold ownOk at f2
    rw [Bool.and_eq_true,Bool.and_eq_true] at f2
    exact f2
  have hkind:scope.kind=.function:=by simpa using k1
  have hcell:∀ y∈scope.names,y.2≠.cell:=fun y hy=>by
    have q:=List.all_eq_true.mp k2 y hy
    simpa using q
  obtain ⟨⟨⟨⟨g1,g2⟩,g3⟩,g4⟩,g5⟩:((((scope.names.lookup p == some .local)=true∧(!scope.isCoroutine)=true)∧(!scope.isGenerator)=true)∧(!N'.contains p)=true)∧capOk scope N₀ N' cap=true:=by
    unfold lamOk at f3
    rw [Bool.and_eq_true,Bool.and_eq_true,Bool.and_eq_true,Bool.and_eq_true] at f3
    exact f3
  have hploc:scope.names.lookup p=some .local:=by simpa using g1
  have clX:∀ x c,(clo X.env.cells scope.names []).lookup x=some c→X.env.cells.lookup x=some c:=fun x c e=>by
    have e1:=clo_sub e
    have hx:(x,NameKind.free)∈scope.names:=by
      rcases clo_free [] (PySem.mem_of_lookup e) with z | z
      · exact nomatch z
      · exact z
    obtain ⟨c',e2⟩:=ok.has x (fr (x,.free) hx rfl)
    rw [e2] at e1 ⊢
    rw [e1];rfl
  have pf:=I.pin _ (List.mem_append_right _ hf)
  refine wpAny_call (kla_callFunE hroom pf.1 rfl (by simpa using g2) (by simpa using g3) rfl hcd ?_)
  rw [hbind]
  refine wpAny_pure ?_
  refine wpAny_newFunctionEnv hcell (fun y hy=>?_) (fun h4 hns hsb=>?_) hkind
  · have:y=(p,u):=by simpa using hy
    rw [this];exact hploc
  have kp4:∀ b o,s.heap.get? b=some o→h4.get? b=some o:=fun b o e=>hsb.extBut b o (Nat.ne_of_lt (Heap.lt_size e)) (Heap.get?_push_of_some _ e)
  refine ⟨I.nolimit.keeps kp4,kla_codeExpr ?_⟩
  let Z:Cx:=lamCx X scope qual c (p :: N') A f s H
  have okZ:Z.Ok:=by
    refine ⟨ok.mod,hkind,rfl,rfl,Nat.le_refl _,?_,?_,?_,fun _=>hd,Around.frames_deeper hA,.inr ⟨rfl,rfl⟩,?_,?_,?_,?_,?_,?_,?_⟩
    · exact fun x y c h1 h2=>ok.inj x y c (clX x c h1) (clX y c h2)
    · intro x hx
      have hx':scope.names.lookup x=some .cell∨scope.names.lookup x=some .free:=hx
      rcases hx' with z | z
      · exact absurd rfl (hcell _ (PySem.mem_of_lookup z))
      · exact Option.isSome_iff_exists.mp (clo_has scope.names [] x (PySem.mem_of_lookup z))
    · intro x c hx h1
      have hx':((clo X.env.cells scope.names []).lookup x).isNone=true:=hx
      have h1':(clo X.env.cells scope.names []).lookup x=some c:=h1
      rw [h1'] at hx';cases hx'
    · exact fun b hb=>absurd (show b∈([]:List Addr) from hb) (by simp)
    · exact fun b o e=>I.bs b o e
    · exact Nat.le_trans ok.bsz I.sz
    · exact fun b o e hb=>absurd (show b∈([]:List Addr) from hb) (by simp)
    · exact fun b hb=>absurd (show b∈([]:List Addr) from hb) (by simp)
    · exact I.stack
    · exact I.stkFree
  have capl:cap.length=N'.length∧∀ p∈N'.zip cap,(match p.2 with | none=>true | some j=>N₀[j]? == some p.1 && scope.names.lookup p.1 == some .free)=true:=by
    unfold capOk at g5
    rw [Bool.and_eq_true] at g5
    exact ⟨by simpa using g5.1,fun p hp=>List.all_eq_true.mp g5.2 p hp⟩
  have IZ:Inv Z [] (lamSt x cap σ) H { s with heap:=h4,toks:=s.toks + [(p,u)].length }:=by
    refine ⟨okZ,rfl,I.bare,Un.kept kp4,⟨_,hns,?_⟩,?_,?_,?_,fun p hp=>absurd (show p∈([]:List (Addr × Obj)) from hp) (by simp),I.hok.kept kp4,?_⟩
    · intro i y v e1 e2 e3
      cases i with
      | zero =>
        have e1':p=y:=by
          have e1'':(p :: N')[0]?=some y:=e1
          simpa using e1''
        have e2':x=v:=by
          have e2'':(lamSt x cap σ)[0]?=some (some v):=e2
          simpa [lamSt] using e2''
        subst e1' e2'
        exact ⟨u,rx,.inl ⟨hploc,by simp [List.lookup]⟩⟩
      | succ i =>
        have e1':N'[i]?=some y:=by
          have e1'':(p :: N')[i + 1]?=some y:=e1
          simpa using e1''
        have e2':(cap.map fun o=>o.bind fun j=>(σ[j]?).bind id)[i]?=some (some v):=by
          have e2'':(lamSt x cap σ)[i + 1]?=some (some v):=e2
          simpa [lamSt] using e2''
        rw [List.getElem?_map] at e2'
        cases ec:cap[i]? with
        | none=>rw [ec] at e2';cases e2'
        | some o =>
          rw [ec] at e2'
          cases o with
          | none=>cases e2'
          | some j =>
            have e3':(σ[j]?).bind id=some v:=by simpa using e2'
            have hz:(y,some j)∈N'.zip cap:=by
              refine List.mem_of_getElem? (i:=i) ?_
              rw [List.getElem?_zip_eq_some]
              exact ⟨e1',ec⟩
            have q:=capl.2 _ hz
            have q':(N₀[j]? == some y)=true∧(scope.names.lookup y == some NameKind.free)=true:=by simpa [Bool.and_eq_true] using q
            have q1:X.N[j]?=some y:=by rw [hN₀];simpa using q'.1
            have q2:scope.names.lookup y=some .free:=by simpa using q'.2
            have eσ:σ[j]?=some (some v):=by
              cases z:σ[j]? with
              | none=>rw [z] at e3';cases e3'
              | some y' =>
                rw [z] at e3'
                have:y'=some v:=e3'
                rw [this]
            have hk:=fr (y,.free) (PySem.mem_of_lookup q2) rfl
            obtain ⟨m,hn,hl⟩:=I.loc
            have vis:Vis X.env.scope y:=by
              rcases hk with z | z
              · exact .inr (.inl z)
              · exact .inr (.inr z)
            obtain ⟨u',r,l⟩:=hl j y v q1 eσ vis
            refine ⟨u',r,.inr ⟨.inr q2,?_⟩⟩
            rcases l with ⟨kl,_⟩ | ⟨_,c,ecx,hcx⟩
            · rcases hk with z | z
              · have z':X.env.kindOf y=some .cell:=z
                rw [kl] at z';cases z'
              · have z':X.env.kindOf y=some .free:=z
                rw [kl] at z';cases z'
            · have hh:=clo_has (cells:=X.env.cells) scope.names [] y (PySem.mem_of_lookup q2)
              obtain ⟨c',ec'⟩:=Option.isSome_iff_exists.mp hh
              have ec2:=clX y c' ec'
              rw [ecx] at ec2
              cases ec2
              exact ⟨c,ec',hcx.keeps kp4⟩
    · intro y c e
      obtain ⟨v,z⟩:=I.cell y c (clX y c e)
      exact ⟨v,z.keeps kp4⟩
    · exact I.hok.fresh (Nat.le_refl _)
    · exact fun y c e=>I.freeC y c (clX y c e)
    · show (lamSt x cap σ).length=(p :: N').length
      unfold lamSt
      rw [List.length_cons,List.length_cons,List.length_map,capl.1]
  refine wpAny_mono (hb [] _ _ H Q IZ h) (fun v s2 ⟨vv,H2,J,rv,q⟩=>?_) fun _ _ z=>z.elim
  refine ⟨vv,H2,rv,?_,q⟩
  have un:Un (frs X.stack) [] H H2 s.heap s2.heap:=J.base
  exact I.call' J.os un J.hok J.bare fun b hb=>absurd hb (by simp)
end
end L2
namespace L2
open PySem PySem.W PySem.Spec PyProof.Rows
section
variable {X:Cx} {pins:List (Addr × Obj)} {σ:St} {H:Hp} {s:Shared}
theorem Inv.grow {P:Addr} {ps more:Array Value} {h':Heap} {t':Nat} (I:Inv X pins σ H s) (hP:H P=some (.tbl ps)) (hx:Heap.ExtBut P s.heap h') (hP':h'.get? P=some { cls:=.none,data:=.fields (ps++more) }) :
    Inv X pins σ (upd H P (.tbl (ps++more))) { s with heap:=h',toks:=t' }:=by
  have ne:∀ b,H b=none→b≠P:=fun b n z=>by rw [z,hP] at n;cases n
  have hL:X.env.locals≠P:=ne _ I.free
  refine I.step (g':=s.gens) (d':=s.drawn) (ch:=[]) (fun _ z=>nomatch z) (fun b o _ _ _ e n=>hx b o (ne b n) e) (fun b o _ _ _ e n=>⟨o.slots,hx b o (ne b n) e⟩) (fun b o _ _ n=>by rw [upd_ne (ne b n)];exact n) (fun b o _ e=>?_) (fun b xs e=>?_) (fun b ob u e=>?_) (fun b qs e=>?_) (fun m hm=>?_) (fun b u e=>?_) I.bare
  · by_cases hb:b=P
    · subst hb;exact ⟨_,hP'⟩
    · exact ⟨o,hx b o hb e⟩
  · rw [upd_ne (fun z=>by rw [z,hP] at e;cases e)];exact e
  · rw [upd_ne (fun z=>by rw [z,hP] at e;cases e)];exact e
  · by_cases hb:b=P
    · subst hb
      rw [hP] at e;cases e
      exact ⟨more,by rw [upd_same]⟩
    · exact ⟨#[],by rw [upd_ne hb,e];simp⟩
  · exact hm.extBut hx hL
  · by_cases hb:b=P
    · subst hb;rw [upd_same] at e;cases e;exact hP'
    · rw [upd_ne hb] at e
      refine (I.hok b u e).stay (fun c v hc q=>hx c v ?_ q) (fun c q=>by rw [upd_ne (fun z=>by rw [z,hP] at q;cases q)];exact q) fun c xs q=>by rw [upd_ne (fun z=>by rw [z,hP] at q;cases q)];exact q
      rcases hc with z | z
      · rw [z];exact hb
      · intro w;rw [w,hP] at z;cases z
def TabOk (P:Addr) (pos:Pos) (qual:Str) (H:Hp):Prop:=H P=some (.tbl #[])∨∃ c':Addr,H P=some (.tbl #[rawInt pos.line,rawInt pos.col,.ref c'])∧H c'=some (.ext fun h=>h.CodeRec (.ref c') qual)
def BM (mg:Str→Option Value) (base:Heap):Prop:=∃ bm ob,mg "__builtins__"=some (.ref bm)∧bm≠builtinsNs∧bm≠mainGlobals∧base.get? bm=some ob∧ob.cls=.type "module"∧ob.dict=some builtinsNs∧ob.data=.plain
theorem lam_make {P c:Addr} {params:Arguments} {body:Expr} {scope:Scope} {pos:Pos} {Q:Value→Shared→Prop} {E:Value→Shared→Prop} {A:Around} (sc:Scope) (hsc:X.env.scope=sc) (f1:freeOk sc scope=true) (I:Inv X pins σ H s) (hbm:BM X.mg X.base) (hcode:X.env.code=.ref c)
    (hhd:codeHdIn X.K c P=true) (hT:TabOk P pos (X.env.qual++"<lambda>") H) (hdef:defaultsOf params X.env=([],[]))
    (h:∀ (f:Addr) (H':Hp) (s':Shared) (c':Addr) (pm ctv:Value),(∀ b o,H b=some o→b≠P→H' b=some o)→(∀ b,H' b=none→H b=none)→TabOk P pos (X.env.qual++"<lambda>") H'→H' c'=some (.ext fun h=>h.CodeRec (.ref c') (X.env.qual++"<lambda>")) →
      Inv X (pins++[(f,({ cls:=.type "function",data:=.func (kla_fn "<lambda>" (X.env.qual++"<lambda>") params body scope (clo X.env.cells scope.names []) pm (.ref c') ctv) }:Obj))]) σ H' s'→Q (.ref f) s') :
    wpAny (model X.prog X.w) A (eval (.Lambda params body scope pos) X.env) Q E s:=by
  have ok:=I.ok
  have fr:∀ y∈scope.names,y.2=.free→X.env.kindOf y.1=some .cell∨X.env.kindOf y.1=some .free:=fun y hy e=>by
    have q:=List.all_eq_true.mp f1 y hy
    rw [e] at q
    have q':((sc.names.lookup y.1 == some NameKind.cell) || (sc.names.lookup y.1 == some NameKind.free))=true:=by simpa using q
    rw [Bool.or_eq_true] at q'
    unfold Env.kindOf
    rw [hsc]
    rcases q' with z | z
    · exact .inl (by simpa using z)
    · exact .inr (by simpa using z)
  have hclos:closureFor scope X.env=pure (clo X.env.cells scope.names []):=closureFor_clo fun y hy e=>ok.has y.1 (fr y hy e)
  have hg:s.heap.Ns mainGlobals X.mg:=I.mod.glob.keeps I.bk
  have C:CodeHd s.heap c P:=codeHd_of_K I.kIn hhd
  obtain ⟨bm,ob,b1,b2,b3,b4,b5,b6,b7⟩:=hbm
  have hbmP:∀ ps,H P=some (.tbl ps)→bm≠P:=fun ps e z=>by
    have:=(I.bs bm ob b4).2
    rw [z,e] at this;cases this
  have hB:∀ ps,H P=some (.tbl ps)→s.heap.BuiltinsAt X.mg P:=fun ps e=>⟨bm,ob,b1,b2,b3,hbmP ps e,I.bk bm ob b4,b5,b6,b7⟩
  refine kla_eval hdef ?_
  rcases hT with hT | ⟨c',hT,hc'⟩
  · have hPo:s.heap.get? P=some (tabObj #[]):=I.hok P _ hT
    have hgP:mainGlobals≠P:=fun q=>by
      obtain ⟨o,es,ep,e,hd,_⟩:=id hg
      rw [q,hPo] at e;cases e;cases hd
    refine kla_makeFunction (mg:=X.mg) hclos ok.glob hg hcode C hPo trivial rfl hgP (hB _ hT) fun c' ctv h' tk hx hge hlt hrec htb=>?_
    have hPlt:P<s.heap.objs.size:=Heap.lt_size hPo
    have I1:Inv X pins σ (upd H P (.tbl (#[]++#[rawInt pos.line,rawInt pos.col,.ref c']))) { s with heap:=h',toks:=tk }:=I.grow hT hx htb
    have nc':H c'=none:=I.hok.fresh hge
    have hcP:c'≠P:=fun z=>by rw [z] at hge;exact absurd hPlt (Nat.not_lt.mpr hge)
    have nc1:(upd H P (.tbl (#[]++#[rawInt pos.line,rawInt pos.col,.ref c']))) c'=none:=by rw [upd_ne hcP];exact nc'
    obtain ⟨q0,q1,q2,q3,q4,q5⟩:=I.fpOk (H':=H) hge nc'
    have hs0:X.s₀.heap.objs.size≤c':=Nat.le_trans I.sz hge
    have I2:=I1.adopt (a:=c') (o:=.ext fun h=>h.CodeRec (.ref c') (X.env.qual++"<lambda>")) nc1 q1 hs0 q4 q5
      ⟨hrec,by obtain ⟨cc,o,vs,t,e1,e2,_⟩:=hrec;cases e1;exact ⟨o,e2⟩,fun h1 h2 x k=>x.at k⟩
    have I3:=I2.kept (h':=h'.push (kla_obj "<lambda>" (X.env.qual++"<lambda>") params body scope (clo X.env.cells scope.names []) ((X.mg "__name__").getD .none) c' ctv)) (t':=tk) fun b o e=>Heap.get?_push_of_some _ e
    have nf:(upd (upd H P (.tbl (#[]++#[rawInt pos.line,rawInt pos.col,.ref c']))) c' (.ext fun h=>h.CodeRec (.ref c') (X.env.qual++"<lambda>"))) h'.objs.size=none:=I2.hok.fresh (Nat.le_refl _)
    have I4:=I3.pinMore (I2.fpOk (Nat.le_refl _) nf) (Heap.get?_push_size _ rfl) (fun v z=>by cases z)
    refine h _ _ _ c' _ ctv (fun b o e hb=>?_) (fun b e=>?_) (.inr ⟨c',?_,upd_same⟩) upd_same I4
    · rw [upd_ne (ne_of_none e nc'),upd_ne hb];exact e
    · cases z:H b with
      | none=>rfl
      | some o =>
        by_cases hb:b=P
        · rw [hb,upd_ne hcP.symm,upd_same] at e;cases e
        · rw [upd_ne (ne_of_none z nc'),upd_ne hb,z] at e;cases e
    · rw [upd_ne hcP.symm,upd_same];simp
  · have hPo:s.heap.get? P=some (tabObj #[rawInt pos.line,rawInt pos.col,.ref c']):=I.hok P _ hT
    have hfnd:codeAmong pos (#[rawInt pos.line,rawInt pos.col,.ref c']:Array Value).toList=some (.ref c'):=by simp [codeAmong,rawInt]
    refine kla_makeFunctionHit (mg:=X.mg) hclos ok.glob hg hcode C hPo trivial hfnd (hB _ hT) fun ctv h' tk hk hsz=>?_
    have I1:Inv X pins σ H { s with heap:=h',toks:=tk }:=I.kept hk
    have I3:=I1.kept (h':=h'.push ({ cls:=.type "function",data:=.func (kla_fn "<lambda>" (X.env.qual++"<lambda>") params body scope (clo X.env.cells scope.names []) ((X.mg "__name__").getD .none) (.ref c') ctv) }:Obj)) (t':=tk) fun b o e=>Heap.get?_push_of_some _ e
    have nf:H h'.objs.size=none:=I1.hok.fresh (Nat.le_refl _)
    have I4:=I3.pinMore (I1.fpOk (Nat.le_refl _) nf) (Heap.get?_push_size _ rfl) (fun v z=>by cases z)
    exact h _ _ _ c' _ ctv (fun b o e _=>e) (fun b e=>e) (.inr ⟨c',hT,hc'⟩) hc' I4
end
end L2
namespace L2
open PySem PySem.W PySem.Spec PyProof.Rows
def below0 (n:Nat):List V:=(List.range n).map fun (i:Nat)=>V.int (i:Int)
def tSortLam (P:Addr) (lpos:Pos) (qual:Str) (cap:List (Option Nat)) (ta:TA) (te:TE):TE:=fun σ H Q=>ta σ H fun vs H1=>∃ n:Nat,vs=[.int (n:Int)]∧n<64∧TabOk P lpos qual H1 ∧
  ∀ H2,(∀ b o,H1 b=some o→b≠P→H2 b=some o)→(∀ b,H2 b=none→H1 b=none)→TabOk P lpos qual H2 →
    ∃ (Pv:Nat→List Addr→Hp→Prop) (key:Nat→List Int) (κ:Nat→Int) (m:Nat),Pv 0 [] H2∧(∀ i ts H3,i<n→Pv i ts H3→(∀ c',H2 c'=some (.ext fun h=>h.CodeRec (.ref c') qual)→H3 c'=some (.ext fun h=>h.CodeRec (.ref c') qual))∧te (lamSt (.int (i:Int)) cap σ) H3 fun v H4=>∃ t,v=.ref t∧Pv (i + 1) (ts++[t]) H4) ∧
      (∀ ts H3,Pv n ts H3→∀ i t,ts[i]?=some t→H3 t=some (.tup ((key i).map V.int)))∧(∀ i,i<n→(key i).length=m + 1)∧(∀ i j,i<n→j<n→HT.lexLt (key i) (key j)=decide (κ i<κ j))∧Inj n κ ∧
      ∀ ts H3 D ys,Pv n ts H3→H3 D=none→SortedBy κ (below0 n) ys→Q (.ref D) (upd H3 D (.lst ys))
section
variable {X:Cx} {e body:Expr} {ta:TA} {te:TE} {params:Arguments} {scope:Scope} {p1 p2 p3 lpos kp pos:Pos}
theorem pe_sortedLam {P c:Addr} {p:Str} (sc:Scope) (hsc:X.env.scope=sc) (N₀:List Str) (hN₀:X.N=N₀) (N':List Str) (cap:List (Option Nat)) (f1:freeOk sc scope=true) (f2:ownOk scope=true) (f3:lamOk scope p N₀ N' cap=true)
    (hcalm:X.calm=true) (hbm:BM X.mg X.base) (hcode:X.env.code=.ref c) (hhd:codeHdIn X.K c P=true) (hroom:X.A.depth + 4<recursionLimit)
    (hgs:Gl X "sorted") (hms:X.mg "sorted"=none) (hgr:Gl X "range") (hmr:X.mg "range"=none) (ha:PA X [e] ta)
    (hb:∀ (A:Around) (f:Addr) (cv:Value) (s:Shared) (H:Hp),A.handled=none→A.depth≤X.A.depth + 2→A.units≤X.A.units + 2→PE (lamCx X scope (X.env.qual++"<lambda>") cv (p :: N') A f s H) body te)
    (hbind:∀ (pm cv ctv u:Value),bindArgs (kla_fn "<lambda>" (X.env.qual++"<lambda>") params body scope (clo X.env.cells scope.names []) pm cv ctv) ⟨[u],[]⟩=pure [(p,u)])
    (hdef:defaultsOf params X.env=([],[]):=by rfl) (hs:starEach [e] X.env=[(false,eval e X.env)]:=by rfl) :
    PE X (.Call (.Name "sorted" p1) [.Call (.Name "range" p2) [e] [] p3] [⟨some "key",.Lambda params body scope lpos,kp⟩] pos) (tSortLam P lpos (X.env.qual++"<lambda>") cap ta te):=by
  intro pins s σ H Q I h
  refine wpAny_Call_Name_kw (ld_blt I hgs hms boot_sorted ?_)
  refine callWith_kw ?_
  show wpAny _ _ (spliced ((false,eval (.Call (.Name "range" p2) [e] [] p3) X.env) :: [])) _ _ s
  refine Calls.spliced_cons (Call_ (ld_blt I hgr hmr boot_range (PyProof.Rows.callWith_type1 (thn (ha p3 pins s σ H _ I h) fun us s1 ⟨vs,H1,I1,r1,q1⟩=>?_) hs rfl)))
  obtain ⟨n,e1,hn,hT,q⟩:=q1
  subst e1
  obtain ⟨u,rfl,t,rfl⟩:=vals1 r1
  refine call_range_1 ?_
  refine Calls.spliced_nil ?_
  generalize hro:({ cls:=.type "range",data:=.fields #[.int 0 s1.toks,.int (n:Int) t,.int 1 (s1.toks + 1)] }:Obj)=ro
  have hrd:∀ v,ro.data≠.cell v:=fun v z=>by rw [← hro] at z;cases z
  have I2:Inv X pins σ H1 { s1 with heap:=s1.heap.push ro,toks:=s1.toks + 1 + 1 }:=I1.kept fun b o e=>Heap.get?_push_of_some _ e
  have nr:H1 s1.heap.objs.size=none:=I1.hok.fresh (Nat.le_refl _)
  have I3:=I2.pinMore (I1.fpOk (Nat.le_refl _) nr) (Heap.get?_push_size _ (by rw [← hro];rfl)) hrd
  generalize ({ s1 with heap:=s1.heap.push ro,toks:=s1.toks + 1 + 1 }:Shared)=s2 at I3 ⊢
  generalize s1.heap.objs.size=r at I3 ⊢
  refine kws_cons (lam_make (P:=P) (c:=c) sc hsc f1 I3 hbm hcode hhd hT hdef fun f H2 s3 c' pm ctv k1 k2 hT2 hc' I4=>?_)
  refine kws_nil ?_
  show wpAny _ _ (call (.builtin "sorted") [.ref r] [(Str.ofString "key",.ref f)]) _ _ s3
  obtain ⟨Pv,key,κ,m,p0,step,htup,hlong,hκ,hinj,fin⟩:=q H2 k1 k2 hT2
  refine call_function_entry_kw kind_sorted plain_sorted entry_sorted (ksk_s1 _ _) ?_
  unfold Builtin.«sorted»
  refine wpAny_bind (m:=checkCount "sorted" 1 1 _) (wpAny_pure ?_)
  have pr:=I4.pin (r,ro) (List.mem_append_right _ (List.mem_append_left _ (List.mem_append_right _ (by simp))))
  have hR:IsRange s3.heap r 0 (n:Int) 1 s1.toks t (s1.toks + 1):=by
    show s3.heap.get? r=_
    rw [pr.1,← hro]
  have hrs:Builtin.Range.rangeSize 0 (n:Int) 1=(n:Nat):=by rw [rangeSize_one];split <;> omega
  refine wpAny_bind (collect_range (A:=X.A.in1) (I.ok.hd hcalm) hR (small_one (by omega) (by omega) (by omega) (by omega)) hrs (by omega) fun h' tk vs hk rv=>?_)
  have I5:Inv X _ σ H2 { s3 with heap:=h',toks:=tk }:=I4.kept hk
  have hlen:=rv.length
  rw [List.length_map,List.length_range] at hlen
  refine wpAny_bind (wpAny_newList ?_ (by rw [sizeLine_eq];omega))
  have nD:H2 h'.objs.size=none:=I5.hok.fresh (Nat.le_refl _)
  have I6:Inv X _ σ H2 { s3 with heap:=h'.push (seqObj "list" vs.toArray 0),toks:=tk }:=I5.kept (t':=tk) fun b o e=>Heap.get?_push_of_some _ e
  have hD6:(h'.push (seqObj "list" vs.toArray 0)).get? h'.objs.size=some (seqObj "list" vs.toArray 0):=Heap.get?_push_size _ rfl
  have hxl:((List.range n).map fun (i:Nat)=>V.int (i:Int)).length=n:=by simp
  refine wpAny_bind (wpAny_holding (wpAny_call_entry_kw slot_list_sort ⟨_,hD6,rfl⟩ entry_list_sort ?body (ksk_l1 _ _)))
  show wpAny (model X.prog X.w) X.A.in1.in1 (Builtin.«list.sort» ⟨[.ref h'.objs.size],[(Str.ofString "key",.ref f)]⟩) _ _ _
  rw [ksk_t1]
  refine wpAny_mono (sort_tree (X:=X) (A:=X.A.in1.in1) (s:={ s3 with heap:=h'.push (seqObj "list" vs.toArray 0),toks:=tk }) (xs:=below0 n) (key:=key) (κ:=κ) (m:=m) (n0:=0) rv (by show ((List.range n).map _).length<64;rw [hxl];exact hn) Pv I6 hD6
    (fun H' hn'=>I5.fpOk (Nat.le_refl _) hn') nD (Nat.le_trans I5.sz (Nat.le_refl _)) p0 ?call ?tup ?long ?kap ?inj) ?_ fun _ _ x=>x
  case call =>
    intro i x u ts pins' s' H' hx rx I' hsub pv
    obtain ⟨hi,ex⟩:i<n∧x=V.int (i:Int):=by
      have hx':((List.range n).map fun (i:Nat)=>V.int (i:Int))[i]?=some x:=hx
      rw [List.getElem?_map] at hx'
      by_cases hi:i<n
      · rw [List.getElem?_range hi] at hx'
        exact ⟨hi,(Option.some.inj hx').symm⟩
      · rw [List.getElem?_eq_none (by rw [List.length_range];omega)] at hx';cases hx'
    subst ex
    obtain ⟨hkc,ht⟩:=step i ts H' hi pv
    have hcr:s'.heap.CodeRec (.ref c') (X.env.qual++"<lambda>"):=(I'.hok c' _ (hkc c' hc')).1
    refine wpAny_mono (lam_call (X:=X) (A:=X.A.in1.in1) sc hsc N₀ hN₀ f1 f2 f3 I' I.ok.frames (I.ok.hd hcalm) (by show X.A.depth<recursionLimit;omega) (hsub _ (List.mem_append_right _ List.mem_cons_self)) hcr (hbind _ _ _ _)
      (hb _ f _ s' H' (I.ok.hd hcalm) (by show X.A.depth≤X.A.depth + 2;omega) (by show X.A.units + 1 + 1≤X.A.units + 2;omega)) rx ht) (fun k s2 ⟨v,H3,rv',I7,t',ev,pv'⟩=>?_) fun _ _ x=>x
    subst ev
    have ek:k=.ref t':=rv'
    exact ⟨t',H3,ek,I7,pv'⟩
  case tup =>
    intro ts H' pv
    have pv':Pv n ts H':=by
      have:Pv ((List.range n).map fun (i:Nat)=>V.int (i:Int)).length ts H':=pv
      rw [hxl] at this;exact this
    exact htup ts H' pv'
  case long =>
    intro i hi
    have hi':i<((List.range n).map fun (i:Nat)=>V.int (i:Int)).length:=hi
    rw [hxl] at hi'
    exact hlong i hi'
  case kap =>
    intro i j hi hj
    have hi':i<((List.range n).map fun (i:Nat)=>V.int (i:Int)).length:=hi
    have hj':j<((List.range n).map fun (i:Nat)=>V.int (i:Int)).length:=hj
    rw [hxl] at hi' hj'
    exact hκ i j hi' hj'
  case inj =>
    have:(below0 n).length=n:=hxl
    rw [this];exact hinj
  rintro fin' s8 ⟨rfl,ts,H8,ys,pv,nD8,hsb,I8⟩
  refine ⟨_,rfl,wpAny_pure ⟨_,rfl,?_⟩⟩
  have pv':Pv n ts H8:=by
    have e':(below0 n).length=n:=hxl
    rw [e'] at pv;exact pv
  exact ⟨.ref h'.objs.size,_,I8.unpinned.unpinned,rfl,fin ts H8 _ ys pv' nD8 hsb⟩
end
end L2
namespace L2
open PySem PySem.W PySem.Spec PyProof.Rows
def OnlyT (ts:List Addr) (H:Hp):Prop:=∀ b,H b=none∨(∃ o xs,H b=some (.frz o (.lst xs)))∨(b∈ts∧H b=some (.tbl #[]))
theorem law_callT {P:Program} {w:World} {K:PySem.W.Frag} {mg mb:Str→Option Value} {CX:CXT} {k:Nat} {fa a:Addr} {fd:FuncData} {x:Str} {sp:Sp} {s₁:Shared} {vs:List Value} {ns:List Int} {ts:List Addr}
    (KX:K.In s₁.heap) (hns:s₁.heap.Ns mainGlobals mg) (hb:s₁.heap.Ns builtinsNs mb) (hbb:∀ x:Str,x≠"__name__"→mb x=bootBuiltins x) (hlim:s₁.heap.NoLimit) (hg:s₁.gens=#[])
    (ha:s₁.heap.get? a=some { cls:=.type "list",data:=.seq vs.toArray }) (hi:IntsAre vs ns) (hl:ns.length≤sizeLine) (hr:Room k callerA)
    (hts:∀ P∈ts,s₁.heap.get? P=some (tabObj #[])) (htk:∀ P∈ts,K.lookup P=none) (htc:∀ P∈ts,isCodeTable s₁.heap P)
    (hbm:∃ bm ob,mg "__builtins__"=some (.ref bm)∧bm≠builtinsNs∧s₁.heap.get? bm=some ob∧ob.cls=.type "module"∧ob.dict=some builtinsNs∧ob.data=.plain)
    (F:∀ base:Heap,K.In base→base.Ns mainGlobals mg→BM mg base→FnOk P w K mg base CX k fa fd [x] sp) (hbind:∀ (s:Shared) (u:Value),BindsTo s fd ⟨[u],[]⟩ [(x,u)])
    (hsp:∀ H:Hp,OnlyT ts H→(∀ P∈ts,H P=some (.tbl #[]))→SqL K H a (ns.map V.int)→sp [.ref a] H (fun v _=>v=.bl true) fun _ _ _=>False)
    (hCX:∀ H e s',CX [] H s₁ (fun _ _ _=>False) e s'→False) :
    codeAny (model P w) callerA (.call (.ref fa) ⟨[.ref a],[]⟩) (fun r s'=>r=.ok (.ret (.bool true))∧OldK s₁.heap s'.heap∧s'.os=s₁.os∧AllBare s'.gens) s₁:=by
  have rv:=vals_ints hi
  have lenV:=hi.length
  have haT:a ∉ ts:=fun z=>by have:=hts a z;rw [ha] at this;cases this
  have core:∀ H:Hp,OnlyT ts H→(∀ P∈ts,H P=some (.tbl #[]))→SqL K H a (ns.map V.int)→HOk P w H s₁.heap→(∀ b,H b≠none→b=a∨b∈ts)→(H a≠none→K.lookup a=none) →
      codeAny (model P w) callerA (.call (.ref fa) ⟨[.ref a],[]⟩) (fun r s'=>r=.ok (.ret (.bool true))∧OldK s₁.heap s'.heap∧s'.os=s₁.os∧AllBare s'.gens) s₁:=by
    intro H hO hTb hS hok hA hK
    have base_of:∀ {b:Addr} {o:Obj},s₁.heap.get? b=some o→H b=none→(hidT s₁.heap H).get? b=some o:=fun e n=>hidT_get e n
    have noA:∀ {b:Addr} {o:Obj},s₁.heap.get? b=some o→(∀ xs n,o.data≠.seq xs n)→(∀ ps,o.data≠.fields ps)→H b=none:=fun {b o} e d1 d2=>by
      cases q:H b with
      | none=>rfl
      | some u =>
        rcases hA b (by rw [q];simp) with e' | e'
        · subst e'
          rw [ha] at e;cases e
          exact absurd rfl (d1 _ _)
        · have:=hts b e'
          rw [e] at this;cases this
          exact absurd rfl (d2 _)
    have nsK:∀ {b:Addr} {m:Str→Option Value},s₁.heap.Ns b m→(hidT s₁.heap H).Ns b m:=fun {b m} ⟨o,es,ep,e,d,r⟩=>⟨o,es,ep,base_of e (noA e (fun _ _ z=>by rw [d] at z;cases z) fun _ z=>by rw [d] at z;cases z),d,r⟩
    have hKb:K.In (hidT s₁.heap H):=fun b o e=>base_of (KX b o e) (by
      cases q:H b with
      | none=>rfl
      | some u =>
        rcases hA b (by rw [q];simp) with e' | e'
        · subst e'
          rw [hK (by rw [q];simp)] at e;cases e
        · rw [htk b e'] at e;cases e)
    have hM:Mod K mg (hidT s₁.heap H):=⟨hKb,nsK hns,⟨mb,nsK hb,hbb⟩,let ⟨mc,h1,h2⟩:=hlim;⟨mc,nsK h1,h2⟩⟩
    have hBM:BM mg (hidT s₁.heap H):=by
      obtain ⟨bm,ob,c1,c2,c3,c4,c5,c6⟩:=hbm
      refine ⟨bm,ob,c1,c2,fun q=>?_,base_of c3 (noA c3 (fun _ _ z=>by rw [c6] at z;cases z) fun _ z=>by rw [c6] at z;cases z),c4,c5,c6⟩
      obtain ⟨o,es,ep,e,hd,_⟩:=id hns
      rw [q,e] at c3;cases c3;rw [hd] at c6;cases c6
    have e0:Env0 P w K mg (hidT s₁.heap H) callerA [] s₁ H:=⟨rfl,hM,fun b o e=>of_hidT e,Nat.le_of_eq (hidT_size _ _),trivial,fun b hb=>absurd (show b∈([]:List Addr) from hb) (by simp),hok,.of_eq hg⟩
    refine codeAny_mono ((F _ hKb (nsK hns) hBM).run callerA [] s₁ H ⟨[.ref a],[]⟩ [.ref a] [.ref a] _ _ hr e0 (hbind s₁ (.ref a)) (.cons rfl .nil) (hsp H hO hTb hS)) fun r s' h=>?_
    cases r with
    | error e=>exact (hCX H e s' h).elim
    | ok fl =>
      cases fl with
      | next=>exact False.elim h
      | brk=>exact False.elim h
      | cont=>exact False.elim h
      | ret u =>
        obtain ⟨v,H',os,bare,un,hok',r',q⟩:=h
        have q':v=.bl true:=q
        subst q'
        obtain rfl:u=Value.bool true:=r'
        have old:∀ b o,s₁.heap.get? b=some o→asItWas s₁.heap s'.heap b o:=fun b o e=>by
          rcases hO b with z | ⟨ob,xs,z⟩ | ⟨hbt,z⟩
          · exact .inl (un.keep b o e z (by intro z;exact absurd (show b∈([]:List Addr) from z) (by simp)) (by simp))
          · have z2:=un.frzs b ob _ z
            obtain ⟨e1,_⟩:=hok b _ z
            obtain ⟨e2,_⟩:=hok' b _ z2
            rw [e] at e1;cases e1
            exact .inl e2
          · obtain ⟨more,z2⟩:=un.tbls b #[] z
            have e2:s'.heap.get? b=some { cls:=.none,data:=.fields (#[]++more) }:=hok' b _ z2
            have e3:=hts b hbt
            rw [e] at e3;cases e3
            exact .inr (.inl ⟨htc b hbt,rfl,#[],more,rfl,e2⟩)
        refine ⟨rfl,⟨old,fun b o e=>?_⟩,os,bare⟩
        exact un.there b o e (by simp)
  have tb:∀ b,(if b∈ts then some (HO.tbl #[]) else none)=none∨b∈ts:=fun b=>by
    by_cases h:b∈ts
    · exact .inr h
    · exact .inl (if_neg h)
  cases hk:K.lookup a with
  | some o =>
    have e:=KX a o hk
    rw [ha] at e
    cases e
    refine core (fun b=>if b∈ts then some (.tbl #[]) else none) (fun b=>?_) (fun P hP=>if_pos hP) (.inr ⟨_,vs.toArray,_,hk,rfl,rfl,rfl,by rw [List.size_toArray,lenV];exact hl,by simpa using rv⟩) (fun b u z=>?_) (fun b z=>?_) (fun z=>absurd (if_neg haT) z)
    · by_cases h:b∈ts
      · exact .inr (.inr ⟨h,if_pos h⟩)
      · exact .inl (if_neg h)
    · by_cases h:b∈ts
      · have z':=(if_pos h).symm.trans z
        cases z'
        exact hts b h
      · have z':=(if_neg h).symm.trans z
        cases z'
    · by_cases h:b∈ts
      · exact .inr h
      · exact absurd (if_neg h) z
  | none =>
    refine core (fun b=>if b=a then some (.frz { cls:=.type "list",data:=.seq vs.toArray } (.lst (ns.map V.int))) else if b∈ts then some (.tbl #[]) else none) (fun b=>?_) (fun P hP=>?_) (.inl (.inr ⟨{ cls:=.type "list",data:=.seq vs.toArray },if_pos rfl⟩)) (fun b u z=>?_) (fun b z=>?_) fun _=>hk
    · by_cases hb:b=a
      · exact .inr (.inl ⟨_,_,if_pos hb⟩)
      · by_cases h:b∈ts
        · exact .inr (.inr ⟨h,(if_neg hb).trans (if_pos h)⟩)
        · exact .inl ((if_neg hb).trans (if_neg h))
    · have hb:P≠a:=fun z=>haT (z ▸ hP)
      exact (if_neg hb).trans (if_pos hP)
    · by_cases hb:b=a
      · have z':=(if_pos hb).symm.trans z
        cases z'
        subst hb
        exact ⟨ha,by rw [List.length_map];exact hl,vs,_,rv,ha⟩
      · have z1:=(if_neg hb).symm.trans z
        by_cases h:b∈ts
        · have z':=(if_pos h).symm.trans z1
          cases z'
          exact hts b h
        · have z':=(if_neg h).symm.trans z1
          cases z'
    · by_cases hb:b=a
      · exact .inl hb
      · by_cases h:b∈ts
        · exact .inr h
        · exact absurd ((if_neg hb).trans (if_neg h)) z
theorem walk_ofT {l:PySem.W.OpenLaw} {n k:Nat} {q:Program} {loose:List Str} {XP:(Str→Option Value)→Heap→Prop} {YP:World→Heap→Prop} {d:DefRec} {K:Params→PySem.W.Frag} {CX:World→CXT} {sp:World→Sp} {x:Str} {ts:List Addr}
    (hn:l.most=some n) (hn2:n≤sizeLine) (hdf:d.params.defaults=[]) (hr:Room k callerA)
    (hY:∀ (w:World) (h:Heap),YP w h→(K w.params).In h) (hYt:∀ (w:World) (h:Heap),YP w h→∀ P∈ts,h.get? P=some (tabObj #[]))
    (hts:∀ (w:World),∀ P∈ts,(K w.params).lookup P=none∧∃ c,codeHdIn (K w.params) c P=true)
    (F:∀ (w:World) (mg:Str→Option Value) (fa:Addr) (h:Heap),(K w.params).In h→h.Ns mainGlobals mg→mg d.name=some (.ref fa) →
      ∃ fd:FuncData,(∀ (s:Shared) (u:Value),BindsTo s fd ⟨[u],[]⟩ [(x,u)]) ∧
        ∀ base:Heap,(K w.params).In base→base.Ns mainGlobals mg→BM mg base→FnOk l.prog w (K w.params) mg base (CX w) k fa fd [x] (sp w))
    (hsp:∀ (w:World) (H:Hp) (a:Addr) (ns:List Int),ns.length≤n→OnlyT ts H→(∀ P∈ts,H P=some (.tbl #[]))→SqL (K w.params) H a (ns.map V.int)→sp w [.ref a] H (fun v _=>v=.bl true) fun _ _ _=>False)
    (hCX:∀ (w:World) (H:Hp) (s:Shared) (e:Value) (s':Shared),CX w [] H s (fun _ _ _=>False) e s'→False) :
    PySem.W.WalkO q loose XP YP l.row.toRowW d [] (fun f vs=>PySem.call f vs):=by
  refine Att.attach_call hn hdf fun w s₀ s₁ mg mb fa o pm cd doc a vs ns G Y ho hd hcd hmg hobj hints hlen hg=>?_
  have KX:=hY w _ Y
  obtain ⟨fd,hb,hF⟩:=F w mg fa _ KX G.T.g hmg
  refine law_callT KX G.T.g G.T.b G.T.builtins G.T.nolimit hg hobj hints (Nat.le_trans hlen hn2) hr (hYt w _ Y) (fun P hP=>(hts w P hP).1) (fun P hP=>?_) G.T.bmain hF hb (fun H hO hT hS=>hsp w H a ns hlen hO hT hS) fun H e s'=>hCX w H s₁ e s'
  obtain ⟨c,hc⟩:=(hts w P hP).2
  obtain ⟨o,vs,file,tf,flags,tg,inF,text,tt,e1,e2,e3,e4,_⟩:=codeHd_of_K KX hc
  exact ⟨c,o,vs,e1,e2,e3,e4⟩
end L2
namespace L2
open PySem PySem.Spec PyProof.Rows
mutual
inductive Den (K:PySem.W.Frag) (H:Hp):V→PyData→Prop
  | non:Den K H .non .none
  | bl (b:Bool):Den K H (.bl b) (.bool b)
  | int (i:Int):Den K H (.int i) (.int i)
  | str (x:Str):Den K H (.str x) (.str x)
  | list {a:Addr} {xs:List V} {ds:List PyData}:SqL K H a xs→Dens K H xs ds→Den K H (.ref a) (.list ds)
  | tuple {a:Addr} {xs:List V} {ds:List PyData}:SqT K H a xs→Dens K H xs ds→Den K H (.ref a) (.tuple ds)
inductive Dens (K:PySem.W.Frag) (H:Hp):List V→List PyData→Prop
  | nil:Dens K H [] []
  | cons {v:V} {vs:List V} {d:PyData} {ds:List PyData}:Den K H v d→Dens K H vs ds→Dens K H (v :: vs) (d :: ds)
end
theorem Dens.length {K:PySem.W.Frag} {H:Hp}:∀ {vs:List V} {ds:List PyData},Dens K H vs ds→vs.length=ds.length
  | _,_,.nil=>rfl
  | _,_,.cons _ hs=>by rw [List.length_cons,List.length_cons,Dens.length hs]
theorem Dens.append {K:PySem.W.Frag} {H:Hp}:∀ {vs ws:List V} {ds es:List PyData},Dens K H vs ds→Dens K H ws es→Dens K H (vs++ws) (ds++es)
  | _,_,_,_,.nil,h=>h
  | _,_,_,_,.cons h hs,h'=>.cons h (Dens.append hs h')
theorem Dens.get {K:PySem.W.Frag} {H:Hp}:∀ {vs:List V} {ds:List PyData} {i:Nat} {d:PyData},Dens K H vs ds→ds[i]?=some d→∃ v,vs[i]?=some v∧Den K H v d
  | _,_,_,_,.nil,e=>by simp at e
  | _,_,0,_,.cons h _,e=>by simp at e;subst e;exact ⟨_,rfl,h⟩
  | _,_,i + 1,d,.cons _ hs,e=>by
    obtain ⟨v,h1,h2⟩:=Dens.get (i:=i) (d:=d) hs (by simpa using e)
    exact ⟨v,by simpa using h1,h2⟩
theorem Dens.get' {K:PySem.W.Frag} {H:Hp}:∀ {vs:List V} {ds:List PyData} {i:Nat} {v:V},Dens K H vs ds→vs[i]?=some v→∃ d,ds[i]?=some d∧Den K H v d
  | _,_,_,_,.nil,e=>by simp at e
  | _,_,0,_,.cons h _,e=>by simp at e;subst e;exact ⟨_,rfl,h⟩
  | _,_,i + 1,v,.cons _ hs,e=>by
    obtain ⟨d,h1,h2⟩:=Dens.get' (i:=i) (v:=v) hs (by simpa using e)
    exact ⟨d,by simpa using h1,h2⟩
theorem Dens.take {K:PySem.W.Frag} {H:Hp}:∀ {vs:List V} {ds:List PyData} (n:Nat),Dens K H vs ds→Dens K H (vs.take n) (ds.take n)
  | _,_,0,_=>.nil
  | _,_,_ + 1,.nil=>.nil
  | _,_,n + 1,.cons h hs=>.cons h (Dens.take n hs)
theorem Dens.set {K:PySem.W.Frag} {H:Hp} {v:V} {d:PyData} (h:Den K H v d):∀ {vs:List V} {ds:List PyData} (i:Nat),Dens K H vs ds→Dens K H (vs.set i v) (ds.set i d)
  | _,_,_,.nil=>.nil
  | _,_,0,.cons _ hs=>.cons h hs
  | _,_,i + 1,.cons q hs=>.cons q (Dens.set h i hs)
theorem Dens.ints {K:PySem.W.Frag} {H:Hp}:∀ (ns:List Int),Dens K H (ns.map V.int) (ns.map PyData.int)
  | []=>.nil
  | n :: ns=>.cons (.int n) (Dens.ints ns)
def dInts (ns:List Int):PyData:=.list (ns.map PyData.int)
theorem Den.ints {K:PySem.W.Frag} {H:Hp} {a:Addr} {ns:List Int} (h:SqL K H a (ns.map V.int)):Den K H (.ref a) (dInts ns):=.list h (Dens.ints ns)
theorem Dens.int_inv {K:PySem.W.Frag} {H:Hp}:∀ {vs:List V} {ns:List Int},Dens K H vs (ns.map PyData.int)→vs=ns.map V.int
  | _,[],.nil=>rfl
  | _,n :: ns,.cons h hs=>by
    cases h
    rw [Dens.int_inv hs];rfl
theorem Den.ints_inv {K:PySem.W.Frag} {H:Hp} {v:V} {ns:List Int} (h:Den K H v (dInts ns)):∃ a,v=.ref a∧SqL K H a (ns.map V.int):=by
  cases h with
  | list h hs=>exact ⟨_,rfl,by rw [← Dens.int_inv hs];exact h⟩
section
variable {X:Cx} {pins:List (Addr × Obj)} {σ:St} {H:Hp} {s:Shared}
mutual
theorem Den.reads (I:Inv X pins σ H s):∀ {v:V} {d:PyData} {u:Value},Den X.K H v d→RelV v u→∃ as,Reads s.heap u d as
  | _,_,_,.non,r=>by cases r;exact ⟨_,.none⟩
  | _,_,_,.bl b,r=>by cases r;exact ⟨_,.bool b⟩
  | _,_,_,.int i,r=>by obtain ⟨t,rfl⟩:=r;exact ⟨_,.int i t⟩
  | _,_,_,.str x,r=>by obtain ⟨t,rfl⟩:=r;exact ⟨_,.str x t⟩
  | _,_,_,.list h hs,r=>by
    cases r
    obtain ⟨its,r1,⟨o,n,e,c,_,d⟩,_⟩:=I.list h
    obtain ⟨as,q⟩:=Dens.reads I hs r1
    exact ⟨_,.list e c d (by simpa using q)⟩
  | _,_,_,.tuple h hs,r=>by
    cases r
    obtain ⟨its,r1,⟨o,e,c,n,d⟩,_⟩:=I.tuple h
    obtain ⟨as,q⟩:=Dens.reads I hs r1
    exact ⟨_,.tuple e c d (by simpa using q)⟩
theorem Dens.reads (I:Inv X pins σ H s):∀ {vs:List V} {ds:List PyData} {us:List Value},Dens X.K H vs ds→Vals vs us→∃ as,ReadsAll s.heap us ds as
  | _,_,_,.nil,r=>by cases r;exact ⟨_,.nil⟩
  | _,_,_,.cons h hs,r=>by
    cases r with
    | cons r1 r2 =>
      obtain ⟨as,q⟩:=Den.reads I h r1
      obtain ⟨bs,q'⟩:=Dens.reads I hs r2
      exact ⟨_,.cons q q'⟩
end
def rEqD (K:PySem.W.Frag) (neg:Bool):R2:=fun x y H Q=>∃ d e,Den K H x d∧Den K H y e∧SeqAt.shaped d=true∧SeqAt.shaped e=true∧Q (.bl (if neg then !PyData.eqv d e else PyData.eqv d e)) H
theorem op_eqD (hu:X.A.units + 64<cLine):OpR X (compareOp .Eq) (rEqD X.K false):=by
  intro pins s σ H x y v u Q I rx ry h
  obtain ⟨d,e,hd,he,sd,se,q⟩:=h
  obtain ⟨as,ra⟩:=hd.reads I rx
  obtain ⟨bs,rb⟩:=he.reads I ry
  exact SeqAt.compareEq_shaped ra rb sd se hu ⟨.bl _,H,I,rfl,q⟩
theorem op_neD (hu:X.A.units + 64<cLine):OpR X (compareOp .NotEq) (rEqD X.K true):=by
  intro pins s σ H x y v u Q I rx ry h
  obtain ⟨d,e,hd,he,sd,se,q⟩:=h
  obtain ⟨as,ra⟩:=hd.reads I rx
  obtain ⟨bs,rb⟩:=he.reads I ry
  exact SeqAt.compareNe_shaped ra rb sd se hu ⟨.bl _,H,I,rfl,q⟩
end
def Sh (n:Nat) (d:PyData):Prop:=d.canLay0=true∧d.depth≤n
theorem canAll:∀ {ds:List PyData},(∀ d∈ds,d.canLay0=true)→PyData.canLayAll0 ds=true
  | [],_=>rfl
  | d :: ds,h=>by rw [PyData.canLayAll0,h d List.mem_cons_self,canAll fun x hx=>h x (List.mem_cons_of_mem _ hx)];rfl
theorem depAll {n:Nat}:∀ {ds:List PyData},(∀ d∈ds,d.depth≤n)→PyData.depthAll ds≤n
  | [],_=>by simp [PyData.depthAll]
  | d :: ds,h=>by
    have h1:=h d List.mem_cons_self
    have h2:=depAll fun x hx=>h x (List.mem_cons_of_mem _ hx)
    simp only [PyData.depthAll]
    omega
theorem Sh.int (n:Nat) (i:Int):Sh n (.int i):=⟨rfl,by simp [PyData.depth]⟩
theorem Sh.list {n:Nat} {ds:List PyData} (h:∀ d∈ds,Sh n d):Sh (n + 1) (.list ds):=⟨by rw [PyData.canLay0];exact canAll fun d hd=>(h d hd).1,by
  have:=depAll fun d hd=>(h d hd).2
  simp only [PyData.depth];omega⟩
theorem Sh.tuple {n:Nat} {ds:List PyData} (h:∀ d∈ds,Sh n d):Sh (n + 1) (.tuple ds):=⟨by rw [PyData.canLay0];exact canAll fun d hd=>(h d hd).1,by
  have:=depAll fun d hd=>(h d hd).2
  simp only [PyData.depth];omega⟩
theorem Sh.ints (n:Nat) (ns:List Int):Sh (n + 1) (dInts ns):=.list fun d hd=>by
  obtain ⟨i,_,rfl⟩:=List.mem_map.mp hd
  exact .int n i
theorem Sh.ok {n:Nat} {d:PyData} (h:Sh n d) (hn:n≤64):SeqAt.shaped d=true:=by
  unfold SeqAt.shaped
  rw [h.1,decide_eq_true (by have:=h.2;omega)];rfl
theorem eqv_same {n:Nat} {d:PyData} (h:Sh n d):PyData.eqv d d=true:=SeqAt.eqv_refl d h.1
abbrev Tabs:=List (Addr × Pos × Str)
def TabsOk (T:Tabs) (H:Hp):Prop:=∀ t∈T,TabOk t.1 t.2.1 t.2.2 H
structure SameT (T:Tabs) (H H':Hp):Prop where
  t0:TabsOk T H
  t1:TabsOk T H'
  keep:∀ b o,H b=some o→(∀ ps,o≠.tbl ps)→H' b=some o
  tb:∀ b ps,H b=some (.tbl ps)→∃ ps',H' b=some (.tbl ps')
theorem TabsOk.nil (H:Hp):TabsOk [] H:=fun t ht=>nomatch ht
theorem TabsOk.mono {T:Tabs} {H H':Hp} (t:TabsOk T H) (s:Same H H'):TabsOk T H':=fun q hq=>by
  rcases t q hq with e | ⟨c,e1,e2⟩
  · exact .inl (s _ _ e)
  · exact .inr ⟨c,s _ _ e1,s _ _ e2⟩
theorem SameT.refl {T:Tabs} {H:Hp} (t:TabsOk T H):SameT T H H:=⟨t,t,fun _ _ h _=>h,fun _ ps h=>⟨ps,h⟩⟩
theorem SameT.of {T:Tabs} {H H':Hp} (t:TabsOk T H) (s:Same H H'):SameT T H H':=⟨t,t.mono s,fun b o h _=>s b o h,fun b ps h=>⟨ps,s _ _ h⟩⟩
theorem SameT.trans {T:Tabs} {H H1 H2:Hp} (a:SameT T H H1) (b:SameT T H1 H2):SameT T H H2:=⟨a.t0,b.t1,fun c o h n=>b.keep c o (a.keep c o h n) n,fun c ps h=>by
  obtain ⟨ps',e⟩:=a.tb c ps h
  exact b.tb c ps' e⟩
theorem SameT.free {T:Tabs} {H H':Hp} (a:SameT T H H') {l:Addr} (h:H' l=none):H l=none:=by
  cases q:H l with
  | none=>rfl
  | some o =>
    have key:(∃ ps,o=.tbl ps)∨∀ ps,o≠.tbl ps:=by
      cases o with
      | tbl ps=>exact .inl ⟨ps,rfl⟩
      | _=>exact .inr fun _ z=>by cases z
    rcases key with ⟨ps,rfl⟩ | n
    · obtain ⟨ps',e⟩:=a.tb l ps q
      rw [h] at e;cases e
    · have:=a.keep l o q n
      rw [h] at this;cases this
theorem SameT.seq {T:Tabs} {K:PySem.W.Frag} {H H':Hp} {a:Addr} {xs:List V} (e:SameT T H H') (h:SqL K H a xs):SqL K H' a xs:=by
  rcases h with (h | ⟨o,h⟩) | h
  · exact .inl (.inl (e.keep _ _ h fun _ z=>by cases z))
  · exact .inl (.inr ⟨o,e.keep _ _ h fun _ z=>by cases z⟩)
  · exact .inr h
theorem SameT.seqT {T:Tabs} {K:PySem.W.Frag} {H H':Hp} {a:Addr} {xs:List V} (e:SameT T H H') (h:SqT K H a xs):SqT K H' a xs:=by
  rcases h with (h | ⟨o,h⟩) | h
  · exact .inl (.inl (e.keep _ _ h fun _ z=>by cases z))
  · exact .inl (.inr ⟨o,e.keep _ _ h fun _ z=>by cases z⟩)
  · exact .inr h
mutual
theorem Den.monoT {T:Tabs} {K:PySem.W.Frag} {H H':Hp} (e:SameT T H H'):∀ {v:V} {d:PyData},Den K H v d→Den K H' v d
  | _,_,.non=>.non
  | _,_,.bl b=>.bl b
  | _,_,.int i=>.int i
  | _,_,.str x=>.str x
  | _,_,.list h hs=>.list (e.seq h) (Dens.monoT e hs)
  | _,_,.tuple h hs=>.tuple (e.seqT h) (Dens.monoT e hs)
theorem Dens.monoT {T:Tabs} {K:PySem.W.Frag} {H H':Hp} (e:SameT T H H'):∀ {vs:List V} {ds:List PyData},Dens K H vs ds→Dens K H' vs ds
  | _,_,.nil=>.nil
  | _,_,.cons h hs=>.cons (Den.monoT e h) (Dens.monoT e hs)
end
def RetLT (T:Tabs) (H:Hp) (P:List V→Prop) (Q:VK):Prop:=∀ (l:Addr) (H':Hp) (xs:List V),SameT T H H'→H l=none→H' l=some (.lst xs)→P xs→Q (.ref l) H'
def plainO:HO→Bool
  | .tbl _=>false
  | .ext _=>false
  | _=>true
structure Ow (T:Tabs) (H0 H:Hp) (L:List (Addr × HO)):Prop where
  same:SameT T H0 H
  new:∀ p∈L,H0 p.1=none
  at_:∀ p∈L,H p.1=some p.2
  pl:∀ p∈L,plainO p.2=true
  nd:(L.map (·.1)).Nodup
section
variable {T:Tabs} {H0 H1 H H':Hp} {L L':List (Addr × HO)} {a l:Addr} {o o':HO} {xs:List V}
theorem Ow.refl (t:TabsOk T H):Ow T H H []:=⟨SameT.refl t,(fun p hp=>nomatch hp),(fun p hp=>nomatch hp),(fun p hp=>nomatch hp),List.nodup_nil⟩
theorem Ow.refl0 (H:Hp):Ow [] H H []:=Ow.refl (TabsOk.nil H)
theorem Ow.get (O:Ow T H0 H L) (k:Nat) (h:L[k]?=some (a,o):=by rfl):H a=some o:=O.at_ _ (List.mem_of_getElem? h)
theorem Ow.fr (O:Ow T H0 H L) (k:Nat) (h:L[k]?=some (a,o):=by rfl):H0 a=none:=O.new _ (List.mem_of_getElem? h)
theorem Ow.sq {K:PySem.W.Frag} (O:Ow T H0 H L) (k:Nat) (h:L[k]?=some (a,.lst xs):=by rfl):SqL K H a xs:=SqL.of (O.get k h)
theorem Ow.sqT {K:PySem.W.Frag} (O:Ow T H0 H L) (k:Nat) (h:L[k]?=some (a,.tup xs):=by rfl):SqT K H a xs:=SqT.of (O.get k h)
theorem TabOk.upd {P:Addr} {pos:Pos} {q:Str} (t:TabOk P pos q H) (h:H a=none∨∃ o,H a=some o∧plainO o=true):TabOk P pos q (L2.upd H a o'):=by
  have ne:∀ b u,H b=some u→plainO u=false→b≠a:=fun b u e p z=>by
    subst z
    rcases h with h | ⟨o,h,ho⟩
    · rw [h] at e;cases e
    · rw [h] at e;cases e;rw [ho] at p;cases p
  rcases t with e | ⟨c,e1,e2⟩
  · exact .inl (by rw [upd_ne (ne _ _ e rfl)];exact e)
  · exact .inr ⟨c,by rw [upd_ne (ne _ _ e1 rfl)];exact e1,by rw [upd_ne (ne _ _ e2 rfl)];exact e2⟩
theorem SameT.upd (s:SameT T H0 H) (h:H0 a=none) (h':H a=none∨∃ o,H a=some o∧plainO o=true):SameT T H0 (L2.upd H a o') :=
  ⟨s.t0,fun t ht=>(s.t1 t ht).upd h',fun b u e n=>by rw [upd_ne (ne_of_none e h)];exact s.keep b u e n,fun b ps e=>by rw [upd_ne (ne_of_none e h)];exact s.tb b ps e⟩
theorem Ow.mk' (O:Ow T H0 H L) (h:H a=none) (ho:plainO o=true):Ow T H0 (upd H a o) ((a,o) :: L):=by
  have ne:∀ p∈L,p.1≠a:=fun p hp=>ne_of_none (O.at_ p hp) h
  have n0:H0 a=none:=O.same.free h
  refine ⟨O.same.upd n0 (.inl h),fun p hp=>?_,fun p hp=>?_,fun p hp=>?_,?_⟩
  · rcases List.mem_cons.mp hp with e | e
    · rw [e];exact n0
    · exact O.new p e
  · rcases List.mem_cons.mp hp with e | e
    · rw [e];exact upd_same
    · rw [upd_ne (ne p e)];exact O.at_ p e
  · rcases List.mem_cons.mp hp with e | e
    · rw [e];exact ho
    · exact O.pl p e
  · rw [List.map_cons,List.nodup_cons]
    refine ⟨fun hm=>?_,O.nd⟩
    obtain ⟨p,hp,e⟩:=List.mem_map.mp hm
    exact ne p hp e
theorem set_fst:∀ {L:List (Addr × HO)} {k:Nat} {a:Addr} {o o':HO},L[k]?=some (a,o)→(L.set k (a,o')).map (·.1)=L.map (·.1)
  | [],_,_,_,_,h=>by simp at h
  | p :: L,0,a,o,o',h=>by
    have:p=(a,o):=by simpa using h
    rw [this];rfl
  | p :: L,k + 1,a,o,o',h=>by
    rw [List.set_cons_succ,List.map_cons,List.map_cons,set_fst (L:=L) (k:=k) (o:=o) (by simpa using h)]
theorem Ow.put' (O:Ow T H0 H L) (k:Nat) (h:L[k]?=some (a,o)) (ho:plainO o'=true):Ow T H0 (upd H a o') (L.set k (a,o')):=by
  have hm0:=List.mem_of_getElem? h
  have n0:H0 a=none:=O.new _ hm0
  have hk:k<L.length:=(List.getElem?_eq_some_iff.mp h).1
  refine ⟨O.same.upd n0 (.inr ⟨o,O.at_ _ hm0,O.pl _ hm0⟩),fun p hp=>?_,fun p hp=>?_,fun p hp=>?_,by rw [set_fst h];exact O.nd⟩
  · rcases List.mem_or_eq_of_mem_set hp with e | e
    · exact O.new p e
    · rw [e];exact n0
  · obtain ⟨j,hj,e⟩:=List.getElem_of_mem hp
    by_cases hjk:j=k
    · subst hjk
      rw [List.getElem_set_self] at e
      rw [← e];exact upd_same
    · rw [List.getElem_set_ne (Ne.symm hjk)] at e
      have hj':j<L.length:=by rw [List.length_set] at hj;exact hj
      have hm:p∈L:=by rw [← e];exact List.getElem_mem hj'
      rw [upd_ne]
      · exact O.at_ p hm
      · intro z
        have e1:(L.map (·.1))[j]?=some p.1:=by rw [List.getElem?_map,List.getElem?_eq_getElem hj',e];rfl
        have e2:(L.map (·.1))[k]?=some a:=by rw [List.getElem?_map,h];rfl
        rw [z] at e1
        obtain ⟨a1,a2⟩:=List.getElem?_eq_some_iff.mp e1
        obtain ⟨b1,b2⟩:=List.getElem?_eq_some_iff.mp e2
        exact hjk ((List.getElem_inj O.nd).mp (a2.trans b2.symm))
  · rcases List.mem_or_eq_of_mem_set hp with e | e
    · exact O.pl p e
    · rw [e];exact ho
theorem plain_tbl {o:HO} (h:plainO o=true):∀ ps,o≠.tbl ps:=fun ps z=>by rw [z] at h;cases h
theorem Ow.callT (O:Ow T H0 H L) (s:SameT T H H'):Ow T H0 H' L:=⟨O.same.trans s,O.new,fun p hp=>s.keep _ _ (O.at_ p hp) (plain_tbl (O.pl p hp)),O.pl,O.nd⟩
theorem Ow.moreT (O:Ow T H0 H L) (s:SameT T H H') (n:H l=none) (h:H' l=some o) (ho:plainO o=true):Ow T H0 H' ((l,o) :: L):=by
  have O2:=O.callT s
  refine ⟨O2.same,fun p hp=>?_,fun p hp=>?_,fun p hp=>?_,?_⟩
  · rcases List.mem_cons.mp hp with e | e
    · rw [e];exact O.same.free n
    · exact O.new p e
  · rcases List.mem_cons.mp hp with e | e
    · rw [e];exact h
    · exact O2.at_ p e
  · rcases List.mem_cons.mp hp with e | e
    · rw [e];exact ho
    · exact O.pl p e
  · rw [List.map_cons,List.nodup_cons]
    refine ⟨fun hm=>?_,O.nd⟩
    obtain ⟨p,hp,e⟩:=List.mem_map.mp hm
    exact ne_of_none (O.at_ p hp) n e
theorem Ow.more (O:Ow T H0 H L) (s:Same H H') (n:H l=none) (h:H' l=some o) (ho:plainO o=true):Ow T H0 H' ((l,o) :: L):=O.moreT (SameT.of O.same.t1 s) n h ho
theorem Ow.sub (O:Ow T H0 H L) (h:L'.Sublist L):Ow T H0 H L':=⟨O.same,fun p hp=>O.new p (h.subset hp),fun p hp=>O.at_ p (h.subset hp),fun p hp=>O.pl p (h.subset hp),O.nd.sublist (h.map _)⟩
theorem Ow.perm (O:Ow T H0 H L) (h:L'.Perm L):Ow T H0 H L':=⟨O.same,fun p hp=>O.new p (h.mem_iff.mp hp),fun p hp=>O.at_ p (h.mem_iff.mp hp),fun p hp=>O.pl p (h.mem_iff.mp hp),(h.map _).nodup_iff.mpr O.nd⟩
theorem Ow.tail {p:Addr × HO} (O:Ow T H0 H (p :: L)):Ow T H0 H L:=O.sub (List.sublist_cons_self _ _)
theorem Ow.two {p q:Addr × HO} (O:Ow T H0 H (p :: q :: L)):Ow T H0 H (p :: L):=O.sub ((List.sublist_cons_self _ _).cons₂ _)
theorem Ow.base (O:Ow T H0 H L) (s:SameT T H1 H0):Ow T H1 H L:=⟨s.trans O.same,fun p hp=>s.free (O.new p hp),O.at_,O.pl,O.nd⟩
theorem Ow.reb (O:Ow T H0 H L):∃ H1,Ow T H1 H L∧SameT T H0 H1∧∀ b o,H b=some o→(∀ p∈L,p.1≠b)→H1 b=some o:=by
  have keep:∀ b u,H b=some u→(∀ p∈L,p.1≠b)→(fun b=>if b∈L.map (·.1) then none else H b:Hp) b=some u:=fun b u e h=>by
    show (if b∈L.map (·.1) then none else H b)=some u
    rw [if_neg fun hm=>?_];· exact e
    obtain ⟨p,hp,z⟩:=List.mem_map.mp hm
    exact h p hp z
  have back:∀ b u,(fun b=>if b∈L.map (·.1) then none else H b:Hp) b=some u→H b=some u:=fun b u e=>by
    dsimp only at e
    split at e
    · cases e
    · exact e
  have npl:∀ b u,H b=some u→plainO u=false→∀ p∈L,p.1≠b:=fun b u e h p hp z=>by
    have:=O.at_ p hp
    rw [z,e] at this
    have e':u=p.2:=Option.some.inj this
    rw [e',O.pl p hp] at h;cases h
  have tk:TabsOk T (fun b=>if b∈L.map (·.1) then none else H b):=fun t ht=>by
    rcases O.same.t1 t ht with e | ⟨c,e1,e2⟩
    · exact .inl (keep _ _ e (npl _ _ e rfl))
    · exact .inr ⟨c,keep _ _ e1 (npl _ _ e1 rfl),keep _ _ e2 (npl _ _ e2 rfl)⟩
  refine ⟨fun b=>if b∈L.map (·.1) then none else H b,⟨⟨tk,O.same.t1,fun b u e _=>back b u e,fun b ps e=>⟨ps,back _ _ e⟩⟩,fun p hp=>?_,O.at_,O.pl,O.nd⟩,⟨O.same.t0,tk,fun b u e n=>?_,fun b ps e=>?_⟩,keep⟩
  · exact if_pos (List.mem_map.mpr ⟨p,hp,rfl⟩)
  · refine keep b u (O.same.keep b u e n) fun p hp z=>?_
    rw [← z,O.new p hp] at e;cases e
  · obtain ⟨ps',e'⟩:=O.same.tb b ps e
    exact ⟨ps',keep _ _ e' (npl _ _ e' rfl)⟩
theorem ow_set {i:Int} {j:Nat} {v:V} {Q:Hp→Prop} (O:Ow T H0 H L) (k:Nat) (h:L[k]?=some (l,.lst xs)) (hi:ixN xs.length i=some j) (q:∀ H',Ow T H0 H' (L.set k (l,.lst (xs.set j v)))→Q H'):rSetL (.ref l) (.int i) v H Q :=
  ⟨l,xs,i,j,rfl,rfl,O.get k h,hi,q _ (O.put' k h rfl)⟩
theorem Ow.ret {P:List V→Prop} {Q:VK} (O:Ow T H0 H L) (k:Nat) (h:L[k]?=some (l,.lst xs)) (q:RetLT T H0 P Q) (p:P xs):Q (.ref l) H:=q l H xs O.same (O.fr k h) (O.get k h) p
theorem Ow.got {P:List V→Prop} {Q:VK} (O:Ow T H0 H L) (k:∀ l H' xs,Ow T H0 H' ((l,.lst xs) :: L)→P xs→Q (.ref l) H'):RetL H P Q:=fun l H' xs s n h p=>k l H' xs (O.more s n h rfl) p
theorem Ow.gotT {P:List V→Prop} {Q:VK} (O:Ow T H0 H L) (k:∀ l H' xs,Ow T H0 H' ((l,.lst xs) :: L)→P xs→Q (.ref l) H'):RetLT T H P Q:=fun l H' xs s n h p=>k l H' xs (O.moreT s n h rfl) p
end
end L2
namespace L2
open PySem PySem.W PySem.Spec PyProof.Rows
theorem szl {n:Nat} (h:Nat.ble n 100000=true:=by rfl):n≤sizeLine:=small100 (Nat.le_of_ble_eq_true h)
theorem in_ints (p:Int) (ns:List Int):inV (.int p) (ns.map V.int)=decide (p∈ns):=by
  unfold inV
  rw [List.any_map,Bool.eq_iff_iff]
  simp only [List.any_eq_true,decide_eq_true_eq]
  constructor
  · rintro ⟨x,hx,e⟩
    have e':(x == p)=true:=e
    have:x=p:=by simpa using e'
    rw [← this];exact hx
  · intro h
    exact ⟨p,h,show (p == p)=true by simp⟩
theorem flat_ints (ns:List Int):(ns.map V.int).all flatV=true:=by
  rw [List.all_map,List.all_eq_true];intro _ _;rfl
theorem Fun.okC {P:Program} {w:World} {K:PySem.W.Frag} {mg:Str→Option Value} {base:Heap} {x qual:Str} {st:Stmt} {f:Addr} {fd:FuncData} {N ps:List Str} {k:Nat} {sp:Sp} {c:Value} (F:Fun K x qual st f fd) (hc:fd.code=c) (S:FnScope N ps (defScope st)) (len:∀ vs H Q E,sp vs H Q E→vs.length=ps.length)
    (hbody:∀ (A:Around) (outer:List Env) (s:Shared) (H:Hp) (vs:List V) (Q:VK) (E:XK),Room k (A.deeper (envOfC qual (defScope st) s.heap.objs.size f c))→sp vs H Q E →
      ∃ t,PSs (cxOf CX0 P w K mg base N qual (defScope st) f c A outer s H E).nox (defBody st) t∧t { nx:=fun _ H'=>Q .non H',rt:=Q } (start N vs) H):FnOk P w K mg base CX0 (k + 1) f fd ps sp:=by
  obtain ⟨oc,od,kV,doc,pm,an,cdv,ct,osl,rfl,lk,hcd⟩:=F.ex
  have e:cdv=c:=hc
  subst e
  refine fn_of lk hcd S len fun A outer s H vs Q E hr hsp=>?_
  obtain ⟨t,h,q⟩:=hbody A outer s H vs Q E hr hsp
  exact ⟨t,h.nox,q⟩
theorem lam_room {k:Nat} {A XA:Around} {env:Env} (r:Room (k + 2) XA) (hh:A.handled=none) (hd:A.depth≤XA.depth + 2) (hu:A.units≤XA.units + 2):Room k (A.deeper env) :=
  ⟨hh,by have:=r.dp;show A.depth + 1 + 3 * k + 5<_;omega,by have:=r.un;show A.units + 3 + 16 * k + 200<_;omega⟩
theorem lam_deep {A:Around} (r:Room 1 A):A.depth + 4<recursionLimit:=by have:=r.dp;omega
theorem SameT.tab {T:Tabs} {H H2:Hp} {P:Addr} {pos:Pos} {q:Str} (t:TabsOk T H) (hm:(P,pos,q)∈T) (nd:(T.map (·.1)).Nodup) (k1:∀ b o,H b=some o→b≠P→H2 b=some o) (t2:TabOk P pos q H2):SameT T H H2:=by
  have hP:∃ ps,H P=some (.tbl ps):=by
    rcases t _ hm with e | ⟨c,e,_⟩
    · exact ⟨_,e⟩
    · exact ⟨_,e⟩
  obtain ⟨ps0,hP⟩:=hP
  have hP2:∃ ps,H2 P=some (.tbl ps):=by
    rcases t2 with e | ⟨c,e,_⟩
    · exact ⟨_,e⟩
    · exact ⟨_,e⟩
  refine ⟨t,fun u hu=>?_,fun b o e n=>k1 b o e fun z=>?_,fun b ps e=>?_⟩
  · by_cases hb:u.1=P
    · have:u=(P,pos,q):=by
        obtain ⟨i,hi,ei⟩:=List.getElem_of_mem hu
        obtain ⟨j,hj,ej⟩:=List.getElem_of_mem hm
        have e1:(T.map (·.1))[i]?=some P:=by rw [List.getElem?_map,List.getElem?_eq_getElem hi,ei,← hb];rfl
        have e2:(T.map (·.1))[j]?=some P:=by rw [List.getElem?_map,List.getElem?_eq_getElem hj,ej];rfl
        obtain ⟨a1,a2⟩:=List.getElem?_eq_some_iff.mp e1
        obtain ⟨b1,b2⟩:=List.getElem?_eq_some_iff.mp e2
        have hij:i=j:=(List.getElem_inj nd).mp (a2.trans b2.symm)
        subst hij
        rw [← ei,← ej]
      rw [this];exact t2
    · rcases t u hu with e | ⟨c,e1,e2⟩
      · exact .inl (k1 _ _ e hb)
      · exact .inr ⟨c,k1 _ _ e1 hb,k1 _ _ e2 fun z=>by rw [z,hP] at e2;cases e2⟩
  · subst z
    rw [hP] at e;cases e
    exact n ps0 rfl
  · by_cases hb:b=P
    · rw [hb];exact hP2
    · exact ⟨ps,k1 _ _ e hb⟩
section
variable {X:Cx}
theorem call_sum (hc:X.calm=true):CallR X (.builtin "sum") (fun xs H Q=>∃ (p:Addr) (ns:List Int),xs=[.ref p]∧SqL X.K H p (ns.map V.int)∧Q (.int ns.sum) H):=by
  intro pins s σ H xs us Q I r h
  obtain ⟨p,ns,rfl,hq,q⟩:=h
  obtain ⟨u,rfl,ru⟩:=vals1 r
  cases ru
  obtain ⟨its,r1,p1,hz⟩:=I.list hq
  have hi:IntsAre its ns:=intsAre_of r1
  obtain ⟨ys,hx⟩:=hi.allInts.items
  have hl':s.heap.IsList p (intItems ys):=hx ▸ p1.isList
  refine sum_intListG (I.ok.hd hc) hl' fun h' tk t' hk=>?_
  have e1:ns=ys.toList.map (·.1):=by
    rw [← nums_intItems,← hx]
    exact (show numsOf its.toArray.toList=ns from hi.numsOf).symm
  have e2:preSum (numAt ys) ys.size=ns.sum:=by
    rw [preSum_eq,List.take_of_length_le (by simp),e1]
  rw [e2]
  exact ⟨.int ns.sum,H,I.kept hk,⟨t',rfl⟩,q⟩
theorem eqvAll_ints:∀ ns ms:List Int,PyData.eqvAll (ns.map PyData.int) (ms.map PyData.int)=decide (ns=ms)
  | [],[]=>by simp [PyData.eqvAll]
  | [],_ :: _=>by simp [PyData.eqvAll]
  | _ :: _,[]=>by simp [PyData.eqvAll]
  | n :: ns,m :: ms=>by
    rw [List.map_cons,List.map_cons,PyData.eqvAll,eqvAll_ints ns ms]
    have e:PyData.eqv (.int n) (.int m)=decide (n=m):=by
      rw [PyData.eqv];rfl
    rw [e,Bool.eq_iff_iff]
    simp
theorem eqv_ints (ns ms:List Int):PyData.eqv (dInts ns) (dInts ms)=decide (ns=ms):=by
  unfold dInts
  rw [PyData.eqv];exact eqvAll_ints ns ms
theorem op_eqI (hu:X.A.units + 64<cLine):OpR X (compareOp .Eq) (rEqL X.K false):=by
  intro pins s σ H x y v u Q I rx ry h
  obtain ⟨a,b,ns,ms,rfl,rfl,ha,hb,q⟩:=h
  refine op_eqD hu pins s σ H _ _ v u Q I rx ry ⟨_,_,Den.ints ha,Den.ints hb,(Sh.ints 0 ns).ok (by decide),(Sh.ints 0 ms).ok (by decide),?_⟩
  rw [eqv_ints];exact q
theorem op_neI (hu:X.A.units + 64<cLine):OpR X (compareOp .NotEq) (rEqL X.K true):=by
  intro pins s σ H x y v u Q I rx ry h
  obtain ⟨a,b,ns,ms,rfl,rfl,ha,hb,q⟩:=h
  refine op_neD hu pins s σ H _ _ v u Q I rx ry ⟨_,_,Den.ints ha,Den.ints hb,(Sh.ints 0 ns).ok (by decide),(Sh.ints 0 ms).ok (by decide),?_⟩
  rw [eqv_ints];exact q
def rIndex (K:PySem.W.Frag):V→List V→Hp→VK→Prop:=fun x vs H Q=>∃ (l:Addr) (ns:List Int) (k:Int),x=.ref l∧vs=[.int k]∧SqL K H l (ns.map V.int)∧k∈ns∧Q (.int (ns.idxOf k:Nat)) H
theorem mt_index:MtR X "list.index" (rIndex X.K):=by
  intro pins s σ H x vs v us Q I rx rv h
  obtain ⟨l,ns,k,rfl,rfl,hq,hk,q⟩:=h
  cases rx
  obtain ⟨u,rfl,t,rfl⟩:=vals1 rv
  obtain ⟨its,r1,p1,hz⟩:=I.list hq
  have hi:IntsAre its ns:=intsAre_of r1
  obtain ⟨⟨cls,dd,data,sl⟩,ho,hc,n,hd⟩:=id p1.isList
  simp only at hc hd
  subst hc hd
  have hlen:=hi.length
  have hj:ns.idxOf k<ns.length:=List.idxOf_lt_length_iff.mpr hk
  have hn:=line63
  rw [List.length_map] at hz
  refine call_meets PySem.F.slot_list_index ⟨_,ho,rfl⟩ PySem.F.entry_list_index (PySem.F.args_list_index_2 _ _)
    (SeqAt.list_indexAt l its.toArray n dd sl (.int k t) (isInt k) (ns.idxOf k) (by simpa [hlen] using hj) (by omega) ?_ ?_) ⟨ho,fun y hy=>(eq_isInt k t hi y (by simpa using hy)).at _ _,?_⟩
  · show isInt k its[ns.idxOf k]=true
    rw [isInt_at k hi _ (by omega) hj]
    simpa using List.getElem_idxOf hj
  · intro j hjs hlt
    show isInt k its[j]=false
    rw [isInt_at k hi j (by simpa using hjs) (by omega)]
    exact ne_of_lt_idxOf hlt _
  · exact ⟨.int (ns.idxOf k:Nat),H,I.tok _,⟨_,rfl⟩,q⟩
end
def RetTT (T:Tabs) (H:Hp) (P:List V→Prop) (Q:VK):Prop:=∀ (l:Addr) (H':Hp) (xs:List V),SameT T H H'→H l=none→H' l=some (.tup xs)→P xs→Q (.ref l) H'
section
variable {T:Tabs} {H0 H:Hp} {L:List (Addr × HO)} {l:Addr} {xs:List V}
theorem Ow.retT {P:List V→Prop} {Q:VK} (O:Ow T H0 H L) (k:Nat) (h:L[k]?=some (l,.tup xs)) (q:RetTT T H0 P Q) (p:P xs):Q (.ref l) H:=q l H xs O.same (O.fr k h) (O.get k h) p
theorem Ow.gotTT {P:List V→Prop} {Q:VK} (O:Ow T H0 H L) (k:∀ l H' xs,Ow T H0 H' ((l,.tup xs) :: L)→P xs→Q (.ref l) H'):RetTT T H P Q:=fun l H' xs s n h p=>k l H' xs (O.moreT s n h rfl) p
theorem Ow.mkE {a:Addr} {o:HO} {H':Hp} (O:Ow T H0 H L) (h:H a=none) (e:upd H a o=H') (ho:plainO o=true):Ow T H0 H' ((a,o) :: L):=e ▸ O.mk' h ho
theorem Ow.putE {a:Addr} {o o':HO} {H':Hp} (O:Ow T H0 H L) (k:Nat) (h:L[k]?=some (a,o)) (e:upd H a o'=H') (ho:plainO o'=true):Ow T H0 H' (L.set k (a,o')):=e ▸ O.put' k h ho
end
def dMv (m:Int × Int × Int):PyData:=.tuple [.int m.1,.int m.2.1,.int m.2.2]
def dMvs (ms:List (Int × Int × Int)):PyData:=.list (ms.map dMv)
theorem Den.mv_inv {K:PySem.W.Frag} {H:Hp} {v:V} {m:Int × Int × Int} (h:Den K H v (dMv m)):∃ a,v=.ref a∧SqT K H a [.int m.1,.int m.2.1,.int m.2.2]:=by
  cases h with
  | tuple h hs =>
    have e:=Dens.int_inv (ns:=[m.1,m.2.1,m.2.2]) hs
    exact ⟨_,rfl,by rw [e] at h;exact h⟩
theorem Den.mv {K:PySem.W.Frag} {H:Hp} {a:Addr} {m:Int × Int × Int} (h:SqT K H a [.int m.1,.int m.2.1,.int m.2.2]):Den K H (.ref a) (dMv m):=.tuple h (.cons (.int _) (.cons (.int _) (.cons (.int _) .nil)))
theorem Den.mvs_inv {K:PySem.W.Frag} {H:Hp} {v:V} {ms:List (Int × Int × Int)} (h:Den K H v (dMvs ms)):∃ a xs,v=.ref a∧SqL K H a xs∧Dens K H xs (ms.map dMv):=by
  cases h with
  | list h hs=>exact ⟨_,_,rfl,h,hs⟩
theorem Sh.mv (n:Nat) (m:Int × Int × Int):Sh (n + 1) (dMv m):=.tuple fun d hd=>by
  simp at hd
  rcases hd with e | e | e <;> (rw [e];exact .int _ _)
theorem Sh.mvs (n:Nat) (ms:List (Int × Int × Int)):Sh (n + 2) (dMvs ms):=.list fun d hd=>by
  obtain ⟨m,_,rfl⟩:=List.mem_map.mp hd
  exact .mv n m
end L2
namespace L2
open PySem PySem.W PySem.Spec PySem.Calls PyProof.Rows PySem.Builtin PySem.Builtin.ObjectAttr PySem.Builtin.Getset_descriptor
section
variable {prog:Program} {w:World} {A:Around} {E:Value→Shared→Prop} {K:Frag} {e D:Addr} {hh:Heap} {g:Array GenState} {d:Drawn} {t:Nat} {os:OsState}
end
end L2
namespace L2
open PySem PySem.W PySem.Spec PySem.Calls PyProof.Rows
section
variable {P:Program} {w:World} {B h0 h h2:Heap} {fs:List Addr} {H H':Hp}
end
section
variable {X:Cx} {pins:List (Addr × Obj)} {σ:St} {H:Hp} {s:Shared} {E:XK}
end
section
variable {P:Program} {w:World} {K:PySem.W.Frag} {mg:Str→Option Value} {base:Heap} {N:List Str} {qual:Str} {scope:Scope} {f:Addr} {cd:Value} {A:Around} {outer:List Env} {s:Shared} {H:Hp} {E:XK}
end
end L2
namespace L2
open PySem PySem.W PySem.Spec PySem.Calls PyProof.Rows
abbrev bmVE:List Value:=[.type "ValueError",.type "Exception",.type "BaseException",.type "object"]
section
variable {X:Cx} {E:XK} {x:Str} {C:Addr} {np cpos pos:Pos} {e0:Expr} {ta:TA}
end
end L2
namespace L2
open PySem PySem.W PySem.Spec PySem.Calls PyProof.Rows
abbrev TX:=Ends→(St→XK)→St→Hp→Prop
section
variable {X:Cx} {k:Nat} {f:Addr} {fd:FuncData} {ps:List Str} {sp:Sp} {dvs:List V} {ds:List Value} {x:Str} {p pos:Pos} {e:Expr} {es:List Expr} {t:TA}
end
section
variable {X:Cx} {pins:List (Addr × Obj)} {σ:St} {H:Hp} {s:Shared}
end
end L2
namespace L2
open PySem PySem.W PySem.Spec PySem.Calls PyProof.Rows
section
variable {X:Cx} {body suite:List Stmt} {b0:Stmt} {x n:Str} {Ba:Addr} {i:Nat} {tb:TX} {th:TS} {np hpos pos:Pos}
end
end L2
namespace L2
open PySem PySem.Spec PyProof.Rows
section
variable {X:Cx}
theorem vals_below {n:Nat} {acc:Array Value} (hacc:ItemsOf (fun i v=>∃ t,v=.int (0 + (i:Nat) * 1) t) acc n):Vals (below0 n) acc.toList:=by
  have hsz:acc.toList.length=n:=by rw [Array.length_toList];exact hacc.1
  have key:∀ (k:Nat) (l:List Value),l.length=k→(∀ (j:Nat) (v:Value),l[j]?=some v→∃ t,v=.int ((n - k + j:Nat):Int) t)→k≤n→Vals ((List.range' (n - k) k).map fun (i:Nat)=>V.int (i:Int)) l:=by
    intro k
    induction k with
    | zero =>
      intro l hl _ _
      have:l=[]:=List.length_eq_zero_iff.mp hl
      subst this
      exact .nil
    | succ k ih =>
      intro l hl hP hk
      match l,hl with
      | v :: l,hl =>
        have hl':l.length=k:=by simpa using hl
        rw [List.range'_succ,List.map_cons]
        obtain ⟨t,ht⟩:=hP 0 v rfl
        refine .cons ⟨t,?_⟩ ?_
        · rw [ht];rfl
        · have e:n - (k + 1) + 1=n - k:=by omega
          rw [e]
          refine ih l hl' (fun j v' e'=>?_) (by omega)
          obtain ⟨t',ht'⟩:=hP (j + 1) v' (by simpa using e')
          exact ⟨t',by rw [ht'];congr 2;omega⟩
  have:=key n acc.toList hsz (fun j v e=>by
    obtain ⟨t,ht⟩:=hacc.2 j v (by simpa using e)
    refine ⟨t,?_⟩
    rw [ht]
    congr 1
    omega) (Nat.le_refl _)
  rw [Nat.sub_self,← List.range_eq_range'] at this
  exact this
def tListRange (ta:TA):TE:=fun σ H Q=>ta σ H fun vs H1=>∃ n:Nat,vs=[.int (n:Int)]∧n<64∧∀ l,H1 l=none→Q (.ref l) (upd H1 l (.lst (below0 n)))
theorem pe_listRange {e:Expr} {ta:TA} {p1 p2 p3 pos:Pos} (hcalm:X.calm=true) (hgs:Gl X "list") (hms:X.mg "list"=none) (hgr:Gl X "range") (hmr:X.mg "range"=none) (ha:PA X [e] ta) (hs:starEach [e] X.env=[(false,eval e X.env)]:=by rfl) :
    PE X (.Call (.Name "list" p1) [.Call (.Name "range" p2) [e] [] p3] [] pos) (tListRange ta):=by
  intro pins s σ H Q I h
  refine Call_ (ld_blt I hgs hms boot_list (PyProof.Rows.callWith_type1 ?_ rfl rfl))
  show wpAny _ _ (spliced ((false,eval (.Call (.Name "range" p2) [e] [] p3) X.env) :: [])) _ _ s
  refine Calls.spliced_cons (Call_ (ld_blt I hgr hmr boot_range (PyProof.Rows.callWith_type1 (thn (ha p3 pins s σ H _ I h) fun us s1 ⟨vs,H1,I1,r1,q1⟩=>?_) hs rfl)))
  obtain ⟨n,e1,hn,q⟩:=q1
  subst e1
  obtain ⟨u,rfl,t,rfl⟩:=vals1 r1
  refine call_range_1 ?_
  refine Calls.spliced_nil ?_
  have hrs:Builtin.Range.rangeSize 0 (n:Int) 1=(n:Nat):=by rw [rangeSize_one];split <;> omega
  generalize hro:({ cls:=.type "range",data:=.fields #[.int 0 s1.toks,.int (n:Int) t,.int 1 (s1.toks + 1)] }:Obj)=ro
  have I2:Inv X pins σ H1 { s1 with heap:=s1.heap.push ro,toks:=s1.toks + 1 + 1 }:=I1.kept fun b o e=>Heap.get?_push_of_some _ e
  have hR:IsRange (s1.heap.push ro) s1.heap.objs.size 0 (n:Int) 1 s1.toks t (s1.toks + 1):=by
    rw [← hro];exact Heap.get?_push_size _ rfl
  refine call_list_range (I.ok.hd hcalm) hR (small_one (by omega) (by omega) (by omega) (by omega)) hrs (by omega) fun h' tk acc c hk hS hacc=>?_
  exact ⟨.ref (s1.heap.push ro).objs.size,_,I2.laid (t':=tk) hk (Nat.le_refl _) (show ObjOk X.prog X.w _ h' _ (.lst (below0 n)) from ⟨by unfold below0;rw [List.length_map,List.length_range,sizeLine_eq];omega,acc.toList,c,vals_below hacc,by simpa using hS⟩),rfl,q _ (I2.hok.fresh (Nat.le_refl _))⟩
theorem Inv.turnedL {pins:List (Addr × Obj)} {σ:St} {H:Hp} {s:Shared} {h':Heap} {t':Nat} {ch:List Addr} (I:Inv X pins σ H s) (k:∀ b o,b ∉ ch→s.heap.get? b=some o→h'.get? b=some o) (f:∀ b∈ch,FpOk X pins H b):Inv X pins σ H { s with heap:=h',toks:=t' }:=by
  have nit:∀ b u,H b=some u→b ∉ ch:=fun b u e z=>by rw [(f b z).1] at e;cases e
  refine I.step (g':=s.gens) (d':=s.drawn) (ch:=ch) (fun b hb=>?_) (fun b o _ _ hc e _=>k b o hc e) (fun b o _ _ hc e _=>⟨o.slots,k b o hc e⟩) (fun _ _ _ _ n=>n)
    (fun b o hc e=>⟨o,k b o hc e⟩) (fun _ _ e=>e) (fun _ _ _ e=>e) (fun b ps e=>⟨#[],by rw [e];simp⟩) (fun m hm=>?_) (fun b u e=>?_) I.bare
  · obtain ⟨f0,f1,f2,f3,f4,f5⟩:=f b hb
    exact ⟨f3,f1,f4,f5⟩
  · obtain ⟨o,es,ep,ho,r⟩:=hm
    exact ⟨o,es,ep,k _ o (fun z=>(f _ z).2.1 rfl) ho,r⟩
  · refine (I.hok b u e).stay (fun c v hc q=>k c v ?_ q) (fun _ q=>q) fun _ _ q=>q
    rcases hc with z | z
    · rw [z];exact nit b u e
    · exact nit c _ z
def Itz (K:PySem.W.Frag) (l1 l2:Addr) (xs ys:List V):It :=
  ⟨fun i H=>SqL K H l1 xs∧SqL K H l2 ys∧i<xs.length∧i<ys.length,fun i H x H'=>∃ T a b,x=.ref T∧H T=none∧xs[i]?=some a∧ys[i]?=some b∧H'=upd H T (.tup [a,b]),
   fun i H=>SqL K H l1 xs∧SqL K H l2 ys∧(xs.length≤i∨ys.length≤i)⟩
def ZipAt (z TI TO i1 i2 l1 l2:Addr) (i:Nat) (h:Heap):Prop:=IsZip h z TI TO .none∧IsPair h TI (.ref i1) (.ref i2)∧(∃ a b,IsPair h TO a b)∧h.IsListIter i1 l1 i∧h.IsListIter i2 l2 i
theorem turn_zip {P:Program} {w:World} {K:PySem.W.Frag} {elts:List Expr} {kk:Nat} {tpos:Pos} {z TI TO i1 i2 l1 l2:Addr} {xs ys:List V} (D:ZipApart z TI TO i1 i2 l1 l2) :
    Turn P w K (.Tuple elts kk tpos) (Itz K l1 l2 xs ys) [z,TI,TO,i1,i2] z (ZipAt z TI TO i1 i2 l1 l2) where
  mem:=by simp
  obj:=fun i h st b hb=>by
    obtain ⟨hz,hTI,⟨a,b',hTO⟩,⟨o1,e1,c1,d1⟩,⟨o2,e2,c2,d2⟩⟩:=st
    simp at hb
    rcases hb with rfl | rfl | rfl | rfl | rfl
    · exact ⟨_,hz,fun v z=>by cases (show Data.fields _=Data.cell v from z)⟩
    · exact ⟨_,hTI,fun v z=>by cases (show Data.seq _ _=Data.cell v from z)⟩
    · exact ⟨_,hTO,fun v z=>by cases (show Data.seq _ _=Data.cell v from z)⟩
    · exact ⟨o1,e1,fun v z=>by rw [d1] at z;cases z⟩
    · exact ⟨o2,e2,fun v z=>by rw [d2] at z;cases z⟩
  keep:=fun i h h' st k=>by
    obtain ⟨hz,hTI,⟨a,b,hTO⟩,h1,h2⟩:=st
    exact ⟨k z (by simp) _ hz,k TI (by simp) _ hTI,⟨a,b,k TO (by simp) _ hTO⟩,h1.at fun o e=>k i1 (by simp) o e,h2.at fun o e=>k i2 (by simp) o e⟩
  item:=by
    intro X hP hw hK hc i pins s σ H E I hf st hg
    subst hP hw hK
    obtain ⟨hz,hTI,⟨p,p',hTO⟩,h1,h2⟩:=st
    obtain ⟨hq1,hq2,hi1,hi2⟩:=hg
    obtain ⟨its1,rv1,pl1,hz1⟩:=I.list hq1
    obtain ⟨its2,rv2,pl2,hz2⟩:=I.list hq2
    obtain ⟨u1,hu1,ru1⟩:=rv1.get (List.getElem?_eq_getElem hi1)
    obtain ⟨u2,hu2,ru2⟩:=rv2.get (List.getElem?_eq_getElem hi2)
    refine wpAny_pyNext_zip_item D hz hTI hTO h1 h2 pl1.isList pl2.isList (x:=u1) (y:=u2) (by simpa using hu1) (by simpa using hu2) fun h' a1 a2 a3 a4 a5 a6 hk=>?_
    have lt:∀ {c o},s.heap.get? c=some o→s.heap.objs.size≠c:=fun e=>Nat.ne_of_gt (Heap.lt_size e)
    refine ⟨.ref s.heap.objs.size,rfl,wpAny_letOwnedTupleGo_zip (s:={ s with heap:=h' }) a1 fun h'' hz' hs'=>?_⟩
    have Tz:s.heap.objs.size≠z:=lt hz
    have sub:∀ b∈([z,TO,i1,i2]:List Addr),b∈([z,TI,TO,i1,i2]:List Addr):=fun b hb=>by
      simp at hb ⊢
      rcases hb with rfl | rfl | rfl | rfl <;> simp
    have I1:Inv X pins σ H { s with heap:=h'' }:=I.turnedL (t':=s.toks) (ch:=[z,TO,i1,i2])
      (fun b o hb e=>hs'.extBut b o (fun x=>hb (by simp [x])) (hk b o (fun x=>hb (by simp [x])) (fun x=>hb (by simp [x])) (fun x=>hb (by simp [x])) (fun x=>hb (by simp [x])) e)) fun b hb=>hf b (sub b hb)
    have F:=I.fpOk (H':=H) (Nat.le_refl _) (I.hok.fresh (Nat.le_refl _))
    obtain ⟨F0,F1,F2,F3,F4,F5⟩:=F
    have hT:IsTup h'' s.heap.objs.size #[u1,u2]:=⟨_,hs'.extBut _ _ Tz a5,rfl,_,rfl⟩
    have I2:Inv X pins σ (upd H s.heap.objs.size (.tup [xs[i],ys[i]])) { s with heap:=h'' }:=I1.adopt F0 F1 I.sz F4 F5 (show ObjOk X.prog X.w _ h'' _ (.tup [xs[i],ys[i]]) from ⟨by rw [sizeLine_eq];simp,[u1,u2],.cons ru1 (.cons ru2 .nil),hT⟩)
    refine ⟨.ref s.heap.objs.size,_,I2,rfl,⟨_,_,_,rfl,F0,List.getElem?_eq_getElem hi1,List.getElem?_eq_getElem hi2,rfl⟩,?_,fun b hb=>?_⟩
    · exact ⟨hz',hs'.extBut _ _ D.TIz (hk _ _ D.TIz D.TITO D.TIi1 D.TIi2 hTI),⟨_,_,hs'.extBut _ _ D.TOz a2⟩,a3.extBut hs'.extBut D.i1z,a4.extBut hs'.extBut D.i2z⟩
    · rw [upd_ne]
      · exact (hf b hb).1
      · simp at hb
        obtain ⟨o1,e1,_⟩:=h1
        obtain ⟨o2,e2,_⟩:=h2
        rcases hb with rfl | rfl | rfl | rfl | rfl
        · exact (lt hz).symm
        · exact (lt hTI).symm
        · exact (lt hTO).symm
        · exact (lt e1).symm
        · exact (lt e2).symm
  done:=by
    intro X hP hw hK hc i pins s σ H E I hf st hg
    subst hP hw hK
    obtain ⟨hz,hTI,⟨p,p',hTO⟩,h1,h2⟩:=st
    obtain ⟨hq1,hq2,hend⟩:=hg
    obtain ⟨its1,rv1,pl1,hz1⟩:=I.list hq1
    obtain ⟨its2,rv2,pl2,hz2⟩:=I.list hq2
    have e1:=rv1.length
    have e2:=rv2.length
    have sub:∀ b∈([z,TO,i1,i2]:List Addr),b∈([z,TI,TO,i1,i2]:List Addr):=fun b hb=>by
      simp at hb ⊢
      rcases hb with rfl | rfl | rfl | rfl <;> simp
    refine wpAny_pyNext_zip_end (I.ok.hd hc) D hz hTI hTO h1 h2 pl1.isList pl2.isList ?_ fun h' hk=>⟨rfl,I.turnedL (t':=s.toks) (ch:=[z,TO,i1,i2])
      (fun b o hb e=>hk b o (fun x=>hb (by simp [x])) (fun x=>hb (by simp [x])) (fun x=>hb (by simp [x])) (fun x=>hb (by simp [x])) e) fun b hb=>hf b (sub b hb)⟩
    rcases hend with h | h
    · exact .inl (by simp;omega)
    · exact .inr (by simp;omega)
  self:=fun _ _ _ _ _ st h=>wpAny_pyIter_zip st.1 h
def iZip (K:PySem.W.Frag) (ta:TA):TI:=fun σ H R=>ta σ H fun vs H1=>∃ l1 l2 xs ys,vs=[.ref l1,.ref l2]∧SqL K H1 l1 xs∧SqL K H1 l2 ys∧R (Itz K l1 l2 xs ys) H1
theorem pi_zip {elts:List Expr} {kk:Nat} {tpos:Pos} {a b:Expr} {ta:TA} {p pos:Pos} (hg:Gl X "zip") (hm:X.mg "zip"=none) (ha:PA X [a,b] ta) (hs:starEach [a,b] X.env=[(false,eval a X.env),(false,eval b X.env)]:=by rfl) (hs2:starEach [b] X.env=[(false,eval b X.env)]:=by rfl) :
    PI X (.Tuple elts kk tpos) (.Call (.Name "zip" p) [a,b] [] pos) (iZip X.K ta):=by
  intro pins s σ H R I h
  refine Call_ (ld_blt I hg hm boot_zip (PyProof.Rows.callWith_type1 (thn (ha pos pins s σ H _ I h) fun us s1 ⟨vs,H1,I1,r1,q1⟩=>?_) (by rw [hs,hs2]) (by rw [hs2];rfl)))
  obtain ⟨l1,l2,xs,ys,e,hq1,hq2,q⟩:=q1
  subst e
  cases r1 with
  | cons r rr =>
    cases rr with
    | cons r' rr =>
      cases rr
      cases r
      cases r'
      obtain ⟨its1,rv1,pl1,hz1⟩:=I1.list hq1
      obtain ⟨its2,rv2,pl2,hz2⟩:=I1.list hq2
      refine call_zip_2 pl1.isList pl2.isList fun h' a1 a2 a3 a4 a5 a6 hk=>?_
      refine wpAny_pyIter_zip a1 ?_
      have b1:l1<s1.heap.objs.size:=by obtain ⟨o,e,_⟩:=pl1.isList;exact Heap.lt_size e
      have b2:l2<s1.heap.objs.size:=by obtain ⟨o,e,_⟩:=pl2.isList;exact Heap.lt_size e
      refine ⟨_,_,_,_,H1,rfl,I1.kept (t':=s1.toks) hk,turn_zip (l1:=l1) (l2:=l2) (xs:=xs) (ys:=ys) (TI:=s1.heap.objs.size + 2) (TO:=s1.heap.objs.size + 3) (i1:=s1.heap.objs.size) (i2:=s1.heap.objs.size + 1) ?_,⟨a1,a2,⟨_,_,a3⟩,a4,a5⟩,fun b hb=>?_,q⟩
      · constructor <;> exact fun z=>by simp only [Addr] at z b1 b2;omega
      · have hb':s1.heap.objs.size≤b:=by
          simp at hb
          rcases hb with rfl | rfl | rfl | rfl | rfl <;> simp
        exact I1.fpOk hb' (I1.hok.fresh hb')
theorem for_zip {K:PySem.W.Frag} {l1 l2:Addr} {xs ys:List V} {g:TG} {tb:TS} {D:Ends} {σ:St} {H:Hp} (Pv:Nat→St→Hp→Prop) (hxy:xs.length=ys.length) (h0:Pv 0 σ H) (hl:∀ i σ H,i≤xs.length→Pv i σ H→SqL K H l1 xs∧SqL K H l2 ys)
    (hs:∀ i a b T σ H,xs[i]?=some a→ys[i]?=some b→Pv i σ H→H T=none→g (.ref T) σ (upd H T (.tup [a,b])) fun σ2 H2=>tb { D with nx:=Pv (i + 1),ct:=Pv (i + 1),bk:=D.nx } σ2 H2) (hd:∀ σ H,Pv xs.length σ H→D.nx σ H) :
    ∃ W:Nat→Nat→St→Hp→Prop,(∃ m,W 0 m σ H)∧∀ i m σ H,W i m σ H →
      ((Itz K l1 l2 xs ys).stop i H∧D.nx σ H)∨((Itz K l1 l2 xs ys).go i H∧∃ N:St→Hp→Prop,(∀ σ' H',N σ' H'→∃ m',m'<m∧W (i + 1) m' σ' H')∧∀ x H',(Itz K l1 l2 xs ys).yld i H x H'→g x σ H' fun σ2 H2=>tb { D with nx:=N,ct:=N,bk:=D.nx } σ2 H2):=by
  refine ⟨fun i m σ H=>m=xs.length - i∧i≤xs.length∧Pv i σ H,⟨xs.length,by simp,Nat.zero_le _,h0⟩,?_⟩
  rintro i m σ H ⟨rfl,hi,p⟩
  obtain ⟨q1,q2⟩:=hl i σ H hi p
  by_cases hlt:i<xs.length
  · refine .inr ⟨⟨q1,q2,hlt,by omega⟩,Pv (i + 1),fun σ' H' p'=>⟨xs.length - (i + 1),by omega,rfl,hlt,p'⟩,fun x H' y=>?_⟩
    obtain ⟨T,a,b,rfl,hT,ha,hb,rfl⟩:=y
    exact hs i a b T σ _ ha hb p hT
  · have e:i=xs.length:=by omega
    subst e
    exact .inl ⟨⟨q1,q2,.inl (Nat.le_refl _)⟩,hd σ H p⟩
end
end L2
namespace L2
open PySem PySem.Spec PyProof.Rows
section
variable {X:Cx}
def Ite (K:PySem.W.Frag) (l:Addr) (xs:List V):It :=
  ⟨fun i H=>SqL K H l xs∧i<xs.length,fun i H x H'=>∃ T a,x=.ref T∧H T=none∧xs[i]?=some a∧H'=upd H T (.tup [.int (i:Int),a]),fun i H=>SqL K H l xs∧xs.length≤i⟩
def EnumAt (e it l:Addr) (i:Nat) (h:Heap):Prop:=(∃ old,IsEnum h e it i old)∧h.IsListIter it l i
theorem turn_enum {P:Program} {w:World} {K:PySem.W.Frag} {elts:List Expr} {kk:Nat} {tpos:Pos} {e it l:Addr} {xs:List V} (hei:e≠it) :
    Turn P w K (.Tuple elts kk tpos) (Ite K l xs) [e,it] e (EnumAt e it l) where
  mem:=by simp
  obj:=fun i h st b hb=>by
    obtain ⟨⟨old,he⟩,⟨o1,e1,c1,d1⟩⟩:=st
    simp at hb
    rcases hb with rfl | rfl
    · exact ⟨_,he,fun v z=>by cases (show Data.fields _=Data.cell v from z)⟩
    · exact ⟨o1,e1,fun v z=>by rw [d1] at z;cases z⟩
  keep:=fun i h h' st k=>by
    obtain ⟨⟨old,he⟩,h1⟩:=st
    exact ⟨⟨old,k e (by simp) _ he⟩,h1.at fun o x=>k it (by simp) o x⟩
  item:=by
    intro X hP hw hK hc i pins s σ H E I hf st hg
    subst hP hw hK
    obtain ⟨⟨old,he⟩,h1⟩:=st
    obtain ⟨hq1,hi1⟩:=hg
    obtain ⟨its1,rv1,pl1,hz1⟩:=I.list hq1
    obtain ⟨u1,hu1,ru1⟩:=rv1.get (List.getElem?_eq_getElem hi1)
    refine wpAny_pyNext_enum_item he h1 pl1.isList (x:=u1) (by simpa using hu1) hei fun h' a1 a2 a3 a4 hk=>?_
    have lt:∀ {c o},s.heap.get? c=some o→s.heap.objs.size≠c:=fun e=>Nat.ne_of_gt (Heap.lt_size e)
    refine ⟨.ref s.heap.objs.size,rfl,wpAny_letOwnedTupleGo_enum (s:={ s with heap:=h',toks:=s.toks + 1 }) a1 fun h'' hz' hs'=>?_⟩
    have Tz:s.heap.objs.size≠e:=lt he
    have I1:Inv X pins σ H { s with heap:=h'',toks:=s.toks + 1 }:=I.turnedL (ch:=[e,it])
      (fun b o hb x=>hs'.extBut b o (fun z=>hb (by simp [z])) (hk b o (fun z=>hb (by simp [z])) (fun z=>hb (by simp [z])) x)) fun b hb=>hf b hb
    obtain ⟨F0,F1,F2,F3,F4,F5⟩:=I.fpOk (H':=H) (Nat.le_refl _) (I.hok.fresh (Nat.le_refl _))
    have hT:IsTup h'' s.heap.objs.size #[.int (i:Int) s.toks,u1]:=⟨_,hs'.extBut _ _ Tz a3,rfl,_,rfl⟩
    have I2:Inv X pins σ (upd H s.heap.objs.size (.tup [.int (i:Int),xs[i]])) { s with heap:=h'',toks:=s.toks + 1 }:=I1.adopt F0 F1 I.sz F4 F5 (show ObjOk X.prog X.w _ h'' _ (.tup [.int (i:Int),xs[i]]) from ⟨by rw [sizeLine_eq];simp,[.int (i:Int) s.toks,u1],.cons ⟨_,rfl⟩ (.cons ru1 .nil),hT⟩)
    refine ⟨.ref s.heap.objs.size,_,I2,rfl,⟨_,_,rfl,F0,List.getElem?_eq_getElem hi1,rfl⟩,?_,fun b hb=>?_⟩
    · exact ⟨⟨_,by simpa using hz'⟩,a2.extBut hs'.extBut hei.symm⟩
    · rw [upd_ne]
      · exact (hf b hb).1
      · simp at hb
        obtain ⟨o1,e1,_⟩:=h1
        rcases hb with rfl | rfl
        · exact (lt he).symm
        · exact (lt e1).symm
  done:=by
    intro X hP hw hK hc i pins s σ H E I hf st hg
    subst hP hw hK
    obtain ⟨⟨old,he⟩,h1⟩:=st
    obtain ⟨hq1,hend⟩:=hg
    obtain ⟨its1,rv1,pl1,hz1⟩:=I.list hq1
    have e1:=rv1.length
    exact wpAny_pyNext_enum_end (I.ok.hd hc) he h1 pl1.isList (by simp;omega) fun h' hk=>⟨rfl,I.turnedL (t':=s.toks) (ch:=[e,it])
      (fun b o hb x=>hk b o (fun z=>hb (by simp [z])) x) fun b hb=>hf b hb⟩
  self:=fun _ _ _ _ _ st h=>by
    obtain ⟨⟨old,he⟩,_⟩:=st
    exact wpAny_pyIter_enum he h
def iEnum (K:PySem.W.Frag) (ta:TA):TI:=fun σ H R=>ta σ H fun vs H1=>∃ l xs,vs=[.ref l]∧SqL K H1 l xs∧R (Ite K l xs) H1
theorem pi_enum {elts:List Expr} {kk:Nat} {tpos:Pos} {a:Expr} {ta:TA} {p pos:Pos} (hg:Gl X "enumerate") (hm:X.mg "enumerate"=none) (ha:PA X [a] ta) (hs:starEach [a] X.env=[(false,eval a X.env)]:=by rfl) :
    PI X (.Tuple elts kk tpos) (.Call (.Name "enumerate" p) [a] [] pos) (iEnum X.K ta):=by
  intro pins s σ H R I h
  refine Call_ (ld_blt I hg hm boot_enumerate (PyProof.Rows.callWith_type1 (thn (ha pos pins s σ H _ I h) fun us s1 ⟨vs,H1,I1,r1,q1⟩=>?_) hs rfl))
  obtain ⟨l1,xs,e,hq1,q⟩:=q1
  subst e
  obtain ⟨u,rfl,ru⟩:=vals1 r1
  cases ru
  obtain ⟨its1,rv1,pl1,hz1⟩:=I1.list hq1
  refine call_enumerate_list pl1.isList fun h' a1 a2 a3 hk=>?_
  refine wpAny_pyIter_enum a1 ?_
  refine ⟨_,_,_,_,H1,rfl,I1.kept (t':=s1.toks) hk,turn_enum (l:=l1) (xs:=xs) (it:=s1.heap.objs.size) (Nat.succ_ne_self _),⟨⟨_,a1⟩,a2⟩,fun b hb=>?_,q⟩
  have hb':s1.heap.objs.size≤b:=by
    simp at hb
    rcases hb with rfl | rfl <;> simp
  exact I1.fpOk hb' (I1.hok.fresh hb')
theorem for_enum {K:PySem.W.Frag} {l:Addr} {xs:List V} {g:TG} {tb:TS} {D:Ends} {σ:St} {H:Hp} (Pv:Nat→St→Hp→Prop) (h0:Pv 0 σ H) (hl:∀ i σ H,i≤xs.length→Pv i σ H→SqL K H l xs)
    (hs:∀ i a T σ H,xs[i]?=some a→Pv i σ H→H T=none→g (.ref T) σ (upd H T (.tup [.int (i:Int),a])) fun σ2 H2=>tb { D with nx:=Pv (i + 1),ct:=Pv (i + 1),bk:=D.nx } σ2 H2) (hd:∀ σ H,Pv xs.length σ H→D.nx σ H) :
    ∃ W:Nat→Nat→St→Hp→Prop,(∃ m,W 0 m σ H)∧∀ i m σ H,W i m σ H →
      ((Ite K l xs).stop i H∧D.nx σ H)∨((Ite K l xs).go i H∧∃ N:St→Hp→Prop,(∀ σ' H',N σ' H'→∃ m',m'<m∧W (i + 1) m' σ' H')∧∀ x H',(Ite K l xs).yld i H x H'→g x σ H' fun σ2 H2=>tb { D with nx:=N,ct:=N,bk:=D.nx } σ2 H2):=by
  refine ⟨fun i m σ H=>m=xs.length - i∧i≤xs.length∧Pv i σ H,⟨xs.length,by simp,Nat.zero_le _,h0⟩,?_⟩
  rintro i m σ H ⟨rfl,hi,p⟩
  have q1:=hl i σ H hi p
  by_cases hlt:i<xs.length
  · refine .inr ⟨⟨q1,hlt⟩,Pv (i + 1),fun σ' H' p'=>⟨xs.length - (i + 1),by omega,rfl,hlt,p'⟩,fun x H' y=>?_⟩
    obtain ⟨T,a,rfl,hT,ha,rfl⟩:=y
    exact hs i a T σ _ ha p hT
  · have e:i=xs.length:=by omega
    subst e
    exact .inl ⟨⟨q1,Nat.le_refl _⟩,hd σ H p⟩
theorem comp_enum {K:PySem.W.Frag} {a:Addr} {xs:List V} {acc:Addr} {g:TG} {tc:TT} {te:TE} {τ:St} {H1:Hp} {Q:Hp→Prop} (Pv:Nat→St→Hp→Prop) (h0:Pv 0 τ (upd H1 acc (.lst []))) (hl:∀ i τ H,i≤xs.length→Pv i τ H→SqL K H a xs)
    (hs:∀ i x T τ H,xs[i]?=some x→Pv i τ H→H T=none→g (.ref T) τ (upd H T (.tup [.int (i:Int),x])) fun τ4 H4=>tc τ4 H4 fun b H5=>if b=true then te τ4 H5 fun y H6=>∃ ys,H6 acc=some (.lst ys)∧ys.length<sizeLine∧Pv (i + 1) τ4 (upd H6 acc (.lst (ys++[y]))) else Pv (i + 1) τ4 H5)
    (hd:∀ τ H,Pv xs.length τ H→Q H):tTurns (Ite K a xs) acc g tc te τ H1 Q:=by
  refine ⟨fun i m τ H=>m=xs.length - i∧i≤xs.length∧Pv i τ H,⟨xs.length,by simp,Nat.zero_le _,h0⟩,?_⟩
  rintro i m τ H ⟨rfl,hi,p⟩
  have q:=hl i τ H hi p
  by_cases hlt:i<xs.length
  · refine .inr ⟨⟨q,hlt⟩,Pv (i + 1),fun τ' H' p'=>⟨xs.length - (i + 1),by omega,rfl,hlt,p'⟩,fun x H' y=>?_⟩
    obtain ⟨T,b,rfl,hT,hb,rfl⟩:=y
    exact hs i b T τ _ hb p hT
  · have e:i=xs.length:=by omega
    subst e
    exact .inl ⟨⟨q,Nat.le_refl _⟩,hd τ H p⟩
theorem comp_zip {K:PySem.W.Frag} {l1 l2:Addr} {xs ys:List V} {acc:Addr} {g:TG} {tc:TT} {te:TE} {τ:St} {H1:Hp} {Q:Hp→Prop} (Pv:Nat→St→Hp→Prop) (hxy:xs.length=ys.length) (h0:Pv 0 τ (upd H1 acc (.lst []))) (hl:∀ i τ H,i≤xs.length→Pv i τ H→SqL K H l1 xs∧SqL K H l2 ys)
    (hs:∀ i x y T τ H,xs[i]?=some x→ys[i]?=some y→Pv i τ H→H T=none→g (.ref T) τ (upd H T (.tup [x,y])) fun τ4 H4=>tc τ4 H4 fun b H5=>if b=true then te τ4 H5 fun y H6=>∃ ys,H6 acc=some (.lst ys)∧ys.length<sizeLine∧Pv (i + 1) τ4 (upd H6 acc (.lst (ys++[y]))) else Pv (i + 1) τ4 H5)
    (hd:∀ τ H,Pv xs.length τ H→Q H):tTurns (Itz K l1 l2 xs ys) acc g tc te τ H1 Q:=by
  refine ⟨fun i m τ H=>m=xs.length - i∧i≤xs.length∧Pv i τ H,⟨xs.length,by simp,Nat.zero_le _,h0⟩,?_⟩
  rintro i m τ H ⟨rfl,hi,p⟩
  obtain ⟨q1,q2⟩:=hl i τ H hi p
  by_cases hlt:i<xs.length
  · refine .inr ⟨⟨q1,q2,hlt,by omega⟩,Pv (i + 1),fun τ' H' p'=>⟨xs.length - (i + 1),by omega,rfl,hlt,p'⟩,fun x H' y=>?_⟩
    obtain ⟨T,b,c,rfl,hT,hb,hc,rfl⟩:=y
    exact hs i b c T τ _ hb hc p hT
  · have e:i=xs.length:=by omega
    subst e
    exact .inl ⟨⟨q1,q2,.inl (Nat.le_refl _)⟩,hd τ H p⟩
end
end L2
namespace L2
open PySem PySem.Spec PyProof.Rows
structure Iv (P:Prop):Prop where
  t:True
  p:P
theorem ifT {c:Bool} {A B:Prop} (h:c=true) (a:A):if c=true then A else B:=by rw [if_pos h];exact a
theorem ifF {c:Bool} {A B:Prop} (h:c=false) (b:B):if c=true then A else B:=by rw [if_neg (by rw [h];exact Bool.false_ne_true)];exact b
theorem ifB {c:Bool} {A B:Prop} (h1:c=true→A) (h2:c=false→B):if c=true then A else B:=by
  cases c with
  | true=>exact ifT rfl (h1 rfl)
  | false=>exact ifF rfl (h2 rfl)
theorem deq_int (x y:Int):decide (V.int x=V.int y)=decide (x=y):=by
  by_cases h:x=y
  · simp [h]
  · have:¬ V.int x=V.int y:=fun e=>h (by cases e;rfl)
    simp [h,this]
theorem ints_atZ {ns:List Int} {i:Int} (h0:0≤i) (h1:i<(ns.length:Int)):atI (ns.map V.int) i=some (V.int (ns.getD i.toNat 0)):=by
  refine ints_atI h0 ?_
  rw [List.getD_eq_getElem?_getD,List.getElem?_eq_getElem (by omega)];rfl
theorem getD_mem' {ns:List Int} {k:Nat} (h:k<ns.length):ns.getD k 0∈ns:=by
  rw [List.getD_eq_getElem?_getD,List.getElem?_eq_getElem h];exact List.getElem_mem h
theorem getD_get? {ns:List Int} {k:Nat} (h:k<ns.length):ns[k]?=some (ns.getD k 0):=by
  rw [List.getD_eq_getElem?_getD,List.getElem?_eq_getElem h];rfl
theorem ixN_Z {n:Nat} {i:Int} (h0:0≤i) (h1:i<(n:Int)):ixN n i=some i.toNat:=by
  unfold ixN;rw [if_pos h0,if_pos h1]
theorem Dens.mo {T:Tabs} {K:PySem.W.Frag} {H H':Hp} {vs:List V} {ds:List PyData} (h:Dens K H vs ds) (e:SameT T H H'):Dens K H' vs ds:=Dens.monoT e h
theorem SqL.mo {T:Tabs} {K:PySem.W.Frag} {H H':Hp} {a:Addr} {xs:List V} (h:SqL K H a xs) (e:SameT T H H'):SqL K H' a xs:=e.seq h
theorem SqT.mo {T:Tabs} {K:PySem.W.Frag} {H H':Hp} {a:Addr} {xs:List V} (h:SqT K H a xs) (e:SameT T H H'):SqT K H' a xs:=e.seqT h
section
variable {T:Tabs} {H0 H1 H H':Hp} {L L':List (Addr × HO)} {a l p:Addr} {o o':HO} {xs:List V} {K:PySem.W.Frag}
theorem Ow.frz (O:Ow T H0 H ((p,o) :: L)):∃ Hn,Ow T Hn H L∧SameT T H0 Hn∧Hn p=some o:=by
  obtain ⟨Hn,On,sn,kn⟩:=O.tail.reb
  refine ⟨Hn,On,sn,kn p o (O.get 0) fun q hq z=>?_⟩
  have nd:=O.nd
  rw [List.map_cons,List.nodup_cons] at nd
  exact nd.1 (List.mem_map.mpr ⟨q,hq,z⟩)
theorem Ow.join (O:Ow T H0 H L) (O':Ow T H H' L'):Ow T H0 H' (L'++L):=by
  have keep:∀ q∈L,H' q.1=some q.2:=fun q hq=>(O.callT O'.same).at_ q hq
  refine ⟨O.same.trans O'.same,fun q hq=>?_,fun q hq=>?_,fun q hq=>?_,?_⟩
  · rcases List.mem_append.mp hq with h | h
    · exact O.same.free (O'.new q h)
    · exact O.new q h
  · rcases List.mem_append.mp hq with h | h
    · exact O'.at_ q h
    · exact keep q h
  · rcases List.mem_append.mp hq with h | h
    · exact O'.pl q h
    · exact O.pl q h
  · rw [List.map_append,List.nodup_append]
    refine ⟨O'.nd,O.nd,fun x hx y hy z=>?_⟩
    obtain ⟨q,hq,rfl⟩:=List.mem_map.mp hx
    obtain ⟨r,hr,rfl⟩:=List.mem_map.mp hy
    have:=O'.new q hq
    rw [z,O.at_ r hr] at this
    cases this
end
def dTup (ns:List Int):PyData:=.tuple (ns.map PyData.int)
def dIntss (rs:List (List Int)):PyData:=.list (rs.map dInts)
section
variable {K:PySem.W.Frag} {H:Hp} {v:V} {a:Addr} {ns:List Int} {rs:List (List Int)}
theorem Den.tup (h:SqT K H a (ns.map V.int)):Den K H (.ref a) (dTup ns):=.tuple h (Dens.ints ns)
theorem Den.tup_inv (h:Den K H v (dTup ns)):∃ a,v=.ref a∧SqT K H a (ns.map V.int):=by
  cases h with
  | tuple h hs=>exact ⟨_,rfl,by rw [← Dens.int_inv hs];exact h⟩
theorem Den.list_inv {ds:List PyData} (h:Den K H v (.list ds)):∃ a xs,v=.ref a∧SqL K H a xs∧Dens K H xs ds:=by
  cases h with
  | list h hs=>exact ⟨_,_,rfl,h,hs⟩
theorem Sh.tup (n:Nat) (ns:List Int):Sh (n + 1) (dTup ns):=.tuple fun d hd=>by
  obtain ⟨i,_,rfl⟩:=List.mem_map.mp hd
  exact .int n i
end
end L2
namespace L2
open PySem PySem.Spec PyProof.Rows
section
variable {A B:Prop}
theorem ifD {p:Prop} [Decidable p] (h1:p→A) (h2:¬ p→B):if decide p=true then A else B:=ifB (fun h=>h1 (of_decide_eq_true h)) fun h=>h2 (of_decide_eq_false h)
theorem ifI {x y:Int} (h1:x=y→A) (h2:¬ x=y→B):if decide (V.int x=V.int y)=true then A else B:=by rw [deq_int];exact ifD h1 h2
theorem ifN {c:Bool} (h:if c=true then B else A):if (!c)=true then A else B:=by cases c <;> simpa using h
end
structure Lic where
  day:Int
  start:Int
  back:Int
  most:Int
def dLic (l:Lic):PyData:=dTup [l.day,l.start,l.back,l.most]
def dRoll (ls:List Lic):PyData:=.list (ls.map dLic)
abbrev vLic (l:Lic):List V:=[.int l.day,.int l.start,.int l.back,.int l.most]
section
variable {K:PySem.W.Frag} {H:Hp} {v:V} {a:Addr} {ls:List Lic} {l:Lic} {xs:List V} {k:Nat}
theorem Den.lic (h:SqT K H a (vLic l)):Den K H (.ref a) (dLic l):=Den.tup (ns:=[l.day,l.start,l.back,l.most]) h
theorem Den.lic_inv (h:Den K H v (dLic l)):∃ a,v=.ref a∧SqT K H a (vLic l):=h.tup_inv
theorem Dens.lic_at (h:Dens K H xs (ls.map dLic)) (hk:ls[k]?=some l):∃ a,xs[k]?=some (.ref a)∧SqT K H a (vLic l):=by
  obtain ⟨v,h1,h2⟩:=h.get (i:=k) (d:=dLic l) (by rw [List.getElem?_map,hk];rfl)
  obtain ⟨a,rfl,hT⟩:=h2.lic_inv
  exact ⟨a,h1,hT⟩
theorem Dens.lic_get (h:Dens K H xs (ls.map dLic)) (hx:xs[k]?=some v):∃ a l,v=.ref a∧ls[k]?=some l∧SqT K H a (vLic l):=by
  obtain ⟨d,h1,h2⟩:=h.get' hx
  rw [List.getElem?_map] at h1
  cases e:ls[k]? with
  | none=>rw [e] at h1;cases h1
  | some l =>
    rw [e] at h1
    cases h1
    obtain ⟨a,rfl,hT⟩:=h2.lic_inv
    exact ⟨a,l,rfl,rfl,hT⟩
theorem Sh.lic (n:Nat) (l:Lic):Sh (n + 1) (dLic l):=Sh.tup n _
theorem Sh.roll (n:Nat) (ls:List Lic):Sh (n + 2) (dRoll ls):=.list fun d hd=>by
  obtain ⟨i,_,rfl⟩:=List.mem_map.mp hd
  exact .lic n i
end
theorem cut_nat (xs:List V) (i j:Nat):cutV xs (some (i:Int)) (some (j:Int))=(xs.drop i).take (j - i):=by
  unfold cutV
  rw [HT.sIx_nat,HT.sIx_nat]
  refine List.ext_getElem? fun k=>?_
  simp only [List.getElem?_take,List.getElem?_drop]
  by_cases h1:k<j - i
  · rw [if_pos h1]
    by_cases h2:i + k<xs.length
    · rw [if_pos (by omega),show min i xs.length=i by omega]
    · rw [List.getElem?_eq_none (l:=xs) (i:=i + k) (by omega)]
      split
      · exact List.getElem?_eq_none (by omega)
      · rfl
  · rw [if_neg h1]
    split
    · rename_i h3
      omega
    · rfl
theorem cut_ns (ns:List Int) (i j:Nat):cutV (ns.map V.int) (some (i:Int)) (some (j:Int))=((ns.drop i).take (j - i)).map V.int:=by
  rw [cut_nat,List.map_take,List.map_drop]
theorem cut_drop (ns:List Int) (i:Nat):cutV (ns.map V.int) (some (i:Int)) none=(ns.drop i).map V.int:=by
  unfold cutV
  rw [HT.sIx_nat,List.length_map,show HT.sIx ns.length ns.length none=ns.length from rfl,List.map_drop]
  by_cases h:i≤ns.length
  · rw [Nat.min_eq_left h,List.take_of_length_le (by rw [List.length_drop,List.length_map];omega)]
  · rw [Nat.min_eq_right (by omega),List.drop_of_length_le (l:=ns.map V.int) (i:=i) (by rw [List.length_map];omega),Nat.sub_self,List.take_zero]
end L2
namespace L2
open PySem PySem.Spec PyProof.Rows
theorem Ow.lend {T:Tabs} {H0 H:Hp} {A B:List (Addr × HO)} (O:Ow T H0 H (A++B)):∃ H1,Ow T H1 H A∧SameT T H0 H1∧(∀ p∈B,H1 p.1=some p.2)∧∀ (H':Hp) (A':List (Addr × HO)),Ow T H1 H' A'→Ow T H0 H' (A'++B):=by
  have OA:Ow T H0 H A:=O.sub (List.sublist_append_left A B)
  have OB:Ow T H0 H B:=O.sub (List.sublist_append_right A B)
  obtain ⟨H1,O1,s1,k1⟩:=OA.reb
  have nd:=O.nd
  rw [List.map_append,List.nodup_append] at nd
  have hB:∀ p∈B,H1 p.1=some p.2:=fun p hp=>k1 p.1 p.2 (OB.at_ p hp) fun q hq z=>nd.2.2 q.1 (List.mem_map.mpr ⟨q,hq,rfl⟩) p.1 (List.mem_map.mpr ⟨p,hp,rfl⟩) z
  refine ⟨H1,O1,s1,hB,fun H' A' O'=>?_⟩
  refine ⟨s1.trans O'.same,fun p hp=>?_,fun p hp=>?_,fun p hp=>?_,?_⟩
  · rcases List.mem_append.mp hp with h | h
    · exact s1.free (O'.new p h)
    · exact OB.new p h
  · rcases List.mem_append.mp hp with h | h
    · exact O'.at_ p h
    · refine O'.same.keep _ _ (hB p h) fun ps z=>?_
      have:=OB.pl p h
      rw [z] at this;cases this
  · rcases List.mem_append.mp hp with h | h
    · exact O'.pl p h
    · exact OB.pl p h
  · rw [List.map_append,List.nodup_append]
    refine ⟨O'.nd,OB.nd,fun x hx y hy z=>?_⟩
    obtain ⟨q,hq,rfl⟩:=List.mem_map.mp hx
    obtain ⟨r,hr,rfl⟩:=List.mem_map.mp hy
    have e:=O'.new q hq
    rw [z,hB r hr] at e
    cases e
end L2
namespace L2
open PySem PySem.Spec PyProof.Rows
theorem pg_tupK {X:Cx} {K:PySem.W.Frag} {pos:Pos} {es:List Expr} {k:Nat} {t:TGs} {n:Nat} (hK:X.K=K) (hc:X.calm=true) (h:PGs X es t) (hn:(assignEach es X.env).length=n:=by rfl) (hst:(assignEach es X.env).findIdx? (·.1)=none:=by rfl):PG X (.Tuple es k pos) (gTup K n t):=hK ▸ pg_tup hc h hn hst
end L2
namespace L2
open PySem PySem.Spec PyProof.Rows
theorem yes2 {τ:St} {H:Hp} {A B:Hp→Prop} (h:A H):tYes τ H fun b H5=>if b=true then A H5 else B H5:=by
  show if true=true then A H else B H
  rw [if_pos rfl];exact h
theorem lastV (xs:List V) (v:V):atI (xs++[v]) (-1)=some v:=by
  unfold atI ixN
  rw [if_neg (by omega),if_pos (by simp;omega)]
  have e:(-1 + ((xs++[v]).length:Int)).toNat=xs.length:=by simp;omega
  rw [e]
  show (xs++[v])[xs.length]?=some v
  simp
end L2
namespace L2
open PySem PySem.Spec PyProof.Rows
theorem erase_perm {α:Type}:∀ {L:List α} {k:Nat} {p:α},L[k]?=some p→(p :: L.eraseIdx k).Perm L
  | [],_,_,h=>by simp at h
  | a :: L,0,p,h=>by
    have e:a=p:=by simpa using h
    subst e;exact List.Perm.refl _
  | a :: L,k + 1,p,h=>by
    have h':L[k]?=some p:=by simpa using h
    rw [List.eraseIdx_cons_succ]
    exact (List.Perm.swap a p _).trans ((erase_perm h').cons a)
section
variable {T:Tabs} {H0 H:Hp} {L:List (Addr × HO)} {p:Addr} {o:HO}
theorem Ow.pull (O:Ow T H0 H L) (k:Nat) (h:L[k]?=some (p,o):=by rfl):Ow T H0 H ((p,o) :: L.eraseIdx k):=O.perm (erase_perm h)
theorem Ow.del (O:Ow T H0 H L) (k:Nat):Ow T H0 H (L.eraseIdx k):=O.sub (List.eraseIdx_sublist L k)
end
theorem map_snoc (ns:List Int) (z:Int):ns.map V.int++[V.int z]=(ns++[z]).map V.int:=by rw [List.map_append];rfl
end L2
namespace L2
open PySem PySem.Spec PyProof.Rows
theorem Dens.way_get {K:PySem.W.Frag} {H:Hp} {xs:List V} {ws:List (List Int)} {i:Nat} {x:V} (h:Dens K H xs (ws.map dInts)) (hx:xs[i]?=some x):∃ a w,x=.ref a∧ws[i]?=some w∧SqL K H a (w.map V.int):=by
  obtain ⟨d,h1,h2⟩:=h.get' hx
  rw [List.getElem?_map] at h1
  cases e:ws[i]? with
  | none=>rw [e] at h1;cases h1
  | some w =>
    rw [e] at h1
    cases h1
    obtain ⟨a,rfl,hL⟩:=h2.ints_inv
    exact ⟨a,w,rfl,rfl,hL⟩
theorem Dens.way_at {K:PySem.W.Frag} {H:Hp} {xs:List V} {ws:List (List Int)} {i:Nat} {w:List Int} (h:Dens K H xs (ws.map dInts)) (hw:ws[i]?=some w):∃ a,xs[i]?=some (.ref a)∧SqL K H a (w.map V.int):=by
  obtain ⟨v,h1,h2⟩:=h.get (i:=i) (d:=dInts w) (by rw [List.getElem?_map,hw];rfl)
  obtain ⟨a,rfl,hL⟩:=h2.ints_inv
  exact ⟨a,h1,hL⟩
end L2
namespace L2
open PySem PySem.Spec PyProof.Rows
end L2
namespace L2
open PySem PySem.W PySem.Spec PyProof.Rows
section
variable {prog:Program} {w:World} {A:Around} {E:Value→Shared→Prop} {s:Shared}
end
section
variable {X:Cx}
end
theorem minD_args (a v:Value):argsOk "min" ⟨[a],[(Str.ofString "default",v)]⟩:=by unfold argsOk;kernel_rfl
section
variable {prog:Program} {w:World} {A:Around} {R:Result→Shared→Prop} {I:Addr} {fp wr:List Addr} {n:Nat} {P:Nat→Value→Prop} {St:Nat→Heap→Prop}
theorem minD_loop (W:Walks prog w A.in1 I fp wr n P St) (bt:Nat→Nat→Bool) (hcmp:CmpOf prog w A.in1 .Lt P bt) (S:Addr) (hSf:S ∉ fp) (d:Value) :
    ∀ (k j:Nat) (s:Shared) (bs:Array Value) (c:Nat),n - j=k→j≤n→St j s.heap→((j=0∧bs=#[])∨∃ i vb,j=i + 1∧bs=#[vb,vb]∧P (argBest bt i) vb) →
    s.heap.get? S=some { cls:=.type "list",dict:=none,data:=.seq bs c,slots:=#[] } →
    (n=0→∀ h' tk,(∀ b o,b ∉ wr→b≠S→s.heap.get? b=some o→h'.get? b=some o)→R (.ok (.ret d)) { s with heap:=h',toks:=tk }) →
    (∀ v h' tk,0<n→P (argBest bt (n - 1)) v→(∀ b o,b ∉ wr→b≠S→s.heap.get? b=some o→h'.get? b=some o)→R (.ok (.ret v)) { s with heap:=h',toks:=tk }) →
    codeAny (model prog w) A (.builtin "min.loop" ⟨[.ref I,.none,.ref S],[(Str.ofString "default",d)]⟩) R s:=by
  have nSw:S ∉ wr:=fun h=>hSf (W.sub _ h)
  have nm:(toString "min"++toString ".loop":String)="min.loop":=by decide
  intro k
  induction k with
  | zero =>
    intro j s bs c hk hj hst hb hS hR0 hR1
    have ej:j=n:=Nat.le_antisymm hj (Nat.le_of_sub_eq_zero hk)
    subst ej
    refine codeAny_builtin F.entry_min_loop ?_;rw [Around.under_plainId F.plain_min_loop _]
    show wpAny _ A.in1 (seqItems? (.ref S) >>= _) _ _ s;refine wpAny_bind (wpAny_seqItems hS rfl ?_)
    rcases hb with ⟨e0,rfl⟩ | ⟨i,vb,ei,rfl,hP⟩
    · show wpAny _ A.in1 (tryCatch (pyNext (.ref I)) _ >>= _) _ _ s;refine wpAny_bind (wpAny_tryCatch (W.done s _ _ hst fun h' tk hk'=>?_))
      refine wpAny_bind (wpAny_rule ?_)
      exact wpAny_pure (hR0 e0 h' tk fun b o hbw _ e=>hk' b o hbw e)
    · show wpAny _ A.in1 (tryCatch (pyNext (.ref I)) _ >>= _) _ _ s;refine wpAny_bind (wpAny_tryCatch (W.done s _ _ hst fun h' tk hk'=>?_))
      have hS':=hk' S _ nSw hS
      show wpAny _ A.in1 (updateSeq S (fun _=>#[]) >>= _) _ _ _
      refine wpAny_bind (wpAny_updateSeq hS' rfl (wpAny_bind (wpAny_letGo (wpAny_pure ?_))))
      exact hR1 vb _ tk (by omega) (by rw [ei];exact hP) fun b o hbw hbS e=>(Heap.get?_update_other _ _ (Ne.symm hbS)).trans (hk' b o hbw e)
  | succ k ih =>
    intro j s bs c hk hj hst hb hS hR0 hR1
    have hlt:j<n:=Nat.sub_pos_iff_lt.mp (by rw [hk];exact Nat.succ_pos k)
    refine codeAny_builtin F.entry_min_loop ?_;rw [Around.under_plainId F.plain_min_loop _]
    show wpAny _ A.in1 (seqItems? (.ref S) >>= _) _ _ s;refine wpAny_bind (wpAny_seqItems hS rfl ?_)
    rcases hb with ⟨e0,rfl⟩ | ⟨i,vb,ei,rfl,hPb⟩
    · show wpAny _ A.in1 (tryCatch (pyNext (.ref I)) _ >>= _) _ _ s;refine wpAny_bind (wpAny_tryCatch (W.item j s _ _ hlt hst fun v h' tk hP hst' hk'=>?_))
      have hS':=hk' S _ nSw hS
      show wpAny _ A.in1 (updateSeq S (fun _=>#[v,v]) >>= _) _ _ _
      refine wpAny_bind (wpAny_updateSeq hS' rfl ?_)
      rw [nm]
      subst e0
      refine wpAny_pure ⟨plainId_quiet F.plain_min_loop _,ih 1 _ _ _ (by omega) (by omega) (W.frame _ _ _ hst' fun b hbf o e=>(Heap.get?_update_other _ _ (fun h:S=b=>hSf (by rw [h];exact hbf))).trans e) (.inr ⟨0,v,rfl,rfl,hP⟩) (Heap.get?_update_self _ hS' rfl) (fun z=>by omega) fun v' h'' tk'' hn' hP' hk''=>?_⟩
      exact hR1 v' h'' tk'' hn' hP' fun b o hbw hbS e=>hk'' b o hbw hbS ((Heap.get?_update_other _ _ (Ne.symm hbS)).trans (hk' b o hbw e))
    · subst ei
      show wpAny _ A.in1 (tryCatch (pyNext (.ref I)) _ >>= _) _ _ s;refine wpAny_bind (wpAny_tryCatch (W.item (i + 1) s _ _ hlt hst fun v h' tk hP hst' hk'=>?_))
      have hS':=hk' S _ nSw hS
      show wpAny _ A.in1 (tryCatch (holding [v,v] (richCompare .Lt v vb >>= _)) _ >>= _) _ _ _
      refine wpAny_bind (wpAny_tryCatch (wpAny_holding (wpAny_bind (hcmp (i + 1) (argBest bt i) v vb _ _ _ hP hPb (wpAny_bind (wpAny_holding (wpAny_truthy_bool (wpAny_bind (wpAny_letGo (wpAny_pure ?_))))))))))
      cases hb:bt (i + 1) (argBest bt i) with
      | true =>
        simp only [if_true]
        refine wpAny_bind (wpAny_updateSeq hS' rfl (wpAny_bind (wpAny_letGo ?_)));rw [nm]
        refine wpAny_pure ⟨plainId_quiet F.plain_min_loop _,ih (i + 1 + 1) _ _ _ (by omega) (by omega) (W.frame _ _ _ hst' fun b hbf o e=>(Heap.get?_update_other _ _ (fun h:S=b=>hSf (by rw [h];exact hbf))).trans e) (.inr ⟨i + 1,v,rfl,rfl,by simp only [argBest,hb,if_true];exact hP⟩) (Heap.get?_update_self _ hS' rfl) (fun z=>by omega) fun v' h'' tk'' hn' hP' hk''=>?_⟩
        exact hR1 v' h'' tk'' hn' hP' fun b o hbw hbS e=>hk'' b o hbw hbS ((Heap.get?_update_other _ _ (Ne.symm hbS)).trans (hk' b o hbw e))
      | false =>
        simp only [Bool.false_eq_true,if_false]
        refine wpAny_bind (wpAny_letGo ?_);rw [nm]
        refine wpAny_pure ⟨plainId_quiet F.plain_min_loop _,ih (i + 1 + 1) _ _ c (by omega) (by omega) hst' (.inr ⟨i + 1,vb,rfl,rfl,by simp only [argBest,hb,Bool.false_eq_true,if_false];exact hPb⟩) hS' (fun z=>by omega) fun v' h'' tk'' hn' hP' hk''=>?_⟩
        exact hR1 v' h'' tk'' hn' hP' fun b o hbw hbS e=>hk'' b o hbw hbS (hk' b o hbw e)
end
section
variable {X:Cx}
def tMinD (K:PySem.W.Frag) (d:Int) (te:TE):TE:=fun σ H Q=>te σ H fun x H1=>∃ (p:Addr) (ns:List Int),x=.ref p∧SqL K H1 p (ns.map V.int)∧(ns=[]→Q (.int d) H1)∧∀ M∈ns,(∀ a∈ns,M≤a)→Q (.int M) H1
theorem pe_minD {e:Expr} {te:TE} {d:Int} {j:Nat} {p1 cp kp pos:Pos} (hcalm:X.calm=true) (hg:Gl X "min") (hm:X.mg "min"=none) (he:PE X e te) (h1:backTo pos (starEach [e] X.env)=(false,eval e X.env) :: backTo pos (starEach [] X.env):=by rfl) (h2:(backTo pos (starEach [e] X.env)).any (·.1)=false:=by rfl) :
    PE X (.Call (.Name "min" p1) [e] [⟨some "default",.Constant (.int d) j cp,kp⟩] pos) (tMinD X.K d te):=by
  intro pins s σ H Q I h
  refine wpAny_Call_Name_kw (ld_blt I hg hm boot_min ?_)
  refine callWith_kw ?_ h1 h2
  rw [h1]
  refine Calls.spliced_cons (thn (he pins s σ H _ I h) fun u s1 ⟨x,H1,I1,rx,q1⟩=>?_)
  obtain ⟨p,ns,rfl,hq,q0,qm⟩:=q1
  cases rx
  refine Calls.spliced_nil ?_
  refine kws_cons (wpAny_Constant_int ?_)
  refine kws_nil ?_
  show wpAny _ _ (call (.builtin "min") [.ref p] [(Str.ofString "default",.int d _)]) _ _ _
  obtain ⟨its,r1,p1,hz⟩:=I1.list hq
  have hi:IntsAre its ns:=intsAre_of r1
  obtain ⟨ys,hx⟩:=hi.allInts.items
  have hl':s1.heap.IsList p (intItems ys):=hx ▸ p1.isList
  have hns:ns=ys.toList.map (·.1):=by
    rw [← nums_intItems,← hx]
    exact (show numsOf its.toArray.toList=ns from hi.numsOf).symm
  have nm:(toString "min"++toString ".loop":String)="min.loop":=by decide
  have hys:(intItems ys).size=ns.length:=by rw [hns];simp [intItems]
  refine kmb_tree F.kind_min F.plain_min F.entry_min (minD_args _ _) ?_
  show wpAny _ _ (Builtin.Builtins.bindParams "min" ["key","default"] 0 ⟨[],[(Str.ofString "default",.int d s1.toks)]⟩ >>= _) _ _ _
  refine wpAny_bind (wpAny_of_eq (show Builtin.Builtins.bindParams "min" ["key","default"] 0 ⟨[],[(Str.ofString "default",.int d s1.toks)]⟩=pure [none,some (.int d s1.toks)] from rfl) ?_)
  refine wpAny_bind (wpAny_pure ?_)
  refine wpAny_bind (iter_intList (s:={ s1 with toks:=s1.toks + 1 }) hl' fun s₂ e st hfp hlI=>?_)
  subst e
  refine wpAny_bind (wpAny_newObj_type ?_);rw [nm]
  have kept:∀ {h':Heap} {g:Heap} {S:Addr},(∀ b o,s1.heap.get? b=some o→g.get? b=some o)→S=s1.heap.objs.size + 1→(∀ b o,b ∉ [s1.heap.objs.size]→b≠S→g.get? b=some o→h'.get? b=some o)→∀ b o,s1.heap.get? b=some o→h'.get? b=some o:=fun hg hS hk b o e=>by
    have lt:=Heap.lt_size e
    refine hk b o (fun z=>?_) (fun z=>?_) (hg b o e)
    · rw [List.mem_singleton.mp z] at lt;exact Nat.lt_irrefl _ lt
    · rw [z,hS] at lt;exact absurd lt (by simp only [Addr] at lt ⊢;omega)
  have hg2:∀ b o,s1.heap.get? b=some o→((s1.heap.push { cls:=.type "list_iterator",data:=.fields #[.ref p,.int 0 0] }).push { cls:=.type "list",data:=.seq #[] }).get? b=some o:=fun b o e=>Heap.get?_push_of_some _ (Heap.get?_push_of_some _ e)
  have hsz:(s1.heap.push { cls:=.type "list_iterator",data:=.fields #[.ref p,.int 0 0] }).objs.size=s1.heap.objs.size + 1:=Heap.size_push ..
  refine wpAny_pure ⟨plainId_quiet F.plain_min_loop _,minD_loop (Walks.list (A:=X.A.in1) (I.ok.hd hcalm) _ p hlI (intItems ys)) _ (CmpOf.ints_lt (numAt ys) (fun _ _=>intItems_at)) _ (fun hm=>Nat.lt_irrefl _ (hfp _ hm)) (.int d s1.toks) _ 0 _ #[] _ rfl (Nat.zero_le _)
    ⟨Heap.IsListIter.at st.1 fun o e=>Heap.get?_push_of_some _ e,st.2.push _⟩ (.inl ⟨rfl,rfl⟩) (Heap.get?_push_size _ rfl) (fun h0 h' tk hk=>?_) fun v h' tk hn hP hk=>?_⟩
  · have e0:ns=[]:=List.length_eq_zero_iff.mp (by rw [← hys];exact h0)
    exact ⟨.int d,H1,I1.kept (t':=tk) (kept hg2 hsz hk),⟨_,rfl⟩,q0 e0⟩
  · obtain ⟨t,rfl⟩:=intItems_at hP
    obtain ⟨h1,h2⟩:=argBest_lt (numAt ys) ((intItems ys).size - 1)
    have hyz:(intItems ys).size=ys.size:=by simp [intItems]
    refine ⟨.int _,H1,I1.kept (t':=tk) (kept hg2 hsz hk),⟨t,rfl⟩,qm _ ?_ fun a ha=>?_⟩
    · rw [hns,numAt_eq];exact getD_mem (by rw [List.length_map,Array.length_toList];omega)
    · rw [hns] at ha
      obtain ⟨j,hj,rfl⟩:=mem_getD ha
      rw [List.length_map,Array.length_toList] at hj
      rw [← numAt_eq];exact h2 j (by omega)
end
end L2
namespace L2
open PySem PySem.Spec PyProof.Rows
section
variable {κ:Type} [DecidableEq κ]
def valV (kvs:List (κ × V)) (k:κ):Option V:=(kvs.find? fun kv=>decide (kv.1=k)).map (·.2)
def putK (kvs:List (κ × V)) (k:κ) (v:V):List (κ × V) :=
  if (kvs.any fun kv=>decide (kv.1=k))=true then kvs.map (fun kv=>if kv.1=k then (kv.1,v) else kv) else kvs++[(k,v)]
theorem valV_pos {p:κ × V} {r:List (κ × V)} {k:κ} (e:p.1=k):valV (p :: r) k=some p.2:=by simp [valV,List.find?_cons,e]
theorem valV_neg {p:κ × V} {r:List (κ × V)} {k:κ} (e:¬ p.1=k):valV (p :: r) k=valV r k:=by simp [valV,List.find?_cons,e]
theorem valV_any (k:κ):∀ kvs:List (κ × V),(kvs.any fun kv=>decide (kv.1=k))=(valV kvs k).isSome
  | []=>rfl
  | p :: r=>by
    rw [List.any_cons]
    by_cases e:p.1=k
    · simp only [valV_pos e,decide_eq_true e,Bool.true_or,Option.isSome_some]
    · rw [valV_neg e,decide_eq_false e,Bool.false_or];exact valV_any k r
theorem length_putK (kvs:List (κ × V)) (k:κ) (v:V):(putK kvs k v).length≤kvs.length + 1:=by
  unfold putK
  split
  · rw [List.length_map];omega
  · rw [List.length_append,List.length_cons,List.length_nil];omega
theorem putK_new {kvs:List (κ × V)} {k:κ} (v:V) (h:valV kvs k=none):putK kvs k v=kvs++[(k,v)]:=by
  unfold putK
  rw [valV_any,h]
  exact if_neg (by decide)
theorem KV.val {kvs:List (κ × V)} {vs:List (κ × Value)} (r:KV kvs vs) (k:κ):RelO (valV kvs k) (valueAt vs k):=by
  unfold KV at r
  induction r with
  | nil=>exact True.intro
  | @cons p q ps qs h t ih =>
    obtain ⟨h1,h2⟩:=h
    by_cases e:p.1=k
    · have e':q.1=k:=h1.symm.trans e
      have b:valueAt (q :: qs) k=some q.2:=by simp [valueAt,List.find?_cons,e']
      rw [valV_pos e,b];exact h2
    · have e':¬ q.1=k:=fun z=>e (h1.trans z)
      have b:valueAt (q :: qs) k=valueAt qs k:=by simp [valueAt,List.find?_cons,e']
      rw [valV_neg e,b];exact ih
theorem KV.any {kvs:List (κ × V)} {vs:List (κ × Value)} (r:KV kvs vs) (k:κ):(kvs.any fun kv=>decide (kv.1=k))=vs.any fun kv=>decide (kv.1=k):=by
  unfold KV at r
  induction r with
  | nil=>rfl
  | cons h t ih=>rw [List.any_cons,List.any_cons,ih,h.1]
theorem KV.repl {kvs:List (κ × V)} {vs:List (κ × Value)} (r:KV kvs vs) (k:κ) {y:V} {u:Value} (ry:RelV y u) :
    KV (kvs.map fun kv=>if kv.1=k then (kv.1,y) else kv) (vs.map fun kv=>if kv.1=k then (kv.1,u) else kv):=by
  unfold KV at r ⊢
  induction r with
  | nil=>exact .nil
  | @cons p q ps qs h t ih =>
    rw [List.map_cons,List.map_cons]
    refine .cons ?_ ih
    obtain ⟨h1,h2⟩:=h
    by_cases e:p.1=k
    · rw [if_pos e,if_pos (h1.symm.trans e)];exact ⟨h1,ry⟩
    · rw [if_neg e,if_neg (fun z=>e (h1.trans z))];exact ⟨h1,h2⟩
theorem KV.put {kvs:List (κ × V)} {vs:List (κ × Value)} (r:KV kvs vs) (k:κ) {y:V} {u:Value} (ry:RelV y u):KV (putK kvs k y) (stored vs k u):=by
  unfold putK stored
  rw [r.any k]
  by_cases e:(vs.any fun kv=>decide (kv.1=k))=true
  · rw [if_pos e,if_pos e];exact r.repl k ry
  · rw [if_neg e,if_neg e];exact Paired.snoc r ⟨rfl,ry⟩
theorem KV.length {kvs:List (κ × V)} {vs:List (κ × Value)} (r:KV kvs vs):kvs.length=vs.length:=Paired.length r
end
theorem kV_is {P:Program} {w:World} {k:Key} {u:Value} (r:RelV (kV k) u):(mixKind P w).is k u=true:=by
  cases k with
  | inl i=>obtain ⟨t,e⟩:=(show ∃ t,u=Value.int i t from r);subst e;exact mixKind_int P w i t
  | inr x=>obtain ⟨t,e⟩:=(show ∃ t,u=Value.str x t from r);subst e;exact mixKind_str P w x t
theorem items_are {P:Program} {w:World}:∀ {ks:List Key} {us:List Value},Vals (ks.map kV) us→ItemsAre (mixKind P w) ks us
  | [],_,r=>by rw [List.map_nil] at r;cases r;exact .nil
  | k :: ks,_,r=>by
    rw [List.map_cons] at r
    cases r with
    | cons h t=>exact .cons (kV_is h) (items_are t)
abbrev KT (H:Hp):List (List Key × V)→List (List Key × Addr × Value)→Prop:=Paired fun p q=>p.1=q.1∧H q.2.1=some (.tup (p.1.map kV))∧RelV p.2 q.2.2
section
variable {P:Program} {w:World} {H:Hp} {h:Heap} {a:Addr}
theorem rd_of {u:HO} (ok:HOk P w H h) (e:Rd H a u):ObjOk P w H h a u:=e.ok ok
theorem dk_rd {kvs:List (Key × V)} (ok:HOk P w H h) (e:Rd H a (.dK kvs)):kvs.length≤sizeLine∧(a == sysModules)=false∧∃ vs,KV kvs vs∧h.DictOf (mixKind P w) a vs :=
  show ObjOk P w H h a (.dK kvs) from rd_of ok e
theorem dk_of {kvs:List (Key × V)} (ok:HOk P w H h) (e:H a=some (.dK kvs)):kvs.length≤sizeLine∧(a == sysModules)=false∧∃ vs,KV kvs vs∧h.DictOf (mixKind P w) a vs:=dk_rd ok (.inl e)
theorem key_of {ks:List Key} (ok:HOk P w H h) (e:H a=some (.tup (ks.map kV))):(tupleKind (mixKind P w)).is h ks a:=by
  obtain ⟨_,its,r,o,h1,h2,n,h3⟩:=(show ObjOk P w H h a (.tup (ks.map kV)) from ok a _ e)
  exact ⟨o,its.toArray,n,h1,h2,h3,by simpa using items_are r⟩
theorem dt_rd {kvs:List (List Key × V)} (ok:HOk P w H h) (e:Rd H a (.dT kvs)):kvs.length≤sizeLine∧(a == sysModules)=false ∧
    ∃ xs,KT H kvs xs∧h.DictOfH (tupleKind (mixKind P w)) a xs:=by
  obtain ⟨z,y,xs,r,o,es,ep,h1,h2,h3,h4,h5⟩:=(show ObjOk P w H h a (.dT kvs) from rd_of ok e)
  refine ⟨z,y,xs,r,o,es,ep,h1,h2,h3,h4,fun x hx=>?_,h5⟩
  have all:∀ {l:List (List Key × V)} {m:List (List Key × Addr × Value)},KT H l m→∀ x∈m,(tupleKind (mixKind P w)).is h x.1 x.2.1:=by
    intro l m q
    induction q with
    | nil=>intro x hx;exact nomatch hx
    | @cons p q ps qs hq t ih =>
      intro x hx
      rcases List.mem_cons.mp hx with e | hx
      · subst e
        exact key_of ok (by rw [← hq.1];exact hq.2.1)
      · exact ih x hx
  exact all r x hx
end
section
variable {X:Cx} {pins:List (Addr × Obj)} {σ:St} {H:Hp} {s:Shared} {a:Addr} {y v:V} {u r:Value} {o:Option V} {A:Around} {E:Value→Shared→Prop}
theorem Inv.big (I:Inv X pins σ H s):sysModules<s.heap.objs.size:=by
  have h:mainGlobals<s.heap.objs.size:=(I.mod.glob.keeps I.bk).lt
  exact Nat.lt_trans (by decide) h
theorem d_write {h':Heap} {t':Nat} {ob:HO} (I:Inv X pins σ H s) (mu:Mut (H a)) (hs:Heap.SameBut a s.heap h') (he:∃ q,h'.get? a=some q) (new:ObjOk X.prog X.w (upd H a ob) h' a ob) :
    Inv X pins σ (upd H a ob) { s with heap:=h',toks:=t' } :=
  I.write (x:=a) (e:=a) mu (.inl rfl) (fun b q hb z=>(hs.2 b hb).trans z) he new
theorem dk_new {P:Program} {w:World} {H':Hp} {h':Heap} {kvs:List (Key × V)} {vs:List (Key × Value)} (z:kvs.length≤sizeLine) (hd:(a == sysModules)=false) (rel:KV kvs vs) (dd:h'.DictOf (mixKind P w) a vs) :
    ObjOk P w H' h' a (.dK kvs):=⟨z,hd,vs,rel,dd⟩
end
section
variable {X:Cx} {pins:List (Addr × Obj)} {σ:St} {H:Hp} {s:Shared} {a:Addr} {kvs:List (Key × V)} {k:Key} {u:Value} {A:Around} {E:Value→Shared→Prop}
end
section
variable {X:Cx} {o i e value:Expr} {pos pos' tpos:Pos} {td ty tv:TE}
end
theorem dk_empty {P:Program} {w:World} {H:Hp} (h:Heap) (hb:sysModules<h.objs.size):ObjOk P w H (h.push { cls:=.type "dict",data:=.dict #[] }) h.objs.size (.dK []) :=
  ⟨Nat.zero_le _,beq_eq_false_iff_ne.mpr (Ne.symm (Nat.ne_of_lt hb)),[],.nil,Heap.DictOf.new h⟩
def tDNewK:TE:=fun _ H Q=>∀ p,H p=none→Q (.ref p) (upd H p (.dK []))
section
variable {X:Cx} {pos:Pos}
theorem pe_dnewK:PE X (.Dict [] [] pos) tDNewK:=fun pins s σ H Q I h =>
  wpAny_Dict_empty ⟨.ref s.heap.objs.size,_,I.laid (a:=s.heap.objs.size) (o:=.dK []) (t':=s.toks) (fun _ _ q=>Heap.get?_push_of_some _ q) (Nat.le_refl _) (dk_empty s.heap I.big),rfl,h _ (I.hok.fresh (Nat.le_refl _))⟩
end
abbrev VV:List (V × V)→List (Value × Value)→Prop:=Paired fun p q=>RelV p.1 q.1∧RelV p.2 q.2
structure M2 (X:Cx) (o:Expr) (m:Str) (apos:Pos) (e f:Expr) (cpos:Pos):Prop where
  base:attributeBase o m X.env (eval o X.env)=eval o X.env
  few:((backTo cpos (starEach [e,f] X.env)).all (fun x=>!x.1) && (backToKw cpos (keywordEach [] X.env)).all (fun x=>x.1.isSome)
    && decide (([e,f]:List Expr).length + ([]:List Keyword).length + (if ([]:List Keyword).isEmpty then 0 else 1)<30))=true
  line:(apos.endLine == cpos.line)=true
  trees:backTo cpos (starEach [e,f] X.env)=[(false,eval e X.env),(false,eval f X.env)]
def IsD (H:Hp) (a:Addr):Prop:=(∃ kvs,Rd H a (.dK kvs))∨∃ kvs,Rd H a (.dT kvs)
theorem isD_at {X:Cx} {pins:List (Addr × Obj)} {σ:St} {H:Hp} {s:Shared} {a:Addr} (I:Inv X pins σ H s) (d:IsD H a) :
    s.TypeIs (.ref a) "dict"∧(∀ b,Value.ref a=.ref b→∃ ob,s.heap.get? b=some ob∧ob.dict=none)∧(a == sysModules)=false:=by
  rcases d with ⟨kvs,e⟩ | ⟨kvs,e⟩
  · obtain ⟨_,hd,vs,_,dd⟩:=dk_rd I.hok e
    refine ⟨dd.typeIs,fun b q=>?_,hd⟩
    cases q
    obtain ⟨ob,_,_,h1,h2,_⟩:=dd
    exact ⟨ob,h1,h2.2.1⟩
  · obtain ⟨_,hd,xs,_,dd⟩:=dt_rd I.hok e
    refine ⟨dd.typeIs,fun b q=>?_,hd⟩
    cases q
    obtain ⟨ob,_,_,h1,h2,_⟩:=dd
    exact ⟨ob,h1,h2.2.1⟩
section
variable {X:Cx} {pins:List (Addr × Obj)} {σ:St} {H:Hp} {s:Shared} {a:Addr} {y d:V} {u r:Value} {o:Option V} {A:Around} {E:Value→Shared→Prop}
end
section
variable {X:Cx} {o e f:Expr} {apos cpos:Pos} {td ty tx:TE}
end
end L2
namespace L2
open PySem PySem.W PySem.Spec PyProof.Rows
def tDSet (td ty tx:TE):TE:=fun σ H Q=>td σ H fun x H1=>∃ a,x=.ref a∧IsD H1 a∧ty σ H1 fun y H2=>tx σ H2 fun z H3=>∃ kvs k,H3 a=some (.dK kvs)∧y=kV k∧kvs.length<sizeLine ∧
  (∀ v,valV kvs k=some v→Q v H3)∧(valV kvs k=none→Q z (upd H3 a (.dK (putK kvs k z))))
section
variable {X:Cx} {o e f:Expr} {apos cpos:Pos} {td ty tx:TE}
theorem pe_dset (ho:PE X o td) (he:PE X e ty) (hf:PE X f tx) (m:M2 X o "setdefault" apos e f cpos):PE X (.Call (.Attribute o "setdefault" apos) [e,f] [] cpos) (tDSet td ty tx):=by
  intro pins s σ H Q I h
  refine wpAny_Call_method m.base m.few m.line PySem.F.plainAttrs_dict PySem.F.slot_dict_setdefault PySem.F.type_dict_setdefault (thn (ho pins s σ H _ I h) fun u s1 ⟨x,H1,I1,rx,a,ex,d,q1⟩=>?_)
  subst ex
  obtain rfl:u=Value.ref a:=rx
  obtain ⟨t1,t2,_⟩:=isD_at I1 d
  refine ⟨t1,t2,?_⟩
  rw [m.trees]
  refine Calls.callWith_builtin rfl (Calls.evalArgs_plain (Calls.spliced_cons (thn (he pins s1 σ H1 _ I1 q1) fun iv s2 ⟨y,H2,I2,ry,q2⟩ =>
    Calls.spliced_cons (thn (hf pins s2 σ H2 _ I2 q2) fun fv s3 ⟨z,H3,I3,rz,kvs,k,ea,ey,hl,q3,q4⟩=>Calls.spliced_nil ?_))))
  subst ey
  obtain ⟨z1,hd,vs,rel,dd⟩:=dk_of I3.hok ea
  have rv:=rel.val k
  have hlen:=rel.length
  refine call_meetsIn PySem.F.slot_dict_setdefault dd.typeIs PySem.F.entry_dict_setdefault (PySem.F.args_dict_setdefault_3 _ _ _) (kt_meets_setdefault (mixKind X.prog X.w) a (kV_is ry) hd fv) ⟨vs,dd,by omega,fun v hv=>?_,fun hn h' dd' hs=>?_⟩
  · rw [hv] at rv
    cases l:valV kvs k with
    | none=>rw [l] at rv;cases rv
    | some v'=>rw [l] at rv;exact ⟨v',H3,I3.tok _,rv,q3 v' l⟩
  · rw [hn] at rv
    cases l:valV kvs k with
    | some v'=>rw [l] at rv;cases rv
    | none=>exact ⟨z,_,d_write I3 (by rw [ea];trivial) hs (by obtain ⟨ob,es,ep,he',_⟩:=dd';exact ⟨ob,he'⟩) (dk_new (Nat.le_trans (length_putK _ _ _) hl) hd (rel.put k rz) dd'),rz,q4 l⟩
end
def tListVals (td:TE):TE:=fun σ H Q=>td σ H fun x H1=>∃ a kvs,x=.ref a∧Rd H1 a (.dK kvs)∧∀ l,H1 l=none→Q (.ref l) (upd H1 l (.lst (kvs.map (·.2))))
theorem KV.vals {kvs:List (Key × V)} {vs:List (Key × Value)} (r:KV kvs vs):Vals (kvs.map (·.2)) (vs.map (·.2)):=by
  induction r with
  | nil=>exact .nil
  | cons h _ ih=>exact .cons h.2 ih
section
variable {X:Cx} {o:Expr} {td:TE} {p1 apos cpos pos:Pos}
theorem pe_listVals (hcalm:X.calm=true) (hgs:Gl X "list") (hms:X.mg "list"=none) (ho:PE X o td) (hb:attributeBase o "values" X.env (eval o X.env)=eval o X.env:=by rfl) (hline:(apos.endLine == cpos.line)=true:=by rfl) :
    PE X (.Call (.Name "list" p1) [.Call (.Attribute o "values" apos) [] [] cpos] [] pos) (tListVals td):=by
  intro pins s σ H Q I h
  refine Call_ (ld_blt I hgs hms boot_list (PyProof.Rows.callWith_type1 ?_ rfl rfl))
  show wpAny _ _ (spliced ((false,eval (.Call (.Attribute o "values" apos) [] [] cpos) X.env) :: [])) _ _ s
  refine Calls.spliced_cons (wpAny_Call_method hb rfl hline PySem.F.plainAttrs_dict PySem.F.slot_dict_values PySem.F.type_dict_values (thn (ho pins s σ H _ I h) fun u s1 ⟨x,H1,I1,rx,a,kvs,ex,d,q1⟩=>?_))
  subst ex
  obtain rfl:u=Value.ref a:=rx
  obtain ⟨t1,t2,_⟩:=isD_at I1 (.inl ⟨kvs,d⟩)
  refine ⟨t1,t2,?_⟩
  obtain ⟨hz,hd,vs,rel,dd⟩:=dk_rd I1.hok d
  refine Calls.callWith_builtin rfl (PyProof.Rows.evalArgs_none ?_)
  refine call_meetsIn PySem.F.slot_dict_values dd.typeIs PySem.F.entry_dict_values (PySem.F.args_dict_values_1 _) (meets_dict_values (mixKind X.prog X.w) a hd) ⟨⟨vs,dd⟩,?_⟩
  refine Calls.spliced_nil ?_
  obtain ⟨ep,da⟩:=dd.dictAt
  have hlen:=rel.length
  have hsz:(s1.heap.push { cls:=.type "dict_values",data:=.fields #[.ref a] }).objs.size=s1.heap.objs.size + 1:=Heap.size_push ..
  refine kdl_call (kdl_values (knd:=mixKind X.prog X.w) (r:=s1.heap.objs.size) (d:=a) (kvs:=vs) (ep:=ep)) (I.ok.hd hcalm) ⟨⟨_,Heap.get?_push_size _ rfl,rfl,rfl⟩,da.push _⟩ (by omega) fun h' tk acc c hk hS hacc=>?_
  have e:acc.toList=vs.map (·.2):=kdl_vals_eq acc.toList (by rw [Array.length_toList];exact hacc.1) fun j v ej=>hacc.2 j v (by rw [← Array.getElem?_toList];exact ej)
  refine ⟨.ref (s1.heap.push { cls:=.type "dict_values",data:=.fields #[.ref a] }).objs.size,_,I1.laid (t':=tk) (fun b o e=>hk b o (Heap.get?_push_of_some _ e)) (by rw [hsz];exact Nat.le_succ _)
    (show ObjOk X.prog X.w _ h' _ (.lst (kvs.map (·.2))) from ⟨by rw [List.length_map];exact hz,acc.toList,c,by rw [e];exact rel.vals,by simpa using hS⟩),rfl,q1 _ (I1.hok.fresh (by rw [hsz];exact Nat.le_succ _))⟩
end
end L2
namespace L2
open PySem PySem.W PySem.Spec PyProof.Rows
section
variable {prog:Program} {w:World} {A:Around} {E:Value→Shared→Prop} {s:Shared}
def mid (h:Heap) (D:Addr) (vs:List Value):Heap:=((h.update D (Obj.mapSeq fun _=>(#[]:Array Value))).push (seqObj "tuple" vs.toArray 0)).push (seqObj "list" #[] 0)
theorem mid_keep {h:Heap} {D b:Addr} {vs:List Value} {o:Obj} (hb:h.get? b=some o) (hn:b≠D):(mid h D vs).get? b=some o :=
  Heap.get?_push_of_some _ (Heap.get?_push_of_some _ ((Heap.get?_update_other _ _ (Ne.symm hn)).trans hb))
theorem sort_tups {D:Addr} {n0 m:Nat} {vs:List Value} {key:Nat→List Int} {κ:Nat→Int} {P:PySem.Fin→Shared→Prop} (h64:vs.length<64) (hD:s.heap.get? D=some (seqObj "list" vs.toArray n0)) (KK:Keys s.heap vs key vs.length m)
    (hκ:∀ i j,i<vs.length→j<vs.length→HT.lexLt (key i) (key j)=decide (κ i<κ j)) (hinj:Inj vs.length κ)
    (q:∀ p:List Nat,p.Perm (List.range vs.length)→p.Pairwise (fun i j=>κ i<κ j)→P (.done (.ret .none)) { s with heap:=sortedHeap s.heap D vs (p.map fun i=>vs.getD i Value.none).toArray }) :
    wpAny (model prog w) A (Builtin.«list.sort» ⟨[.ref D],[]⟩) P E s:=by
  obtain ⟨e1,h1⟩:∃ e1,(s.heap.update D (Obj.mapSeq fun _=>(#[]:Array Value))).get? D=some (seqObj "list" #[] e1):=⟨_,get?_update_seq hD fun _=>#[]⟩
  have h3:(mid s.heap D vs).get? D=some (seqObj "list" #[] e1):=Heap.get?_push_of_some _ (Heap.get?_push_of_some _ h1)
  have K3:Keys (mid s.heap D vs) vs key vs.length m:=by
    refine ⟨KK.size,fun i hi=>?_,KK.long⟩
    obtain ⟨t,its,e,⟨o,ho,hc,n,hd⟩,i1⟩:=KK.at_ i hi
    have hne:t≠D:=fun z=>by
      rw [z,hD] at ho
      have:=congrArg Obj.cls (Option.some.inj ho)
      rw [hc] at this
      exact absurd (show Value.type "list"=Value.type "tuple" from this) (by decide)
    exact ⟨t,its,e,⟨o,mid_keep ho hne,hc,n,hd⟩,i1⟩
  have fin:∀ (st:SortSt) (p:List Nat),(arrOf st).map (·.2)=List.toArray (p.map fun i=>vs.getD i Value.none)→p.Perm (List.range vs.length)→p.Pairwise (fun i j=>κ i<κ j) →
      P (.done (.ret .none)) { s with heap:=(mid s.heap D vs).update D (Obj.mapSeq fun _=>(arrOf st).map (·.2)) }:=by
    intro st p e a b
    rw [e];exact q p a b
  rw [list_sort_plain]
  refine wpAny_bind (listItems_at hD rfl ?_)
  refine wpAny_bind (listUpdate_at hD rfl ?_ (by rw [List.size_toArray,sizeLine_eq];omega) (Nat.zero_le _))
  refine wpAny_bind (seqEpoch_at h1 rfl ?_)
  refine wpAny_bind (wpAny_newTuple ?_ (by show vs.length≤_;rw [sizeLine_eq];omega))
  refine wpAny_bind (wpAny_newList ?_ (Nat.zero_le _))
  refine wpAny_holding ?_
  show wpAny (model prog w) A _ P E { s with heap:=mid s.heap D vs }
  dsimp only
  by_cases h2:vs.length<2
  · have z2:vs.toArray.size<2:=by rw [List.size_toArray];omega
    rw [if_pos z2,if_pos z2]
    refine wpAny_bind (wpAny_pure ?_)
    rw [StateT.run_pure]
    refine wpAny_bind (wpAny_pure ?_)
    dsimp only
    refine wpAny_bind (seqEpoch_at h3 rfl ?_)
    refine wpAny_bind (listUpdate_at h3 rfl ?_ (Nat.zero_le _) (by rw [Array.size_map];show (vs.toArray.zip vs.toArray).size≤_;rw [Array.size_zip,List.size_toArray,sizeLine_eq];omega))
    simp only [Bool.false_eq_true,bne_self_eq_false,if_false]
    refine wpAny_pure (fin (SortSt.mk' general' (vs.toArray.zip vs.toArray) #[] 7 none) (List.range vs.length) ?_ (List.Perm.refl _) ?_)
    · show (vs.toArray.zip vs.toArray).map (·.2)=_
      apply Array.toList_inj.mp
      rw [Array.toList_map,Array.toList_zip,List.toList_toArray,List.map_snd_zip (Nat.le_refl _)]
      apply List.ext_getElem?
      intro j
      rw [List.getElem?_map]
      by_cases hj:j<vs.length
      · rw [List.getElem?_range hj]
        show _=some (vs.getD j Value.none)
        rw [List.getD_eq_getElem?_getD,List.getElem?_eq_getElem hj];rfl
      · rw [List.getElem?_eq_none (by omega),List.getElem?_eq_none (by rw [List.length_range];omega)];rfl
    · match hx:vs.length,h2 with
      | 0,_=>exact List.Pairwise.nil
      | 1,_=>exact List.pairwise_singleton _ _
  · have z2:¬ vs.toArray.size<2:=by rw [List.size_toArray];omega
    rw [if_neg z2,if_neg z2]
    obtain ⟨fs,kt,kl,kv⟩:=K3.tups (s:={ s with heap:=mid s.heap D vs })
    refine wpAny_bind (kat_kind kt (by omega) (fun v hv=>by obtain ⟨a,t,rfl⟩:=kv v hv;exact Looks.of_pure rfl) (T:=.type "int") (by decide) ?_)
    have ett:(Value.type "int" != Value.type "tuple")=true:=by decide
    rw [ett]
    have run:=kat_run (prog:=prog) (w:=w) (A:=A) (E:=E) (s:={ s with heap:=mid s.heap D vs }) (κ:=tuples' true) (ks:=vs) (vs:=vs)
      (Q:=fun st' s'=>s'={ s with heap:=mid s.heap D vs }∧∃ p:Array Nat,arrOf st'=p.map (kas_item (vs.toArray.zip vs.toArray))∧failedOf st'=none∧Arr vs.length p∧Srt κ p vs.length)
      (G:=fun p s'=>s'={ s with heap:=mid s.heap D vs }∧Arr vs.length p∧Srt κ p vs.length) rfl (by omega) (by omega) (fun p st' s' _ b c ⟨d,a1,a2⟩=>⟨d,p,b,c,a1,a2⟩)
      (tree_sort (N:=vs.length) (Keys.cmp (s:={ s with heap:=mid s.heap D vs }) (prog:=prog) (w:=w) (A:=A) K3 hκ) hinj (by omega) (Q:=fun p s'=>s'={ s with heap:=mid s.heap D vs }∧Arr vs.length p∧Srt κ p vs.length) rfl fun p s' a b c=>⟨c,a,b⟩)
    refine wpAny_bind (wpAny_mono run ?_ fun _ _ x=>x)
    rintro ⟨⟨⟩,st'⟩ s5 ⟨rfl,p,har,hf,AR,SR⟩
    dsimp only
    have hout:=kat_snds rfl har
    refine wpAny_bind (seqEpoch_at h3 rfl ?_)
    refine wpAny_bind (listUpdate_at h3 rfl ?_ (Nat.zero_le _) (by show ((arrOf st').map (·.2)).size≤_;rw [hout,List.size_toArray,List.length_map,Array.length_toList,AR.size,sizeLine_eq];omega))
    rw [hf]
    simp only [Bool.false_eq_true,bne_self_eq_false,if_false]
    obtain ⟨p2,e1,_,e3⟩:=sorted_of (xs:=vs.map fun _=>V.non) (κ:=κ) (p:=p) (by rw [List.length_map];exact AR) (by rw [List.length_map];exact SR)
    refine wpAny_pure (fin st' p.toList hout AR.perm ?_)
    rw [List.pairwise_iff_getElem]
    intro i j hi hj hij
    have hj':j<vs.length:=by rw [Array.length_toList,AR.size] at hj;exact hj
    have g1:=AR.get (show i<vs.length by omega)
    have g2:=AR.get hj'
    rw [List.getElem?_eq_getElem hi] at g1
    rw [List.getElem?_eq_getElem hj] at g2
    rw [Option.some.inj g1,Option.some.inj g2]
    exact SR i j hij hj'
theorem sorted_tups {l:Addr} {m:Nat} {vs:List Value} {key:Nat→List Int} {κ:Nat→Int} {Q:Value→Shared→Prop} (hl:s.heap.IsList l vs.toArray) (h64:vs.length<64) (KK:Keys s.heap vs key vs.length m)
    (hκ:∀ i j,i<vs.length→j<vs.length→HT.lexLt (key i) (key j)=decide (κ i<κ j)) (hinj:Inj vs.length κ)
    (q:∀ p:List Nat,p.Perm (List.range vs.length)→p.Pairwise (fun i j=>κ i<κ j)→Q (.ref (s.heap.objs.size + 1)) { s with heap:=sortedAll s.heap vs (p.map fun i=>vs.getD i Value.none).toArray }) :
    wpAny (model prog w) A (call (.builtin "sorted") [.ref l]) Q E s:=by
  refine Calls.call_function_entry kind_sorted plain_sorted entry_sorted (args_sorted1 _) ?_
  unfold Builtin.«sorted»
  refine wpAny_bind (m:=checkCount "sorted" 1 1 _) (wpAny_pure ?_)
  refine wpAny_bind (collect_list hl ?_ (by rw [sizeLine_eq];omega))
  refine wpAny_bind (wpAny_newList ?_ (by rw [sizeLine_eq];omega))
  have hz:((s.heap.push (seqObj "list" #[] 0)).update s.heap.objs.size (Obj.mapSeq (·++vs.toArray))).objs.size=s.heap.objs.size + 1:=by rw [Heap.size_update,size_push']
  have hL:(((s.heap.push (seqObj "list" #[] 0)).update s.heap.objs.size (Obj.mapSeq (·++vs.toArray))).push (seqObj "list" vs.toArray 0)).get? (s.heap.objs.size + 1)=some (seqObj "list" vs.toArray 0):=by rw [← hz];exact Heap.get?_push_size _ rfl
  have kp:∀ b o,s.heap.get? b=some o→(((s.heap.push (seqObj "list" #[] 0)).update s.heap.objs.size (Obj.mapSeq (·++vs.toArray))).push (seqObj "list" vs.toArray 0)).get? b=some o:=fun b o z=>by
    have hlt:b<s.heap.objs.size:=Heap.lt_size z
    exact Heap.get?_push_of_some _ ((Heap.get?_update_other _ _ (Ne.symm (Nat.ne_of_lt hlt))).trans (Heap.get?_push_of_some _ z))
  show wpAny _ _ _ _ _ { s with heap:=((s.heap.push (seqObj "list" #[] 0)).update s.heap.objs.size (Obj.mapSeq (·++vs.toArray))).push (seqObj "list" vs.toArray 0) }
  rw [hz]
  refine wpAny_bind (wpAny_holding (wpAny_call_entry slot_list_sort ⟨_,hL,rfl⟩ entry_list_sort (sort_tups h64 hL ⟨KK.size,fun i hi=>?_,KK.long⟩ hκ hinj fun p a b=>⟨_,rfl,?_⟩) (args_list_sort _)))
  · obtain ⟨t,its,e,⟨o,ho,hc,n,hd⟩,i1⟩:=KK.at_ i hi
    exact ⟨t,its,e,⟨o,kp _ _ ho,hc,n,hd⟩,i1⟩
  · exact wpAny_pure ⟨_,rfl,q p a b⟩
end
section
variable {X:Cx}
def dPr (z:Int × Int):PyData:=dTup [z.1,z.2]
theorem lex2 (a b c d:Int) (hb:0≤b∧b<64) (hd:0≤d∧d<64):HT.lexLt [a,b] [c,d]=decide (a * 64 + b<c * 64 + d):=by
  rw [HT.lexLt_cons]
  by_cases h:a=c
  · rw [if_pos h,HT.lexLt_cons]
    by_cases h':b=d
    · rw [if_pos h',show HT.lexLt [] []=false from rfl]
      exact (decide_eq_false (by omega)).symm
    · rw [if_neg h']
      exact decide_eq_decide.mpr (by omega)
  · rw [if_neg h]
    exact decide_eq_decide.mpr (by omega)
theorem Dens.pr_get {K:PySem.W.Frag} {H:Hp} {xs:List V} {ps:List (Int × Int)} {i:Nat} {x:V} (h:Dens K H xs (ps.map dPr)) (hx:xs[i]?=some x):∃ a z,x=.ref a∧ps[i]?=some z∧SqT K H a [.int z.1,.int z.2]:=by
  obtain ⟨d,hd,hv⟩:=h.get' hx
  rw [List.getElem?_map] at hd
  cases hp:ps[i]? with
  | none=>rw [hp] at hd;cases hd
  | some z =>
    rw [hp] at hd
    have e:dPr z=d:=Option.some.inj hd
    subst e
    obtain ⟨a,rfl,hT⟩:=(show Den K H x (dTup [z.1,z.2]) from hv).tup_inv
    exact ⟨a,z,rfl,rfl,hT⟩
theorem perm_getD {α:Type} {ps:List α} {d:α} {q:List Nat} (h:q.Perm (List.range ps.length)):(q.map fun i=>ps.getD i d).Perm ps:=by
  have e:(List.range ps.length).map (fun i=>ps.getD i d)=ps:=by
    apply List.ext_getElem?
    intro j
    rw [List.getElem?_map]
    by_cases hj:j<ps.length
    · rw [List.getElem?_range hj]
      show some (ps.getD j d)=_
      rw [List.getD_eq_getElem?_getD,List.getElem?_eq_getElem hj];rfl
    · rw [List.getElem?_eq_none (l:=ps) (by omega),List.getElem?_eq_none (by rw [List.length_range];omega)];rfl
  have:=h.map fun i=>ps.getD i d
  rw [e] at this;exact this
theorem Dens.pick {K:PySem.W.Frag} {H:Hp} {us:List V} {ps:List (Int × Int)} (h:Dens K H us (ps.map dPr)):∀ (q:List Nat),(∀ i∈q,i<ps.length)→Dens K H (q.map fun i=>us.getD i .non) ((q.map fun i=>ps.getD i (0,0)).map dPr)
  | [],_=>.nil
  | i :: q,hq=>by
    have hi:=hq i List.mem_cons_self
    obtain ⟨v,e1,e2⟩:=h.get (i:=i) (d:=dPr (ps.getD i (0,0))) (by rw [List.getElem?_map,List.getElem?_eq_getElem hi,List.getD_eq_getElem?_getD,List.getElem?_eq_getElem hi];rfl)
    refine .cons ?_ (Dens.pick h q fun j hj=>hq j (List.mem_cons_of_mem _ hj))
    show Den K H (us.getD i .non) _
    rw [List.getD_eq_getElem?_getD,e1];exact e2
theorem call_sortedP:CallR X (.builtin "sorted") (fun xs H Q=>∃ (p:Addr) (us:List V) (ps:List (Int × Int)),xs=[.ref p]∧SqL X.K H p us∧Dens X.K H us (ps.map dPr)∧ps.length<64∧(∀ z∈ps,0≤z.2∧z.2<64)∧(ps.map (·.2)).Nodup ∧
    ∀ (l:Addr) (q:List Nat),H l=none→q.Perm (List.range ps.length)→Q (.ref l) (upd H l (.lst (q.map fun i=>us.getD i .non)))):=by
  intro pins s σ H xs vs Q I r h
  obtain ⟨p,us,ps,rfl,hq,hd,hn,hr,hnd,q⟩:=h
  obtain ⟨u,rfl,ru⟩:=vals1 r
  cases ru
  obtain ⟨its,r1,p1,hz⟩:=I.list hq
  have hl:=r1.length
  have hul:us.length=ps.length:=by rw [hd.length,List.length_map]
  have hil:its.length=ps.length:=by omega
  have gz:∀ i,i<ps.length→ps[i]?=some (ps.getD i (0,0)):=fun i hi=>by rw [List.getD_eq_getElem?_getD,List.getElem?_eq_getElem hi];rfl
  have gb:∀ i,i<ps.length→0≤(ps.getD i (0,0)).2∧(ps.getD i (0,0)).2<64:=fun i hi=>hr _ (List.mem_of_getElem? (gz i hi))
  refine sorted_tups (m:=1) (key:=fun i=>[(ps.getD i (0,0)).1,(ps.getD i (0,0)).2]) (κ:=fun i=>(ps.getD i (0,0)).1 * 64 + (ps.getD i (0,0)).2) p1.isList (by omega) ⟨rfl,fun i hi=>?_,fun i hi=>rfl⟩ (fun i j hi hj=>lex2 _ _ _ _ (gb i (by omega)) (gb j (by omega))) (fun i j hi hj hij=>?_) fun pp a1 a2=>?_
  · have hi2:i<us.length:=by omega
    obtain ⟨a,z,e1,e2,hT⟩:=hd.pr_get (List.getElem?_eq_getElem hi2)
    obtain ⟨u,eu,ru⟩:=r1.get (List.getElem?_eq_getElem hi2)
    rw [e1] at ru
    cases ru
    obtain ⟨its2,r2,hT2,_⟩:=I.tuple hT
    have ez:z=ps.getD i (0,0):=by have:=gz i (by omega);rw [e2] at this;exact Option.some.inj this
    subst ez
    exact ⟨a,its2,eu,hT2,intsAre_of (ns:=[(ps.getD i (0,0)).1,(ps.getD i (0,0)).2]) r2⟩
  · show (ps.getD i (0,0)).1 * 64 + (ps.getD i (0,0)).2≠(ps.getD j (0,0)).1 * 64 + (ps.getD j (0,0)).2
    have b1:=gb i (by omega)
    have b2:=gb j (by omega)
    have hne:(ps.getD i (0,0)).2≠(ps.getD j (0,0)).2:=fun e=>by
      have g1:(ps.map (·.2))[i]?=some (ps.getD i (0,0)).2:=by rw [List.getElem?_map,gz i (by omega)];rfl
      have g2:(ps.map (·.2))[j]?=some (ps.getD j (0,0)).2:=by rw [List.getElem?_map,gz j (by omega)];rfl
      rw [e,← g2] at g1
      exact hij ((List.getElem?_inj (by rw [List.length_map];omega) hnd).mp g1)
    omega
  · obtain ⟨e,he⟩:=sortedAll_at s.heap its (pp.map fun i=>its.getD i Value.none).toArray
    have hpl:pp.length=ps.length:=by rw [a1.length_eq,List.length_range];omega
    have a1':pp.Perm (List.range ps.length):=by rw [← hil];exact a1
    exact ⟨.ref (s.heap.objs.size + 1),_,I.laid (t':=s.toks) (fun b o e=>sortedAll_old e) (Nat.le_succ _) (show ObjOk X.prog X.w _ _ _ (.lst (pp.map fun i=>us.getD i .non)) from ⟨by rw [List.length_map,sizeLine_eq];omega,_,e,vals_perm r1 pp (fun i hi=>by have:=List.mem_range.mp (a1'.mem_iff.mp hi);omega),he⟩),rfl,q _ _ (I.hok.fresh (Nat.le_succ _)) a1'⟩
theorem cut_takeV (xs:List V) (j:Nat):cutV xs none (some (j:Int))=xs.take j:=by
  unfold cutV
  rw [HT.sIx_nat,show HT.sIx xs.length 0 none=0 from rfl,List.drop_zero,Nat.sub_zero]
  by_cases h:j≤xs.length
  · rw [Nat.min_eq_left h]
  · rw [Nat.min_eq_right (by omega),List.take_of_length_le (Nat.le_refl _),List.take_of_length_le (by omega)]
theorem Dens.mv_get {K:PySem.W.Frag} {H:Hp} {xs:List V} {ps:List (Int × Int × Int)} {i:Nat} {x:V} (h:Dens K H xs (ps.map dMv)) (hx:xs[i]?=some x):∃ a p,x=.ref a∧ps[i]?=some p∧SqT K H a [.int p.1,.int p.2.1,.int p.2.2]:=by
  obtain ⟨d,hd,hv⟩:=h.get' hx
  rw [List.getElem?_map] at hd
  cases hp:ps[i]? with
  | none=>rw [hp] at hd;cases hd
  | some z =>
    rw [hp] at hd
    have e:dMv z=d:=Option.some.inj hd
    subst e
    obtain ⟨a,rfl,hT⟩:=hv.mv_inv
    exact ⟨a,z,rfl,rfl,hT⟩
theorem getD_some {α:Type} {xs:List α} {i:Nat} {x d:α} (h:xs[i]?=some x):xs.getD i d=x:=by rw [List.getD_eq_getElem?_getD,h];rfl
abbrev oLic (l:Lic):HO:=.tup (vLic l)
abbrev oInts (w:List Int):HO:=.lst (w.map V.int)
end
end L2
namespace L2
open PySem PySem.W PySem.Spec PyProof.Rows
section
variable {X:Cx}
end
end L2
namespace L2
open PySem PySem.W PySem.Spec PyProof.Rows
theorem call_isinstK {X:Cx} {K:PySem.W.Frag} (h:X.K=K):CallR X (.builtin "isinstance") (fun xs H Q=>∃ x t c b,xs=[x,.ty c]∧TyOf K H x t∧PySem.W.kitOne K t (.type c)=some b∧Q (.bl b) H):=h ▸ call_isinst
end L2
namespace HT
open PySem PyProof.Rows
end HT
namespace L2
open PySem PySem.W PySem.Spec PyProof.Rows
end L2
namespace Rv
def River (r:List Int):Prop:=∃ rk:Nat→Nat,(∀ i,i<r.length→rk i<r.length) ∧
  ∀ (i:Nat) (x:Int),r[i]?=some x→x=-1∨(0≤x∧x<r.length∧rk x.toNat<rk i)
def nxt (r:List Int) (p:Int):Int:=r.getD p.toNat (-1)
theorem get_nxt {r:List Int} {p:Int} (h0:0≤p) (h1:p<r.length):r[p.toNat]?=some (nxt r p):=by
  have h:p.toNat<r.length:=by omega
  unfold nxt
  rw [List.getD_eq_getElem?_getD,List.getElem?_eq_getElem h];rfl
theorem River.step {r:List Int} (h:River r) {p:Int} (h0:0≤p) (h1:p<r.length):nxt r p=-1∨(0≤nxt r p∧nxt r p<r.length):=by
  obtain ⟨rk,_,h3⟩:=h
  rcases h3 _ _ (get_nxt h0 h1) with e | ⟨a,b,_⟩
  · exact .inl e
  · exact .inr ⟨a,b⟩
def walkF (r:List Int):Nat→Int→List Int
  | 0,_=>[]
  | f + 1,p=>if p=-1 then [] else p :: walkF r f (nxt r p)
def walk (r:List Int) (p:Int):List Int:=walkF r (r.length + 1) p
theorem walkF_neg (r:List Int) (f:Nat):walkF r f (-1)=[]:=by
  cases f with
  | zero=>rfl
  | succ f=>unfold walkF;rw [if_pos rfl]
theorem walk_neg (r:List Int):walk r (-1)=[]:=walkF_neg r _
theorem walkF_stable {r:List Int} {rk:Nat→Nat} (h:∀ (i:Nat) (x:Int),r[i]?=some x→x=-1∨(0≤x∧x<r.length∧rk x.toNat<rk i)) :
    ∀ (f g:Nat) (p:Int),0≤p→p<r.length→rk p.toNat<f→rk p.toNat<g→walkF r f p=walkF r g p
  | 0,_,_,_,_,hf,_=>by omega
  | _ + 1,0,_,_,_,_,hg=>by omega
  | f + 1,g + 1,p,h0,h1,hf,hg=>by
    unfold walkF
    rw [if_neg (by omega),if_neg (by omega)]
    rcases h _ _ (get_nxt h0 h1) with e | ⟨a,b,c⟩
    · rw [e,walkF_neg,walkF_neg]
    · rw [walkF_stable h f g _ a b (by omega) (by omega)]
theorem walk_cons {r:List Int} (h:River r) {p:Int} (h0:0≤p) (h1:p<r.length):walk r p=p :: walk r (nxt r p):=by
  obtain ⟨rk,h2,h3⟩:=h
  show walkF r (r.length + 1) p=_
  unfold walkF
  rw [if_neg (by omega)]
  rcases h3 _ _ (get_nxt h0 h1) with e | ⟨a,b,c⟩
  · rw [e,walkF_neg,walk_neg]
  · have:=h2 p.toNat (by omega)
    unfold walk
    rw [walkF_stable h3 r.length (r.length + 1) _ a b (by omega) (by omega)]
theorem walkF_len (r:List Int):∀ (f:Nat) (p:Int),(walkF r f p).length≤f
  | 0,_=>Nat.le_refl _
  | f + 1,p=>by
    unfold walkF
    split
    · exact Nat.zero_le _
    · exact Nat.succ_le_succ (walkF_len r f _)
theorem walk_len (r:List Int) (p:Int):(walk r p).length≤r.length + 1:=walkF_len r _ _
theorem River.ind {r:List Int} (h:River r) {P:Int→Prop} (hm:P (-1)) (hs:∀ p:Int,0≤p→p<r.length→P (nxt r p)→P p):∀ p:Int,0≤p→p<r.length→P p:=by
  obtain ⟨rk,_,h3⟩:=h
  have key:∀ (n:Nat) (p:Int),0≤p→p<r.length→rk p.toNat<n→P p:=by
    intro n
    induction n with
    | zero=>intro p _ _ h;omega
    | succ n ih =>
      intro p h0 h1 h2
      refine hs p h0 h1 ?_
      rcases h3 _ _ (get_nxt h0 h1) with e | ⟨a,b,c⟩
      · rw [e];exact hm
      · exact ih _ a b (by omega)
  exact fun p h0 h1=>key _ p h0 h1 (Nat.lt_succ_self _)
theorem walk_mem {r:List Int} (h:River r):∀ p:Int,0≤p→p<r.length→∀ q∈walk r p,0≤q∧q<r.length:=by
  refine h.ind (P:=fun p=>∀ q∈walk r p,0≤q∧q<r.length) ?_ ?_
  · intro q hq;rw [walk_neg] at hq;cases hq
  · intro p h0 h1 ih q hq
    rw [walk_cons h h0 h1] at hq
    rcases List.mem_cons.mp hq with e | e
    · rw [e];exact ⟨h0,h1⟩
    · exact ih q e
noncomputable def mea (r:List Int) (p:Int):Nat:=(walk r p).length
theorem mea_lt {r:List Int} (h:River r) {p:Int} (h0:0≤p) (h1:p<r.length):mea r (nxt r p)<mea r p:=by
  unfold mea;rw [walk_cons h h0 h1];exact Nat.lt_succ_self _
theorem walk_nd_rk {r:List Int} (h:River r):∃ rk:Nat→Nat,∀ p:Int,0≤p→p<r.length→(walk r p).Nodup∧∀ q∈walk r p,rk q.toNat≤rk p.toNat:=by
  obtain ⟨rk,h2,h3⟩:=id h
  refine ⟨rk,?_⟩
  have key:=h.ind (P:=fun p=>(walk r p).Nodup∧(0≤p→∀ q∈walk r p,rk q.toNat≤rk p.toNat)) ?_ ?_
  · exact fun p h0 h1=>⟨(key p h0 h1).1,(key p h0 h1).2 h0⟩
  · rw [walk_neg];exact ⟨List.nodup_nil,fun h=>by omega⟩
  · intro p h0 h1 ⟨nd,ih⟩
    rw [walk_cons h h0 h1]
    rcases h3 _ _ (get_nxt h0 h1) with e | ⟨a,b,c⟩
    · rw [e,walk_neg]
      refine ⟨by simp,fun _ q hq=>?_⟩
      have:q=p:=by simpa using hq
      rw [this];exact Nat.le_refl _
    · have ih':=ih a
      refine ⟨List.nodup_cons.mpr ⟨fun hm=>?_,nd⟩,fun _ q hq=>?_⟩
      · have:=ih' p hm
        omega
      · rcases List.mem_cons.mp hq with e | e
        · rw [e];exact Nat.le_refl _
        · have:=ih' q e;omega
theorem walk_nd {r:List Int} (h:River r) {p:Int} (h0:0≤p) (h1:p<r.length):(walk r p).Nodup:=by
  obtain ⟨rk,k⟩:=walk_nd_rk h
  exact (k p h0 h1).1
end Rv
namespace Rv
def tot:Nat→(Nat→Int)→Int
  | 0,_=>0
  | n + 1,f=>tot n f + f n
theorem tot_congr {n:Nat} {f g:Nat→Int} (h:∀ i,i<n→f i=g i):tot n f=tot n g:=by
  induction n with
  | zero=>rfl
  | succ n ih=>unfold tot;rw [ih fun i hi=>h i (by omega),h n (by omega)]
theorem tot_add (n:Nat) (f g:Nat→Int):tot n (fun i=>f i + g i)=tot n f + tot n g:=by
  induction n with
  | zero=>rfl
  | succ n ih=>unfold tot;rw [ih];dsimp only;omega
theorem tot_zero {n:Nat} {f:Nat→Int} (h:∀ i,i<n→f i=0):tot n f=0:=by
  induction n with
  | zero=>rfl
  | succ n ih=>unfold tot;rw [ih fun i hi=>h i (by omega),h n (by omega)];rfl
theorem tot_swap (n m:Nat) (f:Nat→Nat→Int):tot n (fun i=>tot m (fun j=>f i j))=tot m (fun j=>tot n (fun i=>f i j)):=by
  induction n with
  | zero=>exact (tot_zero fun _ _=>rfl).symm
  | succ n ih=>show tot n _ + tot m _=_;rw [ih,← tot_add];rfl
theorem tot_one {n k:Nat} (f:Nat→Int) (hk:k<n):tot n (fun i=>if i=k then f i else 0)=f k:=by
  induction n with
  | zero=>omega
  | succ n ih =>
    unfold tot
    dsimp only
    by_cases h:k=n
    · subst h
      rw [if_pos rfl,tot_zero fun i hi=>if_neg (by omega)];omega
    · rw [ih (by omega),if_neg (fun (z:n=k)=>h z.symm)];omega
theorem tot_mul (n:Nat) (c:Int) (f:Nat→Int):tot n (fun i=>c * f i)=c * tot n f:=by
  induction n with
  | zero=>simp [tot]
  | succ n ih=>unfold tot;rw [ih,Int.mul_add]
theorem tot_ite (n:Nat) (f:Nat→Int) (p:Prop) [Decidable p]:tot n (fun i=>if p then f i else 0)=if p then tot n f else 0:=by
  by_cases h:p
  · rw [if_pos h];exact tot_congr fun i _=>if_pos h
  · rw [if_neg h];exact tot_zero fun i _=>if_neg h
def lsum:List Nat→(Nat→Int)→Int
  | [],_=>0
  | k :: l,f=>f k + lsum l f
theorem lsum_app (f:Nat→Int):∀ (l m:List Nat),lsum (l++m) f=lsum l f + lsum m f
  | [],m=>by show _=0 + _;rw [Int.zero_add];rfl
  | k :: l,m=>by show f k + lsum (l++m) f=f k + lsum l f + lsum m f;rw [lsum_app f l m];omega
theorem lsum_perm {f:Nat→Int} {l m:List Nat} (h:l.Perm m):lsum l f=lsum m f:=by
  induction h with
  | nil=>rfl
  | cons k _ ih=>show f k + _=f k + _;rw [ih]
  | swap a b l=>show f b + (f a + _)=f a + (f b + _);omega
  | trans _ _ h1 h2=>exact h1.trans h2
theorem lsum_range (f:Nat→Int):∀ n,lsum (List.range n) f=tot n f
  | 0=>rfl
  | n + 1=>by rw [List.range_succ,lsum_app,lsum_range f n];show _ + (f n + 0)=_ + f n;omega
theorem lsum_zero {f:Nat→Int}:∀ {l:List Nat},(∀ k∈l,f k=0)→lsum l f=0
  | [],_=>rfl
  | k :: l,h=>by show f k + lsum l f=0;rw [h k List.mem_cons_self,lsum_zero fun j hj=>h j (List.mem_cons_of_mem _ hj)];rfl
def one (p:Prop) [Decidable p]:Int:=if p then 1 else 0
def natf (r s:List Int) (i:Int):Int:=tot r.length fun j=>if i∈walk r (j:Int) then s.getD j 0 else 0
theorem met {r:List Int} (h:River r) {i:Int} (hi:0≤i):∀ p:Int,0≤p→p<r.length→one (i∈walk r p)=one (p=i) + tot r.length fun k=>if nxt r (k:Int)=i then one ((k:Int)∈walk r p) else 0:=by
  have key:=h.ind (P:=fun p=>(p=-1∨(0≤p∧p<r.length))→one (i∈walk r p)=one (p=i) + tot r.length fun k=>if nxt r (k:Int)=i then one ((k:Int)∈walk r p) else 0) ?_ ?_
  · exact fun p h0 h1=>key p h0 h1 (.inr ⟨h0,h1⟩)
  · intro _
    rw [walk_neg,tot_zero fun k _=>?_]
    · unfold one;rw [if_neg (by simp),if_neg (by omega)];rfl
    · unfold one;rw [if_neg (show ¬ (k:Int)∈([]:List Int) by simp)];split <;> rfl
  · intro p h0 h1 ih _
    have ih':=ih (h.step h0 h1)
    have nd:=walk_nd h h0 h1
    rw [walk_cons h h0 h1] at nd ⊢
    obtain ⟨np,_⟩:=List.nodup_cons.mp nd
    have e1:one (i∈p :: walk r (nxt r p))=one (p=i) + one (i∈walk r (nxt r p)):=by
      unfold one
      by_cases hpi:p=i
      · subst hpi
        rw [if_pos List.mem_cons_self,if_pos rfl,if_neg np];rfl
      · rw [if_neg hpi]
        by_cases hm:i∈walk r (nxt r p)
        · rw [if_pos (List.mem_cons_of_mem _ hm),if_pos hm];rfl
        · rw [if_neg hm,if_neg fun z=>?_];· rfl
          rcases List.mem_cons.mp z with z | z
          · exact hpi z.symm
          · exact hm z
    have e2:(tot r.length fun k=>if nxt r (k:Int)=i then one ((k:Int)∈p :: walk r (nxt r p)) else 0) =
        one (nxt r p=i) + tot r.length fun k=>if nxt r (k:Int)=i then one ((k:Int)∈walk r (nxt r p)) else 0:=by
      have:(tot r.length fun k=>if nxt r (k:Int)=i then one ((k:Int)∈p :: walk r (nxt r p)) else 0) =
          tot r.length fun k=>(if k=p.toNat then (fun k=>if nxt r (k:Int)=i then (1:Int) else 0) k else 0) + if nxt r (k:Int)=i then one ((k:Int)∈walk r (nxt r p)) else 0:=by
        refine tot_congr fun k hk=>?_
        by_cases hn:nxt r (k:Int)=i
        · simp only [if_pos hn]
          by_cases hkp:k=p.toNat
          · have hkp':(k:Int)=p:=by omega
            rw [if_pos hkp,hkp']
            unfold one
            rw [if_pos List.mem_cons_self,if_neg np];rfl
          · have hkp':¬ (k:Int)=p:=by omega
            rw [if_neg hkp]
            unfold one
            by_cases hm:(k:Int)∈walk r (nxt r p)
            · rw [if_pos (List.mem_cons_of_mem _ hm),if_pos hm];rfl
            · rw [if_neg hm,if_neg fun z=>?_];· rfl
              rcases List.mem_cons.mp z with z | z
              · exact hkp' z
              · exact hm z
        · simp only [if_neg hn];split <;> rfl
      rw [this,tot_add,tot_one _ (by omega)]
      have e:((p.toNat:Nat):Int)=p:=by omega
      show (if nxt r ((p.toNat:Nat):Int)=i then (1:Int) else 0) + _=_
      rw [e];rfl
    rw [e1,e2,ih']
theorem natf_rec {r:List Int} (h:River r) (s:List Int) {i:Nat} (hi:i<r.length):natf r s (i:Int)=s.getD i 0 + tot r.length fun k=>if nxt r (k:Int)=(i:Int) then natf r s (k:Int) else 0:=by
  have e:natf r s (i:Int)=tot r.length fun j=>(if j=i then s.getD j 0 else 0) + tot r.length fun k=>if nxt r (k:Int)=(i:Int) then (if (k:Int)∈walk r (j:Int) then s.getD j 0 else 0) else 0:=by
    refine tot_congr fun j hj=>?_
    have m:=met h (i:=(i:Int)) (by omega) (j:Int) (by omega) (by omega)
    have e1:(if (i:Int)∈walk r (j:Int) then s.getD j 0 else 0)=s.getD j 0 * one ((i:Int)∈walk r (j:Int)):=by unfold one;split <;> simp
    rw [e1,m,Int.mul_add,← tot_mul]
    congr 1
    · unfold one
      by_cases hji:j=i
      · rw [if_pos (by omega),if_pos hji];simp
      · rw [if_neg (by omega),if_neg hji];simp
    · refine tot_congr fun k hk=>?_
      split
      · unfold one;split <;> simp
      · simp
  rw [e,tot_add,tot_one (fun j=>s.getD j 0) hi,tot_swap]
  congr 1
  refine tot_congr fun k hk=>?_
  rw [tot_ite]
  rfl
def strch (r:List Int) (a b:Int):List Int:=if b=-1 then walk r a else (walk r a).takeWhile (fun x=>!decide (x=b))
def Stop (r:List Int) (a b:Int):Prop:=b=-1∨b∈walk r a
theorem strch_sub {r:List Int} {a b x:Int} (h:x∈strch r a b):x∈walk r a:=by
  unfold strch at h
  split at h
  · exact h
  · exact (List.takeWhile_prefix _).subset h
theorem strch_nd {r:List Int} (h:River r) {a b:Int} (h0:0≤a) (h1:a<r.length):(strch r a b).Nodup:=by
  unfold strch
  split
  · exact walk_nd h h0 h1
  · exact (walk_nd h h0 h1).sublist (List.takeWhile_sublist _)
end Rv
namespace Rv
structure Fl (n:Nat) (fl:List Int) (g:Nat→Int):Prop where
  len:fl.length=n
  at_:∀ i,i<n→fl[i]?=some (g i)
theorem Fl.of (fl:List Int):Fl fl.length fl (fun i=>fl.getD i 0):=⟨rfl,fun i hi=>by rw [List.getElem?_eq_getElem hi,List.getD_eq_getElem?_getD,List.getElem?_eq_getElem hi];rfl⟩
theorem Fl.cong {n:Nat} {fl:List Int} {g g':Nat→Int} (h:Fl n fl g) (e:∀ i,i<n→g i=g' i):Fl n fl g':=⟨h.len,fun i hi=>by rw [h.at_ i hi,e i hi]⟩
theorem Fl.set {n:Nat} {fl:List Int} {g g':Nat→Int} {j:Nat} {y:Int} (h:Fl n fl g) (hj:j<n) (e:∀ i,i<n→i≠j→g' i=g i) (ey:y=g' j):Fl n (fl.set j y) g' :=
  ⟨by rw [List.length_set];exact h.len,fun i hi=>by
    by_cases hij:i=j
    · subst hij;rw [List.getElem?_set_self (by rw [h.len];exact hj),ey]
    · rw [List.getElem?_set_ne (Ne.symm hij),h.at_ i hi,e i hi hij]⟩
theorem Fl.ext {n:Nat} {fl fl':List Int} {g:Nat→Int} (h:Fl n fl g) (h':Fl n fl' g):fl=fl':=by
  apply List.ext_getElem?
  intro i
  by_cases hi:i<n
  · rw [h.at_ i hi,h'.at_ i hi]
  · rw [List.getElem?_eq_none (by rw [h.len];omega),List.getElem?_eq_none (by rw [h'.len];omega)]
theorem Fl.map (n:Nat) (g:Nat→Int):Fl n ((List.range n).map g) g:=⟨by simp,fun i hi=>by rw [List.getElem?_map,List.getElem?_range hi];rfl⟩
def kap (r:List Int) (i:Nat):Int:=(i:Int) - 64 * ((walk r (i:Int)).length:Int)
structure Tops (r:List Int) (p:List Nat):Prop where
  perm:p.Perm (List.range r.length)
  ord:p.Pairwise fun i j=>kap r i<kap r j
theorem Tops.len {r:List Int} {p:List Nat} (h:Tops r p):p.length=r.length:=by rw [h.perm.length_eq,List.length_range]
theorem Tops.lt {r:List Int} {p:List Nat} (h:Tops r p) {j:Nat} (hj:j∈p):j<r.length:=List.mem_range.mp (h.perm.mem_iff.mp hj)
theorem Tops.first {r:List Int} {p p1 p2:List Nat} {j k:Nat} (h:Tops r p) (hR:River r) (h64:r.length<64) (e:p=p1++j :: p2) (hk:k<r.length) (hn:nxt r (k:Int)=(j:Int)):k∈p1:=by
  have hjm:j∈p:=by rw [e];simp
  have hj:=h.lt hjm
  have hkm:k∈p:=h.perm.mem_iff.mpr (List.mem_range.mpr hk)
  have hw:(walk r (k:Int)).length=(walk r (j:Int)).length + 1:=by rw [walk_cons hR (p:=(k:Int)) (by omega) (by omega),hn,List.length_cons]
  have hlt:kap r k<kap r j:=by unfold kap;omega
  rw [e] at hkm
  rcases List.mem_append.mp hkm with z | z
  · exact z
  · have ord:=h.ord
    rw [e,List.pairwise_append] at ord
    rcases List.mem_cons.mp z with z | z
    · subst z;omega
    · have:=(List.pairwise_cons.mp ord.2.1).1 k z
      omega
def nats (r s:List Int):List Int:=(List.range r.length).map fun (i:Nat)=>natf r s (i:Int)
theorem nats_fl (r s:List Int):Fl r.length (nats r s) fun i=>natf r s (i:Int):=Fl.map _ _
def NatI (r s:List Int) (p:List Nat) (t:Nat) (fl:List Int):Prop:=Fl r.length fl fun i=>s.getD i 0 + lsum (p.take t) fun k=>if nxt r (k:Int)=(i:Int) then natf r s (k:Int) else 0
theorem NatI.start (r s:List Int) (p:List Nat) (hs:s.length=r.length):NatI r s p 0 s:=by
  have:=Fl.of s
  rw [hs] at this
  exact this.cong fun i _=>by rw [List.take_zero];show _=_ + 0;omega
theorem take_cons {p:List Nat} {t j:Nat} (h:p[t]?=some j):p.take (t + 1)=p.take t++[j]:=by rw [List.take_add_one,h];rfl
theorem NatI.here {r s:List Int} {p:List Nat} {t j:Nat} {fl:List Int} (T:Tops r p) (hR:River r) (h64:r.length<64) (h:NatI r s p t fl) (hj:p[t]?=some j):fl[j]?=some (natf r s (j:Int)):=by
  have hjl:=T.lt (List.mem_of_getElem? hj)
  rw [h.at_ j hjl,natf_rec hR s hjl]
  congr 2
  rw [← lsum_range,← lsum_perm T.perm]
  obtain ⟨ht,et⟩:=List.getElem?_eq_some_iff.mp hj
  have e:p=p.take t++j :: p.drop (t + 1):=by
    rw [← et,List.getElem_cons_drop,List.take_append_drop]
  conv=>rhs;rw [e]
  rw [lsum_app]
  have z:lsum (j :: p.drop (t + 1)) (fun k=>if nxt r (k:Int)=(j:Int) then natf r s (k:Int) else 0)=0:=by
    refine lsum_zero fun k hk=>if_neg fun hn=>?_
    have hkp:k∈p:=by rw [e];exact List.mem_append_right _ hk
    have h1:=T.first hR h64 e (T.lt hkp) hn
    have nd:p.Nodup:=T.perm.nodup_iff.mpr List.nodup_range
    rw [e,List.nodup_append] at nd
    exact nd.2.2 k h1 k hk rfl
  rw [z];omega
theorem NatI.mouth {r s:List Int} {p:List Nat} {t j:Nat} {fl:List Int} (h:NatI r s p t fl) (hj:p[t]?=some j) (hm:nxt r (j:Int)=-1):NatI r s p (t + 1) fl :=
  Fl.cong h fun i _=>by
    rw [take_cons hj,lsum_app]
    show _=_ + (_ + ((if nxt r (j:Int)=(i:Int) then natf r s (j:Int) else 0) + 0))
    rw [if_neg (by omega)];omega
theorem NatI.turn {r s:List Int} {p:List Nat} {t j b:Nat} {fl:List Int} (T:Tops r p) (hR:River r) (h64:r.length<64) (h:NatI r s p t fl) (hj:p[t]?=some j) (hb:nxt r (j:Int)=(b:Int)) (hbl:b<r.length) {x:Int} (hx:fl[b]?=some x) :
    NatI r s p (t + 1) (fl.set b (x + natf r s (j:Int))):=by
  refine Fl.set h hbl (fun i _ hib=>?_) ?_
  · rw [take_cons hj,lsum_app]
    show _ + (_ + ((if nxt r (j:Int)=(i:Int) then natf r s (j:Int) else 0) + 0))=_
    rw [if_neg (by omega)];omega
  · rw [h.at_ b hbl] at hx
    rw [← Option.some.inj hx,take_cons hj,lsum_app]
    show _=_ + (_ + ((if nxt r (j:Int)=(b:Int) then natf r s (j:Int) else 0) + 0))
    rw [if_pos hb];omega
theorem NatI.done {r s:List Int} {p:List Nat} {fl:List Int} (T:Tops r p) (hR:River r) (h:NatI r s p r.length fl):fl=nats r s:=by
  refine Fl.ext (g:=fun i=>natf r s (i:Int)) (Fl.cong h fun i hi=>?_) (nats_fl r s)
  rw [← T.len,List.take_length,natf_rec hR s hi,← lsum_range,lsum_perm T.perm]
abbrev Mv:=Int × Int × Int
def msum (r:List Int) (ms:List Mv) (i:Int):Int:=(ms.map fun m=>if i∈strch r m.1 m.2.1 then m.2.2 else 0).sum
theorem msum_snoc (r:List Int) (ms:List Mv) (m:Mv) (i:Int):msum r (ms++[m]) i=msum r ms i + if i∈strch r m.1 m.2.1 then m.2.2 else 0:=by
  unfold msum;rw [List.map_append,List.sum_append];simp
def flws (r s:List Int) (ms:List Mv):List Int:=(List.range r.length).map fun (i:Nat)=>natf r s (i:Int) - msum r ms (i:Int)
theorem flws_fl (r s:List Int) (ms:List Mv):Fl r.length (flws r s ms) fun i=>natf r s (i:Int) - msum r ms (i:Int):=Fl.map _ _
def MvI (r:List Int) (g:Nat→Int) (am:Int) (pre:List Int) (fl:List Int):Prop:=Fl r.length fl fun i=>g i - if (i:Int)∈pre then am else 0
theorem MvI.start {r:List Int} {g:Nat→Int} {fl:List Int} (am:Int) (h:Fl r.length fl g):MvI r g am [] fl:=Fl.cong h fun i _=>by rw [if_neg (by simp)];omega
theorem MvI.turn {r:List Int} {g:Nat→Int} {am:Int} {pre:List Int} {fl:List Int} (h:MvI r g am pre fl) {j:Nat} (hj:j<r.length) (hn:¬ (j:Int)∈pre) {x:Int} (hx:fl[j]?=some x):MvI r g am (pre++[(j:Int)]) (fl.set j (x - am)):=by
  refine Fl.set h hj (fun i _ hij=>?_) ?_
  · have:((i:Int)∈pre++[(j:Int)])=((i:Int)∈pre):=by
      apply propext;simp;omega
    simp only [this]
  · rw [h.at_ j hj,if_neg hn] at hx
    rw [← Option.some.inj hx,if_pos (by simp)];omega
theorem MvI.done {r s:List Int} {ms:List Mv} {m:Mv} {fl:List Int} (h:MvI r (fun i=>natf r s (i:Int) - msum r ms (i:Int)) m.2.2 (strch r m.1 m.2.1) fl):Fl r.length fl fun i=>natf r s (i:Int) - msum r (ms++[m]) (i:Int) :=
  Fl.cong h fun i _=>by rw [msum_snoc];dsimp only;omega
end Rv
namespace Rv
def GoodM (r:List Int) (m:Mv):Prop:=0≤m.1∧m.1<r.length∧Stop r m.1 m.2.1
end Rv
namespace Rv
end Rv
namespace Rv
end Rv
namespace Rv
end Rv
namespace Rv
def mths (r:List Int) (t:Nat):List Int:=((List.range t).filter fun (j:Nat)=>decide (nxt r (j:Int)=-1)).map fun (j:Nat)=>(j:Int)
theorem mths_succ (r:List Int) (t:Nat):mths r (t + 1)=mths r t++(if nxt r (t:Int)=-1 then [(t:Int)] else []):=by
  unfold mths
  rw [List.range_succ,List.filter_append,List.map_append]
  by_cases h:nxt r (t:Int)=-1
  · rw [if_pos h];simp [h]
  · rw [if_neg h];simp [h]
theorem mths_len (r:List Int) (t:Nat):(mths r t).length≤t:=by
  unfold mths
  rw [List.length_map]
  exact Nat.le_trans (List.length_filter_le _ _) (by simp)
end Rv
namespace Tn
def sumN:Nat→(Nat→Int)→Int
  | 0,_=>0
  | n + 1,f=>sumN n f + f n
theorem sumN_congr {f g:Nat→Int}:∀ {n:Nat},(∀ k,k<n→f k=g k)→sumN n f=sumN n g
  | 0,_=>rfl
  | n + 1,h=>by
    show sumN n f + f n=sumN n g + g n
    rw [sumN_congr fun k hk=>h k (by omega),h n (by omega)]
theorem sumN_le {f g:Nat→Int}:∀ {n:Nat},(∀ k,k<n→f k≤g k)→sumN n f≤sumN n g
  | 0,_=>Int.le_refl _
  | n + 1,h=>by
    show sumN n f + f n≤sumN n g + g n
    have a:=sumN_le fun k hk=>h k (Nat.lt_succ_of_lt hk)
    have b:=h n (Nat.lt_succ_self n)
    omega
theorem sumN_lt {f g:Nat→Int} {i:Nat}:∀ {n:Nat},i<n→(∀ k,k<n→f k≤g k)→f i<g i→sumN n f<sumN n g
  | 0,hi,_,_=>absurd hi (Nat.not_lt_zero _)
  | n + 1,hi,h,hl=>by
    show sumN n f + f n<sumN n g + g n
    by_cases e:i=n
    · subst e
      have a:=sumN_le fun k hk=>h k (Nat.lt_succ_of_lt hk)
      omega
    · have a:=sumN_lt (n:=n) (by omega) (fun k hk=>h k (Nat.lt_succ_of_lt hk)) hl
      have b:=h n (Nat.lt_succ_self n)
      omega
theorem sumN_add (f g:Nat→Int):∀ n:Nat,sumN n (fun k=>f k + g k)=sumN n f + sumN n g
  | 0=>rfl
  | n + 1=>by
    show sumN n _ + (f n + g n)=sumN n f + f n + (sumN n g + g n)
    rw [sumN_add f g n];omega
theorem sumN_sub (f g:Nat→Int):∀ n:Nat,sumN n (fun k=>f k - g k)=sumN n f - sumN n g
  | 0=>rfl
  | n + 1=>by
    show sumN n _ + (f n - g n)=sumN n f + f n - (sumN n g + g n)
    rw [sumN_sub f g n];omega
theorem sumN_zero:∀ n:Nat,sumN n (fun _=>0)=0
  | 0=>rfl
  | n + 1=>by show sumN n _ + 0=0;rw [sumN_zero n];rfl
theorem sumN_one {i:Nat} (c:Int):∀ {n:Nat},i<n→sumN n (fun k=>if k=i then c else 0)=c
  | 0,hi=>absurd hi (Nat.not_lt_zero _)
  | n + 1,hi=>by
    show sumN n _ + (if n=i then c else 0)=c
    by_cases e:n=i
    · subst e
      rw [if_pos rfl,sumN_congr (g:=fun _=>0) fun k hk=>if_neg (by omega),sumN_zero];omega
    · rw [if_neg e,sumN_one c (by omega)];omega
theorem sumN_nn {f:Nat→Int} {n:Nat} (h:∀ k,k<n→0≤f k):0≤sumN n f:=by
  have:=sumN_le (f:=fun _=>0) (g:=f) h
  rw [sumN_zero] at this;exact this
theorem sumN_one_le {f:Nat→Int} {n i:Nat} (hi:i<n) (h:∀ k,k<n→0≤f k):f i≤sumN n f:=by
  have:=sumN_le (f:=fun k=>if k=i then f i else 0) (g:=f) (n:=n) fun k hk=>by
    by_cases e:k=i
    · subst e;rw [if_pos rfl];exact Int.le_refl _
    · rw [if_neg e];exact h k hk
  rw [sumN_one _ hi] at this;exact this
def hold (n:Nat) (W:Nat→List Int) (x:Nat→Int) (r:Int):Int:=sumN n fun k=>if r∈W k then x k else 0
theorem hold_lt {n i:Nat} {W:Nat→List Int} {x y:Nat→Int} {r:Int} (hi:i<n) (hr:r∈W i) (h:∀ k,k<n→r∈W k→x k≤y k) (hl:x i<y i):hold n W x r<hold n W y r :=
  sumN_lt hi (fun k hk=>by
    by_cases e:r∈W k
    · rw [if_pos e,if_pos e];exact h k hk e
    · rw [if_neg e,if_neg e];exact Int.le_refl _) (by rw [if_pos hr,if_pos hr];exact hl)
theorem hold_congr {n:Nat} {W:Nat→List Int} {x y:Nat→Int} {r:Int} (h:∀ k,k<n→r∈W k→x k=y k):hold n W x r=hold n W y r :=
  sumN_congr fun k hk=>by
    by_cases e:r∈W k
    · rw [if_pos e,if_pos e];exact h k hk e
    · rw [if_neg e,if_neg e]
def put (x:Nat→Int) (i:Nat) (c:Int):Nat→Int:=fun k=>if k=i then x k + c else x k
theorem put_same (x:Nat→Int) (i:Nat) (c:Int):put x i c i=x i + c:=if_pos rfl
theorem put_ne {x:Nat→Int} {i k:Nat} {c:Int} (h:k≠i):put x i c k=x k:=if_neg h
theorem hold_put {n i:Nat} {W:Nat→List Int} {x:Nat→Int} {r c:Int} (hi:i<n):hold n W (put x i c) r=hold n W x r + (if r∈W i then c else 0):=by
  have e:∀ k,k<n→(if r∈W k then put x i c k else 0)=(if r∈W k then x k else 0) + (if k=i then (if r∈W i then c else 0) else 0):=fun k _=>by
    by_cases h1:r∈W k
    · by_cases h2:k=i
      · subst h2;simp [put,h1]
      · simp [put,h1,h2]
    · by_cases h2:k=i
      · subst h2;simp [h1]
      · simp [h1,h2]
  unfold hold
  rw [sumN_congr e,sumN_add,sumN_one _ hi]
theorem hold_zero (n:Nat) (W:Nat→List Int) (r:Int):hold n W (fun _=>0) r=0:=by
  unfold hold
  rw [sumN_congr (g:=fun _=>0) fun k _=>by split <;> rfl,sumN_zero]
def Ahead (d n i d' m j:Int):Prop:=d<d'∨d=d'∧(n<m∨n=m∧i<j)
structure Fit (n:Nat) (F:Int→Int) (W:Nat→List Int) (want x:Nat→Int):Prop where
  nn:∀ k,k<n→0≤x k
  le:∀ k,k<n→x k≤want k
  fits:∀ r,(∃ k,k<n∧r∈W k)→hold n W x r≤F r
def ShowsAt (n:Nat) (F:Int→Int) (W:Nat→List Int) (day x:Nat→Int) (k:Nat) (r:Int):Prop :=
  r∈W k∧hold n W x r=F r∧∀ j,j<n→r∈W j→0<x j→Ahead (day j) (x j) j (day k) (x k + 1) k
def Shown (n:Nat) (F:Int→Int) (W:Nat→List Int) (day want x:Nat→Int):Prop :=
  ∀ k,k<n→x k<want k→∃ r,ShowsAt n F W day x k r
theorem exists_min {P:Nat→Prop} (f:Nat→Nat) (h:∃ k,P k):∃ k,P k∧∀ j,P j→f k≤f j:=by
  obtain ⟨k,hk⟩:=h
  have key:∀ (m k:Nat),f k≤m→P k→∃ k,P k∧∀ j,P j→f k≤f j:=by
    intro m
    induction m with
    | zero=>intro k hk hp;exact ⟨k,hp,fun j _=>by omega⟩
    | succ m ih =>
      intro k hk hp
      by_cases hx:∃ j,P j∧f j<f k
      · obtain ⟨j,hj,hl⟩:=hx
        exact ih j (by omega) hj
      · exact ⟨k,hp,fun j hj=>Classical.byContradiction fun hn=>hx ⟨j,hj,by omega⟩⟩
  exact key (f k) k (Nat.le_refl _) hk
theorem exists_minI {P:Nat→Prop} (f:Nat→Int) (b:Int) (hb:∀ k,P k→b≤f k) (h:∃ k,P k):∃ k,P k∧∀ j,P j→f k≤f j:=by
  obtain ⟨k,hk,hm⟩:=exists_min (fun k=>(f k - b).toNat) h
  refine ⟨k,hk,fun j hj=>?_⟩
  have a1:=hm j hj
  have a2:=hb k hk
  have a3:=hb j hj
  omega
theorem first_diff {n:Nat} {day x y:Nat→Int} (hd:∀ k,k<n→0≤day k) (hx:∀ k,k<n→0≤x k) (hy:∀ k,k<n→0≤y k) (h:∃ k,k<n∧x k≠y k) :
    ∃ k,k<n∧x k≠y k∧∀ j,j<n→x j≠y j→j=k∨Ahead (day k) (min (x k) (y k)) k (day j) (min (x j) (y j)) j:=by
  obtain ⟨k1,p1,m1⟩:=exists_minI (P:=fun k=>k<n∧x k≠y k) day 0 (fun k hk=>hd k hk.1) h
  obtain ⟨k2,p2,m2⟩:=exists_minI (P:=fun k=>(k<n∧x k≠y k)∧day k=day k1) (fun k=>min (x k) (y k)) 0 (fun k hk=>by
    have a:=hx k hk.1.1
    have b:=hy k hk.1.1
    show (0:Int)≤min (x k) (y k)
    omega) ⟨k1,p1,rfl⟩
  obtain ⟨k3,p3,m3⟩:=exists_min (P:=fun k=>((k<n∧x k≠y k)∧day k=day k1)∧min (x k) (y k)=min (x k2) (y k2)) (fun k=>k) ⟨k2,p2,rfl⟩
  refine ⟨k3,p3.1.1.1,p3.1.1.2,fun j hj hne=>?_⟩
  have a1:=m1 j ⟨hj,hne⟩
  have a2:=p3.1.2
  by_cases hday:day j=day k1
  · have b1:=m2 j ⟨⟨hj,hne⟩,hday⟩
    have b2:=p3.2
    by_cases hmin:min (x j) (y j)=min (x k2) (y k2)
    · have c1:=m3 j ⟨⟨⟨hj,hne⟩,hday⟩,hmin⟩
      by_cases e:j=k3
      · exact .inl e
      · exact .inr (.inr ⟨by omega,.inr ⟨by omega,by omega⟩⟩)
    · refine .inr (.inr ⟨by omega,.inl ?_⟩)
      have b3:min (x k2) (y k2)≤min (x j) (y j):=b1
      omega
  · exact .inr (.inl (by omega))
theorem first_is_dealt {n:Nat} {F:Int→Int} {W:Nat→List Int} {day want x y:Nat→Int} (sx:Shown n F W day want x) (fy:Fit n F W want y)
    {k:Nat} (hk:k<n) (hne:x k≠y k) (hm:∀ j,j<n→x j≠y j→j=k∨Ahead (day k) (min (x k) (y k)) k (day j) (min (x j) (y j)) j):y k<x k:=by
  refine Classical.byContradiction fun hn=>?_
  have hlt:x k<y k:=by omega
  obtain ⟨r,hr,hF,hall⟩:=sx k hk (by have:=fy.le k hk;omega)
  have h1:hold n W x r<hold n W y r:=hold_lt hk hr (fun j hj hrj=>by
    refine Classical.byContradiction fun hle=>?_
    have hyx:y j<x j:=by omega
    have hjk:j≠k:=fun e=>by subst e;omega
    have hy0:=fy.nn j hj
    rcases hm j hj (by omega) with e | a
    · exact hjk e
    · rw [show min (x k) (y k)=x k by omega,show min (x j) (y j)=y j by omega] at a
      have b:=hall j hj hrj (by omega)
      unfold Ahead at a b
      omega) hlt
  have h2:=fy.fits r ⟨k,hk,hr⟩
  omega
theorem unique {n:Nat} {F:Int→Int} {W:Nat→List Int} {day want x y:Nat→Int} (hd:∀ k,k<n→0≤day k) (fx:Fit n F W want x) (sx:Shown n F W day want x) (fy:Fit n F W want y) (sy:Shown n F W day want y) :
    ∀ k,k<n→x k=y k:=by
  refine Classical.byContradiction fun hn=>?_
  have hex:∃ k,k<n∧x k≠y k:=Classical.byContradiction fun h=>hn fun k hk=>Classical.byContradiction fun hne=>h ⟨k,hk,hne⟩
  obtain ⟨k,hk,hne,hm⟩:=first_diff hd fx.nn fy.nn hex
  have a:=first_is_dealt sx fy hk hne hm
  have b:=first_is_dealt sy fx hk (Ne.symm hne) fun j hj h=>by
    rw [show min (y k) (x k)=min (x k) (y k) by omega,show min (y j) (x j)=min (x j) (y j) by omega]
    exact hm j hj (Ne.symm h)
  omega
end Tn
namespace Tn
def d0:Nat→Int:=fun _=>0
structure TInv (n:Nat) (F:Int→Int) (W:Nat→List Int) (want x:Nat→Int) (G:Nat→Bool) (t:Int):Prop where
  fit:Fit n F W want x
  go:∀ k,G k=true→k<n∧x k=t
  top:∀ k,k<n→x k≤t
  done:∀ k,k<n→G k=false→x k<want k→∃ r,ShowsAt n F W d0 x k r
theorem TInv.start {n:Nat} {F:Int→Int} {W:Nat→List Int} {want:Nat→Int} (hw:∀ k,k<n→0≤want k) (hF:∀ r,(∃ k,k<n∧r∈W k)→0≤F r) :
    TInv n F W want (fun _=>0) (fun k=>decide (k<n)) 0 :=
  ⟨⟨fun _ _=>Int.le_refl _,hw,fun r hr=>by rw [hold_zero];exact hF r hr⟩,fun k hk=>⟨by simpa using hk,rfl⟩,fun _ _=>Int.le_refl _,fun k hk hg=>by simp [hk] at hg⟩
theorem TInv.finish {n:Nat} {F:Int→Int} {W:Nat→List Int} {want x:Nat→Int} {G:Nat→Bool} {t:Int} (h:TInv n F W want x G t) (hG:∀ k,k<n→G k=false):Fit n F W want x∧Shown n F W d0 want x :=
  ⟨h.fit,fun k hk hl=>h.done k hk (hG k hk) hl⟩
def cnt (n:Nat) (W:Nat→List Int) (G:Nat→Bool) (r:Int):Int:=hold n W (fun k=>if G k then 1 else 0) r
def jump (x:Nat→Int) (G:Nat→Bool) (m:Int):Nat→Int:=fun k=>if G k then x k + m else x k
theorem hold_jump (n:Nat) (W:Nat→List Int) (x:Nat→Int) (G:Nat→Bool) (m r:Int):hold n W (jump x G m) r=hold n W x r + m * cnt n W G r:=by
  unfold cnt hold jump
  induction n with
  | zero=>simp [sumN]
  | succ n ih =>
    simp only [sumN]
    rw [ih,Int.mul_add]
    by_cases h1:r∈W n
    · by_cases h2:G n=true
      · simp [h1,h2];omega
      · simp [h1,h2];omega
    · simp [h1]
theorem cnt_pos {n:Nat} {W:Nat→List Int} {G:Nat→Bool} {r:Int} {j:Nat} (hj:j<n) (hr:r∈W j) (hg:G j=true):0<cnt n W G r:=by
  have h:=sumN_one_le (f:=fun k=>if r∈W k then (if G k then (1:Int) else 0) else 0) hj fun k _=>by
    split
    · split <;> decide
    · decide
  simp only [hr,hg,if_true] at h
  show 0<sumN n fun k=>if r∈W k then (if G k then (1:Int) else 0) else 0
  omega
theorem cnt_nn (n:Nat) (W:Nat→List Int) (G:Nat→Bool) (r:Int):0≤cnt n W G r:=sumN_nn fun k _=>by
  show (0:Int)≤if r∈W k then (if G k then (1:Int) else 0) else 0
  split
  · split <;> decide
  · decide
theorem TInv.jump {n:Nat} {F:Int→Int} {W:Nat→List Int} {want x:Nat→Int} {G:Nat→Bool} {t m:Int} (h:TInv n F W want x G t) (hm:0≤m) (h1:∀ k,G k=true→x k + m≤want k)
    (h2:∀ r,(∃ k,k<n∧r∈W k)→m * cnt n W G r≤F r - hold n W x r):TInv n F W want (jump x G m) G (t + m):=by
  refine ⟨⟨fun k hk=>?_,fun k hk=>?_,fun r hr=>?_⟩,fun k hk=>⟨(h.go k hk).1,?_⟩,fun k hk=>?_,fun k hk hg hl=>?_⟩
  · have:=h.fit.nn k hk
    unfold Tn.jump;split <;> omega
  · unfold Tn.jump
    split
    · rename_i hg;exact h1 k hg
    · exact h.fit.le k hk
  · rw [hold_jump]
    have:=h2 r hr
    omega
  · unfold Tn.jump
    rw [if_pos hk,(h.go k hk).2]
  · have:=h.top k hk
    unfold Tn.jump;split <;> omega
  · have ek:Tn.jump x G m k=x k:=by unfold Tn.jump;rw [hg];rfl
    rw [ek] at hl
    obtain ⟨r,hr,hF,hall⟩:=h.done k hk hg hl
    by_cases hm0:m=0
    · have e:Tn.jump x G m=x:=by
        funext j
        unfold Tn.jump
        split <;> omega
      rw [e]
      exact ⟨r,hr,hF,hall⟩
    · have hc:=h2 r ⟨k,hk,hr⟩
      have hno:∀ j,j<n→r∈W j→G j=false:=fun j hj hrj=>by
        cases hgj:G j with
        | false=>rfl
        | true =>
          exfalso
          have p:=cnt_pos hj hrj hgj
          have q:0<m * cnt n W G r:=Int.mul_pos (by omega) p
          omega
      have same:∀ j,j<n→r∈W j→Tn.jump x G m j=x j:=fun j hj hrj=>by unfold Tn.jump;rw [hno j hj hrj];rfl
      refine ⟨r,hr,?_,fun j hj hrj hp=>?_⟩
      · rw [hold_congr (y:=x) same];exact hF
      · rw [same j hj hrj] at hp ⊢
        rw [ek]
        exact hall j hj hrj hp
structure PInv (n:Nat) (F:Int→Int) (W:Nat→List Int) (want x:Nat→Int) (G S:Nat→Bool) (t:Int) (p:Nat):Prop where
  fit:Fit n F W want x
  still:∀ k,S k=true→k<p∧k<n∧x k=t + 1
  wait:∀ k,k<n→G k=true→p≤k→x k=t
  low:∀ k,k<n→S k=false→x k≤t
  done:∀ k,k<n→S k=false→(k<p∨G k=false)→x k<want k→∃ r,ShowsAt n F W d0 x k r
theorem TInv.pass {n:Nat} {F:Int→Int} {W:Nat→List Int} {want x:Nat→Int} {G:Nat→Bool} {t:Int} (h:TInv n F W want x G t):PInv n F W want x G (fun _=>false) t 0 :=
  ⟨h.fit,(fun _ hk=>by cases hk),fun k _ hg _=>(h.go k hg).2,fun k hk _=>h.top k hk,fun k hk _ hg hl=>by
    rcases hg with z | z
    · exact absurd z (Nat.not_lt_zero _)
    · exact h.done k hk z hl⟩
theorem PInv.skip {n:Nat} {F:Int→Int} {W:Nat→List Int} {want x:Nat→Int} {G S:Nat→Bool} {t:Int} {p q:Nat} (h:PInv n F W want x G S t p) (hpq:p≤q) (hno:∀ k,p≤k→k<q→G k=false):PInv n F W want x G S t q :=
  ⟨h.fit,fun k hk=>⟨by have:=(h.still k hk).1;omega,(h.still k hk).2⟩,fun k hk hg hq=>h.wait k hk hg (by omega),h.low,fun k hk hs hg hl=>by
    refine h.done k hk hs ?_ hl
    rcases hg with z | z
    · by_cases e:k<p
      · exact .inl e
      · exact .inr (hno k (by omega) z)
    · exact .inr z⟩
theorem PInv.gets {n:Nat} {F:Int→Int} {W:Nat→List Int} {want x:Nat→Int} {G S:Nat→Bool} {t:Int} {p:Nat} (h:PInv n F W want x G S t p) (hp:p<n) (hg:G p=true) (hw:x p<want p) (hfree:∀ r,r∈W p→0<F r - hold n W x r) :
    PInv n F W want (put x p 1) G (fun k=>if k=p then true else S k) t (p + 1):=by
  have xp:=h.wait p hp hg (Nat.le_refl _)
  refine ⟨⟨fun k hk=>?_,fun k hk=>?_,fun r hr=>?_⟩,fun k hk=>?_,fun k hk hg hq=>?_,fun k hk hs=>?_,fun k hk hs hq hl=>?_⟩
  · have:=h.fit.nn k hk
    unfold put;split <;> omega
  · by_cases e:k=p
    · subst e;rw [put_same];omega
    · rw [put_ne e];exact h.fit.le k hk
  · rw [hold_put hp]
    by_cases e:r∈W p
    · rw [if_pos e];have:=hfree r e;omega
    · rw [if_neg e];have:=h.fit.fits r hr;omega
  · by_cases e:k=p
    · subst e;rw [put_same];exact ⟨by omega,hp,by omega⟩
    · simp only [e,if_false] at hk
      obtain ⟨a,b,c⟩:=h.still k hk
      rw [put_ne e];exact ⟨by omega,b,c⟩
  · rw [put_ne (by omega)];exact h.wait k hk hg (by omega)
  · by_cases e:k=p
    · simp [e] at hs
    · simp only [e,if_false] at hs
      rw [put_ne e];exact h.low k hk hs
  · by_cases e:k=p
    · simp [e] at hs
    · simp only [e,if_false] at hs
      rw [put_ne e] at hl
      obtain ⟨r,hr,hF,hall⟩:=h.done k hk hs (by
        rcases hq with z | z
        · exact .inl (by omega)
        · exact .inr z) hl
      have hrp:¬ r∈W p:=fun z=>by have:=hfree r z;omega
      refine ⟨r,hr,?_,fun j hj hrj hpos=>?_⟩
      · rw [hold_put hp,if_neg hrp];omega
      · have hjp:j≠p:=fun z=>hrp (z ▸ hrj)
        rw [put_ne hjp] at hpos ⊢
        rw [put_ne e]
        exact hall j hj hrj hpos
theorem PInv.ends {n:Nat} {F:Int→Int} {W:Nat→List Int} {want x:Nat→Int} {G S:Nat→Bool} {t:Int} {p:Nat} (h:PInv n F W want x G S t p) (hp:p<n) (hg:G p=true) (hn:want p≤x p∨∃ r,r∈W p∧F r - hold n W x r≤0) :
    PInv n F W want x G S t (p + 1):=by
  have xp:=h.wait p hp hg (Nat.le_refl _)
  refine ⟨h.fit,fun k hk=>⟨by have:=(h.still k hk).1;omega,(h.still k hk).2⟩,fun k hk hg hq=>h.wait k hk hg (by omega),h.low,fun k hk hs hq hl=>?_⟩
  by_cases e:k=p
  · subst e
    rcases hn with z | ⟨r,hr,hle⟩
    · omega
    · refine ⟨r,hr,?_,fun j hj hrj hpos=>?_⟩
      · have:=h.fit.fits r ⟨k,hk,hr⟩
        omega
      · cases hsj:S j with
        | false =>
          have:=h.low j hj hsj
          exact .inr ⟨rfl,.inl (by omega)⟩
        | true =>
          obtain ⟨a,b,c⟩:=h.still j hsj
          exact .inr ⟨rfl,.inr ⟨by omega,by omega⟩⟩
  · exact h.done k hk hs (by
      rcases hq with z | z
      · exact .inl (by omega)
      · exact .inr z) hl
theorem PInv.finish {n:Nat} {F:Int→Int} {W:Nat→List Int} {want x:Nat→Int} {G S:Nat→Bool} {t:Int} (h:PInv n F W want x G S t n):TInv n F W want x S (t + 1) :=
  ⟨h.fit,fun k hk=>(h.still k hk).2,fun k hk=>by
    cases hs:S k with
    | false=>have:=h.low k hk hs;omega
    | true=>have:=(h.still k hs).2.2;omega,fun k hk hs hl=>h.done k hk hs (.inl hk) hl⟩
end Tn
namespace Tn
def bump (xs w:List Int) (c:Int):List Int:=w.foldl (fun xs r=>xs.set r.toNat (xs.getD r.toNat 0 + c)) xs
theorem bump_nil (xs:List Int) (c:Int):bump xs [] c=xs:=rfl
theorem bump_cons (xs w:List Int) (r c:Int):bump xs (r :: w) c=bump (xs.set r.toNat (xs.getD r.toNat 0 + c)) w c:=rfl
theorem bump_snoc (xs w:List Int) (r c:Int):bump xs (w++[r]) c=(bump xs w c).set r.toNat ((bump xs w c).getD r.toNat 0 + c):=by
  unfold bump;rw [List.foldl_append];rfl
theorem bump_len:∀ (w xs:List Int) (c:Int),(bump xs w c).length=xs.length
  | [],_,_=>rfl
  | r :: w,xs,c=>by rw [bump_cons,bump_len w,List.length_set]
theorem getD_set {xs:List Int} {i k:Nat} {v:Int} (hi:i<xs.length):(xs.set i v).getD k 0=if k=i then v else xs.getD k 0:=by
  rw [List.getD_eq_getElem?_getD,List.getElem?_set,List.getD_eq_getElem?_getD]
  by_cases h:i=k
  · subst h;simp [hi]
  · have h':¬ k=i:=fun e=>h e.symm
    simp [h,h']
theorem bump_get:∀ {w xs:List Int} {c:Int},w.Nodup→(∀ r∈w,0≤r∧r<xs.length)→∀ k:Nat,(bump xs w c).getD k 0=xs.getD k 0 + (if (k:Int)∈w then c else 0)
  | [],xs,c,_,_,k=>by simp [bump_nil]
  | r :: w,xs,c,hw,hin,k=>by
    rw [List.nodup_cons] at hw
    obtain ⟨r0,r1⟩:=hin r List.mem_cons_self
    have hl:r.toNat<xs.length:=by omega
    rw [bump_cons,bump_get hw.2 (fun q hq=>by rw [List.length_set];exact hin q (List.mem_cons_of_mem _ hq)) k,getD_set hl]
    by_cases e:k=r.toNat
    · have ek:(k:Int)=r:=by omega
      have hn:¬ (k:Int)∈w:=by rw [ek];exact hw.1
      rw [if_pos e,if_neg hn,if_pos (by rw [ek];exact List.mem_cons_self),e];omega
    · have ek:¬ (k:Int)=r:=by omega
      rw [if_neg e]
      by_cases h:(k:Int)∈w
      · rw [if_pos h,if_pos (List.mem_cons_of_mem _ h)]
      · rw [if_neg h,if_neg (fun z=>by rcases List.mem_cons.mp z with q | q;exact ek q;exact h q)]
def bumps (xs:List Int) (ps:List (List Int × Int)):List Int:=ps.foldl (fun xs p=>bump xs p.1 p.2) xs
theorem bumps_nil (xs:List Int):bumps xs []=xs:=rfl
theorem bumps_cons (xs:List Int) (p:List Int × Int) (ps:List (List Int × Int)):bumps xs (p :: ps)=bumps (bump xs p.1 p.2) ps:=rfl
theorem bumps_snoc (xs:List Int) (ps:List (List Int × Int)) (p:List Int × Int):bumps xs (ps++[p])=bump (bumps xs ps) p.1 p.2:=by
  unfold bumps;rw [List.foldl_append];rfl
theorem bumps_len:∀ (ps:List (List Int × Int)) (xs:List Int),(bumps xs ps).length=xs.length
  | [],_=>rfl
  | p :: ps,xs=>by rw [bumps_cons,bumps_len ps,bump_len]
def WOk (n:Nat) (w:List Int):Prop:=w.Nodup∧∀ r∈w,0≤r∧r<(n:Int)
theorem bumps_get:∀ {ps:List (List Int × Int)} {xs:List Int},(∀ p∈ps,WOk xs.length p.1)→∀ k:Nat,(bumps xs ps).getD k 0=xs.getD k 0 + (ps.map fun p=>if (k:Int)∈p.1 then p.2 else 0).sum
  | [],xs,_,k=>by simp [bumps_nil]
  | p :: ps,xs,h,k=>by
    have hp:=h p List.mem_cons_self
    rw [bumps_cons,bumps_get (fun q hq=>by rw [bump_len];exact h q (List.mem_cons_of_mem _ hq)) k,bump_get hp.1 hp.2 k,List.map_cons,List.sum_cons]
    omega
theorem sum_sumN {α:Type} (l:List α) (f:α→Int) (g:Nat→Int) (h:∀ k a,l[k]?=some a→g k=f a):(l.map f).sum=sumN l.length g:=by
  have key:∀ n,n≤l.length→((l.take n).map f).sum=sumN n g:=by
    intro n
    induction n with
    | zero=>intro _;rfl
    | succ n ih =>
      intro hn
      have e:l[n]?=some l[n]:=List.getElem?_eq_getElem (by omega)
      rw [List.take_succ,e,List.map_append,List.sum_append,ih (by omega)]
      show _ + (f l[n] + 0)=sumN n g + g n
      rw [h n _ e];omega
  have:=key l.length (Nat.le_refl _)
  rwa [List.take_of_length_le (Nat.le_refl _)] at this
theorem sum_some {n:Nat} {f:Nat→Int}:∀ {g:List Nat},g.Nodup→(∀ k∈g,k<n)→(g.map f).sum=sumN n fun k=>if k∈g then f k else 0
  | [],_,_=>by simp [sumN_zero]
  | a :: g,hn,hl=>by
    rw [List.nodup_cons] at hn
    rw [List.map_cons,List.sum_cons,sum_some hn.2 fun k hk=>hl k (List.mem_cons_of_mem _ hk)]
    have e:∀ k,k<n→(if k∈a :: g then f k else 0)=(if k=a then f a else 0) + (if k∈g then f k else 0):=fun k _=>by
      by_cases h:k=a
      · subst h;simp [hn.1]
      · simp [h]
    rw [sumN_congr e,sumN_add,sumN_one _ (hl a List.mem_cons_self)]
def shares (fs cs:List Int):List Int:=((fs.zip cs).filter fun p=>decide (0<p.2)).map fun p=>p.1 / p.2
def WT (fs cs rs:List Int) (M:Int):Prop:=(rs++shares fs cs=[]∧M=0)∨∃ m∈rs++shares fs cs,(∀ a∈rs++shares fs cs,m≤a)∧M=max 0 m
theorem mem_shares {fs cs:List Int} {a:Int}:a∈shares fs cs↔∃ (k:Nat) (f c:Int),fs[k]?=some f∧cs[k]?=some c∧0<c∧a=f / c:=by
  unfold shares
  simp only [List.mem_map,List.mem_filter,decide_eq_true_eq]
  constructor
  · rintro ⟨⟨f,c⟩,⟨hm,hc⟩,rfl⟩
    obtain ⟨k,hk,e⟩:=List.getElem_of_mem hm
    have e':(fs.zip cs)[k]?=some (f,c):=by rw [List.getElem?_eq_getElem hk,e]
    rw [List.getElem?_zip_eq_some] at e'
    exact ⟨k,f,c,e'.1,e'.2,hc,rfl⟩
  · rintro ⟨k,f,c,h1,h2,h3,rfl⟩
    exact ⟨(f,c),⟨List.mem_of_getElem? (i:=k) (List.getElem?_zip_eq_some.mpr ⟨h1,h2⟩),h3⟩,rfl⟩
theorem WT.nn {fs cs rs:List Int} {M:Int} (h:WT fs cs rs M):0≤M:=by
  rcases h with ⟨_,e⟩ | ⟨m,_,_,e⟩ <;> omega
theorem WT.low {fs cs rs:List Int} {M:Int} (h:WT fs cs rs M) (hr:∀ a∈rs,0≤a) (hf:∀ a∈fs,0≤a):(∀ a∈rs,M≤a)∧∀ (k:Nat) (f c:Int),fs[k]?=some f→cs[k]?=some c→0<c→M * c≤f:=by
  have hall:∀ a∈rs++shares fs cs,0≤a:=fun a ha=>by
    rcases List.mem_append.mp ha with z | z
    · exact hr a z
    · obtain ⟨k,f,c,h1,h2,h3,rfl⟩:=mem_shares.mp z
      exact Int.ediv_nonneg (hf f (List.mem_of_getElem? h1)) (by omega)
  have hle:∀ a∈rs++shares fs cs,M≤a:=by
    rcases h with ⟨e,_⟩ | ⟨m,hm,hl,rfl⟩
    · intro a ha;rw [e] at ha;cases ha
    · intro a ha
      have:=hl a ha
      have:=hall m hm
      omega
  refine ⟨fun a ha=>hle a (List.mem_append_left _ ha),fun k f c h1 h2 h3=>?_⟩
  exact (Int.le_ediv_iff_mul_le h3).mp (hle _ (List.mem_append_right _ (mem_shares.mpr ⟨k,f,c,h1,h2,h3,rfl⟩)))
end Tn
namespace Tn
structure DInv (n:Nat) (F:Int→Int) (W:Nat→List Int) (day want x:Nat→Int) (Pz:Nat→Prop):Prop where
  fit:Fit n F W want x
  shown:∀ k,k<n→Pz k→x k<want k→∃ r,ShowsAt n F W day x k r
  zero:∀ k,k<n→¬ Pz k→x k=0
theorem DInv.start {n:Nat} {F:Int→Int} {W:Nat→List Int} {day want:Nat→Int} (hw:∀ k,k<n→0≤want k) (hF:∀ r,(∃ k,k<n∧r∈W k)→0≤F r):DInv n F W day want (fun _=>0) (fun _=>False) :=
  ⟨⟨fun _ _=>Int.le_refl _,hw,fun r hr=>by rw [hold_zero];exact hF r hr⟩,fun _ _ z=>z.elim,fun _ _ _=>rfl⟩
def over (x:Nat→Int) (g:List Nat) (y:Nat→Int):Nat→Int:=fun k=>if k∈g then y (g.idxOf k) else x k
theorem getD_lt {g:List Nat} {i:Nat} (h:i<g.length):g.getD i 0=g[i]:=by rw [List.getD_eq_getElem?_getD,List.getElem?_eq_getElem h];rfl
theorem sorted_nodup {g:List Nat} (h:g.Pairwise (·<·)):g.Nodup:=h.imp fun e=>Nat.ne_of_lt e
theorem idxOf_at {g:List Nat} (h:g.Nodup) {i:Nat} (hi:i<g.length):g.idxOf g[i]=i:=by
  have h1:g.idxOf g[i]<g.length:=List.idxOf_lt_length_iff.mpr (List.getElem_mem hi)
  exact (List.getElem_inj (h₀:=h1) (h₁:=hi) h).mp (List.getElem_idxOf h1)
theorem over_at {x y:Nat→Int} {g:List Nat} (h:g.Nodup) {i:Nat} (hi:i<g.length):over x g y (g.getD i 0)=y i:=by
  unfold over
  rw [getD_lt hi,if_pos (List.getElem_mem hi),idxOf_at h hi]
theorem over_ne {x y:Nat→Int} {g:List Nat} {k:Nat} (h:¬ k∈g):over x g y k=x k:=if_neg h
theorem hold_over {n:Nat} {W:Nat→List Int} {x y:Nat→Int} {g:List Nat} (r:Int) (hg:g.Nodup) (hn:∀ k∈g,k<n) (hz:∀ k∈g,x k=0) :
    hold n W (over x g y) r=hold n W x r + hold g.length (fun i=>W (g.getD i 0)) y r:=by
  have e:∀ k,k<n→(if r∈W k then over x g y k else 0)=(if r∈W k then x k else 0) + (if k∈g then (if r∈W k then y (g.idxOf k) else 0) else 0):=fun k _=>by
    by_cases h:k∈g
    · unfold over
      rw [if_pos h,if_pos h,hz k h]
      by_cases h2:r∈W k
      · simp [h2]
      · simp [h2]
    · rw [over_ne h,if_neg h];omega
  have e2:=sum_some (n:=n) (f:=fun k=>if r∈W k then y (g.idxOf k) else 0) hg hn
  have e3:=sum_sumN g (fun k=>if r∈W k then y (g.idxOf k) else 0) (fun i=>if r∈W (g.getD i 0) then y i else 0) fun i a ha=>by
    obtain ⟨hi,rfl⟩:=List.getElem?_eq_some_iff.mp ha
    rw [getD_lt hi,idxOf_at hg hi]
  unfold hold
  rw [sumN_congr e,sumN_add,← e2,e3]
theorem DInv.step {n:Nat} {F:Int→Int} {W:Nat→List Int} {day want x y:Nat→Int} {Pz:Nat→Prop} {g:List Nat} {d:Int} (D:DInv n F W day want x Pz) (hg:g.Pairwise (·<·)) (hgn:∀ k∈g,k<n∧day k=d∧¬ Pz k) (hd:∀ k,Pz k→day k<d)
    (fy:Fit g.length (fun r=>F r - hold n W x r) (fun i=>W (g.getD i 0)) (fun i=>want (g.getD i 0)) y) (sy:Shown g.length (fun r=>F r - hold n W x r) (fun i=>W (g.getD i 0)) d0 (fun i=>want (g.getD i 0)) y) :
    DInv n F W day want (over x g y) (fun k=>Pz k∨k∈g):=by
  have nd:=sorted_nodup hg
  have hn:∀ k∈g,k<n:=fun k hk=>(hgn k hk).1
  have hz:∀ k∈g,x k=0:=fun k hk=>D.zero k (hn k hk) (hgn k hk).2.2
  have hh:=fun r=>hold_over (n:=n) (W:=W) (x:=x) (y:=y) r nd hn hz
  have inv:∀ k∈g,∃ i,i<g.length∧g.getD i 0=k:=fun k hk=>by
    obtain ⟨i,hi,e⟩:=List.getElem_of_mem hk
    exact ⟨i,hi,by rw [getD_lt hi,e]⟩
  have yn:∀ r,0≤hold g.length (fun i=>W (g.getD i 0)) y r:=fun r=>sumN_nn fun i hi=>by
    split
    · exact fy.nn i hi
    · exact Int.le_refl _
  refine ⟨⟨fun k hk=>?_,fun k hk=>?_,fun r hr=>?_⟩,fun k hk hp hl=>?_,fun k hk hp=>?_⟩
  · by_cases h:k∈g
    · obtain ⟨i,hi,rfl⟩:=inv k h
      rw [over_at nd hi];exact fy.nn i hi
    · rw [over_ne h];exact D.fit.nn k hk
  · by_cases h:k∈g
    · obtain ⟨i,hi,rfl⟩:=inv k h
      rw [over_at nd hi];exact fy.le i hi
    · rw [over_ne h];exact D.fit.le k hk
  · rw [hh r]
    by_cases h:∃ i,i<g.length∧r∈W (g.getD i 0)
    · have q:hold g.length (fun i=>W (g.getD i 0)) y r≤F r - hold n W x r:=fy.fits r h
      omega
    · have e:hold g.length (fun i=>W (g.getD i 0)) y r=0:=by
        unfold hold
        rw [sumN_congr (g:=fun _=>0) fun i hi=>if_neg fun z=>h ⟨i,hi,z⟩,sumN_zero]
      have:=D.fit.fits r hr
      omega
  · by_cases h:k∈g
    · obtain ⟨i,hi,rfl⟩:=inv k h
      rw [over_at nd hi] at hl
      obtain ⟨r,hr,hF,hall⟩:=sy i hi hl
      refine ⟨r,hr,?_,fun j hj hrj hpos=>?_⟩
      · have q:hold g.length (fun i=>W (g.getD i 0)) y r=F r - hold n W x r:=hF
        rw [hh r,q];omega
      · rw [over_at nd hi]
        have dk:=(hgn _ h).2.1
        by_cases hj':j∈g
        · obtain ⟨i',hi',rfl⟩:=inv j hj'
          rw [over_at nd hi'] at hpos ⊢
          have dj:=(hgn _ hj').2.1
          have a:=hall i' hi' hrj hpos
          rcases a with a | ⟨_,a⟩
          · exact absurd a (Int.lt_irrefl _)
          · refine .inr ⟨by rw [dk,dj],?_⟩
            rcases a with a | ⟨a,b⟩
            · exact .inl a
            · refine .inr ⟨a,?_⟩
              have hlt:i'<i:=by omega
              have:=List.pairwise_iff_getElem.mp hg i' i hi' hi hlt
              rw [getD_lt hi,getD_lt hi'];omega
        · rw [over_ne hj'] at hpos
          by_cases hpj:Pz j
          · have:=hd j hpj
            exact .inl (by rw [dk];exact this)
          · have:=D.zero j hj hpj
            omega
    · have hpk:Pz k:=hp.resolve_right h
      rw [over_ne h] at hl
      obtain ⟨r,hr,hF,hall⟩:=D.shown k hk hpk hl
      have none:∀ i,i<g.length→r∈W (g.getD i 0)→y i=0:=fun i hi hri=>by
        have a:hold g.length (fun i=>W (g.getD i 0)) y r≤F r - hold n W x r:=fy.fits r ⟨i,hi,hri⟩
        have b:=sumN_one_le (f:=fun i=>if r∈W (g.getD i 0) then y i else 0) hi fun j hj=>by
          show (0:Int)≤if r∈W (g.getD j 0) then y j else 0
          split
          · exact fy.nn j hj
          · exact Int.le_refl _
        have c:=fy.nn i hi
        have e:(if r∈W (g.getD i 0) then y i else 0)=y i:=if_pos hri
        have b':y i≤hold g.length (fun i=>W (g.getD i 0)) y r:=by rw [← e];exact b
        omega
      have same:∀ j,j<n→r∈W j→over x g y j=x j:=fun j hj hrj=>by
        by_cases h2:j∈g
        · obtain ⟨i,hi,rfl⟩:=inv j h2
          rw [over_at nd hi,none i hi hrj,hz _ h2]
        · exact over_ne h2
      refine ⟨r,hr,?_,fun j hj hrj hpos=>?_⟩
      · rw [hold_congr (y:=x) same];exact hF
      · rw [same j hj hrj] at hpos ⊢
        rw [over_ne h]
        exact hall j hj hrj hpos
  · have h:¬ k∈g:=fun z=>hp (.inr z)
    rw [over_ne h]
    exact D.zero k hk fun z=>hp (.inl z)
theorem DInv.finish {n:Nat} {F:Int→Int} {W:Nat→List Int} {day want x:Nat→Int} {Pz:Nat→Prop} (D:DInv n F W day want x Pz) (h:∀ k,k<n→Pz k):Fit n F W want x∧Shown n F W day want x:=⟨D.fit,fun k hk hl=>D.shown k hk (h k hk) hl⟩
end Tn
namespace Tn
end Tn
namespace Tn
end Tn
namespace Tn
end Tn
namespace Tn
def fW (ws:List (List Int)):Nat→List Int:=fun k=>ws.getD k []
def fX (xs:List Int):Nat→Int:=fun k=>xs.getD k 0
def fF (fs:List Int):Int→Int:=fun r=>fs.getD r.toNat 0
def asI (gs:List Nat):List Int:=gs.map fun k:Nat=>(k:Int)
def fG (gs:List Nat):Nat→Bool:=fun k=>decide (k∈gs)
structure LInv (fs:List Int) (ws:List (List Int)) (rs l xs:List Int) (gs:List Nat) (t:Int):Prop where
  ll:l.length=fs.length
  xl:xs.length=ws.length
  left:∀ r:Nat,r<fs.length→l.getD r 0=fs.getD r 0 - hold ws.length (fW ws) (fX xs) (r:Int)
  srt:gs.Pairwise (·<·)
  inv:TInv ws.length (fF fs) (fW ws) (fX rs) (fX xs) (fG gs) t
theorem fF_nat (fs:List Int) (r:Nat):fF fs (r:Int)=fs.getD r 0:=by unfold fF;rw [Int.toNat_natCast]
theorem mem_fW {ws:List (List Int)} {k:Nat} (hk:k<ws.length):fW ws k∈ws:=by
  unfold fW
  rw [List.getD_eq_getElem?_getD,List.getElem?_eq_getElem hk];exact List.getElem_mem hk
theorem getD_nil_zero (n k:Nat):(List.replicate n (0:Int)).getD k 0=0:=by
  rw [List.getD_eq_getElem?_getD,List.getElem?_replicate]
  split <;> rfl
theorem LInv.start {fs:List Int} {ws:List (List Int)} {rs:List Int} (hf:∀ a∈fs,0≤a) (hr:∀ a∈rs,0≤a) (hws:∀ w∈ws,WOk fs.length w):LInv fs ws rs fs (List.replicate ws.length 0) (List.range ws.length) 0:=by
  have e:fX (List.replicate ws.length 0)=fun _=>0:=by
    funext k;exact getD_nil_zero _ _
  have g0:∀ (l:List Int) (k:Nat),(∀ a∈l,0≤a)→0≤l.getD k 0:=fun l k h=>by
    rw [List.getD_eq_getElem?_getD]
    cases hk:l[k]? with
    | none=>exact Int.le_refl _
    | some a=>exact h a (List.mem_of_getElem? hk)
  refine ⟨rfl,by simp,fun r hr=>?_,List.pairwise_lt_range,?_⟩
  · rw [e,hold_zero];omega
  · rw [e,show fG (List.range ws.length)=fun k=>decide (k<ws.length) from by funext k;simp [fG]]
    exact TInv.start (fun k _=>g0 rs k hr) fun r _=>g0 fs _ hf
theorem LInv.nn {fs:List Int} {ws:List (List Int)} {rs l xs:List Int} {gs:List Nat} {t:Int} (h:LInv fs ws rs l xs gs t) (hf:∀ a∈fs,0≤a):∀ a∈l,0≤a:=fun a ha=>by
  obtain ⟨r,hr,rfl⟩:=List.getElem_of_mem ha
  have hr':r<fs.length:=by rw [← h.ll];exact hr
  have e:l[r]=l.getD r 0:=by rw [List.getD_eq_getElem?_getD,List.getElem?_eq_getElem hr];rfl
  rw [e,h.left r hr']
  by_cases hx:∃ k,k<ws.length∧(r:Int)∈fW ws k
  · have:=h.inv.fit.fits r hx
    rw [fF_nat] at this
    omega
  · have e0:hold ws.length (fW ws) (fX xs) (r:Int)=0:=by
      unfold hold
      rw [sumN_congr (g:=fun _=>0) fun k hk=>if_neg fun z=>hx ⟨k,hk,z⟩,sumN_zero]
    have:=hf fs[r] (List.getElem_mem hr')
    have e1:fs.getD r 0=fs[r]:=by rw [List.getD_eq_getElem?_getD,List.getElem?_eq_getElem hr'];rfl
    omega
def cntL (n:Nat) (ws:List (List Int)) (gs:List Nat):List Int:=bumps (List.replicate n 0) (gs.map fun k=>(fW ws k,1))
theorem cntL_get {n:Nat} {ws:List (List Int)} {gs:List Nat} (hws:∀ w∈ws,WOk n w) (hg:gs.Nodup) (hn:∀ k∈gs,k<ws.length) (r:Nat):(cntL n ws gs).getD r 0=cnt ws.length (fW ws) (fG gs) (r:Int):=by
  unfold cntL
  rw [bumps_get (fun p hp=>by
    obtain ⟨k,hk,rfl⟩:=List.mem_map.mp hp
    rw [List.length_replicate]
    exact hws _ (mem_fW (hn k hk))) r,getD_nil_zero,List.map_map]
  have e:=sum_some (n:=ws.length) (f:=fun k=>if (r:Int)∈fW ws k then (1:Int) else 0) hg hn
  have e':((fun p:List Int × Int=>if (r:Int)∈p.1 then p.2 else 0) ∘ fun k=>(fW ws k,(1:Int)))=fun k=>if (r:Int)∈fW ws k then (1:Int) else 0:=rfl
  rw [e',e]
  unfold cnt hold fG
  rw [Int.zero_add]
  refine sumN_congr fun k _=>?_
  by_cases h1:k∈gs
  · simp [h1]
  · simp [h1]
theorem cntL_len (n:Nat) (ws:List (List Int)) (gs:List Nat):(cntL n ws gs).length=n:=by unfold cntL;rw [bumps_len,List.length_replicate]
def unmet (rs xs:List Int) (gs:List Nat):List Int:=gs.map fun k=>rs.getD k 0 - xs.getD k 0
theorem ints_ok {gs:List Nat} {n:Nat} (hg:gs.Nodup) (hn:∀ k∈gs,k<n):WOk n (asI gs):=by
  refine ⟨?_,fun r hr=>?_⟩
  · unfold asI
    exact List.Pairwise.map _ (fun a b h=>by omega) hg
  · obtain ⟨k,hk,rfl⟩:=List.mem_map.mp hr
    have:=hn k hk
    omega
theorem mem_ints {gs:List Nat} {k:Nat}:(k:Int)∈asI gs↔k∈gs:=by
  unfold asI
  rw [List.mem_map]
  constructor
  · rintro ⟨a,ha,e⟩
    have:a=k:=by omega
    rw [← this];exact ha
  · intro h;exact ⟨k,h,rfl⟩
theorem LInv.going {fs:List Int} {ws:List (List Int)} {rs l xs:List Int} {gs:List Nat} {t:Int} (h:LInv fs ws rs l xs gs t):∀ k∈gs,k<ws.length∧xs.getD k 0=t:=fun k hk=>h.inv.go k (by simpa [fG] using hk)
theorem LInv.whole {fs:List Int} {ws:List (List Int)} {rs l xs:List Int} {gs:List Nat} {t M:Int} (h:LInv fs ws rs l xs gs t) (hf:∀ a∈fs,0≤a) (hws:∀ w∈ws,WOk fs.length w) (hM:WT l (cntL fs.length ws gs) (unmet rs xs gs) M) :
    LInv fs ws rs (bumps l (gs.map fun k=>(fW ws k,-M))) (bump xs (asI gs) M) gs (t + M):=by
  have nd:=sorted_nodup h.srt
  have hn:∀ k∈gs,k<ws.length:=fun k hk=>(h.going k hk).1
  have hl:=h.nn hf
  have hun:∀ a∈unmet rs xs gs,0≤a:=fun a ha=>by
    obtain ⟨k,hk,rfl⟩:=List.mem_map.mp ha
    have:fX xs k≤fX rs k:=h.inv.fit.le k (hn k hk)
    unfold fX at this
    omega
  obtain ⟨lo1,lo2⟩:=hM.low hun hl
  have ex:fX (bump xs (asI gs) M)=jump (fX xs) (fG gs) M:=by
    funext k
    show (bump xs (asI gs) M).getD k 0=if fG gs k then fX xs k + M else fX xs k
    have ok:=ints_ok nd (n:=xs.length) fun k hk=>by rw [h.xl];exact hn k hk
    rw [bump_get ok.1 ok.2 k]
    by_cases hk:k∈gs
    · rw [if_pos (mem_ints.mpr hk)];simp [fG,hk,fX]
    · rw [if_neg (fun z=>hk (mem_ints.mp z))];simp [fG,hk,fX]
  have key:∀ r:Nat,r<fs.length→M * cnt ws.length (fW ws) (fG gs) (r:Int)≤l.getD r 0:=fun r hr=>by
    have c0:=cnt_nn ws.length (fW ws) (fG gs) (r:Int)
    have hlr:r<l.length:=by rw [h.ll];exact hr
    have e1:l[r]?=some (l.getD r 0):=by rw [List.getD_eq_getElem?_getD,List.getElem?_eq_getElem hlr];rfl
    have hcr:r<(cntL fs.length ws gs).length:=by rw [cntL_len];exact hr
    have e2:(cntL fs.length ws gs)[r]?=some (cnt ws.length (fW ws) (fG gs) (r:Int)):=by
      rw [← cntL_get hws nd hn r,List.getD_eq_getElem?_getD,List.getElem?_eq_getElem hcr];rfl
    by_cases hp:0<cnt ws.length (fW ws) (fG gs) (r:Int)
    · exact lo2 r _ _ e1 e2 hp
    · have:cnt ws.length (fW ws) (fG gs) (r:Int)=0:=by omega
      rw [this,Int.mul_zero]
      exact hl _ (List.mem_of_getElem? e1)
  refine ⟨by rw [bumps_len];exact h.ll,by rw [bump_len];exact h.xl,fun r hr=>?_,h.srt,?_⟩
  · rw [bumps_get (fun p hp=>by
      obtain ⟨k,hk,rfl⟩:=List.mem_map.mp hp
      rw [h.ll]
      exact hws _ (mem_fW (hn k hk))) r,h.left r hr,ex,hold_jump,List.map_map]
    have e:=sum_some (n:=ws.length) (f:=fun k=>if (r:Int)∈fW ws k then -M else 0) nd hn
    have e':((fun p:List Int × Int=>if (r:Int)∈p.1 then p.2 else 0) ∘ fun k=>(fW ws k,-M))=fun k=>if (r:Int)∈fW ws k then -M else 0:=rfl
    rw [e',e]
    have e3:(sumN ws.length fun k=>if k∈gs then (if (r:Int)∈fW ws k then -M else 0) else 0)=-(M * cnt ws.length (fW ws) (fG gs) (r:Int)):=by
      have a:=hold_jump ws.length (fW ws) (fun _=>0) (fG gs) (-M) (r:Int)
      rw [hold_zero] at a
      have b:hold ws.length (fW ws) (jump (fun _=>0) (fG gs) (-M)) (r:Int)=sumN ws.length fun k=>if k∈gs then (if (r:Int)∈fW ws k then -M else 0) else 0:=by
        unfold hold jump fG
        refine sumN_congr fun k _=>?_
        by_cases h1:k∈gs
        · simp [h1]
        · simp [h1]
      rw [← b,a,Int.neg_mul];omega
    rw [e3];omega
  · rw [ex]
    refine h.inv.jump hM.nn (fun k hk=>?_) fun r hr=>?_
    · have hk':k∈gs:=by simpa [fG] using hk
      have:=lo1 (rs.getD k 0 - xs.getD k 0) (List.mem_map.mpr ⟨k,hk',rfl⟩)
      unfold fX;omega
    · obtain ⟨k,hk,hr⟩:=hr
      have hw:=hws _ (mem_fW hk)
      obtain ⟨r0,r1⟩:=hw.2 r hr
      obtain ⟨rn,rfl⟩:=Int.eq_ofNat_of_zero_le r0
      have hrn:rn<fs.length:=by omega
      have a:=key rn hrn
      rw [h.left rn hrn] at a
      rw [fF_nat];exact a
end Tn
namespace Tn
def step1 (ws:List (List Int)) (rs:List Int) (s:List Int × List Int × List Nat) (k:Nat):List Int × List Int × List Nat :=
  if s.2.1.getD k 0<rs.getD k 0∧(fW ws k).all (fun r=>decide (0<s.1.getD r.toNat 0))=true then (bump s.1 (fW ws k) (-1),s.2.1.set k (s.2.1.getD k 0 + 1),s.2.2++[k]) else s
def turn1 (ws:List (List Int)) (rs:List Int) (gs:List Nat) (s:List Int × List Int × List Nat):List Int × List Int × List Nat:=gs.foldl (step1 ws rs) s
theorem turn1_snoc (ws:List (List Int)) (rs:List Int) (gs:List Nat) (k:Nat) (s:List Int × List Int × List Nat):turn1 ws rs (gs++[k]) s=step1 ws rs (turn1 ws rs gs s) k:=by
  unfold turn1;rw [List.foldl_append];rfl
def rem (rs xs:List Int) (n:Nat):Int:=sumN n fun k=>fX rs k - fX xs k
structure QInv (fs:List Int) (ws:List (List Int)) (rs:List Int) (gs:List Nat) (t S0:Int) (i:Nat) (s:List Int × List Int × List Nat):Prop where
  ll:s.1.length=fs.length
  xl:s.2.1.length=ws.length
  left:∀ r:Nat,r<fs.length→s.1.getD r 0=fs.getD r 0 - hold ws.length (fW ws) (fX s.2.1) (r:Int)
  sub:s.2.2.Sublist (gs.take i)
  sum:rem rs s.2.1 ws.length + s.2.2.length=S0
  pv:∃ p,PInv ws.length (fF fs) (fW ws) (fX rs) (fX s.2.1) (fG gs) (fG s.2.2) t p∧p≤ws.length∧(∀ j (h:j<gs.length),i≤j→p≤gs[j])∧∀ j (h:j<gs.length),j<i→gs[j]<p
theorem LInv.pass {fs:List Int} {ws:List (List Int)} {rs l xs:List Int} {gs:List Nat} {t:Int} (h:LInv fs ws rs l xs gs t):QInv fs ws rs gs t (rem rs xs ws.length) 0 (l,xs,[]) :=
  ⟨h.ll,h.xl,h.left,by simp,by simp,0,by
    have:=h.inv.pass
    rw [show fG []=fun _=>false from by funext k;simp [fG]]
    exact this,Nat.zero_le _,fun _ _ _=>Nat.zero_le _,fun j _ hj=>absurd hj (Nat.not_lt_zero _)⟩
theorem QInv.step {fs:List Int} {ws:List (List Int)} {rs:List Int} {gs:List Nat} {t S0:Int} {i:Nat} {s:List Int × List Int × List Nat} (h:QInv fs ws rs gs t S0 i s) (srt:gs.Pairwise (·<·)) (hn:∀ k∈gs,k<ws.length) (hws:∀ w∈ws,WOk fs.length w) (hi:i<gs.length) :
    QInv fs ws rs gs t S0 (i + 1) (step1 ws rs s gs[i]):=by
  obtain ⟨l,xs,st⟩:=s
  obtain ⟨p,P0,pn,hp1,hp2⟩:=h.pv
  have hll:l.length=fs.length:=h.ll
  have hxl:xs.length=ws.length:=h.xl
  have hleft:∀ r:Nat,r<fs.length→l.getD r 0=fs.getD r 0 - hold ws.length (fW ws) (fX xs) (r:Int):=h.left
  have hsum:rem rs xs ws.length + st.length=S0:=h.sum
  have hsub:st.Sublist (gs.take i):=h.sub
  have P0:PInv ws.length (fF fs) (fW ws) (fX rs) (fX xs) (fG gs) (fG st) t p:=P0
  have hk:gs[i]<ws.length:=hn _ (List.getElem_mem hi)
  have inc:=List.pairwise_iff_getElem.mp srt
  have P1:=P0.skip (q:=gs[i]) (hp1 i hi (Nat.le_refl _)) fun k h1 h2=>by
    cases hg:fG gs k with
    | false=>rfl
    | true =>
      exfalso
      have hm:k∈gs:=by simpa [fG] using hg
      obtain ⟨j,hj,rfl⟩:=List.getElem_of_mem hm
      by_cases hji:j<i
      · have:=hp2 j hj hji
        omega
      · by_cases e:j=i
        · subst e;omega
        · have:=inc i j hi hj (by omega)
          omega
  have hG:fG gs gs[i]=true:=by simp [fG]
  have next1:∀ j (h:j<gs.length),i + 1≤j→gs[i] + 1≤gs[j]:=fun j hj hji=>inc i j hi hj (by omega)
  have next2:∀ j (h:j<gs.length),j<i + 1→gs[j]<gs[i] + 1:=fun j hj hji=>by
    by_cases e:j=i
    · subst e;omega
    · have:=inc j i hj hi (by omega)
      omega
  have wk:=hws _ (mem_fW hk)
  have at_:∀ r∈fW ws gs[i],fF fs r - hold ws.length (fW ws) (fX xs) r=l.getD r.toNat 0:=fun r hr=>by
    obtain ⟨r0,r1⟩:=wk.2 r hr
    obtain ⟨rn,rfl⟩:=Int.eq_ofNat_of_zero_le r0
    rw [fF_nat,Int.toNat_natCast,hleft rn (by omega)]
  by_cases hc:xs.getD gs[i] 0<rs.getD gs[i] 0∧(fW ws gs[i]).all (fun r=>decide (0<l.getD r.toNat 0))=true
  · have e:step1 ws rs (l,xs,st) gs[i]=(bump l (fW ws gs[i]) (-1),xs.set gs[i] (xs.getD gs[i] 0 + 1),st++[gs[i]]):=if_pos hc
    rw [e]
    have ex:fX (xs.set gs[i] (xs.getD gs[i] 0 + 1))=put (fX xs) gs[i] 1:=by
      funext k
      show (xs.set gs[i] (xs.getD gs[i] 0 + 1)).getD k 0=if k=gs[i] then xs.getD k 0 + 1 else xs.getD k 0
      rw [getD_set (by rw [hxl];exact hk)]
      by_cases z:k=gs[i]
      · rw [if_pos z,if_pos z,z]
      · rw [if_neg z,if_neg z]
    have P2:=P1.gets hk hG (by unfold fX;exact hc.1) fun r hr=>by
      rw [at_ r hr]
      have:=List.all_eq_true.mp hc.2 r hr
      simpa using this
    refine ⟨by rw [bump_len];exact hll,by rw [List.length_set];exact hxl,fun r hr=>?_,?_,?_,gs[i] + 1,?_,by omega,next1,next2⟩
    · show (bump l (fW ws gs[i]) (-1)).getD r 0=fs.getD r 0 - hold ws.length (fW ws) (fX (xs.set gs[i] (xs.getD gs[i] 0 + 1))) (r:Int)
      rw [bump_get wk.1 (by rw [hll];exact wk.2) r,hleft r hr,ex,hold_put hk]
      split <;> omega
    · show (st++[gs[i]]).Sublist (gs.take (i + 1))
      rw [List.take_add_one,List.getElem?_eq_getElem hi]
      exact hsub.append (List.Sublist.refl _)
    · show rem rs (xs.set gs[i] (xs.getD gs[i] 0 + 1)) ws.length + ((st++[gs[i]]).length:Nat)=S0
      have a:rem rs (xs.set gs[i] (xs.getD gs[i] 0 + 1)) ws.length=rem rs xs ws.length - 1:=by
        unfold rem
        rw [ex,sumN_sub,sumN_sub]
        have:sumN ws.length (put (fX xs) gs[i] 1)=sumN ws.length (fX xs) + 1:=by
          have b:∀ k,k<ws.length→put (fX xs) gs[i] 1 k=fX xs k + (if k=gs[i] then 1 else 0):=fun k _=>by
            unfold put;split <;> omega
          rw [sumN_congr b,sumN_add,sumN_one _ hk]
        omega
      rw [a,List.length_append,List.length_singleton]
      omega
    · show PInv ws.length (fF fs) (fW ws) (fX rs) (fX (xs.set gs[i] (xs.getD gs[i] 0 + 1))) (fG gs) (fG (st++[gs[i]])) t (gs[i] + 1)
      rw [ex,show fG (st++[gs[i]])=fun k=>if k=gs[i] then true else fG st k from by
        funext k
        by_cases z:k=gs[i]
        · simp [fG,z]
        · simp [fG,z]]
      exact P2
  · have e:step1 ws rs (l,xs,st) gs[i]=(l,xs,st):=if_neg hc
    rw [e]
    refine ⟨hll,hxl,hleft,?_,hsum,gs[i] + 1,P1.ends hk hG ?_,by omega,next1,next2⟩
    · exact hsub.trans (by rw [List.take_add_one];exact List.sublist_append_left _ _)
    · by_cases z:xs.getD gs[i] 0<rs.getD gs[i] 0
      · have hno:¬ (fW ws gs[i]).all (fun r=>decide (0<l.getD r.toNat 0))=true:=fun y=>hc ⟨z,y⟩
        refine .inr ?_
        refine Classical.byContradiction fun hx=>hno (List.all_eq_true.mpr fun r hr=>?_)
        refine decide_eq_true ?_
        refine Classical.byContradiction fun hle=>hx ⟨r,hr,?_⟩
        rw [at_ r hr];omega
      · exact .inl (by unfold fX;omega)
theorem QInv.finish {fs:List Int} {ws:List (List Int)} {rs:List Int} {gs:List Nat} {t S0:Int} {s:List Int × List Int × List Nat} (h:QInv fs ws rs gs t S0 gs.length s) (srt:gs.Pairwise (·<·)):LInv fs ws rs s.1 s.2.1 s.2.2 (t + 1):=by
  obtain ⟨p,P0,pn,hp1,hp2⟩:=h.pv
  have P1:=P0.skip (q:=ws.length) pn fun k h1 h2=>by
    cases hg:fG gs k with
    | false=>rfl
    | true =>
      exfalso
      have hm:k∈gs:=by simpa [fG] using hg
      obtain ⟨j,hj,rfl⟩:=List.getElem_of_mem hm
      have:=hp2 j hj hj
      omega
  have hsub:=h.sub
  rw [List.take_of_length_le (Nat.le_refl _)] at hsub
  exact ⟨h.ll,h.xl,h.left,srt.sublist hsub,P1.finish⟩
theorem turn1_inv {fs:List Int} {ws:List (List Int)} {rs l xs:List Int} {gs:List Nat} {t:Int} (h:LInv fs ws rs l xs gs t) (hws:∀ w∈ws,WOk fs.length w):∀ i,i≤gs.length→QInv fs ws rs gs t (rem rs xs ws.length) i (turn1 ws rs (gs.take i) (l,xs,[])):=by
  intro i
  induction i with
  | zero=>intro _;exact h.pass
  | succ i ih =>
    intro hi
    rw [List.take_add_one,List.getElem?_eq_getElem (by omega:i<gs.length)]
    show QInv fs ws rs gs t _ (i + 1) (turn1 ws rs (gs.take i++[gs[i]]) (l,xs,[]))
    rw [turn1_snoc]
    exact (ih (by omega)).step h.srt (fun k hk=>(h.going k hk).1) hws (by omega)
theorem LInv.one {fs:List Int} {ws:List (List Int)} {rs l xs:List Int} {gs:List Nat} {t:Int} (h:LInv fs ws rs l xs gs t) (hws:∀ w∈ws,WOk fs.length w) :
    LInv fs ws rs (turn1 ws rs gs (l,xs,[])).1 (turn1 ws rs gs (l,xs,[])).2.1 (turn1 ws rs gs (l,xs,[])).2.2 (t + 1)∧rem rs (turn1 ws rs gs (l,xs,[])).2.1 ws.length + ((turn1 ws rs gs (l,xs,[])).2.2.length:Nat)=rem rs xs ws.length:=by
  have q:=turn1_inv h hws gs.length (Nat.le_refl _)
  rw [List.take_of_length_le (Nat.le_refl _)] at q
  exact ⟨q.finish h.srt,q.sum⟩
theorem LInv.rem_nn {fs:List Int} {ws:List (List Int)} {rs l xs:List Int} {gs:List Nat} {t:Int} (h:LInv fs ws rs l xs gs t):0≤rem rs xs ws.length:=sumN_nn fun k hk=>by
  have:=h.inv.fit.le k hk
  omega
theorem rem_whole {fs:List Int} {ws:List (List Int)} {rs l xs:List Int} {gs:List Nat} {t M:Int} (h:LInv fs ws rs l xs gs t) (hM:0≤M):rem rs (bump xs (asI gs) M) ws.length≤rem rs xs ws.length:=by
  refine sumN_le fun k hk=>?_
  have ok:=ints_ok (sorted_nodup h.srt) (n:=xs.length) fun k hk=>by rw [h.xl];exact (h.going k hk).1
  have:fX (bump xs (asI gs) M) k=fX xs k + (if (k:Int)∈asI gs then M else 0):=bump_get ok.1 ok.2 k
  rw [this]
  split <;> omega
end Tn
namespace Tn
theorem WOk.len {n:Nat} {w:List Int} (h:WOk n w):w.length≤n:=by
  have:=List.Nodup.length_le_of_subset (l₂:=asI (List.range n)) h.1 fun r hr=>by
    obtain ⟨r0,r1⟩:=h.2 r hr
    obtain ⟨k,rfl⟩:=Int.eq_ofNat_of_zero_le r0
    exact mem_ints.mpr (List.mem_range.mpr (by omega))
  simpa [asI] using this
theorem sum_ones (r:Int):∀ ws:List (List Int),((ws.map fun w=>(w,(1:Int))).map fun p=>if r∈p.1 then p.2 else 0).sum≤(ws.length:Int)
  | []=>by simp
  | w :: ws=>by
    have:=sum_ones r ws
    simp only [List.map_cons,List.sum_cons,List.length_cons]
    split <;> omega
theorem cw_bound {n:Nat} {ws:List (List Int)} (hws:∀ w∈ws,WOk n w):∀ c∈bumps (List.replicate n 0) (ws.map fun w=>(w,(1:Int))),c≤(ws.length:Int):=fun c hc=>by
  obtain ⟨k,hk,rfl⟩:=List.getElem_of_mem hc
  have e:(bumps (List.replicate n 0) (ws.map fun w=>(w,(1:Int))))[k]=(bumps (List.replicate n 0) (ws.map fun w=>(w,(1:Int)))).getD k 0:=by
    rw [List.getD_eq_getElem?_getD,List.getElem?_eq_getElem hk];rfl
  rw [e,bumps_get (fun p hp=>by
    obtain ⟨w,hw,rfl⟩:=List.mem_map.mp hp
    rw [List.length_replicate];exact hws w hw) k,getD_nil_zero]
  have:=sum_ones (k:Int) ws
  omega
theorem shares_next {fs cs:List Int} {i:Nat} {f c:Int} (hf:fs[i]?=some f) (hc:cs[i]?=some c):shares (fs.take (i + 1)) (cs.take (i + 1))=shares (fs.take i) (cs.take i)++(if 0<c then [f / c] else []):=by
  have l1:=(List.getElem?_eq_some_iff.mp hf).1
  have l2:=(List.getElem?_eq_some_iff.mp hc).1
  unfold shares
  rw [List.take_add_one,List.take_add_one,hf,hc,List.zip_append (by rw [List.length_take,List.length_take];omega),List.filter_append,List.map_append]
  congr 1
  by_cases h:0<c
  · simp [h]
  · simp [h]
theorem ints_some {gs:List Nat} {i:Nat} {z:Int} (h:(asI gs)[i]?=some z):∃ k:Nat,gs[i]?=some k∧z=(k:Int):=by
  unfold asI at h
  rw [List.getElem?_map] at h
  cases e:gs[i]? with
  | none=>rw [e] at h;cases h
  | some k=>rw [e] at h;exact ⟨k,rfl,(Option.some.inj h).symm⟩
theorem ints_take (gs:List Nat) (i:Nat):(asI gs).take i=asI (gs.take i):=by unfold asI;rw [List.map_take]
theorem ints_len (gs:List Nat):(asI gs).length=gs.length:=by unfold asI;rw [List.length_map]
theorem unmet_next {rs xs:List Int} {gs:List Nat} {i k:Nat} (h:gs[i]?=some k):unmet rs xs (gs.take (i + 1))=unmet rs xs (gs.take i)++[rs.getD k 0 - xs.getD k 0]:=by
  unfold unmet;rw [List.take_add_one,h,List.map_append];rfl
theorem map_take_next {α β:Type} {f:α→β} {gs:List α} {i:Nat} {k:α} (h:gs[i]?=some k):(gs.take (i + 1)).map f=(gs.take i).map f++[f k]:=by
  rw [List.take_add_one,h,List.map_append];rfl
theorem take_next {α:Type} {gs:List α} {i:Nat} {k:α} (h:gs[i]?=some k):gs.take (i + 1)=gs.take i++[k]:=by
  rw [List.take_add_one,h];rfl
theorem turn1_next {ws:List (List Int)} {rs:List Int} {gs:List Nat} {i k:Nat} {s:List Int × List Int × List Nat} (h:gs[i]?=some k):turn1 ws rs (gs.take (i + 1)) s=step1 ws rs (turn1 ws rs (gs.take i) s) k:=by
  rw [take_next h];exact turn1_snoc _ _ _ _ _
theorem step1_len (ws:List (List Int)) (rs:List Int) (s:List Int × List Int × List Nat) (k:Nat):(step1 ws rs s k).1.length=s.1.length∧(step1 ws rs s k).2.1.length=s.2.1.length∧(step1 ws rs s k).2.2.length≤s.2.2.length + 1:=by
  unfold step1
  split
  · exact ⟨bump_len _ _ _,List.length_set,by simp⟩
  · exact ⟨rfl,rfl,by omega⟩
theorem turn1_len (ws:List (List Int)) (rs:List Int):∀ (gs:List Nat) (s:List Int × List Int × List Nat),(turn1 ws rs gs s).1.length=s.1.length∧(turn1 ws rs gs s).2.1.length=s.2.1.length∧(turn1 ws rs gs s).2.2.length≤s.2.2.length + gs.length
  | [],s=>⟨rfl,rfl,by simp [turn1]⟩
  | k :: gs,s=>by
    have a:=step1_len ws rs s k
    have b:=turn1_len ws rs gs (step1 ws rs s k)
    have e:turn1 ws rs (k :: gs) s=turn1 ws rs gs (step1 ws rs s k):=rfl
    rw [e]
    refine ⟨by rw [b.1,a.1],by rw [b.2.1,a.2.1],?_⟩
    have:=b.2.2
    rw [List.length_cons];omega
end Tn
namespace Tn
end Tn
namespace Tn
end Tn
namespace Tn
structure Grp (day:Nat→Int) (q:List Nat) (gs:List (Int × List Nat)):Prop where
  flat:(gs.map (·.2)).flatten=q
  ord:(gs.map (·.1)).Pairwise (·<·)
  grp:∀ g∈gs,g.2≠[]∧∀ k∈g.2,day k=g.1
theorem Grp.start (day:Nat→Int):Grp day [] []:=⟨rfl,.nil,fun _ h=>nomatch h⟩
theorem Grp.mem {day:Nat→Int} {q:List Nat} {gs:List (Int × List Nat)} (h:Grp day q gs) {g:Int × List Nat} (hg:g∈gs):∃ k∈q,day k=g.1:=by
  obtain ⟨h1,h2⟩:=h.grp g hg
  cases e:g.2 with
  | nil=>exact absurd e h1
  | cons k r =>
    refine ⟨k,?_,h2 k (by rw [e];exact List.mem_cons_self)⟩
    rw [← h.flat]
    exact List.mem_flatten.mpr ⟨g.2,List.mem_map_of_mem hg,by rw [e];exact List.mem_cons_self⟩
theorem Grp.new {day:Nat→Int} {q:List Nat} {gs:List (Int × List Nat)} {k:Nat} (h:Grp day q gs) (hn:∀ g∈gs,g.1≠day k) (hq:∀ j∈q,day j≤day k):Grp day (q++[k]) (gs++[(day k,[k])]):=by
  refine ⟨?_,?_,fun g hg=>?_⟩
  · rw [List.map_append,List.flatten_append,h.flat];rfl
  · rw [List.map_append,List.pairwise_append]
    refine ⟨h.ord,by simp,fun a ha b hb=>?_⟩
    obtain ⟨g,hg,rfl⟩:=List.mem_map.mp ha
    have hb:b=day k:=by simpa using hb
    subst hb
    obtain ⟨j,hj,e⟩:=h.mem hg
    have:=hq j hj
    have:=hn g hg
    omega
  · rcases List.mem_append.mp hg with e | e
    · exact h.grp g e
    · have:g=(day k,[k]):=by simpa using e
      subst this
      exact ⟨by simp,fun j hj=>by
        have:j=k:=by simpa using hj
        rw [this]⟩
theorem Grp.last {day:Nat→Int} {q:List Nat} {gs:List (Int × List Nat)} {k j:Nat} {g:Int × List Nat} (h:Grp day q gs) (hj:gs[j]?=some g) (hk:g.1=day k) (hq:∀ j∈q,day j≤day k):gs=gs.take j++[g]:=by
  obtain ⟨hl,e⟩:=List.getElem?_eq_some_iff.mp hj
  have hlen:gs.length=j + 1:=by
    refine Nat.le_antisymm (Nat.le_of_not_lt fun hlt=>?_) hl
    have ord:=List.pairwise_iff_getElem.mp h.ord j (j + 1) (by rw [List.length_map];exact hl) (by rw [List.length_map];exact hlt) (by omega)
    rw [List.getElem_map,List.getElem_map,e] at ord
    obtain ⟨i,hi,ei⟩:=h.mem (List.getElem_mem (l:=gs) (n:=j + 1) hlt)
    have:=hq i hi
    omega
  have:gs.take (j + 1)=gs.take j++[g]:=take_next hj
  rw [← this,List.take_of_length_le (by omega)]
theorem Grp.more {day:Nat→Int} {q:List Nat} {gs:List (Int × List Nat)} {k j:Nat} {g:Int × List Nat} (h:Grp day q gs) (hj:gs[j]?=some g) (hk:g.1=day k) (hq:∀ j∈q,day j≤day k):Grp day (q++[k]) (gs.set j (g.1,g.2++[k])):=by
  have e:=h.last hj hk hq
  have hl:=(List.getElem?_eq_some_iff.mp hj).1
  have es:gs.set j (g.1,g.2++[k])=gs.take j++[(g.1,g.2++[k])]:=by
    conv=>lhs;rw [e]
    have:(gs.take j).length=j:=by rw [List.length_take];omega
    rw [List.set_append,if_neg (by omega),this,Nat.sub_self];rfl
  have hf:=h.flat
  have ho:=h.ord
  rw [e] at hf ho
  rw [List.map_append,List.flatten_append] at hf
  rw [List.map_append] at ho
  rw [es]
  refine ⟨?_,?_,fun g' hg'=>?_⟩
  · rw [List.map_append,List.flatten_append,← hf];simp
  · rw [List.map_append];exact ho
  · rcases List.mem_append.mp hg' with e' | e'
    · exact h.grp g' (List.mem_of_mem_take e')
    · have:g'=(g.1,g.2++[k]):=by simpa using e'
      subst this
      refine ⟨by simp,fun i hi=>?_⟩
      rcases List.mem_append.mp hi with z | z
      · exact (h.grp g (List.mem_of_getElem? hj)).2 i z
      · have:i=k:=by simpa using z
        rw [this,hk]
structure Rk (day:Nat→Int) (n:Nat) (p:List Nat):Prop where
  perm:p.Perm (List.range n)
  ord:p.Pairwise fun i j=>day i<day j∨day i=day j∧i<j
theorem Rk.len {day:Nat→Int} {n:Nat} {p:List Nat} (h:Rk day n p):p.length=n:=by rw [h.perm.length_eq,List.length_range]
theorem Rk.lt {day:Nat→Int} {n:Nat} {p:List Nat} (h:Rk day n p) {j:Nat} (hj:j∈p):j<n:=List.mem_range.mp (h.perm.mem_iff.mp hj)
theorem Rk.before {day:Nat→Int} {n:Nat} {p:List Nat} (h:Rk day n p) {i k:Nat} (hi:p[i]?=some k):∀ j∈p.take i,day j≤day k:=fun j hj=>by
  obtain ⟨hl,e⟩:=List.getElem?_eq_some_iff.mp hi
  obtain ⟨m,hm,em⟩:=List.getElem_of_mem hj
  rw [List.length_take] at hm
  rw [List.getElem_take] at em
  have:=List.pairwise_iff_getElem.mp h.ord m i (by omega) hl (by omega)
  rw [em,e] at this
  omega
theorem flat_sub {α:Type}:∀ {L:List (List α)} {g:List α},g∈L→g.Sublist L.flatten
  | [],_,h=>nomatch h
  | x :: L,g,h=>by
    rw [List.flatten_cons]
    rcases List.mem_cons.mp h with e | e
    · rw [e];exact List.sublist_append_left _ _
    · exact (flat_sub e).trans (List.sublist_append_right _ _)
theorem Grp.up {day:Nat→Int} {n:Nat} {p:List Nat} {gs:List (Int × List Nat)} (h:Grp day p gs) (r:Rk day n p) {g:Int × List Nat} (hg:g∈gs):g.2.Pairwise (·<·):=by
  have hs:g.2.Sublist p:=by rw [← h.flat];exact flat_sub (List.mem_map_of_mem hg)
  have:=r.ord.sublist hs
  refine List.Pairwise.imp_of_mem (fun {a b} ha hb hab=>?_) this
  have ea:=(h.grp g hg).2 a ha
  have eb:=(h.grp g hg).2 b hb
  omega
def inG (gs:List (Int × List Nat)) (j:Nat) (k:Nat):Prop:=∃ g∈gs.take j,k∈g.2
theorem inG_zero (gs:List (Int × List Nat)) (k:Nat):¬ inG gs 0 k:=fun ⟨_,h,_⟩=>by simp at h
theorem inG_succ {gs:List (Int × List Nat)} {j:Nat} {g:Int × List Nat} (h:gs[j]?=some g) (k:Nat):inG gs (j + 1) k↔inG gs j k∨k∈g.2:=by
  unfold inG
  rw [take_next h]
  constructor
  · rintro ⟨g',h1,h2⟩
    rcases List.mem_append.mp h1 with e | e
    · exact .inl ⟨g',e,h2⟩
    · have:g'=g:=by simpa using e
      rw [this] at h2;exact .inr h2
  · rintro (⟨g',h1,h2⟩ | h)
    · exact ⟨g',List.mem_append_left _ h1,h2⟩
    · exact ⟨g,List.mem_append_right _ (by simp),h⟩
theorem Grp.all {day:Nat→Int} {n:Nat} {p:List Nat} {gs:List (Int × List Nat)} (h:Grp day p gs) (r:Rk day n p) {k:Nat} (hk:k<n):inG gs gs.length k:=by
  have hm:k∈p:=r.perm.mem_iff.mpr (List.mem_range.mpr hk)
  rw [← h.flat] at hm
  obtain ⟨l,hl,hkl⟩:=List.mem_flatten.mp hm
  obtain ⟨g,hg,rfl⟩:=List.mem_map.mp hl
  exact ⟨g,by rw [List.take_length];exact hg,hkl⟩
theorem Grp.later {day:Nat→Int} {p:List Nat} {gs:List (Int × List Nat)} (h:Grp day p gs) {j:Nat} {g:Int × List Nat} (hj:gs[j]?=some g) {k:Nat} (hk:inG gs j k):day k<g.1:=by
  obtain ⟨g',h1,h2⟩:=hk
  obtain ⟨hl,e⟩:=List.getElem?_eq_some_iff.mp hj
  obtain ⟨m,hm,em⟩:=List.getElem_of_mem h1
  rw [List.length_take] at hm
  rw [List.getElem_take] at em
  have ord:=List.pairwise_iff_getElem.mp h.ord m j (by rw [List.length_map];omega) (by rw [List.length_map];exact hl) (by omega)
  rw [List.getElem_map,List.getElem_map,e,em] at ord
  rw [(h.grp g' (List.mem_of_mem_take h1)).2 k h2];exact ord
end Tn
namespace Tn
theorem hold_cong {n:Nat} {W W':Nat→List Int} {x x':Nat→Int} (hW:∀ k,k<n→W k=W' k) (hx:∀ k,k<n→x k=x' k) (r:Int):hold n W x r=hold n W' x' r :=
  sumN_congr fun k hk=>by rw [hW k hk,hx k hk]
theorem Fit.cong {n:Nat} {F F':Int→Int} {W W':Nat→List Int} {want want' x x':Nat→Int} (h:Fit n F W want x) (hW:∀ k,k<n→W k=W' k) (hw:∀ k,k<n→want k=want' k) (hx:∀ k,k<n→x k=x' k) (hF:∀ r,(∃ k,k<n∧r∈W k)→F r=F' r):Fit n F' W' want' x':=by
  refine ⟨fun k hk=>by rw [← hx k hk];exact h.nn k hk,fun k hk=>by rw [← hx k hk,← hw k hk];exact h.le k hk,fun r hr=>?_⟩
  obtain ⟨k,hk,hm⟩:=hr
  have hr:∃ k,k<n∧r∈W k:=⟨k,hk,by rw [hW k hk];exact hm⟩
  rw [← hold_cong hW hx r,← hF r hr]
  exact h.fits r hr
theorem Shown.cong {n:Nat} {F F':Int→Int} {W W':Nat→List Int} {day want want' x x':Nat→Int} (h:Shown n F W day want x) (hW:∀ k,k<n→W k=W' k) (hw:∀ k,k<n→want k=want' k) (hx:∀ k,k<n→x k=x' k) (hF:∀ r,(∃ k,k<n∧r∈W k)→F r=F' r):Shown n F' W' day want' x':=by
  intro k hk hl
  rw [← hx k hk,← hw k hk] at hl
  obtain ⟨r,h1,h2,h3⟩:=h k hk hl
  refine ⟨r,by rw [← hW k hk];exact h1,by rw [← hold_cong hW hx r,← hF r ⟨k,hk,h1⟩];exact h2,fun j hj hr hp=>?_⟩
  rw [← hx j hj,← hx k hk]
  exact h3 j hj (by rw [hW j hj];exact hr) (by rw [hx j hj];exact hp)
theorem DInv.cong {n:Nat} {F:Int→Int} {W:Nat→List Int} {day want x x':Nat→Int} {Pz Pz':Nat→Prop} (D:DInv n F W day want x Pz) (hx:∀ k,x k=x' k) (hP:∀ k,Pz k↔Pz' k):DInv n F W day want x' Pz':=by
  have e:x=x':=funext hx
  have e':Pz=Pz':=funext fun k=>propext (hP k)
  rw [← e,← e'];exact D
structure GInv (n:Nat) (fs:List Int) (W:Nat→List Int) (day want:Nat→Int) (gs:List (Int × List Nat)) (j:Nat) (xs fl:List Int):Prop where
  xl:xs.length=n
  fll:fl.length=fs.length
  left:∀ i:Nat,i<fs.length→fl.getD i 0=fs.getD i 0 - hold n W (fX xs) (i:Int)
  inv:DInv n (fF fs) W day want (fX xs) (inG gs j)
theorem mem_getD' {fs:List Int} {a:Int} (h:a∈fs):∃ i,i<fs.length∧fs.getD i 0=a:=by
  obtain ⟨i,hi,e⟩:=List.getElem_of_mem h
  exact ⟨i,hi,by rw [List.getD_eq_getElem?_getD,List.getElem?_eq_getElem hi];exact e⟩
theorem getD_mem0 {fs:List Int} {i:Nat} (h:i<fs.length):fs.getD i 0∈fs:=by
  rw [List.getD_eq_getElem?_getD,List.getElem?_eq_getElem h];exact List.getElem_mem h
theorem fF_nn {fs:List Int} (hf:∀ a∈fs,0≤a) (r:Int):0≤fF fs r:=by
  unfold fF
  by_cases h:r.toNat<fs.length
  · exact hf _ (getD_mem0 h)
  · rw [List.getD_eq_getElem?_getD,List.getElem?_eq_none (by omega)];exact Int.le_refl _
theorem GInv.start {n:Nat} {fs:List Int} {W:Nat→List Int} {day want:Nat→Int} (gs:List (Int × List Nat)) (hw:∀ k,k<n→0≤want k) (hf:∀ a∈fs,0≤a):GInv n fs W day want gs 0 (List.replicate n 0) fs:=by
  have e:∀ k,fX (List.replicate n 0) k=0:=fun k=>getD_nil_zero n k
  refine ⟨by simp,rfl,fun i _=>?_,?_⟩
  · have:hold n W (fX (List.replicate n 0)) (i:Int)=0:=by
      rw [hold_cong (W':=W) (x':=fun _=>0) (fun _ _=>rfl) (fun k _=>e k),hold_zero]
    omega
  · exact (DInv.start (day:=day) hw fun r _=>fF_nn hf r).cong (fun k=>(e k).symm) fun k=>⟨fun z=>z.elim,fun z=>absurd z (inG_zero gs k)⟩
theorem hold_none {n:Nat} {W:Nat→List Int} {x:Nat→Int} {r:Int} (h:¬ ∃ k,k<n∧r∈W k):hold n W x r=0:=by
  unfold hold
  rw [sumN_congr (g:=fun _=>0) fun k hk=>if_neg fun z=>h ⟨k,hk,z⟩,sumN_zero]
theorem GInv.nn {n:Nat} {fs:List Int} {W:Nat→List Int} {day want:Nat→Int} {gs:List (Int × List Nat)} {j:Nat} {xs fl:List Int} (h:GInv n fs W day want gs j xs fl) (hf:∀ a∈fs,0≤a):∀ a∈fl,0≤a:=fun a ha=>by
  obtain ⟨i,hi,rfl⟩:=mem_getD' ha
  rw [h.fll] at hi
  rw [h.left i hi]
  by_cases hw:∃ k,k<n∧(i:Int)∈W k
  · have:=h.inv.fit.fits (i:Int) hw
    rw [fF_nat] at this
    omega
  · rw [hold_none hw]
    have:=hf _ (getD_mem0 hi)
    omega
theorem GInv.step {n:Nat} {fs:List Int} {W:Nat→List Int} {day want:Nat→Int} {gs:List (Int × List Nat)} {j:Nat} {xs fl ys left cur:List Int} {q:List Nat} {t:Int} {g:Int × List Nat} (h:GInv n fs W day want gs j xs fl) (G:Grp day q gs) (R:Rk day n q) (hj:gs[j]?=some g)
    (hW:∀ k,k<n→WOk fs.length (W k)) (L:LInv fl (g.2.map W) (g.2.map want) left ys [] t) (hcl:cur.length=n) (hc:∀ k,fX cur k=over (fX xs) g.2 (fX ys) k):GInv n fs W day want gs (j + 1) cur left:=by
  have hgm:=List.mem_of_getElem? hj
  have up:=G.up R hgm
  have nd:=sorted_nodup up
  have hlt:∀ k∈g.2,k<n:=fun k hk=>R.lt (by rw [← G.flat];exact List.mem_flatten.mpr ⟨g.2,List.mem_map_of_mem hgm,hk⟩)
  have hn:∀ k∈g.2,¬ inG gs j k:=fun k hk z=>by
    have:=G.later hj z
    have:=(G.grp g hgm).2 k hk
    omega
  have hz:∀ k∈g.2,fX xs k=0:=fun k hk=>h.inv.zero k (hlt k hk) (hn k hk)
  have hlen:(g.2.map W).length=g.2.length:=List.length_map _
  have eW:∀ i,i<(g.2.map W).length→fW (g.2.map W) i=W (g.2.getD i 0):=fun i hi=>by
    rw [hlen] at hi
    unfold fW
    rw [List.getD_eq_getElem?_getD,List.getElem?_map,List.getElem?_eq_getElem hi,getD_lt hi];rfl
  have ew:∀ i,i<(g.2.map W).length→fX (g.2.map want) i=want (g.2.getD i 0):=fun i hi=>by
    rw [hlen] at hi
    unfold fX
    rw [List.getD_eq_getElem?_getD,List.getElem?_map,List.getElem?_eq_getElem hi,getD_lt hi];rfl
  have eF:∀ r,(∃ k,k<(g.2.map W).length∧r∈fW (g.2.map W) k)→fF fl r=fF fs r - hold n W (fX xs) r:=fun r hr=>by
    obtain ⟨i,hi,hm⟩:=hr
    rw [eW i hi] at hm
    have hk:g.2.getD i 0<n:=hlt _ (by rw [getD_lt (by omega)];exact List.getElem_mem (by omega))
    obtain ⟨r0,r1⟩:=(hW _ hk).2 r hm
    obtain ⟨rn,rfl⟩:=Int.eq_ofNat_of_zero_le r0
    rw [fF_nat,fF_nat]
    exact h.left rn (by omega)
  obtain ⟨fy,sy⟩:=L.inv.finish fun k _=>by simp [fG]
  have fy:=fy.cong eW ew (x':=fX ys) (fun _ _=>rfl) eF
  have sy:=sy.cong eW ew (x':=fX ys) (fun _ _=>rfl) eF
  rw [hlen] at fy sy
  have st:=h.inv.step up (d:=g.1) (fun k hk=>⟨hlt k hk,(G.grp g hgm).2 k hk,hn k hk⟩) (fun k hk=>G.later hj hk) fy sy
  refine ⟨hcl,by rw [L.ll,h.fll],fun i hi=>?_,st.cong (fun k=>(hc k).symm) fun k=>(inG_succ hj k).symm⟩
  rw [L.left i (by rw [h.fll];exact hi),h.left i hi,hold_cong (W':=W) (x':=over (fX xs) g.2 (fX ys)) (fun _ _=>rfl) (fun k _=>hc k) (i:Int),hold_over (i:Int) nd hlt hz,hold_cong (x':=fX ys) eW (fun _ _=>rfl) (i:Int),hlen]
  omega
theorem GInv.finish {n:Nat} {fs:List Int} {W:Nat→List Int} {day want:Nat→Int} {gs:List (Int × List Nat)} {xs fl:List Int} {q:List Nat} (h:GInv n fs W day want gs gs.length xs fl) (G:Grp day q gs) (R:Rk day n q):Fit n (fF fs) W want (fX xs)∧Shown n (fF fs) W day want (fX xs) :=
  h.inv.finish fun k hk=>G.all R hk
theorem over_next {x y:Nat→Int} {g:List Nat} {i m:Nat} (nd:g.Nodup) (h:g[i]?=some m) (k:Nat):over x (g.take (i + 1)) y k=if k=m then y i else over x (g.take i) y k:=by
  obtain ⟨hi,e⟩:=List.getElem?_eq_some_iff.mp h
  have hm:¬ m∈g.take i:=fun z=>by
    obtain ⟨a,ha,ea⟩:=List.getElem_of_mem z
    rw [List.length_take] at ha
    rw [List.getElem_take] at ea
    have:=(List.getElem_inj nd).mp (ea.trans e.symm)
    omega
  unfold over
  rw [take_next h]
  by_cases hk:k=m
  · subst hk
    rw [if_pos rfl,if_pos (by simp),List.idxOf_append,if_neg hm,List.length_take]
    simp
    congr 1
    omega
  · rw [if_neg hk]
    by_cases hb:k∈g.take i
    · rw [if_pos (by simp [hb]),if_pos hb,List.idxOf_append,if_pos hb]
    · rw [if_neg (by simp [hb,hk]),if_neg hb]
end Tn
namespace Rv
theorem strch_ok {r:List Int} (h:River r) {p b:Int} (h0:0≤p) (h1:p<r.length):Tn.WOk r.length (strch r p b):=⟨strch_nd h h0 h1,fun q hq=>walk_mem h p h0 h1 q (strch_sub hq)⟩
end Rv
namespace Rv
structure Lnk (n:Nat) (sp:Nat→Int) (k:Nat) (b:List Int):Prop where
  len:b.length=n
  at_:∀ (i:Nat) (x:Int),b[i]?=some x→x=-1∨∃ j m,j<m∧m<k∧m<n∧sp m=(i:Int)∧x=sp j
theorem Lnk.skip {n:Nat} {sp:Nat→Int} {k:Nat} {b:List Int} (h:Lnk n sp k b):Lnk n sp (k + 1) b :=
  ⟨h.len,fun i x hx=>(h.at_ i x hx).imp id fun ⟨j,m,h1,h2,h3⟩=>⟨j,m,h1,by omega,h3⟩⟩
theorem Lnk.turn {n:Nat} {sp:Nat→Int} {k j:Nat} {b:List Int} (h:Lnk n sp k b) (hk:k<n) (hj:j<k) (h0:0≤sp k):Lnk n sp (k + 1) (b.set (sp k).toNat (sp j)):=by
  refine ⟨by rw [List.length_set];exact h.len,fun i x hx=>?_⟩
  rw [List.getElem?_set] at hx
  split at hx
  · rename_i e
    split at hx
    · exact .inr ⟨j,k,hj,by omega,hk,by omega,(Option.some.inj hx).symm⟩
    · cases hx
  · exact h.skip.at_ i x hx
theorem Lnk.river {n:Nat} {sp:Nat→Int} {k:Nat} {b:List Int} (h:Lnk n sp k b) (h0:∀ k,0≤sp k) (h1:∀ k,sp k<n) (inj:∀ j k,j<n→k<n→sp j=sp k→j=k) (hn:0<n):River b:=by
  classical
  let rk:Nat→Nat:=fun i=>if h:∃ k,k<n∧sp k=(i:Int) then h.choose else 0
  have rk_at:∀ k,k<n→rk (sp k).toNat=k:=fun k hk=>by
    have hex:∃ m,m<n∧sp m=((sp k).toNat:Int):=⟨k,hk,by have:=h0 k;omega⟩
    show (if h:∃ m,m<n∧sp m=((sp k).toNat:Int) then h.choose else 0)=k
    rw [dif_pos hex]
    obtain ⟨a1,a2⟩:=hex.choose_spec
    exact inj _ _ a1 hk (by have:=h0 k;omega)
  refine ⟨rk,fun i _=>?_,fun i x hx=>?_⟩
  · rw [h.len]
    show (if h:∃ k,k<n∧sp k=(i:Int) then h.choose else 0)<n
    split
    · rename_i hex;exact hex.choose_spec.1
    · exact hn
  · rcases h.at_ i x hx with e | ⟨j,m,hjm,_,hm,e,rfl⟩
    · exact .inl e
    · refine .inr ⟨h0 j,by rw [h.len];exact h1 j,?_⟩
      have ei:i=(sp m).toNat:=by have:=h0 m;omega
      rw [ei,rk_at m hm,rk_at j (by omega)]
      exact hjm
end Rv
namespace Tn
end Tn
namespace Rv
end Rv
namespace Tn
end Tn
namespace Tn
end Tn
namespace Rv
end Rv
namespace Tn
end Tn
namespace Rv
theorem step_free:∀ n:Fin 41,∀ d:Fin 41,d.val<n.val→d.val≠0→(1 * d.val) % n.val≠0∧(41 * d.val) % n.val≠0∧(43 * d.val) % n.val≠0∧(47 * d.val) % n.val≠0:=by decide +kernel
def spotB (n s x:Int) (k:Nat):Int:=(s * (k:Int) + x) % n
theorem spotB_nn {n s x:Int} (hn:0<n) (k:Nat):0≤spotB n s x k:=Int.emod_nonneg _ (by omega)
theorem spotB_lt {n s x:Int} (hn:0<n) (k:Nat):spotB n s x k<n:=Int.emod_lt_of_pos _ hn
theorem spotB_aux {n:Nat} {s x:Int} (h40:n≤40) (hs:s=1∨s=41∨s=43∨s=47) {j k:Nat} (hk:k<n) (hjk:j<k):spotB n s x j≠spotB n s x k:=by
  intro h
  unfold spotB at h
  have h2:((s * (k:Int) + x) - (s * (j:Int) + x)) % (n:Int)=0:=Int.emod_eq_emod_iff_emod_sub_eq_zero.mp h.symm
  have e:(s * (k:Int) + x) - (s * (j:Int) + x)=s * ((k - j:Nat):Int):=by
    rw [Int.ofNat_sub (by omega),Int.mul_sub];omega
  rw [e] at h2
  obtain ⟨f1,f2,f3,f4⟩:=step_free ⟨n,by omega⟩ ⟨k - j,by omega⟩ (by show k - j<n;omega) (by show k - j≠0;omega)
  have key:∀ t:Nat,(t * (k - j)) % n≠0→((t:Int) * ((k - j:Nat):Int)) % (n:Int)≠0:=fun t ht z=>ht (by
    have:(((t * (k - j)) % n:Nat):Int)=0:=by rw [Int.natCast_emod,Int.natCast_mul];exact z
    omega)
  rcases hs with rfl | rfl | rfl | rfl
  · exact key 1 f1 h2
  · exact key 41 f2 h2
  · exact key 43 f3 h2
  · exact key 47 f4 h2
theorem spotB_inj {n:Nat} {s x:Int} (h40:n≤40) (hs:s=1∨s=41∨s=43∨s=47) {j k:Nat} (hj:j<n) (hk:k<n) (h:spotB n s x j=spotB n s x k):j=k:=by
  rcases Nat.lt_trichotomy j k with c | c | c
  · exact absurd h (spotB_aux h40 hs hk c)
  · exact c
  · exact absurd h.symm (spotB_aux h40 hs hj c)
def spotsB (n s x:Int) (m:Nat):List Int:=(List.range m).map (spotB n s x)
theorem spotsB_len (n s x:Int) (m:Nat):(spotsB n s x m).length=m:=by simp [spotsB]
theorem spotsB_succ (n s x:Int) (m:Nat):spotsB n s x (m + 1)=spotsB n s x m++[spotB n s x m]:=by
  unfold spotsB;rw [List.range_succ,List.map_append];rfl
theorem spotsB_at {n s x:Int} {m k:Nat} (h:k<m):(spotsB n s x m)[k]?=some (spotB n s x k):=by
  unfold spotsB;rw [List.getElem?_map,List.getElem?_range h];rfl
theorem Lnk.start0 (n:Nat) (sp:Nat→Int):Lnk n sp 0 (List.replicate n (-1)) :=
  ⟨by simp,fun i x h=>.inl (by
    rw [List.getElem?_replicate] at h
    split at h
    · exact (Option.some.inj h).symm
    · cases h)⟩
end Rv
namespace Tn
theorem filter_one {α:Type} (p:α→Bool) (a:α):[a].filter p=if p a=true then [a] else []:=by
  by_cases h:p a=true
  · rw [if_pos h,List.filter_cons_of_pos h];rfl
  · rw [if_neg h,List.filter_cons_of_neg h];rfl
end Tn
namespace My
open PySem L2
local macro_rules | `(tactic| walk_at "new") => `(tactic| (generalize hE : upd _ _ _ = Hn; have On := Ow.mkE (by assumption) (by assumption) hE rfl; clear hE; revert On; revert Hn))
local macro_rules | `(tactic| walk_at "put") => `(tactic| (generalize hE : upd _ _ _ = Hn; (first | have On := Ow.putE (by assumption) 0 rfl hE rfl | have On := Ow.putE (by assumption) 1 rfl hE rfl | have On := Ow.putE (by assumption) 2 rfl hE rfl | have On := Ow.putE (by assumption) 3 rfl hE rfl | have On := Ow.putE (by assumption) 4 rfl hE rfl | have On := Ow.putE (by assumption) 5 rfl hE rfl); clear hE; (try simp only [List.set_cons_zero, List.set_cons_succ] at On); revert On; revert Hn))
set_option hygiene false
local macro_rules | `(tactic| walk_at "get") => `(tactic| first | assumption | exact O.get 0 | exact O.get 1 | exact O.get 2 | exact O.get 3 | exact O.get 4 | exact O.get 5 | exact O.get 6 | exact O.get 7 | exact O.get 8 | exact O.get 9 | exact O.get 10 | exact O.get 11 | exact O.get 12 | fail)
local macro_rules | `(tactic| walk_at "sq") => `(tactic| first | assumption | exact O.sq 0 | exact O.sq 1 | exact O.sq 2 | exact O.sq 3 | exact O.sq 4 | exact O.sq 5 | exact O.sq 6 | exact O.sq 7 | exact O.sq 8 | exact O.sq 9 | exact O.sq 10 | exact O.sq 11 | exact O.sq 12 | exact SqL.mo (by assumption) O.same | exact SqL.mo (by assumption) (s0.trans O.same) | fail)
local macro_rules | `(tactic| walk_at "sqT") => `(tactic| first | assumption | exact O.sqT 0 | exact O.sqT 1 | exact O.sqT 2 | exact O.sqT 3 | exact O.sqT 4 | exact O.sqT 5 | exact O.sqT 6 | exact O.sqT 7 | exact SqT.mo (by assumption) O.same | exact SqT.mo (by assumption) (s0.trans O.same) | fail)
local macro_rules | `(tactic| walk_at "at") => `(tactic| first | rfl | exact ints_at (by assumption) | exact atI_nat (by assumption) | exact ints_atZ (by omega) (by omega) | exact lastV _ _ | exact ints_last (by omega) | exact ints_atZ (ns := [_, _]) (by omega) (by simp only [List.length_cons, List.length_nil]; omega) | exact ints_atZ (ns := [_, _, _]) (by omega) (by simp only [List.length_cons, List.length_nil]; omega) | exact ints_atZ (ns := [_, _, _, _]) (by omega) (by simp only [List.length_cons, List.length_nil]; omega) | exact ints_atZ (ns := [_, _, _, _, _]) (by omega) (by simp only [List.length_cons, List.length_nil]; omega) | exact ints_atZ (ns := [_, _, _, _, _, _]) (by omega) (by simp only [List.length_cons, List.length_nil]; omega) | exact ints_atZ (ns := [_, _, _, _, _, _, _]) (by omega) (by simp only [List.length_cons, List.length_nil]; omega) | exact ints_atZ (ns := [_, _, _, _, _, _, _, _]) (by omega) (by simp only [List.length_cons, List.length_nil]; omega) | fail)
local macro_rules | `(tactic| walk_at "c") => `(tactic| first | omega | (simp only [List.length_map]; omega) | exact szl | (show (0 : Int) < _; decide) | (show (0 : Int) < _; omega) | exact ⟨by decide, by decide⟩ | exact .inl ⟨by decide, by decide⟩ | exact .inr ⟨by decide, by decide⟩ | exact ⟨by decide, by decide, by decide⟩ | exact .inl ⟨by omega, by omega⟩ | exact .inr ⟨by omega, by omega⟩ | exact ⟨by omega, by omega⟩ | (split <;> omega) | fail)
local macro_rules | `(tactic| walk_at "ty") => `(tactic| first | exact .int _ | exact .bl _ | exact .lst (by walk_at "get") | exact .tup (by walk_at "get") | exact .non | fail)
local macro_rules | `(tactic| walk_at "kit") => `(tactic| first | exact kit_ii K | exact kit_ib K | exact kit_ll K | exact kit_bb K | exact kit_bi K | exact kit_tt K | fail)
local macro_rules | `(tactic| walk_at "sz") => `(tactic| exact small100' (by (try simp only [List.length_map, List.length_append, List.length_cons, List.length_nil]); omega))
local macro_rules | `(tactic| walk_at "s") => `(tactic| first | refine yes2 ?_ | refine ⟨_, rfl, ?_⟩ | refine ⟨_, _, rfl, rfl, ?_⟩ | refine And.intro rfl ?_ | refine And.intro (by walk_at "c") ?_ | refine ⟨_, _, _, _, rfl, rfl, (show SqL _ _ _ _ by walk_at "sq"), (show atI _ _ = some _ by walk_at "at"), ?_⟩ | refine ⟨_, _, _, _, rfl, rfl, (show SqT _ _ _ _ by walk_at "sqT"), (show atI _ _ = some _ by walk_at "at"), ?_⟩ | refine ⟨_, _, rfl, .inl (show SqL _ _ _ _ by walk_at "sq"), ?_⟩ | refine ⟨_, _, rfl, .inr (show SqT _ _ _ _ by walk_at "sqT"), ?_⟩ | refine ⟨_, _, rfl, (show SqL _ _ _ _ by walk_at "sq"), ?_⟩ | refine And.intro ⟨_, (show SqL _ _ _ _ by walk_at "sq")⟩ ?_ | refine And.intro (.inl ⟨rfl, _, (show SqL _ _ _ _ by walk_at "sq")⟩) ?_ | refine ⟨_, _, _, _, rfl, (show TyOf _ _ _ _ by walk_at "ty"), (show PySem.W.kitOne _ _ _ = some _ by walk_at "kit"), ?_⟩ | refine ⟨_, _, rfl, ?_⟩ | fail)
local macro_rules | `(tactic| walk_at "w") => `(tactic| repeat walk_at "s")
local macro_rules | `(tactic| walk_at "if") => `(tactic| first | refine iteT ?_ | refine iteF ?_ | refine ifN ?_ | refine ifI (fun hc => ?_) (fun hc => ?_) | refine ifD (fun hc => ?_) (fun hc => ?_) | refine ifB (fun hc => ?_) (fun hc => ?_) | fail)
local macro_rules | `(tactic| walk_at "go") => `(tactic| repeat' (first | walk_at "if" | walk_at "s" | fail))
local macro_rules | `(tactic| walk_at "nw") => `(tactic| (generalize hE : upd _ _ _ = Hn; replace O := Ow.mkE O (by assumption) hE rfl; clear hE))
local macro_rules | `(tactic| walk_at "pt") => `(tactic| (generalize hE : upd _ _ _ = Hn; (first | replace O := Ow.putE O 0 rfl hE rfl | replace O := Ow.putE O 1 rfl hE rfl | replace O := Ow.putE O 2 rfl hE rfl | replace O := Ow.putE O 3 rfl hE rfl | replace O := Ow.putE O 4 rfl hE rfl | replace O := Ow.putE O 5 rfl hE rfl | replace O := Ow.putE O 6 rfl hE rfl | replace O := Ow.putE O 7 rfl hE rfl); clear hE; (try simp only [List.set_cons_zero, List.set_cons_succ] at O)))
local macro_rules | `(tactic| walk_at "app") => `(tactic| (refine ⟨_, _, _, rfl, rfl, (by walk_at "get"), (by walk_at "sz"), ?_⟩; walk_at "pt"))
local macro_rules | `(tactic| walk_at "elt") => `(tactic| (refine ⟨_, (by walk_at "get"), (by walk_at "sz"), ?_⟩; walk_at "pt"))
local macro_rules | `(tactic| walk_at "frz") => `(tactic| (obtain ⟨Hn, On, sn, en⟩ := O.frz; clear O; have O := On; clear On; (try replace s0 := s0.mo sn); (try replace d0 := d0.mo sn); (try replace d1 := d1.mo sn); (try replace d2 := d2.mo sn); (try replace d3 := d3.mo sn); (try replace d4 := d4.mo sn); (try replace d5 := d5.mo sn); (try replace d6 := d6.mo sn); (try replace d7 := d7.mo sn)))
local macro_rules | `(tactic| walk_at "mo") => `(tactic| ((try simp only [List.eraseIdx_cons_zero, List.eraseIdx_cons_succ] at O); (try replace s0 := s0.mo sn); (try replace d0 := d0.mo sn); (try replace d1 := d1.mo sn); (try replace d2 := d2.mo sn); (try replace d3 := d3.mo sn); (try replace d4 := d4.mo sn); (try replace d5 := d5.mo sn); (try replace d6 := d6.mo sn); (try replace d7 := d7.mo sn)))
local macro_rules | `(tactic| walk_at "er") => `(tactic| simp only [List.eraseIdx_cons_zero, List.eraseIdx_cons_succ] at O)
local macro_rules | `(tactic| walk_at "jn") => `(tactic| simp only [List.cons_append, List.nil_append] at O)
def top (i:Nat):Stmt:=PySem.Challenge.pw_sluice_k45_day_takes_and_kept.main.body.getD i (.Pass ⟨0,0,0,0⟩)
theorem rep_intsV (n:Nat) (x:Int):(List.replicate n [V.int x]).flatten=(List.replicate n x).map V.int:=by rw [List.map_replicate];exact rep_one _ _
theorem bump_next {w cur:List Int} {c z:Int} {j:Nat} (hz:w[j]?=some z):Tn.bump cur (w.take (j + 1)) c=(Tn.bump cur (w.take j) c).set z.toNat ((Tn.bump cur (w.take j) c).getD z.toNat 0 + c):=by
  rw [List.take_add_one,hz];exact Tn.bump_snoc _ _ _ _
abbrev s_way_of:Stmt:=top 7
theorem sc_way_of:FnScope ["below","reach","way"] ["below","reach"] (defScope s_way_of):=⟨rfl,rfl,rfl,by decide +kernel,rfl,by decide +kernel,by decide +kernel⟩
def sp_way (K:PySem.W.Frag):Sp:=fun vs H Q _=>∃ (a:Addr) (r:List Int) (p:Int),vs=[.ref a,.int p]∧SqL K H a (r.map V.int)∧Rv.River r∧0≤p∧p<r.length∧r.length≤900 ∧
  RetL H (fun xs=>xs=(Rv.walk r p).map V.int) Q
theorem at_last (pre:List Int) (z:Int):atI ((pre++[z]).map V.int) (-1)=some (V.int z):=by
  rw [List.map_append];exact atI_last _ _
theorem sl_1 {a1:TS} {a2:TT} {a3:TS} {a5:TS} {D:Ends} {σ:St} {H:Hp} (h:let z4:TS:=a3;let z6:TS:=a5;let z7:TS:=tSeq (tWhile a2 z4) z6;(tSeq a1 z7) D σ H):(tSeq a1 (tSeq (tWhile a2 a3) a5)) D σ H:=h
theorem sl_2 {a1:TS} {a2:TI} {a3:TG} {a4:TT} {a5:TS} {a7:TS} {a9:TS} {D:Ends} {σ:St} {H:Hp} (h:let z6:TS:=a5;let z8:TS:=tIfS a4 z6 a7;let z10:TS:=a9;let z11:TS:=tSeq (tFor a2 a3 z8) z10;(tSeq a1 z11) D σ H):(tSeq a1 (tSeq (tFor a2 a3 (tIfS a4 a5 a7)) a9)) D σ H:=h
theorem sl_3 {a1:TS} {a2:TT} {a3:TS} {a5:TS} {a6:TT} {a7:TS} {a9:TS} {a10:TS} {D:Ends} {σ:St} {H:Hp} (h:let z4:TS:=a3;let z8:TS:=a7;let z11:TS:=a10;let z12:TS:=tSeq (tIfS a6 z8 a9) z11;let z13:TS:=tSeq (tIfS a2 z4 a5) z12;(tSeq a1 z13) D σ H):(tSeq a1 (tSeq (tIfS a2 a3 a5) (tSeq (tIfS a6 a7 a9) a10))) D σ H:=h
theorem sl_4 {a1:TS} {a2:TS} {D:Ends} {σ:St} {H:Hp} (h:let z3:TS:=a2;(tSeq a1 z3) D σ H):(tSeq a1 a2) D σ H:=h
theorem sl_5 {a1:TS} {a2:TI} {a3:TG} {a4:TI} {a5:TG} {a6:TS} {a9:TS} {D:Ends} {σ:St} {H:Hp} (h:let z7:TS:=a6;let z8:TS:=tFor a4 a5 z7;let z10:TS:=a9;let z11:TS:=tSeq (tFor a2 a3 z8) z10;(tSeq a1 z11) D σ H):(tSeq a1 (tSeq (tFor a2 a3 (tFor a4 a5 a6)) a9)) D σ H:=h
theorem sl_6 {a1:TS} {a2:TS} {a3:TS} {D:Ends} {σ:St} {H:Hp} (h:let z4:TS:=a3;let z5:TS:=tSeq a2 z4;(tSeq a1 z5) D σ H):(tSeq a1 (tSeq a2 a3)) D σ H:=h
theorem sl_7 {a1:TI} {a2:TG} {a3:TS} {D:Ends} {σ:St} {H:Hp} (h:let z4:TS:=a3;(tFor a1 a2 z4) D σ H):(tFor a1 a2 a3) D σ H:=h
theorem sl_8 {a1:TS} {a2:TS} {a3:TI} {a4:TG} {a5:TS} {a6:TS} {D:Ends} {σ:St} {H:Hp} (h:let z7:TS:=a6;let z8:TS:=tSeq a5 z7;let z9:TS:=tFor a3 a4 z8;let z10:TS:=tSeq a2 z9;(tSeq a1 z10) D σ H):(tSeq a1 (tSeq a2 (tFor a3 a4 (tSeq a5 a6)))) D σ H:=h
theorem sl_9 {a1:TS} {a2:TI} {a3:TG} {a4:TT} {a5:TS} {a6:TS} {a7:TS} {a11:TS} {a13:TS} {D:Ends} {σ:St} {H:Hp} (h:let z8:TS:=a7;let z9:TS:=tSeq a6 z8;let z10:TS:=tSeq a5 z9;let z12:TS:=tIfS a4 z10 a11;let z14:TS:=a13;let z15:TS:=tSeq (tFor a2 a3 z12) z14;(tSeq a1 z15) D σ H):(tSeq a1 (tSeq (tFor a2 a3 (tIfS a4 (tSeq a5 (tSeq a6 a7)) a11)) a13)) D σ H:=h
theorem sl_10 {a1:TS} {a2:TS} {a3:TS} {a4:TT} {a5:TS} {a6:TS} {a9:TS} {D:Ends} {σ:St} {H:Hp} (h:let z7:TS:=a6;let z8:TS:=tSeq a5 z7;let z10:TS:=a9;let z11:TS:=tSeq (tWhile a4 z8) z10;let z12:TS:=tSeq a3 z11;let z13:TS:=tSeq a2 z12;(tSeq a1 z13) D σ H):(tSeq a1 (tSeq a2 (tSeq a3 (tSeq (tWhile a4 (tSeq a5 a6)) a9)))) D σ H:=h
theorem sl_11 {a1:TS} {a2:TI} {a3:TG} {a4:TS} {a6:TS} {D:Ends} {σ:St} {H:Hp} (h:let z5:TS:=a4;let z7:TS:=a6;let z8:TS:=tSeq (tFor a2 a3 z5) z7;(tSeq a1 z8) D σ H):(tSeq a1 (tSeq (tFor a2 a3 a4) a6)) D σ H:=h
theorem sl_12 {a1:TS} {a2:TS} {a3:TS} {a4:TI} {a5:TG} {a6:TS} {a7:TS} {a8:TI} {a9:TG} {a10:TS} {a15:TS} {D:Ends} {σ:St} {H:Hp} (h:let z11:TS:=a10;let z12:TS:=tFor a8 a9 z11;let z13:TS:=tSeq a7 z12;let z14:TS:=tSeq a6 z13;let z16:TS:=a15;let z17:TS:=tSeq (tFor a4 a5 z14) z16;let z18:TS:=tSeq a3 z17;let z19:TS:=tSeq a2 z18;(tSeq a1 z19) D σ H):(tSeq a1 (tSeq a2 (tSeq a3 (tSeq (tFor a4 a5 (tSeq a6 (tSeq a7 (tFor a8 a9 a10)))) a15)))) D σ H:=h
theorem sl_13 {a1:TS} {a2:TT} {a3:TS} {a5:TS} {a6:TT} {a7:TS} {a9:TS} {a10:TT} {a11:TS} {a13:TS} {D:Ends} {σ:St} {H:Hp} (h:let z4:TS:=a3;let z8:TS:=a7;let z12:TS:=a11;let z14:TS:=tIfS a10 z12 a13;let z15:TS:=tSeq (tIfS a6 z8 a9) z14;let z16:TS:=tSeq (tIfS a2 z4 a5) z15;(tSeq a1 z16) D σ H):(tSeq a1 (tSeq (tIfS a2 a3 a5) (tSeq (tIfS a6 a7 a9) (tIfS a10 a11 a13)))) D σ H:=h
theorem sl_14 {a1:TS} {a2:TI} {a3:TG} {a4:TS} {a5:TS} {a6:TS} {a10:TS} {D:Ends} {σ:St} {H:Hp} (h:let z7:TS:=a6;let z8:TS:=tSeq a5 z7;let z9:TS:=tSeq a4 z8;let z11:TS:=a10;let z12:TS:=tSeq (tFor a2 a3 z9) z11;(tSeq a1 z12) D σ H):(tSeq a1 (tSeq (tFor a2 a3 (tSeq a4 (tSeq a5 a6))) a10)) D σ H:=h
theorem sl_15 {a1:TS} {a2:TI} {a3:TG} {a4:TS} {a5:TS} {a8:TS} {D:Ends} {σ:St} {H:Hp} (h:let z6:TS:=a5;let z7:TS:=tSeq a4 z6;let z9:TS:=a8;let z10:TS:=tSeq (tFor a2 a3 z7) z9;(tSeq a1 z10) D σ H):(tSeq a1 (tSeq (tFor a2 a3 (tSeq a4 a5)) a8)) D σ H:=h
theorem sl_16 {a1:TS} {a2:TS} {a3:TI} {a4:TG} {a5:TS} {a6:TS} {a7:TS} {a8:TS} {a9:TS} {a15:TS} {D:Ends} {σ:St} {H:Hp} (h:let z10:TS:=a9;let z11:TS:=tSeq a8 z10;let z12:TS:=tSeq a7 z11;let z13:TS:=tSeq a6 z12;let z14:TS:=tSeq a5 z13;let z16:TS:=a15;let z17:TS:=tSeq (tFor a3 a4 z14) z16;let z18:TS:=tSeq a2 z17;(tSeq a1 z18) D σ H):(tSeq a1 (tSeq a2 (tSeq (tFor a3 a4 (tSeq a5 (tSeq a6 (tSeq a7 (tSeq a8 a9))))) a15))) D σ H:=h
theorem sl_17 {a1:TI} {a2:TG} {a3:TS} {a5:TS} {D:Ends} {σ:St} {H:Hp} (h:let z4:TS:=a3;let z6:TS:=a5;(tSeq (tFor a1 a2 z4) z6) D σ H):(tSeq (tFor a1 a2 a3) a5) D σ H:=h
theorem sl_18 {a1:TT} {a2:TS} {a4:TS} {a5:TT} {a6:TS} {a8:TS} {a9:TS} {D:Ends} {σ:St} {H:Hp} (h:let z3:TS:=a2;let z7:TS:=a6;let z10:TS:=a9;let z11:TS:=tSeq (tIfS a5 z7 a8) z10;(tSeq (tIfS a1 z3 a4) z11) D σ H):(tSeq (tIfS a1 a2 a4) (tSeq (tIfS a5 a6 a8) a9)) D σ H:=h
theorem sl_19 {a1:TS} {a2:TI} {a3:TG} {a4:TS} {a5:TS} {a8:TI} {a9:TG} {a10:TS} {a12:TS} {D:Ends} {σ:St} {H:Hp} (h:let z6:TS:=a5;let z7:TS:=tSeq a4 z6;let z11:TS:=a10;let z13:TS:=a12;let z14:TS:=tSeq (tFor a8 a9 z11) z13;let z15:TS:=tSeq (tFor a2 a3 z7) z14;(tSeq a1 z15) D σ H):(tSeq a1 (tSeq (tFor a2 a3 (tSeq a4 a5)) (tSeq (tFor a8 a9 a10) a12))) D σ H:=h
theorem sl_20 {a1:TS} {a2:TS} {a3:TS} {a4:TS} {a5:TS} {a6:TS} {a7:TS} {D:Ends} {σ:St} {H:Hp} (h:let z8:TS:=a7;let z9:TS:=tSeq a6 z8;let z10:TS:=tSeq a5 z9;let z11:TS:=tSeq a4 z10;let z12:TS:=tSeq a3 z11;let z13:TS:=tSeq a2 z12;(tSeq a1 z13) D σ H):(tSeq a1 (tSeq a2 (tSeq a3 (tSeq a4 (tSeq a5 (tSeq a6 a7)))))) D σ H:=h
theorem sl_21 {a1:TS} {a2:TS} {a3:TT} {a4:TS} {a6:TS} {a7:TS} {a8:TI} {a9:TG} {a10:TT} {a11:TS} {a13:TT} {a14:TS} {a16:TS} {a20:TS} {a21:TS} {a22:TS} {a23:TI} {a24:TG} {a25:TT} {a26:TS} {a28:TS} {a30:TS} {D:Ends} {σ:St} {H:Hp} (h:let z5:TS:=a4;let z12:TS:=a11;let z15:TS:=a14;let z17:TS:=a16;let z18:TS:=tIfS a13 z15 z17;let z19:TS:=tIfS a10 z12 z18;let z27:TS:=a26;let z29:TS:=tIfS a25 z27 a28;let z31:TS:=a30;let z32:TS:=tSeq (tFor a23 a24 z29) z31;let z33:TS:=tSeq a22 z32;let z34:TS:=tSeq a21 z33;let z35:TS:=tSeq a20 z34;let z36:TS:=tSeq (tFor a8 a9 z19) z35;let z37:TS:=tSeq a7 z36;let z38:TS:=tSeqM (tIfS a3 z5 a6) z37;let z39:TS:=tSeq a2 z38;(tSeq a1 z39) D σ H):(tSeq a1 (tSeq a2 (tSeqM (tIfS a3 a4 a6) (tSeq a7 (tSeq (tFor a8 a9 (tIfS a10 a11 (tIfS a13 a14 a16))) (tSeq a20 (tSeq a21 (tSeq a22 (tSeq (tFor a23 a24 (tIfS a25 a26 a28)) a30))))))))) D σ H:=h
theorem sl_22 {a1:TS} {a2:TS} {a3:TT} {a4:TS} {a5:TS} {a8:TS} {D:Ends} {σ:St} {H:Hp} (h:let z6:TS:=a5;let z7:TS:=tSeq a4 z6;let z9:TS:=a8;let z10:TS:=tSeq (tWhile a3 z7) z9;let z11:TS:=tSeq a2 z10;(tSeq a1 z11) D σ H):(tSeq a1 (tSeq a2 (tSeq (tWhile a3 (tSeq a4 a5)) a8))) D σ H:=h
theorem sl_23 {a1:TT} {a2:TS} {a4:TS} {a5:TT} {a6:TS} {a8:TS} {a9:TT} {a10:TS} {a12:TS} {a13:TS} {D:Ends} {σ:St} {H:Hp} (h:let z3:TS:=a2;let z7:TS:=a6;let z11:TS:=a10;let z14:TS:=a13;let z15:TS:=tSeq (tIfS a9 z11 a12) z14;let z16:TS:=tSeq (tIfS a5 z7 a8) z15;(tSeq (tIfS a1 z3 a4) z16) D σ H):(tSeq (tIfS a1 a2 a4) (tSeq (tIfS a5 a6 a8) (tSeq (tIfS a9 a10 a12) a13))) D σ H:=h
theorem sl_24 {a1:TS} {a2:TS} {a3:TS} {a4:TT} {a5:TS} {a7:TS} {a8:TS} {D:Ends} {σ:St} {H:Hp} (h:let z6:TS:=a5;let z9:TS:=a8;let z10:TS:=tSeqM (tIfS a4 z6 a7) z9;let z11:TS:=tSeq a3 z10;let z12:TS:=tSeq a2 z11;(tSeq a1 z12) D σ H):(tSeq a1 (tSeq a2 (tSeq a3 (tSeqM (tIfS a4 a5 a7) a8)))) D σ H:=h
theorem sl_25 {a1:TS} {a2:TT} {a3:TS} {a5:TS} {a6:TS} {a7:TS} {a8:TI} {a9:TG} {a10:TS} {a12:TI} {a13:TG} {a14:TS} {a15:TT} {a16:TS} {a18:TS} {a21:TS} {D:Ends} {σ:St} {H:Hp} (h:let z4:TS:=a3;let z11:TS:=a10;let z17:TS:=a16;let z19:TS:=tIfS a15 z17 a18;let z20:TS:=tSeq a14 z19;let z22:TS:=a21;let z23:TS:=tSeq (tFor a12 a13 z20) z22;let z24:TS:=tSeq (tFor a8 a9 z11) z23;let z25:TS:=tSeq a7 z24;let z26:TS:=tSeq a6 z25;let z27:TS:=tSeqM (tIfS a2 z4 a5) z26;(tSeq a1 z27) D σ H):(tSeq a1 (tSeqM (tIfS a2 a3 a5) (tSeq a6 (tSeq a7 (tSeq (tFor a8 a9 a10) (tSeq (tFor a12 a13 (tSeq a14 (tIfS a15 a16 a18))) a21)))))) D σ H:=h
theorem sl_26 {a1:TI} {a2:TG} {a3:TS} {a4:TT} {a5:TS} {a7:TS} {a8:TT} {a9:TS} {a11:TS} {D:Ends} {σ:St} {H:Hp} (h:let z6:TS:=a5;let z10:TS:=a9;let z12:TS:=tIfS a8 z10 a11;let z13:TS:=tSeqM (tIfS a4 z6 a7) z12;let z14:TS:=tSeq a3 z13;(tFor a1 a2 z14) D σ H):(tFor a1 a2 (tSeq a3 (tSeqM (tIfS a4 a5 a7) (tIfS a8 a9 a11)))) D σ H:=h
theorem sl_27 {a1:TS} {a2:TS} {a3:TI} {a4:TG} {a5:TS} {a6:TS} {a9:TS} {D:Ends} {σ:St} {H:Hp} (h:let z7:TS:=a6;let z8:TS:=tSeq a5 z7;let z10:TS:=a9;let z11:TS:=tSeq (tFor a3 a4 z8) z10;let z12:TS:=tSeq a2 z11;(tSeq a1 z12) D σ H):(tSeq a1 (tSeq a2 (tSeq (tFor a3 a4 (tSeq a5 a6)) a9))) D σ H:=h
theorem sl_28 {a1:TS} {a2:TI} {a3:TG} {a4:TS} {a5:TT} {a6:TS} {a7:TS} {a8:TS} {a9:TS} {a14:TS} {a17:TS} {D:Ends} {σ:St} {H:Hp} (h:let z10:TS:=a9;let z11:TS:=tSeq a8 z10;let z12:TS:=tSeq a7 z11;let z13:TS:=tSeq a6 z12;let z15:TS:=tIfS a5 z13 a14;let z16:TS:=tSeq a4 z15;let z18:TS:=a17;let z19:TS:=tSeq (tFor a2 a3 z16) z18;(tSeq a1 z19) D σ H):(tSeq a1 (tSeq (tFor a2 a3 (tSeq a4 (tIfS a5 (tSeq a6 (tSeq a7 (tSeq a8 a9))) a14))) a17)) D σ H:=h
theorem sl_29 {a1:TT} {a2:TS} {a4:TS} {a5:TS} {D:Ends} {σ:St} {H:Hp} (h:let z3:TS:=a2;let z6:TS:=a5;(tSeq (tIfS a1 z3 a4) z6) D σ H):(tSeq (tIfS a1 a2 a4) a5) D σ H:=h
theorem sl_30 {a1:TI} {a2:TG} {a3:TS} {a4:TS} {a5:TT} {a6:TS} {a8:TS} {a12:TS} {D:Ends} {σ:St} {H:Hp} (h:let z7:TS:=a6;let z9:TS:=tIfS a5 z7 a8;let z10:TS:=tSeq a4 z9;let z11:TS:=tSeq a3 z10;let z13:TS:=a12;(tSeq (tFor a1 a2 z11) z13) D σ H):(tSeq (tFor a1 a2 (tSeq a3 (tSeq a4 (tIfS a5 a6 a8)))) a12) D σ H:=h
theorem sl_31 {a1:TS} {a2:TS} {a3:TS} {a4:TS} {a5:TS} {a6:TS} {a7:TS} {a8:TS} {a9:TS} {a10:TS} {a11:TS} {a12:TS} {a13:TS} {a14:TS} {a15:TS} {a16:TI} {a17:TG} {a18:TS} {a20:TS} {a21:TS} {a22:TT} {a23:TS} {a25:TS} {a26:TT} {a27:TS} {a29:TS} {a30:TS} {a31:TS} {a32:TS} {a33:TT} {a34:TS} {a36:TS} {a37:TS} {D:Ends} {σ:St} {H:Hp} (h:let z19:TS:=a18;let z24:TS:=a23;let z28:TS:=a27;let z35:TS:=a34;let z38:TS:=a37;let z39:TS:=tSeq (tIfS a33 z35 a36) z38;let z40:TS:=tSeq a32 z39;let z41:TS:=tSeq a31 z40;let z42:TS:=tSeq a30 z41;let z43:TS:=tSeq (tIfS a26 z28 a29) z42;let z44:TS:=tSeq (tIfS a22 z24 a25) z43;let z45:TS:=tSeq a21 z44;let z46:TS:=tSeq a20 z45;let z47:TS:=tSeq (tFor a16 a17 z19) z46;let z48:TS:=tSeq a15 z47;let z49:TS:=tSeq a14 z48;let z50:TS:=tSeq a13 z49;let z51:TS:=tSeq a12 z50;let z52:TS:=tSeq a11 z51;let z53:TS:=tSeq a10 z52;let z54:TS:=tSeq a9 z53;let z55:TS:=tSeq a8 z54;let z56:TS:=tSeq a7 z55;let z57:TS:=tSeq a6 z56;let z58:TS:=tSeq a5 z57;let z59:TS:=tSeq a4 z58;let z60:TS:=tSeq a3 z59;let z61:TS:=tSeq a2 z60;(tSeq a1 z61) D σ H):(tSeq a1 (tSeq a2 (tSeq a3 (tSeq a4 (tSeq a5 (tSeq a6 (tSeq a7 (tSeq a8 (tSeq a9 (tSeq a10 (tSeq a11 (tSeq a12 (tSeq a13 (tSeq a14 (tSeq a15 (tSeq (tFor a16 a17 a18) (tSeq a20 (tSeq a21 (tSeq (tIfS a22 a23 a25) (tSeq (tIfS a26 a27 a29) (tSeq a30 (tSeq a31 (tSeq a32 (tSeq (tIfS a33 a34 a36) a37)))))))))))))))))))))))) D σ H:=h
theorem ok_way {f:Addr} {fd:FuncData} (D:Df K mg "way_of" s_way_of ["below","reach"] f fd) (C:Mth mg):FnOk P w K mg base CX0 1 f fd ["below","reach"] (sp_way K):=by
  obtain ⟨tM,hMOUTH⟩:=C.MOUTH
  refine D.F.ok sc_way_of (fun vs H Q E h=>?_) (fun cdv A outer s H vs Q E hr h=>?_)
  · obtain ⟨a,r,p,rfl,_⟩:=h;rfl
  · obtain ⟨a,r,p,rfl,hS,hR,p0,p1,hn,q⟩:=h
    refine ⟨_,(pss_cons (ps_set (i:=2) sc_way_of.nd rfl (Or.inl rfl) (pe_lst (pa_cons (pv 1) pa_nil)))
      (pss_cons (ps_while PassesOwn.never (pt_cmpR op_ne (pe_ix ix_list (pv 0) (pe_ix ix_list (pv 2) (pe_un un_neg pe_int) (fun _ _=>rfl)) (fun _ _=>rfl)) (pe_glob (v:=.int (-1)) rfl hMOUTH ⟨_,rfl⟩) (nomark _))
        (pss_one (ps_expr (pe_bm PySem.F.plainAttrs_list PySem.F.slot_list_append PySem.F.type_list_append mt_append (pv 2) (pa_cons (pe_ix ix_list (pv 0) (pe_ix ix_list (pv 2) (pe_un un_neg pe_int) (fun _ _=>rfl)) (fun _ _=>rfl)) pa_nil)))))
      (pss_one (ps_ret (pv 2))))),?_⟩
    refine sl_1 ?_
    intro zu0 zu1 zu2
    refine ⟨_,rfl,(by show 1≤sizeLine;decide),fun lw hlw=>?_⟩
    refine ⟨fun m σ H'=>∃ (pre:List Int) (z:Int),σ=[some (.ref a),some (.int p),some (.ref lw)]∧Same H H'∧H' lw=some (.lst ((pre++[z]).map V.int))∧0≤z∧z<r.length∧pre++Rv.walk r z=Rv.walk r p∧m=Rv.mea r z,
      ⟨_,[],p,rfl,(Same.refl H).upd hlw,upd_same,p0,p1,rfl,rfl⟩,?_⟩
    rintro m σ H2 ⟨pre,z,rfl,s2,h2,z0,z1,e,rfl⟩
    have g:=Rv.get_nxt z0 z1
    have hlen:pre.length + (Rv.walk r z).length≤r.length + 1:=by
      have:=Rv.walk_len r p
      rw [← e,List.length_append] at this;exact this
    refine ⟨_,rfl,_,rfl,_,rfl,lw,_,_,_,rfl,rfl,SqL.of h2,at_last pre z,a,_,_,_,rfl,rfl,s2.seq hS,ints_atI z0 g,rfl,_,rfl,?_⟩
    rcases hR.step z0 z1 with hm | ⟨n0,n1⟩
    · rw [hm]
      refine iteNS rfl ?_
      refine ⟨_,rfl,q lw H2 _ s2 hlw h2 ?_⟩
      have ew:Rv.walk r z=[z]:=by rw [Rv.walk_cons hR z0 z1,hm,Rv.walk_neg]
      rw [← e,ew]
    · have hd:(!decide (V.int (Rv.nxt r z)=V.int (-1)))=true:=by
        have:¬ Rv.nxt r z=-1:=by omega
        simp [this]
      rw [hd]
      refine iteT ?_
      refine ⟨fun σ' H'=>∃ m',m'<Rv.mea r z∧∃ (pre:List Int) (z:Int),σ'=[some (.ref a),some (.int p),some (.ref lw)]∧Same H H'∧H' lw=some (.lst ((pre++[z]).map V.int))∧0≤z∧z<r.length∧pre++Rv.walk r z=Rv.walk r p∧m'=Rv.mea r z,fun _ _ x=>x,?_⟩
      refine ⟨_,rfl,.inl ⟨rfl,_,SqL.of h2⟩,_,rfl,_,rfl,_,rfl,lw,_,_,_,rfl,rfl,SqL.of h2,at_last pre z,a,_,_,_,rfl,rfl,s2.seq hS,ints_atI z0 g,lw,_,_,rfl,rfl,h2,small100' ?_,?_⟩
      · rw [List.length_map,List.length_append]
        have:1≤(Rv.walk r z).length:=by rw [Rv.walk_cons hR z0 z1];exact Nat.succ_le_succ (Nat.zero_le _)
        show pre.length + 1≤_
        omega
      · refine ⟨_,Rv.mea_lt hR z0 z1,pre++[z],Rv.nxt r z,rfl,s2.upd hlw,?_,n0,n1,?_,rfl⟩
        · rw [upd_same,List.map_append (l₁:=pre++[z])];rfl
        · rw [List.append_assoc]
          show pre++(z :: Rv.walk r (Rv.nxt r z))=_
          rw [← Rv.walk_cons hR z0 z1];exact e
abbrev s_tops_first:Stmt:=top 8
theorem sc_tops_first:FnScope ["below"] ["below"] (defScope s_tops_first):=⟨rfl,rfl,rfl,by decide +kernel,rfl,by decide +kernel,by decide +kernel⟩
def rvIn (K:PySem.W.Frag) (H:Hp) (a:Addr) (r:List Int):Prop:=SqL K H a (r.map V.int)∧Rv.River r∧r.length<64
def lam_tops:Pos × Str:=(⟨18,41,18,90⟩,"tops_first.<locals>.<lambda>")
def TT1 (P:Addr) (T:Tabs):Prop:=(P,lam_tops.1,lam_tops.2)∈T∧(T.map (·.1)).Nodup
def sp_tops (K:PySem.W.Frag) (T:Tabs):Sp:=fun vs H Q _=>∃ (a:Addr) (r:List Int),vs=[.ref a]∧rvIn K H a r∧TabsOk T H ∧
  RetLT T H (fun xs=>∃ p,xs=p.map (fun (i:Nat)=>V.int (i:Int))∧Rv.Tops r p) Q
theorem lex_kap {r:List Int} {i j:Nat} (hi:i<64) (hj:j<64):HT.lexLt [-((Rv.walk r (i:Int)).length:Int),(i:Int)] [-((Rv.walk r (j:Int)).length:Int),(j:Int)]=decide (Rv.kap r i<Rv.kap r j):=by
  unfold Rv.kap
  rw [HT.lexLt_cons,HT.lexLt_cons,HT.lexLt_nil_nil]
  rw [Bool.eq_iff_iff]
  split
  · split
    · simp only [Bool.false_eq_true,decide_eq_true_eq,false_iff];omega
    · simp only [decide_eq_true_eq];omega
  · simp only [decide_eq_true_eq];omega
theorem ok_tops {f fW:Addr} {fd fdW:FuncData} {pT cT:Addr} {T:Tabs} (D:Df K mg "tops_first" s_tops_first ["below"] f fd) (hcd:fd.code=.ref cT) (hhd:PySem.W.codeHdIn K cT pT=true) (hT:TT1 pT T) (hbm:BM mg base) (B:Blt mg)
    (D_way_of:Df K mg "way_of" s_way_of ["below","reach"] fW fdW) (G_way_of:FnOk P w K mg base CX0 1 fW fdW ["below","reach"] (sp_way K)):FnOk P w K mg base CX0 5 f fd ["below"] (sp_tops K T):=by
  refine D.F.okC hcd sc_tops_first (fun vs H Q E h=>?_) (fun A outer s H vs Q E hr h=>?_)
  · obtain ⟨a,r,rfl,_⟩:=h;rfl
  · obtain ⟨a,r,rfl,⟨hS,hR,h64⟩,tk,q⟩:=h
    refine ⟨_,(pss_one (ps_ret (pe_sortedLam (P:=pT) (c:=cT) (p:="reach") (defScope s_tops_first) rfl ["below"] rfl ["below"] [some 0] (by decide +kernel) (by decide +kernel) (by decide +kernel) rfl hbm rfl hhd (lam_deep (hr.mono (by decide))) rfl B.sorted rfl B.range (pa_cons (pe_callB call_len_seq rfl B.len PySem.boot_len (pa_cons (pv 0) pa_nil)) pa_nil) (fun A f cv s H hh hd hu=>(pe_tup (pa_cons (pe_un un_neg (pe_callB (call_len_seqK (K:=K) rfl) rfl B.len PySem.boot_len (pa_cons (pe_call G_way_of (lam_room (hr.mono (by decide)) hh hd hu) rfl D_way_of.m D_way_of.F.kp D_way_of.b .nil pass0 (pa_cons (pv 1) (pa_cons (pv 0) pa_nil))) pa_nil))) (pa_cons (pv 0) pa_nil)))) (fun _ _ _ _=>rfl)))),?_⟩
    have hl:(r.map V.int).length=r.length:=List.length_map _
    refine ⟨_,rfl,a,_,rfl,.inl hS,r.length,by rw [hl],h64,tk _ hT.1,fun H2 k1 k2 t2=>?_⟩
    have sT:SameT T H H2:=SameT.tab tk hT.1 hT.2 k1 t2
    refine ⟨fun i ts H3=>SameT T H2 H3∧ts.length=i∧∀ (j:Nat) (t:Addr),ts[j]?=some t→H3 t=some (.tup ([-((Rv.walk r (j:Int)).length:Int),(j:Int)].map V.int)),fun i=>[-((Rv.walk r (i:Int)).length:Int),(i:Int)],Rv.kap r,1,⟨SameT.refl sT.t1,rfl,fun j t e=>by simp at e⟩,?_,?_,fun _ _=>rfl,fun i j hi hj=>lex_kap (by omega) (by omega),?_,?_⟩
    · rintro i ts H3 hi ⟨s3,htl,h3⟩
      refine ⟨fun c' e=>s3.keep c' _ e fun ps z=>(by cases z),?_⟩
      refine ⟨_,rfl,_,rfl,a,r,(i:Int),rfl,(sT.trans s3).seq hS,hR,by omega,by omega,by omega,fun l H4 xs s4 n4 h4 e4=>?_⟩
      subst e4
      refine ⟨l,_,rfl,.inl (SqL.of h4),_,rfl,_,rfl,(by show 2≤sizeLine;decide),fun t ht=>⟨t,rfl,?_⟩⟩
      have sT4:SameT T H2 H4:=s3.trans (SameT.of s3.t1 s4)
      have nt:H2 t=none:=sT4.free ht
      refine ⟨sT4.upd nt (.inl ht),by rw [List.length_append,htl];rfl,fun j t' e=>?_⟩
      by_cases hj:j<ts.length
      · rw [List.getElem?_append_left hj] at e
        have h4':=s4 _ _ (h3 j t' e)
        rw [upd_ne (ne_of_none h4' ht)];exact h4'
      · rw [List.getElem?_append_right (by omega)] at e
        have hj0:j - ts.length=0:=by
          have:=(List.getElem?_eq_some_iff.mp e).1
          simp at this;omega
        have hji:j=i:=by omega
        rw [hj0] at e
        simp at e
        subst e
        subst hji
        rw [upd_same,List.length_map];rfl
    · rintro ts H3 ⟨_,_,h3⟩
      exact h3
    · intro i j hi hj hij e
      unfold Rv.kap at e
      omega
    · rintro ts H3 D' ys ⟨s3,_,_⟩ hD ⟨p,hp,rfl,ho⟩
      have hbl:(below0 r.length).length=r.length:=by unfold below0;simp
      rw [hbl] at hp
      refine q D' _ _ ((sT.trans s3).upd ((sT.trans s3).free hD) (.inl hD)) ((sT.trans s3).free hD) upd_same ⟨p,?_,hp,ho⟩
      refine List.map_congr_left fun i hi=>?_
      have hi':i<r.length:=List.mem_range.mp (hp.mem_iff.mp hi)
      show (below0 r.length).getD i .non=_
      unfold below0
      rw [List.getD_eq_getElem?_getD,List.getElem?_map,List.getElem?_range hi'];rfl
abbrev s_natural_of:Stmt:=top 12
theorem sc_natural_of:FnScope ["below","springs","flows","reach"] ["below","springs"] (defScope s_natural_of):=⟨rfl,rfl,rfl,by decide +kernel,rfl,by decide +kernel,by decide +kernel⟩
def sp_nat (K:PySem.W.Frag) (T:Tabs):Sp:=fun vs H Q _=>∃ (a b:Addr) (r s:List Int),vs=[.ref a,.ref b]∧rvIn K H a r∧SqL K H b (s.map V.int)∧s.length=r.length∧TabsOk T H ∧
  RetLT T H (fun xs=>xs=(Rv.nats r s).map V.int) Q
theorem ok_nat {f fT:Addr} {fd fdT:FuncData} {T:Tabs} (D:Df K mg "natural_of" s_natural_of ["below","springs"] f fd) (B:Blt mg) (C:Mth mg)
    (D_tops_first:Df K mg "tops_first" s_tops_first ["below"] fT fdT) (G_tops_first:FnOk P w K mg base CX0 5 fT fdT ["below"] (sp_tops K T)):FnOk P w K mg base CX0 6 f fd ["below","springs"] (sp_nat K T):=by
  obtain ⟨tM,hMOUTH⟩:=C.MOUTH
  refine D.F.ok sc_natural_of (fun vs H Q E h=>?_) (fun cdv A outer s H vs Q E hr h=>?_)
  · obtain ⟨a,b,r,s,rfl,_⟩:=h;rfl
  · obtain ⟨a,b,r,sp,rfl,⟨hS,hR,h64⟩,hB,hl,tk,q⟩:=h
    refine ⟨_,(pss_cons (ps_set (i:=2) sc_natural_of.nd rfl (Or.inl rfl) (pe_callTy call_list_of rfl B.list PyProof.Rows.boot_list (pa_cons (pv 1) pa_nil)))
      (pss_cons (ps_for PassesOwn.never rfl (pi_list (pe_call G_tops_first (hr.mono (by decide)) rfl D_tops_first.m D_tops_first.F.kp D_tops_first.b .nil pass0 (pa_cons (pv 0) pa_nil))) (pg_name (i:=3) sc_natural_of.nd rfl (Or.inl rfl))
        (pss_one (ps_if (pt_cmpR op_ne (pe_ix ix_list (pv 0) (pv 3) (fun _ _=>rfl)) (pe_glob (v:=.int (-1)) rfl hMOUTH ⟨_,rfl⟩) (nomark _))
          (pss_one (ps_augS (pv 2) (pe_ix ix_list (pv 0) (pv 3) (fun _ _=>rfl)) get_list (pe_ix ix_list (pv 2) (pv 3) (fun _ _=>rfl)) ip_add set_list))
          pss_nil)))
      (pss_one (ps_ret (pv 2))))),?_⟩
    refine sl_2 ?_
    intro zu0 zu1 zu2 zu3
    have O:=Ow.refl tk
    refine ⟨_,rfl,b,_,rfl,.inl hB,fun lf hlf=>?_⟩
    walk_at "new";intro H1 O
    refine ⟨_,rfl,a,r,rfl,⟨O.same.seq hS,hR,h64⟩,O.same.t1,O.gotT fun lt H2 xs O ⟨p,ep,hp⟩=>?_⟩
    subst ep
    refine ⟨lt,rfl,⟨_,O.sq 0⟩,?_⟩
    refine for_list (K:=K) (a:=lt) (xs:=p.map fun (i:Nat)=>V.int (i:Int)) (fun t σ H3=>∃ (v3:Option V) (fl:List Int),σ=[some (.ref a),some (.ref b),some (.ref lf),v3]∧Ow T H H3 [(lt,.lst (p.map fun (i:Nat)=>V.int (i:Int))),(lf,.lst (fl.map V.int))]∧Rv.NatI r sp p t fl)
      ⟨none,sp,rfl,O,Rv.NatI.start r sp p hl⟩ (fun _ _ _ _ ⟨_,_,_,O,_⟩=>O.sq 0) ?_ ?_
    · rintro t y σ H3 hy ⟨v3,fl,rfl,O,N⟩
      rw [List.getElem?_map] at hy
      obtain ⟨j,hj,rfl⟩:∃ j,p[t]?=some j∧y=V.int (j:Int):=by
        cases e:p[t]? with
        | none=>rw [e] at hy;cases hy
        | some j=>rw [e] at hy;exact ⟨j,rfl,(Option.some.inj hy).symm⟩
      have hjr:=hp.lt (List.mem_of_getElem? hj)
      have gj:=Rv.get_nxt (r:=r) (p:=(j:Int)) (by omega) (by omega)
      have aj:=ints_atI (ns:=r) (i:=(j:Int)) (by omega) gj
      have here:=N.here hp hR h64 hj
      refine ⟨_,rfl,_,rfl,a,_,_,_,rfl,rfl,O.same.seq hS,aj,rfl,_,rfl,?_⟩
      rcases hR.step (p:=(j:Int)) (by omega) (by omega) with hm | ⟨n0,n1⟩
      · rw [hm]
        refine iteNS rfl ?_
        exact ⟨_,fl,rfl,O,N.mouth hj hm⟩
      · have hd:(!decide (V.int (Rv.nxt r (j:Int))=V.int (-1)))=true:=by
          have:¬ Rv.nxt r (j:Int)=-1:=by omega
          simp [this]
        rw [hd]
        refine iteT ?_
        obtain ⟨bn,ebn⟩:=Int.eq_ofNat_of_zero_le n0
        have hbl:bn<r.length:=by omega
        rw [ebn] at aj
        obtain ⟨x,hx⟩:∃ x,fl[bn]?=some x:=⟨_,N.at_ bn hbl⟩
        refine ⟨_,rfl,_,rfl,_,rfl,a,_,_,_,rfl,rfl,O.same.seq hS,aj,lf,_,bn,V.int x,rfl,rfl,O.sq 1,by rw [List.getElem?_map,hx];rfl,_,rfl,_,rfl,lf,_,_,_,rfl,rfl,O.sq 1,ints_at here,_,_,rfl,rfl,?_⟩
        refine ow_set O 1 rfl (ixN_nat (by rw [List.length_map,N.len];exact hbl)) fun H4 O=>?_
        refine ⟨_,fl.set bn (x + Rv.natf r sp (j:Int)),rfl,?_,N.turn hp hR h64 hj ebn hbl hx⟩
        rw [List.map_set];exact O
    · rintro σ H3 ⟨v3,fl,rfl,O,N⟩
      rw [List.length_map,hp.len] at N
      exact ⟨_,rfl,O.ret 1 rfl q (by rw [N.done hp hR])⟩
abbrev s_stretch_of:Stmt:=top 10
theorem sc_stretch_of:FnScope ["below","start","stop","way"] ["below","start","stop"] (defScope s_stretch_of):=⟨rfl,rfl,rfl,by decide +kernel,rfl,by decide +kernel,by decide +kernel⟩
theorem take_idx (b:Int):∀ l:List Int,l.take (l.idxOf b)=l.takeWhile (fun x=>!decide (x=b))
  | []=>rfl
  | x :: l=>by
    rw [List.idxOf_cons,List.takeWhile_cons]
    by_cases h:x=b
    · simp [h]
    · have e:(x == b)=false:=by simp [h]
      rw [e,cond_false,List.take_succ_cons,take_idx b l]
      simp [h]
theorem cut_take (ns:List Int) (k:Nat):cutV (ns.map V.int) none (some (k:Int))=(ns.take k).map V.int:=by
  unfold cutV
  rw [HT.sIx_none,HT.sIx_nat,List.drop_zero,List.length_map,Nat.sub_zero,← List.map_take]
  congr 1
  rw [List.take_eq_take_iff];omega
def sp_strch (K:PySem.W.Frag):Sp:=fun vs H Q _=>∃ (a:Addr) (r:List Int) (p b:Int),vs=[.ref a,.int p,.int b]∧SqL K H a (r.map V.int)∧Rv.River r∧0≤p∧p<r.length∧r.length≤900∧Rv.Stop r p b ∧
  RetL H (fun xs=>xs=(Rv.strch r p b).map V.int) Q
theorem ok_strch {f fW:Addr} {fd fdW:FuncData} (D:Df K mg "stretch_of" s_stretch_of ["below","start","stop"] f fd) (C:Mth mg) (D_way_of:Df K mg "way_of" s_way_of ["below","reach"] fW fdW)
    (G_way_of:FnOk P w K mg base CX0 1 fW fdW ["below","reach"] (sp_way K)):FnOk P w K mg base CX0 2 f fd ["below","start","stop"] (sp_strch K):=by
  obtain ⟨tM,hMOUTH⟩:=C.MOUTH
  refine D.F.ok sc_stretch_of (fun vs H Q E h=>?_) (fun cdv A outer s H vs Q E hr h=>?_)
  · obtain ⟨a,r,p,b,rfl,_⟩:=h;rfl
  · obtain ⟨a,r,p,b,rfl,hS,hR,p0,p1,hn,st,q⟩:=h
    refine ⟨_,(pss_cons (ps_set (i:=3) sc_stretch_of.nd rfl (Or.inl rfl) (pe_call G_way_of (hr.mono (by decide)) rfl D_way_of.m D_way_of.F.kp D_way_of.b .nil pass0 (pa_cons (pv 0) (pa_cons (pv 1) pa_nil))))
      (pss_cons (ps_if (pt_cmpR op_eq (pv 2) (pe_glob (v:=.int (-1)) rfl hMOUTH ⟨_,rfl⟩) (nomark _))
        (pss_one (ps_ret (pv 3)))
        pss_nil)
      (pss_cons (ps_if (pt_cmpR op_notIn_seq (pv 2) (pv 3) (by rfl))
        (pss_one ps_never)
        pss_nil)
      (pss_one (ps_ret (pe_slice sl_list (pv 3) po_none (po_some (pe_bm PySem.F.plainAttrs_list PySem.F.slot_list_index PySem.F.type_list_index mt_index (pv 3) (pa_cons (pv 2) pa_nil))))))))),?_⟩
    refine sl_3 ?_
    intro zu0 zu1 zu2 zu3 zu4
    refine ⟨_,rfl,_,rfl,a,r,p,rfl,hS,hR,p0,p1,hn,fun lw H1 xs s1 n1 h1 e1=>?_⟩
    subst e1
    refine ⟨_,rfl,rfl,_,rfl,ite2 (fun h=>?_) fun h=>?_⟩
    · have hb:b=-1:=V.int.inj (of_decide_eq_true h)
      refine ⟨_,rfl,q lw H1 _ s1 n1 h1 ?_⟩
      unfold Rv.strch;rw [if_pos hb]
    · have hb:¬ b=-1:=fun z=>h (decide_eq_true (by rw [z]))
      have hm:b∈Rv.walk r p:=st.resolve_left hb
      refine ⟨_,rfl,_,rfl,lw,_,rfl,.inl (SqL.of h1),rfl,flat_ints _,_,rfl,?_⟩
      rw [if_pos rfl,in_ints,decide_eq_true hm]
      refine iteF ?_
      refine ⟨_,rfl,_,rfl,.inl ⟨rfl,_,SqL.of h1⟩,_,rfl,lw,_,b,rfl,rfl,SqL.of h1,hm,_,rfl,lw,_,rfl,SqL.of h1,fun l hl=>?_⟩
      refine q l _ _ (s1.upd (s1.free hl)) (s1.free hl) upd_same ?_
      rw [cut_take,take_idx]
      unfold Rv.strch;rw [if_neg hb]
abbrev s_reaches_of:Stmt:=top 15
theorem sc_reaches_of:FnScope ["below","one","day","start","back","most"] ["below","one"] (defScope s_reaches_of):=⟨rfl,rfl,rfl,by decide +kernel,rfl,by decide +kernel,by decide +kernel⟩
def LicOk (r:List Int) (l:Lic):Prop:=0≤l.start∧l.start<r.length∧Rv.Stop r l.start l.back
def sp_reaches (K:PySem.W.Frag):Sp:=fun vs H Q _=>∃ (a t:Addr) (r:List Int) (l:Lic),vs=[.ref a,.ref t]∧SqL K H a (r.map V.int)∧Rv.River r∧r.length≤900∧SqT K H t (vLic l)∧LicOk r l∧RetL H (fun xs=>xs=(Rv.strch r l.start l.back).map V.int) Q
theorem ok_reaches {f f1:Addr} {fd fd1:FuncData} (D:Df K mg "reaches_of" s_reaches_of ["below","one"] f fd) (D_stretch_of:Df K mg "stretch_of" s_stretch_of ["below","start","stop"] f1 fd1) (G_stretch_of:FnOk P w K mg base CX0 2 f1 fd1 ["below","start","stop"] (sp_strch K)) :
    FnOk P w K mg base CX0 3 f fd ["below","one"] (sp_reaches K):=by
  refine D.F.ok sc_reaches_of (fun vs H Q E h=>?_) (fun cdv A outer s H vs Q E hr h=>?_)
  · obtain ⟨_,_,_,_,rfl,_⟩:=h;rfl
  · obtain ⟨a,t,r,l,rfl,hA,hR,hn,hT,ok,q⟩:=h
    refine ⟨_,(pss_cons (ps_asg (pv 1) (pg_tup rfl (pgs_cons (pg_name (i:=2) sc_reaches_of.nd rfl (Or.inl rfl)) (pgs_cons (pg_name (i:=3) sc_reaches_of.nd rfl (Or.inl rfl)) (pgs_cons (pg_name (i:=4) sc_reaches_of.nd rfl (Or.inl rfl)) (pgs_cons (pg_name (i:=5) sc_reaches_of.nd rfl (Or.inl rfl)) pgs_nil))))))
      (pss_one (ps_ret (pe_call G_stretch_of (hr.mono (by decide)) rfl D_stretch_of.m D_stretch_of.F.kp D_stretch_of.b .nil pass0 (pa_cons (pv 0) (pa_cons (pv 3) (pa_cons (pv 4) pa_nil))))))),?_⟩
    refine sl_4 ?_
    intro zu0
    refine ⟨_,rfl,t,_,rfl,hT,rfl,_,_,rfl,_,_,rfl,_,_,rfl,_,_,rfl,rfl,?_⟩
    exact ⟨_,rfl,_,rfl,_,rfl,a,r,l.start,l.back,rfl,hA,hR,ok.1,ok.2.1,hn,ok.2.2,q⟩
abbrev s_most_of:Stmt:=top 19
theorem sc_most_of:FnScope ["one"] ["one"] (defScope s_most_of):=⟨rfl,rfl,rfl,by decide +kernel,rfl,by decide +kernel,by decide +kernel⟩
def sp_most (K:PySem.W.Frag):Sp:=fun vs H Q _=>∃ (a:Addr) (l:Lic),vs=[.ref a]∧SqT K H a (vLic l)∧Q (.int l.most) H
theorem ok_most {f:Addr} {fd:FuncData} (D:Df K mg "most_of" s_most_of ["one"] f fd):FnOk P w K mg base CX0 1 f fd ["one"] (sp_most K):=by
  refine D.F.ok sc_most_of (fun vs H Q E h=>?_) (fun cdv A outer s H vs Q E hr h=>?_)
  · obtain ⟨c,k,rfl,_⟩:=h;rfl
  · obtain ⟨a,l,rfl,hT,q⟩:=h
    refine ⟨_,(pss_one (ps_ret (pe_ix ix_tup (pv 0) pe_int (fun _ _=>rfl)))),?_⟩
    exact ⟨_,rfl,_,_,_,_,rfl,rfl,hT,rfl,q⟩
abbrev s_wants_of:Stmt:=top 22
theorem sc_wants_of:FnScope ["roll","calls"] ["roll","calls"] (defScope s_wants_of):=⟨rfl,rfl,rfl,by decide +kernel,rfl,by decide +kernel,by decide +kernel⟩
def wantsL (ls:List Lic) (cs:List Int):List Int:=List.zipWith (fun l c=>min c l.most) ls cs
theorem if_min (i j:Int):(if j<i then j else i)=min i j:=by
  by_cases h:j<i
  · rw [if_pos h];omega
  · rw [if_neg h];omega
theorem zip_take {α β γ:Type} (f:α→β→γ) {as:List α} {bs:List β} {i:Nat} {a:α} {b:β} (ha:as[i]?=some a) (hb:bs[i]?=some b):List.zipWith f (as.take (i + 1)) (bs.take (i + 1))=List.zipWith f (as.take i) (bs.take i)++[f a b]:=by
  have h1:=(List.getElem?_eq_some_iff.mp ha)
  have h2:=(List.getElem?_eq_some_iff.mp hb)
  obtain ⟨l1,e1⟩:=h1
  obtain ⟨l2,e2⟩:=h2
  rw [List.take_succ,List.take_succ,ha,hb,List.zipWith_append (by rw [List.length_take,List.length_take];omega)]
  rfl
def sp_wants (K:PySem.W.Frag) (T:Tabs):Sp:=fun vs H Q _=>∃ (v:V) (b:Addr) (ls:List Lic) (cs:List Int),vs=[v,.ref b]∧Den K H v (dRoll ls)∧SqL K H b (cs.map V.int)∧ls.length=cs.length∧ls.length≤1000∧TabsOk T H∧RetLT T H (fun xs=>xs=(wantsL ls cs).map V.int) Q
theorem ok_wants {f f1:Addr} {fd fd1:FuncData} (D:Df K mg "wants_of" s_wants_of ["roll","calls"] f fd) (B:Blt mg) (D_most_of:Df K mg "most_of" s_most_of ["one"] f1 fd1) (G_most_of:FnOk P w K mg base CX0 1 f1 fd1 ["one"] (sp_most K)) :
    FnOk P w K mg base CX0 2 f fd ["roll","calls"] (sp_wants K T):=by
  refine D.F.ok sc_wants_of (fun vs H Q E h=>?_) (fun cdv A outer s H vs Q E hr h=>?_)
  · obtain ⟨_,_,_,_,rfl,_⟩:=h;rfl
  · obtain ⟨v,b,ls,cs,rfl,hd,hb,hlc,hlen,tk,q⟩:=h
    obtain ⟨a,xs,rfl,hL,hds⟩:=hd.list_inv
    have hxl:xs.length=ls.length:=by rw [hds.length,List.length_map]
    refine ⟨_,(pss_one (ps_ret (pe_comp (defScope s_wants_of) rfl ["roll","calls"] rfl ["one","call"] [none,none] (by decide +kernel) (by decide +kernel) (by decide +kernel) rfl (pi_zip rfl B.zip (pa_cons (pv 0) (pa_cons (pv 1) pa_nil))) (fun _ _ _=>(pg_tupK (K:=K) (n:=2) rfl rfl (pgs_cons (pg_name (i:=0) (show (["one","call"]:List Str).Nodup by decide +kernel) rfl (Or.inl rfl)) (pgs_cons (pg_name (i:=1) (show (["one","call"]:List Str).Nodup by decide +kernel) rfl (Or.inl rfl)) pgs_nil)))) (fun _ _ _=>pts_nil) (fun _ _ _=>(pe_callB (call_min2 rfl) rfl B.min PyProof.Rows.boot_min (pa_cons (pv 1) (pa_cons (pe_call G_most_of (hr.mono (by decide)) rfl D_most_of.m D_most_of.F.kp D_most_of.b .nil pass0 (pa_cons (pv 0) pa_nil)) pa_nil))))))),?_⟩
    have O:=Ow.refl tk
    refine ⟨_,rfl,_,rfl,a,b,_,_,rfl,hL,hb,fun acc hacc=>?_⟩
    refine comp_zip (K:=K) (fun i τ H'=>Iv (∃ (v0 v1:Option V),τ=[v0,v1]∧Ow T H H' [(acc,.lst ((List.zipWith (fun l c=>min c l.most) (ls.take i) (cs.take i)).map V.int))])) (by rw [List.length_map];omega)
      ⟨trivial,none,none,rfl,O.mk' hacc rfl⟩ (fun i τ H' _ ⟨_,_,_,_,O⟩=>⟨O.same.seq hL,O.same.seq hb⟩) ?_ ?_
    · rintro i x y t τ H' hx hy ⟨-,v0,v1,rfl,O⟩ ht
      obtain ⟨z,hz,rfl⟩:=ints_get hy
      obtain ⟨al,l,rfl,hl,hT⟩:=hds.lic_get hx
      have hi:=(List.getElem?_eq_some_iff.mp hz).1
      walk_at "nw"
      refine ⟨t,_,rfl,O.sqT 0,rfl,_,_,rfl,_,_,rfl,rfl,?_⟩
      refine yes2 ?_
      refine ⟨_,rfl,_,rfl,al,l,rfl,hT.mo O.same,_,_,rfl,?_⟩
      refine ⟨_,O.get 1,small100' (by rw [List.length_map,List.length_zipWith,List.length_take];omega),?_⟩
      walk_at "pt"
      refine ⟨trivial,_,_,rfl,?_⟩
      rw [zip_take _ hl hz,List.map_append,← if_min]
      exact O.tail
    · rintro τ H' ⟨-,v0,v1,rfl,O⟩
      refine O.ret 0 rfl q ?_
      rw [hxl,List.take_of_length_le (Nat.le_refl _),List.take_of_length_le (by omega)];rfl
abbrev s_count_ways:Stmt:=top 24
theorem sc_count_ways:FnScope ["free","ways","counts","way","reach"] ["free","ways"] (defScope s_count_ways):=⟨rfl,rfl,rfl,by decide +kernel,rfl,by decide +kernel,by decide +kernel⟩
def sp_count (K:PySem.W.Frag) (T:Tabs):Sp:=fun vs H Q _=>∃ (a:Addr) (v:V) (fs:List Int) (ws:List (List Int)),vs=[.ref a,v]∧SqL K H a (fs.map V.int)∧fs.length≤1000∧Den K H v (dIntss ws)∧(∀ w∈ws,Tn.WOk fs.length w)∧TabsOk T H ∧
  RetLT T H (fun xs=>xs=(Tn.bumps (List.replicate fs.length 0) (ws.map fun w=>(w,1))).map V.int) Q
theorem ok_count {f:Addr} {fd:FuncData} (D:Df K mg "count_ways" s_count_ways ["free","ways"] f fd) (B:Blt mg):FnOk P w K mg base CX0 1 f fd ["free","ways"] (sp_count K T):=by
  refine D.F.ok sc_count_ways (fun vs H Q E h=>?_) (fun cdv A outer s H vs Q E hr h=>?_)
  · obtain ⟨_,_,_,_,rfl,_⟩:=h;rfl
  · obtain ⟨a,v,fs,ws,rfl,hA,hfl,hd,hws,tk,q⟩:=h
    obtain ⟨b,xs,rfl,hL,hds⟩:=hd.list_inv
    have hxl:xs.length=ws.length:=by rw [hds.length,List.length_map]
    refine ⟨_,(pss_cons (ps_set (i:=2) sc_count_ways.nd rfl (Or.inl rfl) (pe_op op_rep (pe_lst (pa_cons pe_int pa_nil)) (pe_callB call_len_seq rfl B.len PySem.boot_len (pa_cons (pv 0) pa_nil))))
      (pss_cons (ps_for PassesOwn.never rfl (pi_list (pv 1)) (pg_name (i:=3) sc_count_ways.nd rfl (Or.inl rfl))
        (pss_one (ps_for PassesOwn.never rfl (pi_list (pv 3)) (pg_name (i:=4) sc_count_ways.nd rfl (Or.inl rfl))
          (pss_one (ps_augS (pv 2) (pv 4) get_list pe_int ip_add set_list)))))
      (pss_one (ps_ret (pv 2))))),?_⟩
    refine sl_5 ?_
    intro zu0 zu1 zu2 zu3
    have O:=Ow.refl tk
    have s0:=O.same
    walk_at "w"
    intro l1 h1
    walk_at "nw"
    walk_at "w"
    refine ⟨l1,_,_,rfl,rfl,O.get 0,by rw [List.length_map];omega,by rw [List.length_map];omega,small100 (by rw [List.length_map,Int.toNat_natCast];simp;omega),fun lc hlc=>?_⟩
    walk_at "nw"
    rw [List.length_map,Int.toNat_natCast,rep_intsV] at O
    have O:=O.two
    refine ⟨_,rfl,b,rfl,⟨_,O.same.seq hL⟩,?_⟩
    refine for_list (K:=K) (xs:=xs) (fun i σ H'=>Iv (∃ v3 v4:Option V,σ=[some (.ref a),some (.ref b),some (.ref lc),v3,v4]∧Ow T H H' [(lc,.lst ((Tn.bumps (List.replicate fs.length 0) ((ws.take i).map fun w=>(w,1))).map V.int))]))
      ⟨trivial,none,none,rfl,O⟩ (fun i σ H' _ ⟨_,_,_,_,O⟩=>O.same.seq hL) ?_ ?_
    · rintro i x σ H2 hx ⟨-,v3,v4,rfl,O⟩
      obtain ⟨wa,w,rfl,hw,hW⟩:=hds.way_get hx
      have ok:=hws w (List.mem_of_getElem? hw)
      have hnext:Tn.bumps (List.replicate fs.length 0) ((ws.take (i + 1)).map fun w=>(w,(1:Int)))=Tn.bump (Tn.bumps (List.replicate fs.length 0) ((ws.take i).map fun w=>(w,1))) w 1:=by
        rw [List.take_add_one,hw,List.map_append];exact Tn.bumps_snoc _ _ _
      have hcl:(Tn.bumps (List.replicate fs.length 0) ((ws.take i).map fun w=>(w,(1:Int)))).length=fs.length:=by rw [Tn.bumps_len,List.length_replicate]
      generalize Tn.bumps (List.replicate fs.length 0) ((ws.take i).map fun w=>(w,(1:Int)))=cur at O hnext hcl
      refine ⟨_,rfl,wa,rfl,⟨_,O.same.seq hW⟩,?_⟩
      refine for_list (K:=K) (xs:=w.map V.int) (fun j σ H'=>Iv (∃ v4:Option V,σ=[some (.ref a),some (.ref b),some (.ref lc),some (.ref wa),v4]∧Ow T H H' [(lc,.lst ((Tn.bump cur (w.take j) 1).map V.int))]))
        ⟨trivial,v4,rfl,O⟩ (fun i σ H' _ ⟨_,_,_,O⟩=>O.same.seq hW) ?_ ?_
      · rintro j y σ H3 hy ⟨-,v4,rfl,O⟩
        obtain ⟨z,hz,rfl⟩:=ints_get hy
        obtain ⟨z0,z1⟩:=ok.2 z (List.mem_of_getElem? hz)
        obtain ⟨zn,rfl⟩:=Int.eq_ofNat_of_zero_le z0
        have hbl:(Tn.bump cur (w.take j) 1).length=fs.length:=by rw [Tn.bump_len,hcl]
        refine ⟨_,rfl,_,rfl,lc,_,zn,_,rfl,rfl,O.sq 0,by rw [List.getElem?_map,getD_get? (by omega)];rfl,?_⟩
        refine ⟨_,_,rfl,rfl,lc,_,_,zn,rfl,rfl,O.get 0,ixN_nat (by rw [List.length_map];omega),?_⟩
        walk_at "pt"
        refine ⟨trivial,_,rfl,?_⟩
        rw [bump_next hz,Int.toNat_natCast,List.map_set];exact O
      · rintro σ H3 ⟨-,v4,rfl,O⟩
        rw [List.length_map,List.take_of_length_le (Nat.le_refl _)] at O
        refine ⟨trivial,_,_,rfl,?_⟩
        rw [hnext];exact O
    rintro σ H2 ⟨-,v3,v4,rfl,O⟩
    refine ⟨_,rfl,O.ret 0 rfl q ?_⟩
    rw [hxl,List.take_of_length_le (Nat.le_refl _)]
abbrev s_whole_turns:Stmt:=top 25
theorem sc_whole_turns:FnScope ["free","ways","rests","counts","shares"] ["free","ways","rests"] (defScope s_whole_turns):=⟨rfl,rfl,rfl,by decide +kernel,rfl,by decide +kernel,by decide +kernel⟩
def sp_wt (K:PySem.W.Frag) (T:Tabs):Sp:=fun vs H Q _=>∃ (a b:Addr) (v:V) (fs rs:List Int) (ws:List (List Int)),vs=[.ref a,v,.ref b]∧SqL K H a (fs.map V.int)∧Den K H v (dIntss ws)∧SqL K H b (rs.map V.int)∧fs.length≤1000∧rs.length≤1000∧ws.length≤1000 ∧
  (∀ w∈ws,Tn.WOk fs.length w)∧TabsOk T H∧∀ (M:Int) (H':Hp),SameT T H H'→Tn.WT fs (Tn.bumps (List.replicate fs.length 0) (ws.map fun w=>(w,1))) rs M→Q (.int M) H'
theorem ok_wt {f f1:Addr} {fd fd1:FuncData} (D:Df K mg "whole_turns" s_whole_turns ["free","ways","rests"] f fd) (B:Blt mg) (D_count_ways:Df K mg "count_ways" s_count_ways ["free","ways"] f1 fd1) (G_count_ways:FnOk P w K mg base CX0 1 f1 fd1 ["free","ways"] (sp_count K T)) :
    FnOk P w K mg base CX0 2 f fd ["free","ways","rests"] (sp_wt K T):=by
  refine D.F.ok sc_whole_turns (fun vs H Q E h=>?_) (fun cdv A outer s H vs Q E hr h=>?_)
  · obtain ⟨_,_,_,_,_,_,rfl,_⟩:=h;rfl
  · obtain ⟨a,b,v,fs,rs,ws,rfl,hA,hd,hB,hfl,hrl,hwl,hws,tk,q⟩:=h
    refine ⟨_,(pss_cons (ps_set (i:=3) sc_whole_turns.nd rfl (Or.inl rfl) (pe_call G_count_ways (hr.mono (by decide)) rfl D_count_ways.m D_count_ways.F.kp D_count_ways.b .nil pass0 (pa_cons (pv 0) (pa_cons (pv 1) pa_nil))))
      (pss_cons (ps_setComp (i:=4) (defScope s_whole_turns) rfl ["free","ways","rests","counts","shares"] rfl ["drops","count"] [none,none] (by decide +kernel) (by decide +kernel) (by decide +kernel) rfl sc_whole_turns.nd rfl rfl (pi_zip rfl B.zip (pa_cons (pv 0) (pa_cons (pv 3) pa_nil))) (fun _ _ _=>(pg_tupK (K:=K) (n:=2) rfl rfl (pgs_cons (pg_name (i:=0) (show (["drops","count"]:List Str).Nodup by decide +kernel) rfl (Or.inl rfl)) (pgs_cons (pg_name (i:=1) (show (["drops","count"]:List Str).Nodup by decide +kernel) rfl (Or.inl rfl)) pgs_nil)))) (fun _ _ _=>(pts_one (pt_cmpR op_gt (pv 1) pe_int (nomark _)))) (fun _ _ _=>(pe_op op_fdiv (pv 0) (pv 1))) rfl)
      (pss_one (ps_ret (pe_callB (call_max2 rfl) rfl B.max PyProof.Rows.boot_max (pa_cons pe_int (pa_cons (pe_minD rfl rfl B.min (pe_op op_cat (pe_callTy call_list_of rfl B.list PyProof.Rows.boot_list (pa_cons (pv 2) pa_nil)) (pv 4))) pa_nil))))))),?_⟩
    refine sl_6 ?_
    intro zu0 zu1
    have O:=Ow.refl tk
    have s0:=O.same
    refine ⟨_,rfl,_,rfl,a,v,fs,ws,rfl,hA,hfl,hd,hws,tk,O.gotT fun lc H2 xs O e=>?_⟩
    subst e
    have hcb:=Tn.cw_bound hws
    have hcl:(Tn.bumps (List.replicate fs.length 0) (ws.map fun w=>(w,(1:Int)))).length=fs.length:=by rw [Tn.bumps_len,List.length_replicate]
    generalize Tn.bumps (List.replicate fs.length 0) (ws.map fun w=>(w,(1:Int)))=cs at O hcb hcl q
    refine ⟨_,rfl,_,rfl,a,lc,_,_,rfl,O.same.seq hA,O.sq 0,fun acc hacc=>?_⟩
    refine comp_zip (K:=K) (fun i τ H'=>Iv (∃ (v0 v1:Option V),τ=[v0,v1]∧Ow T H H' [(acc,.lst ((Tn.shares (fs.take i) (cs.take i)).map V.int)),(lc,.lst (cs.map V.int))])) (by rw [List.length_map,List.length_map];omega)
      ⟨trivial,none,none,rfl,O.mk' hacc rfl⟩ (fun i τ H' _ ⟨_,_,_,_,O⟩=>⟨O.same.seq hA,O.sq 1⟩) ?_ ?_
    · rintro i x y t τ H' hx hy ⟨-,v0,v1,rfl,O⟩ ht
      obtain ⟨z,hz,rfl⟩:=ints_get hx
      obtain ⟨c,hc,rfl⟩:=ints_get hy
      have hi:=(List.getElem?_eq_some_iff.mp hz).1
      have hcm:=hcb c (List.mem_of_getElem? hc)
      have hnext:=Tn.shares_next hz hc
      have hsl:(Tn.shares (fs.take i) (cs.take i)).length≤1000:=by
        unfold Tn.shares
        rw [List.length_map]
        refine Nat.le_trans (List.length_filter_le _ _) ?_
        rw [List.length_zip,List.length_take];omega
      walk_at "nw"
      refine ⟨t,_,rfl,O.sqT 0,rfl,_,_,rfl,_,_,rfl,rfl,?_⟩
      refine ⟨_,rfl,_,_,rfl,rfl,_,rfl,ifD (fun hp=>?_) fun hp=>?_⟩
      · rw [if_pos hp] at hnext
        refine ⟨_,rfl,_,rfl,_,_,rfl,rfl,⟨hp,by omega⟩,?_⟩
        refine ⟨_,O.get 1,small100' (by rw [List.length_map];omega),?_⟩
        walk_at "pt"
        refine ⟨trivial,_,_,rfl,?_⟩
        rw [hnext,List.map_append];exact O.tail
      · rw [if_neg hp,List.append_nil] at hnext
        refine ⟨trivial,_,_,rfl,?_⟩
        rw [hnext];exact O.tail
    rintro τ H' ⟨-,v0,v1,rfl,O⟩
    rw [List.length_map,List.take_of_length_le (Nat.le_refl _),List.take_of_length_le (by omega)] at O
    have hsl:(Tn.shares fs cs).length≤1000:=by
      unfold Tn.shares
      rw [List.length_map]
      refine Nat.le_trans (List.length_filter_le _ _) ?_
      rw [List.length_zip];omega
    refine ⟨_,rfl,b,_,rfl,.inl (O.same.seq hB),fun lr hlr=>?_⟩
    walk_at "nw"
    refine ⟨_,rfl,lr,acc,_,_,rfl,rfl,O.get 0,O.get 1,small100 (by rw [List.length_map,List.length_map];omega),fun l2 hl2=>?_⟩
    walk_at "nw"
    rw [← List.map_append] at O
    refine ⟨l2,rs++Tn.shares fs cs,rfl,O.sq 0,fun e0=>?_,fun m hm hle=>?_⟩
    · exact ⟨_,_,rfl,q _ _ O.same (.inl ⟨e0,rfl⟩)⟩
    · refine ⟨_,_,rfl,q _ _ O.same (.inr ⟨m,hm,hle,?_⟩)⟩
      by_cases h:m > 0
      · rw [if_pos h];omega
      · rw [if_neg h];omega
abbrev s_draw:Stmt:=top 26
theorem sc_draw:FnScope ["left","way","drops","reach"] ["left","way","drops"] (defScope s_draw):=⟨rfl,rfl,rfl,by decide +kernel,rfl,by decide +kernel,by decide +kernel⟩
def sp_draw (K:PySem.W.Frag) (T:Tabs):Sp:=fun vs H Q _=>∃ (a b:Addr) (fs w:List Int) (c:Int) (Hb:Hp),vs=[.ref a,.ref b,.int c]∧Ow T Hb H [(a,.lst (fs.map V.int))]∧SqL K Hb b (w.map V.int)∧Tn.WOk fs.length w ∧
  ∀ H',Ow T Hb H' [(a,.lst ((Tn.bump fs w (-c)).map V.int))]→Q .non H'
theorem ok_draw {f:Addr} {fd:FuncData} (D:Df K mg "draw" s_draw ["left","way","drops"] f fd):FnOk P w K mg base CX0 1 f fd ["left","way","drops"] (sp_draw K T):=by
  refine D.F.ok sc_draw (fun vs H Q E h=>?_) (fun cdv A outer s H vs Q E hr h=>?_)
  · obtain ⟨_,_,_,_,_,_,rfl,_⟩:=h;rfl
  · obtain ⟨a,b,fs,w,c,Hb,rfl,O,hW,ok,q⟩:=h
    refine ⟨_,(pss_one (ps_for PassesOwn.never rfl (pi_list (pv 1)) (pg_name (i:=3) sc_draw.nd rfl (Or.inl rfl))
        (pss_one (ps_augS (pv 0) (pv 3) get_list (pv 2) ip_sub set_list)))),?_⟩
    refine sl_7 ?_
    intro zu0
    refine ⟨_,rfl,b,rfl,⟨_,O.same.seq hW⟩,?_⟩
    refine for_list (K:=K) (xs:=w.map V.int) (fun j σ H'=>Iv (∃ v3:Option V,σ=[some (.ref a),some (.ref b),some (.int c),v3]∧Ow T Hb H' [(a,.lst ((Tn.bump fs (w.take j) (-c)).map V.int))]))
      ⟨trivial,none,rfl,O⟩ (fun i σ H' _ ⟨_,_,_,O⟩=>O.same.seq hW) ?_ ?_
    · rintro j y σ H3 hy ⟨-,v4,rfl,O⟩
      obtain ⟨z,hz,rfl⟩:=ints_get hy
      obtain ⟨z0,z1⟩:=ok.2 z (List.mem_of_getElem? hz)
      obtain ⟨zn,rfl⟩:=Int.eq_ofNat_of_zero_le z0
      have hbl:(Tn.bump fs (w.take j) (-c)).length=fs.length:=Tn.bump_len _ _ _
      refine ⟨_,rfl,_,rfl,a,_,zn,_,rfl,rfl,O.sq 0,by rw [List.getElem?_map,getD_get? (by omega)];rfl,?_⟩
      refine ⟨_,rfl,_,_,rfl,rfl,a,_,_,zn,rfl,rfl,O.get 0,ixN_nat (by rw [List.length_map];omega),?_⟩
      walk_at "pt"
      refine ⟨trivial,_,rfl,?_⟩
      rw [bump_next hz,Int.toNat_natCast,List.map_set];exact O
    · rintro σ H3 ⟨-,v4,rfl,O⟩
      rw [List.length_map,List.take_of_length_le (Nat.le_refl _)] at O
      exact q _ O
abbrev s_take_whole_turns:Stmt:=top 27
theorem sc_take_whole_turns:FnScope ["left","ways","rests","takes","going","unmet","turns","taker"] ["left","ways","rests","takes","going"] (defScope s_take_whole_turns):=⟨rfl,rfl,rfl,by decide +kernel,rfl,by decide +kernel,by decide +kernel⟩
structure TwIn (K:PySem.W.Frag) (T:Tabs) (H Hb:Hp) (a b t g:Addr) (v:V) (fs rs xs:List Int) (ws:List (List Int)) (gs:List Nat):Prop where
  O:Ow T Hb H [(a,.lst (fs.map V.int)),(t,.lst (xs.map V.int))]
  d0:Den K Hb v (dIntss ws)
  d1:SqL K Hb b (rs.map V.int)
  d2:SqL K Hb g ((Tn.asI gs).map V.int)
  rl:rs.length=ws.length
  xl:xs.length=ws.length
  gn:∀ k∈gs,k<ws.length
  nd:gs.Nodup
  wok:∀ w∈ws,Tn.WOk fs.length w
  fl:fs.length≤1000
  wl:ws.length≤1000
  gl:gs.length≤1000
def sp_tw (K:PySem.W.Frag) (T:Tabs):Sp:=fun vs H Q _=>∃ (a b t g:Addr) (v:V) (fs rs xs:List Int) (ws:List (List Int)) (gs:List Nat) (Hb:Hp),vs=[.ref a,v,.ref b,.ref t,.ref g]∧TwIn K T H Hb a b t g v fs rs xs ws gs ∧
  ∀ (M:Int) (H':Hp),Tn.WT fs (Tn.cntL fs.length ws gs) (Tn.unmet rs xs gs) M→Ow T Hb H' [(a,.lst ((Tn.bumps fs (gs.map fun k=>(Tn.fW ws k,-M))).map V.int)),(t,.lst ((Tn.bump xs (Tn.asI gs) M).map V.int))]→Q .non H'
theorem fW_some {ws:List (List Int)} {k:Nat} (h:k<ws.length):ws[k]?=some (Tn.fW ws k):=by
  unfold Tn.fW;rw [List.getD_eq_getElem?_getD,List.getElem?_eq_getElem h];rfl
theorem ok_tw {f f1 f2:Addr} {fd fd1 fd2:FuncData} (D:Df K mg "take_whole_turns" s_take_whole_turns ["left","ways","rests","takes","going"] f fd) (B:Blt mg)
    (D_whole_turns:Df K mg "whole_turns" s_whole_turns ["free","ways","rests"] f1 fd1) (G_whole_turns:FnOk P w K mg base CX0 2 f1 fd1 ["free","ways","rests"] (sp_wt K T))
    (D_draw:Df K mg "draw" s_draw ["left","way","drops"] f2 fd2) (G_draw:FnOk P w K mg base CX0 1 f2 fd2 ["left","way","drops"] (sp_draw K T)) :
    FnOk P w K mg base CX0 3 f fd ["left","ways","rests","takes","going"] (sp_tw K T):=by
  refine D.F.ok sc_take_whole_turns (fun vs H Q E h=>?_) (fun cdv A outer s H vs Q E hr h=>?_)
  · obtain ⟨_,_,_,_,_,_,_,_,_,_,_,rfl,_⟩:=h;rfl
  · obtain ⟨a,b,t,g,v,fs,rs,xs,ws,gs,Hb,rfl,⟨O,d0,d1,d2,rl,xl,gn,nd,wok,fl,wl,gl⟩,q⟩:=h
    obtain ⟨va,vs,rfl,hV,hds⟩:=d0.list_inv
    have hil:((Tn.asI gs).map V.int).length=gs.length:=by rw [List.length_map,Tn.ints_len]
    refine ⟨_,(pss_cons (ps_setComp (i:=5) (defScope s_take_whole_turns) rfl ["left","ways","rests","takes","going","unmet","turns","taker"] rfl ["taker","rests","takes"] [none,some 2,some 3] (by decide +kernel) (by decide +kernel) (by decide +kernel) rfl sc_take_whole_turns.nd rfl rfl (pi_list (pv 4)) (fun _ _ _=>(pg_name (i:=0) (show (["taker","rests","takes"]:List Str).Nodup by decide +kernel) rfl (Or.inl rfl))) (fun _ _ _=>pts_nil) (fun _ _ _=>(pe_op op_sub (pe_ix (ix_listK (K:=K) rfl) (pv 1) (pv 0) (fun _ _=>rfl)) (pe_ix (ix_listK (K:=K) rfl) (pv 2) (pv 0) (fun _ _=>rfl)))) rfl)
      (pss_cons (ps_set (i:=6) sc_take_whole_turns.nd rfl (Or.inl rfl) (pe_call G_whole_turns (hr.mono (by decide)) rfl D_whole_turns.m D_whole_turns.F.kp D_whole_turns.b .nil pass0 (pa_cons (pv 0) (pa_cons (pe_comp (defScope s_take_whole_turns) rfl ["left","ways","rests","takes","going","unmet","turns","taker"] rfl ["taker","ways"] [none,some 1] (by decide +kernel) (by decide +kernel) (by decide +kernel) rfl (pi_list (pv 4)) (fun _ _ _=>(pg_name (i:=0) (show (["taker","ways"]:List Str).Nodup by decide +kernel) rfl (Or.inl rfl))) (fun _ _ _=>pts_nil) (fun _ _ _=>(pe_ix (ix_listK (K:=K) rfl) (pv 1) (pv 0) (fun _ _=>rfl)))) (pa_cons (pv 5) pa_nil)))))
      (pss_one (ps_for PassesOwn.never rfl (pi_list (pv 4)) (pg_name (i:=7) sc_take_whole_turns.nd rfl (Or.inl rfl))
        (pss_cons (ps_expr (pe_call G_draw (hr.mono (by decide)) rfl D_draw.m D_draw.F.kp D_draw.b .nil pass0 (pa_cons (pv 0) (pa_cons (pe_ix ix_list (pv 1) (pv 7) (fun _ _=>rfl)) (pa_cons (pv 6) pa_nil)))))
        (pss_one (ps_augS (pv 3) (pv 7) get_list (pv 6) ip_add set_list))))))),?_⟩
    refine sl_8 ?_
    intro zu0 zu1 zu2 zu3
    /- unmet -/
    refine ⟨_,rfl,g,rfl,⟨_,O.same.seq d2⟩,fun lu hlu=>?_⟩
    refine comp_list (K:=K) (xs:=(Tn.asI gs).map V.int) (fun i τ H'=>Iv (∃ v0:Option V,τ=[v0,some (.ref b),some (.ref t)]∧Ow T Hb H' [(lu,.lst ((Tn.unmet rs xs (gs.take i)).map V.int)),(a,.lst (fs.map V.int)),(t,.lst (xs.map V.int))]))
      ⟨trivial,none,rfl,O.mk' hlu rfl⟩ (fun i τ H' _ ⟨_,_,_,O⟩=>O.same.seq d2) ?_ ?_
    · rintro i y τ H2 hy ⟨-,v0,rfl,O⟩
      obtain ⟨z,hz,rfl⟩:=ints_get hy
      obtain ⟨k,hk,rfl⟩:=Tn.ints_some hz
      have hkn:=gn k (List.mem_of_getElem? hk)
      have hi:=(List.getElem?_eq_some_iff.mp hk).1
      refine yesT ?_
      refine ⟨_,rfl,_,rfl,b,_,_,_,rfl,rfl,O.same.seq d1,ints_at (getD_get? (by omega)),_,rfl,_,rfl,t,_,_,_,rfl,rfl,O.sq 2,ints_at (getD_get? (by omega)),_,_,rfl,rfl,?_⟩
      refine ⟨_,O.get 0,small100' (by rw [List.length_map];unfold Tn.unmet;rw [List.length_map,List.length_take];omega),?_⟩
      walk_at "pt"
      refine ⟨trivial,_,rfl,?_⟩
      rw [Tn.unmet_next hk,List.map_append];exact O
    rintro τ H2 ⟨-,v0,rfl,O⟩
    rw [hil,List.take_of_length_le (Nat.le_refl _)] at O
    have hul:(Tn.unmet rs xs gs).length=gs.length:=by unfold Tn.unmet;rw [List.length_map]
    /- whole_turns(left, .., unmet) -/
    refine ⟨_,rfl,_,rfl,g,rfl,⟨_,O.same.seq d2⟩,fun lw hlw=>?_⟩
    refine comp_list (K:=K) (xs:=(Tn.asI gs).map V.int) (fun i τ H'=>Iv (∃ (v0:Option V) (us:List V),τ=[v0,some (.ref va)]∧Dens K Hb us ((gs.take i).map fun k=>dInts (Tn.fW ws k))∧Ow T Hb H' [(lw,.lst us),(lu,.lst ((Tn.unmet rs xs gs).map V.int)),(a,.lst (fs.map V.int)),(t,.lst (xs.map V.int))]))
      ⟨trivial,none,[],rfl,.nil,O.mk' hlw rfl⟩ (fun i τ H' _ ⟨_,_,_,_,_,O⟩=>O.same.seq d2) ?_ ?_
    · rintro i y τ H3 hy ⟨-,v0,us,rfl,hus,O⟩
      obtain ⟨z,hz,rfl⟩:=ints_get hy
      obtain ⟨k,hk,rfl⟩:=Tn.ints_some hz
      have hkn:=gn k (List.mem_of_getElem? hk)
      have hi:=(List.getElem?_eq_some_iff.mp hk).1
      obtain ⟨wa,hwa,hW⟩:=hds.way_at (fW_some hkn)
      refine yesT ?_
      refine ⟨_,rfl,_,rfl,va,_,_,_,rfl,rfl,O.same.seq hV,atI_nat hwa,?_⟩
      refine ⟨_,O.get 0,small100' (by rw [hus.length,List.length_map,List.length_take];omega),?_⟩
      walk_at "pt"
      refine ⟨trivial,_,us++[.ref wa],rfl,?_,O⟩
      rw [Tn.map_take_next hk]
      exact hus.append (.cons (Den.ints hW) .nil)
    rintro τ H3 ⟨-,v0,us,rfl,hus,O⟩
    rw [hil,List.take_of_length_le (Nat.le_refl _)] at hus
    have hus':Dens K Hb us ((gs.map fun k=>Tn.fW ws k).map dInts):=by rw [List.map_map];exact hus
    refine ⟨_,rfl,a,lu,.ref lw,fs,Tn.unmet rs xs gs,gs.map fun k=>Tn.fW ws k,rfl,O.sq 2,.list (O.sq 0) (hus'.mo O.same),O.sq 1,fl,by omega,by rw [List.length_map];omega,fun w hw=>?_,O.same.t1,fun M H4 sm hM=>?_⟩
    · obtain ⟨k,hk,rfl⟩:=List.mem_map.mp hw
      exact wok _ (Tn.mem_fW (gn k hk))
    have hM:Tn.WT fs (Tn.cntL fs.length ws gs) (Tn.unmet rs xs gs) M:=by
      unfold Tn.cntL
      rw [List.map_map] at hM
      exact hM
    have O:=((O.callT sm).tail).tail
    /- the loop -/
    refine ⟨_,rfl,g,rfl,⟨_,O.same.seq d2⟩,?_⟩
    refine for_list (K:=K) (xs:=(Tn.asI gs).map V.int) (fun i σ H'=>Iv (∃ v7:Option V,σ=[some (.ref a),some (.ref va),some (.ref b),some (.ref t),some (.ref g),some (.ref lu),some (.int M),v7] ∧
      Ow T Hb H' [(a,.lst ((Tn.bumps fs ((gs.take i).map fun k=>(Tn.fW ws k,-M))).map V.int)),(t,.lst ((Tn.bump xs (Tn.asI (gs.take i)) M).map V.int))]))
      ⟨trivial,none,rfl,O⟩ (fun i σ H' _ ⟨_,_,_,O⟩=>O.same.seq d2) ?_ ?_
    · rintro i y σ H5 hy ⟨-,v7,rfl,O⟩
      obtain ⟨z,hz,rfl⟩:=ints_get hy
      obtain ⟨k,hk,rfl⟩:=Tn.ints_some hz
      have hkn:=gn k (List.mem_of_getElem? hk)
      obtain ⟨wa,hwa,hW⟩:=hds.way_at (fW_some hkn)
      have hn1:Tn.bumps fs ((gs.take (i + 1)).map fun k=>(Tn.fW ws k,-M))=Tn.bump (Tn.bumps fs ((gs.take i).map fun k=>(Tn.fW ws k,-M))) (Tn.fW ws k) (-M):=by
        rw [Tn.map_take_next hk];exact Tn.bumps_snoc _ _ _
      have hl1:(Tn.bumps fs ((gs.take i).map fun k=>(Tn.fW ws k,-M))).length=fs.length:=Tn.bumps_len _ _
      have hl2:(Tn.bump xs (Tn.asI (gs.take i)) M).length=ws.length:=by rw [Tn.bump_len];exact xl
      have hn2:Tn.bump xs (Tn.asI (gs.take (i + 1))) M=(Tn.bump xs (Tn.asI (gs.take i)) M).set k ((Tn.bump xs (Tn.asI (gs.take i)) M).getD k 0 + M):=by
        rw [← Tn.ints_take,← Tn.ints_take,bump_next hz,Int.toNat_natCast]
      obtain ⟨H1,O1,s1,hB,back⟩:=Ow.lend (A:=[(a,.lst ((Tn.bumps fs ((gs.take i).map fun k=>(Tn.fW ws k,-M))).map V.int))]) (B:=[(t,.lst ((Tn.bump xs (Tn.asI (gs.take i)) M).map V.int))]) O
      refine ⟨_,rfl,_,rfl,_,rfl,va,_,_,_,rfl,rfl,O.same.seq hV,atI_nat hwa,_,rfl,a,wa,_,_,M,H1,rfl,O1,hW.mo s1,by rw [hl1];exact wok _ (Tn.mem_fW hkn),fun H6 O6=>?_⟩
      have O:=back _ _ O6
      refine ⟨_,rfl,_,rfl,t,_,k,_,rfl,rfl,O.sq 1,by rw [List.getElem?_map,getD_get? (by omega)];rfl,_,rfl,_,_,rfl,rfl,t,_,_,k,rfl,rfl,O.get 1,ixN_nat (by rw [List.length_map];omega),?_⟩
      walk_at "pt"
      refine ⟨trivial,_,rfl,?_⟩
      rw [hn1,hn2,List.map_set];exact O
    rintro σ H5 ⟨-,v7,rfl,O⟩
    rw [hil,List.take_of_length_le (Nat.le_refl _)] at O
    exact q M _ hM O
abbrev s_take_one_turn:Stmt:=top 28
theorem sc_take_one_turn:FnScope ["left","ways","rests","takes","going","still","taker"] ["left","ways","rests","takes","going"] (defScope s_take_one_turn):=⟨rfl,rfl,rfl,by decide +kernel,rfl,by decide +kernel,by decide +kernel⟩
def sp_t1 (K:PySem.W.Frag) (T:Tabs):Sp:=fun vs H Q _=>∃ (a b t g:Addr) (v:V) (fs rs xs:List Int) (ws:List (List Int)) (gs:List Nat) (Hb:Hp),vs=[.ref a,v,.ref b,.ref t,.ref g]∧TwIn K T H Hb a b t g v fs rs xs ws gs ∧
  ∀ (l:Addr) (H':Hp),Ow T Hb H' [(l,.lst ((Tn.asI (Tn.turn1 ws rs gs (fs,xs,[])).2.2).map V.int)),(a,.lst ((Tn.turn1 ws rs gs (fs,xs,[])).1.map V.int)),(t,.lst ((Tn.turn1 ws rs gs (fs,xs,[])).2.1.map V.int))]→Q (.ref l) H'
theorem all_bls {w l:List Int}:((w.map fun r:Int=>decide (0<l.getD r.toNat 0)).all id)=w.all (fun r=>decide (0<l.getD r.toNat 0)):=by rw [List.all_map];rfl
theorem ok_t1 {f f2:Addr} {fd fd2:FuncData} (D:Df K mg "take_one_turn" s_take_one_turn ["left","ways","rests","takes","going"] f fd) (B:Blt mg)
    (D_draw:Df K mg "draw" s_draw ["left","way","drops"] f2 fd2) (G_draw:FnOk P w K mg base CX0 1 f2 fd2 ["left","way","drops"] (sp_draw K T)) :
    FnOk P w K mg base CX0 2 f fd ["left","ways","rests","takes","going"] (sp_t1 K T):=by
  refine D.F.ok sc_take_one_turn (fun vs H Q E h=>?_) (fun cdv A outer s H vs Q E hr h=>?_)
  · obtain ⟨_,_,_,_,_,_,_,_,_,_,_,rfl,_⟩:=h;rfl
  · obtain ⟨a,b,t,g,v,fs,rs,xs,ws,gs,Hb,rfl,⟨O,d0,d1,d2,rl,xl,gn,nd,wok,fl,wl,gl⟩,q⟩:=h
    obtain ⟨va,vs,rfl,hV,hds⟩:=d0.list_inv
    have hil:((Tn.asI gs).map V.int).length=gs.length:=by rw [List.length_map,Tn.ints_len]
    refine ⟨_,(pss_cons (ps_set (i:=5) sc_take_one_turn.nd rfl (Or.inl rfl) (pe_lst pa_nil))
      (pss_cons (ps_for PassesOwn.never rfl (pi_list (pv 4)) (pg_name (i:=6) sc_take_one_turn.nd rfl (Or.inl rfl))
        (pss_one (ps_if (PW.pt (pw_and (pt_cmpR op_lt (pe_ix ix_list (pv 3) (pv 6) (fun _ _=>rfl)) (pe_ix ix_list (pv 2) (pv 6) (fun _ _=>rfl)) (nomark _)) (pw_and1 (pt_val (pe_callB (call_all rfl) rfl B.all PyProof.Rows.boot_all (pa_cons (pe_comp (defScope s_take_one_turn) rfl ["left","ways","rests","takes","going","still","taker"] rfl ["reach","left"] [none,some 0] (by decide +kernel) (by decide +kernel) (by decide +kernel) rfl (pi_list (pe_ix ix_list (pv 1) (pv 6) (fun _ _=>rfl))) (fun _ _ _=>(pg_name (i:=0) (show (["reach","left"]:List Str).Nodup by decide +kernel) rfl (Or.inl rfl))) (fun _ _ _=>pts_nil) (fun _ _ _=>(pe_cmpR op_gt (pe_ix (ix_listK (K:=K) rfl) (pv 1) (pv 0) (fun _ _=>rfl)) pe_int (nomark _)))) pa_nil))))))
          (pss_cons (ps_expr (pe_call G_draw (hr.mono (by decide)) rfl D_draw.m D_draw.F.kp D_draw.b .nil pass0 (pa_cons (pv 0) (pa_cons (pe_ix ix_list (pv 1) (pv 6) (fun _ _=>rfl)) (pa_cons pe_int pa_nil)))))
          (pss_cons (ps_augS (pv 3) (pv 6) get_list pe_int ip_add set_list)
          (pss_one (ps_expr (pe_bm PySem.F.plainAttrs_list PySem.F.slot_list_append PySem.F.type_list_append mt_append (pv 5) (pa_cons (pv 6) pa_nil))))))
          pss_nil)))
      (pss_one (ps_ret (pv 5))))),?_⟩
    refine sl_9 ?_
    intro zu0 zu1 zu2 zu3 zu4 zu5
    refine ⟨szl,fun ls hls=>?_⟩
    walk_at "nw"
    refine ⟨_,rfl,g,rfl,⟨_,O.same.seq d2⟩,?_⟩
    refine for_list (K:=K) (xs:=(Tn.asI gs).map V.int) (fun i σ H'=>Iv (∃ v6:Option V,σ=[some (.ref a),some (.ref va),some (.ref b),some (.ref t),some (.ref g),some (.ref ls),v6] ∧
      Ow T Hb H' [(ls,.lst ((Tn.asI (Tn.turn1 ws rs (gs.take i) (fs,xs,[])).2.2).map V.int)),(a,.lst ((Tn.turn1 ws rs (gs.take i) (fs,xs,[])).1.map V.int)),(t,.lst ((Tn.turn1 ws rs (gs.take i) (fs,xs,[])).2.1.map V.int))]))
      ⟨trivial,none,rfl,O⟩ (fun i σ H' _ ⟨_,_,_,O⟩=>O.same.seq d2) ?_ ?_
    · rintro i y σ H5 hy ⟨-,v7,rfl,O⟩
      obtain ⟨z,hz,rfl⟩:=ints_get hy
      obtain ⟨k,hk,rfl⟩:=Tn.ints_some hz
      have hkn:=gn k (List.mem_of_getElem? hk)
      have hi:=(List.getElem?_eq_some_iff.mp hk).1
      obtain ⟨wa,hwa,hW⟩:=hds.way_at (fW_some hkn)
      have hnext:=Tn.turn1_next (ws:=ws) (rs:=rs) (s:=(fs,xs,[])) hk
      have hlen:=Tn.turn1_len ws rs (gs.take i) (fs,xs,[])
      rw [hnext]
      generalize Tn.turn1 ws rs (gs.take i) (fs,xs,[])=S at O hlen ⊢
      obtain ⟨l,x,st⟩:=S
      obtain ⟨hl1,hl2,hl3⟩:=hlen
      have hl1:l.length=fs.length:=hl1
      have hl2:x.length=xs.length:=hl2
      have hl3:st.length≤i:=by
        have:st.length≤0 + (gs.take i).length:=hl3
        rw [List.length_take] at this;omega
      have O:Ow T Hb H5 [(ls,.lst ((Tn.asI st).map V.int)),(a,.lst (l.map V.int)),(t,.lst (x.map V.int))]:=O
      have ok:=wok _ (Tn.mem_fW hkn)
      have no:¬ (x.getD k 0<rs.getD k 0∧(Tn.fW ws k).all (fun r=>decide (0<l.getD r.toNat 0))=true)→Tn.step1 ws rs (l,x,st) k=(l,x,st):=fun h=>if_neg h
      have yes:(x.getD k 0<rs.getD k 0∧(Tn.fW ws k).all (fun r=>decide (0<l.getD r.toNat 0))=true)→Tn.step1 ws rs (l,x,st) k=(Tn.bump l (Tn.fW ws k) (-1),x.set k (x.getD k 0 + 1),st++[k]):=fun h=>if_pos h
      generalize Tn.step1 ws rs (l,x,st) k=S' at no yes ⊢
      refine ⟨_,rfl,_,rfl,t,_,_,_,rfl,rfl,O.sq 2,ints_at (getD_get? (by omega)),_,rfl,_,rfl,b,_,_,_,rfl,rfl,O.same.seq d1,ints_at (getD_get? (by omega)),_,_,rfl,rfl,_,rfl,ifD (fun hc1=>?_) fun hc1=>?_⟩
      · refine ⟨_,rfl,_,rfl,va,_,_,_,rfl,rfl,O.same.seq hV,atI_nat hwa,wa,rfl,⟨_,O.same.seq hW⟩,fun lb hlb=>?_⟩
        refine comp_list (K:=K) (xs:=(Tn.fW ws k).map V.int) (fun j τ H'=>Iv (∃ v0:Option V,τ=[v0,some (.ref a)]∧Ow T Hb H' [(lb,.lst ((((Tn.fW ws k).take j).map fun r:Int=>decide (0<l.getD r.toNat 0)).map V.bl)),(ls,.lst ((Tn.asI st).map V.int)),(a,.lst (l.map V.int)),(t,.lst (x.map V.int))]))
          ⟨trivial,none,rfl,O.mk' hlb rfl⟩ (fun i τ H' _ ⟨_,_,_,O⟩=>O.same.seq hW) ?_ ?_
        · rintro j y τ H6 hy ⟨-,v0,rfl,O⟩
          obtain ⟨r,hr,rfl⟩:=ints_get hy
          have hj:=(List.getElem?_eq_some_iff.mp hr).1
          obtain ⟨r0,r1⟩:=ok.2 r (List.mem_of_getElem? hr)
          refine yesT ?_
          refine ⟨_,rfl,_,rfl,a,_,_,_,rfl,rfl,O.sq 2,ints_atZ r0 (by omega),_,_,rfl,rfl,?_⟩
          refine ⟨_,O.get 0,small100' (by rw [List.length_map,List.length_map,List.length_take];have:=ok.len;omega),?_⟩
          walk_at "pt"
          refine ⟨trivial,_,rfl,?_⟩
          rw [Tn.map_take_next hr,List.map_append];exact O
        rintro τ H6 ⟨-,v0,rfl,O⟩
        rw [List.length_map,List.take_of_length_le (Nat.le_refl _)] at O
        refine ⟨lb,_,rfl,O.sq 0,?_⟩
        rw [all_bls]
        have O:=O.tail
        refine ⟨_,rfl,ifB (fun hc2=>?_) fun hc2=>?_⟩
        · rw [yes ⟨hc1,hc2⟩]
          obtain ⟨H1,O1,s1,hB,back⟩:=Ow.lend (A:=[(a,.lst (l.map V.int))]) (B:=[(ls,.lst ((Tn.asI st).map V.int)),(t,.lst (x.map V.int))]) (O.pull 1)
          refine ⟨_,rfl,_,rfl,_,rfl,va,_,_,_,rfl,rfl,O.same.seq hV,atI_nat hwa,a,wa,l,_,1,H1,rfl,O1,hW.mo s1,by rw [hl1];exact ok,fun H7 O7=>?_⟩
          have O:=back _ _ O7
          have O:Ow T Hb H7 [(a,.lst ((Tn.bump l (Tn.fW ws k) (-1)).map V.int)),(ls,.lst ((Tn.asI st).map V.int)),(t,.lst (x.map V.int))]:=O
          refine ⟨_,rfl,_,rfl,t,_,k,_,rfl,rfl,O.sq 2,by rw [List.getElem?_map,getD_get? (by omega)];rfl,_,_,rfl,rfl,t,_,_,k,rfl,rfl,O.get 2,ixN_nat (by rw [List.length_map];omega),?_⟩
          walk_at "pt"
          refine ⟨_,rfl,.inl ⟨rfl,_,O.sq 1⟩,_,rfl,ls,_,_,rfl,rfl,O.get 1,small100' (by rw [List.length_map,Tn.ints_len];omega),?_⟩
          walk_at "pt"
          refine ⟨trivial,_,rfl,?_⟩
          have O:=O.pull 1
          show Ow T Hb _ [(ls,.lst ((Tn.asI (st++[k])).map V.int)),(a,.lst ((Tn.bump l (Tn.fW ws k) (-1)).map V.int)),(t,.lst ((x.set k (x.getD k 0 + 1)).map V.int))]
          rw [List.map_set]
          unfold Tn.asI
          rw [List.map_append,List.map_append]
          exact O
        · rw [no fun z=>by rw [z.2] at hc2;cases hc2]
          exact ⟨trivial,_,rfl,O⟩
      · refine iteF ?_
        rw [no fun z=>hc1 z.1]
        exact ⟨trivial,_,rfl,O⟩
    rintro σ H5 ⟨-,v7,rfl,O⟩
    rw [hil,List.take_of_length_le (Nat.le_refl _)] at O
    exact ⟨_,rfl,q _ _ O⟩
abbrev s_deal_turns:Stmt:=top 29
theorem sc_deal_turns:FnScope ["free","ways","rests","left","takes","going"] ["free","ways","rests"] (defScope s_deal_turns):=⟨rfl,rfl,rfl,by decide +kernel,rfl,by decide +kernel,by decide +kernel⟩
def sp_dt (K:PySem.W.Frag) (T:Tabs):Sp:=fun vs H Q _=>∃ (a b:Addr) (v:V) (fs rs:List Int) (ws:List (List Int)),vs=[.ref a,v,.ref b]∧SqL K H a (fs.map V.int)∧Den K H v (dIntss ws)∧SqL K H b (rs.map V.int)∧rs.length=ws.length∧fs.length≤1000∧ws.length<64 ∧
  (∀ w∈ws,Tn.WOk fs.length w)∧(∀ x∈fs,0≤x)∧(∀ x∈rs,0≤x)∧TabsOk T H ∧
  ∀ (l lt ll:Addr) (xs left:List Int) (t:Int) (H':Hp),Ow T H H' [(l,.tup [.ref lt,.ref ll]),(lt,.lst (xs.map V.int)),(ll,.lst (left.map V.int))]→Tn.LInv fs ws rs left xs [] t→Q (.ref l) H'
theorem ok_dt {f f1 f2:Addr} {fd fd1 fd2:FuncData} (D:Df K mg "deal_turns" s_deal_turns ["free","ways","rests"] f fd) (B:Blt mg)
    (D_take_whole_turns:Df K mg "take_whole_turns" s_take_whole_turns ["left","ways","rests","takes","going"] f1 fd1) (G_take_whole_turns:FnOk P w K mg base CX0 3 f1 fd1 ["left","ways","rests","takes","going"] (sp_tw K T))
    (D_take_one_turn:Df K mg "take_one_turn" s_take_one_turn ["left","ways","rests","takes","going"] f2 fd2) (G_take_one_turn:FnOk P w K mg base CX0 2 f2 fd2 ["left","ways","rests","takes","going"] (sp_t1 K T)) :
    FnOk P w K mg base CX0 4 f fd ["free","ways","rests"] (sp_dt K T):=by
  refine D.F.ok sc_deal_turns (fun vs H Q E h=>?_) (fun cdv A outer s H vs Q E hr h=>?_)
  · obtain ⟨_,_,_,_,_,_,rfl,_⟩:=h;rfl
  · obtain ⟨a,b,v,fs,rs,ws,rfl,hA,d0,hB,rl,fl,wl,wok,hf,hrs,tk,q⟩:=h
    obtain ⟨va,vs,rfl,hV,hds⟩:=d0.list_inv
    have hvl:vs.length=ws.length:=by rw [hds.length,List.length_map]
    refine ⟨_,(pss_cons (ps_set (i:=3) sc_deal_turns.nd rfl (Or.inl rfl) (pe_callTy call_list_of rfl B.list PyProof.Rows.boot_list (pa_cons (pv 0) pa_nil)))
      (pss_cons (ps_set (i:=4) sc_deal_turns.nd rfl (Or.inl rfl) (pe_op op_rep (pe_lst (pa_cons pe_int pa_nil)) (pe_callB call_len_seq rfl B.len PySem.boot_len (pa_cons (pv 1) pa_nil))))
      (pss_cons (ps_set (i:=5) sc_deal_turns.nd rfl (Or.inl rfl) (pe_listRange rfl rfl B.list rfl B.range (pa_cons (pe_callB call_len_seq rfl B.len PySem.boot_len (pa_cons (pv 1) pa_nil)) pa_nil)))
      (pss_cons (ps_while PassesOwn.never (pt_truth (pv 5) (fun _=>rfl))
        (pss_cons (ps_expr (pe_call G_take_whole_turns (hr.mono (by decide)) rfl D_take_whole_turns.m D_take_whole_turns.F.kp D_take_whole_turns.b .nil pass0 (pa_cons (pv 3) (pa_cons (pv 1) (pa_cons (pv 2) (pa_cons (pv 4) (pa_cons (pv 5) pa_nil)))))))
        (pss_one (ps_set (i:=5) sc_deal_turns.nd rfl (Or.inl rfl) (pe_call G_take_one_turn (hr.mono (by decide)) rfl D_take_one_turn.m D_take_one_turn.F.kp D_take_one_turn.b .nil pass0 (pa_cons (pv 3) (pa_cons (pv 1) (pa_cons (pv 2) (pa_cons (pv 4) (pa_cons (pv 5) pa_nil))))))))))
      (pss_one (ps_ret (pe_tup (pa_cons (pv 4) (pa_cons (pv 3) pa_nil))))))))),?_⟩
    refine sl_10 ?_
    intro zu0 zu1 zu2 zu3 zu4 zu5
    have O:=Ow.refl tk
    refine ⟨_,rfl,a,_,rfl,.inl (O.same.seq hA),fun ll hll=>?_⟩
    walk_at "nw"
    refine ⟨szl,fun l1 h1=>?_⟩
    walk_at "nw"
    refine ⟨_,rfl,va,_,rfl,.inl (O.same.seq hV),l1,_,_,rfl,rfl,O.get 0,by omega,by omega,small100 (by rw [hvl,Int.toNat_natCast];simp;omega),fun lt hlt=>?_⟩
    walk_at "nw"
    rw [hvl,Int.toNat_natCast,rep_intsV] at O
    have O:=O.two
    refine ⟨_,rfl,va,_,rfl,.inl (O.same.seq hV),ws.length,by rw [hvl],wl,fun lg hlg=>?_⟩
    walk_at "nw"
    have eg:below0 ws.length=(Tn.asI (List.range ws.length)).map V.int:=by unfold below0 Tn.asI;rw [List.map_map];rfl
    rw [eg] at O
    refine ⟨fun m σ H'=>Iv (∃ (lg:Addr) (gs:List Nat) (l xs:List Int) (t:Int),σ=[some (.ref a),some (.ref va),some (.ref b),some (.ref ll),some (.ref lt),some (.ref lg)]∧Tn.LInv fs ws rs l xs gs t∧m=(Tn.rem rs xs ws.length + (gs.length:Int)).toNat ∧
      Ow T H H' [(lg,.lst ((Tn.asI gs).map V.int)),(lt,.lst (xs.map V.int)),(ll,.lst (l.map V.int))]),⟨_,trivial,lg,_,fs,_,0,rfl,Tn.LInv.start hf hrs wok,rfl,O⟩,?_⟩
    rintro m σ H2 ⟨-,lg,gs,l,xs,t,rfl,LI,rfl,O⟩
    have nd:=Tn.sorted_nodup LI.srt
    have gn:∀ k∈gs,k<ws.length:=fun k hk=>(LI.going k hk).1
    have gl:gs.length≤1000:=by
      have:gs.length≤ws.length:=by
        have:=List.Nodup.length_le_of_subset (l₂:=List.range ws.length) nd fun k hk=>List.mem_range.mpr (gn k hk)
        simpa using this
      omega
    refine ⟨_,rfl,_,.inl ⟨_,O.sq 0,rfl⟩,ifB (fun hc=>?_) fun hc=>?_⟩
    · have hne:0<gs.length:=by
        cases gs with
        | nil=>simp [Tn.asI] at hc
        | cons x gs=>simp
      refine ⟨_,fun σ' H' h=>h,?_⟩
      obtain ⟨H1,O1,s1,hBk,back⟩:=Ow.lend (A:=[(ll,.lst (l.map V.int)),(lt,.lst (xs.map V.int))]) (B:=[(lg,.lst ((Tn.asI gs).map V.int))]) (((O.pull 1).pull 2))
      refine ⟨_,rfl,_,rfl,_,rfl,_,rfl,_,rfl,ll,b,lt,lg,.ref va,l,rs,xs,ws,gs,H1,rfl,⟨O1,.list (hV.mo s1) (hds.mo s1),hB.mo s1,SqL.of (hBk (lg,.lst ((Tn.asI gs).map V.int)) (by simp)),rl,LI.xl,gn,nd,by rw [LI.ll];exact wok,by rw [LI.ll];exact fl,by omega,gl⟩,fun M H3 hM O3=>?_⟩
      rw [LI.ll] at hM
      have L2:=LI.whole hf wok hM
      have M0:=hM.nn
      have rw1:=Tn.rem_whole LI M0
      have O:=back _ _ O3
      have hll2:=L2.ll
      obtain ⟨L3,hsum⟩:=L2.one wok
      obtain ⟨H4,O4,s4,hBk4,back4⟩:=Ow.lend (A:=[(ll,.lst ((Tn.bumps l (gs.map fun k=>(Tn.fW ws k,-M))).map V.int)),(lt,.lst ((Tn.bump xs (Tn.asI gs) M).map V.int))]) (B:=[(lg,.lst ((Tn.asI gs).map V.int))]) O
      refine ⟨_,rfl,_,rfl,_,rfl,_,rfl,_,rfl,ll,b,lt,lg,.ref va,_,rs,_,ws,gs,H4,rfl,⟨O4,.list (hV.mo s4) (hds.mo s4),hB.mo s4,SqL.of (hBk4 (lg,.lst ((Tn.asI gs).map V.int)) (by simp)),rl,L2.xl,gn,nd,by rw [L2.ll];exact wok,by rw [L2.ll];exact fl,by omega,gl⟩,fun l5 H5 O5=>?_⟩
      have O:=back4 _ _ O5
      have O:=(O.del 3)
      have O:=O.pull 2
      have O:=(O.pull 1)
      refine ⟨_,?_,trivial,l5,_,_,_,_,rfl,L3,rfl,?_⟩
      · have a1:=L3.rem_nn
        have a2:=LI.rem_nn
        omega
      · exact O
    · have hg:gs=[]:=by
        cases gs with
        | nil=>rfl
        | cons x gs=>simp [Tn.asI] at hc
      subst hg
      refine ⟨_,rfl,_,rfl,szl,fun l5 hl5=>?_⟩
      walk_at "nw"
      exact q l5 lt ll xs l t _ (O.two) LI
abbrev s_day_filed:Stmt:=top 16
theorem sc_day_filed:FnScope ["one"] ["one"] (defScope s_day_filed):=⟨rfl,rfl,rfl,by decide +kernel,rfl,by decide +kernel,by decide +kernel⟩
def sp_day (K:PySem.W.Frag):Sp:=fun vs H Q _=>∃ (t:Addr) (l:Lic),vs=[.ref t]∧SqT K H t (vLic l)∧Q (.int l.day) H
theorem ok_day {f:Addr} {fd:FuncData} (D:Df K mg "day_filed" s_day_filed ["one"] f fd):FnOk P w K mg base CX0 1 f fd ["one"] (sp_day K):=by
  refine D.F.ok sc_day_filed (fun vs H Q E h=>?_) (fun cdv A outer s H vs Q E hr h=>?_)
  · obtain ⟨_,_,rfl,_⟩:=h;rfl
  · obtain ⟨t,l,rfl,hT,q⟩:=h
    refine ⟨_,(pss_one (ps_ret (pe_ix ix_tup (pv 0) pe_int (fun _ _=>rfl)))),?_⟩
    exact ⟨_,rfl,t,_,0,_,rfl,rfl,hT,rfl,q⟩
abbrev s_ranked:Stmt:=top 20
theorem sc_ranked:FnScope ["roll"] ["roll"] (defScope s_ranked):=⟨rfl,rfl,rfl,by decide +kernel,rfl,by decide +kernel,by decide +kernel⟩
def lam_ranked:Pos × Str:=(⟨54,40,54,88⟩,"ranked.<locals>.<lambda>")
def TT2 (P:Addr) (T:Tabs):Prop:=(P,lam_ranked.1,lam_ranked.2)∈T∧(T.map (·.1)).Nodup
def dayL (ls:List Lic):Nat→Int:=fun k=>(ls[k]?.map Lic.day).getD 0
theorem dayL_at {ls:List Lic} {k:Nat} {l:Lic} (h:ls[k]?=some l):dayL ls k=l.day:=by unfold dayL;rw [h];rfl
def sp_ranked (K:PySem.W.Frag) (T:Tabs):Sp:=fun vs H Q _=>∃ (v:V) (ls:List Lic),vs=[v]∧Den K H v (dRoll ls)∧ls.length<64∧TabsOk T H ∧
  RetLT T H (fun xs=>∃ p,xs=p.map (fun (i:Nat)=>V.int (i:Int))∧Tn.Rk (dayL ls) ls.length p) Q
def kapR (day:Nat→Int) (i:Nat):Int:=64 * day i + (i:Int)
theorem lex_kapR {day:Nat→Int} {i j:Nat} (hi:i<64) (hj:j<64):HT.lexLt [day i,(i:Int)] [day j,(j:Int)]=decide (kapR day i<kapR day j):=by
  unfold kapR
  rw [HT.lexLt_cons,HT.lexLt_cons,HT.lexLt_nil_nil]
  rw [Bool.eq_iff_iff]
  split
  · split
    · simp only [Bool.false_eq_true,decide_eq_true_eq,false_iff];omega
    · simp only [decide_eq_true_eq];omega
  · simp only [decide_eq_true_eq];omega
theorem ok_ranked {f fW:Addr} {fd fdW:FuncData} {pT cT:Addr} {T:Tabs} (D:Df K mg "ranked" s_ranked ["roll"] f fd) (hcd:fd.code=.ref cT) (hhd:PySem.W.codeHdIn K cT pT=true) (hT:TT2 pT T) (hbm:BM mg base) (B:Blt mg)
    (D_day_filed:Df K mg "day_filed" s_day_filed ["one"] fW fdW) (G_day_filed:FnOk P w K mg base CX0 1 fW fdW ["one"] (sp_day K)):FnOk P w K mg base CX0 5 f fd ["roll"] (sp_ranked K T):=by
  refine D.F.okC hcd sc_ranked (fun vs H Q E h=>?_) (fun A outer s H vs Q E hr h=>?_)
  · obtain ⟨_,_,rfl,_⟩:=h;rfl
  · obtain ⟨v,ls,rfl,hd,h64,tk,q⟩:=h
    obtain ⟨va,vs,rfl,hV,d0⟩:=hd.list_inv
    have hvl:vs.length=ls.length:=by rw [d0.length,List.length_map]
    refine ⟨_,(pss_one (ps_ret (pe_sortedLam (P:=pT) (c:=cT) (p:="number") (defScope s_ranked) rfl ["roll"] rfl ["roll"] [some 0] (by decide +kernel) (by decide +kernel) (by decide +kernel) rfl hbm rfl hhd (lam_deep (hr.mono (by decide))) rfl B.sorted rfl B.range (pa_cons (pe_callB call_len_seq rfl B.len PySem.boot_len (pa_cons (pv 0) pa_nil)) pa_nil) (fun A f cv s H hh hd hu=>(pe_tup (pa_cons (pe_call G_day_filed (lam_room (hr.mono (by decide)) hh hd hu) rfl D_day_filed.m D_day_filed.F.kp D_day_filed.b .nil pass0 (pa_cons (pe_ix (ix_listK (K:=K) rfl) (pv 1) (pv 0) (fun _ _=>rfl)) pa_nil)) (pa_cons (pv 0) pa_nil)))) (fun _ _ _ _=>rfl)))),?_⟩
    refine ⟨_,rfl,va,_,rfl,.inl hV,ls.length,by rw [hvl],h64,tk _ hT.1,fun H2 k1 k2 t2=>?_⟩
    have sT:SameT T H H2:=SameT.tab tk hT.1 hT.2 k1 t2
    refine ⟨fun i ts H3=>SameT T H2 H3∧ts.length=i∧∀ (j:Nat) (t:Addr),ts[j]?=some t→H3 t=some (.tup ([dayL ls j,(j:Int)].map V.int)),fun i=>[dayL ls i,(i:Int)],kapR (dayL ls),1,⟨SameT.refl sT.t1,rfl,fun j t e=>by simp at e⟩,?_,?_,fun _ _=>rfl,fun i j hi hj=>lex_kapR (by omega) (by omega),?_,?_⟩
    · rintro i ts H3 hi ⟨s3,htl,h3⟩
      refine ⟨fun c' e=>s3.keep c' _ e fun ps z=>(by cases z),?_⟩
      obtain ⟨al,hal,hTl⟩:=d0.lic_at (List.getElem?_eq_getElem hi)
      have hTl:=hTl.mo (sT.trans s3)
      have edl:=dayL_at (List.getElem?_eq_getElem hi)
      refine ⟨_,rfl,_,rfl,va,_,(i:Int),_,rfl,rfl,(sT.trans s3).seq hV,atI_nat hal,al,_,rfl,hTl,?_⟩
      refine ⟨_,rfl,(by show 2≤sizeLine;decide),fun t ht=>⟨t,rfl,?_⟩⟩
      have nt:H2 t=none:=s3.free ht
      refine ⟨s3.upd nt (.inl ht),by rw [List.length_append,htl];rfl,fun j t' e=>?_⟩
      by_cases hj:j<ts.length
      · rw [List.getElem?_append_left hj] at e
        have h4':=h3 j t' e
        rw [upd_ne (ne_of_none h4' ht)];exact h4'
      · rw [List.getElem?_append_right (by omega)] at e
        have hj0:j - ts.length=0:=by
          have:=(List.getElem?_eq_some_iff.mp e).1
          simp at this;omega
        have hji:j=i:=by omega
        rw [hj0] at e
        simp at e
        subst e
        subst hji
        rw [upd_same,edl];rfl
    · rintro ts H3 ⟨_,_,h3⟩
      exact h3
    · intro i j hi hj hij e
      unfold kapR at e
      omega
    · rintro ts H3 D' ys ⟨s3,_,_⟩ hD ⟨p,hp,rfl,ho⟩
      have hbl:(below0 ls.length).length=ls.length:=by unfold below0;simp
      rw [hbl] at hp
      refine q D' _ _ ((sT.trans s3).upd ((sT.trans s3).free hD) (.inl hD)) ((sT.trans s3).free hD) upd_same ⟨p,?_,hp,?_⟩
      · refine List.map_congr_left fun i hi=>?_
        have hi':i<ls.length:=List.mem_range.mp (hp.mem_iff.mp hi)
        show (below0 ls.length).getD i .non=_
        unfold below0
        rw [List.getD_eq_getElem?_getD,List.getElem?_map,List.getElem?_range hi'];rfl
      · refine List.Pairwise.imp_of_mem (fun {a b} ha hb hab=>?_) ho
        have ha:=List.mem_range.mp (hp.mem_iff.mp ha)
        have hb:=List.mem_range.mp (hp.mem_iff.mp hb)
        unfold kapR at hab
        omega
abbrev s_groups_of:Stmt:=top 21
theorem sc_groups_of:FnScope ["roll","groups","number"] ["roll"] (defScope s_groups_of):=⟨rfl,rfl,rfl,by decide +kernel,rfl,by decide +kernel,by decide +kernel⟩
abbrev Pg:=Addr × Int × List Nat
def ledG (ps:List Pg):List (Addr × HO):=ps.map fun p=>(p.1,.lst ((Tn.asI p.2.2).map V.int))
def kvG (ps:List Pg):List (Key × V):=ps.map fun p=>(Sum.inl p.2.1,V.ref p.1)
def sp_groups (K:PySem.W.Frag) (T:Tabs):Sp:=fun vs H Q _=>∃ (v:V) (ls:List Lic),vs=[v]∧Den K H v (dRoll ls)∧ls.length<64∧TabsOk T H ∧
  ∀ (l:Addr) (H':Hp) (ps:List Pg) (p:List Nat),Ow T H H' ((l,.lst (ps.map fun p=>V.ref p.1)) :: ledG ps)→Tn.Rk (dayL ls) ls.length p→Tn.Grp (dayL ls) p (ps.map (·.2))→Q (.ref l) H'
theorem kvG_some {ps:List Pg} {d:Int} {v:V} (h:valV (kvG ps) (Sum.inl d)=some v):∃ (j:Nat) (p:Pg),ps[j]?=some p∧p.2.1=d∧v=.ref p.1:=by
  unfold valV kvG at h
  rw [List.find?_map,Option.map_map] at h
  cases e:ps.find? ((fun kv:Key × V=>decide (kv.1=Sum.inl d)) ∘ fun p:Pg=>(Sum.inl p.2.1,V.ref p.1)) with
  | none=>rw [e] at h;cases h
  | some p =>
    rw [e] at h
    obtain ⟨j,hj⟩:=List.getElem?_of_mem (List.mem_of_find?_eq_some e)
    have hp:=List.find?_some e
    simp only [Function.comp,decide_eq_true_eq] at hp
    exact ⟨j,p,hj,Sum.inl.inj hp,(Option.some.inj h).symm⟩
theorem kvG_none {ps:List Pg} {d:Int} (h:valV (kvG ps) (Sum.inl d)=none):∀ p∈ps,p.2.1≠d:=fun p hp e=>by
  unfold valV kvG at h
  rw [Option.map_eq_none_iff,List.find?_eq_none] at h
  have:=h _ (List.mem_map_of_mem hp)
  simp [e] at this
theorem ledG_at {ps:List Pg} {j:Nat} {p:Pg} (h:ps[j]?=some p):(ledG ps)[j]?=some (p.1,.lst ((Tn.asI p.2.2).map V.int)):=by
  unfold ledG;rw [List.getElem?_map,h];rfl
theorem set_map_same {α β:Type} {f:α→β}:∀ {ps:List α} {j:Nat} {p q:α},ps[j]?=some p→f q=f p→(ps.set j q).map f=ps.map f
  | [],_,_,_,h,_=>by simp at h
  | a :: ps,0,p,q,h,e=>by
    have:a=p:=by simpa using h
    subst this
    simp [e]
  | a :: ps,j + 1,p,q,h,e=>by
    rw [List.set_cons_succ,List.map_cons,List.map_cons,set_map_same (by simpa using h) e]
theorem ok_groups {f f1 f2:Addr} {fd fd1 fd2:FuncData} (D:Df K mg "groups_of" s_groups_of ["roll"] f fd) (B:Blt mg)
    (D_day_filed:Df K mg "day_filed" s_day_filed ["one"] f1 fd1) (G_day_filed:FnOk P w K mg base CX0 1 f1 fd1 ["one"] (sp_day K))
    (D_ranked:Df K mg "ranked" s_ranked ["roll"] f2 fd2) (G_ranked:FnOk P w K mg base CX0 5 f2 fd2 ["roll"] (sp_ranked K T)):FnOk P w K mg base CX0 6 f fd ["roll"] (sp_groups K T):=by
  refine D.F.ok sc_groups_of (fun vs H Q E h=>?_) (fun cdv A outer s H vs Q E hr h=>?_)
  · obtain ⟨_,_,rfl,_⟩:=h;rfl
  · obtain ⟨v,ls,rfl,hd,h64,tk,q⟩:=h
    obtain ⟨va,vs,rfl,hV,d0⟩:=hd.list_inv
    have hvl:vs.length=ls.length:=by rw [d0.length,List.length_map]
    refine ⟨_,(pss_cons (ps_set (i:=1) sc_groups_of.nd rfl (Or.inl rfl) pe_dnewK)
      (pss_cons (ps_for PassesOwn.never rfl (pi_list (pe_call G_ranked (hr.mono (by decide)) rfl D_ranked.m D_ranked.F.kp D_ranked.b .nil pass0 (pa_cons (pv 0) pa_nil))) (pg_name (i:=2) sc_groups_of.nd rfl (Or.inl rfl))
        (pss_one (ps_expr (pe_bm PySem.F.plainAttrs_list PySem.F.slot_list_append PySem.F.type_list_append mt_append (pe_dset (pv 1) (pe_call G_day_filed (hr.mono (by decide)) rfl D_day_filed.m D_day_filed.F.kp D_day_filed.b .nil pass0 (pa_cons (pe_ix ix_list (pv 0) (pv 2) (fun _ _=>rfl)) pa_nil)) (pe_lst pa_nil) ⟨rfl,rfl,rfl,rfl⟩) (pa_cons (pv 2) pa_nil)))))
      (pss_one (ps_ret (pe_listVals rfl rfl B.list (pv 1)))))),?_⟩
    refine sl_11 ?_
    intro zu0 zu1 zu2
    have O:=Ow.refl tk
    intro dg hdg
    walk_at "nw"
    refine ⟨_,rfl,.ref va,ls,rfl,hd.monoT O.same,h64,O.same.t1,O.gotT fun lt H2 xs O ⟨p,ep,hp⟩=>?_⟩
    subst ep
    refine ⟨lt,rfl,⟨_,O.sq 0⟩,?_⟩
    refine for_list (K:=K) (xs:=p.map fun (i:Nat)=>V.int (i:Int)) (fun i σ H'=>Iv (∃ (v2:Option V) (ps:List Pg),σ=[some (.ref va),some (.ref dg),v2]∧ps.length≤i ∧
      Ow T H H' ((lt,.lst (p.map fun (i:Nat)=>V.int (i:Int))) :: (dg,.dK (kvG ps)) :: ledG ps)∧Tn.Grp (dayL ls) (p.take i) (ps.map (·.2))))
      ⟨trivial,none,[],rfl,Nat.le_refl _,O,Tn.Grp.start _⟩ (fun i σ H' _ ⟨_,_,_,_,_,O,_⟩=>O.sq 0) ?_ ?_
    · rintro i y σ H3 hy ⟨-,v2,ps,rfl,hpl,O,G⟩
      rw [List.getElem?_map] at hy
      obtain ⟨k,hk,rfl⟩:∃ k,p[i]?=some k∧y=V.int (k:Int):=by
        cases e:p[i]? with
        | none=>rw [e] at hy;cases hy
        | some j=>rw [e] at hy;exact ⟨j,rfl,(Option.some.inj hy).symm⟩
      have hi:=(List.getElem?_eq_some_iff.mp hk).1
      have hpn:=hp.len
      have hkl:=hp.lt (List.mem_of_getElem? hk)
      have hbe:=hp.before hk
      obtain ⟨al,hal,hTl⟩:=d0.lic_at (List.getElem?_eq_getElem hkl)
      have edl:=dayL_at (List.getElem?_eq_getElem hkl)
      have hvk:vs[k]?=some (.ref al):=hal
      refine ⟨_,rfl,dg,rfl,.inl ⟨_,.inl (O.get 1)⟩,_,rfl,_,rfl,va,_,(k:Int),_,rfl,rfl,O.same.seq hV,atI_nat hvk,al,_,rfl,hTl.mo O.same,?_⟩
      rw [← edl]
      refine ⟨szl,fun l1 h1=>?_⟩
      walk_at "nw"
      refine ⟨kvG ps,Sum.inl (dayL ls k),O.get 2,rfl,?_,fun v hv=>?_,fun hn=>?_⟩
      · unfold kvG
        exact small100' (by rw [List.length_map];omega)
      · have O:=O.tail
        obtain ⟨j,pj,hj,ej,rfl⟩:=kvG_some hv
        have hgj:(ps.map (·.2))[j]?=some pj.2:=by rw [List.getElem?_map,hj];rfl
        have lat:((lt,HO.lst (p.map fun (i:Nat)=>V.int (i:Int))) :: (dg,HO.dK (kvG ps)) :: ledG ps)[j + 2]?=some (pj.1,.lst ((Tn.asI pj.2.2).map V.int)):=by
          rw [List.getElem?_cons_succ,List.getElem?_cons_succ];exact ledG_at hj
        have hgl:pj.2.2.length≤1000:=by
          have hs:pj.2.2.Sublist (p.take i):=by rw [← G.flat];exact Tn.flat_sub (List.mem_map_of_mem (List.mem_of_getElem? hgj))
          have:=hs.length_le
          rw [List.length_take] at this;omega
        refine ⟨.inl ⟨rfl,_,SqL.of (O.get (j + 2) lat)⟩,_,rfl,pj.1,_,_,rfl,rfl,O.get (j + 2) lat,small100' (by rw [List.length_map,Tn.ints_len];omega),?_⟩
        generalize hE:upd _ _ _=Hn
        have O:=Ow.putE O (j + 2) lat hE rfl
        clear hE
        refine ⟨trivial,_,ps.set j (pj.1,pj.2.1,pj.2.2++[k]),rfl,by rw [List.length_set];omega,?_,?_⟩
        · rw [show kvG (ps.set j (pj.1,pj.2.1,pj.2.2++[k]))=kvG ps from set_map_same hj rfl]
          rw [List.set_cons_succ,List.set_cons_succ] at O
          unfold ledG
          rw [List.map_set]
          unfold ledG at O
          simp only [Tn.asI,List.map_append,List.map_cons,List.map_nil]
          exact O
        · rw [Tn.take_next hk,List.map_set]
          exact G.more hgj ej hbe
      · rw [putK_new _ hn]
        walk_at "pt"
        refine ⟨.inl ⟨rfl,_,O.sq 0⟩,_,rfl,l1,_,_,rfl,rfl,O.get 0,small100' (by simp),?_⟩
        walk_at "pt"
        refine ⟨trivial,_,ps++[(l1,dayL ls k,[k])],rfl,by rw [List.length_append];simp;omega,?_,?_⟩
        · unfold kvG ledG
          rw [List.map_append,List.map_append]
          unfold kvG ledG at O
          refine O.perm ?_
          have e:((lt,HO.lst (p.map fun (i:Nat)=>V.int (i:Int))) :: (dg,HO.dK (ps.map (fun p=>((Sum.inl p.2.1:Key),V.ref p.1))++[(l1,dayL ls k,[k])].map (fun p:Pg=>((Sum.inl p.2.1:Key),V.ref p.1)))) :: (ps.map (fun p=>(p.1,HO.lst ((Tn.asI p.2.2).map V.int)))++[(l1,dayL ls k,[k])].map (fun p:Pg=>(p.1,HO.lst ((Tn.asI p.2.2).map V.int)))))
            = ((lt,HO.lst (p.map fun (i:Nat)=>V.int (i:Int))) :: (dg,HO.dK (ps.map (fun p=>((Sum.inl p.2.1:Key),V.ref p.1))++[(Sum.inl (dayL ls k),V.ref l1)])) :: ps.map (fun p=>(p.1,HO.lst ((Tn.asI p.2.2).map V.int))))++[(l1,HO.lst ([]++[V.int (k:Int)]))]:=rfl
          rw [e]
          exact List.perm_append_comm
        · rw [Tn.take_next hk,List.map_append]
          exact G.new (fun g hg=>by
            obtain ⟨p',hp',rfl⟩:=List.mem_map.mp hg
            exact kvG_none hn p' hp') hbe
    · rintro σ H3 ⟨-,v2,ps,rfl,hpl,O,G⟩
      rw [List.length_map,List.take_of_length_le (Nat.le_refl _)] at G
      refine ⟨_,rfl,dg,kvG ps,rfl,.inl (O.get 1),fun l hl=>?_⟩
      walk_at "nw"
      have e:(kvG ps).map (·.2)=ps.map fun p=>V.ref p.1:=by unfold kvG;rw [List.map_map];rfl
      rw [e] at O
      exact q l _ ps p (O.sub ((List.Sublist.cons _ (List.Sublist.cons _ (List.Sublist.refl _))).cons₂ _)) hp G
abbrev s_deal:Stmt:=top 31
theorem sc_deal:FnScope ["below","springs","roll","calls","free","wants","takes","group","ways","dealt","number","take"] ["below","springs","roll","calls"] (defScope s_deal):=⟨rfl,rfl,rfl,by decide +kernel,rfl,by decide +kernel,by decide +kernel⟩
def wayL (r:List Int) (ls:List Lic):Nat→List Int:=Tn.fW (ls.map fun l=>Rv.strch r l.start l.back)
theorem wayL_at {r:List Int} {ls:List Lic} {k:Nat} {l:Lic} (h:ls[k]?=some l):wayL r ls k=Rv.strch r l.start l.back:=by
  unfold wayL Tn.fW;rw [List.getD_eq_getElem?_getD,List.getElem?_map,h];rfl
def LicOk2 (r:List Int) (l:Lic):Prop:=LicOk r l∧0≤l.most
theorem wayL_ok {r:List Int} (hR:Rv.River r) {ls:List Lic} (h:∀ l∈ls,LicOk2 r l) {k:Nat} (hk:k<ls.length):Tn.WOk r.length (wayL r ls k):=by
  obtain ⟨h0,h1,_⟩:=(h _ (List.getElem_mem hk)).1
  rw [wayL_at (List.getElem?_eq_getElem hk)]
  exact Rv.strch_ok hR h0 h1
structure Dealt (r s:List Int) (ls:List Lic) (cs xs:List Int):Prop where
  len:xs.length=ls.length
  fit:Tn.Fit ls.length (Tn.fF (Rv.nats r s)) (wayL r ls) (Tn.fX (wantsL ls cs)) (Tn.fX xs)
  shown:Tn.Shown ls.length (Tn.fF (Rv.nats r s)) (wayL r ls) (dayL ls) (Tn.fX (wantsL ls cs)) (Tn.fX xs)
theorem natf_nn {r s:List Int} (h:∀ x∈s,0≤x) (i:Int):0≤Rv.natf r s i:=by
  have key:∀ (n:Nat) (f:Nat→Int),(∀ j,j<n→0≤f j)→0≤Rv.tot n f:=by
    intro n f
    induction n with
    | zero=>intro _;exact Int.le_refl _
    | succ n ih =>
      intro hf
      have:=ih fun j hj=>hf j (by omega)
      have:=hf n (by omega)
      show 0≤Rv.tot n f + f n
      omega
  refine key _ _ fun j _=>?_
  by_cases hj:j<s.length
  · have:=h _ (Tn.getD_mem0 hj)
    split
    · exact this
    · exact Int.le_refl _
  · rw [List.getD_eq_getElem?_getD,List.getElem?_eq_none (by omega)]
    split <;> exact Int.le_refl _
theorem nats_nn {r s:List Int} (h:∀ x∈s,0≤x):∀ x∈Rv.nats r s,0≤x:=fun x hx=>by
  obtain ⟨i,_,rfl⟩:=List.mem_map.mp hx
  exact natf_nn h _
theorem wantsL_len {ls:List Lic} {cs:List Int} (h:ls.length=cs.length):(wantsL ls cs).length=ls.length:=by
  unfold wantsL;rw [List.length_zipWith];omega
theorem wantsL_nn {r:List Int} {ls:List Lic} {cs:List Int} (h:∀ l∈ls,LicOk2 r l) (hc:∀ c∈cs,0≤c):∀ x∈wantsL ls cs,0≤x:=fun x hx=>by
  obtain ⟨k,hk⟩:=List.getElem?_of_mem hx
  unfold wantsL at hk
  rw [List.getElem?_zipWith] at hk
  cases e1:ls[k]? with
  | none=>rw [e1] at hk;simp at hk
  | some l =>
    cases e2:cs[k]? with
    | none=>rw [e1,e2] at hk;simp at hk
    | some c =>
      rw [e1,e2] at hk
      have:=(h l (List.mem_of_getElem? e1)).2
      have:=hc c (List.mem_of_getElem? e2)
      have:x=min c l.most:=(Option.some.inj hk).symm
      omega
def sp_deal (K:PySem.W.Frag) (T:Tabs):Sp:=fun vs H Q _=>∃ (a b c:Addr) (v:V) (r s:List Int) (ls:List Lic) (cs:List Int),vs=[.ref a,.ref b,v,.ref c]∧rvIn K H a r∧SqL K H b (s.map V.int)∧s.length=r.length∧(∀ x∈s,0≤x)∧Den K H v (dRoll ls)∧ls.length<64∧SqL K H c (cs.map V.int)∧ls.length=cs.length∧(∀ l∈ls,LicOk2 r l)∧(∀ c∈cs,0≤c)∧TabsOk T H ∧
  RetLT T H (fun ys=>∃ xs,ys=xs.map V.int∧Dealt r s ls cs xs) Q
theorem ok_deal {f f1 f2 f3 f4 f5:Addr} {fd fd1 fd2 fd3 fd4 fd5:FuncData} (D:Df K mg "deal" s_deal ["below","springs","roll","calls"] f fd) (B:Blt mg)
    (D_natural_of:Df K mg "natural_of" s_natural_of ["below","springs"] f1 fd1) (G_natural_of:FnOk P w K mg base CX0 6 f1 fd1 ["below","springs"] (sp_nat K T))
    (D_wants_of:Df K mg "wants_of" s_wants_of ["roll","calls"] f2 fd2) (G_wants_of:FnOk P w K mg base CX0 2 f2 fd2 ["roll","calls"] (sp_wants K T))
    (D_groups_of:Df K mg "groups_of" s_groups_of ["roll"] f3 fd3) (G_groups_of:FnOk P w K mg base CX0 6 f3 fd3 ["roll"] (sp_groups K T))
    (D_reaches_of:Df K mg "reaches_of" s_reaches_of ["below","one"] f4 fd4) (G_reaches_of:FnOk P w K mg base CX0 3 f4 fd4 ["below","one"] (sp_reaches K))
    (D_deal_turns:Df K mg "deal_turns" s_deal_turns ["free","ways","rests"] f5 fd5) (G_deal_turns:FnOk P w K mg base CX0 4 f5 fd5 ["free","ways","rests"] (sp_dt K T)) :
    FnOk P w K mg base CX0 7 f fd ["below","springs","roll","calls"] (sp_deal K T):=by
  refine D.F.ok sc_deal (fun vs H Q E h=>?_) (fun cdv A outer s H vs Q E hr h=>?_)
  · obtain ⟨_,_,_,_,_,_,_,_,rfl,_⟩:=h;rfl
  · obtain ⟨a,b,c,v,r,sp,ls,cs,rfl,⟨hA,hR,h64⟩,hB,hsl,hsn,hd,hl64,hC,hlc,ok,hcn,tk,q⟩:=h
    obtain ⟨va,vs,rfl,hV,d0⟩:=hd.list_inv
    have hvl:vs.length=ls.length:=by rw [d0.length,List.length_map]
    refine ⟨_,(pss_cons (ps_set (i:=4) sc_deal.nd rfl (Or.inl rfl) (pe_call G_natural_of (hr.mono (by decide)) rfl D_natural_of.m D_natural_of.F.kp D_natural_of.b .nil pass0 (pa_cons (pv 0) (pa_cons (pv 1) pa_nil))))
      (pss_cons (ps_set (i:=5) sc_deal.nd rfl (Or.inr rfl) (pe_call G_wants_of (hr.mono (by decide)) rfl D_wants_of.m D_wants_of.F.kp D_wants_of.b .nil pass0 (pa_cons (pv 2) (pa_cons (pv 3) pa_nil))))
      (pss_cons (ps_set (i:=6) sc_deal.nd rfl (Or.inl rfl) (pe_op op_rep (pe_lst (pa_cons pe_int pa_nil)) (pe_callB call_len_seq rfl B.len PySem.boot_len (pa_cons (pv 2) pa_nil))))
      (pss_cons (ps_for PassesOwn.never rfl (pi_list (pe_call G_groups_of (hr.mono (by decide)) rfl D_groups_of.m D_groups_of.F.kp D_groups_of.b .nil pass0 (pa_cons (pv 2) pa_nil))) (pg_name (i:=7) sc_deal.nd rfl (Or.inl rfl))
        (pss_cons (ps_setComp (i:=8) (defScope s_deal) rfl ["below","springs","roll","calls","free","wants","takes","group","ways","dealt","number","take"] rfl ["number","below","roll"] [none,some 0,some 2] (by decide +kernel) (by decide +kernel) (by decide +kernel) rfl sc_deal.nd rfl rfl (pi_list (pv 7)) (fun _ _ _=>(pg_name (i:=0) (show (["number","below","roll"]:List Str).Nodup by decide +kernel) rfl (Or.inl rfl))) (fun _ _ _=>pts_nil) (fun _ _ _=>(pe_call G_reaches_of (hr.mono (by decide)) rfl D_reaches_of.m D_reaches_of.F.kp D_reaches_of.b .nil pass0 (pa_cons (pv 1) (pa_cons (pe_ix (ix_listK (K:=K) rfl) (pv 2) (pv 0) (fun _ _=>rfl)) pa_nil)))) rfl)
        (pss_cons (ps_asg (pe_call G_deal_turns (hr.mono (by decide)) rfl D_deal_turns.m D_deal_turns.F.kp D_deal_turns.b .nil pass0 (pa_cons (pv 4) (pa_cons (pv 8) (pa_cons (pe_comp (defScope s_deal) rfl ["below","springs","roll","calls","free","wants","takes","group","ways","dealt","number","take"] rfl ["number","wants"] [none,some 5] (by decide +kernel) (by decide +kernel) (by decide +kernel) rfl (pi_list (pv 7)) (fun _ _ _=>(pg_name (i:=0) (show (["number","wants"]:List Str).Nodup by decide +kernel) rfl (Or.inl rfl))) (fun _ _ _=>pts_nil) (fun _ _ _=>(pe_ix (ix_listK (K:=K) rfl) (pv 1) (pv 0) (fun _ _=>rfl)))) pa_nil)))) (pg_tup rfl (pgs_cons (pg_name (i:=9) sc_deal.nd rfl (Or.inl rfl)) (pgs_cons (pg_name (i:=4) sc_deal.nd rfl (Or.inl rfl)) pgs_nil))))
        (pss_one (ps_for PassesOwn.never rfl (pi_zip rfl B.zip (pa_cons (pv 7) (pa_cons (pv 9) pa_nil))) (pg_tup rfl (pgs_cons (pg_name (i:=10) sc_deal.nd rfl (Or.inl rfl)) (pgs_cons (pg_name (i:=11) sc_deal.nd rfl (Or.inl rfl)) pgs_nil)))
          (pss_one (ps_asg (pv 11) (pg_sub (pv 6) (pv 10) set_list))))))))
      (pss_one (ps_ret (pv 6))))))),?_⟩
    refine sl_12 ?_
    intro zu0 zu1 zu2 zu3 zu4 zu5 zu6 zu7
    have O:=Ow.refl tk
    refine ⟨_,rfl,_,rfl,a,b,r,sp,rfl,⟨hA,hR,h64⟩,hB,hsl,tk,O.gotT fun lf H1 ys O e=>?_⟩
    subst e
    refine ⟨_,rfl,_,rfl,.ref va,c,ls,cs,rfl,hd.monoT O.same,O.same.seq hC,hlc,by omega,O.same.t1,O.gotT fun lw H2 ys O e=>?_⟩
    subst e
    have hnl:(Rv.nats r sp).length=r.length:=(Rv.nats_fl r sp).len
    have hnn:=nats_nn (r:=r) hsn
    have hwl:=wantsL_len hlc
    have hwn:=wantsL_nn ok hcn
    have hW:=fun k (hk:k<ls.length)=>wayL_ok hR ok hk
    have hwk:∀ k,k<ls.length→0≤Tn.fX (wantsL ls cs) k:=fun k hk=>hwn _ (Tn.getD_mem0 (by omega))
    generalize hwa:wantsL ls cs=wa at O hwl hwn hwk
    refine ⟨szl,fun l1 h1=>?_⟩
    walk_at "nw"
    refine ⟨_,rfl,va,_,rfl,.inl (O.same.seq hV),l1,_,_,rfl,rfl,O.get 0,by omega,by omega,small100 (by rw [Int.toNat_natCast];simp;omega),fun lt hlt=>?_⟩
    walk_at "nw"
    rw [Int.toNat_natCast,rep_intsV,hvl] at O
    have O:=O.two
    refine ⟨_,rfl,.ref va,ls,rfl,hd.monoT O.same,hl64,O.same.t1,fun lg H3 ps p OG R G=>?_⟩
    have nin:∀ q∈((lg,HO.lst (ps.map fun p=>V.ref p.1)) :: ledG ps),∀ z∈[(lt,HO.lst ((List.replicate ls.length 0).map V.int)),(lw,.lst (wa.map V.int)),(lf,.lst ((Rv.nats r sp).map V.int))],z.1≠q.1:=fun q hq z hz e=>by
      have h1:=OG.new q hq
      have h2:=O.at_ z hz
      rw [e,h1] at h2;cases h2
    obtain ⟨Hb,O,sb,kb⟩:=(O.callT OG.same).reb
    have hG:SqL K Hb lg (ps.map fun p=>V.ref p.1):=SqL.of (kb lg _ (OG.get 0) (nin _ List.mem_cons_self))
    have hP:∀ (j:Nat) (pj:Pg),ps[j]?=some pj→SqL K Hb pj.1 ((Tn.asI pj.2.2).map V.int):=fun j pj hj=>by
      have:=ledG_at hj
      have hm:=List.mem_of_getElem? this
      exact SqL.of (kb _ _ (OG.at_ _ (List.mem_cons_of_mem _ hm)) (nin _ (List.mem_cons_of_mem _ hm)))
    clear nin kb OG
    have hA:=sb.seq hA
    have hV:=sb.seq hV
    have d0:=d0.mo sb
    refine ⟨lg,rfl,⟨_,O.same.seq hG⟩,?_⟩
    refine for_list (K:=K) (xs:=ps.map fun p=>V.ref p.1) (fun j σ H'=>Iv (∃ (lf:Addr) (v7 v8 v9 v10 v11:Option V) (xs fl:List Int),σ=[some (.ref a),some (.ref b),some (.ref va),some (.ref c),some (.ref lf),some (.ref lw),some (.ref lt),v7,v8,v9,v10,v11] ∧
      Ow T Hb H' [(lt,.lst (xs.map V.int)),(lw,.lst (wa.map V.int)),(lf,.lst (fl.map V.int))]∧Tn.GInv ls.length (Rv.nats r sp) (wayL r ls) (dayL ls) (Tn.fX wa) (ps.map (·.2)) j xs fl))
      ⟨trivial,lf,none,none,none,none,none,_,_,rfl,O,Tn.GInv.start _ hwk hnn⟩ (fun i σ H' _ ⟨_,_,_,_,_,_,_,_,_,_,O,_⟩=>O.same.seq hG) ?_ ?_
    · rintro j y σ H4 hy ⟨-,lf,v7,v8,v9,v10,v11,xs,fl,rfl,O,GI⟩
      rw [List.getElem?_map] at hy
      obtain ⟨pj,hj,rfl⟩:∃ pj,ps[j]?=some pj∧y=V.ref pj.1:=by
        cases e:ps[j]? with
        | none=>rw [e] at hy;cases hy
        | some j=>rw [e] at hy;exact ⟨j,rfl,(Option.some.inj hy).symm⟩
      have hgj:(ps.map (·.2))[j]?=some pj.2:=by rw [List.getElem?_map,hj];rfl
      have hPj:=hP j pj hj
      have up:=G.up R (List.mem_of_getElem? hgj)
      have nd:=Tn.sorted_nodup up
      have hlt:∀ k∈pj.2.2,k<ls.length:=fun k hk=>R.lt (by rw [← G.flat];exact List.mem_flatten.mpr ⟨pj.2.2,List.mem_map_of_mem (List.mem_of_getElem? hgj),hk⟩)
      have hgl:pj.2.2.length≤ls.length:=by
        have hs:pj.2.2.Sublist p:=by rw [← G.flat];exact Tn.flat_sub (List.mem_map_of_mem (List.mem_of_getElem? hgj))
        have:=hs.length_le
        rw [R.len] at this;exact this
      have hfl:=GI.fll
      have hxl:=GI.xl
      have hfn:=GI.nn hnn
      /- ways -/
      refine ⟨_,rfl,pj.1,rfl,⟨_,O.same.seq hPj⟩,fun acc hacc=>?_⟩
      refine comp_list (K:=K) (xs:=(Tn.asI pj.2.2).map V.int) (fun i τ H'=>Iv (∃ (v0:Option V) (Hc:Hp) (us:List V),τ=[v0,some (.ref a),some (.ref va)]∧Ow T Hc H' [(acc,.lst us),(lt,.lst (xs.map V.int)),(lw,.lst (wa.map V.int)),(lf,.lst (fl.map V.int))]∧SameT T Hb Hc∧Dens K Hc us ((pj.2.2.take i).map fun k=>dInts (wayL r ls k))))
        ⟨trivial,none,Hb,[],rfl,O.mk' hacc rfl,SameT.refl O.same.t0,.nil⟩ (fun i τ H' _ ⟨_,_,_,_,_,O,sc,_⟩=>(sc.trans O.same).seq hPj) ?_ ?_
      · rintro i y τ H5 hy ⟨-,v0,Hc,us,rfl,O,sc,d1⟩
        obtain ⟨z,hz,rfl⟩:=ints_get hy
        obtain ⟨k,hk,rfl⟩:=Tn.ints_some hz
        have hi:=(List.getElem?_eq_some_iff.mp hk).1
        have hkl:=hlt k (List.mem_of_getElem? hk)
        obtain ⟨al,hal,hTl⟩:=d0.lic_at (List.getElem?_eq_getElem hkl)
        refine yesT ?_
        refine ⟨_,rfl,_,rfl,_,rfl,va,_,(k:Int),_,rfl,rfl,(sc.trans O.same).seq hV,atI_nat hal,a,al,r,_,rfl,(sc.trans O.same).seq hA,hR,by omega,hTl.mo (sc.trans O.same),(ok _ (List.getElem_mem hkl)).1,O.got fun lx H6 ys O e=>?_⟩
        subst e
        refine ⟨_,O.get 1,small100' (by rw [d1.length,List.length_map,List.length_take];omega),?_⟩
        walk_at "pt"
        obtain ⟨Hn2,O,sn,en2⟩:=O.frz
        refine ⟨trivial,_,Hn2,us++[.ref lx],rfl,O,sc.trans sn,?_⟩
        rw [Tn.map_take_next hk]
        refine (d1.mo sn).append (.cons ?_ .nil)
        rw [wayL_at (List.getElem?_eq_getElem hkl)]
        exact Den.ints (SqL.of en2)
      rintro τ H5 ⟨-,v0,Hc,us,rfl,O,sc,d1⟩
      rw [List.length_map,Tn.ints_len,List.take_of_length_le (Nat.le_refl _)] at d1
      /- rests -/
      refine ⟨_,rfl,_,rfl,_,rfl,pj.1,rfl,⟨_,(sc.trans O.same).seq hPj⟩,fun ac2 hac2=>?_⟩
      refine comp_list (K:=K) (xs:=(Tn.asI pj.2.2).map V.int) (fun i τ H'=>Iv (∃ (v0:Option V),τ=[v0,some (.ref lw)]∧Ow T Hc H' [(ac2,.lst (((pj.2.2.take i).map (Tn.fX wa)).map V.int)),(acc,.lst us),(lt,.lst (xs.map V.int)),(lw,.lst (wa.map V.int)),(lf,.lst (fl.map V.int))]))
        ⟨trivial,none,rfl,O.mk' hac2 rfl⟩ (fun i τ H' _ ⟨_,_,_,O⟩=>(sc.trans O.same).seq hPj) ?_ ?_
      · rintro i y τ H6 hy ⟨-,v0,rfl,O⟩
        obtain ⟨z,hz,rfl⟩:=ints_get hy
        obtain ⟨k,hk,rfl⟩:=Tn.ints_some hz
        have hi:=(List.getElem?_eq_some_iff.mp hk).1
        have hkl:=hlt k (List.mem_of_getElem? hk)
        refine yesT ?_
        refine ⟨_,rfl,_,rfl,lw,_,(k:Int),_,rfl,rfl,O.sq 3,ints_at (getD_get? (ns:=wa) (k:=k) (by omega)),?_⟩
        refine ⟨_,O.get 0,small100' (by rw [List.length_map,List.length_map,List.length_take];omega),?_⟩
        walk_at "pt"
        refine ⟨trivial,_,rfl,?_⟩
        rw [Tn.map_take_next hk,List.map_append];exact O
      rintro τ H6 ⟨-,v0,rfl,O⟩
      rw [List.length_map,Tn.ints_len,List.take_of_length_le (Nat.le_refl _)] at O
      have dws:Dens K Hc us ((pj.2.2.map (wayL r ls)).map dInts):=by rw [List.map_map];exact d1
      refine ⟨lf,ac2,.ref acc,fl,pj.2.2.map (Tn.fX wa),pj.2.2.map (wayL r ls),rfl,O.sq 4,.list (O.sq 1) (dws.mo O.same),O.sq 0,by rw [List.length_map,List.length_map],by omega,by rw [List.length_map];omega,fun w hw=>?_,hfn,fun x hx=>?_,O.same.t1,fun l lt2 ll ys left t H7 OD L=>?_⟩
      · obtain ⟨k,hk,rfl⟩:=List.mem_map.mp hw
        rw [hfl,hnl]
        exact hW k (hlt k hk)
      · obtain ⟨k,hk,rfl⟩:=List.mem_map.mp hx
        exact hwk k (hlt k hk)
      have O:=O.join OD
      walk_at "jn"
      refine ⟨l,_,rfl,O.sqT 0,rfl,_,_,rfl,_,_,rfl,rfl,?_⟩
      have O:=((((O.del 0).del 2).del 2).del 4)
      walk_at "er"
      have hyl:ys.length=pj.2.2.length:=by rw [L.xl,List.length_map]
      refine ⟨_,rfl,_,rfl,pj.1,lt2,_,_,rfl,(sc.trans O.same).seq hPj,O.sq 0,?_⟩
      refine for_zip (K:=K) (fun i σ H'=>Iv (∃ (v10 v11:Option V) (cur:List Int),σ=[some (.ref a),some (.ref b),some (.ref va),some (.ref c),some (.ref ll),some (.ref lw),some (.ref lt),some (.ref pj.1),some (.ref acc),some (.ref lt2),v10,v11]∧cur.length=ls.length∧(∀ k,Tn.fX cur k=Tn.over (Tn.fX xs) (pj.2.2.take i) (Tn.fX ys) k) ∧
        Ow T Hc H' [(lt2,.lst (ys.map V.int)),(ll,.lst (left.map V.int)),(lt,.lst (cur.map V.int)),(lw,.lst (wa.map V.int))])) (by rw [List.length_map,List.length_map,Tn.ints_len];omega)
        ⟨trivial,_,_,xs,rfl,hxl,fun k=>by rw [List.take_zero,Tn.over_ne (by simp)],O⟩ (fun i σ H' _ ⟨_,_,_,_,_,_,_,O⟩=>⟨(sc.trans O.same).seq hPj,O.sq 0⟩) ?_ ?_
      · rintro i x y t' σ H8 hx hy ⟨-,v10,v11,cur,rfl,hcl,hov,O⟩ ht
        obtain ⟨z,hz,rfl⟩:=ints_get hx
        obtain ⟨k,hk,rfl⟩:=Tn.ints_some hz
        obtain ⟨u,hu,rfl⟩:=ints_get hy
        have hkl:=hlt k (List.mem_of_getElem? hk)
        walk_at "nw"
        refine ⟨t',_,rfl,O.sqT 0,rfl,_,_,rfl,_,_,rfl,rfl,?_⟩
        refine ⟨_,rfl,_,rfl,_,rfl,lt,_,_,k,rfl,rfl,O.get 3,ixN_nat (by rw [List.length_map];omega),?_⟩
        walk_at "pt"
        have O:=O.tail
        refine ⟨trivial,_,_,cur.set k u,rfl,by rw [List.length_set];exact hcl,fun m=>?_,by rw [List.map_set];exact O⟩
        rw [Tn.over_next nd hk m,← hov m]
        unfold Tn.fX
        rw [Tn.getD_set (by omega)]
        by_cases hm:m=k
        · rw [if_pos hm,if_pos hm,List.getD_eq_getElem?_getD,hu];rfl
        · rw [if_neg hm,if_neg hm]
      · rintro σ H8 ⟨-,v10,v11,cur,rfl,hcl,hov,O⟩
        rw [List.length_map,Tn.ints_len,List.take_of_length_le (Nat.le_refl _)] at hov
        have O:=(O.base sc).tail
        have O:=O.pull 2
        walk_at "er"
        have O:=O.pull 2
        walk_at "er"
        refine ⟨trivial,ll,_,_,_,_,_,cur,left,rfl,O,?_⟩
        exact GI.step G R hgj (by rw [hnl];exact hW) L hcl hov
    · rintro σ H4 ⟨-,lf,v7,v8,v9,v10,v11,xs,fl,rfl,O,GI⟩
      rw [List.length_map] at GI
      have GI:Tn.GInv ls.length (Rv.nats r sp) (wayL r ls) (dayL ls) (Tn.fX wa) (ps.map (·.2)) (ps.map (·.2)).length xs fl:=by rw [List.length_map];exact GI
      obtain ⟨F1,F2⟩:=GI.finish G R
      rw [← hwa] at F1 F2
      exact ⟨_,rfl,(O.base sb).ret 0 rfl q ⟨xs,rfl,GI.xl,F1,F2⟩⟩
abbrev s_start_of:Stmt:=top 17
theorem sc_start_of:FnScope ["one"] ["one"] (defScope s_start_of):=⟨rfl,rfl,rfl,by decide +kernel,rfl,by decide +kernel,by decide +kernel⟩
def sp_stof (K:PySem.W.Frag):Sp:=fun vs H Q _=>∃ (a:Addr) (l:Lic),vs=[.ref a]∧SqT K H a (vLic l)∧Q (.int l.start) H
theorem ok_stof {f:Addr} {fd:FuncData} (D:Df K mg "start_of" s_start_of ["one"] f fd):FnOk P w K mg base CX0 1 f fd ["one"] (sp_stof K):=by
  refine D.F.ok sc_start_of (fun vs H Q E h=>?_) (fun cdv A outer s H vs Q E hr h=>?_)
  · obtain ⟨_,_,rfl,_⟩:=h;rfl
  · obtain ⟨a,l,rfl,hT,q⟩:=h
    refine ⟨_,(pss_one (ps_ret (pe_ix ix_tup (pv 0) pe_int (fun _ _=>rfl)))),?_⟩
    exact ⟨_,rfl,a,_,1,_,rfl,rfl,hT,rfl,q⟩
abbrev s_pond_start:Stmt:=top 34
theorem sc_pond_start:FnScope ["roll","pond","number","room","leak"] ["roll","pond"] (defScope s_pond_start):=⟨rfl,rfl,rfl,by decide +kernel,rfl,by decide +kernel,by decide +kernel⟩
def sp_pst (K:PySem.W.Frag):Sp:=fun vs H Q _=>∃ (b c:Addr) (rs:List V) (ls:List Lic) (p:Int × Int × Int) (l:Lic),vs=[.ref b,.ref c]∧SqL K H b rs∧Dens K H rs (ls.map dLic)∧SqT K H c [.int p.1,.int p.2.1,.int p.2.2]∧0≤p.1∧ls[p.1.toNat]?=some l∧Q (.int l.start) H
theorem ok_pst {f f1:Addr} {fd fd1:FuncData} (D:Df K mg "pond_start" s_pond_start ["roll","pond"] f fd) (D_start_of:Df K mg "start_of" s_start_of ["one"] f1 fd1) (G_start_of:FnOk P w K mg base CX0 1 f1 fd1 ["one"] (sp_stof K)):FnOk P w K mg base CX0 2 f fd ["roll","pond"] (sp_pst K):=by
  refine D.F.ok sc_pond_start (fun vs H Q E h=>?_) (fun cdv A outer s H vs Q E hr h=>?_)
  · obtain ⟨_,_,_,_,_,_,rfl,_⟩:=h;rfl
  · obtain ⟨b,c,rs,ls,p,l,rfl,hB,d0,hC,p0,hl,q⟩:=h
    refine ⟨_,(pss_cons (ps_asg (pv 1) (pg_tup rfl (pgs_cons (pg_name (i:=2) sc_pond_start.nd rfl (Or.inl rfl)) (pgs_cons (pg_name (i:=3) sc_pond_start.nd rfl (Or.inl rfl)) (pgs_cons (pg_name (i:=4) sc_pond_start.nd rfl (Or.inl rfl)) pgs_nil)))))
      (pss_one (ps_ret (pe_call G_start_of (hr.mono (by decide)) rfl D_start_of.m D_start_of.F.kp D_start_of.b .nil pass0 (pa_cons (pe_ix ix_list (pv 0) (pv 2) (fun _ _=>rfl)) pa_nil))))),?_⟩
    refine sl_4 ?_
    intro zu0
    obtain ⟨al,hal,hT⟩:=d0.lic_at hl
    obtain ⟨n,hn⟩:=Int.eq_ofNat_of_zero_le p0
    have en:p.1.toNat=n:=by omega
    rw [en] at hal
    refine ⟨_,rfl,c,_,rfl,hC,rfl,_,_,rfl,_,_,rfl,_,_,rfl,rfl,?_⟩
    exact ⟨_,rfl,_,rfl,b,_,_,_,rfl,rfl,hB,by rw [hn];exact atI_nat hal,al,l,rfl,hT,q⟩
def leftS (ks:List Int) (m:Int × Int × Int):List Int:=ks.set m.1.toNat (ks.getD m.1.toNat 0 - m.2.2)
def leftF (ks:List Int) (ms:List (Int × Int × Int)):List Int:=ms.foldl leftS ks
theorem leftF_snoc (ks:List Int) (ms:List (Int × Int × Int)) (m:Int × Int × Int):leftF ks (ms++[m])=leftS (leftF ks ms) m:=by
  unfold leftF;rw [List.foldl_append];rfl
theorem leftF_len (ms:List (Int × Int × Int)):∀ ks:List Int,(leftF ks ms).length=ks.length:=by
  induction ms with
  | nil=>intro ks;rfl
  | cons m ms ih =>
    intro ks
    show (leftF (leftS ks m) ms).length=_
    rw [ih];unfold leftS;rw [List.length_set]
structure LetOk (r:List Int) (ls:List Lic) (ps:List (Int × Int × Int)) (ks:List Int) (m:Int × Int × Int):Prop where
  at0:0≤m.1
  pd:∃ p l,ps[m.1.toNat]?=some p∧0≤p.1∧ls[p.1.toNat]?=some l∧0≤l.start∧l.start<(r.length:Int)∧(m.2.1=-1∨m.2.1∈Rv.walk r l.start)
  amt:0≤m.2.2
  most:m.2.2≤ks.getD m.1.toNat 0
abbrev s_look_at_let:Stmt:=top 35
theorem sc_look_at_let:FnScope ["below","roll","ponds","kept","let","place","reach","amount"] ["below","roll","ponds","kept","let"] (defScope s_look_at_let):=⟨rfl,rfl,rfl,by decide +kernel,rfl,by decide +kernel,by decide +kernel⟩
def sp_lal (K:PySem.W.Frag) (T:Tabs):Sp:=fun vs H Q _=>∃ (a b c d e:Addr) (r ks:List Int) (rs us:List V) (ls:List Lic) (ps:List (Int × Int × Int)) (m:Int × Int × Int),vs=[.ref a,.ref b,.ref c,.ref d,.ref e]∧SqL K H a (r.map V.int)∧Rv.River r∧r.length≤900∧SqL K H b rs∧Dens K H rs (ls.map dLic)∧SqL K H c us∧Dens K H us (ps.map dMv)∧SqL K H d (ks.map V.int)∧ks.length=ps.length∧SqT K H e [.int m.1,.int m.2.1,.int m.2.2]∧LetOk r ls ps ks m∧TabsOk T H∧∀ H',SameT T H H'→Q .non H'
theorem ok_lal {f f1 f2:Addr} {fd fd1 fd2:FuncData} (D:Df K mg "look_at_let" s_look_at_let ["below","roll","ponds","kept","let"] f fd) (B:Blt mg) (C:Mth mg)
    (D_way_of:Df K mg "way_of" s_way_of ["below","reach"] f1 fd1) (G_way_of:FnOk P w K mg base CX0 1 f1 fd1 ["below","reach"] (sp_way K))
    (D_pond_start:Df K mg "pond_start" s_pond_start ["roll","pond"] f2 fd2) (G_pond_start:FnOk P w K mg base CX0 2 f2 fd2 ["roll","pond"] (sp_pst K)):FnOk P w K mg base CX0 3 f fd ["below","roll","ponds","kept","let"] (sp_lal K T):=by
  obtain ⟨tM,hMOUTH⟩:=C.MOUTH
  refine D.F.ok sc_look_at_let (fun vs H Q E h=>?_) (fun cdv A outer s H vs Q E hr h=>?_)
  · obtain ⟨_,_,_,_,_,_,_,_,_,_,_,_,rfl,_⟩:=h;rfl
  · obtain ⟨a,b,c,d,e,r,ks,rs,us,ls,ps,m,rfl,hA,hR,r9,hB,d0,hC,d1,hD,hkl,hE,LO,tk,q⟩:=h
    refine ⟨_,(pss_cons (ps_asg (pv 4) (pg_tup rfl (pgs_cons (pg_name (i:=5) sc_look_at_let.nd rfl (Or.inl rfl)) (pgs_cons (pg_name (i:=6) sc_look_at_let.nd rfl (Or.inl rfl)) (pgs_cons (pg_name (i:=7) sc_look_at_let.nd rfl (Or.inl rfl)) pgs_nil)))))
      (pss_cons (ps_if (pt_not (pt_chain op_le op_lt pe_int (pv 5) (pe_callB call_len_seq rfl B.len PySem.boot_len (pa_cons (pv 2) pa_nil))))
        (pss_one ps_never)
        pss_nil)
      (pss_cons (ps_if (PW.pt (pw_and (pt_cmpR op_ne (pv 6) (pe_glob (v:=.int (-1)) rfl hMOUTH ⟨_,rfl⟩) (nomark _)) (pw_and1 (pt_cmpR op_notIn_seq (pv 6) (pe_call G_way_of (hr.mono (by decide)) rfl D_way_of.m D_way_of.F.kp D_way_of.b .nil pass0 (pa_cons (pv 0) (pa_cons (pe_call G_pond_start (hr.mono (by decide)) rfl D_pond_start.m D_pond_start.F.kp D_pond_start.b .nil pass0 (pa_cons (pv 1) (pa_cons (pe_ix ix_list (pv 2) (pv 5) (fun _ _=>rfl)) pa_nil))) pa_nil))) (by rfl)))))
        (pss_one ps_never)
        pss_nil)
      (pss_one (ps_if (pt_not (pt_chain op_le op_le pe_int (pv 7) (pe_ix ix_list (pv 3) (pv 5) (fun _ _=>rfl))))
        (pss_one ps_never)
        pss_nil))))),?_⟩
    refine sl_13 ?_
    intro zu0 zu1 zu2 zu3 zu4 zu5
    have O:=Ow.refl tk
    obtain ⟨p,l,hp,p0,hl,l0,l1,hin⟩:=LO.pd
    have m0:=LO.at0
    have ma:=LO.amt
    have mm:=LO.most
    obtain ⟨mi,mz,mv⟩:=m
    dsimp only at hp hin m0 ma mm hE
    obtain ⟨n,rfl⟩:=Int.eq_ofNat_of_zero_le m0
    rw [Int.toNat_natCast] at hp mm
    have hnl:=(List.getElem?_eq_some_iff.mp hp).1
    have hul:us.length=ps.length:=by rw [d1.length,List.length_map]
    obtain ⟨ap,hap,hTp⟩:∃ ap,us[n]?=some (.ref ap)∧SqT K H ap [.int p.1,.int p.2.1,.int p.2.2]:=by
      obtain ⟨u,hu⟩:∃ u,us[n]?=some u:=⟨_,List.getElem?_eq_getElem (by omega)⟩
      obtain ⟨ap,p',rfl,hp',hT⟩:=d1.mv_get hu
      rw [hp] at hp'
      have:=Option.some.inj hp'
      subst this
      exact ⟨ap,hu,hT⟩
    refine ⟨_,rfl,e,_,rfl,hE,rfl,_,_,rfl,_,_,rfl,_,_,rfl,rfl,?_⟩
    refine ⟨_,rfl,_,_,rfl,rfl,_,rfl,ifD (fun _=>?_) (fun h=>absurd m0 h)⟩
    refine ⟨_,rfl,c,_,rfl,.inl hC,_,_,rfl,rfl,_,rfl,ifN (ifD (fun _=>?_) fun h=>absurd (by omega) h)⟩
    refine ⟨_,rfl,rfl,_,rfl,ifN (ifI (fun he=>iteF ?_) fun he=>?_)⟩
    · refine ⟨_,rfl,_,_,rfl,rfl,_,rfl,ifD (fun _=>?_) (fun h=>absurd ma h)⟩
      refine ⟨_,rfl,_,rfl,d,_,_,_,rfl,rfl,O.same.seq hD,ints_at (getD_get? (ns:=ks) (k:=n) (by omega)),_,_,rfl,rfl,_,rfl,ifN (ifD (fun _=>?_) fun h=>absurd mm h)⟩
      exact q _ O.same
    · refine ⟨_,rfl,_,rfl,_,rfl,_,rfl,_,rfl,c,_,_,_,rfl,rfl,hC,atI_nat hap,b,ap,rs,ls,p,l,rfl,hB,d0,hTp,p0,hl,a,r,l.start,rfl,hA,hR,l0,l1,r9,O.got fun lw H2 xs O e=>?_⟩
      subst e
      refine ⟨lw,_,rfl,.inl (O.sq 0),rfl,flat_ints _,_,rfl,?_⟩
      rw [if_pos rfl,in_ints]
      refine ifN (ifD (fun _=>?_) fun h=>absurd (hin.resolve_left he) h)
      refine ⟨_,rfl,_,_,rfl,rfl,_,rfl,ifD (fun _=>?_) (fun h=>absurd ma h)⟩
      refine ⟨_,rfl,_,rfl,d,_,_,_,rfl,rfl,O.same.seq hD,ints_at (getD_get? (ns:=ks) (k:=n) (by omega)),_,_,rfl,rfl,_,rfl,ifN (ifD (fun _=>?_) fun h=>absurd mm h)⟩
      exact q _ O.same
abbrev s_let_out:Stmt:=top 36
theorem sc_let_out:FnScope ["below","roll","ponds","kept","lets","left","let","place","reach","amount"] ["below","roll","ponds","kept","lets"] (defScope s_let_out):=⟨rfl,rfl,rfl,by decide +kernel,rfl,by decide +kernel,by decide +kernel⟩
def sp_lo (K:PySem.W.Frag) (T:Tabs):Sp:=fun vs H Q _=>∃ (a b c d e:Addr) (r ks:List Int) (rs us ts:List V) (ls:List Lic) (ps ms:List (Int × Int × Int)),vs=[.ref a,.ref b,.ref c,.ref d,.ref e]∧SqL K H a (r.map V.int)∧Rv.River r∧r.length≤900∧SqL K H b rs∧Dens K H rs (ls.map dLic)∧SqL K H c us∧Dens K H us (ps.map dMv)∧SqL K H d (ks.map V.int)∧ks.length=ps.length∧SqL K H e ts∧Dens K H ts (ms.map dMv)∧(∀ (i:Nat) (m:Int × Int × Int),ms[i]?=some m→LetOk r ls ps (leftF ks (ms.take i)) m)∧TabsOk T H ∧
  RetLT T H (fun ys=>ys=(leftF ks ms).map V.int) Q
theorem ok_lo {f f1:Addr} {fd fd1:FuncData} (D:Df K mg "let_out" s_let_out ["below","roll","ponds","kept","lets"] f fd) (B:Blt mg)
    (D_look_at_let:Df K mg "look_at_let" s_look_at_let ["below","roll","ponds","kept","let"] f1 fd1) (G_look_at_let:FnOk P w K mg base CX0 3 f1 fd1 ["below","roll","ponds","kept","let"] (sp_lal K T)):FnOk P w K mg base CX0 4 f fd ["below","roll","ponds","kept","lets"] (sp_lo K T):=by
  refine D.F.ok sc_let_out (fun vs H Q E h=>?_) (fun cdv A outer s H vs Q E hr h=>?_)
  · obtain ⟨_,_,_,_,_,_,_,_,_,_,_,_,_,rfl,_⟩:=h;rfl
  · obtain ⟨a,b,c,d,e,r,ks,rs,us,ts,ls,ps,ms,rfl,hA,hR,r9,hB,d0,hC,d1,hD,hkl,hE,d2,good,tk,q⟩:=h
    refine ⟨_,(pss_cons (ps_set (i:=5) sc_let_out.nd rfl (Or.inl rfl) (pe_callTy call_list_of rfl B.list PyProof.Rows.boot_list (pa_cons (pv 3) pa_nil)))
      (pss_cons (ps_for PassesOwn.never rfl (pi_list (pv 4)) (pg_name (i:=6) sc_let_out.nd rfl (Or.inl rfl))
        (pss_cons (ps_expr (pe_call G_look_at_let (hr.mono (by decide)) rfl D_look_at_let.m D_look_at_let.F.kp D_look_at_let.b .nil pass0 (pa_cons (pv 0) (pa_cons (pv 1) (pa_cons (pv 2) (pa_cons (pv 5) (pa_cons (pv 6) pa_nil)))))))
        (pss_cons (ps_asg (pv 6) (pg_tup rfl (pgs_cons (pg_name (i:=7) sc_let_out.nd rfl (Or.inl rfl)) (pgs_cons (pg_name (i:=8) sc_let_out.nd rfl (Or.inl rfl)) (pgs_cons (pg_name (i:=9) sc_let_out.nd rfl (Or.inl rfl)) pgs_nil)))))
        (pss_one (ps_augS (pv 5) (pv 7) get_list (pv 9) ip_sub set_list)))))
      (pss_one (ps_ret (pv 5))))),?_⟩
    refine sl_14 ?_
    intro zu0 zu1 zu2 zu3 zu4
    have O:=Ow.refl tk
    refine ⟨_,rfl,d,_,rfl,.inl hD,fun lm hlm=>?_⟩
    walk_at "nw"
    refine ⟨_,rfl,e,rfl,⟨_,O.same.seq hE⟩,?_⟩
    refine for_list (K:=K) (xs:=ts) (fun i σ H'=>Iv (∃ (v6 v7 v8 v9:Option V),σ=[some (.ref a),some (.ref b),some (.ref c),some (.ref d),some (.ref e),some (.ref lm),v6,v7,v8,v9]∧Ow T H H' [(lm,.lst ((leftF ks (ms.take i)).map V.int))]))
      ⟨trivial,none,none,none,none,rfl,O⟩ (fun i σ H' _ ⟨_,_,_,_,_,_,O⟩=>O.same.seq hE) ?_ ?_
    · rintro i y σ H3 hy ⟨-,v6,v7,v8,v9,rfl,O⟩
      obtain ⟨al,m,rfl,hm,hT⟩:=d2.mv_get hy
      have LO:=good i m hm
      obtain ⟨p,l,hp,p0,hl,l0,l1,hin⟩:=LO.pd
      have m0:=LO.at0
      have hnl:=(List.getElem?_eq_some_iff.mp hp).1
      have hll:=leftF_len (ms.take i) ks
      refine ⟨_,rfl,_,rfl,_,rfl,_,rfl,_,rfl,a,b,c,lm,al,r,leftF ks (ms.take i),rs,us,ls,ps,m,rfl,O.same.seq hA,hR,r9,O.same.seq hB,d0.mo O.same,O.same.seq hC,d1.mo O.same,O.sq 0,by omega,hT.mo O.same,LO,O.same.t1,fun H4 sm=>?_⟩
      have O:=O.callT sm
      refine ⟨_,rfl,al,_,rfl,hT.mo O.same,rfl,_,_,rfl,_,_,rfl,_,_,rfl,rfl,?_⟩
      obtain ⟨mi,mz,mv⟩:=m
      dsimp only at hp m0
      obtain ⟨n,rfl⟩:=Int.eq_ofNat_of_zero_le m0
      rw [Int.toNat_natCast] at hp hnl
      have hx:((leftF ks (ms.take i)).map V.int)[n]?=some (V.int ((leftF ks (ms.take i)).getD n 0)):=by rw [List.getElem?_map,getD_get? (by omega)];rfl
      refine ⟨_,rfl,_,rfl,lm,_,n,_,rfl,rfl,O.sq 0,hx,_,rfl,_,_,rfl,rfl,lm,_,_,_,rfl,rfl,O.get 0,ixN_nat (by rw [List.length_map];omega),?_⟩
      walk_at "pt"
      rw [← List.map_set] at O
      refine ⟨trivial,_,_,_,_,rfl,?_⟩
      rw [List.take_add_one,hm,Option.toList_some,leftF_snoc]
      exact O
    rintro σ H3 ⟨-,v6,v7,v8,v9,rfl,O⟩
    have hl2:ts.length=ms.length:=by rw [d2.length,List.length_map]
    rw [hl2,List.take_length] at O
    exact ⟨_,rfl,O.ret 0 rfl q rfl⟩
abbrev s_pond_calls:Stmt:=top 37
theorem sc_pond_calls:FnScope ["roll","ponds","kept","calls","lessened","pond","keeps","number","room","leak"] ["roll","ponds","kept","calls"] (defScope s_pond_calls):=⟨rfl,rfl,rfl,by decide +kernel,rfl,by decide +kernel,by decide +kernel⟩
def lessL (cs:List Int) (ps:List (Int × Int × Int)) (ks:List Int):Nat→List Int
  | 0=>cs
  | i + 1=>(lessL cs ps ks i).set (ps.getD i (0,0,0)).1.toNat (min (cs.getD (ps.getD i (0,0,0)).1.toNat 0) ((ps.getD i (0,0,0)).2.1 - ks.getD i 0))
theorem lessL_len (cs:List Int) (ps:List (Int × Int × Int)) (ks:List Int):∀ i,(lessL cs ps ks i).length=cs.length
  | 0=>rfl
  | i + 1=>by rw [lessL,List.length_set];exact lessL_len cs ps ks i
def sp_pc (K:PySem.W.Frag) (T:Tabs):Sp:=fun vs H Q _=>∃ (v:V) (b c d:Addr) (us:List V) (ps:List (Int × Int × Int)) (ks cs:List Int),vs=[v,.ref b,.ref c,.ref d]∧SqL K H b us∧Dens K H us (ps.map dMv)∧SqL K H c (ks.map V.int)∧ps.length=ks.length∧SqL K H d (cs.map V.int)∧(∀ p∈ps,0≤p.1∧p.1<(cs.length:Int))∧TabsOk T H ∧
  RetLT T H (fun ys=>ys=(lessL cs ps ks ps.length).map V.int) Q
theorem ok_pc {f:Addr} {fd:FuncData} (D:Df K mg "pond_calls" s_pond_calls ["roll","ponds","kept","calls"] f fd) (B:Blt mg):FnOk P w K mg base CX0 1 f fd ["roll","ponds","kept","calls"] (sp_pc K T):=by
  refine D.F.ok sc_pond_calls (fun vs H Q E h=>?_) (fun cdv A outer s H vs Q E hr h=>?_)
  · obtain ⟨_,_,_,_,_,_,_,_,rfl,_⟩:=h;rfl
  · obtain ⟨v,b,c,d,us,ps,ks,cs,rfl,hB,d0,hC,hpk,hD,hrg,tk,q⟩:=h
    have hul:us.length=ps.length:=by rw [d0.length,List.length_map]
    have O:=Ow.refl tk
    refine ⟨_,(pss_cons (ps_set (i:=4) sc_pond_calls.nd rfl (Or.inl rfl) (pe_callTy call_list_of rfl B.list PyProof.Rows.boot_list (pa_cons (pv 3) pa_nil)))
      (pss_cons (ps_for PassesOwn.never rfl (pi_zip rfl B.zip (pa_cons (pv 1) (pa_cons (pv 2) pa_nil))) (pg_tup rfl (pgs_cons (pg_name (i:=5) sc_pond_calls.nd rfl (Or.inl rfl)) (pgs_cons (pg_name (i:=6) sc_pond_calls.nd rfl (Or.inl rfl)) pgs_nil)))
        (pss_cons (ps_asg (pv 5) (pg_tup rfl (pgs_cons (pg_name (i:=7) sc_pond_calls.nd rfl (Or.inl rfl)) (pgs_cons (pg_name (i:=8) sc_pond_calls.nd rfl (Or.inl rfl)) (pgs_cons (pg_name (i:=9) sc_pond_calls.nd rfl (Or.inl rfl)) pgs_nil)))))
        (pss_one (ps_asg (pe_callB (call_min2 rfl) rfl B.min PyProof.Rows.boot_min (pa_cons (pe_ix ix_list (pv 3) (pv 7) (fun _ _=>rfl)) (pa_cons (pe_op op_sub (pv 8) (pv 6)) pa_nil))) (pg_sub (pv 4) (pv 7) set_list)))))
      (pss_one (ps_ret (pv 4))))),?_⟩
    refine sl_15 ?_
    intro zu0 zu1 zu2 zu3
    refine ⟨_,rfl,d,_,rfl,.inl hD,fun lm hlm=>?_⟩
    walk_at "nw"
    refine ⟨_,rfl,_,rfl,b,c,_,_,rfl,O.same.seq hB,O.same.seq hC,?_⟩
    refine for_zip (K:=K) (fun i σ H'=>Iv (∃ (v5 v6 v7 v8 v9:Option V),σ=[some v,some (.ref b),some (.ref c),some (.ref d),some (.ref lm),v5,v6,v7,v8,v9]∧Ow T H H' [(lm,.lst ((lessL cs ps ks i).map V.int))]))
      (by rw [List.length_map];omega) ⟨trivial,none,none,none,none,none,rfl,O⟩ (fun _ _ _ _ ⟨_,_,_,_,_,_,_,O⟩=>⟨O.same.seq hB,O.same.seq hC⟩) ?_ ?_
    · rintro i x y t' σ H3 hx hy ⟨-,v5,v6,v7,v8,v9,rfl,O⟩ ht'
      obtain ⟨ap,p,rfl,hp,hT⟩:=d0.mv_get hx
      obtain ⟨u,hu,rfl⟩:=ints_get hy
      have hr:=hrg p (List.mem_of_getElem? hp)
      walk_at "nw"
      refine ⟨t',_,rfl,O.sqT 0,rfl,_,_,rfl,_,_,rfl,rfl,?_⟩
      have O:=O.tail
      refine ⟨_,rfl,ap,_,rfl,hT.mo O.same,rfl,_,_,rfl,_,_,rfl,_,_,rfl,rfl,?_⟩
      refine ⟨_,rfl,_,rfl,d,_,_,_,rfl,rfl,O.same.seq hD,ints_atZ hr.1 hr.2,_,rfl,_,rfl,_,_,rfl,rfl,_,_,rfl,_,rfl,_,rfl,?_⟩
      refine ow_set O 0 rfl (ixN_Z hr.1 (by rw [List.length_map,lessL_len];exact hr.2)) fun H6 O=>?_
      refine ⟨trivial,_,_,_,_,_,rfl,?_⟩
      rw [lessL,getD_some hp,getD_some hu,List.map_set]
      have em:min (cs.getD p.1.toNat 0) (p.2.1 - u)=if p.2.1 - u<cs.getD p.1.toNat 0 then p.2.1 - u else cs.getD p.1.toNat 0:=by split <;> omega
      rw [em];exact O
    rintro σ H3 ⟨-,v5,v6,v7,v8,v9,rfl,O⟩
    rw [hul] at O
    exact ⟨_,rfl,O.ret 0 rfl q rfl⟩
abbrev s_evening:Stmt:=top 38
theorem sc_evening:FnScope ["ponds","kept","takes","after","lost","pond","keeps","number","room","leak","full","loss"] ["ponds","kept","takes"] (defScope s_evening):=⟨rfl,rfl,rfl,by decide +kernel,rfl,by decide +kernel,by decide +kernel⟩
def fullL (ps:List (Int × Int × Int)) (ks xs:List Int) (i:Nat):Int:=ks.getD i 0 + xs.getD (ps.getD i (0,0,0)).1.toNat 0
def lossL (ps:List (Int × Int × Int)) (ks xs:List Int) (i:Nat):Int:=fullL ps ks xs i * (ps.getD i (0,0,0)).2.2 / 1000
def sp_eve (K:PySem.W.Frag) (T:Tabs):Sp:=fun vs H Q _=>∃ (b c d:Addr) (us:List V) (ps:List (Int × Int × Int)) (ks xs:List Int),vs=[.ref b,.ref c,.ref d]∧SqL K H b us∧Dens K H us (ps.map dMv)∧ps.length≤1000∧SqL K H c (ks.map V.int)∧ps.length=ks.length∧SqL K H d (xs.map V.int)∧(∀ p∈ps,0≤p.1∧p.1<(xs.length:Int)∧0≤p.2.2∧p.2.2≤1000)∧TabsOk T H ∧
  ∀ (t la ll:Addr) (H':Hp),Ow T H H' [(t,.tup [.ref la,.ref ll]),(ll,.lst (((List.range ps.length).map (lossL ps ks xs)).map V.int)),(la,.lst (((List.range ps.length).map fun i=>fullL ps ks xs i - lossL ps ks xs i).map V.int))]→Q (.ref t) H'
theorem rng_snoc (f:Nat→Int) (i:Nat):((List.range (i + 1)).map f).map V.int=((List.range i).map f).map V.int++[V.int (f i)]:=by
  rw [List.range_succ,List.map_append,List.map_append];rfl
theorem ok_eve {f:Addr} {fd:FuncData} (D:Df K mg "evening" s_evening ["ponds","kept","takes"] f fd) (B:Blt mg) (hW:∃ t,mg "WHOLE"=some (.int 1000 t)):FnOk P w K mg base CX0 1 f fd ["ponds","kept","takes"] (sp_eve K T):=by
  obtain ⟨tW,hWHOLE⟩:=hW
  refine D.F.ok sc_evening (fun vs H Q E h=>?_) (fun cdv A outer s H vs Q E hr h=>?_)
  · obtain ⟨_,_,_,_,_,_,_,rfl,_⟩:=h;rfl
  · obtain ⟨b,c,d,us,ps,ks,xs,rfl,hB,d0,hpl,hC,hpk,hD,hrg,tk,q⟩:=h
    have hul:us.length=ps.length:=by rw [d0.length,List.length_map]
    have O:=Ow.refl tk
    refine ⟨_,(pss_cons (ps_set (i:=3) sc_evening.nd rfl (Or.inl rfl) (pe_lst pa_nil))
      (pss_cons (ps_set (i:=4) sc_evening.nd rfl (Or.inl rfl) (pe_lst pa_nil))
      (pss_cons (ps_for PassesOwn.never rfl (pi_zip rfl B.zip (pa_cons (pv 0) (pa_cons (pv 1) pa_nil))) (pg_tup rfl (pgs_cons (pg_name (i:=5) sc_evening.nd rfl (Or.inl rfl)) (pgs_cons (pg_name (i:=6) sc_evening.nd rfl (Or.inl rfl)) pgs_nil)))
        (pss_cons (ps_asg (pv 5) (pg_tup rfl (pgs_cons (pg_name (i:=7) sc_evening.nd rfl (Or.inl rfl)) (pgs_cons (pg_name (i:=8) sc_evening.nd rfl (Or.inl rfl)) (pgs_cons (pg_name (i:=9) sc_evening.nd rfl (Or.inl rfl)) pgs_nil)))))
        (pss_cons (ps_set (i:=10) sc_evening.nd rfl (Or.inl rfl) (pe_op op_add (pv 6) (pe_ix ix_list (pv 2) (pv 7) (fun _ _=>rfl))))
        (pss_cons (ps_set (i:=11) sc_evening.nd rfl (Or.inl rfl) (pe_op op_fdiv (pe_op op_mul (pv 10) (pv 9)) (pe_glob (v:=.int (1000)) rfl hWHOLE ⟨_,rfl⟩)))
        (pss_cons (ps_expr (pe_bm PySem.F.plainAttrs_list PySem.F.slot_list_append PySem.F.type_list_append mt_append (pv 3) (pa_cons (pe_op op_sub (pv 10) (pv 11)) pa_nil)))
        (pss_one (ps_expr (pe_bm PySem.F.plainAttrs_list PySem.F.slot_list_append PySem.F.type_list_append mt_append (pv 4) (pa_cons (pv 11) pa_nil)))))))))
      (pss_one (ps_ret (pe_tup (pa_cons (pv 3) (pa_cons (pv 4) pa_nil)))))))),?_⟩
    refine sl_16 ?_
    intro zu0 zu1 zu2 zu3 zu4 zu5 zu6 zu7
    refine ⟨szl,fun la hla=>?_⟩
    walk_at "nw"
    refine ⟨szl,fun ll hll=>?_⟩
    walk_at "nw"
    refine ⟨_,rfl,_,rfl,b,c,_,_,rfl,O.same.seq hB,O.same.seq hC,?_⟩
    refine for_zip (K:=K) (fun i σ H'=>Iv (∃ (v5 v6 v7 v8 v9 v10 v11:Option V),σ=[some (.ref b),some (.ref c),some (.ref d),some (.ref la),some (.ref ll),v5,v6,v7,v8,v9,v10,v11]∧Ow T H H' [(ll,.lst (((List.range i).map (lossL ps ks xs)).map V.int)),(la,.lst (((List.range i).map fun i=>fullL ps ks xs i - lossL ps ks xs i).map V.int))]))
      (by rw [List.length_map];omega) ⟨trivial,none,none,none,none,none,none,none,rfl,O⟩ (fun _ _ _ _ ⟨_,_,_,_,_,_,_,_,_,O⟩=>⟨O.same.seq hB,O.same.seq hC⟩) ?_ ?_
    · rintro i x y t' σ H3 hx hy ⟨-,v5,v6,v7,v8,v9,v10,v11,rfl,O⟩ ht'
      obtain ⟨ap,p,rfl,hp,hT⟩:=d0.mv_get hx
      obtain ⟨u,hu,rfl⟩:=ints_get hy
      have hi:=(List.getElem?_eq_some_iff.mp hp).1
      have hr:=hrg p (List.mem_of_getElem? hp)
      have e1:fullL ps ks xs i=u + xs.getD p.1.toNat 0:=by unfold fullL;rw [getD_some hp,getD_some hu]
      have e2:lossL ps ks xs i=(u + xs.getD p.1.toNat 0) * p.2.2 / 1000:=by unfold lossL;rw [e1,getD_some hp]
      walk_at "nw"
      refine ⟨t',_,rfl,O.sqT 0,rfl,_,_,rfl,_,_,rfl,rfl,?_⟩
      have O:=O.tail
      refine ⟨_,rfl,ap,_,rfl,hT.mo O.same,rfl,_,_,rfl,_,_,rfl,_,_,rfl,rfl,?_⟩
      refine ⟨_,rfl,_,rfl,_,rfl,d,_,_,_,rfl,rfl,O.same.seq hD,ints_atZ hr.1 hr.2.1,_,_,rfl,rfl,?_⟩
      refine ⟨_,rfl,_,rfl,_,_,rfl,rfl,.inr ⟨by omega,by omega⟩,_,_,rfl,rfl,⟨by decide,by decide⟩,?_⟩
      refine ⟨_,rfl,.inl ⟨rfl,_,O.sq 1⟩,_,rfl,_,rfl,_,_,rfl,rfl,la,_,_,rfl,rfl,O.get 1,small100' (by rw [List.length_map,List.length_map,List.length_range];omega),?_⟩
      walk_at "pt"
      refine ⟨_,rfl,.inl ⟨rfl,_,O.sq 0⟩,_,rfl,ll,_,_,rfl,rfl,O.get 0,small100' (by rw [List.length_map,List.length_map,List.length_range];omega),?_⟩
      walk_at "pt"
      refine ⟨trivial,_,_,_,_,_,_,_,rfl,?_⟩
      rw [rng_snoc,rng_snoc,e2,e1]
      exact O
    rintro σ H3 ⟨-,v5,v6,v7,v8,v9,v10,v11,rfl,O⟩
    rw [hul] at O
    refine ⟨_,rfl,_,rfl,szl,fun t ht=>?_⟩
    walk_at "nw"
    exact q t la ll _ O
abbrev s__law_nth:Stmt:=top 45
theorem sc__law_nth:FnScope ["script","k","cell"] ["script","k"] (defScope s__law_nth):=⟨rfl,rfl,rfl,by decide +kernel,rfl,by decide +kernel,by decide +kernel⟩
def sp_nth (K:PySem.W.Frag) (T:Tabs):Sp:=fun vs H Q _=>∃ (a:Addr) (ns:List Int) (k:Nat),vs=[.ref a,.int (k:Int)]∧SqL K H a (ns.map V.int)∧TabsOk T H∧∀ H',SameT T H H'→Q (.int (ns.getD k 0)) H'
theorem ok_nth {f:Addr} {fd:FuncData} (D:Df K mg "_law_nth" s__law_nth ["script","k"] f fd):FnOk P w K mg base CX0 1 f fd ["script","k"] (sp_nth K T):=by
  refine D.F.ok sc__law_nth (fun vs H Q E h=>?_) (fun cdv A outer s H vs Q E hr h=>?_)
  · obtain ⟨_,_,_,rfl,_⟩:=h;rfl
  · obtain ⟨a,ns,k,rfl,hS,tk,q⟩:=h
    refine ⟨_,(pss_cons (ps_for PassesOwn.never rfl (pi_list (pe_slice sl_list (pv 0) (po_some (pv 1)) (po_some (pe_op op_add (pv 1) pe_int)))) (pg_name (i:=2) sc__law_nth.nd rfl (Or.inl rfl))
        (pss_one (ps_ret (pv 2))))
      (pss_one (ps_ret pe_int))),?_⟩
    refine sl_17 ?_
    intro zu0 zu1
    have O:=Ow.refl tk
    refine ⟨_,rfl,_,rfl,(k:Int),rfl,_,rfl,_,_,rfl,rfl,_,rfl,a,_,rfl,hS,fun l hl=>?_⟩
    walk_at "nw"
    rw [show cutV (ns.map V.int) (some (k:Int)) (some ((k:Int) + 1))=((ns.drop k).take 1).map V.int from by have e:=cut_ns ns k (k + 1);rw [show k + 1 - k=1 by omega] at e;exact e] at O
    refine ⟨l,rfl,⟨_,O.sq 0⟩,?_⟩
    refine for_list (K:=K) (xs:=((ns.drop k).take 1).map V.int) (fun i σ H'=>Iv (i=0∧σ=[some (.ref a),some (.int (k:Int)),none]∧Ow T H H' [(l,.lst (((ns.drop k).take 1).map V.int))]))
      ⟨trivial,rfl,rfl,O⟩ (fun i σ H' _ ⟨_,_,_,O⟩=>O.sq 0) ?_ ?_
    · rintro i y σ H3 hy ⟨-,rfl,rfl,O⟩
      obtain ⟨z,hz,rfl⟩:=ints_get hy
      have e:ns.getD k 0=z:=by
        rw [List.getElem?_take,if_pos (by decide),List.getElem?_drop] at hz
        rw [List.getD_eq_getElem?_getD,show ns[k]?=some z from hz];rfl
      subst e
      exact ⟨_,rfl,q _ O.same⟩
    rintro σ H3 ⟨-,e0,rfl,O⟩
    have e:ns.getD k 0=0:=by
      rw [List.length_map,List.length_take,List.length_drop] at e0
      rw [List.getD_eq_getElem?_getD,List.getElem?_eq_none (by omega)];rfl
    have q':=q _ O.same
    rw [e] at q'
    exact q'
theorem kit_ii (K:PySem.W.Frag):PySem.W.kitOne K (.type "int") (.type "int")=some true:=by rfl
theorem kit_ib (K:PySem.W.Frag):PySem.W.kitOne K (.type "int") (.type "bool")=some false:=by rfl
theorem kit_ll (K:PySem.W.Frag):PySem.W.kitOne K (.type "list") (.type "list")=some true:=by rfl
abbrev s__law_draws:Stmt:=top 46
theorem sc__law_draws:FnScope ["cell","many","drawn","k","base"] ["cell","many"] (defScope s__law_draws):=⟨rfl,rfl,rfl,by decide +kernel,rfl,by decide +kernel,by decide +kernel⟩
def sp_dws (T:Tabs):Sp:=fun vs H Q _=>∃ (c m:Int),vs=[.int c,.int m]∧0≤m∧m≤1000∧TabsOk T H∧RetLT T H (fun xs=>∃ ys:List Int,xs=ys.map V.int∧ys.length=m.toNat∧∀ y∈ys,0≤y∧y<600011003) Q
theorem cube_b {b:Int} (h0:0≤b) (h1:b<2000000000):0≤b * b∧b * b<4000000000000000000:=⟨Int.mul_nonneg h0 h0,by
  have:b * b≤1999999999 * 1999999999:=Int.mul_le_mul (by omega) (by omega) h0 (by decide)
  omega⟩
theorem ok_dws {f:Addr} {fd:FuncData} (D:Df K mg "_law_draws" s__law_draws ["cell","many"] f fd) (B:Blt mg):FnOk P w K mg base CX0 1 f fd ["cell","many"] (sp_dws T):=by
  refine D.F.ok sc__law_draws (fun vs H Q E h=>?_) (fun cdv A outer s H vs Q E hr h=>?_)
  · obtain ⟨_,_,rfl,_⟩:=h;rfl
  · obtain ⟨c,m,rfl,h0,h1,tk,q⟩:=h
    refine ⟨_,(pss_cons (ps_set (i:=2) sc__law_draws.nd rfl (Or.inl rfl) (pe_lst pa_nil))
      (pss_cons (ps_for PassesOwn.never rfl (pi_range1 rfl B.range (pa_cons (pv 1) pa_nil)) (pg_name (i:=3) sc__law_draws.nd rfl (Or.inl rfl))
        (pss_cons (ps_set (i:=4) sc__law_draws.nd rfl (Or.inl rfl) (pe_op op_add (pe_op op_add (pe_op op_mod (pv 0) pe_int) (pe_op op_mul pe_int (pv 3))) pe_int))
        (pss_one (ps_expr (pe_bm PySem.F.plainAttrs_list PySem.F.slot_list_append PySem.F.type_list_append mt_append (pv 2) (pa_cons (pe_op op_mod (pe_op op_fdiv (pe_op op_mul (pe_op op_mul (pv 4) (pv 4)) (pv 4)) pe_int) pe_int) pa_nil))))))
      (pss_one (ps_ret (pv 2))))),?_⟩
    refine sl_15 ?_
    intro zu0 zu1 zu2 zu3
    have O:=Ow.refl tk
    have s0:=O.same
    refine ⟨szl,fun l hl=>?_⟩
    walk_at "nw"
    refine ⟨_,rfl,m,rfl,by omega,by omega,?_⟩
    refine for_range (fun i σ H'=>Iv (∃ (v3 v4:Option V) (ys:List Int),σ=[some (.int c),some (.int m),some (.ref l),v3,v4]∧ys.length=i∧(∀ y∈ys,0≤y∧y<600011003)∧Ow T H H' [(l,.lst (ys.map V.int))]))
      ⟨trivial,none,none,[],rfl,rfl,(fun y hy=>nomatch hy),O⟩ ?_ ?_
    · rintro i σ H3 hi ⟨-,v3,v4,ys,rfl,hyl,hyb,O⟩
      have c0:=Int.emod_nonneg c (show (777767777:Int)≠0 by decide)
      have c1:=Int.emod_lt_of_pos c (show (0:Int)<777767777 by decide)
      refine ⟨_,rfl,_,_,rfl,rfl,(by show (0:Int)<777767777;decide),_,rfl,_,_,rfl,rfl,.inl ⟨by decide,by decide⟩,_,_,rfl,rfl,_,_,rfl,rfl,?_⟩
      dsimp only
      have b0:0≤c % 777767777 + 1217 * (0 + (i:Int)) + 59:=by omega
      have b1:c % 777767777 + 1217 * (0 + (i:Int)) + 59<2000000000:=by omega
      generalize c % 777767777 + 1217 * (0 + (i:Int)) + 59=b at b0 b1
      have bb:=cube_b b0 b1
      refine ⟨_,rfl,.inl ⟨rfl,_,O.sq 0⟩,_,rfl,_,rfl,_,_,rfl,rfl,.inl ⟨by omega,by omega⟩,_,rfl,_,_,rfl,rfl,.inl ⟨by omega,by omega⟩,_,_,rfl,rfl,⟨by decide,by decide⟩,_,_,rfl,rfl,(by show (0:Int)<600011003;decide),l,_,_,rfl,rfl,O.get 0,small100' (by rw [List.length_map];omega),?_⟩
      walk_at "pt"
      rw [map_snoc] at O
      refine ⟨trivial,_,_,_,rfl,by rw [List.length_append,hyl];rfl,fun y hy=>?_,O⟩
      rcases List.mem_append.mp hy with e | e
      · exact hyb y e
      · have e2:y=b * b * b / 11 % 600011003:=by simpa using e
        rw [e2]
        exact ⟨Int.emod_nonneg _ (by decide),Int.emod_lt_of_pos _ (by decide)⟩
    rintro σ H3 ⟨-,v3,v4,ys,rfl,hyl,hyb,O⟩
    exact ⟨_,rfl,O.ret 0 rfl q ⟨ys,rfl,hyl,hyb⟩⟩
abbrev s__law_some:Stmt:=top 50
theorem sc__law_some:FnScope ["number","most"] ["number","most"] (defScope s__law_some):=⟨rfl,rfl,rfl,by decide +kernel,rfl,by decide +kernel,by decide +kernel⟩
def sp_som:Sp:=fun vs H Q _=>∃ (n m:Int),vs=[.int n,.int m]∧0≤m∧∀ z,0≤z→z≤m→Q (.int z) H
theorem emod_le {a b m:Int} (h0:0<b) (h1:b≤m + 1):0≤a % b∧a % b≤m:=by
  have:=Int.emod_nonneg a (show b≠0 by omega)
  have:=Int.emod_lt_of_pos a h0
  omega
theorem som_mod {Qp:Int→Prop} {a b m:Int} (q:∀ z,0≤z→z≤m→Qp z) (h0:0<b) (h1:b≤m + 1):Qp (a % b):=q _ (emod_le h0 h1).1 (emod_le h0 h1).2
theorem ok_som {f:Addr} {fd:FuncData} (D:Df K mg "_law_some" s__law_some ["number","most"] f fd) (B:Blt mg):FnOk P w K mg base CX0 1 f fd ["number","most"] sp_som:=by
  refine D.F.ok sc__law_some (fun vs H Q E h=>?_) (fun cdv A outer s H vs Q E hr h=>?_)
  · obtain ⟨_,_,rfl,_⟩:=h;rfl
  · obtain ⟨n,m,rfl,hm,q⟩:=h
    have O:=Ow.refl0 H
    have s0:=O.same
    refine ⟨_,(pss_cons (ps_if (pt_cmpR op_eq (pe_op op_mod (pv 0) pe_int) pe_int (nomark _))
        (pss_one (ps_ret pe_int))
        pss_nil)
      (pss_cons (ps_if (pt_cmpR op_eq (pe_op op_mod (pv 0) pe_int) pe_int (nomark _))
        (pss_one (ps_ret (pv 1)))
        pss_nil)
      (pss_one (ps_ret (pe_op op_mod (pe_op op_mul (pe_op op_fdiv (pv 0) pe_int) pe_int) (pe_op op_add (pv 1) pe_int)))))),?_⟩
    refine sl_18 ?_
    intro zu0 zu1 zu2 zu3
    have e5:(10:Int) ^ (5:Int).toNat=100000:=by decide
    walk_at "go"
    all_goals first
      | exact q _ (Int.le_refl _) hm
      | exact q _ hm (Int.le_refl _)
      | (refine som_mod (Qp:=fun z=>Q (.int z) H) q ?_ ?_ <;> omega)
      | (refine som_mod (Qp:=fun z=>Q (.int z) H) q ?_ ?_ <;> split <;> omega)
abbrev s_gives_back:Stmt:=top 18
theorem sc_gives_back:FnScope ["one"] ["one"] (defScope s_gives_back):=⟨rfl,rfl,rfl,by decide +kernel,rfl,by decide +kernel,by decide +kernel⟩
def sp_gb (K:PySem.W.Frag):Sp:=fun vs H Q _=>∃ (a:Addr) (l:Lic),vs=[.ref a]∧SqT K H a (vLic l)∧Q (.bl (!decide (l.back=-1))) H
theorem ok_gb {f:Addr} {fd:FuncData} (D:Df K mg "gives_back" s_gives_back ["one"] f fd) (C:Mth mg):FnOk P w K mg base CX0 1 f fd ["one"] (sp_gb K):=by
  obtain ⟨tM,hMOUTH⟩:=C.MOUTH
  refine D.F.ok sc_gives_back (fun vs H Q E h=>?_) (fun cdv A outer s H vs Q E hr h=>?_)
  · obtain ⟨_,_,rfl,_⟩:=h;rfl
  · obtain ⟨a,l,rfl,hT,q⟩:=h
    refine ⟨_,(pss_one (ps_ret (pe_cmpR op_ne (pe_ix ix_tup (pv 0) pe_int (fun _ _=>rfl)) (pe_glob (v:=.int (-1)) rfl hMOUTH ⟨_,rfl⟩) (nomark _)))),?_⟩
    rw [← deq_int] at q
    exact ⟨_,rfl,a,_,2,_,rfl,rfl,hT,rfl,rfl,q⟩
abbrev s_morning_of:Stmt:=top 40
theorem sc_morning_of:FnScope ["below","roll","ponds","kept","calls","lets","left"] ["below","roll","ponds","kept","calls","lets"] (defScope s_morning_of):=⟨rfl,rfl,rfl,by decide +kernel,rfl,by decide +kernel,by decide +kernel⟩
def sp_mor (K:PySem.W.Frag) (T:Tabs):Sp:=fun vs H Q _=>∃ (a b c d g e:Addr) (r ks cs:List Int) (rs us ts:List V) (ls:List Lic) (ps ms:List (Int × Int × Int)),vs=[.ref a,.ref b,.ref c,.ref d,.ref g,.ref e]∧SqL K H a (r.map V.int)∧Rv.River r∧r.length≤900∧SqL K H b rs∧Dens K H rs (ls.map dLic)∧SqL K H c us∧Dens K H us (ps.map dMv)∧SqL K H d (ks.map V.int)∧ks.length=ps.length∧SqL K H g (cs.map V.int)∧(∀ p∈ps,0≤p.1∧p.1<(cs.length:Int))∧SqL K H e ts∧Dens K H ts (ms.map dMv)∧(∀ (i:Nat) (m:Int × Int × Int),ms[i]?=some m→LetOk r ls ps (leftF ks (ms.take i)) m)∧TabsOk T H ∧
  ∀ (t la lb:Addr) (H':Hp),Ow T H H' [(t,.tup [.ref la,.ref lb]),(lb,.lst ((lessL cs ps (leftF ks ms) ps.length).map V.int)),(la,.lst ((leftF ks ms).map V.int))]→Q (.ref t) H'
theorem ok_mor {f f1 f2:Addr} {fd fd1 fd2:FuncData} (D:Df K mg "morning_of" s_morning_of ["below","roll","ponds","kept","calls","lets"] f fd) (B:Blt mg)
    (D_let_out:Df K mg "let_out" s_let_out ["below","roll","ponds","kept","lets"] f1 fd1) (G_let_out:FnOk P w K mg base CX0 4 f1 fd1 ["below","roll","ponds","kept","lets"] (sp_lo K T))
    (D_pond_calls:Df K mg "pond_calls" s_pond_calls ["roll","ponds","kept","calls"] f2 fd2) (G_pond_calls:FnOk P w K mg base CX0 1 f2 fd2 ["roll","ponds","kept","calls"] (sp_pc K T)):FnOk P w K mg base CX0 5 f fd ["below","roll","ponds","kept","calls","lets"] (sp_mor K T):=by
  refine D.F.ok sc_morning_of (fun vs H Q E h=>?_) (fun cdv A outer s H vs Q E hr h=>?_)
  · obtain ⟨_,_,_,_,_,_,_,_,_,_,_,_,_,_,_,rfl,_⟩:=h;rfl
  · obtain ⟨a,b,c,d,g,e,r,ks,cs,rs,us,ts,ls,ps,ms,rfl,hA,hR,r9,hB,d0,hC,d1,hD,hkl,hG,hrg,hE,d2,good,tk,q⟩:=h
    refine ⟨_,(pss_cons (ps_set (i:=6) sc_morning_of.nd rfl (Or.inl rfl) (pe_call G_let_out (hr.mono (by decide)) rfl D_let_out.m D_let_out.F.kp D_let_out.b .nil pass0 (pa_cons (pv 0) (pa_cons (pv 1) (pa_cons (pv 2) (pa_cons (pv 3) (pa_cons (pv 5) pa_nil)))))))
      (pss_one (ps_ret (pe_tup (pa_cons (pv 6) (pa_cons (pe_call G_pond_calls (hr.mono (by decide)) rfl D_pond_calls.m D_pond_calls.F.kp D_pond_calls.b .nil pass0 (pa_cons (pv 1) (pa_cons (pv 2) (pa_cons (pv 6) (pa_cons (pv 4) pa_nil))))) pa_nil)))))),?_⟩
    refine sl_4 ?_
    intro zu0
    have O:=Ow.refl tk
    refine ⟨_,rfl,_,rfl,_,rfl,_,rfl,_,rfl,a,b,c,d,e,r,ks,rs,us,ts,ls,ps,ms,rfl,hA,hR,r9,hB,d0,hC,d1,hD,hkl,hE,d2,good,tk,O.gotT fun l1 H1 ys O e1=>?_⟩
    subst e1
    refine ⟨_,rfl,_,rfl,_,rfl,_,rfl,_,rfl,.ref b,c,l1,g,us,ps,leftF ks ms,cs,rfl,O.same.seq hC,d1.mo O.same,O.sq 0,by rw [leftF_len];omega,O.same.seq hG,hrg,O.same.t1,O.gotT fun l2 H2 ys O e2=>?_⟩
    subst e2
    refine ⟨szl,fun t ht=>?_⟩
    walk_at "nw"
    exact q t l1 l2 _ O
abbrev s_moves_of:Stmt:=top 41
theorem sc_moves_of:FnScope ["roll","ponds","takes","lets","moves","one","take","day","start","back","most","place","reach","amount"] ["roll","ponds","takes","lets"] (defScope s_moves_of):=⟨rfl,rfl,rfl,by decide +kernel,rfl,by decide +kernel,by decide +kernel⟩
def stP (ls:List Lic) (ps:List (Int × Int × Int)) (n:Int):Int:=((ls[(ps.getD n.toNat (0,0,0)).1.toNat]?).map Lic.start).getD 0
def mvsR (ls:List Lic) (xs:List Int):List Rv.Mv:=(ls.zip xs).map fun p=>(p.1.start,p.1.back,p.2)
def mvLet (ls:List Lic) (ps:List (Int × Int × Int)) (m:Int × Int × Int):Rv.Mv:=(stP ls ps m.1,m.2.1,-m.2.2)
def mvsD (ls:List Lic) (ps:List (Int × Int × Int)) (xs:List Int) (ms:List (Int × Int × Int)):List Rv.Mv:=mvsR ls xs++ms.map (mvLet ls ps)
def LetAt (ls:List Lic) (ps:List (Int × Int × Int)) (m:Int × Int × Int):Prop:=0≤m.1∧∃ p l,ps[m.1.toNat]?=some p∧0≤p.1∧ls[p.1.toNat]?=some l
theorem stP_at {ls:List Lic} {ps:List (Int × Int × Int)} {n:Int} {p:Int × Int × Int} {l:Lic} (hp:ps[n.toNat]?=some p) (hl:ls[p.1.toNat]?=some l):stP ls ps n=l.start:=by
  unfold stP;rw [getD_some hp,hl];rfl
theorem zip_next {α β γ:Type} {as:List α} {bs:List β} {i:Nat} {x:α} {y:β} (g:α × β→γ) (hx:as[i]?=some x) (hy:bs[i]?=some y):((as.zip bs).take (i + 1)).map g=((as.zip bs).take i).map g++[g (x,y)]:=by
  have e:(as.zip bs)[i]?=some (x,y):=by rw [List.getElem?_zip_eq_some];exact ⟨hx,hy⟩
  rw [List.take_add_one,e,List.map_append];rfl
def sp_mvs (K:PySem.W.Frag) (T:Tabs):Sp:=fun vs H Q _=>∃ (b c d e:Addr) (xs:List Int) (rs us ts:List V) (ls:List Lic) (ps ms:List (Int × Int × Int)),vs=[.ref b,.ref c,.ref d,.ref e]∧SqL K H b rs∧Dens K H rs (ls.map dLic)∧ls.length≤100∧SqL K H c us∧Dens K H us (ps.map dMv)∧SqL K H d (xs.map V.int)∧xs.length=ls.length∧SqL K H e ts∧Dens K H ts (ms.map dMv)∧ms.length≤1000∧(∀ m∈ms,LetAt ls ps m)∧TabsOk T H ∧
  ∀ (l:Addr) (H1 H':Hp) (vs:List V),SameT T H H1→Ow T H1 H' [(l,.lst vs)]→Dens K H1 vs ((mvsD ls ps xs ms).map dMv)→Q (.ref l) H'
theorem ok_mvs {f f1:Addr} {fd fd1:FuncData} (D:Df K mg "moves_of" s_moves_of ["roll","ponds","takes","lets"] f fd) (B:Blt mg)
    (D_pond_start:Df K mg "pond_start" s_pond_start ["roll","pond"] f1 fd1) (G_pond_start:FnOk P w K mg base CX0 2 f1 fd1 ["roll","pond"] (sp_pst K)):FnOk P w K mg base CX0 3 f fd ["roll","ponds","takes","lets"] (sp_mvs K T):=by
  refine D.F.ok sc_moves_of (fun vs H Q E h=>?_) (fun cdv A outer s H vs Q E hr h=>?_)
  · obtain ⟨_,_,_,_,_,_,_,_,_,_,_,rfl,_⟩:=h;rfl
  · obtain ⟨b,c,d,e,xs,rs,us,ts,ls,ps,ms,rfl,hB,d0,hl1,hC,d1,hD,hxl,hE,d2,hm1,good,tk,q⟩:=h
    have hrl:rs.length=ls.length:=by rw [d0.length,List.length_map]
    have hul:us.length=ps.length:=by rw [d1.length,List.length_map]
    have htl:ts.length=ms.length:=by rw [d2.length,List.length_map]
    refine ⟨_,(pss_cons (ps_set (i:=4) sc_moves_of.nd rfl (Or.inl rfl) (pe_lst pa_nil))
      (pss_cons (ps_for PassesOwn.never rfl (pi_zip rfl B.zip (pa_cons (pv 0) (pa_cons (pv 2) pa_nil))) (pg_tup rfl (pgs_cons (pg_name (i:=5) sc_moves_of.nd rfl (Or.inl rfl)) (pgs_cons (pg_name (i:=6) sc_moves_of.nd rfl (Or.inl rfl)) pgs_nil)))
        (pss_cons (ps_asg (pv 5) (pg_tup rfl (pgs_cons (pg_name (i:=7) sc_moves_of.nd rfl (Or.inl rfl)) (pgs_cons (pg_name (i:=8) sc_moves_of.nd rfl (Or.inl rfl)) (pgs_cons (pg_name (i:=9) sc_moves_of.nd rfl (Or.inl rfl)) (pgs_cons (pg_name (i:=10) sc_moves_of.nd rfl (Or.inl rfl)) pgs_nil))))))
        (pss_one (ps_expr (pe_bm PySem.F.plainAttrs_list PySem.F.slot_list_append PySem.F.type_list_append mt_append (pv 4) (pa_cons (pe_tup (pa_cons (pv 8) (pa_cons (pv 9) (pa_cons (pv 6) pa_nil)))) pa_nil))))))
      (pss_cons (ps_for PassesOwn.never rfl (pi_list (pv 3)) (pg_tup rfl (pgs_cons (pg_name (i:=11) sc_moves_of.nd rfl (Or.inl rfl)) (pgs_cons (pg_name (i:=12) sc_moves_of.nd rfl (Or.inl rfl)) (pgs_cons (pg_name (i:=13) sc_moves_of.nd rfl (Or.inl rfl)) pgs_nil))))
        (pss_one (ps_expr (pe_bm PySem.F.plainAttrs_list PySem.F.slot_list_append PySem.F.type_list_append mt_append (pv 4) (pa_cons (pe_tup (pa_cons (pe_call G_pond_start (hr.mono (by decide)) rfl D_pond_start.m D_pond_start.F.kp D_pond_start.b .nil pass0 (pa_cons (pv 0) (pa_cons (pe_ix ix_list (pv 1) (pv 11) (fun _ _=>rfl)) pa_nil))) (pa_cons (pv 12) (pa_cons (pe_un un_neg (pv 13)) pa_nil)))) pa_nil)))))
      (pss_one (ps_ret (pv 4)))))),?_⟩
    refine sl_19 ?_
    intro zu0 zu1 zu2 zu3 zu4 zu5
    have O:=Ow.refl tk
    refine ⟨szl,fun lm hlm=>?_⟩
    walk_at "nw"
    refine ⟨_,rfl,_,rfl,b,d,_,_,rfl,O.same.seq hB,O.same.seq hD,?_⟩
    refine for_zip (K:=K) (fun i σ H'=>Iv (∃ (v5 v6 v7 v8 v9 v10:Option V) (Hb:Hp) (vs:List V),σ=[some (.ref b),some (.ref c),some (.ref d),some (.ref e),some (.ref lm),v5,v6,v7,v8,v9,v10,none,none,none]∧SameT T H Hb∧Dens K Hb vs (((ls.zip xs).take i).map fun p=>dMv (p.1.start,p.1.back,p.2))∧Ow T Hb H' [(lm,.lst vs)]))
      (by rw [List.length_map];omega) ⟨trivial,none,none,none,none,none,none,H,[],rfl,SameT.refl tk,.nil,O⟩ (fun _ _ _ _ ⟨_,_,_,_,_,_,_,_,_,_,sb,_,O⟩=>⟨(sb.trans O.same).seq hB,(sb.trans O.same).seq hD⟩) ?_ ?_
    · rintro i x y t' σ H3 hx hy ⟨-,v5,v6,v7,v8,v9,v10,Hb,vs,rfl,sb,dv,O⟩ ht'
      obtain ⟨al,l,rfl,hl,hT⟩:=d0.lic_get hx
      obtain ⟨u,hu,rfl⟩:=ints_get hy
      have hi:=(List.getElem?_eq_some_iff.mp hl).1
      have hvl:vs.length≤i:=by rw [dv.length,List.length_map,List.length_take];omega
      walk_at "nw"
      refine ⟨t',_,rfl,O.sqT 0,rfl,_,_,rfl,_,_,rfl,rfl,?_⟩
      have O:=O.tail
      refine ⟨_,rfl,al,_,rfl,(hT.mo sb).mo O.same,rfl,_,_,rfl,_,_,rfl,_,_,rfl,_,_,rfl,rfl,?_⟩
      refine ⟨_,rfl,.inl ⟨rfl,_,O.sq 0⟩,_,rfl,_,rfl,_,rfl,szl,fun t ht=>?_⟩
      walk_at "nw"
      refine ⟨lm,_,_,rfl,rfl,O.get 1,small100' (by omega),?_⟩
      walk_at "pt"
      obtain ⟨Hc,O,sc,en⟩:=O.frz
      refine ⟨trivial,_,_,_,_,_,_,Hc,vs++[.ref t],rfl,sb.trans sc,?_,O⟩
      rw [zip_next (fun p=>dMv (p.1.start,p.1.back,p.2)) hl hu]
      exact (dv.mo sc).append (.cons (Den.mv (m:=(l.start,l.back,u)) (SqT.of en)) .nil)
    rintro σ H3 ⟨-,v5,v6,v7,v8,v9,v10,Hb,vs,rfl,sb,dv,O⟩
    rw [List.take_of_length_le (by rw [List.length_zip];omega)] at dv
    have dv:Dens K Hb vs ((mvsD ls ps xs (ms.take 0)).map dMv):=by
      have e:(mvsD ls ps xs (ms.take 0)).map dMv=(ls.zip xs).map fun p=>dMv (p.1.start,p.1.back,p.2):=by
        unfold mvsD mvsR;rw [List.take_zero,List.map_nil,List.append_nil,List.map_map];rfl
      rw [e];exact dv
    refine ⟨_,rfl,e,rfl,⟨_,(sb.trans O.same).seq hE⟩,?_⟩
    refine for_list (K:=K) (xs:=ts) (fun i σ H'=>Iv (∃ (v11 v12 v13:Option V) (Hb:Hp) (vs:List V),σ=[some (.ref b),some (.ref c),some (.ref d),some (.ref e),some (.ref lm),v5,v6,v7,v8,v9,v10,v11,v12,v13]∧SameT T H Hb∧Dens K Hb vs ((mvsD ls ps xs (ms.take i)).map dMv)∧Ow T Hb H' [(lm,.lst vs)]))
      ⟨trivial,none,none,none,Hb,vs,rfl,sb,dv,O⟩ (fun _ _ _ _ ⟨_,_,_,_,_,_,_,sb,_,O⟩=>(sb.trans O.same).seq hE) ?_ ?_
    · rintro i y σ H4 hy ⟨-,v11,v12,v13,Hb,vs,rfl,sb,dv,O⟩
      obtain ⟨am,m,rfl,hm,hT⟩:=d2.mv_get hy
      have hi:=(List.getElem?_eq_some_iff.mp hm).1
      obtain ⟨m0,p,l,hp,p0,hl⟩:=good m (List.mem_of_getElem? hm)
      have hpl:=(List.getElem?_eq_some_iff.mp hp).1
      obtain ⟨ap,hap,hTp⟩:∃ ap,us[m.1.toNat]?=some (.ref ap)∧SqT K H ap [.int p.1,.int p.2.1,.int p.2.2]:=by
        obtain ⟨u,hu⟩:∃ u,us[m.1.toNat]?=some u:=⟨_,List.getElem?_eq_getElem (by omega)⟩
        obtain ⟨ap,p',rfl,hp',hT⟩:=d1.mv_get hu
        rw [hp] at hp'
        have:=Option.some.inj hp'
        subst this
        exact ⟨ap,hu,hT⟩
      have hix:atI us m.1=some (.ref ap):=by
        obtain ⟨n,hn⟩:=Int.eq_ofNat_of_zero_le m0
        rw [hn] at hap ⊢
        exact atI_nat hap
      have hvl:vs.length≤100 + i:=by
        rw [dv.length,List.length_map]
        unfold mvsD mvsR
        rw [List.length_append,List.length_map,List.length_map,List.length_take,List.length_zip];omega
      have sm:=sb.trans O.same
      refine ⟨am,_,rfl,hT.mo sm,rfl,_,_,rfl,_,_,rfl,_,_,rfl,rfl,?_⟩
      refine ⟨_,rfl,.inl ⟨rfl,_,O.sq 0⟩,_,rfl,_,rfl,_,rfl,c,_,_,_,rfl,rfl,sm.seq hC,hix,b,ap,rs,ls,p,l,rfl,sm.seq hB,d0.mo sm,hTp.mo sm,p0,hl,_,rfl,_,rfl,_,rfl,szl,fun t ht=>?_⟩
      walk_at "nw"
      refine ⟨lm,_,_,rfl,rfl,O.get 1,small100' (by omega),?_⟩
      walk_at "pt"
      obtain ⟨Hc,O,sc,en⟩:=O.frz
      refine ⟨trivial,_,_,_,Hc,vs++[.ref t],rfl,sb.trans sc,?_,O⟩
      have e:(mvsD ls ps xs (ms.take (i + 1))).map dMv=(mvsD ls ps xs (ms.take i)).map dMv++[dMv (l.start,m.2.1,-m.2.2)]:=by
        simp only [mvsD,List.take_add_one,hm,Option.toList_some,List.map_append,List.map_cons,List.map_nil,List.append_assoc,mvLet,stP_at hp hl]
      rw [e]
      exact (dv.mo sc).append (.cons (Den.mv (m:=(l.start,m.2.1,-m.2.2)) (SqT.of en)) .nil)
    rintro σ H4 ⟨-,v11,v12,v13,Hb,vs,rfl,sb,dv,O⟩
    rw [htl,List.take_length] at dv
    exact ⟨_,rfl,q lm Hb _ vs sb O dv⟩
abbrev s_used_of:Stmt:=top 42
theorem sc_used_of:FnScope ["roll","ponds","takes","lets","keepers","users"] ["roll","ponds","takes","lets"] (defScope s_used_of):=⟨rfl,rfl,rfl,by decide +kernel,rfl,by decide +kernel,by decide +kernel⟩
def usrL (ls:List Lic) (ps:List (Int × Int × Int)) (t:Nat):List Nat:=(List.range t).filter fun j=>decide ((ls[j]?.map Lic.back).getD 0=-1) && !decide ((j:Int)∈ps.map (·.1))
def uslL (ms:List (Int × Int × Int)):List Int:=(ms.filter fun m:Int × Int × Int=>!decide (m.2.1=-1)).map fun m=>m.2.2
theorem usl_next {ms:List (Int × Int × Int)} {i:Nat} {m:Int × Int × Int} (h:ms[i]?=some m):uslL (ms.take (i + 1))=uslL (ms.take i)++if m.2.1=-1 then [] else [m.2.2]:=by
  unfold uslL
  rw [List.take_add_one,h,Option.toList_some,List.filter_append,Tn.filter_one,List.map_append]
  by_cases e:m.2.1=-1
  · simp [e]
  · simp [e]
theorem usl_len (ms:List (Int × Int × Int)):(uslL ms).length≤ms.length:=by
  unfold uslL;rw [List.length_map];exact List.length_filter_le _ _
def usedL (ls:List Lic) (ps:List (Int × Int × Int)) (xs:List Int) (ms:List (Int × Int × Int)):Int:=((usrL ls ps ls.length).map fun j=>xs.getD j 0).sum + (uslL ms).sum
theorem usr_len (ls:List Lic) (ps:List (Int × Int × Int)) (t:Nat):(usrL ls ps t).length≤t:=by
  unfold usrL
  have:=List.length_filter_le (fun j:Nat=>decide ((ls[j]?.map Lic.back).getD 0=-1) && !decide ((j:Int)∈ps.map (·.1))) (List.range t)
  rw [List.length_range] at this;exact this
theorem usr_succ (ls:List Lic) (ps:List (Int × Int × Int)) (t:Nat):usrL ls ps (t + 1)=usrL ls ps t++if (decide ((ls[t]?.map Lic.back).getD 0=-1) && !decide ((t:Int)∈ps.map (·.1)))=true then [t] else []:=by
  unfold usrL
  rw [List.range_succ,List.filter_append,Tn.filter_one]
theorem usr_lt {ls:List Lic} {ps:List (Int × Int × Int)} {t j:Nat} (h:j∈usrL ls ps t):j<t:=List.mem_range.mp (List.mem_filter.mp h).1
def sp_used (K:PySem.W.Frag) (T:Tabs):Sp:=fun vs H Q _=>∃ (b c d e:Addr) (xs:List Int) (rs us ts:List V) (ls:List Lic) (ps ms:List (Int × Int × Int)),vs=[.ref b,.ref c,.ref d,.ref e]∧SqL K H b rs∧Dens K H rs (ls.map dLic)∧ls.length≤100∧SqL K H c us∧Dens K H us (ps.map dMv)∧ps.length≤1000∧SqL K H d (xs.map V.int)∧xs.length=ls.length∧SqL K H e ts∧Dens K H ts (ms.map dMv)∧ms.length≤1000∧TabsOk T H ∧
  ∀ H',SameT T H H'→Q (.int (usedL ls ps xs ms)) H'
theorem ok_used {f f1:Addr} {fd fd1:FuncData} (D:Df K mg "used_of" s_used_of ["roll","ponds","takes","lets"] f fd) (B:Blt mg) (C:Mth mg)
    (D_gives_back:Df K mg "gives_back" s_gives_back ["one"] f1 fd1) (G_gives_back:FnOk P w K mg base CX0 1 f1 fd1 ["one"] (sp_gb K)):FnOk P w K mg base CX0 2 f fd ["roll","ponds","takes","lets"] (sp_used K T):=by
  obtain ⟨tM,hMOUTH⟩:=C.MOUTH
  refine D.F.ok sc_used_of (fun vs H Q E h=>?_) (fun cdv A outer s H vs Q E hr h=>?_)
  · obtain ⟨_,_,_,_,_,_,_,_,_,_,_,rfl,_⟩:=h;rfl
  · obtain ⟨b,c,d,e,xs,rs,us,ts,ls,ps,ms,rfl,hB,d0,hl1,hC,d1,hp1,hD,hxl,hE,d2,hm1,tk,q⟩:=h
    have hrl:rs.length=ls.length:=by rw [d0.length,List.length_map]
    have hul:us.length=ps.length:=by rw [d1.length,List.length_map]
    have htl:ts.length=ms.length:=by rw [d2.length,List.length_map]
    refine ⟨_,(pss_cons (ps_set (i:=4) sc_used_of.nd rfl (Or.inr rfl) (pe_comp (defScope s_used_of) rfl ["roll","ponds","takes","lets","keepers","users"] rfl ["number","room","leak"] [none,none,none] (by decide +kernel) (by decide +kernel) (by decide +kernel) rfl (pi_list (pv 1)) (fun _ _ _=>(pg_tupK (K:=K) (n:=3) rfl rfl (pgs_cons (pg_name (i:=0) (show (["number","room","leak"]:List Str).Nodup by decide +kernel) rfl (Or.inl rfl)) (pgs_cons (pg_name (i:=1) (show (["number","room","leak"]:List Str).Nodup by decide +kernel) rfl (Or.inl rfl)) (pgs_cons (pg_name (i:=2) (show (["number","room","leak"]:List Str).Nodup by decide +kernel) rfl (Or.inl rfl)) pgs_nil))))) (fun _ _ _=>pts_nil) (fun _ _ _=>(pv 0))))
      (pss_cons (ps_setComp (i:=5) (defScope s_used_of) rfl ["roll","ponds","takes","lets","keepers","users"] rfl ["number","one","keepers"] [none,none,some 4] (by decide +kernel) (by decide +kernel) (by decide +kernel) rfl sc_used_of.nd rfl rfl (pi_enum rfl B.enumerate (pa_cons (pv 0) pa_nil)) (fun _ _ _=>(pg_tupK (K:=K) (n:=2) rfl rfl (pgs_cons (pg_name (i:=0) (show (["number","one","keepers"]:List Str).Nodup by decide +kernel) rfl (Or.inl rfl)) (pgs_cons (pg_name (i:=1) (show (["number","one","keepers"]:List Str).Nodup by decide +kernel) rfl (Or.inl rfl)) pgs_nil)))) (fun _ _ _=>(pts_one (PW.pt (pw_and (pt_not (pt_val (pe_call G_gives_back (hr.mono (by decide)) rfl D_gives_back.m D_gives_back.F.kp D_gives_back.b .nil pass0 (pa_cons (pv 1) pa_nil)))) (pw_and1 (pt_cmpR (op_notIn_seqK (K:=K) rfl) (pv 0) (pv 2) (by rfl))))))) (fun _ _ _=>(pv 0)) rfl)
      (pss_one (ps_ret (pe_op op_add (pe_callB (call_sum rfl) rfl B.sum PyProof.Rows.boot_sum (pa_cons (pe_comp (defScope s_used_of) rfl ["roll","ponds","takes","lets","keepers","users"] rfl ["number","takes"] [none,some 2] (by decide +kernel) (by decide +kernel) (by decide +kernel) rfl (pi_list (pv 5)) (fun _ _ _=>(pg_name (i:=0) (show (["number","takes"]:List Str).Nodup by decide +kernel) rfl (Or.inl rfl))) (fun _ _ _=>pts_nil) (fun _ _ _=>(pe_ix (ix_listK (K:=K) rfl) (pv 1) (pv 0) (fun _ _=>rfl)))) pa_nil)) (pe_callB (call_sum rfl) rfl B.sum PyProof.Rows.boot_sum (pa_cons (pe_comp (defScope s_used_of) rfl ["roll","ponds","takes","lets","keepers","users"] rfl ["place","reach","amount"] [none,none,none] (by decide +kernel) (by decide +kernel) (by decide +kernel) rfl (pi_list (pv 3)) (fun _ _ _=>(pg_tupK (K:=K) (n:=3) rfl rfl (pgs_cons (pg_name (i:=0) (show (["place","reach","amount"]:List Str).Nodup by decide +kernel) rfl (Or.inl rfl)) (pgs_cons (pg_name (i:=1) (show (["place","reach","amount"]:List Str).Nodup by decide +kernel) rfl (Or.inl rfl)) (pgs_cons (pg_name (i:=2) (show (["place","reach","amount"]:List Str).Nodup by decide +kernel) rfl (Or.inl rfl)) pgs_nil))))) (fun _ _ _=>(pts_one (pt_cmpR op_ne (pv 1) (pe_glob (v:=.int (-1)) rfl hMOUTH ⟨_,rfl⟩) (nomark _)))) (fun _ _ _=>(pv 2))) pa_nil))))))),?_⟩
    refine sl_6 ?_
    intro zu0 zu1
    have O:=Ow.refl tk
    refine ⟨_,rfl,c,rfl,⟨_,hC⟩,fun lk hlk=>?_⟩
    refine comp_list (K:=K) (xs:=us) (fun i τ H'=>Iv (∃ (v0 v1 v2:Option V),τ=[v0,v1,v2]∧Ow T H H' [(lk,.lst (((ps.take i).map (·.1)).map V.int))]))
      ⟨trivial,none,none,none,rfl,O.mk' hlk rfl⟩ (fun _ _ _ _ ⟨_,_,_,_,_,O⟩=>O.same.seq hC) ?_ ?_
    · rintro i y τ H3 hy ⟨-,v0,v1,v2,rfl,O⟩
      obtain ⟨ap,p,rfl,hp,hT⟩:=d1.mv_get hy
      have hi:=(List.getElem?_eq_some_iff.mp hp).1
      refine ⟨ap,_,rfl,hT.mo O.same,rfl,_,_,rfl,_,_,rfl,_,_,rfl,rfl,?_⟩
      refine yes2 ?_
      refine ⟨_,rfl,_,O.get 0,small100' (by rw [List.length_map,List.length_map,List.length_take];omega),?_⟩
      walk_at "pt"
      refine ⟨trivial,_,_,_,rfl,?_⟩
      rw [List.take_add_one,hp,List.map_append,List.map_append];exact O
    rintro τ H3 ⟨-,v0,v1,v2,rfl,O⟩
    rw [hul,List.take_length] at O
    refine ⟨_,rfl,b,_,rfl,O.same.seq hB,fun lu hlu=>?_⟩
    refine comp_enum (K:=K) (xs:=rs) (fun i τ H'=>Iv (∃ (v0 v1:Option V),τ=[v0,v1,some (.ref lk)]∧Ow T H H' [(lu,.lst ((Tn.asI (usrL ls ps i)).map V.int)),(lk,.lst ((ps.map (·.1)).map V.int))]))
      ⟨trivial,none,none,rfl,O.mk' hlu rfl⟩ (fun _ _ _ _ ⟨_,_,_,_,O⟩=>O.same.seq hB) ?_ ?_
    · rintro i y t' τ H4 hy ⟨-,v0,v1,rfl,O⟩ ht'
      obtain ⟨al,l,rfl,hl,hT⟩:=d0.lic_get hy
      have hi:=(List.getElem?_eq_some_iff.mp hl).1
      have hsu:=usr_succ ls ps i
      have hln:=usr_len ls ps i
      rw [hl] at hsu
      walk_at "nw"
      refine ⟨t',_,rfl,O.sqT 0,rfl,_,_,rfl,_,_,rfl,rfl,?_⟩
      have O:=O.tail
      refine ⟨_,rfl,al,l,rfl,hT.mo O.same,_,rfl,ifN (ifN (ifD (fun hc=>?_) fun hc=>?_))⟩
      · refine ⟨_,rfl,_,rfl,lk,_,rfl,.inl (O.sq 1),rfl,flat_ints _,_,rfl,?_⟩
        rw [if_pos rfl,in_ints]
        refine ifN (ifD (fun hm=>?_) fun hm=>?_)
        · refine ⟨trivial,_,_,rfl,?_⟩
          rw [hsu,if_neg (by simp [hm]),List.append_nil];exact O
        · refine ⟨_,rfl,_,O.get 0,small100' (by rw [List.length_map,Tn.ints_len];omega),?_⟩
          walk_at "pt"
          refine ⟨trivial,_,_,rfl,?_⟩
          rw [hsu,if_pos (by simp [hc,hm])]
          unfold Tn.asI at O ⊢
          rw [List.map_append,List.map_append];exact O
      · refine iteF ⟨trivial,_,_,rfl,?_⟩
        rw [hsu,if_neg (by simp [hc]),List.append_nil];exact O
    rintro τ H4 ⟨-,v0,v1,rfl,O⟩
    rw [hrl] at O
    /- the takes of the users -/
    refine ⟨_,rfl,lu,rfl,⟨_,O.sq 0⟩,fun l1 hl1'=>?_⟩
    refine comp_list (K:=K) (xs:=(Tn.asI (usrL ls ps ls.length)).map V.int) (fun i τ H'=>Iv (∃ (v0:Option V),τ=[v0,some (.ref d)]∧Ow T H H' [(l1,.lst ((((usrL ls ps ls.length).take i).map fun j=>xs.getD j 0).map V.int)),(lu,.lst ((Tn.asI (usrL ls ps ls.length)).map V.int)),(lk,.lst ((ps.map (·.1)).map V.int))]))
      ⟨trivial,none,rfl,O.mk' hl1' rfl⟩ (fun _ _ _ _ ⟨_,_,_,O⟩=>O.sq 1) ?_ ?_
    · rintro i y τ H5 hy ⟨-,v0,rfl,O⟩
      obtain ⟨z,hz,rfl⟩:=ints_get hy
      obtain ⟨j,hj,rfl⟩:=Tn.ints_some hz
      have hjl:=usr_lt (List.mem_of_getElem? hj)
      have hln:=usr_len ls ps ls.length
      have hi:=(List.getElem?_eq_some_iff.mp hj).1
      refine yesT ?_
      refine ⟨_,rfl,_,rfl,d,_,(j:Int),_,rfl,rfl,O.same.seq hD,ints_at (getD_get? (ns:=xs) (k:=j) (by omega)),?_⟩
      refine ⟨_,O.get 0,small100' (by rw [List.length_map,List.length_map,List.length_take];omega),?_⟩
      walk_at "pt"
      refine ⟨trivial,_,rfl,?_⟩
      rw [Tn.map_take_next hj,List.map_append];exact O
    rintro τ H5 ⟨-,v0,rfl,O⟩
    rw [List.length_map,Tn.ints_len,List.take_length] at O
    refine ⟨l1,_,rfl,O.sq 0,?_⟩
    /- the lets -/
    refine ⟨_,rfl,e,rfl,⟨_,O.same.seq hE⟩,fun l2 hl2=>?_⟩
    refine comp_list (K:=K) (xs:=ts) (fun i τ H'=>Iv (∃ (v0 v1 v2:Option V),τ=[v0,v1,v2]∧Ow T H H' [(l2,.lst ((uslL (ms.take i)).map V.int)),(l1,.lst (((usrL ls ps ls.length).map fun j=>xs.getD j 0).map V.int))]))
      ⟨trivial,none,none,none,rfl,O.two.two.mk' hl2 rfl⟩ (fun _ _ _ _ ⟨_,_,_,_,_,O⟩=>O.same.seq hE) ?_ ?_
    · rintro i y τ H6 hy ⟨-,v0,v1,v2,rfl,O⟩
      obtain ⟨am,m,rfl,hm,hT⟩:=d2.mv_get hy
      have hi:=(List.getElem?_eq_some_iff.mp hm).1
      have hfl:=usl_len (ms.take i)
      rw [List.length_take] at hfl
      have hnx:=usl_next hm
      refine ⟨am,_,rfl,hT.mo O.same,rfl,_,_,rfl,_,_,rfl,_,_,rfl,rfl,?_⟩
      refine ⟨_,rfl,rfl,_,rfl,ifN (ifI (fun hc=>?_) fun hc=>?_)⟩
      · refine ⟨trivial,_,_,_,rfl,?_⟩
        rw [hnx,if_pos hc,List.append_nil];exact O
      · refine ⟨_,rfl,_,O.get 0,small100' (by rw [List.length_map];omega),?_⟩
        walk_at "pt"
        refine ⟨trivial,_,_,_,rfl,?_⟩
        rw [hnx,if_neg hc,List.map_append];exact O
    rintro τ H6 ⟨-,v0,v1,v2,rfl,O⟩
    rw [htl,List.take_length] at O
    refine ⟨l2,_,rfl,O.sq 0,_,_,rfl,rfl,?_⟩
    exact q _ O.same
abbrev s_mouths_of:Stmt:=top 9
theorem sc_mouths_of:FnScope ["below"] ["below"] (defScope s_mouths_of):=⟨rfl,rfl,rfl,by decide +kernel,rfl,by decide +kernel,by decide +kernel⟩
def sp_mouths (K:PySem.W.Frag) (T:Tabs):Sp:=fun vs H Q _=>∃ (a:Addr) (r:List Int),vs=[.ref a]∧SqL K H a (r.map V.int)∧r.length<64∧TabsOk T H∧RetLT T H (fun xs=>xs=(Rv.mths r r.length).map V.int) Q
theorem ok_mouths {f:Addr} {fd:FuncData} {T:Tabs} (D:Df K mg "mouths_of" s_mouths_of ["below"] f fd) (B:Blt mg) (C:Mth mg):FnOk P w K mg base CX0 1 f fd ["below"] (sp_mouths K T):=by
  obtain ⟨tM,hMOUTH⟩:=C.MOUTH
  refine D.F.ok sc_mouths_of (fun vs H Q E h=>?_) (fun cdv A outer s H vs Q E hr h=>?_)
  · obtain ⟨a,r,rfl,_⟩:=h;rfl
  · obtain ⟨a,r,rfl,hS,h64,tk,q⟩:=h
    refine ⟨_,(pss_one (ps_ret (pe_comp (defScope s_mouths_of) rfl ["below"] rfl ["reach","below"] [none,some 0] (by decide +kernel) (by decide +kernel) (by decide +kernel) rfl (pi_range1 rfl B.range (pa_cons (pe_callB call_len_seq rfl B.len PySem.boot_len (pa_cons (pv 0) pa_nil)) pa_nil)) (fun _ _ _=>(pg_name (i:=0) (show (["reach","below"]:List Str).Nodup by decide +kernel) rfl (Or.inl rfl))) (fun _ _ _=>(pts_one (pt_cmpR op_eq (pe_ix (ix_listK (K:=K) rfl) (pv 1) (pv 0) (fun _ _=>rfl)) (pe_glob (v:=.int (-1)) rfl hMOUTH ⟨_,rfl⟩) (nomark _)))) (fun _ _ _=>(pv 0))))),?_⟩
    have O:=Ow.refl tk
    have hml:(r.map V.int).length=r.length:=List.length_map _
    refine ⟨_,rfl,a,_,rfl,.inl hS,_,rfl,by rw [hml];omega,by rw [hml];omega,fun acc hacc=>?_⟩
    rw [hml,Int.toNat_natCast]
    refine comp_range (n:=r.length) (fun i τ H2=>∃ v,τ=[v,some (.ref a)]∧Ow T H H2 [(acc,.lst ((Rv.mths r i).map V.int))]) ⟨none,rfl,O.mk' hacc rfl⟩ ?_ ?_
    · rintro i τ H2 hi ⟨v,rfl,O⟩
      rw [show (0:Int) + (i:Int)=(i:Int) by omega]
      have g:=Rv.get_nxt (r:=r) (p:=(i:Int)) (by omega) (by omega)
      have ol:=Rv.mths_len r i
      refine ⟨_,rfl,_,rfl,a,_,_,_,rfl,rfl,O.same.seq hS,ints_atI (by omega) g,rfl,_,rfl,?_⟩
      by_cases hm:Rv.nxt r (i:Int)=-1
      · rw [hm]
        refine iteT ?_
        refine ⟨_,rfl,_,O.get 0,small100' (by rw [List.length_map];omega),?_⟩
        walk_at "put";intro H4 O
        exact ⟨_,rfl,by rw [Rv.mths_succ,if_pos hm,List.map_append];exact O⟩
      · have hd:decide (V.int (Rv.nxt r (i:Int))=V.int (-1))=false:=by simp [hm]
        rw [hd]
        refine iteF ?_
        exact ⟨_,rfl,by rw [Rv.mths_succ,if_neg hm,List.append_nil];exact O⟩
    rintro τ H2 ⟨v,rfl,O⟩
    exact O.ret 0 rfl q rfl
abbrev s_flows_of:Stmt:=top 13
theorem sc_flows_of:FnScope ["below","springs","moves","flows","start","stop","amount","reach"] ["below","springs","moves"] (defScope s_flows_of):=⟨rfl,rfl,rfl,by decide +kernel,rfl,by decide +kernel,by decide +kernel⟩
def sp_flows (K:PySem.W.Frag) (T:Tabs):Sp:=fun vs H Q _=>∃ (a b c:Addr) (r s:List Int) (ms:List Rv.Mv),vs=[.ref a,.ref b,.ref c]∧rvIn K H a r∧SqL K H b (s.map V.int)∧s.length=r.length∧Den K H (.ref c) (dMvs ms)∧(∀ m∈ms,Rv.GoodM r m)∧TabsOk T H ∧
  RetLT T H (fun xs=>xs=(Rv.flws r s ms).map V.int) Q
theorem ok_flows {f fN fS:Addr} {fd fdN fdS:FuncData} {T:Tabs} (D:Df K mg "flows_of" s_flows_of ["below","springs","moves"] f fd)
    (D_natural_of:Df K mg "natural_of" s_natural_of ["below","springs"] fN fdN) (G_natural_of:FnOk P w K mg base CX0 6 fN fdN ["below","springs"] (sp_nat K T))
    (D_stretch_of:Df K mg "stretch_of" s_stretch_of ["below","start","stop"] fS fdS) (G_stretch_of:FnOk P w K mg base CX0 2 fS fdS ["below","start","stop"] (sp_strch K)):FnOk P w K mg base CX0 7 f fd ["below","springs","moves"] (sp_flows K T):=by
  refine D.F.ok sc_flows_of (fun vs H Q E h=>?_) (fun cdv A outer s H vs Q E hr h=>?_)
  · obtain ⟨a,b,c,r,s,ms,rfl,_⟩:=h;rfl
  · obtain ⟨a,b,c,r,sp,ms,rfl,⟨hS,hR,h64⟩,hB,hl,hM,good,tk,q⟩:=h
    refine ⟨_,(pss_cons (ps_set (i:=3) sc_flows_of.nd rfl (Or.inl rfl) (pe_call G_natural_of (hr.mono (by decide)) rfl D_natural_of.m D_natural_of.F.kp D_natural_of.b .nil pass0 (pa_cons (pv 0) (pa_cons (pv 1) pa_nil))))
      (pss_cons (ps_for PassesOwn.never rfl (pi_list (pv 2)) (pg_tup rfl (pgs_cons (pg_name (i:=4) sc_flows_of.nd rfl (Or.inl rfl)) (pgs_cons (pg_name (i:=5) sc_flows_of.nd rfl (Or.inl rfl)) (pgs_cons (pg_name (i:=6) sc_flows_of.nd rfl (Or.inl rfl)) pgs_nil))))
        (pss_one (ps_for PassesOwn.never rfl (pi_list (pe_call G_stretch_of (hr.mono (by decide)) rfl D_stretch_of.m D_stretch_of.F.kp D_stretch_of.b .nil pass0 (pa_cons (pv 0) (pa_cons (pv 4) (pa_cons (pv 5) pa_nil))))) (pg_name (i:=7) sc_flows_of.nd rfl (Or.inl rfl))
          (pss_one (ps_augS (pv 3) (pv 7) get_list (pv 6) ip_sub set_list)))))
      (pss_one (ps_ret (pv 3))))),?_⟩
    refine sl_5 ?_
    intro zu0 zu1 zu2 zu3
    obtain ⟨c',xs,ec,hq,hds⟩:=hM.mvs_inv
    cases ec
    have hxl:xs.length=ms.length:=by rw [hds.length,List.length_map]
    have O:=Ow.refl tk
    refine ⟨_,rfl,_,rfl,a,b,r,sp,rfl,⟨hS,hR,h64⟩,hB,hl,tk,O.gotT fun lf H1 fs O e1=>?_⟩
    subst e1
    refine ⟨_,rfl,c,rfl,⟨_,O.same.seq hq⟩,?_⟩
    refine for_list (K:=K) (a:=c) (xs:=xs) (fun t σ H2=>∃ (v4 v5 v6 v7:Option V) (fl:List Int),σ=[some (.ref a),some (.ref b),some (.ref c),some (.ref lf),v4,v5,v6,v7]∧Ow T H H2 [(lf,.lst (fl.map V.int))]∧Rv.Fl r.length fl fun i=>Rv.natf r sp (i:Int) - Rv.msum r (ms.take t) (i:Int))
      ⟨none,none,none,none,_,rfl,O,(Rv.nats_fl r sp).cong fun i _=>by show _=_ - (0:Int);omega⟩ (fun _ _ _ _ ⟨_,_,_,_,_,_,O,_⟩=>O.same.seq hq) ?_ ?_
    · rintro t y σ H2 hy ⟨v4,v5,v6,v7,fl,rfl,O,FL⟩
      obtain ⟨d,hd,hden⟩:=hds.get' hy
      rw [List.getElem?_map] at hd
      obtain ⟨m,hm,rfl⟩:∃ m,ms[t]?=some m∧d=dMv m:=by
        cases e:ms[t]? with
        | none=>rw [e] at hd;cases hd
        | some m=>rw [e] at hd;exact ⟨m,rfl,(Option.some.inj hd).symm⟩
      obtain ⟨ta,rfl,ht⟩:=hden.mv_inv
      obtain ⟨g0,g1,g2⟩:=good m (List.mem_of_getElem? hm)
      refine ⟨ta,_,rfl,O.same.seqT ht,rfl,_,_,rfl,_,_,rfl,_,_,rfl,rfl,?_⟩
      refine ⟨_,rfl,_,rfl,_,rfl,a,r,m.1,m.2.1,rfl,O.same.seq hS,hR,g0,g1,by omega,g2,O.got fun ls H3 zs O e3=>?_⟩
      subst e3
      refine ⟨ls,rfl,⟨_,O.sq 0⟩,?_⟩
      refine for_list (K:=K) (a:=ls) (xs:=(Rv.strch r m.1 m.2.1).map V.int) (fun i σ H4=>∃ (v7:Option V) (fl:List Int),σ=[some (.ref a),some (.ref b),some (.ref c),some (.ref lf),some (.int m.1),some (.int m.2.1),some (.int m.2.2),v7] ∧
        Ow T H H4 [(ls,.lst ((Rv.strch r m.1 m.2.1).map V.int)),(lf,.lst (fl.map V.int))]∧Rv.MvI r (fun i=>Rv.natf r sp (i:Int) - Rv.msum r (ms.take t) (i:Int)) m.2.2 ((Rv.strch r m.1 m.2.1).take i) fl)
        ⟨v7,fl,rfl,O,Rv.MvI.start _ FL⟩ (fun _ _ _ _ ⟨_,_,_,O,_⟩=>O.sq 0) ?_ ?_
      · rintro i y σ H4 hy ⟨v7,fl,rfl,O,MI⟩
        obtain ⟨z,hz,rfl⟩:=ints_get hy
        obtain ⟨z0,z1⟩:=Rv.walk_mem hR m.1 g0 g1 z (Rv.strch_sub (List.mem_of_getElem? hz))
        obtain ⟨zn,rfl⟩:=Int.eq_ofNat_of_zero_le z0
        have hzl:zn<r.length:=by omega
        obtain ⟨x,hx⟩:∃ x,fl[zn]?=some x:=⟨_,MI.at_ zn hzl⟩
        have nd:=Rv.strch_nd hR g0 g1 (b:=m.2.1)
        have nm:¬ ((zn:Nat):Int)∈(Rv.strch r m.1 m.2.1).take i:=fun hmm=>by
          obtain ⟨h1,h2⟩:=List.getElem?_eq_some_iff.mp hz
          obtain ⟨j,hj,ej⟩:=List.getElem_of_mem hmm
          rw [List.getElem_take] at ej
          rw [List.length_take] at hj
          have:=(List.getElem_inj nd).mp (ej.trans h2.symm)
          omega
        refine ⟨_,rfl,_,rfl,lf,_,zn,V.int x,rfl,rfl,O.sq 1,by rw [List.getElem?_map,hx];rfl,_,rfl,_,_,rfl,rfl,?_⟩
        refine ow_set O 1 rfl (ixN_nat (by rw [List.length_map,MI.len];exact hzl)) fun H5 O=>?_
        refine ⟨_,fl.set zn (x - m.2.2),rfl,?_,?_⟩
        · rw [List.map_set];exact O
        · rw [List.take_add_one,hz]
          exact MI.turn hzl nm hx
      · rintro σ H4 ⟨v7,fl,rfl,O,MI⟩
        rw [List.length_map,List.take_length] at MI
        refine ⟨_,_,_,_,fl,rfl,O.tail,?_⟩
        have e:ms.take (t + 1)=ms.take t++[m]:=by rw [List.take_add_one,hm];rfl
        rw [e]
        exact MI.done
    · rintro σ H2 ⟨v4,v5,v6,v7,fl,rfl,O,FL⟩
      rw [hxl,List.take_length] at FL
      exact ⟨_,rfl,O.ret 0 rfl q (by rw [Rv.Fl.ext FL (Rv.flws_fl r sp ms)])⟩
abbrev s_day_of:Stmt:=top 43
theorem sc_day_of:FnScope ["below","springs","roll","ponds","kept","calls","lets","left","dealt_by","takes","after","lost","flows","out","sheet"] ["below","springs","roll","ponds","kept","calls","lets"] (defScope s_day_of):=⟨rfl,rfl,rfl,by decide +kernel,rfl,by decide +kernel,by decide +kernel⟩
def aftL (ps:List (Int × Int × Int)) (ks xs:List Int):List Int:=(List.range ps.length).map fun i=>fullL ps ks xs i - lossL ps ks xs i
def losL (ps:List (Int × Int × Int)) (ks xs:List Int):List Int:=(List.range ps.length).map (lossL ps ks xs)
def outL (r fl:List Int):Int:=((Rv.mths r r.length).map fun i=>fl.getD i.toNat 0).sum
structure DIn (K:PySem.W.Frag) (H:Hp) (r s:List Int) (rs us ts:List V) (ls:List Lic) (ps ms:List (Int × Int × Int)) (ks cs:List Int) (a b c d e g h:Addr):Prop where
  A:SqL K H a (r.map V.int)
  S:SqL K H b (s.map V.int)
  R:SqL K H c rs
  dR:Dens K H rs (ls.map dLic)
  P:SqL K H d us
  dP:Dens K H us (ps.map dMv)
  Kp:SqL K H e (ks.map V.int)
  C:SqL K H g (cs.map V.int)
  L:SqL K H h ts
  dL:Dens K H ts (ms.map dMv)
structure DOk (r s:List Int) (ls:List Lic) (ps ms:List (Int × Int × Int)) (ks cs:List Int):Prop where
  riv:Rv.River r
  r64:r.length<64
  sl:s.length=r.length
  sn:∀ x∈s,0≤x
  l64:ls.length<64
  lok:∀ l∈ls,LicOk2 r l
  kl:ks.length=ps.length
  p1:ps.length≤1000
  pok:∀ p∈ps,0≤p.1∧p.1<(ls.length:Int)∧0≤p.2.2∧p.2.2≤1000
  cl:ls.length=cs.length
  m1:ms.length≤1000
  good:∀ (i:Nat) (m:Int × Int × Int),ms[i]?=some m→LetOk r ls ps (leftF ks (ms.take i)) m
  bn:∀ c∈lessL cs ps (leftF ks ms) ps.length,0≤c
theorem DIn.mo {T:Tabs} {K:PySem.W.Frag} {H H':Hp} {r s:List Int} {rs us ts:List V} {ls:List Lic} {ps ms:List (Int × Int × Int)} {ks cs:List Int} {a b c d e g h:Addr} (I:DIn K H r s rs us ts ls ps ms ks cs a b c d e g h) (m:SameT T H H'):DIn K H' r s rs us ts ls ps ms ks cs a b c d e g h :=
  ⟨m.seq I.A,m.seq I.S,m.seq I.R,I.dR.mo m,m.seq I.P,I.dP.mo m,m.seq I.Kp,m.seq I.C,m.seq I.L,I.dL.mo m⟩
def shtL (r s:List Int) (ls:List Lic) (ps ms:List (Int × Int × Int)) (ks xs:List Int):List Int :=
  [s.sum,ks.sum,usedL ls ps xs ms,(aftL ps (leftF ks ms) xs).sum,(losL ps (leftF ks ms) xs).sum,outL r (Rv.flws r s (mvsD ls ps xs ms))]
theorem DOk.letAt {r s:List Int} {ls:List Lic} {ps ms:List (Int × Int × Int)} {ks cs:List Int} (h:DOk r s ls ps ms ks cs):∀ m∈ms,LetAt ls ps m:=fun m hm=>by
  obtain ⟨i,hi⟩:=List.getElem?_of_mem hm
  have g:=h.good i m hi
  obtain ⟨p,l,hp,p0,hl,_⟩:=g.pd
  exact ⟨g.at0,p,l,hp,p0,hl⟩
theorem DOk.moves {r s:List Int} {ls:List Lic} {ps ms:List (Int × Int × Int)} {ks cs xs:List Int} (h:DOk r s ls ps ms ks cs):∀ m∈mvsD ls ps xs ms,Rv.GoodM r m:=fun m hm=>by
  rcases List.mem_append.mp hm with e | e
  · obtain ⟨p,hp,rfl⟩:=List.mem_map.mp e
    obtain ⟨h0,h1,h2⟩:=(h.lok p.1 (List.of_mem_zip hp).1).1
    exact ⟨h0,h1,h2⟩
  · obtain ⟨z,hz,rfl⟩:=List.mem_map.mp e
    obtain ⟨i,hi⟩:=List.getElem?_of_mem hz
    have g:=h.good i z hi
    obtain ⟨p,l,hp,p0,hl,l0,l1,hin⟩:=g.pd
    unfold mvLet;rw [stP_at hp hl]
    exact ⟨l0,l1,hin⟩
theorem mths_rg {r:List Int} {z:Int} (h:z∈Rv.mths r r.length):0≤z∧z<(r.length:Int):=by
  unfold Rv.mths at h
  obtain ⟨j,hj,rfl⟩:=List.mem_map.mp h
  have:=List.mem_range.mp (List.mem_filter.mp hj).1
  omega
theorem map_next {α β:Type} {l:List α} {i:Nat} {x:α} (g:α→β) (h:l[i]?=some x):(l.take (i + 1)).map g=(l.take i).map g++[g x]:=by
  rw [List.take_add_one,h,List.map_append];rfl
def sp_dayof (K:PySem.W.Frag) (T:Tabs):Sp:=fun vs H Q _=>∃ (a b c d e g h:Addr) (r s:List Int) (rs us ts:List V) (ls:List Lic) (ps ms:List (Int × Int × Int)) (ks cs:List Int),vs=[.ref a,.ref b,.ref c,.ref d,.ref e,.ref g,.ref h]∧DIn K H r s rs us ts ls ps ms ks cs a b c d e g h∧DOk r s ls ps ms ks cs∧TabsOk T H ∧
  ∀ (t lt la lf lh:Addr) (H':Hp) (xs:List Int),Ow T H H' [(t,.tup [.ref lt,.ref la,.ref lf,.ref lh]),(lh,.tup ((shtL r s ls ps ms ks xs).map V.int)),(lf,.lst ((Rv.flws r s (mvsD ls ps xs ms)).map V.int)),(la,.lst ((aftL ps (leftF ks ms) xs).map V.int)),(lt,.lst (xs.map V.int))]→Dealt r s ls (lessL cs ps (leftF ks ms) ps.length) xs→Q (.ref t) H'
theorem ok_dayof {f f1 f2 f3 f4 f5 f6 f7:Addr} {fd fd1 fd2 fd3 fd4 fd5 fd6 fd7:FuncData} (D:Df K mg "day_of" s_day_of ["below","springs","roll","ponds","kept","calls","lets"] f fd) (B:Blt mg)
    (D_morning_of:Df K mg "morning_of" s_morning_of ["below","roll","ponds","kept","calls","lets"] f1 fd1) (G_morning_of:FnOk P w K mg base CX0 5 f1 fd1 ["below","roll","ponds","kept","calls","lets"] (sp_mor K T))
    (D_deal:Df K mg "deal" s_deal ["below","springs","roll","calls"] f2 fd2) (G_deal:FnOk P w K mg base CX0 7 f2 fd2 ["below","springs","roll","calls"] (sp_deal K T))
    (D_evening:Df K mg "evening" s_evening ["ponds","kept","takes"] f3 fd3) (G_evening:FnOk P w K mg base CX0 1 f3 fd3 ["ponds","kept","takes"] (sp_eve K T))
    (D_flows_of:Df K mg "flows_of" s_flows_of ["below","springs","moves"] f4 fd4) (G_flows_of:FnOk P w K mg base CX0 7 f4 fd4 ["below","springs","moves"] (sp_flows K T))
    (D_moves_of:Df K mg "moves_of" s_moves_of ["roll","ponds","takes","lets"] f5 fd5) (G_moves_of:FnOk P w K mg base CX0 3 f5 fd5 ["roll","ponds","takes","lets"] (sp_mvs K T))
    (D_mouths_of:Df K mg "mouths_of" s_mouths_of ["below"] f6 fd6) (G_mouths_of:FnOk P w K mg base CX0 1 f6 fd6 ["below"] (sp_mouths K T))
    (D_used_of:Df K mg "used_of" s_used_of ["roll","ponds","takes","lets"] f7 fd7) (G_used_of:FnOk P w K mg base CX0 2 f7 fd7 ["roll","ponds","takes","lets"] (sp_used K T)) :
    FnOk P w K mg base CX0 8 f fd ["below","springs","roll","ponds","kept","calls","lets"] (sp_dayof K T):=by
  refine D.F.ok sc_day_of (fun vs H Q E h=>?_) (fun cdv A outer s H vs Q E hr h=>?_)
  · obtain ⟨_,_,_,_,_,_,_,_,_,_,_,_,_,_,_,_,_,rfl,_⟩:=h;rfl
  · obtain ⟨a,b,c,d,e,g,h,r,sp,rs,us,ts,ls,ps,ms,ks,cs,rfl,I,ok,tk,q⟩:=h
    refine ⟨_,(pss_cons (ps_asg (pe_call G_morning_of (hr.mono (by decide)) rfl D_morning_of.m D_morning_of.F.kp D_morning_of.b .nil pass0 (pa_cons (pv 0) (pa_cons (pv 2) (pa_cons (pv 3) (pa_cons (pv 4) (pa_cons (pv 5) (pa_cons (pv 6) pa_nil))))))) (pg_tup rfl (pgs_cons (pg_name (i:=7) sc_day_of.nd rfl (Or.inl rfl)) (pgs_cons (pg_name (i:=8) sc_day_of.nd rfl (Or.inl rfl)) pgs_nil))))
      (pss_cons (ps_set (i:=9) sc_day_of.nd rfl (Or.inl rfl) (pe_call G_deal (hr.mono (by decide)) rfl D_deal.m D_deal.F.kp D_deal.b .nil pass0 (pa_cons (pv 0) (pa_cons (pv 1) (pa_cons (pv 2) (pa_cons (pv 8) pa_nil))))))
      (pss_cons (ps_asg (pe_call G_evening (hr.mono (by decide)) rfl D_evening.m D_evening.F.kp D_evening.b .nil pass0 (pa_cons (pv 3) (pa_cons (pv 7) (pa_cons (pv 9) pa_nil)))) (pg_tup rfl (pgs_cons (pg_name (i:=10) sc_day_of.nd rfl (Or.inl rfl)) (pgs_cons (pg_name (i:=11) sc_day_of.nd rfl (Or.inl rfl)) pgs_nil))))
      (pss_cons (ps_set (i:=12) sc_day_of.nd rfl (Or.inr rfl) (pe_call G_flows_of (hr.mono (by decide)) rfl D_flows_of.m D_flows_of.F.kp D_flows_of.b .nil pass0 (pa_cons (pv 0) (pa_cons (pv 1) (pa_cons (pe_call G_moves_of (hr.mono (by decide)) rfl D_moves_of.m D_moves_of.F.kp D_moves_of.b .nil pass0 (pa_cons (pv 2) (pa_cons (pv 3) (pa_cons (pv 9) (pa_cons (pv 6) pa_nil))))) pa_nil)))))
      (pss_cons (ps_set (i:=13) sc_day_of.nd rfl (Or.inl rfl) (pe_callB (call_sum rfl) rfl B.sum PyProof.Rows.boot_sum (pa_cons (pe_comp (defScope s_day_of) rfl ["below","springs","roll","ponds","kept","calls","lets","left","dealt_by","takes","after","lost","flows","out","sheet"] rfl ["reach","flows"] [none,some 12] (by decide +kernel) (by decide +kernel) (by decide +kernel) rfl (pi_list (pe_call G_mouths_of (hr.mono (by decide)) rfl D_mouths_of.m D_mouths_of.F.kp D_mouths_of.b .nil pass0 (pa_cons (pv 0) pa_nil))) (fun _ _ _=>(pg_name (i:=0) (show (["reach","flows"]:List Str).Nodup by decide +kernel) rfl (Or.inl rfl))) (fun _ _ _=>pts_nil) (fun _ _ _=>(pe_ix (ix_listK (K:=K) rfl) (pv 1) (pv 0) (fun _ _=>rfl)))) pa_nil)))
      (pss_cons (ps_set (i:=14) sc_day_of.nd rfl (Or.inl rfl) (pe_tup (pa_cons (pe_callB (call_sum rfl) rfl B.sum PyProof.Rows.boot_sum (pa_cons (pv 1) pa_nil)) (pa_cons (pe_callB (call_sum rfl) rfl B.sum PyProof.Rows.boot_sum (pa_cons (pv 4) pa_nil)) (pa_cons (pe_call G_used_of (hr.mono (by decide)) rfl D_used_of.m D_used_of.F.kp D_used_of.b .nil pass0 (pa_cons (pv 2) (pa_cons (pv 3) (pa_cons (pv 9) (pa_cons (pv 6) pa_nil))))) (pa_cons (pe_callB (call_sum rfl) rfl B.sum PyProof.Rows.boot_sum (pa_cons (pv 10) pa_nil)) (pa_cons (pe_callB (call_sum rfl) rfl B.sum PyProof.Rows.boot_sum (pa_cons (pv 11) pa_nil)) (pa_cons (pv 13) pa_nil))))))))
      (pss_one (ps_ret (pe_tup (pa_cons (pv 9) (pa_cons (pv 10) (pa_cons (pv 12) (pa_cons (pv 14) pa_nil))))))))))))),?_⟩
    refine sl_20 ?_
    intro zu0 zu1 zu2 zu3 zu4 zu5
    have O:=Ow.refl tk
    have hll:=leftF_len ms ks
    have hsl:=lessL_len cs ps (leftF ks ms) ps.length
    have hkl:=ok.kl
    have hcl:=ok.cl
    have h64:=ok.l64
    have r64:=ok.r64
    have hm1:=ok.m1
    have hp1:=ok.p1
    refine ⟨_,rfl,_,rfl,_,rfl,_,rfl,_,rfl,_,rfl,a,c,d,e,g,h,r,ks,cs,rs,us,ts,ls,ps,ms,rfl,I.A,ok.riv,by omega,I.R,I.dR,I.P,I.dP,I.Kp,hkl,I.C,fun p hp=>⟨(ok.pok p hp).1,by have:=(ok.pok p hp).2.1;omega⟩,I.L,I.dL,ok.good,tk,fun t1 la lb H1 OM=>?_⟩
    have O:=O.join OM
    walk_at "jn"
    refine ⟨t1,_,rfl,O.sqT 0,rfl,_,_,rfl,_,_,rfl,rfl,?_⟩
    have O:=O.tail
    refine ⟨_,rfl,_,rfl,_,rfl,_,rfl,a,b,lb,.ref c,r,sp,ls,lessL cs ps (leftF ks ms) ps.length,rfl,⟨O.same.seq I.A,ok.riv,r64⟩,O.same.seq I.S,ok.sl,ok.sn,.list (O.same.seq I.R) (I.dR.mo O.same),h64,O.sq 0,by omega,ok.lok,ok.bn,O.same.t1,O.gotT fun lt H2 ys O e2=>?_⟩
    obtain ⟨xs,rfl,DX⟩:=e2
    have hxl:=DX.len
    refine ⟨_,rfl,_,rfl,_,rfl,d,la,lt,us,ps,leftF ks ms,xs,rfl,O.same.seq I.P,I.dP.mo O.same,ok.p1,O.sq 2,by omega,O.sq 0,fun p hp=>?_,O.same.t1,fun t2 lf2 ll H3 OE=>?_⟩
    · have:=ok.pok p hp
      exact ⟨this.1,by omega,this.2.2⟩
    have O:=O.join OE
    walk_at "jn"
    refine ⟨t2,_,rfl,O.sqT 0,rfl,_,_,rfl,_,_,rfl,rfl,?_⟩
    have O:=((O.tail).del 3).del 3
    walk_at "er"
    have O:Ow T H H3 [(ll,.lst ((losL ps (leftF ks ms) xs).map V.int)),(lf2,.lst ((aftL ps (leftF ks ms) xs).map V.int)),(lt,.lst (xs.map V.int))]:=O
    have I3:=I.mo O.same
    refine ⟨_,rfl,_,rfl,_,rfl,_,rfl,_,rfl,_,rfl,c,d,lt,h,xs,rs,us,ts,ls,ps,ms,rfl,I3.R,I3.dR,by omega,I3.P,I3.dP,O.sq 2,hxl,I3.L,I3.dL,hm1,ok.letAt,O.same.t1,fun lm Hm H4 vs sm OM dm=>?_⟩
    have O:=O.callT (sm.trans OM.same)
    refine ⟨a,b,lm,r,sp,mvsD ls ps xs ms,rfl,⟨O.same.seq I.A,ok.riv,r64⟩,O.same.seq I.S,ok.sl,.list (OM.sq 0) (dm.mo OM.same),ok.moves,O.same.t1,O.gotT fun lf H5 ys O e5=>?_⟩
    subst e5
    have hfl:(Rv.flws r sp (mvsD ls ps xs ms)).length=r.length:=(Rv.flws_fl r sp (mvsD ls ps xs ms)).len
    refine ⟨_,rfl,a,r,rfl,O.same.seq I.A,r64,O.same.t1,O.gotT fun lq H6 ys O e6=>?_⟩
    subst e6
    refine ⟨lq,rfl,⟨_,O.sq 0⟩,fun lo hlo=>?_⟩
    refine comp_list (K:=K) (xs:=(Rv.mths r r.length).map V.int) (fun i τ H'=>Iv (∃ (v0:Option V),τ=[v0,some (.ref lf)]∧Ow T H H' [(lo,.lst ((((Rv.mths r r.length).take i).map fun i=>(Rv.flws r sp (mvsD ls ps xs ms)).getD i.toNat 0).map V.int)),(lq,.lst ((Rv.mths r r.length).map V.int)),(lf,.lst ((Rv.flws r sp (mvsD ls ps xs ms)).map V.int)),(ll,.lst ((losL ps (leftF ks ms) xs).map V.int)),(lf2,.lst ((aftL ps (leftF ks ms) xs).map V.int)),(lt,.lst (xs.map V.int))]))
      ⟨trivial,none,rfl,O.mk' hlo rfl⟩ (fun _ _ _ _ ⟨_,_,_,O⟩=>O.sq 1) ?_ ?_
    · rintro i y τ H7 hy ⟨-,v0,rfl,O⟩
      obtain ⟨z,hz,rfl⟩:=ints_get hy
      have hzr:=mths_rg (List.mem_of_getElem? hz)
      have hi:=(List.getElem?_eq_some_iff.mp hz).1
      have hml:=Rv.mths_len r r.length
      refine yesT ?_
      refine ⟨_,rfl,_,rfl,lf,_,_,_,rfl,rfl,O.sq 2,ints_atZ hzr.1 (by omega),?_⟩
      refine ⟨_,O.get 0,small100' (by rw [List.length_map,List.length_map,List.length_take];omega),?_⟩
      walk_at "pt"
      refine ⟨trivial,_,rfl,?_⟩
      rw [map_next _ hz,List.map_append];exact O
    rintro τ H7 ⟨-,v0,rfl,O⟩
    rw [List.length_map,List.take_length] at O
    refine ⟨lo,_,rfl,O.sq 0,?_⟩
    have O:=O.tail.tail
    /- the sheet -/
    have I7:=I.mo O.same
    refine ⟨_,rfl,b,_,rfl,I7.S,_,rfl,e,_,rfl,I7.Kp,?_⟩
    refine ⟨_,rfl,_,rfl,_,rfl,_,rfl,c,d,lt,h,xs,rs,us,ts,ls,ps,ms,rfl,I7.R,I7.dR,by omega,I7.P,I7.dP,hp1,O.sq 3,hxl,I7.L,I7.dL,hm1,O.same.t1,fun H8 sm=>?_⟩
    have O:=O.callT sm
    refine ⟨_,rfl,lf2,_,rfl,O.sq 2,_,rfl,ll,_,rfl,O.sq 1,_,rfl,szl,fun lh hlh=>?_⟩
    walk_at "nw"
    refine ⟨_,rfl,_,rfl,_,rfl,_,rfl,szl,fun t ht=>?_⟩
    walk_at "nw"
    have O:=O.del 3
    walk_at "er"
    exact q t lt lf2 lf lh _ xs O DX
theorem pick4s {w:Int} (h0:0≤w) (h1:w<4):∃ s:Int,atI [V.int 1,V.int 41,V.int 43,V.int 47] w=some (V.int s)∧(s=1∨s=41∨s=43∨s=47):=by
  rcases (by omega:w=0∨w=1∨w=2∨w=3) with rfl | rfl | rfl | rfl
  · exact ⟨1,rfl,.inl rfl⟩
  · exact ⟨41,rfl,.inr (.inl rfl)⟩
  · exact ⟨43,rfl,.inr (.inr (.inl rfl))⟩
  · exact ⟨47,rfl,.inr (.inr (.inr rfl))⟩
def UpOk (up:List Int):Prop:=∀ (j:Nat) (u:Int),up[j]?=some u→u=-1∨(0≤u∧u<(j:Int))
theorem up_snoc {up:List Int} {i:Nat} {z:Int} (hl:up.length=i) (h:UpOk up) (hz:z=-1∨(0≤z∧z<(i:Int))):UpOk (up++[z]):=fun j u hu=>by
  by_cases hj:j<up.length
  · rw [List.getElem?_append_left hj] at hu;exact h j u hu
  · rw [List.getElem?_append_right (by omega)] at hu
    have e:j=i:=by
      have:=(List.getElem?_eq_some_iff.mp hu).1
      simp at this;omega
    subst e
    rw [hl,Nat.sub_self] at hu
    have:z=u:=Option.some.inj hu
    rw [← this];exact hz
abbrev s__law_river:Stmt:=top 47
theorem sc__law_river:FnScope ["cell","xs","size","up","k","step","places","below"] ["cell"] (defScope s__law_river):=⟨rfl,rfl,rfl,by decide +kernel,rfl,by decide +kernel,by decide +kernel⟩
def sp_river (T:Tabs):Sp:=fun vs H Q _=>∃ (c:Int),vs=[.int c]∧TabsOk T H∧RetLT T H (fun xs=>∃ r,xs=r.map V.int∧Rv.River r∧1≤r.length∧r.length≤40) Q
theorem ok_river {f f1:Addr} {fd fd1:FuncData} (D:Df K mg "_law_river" s__law_river ["cell"] f fd) (B:Blt mg)
    (D__law_draws:Df K mg "_law_draws" s__law_draws ["cell","many"] f1 fd1) (G__law_draws:FnOk P w K mg base CX0 1 f1 fd1 ["cell","many"] (sp_dws T)):FnOk P w K mg base CX0 2 f fd ["cell"] (sp_river T):=by
  refine D.F.ok sc__law_river (fun vs H Q E h=>?_) (fun cdv A outer s H vs Q E hr h=>?_)
  · obtain ⟨_,rfl,_⟩:=h;rfl
  · obtain ⟨c,rfl,tk,q⟩:=h
    change ∃ t,PSs _ (_ :: _) t∧_
    refine ⟨_,(pss_cons (ps_set (i:=1) sc__law_river.nd rfl (Or.inr rfl) (pe_call G__law_draws (hr.mono (by decide)) rfl D__law_draws.m D__law_draws.F.kp D__law_draws.b .nil pass0 (pa_cons (pe_op op_fdiv (pv 0) pe_int) (pa_cons pe_int pa_nil))))
      (pss_cons (ps_set (i:=2) sc__law_river.nd rfl (Or.inr rfl) (pe_op op_add pe_int (pe_op op_mod (pe_ix ix_list (pv 1) pe_int (fun _ _=>rfl)) pe_int)))
      (pss_consM (ps_if (pt_cmpR op_eq (pe_op op_mod (pv 0) pe_int) pe_int (nomark _))
        (pss_one (ps_set (i:=2) sc__law_river.nd rfl (Or.inr rfl) (pe_op op_add pe_int (pe_op op_mod (pe_ix ix_list (pv 1) pe_int (fun _ _=>rfl)) pe_int))))
        pss_nil)
      (pss_cons (ps_set (i:=3) sc__law_river.nd rfl (Or.inl rfl) (pe_lst pa_nil))
      (pss_cons (ps_for PassesOwn.never rfl (pi_range1 rfl B.range (pa_cons (pv 2) pa_nil)) (pg_name (i:=4) sc__law_river.nd rfl (Or.inl rfl))
        (pss_one (ps_if (PW.pt (pw_or (pt_cmpR op_eq (pv 4) pe_int (nomark _)) (pw_or1 (pt_cmpR op_eq (pe_op op_mod (pe_ix ix_list (pv 1) (pe_op op_add pe_int (pv 4)) (fun _ _=>rfl)) pe_int) pe_int (nomark _)))))
          (pss_one (ps_expr (pe_bm PySem.F.plainAttrs_list PySem.F.slot_list_append PySem.F.type_list_append mt_append (pv 3) (pa_cons (pe_un un_neg pe_int) pa_nil))))
          (pss_one (ps_if (pt_cmpR op_lt (pe_op op_mod (pe_ix ix_list (pv 1) (pe_op op_add pe_int (pv 4)) (fun _ _=>rfl)) pe_int) pe_int (nomark _))
            (pss_one (ps_expr (pe_bm PySem.F.plainAttrs_list PySem.F.slot_list_append PySem.F.type_list_append mt_append (pv 3) (pa_cons (pe_op op_sub (pv 4) pe_int) pa_nil))))
            (pss_one (ps_expr (pe_bm PySem.F.plainAttrs_list PySem.F.slot_list_append PySem.F.type_list_append mt_append (pv 3) (pa_cons (pe_op op_mod (pe_op op_fdiv (pe_ix ix_list (pv 1) (pe_op op_add pe_int (pv 4)) (fun _ _=>rfl)) pe_int) (pv 4)) pa_nil)))))))))
      (pss_cons (ps_set (i:=5) sc__law_river.nd rfl (Or.inr rfl) (pe_ix ix_list (pe_lst (pa_cons pe_int (pa_cons pe_int (pa_cons pe_int (pa_cons pe_int pa_nil))))) (pe_op op_mod (pe_ix ix_list (pv 1) pe_int (fun _ _=>rfl)) pe_int) (fun _ _=>rfl)))
      (pss_cons (ps_setComp (i:=6) (defScope s__law_river) rfl ["cell","xs","size","up","k","step","places","below"] rfl ["k","size","step","xs"] [none,some 2,some 5,some 1] (by decide +kernel) (by decide +kernel) (by decide +kernel) rfl sc__law_river.nd rfl rfl (pi_range1 rfl B.range (pa_cons (pv 2) pa_nil)) (fun _ _ _=>(pg_name (i:=0) (show (["k","size","step","xs"]:List Str).Nodup by decide +kernel) rfl (Or.inl rfl))) (fun _ _ _=>pts_nil) (fun _ _ _=>(pe_op op_mod (pe_op op_add (pe_op op_mul (pv 2) (pv 0)) (pe_op op_fdiv (pe_ix (ix_listK (K:=K) rfl) (pv 3) pe_int (fun _ _=>rfl)) pe_int)) (pv 1))) rfl)
      (pss_cons (ps_set (i:=7) sc__law_river.nd rfl (Or.inl rfl) (pe_op op_rep (pe_lst (pa_cons (pe_un un_neg pe_int) pa_nil)) (pv 2)))
      (pss_cons (ps_for PassesOwn.never rfl (pi_range1 rfl B.range (pa_cons (pv 2) pa_nil)) (pg_name (i:=4) sc__law_river.nd rfl (Or.inl rfl))
        (pss_one (ps_if (pt_cmpR op_ge (pe_ix ix_list (pv 3) (pv 4) (fun _ _=>rfl)) pe_int (nomark _))
          (pss_one (ps_asg (pe_ix ix_list (pv 6) (pe_ix ix_list (pv 3) (pv 4) (fun _ _=>rfl)) (fun _ _=>rfl)) (pg_sub (pv 7) (pe_ix ix_list (pv 6) (pv 4) (fun _ _=>rfl)) set_list)))
          pss_nil)))
      (pss_one (ps_ret (pv 7)))))))))))),?_⟩
    refine sl_21 ?_
    intro zu0 zu1 zu2 zu3 zu4 zu5 zu6 zu7 zu8 zu9 zu10 zu11 zu12 zu13 zu14 zu15 zu16
    have O:=Ow.refl tk
    have s0:=O.same
    refine ⟨_,rfl,_,_,rfl,rfl,⟨by decide,by decide⟩,_,42,rfl,by decide,by decide,tk,O.gotT fun lx H1 xs O e=>?_⟩
    obtain ⟨ys,rfl,hyl,hyb⟩:=e
    have hyl:ys.length=42:=hyl
    have yn:∀ k,0≤ys.getD k 0:=fun k=>by
      by_cases hk:k<ys.length
      · exact (hyb _ (getD_mem' hk)).1
      · rw [List.getD_eq_getElem?_getD,List.getElem?_eq_none (by omega)];exact Int.le_refl _
    clear hyb
    refine ⟨_,rfl,lx,_,0,_,rfl,rfl,O.sq 0,ints_atZ (by omega) (by omega),_,_,rfl,rfl,(by show (0:Int)<12;decide),_,_,rfl,rfl,?_⟩
    refine ⟨fun σ H'=>Iv (∃ n:Nat,σ=[some (.int c),some (.ref lx),some (.int (n:Int)),none,none,none,none,none]∧1≤n∧n≤40∧H'=H1),?_,?_⟩
    · refine ⟨_,rfl,_,_,rfl,rfl,(by show (0:Int)<8;decide),rfl,_,rfl,ifI (fun hc=>?_) fun hc=>?_⟩
      · refine ⟨_,rfl,lx,_,0,_,rfl,rfl,O.sq 0,ints_atZ (by omega) (by omega),_,_,rfl,rfl,(by show (0:Int)<40;decide),_,_,rfl,rfl,?_⟩
        have e:((1 + ys.getD (0:Int).toNat 0 % 40).toNat:Int)=1 + ys.getD (0:Int).toNat 0 % 40:=Int.toNat_of_nonneg (by omega)
        exact ⟨trivial,(1 + ys.getD (0:Int).toNat 0 % 40).toNat,by rw [e];rfl,by omega,by omega,rfl⟩
      · have e:((1 + ys.getD (0:Int).toNat 0 % 12).toNat:Int)=1 + ys.getD (0:Int).toNat 0 % 12:=Int.toNat_of_nonneg (by omega)
        exact ⟨trivial,(1 + ys.getD (0:Int).toNat 0 % 12).toNat,by rw [e];rfl,by omega,by omega,rfl⟩
    rintro σ H2 ⟨-,n,rfl,n1,n40,rfl⟩
    refine ⟨szl,fun lu hlu=>?_⟩
    walk_at "nw"
    refine ⟨_,rfl,(n:Int),rfl,by omega,by omega,?_⟩
    rw [Int.toNat_natCast]
    refine for_range (n:=n) (fun i σ H'=>Iv (∃ (v4:Option V) (up:List Int),σ=[some (.int c),some (.ref lx),some (.int (n:Int)),some (.ref lu),v4,none,none,none]∧up.length=i∧UpOk up∧Ow T H H' [(lu,.lst (up.map V.int)),(lx,.lst (ys.map V.int))]))
      ⟨trivial,none,[],rfl,rfl,(fun j u h=>by simp at h),O⟩ ?_ ?_
    · rintro i σ H3 hi ⟨-,v4,up,rfl,hul,hup,O⟩
      rw [show (0:Int) + (i:Int)=(i:Int) by omega]
      have yi:=yn (2 + (i:Int)).toNat
      have mm:(i:Int)≠0→0≤ys.getD (2 + (i:Int)).toNat 0 / 8 % (i:Int)∧ys.getD (2 + (i:Int)).toNat 0 / 8 % (i:Int)<(i:Int):=fun h=>⟨Int.emod_nonneg _ h,Int.emod_lt_of_pos _ (by omega)⟩
      have fin:∀ (z:Int) (H':Hp),(z=-1∨(0≤z∧z<(i:Int)))→Ow T H H' [(lu,.lst (up.map V.int++[.int z])),(lx,.lst (ys.map V.int))]→Iv (∃ (v4:Option V) (up:List Int),[some (.int c),some (.ref lx),some (.int (n:Int)),some (.ref lu),some (.int (i:Int)),none,none,none]=[some (.int c),some (.ref lx),some (.int (n:Int)),some (.ref lu),v4,none,none,none]∧up.length=i + 1∧UpOk up∧Ow T H H' [(lu,.lst (up.map V.int)),(lx,.lst (ys.map V.int))]):=fun z H' hz O=>by
        rw [map_snoc] at O
        exact ⟨trivial,_,up++[z],rfl,by rw [List.length_append,hul];rfl,up_snoc hul hup hz,O⟩
      refine ⟨_,rfl,rfl,_,rfl,ifI (fun h0=>iteT ?_) fun h0=>?_⟩
      · refine ⟨_,rfl,.inl ⟨rfl,_,O.sq 0⟩,_,rfl,lu,_,_,rfl,rfl,O.get 0,small100' (by rw [List.length_map];omega),?_⟩
        walk_at "pt"
        exact fin (-1) _ (.inl rfl) O
      obtain ⟨m0,m1⟩:=mm h0
      refine ⟨_,rfl,_,rfl,_,_,rfl,rfl,lx,_,_,_,rfl,rfl,O.sq 1,ints_atZ (by omega) (by omega),_,_,rfl,rfl,(by show (0:Int)<8;decide),rfl,_,rfl,ifI (fun h1=>?_) fun h1=>?_⟩
      · refine ⟨_,rfl,.inl ⟨rfl,_,O.sq 0⟩,_,rfl,lu,_,_,rfl,rfl,O.get 0,small100' (by rw [List.length_map];omega),?_⟩
        walk_at "pt"
        exact fin (-1) _ (.inl rfl) O
      refine ⟨_,rfl,_,rfl,_,_,rfl,rfl,lx,_,_,_,rfl,rfl,O.sq 1,ints_atZ (by omega) (by omega),_,_,rfl,rfl,(by show (0:Int)<8;decide),_,_,rfl,rfl,_,rfl,ifD (fun h2=>?_) fun h2=>?_⟩
      · refine ⟨_,rfl,.inl ⟨rfl,_,O.sq 0⟩,_,rfl,_,_,rfl,rfl,lu,_,_,rfl,rfl,O.get 0,small100' (by rw [List.length_map];omega),?_⟩
        walk_at "pt"
        exact fin ((i:Int) - 1) _ (.inr ⟨by omega,by omega⟩) O
      · refine ⟨_,rfl,.inl ⟨rfl,_,O.sq 0⟩,_,rfl,_,rfl,_,_,rfl,rfl,lx,_,_,_,rfl,rfl,O.sq 1,ints_atZ (by omega) (by omega),_,_,rfl,rfl,⟨by decide,by decide⟩,_,rfl,_,_,rfl,rfl,(by show (0:Int)<(i:Int);omega),lu,_,_,rfl,rfl,O.get 0,small100' (by rw [List.length_map];omega),?_⟩
        walk_at "pt"
        exact fin _ _ (.inr ⟨m0,m1⟩) O
    rintro σ H3 ⟨-,v4,up,rfl,hul,hup,O⟩
    obtain ⟨st,hv,hst⟩:=pick4s (w:=ys.getD (1:Int).toNat 0 % 4) (Int.emod_nonneg _ (by decide)) (Int.emod_lt_of_pos _ (by decide))
    refine ⟨szl,fun l1 h1=>?_⟩
    walk_at "nw"
    refine ⟨_,rfl,lx,_,1,_,rfl,rfl,O.sq 2,ints_atZ (by omega) (by omega),_,_,rfl,rfl,(by show (0:Int)<4;decide),l1,_,_,_,rfl,rfl,O.sq 0,hv,?_⟩
    have O:=O.tail
    have nn:(0:Int)<(n:Int):=by omega
    refine ⟨_,rfl,(n:Int),rfl,by omega,by omega,fun lp hlp=>?_⟩
    refine comp_range (fun i τ H'=>Iv (∃ (v0:Option V),τ=[v0,some (.int (n:Int)),some (.int st),some (.ref lx)]∧Ow T H H' [(lp,.lst ((Rv.spotsB n st (ys.getD (1:Int).toNat 0 / 4) i).map V.int)),(lu,.lst (up.map V.int)),(lx,.lst (ys.map V.int))])) ⟨trivial,none,rfl,O.mk' hlp rfl⟩ ?_ ?_
    · rintro i τ H4 hi ⟨-,v0,rfl,O⟩
      rw [show (0:Int) + (i:Int)=(i:Int) by omega]
      refine yesT ?_
      refine ⟨_,rfl,_,rfl,_,_,rfl,rfl,.inl ⟨by omega,by omega⟩,_,rfl,lx,_,1,_,rfl,rfl,O.sq 2,ints_atZ (by omega) (by omega),_,_,rfl,rfl,⟨by decide,by decide⟩,_,_,rfl,rfl,_,rfl,_,_,rfl,rfl,nn,?_⟩
      refine ⟨_,O.get 0,small100' (by rw [List.length_map,Rv.spotsB_len];omega),?_⟩
      walk_at "pt"
      refine ⟨trivial,_,rfl,?_⟩
      rw [Rv.spotsB_succ,List.map_append];exact O
    rintro τ H4 ⟨-,v0,rfl,O⟩
    rw [Int.toNat_natCast] at O
    generalize ys.getD (1:Int).toNat 0 / 4=x1 at O
    refine ⟨_,rfl,szl,fun l2 h2=>?_⟩
    walk_at "nw"
    refine ⟨_,rfl,l2,_,_,rfl,rfl,O.get 0,by omega,by omega,small100 (by rw [Int.toNat_natCast];simp;omega),fun lb hlb=>?_⟩
    walk_at "nw"
    rw [Int.toNat_natCast,rep_intsV] at O
    have O:=O.two
    refine ⟨_,rfl,(n:Int),rfl,by omega,by omega,?_⟩
    rw [Int.toNat_natCast]
    refine for_range (n:=n) (fun i σ H'=>Iv (∃ (v4:Option V) (b:List Int),σ=[some (.int c),some (.ref lx),some (.int (n:Int)),some (.ref lu),v4,some (.int st),some (.ref lp),some (.ref lb)]∧Rv.Lnk n (Rv.spotB n st x1) i b ∧
      Ow T H H' [(lb,.lst (b.map V.int)),(lp,.lst ((Rv.spotsB n st x1 n).map V.int)),(lu,.lst (up.map V.int)),(lx,.lst (ys.map V.int))])) ⟨trivial,_,_,rfl,Rv.Lnk.start0 _ _,O⟩ ?_ ?_
    · rintro i σ H5 hi ⟨-,v4,b,rfl,L,O⟩
      rw [show (0:Int) + (i:Int)=(i:Int) by omega]
      obtain ⟨u,hu⟩:∃ u,up[i]?=some u:=⟨_,List.getElem?_eq_getElem (by omega)⟩
      refine ⟨_,rfl,_,rfl,lu,_,_,_,rfl,rfl,O.sq 2,ints_at hu,_,_,rfl,rfl,_,rfl,ifD (fun hc=>?_) fun hc=>?_⟩
      · obtain ⟨j,rfl⟩:=Int.eq_ofNat_of_zero_le (show 0≤u from hc)
        have hj:j<i:=by rcases hup i _ hu with e | e <;> omega
        refine ⟨_,rfl,_,rfl,_,rfl,lu,_,_,_,rfl,rfl,O.sq 2,ints_at hu,lp,_,_,_,rfl,rfl,O.sq 1,ints_at (Rv.spotsB_at (by omega)),?_⟩
        have p0:=Rv.spotB_nn (x:=x1) (s:=st) nn i
        have p1:=Rv.spotB_lt (x:=x1) (s:=st) nn i
        refine ⟨_,rfl,_,rfl,_,rfl,lp,_,_,_,rfl,rfl,O.sq 1,ints_at (Rv.spotsB_at (by omega)),lb,_,_,_,rfl,rfl,O.get 0,ixN_Z p0 (by rw [List.length_map,L.len];exact p1),?_⟩
        walk_at "pt"
        refine ⟨trivial,_,_,rfl,L.turn (by omega) hj p0,?_⟩
        rw [List.map_set];exact O
      · exact ⟨trivial,_,b,rfl,L.skip,O⟩
    · rintro σ H5 ⟨-,v4,b,rfl,L,O⟩
      refine ⟨_,rfl,O.ret 0 rfl q ⟨b,rfl,L.river (Rv.spotB_nn nn) (Rv.spotB_lt nn) (fun j k hj hk h=>Rv.spotB_inj n40 hst hj hk h) n1,by rw [L.len];exact n1,by rw [L.len];exact n40⟩⟩
abbrev s__law_way:Stmt:=top 48
theorem sc__law_way:FnScope ["below","start","way","at"] ["below","start"] (defScope s__law_way):=⟨rfl,rfl,rfl,by decide +kernel,rfl,by decide +kernel,by decide +kernel⟩
def sp_lway (K:PySem.W.Frag) (T:Tabs):Sp:=fun vs H Q _=>∃ (a:Addr) (r:List Int) (p:Int),vs=[.ref a,.int p]∧SqL K H a (r.map V.int)∧Rv.River r∧0≤p∧p<r.length∧r.length≤900∧TabsOk T H∧RetLT T H (fun xs=>xs=(Rv.walk r p).map V.int) Q
theorem ok_lway {f:Addr} {fd:FuncData} {T:Tabs} (D:Df K mg "_law_way" s__law_way ["below","start"] f fd):FnOk P w K mg base CX0 1 f fd ["below","start"] (sp_lway K T):=by
  refine D.F.ok sc__law_way (fun vs H Q E h=>?_) (fun cdv A outer s H vs Q E hr h=>?_)
  · obtain ⟨a,r,p,rfl,_⟩:=h;rfl
  · obtain ⟨a,r,p,rfl,hS,hR,p0,p1,hn,tk,q⟩:=h
    refine ⟨_,(pss_cons (ps_set (i:=2) sc__law_way.nd rfl (Or.inl rfl) (pe_lst pa_nil))
      (pss_cons (ps_set (i:=3) sc__law_way.nd rfl (Or.inl rfl) (pv 1))
      (pss_cons (ps_while PassesOwn.never (pt_cmpR op_ne (pv 3) (pe_un un_neg pe_int) (nomark _))
        (pss_cons (ps_expr (pe_bm PySem.F.plainAttrs_list PySem.F.slot_list_append PySem.F.type_list_append mt_append (pv 2) (pa_cons (pv 3) pa_nil)))
        (pss_one (ps_set (i:=3) sc__law_way.nd rfl (Or.inl rfl) (pe_ix ix_list (pv 0) (pv 3) (fun _ _=>rfl))))))
      (pss_one (ps_ret (pv 2)))))),?_⟩
    refine sl_22 ?_
    intro zu0 zu1 zu2 zu3 zu4
    have O:=Ow.refl tk
    refine ⟨szl,fun lw hlw=>?_⟩
    walk_at "nw"
    refine ⟨_,rfl,?_⟩
    refine ⟨fun m σ H2=>∃ (pre:List Int) (z:Int),σ=[some (.ref a),some (.int p),some (.ref lw),some (.int z)]∧Ow T H H2 [(lw,.lst (pre.map V.int))]∧(z=-1∨(0≤z∧z<r.length))∧pre++Rv.walk r z=Rv.walk r p∧m=Rv.mea r z,
      ⟨_,[],p,rfl,O,.inr ⟨p0,p1⟩,rfl,rfl⟩,?_⟩
    rintro m σ H2 ⟨pre,z,rfl,O,hz,e,rfl⟩
    refine ⟨_,rfl,_,rfl,rfl,_,rfl,?_⟩
    rcases hz with rfl | ⟨z0,z1⟩
    · refine iteNS rfl ?_
      rw [Rv.walk_neg,List.append_nil] at e
      exact ⟨_,rfl,O.ret 0 rfl q (by rw [e])⟩
    · have hd:(!decide (V.int z=V.int (-1)))=true:=by
        have:¬ z=-1:=by omega
        simp [this]
      rw [hd]
      refine iteT ?_
      have hlen:pre.length + (Rv.walk r z).length≤r.length + 1:=by
        have:=Rv.walk_len r p
        rw [← e,List.length_append] at this;exact this
      refine ⟨fun σ' H'=>∃ m',m'<Rv.mea r z∧∃ (pre:List Int) (z:Int),σ'=[some (.ref a),some (.int p),some (.ref lw),some (.int z)]∧Ow T H H' [(lw,.lst (pre.map V.int))]∧(z=-1∨(0≤z∧z<r.length))∧pre++Rv.walk r z=Rv.walk r p∧m'=Rv.mea r z,fun _ _ x=>x,?_⟩
      have g:=Rv.get_nxt z0 z1
      refine ⟨_,rfl,.inl ⟨rfl,_,O.sq 0⟩,_,rfl,lw,_,_,rfl,rfl,O.get 0,small100' (by rw [List.length_map];omega),?_⟩
      walk_at "pt"
      refine ⟨_,rfl,_,rfl,a,_,_,_,rfl,rfl,O.same.seq hS,ints_atI z0 g,?_⟩
      refine ⟨_,Rv.mea_lt hR z0 z1,pre++[z],Rv.nxt r z,rfl,?_,hR.step z0 z1,?_,rfl⟩
      · rw [List.map_append];exact O
      · rw [List.append_assoc]
        show pre++(z :: Rv.walk r (Rv.nxt r z))=_
        rw [← Rv.walk_cons hR z0 z1];exact e
abbrev s__law_amount:Stmt:=top 49
theorem sc__law_amount:FnScope ["number","kind"] ["number","kind"] (defScope s__law_amount):=⟨rfl,rfl,rfl,by decide +kernel,rfl,by decide +kernel,by decide +kernel⟩
def sp_amt:Sp:=fun vs H Q _=>∃ (n k:Int),vs=[.int n,.int k]∧∀ z,0≤z→z≤1000000000000→Q (.int z) H
theorem ok_amt {f:Addr} {fd:FuncData} (D:Df K mg "_law_amount" s__law_amount ["number","kind"] f fd):FnOk P w K mg base CX0 1 f fd ["number","kind"] sp_amt:=by
  refine D.F.ok sc__law_amount (fun vs H Q E h=>?_) (fun cdv A outer s H vs Q E hr h=>?_)
  · obtain ⟨_,_,rfl,_⟩:=h;rfl
  · obtain ⟨n,kd,rfl,q⟩:=h
    have O:=Ow.refl0 H
    have s0:=O.same
    refine ⟨_,(pss_cons (ps_if (PW.pt (pw_or (pt_cmpR op_eq (pv 1) pe_int (nomark _)) (pw_or1 (PW.pt (pw_and (pt_cmpR op_eq (pv 1) pe_int (nomark _)) (pw_and1 (pt_cmpR op_eq (pe_op op_mod (pv 0) pe_int) pe_int (nomark _))))))))
        (pss_one (ps_ret (pe_op op_mod (pe_op op_fdiv (pv 0) pe_int) pe_int)))
        pss_nil)
      (pss_cons (ps_if (pt_cmpR op_eq (pe_op op_mod (pe_op op_fdiv (pv 0) pe_int) pe_int) pe_int (nomark _))
        (pss_one (ps_ret (pe_op op_pow pe_int pe_int)))
        pss_nil)
      (pss_cons (ps_if (pt_cmpR op_eq (pe_op op_mod (pe_op op_fdiv (pv 0) pe_int) pe_int) pe_int (nomark _))
        (pss_one (ps_ret (pe_op op_mod (pe_op op_fdiv (pv 0) pe_int) (pe_op op_pow pe_int pe_int))))
        pss_nil)
      (pss_one (ps_ret (pe_op op_mod (pe_op op_mul (pe_op op_fdiv (pv 0) pe_int) pe_int) (pe_op op_add (pe_op op_pow pe_int pe_int) pe_int))))))),?_⟩
    refine sl_23 ?_
    intro zu0 zu1 zu2 zu3 zu4 zu5
    have e5:(10:Int) ^ (5:Int).toNat=100000:=by decide
    have e12:(10:Int) ^ (12:Int).toNat=1000000000000:=by decide
    have q1:Q (.int (n / 2 % 10)) H:=q _ (by omega) (by omega)
    have q2:Q (.int (10 ^ (12:Int).toNat)) H:=q _ (by decide) (by decide)
    have q3:Q (.int (n / 16 % 10 ^ (5:Int).toNat)) H:=by rw [e5];exact q _ (by omega) (by omega)
    have q4:Q (.int (n / 16 * 731428571 % (10 ^ (12:Int).toNat + 1))) H:=by rw [e12];exact q _ (by omega) (by omega)
    walk_at "go"
    all_goals first
      | exact q1
      | exact q2
      | exact q3
      | exact q4
abbrev s__law_line:Stmt:=top 51
theorem sc__law_line:FnScope ["xs","below","kind","far","start","way","back"] ["xs","below","kind","far"] (defScope s__law_line):=⟨rfl,rfl,rfl,by decide +kernel,rfl,by decide +kernel,by decide +kernel⟩
def LicD (r:List Int) (l:Lic):Prop:=LicOk2 r l∧0≤l.day
def sp_lin (K:PySem.W.Frag) (T:Tabs):Sp:=fun vs H Q _=>∃ (a b:Addr) (ys r:List Int) (kd far:Int),vs=[.ref a,.ref b,.int kd,.int far]∧SqL K H a (ys.map V.int)∧4≤ys.length∧SqL K H b (r.map V.int)∧Rv.River r∧1≤r.length∧r.length≤900∧0≤far∧far≤1000000∧TabsOk T H∧RetTT T H (fun xs=>∃ l,xs=vLic l∧LicD r l) Q
theorem ok_lin {f f1 f2:Addr} {fd fd1 fd2:FuncData} (D:Df K mg "_law_line" s__law_line ["xs","below","kind","far"] f fd) (B:Blt mg) (D__law_way:Df K mg "_law_way" s__law_way ["below","start"] f1 fd1) (G__law_way:FnOk P w K mg base CX0 1 f1 fd1 ["below","start"] (sp_lway K T))
    (D__law_amount:Df K mg "_law_amount" s__law_amount ["number","kind"] f2 fd2) (G__law_amount:FnOk P w K mg base CX0 1 f2 fd2 ["number","kind"] sp_amt):FnOk P w K mg base CX0 2 f fd ["xs","below","kind","far"] (sp_lin K T):=by
  refine D.F.ok sc__law_line (fun vs H Q E h=>?_) (fun cdv A outer s H vs Q E hr h=>?_)
  · obtain ⟨_,_,_,_,_,_,rfl,_⟩:=h;rfl
  · obtain ⟨a,b,ys,r,kd,far,rfl,hA,hyl,hB,hR,r1,r9,f0,f1,tk,q⟩:=h
    have O:=Ow.refl tk
    have hml:((r.map V.int).length:Int)=(r.length:Int):=by rw [List.length_map]
    refine ⟨_,(pss_cons (ps_set (i:=4) sc__law_line.nd rfl (Or.inl rfl) (pe_op op_mod (pe_ix ix_list (pv 0) pe_int (fun _ _=>rfl)) (pe_callB call_len_seq rfl B.len PySem.boot_len (pa_cons (pv 1) pa_nil))))
      (pss_cons (ps_set (i:=5) sc__law_line.nd rfl (Or.inl rfl) (pe_call G__law_way (hr.mono (by decide)) rfl D__law_way.m D__law_way.F.kp D__law_way.b .nil pass0 (pa_cons (pv 1) (pa_cons (pv 4) pa_nil))))
      (pss_cons (ps_set (i:=6) sc__law_line.nd rfl (Or.inl rfl) (pe_un un_neg pe_int))
      (pss_consM (ps_if (PW.pt (pw_and (pt_cmpR op_eq (pe_op op_mod (pe_ix ix_list (pv 0) pe_int (fun _ _=>rfl)) pe_int) pe_int (nomark _)) (pw_and1 (pt_cmpR op_gt (pe_callB call_len_seq rfl B.len PySem.boot_len (pa_cons (pv 5) pa_nil)) pe_int (nomark _)))))
        (pss_one (ps_set (i:=6) sc__law_line.nd rfl (Or.inl rfl) (pe_ix ix_list (pv 5) (pe_op op_add pe_int (pe_op op_mod (pe_op op_fdiv (pe_ix ix_list (pv 0) pe_int (fun _ _=>rfl)) pe_int) (pe_op op_sub (pe_callB call_len_seq rfl B.len PySem.boot_len (pa_cons (pv 5) pa_nil)) pe_int))) (fun _ _=>rfl))))
        pss_nil)
      (pss_one (ps_ret (pe_tup (pa_cons (pe_op op_mul (pe_op op_mod (pe_ix ix_list (pv 0) pe_int (fun _ _=>rfl)) pe_int) (pv 3)) (pa_cons (pv 4) (pa_cons (pv 6) (pa_cons (pe_call G__law_amount (hr.mono (by decide)) rfl D__law_amount.m D__law_amount.F.kp D__law_amount.b .nil pass0 (pa_cons (pe_ix ix_list (pv 0) pe_int (fun _ _=>rfl)) (pa_cons (pv 2) pa_nil))) pa_nil))))))))))),?_⟩
    refine sl_24 ?_
    intro zu0 zu1 zu2 zu3 zu4
    have p0:=Int.emod_nonneg (ys.getD (0:Int).toNat 0) (show (r.length:Int)≠0 by omega)
    have p1:=Int.emod_lt_of_pos (ys.getD (0:Int).toNat 0) (show (0:Int)<(r.length:Int) by omega)
    refine ⟨_,rfl,a,_,0,_,rfl,rfl,hA,ints_atZ (by omega) (by omega),_,rfl,b,_,rfl,.inl hB,_,_,rfl,rfl,(by rw [hml];omega),?_⟩
    dsimp only
    rw [hml]
    generalize ys.getD (0:Int).toNat 0 % (r.length:Int)=st at p0 p1
    refine ⟨_,rfl,_,rfl,b,r,st,rfl,hB,hR,p0,p1,r9,tk,O.gotT fun lw H1 xs O e=>?_⟩
    subst e
    have hwm:(((Rv.walk r st).map V.int).length:Int)=((Rv.walk r st).length:Int):=by rw [List.length_map]
    refine ⟨_,rfl,?_⟩
    refine ⟨fun σ H'=>Iv (∃ (bk:Int),σ=[some (.ref a),some (.ref b),some (.int kd),some (.int far),some (.int st),some (.ref lw),some (.int bk)]∧Rv.Stop r st bk∧H'=H1),?_,?_⟩
    · refine ⟨_,rfl,a,_,1,_,rfl,rfl,O.same.seq hA,ints_atZ (by omega) (by omega),_,_,rfl,rfl,(by show (0:Int)<3;decide),rfl,_,rfl,ifI (fun hc=>?_) fun hc=>iteF ⟨trivial,_,rfl,.inl rfl,rfl⟩⟩
      refine ⟨_,rfl,lw,_,rfl,.inl (O.sq 0),_,_,rfl,rfl,_,rfl,ifD (fun hc2=>?_) fun hc2=>⟨trivial,_,rfl,.inl rfl,rfl⟩⟩
      rw [hwm] at hc2
      have j0:=Int.emod_nonneg (ys.getD (1:Int).toNat 0 / 3) (show ((Rv.walk r st).length:Int) - 1≠0 by omega)
      have j1:=Int.emod_lt_of_pos (ys.getD (1:Int).toNat 0 / 3) (show (0:Int)<((Rv.walk r st).length:Int) - 1 by omega)
      refine ⟨_,rfl,_,rfl,a,_,1,_,rfl,rfl,O.same.seq hA,ints_atZ (by omega) (by omega),_,_,rfl,rfl,⟨by decide,by decide⟩,_,rfl,lw,_,rfl,.inl (O.sq 0),_,_,rfl,rfl,_,_,rfl,rfl,(by rw [hwm];omega),_,_,rfl,rfl,?_⟩
      dsimp only
      rw [hwm]
      exact ⟨lw,_,_,_,rfl,rfl,O.sq 0,ints_atZ (by omega) (by omega),trivial,_,rfl,.inr (getD_mem' (by omega)),rfl⟩
    rintro σ H4 ⟨-,bk,rfl,hst,rfl⟩
    have d0:0≤ys.getD (2:Int).toNat 0 % 4 * far:=Int.mul_nonneg (Int.emod_nonneg _ (by decide)) f0
    refine ⟨_,rfl,a,_,2,_,rfl,rfl,O.same.seq hA,ints_atZ (by omega) (by omega),_,_,rfl,rfl,(by show (0:Int)<4;decide),_,rfl,_,_,rfl,rfl,.inl ⟨by omega,by omega⟩,_,rfl,_,rfl,_,rfl,a,_,3,_,rfl,rfl,O.same.seq hA,ints_atZ (by omega) (by omega),_,rfl,_,_,rfl,fun z z0 z1=>?_⟩
    refine ⟨szl,fun t ht=>?_⟩
    walk_at "nw"
    exact O.retT 0 rfl q ⟨⟨_,st,bk,z⟩,rfl,⟨⟨p0,p1,hst⟩,z0⟩,d0⟩
abbrev s__law_call:Stmt:=top 52
theorem sc__law_call:FnScope ["number","most"] ["number","most"] (defScope s__law_call):=⟨rfl,rfl,rfl,by decide +kernel,rfl,by decide +kernel,by decide +kernel⟩
def sp_cal (T:Tabs):Sp:=fun vs H Q _=>∃ (n m:Int),vs=[.int n,.int m]∧0≤m∧TabsOk T H∧∀ (z:Int) (H':Hp),0≤z→SameT T H H'→Q (.int z) H'
theorem pick2 {x y w:Int} (h0:0≤w) (h1:w<2):∃ v:Int,atI [V.int x,V.int y] w=some (V.int v)∧(v=x∨v=y):=by
  rcases (by omega:w=0∨w=1) with rfl | rfl
  · exact ⟨x,rfl,.inl rfl⟩
  · exact ⟨y,rfl,.inr rfl⟩
theorem ok_cal {f f1:Addr} {fd fd1:FuncData} (D:Df K mg "_law_call" s__law_call ["number","most"] f fd) (B:Blt mg) (D__law_some:Df K mg "_law_some" s__law_some ["number","most"] f1 fd1) (G__law_some:FnOk P w K mg base CX0 1 f1 fd1 ["number","most"] sp_som):FnOk P w K mg base CX0 2 f fd ["number","most"] (sp_cal T):=by
  refine D.F.ok sc__law_call (fun vs H Q E h=>?_) (fun cdv A outer s H vs Q E hr h=>?_)
  · obtain ⟨_,_,rfl,_⟩:=h;rfl
  · obtain ⟨n,m,rfl,hm,tk,q⟩:=h
    have O:=Ow.refl tk
    have s0:=O.same
    refine ⟨_,(pss_cons (ps_if (pt_cmpR op_eq (pe_op op_mod (pv 0) pe_int) pe_int (nomark _))
        (pss_one (ps_ret (pv 1)))
        pss_nil)
      (pss_cons (ps_if (pt_cmpR op_eq (pe_op op_mod (pv 0) pe_int) pe_int (nomark _))
        (pss_one (ps_ret (pe_callB (call_min2 rfl) rfl B.min PyProof.Rows.boot_min (pa_cons (pe_op op_pow pe_int pe_int) (pa_cons (pe_op op_add (pv 1) (pe_op op_mod (pe_op op_fdiv (pv 0) pe_int) pe_int)) pa_nil)))))
        pss_nil)
      (pss_one (ps_ret (pe_call G__law_some (hr.mono (by decide)) rfl D__law_some.m D__law_some.F.kp D__law_some.b .nil pass0 (pa_cons (pe_op op_fdiv (pv 0) pe_int) (pa_cons (pe_ix ix_list (pe_lst (pa_cons (pv 1) (pa_cons (pe_op op_pow pe_int pe_int) pa_nil))) (pe_op op_mod (pv 0) pe_int) (fun _ _=>rfl)) pa_nil))))))),?_⟩
    refine sl_18 ?_
    intro zu0 zu1 zu2 zu3
    have e12:(10:Int) ^ (12:Int).toNat=1000000000000:=by decide
    refine ⟨_,rfl,_,_,rfl,rfl,(by show (0:Int)<4;decide),rfl,_,rfl,ifI (fun _=>⟨_,rfl,q _ _ hm O.same⟩) fun _=>?_⟩
    refine ⟨_,rfl,_,_,rfl,rfl,(by show (0:Int)<4;decide),rfl,_,rfl,ifI (fun _=>?_) fun _=>?_⟩
    · walk_at "w"
      refine q _ _ ?_ O.same
      rw [e12]
      split <;> omega
    have b0:=Int.emod_nonneg n (show (2:Int)≠0 by decide)
    have b1:=Int.emod_lt_of_pos n (show (0:Int)<2 by decide)
    refine ⟨_,rfl,_,_,rfl,rfl,⟨by decide,by decide⟩,_,rfl,_,_,rfl,rfl,⟨by decide,by decide,by decide⟩,szl,fun l hl=>?_⟩
    walk_at "nw"
    dsimp only at O
    rw [e12] at O
    obtain ⟨v,hv,hv2⟩:=pick2 (x:=m) (y:=1000000000000) b0 b1
    refine ⟨_,rfl,_,_,rfl,rfl,(by show (0:Int)<2;decide),l,_,_,_,rfl,rfl,O.sq 0,hv,_,v,rfl,by omega,fun z z0 z1=>q z _ z0 O.same⟩
abbrev s__law_roll:Stmt:=top 53
theorem sc__law_roll:FnScope ["cell","cells","below","kind","many","far","roll","k","one","xs"] ["cell","cells","below","kind"] (defScope s__law_roll):=⟨rfl,rfl,rfl,by decide +kernel,rfl,by decide +kernel,by decide +kernel⟩
theorem pick3f {w:Int} (h0:0≤w) (h1:w<3):∃ v:Int,atI [V.int 1,V.int 211,V.int 333333] w=some (V.int v)∧0≤v∧v≤1000000:=by
  rcases (by omega:w=0∨w=1∨w=2) with rfl | rfl | rfl
  · exact ⟨1,rfl,by decide,by decide⟩
  · exact ⟨211,rfl,by decide,by decide⟩
  · exact ⟨333333,rfl,by decide,by decide⟩
def sp_rol (K:PySem.W.Frag) (T:Tabs):Sp:=fun vs H Q _=>∃ (c kd:Int) (g a:Addr) (qs r:List Int),vs=[.int c,.ref g,.ref a,.int kd]∧SqL K H g (qs.map V.int)∧SqL K H a (r.map V.int)∧Rv.River r∧1≤r.length∧r.length≤900∧TabsOk T H ∧
  ∀ (l:Addr) (H1 H':Hp) (us:List V) (ls:List Lic),SameT T H H1→Ow T H1 H' [(l,.lst us)]→Dens K H1 us (ls.map dLic)→ls.length≤60→(∀ l∈ls,LicD r l)→Q (.ref l) H'
theorem ok_rol {f f1 f2:Addr} {fd fd1 fd2:FuncData} (D:Df K mg "_law_roll" s__law_roll ["cell","cells","below","kind"] f fd) (B:Blt mg) (D__law_draws:Df K mg "_law_draws" s__law_draws ["cell","many"] f1 fd1) (G__law_draws:FnOk P w K mg base CX0 1 f1 fd1 ["cell","many"] (sp_dws T))
    (D__law_line:Df K mg "_law_line" s__law_line ["xs","below","kind","far"] f2 fd2) (G__law_line:FnOk P w K mg base CX0 2 f2 fd2 ["xs","below","kind","far"] (sp_lin K T)):FnOk P w K mg base CX0 3 f fd ["cell","cells","below","kind"] (sp_rol K T):=by
  refine D.F.ok sc__law_roll (fun vs H Q E h=>?_) (fun cdv A outer s H vs Q E hr h=>?_)
  · obtain ⟨_,_,_,_,_,_,rfl,_⟩:=h;rfl
  · obtain ⟨c,kd,g,a,qs,r,rfl,hG,hA,hR,r1,r9,tk,q⟩:=h
    have O:=Ow.refl tk
    have s0:=O.same
    have hml:((r.map V.int).length:Int)=(r.length:Int):=by rw [List.length_map]
    refine ⟨_,(pss_cons (ps_set (i:=4) sc__law_roll.nd rfl (Or.inl rfl) (pe_op op_mod (pe_op op_fdiv (pv 0) pe_int) pe_int))
      (pss_consM (ps_if (PW.pt (pw_and (pt_cmpR op_eq (pe_op op_mod (pv 0) pe_int) pe_int (nomark _)) (pw_and1 (pt_cmpR op_lt (pe_callB call_len_seq rfl B.len PySem.boot_len (pa_cons (pv 2) pa_nil)) pe_int (nomark _)))))
        (pss_one (ps_set (i:=4) sc__law_roll.nd rfl (Or.inl rfl) (pe_op op_mod (pe_op op_fdiv (pv 0) pe_int) pe_int)))
        pss_nil)
      (pss_cons (ps_set (i:=5) sc__law_roll.nd rfl (Or.inl rfl) (pe_ix ix_list (pe_lst (pa_cons pe_int (pa_cons pe_int (pa_cons pe_int pa_nil)))) (pe_op op_mod (pe_op op_fdiv (pv 0) pe_int) pe_int) (fun _ _=>rfl)))
      (pss_cons (ps_set (i:=6) sc__law_roll.nd rfl (Or.inl rfl) (pe_lst pa_nil))
      (pss_cons (ps_for PassesOwn.never rfl (pi_range1 rfl B.range (pa_cons (pv 4) pa_nil)) (pg_name (i:=7) sc__law_roll.nd rfl (Or.inl rfl))
        (pss_one (ps_expr (pe_bm PySem.F.plainAttrs_list PySem.F.slot_list_append PySem.F.type_list_append mt_append (pv 6) (pa_cons (pe_call G__law_line (hr.mono (by decide)) rfl D__law_line.m D__law_line.F.kp D__law_line.b .nil pass0 (pa_cons (pe_call G__law_draws (hr.mono (by decide)) rfl D__law_draws.m D__law_draws.F.kp D__law_draws.b .nil pass0 (pa_cons (pe_op op_add (pe_op op_fdiv (pv 0) pe_int) (pe_op op_mul pe_int (pe_op op_add (pv 7) pe_int))) (pa_cons pe_int pa_nil))) (pa_cons (pv 2) (pa_cons (pv 3) (pa_cons (pv 5) pa_nil))))) pa_nil)))))
      (pss_cons (ps_for PassesOwn.never rfl (pi_list (pv 1)) (pg_name (i:=8) sc__law_roll.nd rfl (Or.inl rfl))
        (pss_cons (ps_set (i:=9) sc__law_roll.nd rfl (Or.inl rfl) (pe_call G__law_draws (hr.mono (by decide)) rfl D__law_draws.m D__law_draws.F.kp D__law_draws.b .nil pass0 (pa_cons (pv 8) (pa_cons pe_int pa_nil))))
        (pss_one (ps_if (PW.pt (pw_and (pt_cmpR op_eq (pe_op op_mod (pe_ix ix_list (pv 9) pe_int (fun _ _=>rfl)) pe_int) pe_int (nomark _)) (pw_and1 (pt_cmpR op_gt (pv 4) pe_int (nomark _)))))
          (pss_one (ps_asg (pe_call G__law_line (hr.mono (by decide)) rfl D__law_line.m D__law_line.F.kp D__law_line.b .nil pass0 (pa_cons (pe_slice sl_list (pv 9) (po_some pe_int) po_none) (pa_cons (pv 2) (pa_cons (pv 3) (pa_cons (pv 5) pa_nil))))) (pg_sub (pv 6) (pe_op op_mod (pv 8) (pv 4)) set_list)))
          pss_nil))))
      (pss_one (ps_ret (pv 6))))))))),?_⟩
    refine sl_25 ?_
    intro zu0 zu1 zu2 zu3 zu4 zu5 zu6 zu7 zu8 zu9 zu10
    refine ⟨_,rfl,_,_,rfl,rfl,⟨by decide,by decide⟩,_,_,rfl,rfl,(by show (0:Int)<19;decide),?_⟩
    refine ⟨fun σ H'=>Iv (∃ (n:Nat),σ=[some (.int c),some (.ref g),some (.ref a),some (.int kd),some (.int (n:Int)),none,none,none,none,none]∧n≤60∧H'=H),?_,?_⟩
    · have e1:((c / 8 % 19).toNat:Int)=c / 8 % 19:=Int.toNat_of_nonneg (Int.emod_nonneg _ (by decide))
      have e2:((c / 8 % 61).toNat:Int)=c / 8 % 61:=Int.toNat_of_nonneg (Int.emod_nonneg _ (by decide))
      have f1:Iv (∃ (n:Nat),[some (.int c),some (.ref g),some (.ref a),some (.int kd),some (.int (c / 8 % 19)),none,none,none,none,none]=[some (V.int c),some (.ref g),some (.ref a),some (.int kd),some (.int (n:Int)),none,none,none,none,none]∧n≤60∧H=H):=⟨trivial,(c / 8 % 19).toNat,by rw [e1],by omega,rfl⟩
      refine ⟨_,rfl,_,_,rfl,rfl,(by show (0:Int)<8;decide),rfl,_,rfl,ifI (fun hc=>?_) fun hc=>iteF f1⟩
      refine ⟨_,rfl,a,_,rfl,.inl hA,_,_,rfl,rfl,_,rfl,ifD (fun hc2=>?_) fun hc2=>f1⟩
      refine ⟨_,rfl,_,_,rfl,rfl,⟨by decide,by decide⟩,_,_,rfl,rfl,(by show (0:Int)<61;decide),?_⟩
      exact ⟨trivial,(c / 8 % 61).toNat,by rw [e2];rfl,by omega,rfl⟩
    rintro σ H1 ⟨-,n,rfl,n60,rfl⟩
    obtain ⟨far,hf,f0,f1⟩:=pick3f (w:=c / 488 % 3) (Int.emod_nonneg _ (by decide)) (Int.emod_lt_of_pos _ (by decide))
    refine ⟨szl,fun l3 h3=>?_⟩
    walk_at "nw"
    refine ⟨_,rfl,_,_,rfl,rfl,⟨by decide,by decide⟩,_,_,rfl,rfl,(by show (0:Int)<3;decide),l3,_,_,_,rfl,rfl,O.sq 0,hf,?_⟩
    have O:=O.tail
    refine ⟨szl,fun lr hlr=>?_⟩
    walk_at "nw"
    refine ⟨_,rfl,(n:Int),rfl,by omega,by omega,?_⟩
    rw [Int.toNat_natCast]
    refine for_range (n:=n) (fun i σ H'=>Iv (∃ (v7:Option V) (Hb:Hp) (us:List V) (ls:List Lic),σ=[some (.int c),some (.ref g),some (.ref a),some (.int kd),some (.int (n:Int)),some (.int far),some (.ref lr),v7,none,none]∧SameT T H1 Hb∧Dens K Hb us (ls.map dLic)∧ls.length=i∧(∀ l∈ls,LicD r l)∧Ow T Hb H' [(lr,.lst us)]))
      ⟨trivial,none,H1,[],[],rfl,SameT.refl tk,.nil,rfl,(fun l hl=>nomatch hl),O⟩ ?_ ?_
    · rintro i σ H3 hi ⟨-,v7,Hb,us,ls,rfl,sb,d0,hli,hok,O⟩
      have hul:us.length=ls.length:=by rw [d0.length,List.length_map]
      refine ⟨_,rfl,.inl ⟨rfl,_,O.sq 0⟩,_,rfl,_,_,rfl,rfl,⟨by decide,by decide⟩,_,rfl,_,_,rfl,rfl,_,_,rfl,rfl,.inl ⟨by decide,by decide⟩,_,_,rfl,rfl,_,4,rfl,by decide,by decide,O.same.t1,O.gotT fun lx H4 xs O e=>?_⟩
      obtain ⟨ys,rfl,hyl,hyb⟩:=e
      have hyl:ys.length=4:=hyl
      refine ⟨_,rfl,_,rfl,_,rfl,lx,a,ys,r,kd,far,rfl,O.sq 0,by omega,(sb.trans O.same).seq hA,hR,r1,r9,f0,f1,O.same.t1,O.gotTT fun t H5 ts O e=>?_⟩
      obtain ⟨l,rfl,hl⟩:=e
      refine ⟨lr,_,_,rfl,rfl,O.get 2,small100' (by omega),?_⟩
      walk_at "pt"
      obtain ⟨Hc,O,sc,en⟩:=O.frz
      refine ⟨trivial,_,Hc,us++[.ref t],ls++[l],rfl,sb.trans sc,?_,by rw [List.length_append,hli];rfl,fun x hx=>?_,O.tail⟩
      · rw [List.map_append]
        exact (d0.mo sc).append (.cons (Den.lic (SqT.of en)) .nil)
      · rcases List.mem_append.mp hx with e | e
        · exact hok x e
        · have e2:x=l:=by simpa using e
          rw [e2];exact hl
    rintro σ H3 ⟨-,v7,Hb,us,ls,rfl,sb,d0,hli,hok,O⟩
    refine ⟨_,rfl,g,rfl,⟨_,(sb.trans O.same).seq hG⟩,?_⟩
    refine for_list (K:=K) (xs:=qs.map V.int) (fun i σ H'=>Iv (∃ (v8 v9:Option V) (Hb:Hp) (us:List V) (ls:List Lic),σ=[some (.int c),some (.ref g),some (.ref a),some (.int kd),some (.int (n:Int)),some (.int far),some (.ref lr),v7,v8,v9]∧SameT T H1 Hb∧Dens K Hb us (ls.map dLic)∧ls.length=n∧(∀ l∈ls,LicD r l)∧Ow T Hb H' [(lr,.lst us)]))
      ⟨trivial,none,none,Hb,us,ls,rfl,sb,d0,hli,hok,O⟩ (fun _ _ _ _ ⟨_,_,_,_,_,_,_,sb,_,_,_,O⟩=>(sb.trans O.same).seq hG) ?_ ?_
    · rintro i y σ H4 hy ⟨-,v8,v9,Hb,us,ls,rfl,sb,d0,hli,hok,O⟩
      obtain ⟨z,hz,rfl⟩:=ints_get hy
      have hul:us.length=ls.length:=by rw [d0.length,List.length_map]
      refine ⟨_,rfl,z,5,rfl,by decide,by decide,O.same.t1,O.gotT fun lx H5 xs O e=>?_⟩
      obtain ⟨ys,rfl,hyl,hyb⟩:=e
      have hyl:ys.length=5:=hyl
      clear hyb
      refine ⟨_,rfl,lx,_,0,_,rfl,rfl,O.sq 0,ints_atZ (by omega) (by omega),_,_,rfl,rfl,(by show (0:Int)<4;decide),rfl,_,rfl,ifI (fun hc=>?_) fun hc=>iteF ⟨trivial,_,_,Hb,us,ls,rfl,sb,d0,hli,hok,O.tail⟩⟩
      refine ⟨_,rfl,_,_,rfl,rfl,_,rfl,ifD (fun hc2=>?_) fun hc2=>⟨trivial,_,_,Hb,us,ls,rfl,sb,d0,hli,hok,O.tail⟩⟩
      have j0:=Int.emod_nonneg z (show (n:Int)≠0 by omega)
      have j1:=Int.emod_lt_of_pos z (show (0:Int)<(n:Int) by omega)
      refine ⟨_,rfl,1,rfl,lx,_,rfl,O.sq 0,fun lc hlc=>?_⟩
      walk_at "nw"
      rw [show cutV (ys.map V.int) (some 1) none=(ys.drop 1).map V.int from cut_drop ys 1] at O
      refine ⟨_,rfl,_,rfl,_,rfl,lc,a,ys.drop 1,r,kd,far,rfl,O.sq 0,by rw [List.length_drop];omega,(sb.trans O.same).seq hA,hR,r1,r9,f0,f1,O.same.t1,O.gotTT fun t H6 ts O e=>?_⟩
      obtain ⟨l,rfl,hl⟩:=e
      refine ⟨_,rfl,_,rfl,_,rfl,_,_,rfl,rfl,(by show (0:Int)<(n:Int);omega),?_⟩
      refine ow_set O 3 rfl (ixN_Z j0 (by omega)) fun H7 O=>?_
      obtain ⟨Hc,O,sc,en⟩:=O.frz
      refine ⟨trivial,_,_,Hc,us.set (z % (n:Int)).toNat (.ref t),ls.set (z % (n:Int)).toNat l,rfl,sb.trans sc,?_,by rw [List.length_set];exact hli,fun x hx=>?_,O.tail.tail⟩
      · rw [List.map_set]
        exact Dens.set (Den.lic (SqT.of en)) _ (d0.mo sc)
      · rcases List.mem_or_eq_of_mem_set hx with e | e
        · exact hok x e
        · rw [e];exact hl
    rintro σ H4 ⟨-,v8,v9,Hb,us,ls,rfl,sb,d0,hli,hok,O⟩
    exact ⟨_,rfl,q lr Hb _ us ls sb O d0 (by omega) hok⟩
theorem getD_nn {s:List Int} (h:∀ x∈s,0≤x) (k:Nat):0≤s.getD k 0:=by
  by_cases hk:k<s.length
  · exact h _ (getD_mem' hk)
  · rw [List.getD_eq_getElem?_getD,List.getElem?_eq_none (by omega)];exact Int.le_refl _
theorem set_nn {s:List Int} {k:Nat} {z:Int} (h:∀ x∈s,0≤x) (hz:0≤z):∀ x∈s.set k z,0≤x:=fun x hx=>by
  rcases List.mem_or_eq_of_mem_set hx with e | e
  · exact h x e
  · rw [e];exact hz
theorem leftS_le {ks:List Int} {m:Int × Int × Int} (h:0≤m.2.2) (i:Nat):(leftS ks m).getD i 0≤ks.getD i 0:=by
  unfold leftS
  rw [List.getD_eq_getElem?_getD,List.getElem?_set]
  by_cases e:m.1.toNat=i
  · rw [if_pos e]
    by_cases hl:m.1.toNat<ks.length
    · rw [if_pos hl,e];show ks.getD i 0 - m.2.2≤ks.getD i 0;omega
    · rw [if_neg hl,List.getD_eq_getElem?_getD,List.getElem?_eq_none (by omega)];exact Int.le_refl _
  · rw [if_neg e,← List.getD_eq_getElem?_getD];exact Int.le_refl _
theorem leftF_le:∀ (ms:List (Int × Int × Int)) (ks:List Int),(∀ m∈ms,0≤m.2.2)→∀ i,(leftF ks ms).getD i 0≤ks.getD i 0
  | [],ks,_,i=>Int.le_refl _
  | m :: ms,ks,h,i=>Int.le_trans (leftF_le ms (leftS ks m) (fun x hx=>h x (List.mem_cons_of_mem _ hx)) i) (leftS_le (h m List.mem_cons_self) i)
theorem lessL_nn {cs ks:List Int} {ps:List (Int × Int × Int)} (hc:∀ x∈cs,0≤x) (hk:∀ j,j<ps.length→ks.getD j 0≤(ps.getD j (0,0,0)).2.1):∀ i,i≤ps.length→∀ x∈lessL cs ps ks i,0≤x
  | 0,_=>hc
  | i + 1,hi=>by
    have ih:=lessL_nn hc hk i (by omega)
    rw [lessL]
    refine set_nn ih ?_
    have h1:=getD_nn hc (ps.getD i (0,0,0)).1.toNat
    have h2:=hk i (by omega)
    omega
theorem lessL_ne {cs ks:List Int} {ps:List (Int × Int × Int)} {n:Nat}:∀ i,(∀ j,j<i→(ps.getD j (0,0,0)).1.toNat≠n)→(lessL cs ps ks i).getD n 0=cs.getD n 0
  | 0,_=>rfl
  | i + 1,h=>by
    rw [lessL,List.getD_eq_getElem?_getD,List.getElem?_set_ne (h i (by omega)),← List.getD_eq_getElem?_getD]
    exact lessL_ne i fun j hj=>h j (by omega)
theorem nd_num {ps:List (Int × Int × Int)} (nd:(ps.map (·.1)).Nodup) (h0:∀ p∈ps,0≤p.1) {i j:Nat} (hj:j<i) (hi:i<ps.length):(ps.getD j (0,0,0)).1.toNat≠(ps.getD i (0,0,0)).1.toNat:=fun e=>by
  have ei:ps[i]?=some ps[i]:=List.getElem?_eq_getElem hi
  have ej:ps[j]?=some ps[j]:=List.getElem?_eq_getElem (by omega)
  rw [getD_some ei,getD_some ej] at e
  have a:=h0 _ (List.getElem_mem hi)
  have b:=h0 _ (List.getElem_mem (show j<ps.length by omega))
  have e2:ps[j].1=ps[i].1:=by omega
  have:=(List.getElem_inj (h₀:=by rw [List.length_map];omega) (h₁:=by rw [List.length_map];exact hi) nd (i:=j) (j:=i)).mp (by rw [List.getElem_map,List.getElem_map];exact e2)
  omega
theorem Sh.seven {n:Nat} {a b c d e f g:PyData} (h1:Sh n a) (h2:Sh n b) (h3:Sh n c) (h4:Sh n d) (h5:Sh n e) (h6:Sh n f) (h7:Sh n g):Sh (n + 1) (.list [a,b,c,d,e,f,g]):=.list fun x hx=>by
  simp at hx
  rcases hx with z | z | z | z | z | z | z <;> (rw [z];assumption)
theorem dayL_nnL {ls:List Lic} (h:∀ l∈ls,0≤l.day) (k:Nat):0≤dayL ls k:=by
  unfold dayL
  cases e:ls[k]? with
  | none=>exact Int.le_refl _
  | some l=>exact h l (List.mem_of_getElem? e)
theorem dealt_eq {r s:List Int} {ls:List Lic} {cs xs ys:List Int} (hd:∀ l∈ls,0≤l.day) (a:Dealt r s ls cs xs) (b:Dealt r s ls cs ys):ys=xs:=by
  have xl:=a.len
  have yl:=b.len
  refine List.ext_getElem? fun i=>?_
  by_cases hi:i<ls.length
  · have:=Tn.unique (fun k _=>dayL_nnL hd k) b.fit b.shown a.fit a.shown i hi
    rw [getD_get? (ns:=ys) (by omega),getD_get? (ns:=xs) (by omega)]
    exact congrArg some this
  · rw [List.getElem?_eq_none (by omega),List.getElem?_eq_none (by omega)]
theorem eqv_roll0 (ls:List Lic):PyData.eqv (.list (ls.map dLic)) (.list [])=decide (ls.length=0):=by
  cases ls with
  | nil=>rfl
  | cons p ps=>rfl
abbrev s__law_put_in:Stmt:=top 54
theorem sc__law_put_in:FnScope ["cells","springs","calls","roll","kind","one","xs"] ["cells","springs","calls","roll","kind"] (defScope s__law_put_in):=⟨rfl,rfl,rfl,by decide +kernel,rfl,by decide +kernel,by decide +kernel⟩
def sp_put (K:PySem.W.Frag) (T:Tabs):Sp:=fun vs H Q _=>∃ (u b g c:Addr) (qs s cs:List Int) (rs:List V) (ls:List Lic) (kd:Int) (Hb:Hp),vs=[.ref u,.ref b,.ref g,.ref c,.int kd]∧Ow T Hb H [(b,.lst (s.map V.int)),(g,.lst (cs.map V.int))]∧SqL K Hb u (qs.map V.int)∧SqL K Hb c rs∧Dens K Hb rs (ls.map dLic)∧cs.length=ls.length∧1≤s.length∧(∀ x∈s,0≤x)∧(∀ x∈cs,0≤x)∧(∀ l∈ls,0≤l.most) ∧
  ∀ (H':Hp) (s' cs':List Int),Ow T Hb H' [(b,.lst (s'.map V.int)),(g,.lst (cs'.map V.int))]→s'.length=s.length→cs'.length=cs.length→(∀ x∈s',0≤x)→(∀ x∈cs',0≤x)→Q .non H'
theorem ok_put {f f1 f2 f3:Addr} {fd fd1 fd2 fd3:FuncData} (D:Df K mg "_law_put_in" s__law_put_in ["cells","springs","calls","roll","kind"] f fd) (B:Blt mg) (D__law_draws:Df K mg "_law_draws" s__law_draws ["cell","many"] f1 fd1) (G__law_draws:FnOk P w K mg base CX0 1 f1 fd1 ["cell","many"] (sp_dws T))
    (D__law_amount:Df K mg "_law_amount" s__law_amount ["number","kind"] f2 fd2) (G__law_amount:FnOk P w K mg base CX0 1 f2 fd2 ["number","kind"] sp_amt)
    (D__law_call:Df K mg "_law_call" s__law_call ["number","most"] f3 fd3) (G__law_call:FnOk P w K mg base CX0 2 f3 fd3 ["number","most"] (sp_cal T)):FnOk P w K mg base CX0 3 f fd ["cells","springs","calls","roll","kind"] (sp_put K T):=by
  refine D.F.ok sc__law_put_in (fun vs H Q E h=>?_) (fun cdv A outer s H vs Q E hr h=>?_)
  · obtain ⟨_,_,_,_,_,_,_,_,_,_,_,rfl,_⟩:=h;rfl
  · obtain ⟨u,b,g,c,qs,s,cs,rs,ls,kd,Hb,rfl,O,hU,hC,d0,hcl,s1,hsn,hcn,hmn,q⟩:=h
    have hu:=hr.units
    have hrl:rs.length=ls.length:=by rw [d0.length,List.length_map]
    refine ⟨_,(pss_one (ps_for PassesOwn.never rfl (pi_list (pv 0)) (pg_name (i:=5) sc__law_put_in.nd rfl (Or.inl rfl))
        (pss_cons (ps_set (i:=6) sc__law_put_in.nd rfl (Or.inl rfl) (pe_call G__law_draws (hr.mono (by decide)) rfl D__law_draws.m D__law_draws.F.kp D__law_draws.b .nil pass0 (pa_cons (pv 5) (pa_cons pe_int pa_nil))))
        (pss_consM (ps_if (pt_cmpR op_eq (pe_op op_mod (pe_ix ix_list (pv 6) pe_int (fun _ _=>rfl)) pe_int) pe_int (nomark _))
          (pss_one (ps_asg (pe_call G__law_amount (hr.mono (by decide)) rfl D__law_amount.m D__law_amount.F.kp D__law_amount.b .nil pass0 (pa_cons (pe_ix ix_list (pv 6) pe_int (fun _ _=>rfl)) (pa_cons (pv 4) pa_nil))) (pg_sub (pv 1) (pe_op op_mod (pe_ix ix_list (pv 6) pe_int (fun _ _=>rfl)) (pe_callB call_len_seq rfl B.len PySem.boot_len (pa_cons (pv 1) pa_nil))) set_list)))
          pss_nil)
        (pss_one (ps_if (PW.pt (pw_and (pt_cmpR op_eq (pe_op op_mod (pe_ix ix_list (pv 6) pe_int (fun _ _=>rfl)) pe_int) pe_int (nomark _)) (pw_and1 (pt_cmpR (op_neD hu) (pv 3) (pe_lst pa_nil) (nomark _)))))
          (pss_one (ps_asg (pe_call G__law_call (hr.mono (by decide)) rfl D__law_call.m D__law_call.F.kp D__law_call.b .nil pass0 (pa_cons (pe_ix ix_list (pv 6) pe_int (fun _ _=>rfl)) (pa_cons (pe_ix ix_tup (pe_ix ix_list (pv 3) (pe_op op_mod (pv 5) (pe_callB call_len_seq rfl B.len PySem.boot_len (pa_cons (pv 3) pa_nil))) (fun _ _=>rfl)) pe_int (fun _ _=>rfl)) pa_nil))) (pg_sub (pv 2) (pe_op op_mod (pv 5) (pe_callB call_len_seq rfl B.len PySem.boot_len (pa_cons (pv 3) pa_nil))) set_list)))
          pss_nil)))))),?_⟩
    refine sl_26 ?_
    intro zu0 zu1 zu2 zu3 zu4
    refine ⟨_,rfl,u,rfl,⟨_,O.same.seq hU⟩,?_⟩
    refine for_list (K:=K) (xs:=qs.map V.int) (fun i σ H'=>Iv (∃ (v5 v6:Option V) (s' cs':List Int),σ=[some (.ref u),some (.ref b),some (.ref g),some (.ref c),some (.int kd),v5,v6]∧s'.length=s.length∧cs'.length=cs.length∧(∀ x∈s',0≤x)∧(∀ x∈cs',0≤x)∧Ow T Hb H' [(b,.lst (s'.map V.int)),(g,.lst (cs'.map V.int))]))
      ⟨trivial,none,none,s,cs,rfl,rfl,rfl,hsn,hcn,O⟩ (fun _ _ _ _ ⟨_,_,_,_,_,_,_,_,_,_,O⟩=>O.same.seq hU) ?_ ?_
    · clear O
      rintro i y σ H3 hy ⟨-,v5,v6,s',cs',rfl,hs',hc',sn,cn,O⟩
      obtain ⟨z,hz,rfl⟩:=ints_get hy
      have hsm:((s'.map V.int).length:Int)=(s'.length:Int):=by rw [List.length_map]
      refine ⟨_,rfl,z,5,rfl,by decide,by decide,O.same.t1,O.gotT fun lx H4 xs O e=>?_⟩
      obtain ⟨ys,rfl,hyl,hyb⟩:=e
      have hyl:ys.length=5:=hyl
      clear hyb
      refine ⟨fun σ H'=>Iv (∃ (s':List Int),σ=[some (.ref u),some (.ref b),some (.ref g),some (.ref c),some (.int kd),some (.int z),some (.ref lx)]∧s'.length=s.length∧(∀ x∈s',0≤x)∧Ow T Hb H' [(lx,.lst (ys.map V.int)),(b,.lst (s'.map V.int)),(g,.lst (cs'.map V.int))]),?_,?_⟩
      · refine ⟨_,rfl,lx,_,0,_,rfl,rfl,O.sq 0,ints_atZ (by omega) (by omega),_,_,rfl,rfl,(by show (0:Int)<4;decide),rfl,_,rfl,ifI (fun hc=>?_) fun hc=>⟨trivial,s',rfl,hs',sn,O⟩⟩
        have j0:=Int.emod_nonneg (ys.getD (1:Int).toNat 0) (show (s'.length:Int)≠0 by omega)
        have j1:=Int.emod_lt_of_pos (ys.getD (1:Int).toNat 0) (show (0:Int)<(s'.length:Int) by omega)
        refine ⟨_,rfl,lx,_,2,_,rfl,rfl,O.sq 0,ints_atZ (by omega) (by omega),_,rfl,_,_,rfl,fun x x0 x1=>?_⟩
        refine ⟨_,rfl,_,rfl,lx,_,1,_,rfl,rfl,O.sq 0,ints_atZ (by omega) (by omega),_,rfl,b,_,rfl,.inl (O.sq 1),_,_,rfl,rfl,(by rw [hsm];omega),?_⟩
        dsimp only
        rw [hsm]
        refine ow_set O 1 rfl (ixN_Z j0 (by rw [hsm];exact j1)) fun H5 O=>?_
        refine ⟨trivial,s'.set (ys.getD (1:Int).toNat 0 % (s'.length:Int)).toNat x,rfl,by rw [List.length_set];exact hs',set_nn sn x0,?_⟩
        rw [List.map_set];exact O
      clear O sn hs' hsm
      rintro σ H4 ⟨-,s',rfl,hs',sn,O⟩
      refine ⟨_,rfl,lx,_,0,_,rfl,rfl,O.sq 0,ints_atZ (by omega) (by omega),_,_,rfl,rfl,(by show (0:Int)<4;decide),rfl,_,rfl,ifI (fun hc=>?_) fun hc=>iteF ⟨trivial,_,_,s',cs',rfl,hs',hc',sn,cn,O.tail⟩⟩
      refine ⟨_,rfl,szl,fun l0 h0=>?_⟩
      walk_at "nw"
      refine ⟨_,_,Den.list (O.same.seq hC) (d0.mo O.same),Den.list (ds:=[]) (O.sq 0) .nil,(Sh.roll 0 ls).ok (by decide),(Sh.mvs 0 []).ok (by decide),?_⟩
      have O:=O.tail
      rw [if_pos rfl,eqv_roll0]
      refine ⟨_,rfl,ifN (ifD (fun he=>?_) fun he=>?_)⟩
      · exact ⟨trivial,_,_,s',cs',rfl,hs',hc',sn,cn,O.tail⟩
      have j0:=Int.emod_nonneg z (show (rs.length:Int)≠0 by omega)
      have j1:=Int.emod_lt_of_pos z (show (0:Int)<(rs.length:Int) by omega)
      obtain ⟨jn,hjn⟩:=Int.eq_ofNat_of_zero_le j0
      obtain ⟨l,hl⟩:∃ l,ls[jn]?=some l:=⟨_,List.getElem?_eq_getElem (by omega)⟩
      obtain ⟨al,hal,hT⟩:=d0.lic_at hl
      refine ⟨_,rfl,lx,_,2,_,rfl,rfl,O.sq 0,ints_atZ (by omega) (by omega),_,rfl,_,rfl,_,rfl,c,_,rfl,.inl (O.same.seq hC),_,_,rfl,rfl,(by show (0:Int)<(rs.length:Int);omega),c,_,_,_,rfl,rfl,O.same.seq hC,(by rw [hjn];exact atI_nat hal),al,_,3,_,rfl,rfl,hT.mo O.same,rfl,_,_,rfl,hmn l (List.mem_of_getElem? hl),O.same.t1,fun x H6 x0 sm=>?_⟩
      have O:=O.callT sm
      refine ⟨_,rfl,_,rfl,_,rfl,c,_,rfl,.inl (O.same.seq hC),_,_,rfl,rfl,(by show (0:Int)<(rs.length:Int);omega),?_⟩
      refine ow_set O 2 rfl (ixN_Z j0 (by rw [List.length_map];omega)) fun H7 O=>?_
      refine ⟨trivial,_,_,s',cs'.set (z % (rs.length:Int)).toNat x,rfl,hs',by rw [List.length_set];exact hc',sn,set_nn cn x0,?_⟩
      rw [List.map_set];exact O.tail
    rintro σ H3 ⟨-,v5,v6,s',cs',rfl,hs',hc',sn,cn,O⟩
    exact q _ s' cs' O hs' hc' sn cn
abbrev s__law_ponds:Stmt:=top 55
theorem sc__law_ponds:FnScope ["xs","roll","kind","order","ponds","k","pair","leak"] ["xs","roll","kind"] (defScope s__law_ponds):=⟨rfl,rfl,rfl,by decide +kernel,rfl,by decide +kernel,by decide +kernel⟩
structure PondsOk (ls:List Lic) (ps:List (Int × Int × Int)):Prop where
  len:ps.length≤10
  nd:(ps.map (·.1)).Nodup
  rg:∀ p∈ps,0≤p.1∧p.1<(ls.length:Int)∧0≤p.2.1∧0≤p.2.2∧p.2.2≤1000
  bk:∀ p∈ps,∃ l,ls[p.1.toNat]?=some l∧l.back=-1
def sp_pon (K:PySem.W.Frag) (T:Tabs):Sp:=fun vs H Q _=>∃ (kd:Int) (x b:Addr) (ys:List Int) (rs:List V) (ls:List Lic),vs=[.ref x,.ref b,.int kd]∧SqL K H x (ys.map V.int)∧24 + ls.length≤ys.length∧SqL K H b rs∧Dens K H rs (ls.map dLic)∧ls.length≤60∧TabsOk T H ∧
  ∀ (l:Addr) (H1 H':Hp) (us:List V) (ps:List (Int × Int × Int)),SameT T H H1→Ow T H1 H' [(l,.lst us)]→Dens K H1 us (ps.map dMv)→PondsOk ls ps→Q (.ref l) H'
theorem pw_snoc {qs:List (Int × Int)} {i:Nat} {x:Int} (h:(qs.map (·.2)).Pairwise (·<·)) (h2:∀ z∈qs,0≤z.2∧z.2<(i:Int)):((qs++[(x,(i:Int))]).map (·.2)).Pairwise (·<·):=by
  rw [List.map_append,List.pairwise_append]
  refine ⟨h,List.pairwise_singleton _ _,fun a ha b hb=>?_⟩
  obtain ⟨z,hz,rfl⟩:=List.mem_map.mp ha
  have:b=(i:Int):=by simpa using hb
  rw [this];exact (h2 z hz).2
theorem pick5 {x:Int} {w:Int} (hx0:0≤x) (hx1:x≤1000) (hw0:0≤w) (hw1:w<5):∃ v:Int,atI [V.int 0,V.int 1,V.int 999,V.int 1000,V.int x] w=some (V.int v)∧0≤v∧v≤1000:=by
  rcases (by omega:w=0∨w=1∨w=2∨w=3∨w=4) with rfl | rfl | rfl | rfl | rfl
  · exact ⟨0,rfl,by decide,by decide⟩
  · exact ⟨1,rfl,by decide,by decide⟩
  · exact ⟨999,rfl,by decide,by decide⟩
  · exact ⟨1000,rfl,by decide,by decide⟩
  · exact ⟨x,rfl,hx0,hx1⟩
theorem ok_pon {f f1:Addr} {fd fd1:FuncData} (D:Df K mg "_law_ponds" s__law_ponds ["xs","roll","kind"] f fd) (B:Blt mg) (D__law_amount:Df K mg "_law_amount" s__law_amount ["number","kind"] f1 fd1) (G__law_amount:FnOk P w K mg base CX0 1 f1 fd1 ["number","kind"] sp_amt):FnOk P w K mg base CX0 2 f fd ["xs","roll","kind"] (sp_pon K T):=by
  refine D.F.ok sc__law_ponds (fun vs H Q E h=>?_) (fun cdv A outer s H vs Q E hr h=>?_)
  · obtain ⟨_,_,_,_,_,_,rfl,_⟩:=h;rfl
  · obtain ⟨kd,lx,b,ys,rs,ls,rfl,hX,hyl,hB,d0,hl60,tk,q⟩:=h
    have hrl:rs.length=ls.length:=by rw [d0.length,List.length_map]
    have O:=Ow.refl tk
    have s0:=O.same
    refine ⟨_,(pss_cons (ps_set (i:=3) sc__law_ponds.nd rfl (Or.inl rfl) (pe_callB call_sortedP rfl B.sorted PyProof.Rows.boot_sorted (pa_cons (pe_comp (defScope s__law_ponds) rfl ["xs","roll","kind","order","ponds","k","pair","leak"] rfl ["k","xs","roll"] [none,some 0,some 1] (by decide +kernel) (by decide +kernel) (by decide +kernel) rfl (pi_range1 rfl B.range (pa_cons (pe_callB call_len_seq rfl B.len PySem.boot_len (pa_cons (pv 1) pa_nil)) pa_nil)) (fun _ _ _=>(pg_name (i:=0) (show (["k","xs","roll"]:List Str).Nodup by decide +kernel) rfl (Or.inl rfl))) (fun _ _ _=>(pts_one (pt_cmpR op_eq (pe_ix (ix_tupK (K:=K) rfl) (pe_ix (ix_listK (K:=K) rfl) (pv 2) (pv 0) (fun _ _=>rfl)) pe_int (fun _ _=>rfl)) (pe_un un_neg pe_int) (nomark _)))) (fun _ _ _=>(pe_tup (pa_cons (pe_ix (ix_listK (K:=K) rfl) (pv 1) (pe_op op_add pe_int (pv 0)) (fun _ _=>rfl)) (pa_cons (pv 0) pa_nil))))) pa_nil)))
      (pss_cons (ps_set (i:=4) sc__law_ponds.nd rfl (Or.inl rfl) (pe_lst pa_nil))
      (pss_cons (ps_for PassesOwn.never rfl (pi_enum rfl B.enumerate (pa_cons (pe_slice sl_list (pv 3) po_none (po_some (pe_op op_mod (pe_ix ix_list (pv 0) pe_int (fun _ _=>rfl)) pe_int))) pa_nil)) (pg_tup rfl (pgs_cons (pg_name (i:=5) sc__law_ponds.nd rfl (Or.inl rfl)) (pgs_cons (pg_name (i:=6) sc__law_ponds.nd rfl (Or.inl rfl)) pgs_nil)))
        (pss_cons (ps_set (i:=7) sc__law_ponds.nd rfl (Or.inl rfl) (pe_ix ix_list (pe_lst (pa_cons pe_int (pa_cons pe_int (pa_cons pe_int (pa_cons pe_int (pa_cons (pe_op op_mod (pe_op op_fdiv (pe_ix ix_list (pv 0) (pe_op op_add (pe_op op_mul pe_int (pv 5)) pe_int) (fun _ _=>rfl)) pe_int) pe_int) pa_nil)))))) (pe_op op_mod (pe_ix ix_list (pv 0) (pe_op op_add (pe_op op_mul pe_int (pv 5)) pe_int) (fun _ _=>rfl)) pe_int) (fun _ _=>rfl)))
        (pss_one (ps_expr (pe_bm PySem.F.plainAttrs_list PySem.F.slot_list_append PySem.F.type_list_append mt_append (pv 4) (pa_cons (pe_tup (pa_cons (pe_ix ix_tup (pv 6) pe_int (fun _ _=>rfl)) (pa_cons (pe_call G__law_amount (hr.mono (by decide)) rfl D__law_amount.m D__law_amount.F.kp D__law_amount.b .nil pass0 (pa_cons (pe_ix ix_list (pv 0) (pe_op op_mul pe_int (pv 5)) (fun _ _=>rfl)) (pa_cons (pv 2) pa_nil))) (pa_cons (pv 7) pa_nil)))) pa_nil))))))
      (pss_one (ps_ret (pv 4)))))),?_⟩
    refine sl_27 ?_
    intro zu0 zu1 zu2 zu3 zu4
    /- order -/
    refine ⟨_,rfl,b,_,rfl,.inl hB,(rs.length:Int),rfl,by omega,by omega,fun lo hlo=>?_⟩
    refine comp_range (fun i τ H'=>Iv (∃ (v0:Option V) (Hc:Hp) (us:List V) (qs:List (Int × Int)),τ=[v0,some (.ref lx),some (.ref b)]∧SameT T H Hc∧Dens K Hc us (qs.map dPr)∧(qs.map (·.2)).Pairwise (·<·)∧(∀ z∈qs,0≤z.2∧z.2<(i:Int))∧(∀ z∈qs,∃ l,ls[z.2.toNat]?=some l∧l.back=-1)∧qs.length≤i∧Ow T Hc H' [(lo,.lst us)]))
      ⟨trivial,none,H,[],[],rfl,SameT.refl tk,.nil,List.Pairwise.nil,(fun z hz=>nomatch hz),(fun z hz=>nomatch hz),Nat.le_refl _,O.mk' hlo rfl⟩ ?_ ?_
    · rintro i τ H3 hi ⟨-,v0,Hc,us,qs,rfl,sc,d1,hpw,hrg,hbk,hql,O⟩
      rw [show (0:Int) + (i:Int)=(i:Int) by omega]
      have hi2:i<ls.length:=by rw [Int.toNat_natCast] at hi;omega
      obtain ⟨li,hli⟩:∃ li,ls[i]?=some li:=⟨_,List.getElem?_eq_getElem hi2⟩
      obtain ⟨al,hal,hT⟩:=d0.lic_at hli
      have hul:us.length=qs.length:=by rw [d1.length,List.length_map]
      have wk:∀ z∈qs,0≤z.2∧z.2<((i + 1:Nat):Int):=fun z hz=>by have:=hrg z hz;omega
      refine ⟨_,rfl,_,rfl,b,_,_,_,rfl,rfl,(sc.trans O.same).seq hB,atI_nat hal,al,_,2,_,rfl,rfl,(hT.mo sc).mo O.same,rfl,_,rfl,rfl,_,rfl,ifI (fun hc=>?_) fun hc=>?_⟩
      · refine ⟨_,rfl,_,rfl,_,_,rfl,rfl,lx,_,_,_,rfl,rfl,(sc.trans O.same).seq hX,ints_atZ (by omega) (by omega),_,rfl,szl,fun t ht=>?_⟩
        walk_at "nw"
        refine ⟨_,O.get 1,small100' (by omega),?_⟩
        walk_at "pt"
        obtain ⟨Hd,O,sd,en⟩:=O.frz
        refine ⟨trivial,_,Hd,us++[.ref t],qs++[(ys.getD (24 + (i:Int)).toNat 0,(i:Int))],rfl,sc.trans sd,?_,pw_snoc hpw hrg,fun z hz=>?_,fun z hz=>?_,by rw [List.length_append];simp;omega,O⟩
        · rw [List.map_append]
          exact (d1.mo sd).append (.cons (Den.tup (ns:=[ys.getD (24 + (i:Int)).toNat 0,(i:Int)]) (SqT.of en)) .nil)
        · rcases List.mem_append.mp hz with e | e
          · exact wk z e
          · have:z=(ys.getD (24 + (i:Int)).toNat 0,(i:Int)):=by simpa using e
            rw [this];exact ⟨by omega,by show (i:Int)<_;omega⟩
        · rcases List.mem_append.mp hz with e | e
          · exact hbk z e
          · have:z=(ys.getD (24 + (i:Int)).toNat 0,(i:Int)):=by simpa using e
            rw [this]
            exact ⟨li,hli,hc⟩
      · exact ⟨trivial,_,Hc,us,qs,rfl,sc,d1,hpw,wk,hbk,by omega,O⟩
    rintro τ H3 ⟨-,v0,Hc,us,qs,rfl,sc,d1,hpw,hrg,hbk,hql,O⟩
    rw [Int.toNat_natCast] at hrg hql
    have hnd:(qs.map (·.2)).Nodup:=hpw.imp fun h=>Int.ne_of_lt h
    refine ⟨lo,us,qs,rfl,O.sq 0,d1.mo O.same,by omega,fun z hz=>⟨(hrg z hz).1,by have:=(hrg z hz).2;omega⟩,hnd,fun lz pq hlz hperm=>?_⟩
    have hp2:=perm_getD (d:=((0,0):Int × Int)) hperm
    have d2:=d1.pick pq fun i hi=>List.mem_range.mp (hperm.mem_iff.mp hi)
    walk_at "nw"
    generalize (pq.map fun i=>us.getD i .non)=zs at O d2
    generalize (pq.map fun i=>qs.getD i ((0,0):Int × Int))=ps at d2 hp2
    have O:=O.two
    have hps:∀ z∈ps,(0≤z.2∧z.2<(rs.length:Int))∧∃ l,ls[z.2.toNat]?=some l∧l.back=-1:=fun z hz=>⟨hrg z (hp2.mem_iff.mp hz),hbk z (hp2.mem_iff.mp hz)⟩
    have hpn:(ps.map (·.2)).Nodup:=(hp2.map _).nodup_iff.mpr hnd
    clear hrg hnd hpw hbk
    refine ⟨szl,fun lp hlp=>?_⟩
    walk_at "nw"
    have hX2:=sc.seq hX
    have w0:=Int.emod_nonneg (ys.getD (20:Int).toNat 0) (show (11:Int)≠0 by decide)
    have w1:=Int.emod_lt_of_pos (ys.getD (20:Int).toNat 0) (show (0:Int)<11 by decide)
    refine ⟨_,rfl,_,rfl,lx,_,20,_,rfl,rfl,O.same.seq hX2,ints_atZ (by omega) (by omega),_,_,rfl,rfl,(by show (0:Int)<11;decide),_,rfl,lz,_,rfl,O.sq 1,fun l9 h9=>?_⟩
    walk_at "nw"
    generalize ys.getD (20:Int).toNat 0 % 11=w at O w0 w1
    obtain ⟨wn,rfl⟩:=Int.eq_ofNat_of_zero_le w0
    rw [cut_takeV] at O
    have dt:Dens K Hc (zs.take wn) ((ps.take wn).map dPr):=by rw [List.map_take];exact d2.take wn
    have hpt:∀ z∈ps.take wn,(0≤z.2∧z.2<(rs.length:Int))∧∃ l,ls[z.2.toNat]?=some l∧l.back=-1:=fun z hz=>hps z (List.mem_of_mem_take hz)
    have hpm:((ps.take wn).map (·.2)).Nodup:=by rw [List.map_take];exact hpn.sublist (List.take_sublist _ _)
    have hptl:(ps.take wn).length≤10:=by rw [List.length_take];omega
    generalize zs.take wn=zt at O dt
    generalize ps.take wn=pt at dt hpt hpm hptl
    have hztl:zt.length=pt.length:=by rw [dt.length,List.length_map]
    refine ⟨l9,_,rfl,O.sq 0,?_⟩
    refine for_enum (K:=K) (xs:=zt) (fun i σ H'=>Iv (∃ (v5 v6 v7:Option V) (Hd:Hp) (us:List V) (gs:List (Int × Int × Int)),σ=[some (.ref lx),some (.ref b),some (.int kd),some (.ref lz),some (.ref lp),v5,v6,v7]∧SameT T Hc Hd∧Dens K Hd us (gs.map dMv)∧gs.map (·.1)=(pt.take i).map (·.2)∧(∀ p∈gs,0≤p.1∧p.1<(rs.length:Int)∧0≤p.2.1∧0≤p.2.2∧p.2.2≤1000)∧(∀ p∈gs,∃ l,ls[p.1.toNat]?=some l∧l.back=-1) ∧
      Ow T Hd H' [(l9,.lst zt),(lp,.lst us),(lz,.lst zs)]))
      ⟨trivial,none,none,none,Hc,[],[],rfl,SameT.refl O.same.t0,.nil,rfl,(fun p hp=>nomatch hp),(fun p hp=>nomatch hp),O⟩ (fun _ _ _ _ ⟨_,_,_,_,_,_,_,_,_,_,_,_,_,O⟩=>O.sq 0) ?_ ?_
    · rintro i y t' σ H4 hy ⟨-,v5,v6,v7,Hd,us,gs,rfl,sd,d4,hgs,hgr,hgb,O⟩ ht'
      obtain ⟨ap,z,rfl,hz,hT⟩:=dt.pr_get hy
      have hi:=(List.getElem?_eq_some_iff.mp hz).1
      have hgl:gs.length≤i:=by have:=congrArg List.length hgs;rw [List.length_map,List.length_map,List.length_take] at this;omega
      have hul:us.length=gs.length:=by rw [d4.length,List.length_map]
      walk_at "nw"
      refine ⟨t',_,rfl,O.sqT 0,rfl,_,_,rfl,_,_,rfl,rfl,?_⟩
      have O:=O.tail
      have hX3:=sd.seq hX2
      have e0:=Int.emod_nonneg (ys.getD (2 * (i:Int) + 1).toNat 0) (show (5:Int)≠0 by decide)
      have e1:=Int.emod_lt_of_pos (ys.getD (2 * (i:Int) + 1).toNat 0) (show (0:Int)<5 by decide)
      have g0:=Int.emod_nonneg (ys.getD (2 * (i:Int) + 1).toNat 0 / 5) (show (1001:Int)≠0 by decide)
      have g1:=Int.emod_lt_of_pos (ys.getD (2 * (i:Int) + 1).toNat 0 / 5) (show (0:Int)<1001 by decide)
      obtain ⟨lk,hlk,k0,k1⟩:=pick5 g0 (by omega) e0 e1
      refine ⟨_,rfl,_,rfl,_,_,rfl,rfl,.inl ⟨by decide,by decide⟩,_,_,rfl,rfl,lx,_,_,_,rfl,rfl,O.same.seq hX3,ints_atZ (by omega) (by omega),_,_,rfl,rfl,⟨by decide,by decide⟩,_,_,rfl,rfl,(by show (0:Int)<1001;decide),szl,fun l8 h8=>?_⟩
      walk_at "nw"
      refine ⟨_,rfl,_,rfl,_,_,rfl,rfl,.inl ⟨by decide,by decide⟩,_,_,rfl,rfl,lx,_,_,_,rfl,rfl,O.same.seq hX3,ints_atZ (by omega) (by omega),_,_,rfl,rfl,(by show (0:Int)<5;decide),l8,_,_,_,rfl,rfl,O.sq 0,hlk,?_⟩
      have O:=O.tail
      refine ⟨_,rfl,.inl ⟨rfl,_,O.sq 1⟩,_,rfl,ap,_,1,_,rfl,rfl,(hT.mo sd).mo O.same,rfl,_,rfl,_,rfl,_,_,rfl,rfl,.inl ⟨by decide,by decide⟩,lx,_,_,_,rfl,rfl,O.same.seq hX3,ints_atZ (by omega) (by omega),_,rfl,_,_,rfl,fun a a0 a1=>?_⟩
      refine ⟨_,rfl,szl,fun t ht=>?_⟩
      walk_at "nw"
      refine ⟨lp,_,_,rfl,rfl,O.get 2,small100' (by omega),?_⟩
      walk_at "pt"
      obtain ⟨He,O,se,en⟩:=O.frz
      have hzr:=hpt z (List.mem_of_getElem? hz)
      refine ⟨trivial,_,_,_,He,us++[.ref t],gs++[(z.2,a,lk)],rfl,sd.trans se,?_,?_,fun p hp=>?_,fun p hp=>?_,O⟩
      · rw [List.map_append]
        exact (d4.mo se).append (.cons (Den.mv (m:=(z.2,a,lk)) (SqT.of en)) .nil)
      · rw [List.map_append,hgs,List.take_add_one,hz,List.map_append];rfl
      · rcases List.mem_append.mp hp with e | e
        · exact hgr p e
        · have:p=(z.2,a,lk):=by simpa using e
          rw [this]
          exact ⟨hzr.1.1,hzr.1.2,a0,k0,k1⟩
      · rcases List.mem_append.mp hp with e | e
        · exact hgb p e
        · have:p=(z.2,a,lk):=by simpa using e
          rw [this]
          exact hzr.2
    rintro σ H4 ⟨-,v5,v6,v7,Hd,us,gs,rfl,sd,d4,hgs,hgr,hgb,O⟩
    rw [hztl,List.take_of_length_le (Nat.le_refl _)] at hgs
    refine ⟨_,rfl,q lp Hd _ us gs (sc.trans sd) ((O.pull 1).two.two) d4 ⟨?_,by rw [hgs];exact hpm,by rw [← hrl];exact hgr,hgb⟩⟩
    have:=congrArg List.length hgs
    rw [List.length_map,List.length_map] at this
    omega
def LetsOk (r:List Int) (ls:List Lic) (ps:List (Int × Int × Int)) (ks:List Int) (ms:List (Int × Int × Int)):Prop:=∀ (i:Nat) (m:Int × Int × Int),ms[i]?=some m→LetOk r ls ps (leftF ks (ms.take i)) m
theorem LetsOk.snoc {r:List Int} {ls:List Lic} {ps:List (Int × Int × Int)} {ks:List Int} {ms:List (Int × Int × Int)} {m:Int × Int × Int} (h:LetsOk r ls ps ks ms) (hm:LetOk r ls ps (leftF ks ms) m):LetsOk r ls ps ks (ms++[m]):=fun i x hx=>by
  by_cases hi:i<ms.length
  · rw [List.getElem?_append_left hi] at hx
    rw [List.take_append_of_le_length (by omega)]
    exact h i x hx
  · have hl:=(List.getElem?_eq_some_iff.mp hx).1
    have e:i=ms.length:=by rw [List.length_append] at hl;simp at hl;omega
    subst e
    rw [List.getElem?_append_right (by omega),Nat.sub_self] at hx
    have:m=x:=Option.some.inj hx
    rw [← this,List.take_left']
    · exact hm
    · rfl
theorem eqv_mvs0 (ps:List (Int × Int × Int)):PyData.eqv (dMvs ps) (.list [])=decide (ps=[]):=by
  cases ps with
  | nil=>rfl
  | cons p ps=>rfl
abbrev s__law_lets:Stmt:=top 56
theorem sc__law_lets:FnScope ["cells","below","roll","ponds","left","lets","one","xs","pond","way"] ["cells","below","roll","ponds","left"] (defScope s__law_lets):=⟨rfl,rfl,rfl,by decide +kernel,rfl,by decide +kernel,by decide +kernel⟩
def sp_lts (K:PySem.W.Frag) (T:Tabs):Sp:=fun vs H Q _=>∃ (u a b c d:Addr) (qs r ks:List Int) (rs us:List V) (ls:List Lic) (ps:List (Int × Int × Int)) (Hb:Hp),vs=[.ref u,.ref a,.ref b,.ref c,.ref d]∧Ow T Hb H [(d,.lst (ks.map V.int))]∧SqL K Hb u (qs.map V.int)∧qs.length≤100∧SqL K Hb a (r.map V.int)∧Rv.River r∧r.length≤900∧SqL K Hb b rs∧Dens K Hb rs (ls.map dLic)∧(∀ l∈ls,LicOk r l)∧SqL K Hb c us∧Dens K Hb us (ps.map dMv)∧PondsOk ls ps∧ks.length=ps.length∧(∀ x∈ks,0≤x) ∧
  ∀ (l:Addr) (H1 H':Hp) (ts:List V) (ms:List (Int × Int × Int)),SameT T Hb H1→Ow T H1 H' [(l,.lst ts),(d,.lst ((leftF ks ms).map V.int))]→Dens K H1 ts (ms.map dMv)→ms.length≤100→LetsOk r ls ps ks ms→(∀ x∈leftF ks ms,0≤x)→Q (.ref l) H'
theorem ok_lts {f f1 f2 f3:Addr} {fd fd1 fd2 fd3:FuncData} (D:Df K mg "_law_lets" s__law_lets ["cells","below","roll","ponds","left"] f fd) (B:Blt mg) (D__law_draws:Df K mg "_law_draws" s__law_draws ["cell","many"] f1 fd1) (G__law_draws:FnOk P w K mg base CX0 1 f1 fd1 ["cell","many"] (sp_dws T))
    (D__law_way:Df K mg "_law_way" s__law_way ["below","start"] f2 fd2) (G__law_way:FnOk P w K mg base CX0 1 f2 fd2 ["below","start"] (sp_lway K T))
    (D__law_some:Df K mg "_law_some" s__law_some ["number","most"] f3 fd3) (G__law_some:FnOk P w K mg base CX0 1 f3 fd3 ["number","most"] sp_som):FnOk P w K mg base CX0 2 f fd ["cells","below","roll","ponds","left"] (sp_lts K T):=by
  refine D.F.ok sc__law_lets (fun vs H Q E h=>?_) (fun cdv A outer s H vs Q E hr h=>?_)
  · obtain ⟨_,_,_,_,_,_,_,_,_,_,_,_,_,rfl,_⟩:=h;rfl
  · obtain ⟨u,lv,lr,lp,lf,qs,r,ks,rs,us,ls,ps,H8,rfl,O,hU,hql,hV,hR,r9,hL,d0,hrg,hC,d1,PO,hkl,hk0,q⟩:=h
    have hu:=hr.units
    have hrl:rs.length=ls.length:=by rw [d0.length,List.length_map]
    have hul:us.length=ps.length:=by rw [d1.length,List.length_map]
    refine ⟨_,(pss_cons (ps_set (i:=5) sc__law_lets.nd rfl (Or.inl rfl) (pe_lst pa_nil))
      (pss_cons (ps_for PassesOwn.never rfl (pi_list (pv 0)) (pg_name (i:=6) sc__law_lets.nd rfl (Or.inl rfl))
        (pss_cons (ps_set (i:=7) sc__law_lets.nd rfl (Or.inl rfl) (pe_call G__law_draws (hr.mono (by decide)) rfl D__law_draws.m D__law_draws.F.kp D__law_draws.b .nil pass0 (pa_cons (pv 6) (pa_cons pe_int pa_nil))))
        (pss_one (ps_if (PW.pt (pw_and (pt_cmpR op_eq (pe_op op_mod (pe_ix ix_list (pv 7) pe_int (fun _ _=>rfl)) pe_int) pe_int (nomark _)) (pw_and1 (pt_cmpR (op_neD hu) (pv 3) (pe_lst pa_nil) (nomark _)))))
          (pss_cons (ps_set (i:=8) sc__law_lets.nd rfl (Or.inl rfl) (pe_op op_mod (pe_ix ix_list (pv 7) pe_int (fun _ _=>rfl)) (pe_callB call_len_seq rfl B.len PySem.boot_len (pa_cons (pv 3) pa_nil))))
          (pss_cons (ps_set (i:=9) sc__law_lets.nd rfl (Or.inl rfl) (pe_op op_cat (pe_lst (pa_cons (pe_un un_neg pe_int) pa_nil)) (pe_call G__law_way (hr.mono (by decide)) rfl D__law_way.m D__law_way.F.kp D__law_way.b .nil pass0 (pa_cons (pv 1) (pa_cons (pe_ix ix_tup (pe_ix ix_list (pv 2) (pe_ix ix_tup (pe_ix ix_list (pv 3) (pv 8) (fun _ _=>rfl)) pe_int (fun _ _=>rfl)) (fun _ _=>rfl)) pe_int (fun _ _=>rfl)) pa_nil)))))
          (pss_cons (ps_expr (pe_bm PySem.F.plainAttrs_list PySem.F.slot_list_append PySem.F.type_list_append mt_append (pv 5) (pa_cons (pe_tup (pa_cons (pv 8) (pa_cons (pe_ix ix_list (pv 9) (pe_op op_mod (pe_ix ix_list (pv 7) pe_int (fun _ _=>rfl)) (pe_callB call_len_seq rfl B.len PySem.boot_len (pa_cons (pv 9) pa_nil))) (fun _ _=>rfl)) (pa_cons (pe_call G__law_some (hr.mono (by decide)) rfl D__law_some.m D__law_some.F.kp D__law_some.b .nil pass0 (pa_cons (pe_ix ix_list (pv 7) pe_int (fun _ _=>rfl)) (pa_cons (pe_ix ix_list (pv 4) (pv 8) (fun _ _=>rfl)) pa_nil))) pa_nil)))) pa_nil)))
          (pss_one (ps_asg (pe_op op_sub (pe_ix ix_list (pv 4) (pv 8) (fun _ _=>rfl)) (pe_ix ix_tup (pe_ix ix_list (pv 5) (pe_un un_neg pe_int) (fun _ _=>rfl)) pe_int (fun _ _=>rfl))) (pg_sub (pv 4) (pv 8) set_list))))))
          pss_nil))))
      (pss_one (ps_ret (pv 5))))),?_⟩
    refine sl_28 ?_
    intro zu0 zu1 zu2 zu3 zu4 zu5 zu6 zu7
    refine ⟨szl,fun lt hlt=>?_⟩
    walk_at "nw"
    refine ⟨_,rfl,u,rfl,⟨_,O.same.seq hU⟩,?_⟩
    refine for_list (K:=K) (xs:=qs.map V.int) (fun i σ H'=>Iv (∃ (Hb:Hp) (ts:List V) (ms:List (Int × Int × Int)) (v6 v7 v8 v9:Option V),σ=[some (.ref u),some (.ref lv),some (.ref lr),some (.ref lp),some (.ref lf),some (.ref lt),v6,v7,v8,v9] ∧
      Ow T Hb H' [(lt,.lst ts),(lf,.lst ((leftF ks ms).map V.int))]∧SameT T H8 Hb∧Dens K Hb ts (ms.map dMv)∧ms.length≤i∧LetsOk r ls ps ks ms∧∀ z∈leftF ks ms,0≤z))
      ⟨trivial,H8,[],[],none,none,none,none,rfl,O,SameT.refl O.same.t0,.nil,Nat.le_refl _,(fun i m h=>by simp at h),hk0⟩ (fun i σ H' _ ⟨_,_,_,_,_,_,_,_,_,O,sb,_⟩=>(sb.trans O.same).seq hU) ?_ ?_
    · clear O
      rintro i y σ H14 hy ⟨-,Hb,ts,ms,v6,v7,v8,v9,rfl,O,sb,d2,hmi,LO,hl0⟩
      obtain ⟨z,hz,rfl⟩:=ints_get hy
      have hi:=(List.getElem?_eq_some_iff.mp hz).1
      have htl:ts.length=ms.length:=by rw [d2.length,List.length_map]
      refine ⟨_,rfl,z,5,rfl,by decide,by decide,O.same.t1,O.gotT fun lx H15 xs O e=>?_⟩
      obtain ⟨ys,rfl,hyl,hyb⟩:=e
      have hyl:ys.length=5:=hyl
      clear hyb
      refine ⟨_,rfl,lx,_,0,_,rfl,rfl,O.sq 0,ints_atZ (by omega) (by omega),_,_,rfl,rfl,(by show (0:Int)<4;decide),rfl,_,rfl,ifI (fun hc=>?_) fun hc=>iteF ⟨trivial,Hb,ts,ms,_,_,_,_,rfl,O.tail,sb,d2,by omega,LO,hl0⟩⟩
      refine ⟨_,rfl,szl,fun l0 h0=>?_⟩
      walk_at "nw"
      refine ⟨_,_,Den.list ((sb.trans O.same).seq hC) ((d1.mo sb).mo O.same),Den.list (ds:=[]) (O.sq 0) .nil,(Sh.mvs 0 ps).ok (by decide),(Sh.mvs 0 []).ok (by decide),?_⟩
      have O:=O.tail
      rw [if_pos rfl,show PyData.eqv (.list (ps.map dMv)) (.list [])=decide (ps=[]) from eqv_mvs0 ps]
      refine ⟨_,rfl,ifN (ifD (fun he=>?_) fun he=>?_)⟩
      · exact ⟨trivial,Hb,ts,ms,_,_,_,_,rfl,O.tail,sb,d2,by omega,LO,hl0⟩
      have hps:0<ps.length:=List.length_pos_iff.mpr he
      have q0:=Int.emod_nonneg (ys.getD (1:Int).toNat 0) (show (us.length:Int)≠0 by omega)
      have q1:=Int.emod_lt_of_pos (ys.getD (1:Int).toNat 0) (show (0:Int)<(us.length:Int) by omega)
      refine ⟨_,rfl,lx,_,1,_,rfl,rfl,O.sq 0,ints_atZ (by omega) (by omega),_,rfl,lp,_,rfl,.inl ((sb.trans O.same).seq hC),_,_,rfl,rfl,(by show (0:Int)<(us.length:Int);omega),?_⟩
      dsimp only
      generalize ys.getD (1:Int).toNat 0 % (us.length:Int)=pn at q0 q1
      obtain ⟨n,rfl⟩:=Int.eq_ofNat_of_zero_le q0
      obtain ⟨u1,hu1⟩:∃ u,us[n]?=some u:=⟨_,List.getElem?_eq_getElem (by omega)⟩
      obtain ⟨ap,p,rfl,hp,hTp⟩:=d1.mv_get hu1
      have hpr:=PO.rg p (List.mem_of_getElem? hp)
      have p0:=hpr.1
      obtain ⟨pi,pr,pk⟩:=p
      dsimp only at hpr p0
      obtain ⟨pm,rfl⟩:=Int.eq_ofNat_of_zero_le p0
      obtain ⟨l,hl⟩:∃ l,ls[pm]?=some l:=⟨_,List.getElem?_eq_getElem (by omega)⟩
      obtain ⟨al,hal,hTl⟩:=d0.lic_at hl
      obtain ⟨lb0,lb1,_⟩:=hrg l (List.mem_of_getElem? hl)
      refine ⟨_,rfl,szl,fun l5 h5=>?_⟩
      walk_at "nw"
      refine ⟨_,rfl,_,rfl,_,rfl,_,rfl,lp,_,_,_,rfl,rfl,(sb.trans O.same).seq hC,atI_nat hu1,ap,_,0,_,rfl,rfl,(hTp.mo sb).mo O.same,rfl,lr,_,_,_,rfl,rfl,(sb.trans O.same).seq hL,atI_nat hal,al,_,1,_,rfl,rfl,(hTl.mo sb).mo O.same,rfl,lv,r,l.start,rfl,(sb.trans O.same).seq hV,hR,lb0,lb1,by omega,O.same.t1,O.gotT fun lw H16 xs O e=>?_⟩
      subst e
      have hwk:=Rv.walk_len r l.start
      refine ⟨l5,lw,_,_,rfl,rfl,O.get 1,O.get 0,small100 (by simp only [List.length_map,List.length_cons,List.length_nil];omega),fun l6 h6=>?_⟩
      walk_at "nw"
      obtain ⟨ww,hww⟩:∃ ww,ww=(-1) :: Rv.walk r l.start:=⟨_,rfl⟩
      rw [show [V.int (-1)]++(Rv.walk r l.start).map V.int=ww.map V.int by rw [hww];rfl] at O
      have hwm:((ww.map V.int).length:Int)=(ww.length:Int):=by rw [List.length_map]
      have hw1:1≤ww.length:=by rw [hww];exact Nat.succ_le_succ (Nat.zero_le _)
      have O:=(O.del 1).del 1
      walk_at "er"
      have hlf:=leftF_len ms ks
      have hg0:0≤(leftF ks ms).getD n 0:=hl0 _ (getD_mem' (by omega))
      have j0:=Int.emod_nonneg (ys.getD (2:Int).toNat 0) (show (ww.length:Int)≠0 by omega)
      have j1:=Int.emod_lt_of_pos (ys.getD (2:Int).toNat 0) (show (0:Int)<(ww.length:Int) by omega)
      refine ⟨_,rfl,.inl ⟨rfl,_,O.sq 2⟩,_,rfl,_,rfl,_,rfl,lx,_,2,_,rfl,rfl,O.sq 1,ints_atZ (by omega) (by omega),_,rfl,l6,_,rfl,.inl (O.sq 0),_,_,rfl,rfl,(by rw [hwm];omega),?_⟩
      dsimp only
      rw [hwm]
      generalize ys.getD (2:Int).toNat 0 % (ww.length:Int)=j at j0 j1
      refine ⟨l6,_,_,_,rfl,rfl,O.sq 0,ints_atZ j0 j1,_,rfl,lx,_,3,_,rfl,rfl,O.sq 1,ints_atZ (by omega) (by omega),_,rfl,_,rfl,lf,_,_,_,rfl,rfl,O.sq 3,ints_at (getD_get? (ns:=leftF ks ms) (k:=n) (by omega)),_,_,rfl,hg0,fun x x0 x1=>?_⟩
      refine ⟨szl,fun t ht=>?_⟩
      walk_at "nw"
      refine ⟨lt,_,_,rfl,rfl,O.get 3,small100' (by omega),?_⟩
      walk_at "pt"
      refine ⟨_,rfl,_,rfl,lf,_,_,_,rfl,rfl,O.sq 4,ints_at (getD_get? (ns:=leftF ks ms) (k:=n) (by omega)),_,rfl,_,rfl,lt,_,_,_,rfl,rfl,O.sq 3,lastV _ _,t,_,2,_,rfl,rfl,O.sqT 0,rfl,_,_,rfl,rfl,_,rfl,_,rfl,?_⟩
      refine ow_set O 4 rfl (ixN_nat (by rw [List.length_map];omega)) fun H17 O=>?_
      rw [← List.map_set] at O
      obtain ⟨Hc,O,sc,en⟩:=O.frz
      have hin:ww.getD j.toNat 0∈ww:=getD_mem' (by omega)
      have LM:LetOk r ls ps (leftF ks ms) ((n:Int),ww.getD j.toNat 0,x):=⟨by show (0:Int)≤(n:Int);omega,⟨_,l,hp,by show (0:Int)≤(pm:Int);omega,hl,lb0,lb1,by
        rw [hww] at hin ⊢
        exact List.mem_cons.mp hin⟩,x0,x1⟩
      refine ⟨trivial,Hc,ts++[.ref t],ms++[((n:Int),ww.getD j.toNat 0,x)],_,_,_,_,rfl,?_,sb.trans sc,?_,by rw [List.length_append];show ms.length + 1≤_;omega,LO.snoc LM,?_⟩
      · rw [leftF_snoc];exact O.tail.tail
      · rw [List.map_append]
        exact (d2.mo sc).append (.cons (Den.mv (m:=((n:Int),ww.getD j.toNat 0,x)) (SqT.of en)) .nil)
      · rw [leftF_snoc]
        intro z hz
        rcases List.mem_or_eq_of_mem_set hz with e | e
        · exact hl0 z e
        · rw [e]
          show 0≤(leftF ks ms).getD n 0 - x
          omega
    rintro σ H14 ⟨-,Hb,ts,ms,v6,v7,v8,v9,rfl,O,sb,d2,hmi,LO,hl0⟩
    rw [List.length_map] at hmi
    exact ⟨_,rfl,q lt Hb _ ts ms sb O d2 (by omega) LO hl0⟩
abbrev s__law_numbers:Stmt:=top 57
theorem sc__law_numbers:FnScope ["found","many"] ["found","many"] (defScope s__law_numbers):=⟨rfl,rfl,rfl,by decide +kernel,rfl,by decide +kernel,by decide +kernel⟩
def sp_num (T:Tabs):Sp:=fun vs H Q _=>∃ (a:Addr) (ns:List Int) (n:Int),vs=[.ref a,.int n]∧H a=some (.lst (ns.map V.int))∧n=(ns.length:Int)∧TabsOk T H∧∀ H',SameT T H H'→Q (.bl true) H'
theorem ok_num {f:Addr} {fd:FuncData} (D:Df K mg "_law_numbers" s__law_numbers ["found","many"] f fd) (B:Blt mg):FnOk P w K mg base CX0 1 f fd ["found","many"] (sp_num T):=by
  refine D.F.ok sc__law_numbers (fun vs H Q E h=>?_) (fun cdv A outer s H vs Q E hr h=>?_)
  · obtain ⟨_,_,_,rfl,_⟩:=h;rfl
  · obtain ⟨a,ns,n,rfl,hA,hn,tk,q⟩:=h
    have hu:=hr.units
    have hS:SqL K H a (ns.map V.int):=SqL.of hA
    refine ⟨_,(pss_cons (ps_if (PW.pt (pw_or (pt_not (pt_val (pe_callB call_isinst rfl B.isinstance PyProof.Rows.boot_isinstance (pa_cons (pv 0) (pa_cons (pe_bltn (v:=.ty "list") rfl B.list PyProof.Rows.boot_list rfl) pa_nil))))) (pw_or1 (pt_cmpR op_ne (pe_callB call_len_seq rfl B.len PySem.boot_len (pa_cons (pv 0) pa_nil)) (pv 1) (nomark _)))))
        (pss_one (ps_ret pe_bl))
        pss_nil)
      (pss_one (ps_ret (pe_cmpR (op_eqI hu) (pe_comp (defScope s__law_numbers) rfl ["found","many"] rfl ["one"] [none] (by decide +kernel) (by decide +kernel) (by decide +kernel) rfl (pi_list (pv 0)) (fun _ _ _=>(pg_name (i:=0) (show (["one"]:List Str).Nodup by decide +kernel) rfl (Or.inl rfl))) (fun _ _ _=>(pts_one (PW.pt (pw_or (pt_not (pt_val (pe_callB (call_isinstK (K:=K) rfl) rfl B.isinstance PyProof.Rows.boot_isinstance (pa_cons (pv 0) (pa_cons (pe_bltn (v:=.ty "int") rfl B.int PyProof.Rows.boot_int rfl) pa_nil))))) (pw_or1 (pt_val (pe_callB (call_isinstK (K:=K) rfl) rfl B.isinstance PyProof.Rows.boot_isinstance (pa_cons (pv 0) (pa_cons (pe_bltn (v:=.ty "bool") rfl B.bool PyProof.Rows.boot_bool rfl) pa_nil))))))))) (fun _ _ _=>(pv 0))) (pe_lst pa_nil) (nomark _))))),?_⟩
    refine sl_29 ?_
    intro zu0 zu1
    have O:=Ow.refl tk
    refine ⟨_,rfl,_,_,_,true,rfl,.lst hA,kit_ll K,_,rfl,iteF ?_⟩
    refine ⟨_,rfl,a,_,rfl,.inl hS,_,rfl,rfl,_,rfl,ifN (ifI (fun _=>?_) fun hc=>absurd (by rw [List.length_map,hn]) hc)⟩
    refine ⟨_,rfl,a,rfl,⟨_,hS⟩,fun l hl=>?_⟩
    refine comp_list (K:=K) (xs:=ns.map V.int) (fun i τ H'=>Iv (∃ (v0:Option V),τ=[v0]∧Ow T H H' [(l,.lst (([]:List Int).map V.int))]))
      ⟨trivial,none,rfl,O.mk' hl rfl⟩ (fun _ _ _ _ ⟨_,_,_,O⟩=>O.same.seq hS) ?_ ?_
    · rintro i y τ H3 hy ⟨-,v0,rfl,O⟩
      obtain ⟨z,hz,rfl⟩:=ints_get hy
      refine ⟨_,rfl,_,_,_,true,rfl,.int _,kit_ii K,_,rfl,iteF ?_⟩
      exact ⟨_,rfl,_,_,_,false,rfl,.int _,kit_ib K,_,rfl,iteF ⟨trivial,_,rfl,O⟩⟩
    rintro τ H3 ⟨-,v0,rfl,O⟩
    refine ⟨szl,fun l2 hl2=>?_⟩
    walk_at "nw"
    refine ⟨l,l2,[],[],rfl,rfl,O.sq 1,O.sq 0,?_⟩
    rw [if_neg Bool.false_ne_true,decide_eq_true rfl]
    exact q _ O.same
abbrev s__law_kept:Stmt:=top 58
theorem sc__law_kept:FnScope ["told","ponds","left","takes","k","held","rest"] ["told","ponds","left","takes"] (defScope s__law_kept):=⟨rfl,rfl,rfl,by decide +kernel,rfl,by decide +kernel,by decide +kernel⟩
def sp_kep (K:PySem.W.Frag) (T:Tabs):Sp:=fun vs H Q _=>∃ (b c d e:Addr) (us:List V) (ps:List (Int × Int × Int)) (ks xs:List Int),vs=[.ref b,.ref c,.ref d,.ref e]∧SqL K H b ((aftL ps ks xs).map V.int)∧SqL K H c us∧Dens K H us (ps.map dMv)∧ps.length≤100∧SqL K H d (ks.map V.int)∧ks.length=ps.length∧SqL K H e (xs.map V.int)∧(∀ p∈ps,0≤p.1∧p.1<(xs.length:Int)∧0≤p.2.2∧p.2.2≤1000)∧Q (.bl true) H
theorem aft_at {ps:List (Int × Int × Int)} {ks xs:List Int} {i:Nat} (h:i<ps.length):(aftL ps ks xs)[i]?=some (fullL ps ks xs i - lossL ps ks xs i):=by
  unfold aftL;rw [List.getElem?_map,List.getElem?_range h];rfl
theorem ok_kep {f:Addr} {fd:FuncData} (D:Df K mg "_law_kept" s__law_kept ["told","ponds","left","takes"] f fd) (B:Blt mg):FnOk P w K mg base CX0 1 f fd ["told","ponds","left","takes"] (sp_kep K T):=by
  refine D.F.ok sc__law_kept (fun vs H Q E h=>?_) (fun cdv A outer s H vs Q E hr h=>?_)
  · obtain ⟨_,_,_,_,_,_,_,_,rfl,_⟩:=h;rfl
  · obtain ⟨b,c,d,e,us,ps,ks,xs,rfl,hB,hC,d1,hp1,hD,hkl,hE,hrg,q⟩:=h
    have hul:us.length=ps.length:=by rw [d1.length,List.length_map]
    refine ⟨_,(pss_cons (ps_for PassesOwn.never rfl (pi_range1 rfl B.range (pa_cons (pe_callB call_len_seq rfl B.len PySem.boot_len (pa_cons (pv 1) pa_nil)) pa_nil)) (pg_name (i:=4) sc__law_kept.nd rfl (Or.inl rfl))
        (pss_cons (ps_set (i:=5) sc__law_kept.nd rfl (Or.inl rfl) (pe_op op_add (pe_ix ix_list (pv 2) (pv 4) (fun _ _=>rfl)) (pe_ix ix_list (pv 3) (pe_ix ix_tup (pe_ix ix_list (pv 1) (pv 4) (fun _ _=>rfl)) pe_int (fun _ _=>rfl)) (fun _ _=>rfl))))
        (pss_cons (ps_set (i:=6) sc__law_kept.nd rfl (Or.inl rfl) (pe_op op_sub (pe_op op_mul (pv 5) (pe_ix ix_tup (pe_ix ix_list (pv 1) (pv 4) (fun _ _=>rfl)) pe_int (fun _ _=>rfl))) (pe_op op_mul pe_int (pe_op op_sub (pv 5) (pe_ix ix_list (pv 0) (pv 4) (fun _ _=>rfl))))))
        (pss_one (ps_if (PW.pt (pw_or (pt_cmpR op_lt (pv 6) pe_int (nomark _)) (pw_or1 (pt_cmpR op_ge (pv 6) pe_int (nomark _)))))
          (pss_one (ps_ret pe_bl))
          pss_nil)))))
      (pss_one (ps_ret pe_bl))),?_⟩
    refine sl_30 ?_
    intro zu0 zu1 zu2 zu3 zu4
    refine ⟨_,rfl,c,_,rfl,.inl hC,(us.length:Int),rfl,by omega,by omega,?_⟩
    rw [Int.toNat_natCast]
    refine for_range (n:=us.length) (fun i σ H'=>Iv (∃ (v4 v5 v6:Option V),σ=[some (.ref b),some (.ref c),some (.ref d),some (.ref e),v4,v5,v6]∧H'=H)) ⟨trivial,none,none,none,rfl,rfl⟩ ?_ ?_
    · rintro i σ H3 hi ⟨-,v4,v5,v6,rfl,rfl⟩
      rw [show (0:Int) + (i:Int)=(i:Int) by omega]
      obtain ⟨u,hu⟩:∃ u,us[i]?=some u:=⟨_,List.getElem?_eq_getElem hi⟩
      obtain ⟨ap,p,rfl,hp,hT⟩:=d1.mv_get hu
      have hr:=hrg p (List.mem_of_getElem? hp)
      have e1:fullL ps ks xs i=ks.getD i 0 + xs.getD p.1.toNat 0:=by unfold fullL;rw [getD_some hp]
      have e2:lossL ps ks xs i=(ks.getD i 0 + xs.getD p.1.toNat 0) * p.2.2 / 1000:=by unfold lossL;rw [e1,getD_some hp]
      have ha:=aft_at (ps:=ps) (ks:=ks) (xs:=xs) (i:=i) (by omega)
      rw [e1,e2] at ha
      refine ⟨_,rfl,_,rfl,d,_,_,_,rfl,rfl,hD,ints_at (getD_get? (ns:=ks) (k:=i) (by omega)),_,rfl,_,rfl,_,rfl,c,_,_,_,rfl,rfl,hC,atI_nat hu,ap,_,0,_,rfl,rfl,hT,rfl,e,_,_,_,rfl,rfl,hE,ints_atZ hr.1 hr.2.1,_,_,rfl,rfl,?_⟩
      dsimp only
      generalize ks.getD i 0 + xs.getD p.1.toNat 0=fu at ha
      refine ⟨_,rfl,_,rfl,_,rfl,c,_,_,_,rfl,rfl,hC,atI_nat hu,ap,_,2,_,rfl,rfl,hT,rfl,_,_,rfl,rfl,.inr ⟨by omega,by omega⟩,_,rfl,_,rfl,_,rfl,b,_,_,_,rfl,rfl,hB,ints_at ha,_,_,rfl,rfl,_,_,rfl,rfl,.inl ⟨by decide,by decide⟩,_,_,rfl,rfl,?_⟩
      dsimp only
      generalize fu * p.2.2=m
      refine ⟨_,rfl,_,_,rfl,rfl,_,rfl,ifD (fun hc=>absurd hc (by omega)) fun hc=>?_⟩
      exact ⟨_,rfl,_,_,rfl,rfl,_,rfl,ifD (fun hc=>absurd hc (by omega)) fun hc=>⟨trivial,_,_,_,rfl,rfl⟩⟩
    rintro σ H3 ⟨-,v4,v5,v6,rfl,rfl⟩
    exact q
abbrev s__law_kinds:Stmt:=top 59
theorem sc__law_kinds:FnScope ["told","below","roll","ponds"] ["told","below","roll","ponds"] (defScope s__law_kinds):=⟨rfl,rfl,rfl,by decide +kernel,rfl,by decide +kernel,by decide +kernel⟩
theorem kit_tt (K:PySem.W.Frag):PySem.W.kitOne K (.type "tuple") (.type "tuple")=some true:=by rfl
def sp_knd (K:PySem.W.Frag) (T:Tabs):Sp:=fun vs H Q _=>∃ (t lt la lf lh a b c:Addr) (xs as fs:List Int) (hs rv rs us:List V),vs=[.ref t,.ref a,.ref b,.ref c]∧H t=some (.tup [.ref lt,.ref la,.ref lf,.ref lh])∧H lt=some (.lst (xs.map V.int))∧H la=some (.lst (as.map V.int))∧H lf=some (.lst (fs.map V.int))∧H lh=some (.tup hs)∧SqL K H a rv∧SqL K H b rs∧SqL K H c us∧rs.length=xs.length∧us.length=as.length∧rv.length=fs.length∧TabsOk T H∧∀ H',SameT T H H'→Q (.bl true) H'
theorem ok_knd {f f1:Addr} {fd fd1:FuncData} (D:Df K mg "_law_kinds" s__law_kinds ["told","below","roll","ponds"] f fd) (B:Blt mg) (D__law_numbers:Df K mg "_law_numbers" s__law_numbers ["found","many"] f1 fd1) (G__law_numbers:FnOk P w K mg base CX0 1 f1 fd1 ["found","many"] (sp_num T)):FnOk P w K mg base CX0 2 f fd ["told","below","roll","ponds"] (sp_knd K T):=by
  refine D.F.ok sc__law_kinds (fun vs H Q E h=>?_) (fun cdv A outer s H vs Q E hr h=>?_)
  · obtain ⟨_,_,_,_,_,_,_,_,_,_,_,_,_,_,_,rfl,_⟩:=h;rfl
  · obtain ⟨t,lt,la,lf,lh,a,b,c,xs,as,fs,hs,rv,rs,us,rfl,hT,h1,h2,h3,h4,hA,hB,hC,e1,e2,e3,tk,q⟩:=h
    refine ⟨_,(pss_cons (ps_if (PW.pt (pw_or (pt_not (pt_val (pe_callB call_isinst rfl B.isinstance PyProof.Rows.boot_isinstance (pa_cons (pv 0) (pa_cons (pe_bltn (v:=.ty "tuple") rfl B.tuple PyProof.Rows.boot_tuple rfl) pa_nil))))) (pw_or (pt_cmpR op_ne (pe_callB call_len_seq rfl B.len PySem.boot_len (pa_cons (pv 0) pa_nil)) pe_int (nomark _)) (pw_or1 (pt_not (pt_val (pe_callB call_isinst rfl B.isinstance PyProof.Rows.boot_isinstance (pa_cons (pe_ix ix_tup (pv 0) pe_int (fun _ _=>rfl)) (pa_cons (pe_bltn (v:=.ty "tuple") rfl B.tuple PyProof.Rows.boot_tuple rfl) pa_nil)))))))))
        (pss_one (ps_ret pe_bl))
        pss_nil)
      (pss_cons (ps_if (PW.pt (pw_or (pt_not (pt_val (pe_call G__law_numbers (hr.mono (by decide)) rfl D__law_numbers.m D__law_numbers.F.kp D__law_numbers.b .nil pass0 (pa_cons (pe_ix ix_tup (pv 0) pe_int (fun _ _=>rfl)) (pa_cons (pe_callB call_len_seq rfl B.len PySem.boot_len (pa_cons (pv 2) pa_nil)) pa_nil))))) (pw_or1 (pt_not (pt_val (pe_call G__law_numbers (hr.mono (by decide)) rfl D__law_numbers.m D__law_numbers.F.kp D__law_numbers.b .nil pass0 (pa_cons (pe_ix ix_tup (pv 0) pe_int (fun _ _=>rfl)) (pa_cons (pe_callB call_len_seq rfl B.len PySem.boot_len (pa_cons (pv 3) pa_nil)) pa_nil))))))))
        (pss_one (ps_ret pe_bl))
        pss_nil)
      (pss_one (ps_ret (pe_call G__law_numbers (hr.mono (by decide)) rfl D__law_numbers.m D__law_numbers.F.kp D__law_numbers.b .nil pass0 (pa_cons (pe_ix ix_tup (pv 0) pe_int (fun _ _=>rfl)) (pa_cons (pe_callB call_len_seq rfl B.len PySem.boot_len (pa_cons (pv 1) pa_nil)) pa_nil))))))),?_⟩
    refine sl_18 ?_
    intro zu0 zu1 zu2 zu3
    have O:=Ow.refl tk
    have nt:∀ (H':Hp) (p:Addr) (o:HO),SameT T H H'→H p=some o→plainO o=true→H' p=some o:=fun H' p o sm h ho=>sm.keep _ _ h (plain_tbl ho)
    refine ⟨_,rfl,_,_,_,true,rfl,.tup hT,kit_tt K,_,rfl,iteF ?_⟩
    refine ⟨_,rfl,t,_,rfl,.inr (SqT.of hT),rfl,_,rfl,ifN (ifI (fun _=>?_) fun hc=>absurd rfl hc)⟩
    refine ⟨_,rfl,t,_,3,_,rfl,rfl,SqT.of hT,rfl,_,_,_,true,rfl,.tup h4,kit_tt K,_,rfl,iteF ?_⟩
    refine ⟨_,rfl,t,_,0,_,rfl,rfl,SqT.of hT,rfl,_,rfl,b,_,rfl,.inl hB,lt,xs,_,rfl,h1,by rw [e1],tk,fun H1 sm=>?_⟩
    have O:=O.callT sm
    refine ⟨_,rfl,iteF ?_⟩
    refine ⟨_,rfl,t,_,1,_,rfl,rfl,SqT.of (nt _ _ _ O.same hT rfl),rfl,_,rfl,c,_,rfl,.inl (O.same.seq hC),la,as,_,rfl,nt _ _ _ O.same h2 rfl,by rw [e2],O.same.t1,fun H2 sm=>?_⟩
    have O:=O.callT sm
    refine ⟨_,rfl,iteF ?_⟩
    refine ⟨_,rfl,t,_,2,_,rfl,rfl,SqT.of (nt _ _ _ O.same hT rfl),rfl,_,rfl,a,_,rfl,.inl (O.same.seq hA),lf,fs,_,rfl,nt _ _ _ O.same h3 rfl,by rw [e3],O.same.t1,fun H3 sm=>?_⟩
    exact q _ (O.same.trans sm)
abbrev s_law:Stmt:=top 60
theorem sc_law:FnScope ["script","kind","below","cells","roll","xs","ponds","springs","ys","calls","kept","left","lets","due","k","handed","told"] ["script"] (defScope s_law):=⟨rfl,rfl,rfl,by decide +kernel,rfl,by decide +kernel,by decide +kernel⟩
def sp_law (K:PySem.W.Frag) (T:Tabs):Sp:=fun vs H Q _=>∃ (a:Addr) (ns:List Int),vs=[.ref a]∧SqL K H a (ns.map V.int)∧ns.length≤63∧TabsOk T H∧∀ H',Q (.bl true) H'
theorem ok_law {f f1 f2 f3 f4 f5 f6 f7 f8 f9 f10 f11 f12 f13:Addr} {fd fd1 fd2 fd3 fd4 fd5 fd6 fd7 fd8 fd9 fd10 fd11 fd12 fd13:FuncData} (D:Df K mg "law" s_law ["script"] f fd) (B:Blt mg)
    (D__law_nth:Df K mg "_law_nth" s__law_nth ["script","k"] f1 fd1) (G__law_nth:FnOk P w K mg base CX0 1 f1 fd1 ["script","k"] (sp_nth K T))
    (D__law_river:Df K mg "_law_river" s__law_river ["cell"] f2 fd2) (G__law_river:FnOk P w K mg base CX0 2 f2 fd2 ["cell"] (sp_river T))
    (D__law_roll:Df K mg "_law_roll" s__law_roll ["cell","cells","below","kind"] f3 fd3) (G__law_roll:FnOk P w K mg base CX0 3 f3 fd3 ["cell","cells","below","kind"] (sp_rol K T))
    (D__law_draws:Df K mg "_law_draws" s__law_draws ["cell","many"] f4 fd4) (G__law_draws:FnOk P w K mg base CX0 1 f4 fd4 ["cell","many"] (sp_dws T))
    (D__law_ponds:Df K mg "_law_ponds" s__law_ponds ["xs","roll","kind"] f5 fd5) (G__law_ponds:FnOk P w K mg base CX0 2 f5 fd5 ["xs","roll","kind"] (sp_pon K T))
    (D__law_amount:Df K mg "_law_amount" s__law_amount ["number","kind"] f6 fd6) (G__law_amount:FnOk P w K mg base CX0 1 f6 fd6 ["number","kind"] sp_amt)
    (D__law_call:Df K mg "_law_call" s__law_call ["number","most"] f7 fd7) (G__law_call:FnOk P w K mg base CX0 2 f7 fd7 ["number","most"] (sp_cal T))
    (D__law_put_in:Df K mg "_law_put_in" s__law_put_in ["cells","springs","calls","roll","kind"] f8 fd8) (G__law_put_in:FnOk P w K mg base CX0 3 f8 fd8 ["cells","springs","calls","roll","kind"] (sp_put K T))
    (D__law_some:Df K mg "_law_some" s__law_some ["number","most"] f9 fd9) (G__law_some:FnOk P w K mg base CX0 1 f9 fd9 ["number","most"] sp_som)
    (D__law_lets:Df K mg "_law_lets" s__law_lets ["cells","below","roll","ponds","left"] f10 fd10) (G__law_lets:FnOk P w K mg base CX0 2 f10 fd10 ["cells","below","roll","ponds","left"] (sp_lts K T))
    (D_day_of:Df K mg "day_of" s_day_of ["below","springs","roll","ponds","kept","calls","lets"] f11 fd11) (G_day_of:FnOk P w K mg base CX0 8 f11 fd11 ["below","springs","roll","ponds","kept","calls","lets"] (sp_dayof K T))
    (D__law_kinds:Df K mg "_law_kinds" s__law_kinds ["told","below","roll","ponds"] f12 fd12) (G__law_kinds:FnOk P w K mg base CX0 2 f12 fd12 ["told","below","roll","ponds"] (sp_knd K T))
    (D__law_kept:Df K mg "_law_kept" s__law_kept ["told","ponds","left","takes"] f13 fd13) (G__law_kept:FnOk P w K mg base CX0 1 f13 fd13 ["told","ponds","left","takes"] (sp_kep K T))
    {f14:Addr} {fd14:FuncData} (D_deal:Df K mg "deal" s_deal ["below","springs","roll","calls"] f14 fd14) (G_deal:FnOk P w K mg base CX0 7 f14 fd14 ["below","springs","roll","calls"] (sp_deal K T)) :
    FnOk P w K mg base CX0 9 f fd ["script"] (sp_law K T):=by
  refine D.F.ok sc_law (fun vs H Q E h=>?_) (fun cdv A outer s H vs Q E hr h=>?_)
  · obtain ⟨a,ns,rfl,_⟩:=h;rfl
  · obtain ⟨a,ns,rfl,hS,hlen,tk,k⟩:=h
    have hu:=hr.units
    refine ⟨_,(pss_cons (ps_set (i:=1) sc_law.nd rfl (Or.inr rfl) (pe_op op_mod (pe_call G__law_nth (hr.mono (by decide)) rfl D__law_nth.m D__law_nth.F.kp D__law_nth.b .nil pass0 (pa_cons (pv 0) (pa_cons pe_int pa_nil))) pe_int))
      (pss_cons (ps_set (i:=2) sc_law.nd rfl (Or.inl rfl) (pe_call G__law_river (hr.mono (by decide)) rfl D__law_river.m D__law_river.F.kp D__law_river.b .nil pass0 (pa_cons (pe_op op_fdiv (pe_call G__law_nth (hr.mono (by decide)) rfl D__law_nth.m D__law_nth.F.kp D__law_nth.b .nil pass0 (pa_cons (pv 0) (pa_cons pe_int pa_nil))) pe_int) pa_nil)))
      (pss_cons (ps_set (i:=3) sc_law.nd rfl (Or.inl rfl) (pe_slice sl_list (pv 0) (po_some pe_int) (po_some pe_int)))
      (pss_cons (ps_set (i:=4) sc_law.nd rfl (Or.inr rfl) (pe_call G__law_roll (hr.mono (by decide)) rfl D__law_roll.m D__law_roll.F.kp D__law_roll.b .nil pass0 (pa_cons (pe_call G__law_nth (hr.mono (by decide)) rfl D__law_nth.m D__law_nth.F.kp D__law_nth.b .nil pass0 (pa_cons (pv 0) (pa_cons pe_int pa_nil))) (pa_cons (pv 3) (pa_cons (pv 2) (pa_cons (pv 1) pa_nil))))))
      (pss_cons (ps_set (i:=5) sc_law.nd rfl (Or.inr rfl) (pe_call G__law_draws (hr.mono (by decide)) rfl D__law_draws.m D__law_draws.F.kp D__law_draws.b .nil pass0 (pa_cons (pe_op op_add (pe_call G__law_nth (hr.mono (by decide)) rfl D__law_nth.m D__law_nth.F.kp D__law_nth.b .nil pass0 (pa_cons (pv 0) (pa_cons pe_int pa_nil))) pe_int) (pa_cons pe_int pa_nil))))
      (pss_cons (ps_set (i:=6) sc_law.nd rfl (Or.inr rfl) (pe_call G__law_ponds (hr.mono (by decide)) rfl D__law_ponds.m D__law_ponds.F.kp D__law_ponds.b .nil pass0 (pa_cons (pv 5) (pa_cons (pv 4) (pa_cons (pv 1) pa_nil)))))
      (pss_cons (ps_setComp (i:=7) (defScope s_law) rfl ["script","kind","below","cells","roll","xs","ponds","springs","ys","calls","kept","left","lets","due","k","handed","told"] rfl ["x","kind"] [none,some 1] (by decide +kernel) (by decide +kernel) (by decide +kernel) rfl sc_law.nd rfl rfl (pi_list (pe_call G__law_draws (hr.mono (by decide)) rfl D__law_draws.m D__law_draws.F.kp D__law_draws.b .nil pass0 (pa_cons (pe_op op_add (pe_call G__law_nth (hr.mono (by decide)) rfl D__law_nth.m D__law_nth.F.kp D__law_nth.b .nil pass0 (pa_cons (pv 0) (pa_cons pe_int pa_nil))) pe_int) (pa_cons (pe_callB call_len_seq rfl B.len PySem.boot_len (pa_cons (pv 2) pa_nil)) pa_nil)))) (fun _ _ _=>(pg_name (i:=0) (show (["x","kind"]:List Str).Nodup by decide +kernel) rfl (Or.inl rfl))) (fun _ _ _=>pts_nil) (fun _ _ _=>(pe_call G__law_amount (hr.mono (by decide)) rfl D__law_amount.m D__law_amount.F.kp D__law_amount.b .nil pass0 (pa_cons (pv 0) (pa_cons (pv 1) pa_nil)))) rfl)
      (pss_cons (ps_set (i:=8) sc_law.nd rfl (Or.inr rfl) (pe_call G__law_draws (hr.mono (by decide)) rfl D__law_draws.m D__law_draws.F.kp D__law_draws.b .nil pass0 (pa_cons (pe_op op_add (pe_call G__law_nth (hr.mono (by decide)) rfl D__law_nth.m D__law_nth.F.kp D__law_nth.b .nil pass0 (pa_cons (pv 0) (pa_cons pe_int pa_nil))) pe_int) (pa_cons (pe_callB call_len_seq rfl B.len PySem.boot_len (pa_cons (pv 4) pa_nil)) pa_nil))))
      (pss_cons (ps_setComp (i:=9) (defScope s_law) rfl ["script","kind","below","cells","roll","xs","ponds","springs","ys","calls","kept","left","lets","due","k","handed","told"] rfl ["k","ys","roll"] [none,some 8,some 4] (by decide +kernel) (by decide +kernel) (by decide +kernel) rfl sc_law.nd rfl rfl (pi_range1 rfl B.range (pa_cons (pe_callB call_len_seq rfl B.len PySem.boot_len (pa_cons (pv 4) pa_nil)) pa_nil)) (fun _ _ _=>(pg_name (i:=0) (show (["k","ys","roll"]:List Str).Nodup by decide +kernel) rfl (Or.inl rfl))) (fun _ _ _=>pts_nil) (fun _ _ _=>(pe_call G__law_call (hr.mono (by decide)) rfl D__law_call.m D__law_call.F.kp D__law_call.b .nil pass0 (pa_cons (pe_ix (ix_listK (K:=K) rfl) (pv 1) (pv 0) (fun _ _=>rfl)) (pa_cons (pe_ix (ix_tupK (K:=K) rfl) (pe_ix (ix_listK (K:=K) rfl) (pv 2) (pv 0) (fun _ _=>rfl)) pe_int (fun _ _=>rfl)) pa_nil)))) rfl)
      (pss_cons (ps_expr (pe_call G__law_put_in (hr.mono (by decide)) rfl D__law_put_in.m D__law_put_in.F.kp D__law_put_in.b .nil pass0 (pa_cons (pv 3) (pa_cons (pv 7) (pa_cons (pv 9) (pa_cons (pv 4) (pa_cons (pv 1) pa_nil)))))))
      (pss_cons (ps_set (i:=5) sc_law.nd rfl (Or.inr rfl) (pe_call G__law_draws (hr.mono (by decide)) rfl D__law_draws.m D__law_draws.F.kp D__law_draws.b .nil pass0 (pa_cons (pe_op op_add (pe_call G__law_nth (hr.mono (by decide)) rfl D__law_nth.m D__law_nth.F.kp D__law_nth.b .nil pass0 (pa_cons (pv 0) (pa_cons pe_int pa_nil))) pe_int) (pa_cons (pe_callB call_len_seq rfl B.len PySem.boot_len (pa_cons (pv 6) pa_nil)) pa_nil))))
      (pss_cons (ps_setComp (i:=10) (defScope s_law) rfl ["script","kind","below","cells","roll","xs","ponds","springs","ys","calls","kept","left","lets","due","k","handed","told"] rfl ["k","xs","ponds"] [none,some 5,some 6] (by decide +kernel) (by decide +kernel) (by decide +kernel) rfl sc_law.nd rfl rfl (pi_range1 rfl B.range (pa_cons (pe_callB call_len_seq rfl B.len PySem.boot_len (pa_cons (pv 6) pa_nil)) pa_nil)) (fun _ _ _=>(pg_name (i:=0) (show (["k","xs","ponds"]:List Str).Nodup by decide +kernel) rfl (Or.inl rfl))) (fun _ _ _=>pts_nil) (fun _ _ _=>(pe_call G__law_some (hr.mono (by decide)) rfl D__law_some.m D__law_some.F.kp D__law_some.b .nil pass0 (pa_cons (pe_ix (ix_listK (K:=K) rfl) (pv 1) (pv 0) (fun _ _=>rfl)) (pa_cons (pe_ix (ix_tupK (K:=K) rfl) (pe_ix (ix_listK (K:=K) rfl) (pv 2) (pv 0) (fun _ _=>rfl)) pe_int (fun _ _=>rfl)) pa_nil)))) rfl)
      (pss_cons (ps_set (i:=11) sc_law.nd rfl (Or.inl rfl) (pe_callTy call_list_of rfl B.list PyProof.Rows.boot_list (pa_cons (pv 10) pa_nil)))
      (pss_cons (ps_set (i:=12) sc_law.nd rfl (Or.inl rfl) (pe_call G__law_lets (hr.mono (by decide)) rfl D__law_lets.m D__law_lets.F.kp D__law_lets.b .nil pass0 (pa_cons (pv 3) (pa_cons (pv 2) (pa_cons (pv 4) (pa_cons (pv 6) (pa_cons (pv 11) pa_nil)))))))
      (pss_cons (ps_set (i:=13) sc_law.nd rfl (Or.inl rfl) (pe_callTy call_list_of rfl B.list PyProof.Rows.boot_list (pa_cons (pv 9) pa_nil)))
      (pss_cons (ps_for PassesOwn.never rfl (pi_range1 rfl B.range (pa_cons (pe_callB call_len_seq rfl B.len PySem.boot_len (pa_cons (pv 6) pa_nil)) pa_nil)) (pg_name (i:=14) sc_law.nd rfl (Or.inl rfl))
        (pss_one (ps_asg (pe_callB (call_min2 rfl) rfl B.min PyProof.Rows.boot_min (pa_cons (pe_ix ix_list (pv 13) (pe_ix ix_tup (pe_ix ix_list (pv 6) (pv 14) (fun _ _=>rfl)) pe_int (fun _ _=>rfl)) (fun _ _=>rfl)) (pa_cons (pe_op op_sub (pe_ix ix_tup (pe_ix ix_list (pv 6) (pv 14) (fun _ _=>rfl)) pe_int (fun _ _=>rfl)) (pe_ix ix_list (pv 11) (pv 14) (fun _ _=>rfl))) pa_nil))) (pg_sub (pv 13) (pe_ix ix_tup (pe_ix ix_list (pv 6) (pv 14) (fun _ _=>rfl)) pe_int (fun _ _=>rfl)) set_list))))
      (pss_cons (ps_set (i:=15) sc_law.nd rfl (Or.inl rfl) (pe_lst (pa_cons (pe_callTy call_list_of rfl B.list PyProof.Rows.boot_list (pa_cons (pv 2) pa_nil)) (pa_cons (pe_callTy call_list_of rfl B.list PyProof.Rows.boot_list (pa_cons (pv 7) pa_nil)) (pa_cons (pe_callTy call_list_of rfl B.list PyProof.Rows.boot_list (pa_cons (pv 4) pa_nil)) (pa_cons (pe_callTy call_list_of rfl B.list PyProof.Rows.boot_list (pa_cons (pv 6) pa_nil)) (pa_cons (pe_callTy call_list_of rfl B.list PyProof.Rows.boot_list (pa_cons (pv 10) pa_nil)) (pa_cons (pe_callTy call_list_of rfl B.list PyProof.Rows.boot_list (pa_cons (pv 9) pa_nil)) (pa_cons (pe_callTy call_list_of rfl B.list PyProof.Rows.boot_list (pa_cons (pv 12) pa_nil)) pa_nil)))))))))
      (pss_cons (ps_set (i:=16) sc_law.nd rfl (Or.inl rfl) (pe_call G_day_of (hr.mono (by decide)) rfl D_day_of.m D_day_of.F.kp D_day_of.b .nil pass0 (pa_cons (pe_ix ix_list (pv 15) pe_int (fun _ _=>rfl)) (pa_cons (pe_ix ix_list (pv 15) pe_int (fun _ _=>rfl)) (pa_cons (pe_ix ix_list (pv 15) pe_int (fun _ _=>rfl)) (pa_cons (pe_ix ix_list (pv 15) pe_int (fun _ _=>rfl)) (pa_cons (pe_ix ix_list (pv 15) pe_int (fun _ _=>rfl)) (pa_cons (pe_ix ix_list (pv 15) pe_int (fun _ _=>rfl)) (pa_cons (pe_ix ix_list (pv 15) pe_int (fun _ _=>rfl)) pa_nil)))))))))
      (pss_cons (ps_if (pt_not (pt_val (pe_call G__law_kinds (hr.mono (by decide)) rfl D__law_kinds.m D__law_kinds.F.kp D__law_kinds.b .nil pass0 (pa_cons (pv 16) (pa_cons (pv 2) (pa_cons (pv 4) (pa_cons (pv 6) pa_nil)))))))
        (pss_one (ps_ret pe_bl))
        pss_nil)
      (pss_cons (ps_if (PW.pt (pw_or (pt_cmpR (op_neI hu) (pe_ix ix_tup (pv 16) pe_int (fun _ _=>rfl)) (pe_call G_deal (hr.mono (by decide)) rfl D_deal.m D_deal.F.kp D_deal.b .nil pass0 (pa_cons (pv 2) (pa_cons (pv 7) (pa_cons (pv 4) (pa_cons (pv 13) pa_nil))))) (nomark _)) (pw_or1 (pt_not (pt_val (pe_call G__law_kept (hr.mono (by decide)) rfl D__law_kept.m D__law_kept.F.kp D__law_kept.b .nil pass0 (pa_cons (pe_ix ix_tup (pv 16) pe_int (fun _ _=>rfl)) (pa_cons (pv 6) (pa_cons (pv 11) (pa_cons (pe_ix ix_tup (pv 16) pe_int (fun _ _=>rfl)) pa_nil))))))))))
        (pss_one (ps_ret pe_bl))
        pss_nil)
      (pss_cons (ps_expr (pe_bm PySem.F.plainAttrs_list PySem.F.slot_list_append PySem.F.type_list_append mt_append (pe_ix ix_tup (pv 16) pe_int (fun _ _=>rfl)) (pa_cons (pe_un un_neg pe_int) pa_nil)))
      (pss_cons (ps_expr (pe_bm PySem.F.plainAttrs_list PySem.F.slot_list_append PySem.F.type_list_append mt_append (pe_ix ix_tup (pv 16) pe_int (fun _ _=>rfl)) (pa_cons (pe_un un_neg pe_int) pa_nil)))
      (pss_cons (ps_expr (pe_bm PySem.F.plainAttrs_list PySem.F.slot_list_append PySem.F.type_list_append mt_append (pe_ix ix_tup (pv 16) pe_int (fun _ _=>rfl)) (pa_cons (pe_un un_neg pe_int) pa_nil)))
      (pss_cons (ps_if (pt_cmpR (op_neI hu) (pe_lst (pa_cons (pe_callB call_len_seq rfl B.len PySem.boot_len (pa_cons (pe_ix ix_tup (pv 16) pe_int (fun _ _=>rfl)) pa_nil)) (pa_cons (pe_callB call_len_seq rfl B.len PySem.boot_len (pa_cons (pe_ix ix_tup (pv 16) pe_int (fun _ _=>rfl)) pa_nil)) (pa_cons (pe_callB call_len_seq rfl B.len PySem.boot_len (pa_cons (pe_ix ix_tup (pv 16) pe_int (fun _ _=>rfl)) pa_nil)) pa_nil)))) (pe_lst (pa_cons (pe_op op_add (pe_callB call_len_seq rfl B.len PySem.boot_len (pa_cons (pv 4) pa_nil)) pe_int) (pa_cons (pe_op op_add (pe_callB call_len_seq rfl B.len PySem.boot_len (pa_cons (pv 6) pa_nil)) pe_int) (pa_cons (pe_op op_add (pe_callB call_len_seq rfl B.len PySem.boot_len (pa_cons (pv 2) pa_nil)) pe_int) pa_nil)))) (nomark _))
        (pss_one (ps_ret pe_bl))
        pss_nil)
      (pss_one (ps_ret (pe_cmpR (op_eqD hu) (pv 15) (pe_lst (pa_cons (pv 2) (pa_cons (pv 7) (pa_cons (pv 4) (pa_cons (pv 6) (pa_cons (pv 10) (pa_cons (pv 9) (pa_cons (pv 12) pa_nil)))))))) (nomark _)))))))))))))))))))))))))))),?_⟩
    refine sl_31 ?_
    intro zu0 zu1 zu2 zu3 zu4 zu5 zu6 zu7 zu8 zu9 zu10 zu11 zu12 zu13 zu14 zu15 zu16 zu17 zu18 zu19 zu20 zu21 zu22 zu23 zu24 zu25 zu26 zu27
    have O:=Ow.refl tk
    have s0:=O.same
    refine ⟨_,rfl,a,ns,0,rfl,hS,tk,fun H1 sm=>?_⟩
    have O:=O.callT sm
    refine ⟨_,_,rfl,rfl,(by show (0:Int)<3;decide),?_⟩
    dsimp only
    generalize ns.getD 0 0 % 3=kd
    refine ⟨_,rfl,a,ns,0,rfl,O.same.seq hS,O.same.t1,fun H2 sm=>?_⟩
    have O:=O.callT sm
    refine ⟨_,_,rfl,rfl,⟨by decide,by decide⟩,_,rfl,O.same.t1,O.gotT fun lv H3 rs O e=>?_⟩
    obtain ⟨r,rfl,hR,r1,r40⟩:=e
    have hml:((r.map V.int).length:Int)=(r.length:Int):=by rw [List.length_map]
    /- cells -/
    refine ⟨_,rfl,2,rfl,62,rfl,a,_,rfl,O.same.seq hS,fun lq hlq=>?_⟩
    walk_at "nw"
    rw [show cutV (ns.map V.int) (some 2) (some 62)=((ns.drop 2).take 60).map V.int from cut_ns ns 2 62] at O
    have hql:((ns.drop 2).take 60).length≤60:=by rw [List.length_take];omega
    generalize (ns.drop 2).take 60=qs at O hql
    /- roll -/
    refine ⟨_,rfl,a,ns,1,rfl,O.same.seq hS,O.same.t1,fun H4 sm=>?_⟩
    have O:=O.callT sm
    refine ⟨_,rfl,_,rfl,_,rfl,_,kd,lq,lv,qs,r,rfl,O.sq 0,O.sq 1,hR,r1,by omega,O.same.t1,fun lr H5 H6 rs ls s5 O5 d0 l60 hok=>?_⟩
    have hV:SqL K H5 lv (r.map V.int):=s5.seq (O.sq 1)
    have hQ:SqL K H5 lq (qs.map V.int):=s5.seq (O.sq 0)
    replace s0:=O.same.trans s5
    clear O
    have O:=O5
    clear O5 s5
    have hrl:rs.length=ls.length:=by rw [d0.length,List.length_map]
    /- xs, ponds -/
    refine ⟨_,rfl,a,ns,1,rfl,(s0.trans O.same).seq hS,O.same.t1,fun H7 sm=>?_⟩
    have O:=O.callT sm
    refine ⟨_,_,rfl,rfl,_,84,rfl,by decide,by decide,O.same.t1,O.gotT fun lx H8 xs O e=>?_⟩
    obtain ⟨ys,rfl,hyl,hyb⟩:=e
    have hyl:ys.length=84:=hyl
    clear hyb
    refine ⟨_,rfl,_,rfl,_,rfl,kd,lx,lr,ys,rs,ls,rfl,O.sq 0,by omega,O.sq 1,d0.mo O.same,l60,O.same.t1,fun lp H9 H10 us ps s9 O9 d1 PO=>?_⟩
    replace hV:=(O.same.trans s9).seq hV
    replace hQ:=(O.same.trans s9).seq hQ
    have hL:SqL K H9 lr rs:=s9.seq (O.sq 1)
    replace d0:=d0.mo (O.same.trans s9)
    replace s0:=s0.trans (O.same.trans s9)
    clear O
    have O:=O9
    clear O9 s9
    have hul:us.length=ps.length:=by rw [d1.length,List.length_map]
    have hpl:=PO.len
    /- springs -/
    refine ⟨_,rfl,a,ns,0,rfl,(s0.trans O.same).seq hS,O.same.t1,fun H11 sm=>?_⟩
    have O:=O.callT sm
    refine ⟨_,_,rfl,rfl,_,rfl,lv,_,rfl,.inl (O.same.seq hV),_,_,rfl,by rw [hml];omega,by rw [hml];omega,O.same.t1,O.gotT fun lz H12 xs O e=>?_⟩
    obtain ⟨zs,rfl,hzl,-⟩:=e
    rw [hml,Int.toNat_natCast] at hzl
    refine ⟨lz,rfl,⟨_,O.sq 0⟩,fun lg hlg=>?_⟩
    refine comp_list (K:=K) (xs:=zs.map V.int) (fun i τ H'=>Iv (∃ (v0:Option V) (gs:List Int),τ=[v0,some (.int kd)]∧gs.length=i∧(∀ x∈gs,0≤x)∧Ow T H9 H' [(lg,.lst (gs.map V.int)),(lz,.lst (zs.map V.int)),(lp,.lst us)]))
      ⟨trivial,none,[],rfl,rfl,(fun x hx=>nomatch hx),O.mk' hlg rfl⟩ (fun _ _ _ _ ⟨_,_,_,_,_,_,O⟩=>O.sq 1) ?_ ?_
    · rintro i y τ H13 hy ⟨-,v0,gs,rfl,hgi,hg0,O⟩
      obtain ⟨z,hz,rfl⟩:=ints_get hy
      have hi:=(List.getElem?_eq_some_iff.mp hz).1
      refine yesT ?_
      refine ⟨_,rfl,_,rfl,_,_,rfl,fun x x0 x1=>?_⟩
      refine ⟨_,O.get 0,small100' (by rw [List.length_map];omega),?_⟩
      walk_at "pt"
      rw [map_snoc] at O
      refine ⟨trivial,_,gs++[x],rfl,by rw [List.length_append,hgi];rfl,fun u hu=>?_,O⟩
      rcases List.mem_append.mp hu with e | e
      · exact hg0 u e
      · have e2:u=x:=by simpa using e
        rw [e2];exact x0
    rintro τ H13 ⟨-,v0,sp,rfl,hspl,hsp0,O⟩
    rw [List.length_map,hzl] at hspl
    have O:=O.two
    /- ys, calls -/
    refine ⟨_,rfl,a,ns,0,rfl,(s0.trans O.same).seq hS,O.same.t1,fun H14 sm=>?_⟩
    have O:=O.callT sm
    refine ⟨_,_,rfl,rfl,_,rfl,lr,_,rfl,.inl (O.same.seq hL),_,_,rfl,by omega,by omega,O.same.t1,O.gotT fun ly H15 xs O e=>?_⟩
    obtain ⟨ys,rfl,hyl,-⟩:=e
    rw [Int.toNat_natCast] at hyl
    refine ⟨_,rfl,lr,_,rfl,.inl (O.same.seq hL),(rs.length:Int),rfl,by omega,by omega,fun lc hlc=>?_⟩
    rw [Int.toNat_natCast]
    refine comp_range (n:=rs.length) (fun i τ H'=>Iv (∃ (v0:Option V) (cs:List Int),τ=[v0,some (.ref ly),some (.ref lr)]∧cs.length=i∧(∀ x∈cs,0≤x)∧Ow T H9 H' [(lc,.lst (cs.map V.int)),(ly,.lst (ys.map V.int)),(lg,.lst (sp.map V.int)),(lp,.lst us)]))
      ⟨trivial,none,[],rfl,rfl,(fun x hx=>nomatch hx),O.mk' hlc rfl⟩ ?_ ?_
    · rintro i τ H16 hi ⟨-,v0,cs,rfl,hci,hc0,O⟩
      rw [show (0:Int) + (i:Int)=(i:Int) by omega]
      obtain ⟨li,hli⟩:∃ li,ls[i]?=some li:=⟨_,List.getElem?_eq_getElem (by omega)⟩
      obtain ⟨al,hal,hT⟩:=d0.lic_at hli
      refine yesT ?_
      refine ⟨_,rfl,_,rfl,ly,_,_,_,rfl,rfl,O.sq 1,ints_at (getD_get? (ns:=ys) (k:=i) (by omega)),_,rfl,_,rfl,lr,_,_,_,rfl,rfl,O.same.seq hL,atI_nat hal,al,_,3,_,rfl,rfl,hT.mo O.same,rfl,_,_,rfl,(hok li (List.mem_of_getElem? hli)).1.2,O.same.t1,fun x H17 x0 sm=>?_⟩
      have O:=O.callT sm
      refine ⟨_,O.get 0,small100' (by rw [List.length_map];omega),?_⟩
      walk_at "pt"
      rw [map_snoc] at O
      refine ⟨trivial,_,cs++[x],rfl,by rw [List.length_append,hci];rfl,fun u hu=>?_,O⟩
      rcases List.mem_append.mp hu with e | e
      · exact hc0 u e
      · have e2:u=x:=by simpa using e
        rw [e2];exact x0
    rintro τ H16 ⟨-,v0,cs,rfl,hcl,hc0,O⟩
    have O:=(O.del 1).pull 1
    walk_at "er"
    /- put in -/
    obtain ⟨Hl,OA,sl,hB,bk⟩:=Ow.lend (A:=[(lg,.lst (sp.map V.int)),(lc,.lst (cs.map V.int))]) (B:=[(lp,.lst us)]) O
    refine ⟨_,rfl,_,rfl,_,rfl,_,rfl,_,rfl,lq,lg,lc,lr,qs,sp,cs,rs,ls,kd,Hl,rfl,OA,sl.seq hQ,sl.seq hL,d0.mo sl,by omega,by omega,hsp0,hc0,fun l hl=>(hok l hl).1.2,fun H17 sp' cs' O' hs' hc' sn cn=>?_⟩
    have O:=bk _ _ O'
    clear bk hB sl OA O' Hl
    rw [hspl] at hs'
    rw [hcl] at hc'
    clear hsp0 hc0 hspl hcl
    walk_at "jn"
    /- kept -/
    refine ⟨_,rfl,a,ns,1,rfl,(s0.trans O.same).seq hS,O.same.t1,fun H18 sm=>?_⟩
    have O:=O.callT sm
    refine ⟨_,_,rfl,rfl,_,rfl,lp,_,rfl,.inl (O.sq 2),_,_,rfl,by omega,by omega,O.same.t1,O.gotT fun lw H19 xs O e=>?_⟩
    obtain ⟨ys,rfl,hyl,-⟩:=e
    rw [Int.toNat_natCast] at hyl
    refine ⟨_,rfl,lp,_,rfl,.inl (O.sq 3),(us.length:Int),rfl,by omega,by omega,fun lk hlk=>?_⟩
    rw [Int.toNat_natCast]
    refine comp_range (n:=us.length) (fun i τ H'=>Iv (∃ (v0:Option V) (ks:List Int),τ=[v0,some (.ref lw),some (.ref lp)]∧ks.length=i∧(∀ z∈ks,0≤z)∧(∀ j,j<i→ks.getD j 0≤(ps.getD j (0,0,0)).2.1)∧Ow T H9 H' [(lk,.lst (ks.map V.int)),(lw,.lst (ys.map V.int)),(lg,.lst (sp'.map V.int)),(lc,.lst (cs'.map V.int)),(lp,.lst us)]))
      ⟨trivial,none,[],rfl,rfl,(fun z hz=>nomatch hz),(fun j hj=>absurd hj (Nat.not_lt_zero j)),O.mk' hlk rfl⟩ ?_ ?_
    · rintro i τ H20 hi ⟨-,v0,ks,rfl,hki,hk0,hkr,O⟩
      rw [show (0:Int) + (i:Int)=(i:Int) by omega]
      obtain ⟨u,hu⟩:∃ u,us[i]?=some u:=⟨_,List.getElem?_eq_getElem hi⟩
      obtain ⟨ap,p,rfl,hp,hT⟩:=d1.mv_get hu
      refine yesT ?_
      refine ⟨_,rfl,_,rfl,lw,_,_,_,rfl,rfl,O.sq 1,ints_at (getD_get? (ns:=ys) (k:=i) (by omega)),_,rfl,_,rfl,lp,_,_,_,rfl,rfl,O.sq 4,atI_nat hu,ap,_,1,_,rfl,rfl,hT.mo O.same,rfl,_,_,rfl,(PO.rg p (List.mem_of_getElem? hp)).2.2.1,fun x x0 x1=>?_⟩
      refine ⟨_,O.get 0,small100' (by rw [List.length_map];omega),?_⟩
      walk_at "pt"
      rw [map_snoc] at O
      refine ⟨trivial,_,ks++[x],rfl,by rw [List.length_append,hki];rfl,fun z hz=>?_,fun j hj=>?_,O⟩
      · rcases List.mem_append.mp hz with e | e
        · exact hk0 z e
        · have:z=x:=by simpa using e
          rw [this];exact x0
      · by_cases hji:j<i
        · rw [List.getD_eq_getElem?_getD,List.getElem?_append_left (by omega),← List.getD_eq_getElem?_getD]
          exact hkr j hji
        · have e:j=i:=by omega
          subst e
          rw [List.getD_eq_getElem?_getD,List.getElem?_append_right (by omega),hki,Nat.sub_self,getD_some hp]
          exact x1
    rintro τ H20 ⟨-,v0,ks,rfl,hki,hk0,hkr,O⟩
    rw [hul] at hki hkr
    have O:=O.two
    /- left, lets -/
    refine ⟨_,rfl,lk,_,rfl,.inl (O.sq 0),fun lf hlf=>?_⟩
    walk_at "nw"
    obtain ⟨Hl,OA,sl,hB,bk⟩:=Ow.lend (A:=[(lf,.lst (ks.map V.int))]) (B:=[(lk,.lst (ks.map V.int)),(lg,.lst (sp'.map V.int)),(lc,.lst (cs'.map V.int)),(lp,.lst us)]) O
    have bK:SqL K Hl lk (ks.map V.int):=SqL.of (hB (lk,_) (by simp))
    have bG:SqL K Hl lg (sp'.map V.int):=SqL.of (hB (lg,_) (by simp))
    have bC:SqL K Hl lc (cs'.map V.int):=SqL.of (hB (lc,_) (by simp))
    have bP:SqL K Hl lp us:=SqL.of (hB (lp,_) (by simp))
    refine ⟨_,rfl,_,rfl,_,rfl,_,rfl,_,rfl,lq,lv,lr,lp,lf,qs,r,ks,rs,us,ls,ps,Hl,rfl,OA,sl.seq hQ,by omega,sl.seq hV,hR,by omega,sl.seq hL,d0.mo sl,fun l hl=>(hok l hl).1.1,bP,d1.mo sl,PO,hki,hk0,fun lt Hb H21 ts ms sb O' d2 hm1 LO hl0=>?_⟩
    clear bk hB OA O
    have O:=O'
    clear O'
    replace bK:=sb.seq bK
    replace bG:=sb.seq bG
    replace bC:=sb.seq bC
    replace bP:=sb.seq bP
    replace hV:=(sl.trans sb).seq hV
    replace hL:=(sl.trans sb).seq hL
    replace d0:=d0.mo (sl.trans sb)
    replace d1:=d1.mo (sl.trans sb)
    clear hQ s0 hS sl sb
    have hfl:=leftF_len ms ks
    /- due -/
    refine ⟨_,rfl,lc,_,rfl,.inl (O.same.seq bC),fun ld hld=>?_⟩
    walk_at "nw"
    refine ⟨_,rfl,lp,_,rfl,.inl (O.same.seq bP),(us.length:Int),rfl,by omega,by omega,?_⟩
    rw [Int.toNat_natCast]
    refine for_range (n:=us.length) (fun i σ H'=>Iv (∃ (v14 v5 v8:Option V),σ=[some (.ref a),some (.int kd),some (.ref lv),some (.ref lq),some (.ref lr),v5,some (.ref lp),some (.ref lg),v8,some (.ref lc),some (.ref lk),some (.ref lf),some (.ref lt),some (.ref ld),v14,none,none]∧Ow T Hb H' [(ld,.lst ((lessL cs' ps (leftF ks ms) i).map V.int)),(lt,.lst ts),(lf,.lst ((leftF ks ms).map V.int))]))
      ⟨trivial,none,_,_,rfl,O⟩ ?_ ?_
    · rintro i σ H22 hi ⟨-,v14,v5,v8,rfl,O⟩
      rw [show (0:Int) + (i:Int)=(i:Int) by omega]
      obtain ⟨u,hu⟩:∃ u,us[i]?=some u:=⟨_,List.getElem?_eq_getElem hi⟩
      obtain ⟨ap,p,rfl,hp,hT⟩:=d1.mv_get hu
      have hpr:=PO.rg p (List.mem_of_getElem? hp)
      have hll:=lessL_len cs' ps (leftF ks ms) i
      have hne:=lessL_ne (cs:=cs') (ks:=leftF ks ms) (ps:=ps) (n:=p.1.toNat) i fun j hj=>by
        have:=nd_num PO.nd (fun p hp=>(PO.rg p hp).1) hj (by omega)
        rw [getD_some hp] at this;exact this
      refine ⟨_,rfl,_,rfl,_,rfl,lp,_,_,_,rfl,rfl,O.same.seq bP,atI_nat hu,ap,_,0,_,rfl,rfl,hT.mo O.same,rfl,ld,_,_,_,rfl,rfl,O.sq 0,ints_atZ hpr.1 (by omega),?_⟩
      refine ⟨_,rfl,_,rfl,lp,_,_,_,rfl,rfl,O.same.seq bP,atI_nat hu,ap,_,1,_,rfl,rfl,hT.mo O.same,rfl,_,rfl,_,rfl,lf,_,_,_,rfl,rfl,O.sq 2,ints_at (getD_get? (ns:=leftF ks ms) (k:=i) (by omega)),_,_,rfl,rfl,_,_,rfl,?_⟩
      refine ⟨_,rfl,_,rfl,_,rfl,lp,_,_,_,rfl,rfl,O.same.seq bP,atI_nat hu,ap,_,0,_,rfl,rfl,hT.mo O.same,rfl,?_⟩
      refine ow_set O 0 rfl (ixN_Z hpr.1 (by rw [List.length_map,hll];omega)) fun H23 O=>?_
      refine ⟨trivial,_,_,_,rfl,?_⟩
      rw [hne] at O
      rw [lessL,getD_some hp,List.map_set]
      have em:min (cs'.getD p.1.toNat 0) (p.2.1 - (leftF ks ms).getD i 0)=if p.2.1 - (leftF ks ms).getD i 0<cs'.getD p.1.toNat 0 then p.2.1 - (leftF ks ms).getD i 0 else cs'.getD p.1.toNat 0:=by split <;> omega
      rw [em];exact O
    rintro σ H22 ⟨-,v14,v5,v8,rfl,O⟩
    rw [hul] at O
    /- handed -/
    refine ⟨_,rfl,lv,_,rfl,.inl (O.same.seq hV),fun pa hpa=>?_⟩
    walk_at "nw"
    refine ⟨_,rfl,lg,_,rfl,.inl (O.same.seq bG),fun pb hpb=>?_⟩
    walk_at "nw"
    refine ⟨_,rfl,lr,_,rfl,.inl (O.same.seq hL),fun pc hpc=>?_⟩
    walk_at "nw"
    refine ⟨_,rfl,lp,_,rfl,.inl (O.same.seq bP),fun pd hpd=>?_⟩
    walk_at "nw"
    refine ⟨_,rfl,lk,_,rfl,.inl (O.same.seq bK),fun pe hpe=>?_⟩
    walk_at "nw"
    refine ⟨_,rfl,lc,_,rfl,.inl (O.same.seq bC),fun pf hpf=>?_⟩
    walk_at "nw"
    refine ⟨_,rfl,lt,_,rfl,.inl (O.sq 7),fun pg hpg=>?_⟩
    walk_at "nw"
    refine ⟨szl,fun lh hlh=>?_⟩
    walk_at "nw"
    have hsh:Sh 3 (.list [dInts r,dInts sp',dRoll ls,dMvs ps,dInts ks,dInts cs',dMvs ms]):=Sh.seven (Sh.ints 1 r) (Sh.ints 1 sp') (Sh.roll 0 ls) (Sh.mvs 0 ps) (Sh.ints 1 ks) (Sh.ints 1 cs') (Sh.mvs 0 ms)
    have dh:∀ (H':Hp) (x u1 u2 u3 u4 u5 u6 u7:Addr),SameT T Hb H'→SqL K H' x [.ref u1,.ref u2,.ref u3,.ref u4,.ref u5,.ref u6,.ref u7]→SqL K H' u1 (r.map V.int)→SqL K H' u2 (sp'.map V.int)→SqL K H' u3 rs→SqL K H' u4 us→SqL K H' u5 (ks.map V.int)→SqL K H' u6 (cs'.map V.int)→SqL K H' u7 ts→Den K H' (.ref x) (.list [dInts r,dInts sp',dRoll ls,dMvs ps,dInts ks,dInts cs',dMvs ms]) :=
      fun H' x u1 u2 u3 u4 u5 u6 u7 sm h0 h1 h2 h3 h4 h5 h6 h7=>.list h0 (.cons (Den.ints h1) (.cons (Den.ints h2) (.cons (.list h3 (d0.mo sm)) (.cons (.list h4 (d1.mo sm)) (.cons (Den.ints h5) (.cons (Den.ints h6) (.cons (.list h7 (d2.mo sm)) .nil)))))))
    /- told -/
    have amt0:∀ m∈ms,0≤m.2.2:=fun m hm=>by
      obtain ⟨i,hi⟩:=List.getElem?_of_mem hm
      exact (LO i m hi).amt
    have hbn:=lessL_nn (cs:=cs') (ks:=leftF ks ms) (ps:=ps) cn (fun j hj=>Int.le_trans (leftF_le ms ks amt0 j) (hkr j hj)) ps.length (Nat.le_refl _)
    have DK:DOk r sp' ls ps ms ks cs':=⟨hR,by omega,hs',sn,by omega,fun l hl=>(hok l hl).1,hki,by omega,fun p hp=>⟨(PO.rg p hp).1,(PO.rg p hp).2.1,(PO.rg p hp).2.2.2.1,(PO.rg p hp).2.2.2.2⟩,by omega,by omega,LO,hbn⟩
    refine ⟨_,rfl,lh,_,0,_,rfl,rfl,O.sq 0,rfl,_,rfl,lh,_,1,_,rfl,rfl,O.sq 0,rfl,_,rfl,lh,_,2,_,rfl,rfl,O.sq 0,rfl,_,rfl,lh,_,3,_,rfl,rfl,O.sq 0,rfl,_,rfl,lh,_,4,_,rfl,rfl,O.sq 0,rfl,_,rfl,lh,_,5,_,rfl,rfl,O.sq 0,rfl,_,rfl,lh,_,6,_,rfl,rfl,O.sq 0,rfl,?_⟩
    refine ⟨pa,pb,pc,pd,pe,pf,pg,r,sp',rs,us,ts,ls,ps,ms,ks,cs',rfl,⟨O.sq 7,O.sq 6,O.sq 5,d0.mo O.same,O.sq 4,d1.mo O.same,O.sq 3,O.sq 2,O.sq 1,d2.mo O.same⟩,DK,O.same.t1,fun t l1 l2 l3 l4 H23 xs OD DX=>?_⟩
    have O:=O.join OD
    walk_at "jn"
    have hxl:=DX.len
    have hal:(aftL ps (leftF ks ms) xs).length=ps.length:=by unfold aftL;rw [List.length_map,List.length_range]
    have hfw:(Rv.flws r sp' (mvsD ls ps xs ms)).length=r.length:=(Rv.flws_fl r sp' (mvsD ls ps xs ms)).len
    refine ⟨_,rfl,_,rfl,_,rfl,_,rfl,t,l1,l2,l3,l4,lv,lr,lp,xs,aftL ps (leftF ks ms) xs,Rv.flws r sp' (mvsD ls ps xs ms),_,_,rs,us,rfl,O.get 0,O.get 4,O.get 3,O.get 2,O.get 1,O.same.seq hV,O.same.seq hL,O.same.seq bP,by omega,by omega,by rw [List.length_map];omega,O.same.t1,fun H24 sm=>?_⟩
    have O:=O.callT sm
    refine ⟨_,rfl,iteF ?_⟩
    /- the dealing -/
    have hll:=lessL_len cs' ps (leftF ks ms) ps.length
    refine ⟨_,rfl,t,_,0,_,rfl,rfl,O.sqT 0,rfl,_,rfl,_,rfl,_,rfl,_,rfl,lv,lg,ld,.ref lr,r,sp',ls,lessL cs' ps (leftF ks ms) ps.length,rfl,⟨O.same.seq hV,hR,by omega⟩,O.same.seq bG,hs',sn,.list (O.same.seq hL) (d0.mo O.same),by omega,O.sq 13,by omega,fun l hl=>(hok l hl).1,hbn,O.same.t1,O.gotT fun l5 H25 zs O e=>?_⟩
    obtain ⟨xs2,rfl,DY⟩:=e
    have e2:=dealt_eq (fun l hl=>(hok l hl).2) DX DY
    subst e2
    refine ⟨l1,l5,xs2,xs2,rfl,rfl,O.sq 5,O.sq 0,?_⟩
    rw [if_pos rfl,decide_eq_true rfl]
    refine ⟨_,rfl,iteF ?_⟩
    refine ⟨_,rfl,t,_,1,_,rfl,rfl,O.sqT 1,rfl,_,rfl,_,rfl,_,rfl,t,_,0,_,rfl,rfl,O.sqT 1,rfl,l2,lp,lf,l1,us,ps,leftF ks ms,xs2,rfl,O.sq 4,O.same.seq bP,d1.mo O.same,by omega,O.sq 16,by omega,O.sq 5,fun p hp=>⟨(PO.rg p hp).1,by have:=(PO.rg p hp).2.1;omega,(PO.rg p hp).2.2.2.1,(PO.rg p hp).2.2.2.2⟩,?_⟩
    refine ⟨_,rfl,iteF ?_⟩
    have O:=O.tail
    /- told is the asker's own -/
    refine ⟨_,rfl,t,_,0,.ref l1,rfl,rfl,O.sqT 0,rfl,.inl ⟨rfl,_,O.sq 4⟩,_,rfl,l1,_,_,rfl,rfl,O.get 4,small100' (by rw [List.length_map];omega),?_⟩
    walk_at "pt"
    refine ⟨_,rfl,t,_,1,.ref l2,rfl,rfl,O.sqT 0,rfl,.inl ⟨rfl,_,O.sq 3⟩,_,rfl,l2,_,_,rfl,rfl,O.get 3,small100' (by rw [List.length_map];omega),?_⟩
    walk_at "pt"
    refine ⟨_,rfl,t,_,2,.ref l3,rfl,rfl,O.sqT 0,rfl,.inl ⟨rfl,_,O.sq 2⟩,_,rfl,l3,_,_,rfl,rfl,O.get 2,small100' (by rw [List.length_map];omega),?_⟩
    walk_at "pt"
    refine ⟨_,rfl,t,_,0,_,rfl,rfl,O.sqT 0,rfl,l1,_,rfl,.inl (O.sq 4),_,rfl,t,_,1,_,rfl,rfl,O.sqT 0,rfl,l2,_,rfl,.inl (O.sq 3),_,rfl,t,_,2,_,rfl,rfl,O.sqT 0,rfl,l3,_,rfl,.inl (O.sq 2),szl,fun m1 hm1'=>?_⟩
    walk_at "nw"
    refine ⟨_,rfl,lr,_,rfl,.inl (O.same.seq hL),_,_,rfl,rfl,_,rfl,lp,_,rfl,.inl (O.same.seq bP),_,_,rfl,rfl,_,rfl,lv,_,rfl,.inl (O.same.seq hV),_,_,rfl,rfl,szl,fun m2 hm2=>?_⟩
    walk_at "nw"
    refine ⟨m1,m2,[_,_,_],[_,_,_],rfl,rfl,O.sq 1,O.sq 0,?_⟩
    rw [if_pos rfl,decide_eq_true (by simp only [List.length_append,List.length_map,List.length_cons,List.length_nil];rw [hxl,hal,hfw,hrl,hul];rfl)]
    refine ⟨_,rfl,iteF ?_⟩
    have O:=O.tail.tail
    refine ⟨_,rfl,_,rfl,_,rfl,_,rfl,_,rfl,_,rfl,_,rfl,_,rfl,szl,fun m3 hm3=>?_⟩
    walk_at "nw"
    refine ⟨_,_,dh _ lh pa pb pc pd pe pf pg O.same (O.sq 6) (O.sq 13) (O.sq 12) (O.sq 11) (O.sq 10) (O.sq 9) (O.sq 8) (O.sq 7),dh _ m3 lv lg lr lp lk lc lt O.same (O.sq 0) (O.same.seq hV) (O.same.seq bG) (O.same.seq hL) (O.same.seq bP) (O.same.seq bK) (O.same.seq bC) (O.sq 15),hsh.ok (by decide),hsh.ok (by decide),?_⟩
    rw [if_neg Bool.false_ne_true,eqv_same hsh]
    exact k _
theorem bindK1 {K:PySem.W.Frag} {x qual:Str} {st:Stmt} {f:Addr} {fd:FuncData} {n0:Str} (F:Fun K x qual st f fd) (h:∀ (kV doc pm:Value) (an:Option Addr) (cdv ct u0:Value),bindArgs (PySem.W.fnOf x qual (defArgs st) (defBody st) (defScope st) .none kV doc pm an cdv ct) ⟨[u0],[]⟩=pure (([n0]:List Str).zip [u0])):Binds K fd [n0] [] :=
  F.binds (ps:=[n0]) fun kV doc pm an cdv ct us hl=>match us,hl with | [u0],_=>h kV doc pm an cdv ct u0
theorem bindK2 {K:PySem.W.Frag} {x qual:Str} {st:Stmt} {f:Addr} {fd:FuncData} {n0 n1:Str} (F:Fun K x qual st f fd) (h:∀ (kV doc pm:Value) (an:Option Addr) (cdv ct u0 u1:Value),bindArgs (PySem.W.fnOf x qual (defArgs st) (defBody st) (defScope st) .none kV doc pm an cdv ct) ⟨[u0,u1],[]⟩=pure (([n0,n1]:List Str).zip [u0,u1])):Binds K fd [n0,n1] [] :=
  F.binds (ps:=[n0,n1]) fun kV doc pm an cdv ct us hl=>match us,hl with | [u0,u1],_=>h kV doc pm an cdv ct u0 u1
theorem bindK3 {K:PySem.W.Frag} {x qual:Str} {st:Stmt} {f:Addr} {fd:FuncData} {n0 n1 n2:Str} (F:Fun K x qual st f fd) (h:∀ (kV doc pm:Value) (an:Option Addr) (cdv ct u0 u1 u2:Value),bindArgs (PySem.W.fnOf x qual (defArgs st) (defBody st) (defScope st) .none kV doc pm an cdv ct) ⟨[u0,u1,u2],[]⟩=pure (([n0,n1,n2]:List Str).zip [u0,u1,u2])):Binds K fd [n0,n1,n2] [] :=
  F.binds (ps:=[n0,n1,n2]) fun kV doc pm an cdv ct us hl=>match us,hl with | [u0,u1,u2],_=>h kV doc pm an cdv ct u0 u1 u2
theorem bindK4 {K:PySem.W.Frag} {x qual:Str} {st:Stmt} {f:Addr} {fd:FuncData} {n0 n1 n2 n3:Str} (F:Fun K x qual st f fd) (h:∀ (kV doc pm:Value) (an:Option Addr) (cdv ct u0 u1 u2 u3:Value),bindArgs (PySem.W.fnOf x qual (defArgs st) (defBody st) (defScope st) .none kV doc pm an cdv ct) ⟨[u0,u1,u2,u3],[]⟩=pure (([n0,n1,n2,n3]:List Str).zip [u0,u1,u2,u3])):Binds K fd [n0,n1,n2,n3] [] :=
  F.binds (ps:=[n0,n1,n2,n3]) fun kV doc pm an cdv ct us hl=>match us,hl with | [u0,u1,u2,u3],_=>h kV doc pm an cdv ct u0 u1 u2 u3
theorem bindK5 {K:PySem.W.Frag} {x qual:Str} {st:Stmt} {f:Addr} {fd:FuncData} {n0 n1 n2 n3 n4:Str} (F:Fun K x qual st f fd) (h:∀ (kV doc pm:Value) (an:Option Addr) (cdv ct u0 u1 u2 u3 u4:Value),bindArgs (PySem.W.fnOf x qual (defArgs st) (defBody st) (defScope st) .none kV doc pm an cdv ct) ⟨[u0,u1,u2,u3,u4],[]⟩=pure (([n0,n1,n2,n3,n4]:List Str).zip [u0,u1,u2,u3,u4])):Binds K fd [n0,n1,n2,n3,n4] [] :=
  F.binds (ps:=[n0,n1,n2,n3,n4]) fun kV doc pm an cdv ct us hl=>match us,hl with | [u0,u1,u2,u3,u4],_=>h kV doc pm an cdv ct u0 u1 u2 u3 u4
theorem bindK6 {K:PySem.W.Frag} {x qual:Str} {st:Stmt} {f:Addr} {fd:FuncData} {n0 n1 n2 n3 n4 n5:Str} (F:Fun K x qual st f fd) (h:∀ (kV doc pm:Value) (an:Option Addr) (cdv ct u0 u1 u2 u3 u4 u5:Value),bindArgs (PySem.W.fnOf x qual (defArgs st) (defBody st) (defScope st) .none kV doc pm an cdv ct) ⟨[u0,u1,u2,u3,u4,u5],[]⟩=pure (([n0,n1,n2,n3,n4,n5]:List Str).zip [u0,u1,u2,u3,u4,u5])):Binds K fd [n0,n1,n2,n3,n4,n5] [] :=
  F.binds (ps:=[n0,n1,n2,n3,n4,n5]) fun kV doc pm an cdv ct us hl=>match us,hl with | [u0,u1,u2,u3,u4,u5],_=>h kV doc pm an cdv ct u0 u1 u2 u3 u4 u5
theorem bindK7 {K:PySem.W.Frag} {x qual:Str} {st:Stmt} {f:Addr} {fd:FuncData} {n0 n1 n2 n3 n4 n5 n6:Str} (F:Fun K x qual st f fd) (h:∀ (kV doc pm:Value) (an:Option Addr) (cdv ct u0 u1 u2 u3 u4 u5 u6:Value),bindArgs (PySem.W.fnOf x qual (defArgs st) (defBody st) (defScope st) .none kV doc pm an cdv ct) ⟨[u0,u1,u2,u3,u4,u5,u6],[]⟩=pure (([n0,n1,n2,n3,n4,n5,n6]:List Str).zip [u0,u1,u2,u3,u4,u5,u6])):Binds K fd [n0,n1,n2,n3,n4,n5,n6] [] :=
  F.binds (ps:=[n0,n1,n2,n3,n4,n5,n6]) fun kV doc pm an cdv ct us hl=>match us,hl with | [u0,u1,u2,u3,u4,u5,u6],_=>h kV doc pm an cdv ct u0 u1 u2 u3 u4 u5 u6
theorem all_mk {l:PySem.W.OpenLaw} {w:World} {K:PySem.W.Frag} {h:Heap} {mg:Str→Option Value} {fa f0 f1 f2 f3 f4 f5 f6 f7 f8 f9 f10 f11 f12 f13 f14 f15 f16 f17 f18 f19 f20 f21 f22 f23 f24 f25 f26 f27 f28 f29 f30 f31 f32 f33 f34 f35 f36 f37 f38 f39 f40 f41 f42 f43 f44 f45 pT0 cT0 pT1 cT1:Addr} (X:K.In h) (G:h.Ns mainGlobals mg) (hfa:mg "law"=some (.ref fa))
    {od0 an0 od1 an1 od2 an2 od3 an3 od4 an4 od5 an5 od6 an6 od7 an7 od8 an8 od9 an9 od10 an10 od11 an11 od12 an12 od13 an13 od14 an14 od15 an15 od16 an16 od17 an17 od18 an18 od19 an19 od20 an20 od21 an21 od22 an22 od23 an23 od24 an24 od25 an25 od26 an26 od27 an27 od28 an28 od29 an29 od30 an30 od31 an31 od32 an32 od33 an33 od34 an34 od35 an35 od36 an36 od37 an37 od38 an38 od39 an39 od40 an40 od41 an41 od42 an42 od43 an43 od44 an44 od45 an45:Option Addr} {sl0 sl1 sl2 sl3 sl4 sl5 sl6 sl7 sl8 sl9 sl10 sl11 sl12 sl13 sl14 sl15 sl16 sl17 sl18 sl19 sl20 sl21 sl22 sl23 sl24 sl25 sl26 sl27 sl28 sl29 sl30 sl31 sl32 sl33 sl34 sl35 sl36 sl37 sl38 sl39 sl40 sl41 sl42 sl43 sl44 sl45:Array (Option Value)} {oc0 kV0 dc0 pm0 cd0 ct0 oc1 kV1 dc1 pm1 ct1 oc2 kV2 dc2 pm2 cd2 ct2 oc3 kV3 dc3 pm3 cd3 ct3 oc4 kV4 dc4 pm4 cd4 ct4 oc5 kV5 dc5 pm5 cd5 ct5 oc6 kV6 dc6 pm6 cd6 ct6 oc7 kV7 dc7 pm7 cd7 ct7 oc8 kV8 dc8 pm8 cd8 ct8 oc9 kV9 dc9 pm9 cd9 ct9 oc10 kV10 dc10 pm10 cd10 ct10 oc11 kV11 dc11 pm11 ct11 oc12 kV12 dc12 pm12 cd12 ct12 oc13 kV13 dc13 pm13 cd13 ct13 oc14 kV14 dc14 pm14 cd14 ct14 oc15 kV15 dc15 pm15 cd15 ct15 oc16 kV16 dc16 pm16 cd16 ct16 oc17 kV17 dc17 pm17 cd17 ct17 oc18 kV18 dc18 pm18 cd18 ct18 oc19 kV19 dc19 pm19 cd19 ct19 oc20 kV20 dc20 pm20 cd20 ct20 oc21 kV21 dc21 pm21 cd21 ct21 oc22 kV22 dc22 pm22 cd22 ct22 oc23 kV23 dc23 pm23 cd23 ct23 oc24 kV24 dc24 pm24 cd24 ct24 oc25 kV25 dc25 pm25 cd25 ct25 oc26 kV26 dc26 pm26 cd26 ct26 oc27 kV27 dc27 pm27 cd27 ct27 oc28 kV28 dc28 pm28 cd28 ct28 oc29 kV29 dc29 pm29 cd29 ct29 oc30 kV30 dc30 pm30 cd30 ct30 oc31 kV31 dc31 pm31 cd31 ct31 oc32 kV32 dc32 pm32 cd32 ct32 oc33 kV33 dc33 pm33 cd33 ct33 oc34 kV34 dc34 pm34 cd34 ct34 oc35 kV35 dc35 pm35 cd35 ct35 oc36 kV36 dc36 pm36 cd36 ct36 oc37 kV37 dc37 pm37 cd37 ct37 oc38 kV38 dc38 pm38 cd38 ct38 oc39 kV39 dc39 pm39 cd39 ct39 oc40 kV40 dc40 pm40 cd40 ct40 oc41 kV41 dc41 pm41 cd41 ct41 oc42 kV42 dc42 pm42 cd42 ct42 oc43 kV43 dc43 pm43 cd43 ct43 oc44 kV44 dc44 pm44 cd44 ct44 oc45 kV45 dc45 pm45 cd45 ct45:Value} {t0 t1:Tok}
    (a0:PySem.W.nsIn K mainGlobals "way_of"=some (some (.ref f0))) (l0:K.lookup f0=some ⟨oc0,od0,.func (PySem.W.fnOf "way_of" "way_of" (defArgs s_way_of) (defBody s_way_of) (defScope s_way_of) .none kV0 dc0 pm0 an0 cd0 ct0),sl0⟩) (c0:PySem.W.codeIn K cd0 "way_of"=true) (k0:PySem.W.keepIn K (.ref f0)=true)
    (a1:PySem.W.nsIn K mainGlobals "tops_first"=some (some (.ref f1))) (l1:K.lookup f1=some ⟨oc1,od1,.func (PySem.W.fnOf "tops_first" "tops_first" (defArgs s_tops_first) (defBody s_tops_first) (defScope s_tops_first) .none kV1 dc1 pm1 an1 (.ref cT1) ct1),sl1⟩) (c1:PySem.W.codeIn K (.ref cT1) "tops_first"=true) (k1:PySem.W.keepIn K (.ref f1)=true)
    (a2:PySem.W.nsIn K mainGlobals "mouths_of"=some (some (.ref f2))) (l2:K.lookup f2=some ⟨oc2,od2,.func (PySem.W.fnOf "mouths_of" "mouths_of" (defArgs s_mouths_of) (defBody s_mouths_of) (defScope s_mouths_of) .none kV2 dc2 pm2 an2 cd2 ct2),sl2⟩) (c2:PySem.W.codeIn K cd2 "mouths_of"=true) (k2:PySem.W.keepIn K (.ref f2)=true)
    (a3:PySem.W.nsIn K mainGlobals "stretch_of"=some (some (.ref f3))) (l3:K.lookup f3=some ⟨oc3,od3,.func (PySem.W.fnOf "stretch_of" "stretch_of" (defArgs s_stretch_of) (defBody s_stretch_of) (defScope s_stretch_of) .none kV3 dc3 pm3 an3 cd3 ct3),sl3⟩) (c3:PySem.W.codeIn K cd3 "stretch_of"=true) (k3:PySem.W.keepIn K (.ref f3)=true)
    (a4:PySem.W.nsIn K mainGlobals "natural_of"=some (some (.ref f4))) (l4:K.lookup f4=some ⟨oc4,od4,.func (PySem.W.fnOf "natural_of" "natural_of" (defArgs s_natural_of) (defBody s_natural_of) (defScope s_natural_of) .none kV4 dc4 pm4 an4 cd4 ct4),sl4⟩) (c4:PySem.W.codeIn K cd4 "natural_of"=true) (k4:PySem.W.keepIn K (.ref f4)=true)
    (a5:PySem.W.nsIn K mainGlobals "flows_of"=some (some (.ref f5))) (l5:K.lookup f5=some ⟨oc5,od5,.func (PySem.W.fnOf "flows_of" "flows_of" (defArgs s_flows_of) (defBody s_flows_of) (defScope s_flows_of) .none kV5 dc5 pm5 an5 cd5 ct5),sl5⟩) (c5:PySem.W.codeIn K cd5 "flows_of"=true) (k5:PySem.W.keepIn K (.ref f5)=true)
    (a6:PySem.W.nsIn K mainGlobals "reaches_of"=some (some (.ref f6))) (l6:K.lookup f6=some ⟨oc6,od6,.func (PySem.W.fnOf "reaches_of" "reaches_of" (defArgs s_reaches_of) (defBody s_reaches_of) (defScope s_reaches_of) .none kV6 dc6 pm6 an6 cd6 ct6),sl6⟩) (c6:PySem.W.codeIn K cd6 "reaches_of"=true) (k6:PySem.W.keepIn K (.ref f6)=true)
    (a7:PySem.W.nsIn K mainGlobals "day_filed"=some (some (.ref f7))) (l7:K.lookup f7=some ⟨oc7,od7,.func (PySem.W.fnOf "day_filed" "day_filed" (defArgs s_day_filed) (defBody s_day_filed) (defScope s_day_filed) .none kV7 dc7 pm7 an7 cd7 ct7),sl7⟩) (c7:PySem.W.codeIn K cd7 "day_filed"=true) (k7:PySem.W.keepIn K (.ref f7)=true)
    (a8:PySem.W.nsIn K mainGlobals "start_of"=some (some (.ref f8))) (l8:K.lookup f8=some ⟨oc8,od8,.func (PySem.W.fnOf "start_of" "start_of" (defArgs s_start_of) (defBody s_start_of) (defScope s_start_of) .none kV8 dc8 pm8 an8 cd8 ct8),sl8⟩) (c8:PySem.W.codeIn K cd8 "start_of"=true) (k8:PySem.W.keepIn K (.ref f8)=true)
    (a9:PySem.W.nsIn K mainGlobals "gives_back"=some (some (.ref f9))) (l9:K.lookup f9=some ⟨oc9,od9,.func (PySem.W.fnOf "gives_back" "gives_back" (defArgs s_gives_back) (defBody s_gives_back) (defScope s_gives_back) .none kV9 dc9 pm9 an9 cd9 ct9),sl9⟩) (c9:PySem.W.codeIn K cd9 "gives_back"=true) (k9:PySem.W.keepIn K (.ref f9)=true)
    (a10:PySem.W.nsIn K mainGlobals "most_of"=some (some (.ref f10))) (l10:K.lookup f10=some ⟨oc10,od10,.func (PySem.W.fnOf "most_of" "most_of" (defArgs s_most_of) (defBody s_most_of) (defScope s_most_of) .none kV10 dc10 pm10 an10 cd10 ct10),sl10⟩) (c10:PySem.W.codeIn K cd10 "most_of"=true) (k10:PySem.W.keepIn K (.ref f10)=true)
    (a11:PySem.W.nsIn K mainGlobals "ranked"=some (some (.ref f11))) (l11:K.lookup f11=some ⟨oc11,od11,.func (PySem.W.fnOf "ranked" "ranked" (defArgs s_ranked) (defBody s_ranked) (defScope s_ranked) .none kV11 dc11 pm11 an11 (.ref cT0) ct11),sl11⟩) (c11:PySem.W.codeIn K (.ref cT0) "ranked"=true) (k11:PySem.W.keepIn K (.ref f11)=true)
    (a12:PySem.W.nsIn K mainGlobals "groups_of"=some (some (.ref f12))) (l12:K.lookup f12=some ⟨oc12,od12,.func (PySem.W.fnOf "groups_of" "groups_of" (defArgs s_groups_of) (defBody s_groups_of) (defScope s_groups_of) .none kV12 dc12 pm12 an12 cd12 ct12),sl12⟩) (c12:PySem.W.codeIn K cd12 "groups_of"=true) (k12:PySem.W.keepIn K (.ref f12)=true)
    (a13:PySem.W.nsIn K mainGlobals "wants_of"=some (some (.ref f13))) (l13:K.lookup f13=some ⟨oc13,od13,.func (PySem.W.fnOf "wants_of" "wants_of" (defArgs s_wants_of) (defBody s_wants_of) (defScope s_wants_of) .none kV13 dc13 pm13 an13 cd13 ct13),sl13⟩) (c13:PySem.W.codeIn K cd13 "wants_of"=true) (k13:PySem.W.keepIn K (.ref f13)=true)
    (a14:PySem.W.nsIn K mainGlobals "count_ways"=some (some (.ref f14))) (l14:K.lookup f14=some ⟨oc14,od14,.func (PySem.W.fnOf "count_ways" "count_ways" (defArgs s_count_ways) (defBody s_count_ways) (defScope s_count_ways) .none kV14 dc14 pm14 an14 cd14 ct14),sl14⟩) (c14:PySem.W.codeIn K cd14 "count_ways"=true) (k14:PySem.W.keepIn K (.ref f14)=true)
    (a15:PySem.W.nsIn K mainGlobals "whole_turns"=some (some (.ref f15))) (l15:K.lookup f15=some ⟨oc15,od15,.func (PySem.W.fnOf "whole_turns" "whole_turns" (defArgs s_whole_turns) (defBody s_whole_turns) (defScope s_whole_turns) .none kV15 dc15 pm15 an15 cd15 ct15),sl15⟩) (c15:PySem.W.codeIn K cd15 "whole_turns"=true) (k15:PySem.W.keepIn K (.ref f15)=true)
    (a16:PySem.W.nsIn K mainGlobals "draw"=some (some (.ref f16))) (l16:K.lookup f16=some ⟨oc16,od16,.func (PySem.W.fnOf "draw" "draw" (defArgs s_draw) (defBody s_draw) (defScope s_draw) .none kV16 dc16 pm16 an16 cd16 ct16),sl16⟩) (c16:PySem.W.codeIn K cd16 "draw"=true) (k16:PySem.W.keepIn K (.ref f16)=true)
    (a17:PySem.W.nsIn K mainGlobals "take_whole_turns"=some (some (.ref f17))) (l17:K.lookup f17=some ⟨oc17,od17,.func (PySem.W.fnOf "take_whole_turns" "take_whole_turns" (defArgs s_take_whole_turns) (defBody s_take_whole_turns) (defScope s_take_whole_turns) .none kV17 dc17 pm17 an17 cd17 ct17),sl17⟩) (c17:PySem.W.codeIn K cd17 "take_whole_turns"=true) (k17:PySem.W.keepIn K (.ref f17)=true)
    (a18:PySem.W.nsIn K mainGlobals "take_one_turn"=some (some (.ref f18))) (l18:K.lookup f18=some ⟨oc18,od18,.func (PySem.W.fnOf "take_one_turn" "take_one_turn" (defArgs s_take_one_turn) (defBody s_take_one_turn) (defScope s_take_one_turn) .none kV18 dc18 pm18 an18 cd18 ct18),sl18⟩) (c18:PySem.W.codeIn K cd18 "take_one_turn"=true) (k18:PySem.W.keepIn K (.ref f18)=true)
    (a19:PySem.W.nsIn K mainGlobals "deal_turns"=some (some (.ref f19))) (l19:K.lookup f19=some ⟨oc19,od19,.func (PySem.W.fnOf "deal_turns" "deal_turns" (defArgs s_deal_turns) (defBody s_deal_turns) (defScope s_deal_turns) .none kV19 dc19 pm19 an19 cd19 ct19),sl19⟩) (c19:PySem.W.codeIn K cd19 "deal_turns"=true) (k19:PySem.W.keepIn K (.ref f19)=true)
    (a20:PySem.W.nsIn K mainGlobals "deal"=some (some (.ref f20))) (l20:K.lookup f20=some ⟨oc20,od20,.func (PySem.W.fnOf "deal" "deal" (defArgs s_deal) (defBody s_deal) (defScope s_deal) .none kV20 dc20 pm20 an20 cd20 ct20),sl20⟩) (c20:PySem.W.codeIn K cd20 "deal"=true) (k20:PySem.W.keepIn K (.ref f20)=true)
    (a21:PySem.W.nsIn K mainGlobals "pond_start"=some (some (.ref f21))) (l21:K.lookup f21=some ⟨oc21,od21,.func (PySem.W.fnOf "pond_start" "pond_start" (defArgs s_pond_start) (defBody s_pond_start) (defScope s_pond_start) .none kV21 dc21 pm21 an21 cd21 ct21),sl21⟩) (c21:PySem.W.codeIn K cd21 "pond_start"=true) (k21:PySem.W.keepIn K (.ref f21)=true)
    (a22:PySem.W.nsIn K mainGlobals "look_at_let"=some (some (.ref f22))) (l22:K.lookup f22=some ⟨oc22,od22,.func (PySem.W.fnOf "look_at_let" "look_at_let" (defArgs s_look_at_let) (defBody s_look_at_let) (defScope s_look_at_let) .none kV22 dc22 pm22 an22 cd22 ct22),sl22⟩) (c22:PySem.W.codeIn K cd22 "look_at_let"=true) (k22:PySem.W.keepIn K (.ref f22)=true)
    (a23:PySem.W.nsIn K mainGlobals "let_out"=some (some (.ref f23))) (l23:K.lookup f23=some ⟨oc23,od23,.func (PySem.W.fnOf "let_out" "let_out" (defArgs s_let_out) (defBody s_let_out) (defScope s_let_out) .none kV23 dc23 pm23 an23 cd23 ct23),sl23⟩) (c23:PySem.W.codeIn K cd23 "let_out"=true) (k23:PySem.W.keepIn K (.ref f23)=true)
    (a24:PySem.W.nsIn K mainGlobals "pond_calls"=some (some (.ref f24))) (l24:K.lookup f24=some ⟨oc24,od24,.func (PySem.W.fnOf "pond_calls" "pond_calls" (defArgs s_pond_calls) (defBody s_pond_calls) (defScope s_pond_calls) .none kV24 dc24 pm24 an24 cd24 ct24),sl24⟩) (c24:PySem.W.codeIn K cd24 "pond_calls"=true) (k24:PySem.W.keepIn K (.ref f24)=true)
    (a25:PySem.W.nsIn K mainGlobals "evening"=some (some (.ref f25))) (l25:K.lookup f25=some ⟨oc25,od25,.func (PySem.W.fnOf "evening" "evening" (defArgs s_evening) (defBody s_evening) (defScope s_evening) .none kV25 dc25 pm25 an25 cd25 ct25),sl25⟩) (c25:PySem.W.codeIn K cd25 "evening"=true) (k25:PySem.W.keepIn K (.ref f25)=true)
    (a26:PySem.W.nsIn K mainGlobals "morning_of"=some (some (.ref f26))) (l26:K.lookup f26=some ⟨oc26,od26,.func (PySem.W.fnOf "morning_of" "morning_of" (defArgs s_morning_of) (defBody s_morning_of) (defScope s_morning_of) .none kV26 dc26 pm26 an26 cd26 ct26),sl26⟩) (c26:PySem.W.codeIn K cd26 "morning_of"=true) (k26:PySem.W.keepIn K (.ref f26)=true)
    (a27:PySem.W.nsIn K mainGlobals "moves_of"=some (some (.ref f27))) (l27:K.lookup f27=some ⟨oc27,od27,.func (PySem.W.fnOf "moves_of" "moves_of" (defArgs s_moves_of) (defBody s_moves_of) (defScope s_moves_of) .none kV27 dc27 pm27 an27 cd27 ct27),sl27⟩) (c27:PySem.W.codeIn K cd27 "moves_of"=true) (k27:PySem.W.keepIn K (.ref f27)=true)
    (a28:PySem.W.nsIn K mainGlobals "used_of"=some (some (.ref f28))) (l28:K.lookup f28=some ⟨oc28,od28,.func (PySem.W.fnOf "used_of" "used_of" (defArgs s_used_of) (defBody s_used_of) (defScope s_used_of) .none kV28 dc28 pm28 an28 cd28 ct28),sl28⟩) (c28:PySem.W.codeIn K cd28 "used_of"=true) (k28:PySem.W.keepIn K (.ref f28)=true)
    (a29:PySem.W.nsIn K mainGlobals "day_of"=some (some (.ref f29))) (l29:K.lookup f29=some ⟨oc29,od29,.func (PySem.W.fnOf "day_of" "day_of" (defArgs s_day_of) (defBody s_day_of) (defScope s_day_of) .none kV29 dc29 pm29 an29 cd29 ct29),sl29⟩) (c29:PySem.W.codeIn K cd29 "day_of"=true) (k29:PySem.W.keepIn K (.ref f29)=true)
    (a30:PySem.W.nsIn K mainGlobals "_law_nth"=some (some (.ref f30))) (l30:K.lookup f30=some ⟨oc30,od30,.func (PySem.W.fnOf "_law_nth" "_law_nth" (defArgs s__law_nth) (defBody s__law_nth) (defScope s__law_nth) .none kV30 dc30 pm30 an30 cd30 ct30),sl30⟩) (c30:PySem.W.codeIn K cd30 "_law_nth"=true) (k30:PySem.W.keepIn K (.ref f30)=true)
    (a31:PySem.W.nsIn K mainGlobals "_law_draws"=some (some (.ref f31))) (l31:K.lookup f31=some ⟨oc31,od31,.func (PySem.W.fnOf "_law_draws" "_law_draws" (defArgs s__law_draws) (defBody s__law_draws) (defScope s__law_draws) .none kV31 dc31 pm31 an31 cd31 ct31),sl31⟩) (c31:PySem.W.codeIn K cd31 "_law_draws"=true) (k31:PySem.W.keepIn K (.ref f31)=true)
    (a32:PySem.W.nsIn K mainGlobals "_law_river"=some (some (.ref f32))) (l32:K.lookup f32=some ⟨oc32,od32,.func (PySem.W.fnOf "_law_river" "_law_river" (defArgs s__law_river) (defBody s__law_river) (defScope s__law_river) .none kV32 dc32 pm32 an32 cd32 ct32),sl32⟩) (c32:PySem.W.codeIn K cd32 "_law_river"=true) (k32:PySem.W.keepIn K (.ref f32)=true)
    (a33:PySem.W.nsIn K mainGlobals "_law_way"=some (some (.ref f33))) (l33:K.lookup f33=some ⟨oc33,od33,.func (PySem.W.fnOf "_law_way" "_law_way" (defArgs s__law_way) (defBody s__law_way) (defScope s__law_way) .none kV33 dc33 pm33 an33 cd33 ct33),sl33⟩) (c33:PySem.W.codeIn K cd33 "_law_way"=true) (k33:PySem.W.keepIn K (.ref f33)=true)
    (a34:PySem.W.nsIn K mainGlobals "_law_amount"=some (some (.ref f34))) (l34:K.lookup f34=some ⟨oc34,od34,.func (PySem.W.fnOf "_law_amount" "_law_amount" (defArgs s__law_amount) (defBody s__law_amount) (defScope s__law_amount) .none kV34 dc34 pm34 an34 cd34 ct34),sl34⟩) (c34:PySem.W.codeIn K cd34 "_law_amount"=true) (k34:PySem.W.keepIn K (.ref f34)=true)
    (a35:PySem.W.nsIn K mainGlobals "_law_some"=some (some (.ref f35))) (l35:K.lookup f35=some ⟨oc35,od35,.func (PySem.W.fnOf "_law_some" "_law_some" (defArgs s__law_some) (defBody s__law_some) (defScope s__law_some) .none kV35 dc35 pm35 an35 cd35 ct35),sl35⟩) (c35:PySem.W.codeIn K cd35 "_law_some"=true) (k35:PySem.W.keepIn K (.ref f35)=true)
    (a36:PySem.W.nsIn K mainGlobals "_law_line"=some (some (.ref f36))) (l36:K.lookup f36=some ⟨oc36,od36,.func (PySem.W.fnOf "_law_line" "_law_line" (defArgs s__law_line) (defBody s__law_line) (defScope s__law_line) .none kV36 dc36 pm36 an36 cd36 ct36),sl36⟩) (c36:PySem.W.codeIn K cd36 "_law_line"=true) (k36:PySem.W.keepIn K (.ref f36)=true)
    (a37:PySem.W.nsIn K mainGlobals "_law_call"=some (some (.ref f37))) (l37:K.lookup f37=some ⟨oc37,od37,.func (PySem.W.fnOf "_law_call" "_law_call" (defArgs s__law_call) (defBody s__law_call) (defScope s__law_call) .none kV37 dc37 pm37 an37 cd37 ct37),sl37⟩) (c37:PySem.W.codeIn K cd37 "_law_call"=true) (k37:PySem.W.keepIn K (.ref f37)=true)
    (a38:PySem.W.nsIn K mainGlobals "_law_roll"=some (some (.ref f38))) (l38:K.lookup f38=some ⟨oc38,od38,.func (PySem.W.fnOf "_law_roll" "_law_roll" (defArgs s__law_roll) (defBody s__law_roll) (defScope s__law_roll) .none kV38 dc38 pm38 an38 cd38 ct38),sl38⟩) (c38:PySem.W.codeIn K cd38 "_law_roll"=true) (k38:PySem.W.keepIn K (.ref f38)=true)
    (a39:PySem.W.nsIn K mainGlobals "_law_put_in"=some (some (.ref f39))) (l39:K.lookup f39=some ⟨oc39,od39,.func (PySem.W.fnOf "_law_put_in" "_law_put_in" (defArgs s__law_put_in) (defBody s__law_put_in) (defScope s__law_put_in) .none kV39 dc39 pm39 an39 cd39 ct39),sl39⟩) (c39:PySem.W.codeIn K cd39 "_law_put_in"=true) (k39:PySem.W.keepIn K (.ref f39)=true)
    (a40:PySem.W.nsIn K mainGlobals "_law_ponds"=some (some (.ref f40))) (l40:K.lookup f40=some ⟨oc40,od40,.func (PySem.W.fnOf "_law_ponds" "_law_ponds" (defArgs s__law_ponds) (defBody s__law_ponds) (defScope s__law_ponds) .none kV40 dc40 pm40 an40 cd40 ct40),sl40⟩) (c40:PySem.W.codeIn K cd40 "_law_ponds"=true) (k40:PySem.W.keepIn K (.ref f40)=true)
    (a41:PySem.W.nsIn K mainGlobals "_law_lets"=some (some (.ref f41))) (l41:K.lookup f41=some ⟨oc41,od41,.func (PySem.W.fnOf "_law_lets" "_law_lets" (defArgs s__law_lets) (defBody s__law_lets) (defScope s__law_lets) .none kV41 dc41 pm41 an41 cd41 ct41),sl41⟩) (c41:PySem.W.codeIn K cd41 "_law_lets"=true) (k41:PySem.W.keepIn K (.ref f41)=true)
    (a42:PySem.W.nsIn K mainGlobals "_law_numbers"=some (some (.ref f42))) (l42:K.lookup f42=some ⟨oc42,od42,.func (PySem.W.fnOf "_law_numbers" "_law_numbers" (defArgs s__law_numbers) (defBody s__law_numbers) (defScope s__law_numbers) .none kV42 dc42 pm42 an42 cd42 ct42),sl42⟩) (c42:PySem.W.codeIn K cd42 "_law_numbers"=true) (k42:PySem.W.keepIn K (.ref f42)=true)
    (a43:PySem.W.nsIn K mainGlobals "_law_kept"=some (some (.ref f43))) (l43:K.lookup f43=some ⟨oc43,od43,.func (PySem.W.fnOf "_law_kept" "_law_kept" (defArgs s__law_kept) (defBody s__law_kept) (defScope s__law_kept) .none kV43 dc43 pm43 an43 cd43 ct43),sl43⟩) (c43:PySem.W.codeIn K cd43 "_law_kept"=true) (k43:PySem.W.keepIn K (.ref f43)=true)
    (a44:PySem.W.nsIn K mainGlobals "_law_kinds"=some (some (.ref f44))) (l44:K.lookup f44=some ⟨oc44,od44,.func (PySem.W.fnOf "_law_kinds" "_law_kinds" (defArgs s__law_kinds) (defBody s__law_kinds) (defScope s__law_kinds) .none kV44 dc44 pm44 an44 cd44 ct44),sl44⟩) (c44:PySem.W.codeIn K cd44 "_law_kinds"=true) (k44:PySem.W.keepIn K (.ref f44)=true)
    (a45:PySem.W.nsIn K mainGlobals "law"=some (some (.ref f45))) (l45:K.lookup f45=some ⟨oc45,od45,.func (PySem.W.fnOf "law" "law" (defArgs s_law) (defBody s_law) (defScope s_law) .none kV45 dc45 pm45 an45 cd45 ct45),sl45⟩) (c45:PySem.W.codeIn K cd45 "law"=true) (k45:PySem.W.keepIn K (.ref f45)=true)
    (e0:PySem.W.nsIn K mainGlobals "MOUTH"=some (some (.int (-1) t0)))
    (e1:PySem.W.nsIn K mainGlobals "WHOLE"=some (some (.int (1000) t1)))
    (z_len:PySem.W.nsIn K mainGlobals "len"=some none)
    (z_range:PySem.W.nsIn K mainGlobals "range"=some none)
    (z_list:PySem.W.nsIn K mainGlobals "list"=some none)
    (z_isinstance:PySem.W.nsIn K mainGlobals "isinstance"=some none)
    (z_bool:PySem.W.nsIn K mainGlobals "bool"=some none)
    (z_int:PySem.W.nsIn K mainGlobals "int"=some none)
    (z_all:PySem.W.nsIn K mainGlobals "all"=some none)
    (z_min:PySem.W.nsIn K mainGlobals "min"=some none)
    (z_max:PySem.W.nsIn K mainGlobals "max"=some none)
    (z_sum:PySem.W.nsIn K mainGlobals "sum"=some none)
    (z_sorted:PySem.W.nsIn K mainGlobals "sorted"=some none)
    (z_zip:PySem.W.nsIn K mainGlobals "zip"=some none)
    (z_tuple:PySem.W.nsIn K mainGlobals "tuple"=some none)
    (z_str:PySem.W.nsIn K mainGlobals "str"=some none)
    (z_any:PySem.W.nsIn K mainGlobals "any"=some none)
    (z_enumerate:PySem.W.nsIn K mainGlobals "enumerate"=some none)
    (z_reversed:PySem.W.nsIn K mainGlobals "reversed"=some none)
    (z_abs:PySem.W.nsIn K mainGlobals "abs"=some none)
    (z_ValueError:PySem.W.nsIn K mainGlobals "ValueError"=some none)
    (y0:PySem.W.codeHdIn K cT0 pT0=true)
    (y1:PySem.W.codeHdIn K cT1 pT1=true)
    (dd0_1:pT0≠pT1)
    : ∃ fd:FuncData,(∀ (s:Shared) (v:Value),BindsTo s fd ⟨[v],[]⟩ [("script",v)])∧∀ base:Heap,K.In base→base.Ns mainGlobals mg→BM mg base→FnOk l.prog w K mg base CX0 9 fa fd ["script"] (sp_law K [(pT0,lam_ranked.1,lam_ranked.2),(pT1,lam_tops.1,lam_tops.2)]):=by
  have e:=hfa.symm.trans (PySem.W.mg_of X G a45)
  cases e
  have B:Blt mg:=⟨PySem.W.mg_none_of X G z_len,PySem.W.mg_none_of X G z_range,PySem.W.mg_none_of X G z_list,PySem.W.mg_none_of X G z_isinstance,PySem.W.mg_none_of X G z_bool,PySem.W.mg_none_of X G z_int,PySem.W.mg_none_of X G z_all,PySem.W.mg_none_of X G z_min,PySem.W.mg_none_of X G z_max,PySem.W.mg_none_of X G z_sum,PySem.W.mg_none_of X G z_sorted,PySem.W.mg_none_of X G z_zip,PySem.W.mg_none_of X G z_tuple,PySem.W.mg_none_of X G z_str,PySem.W.mg_none_of X G z_any,PySem.W.mg_none_of X G z_enumerate,PySem.W.mg_none_of X G z_reversed,PySem.W.mg_none_of X G z_abs,PySem.W.mg_none_of X G z_ValueError⟩
  have h_MOUTH:∃ t,mg "MOUTH"=some (.int (-1) t):=⟨_,PySem.W.mg_of X G e0⟩
  have h_WHOLE:∃ t,mg "WHOLE"=some (.int (1000) t):=⟨_,PySem.W.mg_of X G e1⟩
  have F0:=fun_mk (st:=s_way_of) l0 c0 k0
  have D_way_of:Df K mg "way_of" s_way_of ["below","reach"] _ _:=⟨F0,bindK2 F0 (fun _ _ _ _ _ _ _ _=>rfl),PySem.W.mg_of X G a0⟩
  have F1:=fun_mk (st:=s_tops_first) l1 c1 k1
  have D_tops_first:Df K mg "tops_first" s_tops_first ["below"] _ _:=⟨F1,bindK1 F1 (fun _ _ _ _ _ _ _=>rfl),PySem.W.mg_of X G a1⟩
  have F2:=fun_mk (st:=s_mouths_of) l2 c2 k2
  have D_mouths_of:Df K mg "mouths_of" s_mouths_of ["below"] _ _:=⟨F2,bindK1 F2 (fun _ _ _ _ _ _ _=>rfl),PySem.W.mg_of X G a2⟩
  have F3:=fun_mk (st:=s_stretch_of) l3 c3 k3
  have D_stretch_of:Df K mg "stretch_of" s_stretch_of ["below","start","stop"] _ _:=⟨F3,bindK3 F3 (fun _ _ _ _ _ _ _ _ _=>rfl),PySem.W.mg_of X G a3⟩
  have F4:=fun_mk (st:=s_natural_of) l4 c4 k4
  have D_natural_of:Df K mg "natural_of" s_natural_of ["below","springs"] _ _:=⟨F4,bindK2 F4 (fun _ _ _ _ _ _ _ _=>rfl),PySem.W.mg_of X G a4⟩
  have F5:=fun_mk (st:=s_flows_of) l5 c5 k5
  have D_flows_of:Df K mg "flows_of" s_flows_of ["below","springs","moves"] _ _:=⟨F5,bindK3 F5 (fun _ _ _ _ _ _ _ _ _=>rfl),PySem.W.mg_of X G a5⟩
  have F6:=fun_mk (st:=s_reaches_of) l6 c6 k6
  have D_reaches_of:Df K mg "reaches_of" s_reaches_of ["below","one"] _ _:=⟨F6,bindK2 F6 (fun _ _ _ _ _ _ _ _=>rfl),PySem.W.mg_of X G a6⟩
  have F7:=fun_mk (st:=s_day_filed) l7 c7 k7
  have D_day_filed:Df K mg "day_filed" s_day_filed ["one"] _ _:=⟨F7,bindK1 F7 (fun _ _ _ _ _ _ _=>rfl),PySem.W.mg_of X G a7⟩
  have F8:=fun_mk (st:=s_start_of) l8 c8 k8
  have D_start_of:Df K mg "start_of" s_start_of ["one"] _ _:=⟨F8,bindK1 F8 (fun _ _ _ _ _ _ _=>rfl),PySem.W.mg_of X G a8⟩
  have F9:=fun_mk (st:=s_gives_back) l9 c9 k9
  have D_gives_back:Df K mg "gives_back" s_gives_back ["one"] _ _:=⟨F9,bindK1 F9 (fun _ _ _ _ _ _ _=>rfl),PySem.W.mg_of X G a9⟩
  have F10:=fun_mk (st:=s_most_of) l10 c10 k10
  have D_most_of:Df K mg "most_of" s_most_of ["one"] _ _:=⟨F10,bindK1 F10 (fun _ _ _ _ _ _ _=>rfl),PySem.W.mg_of X G a10⟩
  have F11:=fun_mk (st:=s_ranked) l11 c11 k11
  have D_ranked:Df K mg "ranked" s_ranked ["roll"] _ _:=⟨F11,bindK1 F11 (fun _ _ _ _ _ _ _=>rfl),PySem.W.mg_of X G a11⟩
  have F12:=fun_mk (st:=s_groups_of) l12 c12 k12
  have D_groups_of:Df K mg "groups_of" s_groups_of ["roll"] _ _:=⟨F12,bindK1 F12 (fun _ _ _ _ _ _ _=>rfl),PySem.W.mg_of X G a12⟩
  have F13:=fun_mk (st:=s_wants_of) l13 c13 k13
  have D_wants_of:Df K mg "wants_of" s_wants_of ["roll","calls"] _ _:=⟨F13,bindK2 F13 (fun _ _ _ _ _ _ _ _=>rfl),PySem.W.mg_of X G a13⟩
  have F14:=fun_mk (st:=s_count_ways) l14 c14 k14
  have D_count_ways:Df K mg "count_ways" s_count_ways ["free","ways"] _ _:=⟨F14,bindK2 F14 (fun _ _ _ _ _ _ _ _=>rfl),PySem.W.mg_of X G a14⟩
  have F15:=fun_mk (st:=s_whole_turns) l15 c15 k15
  have D_whole_turns:Df K mg "whole_turns" s_whole_turns ["free","ways","rests"] _ _:=⟨F15,bindK3 F15 (fun _ _ _ _ _ _ _ _ _=>rfl),PySem.W.mg_of X G a15⟩
  have F16:=fun_mk (st:=s_draw) l16 c16 k16
  have D_draw:Df K mg "draw" s_draw ["left","way","drops"] _ _:=⟨F16,bindK3 F16 (fun _ _ _ _ _ _ _ _ _=>rfl),PySem.W.mg_of X G a16⟩
  have F17:=fun_mk (st:=s_take_whole_turns) l17 c17 k17
  have D_take_whole_turns:Df K mg "take_whole_turns" s_take_whole_turns ["left","ways","rests","takes","going"] _ _:=⟨F17,bindK5 F17 (fun _ _ _ _ _ _ _ _ _ _ _=>rfl),PySem.W.mg_of X G a17⟩
  have F18:=fun_mk (st:=s_take_one_turn) l18 c18 k18
  have D_take_one_turn:Df K mg "take_one_turn" s_take_one_turn ["left","ways","rests","takes","going"] _ _:=⟨F18,bindK5 F18 (fun _ _ _ _ _ _ _ _ _ _ _=>rfl),PySem.W.mg_of X G a18⟩
  have F19:=fun_mk (st:=s_deal_turns) l19 c19 k19
  have D_deal_turns:Df K mg "deal_turns" s_deal_turns ["free","ways","rests"] _ _:=⟨F19,bindK3 F19 (fun _ _ _ _ _ _ _ _ _=>rfl),PySem.W.mg_of X G a19⟩
  have F20:=fun_mk (st:=s_deal) l20 c20 k20
  have D_deal:Df K mg "deal" s_deal ["below","springs","roll","calls"] _ _:=⟨F20,bindK4 F20 (fun _ _ _ _ _ _ _ _ _ _=>rfl),PySem.W.mg_of X G a20⟩
  have F21:=fun_mk (st:=s_pond_start) l21 c21 k21
  have D_pond_start:Df K mg "pond_start" s_pond_start ["roll","pond"] _ _:=⟨F21,bindK2 F21 (fun _ _ _ _ _ _ _ _=>rfl),PySem.W.mg_of X G a21⟩
  have F22:=fun_mk (st:=s_look_at_let) l22 c22 k22
  have D_look_at_let:Df K mg "look_at_let" s_look_at_let ["below","roll","ponds","kept","let"] _ _:=⟨F22,bindK5 F22 (fun _ _ _ _ _ _ _ _ _ _ _=>rfl),PySem.W.mg_of X G a22⟩
  have F23:=fun_mk (st:=s_let_out) l23 c23 k23
  have D_let_out:Df K mg "let_out" s_let_out ["below","roll","ponds","kept","lets"] _ _:=⟨F23,bindK5 F23 (fun _ _ _ _ _ _ _ _ _ _ _=>rfl),PySem.W.mg_of X G a23⟩
  have F24:=fun_mk (st:=s_pond_calls) l24 c24 k24
  have D_pond_calls:Df K mg "pond_calls" s_pond_calls ["roll","ponds","kept","calls"] _ _:=⟨F24,bindK4 F24 (fun _ _ _ _ _ _ _ _ _ _=>rfl),PySem.W.mg_of X G a24⟩
  have F25:=fun_mk (st:=s_evening) l25 c25 k25
  have D_evening:Df K mg "evening" s_evening ["ponds","kept","takes"] _ _:=⟨F25,bindK3 F25 (fun _ _ _ _ _ _ _ _ _=>rfl),PySem.W.mg_of X G a25⟩
  have F26:=fun_mk (st:=s_morning_of) l26 c26 k26
  have D_morning_of:Df K mg "morning_of" s_morning_of ["below","roll","ponds","kept","calls","lets"] _ _:=⟨F26,bindK6 F26 (fun _ _ _ _ _ _ _ _ _ _ _ _=>rfl),PySem.W.mg_of X G a26⟩
  have F27:=fun_mk (st:=s_moves_of) l27 c27 k27
  have D_moves_of:Df K mg "moves_of" s_moves_of ["roll","ponds","takes","lets"] _ _:=⟨F27,bindK4 F27 (fun _ _ _ _ _ _ _ _ _ _=>rfl),PySem.W.mg_of X G a27⟩
  have F28:=fun_mk (st:=s_used_of) l28 c28 k28
  have D_used_of:Df K mg "used_of" s_used_of ["roll","ponds","takes","lets"] _ _:=⟨F28,bindK4 F28 (fun _ _ _ _ _ _ _ _ _ _=>rfl),PySem.W.mg_of X G a28⟩
  have F29:=fun_mk (st:=s_day_of) l29 c29 k29
  have D_day_of:Df K mg "day_of" s_day_of ["below","springs","roll","ponds","kept","calls","lets"] _ _:=⟨F29,bindK7 F29 (fun _ _ _ _ _ _ _ _ _ _ _ _ _=>rfl),PySem.W.mg_of X G a29⟩
  have F30:=fun_mk (st:=s__law_nth) l30 c30 k30
  have D__law_nth:Df K mg "_law_nth" s__law_nth ["script","k"] _ _:=⟨F30,bindK2 F30 (fun _ _ _ _ _ _ _ _=>rfl),PySem.W.mg_of X G a30⟩
  have F31:=fun_mk (st:=s__law_draws) l31 c31 k31
  have D__law_draws:Df K mg "_law_draws" s__law_draws ["cell","many"] _ _:=⟨F31,bindK2 F31 (fun _ _ _ _ _ _ _ _=>rfl),PySem.W.mg_of X G a31⟩
  have F32:=fun_mk (st:=s__law_river) l32 c32 k32
  have D__law_river:Df K mg "_law_river" s__law_river ["cell"] _ _:=⟨F32,bindK1 F32 (fun _ _ _ _ _ _ _=>rfl),PySem.W.mg_of X G a32⟩
  have F33:=fun_mk (st:=s__law_way) l33 c33 k33
  have D__law_way:Df K mg "_law_way" s__law_way ["below","start"] _ _:=⟨F33,bindK2 F33 (fun _ _ _ _ _ _ _ _=>rfl),PySem.W.mg_of X G a33⟩
  have F34:=fun_mk (st:=s__law_amount) l34 c34 k34
  have D__law_amount:Df K mg "_law_amount" s__law_amount ["number","kind"] _ _:=⟨F34,bindK2 F34 (fun _ _ _ _ _ _ _ _=>rfl),PySem.W.mg_of X G a34⟩
  have F35:=fun_mk (st:=s__law_some) l35 c35 k35
  have D__law_some:Df K mg "_law_some" s__law_some ["number","most"] _ _:=⟨F35,bindK2 F35 (fun _ _ _ _ _ _ _ _=>rfl),PySem.W.mg_of X G a35⟩
  have F36:=fun_mk (st:=s__law_line) l36 c36 k36
  have D__law_line:Df K mg "_law_line" s__law_line ["xs","below","kind","far"] _ _:=⟨F36,bindK4 F36 (fun _ _ _ _ _ _ _ _ _ _=>rfl),PySem.W.mg_of X G a36⟩
  have F37:=fun_mk (st:=s__law_call) l37 c37 k37
  have D__law_call:Df K mg "_law_call" s__law_call ["number","most"] _ _:=⟨F37,bindK2 F37 (fun _ _ _ _ _ _ _ _=>rfl),PySem.W.mg_of X G a37⟩
  have F38:=fun_mk (st:=s__law_roll) l38 c38 k38
  have D__law_roll:Df K mg "_law_roll" s__law_roll ["cell","cells","below","kind"] _ _:=⟨F38,bindK4 F38 (fun _ _ _ _ _ _ _ _ _ _=>rfl),PySem.W.mg_of X G a38⟩
  have F39:=fun_mk (st:=s__law_put_in) l39 c39 k39
  have D__law_put_in:Df K mg "_law_put_in" s__law_put_in ["cells","springs","calls","roll","kind"] _ _:=⟨F39,bindK5 F39 (fun _ _ _ _ _ _ _ _ _ _ _=>rfl),PySem.W.mg_of X G a39⟩
  have F40:=fun_mk (st:=s__law_ponds) l40 c40 k40
  have D__law_ponds:Df K mg "_law_ponds" s__law_ponds ["xs","roll","kind"] _ _:=⟨F40,bindK3 F40 (fun _ _ _ _ _ _ _ _ _=>rfl),PySem.W.mg_of X G a40⟩
  have F41:=fun_mk (st:=s__law_lets) l41 c41 k41
  have D__law_lets:Df K mg "_law_lets" s__law_lets ["cells","below","roll","ponds","left"] _ _:=⟨F41,bindK5 F41 (fun _ _ _ _ _ _ _ _ _ _ _=>rfl),PySem.W.mg_of X G a41⟩
  have F42:=fun_mk (st:=s__law_numbers) l42 c42 k42
  have D__law_numbers:Df K mg "_law_numbers" s__law_numbers ["found","many"] _ _:=⟨F42,bindK2 F42 (fun _ _ _ _ _ _ _ _=>rfl),PySem.W.mg_of X G a42⟩
  have F43:=fun_mk (st:=s__law_kept) l43 c43 k43
  have D__law_kept:Df K mg "_law_kept" s__law_kept ["told","ponds","left","takes"] _ _:=⟨F43,bindK4 F43 (fun _ _ _ _ _ _ _ _ _ _=>rfl),PySem.W.mg_of X G a43⟩
  have F44:=fun_mk (st:=s__law_kinds) l44 c44 k44
  have D__law_kinds:Df K mg "_law_kinds" s__law_kinds ["told","below","roll","ponds"] _ _:=⟨F44,bindK4 F44 (fun _ _ _ _ _ _ _ _ _ _=>rfl),PySem.W.mg_of X G a44⟩
  have F45:=fun_mk (st:=s_law) l45 c45 k45
  have D_law:Df K mg "law" s_law ["script"] _ _:=⟨F45,bindK1 F45 (fun _ _ _ _ _ _ _=>rfl),PySem.W.mg_of X G a45⟩
  refine ⟨PySem.W.fnOf "law" "law" (defArgs s_law) (defBody s_law) (defScope s_law) .none kV45 dc45 pm45 an45 cd45 ct45,fun s v=>.of_eq rfl,fun base _ _ hbm=>?_⟩
  have C:Mth mg:=⟨h_MOUTH⟩
  have nd:([(pT0,lam_ranked.1,lam_ranked.2),(pT1,lam_tops.1,lam_tops.2)].map (·.1)).Nodup:=by
    show ([pT0,pT1]:List Addr).Nodup
    simp [dd0_1]
  have hT:TT1 pT1 [(pT0,lam_ranked.1,lam_ranked.2),(pT1,lam_tops.1,lam_tops.2)]:=⟨List.mem_cons_of_mem _ List.mem_cons_self,nd⟩
  have hT2:TT2 pT0 [(pT0,lam_ranked.1,lam_ranked.2),(pT1,lam_tops.1,lam_tops.2)]:=⟨List.mem_cons_self,nd⟩
  clear nd
  generalize ([(pT0,lam_ranked.1,lam_ranked.2),(pT1,lam_tops.1,lam_tops.2)]:Tabs)=T at hT hT2 ⊢
  have g5:=ok_way (P:=l.prog) (w:=w) (base:=base) D_way_of C
  have g6:=ok_strch D_stretch_of C D_way_of g5
  have g7:=ok_reaches D_reaches_of D_stretch_of g6
  have g8:=ok_tops (T:=T) D_tops_first rfl y1 hT hbm B D_way_of g5
  have g9:=ok_nat D_natural_of B C D_tops_first g8
  have g10:=ok_most (P:=l.prog) (w:=w) (base:=base) D_most_of
  have g11:=ok_wants (T:=T) D_wants_of B D_most_of g10
  have g12:=ok_count (P:=l.prog) (w:=w) (base:=base) (T:=T) D_count_ways B
  have g13:=ok_wt D_whole_turns B D_count_ways g12
  have g14:=ok_draw (P:=l.prog) (w:=w) (base:=base) (T:=T) D_draw
  have g15:=ok_tw D_take_whole_turns B D_whole_turns g13 D_draw g14
  have g16:=ok_t1 D_take_one_turn B D_draw g14
  have g17:=ok_dt D_deal_turns B D_take_whole_turns g15 D_take_one_turn g16
  have g18:=ok_day (P:=l.prog) (w:=w) (base:=base) D_day_filed
  have g19:=ok_ranked (T:=T) D_ranked rfl y0 hT2 hbm B D_day_filed g18
  have g20:=ok_groups D_groups_of B D_day_filed g18 D_ranked g19
  have g21:=ok_deal D_deal B D_natural_of g9 D_wants_of g11 D_groups_of g20 D_reaches_of g7 D_deal_turns g17
  have h1:=ok_stof (P:=l.prog) (w:=w) (base:=base) D_start_of
  have h2:=ok_pst D_pond_start D_start_of h1
  have h3:=ok_lal (T:=T) D_look_at_let B C D_way_of g5 D_pond_start h2
  have h4:=ok_lo D_let_out B D_look_at_let h3
  have h5:=ok_pc (P:=l.prog) (w:=w) (base:=base) (T:=T) D_pond_calls B
  have h6:=ok_eve (P:=l.prog) (w:=w) (base:=base) (T:=T) D_evening B h_WHOLE
  have h7:=ok_mor D_morning_of B D_let_out h4 D_pond_calls h5
  have h8:=ok_mvs (T:=T) D_moves_of B D_pond_start h2
  have h9:=ok_gb (P:=l.prog) (w:=w) (base:=base) D_gives_back C
  have h10:=ok_used (T:=T) D_used_of B C D_gives_back h9
  have h11:=ok_flows D_flows_of D_natural_of g9 D_stretch_of g6
  have h12:=ok_mouths (P:=l.prog) (w:=w) (base:=base) (T:=T) D_mouths_of B C
  have h13:=ok_dayof D_day_of B D_morning_of h7 D_deal g21 D_evening h6 D_flows_of h11 D_moves_of h8 D_mouths_of h12 D_used_of h10
  have k1:=ok_nth (P:=l.prog) (w:=w) (base:=base) (T:=T) D__law_nth
  have k2:=ok_dws (P:=l.prog) (w:=w) (K:=K) (base:=base) (T:=T) D__law_draws B
  have k3:=ok_som (P:=l.prog) (w:=w) (base:=base) D__law_some B
  have k4:=ok_river D__law_river B D__law_draws k2
  have k5:=ok_lway (P:=l.prog) (w:=w) (base:=base) (T:=T) D__law_way
  have k6:=ok_amt (P:=l.prog) (w:=w) (base:=base) D__law_amount
  have k7:=ok_lin D__law_line B D__law_way k5 D__law_amount k6
  have k8:=ok_cal (T:=T) D__law_call B D__law_some k3
  have k9:=ok_rol D__law_roll B D__law_draws k2 D__law_line k7
  have k10:=ok_put D__law_put_in B D__law_draws k2 D__law_amount k6 D__law_call k8
  have k11:=ok_pon (T:=T) D__law_ponds B D__law_amount k6
  have k12:=ok_lts D__law_lets B D__law_draws k2 D__law_way k5 D__law_some k3
  have k13:=ok_num (P:=l.prog) (w:=w) (K:=K) (base:=base) (T:=T) D__law_numbers B
  have k14:=ok_kep (P:=l.prog) (w:=w) (base:=base) (T:=T) D__law_kept B
  have k15:=ok_knd D__law_kinds B D__law_numbers k13
  exact ok_law D_law B D__law_nth k1 D__law_river k4 D__law_roll k9 D__law_draws k2 D__law_ponds k11 D__law_amount k6 D__law_call k8 D__law_put_in k10 D__law_some k3 D__law_lets k12 D_day_of h13 D__law_kinds k15 D__law_kept k14 D_deal g21
def codeOf (K:PySem.W.Frag) (x:Str):Addr:=match PySem.W.nsIn K mainGlobals x with
  | some (some (.ref f))=>match K.lookup f with
    | some ⟨_,_,.func fd,_⟩=>match fd.code with
      | .ref c=>c
      | _=>0
    | _=>0
  | _=>0
theorem code_ex {K:PySem.W.Frag} {P:Addr} (x:Str) (h:PySem.W.codeHdIn K (codeOf K x) P=true):∃ c,PySem.W.codeHdIn K c P=true:=⟨_,h⟩
theorem walk {l:PySem.W.OpenLaw} {q:Program} {loose:List Str} {XP:(Str→Option Value)→Heap→Prop} {YP:World→Heap→Prop} {d:DefRec} {K:Params→PySem.W.Frag} {P0 P1:Addr} (hn:l.most=some 63) (hdf:d.params.defaults=[])
    (hY:∀ (w:World) (h:Heap),YP w h→(K w.params).In h) (hYt:∀ (w:World) (h:Heap),YP w h→∀ P∈([P0,P1]:List Addr),h.get? P=some (PySem.W.tabObj #[])) (hts:∀ (w:World),∀ P∈([P0,P1]:List Addr),(K w.params).lookup P=none∧∃ c,PySem.W.codeHdIn (K w.params) c P=true)
    (F:∀ (w:World) (mg:Str→Option Value) (fa:Addr) (h:Heap),(K w.params).In h→h.Ns mainGlobals mg→mg d.name=some (.ref fa) →
      ∃ fd:FuncData,(∀ (s:Shared) (u:Value),BindsTo s fd ⟨[u],[]⟩ [("script",u)])∧∀ base:Heap,(K w.params).In base→base.Ns mainGlobals mg→BM mg base→FnOk l.prog w (K w.params) mg base CX0 9 fa fd ["script"] (sp_law (K w.params) [(P0,lam_ranked.1,lam_ranked.2),(P1,lam_tops.1,lam_tops.2)])) :
    PySem.W.WalkO q loose XP YP l.row.toRowW d [] (fun f vs=>PySem.call f vs) :=
  L2.walk_ofT (n:=63) (k:=9) (x:="script") (CX:=fun _=>CX0) (sp:=fun w=>sp_law (K w.params) [(P0,lam_ranked.1,lam_ranked.2),(P1,lam_tops.1,lam_tops.2)]) (ts:=([P0,P1]:List Addr)) hn (by decide) hdf ⟨rfl,by decide,by decide⟩ hY hYt hts F (fun _ H a ns hl _ hT hS=>⟨a,ns,rfl,hS,hl,fun t ht=>.inl (hT t.1 (by simp only [List.mem_cons,List.not_mem_nil,or_false] at ht ⊢;(try rcases ht with rfl | ht) <;> (try subst ht) <;> simp)),fun _=>rfl⟩) fun _ _ _ _ _ z=>z
end My
open PySem PySem.W PyProof.Rows
set_option maxRecDepth 100000 in
set_option maxHeartbeats 0 in
theorem PySem.Challenge.cw_sluice_k45_day_takes_and_kept_holds : PySem.Challenge.rw_sluice_k45_day_takes_and_kept.Holds := by
  w_on;o_law
  refine PySem.W.holds_open (q:=My.qv) (loose:=My.looseK) (Xt:=(fun s=>PySem.W.xlAt My.qv [] s && PySem.W.recOk (PySem.W.RowW.records PySem.Challenge.rw_sluice_k45_day_takes_and_kept.row.toRowW) s)) (XP:=PySem.W.XL My.qv []) (Yf:=PySem.W.Hook.obs (PySem.W.kmHook My.Kf My.asK My.hkE My.tsK)) (Ya:=PySem.W.Hook.val (PySem.W.kmHook My.Kf My.asK My.hkE My.tsK)) (YP:=PySem.W.Hook.says (PySem.W.kmHook My.Kf My.asK My.hkE My.tsK)) (N:=4872) My.hlE (PySem.W.Hook.of (PySem.W.kmHook My.Kf My.asK My.hkE My.tsK)) (PySem.W.Hook.keeps (PySem.W.kmHook My.Kf My.asK My.hkE My.tsK)) (fun s e=>PySem.W.xl_of s (Bool.and_eq_true_iff.mp e).1) PySem.W.XL.keeps (by rfl) (by rfl) (by rfl) (fun s e=>PySem.W.recFacts_of (Bool.and_eq_true_iff.mp e).2) (by rfl) (by first | assumption | decide +kernel) (by decide +kernel) ⟨rfl,rfl,rfl,rfl,rfl,by decide +kernel⟩ ?hw ?hc
  case hw=>w_witness2
  k_fill
  refine' My.walk (l:=PySem.Challenge.rw_sluice_k45_day_takes_and_kept) rfl rfl (fun w h Y=>PySem.W.km_in_of Y) (fun w h Y=>PySem.W.km_tabs_of Y) ?hts ?F
  case F =>
    intro w mg fa h KX G hmg
    refine' My.all_mk KX G hmg ?a0 ?l0 ?c0 ?k0 ?a1 ?l1 ?c1 ?k1 ?a2 ?l2 ?c2 ?k2 ?a3 ?l3 ?c3 ?k3 ?a4 ?l4 ?c4 ?k4 ?a5 ?l5 ?c5 ?k5 ?a6 ?l6 ?c6 ?k6 ?a7 ?l7 ?c7 ?k7 ?a8 ?l8 ?c8 ?k8 ?a9 ?l9 ?c9 ?k9 ?a10 ?l10 ?c10 ?k10 ?a11 ?l11 ?c11 ?k11 ?a12 ?l12 ?c12 ?k12 ?a13 ?l13 ?c13 ?k13 ?a14 ?l14 ?c14 ?k14 ?a15 ?l15 ?c15 ?k15 ?a16 ?l16 ?c16 ?k16 ?a17 ?l17 ?c17 ?k17 ?a18 ?l18 ?c18 ?k18 ?a19 ?l19 ?c19 ?k19 ?a20 ?l20 ?c20 ?k20 ?a21 ?l21 ?c21 ?k21 ?a22 ?l22 ?c22 ?k22 ?a23 ?l23 ?c23 ?k23 ?a24 ?l24 ?c24 ?k24 ?a25 ?l25 ?c25 ?k25 ?a26 ?l26 ?c26 ?k26 ?a27 ?l27 ?c27 ?k27 ?a28 ?l28 ?c28 ?k28 ?a29 ?l29 ?c29 ?k29 ?a30 ?l30 ?c30 ?k30 ?a31 ?l31 ?c31 ?k31 ?a32 ?l32 ?c32 ?k32 ?a33 ?l33 ?c33 ?k33 ?a34 ?l34 ?c34 ?k34 ?a35 ?l35 ?c35 ?k35 ?a36 ?l36 ?c36 ?k36 ?a37 ?l37 ?c37 ?k37 ?a38 ?l38 ?c38 ?k38 ?a39 ?l39 ?c39 ?k39 ?a40 ?l40 ?c40 ?k40 ?a41 ?l41 ?c41 ?k41 ?a42 ?l42 ?c42 ?k42 ?a43 ?l43 ?c43 ?k43 ?a44 ?l44 ?c44 ?k44 ?a45 ?l45 ?c45 ?k45 ?e0 ?e1 ?z_len ?z_range ?z_list ?z_isinstance ?z_bool ?z_int ?z_all ?z_min ?z_max ?z_sum ?z_sorted ?z_zip ?z_tuple ?z_str ?z_any ?z_enumerate ?z_reversed ?z_abs ?z_ValueError ?y0 ?y1 ?dd0_1
    (case a0=>k_is)
    (case l0=>k_is)
    (case c0=>k_is)
    (case k0=>k_is)
    (case a1=>k_is)
    (case l1=>k_is)
    (case c1=>k_is)
    (case k1=>k_is)
    (case a2=>k_is)
    (case l2=>k_is)
    (case c2=>k_is)
    (case k2=>k_is)
    (case a3=>k_is)
    (case l3=>k_is)
    (case c3=>k_is)
    (case k3=>k_is)
    (case a4=>k_is)
    (case l4=>k_is)
    (case c4=>k_is)
    (case k4=>k_is)
    (case a5=>k_is)
    (case l5=>k_is)
    (case c5=>k_is)
    (case k5=>k_is)
    (case a6=>k_is)
    (case l6=>k_is)
    (case c6=>k_is)
    (case k6=>k_is)
    (case a7=>k_is)
    (case l7=>k_is)
    (case c7=>k_is)
    (case k7=>k_is)
    (case a8=>k_is)
    (case l8=>k_is)
    (case c8=>k_is)
    (case k8=>k_is)
    (case a9=>k_is)
    (case l9=>k_is)
    (case c9=>k_is)
    (case k9=>k_is)
    (case a10=>k_is)
    (case l10=>k_is)
    (case c10=>k_is)
    (case k10=>k_is)
    (case a11=>k_is)
    (case l11=>k_is)
    (case c11=>k_is)
    (case k11=>k_is)
    (case a12=>k_is)
    (case l12=>k_is)
    (case c12=>k_is)
    (case k12=>k_is)
    (case a13=>k_is)
    (case l13=>k_is)
    (case c13=>k_is)
    (case k13=>k_is)
    (case a14=>k_is)
    (case l14=>k_is)
    (case c14=>k_is)
    (case k14=>k_is)
    (case a15=>k_is)
    (case l15=>k_is)
    (case c15=>k_is)
    (case k15=>k_is)
    (case a16=>k_is)
    (case l16=>k_is)
    (case c16=>k_is)
    (case k16=>k_is)
    (case a17=>k_is)
    (case l17=>k_is)
    (case c17=>k_is)
    (case k17=>k_is)
    (case a18=>k_is)
    (case l18=>k_is)
    (case c18=>k_is)
    (case k18=>k_is)
    (case a19=>k_is)
    (case l19=>k_is)
    (case c19=>k_is)
    (case k19=>k_is)
    (case a20=>k_is)
    (case l20=>k_is)
    (case c20=>k_is)
    (case k20=>k_is)
    (case a21=>k_is)
    (case l21=>k_is)
    (case c21=>k_is)
    (case k21=>k_is)
    (case a22=>k_is)
    (case l22=>k_is)
    (case c22=>k_is)
    (case k22=>k_is)
    (case a23=>k_is)
    (case l23=>k_is)
    (case c23=>k_is)
    (case k23=>k_is)
    (case a24=>k_is)
    (case l24=>k_is)
    (case c24=>k_is)
    (case k24=>k_is)
    (case a25=>k_is)
    (case l25=>k_is)
    (case c25=>k_is)
    (case k25=>k_is)
    (case a26=>k_is)
    (case l26=>k_is)
    (case c26=>k_is)
    (case k26=>k_is)
    (case a27=>k_is)
    (case l27=>k_is)
    (case c27=>k_is)
    (case k27=>k_is)
    (case a28=>k_is)
    (case l28=>k_is)
    (case c28=>k_is)
    (case k28=>k_is)
    (case a29=>k_is)
    (case l29=>k_is)
    (case c29=>k_is)
    (case k29=>k_is)
    (case a30=>k_is)
    (case l30=>k_is)
    (case c30=>k_is)
    (case k30=>k_is)
    (case a31=>k_is)
    (case l31=>k_is)
    (case c31=>k_is)
    (case k31=>k_is)
    (case a32=>k_is)
    (case l32=>k_is)
    (case c32=>k_is)
    (case k32=>k_is)
    (case a33=>k_is)
    (case l33=>k_is)
    (case c33=>k_is)
    (case k33=>k_is)
    (case a34=>k_is)
    (case l34=>k_is)
    (case c34=>k_is)
    (case k34=>k_is)
    (case a35=>k_is)
    (case l35=>k_is)
    (case c35=>k_is)
    (case k35=>k_is)
    (case a36=>k_is)
    (case l36=>k_is)
    (case c36=>k_is)
    (case k36=>k_is)
    (case a37=>k_is)
    (case l37=>k_is)
    (case c37=>k_is)
    (case k37=>k_is)
    (case a38=>k_is)
    (case l38=>k_is)
    (case c38=>k_is)
    (case k38=>k_is)
    (case a39=>k_is)
    (case l39=>k_is)
    (case c39=>k_is)
    (case k39=>k_is)
    (case a40=>k_is)
    (case l40=>k_is)
    (case c40=>k_is)
    (case k40=>k_is)
    (case a41=>k_is)
    (case l41=>k_is)
    (case c41=>k_is)
    (case k41=>k_is)
    (case a42=>k_is)
    (case l42=>k_is)
    (case c42=>k_is)
    (case k42=>k_is)
    (case a43=>k_is)
    (case l43=>k_is)
    (case c43=>k_is)
    (case k43=>k_is)
    (case a44=>k_is)
    (case l44=>k_is)
    (case c44=>k_is)
    (case k44=>k_is)
    (case a45=>k_is)
    (case l45=>k_is)
    (case c45=>k_is)
    (case k45=>k_is)
    (case e0=>k_is)
    (case e1=>k_is)
    (case z_len=>k_is)
    (case z_range=>k_is)
    (case z_list=>k_is)
    (case z_isinstance=>k_is)
    (case z_bool=>k_is)
    (case z_int=>k_is)
    (case z_all=>k_is)
    (case z_min=>k_is)
    (case z_max=>k_is)
    (case z_sum=>k_is)
    (case z_sorted=>k_is)
    (case z_zip=>k_is)
    (case z_tuple=>k_is)
    (case z_str=>k_is)
    (case z_any=>k_is)
    (case z_enumerate=>k_is)
    (case z_reversed=>k_is)
    (case z_abs=>k_is)
    (case z_ValueError=>k_is)
    (case y0=>kernel_rfl)
    (case y1=>kernel_rfl)
    (case dd0_1=>(first | decide | (intro h;cases h) | (intro h;simp at h)))
  case hts =>
    intro w P hP
    simp only [List.mem_cons,List.not_mem_nil,or_false] at hP
    rcases hP with rfl | rfl
    · exact ⟨by kernel_rfl,My.code_ex "ranked" (by kernel_rfl)⟩
    · exact ⟨by kernel_rfl,My.code_ex "tops_first" (by kernel_rfl)⟩
