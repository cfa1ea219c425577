import PyProof.Rows.All
import Wide.All
import OpenK.AllK
import Wide.FinOn
import Lean
import PyProof.EqAt
import PyProof.EqKinds
import PyProof.TupleCall
import KE.KSortTup
import PySem.Challenge.RW_sluice_k66_whole_closing_keeps_days
set_option Elab.async false
set_option linter.all false
set_option maxRecDepth 100000
set_option maxHeartbeats 4000000
local macro_rules | `(tactic| omega) => `(tactic| first | lia | omega (splitDisjunctions := true))
local macro_rules | `(tactic| walk_at "sc") => `(tactic| exact ⟨rfl,rfl,rfl,by decide +kernel,rfl,by decide +kernel,by decide +kernel⟩)
abbrev TX:=@List.length_map
abbrev acp:=@List.getElem?_eq_some_iff
abbrev adW:=@List.getElem?_eq_getElem
abbrev ad0:=@List.getD_eq_getElem?_getD
abbrev ad1:=@List.mem_of_getElem?
abbrev ad2:=@Nat.le_refl
abbrev ad3:=@List.map_append
abbrev ad4:=@List.mem_append_right
abbrev ad5:=@List.getElem?_map
abbrev ad6:=@PySem.Heap.get?_push_of_some
abbrev ad7:=@List.length_append
abbrev ad8:=@List.take_of_length_le
abbrev ad9:=@PySem.boot_len
abbrev aea:=@PySem.F.plainAttrs_list
abbrev aeb:=@Int.toNat_natCast
abbrev aec:=@Bool.false_ne_true
abbrev aed:=@List.length_take
abbrev aee:=@List.size_toArray
abbrev aef:=@PySem.F.slot_list_append
abbrev aeg:=@PySem.F.type_list_append
abbrev aeh:=@PySem.PassesOwn.never
abbrev aei:=@PySem.Heap.lt_size
abbrev aej:=@List.mem_cons_of_mem
abbrev aek:=@Option.some.inj
abbrev ael:=@List.length_cons
abbrev aem:=@List.mem_append
abbrev aen:=@List.mem_cons
abbrev aeo:=@Int.eq_ofNat_of_zero_le
abbrev aep:=@List.mem_map
abbrev aer:=@PySem.Heap.get?_push_size
abbrev aes:=@PyProof.Rows.boot_list
abbrev aeu:=@List.mem_cons_self
abbrev aev:=@Bool.and_eq_true
abbrev aew:=@List.getElem_of_mem
abbrev aex:=@List.getElem?_eq_none
abbrev aey:=@List.map_cons
abbrev aez:=@Nat.zero_le
abbrev aeA:=@List.take_add_one
abbrev aeB:=@List.mem_range
abbrev aeC:=@Nat.lt_of_lt_of_le
abbrev aeD:=@List.mem_singleton
abbrev aeE:=@List.Sublist.append_left
abbrev aeF:=@PySem.mem_of_lookup
abbrev aeG:=@List.getElem?_append_left
abbrev aeH:=@List.length_replicate
abbrev aeI:=@Array.length_toList
abbrev aeJ:=@PySem.Heap.get?_update_other
abbrev aeK:=@Int.le_refl
abbrev aeL:=@List.mem_append_left
abbrev aeM:=@List.getElem?_append_right
abbrev aeN:=@Nat.ne_of_lt
abbrev aeO:=@PyProof.Rows.callWith_type1
abbrev aeP:=@Nat.le_trans
abbrev aeQ:=@List.getElem_mem
abbrev aeR:=@List.length_nil
abbrev aeS:=@List.length_drop
abbrev aeT:=@List.all_eq_true
abbrev aeU:=@List.length_range
abbrev aeV:=@List.length_set
abbrev aeW:=@List.map_set
abbrev aeX:=@Classical.byContradiction
abbrev aeY:=@Int.emod_lt_of_pos
abbrev aeZ:=@Bool.eq_iff_iff
abbrev ae0:=@List.sublist_cons_self
abbrev ae1:=@List.take_length
abbrev ae2:=@List.replicate_succ
abbrev ae3:=@Nat.lt_irrefl
abbrev ae4:=@PySem.W.kia_one
abbrev ae5:=@List.nodup_cons
abbrev ae6:=@Int.emod_nonneg
abbrev ae7:=@List.pairwise_iff_getElem
abbrev ae8:=@List.getElem?_zipWith
abbrev ae9:=@PyProof.Rows.boot_sum
abbrev afa:=@List.Perm.append_left
abbrev afb:=@List.getElem_inj
abbrev afc:=@Nat.succ_le_succ
abbrev afd:=@List.getElem?_replicate
abbrev afe:=@List.getElem?_range
abbrev afg:=@List.mem_map_of_mem
abbrev afh:=@PySem.Calls.spliced_cons
abbrev afi:=@Bool.false_eq_true
abbrev afj:=@PyProof.Rows.boot_all
abbrev afk:=@PyProof.Rows.boot_min
abbrev afl:=@List.getElem?_zip_eq_some
abbrev afm:=@List.getElem?_set_ne
abbrev afn:=@Option.isSome_iff_exists
abbrev afo:=@List.flatten_cons
abbrev afp:=@List.length_zipWith
abbrev afq:=@Nat.lt_succ_self
abbrev afr:=@List.getElem?_set_self
abbrev afs:=@List.set_cons_succ
abbrev aft:=@List.map_map
abbrev afu:=@List.getElem?_concat_length
abbrev afv:=@List.take_append_drop
abbrev afw:=@List.append_nil
abbrev afx:=@PySem.W.mg_of
abbrev afy:=@PySem.Calls.spliced_nil
abbrev afz:=@List.ext_getElem?
abbrev afA:=@List.mem_or_eq_of_mem_set
abbrev afB:=@List.getElem?_of_mem
abbrev afC:=@Nat.sub_self
abbrev afD:=@PySem.F.plain_min_loop
abbrev afE:=@List.toList_toArray
abbrev afF:=@List.getElem?_drop
abbrev afG:=@List.range_succ
abbrev afH:=@Nat.not_lt_zero
abbrev afI:=@PySem.Calls.callWith_builtin
abbrev afJ:=@List.nodup_append
abbrev afK:=@List.Sublist.refl
abbrev afL:=@List.getElem_take
abbrev afM:=@List.length_singleton
abbrev afN:=@PyProof.Rows.boot_isinstance
abbrev afO:=@List.perm_append_comm_assoc
abbrev afP:=@PySem.Around.under_plainId
abbrev afQ:=@List.perm_middle
abbrev afR:=@List.not_mem_nil
abbrev afS:=@List.mem_of_mem_drop
abbrev afT:=@List.filterMap_cons
abbrev afU:=@PySem.W.KasT.kasWp_bind
abbrev afV:=@List.sublist_append_right
abbrev afW:=@PySem.W.callWith_K
abbrev afX:=@List.sublist_append_left
abbrev afY:=@List.append_assoc
abbrev afZ:=@Int.min_def
abbrev af0:=@List.any_cons
open PySem.W (fnOf topStub topFrame segRun piecesOf topRun restOf piece_app xlAt recOk kmHook instObj methodObj lookIn plainGet hasDictIn handedIn plainGet_of isFn plainOver takerIn makesIn emptyDict keepIn kitOne kitx_list kitx_dict methodCall_KW codeIn readsIn findCls nsIn XL)
namespace L2
open PySem
def inClass (s:Stmt)(j:Nat):Stmt:=match s with
 | .ClassDef _ _ _ body _ _ _ _ _ _ _=>body.getD j (.Pass ⟨0,0,0,0⟩)
 | _=>.Pass ⟨0,0,0,0⟩
def iG (s:Stmt):Arguments:=match s with
 | .FunctionDef _ a _ _ _ _ _ _ _ _=>a
 | _=>{ posonlyargs:=[],args:=[],vararg:=none,kwonlyargs:=[],kw_defaults:=[],kwarg:=none,defaults:=[] }
def dM (s:Stmt):List Stmt:=match s with
 | .FunctionDef _ _ b _ _ _ _ _ _ _=>b
 | _=>[]
def ao (s:Stmt):Scope:=match s with
 | .FunctionDef _ _ _ _ _ _ sc _ _ _=>sc
 | _=>{ kind:=.function,names:=[],isGenerator:=false,isCoroutine:=false }
end L2
namespace My
open PySem L2
noncomputable section
noncomputable def top0 (i:Nat):Stmt:=PySem.Challenge.pw_sluice_k66_whole_closing_keeps_days.main.body.getD i (.Pass ⟨0,0,0,0⟩)
def inC (i j:Nat):Stmt:=inClass (top0 i) j
noncomputable def en (P:Params)(x:Str)(t:Tok)(v:Value):DictEntry:=⟨PyData.keyHash P x,.str x t,v⟩
noncomputable def er (P:Params)(x:Str)(t:Tok)(r:Nat):DictEntry:=en P x t (.ref r)
noncomputable def eb (P:Params):Nat->List (Str × String)->List DictEntry->List DictEntry
 | _,[],r=>r
 | n,x::l,r=>en P x.1 n (.builtin x.2)::eb P (n+1) l r
noncomputable def et (P:Params):Nat->List (Str × String)->List DictEntry->List DictEntry
 | _,[],r=>r
 | n,x::l,r=>en P x.1 n (.type x.2)::et P (n+1) l r
noncomputable def tq (a:Array Value):Obj:={ cls:=.type "tuple",data:=.seq a }
noncomputable def fc (a:Array Value):Obj:={ cls:=.type "code",data:=.fields a }
noncomputable def cp (n:Nat):Value:=.str "/claim/cut.py" n
noncomputable def ot:Obj:=tq #[]
noncomputable def oe:Obj:={ cls:=.none,data:=.fields #[] }
noncomputable def fl (l:List Value):Obj:={ cls:=.none,data:=.fields ⟨l⟩ }
noncomputable def dO (l:List DictEntry)(n:Nat):Obj:={ cls:=.type "dict",data:=.dict ⟨l⟩ n }
noncomputable def bm (x:String)(v:Value):Obj:={ cls:=.type "builtin_function_or_method",data:=.fields #[.builtin x,v] }
noncomputable def su (a:Nat):Obj:={ cls:=.type "super",data:=.fields #[.ref a,.ref a,.ref a] }
noncomputable def fr (a b:Nat)(v:Value):Obj:={ cls:=.type "frame",slots:=#[some (.ref a),some (.ref 3),some (.ref b),none,some v,none,some (.ref 0)] }
noncomputable def t3:List (Int × Nat)->List Value
 | []=>[]
 | (a,b)::l=>.int a 0:: .int 0 0:: .ref b::t3 l
noncomputable def tv:Nat->List Str->List Value
 | _,[]=>[]
 | n,x::l=>.str x n::tv (n+1) l
def tn (n:Nat)(l:List Str):Obj:=tq ⟨tv n l⟩
def ca (n q:Str)(a:Nat)(l c:Int)(r f:Nat):Obj:=fc #[.str n a,.str q (a+1),cp (a+2),.int l 0,.int c 0,.int 0 0,.int 0 0,.int 3 0,.ref r,.bool true,.int 181 0,.ref (r+1),.none,.ref (r+2),.ref (r+3),.ref (r+4),.int f 0,.int l 0,cp (f+1)]
def cb (n q:Str)(a:Nat)(l c:Int)(r f:Nat):Obj:=fc #[.str n a,.str q (a+1),cp (a+2),.int l 0,.int c 0,.int 0 0,.int 0 0,.int 3 0,.ref r,.bool true,.int 181 0,.ref (r+1),.none,.none,.none,.ref (r+2),.int f 0,.int l 0,cp (f+1)]
def cc (n q:Str)(a:Nat)(l:Int)(r f:Nat):Obj:=fc #[.str n a,.str q (a+1),cp (a+2),.int l 0,.int 0 0,.int 0 0,.int 0 0,.int 0 0,.ref r,.bool false,.int 181 0,.ref (r+1),.none,.none,.none,.none,.int f 0,.int l 0,cp (f+1)]
noncomputable def po (x q:Str)(s:Stmt):Obj:={ cls:=.none,data:=.func { name:=x,qualname:=q,params:=iG s,body:=.stmts (dM s),scope:=ao s,globals:=0,closure:=[],defaults:=.none,kwdefaults:=.none } }
noncomputable def fd (x q:Str)(s:Stmt)(m:Value)(c:Nat)(v:Value):Obj:=⟨.type "function",none,.func (fnOf x q (iG s) (dM s) (ao s) v .none .none m none (.ref c) .none),#[]⟩
def fo (x q:Str)(s:Stmt)(m:Value)(c:Nat):Obj:=fd x q s m c .none
noncomputable def mv0:Value:=.str "__main__" 164
noncomputable def mv1:Value:=.str "sluice.turns" 564
noncomputable def mv2:Value:=.str "sluice.rolls" 751
noncomputable def mv3:Value:=.str "sluice.books" 939
noncomputable def mv4:Value:=.str "law_sluice_k66_whole_closing_keeps_days" 1063
noncomputable def mv5:Value:=.str "sluice.bounds" 194
noncomputable def mv6:Value:=.str "sluice.errors" 215
noncomputable def mv7:Value:=.str "sluice.rivers" 395
noncomputable def mv8:Value:=.str "sluice.flows" 451
noncomputable def mv9:Value:=.str "sluice.licences" 477
noncomputable def mv10:Value:=.str "sluice.dealing" 617
noncomputable def abo:Value:=.str "sluice.ponds" 625
noncomputable def acn:Value:=.str "sluice.days" 704
def Sw (P:Params):List DictEntry:=[en P "__doc__" 166 .none,en P "__package__" 167 .none,en P "__loader__" 168 (.builtin "__main__.__loader__#opaque"),en P "__spec__" 169 .none,er P "__annotations__" 170 6,er P "__builtins__" 171 4,en P "__file__" 173 (.str "/claim/cut.py" 172),en P "__cached__" 174 .none]
def ab1 (P:Params):List DictEntry:=Sw P++[er P "_wall" 193 21,en P "MOST_WATER" 197 (.int 1000000000000 196),en P "LONGEST_NAME" 199 (.int 8 198),en P "LETTERS" 201 (.str "abcdefghijklmnopqrstuvwxyz" 200),er P "is_water" 208 28,er P "is_name" 214 33,er P "SluiceError" 234 43,er P "NoRiver" 250 56,er P "NoReach" 266 68,er P "NoLicence" 282 80,er P "NoNumber" 298 92,er P "NoHolder" 314 104,er P "NotYours" 330 116,er P "TooMuch" 346 128,er P "Full" 362 140,er P "NoPond" 378 152,er P "NoDay" 394 164,en P "MOST_REACHES" 398 (.int 40 397),en P "MOUTH" 401 (.int (-1) 400),er P "comes_to_mouth" 411 173,er P "is_river" 417 178,er P "way_of" 426 185,er P "tops_first" 434 192,er P "mouths_of" 440 197,er P "stretch_of" 450 204,er P "natural_of" 462 211,er P "flows_of" 476 218,en P "LAST_DAY" 480 (.int 1000000 479),er P "is_licence" 492 225,er P "reaches_of" 504 232,er P "day_filed" 511 239,er P "start_of" 518 246,er P "gives_back" 525 253,er P "most_of" 532 260,er P "with_most" 540 267,er P "ranked" 548 274,er P "groups_of" 557 281,er P "wants_of" 563 286,er P "count_ways" 576 293,er P "whole_turns" 582 298,er P "draw" 592 305,er P "take_whole_turns" 598 310,er P "take_one_turn" 604 315]
def ab0 (P:Params):List DictEntry:=ab1 P++[er P "deal_turns" 616 322,er P "deal" 624 327,en P "WHOLE" 628 (.int 1000 627),er P "pond_start" 639 334,er P "look_at_let" 653 341,er P "let_out" 669 348,er P "pond_calls" 685 355,er P "evening" 703 362,er P "morning_of" 718 369,er P "moves_of" 738 376,er P "used_of" 744 381,er P "day_of" 750 386,en P "MOST_LICENCES" 754 (.int 60 753),er P "look_at_name" 761 393,er P "Roll" 938 528]
def abZ (P:Params):List DictEntry:=ab0 P++[en P "MOST_PONDS" 942 (.int 10 941),er P "greatest_of" 948 537,er P "Book" 1062 618]
def adu (P:Params):List DictEntry:=abZ P++[er P "_law_cell_at" 1072 627,er P "_law_whole" 1079 634,er P "_law_pebble" 1088 641,er P "_law_pebbles" 1094 646,er P "_law_river" 1108 653,er P "_law_walk" 1119 660,er P "_law_amount" 1127 667,er P "_law_free" 1142 674,er P "_law_is_shown" 1159 681,er P "_law_dealt" 1173 688,er P "_law_filed" 1188 695,er P "_law_run" 1194 700,er P "_law_closed" 1213 707,er P "_law_deed" 1227 714,er P "law" 1241 721]
def YQ:List Value:=t3 []
def YM:List Value:=t3 [(1,20),(8,27),(10,32),(13,39),(15,52),(17,64),(19,76),(21,88),(23,100),(25,112),(27,124),(29,136),(31,148),(33,160),(38,172),(45,177),(51,184),(56,191),(58,196),(60,203),(68,210),(74,217),(82,224),(87,231),(90,238),(92,245),(94,252),(96,259),(98,266),(100,273),(102,280),(107,285),(110,292),(116,297),(120,304),(123,309),(129,314)]
def YL:List Value:=YM++t3 [(137,321),(146,326),(158,333),(161,340),(169,347),(176,354),(182,361),(193,368),(196,375),(204,380),(208,385),(218,392),(221,399)]
def YK:List Value:=YL++t3 [(311,536),(314,543)]
def abY:List Value:=YK++t3 [(378,626),(382,633),(384,640),(387,645),(389,652),(408,659),(415,666),(419,673),(428,680),(440,687),(454,694),(465,699),(478,706),(497,713),(511,720)]
def adP:Obj:={ cls:=.none,data:=Data.dict #[] }
def Ve (P:Params):Obj:=dO (en P "__name__" 165 mv4::adu P) 85
def abV:Obj:=ca "_wall" "_wall" 187 1 1 15 191
def abU:Obj:=fo "_wall" "_wall" (top0 0) mv0 20
def abT:Obj:=ca "is_water" "is_water" 202 8 1 22 206
def abS:Obj:=fo "is_water" "is_water" (top0 5) mv5 27
def abR:Obj:=cb "is_name" "is_name" 209 10 1 29 212
def abQ:Obj:=fo "is_name" "is_name" (top0 6) mv5 32
def abP (P:Params):Obj:=dO [en P "__module__" 224 mv6,en P "__firstlineno__" 228 (.int 13 227),er P "__static_attributes__" 229 41,er P "__weakref__" 231 44,en P "__doc__" 232 .none] 3
def abO:Obj:={ cls:=.type "type",data:=Data.cls { name:="SluiceError",bases:=[.type "ValueError"],mro:=[.ref 43,.type "ValueError",.type "Exception",.type "BaseException",.type "object"],ns:=42,qualname:="SluiceError",subclasses:=[.ref 56,.ref 68,.ref 80,.ref 92,.ref 104,.ref 116,.ref 128,.ref 140,.ref 152,.ref 164] },slots:=#[some (.ref 34),none,some (.str "SluiceError" 217),some (.str "SluiceError" 225),some (.builtin "ValueError.__new__"),some (.bool true)] }
def abN:Obj:={ cls:=.type "getset_descriptor",data:=Data.fields #[.str "__weakref__" 230,.ref 43,.builtin "ExceptionGroup.__weakref__",.none] }
def abM (P:Params):Obj:=dO [en P "__module__" 242 mv6,en P "__firstlineno__" 246 (.int 15 245),er P "__static_attributes__" 247 54,en P "__doc__" 248 .none] 2
def abL:Obj:={ cls:=.type "type",data:=Data.cls { name:="NoRiver",bases:=[.ref 43],mro:=[.ref 56,.ref 43,.type "ValueError",.type "Exception",.type "BaseException",.type "object"],ns:=55,qualname:="NoRiver" },slots:=#[some (.ref 47),none,some (.str "NoRiver" 235),some (.str "NoRiver" 243),some (.builtin "ValueError.__new__"),some (.bool true)] }
def abK (P:Params):Obj:=dO [en P "__module__" 258 mv6,en P "__firstlineno__" 262 (.int 17 261),er P "__static_attributes__" 263 66,en P "__doc__" 264 .none] 2
def abJ:Obj:={ cls:=.type "type",data:=Data.cls { name:="NoReach",bases:=[.ref 43],mro:=[.ref 68,.ref 43,.type "ValueError",.type "Exception",.type "BaseException",.type "object"],ns:=67,qualname:="NoReach" },slots:=#[some (.ref 59),none,some (.str "NoReach" 251),some (.str "NoReach" 259),some (.builtin "ValueError.__new__"),some (.bool true)] }
def abI (P:Params):Obj:=dO [en P "__module__" 274 mv6,en P "__firstlineno__" 278 (.int 19 277),er P "__static_attributes__" 279 78,en P "__doc__" 280 .none] 2
def abH:Obj:={ cls:=.type "type",data:=Data.cls { name:="NoLicence",bases:=[.ref 43],mro:=[.ref 80,.ref 43,.type "ValueError",.type "Exception",.type "BaseException",.type "object"],ns:=79,qualname:="NoLicence" },slots:=#[some (.ref 71),none,some (.str "NoLicence" 267),some (.str "NoLicence" 275),some (.builtin "ValueError.__new__"),some (.bool true)] }
def abG (P:Params):Obj:=dO [en P "__module__" 290 mv6,en P "__firstlineno__" 294 (.int 21 293),er P "__static_attributes__" 295 90,en P "__doc__" 296 .none] 2
def abF:Obj:={ cls:=.type "type",data:=Data.cls { name:="NoNumber",bases:=[.ref 43],mro:=[.ref 92,.ref 43,.type "ValueError",.type "Exception",.type "BaseException",.type "object"],ns:=91,qualname:="NoNumber" },slots:=#[some (.ref 83),none,some (.str "NoNumber" 283),some (.str "NoNumber" 291),some (.builtin "ValueError.__new__"),some (.bool true)] }
def YH (P:Params):Obj:=dO [en P "__module__" 306 mv6,en P "__firstlineno__" 310 (.int 23 309),er P "__static_attributes__" 311 102,en P "__doc__" 312 .none] 2
def YG:Obj:={ cls:=.type "type",data:=Data.cls { name:="NoHolder",bases:=[.ref 43],mro:=[.ref 104,.ref 43,.type "ValueError",.type "Exception",.type "BaseException",.type "object"],ns:=103,qualname:="NoHolder" },slots:=#[some (.ref 95),none,some (.str "NoHolder" 299),some (.str "NoHolder" 307),some (.builtin "ValueError.__new__"),some (.bool true)] }
def YF (P:Params):Obj:=dO [en P "__module__" 322 mv6,en P "__firstlineno__" 326 (.int 25 325),er P "__static_attributes__" 327 114,en P "__doc__" 328 .none] 2
def YD:Obj:={ cls:=.type "type",data:=Data.cls { name:="NotYours",bases:=[.ref 43],mro:=[.ref 116,.ref 43,.type "ValueError",.type "Exception",.type "BaseException",.type "object"],ns:=115,qualname:="NotYours" },slots:=#[some (.ref 107),none,some (.str "NotYours" 315),some (.str "NotYours" 323),some (.builtin "ValueError.__new__"),some (.bool true)] }
def YC (P:Params):Obj:=dO [en P "__module__" 338 mv6,en P "__firstlineno__" 342 (.int 27 341),er P "__static_attributes__" 343 126,en P "__doc__" 344 .none] 2
def YB:Obj:={ cls:=.type "type",data:=Data.cls { name:="TooMuch",bases:=[.ref 43],mro:=[.ref 128,.ref 43,.type "ValueError",.type "Exception",.type "BaseException",.type "object"],ns:=127,qualname:="TooMuch" },slots:=#[some (.ref 119),none,some (.str "TooMuch" 331),some (.str "TooMuch" 339),some (.builtin "ValueError.__new__"),some (.bool true)] }
def Yz (P:Params):Obj:=dO [en P "__module__" 354 mv6,en P "__firstlineno__" 358 (.int 29 357),er P "__static_attributes__" 359 138,en P "__doc__" 360 .none] 2
def Yy:Obj:={ cls:=.type "type",data:=Data.cls { name:="Full",bases:=[.ref 43],mro:=[.ref 140,.ref 43,.type "ValueError",.type "Exception",.type "BaseException",.type "object"],ns:=139,qualname:="Full" },slots:=#[some (.ref 131),none,some (.str "Full" 347),some (.str "Full" 355),some (.builtin "ValueError.__new__"),some (.bool true)] }
def Yx (P:Params):Obj:=dO [en P "__module__" 370 mv6,en P "__firstlineno__" 374 (.int 31 373),er P "__static_attributes__" 375 150,en P "__doc__" 376 .none] 2
def Yw:Obj:={ cls:=.type "type",data:=Data.cls { name:="NoPond",bases:=[.ref 43],mro:=[.ref 152,.ref 43,.type "ValueError",.type "Exception",.type "BaseException",.type "object"],ns:=151,qualname:="NoPond" },slots:=#[some (.ref 143),none,some (.str "NoPond" 363),some (.str "NoPond" 371),some (.builtin "ValueError.__new__"),some (.bool true)] }
def Yv (P:Params):Obj:=dO [en P "__module__" 386 mv6,en P "__firstlineno__" 390 (.int 33 389),er P "__static_attributes__" 391 162,en P "__doc__" 392 .none] 2
def Yu:Obj:={ cls:=.type "type",data:=Data.cls { name:="NoDay",bases:=[.ref 43],mro:=[.ref 164,.ref 43,.type "ValueError",.type "Exception",.type "BaseException",.type "object"],ns:=163,qualname:="NoDay" },slots:=#[some (.ref 155),none,some (.str "NoDay" 379),some (.str "NoDay" 387),some (.builtin "ValueError.__new__"),some (.bool true)] }
def Yt:Obj:=ca "comes_to_mouth" "comes_to_mouth" 402 38 2 167 409
def Ys:Obj:=fo "comes_to_mouth" "comes_to_mouth" (top0 22) mv7 172
def Yr:Obj:=cb "is_river" "is_river" 412 45 1 174 415
def Yq:Obj:=fo "is_river" "is_river" (top0 23) mv7 177
def Yp:Obj:=ca "way_of" "way_of" 418 51 2 179 424
def Yo:Obj:=fo "way_of" "way_of" (top0 24) mv7 184
def Yn:Obj:=ca "tops_first" "tops_first" 427 56 1 186 432
def Ym:Obj:=fo "tops_first" "tops_first" (top0 25) mv7 191
def Yl:Obj:=cb "mouths_of" "mouths_of" 435 58 1 193 438
def Yk:Obj:=fo "mouths_of" "mouths_of" (top0 26) mv7 196
def Yj:Obj:=ca "stretch_of" "stretch_of" 441 60 3 198 448
def Yi:Obj:=fo "stretch_of" "stretch_of" (top0 27) mv7 203
def Yh:Obj:=ca "natural_of" "natural_of" 453 68 2 205 460
def Yg:Obj:=fo "natural_of" "natural_of" (top0 29) mv8 210
def Ye:Obj:=ca "flows_of" "flows_of" 463 74 3 212 474
def Yd:Obj:=fo "flows_of" "flows_of" (top0 30) mv8 217
def Yc:Obj:=ca "is_licence" "is_licence" 481 82 2 219 490
def Yb:Obj:=fo "is_licence" "is_licence" (top0 33) mv9 224
def X8:Obj:=ca "reaches_of" "reaches_of" 493 87 2 226 502
def X7:Obj:=fo "reaches_of" "reaches_of" (top0 34) mv9 231
def X6:Obj:=ca "day_filed" "day_filed" 505 90 1 233 509
def X5:Obj:=fo "day_filed" "day_filed" (top0 35) mv9 238
def X4:Obj:=ca "start_of" "start_of" 512 92 1 240 516
def X3:Obj:=fo "start_of" "start_of" (top0 36) mv9 245
def XS:Obj:=ca "gives_back" "gives_back" 519 94 1 247 523
def XR:Obj:=fo "gives_back" "gives_back" (top0 37) mv9 252
def XQ:Obj:=ca "most_of" "most_of" 526 96 1 254 530
def XM:Obj:=fo "most_of" "most_of" (top0 38) mv9 259
def XJ:Obj:=ca "with_most" "with_most" 533 98 2 261 538
def XH:Obj:=fo "with_most" "with_most" (top0 39) mv9 266
def XF:Obj:=ca "ranked" "ranked" 541 100 1 268 546
def XD:Obj:=fo "ranked" "ranked" (top0 40) mv9 273
def XC:Obj:=ca "groups_of" "groups_of" 549 102 1 275 555
def Xz:Obj:=fo "groups_of" "groups_of" (top0 41) mv9 280
def Xy:Obj:=cb "wants_of" "wants_of" 558 107 2 282 561
def Xx:Obj:=fo "wants_of" "wants_of" (top0 42) mv9 285
def Xw:Obj:=ca "count_ways" "count_ways" 566 110 2 287 574
def Xv:Obj:=fo "count_ways" "count_ways" (top0 44) mv1 292
def Xu:Obj:=cb "whole_turns" "whole_turns" 577 116 3 294 580
def Xr:Obj:=fo "whole_turns" "whole_turns" (top0 45) mv1 297
def Xq:Obj:=ca "draw" "draw" 583 120 3 299 590
def Xp:Obj:=fo "draw" "draw" (top0 46) mv1 304
def Xo:Obj:=cb "take_whole_turns" "take_whole_turns" 593 123 5 306 596
def Xn:Obj:=fo "take_whole_turns" "take_whole_turns" (top0 47) mv1 309
def Xm:Obj:=cb "take_one_turn" "take_one_turn" 599 129 5 311 602
def Xl:Obj:=fo "take_one_turn" "take_one_turn" (top0 48) mv1 314
def Xk:Obj:=ca "deal_turns" "deal_turns" 605 137 3 316 614
def Xj:Obj:=fo "deal_turns" "deal_turns" (top0 49) mv1 321
def Xi:Obj:=cb "deal" "deal" 619 146 4 323 622
def Xh:Obj:=fo "deal" "deal" (top0 51) mv10 326
def Xg:Obj:=ca "pond_start" "pond_start" 629 158 2 328 637
def Xf:Obj:=fo "pond_start" "pond_start" (top0 54) abo 333
def Xe:Obj:=ca "look_at_let" "look_at_let" 640 161 5 335 651
def Xd:Obj:=fo "look_at_let" "look_at_let" (top0 55) abo 340
def Xc:Obj:=ca "let_out" "let_out" 654 169 5 342 667
def Xb:Obj:=fo "let_out" "let_out" (top0 56) abo 347
def Xa:Obj:=ca "pond_calls" "pond_calls" 670 176 4 349 683
def W9:Obj:=fo "pond_calls" "pond_calls" (top0 57) abo 354
def W8:Obj:=ca "evening" "evening" 686 182 3 356 701
def W7:Obj:=fo "evening" "evening" (top0 58) abo 361
def W6:Obj:=ca "morning_of" "morning_of" 706 193 6 363 716
def W5:Obj:=fo "morning_of" "morning_of" (top0 60) acn 368
def W4:Obj:=ca "moves_of" "moves_of" 719 196 4 370 736
def W3:Obj:=fo "moves_of" "moves_of" (top0 61) acn 375
def W2:Obj:=cb "used_of" "used_of" 739 204 4 377 742
def W0:Obj:=fo "used_of" "used_of" (top0 62) acn 380
def WY:Obj:=cb "day_of" "day_of" 745 208 7 382 748
def WX:Obj:=fo "day_of" "day_of" (top0 63) acn 385
def WW:Obj:=ca "look_at_name" "look_at_name" 755 218 1 387 759
def WR:Obj:=fo "look_at_name" "look_at_name" (top0 66) mv2 392
def WQ:Obj:=ca "__init__" "Roll.__init__" 774 223 2 401 779
def WM:Obj:=fo "__init__" "Roll.__init__" (inC 67 0) mv2 406
def WK:Obj:=ca "today" "Roll.today" 782 232 1 408 786
def WD:Obj:=fo "today" "Roll.today" (inC 67 1) mv2 413
def Wz:Obj:=ca "roll" "Roll.roll" 789 235 1 415 793
def Wy:Obj:=fo "roll" "Roll.roll" (inC 67 2) mv2 420
def Wx:Obj:=ca "holders" "Roll.holders" 796 238 1 422 800
def Ww:Obj:=fo "holders" "Roll.holders" (inC 67 3) mv2 427
def Wv:Obj:=ca "deeds" "Roll.deeds" 803 241 1 429 807
def Wu:Obj:=fo "deeds" "Roll.deeds" (inC 67 4) mv2 434
def Wt:Obj:=ca "turn" "Roll.turn" 810 244 1 436 814
def Ws:Obj:=fo "turn" "Roll.turn" (inC 67 5) mv2 441
def Wr:Obj:=tq #[.none]
def Wq:Obj:=ca "file" "Roll.file" 817 248 5 444 827
def Wo:Obj:=fd "file" "Roll.file" (inC 67 6) mv2 449 (.ref 443)
def Wn:Obj:=ca "sell" "Roll.sell" 830 258 4 451 837
def Wm:Obj:=fo "sell" "Roll.sell" (inC 67 7) mv2 456
def Wk:Obj:=ca "part" "Roll.part" 840 261 5 458 848
def Wj:Obj:=fo "part" "Roll.part" (inC 67 8) mv2 463
def Wi:Obj:=ca "drop" "Roll.drop" 851 264 3 465 857
def Wh:Obj:=fo "drop" "Roll.drop" (inC 67 9) mv2 470
def Wg:Obj:=ca "move" "Roll.move" 860 269 4 472 867
def Wf:Obj:=fo "move" "Roll.move" (inC 67 10) mv2 477
def Wd:Obj:=ca "look_move" "Roll.look_move" 870 272 3 479 876
def Wc:Obj:=fo "look_move" "Roll.look_move" (inC 67 11) mv2 484
def Wb:Obj:=cb "lapse" "Roll.lapse" 879 275 2 486 882
def Wa:Obj:=fo "lapse" "Roll.lapse" (inC 67 12) mv2 489
def V9:Obj:=ca "enter" "Roll.enter" 885 289 3 491 891
def V8:Obj:=fo "enter" "Roll.enter" (inC 67 13) mv2 496
def V7:Obj:=ca "is_alone" "Roll.is_alone" 894 294 2 498 899
def V6:Obj:=fo "is_alone" "Roll.is_alone" (inC 67 14) mv2 503
def V5:Obj:=ca "look_at_number" "Roll.look_at_number" 902 297 2 505 907
def V4:Obj:=fo "look_at_number" "Roll.look_at_number" (inC 67 15) mv2 510
def V3:Obj:=ca "look_at_holder" "Roll.look_at_holder" 910 301 3 512 916
def V2:Obj:=fo "look_at_holder" "Roll.look_at_holder" (inC 67 16) mv2 517
def V1:Obj:=ca "look_at_room" "Roll.look_at_room" 919 306 1 519 923
def V0:Obj:=fo "look_at_room" "Roll.look_at_room" (inC 67 17) mv2 524
def VR (P:Params):Obj:=dO [en P "__module__" 769 mv2,en P "__firstlineno__" 773 (.int 221 772),er P "__init__" 781 407,er P "today" 788 414,er P "roll" 795 421,er P "holders" 802 428,er P "deeds" 809 435,er P "turn" 816 442,er P "file" 829 450,er P "sell" 839 457,er P "part" 850 464,er P "drop" 859 471,er P "move" 869 478,er P "look_move" 878 485,er P "lapse" 884 490,er P "enter" 893 497,er P "is_alone" 901 504,er P "look_at_number" 909 511,er P "look_at_holder" 918 518,er P "look_at_room" 925 525,er P "__static_attributes__" 931 526,er P "__dict__" 933 529,er P "__weakref__" 935 530,en P "__doc__" 936 .none] 4
def Pa:Obj:={ cls:=.type "type",data:=Data.cls { name:="Roll",bases:=[.type "object"],mro:=[.ref 528,.type "object"],ns:=527,qualname:="Roll",subclasses:=[.ref 618] },slots:=#[none,none,some (.str "Roll" 762),some (.str "Roll" 770),some (.builtin "object.__new__"),some (.bool true)] }
def VP:Obj:={ cls:=.type "getset_descriptor",data:=Data.fields #[.str "__dict__" 932,.ref 528,.builtin "function.__dict__",.builtin "function.__dict__#set"] }
def VN:Obj:={ cls:=.type "getset_descriptor",data:=Data.fields #[.str "__weakref__" 934,.ref 528,.builtin "ExceptionGroup.__weakref__",.none] }
def VL:Obj:=cb "greatest_of" "greatest_of" 943 311 2 533 946
def VJ:Obj:=fo "greatest_of" "greatest_of" (top0 70) mv3 536
def VH:Obj:=ca "__init__" "Book.__init__" 961 316 2 545 966
def VG:Obj:=fo "__init__" "Book.__init__" (inC 71 0) mv3 550
def VF:Obj:=tq #[.int 0 969]
def VD:Obj:=ca "pond" "Book.pond" 970 324 5 553 978
def VB:Obj:=fd "pond" "Book.pond" (inC 71 1) mv3 558 (.ref 552)
def Vz:Obj:=ca "ponds" "Book.ponds" 981 336 1 560 985
def Vy:Obj:=fo "ponds" "Book.ponds" (inC 71 2) mv3 565
def Vx:Obj:=ca "kept" "Book.kept" 988 339 1 567 992
def Vw:Obj:=fo "kept" "Book.kept" (inC 71 3) mv3 572
def Vv:Obj:=cb "has_pond" "Book.has_pond" 995 342 2 574 998
def Vu:Obj:=fo "has_pond" "Book.has_pond" (inC 71 4) mv3 577
def Vt:Obj:=tq #[.none]
def Vs:Obj:=ca "run" "Book.run" 1001 345 4 580 1016
def Vr:Obj:=fd "run" "Book.run" (inC 71 5) mv3 585 (.ref 579)
def Vq:Obj:=cb "look_at_amounts" "Book.look_at_amounts" 1019 359 3 587 1022
def Vp:Obj:=fo "look_at_amounts" "Book.look_at_amounts" (inC 71 6) mv3 590
def Vo:Obj:=cb "record" "Book.record" 1025 363 1 592 1028
def Vn:Obj:=fo "record" "Book.record" (inC 71 7) mv3 595
def Vm:Obj:=ca "why" "Book.why" 1031 366 2 597 1036
def Vl:Obj:=fo "why" "Book.why" (inC 71 8) mv3 602
def Vk:Obj:=ca "look_move" "Book.look_move" 1039 369 3 604 1045
def Vj:Obj:=fo "look_move" "Book.look_move" (inC 71 9) mv3 609
def Vi:Obj:=cb "close" "Book.close" 1048 372 1 611 1051
def Vh:Obj:=fo "close" "Book.close" (inC 71 10) mv3 614
def Vg (P:Params):Obj:=dO [en P "__module__" 956 mv3,en P "__firstlineno__" 960 (.int 314 959),er P "__init__" 968 551,er P "pond" 980 559,er P "ponds" 987 566,er P "kept" 994 573,er P "has_pond" 1000 578,er P "run" 1018 586,er P "look_at_amounts" 1024 591,er P "record" 1030 596,er P "why" 1038 603,er P "look_move" 1047 610,er P "close" 1053 615,er P "__static_attributes__" 1059 616,en P "__doc__" 1060 .none] 2
def Vf:Obj:={ cls:=.type "type",data:=Data.cls { name:="Book",bases:=[.ref 528],mro:=[.ref 618,.ref 528,.type "object"],ns:=617,qualname:="Book" },slots:=#[some (.ref 538),none,some (.str "Book" 949),some (.str "Book" 957),some (.builtin "object.__new__"),some (.bool true)] }
def Vd:Obj:=ca "_law_cell_at" "_law_cell_at" 1065 378 2 621 1070
def Vc:Obj:=fo "_law_cell_at" "_law_cell_at" (top0 73) mv4 626
def Vb:Obj:=ca "_law_whole" "_law_whole" 1073 382 1 628 1077
def Va:Obj:=fo "_law_whole" "_law_whole" (top0 74) mv4 633
def U9:Obj:=ca "_law_pebble" "_law_pebble" 1080 384 2 635 1086
def U8:Obj:=fo "_law_pebble" "_law_pebble" (top0 75) mv4 640
def U7:Obj:=cb "_law_pebbles" "_law_pebbles" 1089 387 2 642 1092
def U6:Obj:=fo "_law_pebbles" "_law_pebbles" (top0 76) mv4 645
def U5:Obj:=ca "_law_river" "_law_river" 1095 389 2 647 1106
def U4:Obj:=fo "_law_river" "_law_river" (top0 77) mv4 652
def U3:Obj:=ca "_law_walk" "_law_walk" 1109 408 3 654 1117
def U0:Obj:=fo "_law_walk" "_law_walk" (top0 78) mv4 659
def UW:Obj:=ca "_law_amount" "_law_amount" 1120 415 2 661 1125
def UL:Obj:=fo "_law_amount" "_law_amount" (top0 79) mv4 666
def UJ:Obj:=ca "_law_free" "_law_free" 1128 419 4 668 1140
def UG:Obj:=fo "_law_free" "_law_free" (top0 80) mv4 673
def Uz:Obj:=ca "_law_is_shown" "_law_is_shown" 1143 428 5 675 1157
def Uy:Obj:=fo "_law_is_shown" "_law_is_shown" (top0 81) mv4 680
def Ux:Obj:=ca "_law_dealt" "_law_dealt" 1160 440 4 682 1171
def Uw:Obj:=fo "_law_dealt" "_law_dealt" (top0 82) mv4 687
def Uv:Obj:=ca "_law_filed" "_law_filed" 1174 454 5 689 1186
def Uu:Obj:=fo "_law_filed" "_law_filed" (top0 83) mv4 694
def Ut:Obj:=cb "_law_run" "_law_run" 1189 465 5 696 1192
def Us:Obj:=fo "_law_run" "_law_run" (top0 84) mv4 699
def Ur:Obj:=ca "_law_closed" "_law_closed" 1195 478 4 701 1211
def Uq:Obj:=fo "_law_closed" "_law_closed" (top0 85) mv4 706
def Uo:Obj:=ca "_law_deed" "_law_deed" 1214 497 6 708 1225
def Um:Obj:=fo "_law_deed" "_law_deed" (top0 86) mv4 713
def Ul:Obj:=ca "law" "law" 1228 511 1 715 1239
def Uk:Obj:=fo "law" "law" (top0 87) mv4 720
def sg0 (P:Params):List Obj:=(dO (en P "__name__" 1 (.str "builtins" 160)::(eb P 2 [("__doc__","builtins.__doc__:str#opaque"),("__package__","builtins.__package__:str#opaque"),("__loader__","builtins.__loader__:shared#opaque"),("__spec__","builtins.__spec__#opaque"),("__build_class__","__build_class__"),("__import__","__import__"),("abs","abs"),("all","all"),("any","any"),("ascii","ascii"),("bin","bin"),("breakpoint","breakpoint"),("callable","callable"),("chr","chr"),("compile","compile"),("delattr","delattr"),("dir","dir"),("divmod","divmod"),("eval","eval"),("exec","exec"),("format","format"),("getattr","getattr"),("globals","globals"),("hasattr","hasattr"),("hash","hash"),("hex","hex"),("id","id"),("input","input"),("isinstance","isinstance"),("issubclass","issubclass"),("iter","iter"),("aiter","aiter")] (eb P 34 [("len","len"),("locals","locals"),("max","max"),("min","min"),("next","next"),("anext","anext"),("oct","oct"),("ord","ord"),("pow","pow"),("print","print"),("repr","repr"),("round","round"),("setattr","setattr"),("sorted","sorted"),("sum","sum"),("vars","vars")] (en P "None" 50 .none::en P "Ellipsis" 51 .ellipsis::en P "NotImplemented" 52 .notImplemented::en P "False" 53 (.bool false)::en P "True" 54 (.bool true)::(et P 55 [("bool","bool"),("memoryview","memoryview"),("bytearray","bytearray"),("bytes","bytes"),("classmethod","classmethod"),("complex","complex"),("dict","dict"),("enumerate","enumerate"),("filter","filter"),("float","float"),("frozenset","frozenset"),("property","property"),("int","int"),("list","list"),("map","map"),("object","object"),("range","range"),("reversed","reversed"),("set","set"),("slice","slice"),("staticmethod","staticmethod"),("str","str"),("super","super"),("tuple","tuple"),("type","type"),("zip","zip")] (en P "__debug__" 81 (.bool true)::(et P 82 [("BaseException","BaseException"),("BaseExceptionGroup","BaseExceptionGroup"),("Exception","Exception"),("GeneratorExit","GeneratorExit"),("KeyboardInterrupt","KeyboardInterrupt"),("SystemExit","SystemExit"),("ArithmeticError","ArithmeticError"),("AssertionError","AssertionError"),("AttributeError","AttributeError"),("BufferError","BufferError"),("EOFError","EOFError"),("ImportError","ImportError"),("LookupError","LookupError"),("MemoryError","MemoryError"),("NameError","NameError"),("OSError","OSError"),("ReferenceError","ReferenceError"),("RuntimeError","RuntimeError"),("StopAsyncIteration","StopAsyncIteration"),("StopIteration","StopIteration"),("SyntaxError","SyntaxError"),("SystemError","SystemError"),("TypeError","TypeError"),("ValueError","ValueError"),("Warning","Warning"),("FloatingPointError","FloatingPointError"),("OverflowError","OverflowError"),("ZeroDivisionError","ZeroDivisionError"),("BytesWarning","BytesWarning"),("DeprecationWarning","DeprecationWarning"),("EncodingWarning","EncodingWarning"),("FutureWarning","FutureWarning")] (et P 114 [("ImportWarning","ImportWarning"),("PendingDeprecationWarning","PendingDeprecationWarning"),("ResourceWarning","ResourceWarning"),("RuntimeWarning","RuntimeWarning"),("SyntaxWarning","SyntaxWarning"),("UnicodeWarning","UnicodeWarning"),("UserWarning","UserWarning"),("BlockingIOError","BlockingIOError"),("ChildProcessError","ChildProcessError"),("ConnectionError","ConnectionError"),("FileExistsError","FileExistsError"),("FileNotFoundError","FileNotFoundError"),("InterruptedError","InterruptedError"),("IsADirectoryError","IsADirectoryError"),("NotADirectoryError","NotADirectoryError"),("PermissionError","PermissionError"),("ProcessLookupError","ProcessLookupError"),("TimeoutError","TimeoutError"),("IndentationError","IndentationError"),("_IncompleteInputError","_IncompleteInputError"),("IndexError","IndexError"),("KeyError","KeyError"),("ModuleNotFoundError","ModuleNotFoundError"),("NotImplementedError","NotImplementedError"),("PythonFinalizationError","PythonFinalizationError"),("RecursionError","RecursionError"),("UnboundLocalError","UnboundLocalError"),("UnicodeError","UnicodeError"),("BrokenPipeError","BrokenPipeError"),("ConnectionAbortedError","ConnectionAbortedError"),("ConnectionRefusedError","ConnectionRefusedError"),("ConnectionResetError","ConnectionResetError")] (et P 146 [("TabError","TabError"),("UnicodeDecodeError","UnicodeDecodeError"),("UnicodeEncodeError","UnicodeEncodeError"),("UnicodeTranslateError","UnicodeTranslateError"),("ExceptionGroup","ExceptionGroup"),("EnvironmentError","OSError"),("IOError","OSError")] (eb P 153 [("open","open"),("quit","builtins.quit#opaque"),("exit","builtins.exit#opaque"),("copyright","builtins.copyright#opaque"),("credits","builtins.credits#opaque"),("license","builtins.license#opaque"),("help","builtins.help#opaque")] [])))))))))) 159)::(dO [er P "builtins" 162 4,er P "__main__" 163 5] 2)::adP::[]
def sg2 (P:Params):List Obj:={ cls:=.type "module",dict:=some 0 }::{ cls:=.type "module",dict:=some 3 }::{ cls:=.type "dict",data:=Data.dict #[] }::ot::oe::(fc #[.str "<module>" 176,.str "<module>" 177,cp 178,.int 1 0,.int 0 0,.int 0 0,.int 0 0,.int 0 0,.ref 7,.bool false,.int 175 0,.ref 8,.none,.none,.none,.none,.int 179 0,.int 1 0,cp 180])::(fr 9 3 mv0)::[]
def sg3 (P:Params):List Obj:=ot::[]
def sg5 (P:Params):List Obj:=(cc "<module>" "<module>" 182 1 11 185)::(fr 13 3 mv0)::[]
def sg6 (P:Params):List Obj:=ot::oe::(tn 190 ["k"])::ot::(po "_wall" "_wall" (top0 0))::abV::abU::ot::oe::(tn 205 ["amount"])::ot::(po "is_water" "is_water" (top0 5))::abT::abS::ot::oe::(po "is_name" "is_name" (top0 6))::abR::abQ::(tq #[.type "ValueError"])::(bm "type.__prepare__" (.type "type"))::(dO [en P "__module__" 224 mv6,en P "__qualname__" 226 (.str "SluiceError" 225),en P "__firstlineno__" 228 (.int 13 227),er P "__static_attributes__" 229 41] 4)::ot::oe::(cc "SluiceError" "SluiceError" 219 13 37 222)::(fr 39 36 mv6)::ot::abP P::abO::abN::(su 43)::(bm "object.__init_subclass__" (.ref 43))::(tq #[.ref 43])::(bm "type.__prepare__" (.type "type"))::(dO [en P "__module__" 242 mv6,en P "__qualname__" 244 (.str "NoRiver" 243),en P "__firstlineno__" 246 (.int 15 245),er P "__static_attributes__" 247 54] 4)::ot::oe::(cc "NoRiver" "NoRiver" 237 15 50 240)::(fr 52 49 mv6)::ot::abM P::abL::(su 56)::(bm "object.__init_subclass__" (.ref 56))::(tq #[.ref 43])::(bm "type.__prepare__" (.type "type"))::(dO [en P "__module__" 258 mv6,en P "__qualname__" 260 (.str "NoReach" 259),en P "__firstlineno__" 262 (.int 17 261),er P "__static_attributes__" 263 66] 4)::ot::oe::(cc "NoReach" "NoReach" 253 17 62 256)::(fr 64 61 mv6)::ot::abK P::abJ::(su 68)::(bm "object.__init_subclass__" (.ref 68))::(tq #[.ref 43])::(bm "type.__prepare__" (.type "type"))::(dO [en P "__module__" 274 mv6,en P "__qualname__" 276 (.str "NoLicence" 275),en P "__firstlineno__" 278 (.int 19 277),er P "__static_attributes__" 279 78] 4)::ot::oe::(cc "NoLicence" "NoLicence" 269 19 74 272)::(fr 76 73 mv6)::ot::abI P::abH::(su 80)::(bm "object.__init_subclass__" (.ref 80))::(tq #[.ref 43])::(bm "type.__prepare__" (.type "type"))::(dO [en P "__module__" 290 mv6,en P "__qualname__" 292 (.str "NoNumber" 291),en P "__firstlineno__" 294 (.int 21 293),er P "__static_attributes__" 295 90] 4)::ot::oe::(cc "NoNumber" "NoNumber" 285 21 86 288)::(fr 88 85 mv6)::ot::abG P::abF::(su 92)::(bm "object.__init_subclass__" (.ref 92))::(tq #[.ref 43])::(bm "type.__prepare__" (.type "type"))::(dO [en P "__module__" 306 mv6,en P "__qualname__" 308 (.str "NoHolder" 307),en P "__firstlineno__" 310 (.int 23 309),er P "__static_attributes__" 311 102] 4)::ot::oe::(cc "NoHolder" "NoHolder" 301 23 98 304)::(fr 100 97 mv6)::ot::YH P::YG::(su 104)::(bm "object.__init_subclass__" (.ref 104))::(tq #[.ref 43])::(bm "type.__prepare__" (.type "type"))::(dO [en P "__module__" 322 mv6,en P "__qualname__" 324 (.str "NotYours" 323),en P "__firstlineno__" 326 (.int 25 325),er P "__static_attributes__" 327 114] 4)::ot::oe::(cc "NotYours" "NotYours" 317 25 110 320)::(fr 112 109 mv6)::ot::YF P::YD::(su 116)::(bm "object.__init_subclass__" (.ref 116))::(tq #[.ref 43])::(bm "type.__prepare__" (.type "type"))::(dO [en P "__module__" 338 mv6,en P "__qualname__" 340 (.str "TooMuch" 339),en P "__firstlineno__" 342 (.int 27 341),er P "__static_attributes__" 343 126] 4)::ot::oe::(cc "TooMuch" "TooMuch" 333 27 122 336)::(fr 124 121 mv6)::ot::YC P::YB::(su 128)::(bm "object.__init_subclass__" (.ref 128))::(tq #[.ref 43])::(bm "type.__prepare__" (.type "type"))::(dO [en P "__module__" 354 mv6,en P "__qualname__" 356 (.str "Full" 355),en P "__firstlineno__" 358 (.int 29 357),er P "__static_attributes__" 359 138] 4)::ot::oe::(cc "Full" "Full" 349 29 134 352)::(fr 136 133 mv6)::ot::Yz P::Yy::(su 140)::(bm "object.__init_subclass__" (.ref 140))::(tq #[.ref 43])::(bm "type.__prepare__" (.type "type"))::(dO [en P "__module__" 370 mv6,en P "__qualname__" 372 (.str "NoPond" 371),en P "__firstlineno__" 374 (.int 31 373),er P "__static_attributes__" 375 150] 4)::ot::oe::(cc "NoPond" "NoPond" 365 31 146 368)::(fr 148 145 mv6)::ot::Yx P::Yw::(su 152)::(bm "object.__init_subclass__" (.ref 152))::(tq #[.ref 43])::(bm "type.__prepare__" (.type "type"))::(dO [en P "__module__" 386 mv6,en P "__qualname__" 388 (.str "NoDay" 387),en P "__firstlineno__" 390 (.int 33 389),er P "__static_attributes__" 391 162] 4)::ot::oe::(cc "NoDay" "NoDay" 381 33 158 384)::(fr 160 157 mv6)::ot::Yv P::Yu::(su 164)::(bm "object.__init_subclass__" (.ref 164))::ot::oe::(tn 405 ["below","start","reach","step"])::ot::(po "comes_to_mouth" "comes_to_mouth" (top0 22))::Yt::Ys::ot::oe::(po "is_river" "is_river" (top0 23))::Yr::Yq::ot::oe::(tn 421 ["below","reach","way"])::ot::(po "way_of" "way_of" (top0 24))::Yp::Yo::ot::oe::(tn 430 ["below"])::(tn 431 ["below"])::(po "tops_first" "tops_first" (top0 25))::Yn::Ym::ot::oe::(po "mouths_of" "mouths_of" (top0 26))::Yl::Yk::ot::oe::(tn 444 ["below","start","stop","way"])::ot::(po "stretch_of" "stretch_of" (top0 27))::Yj::Yi::ot::oe::(tn 456 ["below","springs","flows","reach"])::ot::(po "natural_of" "natural_of" (top0 29))::Yh::Yg::ot::oe::(tn 466 ["below","springs","moves","flows","start","stop","amount","reach"])::ot::(po "flows_of" "flows_of" (top0 30))::Ye::Yd::ot::oe::(tn 484 ["below","one","day","start","back","most"])::ot::(po "is_licence" "is_licence" (top0 33))::Yc::Yb::ot::oe::(tn 496 ["below","one","day","start","back","most"])::ot::(po "reaches_of" "reaches_of" (top0 34))::X8::X7::ot::oe::(tn 508 ["one"])::ot::(po "day_filed" "day_filed" (top0 35))::X6::X5::ot::oe::(tn 515 ["one"])::ot::(po "start_of" "start_of" (top0 36))::X4::X3::ot::oe::(tn 522 ["one"])::ot::(po "gives_back" "gives_back" (top0 37))::XS::XR::ot::oe::(tn 529 ["one"])::ot::(po "most_of" "most_of" (top0 38))::XQ::XM::ot::oe::(tn 536 ["one","most"])::ot::(po "with_most" "with_most" (top0 39))::XJ::XH::ot::oe::(tn 544 ["roll"])::(tn 545 ["roll"])::(po "ranked" "ranked" (top0 40))::XF::XD::ot::oe::(tn 552 ["roll","groups","number"])::ot::(po "groups_of" "groups_of" (top0 41))::XC::Xz::ot::oe::(po "wants_of" "wants_of" (top0 42))::Xy::Xx::ot::oe::(tn 569 ["free","ways","counts","way","reach"])::ot::(po "count_ways" "count_ways" (top0 44))::Xw::Xv::ot::oe::(po "whole_turns" "whole_turns" (top0 45))::Xu::Xr::ot::oe::(tn 586 ["left","way","drops","reach"])::ot::(po "draw" "draw" (top0 46))::Xq::Xp::ot::oe::(po "take_whole_turns" "take_whole_turns" (top0 47))::Xo::Xn::ot::oe::(po "take_one_turn" "take_one_turn" (top0 48))::Xm::Xl::[]
def sg7 (P:Params):List Obj:=ot::oe::(tn 608 ["free","ways","rests","left","takes","going"])::ot::(po "deal_turns" "deal_turns" (top0 49))::Xk::Xj::ot::oe::(po "deal" "deal" (top0 51))::Xi::Xh::ot::oe::(tn 632 ["roll","pond","number","room","leak"])::ot::(po "pond_start" "pond_start" (top0 54))::Xg::Xf::ot::oe::(tn 643 ["below","roll","ponds","kept","let","place","reach","amount"])::ot::(po "look_at_let" "look_at_let" (top0 55))::Xe::Xd::ot::oe::(tn 657 ["below","roll","ponds","kept","lets","left","let","place","reach","amount"])::ot::(po "let_out" "let_out" (top0 56))::Xc::Xb::ot::oe::(tn 673 ["roll","ponds","kept","calls","lessened","pond","keeps","number","room","leak"])::ot::(po "pond_calls" "pond_calls" (top0 57))::Xa::W9::ot::oe::(tn 689 ["ponds","kept","takes","after","lost","pond","keeps","number","room","leak","full","loss"])::ot::(po "evening" "evening" (top0 58))::W8::W7::ot::oe::(tn 709 ["below","roll","ponds","kept","calls","lets","left"])::ot::(po "morning_of" "morning_of" (top0 60))::W6::W5::ot::oe::(tn 722 ["roll","ponds","takes","lets","moves","one","take","day","start","back","most","place","reach","amount"])::ot::(po "moves_of" "moves_of" (top0 61))::W4::W3::ot::oe::(po "used_of" "used_of" (top0 62))::W2::W0::ot::oe::(po "day_of" "day_of" (top0 63))::WY::WX::ot::oe::(tn 758 ["name"])::ot::(po "look_at_name" "look_at_name" (top0 66))::WW::WR::ot::(bm "type.__prepare__" (.type "type"))::(dO [en P "__module__" 769 mv2,en P "__qualname__" 771 (.str "Roll" 770),en P "__firstlineno__" 773 (.int 221 772),er P "__init__" 781 407,er P "today" 788 414,er P "roll" 795 421,er P "holders" 802 428,er P "deeds" 809 435,er P "turn" 816 442,er P "file" 829 450,er P "sell" 839 457,er P "part" 850 464,er P "drop" 859 471,er P "move" 869 478,er P "look_move" 878 485,er P "lapse" 884 490,er P "enter" 893 497,er P "is_alone" 901 504,er P "look_at_number" 909 511,er P "look_at_holder" 918 518,er P "look_at_room" 925 525,er P "__static_attributes__" 931 526] 22)::ot::{ cls:=.none,data:=Data.fields #[.int 223 0,.int 4 0,.ref 406,.int 232 0,.int 4 0,.ref 413,.int 235 0,.int 4 0,.ref 420,.int 238 0,.int 4 0,.ref 427,.int 241 0,.int 4 0,.ref 434,.int 244 0,.int 4 0,.ref 441,.int 248 0,.int 4 0,.ref 449,.int 258 0,.int 4 0,.ref 456,.int 261 0,.int 4 0,.ref 463,.int 264 0,.int 4 0,.ref 470,.int 269 0,.int 4 0,.ref 477,.int 272 0,.int 4 0,.ref 484,.int 275 0,.int 4 0,.ref 489,.int 289 0,.int 4 0,.ref 496,.int 294 0,.int 4 0,.ref 503,.int 297 0,.int 4 0,.ref 510,.int 301 0,.int 4 0,.ref 517,.int 306 0,.int 4 0,.ref 524] }::(cc "Roll" "Roll" 764 221 397 767)::(fr 399 396 mv2)::ot::oe::(tn 777 ["self","below"])::ot::(po "__init__" "Roll.__init__" (inC 67 0))::WQ::WM::ot::oe::(tn 785 ["self"])::ot::(po "today" "Roll.today" (inC 67 1))::WK::WD::ot::oe::(tn 792 ["self"])::ot::(po "roll" "Roll.roll" (inC 67 2))::Wz::Wy::ot::oe::(tn 799 ["self"])::ot::(po "holders" "Roll.holders" (inC 67 3))::Wx::Ww::ot::oe::(tn 806 ["self"])::ot::(po "deeds" "Roll.deeds" (inC 67 4))::Wv::Wu::ot::oe::(tn 813 ["self"])::ot::(po "turn" "Roll.turn" (inC 67 5))::Wt::Ws::Wr::ot::oe::(tn 820 ["self","holder","start","most","back","stop","one"])::ot::(po "file" "Roll.file" (inC 67 6))::Wq::Wo::ot::oe::(tn 833 ["self","number","holder","to"])::ot::(po "sell" "Roll.sell" (inC 67 7))::Wn::Wm::ot::oe::(tn 843 ["self","number","holder","most","to"])::ot::(po "part" "Roll.part" (inC 67 8))::Wk::Wj::ot::oe::(tn 854 ["self","number","holder"])::ot::(po "drop" "Roll.drop" (inC 67 9))::Wi::Wh::ot::oe::(tn 863 ["self","number","holder","start"])::ot::(po "move" "Roll.move" (inC 67 10))::Wg::Wf::ot::oe::(tn 873 ["self","number","start"])::ot::(po "look_move" "Roll.look_move" (inC 67 11))::Wd::Wc::ot::oe::(po "lapse" "Roll.lapse" (inC 67 12))::Wb::Wa::ot::oe::(tn 888 ["self","one","holder"])::ot::(po "enter" "Roll.enter" (inC 67 13))::V9::V8::ot::oe::(tn 897 ["self","number"])::ot::(po "is_alone" "Roll.is_alone" (inC 67 14))::V7::V6::ot::oe::(tn 905 ["self","number"])::ot::(po "look_at_number" "Roll.look_at_number" (inC 67 15))::V5::V4::ot::oe::(tn 913 ["self","number","holder"])::ot::(po "look_at_holder" "Roll.look_at_holder" (inC 67 16))::V3::V2::ot::oe::(tn 922 ["self"])::ot::(po "look_at_room" "Roll.look_at_room" (inC 67 17))::V1::V0::(tn 926 ["below","day","done","licences","names"])::VR P::[]
def sg9 (P:Params):List Obj:=VP::VN::(su 528)::(bm "object.__init_subclass__" (.ref 528))::[]
def adF (P:Params):List Obj:=ot::oe::(po "greatest_of" "greatest_of" (top0 70))::VL::VJ::(tq #[.ref 528])::(bm "type.__prepare__" (.type "type"))::(dO [en P "__module__" 956 mv3,en P "__qualname__" 958 (.str "Book" 957),en P "__firstlineno__" 960 (.int 314 959),er P "__init__" 968 551,er P "pond" 980 559,er P "ponds" 987 566,er P "kept" 994 573,er P "has_pond" 1000 578,er P "run" 1018 586,er P "look_at_amounts" 1024 591,er P "record" 1030 596,er P "why" 1038 603,er P "look_move" 1047 610,er P "close" 1053 615,er P "__static_attributes__" 1059 616] 15)::ot::{ cls:=.none,data:=Data.fields #[.int 316 0,.int 4 0,.ref 550,.int 324 0,.int 4 0,.ref 558,.int 336 0,.int 4 0,.ref 565,.int 339 0,.int 4 0,.ref 572,.int 342 0,.int 4 0,.ref 577,.int 345 0,.int 4 0,.ref 585,.int 359 0,.int 4 0,.ref 590,.int 363 0,.int 4 0,.ref 595,.int 366 0,.int 4 0,.ref 602,.int 369 0,.int 4 0,.ref 609,.int 372 0,.int 4 0,.ref 614] }::(cc "Book" "Book" 951 314 541 954)::(fr 543 540 mv3)::ot::oe::(tn 964 ["self","below"])::ot::(po "__init__" "Book.__init__" (inC 71 0))::VH::VG::VF::ot::oe::(tn 973 ["self","number","holder","room","leak"])::ot::(po "pond" "Book.pond" (inC 71 1))::VD::VB::ot::oe::(tn 984 ["self"])::ot::(po "ponds" "Book.ponds" (inC 71 2))::Vz::Vy::ot::oe::(tn 991 ["self"])::ot::(po "kept" "Book.kept" (inC 71 3))::Vx::Vw::ot::oe::(po "has_pond" "Book.has_pond" (inC 71 4))::Vv::Vu::Vt::ot::oe::(tn 1004 ["self","springs","calls","lets","lets_told","left","dealt_by","told","takes","kept","flows","sheet"])::ot::(po "run" "Book.run" (inC 71 5))::Vs::Vr::ot::oe::(po "look_at_amounts" "Book.look_at_amounts" (inC 71 6))::Vq::Vp::ot::oe::(po "record" "Book.record" (inC 71 7))::Vo::Vn::ot::oe::(tn 1034 ["self","number"])::ot::(po "why" "Book.why" (inC 71 8))::Vm::Vl::ot::oe::(tn 1042 ["self","number","start"])::ot::(po "look_move" "Book.look_move" (inC 71 9))::Vk::Vj::ot::oe::(po "close" "Book.close" (inC 71 10))::Vi::Vh::(tn 1054 ["dug","greatest","keeps","last","ran"])::Vg P::Vf::(su 618)::(bm "object.__init_subclass__" (.ref 618))::[]
def sg11 (P:Params):List Obj:=ot::oe::(tn 1068 ["script","k"])::ot::(po "_law_cell_at" "_law_cell_at" (top0 73))::Vd::Vc::ot::oe::(tn 1076 ["found"])::ot::(po "_law_whole" "_law_whole" (top0 74))::Vb::Va::ot::oe::(tn 1083 ["cell","k","mark"])::ot::(po "_law_pebble" "_law_pebble" (top0 75))::U9::U8::ot::oe::(po "_law_pebbles" "_law_pebbles" (top0 76))::U7::U6::ot::oe::(tn 1098 ["xs","cell","order","onward","k","place","at","found"])::ot::(po "_law_river" "_law_river" (top0 77))::U5::U4::ot::oe::(tn 1112 ["river","start","stop","walk","place"])::ot::(po "_law_walk" "_law_walk" (top0 78))::U3::U0::ot::oe::(tn 1123 ["x","great"])::ot::(po "_law_amount" "_law_amount" (top0 79))::UW::UL::ot::oe::(tn 1131 ["river","springs","roll","takes","free","place","lower","one","take"])::ot::(po "_law_free" "_law_free" (top0 80))::UJ::UG::ot::oe::(tn 1146 ["river","free","roll","takes","number","one","after","place","good","other","last"])::ot::(po "_law_is_shown" "_law_is_shown" (top0 81))::Uz::Uy::ot::oe::(tn 1163 ["river","springs","roll","calls","takes","free","number","want"])::ot::(po "_law_dealt" "_law_dealt" (top0 82))::Ux::Uw::ot::oe::(tn 1177 ["book","river","rows","xs","great","start","walk","back","number"])::ot::(po "_law_filed" "_law_filed" (top0 83))::Uv::Uu::ot::oe::(po "_law_run" "_law_run" (top0 84))::Ut::Us::ot::oe::(tn 1198 ["book","river","rows","marks","roll","days","lapsed","one","other","springs","told","calls","takes"])::ot::(po "_law_closed" "_law_closed" (top0 85))::Ur::Uq::ot::oe::(tn 1217 ["book","river","rows","marks","xs","great","many","way"])::ot::(po "_law_deed" "_law_deed" (top0 86))::Uo::Um::ot::oe::(tn 1231 ["script","first","great","river","book","rows","marks","cell"])::ot::(po "law" "law" (top0 87))::Ul::Uk::[]
def H0:Params->Heap:=fun P=>{ objs:=⟨sg0 P++(dO (en P "__name__" 165 mv0::Sw P) 9)::sg2 P++[]⟩ }
def Ha:Params->Heap:=fun P=>{ objs:=⟨sg0 P++(dO (en P "__name__" 165 mv0::Sw P) 9)::sg2 P++sg3 P++(fl YQ)::sg5 P++[]⟩ }
def Hb:Params->Heap:=fun P=>{ objs:=⟨sg0 P++(dO (en P "__name__" 165 mv0::Sw P) 9)::sg2 P++sg3 P++(fl YQ)::sg5 P++[]⟩ }
def Hm0:Params->Heap:=fun P=>{ objs:=⟨sg0 P++(dO (en P "__name__" 165 mv1::ab1 P) 52)::sg2 P++sg3 P++(fl YM)::sg5 P++sg6 P++[]⟩ }
def Hm1:Params->Heap:=fun P=>{ objs:=⟨sg0 P++(dO (en P "__name__" 165 mv2::ab0 P) 67)::sg2 P++sg3 P++(fl YL)::sg5 P++sg6 P++sg7 P++{ cls:=.type "type",data:=Data.cls { name:="Roll",bases:=[.type "object"],mro:=[.ref 528,.type "object"],ns:=527,qualname:="Roll" },slots:=#[none,none,some (.str "Roll" 762),some (.str "Roll" 770),some (.builtin "object.__new__"),some (.bool true)] }::sg9 P++[]⟩ }
def Hm2:Params->Heap:=fun P=>{ objs:=⟨sg0 P++(dO (en P "__name__" 165 mv3::abZ P) 70)::sg2 P++sg3 P++(fl YK)::sg5 P++sg6 P++sg7 P++Pa::sg9 P++adF P++[]⟩ }
def H1:Params->Heap:=fun P=>{ objs:=⟨sg0 P++Ve P::sg2 P++sg3 P++(fl abY)::sg5 P++sg6 P++sg7 P++Pa::sg9 P++adF P++sg11 P++[]⟩ }
def Kf:Params->PySem.W.Frag:=fun P=>(nat_lit 2,adP)::(nat_lit 3,Ve P)::(nat_lit 20,abV)::(nat_lit 21,abU)::(nat_lit 27,abT)::(nat_lit 28,abS)::(nat_lit 32,abR)::(nat_lit 33,abQ)::(nat_lit 42,abP P)::(nat_lit 43,abO)::(nat_lit 44,abN)::(nat_lit 55,abM P)::(nat_lit 56,abL)::(nat_lit 67,abK P)::(nat_lit 68,abJ)::(nat_lit 79,abI P)::(nat_lit 80,abH)::(nat_lit 91,abG P)::(nat_lit 92,abF)::(nat_lit 103,YH P)::(nat_lit 104,YG)::(nat_lit 115,YF P)::(nat_lit 116,YD)::(nat_lit 127,YC P)::(nat_lit 128,YB)::(nat_lit 139,Yz P)::(nat_lit 140,Yy)::(nat_lit 151,Yx P)::(nat_lit 152,Yw)::(nat_lit 163,Yv P)::(nat_lit 164,Yu)::(nat_lit 172,Yt)::(nat_lit 173,Ys)::(nat_lit 177,Yr)::(nat_lit 178,Yq)::(nat_lit 184,Yp)::(nat_lit 185,Yo)::(nat_lit 191,Yn)::(nat_lit 192,Ym)::(nat_lit 196,Yl)::(nat_lit 197,Yk)::(nat_lit 203,Yj)::(nat_lit 204,Yi)::(nat_lit 210,Yh)::(nat_lit 211,Yg)::(nat_lit 217,Ye)::(nat_lit 218,Yd)::(nat_lit 224,Yc)::(nat_lit 225,Yb)::(nat_lit 231,X8)::(nat_lit 232,X7)::(nat_lit 238,X6)::(nat_lit 239,X5)::(nat_lit 245,X4)::(nat_lit 246,X3)::(nat_lit 252,XS)::(nat_lit 253,XR)::(nat_lit 259,XQ)::(nat_lit 260,XM)::(nat_lit 266,XJ)::(nat_lit 267,XH)::(nat_lit 273,XF)::(nat_lit 274,XD)::(nat_lit 280,XC)::(nat_lit 281,Xz)::(nat_lit 285,Xy)::(nat_lit 286,Xx)::(nat_lit 292,Xw)::(nat_lit 293,Xv)::(nat_lit 297,Xu)::(nat_lit 298,Xr)::(nat_lit 304,Xq)::(nat_lit 305,Xp)::(nat_lit 309,Xo)::(nat_lit 310,Xn)::(nat_lit 314,Xm)::(nat_lit 315,Xl)::(nat_lit 321,Xk)::(nat_lit 322,Xj)::(nat_lit 326,Xi)::(nat_lit 327,Xh)::(nat_lit 333,Xg)::(nat_lit 334,Xf)::(nat_lit 340,Xe)::(nat_lit 341,Xd)::(nat_lit 347,Xc)::(nat_lit 348,Xb)::(nat_lit 354,Xa)::(nat_lit 355,W9)::(nat_lit 361,W8)::(nat_lit 362,W7)::(nat_lit 368,W6)::(nat_lit 369,W5)::(nat_lit 375,W4)::(nat_lit 376,W3)::(nat_lit 380,W2)::(nat_lit 381,W0)::(nat_lit 385,WY)::(nat_lit 386,WX)::(nat_lit 392,WW)::(nat_lit 393,WR)::(nat_lit 406,WQ)::(nat_lit 407,WM)::(nat_lit 413,WK)::(nat_lit 414,WD)::(nat_lit 420,Wz)::(nat_lit 421,Wy)::(nat_lit 427,Wx)::(nat_lit 428,Ww)::(nat_lit 434,Wv)::(nat_lit 435,Wu)::(nat_lit 441,Wt)::(nat_lit 442,Ws)::(nat_lit 443,Wr)::(nat_lit 449,Wq)::(nat_lit 450,Wo)::(nat_lit 456,Wn)::(nat_lit 457,Wm)::(nat_lit 463,Wk)::(nat_lit 464,Wj)::(nat_lit 470,Wi)::(nat_lit 471,Wh)::(nat_lit 477,Wg)::(nat_lit 478,Wf)::(nat_lit 484,Wd)::(nat_lit 485,Wc)::(nat_lit 489,Wb)::(nat_lit 490,Wa)::(nat_lit 496,V9)::(nat_lit 497,V8)::(nat_lit 503,V7)::(nat_lit 504,V6)::(nat_lit 510,V5)::(nat_lit 511,V4)::(nat_lit 517,V3)::(nat_lit 518,V2)::(nat_lit 524,V1)::(nat_lit 525,V0)::(nat_lit 527,VR P)::(nat_lit 528,Pa)::(nat_lit 529,VP)::(nat_lit 530,VN)::(nat_lit 536,VL)::(nat_lit 537,VJ)::(nat_lit 550,VH)::(nat_lit 551,VG)::(nat_lit 552,VF)::(nat_lit 558,VD)::(nat_lit 559,VB)::(nat_lit 565,Vz)::(nat_lit 566,Vy)::(nat_lit 572,Vx)::(nat_lit 573,Vw)::(nat_lit 577,Vv)::(nat_lit 578,Vu)::(nat_lit 579,Vt)::(nat_lit 585,Vs)::(nat_lit 586,Vr)::(nat_lit 590,Vq)::(nat_lit 591,Vp)::(nat_lit 595,Vo)::(nat_lit 596,Vn)::(nat_lit 602,Vm)::(nat_lit 603,Vl)::(nat_lit 609,Vk)::(nat_lit 610,Vj)::(nat_lit 614,Vi)::(nat_lit 615,Vh)::(nat_lit 617,Vg P)::(nat_lit 618,Vf)::(nat_lit 626,Vd)::(nat_lit 627,Vc)::(nat_lit 633,Vb)::(nat_lit 634,Va)::(nat_lit 640,U9)::(nat_lit 641,U8)::(nat_lit 645,U7)::(nat_lit 646,U6)::(nat_lit 652,U5)::(nat_lit 653,U4)::(nat_lit 659,U3)::(nat_lit 660,U0)::(nat_lit 666,UW)::(nat_lit 667,UL)::(nat_lit 673,UJ)::(nat_lit 674,UG)::(nat_lit 680,Uz)::(nat_lit 681,Uy)::(nat_lit 687,Ux)::(nat_lit 688,Uw)::(nat_lit 694,Uv)::(nat_lit 695,Uu)::(nat_lit 699,Ut)::(nat_lit 700,Us)::(nat_lit 706,Ur)::(nat_lit 707,Uq)::(nat_lit 713,Uo)::(nat_lit 714,Um)::(nat_lit 720,Ul)::(nat_lit 721,Uk)::[]
noncomputable def asK:List Addr:=[2,3,20,21,27,28,32,33,42,43,44,55,56,67,68,79,80,91,92,103,104,115,116,127,128,139,140,151,152,163,164,172,173,177,178,184,185,191,192,196,197,203,204,210,211,217,218,224,225,231,232,238,239,245,246,252,253,259,260,266,267,273,274,280,281,285,286,292,293,297,298,304,305,309,310,314,315,321,322,326,327,333,334,340,341,347,348,354,355,361,362,368,369,375,376,380,381,385,386,392,393,406,407,413,414,420,421,427,428,434,435,441,442,443,449,450,456,457,463,464,470,471,477,478,484,485,489,490,496,497,503,504,510,511,517,518,524,525,527,528,529,530,536,537,550,551,552,558,559,565,566,572,573,577,578,579,585,586,590,591,595,596,602,603,609,610,614,615,617,618,626,627,633,634,640,641,645,646,652,653,659,660,666,667,673,674,680,681,687,688,694,695,699,700,706,707,713,714,720,721]
def tsK:List Addr:=[269,187]
theorem hkE:∀ P,asK=(Kf P).map (·.1):=fun _=>by kernel_rfl
noncomputable def qv:Program:={ PySem.Challenge.pw_sluice_k66_whole_closing_keeps_days with main:={ PySem.Challenge.pw_sluice_k66_whole_closing_keeps_days.main with body:=[top0 87] } }
def JG:List Str:="_wall"::"MOST_WATER"::"LONGEST_NAME"::"LETTERS"::"is_water"::"is_name"::"SluiceError"::"NoRiver"::"NoReach"::"NoLicence"::"NoNumber"::"NoHolder"::"NotYours"::"TooMuch"::"Full"::"NoPond"::"NoDay"::"MOST_REACHES"::"MOUTH"::"comes_to_mouth"::"is_river"::"way_of"::"tops_first"::"mouths_of"::"stretch_of"::"natural_of"::"flows_of"::"LAST_DAY"::"is_licence"::"reaches_of"::"day_filed"::"start_of"::"gives_back"::"most_of"::"with_most"::"ranked"::"groups_of"::"wants_of"::"count_ways"::"whole_turns"::"draw"::"take_whole_turns"::"take_one_turn"::"deal_turns"::"deal"::"WHOLE"::"pond_start"::"look_at_let"::"let_out"::"pond_calls"::"evening"::"morning_of"::"moves_of"::"used_of"::"day_of"::"MOST_LICENCES"::"look_at_name"::"Roll"::"MOST_PONDS"::"greatest_of"::"Book"::"_law_cell_at"::"_law_whole"::"_law_pebble"::"_law_pebbles"::"_law_river"::"_law_walk"::"_law_amount"::"_law_free"::"_law_is_shown"::"_law_dealt"::"_law_filed"::"_law_run"::"_law_closed"::"_law_deed"::[]
end
noncomputable section
noncomputable def PG:Program:=PySem.Challenge.rw_sluice_k66_whole_closing_keeps_days.row.toRowW.prog
noncomputable def zs (h:Heap)(k:Nat)(o:OsState):Shared:=⟨h,#[],{},k,o⟩
theorem hp1:∀ w:World,(PySem.W.fencedOpening PySem.treeTable PG w 11246).map (fun s=>(s.heap,s.gens,s.drawn,s.toks))=some (H0 w.params,#[],{},181):=by
 intro w;kernel_rfl
theorem hp2:∀ w:World,((H0 w.params).isNs mainGlobals&& (#[]:Array GenState).size ==0,(H0 w.params).objs.size,(H0 w.params).nsMap mainGlobals "__annotations__")=(true,11,some (Value.ref 6)):=by
 intro w;kernel_rfl
def BI:List Stmt:=PySem.W.behindTheImports PG
def evT:Env:={ scope:=PG.main.scope,locals:=mainNs,globals:=mainNs,cells:=[],code:=Value.ref 13,frame:=some 14 }
def cT:Code:=.body BI evT
theorem hp3a:∀ (w:World)(os:OsState),PySem.W.topGo PySem.treeTable PG w 11 (some (Value.ref 6)) 12 (zs (H0 w.params) 181 os) (topStub PG)=some ((zs (Ha w.params) 187 os),⟨denote PySem.treeTable cT,cT,(⟨0,0,0,0⟩:Pos),[topFrame (⟨0,0,0,0⟩:Pos)]⟩):=by
 intro w os;kernel_rfl
theorem hp3b:∀ (w:World)(os:OsState),segRun PySem.treeTable PG w 11 (some (Value.ref 6)) 1 20 (zs (Ha w.params) 187 os) (PySem.W.blockOf BI evT cT (⟨0,0,0,0⟩:Pos) [topFrame (⟨0,0,0,0⟩:Pos)])=some (.next,(zs (Hb w.params) 187 os),cT,(⟨0,0,0,0⟩:Pos)):=by
 intro w os;kernel_rfl
theorem hq1:∀ (w:World)(os:OsState),segRun PySem.treeTable PG w 11 (some (Value.ref 6)) 1 3402 (zs (Hb w.params) 187 os) (piecesOf (BI.take 49) evT cT (⟨0,0,0,0⟩:Pos) [topFrame (⟨0,0,0,0⟩:Pos)])=some (.next,(zs (Hm0 w.params) 605 os),cT,(⟨129,0,136,16⟩:Pos)):=by
 intro w os;kernel_rfl
theorem hq2:∀ (w:World)(os:OsState),segRun PySem.treeTable PG w 11 (some (Value.ref 6)) 1 1434 (zs (Hm0 w.params) 605 os) (piecesOf ((BI.drop 49).take 19) evT cT (⟨129,0,136,16⟩:Pos) [topFrame (⟨0,0,0,0⟩:Pos)])=some (.next,(zs (Hm1 w.params) 939 os),cT,(⟨221,0,308,67⟩:Pos)):=by
 intro w os;kernel_rfl
theorem hq3:∀ (w:World)(os:OsState),segRun PySem.treeTable PG w 11 (some (Value.ref 6)) 1 812 (zs (Hm1 w.params) 939 os) (piecesOf (((BI.drop 49).drop 19).take 4) evT cT (⟨221,0,308,67⟩:Pos) [topFrame (⟨0,0,0,0⟩:Pos)])=some (.next,(zs (Hm2 w.params) 1063 os),cT,(⟨314,0,376,21⟩:Pos)):=by
 intro w os;kernel_rfl
theorem hr3:∀ (w:World)(os:OsState),topRun PySem.treeTable PG w 11 (some (Value.ref 6)) 712 (zs (Hm2 w.params) 1063 os) (restOf (((BI.drop 49).drop 19).drop 4) evT cT (⟨314,0,376,21⟩:Pos) [topFrame (⟨0,0,0,0⟩:Pos)])=some (zs (H1 w.params) 1242 os):=by
 intro w os;kernel_rfl
theorem hr2:∀ (w:World)(os:OsState),topRun PySem.treeTable PG w 11 (some (Value.ref 6)) (812+712) (zs (Hm1 w.params) 939 os) (restOf ((BI.drop 49).drop 19) evT cT (⟨221,0,308,67⟩:Pos) [topFrame (⟨0,0,0,0⟩:Pos)])=some (zs (H1 w.params) 1242 os):=fun w os=>by
 have h:=piece_app (hq3 w os) (hr3 w os);rwa [afv] at h
theorem hr1:∀ (w:World)(os:OsState),topRun PySem.treeTable PG w 11 (some (Value.ref 6)) (1434+(812+712)) (zs (Hm0 w.params) 605 os) (restOf (BI.drop 49) evT cT (⟨129,0,136,16⟩:Pos) [topFrame (⟨0,0,0,0⟩:Pos)])=some (zs (H1 w.params) 1242 os):=fun w os=>by
 have h:=piece_app (hq2 w os) (hr2 w os);rwa [afv] at h
theorem hr0:∀ (w:World)(os:OsState),topRun PySem.treeTable PG w 11 (some (Value.ref 6)) (3402+(1434+(812+712))) (zs (Hb w.params) 187 os) (restOf BI evT cT (⟨0,0,0,0⟩:Pos) [topFrame (⟨0,0,0,0⟩:Pos)])=some (zs (H1 w.params) 1242 os):=fun w os=>by
 have h:=piece_app (hq1 w os) (hr1 w os);rwa [afv] at h
theorem hp3:∀ (w:World)(os:OsState),topRun PySem.treeTable PG w 11 (some (Value.ref 6)) (12+(20+(3402+(1434+(812+712))))) (zs (H0 w.params) 181 os) (topStub PG)=some (zs (H1 w.params) 1242 os):=fun w os=>PySem.W.go_top (hp3a w os) (PySem.W.piece_block (hp3b w os) (hr0 w os))
theorem hp4:∀ w:World,(fun os=>((PySem.W.staticsOk (importedModules PG.main.body) (H0 w.params) (H1 w.params) && PySem.W.namesBound PG (H1 w.params) && PySem.W.gensDone (zs (H1 w.params) 1242 os) && PySem.W.laidKept (H0 w.params) (H1 w.params)),PySem.W.openSeen qv JG (importedModules PG.main.body) (fun s=>xlAt My.qv [] s&& recOk (PySem.W.RowW.records PySem.Challenge.rw_sluice_k66_whole_closing_keeps_days.row.toRowW) s) true (zs (H1 w.params) 1242 os),(PySem.W.Hook.obs (kmHook My.Kf My.asK My.hkE My.tsK)) (zs (H1 w.params) 1242 os)))=fun _=>(true,PySem.W.openGood qv JG,(PySem.W.Hook.val (kmHook My.Kf My.asK My.hkE My.tsK)) w):=by
 intro w;kernel_rfl
theorem hlE:PySem.W.LeftO PySem.Challenge.rw_sluice_k66_whole_closing_keeps_days.row.toRowW.prog qv My.JG (fun s=>xlAt My.qv [] s&& recOk (PySem.W.RowW.records PySem.Challenge.rw_sluice_k66_whole_closing_keeps_days.row.toRowW) s) (PySem.W.Hook.obs (kmHook My.Kf My.asK My.hkE My.tsK)) (PySem.W.Hook.val (kmHook My.Kf My.asK My.hkE My.tsK)) 11246:=PySem.W.LeftO.of_pieces hp1 hp2 hp3 (by decide) hp4
end
end My
namespace L2
open PySem PySem.Spec PyProof.Rows
abbrev Key:=Sum Int Str
def K1:Key->Value->Bool
 | .inl k,v=>Value.isInt k v
 | .inr x,v=>Value.isStrOf x v
def keyH (w:World):Key->Int
 | .inl k=>hashInt k
 | .inr x=>hashStr w x
theorem eX:∀ {k:Key}{v:Value},K1 k v=true->(∃ i t,k=Sum.inl i/\v=Value.int i t)\/(∃ x t,k=Sum.inr x/\v=Value.str x t)
 | .inl i,v,h=>by
  obtain ⟨t,e⟩:=Value.isInt_shape (k:=i) (v:=v) h;exact .inl ⟨i,t,rfl,e⟩
 | .inr x,v,h=>by
  obtain ⟨t,e⟩:=Value.isStrOf_shape (x:=x) (v:=v) h;exact .inr ⟨x,t,rfl,e⟩
theorem Ov (i:Int)(t:Tok):K1 (.inl i) (.int i t)=true:=by simp [K1,Value.isInt]
theorem Ou (x:Str)(t:Tok):K1 (.inr x) (.str x t)=true:=by simp [K1,Value.isStrOf]
theorem abx (a b:Int):decide ((Sum.inl a:Key)=Sum.inl b)=(a ==b):=by
 by_cases e:a=b
 ·subst e;simp
 ·have h:¬ (Sum.inl a:Key)=Sum.inl b:=fun q=>e (Sum.inl.inj q);rw [decide_eq_false h];exact (beq_eq_false_iff_ne.mpr e).symm
theorem abt (a b:Str):decide ((Sum.inr a:Key)=Sum.inr b)=decide (a=b):=by
 by_cases e:a=b
 ·subst e;simp
 ·have h:¬ (Sum.inr a:Key)=Sum.inr b:=fun q=>e (Sum.inr.inj q);rw [decide_eq_false h,decide_eq_false e]
theorem abw (a:Int)(b:Str):decide ((Sum.inl a:Key)=Sum.inr b)=false:=decide_eq_false (fun q=>nomatch q)
theorem abu (a:Str)(b:Int):decide ((Sum.inr a:Key)=Sum.inl b)=false:=decide_eq_false (fun q=>nomatch q)
def iD (prog:Program)(w:World):PySem.KeyKind prog w Key where
 is:=K1;hash:=keyH w;inj:=fun v a b ha hb=>by
  rcases eX ha with ⟨i,t,rfl,rfl⟩ | ⟨x,t,rfl,rfl⟩
  ·rcases eX hb with ⟨j,u,rfl,e⟩ | ⟨y,u,rfl,e⟩
   ·injection e with e1 _;rw [e1]
   ·exact nomatch e
  ·rcases eX hb with ⟨j,u,rfl,e⟩ | ⟨y,u,rfl,e⟩
   ·exact nomatch e
   ·injection e with e1 _;rw [e1]
 byValue:=fun k v h=>by
  rcases eX h with ⟨i,t,rfl,rfl⟩ | ⟨x,t,rfl,rfl⟩<;>rfl
 pyHash:=fun hv h=>by
  rcases eX hv with ⟨i,t,rfl,rfl⟩ | ⟨x,t,rfl,rfl⟩
  ·exact wpAny_pyHash_int h
  ·exact wpAny_pyHash_str h
 eqBool:=fun hu hv h=>by
  rcases eX hu with ⟨i,t,rfl,rfl⟩ | ⟨x,t,rfl,rfl⟩
  ·rcases eX hv with ⟨j,u,rfl,rfl⟩ | ⟨y,u,rfl,rfl⟩
   ·rw [abx] at h;exact wpAny_eqBool_int h
   ·rw [abw] at h;exact SeqAt.EqAt.int_str i t y u _ _ _ _ h
  ·rcases eX hv with ⟨j,u,rfl,rfl⟩ | ⟨y,u,rfl,rfl⟩
   ·rw [abu] at h;exact SeqAt.EqAt.str_int x t j u _ _ _ _ h
   ·rw [abt] at h;exact wpAny_eqBool_str h
 «strs»:=fun k x t v h=>by
  rcases eX h with ⟨i,u,rfl,e⟩ | ⟨y,u,rfl,e⟩
  ·exact nomatch e
  ·injection e with e1 _;subst e1;cases v <;>rfl
theorem HW (prog:Program)(w:World)(i:Int)(t:Tok):(iD prog w).is (.inl i) (.int i t)=true:=Ov i t
theorem HS (prog:Program)(w:World)(x:Str)(t:Tok):(iD prog w).is (.inr x) (.str x t)=true:=Ou x t
inductive V where
 | non| bl (b:Bool) | int (i:Int) | str (x:Str) | byt (b:Array UInt8) | flt (b:UInt64) | ref (a:Addr) | ty (n:String)
 deriving DecidableEq
def RelV:V->Value->Prop
 | .non,u=>u=Value.none
 | .bl b,u=>u=Value.bool b
 | .int i,u=>∃ t,u=Value.int i t
 | .str x,u=>∃ t,u=Value.str x t
 | .byt b,u=>∃ t,u=Value.bytes b t
 | .flt b,u=>∃ t,u=Value.float b t
 | .ref a,u=>u=Value.ref a
 | .ty n,u=>u=Value.type n
abbrev Vals:List V->List Value->Prop:=Paired RelV
theorem Vals.length {xs:List V}{us:List Value}(r:Vals xs us):xs.length=us.length:=Paired.length r
theorem Vals.get:∀ {xs:List V}{us:List Value}{i:Nat}{x:V},Vals xs us->xs[i]?=some x->∃ u,us[i]?=some u/\RelV x u
 | _,_,_,_,.nil,e=>by simp at e
 | _,_,0,_,.cons r _,e=>by simp at e;subst e;exact ⟨_,rfl,r⟩
 | _,_,i+1,x,.cons _ t,e=>by
  obtain ⟨u,h1,h2⟩:=Vals.get (i:=i) (x:=x) t (by simpa using e);exact ⟨u,by simpa using h1,h2⟩
theorem Vals.set {x:V}{u:Value}(r:RelV x u):∀ {xs:List V}{us:List Value}(i:Nat),Vals xs us->Vals (xs.set i x) (us.set i u)
 | _,_,_,.nil=>.nil
 | _,_,0,.cons _ t=>.cons r t
 | _,_,i+1,.cons q t=>.cons q (Vals.set r i t)
theorem Vals.append:∀ {xs ys:List V}{us ws:List Value},Vals xs us->Vals ys ws->Vals (xs++ys) (us++ws)
 | _,_,_,_,.nil,s=>s
 | _,_,_,_,.cons r t,s=>.cons r (Vals.append t s)
theorem Vals.take:∀ {xs:List V}{us:List Value}(n:Nat),Vals xs us->Vals (xs.take n) (us.take n)
 | _,_,0,_=>.nil
 | _,_,_+1,.nil=>.nil
 | _,_,n+1,.cons r t=>.cons r (Vals.take n t)
theorem Vals.drop:∀ {xs:List V}{us:List Value}(n:Nat),Vals xs us->Vals (xs.drop n) (us.drop n)
 | _,_,0,r=>r
 | _,_,_+1,.nil=>.nil
 | _,_,n+1,.cons _ t=>Vals.drop n t
def QD:Option V->Option Value->Prop
 | some v,some u=>RelV v u
 | none,none=>True
 | _,_=>False
def KV {κ:Type}:List (κ × V)->List (κ × Value)->Prop:=Paired fun (p:κ × V)(q:κ × Value)=>p.1=q.1/\RelV p.2 q.2
def kV:Key->V
 | .inl i=>.int i
 | .inr x=>.str x
inductive HO where
  | lst (xs:List V)
  | tup (xs:List V)
  | dK (kvs:List (Key × V)) | dT (kvs:List (List Key × V))
  | set (S:Int->Bool) (n:Nat)
  | ins (C dx:Addr) (fs:List (Str × V))
  | own (x:Addr)
  | xd (fs:List (Str × V))
  | met (f x:Addr)
  | rng (lo hi:Int)
  | frz (o:Obj) (u:HO)
  | tbl (ps:Array Value)
  | ext (φ:Heap->Prop)
abbrev Hp:=Addr->Option HO
def upd (H:Hp)(a:Addr)(o:HO):Hp:=fun b=>if b=a then some o else H b
theorem aR {H:Hp}{a:Addr}{o:HO}:upd H a o a=some o:=by unfold upd;rw [if_pos rfl]
theorem aL {H:Hp}{a b:Addr}{o:HO}(h:b≠a):upd H a o b=H b:=by unfold upd;rw [if_neg h]
theorem aV {H:Hp}{a b:Addr}{o:HO}(h:H a=some o)(h':H b=none):a≠b:=by
 intro e;subst e;rw [h] at h';cases h'
section
variable (P:Program)(w:World)
def iC (H:Hp)(h:Heap)(a:Addr):HO->Prop
 | .lst xs=>xs.length<=sizeLine/\∃ (its:List Value)(n:Nat),Vals xs its/\h.get? a=some { cls:=.type "list",data:=.seq its.toArray n }
 | .tup xs=>xs.length<=sizeLine/\∃ its:List Value,Vals xs its/\IsTup h a its.toArray
 | .dK kvs=>kvs.length<=sizeLine/\(a ==sysModules)=false/\∃ vs,KV kvs vs/\h.DictOf (iD P w) a vs
 | .dT kvs=>kvs.length<=sizeLine/\(a ==sysModules)=false/\∃ xs:List (List Key × Addr × Value),
   Paired (fun (p:List Key × V)(q:List Key × Addr × Value)=>p.1=q.1/\H q.2.1=some (.tup (p.1.map kV))/\RelV p.2 q.2.2) kvs xs /\
   ∃ o es ep,h.get? a=some o/\o.ExactDict/\o.data=.dict es ep/\es.toList=xs.map (entryOfKey (tupleKind (iD P w)))/\(xs.map (·.1)).Nodup
 | .set S n=>h.SetOf (intKind P w) a S n
 | .ins C dx fs=>H dx=some (.own a)/\fs.length<=1000/\dx≠a/\h.get? a=some (instObj C dx) /\
   ∃ mA,h.Ns1 dx mA/\(∀ f,QD (fs.lookup f) (mA f))/\PySem.Within mA (fs.map (·.1))
 | .own _=>∃ o,h.get? a=some o
 | .xd fs=>∃ mA,h.Ns1 a mA/\∀ f,QD (fs.lookup f) (mA f)
 | .rng lo hi=>∃ t u v,h.get? a=some { cls:=.type "range",data:=.fields #[.int lo t,.int hi u,.int 1 v] }
 | .frz o u=>h.get? a=some o/\iC H h a u
 | .tbl ps=>h.get? a=some { cls:=.none,data:=.fields ps }
 | .met f x=>h.get? a=some (methodObj (.ref f) (.ref x))
 | .ext φ=>φ h/\(∃ o,h.get? a=some o)/\∀ h1 h2:Heap,φ h1->(∀ o,h1.get? a=some o->h2.get? a=some o)->φ h2
def HOk (H:Hp)(h:Heap):Prop:=∀ a o,H a=some o->iC P w H h a o
end
section
variable {P:Program}{w:World}{H H':Hp}{h h':Heap}{a:Addr}{o:HO}
theorem iC.lt (x:iC P w H h a o):a<h.objs.size:=by
 cases o with
 | lst xs=>obtain ⟨_,_,_,_,e⟩:=x;exact aei e
 | tup xs=>obtain ⟨_,_,_,p⟩:=x;exact p.lt
 | dK kvs=>obtain ⟨_,_,_,_,o,_,_,e,_⟩:=x;exact aei e
 | dT kvs=>obtain ⟨_,_,_,_,o,_,_,e,_⟩:=x;exact aei e
 | set S n=>obtain ⟨o,_,_,_,e,_⟩:=x;exact aei e
 | ins C dx fs=>obtain ⟨_,_,_,e,_⟩:=x;exact aei e
 | own y=>obtain ⟨_,e⟩:=x;exact aei e
 | xd fs=>obtain ⟨_,⟨_,_,_,e,_⟩,_⟩:=x;exact aei e
 | rng lo hi=>obtain ⟨_,_,_,e⟩:=x;exact aei e
 | frz ob u=>obtain ⟨e,_⟩:=x;exact aei e
 | tbl ps=>exact aei (show h.get? a=some _ from x)
 | met f y=>exact aei (show h.get? a=some _ from x)
 | ext φ=>obtain ⟨_,⟨_,e⟩,_⟩:=x;exact aei e
theorem Paired.adK {α β:Type}{F G:α->β->Prop}:∀ {l₁:List α}{l₂:List β},Paired F l₁ l₂->(∀ a b,F a b->G a b)->Paired G l₁ l₂
 | _,_,.nil,_=>.nil
 | _,_,.cons r t,f=>.cons (f _ _ r) (Paired.adK t f)
theorem iC.stay (x:iC P w H h a o)(k:∀ b u,(b=a\/H b=some (.own a))->h.get? b=some u->h'.get? b=some u)
  (ho:∀ b,H b=some (.own a)->H' b=some (.own a))(ht:∀ b xs,H b=some (.tup xs)->H' b=some (.tup xs)):iC P w H' h' a o:=by
 induction o with
 | lst xs=>obtain ⟨z,its,n,r,e⟩:=x;exact ⟨z,its,n,r,k _ _ (.inl rfl) e⟩
 | tup xs=>obtain ⟨z,its,r,ob,e,c⟩:=x;exact ⟨z,its,r,ob,k _ _ (.inl rfl) e,c⟩
 | dK kvs=>obtain ⟨z,y,vs,r,ob,es,ep,e,c⟩:=x;exact ⟨z,y,vs,r,ob,es,ep,k _ _ (.inl rfl) e,c⟩
 | dT kvs =>
  obtain ⟨z,y,xs,r,ob,es,ep,e,c⟩:=x;exact ⟨z,y,xs,Paired.adK r fun p q z=>⟨z.1,ht _ _ z.2.1,z.2.2⟩,ob,es,ep,k _ _ (.inl rfl) e,c⟩
 | set S n=>obtain ⟨ob,es,ep,t,e,c⟩:=x;exact ⟨ob,es,ep,t,k _ _ (.inl rfl) e,c⟩
 | ins C dx fs =>
  obtain ⟨d,z,ne,e,mA,⟨od,es,ep,e2,c⟩,r⟩:=x;exact ⟨ho _ d,z,ne,k _ _ (.inl rfl) e,mA,⟨od,es,ep,k _ _ (.inr d) e2,c⟩,r⟩
 | own y=>obtain ⟨ob,e⟩:=x;exact ⟨ob,k _ _ (.inl rfl) e⟩
 | xd fs=>obtain ⟨mA,⟨od,es,ep,e,c⟩,r⟩:=x;exact ⟨mA,⟨od,es,ep,k _ _ (.inl rfl) e,c⟩,r⟩
 | rng lo hi=>obtain ⟨t,u,v,e⟩:=x;exact ⟨t,u,v,k _ _ (.inl rfl) e⟩
 | frz ob u ih=>obtain ⟨e,q⟩:=x;exact ⟨k _ _ (.inl rfl) e,ih q⟩
 | tbl ps =>
  have e:h.get? a=some { cls:=.none,data:=.fields ps }:=x;show h'.get? a=some { cls:=.none,data:=.fields ps };exact k a _ (.inl rfl) e
 | met f y =>
  have e:h.get? a=some (methodObj (.ref f) (.ref y)):=x;show h'.get? a=some (methodObj (.ref f) (.ref y));exact k a _ (.inl rfl) e
 | ext φ=>obtain ⟨p,⟨o,e⟩,st⟩:=x;exact ⟨st _ _ p fun o q=>k _ _ (.inl rfl) q,⟨o,k _ _ (.inl rfl) e⟩,st⟩
theorem HOk.lt (x:HOk P w H h)(e:H a=some o):a<h.objs.size:=(x a o e).lt
theorem HOk.fresh (x:HOk P w H h)(e:h.objs.size<=a):H a=none:=by
 cases q:H a with
 | none=>rfl
 | some u=>exact absurd (aeC (x.lt q) e) (ae3 _)
theorem HOk.kept (x:HOk P w H h)(k:∀ b u,h.get? b=some u->h'.get? b=some u):HOk P w H h':=fun a o e =>
 (x a o e).stay (fun b u _ q=>k b u q) (fun _ q=>q) fun _ _ q=>q
theorem HOk.laid (x:HOk P w H h)(k:∀ b u,h.get? b=some u->h'.get? b=some u)(hp:h.objs.size<=a)(new:iC P w (upd H a o) h' a o):HOk P w (upd H a o) h':=fun b u e=>by
 have hn:=x.fresh hp;by_cases hb:b=a
 ·subst hb;rw [aR] at e;cases e;exact new
 ·rw [aL hb] at e;exact (x b u e).stay (fun c v _ q=>k c v q) (fun c q=>by rw [aL (aV q hn)];exact q) fun c xs q=>by rw [aL (aV q hn)];exact q
end
def Rd (H:Hp)(a:Addr)(u:HO):Prop:=H a=some u\/∃ o,H a=some (.frz o u)
theorem Rd.ok {P:Program}{w:World}{H:Hp}{h:Heap}{a:Addr}{u:HO}(r:Rd H a u)(x:HOk P w H h):iC P w H h a u:=by
 rcases r with r| ⟨o,r⟩
 ·exact x a u r
 ·obtain ⟨_,q⟩:=x a _ r;exact q
def Mut:Option HO->Prop
 | some (.lst _)=>True
 | some (.dK _)=>True
 | some (.dT _)=>True
 | some (.set _ _)=>True
 | some (.ins _ _ _)=>True
 | some (.ext _)=>True
 | _=>False
section
variable {P:Program}{w:World}{H:Hp}{h h':Heap}{x e:Addr}{o':HO}
theorem HOk.write (ok:HOk P w H h)(mu:Mut (H x))(he:e=x\/H e=some (.own x))(k:∀ b u,b≠e->h.get? b=some u->h'.get? b=some u)(heo:∃ u,h'.get? e=some u)
  (new:iC P w (upd H x o') h' x o'):HOk P w (upd H x o') h':=fun b u q=>by
 have nown:∀ c y,H c=some (.own y)->c≠x:=fun c y r z=>by subst z;rw [r] at mu;exact mu
 have ntup:∀ c xs,H c=some (.tup xs)->c≠x:=fun c xs r z=>by subst z;rw [r] at mu;exact mu
 by_cases hb:b=x
 ·subst hb;rw [aR] at q;cases q;exact new
 ·rw [aL hb] at q;by_cases hbe:b=e
  ·have q':H b=some (.own x):=by
    rcases he with z| z
    ·exact absurd (hbe.trans z) hb
    ·rw [hbe];exact z
   rw [q] at q';cases q';obtain ⟨v,hv⟩:=heo;exact ⟨v,by rw [hbe];exact hv⟩
  ·refine (ok b u q).stay (fun c v hc r=>k c v ?_ r) (fun c r=>by rw [aL (nown c b r)];exact r) fun c xs r=>by rw [aL (ntup c xs r)];exact r
   rcases hc with rfl| hc
   ·exact hbe
   ·rintro rfl;rcases he with z| z
    ·exact nown c b hc z
    ·rw [hc] at z;cases z;exact hb rfl
end
structure Un (fs ex:List Addr)(H H':Hp)(h h':Heap):Prop where
 keep:∀ b o,h.get? b=some o->H b=none->b ∉ fs->b ∉ ex->h'.get? b=some o
 slot:∀ b o,h.get? b=some o->H b=none->b∈fs->b ∉ ex->∃ sl,h'.get? b=some { o with slots:=sl }
 free:∀ b o,h.get? b=some o->H b=none->b ∉ ex->H' b=none
 there:∀ b o,h.get? b=some o->b ∉ ex->∃ o',h'.get? b=some o'
 tups:∀ b xs,H b=some (.tup xs)->H' b=some (.tup xs)
 frzs:∀ b o u,H b=some (.frz o u)->H' b=some (.frz o u)
 tbls:∀ b ps,H b=some (.tbl ps)->∃ more,H' b=some (.tbl (ps++more))
section
variable {fs fs' ex ex':List Addr}{H H1 H2:Hp}{h h1 h2 h':Heap}{a x e:Addr}{o:HO}
theorem Un.any (u:Un fs ex H H1 h h1){b:Addr}{ob:Obj}(q:h.get? b=some ob)(n:H b=none)(hx:b ∉ ex):∃ sl,h1.get? b=some { ob with slots:=sl }:=by
 by_cases hb:b∈fs
 ·exact u.slot b ob q n hb hx
 ·exact ⟨ob.slots,u.keep b ob q n hb hx⟩
theorem Un.kept (k:∀ b u,h.get? b=some u->h'.get? b=some u):Un fs ex H H h h' :=
 ⟨fun b ob q _ _ _=>k b ob q,fun b ob q _ _ _=>⟨ob.slots,k b ob q⟩,fun _ _ _ n _=>n,fun b ob q _=>⟨ob,k b ob q⟩,fun _ _ q=>q,fun _ _ _ q=>q,fun _ ps q=>⟨#[],by rw [q];simp⟩⟩
theorem Un.refl:Un fs ex H H h h:=Un.kept fun _ _ q=>q
theorem Un.laid (k:∀ b u,h.get? b=some u->h'.get? b=some u)(hp:h.objs.size<=a)(hn:H a=none):Un fs ex H (upd H a o) h h' where
 keep:=fun b u q _ _ _=>k b u q;slot:=fun b u q _ _ _=>⟨u.slots,k b u q⟩;free:=fun b u q n _=>by rw [aL (aeN (aeC (aei q) hp))];exact n
 there:=fun b u q _=>⟨u,k b u q⟩;tups:=fun b xs q=>by rw [aL (aV q hn)];exact q
 frzs:=fun b u xs q=>by rw [aL (aV q hn)];exact q
 tbls:=fun b ps q=>⟨#[],by rw [aL (aV q hn),q];simp⟩
theorem Un.write (mu:Mut (H x))(he:e=x\/H e=some (.own x))(k:∀ b u,b≠e->h.get? b=some u->h'.get? b=some u)(heo:∃ u,h'.get? e=some u):Un fs ex H (upd H x o) h h':=by
 have hx:∀ b,H b=none->b≠x:=fun b n z=>by subst z;rw [n] at mu;exact mu
 have hb:∀ b,H b=none->b≠e:=fun b n z=>by
  subst z;rcases he with r| r
  ·exact hx b n r
  ·rw [n] at r;cases r
 have hm:∀ b u,H b=some u->¬ Mut (some u)->b≠x:=fun b u q nm z=>by subst z;rw [q] at mu;exact nm mu
 refine ⟨fun b u q n _ _=>k b u (hb b n) q,fun b u q n _ _=>⟨u.slots,k b u (hb b n) q⟩,fun b u q n _=>by rw [aL (hx b n)];exact n,fun b u q _=>?_,
  fun b xs q=>by rw [aL (hm b _ q fun z=>z)];exact q,fun b u xs q=>by rw [aL (hm b _ q fun z=>z)];exact q,fun b ps q=>⟨#[],by rw [aL (hm b _ q fun z=>z),q];simp⟩⟩
 by_cases hbe:b=e
 ·subst hbe;exact heo
 ·exact ⟨u,k b u hbe q⟩
end
def trk (h:Heap)(H:Hp):List Addr:=(List.range h.objs.size).filter fun a=>(H a).isSome
def QJ (h:Heap)(H:Hp):Heap:=PySem.W.hideAll h (trk h H)
theorem Pb (h:Heap)(H:Hp):(QJ h H).objs.size=h.objs.size:=PySem.W.hideAll_size _ _
theorem R6 {h:Heap}{H:Hp}{b:Addr}{o:Obj}(e:h.get? b=some o)(n:H b=none):(QJ h H).get? b=some o:=
 PySem.W.hideAll_get _ e fun hm=>by
  have q:(H b).isSome=true:=(List.mem_filter.mp hm).2;rw [n] at q;simp at q
theorem Zx {h:Heap}{H:Hp}{b:Addr}{o:Obj}(e:(QJ h H).get? b=some o):h.get? b=some o/\H b=none:=by
 have e':h.get? b=some o:=PySem.W.of_hideAll (trk h H) e;refine ⟨e',?_⟩;cases q:H b with
 | none=>rfl
 | some x =>
  have hm:b∈trk h H:=List.mem_filter.mpr ⟨aeB.mpr (aei e'),by simp [q]⟩;have z:(QJ h H).get? b=none:=PySem.W.hideAll_none (trk h H) hm;rw [z] at e;cases e
structure Mod (K:PySem.W.Frag)(mg:Str->Option Value)(base:Heap):Prop where
 kin:K.In base
 glob:base.Ns mainGlobals mg
 blt:∃ mb,base.Ns builtinsNs mb/\∀ x:Str,x≠"__name__"->mb x=bootBuiltins x
 nolimit:base.NoLimit
structure Cx where
 prog:Program
 w:World
 K:PySem.W.Frag
 mg:Str->Option Value
 base:Heap
 A:Around
 N:List Str
 s₀:Shared
 H₀:Hp
 env:Env
 outer:List Env
 stack:List Env
 ex:List Addr
 fn:Str->Bool
 calm:Bool
 pn:List (Addr × Obj)
 xe:Value->Shared->Prop
def frs (l:List Env):List Addr:=l.filterMap (·.frame)
abbrev Cx.fs (X:Cx):List Addr:=frs X.outer
def Vis (sc:Scope)(x:Str):Prop:=sc.names.lookup x=some .local\/sc.names.lookup x=some .cell\/sc.names.lookup x=some .free
def Loc (sc:Scope)(x:Str):Prop:=sc.names.lookup x=some .local\/sc.names.lookup x=some .cell
def Look (env:Env)(h:Heap)(m:Str->Option Value)(x:Str)(u:Value):Prop:=
 (env.kindOf x=some .local/\m x=some u)\/((env.kindOf x=some .cell\/env.kindOf x=some .free)/\∃ c,env.cells.lookup x=some c/\h.IsCell c (some u))
structure Cx.Ok (X:Cx):Prop where
 mod:Mod X.K X.mg X.base
 kind:X.env.scope.kind=.function
 glob:X.env.globals=mainGlobals
 blt:X.env.builtins=builtinsNs
 above:X.s₀.heap.objs.size<=X.env.locals
 inj:∀ x y c,X.env.cells.lookup x=some c->X.env.cells.lookup y=some c->x=y
 has:∀ x,(X.env.kindOf x=some .cell\/X.env.kindOf x=some .free)->∃ c,X.env.cells.lookup x=some c
 cab:∀ x c,X.fn x=true->X.env.cells.lookup x=some c->X.s₀.heap.objs.size<=c
 hd:X.calm=true->X.A.handled=none
 frames:X.A.frames=some X.stack
 stk:X.stack=X.outer\/(X.stack=X.env::X.outer/\X.env.frame=some X.env.locals)
 exf:∀ b∈X.ex,b≠X.env.locals/\∀ x c,X.env.cells.lookup x=some c->c≠b
 bs:∀ b o,X.base.get? b=some o->X.s₀.heap.get? b=some o/\X.H₀ b=none
 bsz:X.base.objs.size<=X.s₀.heap.objs.size
 noex:∀ b o,X.base.get? b=some o->b ∉ X.ex
 exfs:∀ b∈X.ex,b ∉ X.fs
 Lb:X.s₀.heap.FunFrames X.base X.outer
 frf:∀ b∈X.fs,X.H₀ b=none
structure Inv (X:Cx)(pins:List (Addr × Obj))(σ:List (Option V))(H:Hp)(s:Shared):Prop where
 ok:X.Ok
 os:s.os=X.s₀.os
 bare:AllBare s.gens
 base:Un X.fs X.ex X.H₀ H X.s₀.heap s.heap
 loc:∃ m,s.heap.Ns X.env.locals m/\∀ (i:Nat)(x:Str)(v:V),X.N[i]?=some x->σ[i]?=some (some v)->Vis X.env.scope x->∃ u,RelV v u/\Look X.env s.heap m x u
 cell:∀ x c,X.env.cells.lookup x=some c->∃ v,s.heap.IsCell c v
 free:H X.env.locals=none
 freeC:∀ x c,X.env.cells.lookup x=some c->H c=none
 pin:∀ p∈X.pn++pins,s.heap.get? p.1=some p.2/\H p.1=none/\p.1≠X.env.locals/\p.1 ∉ X.fs/\∀ v,p.2.data≠.cell v
 hok:HOk X.prog X.w H s.heap
 len:σ.length=X.N.length
section
variable {X:Cx}{pins:List (Addr × Obj)}{σ:List (Option V)}{H H':Hp}{s:Shared}{h':Heap}
theorem Cx.Ok.nofr (ok:X.Ok){b:Addr}{o:Obj}(e:X.base.get? b=some o):b ∉ X.fs:=fun hb=>by
 have:=(ok.Lb.mem hb).1;rw [e] at this;cases this
theorem Inv.bs (I:Inv X pins σ H s):∀ b o,X.base.get? b=some o->s.heap.get? b=some o/\H b=none:=fun b o e =>
 ⟨I.base.keep b o (I.ok.bs b o e).1 (I.ok.bs b o e).2 (I.ok.nofr e) (I.ok.noex b o e),I.base.free b o (I.ok.bs b o e).1 (I.ok.bs b o e).2 (I.ok.noex b o e)⟩
theorem Inv.bk (I:Inv X pins σ H s):∀ b o,X.base.get? b=some o->s.heap.get? b=some o:=fun b o e=>(I.bs b o e).1
theorem Inv.mod (I:Inv X pins σ H s):Mod X.K X.mg X.base:=I.ok.mod
theorem Inv.kIn (I:Inv X pins σ H s):X.K.In s.heap:=I.ok.mod.kin.keeps I.bk
theorem Inv.nolimit (I:Inv X pins σ H s):s.heap.NoLimit:=I.ok.mod.nolimit.keeps I.bk
theorem Inv.lt (I:Inv X pins σ H s):X.env.locals<s.heap.objs.size:=let ⟨_,hn,_⟩:=I.loc;hn.lt
theorem Inv.sz (I:Inv X pins σ H s):X.s₀.heap.objs.size<=s.heap.objs.size:=aeP I.ok.above (Nat.le_of_lt I.lt)
theorem Inv.nofs (I:Inv X pins σ H s){a:Addr}(h:s.heap.objs.size<=a):a ∉ X.fs:=fun hb=>by
 obtain ⟨_,o,ho,_⟩:=I.ok.Lb.mem hb;exact absurd (aeC (aei ho) (aeP I.sz h)) (ae3 _)
theorem Inv.cne (I:Inv X pins σ H s):∀ x c,X.env.cells.lookup x=some c->c≠X.env.locals:=fun x c e z=>by
 obtain ⟨v,o,ho,hd⟩:=I.cell x c e;obtain ⟨m,⟨o',es,ep,ho',hd',_⟩,_⟩:=I.loc;rw [z,ho'] at ho;cases ho;rw [hd'] at hd;cases hd
theorem Inv.Lb (I:Inv X pins σ H s):s.heap.FunFrames X.base X.outer:=by
 have all:∀ (l:List Env),(∀ b∈frs l,b∈X.fs)->X.s₀.heap.FunFrames X.base l->s.heap.FunFrames X.base l:=by
  intro l
  induction l with
  | nil=>intro _ _;trivial
  | cons env r ih =>
   intro hs hl;obtain ⟨hk,⟨L,o,hf,hn,ho,hd⟩,hr⟩:=hl;have hL:L∈X.fs:=hs L (by unfold frs;rw [afT,hf];exact aeu);obtain ⟨sl,e⟩:=I.base.slot L o ho (I.ok.frf L hL) hL fun z=>I.ok.exfs L z hL;exact ⟨hk,⟨L,_,hf,hn,e,hd⟩,ih (fun b hb=>hs b (by unfold frs;rw [afT,hf];exact aej _ hb)) hr⟩
 exact all X.outer (fun _ hb=>hb) I.ok.Lb
theorem Inv.stack (I:Inv X pins σ H s):s.heap.FunFrames X.base X.stack:=by
 rcases I.ok.stk with e| ⟨e,hf⟩
 ·rw [e];exact I.Lb
 ·rw [e];obtain ⟨m,hn,_⟩:=I.loc;refine .cons (by rw [I.ok.kind];decide) hf hn ?_ I.Lb;exact Heap.get?_none_of_le (aeP I.ok.bsz I.ok.above)
theorem Inv.LC (I:Inv X pins σ H s):∀ b∈frs X.stack,b∈X.env.locals::X.fs:=fun b hb=>by
 rcases I.ok.stk with e| ⟨e,hf⟩
 ·rw [e] at hb;exact aej _ hb
 ·rw [e] at hb;unfold frs at hb;rw [afT,hf] at hb;exact hb
theorem Inv.Dh (I:Inv X pins σ H s):∀ b∈frs X.stack,H b=none:=fun b hb=>by
 rcases aen.mp (I.LC b hb) with e| hb
 ·rw [e];exact I.free
 ·obtain ⟨_,o,ho,_⟩:=I.ok.Lb.mem hb;exact I.base.free b o ho (I.ok.frf b hb) fun z=>I.ok.exfs b z hb
theorem Inv.step {g':Array GenState}{t':Nat}{d':Drawn}{ch:List Addr}(I:Inv X pins σ H s)
  (hch:∀ b∈ch,(b∈X.ex\/X.s₀.heap.objs.size<=b)/\b≠X.env.locals/\(∀ x c,X.env.cells.lookup x=some c->c≠b)/\∀ p∈X.pn++pins,p.1≠b)
  (keep:∀ b o,b≠X.env.locals->b ∉ X.fs->b ∉ ch->s.heap.get? b=some o->H b=none->h'.get? b=some o)
  (slot:∀ b o,b≠X.env.locals->b∈X.fs->b ∉ ch->s.heap.get? b=some o->H b=none->∃ sl,h'.get? b=some { o with slots:=sl })(free:∀ b o,b ∉ ch->s.heap.get? b=some o->H b=none->H' b=none)
  (there:∀ b o,b ∉ ch->s.heap.get? b=some o->∃ o',h'.get? b=some o')
  (tups:∀ b xs,H b=some (.tup xs)->H' b=some (.tup xs))(frzs:∀ b o u,H b=some (.frz o u)->H' b=some (.frz o u))(tbls:∀ b ps,H b=some (.tbl ps)->∃ more,H' b=some (.tbl (ps++more)))
  (ns:∀ m,s.heap.Ns X.env.locals m->h'.Ns X.env.locals m)(hok:HOk X.prog X.w H' h')(hg:AllBare g'):
  Inv X pins σ H' { s with heap:=h',gens:=g',drawn:=d',toks:=t' }:=by
 have neL:∀ b o,X.s₀.heap.get? b=some o->b≠X.env.locals:=fun b o e=>aeN (aeC (aei e) I.ok.above)
 have neC:∀ b o,X.s₀.heap.get? b=some o->b ∉ X.ex->b ∉ ch:=fun b o e hx hb=>by
  rcases (hch b hb).1 with z| z
  ·exact hx z
  ·exact absurd (aeC (aei e) z) (ae3 _)
 have cellK:∀ x c,X.env.cells.lookup x=some c->∀ v,s.heap.IsCell c v->h'.IsCell c v:=fun x c e v ⟨o,ho,hd⟩=>by
  have nch:c ∉ ch:=fun z=>(hch c z).2.2.1 x c e rfl
  by_cases hc:c∈X.fs
  ·obtain ⟨sl,q⟩:=slot c o (I.cne x c e) hc nch ho (I.freeC x c e)
   exact ⟨_,q,hd⟩
  ·exact ⟨o,keep c o (I.cne x c e) hc nch ho (I.freeC x c e),hd⟩
 refine ⟨I.ok,I.os,hg,⟨fun b o e n hb hx=>?_,fun b o e n hb hx=>?_,fun b o e n hx=>?_,fun b o e hx=>?_,fun b xs e=>tups b xs (I.base.tups b xs e),fun b o xs e=>frzs b o xs (I.base.frzs b o xs e),fun b ps e=>?_⟩,?_,fun x c e=>?_,?_,fun x c e=>?_,fun p hp=>?_,hok,I.len⟩
 ·exact keep b o (neL b o e) hb (neC b o e hx) (I.base.keep b o e n hb hx) (I.base.free b o e n hx)
 ·obtain ⟨sl,e1⟩:=I.base.slot b o e n hb hx
  obtain ⟨sl',e2⟩:=slot b _ (neL b o e) hb (neC b o e hx) e1 (I.base.free b o e n hx)
  exact ⟨sl',e2⟩
 ·obtain ⟨o',e1⟩:=I.base.there b o e hx
  exact free b o' (neC b o e hx) e1 (I.base.free b o e n hx)
 ·obtain ⟨o',e1⟩:=I.base.there b o e hx
  exact there b o' (neC b o e hx) e1
 ·obtain ⟨m1,e1⟩:=I.base.tbls b ps e
  obtain ⟨m2,e2⟩:=tbls b _ e1
  exact ⟨m1++m2,by rw [e2,Array.append_assoc]⟩
 ·obtain ⟨m,hn,hl⟩:=I.loc
  refine ⟨m,ns m hn,fun i x v e1 e2 e3=>?_⟩
  obtain ⟨u,r,l⟩:=hl i x v e1 e2 e3
  refine ⟨u,r,?_⟩
  rcases l with l| ⟨k,c,e,z⟩
  ·exact .inl l
  ·exact .inr ⟨k,c,e,cellK x c e _ z⟩
 ·obtain ⟨v,z⟩:=I.cell x c e
  exact ⟨v,cellK x c e v z⟩
 ·obtain ⟨m,⟨o,_,_,ho,_⟩,_⟩:=I.loc
  exact free _ o (fun z=>(hch _ z).2.1 rfl) ho I.free
 ·obtain ⟨v,o,ho,hd⟩:=I.cell x c e
  exact free c o (fun z=>(hch c z).2.2.1 x c e rfl) ho (I.freeC x c e)
 ·obtain ⟨e,n,ne,nf,d⟩:=I.pin p hp
  have nch:p.1 ∉ ch:=fun z=>(hch p.1 z).2.2.2 p hp rfl
  exact ⟨keep p.1 p.2 ne nf nch e n,free p.1 p.2 nch e n,ne,nf,d⟩
theorem Inv.un {t':Nat}(I:Inv X pins σ H s)(u:Un X.fs [] H H' s.heap h')(hok:HOk X.prog X.w H' h'):Inv X pins σ H' { s with heap:=h',toks:=t' }:=by
 obtain ⟨m,⟨o,es,ep,ho,r⟩,_⟩:=id I.loc;obtain ⟨sl,hL⟩:=u.any ho I.free (by simp);exact I.step (g':=s.gens) (d':=s.drawn) (ch:=[]) (fun _ z=>nomatch z) (fun b o _ hb _ e n=>u.keep b o e n hb (by simp)) (fun b o _ hb _ e n=>u.slot b o e n hb (by simp)) (fun b o _ e n=>u.free b o e n (by simp)) (fun b o _ e=>u.there b o e (by simp)) u.tups u.frzs u.tbls (fun m' hm=>by
  obtain ⟨o',es',ep',ho',r'⟩:=hm;rw [ho] at ho';cases ho';exact ⟨_,es',ep',hL,r'⟩) hok I.bare
theorem Inv.call {g':Array GenState}{t':Nat}{d':Drawn}{ch:List Addr}(I:Inv X pins σ H s)(u:Un (frs X.stack) ch H H' s.heap h')(hok:HOk X.prog X.w H' h')(hg:AllBare g')
  (hch:∀ b∈ch,(b∈X.ex\/X.s₀.heap.objs.size<=b)/\b≠X.env.locals/\(∀ x c,X.env.cells.lookup x=some c->c≠b)/\∀ p∈X.pn++pins,p.1≠b):
  Inv X pins σ H' { s with heap:=h',gens:=g',drawn:=d',toks:=t' }:=by
 obtain ⟨m,⟨o,es,ep,ho,r⟩,_⟩:=id I.loc
 obtain ⟨sl,hL⟩:=u.any ho I.free fun z=>(hch _ z).2.1 rfl
 exact I.step (ch:=ch) hch (fun b o hL hb hc e n=>u.keep b o e n (fun z=>(aen.mp (I.LC b z)).elim hL hb) hc) (fun b o _ _ hc e n=>u.any e n hc) (fun b o hc e n=>u.free b o e n hc) (fun b o hc e=>u.there b o e hc) u.tups u.frzs u.tbls (fun m' hm=>by
  obtain ⟨o',es',ep',ho',r'⟩:=hm
  rw [ho] at ho';cases ho'
  exact ⟨_,es',ep',hL,r'⟩) hok hg
theorem Inv.turned {t':Nat}{it:Addr}(I:Inv X pins σ H s)(k:∀ b o,b≠it->s.heap.get? b=some o->h'.get? b=some o)(hn:H it=none)(hL:it≠X.env.locals)
  (h1:it∈X.ex\/X.s₀.heap.objs.size<=it)(h2:∀ x c,X.env.cells.lookup x=some c->c≠it)(h3:∀ p∈X.pn++pins,p.1≠it):Inv X pins σ H { s with heap:=h',toks:=t' }:=by
 have nit:∀ b u,H b=some u->b≠it:=fun b u e z=>by rw [z,hn] at e;cases e
 refine I.step (g':=s.gens) (d':=s.drawn) (ch:=[it]) (fun b hb=>?_) (fun b o _ _ hc e _=>k b o (fun z=>hc (by simp [z])) e) (fun b o _ _ hc e _=>⟨o.slots,k b o (fun z=>hc (by simp [z])) e⟩) (fun _ _ _ _ n=>n)
  (fun b o hc e=>⟨o,k b o (fun z=>hc (by simp [z])) e⟩) (fun _ _ e=>e) (fun _ _ _ e=>e) (fun b ps e=>⟨#[],by rw [e];simp⟩) (fun m hm=>?_) (fun b u e=>?_) I.bare
 ·have e:b=it:=by simpa using hb
  subst e;exact ⟨h1,hL,h2,h3⟩
 ·obtain ⟨o,es,ep,ho,r⟩:=hm;exact ⟨o,es,ep,k _ o (Ne.symm hL) ho,r⟩
 ·refine (I.hok b u e).stay (fun c v hc q=>k c v ?_ q) (fun _ q=>q) fun _ _ q=>q;rcases hc with z| z
  ·rw [z];exact nit b u e
  ·exact nit c _ z
theorem Inv.tok (I:Inv X pins σ H s)(t:Nat):Inv X pins σ H { s with toks:=t }:=I.un (h':=s.heap) (t':=t) Un.refl I.hok
theorem Inv.kept {t':Nat}(I:Inv X pins σ H s)(k:∀ b u,s.heap.get? b=some u->h'.get? b=some u):Inv X pins σ H { s with heap:=h',toks:=t' }:=I.un (Un.kept k) (I.hok.kept k)
theorem Inv.laid {a:Addr}{o:HO}{t':Nat}(I:Inv X pins σ H s)(k:∀ b u,s.heap.get? b=some u->h'.get? b=some u)(hp:s.heap.objs.size<=a)(new:iC X.prog X.w (upd H a o) h' a o):
  Inv X pins σ (upd H a o) { s with heap:=h',toks:=t' }:=I.un (Un.laid k hp (I.hok.fresh hp)) (I.hok.laid k hp new)
theorem Inv.write {x e:Addr}{o:HO}{t':Nat}(I:Inv X pins σ H s)(mu:Mut (H x))(he:e=x\/H e=some (.own x))(k:∀ b u,b≠e->s.heap.get? b=some u->h'.get? b=some u)(heo:∃ u,h'.get? e=some u)
  (new:iC X.prog X.w (upd H x o) h' x o):Inv X pins σ (upd H x o) { s with heap:=h',toks:=t' }:=I.un (Un.write mu he k heo) (I.hok.write mu he k heo new)
theorem Inv.Hv {pins':List (Addr × Obj)}(I:Inv X pins σ H s)(h:∀ p∈pins',s.heap.get? p.1=some p.2/\H p.1=none/\p.1≠X.env.locals/\p.1 ∉ X.fs/\∀ v,p.2.data≠.cell v):Inv X pins' σ H s:=
 ⟨I.ok,I.os,I.bare,I.base,I.loc,I.cell,I.free,I.freeC,fun p hp=>(aem.mp hp).elim (fun z=>I.pin p (aeL _ z)) (h p),I.hok,I.len⟩
theorem Jz {N:List Str}(hN:N.Nodup){i j:Nat}{x:Str}(a:N[i]?=some x)(b:N[j]?=some x):i=j:=by
 obtain ⟨h1,e1⟩:=acp.mp a;obtain ⟨h2,e2⟩:=acp.mp b;exact (afb hN).mp (e1.trans e2.symm)
theorem Fp {M:Model}{A:Around}{E:Value->Shared->Prop}{i:Nat}{x:Str}{v:V}{u:Value}{Q:Unit->Shared->Prop}(I:Inv X pins σ H s)(hN:X.N.Nodup)(hi:X.N[i]?=some x)(hx:Loc X.env.scope x)(r:RelV v u)
  (h:∀ s',Inv X pins (σ.set i (some v)) H s'->(∃ a,Heap.SameBut a s.heap s'.heap/\(a=X.env.locals\/X.env.cells.lookup x=some a))->Q () s')(hf:X.fn x=true\/X.env.scope.names.lookup x=some .local:=by first| exact .inl rfl| exact .inr rfl| assumption):wpAny M A (storeName X.env x u) Q E s:=by
 obtain ⟨m,hn,hl⟩:=id I.loc;have hcls:(X.env.scope.kind == .class|| (X.env.scope.kind == .module&& X.env.locals !=X.env.globals))=false:=by rw [I.ok.kind];rfl
 have hiσ:i<σ.length:=by rw [I.len];exact (acp.mp hi).1
 have cne:=I.cne;have tracked:∀ {a:Addr}{h':Heap},(∃ o,s.heap.get? a=some o/\H a=none)->Heap.SameBut a s.heap h'->HOk X.prog X.w H h':=fun {a h'} ha hs b ob e=>by
  obtain ⟨_,_,hfree⟩:=ha;refine (I.hok b ob e).stay (fun c w' hc q=>(hs.2 c ?_).trans q) (fun _ q=>q) fun _ _ q=>q;rintro rfl;rcases hc with rfl| hc
  ·rw [hfree] at e;cases e
  ·rw [hfree] at hc;cases hc
 rcases hx with hk| hk
 ·refine wpAny_storeName_local hk hn (fun h' hn' hs=>?_) hcls;obtain ⟨oL,_,_,hoL,_⟩:=id hn;refine h _ ⟨I.ok,I.os,I.bare,⟨fun b o e n hb hx=>?_,fun b o e n hb hx=>?_,I.base.free,fun b o e hx=>?_,I.base.tups,I.base.frzs,I.base.tbls⟩,⟨_,hn',fun j y v' e1 e2 e3=>?_⟩,fun y c e=>?_,I.free,I.freeC,fun p hp=>?_,tracked ⟨oL,hoL,I.free⟩ hs,by simpa using I.len⟩ ⟨_,hs,.inl rfl⟩
  ·exact (hs.2 b (aeN (aeC (aei e) I.ok.above))).trans (I.base.keep b o e n hb hx)
  ·obtain ⟨sl,e1⟩:=I.base.slot b o e n hb hx;exact ⟨sl,(hs.2 b (aeN (aeC (aei e) I.ok.above))).trans e1⟩
  ·obtain ⟨o',e1⟩:=I.base.there b o e hx;exact ⟨o',(hs.2 b (aeN (aeC (aei e) I.ok.above))).trans e1⟩
  ·by_cases hj:j=i
   ·subst hj;rw [hi] at e1;cases e1;rw [afr hiσ] at e2;cases e2;exact ⟨u,r,.inl ⟨hk,by simp⟩⟩
   ·rw [afm (Ne.symm hj)] at e2;obtain ⟨u',r',q⟩:=hl j y v' e1 e2 e3;refine ⟨u',r',?_⟩;rcases q with ⟨k,e⟩ | ⟨k,c,e,z⟩
    ·refine .inl ⟨k,?_⟩;have:y≠x:=fun e=>hj (Jz hN e1 (e ▸ hi));simp [this,e]
    ·exact .inr ⟨k,c,e,z.sameBut hs (cne y c e)⟩
  ·obtain ⟨w',z⟩:=I.cell y c e;exact ⟨w',z.sameBut hs (cne y c e)⟩
  ·obtain ⟨e,n,ne,nf,d⟩:=I.pin p hp;exact ⟨(hs.2 p.1 ne).trans e,n,ne,nf,d⟩
 ·have hfn:X.fn x=true:=by
   rcases hf with z| z
   ·exact z
   ·rw [z] at hk;cases hk
  obtain ⟨c,hc⟩:=I.ok.has x (.inl hk);obtain ⟨w',z⟩:=I.cell x c hc;refine wpAny_storeName_cell I.ok.kind hk hc z (fun h' hc' hs=>?_);obtain ⟨oc,hoc,hocd⟩:=id z;refine h { s with heap:=h' } ⟨I.ok,I.os,I.bare,⟨fun b o e n hb hx=>?_,fun b o e n hb hx=>?_,I.base.free,fun b o e hx=>?_,I.base.tups,I.base.frzs,I.base.tbls⟩,⟨m,hn.sameBut hs (Ne.symm (cne x c hc)),fun j y v' e1 e2 e3=>?_⟩,fun y c' e=>?_,I.free,I.freeC,fun p hp=>?_,tracked ⟨oc,hoc,I.freeC x c hc⟩ hs,by simpa using I.len⟩ ⟨c,hs,.inr hc⟩
  ·exact (hs.2 b (aeN (aeC (aei e) (I.ok.cab x c hfn hc)))).trans (I.base.keep b o e n hb hx)
  ·obtain ⟨sl,e1⟩:=I.base.slot b o e n hb hx;exact ⟨sl,(hs.2 b (aeN (aeC (aei e) (I.ok.cab x c hfn hc)))).trans e1⟩
  ·obtain ⟨o',e1⟩:=I.base.there b o e hx;exact ⟨o',(hs.2 b (aeN (aeC (aei e) (I.ok.cab x c hfn hc)))).trans e1⟩
  ·by_cases hj:j=i
   ·subst hj;rw [hi] at e1;cases e1;rw [afr hiσ] at e2;cases e2;exact ⟨u,r,.inr ⟨.inl hk,c,hc,hc'⟩⟩
   ·rw [afm (Ne.symm hj)] at e2;obtain ⟨u',r',q⟩:=hl j y v' e1 e2 e3;refine ⟨u',r',?_⟩;rcases q with q| ⟨k,c',e,z'⟩
    ·exact .inl q
    ·refine .inr ⟨k,c',e,z'.sameBut hs ?_⟩;rintro rfl;exact hj (Jz hN e1 (I.ok.inj _ _ _ e hc ▸ hi))
  ·by_cases hcc:c'=c
   ·subst hcc;exact ⟨_,hc'⟩
   ·obtain ⟨w2,z2⟩:=I.cell y c' e;exact ⟨w2,z2.sameBut hs hcc⟩
  ·obtain ⟨e,n,ne,nf,d⟩:=I.pin p hp;refine ⟨(hs.2 p.1 ?_).trans e,n,ne,nf,d⟩;intro q;rw [q,hoc] at e;have q':oc=p.2:=aek e;exact d w' (by rw [<- q'];exact hocd)
theorem Ja {M:Model}{A:Around}{E:Value->Shared->Prop}{i:Nat}{x:Str}{v:V}{u:Value}{Q:Unit->Shared->Prop}(I:Inv X pins σ H s)(hN:X.N.Nodup)(hi:X.N[i]?=some x)(hx:Loc X.env.scope x)(r:RelV v u)
  (h:∀ s',Inv X pins (σ.set i (some v)) H s'->Q () s')(hf:X.fn x=true\/X.env.scope.names.lookup x=some .local:=by first| exact .inl rfl| exact .inr rfl| assumption):wpAny M A (storeName X.env x u) Q E s:=
 Fp I hN hi hx r (fun s' I' _=>h s' I') hf
theorem Inv.call' {s':Shared}{ch:List Addr}(I:Inv X pins σ H s)(ho:s'.os=s.os)(u:Un (frs X.stack) ch H H' s.heap s'.heap)(hok:HOk X.prog X.w H' s'.heap)(hg:AllBare s'.gens)
  (hch:∀ b∈ch,(b∈X.ex\/X.s₀.heap.objs.size<=b)/\b≠X.env.locals/\(∀ x c,X.env.cells.lookup x=some c->c≠b)/\∀ p∈X.pn++pins,p.1≠b):Inv X pins σ H' s':=by
 obtain ⟨h',g',d',t',o'⟩:=s';have e:o'=s.os:=ho;subst e;exact I.call (g':=g') (t':=t') (d':=d') u hok hg hch
end
abbrev XK:=Value->Option Addr->Hp->Prop
abbrev St:=List (Option V)
abbrev VK:=V->Hp->Prop
abbrev TE:=St->Hp->VK->Prop
abbrev TT:=St->Hp->(Bool->Hp->Prop)->Prop
abbrev TA:=St->Hp->(List V->Hp->Prop)->Prop
structure Ends where
 nx:St->Hp->Prop
 rt:VK
 bk:St->Hp->Prop:=fun _ _=>False
 ct:St->Hp->Prop:=fun _ _=>False
abbrev TS:=Ends->St->Hp->Prop
def EP (X:Cx)(pins:List (Addr × Obj))(σ:St)(Q:VK)(u:Value)(s':Shared):Prop:=∃ v H',Inv X pins σ H' s'/\RelV v u/\Q v H'
def TP (X:Cx)(pins:List (Addr × Obj))(σ:St)(Q:Bool->Hp->Prop)(b:Bool)(s':Shared):Prop:=∃ H',Inv X pins σ H' s'/\Q b H'
def AP (X:Cx)(pins:List (Addr × Obj))(σ:St)(Q:List V->Hp->Prop)(us:List Value)(s':Shared):Prop:=∃ vs H',Inv X pins σ H' s'/\Vals vs us/\Q vs H'
def SP (X:Cx)(pins:List (Addr × Obj))(D:Ends)(f:Flow)(s':Shared):Prop:=
 match f with
 | .next=>∃ σ' H',Inv X pins σ' H' s'/\D.nx σ' H'
 | .brk=>∃ σ' H',Inv X pins σ' H' s'/\D.bk σ' H'
 | .cont=>∃ σ' H',Inv X pins σ' H' s'/\D.ct σ' H'
 | .ret u=>∃ v σ' H',Inv X pins σ' H' s'/\RelV v u/\D.rt v H'
def PE (X:Cx)(e:Expr)(t:TE):Prop:=
 ∀ (pins:List (Addr × Obj))(s:Shared)(σ:St)(H:Hp)(Q:VK),Inv X pins σ H s->t σ H Q->wpAny (model X.prog X.w) X.A (eval e X.env) (EP X pins σ Q) X.xe s
def PT (X:Cx)(e:Expr)(t:TT):Prop:=
 ∀ (pins:List (Addr × Obj))(s:Shared)(σ:St)(H:Hp)(Q:Bool->Hp->Prop),Inv X pins σ H s->t σ H Q->wpAny (model X.prog X.w) X.A (isTrue e X.env (eval e X.env)) (TP X pins σ Q) X.xe s
def PW (X:Cx)(e:Expr)(t:TT):Prop:=
 ∀ (whole:Sem Value)(pins:List (Addr × Obj))(s:Shared)(σ:St)(H:Hp)(Q:Bool->Hp->Prop),Inv X pins σ H s->t σ H Q->wpAny (model X.prog X.w) X.A (isTrue e X.env whole) (TP X pins σ Q) X.xe s
theorem PW.pt {X:Cx}{e:Expr}{t:TT}(h:PW X e t):PT X e t:=h _
def PA (X:Cx)(es:List Expr)(t:TA):Prop:=
 ∀ (pos:Pos)(pins:List (Addr × Obj))(s:Shared)(σ:St)(H:Hp)(Q:List V->Hp->Prop),Inv X pins σ H s->t σ H Q->wpAny (model X.prog X.w) X.A (spliced (backTo pos (starEach es X.env))) (AP X pins σ Q) X.xe s
def PS (X:Cx)(st:Stmt)(t:TS):Prop:=
 ∀ (pins:List (Addr × Obj))(s:Shared)(σ:St)(H:Hp)(D:Ends),Inv X pins σ H s->t D σ H->wpAny (model X.prog X.w) X.A (exec st X.env) (SP X pins D) X.xe s
def PSs (X:Cx)(st:List Stmt)(t:TS):Prop:=
 ∀ (pins:List (Addr × Obj))(s:Shared)(σ:St)(H:Hp)(D:Ends),Inv X pins σ H s->t D σ H->wpAny (model X.prog X.w) X.A (execs st X.env) (SP X pins D) X.xe s
theorem thn {α:Type}{t:Sem α}{Q Q':α->Shared->Prop}{M:Model}{A:Around}{E:Value->Shared->Prop}{s:Shared}(h:wpAny M A t Q E s)(hQ:∀ a s,Q a s->Q' a s):wpAny M A t Q' E s:=wpAny_mono h hQ fun _ _ x=>x
section
variable {X:Cx}
inductive ach (i:Nat)(σ:St)(H:Hp)(Q:VK):Prop
 | mk (v:V)(_:σ[i]?=some (some v))(_:Q v H)
def tC (v:V):TE:=fun _ H Q=>Q v H
theorem aaT {i:Nat}{x:Str}{pos:Pos}(hN:X.N[i]?=some x)(hv:Vis X.env.scope x)(hd:(x ==("__debug__":Str))=false:=by decide)(hcd:(x ==("__classdict__":Str))=false:=by decide):PE X (.Name x pos) (ach i):=by
 intro pins s σ H Q I h;obtain ⟨v,e,h⟩:=h;obtain ⟨m,hn,hl⟩:=I.loc;obtain ⟨u,r,l⟩:=hl i x v hN e hv;have fin:EP X pins σ Q u s:=⟨v,H,I,r,h⟩;rcases l with ⟨hk,hm⟩ | ⟨hk,c,hc,hcell⟩
 ·exact wpAny_Name (wpAny_loadName_local I.ok.kind hk hn hm fin) hd
 ·rcases hk with hk| hk
  ·exact wpAny_Name (wpAny_loadName_cell I.ok.kind hk hc hcell fin) hd
  ·exact wpAny_Name (wpAny_loadName_free I.ok.kind hk hc hcell fin hcd) hd
theorem au {i j pos}:PE X (.Constant (.int i) j pos) (tC (.int i)):=fun _ _ _ H _ I h=>wpAny_Constant_int ⟨.int i,H,I.tok _,⟨_,rfl⟩,h⟩
theorem uO {b j pos}:PE X (.Constant (.bool b) j pos) (tC (.bl b)):=fun _ _ _ H _ I h=>Constant_bool ⟨.bl b,H,I,rfl,h⟩
theorem yu {j pos}:PE X (.Constant .none j pos) (tC .non):=fun _ _ _ H _ I h=>Constant_none ⟨.non,H,I,rfl,h⟩
theorem jo {x j pos}:PE X (.Constant (.str x) j pos) (tC (.str x)):=fun _ _ _ H _ I h=>Calls.Constant_str ⟨.str x,H,I.tok _,⟨_,rfl⟩,h⟩
def Gl (X:Cx)(x:Str):Prop:=X.env.kindOf x=some .globalImplicit
theorem zV {E:Value->Shared->Prop}{pins:List (Addr × Obj)}{s:Shared}{σ:St}{H:Hp}{x:Str}{u:Value}{pos:Pos}{Q:Value->Shared->Prop}(I:Inv X pins σ H s)(hg:Gl X x)(hm:X.mg x=some u)(h:Q u s)
  (hd:(x ==("__debug__":Str))=false:=by decide):wpAny (model X.prog X.w) X.A (eval (.Name x pos) X.env) Q E s:=
 Calls.Name_function_global I.ok.kind hg (Calls.loadGlobal_global (by rw [I.ok.glob];exact I.mod.glob.keeps I.bk) hm h) hd
theorem nJ {E:Value->Shared->Prop}{pins:List (Addr × Obj)}{s:Shared}{σ:St}{H:Hp}{x:Str}{u:Value}{pos:Pos}{Q:Value->Shared->Prop}(I:Inv X pins σ H s)(hg:Gl X x)(hm:X.mg x=none)(hv:bootBuiltins x=some u)(h:Q u s)
  (hn:x≠"__name__":=by decide)(hd:(x ==("__debug__":Str))=false:=by decide):wpAny (model X.prog X.w) X.A (eval (.Name x pos) X.env) Q E s:=by
 obtain ⟨mb,h1,h2⟩:=I.mod.blt;exact Calls.Name_function_global I.ok.kind hg (Calls.loadGlobal_builtin (by rw [I.ok.glob];exact I.mod.glob.keeps I.bk) hm (by rw [I.ok.blt];exact h1.keeps I.bk) ((h2 x hn).trans hv) h) hd
theorem eV {x:Str}{v:V}{u:Value}{pos:Pos}(hg:Gl X x)(hm:X.mg x=some u)(r:RelV v u)(hd:(x ==("__debug__":Str))=false:=by decide):PE X (.Name x pos) (tC v):=
 fun _ _ _ H _ I h=>zV I hg hm ⟨v,H,I,r,h⟩ hd
theorem Hx {x:Str}{v:V}{u:Value}{pos:Pos}(hg:Gl X x)(hm:X.mg x=none)(hv:bootBuiltins x=some u)(r:RelV v u)(hn:x≠"__name__":=by decide)(hd:(x ==("__debug__":Str))=false:=by decide):PE X (.Name x pos) (tC v):=
 fun _ _ _ H _ I h=>nJ I hg hm hv ⟨v,H,I,r,h⟩ hn hd
def t2I (ta tb:TE)(k:Int->Int->Hp->Prop):St->Hp->Prop:=fun σ H=>ta σ H fun x H1=>tb σ H1 fun y H2=>∃ i j,x=.int i/\y=.int j/\k i j H2
variable {a b:Expr}{ta tb:TE}{pos:Pos}
def aaj (p:Int->Int->Bool)(ta tb:TE):TE:=fun σ H Q=>t2I ta tb (fun i j H2=>Q (.bl (p i j)) H2) σ H
inductive abA (x:V)(P:Bool->Prop):Prop
 | mk (c:Bool)(_:x=.bl c)(_:P c)
def tB (t:TE):TT:=fun σ H Q=>t σ H fun x H1=>abA x fun c=>Q c H1
theorem jA {e:Expr}{t:TE}(h:PE X e t)(he:∀ whole,isTrue e X.env whole=(do let v <- whole;standAt e.pos;holding [v] (truthy v)):=by intro _;rfl):PT X e (tB t):=by
 intro pins s σ H Q I hw;refine isTrue_plain (thn (h pins s σ H _ I hw) fun v s1 ⟨x,H1,I1,r1,q1⟩=>?_) (he _);obtain ⟨d,rfl,q⟩:=q1;cases r1;exact wpAny_truthy_bool ⟨H1,I1,q⟩
variable {tA tB':TT}{rest:List Expr}
def tAnd (t u:TT):TT:=fun σ H Q=>t σ H fun c H1=>if c=true then u σ H1 Q else Q false H1
def tOr (t u:TT):TT:=fun σ H Q=>t σ H fun c H1=>if c=true then Q true H1 else u σ H1 Q
def tNot (t:TT):TT:=fun σ H Q=>t σ H fun c H1=>Q (!c) H1
theorem pw_and1 (ha:PT X a tA):PW X (.BoolOp .And [a] pos) tA:=by
 intro wh pins s σ H Q I h;refine isTrue_and (thn (ha pins s σ H Q I h) fun c s1 e=>?_);cases c with
 | true=>exact isTrue_and_nil e
 | false=>exact e
theorem pw_or1 (ha:PT X a tA):PW X (.BoolOp .Or [a] pos) tA:=by
 intro wh pins s σ H Q I h;refine isTrue_or (thn (ha pins s σ H Q I h) fun c s1 e=>?_);cases c with
 | false=>exact isTrue_or_nil e
 | true=>exact e
theorem pw_and (ha:PT X a tA)(hb:PW X (.BoolOp .And (b::rest) pos) tB'):PW X (.BoolOp .And (a::b::rest) pos) (tAnd tA tB'):=by
 intro wh pins s σ H Q I h;refine isTrue_and (thn (ha pins s σ H _ I h) fun c s1 ⟨H1,I1,q1⟩=>?_);cases c with
 | true=>exact hb wh pins s1 σ H1 Q I1 q1
 | false=>exact ⟨H1,I1,q1⟩
theorem pw_or (ha:PT X a tA)(hb:PW X (.BoolOp .Or (b::rest) pos) tB'):PW X (.BoolOp .Or (a::b::rest) pos) (tOr tA tB'):=by
 intro wh pins s σ H Q I h;refine isTrue_or (thn (ha pins s σ H _ I h) fun c s1 ⟨H1,I1,q1⟩=>?_);cases c with
 | true=>exact ⟨H1,I1,q1⟩
 | false=>exact hb wh pins s1 σ H1 Q I1 q1
theorem lE (ha:PT X a tA):PT X (.UnaryOp .Not a pos) (tNot tA):=by
 intro pins s σ H Q I h;exact isTrue_not (ha pins s σ H (fun c H1=>Q (!c) H1) I h)
def acH (ta tb:TE):TE:=fun σ H Q=>ta σ H fun x H1=>abA x fun c=>if c=true then tb σ H1 Q else Q (.bl false) H1
def tOrV (ta tb:TE):TE:=fun σ H Q=>ta σ H fun x H1=>abA x fun c=>if c=true then Q (.bl true) H1 else tb σ H1 Q
def acy (ta:TE):TE:=fun σ H Q=>ta σ H fun x H1=>abA x fun c=>Q (.bl (!c)) H1
theorem Nk {op} {t:TE} (h:PE X a t):PE X (.BoolOp op [a] pos) t:=fun pins s σ H Q I hw=>BoolOp_one (h pins s σ H Q I hw)
theorem Uc (ha:PE X a ta)(hb:PE X (.BoolOp .And (b::rest) pos) tb):PE X (.BoolOp .And (a::b::rest) pos) (acH ta tb):=by
 intro pins s σ H Q I h;refine BoolOp_and (thn (ha pins s σ H _ I h) fun v s1 ⟨x,H1,I1,r1,q1⟩=>?_);obtain ⟨c,rfl,q1⟩:=q1;cases r1;refine wpAny_truthy_bool ?_;cases c with
 | true=>exact hb pins s1 σ H1 Q I1 q1
 | false=>exact ⟨.bl false,H1,I1,rfl,q1⟩
theorem acW (ha:PE X a ta)(hb:PE X (.BoolOp .Or (b::rest) pos) tb):PE X (.BoolOp .Or (a::b::rest) pos) (tOrV ta tb):=by
 intro pins s σ H Q I h;refine BoolOp_or (thn (ha pins s σ H _ I h) fun v s1 ⟨x,H1,I1,r1,q1⟩=>?_);obtain ⟨c,rfl,q1⟩:=q1;cases r1;refine wpAny_truthy_bool ?_;cases c with
 | false=>exact hb pins s1 σ H1 Q I1 q1
 | true=>exact ⟨.bl true,H1,I1,rfl,q1⟩
theorem aaU (ha:PE X a ta):PE X (.UnaryOp .Not a pos) (acy ta):=by
 intro pins s σ H Q I h;refine UnaryOp_ (thn (ha pins s σ H _ I h) fun v s1 ⟨x,H1,I1,r1,q1⟩=>?_);obtain ⟨c,rfl,q1⟩:=q1;cases r1;exact not_of (wpAny_truthy_bool ⟨.bl (!c),H1,I1,rfl,q1⟩)
def tIf (t:TT)(ta tb:TE):TE:=fun σ H Q=>t σ H fun c H1=>if c=true then ta σ H1 Q else tb σ H1 Q
theorem Jw {c:Expr}(hc:PT X c tA)(ha:PE X a ta)(hb:PE X b tb):PE X (.IfExp c a b pos) (tIf tA ta tb):=by
 intro pins s σ H Q I h;refine wpAny_IfExp (thn (hc pins s σ H _ I h) fun d s1 ⟨H1,I1,q1⟩=>?_);cases d with
 | true=>exact ha pins s1 σ H1 Q I1 q1
 | false=>exact hb pins s1 σ H1 Q I1 q1
end
def SqL (K:PySem.W.Frag)(H:Hp)(a:Addr)(xs:List V):Prop:=
 Rd H a (.lst xs) \/
  ∃ (o:Obj)(its:Array Value)(n:Nat),K.lookup a=some o/\o.cls=.type "list"/\o.dict=none/\o.data=.seq its n/\its.size<=sizeLine/\Vals xs its.toList
def SqT (K:PySem.W.Frag)(H:Hp)(a:Addr)(xs:List V):Prop:=
 Rd H a (.tup xs) \/
  ∃ (o:Obj)(its:Array Value)(n:Nat),K.lookup a=some o/\o.cls=.type "tuple"/\o.data=.seq its n/\its.size<=sizeLine/\Vals xs its.toList
def absV:Value->Option V
 | .none=>some .non
 | .bool b=>some (.bl b)
 | .int i _=>some (.int i)
 | .str x _=>some (.str x)
 | .bytes b _=>some (.byt b)
 | .float b _=>some (.flt b)
 | .ref a=>some (.ref a)
 | .type n=>some (.ty n)
 | _=>none
theorem RelV.abs {x:V}{u:Value}(r:RelV x u):absV u=some x:=by
 cases x with
 | non=>cases r;rfl
 | bl _=>cases r;rfl
 | int _=>obtain ⟨t,rfl⟩:=r;rfl
 | str _=>obtain ⟨t,rfl⟩:=r;rfl
 | byt _=>obtain ⟨t,rfl⟩:=r;rfl
 | flt _=>obtain ⟨t,rfl⟩:=r;rfl
 | ref _=>cases r;rfl
 | ty _=>cases r;rfl
theorem RelV.inj {x y:V}{u:Value}(r:RelV x u)(q:RelV y u):x=y:=aek (r.abs.symm.trans q.abs)
theorem Vals.inj:∀ {xs ys:List V}{us:List Value},Vals xs us->Vals ys us->xs=ys
 | _,_,_,.nil,.nil=>rfl
 | _,_,_,.cons r t,.cons r' t'=>by rw [r.inj r',Vals.inj t t']
section
variable {X:Cx}{pins:List (Addr × Obj)}{σ:St}{H:Hp}{s:Shared}{a:Addr}{xs ys:List V}
theorem SqL.of {K:PySem.W.Frag}(h:H a=some (.lst xs)):SqL K H a xs:=.inl (.inl h)
theorem SqT.of {K:PySem.W.Frag}(h:H a=some (.tup xs)):SqT K H a xs:=.inl (.inl h)
theorem Inv.list (I:Inv X pins σ H s)(h:SqL X.K H a xs):∃ its:List Value,Vals xs its/\PlainL s.heap a its.toArray/\xs.length<=sizeLine:=by
 rcases h with h| ⟨o,its,n,hk,hc,hd,hs,hz,r⟩
 ·obtain ⟨z,its,n,r,e⟩:=h.ok I.hok;exact ⟨its,r,⟨_,n,e,rfl,rfl,rfl⟩,z⟩
 ·refine ⟨its.toList,r,⟨o,n,I.kIn a o hk,hc,hd,by simpa using hs⟩,?_⟩;have e:=r.length;simp only [aeI] at e;omega
theorem Inv.tuple (I:Inv X pins σ H s)(h:SqT X.K H a xs):∃ its:List Value,Vals xs its/\IsTup s.heap a its.toArray/\xs.length<=sizeLine:=by
 rcases h with h| ⟨o,its,n,hk,hc,hs,hz,r⟩
 ·obtain ⟨z,its,r,p⟩:=h.ok I.hok;exact ⟨its,r,p,z⟩
 ·refine ⟨its.toList,r,⟨o,I.kIn a o hk,hc,n,by simpa using hs⟩,?_⟩;have e:=r.length;simp only [aeI] at e;omega
theorem Inv.RQ (I:Inv X pins σ H s)(h:SqL X.K H a xs)(h':SqL X.K H a ys):xs=ys:=by
 obtain ⟨its,r,⟨o,n,e,_,_,d⟩,_⟩:=I.list h;obtain ⟨its',r',⟨o',n',e',_,_,d'⟩,_⟩:=I.list h';rw [e] at e';cases e';rw [d] at d';injection d' with d1 _;have:its=its':=by simpa using congrArg Array.toList d1
 subst this;exact r.inj r'
end
abbrev Cx.wish (X:Cx)(E:Value->Shared->Prop):Cx:={ X with xe:=E }
abbrev Cx.nox (X:Cx):Cx:=X.wish fun _ _=>False
theorem Cx.Ok.wish {X:Cx}(ok:X.Ok)(E:Value->Shared->Prop):(X.wish E).Ok:=
 ⟨ok.mod,ok.kind,ok.glob,ok.blt,ok.above,ok.inj,ok.has,ok.cab,ok.hd,ok.frames,ok.stk,ok.exf,ok.bs,ok.bsz,ok.noex,ok.exfs,ok.Lb,ok.frf⟩
theorem Cx.Ok.yj {X:Cx}{E:Value->Shared->Prop}(ok:(X.wish E).Ok):X.Ok:=
 ⟨ok.mod,ok.kind,ok.glob,ok.blt,ok.above,ok.inj,ok.has,ok.cab,ok.hd,ok.frames,ok.stk,ok.exf,ok.bs,ok.bsz,ok.noex,ok.exfs,ok.Lb,ok.frf⟩
section
variable {X:Cx}{pins:List (Addr × Obj)}{σ:St}{H:Hp}{s:Shared}{E:Value->Shared->Prop}
theorem Inv.wish (I:Inv X pins σ H s)(E:Value->Shared->Prop):Inv (X.wish E) pins σ H s:=⟨I.ok.wish E,I.os,I.bare,I.base,I.loc,I.cell,I.free,I.freeC,I.pin,I.hok,I.len⟩
theorem Inv.yj (I:Inv (X.wish E) pins σ H s):Inv X pins σ H s:=⟨I.ok.yj,I.os,I.bare,I.base,I.loc,I.cell,I.free,I.freeC,I.pin,I.hok,I.len⟩
theorem SP.yj {D:Ends}{f:Flow}{s':Shared}(h:SP (X.wish E) pins D f s'):SP X pins D f s':=by
 cases f with
 | next=>obtain ⟨σ',H',I,q⟩:=h;exact ⟨σ',H',I.yj,q⟩
 | brk=>obtain ⟨σ',H',I,q⟩:=h;exact ⟨σ',H',I.yj,q⟩
 | cont=>obtain ⟨σ',H',I,q⟩:=h;exact ⟨σ',H',I.yj,q⟩
 | ret u=>obtain ⟨v,σ',H',I,r,q⟩:=h;exact ⟨v,σ',H',I.yj,r,q⟩
theorem PSs.nox {st:List Stmt}{t:TS}(h:PSs X.nox st t):PSs X st t:=fun pins s σ H D I hw =>
 wpAny_mono (h pins s σ H D (I.wish _) hw) (fun _ _ q=>q.yj) fun _ _ z=>False.elim z
end
section
variable {X:Cx}{st:Stmt}{rest:List Stmt}{t u:TS}{e:Expr}{te:TE}{pos:Pos}
def acA:TS:=fun D σ H=>D.nx σ H
def bO (t u:TS):TS:=fun D σ H=>t { D with nx:=u D } σ H
theorem bf:PSs X [] acA:=fun _ _ σ H _ I h=>wpAny_execs_nil ⟨σ,H,I,h⟩
theorem aD (h1:PS X st t)(h2:PSs X rest u):PSs X (st::rest) (bO t u):=by
 intro pins s σ H D I h;refine wpAny_execs_cons (thn (h1 pins s σ H { D with nx:=u D } I h) fun f s1 q=>?_);cases f with
 | next =>
  obtain ⟨σ',H',I',q⟩:=q;exact h2 pins s1 σ' H' D I' q
 | ret v=>exact q
 | brk=>exact q
 | cont=>exact q
theorem aJ (h1:PS X st t):PSs X [st] t:=by
 intro pins s σ H D I h;refine wpAny_execs_cons (thn (h1 pins s σ H D I h) fun f s1 q=>?_);cases f with
 | next=>exact wpAny_execs_nil q
 | ret v=>exact q
 | brk=>exact q
 | cont=>exact q
theorem Inv.quiet {pins:List (Addr × Obj)}{σ:St}{H:Hp}{s:Shared}(I:Inv X pins σ H s):interactive X.env=false:=by simp [interactive,I.ok.kind]
def acD (te:TE):TS:=fun D σ H=>te σ H fun _ H1=>D.nx σ H1
theorem aU (he:PE X e te)(hs:swapsWith e none pos.line X.env=pure false:=by rfl):PS X (.Expr e pos) (acD te):=by
 intro pins s σ H D I h;exact wpAny_Expr_any (thn (he pins s σ H _ I h) fun v s1 ⟨x,H1,I1,r1,q1⟩=>⟨σ,H1,I1,q1⟩) I.quiet hs
def tRet (te:TE):TS:=fun D σ H=>te σ H D.rt
theorem aO (he:PE X e te):PS X (.Return (some e) pos) (tRet te):=by
 intro pins s σ H D I h;exact wpAny_Return_some (thn (he pins s σ H _ I h) fun v s1 ⟨x,H1,I1,r1,q1⟩=>⟨x,σ,H1,I1,r1,q1⟩)
def wW (c:TT)(t u:TS):TS:=fun D σ H=>c σ H fun b H1=>if b=true then t D σ H1 else u D σ H1
theorem dw {c:Expr}{a b:List Stmt}{tc:TT}(hc:PT X c tc)(ha:PSs X a t)(hb:PSs X b u):PS X (.If c a b pos) (wW tc t u):=by
 intro pins s σ H D I h;refine wpAny_If (thn (hc pins s σ H _ I h) fun d s1 ⟨H1,I1,q1⟩=>?_);cases d with
 | true=>exact ha pins s1 σ H1 D I1 q1
 | false=>exact hb pins s1 σ H1 D I1 q1
def aas:TS:=fun _ _ _=>False
theorem Rb:PS X st aas:=fun _ _ _ _ _ _ h=>h.elim
end
abbrev TG:=V->St->Hp->(St->Hp->Prop)->Prop
abbrev TGs:=List V->St->Hp->(St->Hp->Prop)->Prop
def PG (X:Cx)(target:Expr)(t:TG):Prop:=
 ∀ (pins:List (Addr × Obj))(s:Shared)(σ:St)(H:Hp)(v:V)(u:Value)(Q:St->Hp->Prop),Inv X pins σ H s->RelV v u->t v σ H Q ->
  wpAny (model X.prog X.w) X.A (assign target X.env u) (fun _ s'=>∃ σ' H',Inv X pins σ' H' s'/\Q σ' H') X.xe s
def PGs (X:Cx)(ts:List Expr)(t:TGs):Prop:=
 ∀ (pins:List (Addr × Obj))(s:Shared)(σ:St)(H:Hp)(vs:List V)(us:List Value)(Q:St->Hp->Prop),Inv X pins σ H s->Vals vs us->t vs σ H Q ->
  wpAny (model X.prog X.w) X.A (assignInOrder ((assignEach ts X.env).map (·.2)) us) (fun _ s'=>∃ σ' H',Inv X pins σ' H' s'/\Q σ' H') X.xe s
abbrev acd:=V->V->V->Hp->(Hp->Prop)->Prop
def adA (X:Cx)(t:acd):Prop:=
 ∀ (pins:List (Addr × Obj))(s:Shared)(σ:St)(H:Hp)(o i v:V)(ov iv u:Value)(Q:Hp->Prop),Inv X pins σ H s->RelV o ov->RelV i iv->RelV v u->t o i v H Q ->
  wpAny (model X.prog X.w) X.A (setItem ov iv u) (fun _ s'=>∃ H',Inv X pins σ H' s'/\Q H') X.xe s
abbrev TIp:=V->V->Hp->VK->Prop
def PIp (X:Cx)(op:Operator)(t:TIp):Prop:=
 ∀ (pins:List (Addr × Obj))(s:Shared)(σ:St)(H:Hp)(x y:V)(v u:Value)(Q:VK),Inv X pins σ H s->RelV x v->RelV y u->t x y H Q ->
  wpAny (model X.prog X.w) X.A (inplaceOp op v u) (EP X pins σ Q) X.xe s
section
variable {X:Cx}{pos:Pos}
def R8 (i:Nat):TG:=fun v σ H Q=>Q (σ.set i (some v)) H
theorem bA {i:Nat}{x:Str}(hN:X.N.Nodup)(hi:X.N[i]?=some x)(hx:Loc X.env.scope x)(hf:X.fn x=true\/X.env.scope.names.lookup x=some .local:=by first| exact .inl rfl| exact .inr rfl| assumption):PG X (.Name x pos) (R8 i):=by
 intro pins s σ H v u Q I r h;exact wpAny_assign_Name (Ja I hN hi hx r (fun s' I'=>⟨_,H,I',h⟩) hf)
def gNil:TGs:=fun vs σ H Q=>vs=[]/\Q σ H
def adp (t:TG)(u:TGs):TGs:=fun vs σ H Q=>∃ v r,vs=v::r/\t v σ H fun σ' H'=>u r σ' H' Q
theorem bH:PGs X [] gNil:=by
 intro pins s σ H vs us Q I r h;obtain ⟨e,h⟩:=h;subst e;cases r;exact assignInOrder_nil ⟨σ,H,I,h⟩
theorem aB {e:Expr}{es:List Expr}{t:TG}{u:TGs}(h1:PG X e t)(h2:PGs X es u)
  (hs:(assignEach (e::es) X.env).map (·.2)=assign e X.env::(assignEach es X.env).map (·.2):=by rfl):PGs X (e::es) (adp t u):=by
 intro pins s σ H vs us Q I r h;obtain ⟨v,vr,e1,h⟩:=h;subst e1;cases r with
 | cons r rr =>
  rw [hs];refine assignInOrder_cons (thn (h1 pins s σ H _ _ _ I r h) fun _ s1 ⟨σ1,H1,I1,q1⟩=>?_);exact h2 pins s1 σ1 H1 _ _ Q I1 rr q1
inductive adQ (K:PySem.W.Frag)(n:Nat)(t:TGs)(v:V)(σ:St)(H:Hp)(Q:St->Hp->Prop):Prop
 | mk (a:Addr)(xs:List V)(_:v=.ref a)(_:SqT K H a xs)(_:xs.length=n)(_:t xs σ H Q)
theorem fZ {es:List Expr}{k:Nat}{t:TGs}{n:Nat}(hc:X.calm=true)(h:PGs X es t)
  (hn:(assignEach es X.env).length=n:=by rfl)(hst:(assignEach es X.env).findIdx? (·.1)=none:=by rfl):PG X (.Tuple es k pos) (adQ X.K n t):=by
 intro pins s σ H v u Q I r hw;obtain ⟨a,xs,e1,hq,hl,hw⟩:=hw;subst e1;cases r;obtain ⟨its,rv,ht,hz⟩:=I.tuple hq;refine assign_Tuple_tuple (I.ok.hd hc) ht (by simp [hn,<- hl,rv.length]) hst fun h' hx=>?_;have I1:Inv X pins σ H { s with heap:=h' }:=I.kept (t':=s.toks) fun b o e=>hx b o (aeN (aei e)) e;exact h pins _ σ H xs _ Q I1 (by simpa using rv) hw
def gSub (to ti:TE)(t:acd):TG:=fun v σ H Q=>to σ H fun o H1=>ti σ H1 fun i H2=>t o i v H2 fun H3=>Q σ H3
theorem ud {o i:Expr}{to ti:TE}{t:acd}(ho:PE X o to)(hi:PE X i ti)(hs:adA X t)
  (ha:∀ v,assign (.Subscript o i pos) X.env v=(do
   let ov <- holding [v] (eval o X.env)
   let iv <- holding [v,ov] (eval i X.env)
   standAt pos
   holding [v,ov,iv] (setItem ov iv v)
   release [v,ov,iv] []):=by intro _;rfl):PG X (.Subscript o i pos) (gSub to ti t):=by
 intro pins s σ H v u Q I r h
 rw [ha]
 refine wpAny_bind (wpAny_holding (thn (ho pins s σ H _ I h) fun ov s1 ⟨x,H1,I1,r1,q1⟩=>?_))
 refine wpAny_bind (wpAny_holding (thn (hi pins s1 σ H1 _ I1 q1) fun iv s2 ⟨y,H2,I2,r2,q2⟩=>?_))
 refine wpAny_bind (wpAny_standAt (wpAny_bind (wpAny_holding (thn (hs pins s2 σ H2 x y v ov iv u _ I2 r1 r2 r q2) fun _ s3 ⟨H3,I3,q3⟩=>?_))))
 exact wpAny_release ⟨σ,H3,I3,q3⟩
def acG (te:TE)(g:TG):TS:=fun D σ H=>te σ H fun x H1=>g x σ H1 D.nx
theorem iH {tg e:Expr}{te:TE}{g:TG}(he:PE X e te)(hg:PG X tg g)(hs:swapsWithSole [tg] e pos.line X.env=pure false:=by rfl)(hw:swappedStores [tg] e X.env=pure none:=by rfl)
  (h1:(assignEach [tg] X.env).map (·.2)=[assign tg X.env]:=by rfl):PS X (.Assign [tg] e pos) (acG te g):=by
 intro pins s σ H D I h;refine wpAny_Assign_stores (thn (he pins s σ H _ I h) fun v s1 ⟨x,H1,I1,r1,q1⟩=>?_) hs hw;rw [h1];exact thn (hg pins s1 σ H1 x v _ I1 r1 q1) fun _ s2 q=>q
theorem Jv {i:Nat}{x:Str}{e:Expr}{te:TE}{pos':Pos}(hN:X.N.Nodup)(hi:X.N[i]?=some x)(hx:Loc X.env.scope x)(he:PE X e te)(hs:swapsWith e (some (.Name x pos')) pos.line X.env=pure false:=by rfl)(hf:X.fn x=true\/X.env.scope.names.lookup x=some .local:=by first| exact .inl rfl| exact .inr rfl| assumption):
  PS X (.Assign [.Name x pos'] e pos) (acG te (R8 i)):=by
 intro pins s σ H D I h;refine wpAny_Assign_Name (thn (he pins s σ H _ I h) fun v s1 ⟨y,H1,I1,r1,q1⟩=>?_) hs;exact Ja I1 hN hi hx r1 (fun s2 I2=>⟨_,H1,I2,q1⟩) hf
def acF (to ti te:TE)(tget:V->V->Hp->VK->Prop)(tip:TIp)(tset:acd):TS:=fun D σ H=>to σ H fun o H1=>ti σ H1 fun i H2=>tget o i H2 fun x H3=>te σ H3 fun y H4=>tip x y H4 fun z H5=>tset o i z H5 fun H6=>D.nx σ H6
def adX (X:Cx)(t:V->V->Hp->VK->Prop):Prop:=
 ∀ (pins:List (Addr × Obj))(s:Shared)(σ:St)(H:Hp)(o i:V)(ov iv:Value)(Q:VK),Inv X pins σ H s->RelV o ov->RelV i iv->t o i H Q ->
  wpAny (model X.prog X.w) X.A (getItem ov iv) (EP X pins σ Q) X.xe s
theorem uM {o i e:Expr}{to ti te:TE}{tget:V->V->Hp->VK->Prop}{tip:TIp}{tset:acd}{op:Operator}{tpos:Pos}(ho:PE X o to)(hi:PE X i ti)(hg:adX X tget)(he:PE X e te)(hp:PIp X op tip)(hs:adA X tset)
  (ha:∀ ov iv new,augStore i ov iv new=(do holding [new,ov,iv] (setItem ov iv new);release [new,ov,iv] [];pure .next):=by intros;rfl):PS X (.AugAssign (.Subscript o i tpos) op e pos) (acF to ti te tget tip tset):=by
 intro pins s σ H D I h;refine wpAny_AugAssign_SubscriptAny (thn (ho pins s σ H _ I h) fun ov s1 ⟨x1,H1,I1,r1,q1⟩=>?_) ha;refine thn (hi pins s1 σ H1 _ I1 q1) fun iv s2 ⟨x2,H2,I2,r2,q2⟩=>?_;refine thn (hg pins s2 σ H2 x1 x2 ov iv _ I2 r1 r2 q2) fun old s3 ⟨x3,H3,I3,r3,q3⟩=>?_;refine thn (he pins s3 σ H3 _ I3 q3) fun v s4 ⟨x4,H4,I4,r4,q4⟩=>?_;refine thn (hp pins s4 σ H4 x3 x4 old v _ I4 r3 r4 q4) fun new s5 ⟨x5,H5,I5,r5,q5⟩=>?_;exact thn (hs pins s5 σ H5 x1 x2 x5 ov iv new _ I5 r1 r2 r5 q5) fun _ s6 ⟨H6,I6,q6⟩=>⟨σ,H6,I6,q6⟩
def ipI (f:Int->Int->Int):TIp:=fun x y H Q=>∃ i j,x=.int i/\y=.int j/\Q (.int (f i j)) H
theorem JN:PIp X .Add (ipI fun i j=>i+j):=by
 intro pins s σ H x y v u Q I r1 r2 h;obtain ⟨i,j,e1,e2,q⟩:=h;subst e1;subst e2;obtain ⟨t,rfl⟩:=r1;obtain ⟨t',rfl⟩:=r2;exact iadd_int ⟨.int _,H,I.tok _,⟨_,rfl⟩,q⟩
theorem OJ:PIp X .Sub (ipI fun i j=>i - j):=by
 intro pins s σ H x y v u Q I r1 r2 h;obtain ⟨i,j,e1,e2,q⟩:=h;subst e1;subst e2;obtain ⟨t,rfl⟩:=r1;obtain ⟨t',rfl⟩:=r2;exact isub_int ⟨.int _,H,I.tok _,⟨_,rfl⟩,q⟩
end
section
variable {X:Cx}{pos:Pos}
def Fi (c:TT)(tb:TS):TS:=fun D σ H=>∃ W:Nat->St->Hp->Prop,(∃ m,W m σ H)/\∀ m σ H,W m σ H ->
 c σ H fun b H1=>if b=true then ∃ N:St->Hp->Prop,(∀ σ' H',N σ' H'->∃ m',m'<m/\W m' σ' H')/\tb { D with nx:=N,ct:=N,bk:=D.nx } σ H1 else D.nx σ H1
theorem Dt {c:Expr}{body:List Stmt}{tc:TT}{tb:TS}(hp:PassesOwn (model X.prog X.w) X.A X.env X.xe)(hc:PT X c tc)(hb:PSs X body tb):PS X (.While c body [] pos) (Fi tc tb):=by
 intro pins s σ H D I h;obtain ⟨W,⟨m0,w0⟩,turn⟩:=h;refine wpAny_While (codeAny_whileLoop (fun n s'=>∃ σ' H',Inv X pins σ' H' s'/\W n σ' H') ?_ m0 ⟨σ,H,I,w0⟩);rintro n s1 ⟨σ1,H1,I1,w1⟩;refine wpAny_passesOwn hp (thn (hc pins s1 σ1 H1 _ I1 (turn n σ1 H1 w1)) fun b s2 ⟨H2,I2,q2⟩=>?_);cases b with
 | true =>
  obtain ⟨N,hN,q2⟩:=q2;rw [if_pos rfl];refine wpAny_passesOwn hp (thn (hb pins s2 σ1 H2 _ I2 q2) fun f s3 q3=>?_);cases f with
  | next =>
   obtain ⟨σ3,H3,I3,n3⟩:=q3;obtain ⟨m',hm,w3⟩:=hN σ3 H3 n3;exact ⟨m',hm,σ3,H3,I3,w3⟩
  | cont =>
   obtain ⟨σ3,H3,I3,n3⟩:=q3;obtain ⟨m',hm,w3⟩:=hN σ3 H3 n3;exact ⟨m',hm,σ3,H3,I3,w3⟩
  | brk=>exact q3
  | ret v=>exact q3
 | false =>
  rw [if_neg aec];exact wpAny_execs_nil ⟨σ1,H2,I2,q2⟩
end
structure It where
 go:Nat->Hp->Prop
 yld:Nat->Hp->V->Hp->Prop
 stop:Nat->Hp->Prop
def G8 (X:Cx)(pins:List (Addr × Obj))(H:Hp)(b:Addr):Prop:=
 H b=none/\b≠X.env.locals/\b ∉ X.fs/\(b∈X.ex\/X.s₀.heap.objs.size<=b)/\(∀ x c,X.env.cells.lookup x=some c->c≠b)/\∀ p∈X.pn++pins,p.1≠b
theorem Inv.K6 {X:Cx}{pins:List (Addr × Obj)}{σ:St}{H H':Hp}{s:Shared}{b:Addr}(I:Inv X pins σ H s)(hb:s.heap.objs.size<=b)(hn:H' b=none):G8 X pins H' b:=by
 refine ⟨hn,Nat.ne_of_gt (aeC I.lt hb),I.nofs hb,.inr (aeP I.sz hb),fun x c e z=>?_,fun p hp z=>?_⟩
 ·obtain ⟨v,q⟩:=I.cell x c e;exact absurd (aeC q.lt (by rw [z];exact hb)) (ae3 _)
 ·exact absurd (aeC (aei (I.pin p hp).1) (by rw [z];exact hb)) (ae3 _)
structure Turn (P:Program)(w:World)(K:PySem.W.Frag)(tg:Expr)(J:It)(fp:List Addr)(it:Addr)(tn:Nat->Heap->Prop):Prop where
 mem:it∈fp
 obj:∀ i h,tn i h->∀ b∈fp,∃ o,h.get? b=some o/\∀ v,o.data≠.cell v
 keep:∀ i h h',tn i h->(∀ b∈fp,∀ o,h.get? b=some o->h'.get? b=some o)->tn i h'
 item:∀ (X:Cx),X.prog=P->X.w=w->X.K=K->X.calm=true->∀ (i:Nat)(pins:List (Addr × Obj))(s:Shared)(σ:St)(H:Hp)(E:Value->Shared->Prop),Inv X pins σ H s->(∀ b∈fp,G8 X pins H b)->tn i s.heap->J.go i H ->
  wpAny (model P w) X.A (pyNext (.ref it)) (fun r s1=>∃ u,r=some u /\
   wpAny (model P w) X.A (letOwnedTupleGo tg (.ref it) u) (fun _ s2=>∃ x H',Inv X pins σ H' s2/\RelV x u/\J.yld i H x H'/\tn (i+1) s2.heap/\∀ b∈fp,H' b=none) E s1) E s
 done:∀ (X:Cx),X.prog=P->X.w=w->X.K=K->X.calm=true->∀ (i:Nat)(pins:List (Addr × Obj))(s:Shared)(σ:St)(H:Hp)(E:Value->Shared->Prop),Inv X pins σ H s->(∀ b∈fp,G8 X pins H b)->tn i s.heap->J.stop i H ->
  wpAny (model P w) X.A (pyNext (.ref it)) (fun r s1=>r=none/\Inv X pins σ H s1) E s
 self:∀ (A:Around)(i:Nat)(s:Shared)(Q:Value->Shared->Prop)(E:Value->Shared->Prop),tn i s.heap->Q (.ref it) s->wpAny (model P w) A (pyIter (.ref it)) Q E s
abbrev TI:=St->Hp->(It->Hp->Prop)->Prop
def PIE (X:Cx)(pins:List (Addr × Obj))(σ:St)(tg:Expr)(R:It->Hp->Prop)(itv:Value)(s2:Shared):Prop:=
 ∃ (it:Addr)(fp:List Addr)(tn:Nat->Heap->Prop)(J:It)(H':Hp),itv=.ref it/\Inv X pins σ H' s2/\Turn X.prog X.w X.K tg J fp it tn/\tn 0 s2.heap/\(∀ b∈fp,G8 X pins H' b)/\R J H'
def PI (X:Cx)(tg iter:Expr)(wi:TI):Prop:=
 ∀ (pins:List (Addr × Obj))(s:Shared)(σ:St)(H:Hp)(R:It->Hp->Prop),Inv X pins σ H s->wi σ H R ->
  wpAny (model X.prog X.w) X.A (eval iter X.env) (fun v s1=>wpAny (model X.prog X.w) X.A (pyIter v) (PIE X pins σ tg R) X.xe s1) X.xe s
theorem ZW {M:Model}{A:Around}{E:Value->Shared->Prop}{s:Shared}{tg:Expr}{it:Addr}{u:Value}{o:Obj}{n:String}{vs:Array Value}{Q:Unit->Shared->Prop}(ho:s.heap.get? it=some o)(hc:o.cls=.type n)(hd:o.data=.fields vs)
    (hn:["enumerate","zip","dict_itemiterator","dict_reverseitemiterator","odict_iterator","itertools.zip_longest","itertools.pairwise"].contains n=false)(hQ:Q () s):wpAny M A (letOwnedTupleGo tg (.ref it) u) Q E s:=by
  unfold letOwnedTupleGo;cases tg <;>first
    | exact wpAny_pure hQ
    | (cases u <;>first
        | exact wpAny_pure hQ
        | (refine wpAny_bind (wpAny_load ho ?_)
           rw [hc,hd];show wpAny M A (if (["enumerate","zip","dict_itemiterator","dict_reverseitemiterator","odict_iterator","itertools.zip_longest","itertools.pairwise"].contains n&& vs[0]? ==some (rawInt _))=true then _ else _) Q E s;rw [if_neg (by intro h;rw [hn,Bool.false_and] at h;cases h)];exact wpAny_pure hQ))
def Itl (K:PySem.W.Frag)(a:Addr):It:=
 ⟨fun i H=>∃ xs x,SqL K H a xs/\xs[i]?=some x,fun i H x H'=>H'=H/\∀ xs,SqL K H a xs->xs[i]?=some x,fun i H=>∃ xs,SqL K H a xs/\xs.length<=i⟩
def Itr (lo:Int)(n:Nat):It:=⟨fun i _=>i<n,fun i H x H'=>H'=H/\x=.int (lo+i),fun i _=>n<=i⟩
theorem Ln {P:Program}{w:World}{K:PySem.W.Frag}{tg:Expr}(a it:Addr):Turn P w K tg (Itl K a) [it] it (fun i h=>h.IsListIter it a i) where
 mem:=by simp
 obj:=fun i h st b hb=>by
  have e:b=it:=by simpa using hb
  subst e;obtain ⟨o,e,c,d⟩:=st;exact ⟨o,e,fun v z=>by rw [d] at z;cases z⟩
 keep:=fun i h h' st k=>st.at fun o e=>k it (by simp) o e;item:=by
  intro X hP hw hK hc i pins s σ H E I hf st hg;subst hP hw hK;obtain ⟨xs,x,hq,hx⟩:=hg;obtain ⟨its,rv,p,hz⟩:=I.list hq;obtain ⟨u,hu,ru⟩:=rv.get hx;obtain ⟨f0,f1,f2,f3,f4,f5⟩:=hf it (by simp);refine wpAny_pyNext_list_item st p.isList (x:=u) (by simpa using hu) fun h' st' sb=>?_;have I1:Inv X pins σ H { s with heap:=h' }:=I.turned (t':=s.toks) (fun b o hb e=>(sb.2 b hb).trans e) f0 f1 f3 f4 f5;obtain ⟨o,e,c,d⟩:=id st';exact ⟨u,rfl,ZW (s:={ s with heap:=h' }) e c d (by decide) ⟨x,H,I1,ru,⟨rfl,fun ys hy=>by rw [I.RQ hy hq];exact hx⟩,st',fun b hb=>(hf b hb).1⟩⟩
 done:=by
  intro X hP hw hK hc i pins s σ H E I hf st hg;subst hP hw hK;obtain ⟨xs,hq,hx⟩:=hg;obtain ⟨its,rv,p,hz⟩:=I.list hq;obtain ⟨f0,f1,f2,f3,f4,f5⟩:=hf it (by simp);have hl:=rv.length;exact wpAny_pyNext_list_end (I.ok.hd hc) st p.isList (by simp;omega) fun h' eb=>⟨rfl,I.turned (t':=s.toks) (fun b o hb e=>eb b o hb e) f0 f1 f3 f4 f5⟩
 self:=fun _ _ _ _ _ st h=>wpAny_pyIter_listiter st h
theorem Km {P:Program}{w:World}{K:PySem.W.Frag}{tg:Expr}(it:Addr)(lo:Int)(n:Nat):Turn P w K tg (Itr lo n) [it] it (fun i h=>IsRangeIter h it (lo+(i:Nat)*1) ((n:Int) - (i:Nat)) 1) where
 mem:=by simp
 obj:=fun i h st b hb=>by
  have e:b=it:=by simpa using hb
  subst e;exact ⟨_,st,fun v z=>by
   have z':Data.fields _=Data.cell v:=z;cases z'⟩
 keep:=fun i h h' st k=>k it (by simp) _ st;item:=by
  intro X hP hw hK hc i pins s σ H E I hf st hg;subst hP hw hK;obtain ⟨f0,f1,f2,f3,f4,f5⟩:=hf it (by simp);have W:=Walks.range (prog:=X.prog) (w:=X.w) (I.ok.hd hc) it lo 1 n;refine W.item i s _ _ hg st fun v h' tk hv st' kk=>?_;obtain ⟨t,rfl⟩:=hv;have I1:Inv X pins σ H { s with heap:=h',toks:=tk }:=I.turned (fun b o hb e=>kk b o (by simpa using hb) e) f0 f1 f3 f4 f5;refine ⟨_,rfl,ZW (s:={ s with heap:=h',toks:=tk }) (n:="range_iterator") st' rfl rfl (by decide) ⟨.int (lo+i),H,I1,⟨t,?_⟩,⟨rfl,rfl⟩,st',fun b hb=>(hf b hb).1⟩⟩;rw [Int.mul_one]
 done:=by
  intro X hP hw hK hc i pins s σ H E I hf st hg;subst hP hw hK;obtain ⟨f0,f1,f2,f3,f4,f5⟩:=hf it (by simp);exact wpAny_pyNext_range_end (I.ok.hd hc) st (by have:n<=i:=hg;omega) fun h' eb=>⟨rfl,I.turned (t':=s.toks) (fun b o hb e=>eb b o hb e) f0 f1 f3 f4 f5⟩
 self:=fun _ _ _ _ _ st h=>wpAny_pyIter_rangeiter st h
section
variable {X:Cx}{tg:Expr}
inductive kLst (K:PySem.W.Frag)(x:V)(H:Hp)(R:It->Hp->Prop):Prop
 | mk (a:Addr)(_:x=.ref a)(_:∃ xs,SqL K H a xs)(_:R (Itl K a) H)
def adn (K:PySem.W.Frag)(tl:TE):TI:=fun σ H R=>tl σ H fun x H1=>kLst K x H1 R
theorem bF {l:Expr}{tl:TE}(hl:PE X l tl):PI X tg l (adn X.K tl):=by
 intro pins s σ H R I h;refine thn (hl pins s σ H _ I h) fun v s1 ⟨x,H1,I1,r1,q1⟩=>?_;obtain ⟨a,e,⟨xs,hq⟩,q⟩:=q1;subst e;cases r1;obtain ⟨its,rv,p,hz⟩:=I1.list hq;refine wpAny_pyIter_list p.isList ?_;refine ⟨s1.heap.objs.size,[s1.heap.objs.size],_,_,H1,rfl,I1.kept (t':=s1.toks) fun b o e=>ad6 _ e,Ln a _,⟨_,aer _ rfl,rfl,rfl⟩,fun b hb=>?_,q⟩;have e:b=s1.heap.objs.size:=by simpa using hb
 subst e;exact I1.K6 (ad2 _) (I1.hok.fresh (ad2 _))
theorem Jt {pins:List (Addr × Obj)}{σ:St}{H:Hp}{s:Shared}{R:It->Hp->Prop}{E:Value->Shared->Prop}{lo hi:Int}{t u v:Tok}{tk:Nat}(I:Inv X pins σ H s)(h1:-(2 ^ 62)<=lo)(h2:lo<2 ^ 62)(h3:-(2 ^ 62)<=hi)(h4:hi<2 ^ 62)
  (q:R (Itr lo (hi - lo).toNat) H):wpAny (model X.prog X.w) X.A (pyIter (.ref s.heap.objs.size)) (PIE X pins σ tg R) E { s with heap:=s.heap.push { cls:=.type "range",data:=.fields #[.int lo t,.int hi u,.int 1 v] },toks:=tk }:=by
 refine wpAny_pyIter_range (IsRange.new ..) (small_one h1 h2 h3 h4) ?_;have I1:Inv X pins σ H { s with heap:=s.heap.push { cls:=.type "range",data:=.fields #[.int lo t,.int hi u,.int 1 v] },toks:=tk }:=I.kept fun b o e=>ad6 _ e;refine ⟨(s.heap.push { cls:=.type "range",data:=.fields #[.int lo t,.int hi u,.int 1 v] }).objs.size,[(s.heap.push { cls:=.type "range",data:=.fields #[.int lo t,.int hi u,.int 1 v] }).objs.size],_,_,H,rfl,
  I1.kept (t':=tk) fun b o e=>ad6 _ e,Km _ lo (hi - lo).toNat,?_,fun b hb=>?_,q⟩
 ·have e1:lo+((0:Nat):Int)*1=lo:=by simp
  have e2:(((hi - lo).toNat:Nat):Int) - ((0:Nat):Int)=Builtin.Range.rangeSize lo hi 1:=by rw [rangeSize_one];split <;>omega
  show IsRangeIter _ _ (lo+((0:Nat):Int)*1) ((((hi - lo).toNat:Nat):Int) - ((0:Nat):Int)) 1;rw [e1,e2];exact aer _ rfl
 ·have e:b=(s.heap.push { cls:=.type "range",data:=.fields #[.int lo t,.int hi u,.int 1 v] }).objs.size:=by simpa using hb
  subst e;exact I1.K6 (ad2 _) (I1.hok.fresh (ad2 _))
def adl (ta:TA):TI:=fun σ H R=>ta σ H fun vs H1=>∃ j:Int,vs=[.int j]/\-(2 ^ 62)<=j/\j<2 ^ 62/\R (Itr 0 j.toNat) H1
def adk (ta:TA):TI:=fun σ H R=>ta σ H fun vs H1=>∃ i j:Int,vs=[.int i,.int j]/\(-(2 ^ 62)<=i/\i<2 ^ 62/\-(2 ^ 62)<=j/\j<2 ^ 62)/\R (Itr i (j - i).toNat) H1
theorem jm {a:Expr}{ta:TA}{p pos:Pos}(hg:Gl X "range")(hm:X.mg "range"=none)(ha:PA X [a] ta)(hs:starEach [a] X.env=[(false,eval a X.env)]:=by rfl):PI X tg (.Call (.Name "range" p) [a] [] pos) (adl ta):=by
 intro pins s σ H R I h;refine Call_ (nJ I hg hm boot_range (aeO (thn (ha pos pins s σ H _ I h) fun us s1 ⟨vs,H1,I1,r1,q1⟩=>?_) hs rfl));obtain ⟨j,e,q1,q2,q⟩:=q1;subst e;cases r1 with
 | cons r rr =>
  cases rr;obtain ⟨t,rfl⟩:=r;exact call_range_1 (Jt I1 (by omega) (by omega) q1 q2 (by simpa using q))
theorem Nh {a b:Expr}{ta:TA}{p pos:Pos}(hg:Gl X "range")(hm:X.mg "range"=none)(ha:PA X [a,b] ta)(hs:starEach [a,b] X.env=[(false,eval a X.env),(false,eval b X.env)]:=by rfl)(hs2:starEach [b] X.env=[(false,eval b X.env)]:=by rfl):
  PI X tg (.Call (.Name "range" p) [a,b] [] pos) (adk ta):=by
 intro pins s σ H R I h;refine Call_ (nJ I hg hm boot_range (aeO (thn (ha pos pins s σ H _ I h) fun us s1 ⟨vs,H1,I1,r1,q1⟩=>?_) (by rw [hs,hs2]) (by rw [hs2];rfl)));obtain ⟨i,j,e,⟨q1,q2,q3,q4⟩,q⟩:=q1;subst e;cases r1 with
 | cons r rr =>
  cases rr with
  | cons r' rr =>
   cases rr;obtain ⟨t,rfl⟩:=r;obtain ⟨t',rfl⟩:=r';exact call_range_2 (Jt I1 q1 q2 q3 q4 q)
def uw (wi:TI)(g:TG)(tb:TS):TS:=fun D σ H=>wi σ H fun J H1=>∃ W:Nat->Nat->St->Hp->Prop,(∃ m,W 0 m σ H1)/\∀ i m σ H,W i m σ H ->
 (J.stop i H/\D.nx σ H)\/(J.go i H/\∃ N:St->Hp->Prop,(∀ σ' H',N σ' H'->∃ m',m'<m/\W (i+1) m' σ' H')/\∀ x H',J.yld i H x H'->g x σ H' fun σ2 H2=>tb { D with nx:=N,ct:=N,bk:=D.nx } σ2 H2)
def Gf (fp:List Addr)(h:Heap):List (Addr × Obj):=fp.filterMap fun b=>(h.get? b).map fun o=>(b,o)
theorem sZ {fp:List Addr}{h:Heap}{b:Addr}{o:Obj}(hb:b∈fp)(e:h.get? b=some o):(b,o)∈Gf fp h:=List.mem_filterMap.mpr ⟨b,hb,by rw [e];rfl⟩
theorem NP {fp:List Addr}{h:Heap}{p:Addr × Obj}(hp:p∈Gf fp h):p.1∈fp/\h.get? p.1=some p.2:=by
 obtain ⟨b,hb,e⟩:=List.mem_filterMap.mp hp;cases q:h.get? b with
 | none=>rw [q] at e;cases e
 | some o =>
  rw [q] at e;have e':(b,o)=p:=aek e;subst e';exact ⟨hb,q⟩
theorem Inv.pinned {pins:List (Addr × Obj)}{σ:St}{H:Hp}{s:Shared}{fp:List Addr}(I:Inv X pins σ H s)(hf:∀ b∈fp,G8 X pins H b)(ho:∀ b∈fp,∃ o,s.heap.get? b=some o/\∀ v,o.data≠.cell v):Inv X (pins++Gf fp s.heap) σ H s:=
 I.Hv fun p hp=>(aem.mp hp).elim (fun z=>I.pin p (ad4 _ z)) fun z=>by
  obtain ⟨hb,e⟩:=NP z;obtain ⟨f0,f1,f2,_⟩:=hf p.1 hb;obtain ⟨o,e',d⟩:=ho p.1 hb;rw [e] at e';cases e';exact ⟨e,f0,f1,f2,d⟩
theorem Inv.j6 {pins pl:List (Addr × Obj)}{σ:St}{H:Hp}{s:Shared}(I:Inv X (pins++pl) σ H s):Inv X pins σ H s:=I.Hv fun p hp=>I.pin p (ad4 _ (aeL _ hp))
theorem cI {iter:Expr}{body:List Stmt}{wi:TI}{g:TG}{tb:TS}{pos:Pos}(hp:PassesOwn (model X.prog X.w) X.A X.env X.xe)(hc:X.calm=true)(hi:PI X tg iter wi)(hg:PG X tg g)(hb:PSs X body tb)
  (hs:∀ x,foldedSetIterable iter X.env x=pure x:=by intro _;rfl):PS X (.For tg iter body [] pos) (uw wi g tb):=by
 intro pins s σ H D I h;refine wpAny_For (thn (hi pins s σ H _ I h) fun v s1 h1=>thn h1 fun itv s2 h2=>?_) hs;obtain ⟨it,fp,tn,J,H2,e,I2,T,st2,f2,W,⟨m0,w0⟩,turn⟩:=h2;subst e;have stat:∀ {H':Hp},(∀ b∈fp,H' b=none)->∀ b∈fp,G8 X pins H' b:=fun hn b hb=>⟨hn b hb,(f2 b hb).2⟩;refine codeAny_forLoop_any (fun n s'=>∃ i σ' H',Inv X pins σ' H' s'/\tn i s'.heap/\(∀ b∈fp,H' b=none)/\W i n σ' H') ?_ m0 ⟨0,σ,H2,I2,st2,fun b hb=>(f2 b hb).1,w0⟩;rintro n s3 ⟨i,σ3,H3,I3,st3,fr3,w3⟩;rcases turn i n σ3 H3 w3 with ⟨stop,qn⟩ | ⟨go,N,hN,step⟩
 ·refine wpAny_passesOwn hp (thn (T.done X rfl rfl rfl hc i pins s3 σ3 H3 X.xe I3 (stat fr3) st3 stop) fun r s4 ⟨hr,I4⟩=>?_);subst hr;exact wpAny_execs_nil ⟨σ3,H3,I4,qn⟩
 ·refine wpAny_passesOwn hp (thn (T.item X rfl rfl rfl hc i pins s3 σ3 H3 X.xe I3 (stat fr3) st3 go) fun r s4 ⟨u,hr,h4⟩=>?_);subst hr;refine wpAny_passesOwn hp (thn h4 fun _ s5 ⟨x,H5,I5,r5,y5,st5,fr5⟩=>?_);have I5':=I5.pinned (stat fr5) (T.obj _ _ st5);refine wpAny_passesOwn hp (thn (hg _ s5 σ3 H5 x u _ I5' r5 (step x H5 y5)) fun _ s6 ⟨σ6,H6,I6,q6⟩=>?_);refine wpAny_passesOwn hp (thn (hb _ s6 σ6 H6 _ I6 q6) fun f s7 q7=>?_);have again:∀ {σ7:St}{H7:Hp},Inv X (pins++Gf fp s5.heap) σ7 H7 s7->N σ7 H7->∃ m,m<n/\∃ i σ' H',Inv X pins σ' H' s7/\tn i s7.heap/\(∀ b∈fp,H' b=none)/\W i m σ' H':=fun {σ7 H7} I7 n7=>by
   obtain ⟨m',hm,w7⟩:=hN σ7 H7 n7;refine ⟨m',hm,i+1,σ7,H7,I7.j6,T.keep _ _ _ st5 fun b hb o e=>(I7.pin (b,o) (ad4 _ (ad4 _ (sZ hb e)))).1,fun b hb=>?_,w7⟩;obtain ⟨o,e,d⟩:=T.obj _ _ st5 b hb;exact (I7.pin (b,o) (ad4 _ (ad4 _ (sZ hb e)))).2.1
  cases f with
  | next=>obtain ⟨σ7,H7,I7,n7⟩:=q7;exact again I7 n7
  | cont=>obtain ⟨σ7,H7,I7,n7⟩:=q7;exact again I7 n7
  | brk=>obtain ⟨σ7,H7,I7,q7⟩:=q7;exact ⟨σ7,H7,I7.j6,q7⟩
  | ret v=>obtain ⟨x7,σ7,H7,I7,r7,q7⟩:=q7;exact ⟨x7,σ7,H7,I7.j6,r7,q7⟩
end
theorem dB {K:PySem.W.Frag}{a:Addr}{xs:List V}{g:TG}{tb:TS}{D:Ends}{σ:St}{H:Hp}(Pv:Nat->St->Hp->Prop)(h0:Pv 0 σ H)(hl:∀ i σ H,i<=xs.length->Pv i σ H->SqL K H a xs)
  (hs:∀ i x σ H,xs[i]?=some x->Pv i σ H->g x σ H fun σ2 H2=>tb { D with nx:=Pv (i+1),ct:=Pv (i+1),bk:=D.nx } σ2 H2)(hd:∀ σ H,Pv xs.length σ H->D.nx σ H):
  ∃ W:Nat->Nat->St->Hp->Prop,(∃ m,W 0 m σ H)/\∀ i m σ H,W i m σ H ->
   ((Itl K a).stop i H/\D.nx σ H)\/((Itl K a).go i H/\∃ N:St->Hp->Prop,(∀ σ' H',N σ' H'->∃ m',m'<m/\W (i+1) m' σ' H')/\∀ x H',(Itl K a).yld i H x H'->g x σ H' fun σ2 H2=>tb { D with nx:=N,ct:=N,bk:=D.nx } σ2 H2):=by
 refine ⟨fun i m σ H=>m=xs.length - i/\i<=xs.length/\Pv i σ H,⟨xs.length,by simp,aez _,h0⟩,?_⟩
 rintro i m σ H ⟨rfl,hi,p⟩
 have q:=hl i σ H hi p
 by_cases hlt:i<xs.length
 ·refine .inr ⟨⟨xs,xs[i],q,by simp [hlt]⟩,Pv (i+1),fun σ' H' p'=>⟨xs.length - (i+1),by omega,rfl,hlt,p'⟩,fun x H' y=>?_⟩
  obtain ⟨e,y⟩:=y
  subst e
  exact hs i x σ _ (y xs q) p
 ·have e:i=xs.length:=by omega
  subst e
  exact .inl ⟨⟨xs,q,ad2 _⟩,hd σ H p⟩
theorem lG {lo:Int}{n:Nat}{g:TG}{tb:TS}{D:Ends}{σ:St}{H:Hp}(Pv:Nat->St->Hp->Prop)(h0:Pv 0 σ H)
  (hs:∀ i σ H,i<n->Pv i σ H->g (.int (lo+i)) σ H fun σ2 H2=>tb { D with nx:=Pv (i+1),ct:=Pv (i+1),bk:=D.nx } σ2 H2)(hd:∀ σ H,Pv n σ H->D.nx σ H):
  ∃ W:Nat->Nat->St->Hp->Prop,(∃ m,W 0 m σ H)/\∀ i m σ H,W i m σ H ->
   ((Itr lo n).stop i H/\D.nx σ H)\/((Itr lo n).go i H/\∃ N:St->Hp->Prop,(∀ σ' H',N σ' H'->∃ m',m'<m/\W (i+1) m' σ' H')/\∀ x H',(Itr lo n).yld i H x H'->g x σ H' fun σ2 H2=>tb { D with nx:=N,ct:=N,bk:=D.nx } σ2 H2):=by
 refine ⟨fun i m σ H=>m=n - i/\i<=n/\Pv i σ H,⟨n,by simp,aez _,h0⟩,?_⟩
 rintro i m σ H ⟨rfl,hi,p⟩
 by_cases hlt:i<n
 ·refine .inr ⟨hlt,Pv (i+1),fun σ' H' p'=>⟨n - (i+1),by omega,rfl,hlt,p'⟩,fun x H' y=>?_⟩
  obtain ⟨e,y⟩:=y
  subst e y
  exact hs i σ _ hlt p
 ·have e:i=n:=by omega
  subst e
  exact .inl ⟨ad2 _,hd σ H p⟩
abbrev R2:=V->V->Hp->VK->Prop
def OpR (X:Cx)(f:Value->Value->Sem Value)(r:R2):Prop:=
 ∀ (pins:List (Addr × Obj))(s:Shared)(σ:St)(H:Hp)(x y:V)(v u:Value)(Q:VK),Inv X pins σ H s->RelV x v->RelV y u->r x y H Q ->
  wpAny (model X.prog X.w) X.A (f v u) (EP X pins σ Q) X.xe s
def UnR (X:Cx)(f:Value->Sem Value)(r:V->Hp->VK->Prop):Prop:=
 ∀ (pins:List (Addr × Obj))(s:Shared)(σ:St)(H:Hp)(x:V)(v:Value)(Q:VK),Inv X pins σ H s->RelV x v->r x H Q ->
  wpAny (model X.prog X.w) X.A (f v) (EP X pins σ Q) X.xe s
def vM (X:Cx)(f:Value)(r:List V->Hp->VK->Prop):Prop:=
 ∀ (pins:List (Addr × Obj))(s:Shared)(σ:St)(H:Hp)(xs:List V)(us:List Value)(Q:VK),Inv X pins σ H s->Vals xs us->r xs H Q ->
  wpAny (model X.prog X.w) X.A (call f us) (EP X pins σ Q) X.xe s
def TruR (X:Cx)(r:V->Hp->(Bool->Hp->Prop)->Prop):Prop:=
 ∀ (pins:List (Addr × Obj))(s:Shared)(σ:St)(H:Hp)(x:V)(v:Value)(Q:Bool->Hp->Prop),Inv X pins σ H s->RelV x v->r x H Q ->
  wpAny (model X.prog X.w) X.A (truthy v) (TP X pins σ Q) X.xe s
def tOp (r:R2)(ta tb:TE):TE:=fun σ H Q=>ta σ H fun x H1=>tb σ H1 fun y H2=>r x y H2 Q
def tUn (r:V->Hp->VK->Prop)(ta:TE):TE:=fun σ H Q=>ta σ H fun x H1=>r x H1 Q
inductive rI (C:Int->Int->Prop)(g:Int->Int->V)(x y:V)(H:Hp)(Q:VK):Prop
 | mk (i j:Int)(_:x=.int i)(_:y=.int j)(_:C i j)(_:Q (g i j) H)
inductive rI0 (g:Int->Int->V)(x y:V)(H:Hp)(Q:VK):Prop
 | mk (i j:Int)(_:x=.int i)(_:y=.int j)(_:Q (g i j) H)
def rU (g:Int->V):V->Hp->VK->Prop:=fun x H Q=>∃ i,x=.int i/\Q (g i) H
section
variable {X:Cx}{a b c:Expr}{ta tb tc:TE}{pos:Pos}
theorem ady (ha:PE X a ta)(hb:PE X b tb){pins:List (Addr × Obj)}{s:Shared}{σ:St}{H:Hp}{R:V->V->Hp->Prop}(I:Inv X pins σ H s)
  (h:ta σ H fun x H1=>tb σ H1 fun y H2=>R x y H2){Q:Value->Shared->Prop}{f:Value->Value->Sem Value}
  (hf:∀ v u s2 x y H2,Inv X pins σ H2 s2->RelV x v->RelV y u->R x y H2->wpAny (model X.prog X.w) X.A (f v u) Q X.xe s2):
  wpAny (model X.prog X.w) X.A (eval a X.env) (fun v s₁=>wpAny (model X.prog X.w) X.A (eval b X.env) (fun u s₂=>wpAny (model X.prog X.w) X.A (f v u) Q X.xe s₂) X.xe s₁) X.xe s:=by
 refine thn (ha pins s σ H _ I h) fun v s1 ⟨x,H1,I1,r1,q1⟩=>?_
 refine thn (hb pins s1 σ H1 _ I1 q1) fun u s2 ⟨y,H2,I2,r2,q2⟩=>?_
 exact hf v u s2 x y H2 I2 r1 r2 q2
theorem bB {op:Operator}{r:R2}(ho:OpR X (binaryOp op) r)(ha:PE X a ta)(hb:PE X b tb):PE X (.BinOp a op b pos) (tOp r ta tb):=by
 intro pins s σ H Q I h;exact wpAny_BinOp (ady ha hb I h fun v u s2 x y H2 I2 rx ry q=>ho pins s2 σ H2 x y v u Q I2 rx ry q)
theorem vZ {op:UnaryOp}{r:V->Hp->VK->Prop}(ho:UnR X (unaryOp op) r)(ha:PE X a ta):PE X (.UnaryOp op a pos) (tUn r ta):=by
 intro pins s σ H Q I h;exact UnaryOp_ (thn (ha pins s σ H _ I h) fun v s1 ⟨x,H1,I1,r1,q1⟩=>ho pins s1 σ H1 x v Q I1 r1 q1)
theorem opI {f:Value->Value->Sem Value}{C:Int->Int->Prop}{g:Int->Int->Int}
  (rule:∀ (i j:Int)(t u:Tok)(s:Shared)(Q:Value->Shared->Prop)(E:Value->Shared->Prop),C i j->Q (.int (g i j) s.toks) { s with toks:=s.toks+1 }->wpAny (model X.prog X.w) X.A (f (.int i t) (.int j u)) Q E s):
  OpR X f (rI C fun i j=>.int (g i j)):=by
 intro pins s σ H x y v u Q I rx ry h
 obtain ⟨i,j,rfl,rfl,hc,q⟩:=h
 obtain ⟨t,rfl⟩:=rx
 obtain ⟨t',rfl⟩:=ry
 exact rule i j t t' s _ _ hc ⟨.int (g i j),H,I.tok _,⟨_,rfl⟩,q⟩
theorem adI {f:Value->Value->Sem Value}{g:Int->Int->Int}
  (rule:∀ (i j:Int)(t u:Tok)(s:Shared)(Q:Value->Shared->Prop)(E:Value->Shared->Prop),Q (.int (g i j) s.toks) { s with toks:=s.toks+1 }->wpAny (model X.prog X.w) X.A (f (.int i t) (.int j u)) Q E s):
  OpR X f (rI0 fun i j=>.int (g i j)):=by
 intro pins s σ H x y v u Q I rx ry h
 obtain ⟨i,j,rfl,rfl,q⟩:=h
 obtain ⟨t,rfl⟩:=rx
 obtain ⟨t',rfl⟩:=ry
 exact rule i j t t' s _ _ ⟨.int (g i j),H,I.tok _,⟨_,rfl⟩,q⟩
theorem acj {f:Value->Value->Sem Value}{g:Int->Int->Bool}
  (rule:∀ (i j:Int)(t u:Tok)(s:Shared)(Q:Value->Shared->Prop)(E:Value->Shared->Prop),Q (.bool (g i j)) s->wpAny (model X.prog X.w) X.A (f (.int i t) (.int j u)) Q E s):
  OpR X f (rI0 fun i j=>.bl (g i j)):=by
 intro pins s σ H x y v u Q I rx ry h
 obtain ⟨i,j,rfl,rfl,q⟩:=h
 obtain ⟨t,rfl⟩:=rx
 obtain ⟨t',rfl⟩:=ry
 exact rule i j t t' s _ _ ⟨.bl (g i j),H,I,rfl,q⟩
def CDiv (i j:Int):Prop:=0<j/\j<1073741824
def CPow (i j:Int):Prop:=0<=j/\j<=1000000/\i.natAbs<2 ^ 64
def adE (i j:Int):Prop:=(-(2 ^ 64)<i/\i<2 ^ 64)\/(-(2 ^ 64)<j/\j<2 ^ 64)
theorem adE.ok {i j:Int}(h:adE i j):IntMulOk i j:=by
 rcases h with ⟨h1,h2⟩ | ⟨h1,h2⟩
 ·exact .of_left (intBits_le_64 h1 h2)
 ·exact .of_right (intBits_le_64 h1 h2)
theorem mH:OpR X (binaryOp .Add) (rI0 fun i j=>.int (i+j)):=adI fun _ _ _ _ _ _ _ q=>add_int q
theorem wz:OpR X (binaryOp .Sub) (rI0 fun i j=>.int (i - j)):=adI fun _ _ _ _ _ _ _ q=>sub_int q
theorem Gi:OpR X (binaryOp .Mult) (rI adE fun i j=>.int (i*j)):=opI fun _ _ _ _ _ _ _ hc q=>mul_int q hc.ok
theorem qz:OpR X (binaryOp .FloorDiv) (rI CDiv fun i j=>.int (i / j)):=opI fun i j _ _ _ _ _ hc q=>by
 have h1:(0:Int)<j:=hc.1;have h2:j<1073741824:=hc.2;exact floordiv_int (by omega) (by rw [Int.fdiv_eq_ediv_of_nonneg i (by omega)];exact q) (.inl (PyProof.noPylong_small (by omega)))
theorem jq:OpR X (binaryOp .Mod) (rI (fun _ j=>0<j) fun i j=>.int (i % j)):=opI fun i j _ _ _ _ _ hc q=>by
 have h1:(0:Int)<j:=hc;exact mod_int' (by omega) (by rw [Int.fmod_eq_emod_of_nonneg i (by omega)];exact q)
theorem Jy:OpR X (binaryOp .Pow) (rI CPow fun i j=>.int (i ^ j.toNat)):=opI fun _ _ _ _ _ _ _ hc q=>pow_int_small hc.1 hc.2.1 hc.2.2 q
theorem unI {f:Value->Sem Value}{g:Int->Int}
  (rule:∀ (i:Int)(t:Tok)(s:Shared)(Q:Value->Shared->Prop)(E:Value->Shared->Prop),Q (.int (g i) s.toks) { s with toks:=s.toks+1 }->wpAny (model X.prog X.w) X.A (f (.int i t)) Q E s):
  UnR X f (rU fun i=>.int (g i)):=by
 intro pins s σ H x v Q I rx h
 obtain ⟨i,rfl,q⟩:=h
 obtain ⟨t,rfl⟩:=rx
 exact rule i t s _ _ ⟨.int (g i),H,I.tok _,⟨_,rfl⟩,q⟩
theorem mj:UnR X (unaryOp .USub) (rU fun i=>.int (-i)):=unI fun _ _ _ _ _ q=>neg_int q
end
def adG:V->V->Bool
 | .non,.non=>true| .non,.int _=>true| .int _,.non=>true| .non,.bl _=>true| .bl _,.non=>true| .non,.str _=>true| .str _,.non=>true
 | .int _,.int _=>true| .bl _,.bl _=>true| .str _,.str _=>true| .byt _,.byt _=>true
 | .int _,.str _=>true| .str _,.int _=>true| .bl _,.str _=>true| .str _,.bl _=>true
 | _,_=>false
def rEq:R2:=fun x y H Q=>adG x y=true/\Q (.bl (decide (x=y))) H
def rNe:R2:=fun x y H Q=>adG x y=true/\Q (.bl (!decide (x=y))) H
theorem Qe {i j:Int}:decide (V.int i=V.int j)=(i ==j):=by
 rw [aeZ];simp
theorem YS {i j:Bool}:decide (V.bl i=V.bl j)=(i ==j):=by
 rw [aeZ];simp
theorem Qd {i j:Str}:decide (V.str i=V.str j)=(i ==j):=by
 rw [aeZ];simp
theorem Qf {i j:Array UInt8}:decide (V.byt i=V.byt j)=(i.toList ==j.toList):=by
 rw [aeZ];cases i;cases j;simp
section
variable {X:Cx}{a b c:Expr}{ta tb tc:TE}{pos:Pos}
theorem cL {pins:List (Addr × Obj)}{σ:St}{H:Hp}{s:Shared}{Q:VK}{k k':Bool}(I:Inv X pins σ H s)(q:Q (.bl k) H)(e:k=k'):EP X pins σ Q (.bool k') s:=by
 subst e;exact ⟨.bl k,H,I,rfl,q⟩
theorem qC:OpR X (compareOp .Eq) rEq:=by
 intro pins s σ H x y v u Q I rx ry h;obtain ⟨hs,q⟩:=h;cases x with
 | non =>
  cases rx;cases y with
  | non=>cases ry;exact PySem.EqNone.eq_none_none (cL I q (by simp))
  | bl j=>cases ry;exact PySem.EqNone.eq_none_bool (cL I q (by simp))
  | int j=>obtain ⟨t',rfl⟩:=ry;exact PySem.EqNone.eq_none_int (cL I q (by simp))
  | str j=>obtain ⟨t',rfl⟩:=ry;exact PySem.EqNone.eq_none_str (cL I q (by simp))
  | _=>exact absurd (show false=true from hs) aec
 | bl i =>
  cases rx;cases y with
  | non=>cases ry;exact PySem.EqNone.eq_bool_none (cL I q (by simp))
  | bl j=>cases ry;exact eq_bool (cL I q YS)
  | str j=>obtain ⟨t',rfl⟩:=ry;exact PySem.EqMixed.eq_bool_str (cL I q (by simp))
  | _=>exact absurd (show false=true from hs) aec
 | int i =>
  obtain ⟨t,rfl⟩:=rx;cases y with
  | non=>cases ry;exact PySem.EqNone.eq_int_none (cL I q (by simp))
  | int j=>obtain ⟨t',rfl⟩:=ry;exact eq_int (cL I q Qe)
  | str j=>obtain ⟨t',rfl⟩:=ry;exact PySem.EqMixed.eq_int_str (cL I q (by simp))
  | _=>exact absurd (show false=true from hs) aec
 | str i =>
  obtain ⟨t,rfl⟩:=rx;cases y with
  | non=>cases ry;exact PySem.EqNone.eq_str_none (cL I q (by simp))
  | bl j=>cases ry;exact PySem.EqMixed.eq_str_bool (cL I q (by simp))
  | int j=>obtain ⟨t',rfl⟩:=ry;exact PySem.EqMixed.eq_str_int (cL I q (by simp))
  | str j=>obtain ⟨t',rfl⟩:=ry;exact eq_str (cL I q Qd)
  | _=>exact absurd (show false=true from hs) aec
 | byt i =>
  obtain ⟨t,rfl⟩:=rx;cases y with
  | byt j=>obtain ⟨t',rfl⟩:=ry;exact PySem.W.eq_bytes (cL I q Qf)
  | _=>exact absurd (show false=true from hs) aec
 | _=>cases y <;>exact absurd (show false=true from hs) aec
theorem zc:OpR X (compareOp .NotEq) rNe:=by
 intro pins s σ H x y v u Q I rx ry h;obtain ⟨hs,q⟩:=h;cases x with
 | non =>
  cases rx;cases y with
  | non=>cases ry;exact PySem.EqNone.ne_none_none (cL I q (by simp))
  | bl j=>cases ry;exact PySem.EqNone.ne_none_bool (cL I q (by simp))
  | int j=>obtain ⟨t',rfl⟩:=ry;exact PySem.EqNone.ne_none_int (cL I q (by simp))
  | str j=>obtain ⟨t',rfl⟩:=ry;exact PySem.EqNone.ne_none_str (cL I q (by simp))
  | _=>exact absurd (show false=true from hs) aec
 | bl i =>
  cases rx;cases y with
  | non=>cases ry;exact PySem.EqNone.ne_bool_none (cL I q (by simp))
  | bl j=>cases ry;exact ne_bool (cL I q (congrArg not YS))
  | str j=>obtain ⟨t',rfl⟩:=ry;exact PySem.EqMixed.ne_bool_str (cL I q (by simp))
  | _=>exact absurd (show false=true from hs) aec
 | int i =>
  obtain ⟨t,rfl⟩:=rx;cases y with
  | non=>cases ry;exact PySem.EqNone.ne_int_none (cL I q (by simp))
  | int j=>obtain ⟨t',rfl⟩:=ry;exact ne_int (cL I q (congrArg not Qe))
  | str j=>obtain ⟨t',rfl⟩:=ry;exact PySem.EqMixed.ne_int_str (cL I q (by simp))
  | _=>exact absurd (show false=true from hs) aec
 | str i =>
  obtain ⟨t,rfl⟩:=rx;cases y with
  | non=>cases ry;exact PySem.EqNone.ne_str_none (cL I q (by simp))
  | bl j=>cases ry;exact PySem.EqMixed.ne_str_bool (cL I q (by simp))
  | int j=>obtain ⟨t',rfl⟩:=ry;exact PySem.EqMixed.ne_str_int (cL I q (by simp))
  | str j=>obtain ⟨t',rfl⟩:=ry;exact ne_str (cL I q (congrArg not Qd))
  | _=>exact absurd (show false=true from hs) aec
 | byt i =>
  obtain ⟨t,rfl⟩:=rx;cases y with
  | byt j=>obtain ⟨t',rfl⟩:=ry;exact PySem.W.ne_bytes (cL I q (congrArg not Qf))
  | _=>exact absurd (show false=true from hs) aec
 | _=>cases y <;>exact absurd (show false=true from hs) aec
theorem uP:OpR X (compareOp .Lt) (rI0 fun i j=>.bl (decide (i<j))):=acj fun _ _ _ _ _ _ _ q=>lt_int q
theorem xu:OpR X (compareOp .LtE) (rI0 fun i j=>.bl (decide (i<=j))):=acj fun _ _ _ _ _ _ _ q=>le_int q
theorem KH:OpR X (compareOp .Gt) (rI0 fun i j=>.bl (decide (j<i))):=acj fun _ _ _ _ _ _ _ q=>gt_int q
theorem aaY:OpR X (compareOp .GtE) (rI0 fun i j=>.bl (decide (j<=i))):=acj fun _ _ _ _ _ _ _ q=>ge_int q
theorem Nt:OpR X (compareOp .In) (fun x y H Q=>∃ i j,x=.str i/\y=.str j/\Q (.bl (!(Builtin.Str.occurrences j i 0 j.length 1).isEmpty)) H):=by
 intro pins s σ H x y v u Q I rx ry h;obtain ⟨i,j,rfl,rfl,q⟩:=h;obtain ⟨t,rfl⟩:=rx;obtain ⟨t',rfl⟩:=ry;exact in_str (cL I q rfl)
theorem Nr:OpR X (compareOp .Is) (fun x y H Q=>y=.non/\Q (.bl (decide (x=.non))) H):=by
 intro pins s σ H x y v u Q I rx ry h;obtain ⟨rfl,q⟩:=h;cases ry;refine is_none_gen (cL I q ?_);cases x <;>first
  | (cases rx;rfl)
  | (obtain ⟨t,rfl⟩:=rx;rfl)
theorem aX (b:Expr){op:CmpOp}(h:op≠.In:=by decide)(h2:op≠.NotIn:=by decide):behindInMarks op b=false:=by
 have e1:(op ==CmpOp.In)=false:=by cases op <;>first| rfl| exact absurd rfl h
 have e2:(op ==CmpOp.NotIn)=false:=by cases op <;>first| rfl| exact absurd rfl h2
 cases b <;>simp [behindInMarks,e1,e2]
theorem qy {op:CmpOp}{r:R2}(ho:OpR X (compareOp op) r)(ha:PE X a ta)(hb:PE X b tb)(hm:behindInMarks op b=false):PE X (.Compare a [op] [b] pos) (tOp r ta tb):=by
 intro pins s σ H Q I h;exact wpAny_Compare1 (ady ha hb I h fun v u s2 x y H2 I2 rx ry q=>ho pins s2 σ H2 x y v u Q I2 rx ry q) hm
def Y7 (t:TE):TT:=fun σ H Q=>t σ H fun x H'=>abA x fun k=>Q k H'
theorem aP {op:CmpOp}{r:R2}(ho:OpR X (compareOp op) r)(ha:PE X a ta)(hb:PE X b tb)(hm:behindInMarks op b=false):PT X (.Compare a [op] [b] pos) (Y7 (tOp r ta tb)):=by
 intro pins s σ H Q I h;refine wpAny_isTrue_Compare1 (thn (ha pins s σ H _ I h) fun v s1 ⟨x,H1,I1,r1,q1⟩=>thn (hb pins s1 σ H1 _ I1 q1) fun u s2 ⟨y,H2,I2,r2,q2⟩=>
  thn (ho pins s2 σ H2 x y v u _ I2 r1 r2 q2) fun c s3 ⟨z,H3,I3,r3,k,e,q3⟩=>?_) hm
 subst e;cases r3;exact wpAny_truthy_bool ⟨H3,I3,q3⟩
def Tf (r r':R2)(ta tb tc:TE):TE:=fun σ H Q=>ta σ H fun x H1=>tb σ H1 fun y H2=>r x y H2 fun z H3=>∃ k,z=.bl k /\
 (if k=true then tc σ H3 fun w' H4=>r' y w' H4 Q else Q (.bl false) H3)
theorem Dv {op op':CmpOp}{r r':R2}(ho:OpR X (compareOp op) r)(ho':OpR X (compareOp op') r')(ha:PE X a ta)(hb:PE X b tb)(hc:PE X c tc)
  (hm:lastMarks [op,op'] [b,c]=false:=by with_unfolding_all rfl):PE X (.Compare a [op,op'] [b,c] pos) (Tf r r' ta tb tc):=by
 intro pins s σ H Q I h;refine Compare_chain (thn (ha pins s σ H _ I h) fun v s1 ⟨x,H1,I1,r1,q1⟩=>chain_link (thn (hb pins s1 σ H1 _ I1 q1) fun u s2 ⟨y,H2,I2,r2,q2⟩=>
  thn (ho pins s2 σ H2 x y v u _ I2 r1 r2 q2) fun d s3 ⟨z,H3,I3,r3,k,e,q3⟩=>?_)) hm
 subst e;cases r3;refine wpAny_truthy_bool ?_;cases k with
 | false=>exact ite_ff ⟨.bl false,H3,I3,rfl,q3⟩
 | true=>exact ite_tt (chain_last (thn (hc pins s3 σ H3 _ I3 q3) fun w' s4 ⟨z',H4,I4,r4,q4⟩=>ho' pins s4 σ H4 y z' u w' Q I4 r2 r4 q4))
theorem vY {op op':CmpOp}{r r':R2}(ho:OpR X (compareOp op) r)(ho':OpR X (compareOp op') r')(ha:PE X a ta)(hb:PE X b tb)(hc:PE X c tc)
  (hm:lastMarks [op,op'] [b,c]=false:=by with_unfolding_all rfl):PT X (.Compare a [op,op'] [b,c] pos) (Y7 (Tf r r' ta tb tc)):=by
 intro pins s σ H Q I h;refine isTrue_chain (thn (ha pins s σ H _ I h) fun v s1 ⟨x,H1,I1,r1,q1⟩=>test_link (thn (hb pins s1 σ H1 _ I1 q1) fun u s2 ⟨y,H2,I2,r2,q2⟩=>
  thn (ho pins s2 σ H2 x y v u _ I2 r1 r2 q2) fun d s3 ⟨z,H3,I3,r3,k,e,q3⟩=>?_)) hm
 subst e;cases r3;refine wpAny_truthy_bool ?_;cases k with
 | false =>
  obtain ⟨k',e',q'⟩:=q3;cases e';exact ite_ff ⟨H3,I3,q'⟩
 | true =>
  refine ite_tt (test_last (thn (hc pins s3 σ H3 _ I3 q3) fun w' s4 ⟨z',H4,I4,r4,q4⟩=>thn (ho' pins s4 σ H4 y z' u w' _ I4 r2 r4 q4) fun d' s5 ⟨z2,H5,I5,r5,k2,e2,q5⟩=>?_));subst e2;cases r5;exact wpAny_truthy_bool ⟨H5,I5,q5⟩
def adV (K:PySem.W.Frag)(x:V)(H:Hp)(k:Bool):Prop:=
 match x with
 | .non=>k=false
 | .bl b=>k=b
 | .int i=>k=(i !=0)
 | .str y=>y.length<=sizeLine/\k=((y.length:Int) !=0)
 | .byt y=>y.size<=sizeLine/\k=((y.size:Int) !=0)
 | .ref p=>(∃ xs,SqL K H p xs/\k=!xs.isEmpty)\/(∃ xs,SqT K H p xs/\k=!xs.isEmpty)\/∃ kvs,H p=some (.dK kvs)/\k=!kvs.isEmpty
 | _=>False
theorem K3 {κ:Type}{kvs:List (κ × V)}{vs:List (κ × Value)}(r:KV kvs vs):(!vs.isEmpty)=!kvs.isEmpty:=by
 cases r <;>rfl
theorem Cg {xs:List V}{its:List Value}(r:Vals xs its):(!its.toArray.isEmpty)=!xs.isEmpty:=by
 cases r <;>simp
theorem wB:(sizeLine:Nat)<2 ^ 63:=by rw [sizeLine_eq];decide
theorem aaq:TruR X (fun x H Q=>∃ k,adV X.K x H k/\Q k H):=by
 intro pins s σ H x v Q I rx h;obtain ⟨k,e,q⟩:=h;have hl:=wB;have hs:sizeLine=16777216:=sizeLine_eq;cases x with
 | non =>
  cases rx;have e':k=false:=e;subst e';exact truthy_none ⟨H,I,q⟩
 | bl b =>
  cases rx;have e':k=b:=e;subst e';exact wpAny_truthy_bool ⟨H,I,q⟩
 | int i =>
  obtain ⟨t,rfl⟩:=rx;have e':k=(i !=0):=e;subst e';exact PySem.P.truthy_int ⟨H,I,q⟩
 | str y =>
  obtain ⟨t,rfl⟩:=rx;obtain ⟨hy,e'⟩:y.length<=sizeLine/\k=((y.length:Int) !=0):=e;subst e';exact PySem.P.truthy_str (by omega) ⟨H,I.tok _,q⟩
 | byt y =>
  obtain ⟨t,rfl⟩:=rx;obtain ⟨hy,e'⟩:y.size<=sizeLine/\k=((y.size:Int) !=0):=e;subst e';exact PySem.W.truthy_bytes (by omega) ⟨H,I.tok _,q⟩
 | ref p =>
  cases rx;have e':(∃ xs,SqL X.K H p xs/\k=!xs.isEmpty)\/(∃ xs,SqT X.K H p xs/\k=!xs.isEmpty)\/∃ kvs,H p=some (.dK kvs)/\k=!kvs.isEmpty:=e;rcases e' with ⟨xs,hx,e'⟩ | ⟨xs,hx,e'⟩ | ⟨kvs,hx,e'⟩
  ·subst e';obtain ⟨its,r,pl,hz⟩:=I.list hx;have hlen:=r.length;exact wpAny_truthy_list pl.isList (by simp only [aee];omega) ⟨H,I.tok _,by rw [Cg r];exact q⟩
  ·subst e';obtain ⟨its,r,pl,hz⟩:=I.tuple hx;have hlen:=r.length;exact truthy_tuple pl (by simp only [aee];omega) ⟨H,I.tok _,by rw [Cg r];exact q⟩
  ·subst e';obtain ⟨hz,hS,vs,r,m⟩:kvs.length<=sizeLine/\(p ==sysModules)=false/\∃ vs,KV kvs vs/\s.heap.DictOf (iD X.prog X.w) p vs:=I.hok p _ hx;have hlen:kvs.length=vs.length:=Paired.length r;exact wpAny_truthy_dict hS m (by omega) ⟨H,I.tok _,by rw [K3 r];exact q⟩
 | _=>exact (show False from e).elim
theorem Ra (ha:PE X a ta)(he:∀ whole,isTrue a X.env whole=(do let v <- whole;standAt a.pos;holding [v] (truthy v))):
  PT X a (fun σ H Q=>ta σ H fun x H'=>∃ k,adV X.K x H' k/\Q k H'):=by
 intro pins s σ H Q I h;exact isTrue_plain (thn (ha pins s σ H _ I h) fun v s1 ⟨x,H1,I1,r1,q1⟩=>aaq pins s1 σ H1 x v Q I1 r1 q1) (he _)
theorem vals1 {x:V}{us:List Value}(r:Vals [x] us):∃ u,us=[u]/\RelV x u:=by
 cases r with
 | cons r1 r2=>cases r2;exact ⟨_,rfl,r1⟩
theorem vals2 {x y:V}{us:List Value}(r:Vals [x,y] us):∃ u w',us=[u,w']/\RelV x u/\RelV y w':=by
 cases r with
 | cons r1 r2 =>
  cases r2 with
  | cons r3 r4=>cases r4;exact ⟨_,_,rfl,r1,r3⟩
theorem GF (hc:X.calm=true):vM X (.builtin "max") (fun xs H Q=>∃ i j,xs=[.int i,.int j]/\Q (.int (if j >i then j else i)) H):=by
 intro pins s σ H xs us Q I r h;obtain ⟨i,j,rfl,q⟩:=h;obtain ⟨u,w',rfl,⟨t,rfl⟩,⟨t',rfl⟩⟩:=vals2 r;refine max_two_ints (I.ok.hd hc) fun h' tk k=>⟨_,H,I.kept k,?_,q⟩;by_cases hj:j >i
 ·rw [if_pos hj,if_pos hj];exact ⟨_,rfl⟩
 ·rw [if_neg hj,if_neg hj];exact ⟨_,rfl⟩
theorem sE (hc:X.calm=true):vM X (.builtin "min") (fun xs H Q=>∃ i j,xs=[.int i,.int j]/\Q (.int (if j<i then j else i)) H):=by
 intro pins s σ H xs us Q I r h;obtain ⟨i,j,rfl,q⟩:=h;obtain ⟨u,w',rfl,⟨t,rfl⟩,⟨t',rfl⟩⟩:=vals2 r;refine min_two_ints (I.ok.hd hc) fun h' tk k=>⟨_,H,I.kept k,?_,q⟩;by_cases hj:j<i
 ·rw [if_pos hj,if_pos hj];exact ⟨_,rfl⟩
 ·rw [if_neg hj,if_neg hj];exact ⟨_,rfl⟩
end
structure aag (h:Heap)(x dx C:Addr)(mA:Str->Option Value):Prop where
 obj:h.get? x=some (instObj C dx)
 ns:h.Ns1 dx mA
 ne:dx≠x
theorem Oa {h:Heap}{dx:Addr}{mA:Str->Option Value}(n:h.Ns1 dx mA):∃ od,h.get? dx=some od/\∀ name,lookIn name od=some (mA name):=by
 obtain ⟨o,es,ep,ho,hd,hk,_,hm⟩:=n;refine ⟨o,ho,fun name=>?_⟩;have e:=hm name;unfold nsFind findBy at e;rw [<- Array.find?_toList] at e;unfold lookIn;rw [hd];dsimp only;split
 ·rename_i y q
  rw [q] at e;exact congrArg some e
 ·rename_i q
  rw [q] at e;have a:es.toList.any (·.refKey)=false:=by
   rw [List.any_eq_false];intro y hy;obtain ⟨z,t,hkey⟩:=hk y (Array.mem_toList_iff.mp hy);simp [DictEntry.refKey,hkey]
  have a':¬ es.toList.any (·.refKey)=true:=by rw [a];exact aec
  rw [if_neg a'];exact congrArg some e
theorem aag.look {h:Heap}{x dx C:Addr}{mA:Str->Option Value}(I:aag h x dx C mA):∃ od,PySem.W.InstAt h x (instObj C dx) C (some od)/\∀ name,lookIn name od=some (mA name):=
 let ⟨od,ho,hl⟩:=Oa I.ns;⟨od,⟨I.obj,rfl,rfl,ho⟩,hl⟩
section
variable {prog:Program}{w:World}{A:Around}{E:Value->Shared->Prop}{s:Shared}{K:PySem.W.Frag}{x dx C f:Addr}{mA:Str->Option Value}{name:Str}{v:Value}
theorem get_map {expr:Bool}{Q:Value->Shared->Prop}(X:K.In s.heap)(I:aag s.heap x dx C mA)(hg:plainGet K C name=true)(hh:hasDictIn K C=true)
  (ha:PySem.W.findIn K (.ref C) name=some none)(hv:mA name=some v)(hv':handedIn v=true)(h:Q v { s with toks:=s.toks+1 }):
  wpAny (model prog w) A (getAttr (.ref x) name expr) Q E s:=by
 obtain ⟨od,J,hl⟩:=I.look
 exact PySem.W.get_value X J (plainGet_of hg).1 (PySem.W.findObj_own hh ha rfl (by rw [hl,hv])) hv' h
theorem R7 {pl:Sem Bool}{Q:Value × List Value->Shared->Prop}(X:K.In s.heap)(I:aag s.heap x dx C mA)(hg:plainGet K C name=true)
  (hf:PySem.W.findIn K (.ref C) name=some (some (.ref f)))(ht:isFn K (.ref f)=true)(hv:mA name=none)(h:Q (.ref f,[.ref x]) s):
  wpAny (model prog w) A (getMethod (.ref x) name pl) Q E s:=by
 obtain ⟨od,J,hl⟩:=I.look
 exact PySem.W.method_fn X J (plainGet_of hg).1 (plainGet_of hg).2 hf (beq_iff_eq.mp ht) (by show (lookIn name od).map (·.isSome)=some false;rw [hl,hv];rfl) h
theorem Zb {ns:List Str}{Q:Unit->Shared->Prop}(X:K.In s.heap)(I:aag s.heap x dx C mA)
  (hs:PySem.W.findIn K (.ref C) "__setattr__"=some (some (.builtin "object.__setattr__")))(hp:plainOver K C=true)(ht:takerIn K C name=some none)(hh:hasDictIn K C=true)
  (hw:PySem.Within mA ns)(hsz:ns.length<=sizeLine)
  (h:∀ h',aag h' x dx C (fun y=>if y=name then some v else mA y)->Heap.SameBut dx s.heap h'->Q () { s with heap:=h',toks:=s.toks+2 }):
  wpAny (model prog w) A (setAttr (.ref x) name v) Q E s:=by
 obtain ⟨od,J,hl⟩:=I.look
 refine PySem.W.set_plain X J hs (PySem.W.osa_open (s:={ s with toks:=s.toks+1 }) (r:=none) X J hp ht fun b=>?_)
 obtain ⟨cd,hc,hd'⟩:=PySem.W.any_some hh
 have hx:s.heap.get? x=some ⟨.ref C,some dx,.plain,#[]⟩:=I.obj
 refine wpAny_bind (wpAny_pure (wpAny_bind (wpAny_bind (wpAny_loadPart hx (wpAny_bind (PySem.W.Looks.here (s:={ s with toks:=s.toks+1 }) (PySem.W.looks_clsIn X hc) ?_))))))
 rw [hd']
 refine wpAny_pure (a:=some dx) (wpAny_bind (wpAny_pure (wpAny_bind ?_)))
 refine wpAny_nsSet1 (s:={ s with toks:=s.toks+1 }) I.ns fun h' hn2 hs2=>?_
 obtain ⟨oD,esD,epD,hoD,hdD,hcD⟩:=hn2.count (PySem.Within.cons name v hw)
 refine wpAny_bind (wpAny_lookBehind hoD (by rw [hdD];exact pastItsLine_dict (aeP hcD (by rw [ael];omega))) ?_)
 exact wpAny_pure (h _ ⟨(hs2.2 _ (Ne.symm I.ne)).trans I.obj,hn2,I.ne⟩ hs2)
theorem RN {R:Result->Shared->Prop}{vs:List Value}{kw:List (Str × Value)}(X:K.In s.heap)(hm:makesIn K C=true)
  (hi:PySem.W.findIn K (.ref C) "__init__"=some (some (.ref f)))(hf:PySem.W.typeIn K (.ref f)=some (.type "function"))
  (h:codeAny (model prog w) (A.under (.builtin "type.__call__" ⟨.ref C::vs,kw⟩)) (.call (.ref f) ⟨.ref (s.heap.objs.size+1)::vs,kw⟩) (PySem.W.InitBack (s.heap.objs.size+1) R)
   { s with heap:=(s.heap.push emptyDict).push (instObj C s.heap.objs.size) }):
  codeAny (model prog w) A (.call (.ref C) ⟨vs,kw⟩) R s:=by
 obtain ⟨hh,g,d,t,os⟩:=s
 exact PySem.W.make_core (PySem.W.makes_of X hm) (PySem.W.looks_findIn X hi) (fun self=>PySem.W.bind_fn X self hf) (.inl rfl) h
end
def Ey (f:Str)(v:V):List (Str × V)->List (Str × V)
 | []=>[(f,v)]
 | (g,x)::r=>if g=f then (g,v)::r else (g,x)::Ey f v r
theorem zT (f g:Str)(v:V):∀ fs:List (Str × V),(Ey f v fs).lookup g=if g=f then some v else fs.lookup g
 | []=>by
  show List.lookup g [(f,v)]=_;by_cases h:g=f
  ·have hb:(g ==f)=true:=beq_iff_eq.mpr h;simp only [List.lookup,hb,if_pos h]
  ·have hb:(g ==f)=false:=beq_eq_false_iff_ne.mpr h;simp only [List.lookup,hb,if_neg h]
 | (k,x)::r=>by
  have ih:=zT f g v r;rw [show Ey f v ((k,x)::r)=(if k=f then (k,v)::r else (k,x)::Ey f v r) from rfl];by_cases hk:k=f
  ·rw [if_pos hk];by_cases h:g=k
   ·have hb:(g ==k)=true:=beq_iff_eq.mpr h;simp only [List.lookup,hb,if_pos (h.trans hk)]
   ·have hb:(g ==k)=false:=beq_eq_false_iff_ne.mpr h;simp only [List.lookup,hb,if_neg (fun e:g=f=>h (e.trans hk.symm))]
  ·rw [if_neg hk];by_cases h:g=k
   ·have hb:(g ==k)=true:=beq_iff_eq.mpr h;simp only [List.lookup,hb,if_neg (fun e:g=f=>hk (h.symm.trans e))]
   ·have hb:(g ==k)=false:=beq_eq_false_iff_ne.mpr h;simp only [List.lookup,hb];exact ih
theorem zW (f:Str)(v:V):∀ fs:List (Str × V),f∈(Ey f v fs).map (·.1)/\∀ g,g∈fs.map (·.1)->g∈(Ey f v fs).map (·.1)
 | []=>⟨by simp [Ey],fun g h=>by simp at h⟩
 | (k,x)::r=>by
  obtain ⟨i1,i2⟩:=zW f v r;rw [show Ey f v ((k,x)::r)=(if k=f then (k,v)::r else (k,x)::Ey f v r) from rfl];by_cases hk:k=f
  ·rw [if_pos hk];subst hk;exact ⟨by simp,fun g h=>by simpa using h⟩
  ·rw [if_neg hk];refine ⟨?_,fun g h=>?_⟩
   ·rw [aey];exact aej _ i1
   ·rw [aey] at h ⊢;rcases aen.mp h with e| e
    ·exact aen.mpr (.inl e)
    ·exact aej _ (i2 g e)
theorem zU (f:Str)(v:V):∀ fs:List (Str × V),(Ey f v fs).length<=fs.length+1
 | []=>by simp [Ey]
 | (k,x)::r=>by
  have ih:=zU f v r;rw [show Ey f v ((k,x)::r)=(if k=f then (k,v)::r else (k,x)::Ey f v r) from rfl];by_cases hk:k=f
  ·rw [if_pos hk,ael,ael];omega
  ·rw [if_neg hk,ael,ael];omega
theorem QD.some_of {v:V}{o:Option Value}(r:QD (some v) o):∃ u,o=some u/\RelV v u:=by
 cases o with
 | none=>exact (show False from r).elim
 | some u=>exact ⟨u,rfl,r⟩
theorem QD.none_of {o:Option Value}(r:QD none o):o=none:=by
 cases o with
 | none=>rfl
 | some u=>exact (show False from r).elim
theorem Pj {v:V}{u:Value}(r:RelV v u):handedIn u=true:=by
 cases v with
 | non=>cases (show u=Value.none from r);rfl
 | bl b=>cases (show u=Value.bool b from r);rfl
 | int i=>obtain ⟨t,e⟩:=(show ∃ t,u=Value.int i t from r);cases e;rfl
 | str x=>obtain ⟨t,e⟩:=(show ∃ t,u=Value.str x t from r);cases e;rfl
 | byt b=>obtain ⟨t,e⟩:=(show ∃ t,u=Value.bytes b t from r);cases e;rfl
 | flt b=>obtain ⟨t,e⟩:=(show ∃ t,u=Value.float b t from r);cases e;rfl
 | ref a=>cases (show u=Value.ref a from r);rfl
 | ty n=>cases (show u=Value.type n from r);rfl
section
variable {P:Program}{w:World}{H H':Hp}{h h':Heap}{a C dx:Addr}{fs fs':List (Str × V)}
theorem DK (hok:HOk P w H h)(e:H a=some (.ins C dx fs)):∃ mA,aag h a dx C mA/\(∀ f,QD (fs.lookup f) (mA f))/\PySem.Within mA (fs.map (·.1))/\fs.length<=1000/\H dx=some (.own a):=by
 obtain ⟨d,z,ne,ob,mA,n,r,q⟩:=(show iC P w H h a (.ins C dx fs) from hok a _ e);exact ⟨mA,⟨ob,n,ne⟩,r,q,z,d⟩
end
structure Cls (K:PySem.W.Frag)(C:Addr):Prop where
 pg:plainGet K C Str.empty=true
 hd:hasDictIn K C=true
 po:plainOver K C=true
 sa:PySem.W.findIn K (.ref C) "__setattr__"=some (some (.builtin "object.__setattr__"))
theorem Cls.get {K:PySem.W.Frag}{C:Addr}(c:Cls K C)(f:Str):plainGet K C f=true:=c.pg
def jx (K:PySem.W.Frag)(C:Addr)(f:Str):Prop:=PySem.W.findIn K (.ref C) f=some none
theorem jx.taker {K:PySem.W.Frag}{C:Addr}{f:Str}(n:jx K C f):takerIn K C f=some none:=by
 unfold takerIn;rw [show PySem.W.findIn K (.ref C) f=some none from n];rfl
structure Meth (K:PySem.W.Frag)(C:Addr)(m:Str)(f:Addr):Prop where
 at_:PySem.W.findIn K (.ref C) m=some (some (.ref f))
 fn:isFn K (.ref f)=true
 kp:keepIn K (.ref f)=true
section
variable {X:Cx}{pins:List (Addr × Obj)}{σ:St}{H:Hp}{s:Shared}{a C dx:Addr}{fs:List (Str × V)}{f:Str}{v:V}{A:Around}{E:Value->Shared->Prop}
theorem Ck {b:Bool}{Q:Value->Shared->Prop}(I:Inv X pins σ H s)(e:H a=some (.ins C dx fs))(c:Cls X.K C)(n:jx X.K C f)(l:fs.lookup f=some v)
  (h:∀ u s',Inv X pins σ H s'->RelV v u->Q u s'):wpAny (model X.prog X.w) A (getAttr (.ref a) f b) Q E s:=by
 obtain ⟨mA,O,r,_,_,_⟩:=DK I.hok e;obtain ⟨u,hu,ru⟩:=QD.some_of (v:=v) (o:=mA f) (by rw [<- l];exact r f);exact get_map I.kIn O (c.get f) c.hd n hu (Pj ru) (h u _ (I.tok _) ru)
theorem Cj {m:Str}{g:Addr}{pl:Sem Bool}{Q:Value × List Value->Shared->Prop}(I:Inv X pins σ H s)(e:H a=some (.ins C dx fs))(c:Cls X.K C)(k:Meth X.K C m g)(l:fs.lookup m=none)
  (h:Q (.ref g,[.ref a]) s):wpAny (model X.prog X.w) A (getMethod (.ref a) m pl) Q E s:=by
 obtain ⟨mA,O,r,_,_,_⟩:=DK I.hok e;have hn:mA m=none:=QD.none_of (by rw [<- l];exact r m);exact R7 I.kIn O (c.get m) k.at_ k.fn hn h
theorem BX {y:V}{u:Value}{Q:Unit->Shared->Prop}(I:Inv X pins σ H s)(e:H a=some (.ins C dx fs))(c:Cls X.K C)(n:jx X.K C f)(hl:fs.length<1000)(ry:RelV y u)
  (h:∀ s',Inv X pins σ (upd H a (.ins C dx (Ey f y fs))) s'->Q () s'):wpAny (model X.prog X.w) A (setAttr (.ref a) f u) Q E s:=by
 obtain ⟨mA,O,r,wi,_,ho⟩:=DK I.hok e;have hz:(fs.map (·.1)).length<=sizeLine:=by rw [TX,sizeLine_eq];omega
 refine Zb I.kIn O c.sa c.po n.taker c.hd wi hz fun h' O' sb=>h _ ?_;have hd:∃ o,h'.get? dx=some o:=let ⟨o,_,_,e',_⟩:=O'.ns;⟨o,e'⟩;refine I.write (x:=a) (e:=dx) (by rw [e];exact True.intro) (.inr ho) (fun b q hb z=>(sb.2 b hb).trans z) hd ?_;refine ⟨by rw [aL O.ne];exact ho,?_,O.ne,O'.obj,_,O'.ns,fun g=>?_,fun g hg=>?_⟩
 ·have:=zU f y fs;omega
 ·show QD ((Ey f y fs).lookup g) (if g=f then some u else mA g);rw [zT];by_cases q:g=f
  ·rw [if_pos q,if_pos q];exact ry
  ·rw [if_neg q,if_neg q];exact r g
 ·by_cases q:g=f
  ·rw [q];exact (zW f y fs).1
  ·refine (zW f y fs).2 g (wi g fun z=>hg ?_);show (if g=f then some u else mA g)=none;rw [if_neg q];exact z
theorem Inv.made (I:Inv X pins σ H s):Inv X pins σ (upd (upd H s.heap.objs.size (.own (s.heap.objs.size+1))) (s.heap.objs.size+1) (.ins C s.heap.objs.size []))
  { s with heap:=(s.heap.push emptyDict).push (instObj C s.heap.objs.size) }:=by
 have e1:(s.heap.push emptyDict).get? s.heap.objs.size=some emptyDict:=aer s.heap rfl;have e2:((s.heap.push emptyDict).push (instObj C s.heap.objs.size)).get? (s.heap.objs.size+1)=some (instObj C s.heap.objs.size):=by
  have:=aer (s.heap.push emptyDict) (o:=instObj C s.heap.objs.size) rfl;rwa [Heap.size_push] at this
 have e3:(s.heap.push emptyDict).Ns s.heap.objs.size (fun _=>none):=⟨emptyDict,#[],_,e1,rfl,(fun e he=>absurd he (by simp)),fun _=>rfl⟩;have I1:=I.laid (a:=s.heap.objs.size) (o:=.own (s.heap.objs.size+1)) (h':=s.heap.push emptyDict) (t':=s.toks) (fun b u q=>ad6 _ q) (ad2 _) ⟨_,e1⟩;refine I1.laid (a:=s.heap.objs.size+1) (o:=.ins C s.heap.objs.size []) (t':=s.toks) (fun b u q=>ad6 _ q) (Nat.le_of_eq (Heap.size_push _ _)) ?_;have ne:s.heap.objs.size≠s.heap.objs.size+1:=aeN (afq _);refine ⟨by rw [aL ne,aR],aez _,ne,e2,fun _=>none,(Heap.Ns1.of_empty e3).at fun o q=>ad6 _ q,fun _=>True.intro,fun y hy=>absurd rfl hy⟩
theorem Z9 {prog:Program}{w:World}{env:Env}{e:Expr}{f:Str}{pos:Pos}{s:Shared}{Q:Value->Shared->Prop}(hb:attributeBase e f env (eval e env)=eval e env)
  (h:wpAny (model prog w) A (eval e env) (fun o s₁=>wpAny (model prog w) A (getAttr o f true) Q E s₁) E s):wpAny (model prog w) A (eval (.Attribute e f pos) env) Q E s:=
 Attribute_any_ h (by rw [arm_eval_Attribute,hb])
end
inductive kFld (K:PySem.W.Frag)(f:Str)(x:V)(H:Hp)(Q:VK):Prop
 | mk (a C dx:Addr)(fs:List (Str × V))(v:V)(_:x=.ref a)(_:H a=some (.ins C dx fs))(_:Cls K C)(_:jx K C f)(_:fs.lookup f=some v)(_:Q v H)
def tFld (K:PySem.W.Frag)(ta:TE)(f:Str):TE:=fun σ H Q=>ta σ H fun x H1=>kFld K f x H1 Q
inductive kPut (K:PySem.W.Frag)(f:Str)(x y:V)(H:Hp)(P:Hp->Prop):Prop
 | mk (a C dx:Addr)(fs:List (Str × V))(_:x=.ref a)(_:H a=some (.ins C dx fs))(_:Cls K C)(_:jx K C f)(_:fs.length<1000)(_:P (upd H a (.ins C dx (Ey f y fs))))
def sFld (K:PySem.W.Frag)(ta tv:TE)(f:Str):TS:=fun D σ H=>tv σ H fun y H1=>ta σ H1 fun x H2=>kPut K f x y H2 fun H3=>D.nx σ H3
def adY (X:Cx)(op:Operator)(rd:V->V->Hp->VK->Prop):Prop:=
 ∀ (pins:List (Addr × Obj))(s:Shared)(σ:St)(H:Hp)(x y:V)(u v:Value)(Q:VK),Inv X pins σ H s->RelV x u->RelV y v->rd x y H Q->wpAny (model X.prog X.w) X.A (inplaceOp op u v) (EP X pins σ Q) X.xe s
def Zc (K:PySem.W.Frag)(ta tv:TE)(rd:V->V->Hp->VK->Prop)(f:Str):TS:=fun D σ H=>ta σ H fun x H1=>∃ a C dx fs v,x=.ref a/\H1 a=some (.ins C dx fs)/\Cls K C/\jx K C f/\fs.lookup f=some v /\
 tv σ H1 fun y H2=>rd v y H2 fun z H3=>∃ dx' fs',H3 a=some (.ins C dx' fs')/\fs'.length<1000/\D.nx σ (upd H3 a (.ins C dx' (Ey f z fs')))
section
variable {X:Cx}{o e value:Expr}{f:Str}{pos pos' tpos:Pos}{ta tv:TE}
theorem bJ (he:PE X e ta)(hb:attributeBase e f X.env (eval e X.env)=eval e X.env):PE X (.Attribute e f pos) (tFld X.K ta f):=by
 intro pins s σ H Q I h;refine Z9 hb (thn (he pins s σ H _ I h) fun u s1 ⟨x,H1,I1,rx,a,C,dx,fs,v,ex,ea,c,n,l,q⟩=>?_);subst ex;obtain rfl:u=Value.ref a:=rx;exact Ck I1 ea c n l fun u' s2 I2 ru=>⟨v,H1,I2,ru,q⟩
theorem mF (ha:PE X o ta)(hv:PE X value tv)(hs:swapsWith value (some (.Attribute o f pos')) pos.line X.env=pure false):PS X (.Assign [.Attribute o f pos'] value pos) (sFld X.K ta tv f):=by
 intro pins s σ H D I h;refine plainObj_wpAny_Assign_Attribute (thn (hv pins s σ H _ I h) fun u s1 ⟨y,H1,I1,ry,q⟩=>thn (ha pins s1 σ H1 _ I1 q) fun ov s2 ⟨x,H2,I2,rx,a,C,dx,fs,ex,ea,c,n,l,q2⟩=>?_) hs;subst ex;obtain rfl:ov=Value.ref a:=rx;exact BX I2 ea c n l ry fun s3 I3=>⟨σ,_,I3,q2⟩
theorem Nb {op:Operator}{rd:V->V->Hp->VK->Prop}(ha:PE X o ta)(hv:PE X value tv)(hop:adY X op rd):PS X (.AugAssign (.Attribute o f tpos) op value pos) (Zc X.K ta tv rd f):=by
 intro pins s σ H D I h;refine wpAny_AugAssign_AttributeAny (thn (ha pins s σ H _ I h) fun ov s1 ⟨x,H1,I1,rx,a,C,dx,fs,v,ex,ea,c,n,l,q⟩=>?_);subst ex;obtain rfl:ov=Value.ref a:=rx;refine Ck I1 ea c n l fun u s2 I2 ru=>thn (hv pins s2 σ H1 _ I2 q) fun w3 s3 ⟨y,H2,I3,ry,q3⟩=>thn (hop pins s3 σ H2 v y u w3 _ I3 ru ry q3) fun w4 s4 ⟨z,H3,I4,rz,dx',fs',ea',l',q4⟩=>?_;exact BX I4 ea' c n l' rz fun s5 I5=>⟨σ,_,I5,q4⟩
def rAdd:V->V->Hp->VK->Prop:=fun x y H Q=>∃ i j,x=.int i/\y=.int j/\Q (.int (i+j)) H
theorem abD:adY X .Add rAdd:=by
 rintro pins s σ H x y u v Q I rx ry ⟨i,j,rfl,rfl,q⟩;obtain ⟨t,rfl⟩:=(show ∃ t,u=Value.int i t from rx);obtain ⟨t',rfl⟩:=(show ∃ t',v=Value.int j t' from ry);exact PyProof.Rows.iadd_int ⟨.int (i+j),H,I.tok _,⟨_,rfl⟩,q⟩
end
section
variable {X:Cx}{pins:List (Addr × Obj)}{σ:St}{H:Hp}{s:Shared}{A:Around}{E:Value->Shared->Prop}{Q:Value->Shared->Prop}{c:Value}{b:Bool}
inductive J7 (K:PySem.W.Frag)(H:Hp):V->Value->Prop where
 | non:J7 K H .non (.type "NoneType")
 | bl (x:Bool):J7 K H (.bl x) (.type "bool")
 | int (i:Int):J7 K H (.int i) (.type "int")
 | str (x:Str):J7 K H (.str x) (.type "str")
 | flt (x:UInt64):J7 K H (.flt x) (.type "float")
 | lst {a:Addr} {xs:List V} (e:H a=some (.lst xs)):J7 K H (.ref a) (.type "list")
 | frz {a:Addr} {o:Obj} {xs:List V} (e:H a=some (.frz o (.lst xs))):J7 K H (.ref a) (.type "list")
 | tup {a:Addr} {xs:List V} (e:H a=some (.tup xs)):J7 K H (.ref a) (.type "tuple")
 | dK {a:Addr} {kvs:List (Key × V)} (e:H a=some (.dK kvs)):J7 K H (.ref a) (.type "dict")
 | dT {a:Addr} {kvs:List (List Key × V)} (e:H a=some (.dT kvs)):J7 K H (.ref a) (.type "dict")
 | ins {a C dx:Addr} {fs:List (Str × V)} (e:H a=some (.ins C dx fs)) (cl:Cls K C) (ha:PySem.W.findIn K (.ref C) "__class__"=some (some (.builtin "object.__class__")))
   (hn:PySem.W.specialIn K (.builtin "object.__class__") "__get__"=some (some (.builtin "getset_descriptor.__get__")))(htk:PySem.W.takesIn K (.builtin "object.__class__")=some true)
   (hm:PySem.W.mroIn K C (.type "object")=some true):J7 K H (.ref a) (.ref C)
theorem Oz {x:V}{u t:Value}(I:Inv X pins σ H s)(rx:RelV x u)(ty:J7 X.K H x t)(e:kitOne X.K t c=some b)(h:∀ tk,Q (.bool b) { s with toks:=tk }):
  wpAny (model X.prog X.w) A (call (.builtin "isinstance") [u,c]) Q E s:=by
 cases ty with
 | non=>cases (show u=Value.none from rx);exact ae4 PySem.W.kitx_none I.kIn True.intro e (fun z=>nomatch z) h
 | bl y=>cases (show u=Value.bool y from rx);exact ae4 PySem.W.kitx_bool I.kIn True.intro e (fun z=>nomatch z) h
 | int i=>obtain ⟨t,q⟩:=(show ∃ t,u=Value.int i t from rx);cases q;exact ae4 PySem.W.kitx_int I.kIn True.intro e (fun z=>nomatch z) h
 | str y=>obtain ⟨t,q⟩:=(show ∃ t,u=Value.str y t from rx);cases q;exact ae4 PySem.W.kitx_str I.kIn True.intro e (fun z=>nomatch z) h
 | flt y=>obtain ⟨t,q⟩:=(show ∃ t,u=Value.float y t from rx);cases q;exact ae4 PySem.W.kitx_float I.kIn True.intro e (fun z=>nomatch z) h
 | @lst a xs ea =>
  cases (show u=Value.ref a from rx);obtain ⟨_,_,n,_,h1⟩:=(show iC X.prog X.w H s.heap a (.lst xs) from I.hok a _ ea);exact ae4 kitx_list I.kIn ⟨_,h1,rfl⟩ e (fun z=>nomatch z) h
 | @frz a ob xs ea =>
  cases (show u=Value.ref a from rx);obtain ⟨_,_,_,n,_,h1⟩:=(show iC X.prog X.w H s.heap a (.frz ob (.lst xs)) from I.hok a _ ea);exact ae4 kitx_list I.kIn ⟨_,h1,rfl⟩ e (fun z=>nomatch z) h
 | @tup a xs ea =>
  cases (show u=Value.ref a from rx);obtain ⟨_,_,_,p⟩:=(show iC X.prog X.w H s.heap a (.tup xs) from I.hok a _ ea);obtain ⟨o,h1,h2,_⟩:=p;exact ae4 PySem.W.kitx_tuple I.kIn ⟨o,h1,h2⟩ e (fun z=>nomatch z) h
 | @dK a kvs ea =>
  cases (show u=Value.ref a from rx);obtain ⟨_,_,vs,_,p⟩:=(show iC X.prog X.w H s.heap a (.dK kvs) from I.hok a _ ea);obtain ⟨o,es,ep,h1,h2,_⟩:=p;exact ae4 kitx_dict I.kIn ⟨o,h1,h2.1⟩ e (fun z=>nomatch z) h
 | @dT a kvs ea =>
  cases (show u=Value.ref a from rx);obtain ⟨_,_,xs,_,o,es,ep,h1,h2,_⟩:=(show iC X.prog X.w H s.heap a (.dT kvs) from I.hok a _ ea);exact ae4 kitx_dict I.kIn ⟨o,h1,h2.1⟩ e (fun z=>nomatch z) h
 | @ins a C dx fs ea cl ha hn htk hm =>
  cases (show u=Value.ref a from rx);obtain ⟨mA,O,_⟩:=DK I.hok ea;obtain ⟨od,J,_⟩:=O.look;exact ae4 (PySem.W.kitx_own (cl.get _) cl.hd ha hn htk hm) I.kIn J e (fun z=>nomatch z) h
end
structure tO (k:Nat)(A:Around):Prop where
 hd:A.handled=none
 dp:A.depth+3*k+5<recursionLimit
 un:A.units+16*k+200<cLine
theorem tO.mono {j k:Nat}{A:Around}(r:tO k A)(h:j<=k):tO j A:=⟨r.hd,by have:=r.dp;omega,by have:=r.un;omega⟩
theorem tO.deeper {k:Nat}{A:Around}(r:tO (k+1) A)(env:Env):tO k (A.deeper env):=
 ⟨r.hd,by have:=r.dp;show A.depth+1+3*k+5<_;omega,by have:=r.un;show A.units+3+16*k+200<_;omega⟩
theorem KY {A:Around}{C:Addr}{us:List Value}{kw:List (Str × Value)}:(A.under (.builtin "type.__call__" ⟨.ref C::us,kw⟩)).depth=A.depth+1:=by
 first| rfl| simp [Around.under,Code.weight,Code.isCreation,Code.isGuard,Code.isCaller,Code.frames,Code.isFrame,guardIds]
theorem KR {A:Around}{C:Addr}{us:List Value}{kw:List (Str × Value)}:(A.under (.builtin "type.__call__" ⟨.ref C::us,kw⟩)).units=A.units+1:=by
 first| rfl| simp [Around.under,Code.cUnits,Code.frames,Code.isFrame]
theorem tO.make {k:Nat}{A:Around}(r:tO (k+1) A)(C:Addr)(us:List Value)(kw:List (Str × Value)):tO k (A.under (.builtin "type.__call__" ⟨.ref C::us,kw⟩)):=
 ⟨r.hd,by have:=r.dp;rw [KY];omega,by have:=r.un;rw [KR];omega⟩
theorem tO.depth {k:Nat}{A:Around}(r:tO k A):A.depth<recursionLimit:=by have:=r.dp;omega
theorem tO.units {k:Nat}{A:Around}(r:tO k A):A.units+64<cLine:=by have:=r.un;omega
def acz:TA:=fun _ H Q=>Q [] H
def aav (ta:TE)(tr:TA):TA:=fun σ H Q=>ta σ H fun x H1=>tr σ H1 fun xs H2=>Q (x::xs) H2
section
variable {X:Cx}{e:Expr}{es:List Expr}{te:TE}{t:TA}{pos:Pos}
theorem ak:PA X [] acz:=fun _ _ _ _ H Q I h=>afy ⟨[],H,I,.nil,h⟩
theorem aq (ha:PE X e te)(hr:PA X es t)(hs:starEach (e::es) X.env=(false,eval e X.env)::starEach es X.env:=by rfl):PA X (e::es) (aav te t):=by
 intro pos pins s σ H Q I h;rw [hs];show wpAny _ _ (spliced ((false,eval e X.env)::backTo pos (starEach es X.env))) _ _ s;refine afh (thn (ha pins s σ H _ I h) fun u s1 ⟨x,H1,I1,r1,q1⟩=>?_);exact thn (hr pos pins s1 σ H1 _ I1 q1) fun us s2 ⟨xs,H2,I2,r2,q2⟩=>⟨x::xs,H2,I2,.cons r1 r2,q2⟩
def tTup (t:TA):TE:=fun σ H Q=>t σ H fun xs H1=>xs.length<=sizeLine/\∀ p,H1 p=none->Q (.ref p) (upd H1 p (.tup xs))
def tLst (t:TA):TE:=fun σ H Q=>t σ H fun xs H1=>xs.length<=sizeLine/\∀ p,H1 p=none->Q (.ref p) (upd H1 p (.lst xs))
theorem f9 {x1} (h:PA X es t):PE X (.Tuple es x1 pos) (tTup t):=by
 intro pins s σ H Q I hq;refine wpAny_Tuple_spliced (thn (h pos pins s σ H _ I hq) fun us s1 ⟨xs,H1,I1,r,z,q⟩=>⟨by rw [<- r.length];exact z,?_⟩);have hf:H1 s1.heap.objs.size=none:=I1.hok.fresh (ad2 _);refine ⟨.ref s1.heap.objs.size,upd H1 s1.heap.objs.size (.tup xs),I1.laid (t':=s1.toks) (fun b u e=>ad6 _ e) (ad2 _) ?_,rfl,q _ hf⟩;exact ⟨z,us,r,⟨_,aer _ rfl,rfl,_,rfl⟩⟩
theorem bU (h:PA X es t):PE X (.List es pos) (tLst t):=by
 intro pins s σ H Q I hq;refine wpAny_List_spliced (thn (h pos pins s σ H _ I hq) fun us s1 ⟨xs,H1,I1,r,z,q⟩=>⟨by rw [<- r.length];exact z,?_⟩);have hf:H1 s1.heap.objs.size=none:=I1.hok.fresh (ad2 _);refine ⟨.ref s1.heap.objs.size,upd H1 s1.heap.objs.size (.lst xs),I1.laid (t':=s1.toks) (fun b u e=>ad6 _ e) (ad2 _) ?_,rfl,q _ hf⟩;exact ⟨z,us,0,r,aer _ rfl⟩
end
abbrev Sp:=List V->Hp->VK->XK->Prop
abbrev CXT:=List Env->Hp->Shared->XK->Value->Shared->Prop
structure aah (P:Program)(w:World)(K:PySem.W.Frag)(mg:Str->Option Value)(base:Heap)(A:Around)(outer:List Env)(s:Shared)(H:Hp):Prop where
 frames:A.frames=some outer
 mod:Mod K mg base
 bs:∀ b o,base.get? b=some o->s.heap.get? b=some o/\H b=none
 bsz:base.objs.size<=s.heap.objs.size
 Lb:s.heap.FunFrames base outer
 frf:∀ b∈frs outer,H b=none
 hok:HOk P w H s.heap
 bare:AllBare s.gens
def CE (outer:List Env)(P:Program)(w:World)(H:Hp)(s:Shared)(Q:VK)(u:Value)(s':Shared):Prop:=
 ∃ v H',s'.os=s.os/\AllBare s'.gens/\Un (frs outer) [] H H' s.heap s'.heap/\HOk P w H' s'.heap/\RelV v u/\Q v H'
def CR (CX:CXT)(outer:List Env)(P:Program)(w:World)(H:Hp)(s:Shared)(Q:VK)(E:XK)(r:Result)(s':Shared):Prop:=
 match r with
 | .ok (.ret u)=>CE outer P w H s Q u s'
 | .ok _=>False
 | .error e=>CX outer H s E e s'
structure G9 (P:Program)(w:World)(K:PySem.W.Frag)(mg:Str->Option Value)(base:Heap)(CX:CXT)(k:Nat)(f:Addr)(fd:FuncData)(ps:List Str)(sp:Sp):Prop where
 len:∀ vs H Q E,sp vs H Q E->vs.length=ps.length
 run:∀ (A:Around)(outer:List Env)(s:Shared)(H:Hp)(args:Args)(us:List Value)(vs:List V)(Q:VK)(E:XK),tO k A->aah P w K mg base A outer s H->BindsTo s fd args (ps.zip us)->Vals vs us->sp vs H Q E ->
  codeAny (model P w) A (.call (.ref f) args) (CR CX outer P w H s Q E) s
theorem aah.make {P:Program}{w:World}{K:PySem.W.Frag}{mg:Str->Option Value}{base:Heap}{A:Around}{outer:List Env}{s:Shared}{H:Hp}(e:aah P w K mg base A outer s H)(C:Addr)(us:List Value)(kw:List (Str × Value)):
  aah P w K mg base (A.under (.builtin "type.__call__" ⟨.ref C::us,kw⟩)) outer s H:=⟨by first| exact e.frames| (simpa [Around.under,Code.envs,Code.isFrame,pushEnvs] using e.frames),e.mod,e.bs,e.bsz,e.Lb,e.frf,e.hok,e.bare⟩
section
variable {X:Cx}{pins:List (Addr × Obj)}{σ:St}{H:Hp}{s s':Shared}
theorem Inv.env0 (I:Inv X pins σ H s):aah X.prog X.w X.K X.mg X.base X.A X.stack s H:=
 ⟨I.ok.frames,I.ok.mod,I.bs,aeP I.ok.bsz I.sz,I.stack,I.Dh,I.hok,I.bare⟩
theorem Inv.after {Q:VK}{u:Value}(I:Inv X pins σ H s)(h:CE X.stack X.prog X.w H s Q u s'):EP X pins σ Q u s':=by
 obtain ⟨v,H',os,bare,un,hok,r,q⟩:=h;obtain ⟨hh,g,d,t,os'⟩:=s';obtain rfl:os'=s.os:=os;exact ⟨v,H',I.call (h':=hh) (g':=g) (d':=d) (t':=t) (ch:=[]) un hok bare (fun b z=>absurd z (by simp)),r,q⟩
end
def aaw (sp:Sp)(dvs:List V)(E:XK)(t:TA):TE:=fun σ H Q=>t σ H fun vs H1=>sp (vs++dvs) H1 Q E
inductive kMet (C:Addr)(m:Str)(x:V)(H:Hp)(P:Prop):Prop
 | mk (a dx:Addr)(fs:List (Str × V))(_:x=.ref a)(_:H a=some (.ins C dx fs))(_:fs.lookup m=none)(_:P)
def aat (C:Addr)(m:Str)(sp:Sp)(dvs:List V)(E:XK)(ta:TE)(t:TA):TE:=fun σ H Q=>ta σ H fun x H1=>kMet C m x H1 (t σ H1 fun vs H2=>sp (x::(vs++dvs)) H2 Q E)
def acC (C:Addr)(sp:Sp)(dvs:List V)(E:XK)(t:TA):TE:=fun σ H Q=>t σ H fun vs H1=>∀ x dx,H1 x=none->H1 dx=none->dx≠x ->
 sp (.ref x::(vs++dvs)) (upd (upd H1 dx (.own x)) x (.ins C dx [])) (fun v H2=>v=.non/\Q (.ref x) H2) E
def Binds (K:PySem.W.Frag)(fd:FuncData)(ps:List Str)(ds:List Value):Prop:=
 ∀ (s:Shared)(us:List Value),K.In s.heap->(us++ds).length=ps.length->BindsTo s fd ⟨us,[]⟩ (ps.zip (us++ds))
theorem Binds.all {K:PySem.W.Frag}{fd:FuncData}{ps:List Str}(h:∀ us:List Value,us.length=ps.length->bindArgs fd ⟨us,[]⟩=pure (ps.zip us)):Binds K fd ps []:=fun s us _ hl=>by
 rw [afw] at hl ⊢;exact .of_eq (h us hl)
def Passes (CX:CXT)(X:Cx)(E:XK):Prop:=∀ (pins:List (Addr × Obj))(σ:St)(H:Hp)(s:Shared)(e:Value)(s':Shared),Inv X pins σ H s->CX X.stack H s E e s'->X.xe e s'
section
variable {X:Cx}{CX:CXT}{k:Nat}{f C:Addr}{fd:FuncData}{ps:List Str}{sp:Sp}{dvs:List V}{ds:List Value}{E:XK}{x m:Str}{p pos apos:Pos}{e o:Expr}{es:List Expr}{ta:TE}{t:TA}
theorem Jr {pins:List (Addr × Obj)}{σ:St}{H:Hp}{s:Shared}{Q:VK}{us:List Value}{vs:List V}(F:G9 X.prog X.w X.K X.mg X.base CX k f fd ps sp)(hr:tO k X.A)(hb:Binds X.K fd ps ds)(hd:Vals dvs ds)(hx:Passes CX X E)
  (I:Inv X pins σ H s)(r:Vals vs us)(h:sp (vs++dvs) H Q E):wpAny (model X.prog X.w) X.A (call (.ref f) us) (EP X pins σ Q) X.xe s:=by
 have r2:Vals (vs++dvs) (us++ds):=r.append hd;have hl:(us++ds).length=ps.length:=by rw [<- r2.length];exact F.len _ _ _ _ h
 refine wpAny_call (codeAny_mono (F.run X.A X.stack s H ⟨us,[]⟩ (us++ds) (vs++dvs) Q E hr I.env0 (hb s us I.kIn hl) r2 h) fun r s' hq=>?_);cases r with
 | error e=>exact hx pins σ H s e s' I hq
 | ok fl =>
  cases fl with
  | ret u=>exact I.after hq
  | next=>exact False.elim hq
  | brk=>exact False.elim hq
  | cont=>exact False.elim hq
theorem Dw (F:G9 X.prog X.w X.K X.mg X.base CX k f fd ps sp)(hr:tO k X.A)(hg:Gl X x)(hm:X.mg x=some (.ref f))(hk:keepIn X.K (.ref f)=true)(hb:Binds X.K fd ps ds)(hd:Vals dvs ds)(hx:Passes CX X E)
  (ha:PA X (e::es) t)(hdb:(x ==("__debug__":Str))=false:=by decide)(he:starEach (e::es) X.env=(false,eval e X.env)::starEach es X.env:=by rfl)(hpl:(backTo pos (starEach es X.env)).any (·.1)=false:=by rfl):
  PE X (.Call (.Name x p) (e::es) [] pos) (aaw sp dvs E t):=by
 intro pins s σ H Q I h
 refine wpAny_Call_Name_kw (zV I hg hm ?_ hdb)
 refine afW (h₀:=X.base) I.ok.mod.kin hk (thn (ha pos pins s σ H _ I h) fun us s1 ⟨vs,H1,I1,r,q⟩=>⟨I1.kIn,?_⟩) he hpl
 exact Jr F hr hb hd hx I1 r q
theorem jY {pl:Sem Bool}(he:PE X o ta)(c:Cls X.K C)(hm:Meth X.K C m f)(F:G9 X.prog X.w X.K X.mg X.base CX k f fd ps sp)(hr:tO k X.A)(hb:Binds X.K fd ps ds)(hd:Vals dvs ds)(hx:Passes CX X E)(ha:PA X (e::es) t)
  (hst:starEach (e::es) X.env=(false,eval e X.env)::starEach es X.env:=by rfl)(hpl:(backTo pos (starEach es X.env)).any (·.1)=false:=by rfl)
  (ht:eval (.Call (.Attribute o m apos) (e::es) [] pos) X.env=(do
   let ov <- eval o X.env
   standAt apos.atName
   let (f,first)<- holding [ov] (getMethod ov m pl)
   callWith pos f first (backTo pos (starEach (e::es) X.env)) (backToKw pos (keywordEach [] X.env))):=by rfl):
  PE X (.Call (.Attribute o m apos) (e::es) [] pos) (aat C m sp dvs E ta t):=by
 intro pins s σ H Q I h
 refine methodCall_KW (pl:=pl) (thn (he pins s σ H _ I h) fun u s1 ⟨x,H1,I1,rx,a,dx,fs,ex,ea,l,q⟩=>?_) ht
 subst ex
 obtain rfl:u=Value.ref a:=rx
 refine Cj I1 ea c hm l ?_
 refine afW (first:=[.ref a]) (h₀:=X.base) I.ok.mod.kin hm.kp (thn (ha pos pins s1 σ H1 _ I1 q) fun us s2 ⟨vs,H2,I2,r,q2⟩=>⟨I2.kIn,?_⟩) hst hpl
 exact Jr (us:=.ref a::us) (vs:=.ref a::vs) F hr hb hd hx I2 (.cons rfl r) q2
theorem jL {pl:Sem Bool}(he:PE X o ta)(c:Cls X.K C)(hm:Meth X.K C m f)(F:G9 X.prog X.w X.K X.mg X.base CX k f fd ps sp)(hr:tO k X.A)(hb:Binds X.K fd ps ds)(hd:Vals dvs ds)(hx:Passes CX X E)
  (ht:eval (.Call (.Attribute o m apos) [] [] pos) X.env=(do
   let ov <- eval o X.env
   standAt apos.atName
   let (f,first)<- holding [ov] (getMethod ov m pl)
   callWith pos f first (backTo pos (starEach [] X.env)) (backToKw pos (keywordEach [] X.env))):=by rfl):
  PE X (.Call (.Attribute o m apos) [] [] pos) (aat C m sp dvs E ta acz):=by
 intro pins s σ H Q I h
 refine methodCall_KW (pl:=pl) (thn (he pins s σ H _ I h) fun u s1 ⟨x,H1,I1,rx,a,dx,fs,ex,ea,l,q⟩=>?_) ht
 subst ex
 obtain rfl:u=Value.ref a:=rx
 refine Cj I1 ea c hm l ?_
 exact PySem.W.callWith_K0 (first:=[.ref a]) I1.kIn hm.kp (Jr (us:=[.ref a]) (vs:=[.ref a]) F hr hb hd hx I1 (.cons rfl .nil) q)
structure Mk (K:PySem.W.Frag)(C f:Addr):Prop where
 makes:makesIn K C=true
 init:PySem.W.findIn K (.ref C) "__init__"=some (some (.ref f))
 fn:isFn K (.ref f)=true
 kp:keepIn K (.ref C)=true
theorem Q7 {pins:List (Addr × Obj)}{σ:St}{H:Hp}{s:Shared}{Q:VK}{us:List Value}{vs:List V}(M:Mk X.K C f)(F:G9 X.prog X.w X.K X.mg X.base CX k f fd ps sp)(hr:tO (k+1) X.A)(hb:Binds X.K fd ps ds)(hd:Vals dvs ds)
  (hx:Passes CX X E)(I:Inv X pins σ H s)(r:Vals vs us)
  (h:∀ x dx,H x=none->H dx=none->dx≠x->sp (.ref x::(vs++dvs)) (upd (upd H dx (.own x)) x (.ins C dx [])) (fun v H2=>v=.non/\Q (.ref x) H2) E):
  wpAny (model X.prog X.w) X.A (call (.ref C) us) (EP X pins σ Q) X.xe s:=by
 have hq:=h (s.heap.objs.size+1) s.heap.objs.size (I.hok.fresh (Nat.le_succ _)) (I.hok.fresh (ad2 _)) (aeN (afq _))
 have I2:=Inv.made (C:=C) I
 have r2:Vals (V.ref (s.heap.objs.size+1)::(vs++dvs)) (Value.ref (s.heap.objs.size+1)::(us++ds)):=.cons rfl (r.append hd)
 have hl:(Value.ref (s.heap.objs.size+1)::us++ds).length=ps.length:=by
  have e:=r2.length
  rw [F.len _ _ _ _ hq] at e
  exact e.symm
 refine wpAny_call (RN (f:=f) I.kIn M.makes M.init (beq_iff_eq.mp M.fn) (codeAny_mono (F.run _ X.stack _ _ ⟨Value.ref (s.heap.objs.size+1)::us,[]⟩ (Value.ref (s.heap.objs.size+1)::(us++ds)) _ _ E (hr.make C us [])
  (I2.env0.make C us []) (hb _ (Value.ref (s.heap.objs.size+1)::us) I2.kIn hl) r2 hq) fun r s' hq'=>?_))
 cases r with
 | error e=>exact hx pins σ _ _ e s' I2 hq'
 | ok fl =>
  cases fl with
  | ret u =>
   obtain ⟨v,H',I3,rv,ev,q3⟩:=I2.after hq'
   subst ev
   exact ⟨rv,⟨V.ref (s.heap.objs.size+1),H',I3,rfl,q3⟩⟩
  | next=>exact False.elim hq'
  | brk=>exact False.elim hq'
  | cont=>exact False.elim hq'
theorem Zi (M:Mk X.K C f)(F:G9 X.prog X.w X.K X.mg X.base CX k f fd ps sp)(hr:tO (k+1) X.A)(hg:Gl X x)(hm:X.mg x=some (.ref C))(hb:Binds X.K fd ps ds)(hd:Vals dvs ds)(hx:Passes CX X E)
  (ha:PA X (e::es) t)(hdb:(x ==("__debug__":Str))=false:=by decide)(he:starEach (e::es) X.env=(false,eval e X.env)::starEach es X.env:=by rfl)(hpl:(backTo pos (starEach es X.env)).any (·.1)=false:=by rfl):
  PE X (.Call (.Name x p) (e::es) [] pos) (acC C sp dvs E t):=by
 intro pins s σ H Q I h
 refine wpAny_Call_Name_kw (zV I hg hm ?_ hdb)
 refine afW (h₀:=X.base) I.ok.mod.kin M.kp (thn (ha pos pins s σ H _ I h) fun us s1 ⟨vs,H1,I1,r,q⟩=>⟨I1.kIn,?_⟩) he hpl
 exact Q7 M F hr hb hd hx I1 r q
end
structure aH (N P:List Str)(sc:Scope):Prop where
 kind:sc.kind=.function
 co:sc.isCoroutine=false
 gen:sc.isGenerator=false
 nd:N.Nodup
 pre:N.take P.length=P
 par:∀ x∈P,sc.names.lookup x=some .local\/sc.names.lookup x=some .cell
 nofree:∀ y∈sc.names,y.2≠.free
theorem GP {kindOf:Str->Option NameKind}{x:Str}:∀ {binds:List (Str × Value)}{m:Str->Option Value},(∀ v,(x,v) ∉ binds)->bindL kindOf binds m x=m x
 | [],_,_=>rfl
 | (n,v)::r,m,h=>by
  unfold bindL;rw [GP fun w hw=>h w (aej _ hw)];split
  ·have:x≠n:=by rintro rfl;exact h v aeu
   simp [this]
  ·rfl
theorem GX {kindOf:Str->Option NameKind}{x:Str}:∀ {binds:List (Str × Value)}{m:Str->Option Value},(∀ v,(x,v) ∉ binds)->bindC kindOf binds m x=m x
 | [],_,_=>rfl
 | (n,v)::r,m,h=>by
  unfold bindC;rw [GX fun w hw=>h w (aej _ hw)];split
  ·rfl
  ·have:x≠n:=by rintro rfl;exact h v aeu
   simp [this]
theorem GQ {kindOf:Str->Option NameKind}{x:Str}{v:Value}:∀ {P:List Str}{vs:List Value}{i:Nat}{m:Str->Option Value},P.Nodup->P[i]?=some x->vs[i]?=some v->kindOf x=some .local ->
  bindL kindOf (P.zip vs) m x=some v
 | [],_,_,_,_,h,_,_=>by simp at h
 | _::_,[],_,_,_,_,h,_=>by simp at h
 | p::P,w::vs,0,m,nd,h1,h2,hk=>by
  simp at h1 h2;subst h1;subst h2;show bindL kindOf ((p,w)::P.zip vs) m p=_;unfold bindL;rw [GP fun v hv=>(ae5.mp nd).1 (List.of_mem_zip hv).1,if_pos hk];simp
 | p::P,w::vs,i+1,m,nd,h1,h2,hk=>by
  show bindL kindOf ((p,w)::P.zip vs) m x=_;unfold bindL;exact GQ (i:=i) (ae5.mp nd).2 (by simpa using h1) (by simpa using h2) hk
theorem GZ {kindOf:Str->Option NameKind}{x:Str}{v:Value}:∀ {P:List Str}{vs:List Value}{i:Nat}{m:Str->Option Value},P.Nodup->P[i]?=some x->vs[i]?=some v->kindOf x≠some .local ->
  bindC kindOf (P.zip vs) m x=some v
 | [],_,_,_,_,h,_,_=>by simp at h
 | _::_,[],_,_,_,_,h,_=>by simp at h
 | p::P,w::vs,0,m,nd,h1,h2,hk=>by
  simp at h1 h2;subst h1;subst h2;show bindC kindOf ((p,w)::P.zip vs) m p=_;unfold bindC;rw [GX fun v hv=>(ae5.mp nd).1 (List.of_mem_zip hv).1,if_neg hk];simp
 | p::P,w::vs,i+1,m,nd,h1,h2,hk=>by
  show bindC kindOf ((p,w)::P.zip vs) m x=_;unfold bindC;exact GZ (i:=i) (ae5.mp nd).2 (by simpa using h1) (by simpa using h2) hk
def start (N:List Str)(vs:List V):St:=vs.map some++List.replicate (N.length - vs.length) none
def Qi (CX:CXT)(P:Program)(w:World)(K:PySem.W.Frag)(mg:Str->Option Value)(base:Heap)(N:List Str)(qual:Str)(scope:Scope)(f:Addr)(cd:Value)(A:Around)(outer:List Env)(s:Shared)(H:Hp)(E:XK):Cx where
 prog:=P;w:=w;K:=K;mg:=mg;base:=base;A:=A.deeper (envOfC qual scope s.heap.objs.size f cd);N:=N;s₀:=s;H₀:=H;env:=envOfC qual scope s.heap.objs.size f cd;outer:=outer;stack:=envOfC qual scope s.heap.objs.size f cd::outer;ex:=[];calm:=true;fn:=fun _=>true;pn:=[];xe:=fun e s'=>wpAny (model P w) (A.deeper (envOfC qual scope s.heap.objs.size f cd)) (leaving (envOfC qual scope s.heap.objs.size f cd) e) (fun _ s''=>CX outer H s E e s'') (fun e' s''=>CX outer H s E e' s'') s'
theorem J3 {sc:Scope}{n:Nat}{x:Str}(h:sc.names.lookup x=some .cell):∃ c,(cellsFrom n sc.names []).lookup x=some c:=by
 have q:=PySem.W.cellsFrom_some sc.names n [] (.inl h);exact afn.mp q
theorem O8 {CX:CXT}{P:Program}{w:World}{K:PySem.W.Frag}{mg:Str->Option Value}{base:Heap}{N ps:List Str}{qual:Str}{scope:Scope}{f:Addr}{cd:Value}{A:Around}{outer:List Env}{s s1:Shared}{H:Hp}{E:XK}{us:List Value}{vs:List V}
  (S:aH N ps scope)(hd:A.handled=none)(e0:aah P w K mg base A outer s H)(hl:vs.length=ps.length)(r:Vals vs us)
  (x:InCallC s s.heap.objs.size (bindL (envOfC qual scope s.heap.objs.size f cd).kindOf (ps.zip us) fun _=>none) (cellsFrom (s.heap.objs.size+1) scope.names []) (bindC (envOfC qual scope s.heap.objs.size f cd).kindOf (ps.zip us) fun _=>none) s1):
  Inv (Qi CX P w K mg base N qual scope f cd A outer s H E) [] (start N vs) H s1:=by
 have hpl:ps.length<=N.length:=by have:=congrArg List.length S.pre;rw [aed] at this;omega
 obtain ⟨h1,tk,rfl,hk⟩:=x.done
 have noA:∀ b:Addr,b ∉ (Qi CX P w K mg base N qual scope f cd A outer s H E).ex:=fun b z=>absurd (show b∈([]:List Addr) from z) (by simp)
 refine ⟨⟨e0.mod,S.kind,rfl,rfl,ad2 _,fun y z c h1 h2=>?_,fun y hy=>?_,fun y c _ h=>?_,fun _=>hd,Around.frames_deeper e0.frames,.inr ⟨rfl,rfl⟩,fun b z=>absurd z (noA b),e0.bs,e0.bsz,fun b _ _=>noA b,fun b z=>absurd z (noA b),e0.Lb,e0.frf⟩,
  rfl,e0.bare,Un.kept hk,⟨_,x.toInCall.ns,fun i y v h1 h2 h3=>?_⟩,fun y c h=>⟨_,x.cell y c h⟩,e0.hok.fresh (ad2 _),fun y c h=>?_,fun p hp=>absurd (show p∈([]:List (Addr × Obj)) from hp) (by simp),e0.hok.kept hk,?_⟩
 ·exact name_of_addr x.apart (aeF h1) (aeF h2)
 ·have hy:scope.names.lookup y=some .cell\/scope.names.lookup y=some .free:=hy
  rcases hy with hy| hy
  ·exact J3 hy
  ·exact absurd rfl (S.nofree _ (aeF hy))
 ·exact Nat.le_of_lt (x.above y c (aeF h))
 ·have hi:i<vs.length:=by
   unfold start at h2
   by_cases hi:i<vs.length
   ·exact hi
   ·rw [aeM (by simpa using hi)] at h2
    rw [afd] at h2
    split at h2 <;>cases h2
  have ha:vs[i]?=some v:=by
   unfold start at h2
   rw [aeG (by simpa using hi),ad5] at h2
   cases e:vs[i]? with
   | none=>rw [e] at h2;cases h2
   | some a=>rw [e] at h2;cases h2;rfl
  obtain ⟨u,hu,rv⟩:=r.get ha
  have hp:ps[i]?=some y:=by
   rw [<- S.pre,List.getElem?_take_of_lt (by omega)];exact h1
  have ndP:ps.Nodup:=by rw [<- S.pre];exact S.nd.sublist (List.take_sublist _ _)
  refine ⟨u,rv,?_⟩
  rcases S.par y (ad1 hp) with k| k
  ·exact .inl ⟨k,GQ ndP hp hu k⟩
  ·obtain ⟨c,e⟩:=J3 (n:=s.heap.objs.size+1) k
   refine .inr ⟨.inl k,c,e,?_⟩
   have q:=x.cell y c e
   rw [GZ ndP hp hu (by show scope.names.lookup y≠_;rw [k];decide)] at q
   exact q
 ·exact e0.hok.fresh (Nat.le_of_lt (x.above y c (aeF h)))
 ·unfold start
  show _=N.length
  rw [ad7,TX,aeH]
  omega
theorem Sq {CX:CXT}{P:Program}{w:World}{K:PySem.W.Frag}{mg:Str->Option Value}{base:Heap}{k:Nat}{f:Addr}{name qual:Str}{params:Arguments}{body:List Stmt}{scope:Scope}{dV kV doc pm cdv ct oc:Value}{an od:Option Addr}
  {osl:Array (Option Value)}{N ps:List Str}{sp:Sp}(lk:K.lookup f=some ⟨oc,od,.func (fnOf name qual params body scope dV kV doc pm an cdv ct),osl⟩)(hcd:codeIn K cdv qual=true)(S:aH N ps scope)
  (len:∀ vs H Q E,sp vs H Q E->vs.length=ps.length)
  (hbody:∀ (A:Around)(outer:List Env)(s:Shared)(H:Hp)(vs:List V)(Q:VK)(E:XK),tO k (A.deeper (envOfC qual scope s.heap.objs.size f cdv))->sp vs H Q E ->
   ∃ t,PSs (Qi CX P w K mg base N qual scope f cdv A outer s H E) body t/\t { nx:=fun _ H'=>Q .non H',rt:=Q } (start N vs) H):
  G9 P w K mg base CX (k+1) f (fnOf name qual params body scope dV kV doc pm an cdv ct) ps sp:=by
 refine ⟨len,fun A outer s H args us vs Q E hr e0 hb r hsp=>?_⟩
 have hl:=len _ _ _ _ hsp
 have KX:K.In s.heap:=e0.mod.kin.keeps fun b o e=>(e0.bs b o e).1
 have lim:s.heap.NoLimit:=e0.mod.nolimit.keeps fun b o e=>(e0.bs b o e).1
 have hkind:∀ y∈ps.zip us,scope.names.lookup y.1=some .local\/(scope.names.lookup y.1=some .cell/\((cellsFrom (s.heap.objs.size+1) scope.names []).lookup y.1).isSome=true):=fun ⟨n,v⟩ hy=>by
  rcases S.par n (List.of_mem_zip hy).1 with q| q
  ·exact .inl q
  ·exact .inr ⟨q,PySem.W.cellsFrom_some _ _ _ (.inl q)⟩
 refine codeAny_call_function hr.depth (KX _ _ lk) rfl S.co S.gen rfl (PySem.W.codeRec_of KX hcd) (hb _ _ _ _ ?_)
 refine wpAny_newFunctionEnv_cells S.kind hkind fun env he s1 x=>?_
 subst he
 refine ⟨lim.keeps x.toInCall.keep,codeAny_func ?_⟩
 obtain ⟨t,ht,hq⟩:=hbody A outer s H vs Q E (hr.deeper _) hsp
 have I:Inv (Qi CX P w K mg base N qual scope f cdv A outer s H E) [] (start N vs) H s1:=O8 S hr.hd e0 hl r x
 refine wpAny_mono (ht [] s1 (start N vs) H _ I hq) (fun fl s' hs=>?_) fun e s' hs=>hs
 have fin:∀ {σ':St}{H':Hp}{v:V}{u:Value},Inv (Qi CX P w K mg base N qual scope f cdv A outer s H E) [] σ' H' s'->RelV v u->Q v H'->CE outer P w H s Q u s' :=
  fun {σ' H' v u} J rv q=>⟨v,H',J.os,J.bare,J.base,J.hok,rv,q⟩
 cases fl with
 | ret u =>
  obtain ⟨v,σ',H',J,rv,q⟩:=hs
  exact fin J rv q
 | next =>
  obtain ⟨σ',H',J,q⟩:=hs
  exact fin (v:=V.non) (u:=Value.none) J rfl q
 | brk =>
  obtain ⟨_,_,_,q⟩:=hs
  exact False.elim q
 | cont =>
  obtain ⟨_,_,_,q⟩:=hs
  exact False.elim q
section
variable {X:Cx}{x:Str}{p pos:Pos}{e:Expr}{es:List Expr}{t:TA}{id T:String}{r:List V->Hp->VK->Prop}
def tCB (r:List V->Hp->VK->Prop)(t:TA):TE:=fun σ H Q=>t σ H fun vs H1=>r vs H1 Q
theorem aC (hc:vM X (.builtin id) r)(hg:Gl X x)(hm:X.mg x=none)(hv:bootBuiltins x=some (.builtin id))(ha:PA X (e::es) t)(hn:x≠"__name__":=by decide)(hdb:(x ==("__debug__":Str))=false:=by decide)
  (he:starEach (e::es) X.env=(false,eval e X.env)::starEach es X.env:=by rfl)(hpl:(backTo pos (starEach es X.env)).any (·.1)=false:=by rfl):PE X (.Call (.Name x p) (e::es) [] pos) (tCB r t):=by
 intro pins s σ H Q I h;refine wpAny_Call_Name_kw (nJ I hg hm hv ?_ hn hdb);exact PyProof.Rows.callWith_builtin1 (thn (ha pos pins s σ H _ I h) fun us s1 ⟨vs,H1,I1,r1,q1⟩=>hc pins s1 σ H1 vs us Q I1 r1 q1) he hpl
theorem bR (hc:vM X (.type T) r)(hg:Gl X x)(hm:X.mg x=none)(hv:bootBuiltins x=some (.type T))(ha:PA X (e::es) t)(hn:x≠"__name__":=by decide)(hdb:(x ==("__debug__":Str))=false:=by decide)
  (he:starEach (e::es) X.env=(false,eval e X.env)::starEach es X.env:=by rfl)(hpl:(backTo pos (starEach es X.env)).any (·.1)=false:=by rfl):PE X (.Call (.Name x p) (e::es) [] pos) (tCB r t):=by
 intro pins s σ H Q I h;refine wpAny_Call_Name_kw (nJ I hg hm hv ?_ hn hdb);exact aeO (thn (ha pos pins s σ H _ I h) fun us s1 ⟨vs,H1,I1,r1,q1⟩=>hc pins s1 σ H1 vs us Q I1 r1 q1) he hpl
end
end L2
namespace HT
open PySem PyProof.Rows
def lexLt:List Int->List Int->Bool
 | [],[]=>false
 | [],_::_=>true
 | _::_,[]=>false
 | x::xs,y::ys=>if x=y then lexLt xs ys else decide (x<y)
theorem lA (x y:Int)(xs ys:List Int):lexLt (x::xs) (y::ys)=if x=y then lexLt xs ys else decide (x<y):=rfl
theorem oJ:lexLt [] []=false:=rfl
theorem Bo (y:Int)(ys:List Int):lexLt [] (y::ys)=true:=rfl
theorem Bp (x:Int)(xs:List Int):lexLt (x::xs) []=false:=rfl
theorem Sv (A:Around)(s:Shared)(a:Int)(t:Tok)(c:Int)(u:Tok):∃ e,SeqAt.EqAt A s (.int a t) (.int c u) e/\(e=true↔a=c):=
 ⟨(a ==c),SeqAt.EqAt.int_int a t c u,by simp⟩
section
open PySem.SeqAt
open PySem.AutoSeq1 (wpAny_loadPart')
open PySem.MeetsSeq PySem.MeetsSeq2 PySem.MeetsSeq3
end
section
variable {prog:Program}{w:World}{A:Around}{E:Value->Shared->Prop}{s:Shared}
def sIx (n d:Nat):Option Int->Nat
 | none=>d
 | some v=>if v<0 then (v+(n:Int)).toNat else min v.toNat n
theorem Jq (n d:Nat):sIx n d none=d:=rfl
theorem uL (n d k:Nat):sIx n d (some (k:Int))=min k n:=by
 show (if (k:Int)<0 then ((k:Int)+(n:Int)).toNat else min (k:Int).toNat n)=min k n;rw [if_neg (by omega),aeb]
theorem aaJ (n d:Nat)(hd:d<=n)(o:Option Int):sIx n d o<=n:=by
 cases o with
 | none=>exact hd
 | some v =>
  show (if v<0 then (v+(n:Int)).toNat else min v.toNat n)<=n;by_cases hv:v<0
  ·rw [if_pos hv];omega
  ·rw [if_neg hv];exact Nat.min_le_right _ _
theorem Qp (v:Int)(n d:Nat):(if v<0 then max (v+(n:Int)) 0 else min v (n:Int))=((sIx n d (some v):Nat):Int):=by
 show (if v<0 then max (v+(n:Int)) 0 else min v (n:Int))=(((if v<0 then (v+(n:Int)).toNat else min v.toNat n):Nat):Int);by_cases hv:v<0
 ·simp only [if_pos hv];omega
 ·simp only [if_neg hv];omega
theorem La (lo hi:Option Int)(n:Nat):Builtin.Slice.sliceAdjust lo hi 1 (n:Int)=(((sIx n 0 lo:Nat):Int),((sIx n n hi:Nat):Int)):=by
 have h1:¬ ((1:Int)<0):=by omega
 unfold Builtin.Slice.sliceAdjust;simp only [h1,if_false];refine Prod.ext ?_ ?_
 ·cases lo with
  | none=>rfl
  | some v=>exact Qp v n 0
 ·cases hi with
  | none=>rfl
  | some v=>exact Qp v n n
theorem KC (i j:Nat):Builtin.Slice.slicePlaces (i:Int) (j:Int) 1=j - i:=by
 unfold Builtin.Slice.slicePlaces;have h1:(1:Int)>0:=by omega
 simp only [h1,if_true,Int.ediv_one];split <;>omega
theorem BW {v:Value}{o:Option Int}{Q:Option Int->Shared->Prop}(p:IsPart v o)(h:Q o s):wpAny (model prog w) A (Builtin.Slice.slicePartIndex v) Q E s:=by
 cases p with
 | none=>exact slicePart_none h
 | int i t=>exact slicePart_int h
theorem yW {sl:Addr}{vl vu:Value}{lo hi:Option Int}{n:Nat}{Q:Int × Int × Nat->Shared->Prop}(hs:s.heap.IsSliceOf sl vl vu .none)(pl:IsPart vl lo)(pu:IsPart vu hi)
  (h:Q (((sIx n 0 lo:Nat):Int),1,sIx n n hi - sIx n 0 lo) s):wpAny (model prog w) A (Builtin.Slice.sliceApplied (.ref sl) (pure (n:Int))) Q E s:=by
 obtain ⟨os,hos,hcs,hds⟩:=id hs;unfold Builtin.Slice.sliceApplied Builtin.Slice.sliceFields;refine wpAny_bind (wpAny_bind (wpAny_field hos hds (x:=vl) rfl (wpAny_bind (wpAny_field hos hds (x:=vu) rfl (wpAny_bind (wpAny_field hos hds (x:=.none) rfl (wpAny_pure ?_)))))));refine wpAny_bind (slicePart_none ?_);show wpAny _ _ (if ((1:Int)==0)=true then _ else _) _ _ s;rw [if_neg (by decide)];refine wpAny_bind (BW pl (wpAny_bind (BW pu (wpAny_bind (wpAny_pure ?_)))));show wpAny _ _ (match Builtin.Slice.sliceAdjust lo hi 1 (n:Int) with| (lo,hi)=>pure (lo,(1:Int),Builtin.Slice.slicePlaces lo hi 1)) _ _ s;rw [La lo hi n];show wpAny _ _ (pure (((sIx n 0 lo:Nat):Int),(1:Int),Builtin.Slice.slicePlaces ((sIx n 0 lo:Nat):Int) ((sIx n n hi:Nat):Int) 1)) _ _ s;rw [KC];exact wpAny_pure h
theorem Rc (xs:Array Value)(i k:Nat):((List.range k).filterMap fun (m:Nat)=>xs[((i:Int)+(m:Int)*1).toNat]?).toArray=((xs.toList.drop i).take k).toArray:=by
 have e:(fun (m:Nat)=>xs[((i:Int)+(m:Int)*1).toNat]?)=fun m=>xs[i+m]?:=by
  funext m;have:((i:Int)+(m:Int)*1).toNat=i+m:=by omega
  rw [this]
 rw [e];have:=pick_run xs i k;rw [List.filterMap_map] at this;have e2:((fun x=>xs[x]?) ∘ fun x=>i+x)=fun m=>xs[i+m]?:=rfl;rw [e2] at this;rw [this]
theorem xJ {t sl:Addr}{items:Array Value}{vl vu:Value}{lo hi:Option Int}{Q:Value->Shared->Prop}(ht:IsTup s.heap t items)(hs:s.heap.IsSliceOf sl vl vu .none)(pl:IsPart vl lo)(pu:IsPart vu hi)
  (hw:¬ (sIx items.size 0 lo=0/\sIx items.size items.size hi=items.size))
  (h:Q (.ref s.heap.objs.size) { s with heap:=s.heap.push { cls:=.type "tuple",data:=.seq ((items.toList.drop (sIx items.size 0 lo)).take (sIx items.size items.size hi - sIx items.size 0 lo)).toArray } })
  (hsz:items.size<=sizeLine):wpAny (model prog w) A (getItem (.ref t) (.ref sl)) Q E s:=by
 have htake:sizeOk (.seq ((items.toList.drop (sIx items.size 0 lo)).take (sIx items.size items.size hi - sIx items.size 0 lo)).toArray):=by
  show ((items.toList.drop (sIx items.size 0 lo)).take (sIx items.size items.size hi - sIx items.size 0 lo)).toArray.size<=sizeLine
  rw [aee,aed,aeS,aeI]
  omega
 have hj:sIx items.size items.size hi<=items.size:=aaJ _ _ (ad2 _) hi
 obtain ⟨os,hos,hcs,hds⟩:=id hs
 have hTs:s.TypeIs (.ref sl) "slice":=⟨os,hos,hcs⟩
 unfold getItem
 try with_reducible refine wpAny_holding ?_
 first| refine wpAny_bind (wpAny_pure ?_) | skip
 refine wpAny_bind (wpAny_sequenceKey ht.typeIs (by decide) ?_)
 refine wpAny_bind (wpAny_callSpecial?_slot (name:=Str.ofString "__getitem__") ht.typeIs PyProof.Rows.slot_tuple_getitem
  (wpAny_call_entry PyProof.Rows.slot_tuple_getitem ht.typeIs entry_tuple_getitem ?_ (args_tuple_getitem _ _)))
 show wpAny _ _ (Builtin.Tuple.tupleItemsOf (.ref t)>>=_) _ _ s
 refine wpAny_bind (tupleItemsOf_ ht ?_)
 refine wpAny_bind (wpAny_typeOf hTs ?_)
 rw [if_pos (by decide)]
 refine wpAny_bind (yW hs pl pu ?_)
 have hno:¬ ((((sIx items.size 0 lo:Nat):Int)==0&& (1:Int)==1&& (sIx items.size items.size hi - sIx items.size 0 lo)==items.size)=true):=by
  intro q
  rw [aev,aev] at q
  have q1:((sIx items.size 0 lo:Nat):Int)=0:=eq_of_beq q.1.1
  have q2:sIx items.size items.size hi - sIx items.size 0 lo=items.size:=eq_of_beq q.2
  exact hw ⟨by omega,by omega⟩
 show wpAny _ _ (if (((sIx items.size 0 lo:Nat):Int)==0&& (1:Int)==1&& (sIx items.size items.size hi - sIx items.size 0 lo)==items.size)=true then _ else _) _ _ s
 rw [if_neg hno,Rc]
 first
  | exact wpAny_bind (m:=Builtin.Tuple.tupleExact _) (wpAny_newObj_type (wpAny_pure ⟨_,rfl,wpAny_pure h⟩) htake)
  | exact wpAny_bind (m:=Builtin.Tuple.tupleExact _) (wpAny_newObj_type (wpAny_bind (wpAny_pure (wpAny_pure ⟨_,rfl,wpAny_pure h⟩))) htake)
  | exact wpAny_bind (wpAny_bind (m:=Builtin.Tuple.tupleExact _) (wpAny_newObj_type (wpAny_pure (wpAny_pure ⟨_,rfl,wpAny_pure h⟩)) htake))
  | exact wpAny_bind (wpAny_bind (m:=Builtin.Tuple.tupleExact _) (wpAny_newObj_type (wpAny_pure ⟨_,rfl,wpAny_pure h⟩) htake))
end
end HT
namespace L2
open PySem PySem.Spec PyProof.Rows
abbrev TO:=St->Hp->(Option Int->Hp->Prop)->Prop
def PO (X:Cx)(e:Option Expr)(t:TO):Prop:=
 ∀ (pins:List (Addr × Obj))(s:Shared)(σ:St)(H:Hp)(Q:Option Int->Hp->Prop),Inv X pins σ H s->t σ H Q ->
  wpAny (model X.prog X.w) X.A (evalPart e X.env) (fun u s'=>∃ o H',Inv X pins σ H' s'/\IsPart u o/\Q o H') X.xe s
def Y8:TO:=fun _ H Q=>Q none H
def acw (t:TE):TO:=fun σ H Q=>t σ H fun x H1=>∃ i,x=.int i/\Q (some i) H1
theorem intsAre_of {ns:List Int}:∀ {us:List Value},Vals (ns.map V.int) us->IntsAre us ns:=by
 induction ns with
 | nil=>intro us r;rw [List.map_nil] at r;cases r;exact .nil
 | cons n ns ih =>
  intro us r;rw [aey] at r;cases r with
  | cons r1 r2 =>
   obtain ⟨t,e⟩:=r1;subst e;exact .cons n t (ih r2)
section
variable {X:Cx}{e:Expr}{te:TE}{lo hi:Option Expr}{tl th:TO}{pos p2:Pos}
theorem uN:PO X none Y8:=by
 intro pins s σ H Q I h;rw [evalPart_none];exact wpAny_pure ⟨none,H,I,.none,h⟩
theorem lF (h:PE X e te):PO X (some e) (acw te):=by
 intro pins s σ H Q I hw;rw [evalPart_some];refine thn (h pins s σ H _ I hw) fun u s1 ⟨x,H1,I1,r1,q1⟩=>?_;obtain ⟨i,rfl,q⟩:=q1;obtain ⟨t,rfl⟩:=r1;exact ⟨some i,H1,I1,.int i t,q⟩
def SlR (X:Cx)(r:V->Option Int->Option Int->Hp->VK->Prop):Prop:=
 ∀ (pins:List (Addr × Obj))(s:Shared)(σ:St)(H:Hp)(x:V)(v vl vu:Value)(lo hi:Option Int)(sl:Addr)(Q:VK),Inv X pins σ H s->RelV x v->s.heap.IsSliceOf sl vl vu .none->IsPart vl lo->IsPart vu hi->r x lo hi H Q ->
  ∃ T id,typeLookup (.type T) "__getitem__"=pure (some (.builtin id))/\s.TypeIs v T/\wpAny (model X.prog X.w) X.A (getItem v (.ref sl)) (EP X pins σ Q) X.xe s
def tSl (r:V->Option Int->Option Int->Hp->VK->Prop)(te:TE)(tl th:TO):TE:=fun σ H Q=>te σ H fun x H1=>tl σ H1 fun l H2=>th σ H2 fun u H3=>r x l u H3 Q
theorem kj {r:V->Option Int->Option Int->Hp->VK->Prop}(hr:SlR X r)(he:PE X e te)(hl:PO X lo tl)(hu:PO X hi th):PE X (.Subscript e (.Slice lo hi none p2) pos) (tSl r te tl th):=by
 intro pins s σ H Q I h;refine Subscript_ (thn (he pins s σ H _ I h) fun v s1 ⟨x,H1,I1,r1,q1⟩=>?_);refine wpAny_Slice (thn (hl pins s1 σ H1 _ I1 q1) fun vl s2 ⟨l,H2,I2,pl,q2⟩=>thn (hu pins s2 σ H2 _ I2 q2) fun vu s3 ⟨u,H3,I3,pu,q3⟩=>?_);rw [evalPart_none];refine wpAny_pure ?_;have I4:Inv X pins σ H3 { s3 with heap:=s3.heap.push { cls:=.type "slice",data:=.fields #[vl,vu,.none] } }:=I3.kept (t':=s3.toks) fun b ob q=>ad6 _ q;obtain ⟨T,id,hT,ht,hg⟩:=hr pins { s3 with heap:=s3.heap.push { cls:=.type "slice",data:=.fields #[vl,vu,.none] } } σ H3 x v vl vu l u s3.heap.objs.size Q I4 r1 (Heap.IsSliceOf.new ..) pl pu q3;show wpAny (model X.prog X.w) X.A (subscriptTail e (.Slice lo hi none p2) v (.ref s3.heap.objs.size)) (EP X pins σ Q) X.xe { s3 with heap:=s3.heap.push { cls:=.type "slice",data:=.fields #[vl,vu,.none] } };exact tail_any (ops:=[.ref s3.heap.objs.size,v]) ht hT hg (by with_unfolding_all rfl)
def Aq (xs:List V)(lo hi:Option Int):List V:=(xs.drop (HT.sIx xs.length 0 lo)).take (HT.sIx xs.length xs.length hi - HT.sIx xs.length 0 lo)
theorem Ao (xs:List V)(lo hi:Option Int):(Aq xs lo hi).length<=xs.length:=by
 unfold Aq;rw [aed,aeS];omega
def rSlT (K:PySem.W.Frag):V->Option Int->Option Int->Hp->VK->Prop:=fun x lo hi H Q=>∃ a xs,x=.ref a/\SqT K H a xs /\
 ¬ (HT.sIx xs.length 0 lo=0/\HT.sIx xs.length xs.length hi=xs.length)/\∀ p,H p=none->Q (.ref p) (upd H p (.tup (Aq xs lo hi)))
theorem T8:SlR X (rSlT X.K):=by
 intro pins s σ H x v vl vu lo hi sl Q I rx hs pl pu h;obtain ⟨a,xs,rfl,hx,hw,q⟩:=h;cases rx;obtain ⟨its,r,ht,hz⟩:=I.tuple hx;have hlen:its.toArray.size=xs.length:=by rw [aee];exact r.length.symm
 refine ⟨"tuple",_,PyProof.Rows.slot_tuple_getitem.lookup,ht.typeIs,?_⟩;refine HT.xJ ht hs pl pu (by rw [hlen];exact hw) ?_ (by rw [hlen];exact hz);rw [hlen];refine ⟨.ref s.heap.objs.size,_,I.laid (t':=s.toks) (o:=.tup (Aq xs lo hi)) (fun b ob q=>ad6 _ q) (ad2 _) ?_,rfl,q _ (I.hok.fresh (ad2 _))⟩;exact ⟨aeP (Ao xs lo hi) hz,_,(r.drop (HT.sIx xs.length 0 lo)).take (HT.sIx xs.length xs.length hi - HT.sIx xs.length 0 lo),IsTup.new _ _⟩
end
def ixN (n:Nat)(i:Int):Option Nat:=if 0<=i then (if i<n then some i.toNat else none) else if -(n:Int)<=i then some (i+n).toNat else none
def atI {α:Type}(xs:List α)(i:Int):Option α:=(ixN xs.length i).bind fun j=>xs[j]?
theorem Ox {n:Nat}{i:Int}{j:Nat}(h:ixN n i=some j):seqIndex? i n=some j/\j<n/\-(n:Int)<=i/\i<n:=by
 unfold ixN at h;by_cases h0:0<=i
 ·rw [if_pos h0] at h;by_cases h1:i<n
  ·rw [if_pos h1] at h;have e:i.toNat=j:=aek h;exact ⟨by rw [seqIndex_of h0 h1,e],by omega,by omega,h1⟩
  ·rw [if_neg h1] at h;cases h
 ·rw [if_neg h0] at h;by_cases h1:-(n:Int)<=i
  ·rw [if_pos h1] at h;have e:(i+n).toNat=j:=aek h;exact ⟨by rw [seqIndex_neg (by omega) h1,e],by omega,h1,by omega⟩
  ·rw [if_neg h1] at h;cases h
theorem QB {α:Type}{xs:List α}{i:Int}{v:α}(h:atI xs i=some v):∃ j,seqIndex? i xs.length=some j/\xs[j]?=some v/\j<xs.length/\-(xs.length:Int)<=i/\i<xs.length:=by
 unfold atI at h;cases e:ixN xs.length i with
 | none=>rw [e] at h;cases h
 | some j =>
  rw [e] at h;obtain ⟨h1,h2,h3,h4⟩:=Ox e;exact ⟨j,h1,h,h2,h3,h4⟩
theorem dN {α:Type}{xs:List α}{j:Nat}{v:α}(h:xs[j]?=some v):atI xs (j:Int)=some v:=by
 have hj:j<xs.length:=(acp.mp h).1;have e:ixN xs.length (j:Int)=some j:=by
  unfold ixN;rw [if_pos (by omega),if_pos (by omega)];simp
 unfold atI;rw [e];exact h
theorem J4 {α:Type}(xs:List α)(v:α):atI (xs++[v]) (-1)=some v:=by
 have hl:(xs++[v]).length=xs.length+1:=by simp
 have e:ixN (xs++[v]).length (-1)=some xs.length:=by
  unfold ixN;rw [hl,if_neg (by decide),if_pos (by omega)];congr 1;omega
 unfold atI;rw [e];show (xs++[v])[xs.length]?=some v;simp
def aae (b:Expr):Prop:=∀ o i,subscripted b false o i=operate [o,i] (getItem o i)
def IxR (X:Cx)(r:R2):Prop:=
 ∀ (value slice:Expr)(pins:List (Addr × Obj))(s:Shared)(σ:St)(H:Hp)(x y:V)(v u:Value)(Q:VK),Inv X pins σ H s->RelV x v->RelV y u->r x y H Q ->
  subscripted slice false v u=operate [v,u] (getItem v u)->wpAny (model X.prog X.w) X.A (subscriptTail value slice v u) (EP X pins σ Q) X.xe s
def MtR (X:Cx)(id:String)(r:V->List V->Hp->VK->Prop):Prop:=
 ∀ (pins:List (Addr × Obj))(s:Shared)(σ:St)(H:Hp)(x:V)(xs:List V)(v:Value)(us:List Value)(Q:VK),Inv X pins σ H s->RelV x v->Vals xs us->r x xs H Q ->
  wpAny (model X.prog X.w) X.A (call (.builtin id) (v::us)) (EP X pins σ Q) X.xe s
inductive kLen (K:PySem.W.Frag)(xs:List V)(H:Hp)(Q:VK):Prop
 | mk (p:Addr)(ys:List V)(_:xs=[.ref p])(_:SqL K H p ys\/SqT K H p ys)(_:Q (.int ys.length) H)
inductive abz (K:PySem.W.Frag)(xs:List V)(H:Hp)(Q:VK):Prop
 | mk (p:Addr)(ys:List V)(_:xs=[.ref p])(_:SqL K H p ys\/SqT K H p ys)(_:∀ l,H l=none->Q (.ref l) (upd H l (.lst ys)))
section
variable {X:Cx}{a b:Expr}{ta tb:TE}{pos:Pos}
theorem aM {r:R2}(hr:IxR X r)(ha:PE X a ta)(hb:PE X b tb)(hs:aae b):PE X (.Subscript a b pos) (tOp r ta tb):=by
 intro pins s σ H Q I h;exact Subscript_ (ady ha hb I h fun v u s2 x y H2 I2 rx ry q=>hr a b pins s2 σ H2 x y v u Q I2 rx ry q (hs _ _))
inductive adH (K:PySem.W.Frag)(x y:V)(H:Hp)(Q:VK):Prop
 | mk (p:Addr)(xs:List V)(i:Int)(v:V)(_:x=.ref p)(_:y=.int i)(_:SqL K H p xs)(_:atI xs i=some v)(_:Q v H)
inductive rIxT (K:PySem.W.Frag)(x y:V)(H:Hp)(Q:VK):Prop
 | mk (p:Addr)(xs:List V)(i:Int)(v:V)(_:x=.ref p)(_:y=.int i)(_:SqT K H p xs)(_:atI xs i=some v)(_:Q v H)
theorem aF:IxR X (adH X.K):=by
 intro value slice pins s σ H x y v u Q I rx ry h hs;obtain ⟨p,xs,i,z,rfl,rfl,hq,he,q⟩:=h;cases rx;obtain ⟨t,rfl⟩:=ry;obtain ⟨its,r,pl,hz⟩:=I.list hq;obtain ⟨j,h1,h2,h3,h4,h5⟩:=QB he;obtain ⟨w,ew,rw'⟩:=r.get h2;have hl:=r.length;have hn:=wB;have fin:EP X pins σ Q w s:=⟨z,H,I,rw',q⟩;by_cases h0:0<=i
 ·have hj:i.toNat=j:=by
   rw [seqIndex_of h0 h5] at h1;exact aek h1
  exact item_listR pl.isList h0 (by omega) (by rw [hj];simpa using ew) fin hs
 ·have hj:(i+(its.toArray.size:Int)).toNat=j:=by
   rw [seqIndex_neg (by omega) h4] at h1;rw [aee,<- hl];exact aek h1
  exact subscriptTail_builtinR (x:=w) pl.isList.typeIs slot_list_getitem.lookup
   (wpAny_getItem_list_neg (Q:=fun r s'=>r=w/\EP X pins σ Q r s') pl.isList (by omega) (by rw [aee]<;>omega) (by omega) (by rw [hj];simpa using ew) ⟨rfl,fin⟩) hs
theorem fL:IxR X (rIxT X.K):=by
 intro value slice pins s σ H x y v u Q I rx ry h hs;obtain ⟨p,xs,i,z,rfl,rfl,hq,he,q⟩:=h;cases rx;obtain ⟨t,rfl⟩:=ry;obtain ⟨its,r,pl,hz⟩:=I.tuple hq;obtain ⟨j,h1,h2,h3,h4,h5⟩:=QB he;obtain ⟨w,ew,rw'⟩:=r.get h2;have hl:=r.length;have hn:=wB;have fin:EP X pins σ Q w s:=⟨z,H,I,rw',q⟩;exact subscriptTail_builtinR (x:=w) pl.typeIs slot_tuple_getitem.lookup
  (getItem_tuple (j:=j) (Q:=fun r s'=>r=w/\EP X pins σ Q r s') pl (by omega) (by omega) (by rw [aee,<- hl];exact h1) (by simpa using ew) ⟨rfl,fin⟩) hs
theorem KQ (its:List Value)(n j:Nat)(u:Value):Obj.mapSeq (·.setIfInBounds j u) { cls:=.type "list",data:=.seq its.toArray n }={ cls:=.type "list",data:=.seq (its.set j u).toArray n }:=by
 simp [Obj.mapSeq]
theorem Inv.lst {pins:List (Addr × Obj)}{σ:St}{H:Hp}{s:Shared}{p:Addr}{xs:List V}(I:Inv X pins σ H s)(h:H p=some (.lst xs)):
  ∃ (its:List Value)(n:Nat),Vals xs its/\s.heap.get? p=some { cls:=.type "list",data:=.seq its.toArray n }/\xs.length<=sizeLine:=by
 obtain ⟨z,its,n,r,e⟩:=I.hok p _ h;exact ⟨its,n,r,e,z⟩
theorem Inv.abq {pins:List (Addr × Obj)}{σ:St}{H:Hp}{s:Shared}{p:Addr}{xs ys:List V}{its its':List Value}{n n':Nat}{f:Obj->Obj}(I:Inv X pins σ H s)(h:H p=some (.lst xs))
  (ho:s.heap.get? p=some { cls:=.type "list",data:=.seq its.toArray n })(hf:f { cls:=.type "list",data:=.seq its.toArray n }={ cls:=.type "list",data:=.seq its'.toArray n' })(r:Vals ys its')(hz:ys.length<=sizeLine)(t:Nat):
  Inv X pins σ (upd H p (.lst ys)) { s with heap:=s.heap.update p f,toks:=t }:=by
 have e:(s.heap.update p f).get? p=some { cls:=.type "list",data:=.seq its'.toArray n' }:=by
  rw [Heap.get?_update_self f ho (by rw [hf]<;>rfl),hf]
 refine I.write (x:=p) (e:=p) (by rw [h];trivial) (.inl rfl) (fun b u hb q=>(aeJ _ _ (Ne.symm hb)).trans q) ⟨_,e⟩ ?_
 exact ⟨hz,its',n',r,e⟩
inductive aaM (o i v:V)(H:Hp)(Q:Hp->Prop):Prop
 | mk (p:Addr)(xs:List V)(k:Int)(j:Nat)(_:o=.ref p)(_:i=.int k)(_:H p=some (.lst xs))(_:ixN xs.length k=some j)(_:Q (upd H p (.lst (xs.set j v))))
theorem set_list:adA X aaM:=by
 intro pins s σ H o i v ov iv u Q I ro ri rv h;obtain ⟨p,xs,k,j,rfl,rfl,hp,hj,q⟩:=h;cases ro;obtain ⟨t,rfl⟩:=ri;obtain ⟨its,n,r,ho,hz⟩:=I.lst hp;obtain ⟨h1,h2,h3,h4⟩:=Ox hj;have hl:=r.length;have hn:=wB;have I':Inv X pins σ (upd H p (.lst (xs.set j v))) { s with heap:=s.heap.update p (Obj.mapSeq (·.setIfInBounds j u)) }:=
  I.abq hp ho (KQ its n j u) (r.set rv j) (by rw [aeV];exact hz) s.toks
 by_cases h0:0<=k
 ·have hk:k.toNat=j:=by
   rw [seqIndex_of h0 h4] at h1;exact aek h1
  exact PySem.W.ki_setAt ho h0 (by omega) (by rw [aee,<- hl];exact h4) (by rw [hk];exact ⟨_,I',q⟩)
 ·have hk:(k+(its.toArray.size:Int)).toNat=j:=by
   rw [seqIndex_neg (by omega) h3] at h1;rw [aee,<- hl];exact aek h1
  exact PySem.W.ki_setBack ho (by omega) (by rw [aee,<- hl];exact h3) (by omega) (by rw [hk];exact ⟨_,I',q⟩)
theorem Fx (lo hi:Option Int)(n:Nat):(sliceBounds lo hi none n).1=((HT.sIx n 0 lo:Nat):Int)/\(sliceBounds lo hi none n).2.1=((HT.sIx n n hi:Nat):Int)/\(sliceBounds lo hi none n).2.2=1:=by
 refine ⟨?_,?_,rfl⟩
 ·cases lo with
  | none=>simp [sliceBounds,HT.sIx]
  | some i =>
   simp only [sliceBounds,HT.sIx,Option.getD_none,show (1:Int)>0 by decide,if_true];by_cases h:i<0
   ·simp only [h,if_true]<;>omega
   ·simp only [h,if_false]<;>omega
 ·cases hi with
  | none=>simp [sliceBounds,HT.sIx]
  | some i =>
   simp only [sliceBounds,HT.sIx,Option.getD_none,show (1:Int)>0 by decide,if_true];by_cases h:i<0
   ·simp only [h,if_true]<;>omega
   ·simp only [h,if_false]<;>omega
theorem Dj (its:List Value)(lo hi:Option Int):slicePick its.toArray lo hi none=((its.drop (HT.sIx its.length 0 lo)).take (HT.sIx its.length its.length hi - HT.sIx its.length 0 lo)).toArray:=by
 obtain ⟨h1,h2,h3⟩:=Fx lo hi its.toArray.size;unfold slicePick;rw [h1,h2,h3];simp only [sliceRange_one,pick_run,aee]<;>rfl
def rSlL (K:PySem.W.Frag):V->Option Int->Option Int->Hp->VK->Prop:=fun x lo hi H Q=>∃ a xs,x=.ref a/\SqL K H a xs/\∀ p,H p=none->Q (.ref p) (upd H p (.lst (Aq xs lo hi)))
theorem ux:SlR X (rSlL X.K):=by
 intro pins s σ H x v vl vu lo hi sl Q I rx hs pl pu h;obtain ⟨a,xs,rfl,hx,q⟩:=h;cases rx;obtain ⟨its,r,ht,hz⟩:=I.list hx;have hlen:=r.length;refine ⟨"list",_,slot_list_getitem.lookup,ht.isList.typeIs,?_⟩;refine wpAny_getItem_list_slice ht.isList hs pl pu .none (by simp) ?_ (by rw [aee]<;>omega)
 rw [Dj,<- hlen];refine ⟨.ref s.heap.objs.size,_,I.laid (t':=s.toks) (o:=.lst (Aq xs lo hi)) (fun b ob q=>ad6 _ q) (ad2 _) ?_,rfl,q _ (I.hok.fresh (ad2 _))⟩;exact ⟨aeP (Ao xs lo hi) hz,_,0,(r.drop (HT.sIx xs.length 0 lo)).take (HT.sIx xs.length xs.length hi - HT.sIx xs.length 0 lo),aer _ rfl⟩
def Ef:V->Bool
 | .non=>true
 | .bl _=>true
 | .int _=>true
 | .str _=>true
 | _=>false
def eqV:V->V->Bool
 | .non,.non=>true
 | .bl a,.bl b=>a ==b
 | .bl a,.int b=>(if a then 1 else 0)==b
 | .int a,.bl b=>a ==(if b then 1 else 0)
 | .int a,.int b=>a ==b
 | .str a,.str b=>a ==b
 | _,_=>false
theorem abX {A:Around}{s:Shared}{y x:V}{u v:Value}(ry:RelV y u)(rx:RelV x v)(fy:Ef y=true)(fx:Ef x=true):SeqAt.EqAt A s u v (eqV y x):=by
 cases y with
 | non =>
  cases ry;cases x with
  | non=>cases rx;exact SeqAt.EqAt.same _
  | bl b=>cases rx;exact SeqAt.EqAt.none_bool b
  | int b=>obtain ⟨t,rfl⟩:=rx;exact SeqAt.EqAt.none_int b t
  | str b=>obtain ⟨t,rfl⟩:=rx;exact SeqAt.EqAt.none_str b t
  | _=>exact absurd (show false=true from fx) aec
 | bl a =>
  cases ry;cases x with
  | non=>cases rx;exact SeqAt.EqAt.bool_none a
  | bl b=>cases rx;exact SeqAt.EqAt.bool_bool a b
  | int b=>obtain ⟨t,rfl⟩:=rx;exact SeqAt.EqAt.bool_int a b t
  | str b=>obtain ⟨t,rfl⟩:=rx;exact SeqAt.EqAt.bool_str a b t
  | _=>exact absurd (show false=true from fx) aec
 | int a =>
  obtain ⟨t',rfl⟩:=ry;cases x with
  | non=>cases rx;exact SeqAt.EqAt.int_none a t'
  | bl b=>cases rx;exact SeqAt.EqAt.int_bool a t' b
  | int b=>obtain ⟨t,rfl⟩:=rx;exact SeqAt.EqAt.int_int a t' b t
  | str b=>obtain ⟨t,rfl⟩:=rx;exact SeqAt.EqAt.int_str a t' b t
  | _=>exact absurd (show false=true from fx) aec
 | str a =>
  obtain ⟨t',rfl⟩:=ry;cases x with
  | non=>cases rx;exact SeqAt.EqAt.str_none a t'
  | bl b=>cases rx;exact SeqAt.EqAt.str_bool a t' b
  | int b=>obtain ⟨t,rfl⟩:=rx;exact SeqAt.EqAt.str_int a t' b t
  | str b=>obtain ⟨t,rfl⟩:=rx;exact SeqAt.EqAt.str_str a t' b t
  | _=>exact absurd (show false=true from fx) aec
 | _=>exact absurd (show false=true from fy) aec
def eqU (x:V)(u:Value):Bool:=match u with
 | .none=>eqV .non x
 | .bool b=>eqV (.bl b) x
 | .int i _=>eqV (.int i) x
 | .str z _=>eqV (.str z) x
 | _=>false
theorem YJ {x y:V}{u:Value}(r:RelV y u)(f:Ef y=true):eqU x u=eqV y x:=by
 cases y with
 | non=>cases r;rfl
 | bl b=>cases r;rfl
 | int i=>obtain ⟨t,rfl⟩:=r;rfl
 | str z=>obtain ⟨t,rfl⟩:=r;rfl
 | _=>exact absurd (show false=true from f) aec
theorem Aw {x:V}:∀ {xs:List V}{us:List Value},Vals xs us->xs.all Ef=true->us.any (eqU x)=xs.any fun y=>eqV y x
 | _,_,.nil,_=>rfl
 | y::xs,u::us,.cons r t,f=>by
  rw [List.all_cons,aev] at f;rw [af0,af0,YJ r f.1,Aw t f.2]
theorem wA {A:Around}{s:Shared}{x:V}{v:Value}(rx:RelV x v)(fx:Ef x=true):∀ {xs:List V}{us:List Value},Vals xs us->xs.all Ef=true->∀ u∈us,SeqAt.EqAt A s u v (eqU x u)
 | _,_,.nil,_=>fun u hu=>by cases hu
 | y::xs,u::us,.cons r t,f=>fun u' hu=>by
  rw [List.all_cons,aev] at f;rcases aen.mp hu with rfl| hu
  ·rw [YJ r f.1];exact abX r rx f.1 fx
  ·exact wA rx fx t f.2 u' hu
def inV (x:V)(xs:List V):Bool:=xs.any fun y=>eqV y x
def rIn (K:PySem.W.Frag)(neg:Bool):R2:=fun x y H Q=>∃ p xs,y=.ref p/\(SqL K H p xs\/SqT K H p xs)/\Ef x=true/\xs.all Ef=true/\Q (.bl (if neg then !inV x xs else inV x xs)) H
theorem Gj:OpR X (compareOp .In) (rIn X.K false):=by
 intro pins s σ H x y v u Q I rx ry h;obtain ⟨p,xs,rfl,hq,fx,fs,q⟩:=h;cases ry;rcases hq with hq| hq
 ·obtain ⟨its,r,pl,hz⟩:=I.list hq;refine SeqAt.in_listAt (eqU x) pl.isList (fun w hw=>wA rx fx r fs w (by simpa using hw)) ⟨.bl _,H,I,rfl,?_⟩;rw [show its.toArray.any (eqU x)=its.any (eqU x) by simp,Aw r fs];exact q
 ·obtain ⟨its,r,pl,hz⟩:=I.tuple hq;refine SeqAt.in_tupleAt (eqU x) pl (fun w hw=>wA rx fx r fs w (by simpa using hw)) ⟨.bl _,H,I,rfl,?_⟩;rw [show its.toArray.any (eqU x)=its.any (eqU x) by simp,Aw r fs];exact q
theorem yx:OpR X (compareOp .NotIn) (rIn X.K true):=by
 intro pins s σ H x y v u Q I rx ry h;obtain ⟨p,xs,rfl,hq,fx,fs,q⟩:=h;cases ry;rcases hq with hq| hq
 ·obtain ⟨its,r,pl,hz⟩:=I.list hq;refine SeqAt.notIn_listAt (eqU x) pl.isList (fun w hw=>wA rx fx r fs w (by simpa using hw)) ⟨.bl _,H,I,rfl,?_⟩;rw [show its.toArray.any (eqU x)=its.any (eqU x) by simp,Aw r fs];exact q
 ·obtain ⟨its,r,pl,hz⟩:=I.tuple hq;refine SeqAt.notIn_tupleAt (eqU x) pl (fun w hw=>wA rx fx r fs w (by simpa using hw)) ⟨.bl _,H,I,rfl,?_⟩;rw [show its.toArray.any (eqU x)=its.any (eqU x) by simp,Aw r fs];exact q
theorem aA:vM X (.builtin "len") (kLen X.K):=by
 intro pins s σ H xs us Q I r h;obtain ⟨p,ys,rfl,hq,q⟩:=h;obtain ⟨u,rfl,rx⟩:=vals1 r;cases rx;have hn:=wB;rcases hq with hq| hq
 ·obtain ⟨its,r',pl,hz⟩:=I.list hq;have hlen:=r'.length;exact Calls.call_len_list pl.isList (by simp only [aee]<;>omega) ⟨.int ys.length,H,I.tok _,⟨s.toks+1,by rw [aee,hlen]⟩,q⟩
 ·obtain ⟨its,r',pl,hz⟩:=I.tuple hq;have hlen:=r'.length;exact len_tuple pl (by simp only [aee]<;>omega) ⟨.int ys.length,H,I.tok _,⟨s.toks+1,by rw [aee,hlen]⟩,q⟩
theorem GJ:vM X (.builtin "len") (fun xs H Q=>∃ z,xs=[.str z]/\z.length<=sizeLine/\Q (.int z.length) H):=by
 intro pins s σ H xs us Q I r h;obtain ⟨z,rfl,hz,q⟩:=h;obtain ⟨u,rfl,t,rfl⟩:=vals1 r;have hn:=wB;exact len_str (by omega) ⟨.int z.length,H,I.tok _,⟨_,rfl⟩,q⟩
theorem bx:vM X (.type "list") (abz X.K):=by
 intro pins s σ H xs us Q I r h;obtain ⟨p,ys,rfl,hq,q⟩:=h;obtain ⟨u,rfl,rx⟩:=vals1 r;cases rx;have fin:∀ (its:List Value),Vals ys its->ys.length<=sizeLine->∀ (h':Heap)(c':Nat),(∀ b o',s.heap.get? b=some o'->h'.get? b=some o') ->
   h'.get? s.heap.objs.size=some { cls:=.type "list",dict:=none,data:=.seq its.toArray c',slots:=#[] }->EP X pins σ Q (.ref s.heap.objs.size) { s with heap:=h' }:=fun its r' hz h' c' kp e =>
  ⟨.ref s.heap.objs.size,_,I.laid (t':=s.toks) kp (ad2 _) (show iC X.prog X.w _ h' _ (.lst ys) from ⟨hz,its,c',r',e⟩),rfl,q _ (I.hok.fresh (ad2 _))⟩
 rcases hq with hq| hq
 ·obtain ⟨its,r',pl,hz⟩:=I.list hq;have hlen:=r'.length;obtain ⟨o,ho,hc,n,hd⟩:=pl.isList;exact call_list_seq p (.inl rfl) ho hc hd (fun h' c' kp e=>fin its r' hz h' c' kp e) (by simp only [aee]<;>omega)
 ·obtain ⟨its,r',pl,hz⟩:=I.tuple hq;have hlen:=r'.length;obtain ⟨o,ho,hc,n,hd⟩:=pl;exact call_list_seq p (.inr rfl) ho hc hd (fun h' c' kp e=>fin its r' hz h' c' kp e) (by simp only [aee]<;>omega)
theorem Ep:vM X (.type "tuple") (fun xs H Q=>∃ p ys,xs=[.ref p]/\((SqL X.K H p ys/\∀ l,H l=none->Q (.ref l) (upd H l (.tup ys)))\/(SqT X.K H p ys/\Q (.ref p) H))):=by
 intro pins s σ H xs us Q I r h;obtain ⟨p,ys,rfl,h⟩:=h;obtain ⟨u,rfl,rx⟩:=vals1 r;cases rx;rcases h with ⟨hq,q⟩ | ⟨hq,q⟩
 ·obtain ⟨its,r',pl,hz⟩:=I.list hq;have hlen:=r'.length;refine call_tuple_list pl.isList (fun h' kp=>?_) (by simp only [aee]<;>omega)
  have I1:Inv X pins σ H { s with heap:=h' }:=I.kept (t':=s.toks) kp;have I2:Inv X pins σ (upd H h'.objs.size (.tup ys)) { s with heap:=h'.push { cls:=.type "tuple",data:=.seq its.toArray } }:=
   I1.laid (t':=s.toks) (fun b o e=>ad6 _ e) (ad2 _) (show iC X.prog X.w _ _ _ (.tup ys) from ⟨hz,its,r',IsTup.new _ _⟩)
  exact ⟨.ref h'.objs.size,_,I2,rfl,q _ (I1.hok.fresh (ad2 _))⟩
 ·obtain ⟨its,r',pl,hz⟩:=I.tuple hq;exact call_tuple_same pl ⟨.ref p,H,I,rfl,q⟩
def tyV (K:PySem.W.Frag)(T:String)(x:V)(H:Hp):Prop:=match x with
 | .str _=>T="str"
 | .int _=>T="int"
 | .ref p=>(T="list"/\∃ xs,SqL K H p xs)\/(T="tuple"/\∃ o,K.lookup p=some o/\o.cls=.type "tuple"/\o.dict=none) \/
   (T="dict"/\((∃ kvs,H p=some (.dK kvs))\/∃ kvs,H p=some (.dT kvs)))\/(T="set"/\∃ S n,H p=some (.set S n))
 | _=>False
theorem Td {pins:List (Addr × Obj)}{σ:St}{H:Hp}{s:Shared}{T:String}{x:V}{v:Value}(I:Inv X pins σ H s)(r:RelV x v)(ty:tyV X.K T x H):
  s.TypeIs v T/\∀ a,v=.ref a->∃ ob,s.heap.get? a=some ob/\ob.dict=none:=by
 cases x with
 | str z =>
  obtain ⟨t,rfl⟩:=r;cases (show T="str" from ty);exact ⟨typeIs_str s z t,fun _ e=>nomatch e⟩
 | int i =>
  obtain ⟨t,rfl⟩:=r;cases (show T="int" from ty);exact ⟨typeIs_int s i t,fun _ e=>nomatch e⟩
 | ref p =>
  cases r;rcases ty with ⟨rfl,xs,hq⟩ | ⟨rfl,o,hk,hc,hd⟩ | ⟨rfl,hk⟩ | ⟨rfl,S,n,hk⟩
  ·obtain ⟨its,_,pl,_⟩:=I.list hq;refine ⟨pl.isList.typeIs,fun a e=>?_⟩;cases e;obtain ⟨o,n,e,c,hd,_⟩:=pl;exact ⟨o,e,hd⟩
  ·refine ⟨⟨o,I.kIn p o hk,hc⟩,fun a e=>?_⟩;cases e;exact ⟨o,I.kIn _ o hk,hd⟩
  ·have z:∃ o,s.heap.get? p=some o/\o.ExactDict:=by
    rcases hk with ⟨kvs,hk⟩ | ⟨kvs,hk⟩
    ·obtain ⟨_,_,_,_,o,_,_,e,ex,_⟩:=I.hok p _ hk;exact ⟨o,e,ex⟩
    ·obtain ⟨_,_,_,_,o,_,_,e,ex,_⟩:=I.hok p _ hk;exact ⟨o,e,ex⟩
   obtain ⟨o,e,ex⟩:=z;refine ⟨⟨o,e,ex.1⟩,fun a e2=>?_⟩;cases e2;exact ⟨o,e,ex.2.1⟩
  ·obtain ⟨o,_,_,_,e,ex,_⟩:=I.hok p _ hk;refine ⟨⟨o,e,ex.1⟩,fun a e2=>?_⟩;cases e2;exact ⟨o,e,ex.2.1⟩
 | _=>exact False.elim ty
def tBM0 (K:PySem.W.Frag)(T:String)(r:V->List V->Hp->VK->Prop)(to:TE):TE:=fun σ H Q=>to σ H fun x H1=>tyV K T x H1/\r x [] H1 Q
def tBM (K:PySem.W.Frag)(T:String)(r:V->List V->Hp->VK->Prop)(to:TE)(t:TA):TE:=fun σ H Q=>to σ H fun x H1=>tyV K T x H1/\t σ H1 fun xs H2=>r x xs H2 Q
variable {o e:Expr}{es:List Expr}{to:TE}{t:TA}{name:Str}{apos cpos:Pos}{T id:String}{r:V->List V->Hp->VK->Prop}
theorem Ub (pa:PlainAttrs T)(slot:Slot T name id)(hty:typeOf (.builtin id)=pure (.type "method_descriptor"))(hm:MtR X id r)(ho:PE X o to)
  (hbase:attributeBase o name X.env (eval o X.env)=eval o X.env:=by rfl)(hline:(apos.endLine ==cpos.line)=true:=by rfl):PE X (.Call (.Attribute o name apos) [] [] cpos) (tBM0 X.K T r to):=by
 intro pins s σ H Q I h;refine wpAny_Call_method0_late hbase hline (thn (ho pins s σ H _ I h) fun v s1 ⟨x,H1,I1,r1,ty,q1⟩=>?_);obtain ⟨h1,h2⟩:=Td I1 r1 ty;exact ⟨T,id,pa,slot,hty,h1,h2,afI rfl (PySem.evalArgs_none (hm pins s1 σ H1 x [] v [] Q I1 r1 .nil q1))⟩
theorem jy (pa:PlainAttrs T)(slot:Slot T name id)(hty:typeOf (.builtin id)=pure (.type "method_descriptor"))(hm:MtR X id r)(ho:PE X o to)(ha:PA X (e::es) t)
  (hbase:attributeBase o name X.env (eval o X.env)=eval o X.env:=by rfl)
  (hfew:((backTo cpos (starEach (e::es) X.env)).all (fun x=>!x.1) && (backToKw cpos (keywordEach [] X.env)).all (fun x=>x.1.isSome)
   && decide ((e::es).length+([]:List Keyword).length+(if ([]:List Keyword).isEmpty then 0 else 1)<30))=true:=by rfl)
  (hline:(apos.endLine ==cpos.line)=true:=by rfl)(hs:starEach (e::es) X.env=(false,eval e X.env)::starEach es X.env:=by rfl)(hplain:(backTo cpos (starEach es X.env)).any (·.1)=false:=by rfl):
  PE X (.Call (.Attribute o name apos) (e::es) [] cpos) (tBM X.K T r to t):=by
 intro pins s σ H Q I h
 refine wpAny_Call_method_late hbase hfew hline rfl (thn (ho pins s σ H _ I h) fun v s1 ⟨x,H1,I1,r1,ty,q1⟩=>?_)
 obtain ⟨h1,h2⟩:=Td I1 r1 ty
 refine ⟨T,id,pa,slot,hty,h1,h2,?_⟩
 have hA:=ha cpos pins s1 σ H1 _ I1 q1
 rw [hs] at hA ⊢
 refine afI (by show (false|| (backTo cpos (starEach es X.env)).any (·.1))=false;rw [hplain]<;>rfl) (Calls.evalArgs_plain ?_)
 exact thn hA fun us s2 ⟨vs,H2,I2,r2,q2⟩=>hm pins s2 σ H2 x vs v us Q I2 r1 r2 q2
end
def MtM (X:Cx)(id:String)(r:V->List V->Hp->VK->Prop):Prop:=
 ∀ (pins:List (Addr × Obj))(s:Shared)(σ:St)(H:Hp)(x:V)(xs:List V)(v:Value)(us:List Value)(Q:VK),Inv X pins σ H s->RelV x v->Vals xs us->r x xs H Q ->
  wpAny (model X.prog X.w) X.A (call (.builtin id) (v::us)) (EP X pins σ Q) X.xe s
theorem Vals.one:∀ {x:V}{us:List Value},Vals [x] us->∃ u,us=[u]/\RelV x u
 | _,_,.cons r .nil=>⟨_,rfl,r⟩
theorem Vals.two:∀ {x y:V}{us:List Value},Vals [x,y] us->∃ u v,us=[u,v]/\RelV x u/\RelV y v
 | _,_,_,.cons r (.cons q .nil)=>⟨_,_,rfl,r,q⟩
theorem Vals.zero:∀ {us:List Value},Vals [] us->us=[]
 | _,.nil=>rfl
theorem Vals.rep {xs:List V}{us:List Value}(h:Vals xs us):∀ k:Nat,Vals (List.replicate k xs).flatten (List.replicate k us).flatten
 | 0=>.nil
 | k+1=>by
  rw [ae2,ae2,afo,afo];exact Vals.append h (Vals.rep h k)
theorem foldl_rep (its:List Value):∀ (k:Nat)(acc:List Value),
  List.foldl (fun x1 x2=>x1++x2) acc.toArray (List.replicate k its.toArray)=(acc++(List.replicate k its).flatten).toArray
 | 0,acc=>by simp
 | k+1,acc=>by
  have e:acc.toArray++its.toArray=(acc++its).toArray:=by simp
  have e2:(acc++its)++(List.replicate k its).flatten=acc++(List.replicate (k+1) its).flatten:=by
   rw [ae2,afo,afY]
  rw [<- e2,<- foldl_rep its k (acc++its),<- e,ae2,List.foldl_cons]
section
variable {X:Cx}{pins:List (Addr × Obj)}{σ:St}{H:Hp}{s:Shared}{l b:Addr}{xs ys zs:List V}
theorem Inv.adg {its its':List Value}{n:Nat}{f:Array Value->Array Value}{t':Nat}(I:Inv X pins σ H s)(hH:H l=some (.lst xs))
  (e:s.heap.get? l=some { cls:=.type "list",data:=.seq its.toArray n })(hf:f its.toArray=its'.toArray)(hv:Vals ys its')(hz:ys.length<=sizeLine):
  Inv X pins σ (upd H l (.lst ys)) { s with heap:=s.heap.update l (Obj.mapSeq f),toks:=t' }:=by
 have q:=PySem.IsL.update e f
 rw [hf] at q
 refine I.write (x:=l) (e:=l) (by rw [hH];exact trivial) (.inl rfl) (fun b' u hb hu=>(aeJ s.heap (Obj.mapSeq f) (Ne.symm hb)).trans hu) ⟨_,q⟩ ?_
 exact ⟨hz,its',_,hv,q⟩
theorem Inv.adO {its:List Value}{t':Nat}(I:Inv X pins σ H s)(hv:Vals ys its)(hz:ys.length<=sizeLine):
  Inv X pins σ (upd H s.heap.objs.size (.lst ys)) { s with heap:=s.heap.push { cls:=.type "list",data:=.seq its.toArray },toks:=t' }:=
 I.laid (fun _ _ q=>ad6 _ q) (ad2 _) ⟨hz,its,0,hv,aer _ rfl⟩
theorem Inv.fresh (I:Inv X pins σ H s):H s.heap.objs.size=none:=I.hok.fresh (ad2 _)
theorem Inv.aam (I:Inv X pins σ H s)(hH:H l=some (.lst xs)):xs.length<=sizeLine/\∃ (its:List Value)(n:Nat),Vals xs its/\xs.length=its.length/\s.heap.get? l=some { cls:=.type "list",data:=.seq its.toArray n }:=by
 obtain ⟨z,its,n,r,e⟩:=I.hok l _ hH;exact ⟨z,its,n,r,r.length,e⟩
theorem RK {n:Nat}(h:n<=sizeLine):Builtin.List.listTooLong n=false:=by
 unfold Builtin.List.listTooLong;exact decide_eq_false (by omega)
end
section
variable {X:Cx}
inductive Ze (x:V)(vs:List V)(H:Hp)(Q:VK):Prop
 | mk (l:Addr)(xs:List V)(y:V)(_:x=.ref l)(_:vs=[y])(_:H l=some (.lst xs))(_:xs.length<sizeLine)(_:Q .non (upd H l (.lst (xs++[y]))))
theorem aY:MtM X "list.append" Ze:=by
 intro pins s σ H x vs v us Q I rx rv h;obtain ⟨l,xs,y,rfl,rfl,hH,hz,q⟩:=h;cases rx;obtain ⟨u,rfl,ru⟩:=rv.one;obtain ⟨z,its,n,r,hl,e⟩:=I.aam hH;refine call_meets F.slot_list_append ⟨_,e,rfl⟩ F.entry_list_append (F.args_list_append_2 _ _) (PySem.list_append l its.toArray n u (by rw [aee];omega)) ⟨e,?_⟩;refine ⟨.non,_,I.adg (its':=its++[u]) hH e (by simp) (r.append (.cons ru .nil)) ?_,rfl,q⟩;rw [ad7,afM];omega
def aaO:V->List V->Hp->VK->Prop:=fun x vs H Q=>∃ l xs,x=.ref l/\vs=[]/\H l=some (.lst xs)/\Q .non (upd H l (.lst []))
theorem JF:MtM X "list.clear" aaO:=by
 intro pins s σ H x vs v us Q I rx rv h;obtain ⟨l,xs,rfl,rfl,hH,q⟩:=h;cases rx;have hus:=rv.zero;subst hus;obtain ⟨z,its,n,r,hl,e⟩:=I.aam hH;refine call_meets F.slot_list_clear ⟨_,e,rfl⟩ F.entry_list_clear (F.args_list_clear_1 _) (AutoSeq1.list_clear_list_0 l its.toArray n (by rw [aee];omega)) ⟨e,?_⟩;exact ⟨.non,_,I.adg (its':=[]) (ys:=[]) hH e rfl .nil (aez _),rfl,q⟩
inductive rCat (x y:V)(H:Hp)(Q:VK):Prop
 | mk (l b:Addr)(xs zs:List V)(_:x=.ref l)(_:y=.ref b)(_:H l=some (.lst xs))(_:H b=some (.lst zs))(_:xs.length+zs.length<=sizeLine)(_:∀ p,H p=none->Q (.ref p) (upd H p (.lst (xs++zs))))
theorem Gk:OpR X (binaryOp .Add) rCat:=by
 intro pins s σ H x y v u Q I rx ry h;obtain ⟨l,b,xs,zs,rfl,rfl,hH,hB,hz,q⟩:=h;cases rx;cases ry;obtain ⟨z,its,n,r,hl,e⟩:=I.aam hH;obtain ⟨z2,its2,n2,r2,hl2,e2⟩:=I.aam hB;refine PySem.P.add_list e e2 ?_ (by rw [aee,aee];omega);have ea:its.toArray++its2.toArray=(its++its2).toArray:=by simp
 rw [ea];exact ⟨.ref _,_,I.adO (t':=s.toks) (r.append r2) (by rw [ad7];omega),rfl,q _ I.fresh⟩
def rRep:R2:=fun x y H Q=>∃ l k xs,x=.ref l/\y=.int k/\H l=some (.lst xs)/\-(2 ^ 63)<=k/\k<2 ^ 63/\xs.length*k.toNat<=sizeLine /\
 ∀ p,H p=none->Q (.ref p) (upd H p (.lst (List.replicate k.toNat xs).flatten))
theorem len_rep {α:Type}(xs:List α)(k:Nat):(List.replicate k xs).flatten.length=k*xs.length:=by
 induction k with
 | zero=>simp
 | succ k ih=>rw [ae2,afo,ad7,ih,Nat.succ_mul,Nat.add_comm]
theorem yw:OpR X (binaryOp .Mult) rRep:=by
 intro pins s σ H x y v u Q I rx ry h;obtain ⟨l,k,xs,rfl,rfl,hH,h1,h2,hz,q⟩:=h;cases rx;obtain ⟨t,rfl⟩:=ry;obtain ⟨z,its,n,r,hl,e⟩:=I.aam hH;have hlen:its.toArray.size*k.toNat<=sizeLine:=by rw [aee,<- hl];exact hz
 have hcap:¬ its.toArray.size*k.toNat >(2 ^ 63 - 1) / 8:=by
  have:(sizeLine:Nat)<=(2 ^ 63 - 1) / 8:=by decide
  omega
 have hfit:¬ (!Builtin.List.listFitsIndex k)=true:=by
  rw [fitsIndex_both h1 h2];exact aec
 have hlong:¬ Builtin.List.listTooLong (its.toArray.size*k.toNat)=true:=by
  rw [RK hlen];exact aec
 have hnew:List.foldl (fun x1 x2=>x1++x2) #[] (List.replicate (if its.toArray.isEmpty=true then 0 else k.toNat) its.toArray)=(List.replicate k.toNat its).flatten.toArray:=by
  have f0:∀ m:Nat,List.foldl (fun x1 x2=>x1++x2) #[] (List.replicate m its.toArray)=(List.replicate m its).flatten.toArray:=fun m=>by
   have:=foldl_rep its m [];rw [List.nil_append] at this;exact this
  rw [f0];cases its with
  | nil=>simp
  | cons a r'=>rw [if_neg (by simp)]
 refine wpAny_binaryOp_repeat_ref (T:="list") (U:="int") (by decide) ⟨_,e,rfl⟩ (fun s'=>typeIs_int s' k t) noFill_list_mul F.fills_int_mul F.slot_int_rmul repeat_list F.slot_int_index.lookup
  (call_meets F.slot_int_rmul (typeIs_int s k t) F.entry_int_rmul (F.args_int_rmul_2 _ _) (int___rmul___int_list k t l its.toArray n)
   ⟨e,rfl,⟨_,e,rfl⟩,call_meets F.slot_list_mul ⟨_,e,rfl⟩ F.entry_list_mul (F.args_list_mul_2 _ _) (AutoListH.list___mul___list_int_3 l its.toArray n k t hfit hcap hlong) ⟨e,?_⟩⟩)
 rw [hnew];exact ⟨.ref _,_,I.adO (t':=s.toks) (r.rep k.toNat) (by rw [len_rep,Nat.mul_comm];exact hz),rfl,q _ I.fresh⟩
end
end L2
namespace Att
open PySem PySem.W PySem.Calls PyProof.Rows
theorem zY {P:Params}{h:Heap}:∀ (ns:List Int)(vs:List Value),WellAll P h vs (ns.map WData.int)->IntsAre vs ns:=by
 intro ns
 induction ns with
 | nil =>
  intro vs w;rw [List.map_nil] at w;cases w;exact .nil
 | cons n ns ih =>
  intro vs w;rw [aey] at w;cases w with
  | cons a b =>
   cases a;exact .cons _ _ (ih _ b)
theorem MJ {l:OpenLaw}{n:Nat}(hn:l.most=some n){P:Params}{h:Heap}{args:List WData}{vals:List Value}
  (hpre:l.row.toRowW.claim.pre args=true)(hwl:WellAll P h vals args):
  ∃ a vs ns,vals=[Value.ref a]/\args=[WData.list (ns.map WData.int)]/\h.get? a=some { cls:=.type "list",data:=.seq vs.toArray }/\IntsAre vs ns/\ns.length<=n:=by
 have hsh:WShape.hasAll [] args [.list .int]=true:=(pre_splitW hpre).1
 have hc:l.pre.holds [] { args:=args }=true:=(pre_splitW hpre).2
 obtain ⟨d,r,rfl,h1,h2⟩:=hasAllW_cons hsh
 obtain rfl:=hasAllW_nil h2
 obtain ⟨xs,rfl,h3⟩:=hasW_list h1
 obtain ⟨ns,rfl⟩:=items_int h3
 have hlen:ns.length<=n:=by
  unfold OpenLaw.pre at hc
  have h4:(WTm.not (.lt (.lit (.int (n:Int))) (.len (.arg 0)))).holds [] { args:=[.list (ns.map .int)] }=true:=by
   have h4:=(holds_andW hc).1
   rw [hn] at h4
   exact h4
  have h5:=condW_of h4 (w_not (w_lt w_lit (w_len_list (w_arg rfl))))
  rw [TX] at h5
  refine Nat.le_of_not_lt fun q=>?_
  have q':(n:Int)<((ns.length:Nat):Int):=by omega
  first
   | (rw [decide_eq_true q'] at h5;exact absurd h5 (by decide))
   | (simp at h5;omega)
 cases hwl with
 | cons w1 w2 =>
  cases w2
  cases w1 with
  | list ho hall=>exact ⟨_,_,ns,rfl,rfl,ho,zY ns _ hall,hlen⟩
theorem Nf (l:OpenLaw)(args:List WData):l.row.toRowW.claim.post args (.bool true) args=true:=
 postW_of (r:=l.row.toRowW) (X:=(true ==true))
  (show WShape.has [] (.bool true) .bool=true by first| rfl| decide| simp [WShape.has,WShape.arms,WShape.armsAll])
  (show (WTm.eq .res (.lit (.bool true))).value [] { args:=args,res:=some (.bool true),after:=args }=some (.bool (true ==true)) from w_eq_bool (w_res rfl) w_lit) rfl
theorem Ij {l:OpenLaw}{n:Nat}{q:Program}{loose:List Str}{XP:(Str->Option Value)->Heap->Prop}{YP:World->Heap->Prop}{d:DefRec}
  (hn:l.most=some n)(hdf:d.params.defaults=[])
  (call:∀ (w:World)(s₀ s₁:Shared)(mg mb:Str->Option Value)(fa:Addr)(o:Obj)(pm cd doc:Value)(a:Addr)(vs:List Value)(ns:List Int),
   Ground q loose [] XP w s₀ mg mb s₁.heap->YP w s₁.heap ->
   s₁.heap.get? fa=some o->o.data=.func (docDef d.name d.params d.body d.scope pm cd doc)->s₁.heap.CodeRec cd d.name->mg d.name=some (.ref fa) ->
   s₁.heap.get? a=some { cls:=.type "list",data:=.seq vs.toArray }->IntsAre vs ns->ns.length<=n->s₁.gens=#[] ->
   codeAny (model l.prog w) callerA (.call (.ref fa) ⟨[.ref a],[]⟩) (fun r s'=>r=.ok (.ret (.bool true))/\OldK s₁.heap s'.heap/\s'.os=s₁.os/\AllBare s'.gens) s₁):
  WalkO q loose XP YP l.row.toRowW d [] (fun f vs=>PySem.call f vs):=by
 intro w s₀ s₁ mg mb G Y fa o pm cd doc dV kV ho hd hcd hD hmg hg args vals as hpre hlay hrd hwl hlo
 obtain rfl:dV=.none:=Dflts.none hD hdf
 obtain rfl:kV=.none:=Dflts.noKw hD
 obtain ⟨a,vs,ns,rfl,rfl,hobj,hints,hlen⟩:=MJ hn hpre hwl
 refine enter_call (codeAny_mono (call w s₀ s₁ mg mb fa o pm cd doc a vs ns G Y ho (fd_plain hd) hcd hmg hobj hints hlen hg) fun r s' hq=>?_)
 obtain ⟨rfl,h2,h3,h4⟩:=hq
 exact ⟨.inl ⟨.bool true,.bool true,[],rfl,fun _=>rfl,.bool true,Nf l _,fun _=>⟨List.Pairwise.nil,fun _ hm=>(nomatch hm)⟩⟩,h2,h3,h4⟩
end Att
namespace L2
open PySem PySem.Spec PyProof.Rows
theorem Fd:∀ {vs:List Value}{ns:List Int},IntsAre vs ns->Vals (ns.map V.int) vs
 | _,_,.nil=>.nil
 | _,_,.cons n t h=>.cons ⟨t,rfl⟩ (Fd h)
abbrev CX0:CXT:=fun _ _ _ _ _ _=>False
abbrev E0:XK:=fun _ _ _=>False
theorem wg {X:Cx}:Passes CX0 X E0:=fun _ _ _ _ _ _ _ h=>h.elim
structure Fun (K:PySem.W.Frag)(x qual:Str)(st:Stmt)(f:Addr)(fd:FuncData):Prop where
 ex:∃ (oc:Value)(od:Option Addr)(kV doc pm:Value)(an:Option Addr)(cdv ct:Value)(osl:Array (Option Value)),
  fd=fnOf x qual (iG st) (dM st) (ao st) .none kV doc pm an cdv ct/\K.lookup f=some ⟨oc,od,.func fd,osl⟩/\codeIn K cdv qual=true
 kp:keepIn K (.ref f)=true
variable {P:Program}{w:World}{K:PySem.W.Frag}{mg:Str->Option Value}{base:Heap}
theorem Fun.ok {x qual:Str}{st:Stmt}{f:Addr}{fd:FuncData}{N ps:List Str}{k:Nat}{sp:Sp}(F:Fun K x qual st f fd)(S:aH N ps (ao st))(len:∀ vs H Q E,sp vs H Q E->vs.length=ps.length)
  (hbody:∀ (cdv:Value)(A:Around)(outer:List Env)(s:Shared)(H:Hp)(vs:List V)(Q:VK)(E:XK),tO k (A.deeper (envOfC qual (ao st) s.heap.objs.size f cdv))->sp vs H Q E ->
   ∃ t,PSs (Qi CX0 P w K mg base N qual (ao st) f cdv A outer s H E).nox (dM st) t/\t { nx:=fun _ H'=>Q .non H',rt:=Q } (start N vs) H):G9 P w K mg base CX0 (k+1) f fd ps sp:=by
 obtain ⟨oc,od,kV,doc,pm,an,cdv,ct,osl,rfl,lk,hcd⟩:=F.ex;refine Sq lk hcd S len fun A outer s H vs Q E hr hsp=>?_;obtain ⟨t,h,q⟩:=hbody cdv A outer s H vs Q E hr hsp;exact ⟨t,h.nox,q⟩
theorem Fun.binds {x qual:Str}{st:Stmt}{f:Addr}{fd:FuncData}{ps:List Str}(F:Fun K x qual st f fd)
  (h:∀ (kV doc pm:Value)(an:Option Addr)(cdv ct:Value)(us:List Value),us.length=ps.length->bindArgs (fnOf x qual (iG st) (dM st) (ao st) .none kV doc pm an cdv ct) ⟨us,[]⟩=pure (ps.zip us)):Binds K fd ps []:=by
 obtain ⟨oc,od,kV,doc,pm,an,cdv,ct,osl,rfl,lk,hcd⟩:=F.ex;exact .all (h kV doc pm an cdv ct)
theorem abW {x qual:Str}{st:Stmt}{f:Addr}{oc:Value}{od an:Option Addr}{osl:Array (Option Value)}{kV doc pm cdv ct:Value}(l:K.lookup f=some ⟨oc,od,.func (fnOf x qual (iG st) (dM st) (ao st) .none kV doc pm an cdv ct),osl⟩)
  (c:codeIn K cdv qual=true)(k:keepIn K (.ref f)=true):Fun K x qual st f (fnOf x qual (iG st) (dM st) (ao st) .none kV doc pm an cdv ct):=⟨⟨oc,od,kV,doc,pm,an,cdv,ct,osl,rfl,l,c⟩,k⟩
section
variable {X:Cx}
theorem pv (i:Nat){x:Str}{pos:Pos}(hN:X.N[i]?=some x:=by rfl)(hv:Vis X.env.scope x:=by first| exact Or.inl rfl| exact Or.inr (Or.inl rfl) | exact Or.inr (Or.inr rfl))(hd:(x ==("__debug__":Str))=false:=by decide)
  (hcd:(x ==("__classdict__":Str))=false:=by decide):PE X (.Name x pos) (ach i):=aaT hN hv hd hcd
end
theorem yC {A B:Prop}(h:B):if false=true then A else B:=by
 rw [if_neg aec];exact h
theorem Ce {A B:Prop}(h:A):if true=true then A else B:=by
 rw [if_pos rfl];exact h
theorem ZL {c A B:Prop} [Decidable c] (h1:c->A) (h2:¬ c->B):if c then A else B:=by
 by_cases h:c
 ·rw [if_pos h];exact h1 h
 ·rw [if_neg h];exact h2 h
theorem ZK {c A B:Prop} [Decidable c] (hc:c) (h:B):if (!decide c)=true then A else B:=by
 rw [decide_eq_true hc];exact yC h
def Same (H H':Hp):Prop:=∀ b o,H b=some o->H' b=some o
theorem Same.refl (H:Hp):Same H H:=fun _ _ h=>h
theorem Same.free {H H':Hp}(e:Same H H'){l:Addr}(h:H' l=Option.none):H l=Option.none:=by
 cases q:H l with
 | none=>rfl
 | some o =>
  rw [e l o q] at h;cases h
theorem Same.seq {K:PySem.W.Frag}{H H':Hp}{a:Addr}{xs:List V}(e:Same H H')(h:SqL K H a xs):SqL K H' a xs:=by
 rcases h with (h| ⟨o,h⟩) | h
 ·exact .inl (.inl (e _ _ h))
 ·exact .inl (.inr ⟨o,e _ _ h⟩)
 ·exact .inr h
end L2
namespace L2
open PySem PySem.Spec PyProof.Rows
def clo (cells:List (Str × Addr)):List (Str × NameKind)->List (Str × Addr)->List (Str × Addr)
 | [],cs=>cs
 | (n,k)::r,cs=>clo cells r (if k == .free then (n,(cells.lookup n).getD 0)::cs else cs)
theorem Qo {env:Env}:∀ (names:List (Str × NameKind))(cs:List (Str × Addr)),(∀ y∈names,y.2=.free->∃ c,env.cells.lookup y.1=some c) ->
  (forIn names cs fun (x:Str × NameKind)(r:List (Str × Addr))=>(do
   let cs:=r
   match x with
   | (name,kind)=>
    if kind == .free then do
     let c <- cellOf env name
     let cs:=(name,c)::cs
     pure (ForInStep.yield cs)
    else pure (ForInStep.yield cs):Sem (ForInStep (List (Str × Addr)))))=pure (clo env.cells names cs)
 | [],cs,_=>rfl
 | (n,k)::r,cs,h=>by
  rw [List.forIn_cons]
  by_cases hk:k=.free
  ·subst hk
   obtain ⟨c,hc⟩:=h (n,.free) aeu rfl
   have e:cellOf env n=pure c:=by unfold cellOf;rw [hc]
   simp only [beq_self_eq_true,if_true,e,pure_bind]
   rw [Qo r _ fun y hy=>h y (aej _ hy)]
   simp [clo,hc]
  ·have hb:(k ==NameKind.free)=false:=by simpa using hk
   simp only [hb,afi,if_false,pure_bind]
   rw [Qo r _ fun y hy=>h y (aej _ hy)]
   simp [clo,hb]
theorem uh {env:Env}{scope:Scope}(h:∀ y∈scope.names,y.2=.free->∃ c,env.cells.lookup y.1=some c):closureFor scope env=pure (clo env.cells scope.names []):=by
 unfold closureFor;have e:=Qo (env:=env) scope.names [] h
 first
  | (rw [<- e];rfl)
  | (simp only [bind_pure];exact e)
  | exact e
theorem Qn {cells:List (Str × Addr)}:∀ (names:List (Str × NameKind))(cs:List (Str × Addr))(p:Str × Addr),p∈clo cells names cs->p∈cs\/p.2=(cells.lookup p.1).getD 0
 | [],_,_,h=>.inl h
 | (n,k)::r,cs,p,h=>by
  rcases Qn r _ p h with h' | h'
  ·by_cases hk:(k ==NameKind.free)=true
   ·rw [if_pos hk] at h';rcases aen.mp h' with e| e
    ·subst e;exact .inr rfl
    ·exact .inl e
   ·rw [if_neg hk] at h';exact .inl h'
  ·exact .inr h'
theorem J2 {cells:List (Str × Addr)}:∀ (names:List (Str × NameKind))(cs:List (Str × Addr))(x:Str),(cs.lookup x).isSome=true->((clo cells names cs).lookup x).isSome=true
 | [],_,_,h=>h
 | (n,k)::r,cs,x,h=>by
  refine J2 r _ x ?_;by_cases hk:(k ==NameKind.free)=true
  ·rw [if_pos hk];rw [List.lookup_cons];cases x ==n with
   | true=>rfl
   | false=>exact h
  ·rw [if_neg hk];exact h
theorem Ar {cells:List (Str × Addr)}:∀ (names:List (Str × NameKind))(cs:List (Str × Addr))(x:Str),(x,NameKind.free)∈names->((clo cells names cs).lookup x).isSome=true
 | [],_,_,h=>nomatch h
 | (n,k)::r,cs,x,h=>by
  show ((clo cells r _).lookup x).isSome=true;rcases aen.mp h with e| e
  ·have e1:x=n:=congrArg Prod.fst e;have e2:NameKind.free=k:=congrArg Prod.snd e;subst e1;subst e2;refine J2 r _ x ?_;rw [if_pos (by decide),List.lookup_cons];simp
  ·exact Ar r _ x e
theorem Qm {cells:List (Str × Addr)}{names:List (Str × NameKind)}{x:Str}{c:Addr}(h:(clo cells names []).lookup x=some c):c=(cells.lookup x).getD 0:=by
 rcases Qn names [] _ (aeF h) with z| z
 ·exact nomatch z
 ·exact z
theorem Eo {cells:List (Str × Addr)}:∀ {names:List (Str × NameKind)}(cs:List (Str × Addr)){p:Str × Addr},p∈clo cells names cs->p∈cs\/(p.1,NameKind.free)∈names
 | [],_,_,h=>.inl h
 | (n,k)::r,cs,p,h=>by
  rcases Eo (names:=r) _ h with h' | h'
  ·by_cases hk:(k ==NameKind.free)=true
   ·rw [if_pos hk] at h';rcases aen.mp h' with e| e
    ·subst e;have:k=.free:=by simpa using hk
     subst this;exact .inr aeu
    ·exact .inl e
   ·rw [if_neg hk] at h';exact .inl h'
  ·exact .inr (aej _ h')
def ug (X:Cx)(scope:Scope)(N:List Str)(s:Shared)(H:Hp)(ex:List Addr):Cx:=
 { X with N:=N,s₀:=s,H₀:=H,env:=compEnvC scope (clo X.env.cells scope.names []) s.heap.objs.size X.env,outer:=X.stack,stack:=X.stack,ex:=ex,fn:=fun x=>((clo X.env.cells scope.names []).lookup x).isNone,pn:=[],xe:=fun _ _=>False }
def freeOk (sc scope:Scope):Bool:=scope.names.all fun y=>(y.2 != .free) || (sc.names.lookup y.1 ==some .cell) || (sc.names.lookup y.1 ==some .free)
def Hy (scope:Scope):Bool:=(scope.kind == .function) && (scope.names.all fun y=>y.2 != .cell) && (scope.names.all fun y=>y.2 != .local|| scope.names.lookup y.1 ==some .local)
def Ih (scope:Scope)(N N':List Str)(cap:List (Option Nat)):Bool:=(cap.length ==N'.length) && (N'.zip cap).all fun p=>match p.2 with
 | none=>true
 | some j=>N[j]? ==some p.1&& scope.names.lookup p.1 ==some .free
def Qq (cap:List (Option Nat))(σ:St):St:=cap.map fun o=>o.bind fun j=>(σ[j]?).bind id
theorem uQ {f:Str × NameKind->Str × NameKind}(hf:∀ y,(f y).1=y.1)(x:Str):∀ names:List (Str × NameKind),(names.map f).lookup x=(names.lookup x).map fun k=>(f (x,k)).2
 | []=>rfl
 | (n,k)::r=>by
  have ih:=uQ hf x r;have e1:(f (n,k)).1=n:=hf (n,k);have e2:f (n,k)=(n,(f (n,k)).2):=Prod.ext e1 rfl;rw [aey,e2,List.lookup_cons,List.lookup_cons];cases hx:x ==n with
  | true =>
   have:x=n:=by simpa using hx
   subst this;rfl
  | false=>exact ih
def rlb (env:Env):Str × NameKind->Str × NameKind:=fun (n,k)=>if (k ==NameKind.free&& env.scope.kind == .function&& env.kindOf n ==some .cell) then (n,NameKind.cell) else (n,k)
theorem M5 (env:Env)(y:Str × NameKind):(rlb env y).1=y.1:=by
 obtain ⟨n,k⟩:=y;unfold rlb;dsimp only;split <;>rfl
theorem M4 (env:Env)(n:Str)(k:NameKind):(rlb env (n,k)).2=k\/((rlb env (n,k)).2=.cell/\k=.free):=by
 unfold rlb;dsimp only;split
 ·rename_i h
  rw [aev,aev] at h;exact .inr ⟨rfl,by simpa using h.1.1⟩
 ·exact .inl rfl
theorem vX (scope:Scope)(env:Env):(relabel scope env).names=scope.names.map (rlb env):=rfl
theorem Gd {scope:Scope}{env:Env}{x:Str}(h:scope.names.lookup x=some .free):(relabel scope env).names.lookup x=some .cell\/(relabel scope env).names.lookup x=some .free:=by
 rw [vX,uQ (M5 env),h];rcases M4 env x .free with e| ⟨e,_⟩
 ·exact .inr (congrArg some e)
 ·exact .inl (congrArg some e)
theorem yr {scope:Scope}{env:Env}{x:Str}{k':NameKind}(hk:k'=.cell\/k'=.free)(hn:∀ y∈scope.names,y.2≠.cell)(h:(relabel scope env).names.lookup x=some k'):(x,NameKind.free)∈scope.names:=by
 rw [vX,uQ (M5 env)] at h;cases e:scope.names.lookup x with
 | none=>rw [e] at h;cases h
 | some k =>
  rw [e] at h;have h':(rlb env (x,k)).2=k':=aek h;have hm:=aeF e;rcases M4 env x k with z| ⟨_,z⟩
  ·rw [z] at h';subst h';rcases hk with z2| z2
   ·exact absurd z2 (hn _ hm)
   ·rw [z2] at hm;exact hm
  ·rw [z] at hm;exact hm
def PTs (X:Cx)(ifs:List Expr)(t:TT):Prop:=
 ∀ (pins:List (Addr × Obj))(s:Shared)(σ:St)(H:Hp)(Q:Bool->Hp->Prop),Inv X pins σ H s->t σ H Q ->
  wpAny (model X.prog X.w) X.A (forIn ifs true fun c r=>if r=true then do let ok <- isTrue c X.env (eval c X.env);pure (ForInStep.yield ok) else pure (ForInStep.yield r)) (TP X pins σ Q) X.xe s
def acu:TT:=fun _ H Q=>Q true H
theorem Hf {i:Nat}{x:V}{τ:St}{H:Hp}{A B:St->Hp->Prop}(h:A (τ.set i (some x)) H):R8 i x τ H fun τ4 H4=>acu τ4 H4 fun b H5=>if b=true then A τ4 H5 else B τ4 H5:=by
 show if true=true then A (τ.set i (some x)) H else B (τ.set i (some x)) H;rw [if_pos rfl];exact h
theorem dJ {X:Cx}:PTs X [] acu:=fun _ _ _ H _ I h=>wpAny_tests_nil ⟨H,I,h⟩
theorem Ds {X:Cx}{c:Expr}{t:TT}(h:PT X c t):PTs X [c] t:=fun pins s σ H Q I hq=>wpAny_tests_one (h pins s σ H Q I hq)
def BJ (J:It)(acc:Addr)(g:TG)(tc:TT)(te:TE)(τ:St)(H1:Hp)(Q:Hp->Prop):Prop:=
 ∃ W:Nat->Nat->St->Hp->Prop,(∃ m,W 0 m τ (upd H1 acc (.lst [])))/\∀ i m τ H2,W i m τ H2->(J.stop i H2/\Q H2)\/(J.go i H2/\∃ N:St->Hp->Prop,(∀ τ' H',N τ' H'->∃ m',m'<m/\W (i+1) m' τ' H')/\∀ x H3,J.yld i H2 x H3->g x τ H3 fun τ4 H4 =>
  tc τ4 H4 fun b H5=>if b=true then te τ4 H5 fun y H6=>∃ ys,H6 acc=some (.lst ys)/\ys.length<sizeLine/\N τ4 (upd H6 acc (.lst (ys++[y]))) else N τ4 H5)
theorem yd {lo:Int}{n:Nat}{acc:Addr}{g:TG}{tc:TT}{te:TE}{τ:St}{H1:Hp}{Q:Hp->Prop}(Pv:Nat->St->Hp->Prop)(h0:Pv 0 τ (upd H1 acc (.lst [])))
  (hs:∀ i τ H,i<n->Pv i τ H->g (.int (lo+i)) τ H fun τ4 H4=>tc τ4 H4 fun b H5=>if b=true then te τ4 H5 fun y H6=>∃ ys,H6 acc=some (.lst ys)/\ys.length<sizeLine/\Pv (i+1) τ4 (upd H6 acc (.lst (ys++[y]))) else Pv (i+1) τ4 H5)
  (hd:∀ τ H,Pv n τ H->Q H):BJ (Itr lo n) acc g tc te τ H1 Q:=by
 refine ⟨fun i m τ H=>m=n - i/\i<=n/\Pv i τ H,⟨n,by simp,aez _,h0⟩,?_⟩
 rintro i m τ H ⟨rfl,hi,p⟩
 by_cases hlt:i<n
 ·refine .inr ⟨hlt,Pv (i+1),fun τ' H' p'=>⟨n - (i+1),by omega,rfl,hlt,p'⟩,fun x H' y=>?_⟩
  obtain ⟨e,y⟩:=y
  subst e y
  exact hs i τ _ hlt p
 ·have e:i=n:=by omega
  subst e
  exact .inl ⟨ad2 _,hd τ H p⟩
theorem cJ {K:PySem.W.Frag}{a:Addr}{xs:List V}{acc:Addr}{g:TG}{tc:TT}{te:TE}{τ:St}{H1:Hp}{Q:Hp->Prop}(Pv:Nat->St->Hp->Prop)(h0:Pv 0 τ (upd H1 acc (.lst [])))(hl:∀ i τ H,i<=xs.length->Pv i τ H->SqL K H a xs)
  (hs:∀ i x τ H,xs[i]?=some x->Pv i τ H->g x τ H fun τ4 H4=>tc τ4 H4 fun b H5=>if b=true then te τ4 H5 fun y H6=>∃ ys,H6 acc=some (.lst ys)/\ys.length<sizeLine/\Pv (i+1) τ4 (upd H6 acc (.lst (ys++[y]))) else Pv (i+1) τ4 H5)
  (hd:∀ τ H,Pv xs.length τ H->Q H):BJ (Itl K a) acc g tc te τ H1 Q:=by
 refine ⟨fun i m τ H=>m=xs.length - i/\i<=xs.length/\Pv i τ H,⟨xs.length,by simp,aez _,h0⟩,?_⟩
 rintro i m τ H ⟨rfl,hi,p⟩
 have q:=hl i τ H hi p
 by_cases hlt:i<xs.length
 ·refine .inr ⟨⟨xs,xs[i],q,by simp [hlt]⟩,Pv (i+1),fun τ' H' p'=>⟨xs.length - (i+1),by omega,rfl,hlt,p'⟩,fun x H' y=>?_⟩
  obtain ⟨e,y⟩:=y
  subst e
  exact hs i x τ _ (y xs q) p
 ·have e:i=xs.length:=by omega
  subst e
  exact .inl ⟨⟨xs,q,ad2 _⟩,hd τ H p⟩
def Y9 (wi:TI)(cap:List (Option Nat))(g:TG)(tc:TT)(te:TE):TE:=fun σ H Q=>wi σ H fun J H1=>∀ acc,H1 acc=none->BJ J acc g tc te (Qq cap σ) H1 (fun H2=>Q (.ref acc) H2)
abbrev ab5 (ifs:List Expr)(env:Env):Sem Bool:=forIn ifs true fun c r=>if r=true then do let ok <- isTrue c env (eval c env);pure (ForInStep.yield ok) else pure (ForInStep.yield r)
abbrev wpQ {α:Type}(prog:Program)(w:World)(A:Around)(m:Sem α)(Q:α->Shared->Prop)(s:Shared):Prop:=wpAny (model prog w) A m Q (fun _ _=>False) s
theorem Qj {prog:Program}{w:World}{A:Around}{R:Result->Shared->Prop}{s:Shared}{elt target iter:Expr}{ifs:List Expr}{scope:Scope}{pos:Pos}{it acc:Value}{env:Env}(I:Nat->Shared->Prop)
  (turn:∀ k s0,I k s0->wpQ prog w A (pyNext it) (fun r s1=>(r=none/\R (.ok .next) s1)\/∃ v,r=some v /\
   wpQ prog w A (letOwnedTupleGo target it v) (fun _ s2=>wpQ prog w A (assign target env v) (fun _ s3=>wpQ prog w A (ab5 ifs env) (fun ok s4 =>
    (ok=false/\∃ m,m<k/\I m s4)\/(ok=true/\wpQ prog w A (eval elt env) (fun x s5=>wpQ prog w A (call (.builtin "list.append") [acc,x]) (fun _ s6=>∃ m,m<k/\I m s6) s5) s4)) s3) s2) s1) s0)
  (k:Nat)(h:I k s):codeAny (model prog w) A (.compLoop (.ListComp elt [⟨target,iter,ifs,0⟩] scope pos) 0 it acc env) R s:=by
 have quiet:∀ (e:Value)(s':Shared),False->notedBy (model prog w) A env (fun e s'=>R (.error e) s') e s':=fun _ _ z=>z.elim;apply codeAny_loop rfl I _ k h;intro k s0 start;apply wpAny_noted;rw [compTurn_list];apply wpAny_bind;apply wpAny_standAt;apply wpAny_bind;apply wpAny_mono (turn k s0 start) _ quiet;rintro r s1 (⟨rfl,stop⟩ | ⟨v,rfl,rest⟩)
 ·exact wpAny_pure stop
 apply wpAny_bind;apply wpAny_mono rest _ quiet;intro _ s2 h2;apply wpAny_bind;apply wpAny_mono h2 _ quiet;intro _ s3 h3;apply wpAny_bind;apply wpAny_mono h3 _ quiet;rintro ok s4 (⟨rfl,skip⟩ | ⟨rfl,add⟩)
 ·exact wpAny_pure ⟨rfl,skip⟩
 apply wpAny_bind;apply wpAny_bind;apply wpAny_mono add _ quiet;intro x s5 h5;apply wpAny_bind;apply wpAny_mono h5 _ quiet;intro _ s6 h6;exact wpAny_pure (wpAny_pure ⟨rfl,h6⟩)
section
variable {X:Cx}{tg iter elt:Expr}{ifs:List Expr}{scope:Scope}{pos:Pos}{wi:TI}{N':List Str}{cap:List (Option Nat)}{g:TG}{tc:TT}{te:TE}
theorem Cr {use:Option (Value->Sem Unit)}{R:Value->Shared->Prop}(sc:Scope)(hsc:X.env.scope=sc)(N₀:List Str)(hN₀:X.N=N₀)(f1:freeOk sc scope=true)(f2:Hy scope=true)(f3:Ih scope N₀ N' cap=true)(hcalm:X.calm=true)
  (hi:PI X tg iter wi)
  (hg:∀ (s:Shared)(H:Hp)(ex:List Addr),PG (ug X scope N' s H ex) tg g)
  (hc:∀ (s:Shared)(H:Hp)(ex:List Addr),PTs (ug X scope N' s H ex) ifs tc)
  (he:∀ (s:Shared)(H:Hp)(ex:List Addr),PE (ug X scope N' s H ex) elt te)
  (hs:∀ x,foldedSetIterable iter X.env x=pure x)
  {pins:List (Addr × Obj)}{s:Shared}{σ:St}{H:Hp}{Q:V->Hp->Prop}(I:Inv X pins σ H s)(h:Y9 wi cap g tc te σ H Q)
  (fin:∀ (acc C:Addr)(s':Shared)(H':Hp)(m:Str->Option Value),Inv X pins σ H' s'->s'.heap.Ns C m->H' C=none->C≠X.env.locals->X.s₀.heap.objs.size<=C->(∀ x c,X.env.cells.lookup x=some c->c≠C)->(∀ p∈X.pn++pins,p.1≠C)->Q (.ref acc) H' ->
   compPost (model X.prog X.w) X.A X.xe use R (.ref acc) C (.ok .next) s'):
  wpAny (model X.prog X.w) X.A (comprehension (.ListComp elt [⟨tg,iter,ifs,0⟩] scope pos) scope X.env (firstIterPos [⟨tg,iter,ifs,0⟩] pos) (newList []) false (firstIter [⟨tg,iter,ifs,0⟩] X.env) use) R X.xe s:=by
 have ok:=I.ok
 have fr:∀ y∈scope.names,y.2=.free->X.env.kindOf y.1=some .cell\/X.env.kindOf y.1=some .free:=fun y hy e=>by
  have q:=aeT.mp f1 y hy
  rw [e] at q
  have q':((sc.names.lookup y.1 ==some NameKind.cell) || (sc.names.lookup y.1 ==some NameKind.free))=true:=by simpa using q
  rw [Bool.or_eq_true] at q'
  unfold Env.kindOf
  rw [hsc]
  rcases q' with z| z
  ·exact .inl (by simpa using z)
  ·exact .inr (by simpa using z)
 obtain ⟨⟨k1,k2⟩,k3⟩:((scope.kind == .function)=true/\(scope.names.all fun y=>y.2 != .cell)=true)/\(scope.names.all fun y=>y.2 != .local|| scope.names.lookup y.1 ==some .local)=true:=by
  unfold Hy at f2
  rw [aev,aev] at f2
  exact f2
 have hkind:scope.kind=.function:=by simpa using k1
 have hcell:∀ y∈scope.names,y.2≠.cell:=fun y hy=>by
  have q:=aeT.mp k2 y hy
  simpa using q
 have hnames:∀ y∈scope.names,y.2=.local->scope.names.lookup y.1=some .local:=fun y hy e=>by
  have q:=aeT.mp k3 y hy
  rw [e] at q
  simpa using q
 have hclos:closureFor scope X.env=pure (clo X.env.cells scope.names []):=uh fun y hy e=>ok.has y.1 (fr y hy e)
 have clX:∀ x c,(clo X.env.cells scope.names []).lookup x=some c->X.env.cells.lookup x=some c:=fun x c e=>by
  have e1:=Qm e
  have hx:(x,NameKind.free)∈scope.names:=by
   rcases Eo [] (aeF e) with z| z
   ·exact nomatch z
   ·exact z
  obtain ⟨c',e2⟩:=ok.has x (fr (x,.free) hx rfl)
  rw [e2] at e1 ⊢
  rw [e1];rfl
 refine wpAny_comprehension_free (use:=use) rfl hs hclos hkind hnames ?_
 show wpAny (model X.prog X.w) X.A (eval iter X.env) _ X.xe s
 refine thn (hi pins s σ H _ I h) fun v s1 h1=>thn h1 fun itv s2 h2=>?_
 obtain ⟨it,fp,tn,J,H2,e,I2,T,st2,f2',h3⟩:=h2
 subst e
 refine wpAny_newObj_type ?_
 have fresh2:H2 s2.heap.objs.size=none:=I2.hok.fresh (ad2 _)
 have I3:Inv X pins σ (upd H2 s2.heap.objs.size (.lst [])) { s2 with heap:=s2.heap.push { cls:=.type "list",data:=.seq ([]:List Value).toArray } }:=
  I2.laid (t':=s2.toks) (fun b o e=>ad6 _ e) (ad2 _) ⟨aez _,[],0,.nil,aer _ rfl⟩
 have st3:tn 0 (s2.heap.push { cls:=.type "list",data:=.seq ([]:List Value).toArray }):=T.keep _ _ _ st2 fun b _ o e=>ad6 _ e
 have fpne:∀ b∈fp,b≠s2.heap.objs.size:=fun b hb z=>by
  obtain ⟨o,eo,_⟩:=T.obj 0 _ st2 b hb
  exact absurd (aei eo) (by rw [z];exact ae3 _)
 have fp3:∀ b∈fp,G8 X pins (upd H2 s2.heap.objs.size (.lst [])) b:=fun b hb=>by
  obtain ⟨a0,a1⟩:=f2' b hb
  exact ⟨by rw [aL (fpne b hb)];exact a0,a1⟩
 obtain ⟨W,⟨m0,w0⟩,turn⟩:=h3 s2.heap.objs.size fresh2
 generalize hacc:s2.heap.objs.size=acc at I3 fp3 w0 turn fpne ⊢
 generalize hs3:({ s2 with heap:=s2.heap.push { cls:=.type "list",data:=.seq ([]:List Value).toArray } }:Shared)=s3 at I3 ⊢
 have st3:tn 0 s3.heap:=by rw [<- hs3];exact st3
 have accTr:(upd H2 acc (.lst [])) acc=some (.lst []):=aR
 refine wpAny_newFunctionEnv hcell (by intro y hy;cases hy) (fun h4 hns hsb=>?_) hkind
 have hCf:s3.heap.get? s3.heap.objs.size=none:=Heap.get?_none_of_le (ad2 _)
 have kp4:∀ b o,s3.heap.get? b=some o->h4.get? b=some o:=fun b o e=>hsb.extBut b o (aeN (aei e)) (ad6 _ e)
 let Y:Cx:=ug X scope N' s3 (upd H2 acc (.lst [])) fp
 have envY:Y.env=compEnvC scope (clo X.env.cells scope.names []) s3.heap.objs.size X.env:=rfl
 have okY:Y.Ok:=by
  refine ⟨ok.mod,?_,ok.glob,ok.blt,ad2 _,?_,?_,?_,ok.hd,ok.frames,.inl rfl,?_,?_,?_,?_,?_,?_,?_⟩
  ·show (relabel scope X.env).kind=.function
   exact hkind
  ·exact fun x y c h1 h2=>ok.inj x y c (clX x c h1) (clX y c h2)
  ·intro x hx
   have hx':(relabel scope X.env).names.lookup x=some .cell\/(relabel scope X.env).names.lookup x=some .free:=hx
   have hm:(x,NameKind.free)∈scope.names:=by
    rcases hx' with z| z
    ·exact yr (.inl rfl) hcell z
    ·exact yr (.inr rfl) hcell z
   exact afn.mp (Ar scope.names [] x hm)
  ·intro x c hx h1
   have hx':((clo X.env.cells scope.names []).lookup x).isNone=true:=hx
   have h1':(clo X.env.cells scope.names []).lookup x=some c:=h1
   rw [h1'] at hx';cases hx'
  ·intro b hb
   obtain ⟨q0,q1,q2,q3,q4,q5⟩:=fp3 b hb
   refine ⟨?_,fun x c h1=>q4 x c (clX x c h1)⟩
   obtain ⟨o,eo,_⟩:=T.obj 0 _ st3 b hb
   exact aeN (aei eo)
  ·exact fun b o e=>I3.bs b o e
  ·exact aeP ok.bsz I3.sz
  ·intro b o e hb
   obtain ⟨q0,q1,q2,q3,q4,q5⟩:=fp3 b hb
   rcases q3 with z| z
   ·exact ok.noex b o e z
   ·exact absurd (aeC (aei e) (aeP ok.bsz z)) (ae3 _)
  ·intro b hb hf
   obtain ⟨q0,q1,q2,q3,q4,q5⟩:=fp3 b hb
   rcases aen.mp (I3.LC b hf) with z| z
   ·exact q1 z
   ·exact q2 z
  ·exact I3.stack
  ·exact I3.Dh
 have capl:cap.length=N'.length/\∀ p∈N'.zip cap,(match p.2 with| none=>true| some j=>N₀[j]? ==some p.1&& scope.names.lookup p.1 ==some .free)=true:=by
  unfold Ih at f3
  rw [aev] at f3
  exact ⟨by simpa using f3.1,fun p hp=>aeT.mp f3.2 p hp⟩
 have IY:Inv Y [] (Qq cap σ) (upd H2 acc (.lst [])) { s3 with heap:=h4,toks:=s3.toks+([]:List (Str × Value)).length }:=by
  refine ⟨okY,rfl,I3.bare,Un.kept kp4,⟨_,hns,?_⟩,?_,?_,?_,fun p hp=>absurd (show p∈([]:List (Addr × Obj)) from hp) (by simp),I3.hok.kept kp4,?_⟩
  ·intro i x v e1 e2 e3
   have e1':N'[i]?=some x:=e1
   unfold Qq at e2
   rw [ad5] at e2
   cases ec:cap[i]? with
   | none=>rw [ec] at e2;cases e2
   | some o =>
    rw [ec] at e2
    cases o with
    | none=>cases e2
    | some j =>
     have e2':(σ[j]?).bind id=some v:=by simpa using e2
     have hz:(x,some j)∈N'.zip cap:=by
      refine ad1 (i:=i) ?_
      rw [afl]
      exact ⟨e1',ec⟩
     have q:=capl.2 _ hz
     have q':(N₀[j]? ==some x)=true/\(scope.names.lookup x ==some NameKind.free)=true:=by simpa [aev] using q
     have q1:X.N[j]?=some x:=by rw [hN₀];simpa using q'.1
     have q2:scope.names.lookup x=some .free:=by simpa using q'.2
     have eσ:σ[j]?=some (some v):=by
      cases z:σ[j]? with
      | none=>rw [z] at e2';cases e2'
      | some y =>
       rw [z] at e2'
       have:y=some v:=e2'
       rw [this]
     have hk:=fr (x,.free) (aeF q2) rfl
     obtain ⟨m,hn,hl⟩:=I3.loc
     have vis:Vis X.env.scope x:=by
      rcases hk with z| z
      ·exact .inr (.inl z)
      ·exact .inr (.inr z)
     obtain ⟨u,r,l⟩:=hl j x v q1 eσ vis
     refine ⟨u,r,.inr ⟨?_,?_⟩⟩
     ·rcases Gd (scope:=scope) (env:=X.env) q2 with z| z
      ·exact .inl z
      ·exact .inr z
     ·rcases l with ⟨kl,_⟩ | ⟨_,c,ecx,hcx⟩
      ·rcases hk with z| z
       ·have z':X.env.kindOf x=some .cell:=z
        rw [kl] at z';cases z'
       ·have z':X.env.kindOf x=some .free:=z
        rw [kl] at z';cases z'
      ·have hh:=Ar (cells:=X.env.cells) scope.names [] x (aeF q2)
       obtain ⟨c',ec'⟩:=afn.mp hh
       have ec2:=clX x c' ec'
       rw [ecx] at ec2
       cases ec2
       exact ⟨c,ec',hcx.keeps kp4⟩
  ·intro x c e
   obtain ⟨v,z⟩:=I3.cell x c (clX x c e)
   exact ⟨v,z.keeps kp4⟩
  ·exact I3.hok.fresh (ad2 _)
  ·exact fun x c e=>I3.freeC x c (clX x c e)
  ·show (Qq cap σ).length=N'.length
   unfold Qq
   rw [TX];exact capl.1
 have fpY:∀ {H':Hp},(∀ b∈fp,H' b=none)->∀ b∈fp,G8 Y [] H' b:=fun {H'} hn b hb=>by
  obtain ⟨q0,q1,q2,q3,q4,q5⟩:=fp3 b hb
  refine ⟨hn b hb,(okY.exf b hb).1,okY.exfs b hb,.inl hb,(okY.exf b hb).2,fun p hp=>absurd (show p∈([]:List (Addr × Obj)) from hp) (by simp)⟩
 have st4:tn 0 h4:=T.keep _ _ _ st3 fun b _ o e=>kp4 b o e
 have back:∀ {τ:St}{H':Hp}{s':Shared},Inv Y [] τ H' s'->Q (.ref acc) H'->compPost (model X.prog X.w) X.A X.xe use R (.ref acc) s3.heap.objs.size (.ok .next) s':=fun {τ H' s'} J q=>by
  have un:Un (frs X.stack) fp (upd H2 acc (.lst [])) H' s3.heap s'.heap:=J.base
  have IX:Inv X pins σ H' s':=I3.call' (J.os) un J.hok J.bare fun b hb=>by
   obtain ⟨q0,q1,q2,q3,q4,q5⟩:=fp3 b hb
   exact ⟨q3,q1,q4,q5⟩
  obtain ⟨m,hn,_⟩:=J.loc
  refine fin acc s3.heap.objs.size s' H' m IX hn J.free (Nat.ne_of_gt I3.lt) I3.sz (fun x c e z=>?_) (fun p hp z=>?_) q
  ·obtain ⟨v,q⟩:=I3.cell x c e
   exact absurd q.lt (by rw [z];exact ae3 _)
  ·exact absurd (aei (I3.pin p hp).1) (by rw [z];exact ae3 _)
 have loop:∀ s5:Shared,s5={ s3 with heap:=h4,toks:=s3.toks+([]:List (Str × Value)).length } ->
   codeAny (model X.prog X.w) X.A (.compLoop (.ListComp elt [⟨tg,iter,ifs,0⟩] scope pos) 0 (.ref it) (.ref acc) Y.env) (compPost (model X.prog X.w) X.A X.xe use R (.ref acc) s3.heap.objs.size) s5:=by
  rintro s5 rfl
  refine Qj (fun n s'=>∃ i τ H',Inv Y [] τ H' s'/\tn i s'.heap/\(∀ b∈fp,H' b=none)/\W i n τ H') ?_ m0 ⟨0,_,_,IY,st4,fun b hb=>(fp3 b hb).1,w0⟩
  rintro n s6 ⟨i,τ,H6,I6,st6,fr6,w6⟩
  rcases turn i n τ H6 w6 with ⟨stop,q⟩ | ⟨go,N,hN,step⟩
  ·refine wpAny_mono (T.done Y rfl rfl rfl hcalm i [] s6 τ H6 (fun _ _=>False) I6 (fpY fr6) st6 stop) (fun r s7 ⟨hr,I7⟩=>?_) fun _ _ z=>z.elim
   exact .inl ⟨hr,back I7 q⟩
  ·refine wpAny_mono (T.item Y rfl rfl rfl hcalm i [] s6 τ H6 (fun _ _=>False) I6 (fpY fr6) st6 go) (fun r s6b ⟨u,hr,h7⟩=>?_) fun _ _ z=>z.elim
   refine .inr ⟨u,hr,?_⟩
   refine wpAny_mono h7 (fun _ s7 ⟨x,H7,I7,r7,y7,st7,fr7⟩=>?_) fun _ _ z=>z.elim
   have I7':=I7.pinned (fpY fr7) (T.obj _ _ st7)
   have again:∀ {τ8:St}{H8:Hp}{s8:Shared},Inv Y ([]++Gf fp s7.heap) τ8 H8 s8->N τ8 H8->∃ m,m<n/\∃ i τ H',Inv Y [] τ H' s8/\tn i s8.heap/\(∀ b∈fp,H' b=none)/\W i m τ H':=fun {τ8 H8 s8} I8 n8=>by
    obtain ⟨m',hm,w8⟩:=hN τ8 H8 n8
    refine ⟨m',hm,i+1,τ8,H8,I8.j6,T.keep _ _ _ st7 fun b hb o e=>(I8.pin (b,o) (ad4 _ (ad4 _ (sZ hb e)))).1,fun b hb=>?_,w8⟩
    obtain ⟨o,e,d⟩:=T.obj _ _ st7 b hb
    exact (I8.pin (b,o) (ad4 _ (ad4 _ (sZ hb e)))).2.1
   refine wpAny_mono (hg s3 (upd H2 acc (.lst [])) fp _ s7 τ H7 x u _ I7' r7 (step x H7 y7)) (fun _ s8 ⟨τ8,H8,I8,q8⟩=>?_) fun _ _ z=>z.elim
   refine wpAny_mono (hc s3 (upd H2 acc (.lst [])) fp _ s8 τ8 H8 _ I8 q8) (fun b s9 ⟨H9,I9,q9⟩=>?_) fun _ _ z=>z.elim
   cases b with
   | false =>
    rw [if_neg aec] at q9
    exact .inl ⟨rfl,again I9 q9⟩
   | true =>
    rw [if_pos rfl] at q9
    refine .inr ⟨rfl,?_⟩
    refine wpAny_mono (he s3 (upd H2 acc (.lst [])) fp _ s9 τ8 H9 _ I9 q9) (fun y s10 ⟨yv,H10,I10,r10,ys,hl,hz,q10⟩=>?_) fun _ _ z=>z.elim
    refine wpAny_mono (aY (X:=Y) _ s10 τ8 H10 (.ref acc) [yv] (.ref acc) [y] (fun v H'=>N τ8 H') I10 rfl (.cons r10 .nil) ⟨acc,ys,yv,rfl,rfl,hl,hz,q10⟩) (fun v s11 ⟨vv,H11,I11,r11,q11⟩=>?_) fun _ _ z=>z.elim
    exact again I11 q11
 exact codeAny_compStart_list (loop _ rfl) (T.self _ _ _ _ _ st4 (loop _ rfl))
theorem fP (sc:Scope)(hsc:X.env.scope=sc)(N₀:List Str)(hN₀:X.N=N₀)(N':List Str)(cap:List (Option Nat))(f1:freeOk sc scope=true)(f2:Hy scope=true)(f3:Ih scope N₀ N' cap=true)(hcalm:X.calm=true)
  (hi:PI X tg iter wi)
  (hg:∀ (s:Shared)(H:Hp)(ex:List Addr),PG (ug X scope N' s H ex) tg g)
  (hc:∀ (s:Shared)(H:Hp)(ex:List Addr),PTs (ug X scope N' s H ex) ifs tc)
  (he:∀ (s:Shared)(H:Hp)(ex:List Addr),PE (ug X scope N' s H ex) elt te)
  (hs:∀ x,foldedSetIterable iter X.env x=pure x:=by intro _;rfl):
  PE X (.ListComp elt [⟨tg,iter,ifs,0⟩] scope pos) (Y9 wi cap g tc te):=by
 intro pins s σ H Q I h
 rw [eval_ListComp]
 refine Cr (use:=none) sc hsc N₀ hN₀ f1 f2 f3 hcalm hi hg hc he hs I h ?_
 intro acc C s' H' m IX hn hC h1 h2 h3 h4 q
 refine ⟨m,hn,fun h'' hs''=>?_⟩
 exact ⟨.ref acc,H',IX.turned (t':=s'.toks) (fun b o hb e=>(hs''.2 b hb).trans e) hC h1 (.inr h2) h3 h4,rfl,q⟩
theorem kZ {i:Nat}{x:Str}{pos' spos:Pos}(sc:Scope)(hsc:X.env.scope=sc)(N₀:List Str)(hN₀:X.N=N₀)(N':List Str)(cap:List (Option Nat))(f1:freeOk sc scope=true)(f2:Hy scope=true)(f3:Ih scope N₀ N' cap=true)(hcalm:X.calm=true)
  (hnd:X.N.Nodup)(hix:X.N[i]?=some x)(hx:X.env.scope.names.lookup x=some .local)
  (hi:PI X tg iter wi)
  (hg:∀ (s:Shared)(H:Hp)(ex:List Addr),PG (ug X scope N' s H ex) tg g)
  (hc:∀ (s:Shared)(H:Hp)(ex:List Addr),PTs (ug X scope N' s H ex) ifs tc)
  (he:∀ (s:Shared)(H:Hp)(ex:List Addr),PE (ug X scope N' s H ex) elt te)
  (hsw:swapsWith (.ListComp elt [⟨tg,iter,ifs,0⟩] scope pos) (some (.Name x pos')) spos.line X.env=pure true)
  (hs:∀ x,foldedSetIterable iter X.env x=pure x:=by intro _;rfl):
  PS X (.Assign [.Name x pos'] (.ListComp elt [⟨tg,iter,ifs,0⟩] scope pos) spos) (acG (Y9 wi cap g tc te) (R8 i)):=by
 intro pins s σ H D I h
 rw [exec_Assign_Name_used _ _ _ _ hsw]
 refine wpAny_bind (wpAny_standAt (wpAny_bind ?_))
 show wpAny _ X.A (do let _ <- comprehension (.ListComp elt [⟨tg,iter,ifs,0⟩] scope pos) scope X.env _ (newList []) false (firstIter [⟨tg,iter,ifs,0⟩] X.env) (some (assign (.Name x pos') X.env))) _ _ s
 refine wpAny_bind (wpAny_mono (Cr (use:=some (assign (.Name x pos') X.env)) (R:=fun _ s'=>SP X pins D .next s') sc hsc N₀ hN₀ f1 f2 f3 hcalm hi hg hc he hs I h ?_) (fun _ s' hq=>wpAny_pure (wpAny_pure hq)) fun _ _ e=>e)
 intro acc C s' H' m IX hn hC h1 h2 h3 h4 q
 show wpAny _ X.A (assign (.Name x pos') X.env (.ref acc)) _ _ _
 refine wpAny_assign_Name (Fp (v:=.ref acc) IX hnd hix (.inl hx) rfl (fun s2 I2 hsb=>?_) (.inr hx))
 obtain ⟨a,sb,ha⟩:=hsb
 have hCa:C≠a:=by
  rcases ha with z| z
  ·rw [z];exact h1
  ·exact fun w=>h3 x a z w.symm
 refine ⟨m,hn.sameBut sb hCa,fun h'' hs''=>?_⟩
 exact ⟨_,H',I2.turned (t':=s2.toks) (fun b o hb e=>(hs''.2 b hb).trans e) hC h1 (.inr h2) h3 h4,q⟩
end
section
variable {X:Cx}
def acT (K:PySem.W.Frag):V->V->Hp->VK->Prop:=fun x y H Q=>∃ p xs j v,x=.ref p/\y=.int (j:Nat)/\SqL K H p xs/\xs[j]?=some v/\Q v H
theorem oK:adX X (acT X.K):=by
 intro pins s σ H o i ov iv Q I ro ri h;obtain ⟨p,xs,j,z,rfl,rfl,hq,he,q⟩:=h;cases ro;obtain ⟨t,rfl⟩:=ri;obtain ⟨its,r,pl,hz⟩:=I.list hq;obtain ⟨w,ew,rw'⟩:=r.get he;have hl:=r.length;have hn:=wB;have hj:j<xs.length:=(acp.mp he).1;exact wpAny_getItem_list pl.isList (by omega) (by omega) (by rw [aeb];simpa using ew) ⟨z,H,I,rw',q⟩
theorem Vals.adi {xs:List V}{us:List Value}{y:V}{u:Value}(r:Vals xs us)(ru:RelV y u)(k:Nat):Vals (xs.take k++y::xs.drop k) (us.take k++u::us.drop k):=Vals.append (r.take k) (.cons ru (r.drop k))
theorem abB (its:List Value)(y:Value)(k:Nat):(its.toArray.extract 0 k).push y++its.toArray.extract k=(its.take k++y::its.drop k).toArray:=by
  apply Array.toList_inj.mp
  first
    | (simp;done)
    | (simp [ad8];done)
    | (simp
       exact ad8 (by simp))
def Zd:V->List V->Hp->VK->Prop:=fun x vs H Q=>∃ (l:Addr)(xs:List V)(y:V)(i:Int),x=.ref l/\vs=[.int i,y]/\H l=some (.lst xs)/\0<=i/\i<=xs.length/\xs.length<sizeLine/\Q .non (upd H l (.lst (xs.take i.toNat++y::xs.drop i.toNat)))
theorem N5:MtM X "list.insert" Zd:=by
 intro pins s σ H x vs v us Q I rx rv h;obtain ⟨l,xs,y,i,rfl,rfl,hH,h0,hk,hz,q⟩:=h;cases rx;obtain ⟨u,w,rfl,ru,rw'⟩:=rv.two;obtain ⟨t,rfl⟩:=ru;obtain ⟨z,its,n,r,hl,e⟩:=I.aam hH;have hn:=wB;have hf1:¬ (!Builtin.List.listFitsIndex i)=true:=by
  rw [fitsIndex_both (by omega) (by omega)];exact aec
 have hf2:its.toArray.size<=sizeLine:=by rw [aee];omega
 refine call_meets F.slot_list_insert ⟨_,e,rfl⟩ F.entry_list_insert (F.args_list_insert_3 _ _ _) (AutoSeq1.list_insert_list_int_val_1 l its.toArray n i t w hf1 hf2) ⟨e,?_⟩;refine ⟨.non,_,I.adg (its':=its.take i.toNat++w::its.drop i.toNat) hH e ?_ (r.adi rw' i.toNat) ?_,rfl,q⟩
 ·show (its.toArray.extract 0 (if i<0 then (i+(its.toArray.size:Int)).toNat else min i.toNat its.toArray.size)).push w++its.toArray.extract (if i<0 then (i+(its.toArray.size:Int)).toNat else min i.toNat its.toArray.size)=_;have e1:(if i<0 then (i+(its.toArray.size:Int)).toNat else min i.toNat its.toArray.size)=i.toNat:=by
   rw [if_neg (by omega),aee];omega
  rw [e1];exact abB its w i.toNat
 ·rw [ad7,ael,aed,aeS];omega
def rEqL (K:PySem.W.Frag)(neg:Bool):R2:=fun x y H Q=>∃ (a b:Addr)(ns ms:List Int),x=.ref a/\y=.ref b/\SqL K H a (ns.map V.int)/\SqL K H b (ms.map V.int)/\Q (.bl (if neg then !decide (ns=ms) else decide (ns=ms))) H
theorem vK:vM X (.builtin "isinstance") (fun xs H Q=>∃ x t c b,xs=[x,.ty c]/\J7 X.K H x t/\kitOne X.K t (.type c)=some b/\Q (.bl b) H):=by
 intro pins s σ H xs us Q I r h;obtain ⟨x,t,c,b,rfl,ty,e,q⟩:=h;obtain ⟨u,w,rfl,ru,rw'⟩:=vals2 r;obtain rfl:w=Value.type c:=rw';exact Oz I ru ty e fun tk=>⟨.bl b,H,I.tok tk,rfl,q⟩
theorem Kz:∀ (bs:List Bool),((List.range bs.length).all fun i=>(bs[i]?).getD true)=bs.all id:=by
 intro bs;rw [aeZ];simp only [aeT,aeB,id_eq];constructor
 ·intro h b hb;obtain ⟨i,hi,e⟩:=aew hb;have:=h i hi;rw [adW hi,e] at this;exact this
 ·intro h i hi;rw [adW hi];exact h _ (aeQ hi)
theorem tG (hc:X.calm=true):vM X (.builtin "all") (fun xs H Q=>∃ (p:Addr)(bs:List Bool),xs=[.ref p]/\SqL X.K H p (bs.map V.bl)/\Q (.bl (bs.all id)) H):=by
 intro pins s σ H xs us Q I r h;obtain ⟨p,bs,rfl,hq,q⟩:=h;obtain ⟨u,rfl,ru⟩:=vals1 r;cases ru;obtain ⟨its,r1,p1,hz⟩:=I.list hq;have hl:=p1.isList;have hlt:p<s.heap.objs.size:=p1.lt;have hlen:=r1.length;rw [TX] at hlen;refine call_all_walk (wpAny_pyIter_list hl ?_);refine ⟨s.heap.objs.size,[s.heap.objs.size,p],[s.heap.objs.size],its.toArray.size,_,_,fun i=>(bs[i]?).getD true,rfl,Walks.list (A:=X.A.in1) (I.ok.hd hc) _ p (aeN hlt) its.toArray,
  ⟨⟨_,aer _ rfl,rfl,rfl⟩,hl.push _⟩,fun i v s' Q' E' hP hQ=>?_,fun h' tk hk=>?_⟩
 ·have hP':its[i]?=some v:=by simpa using hP
  have hi:i<bs.length:=by
   have:=(acp.mp hP').1;omega
  obtain ⟨u,eu,ru⟩:=r1.get (x:=.bl bs[i]) (by rw [ad5,adW hi];rfl);rw [hP'] at eu;cases eu;cases ru;dsimp only at hQ;rw [adW hi] at hQ;exact wpAny_truthy_bool hQ
 ·have e:((List.range its.toArray.size).all fun i=>(bs[i]?).getD true)=bs.all id:=by
   rw [aee,<- hlen];exact Kz bs
  rw [e];refine ⟨.bl _,H,I.kept fun b o eo=>hk b o (fun hm=>?_) (ad6 _ eo),rfl,q⟩;rw [aeD.mp hm] at eo;exact ae3 _ (aei eo)
end
section
variable {X:Cx}{st:Stmt}{rest:List Stmt}{t u:TS}
def acv (t u:TS):TS:=fun D σ H=>∃ M:St->Hp->Prop,t { D with nx:=M } σ H/\∀ σ' H',M σ' H'->u D σ' H'
theorem M9 (h1:PS X st t)(h2:PSs X rest u):PSs X (st::rest) (acv t u):=by
 intro pins s σ H D I h;obtain ⟨M,ha,hb⟩:=h;refine wpAny_execs_cons (thn (h1 pins s σ H { D with nx:=M } I ha) fun f s1 q=>?_);cases f with
 | next =>
  obtain ⟨σ',H',I',q⟩:=q;exact h2 pins s1 σ' H' D I' (hb σ' H' q)
 | ret v=>exact q
 | brk=>exact q
 | cont=>exact q
end
def aap (H:Hp)(P:List V->Prop)(Q:VK):Prop:=∀ (l:Addr)(H':Hp)(xs:List V),Same H H'->H l=none->H' l=some (.lst xs)->P xs->Q (.ref l) H'
structure Df (K:PySem.W.Frag)(mg:Str->Option Value)(x:Str)(st:Stmt)(ps:List Str)(a:Addr)(fd:FuncData):Prop where
 F:Fun K x x st a fd
 b:Binds K fd ps []
 m:mg x=some (.ref a)
theorem Same.upd {H H':Hp}{l:Addr}{o:HO}(s:Same H H')(h:H l=none):Same H (L2.upd H' l o):=fun b u e=>by
 rw [aL (aV e h)];exact s b u e
theorem ints_get {ns:List Int}{i:Nat}{y:V}(h:(ns.map V.int)[i]?=some y):∃ z,ns[i]?=some z/\y=V.int z:=by
 rw [ad5] at h;cases e:ns[i]? with
 | none=>rw [e] at h;cases h
 | some z=>rw [e] at h;exact ⟨z,rfl,(aek h).symm⟩
theorem bh {ns:List Int}{i:Nat}{z:Int}(h:ns[i]?=some z):atI (ns.map V.int) (i:Int)=some (V.int z):=dN (by rw [ad5,h];rfl)
theorem mK {ns:List Int}{i:Int}{z:Int}(h0:0<=i)(h:ns[i.toNat]?=some z):atI (ns.map V.int) i=some (V.int z):=by
 obtain ⟨k,rfl⟩:=aeo h0;exact bh (by simpa using h)
theorem jr {n j:Nat}(h:j<n):ixN n (j:Int)=some j:=by
 unfold ixN;rw [if_pos (by omega),if_pos (by omega)];simp
theorem Hu {α:Type}(n:Nat)(x:α):(List.replicate n [x]).flatten=List.replicate n x:=by
 induction n with
 | zero=>rfl
 | succ n ih=>rw [ae2,afo,ih,ae2];rfl
theorem iI {n:Nat}(h:n<=100000):n<=sizeLine:=aeP h (by decide)
theorem aG {n:Nat}(h:n<=100000):n<sizeLine:=Nat.lt_of_le_of_lt h (by decide)
structure Blt (mg:Str->Option Value):Prop where
 len:mg "len"=none
 range:mg "range"=none
 list:mg "list"=none
 isinstance:mg "isinstance"=none
 bool:mg "bool"=none
 int:mg "int"=none
 all:mg "all"=none
 min:mg "min"=none
 max:mg "max"=none
 sum:mg "sum"=none
 sorted:mg "sorted"=none
 zip:mg "zip"=none
 tuple:mg "tuple"=none
 str:mg "str"=none
 any:mg "any"=none
 enumerate:mg "enumerate"=none
 reversed:mg "reversed"=none
 abs:mg "abs"=none
 ValueError:mg "ValueError"=none
 set:mg "set"=none
structure Mth (mg:Str->Option Value):Prop where
 MOUTH:∃ t,mg "MOUTH"=some (.int (-1) t)
section
variable {X:Cx}{K:PySem.W.Frag}
theorem jM (h:X.K=K):IxR X (adH K):=h ▸ aF
theorem wH (h:X.K=K):vM X (.builtin "len") (kLen K):=h ▸ aA
theorem Dy (h:X.K=K):OpR X (compareOp .NotIn) (rIn K true):=h ▸ yx
end
end L2
namespace L2
open PySem PySem.W PyProof.Rows
structure Arr (N:Nat)(p:Array Nat):Prop where
 size:p.size=N
 perm:p.toList.Perm (List.range N)
theorem Arr.start (N:Nat):Arr N (List.toArray (List.range N)):=⟨by simp,by simp⟩
theorem Arr.nd {N:Nat}{p:Array Nat}(h:Arr N p):p.toList.Nodup:=h.perm.nodup_iff.mpr List.nodup_range
theorem Arr.get {N:Nat}{p:Array Nat}(h:Arr N p){i:Nat}(hi:i<N):p.toList[i]?=some (p.getD i 0):=by
 have hi':i<p.size:=by rw [h.size];exact hi
 simp [Array.getD,hi']
theorem Arr.lt {N:Nat}{p:Array Nat}(h:Arr N p){i:Nat}(hi:i<N):p.getD i 0<N:=by
 have:=h.perm.mem_iff.mp (ad1 (h.get hi));exact aeB.mp this
theorem Arr.ne {N:Nat}{p:Array Nat}(h:Arr N p){i j:Nat}(hi:i<N)(hj:j<N)(hij:i≠j):p.getD i 0≠p.getD j 0:=by
 intro e;obtain ⟨a1,a2⟩:=acp.mp (h.get hi);obtain ⟨b1,b2⟩:=acp.mp (h.get hj);exact hij ((afb h.nd).mp (by rw [a2,b2,e]))
theorem Arr.NQ {N:Nat}{p q:Array Nat}(h:Arr N p)(hs:q.size=p.size)(hp:q.Perm p):Arr N q:=⟨hs.trans h.size,(Array.perm_iff_toList_perm.mp hp).trans h.perm⟩
theorem Arr.rev {N:Nat}{p:Array Nat}(h:Arr N p)(i j:Nat):Arr N (kas_rev p i j):=h.NQ (mirror_size _ _ _ _) (mirror_perm _ _ _ _)
theorem Arr.bub {N:Nat}{p:Array Nat}(h:Arr N p)(k d:Nat):Arr N (bubble p k d):=h.NQ (bubble_size _ _ _) (bubble_perm _ _ _)
theorem Eb {p q:Array Nat}{i j:Nat}(h:p[i]?=q[j]?):p.getD i 0=q.getD j 0:=by
 rw [Array.getD_eq_getD_getElem?,Array.getD_eq_getD_getElem?,h]
theorem M7 {N:Nat}{p:Array Nat}(h:Arr N p){n k:Nat}(hn:n<=N)(hk:k<n):(kas_rev p 0 n).getD k 0=p.getD (n - 1 - k) 0:=by
 refine Eb ?_;unfold kas_rev;rw [getElem?_mirror (by rw [h.size];exact hn) ((n - 0) / 2) (by omega) k];split
 ·congr 1;omega
 ·congr 1;omega
theorem Qw {N:Nat}{p:Array Nat}(h:Arr N p){k l j:Nat}(hk:k<N)(hl:l<=k):(bubble p k (k - l)).getD j 0=if j=l then p.getD k 0 else if l<j/\j<=k then p.getD (j - 1) 0 else p.getD j 0:=by
 have e:=getElem?_bubble (xs:=p) (src:=k) (by rw [h.size];exact hk) (k - l) (by omega) j;have e1:k - (k - l)=l:=by omega
 rw [e1] at e;by_cases h1:j=l
 ·rw [if_pos h1] at e ⊢;exact Eb e
 ·rw [if_neg h1] at e ⊢;by_cases h2:l<j/\j<=k
  ·rw [if_pos h2] at e ⊢;exact Eb e
  ·rw [if_neg h2] at e ⊢;exact Eb e
section
variable {N:Nat}{κ:Nat->Int}{R:Shared->Prop}{cmp:Nat->Nat->(Bool->Shared->Prop)->Shared->Prop}
def Srt (κ:Nat->Int)(p:Array Nat)(n:Nat):Prop:=∀ i j,i<j->j<n->κ (p.getD i 0)<κ (p.getD j 0)
def Dsc (κ:Nat->Int)(p:Array Nat)(n:Nat):Prop:=∀ i j,i<j->j<n->κ (p.getD j 0)<κ (p.getD i 0)
def Cmp (N:Nat)(κ:Nat->Int)(R:Shared->Prop)(cmp:Nat->Nat->(Bool->Shared->Prop)->Shared->Prop):Prop:=
 ∀ i j C s,i<N->j<N->R s->(∀ s',R s'->C (decide (κ i<κ j)) s')->cmp i j C s
def Inj (N:Nat)(κ:Nat->Int):Prop:=∀ i j,i<N->j<N->i≠j->κ i≠κ j
theorem Srt.snoc {p:Array Nat}{n:Nat}(h:Srt κ p n)(hn:1<=n)(e:κ (p.getD (n - 1) 0)<κ (p.getD n 0)):Srt κ p (n+1):=fun i j hij hj=>by
 by_cases hjn:j=n
 ·subst hjn;by_cases hi:i=j - 1
  ·rw [hi];exact e
  ·have:=h i (j - 1) (by omega) (by omega);omega
 ·exact h i j hij (by omega)
theorem Dsc.snoc {p:Array Nat}{n:Nat}(h:Dsc κ p n)(hn:1<=n)(e:κ (p.getD n 0)<κ (p.getD (n - 1) 0)):Dsc κ p (n+1):=fun i j hij hj=>by
 by_cases hjn:j=n
 ·subst hjn;by_cases hi:i=j - 1
  ·rw [hi];exact e
  ·have:=h i (j - 1) (by omega) (by omega);omega
 ·exact h i j hij (by omega)
variable (hc:Cmp N κ R cmp)(hI:Inj N κ)
include hc hI
theorem Dc {p:Array Nat}(A:Arr N p){Q:Nat->Shared->Prop}:∀ (f n:Nat)(s:Shared),1<=n->n+f=N->Srt κ p n->R s ->
  (∀ m s',n<=m->m<=N->Srt κ p m->(m<N->κ (p.getD m 0)<κ (p.getD (m - 1) 0))->R s'->Q m s')->(kas_asc p f n).kasWp cmp Q s
 | 0,n,s,h1,hf,hS,r,k=>k n s (ad2 _) (by omega) hS (fun z=>by omega) r
 | f+1,n,s,h1,hf,hS,r,k=>by
  unfold kas_asc;refine hc _ _ _ s (A.lt (by omega)) (A.lt (by omega)) r fun s' r'=>?_;by_cases hlt:κ (p.getD n 0)<κ (p.getD (n - 1) 0)
  ·rw [decide_eq_true hlt];dsimp only;rw [if_pos rfl];exact k n s' (ad2 _) (by omega) hS (fun _=>hlt) r'
  ·rw [decide_eq_false hlt];dsimp only;rw [if_neg aec];have hne:=hI _ _ (A.lt (show n<N by omega)) (A.lt (show n - 1<N by omega)) (A.ne (show n<N by omega) (show n - 1<N by omega) (by omega));exact Dc A f (n+1) s' (by omega) (by omega) (hS.snoc h1 (by omega)) r' fun m s2 a b c d e=>k m s2 (by omega) b c d e
theorem Fg {p:Array Nat}(A:Arr N p){Q:Array Nat × Nat × Nat->Shared->Prop}:∀ (f n:Nat)(s:Shared),1<=n->n+f=N->Dsc κ p n->R s ->
  (∀ m s',n<=m->m<=N->Dsc κ p m->R s'->Q (p,m,0) s')->(kas_desc f p n 0).kasWp cmp Q s
 | 0,n,s,h1,hf,hS,r,k=>k n s (ad2 _) (by omega) hS r
 | f+1,n,s,h1,hf,hS,r,k=>by
  unfold kas_desc;refine hc _ _ _ s (A.lt (by omega)) (A.lt (by omega)) r fun s' r'=>?_;by_cases hlt:κ (p.getD n 0)<κ (p.getD (n - 1) 0)
  ·rw [decide_eq_true hlt];dsimp only;rw [if_pos rfl,if_neg (by omega)];exact Fg A f (n+1) s' (by omega) (by omega) (hS.snoc h1 hlt) r' fun m s2 a b c d=>k m s2 (by omega) b c d
  ·rw [decide_eq_false hlt];dsimp only;rw [if_neg aec];have hne:=hI _ _ (A.lt (show n<N by omega)) (A.lt (show n - 1<N by omega)) (A.ne (show n<N by omega) (show n - 1<N by omega) (by omega));refine hc _ _ _ s' (A.lt (by omega)) (A.lt (by omega)) r' fun s2 r2=>?_;rw [decide_eq_true (by omega)];dsimp only;rw [if_pos rfl];exact k n s2 (ad2 _) (by omega) hS r2
theorem Kp {p:Array Nat}(A:Arr N p)(h2:2<=N){Q:Nat × Array Nat->Shared->Prop}{s:Shared}(r:R s)
  (k:∀ m p' s',1<=m->m<=N->Arr N p'->Srt κ p' m->R s'->Q (m,p') s'):(kas_count N p).kasWp cmp Q s:=by
 unfold kas_count;rw [afU];refine Dc hc hI A (N - 1) 1 s (ad2 _) (by omega) (fun i j a b=>by omega) r fun n s' h1 hn hS hd r'=>?_;by_cases hnN:n=N
 ·rw [if_pos (by simp [hnN])];exact k n p s' h1 hn A hS r'
 ·rw [if_neg (by simp [hnN])];have hd':=hd (by omega);by_cases h1n:n >1
  ·rw [if_pos h1n];refine hc _ _ _ s' (A.lt (by omega)) (A.lt (by omega)) r' fun s2 r2=>?_;rw [decide_eq_true (hS 0 (n - 1) (by omega) (by omega))];dsimp only;rw [if_pos rfl];exact k n p s2 h1 hn A hS r2
  ·rw [if_neg h1n];have hn1:n=1:=by omega
   subst hn1;unfold kas_descPart;rw [afU];refine Fg hc hI A (N - 2) 2 s' (by omega) (by omega) (fun i j a b=>?_) r' fun m s2 hm2 hm hD r2=>?_
   ·have hi:i=0:=by omega
    have hj:j=1:=by omega
    subst hi;subst hj;exact hd'
   ·rw [if_neg (by show ¬ (0:Nat)>0;omega)];show (kas_tail3 m N p).kasWp cmp Q s2;unfold kas_tail3;rw [afU];refine Dc hc hI (A.rev 0 m) (N - m) m s2 (by omega) (by omega) (fun i j a b=>?_) r2 fun m' s3 a b c d e=>?_
    ·rw [M7 A hm (by omega),M7 A hm (by omega)];exact hD _ _ (by omega) (by omega)
    ·exact k m' _ s3 (by omega) b (A.rev 0 m) c e
theorem wV {p:Array Nat}(A:Arr N p){k:Nat}(hk:k<N)(hS:Srt κ p k){Q:Nat->Shared->Prop}:∀ (f l r:Nat)(s:Shared),l<=r->r<=k->r - l<=f ->
  (∀ i,i<l->κ (p.getD i 0)<κ (p.getD k 0))->(∀ i,r<=i->i<k->κ (p.getD k 0)<κ (p.getD i 0))->R s ->
  (∀ l s',l<=k->(∀ i,i<l->κ (p.getD i 0)<κ (p.getD k 0))->(∀ i,l<=i->i<k->κ (p.getD k 0)<κ (p.getD i 0))->R s'->Q l s')->(kas_place p k f l r).kasWp cmp Q s
 | 0,l,r,s,h1,h2,hf,ha,hb,hr,q=>by
  have e:l=r:=by omega
  subst e;exact q l s h2 ha hb hr
 | f+1,l,r,s,h1,h2,hf,ha,hb,hr,q=>by
  unfold kas_place;by_cases hlr:l >=r
  ·rw [if_pos hlr];have e:l=r:=by omega
   subst e;exact q l s h2 ha hb hr
  ·rw [if_neg hlr];have m1:(l+r) / 2<r:=by omega
   have m0:l<=(l+r) / 2:=by omega
   refine hc _ _ _ s (A.lt hk) (A.lt (by omega)) hr fun s' r'=>?_;by_cases hlt:κ (p.getD k 0)<κ (p.getD ((l+r) / 2) 0)
   ·rw [decide_eq_true hlt];dsimp only;rw [if_pos rfl];refine wV A hk hS f l ((l+r) / 2) s' m0 (by omega) (by omega) ha (fun i hi hik=>?_) r' q;by_cases he:i=(l+r) / 2
    ·rw [he];exact hlt
    ·have:=hS ((l+r) / 2) i (by omega) hik;omega
   ·rw [decide_eq_false hlt];dsimp only;rw [if_neg aec];have hne:=hI _ _ (A.lt hk) (A.lt (show (l+r) / 2<N by omega)) (A.ne hk (show (l+r) / 2<N by omega) (by omega));refine wV A hk hS f ((l+r) / 2+1) r s' (by omega) h2 (by omega) (fun i hi=>?_) hb r' q;by_cases he:i=(l+r) / 2
    ·rw [he];omega
    ·have:=hS i ((l+r) / 2) (by omega) (by omega);omega
theorem Iu {Q:Array Nat->Shared->Prop}(q:∀ p s',Arr N p->Srt κ p N->R s'->Q p s'):∀ (f:Nat)(p:Array Nat)(k:Nat)(s:Shared),Arr N p->k+f=N->Srt κ p k->R s->(kas_bin f p k).kasWp cmp Q s
 | 0,p,k,s,A,hf,hS,r=>by
  have e:k=N:=by omega
  subst e;exact q p s A hS r
 | f+1,p,k,s,A,hf,hS,r=>by
  unfold kas_bin;rw [afU];refine wV hc hI A (show k<N by omega) hS k 0 k s (aez _) (ad2 _) (by omega) (fun i hi=>by omega) (fun i a b=>by omega) r fun l s' hl ha hb r'=>?_;refine Iu q f _ (k+1) s' (A.bub k (k - l)) (by omega) (fun i j hij hj=>?_) r';rw [Qw A (by omega) hl,Qw A (by omega) hl];by_cases h1:i=l
  ·rw [if_pos h1,if_neg (by omega),if_pos (by omega)];exact hb _ (by omega) (by omega)
  ·rw [if_neg h1];by_cases h2:j=l
   ·rw [if_pos h2,if_neg (by omega)];exact ha _ (by omega)
   ·rw [if_neg h2];by_cases h3:l<i/\i<=k
    ·rw [if_pos h3,if_pos (by omega)];exact hS _ _ (by omega) (by omega)
    ·rw [if_neg h3];by_cases h4:l<j/\j<=k
     ·rw [if_pos h4];by_cases h5:i<j - 1
      ·exact hS _ _ h5 (by omega)
      ·omega
     ·rw [if_neg h4];exact hS _ _ hij (by omega)
theorem Lw (h2:2<=N){Q:Array Nat->Shared->Prop}{s:Shared}(r:R s)(q:∀ p s',Arr N p->Srt κ p N->R s'->Q p s'):(kas_sort N).kasWp cmp Q s:=by
 unfold kas_sort;rw [afU];refine Kp hc hI (Arr.start N) h2 r fun m p' s' h1 hm A hS r'=>?_;by_cases hlt:m<N
 ·rw [if_pos hlt];have e:max m 1=m:=by omega
  rw [e];exact Iu hc hI q _ p' m s' A (by omega) hS r'
 ·rw [if_neg hlt];have e:m=N:=by omega
  subst e;exact q p' s' A hS r'
end
end L2
namespace L2
open PySem PySem.Spec PyProof.Rows
section
variable {X:Cx}{pins:List (Addr × Obj)}{σ:St}{H:Hp}{s:Shared}{a:Addr}{o:HO}
theorem Inv.adopt (I:Inv X pins σ H s)(hn:H a=none)(hL:a≠X.env.locals)(h0:X.s₀.heap.objs.size<=a)(hc:∀ x c,X.env.cells.lookup x=some c->c≠a)(hp:∀ p∈X.pn++pins,p.1≠a)
  (new:iC X.prog X.w (upd H a o) s.heap a o):Inv X pins σ (upd H a o) s:=by
 have ne:∀ b u,H b=some u->b≠a:=fun b u e=>aV e hn;refine ⟨I.ok,I.os,I.bare,⟨I.base.keep,I.base.slot,fun b ob e n hx=>?_,I.base.there,fun b xs e=>?_,fun b ob xs e=>?_,fun b ps e=>?_⟩,I.loc,I.cell,?_,fun x c e=>?_,fun p hq=>?_,fun b u e=>?_,I.len⟩
 ·rw [aL (aeN (aeC (aei e) h0))];exact I.base.free b ob e n hx
 ·have:=I.base.tups b xs e;rw [aL (ne b _ this)];exact this
 ·have:=I.base.frzs b ob xs e;rw [aL (ne b _ this)];exact this
 ·obtain ⟨m,e1⟩:=I.base.tbls b ps e;exact ⟨m,by rw [aL (ne b _ e1)];exact e1⟩
 ·rw [aL hL.symm];exact I.free
 ·rw [aL (hc x c e)];exact I.freeC x c e
 ·obtain ⟨e1,n,r⟩:=I.pin p hq;exact ⟨e1,by rw [aL (hp p hq)];exact n,r⟩
 ·by_cases hb:b=a
  ·subst hb;rw [aR] at e;cases e;exact new
  ·rw [aL hb] at e;exact (I.hok b u e).stay (fun _ _ _ q=>q) (fun c q=>by rw [aL (ne c _ q)];exact q) fun c xs q=>by rw [aL (ne c _ q)];exact q
end
section
variable {prog:Program}{w:World}{A:Around}{E:Value->Shared->Prop}{s:Shared}
theorem En {r:Addr}{b:Int}{t u v:Tok}{n:Nat}{Q:List Value->Shared->Prop}(hh:A.handled=none)(hr:IsRange s.heap r 0 b 1 t u v)(hsmall:Builtin.Range.small 0 b 1=true)
  (hn:Builtin.Range.rangeSize 0 b 1=n)(hlen:n<=2 ^ 24)
  (h:∀ h' tk vs,(∀ b o,s.heap.get? b=some o->h'.get? b=some o)->Vals ((List.range n).map fun (i:Nat)=>V.int (i:Int)) vs->Q vs { s with heap:=h',toks:=tk }):
  wpAny (model prog w) A (collect (.ref r)) Q E s:=by
 unfold collect
 refine wpAny_bind (wpAny_runValue (codeAny_builtin entry_proto_collect' ?_))
 show wpAny _ _ (do again (.builtin "list.__iadd__" ⟨[<- newList [],.ref r],[]⟩)) _ _ s
 refine wpAny_bind (wpAny_newList (wpAny_pure ⟨Code.quiet_builtin _ (by decide+kernel),codeAny_builtin entry_list_iadd' ?_⟩))
 have e1:A.under (.builtin "proto.collect" ⟨[.ref r],[]⟩)=A.in1:=afP F.plain_proto_collect _
 have e2:A.under (.builtin "list.__iadd__" ⟨[.ref s.heap.objs.size,.ref r],[]⟩)=A.in1:=afP F.plain_list_iadd _
 rw [e2]
 show wpAny _ A.in1 (Builtin.List.listExtendWith (.ref s.heap.objs.size) (.ref r) (.ref s.heap.objs.size)) _ _ { s with heap:=s.heap.push (seqObj "list" #[] 0) }
 have hS:(s.heap.push (seqObj "list" #[] 0)).get? s.heap.objs.size=some { cls:=.type "list",data:=.seq #[] 0 }:=aer _ rfl
 have hr':IsRange (s.heap.push (seqObj "list" #[] 0)) r 0 b 1 t u v:=ad6 _ hr
 refine wpAny_mono (wpAny_extend_range (A:=A) (R:=fun r s'=>match r with
   | .ok (.ret v)=>wpAny (model prog w) A (match v with
     | .ref a=>do
      let o <- load a
      match o.data with
      | .seq xs _=>pure xs.toList
      | _=>unsupported "internal:collect"
     | _=>unsupported "internal:collect") Q E s'
   | .ok _=>False
   | .error e=>E e s') (s:={ s with heap:=s.heap.push (seqObj "list" #[] 0) }) hh hr' hsmall hn hlen s.heap.objs.size (.ref s.heap.objs.size) 0 hS fun h' tk acc c hk hS' hacc=>?_) (fun fin s' q=>?_) (fun e s' q=>q)
 case refine_2 =>
  cases fin with
  | done f=>exact q
  | again c'=>exact q
 show wpAny (model prog w) A (do
   let o <- load s.heap.objs.size
   match o.data with
   | .seq xs _=>pure xs.toList
   | _=>unsupported "internal:collect") Q E { s with heap:=h',toks:=tk }
 refine wpAny_bind (wpAny_load hS' ?_)
 refine wpAny_pure (h h' tk acc.toList (fun b o e=>hk b o (aeN (aei e)) (ad6 _ e)) ?_)
 have hsz:acc.toList.length=n:=by rw [aeI];exact hacc.1
 have key:∀ (k:Nat)(l:List Value),l.length=k->(∀ (j:Nat)(v:Value),l[j]?=some v->∃ t,v=.int ((n - k+j:Nat):Int) t)->k<=n->Vals ((List.range' (n - k) k).map fun (i:Nat)=>V.int (i:Int)) l:=by
  intro k
  induction k with
  | zero =>
   intro l hl _ _
   have:l=[]:=List.length_eq_zero_iff.mp hl
   subst this
   exact .nil
  | succ k ih =>
   intro l hl hP hk
   match l,hl with
   | v::l,hl =>
    have hl':l.length=k:=by simpa using hl
    rw [List.range'_succ,aey]
    obtain ⟨t,ht⟩:=hP 0 v rfl
    refine .cons ⟨t,?_⟩ ?_
    ·rw [ht];rfl
    ·have e:n - (k+1)+1=n - k:=by omega
     rw [e]
     refine ih l hl' (fun j v' e'=>?_) (by omega)
     obtain ⟨t',ht'⟩:=hP (j+1) v' (by simpa using e')
     exact ⟨t',by rw [ht'];congr 2;omega⟩
 have:=key n acc.toList hsz (fun j v e=>by
  obtain ⟨t,ht⟩:=hacc.2 j v (by simpa using e)
  refine ⟨t,?_⟩
  rw [ht]
  congr 1
  omega) (ad2 _)
 rw [afC,<- List.range_eq_range'] at this
 exact this
end
end L2
namespace L2
open PySem PySem.W PySem.Spec PyProof.Rows
section
variable {prog:Program}{w:World}{A:Around}{E:Value->Shared->Prop}{s:Shared}
theorem zX {Q:Bool->Shared->Prop}:∀ {xs ys:List Value}{ns ms:List Int},IntsAre xs ns->IntsAre ys ms->ns.length=ms.length->∀ i:Nat,Q (HT.lexLt ns ms) s->KatLex prog w A true false Q (xs.zip ys) i s
 | _,_,_,_,.nil,.nil,_,i,q=>by rw [List.zip_nil_left];exact kat_nil q
 | _,_,_,_,.nil,.cons _ _ _,hl,_,_=>by simp at hl
 | _,_,_,_,.cons _ _ _,.nil,hl,_,_=>by simp at hl
 | _,_,_,_,.cons a t hx,.cons c u hy,hl,i,q=>by
  rw [List.zip_cons_cons];refine kat_cons (wpAny_eqBool_int ?_);rw [HT.lA] at q;by_cases h:a=c
  ·rw [if_pos h] at q;have e:(a ==c)=true:=by simp [h]
   rw [e];exact kat_yes (zX hx hy (by simpa using hl) (i+1) q)
  ·rw [if_neg h] at q;have e:(a ==c)=false:=by simp [h]
   rw [e];refine kat_no ?_;by_cases hi:i=0
   ·have ei:(true&& i ==0)=true:=by simp [hi]
    rw [ei];exact oneLt_int q
   ·have ei:(true&& i ==0)=false:=by simp [hi]
    rw [ei];exact kat_one _ _ (lt_int q)
structure Keys (h:Heap)(ks:List Value)(key:Nat->List Int)(N len:Nat):Prop where
 size:ks.length=N
 at_:∀ i,i<N->∃ t its,ks[i]?=some (.ref t)/\IsTup h t its.toArray/\IntsAre its (key i)
 long:∀ i,i<N->(key i).length=len+1
theorem Keys.cmp {ks:List Value}{key:Nat->List Int}{N len:Nat}{κ:Nat->Int}(K:Keys s.heap ks key N len)(hκ:∀ i j,i<N->j<N->HT.lexLt (key i) (key j)=decide (κ i<κ j)):
  Cmp N κ (fun s'=>s'=s) (kas_ask prog w A (tuples' true) ks):=by
 intro i j C s1 hi hj e h;subst e;obtain ⟨t,its,e1,⟨o,ho,hc,n,hd⟩,i1⟩:=K.at_ i hi;obtain ⟨t2,its2,e2,⟨o2,ho2,hc2,n2,hd2⟩,i2⟩:=K.at_ j hj;unfold kas_ask;rw [ad0,ad0,e1,e2];have l1:its.length=(key i).length:=i1.length;have l2:its2.length=(key j).length:=i2.length;have hl:(key i).length=(key j).length:=by rw [K.long i hi,K.long j hj]
 refine kat_lt ho hd ho2 hd2 ?_;have ef:decide (its.toArray.size<its2.toArray.size)=false:=decide_eq_false (by simp only [aee];omega);rw [ef];refine zX i1 i2 hl 0 ?_;rw [hκ i j hi hj];exact h s1 rfl
theorem Keys.tups {key:Nat->List Int}{len:Nat}:∀ {ks:List Value}{N:Nat},Keys s.heap ks key N len->∃ fs:List Value,KatTups s.heap ks fs/\fs.length=N/\∀ v∈fs,∃ a t,v=.int a t:=by
 have go:∀ (ks:List Value),(∀ i,i<ks.length->∃ t its a u r,ks[i]?=some (.ref t)/\IsTup s.heap t its.toArray/\its=Value.int a u::r)->∃ fs:List Value,KatTups s.heap ks fs/\fs.length=ks.length/\∀ v∈fs,∃ a t,v=Value.int a t:=by
  intro ks
  induction ks with
  | nil=>intro _;exact ⟨[],trivial,rfl,fun v hv=>nomatch hv⟩
  | cons k ks ih =>
   intro h;obtain ⟨fs,h1,h2,h3⟩:=ih fun i hi=>by
    obtain ⟨t,its,a,u,r,e,p⟩:=h (i+1) (by simpa using hi);exact ⟨t,its,a,u,r,by simpa using e,p⟩
   obtain ⟨t,its,a,u,r,e,⟨o,ho,hc,n,hd⟩,rfl⟩:=h 0 (by simp);have e':k=.ref t:=by simpa using e
   subst e';refine ⟨.int a u::fs,KatTups.cons ho hc hd rfl h1,by simp [h2],fun v hv=>?_⟩;rcases aen.mp hv with e| e
   ·exact ⟨a,u,e⟩
   ·exact h3 v e
 intro ks N K;obtain ⟨fs,h1,h2,h3⟩:=go ks fun i hi=>by
  obtain ⟨t,its,e1,p,i1⟩:=K.at_ i (by rw [<- K.size];exact hi);have hl:=K.long i (by rw [<- K.size];exact hi);generalize key i=kl at i1 hl;cases i1 with
  | nil=>simp at hl
  | cons a u hx=>exact ⟨t,_,a,u,_,e1,p,rfl⟩
 exact ⟨fs,h1,by rw [h2,K.size],h3⟩
end
def wM (κ:Nat->Int)(xs ys:List V):Prop:=∃ p:List Nat,p.Perm (List.range xs.length)/\ys=p.map (fun i=>xs.getD i .non)/\p.Pairwise fun i j=>κ i<κ j
theorem Mx {κ:Nat->Int}{xs:List V}{p:Array Nat}(A:Arr xs.length p)(hS:Srt κ p xs.length):wM κ xs (p.toList.map fun i=>xs.getD i .non):=by
 refine ⟨p.toList,A.perm,rfl,?_⟩;rw [ae7];intro i j hi hj hij;have hj':j<xs.length:=by rw [aeI,A.size] at hj;exact hj
 have e1:p.toList[i]=p.getD i 0:=by
  have:=A.get (show i<xs.length by omega);rw [adW hi] at this;exact aek this
 have e2:p.toList[j]=p.getD j 0:=by
  have:=A.get hj';rw [adW hj] at this;exact aek this
 rw [e1,e2];exact hS i j hij hj'
theorem Fb {xs:List V}{vs:List Value}(r:Vals xs vs):∀ (p:List Nat),(∀ i∈p,i<xs.length)->Vals (p.map fun i=>xs.getD i .non) (p.map fun i=>vs.getD i .none)
 | [],_=>.nil
 | i::p,h=>by
  have hi:i<xs.length:=h i aeu;obtain ⟨u,e,ru⟩:=r.get (adW hi);refine .cons ?_ (Fb r p fun j hj=>h j (aej _ hj));show RelV (xs.getD i .non) (vs.getD i .none);rw [ad0,ad0,e,adW hi];exact ru
section
variable {X:Cx}{pins:List (Addr × Obj)}{σ:St}{H:Hp}{s:Shared}{A:Around}{E:Value->Shared->Prop}
theorem Inv.xq (I:Inv X pins σ H s){b:Addr}{o:Obj}(f:G8 X pins H b)(e:s.heap.get? b=some o)(d:∀ v,o.data≠.cell v):Inv X (pins++[(b,o)]) σ H s:=
 I.Hv fun p hp=>(aem.mp hp).elim (fun z=>I.pin p (ad4 _ z)) fun z=>by
  have e':p=(b,o):=by simpa using z
  subst e';obtain ⟨f0,f1,f2,_⟩:=f;exact ⟨e,f0,f1,f2,d⟩
theorem sort_keys {f:Value}{D kS:Addr}{e1:Nat}{xs:List V}{vs:List Value}(rv:Vals xs vs)(h64:xs.length<64)(Pv:Nat->List Addr->Hp->Prop)
  (fpD:∀ H',H' D=none->G8 X pins H' D)(fpK:∀ H',H' kS=none->G8 X pins H' kS)(hDK:D≠kS)
  (hcall:∀ i x u ts pins' s' H',xs[i]?=some x->RelV x u->Inv X pins' σ H' s'->(∀ p∈pins,p∈pins')->Pv i ts H'->wpAny (model X.prog X.w) A (call f [u]) (fun k s2=>∃ t H2,k=.ref t/\Inv X pins' σ H2 s2/\Pv (i+1) (ts++[t]) H2) (fun _ _=>False) s')
  {body:Value->PUnit->Sem (ForInStep PUnit)}
  (hb:∀ x (s:Shared) (R:Value->Shared->Prop) (Q:ForInStep PUnit->Shared->Prop),wpAny (model X.prog X.w) A (call f [x]) R (fun _ _=>False) s->(∀ k s',R k s'->wpAny (model X.prog X.w) A (Builtin.List.listUpdate (.ref kS) (·.push k)) (fun _ s''=>Q (.yield ⟨⟩) s'') E s') ->
   wpAny (model X.prog X.w) A (body x ⟨⟩) Q E s):
  ∀ (r:List Value)(i:Nat)(ts:List Addr)(e:Nat)(s:Shared)(H:Hp),vs.drop i=r->ts.length=i->i<=vs.length->Inv X (pins++[(D,seqObj "list" #[] e1)]++[(kS,seqObj "list" (ts.map Value.ref).toArray e)]) σ H s->Pv i ts H ->
   wpAny (model X.prog X.w) A (forIn r PUnit.unit body) (fun _ s'=>∃ ts' e' H',ts'.length=vs.length/\Inv X (pins++[(D,seqObj "list" #[] e1)]++[(kS,seqObj "list" (ts'.map Value.ref).toArray e')]) σ H' s'/\Pv vs.length ts' H') E s
 | [],i,ts,e,s,H,hr,hl,hi,I,p=>by
  rw [List.forIn_nil]
  have hn:i=vs.length:=by
   have:=congrArg List.length hr
   rw [aeS] at this
   simp at this
   omega
  subst hn
  exact wpAny_pure ⟨ts,e,H,hl,I,p⟩
 | u::r,i,ts,e,s,H,hr,hl,hi,I,p=>by
  rw [List.forIn_cons]
  have hlen:=rv.length
  have hiv:i<vs.length:=by
   have:=congrArg List.length hr
   rw [aeS] at this
   simp at this
   omega
  have eu:vs[i]?=some u:=by
   have:(vs.drop i)[0]?=some u:=by rw [hr];rfl
   rw [afF] at this
   simpa using this
  have hix:i<xs.length:=by omega
  obtain ⟨u',e',ru⟩:=rv.get (adW hix)
  rw [eu] at e'
  cases e'
  refine wpAny_bind (hb u s _ _ (hcall i _ u ts _ s H (adW hix) ru I (fun p hp=>aeL _ (aeL _ hp)) p) fun k s2 ⟨t,H2,ek,I2,p2⟩=>?_)
  subst ek
  have pk:=I2.pin (kS,seqObj "list" (ts.map Value.ref).toArray e) (ad4 _ (ad4 _ (by simp)))
  have pD:=I2.pin (D,seqObj "list" #[] e1) (ad4 _ (aeL _ (ad4 _ (by simp))))
  refine listUpdate_at pk.1 rfl ?_ (by rw [aee,TX,sizeLine_eq];omega) (by rw [Array.size_push,aee,TX,sizeLine_eq];omega)
  have I2':Inv X (pins++[(D,seqObj "list" #[] e1)]) σ H2 s2:=I2.j6
  have fK:G8 X (pins++[(D,seqObj "list" #[] e1)]) H2 kS:=by
   obtain ⟨a0,a1,a2,a3,a4,a5⟩:=fpK H2 pk.2.1
   refine ⟨a0,a1,a2,a3,a4,fun p hp=>?_⟩
   rcases aem.mp hp with z| z
   ·exact a5 p (aeL _ z)
   ·rcases aem.mp z with z| z
    ·exact a5 p (ad4 _ z)
    ·have:p=(D,seqObj "list" #[] e1):=by simpa using z
     rw [this];exact hDK
  obtain ⟨a0,a1,a2,a3,a4,a5⟩:=fK
  have I3:Inv X (pins++[(D,seqObj "list" #[] e1)]) σ H2 { s2 with heap:=s2.heap.update kS (Obj.mapSeq (·.push (Value.ref t))) }:=
   I2'.turned (t':=s2.toks) (fun b o hb e=>(aeJ _ _ (Ne.symm hb)).trans e) a0 a1 a3 a4 a5
  have ea:((ts.map Value.ref).toArray).push (Value.ref t)=((ts++[t]).map Value.ref).toArray:=by simp
  obtain ⟨c2,hc2⟩:∃ c2,(s2.heap.update kS (Obj.mapSeq (·.push (Value.ref t)))).get? kS=some (seqObj "list" ((ts++[t]).map Value.ref).toArray c2):=⟨_,by rw [<- ea];exact get?_update_seq pk.1 (·.push (Value.ref t))⟩
  have I4:=I3.xq ⟨a0,a1,a2,a3,a4,a5⟩ hc2 (fun v z=>by cases z)
  show wpAny (model X.prog X.w) A (forIn r PUnit.unit body) _ E _
  refine sort_keys rv h64 Pv fpD fpK hDK hcall hb r (i+1) (ts++[t]) c2 _ H2 ?_ (by rw [ad7,hl];rfl) (by omega) I4 p2
  have:(vs.drop i).drop 1=r:=by rw [hr];rfl
  rw [List.drop_drop] at this
  exact this
end
section
variable {X:Cx}{pins:List (Addr × Obj)}{σ:St}{H:Hp}{s:Shared}{A:Around}{E:Value->Shared->Prop}
theorem Mz {f:Value}{D:Addr}{n0 m:Nat}{xs:List V}{vs:List Value}{key:Nat->List Int}{κ:Nat->Int}(rv:Vals xs vs)(h64:xs.length<64)(Pv:Nat->List Addr->Hp->Prop)(I:Inv X pins σ H s)
  (hD:s.heap.get? D=some (seqObj "list" vs.toArray n0))(fpD:∀ H',H' D=none->G8 X pins H' D)(nD:H D=none)(hfresh:X.s₀.heap.objs.size<=D)(p0:Pv 0 [] H)
  (hcall:∀ i x u ts pins' s' H',xs[i]?=some x->RelV x u->Inv X pins' σ H' s'->(∀ p∈pins,p∈pins')->Pv i ts H'->wpAny (model X.prog X.w) A (call f [u]) (fun k s2=>∃ t H2,k=.ref t/\Inv X pins' σ H2 s2/\Pv (i+1) (ts++[t]) H2) (fun _ _=>False) s')
  (htup:∀ ts H',Pv xs.length ts H'->∀ i t,ts[i]?=some t->H' t=some (.tup ((key i).map V.int)))(hlong:∀ i,i<xs.length->(key i).length=m+1)
  (hκ:∀ i j,i<xs.length->j<xs.length->HT.lexLt (key i) (key j)=decide (κ i<κ j))(hinj:Inj xs.length κ):
  wpAny (model X.prog X.w) A (ksk_tree D f false) (fun fin s'=>fin=.done (.ret .none)/\∃ ts H' ys,Pv xs.length ts H'/\H' D=none/\wM κ xs ys/\Inv X pins σ (upd H' D (.lst ys)) s') E s:=by
 have hlen:=rv.length
 unfold ksk_tree
 refine wpAny_bind (listItems_at hD rfl ?_)
 refine wpAny_bind (listUpdate_at hD rfl ?_ (by rw [aee,sizeLine_eq];omega) (aez _))
 obtain ⟨e1,ho1⟩:∃ e1,(s.heap.update D (Obj.mapSeq fun _=>(#[]:Array Value))).get? D=some (seqObj "list" #[] e1):=⟨_,get?_update_seq hD fun _=>#[]⟩
 obtain ⟨a0,a1,a2,a3,a4,a5⟩:=fpD H nD
 have I1:Inv X pins σ H { s with heap:=s.heap.update D (Obj.mapSeq fun _=>(#[]:Array Value)) }:=I.turned (t':=s.toks) (fun b o hb e=>(aeJ _ _ (Ne.symm hb)).trans e) a0 a1 a3 a4 a5
 refine wpAny_bind (seqEpoch_at ho1 rfl ?_)
 refine wpAny_bind (wpAny_newTuple ?_ (by show vs.length<=_;rw [sizeLine_eq];omega))
 refine wpAny_bind (wpAny_newList ?_ (aez _))
 refine wpAny_holding ?_
 have I2:Inv X pins σ H { s with heap:=(s.heap.update D (Obj.mapSeq fun _=>(#[]:Array Value))).push (seqObj "tuple" vs.toArray 0) }:=I1.kept (t':=s.toks) fun b o e=>ad6 _ e
 have I3:Inv X pins σ H { s with heap:=((s.heap.update D (Obj.mapSeq fun _=>(#[]:Array Value))).push (seqObj "tuple" vs.toArray 0)).push (seqObj "list" #[] 0) }:=I2.kept (t':=s.toks) fun b o e=>ad6 _ e
 have fpK:∀ H',H' (((s.heap.update D (Obj.mapSeq fun _=>(#[]:Array Value))).push (seqObj "tuple" vs.toArray 0)).objs.size)=none->G8 X pins H' _:=fun H' hn=>I2.K6 (ad2 _) hn
 have nK:H (((s.heap.update D (Obj.mapSeq fun _=>(#[]:Array Value))).push (seqObj "tuple" vs.toArray 0)).objs.size)=none:=I2.hok.fresh (ad2 _)
 have hDK:D≠((s.heap.update D (Obj.mapSeq fun _=>(#[]:Array Value))).push (seqObj "tuple" vs.toArray 0)).objs.size:=aeN (aei (ad6 (seqObj "tuple" vs.toArray 0) ho1))
 have hD3:(((s.heap.update D (Obj.mapSeq fun _=>(#[]:Array Value))).push (seqObj "tuple" vs.toArray 0)).push (seqObj "list" #[] 0)).get? D=some (seqObj "list" #[] e1):=ad6 _ (ad6 _ ho1)
 have hK3:(((s.heap.update D (Obj.mapSeq fun _=>(#[]:Array Value))).push (seqObj "tuple" vs.toArray 0)).push (seqObj "list" #[] 0)).get? (((s.heap.update D (Obj.mapSeq fun _=>(#[]:Array Value))).push (seqObj "tuple" vs.toArray 0)).objs.size)=some (seqObj "list" #[] 0):=aer _ rfl
 generalize ((s.heap.update D (Obj.mapSeq fun _=>(#[]:Array Value))).push (seqObj "tuple" vs.toArray 0)).objs.size=kS at fpK nK hDK hK3 ⊢
 generalize hs3:({ s with heap:=((s.heap.update D (Obj.mapSeq fun _=>(#[]:Array Value))).push (seqObj "tuple" vs.toArray 0)).push (seqObj "list" #[] 0) }:Shared)=s3 at I3 ⊢
 have hD3':s3.heap.get? D=some (seqObj "list" #[] e1):=by rw [<- hs3];exact hD3
 have hK3':s3.heap.get? kS=some (seqObj "list" #[] 0):=by rw [<- hs3];exact hK3
 have I4:Inv X (pins++[(D,seqObj "list" #[] e1)]) σ H s3:=I3.xq (fpD H nD) hD3' (fun v z=>by cases z)
 have fK:∀ H',H' kS=none->G8 X (pins++[(D,seqObj "list" #[] e1)]) H' kS:=fun H' hn=>by
  obtain ⟨b0,b1,b2,b3,b4,b5⟩:=fpK H' hn
  refine ⟨b0,b1,b2,b3,b4,fun p hp=>?_⟩
  rcases aem.mp hp with z| z
  ·exact b5 p (aeL _ z)
  ·rcases aem.mp z with z| z
   ·exact b5 p (ad4 _ z)
   ·have:p=(D,seqObj "list" #[] e1):=by simpa using z
    rw [this];exact hDK
 have I5:=I4.xq (fK H nK) hK3' (fun v z=>by cases z)
 unfold ksk_rest
 refine wpAny_bind (wpAny_rule ?_)
 first
  | rw [List.forIn_toArray]
  | (rw [<- Array.forIn_toList];simp only [afE])
  | rw [<- Array.forIn_toList]
 refine wpAny_bind (wpAny_mono (sort_keys (E:=E) rv h64 Pv fpD fpK hDK hcall (fun x s' R Q' hx hk=>?_) vs 0 [] 0 s3 H rfl rfl (aez _) I5 p0) (fun _ s4 hd=>?_) fun _ _ x=>x)
 ·refine wpAny_bind (wpAny_attempt (wpAny_mono hx (fun k s'' hq=>?_) fun _ _ hF=>hF.elim))
  dsimp only
  refine wpAny_bind (wpAny_mono (hk k s'' hq) (fun _ s5 hq5=>wpAny_pure hq5) fun _ _ x=>x)
 obtain ⟨ts,e',H4,htl,I6,p4⟩:=hd
 have pk:=I6.pin (kS,seqObj "list" (ts.map Value.ref).toArray e') (ad4 _ (ad4 _ (by simp)))
 have pD:=I6.pin (D,seqObj "list" #[] e1) (ad4 _ (aeL _ (ad4 _ (by simp))))
 refine wpAny_bind (listItems_at pk.1 rfl ?_)
 have p4':Pv xs.length ts H4:=by rw [hlen];exact p4
 have I7:Inv X pins σ H4 s4:=I6.j6.j6
 have fin:∀ (st:SortSt)(q:List Nat),(arrOf st).map (·.2)=List.toArray (q.map fun i=>vs.getD i Value.none)->failedOf st=none->(∀ i∈q,i<xs.length)->q.length=xs.length->wM κ xs (q.map fun i=>xs.getD i .non) ->
   wpAny (model X.prog X.w) A (ksk_tail D false e1 (.ref kS) st) (fun fin s'=>fin=.done (.ret .none)/\∃ ts H' ys,Pv xs.length ts H'/\H' D=none/\wM κ xs ys/\Inv X pins σ (upd H' D (.lst ys)) s') E s4:=by
  intro st q hout hf hq hql hsb
  unfold ksk_tail
  dsimp only
  refine wpAny_bind (listUpdate_at pk.1 rfl ?_ (by rw [aee,TX,sizeLine_eq];omega) (aez _))
  obtain ⟨b0,b1,b2,b3,b4,b5⟩:=fpK H4 pk.2.1
  have I8:Inv X pins σ H4 { s4 with heap:=s4.heap.update kS (Obj.mapSeq fun _=>(#[]:Array Value)) }:=I7.turned (t':=s4.toks) (fun b o hb e=>(aeJ _ _ (Ne.symm hb)).trans e) b0 b1 b3 b4 b5
  have hD8:(s4.heap.update kS (Obj.mapSeq fun _=>(#[]:Array Value))).get? D=some (seqObj "list" #[] e1):=(aeJ _ _ (Ne.symm hDK)).trans pD.1
  refine wpAny_bind (wpAny_letGo ?_)
  refine wpAny_bind (seqEpoch_at hD8 rfl ?_)
  have hsz:(if false=true then ((arrOf st).map (·.2)).reverse else (arrOf st).map (·.2))=List.toArray (q.map fun i=>vs.getD i Value.none):=by rw [if_neg aec];exact hout
  refine wpAny_bind (listUpdate_at hD8 rfl ?_ (aez _) (by show (if false=true then ((arrOf st).map (·.2)).reverse else (arrOf st).map (·.2)).size<=_;rw [hsz,aee,TX,sizeLine_eq];omega))
  rw [hf]
  simp only [bne_self_eq_false,afi,if_false]
  refine wpAny_pure ⟨rfl,ts,H4,_,p4',pD.2.1,hsb,?_⟩
  obtain ⟨c0,c1,c2,c3,c4,c5⟩:=fpD H4 pD.2.1
  have I9:=I8.turned (h':=(s4.heap.update kS (Obj.mapSeq fun _=>(#[]:Array Value))).update D (Obj.mapSeq fun _=>(arrOf st).map (·.2))) (t':=s4.toks) (fun b o hb e=>(aeJ _ _ (Ne.symm hb)).trans e) c0 c1 c3 c4 c5
  obtain ⟨cc,hcc⟩:∃ cc,((s4.heap.update kS (Obj.mapSeq fun _=>(#[]:Array Value))).update D (Obj.mapSeq fun _=>(arrOf st).map (·.2))).get? D=some (seqObj "list" (q.map fun i=>vs.getD i Value.none).toArray cc):=⟨_,by rw [<- hout];exact get?_update_seq hD8 fun _=>(arrOf st).map (·.2)⟩
  exact I9.adopt pD.2.1 c1 hfresh c4 c5 ⟨by rw [TX,sizeLine_eq];omega,_,cc,Fb rv q hq,hcc⟩
 have eks:ts.length=xs.length:=by omega
 unfold ksk_end
 dsimp only
 rw [if_neg aec]
 by_cases h2:xs.length<2
 ·have hs2:vs.toArray.size<2:=by rw [aee];omega
  rw [if_pos hs2,if_pos hs2]
  refine wpAny_bind (wpAny_pure ?_)
  refine wpAny_bind ?_
  rw [StateT.run_pure]
  refine wpAny_pure ?_
  dsimp only
  have hr:∀ i∈List.range xs.length,i<xs.length:=fun i hi=>aeB.mp hi
  refine fin _ (List.range xs.length) ?_ rfl hr (aeU) ⟨List.range xs.length,List.Perm.refl _,rfl,?_⟩
  ·show ((if false=true then ((ts.map Value.ref).toArray.zip vs.toArray).reverse else (ts.map Value.ref).toArray.zip vs.toArray)).map (·.2)=_
   rw [if_neg aec]
   apply Array.toList_inj.mp
   rw [Array.toList_map,Array.toList_zip,List.map_snd_zip (by rw [afE,afE,TX];omega)]
   rw [afE]
   apply afz
   intro j
   rw [afE,ad5]
   by_cases hj:j<xs.length
   ·rw [afe hj]
    show _=some (vs.getD j Value.none)
    rw [ad0,adW (by omega)];rfl
   ·rw [aex (by omega),aex (by rw [aeU];omega)];rfl
  ·match hx:xs.length,h2 with
   | 0,_=>exact List.Pairwise.nil
   | 1,_=>exact List.pairwise_singleton _ _
 ·have hs2:¬ vs.toArray.size<2:=by rw [aee];omega
  rw [if_neg hs2,if_neg hs2]
  have KK:Keys s4.heap (ts.map Value.ref) key xs.length m:=by
   refine ⟨by rw [TX];exact eks,fun i hi=>?_,hlong⟩
   have hit:i<ts.length:=by omega
   have et:=htup ts H4 p4' i ts[i] (adW hit)
   obtain ⟨_,its,r,hT⟩:=I7.hok _ _ et
   exact ⟨ts[i],its,by rw [ad5,adW hit];rfl,hT,intsAre_of r⟩
  obtain ⟨fs,kt,kl,kv⟩:=KK.tups
  refine wpAny_bind (kat_kind kt (by omega) (fun v hv=>by obtain ⟨a,t,rfl⟩:=kv v hv;exact Looks.of_pure rfl) (T:=.type "int") (by decide) ?_)
  have ett:(Value.type "int" !=Value.type "tuple")=true:=by decide
  rw [ett]
  have ez:(if false=true then ((ts.map Value.ref).toArray.zip vs.toArray).reverse else (ts.map Value.ref).toArray.zip vs.toArray)=(ts.map Value.ref).toArray.zip vs.toArray:=by rw [if_neg aec]
  rw [ez]
  have hkl:(ts.map Value.ref).length=vs.length:=by rw [TX];omega
  have run:=kat_run (prog:=X.prog) (w:=X.w) (A:=A) (E:=E) (s:=s4) (κ:=tuples' true) (ks:=ts.map Value.ref) (vs:=vs)
   (Q:=fun st' s'=>s'=s4/\∃ p:Array Nat,arrOf st'=p.map (kas_item ((ts.map Value.ref).toArray.zip vs.toArray))/\failedOf st'=none/\Arr xs.length p/\Srt κ p xs.length)
   (G:=fun p s'=>s'=s4/\Arr xs.length p/\Srt κ p xs.length) hkl (by omega) (by omega) (fun p st' s' _ b c ⟨d,a1,a2⟩=>⟨d,p,b,c,a1,a2⟩) (by
    have:=Lw (N:=xs.length) (KK.cmp (prog:=X.prog) (w:=X.w) (A:=A) hκ) hinj (by omega) (Q:=fun p s'=>s'=s4/\Arr xs.length p/\Srt κ p xs.length) (s:=s4) rfl fun p s' a b c=>⟨c,a,b⟩
    rw [<- hlen]
    exact this)
  refine wpAny_bind (wpAny_mono run ?_ fun _ _ x=>x)
  rintro ⟨⟨⟩,st'⟩ s5 ⟨rfl,p,har,hf,AR,SR⟩
  dsimp only
  refine fin st' p.toList (kat_snds hkl har) hf (fun i hi=>?_) (by rw [aeI,AR.size]) (Mx AR SR)
  exact aeB.mp (AR.perm.mem_iff.mp hi)
end
def ZJ (X:Cx)(scope:Scope)(qual:Str)(c:Value)(N:List Str)(A:Around)(f:Addr)(s:Shared)(H:Hp):Cx:=
 let env:Env:=envX qual scope s.heap.objs.size f c (clo X.env.cells scope.names []);{ prog:=X.prog,w:=X.w,K:=X.K,mg:=X.mg,base:=X.base,A:=A.deeper env,N:=N,s₀:=s,H₀:=H,env:=env,outer:=X.stack,stack:=env::X.stack,ex:=[],fn:=fun x=>((clo X.env.cells scope.names []).lookup x).isNone,calm:=true,pn:=[],xe:=fun _ _=>False }
def DG (x:V)(cap:List (Option Nat))(σ:St):St:=some x::(cap.map fun o=>o.bind fun j=>(σ[j]?).bind id)
def ZG (scope:Scope)(p:Str)(N N':List Str)(cap:List (Option Nat)):Bool:=(scope.names.lookup p ==some .local) && !scope.isCoroutine&& !scope.isGenerator&& (!N'.contains p) && Ih scope N N' cap
section
variable {X:Cx}{pins:List (Addr × Obj)}{σ:St}{H:Hp}{s:Shared}{body:Expr}{scope:Scope}{params:Arguments}{te:TE}
theorem RW (sc:Scope)(hsc:X.env.scope=sc)(N₀:List Str)(hN₀:X.N=N₀){N':List Str}{cap:List (Option Nat)}{p:Str}(f1:freeOk sc scope=true)(f2:Hy scope=true)(f3:ZG scope p N₀ N' cap=true)
  {A:Around}{f:Addr}{name qual:Str}{c pm ctv:Value}{x:V}{u:Value}{Q:VK}(I:Inv X pins σ H s)(hA:A.frames=some X.stack)(hd:A.handled=none)(hroom:A.depth<recursionLimit)
  (hf:(f,({ cls:=.type "function",data:=.func (kla_fn name qual params body scope (clo X.env.cells scope.names []) pm c ctv) }:Obj))∈pins)(hcd:s.heap.CodeRec c qual)
  (hbind:bindArgs (kla_fn name qual params body scope (clo X.env.cells scope.names []) pm c ctv) ⟨[u],[]⟩=pure [(p,u)])
  (hb:PE (ZJ X scope qual c (p::N') A f s H) body te)(rx:RelV x u)(h:te (DG x cap σ) H Q):
  wpAny (model X.prog X.w) A (call (.ref f) [u]) (fun k s2=>∃ v H2,RelV v k/\Inv X pins σ H2 s2/\Q v H2) (fun _ _=>False) s:=by
 have ok:=I.ok
 have fr:∀ y∈scope.names,y.2=.free->X.env.kindOf y.1=some .cell\/X.env.kindOf y.1=some .free:=fun y hy e=>by
  have q:=aeT.mp f1 y hy
  rw [e] at q
  have q':((sc.names.lookup y.1 ==some NameKind.cell) || (sc.names.lookup y.1 ==some NameKind.free))=true:=by simpa using q
  rw [Bool.or_eq_true] at q'
  unfold Env.kindOf
  rw [hsc]
  rcases q' with z| z
  ·exact .inl (by simpa using z)
  ·exact .inr (by simpa using z)
 obtain ⟨⟨k1,k2⟩,k3⟩:((scope.kind == .function)=true/\(scope.names.all fun y=>y.2 != .cell)=true)/\(scope.names.all fun y=>y.2 != .local|| scope.names.lookup y.1 ==some .local)=true:=by
  unfold Hy at f2
  rw [aev,aev] at f2
  exact f2
 have hkind:scope.kind=.function:=by simpa using k1
 have hcell:∀ y∈scope.names,y.2≠.cell:=fun y hy=>by
  have q:=aeT.mp k2 y hy
  simpa using q
 obtain ⟨⟨⟨⟨g1,g2⟩,g3⟩,g4⟩,g5⟩:((((scope.names.lookup p ==some .local)=true/\(!scope.isCoroutine)=true)/\(!scope.isGenerator)=true)/\(!N'.contains p)=true)/\Ih scope N₀ N' cap=true:=by
  unfold ZG at f3
  rw [aev,aev,aev,aev] at f3
  exact f3
 have hploc:scope.names.lookup p=some .local:=by simpa using g1
 have clX:∀ x c,(clo X.env.cells scope.names []).lookup x=some c->X.env.cells.lookup x=some c:=fun x c e=>by
  have e1:=Qm e
  have hx:(x,NameKind.free)∈scope.names:=by
   rcases Eo [] (aeF e) with z| z
   ·exact nomatch z
   ·exact z
  obtain ⟨c',e2⟩:=ok.has x (fr (x,.free) hx rfl)
  rw [e2] at e1 ⊢
  rw [e1];rfl
 have pf:=I.pin _ (ad4 _ hf)
 refine wpAny_call (kla_callFunE hroom pf.1 rfl (by simpa using g2) (by simpa using g3) rfl hcd ?_)
 rw [hbind]
 refine wpAny_pure ?_
 refine wpAny_newFunctionEnv hcell (fun y hy=>?_) (fun h4 hns hsb=>?_) hkind
 ·have:y=(p,u):=by simpa using hy
  rw [this];exact hploc
 have kp4:∀ b o,s.heap.get? b=some o->h4.get? b=some o:=fun b o e=>hsb.extBut b o (aeN (aei e)) (ad6 _ e)
 refine ⟨I.nolimit.keeps kp4,kla_codeExpr ?_⟩
 let Z:Cx:=ZJ X scope qual c (p::N') A f s H
 have okZ:Z.Ok:=by
  refine ⟨ok.mod,hkind,rfl,rfl,ad2 _,?_,?_,?_,fun _=>hd,Around.frames_deeper hA,.inr ⟨rfl,rfl⟩,?_,?_,?_,?_,?_,?_,?_⟩
  ·exact fun x y c h1 h2=>ok.inj x y c (clX x c h1) (clX y c h2)
  ·intro x hx
   have hx':scope.names.lookup x=some .cell\/scope.names.lookup x=some .free:=hx
   rcases hx' with z| z
   ·exact absurd rfl (hcell _ (aeF z))
   ·exact afn.mp (Ar scope.names [] x (aeF z))
  ·intro x c hx h1
   have hx':((clo X.env.cells scope.names []).lookup x).isNone=true:=hx
   have h1':(clo X.env.cells scope.names []).lookup x=some c:=h1
   rw [h1'] at hx';cases hx'
  ·exact fun b hb=>absurd (show b∈([]:List Addr) from hb) (by simp)
  ·exact fun b o e=>I.bs b o e
  ·exact aeP ok.bsz I.sz
  ·exact fun b o e hb=>absurd (show b∈([]:List Addr) from hb) (by simp)
  ·exact fun b hb=>absurd (show b∈([]:List Addr) from hb) (by simp)
  ·exact I.stack
  ·exact I.Dh
 have capl:cap.length=N'.length/\∀ p∈N'.zip cap,(match p.2 with| none=>true| some j=>N₀[j]? ==some p.1&& scope.names.lookup p.1 ==some .free)=true:=by
  unfold Ih at g5
  rw [aev] at g5
  exact ⟨by simpa using g5.1,fun p hp=>aeT.mp g5.2 p hp⟩
 have IZ:Inv Z [] (DG x cap σ) H { s with heap:=h4,toks:=s.toks+[(p,u)].length }:=by
  refine ⟨okZ,rfl,I.bare,Un.kept kp4,⟨_,hns,?_⟩,?_,?_,?_,fun p hp=>absurd (show p∈([]:List (Addr × Obj)) from hp) (by simp),I.hok.kept kp4,?_⟩
  ·intro i y v e1 e2 e3
   cases i with
   | zero =>
    have e1':p=y:=by
     have e1'':(p::N')[0]?=some y:=e1
     simpa using e1''
    have e2':x=v:=by
     have e2'':(DG x cap σ)[0]?=some (some v):=e2
     simpa [DG] using e2''
    subst e1' e2'
    exact ⟨u,rx,.inl ⟨hploc,by simp [List.lookup]⟩⟩
   | succ i =>
    have e1':N'[i]?=some y:=by
     have e1'':(p::N')[i+1]?=some y:=e1
     simpa using e1''
    have e2':(cap.map fun o=>o.bind fun j=>(σ[j]?).bind id)[i]?=some (some v):=by
     have e2'':(DG x cap σ)[i+1]?=some (some v):=e2
     simpa [DG] using e2''
    rw [ad5] at e2'
    cases ec:cap[i]? with
    | none=>rw [ec] at e2';cases e2'
    | some o =>
     rw [ec] at e2'
     cases o with
     | none=>cases e2'
     | some j =>
      have e3':(σ[j]?).bind id=some v:=by simpa using e2'
      have hz:(y,some j)∈N'.zip cap:=by
       refine ad1 (i:=i) ?_
       rw [afl]
       exact ⟨e1',ec⟩
      have q:=capl.2 _ hz
      have q':(N₀[j]? ==some y)=true/\(scope.names.lookup y ==some NameKind.free)=true:=by simpa [aev] using q
      have q1:X.N[j]?=some y:=by rw [hN₀];simpa using q'.1
      have q2:scope.names.lookup y=some .free:=by simpa using q'.2
      have eσ:σ[j]?=some (some v):=by
       cases z:σ[j]? with
       | none=>rw [z] at e3';cases e3'
       | some y' =>
        rw [z] at e3'
        have:y'=some v:=e3'
        rw [this]
      have hk:=fr (y,.free) (aeF q2) rfl
      obtain ⟨m,hn,hl⟩:=I.loc
      have vis:Vis X.env.scope y:=by
       rcases hk with z| z
       ·exact .inr (.inl z)
       ·exact .inr (.inr z)
      obtain ⟨u',r,l⟩:=hl j y v q1 eσ vis
      refine ⟨u',r,.inr ⟨.inr q2,?_⟩⟩
      rcases l with ⟨kl,_⟩ | ⟨_,c,ecx,hcx⟩
      ·rcases hk with z| z
       ·have z':X.env.kindOf y=some .cell:=z
        rw [kl] at z';cases z'
       ·have z':X.env.kindOf y=some .free:=z
        rw [kl] at z';cases z'
      ·have hh:=Ar (cells:=X.env.cells) scope.names [] y (aeF q2)
       obtain ⟨c',ec'⟩:=afn.mp hh
       have ec2:=clX y c' ec'
       rw [ecx] at ec2
       cases ec2
       exact ⟨c,ec',hcx.keeps kp4⟩
  ·intro y c e
   obtain ⟨v,z⟩:=I.cell y c (clX y c e)
   exact ⟨v,z.keeps kp4⟩
  ·exact I.hok.fresh (ad2 _)
  ·exact fun y c e=>I.freeC y c (clX y c e)
  ·show (DG x cap σ).length=(p::N').length
   unfold DG
   rw [ael,ael,TX,capl.1]
 refine wpAny_mono (hb [] _ _ H Q IZ h) (fun v s2 ⟨vv,H2,J,rv,q⟩=>?_) fun _ _ z=>z.elim
 refine ⟨vv,H2,rv,?_,q⟩
 have un:Un (frs X.stack) [] H H2 s.heap s2.heap:=J.base
 exact I.call' J.os un J.hok J.bare fun b hb=>absurd hb (by simp)
end
section
variable {X:Cx}{pins:List (Addr × Obj)}{σ:St}{H:Hp}{s:Shared}
theorem Inv.grow {P:Addr}{ps more:Array Value}{h':Heap}{t':Nat}(I:Inv X pins σ H s)(hP:H P=some (.tbl ps))(hx:Heap.ExtBut P s.heap h')(hP':h'.get? P=some { cls:=.none,data:=.fields (ps++more) }):
  Inv X pins σ (upd H P (.tbl (ps++more))) { s with heap:=h',toks:=t' }:=by
 have ne:∀ b,H b=none->b≠P:=fun b n z=>by rw [z,hP] at n;cases n
 have hL:X.env.locals≠P:=ne _ I.free;refine I.step (g':=s.gens) (d':=s.drawn) (ch:=[]) (fun _ z=>nomatch z) (fun b o _ _ _ e n=>hx b o (ne b n) e) (fun b o _ _ _ e n=>⟨o.slots,hx b o (ne b n) e⟩) (fun b o _ _ n=>by rw [aL (ne b n)];exact n) (fun b o _ e=>?_) (fun b xs e=>?_) (fun b ob u e=>?_) (fun b qs e=>?_) (fun m hm=>?_) (fun b u e=>?_) I.bare
 ·by_cases hb:b=P
  ·subst hb;exact ⟨_,hP'⟩
  ·exact ⟨o,hx b o hb e⟩
 ·rw [aL (fun z=>by rw [z,hP] at e;cases e)];exact e
 ·rw [aL (fun z=>by rw [z,hP] at e;cases e)];exact e
 ·by_cases hb:b=P
  ·subst hb;rw [hP] at e;cases e;exact ⟨more,by rw [aR]⟩
  ·exact ⟨#[],by rw [aL hb,e];simp⟩
 ·exact hm.extBut hx hL
 ·by_cases hb:b=P
  ·subst hb;rw [aR] at e;cases e;exact hP'
  ·rw [aL hb] at e;refine (I.hok b u e).stay (fun c v hc q=>hx c v ?_ q) (fun c q=>by rw [aL (fun z=>by rw [z,hP] at q;cases q)];exact q) fun c xs q=>by rw [aL (fun z=>by rw [z,hP] at q;cases q)];exact q
   rcases hc with z| z
   ·rw [z];exact hb
   ·intro w;rw [w,hP] at z;cases z
def TabOk (P:Addr)(pos:Pos)(qual:Str)(H:Hp):Prop:=H P=some (.tbl #[])\/∃ c':Addr,H P=some (.tbl #[rawInt pos.line,rawInt pos.col,.ref c'])/\H c'=some (.ext fun h=>h.CodeRec (.ref c') qual)
def BM (mg:Str->Option Value)(base:Heap):Prop:=∃ bm ob,mg "__builtins__"=some (.ref bm)/\bm≠builtinsNs/\bm≠mainGlobals/\base.get? bm=some ob/\ob.cls=.type "module"/\ob.dict=some builtinsNs/\ob.data=.plain
theorem RV {P c:Addr}{params:Arguments}{body:Expr}{scope:Scope}{pos:Pos}{Q:Value->Shared->Prop}{E:Value->Shared->Prop}{A:Around}(sc:Scope)(hsc:X.env.scope=sc)(f1:freeOk sc scope=true)(I:Inv X pins σ H s)(hbm:BM X.mg X.base)(hcode:X.env.code=.ref c)
  (hhd:codeHdIn X.K c P=true)(hT:TabOk P pos (X.env.qual++"<lambda>") H)(hdef:defaultsOf params X.env=([],[]))
  (h:∀ (f:Addr)(H':Hp)(s':Shared)(c':Addr)(pm ctv:Value),(∀ b o,H b=some o->b≠P->H' b=some o)->(∀ b,H' b=none->H b=none)->TabOk P pos (X.env.qual++"<lambda>") H'->H' c'=some (.ext fun h=>h.CodeRec (.ref c') (X.env.qual++"<lambda>")) ->
   Inv X (pins++[(f,({ cls:=.type "function",data:=.func (kla_fn "<lambda>" (X.env.qual++"<lambda>") params body scope (clo X.env.cells scope.names []) pm (.ref c') ctv) }:Obj))]) σ H' s'->Q (.ref f) s'):
  wpAny (model X.prog X.w) A (eval (.Lambda params body scope pos) X.env) Q E s:=by
 have ok:=I.ok
 have fr:∀ y∈scope.names,y.2=.free->X.env.kindOf y.1=some .cell\/X.env.kindOf y.1=some .free:=fun y hy e=>by
  have q:=aeT.mp f1 y hy
  rw [e] at q
  have q':((sc.names.lookup y.1 ==some NameKind.cell) || (sc.names.lookup y.1 ==some NameKind.free))=true:=by simpa using q
  rw [Bool.or_eq_true] at q'
  unfold Env.kindOf
  rw [hsc]
  rcases q' with z| z
  ·exact .inl (by simpa using z)
  ·exact .inr (by simpa using z)
 have hclos:closureFor scope X.env=pure (clo X.env.cells scope.names []):=uh fun y hy e=>ok.has y.1 (fr y hy e)
 have hg:s.heap.Ns mainGlobals X.mg:=I.mod.glob.keeps I.bk
 have C:CodeHd s.heap c P:=codeHd_of_K I.kIn hhd
 obtain ⟨bm,ob,b1,b2,b3,b4,b5,b6,b7⟩:=hbm
 have hbmP:∀ ps,H P=some (.tbl ps)->bm≠P:=fun ps e z=>by
  have:=(I.bs bm ob b4).2
  rw [z,e] at this;cases this
 have hB:∀ ps,H P=some (.tbl ps)->s.heap.BuiltinsAt X.mg P:=fun ps e=>⟨bm,ob,b1,b2,b3,hbmP ps e,I.bk bm ob b4,b5,b6,b7⟩
 refine kla_eval hdef ?_
 rcases hT with hT| ⟨c',hT,hc'⟩
 ·have hPo:s.heap.get? P=some (tabObj #[]):=I.hok P _ hT
  have hgP:mainGlobals≠P:=fun q=>by
   obtain ⟨o,es,ep,e,hd,_⟩:=id hg
   rw [q,hPo] at e;cases e;cases hd
  refine kla_makeFunction (mg:=X.mg) hclos ok.glob hg hcode C hPo trivial rfl hgP (hB _ hT) fun c' ctv h' tk hx hge hlt hrec htb=>?_
  have hPlt:P<s.heap.objs.size:=aei hPo
  have I1:Inv X pins σ (upd H P (.tbl (#[]++#[rawInt pos.line,rawInt pos.col,.ref c']))) { s with heap:=h',toks:=tk }:=I.grow hT hx htb
  have nc':H c'=none:=I.hok.fresh hge
  have hcP:c'≠P:=fun z=>by rw [z] at hge;exact absurd hPlt (Nat.not_lt.mpr hge)
  have nc1:(upd H P (.tbl (#[]++#[rawInt pos.line,rawInt pos.col,.ref c']))) c'=none:=by rw [aL hcP];exact nc'
  obtain ⟨q0,q1,q2,q3,q4,q5⟩:=I.K6 (H':=H) hge nc'
  have hs0:X.s₀.heap.objs.size<=c':=aeP I.sz hge
  have I2:=I1.adopt (a:=c') (o:=.ext fun h=>h.CodeRec (.ref c') (X.env.qual++"<lambda>")) nc1 q1 hs0 q4 q5
   ⟨hrec,by obtain ⟨cc,o,vs,t,e1,e2,_⟩:=hrec;cases e1;exact ⟨o,e2⟩,fun h1 h2 x k=>x.at k⟩
  have I3:=I2.kept (h':=h'.push (kla_obj "<lambda>" (X.env.qual++"<lambda>") params body scope (clo X.env.cells scope.names []) ((X.mg "__name__").getD .none) c' ctv)) (t':=tk) fun b o e=>ad6 _ e
  have nf:(upd (upd H P (.tbl (#[]++#[rawInt pos.line,rawInt pos.col,.ref c']))) c' (.ext fun h=>h.CodeRec (.ref c') (X.env.qual++"<lambda>"))) h'.objs.size=none:=I2.hok.fresh (ad2 _)
  have I4:=I3.xq (I2.K6 (ad2 _) nf) (aer _ rfl) (fun v z=>by cases z)
  refine h _ _ _ c' _ ctv (fun b o e hb=>?_) (fun b e=>?_) (.inr ⟨c',?_,aR⟩) aR I4
  ·rw [aL (aV e nc'),aL hb];exact e
  ·cases z:H b with
   | none=>rfl
   | some o =>
    by_cases hb:b=P
    ·rw [hb,aL hcP.symm,aR] at e;cases e
    ·rw [aL (aV z nc'),aL hb,z] at e;cases e
  ·rw [aL hcP.symm,aR];simp
 ·have hPo:s.heap.get? P=some (tabObj #[rawInt pos.line,rawInt pos.col,.ref c']):=I.hok P _ hT
  have hfnd:codeAmong pos (#[rawInt pos.line,rawInt pos.col,.ref c']:Array Value).toList=some (.ref c'):=by simp [codeAmong,rawInt]
  refine kla_makeFunctionHit (mg:=X.mg) hclos ok.glob hg hcode C hPo trivial hfnd (hB _ hT) fun ctv h' tk hk hsz=>?_
  have I1:Inv X pins σ H { s with heap:=h',toks:=tk }:=I.kept hk
  have I3:=I1.kept (h':=h'.push ({ cls:=.type "function",data:=.func (kla_fn "<lambda>" (X.env.qual++"<lambda>") params body scope (clo X.env.cells scope.names []) ((X.mg "__name__").getD .none) (.ref c') ctv) }:Obj)) (t':=tk) fun b o e=>ad6 _ e
  have nf:H h'.objs.size=none:=I1.hok.fresh (ad2 _)
  have I4:=I3.xq (I1.K6 (ad2 _) nf) (aer _ rfl) (fun v z=>by cases z)
  exact h _ _ _ c' _ ctv (fun b o e _=>e) (fun b e=>e) (.inr ⟨c',hT,hc'⟩) hc' I4
end
def jB (n:Nat):List V:=(List.range n).map fun (i:Nat)=>V.int (i:Int)
def Q5 (P:Addr)(lpos:Pos)(qual:Str)(cap:List (Option Nat))(ta:TA)(te:TE):TE:=fun σ H Q=>ta σ H fun vs H1=>∃ n:Nat,vs=[.int (n:Int)]/\n<64/\TabOk P lpos qual H1 /\
 ∀ H2,(∀ b o,H1 b=some o->b≠P->H2 b=some o)->(∀ b,H2 b=none->H1 b=none)->TabOk P lpos qual H2 ->
  ∃ (Pv:Nat->List Addr->Hp->Prop)(key:Nat->List Int)(κ:Nat->Int)(m:Nat),Pv 0 [] H2/\(∀ i ts H3,i<n->Pv i ts H3->(∀ c',H2 c'=some (.ext fun h=>h.CodeRec (.ref c') qual)->H3 c'=some (.ext fun h=>h.CodeRec (.ref c') qual))/\te (DG (.int (i:Int)) cap σ) H3 fun v H4=>∃ t,v=.ref t/\Pv (i+1) (ts++[t]) H4) /\
   (∀ ts H3,Pv n ts H3->∀ i t,ts[i]?=some t->H3 t=some (.tup ((key i).map V.int)))/\(∀ i,i<n->(key i).length=m+1)/\(∀ i j,i<n->j<n->HT.lexLt (key i) (key j)=decide (κ i<κ j))/\Inj n κ /\
   ∀ ts H3 D ys,Pv n ts H3->H3 D=none->wM κ (jB n) ys->Q (.ref D) (upd H3 D (.lst ys))
section
variable {X:Cx}{e body:Expr}{ta:TA}{te:TE}{params:Arguments}{scope:Scope}{p1 p2 p3 lpos kp pos:Pos}
theorem yt {P c:Addr}{p:Str}(sc:Scope)(hsc:X.env.scope=sc)(N₀:List Str)(hN₀:X.N=N₀)(N':List Str)(cap:List (Option Nat))(f1:freeOk sc scope=true)(f2:Hy scope=true)(f3:ZG scope p N₀ N' cap=true)
  (hcalm:X.calm=true)(hbm:BM X.mg X.base)(hcode:X.env.code=.ref c)(hhd:codeHdIn X.K c P=true)(hroom:X.A.depth+4<recursionLimit)
  (hgs:Gl X "sorted")(hms:X.mg "sorted"=none)(hgr:Gl X "range")(hmr:X.mg "range"=none)(ha:PA X [e] ta)
  (hb:∀ (A:Around)(f:Addr)(cv:Value)(s:Shared)(H:Hp),A.handled=none->A.depth<=X.A.depth+2->A.units<=X.A.units+2->PE (ZJ X scope (X.env.qual++"<lambda>") cv (p::N') A f s H) body te)
  (hbind:∀ (pm cv ctv u:Value),bindArgs (kla_fn "<lambda>" (X.env.qual++"<lambda>") params body scope (clo X.env.cells scope.names []) pm cv ctv) ⟨[u],[]⟩=pure [(p,u)])
  (hdef:defaultsOf params X.env=([],[]):=by rfl)(hs:starEach [e] X.env=[(false,eval e X.env)]:=by rfl):
  PE X (.Call (.Name "sorted" p1) [.Call (.Name "range" p2) [e] [] p3] [⟨some "key",.Lambda params body scope lpos,kp⟩] pos) (Q5 P lpos (X.env.qual++"<lambda>") cap ta te):=by
 intro pins s σ H Q I h
 refine wpAny_Call_Name_kw (nJ I hgs hms boot_sorted ?_)
 refine callWith_kw ?_
 show wpAny _ _ (spliced ((false,eval (.Call (.Name "range" p2) [e] [] p3) X.env)::[])) _ _ s
 refine afh (Call_ (nJ I hgr hmr boot_range (aeO (thn (ha p3 pins s σ H _ I h) fun us s1 ⟨vs,H1,I1,r1,q1⟩=>?_) hs rfl)))
 obtain ⟨n,e1,hn,hT,q⟩:=q1
 subst e1
 obtain ⟨u,rfl,t,rfl⟩:=vals1 r1
 refine call_range_1 ?_
 refine afy ?_
 generalize hro:({ cls:=.type "range",data:=.fields #[.int 0 s1.toks,.int (n:Int) t,.int 1 (s1.toks+1)] }:Obj)=ro
 have hrd:∀ v,ro.data≠.cell v:=fun v z=>by rw [<- hro] at z;cases z
 have I2:Inv X pins σ H1 { s1 with heap:=s1.heap.push ro,toks:=s1.toks+1+1 }:=I1.kept fun b o e=>ad6 _ e
 have nr:H1 s1.heap.objs.size=none:=I1.hok.fresh (ad2 _)
 have I3:=I2.xq (I1.K6 (ad2 _) nr) (aer _ (by rw [<- hro];rfl)) hrd
 generalize ({ s1 with heap:=s1.heap.push ro,toks:=s1.toks+1+1 }:Shared)=s2 at I3 ⊢
 generalize s1.heap.objs.size=r at I3 ⊢
 refine kws_cons (RV (P:=P) (c:=c) sc hsc f1 I3 hbm hcode hhd hT hdef fun f H2 s3 c' pm ctv k1 k2 hT2 hc' I4=>?_)
 refine kws_nil ?_
 show wpAny _ _ (call (.builtin "sorted") [.ref r] [(Str.ofString "key",.ref f)]) _ _ s3
 obtain ⟨Pv,key,κ,m,p0,step,htup,hlong,hκ,hinj,fin⟩:=q H2 k1 k2 hT2
 refine call_function_entry_kw kind_sorted plain_sorted entry_sorted (ksk_s1 _ _) ?_
 unfold Builtin.«sorted»
 refine wpAny_bind (m:=checkCount "sorted" 1 1 _) (wpAny_pure ?_)
 have pr:=I4.pin (r,ro) (ad4 _ (aeL _ (ad4 _ (by simp))))
 have hR:IsRange s3.heap r 0 (n:Int) 1 s1.toks t (s1.toks+1):=by
  show s3.heap.get? r=_
  rw [pr.1,<- hro]
 have hrs:Builtin.Range.rangeSize 0 (n:Int) 1=(n:Nat):=by rw [rangeSize_one];split <;>omega
 refine wpAny_bind (En (A:=X.A.in1) (I.ok.hd hcalm) hR (small_one (by omega) (by omega) (by omega) (by omega)) hrs (by omega) fun h' tk vs hk rv=>?_)
 have I5:Inv X _ σ H2 { s3 with heap:=h',toks:=tk }:=I4.kept hk
 have hlen:=rv.length
 rw [TX,aeU] at hlen
 refine wpAny_bind (wpAny_newList ?_ (by rw [sizeLine_eq];omega))
 have nD:H2 h'.objs.size=none:=I5.hok.fresh (ad2 _)
 have I6:Inv X _ σ H2 { s3 with heap:=h'.push (seqObj "list" vs.toArray 0),toks:=tk }:=I5.kept (t':=tk) fun b o e=>ad6 _ e
 have hD6:(h'.push (seqObj "list" vs.toArray 0)).get? h'.objs.size=some (seqObj "list" vs.toArray 0):=aer _ rfl
 have hxl:((List.range n).map fun (i:Nat)=>V.int (i:Int)).length=n:=by simp
 refine wpAny_bind (wpAny_holding (wpAny_call_entry_kw slot_list_sort ⟨_,hD6,rfl⟩ entry_list_sort ?body (ksk_l1 _ _)))
 show wpAny (model X.prog X.w) X.A.in1.in1 (Builtin.«list.sort» ⟨[.ref h'.objs.size],[(Str.ofString "key",.ref f)]⟩) _ _ _
 rw [ksk_t1]
 refine wpAny_mono (Mz (X:=X) (A:=X.A.in1.in1) (s:={ s3 with heap:=h'.push (seqObj "list" vs.toArray 0),toks:=tk }) (xs:=jB n) (key:=key) (κ:=κ) (m:=m) (n0:=0) rv (by show ((List.range n).map _).length<64;rw [hxl];exact hn) Pv I6 hD6
  (fun H' hn'=>I5.K6 (ad2 _) hn') nD (aeP I5.sz (ad2 _)) p0 ?call ?tup ?long ?kap ?inj) ?_ fun _ _ x=>x
 case call =>
  intro i x u ts pins' s' H' hx rx I' hsub pv
  obtain ⟨hi,ex⟩:i<n/\x=V.int (i:Int):=by
   have hx':((List.range n).map fun (i:Nat)=>V.int (i:Int))[i]?=some x:=hx
   rw [ad5] at hx'
   by_cases hi:i<n
   ·rw [afe hi] at hx'
    exact ⟨hi,(aek hx').symm⟩
   ·rw [aex (by rw [aeU];omega)] at hx';cases hx'
  subst ex
  obtain ⟨hkc,ht⟩:=step i ts H' hi pv
  have hcr:s'.heap.CodeRec (.ref c') (X.env.qual++"<lambda>"):=(I'.hok c' _ (hkc c' hc')).1
  refine wpAny_mono (RW (X:=X) (A:=X.A.in1.in1) sc hsc N₀ hN₀ f1 f2 f3 I' I.ok.frames (I.ok.hd hcalm) (by show X.A.depth<recursionLimit;omega) (hsub _ (ad4 _ aeu)) hcr (hbind _ _ _ _)
   (hb _ f _ s' H' (I.ok.hd hcalm) (by show X.A.depth<=X.A.depth+2;omega) (by show X.A.units+1+1<=X.A.units+2;omega)) rx ht) (fun k s2 ⟨v,H3,rv',I7,t',ev,pv'⟩=>?_) fun _ _ x=>x
  subst ev
  have ek:k=.ref t':=rv'
  exact ⟨t',H3,ek,I7,pv'⟩
 case tup =>
  intro ts H' pv
  have pv':Pv n ts H':=by
   have:Pv ((List.range n).map fun (i:Nat)=>V.int (i:Int)).length ts H':=pv
   rw [hxl] at this;exact this
  exact htup ts H' pv'
 case long =>
  intro i hi
  have hi':i<((List.range n).map fun (i:Nat)=>V.int (i:Int)).length:=hi
  rw [hxl] at hi'
  exact hlong i hi'
 case kap =>
  intro i j hi hj
  have hi':i<((List.range n).map fun (i:Nat)=>V.int (i:Int)).length:=hi
  have hj':j<((List.range n).map fun (i:Nat)=>V.int (i:Int)).length:=hj
  rw [hxl] at hi' hj'
  exact hκ i j hi' hj'
 case inj =>
  have:(jB n).length=n:=hxl
  rw [this];exact hinj
 rintro fin' s8 ⟨rfl,ts,H8,ys,pv,nD8,hsb,I8⟩
 refine ⟨_,rfl,wpAny_pure ⟨_,rfl,?_⟩⟩
 have pv':Pv n ts H8:=by
  have e':(jB n).length=n:=hxl
  rw [e'] at pv;exact pv
 exact ⟨.ref h'.objs.size,_,I8.j6.j6,rfl,fin ts H8 _ ys pv' nD8 hsb⟩
end
def aaf (ts:List Addr)(H:Hp):Prop:=∀ b,H b=none\/(∃ o xs,H b=some (.frz o (.lst xs)))\/(b∈ts/\H b=some (.tbl #[]))
theorem Oh {P:Program}{w:World}{K:PySem.W.Frag}{mg mb:Str->Option Value}{CX:CXT}{k:Nat}{fa a:Addr}{fd:FuncData}{x:Str}{sp:Sp}{s₁:Shared}{vs:List Value}{ns:List Int}{ts:List Addr}
  (KX:K.In s₁.heap)(hns:s₁.heap.Ns mainGlobals mg)(hb:s₁.heap.Ns builtinsNs mb)(hbb:∀ x:Str,x≠"__name__"->mb x=bootBuiltins x)(hlim:s₁.heap.NoLimit)(hg:s₁.gens=#[])
  (ha:s₁.heap.get? a=some { cls:=.type "list",data:=.seq vs.toArray })(hi:IntsAre vs ns)(hl:ns.length<=sizeLine)(hr:tO k callerA)
  (hts:∀ P∈ts,s₁.heap.get? P=some (tabObj #[]))(htk:∀ P∈ts,K.lookup P=none)(htc:∀ P∈ts,isCodeTable s₁.heap P)
  (hbm:∃ bm ob,mg "__builtins__"=some (.ref bm)/\bm≠builtinsNs/\s₁.heap.get? bm=some ob/\ob.cls=.type "module"/\ob.dict=some builtinsNs/\ob.data=.plain)
  (F:∀ base:Heap,K.In base->base.Ns mainGlobals mg->BM mg base->G9 P w K mg base CX k fa fd [x] sp)(hbind:∀ (s:Shared)(u:Value),BindsTo s fd ⟨[u],[]⟩ [(x,u)])
  (hsp:∀ H:Hp,aaf ts H->(∀ P∈ts,H P=some (.tbl #[]))->SqL K H a (ns.map V.int)->sp [.ref a] H (fun v _=>v=.bl true) fun _ _ _=>False)
  (hCX:∀ H e s',CX [] H s₁ (fun _ _ _=>False) e s'->False):
  codeAny (model P w) callerA (.call (.ref fa) ⟨[.ref a],[]⟩) (fun r s'=>r=.ok (.ret (.bool true))/\OldK s₁.heap s'.heap/\s'.os=s₁.os/\AllBare s'.gens) s₁:=by
 have rv:=Fd hi
 have lenV:=hi.length
 have haT:a ∉ ts:=fun z=>by have:=hts a z;rw [ha] at this;cases this
 have core:∀ H:Hp,aaf ts H->(∀ P∈ts,H P=some (.tbl #[]))->SqL K H a (ns.map V.int)->HOk P w H s₁.heap->(∀ b,H b≠none->b=a\/b∈ts)->(H a≠none->K.lookup a=none) ->
   codeAny (model P w) callerA (.call (.ref fa) ⟨[.ref a],[]⟩) (fun r s'=>r=.ok (.ret (.bool true))/\OldK s₁.heap s'.heap/\s'.os=s₁.os/\AllBare s'.gens) s₁:=by
  intro H hO hTb hS hok hA hK
  have base_of:∀ {b:Addr}{o:Obj},s₁.heap.get? b=some o->H b=none->(QJ s₁.heap H).get? b=some o:=fun e n=>R6 e n
  have noA:∀ {b:Addr}{o:Obj},s₁.heap.get? b=some o->(∀ xs n,o.data≠.seq xs n)->(∀ ps,o.data≠.fields ps)->H b=none:=fun {b o} e d1 d2=>by
   cases q:H b with
   | none=>rfl
   | some u =>
    rcases hA b (by rw [q];simp) with e' | e'
    ·subst e'
     rw [ha] at e;cases e
     exact absurd rfl (d1 _ _)
    ·have:=hts b e'
     rw [e] at this;cases this
     exact absurd rfl (d2 _)
  have nsK:∀ {b:Addr}{m:Str->Option Value},s₁.heap.Ns b m->(QJ s₁.heap H).Ns b m:=fun {b m} ⟨o,es,ep,e,d,r⟩=>⟨o,es,ep,base_of e (noA e (fun _ _ z=>by rw [d] at z;cases z) fun _ z=>by rw [d] at z;cases z),d,r⟩
  have hKb:K.In (QJ s₁.heap H):=fun b o e=>base_of (KX b o e) (by
   cases q:H b with
   | none=>rfl
   | some u =>
    rcases hA b (by rw [q];simp) with e' | e'
    ·subst e'
     rw [hK (by rw [q];simp)] at e;cases e
    ·rw [htk b e'] at e;cases e)
  have hM:Mod K mg (QJ s₁.heap H):=⟨hKb,nsK hns,⟨mb,nsK hb,hbb⟩,let ⟨mc,h1,h2⟩:=hlim;⟨mc,nsK h1,h2⟩⟩
  have hBM:BM mg (QJ s₁.heap H):=by
   obtain ⟨bm,ob,c1,c2,c3,c4,c5,c6⟩:=hbm
   refine ⟨bm,ob,c1,c2,fun q=>?_,base_of c3 (noA c3 (fun _ _ z=>by rw [c6] at z;cases z) fun _ z=>by rw [c6] at z;cases z),c4,c5,c6⟩
   obtain ⟨o,es,ep,e,hd,_⟩:=id hns
   rw [q,e] at c3;cases c3;rw [hd] at c6;cases c6
  have e0:aah P w K mg (QJ s₁.heap H) callerA [] s₁ H:=⟨rfl,hM,fun b o e=>Zx e,Nat.le_of_eq (Pb _ _),trivial,fun b hb=>absurd (show b∈([]:List Addr) from hb) (by simp),hok,.of_eq hg⟩
  refine codeAny_mono ((F _ hKb (nsK hns) hBM).run callerA [] s₁ H ⟨[.ref a],[]⟩ [.ref a] [.ref a] _ _ hr e0 (hbind s₁ (.ref a)) (.cons rfl .nil) (hsp H hO hTb hS)) fun r s' h=>?_
  cases r with
  | error e=>exact (hCX H e s' h).elim
  | ok fl =>
   cases fl with
   | next=>exact False.elim h
   | brk=>exact False.elim h
   | cont=>exact False.elim h
   | ret u =>
    obtain ⟨v,H',os,bare,un,hok',r',q⟩:=h
    have q':v=.bl true:=q
    subst q'
    obtain rfl:u=Value.bool true:=r'
    have old:∀ b o,s₁.heap.get? b=some o->asItWas s₁.heap s'.heap b o:=fun b o e=>by
     rcases hO b with z| ⟨ob,xs,z⟩ | ⟨hbt,z⟩
     ·exact .inl (un.keep b o e z (by intro z;exact absurd (show b∈([]:List Addr) from z) (by simp)) (by simp))
     ·have z2:=un.frzs b ob _ z
      obtain ⟨e1,_⟩:=hok b _ z
      obtain ⟨e2,_⟩:=hok' b _ z2
      rw [e] at e1;cases e1
      exact .inl e2
     ·obtain ⟨more,z2⟩:=un.tbls b #[] z
      have e2:s'.heap.get? b=some { cls:=.none,data:=.fields (#[]++more) }:=hok' b _ z2
      have e3:=hts b hbt
      rw [e] at e3;cases e3
      exact .inr (.inl ⟨htc b hbt,rfl,#[],more,rfl,e2⟩)
    refine ⟨rfl,⟨old,fun b o e=>?_⟩,os,bare⟩
    exact un.there b o e (by simp)
 have tb:∀ b,(if b∈ts then some (HO.tbl #[]) else none)=none\/b∈ts:=fun b=>by
  by_cases h:b∈ts
  ·exact .inr h
  ·exact .inl (if_neg h)
 cases hk:K.lookup a with
 | some o =>
  have e:=KX a o hk
  rw [ha] at e
  cases e
  refine core (fun b=>if b∈ts then some (.tbl #[]) else none) (fun b=>?_) (fun P hP=>if_pos hP) (.inr ⟨_,vs.toArray,_,hk,rfl,rfl,rfl,by rw [aee,lenV];exact hl,by simpa using rv⟩) (fun b u z=>?_) (fun b z=>?_) (fun z=>absurd (if_neg haT) z)
  ·by_cases h:b∈ts
   ·exact .inr (.inr ⟨h,if_pos h⟩)
   ·exact .inl (if_neg h)
  ·by_cases h:b∈ts
   ·have z':=(if_pos h).symm.trans z
    cases z'
    exact hts b h
   ·have z':=(if_neg h).symm.trans z
    cases z'
  ·by_cases h:b∈ts
   ·exact .inr h
   ·exact absurd (if_neg h) z
 | none =>
  refine core (fun b=>if b=a then some (.frz { cls:=.type "list",data:=.seq vs.toArray } (.lst (ns.map V.int))) else if b∈ts then some (.tbl #[]) else none) (fun b=>?_) (fun P hP=>?_) (.inl (.inr ⟨{ cls:=.type "list",data:=.seq vs.toArray },if_pos rfl⟩)) (fun b u z=>?_) (fun b z=>?_) fun _=>hk
  ·by_cases hb:b=a
   ·exact .inr (.inl ⟨_,_,if_pos hb⟩)
   ·by_cases h:b∈ts
    ·exact .inr (.inr ⟨h,(if_neg hb).trans (if_pos h)⟩)
    ·exact .inl ((if_neg hb).trans (if_neg h))
  ·have hb:P≠a:=fun z=>haT (z ▸ hP)
   exact (if_neg hb).trans (if_pos hP)
  ·by_cases hb:b=a
   ·have z':=(if_pos hb).symm.trans z
    cases z'
    subst hb
    exact ⟨ha,by rw [TX];exact hl,vs,_,rv,ha⟩
   ·have z1:=(if_neg hb).symm.trans z
    by_cases h:b∈ts
    ·have z':=(if_pos h).symm.trans z1
     cases z'
     exact hts b h
    ·have z':=(if_neg h).symm.trans z1
     cases z'
  ·by_cases hb:b=a
   ·exact .inl hb
   ·by_cases h:b∈ts
    ·exact .inr h
    ·exact absurd ((if_neg hb).trans (if_neg h)) z
theorem QW {l:PySem.W.OpenLaw}{n k:Nat}{q:Program}{loose:List Str}{XP:(Str->Option Value)->Heap->Prop}{YP:World->Heap->Prop}{d:DefRec}{K:Params->PySem.W.Frag}{CX:World->CXT}{sp:World->Sp}{x:Str}{ts:List Addr}
  (hn:l.most=some n)(hn2:n<=sizeLine)(hdf:d.params.defaults=[])(hr:tO k callerA)
  (hY:∀ (w:World)(h:Heap),YP w h->(K w.params).In h)(hYt:∀ (w:World)(h:Heap),YP w h->∀ P∈ts,h.get? P=some (tabObj #[]))
  (hts:∀ (w:World),∀ P∈ts,(K w.params).lookup P=none/\∃ c,codeHdIn (K w.params) c P=true)
  (F:∀ (w:World)(mg:Str->Option Value)(fa:Addr)(h:Heap),(K w.params).In h->h.Ns mainGlobals mg->mg d.name=some (.ref fa) ->
   ∃ fd:FuncData,(∀ (s:Shared)(u:Value),BindsTo s fd ⟨[u],[]⟩ [(x,u)]) /\
    ∀ base:Heap,(K w.params).In base->base.Ns mainGlobals mg->BM mg base->G9 l.prog w (K w.params) mg base (CX w) k fa fd [x] (sp w))
  (hsp:∀ (w:World)(H:Hp)(a:Addr)(ns:List Int),ns.length<=n->aaf ts H->(∀ P∈ts,H P=some (.tbl #[]))->SqL (K w.params) H a (ns.map V.int)->sp w [.ref a] H (fun v _=>v=.bl true) fun _ _ _=>False)
  (hCX:∀ (w:World)(H:Hp)(s:Shared)(e:Value)(s':Shared),CX w [] H s (fun _ _ _=>False) e s'->False):
  PySem.W.WalkO q loose XP YP l.row.toRowW d [] (fun f vs=>PySem.call f vs):=by
 refine Att.Ij hn hdf fun w s₀ s₁ mg mb fa o pm cd doc a vs ns G Y ho hd hcd hmg hobj hints hlen hg=>?_
 have KX:=hY w _ Y
 obtain ⟨fd,hb,hF⟩:=F w mg fa _ KX G.T.g hmg
 refine Oh KX G.T.g G.T.b G.T.builtins G.T.nolimit hg hobj hints (aeP hlen hn2) hr (hYt w _ Y) (fun P hP=>(hts w P hP).1) (fun P hP=>?_) G.T.bmain hF hb (fun H hO hT hS=>hsp w H a ns hlen hO hT hS) fun H e s'=>hCX w H s₁ e s'
 obtain ⟨c,hc⟩:=(hts w P hP).2
 obtain ⟨o,vs,file,tf,flags,tg,inF,text,tt,e1,e2,e3,e4,_⟩:=codeHd_of_K KX hc
 exact ⟨c,o,vs,e1,e2,e3,e4⟩
end L2
namespace L2
open PySem PySem.Spec PyProof.Rows
mutual
inductive Den (K:PySem.W.Frag)(H:Hp):V->PyData->Prop
 | non:Den K H .non .none
 | bl (b:Bool):Den K H (.bl b) (.bool b)
 | int (i:Int):Den K H (.int i) (.int i)
 | str (x:Str):Den K H (.str x) (.str x)
 | list {a:Addr} {xs:List V} {ds:List PyData}:SqL K H a xs->bT K H xs ds->Den K H (.ref a) (.list ds)
 | tuple {a:Addr} {xs:List V} {ds:List PyData}:SqT K H a xs->bT K H xs ds->Den K H (.ref a) (.tuple ds)
inductive bT (K:PySem.W.Frag)(H:Hp):List V->List PyData->Prop
 | nil:bT K H [] []
 | cons {v:V} {vs:List V} {d:PyData} {ds:List PyData}:Den K H v d->bT K H vs ds->bT K H (v::vs) (d::ds)
end
theorem bT.length {K:PySem.W.Frag}{H:Hp}:∀ {vs:List V}{ds:List PyData},bT K H vs ds->vs.length=ds.length
 | _,_,.nil=>rfl
 | _,_,.cons _ hs=>by rw [ael,ael,bT.length hs]
theorem bT.append {K:PySem.W.Frag}{H:Hp}:∀ {vs ws:List V}{ds es:List PyData},bT K H vs ds->bT K H ws es->bT K H (vs++ws) (ds++es)
 | _,_,_,_,.nil,h=>h
 | _,_,_,_,.cons h hs,h'=>.cons h (bT.append hs h')
theorem bT.get {K:PySem.W.Frag}{H:Hp}:∀ {vs:List V}{ds:List PyData}{i:Nat}{d:PyData},bT K H vs ds->ds[i]?=some d->∃ v,vs[i]?=some v/\Den K H v d
 | _,_,_,_,.nil,e=>by simp at e
 | _,_,0,_,.cons h _,e=>by simp at e;subst e;exact ⟨_,rfl,h⟩
 | _,_,i+1,d,.cons _ hs,e=>by
  obtain ⟨v,h1,h2⟩:=bT.get (i:=i) (d:=d) hs (by simpa using e);exact ⟨v,by simpa using h1,h2⟩
theorem bT.get' {K:PySem.W.Frag}{H:Hp}:∀ {vs:List V}{ds:List PyData}{i:Nat}{v:V},bT K H vs ds->vs[i]?=some v->∃ d,ds[i]?=some d/\Den K H v d
 | _,_,_,_,.nil,e=>by simp at e
 | _,_,0,_,.cons h _,e=>by simp at e;subst e;exact ⟨_,rfl,h⟩
 | _,_,i+1,v,.cons _ hs,e=>by
  obtain ⟨d,h1,h2⟩:=bT.get' (i:=i) (v:=v) hs (by simpa using e);exact ⟨d,by simpa using h1,h2⟩
theorem bT.set {K:PySem.W.Frag}{H:Hp}{v:V}{d:PyData}(h:Den K H v d):∀ {vs:List V}{ds:List PyData}(i:Nat),bT K H vs ds->bT K H (vs.set i v) (ds.set i d)
 | _,_,_,.nil=>.nil
 | _,_,0,.cons _ hs=>.cons h hs
 | _,_,i+1,.cons q hs=>.cons q (bT.set h i hs)
theorem bT.ints {K:PySem.W.Frag}{H:Hp}:∀ (ns:List Int),bT K H (ns.map V.int) (ns.map PyData.int)
 | []=>.nil
 | n::ns=>.cons (.int n) (bT.ints ns)
def tV (ns:List Int):PyData:=.list (ns.map PyData.int)
theorem Den.ints {K:PySem.W.Frag}{H:Hp}{a:Addr}{ns:List Int}(h:SqL K H a (ns.map V.int)):Den K H (.ref a) (tV ns):=.list h (bT.ints ns)
theorem bT.int_inv {K:PySem.W.Frag}{H:Hp}:∀ {vs:List V}{ns:List Int},bT K H vs (ns.map PyData.int)->vs=ns.map V.int
 | _,[],.nil=>rfl
 | _,n::ns,.cons h hs=>by
  cases h;rw [bT.int_inv hs];rfl
theorem Den.zy {K:PySem.W.Frag}{H:Hp}{v:V}{ns:List Int}(h:Den K H v (tV ns)):∃ a,v=.ref a/\SqL K H a (ns.map V.int):=by
 cases h with
 | list h hs=>exact ⟨_,rfl,by rw [<- bT.int_inv hs];exact h⟩
section
variable {X:Cx}{pins:List (Addr × Obj)}{σ:St}{H:Hp}{s:Shared}
mutual
theorem Den.reads (I:Inv X pins σ H s):∀ {v:V}{d:PyData}{u:Value},Den X.K H v d->RelV v u->∃ as,Reads s.heap u d as
 | _,_,_,.non,r=>by cases r;exact ⟨_,.none⟩
 | _,_,_,.bl b,r=>by cases r;exact ⟨_,.bool b⟩
 | _,_,_,.int i,r=>by obtain ⟨t,rfl⟩:=r;exact ⟨_,.int i t⟩
 | _,_,_,.str x,r=>by obtain ⟨t,rfl⟩:=r;exact ⟨_,.str x t⟩
 | _,_,_,.list h hs,r=>by
  cases r;obtain ⟨its,r1,⟨o,n,e,c,_,d⟩,_⟩:=I.list h;obtain ⟨as,q⟩:=bT.reads I hs r1;exact ⟨_,.list e c d (by simpa using q)⟩
 | _,_,_,.tuple h hs,r=>by
  cases r;obtain ⟨its,r1,⟨o,e,c,n,d⟩,_⟩:=I.tuple h;obtain ⟨as,q⟩:=bT.reads I hs r1;exact ⟨_,.tuple e c d (by simpa using q)⟩
theorem bT.reads (I:Inv X pins σ H s):∀ {vs:List V}{ds:List PyData}{us:List Value},bT X.K H vs ds->Vals vs us->∃ as,ReadsAll s.heap us ds as
 | _,_,_,.nil,r=>by cases r;exact ⟨_,.nil⟩
 | _,_,_,.cons h hs,r=>by
  cases r with
  | cons r1 r2 =>
   obtain ⟨as,q⟩:=Den.reads I h r1;obtain ⟨bs,q'⟩:=bT.reads I hs r2;exact ⟨_,.cons q q'⟩
end
def rEqD (K:PySem.W.Frag)(neg:Bool):R2:=fun x y H Q=>∃ d e,Den K H x d/\Den K H y e/\SeqAt.shaped d=true/\SeqAt.shaped e=true/\Q (.bl (if neg then !PyData.eqv d e else PyData.eqv d e)) H
theorem Nq (hu:X.A.units+64<cLine):OpR X (compareOp .NotEq) (rEqD X.K true):=by
 intro pins s σ H x y v u Q I rx ry h;obtain ⟨d,e,hd,he,sd,se,q⟩:=h;obtain ⟨as,ra⟩:=hd.reads I rx;obtain ⟨bs,rb⟩:=he.reads I ry;exact SeqAt.compareNe_shaped ra rb sd se hu ⟨.bl _,H,I,rfl,q⟩
end
def Sh (n:Nat)(d:PyData):Prop:=d.canLay0=true/\d.depth<=n
theorem Qs:∀ {ds:List PyData},(∀ d∈ds,d.canLay0=true)->PyData.canLayAll0 ds=true
 | [],_=>rfl
 | d::ds,h=>by rw [PyData.canLayAll0,h d aeu,Qs fun x hx=>h x (aej _ hx)];rfl
theorem Qc {n:Nat}:∀ {ds:List PyData},(∀ d∈ds,d.depth<=n)->PyData.depthAll ds<=n
 | [],_=>by simp [PyData.depthAll]
 | d::ds,h=>by
  have h1:=h d aeu;have h2:=Qc fun x hx=>h x (aej _ hx);simp only [PyData.depthAll];omega
theorem Sh.int (n:Nat)(i:Int):Sh n (.int i):=⟨rfl,by simp [PyData.depth]⟩
theorem Sh.list {n:Nat}{ds:List PyData}(h:∀ d∈ds,Sh n d):Sh (n+1) (.list ds):=⟨by rw [PyData.canLay0];exact Qs fun d hd=>(h d hd).1,by
 have:=Qc fun d hd=>(h d hd).2;simp only [PyData.depth];omega⟩
theorem Sh.tuple {n:Nat}{ds:List PyData}(h:∀ d∈ds,Sh n d):Sh (n+1) (.tuple ds):=⟨by rw [PyData.canLay0];exact Qs fun d hd=>(h d hd).1,by
 have:=Qc fun d hd=>(h d hd).2;simp only [PyData.depth];omega⟩
theorem Sh.ints (n:Nat)(ns:List Int):Sh (n+1) (tV ns):=.list fun d hd=>by
 obtain ⟨i,_,rfl⟩:=aep.mp hd;exact .int n i
theorem Sh.ok {n:Nat}{d:PyData}(h:Sh n d)(hn:n<=64):SeqAt.shaped d=true:=by
 unfold SeqAt.shaped;rw [h.1,decide_eq_true (by have:=h.2;omega)];rfl
theorem JX {n:Nat}{d:PyData}(h:Sh n d):PyData.eqv d d=true:=SeqAt.eqv_refl d h.1
abbrev dY:=List (Addr × Pos × Str)
def TabsOk (T:dY)(H:Hp):Prop:=∀ t∈T,TabOk t.1 t.2.1 t.2.2 H
structure aN (T:dY)(H H':Hp):Prop where
 t0:TabsOk T H
 t1:TabsOk T H'
 keep:∀ b o,H b=some o->(∀ ps,o≠.tbl ps)->H' b=some o
 tb:∀ b ps,H b=some (.tbl ps)->∃ ps',H' b=some (.tbl ps')
theorem TabsOk.mono {T:dY}{H H':Hp}(t:TabsOk T H)(s:Same H H'):TabsOk T H':=fun q hq=>by
 rcases t q hq with e| ⟨c,e1,e2⟩
 ·exact .inl (s _ _ e)
 ·exact .inr ⟨c,s _ _ e1,s _ _ e2⟩
theorem aN.refl {T:dY}{H:Hp}(t:TabsOk T H):aN T H H:=⟨t,t,fun _ _ h _=>h,fun _ ps h=>⟨ps,h⟩⟩
theorem aN.of {T:dY}{H H':Hp}(t:TabsOk T H)(s:Same H H'):aN T H H':=⟨t,t.mono s,fun b o h _=>s b o h,fun b ps h=>⟨ps,s _ _ h⟩⟩
theorem aN.trans {T:dY}{H H1 H2:Hp}(a:aN T H H1)(b:aN T H1 H2):aN T H H2:=⟨a.t0,b.t1,fun c o h n=>b.keep c o (a.keep c o h n) n,fun c ps h=>by
 obtain ⟨ps',e⟩:=a.tb c ps h;exact b.tb c ps' e⟩
theorem aN.free {T:dY}{H H':Hp}(a:aN T H H'){l:Addr}(h:H' l=none):H l=none:=by
 cases q:H l with
 | none=>rfl
 | some o =>
  have key:(∃ ps,o=.tbl ps)\/∀ ps,o≠.tbl ps:=by
   cases o with
   | tbl ps=>exact .inl ⟨ps,rfl⟩
   | _=>exact .inr fun _ z=>by cases z
  rcases key with ⟨ps,rfl⟩ | n
  ·obtain ⟨ps',e⟩:=a.tb l ps q;rw [h] at e;cases e
  ·have:=a.keep l o q n;rw [h] at this;cases this
theorem aN.seq {T:dY}{K:PySem.W.Frag}{H H':Hp}{a:Addr}{xs:List V}(e:aN T H H')(h:SqL K H a xs):SqL K H' a xs:=by
 rcases h with (h| ⟨o,h⟩) | h
 ·exact .inl (.inl (e.keep _ _ h fun _ z=>by cases z))
 ·exact .inl (.inr ⟨o,e.keep _ _ h fun _ z=>by cases z⟩)
 ·exact .inr h
theorem aN.acR {T:dY}{K:PySem.W.Frag}{H H':Hp}{a:Addr}{xs:List V}(e:aN T H H')(h:SqT K H a xs):SqT K H' a xs:=by
 rcases h with (h| ⟨o,h⟩) | h
 ·exact .inl (.inl (e.keep _ _ h fun _ z=>by cases z))
 ·exact .inl (.inr ⟨o,e.keep _ _ h fun _ z=>by cases z⟩)
 ·exact .inr h
mutual
theorem Den.Bm {T:dY}{K:PySem.W.Frag}{H H':Hp}(e:aN T H H'):∀ {v:V}{d:PyData},Den K H v d->Den K H' v d
 | _,_,.non=>.non
 | _,_,.bl b=>.bl b
 | _,_,.int i=>.int i
 | _,_,.str x=>.str x
 | _,_,.list h hs=>.list (e.seq h) (bT.Bm e hs)
 | _,_,.tuple h hs=>.tuple (e.acR h) (bT.Bm e hs)
theorem bT.Bm {T:dY}{K:PySem.W.Frag}{H H':Hp}(e:aN T H H'):∀ {vs:List V}{ds:List PyData},bT K H vs ds->bT K H' vs ds
 | _,_,.nil=>.nil
 | _,_,.cons h hs=>.cons (Den.Bm e h) (bT.Bm e hs)
end
def tX (T:dY)(H:Hp)(P:List V->Prop)(Q:VK):Prop:=∀ (l:Addr)(H':Hp)(xs:List V),aN T H H'->H l=none->H' l=some (.lst xs)->P xs->Q (.ref l) H'
def pI:HO->Bool
 | .tbl _=>false
 | .ext _=>false
 | _=>true
structure Ow (T:dY)(H0 H:Hp)(L:List (Addr × HO)):Prop where
 same:aN T H0 H
 new:∀ p∈L,H0 p.1=none
 at_:∀ p∈L,H p.1=some p.2
 pl:∀ p∈L,pI p.2=true
 nd:(L.map (·.1)).Nodup
section
variable {T:dY}{H0 H1 H H':Hp}{L L':List (Addr × HO)}{a l:Addr}{o o':HO}{xs:List V}
theorem Ow.refl (t:TabsOk T H):Ow T H H []:=⟨aN.refl t,(fun p hp=>nomatch hp),(fun p hp=>nomatch hp),(fun p hp=>nomatch hp),List.nodup_nil⟩
theorem Ow.get (O:Ow T H0 H L)(k:Nat)(h:L[k]?=some (a,o):=by rfl):H a=some o:=O.at_ _ (ad1 h)
theorem Ow.fr (O:Ow T H0 H L)(k:Nat)(h:L[k]?=some (a,o):=by rfl):H0 a=none:=O.new _ (ad1 h)
theorem Ow.sq {K:PySem.W.Frag}(O:Ow T H0 H L)(k:Nat)(h:L[k]?=some (a,.lst xs):=by rfl):SqL K H a xs:=SqL.of (O.get k h)
theorem Ow.sqT {K:PySem.W.Frag}(O:Ow T H0 H L)(k:Nat)(h:L[k]?=some (a,.tup xs):=by rfl):SqT K H a xs:=SqT.of (O.get k h)
theorem TabOk.upd {P:Addr}{pos:Pos}{q:Str}(t:TabOk P pos q H)(h:H a=none\/∃ o,H a=some o/\pI o=true):TabOk P pos q (L2.upd H a o'):=by
 have ne:∀ b u,H b=some u->pI u=false->b≠a:=fun b u e p z=>by
  subst z;rcases h with h| ⟨o,h,ho⟩
  ·rw [h] at e;cases e
  ·rw [h] at e;cases e;rw [ho] at p;cases p
 rcases t with e| ⟨c,e1,e2⟩
 ·exact .inl (by rw [aL (ne _ _ e rfl)];exact e)
 ·exact .inr ⟨c,by rw [aL (ne _ _ e1 rfl)];exact e1,by rw [aL (ne _ _ e2 rfl)];exact e2⟩
theorem aN.upd (s:aN T H0 H)(h:H0 a=none)(h':H a=none\/∃ o,H a=some o/\pI o=true):aN T H0 (L2.upd H a o'):=
 ⟨s.t0,fun t ht=>(s.t1 t ht).upd h',fun b u e n=>by rw [aL (aV e h)];exact s.keep b u e n,fun b ps e=>by rw [aL (aV e h)];exact s.tb b ps e⟩
theorem Ow.mk' (O:Ow T H0 H L)(h:H a=none)(ho:pI o=true):Ow T H0 (upd H a o) ((a,o)::L):=by
 have ne:∀ p∈L,p.1≠a:=fun p hp=>aV (O.at_ p hp) h;have n0:H0 a=none:=O.same.free h;refine ⟨O.same.upd n0 (.inl h),fun p hp=>?_,fun p hp=>?_,fun p hp=>?_,?_⟩
 ·rcases aen.mp hp with e| e
  ·rw [e];exact n0
  ·exact O.new p e
 ·rcases aen.mp hp with e| e
  ·rw [e];exact aR
  ·rw [aL (ne p e)];exact O.at_ p e
 ·rcases aen.mp hp with e| e
  ·rw [e];exact ho
  ·exact O.pl p e
 ·rw [aey,ae5];refine ⟨fun hm=>?_,O.nd⟩;obtain ⟨p,hp,e⟩:=aep.mp hm;exact ne p hp e
theorem MF:∀ {L:List (Addr × HO)}{k:Nat}{a:Addr}{o o':HO},L[k]?=some (a,o)->(L.set k (a,o')).map (·.1)=L.map (·.1)
 | [],_,_,_,_,h=>by simp at h
 | p::L,0,a,o,o',h=>by
  have:p=(a,o):=by simpa using h
  rw [this];rfl
 | p::L,k+1,a,o,o',h=>by
  rw [afs,aey,aey,MF (L:=L) (k:=k) (o:=o) (by simpa using h)]
theorem Ow.aci (O:Ow T H0 H L)(k:Nat)(h:L[k]?=some (a,o))(ho:pI o'=true):Ow T H0 (upd H a o') (L.set k (a,o')):=by
 have hm0:=ad1 h;have n0:H0 a=none:=O.new _ hm0;have hk:k<L.length:=(acp.mp h).1;refine ⟨O.same.upd n0 (.inr ⟨o,O.at_ _ hm0,O.pl _ hm0⟩),fun p hp=>?_,fun p hp=>?_,fun p hp=>?_,by rw [MF h];exact O.nd⟩
 ·rcases afA hp with e| e
  ·exact O.new p e
  ·rw [e];exact n0
 ·obtain ⟨j,hj,e⟩:=aew hp;by_cases hjk:j=k
  ·subst hjk;rw [List.getElem_set_self] at e;rw [<- e];exact aR
  ·rw [List.getElem_set_ne (Ne.symm hjk)] at e;have hj':j<L.length:=by rw [aeV] at hj;exact hj
   have hm:p∈L:=by rw [<- e];exact aeQ hj'
   rw [aL]
   ·exact O.at_ p hm
   ·intro z;have e1:(L.map (·.1))[j]?=some p.1:=by rw [ad5,adW hj',e];rfl
    have e2:(L.map (·.1))[k]?=some a:=by rw [ad5,h];rfl
    rw [z] at e1;obtain ⟨a1,a2⟩:=acp.mp e1;obtain ⟨b1,b2⟩:=acp.mp e2;exact hjk ((afb O.nd).mp (a2.trans b2.symm))
 ·rcases afA hp with e| e
  ·exact O.pl p e
  ·rw [e];exact ho
theorem Ng {o:HO}(h:pI o=true):∀ ps,o≠.tbl ps:=fun ps z=>by rw [z] at h;cases h
theorem Ow.vL (O:Ow T H0 H L)(s:aN T H H'):Ow T H0 H' L:=⟨O.same.trans s,O.new,fun p hp=>s.keep _ _ (O.at_ p hp) (Ng (O.pl p hp)),O.pl,O.nd⟩
theorem Ow.abp (O:Ow T H0 H L)(s:aN T H H')(n:H l=none)(h:H' l=some o)(ho:pI o=true):Ow T H0 H' ((l,o)::L):=by
 have O2:=O.vL s;refine ⟨O2.same,fun p hp=>?_,fun p hp=>?_,fun p hp=>?_,?_⟩
 ·rcases aen.mp hp with e| e
  ·rw [e];exact O.same.free n
  ·exact O.new p e
 ·rcases aen.mp hp with e| e
  ·rw [e];exact h
  ·exact O2.at_ p e
 ·rcases aen.mp hp with e| e
  ·rw [e];exact ho
  ·exact O.pl p e
 ·rw [aey,ae5];refine ⟨fun hm=>?_,O.nd⟩;obtain ⟨p,hp,e⟩:=aep.mp hm;exact aV (O.at_ p hp) n e
theorem Ow.more (O:Ow T H0 H L)(s:Same H H')(n:H l=none)(h:H' l=some o)(ho:pI o=true):Ow T H0 H' ((l,o)::L):=O.abp (aN.of O.same.t1 s) n h ho
theorem Ow.sub (O:Ow T H0 H L)(h:L'.Sublist L):Ow T H0 H L':=⟨O.same,fun p hp=>O.new p (h.subset hp),fun p hp=>O.at_ p (h.subset hp),fun p hp=>O.pl p (h.subset hp),O.nd.sublist (h.map _)⟩
theorem Ow.perm (O:Ow T H0 H L)(h:L'.Perm L):Ow T H0 H L':=⟨O.same,fun p hp=>O.new p (h.mem_iff.mp hp),fun p hp=>O.at_ p (h.mem_iff.mp hp),fun p hp=>O.pl p (h.mem_iff.mp hp),(h.map _).nodup_iff.mpr O.nd⟩
theorem Ow.tail {p:Addr × HO}(O:Ow T H0 H (p::L)):Ow T H0 H L:=O.sub (ae0 _ _)
theorem Ow.two {p q:Addr × HO}(O:Ow T H0 H (p::q::L)):Ow T H0 H (p::L):=O.sub ((ae0 _ _).cons₂ _)
theorem Ow.base (O:Ow T H0 H L)(s:aN T H1 H0):Ow T H1 H L:=⟨s.trans O.same,fun p hp=>s.free (O.new p hp),O.at_,O.pl,O.nd⟩
theorem Ow.reb (O:Ow T H0 H L):∃ H1,Ow T H1 H L/\aN T H0 H1/\∀ b o,H b=some o->(∀ p∈L,p.1≠b)->H1 b=some o:=by
 have keep:∀ b u,H b=some u->(∀ p∈L,p.1≠b)->(fun b=>if b∈L.map (·.1) then none else H b:Hp) b=some u:=fun b u e h=>by
  show (if b∈L.map (·.1) then none else H b)=some u
  rw [if_neg fun hm=>?_];· exact e
  obtain ⟨p,hp,z⟩:=aep.mp hm
  exact h p hp z
 have back:∀ b u,(fun b=>if b∈L.map (·.1) then none else H b:Hp) b=some u->H b=some u:=fun b u e=>by
  dsimp only at e
  split at e
  ·cases e
  ·exact e
 have npl:∀ b u,H b=some u->pI u=false->∀ p∈L,p.1≠b:=fun b u e h p hp z=>by
  have:=O.at_ p hp
  rw [z,e] at this
  have e':u=p.2:=aek this
  rw [e',O.pl p hp] at h;cases h
 have tk:TabsOk T (fun b=>if b∈L.map (·.1) then none else H b):=fun t ht=>by
  rcases O.same.t1 t ht with e| ⟨c,e1,e2⟩
  ·exact .inl (keep _ _ e (npl _ _ e rfl))
  ·exact .inr ⟨c,keep _ _ e1 (npl _ _ e1 rfl),keep _ _ e2 (npl _ _ e2 rfl)⟩
 refine ⟨fun b=>if b∈L.map (·.1) then none else H b,⟨⟨tk,O.same.t1,fun b u e _=>back b u e,fun b ps e=>⟨ps,back _ _ e⟩⟩,fun p hp=>?_,O.at_,O.pl,O.nd⟩,⟨O.same.t0,tk,fun b u e n=>?_,fun b ps e=>?_⟩,keep⟩
 ·exact if_pos (aep.mpr ⟨p,hp,rfl⟩)
 ·refine keep b u (O.same.keep b u e n) fun p hp z=>?_
  rw [<- z,O.new p hp] at e;cases e
 ·obtain ⟨ps',e'⟩:=O.same.tb b ps e
  exact ⟨ps',keep _ _ e' (npl _ _ e' rfl)⟩
theorem wu {i:Int}{j:Nat}{v:V}{Q:Hp->Prop}(O:Ow T H0 H L)(k:Nat)(h:L[k]?=some (l,.lst xs))(hi:ixN xs.length i=some j)(q:∀ H',Ow T H0 H' (L.set k (l,.lst (xs.set j v)))->Q H'):aaM (.ref l) (.int i) v H Q:=
 ⟨l,xs,i,j,rfl,rfl,O.get k h,hi,q _ (O.aci k h rfl)⟩
theorem Ow.ret {P:List V->Prop}{Q:VK}(O:Ow T H0 H L)(k:Nat)(h:L[k]?=some (l,.lst xs))(q:tX T H0 P Q)(p:P xs):Q (.ref l) H:=q l H xs O.same (O.fr k h) (O.get k h) p
theorem Ow.got {P:List V->Prop}{Q:VK}(O:Ow T H0 H L)(k:∀ l H' xs,Ow T H0 H' ((l,.lst xs)::L)->P xs->Q (.ref l) H'):aap H P Q:=fun l H' xs s n h p=>k l H' xs (O.more s n h rfl) p
theorem Ow.Bt {P:List V->Prop}{Q:VK}(O:Ow T H0 H L)(k:∀ l H' xs,Ow T H0 H' ((l,.lst xs)::L)->P xs->Q (.ref l) H'):tX T H P Q:=fun l H' xs s n h p=>k l H' xs (O.abp s n h rfl) p
end
end L2
namespace L2
open PySem PySem.W PySem.Spec PyProof.Rows
theorem szl {n:Nat}(h:Nat.ble n 100000=true:=by rfl):n<=sizeLine:=iI (Nat.le_of_ble_eq_true h)
theorem DN (p:Int)(ns:List Int):inV (.int p) (ns.map V.int)=decide (p∈ns):=by
 unfold inV;rw [List.any_map,aeZ];simp only [List.any_eq_true,decide_eq_true_eq];constructor
 ·rintro ⟨x,hx,e⟩;have e':(x ==p)=true:=e;have:x=p:=by simpa using e'
  rw [<- this];exact hx
 ·intro h;exact ⟨p,h,show (p ==p)=true by simp⟩
theorem wF (ns:List Int):(ns.map V.int).all Ef=true:=by
 rw [List.all_map,aeT];intro _ _;rfl
theorem Fun.okC {P:Program}{w:World}{K:PySem.W.Frag}{mg:Str->Option Value}{base:Heap}{x qual:Str}{st:Stmt}{f:Addr}{fd:FuncData}{N ps:List Str}{k:Nat}{sp:Sp}{c:Value}(F:Fun K x qual st f fd)(hc:fd.code=c)(S:aH N ps (ao st))(len:∀ vs H Q E,sp vs H Q E->vs.length=ps.length)
  (hbody:∀ (A:Around)(outer:List Env)(s:Shared)(H:Hp)(vs:List V)(Q:VK)(E:XK),tO k (A.deeper (envOfC qual (ao st) s.heap.objs.size f c))->sp vs H Q E ->
   ∃ t,PSs (Qi CX0 P w K mg base N qual (ao st) f c A outer s H E).nox (dM st) t/\t { nx:=fun _ H'=>Q .non H',rt:=Q } (start N vs) H):G9 P w K mg base CX0 (k+1) f fd ps sp:=by
 obtain ⟨oc,od,kV,doc,pm,an,cdv,ct,osl,rfl,lk,hcd⟩:=F.ex;have e:cdv=c:=hc;subst e;refine Sq lk hcd S len fun A outer s H vs Q E hr hsp=>?_;obtain ⟨t,h,q⟩:=hbody A outer s H vs Q E hr hsp;exact ⟨t,h.nox,q⟩
theorem JL {k:Nat}{A XA:Around}{env:Env}(r:tO (k+2) XA)(hh:A.handled=none)(hd:A.depth<=XA.depth+2)(hu:A.units<=XA.units+2):tO k (A.deeper env):=
 ⟨hh,by have:=r.dp;show A.depth+1+3*k+5<_;omega,by have:=r.un;show A.units+3+16*k+200<_;omega⟩
theorem JM {A:Around}(r:tO 1 A):A.depth+4<recursionLimit:=by have:=r.dp;omega
theorem aN.tab {T:dY}{H H2:Hp}{P:Addr}{pos:Pos}{q:Str}(t:TabsOk T H)(hm:(P,pos,q)∈T)(nd:(T.map (·.1)).Nodup)(k1:∀ b o,H b=some o->b≠P->H2 b=some o)(t2:TabOk P pos q H2):aN T H H2:=by
 have hP:∃ ps,H P=some (.tbl ps):=by
  rcases t _ hm with e| ⟨c,e,_⟩
  ·exact ⟨_,e⟩
  ·exact ⟨_,e⟩
 obtain ⟨ps0,hP⟩:=hP;have hP2:∃ ps,H2 P=some (.tbl ps):=by
  rcases t2 with e| ⟨c,e,_⟩
  ·exact ⟨_,e⟩
  ·exact ⟨_,e⟩
 refine ⟨t,fun u hu=>?_,fun b o e n=>k1 b o e fun z=>?_,fun b ps e=>?_⟩
 ·by_cases hb:u.1=P
  ·have:u=(P,pos,q):=by
    obtain ⟨i,hi,ei⟩:=aew hu;obtain ⟨j,hj,ej⟩:=aew hm;have e1:(T.map (·.1))[i]?=some P:=by rw [ad5,adW hi,ei,<- hb];rfl
    have e2:(T.map (·.1))[j]?=some P:=by rw [ad5,adW hj,ej];rfl
    obtain ⟨a1,a2⟩:=acp.mp e1;obtain ⟨b1,b2⟩:=acp.mp e2;have hij:i=j:=(afb nd).mp (a2.trans b2.symm);subst hij;rw [<- ei,<- ej]
   rw [this];exact t2
  ·rcases t u hu with e| ⟨c,e1,e2⟩
   ·exact .inl (k1 _ _ e hb)
   ·exact .inr ⟨c,k1 _ _ e1 hb,k1 _ _ e2 fun z=>by rw [z,hP] at e2;cases e2⟩
 ·subst z;rw [hP] at e;cases e;exact n ps0 rfl
 ·by_cases hb:b=P
  ·rw [hb];exact hP2
  ·exact ⟨ps,k1 _ _ e hb⟩
section
variable {X:Cx}
theorem pA (hc:X.calm=true):vM X (.builtin "sum") (fun xs H Q=>∃ (p:Addr)(ns:List Int),xs=[.ref p]/\SqL X.K H p (ns.map V.int)/\Q (.int ns.sum) H):=by
 intro pins s σ H xs us Q I r h;obtain ⟨p,ns,rfl,hq,q⟩:=h;obtain ⟨u,rfl,ru⟩:=vals1 r;cases ru;obtain ⟨its,r1,p1,hz⟩:=I.list hq;have hi:IntsAre its ns:=intsAre_of r1;obtain ⟨ys,hx⟩:=hi.allInts.items;have hl':s.heap.IsList p (intItems ys):=hx ▸ p1.isList;refine sum_intListG (I.ok.hd hc) hl' fun h' tk t' hk=>?_;have e1:ns=ys.toList.map (·.1):=by
  rw [<- nums_intItems,<- hx];exact (show numsOf its.toArray.toList=ns from hi.numsOf).symm
 have e2:preSum (numAt ys) ys.size=ns.sum:=by
  rw [preSum_eq,ad8 (by simp),e1]
 rw [e2];exact ⟨.int ns.sum,H,I.kept hk,⟨t',rfl⟩,q⟩
theorem Ah:∀ ns ms:List Int,PyData.eqvAll (ns.map PyData.int) (ms.map PyData.int)=decide (ns=ms)
 | [],[]=>by simp [PyData.eqvAll]
 | [],_::_=>by simp [PyData.eqvAll]
 | _::_,[]=>by simp [PyData.eqvAll]
 | n::ns,m::ms=>by
  rw [aey,aey,PyData.eqvAll,Ah ns ms];have e:PyData.eqv (.int n) (.int m)=decide (n=m):=by
   rw [PyData.eqv];rfl
  rw [e,aeZ];simp
theorem Ss (ns ms:List Int):PyData.eqv (tV ns) (tV ms)=decide (ns=ms):=by
 unfold tV;rw [PyData.eqv];exact Ah ns ms
theorem aaW (hu:X.A.units+64<cLine):OpR X (compareOp .NotEq) (rEqL X.K true):=by
 intro pins s σ H x y v u Q I rx ry h;obtain ⟨a,b,ns,ms,rfl,rfl,ha,hb,q⟩:=h;refine Nq hu pins s σ H _ _ v u Q I rx ry ⟨_,_,Den.ints ha,Den.ints hb,(Sh.ints 0 ns).ok (by decide),(Sh.ints 0 ms).ok (by decide),?_⟩;rw [Ss];exact q
def aaN (K:PySem.W.Frag):V->List V->Hp->VK->Prop:=fun x vs H Q=>∃ (l:Addr)(ns:List Int)(k:Int),x=.ref l/\vs=[.int k]/\SqL K H l (ns.map V.int)/\k∈ns/\Q (.int (ns.idxOf k:Nat)) H
theorem RL:MtR X "list.index" (aaN X.K):=by
 intro pins s σ H x vs v us Q I rx rv h;obtain ⟨l,ns,k,rfl,rfl,hq,hk,q⟩:=h;cases rx;obtain ⟨u,rfl,t,rfl⟩:=vals1 rv;obtain ⟨its,r1,p1,hz⟩:=I.list hq;have hi:IntsAre its ns:=intsAre_of r1;obtain ⟨⟨cls,dd,data,sl⟩,ho,hc,n,hd⟩:=id p1.isList;simp only at hc hd;subst hc hd;have hlen:=hi.length;have hj:ns.idxOf k<ns.length:=List.idxOf_lt_length_iff.mpr hk;have hn:=wB;rw [TX] at hz;refine call_meets PySem.F.slot_list_index ⟨_,ho,rfl⟩ PySem.F.entry_list_index (PySem.F.args_list_index_2 _ _)
  (SeqAt.list_indexAt l its.toArray n dd sl (.int k t) (isInt k) (ns.idxOf k) (by simpa [hlen] using hj) (by omega) ?_ ?_) ⟨ho,fun y hy=>(eq_isInt k t hi y (by simpa using hy)).at _ _,?_⟩
 ·show isInt k its[ns.idxOf k]=true;rw [isInt_at k hi _ (by omega) hj];simpa using List.getElem_idxOf hj
 ·intro j hjs hlt;show isInt k its[j]=false;rw [isInt_at k hi j (by simpa using hjs) (by omega)];exact ne_of_lt_idxOf hlt _
 ·exact ⟨.int (ns.idxOf k:Nat),H,I.tok _,⟨_,rfl⟩,q⟩
end
section
variable {T:dY}{H0 H:Hp}{L:List (Addr × HO)}{l:Addr}{xs:List V}
theorem Ow.mkE {a:Addr}{o:HO}{H':Hp}(O:Ow T H0 H L)(h:H a=none)(e:upd H a o=H')(ho:pI o=true):Ow T H0 H' ((a,o)::L):=e ▸ O.mk' h ho
theorem Ow.uc {a:Addr}{o o':HO}{H':Hp}(O:Ow T H0 H L)(k:Nat)(h:L[k]?=some (a,o))(e:upd H a o'=H')(ho:pI o'=true):Ow T H0 H' (L.set k (a,o')):=e ▸ O.aci k h ho
end
def dMv (m:Int × Int × Int):PyData:=.tuple [.int m.1,.int m.2.1,.int m.2.2]
def adR (ms:List (Int × Int × Int)):PyData:=.list (ms.map dMv)
theorem Den.Ud {K:PySem.W.Frag}{H:Hp}{v:V}{m:Int × Int × Int}(h:Den K H v (dMv m)):∃ a,v=.ref a/\SqT K H a [.int m.1,.int m.2.1,.int m.2.2]:=by
 cases h with
 | tuple h hs =>
  have e:=bT.int_inv (ns:=[m.1,m.2.1,m.2.2]) hs;exact ⟨_,rfl,by rw [e] at h;exact h⟩
theorem Den.mv {K:PySem.W.Frag}{H:Hp}{a:Addr}{m:Int × Int × Int}(h:SqT K H a [.int m.1,.int m.2.1,.int m.2.2]):Den K H (.ref a) (dMv m):=.tuple h (.cons (.int _) (.cons (.int _) (.cons (.int _) .nil)))
theorem Den.Zz {K:PySem.W.Frag}{H:Hp}{v:V}{ms:List (Int × Int × Int)}(h:Den K H v (adR ms)):∃ a xs,v=.ref a/\SqL K H a xs/\bT K H xs (ms.map dMv):=by
 cases h with
 | list h hs=>exact ⟨_,_,rfl,h,hs⟩
end L2
namespace L2
open PySem PySem.W PySem.Spec PySem.Calls PyProof.Rows PySem.Builtin PySem.Builtin.ObjectAttr PySem.Builtin.Getset_descriptor
section
variable {prog:Program}{w:World}{A:Around}{E:Value->Shared->Prop}{K:Frag}{e D:Addr}{hh:Heap}{g:Array GenState}{d:Drawn}{t:Nat}{os:OsState}
structure XCls (K:Frag)(D:Addr):Prop where
 ga:findIn K (.ref D) "__getattribute__"=some (some (.builtin "BaseException.__getattribute__"))
 gt:findIn K (.ref D) "__getattr__"=some none
 at_:findIn K (.ref D) "__class__"=some (some (.builtin "object.__class__"))
 sp:specialIn K (.builtin "object.__class__") "__get__"=some (some (.builtin "getset_descriptor.__get__"))
 tk:takesIn K (.builtin "object.__class__")=some true
 mo:mroIn K D (.type "object")=some true
 mb:mroIn K D (.type "BaseException")=some true
 cl:(clsIn K D).isSome=true
end
end L2
namespace L2
open PySem PySem.W PySem.Spec PySem.Calls PyProof.Rows
theorem iC.obj {P:Program}{w:World}{H:Hp}{h:Heap}{a:Addr}{o:HO}(x:iC P w H h a o):∃ ob,h.get? a=some ob:=by
 cases o with
 | lst xs=>obtain ⟨_,_,_,_,e⟩:=x;exact ⟨_,e⟩
 | tup xs=>obtain ⟨_,_,_,o,e,_⟩:=x;exact ⟨_,e⟩
 | dK kvs=>obtain ⟨_,_,_,_,o,_,_,e,_⟩:=x;exact ⟨_,e⟩
 | dT kvs=>obtain ⟨_,_,_,_,o,_,_,e,_⟩:=x;exact ⟨_,e⟩
 | set S n=>obtain ⟨o,_,_,_,e,_⟩:=x;exact ⟨_,e⟩
 | ins C dx fs=>obtain ⟨_,_,_,e,_⟩:=x;exact ⟨_,e⟩
 | own y=>exact x
 | xd fs=>obtain ⟨_,⟨_,_,_,e,_⟩,_⟩:=x;exact ⟨_,e⟩
 | rng lo hi=>obtain ⟨_,_,_,e⟩:=x;exact ⟨_,e⟩
 | frz ob u=>obtain ⟨e,_⟩:=x;exact ⟨_,e⟩
 | tbl ps=>exact ⟨_,x⟩
 | met f y=>exact ⟨_,x⟩
 | ext φ=>obtain ⟨_,e,_⟩:=x;exact e
structure Fly (P:Program)(w:World)(B:Heap)(fs:List Addr)(H:Hp)(h0:Heap)(H':Hp)(h:Heap):Prop where
 un:Un fs [] H H' h0 h
 hok:HOk P w H' h
 old:∀ b o,h0.get? b=some o->b ∉ fs->∃ o',B.get? b=some o'/\(H b=none->o'=o)
 trk:∀ b u,H' b=some u->∃ o,h.get? b=some o/\B.get? b=some o
section
variable {P:Program}{w:World}{B h0 h h2:Heap}{fs:List Addr}{H H':Hp}
theorem Fly.on (x:Fly P w B fs H h0 H' h)(sb:B.StaysIn h2)(sm:∀ b∈fs,∀ o,h.get? b=some o->∃ sl,h2.get? b=some { o with slots:=sl }):Fly P w B fs H h0 H' h2:=by
 have kp:∀ b o,h0.get? b=some o->H b=none->b ∉ fs->h2.get? b=some o:=fun b o q n hb=>by
  obtain ⟨o',e,k⟩:=x.old b o q hb;rw [<- k n];exact sb b o' e
 have sl:∀ b o,h0.get? b=some o->H b=none->b∈fs->∃ s,h2.get? b=some { o with slots:=s }:=fun b o q n hb=>by
  obtain ⟨s1,e1⟩:=x.un.slot b o q n hb (by simp);obtain ⟨s2,e2⟩:=sm b hb _ e1;exact ⟨s2,e2⟩
 refine ⟨⟨fun b o q n hb _=>kp b o q n hb,fun b o q n hb _=>sl b o q n hb,x.un.free,fun b o q _=>?_,x.un.tups,x.un.frzs,x.un.tbls⟩,fun a u e=>?_,x.old,fun b u e=>?_⟩
 ·by_cases hb:b∈fs
  ·obtain ⟨o1,e1⟩:=x.un.there b o q (by simp);obtain ⟨s2,e2⟩:=sm b hb _ e1;exact ⟨_,e2⟩
  ·obtain ⟨o',e,_⟩:=x.old b o q hb;exact ⟨o',sb b o' e⟩
 ·refine (x.hok a u e).stay (fun b v hb q=>?_) (fun _ q=>q) fun _ _ q=>q;have tr:∃ u',H' b=some u':=by
   rcases hb with z| z
   ·exact ⟨u,by rw [z];exact e⟩
   ·exact ⟨_,z⟩
  obtain ⟨u',e'⟩:=tr;obtain ⟨o,e1,e2⟩:=x.trk b u' e';rw [q] at e1;cases e1;exact sb b v e2
 ·obtain ⟨o,e1,e2⟩:=x.trk b u e;exact ⟨o,sb b o e2,e2⟩
end
def CXE (P:Program)(w:World):CXT:=fun outer H s E e s'=>∃ (ea t C:Addr)(B:Heap)(H':Hp),e=.ref ea/\s'.os=s.os/\AllBare s'.gens/\Fly P w B (frs outer) H s.heap H' s'.heap/\Heap.FlyingW B outer ea (.ref C) (.ref t) s'.heap /\
 s.heap.get? ea=none/\H' ea=none/\E (.ref C) (some ea) H'
theorem Ed {env:Env}{l:List Env}{L:Addr}(hf:env.frame=some L):frs (env::l)=L::frs l:=by unfold frs;rw [afT,hf]
theorem abC {l:List Env}:∀ env∈l,∀ b,env.frame=some b->b∈frs l:=fun env he b hb=>List.mem_filterMap.mpr ⟨env,he,hb⟩
section
variable {X:Cx}{pins:List (Addr × Obj)}{σ:St}{H:Hp}{s:Shared}{E:XK}
structure Body (X:Cx):Prop where
 st:X.stack=X.env::X.outer
 fr:X.env.frame=some X.env.locals
 ex:X.ex=[]
theorem Inv.HJ (I:Inv X pins σ H s)(hB:Body X){b:Addr}{o:Obj}(e:X.s₀.heap.get? b=some o)(hb:b ∉ frs X.outer):b ∉ frs X.stack:=by
 rw [hB.st,Ed hB.fr];intro hm;rcases aen.mp hm with z| z
 ·exact absurd (aei e) (by rw [z];exact Nat.not_lt.mpr I.ok.above)
 ·exact hb z
theorem Ge {e C:Addr}{args:List Value}{h':Heap}{F:Value->Shared->Prop}(hB:Body X)(I:Inv X pins σ H s)(hm:Heap.MadeExcOf s.heap h' e (.ref C) args)(hE:H e=none->E (.ref C) (some e) H):
  wpAny (model X.prog X.w) X.A (leaving X.env (.ref e)) (fun _ s''=>CXE X.prog X.w X.outer X.H₀ X.s₀ E (.ref e) s'') F { s with heap:=h' }:=by
 have hfr:X.A.frames=some (X.env::X.outer):=by rw [<- hB.st];exact I.ok.frames
 have stk:=I.stack;have hl:s.heap.FunFrames (hideAll s.heap (frs X.stack)) (X.env::X.outer):=by
  have:=funFrames_hide stk abC;rw [hB.st] at this ⊢;exact this
 have hne:∀ b o,s.heap.get? b=some o->b ∉ frs X.stack->(hideAll s.heap (frs X.stack)).get? b=some o:=fun b o q n=>hideAll_get _ q n;have htr:∀ b u,H b=some u->∃ o,s.heap.get? b=some o/\(hideAll s.heap (frs X.stack)).get? b=some o:=fun b u q=>by
  obtain ⟨o,eo⟩:=(I.hok b u q).obj;exact ⟨o,eo,hne b o eo fun z=>by rw [I.Dh b z] at q;cases q⟩
 have hnx:∀ b:Addr,b ∉ X.ex:=fun b=>by rw [hB.ex];simp
 refine wpAny_leaves_madeW (base:=hideAll s.heap (frs X.stack)) (h:=s.heap) hfr hB.fr (fun b o q=>of_hideAll _ q) hl hm fun h2 t fl _ _ sm=>?_;have F0:Fly X.prog X.w (hideAll s.heap (frs X.stack)) (frs X.outer) X.H₀ X.s₀.heap H s.heap:=by
  refine ⟨?_,I.hok,fun b o q n=>?_,htr⟩
  ·have u:=I.base;rw [hB.ex] at u;exact u
  ·obtain ⟨o',e'⟩:=I.base.there b o q (hnx b);refine ⟨o',hne b o' e' (I.HJ hB q n),fun z=>?_⟩;have:=I.base.keep b o q z n (hnx b);rw [e'] at this;exact aek this
 have F1:=F0.on (h2:=h2) fl.1 fun b hb o q=>by
  have hb':b∈frs X.stack:=by rw [hB.st,Ed hB.fr];exact aej _ hb
  obtain ⟨_,o',e',d⟩:=stk.mem hb';rw [q] at e';cases e';exact sm b o (hm.keeps b o q) d
 have he0:H e=none:=by
  cases q:H e with
  | none=>rfl
  | some u =>
   obtain ⟨o,eo⟩:=(I.hok e u q).obj;rw [hm.new] at eo;cases eo
 refine ⟨e,t,C,_,H,rfl,I.os,I.bare,F1,fl,?_,he0,hE he0⟩
 ·cases q:X.s₀.heap.get? e with
  | none=>rfl
  | some o =>
   obtain ⟨o',e'⟩:=I.base.there e o q (hnx e);rw [hm.new] at e';cases e'
theorem Ii {e:Value}{s':Shared}{F:Value->Shared->Prop}(hB:Body X)(I:Inv X pins σ H s)(h:CXE X.prog X.w X.stack H s E e s'):
  wpAny (model X.prog X.w) X.A (leaving X.env e) (fun _ s''=>CXE X.prog X.w X.outer X.H₀ X.s₀ E e s'') F s':=by
 obtain ⟨ea,t,C,B,H',rfl,os,bare,fl,fy,new,nh,hE⟩:=h;have hfr:X.A.frames=some (X.env::X.outer):=by rw [<- hB.st];exact I.ok.frames
 have hnx:∀ b:Addr,b ∉ X.ex:=fun b=>by rw [hB.ex];simp
 rw [hB.st] at fy;refine wpAny_leaves_onW hfr hB.fr fy fun h2 fy2 sm=>?_;have sub:∀ b,b∈frs X.outer->b∈frs X.stack:=fun b hb=>by rw [hB.st,Ed hB.fr];exact aej _ hb
 have F0:Fly X.prog X.w B (frs X.outer) X.H₀ X.s₀.heap H' s'.heap:=by
  refine ⟨⟨fun b o q n hb _=>?_,fun b o q n hb _=>?_,fun b o q n _=>?_,fun b o q _=>?_,fun b xs q=>fl.un.tups b xs (I.base.tups b xs q),fun b o u q=>fl.un.frzs b o u (I.base.frzs b o u q),fun b ps q=>?_⟩,fl.hok,fun b o q n=>?_,fl.trk⟩
  ·have e1:=I.base.keep b o q n hb (hnx b);exact fl.un.keep b o e1 (I.base.free b o q n (hnx b)) (I.HJ hB q hb) (by simp)
  ·obtain ⟨s1,e1⟩:=I.base.slot b o q n hb (hnx b);obtain ⟨s2,e2⟩:=fl.un.slot b _ e1 (I.base.free b o q n (hnx b)) (sub b hb) (by simp);exact ⟨s2,e2⟩
  ·obtain ⟨o',e'⟩:=I.base.there b o q (hnx b);exact fl.un.free b o' e' (I.base.free b o q n (hnx b)) (by simp)
  ·obtain ⟨o',e'⟩:=I.base.there b o q (hnx b);exact fl.un.there b o' e' (by simp)
  ·obtain ⟨m1,e1⟩:=I.base.tbls b ps q;obtain ⟨m2,e2⟩:=fl.un.tbls b _ e1;exact ⟨m1++m2,by rw [e2,Array.append_assoc]⟩
  ·obtain ⟨o',e'⟩:=I.base.there b o q (hnx b);obtain ⟨o2,e2,k⟩:=fl.old b o' e' (I.HJ hB q n);refine ⟨o2,e2,fun z=>?_⟩;rw [k (I.base.free b o q z (hnx b))];have:=I.base.keep b o q z n (hnx b);rw [e'] at this;exact aek this
 have F1:=F0.on (h2:=h2) fy2.1 fun b hb o q=>by
  obtain ⟨_,o',e',d⟩:=fy.2.2.1.mem (by rw [hB.st] at sub;exact sub b hb);rw [q] at e';cases e';exact sm b o q d
 refine ⟨ea,t,C,B,H',rfl,os.trans I.os,bare,F1,fy2,?_,nh,hE⟩;cases q:X.s₀.heap.get? ea with
 | none=>rfl
 | some o =>
  obtain ⟨o',e'⟩:=I.base.there ea o q (hnx ea);rw [new] at e';cases e'
end
section
variable {P:Program}{w:World}{K:PySem.W.Frag}{mg:Str->Option Value}{base:Heap}{N:List Str}{qual:Str}{scope:Scope}{f:Addr}{cd:Value}{A:Around}{outer:List Env}{s:Shared}{H:Hp}{E:XK}
theorem jD {CX:CXT}:Body (Qi CX P w K mg base N qual scope f cd A outer s H E):=⟨rfl,rfl,rfl⟩
theorem Gh:Passes (CXE P w) (Qi (CXE P w) P w K mg base N qual scope f cd A outer s H E) E:=fun _ _ _ _ _ _ I h=>Ii jD I h
theorem Fun.okX {x:Str}{st:Stmt}{fd:FuncData}{ps:List Str}{k:Nat}{sp:Sp}(F:Fun K x qual st f fd)(S:aH N ps (ao st))(len:∀ vs H Q E,sp vs H Q E->vs.length=ps.length)
  (hbody:∀ (cdv:Value)(A:Around)(outer:List Env)(s:Shared)(H:Hp)(vs:List V)(Q:VK)(E:XK),tO k (A.deeper (envOfC qual (ao st) s.heap.objs.size f cdv))->sp vs H Q E ->
   ∃ t,PSs (Qi (CXE P w) P w K mg base N qual (ao st) f cdv A outer s H E) (dM st) t/\t { nx:=fun _ H'=>Q .non H',rt:=Q } (start N vs) H):G9 P w K mg base (CXE P w) (k+1) f fd ps sp:=by
 obtain ⟨oc,od,kV,doc,pm,an,cdv,ct,osl,rfl,lk,hcd⟩:=F.ex;exact Sq lk hcd S len fun A outer s H vs Q E hr hsp=>hbody cdv A outer s H vs Q E hr hsp
end
abbrev acr:List Value:=[.type "ValueError",.type "Exception",.type "BaseException",.type "object"]
theorem Z0 {K:Frag}{h:Heap}{C:Addr}(X:K.In h)(q:excIn K C acr "ValueError.__new__"=true):
  ∃ bm N nm qn bs hdct sn sub ab col dd k0 k1 k2 k3 k5 mN,h.get? C=some (excClassObj nm qn C N bs bm hdct sn sub ab col dd k0 k1 k2 k3 k5 "ValueError.__new__")/\h.Ns N mN/\mN "__init__"=none/\OwnTail h acr bm:=by
 unfold excIn at q;split at q
 ·rename_i d1 c1 s1 look
  split at q
  ·rename_i C1 bm1 a0 a1 a2 a3 n1 a5 m1 l1
   simp only [aev,beq_iff_eq,Bool.not_eq_true'] at q;obtain ⟨⟨⟨⟨⟨e1,e2⟩,e3⟩,e4⟩,e5⟩,e6⟩:=q;subst e1 e2;obtain ⟨nm,bs,mro,ns,qn,hd,sn,sub,ab,col,del⟩:=c1;dsimp only at m1 e3 e5 e6;subst m1 e3;have es:s1=#[a0,a1,a2,a3,some (.builtin "ValueError.__new__"),a5]:=by cases s1;simp only at l1;rw [l1]
   subst es;exact ⟨bm1,ns,nm,qn,bs,hd,sn,sub,ab,col,d1,a0,a1,a2,a3,a5,_,X _ _ look,Heap.Ns.of_isNs (isNs_of_in X e5),nsMap_none_of_in X e5 e6,tail_of_in X e4⟩
  ·cases q
 ·cases q
def aar (E:XK)(C:Addr)(ta:TA):TS:=fun _ σ H=>ta σ H fun vs H1=>vs.length<=sizeLine/\∀ e,H1 e=none->E (.ref C) (some e) H1
section
variable {X:Cx}{E:XK}{x:Str}{C:Addr}{np cpos pos:Pos}{e0:Expr}{ta:TA}
theorem iJ (hB:Body X)(hc:X.calm=true)(hx:∀ e s',wpAny (model X.prog X.w) X.A (leaving X.env e) (fun _ s''=>CXE X.prog X.w X.outer X.H₀ X.s₀ E e s'') (fun e s''=>CXE X.prog X.w X.outer X.H₀ X.s₀ E e s'') s'->X.xe e s')
  (hg:Gl X x)(hm:X.mg x=some (.ref C))(hq:excIn X.K C acr "ValueError.__new__"=true)(ha:PA X [e0] ta)(he:starEach [e0] X.env=[(false,eval e0 X.env)]:=by rfl)(hd:(x ==("__debug__":Str))=false:=by decide):
  PS X (.Raise (some (.Call (.Name x np) [e0] [] cpos)) none pos) (aar E C ta):=by
 intro pins s σ H D I h
 obtain ⟨bm,Nn,nm,qn,bs,hdct,sn,sub,ab,col,dd,k0,k1,k2,k3,k5,mN,hC,hN,hni,TL⟩:=Z0 I.ok.mod.kin hq
 refine wpAny_Raise_call_subU (C:=C) (nm:=nm) (q:=qn) (N:=Nn) (bs:=bs) (bm:=bm) (hdct:=hdct) (sn:=sn) (sub:=sub) (ab:=ab) (col:=col) (dd:=dd) (k0:=k0) (k1:=k1) (k2:=k2) (k3:=k3) (k5:=k5) (mN:=mN) (newId:="ValueError.__new__")
  PySem.F.excBase_ValueError PySem.F.excBase_ValueError.hasB PySem.F.excBase_ValueError (TL.hasType PySem.F.excBase_ValueError.hasBase) (I.ok.hd hc) (by rw [he];rfl) hni ?_
 refine zV I hg hm ⟨rfl,?_⟩ hd
 have a:=ha cpos pins s σ H _ I h
 rw [he] at a ⊢
 refine Calls.evalArgs_plain (wpAny_mono a (fun us s1 ⟨vs,H1,I1,r1,hz,q1⟩=>?_) fun _ _ z=>z)
 exact ⟨rfl,by show us.length<=_;rw [<- r1.length];exact hz,I1.bk _ _ hC,hN.keeps I1.bk,TL.keeps I1.bk,fun h' e mk=>hx _ _ (Ge hB I1 mk (q1 e))⟩
end
theorem KD {X:Cx}:Passes (CXE X.prog X.w) X E0:=fun _ _ _ _ _ _ _ h=>by
 obtain ⟨_,_,_,_,_,_,_,_,_,_,_,_,hE⟩:=h;exact hE.elim
structure Eu (K:PySem.W.Frag)(mg:Str->Option Value)(x:Str)(C:Addr):Prop where
 m:mg x=some (.ref C)
 q:excIn K C acr "ValueError.__new__"=true
 x:XCls K C
end L2
namespace L2
open PySem PySem.Spec PyProof.Rows
section
variable {X:Cx}
theorem Kh {n:Nat}{acc:Array Value}(hacc:ItemsOf (fun i v=>∃ t,v=.int (0+(i:Nat)*1) t) acc n):Vals (jB n) acc.toList:=by
 have hsz:acc.toList.length=n:=by rw [aeI];exact hacc.1
 have key:∀ (k:Nat)(l:List Value),l.length=k->(∀ (j:Nat)(v:Value),l[j]?=some v->∃ t,v=.int ((n - k+j:Nat):Int) t)->k<=n->Vals ((List.range' (n - k) k).map fun (i:Nat)=>V.int (i:Int)) l:=by
  intro k
  induction k with
  | zero =>
   intro l hl _ _;have:l=[]:=List.length_eq_zero_iff.mp hl;subst this;exact .nil
  | succ k ih =>
   intro l hl hP hk
   match l,hl with
   | v::l,hl =>
    have hl':l.length=k:=by simpa using hl
    rw [List.range'_succ,aey];obtain ⟨t,ht⟩:=hP 0 v rfl;refine .cons ⟨t,?_⟩ ?_
    ·rw [ht];rfl
    ·have e:n - (k+1)+1=n - k:=by omega
     rw [e];refine ih l hl' (fun j v' e'=>?_) (by omega);obtain ⟨t',ht'⟩:=hP (j+1) v' (by simpa using e');exact ⟨t',by rw [ht'];congr 2;omega⟩
 have:=key n acc.toList hsz (fun j v e=>by
  obtain ⟨t,ht⟩:=hacc.2 j v (by simpa using e);refine ⟨t,?_⟩;rw [ht];congr 1;omega) (ad2 _)
 rw [afC,<- List.range_eq_range'] at this;exact this
def Kq (ta:TA):TE:=fun σ H Q=>ta σ H fun vs H1=>∃ n:Nat,vs=[.int (n:Int)]/\n<64/\∀ l,H1 l=none->Q (.ref l) (upd H1 l (.lst (jB n)))
theorem Gg {e:Expr}{ta:TA}{p1 p2 p3 pos:Pos}(hcalm:X.calm=true)(hgs:Gl X "list")(hms:X.mg "list"=none)(hgr:Gl X "range")(hmr:X.mg "range"=none)(ha:PA X [e] ta)(hs:starEach [e] X.env=[(false,eval e X.env)]:=by rfl):
  PE X (.Call (.Name "list" p1) [.Call (.Name "range" p2) [e] [] p3] [] pos) (Kq ta):=by
 intro pins s σ H Q I h;refine Call_ (nJ I hgs hms boot_list (aeO ?_ rfl rfl));show wpAny _ _ (spliced ((false,eval (.Call (.Name "range" p2) [e] [] p3) X.env)::[])) _ _ s;refine afh (Call_ (nJ I hgr hmr boot_range (aeO (thn (ha p3 pins s σ H _ I h) fun us s1 ⟨vs,H1,I1,r1,q1⟩=>?_) hs rfl)));obtain ⟨n,e1,hn,q⟩:=q1;subst e1;obtain ⟨u,rfl,t,rfl⟩:=vals1 r1;refine call_range_1 ?_;refine afy ?_;have hrs:Builtin.Range.rangeSize 0 (n:Int) 1=(n:Nat):=by rw [rangeSize_one];split <;>omega
 generalize hro:({ cls:=.type "range",data:=.fields #[.int 0 s1.toks,.int (n:Int) t,.int 1 (s1.toks+1)] }:Obj)=ro;have I2:Inv X pins σ H1 { s1 with heap:=s1.heap.push ro,toks:=s1.toks+1+1 }:=I1.kept fun b o e=>ad6 _ e;have hR:IsRange (s1.heap.push ro) s1.heap.objs.size 0 (n:Int) 1 s1.toks t (s1.toks+1):=by
  rw [<- hro];exact aer _ rfl
 refine call_list_range (I.ok.hd hcalm) hR (small_one (by omega) (by omega) (by omega) (by omega)) hrs (by omega) fun h' tk acc c hk hS hacc=>?_;exact ⟨.ref (s1.heap.push ro).objs.size,_,I2.laid (t':=tk) hk (ad2 _) (show iC X.prog X.w _ h' _ (.lst (jB n)) from ⟨by unfold jB;rw [TX,aeU,sizeLine_eq];omega,acc.toList,c,Kh hacc,by simpa using hS⟩),rfl,q _ (I2.hok.fresh (ad2 _))⟩
theorem Inv.CV {pins:List (Addr × Obj)}{σ:St}{H:Hp}{s:Shared}{h':Heap}{t':Nat}{ch:List Addr}(I:Inv X pins σ H s)(k:∀ b o,b ∉ ch->s.heap.get? b=some o->h'.get? b=some o)(f:∀ b∈ch,G8 X pins H b):Inv X pins σ H { s with heap:=h',toks:=t' }:=by
 have nit:∀ b u,H b=some u->b ∉ ch:=fun b u e z=>by rw [(f b z).1] at e;cases e
 refine I.step (g':=s.gens) (d':=s.drawn) (ch:=ch) (fun b hb=>?_) (fun b o _ _ hc e _=>k b o hc e) (fun b o _ _ hc e _=>⟨o.slots,k b o hc e⟩) (fun _ _ _ _ n=>n)
  (fun b o hc e=>⟨o,k b o hc e⟩) (fun _ _ e=>e) (fun _ _ _ e=>e) (fun b ps e=>⟨#[],by rw [e];simp⟩) (fun m hm=>?_) (fun b u e=>?_) I.bare
 ·obtain ⟨f0,f1,f2,f3,f4,f5⟩:=f b hb;exact ⟨f3,f1,f4,f5⟩
 ·obtain ⟨o,es,ep,ho,r⟩:=hm;exact ⟨o,es,ep,k _ o (fun z=>(f _ z).2.1 rfl) ho,r⟩
 ·refine (I.hok b u e).stay (fun c v hc q=>k c v ?_ q) (fun _ q=>q) fun _ _ q=>q;rcases hc with z| z
  ·rw [z];exact nit b u e
  ·exact nit c _ z
def Itz (K:PySem.W.Frag)(l1 l2:Addr)(xs ys:List V):It:=
 ⟨fun i H=>SqL K H l1 xs/\SqL K H l2 ys/\i<xs.length/\i<ys.length,fun i H x H'=>∃ T a b,x=.ref T/\H T=none/\xs[i]?=some a/\ys[i]?=some b/\H'=upd H T (.tup [a,b]),
  fun i H=>SqL K H l1 xs/\SqL K H l2 ys/\(xs.length<=i\/ys.length<=i)⟩
def adz (z TI TO i1 i2 l1 l2:Addr)(i:Nat)(h:Heap):Prop:=IsZip h z TI TO .none/\IsPair h TI (.ref i1) (.ref i2)/\(∃ a b,IsPair h TO a b)/\h.IsListIter i1 l1 i/\h.IsListIter i2 l2 i
theorem QX {P:Program}{w:World}{K:PySem.W.Frag}{elts:List Expr}{kk:Nat}{tpos:Pos}{z TI TO i1 i2 l1 l2:Addr}{xs ys:List V}(D:ZipApart z TI TO i1 i2 l1 l2):
  Turn P w K (.Tuple elts kk tpos) (Itz K l1 l2 xs ys) [z,TI,TO,i1,i2] z (adz z TI TO i1 i2 l1 l2) where
 mem:=by simp
 obj:=fun i h st b hb=>by
  obtain ⟨hz,hTI,⟨a,b',hTO⟩,⟨o1,e1,c1,d1⟩,⟨o2,e2,c2,d2⟩⟩:=st;simp at hb;rcases hb with rfl| rfl| rfl| rfl| rfl
  ·exact ⟨_,hz,fun v z=>by cases (show Data.fields _=Data.cell v from z)⟩
  ·exact ⟨_,hTI,fun v z=>by cases (show Data.seq _ _=Data.cell v from z)⟩
  ·exact ⟨_,hTO,fun v z=>by cases (show Data.seq _ _=Data.cell v from z)⟩
  ·exact ⟨o1,e1,fun v z=>by rw [d1] at z;cases z⟩
  ·exact ⟨o2,e2,fun v z=>by rw [d2] at z;cases z⟩
 keep:=fun i h h' st k=>by
  obtain ⟨hz,hTI,⟨a,b,hTO⟩,h1,h2⟩:=st;exact ⟨k z (by simp) _ hz,k TI (by simp) _ hTI,⟨a,b,k TO (by simp) _ hTO⟩,h1.at fun o e=>k i1 (by simp) o e,h2.at fun o e=>k i2 (by simp) o e⟩
 item:=by
  intro X hP hw hK hc i pins s σ H E I hf st hg;subst hP hw hK;obtain ⟨hz,hTI,⟨p,p',hTO⟩,h1,h2⟩:=st;obtain ⟨hq1,hq2,hi1,hi2⟩:=hg;obtain ⟨its1,rv1,pl1,hz1⟩:=I.list hq1;obtain ⟨its2,rv2,pl2,hz2⟩:=I.list hq2;obtain ⟨u1,hu1,ru1⟩:=rv1.get (adW hi1);obtain ⟨u2,hu2,ru2⟩:=rv2.get (adW hi2);refine wpAny_pyNext_zip_item D hz hTI hTO h1 h2 pl1.isList pl2.isList (x:=u1) (y:=u2) (by simpa using hu1) (by simpa using hu2) fun h' a1 a2 a3 a4 a5 a6 hk=>?_;have lt:∀ {c o},s.heap.get? c=some o->s.heap.objs.size≠c:=fun e=>Nat.ne_of_gt (aei e);refine ⟨.ref s.heap.objs.size,rfl,wpAny_letOwnedTupleGo_zip (s:={ s with heap:=h' }) a1 fun h'' hz' hs'=>?_⟩;have Tz:s.heap.objs.size≠z:=lt hz;have sub:∀ b∈([z,TO,i1,i2]:List Addr),b∈([z,TI,TO,i1,i2]:List Addr):=fun b hb=>by
   simp at hb ⊢;rcases hb with rfl| rfl| rfl| rfl <;>simp
  have I1:Inv X pins σ H { s with heap:=h'' }:=I.CV (t':=s.toks) (ch:=[z,TO,i1,i2])
   (fun b o hb e=>hs'.extBut b o (fun x=>hb (by simp [x])) (hk b o (fun x=>hb (by simp [x])) (fun x=>hb (by simp [x])) (fun x=>hb (by simp [x])) (fun x=>hb (by simp [x])) e)) fun b hb=>hf b (sub b hb)
  have F:=I.K6 (H':=H) (ad2 _) (I.hok.fresh (ad2 _));obtain ⟨F0,F1,F2,F3,F4,F5⟩:=F;have hT:IsTup h'' s.heap.objs.size #[u1,u2]:=⟨_,hs'.extBut _ _ Tz a5,rfl,_,rfl⟩;have I2:Inv X pins σ (upd H s.heap.objs.size (.tup [xs[i],ys[i]])) { s with heap:=h'' }:=I1.adopt F0 F1 I.sz F4 F5 (show iC X.prog X.w _ h'' _ (.tup [xs[i],ys[i]]) from ⟨by rw [sizeLine_eq];simp,[u1,u2],.cons ru1 (.cons ru2 .nil),hT⟩);refine ⟨.ref s.heap.objs.size,_,I2,rfl,⟨_,_,_,rfl,F0,adW hi1,adW hi2,rfl⟩,?_,fun b hb=>?_⟩
  ·exact ⟨hz',hs'.extBut _ _ D.TIz (hk _ _ D.TIz D.TITO D.TIi1 D.TIi2 hTI),⟨_,_,hs'.extBut _ _ D.TOz a2⟩,a3.extBut hs'.extBut D.i1z,a4.extBut hs'.extBut D.i2z⟩
  ·rw [aL]
   ·exact (hf b hb).1
   ·simp at hb;obtain ⟨o1,e1,_⟩:=h1;obtain ⟨o2,e2,_⟩:=h2;rcases hb with rfl| rfl| rfl| rfl| rfl
    ·exact (lt hz).symm
    ·exact (lt hTI).symm
    ·exact (lt hTO).symm
    ·exact (lt e1).symm
    ·exact (lt e2).symm
 done:=by
  intro X hP hw hK hc i pins s σ H E I hf st hg;subst hP hw hK;obtain ⟨hz,hTI,⟨p,p',hTO⟩,h1,h2⟩:=st;obtain ⟨hq1,hq2,hend⟩:=hg;obtain ⟨its1,rv1,pl1,hz1⟩:=I.list hq1;obtain ⟨its2,rv2,pl2,hz2⟩:=I.list hq2;have e1:=rv1.length;have e2:=rv2.length;have sub:∀ b∈([z,TO,i1,i2]:List Addr),b∈([z,TI,TO,i1,i2]:List Addr):=fun b hb=>by
   simp at hb ⊢;rcases hb with rfl| rfl| rfl| rfl <;>simp
  refine wpAny_pyNext_zip_end (I.ok.hd hc) D hz hTI hTO h1 h2 pl1.isList pl2.isList ?_ fun h' hk=>⟨rfl,I.CV (t':=s.toks) (ch:=[z,TO,i1,i2])
   (fun b o hb e=>hk b o (fun x=>hb (by simp [x])) (fun x=>hb (by simp [x])) (fun x=>hb (by simp [x])) (fun x=>hb (by simp [x])) e) fun b hb=>hf b (sub b hb)⟩
  rcases hend with h| h
  ·exact .inl (by simp;omega)
  ·exact .inr (by simp;omega)
 self:=fun _ _ _ _ _ st h=>wpAny_pyIter_zip st.1 h
def iZip (K:PySem.W.Frag)(ta:TA):TI:=fun σ H R=>ta σ H fun vs H1=>∃ l1 l2 xs ys,vs=[.ref l1,.ref l2]/\SqL K H1 l1 xs/\SqL K H1 l2 ys/\R (Itz K l1 l2 xs ys) H1
theorem qu {elts:List Expr}{kk:Nat}{tpos:Pos}{a b:Expr}{ta:TA}{p pos:Pos}(hg:Gl X "zip")(hm:X.mg "zip"=none)(ha:PA X [a,b] ta)(hs:starEach [a,b] X.env=[(false,eval a X.env),(false,eval b X.env)]:=by rfl)(hs2:starEach [b] X.env=[(false,eval b X.env)]:=by rfl):
  PI X (.Tuple elts kk tpos) (.Call (.Name "zip" p) [a,b] [] pos) (iZip X.K ta):=by
 intro pins s σ H R I h;refine Call_ (nJ I hg hm boot_zip (aeO (thn (ha pos pins s σ H _ I h) fun us s1 ⟨vs,H1,I1,r1,q1⟩=>?_) (by rw [hs,hs2]) (by rw [hs2];rfl)));obtain ⟨l1,l2,xs,ys,e,hq1,hq2,q⟩:=q1;subst e;cases r1 with
 | cons r rr =>
  cases rr with
  | cons r' rr =>
   cases rr;cases r;cases r';obtain ⟨its1,rv1,pl1,hz1⟩:=I1.list hq1;obtain ⟨its2,rv2,pl2,hz2⟩:=I1.list hq2;refine call_zip_2 pl1.isList pl2.isList fun h' a1 a2 a3 a4 a5 a6 hk=>?_;refine wpAny_pyIter_zip a1 ?_;have b1:l1<s1.heap.objs.size:=by obtain ⟨o,e,_⟩:=pl1.isList;exact aei e
   have b2:l2<s1.heap.objs.size:=by obtain ⟨o,e,_⟩:=pl2.isList;exact aei e
   refine ⟨_,_,_,_,H1,rfl,I1.kept (t':=s1.toks) hk,QX (l1:=l1) (l2:=l2) (xs:=xs) (ys:=ys) (TI:=s1.heap.objs.size+2) (TO:=s1.heap.objs.size+3) (i1:=s1.heap.objs.size) (i2:=s1.heap.objs.size+1) ?_,⟨a1,a2,⟨_,_,a3⟩,a4,a5⟩,fun b hb=>?_,q⟩
   ·constructor <;>exact fun z=>by simp only [Addr] at z b1 b2;omega
   ·have hb':s1.heap.objs.size<=b:=by
     simp at hb;rcases hb with rfl| rfl| rfl| rfl| rfl <;>simp
    exact I1.K6 hb' (I1.hok.fresh hb')
theorem uR {K:PySem.W.Frag}{l1 l2:Addr}{xs ys:List V}{g:TG}{tb:TS}{D:Ends}{σ:St}{H:Hp}(Pv:Nat->St->Hp->Prop)(hxy:xs.length=ys.length)(h0:Pv 0 σ H)(hl:∀ i σ H,i<=xs.length->Pv i σ H->SqL K H l1 xs/\SqL K H l2 ys)
  (hs:∀ i a b T σ H,xs[i]?=some a->ys[i]?=some b->Pv i σ H->H T=none->g (.ref T) σ (upd H T (.tup [a,b])) fun σ2 H2=>tb { D with nx:=Pv (i+1),ct:=Pv (i+1),bk:=D.nx } σ2 H2)(hd:∀ σ H,Pv xs.length σ H->D.nx σ H):
  ∃ W:Nat->Nat->St->Hp->Prop,(∃ m,W 0 m σ H)/\∀ i m σ H,W i m σ H ->
   ((Itz K l1 l2 xs ys).stop i H/\D.nx σ H)\/((Itz K l1 l2 xs ys).go i H/\∃ N:St->Hp->Prop,(∀ σ' H',N σ' H'->∃ m',m'<m/\W (i+1) m' σ' H')/\∀ x H',(Itz K l1 l2 xs ys).yld i H x H'->g x σ H' fun σ2 H2=>tb { D with nx:=N,ct:=N,bk:=D.nx } σ2 H2):=by
 refine ⟨fun i m σ H=>m=xs.length - i/\i<=xs.length/\Pv i σ H,⟨xs.length,by simp,aez _,h0⟩,?_⟩
 rintro i m σ H ⟨rfl,hi,p⟩
 obtain ⟨q1,q2⟩:=hl i σ H hi p
 by_cases hlt:i<xs.length
 ·refine .inr ⟨⟨q1,q2,hlt,by omega⟩,Pv (i+1),fun σ' H' p'=>⟨xs.length - (i+1),by omega,rfl,hlt,p'⟩,fun x H' y=>?_⟩
  obtain ⟨T,a,b,rfl,hT,ha,hb,rfl⟩:=y
  exact hs i a b T σ _ ha hb p hT
 ·have e:i=xs.length:=by omega
  subst e
  exact .inl ⟨⟨q1,q2,.inl (ad2 _)⟩,hd σ H p⟩
end
section
variable {X:Cx}
def Ite (K:PySem.W.Frag)(l:Addr)(xs:List V):It:=
 ⟨fun i H=>SqL K H l xs/\i<xs.length,fun i H x H'=>∃ T a,x=.ref T/\H T=none/\xs[i]?=some a/\H'=upd H T (.tup [.int (i:Int),a]),fun i H=>SqL K H l xs/\xs.length<=i⟩
def acf (e it l:Addr)(i:Nat)(h:Heap):Prop:=(∃ old,IsEnum h e it i old)/\h.IsListIter it l i
theorem Lp {P:Program}{w:World}{K:PySem.W.Frag}{elts:List Expr}{kk:Nat}{tpos:Pos}{e it l:Addr}{xs:List V}(hei:e≠it):
  Turn P w K (.Tuple elts kk tpos) (Ite K l xs) [e,it] e (acf e it l) where
 mem:=by simp
 obj:=fun i h st b hb=>by
  obtain ⟨⟨old,he⟩,⟨o1,e1,c1,d1⟩⟩:=st;simp at hb;rcases hb with rfl| rfl
  ·exact ⟨_,he,fun v z=>by cases (show Data.fields _=Data.cell v from z)⟩
  ·exact ⟨o1,e1,fun v z=>by rw [d1] at z;cases z⟩
 keep:=fun i h h' st k=>by
  obtain ⟨⟨old,he⟩,h1⟩:=st;exact ⟨⟨old,k e (by simp) _ he⟩,h1.at fun o x=>k it (by simp) o x⟩
 item:=by
  intro X hP hw hK hc i pins s σ H E I hf st hg;subst hP hw hK;obtain ⟨⟨old,he⟩,h1⟩:=st;obtain ⟨hq1,hi1⟩:=hg;obtain ⟨its1,rv1,pl1,hz1⟩:=I.list hq1;obtain ⟨u1,hu1,ru1⟩:=rv1.get (adW hi1);refine wpAny_pyNext_enum_item he h1 pl1.isList (x:=u1) (by simpa using hu1) hei fun h' a1 a2 a3 a4 hk=>?_;have lt:∀ {c o},s.heap.get? c=some o->s.heap.objs.size≠c:=fun e=>Nat.ne_of_gt (aei e);refine ⟨.ref s.heap.objs.size,rfl,wpAny_letOwnedTupleGo_enum (s:={ s with heap:=h',toks:=s.toks+1 }) a1 fun h'' hz' hs'=>?_⟩;have Tz:s.heap.objs.size≠e:=lt he;have I1:Inv X pins σ H { s with heap:=h'',toks:=s.toks+1 }:=I.CV (ch:=[e,it])
   (fun b o hb x=>hs'.extBut b o (fun z=>hb (by simp [z])) (hk b o (fun z=>hb (by simp [z])) (fun z=>hb (by simp [z])) x)) fun b hb=>hf b hb
  obtain ⟨F0,F1,F2,F3,F4,F5⟩:=I.K6 (H':=H) (ad2 _) (I.hok.fresh (ad2 _));have hT:IsTup h'' s.heap.objs.size #[.int (i:Int) s.toks,u1]:=⟨_,hs'.extBut _ _ Tz a3,rfl,_,rfl⟩;have I2:Inv X pins σ (upd H s.heap.objs.size (.tup [.int (i:Int),xs[i]])) { s with heap:=h'',toks:=s.toks+1 }:=I1.adopt F0 F1 I.sz F4 F5 (show iC X.prog X.w _ h'' _ (.tup [.int (i:Int),xs[i]]) from ⟨by rw [sizeLine_eq];simp,[.int (i:Int) s.toks,u1],.cons ⟨_,rfl⟩ (.cons ru1 .nil),hT⟩);refine ⟨.ref s.heap.objs.size,_,I2,rfl,⟨_,_,rfl,F0,adW hi1,rfl⟩,?_,fun b hb=>?_⟩
  ·exact ⟨⟨_,by simpa using hz'⟩,a2.extBut hs'.extBut hei.symm⟩
  ·rw [aL]
   ·exact (hf b hb).1
   ·simp at hb;obtain ⟨o1,e1,_⟩:=h1;rcases hb with rfl| rfl
    ·exact (lt he).symm
    ·exact (lt e1).symm
 done:=by
  intro X hP hw hK hc i pins s σ H E I hf st hg;subst hP hw hK;obtain ⟨⟨old,he⟩,h1⟩:=st;obtain ⟨hq1,hend⟩:=hg;obtain ⟨its1,rv1,pl1,hz1⟩:=I.list hq1;have e1:=rv1.length;exact wpAny_pyNext_enum_end (I.ok.hd hc) he h1 pl1.isList (by simp;omega) fun h' hk=>⟨rfl,I.CV (t':=s.toks) (ch:=[e,it])
   (fun b o hb x=>hk b o (fun z=>hb (by simp [z])) x) fun b hb=>hf b hb⟩
 self:=fun _ _ _ _ _ st h=>by
  obtain ⟨⟨old,he⟩,_⟩:=st;exact wpAny_pyIter_enum he h
def ado (K:PySem.W.Frag)(ta:TA):TI:=fun σ H R=>ta σ H fun vs H1=>∃ l xs,vs=[.ref l]/\SqL K H1 l xs/\R (Ite K l xs) H1
theorem Ni {elts:List Expr}{kk:Nat}{tpos:Pos}{a:Expr}{ta:TA}{p pos:Pos}(hg:Gl X "enumerate")(hm:X.mg "enumerate"=none)(ha:PA X [a] ta)(hs:starEach [a] X.env=[(false,eval a X.env)]:=by rfl):
  PI X (.Tuple elts kk tpos) (.Call (.Name "enumerate" p) [a] [] pos) (ado X.K ta):=by
 intro pins s σ H R I h;refine Call_ (nJ I hg hm boot_enumerate (aeO (thn (ha pos pins s σ H _ I h) fun us s1 ⟨vs,H1,I1,r1,q1⟩=>?_) hs rfl));obtain ⟨l1,xs,e,hq1,q⟩:=q1;subst e;obtain ⟨u,rfl,ru⟩:=vals1 r1;cases ru;obtain ⟨its1,rv1,pl1,hz1⟩:=I1.list hq1;refine call_enumerate_list pl1.isList fun h' a1 a2 a3 hk=>?_;refine wpAny_pyIter_enum a1 ?_;refine ⟨_,_,_,_,H1,rfl,I1.kept (t':=s1.toks) hk,Lp (l:=l1) (xs:=xs) (it:=s1.heap.objs.size) (Nat.succ_ne_self _),⟨⟨_,a1⟩,a2⟩,fun b hb=>?_,q⟩;have hb':s1.heap.objs.size<=b:=by
  simp at hb;rcases hb with rfl| rfl <;>simp
 exact I1.K6 hb' (I1.hok.fresh hb')
theorem Sg {K:PySem.W.Frag}{l:Addr}{xs:List V}{g:TG}{tb:TS}{D:Ends}{σ:St}{H:Hp}(Pv:Nat->St->Hp->Prop)(h0:Pv 0 σ H)(hl:∀ i σ H,i<=xs.length->Pv i σ H->SqL K H l xs)
  (hs:∀ i a T σ H,xs[i]?=some a->Pv i σ H->H T=none->g (.ref T) σ (upd H T (.tup [.int (i:Int),a])) fun σ2 H2=>tb { D with nx:=Pv (i+1),ct:=Pv (i+1),bk:=D.nx } σ2 H2)(hd:∀ σ H,Pv xs.length σ H->D.nx σ H):
  ∃ W:Nat->Nat->St->Hp->Prop,(∃ m,W 0 m σ H)/\∀ i m σ H,W i m σ H ->
   ((Ite K l xs).stop i H/\D.nx σ H)\/((Ite K l xs).go i H/\∃ N:St->Hp->Prop,(∀ σ' H',N σ' H'->∃ m',m'<m/\W (i+1) m' σ' H')/\∀ x H',(Ite K l xs).yld i H x H'->g x σ H' fun σ2 H2=>tb { D with nx:=N,ct:=N,bk:=D.nx } σ2 H2):=by
 refine ⟨fun i m σ H=>m=xs.length - i/\i<=xs.length/\Pv i σ H,⟨xs.length,by simp,aez _,h0⟩,?_⟩
 rintro i m σ H ⟨rfl,hi,p⟩
 have q1:=hl i σ H hi p
 by_cases hlt:i<xs.length
 ·refine .inr ⟨⟨q1,hlt⟩,Pv (i+1),fun σ' H' p'=>⟨xs.length - (i+1),by omega,rfl,hlt,p'⟩,fun x H' y=>?_⟩
  obtain ⟨T,a,rfl,hT,ha,rfl⟩:=y
  exact hs i a T σ _ ha p hT
 ·have e:i=xs.length:=by omega
  subst e
  exact .inl ⟨⟨q1,ad2 _⟩,hd σ H p⟩
theorem Qk {K:PySem.W.Frag}{a:Addr}{xs:List V}{acc:Addr}{g:TG}{tc:TT}{te:TE}{τ:St}{H1:Hp}{Q:Hp->Prop}(Pv:Nat->St->Hp->Prop)(h0:Pv 0 τ (upd H1 acc (.lst [])))(hl:∀ i τ H,i<=xs.length->Pv i τ H->SqL K H a xs)
  (hs:∀ i x T τ H,xs[i]?=some x->Pv i τ H->H T=none->g (.ref T) τ (upd H T (.tup [.int (i:Int),x])) fun τ4 H4=>tc τ4 H4 fun b H5=>if b=true then te τ4 H5 fun y H6=>∃ ys,H6 acc=some (.lst ys)/\ys.length<sizeLine/\Pv (i+1) τ4 (upd H6 acc (.lst (ys++[y]))) else Pv (i+1) τ4 H5)
  (hd:∀ τ H,Pv xs.length τ H->Q H):BJ (Ite K a xs) acc g tc te τ H1 Q:=by
 refine ⟨fun i m τ H=>m=xs.length - i/\i<=xs.length/\Pv i τ H,⟨xs.length,by simp,aez _,h0⟩,?_⟩
 rintro i m τ H ⟨rfl,hi,p⟩
 have q:=hl i τ H hi p
 by_cases hlt:i<xs.length
 ·refine .inr ⟨⟨q,hlt⟩,Pv (i+1),fun τ' H' p'=>⟨xs.length - (i+1),by omega,rfl,hlt,p'⟩,fun x H' y=>?_⟩
  obtain ⟨T,b,rfl,hT,hb,rfl⟩:=y
  exact hs i b T τ _ hb p hT
 ·have e:i=xs.length:=by omega
  subst e
  exact .inl ⟨⟨q,ad2 _⟩,hd τ H p⟩
theorem Em {K:PySem.W.Frag}{l1 l2:Addr}{xs ys:List V}{acc:Addr}{g:TG}{tc:TT}{te:TE}{τ:St}{H1:Hp}{Q:Hp->Prop}(Pv:Nat->St->Hp->Prop)(hxy:xs.length=ys.length)(h0:Pv 0 τ (upd H1 acc (.lst [])))(hl:∀ i τ H,i<=xs.length->Pv i τ H->SqL K H l1 xs/\SqL K H l2 ys)
  (hs:∀ i x y T τ H,xs[i]?=some x->ys[i]?=some y->Pv i τ H->H T=none->g (.ref T) τ (upd H T (.tup [x,y])) fun τ4 H4=>tc τ4 H4 fun b H5=>if b=true then te τ4 H5 fun y H6=>∃ ys,H6 acc=some (.lst ys)/\ys.length<sizeLine/\Pv (i+1) τ4 (upd H6 acc (.lst (ys++[y]))) else Pv (i+1) τ4 H5)
  (hd:∀ τ H,Pv xs.length τ H->Q H):BJ (Itz K l1 l2 xs ys) acc g tc te τ H1 Q:=by
 refine ⟨fun i m τ H=>m=xs.length - i/\i<=xs.length/\Pv i τ H,⟨xs.length,by simp,aez _,h0⟩,?_⟩
 rintro i m τ H ⟨rfl,hi,p⟩
 obtain ⟨q1,q2⟩:=hl i τ H hi p
 by_cases hlt:i<xs.length
 ·refine .inr ⟨⟨q1,q2,hlt,by omega⟩,Pv (i+1),fun τ' H' p'=>⟨xs.length - (i+1),by omega,rfl,hlt,p'⟩,fun x H' y=>?_⟩
  obtain ⟨T,b,c,rfl,hT,hb,hc,rfl⟩:=y
  exact hs i b c T τ _ hb hc p hT
 ·have e:i=xs.length:=by omega
  subst e
  exact .inl ⟨⟨q1,q2,.inl (ad2 _)⟩,hd τ H p⟩
theorem Qt (hc:X.calm=true):vM X (.builtin "min") (fun xs H Q=>∃ (p:Addr)(ns:List Int),xs=[.ref p]/\SqL X.K H p (ns.map V.int)/\0<ns.length/\∀ M∈ns,(∀ a∈ns,M<=a)->Q (.int M) H):=by
 intro pins s σ H xs us Q I r h;obtain ⟨p,ns,rfl,hq,hne,q⟩:=h;obtain ⟨u,rfl,ru⟩:=vals1 r;cases ru;obtain ⟨its,r1,p1,hz⟩:=I.list hq;have hi:IntsAre its ns:=intsAre_of r1;obtain ⟨ys,hx⟩:=hi.allInts.items;have hl':s.heap.IsList p (intItems ys):=hx ▸ p1.isList;have hns:ns=ys.toList.map (·.1):=by
  rw [<- nums_intItems,<- hx];exact (show numsOf its.toArray.toList=ns from hi.numsOf).symm
 have hsz:0<ys.size:=by
  have z:=congrArg List.length hns;simp at z;omega
 refine min_intList (I.ok.hd hc) hl' hsz fun v h' tk hv hk=>?_;obtain ⟨t,rfl⟩:=intItems_at hv;obtain ⟨h1,h2⟩:=argBest_lt (numAt ys) (ys.size - 1);refine ⟨.int _,H,I.kept hk,⟨t,rfl⟩,q _ ?_ fun a ha=>?_⟩
 ·rw [hns,numAt_eq];exact getD_mem (by rw [TX,aeI];omega)
 ·rw [hns] at ha;obtain ⟨j,hj,rfl⟩:=mem_getD ha;rw [TX,aeI] at hj;rw [<- numAt_eq];exact h2 j (by omega)
end
structure Iv (P:Prop):Prop where
 t:True
 p:P
theorem ifT {c:Bool}{A B:Prop}(h:c=true)(a:A):if c=true then A else B:=by rw [if_pos h];exact a
theorem ifF {c:Bool}{A B:Prop}(h:c=false)(b:B):if c=true then A else B:=by rw [if_neg (by rw [h];exact aec)];exact b
theorem ifB {c:Bool}{A B:Prop}(h1:c=true->A)(h2:c=false->B):if c=true then A else B:=by
 cases c with
 | true=>exact ifT rfl (h1 rfl)
 | false=>exact ifF rfl (h2 rfl)
theorem Z2 (x y:Int):decide (V.int x=V.int y)=decide (x=y):=by
 by_cases h:x=y
 ·simp [h]
 ·have:¬ V.int x=V.int y:=fun e=>h (by cases e;rfl);simp [h,this]
theorem gk {ns:List Int}{i:Int}(h0:0<=i)(h1:i<(ns.length:Int)):atI (ns.map V.int) i=some (V.int (ns.getD i.toNat 0)):=by
 refine mK h0 ?_;rw [ad0,adW (by omega)];rfl
theorem bL {ns:List Int}{k:Nat}(h:k<ns.length):ns[k]?=some (ns.getD k 0):=by
 rw [ad0,adW h];rfl
theorem adh {n:Nat}{i:Int}(h0:0<=i)(h1:i<(n:Int)):ixN n i=some i.toNat:=by
 unfold ixN;rw [if_pos h0,if_pos h1]
theorem bT.mo {T:dY}{K:PySem.W.Frag}{H H':Hp}{vs:List V}{ds:List PyData}(h:bT K H vs ds)(e:aN T H H'):bT K H' vs ds:=bT.Bm e h
theorem SqL.mo {T:dY}{K:PySem.W.Frag}{H H':Hp}{a:Addr}{xs:List V}(h:SqL K H a xs)(e:aN T H H'):SqL K H' a xs:=e.seq h
theorem SqT.mo {T:dY}{K:PySem.W.Frag}{H H':Hp}{a:Addr}{xs:List V}(h:SqT K H a xs)(e:aN T H H'):SqT K H' a xs:=e.acR h
section
variable {T:dY}{H0 H1 H H':Hp}{L L':List (Addr × HO)}{a l p:Addr}{o o':HO}{xs:List V}{K:PySem.W.Frag}
theorem Ow.frz (O:Ow T H0 H ((p,o)::L)):∃ Hn,Ow T Hn H L/\aN T H0 Hn/\Hn p=some o:=by
 obtain ⟨Hn,On,sn,kn⟩:=O.tail.reb;refine ⟨Hn,On,sn,kn p o (O.get 0) fun q hq z=>?_⟩;have nd:=O.nd;rw [aey,ae5] at nd;exact nd.1 (aep.mpr ⟨q,hq,z⟩)
theorem Ow.join (O:Ow T H0 H L)(O':Ow T H H' L'):Ow T H0 H' (L'++L):=by
 have keep:∀ q∈L,H' q.1=some q.2:=fun q hq=>(O.vL O'.same).at_ q hq;refine ⟨O.same.trans O'.same,fun q hq=>?_,fun q hq=>?_,fun q hq=>?_,?_⟩
 ·rcases aem.mp hq with h| h
  ·exact O.same.free (O'.new q h)
  ·exact O.new q h
 ·rcases aem.mp hq with h| h
  ·exact O'.at_ q h
  ·exact keep q h
 ·rcases aem.mp hq with h| h
  ·exact O'.pl q h
  ·exact O.pl q h
 ·rw [ad3,afJ];refine ⟨O'.nd,O.nd,fun x hx y hy z=>?_⟩;obtain ⟨q,hq,rfl⟩:=aep.mp hx;obtain ⟨r,hr,rfl⟩:=aep.mp hy;have:=O'.new q hq;rw [z,O.at_ r hr] at this;cases this
end
def dTup (ns:List Int):PyData:=.tuple (ns.map PyData.int)
def J0 (rs:List (List Int)):PyData:=.list (rs.map tV)
section
variable {K:PySem.W.Frag}{H:Hp}{v:V}{a:Addr}{ns:List Int}{rs:List (List Int)}
theorem Den.tup (h:SqT K H a (ns.map V.int)):Den K H (.ref a) (dTup ns):=.tuple h (bT.ints ns)
theorem Den.Ls (h:Den K H v (dTup ns)):∃ a,v=.ref a/\SqT K H a (ns.map V.int):=by
 cases h with
 | tuple h hs=>exact ⟨_,rfl,by rw [<- bT.int_inv hs];exact h⟩
theorem Den.mJ {ds:List PyData}(h:Den K H v (.list ds)):∃ a xs,v=.ref a/\SqL K H a xs/\bT K H xs ds:=by
 cases h with
 | list h hs=>exact ⟨_,_,rfl,h,hs⟩
theorem Den.Lr {ds:List PyData}(h:Den K H v (.tuple ds)):∃ a xs,v=.ref a/\SqT K H a xs/\bT K H xs ds:=by
 cases h with
 | tuple h hs=>exact ⟨_,_,rfl,h,hs⟩
end
section
variable {A B:Prop}
theorem ifD {p:Prop} [Decidable p] (h1:p->A) (h2:¬ p->B):if decide p=true then A else B:=ifB (fun h=>h1 (of_decide_eq_true h)) fun h=>h2 (of_decide_eq_false h)
theorem ifI {x y:Int}(h1:x=y->A)(h2:¬ x=y->B):if decide (V.int x=V.int y)=true then A else B:=by rw [Z2];exact ifD h1 h2
theorem ifN {c:Bool}(h:if c=true then B else A):if (!c)=true then A else B:=by cases c <;>simpa using h
end
structure Lic where
 day:Int
 start:Int
 back:Int
 most:Int
def Ig (l:Lic):PyData:=dTup [l.day,l.start,l.back,l.most]
def SM (ls:List Lic):PyData:=.list (ls.map Ig)
abbrev yV (l:Lic):List V:=[.int l.day,.int l.start,.int l.back,.int l.most]
section
variable {K:PySem.W.Frag}{H:Hp}{v:V}{a:Addr}{ls:List Lic}{l:Lic}{xs:List V}{k:Nat}
theorem Den.lic (h:SqT K H a (yV l)):Den K H (.ref a) (Ig l):=Den.tup (ns:=[l.day,l.start,l.back,l.most]) h
theorem Den.Ob (h:Den K H v (Ig l)):∃ a,v=.ref a/\SqT K H a (yV l):=h.Ls
theorem bT.wC (h:bT K H xs (ls.map Ig))(hk:ls[k]?=some l):∃ a,xs[k]?=some (.ref a)/\SqT K H a (yV l):=by
 obtain ⟨v,h1,h2⟩:=h.get (i:=k) (d:=Ig l) (by rw [ad5,hk];rfl);obtain ⟨a,rfl,hT⟩:=h2.Ob;exact ⟨a,h1,hT⟩
theorem bT.qD (h:bT K H xs (ls.map Ig))(hx:xs[k]?=some v):∃ a l,v=.ref a/\ls[k]?=some l/\SqT K H a (yV l):=by
 obtain ⟨d,h1,h2⟩:=h.get' hx;rw [ad5] at h1;cases e:ls[k]? with
 | none=>rw [e] at h1;cases h1
 | some l =>
  rw [e] at h1;cases h1;obtain ⟨a,rfl,hT⟩:=h2.Ob;exact ⟨a,l,rfl,rfl,hT⟩
end
theorem Z5 (xs:List V)(i j:Nat):Aq xs (some (i:Int)) (some (j:Int))=(xs.drop i).take (j - i):=by
 unfold Aq;rw [HT.uL,HT.uL];refine afz fun k=>?_;simp only [List.getElem?_take,afF];by_cases h1:k<j - i
 ·rw [if_pos h1];by_cases h2:i+k<xs.length
  ·rw [if_pos (by omega),show min i xs.length=i by omega]
  ·rw [aex (l:=xs) (i:=i+k) (by omega)];split
   ·exact aex (by omega)
   ·rfl
 ·rw [if_neg h1];split
  ·rename_i h3
   omega
  ·rfl
theorem YT (ns:List Int)(i j:Nat):Aq (ns.map V.int) (some (i:Int)) (some (j:Int))=((ns.drop i).take (j - i)).map V.int:=by
 rw [Z5,List.map_take,List.map_drop]
theorem J1 (ns:List Int)(i:Nat):Aq (ns.map V.int) (some (i:Int)) none=(ns.drop i).map V.int:=by
 unfold Aq;rw [HT.uL,TX,show HT.sIx ns.length ns.length none=ns.length from rfl,List.map_drop];by_cases h:i<=ns.length
 ·rw [Nat.min_eq_left h,ad8 (by rw [aeS,TX];omega)]
 ·rw [Nat.min_eq_right (by omega),List.drop_of_length_le (l:=ns.map V.int) (i:=i) (by rw [TX];omega),afC,List.take_zero]
theorem lex3 (d n i d' m j:Int):HT.lexLt [d,n,i] [d',m,j]=true↔(d<d'\/d=d'/\(n<m\/n=m/\i<j)):=by
 simp only [HT.lexLt];by_cases h1:d=d'
 ·by_cases h2:n=m
  ·by_cases h3:i=j
   ·simp [h1,h2,h3]
   ·simp [h1,h2,h3]
  ·simp [h1,h2]
 ·simp [h1]
theorem Ow.lend {T:dY}{H0 H:Hp}{A B:List (Addr × HO)}(O:Ow T H0 H (A++B)):∃ H1,Ow T H1 H A/\aN T H0 H1/\(∀ p∈B,H1 p.1=some p.2)/\∀ (H':Hp)(A':List (Addr × HO)),Ow T H1 H' A'->Ow T H0 H' (A'++B):=by
 have OA:Ow T H0 H A:=O.sub (afX A B);have OB:Ow T H0 H B:=O.sub (afV A B);obtain ⟨H1,O1,s1,k1⟩:=OA.reb;have nd:=O.nd;rw [ad3,afJ] at nd;have hB:∀ p∈B,H1 p.1=some p.2:=fun p hp=>k1 p.1 p.2 (OB.at_ p hp) fun q hq z=>nd.2.2 q.1 (aep.mpr ⟨q,hq,rfl⟩) p.1 (aep.mpr ⟨p,hp,rfl⟩) z;refine ⟨H1,O1,s1,hB,fun H' A' O'=>?_⟩;refine ⟨s1.trans O'.same,fun p hp=>?_,fun p hp=>?_,fun p hp=>?_,?_⟩
 ·rcases aem.mp hp with h| h
  ·exact s1.free (O'.new p h)
  ·exact OB.new p h
 ·rcases aem.mp hp with h| h
  ·exact O'.at_ p h
  ·refine O'.same.keep _ _ (hB p h) fun ps z=>?_;have:=OB.pl p h;rw [z] at this;cases this
 ·rcases aem.mp hp with h| h
  ·exact O'.pl p h
  ·exact OB.pl p h
 ·rw [ad3,afJ];refine ⟨O'.nd,OB.nd,fun x hx y hy z=>?_⟩;obtain ⟨q,hq,rfl⟩:=aep.mp hx;obtain ⟨r,hr,rfl⟩:=aep.mp hy;have e:=O'.new q hq;rw [z,hB r hr] at e;cases e
theorem qw {X:Cx}{K:PySem.W.Frag}{pos:Pos}{es:List Expr}{k:Nat}{t:TGs}{n:Nat}(hK:X.K=K)(hc:X.calm=true)(h:PGs X es t)(hn:(assignEach es X.env).length=n:=by rfl)(hst:(assignEach es X.env).findIdx? (·.1)=none:=by rfl):PG X (.Tuple es k pos) (adQ K n t):=hK ▸ fZ hc h hn hst
theorem aai {τ:St}{H:Hp}{A B:Hp->Prop}(h:A H):acu τ H fun b H5=>if b=true then A H5 else B H5:=by
 show if true=true then A H else B H;rw [if_pos rfl];exact h
theorem Cq {α:Type}:∀ {L:List α}{k:Nat}{p:α},L[k]?=some p->(p::L.eraseIdx k).Perm L
 | [],_,_,h=>by simp at h
 | a::L,0,p,h=>by
  have e:a=p:=by simpa using h
  subst e;exact List.Perm.refl _
 | a::L,k+1,p,h=>by
  have h':L[k]?=some p:=by simpa using h
  rw [List.eraseIdx_cons_succ];exact (List.Perm.swap a p _).trans ((Cq h').cons a)
section
variable {T:dY}{H0 H:Hp}{L:List (Addr × HO)}{p:Addr}{o:HO}
theorem Ow.pull (O:Ow T H0 H L)(k:Nat)(h:L[k]?=some (p,o):=by rfl):Ow T H0 H ((p,o)::L.eraseIdx k):=O.perm (Cq h)
theorem Ow.R9 (O:Ow T H0 H L)(k:Nat)(h:L[k]?=some (p,o):=by rfl):∃ Hn,Ow T Hn H (L.eraseIdx k)/\aN T H0 Hn/\Hn p=some o:=(O.pull k h).frz
theorem Ow.del (O:Ow T H0 H L)(k:Nat):Ow T H0 H (L.eraseIdx k):=O.sub (List.eraseIdx_sublist L k)
end
theorem bT.Y4 {K:PySem.W.Frag}{H:Hp}{xs:List V}{ws:List (List Int)}{i:Nat}{x:V}(h:bT K H xs (ws.map tV))(hx:xs[i]?=some x):∃ a w,x=.ref a/\ws[i]?=some w/\SqL K H a (w.map V.int):=by
 obtain ⟨d,h1,h2⟩:=h.get' hx;rw [ad5] at h1;cases e:ws[i]? with
 | none=>rw [e] at h1;cases h1
 | some w =>
  rw [e] at h1;cases h1;obtain ⟨a,rfl,hL⟩:=h2.zy;exact ⟨a,w,rfl,rfl,hL⟩
theorem bT.Lh {K:PySem.W.Frag}{H:Hp}{xs:List V}{ws:List (List Int)}{i:Nat}{w:List Int}(h:bT K H xs (ws.map tV))(hw:ws[i]?=some w):∃ a,xs[i]?=some (.ref a)/\SqL K H a (w.map V.int):=by
 obtain ⟨v,h1,h2⟩:=h.get (i:=i) (d:=tV w) (by rw [ad5,hw];rfl);obtain ⟨a,rfl,hL⟩:=h2.zy;exact ⟨a,h1,hL⟩
theorem wG {X:Cx}{K:PySem.W.Frag}(h:X.K=K):vM X (.type "list") (abz K):=h ▸ bx
end L2
namespace L2
open PySem PySem.W PySem.Spec PyProof.Rows
theorem N8 (a v:Value):argsOk "min" ⟨[a],[(Str.ofString "default",v)]⟩:=by unfold argsOk;kernel_rfl
section
variable {prog:Program}{w:World}{A:Around}{R:Result->Shared->Prop}{I:Addr}{fp wr:List Addr}{n:Nat}{P:Nat->Value->Prop}{St:Nat->Heap->Prop}
theorem N7 (W:Walks prog w A.in1 I fp wr n P St)(bt:Nat->Nat->Bool)(hcmp:CmpOf prog w A.in1 .Lt P bt)(S:Addr)(hSf:S ∉ fp)(d:Value):
  ∀ (k j:Nat)(s:Shared)(bs:Array Value)(c:Nat),n - j=k->j<=n->St j s.heap->((j=0/\bs=#[])\/∃ i vb,j=i+1/\bs=#[vb,vb]/\P (argBest bt i) vb) ->
  s.heap.get? S=some { cls:=.type "list",dict:=none,data:=.seq bs c,slots:=#[] } ->
  (n=0->∀ h' tk,(∀ b o,b ∉ wr->b≠S->s.heap.get? b=some o->h'.get? b=some o)->R (.ok (.ret d)) { s with heap:=h',toks:=tk }) ->
  (∀ v h' tk,0<n->P (argBest bt (n - 1)) v->(∀ b o,b ∉ wr->b≠S->s.heap.get? b=some o->h'.get? b=some o)->R (.ok (.ret v)) { s with heap:=h',toks:=tk }) ->
  codeAny (model prog w) A (.builtin "min.loop" ⟨[.ref I,.none,.ref S],[(Str.ofString "default",d)]⟩) R s:=by
 have nSw:S ∉ wr:=fun h=>hSf (W.sub _ h);have nm:(toString "min"++toString ".loop":String)="min.loop":=by decide
 intro k
 induction k with
 | zero =>
  intro j s bs c hk hj hst hb hS hR0 hR1;have ej:j=n:=Nat.le_antisymm hj (Nat.le_of_sub_eq_zero hk);subst ej;refine codeAny_builtin F.entry_min_loop ?_;rw [afP afD _];show wpAny _ A.in1 (seqItems? (.ref S)>>=_) _ _ s;refine wpAny_bind (wpAny_seqItems hS rfl ?_);rcases hb with ⟨e0,rfl⟩ | ⟨i,vb,ei,rfl,hP⟩
  ·show wpAny _ A.in1 (tryCatch (pyNext (.ref I)) _ >>=_) _ _ s;refine wpAny_bind (wpAny_tryCatch (W.done s _ _ hst fun h' tk hk'=>?_));refine wpAny_bind (wpAny_rule ?_);exact wpAny_pure (hR0 e0 h' tk fun b o hbw _ e=>hk' b o hbw e)
  ·show wpAny _ A.in1 (tryCatch (pyNext (.ref I)) _ >>=_) _ _ s;refine wpAny_bind (wpAny_tryCatch (W.done s _ _ hst fun h' tk hk'=>?_));have hS':=hk' S _ nSw hS;show wpAny _ A.in1 (updateSeq S (fun _=>#[])>>=_) _ _ _;refine wpAny_bind (wpAny_updateSeq hS' rfl (wpAny_bind (wpAny_letGo (wpAny_pure ?_))));exact hR1 vb _ tk (by omega) (by rw [ei];exact hP) fun b o hbw hbS e=>(aeJ _ _ (Ne.symm hbS)).trans (hk' b o hbw e)
 | succ k ih =>
  intro j s bs c hk hj hst hb hS hR0 hR1;have hlt:j<n:=Nat.sub_pos_iff_lt.mp (by rw [hk];exact Nat.succ_pos k);refine codeAny_builtin F.entry_min_loop ?_;rw [afP afD _];show wpAny _ A.in1 (seqItems? (.ref S)>>=_) _ _ s;refine wpAny_bind (wpAny_seqItems hS rfl ?_);rcases hb with ⟨e0,rfl⟩ | ⟨i,vb,ei,rfl,hPb⟩
  ·show wpAny _ A.in1 (tryCatch (pyNext (.ref I)) _ >>=_) _ _ s;refine wpAny_bind (wpAny_tryCatch (W.item j s _ _ hlt hst fun v h' tk hP hst' hk'=>?_));have hS':=hk' S _ nSw hS;show wpAny _ A.in1 (updateSeq S (fun _=>#[v,v])>>=_) _ _ _;refine wpAny_bind (wpAny_updateSeq hS' rfl ?_);rw [nm];subst e0;refine wpAny_pure ⟨plainId_quiet afD _,ih 1 _ _ _ (by omega) (by omega) (W.frame _ _ _ hst' fun b hbf o e=>(aeJ _ _ (fun h:S=b=>hSf (by rw [h];exact hbf))).trans e) (.inr ⟨0,v,rfl,rfl,hP⟩) (Heap.get?_update_self _ hS' rfl) (fun z=>by omega) fun v' h'' tk'' hn' hP' hk''=>?_⟩;exact hR1 v' h'' tk'' hn' hP' fun b o hbw hbS e=>hk'' b o hbw hbS ((aeJ _ _ (Ne.symm hbS)).trans (hk' b o hbw e))
  ·subst ei;show wpAny _ A.in1 (tryCatch (pyNext (.ref I)) _ >>=_) _ _ s;refine wpAny_bind (wpAny_tryCatch (W.item (i+1) s _ _ hlt hst fun v h' tk hP hst' hk'=>?_));have hS':=hk' S _ nSw hS;show wpAny _ A.in1 (tryCatch (holding [v,v] (richCompare .Lt v vb >>=_)) _ >>=_) _ _ _;refine wpAny_bind (wpAny_tryCatch (wpAny_holding (wpAny_bind (hcmp (i+1) (argBest bt i) v vb _ _ _ hP hPb (wpAny_bind (wpAny_holding (wpAny_truthy_bool (wpAny_bind (wpAny_letGo (wpAny_pure ?_))))))))));cases hb:bt (i+1) (argBest bt i) with
   | true =>
    simp only [if_true];refine wpAny_bind (wpAny_updateSeq hS' rfl (wpAny_bind (wpAny_letGo ?_)));rw [nm];refine wpAny_pure ⟨plainId_quiet afD _,ih (i+1+1) _ _ _ (by omega) (by omega) (W.frame _ _ _ hst' fun b hbf o e=>(aeJ _ _ (fun h:S=b=>hSf (by rw [h];exact hbf))).trans e) (.inr ⟨i+1,v,rfl,rfl,by simp only [argBest,hb,if_true];exact hP⟩) (Heap.get?_update_self _ hS' rfl) (fun z=>by omega) fun v' h'' tk'' hn' hP' hk''=>?_⟩;exact hR1 v' h'' tk'' hn' hP' fun b o hbw hbS e=>hk'' b o hbw hbS ((aeJ _ _ (Ne.symm hbS)).trans (hk' b o hbw e))
   | false =>
    simp only [afi,if_false];refine wpAny_bind (wpAny_letGo ?_);rw [nm];refine wpAny_pure ⟨plainId_quiet afD _,ih (i+1+1) _ _ c (by omega) (by omega) hst' (.inr ⟨i+1,vb,rfl,rfl,by simp only [argBest,hb,afi,if_false];exact hPb⟩) hS' (fun z=>by omega) fun v' h'' tk'' hn' hP' hk''=>?_⟩;exact hR1 v' h'' tk'' hn' hP' fun b o hbw hbS e=>hk'' b o hbw hbS (hk' b o hbw e)
end
section
variable {X:Cx}
def acB (K:PySem.W.Frag)(d:Int)(te:TE):TE:=fun σ H Q=>te σ H fun x H1=>∃ (p:Addr)(ns:List Int),x=.ref p/\SqL K H1 p (ns.map V.int)/\(ns=[]->Q (.int d) H1)/\∀ M∈ns,(∀ a∈ns,M<=a)->Q (.int M) H1
theorem Zh {e:Expr}{te:TE}{d:Int}{j:Nat}{p1 cp kp pos:Pos}(hcalm:X.calm=true)(hg:Gl X "min")(hm:X.mg "min"=none)(he:PE X e te)(h1:backTo pos (starEach [e] X.env)=(false,eval e X.env)::backTo pos (starEach [] X.env):=by rfl)(h2:(backTo pos (starEach [e] X.env)).any (·.1)=false:=by rfl):
  PE X (.Call (.Name "min" p1) [e] [⟨some "default",.Constant (.int d) j cp,kp⟩] pos) (acB X.K d te):=by
 intro pins s σ H Q I h;refine wpAny_Call_Name_kw (nJ I hg hm boot_min ?_);refine callWith_kw ?_ h1 h2;rw [h1];refine afh (thn (he pins s σ H _ I h) fun u s1 ⟨x,H1,I1,rx,q1⟩=>?_);obtain ⟨p,ns,rfl,hq,q0,qm⟩:=q1;cases rx;refine afy ?_;refine kws_cons (wpAny_Constant_int ?_);refine kws_nil ?_;show wpAny _ _ (call (.builtin "min") [.ref p] [(Str.ofString "default",.int d _)]) _ _ _;obtain ⟨its,r1,p1,hz⟩:=I1.list hq;have hi:IntsAre its ns:=intsAre_of r1;obtain ⟨ys,hx⟩:=hi.allInts.items;have hl':s1.heap.IsList p (intItems ys):=hx ▸ p1.isList;have hns:ns=ys.toList.map (·.1):=by
  rw [<- nums_intItems,<- hx];exact (show numsOf its.toArray.toList=ns from hi.numsOf).symm
 have nm:(toString "min"++toString ".loop":String)="min.loop":=by decide
 have hys:(intItems ys).size=ns.length:=by rw [hns];simp [intItems]
 refine kmb_tree F.kind_min F.plain_min F.entry_min (N8 _ _) ?_;show wpAny _ _ (Builtin.Builtins.bindParams "min" ["key","default"] 0 ⟨[],[(Str.ofString "default",.int d s1.toks)]⟩>>=_) _ _ _;refine wpAny_bind (wpAny_of_eq (show Builtin.Builtins.bindParams "min" ["key","default"] 0 ⟨[],[(Str.ofString "default",.int d s1.toks)]⟩=pure [none,some (.int d s1.toks)] from rfl) ?_);refine wpAny_bind (wpAny_pure ?_);refine wpAny_bind (iter_intList (s:={ s1 with toks:=s1.toks+1 }) hl' fun s₂ e st hfp hlI=>?_);subst e;refine wpAny_bind (wpAny_newObj_type ?_);rw [nm];have kept:∀ {h':Heap}{g:Heap}{S:Addr},(∀ b o,s1.heap.get? b=some o->g.get? b=some o)->S=s1.heap.objs.size+1->(∀ b o,b ∉ [s1.heap.objs.size]->b≠S->g.get? b=some o->h'.get? b=some o)->∀ b o,s1.heap.get? b=some o->h'.get? b=some o:=fun hg hS hk b o e=>by
  have lt:=aei e;refine hk b o (fun z=>?_) (fun z=>?_) (hg b o e)
  ·rw [aeD.mp z] at lt;exact ae3 _ lt
  ·rw [z,hS] at lt;exact absurd lt (by simp only [Addr] at lt ⊢;omega)
 have hg2:∀ b o,s1.heap.get? b=some o->((s1.heap.push { cls:=.type "list_iterator",data:=.fields #[.ref p,.int 0 0] }).push { cls:=.type "list",data:=.seq #[] }).get? b=some o:=fun b o e=>ad6 _ (ad6 _ e);have hsz:(s1.heap.push { cls:=.type "list_iterator",data:=.fields #[.ref p,.int 0 0] }).objs.size=s1.heap.objs.size+1:=Heap.size_push ..;refine wpAny_pure ⟨plainId_quiet afD _,N7 (Walks.list (A:=X.A.in1) (I.ok.hd hcalm) _ p hlI (intItems ys)) _ (CmpOf.ints_lt (numAt ys) (fun _ _=>intItems_at)) _ (fun hm=>ae3 _ (hfp _ hm)) (.int d s1.toks) _ 0 _ #[] _ rfl (aez _)
  ⟨Heap.IsListIter.at st.1 fun o e=>ad6 _ e,st.2.push _⟩ (.inl ⟨rfl,rfl⟩) (aer _ rfl) (fun h0 h' tk hk=>?_) fun v h' tk hn hP hk=>?_⟩
 ·have e0:ns=[]:=List.length_eq_zero_iff.mp (by rw [<- hys];exact h0);exact ⟨.int d,H1,I1.kept (t':=tk) (kept hg2 hsz hk),⟨_,rfl⟩,q0 e0⟩
 ·obtain ⟨t,rfl⟩:=intItems_at hP;obtain ⟨h1,h2⟩:=argBest_lt (numAt ys) ((intItems ys).size - 1);have hyz:(intItems ys).size=ys.size:=by simp [intItems]
  refine ⟨.int _,H1,I1.kept (t':=tk) (kept hg2 hsz hk),⟨t,rfl⟩,qm _ ?_ fun a ha=>?_⟩
  ·rw [hns,numAt_eq];exact getD_mem (by rw [TX,aeI];omega)
  ·rw [hns] at ha;obtain ⟨j,hj,rfl⟩:=mem_getD ha;rw [TX,aeI] at hj;rw [<- numAt_eq];exact h2 j (by omega)
end
end L2
namespace L2
open PySem PySem.Spec PyProof.Rows
section
variable {κ:Type} [DecidableEq κ]
def G7 (kvs:List (κ × V))(k:κ):Option V:=(kvs.find? fun kv=>decide (kv.1=k)).map (·.2)
def putK (kvs:List (κ × V))(k:κ)(v:V):List (κ × V):=
 if (kvs.any fun kv=>decide (kv.1=k))=true then kvs.map (fun kv=>if kv.1=k then (kv.1,v) else kv) else kvs++[(k,v)]
theorem Io {p:κ × V}{r:List (κ × V)}{k:κ}(e:p.1=k):G7 (p::r) k=some p.2:=by simp [G7,List.find?_cons,e]
theorem Ip {p:κ × V}{r:List (κ × V)}{k:κ}(e:¬ p.1=k):G7 (p::r) k=G7 r k:=by simp [G7,List.find?_cons,e]
theorem Ir (k:κ):∀ kvs:List (κ × V),(kvs.any fun kv=>decide (kv.1=k))=(G7 kvs k).isSome
 | []=>rfl
 | p::r=>by
  rw [af0];by_cases e:p.1=k
  ·simp only [Io e,decide_eq_true e,Bool.true_or,Option.isSome_some]
  ·rw [Ip e,decide_eq_false e,Bool.false_or];exact Ir k r
theorem HX (kvs:List (κ × V))(k:κ)(v:V):(putK kvs k v).length<=kvs.length+1:=by
 unfold putK;split
 ·rw [TX];omega
 ·rw [ad7,ael,aeR];omega
theorem Q9 {kvs:List (κ × V)}{k:κ}(v:V)(h:G7 kvs k=none):putK kvs k v=kvs++[(k,v)]:=by
 unfold putK;rw [Ir,h];exact if_neg (by decide)
theorem KV.val {kvs:List (κ × V)}{vs:List (κ × Value)}(r:KV kvs vs)(k:κ):QD (G7 kvs k) (valueAt vs k):=by
 unfold KV at r
 induction r with
 | nil=>exact True.intro
 | @cons p q ps qs h t ih =>
  obtain ⟨h1,h2⟩:=h;by_cases e:p.1=k
  ·have e':q.1=k:=h1.symm.trans e;have b:valueAt (q::qs) k=some q.2:=by simp [valueAt,List.find?_cons,e']
   rw [Io e,b];exact h2
  ·have e':¬ q.1=k:=fun z=>e (h1.trans z);have b:valueAt (q::qs) k=valueAt qs k:=by simp [valueAt,List.find?_cons,e']
   rw [Ip e,b];exact ih
theorem KV.any {kvs:List (κ × V)}{vs:List (κ × Value)}(r:KV kvs vs)(k:κ):(kvs.any fun kv=>decide (kv.1=k))=vs.any fun kv=>decide (kv.1=k):=by
 unfold KV at r
 induction r with
 | nil=>rfl
 | cons h t ih=>rw [af0,af0,ih,h.1]
theorem KV.repl {kvs:List (κ × V)}{vs:List (κ × Value)}(r:KV kvs vs)(k:κ){y:V}{u:Value}(ry:RelV y u):
  KV (kvs.map fun kv=>if kv.1=k then (kv.1,y) else kv) (vs.map fun kv=>if kv.1=k then (kv.1,u) else kv):=by
 unfold KV at r ⊢
 induction r with
 | nil=>exact .nil
 | @cons p q ps qs h t ih =>
  rw [aey,aey];refine .cons ?_ ih;obtain ⟨h1,h2⟩:=h;by_cases e:p.1=k
  ·rw [if_pos e,if_pos (h1.symm.trans e)];exact ⟨h1,ry⟩
  ·rw [if_neg e,if_neg (fun z=>e (h1.trans z))];exact ⟨h1,h2⟩
theorem KV.put {kvs:List (κ × V)}{vs:List (κ × Value)}(r:KV kvs vs)(k:κ){y:V}{u:Value}(ry:RelV y u):KV (putK kvs k y) (stored vs k u):=by
 unfold putK stored;rw [r.any k];by_cases e:(vs.any fun kv=>decide (kv.1=k))=true
 ·rw [if_pos e,if_pos e];exact r.repl k ry
 ·rw [if_neg e,if_neg e];exact Paired.snoc r ⟨rfl,ry⟩
theorem KV.length {kvs:List (κ × V)}{vs:List (κ × Value)}(r:KV kvs vs):kvs.length=vs.length:=Paired.length r
end
theorem aby {P:Program}{w:World}{k:Key}{u:Value}(r:RelV (kV k) u):(iD P w).is k u=true:=by
 cases k with
 | inl i=>obtain ⟨t,e⟩:=(show ∃ t,u=Value.int i t from r);subst e;exact HW P w i t
 | inr x=>obtain ⟨t,e⟩:=(show ∃ t,u=Value.str x t from r);subst e;exact HS P w x t
theorem Gs {P:Program}{w:World}:∀ {ks:List Key}{us:List Value},Vals (ks.map kV) us->ItemsAre (iD P w) ks us
 | [],_,r=>by rw [List.map_nil] at r;cases r;exact .nil
 | k::ks,_,r=>by
  rw [aey] at r;cases r with
  | cons h t=>exact .cons (aby h) (Gs t)
abbrev KT (H:Hp):List (List Key × V)->List (List Key × Addr × Value)->Prop:=Paired fun p q=>p.1=q.1/\H q.2.1=some (.tup (p.1.map kV))/\RelV p.2 q.2.2
section
variable {P:Program}{w:World}{H:Hp}{h:Heap}{a:Addr}
theorem aaL {u:HO}(ok:HOk P w H h)(e:Rd H a u):iC P w H h a u:=e.ok ok
theorem Z1 {kvs:List (Key × V)}(ok:HOk P w H h)(e:Rd H a (.dK kvs)):kvs.length<=sizeLine/\(a ==sysModules)=false/\∃ vs,KV kvs vs/\h.DictOf (iD P w) a vs:=
 show iC P w H h a (.dK kvs) from aaL ok e
theorem adv {kvs:List (Key × V)}(ok:HOk P w H h)(e:H a=some (.dK kvs)):kvs.length<=sizeLine/\(a ==sysModules)=false/\∃ vs,KV kvs vs/\h.DictOf (iD P w) a vs:=Z1 ok (.inl e)
theorem abv {ks:List Key}(ok:HOk P w H h)(e:H a=some (.tup (ks.map kV))):(tupleKind (iD P w)).is h ks a:=by
 obtain ⟨_,its,r,o,h1,h2,n,h3⟩:=(show iC P w H h a (.tup (ks.map kV)) from ok a _ e);exact ⟨o,its.toArray,n,h1,h2,h3,by simpa using Gs r⟩
theorem adt {kvs:List (List Key × V)}(ok:HOk P w H h)(e:Rd H a (.dT kvs)):kvs.length<=sizeLine/\(a ==sysModules)=false /\
  ∃ xs,KT H kvs xs/\h.DictOfH (tupleKind (iD P w)) a xs:=by
 obtain ⟨z,y,xs,r,o,es,ep,h1,h2,h3,h4,h5⟩:=(show iC P w H h a (.dT kvs) from aaL ok e);refine ⟨z,y,xs,r,o,es,ep,h1,h2,h3,h4,fun x hx=>?_,h5⟩;have all:∀ {l:List (List Key × V)}{m:List (List Key × Addr × Value)},KT H l m->∀ x∈m,(tupleKind (iD P w)).is h x.1 x.2.1:=by
  intro l m q
  induction q with
  | nil=>intro x hx;exact nomatch hx
  | @cons p q ps qs hq t ih =>
   intro x hx;rcases aen.mp hx with e| hx
   ·subst e;exact abv ok (by rw [<- hq.1];exact hq.2.1)
   ·exact ih x hx
 exact all r x hx
end
section
variable {X:Cx}{pins:List (Addr × Obj)}{σ:St}{H:Hp}{s:Shared}{a:Addr}{y v:V}{u r:Value}{o:Option V}{A:Around}{E:Value->Shared->Prop}
theorem Inv.big (I:Inv X pins σ H s):sysModules<s.heap.objs.size:=by
 have h:mainGlobals<s.heap.objs.size:=(I.mod.glob.keeps I.bk).lt;exact Nat.lt_trans (by decide) h
theorem Z4 {h':Heap}{t':Nat}{ob:HO}(I:Inv X pins σ H s)(mu:Mut (H a))(hs:Heap.SameBut a s.heap h')(he:∃ q,h'.get? a=some q)(new:iC X.prog X.w (upd H a ob) h' a ob):
  Inv X pins σ (upd H a ob) { s with heap:=h',toks:=t' }:=
 I.write (x:=a) (e:=a) mu (.inl rfl) (fun b q hb z=>(hs.2 b hb).trans z) he new
theorem ab2 {P:Program}{w:World}{H':Hp}{h':Heap}{kvs:List (Key × V)}{vs:List (Key × Value)}(z:kvs.length<=sizeLine)(hd:(a ==sysModules)=false)(rel:KV kvs vs)(dd:h'.DictOf (iD P w) a vs):
  iC P w H' h' a (.dK kvs):=⟨z,hd,vs,rel,dd⟩
end
theorem Sx {P:Program}{w:World}{H:Hp}(h:Heap)(hb:sysModules<h.objs.size):iC P w H (h.push { cls:=.type "dict",data:=.dict #[] }) h.objs.size (.dK []):=
 ⟨aez _,beq_eq_false_iff_ne.mpr (Ne.symm (aeN hb)),[],.nil,Heap.DictOf.new h⟩
def aau:TE:=fun _ H Q=>∀ p,H p=none->Q (.ref p) (upd H p (.dK []))
section
variable {X:Cx}{pos:Pos}
theorem Rf:PE X (.Dict [] [] pos) aau:=fun pins s σ H Q I h =>
 wpAny_Dict_empty ⟨.ref s.heap.objs.size,_,I.laid (a:=s.heap.objs.size) (o:=.dK []) (t':=s.toks) (fun _ _ q=>ad6 _ q) (ad2 _) (Sx s.heap I.big),rfl,h _ (I.hok.fresh (ad2 _))⟩
end
structure M2 (X:Cx)(o:Expr)(m:Str)(apos:Pos)(e f:Expr)(cpos:Pos):Prop where
 base:attributeBase o m X.env (eval o X.env)=eval o X.env
 few:((backTo cpos (starEach [e,f] X.env)).all (fun x=>!x.1) && (backToKw cpos (keywordEach [] X.env)).all (fun x=>x.1.isSome)
  && decide (([e,f]:List Expr).length+([]:List Keyword).length+(if ([]:List Keyword).isEmpty then 0 else 1)<30))=true
 line:(apos.endLine ==cpos.line)=true
 trees:backTo cpos (starEach [e,f] X.env)=[(false,eval e X.env),(false,eval f X.env)]
def IsD (H:Hp)(a:Addr):Prop:=(∃ kvs,Rd H a (.dK kvs))\/∃ kvs,Rd H a (.dT kvs)
theorem Uj {X:Cx}{pins:List (Addr × Obj)}{σ:St}{H:Hp}{s:Shared}{a:Addr}(I:Inv X pins σ H s)(d:IsD H a):
  s.TypeIs (.ref a) "dict"/\(∀ b,Value.ref a=.ref b->∃ ob,s.heap.get? b=some ob/\ob.dict=none)/\(a ==sysModules)=false:=by
 rcases d with ⟨kvs,e⟩ | ⟨kvs,e⟩
 ·obtain ⟨_,hd,vs,_,dd⟩:=Z1 I.hok e;refine ⟨dd.typeIs,fun b q=>?_,hd⟩;cases q;obtain ⟨ob,_,_,h1,h2,_⟩:=dd;exact ⟨ob,h1,h2.2.1⟩
 ·obtain ⟨_,hd,xs,_,dd⟩:=adt I.hok e;refine ⟨dd.typeIs,fun b q=>?_,hd⟩;cases q;obtain ⟨ob,_,_,h1,h2,_⟩:=dd;exact ⟨ob,h1,h2.2.1⟩
end L2
namespace L2
open PySem PySem.W PySem.Spec PyProof.Rows
def acE (td ty tx:TE):TE:=fun σ H Q=>td σ H fun x H1=>∃ a,x=.ref a/\IsD H1 a/\ty σ H1 fun y H2=>tx σ H2 fun z H3=>∃ kvs k,H3 a=some (.dK kvs)/\y=kV k/\kvs.length<sizeLine /\
 (∀ v,G7 kvs k=some v->Q v H3)/\(G7 kvs k=none->Q z (upd H3 a (.dK (putK kvs k z))))
section
variable {X:Cx}{o e f:Expr}{apos cpos:Pos}{td ty tx:TE}
theorem Zj (ho:PE X o td)(he:PE X e ty)(hf:PE X f tx)(m:M2 X o "setdefault" apos e f cpos):PE X (.Call (.Attribute o "setdefault" apos) [e,f] [] cpos) (acE td ty tx):=by
 intro pins s σ H Q I h;refine wpAny_Call_method m.base m.few m.line PySem.F.plainAttrs_dict PySem.F.slot_dict_setdefault PySem.F.type_dict_setdefault (thn (ho pins s σ H _ I h) fun u s1 ⟨x,H1,I1,rx,a,ex,d,q1⟩=>?_);subst ex;obtain rfl:u=Value.ref a:=rx;obtain ⟨t1,t2,_⟩:=Uj I1 d;refine ⟨t1,t2,?_⟩;rw [m.trees];refine afI rfl (Calls.evalArgs_plain (afh (thn (he pins s1 σ H1 _ I1 q1) fun iv s2 ⟨y,H2,I2,ry,q2⟩=>
  afh (thn (hf pins s2 σ H2 _ I2 q2) fun fv s3 ⟨z,H3,I3,rz,kvs,k,ea,ey,hl,q3,q4⟩=>afy ?_))))
 subst ey;obtain ⟨z1,hd,vs,rel,dd⟩:=adv I3.hok ea;have rv:=rel.val k;have hlen:=rel.length;refine call_meetsIn PySem.F.slot_dict_setdefault dd.typeIs PySem.F.entry_dict_setdefault (PySem.F.args_dict_setdefault_3 _ _ _) (kt_meets_setdefault (iD X.prog X.w) a (aby ry) hd fv) ⟨vs,dd,by omega,fun v hv=>?_,fun hn h' dd' hs=>?_⟩
 ·rw [hv] at rv;cases l:G7 kvs k with
  | none=>rw [l] at rv;cases rv
  | some v'=>rw [l] at rv;exact ⟨v',H3,I3.tok _,rv,q3 v' l⟩
 ·rw [hn] at rv;cases l:G7 kvs k with
  | some v'=>rw [l] at rv;cases rv
  | none=>exact ⟨z,_,Z4 I3 (by rw [ea];trivial) hs (by obtain ⟨ob,es,ep,he',_⟩:=dd';exact ⟨ob,he'⟩) (ab2 (aeP (HX _ _ _) hl) hd (rel.put k rz) dd'),rz,q4 l⟩
end
def Ly (td:TE):TE:=fun σ H Q=>td σ H fun x H1=>∃ a kvs,x=.ref a/\Rd H1 a (.dK kvs)/\∀ l,H1 l=none->Q (.ref l) (upd H1 l (.lst (kvs.map (·.2))))
theorem KV.vals {kvs:List (Key × V)}{vs:List (Key × Value)}(r:KV kvs vs):Vals (kvs.map (·.2)) (vs.map (·.2)):=by
 induction r with
 | nil=>exact .nil
 | cons h _ ih=>exact .cons h.2 ih
section
variable {X:Cx}{o:Expr}{td:TE}{p1 apos cpos pos:Pos}
theorem Hw (hcalm:X.calm=true)(hgs:Gl X "list")(hms:X.mg "list"=none)(ho:PE X o td)(hb:attributeBase o "values" X.env (eval o X.env)=eval o X.env:=by rfl)(hline:(apos.endLine ==cpos.line)=true:=by rfl):
  PE X (.Call (.Name "list" p1) [.Call (.Attribute o "values" apos) [] [] cpos] [] pos) (Ly td):=by
 intro pins s σ H Q I h;refine Call_ (nJ I hgs hms boot_list (aeO ?_ rfl rfl));show wpAny _ _ (spliced ((false,eval (.Call (.Attribute o "values" apos) [] [] cpos) X.env)::[])) _ _ s;refine afh (wpAny_Call_method hb rfl hline PySem.F.plainAttrs_dict PySem.F.slot_dict_values PySem.F.type_dict_values (thn (ho pins s σ H _ I h) fun u s1 ⟨x,H1,I1,rx,a,kvs,ex,d,q1⟩=>?_));subst ex;obtain rfl:u=Value.ref a:=rx;obtain ⟨t1,t2,_⟩:=Uj I1 (.inl ⟨kvs,d⟩);refine ⟨t1,t2,?_⟩;obtain ⟨hz,hd,vs,rel,dd⟩:=Z1 I1.hok d;refine afI rfl (PyProof.Rows.evalArgs_none ?_);refine call_meetsIn PySem.F.slot_dict_values dd.typeIs PySem.F.entry_dict_values (PySem.F.args_dict_values_1 _) (meets_dict_values (iD X.prog X.w) a hd) ⟨⟨vs,dd⟩,?_⟩;refine afy ?_;obtain ⟨ep,da⟩:=dd.dictAt;have hlen:=rel.length;have hsz:(s1.heap.push { cls:=.type "dict_values",data:=.fields #[.ref a] }).objs.size=s1.heap.objs.size+1:=Heap.size_push ..;refine kdl_call (kdl_values (knd:=iD X.prog X.w) (r:=s1.heap.objs.size) (d:=a) (kvs:=vs) (ep:=ep)) (I.ok.hd hcalm) ⟨⟨_,aer _ rfl,rfl,rfl⟩,da.push _⟩ (by omega) fun h' tk acc c hk hS hacc=>?_;have e:acc.toList=vs.map (·.2):=kdl_vals_eq acc.toList (by rw [aeI];exact hacc.1) fun j v ej=>hacc.2 j v (by rw [<- Array.getElem?_toList];exact ej);refine ⟨.ref (s1.heap.push { cls:=.type "dict_values",data:=.fields #[.ref a] }).objs.size,_,I1.laid (t':=tk) (fun b o e=>hk b o (ad6 _ e)) (by rw [hsz];exact Nat.le_succ _)
  (show iC X.prog X.w _ h' _ (.lst (kvs.map (·.2))) from ⟨by rw [TX];exact hz,acc.toList,c,by rw [e];exact rel.vals,by simpa using hS⟩),rfl,q1 _ (I1.hok.fresh (by rw [hsz];exact Nat.le_succ _))⟩
end
section
variable {X:Cx}
def dPr (z:Int × Int):PyData:=dTup [z.1,z.2]
theorem bT.aaQ {K:PySem.W.Frag}{H:Hp}{xs:List V}{ps:List (Int × Int)}{i:Nat}{x:V}(h:bT K H xs (ps.map dPr))(hx:xs[i]?=some x):∃ a z,x=.ref a/\ps[i]?=some z/\SqT K H a [.int z.1,.int z.2]:=by
 obtain ⟨d,hd,hv⟩:=h.get' hx;rw [ad5] at hd;cases hp:ps[i]? with
 | none=>rw [hp] at hd;cases hd
 | some z =>
  rw [hp] at hd;have e:dPr z=d:=aek hd;subst e;obtain ⟨a,rfl,hT⟩:=(show Den K H x (dTup [z.1,z.2]) from hv).Ls;exact ⟨a,z,rfl,rfl,hT⟩
theorem GC (xs:List V)(j:Nat):Aq xs none (some (j:Int))=xs.take j:=by
 unfold Aq;rw [HT.uL,show HT.sIx xs.length 0 none=0 from rfl,List.drop_zero,Nat.sub_zero];by_cases h:j<=xs.length
 ·rw [Nat.min_eq_left h]
 ·rw [Nat.min_eq_right (by omega),ad8 (ad2 _),ad8 (by omega)]
theorem bT.JC {K:PySem.W.Frag}{H:Hp}{xs:List V}{ps:List (Int × Int × Int)}{i:Nat}{x:V}(h:bT K H xs (ps.map dMv))(hx:xs[i]?=some x):∃ a p,x=.ref a/\ps[i]?=some p/\SqT K H a [.int p.1,.int p.2.1,.int p.2.2]:=by
 obtain ⟨d,hd,hv⟩:=h.get' hx;rw [ad5] at hd;cases hp:ps[i]? with
 | none=>rw [hp] at hd;cases hd
 | some z =>
  rw [hp] at hd;have e:dMv z=d:=aek hd;subst e;obtain ⟨a,rfl,hT⟩:=hv.Ud;exact ⟨a,z,rfl,rfl,hT⟩
theorem getD_some {α:Type}{xs:List α}{i:Nat}{x d:α}(h:xs[i]?=some x):xs.getD i d=x:=by rw [ad0,h];rfl
end
end L2
namespace HT
open PySem PyProof.Rows
theorem Q8 (A:Around)(s:Shared)(a:Int)(t:Tok)(c:Int)(u:Tok)(prog:Program)(w:World)(E:Value->Shared->Prop)(Q:Value->Shared->Prop)(h:Q (.bool (decide (c<a))) s):wpAny (model prog w) A (richCompare .Gt (.int a t) (.int c u)) Q E s:=
 (PyProof.Rows.gt_int h:wpAny (model prog w) A (compareOp .Gt (.int a t) (.int c u)) Q E s)
open PySem.SeqAt PySem.MeetsSeq PySem.MeetsSeq2 PySem.MeetsSeq3 in
theorem CZ (l b:Addr)(is js:Array Value)(n m:Nat)(d1 d2:Option Addr)(s1 s2:Array (Option Value))(ns ms:List Int)(hi:IntsAre is.toList ns)(hj:IntsAre js.toList ms):
  Meets (Builtin.«tuple.__gt__» ⟨[.ref l,.ref b],[]⟩) (fun _ R s=>s.heap.get? l=some { cls:=.type "tuple",dict:=d1,data:=.seq is n,slots:=s1 }/\s.heap.get? b=some { cls:=.type "tuple",dict:=d2,data:=.seq js m,slots:=s2 }/\R (.ok (.ret (.bool (lexLt ms ns)))) s):=
 .of_wp fun prog w A R s h=>by
  obtain ⟨hp,g,d,tk,os⟩:=s;obtain ⟨hl,hb,h⟩:=h;have f2:=PySem.AutoSeq1.sub_tuple_tuple;have z1:is.size=ns.length:=by rw [<- hi.length,aeI]
  have z2:js.size=ms.length:=by rw [<- hj.length,aeI]
  wp_walk using PySem.AutoSeq1.wpAny_loadPart' hl,PySem.AutoSeq1.wpAny_loadPart' hb,wpAny_forIn_list _ (fun rest b s'=>b.1=none/\s'=⟨hp,g,d,tk,os⟩/\∃ (vs ws:List Value)(ns' ms':List Int),rest=vs.zip ws/\IntsAre vs ns'/\IntsAre ws ms'/\ns'.length+js.size=ms'.length+is.size/\R (.ok (.ret (.bool (lexLt ms' ns')))) ⟨hp,g,d,tk,os⟩) _
  case turn =>
   rintro ⟨y,x⟩ rest b s' ⟨hb',rfl,vs,ws,ns',ms',hz,hv,hw,hlen,hR⟩;cases hv with
   | nil=>cases (List.zip_nil_left ▸ hz)
   | cons a t hv' =>
    cases hw with
    | nil=>cases (List.zip_nil_right ▸ hz)
    | cons c u hw' =>
     rw [List.zip_cons_cons] at hz;cases hz;rw [lA] at hR;simp only [ael] at hlen;obtain ⟨e,he,hiff⟩:=Sv A.in1 ⟨hp,g,d,tk,os⟩ a t c u;refine wpAny_bind (he prog w _ _ ?_);cases e with
     | true =>
      rw [if_pos (hiff.mp rfl).symm] at hR;wp_walk;exact ⟨rfl,rfl,_,_,_,_,rfl,hv',hw',(by omega),hR⟩
     | false =>
      rw [if_neg (fun q=>absurd (hiff.mpr q.symm) aec)] at hR;have hgi:=Q8 A.in1 ⟨hp,g,d,tk,os⟩ a t c u prog w;wp_walk using hgi;exact ⟨_,rfl,by simpa using hR⟩
  case fin =>
   rintro ⟨b1,b2⟩ s' ⟨hb',rfl,vs,ws,ns',ms',hz,hv,hw,hlen,hR⟩;simp only at hb';subst hb';have e:lexLt ms' ns'=decide (js.size<is.size):=by
    cases hv with
    | nil =>
     cases hw with
     | nil=>rw [oJ,decide_eq_false (by simp only [aeR] at hlen;omega)]
     | cons c u q=>rw [Bp,decide_eq_false (by simp only [aeR,ael] at hlen;omega)]
    | cons a t q =>
     cases hw with
     | nil=>rw [Bo,decide_eq_true (by simp only [aeR,ael] at hlen;omega)]
     | cons c u q'=>rw [List.zip_cons_cons] at hz;cases hz
   rw [e] at hR;wp_walk;exact ⟨_,rfl,by simpa [Builtin.Tuple.tupleCompareSizes] using hR⟩
  case h=>exact ⟨rfl,rfl,is.toList,js.toList,ns,ms,rfl,hi,hj,(by omega),h⟩
open PySem.SeqAt PySem.MeetsSeq PySem.MeetsSeq2 PySem.MeetsSeq3 in
theorem K5 {prog:Program}{w:World}{A:Around}{E:Value->Shared->Prop}{s:Shared}{l b:Addr}{is js:Array Value}{ns ms:List Int}{Q:Value->Shared->Prop}(hl:IsTup s.heap l is)(hb:IsTup s.heap b js)(hi:IntsAre is.toList ns)(hj:IntsAre js.toList ms)(hu:A.units<cLine)(h:Q (.bool (lexLt ms ns)) s):wpAny (model prog w) A (compareOp .Gt (.ref l) (.ref b)) Q E s:=by
 obtain ⟨⟨c1,d1,p1,s1⟩,o1,e1,n,f1⟩:=id hl;obtain ⟨⟨c2,d2,p2,s2⟩,o2,e2,m,f2⟩:=id hb;dsimp only at e1 f1 e2 f2;subst e1 f1 e2 f2;exact richCompare_meets_room (op:=.Gt) ⟨_,o1,rfl⟩ ⟨_,o2,rfl⟩ PySem.F.slot_tuple_gt PySem.F.entry_tuple_gt (PySem.F.args_tuple_gt_2 _ _) (CZ l b is js n m d1 d2 s1 s2 ns ms hi hj) ⟨o1,o2,(show Value.bool (lexLt ms ns)≠Value.notImplemented/\Q (.bool (lexLt ms ns)) s from ⟨(fun x=>nomatch x),h⟩)⟩ hu
end HT
namespace L2
open PySem PySem.W PySem.Spec PyProof.Rows
def rGtT (K:PySem.W.Frag):R2:=fun x y H Q=>∃ a b ns ms,x=.ref a/\y=.ref b/\SqT K H a (ns.map V.int)/\SqT K H b (ms.map V.int)/\Q (.bl (HT.lexLt ms ns)) H
theorem aaX {X:Cx}(hu:X.A.units<cLine):OpR X (compareOp .Gt) (rGtT X.K):=by
 intro pins s σ H x y v u Q I rx ry h;obtain ⟨a,b,ns,ms,rfl,rfl,ha,hb,q⟩:=h;cases rx;cases ry;obtain ⟨is,r1,p1,-⟩:=I.tuple ha;obtain ⟨js,r2,p2,-⟩:=I.tuple hb;exact HT.K5 p1 p2 (intsAre_of r1:IntsAre is.toArray.toList ns) (intsAre_of r2:IntsAre js.toArray.toList ms) hu ⟨.bl (HT.lexLt ms ns),H,I,rfl,q⟩
end L2
namespace L2
open PySem
end L2
namespace L2
open PySem PyProof.Rows
section
variable {prog:Program}{w:World}{A:Around}{E:Value->Shared->Prop}{R:Result->Shared->Prop}{s:Shared}
end
end L2
namespace L2
open PySem PySem.Spec PyProof.Rows
section
variable {X:Cx}
theorem Ky (bs:List Bool):((List.range bs.length).any fun i=>(bs[i]?).getD false)=bs.any id:=by
 rw [aeZ,List.any_eq_true,List.any_eq_true];constructor
 ·rintro ⟨i,hi,h⟩;rw [aeB] at hi;rw [adW hi] at h;exact ⟨_,aeQ hi,h⟩
 ·rintro ⟨b,hb,h⟩;obtain ⟨i,hi,rfl⟩:=aew hb;exact ⟨i,aeB.mpr hi,by rw [adW hi];exact h⟩
theorem S7 (hc:X.calm=true):vM X (.builtin "any") (fun xs H Q=>∃ (p:Addr)(bs:List Bool),xs=[.ref p]/\SqL X.K H p (bs.map V.bl)/\Q (.bl (bs.any id)) H):=by
 intro pins s σ H xs us Q I r h;obtain ⟨p,bs,rfl,hq,q⟩:=h;obtain ⟨u,rfl,ru⟩:=vals1 r;cases ru;obtain ⟨its,r1,p1,hz⟩:=I.list hq;have hl:=p1.isList;have hlt:p<s.heap.objs.size:=p1.lt;have hlen:=r1.length;rw [TX] at hlen;refine call_any_walk (wpAny_pyIter_list hl ?_);refine ⟨s.heap.objs.size,[s.heap.objs.size,p],[s.heap.objs.size],its.toArray.size,_,_,fun i=>(bs[i]?).getD false,rfl,Walks.list (A:=X.A.in1) (I.ok.hd hc) _ p (aeN hlt) its.toArray,
  ⟨⟨_,aer _ rfl,rfl,rfl⟩,hl.push _⟩,fun i v s' Q' E' hP hQ=>?_,fun h' tk hk=>?_⟩
 ·have hP':its[i]?=some v:=by simpa using hP
  have hi:i<bs.length:=by
   have:=(acp.mp hP').1;omega
  obtain ⟨u,eu,ru⟩:=r1.get (x:=.bl bs[i]) (by rw [ad5,adW hi];rfl);rw [hP'] at eu;cases eu;cases ru;dsimp only at hQ;rw [adW hi] at hQ;exact wpAny_truthy_bool hQ
 ·have e:((List.range its.toArray.size).any fun i=>(bs[i]?).getD false)=bs.any id:=by
   rw [aee,<- hlen];exact Ky bs
  rw [e];refine ⟨.bl _,H,I.kept fun b o eo=>hk b o (fun hm=>?_) (ad6 _ eo),rfl,q⟩;rw [aeD.mp hm] at eo;exact ae3 _ (aei eo)
end
def Its (x:Str):It:=⟨fun i _=>i<x.cps.size,fun i H y H'=>H'=H/\∃ c,x.cps[i]?=some c/\y=.str ⟨#[c]⟩,fun i _=>x.cps.size<=i⟩
theorem QZ {P:Program}{w:World}{K:PySem.W.Frag}{tg:Expr}(it:Addr)(x:Str)(t:Tok):Turn P w K tg (Its x) [it] it (fun i h=>h.IsStrIter it "str_ascii_iterator" x t i) where
 mem:=by simp
 obj:=fun i h st b hb=>by
  have e:b=it:=by simpa using hb
  subst e;obtain ⟨o,e,c,d⟩:=st;exact ⟨o,e,fun v z=>by rw [d] at z;cases z⟩
 keep:=fun i h h' st k=>let ⟨o,e,r⟩:=st;⟨o,k it (by simp) o e,r⟩;item:=by
  intro X hP hw hK hc i pins s σ H E I hf st hg;subst hP hw hK;obtain ⟨f0,f1,f2,f3,f4,f5⟩:=hf it (by simp);have hg:i<x.cps.size:=hg;have hx:x.cps[i]?=some x.cps[i]:=by simp [hg]
  refine wpAny_pyNext_ascii_item st hx fun h' st' sb=>?_;have I1:Inv X pins σ H { s with heap:=h',toks:=s.toks+1 }:=I.turned (fun b o hb e=>(sb.2 b hb).trans e) f0 f1 f3 f4 f5;obtain ⟨o,e,c,d⟩:=id st';exact ⟨_,rfl,ZW (s:={ s with heap:=h',toks:=s.toks+1 }) e c d (by decide) ⟨.str ⟨#[x.cps[i]]⟩,H,I1,⟨_,rfl⟩,⟨rfl,_,hx,rfl⟩,st',fun b hb=>(hf b hb).1⟩⟩
 done:=by
  intro X hP hw hK hc i pins s σ H E I hf st hg;subst hP hw hK;obtain ⟨f0,f1,f2,f3,f4,f5⟩:=hf it (by simp);have hg:x.cps.size<=i:=hg;exact wpAny_pyNext_ascii_end (I.ok.hd hc) st (by simp [hg]) fun h' eb=>⟨rfl,I.turned (t':=s.toks) (fun b o hb e=>eb b o hb e) f0 f1 f3 f4 f5⟩
 self:=fun _ _ _ _ _ st h=>wpAny_pyIter_striter_ascii st h
section
variable {X:Cx}{tg:Expr}
def iStr (tl:TE):TI:=fun σ H R=>tl σ H fun v H1=>∃ x,v=.str x/\x.cps.all (·<128)=true/\R (Its x) H1
theorem aaR {l:Expr}{tl:TE}(hl:PE X l tl):PI X tg l (iStr tl):=by
 intro pins s σ H R I h;refine thn (hl pins s σ H _ I h) fun v s1 ⟨x,H1,I1,r1,q1⟩=>?_;obtain ⟨z,e,ha,q⟩:=q1;subst e;obtain ⟨t,rfl⟩:=r1;refine wpAny_pyIter_ascii ha ?_;refine ⟨s1.heap.objs.size,[s1.heap.objs.size],_,_,H1,rfl,I1.kept (t':=s1.toks) fun b o e=>ad6 _ e,QZ _ z t,⟨_,aer _ rfl,rfl,rfl⟩,fun b hb=>?_,q⟩;have e:b=s1.heap.objs.size:=by simpa using hb
 subst e;exact I1.K6 (ad2 _) (I1.hok.fresh (ad2 _))
theorem SQ {x:Str}{acc:Addr}{g:TG}{tc:TT}{te:TE}{τ:St}{H1:Hp}{Q:Hp->Prop}(Pv:Nat->St->Hp->Prop)(h0:Pv 0 τ (upd H1 acc (.lst [])))
  (hs:∀ i c τ H,x.cps[i]?=some c->Pv i τ H->g (.str ⟨#[c]⟩) τ H fun τ4 H4=>tc τ4 H4 fun b H5=>if b=true then te τ4 H5 fun y H6=>∃ ys,H6 acc=some (.lst ys)/\ys.length<sizeLine/\Pv (i+1) τ4 (upd H6 acc (.lst (ys++[y]))) else Pv (i+1) τ4 H5)
  (hd:∀ τ H,Pv x.cps.size τ H->Q H):BJ (Its x) acc g tc te τ H1 Q:=by
 refine ⟨fun i m τ H=>m=x.cps.size - i/\i<=x.cps.size/\Pv i τ H,⟨x.cps.size,by simp,aez _,h0⟩,?_⟩
 rintro i m τ H ⟨rfl,hi,p⟩
 by_cases hlt:i<x.cps.size
 ·refine .inr ⟨hlt,Pv (i+1),fun τ' H' p'=>⟨x.cps.size - (i+1),by omega,rfl,hlt,p'⟩,fun y H' e=>?_⟩
  obtain ⟨e,c,hc,ey⟩:=e
  subst e ey
  exact hs i c τ _ hc p
 ·have e:i=x.cps.size:=by omega
  subst e
  exact .inl ⟨ad2 _,hd τ H p⟩
structure Dm (K:PySem.W.Frag)(C:Addr)(x qual:Str)(st:Stmt)(ps:List Str)(a:Addr)(fd:FuncData):Prop where
 F:Fun K x qual st a fd
 b:Binds K fd ps []
 m:Meth K C x a
structure Tc (K:PySem.W.Frag)(x qual:Str)(st:Stmt)(dv:List Value)(f:Addr)(fd:FuncData):Prop where
 ex:∃ (oc:Value)(od:Option Addr)(T:Addr)(o:Obj)(n:Nat)(kV doc pm:Value)(an:Option Addr)(cdv ct:Value)(osl:Array (Option Value)),
  fd=fnOf x qual (iG st) (dM st) (ao st) (.ref T) kV doc pm an cdv ct/\K.lookup f=some ⟨oc,od,.func fd,osl⟩/\codeIn K cdv qual=true/\K.lookup T=some o/\o.data=.seq dv.toArray n
 kp:keepIn K (.ref f)=true
section
variable {P:Program}{w:World}{K:PySem.W.Frag}{mg:Str->Option Value}{base:Heap}{x qual:Str}{st:Stmt}{dv:List Value}{f:Addr}{fd:FuncData}{N ps:List Str}{k:Nat}{sp:Sp}
theorem Tc.okX (F:Tc K x qual st dv f fd)(S:aH N ps (ao st))(len:∀ vs H Q E,sp vs H Q E->vs.length=ps.length)
  (hbody:∀ (cdv:Value)(A:Around)(outer:List Env)(s:Shared)(H:Hp)(vs:List V)(Q:VK)(E:XK),tO k (A.deeper (envOfC qual (ao st) s.heap.objs.size f cdv))->sp vs H Q E ->
   ∃ t,PSs (Qi (CXE P w) P w K mg base N qual (ao st) f cdv A outer s H E) (dM st) t/\t { nx:=fun _ H'=>Q .non H',rt:=Q } (start N vs) H):G9 P w K mg base (CXE P w) (k+1) f fd ps sp:=by
 obtain ⟨oc,od,T,o,n,kV,doc,pm,an,cdv,ct,osl,rfl,lk,hcd,_⟩:=F.ex;exact Sq lk hcd S len fun A outer s H vs Q E hr hsp=>hbody cdv A outer s H vs Q E hr hsp
theorem Tc.binds {ds:List Value}(F:Tc K x qual st dv f fd)
  (h:∀ (T:Addr)(kV doc pm:Value)(an:Option Addr)(cdv ct:Value)(us:List Value),(us++ds).length=ps.length->∃ k:Option (Array Value)->Sem (List (Str × Value)),
   bindArgs (fnOf x qual (iG st) (dM st) (ao st) (.ref T) kV doc pm an cdv ct) ⟨us,[]⟩=(seqItems? (.ref T)>>=k)/\k (some dv.toArray)=pure (ps.zip (us++ds))):Binds K fd ps ds:=by
 obtain ⟨oc,od,T,o,n,kV,doc,pm,an,cdv,ct,osl,rfl,lk,hcd,lt,hs⟩:=F.ex;intro s us X hl;obtain ⟨k,h1,h2⟩:=h T kV doc pm an cdv ct us hl;exact BindsTo.of_defaults rfl (X _ _ lt) hs h1 h2
end
structure DmD (K:PySem.W.Frag)(C:Addr)(x qual:Str)(st:Stmt)(ps:List Str)(a:Addr)(fd:FuncData):Prop where
 F:Tc K x qual st [.none] a fd
 b0:Binds K fd ps []
 b1:Binds K fd ps [.none]
 m:Meth K C x a
structure Cl (K:PySem.W.Frag)(mg:Str->Option Value)(x:Str)(C f:Addr)(fs:List Str):Prop where
 c:Cls K C
 k:Mk K C f
 m:mg x=some (.ref C)
 n:∀ y∈fs,jx K C y
end
section
variable {T:dY}{H0 H:Hp}{L R B:List (Addr × HO)}{a b:Addr}{o o':HO}{x y:Addr × HO}
theorem Ow.ne (O:Ow T H0 H L)(i j:Nat)(hi:L[i]?=some (a,o):=by rfl)(hj:L[j]?=some (b,o'):=by rfl)(hij:i≠j:=by decide):a≠b:=by
 intro e;subst e;have h1:(L.map (·.1))[i]?=some a:=by rw [ad5,hi];rfl
 have h2:(L.map (·.1))[j]?=some a:=by rw [ad5,hj];rfl
 exact hij ((List.getElem?_inj (acp.mp h1).1 O.nd).mp (h1.trans h2.symm))
theorem Ow.mid (O:Ow T H0 H (x::(R++B))):Ow T H0 H (R++x::B):=O.perm afQ
end
section
variable {X:Cx}{e:Expr}{es:List Expr}{te:TE}{t:TA}
def Ua:Expr->Bool
 | .Starred ..=>false
 | _=>true
theorem Ku (e:Expr)(h:Ua e=true)(es:List Expr)(env:Env):starEach (e::es) env=(false,eval e env)::starEach es env:=by
 cases e <;>first| rfl| cases h
theorem acX (ha:PE X e te)(hr:PA X es t)(h:Ua e=true:=by rfl):PA X (e::es) (aav te t):=aq ha hr (Ku e h es X.env)
end
structure ClF (K:PySem.W.Frag)(C f:Addr)(m:Str):Prop where
 ga:PySem.W.specialIn K (.ref C) "__getattribute__"=some (some (.builtin "type.__getattribute__"))
 rd:readsIn K C (.type "type")=true
 fc:findCls K (.ref C) (.type "type") m=some (.val (.ref f))
 kp:keepIn K (.ref f)=true
section
variable {X:Cx}{CX:CXT}{k:Nat}{f C:Addr}{fd:FuncData}{ps:List Str}{sp:Sp}{dvs:List V}{ds:List Value}{E:XK}{x m:Str}{p pos apos:Pos}{e:Expr}{es:List Expr}{t:TA}
theorem Zk {pl:Sem Bool}(hg:Gl X x)(hmg:X.mg x=some (.ref C))(hc:ClF X.K C f m)(F:G9 X.prog X.w X.K X.mg X.base CX k f fd ps sp)(hr:tO k X.A)(hb:Binds X.K fd ps ds)(hd:Vals dvs ds)(hx:Passes CX X E)(ha:PA X (e::es) t)
  (hdb:(x ==("__debug__":Str))=false:=by decide)(hst:starEach (e::es) X.env=(false,eval e X.env)::starEach es X.env:=by rfl)(hpl:(backTo pos (starEach es X.env)).any (·.1)=false:=by rfl)
  (ht:eval (.Call (.Attribute (.Name x p) m apos) (e::es) [] pos) X.env=(do
   let ov <- eval (.Name x p) X.env
   standAt apos.atName
   let (f,first)<- holding [ov] (getMethod ov m pl)
   callWith pos f first (backTo pos (starEach (e::es) X.env)) (backToKw pos (keywordEach [] X.env))):=by rfl):
  PE X (.Call (.Attribute (.Name x p) m apos) (e::es) [] pos) (aaw sp dvs E t):=by
 intro pins s σ H Q I h
 refine methodCall_KW (pl:=pl) (zV I hg hmg ?_ hdb) ht
 refine PySem.W.method_cls I.kIn hc.ga (PySem.W.cls_value I.kIn hc.rd hc.fc rfl ?_)
 refine afW (first:=[]) (h₀:=X.base) I.ok.mod.kin hc.kp (thn (ha pos pins _ σ H _ (I.tok _) h) fun us s2 ⟨vs,H2,I2,r,q2⟩=>⟨I2.kIn,?_⟩) hst hpl
 exact Jr (us:=us) (vs:=vs) F hr hb hd hx I2 r q2
end
section
structure DmZ (K:PySem.W.Frag)(C:Addr)(x qual:Str)(st:Stmt)(ps:List Str)(a:Addr)(fd:FuncData):Prop where
 F:∃ t:Tok,Tc K x qual st [.int 0 t] a fd/\Binds K fd ps [.int 0 t]
 b0:Binds K fd ps []
 m:Meth K C x a
end
end L2
namespace Rv
def iB (r:List Int):Prop:=∃ rk:Nat->Nat,(∀ i,i<r.length->rk i<r.length) /\
 ∀ (i:Nat)(x:Int),r[i]?=some x->x=-1\/(0<=x/\x<r.length/\rk x.toNat<rk i)
def nxt (r:List Int)(p:Int):Int:=r.getD p.toNat (-1)
theorem jZ {r:List Int}{p:Int}(h0:0<=p)(h1:p<r.length):r[p.toNat]?=some (nxt r p):=by
 have h:p.toNat<r.length:=by omega
 unfold nxt;rw [ad0,adW h];rfl
theorem iB.step {r:List Int}(h:iB r){p:Int}(h0:0<=p)(h1:p<r.length):nxt r p=-1\/(0<=nxt r p/\nxt r p<r.length):=by
 obtain ⟨rk,_,h3⟩:=h;rcases h3 _ _ (jZ h0 h1) with e| ⟨a,b,_⟩
 ·exact .inl e
 ·exact .inr ⟨a,b⟩
def zE (r:List Int):Nat->Int->List Int
 | 0,_=>[]
 | f+1,p=>if p=-1 then [] else p::zE r f (nxt r p)
def walk (r:List Int)(p:Int):List Int:=zE r (r.length+1) p
theorem vO (r:List Int)(f:Nat):zE r f (-1)=[]:=by
 cases f with
 | zero=>rfl
 | succ f=>unfold zE;rw [if_pos rfl]
theorem nQ (r:List Int):walk r (-1)=[]:=vO r _
theorem yh {r:List Int}{rk:Nat->Nat}(h:∀ (i:Nat)(x:Int),r[i]?=some x->x=-1\/(0<=x/\x<r.length/\rk x.toNat<rk i)):
  ∀ (f g:Nat)(p:Int),0<=p->p<r.length->rk p.toNat<f->rk p.toNat<g->zE r f p=zE r g p
 | 0,_,_,_,_,hf,_=>by omega
 | _+1,0,_,_,_,_,hg=>by omega
 | f+1,g+1,p,h0,h1,hf,hg=>by
  unfold zE;rw [if_neg (by omega),if_neg (by omega)];rcases h _ _ (jZ h0 h1) with e| ⟨a,b,c⟩
  ·rw [e,vO,vO]
  ·rw [yh h f g _ a b (by omega) (by omega)]
theorem fH {r:List Int}(h:iB r){p:Int}(h0:0<=p)(h1:p<r.length):walk r p=p::walk r (nxt r p):=by
 obtain ⟨rk,h2,h3⟩:=h;show zE r (r.length+1) p=_;unfold zE;rw [if_neg (by omega)];rcases h3 _ _ (jZ h0 h1) with e| ⟨a,b,c⟩
 ·rw [e,vO,nQ]
 ·have:=h2 p.toNat (by omega);unfold walk;rw [yh h3 r.length (r.length+1) _ a b (by omega) (by omega)]
theorem EY (r:List Int):∀ (f:Nat)(p:Int),(zE r f p).length<=f
 | 0,_=>ad2 _
 | f+1,p=>by
  unfold zE;split
  ·exact aez _
  ·exact afc (EY r f _)
theorem Im (r:List Int)(p:Int):(walk r p).length<=r.length+1:=EY r _ _
theorem iB.ind {r:List Int}(h:iB r){P:Int->Prop}(hm:P (-1))(hs:∀ p:Int,0<=p->p<r.length->P (nxt r p)->P p):∀ p:Int,0<=p->p<r.length->P p:=by
 obtain ⟨rk,_,h3⟩:=h;have key:∀ (n:Nat)(p:Int),0<=p->p<r.length->rk p.toNat<n->P p:=by
  intro n
  induction n with
  | zero=>intro p _ _ h;omega
  | succ n ih =>
   intro p h0 h1 h2;refine hs p h0 h1 ?_;rcases h3 _ _ (jZ h0 h1) with e| ⟨a,b,c⟩
   ·rw [e];exact hm
   ·exact ih _ a b (by omega)
 exact fun p h0 h1=>key _ p h0 h1 (afq _)
theorem CT {r:List Int}(h:iB r):∀ p:Int,0<=p->p<r.length->∀ q∈walk r p,0<=q/\q<r.length:=by
 refine h.ind (P:=fun p=>∀ q∈walk r p,0<=q/\q<r.length) ?_ ?_
 ·intro q hq;rw [nQ] at hq;cases hq
 ·intro p h0 h1 ih q hq;rw [fH h h0 h1] at hq;rcases aen.mp hq with e| e
  ·rw [e];exact ⟨h0,h1⟩
  ·exact ih q e
noncomputable def mea (r:List Int)(p:Int):Nat:=(walk r p).length
theorem Ue {r:List Int}(h:iB r){p:Int}(h0:0<=p)(h1:p<r.length):mea r (nxt r p)<mea r p:=by
 unfold mea;rw [fH h h0 h1];exact afq _
structure Ord (k:Nat)(o:List Nat):Prop where
 perm:o.Perm (List.range k)
theorem Ord.len {k:Nat}{o:List Nat}(h:Ord k o):o.length=k:=by rw [h.perm.length_eq,aeU]
theorem Ord.lt {k:Nat}{o:List Nat}(h:Ord k o){j:Nat}(hj:j∈o):j<k:=by
 have:=h.perm.mem_iff.mp hj;exact aeB.mp this
theorem Ord.nd {k:Nat}{o:List Nat}(h:Ord k o):o.Nodup:=h.perm.nodup_iff.mpr List.nodup_range
theorem Ord.one:Ord 1 [0]:=⟨List.Perm.refl _⟩
theorem Ord.ins {k:Nat}{o:List Nat}(h:Ord k o)(i:Nat):Ord (k+1) (o.take i++k::o.drop i):=by
 refine ⟨?_⟩;have e:(o.take i++k::o.drop i).Perm (k::o):=by
  have:=(afQ (a:=k) (l₁:=o.take i) (l₂:=o.drop i));rw [afv] at this;exact this
 refine e.trans ?_;rw [afG];exact (List.Perm.cons k h.perm).trans (List.perm_append_singleton k (List.range k)).symm
structure Onw (k:Nat)(w:List Int):Prop where
 len:w.length=k
 lt:∀ (j:Nat)(x:Int),w[j]?=some x->x=-1\/(0<=x/\x<j)
theorem Onw.one:Onw 1 [-1]:=⟨rfl,fun j x h=>by
 cases j with
 | zero=>simp at h;exact .inl h.symm
 | succ j=>simp at h⟩
theorem Onw.app {k:Nat}{w:List Int}(h:Onw k w){y:Int}(hy:y=-1\/(0<=y/\y<k)):Onw (k+1) (w++[y]):=by
 refine ⟨by rw [ad7,h.len];rfl,fun j x e=>?_⟩;by_cases hj:j<w.length
 ·rw [aeG hj] at e;exact h.lt j x e
 ·rw [aeM (by omega)] at e;have hl:=h.len;have hj':j - w.length=0:=by
   have:=(acp.mp e).1;simp at this;omega
  rw [hj'] at e;simp at e;subst e;rcases hy with e| ⟨a,b⟩
  ·exact .inl e
  ·exact .inr ⟨a,by omega⟩
structure Plc (n:Nat)(o:List Nat)(t:Nat)(pl:List Int):Prop where
 len:pl.length=n
 at_:∀ (a:Nat)(j:Nat),a<t->o[a]?=some j->pl[j]?=some (a:Int)
theorem Plc.start (n:Nat)(o:List Nat)(pl:List Int)(h:pl.length=n):Plc n o 0 pl:=⟨h,fun a j h _=>by omega⟩
theorem Plc.turn {n:Nat}{o:List Nat}{t:Nat}{pl:List Int}(h:Plc n o t pl)(O:Ord n o){j:Nat}(hj:o[t]?=some j):Plc n o (t+1) (pl.set j (t:Int)):=by
 refine ⟨by rw [aeV];exact h.len,fun a j' ha e=>?_⟩;by_cases hat:a=t
 ·subst hat;rw [hj] at e;cases e;have hj2:j<n:=O.lt (ad1 hj);exact afr (by rw [h.len];exact hj2)
 ·have hne:j'≠j:=by
   intro z;subst z;obtain ⟨h1,e1⟩:=acp.mp hj;obtain ⟨h2,e2⟩:=acp.mp e;exact hat ((afb O.nd).mp (e2.trans e1.symm))
  rw [afm (Ne.symm hne)];exact h.at_ a j' (by omega) e
theorem Plc.all {n:Nat}{o:List Nat}{pl:List Int}(h:Plc n o n pl)(O:Ord n o){k:Nat}(hk:k<n):∃ a:Nat,a<n/\pl[k]?=some (a:Int)/\o[a]?=some k:=by
 have hm:k∈o:=O.perm.mem_iff.mpr (aeB.mpr hk);obtain ⟨a,ha,e⟩:=aew hm;have e':o[a]?=some k:=by rw [adW ha,e]
 have hl:=O.len;exact ⟨a,by omega,h.at_ a k (by omega) e',e'⟩
structure Fnd (n:Nat)(o:List Nat)(_t:Nat)(r:List Int):Prop where
 len:r.length=n
 at_:∀ (i:Nat)(x:Int),r[i]?=some x->x=-1\/∃ (b k j:Nat),x=(b:Int)/\b<n/\o[i]?=some k/\o[b]?=some j/\j<k
theorem Fnd.start (n:Nat)(o:List Nat)(r:List Int)(hl:r.length=n)(h:∀ x∈r,x=-1):Fnd n o 0 r:=⟨hl,fun i x e=>.inl (h x (ad1 e))⟩
theorem Fnd.turn {n:Nat}{o:List Nat}{t:Nat}{r:List Int}(h:Fnd n o t r){a b k j:Nat}(hb:b<n)(ha:o[a]?=some k)(hj:o[b]?=some j)(hjk:j<k)(t':Nat):Fnd n o t' (r.set a (b:Int)):=by
 refine ⟨by rw [aeV];exact h.len,fun i x e=>?_⟩;by_cases hia:i=a
 ·subst hia;have hi:i<r.length:=by
   have:=(acp.mp e).1;rw [aeV] at this;exact this
  rw [afr hi] at e;cases e;exact .inr ⟨b,k,j,rfl,hb,ha,hj,hjk⟩
 ·rw [afm (Ne.symm hia)] at e;exact h.at_ i x e
theorem Fnd.same {n:Nat}{o:List Nat}{t:Nat}{r:List Int}(h:Fnd n o t r)(t':Nat):Fnd n o t' r:=⟨h.len,h.at_⟩
theorem Fnd.Gb {n:Nat}{o:List Nat}{t:Nat}{r:List Int}(h:Fnd n o t r)(O:Ord n o):iB r:=by
 refine ⟨fun i=>o.getD i 0,fun i hi=>?_,fun i x e=>?_⟩
 ·have hl:=O.len;have hi':i<o.length:=by rw [hl,<- h.len];exact hi
  show o.getD i 0<r.length;rw [ad0,adW hi',h.len];exact O.lt (aeQ hi')
 ·rcases h.at_ i x e with z| ⟨b,k,j,rfl,hb,h1,h2,h3⟩
  ·exact .inl z
  ·refine .inr ⟨by omega,by rw [h.len];omega,?_⟩;show o.getD (b:Int).toNat 0<o.getD i 0;rw [aeb,ad0,ad0,h1,h2];exact h3
def stp (r:List Int)(p:Int):Int:=if p=-1 then -1 else nxt r p
def wX (r:List Int):Nat->Int->Int
 | 0,p=>p
 | f+1,p=>wX r f (stp r p)
theorem IV (r:List Int):∀ f,wX r f (-1)=-1
 | 0=>rfl
 | f+1=>by
  show wX r f (stp r (-1))=-1;unfold stp;rw [if_pos rfl];exact IV r f
theorem sU (r:List Int):∀ (f:Nat)(p:Int),wX r (f+1) p=stp r (wX r f p)
 | 0,_=>rfl
 | f+1,p=>by
  show wX r (f+1) (stp r p)=stp r (wX r f (stp r p));exact sU r f (stp r p)
theorem IW (r:List Int)(p:Int){f:Nat}(h:wX r f p=-1):∀ g,wX r (f+g) p=-1
 | 0=>h
 | g+1=>by
  rw [show f+(g+1)=(f+g)+1 from rfl,sU,IW r p h g];unfold stp;rw [if_pos rfl]
def inB (r:List Int):Prop:=∀ x∈r,-1<=x/\x<(r.length:Int)
instance (r:List Int):Decidable (inB r):=inferInstanceAs (Decidable (∀ x∈r,-1<=x/\x<(r.length:Int)))
theorem ZP {r:List Int}(h:inB r){p:Int}(h0:0<=p)(h1:p<r.length):-1<=nxt r p/\nxt r p<r.length:=h _ (ad1 (jZ h0 h1))
theorem JQ {r:List Int}(h:inB r){p:Int}(h0:0<=p)(h1:p<r.length):∀ f,-1<=wX r f p/\wX r f p<(r.length:Int)
 | 0=>⟨by show -1<=p;omega,h1⟩
 | f+1=>by
  rw [sU];obtain ⟨a,b⟩:=JQ h h0 h1 f;unfold stp;by_cases e:wX r f p=-1
  ·rw [if_pos e];omega
  ·rw [if_neg e];exact ZP h (by omega) b
def isR (r:List Int):Bool:=decide (1<=r.length/\r.length<=40) && decide (inB r) && decide (∀ i,i<r.length->wX r r.length (i:Int)=-1)
theorem Kg {r:List Int}(h:iB r):∃ rk:Nat->Nat,∀ p:Int,0<=p->p<r.length->(walk r p).Nodup/\∀ q∈walk r p,rk q.toNat<=rk p.toNat:=by
 obtain ⟨rk,h2,h3⟩:=id h;refine ⟨rk,?_⟩;have key:=h.ind (P:=fun p=>(walk r p).Nodup/\(0<=p->∀ q∈walk r p,rk q.toNat<=rk p.toNat)) ?_ ?_
 ·exact fun p h0 h1=>⟨(key p h0 h1).1,(key p h0 h1).2 h0⟩
 ·rw [nQ];exact ⟨List.nodup_nil,fun h=>by omega⟩
 ·intro p h0 h1 ⟨nd,ih⟩;rw [fH h h0 h1];rcases h3 _ _ (jZ h0 h1) with e| ⟨a,b,c⟩
  ·rw [e,nQ];refine ⟨by simp,fun _ q hq=>?_⟩;have:q=p:=by simpa using hq
   rw [this];exact ad2 _
  ·have ih':=ih a;refine ⟨ae5.mpr ⟨fun hm=>?_,nd⟩,fun _ q hq=>?_⟩
   ·have:=ih' p hm;omega
   ·rcases aen.mp hq with e| e
    ·rw [e];exact ad2 _
    ·have:=ih' q e;omega
theorem CQ {r:List Int}(h:iB r){p:Int}(h0:0<=p)(h1:p<r.length):(walk r p).Nodup:=by
 obtain ⟨rk,k⟩:=Kg h;exact (k p h0 h1).1
def tot:Nat->(Nat->Int)->Int
 | 0,_=>0
 | n+1,f=>tot n f+f n
theorem pN {n:Nat}{f g:Nat->Int}(h:∀ i,i<n->f i=g i):tot n f=tot n g:=by
 induction n with
 | zero=>rfl
 | succ n ih=>unfold tot;rw [ih fun i hi=>h i (by omega),h n (by omega)]
theorem Hg (n:Nat)(f g:Nat->Int):tot n (fun i=>f i+g i)=tot n f+tot n g:=by
 induction n with
 | zero=>rfl
 | succ n ih=>unfold tot;rw [ih];dsimp only;omega
theorem zm {n:Nat}{f:Nat->Int}(h:∀ i,i<n->f i=0):tot n f=0:=by
 induction n with
 | zero=>rfl
 | succ n ih=>unfold tot;rw [ih fun i hi=>h i (by omega),h n (by omega)];rfl
theorem Q0 (n m:Nat)(f:Nat->Nat->Int):tot n (fun i=>tot m (fun j=>f i j))=tot m (fun j=>tot n (fun i=>f i j)):=by
 induction n with
 | zero=>exact (zm fun _ _=>rfl).symm
 | succ n ih=>show tot n _+tot m _=_;rw [ih,<- Hg];rfl
theorem Lx {n k:Nat}(f:Nat->Int)(hk:k<n):tot n (fun i=>if i=k then f i else 0)=f k:=by
 induction n with
 | zero=>omega
 | succ n ih =>
  unfold tot;dsimp only;by_cases h:k=n
  ·subst h;rw [if_pos rfl,zm fun i hi=>if_neg (by omega)];omega
  ·rw [ih (by omega),if_neg (fun (z:n=k)=>h z.symm)];omega
theorem Y5 (n:Nat)(c:Int)(f:Nat->Int):tot n (fun i=>c*f i)=c*tot n f:=by
 induction n with
 | zero=>simp [tot]
 | succ n ih=>unfold tot;rw [ih,Int.mul_add]
theorem Y6 (n:Nat)(f:Nat->Int)(p:Prop) [Decidable p]:tot n (fun i=>if p then f i else 0)=if p then tot n f else 0:=by
 by_cases h:p
 ·rw [if_pos h];exact pN fun i _=>if_pos h
 ·rw [if_neg h];exact zm fun i _=>if_neg h
def lsum:List Nat->(Nat->Int)->Int
 | [],_=>0
 | k::l,f=>f k+lsum l f
theorem tu (f:Nat->Int):∀ (l m:List Nat),lsum (l++m) f=lsum l f+lsum m f
 | [],m=>by show _=0+_;rw [Int.zero_add];rfl
 | k::l,m=>by show f k+lsum (l++m) f=f k+lsum l f+lsum m f;rw [tu f l m];omega
theorem Gq {f:Nat->Int}{l m:List Nat}(h:l.Perm m):lsum l f=lsum m f:=by
 induction h with
 | nil=>rfl
 | cons k _ ih=>show f k+_=f k+_;rw [ih]
 | swap a b l=>show f b+(f a+_)=f a+(f b+_);omega
 | trans _ _ h1 h2=>exact h1.trans h2
theorem xG (f:Nat->Int):∀ n,lsum (List.range n) f=tot n f
 | 0=>rfl
 | n+1=>by rw [afG,tu,xG f n];show _+(f n+0)=_+f n;omega
theorem Gp {f:Nat->Int}:∀ {l:List Nat},(∀ k∈l,f k=0)->lsum l f=0
 | [],_=>rfl
 | k::l,h=>by show f k+lsum l f=0;rw [h k aeu,Gp fun j hj=>h j (aej _ hj)];rfl
def one (p:Prop) [Decidable p]:Int:=if p then 1 else 0
def vN (r s:List Int)(i:Int):Int:=tot r.length fun j=>if i∈walk r (j:Int) then s.getD j 0 else 0
theorem met {r:List Int}(h:iB r){i:Int}(hi:0<=i):∀ p:Int,0<=p->p<r.length->one (i∈walk r p)=one (p=i)+tot r.length fun k=>if nxt r (k:Int)=i then one ((k:Int)∈walk r p) else 0:=by
 have key:=h.ind (P:=fun p=>(p=-1\/(0<=p/\p<r.length))->one (i∈walk r p)=one (p=i)+tot r.length fun k=>if nxt r (k:Int)=i then one ((k:Int)∈walk r p) else 0) ?_ ?_
 ·exact fun p h0 h1=>key p h0 h1 (.inr ⟨h0,h1⟩)
 ·intro _
  rw [nQ,zm fun k _=>?_]
  ·unfold one;rw [if_neg (by simp),if_neg (by omega)];rfl
  ·unfold one;rw [if_neg (show ¬ (k:Int)∈([]:List Int) by simp)];split <;>rfl
 ·intro p h0 h1 ih _
  have ih':=ih (h.step h0 h1)
  have nd:=CQ h h0 h1
  rw [fH h h0 h1] at nd ⊢
  obtain ⟨np,_⟩:=ae5.mp nd
  have e1:one (i∈p::walk r (nxt r p))=one (p=i)+one (i∈walk r (nxt r p)):=by
   unfold one
   by_cases hpi:p=i
   ·subst hpi
    rw [if_pos aeu,if_pos rfl,if_neg np];rfl
   ·rw [if_neg hpi]
    by_cases hm:i∈walk r (nxt r p)
    ·rw [if_pos (aej _ hm),if_pos hm];rfl
    ·rw [if_neg hm,if_neg fun z=>?_];· rfl
     rcases aen.mp z with z| z
     ·exact hpi z.symm
     ·exact hm z
  have e2:(tot r.length fun k=>if nxt r (k:Int)=i then one ((k:Int)∈p::walk r (nxt r p)) else 0)=
    one (nxt r p=i)+tot r.length fun k=>if nxt r (k:Int)=i then one ((k:Int)∈walk r (nxt r p)) else 0:=by
   have:(tot r.length fun k=>if nxt r (k:Int)=i then one ((k:Int)∈p::walk r (nxt r p)) else 0)=
     tot r.length fun k=>(if k=p.toNat then (fun k=>if nxt r (k:Int)=i then (1:Int) else 0) k else 0)+if nxt r (k:Int)=i then one ((k:Int)∈walk r (nxt r p)) else 0:=by
    refine pN fun k hk=>?_
    by_cases hn:nxt r (k:Int)=i
    ·simp only [if_pos hn]
     by_cases hkp:k=p.toNat
     ·have hkp':(k:Int)=p:=by omega
      rw [if_pos hkp,hkp']
      unfold one
      rw [if_pos aeu,if_neg np];rfl
     ·have hkp':¬ (k:Int)=p:=by omega
      rw [if_neg hkp]
      unfold one
      by_cases hm:(k:Int)∈walk r (nxt r p)
      ·rw [if_pos (aej _ hm),if_pos hm];rfl
      ·rw [if_neg hm,if_neg fun z=>?_];· rfl
       rcases aen.mp z with z| z
       ·exact hkp' z
       ·exact hm z
    ·simp only [if_neg hn];split <;>rfl
   rw [this,Hg,Lx _ (by omega)]
   have e:((p.toNat:Nat):Int)=p:=by omega
   show (if nxt r ((p.toNat:Nat):Int)=i then (1:Int) else 0)+_=_
   rw [e];rfl
  rw [e1,e2,ih']
theorem JB {r:List Int}(h:iB r)(s:List Int){i:Nat}(hi:i<r.length):vN r s (i:Int)=s.getD i 0+tot r.length fun k=>if nxt r (k:Int)=(i:Int) then vN r s (k:Int) else 0:=by
 have e:vN r s (i:Int)=tot r.length fun j=>(if j=i then s.getD j 0 else 0)+tot r.length fun k=>if nxt r (k:Int)=(i:Int) then (if (k:Int)∈walk r (j:Int) then s.getD j 0 else 0) else 0:=by
  refine pN fun j hj=>?_;have m:=met h (i:=(i:Int)) (by omega) (j:Int) (by omega) (by omega);have e1:(if (i:Int)∈walk r (j:Int) then s.getD j 0 else 0)=s.getD j 0*one ((i:Int)∈walk r (j:Int)):=by unfold one;split <;>simp
  rw [e1,m,Int.mul_add,<- Y5];congr 1
  ·unfold one;by_cases hji:j=i
   ·rw [if_pos (by omega),if_pos hji];simp
   ·rw [if_neg (by omega),if_neg hji];simp
  ·refine pN fun k hk=>?_;split
   ·unfold one;split <;>simp
   ·simp
 rw [e,Hg,Lx (fun j=>s.getD j 0) hi,Q0];congr 1;refine pN fun k hk=>?_;rw [Y6];rfl
def dZ (r:List Int)(a b:Int):List Int:=if b=-1 then walk r a else (walk r a).takeWhile (fun x=>!decide (x=b))
def Stop (r:List Int)(a b:Int):Prop:=b=-1\/b∈walk r a
theorem Fj {r:List Int}{a b x:Int}(h:x∈dZ r a b):x∈walk r a:=by
 unfold dZ at h;split at h
 ·exact h
 ·exact (List.takeWhile_prefix _).subset h
theorem Kr {r:List Int}(h:iB r){a:Int}(h0:0<=a)(h1:a<r.length):dZ r a a=[]:=by
 unfold dZ;rw [if_neg (by omega),fH h h0 h1,List.takeWhile_cons];simp
theorem Ks {r:List Int}(h:iB r){a b:Int}(h0:0<=a)(h1:a<r.length)(hb:b≠a):dZ r a b=a::dZ r (nxt r a) b:=by
 unfold dZ;split
 ·exact fH h h0 h1
 ·rw [fH h h0 h1,List.takeWhile_cons];have:¬ a=b:=fun z=>hb z.symm;simp [this]
theorem Fo (r:List Int)(b:Int):dZ r (-1) b=[]:=by
 unfold dZ;rw [nQ];split <;>rfl
theorem IK {r:List Int}(h:iB r){a b:Int}(h0:0<=a)(h1:a<r.length):(dZ r a b).Nodup:=by
 unfold dZ;split
 ·exact CQ h h0 h1
 ·exact (CQ h h0 h1).sublist (List.takeWhile_sublist _)
structure Fl (n:Nat)(fl:List Int)(g:Nat->Int):Prop where
 len:fl.length=n
 at_:∀ i,i<n->fl[i]?=some (g i)
theorem Fl.of (fl:List Int):Fl fl.length fl (fun i=>fl.getD i 0):=⟨rfl,fun i hi=>by rw [adW hi,ad0,adW hi];rfl⟩
theorem Fl.GD {n:Nat}{fl:List Int}{g g':Nat->Int}(h:Fl n fl g)(e:∀ i,i<n->g i=g' i):Fl n fl g':=⟨h.len,fun i hi=>by rw [h.at_ i hi,e i hi]⟩
theorem Fl.set {n:Nat}{fl:List Int}{g g':Nat->Int}{j:Nat}{y:Int}(h:Fl n fl g)(hj:j<n)(e:∀ i,i<n->i≠j->g' i=g i)(ey:y=g' j):Fl n (fl.set j y) g' :=
 ⟨by rw [aeV];exact h.len,fun i hi=>by
  by_cases hij:i=j
  ·subst hij;rw [afr (by rw [h.len];exact hj),ey]
  ·rw [afm (Ne.symm hij),h.at_ i hi,e i hi hij]⟩
theorem Fl.ext {n:Nat}{fl fl':List Int}{g:Nat->Int}(h:Fl n fl g)(h':Fl n fl' g):fl=fl':=by
 apply afz;intro i;by_cases hi:i<n
 ·rw [h.at_ i hi,h'.at_ i hi]
 ·rw [aex (by rw [h.len];omega),aex (by rw [h'.len];omega)]
theorem Fl.getD {n:Nat}{fl:List Int}{g:Nat->Int}(h:Fl n fl g){i:Nat}(hi:i<n):fl.getD i 0=g i:=by
 rw [ad0,h.at_ i hi];rfl
theorem Fl.map (n:Nat)(g:Nat->Int):Fl n ((List.range n).map g) g:=⟨by simp,fun i hi=>by rw [ad5,afe hi];rfl⟩
theorem Fl.rep (n:Nat)(x:Int):Fl n (List.replicate n x) fun _=>x:=⟨by simp,fun i hi=>by rw [afd,if_pos hi]⟩
def kap (r:List Int)(i:Nat):Int:=(i:Int) - 64*((walk r (i:Int)).length:Int)
structure QL (r:List Int)(p:List Nat):Prop where
 perm:p.Perm (List.range r.length)
 ord:p.Pairwise fun i j=>kap r i<kap r j
theorem QL.len {r:List Int}{p:List Nat}(h:QL r p):p.length=r.length:=by rw [h.perm.length_eq,aeU]
theorem QL.lt {r:List Int}{p:List Nat}(h:QL r p){j:Nat}(hj:j∈p):j<r.length:=aeB.mp (h.perm.mem_iff.mp hj)
theorem QL.first {r:List Int}{p p1 p2:List Nat}{j k:Nat}(h:QL r p)(hR:iB r)(h64:r.length<64)(e:p=p1++j::p2)(hk:k<r.length)(hn:nxt r (k:Int)=(j:Int)):k∈p1:=by
 have hjm:j∈p:=by rw [e];simp
 have hj:=h.lt hjm;have hkm:k∈p:=h.perm.mem_iff.mpr (aeB.mpr hk);have hw:(walk r (k:Int)).length=(walk r (j:Int)).length+1:=by rw [fH hR (p:=(k:Int)) (by omega) (by omega),hn,ael]
 have hlt:kap r k<kap r j:=by unfold kap;omega
 rw [e] at hkm;rcases aem.mp hkm with z| z
 ·exact z
 ·have ord:=h.ord;rw [e,List.pairwise_append] at ord;rcases aen.mp z with z| z
  ·subst z;omega
  ·have:=(List.pairwise_cons.mp ord.2.1).1 k z;omega
def nats (r s:List Int):List Int:=(List.range r.length).map fun (i:Nat)=>vN r s (i:Int)
theorem HN (r s:List Int):Fl r.length (nats r s) fun i=>vN r s (i:Int):=Fl.map _ _
def J8 (r s:List Int)(p:List Nat)(t:Nat)(fl:List Int):Prop:=Fl r.length fl fun i=>s.getD i 0+lsum (p.take t) fun k=>if nxt r (k:Int)=(i:Int) then vN r s (k:Int) else 0
theorem J8.start (r s:List Int)(p:List Nat)(hs:s.length=r.length):J8 r s p 0 s:=by
 have:=Fl.of s;rw [hs] at this;exact this.GD fun i _=>by rw [List.take_zero];show _=_+0;omega
theorem take_cons {p:List Nat}{t j:Nat}(h:p[t]?=some j):p.take (t+1)=p.take t++[j]:=by rw [aeA,h];rfl
theorem J8.here {r s:List Int}{p:List Nat}{t j:Nat}{fl:List Int}(T:QL r p)(hR:iB r)(h64:r.length<64)(h:J8 r s p t fl)(hj:p[t]?=some j):fl[j]?=some (vN r s (j:Int)):=by
 have hjl:=T.lt (ad1 hj);rw [h.at_ j hjl,JB hR s hjl];congr 2;rw [<- xG,<- Gq T.perm];obtain ⟨ht,et⟩:=acp.mp hj;have e:p=p.take t++j::p.drop (t+1):=by
  rw [<- et,List.getElem_cons_drop,afv]
 conv=>rhs;rw [e]
 rw [tu];have z:lsum (j::p.drop (t+1)) (fun k=>if nxt r (k:Int)=(j:Int) then vN r s (k:Int) else 0)=0:=by
  refine Gp fun k hk=>if_neg fun hn=>?_;have hkp:k∈p:=by rw [e];exact ad4 _ hk
  have h1:=T.first hR h64 e (T.lt hkp) hn;have nd:p.Nodup:=T.perm.nodup_iff.mpr List.nodup_range;rw [e,afJ] at nd;exact nd.2.2 k h1 k hk rfl
 rw [z];omega
theorem J8.ac9 {r s:List Int}{p:List Nat}{t j:Nat}{fl:List Int}(h:J8 r s p t fl)(hj:p[t]?=some j)(hm:nxt r (j:Int)=-1):J8 r s p (t+1) fl:=
 Fl.GD h fun i _=>by
  rw [take_cons hj,tu];show _=_+(_+((if nxt r (j:Int)=(i:Int) then vN r s (j:Int) else 0)+0));rw [if_neg (by omega)];omega
theorem J8.turn {r s:List Int}{p:List Nat}{t j b:Nat}{fl:List Int}(T:QL r p)(hR:iB r)(h64:r.length<64)(h:J8 r s p t fl)(hj:p[t]?=some j)(hb:nxt r (j:Int)=(b:Int))(hbl:b<r.length){x:Int}(hx:fl[b]?=some x):
  J8 r s p (t+1) (fl.set b (x+vN r s (j:Int))):=by
 refine Fl.set h hbl (fun i _ hib=>?_) ?_
 ·rw [take_cons hj,tu];show _+(_+((if nxt r (j:Int)=(i:Int) then vN r s (j:Int) else 0)+0))=_;rw [if_neg (by omega)];omega
 ·rw [h.at_ b hbl] at hx;rw [<- aek hx,take_cons hj,tu];show _=_+(_+((if nxt r (j:Int)=(b:Int) then vN r s (j:Int) else 0)+0));rw [if_pos hb];omega
theorem J8.done {r s:List Int}{p:List Nat}{fl:List Int}(T:QL r p)(hR:iB r)(h:J8 r s p r.length fl):fl=nats r s:=by
 refine Fl.ext (g:=fun i=>vN r s (i:Int)) (Fl.GD h fun i hi=>?_) (HN r s);rw [<- T.len,ae1,JB hR s hi,<- xG,Gq T.perm]
abbrev Mv:=Int × Int × Int
def RM (r:List Int)(ms:List Mv)(i:Int):Int:=(ms.map fun m=>if i∈dZ r m.1 m.2.1 then m.2.2 else 0).sum
theorem N6 (r:List Int)(ms:List Mv)(m:Mv)(i:Int):RM r (ms++[m]) i=RM r ms i+if i∈dZ r m.1 m.2.1 then m.2.2 else 0:=by
 unfold RM;rw [ad3,List.sum_append];simp
def acq (r s:List Int)(ms:List Mv):List Int:=(List.range r.length).map fun (i:Nat)=>vN r s (i:Int) - RM r ms (i:Int)
theorem Py (r s:List Int)(ms:List Mv):Fl r.length (acq r s ms) fun i=>vN r s (i:Int) - RM r ms (i:Int):=Fl.map _ _
def MvI (r:List Int)(g:Nat->Int)(am:Int)(pre:List Int)(fl:List Int):Prop:=Fl r.length fl fun i=>g i - if (i:Int)∈pre then am else 0
theorem MvI.start {r:List Int}{g:Nat->Int}{fl:List Int}(am:Int)(h:Fl r.length fl g):MvI r g am [] fl:=Fl.GD h fun i _=>by rw [if_neg (by simp)];omega
theorem MvI.turn {r:List Int}{g:Nat->Int}{am:Int}{pre:List Int}{fl:List Int}(h:MvI r g am pre fl){j:Nat}(hj:j<r.length)(hn:¬ (j:Int)∈pre){x:Int}(hx:fl[j]?=some x):MvI r g am (pre++[(j:Int)]) (fl.set j (x - am)):=by
 refine Fl.set h hj (fun i _ hij=>?_) ?_
 ·have:((i:Int)∈pre++[(j:Int)])=((i:Int)∈pre):=by
   apply propext;simp;omega
  simp only [this]
 ·rw [h.at_ j hj,if_neg hn] at hx;rw [<- aek hx,if_pos (by simp)];omega
theorem MvI.done {r s:List Int}{ms:List Mv}{m:Mv}{fl:List Int}(h:MvI r (fun i=>vN r s (i:Int) - RM r ms (i:Int)) m.2.2 (dZ r m.1 m.2.1) fl):Fl r.length fl fun i=>vN r s (i:Int) - RM r (ms++[m]) (i:Int):=
 Fl.GD h fun i _=>by rw [N6];dsimp only;omega
def adB (r:List Int)(m:Mv):Prop:=0<=m.1/\m.1<r.length/\Stop r m.1 m.2.1
def wsum (r s:List Int)(t:Nat)(i:Nat):Int:=tot t fun j=>if (i:Int)∈walk r (j:Int) then s.getD j 0 else 0
theorem QV (r s:List Int)(i:Nat):wsum r s r.length i=vN r s (i:Int):=rfl
theorem Lg {r s:List Int}{t:Nat}{fl:List Int}(h:MvI r (wsum r s t) (-(s.getD t 0)) (walk r (t:Int)) fl):Fl r.length fl (wsum r s (t+1)):=
 Fl.GD h fun i _=>by
  show wsum r s t i - (if (i:Int)∈walk r (t:Int) then -(s.getD t 0) else 0)=wsum r s t i+if (i:Int)∈walk r (t:Int) then s.getD t 0 else 0;split <;>omega
def NZ (r:List Int)(t:Nat):List Int:=((List.range t).filter fun (j:Nat)=>decide (nxt r (j:Int)=-1)).map fun (j:Nat)=>(j:Int)
theorem Gm (r:List Int)(t:Nat):NZ r (t+1)=NZ r t++(if nxt r (t:Int)=-1 then [(t:Int)] else []):=by
 unfold NZ;rw [afG,List.filter_append,ad3];by_cases h:nxt r (t:Int)=-1
 ·rw [if_pos h];simp [h]
 ·rw [if_neg h];simp [h]
theorem JD (r:List Int)(t:Nat):(NZ r t).length<=t:=by
 unfold NZ;rw [TX];exact aeP (List.length_filter_le _ _) (by simp)
end Rv
namespace Tn
def mq:Nat->(Nat->Int)->Int
 | 0,_=>0
 | n+1,f=>mq n f+f n
theorem cu {f g:Nat->Int}:∀ {n:Nat},(∀ k,k<n->f k=g k)->mq n f=mq n g
 | 0,_=>rfl
 | n+1,h=>by
  show mq n f+f n=mq n g+g n;rw [cu fun k hk=>h k (by omega),h n (by omega)]
theorem zG {f g:Nat->Int}:∀ {n:Nat},(∀ k,k<n->f k<=g k)->mq n f<=mq n g
 | 0,_=>aeK _
 | n+1,h=>by
  show mq n f+f n<=mq n g+g n;have a:=zG fun k hk=>h k (Nat.lt_succ_of_lt hk);have b:=h n (afq n);omega
theorem Lz {f g:Nat->Int}{i:Nat}:∀ {n:Nat},i<n->(∀ k,k<n->f k<=g k)->f i<g i->mq n f<mq n g
 | 0,hi,_,_=>absurd hi (afH _)
 | n+1,hi,h,hl=>by
  show mq n f+f n<mq n g+g n;by_cases e:i=n
  ·subst e;have a:=zG fun k hk=>h k (Nat.lt_succ_of_lt hk);omega
  ·have a:=Lz (n:=n) (by omega) (fun k hk=>h k (Nat.lt_succ_of_lt hk)) hl;have b:=h n (afq n);omega
theorem vQ (f g:Nat->Int):∀ n:Nat,mq n (fun k=>f k+g k)=mq n f+mq n g
 | 0=>rfl
 | n+1=>by
  show mq n _+(f n+g n)=mq n f+f n+(mq n g+g n);rw [vQ f g n];omega
theorem Dd (f g:Nat->Int):∀ n:Nat,mq n (fun k=>f k - g k)=mq n f - mq n g
 | 0=>rfl
 | n+1=>by
  show mq n _+(f n - g n)=mq n f+f n - (mq n g+g n);rw [Dd f g n];omega
theorem jO:∀ n:Nat,mq n (fun _=>0)=0
 | 0=>rfl
 | n+1=>by show mq n _+0=0;rw [jO n];rfl
theorem vP {i:Nat}(c:Int):∀ {n:Nat},i<n->mq n (fun k=>if k=i then c else 0)=c
 | 0,hi=>absurd hi (afH _)
 | n+1,hi=>by
  show mq n _+(if n=i then c else 0)=c;by_cases e:n=i
  ·subst e;rw [if_pos rfl,cu (g:=fun _=>0) fun k hk=>if_neg (by omega),jO];omega
  ·rw [if_neg e,vP c (by omega)];omega
theorem Hh {f:Nat->Int}{n:Nat}(h:∀ k,k<n->0<=f k):0<=mq n f:=by
 have:=zG (f:=fun _=>0) (g:=f) h;rw [jO] at this;exact this
theorem zF {f:Nat->Int}{n i:Nat}(hi:i<n)(h:∀ k,k<n->0<=f k):f i<=mq n f:=by
 have:=zG (f:=fun k=>if k=i then f i else 0) (g:=f) (n:=n) fun k hk=>by
  by_cases e:k=i
  ·subst e;rw [if_pos rfl];exact aeK _
  ·rw [if_neg e];exact h k hk
 rw [vP _ hi] at this;exact this
def hold (n:Nat)(W:Nat->List Int)(x:Nat->Int)(r:Int):Int:=mq n fun k=>if r∈W k then x k else 0
theorem ZR {n i:Nat}{W:Nat->List Int}{x y:Nat->Int}{r:Int}(hi:i<n)(hr:r∈W i)(h:∀ k,k<n->r∈W k->x k<=y k)(hl:x i<y i):hold n W x r<hold n W y r:=
 Lz hi (fun k hk=>by
  by_cases e:r∈W k
  ·rw [if_pos e,if_pos e];exact h k hk e
  ·rw [if_neg e,if_neg e];exact aeK _) (by rw [if_pos hr,if_pos hr];exact hl)
theorem Ci {n:Nat}{W:Nat->List Int}{x y:Nat->Int}{r:Int}(h:∀ k,k<n->r∈W k->x k=y k):hold n W x r=hold n W y r:=
 cu fun k hk=>by
  by_cases e:r∈W k
  ·rw [if_pos e,if_pos e];exact h k hk e
  ·rw [if_neg e,if_neg e]
def put (x:Nat->Int)(i:Nat)(c:Int):Nat->Int:=fun k=>if k=i then x k+c else x k
theorem Ju (x:Nat->Int)(i:Nat)(c:Int):put x i c i=x i+c:=if_pos rfl
theorem zP {x:Nat->Int}{i k:Nat}{c:Int}(h:k≠i):put x i c k=x k:=if_neg h
theorem DP {n i:Nat}{W:Nat->List Int}{x:Nat->Int}{r c:Int}(hi:i<n):hold n W (put x i c) r=hold n W x r+(if r∈W i then c else 0):=by
 have e:∀ k,k<n->(if r∈W k then put x i c k else 0)=(if r∈W k then x k else 0)+(if k=i then (if r∈W i then c else 0) else 0):=fun k _=>by
  by_cases h1:r∈W k
  ·by_cases h2:k=i
   ·subst h2;simp [put,h1]
   ·simp [put,h1,h2]
  ·by_cases h2:k=i
   ·subst h2;simp [h1]
   ·simp [h1,h2]
 unfold hold;rw [cu e,vQ,vP _ hi]
theorem qF (n:Nat)(W:Nat->List Int)(r:Int):hold n W (fun _=>0) r=0:=by
 unfold hold;rw [cu (g:=fun _=>0) fun k _=>by split <;>rfl,jO]
def Il (d n i d' m j:Int):Prop:=d<d'\/d=d'/\(n<m\/n=m/\i<j)
structure Fit (n:Nat)(F:Int->Int)(W:Nat->List Int)(want x:Nat->Int):Prop where
 nn:∀ k,k<n->0<=x k
 le:∀ k,k<n->x k<=want k
 fits:∀ r,(∃ k,k<n/\r∈W k)->hold n W x r<=F r
def Et (n:Nat)(F:Int->Int)(W:Nat->List Int)(day x:Nat->Int)(k:Nat)(r:Int):Prop:=
 r∈W k/\hold n W x r=F r/\∀ j,j<n->r∈W j->0<x j->Il (day j) (x j) j (day k) (x k+1) k
def Ax (n:Nat)(F:Int->Int)(W:Nat->List Int)(day want x:Nat->Int):Prop:=
 ∀ k,k<n->x k<want k->∃ r,Et n F W day x k r
theorem Cp {P:Nat->Prop}(f:Nat->Nat)(h:∃ k,P k):∃ k,P k/\∀ j,P j->f k<=f j:=by
 obtain ⟨k,hk⟩:=h;have key:∀ (m k:Nat),f k<=m->P k->∃ k,P k/\∀ j,P j->f k<=f j:=by
  intro m
  induction m with
  | zero=>intro k hk hp;exact ⟨k,hp,fun j _=>by omega⟩
  | succ m ih =>
   intro k hk hp;by_cases hx:∃ j,P j/\f j<f k
   ·obtain ⟨j,hj,hl⟩:=hx;exact ih j (by omega) hj
   ·exact ⟨k,hp,fun j hj=>aeX fun hn=>hx ⟨j,hj,by omega⟩⟩
 exact key (f k) k (ad2 _) hk
theorem Ag {P:Nat->Prop}(f:Nat->Int)(b:Int)(hb:∀ k,P k->b<=f k)(h:∃ k,P k):∃ k,P k/\∀ j,P j->f k<=f j:=by
 obtain ⟨k,hk,hm⟩:=Cp (fun k=>(f k - b).toNat) h;refine ⟨k,hk,fun j hj=>?_⟩;have a1:=hm j hj;have a2:=hb k hk;have a3:=hb j hj;omega
theorem K7 {n:Nat}{day x y:Nat->Int}(hd:∀ k,k<n->0<=day k)(hx:∀ k,k<n->0<=x k)(hy:∀ k,k<n->0<=y k)(h:∃ k,k<n/\x k≠y k):
  ∃ k,k<n/\x k≠y k/\∀ j,j<n->x j≠y j->j=k\/Il (day k) (min (x k) (y k)) k (day j) (min (x j) (y j)) j:=by
 obtain ⟨k1,p1,m1⟩:=Ag (P:=fun k=>k<n/\x k≠y k) day 0 (fun k hk=>hd k hk.1) h;obtain ⟨k2,p2,m2⟩:=Ag (P:=fun k=>(k<n/\x k≠y k)/\day k=day k1) (fun k=>min (x k) (y k)) 0 (fun k hk=>by
  have a:=hx k hk.1.1;have b:=hy k hk.1.1;show (0:Int)<=min (x k) (y k);omega) ⟨k1,p1,rfl⟩
 obtain ⟨k3,p3,m3⟩:=Cp (P:=fun k=>((k<n/\x k≠y k)/\day k=day k1)/\min (x k) (y k)=min (x k2) (y k2)) (fun k=>k) ⟨k2,p2,rfl⟩;refine ⟨k3,p3.1.1.1,p3.1.1.2,fun j hj hne=>?_⟩;have a1:=m1 j ⟨hj,hne⟩;have a2:=p3.1.2;by_cases hday:day j=day k1
 ·have b1:=m2 j ⟨⟨hj,hne⟩,hday⟩;have b2:=p3.2;by_cases hmin:min (x j) (y j)=min (x k2) (y k2)
  ·have c1:=m3 j ⟨⟨⟨hj,hne⟩,hday⟩,hmin⟩;by_cases e:j=k3
   ·exact .inl e
   ·exact .inr (.inr ⟨by omega,.inr ⟨by omega,by omega⟩⟩)
  ·refine .inr (.inr ⟨by omega,.inl ?_⟩);have b3:min (x k2) (y k2)<=min (x j) (y j):=b1;omega
 ·exact .inr (.inl (by omega))
theorem uf {n:Nat}{F:Int->Int}{W:Nat->List Int}{day want x y:Nat->Int}(sx:Ax n F W day want x)(fy:Fit n F W want y)
  {k:Nat}(hk:k<n)(hne:x k≠y k)(hm:∀ j,j<n->x j≠y j->j=k\/Il (day k) (min (x k) (y k)) k (day j) (min (x j) (y j)) j):y k<x k:=by
 refine aeX fun hn=>?_;have hlt:x k<y k:=by omega
 obtain ⟨r,hr,hF,hall⟩:=sx k hk (by have:=fy.le k hk;omega);have h1:hold n W x r<hold n W y r:=ZR hk hr (fun j hj hrj=>by
  refine aeX fun hle=>?_;have hyx:y j<x j:=by omega
  have hjk:j≠k:=fun e=>by subst e;omega
  have hy0:=fy.nn j hj;rcases hm j hj (by omega) with e| a
  ·exact hjk e
  ·rw [show min (x k) (y k)=x k by omega,show min (x j) (y j)=y j by omega] at a;have b:=hall j hj hrj (by omega);unfold Il at a b;omega) hlt
 have h2:=fy.fits r ⟨k,hk,hr⟩;omega
theorem unique {n:Nat}{F:Int->Int}{W:Nat->List Int}{day want x y:Nat->Int}(hd:∀ k,k<n->0<=day k)(fx:Fit n F W want x)(sx:Ax n F W day want x)(fy:Fit n F W want y)(sy:Ax n F W day want y):
  ∀ k,k<n->x k=y k:=by
 refine aeX fun hn=>?_;have hex:∃ k,k<n/\x k≠y k:=aeX fun h=>hn fun k hk=>aeX fun hne=>h ⟨k,hk,hne⟩;obtain ⟨k,hk,hne,hm⟩:=K7 hd fx.nn fy.nn hex;have a:=uf sx fy hk hne hm;have b:=uf sy fx hk (Ne.symm hne) fun j hj h=>by
  rw [show min (y k) (x k)=min (x k) (y k) by omega,show min (y j) (x j)=min (x j) (y j) by omega];exact hm j hj (Ne.symm h)
 omega
def d0:Nat->Int:=fun _=>0
structure Ld (n:Nat)(F:Int->Int)(W:Nat->List Int)(want x:Nat->Int)(G:Nat->Bool)(t:Int):Prop where
 fit:Fit n F W want x
 go:∀ k,G k=true->k<n/\x k=t
 top:∀ k,k<n->x k<=t
 done:∀ k,k<n->G k=false->x k<want k->∃ r,Et n F W d0 x k r
theorem Ld.start {n:Nat}{F:Int->Int}{W:Nat->List Int}{want:Nat->Int}(hw:∀ k,k<n->0<=want k)(hF:∀ r,(∃ k,k<n/\r∈W k)->0<=F r):
  Ld n F W want (fun _=>0) (fun k=>decide (k<n)) 0:=
 ⟨⟨fun _ _=>aeK _,hw,fun r hr=>by rw [qF];exact hF r hr⟩,fun k hk=>⟨by simpa using hk,rfl⟩,fun _ _=>aeK _,fun k hk hg=>by simp [hk] at hg⟩
theorem Ld.finish {n:Nat}{F:Int->Int}{W:Nat->List Int}{want x:Nat->Int}{G:Nat->Bool}{t:Int}(h:Ld n F W want x G t)(hG:∀ k,k<n->G k=false):Fit n F W want x/\Ax n F W d0 want x:=
 ⟨h.fit,fun k hk hl=>h.done k hk (hG k hk) hl⟩
def cnt (n:Nat)(W:Nat->List Int)(G:Nat->Bool)(r:Int):Int:=hold n W (fun k=>if G k then 1 else 0) r
def jump (x:Nat->Int)(G:Nat->Bool)(m:Int):Nat->Int:=fun k=>if G k then x k+m else x k
theorem zZ (n:Nat)(W:Nat->List Int)(x:Nat->Int)(G:Nat->Bool)(m r:Int):hold n W (jump x G m) r=hold n W x r+m*cnt n W G r:=by
 unfold cnt hold jump
 induction n with
 | zero=>simp [mq]
 | succ n ih =>
  simp only [mq];rw [ih,Int.mul_add];by_cases h1:r∈W n
  ·by_cases h2:G n=true
   ·simp [h1,h2];omega
   ·simp [h1,h2];omega
  ·simp [h1]
theorem Z6 {n:Nat}{W:Nat->List Int}{G:Nat->Bool}{r:Int}{j:Nat}(hj:j<n)(hr:r∈W j)(hg:G j=true):0<cnt n W G r:=by
 have h:=zF (f:=fun k=>if r∈W k then (if G k then (1:Int) else 0) else 0) hj fun k _=>by
  split
  ·split <;>decide
  ·decide
 simp only [hr,hg,if_true] at h;show 0<mq n fun k=>if r∈W k then (if G k then (1:Int) else 0) else 0;omega
theorem ab4 (n:Nat)(W:Nat->List Int)(G:Nat->Bool)(r:Int):0<=cnt n W G r:=Hh fun k _=>by
 show (0:Int)<=if r∈W k then (if G k then (1:Int) else 0) else 0;split
 ·split <;>decide
 ·decide
theorem Ld.jump {n:Nat}{F:Int->Int}{W:Nat->List Int}{want x:Nat->Int}{G:Nat->Bool}{t m:Int}(h:Ld n F W want x G t)(hm:0<=m)(h1:∀ k,G k=true->x k+m<=want k)
  (h2:∀ r,(∃ k,k<n/\r∈W k)->m*cnt n W G r<=F r - hold n W x r):Ld n F W want (jump x G m) G (t+m):=by
 refine ⟨⟨fun k hk=>?_,fun k hk=>?_,fun r hr=>?_⟩,fun k hk=>⟨(h.go k hk).1,?_⟩,fun k hk=>?_,fun k hk hg hl=>?_⟩
 ·have:=h.fit.nn k hk;unfold Tn.jump;split <;>omega
 ·unfold Tn.jump;split
  ·rename_i hg;exact h1 k hg
  ·exact h.fit.le k hk
 ·rw [zZ];have:=h2 r hr;omega
 ·unfold Tn.jump;rw [if_pos hk,(h.go k hk).2]
 ·have:=h.top k hk;unfold Tn.jump;split <;>omega
 ·have ek:Tn.jump x G m k=x k:=by unfold Tn.jump;rw [hg];rfl
  rw [ek] at hl;obtain ⟨r,hr,hF,hall⟩:=h.done k hk hg hl;by_cases hm0:m=0
  ·have e:Tn.jump x G m=x:=by
    funext j;unfold Tn.jump;split <;>omega
   rw [e];exact ⟨r,hr,hF,hall⟩
  ·have hc:=h2 r ⟨k,hk,hr⟩;have hno:∀ j,j<n->r∈W j->G j=false:=fun j hj hrj=>by
    cases hgj:G j with
    | false=>rfl
    | true =>
     exfalso;have p:=Z6 hj hrj hgj;have q:0<m*cnt n W G r:=Int.mul_pos (by omega) p;omega
   have same:∀ j,j<n->r∈W j->Tn.jump x G m j=x j:=fun j hj hrj=>by unfold Tn.jump;rw [hno j hj hrj];rfl
   refine ⟨r,hr,?_,fun j hj hrj hp=>?_⟩
   ·rw [Ci (y:=x) same];exact hF
   ·rw [same j hj hrj] at hp ⊢;rw [ek];exact hall j hj hrj hp
structure Ik (n:Nat)(F:Int->Int)(W:Nat->List Int)(want x:Nat->Int)(G S:Nat->Bool)(t:Int)(p:Nat):Prop where
 fit:Fit n F W want x
 still:∀ k,S k=true->k<p/\k<n/\x k=t+1
 wait:∀ k,k<n->G k=true->p<=k->x k=t
 low:∀ k,k<n->S k=false->x k<=t
 done:∀ k,k<n->S k=false->(k<p\/G k=false)->x k<want k->∃ r,Et n F W d0 x k r
theorem Ld.pass {n:Nat}{F:Int->Int}{W:Nat->List Int}{want x:Nat->Int}{G:Nat->Bool}{t:Int}(h:Ld n F W want x G t):Ik n F W want x G (fun _=>false) t 0:=
 ⟨h.fit,(fun _ hk=>by cases hk),fun k _ hg _=>(h.go k hg).2,fun k hk _=>h.top k hk,fun k hk _ hg hl=>by
  rcases hg with z| z
  ·exact absurd z (afH _)
  ·exact h.done k hk z hl⟩
theorem Ik.skip {n:Nat}{F:Int->Int}{W:Nat->List Int}{want x:Nat->Int}{G S:Nat->Bool}{t:Int}{p q:Nat}(h:Ik n F W want x G S t p)(hpq:p<=q)(hno:∀ k,p<=k->k<q->G k=false):Ik n F W want x G S t q:=
 ⟨h.fit,fun k hk=>⟨by have:=(h.still k hk).1;omega,(h.still k hk).2⟩,fun k hk hg hq=>h.wait k hk hg (by omega),h.low,fun k hk hs hg hl=>by
  refine h.done k hk hs ?_ hl;rcases hg with z| z
  ·by_cases e:k<p
   ·exact .inl e
   ·exact .inr (hno k (by omega) z)
  ·exact .inr z⟩
theorem Ik.gets {n:Nat}{F:Int->Int}{W:Nat->List Int}{want x:Nat->Int}{G S:Nat->Bool}{t:Int}{p:Nat}(h:Ik n F W want x G S t p)(hp:p<n)(hg:G p=true)(hw:x p<want p)(hfree:∀ r,r∈W p->0<F r - hold n W x r):
  Ik n F W want (put x p 1) G (fun k=>if k=p then true else S k) t (p+1):=by
 have xp:=h.wait p hp hg (ad2 _);refine ⟨⟨fun k hk=>?_,fun k hk=>?_,fun r hr=>?_⟩,fun k hk=>?_,fun k hk hg hq=>?_,fun k hk hs=>?_,fun k hk hs hq hl=>?_⟩
 ·have:=h.fit.nn k hk;unfold put;split <;>omega
 ·by_cases e:k=p
  ·subst e;rw [Ju];omega
  ·rw [zP e];exact h.fit.le k hk
 ·rw [DP hp];by_cases e:r∈W p
  ·rw [if_pos e];have:=hfree r e;omega
  ·rw [if_neg e];have:=h.fit.fits r hr;omega
 ·by_cases e:k=p
  ·subst e;rw [Ju];exact ⟨by omega,hp,by omega⟩
  ·simp only [e,if_false] at hk;obtain ⟨a,b,c⟩:=h.still k hk;rw [zP e];exact ⟨by omega,b,c⟩
 ·rw [zP (by omega)];exact h.wait k hk hg (by omega)
 ·by_cases e:k=p
  ·simp [e] at hs
  ·simp only [e,if_false] at hs;rw [zP e];exact h.low k hk hs
 ·by_cases e:k=p
  ·simp [e] at hs
  ·simp only [e,if_false] at hs;rw [zP e] at hl;obtain ⟨r,hr,hF,hall⟩:=h.done k hk hs (by
    rcases hq with z| z
    ·exact .inl (by omega)
    ·exact .inr z) hl
   have hrp:¬ r∈W p:=fun z=>by have:=hfree r z;omega
   refine ⟨r,hr,?_,fun j hj hrj hpos=>?_⟩
   ·rw [DP hp,if_neg hrp];omega
   ·have hjp:j≠p:=fun z=>hrp (z ▸ hrj);rw [zP hjp] at hpos ⊢;rw [zP e];exact hall j hj hrj hpos
theorem Ik.ends {n:Nat}{F:Int->Int}{W:Nat->List Int}{want x:Nat->Int}{G S:Nat->Bool}{t:Int}{p:Nat}(h:Ik n F W want x G S t p)(hp:p<n)(hg:G p=true)(hn:want p<=x p\/∃ r,r∈W p/\F r - hold n W x r<=0):
  Ik n F W want x G S t (p+1):=by
 have xp:=h.wait p hp hg (ad2 _);refine ⟨h.fit,fun k hk=>⟨by have:=(h.still k hk).1;omega,(h.still k hk).2⟩,fun k hk hg hq=>h.wait k hk hg (by omega),h.low,fun k hk hs hq hl=>?_⟩;by_cases e:k=p
 ·subst e;rcases hn with z| ⟨r,hr,hle⟩
  ·omega
  ·refine ⟨r,hr,?_,fun j hj hrj hpos=>?_⟩
   ·have:=h.fit.fits r ⟨k,hk,hr⟩;omega
   ·cases hsj:S j with
    | false =>
     have:=h.low j hj hsj;exact .inr ⟨rfl,.inl (by omega)⟩
    | true =>
     obtain ⟨a,b,c⟩:=h.still j hsj;exact .inr ⟨rfl,.inr ⟨by omega,by omega⟩⟩
 ·exact h.done k hk hs (by
   rcases hq with z| z
   ·exact .inl (by omega)
   ·exact .inr z) hl
theorem Ik.finish {n:Nat}{F:Int->Int}{W:Nat->List Int}{want x:Nat->Int}{G S:Nat->Bool}{t:Int}(h:Ik n F W want x G S t n):Ld n F W want x S (t+1):=
 ⟨h.fit,fun k hk=>(h.still k hk).2,fun k hk=>by
  cases hs:S k with
  | false=>have:=h.low k hk hs;omega
  | true=>have:=(h.still k hs).2.2;omega,fun k hk hs hl=>h.done k hk hs (.inl hk) hl⟩
def bump (xs w:List Int)(c:Int):List Int:=w.foldl (fun xs r=>xs.set r.toNat (xs.getD r.toNat 0+c)) xs
theorem S8 (xs:List Int)(c:Int):bump xs [] c=xs:=rfl
theorem GK (xs w:List Int)(r c:Int):bump xs (r::w) c=bump (xs.set r.toNat (xs.getD r.toNat 0+c)) w c:=rfl
theorem Qv (xs w:List Int)(r c:Int):bump xs (w++[r]) c=(bump xs w c).set r.toNat ((bump xs w c).getD r.toNat 0+c):=by
 unfold bump;rw [List.foldl_append];rfl
theorem kJ:∀ (w xs:List Int)(c:Int),(bump xs w c).length=xs.length
 | [],_,_=>rfl
 | r::w,xs,c=>by rw [GK,kJ w,aeV]
theorem Ea {xs:List Int}{i k:Nat}{v:Int}(hi:i<xs.length):(xs.set i v).getD k 0=if k=i then v else xs.getD k 0:=by
 rw [ad0,List.getElem?_set,ad0];by_cases h:i=k
 ·subst h;simp [hi]
 ·have h':¬ k=i:=fun e=>h e.symm;simp [h,h']
theorem wJ:∀ {w xs:List Int}{c:Int},w.Nodup->(∀ r∈w,0<=r/\r<xs.length)->∀ k:Nat,(bump xs w c).getD k 0=xs.getD k 0+(if (k:Int)∈w then c else 0)
 | [],xs,c,_,_,k=>by simp [S8]
 | r::w,xs,c,hw,hin,k=>by
  rw [ae5] at hw;obtain ⟨r0,r1⟩:=hin r aeu;have hl:r.toNat<xs.length:=by omega
  rw [GK,wJ hw.2 (fun q hq=>by rw [aeV];exact hin q (aej _ hq)) k,Ea hl];by_cases e:k=r.toNat
  ·have ek:(k:Int)=r:=by omega
   have hn:¬ (k:Int)∈w:=by rw [ek];exact hw.1
   rw [if_pos e,if_neg hn,if_pos (by rw [ek];exact aeu),e];omega
  ·have ek:¬ (k:Int)=r:=by omega
   rw [if_neg e];by_cases h:(k:Int)∈w
   ·rw [if_pos h,if_pos (aej _ h)]
   ·rw [if_neg h,if_neg (fun z=>by rcases aen.mp z with q| q;exact ek q;exact h q)]
def bumps (xs:List Int)(ps:List (List Int × Int)):List Int:=ps.foldl (fun xs p=>bump xs p.1 p.2) xs
theorem Qu (xs:List Int):bumps xs []=xs:=rfl
theorem Cv (xs:List Int)(p:List Int × Int)(ps:List (List Int × Int)):bumps xs (p::ps)=bumps (bump xs p.1 p.2) ps:=rfl
theorem Cu (xs:List Int)(ps:List (List Int × Int))(p:List Int × Int):bumps xs (ps++[p])=bump (bumps xs ps) p.1 p.2:=by
 unfold bumps;rw [List.foldl_append];rfl
theorem nM:∀ (ps:List (List Int × Int))(xs:List Int),(bumps xs ps).length=xs.length
 | [],_=>rfl
 | p::ps,xs=>by rw [Cv,nM ps,kJ]
def WOk (n:Nat)(w:List Int):Prop:=w.Nodup/\∀ r∈w,0<=r/\r<(n:Int)
theorem wI:∀ {ps:List (List Int × Int)}{xs:List Int},(∀ p∈ps,WOk xs.length p.1)->∀ k:Nat,(bumps xs ps).getD k 0=xs.getD k 0+(ps.map fun p=>if (k:Int)∈p.1 then p.2 else 0).sum
 | [],xs,_,k=>by simp [Qu]
 | p::ps,xs,h,k=>by
  have hp:=h p aeu;rw [Cv,wI (fun q hq=>by rw [kJ];exact h q (aej _ hq)) k,wJ hp.1 hp.2 k,aey,List.sum_cons];omega
theorem Q6 {α:Type}(l:List α)(f:α->Int)(g:Nat->Int)(h:∀ k a,l[k]?=some a->g k=f a):(l.map f).sum=mq l.length g:=by
 have key:∀ n,n<=l.length->((l.take n).map f).sum=mq n g:=by
  intro n
  induction n with
  | zero=>intro _;rfl
  | succ n ih =>
   intro hn;have e:l[n]?=some l[n]:=adW (by omega);rw [List.take_succ,e,ad3,List.sum_append,ih (by omega)];show _+(f l[n]+0)=mq n g+g n;rw [h n _ e];omega
 have:=key l.length (ad2 _);rwa [ad8 (ad2 _)] at this
theorem zp {n:Nat}{f:Nat->Int}:∀ {g:List Nat},g.Nodup->(∀ k∈g,k<n)->(g.map f).sum=mq n fun k=>if k∈g then f k else 0
 | [],_,_=>by simp [jO]
 | a::g,hn,hl=>by
  rw [ae5] at hn;rw [aey,List.sum_cons,zp hn.2 fun k hk=>hl k (aej _ hk)];have e:∀ k,k<n->(if k∈a::g then f k else 0)=(if k=a then f a else 0)+(if k∈g then f k else 0):=fun k _=>by
   by_cases h:k=a
   ·subst h;simp [hn.1]
   ·simp [h]
  rw [cu e,vQ,vP _ (hl a aeu)]
def shares (fs cs:List Int):List Int:=((fs.zip cs).filter fun p=>decide (0<p.2)).map fun p=>p.1 / p.2
def WT (fs cs rs:List Int)(M:Int):Prop:=(rs++shares fs cs=[]/\M=0)\/∃ m∈rs++shares fs cs,(∀ a∈rs++shares fs cs,m<=a)/\M=max 0 m
theorem Ca {fs cs:List Int}{a:Int}:a∈shares fs cs↔∃ (k:Nat)(f c:Int),fs[k]?=some f/\cs[k]?=some c/\0<c/\a=f / c:=by
 unfold shares;simp only [aep,List.mem_filter,decide_eq_true_eq];constructor
 ·rintro ⟨⟨f,c⟩,⟨hm,hc⟩,rfl⟩;obtain ⟨k,hk,e⟩:=aew hm;have e':(fs.zip cs)[k]?=some (f,c):=by rw [adW hk,e]
  rw [afl] at e';exact ⟨k,f,c,e'.1,e'.2,hc,rfl⟩
 ·rintro ⟨k,f,c,h1,h2,h3,rfl⟩;exact ⟨(f,c),⟨ad1 (i:=k) (afl.mpr ⟨h1,h2⟩),h3⟩,rfl⟩
theorem WT.nn {fs cs rs:List Int}{M:Int}(h:WT fs cs rs M):0<=M:=by
 rcases h with ⟨_,e⟩ | ⟨m,_,_,e⟩<;>omega
theorem WT.low {fs cs rs:List Int}{M:Int}(h:WT fs cs rs M)(hr:∀ a∈rs,0<=a)(hf:∀ a∈fs,0<=a):(∀ a∈rs,M<=a)/\∀ (k:Nat)(f c:Int),fs[k]?=some f->cs[k]?=some c->0<c->M*c<=f:=by
 have hall:∀ a∈rs++shares fs cs,0<=a:=fun a ha=>by
  rcases aem.mp ha with z| z
  ·exact hr a z
  ·obtain ⟨k,f,c,h1,h2,h3,rfl⟩:=Ca.mp z;exact Int.ediv_nonneg (hf f (ad1 h1)) (by omega)
 have hle:∀ a∈rs++shares fs cs,M<=a:=by
  rcases h with ⟨e,_⟩ | ⟨m,hm,hl,rfl⟩
  ·intro a ha;rw [e] at ha;cases ha
  ·intro a ha;have:=hl a ha;have:=hall m hm;omega
 refine ⟨fun a ha=>hle a (aeL _ ha),fun k f c h1 h2 h3=>?_⟩;exact (Int.le_ediv_iff_mul_le h3).mp (hle _ (ad4 _ (Ca.mpr ⟨k,f,c,h1,h2,h3,rfl⟩)))
structure Lf (n:Nat)(F:Int->Int)(W:Nat->List Int)(day want x:Nat->Int)(Pz:Nat->Prop):Prop where
 fit:Fit n F W want x
 shown:∀ k,k<n->Pz k->x k<want k->∃ r,Et n F W day x k r
 zero:∀ k,k<n->¬ Pz k->x k=0
theorem Lf.start {n:Nat}{F:Int->Int}{W:Nat->List Int}{day want:Nat->Int}(hw:∀ k,k<n->0<=want k)(hF:∀ r,(∃ k,k<n/\r∈W k)->0<=F r):Lf n F W day want (fun _=>0) (fun _=>False):=
 ⟨⟨fun _ _=>aeK _,hw,fun r hr=>by rw [qF];exact hF r hr⟩,fun _ _ z=>z.elim,fun _ _ _=>rfl⟩
def over (x:Nat->Int)(g:List Nat)(y:Nat->Int):Nat->Int:=fun k=>if k∈g then y (g.idxOf k) else x k
theorem qH {g:List Nat}{i:Nat}(h:i<g.length):g.getD i 0=g[i]:=by rw [ad0,adW h];rfl
theorem iW {g:List Nat}(h:g.Pairwise (·<·)):g.Nodup:=h.imp fun e=>aeN e
theorem JR {g:List Nat}(h:g.Nodup){i:Nat}(hi:i<g.length):g.idxOf g[i]=i:=by
 have h1:g.idxOf g[i]<g.length:=List.idxOf_lt_length_iff.mpr (aeQ hi);exact (afb (h₀:=h1) (h₁:=hi) h).mp (List.getElem_idxOf h1)
theorem xr {x y:Nat->Int}{g:List Nat}(h:g.Nodup){i:Nat}(hi:i<g.length):over x g y (g.getD i 0)=y i:=by
 unfold over;rw [qH hi,if_pos (aeQ hi),JR h hi]
theorem oH {x y:Nat->Int}{g:List Nat}{k:Nat}(h:¬ k∈g):over x g y k=x k:=if_neg h
theorem Gv {n:Nat}{W:Nat->List Int}{x y:Nat->Int}{g:List Nat}(r:Int)(hg:g.Nodup)(hn:∀ k∈g,k<n)(hz:∀ k∈g,x k=0):
  hold n W (over x g y) r=hold n W x r+hold g.length (fun i=>W (g.getD i 0)) y r:=by
 have e:∀ k,k<n->(if r∈W k then over x g y k else 0)=(if r∈W k then x k else 0)+(if k∈g then (if r∈W k then y (g.idxOf k) else 0) else 0):=fun k _=>by
  by_cases h:k∈g
  ·unfold over;rw [if_pos h,if_pos h,hz k h];by_cases h2:r∈W k
   ·simp [h2]
   ·simp [h2]
  ·rw [oH h,if_neg h];omega
 have e2:=zp (n:=n) (f:=fun k=>if r∈W k then y (g.idxOf k) else 0) hg hn;have e3:=Q6 g (fun k=>if r∈W k then y (g.idxOf k) else 0) (fun i=>if r∈W (g.getD i 0) then y i else 0) fun i a ha=>by
  obtain ⟨hi,rfl⟩:=acp.mp ha;rw [qH hi,JR hg hi]
 unfold hold;rw [cu e,vQ,<- e2,e3]
theorem Lf.step {n:Nat}{F:Int->Int}{W:Nat->List Int}{day want x y:Nat->Int}{Pz:Nat->Prop}{g:List Nat}{d:Int}(D:Lf n F W day want x Pz)(hg:g.Pairwise (·<·))(hgn:∀ k∈g,k<n/\day k=d/\¬ Pz k)(hd:∀ k,Pz k->day k<d)
  (fy:Fit g.length (fun r=>F r - hold n W x r) (fun i=>W (g.getD i 0)) (fun i=>want (g.getD i 0)) y)(sy:Ax g.length (fun r=>F r - hold n W x r) (fun i=>W (g.getD i 0)) d0 (fun i=>want (g.getD i 0)) y):
  Lf n F W day want (over x g y) (fun k=>Pz k\/k∈g):=by
 have nd:=iW hg
 have hn:∀ k∈g,k<n:=fun k hk=>(hgn k hk).1
 have hz:∀ k∈g,x k=0:=fun k hk=>D.zero k (hn k hk) (hgn k hk).2.2
 have hh:=fun r=>Gv (n:=n) (W:=W) (x:=x) (y:=y) r nd hn hz
 have inv:∀ k∈g,∃ i,i<g.length/\g.getD i 0=k:=fun k hk=>by
  obtain ⟨i,hi,e⟩:=aew hk
  exact ⟨i,hi,by rw [qH hi,e]⟩
 have yn:∀ r,0<=hold g.length (fun i=>W (g.getD i 0)) y r:=fun r=>Hh fun i hi=>by
  split
  ·exact fy.nn i hi
  ·exact aeK _
 refine ⟨⟨fun k hk=>?_,fun k hk=>?_,fun r hr=>?_⟩,fun k hk hp hl=>?_,fun k hk hp=>?_⟩
 ·by_cases h:k∈g
  ·obtain ⟨i,hi,rfl⟩:=inv k h
   rw [xr nd hi];exact fy.nn i hi
  ·rw [oH h];exact D.fit.nn k hk
 ·by_cases h:k∈g
  ·obtain ⟨i,hi,rfl⟩:=inv k h
   rw [xr nd hi];exact fy.le i hi
  ·rw [oH h];exact D.fit.le k hk
 ·rw [hh r]
  by_cases h:∃ i,i<g.length/\r∈W (g.getD i 0)
  ·have q:hold g.length (fun i=>W (g.getD i 0)) y r<=F r - hold n W x r:=fy.fits r h
   omega
  ·have e:hold g.length (fun i=>W (g.getD i 0)) y r=0:=by
    unfold hold
    rw [cu (g:=fun _=>0) fun i hi=>if_neg fun z=>h ⟨i,hi,z⟩,jO]
   have:=D.fit.fits r hr
   omega
 ·by_cases h:k∈g
  ·obtain ⟨i,hi,rfl⟩:=inv k h
   rw [xr nd hi] at hl
   obtain ⟨r,hr,hF,hall⟩:=sy i hi hl
   refine ⟨r,hr,?_,fun j hj hrj hpos=>?_⟩
   ·have q:hold g.length (fun i=>W (g.getD i 0)) y r=F r - hold n W x r:=hF
    rw [hh r,q];omega
   ·rw [xr nd hi]
    have dk:=(hgn _ h).2.1
    by_cases hj':j∈g
    ·obtain ⟨i',hi',rfl⟩:=inv j hj'
     rw [xr nd hi'] at hpos ⊢
     have dj:=(hgn _ hj').2.1
     have a:=hall i' hi' hrj hpos
     rcases a with a| ⟨_,a⟩
     ·exact absurd a (Int.lt_irrefl _)
     ·refine .inr ⟨by rw [dk,dj],?_⟩
      rcases a with a| ⟨a,b⟩
      ·exact .inl a
      ·refine .inr ⟨a,?_⟩
       have hlt:i'<i:=by omega
       have:=ae7.mp hg i' i hi' hi hlt
       rw [qH hi,qH hi'];omega
    ·rw [oH hj'] at hpos
     by_cases hpj:Pz j
     ·have:=hd j hpj
      exact .inl (by rw [dk];exact this)
     ·have:=D.zero j hj hpj
      omega
  ·have hpk:Pz k:=hp.resolve_right h
   rw [oH h] at hl
   obtain ⟨r,hr,hF,hall⟩:=D.shown k hk hpk hl
   have none:∀ i,i<g.length->r∈W (g.getD i 0)->y i=0:=fun i hi hri=>by
    have a:hold g.length (fun i=>W (g.getD i 0)) y r<=F r - hold n W x r:=fy.fits r ⟨i,hi,hri⟩
    have b:=zF (f:=fun i=>if r∈W (g.getD i 0) then y i else 0) hi fun j hj=>by
     show (0:Int)<=if r∈W (g.getD j 0) then y j else 0
     split
     ·exact fy.nn j hj
     ·exact aeK _
    have c:=fy.nn i hi
    have e:(if r∈W (g.getD i 0) then y i else 0)=y i:=if_pos hri
    have b':y i<=hold g.length (fun i=>W (g.getD i 0)) y r:=by rw [<- e];exact b
    omega
   have same:∀ j,j<n->r∈W j->over x g y j=x j:=fun j hj hrj=>by
    by_cases h2:j∈g
    ·obtain ⟨i,hi,rfl⟩:=inv j h2
     rw [xr nd hi,none i hi hrj,hz _ h2]
    ·exact oH h2
   refine ⟨r,hr,?_,fun j hj hrj hpos=>?_⟩
   ·rw [Ci (y:=x) same];exact hF
   ·rw [same j hj hrj] at hpos ⊢
    rw [oH h]
    exact hall j hj hrj hpos
 ·have h:¬ k∈g:=fun z=>hp (.inr z)
  rw [oH h]
  exact D.zero k hk fun z=>hp (.inl z)
theorem Lf.finish {n:Nat}{F:Int->Int}{W:Nat->List Int}{day want x:Nat->Int}{Pz:Nat->Prop}(D:Lf n F W day want x Pz)(h:∀ k,k<n->Pz k):Fit n F W want x/\Ax n F W day want x:=⟨D.fit,fun k hk hl=>D.shown k hk (h k hk) hl⟩
def fW (ws:List (List Int)):Nat->List Int:=fun k=>ws.getD k []
def fX (xs:List Int):Nat->Int:=fun k=>xs.getD k 0
def fF (fs:List Int):Int->Int:=fun r=>fs.getD r.toNat 0
def asI (gs:List Nat):List Int:=gs.map fun k:Nat=>(k:Int)
def fG (gs:List Nat):Nat->Bool:=fun k=>decide (k∈gs)
structure Az (fs:List Int)(ws:List (List Int))(rs l xs:List Int)(gs:List Nat)(t:Int):Prop where
 ll:l.length=fs.length
 xl:xs.length=ws.length
 left:∀ r:Nat,r<fs.length->l.getD r 0=fs.getD r 0 - hold ws.length (fW ws) (fX xs) (r:Int)
 srt:gs.Pairwise (·<·)
 inv:Ld ws.length (fF fs) (fW ws) (fX rs) (fX xs) (fG gs) t
theorem Cm (fs:List Int)(r:Nat):fF fs (r:Int)=fs.getD r 0:=by unfold fF;rw [aeb]
theorem zR {ws:List (List Int)}{k:Nat}(hk:k<ws.length):fW ws k∈ws:=by
 unfold fW;rw [ad0,adW hk];exact aeQ hk
theorem kI (n k:Nat):(List.replicate n (0:Int)).getD k 0=0:=by
 rw [ad0,afd];split <;>rfl
theorem Az.start {fs:List Int}{ws:List (List Int)}{rs:List Int}(hf:∀ a∈fs,0<=a)(hr:∀ a∈rs,0<=a)(hws:∀ w∈ws,WOk fs.length w):Az fs ws rs fs (List.replicate ws.length 0) (List.range ws.length) 0:=by
 have e:fX (List.replicate ws.length 0)=fun _=>0:=by
  funext k;exact kI _ _
 have g0:∀ (l:List Int)(k:Nat),(∀ a∈l,0<=a)->0<=l.getD k 0:=fun l k h=>by
  rw [ad0];cases hk:l[k]? with
  | none=>exact aeK _
  | some a=>exact h a (ad1 hk)
 refine ⟨rfl,by simp,fun r hr=>?_,List.pairwise_lt_range,?_⟩
 ·rw [e,qF];omega
 ·rw [e,show fG (List.range ws.length)=fun k=>decide (k<ws.length) from by funext k;simp [fG]];exact Ld.start (fun k _=>g0 rs k hr) fun r _=>g0 fs _ hf
theorem Az.nn {fs:List Int}{ws:List (List Int)}{rs l xs:List Int}{gs:List Nat}{t:Int}(h:Az fs ws rs l xs gs t)(hf:∀ a∈fs,0<=a):∀ a∈l,0<=a:=fun a ha=>by
 obtain ⟨r,hr,rfl⟩:=aew ha;have hr':r<fs.length:=by rw [<- h.ll];exact hr
 have e:l[r]=l.getD r 0:=by rw [ad0,adW hr];rfl
 rw [e,h.left r hr'];by_cases hx:∃ k,k<ws.length/\(r:Int)∈fW ws k
 ·have:=h.inv.fit.fits r hx;rw [Cm] at this;omega
 ·have e0:hold ws.length (fW ws) (fX xs) (r:Int)=0:=by
   unfold hold;rw [cu (g:=fun _=>0) fun k hk=>if_neg fun z=>hx ⟨k,hk,z⟩,jO]
  have:=hf fs[r] (aeQ hr');have e1:fs.getD r 0=fs[r]:=by rw [ad0,adW hr'];rfl
  omega
def QK (n:Nat)(ws:List (List Int))(gs:List Nat):List Int:=bumps (List.replicate n 0) (gs.map fun k=>(fW ws k,1))
theorem S5 {n:Nat}{ws:List (List Int)}{gs:List Nat}(hws:∀ w∈ws,WOk n w)(hg:gs.Nodup)(hn:∀ k∈gs,k<ws.length)(r:Nat):(QK n ws gs).getD r 0=cnt ws.length (fW ws) (fG gs) (r:Int):=by
 unfold QK;rw [wI (fun p hp=>by
  obtain ⟨k,hk,rfl⟩:=aep.mp hp;rw [aeH];exact hws _ (zR (hn k hk))) r,kI,aft]
 have e:=zp (n:=ws.length) (f:=fun k=>if (r:Int)∈fW ws k then (1:Int) else 0) hg hn;have e':((fun p:List Int × Int=>if (r:Int)∈p.1 then p.2 else 0) ∘ fun k=>(fW ws k,(1:Int)))=fun k=>if (r:Int)∈fW ws k then (1:Int) else 0:=rfl;rw [e',e];unfold cnt hold fG;rw [Int.zero_add];refine cu fun k _=>?_;by_cases h1:k∈gs
 ·simp [h1]
 ·simp [h1]
theorem SX (n:Nat)(ws:List (List Int))(gs:List Nat):(QK n ws gs).length=n:=by unfold QK;rw [nM,aeH]
def unmet (rs xs:List Int)(gs:List Nat):List Int:=gs.map fun k=>rs.getD k 0 - xs.getD k 0
theorem O9 {gs:List Nat}{n:Nat}(hg:gs.Nodup)(hn:∀ k∈gs,k<n):WOk n (asI gs):=by
 refine ⟨?_,fun r hr=>?_⟩
 ·unfold asI;exact List.Pairwise.map _ (fun a b h=>by omega) hg
 ·obtain ⟨k,hk,rfl⟩:=aep.mp hr;have:=hn k hk;omega
theorem Dz {gs:List Nat}{k:Nat}:(k:Int)∈asI gs↔k∈gs:=by
 unfold asI;rw [aep];constructor
 ·rintro ⟨a,ha,e⟩;have:a=k:=by omega
  rw [<- this];exact ha
 ·intro h;exact ⟨k,h,rfl⟩
theorem Az.going {fs:List Int}{ws:List (List Int)}{rs l xs:List Int}{gs:List Nat}{t:Int}(h:Az fs ws rs l xs gs t):∀ k∈gs,k<ws.length/\xs.getD k 0=t:=fun k hk=>h.inv.go k (by simpa [fG] using hk)
theorem Az.whole {fs:List Int}{ws:List (List Int)}{rs l xs:List Int}{gs:List Nat}{t M:Int}(h:Az fs ws rs l xs gs t)(hf:∀ a∈fs,0<=a)(hws:∀ w∈ws,WOk fs.length w)(hM:WT l (QK fs.length ws gs) (unmet rs xs gs) M):
  Az fs ws rs (bumps l (gs.map fun k=>(fW ws k,-M))) (bump xs (asI gs) M) gs (t+M):=by
 have nd:=iW h.srt;have hn:∀ k∈gs,k<ws.length:=fun k hk=>(h.going k hk).1;have hl:=h.nn hf;have hun:∀ a∈unmet rs xs gs,0<=a:=fun a ha=>by
  obtain ⟨k,hk,rfl⟩:=aep.mp ha;have:fX xs k<=fX rs k:=h.inv.fit.le k (hn k hk);unfold fX at this;omega
 obtain ⟨lo1,lo2⟩:=hM.low hun hl;have ex:fX (bump xs (asI gs) M)=jump (fX xs) (fG gs) M:=by
  funext k;show (bump xs (asI gs) M).getD k 0=if fG gs k then fX xs k+M else fX xs k;have ok:=O9 nd (n:=xs.length) fun k hk=>by rw [h.xl];exact hn k hk
  rw [wJ ok.1 ok.2 k];by_cases hk:k∈gs
  ·rw [if_pos (Dz.mpr hk)];simp [fG,hk,fX]
  ·rw [if_neg (fun z=>hk (Dz.mp z))];simp [fG,hk,fX]
 have key:∀ r:Nat,r<fs.length->M*cnt ws.length (fW ws) (fG gs) (r:Int)<=l.getD r 0:=fun r hr=>by
  have c0:=ab4 ws.length (fW ws) (fG gs) (r:Int);have hlr:r<l.length:=by rw [h.ll];exact hr
  have e1:l[r]?=some (l.getD r 0):=by rw [ad0,adW hlr];rfl
  have hcr:r<(QK fs.length ws gs).length:=by rw [SX];exact hr
  have e2:(QK fs.length ws gs)[r]?=some (cnt ws.length (fW ws) (fG gs) (r:Int)):=by
   rw [<- S5 hws nd hn r,ad0,adW hcr];rfl
  by_cases hp:0<cnt ws.length (fW ws) (fG gs) (r:Int)
  ·exact lo2 r _ _ e1 e2 hp
  ·have:cnt ws.length (fW ws) (fG gs) (r:Int)=0:=by omega
   rw [this,Int.mul_zero];exact hl _ (ad1 e1)
 refine ⟨by rw [nM];exact h.ll,by rw [kJ];exact h.xl,fun r hr=>?_,h.srt,?_⟩
 ·rw [wI (fun p hp=>by
   obtain ⟨k,hk,rfl⟩:=aep.mp hp;rw [h.ll];exact hws _ (zR (hn k hk))) r,h.left r hr,ex,zZ,aft]
  have e:=zp (n:=ws.length) (f:=fun k=>if (r:Int)∈fW ws k then -M else 0) nd hn;have e':((fun p:List Int × Int=>if (r:Int)∈p.1 then p.2 else 0) ∘ fun k=>(fW ws k,-M))=fun k=>if (r:Int)∈fW ws k then -M else 0:=rfl;rw [e',e];have e3:(mq ws.length fun k=>if k∈gs then (if (r:Int)∈fW ws k then -M else 0) else 0)=-(M*cnt ws.length (fW ws) (fG gs) (r:Int)):=by
   have a:=zZ ws.length (fW ws) (fun _=>0) (fG gs) (-M) (r:Int);rw [qF] at a;have b:hold ws.length (fW ws) (jump (fun _=>0) (fG gs) (-M)) (r:Int)=mq ws.length fun k=>if k∈gs then (if (r:Int)∈fW ws k then -M else 0) else 0:=by
    unfold hold jump fG;refine cu fun k _=>?_;by_cases h1:k∈gs
    ·simp [h1]
    ·simp [h1]
   rw [<- b,a,Int.neg_mul];omega
  rw [e3];omega
 ·rw [ex];refine h.inv.jump hM.nn (fun k hk=>?_) fun r hr=>?_
  ·have hk':k∈gs:=by simpa [fG] using hk
   have:=lo1 (rs.getD k 0 - xs.getD k 0) (aep.mpr ⟨k,hk',rfl⟩);unfold fX;omega
  ·obtain ⟨k,hk,hr⟩:=hr;have hw:=hws _ (zR hk);obtain ⟨r0,r1⟩:=hw.2 r hr;obtain ⟨rn,rfl⟩:=aeo r0;have hrn:rn<fs.length:=by omega
   have a:=key rn hrn;rw [h.left rn hrn] at a;rw [Cm];exact a
def step1 (ws:List (List Int))(rs:List Int)(s:List Int × List Int × List Nat)(k:Nat):List Int × List Int × List Nat:=
 if s.2.1.getD k 0<rs.getD k 0/\(fW ws k).all (fun r=>decide (0<s.1.getD r.toNat 0))=true then (bump s.1 (fW ws k) (-1),s.2.1.set k (s.2.1.getD k 0+1),s.2.2++[k]) else s
def jV (ws:List (List Int))(rs:List Int)(gs:List Nat)(s:List Int × List Int × List Nat):List Int × List Int × List Nat:=gs.foldl (step1 ws rs) s
theorem Bw (ws:List (List Int))(rs:List Int)(gs:List Nat)(k:Nat)(s:List Int × List Int × List Nat):jV ws rs (gs++[k]) s=step1 ws rs (jV ws rs gs s) k:=by
 unfold jV;rw [List.foldl_append];rfl
def rem (rs xs:List Int)(n:Nat):Int:=mq n fun k=>fX rs k - fX xs k
structure YZ (fs:List Int)(ws:List (List Int))(rs:List Int)(gs:List Nat)(t S0:Int)(i:Nat)(s:List Int × List Int × List Nat):Prop where
 ll:s.1.length=fs.length
 xl:s.2.1.length=ws.length
 left:∀ r:Nat,r<fs.length->s.1.getD r 0=fs.getD r 0 - hold ws.length (fW ws) (fX s.2.1) (r:Int)
 sub:s.2.2.Sublist (gs.take i)
 sum:rem rs s.2.1 ws.length+s.2.2.length=S0
 pv:∃ p,Ik ws.length (fF fs) (fW ws) (fX rs) (fX s.2.1) (fG gs) (fG s.2.2) t p/\p<=ws.length/\(∀ j (h:j<gs.length),i<=j->p<=gs[j])/\∀ j (h:j<gs.length),j<i->gs[j]<p
theorem Az.pass {fs:List Int}{ws:List (List Int)}{rs l xs:List Int}{gs:List Nat}{t:Int}(h:Az fs ws rs l xs gs t):YZ fs ws rs gs t (rem rs xs ws.length) 0 (l,xs,[]):=
 ⟨h.ll,h.xl,h.left,by simp,by simp,0,by
  have:=h.inv.pass;rw [show fG []=fun _=>false from by funext k;simp [fG]];exact this,aez _,fun _ _ _=>aez _,fun j _ hj=>absurd hj (afH _)⟩
theorem YZ.step {fs:List Int}{ws:List (List Int)}{rs:List Int}{gs:List Nat}{t S0:Int}{i:Nat}{s:List Int × List Int × List Nat}(h:YZ fs ws rs gs t S0 i s)(srt:gs.Pairwise (·<·))(hn:∀ k∈gs,k<ws.length)(hws:∀ w∈ws,WOk fs.length w)(hi:i<gs.length):
  YZ fs ws rs gs t S0 (i+1) (step1 ws rs s gs[i]):=by
 obtain ⟨l,xs,st⟩:=s;obtain ⟨p,P0,pn,hp1,hp2⟩:=h.pv;have hll:l.length=fs.length:=h.ll;have hxl:xs.length=ws.length:=h.xl;have hleft:∀ r:Nat,r<fs.length->l.getD r 0=fs.getD r 0 - hold ws.length (fW ws) (fX xs) (r:Int):=h.left;have hsum:rem rs xs ws.length+st.length=S0:=h.sum;have hsub:st.Sublist (gs.take i):=h.sub;have P0:Ik ws.length (fF fs) (fW ws) (fX rs) (fX xs) (fG gs) (fG st) t p:=P0;have hk:gs[i]<ws.length:=hn _ (aeQ hi);have inc:=ae7.mp srt;have P1:=P0.skip (q:=gs[i]) (hp1 i hi (ad2 _)) fun k h1 h2=>by
  cases hg:fG gs k with
  | false=>rfl
  | true =>
   exfalso;have hm:k∈gs:=by simpa [fG] using hg
   obtain ⟨j,hj,rfl⟩:=aew hm;by_cases hji:j<i
   ·have:=hp2 j hj hji;omega
   ·by_cases e:j=i
    ·subst e;omega
    ·have:=inc i j hi hj (by omega);omega
 have hG:fG gs gs[i]=true:=by simp [fG]
 have next1:∀ j (h:j<gs.length),i+1<=j->gs[i]+1<=gs[j]:=fun j hj hji=>inc i j hi hj (by omega);have next2:∀ j (h:j<gs.length),j<i+1->gs[j]<gs[i]+1:=fun j hj hji=>by
  by_cases e:j=i
  ·subst e;omega
  ·have:=inc j i hj hi (by omega);omega
 have wk:=hws _ (zR hk);have at_:∀ r∈fW ws gs[i],fF fs r - hold ws.length (fW ws) (fX xs) r=l.getD r.toNat 0:=fun r hr=>by
  obtain ⟨r0,r1⟩:=wk.2 r hr;obtain ⟨rn,rfl⟩:=aeo r0;rw [Cm,aeb,hleft rn (by omega)]
 by_cases hc:xs.getD gs[i] 0<rs.getD gs[i] 0/\(fW ws gs[i]).all (fun r=>decide (0<l.getD r.toNat 0))=true
 ·have e:step1 ws rs (l,xs,st) gs[i]=(bump l (fW ws gs[i]) (-1),xs.set gs[i] (xs.getD gs[i] 0+1),st++[gs[i]]):=if_pos hc;rw [e];have ex:fX (xs.set gs[i] (xs.getD gs[i] 0+1))=put (fX xs) gs[i] 1:=by
   funext k;show (xs.set gs[i] (xs.getD gs[i] 0+1)).getD k 0=if k=gs[i] then xs.getD k 0+1 else xs.getD k 0;rw [Ea (by rw [hxl];exact hk)];by_cases z:k=gs[i]
   ·rw [if_pos z,if_pos z,z]
   ·rw [if_neg z,if_neg z]
  have P2:=P1.gets hk hG (by unfold fX;exact hc.1) fun r hr=>by
   rw [at_ r hr];have:=aeT.mp hc.2 r hr;simpa using this
  refine ⟨by rw [kJ];exact hll,by rw [aeV];exact hxl,fun r hr=>?_,?_,?_,gs[i]+1,?_,by omega,next1,next2⟩
  ·show (bump l (fW ws gs[i]) (-1)).getD r 0=fs.getD r 0 - hold ws.length (fW ws) (fX (xs.set gs[i] (xs.getD gs[i] 0+1))) (r:Int);rw [wJ wk.1 (by rw [hll];exact wk.2) r,hleft r hr,ex,DP hk];split <;>omega
  ·show (st++[gs[i]]).Sublist (gs.take (i+1));rw [aeA,adW hi];exact hsub.append (afK _)
  ·show rem rs (xs.set gs[i] (xs.getD gs[i] 0+1)) ws.length+((st++[gs[i]]).length:Nat)=S0;have a:rem rs (xs.set gs[i] (xs.getD gs[i] 0+1)) ws.length=rem rs xs ws.length - 1:=by
    unfold rem;rw [ex,Dd,Dd];have:mq ws.length (put (fX xs) gs[i] 1)=mq ws.length (fX xs)+1:=by
     have b:∀ k,k<ws.length->put (fX xs) gs[i] 1 k=fX xs k+(if k=gs[i] then 1 else 0):=fun k _=>by
      unfold put;split <;>omega
     rw [cu b,vQ,vP _ hk]
    omega
   rw [a,ad7,afM];omega
  ·show Ik ws.length (fF fs) (fW ws) (fX rs) (fX (xs.set gs[i] (xs.getD gs[i] 0+1))) (fG gs) (fG (st++[gs[i]])) t (gs[i]+1);rw [ex,show fG (st++[gs[i]])=fun k=>if k=gs[i] then true else fG st k from by
    funext k;by_cases z:k=gs[i]
    ·simp [fG,z]
    ·simp [fG,z]]
   exact P2
 ·have e:step1 ws rs (l,xs,st) gs[i]=(l,xs,st):=if_neg hc;rw [e];refine ⟨hll,hxl,hleft,?_,hsum,gs[i]+1,P1.ends hk hG ?_,by omega,next1,next2⟩
  ·exact hsub.trans (by rw [aeA];exact afX _ _)
  ·by_cases z:xs.getD gs[i] 0<rs.getD gs[i] 0
   ·have hno:¬ (fW ws gs[i]).all (fun r=>decide (0<l.getD r.toNat 0))=true:=fun y=>hc ⟨z,y⟩;refine .inr ?_;refine aeX fun hx=>hno (aeT.mpr fun r hr=>?_);refine decide_eq_true ?_;refine aeX fun hle=>hx ⟨r,hr,?_⟩;rw [at_ r hr];omega
   ·exact .inl (by unfold fX;omega)
theorem YZ.finish {fs:List Int}{ws:List (List Int)}{rs:List Int}{gs:List Nat}{t S0:Int}{s:List Int × List Int × List Nat}(h:YZ fs ws rs gs t S0 gs.length s)(srt:gs.Pairwise (·<·)):Az fs ws rs s.1 s.2.1 s.2.2 (t+1):=by
 obtain ⟨p,P0,pn,hp1,hp2⟩:=h.pv;have P1:=P0.skip (q:=ws.length) pn fun k h1 h2=>by
  cases hg:fG gs k with
  | false=>rfl
  | true =>
   exfalso;have hm:k∈gs:=by simpa [fG] using hg
   obtain ⟨j,hj,rfl⟩:=aew hm;have:=hp2 j hj hj;omega
 have hsub:=h.sub;rw [ad8 (ad2 _)] at hsub;exact ⟨h.ll,h.xl,h.left,srt.sublist hsub,P1.finish⟩
theorem Lq {fs:List Int}{ws:List (List Int)}{rs l xs:List Int}{gs:List Nat}{t:Int}(h:Az fs ws rs l xs gs t)(hws:∀ w∈ws,WOk fs.length w):∀ i,i<=gs.length->YZ fs ws rs gs t (rem rs xs ws.length) i (jV ws rs (gs.take i) (l,xs,[])):=by
 intro i
 induction i with
 | zero=>intro _;exact h.pass
 | succ i ih =>
  intro hi;rw [aeA,adW (by omega:i<gs.length)];show YZ fs ws rs gs t _ (i+1) (jV ws rs (gs.take i++[gs[i]]) (l,xs,[]));rw [Bw];exact (ih (by omega)).step h.srt (fun k hk=>(h.going k hk).1) hws (by omega)
theorem Az.one {fs:List Int}{ws:List (List Int)}{rs l xs:List Int}{gs:List Nat}{t:Int}(h:Az fs ws rs l xs gs t)(hws:∀ w∈ws,WOk fs.length w):
  Az fs ws rs (jV ws rs gs (l,xs,[])).1 (jV ws rs gs (l,xs,[])).2.1 (jV ws rs gs (l,xs,[])).2.2 (t+1)/\rem rs (jV ws rs gs (l,xs,[])).2.1 ws.length+((jV ws rs gs (l,xs,[])).2.2.length:Nat)=rem rs xs ws.length:=by
 have q:=Lq h hws gs.length (ad2 _);rw [ad8 (ad2 _)] at q;exact ⟨q.finish h.srt,q.sum⟩
theorem Az.T9 {fs:List Int}{ws:List (List Int)}{rs l xs:List Int}{gs:List Nat}{t:Int}(h:Az fs ws rs l xs gs t):0<=rem rs xs ws.length:=Hh fun k hk=>by
 have:=h.inv.fit.le k hk;omega
theorem M8 {fs:List Int}{ws:List (List Int)}{rs l xs:List Int}{gs:List Nat}{t M:Int}(h:Az fs ws rs l xs gs t)(hM:0<=M):rem rs (bump xs (asI gs) M) ws.length<=rem rs xs ws.length:=by
 refine zG fun k hk=>?_;have ok:=O9 (iW h.srt) (n:=xs.length) fun k hk=>by rw [h.xl];exact (h.going k hk).1
 have:fX (bump xs (asI gs) M) k=fX xs k+(if (k:Int)∈asI gs then M else 0):=wJ ok.1 ok.2 k;rw [this];split <;>omega
theorem WOk.len {n:Nat}{w:List Int}(h:WOk n w):w.length<=n:=by
 have:=List.Nodup.length_le_of_subset (l₂:=asI (List.range n)) h.1 fun r hr=>by
  obtain ⟨r0,r1⟩:=h.2 r hr;obtain ⟨k,rfl⟩:=aeo r0;exact Dz.mpr (aeB.mpr (by omega))
 simpa [asI] using this
theorem Iz (r:Int):∀ ws:List (List Int),((ws.map fun w=>(w,(1:Int))).map fun p=>if r∈p.1 then p.2 else 0).sum<=(ws.length:Int)
 | []=>by simp
 | w::ws=>by
  have:=Iz r ws;simp only [aey,List.sum_cons,ael];split <;>omega
theorem cw_bound {n:Nat}{ws:List (List Int)}(hws:∀ w∈ws,WOk n w):∀ c∈bumps (List.replicate n 0) (ws.map fun w=>(w,(1:Int))),c<=(ws.length:Int):=fun c hc=>by
 obtain ⟨k,hk,rfl⟩:=aew hc;have e:(bumps (List.replicate n 0) (ws.map fun w=>(w,(1:Int))))[k]=(bumps (List.replicate n 0) (ws.map fun w=>(w,(1:Int)))).getD k 0:=by
  rw [ad0,adW hk];rfl
 rw [e,wI (fun p hp=>by
  obtain ⟨w,hw,rfl⟩:=aep.mp hp;rw [aeH];exact hws w hw) k,kI]
 have:=Iz (k:Int) ws;omega
theorem Hj {fs cs:List Int}{i:Nat}{f c:Int}(hf:fs[i]?=some f)(hc:cs[i]?=some c):shares (fs.take (i+1)) (cs.take (i+1))=shares (fs.take i) (cs.take i)++(if 0<c then [f / c] else []):=by
 have l1:=(acp.mp hf).1;have l2:=(acp.mp hc).1;unfold shares;rw [aeA,aeA,hf,hc,List.zip_append (by rw [aed,aed];omega),List.filter_append,ad3];congr 1;by_cases h:0<c
 ·simp [h]
 ·simp [h]
theorem jR {gs:List Nat}{i:Nat}{z:Int}(h:(asI gs)[i]?=some z):∃ k:Nat,gs[i]?=some k/\z=(k:Int):=by
 unfold asI at h;rw [ad5] at h;cases e:gs[i]? with
 | none=>rw [e] at h;cases h
 | some k=>rw [e] at h;exact ⟨k,rfl,(aek h).symm⟩
theorem Gu (gs:List Nat)(i:Nat):(asI gs).take i=asI (gs.take i):=by unfold asI;rw [List.map_take]
theorem kE (gs:List Nat):(asI gs).length=gs.length:=by unfold asI;rw [TX]
theorem Kl {rs xs:List Int}{gs:List Nat}{i k:Nat}(h:gs[i]?=some k):unmet rs xs (gs.take (i+1))=unmet rs xs (gs.take i)++[rs.getD k 0 - xs.getD k 0]:=by
 unfold unmet;rw [aeA,h,ad3];rfl
theorem iz {α β:Type}{f:α->β}{gs:List α}{i:Nat}{k:α}(h:gs[i]?=some k):(gs.take (i+1)).map f=(gs.take i).map f++[f k]:=by
 rw [aeA,h,ad3];rfl
theorem bZ {α:Type}{gs:List α}{i:Nat}{k:α}(h:gs[i]?=some k):gs.take (i+1)=gs.take i++[k]:=by
 rw [aeA,h];rfl
theorem Ko {ws:List (List Int)}{rs:List Int}{gs:List Nat}{i k:Nat}{s:List Int × List Int × List Nat}(h:gs[i]?=some k):jV ws rs (gs.take (i+1)) s=step1 ws rs (jV ws rs (gs.take i) s) k:=by
 rw [bZ h];exact Bw _ _ _ _ _
theorem LK (ws:List (List Int))(rs:List Int)(s:List Int × List Int × List Nat)(k:Nat):(step1 ws rs s k).1.length=s.1.length/\(step1 ws rs s k).2.1.length=s.2.1.length/\(step1 ws rs s k).2.2.length<=s.2.2.length+1:=by
 unfold step1;split
 ·exact ⟨kJ _ _ _,aeV,by simp⟩
 ·exact ⟨rfl,rfl,by omega⟩
theorem Fe (ws:List (List Int))(rs:List Int):∀ (gs:List Nat)(s:List Int × List Int × List Nat),(jV ws rs gs s).1.length=s.1.length/\(jV ws rs gs s).2.1.length=s.2.1.length/\(jV ws rs gs s).2.2.length<=s.2.2.length+gs.length
 | [],s=>⟨rfl,rfl,by simp [jV]⟩
 | k::gs,s=>by
  have a:=LK ws rs s k;have b:=Fe ws rs gs (step1 ws rs s k);have e:jV ws rs (k::gs) s=jV ws rs gs (step1 ws rs s k):=rfl;rw [e];refine ⟨by rw [b.1,a.1],by rw [b.2.1,a.2.1],?_⟩;have:=b.2.2;rw [ael];omega
structure Grp (day:Nat->Int)(q:List Nat)(gs:List (Int × List Nat)):Prop where
 flat:(gs.map (·.2)).flatten=q
 ord:(gs.map (·.1)).Pairwise (·<·)
 grp:∀ g∈gs,g.2≠[]/\∀ k∈g.2,day k=g.1
theorem Grp.start (day:Nat->Int):Grp day [] []:=⟨rfl,.nil,fun _ h=>nomatch h⟩
theorem Grp.mem {day:Nat->Int}{q:List Nat}{gs:List (Int × List Nat)}(h:Grp day q gs){g:Int × List Nat}(hg:g∈gs):∃ k∈q,day k=g.1:=by
 obtain ⟨h1,h2⟩:=h.grp g hg;cases e:g.2 with
 | nil=>exact absurd e h1
 | cons k r =>
  refine ⟨k,?_,h2 k (by rw [e];exact aeu)⟩;rw [<- h.flat];exact List.mem_flatten.mpr ⟨g.2,afg hg,by rw [e];exact aeu⟩
theorem Grp.new {day:Nat->Int}{q:List Nat}{gs:List (Int × List Nat)}{k:Nat}(h:Grp day q gs)(hn:∀ g∈gs,g.1≠day k)(hq:∀ j∈q,day j<=day k):Grp day (q++[k]) (gs++[(day k,[k])]):=by
 refine ⟨?_,?_,fun g hg=>?_⟩
 ·rw [ad3,List.flatten_append,h.flat];rfl
 ·rw [ad3,List.pairwise_append];refine ⟨h.ord,by simp,fun a ha b hb=>?_⟩;obtain ⟨g,hg,rfl⟩:=aep.mp ha;have hb:b=day k:=by simpa using hb
  subst hb;obtain ⟨j,hj,e⟩:=h.mem hg;have:=hq j hj;have:=hn g hg;omega
 ·rcases aem.mp hg with e| e
  ·exact h.grp g e
  ·have:g=(day k,[k]):=by simpa using e
   subst this;exact ⟨by simp,fun j hj=>by
    have:j=k:=by simpa using hj
    rw [this]⟩
theorem Grp.last {day:Nat->Int}{q:List Nat}{gs:List (Int × List Nat)}{k j:Nat}{g:Int × List Nat}(h:Grp day q gs)(hj:gs[j]?=some g)(hk:g.1=day k)(hq:∀ j∈q,day j<=day k):gs=gs.take j++[g]:=by
 obtain ⟨hl,e⟩:=acp.mp hj;have hlen:gs.length=j+1:=by
  refine Nat.le_antisymm (Nat.le_of_not_lt fun hlt=>?_) hl;have ord:=ae7.mp h.ord j (j+1) (by rw [TX];exact hl) (by rw [TX];exact hlt) (by omega);rw [List.getElem_map,List.getElem_map,e] at ord;obtain ⟨i,hi,ei⟩:=h.mem (aeQ (l:=gs) (n:=j+1) hlt);have:=hq i hi;omega
 have:gs.take (j+1)=gs.take j++[g]:=bZ hj;rw [<- this,ad8 (by omega)]
theorem Grp.more {day:Nat->Int}{q:List Nat}{gs:List (Int × List Nat)}{k j:Nat}{g:Int × List Nat}(h:Grp day q gs)(hj:gs[j]?=some g)(hk:g.1=day k)(hq:∀ j∈q,day j<=day k):Grp day (q++[k]) (gs.set j (g.1,g.2++[k])):=by
 have e:=h.last hj hk hq;have hl:=(acp.mp hj).1;have es:gs.set j (g.1,g.2++[k])=gs.take j++[(g.1,g.2++[k])]:=by
  conv=>lhs;rw [e]
  have:(gs.take j).length=j:=by rw [aed];omega
  rw [List.set_append,if_neg (by omega),this,afC];rfl
 have hf:=h.flat;have ho:=h.ord;rw [e] at hf ho;rw [ad3,List.flatten_append] at hf;rw [ad3] at ho;rw [es];refine ⟨?_,?_,fun g' hg'=>?_⟩
 ·rw [ad3,List.flatten_append,<- hf];simp
 ·rw [ad3];exact ho
 ·rcases aem.mp hg' with e' | e'
  ·exact h.grp g' (List.mem_of_mem_take e')
  ·have:g'=(g.1,g.2++[k]):=by simpa using e'
   subst this;refine ⟨by simp,fun i hi=>?_⟩;rcases aem.mp hi with z| z
   ·exact (h.grp g (ad1 hj)).2 i z
   ·have:i=k:=by simpa using z
    rw [this,hk]
structure Rk (day:Nat->Int)(n:Nat)(p:List Nat):Prop where
 perm:p.Perm (List.range n)
 ord:p.Pairwise fun i j=>day i<day j\/day i=day j/\i<j
theorem Rk.len {day:Nat->Int}{n:Nat}{p:List Nat}(h:Rk day n p):p.length=n:=by rw [h.perm.length_eq,aeU]
theorem Rk.lt {day:Nat->Int}{n:Nat}{p:List Nat}(h:Rk day n p){j:Nat}(hj:j∈p):j<n:=aeB.mp (h.perm.mem_iff.mp hj)
theorem Rk.before {day:Nat->Int}{n:Nat}{p:List Nat}(h:Rk day n p){i k:Nat}(hi:p[i]?=some k):∀ j∈p.take i,day j<=day k:=fun j hj=>by
 obtain ⟨hl,e⟩:=acp.mp hi;obtain ⟨m,hm,em⟩:=aew hj;rw [aed] at hm;rw [afL] at em;have:=ae7.mp h.ord m i (by omega) hl (by omega);rw [em,e] at this;omega
theorem zA {α:Type}:∀ {L:List (List α)}{g:List α},g∈L->g.Sublist L.flatten
 | [],_,h=>nomatch h
 | x::L,g,h=>by
  rw [afo];rcases aen.mp h with e| e
  ·rw [e];exact afX _ _
  ·exact (zA e).trans (afV _ _)
theorem Grp.up {day:Nat->Int}{n:Nat}{p:List Nat}{gs:List (Int × List Nat)}(h:Grp day p gs)(r:Rk day n p){g:Int × List Nat}(hg:g∈gs):g.2.Pairwise (·<·):=by
 have hs:g.2.Sublist p:=by rw [<- h.flat];exact zA (afg hg)
 have:=r.ord.sublist hs;refine List.Pairwise.imp_of_mem (fun {a b} ha hb hab=>?_) this;have ea:=(h.grp g hg).2 a ha;have eb:=(h.grp g hg).2 b hb;omega
def inG (gs:List (Int × List Nat))(j:Nat)(k:Nat):Prop:=∃ g∈gs.take j,k∈g.2
theorem R4 (gs:List (Int × List Nat))(k:Nat):¬ inG gs 0 k:=fun ⟨_,h,_⟩=>by simp at h
theorem R5 {gs:List (Int × List Nat)}{j:Nat}{g:Int × List Nat}(h:gs[j]?=some g)(k:Nat):inG gs (j+1) k↔inG gs j k\/k∈g.2:=by
 unfold inG;rw [bZ h];constructor
 ·rintro ⟨g',h1,h2⟩;rcases aem.mp h1 with e| e
  ·exact .inl ⟨g',e,h2⟩
  ·have:g'=g:=by simpa using e
   rw [this] at h2;exact .inr h2
 ·rintro (⟨g',h1,h2⟩ | h)
  ·exact ⟨g',aeL _ h1,h2⟩
  ·exact ⟨g,ad4 _ (by simp),h⟩
theorem Grp.all {day:Nat->Int}{n:Nat}{p:List Nat}{gs:List (Int × List Nat)}(h:Grp day p gs)(r:Rk day n p){k:Nat}(hk:k<n):inG gs gs.length k:=by
 have hm:k∈p:=r.perm.mem_iff.mpr (aeB.mpr hk);rw [<- h.flat] at hm;obtain ⟨l,hl,hkl⟩:=List.mem_flatten.mp hm;obtain ⟨g,hg,rfl⟩:=aep.mp hl;exact ⟨g,by rw [ae1];exact hg,hkl⟩
theorem Grp.later {day:Nat->Int}{p:List Nat}{gs:List (Int × List Nat)}(h:Grp day p gs){j:Nat}{g:Int × List Nat}(hj:gs[j]?=some g){k:Nat}(hk:inG gs j k):day k<g.1:=by
 obtain ⟨g',h1,h2⟩:=hk;obtain ⟨hl,e⟩:=acp.mp hj;obtain ⟨m,hm,em⟩:=aew h1;rw [aed] at hm;rw [afL] at em;have ord:=ae7.mp h.ord m j (by rw [TX];omega) (by rw [TX];exact hl) (by omega);rw [List.getElem_map,List.getElem_map,e,em] at ord;rw [(h.grp g' (List.mem_of_mem_take h1)).2 k h2];exact ord
theorem qG {n:Nat}{W W':Nat->List Int}{x x':Nat->Int}(hW:∀ k,k<n->W k=W' k)(hx:∀ k,k<n->x k=x' k)(r:Int):hold n W x r=hold n W' x' r:=
 cu fun k hk=>by rw [hW k hk,hx k hk]
theorem Fit.GD {n:Nat}{F F':Int->Int}{W W':Nat->List Int}{want want' x x':Nat->Int}(h:Fit n F W want x)(hW:∀ k,k<n->W k=W' k)(hw:∀ k,k<n->want k=want' k)(hx:∀ k,k<n->x k=x' k)(hF:∀ r,(∃ k,k<n/\r∈W k)->F r=F' r):Fit n F' W' want' x':=by
 refine ⟨fun k hk=>by rw [<- hx k hk];exact h.nn k hk,fun k hk=>by rw [<- hx k hk,<- hw k hk];exact h.le k hk,fun r hr=>?_⟩;obtain ⟨k,hk,hm⟩:=hr;have hr:∃ k,k<n/\r∈W k:=⟨k,hk,by rw [hW k hk];exact hm⟩;rw [<- qG hW hx r,<- hF r hr];exact h.fits r hr
theorem Ax.GD {n:Nat}{F F':Int->Int}{W W':Nat->List Int}{day want want' x x':Nat->Int}(h:Ax n F W day want x)(hW:∀ k,k<n->W k=W' k)(hw:∀ k,k<n->want k=want' k)(hx:∀ k,k<n->x k=x' k)(hF:∀ r,(∃ k,k<n/\r∈W k)->F r=F' r):Ax n F' W' day want' x':=by
 intro k hk hl;rw [<- hx k hk,<- hw k hk] at hl;obtain ⟨r,h1,h2,h3⟩:=h k hk hl;refine ⟨r,by rw [<- hW k hk];exact h1,by rw [<- qG hW hx r,<- hF r ⟨k,hk,h1⟩];exact h2,fun j hj hr hp=>?_⟩;rw [<- hx j hj,<- hx k hk];exact h3 j hj (by rw [hW j hj];exact hr) (by rw [hx j hj];exact hp)
theorem Lf.GD {n:Nat}{F:Int->Int}{W:Nat->List Int}{day want x x':Nat->Int}{Pz Pz':Nat->Prop}(D:Lf n F W day want x Pz)(hx:∀ k,x k=x' k)(hP:∀ k,Pz k↔Pz' k):Lf n F W day want x' Pz':=by
 have e:x=x':=funext hx;have e':Pz=Pz':=funext fun k=>propext (hP k);rw [<- e,<- e'];exact D
structure Le (n:Nat)(fs:List Int)(W:Nat->List Int)(day want:Nat->Int)(gs:List (Int × List Nat))(j:Nat)(xs fl:List Int):Prop where
 xl:xs.length=n
 fll:fl.length=fs.length
 left:∀ i:Nat,i<fs.length->fl.getD i 0=fs.getD i 0 - hold n W (fX xs) (i:Int)
 inv:Lf n (fF fs) W day want (fX xs) (inG gs j)
theorem Gn {fs:List Int}{a:Int}(h:a∈fs):∃ i,i<fs.length/\fs.getD i 0=a:=by
 obtain ⟨i,hi,e⟩:=aew h;exact ⟨i,hi,by rw [ad0,adW hi];exact e⟩
theorem wD {fs:List Int}{i:Nat}(h:i<fs.length):fs.getD i 0∈fs:=by
 rw [ad0,adW h];exact aeQ h
theorem adq {fs:List Int}(hf:∀ a∈fs,0<=a)(r:Int):0<=fF fs r:=by
 unfold fF;by_cases h:r.toNat<fs.length
 ·exact hf _ (wD h)
 ·rw [ad0,aex (by omega)];exact aeK _
theorem Le.start {n:Nat}{fs:List Int}{W:Nat->List Int}{day want:Nat->Int}(gs:List (Int × List Nat))(hw:∀ k,k<n->0<=want k)(hf:∀ a∈fs,0<=a):Le n fs W day want gs 0 (List.replicate n 0) fs:=by
 have e:∀ k,fX (List.replicate n 0) k=0:=fun k=>kI n k;refine ⟨by simp,rfl,fun i _=>?_,?_⟩
 ·have:hold n W (fX (List.replicate n 0)) (i:Int)=0:=by
   rw [qG (W':=W) (x':=fun _=>0) (fun _ _=>rfl) (fun k _=>e k),qF]
  omega
 ·exact (Lf.start (day:=day) hw fun r _=>adq hf r).GD (fun k=>(e k).symm) fun k=>⟨fun z=>z.elim,fun z=>absurd z (R4 gs k)⟩
theorem Gw {n:Nat}{W:Nat->List Int}{x:Nat->Int}{r:Int}(h:¬ ∃ k,k<n/\r∈W k):hold n W x r=0:=by
 unfold hold;rw [cu (g:=fun _=>0) fun k hk=>if_neg fun z=>h ⟨k,hk,z⟩,jO]
theorem Le.nn {n:Nat}{fs:List Int}{W:Nat->List Int}{day want:Nat->Int}{gs:List (Int × List Nat)}{j:Nat}{xs fl:List Int}(h:Le n fs W day want gs j xs fl)(hf:∀ a∈fs,0<=a):∀ a∈fl,0<=a:=fun a ha=>by
 obtain ⟨i,hi,rfl⟩:=Gn ha;rw [h.fll] at hi;rw [h.left i hi];by_cases hw:∃ k,k<n/\(i:Int)∈W k
 ·have:=h.inv.fit.fits (i:Int) hw;rw [Cm] at this;omega
 ·rw [Gw hw];have:=hf _ (wD hi);omega
theorem Le.step {n:Nat}{fs:List Int}{W:Nat->List Int}{day want:Nat->Int}{gs:List (Int × List Nat)}{j:Nat}{xs fl ys left cur:List Int}{q:List Nat}{t:Int}{g:Int × List Nat}(h:Le n fs W day want gs j xs fl)(G:Grp day q gs)(R:Rk day n q)(hj:gs[j]?=some g)
  (hW:∀ k,k<n->WOk fs.length (W k))(L:Az fl (g.2.map W) (g.2.map want) left ys [] t)(hcl:cur.length=n)(hc:∀ k,fX cur k=over (fX xs) g.2 (fX ys) k):Le n fs W day want gs (j+1) cur left:=by
 have hgm:=ad1 hj;have up:=G.up R hgm;have nd:=iW up;have hlt:∀ k∈g.2,k<n:=fun k hk=>R.lt (by rw [<- G.flat];exact List.mem_flatten.mpr ⟨g.2,afg hgm,hk⟩);have hn:∀ k∈g.2,¬ inG gs j k:=fun k hk z=>by
  have:=G.later hj z;have:=(G.grp g hgm).2 k hk;omega
 have hz:∀ k∈g.2,fX xs k=0:=fun k hk=>h.inv.zero k (hlt k hk) (hn k hk);have hlen:(g.2.map W).length=g.2.length:=TX _;have eW:∀ i,i<(g.2.map W).length->fW (g.2.map W) i=W (g.2.getD i 0):=fun i hi=>by
  rw [hlen] at hi;unfold fW;rw [ad0,ad5,adW hi,qH hi];rfl
 have ew:∀ i,i<(g.2.map W).length->fX (g.2.map want) i=want (g.2.getD i 0):=fun i hi=>by
  rw [hlen] at hi;unfold fX;rw [ad0,ad5,adW hi,qH hi];rfl
 have eF:∀ r,(∃ k,k<(g.2.map W).length/\r∈fW (g.2.map W) k)->fF fl r=fF fs r - hold n W (fX xs) r:=fun r hr=>by
  obtain ⟨i,hi,hm⟩:=hr;rw [eW i hi] at hm;have hk:g.2.getD i 0<n:=hlt _ (by rw [qH (by omega)];exact aeQ (by omega));obtain ⟨r0,r1⟩:=(hW _ hk).2 r hm;obtain ⟨rn,rfl⟩:=aeo r0;rw [Cm,Cm];exact h.left rn (by omega)
 obtain ⟨fy,sy⟩:=L.inv.finish fun k _=>by simp [fG]
 have fy:=fy.GD eW ew (x':=fX ys) (fun _ _=>rfl) eF;have sy:=sy.GD eW ew (x':=fX ys) (fun _ _=>rfl) eF;rw [hlen] at fy sy;have st:=h.inv.step up (d:=g.1) (fun k hk=>⟨hlt k hk,(G.grp g hgm).2 k hk,hn k hk⟩) (fun k hk=>G.later hj hk) fy sy;refine ⟨hcl,by rw [L.ll,h.fll],fun i hi=>?_,st.GD (fun k=>(hc k).symm) fun k=>(R5 hj k).symm⟩;rw [L.left i (by rw [h.fll];exact hi),h.left i hi,qG (W':=W) (x':=over (fX xs) g.2 (fX ys)) (fun _ _=>rfl) (fun k _=>hc k) (i:Int),Gv (i:Int) nd hlt hz,qG (x':=fX ys) eW (fun _ _=>rfl) (i:Int),hlen];omega
theorem Le.finish {n:Nat}{fs:List Int}{W:Nat->List Int}{day want:Nat->Int}{gs:List (Int × List Nat)}{xs fl:List Int}{q:List Nat}(h:Le n fs W day want gs gs.length xs fl)(G:Grp day q gs)(R:Rk day n q):Fit n (fF fs) W want (fX xs)/\Ax n (fF fs) W day want (fX xs):=
 h.inv.finish fun k hk=>G.all R hk
theorem Np {x y:Nat->Int}{g:List Nat}{i m:Nat}(nd:g.Nodup)(h:g[i]?=some m)(k:Nat):over x (g.take (i+1)) y k=if k=m then y i else over x (g.take i) y k:=by
 obtain ⟨hi,e⟩:=acp.mp h;have hm:¬ m∈g.take i:=fun z=>by
  obtain ⟨a,ha,ea⟩:=aew z;rw [aed] at ha;rw [afL] at ea;have:=(afb nd).mp (ea.trans e.symm);omega
 unfold over;rw [bZ h];by_cases hk:k=m
 ·subst hk;rw [if_pos rfl,if_pos (by simp),List.idxOf_append,if_neg hm,aed];simp;congr 1;omega
 ·rw [if_neg hk];by_cases hb:k∈g.take i
  ·rw [if_pos (by simp [hb]),if_pos hb,List.idxOf_append,if_pos hb]
  ·rw [if_neg (by simp [hb,hk]),if_neg hb]
end Tn
namespace Rv
theorem Dg {r:List Int}(h:iB r){p b:Int}(h0:0<=p)(h1:p<r.length):Tn.WOk r.length (dZ r p b):=⟨IK h h0 h1,fun q hq=>CT h p h0 h1 q (Fj hq)⟩
end Rv
namespace Tn
end Tn
namespace Rv
theorem PX {r s:List Int}{t:Int}(h0:0<=t)(h1:t<r.length):Tn.fF (nats r s) t=vN r s t:=by
 unfold Tn.fF nats;rw [ad0,ad5,afe (by omega)];show vN r s (t.toNat:Int)=_;rw [Int.toNat_of_nonneg h0]
end Rv
namespace Tn
end Tn
namespace Rv
end Rv
namespace Tn
end Tn
namespace Rv
end Rv
namespace Tn
end Tn
namespace Rv
end Rv
namespace L2
open PySem
theorem tO.m {j k:Nat}{A:Around}(r:tO k A)(h:j<=k:=by decide):tO j A:=r.mono h
end L2
namespace My
open PySem L2
local macro_rules | `(tactic| walk_at "new") => `(tactic| (generalize hE : upd _ _ _ = Hn; have On := Ow.mkE (by assumption) (by assumption) hE rfl; clear hE; revert On; revert Hn))
local macro_rules | `(tactic| walk_at "put") => `(tactic| (generalize hE : upd _ _ _ = Hn; (first | have On := Ow.uc (by assumption) 0 rfl hE rfl | have On := Ow.uc (by assumption) 1 rfl hE rfl | have On := Ow.uc (by assumption) 2 rfl hE rfl | have On := Ow.uc (by assumption) 3 rfl hE rfl | have On := Ow.uc (by assumption) 4 rfl hE rfl | have On := Ow.uc (by assumption) 5 rfl hE rfl); clear hE; (try simp only [List.set_cons_zero, afs] at On); revert On; revert Hn))
set_option hygiene false
local macro_rules | `(tactic| walk_at "get") => `(tactic| first | assumption | exact O.get 0 | exact O.get 1 | exact O.get 2 | exact O.get 3 | exact O.get 4 | exact O.get 5 | exact O.get 6 | exact O.get 7 | exact O.get 8 | exact O.get 9 | exact O.get 10 | exact O.get 11 | exact O.get 12 | fail)
local macro_rules | `(tactic| walk_at "sq") => `(tactic| first | assumption | exact O.sq 0 | exact O.sq 1 | exact O.sq 2 | exact O.sq 3 | exact O.sq 4 | exact O.sq 5 | exact O.sq 6 | exact O.sq 7 | exact O.sq 8 | exact O.sq 9 | exact O.sq 10 | exact O.sq 11 | exact O.sq 12 | exact SqL.mo (by assumption) O.same | exact SqL.mo (by assumption) (s0.trans O.same) | fail)
local macro_rules | `(tactic| walk_at "sqT") => `(tactic| first | assumption | exact O.sqT 0 | exact O.sqT 1 | exact O.sqT 2 | exact O.sqT 3 | exact O.sqT 4 | exact O.sqT 5 | exact O.sqT 6 | exact O.sqT 7 | exact SqT.mo (by assumption) O.same | exact SqT.mo (by assumption) (s0.trans O.same) | fail)
local macro_rules | `(tactic| walk_at "at") => `(tactic| first | rfl | exact bh (by assumption) | exact dN (by assumption) | exact gk (by omega) (by omega) | exact lastV _ _ | exact ints_last (by omega) | exact gk (ns := [_, _]) (by omega) (by simp only [ael, aeR]; omega) | exact gk (ns := [_, _, _]) (by omega) (by simp only [ael, aeR]; omega) | exact gk (ns := [_, _, _, _]) (by omega) (by simp only [ael, aeR]; omega) | exact gk (ns := [_, _, _, _, _]) (by omega) (by simp only [ael, aeR]; omega) | exact gk (ns := [_, _, _, _, _, _]) (by omega) (by simp only [ael, aeR]; omega) | exact gk (ns := [_, _, _, _, _, _, _]) (by omega) (by simp only [ael, aeR]; omega) | exact gk (ns := [_, _, _, _, _, _, _, _]) (by omega) (by simp only [ael, aeR]; omega) | fail)
local macro_rules | `(tactic| walk_at "c") => `(tactic| first | omega | (simp only [TX]; omega) | exact szl | (show (0 : Int) < _; decide) | (show (0 : Int) < _; omega) | exact ⟨by decide, by decide⟩ | exact .inl ⟨by decide, by decide⟩ | exact .inr ⟨by decide, by decide⟩ | exact ⟨by decide, by decide, by decide⟩ | exact .inl ⟨by omega, by omega⟩ | exact .inr ⟨by omega, by omega⟩ | exact ⟨by omega, by omega⟩ | (split <;> omega) | fail)
local macro_rules | `(tactic| walk_at "ty") => `(tactic| first | exact .int _ | exact .bl _ | exact .lst (by walk_at "get") | exact .tup (by walk_at "get") | exact .non | fail)
local macro_rules | `(tactic| walk_at "kit") => `(tactic| first | exact Uh K | exact Ui K | exact Ug K | exact kit_bb K | exact kit_bi K | exact kit_tt K | fail)
local macro_rules | `(tactic| walk_at "s") => `(tactic| first | refine aai ?_ | refine ⟨_, rfl, ?_⟩ | refine ⟨_, _, rfl, rfl, ?_⟩ | refine And.intro rfl ?_ | refine And.intro (by walk_at "c") ?_ | refine ⟨_, _, _, _, rfl, rfl, (show SqL _ _ _ _ by walk_at "sq"), (show atI _ _ = some _ by walk_at "at"), ?_⟩ | refine ⟨_, _, _, _, rfl, rfl, (show SqT _ _ _ _ by walk_at "sqT"), (show atI _ _ = some _ by walk_at "at"), ?_⟩ | refine ⟨_, _, rfl, .inl (show SqL _ _ _ _ by walk_at "sq"), ?_⟩ | refine ⟨_, _, rfl, .inr (show SqT _ _ _ _ by walk_at "sqT"), ?_⟩ | refine ⟨_, _, rfl, (show SqL _ _ _ _ by walk_at "sq"), ?_⟩ | refine And.intro ⟨_, (show SqL _ _ _ _ by walk_at "sq")⟩ ?_ | refine And.intro (.inl ⟨rfl, _, (show SqL _ _ _ _ by walk_at "sq")⟩) ?_ | refine ⟨_, _, _, _, rfl, (show J7 _ _ _ _ by walk_at "ty"), (show kitOne _ _ _ = some _ by walk_at "kit"), ?_⟩ | refine ⟨_, _, rfl, ?_⟩ | fail)
local macro_rules | `(tactic| walk_at "w") => `(tactic| repeat walk_at "s")
local macro_rules | `(tactic| walk_at "if") => `(tactic| first | refine Ce ?_ | refine yC ?_ | refine ifN ?_ | refine ifI (fun hc => ?_) (fun hc => ?_) | refine ifD (fun hc => ?_) (fun hc => ?_) | refine ifB (fun hc => ?_) (fun hc => ?_) | fail)
local macro_rules | `(tactic| walk_at "go") => `(tactic| repeat' (first | walk_at "if" | walk_at "s" | fail))
local macro_rules | `(tactic| walk_at "nw") => `(tactic| (generalize hE : upd _ _ _ = Hn; replace O := Ow.mkE O (by assumption) hE rfl; clear hE))
local macro_rules | `(tactic| walk_at "pt") => `(tactic| (generalize hE : upd _ _ _ = Hn; (first | replace O := Ow.uc O 0 rfl hE rfl | replace O := Ow.uc O 1 rfl hE rfl | replace O := Ow.uc O 2 rfl hE rfl | replace O := Ow.uc O 3 rfl hE rfl | replace O := Ow.uc O 4 rfl hE rfl | replace O := Ow.uc O 5 rfl hE rfl | replace O := Ow.uc O 6 rfl hE rfl | replace O := Ow.uc O 7 rfl hE rfl); clear hE; (try simp only [List.set_cons_zero, afs] at O)))
local macro_rules | `(tactic| walk_at "er") => `(tactic| simp only [List.eraseIdx_cons_zero, List.eraseIdx_cons_succ] at O)
local macro_rules | `(tactic| walk_at "jn") => `(tactic| simp only [List.cons_append, List.nil_append] at O)
local macro_rules | `(tactic| walk_at "i") => `(tactic| ((focus (intro vs H Q E h; cases h <;> (subst_vars; rfl))); intro cdv A outer s H vs Q E hr h))
local macro_rules | `($a >=> $b) => `(@acX _ _ _ _ _ $a $b rfl)
local macro_rules | `($a <|> $b) => `(@aD _ _ _ _ _ $a $b)
local macro_rules | `(~~~$a) => `(@aJ _ _ _ $a)
local macro_rules | `($c ||| $k) => `(G9 P w K mg base $c $k)
local macro_rules | `($d <* $g <* $a) => `(Dw $g hr.m rfl ($d).m ($d).F.kp ($d).b .nil wg $a)
local macro_rules | `($d *> $g *> $a) => `(Dw $g hr.m rfl ($d).m ($d).F.kp ($d).b .nil Gh $a)
local macro_rules | `($n >> $s) => `(bA (i:=$n) ($s).nd rfl (Or.inl rfl))
local macro_rules | `($n <$> $s <$> $e) => `(Jv (i:=$n) ($s).nd rfl (Or.inl rfl) $e)
variable {P:Program}{w:World}{K:PySem.W.Frag}{mg:Str->Option Value}{base:Heap}{T:dY}{C CR cD cF cH cN cP cY f2:Addr}{c:Ec}
def top (i:Nat):Stmt:=PySem.Challenge.pw_sluice_k66_whole_closing_keeps_days.main.body.getD i (.Pass ⟨0,0,0,0⟩)
theorem qt (n:Nat)(x:Int):(List.replicate n [V.int x]).flatten=(List.replicate n x).map V.int:=by rw [List.map_replicate];exact Hu _ _
variable {z:Int}{j:Nat}
theorem Av {w cur:List Int}{c:Int}(hz:w[j]?=some z):Tn.bump cur (w.take (j+1)) c=(Tn.bump cur (w.take j) c).set z.toNat ((Tn.bump cur (w.take j) c).getD z.toNat 0+c):=by
 rw [aeA,hz];exact Tn.Qv _ _ _ _
abbrev Dr:Stmt:=top 24
theorem FJ:aH ["below","reach","way"] ["below","reach"] (ao Dr):=by walk_at "sc"
inductive Tg (K:PySem.W.Frag)(vs:List V)(H:Hp)(Q:VK)(E:XK):Prop
 | mk (a:Addr)(r:List Int)(p:Int)(_:vs=[.ref a,.int p])(_:SqL K H a (r.map V.int))(_:Rv.iB r)(_:0<=p)(_:p<r.length)(_:r.length<=900)(_:aap H (fun xs=>xs=(Rv.walk r p).map V.int) Q)
theorem Qz (pre:List Int)(z:Int):atI ((pre++[z]).map V.int) (-1)=some (V.int z):=by
 rw [ad3];exact J4 _ _
variable {a1 a3 a5:TS}{D:Ends}{σ:St}{H:Hp}
theorem sl_1 {a2:TT}(h:let z4:TS:=a3;let z6:TS:=a5;let z7:TS:=bO (Fi a2 z4) z6;(bO a1 z7) D σ H):(bO a1 (bO (Fi a2 a3) a5)) D σ H:=h
variable {a4 a6 a8:TS}
theorem sl_2 {a2:TI}{a3:TG}{a5:TT}{a11:TS}(h:let z7:TS:=a6;let z9:TS:=wW a5 z7 a8;let z10:TS:=bO a4 z9;let z12:TS:=a11;let z13:TS:=bO (uw a2 a3 z10) z12;(bO a1 z13) D σ H):(bO a1 (bO (uw a2 a3 (bO a4 (wW a5 a6 a8))) a11)) D σ H:=h
variable {a2 a9:TS}
theorem sl_3 {a1:TT}{a5:TT}(h:let z3:TS:=a2;let z7:TS:=a6;let z10:TS:=a9;let z11:TS:=bO (wW a5 z7 a8) z10;(bO (wW a1 z3 a4) z11) D σ H):(bO (wW a1 a2 a4) (bO (wW a5 a6 a8) a9)) D σ H:=h
theorem sl_4 {a2:TT}(h:let z4:TS:=a3;let z7:TS:=a6;let z8:TS:=bO (wW a2 z4 a5) z7;(bO a1 z8) D σ H):(bO a1 (bO (wW a2 a3 a5) a6)) D σ H:=h
theorem sl_5 {a1:TT}(h:let z3:TS:=a2;let z6:TS:=a5;(bO (wW a1 z3 a4) z6) D σ H):(bO (wW a1 a2 a4) a5) D σ H:=h
theorem acI (h:let z3:TS:=a2;(bO a1 z3) D σ H):(bO a1 a2) D σ H:=h
variable {a7 a10:TS}
theorem sl_7 {a3:TI}{a4:TG}{a6:TT}{a9:TT}{a12:TS}{a17:TS}{a18:TI}{a19:TG}{a20:TS}{a22:TS}{a23:TI}{a24:TG}{a25:TT}{a26:TS}{a28:TS}{a30:TS}(h:let z8:TS:=a7;let z11:TS:=a10;let z13:TS:=a12;let z14:TS:=wW a9 z11 z13;let z15:TS:=wW a6 z8 z14;let z16:TS:=bO a5 z15;let z21:TS:=a20;let z27:TS:=a26;let z29:TS:=wW a25 z27 a28;let z31:TS:=a30;let z32:TS:=bO (uw a23 a24 z29) z31;let z33:TS:=bO a22 z32;let z34:TS:=bO (uw a18 a19 z21) z33;let z35:TS:=bO a17 z34;let z36:TS:=bO (uw a3 a4 z16) z35;let z37:TS:=bO a2 z36;(bO a1 z37) D σ H):(bO a1 (bO a2 (bO (uw a3 a4 (bO a5 (wW a6 a7 (wW a9 a10 a12)))) (bO a17 (bO (uw a18 a19 a20) (bO a22 (bO (uw a23 a24 (wW a25 a26 a28)) a30))))))) D σ H:=h
theorem sl_8 {a2:TI}{a3:TG}{a4:TT}(h:let z6:TS:=a5;let z8:TS:=wW a4 z6 a7;let z10:TS:=a9;let z11:TS:=bO (uw a2 a3 z8) z10;(bO a1 z11) D σ H):(bO a1 (bO (uw a2 a3 (wW a4 a5 a7)) a9)) D σ H:=h
theorem sl_9 {a2:TT}{a6:TT}(h:let z4:TS:=a3;let z8:TS:=a7;let z11:TS:=a10;let z12:TS:=bO (wW a6 z8 a9) z11;let z13:TS:=bO (wW a2 z4 a5) z12;(bO a1 z13) D σ H):(bO a1 (bO (wW a2 a3 a5) (bO (wW a6 a7 a9) a10))) D σ H:=h
theorem aaI {a2:TI}{a3:TG}{a4:TI}{a5:TG}(h:let z7:TS:=a6;let z8:TS:=uw a4 a5 z7;let z10:TS:=a9;let z11:TS:=bO (uw a2 a3 z8) z10;(bO a1 z11) D σ H):(bO a1 (bO (uw a2 a3 (uw a4 a5 a6)) a9)) D σ H:=h
theorem aaH (h:let z4:TS:=a3;let z5:TS:=bO a2 z4;(bO a1 z5) D σ H):(bO a1 (bO a2 a3)) D σ H:=h
theorem acQ {a1:TI}{a2:TG}(h:let z4:TS:=a3;(uw a1 a2 z4) D σ H):(uw a1 a2 a3) D σ H:=h
theorem acP {a3:TI}{a4:TG}(h:let z7:TS:=a6;let z8:TS:=bO a5 z7;let z9:TS:=uw a3 a4 z8;let z10:TS:=bO a2 z9;(bO a1 z10) D σ H):(bO a1 (bO a2 (uw a3 a4 (bO a5 a6)))) D σ H:=h
theorem acO {a2:TI}{a3:TG}{a4:TT}{a11:TS}{a13:TS}(h:let z8:TS:=a7;let z9:TS:=bO a6 z8;let z10:TS:=bO a5 z9;let z12:TS:=wW a4 z10 a11;let z14:TS:=a13;let z15:TS:=bO (uw a2 a3 z12) z14;(bO a1 z15) D σ H):(bO a1 (bO (uw a2 a3 (wW a4 (bO a5 (bO a6 a7)) a11)) a13)) D σ H:=h
theorem acN {a2:TI}{a3:TG}(h:let z5:TS:=a4;let z7:TS:=a6;let z8:TS:=bO (uw a2 a3 z5) z7;(bO a1 z8) D σ H):(bO a1 (bO (uw a2 a3 a4) a6)) D σ H:=h
theorem acM {a4:TI}{a5:TG}{a8:TI}{a9:TG}{a15:TS}(h:let z11:TS:=a10;let z12:TS:=uw a8 a9 z11;let z13:TS:=bO a7 z12;let z14:TS:=bO a6 z13;let z16:TS:=a15;let z17:TS:=bO (uw a4 a5 z14) z16;let z18:TS:=bO a3 z17;let z19:TS:=bO a2 z18;(bO a1 z19) D σ H):(bO a1 (bO a2 (bO a3 (bO (uw a4 a5 (bO a6 (bO a7 (uw a8 a9 a10)))) a15)))) D σ H:=h
theorem acL {a2:TI}{a3:TG}(h:let z6:TS:=a5;let z7:TS:=bO a4 z6;let z9:TS:=a8;let z10:TS:=bO (uw a2 a3 z7) z9;(bO a1 z10) D σ H):(bO a1 (bO (uw a2 a3 (bO a4 a5)) a8)) D σ H:=h
theorem acK {a3:TI}{a4:TG}{a15:TS}(h:let z10:TS:=a9;let z11:TS:=bO a8 z10;let z12:TS:=bO a7 z11;let z13:TS:=bO a6 z12;let z14:TS:=bO a5 z13;let z16:TS:=a15;let z17:TS:=bO (uw a3 a4 z14) z16;let z18:TS:=bO a2 z17;(bO a1 z18) D σ H):(bO a1 (bO a2 (bO (uw a3 a4 (bO a5 (bO a6 (bO a7 (bO a8 a9))))) a15))) D σ H:=h
theorem acJ {a3:TT}(h:let z6:TS:=a5;let z7:TS:=bO a4 z6;let z9:TS:=a8;let z10:TS:=bO (Fi a3 z7) z9;let z11:TS:=bO a2 z10;(bO a1 z11) D σ H):(bO a1 (bO a2 (bO (Fi a3 (bO a4 a5)) a8))) D σ H:=h
variable {Eh:Addr}{Ek:FuncData}(fB:Df K mg "way_of" Dr ["below","reach"] Eh Ek)
include fB in
theorem aaZ (C:Mth mg):(CX0|||1) Eh Ek ["below","reach"] (Tg K):=by
 obtain ⟨tM,hMOUTH⟩:=C.MOUTH;refine fB.F.ok FJ ?_ ?_;walk_at "i";obtain ⟨a,r,p,rfl,hS,hR,p0,p1,hn,q⟩:=h;refine ⟨_,(aD (2<$>FJ<$>(bU (aq (pv 1) ak)))
  (aD (Dt aeh (aP zc (aM aF (pv 0) (aM aF (pv 2) (vZ mj au) (fun _ _=>rfl)) (fun _ _=>rfl)) (eV (v:=.int (-1)) rfl hMOUTH ⟨_,rfl⟩) (aX _))
   (aJ (aU (jy aea aef aeg aY (pv 2) (aq (aM aF (pv 0) (aM aF (pv 2) (vZ mj au) (fun _ _=>rfl)) (fun _ _=>rfl)) ak)))))
  (aJ (aO (pv 2))))),?_⟩
 refine sl_1 ?_;intro zu0 zu1 zu2;refine ⟨_,rfl,(by show 1<=sizeLine;decide),fun lw hlw=>?_⟩;refine ⟨fun m σ H'=>∃ (pre:List Int)(z:Int),σ=[some (.ref a),some (.int p),some (.ref lw)]/\Same H H'/\H' lw=some (.lst ((pre++[z]).map V.int))/\0<=z/\z<r.length/\pre++Rv.walk r z=Rv.walk r p/\m=Rv.mea r z,
  ⟨_,[],p,rfl,(Same.refl H).upd hlw,aR,p0,p1,rfl,rfl⟩,?_⟩
 rintro m σ H2 ⟨pre,z,rfl,s2,h2,z0,z1,e,rfl⟩;have g:=Rv.jZ z0 z1;have hlen:pre.length+(Rv.walk r z).length<=r.length+1:=by
  have:=Rv.Im r p;rw [<- e,ad7] at this;exact this
 refine ⟨_,rfl,_,rfl,_,rfl,lw,_,_,_,rfl,rfl,SqL.of h2,Qz pre z,a,_,_,_,rfl,rfl,s2.seq hS,mK z0 g,rfl,_,rfl,?_⟩;rcases hR.step z0 z1 with hm| ⟨n0,n1⟩
 ·rw [hm];refine ZK rfl ?_;refine ⟨_,rfl,q lw H2 _ s2 hlw h2 ?_⟩;have ew:Rv.walk r z=[z]:=by rw [Rv.fH hR z0 z1,hm,Rv.nQ]
  rw [<- e,ew]
 ·have hd:(!decide (V.int (Rv.nxt r z)=V.int (-1)))=true:=by
   have:¬ Rv.nxt r z=-1:=by omega
   simp [this]
  rw [hd];refine Ce ?_;refine ⟨fun σ' H'=>∃ m',m'<Rv.mea r z/\∃ (pre:List Int)(z:Int),σ'=[some (.ref a),some (.int p),some (.ref lw)]/\Same H H'/\H' lw=some (.lst ((pre++[z]).map V.int))/\0<=z/\z<r.length/\pre++Rv.walk r z=Rv.walk r p/\m'=Rv.mea r z,fun _ _ x=>x,?_⟩;refine ⟨_,rfl,.inl ⟨rfl,_,SqL.of h2⟩,_,rfl,_,rfl,_,rfl,lw,_,_,_,rfl,rfl,SqL.of h2,Qz pre z,a,_,_,_,rfl,rfl,s2.seq hS,mK z0 g,lw,_,_,rfl,rfl,h2,aG ?_,?_⟩
  ·rw [TX,ad7];have:1<=(Rv.walk r z).length:=by rw [Rv.fH hR z0 z1];exact afc (aez _)
   show pre.length+1<=_;omega
  ·refine ⟨_,Rv.Ue hR z0 z1,pre++[z],Rv.nxt r z,rfl,s2.upd hlw,?_,n0,n1,?_,rfl⟩
   ·rw [aR,ad3 (l₁:=pre++[z])];rfl
   ·rw [afY];show pre++(z::Rv.walk r (Rv.nxt r z))=_;rw [<- Rv.fH hR z0 z1];exact e
abbrev jX:Stmt:=top 22
theorem iw:aH ["below","start","reach","step"] ["below","start"] (ao jX):=by walk_at "sc"
inductive Jm (K:PySem.W.Frag)(vs:List V)(H:Hp)(Q:VK)(E:XK):Prop
 | mk (a:Addr)(r:List Int)(i:Nat)(_:vs=[.ref a,.int (i:Int)])(_:SqL K H a (r.map V.int))(_:Rv.inB r)(_:i<r.length)(_:r.length<=900)(_:Q (.bl (decide (Rv.wX r r.length (i:Int)=-1))) H)
structure Cst (mg:Str->Option Value):Prop where
 MOUTH:∃ t,mg "MOUTH"=some (.int (-1) t)
 MOST_REACHES:∃ t,mg "MOST_REACHES"=some (.int 40 t)
variable {j4:Addr}{j5:FuncData}(cC:Df K mg "comes_to_mouth" jX ["below","start"] j4 j5)
include cC in
theorem Rt (B:Blt mg)(C:Cst mg):(CX0|||1) j4 j5 ["below","start"] (Jm K):=by
 obtain ⟨tM,hMOUTH⟩:=C.MOUTH
 refine cC.F.ok iw ?_ ?_
 walk_at "i"
 obtain ⟨a,r,i,rfl,hS,hB,hi,hn,q⟩:=h
 refine ⟨_,(aD (2<$>iw<$>(pv 1))
  (aD (cI aeh rfl (jm rfl B.range (aq (aC aA rfl B.len ad9 (aq (pv 0) ak)) ak)) (3>>iw)
   (aD (2<$>iw<$>(aM aF (pv 0) (pv 2) (fun _ _=>rfl)))
   (aJ (dw (aP qC (pv 2) (eV (v:=.int (-1)) rfl hMOUTH ⟨_,rfl⟩) (aX _))
    (aJ (aO uO))
    bf))))
  (aJ (aO uO)))),?_⟩
 refine sl_2 ?_
 intro zu0 zu1 zu2 zu3 zu4
 refine ⟨_,rfl,_,rfl,a,_,rfl,.inl hS,_,rfl,by rw [TX];omega,by rw [TX];omega,?_⟩
 rw [TX,aeb]
 refine lG (n:=r.length) (fun j σ H2=>∃ (v:Option V),σ=[some (.ref a),some (.int (i:Int)),some (.int (Rv.wX r j (i:Int))),v]/\H=H2/\(j=0\/Rv.wX r j (i:Int)≠-1)) ⟨none,rfl,rfl,.inl rfl⟩ ?_ ?_
 ·rintro j σ H2 hj ⟨v,rfl,rfl,hne⟩
  obtain ⟨b0,b1⟩:=Rv.JQ hB (p:=(i:Int)) (by omega) (by omega) j
  have hne':Rv.wX r j (i:Int)≠-1:=by
   rcases hne with e| e
   ·subst e
    show (i:Int)≠-1
    omega
   ·exact e
  have g:=Rv.jZ (r:=r) (p:=Rv.wX r j (i:Int)) (by omega) b1
  have es:Rv.nxt r (Rv.wX r j (i:Int))=Rv.wX r (j+1) (i:Int):=by
   rw [Rv.sU];unfold Rv.stp;rw [if_neg hne']
  rw [es] at g
  refine ⟨_,rfl,_,rfl,a,_,_,_,rfl,rfl,hS,mK (by omega) g,_,rfl,rfl,_,rfl,?_⟩
  refine ZL (fun h=>?_) (fun h=>?_)
  ·have e:Rv.wX r (j+1) (i:Int)=-1:=by
    have:=of_decide_eq_true h
    exact V.int.inj this
   have e2:Rv.wX r r.length (i:Int)=-1:=by
    have:=Rv.IW r (i:Int) e (r.length - (j+1))
    rw [show j+1+(r.length - (j+1))=r.length by omega] at this
    exact this
   rw [decide_eq_true e2] at q
   exact q
  ·refine ⟨_,rfl,rfl,.inr fun e=>h (decide_eq_true (by rw [e]))⟩
 ·rintro σ H2 ⟨v,rfl,rfl,hne⟩
  have e:¬ Rv.wX r r.length (i:Int)=-1:=by
   rcases hne with e| e
   ·omega
   ·exact e
  rw [decide_eq_false e] at q
  exact q
abbrev nH:Stmt:=top 23
theorem Hs:aH ["below"] ["below"] (ao nH):=by walk_at "sc"
inductive TQ (K:PySem.W.Frag)(vs:List V)(H:Hp)(Q:VK)(E:XK):Prop
 | mk (a:Addr)(r:List Int)(_:vs=[.ref a])(_:SqL K H a (r.map V.int))(_:r.length<=900)(_:∀ H',Same H H'->Q (.bl (Rv.isR r)) H')
variable {α:Type}
theorem J5 {p:α->Bool}{l:List α}:(l.map p).all id=l.all p:=by
 rw [List.all_map];rfl
theorem ZQ (r:List Int):(r.all fun x=>decide (-1<=x) && decide (x<(r.length:Int)))=decide (Rv.inB r):=by
 rw [aeZ];simp only [aeT,aev,decide_eq_true_eq];exact Iff.rfl
variable (pJ:(CX0|||1) j4 j5 ["below","start"] (Jm K))
variable {xP:Addr}{xX:FuncData}(jG:Df K mg "is_river" nH ["below"] xP xX)
include cC pJ jG in
theorem abf (B:Blt mg)(C:Cst mg):(CX0|||2) xP xX ["below"] (TQ K):=by
 obtain ⟨tM,hMOUTH⟩:=C.MOUTH
 obtain ⟨tR,DR⟩:=C.MOST_REACHES
 refine jG.F.ok Hs ?_ ?_
 walk_at "i"
 obtain ⟨a,r,rfl,hS,hn,q⟩:=h
 refine ⟨_,(aD (dw (lE (vY xu xu au (aC aA rfl B.len ad9 (aq (pv 0) ak)) (eV (v:=.int (40)) rfl DR ⟨_,rfl⟩)))
   (aJ (aO uO))
   bf)
  (aD (dw (lE (jA (aC (tG rfl) rfl B.all afj (aq (fP (ao nH) rfl ["below"] rfl ["reach","below"] [none,some 0] (by decide+kernel) (by decide+kernel) (by decide+kernel) rfl (bF (pv 0)) (fun _ _ _=>(bA (i:=0) (show (["reach","below"]:List Str).Nodup by decide+kernel) rfl (Or.inl rfl))) (fun _ _ _=>dJ) (fun _ _ _=>(Dv xu uP (eV (v:=.int (-1)) rfl hMOUTH ⟨_,rfl⟩) (pv 0) (aC (wH (K:=K) rfl) rfl B.len ad9 (aq (pv 1) ak))))) ak))))
   (aJ (aO uO))
   bf)
  (aJ (aO (aC (tG rfl) rfl B.all afj (aq (fP (ao nH) rfl ["below"] rfl ["start","below"] [none,some 0] (by decide+kernel) (by decide+kernel) (by decide+kernel) rfl (jm rfl B.range (aq (aC aA rfl B.len ad9 (aq (pv 0) ak)) ak)) (fun _ _ _=>(bA (i:=0) (show (["start","below"]:List Str).Nodup by decide+kernel) rfl (Or.inl rfl))) (fun _ _ _=>dJ) (fun _ _ _=>(cC<*pJ<*(aq (pv 1) (aq (pv 0) ak))))) ak)))))),?_⟩
 refine sl_3 ?_
 intro zu0 zu1 zu2 zu3
 refine ⟨_,rfl,a,_,rfl,.inl hS,_,_,rfl,rfl,_,rfl,?_⟩
 rw [TX]
 have no1:¬ (1<=r.length/\r.length<=40)->Q (.bl false) H:=fun h=>by
  have e:Rv.isR r=false:=by unfold Rv.isR;rw [decide_eq_false h];rfl
  have:=q H (Same.refl H)
  rw [e] at this
  exact this
 refine ZL (fun h1=>⟨_,_,rfl,rfl,_,rfl,?_⟩) (fun h1=>⟨_,rfl,?_⟩)
 case refine_2=>exact Ce (no1 fun z=>h1 (decide_eq_true (by omega)))
 have g1:=of_decide_eq_true h1
 by_cases h2:r.length<=40
 case neg =>
  rw [decide_eq_false (by omega)]
  exact Ce (no1 fun z=>h2 z.2)
 rw [decide_eq_true (by omega)]
 refine yC ?_
 refine ⟨_,rfl,a,rfl,⟨_,hS⟩,fun acc hacc=>?_⟩
 refine cJ (K:=K) (a:=a) (xs:=r.map V.int) (fun i τ H2=>∃ v,τ=[v,some (.ref a)]/\Same H H2/\H2 acc=some (.lst (((r.take i).map fun x=>decide (-1<=x) && decide (x<(r.length:Int))).map V.bl)))
  ⟨none,rfl,(Same.refl H).upd hacc,by rw [aR];rfl⟩ (fun i τ H2 _ ⟨_,_,s2,_⟩=>s2.seq hS) ?_ ?_
 ·rintro i y τ H2 hi ⟨v,rfl,s2,h2'⟩
  obtain ⟨z,hz,rfl⟩:=ints_get hi
  have hil:i<r.length:=(acp.mp hz).1
  have e:∀ b:Bool,b=(decide (-1<=z) && decide (z<(r.length:Int)))->((r.take i).map fun x=>decide (-1<=x) && decide (x<(r.length:Int))).map V.bl++[V.bl b]=((r.take (i+1)).map fun x=>decide (-1<=x) && decide (x<(r.length:Int))).map V.bl:=fun b hb=>by
   rw [aeA,hz,ad3,ad3,hb];rfl
  have hsz:(((r.take i).map fun x=>decide (-1<=x) && decide (x<(r.length:Int))).map V.bl).length<sizeLine:=aG (by rw [TX,TX,aed];omega)
  refine Hf ?_
  refine ⟨_,rfl,_,_,rfl,rfl,_,rfl,?_⟩
  refine ZL (fun h3=>?_) (fun h3=>?_)
  ·refine ⟨_,rfl,a,_,rfl,.inl (s2.seq hS),_,_,rfl,rfl,_,h2',hsz,_,rfl,s2.upd hacc,?_⟩
   rw [aR,e _ (by rw [h3,TX];rfl)]
  ·refine ⟨_,h2',hsz,_,rfl,s2.upd hacc,?_⟩
   have h3':decide (-1<=z)=false:=by simpa using h3
   rw [aR,e false (by rw [h3'];rfl)]
 ·rintro τ H2 ⟨v,rfl,s2,h2'⟩
  rw [TX,ae1] at h2'
  refine ⟨acc,_,rfl,SqL.of h2',_,rfl,?_⟩
  rw [J5,ZQ]
  by_cases hB:Rv.inB r
  case neg =>
   rw [decide_eq_false hB]
   refine Ce ?_
   have e:Rv.isR r=false:=by unfold Rv.isR;rw [decide_eq_false hB,Bool.and_false];rfl
   have:=q H2 s2
   rw [e] at this
   exact this
  rw [decide_eq_true hB]
  refine yC ?_
  refine ⟨_,rfl,a,_,rfl,.inl (s2.seq hS),_,rfl,by rw [TX];omega,by rw [TX];omega,fun ac2 hac2=>?_⟩
  rw [TX,aeb]
  have nac2:H ac2=none:=s2.free hac2
  refine yd (fun i τ H3=>∃ v,τ=[v,some (.ref a)]/\Same H H3/\H3 ac2=some (.lst (((List.range i).map fun (j:Nat)=>decide (Rv.wX r r.length (j:Int)=-1)).map V.bl))) ⟨none,rfl,s2.upd nac2,by rw [aR];rfl⟩ ?_ ?_
  ·rintro i τ H3 hi ⟨v,rfl,s3,h3⟩
   rw [show (0:Int)+(i:Int)=(i:Int) by omega]
   refine Hf ?_
   refine ⟨_,rfl,_,rfl,a,r,i,rfl,s3.seq hS,hB,hi,hn,?_⟩
   refine ⟨_,h3,aG (by rw [TX,TX,aeU];omega),_,rfl,s3.upd nac2,?_⟩
   rw [aR,afG,ad3,ad3];rfl
  ·rintro τ H3 ⟨v,rfl,s3,h3⟩
   refine ⟨ac2,_,rfl,SqL.of h3,?_⟩
   have e:(((List.range r.length).map fun (j:Nat)=>decide (Rv.wX r r.length (j:Int)=-1)).all id)=Rv.isR r:=by
    unfold Rv.isR
    rw [J5,decide_eq_true (show 1<=r.length/\r.length<=40 from ⟨by omega,h2⟩),decide_eq_true hB,Bool.true_and,Bool.true_and,aeZ]
    simp only [aeT,aeB,decide_eq_true_eq]
   rw [e]
   exact q H3 s3
abbrev w5:Stmt:=top 5
theorem Ho:aH ["amount"] ["amount"] (ao w5):=by walk_at "sc"
inductive Jc (vs:List V)(H:Hp)(Q:VK)(E:XK):Prop
 | mk (z:Int)(_:vs=[.int z])(_:∀ b:Bool,(b=true↔(0<=z/\z<=1000000000000))->Q (.bl b) H)
variable {xO:Addr}{xW:FuncData}(bN:Df K mg "is_water" w5 ["amount"] xO xW)
include bN in
theorem Ri (CW:∃ t,mg "MOST_WATER"=some (.int 1000000000000 t)):(CX0|||1) xO xW ["amount"] Jc:=by
 obtain ⟨tW,Ia⟩:=CW;refine bN.F.ok Ho ?_ ?_;walk_at "i";obtain ⟨z,rfl,q⟩:=h;refine ⟨_,(aJ (aO (Dv xu xu au (pv 0) (eV (v:=.int (1000000000000)) rfl Ia ⟨_,rfl⟩)))),?_⟩;walk_at "go"
 all_goals refine q _ ?_
 all_goals simp only [decide_eq_true_eq,afi,true_iff,false_iff]
 all_goals omega
abbrev p7:Stmt:=top 33
theorem je:aH ["below","one","day","start","back","most"] ["below","one"] (ao p7):=by walk_at "sc"
def yg (r:List Int)(l:Lic):Prop:=(0<=l.day/\l.day<=1000000/\0<=l.start/\l.start<r.length/\0<=l.most/\l.most<=1000000000000)/\(l.back=-1\/l.back∈(Rv.walk r l.start).drop 1)
inductive Ji (K:PySem.W.Frag)(T:dY)(vs:List V)(H:Hp)(Q:VK)(E:XK):Prop
 | mk (a t:Addr)(r:List Int)(l:Lic)(_:vs=[.ref a,.ref t])(_:SqL K H a (r.map V.int))(_:Rv.iB r)(_:r.length<=900)(_:SqT K H t (yV l))(_:TabsOk T H)(_:∀ (b:Bool)(H':Hp),aN T H H'->(b=true↔yg r l)->Q (.bl b) H')
variable (iZ:(CX0|||1) xO xW ["amount"] Jc)
variable (tQ:(CX0|||1) Eh Ek ["below","reach"] (Tg K))
variable {qP:Addr}{rJ:FuncData}(gO:Df K mg "is_licence" p7 ["below","one"] qP rJ)
include fB bN iZ tQ gO in
theorem Rp (B:Blt mg)(C:Mth mg)(CD:∃ t,mg "LAST_DAY"=some (.int 1000000 t)):(CX0|||2) qP rJ ["below","one"] (Ji K T):=by
 obtain ⟨tM,hMOUTH⟩:=C.MOUTH
 obtain ⟨tD,Pr⟩:=CD
 refine gO.F.ok je ?_ ?_
 walk_at "i"
 obtain ⟨a,t,r,l,rfl,hA,hR,hn,hT,tk,q⟩:=h
 have hml:((r.map V.int).length:Int)=(r.length:Int):=by rw [TX]
 have O:=Ow.refl tk
 have s0:=O.same
 have no:¬ (0<=l.day/\l.day<=1000000/\0<=l.start/\l.start<r.length/\0<=l.most/\l.most<=1000000000000)->Q (.bl false) H:=fun h=>q _ _ O.same ⟨(fun e=>by cases e),fun z=>absurd z.1 h⟩
 refine ⟨_,(aD (iH (pv 1) (fZ rfl (aB (2>>je) (aB (3>>je) (aB (4>>je) (aB (5>>je) bH))))))
  (aD (dw (lE (PW.pt (pw_and (vY xu xu au (pv 2) (eV (v:=.int (1000000)) rfl Pr ⟨_,rfl⟩)) (pw_and (vY xu uP au (pv 3) (aC aA rfl B.len ad9 (aq (pv 0) ak))) (pw_and1 (jA (bN<*iZ<*(aq (pv 5) ak))))))))
   (aJ (aO uO))
   bf)
  (aJ (aO (acW (qy qC (pv 4) (eV (v:=.int (-1)) rfl hMOUTH ⟨_,rfl⟩) (aX _)) (Nk (qy Gj (pv 4) (kj ux (fB<*tQ<*(aq (pv 0) (aq (pv 3) ak))) (lF au) uN) (by rfl)))))))),?_⟩
 refine sl_4 ?_
 intro zu0 zu1 zu2
 refine ⟨_,rfl,t,_,rfl,hT,rfl,_,_,rfl,_,_,rfl,_,_,rfl,_,_,rfl,rfl,?_⟩
 walk_at "go"
 all_goals first| (refine no ?_;omega) | skip
 intro b hb
 walk_at "go"
 ·have hm:=hb.mp (by assumption)
  have num:0<=l.day/\l.day<=1000000/\0<=l.start/\l.start<r.length/\0<=l.most/\l.most<=1000000000000:=by omega
  exact q _ _ O.same ⟨fun _=>⟨num,.inl (by omega)⟩,fun _=>rfl⟩
 ·have hm:=hb.mp (by assumption)
  have num:0<=l.day/\l.day<=1000000/\0<=l.start/\l.start<r.length/\0<=l.most/\l.most<=1000000000000:=by omega
  refine ⟨a,r,l.start,rfl,hA,hR,by omega,by omega,hn,O.got fun lw H2 xs O e=>?_⟩
  subst e
  refine ⟨1,rfl,lw,_,rfl,O.sq 0,fun l1 h1=>?_⟩
  walk_at "nw"
  rw [show Aq ((Rv.walk r l.start).map V.int) (some 1) none=((Rv.walk r l.start).drop 1).map V.int from J1 _ 1] at O
  refine ⟨l1,_,rfl,.inl (O.sq 0),rfl,wF _,?_⟩
  rw [if_neg aec,DN]
  refine q _ _ O.same ?_
  rw [decide_eq_true_iff]
  exact ⟨fun h=>⟨num,.inr h⟩,fun h=>h.2.resolve_left (by omega)⟩
 ·refine no fun z=>?_
  have:=hb.mpr ⟨z.2.2.2.2.1,z.2.2.2.2.2⟩
  simp_all
abbrev m8:Stmt:=top 73
theorem zL:aH ["script","k"] ["script","k"] (ao m8):=by walk_at "sc"
inductive Mw (K:PySem.W.Frag)(vs:List V)(H:Hp)(Q:VK)(E:XK):Prop
 | mk (a:Addr)(ns:List Int)(k:Nat)(_:vs=[.ref a,.int (k:Int)])(_:SqL K H a (ns.map V.int))(_:Q (.int (ns.getD k 0)) H)
variable {nj:Addr}{nC:FuncData}(bY:Df K mg "_law_cell_at" m8 ["script","k"] nj nC)
include bY in
theorem Zw (B:Blt mg):(CX0|||1) nj nC ["script","k"] (Mw K):=by
 refine bY.F.ok zL ?_ ?_
 walk_at "i"
 obtain ⟨a,ns,k,rfl,hS,q⟩:=h
 refine ⟨_,(aD (dw (aP uP (pv 1) (aC aA rfl B.len ad9 (aq (pv 0) ak)) (aX _))
   (aJ (aO (aM aF (pv 0) (pv 1) (fun _ _=>rfl))))
   bf)
  (aJ (aO au))),?_⟩
 refine sl_5 ?_
 intro zu0 zu1
 refine ⟨_,rfl,_,rfl,a,_,rfl,.inl hS,_,_,rfl,rfl,_,rfl,?_⟩
 refine ZL (fun h=>?_) (fun h=>?_)
 ·have hk:k<ns.length:=by
   have:=of_decide_eq_true h
   rw [TX] at this;omega
  have e:ns[k]?=some (ns.getD k 0):=by rw [ad0,adW hk];rfl
  exact ⟨_,rfl,_,rfl,a,_,_,_,rfl,rfl,hS,bh e,q⟩
 ·have hk:¬ k<ns.length:=fun z=>h (decide_eq_true (by rw [TX];omega))
  have e:ns.getD k 0=0:=by rw [ad0,aex (by omega)];rfl
  rw [e] at q
  exact q
abbrev ou:Stmt:=top 75
theorem tZ:aH ["cell","k","mark"] ["cell","k"] (ao ou):=by walk_at "sc"
def peb (c k:Int):Int:=((c % 8589934583+4409)*(2*k+3)+90001*k) ^ 3 % 68719476731 / 32
theorem aaS (c k:Int):0<=peb c k:=Int.ediv_nonneg (ae6 _ (by decide)) (by decide)
theorem KN (c k:Int)(h0:0<=k)(h1:k<=1000):((c % 8589934583+4409)*(2*k+3)+90001*k).natAbs<2 ^ 64:=by
 have a0:=ae6 c (show (8589934583:Int)≠0 by decide);have a1:=aeY c (show (0:Int)<8589934583 by decide);have hp:0<=(c % 8589934583+4409)*(2*k+3):=Int.mul_nonneg (by omega) (by omega);have hq:(c % 8589934583+4409)*(2*k+3)<=8589939000*2003:=Int.mul_le_mul (by omega) (by omega) (by omega) (by decide);omega
inductive Tp (vs:List V)(H:Hp)(Q:VK)(E:XK):Prop
 | mk (c k:Int)(_:vs=[.int c,.int k])(_:0<=k)(_:k<=1000)(_:Q (.int (peb c k)) H)
variable {oR:Addr}{o7:FuncData}(bV:Df K mg "_law_pebble" ou ["cell","k"] oR o7)
include bV in
theorem aa3:(CX0|||1) oR o7 ["cell","k"] Tp:=by
 refine bV.F.ok tZ ?_ ?_;walk_at "i";obtain ⟨c,k,rfl,h0,h1,q⟩:=h;refine ⟨_,(aD (2<$>tZ<$>(bB mH (bB Gi (bB mH (bB jq (pv 0) au) au) (bB mH (bB Gi au (pv 1)) au)) (bB Gi au (pv 1))))
  (aJ (aO (bB qz (bB jq (bB Jy (pv 2) au) au) au)))),?_⟩
 refine acI ?_;intro zu0;refine ⟨_,rfl,_,_,rfl,rfl,(by show (0:Int)<8589934583;decide),_,_,rfl,rfl,?_⟩;refine ⟨_,rfl,_,_,rfl,rfl,.inl ⟨by decide,by decide⟩,_,_,rfl,rfl,_,_,rfl,rfl,.inr ⟨by omega,by omega⟩,?_⟩;refine ⟨_,rfl,_,_,rfl,rfl,.inl ⟨by decide,by decide⟩,_,_,rfl,rfl,?_⟩;refine ⟨_,rfl,_,_,rfl,rfl,⟨by decide,by decide,KN c k h0 h1⟩,_,_,rfl,rfl,(by show (0:Int)<68719476731;decide),_,_,rfl,rfl,⟨by decide,by decide⟩,?_⟩;exact q
abbrev jK:Stmt:=top 76
theorem zK:aH ["cell","many"] ["cell","many"] (ao jK):=by walk_at "sc"
def QG (c:Int)(n:Nat):List Int:=(List.range n).map fun (i:Nat)=>peb c (i:Int)
theorem Nj (c:Int)(n:Nat):QG c (n+1)=QG c n++[peb c (n:Int)]:=by
 unfold QG;rw [afG,ad3];rfl
theorem zu (c:Int)(n:Nat):(QG c n).length=n:=by unfold QG;simp
inductive Mh (vs:List V)(H:Hp)(Q:VK)(E:XK):Prop
 | mk (c m:Int)(_:vs=[.int c,.int m])(_:-1000<=m)(_:m<=1000)(_:aap H (fun xs=>xs=(QG c m.toNat).map V.int) Q)
variable (kO:(CX0|||1) oR o7 ["cell","k"] Tp)
variable {ni:Addr}{nA:FuncData}(cU:Df K mg "_law_pebbles" jK ["cell","many"] ni nA)
include bV kO cU in
theorem Zo (B:Blt mg):(CX0|||2) ni nA ["cell","many"] Mh:=by
 refine cU.F.ok zK ?_ ?_;walk_at "i";obtain ⟨c,m,rfl,h0,h1,q⟩:=h;refine ⟨_,(aJ (aO (fP (ao jK) rfl ["cell","many"] rfl ["k","cell"] [none,some 0] (by decide+kernel) (by decide+kernel) (by decide+kernel) rfl (jm rfl B.range (aq (pv 1) ak)) (fun _ _ _=>(bA (i:=0) (show (["k","cell"]:List Str).Nodup by decide+kernel) rfl (Or.inl rfl))) (fun _ _ _=>dJ) (fun _ _ _=>(bV<*kO<*(aq (pv 1) (aq (pv 0) ak))))))),?_⟩;refine ⟨_,rfl,m,rfl,by omega,by omega,fun acc hacc=>?_⟩;refine yd (fun i τ H2=>∃ v,τ=[v,some (.int c)]/\Same H H2/\H2 acc=some (.lst ((QG c i).map V.int))) ⟨none,rfl,(Same.refl H).upd hacc,aR⟩ ?_ ?_
 ·rintro i τ H2 hi ⟨v,rfl,s2,h2⟩;refine Hf ?_;refine ⟨_,rfl,_,rfl,c,_,rfl,by omega,by omega,?_⟩;refine ⟨_,h2,aG (by rw [TX,zu];omega),_,rfl,s2.upd hacc,?_⟩;rw [aR,Nj,ad3,show (0:Int)+(i:Int)=(i:Int) by omega];rfl
 ·rintro τ H2 ⟨v,rfl,s2,h2⟩;exact q acc H2 _ s2 hacc h2 rfl
abbrev qg:Stmt:=top 77
theorem c7:aH ["xs","cell","order","onward","k","place","at","found"] ["xs","cell"] (ao qg):=by walk_at "sc"
inductive Jg (K:PySem.W.Frag)(vs:List V)(H:Hp)(Q:VK)(E:XK):Prop
 | mk (a:Addr)(ns:List Int)(c:Int)(_:vs=[.ref a,.int c])(_:SqL K H a (ns.map V.int))(_:ns.length<=900)(_:aap H (fun xs=>∃ r,xs=r.map V.int/\Rv.iB r/\r.length=ns.length+1) Q)
theorem S6 (o:List Nat)(i k:Nat):((o.map fun j:Nat=>V.int (j:Int)).take i++V.int (k:Int)::(o.map fun j:Nat=>V.int (j:Int)).drop i)=(o.take i++k::o.drop i).map fun j:Nat=>V.int (j:Int):=by
 rw [ad3,aey,List.map_take,List.map_drop]
variable {qW:Addr}{rP:FuncData}(gV:Df K mg "_law_river" qg ["xs","cell"] qW rP)
include bV kO gV in
theorem Ro (B:Blt mg):(CX0|||2) qW rP ["xs","cell"] (Jg K):=by
 refine gV.F.ok c7 ?_ ?_
 walk_at "i"
 obtain ⟨a,ns,c,rfl,hS,hn,q⟩:=h
 refine ⟨_,(aD (2<$>c7<$>(bU (aq au ak)))
  (aD (3<$>c7<$>(bU (aq (vZ mj au) ak)))
  (aD (cI aeh rfl (jm rfl B.range (aq (aC aA rfl B.len ad9 (aq (pv 0) ak)) ak)) (4>>c7)
   (aD (aU (jy aea PySem.F.slot_list_insert PySem.F.type_list_insert N5 (pv 2) (aq (bB jq (bV<*kO<*(aq (pv 1) (aq (pv 4) ak))) (bB mH (pv 4) au)) (aq (bB mH (pv 4) au) ak))))
   (aJ (dw (aP qC (bB jq (aM aF (pv 0) (pv 4) (fun _ _=>rfl)) au) au (aX _))
    (aJ (aU (jy aea aef aeg aY (pv 3) (aq (vZ mj au) ak))))
    (aJ (dw (aP qC (bB jq (bB qz (aM aF (pv 0) (pv 4) (fun _ _=>rfl)) au) au) au (aX _))
     (aJ (aU (jy aea aef aeg aY (pv 3) (aq (pv 4) ak))))
     (aJ (aU (jy aea aef aeg aY (pv 3) (aq (bB jq (bB qz (aM aF (pv 0) (pv 4) (fun _ _=>rfl)) au) (bB mH (pv 4) au)) ak))))))))))
  (aD (5<$>c7<$>(bB yw (bU (aq au ak)) (aC aA rfl B.len ad9 (aq (pv 2) ak))))
  (aD (cI aeh rfl (jm rfl B.range (aq (aC aA rfl B.len ad9 (aq (pv 2) ak)) ak)) (6>>c7)
   (aJ (iH (pv 6) (ud (pv 5) (aM aF (pv 2) (pv 6) (fun _ _=>rfl)) set_list))))
  (aD (7<$>c7<$>(bB yw (bU (aq (vZ mj au) ak)) (aC aA rfl B.len ad9 (aq (pv 2) ak))))
  (aD (cI aeh rfl (Nh rfl B.range (aq au (aq (aC aA rfl B.len ad9 (aq (pv 2) ak)) ak))) (4>>c7)
   (aJ (dw (aP zc (aM aF (pv 3) (pv 4) (fun _ _=>rfl)) (vZ mj au) (aX _))
    (aJ (iH (aM aF (pv 5) (aM aF (pv 3) (pv 4) (fun _ _=>rfl)) (fun _ _=>rfl)) (ud (pv 7) (aM aF (pv 5) (pv 4) (fun _ _=>rfl)) set_list)))
    bf)))
  (aJ (aO (pv 7)))))))))),?_⟩
 refine sl_7 ?_
 intro zu0 zu1 zu2 zu3 zu4 zu5 zu6 zu7 zu8 zu9 zu10 zu11 zu12 zu13 zu14 zu15
 refine ⟨by decide,fun lo hlo=>?_⟩
 refine ⟨_,rfl,by decide,fun lw hlw=>?_⟩
 have nlo:H lo=none:=hlo
 have nlw:H lw=none:=((Same.refl H).upd hlo).free hlw
 have now:lo≠lw:=aV (H:=upd H lo _) aR hlw
 have s1:Same H (upd (upd H lo (.lst [V.int 0])) lw (.lst [V.int (-1)])):=((Same.refl H).upd nlo).upd nlw
 refine ⟨_,rfl,a,_,rfl,.inl (s1.seq hS),_,rfl,by rw [TX];omega,by rw [TX];omega,?_⟩
 rw [TX,aeb]
 refine lG (n:=ns.length) (fun i σ H2=>∃ (o:List Nat)(wd:List Int)(v4:Option V),σ=[some (.ref a),some (.int c),some (.ref lo),some (.ref lw),v4,none,none,none]/\Same H H2 /\
  H2 lo=some (.lst (o.map fun j:Nat=>V.int (j:Int)))/\H2 lw=some (.lst (wd.map V.int))/\Rv.Ord (i+1) o/\Rv.Onw (i+1) wd)
  ⟨[0],[-1],none,rfl,s1,by rw [aL now,aR];rfl,by rw [aR];rfl,Rv.Ord.one,Rv.Onw.one⟩ ?_ ?_
 ·rintro i σ H2 hi ⟨o,wd,v4,rfl,s2,hO,hW,O,W⟩
  have zi:(0:Int)+(i:Int)=(i:Int):=by omega
  rw [zi]
  have xi:ns[i]?=some (ns.getD i 0):=by rw [ad0,adW hi];rfl
  refine ⟨_,rfl,.inl ⟨rfl,_,SqL.of hO⟩,_,rfl,_,rfl,c,_,rfl,by omega,by omega,_,rfl,_,_,rfl,rfl,_,_,rfl,rfl,by omega,_,rfl,_,_,rfl,rfl,?_⟩
  have m0:=ae6 (peb c (i:Int)) (show ((i:Int)+2)≠0 by omega)
  have m1:=aeY (peb c (i:Int)) (show (0:Int)<(i:Int)+2 by omega)
  have hol:=O.len
  refine ⟨lo,_,V.int ((i+1:Nat):Int),peb c (i:Int) % ((i:Int)+2),rfl,rfl,hO,m0,by rw [TX];omega,aG (by rw [TX];omega),?_⟩
  generalize (peb c (i:Int) % ((i:Int)+2)).toNat=j
  have O2:=O.ins j
  rw [S6]
  have s3:=s2.upd (o:=.lst ((o.take j++(i+1)::o.drop j).map fun j:Nat=>V.int (j:Int))) nlo
  have hW3:(upd H2 lo (.lst ((o.take j++(i+1)::o.drop j).map fun j:Nat=>V.int (j:Int)))) lw=some (.lst (wd.map V.int)):=by rw [aL now.symm];exact hW
  have fin:∀ y:Int,(y=-1\/(0<=y/\y<(i+1:Nat)))->∃ (o':List Nat)(wd':List Int)(v4':Option V),
    ([some (.ref a),some (.int c),some (.ref lo),some (.ref lw),some (V.int (i:Int)),none,none,none]:St)=[some (.ref a),some (.int c),some (.ref lo),some (.ref lw),v4',none,none,none] /\
    Same H (upd (upd H2 lo (.lst ((o.take j++(i+1)::o.drop j).map fun j:Nat=>V.int (j:Int)))) lw (.lst (wd.map V.int++[V.int y]))) /\
    (upd (upd H2 lo (.lst ((o.take j++(i+1)::o.drop j).map fun j:Nat=>V.int (j:Int)))) lw (.lst (wd.map V.int++[V.int y]))) lo=some (.lst (o'.map fun j:Nat=>V.int (j:Int))) /\
    (upd (upd H2 lo (.lst ((o.take j++(i+1)::o.drop j).map fun j:Nat=>V.int (j:Int)))) lw (.lst (wd.map V.int++[V.int y]))) lw=some (.lst (wd'.map V.int))/\Rv.Ord (i+1+1) o'/\Rv.Onw (i+1+1) wd' :=
   fun y hy=>⟨_,wd++[y],_,rfl,s3.upd nlw,by rw [aL now,aR],by rw [aR,ad3];rfl,O2,W.app hy⟩
  have hwl:=W.len
  have hz:(wd.map V.int).length<sizeLine:=aG (by rw [TX];omega)
  refine ⟨_,rfl,_,rfl,a,_,_,_,rfl,rfl,s3.seq hS,bh xi,_,_,rfl,rfl,(by show (0:Int)<7;decide),rfl,_,rfl,?_⟩
  refine ZL (fun _=>?_) (fun _=>?_)
  ·exact ⟨_,rfl,.inl ⟨rfl,_,SqL.of hW3⟩,_,rfl,lw,_,_,rfl,rfl,hW3,hz,fin (-1) (.inl rfl)⟩
  ·refine ⟨_,rfl,_,rfl,a,_,_,_,rfl,rfl,s3.seq hS,bh xi,_,_,rfl,rfl,⟨by decide,by decide⟩,_,_,rfl,rfl,(by show (0:Int)<2;decide),rfl,_,rfl,?_⟩
   refine ZL (fun _=>?_) (fun _=>?_)
   ·exact ⟨_,rfl,.inl ⟨rfl,_,SqL.of hW3⟩,_,rfl,lw,_,_,rfl,rfl,hW3,hz,fin (i:Int) (.inr ⟨by omega,by omega⟩)⟩
   ·refine ⟨_,rfl,.inl ⟨rfl,_,SqL.of hW3⟩,_,rfl,_,rfl,a,_,_,_,rfl,rfl,s3.seq hS,bh xi,_,_,rfl,rfl,⟨by decide,by decide⟩,_,rfl,_,_,rfl,rfl,_,_,rfl,rfl,by omega,lw,_,_,rfl,rfl,hW3,hz,fin _ (.inr ⟨?_,?_⟩)⟩
    ·exact ae6 _ (by omega)
    ·have:=aeY (ns.getD i 0 / 14) (show (0:Int)<(i:Int)+1 by omega)
     omega
 ·rintro σ H2 ⟨o,wd,v4,rfl,s2,hO,hW,O,W⟩
  have hol:=O.len
  have hwl:=W.len
  refine ⟨by decide,fun l0 hl0=>?_⟩
  have n0:H l0=none:=s2.free hl0
  have nO:lo≠l0:=aV hO hl0
  have nW:lw≠l0:=aV hW hl0
  have hO3:(upd H2 l0 (.lst [V.int 0])) lo=some (.lst (o.map fun j:Nat=>V.int (j:Int))):=by rw [aL nO];exact hO
  refine ⟨_,rfl,lo,_,rfl,.inl (SqL.of hO3),l0,_,_,rfl,rfl,aR,by omega,?_,?_,fun lp hlp=>?_⟩
  ·rw [TX,hol];omega
  ·rw [TX,hol];exact iI (by rw [aeb];simp;omega)
  have s3:Same H (upd H2 l0 (.lst [V.int 0])):=s2.upd n0
  have np:H lp=none:=s3.free hlp
  have nOp:lo≠lp:=aV hO3 hlp
  have hW3:(upd H2 l0 (.lst [V.int 0])) lw=some (.lst (wd.map V.int)):=by rw [aL nW];exact hW
  have nWp:lw≠lp:=aV hW3 hlp
  have e0:(List.replicate ((o.map fun j:Nat=>V.int (j:Int)).length:Int).toNat [V.int 0]).flatten=(List.replicate (ns.length+1) (0:Int)).map V.int:=by
   rw [TX,hol,aeb,List.map_replicate]
   exact Hu _ _
  generalize hH4:(upd (upd H2 l0 (.lst [V.int 0])) lp (.lst (List.replicate ((o.map fun j:Nat=>V.int (j:Int)).length:Int).toNat [V.int 0]).flatten))=H4
  have s4:Same H H4:=by rw [<- hH4];exact s3.upd np
  have hO4:H4 lo=some (.lst (o.map fun j:Nat=>V.int (j:Int))):=by rw [<- hH4,aL nOp];exact hO3
  have hW4:H4 lw=some (.lst (wd.map V.int)):=by rw [<- hH4,aL nWp];exact hW3
  have hP4:H4 lp=some (.lst ((List.replicate (ns.length+1) (0:Int)).map V.int)):=by rw [<- hH4,aR,e0]
  refine ⟨_,rfl,lo,_,rfl,.inl (SqL.of hO4),_,rfl,by rw [TX];omega,by rw [TX];omega,?_⟩
  rw [TX,hol,aeb]
  refine lG (n:=ns.length+1) (fun i σ H5=>∃ (pl:List Int)(v6:Option V),σ=[some (.ref a),some (.int c),some (.ref lo),some (.ref lw),v4,some (.ref lp),v6,none]/\Same H H5 /\
   H5 lo=some (.lst (o.map fun j:Nat=>V.int (j:Int)))/\H5 lw=some (.lst (wd.map V.int))/\H5 lp=some (.lst (pl.map V.int))/\Rv.Plc (ns.length+1) o i pl)
   ⟨_,none,rfl,s4,hO4,hW4,hP4,Rv.Plc.start _ _ _ (by simp)⟩ ?_ ?_
  ·rintro i σ H5 hi ⟨pl,v6,rfl,s5,hO5,hW5,hP5,PL⟩
   have zi:(0:Int)+(i:Int)=(i:Int):=by omega
   rw [zi]
   have hio:i<o.length:=by omega
   have hj:o[i]<ns.length+1:=O.lt (aeQ hio)
   have oj:o[i]?=some o[i]:=adW hio
   have pll:=PL.len
   refine ⟨_,rfl,_,rfl,_,rfl,_,rfl,lo,_,_,_,rfl,rfl,SqL.of hO5,dN (v:=V.int (o[i]:Int)) (by rw [ad5,oj];rfl),lp,_,_,_,rfl,rfl,hP5,jr (by rw [TX,pll];exact hj),?_⟩
   refine ⟨_,_,rfl,s5.upd np,by rw [aL nOp];exact hO5,by rw [aL nWp];exact hW5,by rw [aR,<- aeW],PL.turn O oj⟩
  ·rintro σ H5 ⟨pl,v6,rfl,s5,hO5,hW5,hP5,PL⟩
   have pll:=PL.len
   refine ⟨_,rfl,by decide,fun l1 hl1=>?_⟩
   have n1:H l1=none:=s5.free hl1
   have mO:lo≠l1:=aV hO5 hl1
   have mW:lw≠l1:=aV hW5 hl1
   have mP:lp≠l1:=aV hP5 hl1
   have hO6:(upd H5 l1 (.lst [V.int (-1)])) lo=some (.lst (o.map fun j:Nat=>V.int (j:Int))):=by rw [aL mO];exact hO5
   refine ⟨_,rfl,lo,_,rfl,.inl (SqL.of hO6),l1,_,_,rfl,rfl,aR,by omega,?_,?_,fun lf hlf=>?_⟩
   ·rw [TX,hol];omega
   ·rw [TX,hol];exact iI (by rw [aeb];simp;omega)
   have s6:Same H (upd H5 l1 (.lst [V.int (-1)])):=s5.upd n1
   have nf:H lf=none:=s6.free hlf
   have hW6:(upd H5 l1 (.lst [V.int (-1)])) lw=some (.lst (wd.map V.int)):=by rw [aL mW];exact hW5
   have hP6:(upd H5 l1 (.lst [V.int (-1)])) lp=some (.lst (pl.map V.int)):=by rw [aL mP];exact hP5
   have nOf:lo≠lf:=aV hO6 hlf
   have nWf:lw≠lf:=aV hW6 hlf
   have nPf:lp≠lf:=aV hP6 hlf
   have e1:(List.replicate ((o.map fun j:Nat=>V.int (j:Int)).length:Int).toNat [V.int (-1)]).flatten=(List.replicate (ns.length+1) (-1:Int)).map V.int:=by
    rw [TX,hol,aeb,List.map_replicate]
    exact Hu _ _
   generalize hH7:(upd (upd H5 l1 (.lst [V.int (-1)])) lf (.lst (List.replicate ((o.map fun j:Nat=>V.int (j:Int)).length:Int).toNat [V.int (-1)]).flatten))=H7
   have s7:Same H H7:=by rw [<- hH7];exact s6.upd nf
   have hO7:H7 lo=some (.lst (o.map fun j:Nat=>V.int (j:Int))):=by rw [<- hH7,aL nOf];exact hO6
   have hW7:H7 lw=some (.lst (wd.map V.int)):=by rw [<- hH7,aL nWf];exact hW6
   have hP7:H7 lp=some (.lst (pl.map V.int)):=by rw [<- hH7,aL nPf];exact hP6
   have hF7:H7 lf=some (.lst ((List.replicate (ns.length+1) (-1:Int)).map V.int)):=by rw [<- hH7,aR,e1]
   refine ⟨_,rfl,lo,_,rfl,.inl (SqL.of hO7),_,_,rfl,⟨by decide,by decide,by rw [TX];omega,by rw [TX];omega⟩,?_⟩
   rw [TX,hol,show (((ns.length+1:Nat):Int) - 1).toNat=ns.length by omega]
   refine lG (n:=ns.length) (fun i σ H8=>∃ (r:List Int)(v4':Option V),σ=[some (.ref a),some (.int c),some (.ref lo),some (.ref lw),v4',some (.ref lp),v6,some (.ref lf)]/\Same H H8 /\
    H8 lo=some (.lst (o.map fun j:Nat=>V.int (j:Int)))/\H8 lw=some (.lst (wd.map V.int))/\H8 lp=some (.lst (pl.map V.int))/\H8 lf=some (.lst (r.map V.int))/\Rv.Fnd (ns.length+1) o i r)
    ⟨_,v4,rfl,s7,hO7,hW7,hP7,hF7,Rv.Fnd.start _ _ _ (by simp) (fun x hx=>(List.mem_replicate.mp hx).2)⟩ ?_ ?_
   ·rintro i σ H8 hi ⟨r,v4',rfl,s8,hO8,hW8,hP8,hF8,FD⟩
    have zi:(1:Int)+(i:Int)=((i+1:Nat):Int):=by omega
    rw [zi]
    have hiw:i+1<wd.length:=by omega
    have wi:wd[i+1]?=some wd[i+1]:=adW hiw
    have fl:=FD.len
    refine ⟨_,rfl,_,rfl,lw,_,_,_,rfl,rfl,SqL.of hW8,bh wi,_,rfl,rfl,_,rfl,?_⟩
    by_cases hm:wd[i+1]=-1
    ·rw [hm]
     refine ZK rfl ?_
     exact ⟨r,_,rfl,s8,hO8,hW8,hP8,hF8,FD.same _⟩
    ·have hd:(!decide (V.int wd[i+1]=V.int (-1)))=true:=by simp [hm]
     rw [hd]
     refine Ce ?_
     obtain ⟨w0,w1⟩:=(W.lt _ _ wi).resolve_left hm
     obtain ⟨ka,hka,pa,oa⟩:=PL.all O (k:=i+1) (by omega)
     obtain ⟨kb,hkb,pb,ob⟩:=PL.all O (k:=wd[i+1].toNat) (by omega)
     refine ⟨_,rfl,_,rfl,_,rfl,lw,_,_,_,rfl,rfl,SqL.of hW8,bh wi,lp,_,_,_,rfl,rfl,SqL.of hP8,mK w0 pb,_,rfl,_,rfl,_,rfl,lp,_,_,_,rfl,rfl,SqL.of hP8,bh pa,lf,_,_,_,rfl,rfl,hF8,jr (by rw [TX,fl];exact hka),?_⟩
     refine ⟨_,_,rfl,s8.upd nf,by rw [aL nOf];exact hO8,by rw [aL nWf];exact hW8,by rw [aL nPf];exact hP8,by rw [aR,<- aeW],FD.turn hkb oa ob (by omega) _⟩
   ·rintro σ H8 ⟨r,v4',rfl,s8,hO8,hW8,hP8,hF8,FD⟩
    exact ⟨_,rfl,q lf H8 _ s8 nf hF8 ⟨r,rfl,FD.Gb O,FD.len⟩⟩
abbrev qe:Stmt:=top 74
theorem Dp:aH ["found"] ["found"] (ao qe):=by walk_at "sc"
inductive Jb (vs:List V)(H:Hp)(Q:VK)(E:XK):Prop
 | mk (z:Int)(_:vs=[.int z])(_:Q (.bl true) H)
theorem Uh (K:PySem.W.Frag):kitOne K (.type "int") (.type "int")=some true:=by rfl
theorem Ui (K:PySem.W.Frag):kitOne K (.type "int") (.type "bool")=some false:=by rfl
theorem Ug (K:PySem.W.Frag):kitOne K (.type "list") (.type "list")=some true:=by rfl
variable {qU:Addr}{rO:FuncData}(gU:Df K mg "_law_whole" qe ["found"] qU rO)
include gU in
theorem Rh (B:Blt mg):(CX0|||1) qU rO ["found"] Jb:=by
 refine gU.F.ok Dp ?_ ?_;walk_at "i";obtain ⟨z,rfl,q⟩:=h;refine ⟨_,(aJ (aO (Uc (aC vK rfl B.isinstance afN (aq (pv 0) (aq (Hx (v:=.ty "int") rfl B.int PyProof.Rows.boot_int rfl) ak))) (Nk (aaU (aC vK rfl B.isinstance afN (aq (pv 0) (aq (Hx (v:=.ty "bool") rfl B.bool PyProof.Rows.boot_bool rfl) ak)))))))),?_⟩;refine ⟨_,rfl,_,_,_,true,rfl,.int _,Uh K,_,rfl,Ce ?_⟩;exact ⟨_,rfl,_,_,_,false,rfl,.int _,Ui K,_,rfl,q⟩
abbrev jP:Stmt:=top 25
theorem Dk:aH ["below"] ["below"] (ao jP):=by walk_at "sc"
def aaK (K:PySem.W.Frag)(H:Hp)(a:Addr)(r:List Int):Prop:=SqL K H a (r.map V.int)/\Rv.iB r/\r.length<64
def gb:Pos × Str:=(⟨57,41,57,90⟩,"tops_first.<locals>.<lambda>")
def TT1 (P:Addr)(T:dY):Prop:=(P,gb.1,gb.2)∈T/\(T.map (·.1)).Nodup
inductive LR (K:PySem.W.Frag)(T:dY)(vs:List V)(H:Hp)(Q:VK)(E:XK):Prop
 | mk (a:Addr)(r:List Int)(_:vs=[.ref a])(_:aaK K H a r)(_:TabsOk T H)(_:tX T H (fun xs=>∃ p,xs=p.map (fun (i:Nat)=>V.int (i:Int))/\Rv.QL r p) Q)
variable {r:List Int}{i:Nat}
theorem ZF (hi:i<64)(hj:j<64):HT.lexLt [-((Rv.walk r (i:Int)).length:Int),(i:Int)] [-((Rv.walk r (j:Int)).length:Int),(j:Int)]=decide (Rv.kap r i<Rv.kap r j):=by
 unfold Rv.kap;rw [HT.lA,HT.lA,HT.oJ];rw [aeZ];split
 ·split
  ·simp only [afi,decide_eq_true_eq,false_iff];omega
  ·simp only [decide_eq_true_eq];omega
 ·simp only [decide_eq_true_eq];omega
variable {f:Addr}{fd:FuncData}
include fB tQ in
theorem Zm {pT cT:Addr}(D:Df K mg "tops_first" jP ["below"] f fd)(hcd:fd.code=.ref cT)(hhd:PySem.W.codeHdIn K cT pT=true)(hT:TT1 pT T)(hbm:BM mg base)(B:Blt mg):(CX0|||5) f fd ["below"] (LR K T):=by
 refine D.F.okC hcd Dk (fun vs H Q E h=>?_) (fun A outer s H vs Q E hr h=>?_)
 ·obtain ⟨a,r,rfl,_⟩:=h;rfl
 ·obtain ⟨a,r,rfl,⟨hS,hR,h64⟩,tk,q⟩:=h;refine ⟨_,(aJ (aO (yt (P:=pT) (c:=cT) (p:="reach") (ao jP) rfl ["below"] rfl ["below"] [some 0] (by decide+kernel) (by decide+kernel) (by decide+kernel) rfl hbm rfl hhd (JM hr.m) rfl B.sorted rfl B.range (aq (aC aA rfl B.len ad9 (aq (pv 0) ak)) ak) (fun A f cv s H hh hd hu=>(f9 (aq (vZ mj (aC (wH (K:=K) rfl) rfl B.len ad9 (aq (Dw tQ (JL hr.m hh hd hu) rfl fB.m fB.F.kp fB.b .nil wg (aq (pv 1) (aq (pv 0) ak))) ak))) (aq (pv 0) ak)))) (fun _ _ _ _=>rfl)))),?_⟩;have hl:(r.map V.int).length=r.length:=TX _;refine ⟨_,rfl,a,_,rfl,.inl hS,r.length,by rw [hl],h64,tk _ hT.1,fun H2 k1 k2 t2=>?_⟩;have sT:aN T H H2:=aN.tab tk hT.1 hT.2 k1 t2;refine ⟨fun i ts H3=>aN T H2 H3/\ts.length=i/\∀ (j:Nat)(t:Addr),ts[j]?=some t->H3 t=some (.tup ([-((Rv.walk r (j:Int)).length:Int),(j:Int)].map V.int)),fun i=>[-((Rv.walk r (i:Int)).length:Int),(i:Int)],Rv.kap r,1,⟨aN.refl sT.t1,rfl,fun j t e=>by simp at e⟩,?_,?_,fun _ _=>rfl,fun i j hi hj=>ZF (by omega) (by omega),?_,?_⟩
  ·rintro i ts H3 hi ⟨s3,htl,h3⟩;refine ⟨fun c' e=>s3.keep c' _ e fun ps z=>(by cases z),?_⟩;refine ⟨_,rfl,_,rfl,a,r,(i:Int),rfl,(sT.trans s3).seq hS,hR,by omega,by omega,by omega,fun l H4 xs s4 n4 h4 e4=>?_⟩;subst e4;refine ⟨l,_,rfl,.inl (SqL.of h4),_,rfl,_,rfl,(by show 2<=sizeLine;decide),fun t ht=>⟨t,rfl,?_⟩⟩;have sT4:aN T H2 H4:=s3.trans (aN.of s3.t1 s4);have nt:H2 t=none:=sT4.free ht;refine ⟨sT4.upd nt (.inl ht),by rw [ad7,htl];rfl,fun j t' e=>?_⟩;by_cases hj:j<ts.length
   ·rw [aeG hj] at e;have h4':=s4 _ _ (h3 j t' e);rw [aL (aV h4' ht)];exact h4'
   ·rw [aeM (by omega)] at e;have hj0:j - ts.length=0:=by
     have:=(acp.mp e).1;simp at this;omega
    have hji:j=i:=by omega
    rw [hj0] at e;simp at e;subst e;subst hji;rw [aR,TX];rfl
  ·rintro ts H3 ⟨_,_,h3⟩;exact h3
  ·intro i j hi hj hij e;unfold Rv.kap at e;omega
  ·rintro ts H3 D' ys ⟨s3,_,_⟩ hD ⟨p,hp,rfl,ho⟩;have hbl:(jB r.length).length=r.length:=by unfold jB;simp
   rw [hbl] at hp;refine q D' _ _ ((sT.trans s3).upd ((sT.trans s3).free hD) (.inl hD)) ((sT.trans s3).free hD) aR ⟨p,?_,hp,ho⟩;refine List.map_congr_left fun i hi=>?_;have hi':i<r.length:=aeB.mp (hp.mem_iff.mp hi);show (jB r.length).getD i .non=_;unfold jB;rw [ad0,ad5,afe hi'];rfl
abbrev pY:Stmt:=top 29
theorem nT:aH ["below","springs","flows","reach"] ["below","springs"] (ao pY):=by walk_at "sc"
inductive Tq (K:PySem.W.Frag)(T:dY)(vs:List V)(H:Hp)(Q:VK)(E:XK):Prop
 | mk (a b:Addr)(r s:List Int)(_:vs=[.ref a,.ref b])(_:aaK K H a r)(_:SqL K H b (s.map V.int))(_:s.length=r.length)(_:TabsOk T H)(_:tX T H (fun xs=>xs=(Rv.nats r s).map V.int) Q)
variable {yD:Addr}{yF:FuncData}(jU:Df K mg "tops_first" jP ["below"] yD yF)
variable (yG:(CX0|||5) yD yF ["below"] (LR K T))
variable {qM:Addr}{rG:FuncData}(cO:Df K mg "natural_of" pY ["below","springs"] qM rG)
include jU yG cO in
theorem aa4 (B:Blt mg)(C:Mth mg):(CX0|||6) qM rG ["below","springs"] (Tq K T):=by
 obtain ⟨tM,hMOUTH⟩:=C.MOUTH
 refine cO.F.ok nT ?_ ?_
 walk_at "i"
 obtain ⟨a,b,r,sp,rfl,⟨hS,hR,h64⟩,hB,hl,tk,q⟩:=h
 refine ⟨_,(aD (2<$>nT<$>(bR bx rfl B.list aes (aq (pv 1) ak)))
  (aD (cI aeh rfl (bF (jU<*yG<*(aq (pv 0) ak))) (3>>nT)
   (aJ (dw (aP zc (aM aF (pv 0) (pv 3) (fun _ _=>rfl)) (eV (v:=.int (-1)) rfl hMOUTH ⟨_,rfl⟩) (aX _))
    (aJ (uM (pv 2) (aM aF (pv 0) (pv 3) (fun _ _=>rfl)) oK (aM aF (pv 2) (pv 3) (fun _ _=>rfl)) JN set_list))
    bf)))
  (aJ (aO (pv 2))))),?_⟩
 refine sl_8 ?_
 intro zu0 zu1 zu2 zu3
 have O:=Ow.refl tk
 refine ⟨_,rfl,b,_,rfl,.inl hB,fun lf hlf=>?_⟩
 walk_at "new";intro H1 O
 refine ⟨_,rfl,a,r,rfl,⟨O.same.seq hS,hR,h64⟩,O.same.t1,O.Bt fun lt H2 xs O ⟨p,ep,hp⟩=>?_⟩
 subst ep
 refine ⟨lt,rfl,⟨_,O.sq 0⟩,?_⟩
 refine dB (K:=K) (a:=lt) (xs:=p.map fun (i:Nat)=>V.int (i:Int)) (fun t σ H3=>∃ (v3:Option V)(fl:List Int),σ=[some (.ref a),some (.ref b),some (.ref lf),v3]/\Ow T H H3 [(lt,.lst (p.map fun (i:Nat)=>V.int (i:Int))),(lf,.lst (fl.map V.int))]/\Rv.J8 r sp p t fl)
  ⟨none,sp,rfl,O,Rv.J8.start r sp p hl⟩ (fun _ _ _ _ ⟨_,_,_,O,_⟩=>O.sq 0) ?_ ?_
 ·rintro t y σ H3 hy ⟨v3,fl,rfl,O,N⟩
  rw [ad5] at hy
  obtain ⟨j,hj,rfl⟩:∃ j,p[t]?=some j/\y=V.int (j:Int):=by
   cases e:p[t]? with
   | none=>rw [e] at hy;cases hy
   | some j=>rw [e] at hy;exact ⟨j,rfl,(aek hy).symm⟩
  have hjr:=hp.lt (ad1 hj)
  have gj:=Rv.jZ (r:=r) (p:=(j:Int)) (by omega) (by omega)
  have aj:=mK (ns:=r) (i:=(j:Int)) (by omega) gj
  have here:=N.here hp hR h64 hj
  refine ⟨_,rfl,_,rfl,a,_,_,_,rfl,rfl,O.same.seq hS,aj,rfl,_,rfl,?_⟩
  rcases hR.step (p:=(j:Int)) (by omega) (by omega) with hm| ⟨n0,n1⟩
  ·rw [hm]
   refine ZK rfl ?_
   exact ⟨_,fl,rfl,O,N.ac9 hj hm⟩
  ·have hd:(!decide (V.int (Rv.nxt r (j:Int))=V.int (-1)))=true:=by
    have:¬ Rv.nxt r (j:Int)=-1:=by omega
    simp [this]
   rw [hd]
   refine Ce ?_
   obtain ⟨bn,ebn⟩:=aeo n0
   have hbl:bn<r.length:=by omega
   rw [ebn] at aj
   obtain ⟨x,hx⟩:∃ x,fl[bn]?=some x:=⟨_,N.at_ bn hbl⟩
   refine ⟨_,rfl,_,rfl,_,rfl,a,_,_,_,rfl,rfl,O.same.seq hS,aj,lf,_,bn,V.int x,rfl,rfl,O.sq 1,by rw [ad5,hx];rfl,_,rfl,_,rfl,lf,_,_,_,rfl,rfl,O.sq 1,bh here,_,_,rfl,rfl,?_⟩
   refine wu O 1 rfl (jr (by rw [TX,N.len];exact hbl)) fun H4 O=>?_
   refine ⟨_,fl.set bn (x+Rv.vN r sp (j:Int)),rfl,?_,N.turn hp hR h64 hj ebn hbl hx⟩
   rw [aeW];exact O
 ·rintro σ H3 ⟨v3,fl,rfl,O,N⟩
  rw [TX,hp.len] at N
  exact ⟨_,rfl,O.ret 1 rfl q (by rw [N.done hp hR])⟩
abbrev pR:Stmt:=top 27
theorem vR:aH ["below","start","stop","way"] ["below","start","stop"] (ao pR):=by walk_at "sc"
theorem Iw (b:Int):∀ l:List Int,l.take (l.idxOf b)=l.takeWhile (fun x=>!decide (x=b))
 | []=>rfl
 | x::l=>by
  rw [List.idxOf_cons,List.takeWhile_cons];by_cases h:x=b
  ·simp [h]
  ·have e:(x ==b)=false:=by simp [h]
   rw [e,cond_false,List.take_succ_cons,Iw b l];simp [h]
theorem SN (ns:List Int)(k:Nat):Aq (ns.map V.int) none (some (k:Int))=(ns.take k).map V.int:=by
 unfold Aq;rw [HT.Jq,HT.uL,List.drop_zero,TX,Nat.sub_zero,<- List.map_take];congr 1;rw [List.take_eq_take_iff];omega
inductive Jf (K:PySem.W.Frag)(vs:List V)(H:Hp)(Q:VK)(E:XK):Prop
 | mk (a:Addr)(r:List Int)(p b:Int)(_:vs=[.ref a,.int p,.int b])(_:SqL K H a (r.map V.int))(_:Rv.iB r)(_:0<=p)(_:p<r.length)(_:r.length<=900)(_:Rv.Stop r p b)(_:aap H (fun xs=>xs=(Rv.dZ r p b).map V.int) Q)
variable {qI:Addr}{rC:FuncData}(cM:Df K mg "stretch_of" pR ["below","start","stop"] qI rC)
include fB tQ cM in
theorem Rn (C:Mth mg):(CX0|||2) qI rC ["below","start","stop"] (Jf K):=by
 obtain ⟨tM,hMOUTH⟩:=C.MOUTH
 refine cM.F.ok vR ?_ ?_
 walk_at "i"
 obtain ⟨a,r,p,b,rfl,hS,hR,p0,p1,hn,st,q⟩:=h
 refine ⟨_,(aD (3<$>vR<$>(fB<*tQ<*(aq (pv 0) (aq (pv 1) ak))))
  (aD (dw (aP qC (pv 2) (eV (v:=.int (-1)) rfl hMOUTH ⟨_,rfl⟩) (aX _))
   (aJ (aO (pv 3)))
   bf)
  (aD (dw (aP yx (pv 2) (pv 3) (by rfl))
   (aJ Rb)
   bf)
  (aJ (aO (kj ux (pv 3) uN (lF (jy aea PySem.F.slot_list_index PySem.F.type_list_index RL (pv 3) (aq (pv 2) ak))))))))),?_⟩
 refine sl_9 ?_
 intro zu0 zu1 zu2 zu3 zu4
 refine ⟨_,rfl,_,rfl,a,r,p,rfl,hS,hR,p0,p1,hn,fun lw H1 xs s1 n1 h1 e1=>?_⟩
 subst e1
 refine ⟨_,rfl,rfl,_,rfl,ZL (fun h=>?_) fun h=>?_⟩
 ·have hb:b=-1:=V.int.inj (of_decide_eq_true h)
  refine ⟨_,rfl,q lw H1 _ s1 n1 h1 ?_⟩
  unfold Rv.dZ;rw [if_pos hb]
 ·have hb:¬ b=-1:=fun z=>h (decide_eq_true (by rw [z]))
  have hm:b∈Rv.walk r p:=st.resolve_left hb
  refine ⟨_,rfl,_,rfl,lw,_,rfl,.inl (SqL.of h1),rfl,wF _,_,rfl,?_⟩
  rw [if_pos rfl,DN,decide_eq_true hm]
  refine yC ?_
  refine ⟨_,rfl,_,rfl,.inl ⟨rfl,_,SqL.of h1⟩,_,rfl,lw,_,b,rfl,rfl,SqL.of h1,hm,_,rfl,lw,_,rfl,SqL.of h1,fun l hl=>?_⟩
  refine q l _ _ (s1.upd (s1.free hl)) (s1.free hl) aR ?_
  rw [SN,Iw]
  unfold Rv.dZ;rw [if_neg hb]
abbrev pU:Stmt:=top 34
theorem jd:aH ["below","one","day","start","back","most"] ["below","one"] (ao pU):=by walk_at "sc"
def ace (r:List Int)(l:Lic):Prop:=0<=l.start/\l.start<r.length/\Rv.Stop r l.start l.back
inductive BK (K:PySem.W.Frag)(vs:List V)(H:Hp)(Q:VK)(E:XK):Prop
 | mk (a t:Addr)(r:List Int)(l:Lic)(_:vs=[.ref a,.ref t])(_:SqL K H a (r.map V.int))(_:Rv.iB r)(_:r.length<=900)(_:SqT K H t (yV l))(_:ace r l)(_:aap H (fun xs=>xs=(Rv.dZ r l.start l.back).map V.int) Q)
variable (mR:(CX0|||2) qI rC ["below","start","stop"] (Jf K))
variable {qJ:Addr}{rD:FuncData}(gJ:Df K mg "reaches_of" pU ["below","one"] qJ rD)
include cM mR gJ in
theorem KJ:
  (CX0|||3) qJ rD ["below","one"] (BK K):=by
 refine gJ.F.ok jd ?_ ?_;walk_at "i";obtain ⟨a,t,r,l,rfl,hA,hR,hn,hT,ok,q⟩:=h;refine ⟨_,(aD (iH (pv 1) (fZ rfl (aB (2>>jd) (aB (3>>jd) (aB (4>>jd) (aB (5>>jd) bH))))))
  (aJ (aO (cM<*mR<*(aq (pv 0) (aq (pv 3) (aq (pv 4) ak))))))),?_⟩
 refine acI ?_;intro zu0;refine ⟨_,rfl,t,_,rfl,hT,rfl,_,_,rfl,_,_,rfl,_,_,rfl,_,_,rfl,rfl,?_⟩;exact ⟨_,rfl,_,rfl,_,rfl,a,r,l.start,l.back,rfl,hA,hR,ok.1,ok.2.1,hn,ok.2.2,q⟩
abbrev zM:Stmt:=top 38
theorem Kv:aH ["one"] ["one"] (ao zM):=by walk_at "sc"
inductive Mi (K:PySem.W.Frag)(vs:List V)(H:Hp)(Q:VK)(E:XK):Prop
 | mk (a:Addr)(l:Lic)(_:vs=[.ref a])(_:SqT K H a (yV l))(_:Q (.int l.most) H)
variable {Ac:Addr}{Aj:FuncData}(dX:Df K mg "most_of" zM ["one"] Ac Aj)
include dX in
theorem Zq:(CX0|||1) Ac Aj ["one"] (Mi K):=by
 refine dX.F.ok Kv ?_ ?_;walk_at "i";obtain ⟨a,l,rfl,hT,q⟩:=h;refine ⟨_,(~~~(@aO _ _ _ _ (@aM _ _ _ _ _ _ _ fL (pv 0) au (fun _ _=>rfl)))),?_⟩;exact ⟨_,rfl,_,_,_,_,rfl,rfl,hT,rfl,q⟩
abbrev sW:Stmt:=top 42
theorem Hl:aH ["roll","calls"] ["roll","calls"] (ao sW):=by walk_at "sc"
def jz (ls:List Lic)(cs:List Int):List Int:=List.zipWith (fun l c=>min c l.most) ls cs
theorem abE (i j:Int):(if j<i then j else i)=min i j:=by
 by_cases h:j<i
 ·rw [if_pos h];omega
 ·rw [if_neg h];omega
variable {β:Type}
theorem QS {γ:Type}(f:α->β->γ){as:List α}{bs:List β}{a:α}{b:β}(ha:as[i]?=some a)(hb:bs[i]?=some b):List.zipWith f (as.take (i+1)) (bs.take (i+1))=List.zipWith f (as.take i) (bs.take i)++[f a b]:=by
 have h1:=(acp.mp ha);have h2:=(acp.mp hb);obtain ⟨l1,e1⟩:=h1;obtain ⟨l2,e2⟩:=h2;rw [List.take_succ,List.take_succ,ha,hb,List.zipWith_append (by rw [aed,aed];omega)];rfl
inductive Jd (K:PySem.W.Frag)(T:dY)(vs:List V)(H:Hp)(Q:VK)(E:XK):Prop
 | mk (v:V)(b:Addr)(ls:List Lic)(cs:List Int)(_:vs=[v,.ref b])(_:Den K H v (SM ls))(_:SqL K H b (cs.map V.int))(_:ls.length=cs.length)(_:ls.length<=1000)(_:TabsOk T H)(_:tX T H (fun xs=>xs=(jz ls cs).map V.int) Q)
variable (nP:(CX0|||1) Ac Aj ["one"] (Mi K))
variable {xK:Addr}{xU:FuncData}(jE:Df K mg "wants_of" sW ["roll","calls"] xK xU)
include dX nP jE in
theorem Rj (B:Blt mg):
  (CX0|||2) xK xU ["roll","calls"] (Jd K T):=by
 refine jE.F.ok Hl ?_ ?_;walk_at "i";obtain ⟨v,b,ls,cs,rfl,hd,hb,hlc,hlen,tk,q⟩:=h;obtain ⟨a,xs,rfl,hL,hds⟩:=hd.mJ;have hxl:xs.length=ls.length:=by rw [hds.length,TX]
 refine ⟨_,(aJ (aO (fP (ao sW) rfl ["roll","calls"] rfl ["one","call"] [none,none] (by decide+kernel) (by decide+kernel) (by decide+kernel) rfl (qu rfl B.zip (aq (pv 0) (aq (pv 1) ak))) (fun _ _ _=>(qw (K:=K) (n:=2) rfl rfl (aB (bA (i:=0) (show (["one","call"]:List Str).Nodup by decide+kernel) rfl (Or.inl rfl)) (aB (bA (i:=1) (show (["one","call"]:List Str).Nodup by decide+kernel) rfl (Or.inl rfl)) bH)))) (fun _ _ _=>dJ) (fun _ _ _=>(aC (sE rfl) rfl B.min afk (aq (pv 1) (aq (dX<*nP<*(aq (pv 0) ak)) ak))))))),?_⟩;have O:=Ow.refl tk;refine ⟨_,rfl,_,rfl,a,b,_,_,rfl,hL,hb,fun acc hacc=>?_⟩;refine Em (K:=K) (fun i τ H'=>Iv (∃ (v0 v1:Option V),τ=[v0,v1]/\Ow T H H' [(acc,.lst ((List.zipWith (fun l c=>min c l.most) (ls.take i) (cs.take i)).map V.int))])) (by rw [TX];omega)
  ⟨trivial,none,none,rfl,O.mk' hacc rfl⟩ (fun i τ H' _ ⟨_,_,_,_,O⟩=>⟨O.same.seq hL,O.same.seq hb⟩) ?_ ?_
 ·rintro i x y t τ H' hx hy ⟨-,v0,v1,rfl,O⟩ ht;obtain ⟨z,hz,rfl⟩:=ints_get hy;obtain ⟨al,l,rfl,hl,hT⟩:=hds.qD hx;have hi:=(acp.mp hz).1;walk_at "nw";refine ⟨t,_,rfl,O.sqT 0,rfl,_,_,rfl,_,_,rfl,rfl,?_⟩;refine aai ?_;refine ⟨_,rfl,_,rfl,al,l,rfl,hT.mo O.same,_,_,rfl,?_⟩;refine ⟨_,O.get 1,aG (by rw [TX,afp,aed];omega),?_⟩;walk_at "pt";refine ⟨trivial,_,_,rfl,?_⟩;rw [QS _ hl hz,ad3,<- abE];exact O.tail
 ·rintro τ H' ⟨-,v0,v1,rfl,O⟩;refine O.ret 0 rfl q ?_;rw [hxl,ad8 (ad2 _),ad8 (by omega)];rfl
abbrev qd:Stmt:=top 44
theorem j7:aH ["free","ways","counts","way","reach"] ["free","ways"] (ao qd):=by walk_at "sc"
inductive Jl (K:PySem.W.Frag)(T:dY)(vs:List V)(H:Hp)(Q:VK)(E:XK):Prop
 | mk (a:Addr)(v:V)(fs:List Int)(ws:List (List Int))(_:vs=[.ref a,v])(_:SqL K H a (fs.map V.int))(_:fs.length<=1000)(_:Den K H v (J0 ws))(_:(∀ w∈ws,Tn.WOk fs.length w))(_:TabsOk T H)(_:tX T H (fun xs=>xs=(Tn.bumps (List.replicate fs.length 0) (ws.map fun w=>(w,1))).map V.int) Q)
variable {qT:Addr}{rN:FuncData}(gQ:Df K mg "count_ways" qd ["free","ways"] qT rN)
include gQ in
theorem Rr (B:Blt mg):(CX0|||1) qT rN ["free","ways"] (Jl K T):=by
 refine gQ.F.ok j7 ?_ ?_;walk_at "i";obtain ⟨a,v,fs,ws,rfl,hA,hfl,hd,hws,tk,q⟩:=h;obtain ⟨b,xs,rfl,hL,hds⟩:=hd.mJ;have hxl:xs.length=ws.length:=by rw [hds.length,TX]
 refine ⟨_,(aD (2<$>j7<$>(bB yw (bU (aq au ak)) (aC aA rfl B.len ad9 (aq (pv 0) ak))))
  (aD (cI aeh rfl (bF (pv 1)) (3>>j7)
   (aJ (cI aeh rfl (bF (pv 3)) (4>>j7)
    (aJ (uM (pv 2) (pv 4) oK au JN set_list)))))
  (aJ (aO (pv 2))))),?_⟩
 refine aaI ?_;intro zu0 zu1 zu2 zu3;have O:=Ow.refl tk;have s0:=O.same;walk_at "w";intro l1 h1;walk_at "nw";walk_at "w";refine ⟨l1,_,_,rfl,rfl,O.get 0,by rw [TX];omega,by rw [TX];omega,iI (by rw [TX,aeb];simp;omega),fun lc hlc=>?_⟩;walk_at "nw";rw [TX,aeb,qt] at O;have O:=O.two;refine ⟨_,rfl,b,rfl,⟨_,O.same.seq hL⟩,?_⟩;refine dB (K:=K) (xs:=xs) (fun i σ H'=>Iv (∃ v3 v4:Option V,σ=[some (.ref a),some (.ref b),some (.ref lc),v3,v4]/\Ow T H H' [(lc,.lst ((Tn.bumps (List.replicate fs.length 0) ((ws.take i).map fun w=>(w,1))).map V.int))]))
  ⟨trivial,none,none,rfl,O⟩ (fun i σ H' _ ⟨_,_,_,_,O⟩=>O.same.seq hL) ?_ ?_
 ·rintro i x σ H2 hx ⟨-,v3,v4,rfl,O⟩;obtain ⟨wa,w,rfl,hw,hW⟩:=hds.Y4 hx;have ok:=hws w (ad1 hw);have hnext:Tn.bumps (List.replicate fs.length 0) ((ws.take (i+1)).map fun w=>(w,(1:Int)))=Tn.bump (Tn.bumps (List.replicate fs.length 0) ((ws.take i).map fun w=>(w,1))) w 1:=by
   rw [aeA,hw,ad3];exact Tn.Cu _ _ _
  have hcl:(Tn.bumps (List.replicate fs.length 0) ((ws.take i).map fun w=>(w,(1:Int)))).length=fs.length:=by rw [Tn.nM,aeH]
  generalize Tn.bumps (List.replicate fs.length 0) ((ws.take i).map fun w=>(w,(1:Int)))=cur at O hnext hcl;refine ⟨_,rfl,wa,rfl,⟨_,O.same.seq hW⟩,?_⟩;refine dB (K:=K) (xs:=w.map V.int) (fun j σ H'=>Iv (∃ v4:Option V,σ=[some (.ref a),some (.ref b),some (.ref lc),some (.ref wa),v4]/\Ow T H H' [(lc,.lst ((Tn.bump cur (w.take j) 1).map V.int))]))
   ⟨trivial,v4,rfl,O⟩ (fun i σ H' _ ⟨_,_,_,O⟩=>O.same.seq hW) ?_ ?_
  ·rintro j y σ H3 hy ⟨-,v4,rfl,O⟩;obtain ⟨z,hz,rfl⟩:=ints_get hy;obtain ⟨z0,z1⟩:=ok.2 z (ad1 hz);obtain ⟨zn,rfl⟩:=aeo z0;have hbl:(Tn.bump cur (w.take j) 1).length=fs.length:=by rw [Tn.kJ,hcl]
   refine ⟨_,rfl,_,rfl,lc,_,zn,_,rfl,rfl,O.sq 0,by rw [ad5,bL (by omega)];rfl,?_⟩;refine ⟨_,_,rfl,rfl,lc,_,_,zn,rfl,rfl,O.get 0,jr (by rw [TX];omega),?_⟩;walk_at "pt";refine ⟨trivial,_,rfl,?_⟩;rw [Av hz,aeb,aeW];exact O
  ·rintro σ H3 ⟨-,v4,rfl,O⟩;rw [TX,ad8 (ad2 _)] at O;refine ⟨trivial,_,_,rfl,?_⟩;rw [hnext];exact O
 rintro σ H2 ⟨-,v3,v4,rfl,O⟩;refine ⟨_,rfl,O.ret 0 rfl q ?_⟩;rw [hxl,ad8 (ad2 _)]
abbrev j8:Stmt:=top 45
theorem mZ:aH ["free","ways","rests","counts","shares"] ["free","ways","rests"] (ao j8):=by walk_at "sc"
inductive aax (K:PySem.W.Frag)(T:dY)(vs:List V)(H:Hp)(Q:VK)(E:XK):Prop
 | mk (a b:Addr)(v:V)(fs rs:List Int)(ws:List (List Int))(_:vs=[.ref a,v,.ref b])(_:SqL K H a (fs.map V.int))(_:Den K H v (J0 ws))(_:SqL K H b (rs.map V.int))(_:fs.length<=1000)(_:rs.length<=1000)(_:ws.length<=1000)(_:(∀ w∈ws,Tn.WOk fs.length w))(_:TabsOk T H)(_:∀ (M:Int)(H':Hp),aN T H H'->Tn.WT fs (Tn.bumps (List.replicate fs.length 0) (ws.map fun w=>(w,1))) rs M->Q (.int M) H')
variable (yM:(CX0|||1) qT rN ["free","ways"] (Jl K T))
variable {oM:Addr}{oX:FuncData}(fu:Df K mg "whole_turns" j8 ["free","ways","rests"] oM oX)
include gQ yM fu in
theorem acY (B:Blt mg):
  (CX0|||2) oM oX ["free","ways","rests"] (aax K T):=by
 refine fu.F.ok mZ ?_ ?_;walk_at "i";obtain ⟨a,b,v,fs,rs,ws,rfl,hA,hd,hB,hfl,hrl,hwl,hws,tk,q⟩:=h;refine ⟨_,(aD (3<$>mZ<$>(gQ<*yM<*(aq (pv 0) (aq (pv 1) ak))))
  (aD (kZ (i:=4) (ao j8) rfl ["free","ways","rests","counts","shares"] rfl ["drops","count"] [none,none] (by decide+kernel) (by decide+kernel) (by decide+kernel) rfl mZ.nd rfl rfl (qu rfl B.zip (aq (pv 0) (aq (pv 3) ak))) (fun _ _ _=>(qw (K:=K) (n:=2) rfl rfl (aB (bA (i:=0) (show (["drops","count"]:List Str).Nodup by decide+kernel) rfl (Or.inl rfl)) (aB (bA (i:=1) (show (["drops","count"]:List Str).Nodup by decide+kernel) rfl (Or.inl rfl)) bH)))) (fun _ _ _=>(Ds (aP KH (pv 1) au (aX _)))) (fun _ _ _=>(bB qz (pv 0) (pv 1))) rfl)
  (aJ (aO (aC (GF rfl) rfl B.max PyProof.Rows.boot_max (aq au (aq (Zh rfl rfl B.min (bB Gk (bR bx rfl B.list aes (aq (pv 2) ak)) (pv 4))) ak))))))),?_⟩
 refine aaH ?_;intro zu0 zu1;have O:=Ow.refl tk;have s0:=O.same;refine ⟨_,rfl,_,rfl,a,v,fs,ws,rfl,hA,hfl,hd,hws,tk,O.Bt fun lc H2 xs O e=>?_⟩;subst e;have hcb:=Tn.cw_bound hws;have hcl:(Tn.bumps (List.replicate fs.length 0) (ws.map fun w=>(w,(1:Int)))).length=fs.length:=by rw [Tn.nM,aeH]
 generalize Tn.bumps (List.replicate fs.length 0) (ws.map fun w=>(w,(1:Int)))=cs at O hcb hcl q;refine ⟨_,rfl,_,rfl,a,lc,_,_,rfl,O.same.seq hA,O.sq 0,fun acc hacc=>?_⟩;refine Em (K:=K) (fun i τ H'=>Iv (∃ (v0 v1:Option V),τ=[v0,v1]/\Ow T H H' [(acc,.lst ((Tn.shares (fs.take i) (cs.take i)).map V.int)),(lc,.lst (cs.map V.int))])) (by rw [TX,TX];omega)
  ⟨trivial,none,none,rfl,O.mk' hacc rfl⟩ (fun i τ H' _ ⟨_,_,_,_,O⟩=>⟨O.same.seq hA,O.sq 1⟩) ?_ ?_
 ·rintro i x y t τ H' hx hy ⟨-,v0,v1,rfl,O⟩ ht;obtain ⟨z,hz,rfl⟩:=ints_get hx;obtain ⟨c,hc,rfl⟩:=ints_get hy;have hi:=(acp.mp hz).1;have hcm:=hcb c (ad1 hc);have hnext:=Tn.Hj hz hc;have hsl:(Tn.shares (fs.take i) (cs.take i)).length<=1000:=by
   unfold Tn.shares;rw [TX];refine aeP (List.length_filter_le _ _) ?_;rw [List.length_zip,aed];omega
  walk_at "nw";refine ⟨t,_,rfl,O.sqT 0,rfl,_,_,rfl,_,_,rfl,rfl,?_⟩;refine ⟨_,rfl,_,_,rfl,rfl,_,rfl,ifD (fun hp=>?_) fun hp=>?_⟩
  ·rw [if_pos hp] at hnext;refine ⟨_,rfl,_,rfl,_,_,rfl,rfl,⟨hp,by omega⟩,?_⟩;refine ⟨_,O.get 1,aG (by rw [TX];omega),?_⟩;walk_at "pt";refine ⟨trivial,_,_,rfl,?_⟩;rw [hnext,ad3];exact O.tail
  ·rw [if_neg hp,afw] at hnext;refine ⟨trivial,_,_,rfl,?_⟩;rw [hnext];exact O.tail
 rintro τ H' ⟨-,v0,v1,rfl,O⟩;rw [TX,ad8 (ad2 _),ad8 (by omega)] at O;have hsl:(Tn.shares fs cs).length<=1000:=by
  unfold Tn.shares;rw [TX];refine aeP (List.length_filter_le _ _) ?_;rw [List.length_zip];omega
 refine ⟨_,rfl,b,_,rfl,.inl (O.same.seq hB),fun lr hlr=>?_⟩;walk_at "nw";refine ⟨_,rfl,lr,acc,_,_,rfl,rfl,O.get 0,O.get 1,iI (by rw [TX,TX];omega),fun l2 hl2=>?_⟩;walk_at "nw";rw [<- ad3] at O;refine ⟨l2,rs++Tn.shares fs cs,rfl,O.sq 0,fun e0=>?_,fun m hm hle=>?_⟩
 ·exact ⟨_,_,rfl,q _ _ O.same (.inl ⟨e0,rfl⟩)⟩
 ·refine ⟨_,_,rfl,q _ _ O.same (.inr ⟨m,hm,hle,?_⟩)⟩;by_cases h:m >0
  ·rw [if_pos h];omega
  ·rw [if_neg h];omega
abbrev MP:Stmt:=top 46
theorem MN:aH ["left","way","drops","reach"] ["left","way","drops"] (ao MP):=by walk_at "sc"
inductive Ms (K:PySem.W.Frag)(T:dY)(vs:List V)(H:Hp)(Q:VK)(E:XK):Prop
 | mk (a b:Addr)(fs w:List Int)(c:Int)(Hb:Hp)(_:vs=[.ref a,.ref b,.int c])(_:Ow T Hb H [(a,.lst (fs.map V.int))])(_:SqL K Hb b (w.map V.int))(_:Tn.WOk fs.length w)(_:∀ H',Ow T Hb H' [(a,.lst ((Tn.bump fs w (-c)).map V.int))]->Q .non H')
variable {PB:Addr}{Qg:FuncData}(uq:Df K mg "draw" MP ["left","way","drops"] PB Qg)
include uq in
theorem Zt:(CX0|||1) PB Qg ["left","way","drops"] (Ms K T):=by
 refine uq.F.ok MN ?_ ?_;walk_at "i";obtain ⟨a,b,fs,w,c,Hb,rfl,O,hW,ok,q⟩:=h;refine ⟨_,(aJ (cI aeh rfl (bF (pv 1)) (3>>MN)
   (aJ (uM (pv 0) (pv 3) oK (pv 2) OJ set_list)))),?_⟩
 refine acQ ?_;intro zu0;refine ⟨_,rfl,b,rfl,⟨_,O.same.seq hW⟩,?_⟩;refine dB (K:=K) (xs:=w.map V.int) (fun j σ H'=>Iv (∃ v3:Option V,σ=[some (.ref a),some (.ref b),some (.int c),v3]/\Ow T Hb H' [(a,.lst ((Tn.bump fs (w.take j) (-c)).map V.int))]))
  ⟨trivial,none,rfl,O⟩ (fun i σ H' _ ⟨_,_,_,O⟩=>O.same.seq hW) ?_ ?_
 ·rintro j y σ H3 hy ⟨-,v4,rfl,O⟩;obtain ⟨z,hz,rfl⟩:=ints_get hy;obtain ⟨z0,z1⟩:=ok.2 z (ad1 hz);obtain ⟨zn,rfl⟩:=aeo z0;have hbl:(Tn.bump fs (w.take j) (-c)).length=fs.length:=Tn.kJ _ _ _;refine ⟨_,rfl,_,rfl,a,_,zn,_,rfl,rfl,O.sq 0,by rw [ad5,bL (by omega)];rfl,?_⟩;refine ⟨_,rfl,_,_,rfl,rfl,a,_,_,zn,rfl,rfl,O.get 0,jr (by rw [TX];omega),?_⟩;walk_at "pt";refine ⟨trivial,_,rfl,?_⟩;rw [Av hz,aeb,aeW];exact O
 ·rintro σ H3 ⟨-,v4,rfl,O⟩;rw [TX,ad8 (ad2 _)] at O;exact q _ O
abbrev dh:Stmt:=top 47
theorem eH:aH ["left","ways","rests","takes","going","unmet","turns","taker"] ["left","ways","rests","takes","going"] (ao dh):=by walk_at "sc"
structure adU (K:PySem.W.Frag)(T:dY)(H Hb:Hp)(a b t g:Addr)(v:V)(fs rs xs:List Int)(ws:List (List Int))(gs:List Nat):Prop where
 O:Ow T Hb H [(a,.lst (fs.map V.int)),(t,.lst (xs.map V.int))]
 d0:Den K Hb v (J0 ws)
 d1:SqL K Hb b (rs.map V.int)
 d2:SqL K Hb g ((Tn.asI gs).map V.int)
 rl:rs.length=ws.length
 xl:xs.length=ws.length
 gn:∀ k∈gs,k<ws.length
 nd:gs.Nodup
 wok:∀ w∈ws,Tn.WOk fs.length w
 fl:fs.length<=1000
 wl:ws.length<=1000
 gl:gs.length<=1000
inductive aaA (K:PySem.W.Frag)(T:dY)(vs:List V)(H:Hp)(Q:VK)(E:XK):Prop
 | mk (a b t g:Addr)(v:V)(fs rs xs:List Int)(ws:List (List Int))(gs:List Nat)(Hb:Hp)(_:vs=[.ref a,v,.ref b,.ref t,.ref g])(_:adU K T H Hb a b t g v fs rs xs ws gs)(_:∀ (M:Int)(H':Hp),Tn.WT fs (Tn.QK fs.length ws gs) (Tn.unmet rs xs gs) M->Ow T Hb H' [(a,.lst ((Tn.bumps fs (gs.map fun k=>(Tn.fW ws k,-M))).map V.int)),(t,.lst ((Tn.bump xs (Tn.asI gs) M).map V.int))]->Q .non H')
variable {k:Nat}
theorem Ie {ws:List (List Int)}(h:k<ws.length):ws[k]?=some (Tn.fW ws k):=by
 unfold Tn.fW;rw [ad0,adW h];rfl
variable (wN:(CX0|||2) oM oX ["free","ways","rests"] (aax K T))
variable (Ka:(CX0|||1) PB Qg ["left","way","drops"] (Ms K T))
variable {jt:Addr}{jw:FuncData}(bM:Df K mg "take_whole_turns" dh ["left","ways","rests","takes","going"] jt jw)
include fu uq wN Ka bM in
theorem ac1 (B:Blt mg):
  (CX0|||3) jt jw ["left","ways","rests","takes","going"] (aaA K T):=by
 refine bM.F.ok eH ?_ ?_
 walk_at "i"
 obtain ⟨a,b,t,g,v,fs,rs,xs,ws,gs,Hb,rfl,⟨O,d0,d1,d2,rl,xl,gn,nd,wok,fl,wl,gl⟩,q⟩:=h
 obtain ⟨va,vs,rfl,hV,hds⟩:=d0.mJ
 have hil:((Tn.asI gs).map V.int).length=gs.length:=by rw [TX,Tn.kE]
 refine ⟨_,(aD (kZ (i:=5) (ao dh) rfl ["left","ways","rests","takes","going","unmet","turns","taker"] rfl ["taker","rests","takes"] [none,some 2,some 3] (by decide+kernel) (by decide+kernel) (by decide+kernel) rfl eH.nd rfl rfl (bF (pv 4)) (fun _ _ _=>(bA (i:=0) (show (["taker","rests","takes"]:List Str).Nodup by decide+kernel) rfl (Or.inl rfl))) (fun _ _ _=>dJ) (fun _ _ _=>(bB wz (aM (jM (K:=K) rfl) (pv 1) (pv 0) (fun _ _=>rfl)) (aM (jM (K:=K) rfl) (pv 2) (pv 0) (fun _ _=>rfl)))) rfl)
  (aD (6<$>eH<$>(fu<*wN<*(aq (pv 0) (aq (fP (ao dh) rfl ["left","ways","rests","takes","going","unmet","turns","taker"] rfl ["taker","ways"] [none,some 1] (by decide+kernel) (by decide+kernel) (by decide+kernel) rfl (bF (pv 4)) (fun _ _ _=>(bA (i:=0) (show (["taker","ways"]:List Str).Nodup by decide+kernel) rfl (Or.inl rfl))) (fun _ _ _=>dJ) (fun _ _ _=>(aM (jM (K:=K) rfl) (pv 1) (pv 0) (fun _ _=>rfl)))) (aq (pv 5) ak)))))
  (aJ (cI aeh rfl (bF (pv 4)) (7>>eH)
   (aD (aU (uq<*Ka<*(aq (pv 0) (aq (aM aF (pv 1) (pv 7) (fun _ _=>rfl)) (aq (pv 6) ak)))))
   (aJ (uM (pv 3) (pv 7) oK (pv 6) JN set_list))))))),?_⟩
 refine acP ?_
 intro zu0 zu1 zu2 zu3
 /- unmet -/
 refine ⟨_,rfl,g,rfl,⟨_,O.same.seq d2⟩,fun lu hlu=>?_⟩
 refine cJ (K:=K) (xs:=(Tn.asI gs).map V.int) (fun i τ H'=>Iv (∃ v0:Option V,τ=[v0,some (.ref b),some (.ref t)]/\Ow T Hb H' [(lu,.lst ((Tn.unmet rs xs (gs.take i)).map V.int)),(a,.lst (fs.map V.int)),(t,.lst (xs.map V.int))]))
  ⟨trivial,none,rfl,O.mk' hlu rfl⟩ (fun i τ H' _ ⟨_,_,_,O⟩=>O.same.seq d2) ?_ ?_
 ·rintro i y τ H2 hy ⟨-,v0,rfl,O⟩
  obtain ⟨z,hz,rfl⟩:=ints_get hy
  obtain ⟨k,hk,rfl⟩:=Tn.jR hz
  have hkn:=gn k (ad1 hk)
  have hi:=(acp.mp hk).1
  refine Hf ?_
  refine ⟨_,rfl,_,rfl,b,_,_,_,rfl,rfl,O.same.seq d1,bh (bL (by omega)),_,rfl,_,rfl,t,_,_,_,rfl,rfl,O.sq 2,bh (bL (by omega)),_,_,rfl,rfl,?_⟩
  refine ⟨_,O.get 0,aG (by rw [TX];unfold Tn.unmet;rw [TX,aed];omega),?_⟩
  walk_at "pt"
  refine ⟨trivial,_,rfl,?_⟩
  rw [Tn.Kl hk,ad3];exact O
 rintro τ H2 ⟨-,v0,rfl,O⟩
 rw [hil,ad8 (ad2 _)] at O
 have hul:(Tn.unmet rs xs gs).length=gs.length:=by unfold Tn.unmet;rw [TX]
 /- whole_turns(left, ..,unmet) -/
 refine ⟨_,rfl,_,rfl,g,rfl,⟨_,O.same.seq d2⟩,fun lw hlw=>?_⟩
 refine cJ (K:=K) (xs:=(Tn.asI gs).map V.int) (fun i τ H'=>Iv (∃ (v0:Option V)(us:List V),τ=[v0,some (.ref va)]/\bT K Hb us ((gs.take i).map fun k=>tV (Tn.fW ws k))/\Ow T Hb H' [(lw,.lst us),(lu,.lst ((Tn.unmet rs xs gs).map V.int)),(a,.lst (fs.map V.int)),(t,.lst (xs.map V.int))]))
  ⟨trivial,none,[],rfl,.nil,O.mk' hlw rfl⟩ (fun i τ H' _ ⟨_,_,_,_,_,O⟩=>O.same.seq d2) ?_ ?_
 ·rintro i y τ H3 hy ⟨-,v0,us,rfl,hus,O⟩
  obtain ⟨z,hz,rfl⟩:=ints_get hy
  obtain ⟨k,hk,rfl⟩:=Tn.jR hz
  have hkn:=gn k (ad1 hk)
  have hi:=(acp.mp hk).1
  obtain ⟨wa,hwa,hW⟩:=hds.Lh (Ie hkn)
  refine Hf ?_
  refine ⟨_,rfl,_,rfl,va,_,_,_,rfl,rfl,O.same.seq hV,dN hwa,?_⟩
  refine ⟨_,O.get 0,aG (by rw [hus.length,TX,aed];omega),?_⟩
  walk_at "pt"
  refine ⟨trivial,_,us++[.ref wa],rfl,?_,O⟩
  rw [Tn.iz hk]
  exact hus.append (.cons (Den.ints hW) .nil)
 rintro τ H3 ⟨-,v0,us,rfl,hus,O⟩
 rw [hil,ad8 (ad2 _)] at hus
 have hus':bT K Hb us ((gs.map fun k=>Tn.fW ws k).map tV):=by rw [aft];exact hus
 refine ⟨_,rfl,a,lu,.ref lw,fs,Tn.unmet rs xs gs,gs.map fun k=>Tn.fW ws k,rfl,O.sq 2,.list (O.sq 0) (hus'.mo O.same),O.sq 1,fl,by omega,by rw [TX];omega,fun w hw=>?_,O.same.t1,fun M H4 sm hM=>?_⟩
 ·obtain ⟨k,hk,rfl⟩:=aep.mp hw
  exact wok _ (Tn.zR (gn k hk))
 have hM:Tn.WT fs (Tn.QK fs.length ws gs) (Tn.unmet rs xs gs) M:=by
  unfold Tn.QK
  rw [aft] at hM
  exact hM
 have O:=((O.vL sm).tail).tail
 /- the loop -/
 refine ⟨_,rfl,g,rfl,⟨_,O.same.seq d2⟩,?_⟩
 refine dB (K:=K) (xs:=(Tn.asI gs).map V.int) (fun i σ H'=>Iv (∃ v7:Option V,σ=[some (.ref a),some (.ref va),some (.ref b),some (.ref t),some (.ref g),some (.ref lu),some (.int M),v7] /\
  Ow T Hb H' [(a,.lst ((Tn.bumps fs ((gs.take i).map fun k=>(Tn.fW ws k,-M))).map V.int)),(t,.lst ((Tn.bump xs (Tn.asI (gs.take i)) M).map V.int))]))
  ⟨trivial,none,rfl,O⟩ (fun i σ H' _ ⟨_,_,_,O⟩=>O.same.seq d2) ?_ ?_
 ·rintro i y σ H5 hy ⟨-,v7,rfl,O⟩
  obtain ⟨z,hz,rfl⟩:=ints_get hy
  obtain ⟨k,hk,rfl⟩:=Tn.jR hz
  have hkn:=gn k (ad1 hk)
  obtain ⟨wa,hwa,hW⟩:=hds.Lh (Ie hkn)
  have hn1:Tn.bumps fs ((gs.take (i+1)).map fun k=>(Tn.fW ws k,-M))=Tn.bump (Tn.bumps fs ((gs.take i).map fun k=>(Tn.fW ws k,-M))) (Tn.fW ws k) (-M):=by
   rw [Tn.iz hk];exact Tn.Cu _ _ _
  have hl1:(Tn.bumps fs ((gs.take i).map fun k=>(Tn.fW ws k,-M))).length=fs.length:=Tn.nM _ _
  have hl2:(Tn.bump xs (Tn.asI (gs.take i)) M).length=ws.length:=by rw [Tn.kJ];exact xl
  have hn2:Tn.bump xs (Tn.asI (gs.take (i+1))) M=(Tn.bump xs (Tn.asI (gs.take i)) M).set k ((Tn.bump xs (Tn.asI (gs.take i)) M).getD k 0+M):=by
   rw [<- Tn.Gu,<- Tn.Gu,Av hz,aeb]
  obtain ⟨H1,O1,s1,hB,back⟩:=Ow.lend (A:=[(a,.lst ((Tn.bumps fs ((gs.take i).map fun k=>(Tn.fW ws k,-M))).map V.int))]) (B:=[(t,.lst ((Tn.bump xs (Tn.asI (gs.take i)) M).map V.int))]) O
  refine ⟨_,rfl,_,rfl,_,rfl,va,_,_,_,rfl,rfl,O.same.seq hV,dN hwa,_,rfl,a,wa,_,_,M,H1,rfl,O1,hW.mo s1,by rw [hl1];exact wok _ (Tn.zR hkn),fun H6 O6=>?_⟩
  have O:=back _ _ O6
  refine ⟨_,rfl,_,rfl,t,_,k,_,rfl,rfl,O.sq 1,by rw [ad5,bL (by omega)];rfl,_,rfl,_,_,rfl,rfl,t,_,_,k,rfl,rfl,O.get 1,jr (by rw [TX];omega),?_⟩
  walk_at "pt"
  refine ⟨trivial,_,rfl,?_⟩
  rw [hn1,hn2,aeW];exact O
 rintro σ H5 ⟨-,v7,rfl,O⟩
 rw [hil,ad8 (ad2 _)] at O
 exact q M _ hM O
abbrev jj:Stmt:=top 48
theorem jW:aH ["left","ways","rests","takes","going","still","taker"] ["left","ways","rests","takes","going"] (ao jj):=by walk_at "sc"
inductive aaB (K:PySem.W.Frag)(T:dY)(vs:List V)(H:Hp)(Q:VK)(E:XK):Prop
 | mk (a b t g:Addr)(v:V)(fs rs xs:List Int)(ws:List (List Int))(gs:List Nat)(Hb:Hp)(_:vs=[.ref a,v,.ref b,.ref t,.ref g])(_:adU K T H Hb a b t g v fs rs xs ws gs)(_:∀ (l:Addr)(H':Hp),Ow T Hb H' [(l,.lst ((Tn.asI (Tn.jV ws rs gs (fs,xs,[])).2.2).map V.int)),(a,.lst ((Tn.jV ws rs gs (fs,xs,[])).1.map V.int)),(t,.lst ((Tn.jV ws rs gs (fs,xs,[])).2.1.map V.int))]->Q (.ref l) H')
theorem aac {w l:List Int}:((w.map fun r:Int=>decide (0<l.getD r.toNat 0)).all id)=w.all (fun r=>decide (0<l.getD r.toNat 0)):=by rw [List.all_map];rfl
variable {lH:Addr}{lN:FuncData}(cW:Df K mg "take_one_turn" jj ["left","ways","rests","takes","going"] lH lN)
include uq Ka cW in
theorem ac3 (B:Blt mg):
  (CX0|||2) lH lN ["left","ways","rests","takes","going"] (aaB K T):=by
 refine cW.F.ok jW ?_ ?_;walk_at "i";obtain ⟨a,b,t,g,v,fs,rs,xs,ws,gs,Hb,rfl,⟨O,d0,d1,d2,rl,xl,gn,nd,wok,fl,wl,gl⟩,q⟩:=h;obtain ⟨va,vs,rfl,hV,hds⟩:=d0.mJ;have hil:((Tn.asI gs).map V.int).length=gs.length:=by rw [TX,Tn.kE]
 refine ⟨_,(aD (5<$>jW<$>(bU ak))
  (aD (cI aeh rfl (bF (pv 4)) (6>>jW)
   (aJ (dw (PW.pt (pw_and (aP uP (aM aF (pv 3) (pv 6) (fun _ _=>rfl)) (aM aF (pv 2) (pv 6) (fun _ _=>rfl)) (aX _)) (pw_and1 (jA (aC (tG rfl) rfl B.all afj (aq (fP (ao jj) rfl ["left","ways","rests","takes","going","still","taker"] rfl ["reach","left"] [none,some 0] (by decide+kernel) (by decide+kernel) (by decide+kernel) rfl (bF (aM aF (pv 1) (pv 6) (fun _ _=>rfl))) (fun _ _ _=>(bA (i:=0) (show (["reach","left"]:List Str).Nodup by decide+kernel) rfl (Or.inl rfl))) (fun _ _ _=>dJ) (fun _ _ _=>(qy KH (aM (jM (K:=K) rfl) (pv 1) (pv 0) (fun _ _=>rfl)) au (aX _)))) ak))))))
    (aD (aU (uq<*Ka<*(aq (pv 0) (aq (aM aF (pv 1) (pv 6) (fun _ _=>rfl)) (aq au ak)))))
    (aD (uM (pv 3) (pv 6) oK au JN set_list)
    (aJ (aU (jy aea aef aeg aY (pv 5) (aq (pv 6) ak))))))
    bf)))
  (aJ (aO (pv 5))))),?_⟩
 refine acO ?_;intro zu0 zu1 zu2 zu3 zu4 zu5;refine ⟨szl,fun ls hls=>?_⟩;walk_at "nw";refine ⟨_,rfl,g,rfl,⟨_,O.same.seq d2⟩,?_⟩;refine dB (K:=K) (xs:=(Tn.asI gs).map V.int) (fun i σ H'=>Iv (∃ v6:Option V,σ=[some (.ref a),some (.ref va),some (.ref b),some (.ref t),some (.ref g),some (.ref ls),v6] /\
  Ow T Hb H' [(ls,.lst ((Tn.asI (Tn.jV ws rs (gs.take i) (fs,xs,[])).2.2).map V.int)),(a,.lst ((Tn.jV ws rs (gs.take i) (fs,xs,[])).1.map V.int)),(t,.lst ((Tn.jV ws rs (gs.take i) (fs,xs,[])).2.1.map V.int))]))
  ⟨trivial,none,rfl,O⟩ (fun i σ H' _ ⟨_,_,_,O⟩=>O.same.seq d2) ?_ ?_
 ·rintro i y σ H5 hy ⟨-,v7,rfl,O⟩;obtain ⟨z,hz,rfl⟩:=ints_get hy;obtain ⟨k,hk,rfl⟩:=Tn.jR hz;have hkn:=gn k (ad1 hk);have hi:=(acp.mp hk).1;obtain ⟨wa,hwa,hW⟩:=hds.Lh (Ie hkn);have hnext:=Tn.Ko (ws:=ws) (rs:=rs) (s:=(fs,xs,[])) hk;have hlen:=Tn.Fe ws rs (gs.take i) (fs,xs,[]);rw [hnext];generalize Tn.jV ws rs (gs.take i) (fs,xs,[])=S at O hlen ⊢;obtain ⟨l,x,st⟩:=S;obtain ⟨hl1,hl2,hl3⟩:=hlen;have hl1:l.length=fs.length:=hl1;have hl2:x.length=xs.length:=hl2;have hl3:st.length<=i:=by
   have:st.length<=0+(gs.take i).length:=hl3;rw [aed] at this;omega
  have O:Ow T Hb H5 [(ls,.lst ((Tn.asI st).map V.int)),(a,.lst (l.map V.int)),(t,.lst (x.map V.int))]:=O;have ok:=wok _ (Tn.zR hkn);have no:¬ (x.getD k 0<rs.getD k 0/\(Tn.fW ws k).all (fun r=>decide (0<l.getD r.toNat 0))=true)->Tn.step1 ws rs (l,x,st) k=(l,x,st):=fun h=>if_neg h;have yes:(x.getD k 0<rs.getD k 0/\(Tn.fW ws k).all (fun r=>decide (0<l.getD r.toNat 0))=true)->Tn.step1 ws rs (l,x,st) k=(Tn.bump l (Tn.fW ws k) (-1),x.set k (x.getD k 0+1),st++[k]):=fun h=>if_pos h;generalize Tn.step1 ws rs (l,x,st) k=S' at no yes ⊢;refine ⟨_,rfl,_,rfl,t,_,_,_,rfl,rfl,O.sq 2,bh (bL (by omega)),_,rfl,_,rfl,b,_,_,_,rfl,rfl,O.same.seq d1,bh (bL (by omega)),_,_,rfl,rfl,_,rfl,ifD (fun hc1=>?_) fun hc1=>?_⟩
  ·refine ⟨_,rfl,_,rfl,va,_,_,_,rfl,rfl,O.same.seq hV,dN hwa,wa,rfl,⟨_,O.same.seq hW⟩,fun lb hlb=>?_⟩;refine cJ (K:=K) (xs:=(Tn.fW ws k).map V.int) (fun j τ H'=>Iv (∃ v0:Option V,τ=[v0,some (.ref a)]/\Ow T Hb H' [(lb,.lst ((((Tn.fW ws k).take j).map fun r:Int=>decide (0<l.getD r.toNat 0)).map V.bl)),(ls,.lst ((Tn.asI st).map V.int)),(a,.lst (l.map V.int)),(t,.lst (x.map V.int))]))
    ⟨trivial,none,rfl,O.mk' hlb rfl⟩ (fun i τ H' _ ⟨_,_,_,O⟩=>O.same.seq hW) ?_ ?_
   ·rintro j y τ H6 hy ⟨-,v0,rfl,O⟩;obtain ⟨r,hr,rfl⟩:=ints_get hy;have hj:=(acp.mp hr).1;obtain ⟨r0,r1⟩:=ok.2 r (ad1 hr);refine Hf ?_;refine ⟨_,rfl,_,rfl,a,_,_,_,rfl,rfl,O.sq 2,gk r0 (by omega),_,_,rfl,rfl,?_⟩;refine ⟨_,O.get 0,aG (by rw [TX,TX,aed];have:=ok.len;omega),?_⟩;walk_at "pt";refine ⟨trivial,_,rfl,?_⟩;rw [Tn.iz hr,ad3];exact O
   rintro τ H6 ⟨-,v0,rfl,O⟩;rw [TX,ad8 (ad2 _)] at O;refine ⟨lb,_,rfl,O.sq 0,?_⟩;rw [aac];have O:=O.tail;refine ⟨_,rfl,ifB (fun hc2=>?_) fun hc2=>?_⟩
   ·rw [yes ⟨hc1,hc2⟩];obtain ⟨H1,O1,s1,hB,back⟩:=Ow.lend (A:=[(a,.lst (l.map V.int))]) (B:=[(ls,.lst ((Tn.asI st).map V.int)),(t,.lst (x.map V.int))]) (O.pull 1);refine ⟨_,rfl,_,rfl,_,rfl,va,_,_,_,rfl,rfl,O.same.seq hV,dN hwa,a,wa,l,_,1,H1,rfl,O1,hW.mo s1,by rw [hl1];exact ok,fun H7 O7=>?_⟩;have O:=back _ _ O7;have O:Ow T Hb H7 [(a,.lst ((Tn.bump l (Tn.fW ws k) (-1)).map V.int)),(ls,.lst ((Tn.asI st).map V.int)),(t,.lst (x.map V.int))]:=O;refine ⟨_,rfl,_,rfl,t,_,k,_,rfl,rfl,O.sq 2,by rw [ad5,bL (by omega)];rfl,_,_,rfl,rfl,t,_,_,k,rfl,rfl,O.get 2,jr (by rw [TX];omega),?_⟩;walk_at "pt";refine ⟨_,rfl,.inl ⟨rfl,_,O.sq 1⟩,_,rfl,ls,_,_,rfl,rfl,O.get 1,aG (by rw [TX,Tn.kE];omega),?_⟩;walk_at "pt";refine ⟨trivial,_,rfl,?_⟩;have O:=O.pull 1;show Ow T Hb _ [(ls,.lst ((Tn.asI (st++[k])).map V.int)),(a,.lst ((Tn.bump l (Tn.fW ws k) (-1)).map V.int)),(t,.lst ((x.set k (x.getD k 0+1)).map V.int))];rw [aeW];unfold Tn.asI;rw [ad3,ad3];exact O
   ·rw [no fun z=>by rw [z.2] at hc2;cases hc2];exact ⟨trivial,_,rfl,O⟩
  ·refine yC ?_;rw [no fun z=>hc1 z.1];exact ⟨trivial,_,rfl,O⟩
 rintro σ H5 ⟨-,v7,rfl,O⟩;rw [hil,ad8 (ad2 _)] at O;exact ⟨_,rfl,q _ _ O⟩
abbrev qb:Stmt:=top 49
theorem jf:aH ["free","ways","rests","left","takes","going"] ["free","ways","rests"] (ao qb):=by walk_at "sc"
inductive aaF (K:PySem.W.Frag)(T:dY)(vs:List V)(H:Hp)(Q:VK)(E:XK):Prop
 | mk (a b:Addr)(v:V)(fs rs:List Int)(ws:List (List Int))(_:vs=[.ref a,v,.ref b])(_:SqL K H a (fs.map V.int))(_:Den K H v (J0 ws))(_:SqL K H b (rs.map V.int))(_:rs.length=ws.length)(_:fs.length<=1000)(_:ws.length<64)(_:(∀ w∈ws,Tn.WOk fs.length w))(_:(∀ x∈fs,0<=x))(_:(∀ x∈rs,0<=x))(_:TabsOk T H)(_:∀ (l lt ll:Addr)(xs left:List Int)(t:Int)(H':Hp),Ow T H H' [(l,.tup [.ref lt,.ref ll]),(lt,.lst (xs.map V.int)),(ll,.lst (left.map V.int))]->Tn.Az fs ws rs left xs [] t->Q (.ref l) H')
variable (mQ:(CX0|||3) jt jw ["left","ways","rests","takes","going"] (aaA K T))
variable (sG:(CX0|||2) lH lN ["left","ways","rests","takes","going"] (aaB K T))
variable {qR:Addr}{rM:FuncData}(gP:Df K mg "deal_turns" qb ["free","ways","rests"] qR rM)
include bM cW mQ sG gP in
theorem ac7 (B:Blt mg):
  (CX0|||4) qR rM ["free","ways","rests"] (aaF K T):=by
 refine gP.F.ok jf ?_ ?_;walk_at "i";obtain ⟨a,b,v,fs,rs,ws,rfl,hA,d0,hB,rl,fl,wl,wok,hf,hrs,tk,q⟩:=h;obtain ⟨va,vs,rfl,hV,hds⟩:=d0.mJ;have hvl:vs.length=ws.length:=by rw [hds.length,TX]
 refine ⟨_,(3<$>jf<$>(bR bx rfl B.list aes (pv 0>=>ak))<|>4<$>jf<$>(@bB _ _ _ _ _ _ _ _ yw (@bU _ _ _ _ (au>=>ak)) (aC aA rfl B.len ad9 (pv 1>=>ak)))<|>5<$>jf<$>(Gg rfl rfl B.list rfl B.range (aC aA rfl B.len ad9 (pv 1>=>ak)>=>ak))<|>Dt aeh (Ra (pv 5) (fun _=>rfl))
   (aU (bM<*mQ<*(pv 3>=>pv 1>=>pv 2>=>pv 4>=>pv 5>=>ak))<|>(~~~(5<$>jf<$>(cW<*sG<*(pv 3>=>pv 1>=>pv 2>=>pv 4>=>pv 5>=>ak)))))<|>(~~~(@aO _ _ _ _ (@f9 _ _ _ _ _ (pv 4>=>pv 3>=>ak))))),?_⟩
 have O:=Ow.refl tk;refine ⟨_,rfl,a,_,rfl,.inl (O.same.seq hA),fun ll hll=>?_⟩;walk_at "nw";refine ⟨szl,fun l1 h1=>?_⟩;walk_at "nw";refine ⟨_,rfl,va,_,rfl,.inl (O.same.seq hV),l1,_,_,rfl,rfl,O.get 0,by omega,by omega,iI (by rw [hvl,aeb];simp;omega),fun lt hlt=>?_⟩;walk_at "nw";rw [hvl,aeb,qt] at O;have O:=O.two;refine ⟨_,rfl,va,_,rfl,.inl (O.same.seq hV),ws.length,by rw [hvl],wl,fun lg hlg=>?_⟩;walk_at "nw";have eg:jB ws.length=(Tn.asI (List.range ws.length)).map V.int:=by unfold jB Tn.asI;rw [aft];rfl
 rw [eg] at O;refine ⟨fun m σ H'=>Iv (∃ (lg:Addr)(gs:List Nat)(l xs:List Int)(t:Int),σ=[some (.ref a),some (.ref va),some (.ref b),some (.ref ll),some (.ref lt),some (.ref lg)]/\Tn.Az fs ws rs l xs gs t/\m=(Tn.rem rs xs ws.length+(gs.length:Int)).toNat /\
  Ow T H H' [(lg,.lst ((Tn.asI gs).map V.int)),(lt,.lst (xs.map V.int)),(ll,.lst (l.map V.int))]),⟨_,trivial,lg,_,fs,_,0,rfl,Tn.Az.start hf hrs wok,rfl,O⟩,?_⟩
 rintro m σ H2 ⟨-,lg,gs,l,xs,t,rfl,LI,rfl,O⟩;have nd:=Tn.iW LI.srt;have gn:∀ k∈gs,k<ws.length:=fun k hk=>(LI.going k hk).1;have gl:gs.length<=1000:=by
  have:gs.length<=ws.length:=by
   have:=List.Nodup.length_le_of_subset (l₂:=List.range ws.length) nd fun k hk=>aeB.mpr (gn k hk);simpa using this
  omega
 refine ⟨_,rfl,_,.inl ⟨_,O.sq 0,rfl⟩,ifB (fun hc=>?_) fun hc=>?_⟩
 ·have hne:0<gs.length:=by
   cases gs with
   | nil=>simp [Tn.asI] at hc
   | cons x gs=>simp
  refine ⟨_,fun σ' H' h=>h,?_⟩;obtain ⟨H1,O1,s1,hBk,back⟩:=Ow.lend (A:=[(ll,.lst (l.map V.int)),(lt,.lst (xs.map V.int))]) (B:=[(lg,.lst ((Tn.asI gs).map V.int))]) (((O.pull 1).pull 2));refine ⟨_,rfl,_,rfl,_,rfl,_,rfl,_,rfl,ll,b,lt,lg,.ref va,l,rs,xs,ws,gs,H1,rfl,⟨O1,.list (hV.mo s1) (hds.mo s1),hB.mo s1,SqL.of (hBk (lg,.lst ((Tn.asI gs).map V.int)) (by simp)),rl,LI.xl,gn,nd,by rw [LI.ll];exact wok,by rw [LI.ll];exact fl,by omega,gl⟩,fun M H3 hM O3=>?_⟩;rw [LI.ll] at hM;have L2:=LI.whole hf wok hM;have M0:=hM.nn;have rw1:=Tn.M8 LI M0;have O:=back _ _ O3;have hll2:=L2.ll;obtain ⟨L3,hsum⟩:=L2.one wok;obtain ⟨H4,O4,s4,hBk4,back4⟩:=Ow.lend (A:=[(ll,.lst ((Tn.bumps l (gs.map fun k=>(Tn.fW ws k,-M))).map V.int)),(lt,.lst ((Tn.bump xs (Tn.asI gs) M).map V.int))]) (B:=[(lg,.lst ((Tn.asI gs).map V.int))]) O;refine ⟨_,rfl,_,rfl,_,rfl,_,rfl,_,rfl,ll,b,lt,lg,.ref va,_,rs,_,ws,gs,H4,rfl,⟨O4,.list (hV.mo s4) (hds.mo s4),hB.mo s4,SqL.of (hBk4 (lg,.lst ((Tn.asI gs).map V.int)) (by simp)),rl,L2.xl,gn,nd,by rw [L2.ll];exact wok,by rw [L2.ll];exact fl,by omega,gl⟩,fun l5 H5 O5=>?_⟩;have O:=back4 _ _ O5;have O:=(O.del 3);have O:=O.pull 2;have O:=(O.pull 1);refine ⟨_,?_,trivial,l5,_,_,_,_,rfl,L3,rfl,?_⟩
  ·have a1:=L3.T9;have a2:=LI.T9;omega
  ·exact O
 ·have hg:gs=[]:=by
   cases gs with
   | nil=>rfl
   | cons x gs=>simp [Tn.asI] at hc
  subst hg;refine ⟨_,rfl,_,rfl,szl,fun l5 hl5=>?_⟩;walk_at "nw";exact q l5 lt ll xs l t _ (O.two) LI
abbrev uE:Stmt:=top 35
theorem FP:aH ["one"] ["one"] (ao uE):=by walk_at "sc"
inductive T7 (K:PySem.W.Frag)(vs:List V)(H:Hp)(Q:VK)(E:XK):Prop
 | mk (t:Addr)(l:Lic)(_:vs=[.ref t])(_:SqT K H t (yV l))(_:Q (.int l.day) H)
variable {uW:Addr}{vq:FuncData}(cB:Df K mg "day_filed" uE ["one"] uW vq)
include cB in
theorem abn:(CX0|||1) uW vq ["one"] (T7 K):=by
 refine cB.F.ok FP ?_ ?_;walk_at "i";obtain ⟨t,l,rfl,hT,q⟩:=h;refine ⟨_,(~~~(@aO _ _ _ _ (@aM _ _ _ _ _ _ _ fL (pv 0) au (fun _ _=>rfl)))),?_⟩;exact ⟨_,rfl,t,_,0,_,rfl,rfl,hT,rfl,q⟩
abbrev vV:Stmt:=top 40
theorem MK:aH ["roll"] ["roll"] (ao vV):=by walk_at "sc"
def cA:Pos × Str:=(⟨101,40,101,88⟩,"ranked.<locals>.<lambda>")
def TT2 (P:Addr)(T:dY):Prop:=(P,cA.1,cA.2)∈T/\(T.map (·.1)).Nodup
def yE (ls:List Lic):Nat->Int:=fun k=>(ls[k]?.map Lic.day).getD 0
variable {ls:List Lic}{l:Lic}
theorem Ej (h:ls[k]?=some l):yE ls k=l.day:=by unfold yE;rw [h];rfl
inductive Fq (K:PySem.W.Frag)(T:dY)(vs:List V)(H:Hp)(Q:VK)(E:XK):Prop
 | mk (v:V)(ls:List Lic)(_:vs=[v])(_:Den K H v (SM ls))(_:ls.length<64)(_:TabsOk T H)(_:tX T H (fun xs=>∃ p,xs=p.map (fun (i:Nat)=>V.int (i:Int))/\Tn.Rk (yE ls) ls.length p) Q)
def aan (day:Nat->Int)(i:Nat):Int:=64*day i+(i:Int)
theorem RT {day:Nat->Int}(hi:i<64)(hj:j<64):HT.lexLt [day i,(i:Int)] [day j,(j:Int)]=decide (aan day i<aan day j):=by
 unfold aan;rw [HT.lA,HT.lA,HT.oJ];rw [aeZ];split
 ·split
  ·simp only [afi,decide_eq_true_eq,false_iff];omega
  ·simp only [decide_eq_true_eq];omega
 ·simp only [decide_eq_true_eq];omega
variable (pF:(CX0|||1) uW vq ["one"] (T7 K))
include cB pF in
theorem Nu {pT cT:Addr}(D:Df K mg "ranked" vV ["roll"] f fd)(hcd:fd.code=.ref cT)(hhd:PySem.W.codeHdIn K cT pT=true)(hT:TT2 pT T)(hbm:BM mg base)(B:Blt mg):(CX0|||5) f fd ["roll"] (Fq K T):=by
 refine D.F.okC hcd MK (fun vs H Q E h=>?_) (fun A outer s H vs Q E hr h=>?_)
 ·obtain ⟨_,_,rfl,_⟩:=h;rfl
 ·obtain ⟨v,ls,rfl,hd,h64,tk,q⟩:=h;obtain ⟨va,vs,rfl,hV,d0⟩:=hd.mJ;have hvl:vs.length=ls.length:=by rw [d0.length,TX]
  refine ⟨_,(aJ (aO (yt (P:=pT) (c:=cT) (p:="number") (ao vV) rfl ["roll"] rfl ["roll"] [some 0] (by decide+kernel) (by decide+kernel) (by decide+kernel) rfl hbm rfl hhd (JM hr.m) rfl B.sorted rfl B.range (aq (aC aA rfl B.len ad9 (aq (pv 0) ak)) ak) (fun A f cv s H hh hd hu=>(f9 (aq (Dw pF (JL hr.m hh hd hu) rfl cB.m cB.F.kp cB.b .nil wg (aq (aM (jM (K:=K) rfl) (pv 1) (pv 0) (fun _ _=>rfl)) ak)) (aq (pv 0) ak)))) (fun _ _ _ _=>rfl)))),?_⟩;refine ⟨_,rfl,va,_,rfl,.inl hV,ls.length,by rw [hvl],h64,tk _ hT.1,fun H2 k1 k2 t2=>?_⟩;have sT:aN T H H2:=aN.tab tk hT.1 hT.2 k1 t2;refine ⟨fun i ts H3=>aN T H2 H3/\ts.length=i/\∀ (j:Nat)(t:Addr),ts[j]?=some t->H3 t=some (.tup ([yE ls j,(j:Int)].map V.int)),fun i=>[yE ls i,(i:Int)],aan (yE ls),1,⟨aN.refl sT.t1,rfl,fun j t e=>by simp at e⟩,?_,?_,fun _ _=>rfl,fun i j hi hj=>RT (by omega) (by omega),?_,?_⟩
  ·rintro i ts H3 hi ⟨s3,htl,h3⟩;refine ⟨fun c' e=>s3.keep c' _ e fun ps z=>(by cases z),?_⟩;obtain ⟨al,hal,hTl⟩:=d0.wC (adW hi);have hTl:=hTl.mo (sT.trans s3);have edl:=Ej (adW hi);refine ⟨_,rfl,_,rfl,va,_,(i:Int),_,rfl,rfl,(sT.trans s3).seq hV,dN hal,al,_,rfl,hTl,?_⟩;refine ⟨_,rfl,(by show 2<=sizeLine;decide),fun t ht=>⟨t,rfl,?_⟩⟩;have nt:H2 t=none:=s3.free ht;refine ⟨s3.upd nt (.inl ht),by rw [ad7,htl];rfl,fun j t' e=>?_⟩;by_cases hj:j<ts.length
   ·rw [aeG hj] at e;have h4':=h3 j t' e;rw [aL (aV h4' ht)];exact h4'
   ·rw [aeM (by omega)] at e;have hj0:j - ts.length=0:=by
     have:=(acp.mp e).1;simp at this;omega
    have hji:j=i:=by omega
    rw [hj0] at e;simp at e;subst e;subst hji;rw [aR,edl];rfl
  ·rintro ts H3 ⟨_,_,h3⟩;exact h3
  ·intro i j hi hj hij e;unfold aan at e;omega
  ·rintro ts H3 D' ys ⟨s3,_,_⟩ hD ⟨p,hp,rfl,ho⟩;have hbl:(jB ls.length).length=ls.length:=by unfold jB;simp
   rw [hbl] at hp;refine q D' _ _ ((sT.trans s3).upd ((sT.trans s3).free hD) (.inl hD)) ((sT.trans s3).free hD) aR ⟨p,?_,hp,?_⟩
   ·refine List.map_congr_left fun i hi=>?_;have hi':i<ls.length:=aeB.mp (hp.mem_iff.mp hi);show (jB ls.length).getD i .non=_;unfold jB;rw [ad0,ad5,afe hi'];rfl
   ·refine List.Pairwise.imp_of_mem (fun {a b} ha hb hab=>?_) ho;have ha:=aeB.mp (hp.mem_iff.mp ha);have hb:=aeB.mp (hp.mem_iff.mp hb);unfold aan at hab;omega
abbrev uD:Stmt:=top 41
theorem pO:aH ["roll","groups","number"] ["roll"] (ao uD):=by walk_at "sc"
abbrev Pg:=Addr × Int × List Nat
def QH (ps:List Pg):List (Addr × HO):=ps.map fun p=>(p.1,.lst ((Tn.asI p.2.2).map V.int))
def kvG (ps:List Pg):List (Key × V):=ps.map fun p=>(Sum.inl p.2.1,V.ref p.1)
inductive Fw (K:PySem.W.Frag)(T:dY)(vs:List V)(H:Hp)(Q:VK)(E:XK):Prop
 | mk (v:V)(ls:List Lic)(_:vs=[v])(_:Den K H v (SM ls))(_:ls.length<64)(_:TabsOk T H)(_:∀ (l:Addr)(H':Hp)(ps:List Pg)(p:List Nat),Ow T H H' ((l,.lst (ps.map fun p=>V.ref p.1))::QH ps)->Tn.Rk (yE ls) ls.length p->Tn.Grp (yE ls) p (ps.map (·.2))->Q (.ref l) H')
variable {ps:List Pg}{d:Int}
theorem RZ {v:V}(h:G7 (kvG ps) (Sum.inl d)=some v):∃ (j:Nat)(p:Pg),ps[j]?=some p/\p.2.1=d/\v=.ref p.1:=by
 unfold G7 kvG at h;rw [List.find?_map,Option.map_map] at h;cases e:ps.find? ((fun kv:Key × V=>decide (kv.1=Sum.inl d)) ∘ fun p:Pg=>(Sum.inl p.2.1,V.ref p.1)) with
 | none=>rw [e] at h;cases h
 | some p =>
  rw [e] at h;obtain ⟨j,hj⟩:=afB (List.mem_of_find?_eq_some e);have hp:=List.find?_some e;simp only [Function.comp,decide_eq_true_eq] at hp;exact ⟨j,p,hj,Sum.inl.inj hp,(aek h).symm⟩
theorem R0 (h:G7 (kvG ps) (Sum.inl d)=none):∀ p∈ps,p.2.1≠d:=fun p hp e=>by
 unfold G7 kvG at h;rw [Option.map_eq_none_iff,List.find?_eq_none] at h;have:=h _ (afg hp);simp [e] at this
theorem Og {p:Pg}(h:ps[j]?=some p):(QH ps)[j]?=some (p.1,.lst ((Tn.asI p.2.2).map V.int)):=by
 unfold QH;rw [ad5,h];rfl
theorem yp {f:α->β}:∀ {ps:List α}{j:Nat}{p q:α},ps[j]?=some p->f q=f p->(ps.set j q).map f=ps.map f
 | [],_,_,_,h,_=>by simp at h
 | a::ps,0,p,q,h,e=>by
  have:a=p:=by simpa using h
  subst this;simp [e]
 | a::ps,j+1,p,q,h,e=>by
  rw [afs,aey,aey,yp (by simpa using h) e]
variable {JV:Addr}{JZ:FuncData}(wU:Df K mg "ranked" vV ["roll"] JV JZ)
variable (J9:(CX0|||5) JV JZ ["roll"] (Fq K T))
variable {uV:Addr}{vp:FuncData}(iT:Df K mg "groups_of" uD ["roll"] uV vp)
include cB pF wU J9 iT in
theorem Ny (B:Blt mg):(CX0|||6) uV vp ["roll"] (Fw K T):=by
 refine iT.F.ok pO ?_ ?_;walk_at "i";obtain ⟨v,ls,rfl,hd,h64,tk,q⟩:=h;obtain ⟨va,vs,rfl,hV,d0⟩:=hd.mJ;have hvl:vs.length=ls.length:=by rw [d0.length,TX]
 refine ⟨_,(aD (1<$>pO<$>Rf)
  (aD (cI aeh rfl (bF (wU<*J9<*(aq (pv 0) ak))) (2>>pO)
   (aJ (aU (jy aea aef aeg aY (Zj (pv 1) (cB<*pF<*(aq (aM aF (pv 0) (pv 2) (fun _ _=>rfl)) ak)) (bU ak) ⟨rfl,rfl,rfl,rfl⟩) (aq (pv 2) ak)))))
  (aJ (aO (Hw rfl rfl B.list (pv 1)))))),?_⟩
 refine acN ?_;intro zu0 zu1 zu2;have O:=Ow.refl tk;intro dg hdg;walk_at "nw";refine ⟨_,rfl,.ref va,ls,rfl,hd.Bm O.same,h64,O.same.t1,O.Bt fun lt H2 xs O ⟨p,ep,hp⟩=>?_⟩;subst ep;refine ⟨lt,rfl,⟨_,O.sq 0⟩,?_⟩;refine dB (K:=K) (xs:=p.map fun (i:Nat)=>V.int (i:Int)) (fun i σ H'=>Iv (∃ (v2:Option V)(ps:List Pg),σ=[some (.ref va),some (.ref dg),v2]/\ps.length<=i /\
  Ow T H H' ((lt,.lst (p.map fun (i:Nat)=>V.int (i:Int)))::(dg,.dK (kvG ps))::QH ps)/\Tn.Grp (yE ls) (p.take i) (ps.map (·.2))))
  ⟨trivial,none,[],rfl,ad2 _,O,Tn.Grp.start _⟩ (fun i σ H' _ ⟨_,_,_,_,_,O,_⟩=>O.sq 0) ?_ ?_
 ·rintro i y σ H3 hy ⟨-,v2,ps,rfl,hpl,O,G⟩;rw [ad5] at hy;obtain ⟨k,hk,rfl⟩:∃ k,p[i]?=some k/\y=V.int (k:Int):=by
   cases e:p[i]? with
   | none=>rw [e] at hy;cases hy
   | some j=>rw [e] at hy;exact ⟨j,rfl,(aek hy).symm⟩
  have hi:=(acp.mp hk).1;have hpn:=hp.len;have hkl:=hp.lt (ad1 hk);have hbe:=hp.before hk;obtain ⟨al,hal,hTl⟩:=d0.wC (adW hkl);have edl:=Ej (adW hkl);have hvk:vs[k]?=some (.ref al):=hal;refine ⟨_,rfl,dg,rfl,.inl ⟨_,.inl (O.get 1)⟩,_,rfl,_,rfl,va,_,(k:Int),_,rfl,rfl,O.same.seq hV,dN hvk,al,_,rfl,hTl.mo O.same,?_⟩;rw [<- edl];refine ⟨szl,fun l1 h1=>?_⟩;walk_at "nw";refine ⟨kvG ps,Sum.inl (yE ls k),O.get 2,rfl,?_,fun v hv=>?_,fun hn=>?_⟩
  ·unfold kvG;exact aG (by rw [TX];omega)
  ·have O:=O.tail;obtain ⟨j,pj,hj,ej,rfl⟩:=RZ hv;have hgj:(ps.map (·.2))[j]?=some pj.2:=by rw [ad5,hj];rfl
   have lat:((lt,HO.lst (p.map fun (i:Nat)=>V.int (i:Int)))::(dg,HO.dK (kvG ps))::QH ps)[j+2]?=some (pj.1,.lst ((Tn.asI pj.2.2).map V.int)):=by
    rw [List.getElem?_cons_succ,List.getElem?_cons_succ];exact Og hj
   have hgl:pj.2.2.length<=1000:=by
    have hs:pj.2.2.Sublist (p.take i):=by rw [<- G.flat];exact Tn.zA (afg (ad1 hgj))
    have:=hs.length_le;rw [aed] at this;omega
   refine ⟨.inl ⟨rfl,_,SqL.of (O.get (j+2) lat)⟩,_,rfl,pj.1,_,_,rfl,rfl,O.get (j+2) lat,aG (by rw [TX,Tn.kE];omega),?_⟩;generalize hE:upd _ _ _=Hn;have O:=Ow.uc O (j+2) lat hE rfl;clear hE;refine ⟨trivial,_,ps.set j (pj.1,pj.2.1,pj.2.2++[k]),rfl,by rw [aeV];omega,?_,?_⟩
   ·rw [show kvG (ps.set j (pj.1,pj.2.1,pj.2.2++[k]))=kvG ps from yp hj rfl];rw [afs,afs] at O;unfold QH;rw [aeW];unfold QH at O;simp only [Tn.asI,ad3,aey,List.map_nil];exact O
   ·rw [Tn.bZ hk,aeW];exact G.more hgj ej hbe
  ·rw [Q9 _ hn];walk_at "pt";refine ⟨.inl ⟨rfl,_,O.sq 0⟩,_,rfl,l1,_,_,rfl,rfl,O.get 0,aG (by simp),?_⟩;walk_at "pt";refine ⟨trivial,_,ps++[(l1,yE ls k,[k])],rfl,by rw [ad7];simp;omega,?_,?_⟩
   ·unfold kvG QH;rw [ad3,ad3];unfold kvG QH at O;refine O.perm ?_;have e:((lt,HO.lst (p.map fun (i:Nat)=>V.int (i:Int)))::(dg,HO.dK (ps.map (fun p=>((Sum.inl p.2.1:Key),V.ref p.1))++[(l1,yE ls k,[k])].map (fun p:Pg=>((Sum.inl p.2.1:Key),V.ref p.1))))::(ps.map (fun p=>(p.1,HO.lst ((Tn.asI p.2.2).map V.int)))++[(l1,yE ls k,[k])].map (fun p:Pg=>(p.1,HO.lst ((Tn.asI p.2.2).map V.int)))))
     =((lt,HO.lst (p.map fun (i:Nat)=>V.int (i:Int)))::(dg,HO.dK (ps.map (fun p=>((Sum.inl p.2.1:Key),V.ref p.1))++[(Sum.inl (yE ls k),V.ref l1)]))::ps.map (fun p=>(p.1,HO.lst ((Tn.asI p.2.2).map V.int))))++[(l1,HO.lst ([]++[V.int (k:Int)]))]:=rfl
    rw [e];exact List.perm_append_comm
   ·rw [Tn.bZ hk,ad3];exact G.new (fun g hg=>by
     obtain ⟨p',hp',rfl⟩:=aep.mp hg;exact R0 hn p' hp') hbe
 ·rintro σ H3 ⟨-,v2,ps,rfl,hpl,O,G⟩;rw [TX,ad8 (ad2 _)] at G;refine ⟨_,rfl,dg,kvG ps,rfl,.inl (O.get 1),fun l hl=>?_⟩;walk_at "nw";have e:(kvG ps).map (·.2)=ps.map fun p=>V.ref p.1:=by unfold kvG;rw [aft];rfl
  rw [e] at O;exact q l _ ps p (O.sub ((List.Sublist.cons _ (List.Sublist.cons _ (afK _))).cons₂ _)) hp G
abbrev Ga:Stmt:=top 51
theorem m5:aH ["below","springs","roll","calls","free","wants","takes","group","ways","dealt","number","take"] ["below","springs","roll","calls"] (ao Ga):=by walk_at "sc"
def yU (r:List Int)(ls:List Lic):Nat->List Int:=Tn.fW (ls.map fun l=>Rv.dZ r l.start l.back)
theorem zB (h:ls[k]?=some l):yU r ls k=Rv.dZ r l.start l.back:=by
 unfold yU Tn.fW;rw [ad0,ad5,h];rfl
def um (r:List Int)(l:Lic):Prop:=ace r l/\0<=l.most
theorem Li (hR:Rv.iB r)(h:∀ l∈ls,um r l)(hk:k<ls.length):Tn.WOk r.length (yU r ls k):=by
 obtain ⟨h0,h1,_⟩:=(h _ (aeQ hk)).1;rw [zB (adW hk)];exact Rv.Dg hR h0 h1
structure Ew (r s:List Int)(ls:List Lic)(cs xs:List Int):Prop where
 len:xs.length=ls.length
 fit:Tn.Fit ls.length (Tn.fF (Rv.nats r s)) (yU r ls) (Tn.fX (jz ls cs)) (Tn.fX xs)
 shown:Tn.Ax ls.length (Tn.fF (Rv.nats r s)) (yU r ls) (yE ls) (Tn.fX (jz ls cs)) (Tn.fX xs)
variable {s:List Int}
theorem NT (h:∀ x∈s,0<=x)(i:Int):0<=Rv.vN r s i:=by
 have key:∀ (n:Nat)(f:Nat->Int),(∀ j,j<n->0<=f j)->0<=Rv.tot n f:=by
  intro n f
  induction n with
  | zero=>intro _;exact aeK _
  | succ n ih =>
   intro hf;have:=ih fun j hj=>hf j (by omega);have:=hf n (by omega);show 0<=Rv.tot n f+f n;omega
 refine key _ _ fun j _=>?_;by_cases hj:j<s.length
 ·have:=h _ (Tn.wD hj);split
  ·exact this
  ·exact aeK _
 ·rw [ad0,aex (by omega)];split <;>exact aeK _
theorem Zy (h:∀ x∈s,0<=x):∀ x∈Rv.nats r s,0<=x:=fun x hx=>by
 obtain ⟨i,_,rfl⟩:=aep.mp hx;exact NT h _
variable {cs:List Int}
theorem Ke (h:ls.length=cs.length):(jz ls cs).length=ls.length:=by
 unfold jz;rw [afp];omega
theorem Ez {c:Int}(hl:ls[k]?=some l)(hc:cs[k]?=some c):(jz ls cs)[k]?=some (min c l.most):=by
 unfold jz;rw [ae8,hl,hc]
theorem Lk (h:∀ l∈ls,um r l)(hc:∀ c∈cs,0<=c):∀ x∈jz ls cs,0<=x:=fun x hx=>by
 obtain ⟨k,hk⟩:=afB hx;unfold jz at hk;rw [ae8] at hk;cases e1:ls[k]? with
 | none=>rw [e1] at hk;simp at hk
 | some l =>
  cases e2:cs[k]? with
  | none=>rw [e1,e2] at hk;simp at hk
  | some c =>
   rw [e1,e2] at hk;have:=(h l (ad1 e1)).2;have:=hc c (ad1 e2);have:x=min c l.most:=(aek hk).symm;omega
inductive Mt (K:PySem.W.Frag)(T:dY)(vs:List V)(H:Hp)(Q:VK)(E:XK):Prop
 | mk (a b c:Addr)(v:V)(r s:List Int)(ls:List Lic)(cs:List Int)(_:vs=[.ref a,.ref b,v,.ref c])(_:aaK K H a r)(_:SqL K H b (s.map V.int))(_:s.length=r.length)(_:(∀ x∈s,0<=x))(_:Den K H v (SM ls))(_:ls.length<64)(_:SqL K H c (cs.map V.int))(_:ls.length=cs.length)(_:(∀ l∈ls,um r l))(_:(∀ c∈cs,0<=c))(_:TabsOk T H)(_:tX T H (fun ys=>∃ xs,ys=xs.map V.int/\Ew r s ls cs xs) Q)
variable (mU:(CX0|||6) qM rG ["below","springs"] (Tq K T))
variable (Cw:(CX0|||2) xK xU ["roll","calls"] (Jd K T))
variable (Bb:(CX0|||6) uV vp ["roll"] (Fw K T))
variable (yH:(CX0|||3) qJ rD ["below","one"] (BK K))
variable (yL:(CX0|||4) qR rM ["free","ways","rests"] (aaF K T))
variable {PJ:Addr}{Qh:FuncData}(ur:Df K mg "deal" Ga ["below","springs","roll","calls"] PJ Qh)
include cO gJ jE gP iT mU Cw Bb yH yL ur in
theorem Zu (B:Blt mg):
  (CX0|||7) PJ Qh ["below","springs","roll","calls"] (Mt K T):=by
 refine ur.F.ok m5 ?_ ?_
 walk_at "i"
 obtain ⟨a,b,c,v,r,sp,ls,cs,rfl,⟨hA,hR,h64⟩,hB,hsl,hsn,hd,hl64,hC,hlc,ok,hcn,tk,q⟩:=h
 obtain ⟨va,vs,rfl,hV,d0⟩:=hd.mJ
 have hvl:vs.length=ls.length:=by rw [d0.length,TX]
 refine ⟨_,(aD (4<$>m5<$>(cO<*mU<*(aq (pv 0) (aq (pv 1) ak))))
  (aD (Jv (i:=5) m5.nd rfl (Or.inr rfl) (jE<*Cw<*(aq (pv 2) (aq (pv 3) ak))))
  (aD (6<$>m5<$>(bB yw (bU (aq au ak)) (aC aA rfl B.len ad9 (aq (pv 2) ak))))
  (aD (cI aeh rfl (bF (iT<*Bb<*(aq (pv 2) ak))) (7>>m5)
   (aD (kZ (i:=8) (ao Ga) rfl ["below","springs","roll","calls","free","wants","takes","group","ways","dealt","number","take"] rfl ["number","below","roll"] [none,some 0,some 2] (by decide+kernel) (by decide+kernel) (by decide+kernel) rfl m5.nd rfl rfl (bF (pv 7)) (fun _ _ _=>(bA (i:=0) (show (["number","below","roll"]:List Str).Nodup by decide+kernel) rfl (Or.inl rfl))) (fun _ _ _=>dJ) (fun _ _ _=>(gJ<*yH<*(aq (pv 1) (aq (aM (jM (K:=K) rfl) (pv 2) (pv 0) (fun _ _=>rfl)) ak)))) rfl)
   (aD (iH (gP<*yL<*(aq (pv 4) (aq (pv 8) (aq (fP (ao Ga) rfl ["below","springs","roll","calls","free","wants","takes","group","ways","dealt","number","take"] rfl ["number","wants"] [none,some 5] (by decide+kernel) (by decide+kernel) (by decide+kernel) rfl (bF (pv 7)) (fun _ _ _=>(bA (i:=0) (show (["number","wants"]:List Str).Nodup by decide+kernel) rfl (Or.inl rfl))) (fun _ _ _=>dJ) (fun _ _ _=>(aM (jM (K:=K) rfl) (pv 1) (pv 0) (fun _ _=>rfl)))) ak)))) (fZ rfl (aB (9>>m5) (aB (4>>m5) bH))))
   (aJ (cI aeh rfl (qu rfl B.zip (aq (pv 7) (aq (pv 9) ak))) (fZ rfl (aB (10>>m5) (aB (11>>m5) bH)))
    (aJ (iH (pv 11) (ud (pv 6) (pv 10) set_list))))))))
  (aJ (aO (pv 6))))))),?_⟩
 refine acM ?_
 intro zu0 zu1 zu2 zu3 zu4 zu5 zu6 zu7
 have O:=Ow.refl tk
 refine ⟨_,rfl,_,rfl,a,b,r,sp,rfl,⟨hA,hR,h64⟩,hB,hsl,tk,O.Bt fun lf H1 ys O e=>?_⟩
 subst e
 refine ⟨_,rfl,_,rfl,.ref va,c,ls,cs,rfl,hd.Bm O.same,O.same.seq hC,hlc,by omega,O.same.t1,O.Bt fun lw H2 ys O e=>?_⟩
 subst e
 have hnl:(Rv.nats r sp).length=r.length:=(Rv.HN r sp).len
 have hnn:=Zy (r:=r) hsn
 have hwl:=Ke hlc
 have hwn:=Lk ok hcn
 have hW:=fun k (hk:k<ls.length)=>Li hR ok hk
 have hwk:∀ k,k<ls.length->0<=Tn.fX (jz ls cs) k:=fun k hk=>hwn _ (Tn.wD (by omega))
 generalize hwa:jz ls cs=wa at O hwl hwn hwk
 refine ⟨szl,fun l1 h1=>?_⟩
 walk_at "nw"
 refine ⟨_,rfl,va,_,rfl,.inl (O.same.seq hV),l1,_,_,rfl,rfl,O.get 0,by omega,by omega,iI (by rw [aeb];simp;omega),fun lt hlt=>?_⟩
 walk_at "nw"
 rw [aeb,qt,hvl] at O
 have O:=O.two
 refine ⟨_,rfl,.ref va,ls,rfl,hd.Bm O.same,hl64,O.same.t1,fun lg H3 ps p OG R G=>?_⟩
 have nin:∀ q∈((lg,HO.lst (ps.map fun p=>V.ref p.1))::QH ps),∀ z∈[(lt,HO.lst ((List.replicate ls.length 0).map V.int)),(lw,.lst (wa.map V.int)),(lf,.lst ((Rv.nats r sp).map V.int))],z.1≠q.1:=fun q hq z hz e=>by
  have h1:=OG.new q hq
  have h2:=O.at_ z hz
  rw [e,h1] at h2;cases h2
 obtain ⟨Hb,O,sb,kb⟩:=(O.vL OG.same).reb
 have hG:SqL K Hb lg (ps.map fun p=>V.ref p.1):=SqL.of (kb lg _ (OG.get 0) (nin _ aeu))
 have hP:∀ (j:Nat)(pj:Pg),ps[j]?=some pj->SqL K Hb pj.1 ((Tn.asI pj.2.2).map V.int):=fun j pj hj=>by
  have:=Og hj
  have hm:=ad1 this
  exact SqL.of (kb _ _ (OG.at_ _ (aej _ hm)) (nin _ (aej _ hm)))
 clear nin kb OG
 have hA:=sb.seq hA
 have hV:=sb.seq hV
 have d0:=d0.mo sb
 refine ⟨lg,rfl,⟨_,O.same.seq hG⟩,?_⟩
 refine dB (K:=K) (xs:=ps.map fun p=>V.ref p.1) (fun j σ H'=>Iv (∃ (lf:Addr)(v7 v8 v9 v10 v11:Option V)(xs fl:List Int),σ=[some (.ref a),some (.ref b),some (.ref va),some (.ref c),some (.ref lf),some (.ref lw),some (.ref lt),v7,v8,v9,v10,v11] /\
  Ow T Hb H' [(lt,.lst (xs.map V.int)),(lw,.lst (wa.map V.int)),(lf,.lst (fl.map V.int))]/\Tn.Le ls.length (Rv.nats r sp) (yU r ls) (yE ls) (Tn.fX wa) (ps.map (·.2)) j xs fl))
  ⟨trivial,lf,none,none,none,none,none,_,_,rfl,O,Tn.Le.start _ hwk hnn⟩ (fun i σ H' _ ⟨_,_,_,_,_,_,_,_,_,_,O,_⟩=>O.same.seq hG) ?_ ?_
 ·rintro j y σ H4 hy ⟨-,lf,v7,v8,v9,v10,v11,xs,fl,rfl,O,GI⟩
  rw [ad5] at hy
  obtain ⟨pj,hj,rfl⟩:∃ pj,ps[j]?=some pj/\y=V.ref pj.1:=by
   cases e:ps[j]? with
   | none=>rw [e] at hy;cases hy
   | some j=>rw [e] at hy;exact ⟨j,rfl,(aek hy).symm⟩
  have hgj:(ps.map (·.2))[j]?=some pj.2:=by rw [ad5,hj];rfl
  have hPj:=hP j pj hj
  have up:=G.up R (ad1 hgj)
  have nd:=Tn.iW up
  have hlt:∀ k∈pj.2.2,k<ls.length:=fun k hk=>R.lt (by rw [<- G.flat];exact List.mem_flatten.mpr ⟨pj.2.2,afg (ad1 hgj),hk⟩)
  have hgl:pj.2.2.length<=ls.length:=by
   have hs:pj.2.2.Sublist p:=by rw [<- G.flat];exact Tn.zA (afg (ad1 hgj))
   have:=hs.length_le
   rw [R.len] at this;exact this
  have hfl:=GI.fll
  have hxl:=GI.xl
  have hfn:=GI.nn hnn
  /- ways -/
  refine ⟨_,rfl,pj.1,rfl,⟨_,O.same.seq hPj⟩,fun acc hacc=>?_⟩
  refine cJ (K:=K) (xs:=(Tn.asI pj.2.2).map V.int) (fun i τ H'=>Iv (∃ (v0:Option V)(Hc:Hp)(us:List V),τ=[v0,some (.ref a),some (.ref va)]/\Ow T Hc H' [(acc,.lst us),(lt,.lst (xs.map V.int)),(lw,.lst (wa.map V.int)),(lf,.lst (fl.map V.int))]/\aN T Hb Hc/\bT K Hc us ((pj.2.2.take i).map fun k=>tV (yU r ls k))))
   ⟨trivial,none,Hb,[],rfl,O.mk' hacc rfl,aN.refl O.same.t0,.nil⟩ (fun i τ H' _ ⟨_,_,_,_,_,O,sc,_⟩=>(sc.trans O.same).seq hPj) ?_ ?_
  ·rintro i y τ H5 hy ⟨-,v0,Hc,us,rfl,O,sc,d1⟩
   obtain ⟨z,hz,rfl⟩:=ints_get hy
   obtain ⟨k,hk,rfl⟩:=Tn.jR hz
   have hi:=(acp.mp hk).1
   have hkl:=hlt k (ad1 hk)
   obtain ⟨al,hal,hTl⟩:=d0.wC (adW hkl)
   refine Hf ?_
   refine ⟨_,rfl,_,rfl,_,rfl,va,_,(k:Int),_,rfl,rfl,(sc.trans O.same).seq hV,dN hal,a,al,r,_,rfl,(sc.trans O.same).seq hA,hR,by omega,hTl.mo (sc.trans O.same),(ok _ (aeQ hkl)).1,O.got fun lx H6 ys O e=>?_⟩
   subst e
   refine ⟨_,O.get 1,aG (by rw [d1.length,TX,aed];omega),?_⟩
   walk_at "pt"
   obtain ⟨Hn2,O,sn,en2⟩:=O.frz
   refine ⟨trivial,_,Hn2,us++[.ref lx],rfl,O,sc.trans sn,?_⟩
   rw [Tn.iz hk]
   refine (d1.mo sn).append (.cons ?_ .nil)
   rw [zB (adW hkl)]
   exact Den.ints (SqL.of en2)
  rintro τ H5 ⟨-,v0,Hc,us,rfl,O,sc,d1⟩
  rw [TX,Tn.kE,ad8 (ad2 _)] at d1
  /- rests -/
  refine ⟨_,rfl,_,rfl,_,rfl,pj.1,rfl,⟨_,(sc.trans O.same).seq hPj⟩,fun ac2 hac2=>?_⟩
  refine cJ (K:=K) (xs:=(Tn.asI pj.2.2).map V.int) (fun i τ H'=>Iv (∃ (v0:Option V),τ=[v0,some (.ref lw)]/\Ow T Hc H' [(ac2,.lst (((pj.2.2.take i).map (Tn.fX wa)).map V.int)),(acc,.lst us),(lt,.lst (xs.map V.int)),(lw,.lst (wa.map V.int)),(lf,.lst (fl.map V.int))]))
   ⟨trivial,none,rfl,O.mk' hac2 rfl⟩ (fun i τ H' _ ⟨_,_,_,O⟩=>(sc.trans O.same).seq hPj) ?_ ?_
  ·rintro i y τ H6 hy ⟨-,v0,rfl,O⟩
   obtain ⟨z,hz,rfl⟩:=ints_get hy
   obtain ⟨k,hk,rfl⟩:=Tn.jR hz
   have hi:=(acp.mp hk).1
   have hkl:=hlt k (ad1 hk)
   refine Hf ?_
   refine ⟨_,rfl,_,rfl,lw,_,(k:Int),_,rfl,rfl,O.sq 3,bh (bL (ns:=wa) (k:=k) (by omega)),?_⟩
   refine ⟨_,O.get 0,aG (by rw [TX,TX,aed];omega),?_⟩
   walk_at "pt"
   refine ⟨trivial,_,rfl,?_⟩
   rw [Tn.iz hk,ad3];exact O
  rintro τ H6 ⟨-,v0,rfl,O⟩
  rw [TX,Tn.kE,ad8 (ad2 _)] at O
  have dws:bT K Hc us ((pj.2.2.map (yU r ls)).map tV):=by rw [aft];exact d1
  refine ⟨lf,ac2,.ref acc,fl,pj.2.2.map (Tn.fX wa),pj.2.2.map (yU r ls),rfl,O.sq 4,.list (O.sq 1) (dws.mo O.same),O.sq 0,by rw [TX,TX],by omega,by rw [TX];omega,fun w hw=>?_,hfn,fun x hx=>?_,O.same.t1,fun l lt2 ll ys left t H7 OD L=>?_⟩
  ·obtain ⟨k,hk,rfl⟩:=aep.mp hw
   rw [hfl,hnl]
   exact hW k (hlt k hk)
  ·obtain ⟨k,hk,rfl⟩:=aep.mp hx
   exact hwk k (hlt k hk)
  have O:=O.join OD
  walk_at "jn"
  refine ⟨l,_,rfl,O.sqT 0,rfl,_,_,rfl,_,_,rfl,rfl,?_⟩
  have O:=((((O.del 0).del 2).del 2).del 4)
  walk_at "er"
  have hyl:ys.length=pj.2.2.length:=by rw [L.xl,TX]
  refine ⟨_,rfl,_,rfl,pj.1,lt2,_,_,rfl,(sc.trans O.same).seq hPj,O.sq 0,?_⟩
  refine uR (K:=K) (fun i σ H'=>Iv (∃ (v10 v11:Option V)(cur:List Int),σ=[some (.ref a),some (.ref b),some (.ref va),some (.ref c),some (.ref ll),some (.ref lw),some (.ref lt),some (.ref pj.1),some (.ref acc),some (.ref lt2),v10,v11]/\cur.length=ls.length/\(∀ k,Tn.fX cur k=Tn.over (Tn.fX xs) (pj.2.2.take i) (Tn.fX ys) k) /\
   Ow T Hc H' [(lt2,.lst (ys.map V.int)),(ll,.lst (left.map V.int)),(lt,.lst (cur.map V.int)),(lw,.lst (wa.map V.int))])) (by rw [TX,TX,Tn.kE];omega)
   ⟨trivial,_,_,xs,rfl,hxl,fun k=>by rw [List.take_zero,Tn.oH (by simp)],O⟩ (fun i σ H' _ ⟨_,_,_,_,_,_,_,O⟩=>⟨(sc.trans O.same).seq hPj,O.sq 0⟩) ?_ ?_
  ·rintro i x y t' σ H8 hx hy ⟨-,v10,v11,cur,rfl,hcl,hov,O⟩ ht
   obtain ⟨z,hz,rfl⟩:=ints_get hx
   obtain ⟨k,hk,rfl⟩:=Tn.jR hz
   obtain ⟨u,hu,rfl⟩:=ints_get hy
   have hkl:=hlt k (ad1 hk)
   walk_at "nw"
   refine ⟨t',_,rfl,O.sqT 0,rfl,_,_,rfl,_,_,rfl,rfl,?_⟩
   refine ⟨_,rfl,_,rfl,_,rfl,lt,_,_,k,rfl,rfl,O.get 3,jr (by rw [TX];omega),?_⟩
   walk_at "pt"
   have O:=O.tail
   refine ⟨trivial,_,_,cur.set k u,rfl,by rw [aeV];exact hcl,fun m=>?_,by rw [aeW];exact O⟩
   rw [Tn.Np nd hk m,<- hov m]
   unfold Tn.fX
   rw [Tn.Ea (by omega)]
   by_cases hm:m=k
   ·rw [if_pos hm,if_pos hm,ad0,hu];rfl
   ·rw [if_neg hm,if_neg hm]
  ·rintro σ H8 ⟨-,v10,v11,cur,rfl,hcl,hov,O⟩
   rw [TX,Tn.kE,ad8 (ad2 _)] at hov
   have O:=(O.base sc).tail
   have O:=O.pull 2
   walk_at "er"
   have O:=O.pull 2
   walk_at "er"
   refine ⟨trivial,ll,_,_,_,_,_,cur,left,rfl,O,?_⟩
   exact GI.step G R hgj (by rw [hnl];exact hW) L hcl hov
 ·rintro σ H4 ⟨-,lf,v7,v8,v9,v10,v11,xs,fl,rfl,O,GI⟩
  rw [TX] at GI
  have GI:Tn.Le ls.length (Rv.nats r sp) (yU r ls) (yE ls) (Tn.fX wa) (ps.map (·.2)) (ps.map (·.2)).length xs fl:=by rw [TX];exact GI
  obtain ⟨F1,F2⟩:=GI.finish G R
  rw [<- hwa] at F1 F2
  exact ⟨_,rfl,(O.base sb).ret 0 rfl q ⟨xs,rfl,GI.xl,F1,F2⟩⟩
theorem SJ (h:∀ l∈ls,0<=l.day)(k:Nat):0<=yE ls k:=by
 unfold yE;cases e:ls[k]? with
 | none=>exact aeK _
 | some l=>exact h l (ad1 e)
variable {xs:List Int}
theorem Sy {ys:List Int}(hd:∀ l∈ls,0<=l.day)(a:Ew r s ls cs xs)(b:Ew r s ls cs ys):ys=xs:=by
 have xl:=a.len;have yl:=b.len;refine afz fun i=>?_;by_cases hi:i<ls.length
 ·have:=Tn.unique (fun k _=>SJ hd k) b.fit b.shown a.fit a.shown i hi;rw [bL (ns:=ys) (by omega),bL (ns:=xs) (by omega)];exact congrArg some this
 ·rw [aex (by omega),aex (by omega)]
abbrev pX:Stmt:=top 57
theorem eN:aH ["roll","ponds","kept","calls","lessened","pond","keeps","number","room","leak"] ["roll","ponds","kept","calls"] (ao pX):=by walk_at "sc"
def fQ (cs:List Int)(ps:List (Int × Int × Int))(ks:List Int):Nat->List Int
 | 0=>cs
 | i+1=>(fQ cs ps ks i).set (ps.getD i (0,0,0)).1.toNat (min (cs.getD (ps.getD i (0,0,0)).1.toNat 0) ((ps.getD i (0,0,0)).2.1 - ks.getD i 0))
theorem jQ (cs:List Int)(ps:List (Int × Int × Int))(ks:List Int):∀ i,(fQ cs ps ks i).length=cs.length
 | 0=>rfl
 | i+1=>by rw [fQ,aeV];exact jQ cs ps ks i
inductive aaC (K:PySem.W.Frag)(T:dY)(vs:List V)(H:Hp)(Q:VK)(E:XK):Prop
 | mk (v:V)(b c d:Addr)(us:List V)(ps:List (Int × Int × Int))(ks cs:List Int)(_:vs=[v,.ref b,.ref c,.ref d])(_:SqL K H b us)(_:bT K H us (ps.map dMv))(_:SqL K H c (ks.map V.int))(_:ps.length=ks.length)(_:SqL K H d (cs.map V.int))(_:(∀ p∈ps,0<=p.1/\p.1<(cs.length:Int)))(_:TabsOk T H)(_:tX T H (fun ys=>ys=(fQ cs ps ks ps.length).map V.int) Q)
variable {qL:Addr}{rF:FuncData}(gM:Df K mg "pond_calls" pX ["roll","ponds","kept","calls"] qL rF)
include gM in
theorem ac4 (B:Blt mg):(CX0|||1) qL rF ["roll","ponds","kept","calls"] (aaC K T):=by
 refine gM.F.ok eN ?_ ?_;walk_at "i";obtain ⟨v,b,c,d,us,ps,ks,cs,rfl,hB,d0,hC,hpk,hD,hrg,tk,q⟩:=h;have hul:us.length=ps.length:=by rw [d0.length,TX]
 have O:=Ow.refl tk;refine ⟨_,(aD (4<$>eN<$>(bR bx rfl B.list aes (aq (pv 3) ak)))
  (aD (cI aeh rfl (qu rfl B.zip (aq (pv 1) (aq (pv 2) ak))) (fZ rfl (aB (5>>eN) (aB (6>>eN) bH)))
   (aD (iH (pv 5) (fZ rfl (aB (7>>eN) (aB (8>>eN) (aB (9>>eN) bH)))))
   (aJ (iH (aC (sE rfl) rfl B.min afk (aq (aM aF (pv 3) (pv 7) (fun _ _=>rfl)) (aq (bB wz (pv 8) (pv 6)) ak))) (ud (pv 4) (pv 7) set_list)))))
  (aJ (aO (pv 4))))),?_⟩
 refine acL ?_;intro zu0 zu1 zu2 zu3;refine ⟨_,rfl,d,_,rfl,.inl hD,fun lm hlm=>?_⟩;walk_at "nw";refine ⟨_,rfl,_,rfl,b,c,_,_,rfl,O.same.seq hB,O.same.seq hC,?_⟩;refine uR (K:=K) (fun i σ H'=>Iv (∃ (v5 v6 v7 v8 v9:Option V),σ=[some v,some (.ref b),some (.ref c),some (.ref d),some (.ref lm),v5,v6,v7,v8,v9]/\Ow T H H' [(lm,.lst ((fQ cs ps ks i).map V.int))]))
  (by rw [TX];omega) ⟨trivial,none,none,none,none,none,rfl,O⟩ (fun _ _ _ _ ⟨_,_,_,_,_,_,_,O⟩=>⟨O.same.seq hB,O.same.seq hC⟩) ?_ ?_
 ·rintro i x y t' σ H3 hx hy ⟨-,v5,v6,v7,v8,v9,rfl,O⟩ ht';obtain ⟨ap,p,rfl,hp,hT⟩:=d0.JC hx;obtain ⟨u,hu,rfl⟩:=ints_get hy;have hr:=hrg p (ad1 hp);walk_at "nw";refine ⟨t',_,rfl,O.sqT 0,rfl,_,_,rfl,_,_,rfl,rfl,?_⟩;have O:=O.tail;refine ⟨_,rfl,ap,_,rfl,hT.mo O.same,rfl,_,_,rfl,_,_,rfl,_,_,rfl,rfl,?_⟩;refine ⟨_,rfl,_,rfl,d,_,_,_,rfl,rfl,O.same.seq hD,gk hr.1 hr.2,_,rfl,_,rfl,_,_,rfl,rfl,_,_,rfl,_,rfl,_,rfl,?_⟩;refine wu O 0 rfl (adh hr.1 (by rw [TX,jQ];exact hr.2)) fun H6 O=>?_;refine ⟨trivial,_,_,_,_,_,rfl,?_⟩;rw [fQ,getD_some hp,getD_some hu,aeW];have em:min (cs.getD p.1.toNat 0) (p.2.1 - u)=if p.2.1 - u<cs.getD p.1.toNat 0 then p.2.1 - u else cs.getD p.1.toNat 0:=by split <;>omega
  rw [em];exact O
 rintro σ H3 ⟨-,v5,v6,v7,v8,v9,rfl,O⟩;rw [hul] at O;exact ⟨_,rfl,O.ret 0 rfl q rfl⟩
abbrev zO:Stmt:=top 58
theorem fO:aH ["ponds","kept","takes","after","lost","pond","keeps","number","room","leak","full","loss"] ["ponds","kept","takes"] (ao zO):=by walk_at "sc"
def Bu (ps:List (Int × Int × Int))(ks xs:List Int)(i:Nat):Int:=ks.getD i 0+xs.getD (ps.getD i (0,0,0)).1.toNat 0
def zf (ps:List (Int × Int × Int))(ks xs:List Int)(i:Nat):Int:=Bu ps ks xs i*(ps.getD i (0,0,0)).2.2 / 1000
inductive T5 (K:PySem.W.Frag)(T:dY)(vs:List V)(H:Hp)(Q:VK)(E:XK):Prop
 | mk (b c d:Addr)(us:List V)(ps:List (Int × Int × Int))(ks xs:List Int)(_:vs=[.ref b,.ref c,.ref d])(_:SqL K H b us)(_:bT K H us (ps.map dMv))(_:ps.length<=1000)(_:SqL K H c (ks.map V.int))(_:ps.length=ks.length)(_:SqL K H d (xs.map V.int))(_:(∀ p∈ps,0<=p.1/\p.1<(xs.length:Int)/\0<=p.2.2/\p.2.2<=1000))(_:TabsOk T H)(_:∀ (t la ll:Addr)(H':Hp),Ow T H H' [(t,.tup [.ref la,.ref ll]),(ll,.lst (((List.range ps.length).map (zf ps ks xs)).map V.int)),(la,.lst (((List.range ps.length).map fun i=>Bu ps ks xs i - zf ps ks xs i).map V.int))]->Q (.ref t) H')
theorem Js (f:Nat->Int)(i:Nat):((List.range (i+1)).map f).map V.int=((List.range i).map f).map V.int++[V.int (f i)]:=by
 rw [afG,ad3,ad3];rfl
variable {Af:Addr}{Am:FuncData}(lZ:Df K mg "evening" zO ["ponds","kept","takes"] Af Am)
include lZ in
theorem abl (B:Blt mg)(hW:∃ t,mg "WHOLE"=some (.int 1000 t)):(CX0|||1) Af Am ["ponds","kept","takes"] (T5 K T):=by
 obtain ⟨tW,hWHOLE⟩:=hW;refine lZ.F.ok fO ?_ ?_;walk_at "i";obtain ⟨b,c,d,us,ps,ks,xs,rfl,hB,d0,hpl,hC,hpk,hD,hrg,tk,q⟩:=h;have hul:us.length=ps.length:=by rw [d0.length,TX]
 have O:=Ow.refl tk;refine ⟨_,(aD (3<$>fO<$>(bU ak))
  (aD (4<$>fO<$>(bU ak))
  (aD (cI aeh rfl (qu rfl B.zip (aq (pv 0) (aq (pv 1) ak))) (fZ rfl (aB (5>>fO) (aB (6>>fO) bH)))
   (aD (iH (pv 5) (fZ rfl (aB (7>>fO) (aB (8>>fO) (aB (9>>fO) bH)))))
   (aD (10<$>fO<$>(bB mH (pv 6) (aM aF (pv 2) (pv 7) (fun _ _=>rfl))))
   (aD (11<$>fO<$>(bB qz (bB Gi (pv 10) (pv 9)) (eV (v:=.int (1000)) rfl hWHOLE ⟨_,rfl⟩)))
   (aD (aU (jy aea aef aeg aY (pv 3) (aq (bB wz (pv 10) (pv 11)) ak)))
   (aJ (aU (jy aea aef aeg aY (pv 4) (aq (pv 11) ak)))))))))
  (aJ (aO (f9 (aq (pv 3) (aq (pv 4) ak)))))))),?_⟩
 refine acK ?_;intro zu0 zu1 zu2 zu3 zu4 zu5 zu6 zu7;refine ⟨szl,fun la hla=>?_⟩;walk_at "nw";refine ⟨szl,fun ll hll=>?_⟩;walk_at "nw";refine ⟨_,rfl,_,rfl,b,c,_,_,rfl,O.same.seq hB,O.same.seq hC,?_⟩;refine uR (K:=K) (fun i σ H'=>Iv (∃ (v5 v6 v7 v8 v9 v10 v11:Option V),σ=[some (.ref b),some (.ref c),some (.ref d),some (.ref la),some (.ref ll),v5,v6,v7,v8,v9,v10,v11]/\Ow T H H' [(ll,.lst (((List.range i).map (zf ps ks xs)).map V.int)),(la,.lst (((List.range i).map fun i=>Bu ps ks xs i - zf ps ks xs i).map V.int))]))
  (by rw [TX];omega) ⟨trivial,none,none,none,none,none,none,none,rfl,O⟩ (fun _ _ _ _ ⟨_,_,_,_,_,_,_,_,_,O⟩=>⟨O.same.seq hB,O.same.seq hC⟩) ?_ ?_
 ·rintro i x y t' σ H3 hx hy ⟨-,v5,v6,v7,v8,v9,v10,v11,rfl,O⟩ ht';obtain ⟨ap,p,rfl,hp,hT⟩:=d0.JC hx;obtain ⟨u,hu,rfl⟩:=ints_get hy;have hi:=(acp.mp hp).1;have hr:=hrg p (ad1 hp);have e1:Bu ps ks xs i=u+xs.getD p.1.toNat 0:=by unfold Bu;rw [getD_some hp,getD_some hu]
  have e2:zf ps ks xs i=(u+xs.getD p.1.toNat 0)*p.2.2 / 1000:=by unfold zf;rw [e1,getD_some hp]
  walk_at "nw";refine ⟨t',_,rfl,O.sqT 0,rfl,_,_,rfl,_,_,rfl,rfl,?_⟩;have O:=O.tail;refine ⟨_,rfl,ap,_,rfl,hT.mo O.same,rfl,_,_,rfl,_,_,rfl,_,_,rfl,rfl,?_⟩;refine ⟨_,rfl,_,rfl,_,rfl,d,_,_,_,rfl,rfl,O.same.seq hD,gk hr.1 hr.2.1,_,_,rfl,rfl,?_⟩;refine ⟨_,rfl,_,rfl,_,_,rfl,rfl,.inr ⟨by omega,by omega⟩,_,_,rfl,rfl,⟨by decide,by decide⟩,?_⟩;refine ⟨_,rfl,.inl ⟨rfl,_,O.sq 1⟩,_,rfl,_,rfl,_,_,rfl,rfl,la,_,_,rfl,rfl,O.get 1,aG (by rw [TX,TX,aeU];omega),?_⟩;walk_at "pt";refine ⟨_,rfl,.inl ⟨rfl,_,O.sq 0⟩,_,rfl,ll,_,_,rfl,rfl,O.get 0,aG (by rw [TX,TX,aeU];omega),?_⟩;walk_at "pt";refine ⟨trivial,_,_,_,_,_,_,_,rfl,?_⟩;rw [Js,Js,e2,e1];exact O
 rintro σ H3 ⟨-,v5,v6,v7,v8,v9,v10,v11,rfl,O⟩;rw [hul] at O;refine ⟨_,rfl,_,rfl,szl,fun t ht=>?_⟩;walk_at "nw";exact q t la ll _ O
abbrev nZ:Stmt:=top 26
theorem FN:aH ["below"] ["below"] (ao nZ):=by walk_at "sc"
inductive Ft (K:PySem.W.Frag)(T:dY)(vs:List V)(H:Hp)(Q:VK)(E:XK):Prop
 | mk (a:Addr)(r:List Int)(_:vs=[.ref a])(_:SqL K H a (r.map V.int))(_:r.length<64)(_:TabsOk T H)(_:tX T H (fun xs=>xs=(Rv.NZ r r.length).map V.int) Q)
variable {uU:Addr}{vo:FuncData}(iR:Df K mg "mouths_of" nZ ["below"] uU vo)
include iR in
theorem Nv (B:Blt mg)(C:Mth mg):(CX0|||1) uU vo ["below"] (Ft K T):=by
 obtain ⟨tM,hMOUTH⟩:=C.MOUTH;refine iR.F.ok FN ?_ ?_;walk_at "i";obtain ⟨a,r,rfl,hS,h64,tk,q⟩:=h;refine ⟨_,(aJ (aO (fP (ao nZ) rfl ["below"] rfl ["reach","below"] [none,some 0] (by decide+kernel) (by decide+kernel) (by decide+kernel) rfl (jm rfl B.range (aq (aC aA rfl B.len ad9 (aq (pv 0) ak)) ak)) (fun _ _ _=>(bA (i:=0) (show (["reach","below"]:List Str).Nodup by decide+kernel) rfl (Or.inl rfl))) (fun _ _ _=>(Ds (aP qC (aM (jM (K:=K) rfl) (pv 1) (pv 0) (fun _ _=>rfl)) (eV (v:=.int (-1)) rfl hMOUTH ⟨_,rfl⟩) (aX _)))) (fun _ _ _=>(pv 0))))),?_⟩;have O:=Ow.refl tk;have hml:(r.map V.int).length=r.length:=TX _;refine ⟨_,rfl,a,_,rfl,.inl hS,_,rfl,by rw [hml];omega,by rw [hml];omega,fun acc hacc=>?_⟩;rw [hml,aeb];refine yd (n:=r.length) (fun i τ H2=>∃ v,τ=[v,some (.ref a)]/\Ow T H H2 [(acc,.lst ((Rv.NZ r i).map V.int))]) ⟨none,rfl,O.mk' hacc rfl⟩ ?_ ?_
 ·rintro i τ H2 hi ⟨v,rfl,O⟩;rw [show (0:Int)+(i:Int)=(i:Int) by omega];have g:=Rv.jZ (r:=r) (p:=(i:Int)) (by omega) (by omega);have ol:=Rv.JD r i;refine ⟨_,rfl,_,rfl,a,_,_,_,rfl,rfl,O.same.seq hS,mK (by omega) g,rfl,_,rfl,?_⟩;by_cases hm:Rv.nxt r (i:Int)=-1
  ·rw [hm];refine Ce ?_;refine ⟨_,rfl,_,O.get 0,aG (by rw [TX];omega),?_⟩;walk_at "put";intro H4 O;exact ⟨_,rfl,by rw [Rv.Gm,if_pos hm,ad3];exact O⟩
  ·have hd:decide (V.int (Rv.nxt r (i:Int))=V.int (-1))=false:=by simp [hm]
   rw [hd];refine yC ?_;exact ⟨_,rfl,by rw [Rv.Gm,if_neg hm,afw];exact O⟩
 rintro τ H2 ⟨v,rfl,O⟩;exact O.ret 0 rfl q rfl
abbrev xg:Stmt:=top 30
theorem jC:aH ["below","springs","moves","flows","start","stop","amount","reach"] ["below","springs","moves"] (ao xg):=by walk_at "sc"
inductive Jj (K:PySem.W.Frag)(T:dY)(vs:List V)(H:Hp)(Q:VK)(E:XK):Prop
 | mk (a b c:Addr)(r s:List Int)(ms:List Rv.Mv)(_:vs=[.ref a,.ref b,.ref c])(_:aaK K H a r)(_:SqL K H b (s.map V.int))(_:s.length=r.length)(_:Den K H (.ref c) (adR ms))(_:(∀ m∈ms,Rv.adB r m))(_:TabsOk T H)(_:tX T H (fun xs=>xs=(Rv.acq r s ms).map V.int) Q)
variable {xQ:Addr}{xY:FuncData}(jH:Df K mg "flows_of" xg ["below","springs","moves"] xQ xY)
include cO cM mR mU jH in
theorem Rq:(CX0|||7) xQ xY ["below","springs","moves"] (Jj K T):=by
 refine jH.F.ok jC ?_ ?_;walk_at "i";obtain ⟨a,b,c,r,sp,ms,rfl,⟨hS,hR,h64⟩,hB,hl,hM,good,tk,q⟩:=h;refine ⟨_,(aD (3<$>jC<$>(cO<*mU<*(aq (pv 0) (aq (pv 1) ak))))
  (aD (cI aeh rfl (bF (pv 2)) (fZ rfl (aB (4>>jC) (aB (5>>jC) (aB (6>>jC) bH))))
   (aJ (cI aeh rfl (bF (cM<*mR<*(aq (pv 0) (aq (pv 4) (aq (pv 5) ak))))) (7>>jC)
    (aJ (uM (pv 3) (pv 7) oK (pv 6) OJ set_list)))))
  (aJ (aO (pv 3))))),?_⟩
 refine aaI ?_;intro zu0 zu1 zu2 zu3;obtain ⟨c',xs,ec,hq,hds⟩:=hM.Zz;cases ec;have hxl:xs.length=ms.length:=by rw [hds.length,TX]
 have O:=Ow.refl tk;refine ⟨_,rfl,_,rfl,a,b,r,sp,rfl,⟨hS,hR,h64⟩,hB,hl,tk,O.Bt fun lf H1 fs O e1=>?_⟩;subst e1;refine ⟨_,rfl,c,rfl,⟨_,O.same.seq hq⟩,?_⟩;refine dB (K:=K) (a:=c) (xs:=xs) (fun t σ H2=>∃ (v4 v5 v6 v7:Option V)(fl:List Int),σ=[some (.ref a),some (.ref b),some (.ref c),some (.ref lf),v4,v5,v6,v7]/\Ow T H H2 [(lf,.lst (fl.map V.int))]/\Rv.Fl r.length fl fun i=>Rv.vN r sp (i:Int) - Rv.RM r (ms.take t) (i:Int))
  ⟨none,none,none,none,_,rfl,O,(Rv.HN r sp).GD fun i _=>by show _=_ - (0:Int);omega⟩ (fun _ _ _ _ ⟨_,_,_,_,_,_,O,_⟩=>O.same.seq hq) ?_ ?_
 ·rintro t y σ H2 hy ⟨v4,v5,v6,v7,fl,rfl,O,FL⟩;obtain ⟨d,hd,hden⟩:=hds.get' hy;rw [ad5] at hd;obtain ⟨m,hm,rfl⟩:∃ m,ms[t]?=some m/\d=dMv m:=by
   cases e:ms[t]? with
   | none=>rw [e] at hd;cases hd
   | some m=>rw [e] at hd;exact ⟨m,rfl,(aek hd).symm⟩
  obtain ⟨ta,rfl,ht⟩:=hden.Ud;obtain ⟨g0,g1,g2⟩:=good m (ad1 hm);refine ⟨ta,_,rfl,O.same.acR ht,rfl,_,_,rfl,_,_,rfl,_,_,rfl,rfl,?_⟩;refine ⟨_,rfl,_,rfl,_,rfl,a,r,m.1,m.2.1,rfl,O.same.seq hS,hR,g0,g1,by omega,g2,O.got fun ls H3 zs O e3=>?_⟩;subst e3;refine ⟨ls,rfl,⟨_,O.sq 0⟩,?_⟩;refine dB (K:=K) (a:=ls) (xs:=(Rv.dZ r m.1 m.2.1).map V.int) (fun i σ H4=>∃ (v7:Option V)(fl:List Int),σ=[some (.ref a),some (.ref b),some (.ref c),some (.ref lf),some (.int m.1),some (.int m.2.1),some (.int m.2.2),v7] /\
   Ow T H H4 [(ls,.lst ((Rv.dZ r m.1 m.2.1).map V.int)),(lf,.lst (fl.map V.int))]/\Rv.MvI r (fun i=>Rv.vN r sp (i:Int) - Rv.RM r (ms.take t) (i:Int)) m.2.2 ((Rv.dZ r m.1 m.2.1).take i) fl)
   ⟨v7,fl,rfl,O,Rv.MvI.start _ FL⟩ (fun _ _ _ _ ⟨_,_,_,O,_⟩=>O.sq 0) ?_ ?_
  ·rintro i y σ H4 hy ⟨v7,fl,rfl,O,MI⟩;obtain ⟨z,hz,rfl⟩:=ints_get hy;obtain ⟨z0,z1⟩:=Rv.CT hR m.1 g0 g1 z (Rv.Fj (ad1 hz));obtain ⟨zn,rfl⟩:=aeo z0;have hzl:zn<r.length:=by omega
   obtain ⟨x,hx⟩:∃ x,fl[zn]?=some x:=⟨_,MI.at_ zn hzl⟩;have nd:=Rv.IK hR g0 g1 (b:=m.2.1);have nm:¬ ((zn:Nat):Int)∈(Rv.dZ r m.1 m.2.1).take i:=fun hmm=>by
    obtain ⟨h1,h2⟩:=acp.mp hz;obtain ⟨j,hj,ej⟩:=aew hmm;rw [afL] at ej;rw [aed] at hj;have:=(afb nd).mp (ej.trans h2.symm);omega
   refine ⟨_,rfl,_,rfl,lf,_,zn,V.int x,rfl,rfl,O.sq 1,by rw [ad5,hx];rfl,_,rfl,_,_,rfl,rfl,?_⟩;refine wu O 1 rfl (jr (by rw [TX,MI.len];exact hzl)) fun H5 O=>?_;refine ⟨_,fl.set zn (x - m.2.2),rfl,?_,?_⟩
   ·rw [aeW];exact O
   ·rw [aeA,hz];exact MI.turn hzl nm hx
  ·rintro σ H4 ⟨v7,fl,rfl,O,MI⟩;rw [TX,ae1] at MI;refine ⟨_,_,_,_,fl,rfl,O.tail,?_⟩;have e:ms.take (t+1)=ms.take t++[m]:=by rw [aeA,hm];rfl
   rw [e];exact MI.done
 ·rintro σ H2 ⟨v4,v5,v6,v7,fl,rfl,O,FL⟩;rw [hxl,ae1] at FL;exact ⟨_,rfl,O.ret 0 rfl q (by rw [Rv.Fl.ext FL (Rv.Py r sp ms)])⟩
def Di:Sp:=fun _ _ _ _=>False
abbrev oh:Stmt:=top 55
theorem Bj:aH ["below","roll","ponds","kept","let","place","reach","amount"] ["below","roll","ponds","kept","let"] (ao oh):=by walk_at "sc"
abbrev pW:Stmt:=top 54
theorem Dl:aH ["roll","pond","number","room","leak"] ["roll","pond"] (ao pW):=by walk_at "sc"
variable {oN:Addr}{oY:FuncData}(fC:Df K mg "look_at_let" oh ["below","roll","ponds","kept","let"] oN oY)
include fC in
theorem abd:(CX0|||1) oN oY ["below","roll","ponds","kept","let"] Di:=fC.F.ok Bj (fun _ _ _ _ h=>h.elim) (fun _ _ _ _ _ _ _ _ _ h=>h.elim)
variable {qK:Addr}{rE:FuncData}(gK:Df K mg "pond_start" pW ["roll","pond"] qK rE)
include gK in
theorem aa2:(CX0|||1) qK rE ["roll","pond"] Di:=gK.F.ok Dl (fun _ _ _ _ h=>h.elim) (fun _ _ _ _ _ _ _ _ _ h=>h.elim)
abbrev zN:Stmt:=top 56
theorem kY:aH ["below","roll","ponds","kept","lets","left","let","place","reach","amount"] ["below","roll","ponds","kept","lets"] (ao zN):=by walk_at "sc"
inductive aaD (K:PySem.W.Frag)(T:dY)(vs:List V)(H:Hp)(Q:VK)(E:XK):Prop
 | mk (v1 v2 v3:V)(d e:Addr)(ks:List Int)(_:vs=[v1,v2,v3,.ref d,.ref e])(_:SqL K H d (ks.map V.int))(_:SqL K H e [])(_:TabsOk T H)(_:tX T H (fun xs=>xs=ks.map V.int) Q)
variable (wO:(CX0|||1) oN oY ["below","roll","ponds","kept","let"] Di)
variable {Ad:Addr}{Ak:FuncData}(lX:Df K mg "let_out" zN ["below","roll","ponds","kept","lets"] Ad Ak)
include fC wO lX in
theorem ac5 (B:Blt mg):(CX0|||2) Ad Ak ["below","roll","ponds","kept","lets"] (aaD K T):=by
 refine lX.F.ok kY ?_ ?_;walk_at "i";obtain ⟨v1,v2,v3,d,e,ks,rfl,hD,hE,tk,q⟩:=h;refine ⟨_,(5<$>kY<$>(bR bx rfl B.list aes (pv 3>=>ak))<|>cI aeh rfl (bF (pv 4)) (6>>kY)
   (aU (fC<*wO<*(pv 0>=>pv 1>=>pv 2>=>pv 5>=>pv 6>=>ak))<|>iH (pv 6) (fZ rfl (aB (7>>kY) (aB (8>>kY) (aB (9>>kY) bH))))<|>(~~~(uM (pv 5) (pv 7) oK (pv 9) OJ set_list)))<|>(~~~(@aO _ _ _ _ (pv 5)))),?_⟩
 have O:=Ow.refl tk;refine ⟨_,rfl,d,_,rfl,.inl hD,fun l hl=>?_⟩;walk_at "nw";refine ⟨_,rfl,e,rfl,⟨_,O.same.seq hE⟩,?_⟩;refine dB (K:=K) (xs:=[]) (fun i σ H'=>Iv (∃ (v6 v7 v8 v9:Option V),σ=[some v1,some v2,some v3,some (.ref d),some (.ref e),some (.ref l),v6,v7,v8,v9]/\Ow T H H' [(l,.lst (ks.map V.int))])) ⟨trivial,none,none,none,none,rfl,O⟩ (fun i σ H' _ ⟨_,_,_,_,_,_,O⟩=>O.same.seq hE) ?_ ?_
 ·rintro i y σ H3 hy;cases hy
 rintro σ H3 ⟨-,v6,v7,v8,v9,rfl,O⟩;exact ⟨_,rfl,O.ret 0 rfl q rfl⟩
abbrev pZ:Stmt:=top 60
theorem vU:aH ["below","roll","ponds","kept","calls","lets","left"] ["below","roll","ponds","kept","calls","lets"] (ao pZ):=by walk_at "sc"
inductive Mj (K:PySem.W.Frag)(T:dY)(vs:List V)(H:Hp)(Q:VK)(E:XK):Prop
 | mk (v1 v2:V)(c d g e:Addr)(us:List V)(ps:List (Int × Int × Int))(ks cs:List Int)(_:vs=[v1,v2,.ref c,.ref d,.ref g,.ref e])(_:SqL K H c us)(_:bT K H us (ps.map dMv))(_:SqL K H d (ks.map V.int))(_:ps.length=ks.length)(_:SqL K H g (cs.map V.int))(_:(∀ p∈ps,0<=p.1/\p.1<(cs.length:Int)))(_:SqL K H e [])(_:TabsOk T H)(_:∀ (t la lb:Addr)(H':Hp),Ow T H H' [(t,.tup [.ref la,.ref lb]),(lb,.lst ((fQ cs ps ks ps.length).map V.int)),(la,.lst (ks.map V.int))]->Q (.ref t) H')
variable (G4:(CX0|||2) Ad Ak ["below","roll","ponds","kept","lets"] (aaD K T))
variable (yJ:(CX0|||1) qL rF ["roll","ponds","kept","calls"] (aaC K T))
variable {qO:Addr}{rH:FuncData}(cQ:Df K mg "morning_of" pZ ["below","roll","ponds","kept","calls","lets"] qO rH)
include gM lX G4 yJ cQ in
theorem Zr (B:Blt mg):(CX0|||3) qO rH ["below","roll","ponds","kept","calls","lets"] (Mj K T):=by
 refine cQ.F.ok vU ?_ ?_;walk_at "i";obtain ⟨v1,v2,c,d,g,e,us,ps,ks,cs,rfl,hC,d1,hD,hkl,hG,hrg,hE,tk,q⟩:=h;refine ⟨_,(6<$>vU<$>(lX<*G4<*(pv 0>=>pv 1>=>pv 2>=>pv 3>=>pv 5>=>ak))<|>(~~~(@aO _ _ _ _ (@f9 _ _ _ _ _ (pv 6>=>gM<*yJ<*(pv 1>=>pv 2>=>pv 6>=>pv 4>=>ak)>=>ak))))),?_⟩;have O:=Ow.refl tk;refine ⟨_,rfl,_,rfl,_,rfl,_,rfl,_,rfl,v1,v2,.ref c,d,e,ks,rfl,hD,hE,tk,O.Bt fun l1 H1 ys O e1=>?_⟩;subst e1;refine ⟨_,rfl,_,rfl,_,rfl,_,rfl,_,rfl,v2,c,l1,g,us,ps,ks,cs,rfl,O.same.seq hC,d1.mo O.same,O.sq 0,hkl,O.same.seq hG,hrg,O.same.t1,O.Bt fun l2 H2 ys O e2=>?_⟩;subst e2;refine ⟨szl,fun t ht=>?_⟩;walk_at "nw";exact q t l1 l2 _ O
theorem QT {γ:Type}{as:List α}{bs:List β}{x:α}{y:β}(g:α × β->γ)(hx:as[i]?=some x)(hy:bs[i]?=some y):((as.zip bs).take (i+1)).map g=((as.zip bs).take i).map g++[g (x,y)]:=by
 have e:(as.zip bs)[i]?=some (x,y):=by rw [afl];exact ⟨hx,hy⟩
 rw [aeA,e,ad3];rfl
def aal (ls:List Lic)(xs:List Int):List Rv.Mv:=(ls.zip xs).map fun p=>(p.1.start,p.1.back,p.2)
abbrev wZ:Stmt:=top 61
theorem cV:aH ["roll","ponds","takes","lets","moves","one","take","day","start","back","most","place","reach","amount"] ["roll","ponds","takes","lets"] (ao wZ):=by walk_at "sc"
inductive Tr (K:PySem.W.Frag)(T:dY)(vs:List V)(H:Hp)(Q:VK)(E:XK):Prop
 | mk (b d e:Addr)(c:V)(xs:List Int)(rs:List V)(ls:List Lic)(_:vs=[.ref b,c,.ref d,.ref e])(_:SqL K H b rs)(_:bT K H rs (ls.map Ig))(_:ls.length<=100)(_:SqL K H d (xs.map V.int))(_:xs.length=ls.length)(_:SqL K H e [])(_:TabsOk T H)(_:∀ (l:Addr)(H1 H':Hp)(vs:List V),aN T H H1->Ow T H1 H' [(l,.lst vs)]->bT K H1 vs ((aal ls xs).map dMv)->Q (.ref l) H')
variable (yI:(CX0|||1) qK rE ["roll","pond"] Di)
variable {xM:Addr}{xV:FuncData}(jF:Df K mg "moves_of" wZ ["roll","ponds","takes","lets"] xM xV)
include gK yI jF in
theorem aa5 (B:Blt mg):(CX0|||2) xM xV ["roll","ponds","takes","lets"] (Tr K T):=by
 refine jF.F.ok cV ?_ ?_
 walk_at "i"
 obtain ⟨b,d,e,c,xs,rs,ls,rfl,hB,d0,hl1,hD,hxl,hE,tk,q⟩:=h
 have hrl:rs.length=ls.length:=by rw [d0.length,TX]
 refine ⟨_,(4<$>cV<$>(@bU _ _ _ _ ak)<|>cI aeh rfl (qu rfl B.zip (pv 0>=>pv 2>=>ak)) (fZ rfl (aB (5>>cV) (aB (6>>cV) bH)))
   (iH (pv 5) (fZ rfl (aB (7>>cV) (aB (8>>cV) (aB (9>>cV) (aB (10>>cV) bH)))))<|>(~~~(aU (jy aea aef aeg aY (pv 4) (@f9 _ _ _ _ _ (pv 8>=>pv 9>=>pv 6>=>ak)>=>ak)))))<|>cI aeh rfl (bF (pv 3)) (fZ rfl (aB (11>>cV) (aB (12>>cV) (aB (13>>cV) bH))))
   (~~~(aU (jy aea aef aeg aY (pv 4) (@f9 _ _ _ _ _ (gK<*yI<*(pv 0>=>@aM _ _ _ _ _ _ _ aF (pv 1) (pv 11) (fun _ _=>rfl)>=>ak)>=>pv 12>=>@vZ _ _ _ _ _ _ mj (pv 13)>=>ak)>=>ak))))<|>(~~~(@aO _ _ _ _ (pv 4)))),?_⟩
 have O:=Ow.refl tk
 refine ⟨szl,fun lm hlm=>?_⟩
 walk_at "nw"
 refine ⟨_,rfl,_,rfl,b,d,_,_,rfl,O.same.seq hB,O.same.seq hD,?_⟩
 refine uR (K:=K) (fun i σ H'=>Iv (∃ (v5 v6 v7 v8 v9 v10:Option V)(Hb:Hp)(vs:List V),σ=[some (.ref b),some c,some (.ref d),some (.ref e),some (.ref lm),v5,v6,v7,v8,v9,v10,none,none,none]/\aN T H Hb/\bT K Hb vs (((ls.zip xs).take i).map fun p=>dMv (p.1.start,p.1.back,p.2))/\Ow T Hb H' [(lm,.lst vs)]))
  (by rw [TX];omega) ⟨trivial,none,none,none,none,none,none,H,[],rfl,aN.refl tk,.nil,O⟩ (fun _ _ _ _ ⟨_,_,_,_,_,_,_,_,_,_,sb,_,O⟩=>⟨(sb.trans O.same).seq hB,(sb.trans O.same).seq hD⟩) ?_ ?_
 ·rintro i x y t' σ H3 hx hy ⟨-,v5,v6,v7,v8,v9,v10,Hb,vs,rfl,sb,dv,O⟩ ht'
  obtain ⟨al,l,rfl,hl,hT⟩:=d0.qD hx
  obtain ⟨u,hu,rfl⟩:=ints_get hy
  have hi:=(acp.mp hl).1
  have hvl:vs.length<=i:=by rw [dv.length,TX,aed];omega
  walk_at "nw"
  refine ⟨t',_,rfl,O.sqT 0,rfl,_,_,rfl,_,_,rfl,rfl,?_⟩
  have O:=O.tail
  refine ⟨_,rfl,al,_,rfl,(hT.mo sb).mo O.same,rfl,_,_,rfl,_,_,rfl,_,_,rfl,_,_,rfl,rfl,?_⟩
  refine ⟨_,rfl,.inl ⟨rfl,_,O.sq 0⟩,_,rfl,_,rfl,_,rfl,szl,fun t ht=>?_⟩
  walk_at "nw"
  refine ⟨lm,_,_,rfl,rfl,O.get 1,aG (by omega),?_⟩
  walk_at "pt"
  obtain ⟨Hc,O,sc,en⟩:=O.frz
  refine ⟨trivial,_,_,_,_,_,_,Hc,vs++[.ref t],rfl,sb.trans sc,?_,O⟩
  rw [QT (fun p=>dMv (p.1.start,p.1.back,p.2)) hl hu]
  exact (dv.mo sc).append (.cons (Den.mv (m:=(l.start,l.back,u)) (SqT.of en)) .nil)
 rintro σ H3 ⟨-,v5,v6,v7,v8,v9,v10,Hb,vs,rfl,sb,dv,O⟩
 rw [ad8 (by rw [List.length_zip];omega)] at dv
 refine ⟨_,rfl,e,rfl,⟨_,(sb.trans O.same).seq hE⟩,?_⟩
 refine dB (K:=K) (xs:=[]) (fun i σ H'=>Iv (∃ (v11 v12 v13:Option V),σ=[some (.ref b),some c,some (.ref d),some (.ref e),some (.ref lm),v5,v6,v7,v8,v9,v10,v11,v12,v13]/\Ow T Hb H' [(lm,.lst vs)]))
  ⟨trivial,none,none,none,rfl,O⟩ (fun _ _ _ _ ⟨_,_,_,_,_,O⟩=>(sb.trans O.same).seq hE) ?_ ?_
 ·rintro i y σ H4 hy
  cases hy
 rintro σ H4 ⟨-,v11,v12,v13,rfl,O⟩
 refine ⟨_,rfl,q lm Hb H4 vs sb O ?_⟩
 unfold aal;rw [aft];exact dv
def Ay (x:Str):Prop:=1<=x.cps.size/\x.cps.size<=8/\∀ c∈x.cps.toList,97<=c/\c<=122
def Asc (x:Str):Prop:=x.cps.all (·<128)=true/\x.cps.size<=1000
theorem KZ:∀ c:Nat,c<128->(!(Builtin.Str.occurrences ("abcdefghijklmnopqrstuvwxyz":Str) ⟨#[c]⟩ 0 ("abcdefghijklmnopqrstuvwxyz":Str).length 1).isEmpty)=decide (97<=c/\c<=122):=by
 have h:∀ k:Fin 128,(!(Builtin.Str.occurrences ("abcdefghijklmnopqrstuvwxyz":Str) ⟨#[k.val]⟩ 0 ("abcdefghijklmnopqrstuvwxyz":Str).length 1).isEmpty)=decide (97<=k.val/\k.val<=122):=by decide+kernel
 exact fun c hc=>h ⟨c,hc⟩
abbrev vW:Stmt:=top 6
theorem Kw:aH ["text"] ["text"] (ao vW):=by walk_at "sc"
inductive Fv (T:dY)(vs:List V)(H:Hp)(Q:VK)(E:XK):Prop
 | mk (x:Str)(_:vs=[.str x])(_:Asc x)(_:TabsOk T H)(_:∀ (b:Bool) H',(b=true↔Ay x)->aN T H H'->Q (.bl b) H')
structure CN (mg:Str->Option Value):Prop where
 LONGEST_NAME:∃ t,mg "LONGEST_NAME"=some (.int 8 t)
 LETTERS:∃ t,mg "LETTERS"=some (.str "abcdefghijklmnopqrstuvwxyz" t)
variable {Ae:Addr}{Al:FuncData}(lY:Df K mg "is_name" vW ["text"] Ae Al)
include lY in
theorem Nx (B:Blt mg)(CN:CN mg):(CX0|||1) Ae Al ["text"] (Fv T):=by
 obtain ⟨tM,DW⟩:=CN.LONGEST_NAME;obtain ⟨tL,hLETTERS⟩:=CN.LETTERS;refine lY.F.ok Kw ?_ ?_;walk_at "i";obtain ⟨x,rfl,⟨ha,hx⟩,tk,q⟩:=h;have hu:=hr.units;have O:=Ow.refl tk;refine ⟨_,(~~~(@aO _ _ _ _ (Uc (Dv xu xu au (aC GJ rfl B.len ad9 (pv 0>=>ak)) (eV (v:=.int (8)) rfl DW ⟨_,rfl⟩)) (Nk (aC (tG rfl) rfl B.all afj (fP (ao vW) rfl ["text"] rfl ["sign"] [none] (by decide+kernel) (by decide+kernel) (by decide+kernel) rfl (aaR (pv 0)) (fun _ _ _=>(bA (i:=0) (show (["sign"]:List Str).Nodup by decide+kernel) rfl (Or.inl rfl))) (fun _ _ _=>dJ) (fun _ _ _=>(qy Nt (pv 0) (eV (v:=.str "abcdefghijklmnopqrstuvwxyz") rfl hLETTERS ⟨_,rfl⟩) (by rfl)))>=>ak)))))),?_⟩;have hl:x.length=x.cps.size:=rfl;refine ⟨_,rfl,x,rfl,(by rw [hl,sizeLine_eq];omega),_,_,rfl,rfl,?_⟩;refine ⟨_,rfl,?_⟩;refine ifD (fun h1=>?_) (fun h1=>?_);rotate_left
 ·exact ⟨_,rfl,yC (q _ _ ⟨(fun z=>nomatch z),fun z=>absurd z.1 (by omega)⟩ O.same)⟩
 refine ⟨_,_,rfl,rfl,_,rfl,?_⟩;refine ifD (fun h2=>?_) (fun h2=>?_);rotate_left
 ·exact q _ _ ⟨(fun z=>nomatch z),fun z=>absurd z.2.1 (by omega)⟩ O.same
 refine ⟨_,rfl,x,rfl,ha,fun lw hlw=>?_⟩;refine SQ (fun i τ H'=>Iv (∃ (v0:Option V)(bs:List Bool),τ=[v0]/\bs.length=i/\(bs.all id=true↔∀ c∈x.cps.toList.take i,97<=c/\c<=122)/\Ow T H H' [(lw,.lst (bs.map V.bl))])) ⟨trivial,none,[],rfl,rfl,⟨(fun _ c hc=>nomatch hc),fun _=>rfl⟩,O.mk' hlw rfl⟩ ?_ ?_
 ·rintro i c τ H4 hc ⟨-,v0,bs,rfl,hbl,hb,O⟩;have hi:i<x.cps.size:=by
   rcases Nat.lt_or_ge i x.cps.size with h| h
   ·exact h
   ·rw [Array.getElem?_eq_none h] at hc;cases hc
  have hm:x.cps.toList[i]?=some c:=by rw [Array.getElem?_toList];exact hc
  have hc128:c<128:=by
   have:=Array.all_eq_true.mp ha i hi;rw [Array.getElem?_eq_getElem hi] at hc;cases hc;exact of_decide_eq_true this
  refine Hf ?_;refine ⟨_,rfl,_,_,rfl,rfl,?_⟩;rw [KZ c hc128];refine ⟨_,O.get 0,aG (by rw [TX];omega),?_⟩;walk_at "pt";refine ⟨trivial,_,bs++[decide (97<=c/\c<=122)],rfl,by rw [ad7,hbl];rfl,?_,?_⟩
  ·rw [Tn.bZ hm,List.all_append,aev,hb];constructor
   ·rintro ⟨z1,z2⟩ y hy;rcases aem.mp hy with h| h
    ·exact z1 y h
    ·rw [aeD.mp h];simpa using z2
   ·intro z;exact ⟨fun y hy=>z y (aeL _ hy),by simpa using z c (ad4 _ (aeD.mpr rfl))⟩
  ·rw [ad3];exact O
 rintro τ H4 ⟨-,v0,bs,rfl,hbl,hb,O⟩;refine ⟨lw,_,rfl,O.sq 0,?_⟩;rw [show x.cps.size=x.cps.toList.length by simp,ae1] at hb;exact q _ _ ⟨fun z=>⟨by omega,by omega,hb.mp z⟩,fun z=>hb.mpr z.2.2⟩ O.same
abbrev m7:Stmt:=top 66
theorem zJ:aH ["name"] ["name"] (ao m7):=by walk_at "sc"
inductive zH (T:dY)(cH:Addr)(vs:List V)(H:Hp)(Q:VK)(E:XK):Prop
 | mk (x:Str)(_:vs=[.str x])(_:Asc x)(_:TabsOk T H)(_:(Ay x->∀ H',aN T H H'->Q .non H'))(_:(¬ Ay x->∀ (e:Addr)(H':Hp),aN T H H'->H' e=none->E (.ref cH) (some e) H'))
variable (G5:(CX0|||1) Ae Al ["text"] (Fv T))
variable {m9:Addr}{nq:FuncData}(dI:Df K mg "look_at_name" m7 ["name"] m9 nq)
include lY G5 dI in
theorem HB (tK:Eu K mg "NoHolder" cH):((CXE P w)|||2) m9 nq ["name"] (zH T cH):=by
 refine dI.F.okX zJ ?_ ?_
 walk_at "i"
 obtain ⟨x,rfl,ax,tk,q,qx⟩:=h
 refine ⟨_,(~~~(@dw _ _ _ _ _ _ _ _ (lE (jA (lY<*G5<*(pv 0>=>ak))))
   (~~~(iJ jD rfl (fun _ _ z=>z) rfl tK.m tK.q (jo>=>ak)))
   bf)),?_⟩
 refine ⟨_,rfl,x,rfl,ax,tk,fun b H1 hb s1=>?_⟩
 cases b with
 | true=>exact ⟨_,rfl,yC (q (hb.mp rfl) _ s1)⟩
 | false=>exact ⟨_,rfl,Ce ⟨szl,fun e he=>qx (fun z=>nomatch hb.mpr z) e _ s1 he⟩⟩
structure Rs where
 p:Addr
 dx:Addr
 lb:Addr
 ll:Addr
 ln:Addr
 lo:Addr
abbrev ZM (C:Addr)(A:Rs)(ex:List (Str × V))(day:Int):HO:=.ins C A.dx (("below",.ref A.lb)::("day",.int day)::("licences",.ref A.ll)::("names",.ref A.ln)::("done",.ref A.lo)::ex)
abbrev RX (C:Addr)(A:Rs)(ex:List (Str × V))(r:List Int)(day:Int)(us:List V)(ns:List Str)(ds:List V):List (Addr × HO):=
 [(A.p,ZM C A ex day),(A.dx,.own A.p),(A.lb,.lst (r.map V.int)),(A.ll,.lst us),(A.ln,.lst (ns.map V.str)),(A.lo,.lst ds)]
structure RC (K:PySem.W.Frag)(C:Addr):Prop where
 c:Cls K C
 nB:jx K C "below"
 nD:jx K C "day"
 nL:jx K C "licences"
 nN:jx K C "names"
 nO:jx K C "done"
theorem aaP (A:Rs)(ex:List (Str × V))(day:Int)(z:V):Ey "day" z (("below",.ref A.lb)::("day",.int day)::("licences",.ref A.ll)::("names",.ref A.ln)::("done",.ref A.lo)::ex)=((("below",.ref A.lb)::("day",z)::("licences",.ref A.ll)::("names",.ref A.ln)::("done",.ref A.lo)::ex):List (Str × V)):=rfl
inductive QM
 | turn
 | file (x:Str) (s m b:Int)
 | sell (n:Int) (y z:Str)
 | part (n:Int) (y:Str) (m:Int) (z:Str)
 | drop (n:Int) (y:Str)
 | move (n:Int) (y:Str) (s:Int)
 | lapse (xs:List Int)
def adx:QM->PyData
 | .turn=>.tuple [.str "turn"]
 | .file x s m b=>.tuple [.str "file",.str x,.int s,.int m,.int b]
 | .sell n y z=>.tuple [.str "sell",.int n,.str y,.str z]
 | .part n y m z=>.tuple [.str "part",.int n,.str y,.int m,.str z]
 | .drop n y=>.tuple [.str "drop",.int n,.str y]
 | .move n y s=>.tuple [.str "move",.int n,.str y,.int s]
 | .lapse xs=>.tuple [.str "lapse",.tuple (xs.map PyData.int)]
structure RS where
 day:Int
 ls:List Lic
 ns:List Str
 ds:List QM
inductive EK
 | number| yours| holder| licence| much| alone| full| Gb
structure Ec where
 number:Addr
 yours:Addr
 holder:Addr
 licence:Addr
 much:Addr
 alone:Addr
 full:Addr
 Gb:Addr
def Ec.at_ (c:Ec):EK->Addr
 | .number=>c.number| .yours=>c.yours| .holder=>c.holder| .licence=>c.licence| .much=>c.much| .alone=>c.alone| .full=>c.full| .Gb=>c.Gb
def wm (l:Lic)(m:Int):Lic:=⟨l.day,l.start,l.back,m⟩
def wst (l:Lic)(s:Int):Lic:=⟨l.day,s,l.back,l.most⟩
def Te (ls:List Lic)(d:Int):Nat->List Int
 | 0=>[]
 | i+1=>Te ls d i++(match ls[i]? with| some l=>if l.day=d/\0<l.most then [(i:Int)] else [] | none=>[])
def fJ (ls:List Lic)(xs:List Int):List Lic:=List.zipWith (fun l x=>wm l (min l.most x)) ls xs
def RS.at_ (S:RS)(n:Int):Lic:=S.ls.getD n.toNat ⟨0,0,0,0⟩
open Classical in
noncomputable def RS.K9 (S:RS)(n:Int)(y:Str)(k:Except EK RS):Except EK RS:=
 if ¬ (0<=n/\n<S.ls.length) then .error .number else if S.ns[n.toNat]?≠some y then .error .yours else k
open Classical in
noncomputable def step (r:List Int)(S:RS):QM->Except EK RS
 | .turn=>.ok ⟨S.day+1,S.ls,S.ns,S.ds++[.turn]⟩
 | .file x s m b=>if ¬ Ay x then .error .holder else if m=0\/¬ yg r ⟨S.day,s,b,m⟩ then .error .licence else if 60<=S.ls.length then .error .full else
   .ok ⟨S.day,S.ls++[⟨S.day,s,b,m⟩],S.ns++[x],S.ds++[.file x s m b]⟩
 | .sell n y z=>S.K9 n y (if ¬ Ay z then .error .holder else .ok ⟨S.day,S.ls,S.ns.set n.toNat z,S.ds++[.sell n y z]⟩)
 | .part n y m z=>S.K9 n y (if ¬ Ay z then .error .holder else if ¬ (1<=m/\m<(S.at_ n).most) then .error .much else if Te S.ls (S.at_ n).day S.ls.length≠[n] then .error .alone else if 60<=S.ls.length then .error .full else
   .ok ⟨S.day,S.ls.set n.toNat (wm (S.at_ n) ((S.at_ n).most - m))++[wm (S.at_ n) m],S.ns++[z],S.ds++[.part n y m z]⟩)
 | .drop n y=>S.K9 n y (.ok ⟨S.day,S.ls.set n.toNat (wm (S.at_ n) 0),S.ns,S.ds++[.drop n y]⟩)
 | .move n y s=>S.K9 n y (if ¬ yg r (wst (S.at_ n) s) then .error .licence else .ok ⟨S.day,S.ls.set n.toNat (wst (S.at_ n) s),S.ns,S.ds++[.move n y s]⟩)
 | .lapse xs=>if xs.length≠S.ls.length then .error .number else if ¬ ∀ x∈xs,0<=x/\x<=1000000000000 then .error .much else
   .ok ⟨S.day,fJ S.ls xs,S.ns,S.ds++[.lapse xs]⟩
inductive RA (K:PySem.W.Frag)(T:dY)(C:Addr)(A:Rs)(ex:List (Str × V))(r:List Int)(H0 H:Hp)(B:List (Addr × HO))(S:RS):Prop
 | mk (us vs:List V)(_:Ow T H0 H (RX C A ex r S.day us S.ns vs++B))(_:bT K H0 us (S.ls.map Ig))(_:bT K H0 vs (S.ds.map adx))
structure adC (ex:List (Str × V)):Prop where
 num:ex.lookup ("look_at_number":Str)=none
 hol:ex.lookup ("look_at_holder":Str)=none
 room:ex.lookup ("look_at_room":Str)=none
 ent:ex.lookup ("enter":Str)=none
 al:ex.lookup ("is_alone":Str)=none
 lmv:ex.lookup ("look_move":Str)=none
 lp:ex.lookup ("lapse":Str)=none
 tn:ex.lookup ("turn":Str)=none
 rl:ex.lookup ("roll":Str)=none
 hs:ex.lookup ("holders":Str)=none
 de:ex.lookup ("deeds":Str)=none
 td:ex.lookup ("today":Str)=none
 fi:ex.lookup ("file":Str)=none
 se:ex.lookup ("sell":Str)=none
 pa:ex.lookup ("part":Str)=none
 dr:ex.lookup ("drop":Str)=none
 mv:ex.lookup ("move":Str)=none
structure RP (r:List Int)(ex:List (Str × V))(S:RS):Prop where
 rv:Rv.iB r
 r40:r.length<=40
 nn:S.ns.length=S.ls.length
 l60:S.ls.length<=60
 dl:S.ds.length<=9000
 e9:ex.length<=100
 ex:adC ex
def After (K:PySem.W.Frag)(T:dY)(C:Addr)(c:Ec)(A:Rs)(ex:List (Str × V))(r:List Int)(H0 H:Hp)(B:List (Addr × HO))(S:RS)(d:QM)(v:V)(Q:VK)(E:XK):Prop:=
 (∀ S',step r S d=.ok S'->∀ Hb H',aN T H0 Hb->RA K T C A ex r Hb H' B S'->Q v H')/\(∀ k,step r S d=.error k->∀ (e:Addr)(H':Hp),aN T H H'->H' e=none->E (.ref (c.at_ k)) (some e) H')
inductive Mf (K:PySem.W.Frag)(C:Addr)(y:Str)(vs:List V)(H:Hp)(Q:VK)(E:XK):Prop
 | mk (p dx l:Addr)(fs:List (Str × V))(us:List V)(_:vs=[.ref p])(_:H p=some (.ins C dx fs))(_:fs.lookup y=some (.ref l))(_:SqL K H l us)(_:∀ l',H l'=none->Q (.ref l') (upd H l' (.lst us)))
abbrev uJ:Stmt:=inClass (top 67) 2
theorem FT:aH ["self"] ["self"] (ao uJ):=by walk_at "sc"
variable {vd:Addr}{vG:FuncData}(aW:Dm K C "roll" "Roll.roll" uJ ["self"] vd vG)
include aW in
theorem Ry (B:Blt mg)(R:RC K C):(CX0|||1) vd vG ["self"] (Mf K C "licences"):=by
 refine aW.F.ok FT ?_ ?_;walk_at "i";obtain ⟨p,dx,l,fs,us,rfl,hp,hf,hl,q⟩:=h;refine ⟨_,(aJ (aO (bR bx rfl B.list aes (aq (bJ (pv 0) rfl) ak)))),?_⟩;exact ⟨_,rfl,p,C,dx,fs,.ref l,rfl,hp,R.c,R.nL,hf,l,us,rfl,.inl hl,q⟩
abbrev uI:Stmt:=inClass (top 67) 5
theorem FQ:aH ["self"] ["self"] (ao uI):=by walk_at "sc"
inductive LQ (K:PySem.W.Frag)(T:dY)(C:Addr)(c:Ec)(vs:List V)(H:Hp)(Q:VK)(E:XK):Prop
 | mk (A:Rs)(ex:List (Str × V))(H0:Hp)(B:List (Addr × HO))(r:List Int)(S:RS)(_:vs=[.ref A.p])(_:RA K T C A ex r H0 H B S)(_:RP r ex S)(_:After K T C c A ex r H0 H B S .turn .non Q E)
variable {u9:Addr}{vD:FuncData}(cG:Dm K C "turn" "Roll.turn" uI ["self"] u9 vD)
include cG in
theorem Rw (R:RC K C):(CX0|||1) u9 vD ["self"] (LQ K T C c):=by
 refine cG.F.ok FQ ?_ ?_;walk_at "i";obtain ⟨A,ex,H0,L,r,S,rfl,⟨us,vs,O,d0,d1⟩,hp,q,-⟩:=h;have hvl:vs.length=S.ds.length:=by rw [d1.length,TX]
 have hdl:=hp.dl;have hel:=hp.e9;refine ⟨_,(aD (Nb (pv 0) au abD)
  (aJ (aU (jy aea aef aeg aY (bJ (pv 0) rfl) (aq (f9 (aq jo ak)) ak))))),?_⟩
 refine acI ?_;intro zu0;simp only [List.cons_append,List.nil_append] at O;refine ⟨_,rfl,A.p,C,A.dx,_,_,rfl,O.get 0,R.c,R.nD,rfl,_,_,rfl,rfl,A.dx,_,O.get 0,(by simp only [ael];omega),?_⟩;rw [aaP];walk_at "pt";refine ⟨_,rfl,A.p,C,A.dx,_,.ref A.lo,rfl,O.get 0,R.c,R.nO,rfl,.inl ⟨rfl,_,O.sq 5⟩,szl,fun t ht=>?_⟩;walk_at "nw";refine ⟨A.lo,_,_,rfl,rfl,O.get 6,aG (by omega),?_⟩;walk_at "pt";obtain ⟨Hb,O,sb,e1⟩:=O.frz;refine q _ rfl Hb _ sb ⟨us,vs++[V.ref t],O,d0.mo sb,?_⟩;rw [ad3];exact (d1.mo sb).append (.cons (.tuple (SqT.of e1) (.cons (.str _) .nil)) .nil)
abbrev qp:Stmt:=inClass (top 67) 13
theorem Dq:aH ["self","one","holder"] ["self","one","holder"] (ao qp):=by walk_at "sc"
inductive Jk (C:Addr)(vs:List V)(H:Hp)(Q:VK)(E:XK):Prop
 | mk (A:Rs)(ex:List (Str × V))(day:Int)(us:List V)(ns:List V)(v x:V)(_:vs=[.ref A.p,v,x])(_:H A.p=some (ZM C A ex day))(_:H A.ll=some (.lst us))(_:H A.ln=some (.lst ns))(_:us.length<=900)(_:ns.length<=900)(_:A.p≠A.ll)(_:A.p≠A.ln)(_:A.ln≠A.ll)(_:Q (.int us.length) (upd (upd H A.ll (.lst (us++[v]))) A.ln (.lst (ns++[x]))))
variable {rA:Addr}{rW:FuncData}(eE:Dm K C "enter" "Roll.enter" qp ["self","one","holder"] rA rW)
include eE in
theorem NK (B:Blt mg)(R:RC K C):(CX0|||1) rA rW ["self","one","holder"] (Jk C):=by
 refine eE.F.ok Dq ?_ ?_;walk_at "i";obtain ⟨A,ex,day,us,ns,v,x,rfl,hp,hl,hn,ul,nl,n1,n2,n3,q⟩:=h;refine ⟨_,(aD (aU (jy aea aef aeg aY (bJ (pv 0) rfl) (aq (pv 1) ak)))
  (aD (aU (jy aea aef aeg aY (bJ (pv 0) rfl) (aq (pv 2) ak)))
  (aJ (aO (bB wz (aC aA rfl B.len ad9 (aq (bJ (pv 0) rfl) ak)) au))))),?_⟩
 refine aaH ?_;intro zu0 zu1;refine ⟨_,rfl,A.p,C,A.dx,_,.ref A.ll,rfl,hp,R.c,R.nL,rfl,.inl ⟨rfl,_,SqL.of hl⟩,_,rfl,A.ll,_,_,rfl,rfl,hl,aG (by omega),?_⟩;have hp:=(aL (H:=H) (o:=.lst (us++[v])) n1).trans hp;have hn:=(aL (H:=H) (o:=.lst (us++[v])) n3).trans hn;have hl:upd H A.ll (.lst (us++[v])) A.ll=some (.lst (us++[v])):=aR;refine ⟨_,rfl,A.p,C,A.dx,_,.ref A.ln,rfl,hp,R.c,R.nN,rfl,.inl ⟨rfl,_,SqL.of hn⟩,_,rfl,A.ln,_,_,rfl,rfl,hn,aG (by omega),?_⟩;have hp:=(aL (o:=.lst (ns++[x])) n2).trans hp;have hl:=(aL (o:=.lst (ns++[x])) n3.symm).trans hl;refine ⟨_,rfl,A.p,C,A.dx,_,.ref A.ll,rfl,hp,R.c,R.nL,rfl,A.ll,_,rfl,.inl (SqL.of hl),_,_,rfl,rfl,?_⟩;dsimp only;rw [show (((us++[v]).length:Nat):Int) - 1=(us.length:Int) by rw [ad7];simp];exact q
abbrev iK:Stmt:=inClass (top 67) 17
theorem tU:aH ["self"] ["self"] (ao iK):=by walk_at "sc"
inductive Ma (K:PySem.W.Frag)(T:dY)(C cF:Addr)(vs:List V)(H:Hp)(Q:VK)(E:XK):Prop
 | mk (A:Rs)(ex:List (Str × V))(day:Int)(us:List V)(_:vs=[.ref A.p])(_:H A.p=some (ZM C A ex day))(_:SqL K H A.ll us)(_:TabsOk T H)(_:(us.length<60->Q .non H))(_:(60<=us.length->∀ (e:Addr)(H':Hp),aN T H H'->H' e=none->E (.ref cF) (some e) H'))
variable {iM:Addr}{iQ:FuncData}(bC:Dm K C "look_at_room" "Roll.look_at_room" iK ["self"] iM iQ)
include bC in
theorem Rx (B:Blt mg)(R:RC K C)(J6:Eu K mg "Full" cF)(CL:∃ t,mg "MOST_LICENCES"=some (.int 60 t)):((CXE P w)|||1) iM iQ ["self"] (Ma K T C cF):=by
 obtain ⟨tL,Bs⟩:=CL
 refine bC.F.okX tU ?_ ?_
 walk_at "i"
 obtain ⟨A,ex,day,us,rfl,hp,hl,tk,q,qx⟩:=h
 refine ⟨_,(~~~(@dw _ _ _ _ _ _ _ _ (aP aaY (aC aA rfl B.len ad9 (bJ (pv 0) rfl>=>ak)) (eV (v:=.int (60)) rfl Bs ⟨_,rfl⟩) (aX _))
   (~~~(iJ jD rfl (fun _ _ z=>z) rfl J6.m J6.q (jo>=>ak)))
   bf)),?_⟩
 refine ⟨_,rfl,A.p,C,A.dx,_,.ref A.ll,rfl,hp,R.c,R.nL,rfl,A.ll,_,rfl,.inl hl,_,_,rfl,rfl,_,rfl,ifD (fun h=>?_) (fun h=>?_)⟩
 ·have h:(60:Int)<=(us.length:Int):=h
  exact ⟨szl,fun e he=>qx (by omega) e H (aN.refl tk) he⟩
 ·have h:¬ (60:Int)<=(us.length:Int):=h
  exact q (by omega)
abbrev gA:Stmt:=inClass (top 67) 15
theorem pK:aH ["self","number"] ["self","number"] (ao gA):=by walk_at "sc"
inductive BP (K:PySem.W.Frag)(T:dY)(C cN:Addr)(vs:List V)(H:Hp)(Q:VK)(E:XK):Prop
 | mk (A:Rs)(ex:List (Str × V))(day:Int)(us:List V)(n:Int)(_:vs=[.ref A.p,.int n])(_:H A.p=some (ZM C A ex day))(_:SqL K H A.ll us)(_:TabsOk T H)(_:(0<=n->n<us.length->Q .non H))(_:(¬ (0<=n/\n<us.length)->∀ (e:Addr)(H':Hp),aN T H H'->H' e=none->E (.ref cN) (some e) H'))
variable {gC:Addr}{gF:FuncData}(aZ:Dm K C "look_at_number" "Roll.look_at_number" gA ["self","number"] gC gF)
include aZ in
theorem HD (B:Blt mg)(R:RC K C)(iY:Eu K mg "NoNumber" cN):((CXE P w)|||1) gC gF ["self","number"] (BP K T C cN):=by
 refine aZ.F.okX pK ?_ ?_
 walk_at "i"
 obtain ⟨A,ex,day,us,n,rfl,hp,hl,tk,q,qx⟩:=h
 refine ⟨_,(~~~(@dw _ _ _ _ _ _ _ _ (lE (vY xu uP au (pv 1) (aC aA rfl B.len ad9 (bJ (pv 0) rfl>=>ak))))
   (~~~(iJ jD rfl (fun _ _ z=>z) rfl iY.m iY.q (jo>=>ak)))
   bf)),?_⟩
 refine ⟨_,rfl,_,_,rfl,rfl,_,rfl,ifD (fun h1=>?_) (fun h1=>?_)⟩
 rotate_left
 ·refine ⟨_,rfl,Ce ⟨szl,fun e he=>qx (fun z=>h1 z.1) e H (aN.refl tk) he⟩⟩
 refine ⟨_,rfl,A.p,C,A.dx,_,.ref A.ll,rfl,hp,R.c,R.nL,rfl,A.ll,_,rfl,.inl hl,_,_,rfl,rfl,_,rfl,ifN (ifD (fun h2=>?_) (fun h2=>?_))⟩
 ·exact q h1 h2
 ·exact ⟨szl,fun e he=>qx (fun z=>h2 z.2) e H (aN.refl tk) he⟩
abbrev gB:Stmt:=inClass (top 67) 16
theorem pL:aH ["self","number","holder"] ["self","number","holder"] (ao gB):=by walk_at "sc"
inductive BR (K:PySem.W.Frag)(T:dY)(C cN cY:Addr)(vs:List V)(H:Hp)(Q:VK)(E:XK):Prop
 | mk (A:Rs)(ex:List (Str × V))(day:Int)(us:List V)(ns:List Str)(n:Int)(y:Str)(_:vs=[.ref A.p,.int n,.str y])(_:H A.p=some (ZM C A ex day))(_:SqL K H A.ll us)(_:SqL K H A.ln (ns.map V.str))(_:us.length=ns.length)(_:adC ex)(_:TabsOk T H)(_:(0<=n->n<ns.length->ns[n.toNat]?=some y->Q .non H))(_:(¬ (0<=n/\n<ns.length)->∀ (e:Addr)(H':Hp),aN T H H'->H' e=none->E (.ref cN) (some e) H'))(_:(0<=n->n<ns.length->ns[n.toNat]?≠some y->∀ (e:Addr)(H':Hp),aN T H H'->H' e=none->E (.ref cY) (some e) H'))
variable (bG:RC K C)
variable (jT:((CXE P w)|||1) gC gF ["self","number"] (BP K T C cN))
variable {gD:Addr}{gG:FuncData}(aK:Dm K C "look_at_holder" "Roll.look_at_holder" gB ["self","number","holder"] gD gG)
include aZ bG jT aK in
theorem HF (B:Blt mg)(tH:Eu K mg "NotYours" cY):
  ((CXE P w)|||2) gD gG ["self","number","holder"] (BR K T C cN cY):=by
 have R:=bG
 refine aK.F.okX pL ?_ ?_
 walk_at "i"
 obtain ⟨A,ex,day,us,ns,n,y,rfl,hp,hl,hn,hul,hex,tk,q,qN,qY⟩:=h
 refine ⟨_,(aU (jY (pv 0) bG.c aZ.m jT hr.m aZ.b .nil Gh (pv 1>=>ak))<|>(~~~(@dw _ _ _ _ _ _ _ _ (aP zc (@aM _ _ _ _ _ _ _ aF (bJ (pv 0) rfl) (pv 1) (fun _ _=>rfl)) (pv 2) (aX _))
   (~~~(iJ jD rfl (fun _ _ z=>z) rfl tH.m tH.q (jo>=>ak)))
   bf))),?_⟩
 refine ⟨_,rfl,A.p,A.dx,_,rfl,hp,hex.num,_,rfl,A,ex,day,us,n,rfl,hp,hl,tk,fun h0 h1=>?_,fun h=>qN (fun z=>h (by omega))⟩
 obtain ⟨k,rfl⟩:=aeo h0
 obtain ⟨x,hx⟩:∃ x,ns[k]?=some x:=⟨_,adW (by omega)⟩
 refine ⟨_,rfl,A.p,C,A.dx,_,.ref A.ln,rfl,hp,R.c,R.nN,rfl,_,rfl,A.ln,_,_,_,rfl,rfl,hn,dN (show (ns.map V.str)[k]?=some (.str x) by rw [ad5,hx];rfl),_,rfl,rfl,_,rfl,ifN (ifD (fun h=>?_) (fun h=>?_))⟩
 ·exact q h0 (by omega) (by rw [aeb,hx,V.str.inj h])
 ·refine ⟨szl,fun e he=>?_⟩
  exact qY h0 (by omega) (fun z=>h (by rw [aeb,hx] at z;rw [aek z])) e H (aN.refl tk) he
abbrev uy:Stmt:=top 39
theorem Fy:aH ["one","most"] ["one","most"] (ao uy):=by walk_at "sc"
inductive aay (K:PySem.W.Frag)(vs:List V)(H:Hp)(Q:VK)(E:XK):Prop
 | mk (a:Addr)(l:Lic)(m:Int)(_:vs=[.ref a,.int m])(_:SqT K H a (yV l))(_:∀ t,H t=none->Q (.ref t) (upd H t (.tup (yV (wm l m)))))
variable {uT:Addr}{vm:FuncData}(dH:Df K mg "with_most" uy ["one","most"] uT vm)
include dH in
theorem acZ:(CX0|||1) uT vm ["one","most"] (aay K):=by
 refine dH.F.ok Fy ?_ ?_;walk_at "i";obtain ⟨a,l,m,rfl,hT,q⟩:=h;refine ⟨_,(~~~(@aO _ _ _ _ (@f9 _ _ _ _ _ (@aM _ _ _ _ _ _ _ fL (pv 0) au (fun _ _=>rfl)>=>@aM _ _ _ _ _ _ _ fL (pv 0) au (fun _ _=>rfl)>=>@aM _ _ _ _ _ _ _ fL (pv 0) au (fun _ _=>rfl)>=>pv 1>=>ak)))),?_⟩;exact ⟨_,rfl,a,_,0,_,rfl,rfl,hT,rfl,_,rfl,a,_,1,_,rfl,rfl,hT,rfl,_,rfl,a,_,2,_,rfl,rfl,hT,rfl,_,rfl,szl,q⟩
variable {S:RS}
theorem JH {n:Int}(e:n=(k:Int))(h:S.ls[k]?=some l):S.at_ n=l:=by
 unfold RS.at_;rw [e,aeb,ad0,h];rfl
section
variable {K:PySem.W.Frag}{T:dY}{C:Addr}{c:Ec}{A:Rs}{ex:List (Str × V)}{r:List Int}{H0 H:Hp}{B:List (Addr × HO)}{S S':RS}{d:QM}{v:V}{Q:VK}{E:XK}{n:Int}{y:Str}{k:Except EK RS}{ek:EK}
theorem S9 (h:¬ (0<=n/\n<S.ls.length)):S.K9 n y k=.error .number:=if_pos h
theorem K8 (h0:0<=n)(h1:n<S.ls.length)(h:S.ns[n.toNat]?≠some y):S.K9 n y k=.error .yours:=by unfold RS.K9;rw [if_neg (not_not_intro ⟨h0,h1⟩),if_pos h]
theorem Qy (h0:0<=n)(h1:n<S.ls.length)(h:S.ns[n.toNat]?=some y):S.K9 n y k=k:=by unfold RS.K9;rw [if_neg (not_not_intro ⟨h0,h1⟩),if_neg (not_not_intro h)]
theorem After.K9 {k:Except EK RS}(q:After K T C c A ex r H0 H B S d v Q E)(hk:step r S d=S.K9 n y k)(hnn:S.ns.length=S.ls.length):
  (¬ (0<=n/\n<S.ns.length)->∀ (e:Addr)(H':Hp),aN T H H'->H' e=none->E (.ref c.number) (some e) H')/\(0<=n->n<S.ns.length->S.ns[n.toNat]?≠some y->∀ (e:Addr)(H':Hp),aN T H H'->H' e=none->E (.ref c.yours) (some e) H'):=
 ⟨fun h=>q.2 .number (hk.trans (S9 (by rw [<- hnn];exact h))),fun h0 h1 h=>q.2 .yours (hk.trans (K8 h0 (by rw [<- hnn];exact h1) h))⟩
end
theorem Den.adw {a:Addr}{x y:V}{d e:PyData}(h:H a=some (.tup [x,y]))(h1:Den K H x d)(h2:Den K H y e):Den K H (.ref a) (.tuple [d,e]):=.tuple (SqT.of h) (.cons h1 (.cons h2 .nil))
abbrev uK:Stmt:=inClass (top 67) 9
theorem FW:aH ["self","number","holder"] ["self","number","holder"] (ao uK):=by walk_at "sc"
inductive Mr (K:PySem.W.Frag)(T:dY)(C:Addr)(c:Ec)(vs:List V)(H:Hp)(Q:VK)(E:XK):Prop
 | mk (A:Rs)(ex:List (Str × V))(H0:Hp)(B:List (Addr × HO))(r:List Int)(S:RS)(n:Int)(y:Str)(_:vs=[.ref A.p,.int n,.str y])(_:RA K T C A ex r H0 H B S)(_:RP r ex S)(_:After K T C c A ex r H0 H B S (.drop n y) .non Q E)
variable (dF:((CXE P w)|||2) gD gG ["self","number","holder"] (BR K T C c.number c.yours))
variable (pC:(CX0|||1) uT vm ["one","most"] (aay K))
variable {vg:Addr}{vI:FuncData}(gZ:Dm K C "drop" "Roll.drop" uK ["self","number","holder"] vg vI)
include bG aK dH dF pC gZ in
theorem RG:((CXE P w)|||3) vg vI ["self","number","holder"] (Mr K T C c):=by
 have R:=bG;refine gZ.F.okX FW ?_ ?_;walk_at "i";obtain ⟨A,ex,H0,L,r,S,n,y,rfl,⟨us,vs,O,d0,d1⟩,hp,q⟩:=h;have hul:us.length=S.ls.length:=by rw [d0.length,TX]
 have hvl:vs.length=S.ds.length:=by rw [d1.length,TX]
 have hnn:=hp.nn;have hdl:=hp.dl;obtain ⟨qN,qY⟩:=After.K9 (n:=n) (y:=y) q rfl hnn;refine ⟨_,(aU (jY (pv 0) bG.c aK.m dF hr.m aK.b .nil Gh (pv 1>=>pv 2>=>ak))<|>iH (dH<*pC<*(@aM _ _ _ _ _ _ _ aF (bJ (pv 0) rfl) (pv 1) (fun _ _=>rfl)>=>au>=>ak)) (ud (bJ (pv 0) rfl) (pv 1) set_list)<|>(~~~(aU (jy aea aef aeg aY (bJ (pv 0) rfl) (@f9 _ _ _ _ _ (jo>=>pv 1>=>pv 2>=>ak)>=>ak))))),?_⟩;refine ⟨_,rfl,A.p,A.dx,_,rfl,O.get 0,(by exact hp.ex.hol),_,rfl,_,rfl,A,ex,S.day,us,S.ns,n,y,rfl,O.get 0,O.sq 3,O.sq 4,by omega,hp.ex,O.same.t1,fun h0 h1 hx=>?_,qN,qY⟩;have hst:step r S (.drop n y)=.ok ⟨S.day,S.ls.set n.toNat (wm (S.at_ n) 0),S.ns,S.ds++[.drop n y]⟩:=Qy h0 (by omega) hx;obtain ⟨k,rfl⟩:=aeo h0;obtain ⟨l,hl⟩:∃ l,S.ls[k]?=some l:=⟨_,adW (by omega)⟩;obtain ⟨al,hal,hT⟩:=d0.wC hl;rw [JH rfl hl,aeb] at hst;refine ⟨_,rfl,A.p,C,A.dx,_,.ref A.ll,rfl,O.get 0,R.c,R.nL,rfl,_,rfl,A.ll,_,_,_,rfl,rfl,O.sq 3,dN hal,al,l,0,rfl,hT.mo O.same,fun t1 ht1=>?_⟩;walk_at "nw";refine ⟨_,rfl,A.p,C,A.dx,_,.ref A.ll,rfl,O.get 1,R.c,R.nL,rfl,_,rfl,?_⟩;refine wu O 4 rfl (jr (by omega)) fun H6 O=>?_;refine ⟨_,rfl,A.p,C,A.dx,_,.ref A.lo,rfl,O.get 1,R.c,R.nO,rfl,.inl ⟨rfl,_,O.sq 6⟩,_,rfl,_,rfl,szl,fun t2 ht2=>?_⟩;walk_at "nw";refine ⟨A.lo,_,_,rfl,rfl,O.get 7,aG (by omega),?_⟩;generalize hE:upd _ _ _=Hn;have O:=Ow.uc O 7 rfl hE rfl;have O:Ow T H0 Hn ((t2,.tup [.str "drop",.int (k:Int),.str y])::(t1,.tup (yV (wm l 0)))::(RX C A ex r S.day (us.set k (.ref t1)) S.ns (vs++[V.ref t2])++L)):=O;obtain ⟨Hb,O,sb,e2⟩:=O.frz;obtain ⟨Hc,O,sc,e1⟩:=O.frz;have e2:=sc.keep _ _ e2 (fun _ z=>nomatch z);refine q.1 _ hst Hc _ (sb.trans sc) ⟨us.set k (.ref t1),vs++[V.ref t2],O,?_,?_⟩
 ·rw [aeW];exact ((d0.mo sb).mo sc).set (Den.lic (l:=wm l 0) (SqT.of e1)) k
 ·rw [ad3];exact ((d1.mo sb).mo sc).append (.cons (.tuple (SqT.of e2) (.cons (.str _) (.cons (.int _) (.cons (.str _) .nil)))) .nil)
def Ot (ls:List Lic)(xs:List Int)(i:Nat):List Lic:=fJ (ls.take i) (xs.take i)++ls.drop i
def fall (ls:List Lic)(xs:List Int):Nat->List (Int × Int × Int)
 | 0=>[]
 | i+1=>fall ls xs i++(match ls[i]?,xs[i]? with| some l,some x=>if x<l.most then [((i:Int),l.most,x)] else [] | _,_=>[])
theorem JT (ls:List Lic)(xs:List Int):∀ i,(fall ls xs i).length<=i
 | 0=>ad2 _
 | i+1=>by
  have:=JT ls xs i;unfold fall;rw [ad7];split
  ·split <;>simp <;>omega
  ·simp;omega
theorem Oj (ls:List Lic)(xs:List Int):Ot ls xs 0=ls:=by unfold Ot fJ;simp
theorem Om (h:ls.length=xs.length):Ot ls xs xs.length=fJ ls xs:=by unfold Ot;rw [<- h,ae1,h,ae1,<- h,List.drop_length,afw]
theorem Oo {x:Int}(hl:ls[i]?=some l)(hx:xs[i]?=some x):(Ot ls xs i)[i]?=some l/\Ot ls xs (i+1)=(Ot ls xs i).set i (wm l (min l.most x)):=by
 have h1:=(acp.mp hl).1;have h2:=(acp.mp hx).1;have hn:(fJ (ls.take i) (xs.take i)).length=i:=by unfold fJ;rw [afp,aed,aed];omega
 have hd:ls.drop i=l::ls.drop (i+1):=by
  rw [List.drop_eq_getElem_cons h1];rw [adW h1] at hl;cases hl;rfl
 unfold Ot;constructor
 ·rw [aeM (by omega),hn,hd,afC];rfl
 ·rw [List.set_append_right _ _ (by omega),hn,hd,afC,Tn.bZ hl,Tn.bZ hx];unfold fJ;rw [List.zipWith_append (by rw [aed,aed];omega)];simp
theorem Ol {x:Int}(hl:ls[i]?=some l)(hx:xs[i]?=some x)(h:¬ x<l.most):Ot ls xs (i+1)=Ot ls xs i:=by
 obtain ⟨h1,h2⟩:=Oo hl hx;rw [h2,show wm l (min l.most x)=l by unfold wm;rw [Int.min_eq_left (by omega)]];obtain ⟨hi,e⟩:=acp.mp h1;rw [<- e];exact List.set_getElem_self hi
abbrev mC:Stmt:=inClass (top 67) 12
theorem ji:aH ["self","numbers","fallen","number","amount","before"] ["self","numbers"] (ao mC):=by walk_at "sc"
inductive Jh (K:PySem.W.Frag)(T:dY)(C:Addr)(c:Ec)(vs:List V)(H:Hp)(Q:VK)(E:XK):Prop
 | mk (A:Rs)(ex:List (Str × V))(H0:Hp)(B:List (Addr × HO))(r:List Int)(S:RS)(a:Addr)(xs:List Int)(_:vs=[.ref A.p,.ref a])(_:RA K T C A ex r H0 H B S)(_:RP r ex S)(_:xs.length<=1000)(_:(∀ (Hb H':Hp)(X:List (Addr × HO)),aN T H0 Hb->Ow T Hb H' (X++B)->SqL K H' a (xs.map V.int)))(_:(∀ S',step r S (.lapse xs)=.ok S'->∀ (Hb H':Hp)(fl:Addr)(fs:List V),aN T H0 Hb->RA K T C A ex r Hb H' ((fl,.lst fs)::B) S'->bT K Hb fs ((fall S.ls xs xs.length).map dMv)->Q (.ref fl) H'))(_:(∀ k,step r S (.lapse xs)=.error k->∀ (e:Addr)(H':Hp),aN T H H'->H' e=none->E (.ref (c.at_ k)) (some e) H'))
variable {rm:Addr}{rT:FuncData}(d9:Dm K C "lapse" "Roll.lapse" mC ["self","numbers"] rm rT)
include bN iZ dX nP dH pC d9 in
theorem Nz (B:Blt mg)(R:RC K C)(iY:Eu K mg "NoNumber" c.number)(wK:Eu K mg "TooMuch" c.much):
  ((CXE P w)|||2) rm rT ["self","numbers"] (Jh K T C c):=by
 refine d9.F.okX ji ?_ ?_
 walk_at "i"
 obtain ⟨A,ex,H0,L,r,S,a,xs,rfl,⟨us,vs,O,d0,d1⟩,hp,hx1,ha0,q,qx⟩:=h
 refine ⟨_,(@dw _ _ _ _ _ _ _ _ (aP zc (aC aA rfl B.len ad9 (pv 1>=>ak)) (aC aA rfl B.len ad9 (bJ (pv 0) rfl>=>ak)) (aX _))
   (~~~(iJ jD rfl (fun _ _ z=>z) rfl iY.m iY.q (jo>=>ak)))
   bf<|>@dw _ _ _ _ _ _ _ _ (lE (jA (aC (tG rfl) rfl B.all afj (fP (ao mC) rfl ["self","numbers","fallen","number","amount","before"] rfl ["amount"] [none] (by decide+kernel) (by decide+kernel) (by decide+kernel) rfl (bF (pv 1)) (fun _ _ _=>(bA (i:=0) (show (["amount"]:List Str).Nodup by decide+kernel) rfl (Or.inl rfl))) (fun _ _ _=>dJ) (fun _ _ _=>(bN<*iZ<*(pv 0>=>ak)))>=>ak))))
   (~~~(iJ jD rfl (fun _ _ z=>z) rfl wK.m wK.q (jo>=>ak)))
   bf<|>2<$>ji<$>(@bU _ _ _ _ ak)<|>cI PassesOwn.leaving rfl (Ni rfl B.enumerate (pv 1>=>ak)) (fZ rfl (aB (3>>ji) (aB (4>>ji) bH)))
   (5<$>ji<$>(dX<*nP<*(@aM _ _ _ _ _ _ _ aF (bJ (pv 0) rfl) (pv 3) (fun _ _=>rfl)>=>ak))<|>(~~~(@dw _ _ _ _ _ _ _ _ (aP uP (pv 4) (pv 5) (aX _))
    (iH (dH<*pC<*(@aM _ _ _ _ _ _ _ aF (bJ (pv 0) rfl) (pv 3) (fun _ _=>rfl)>=>pv 4>=>ak)) (ud (bJ (pv 0) rfl) (pv 3) set_list)<|>(~~~(aU (jy aea aef aeg aY (pv 2) (@f9 _ _ _ _ _ (pv 3>=>pv 5>=>pv 4>=>ak)>=>ak)))))
    bf)))<|>aU (jy aea aef aeg aY (bJ (pv 0) rfl) (@f9 _ _ _ _ _ (jo>=>bR Ep rfl B.tuple PyProof.Rows.boot_tuple (pv 1>=>ak)>=>ak)>=>ak))<|>(~~~(@aO _ _ _ _ (pv 2)))),?_⟩
 have hul:us.length=S.ls.length:=by rw [d0.length,TX]
 have hvl:vs.length=S.ds.length:=by rw [d1.length,TX]
 have hdl:=hp.dl
 have hl60:=hp.l60
 have hxm:(xs.map V.int).length=xs.length:=TX _
 have sA:=aN.refl O.same.t1
 have t0:=O.same.t0
 have ha:∀ {Hb H':Hp}(X:List (Addr × HO)),aN T H0 Hb->Ow T Hb H' (X++L)->SqL K H' a (xs.map V.int):=fun X s O=>ha0 _ _ X s O
 have ha1:SqL K H a (xs.map V.int):=ha _ (aN.refl t0) O
 refine ⟨_,rfl,a,_,rfl,.inl ha1,_,rfl,A.p,C,A.dx,_,.ref A.ll,rfl,O.get 0,R.c,R.nL,rfl,A.ll,_,rfl,.inl (O.sq 3),rfl,_,rfl,ifN (ifI (fun hlen=>?_) fun hlen=>?_)⟩
 rotate_left
 ·refine ⟨szl,fun e he=>qx .number (if_pos (fun z=>hlen (by rw [hxm,hul,z]))) e H sA he⟩
 have hll:S.ls.length=xs.length:=by rw [hxm] at hlen;omega
 have hst:step r S (.lapse xs)=_:=if_neg (not_not_intro hll.symm)
 refine ⟨_,rfl,a,rfl,⟨_,ha1⟩,fun lw hlw=>?_⟩
 refine cJ (K:=K) (xs:=xs.map V.int) (fun i τ H'=>Iv (∃ (v0:Option V)(bs:List Bool),τ=[v0]/\bs.length=i/\(bs.all id=true↔∀ x∈xs.take i,0<=x/\x<=1000000000000)/\Ow T H0 H' ((lw,.lst (bs.map V.bl))::(RX C A ex r S.day us S.ns vs++L))/\aN T H H')) ⟨trivial,none,[],rfl,rfl,⟨(fun _ x hx=>nomatch hx),fun _=>rfl⟩,O.mk' hlw rfl,sA.upd hlw (.inl hlw)⟩ (fun i τ H' _ ⟨_,_,_,_,_,_,O,_⟩=>ha (_::RX C A ex r S.day us S.ns vs) (aN.refl t0) O) ?_ ?_
 ·rintro i y τ H4 hy ⟨-,v0,bs,rfl,hbl,hb,O,sA⟩
  obtain ⟨z,hz,rfl⟩:=ints_get hy
  have hi:=(acp.mp hz).1
  refine Hf ⟨_,rfl,z,rfl,fun b hbz=>?_⟩
  refine ⟨_,O.get 0,aG (by rw [TX];omega),?_⟩
  have hnew:H lw=none:=hlw
  generalize hE:upd _ _ _=Hn
  have sA:aN T H Hn:=hE ▸ sA.upd hnew (.inr ⟨_,O.get 0,rfl⟩)
  replace O:=Ow.uc O 0 rfl hE rfl
  refine ⟨trivial,_,bs++[b],rfl,by rw [ad7,hbl];rfl,?_,?_,sA⟩
  ·rw [Tn.bZ hz,List.all_append,aev,hb]
   constructor
   ·rintro ⟨z1,z2⟩ y hy
    rcases aem.mp hy with h| h
    ·exact z1 y h
    ·rw [aeD.mp h];exact hbz.mp (by simpa using z2)
   ·intro w
    exact ⟨fun y hy=>w y (aeL _ hy),by simpa using hbz.mpr (w z (ad4 _ (aeD.mpr rfl)))⟩
  ·rw [ad3];exact O
 clear O sA
 rintro τ H4 ⟨-,v0,bs,rfl,hbl,hb,O,sA⟩
 rw [hxm,ae1] at hb
 refine ⟨lw,_,rfl,O.sq 0,?_⟩
 cases hba:bs.all id with
 | false =>
  exact ⟨_,rfl,Ce ⟨szl,fun e he=>qx .much (hst.trans (if_pos fun z=>by rw [hb.mpr z] at hba;cases hba)) e _ sA he⟩⟩
 | true =>
 have hxs:=hb.mp hba
 have hst:=hst.trans (if_neg (not_not_intro hxs))
 refine ⟨_,rfl,yC ?_⟩
 clear hb hba
 have O:=O.tail
 refine ⟨szl,fun fl hfl=>?_⟩
 walk_at "nw"
 refine ⟨_,rfl,a,_,rfl,ha (_::RX C A ex r S.day us S.ns vs) (aN.refl t0) O,?_⟩
 refine Sg (K:=K) (xs:=xs.map V.int) (fun i σ H'=>Iv (∃ (Hb:Hp)(us' fs:List V)(v3 v4 v5:Option V),σ=[some (.ref A.p),some (.ref a),some (.ref fl),v3,v4,v5]/\Ow T Hb H' ((fl,.lst fs)::(RX C A ex r S.day us' S.ns vs++L))/\aN T H0 Hb/\bT K Hb us' ((Ot S.ls xs i).map Ig)/\bT K Hb fs ((fall S.ls xs i).map dMv)))
  ⟨trivial,H0,us,[],none,none,none,rfl,O,aN.refl t0,by rw [Oj];exact d0,.nil⟩ (fun i σ H' _ ⟨_,Hb,us',_,_,_,_,_,O,s,_⟩=>ha (_::RX C A ex r S.day us' S.ns vs) s O) ?_ ?_
 ·rintro i y T0 σ H5 hy ⟨-,Hb,us',fs,v3,v4,v5,rfl,O,s0,d0,d2⟩ hT0
  obtain ⟨x,hx,rfl⟩:=ints_get hy
  have hi:=(acp.mp hx).1
  obtain ⟨l,hl⟩:∃ l,S.ls[i]?=some l:=⟨_,adW (by omega)⟩
  obtain ⟨e1,e2⟩:=Oo hl hx
  obtain ⟨al,hal,hT⟩:=d0.wC e1
  have hil:i<us'.length:=(acp.mp hal).1
  have hfl2:fs.length<=i:=by have:=JT S.ls xs i;rw [d2.length,TX];exact this
  walk_at "nw"
  refine ⟨T0,_,rfl,O.sqT 0,rfl,_,_,rfl,_,_,rfl,rfl,?_⟩
  have O:=O.tail
  refine ⟨_,rfl,A.p,C,A.dx,_,.ref A.ll,rfl,O.get 1,R.c,R.nL,rfl,_,rfl,A.ll,_,_,_,rfl,rfl,O.sq 4,dN hal,al,_,rfl,hT.mo O.same,?_⟩
  refine ⟨_,rfl,_,rfl,_,_,rfl,rfl,_,rfl,?_⟩
  refine ifD (fun hlt=>?_) (fun hge=>?_)
  ·refine ⟨_,rfl,A.p,C,A.dx,_,.ref A.ll,rfl,O.get 1,R.c,R.nL,rfl,_,rfl,A.ll,_,_,_,rfl,rfl,O.sq 4,dN hal,_,rfl,al,l,x,rfl,hT.mo O.same,fun t ht=>?_⟩
   walk_at "nw"
   refine ⟨_,rfl,A.p,C,A.dx,_,.ref A.ll,rfl,O.get 2,R.c,R.nL,rfl,_,rfl,?_⟩
   refine wu O 5 rfl (jr hil) fun H6 O=>?_
   have O:Ow T Hb H6 ((t,.tup (yV (wm l x)))::(fl,.lst fs)::(RX C A ex r S.day (us'.set i (.ref t)) S.ns vs++L)):=O
   refine ⟨_,rfl,.inl ⟨rfl,_,O.sq 1⟩,_,rfl,_,rfl,_,rfl,szl,fun t2 ht2=>?_⟩
   walk_at "nw"
   refine ⟨fl,_,_,rfl,rfl,O.get 2,aG (by omega),?_⟩
   walk_at "pt"
   have O:Ow T Hb _ ((t2,.tup [.int (i:Int),.int l.most,.int x])::(t,.tup (yV (wm l x)))::(fl,.lst (fs++[.ref t2]))::(RX C A ex r S.day (us'.set i (.ref t)) S.ns vs++L)):=O
   obtain ⟨Hn2,O,sn,en⟩:=O.frz
   obtain ⟨Hn3,O,sn3,en2⟩:=O.frz
   have en:=sn3.keep _ _ en (fun _ z=>nomatch z)
   have sn:=sn.trans sn3
   refine ⟨trivial,Hn3,us'.set i (.ref t),fs++[V.ref t2],_,_,_,rfl,O,s0.trans sn,?_,?_⟩
   ·rw [e2,show wm l (min l.most x)=wm l x by rw [Int.min_eq_right (by omega)],aeW]
    exact (d0.mo sn).set (Den.lic (l:=wm l x) (SqT.of en2)) i
   ·unfold fall
    rw [hl,hx]
    simp only [if_pos hlt]
    rw [ad3]
    exact (d2.mo sn).append (.cons (Den.tup (ns:=[(i:Int),l.most,x]) (SqT.of en)) .nil)
  ·refine ⟨trivial,Hb,us',fs,_,_,_,rfl,O,s0,by rw [Ol hl hx hge];exact d0,?_⟩
   unfold fall
   rw [hl,hx]
   simp only [if_neg hge,afw]
   exact d2
 clear O d0
 rintro σ H5 ⟨-,Hb,us',fs,v3,v4,v5,rfl,O,s0,d0,d2⟩
 rw [hxm,Om hll] at d0
 rw [hxm] at d2
 refine ⟨_,rfl,A.p,C,A.dx,_,.ref A.lo,rfl,O.get 1,R.c,R.nO,rfl,.inl ⟨rfl,_,O.sq 6⟩,_,rfl,a,_,rfl,.inl ⟨ha (_::RX C A ex r S.day us' S.ns vs) s0 O,fun tt htt=>?_⟩⟩
 walk_at "nw"
 refine ⟨szl,fun t ht=>?_⟩
 walk_at "nw"
 refine ⟨A.lo,_,_,rfl,rfl,O.get 8,aG (by omega),?_⟩
 generalize hE:upd _ _ _=Hn
 have O:=Ow.uc O 8 rfl hE rfl
 obtain ⟨Hc,O,sc,e1⟩:=(show Ow T Hb Hn ((t,.tup [.str "lapse",.ref tt])::(tt,.tup (xs.map V.int))::(fl,.lst fs)::(RX C A ex r S.day us' S.ns (vs++[V.ref t])++L)) from O).frz
 obtain ⟨Hd,O,sd,e2⟩:=O.frz
 have e1:=sd.keep _ _ e1 (fun _ z=>nomatch z)
 have sc:=sc.trans sd
 refine ⟨_,rfl,q _ hst Hd _ fl fs (s0.trans sc) ⟨us',vs++[V.ref t],O.mid,d0.mo sc,?_⟩ (d2.mo sc)⟩
 rw [ad3]
 exact ((d1.mo s0).mo sc).append (.cons (Den.adw e1 (.str _) (.tuple (SqT.of e2) (bT.ints xs))) .nil)
abbrev oF:Stmt:=inClass (top 67) 6
theorem pQ:aH ["self","holder","start","most","back","stop","one"] ["self","holder","start","most","back"] (ao oF):=by walk_at "sc"
inductive Mq (K:PySem.W.Frag)(T:dY)(C:Addr)(c:Ec)(vs:List V)(H:Hp)(Q:VK)(E:XK):Prop
 | mk (A:Rs)(ex:List (Str × V))(H0:Hp)(B:List (Addr × HO))(r:List Int)(S:RS)(x:Str)(st m b:Int)(bv:V)(_:vs=[.ref A.p,.str x,.int st,.int m,bv])(_:(bv=.non/\b=-1\/bv=.int b))(_:RA K T C A ex r H0 H B S)(_:RP r ex S)(_:Asc x)(_:After K T C c A ex r H0 H B S (.file x st m b) (.int (S.ls.length:Int)) Q E)
theorem Za {Q:VK}{bv:V}{stop:Int}(hb:bv=.non/\stop=-1\/bv=.int stop)(hj:σ[j]?=some (some bv))(h:Q (.int stop) H):
  tIf (Y7 (tOp (fun x y H Q=>y=V.non/\Q (V.bl (decide (x=V.non))) H) (ach j) (tC V.non))) (tC (V.int (-1))) (ach j) σ H Q:=by
 refine ⟨bv,hj,rfl,_,rfl,?_⟩;rcases hb with ⟨rfl,rfl⟩ | rfl
 ·exact Ce h
 ·exact yC ⟨_,hj,h⟩
variable (uo:((CXE P w)|||2) m9 nq ["name"] (zH T c.holder))
variable (yK:(CX0|||2) qP rJ ["below","one"] (Ji K T))
variable (lU:((CXE P w)|||1) iM iQ ["self"] (Ma K T C c.full))
variable (yR:(CX0|||1) rA rW ["self","one","holder"] (Jk C))
variable {vf:Addr}{vH:FuncData}(gY:DmD K C "file" "Roll.file" oF ["self","holder","start","most","back"] vf vH)
include gO dI eE bC bG uo yK lU yR gY in
theorem RD (B:Blt mg)(CM:Mth mg)(pB:Eu K mg "NoLicence" c.licence):
  ((CXE P w)|||3) vf vH ["self","holder","start","most","back"] (Mq K T C c):=by
 obtain ⟨tM,hMOUTH⟩:=CM.MOUTH
 have R:=bG
 refine gY.F.okX pQ ?_ ?_
 walk_at "i"
 obtain ⟨A,ex,H0,L,r,S,x,st,m,b,bv,rfl,hb,⟨us,vs,O,d0,d1⟩,hp,ax,q⟩:=h
 have hul:us.length=S.ls.length:=by rw [d0.length,TX]
 have hvl:vs.length=S.ds.length:=by rw [d1.length,TX]
 have hnn:=hp.nn
 have hdl:=hp.dl
 have hr40:=hp.r40
 have hl60:=hp.l60
 have sA:=aN.refl O.same.t1
 refine ⟨_,(aU (dI*>uo*>(pv 1>=>ak))<|>5<$>pQ<$>(Jw (aP Nr (pv 4) yu (aX _)) (eV (v:=.int (-1)) rfl hMOUTH ⟨_,rfl⟩) (pv 4))<|>6<$>pQ<$>(@f9 _ _ _ _ _ (bJ (pv 0) rfl>=>pv 2>=>pv 5>=>pv 3>=>ak))<|>@dw _ _ _ _ _ _ _ _ (PW.pt (pw_or (aP qC (pv 3) au (aX _)) (pw_or1 (lE (jA (gO<*yK<*(bJ (pv 0) rfl>=>pv 6>=>ak)))))))
   (~~~(iJ jD rfl (fun _ _ z=>z) rfl pB.m pB.q (jo>=>ak)))
   bf<|>aU (jL (pv 0) bG.c bC.m lU hr.m bC.b .nil Gh)<|>aU (jy aea aef aeg aY (bJ (pv 0) rfl) (@f9 _ _ _ _ _ (jo>=>pv 1>=>pv 2>=>pv 3>=>pv 5>=>ak)>=>ak))<|>(~~~(@aO _ _ _ _ (jY (pv 0) bG.c eE.m yR hr.m eE.b .nil wg (pv 6>=>pv 1>=>ak))))),?_⟩
 refine ⟨_,rfl,x,rfl,ax,O.same.t1,fun nx H1 s1=>?_,fun nx e H' s' he=>q.2 .holder (if_pos nx) e H' s' he⟩
 have hst:step r S (.file x st m b)=_:=if_neg (not_not_intro nx)
 have O:=O.vL s1
 refine Za hb rfl ?_
 refine ⟨_,rfl,A.p,C,A.dx,_,.int S.day,rfl,O.get 0,R.c,R.nD,rfl,_,rfl,_,rfl,_,rfl,szl,fun t1 ht1=>?_⟩
 generalize hE:upd _ _ _=Hn
 have s2:aN T H Hn:=hE ▸ s1.upd (s1.free ht1) (.inl ht1)
 replace O:=Ow.mkE O ht1 hE rfl
 clear hE
 refine ⟨_,rfl,rfl,_,rfl,ifI (fun m0=>?_) (fun m0=>?_)⟩
 ·exact ⟨szl,fun e he=>q.2 .licence (hst.trans (if_pos (.inl m0))) e _ s2 he⟩
 refine ⟨_,rfl,A.p,C,A.dx,_,.ref A.lb,rfl,O.get 1,R.c,R.nB,rfl,_,rfl,A.lb,t1,r,⟨S.day,st,b,m⟩,rfl,O.sq 3,hp.rv,by omega,O.sqT 0,O.same.t1,fun bb H2 s3 hb2=>?_⟩
 have O:=O.vL s3
 cases bb with
 | false=>exact ⟨_,rfl,Ce ⟨szl,fun e he=>q.2 .licence (hst.trans (if_pos (.inr fun z=>nomatch hb2.mpr z))) e _ (s2.trans s3) he⟩⟩
 | true =>
 refine ⟨_,rfl,yC ?_⟩
 have hl:=hb2.mp rfl
 have hst:=hst.trans (if_neg (show ¬ (m=0\/¬ yg r ⟨S.day,st,b,m⟩) from fun z=>z.elim m0 fun w=>w hl))
 refine ⟨_,rfl,A.p,A.dx,_,rfl,O.get 1,(by exact hp.ex.room),A,ex,S.day,us,rfl,O.get 1,O.sq 4,O.same.t1,fun h4=>?_,fun h4 e H' s' he=>q.2 .full (hst.trans (if_pos (by omega))) e H' ((s2.trans s3).trans s') he⟩
 have hst:=hst.trans (if_neg (by omega))
 refine ⟨_,rfl,A.p,C,A.dx,_,.ref A.lo,rfl,O.get 1,R.c,R.nO,rfl,.inl ⟨rfl,_,O.sq 6⟩,_,rfl,_,rfl,_,rfl,_,rfl,szl,fun t2 ht2=>?_⟩
 walk_at "nw"
 refine ⟨A.lo,_,_,rfl,rfl,O.get 7,aG (by omega),?_⟩
 generalize hE:upd _ _ _=Hn2
 replace O:=Ow.uc O 7 rfl hE rfl
 clear hE
 refine ⟨_,rfl,A.p,A.dx,_,rfl,O.get 2,(by exact hp.ex.ent),_,rfl,_,rfl,A,ex,S.day,us,S.ns.map V.str,.ref t1,.str x,rfl,O.get 2,O.get 5,O.get 6,by omega,by rw [TX];omega,O.ne 2 5,O.ne 2 6,O.ne 6 5,?_⟩
 have O:=(O.aci 5 rfl (o':=.lst (us++[.ref t1])) rfl).aci 6 rfl (o':=.lst (S.ns.map V.str++[.str x])) rfl
 rw [hul]
 obtain ⟨Hb,O,sb,e2⟩:=(show Ow T H0 _ ((t2,.tup [.str "file",.str x,.int st,.int m,.int b])::(t1,.tup (yV ⟨S.day,st,b,m⟩))::(RX C A ex r S.day (us++[.ref t1]) (S.ns++[x]) (vs++[V.ref t2])++L)) from by simp only [RX,ad3,aey,List.map_nil];exact O).frz
 obtain ⟨Hc,O,sc,e1⟩:=O.frz
 have e2:=sc.keep _ _ e2 (fun _ z=>nomatch z)
 have sx:=sb.trans sc
 refine q.1 _ hst Hc _ sx ⟨us++[V.ref t1],vs++[V.ref t2],O,?_,?_⟩
 ·rw [ad3]
  exact (d0.mo sx).append (.cons (Den.lic (l:=⟨S.day,st,b,m⟩) (SqT.of e1)) .nil)
 ·rw [ad3]
  exact (d1.mo sx).append (.cons (.tuple (SqT.of e2) (.cons (.str _) (.cons (.str _) (.cons (.int _) (.cons (.int _) (.cons (.int _) .nil)))))) .nil)
abbrev jk:Stmt:=inClass (top 67) 0
theorem yX:aH ["self","below"] ["self","below"] (ao jk):=by walk_at "sc"
inductive Mp (K:PySem.W.Frag)(T:dY)(C:Addr)(c:Ec)(vs:List V)(H:Hp)(Q:VK)(E:XK):Prop
 | mk (p dx lv:Addr)(H0:Hp)(B:List (Addr × HO))(r:List Int)(_:vs=[.ref p,.ref lv])(_:Ow T H0 H ((p,.ins C dx [])::(dx,.own p)::B))(_:SqL K H lv (r.map V.int))(_:r.length<=900)(_:(Rv.isR r=true->∀ (A:Rs)(H':Hp),A.p=p->Ow T H0 H' (RX C A [] r 0 [] [] []++B)->Q .non H'))(_:(Rv.isR r=false->∀ (e:Addr)(H':Hp),aN T H H'->H' e=none->E (.ref c.Gb) (some e) H'))
variable (Cz:(CX0|||2) xP xX ["below"] (TQ K))
include jG Cz in
theorem Rz {C':Addr}(D:Dm K C' "__init__" "Roll.__init__" jk ["self","below"] f fd)(B:Blt mg)(R:RC K C)(wL:Eu K mg "NoRiver" c.Gb):
  ((CXE P w)|||3) f fd ["self","below"] (Mp K T C c):=by
 refine D.F.okX yX ?_ ?_
 walk_at "i"
 obtain ⟨p,dx,lv,H0,L,r,rfl,O,hv,r9,q,qx⟩:=h
 refine ⟨_,(@dw _ _ _ _ _ _ _ _ (lE (jA (jG<*Cz<*(pv 1>=>ak))))
   (~~~(iJ jD rfl (fun _ _ z=>z) rfl wL.m wL.q (jo>=>ak)))
   bf<|>mF (pv 0) (bR bx rfl B.list aes (pv 1>=>ak)) rfl<|>mF (pv 0) au rfl<|>mF (pv 0) (@bU _ _ _ _ ak) rfl<|>mF (pv 0) (@bU _ _ _ _ ak) rfl<|>(~~~(mF (pv 0) (@bU _ _ _ _ ak) rfl))),?_⟩
 refine ⟨_,rfl,lv,r,rfl,hv,by omega,fun H1 s1=>?_⟩
 have s1:=aN.of O.same.t1 s1
 cases hR:Rv.isR r with
 | false=>exact ⟨_,rfl,Ce ⟨szl,fun e he=>qx hR e _ s1 he⟩⟩
 | true =>
 refine ⟨_,rfl,yC ?_⟩
 have hv:=s1.seq hv
 have O:=O.vL s1
 refine ⟨_,rfl,lv,_,rfl,.inl hv,fun lb hlb=>?_⟩
 walk_at "nw"
 refine ⟨_,rfl,p,C,dx,_,rfl,O.get 1,R.c,R.nB,(by show 0<1000;decide),?_⟩
 walk_at "pt"
 refine ⟨_,rfl,p,C,dx,_,rfl,O.get 1,R.c,R.nD,(by show 1<1000;decide),?_⟩
 walk_at "pt"
 refine ⟨szl,fun ll hll=>?_⟩
 walk_at "nw"
 refine ⟨_,rfl,p,C,dx,_,rfl,O.get 2,R.c,R.nL,(by show 2<1000;decide),?_⟩
 walk_at "pt"
 refine ⟨szl,fun ln hln=>?_⟩
 walk_at "nw"
 refine ⟨_,rfl,p,C,dx,_,rfl,O.get 3,R.c,R.nN,(by show 3<1000;decide),?_⟩
 walk_at "pt"
 refine ⟨szl,fun lo hlo=>?_⟩
 walk_at "nw"
 refine ⟨_,rfl,p,C,dx,_,rfl,O.get 4,R.c,R.nO,(by show 4<1000;decide),?_⟩
 walk_at "pt"
 have O:=((((O.pull 1 rfl).pull 2 rfl).pull 3 rfl).pull 5 rfl).pull 5 rfl
 exact q hR ⟨p,dx,lb,ll,ln,lo⟩ _ rfl O
structure Bx where
 ld:Addr
 lk:Addr
 lr:Addr
 lg:Addr
 la:V
abbrev exB (Z:Bx):List (Str × V):=[("dug",.ref Z.ld),("keeps",.ref Z.lk),("ran",.ref Z.lr),("last",Z.la),("greatest",.ref Z.lg)]
abbrev BL (Z:Bx)(gs rs ks us:List V):List (Addr × HO):=[(Z.lg,.lst gs),(Z.lr,.lst rs),(Z.lk,.lst ks),(Z.ld,.lst us)]
theorem Qa (Z:Bx):adC (exB Z):=⟨rfl,rfl,rfl,rfl,rfl,rfl,rfl,rfl,rfl,rfl,rfl,rfl,rfl,rfl,rfl,rfl,rfl⟩
abbrev Z7:List Str:=["below","day","licences","names","done","dug","keeps","ran","last","greatest"]
structure BC (K:PySem.W.Frag)(C:Addr):Prop where
 c:Cls K C
 r:RC K C
 nD:jx K C "dug"
 nK:jx K C "keeps"
 nR:jx K C "ran"
 nL:jx K C "last"
 nG:jx K C "greatest"
theorem Z8 {f0:Addr}(R:Cl K mg "Book" C f0 Z7):BC K C:=by
 have n:=R.n;simp only [Z7,aen,afR,or_false,forall_eq_or_imp,forall_eq] at n;obtain ⟨a1,a2,a3,a4,a5,a6,a7,a8,a9,a10⟩:=n;exact ⟨R.c,⟨R.c,a1,a2,a3,a4,a5⟩,a6,a7,a8,a9,a10⟩
variable {H0:Hp}
theorem Ow.front (X R B:List (Addr × HO))(O:Ow T H0 H (X++(R++B))):Ow T H0 H (R++(X++B)):=O.perm (afO _ _ _)
abbrev lD:Stmt:=inClass (top 71) 0
theorem za:aH ["self","below"] ["self","below"] (ao lD):=by walk_at "sc"
inductive Jp (K:PySem.W.Frag)(T:dY)(C:Addr)(c:Ec)(vs:List V)(H:Hp)(Q:VK)(E:XK):Prop
 | mk (p dx lv:Addr)(H0:Hp)(B:List (Addr × HO))(r:List Int)(_:vs=[.ref p,.ref lv])(_:Ow T H0 H ((p,.ins C dx [])::(dx,.own p)::B))(_:SqL K H lv (r.map V.int))(_:r.length<=900)(_:(Rv.isR r=true->∀ (A:Rs)(Z:Bx)(H':Hp),A.p=p->Z.la=.non->Ow T H0 H' (RX C A (exB Z) r 0 [] [] []++(BL Z [] [] [] []++B))->Q .non H'))(_:(Rv.isR r=false->∀ (e:Addr)(H':Hp),aN T H H'->H' e=none->E (.ref c.Gb) (some e) H'))
variable (fM:BC K C)
variable {lK:Addr}{rY:FuncData}(ig:Dm K CR "__init__" "Roll.__init__" jk ["self","below"] lK rY)
variable (sJ:((CXE P w)|||3) lK rY ["self","below"] (Mp K T C c))
variable {ju:Addr}{lR:FuncData}(cj:Dm K C "__init__" "Book.__init__" lD ["self","below"] ju lR)
include fM ig sJ cj in
theorem RJ (QF:mg "Roll"=some (.ref CR))(lV:ClF K CR lK "__init__"):
  ((CXE P w)|||4) ju lR ["self","below"] (Jp K T C c):=by
 have R:=fM;refine cj.F.okX za ?_ ?_;walk_at "i";obtain ⟨p,dx,lv,H0,L,r,rfl,O,hv,r9,q,qx⟩:=h;refine ⟨_,(aU (Zk rfl QF lV sJ hr.m ig.b .nil Gh (pv 0>=>pv 1>=>ak))<|>mF (pv 0) (@bU _ _ _ _ ak) rfl<|>mF (pv 0) (@bU _ _ _ _ ak) rfl<|>mF (pv 0) (@bU _ _ _ _ ak) rfl<|>mF (pv 0) yu rfl<|>(~~~(mF (pv 0) (@bU _ _ _ _ ak) rfl))),?_⟩;refine ⟨_,rfl,_,rfl,p,dx,lv,H0,_,r,rfl,O,hv,r9,fun hR A H5 eA O5=>?_,fun hR e H' s he=>qx hR e H' s he⟩;clear O;subst eA;have O:=O5;clear O5;refine ⟨szl,fun ld hld=>?_⟩;walk_at "nw";refine ⟨_,rfl,A.p,C,A.dx,_,rfl,O.get 1,R.c,R.nD,(by show 5<1000;decide),?_⟩;walk_at "pt";refine ⟨szl,fun lk hlk=>?_⟩;walk_at "nw";refine ⟨_,rfl,A.p,C,A.dx,_,rfl,O.get 2,R.c,R.nK,(by show 6<1000;decide),?_⟩;walk_at "pt";refine ⟨szl,fun lr hlr=>?_⟩;walk_at "nw";refine ⟨_,rfl,A.p,C,A.dx,_,rfl,O.get 3,R.c,R.nR,(by show 7<1000;decide),?_⟩;walk_at "pt";refine ⟨_,rfl,A.p,C,A.dx,_,rfl,O.get 3,R.c,R.nL,(by show 8<1000;decide),?_⟩;walk_at "pt";refine ⟨szl,fun lg hlg=>?_⟩;walk_at "nw";refine ⟨_,rfl,A.p,C,A.dx,_,rfl,O.get 4,R.c,R.nG,(by show 9<1000;decide),?_⟩;walk_at "pt";exact q hR A ⟨ld,lk,lr,lg,.non⟩ _ rfl rfl (Ow.front [(lg,.lst []),(lr,.lst []),(lk,.lst []),(ld,.lst [])] (RX C A (exB ⟨ld,lk,lr,lg,.non⟩) r 0 [] [] []) L O)
abbrev p8:Stmt:=top 37
theorem Dn:aH ["one"] ["one"] (ao p8):=by walk_at "sc"
inductive aaE (K:PySem.W.Frag)(vs:List V)(H:Hp)(Q:VK)(E:XK):Prop
 | mk (t:Addr)(l:Lic)(_:vs=[.ref t])(_:SqT K H t (yV l))(_:Q (.bl (!decide (l.back=-1))) H)
variable {qQ:Addr}{rK:FuncData}(cR:Df K mg "gives_back" p8 ["one"] qQ rK)
include cR in
theorem ac6 (C:Mth mg):(CX0|||1) qQ rK ["one"] (aaE K):=by
 obtain ⟨tM,hMOUTH⟩:=C.MOUTH;refine cR.F.ok Dn ?_ ?_;walk_at "i";obtain ⟨t,l,rfl,hT,q⟩:=h;refine ⟨_,(~~~(@aO _ _ _ _ (qy zc (@aM _ _ _ _ _ _ _ fL (pv 0) au (fun _ _=>rfl)) (eV (v:=.int (-1)) rfl hMOUTH ⟨_,rfl⟩) (aX _)))),?_⟩;refine ⟨_,rfl,t,_,2,_,rfl,rfl,hT,rfl,rfl,?_⟩;rw [show decide (V.int l.back=V.int (-1))=decide (l.back=-1) from by simp];exact q
abbrev Pd:=Int × Int × Int
def aao (ps:List Pd)(n:Int):Bool:=(ps.map fun p=>decide (n=p.1)).any id
abbrev jl:Stmt:=inClass (top 71) 4
theorem yZ:aH ["self","number"] ["self","number"] (ao jl):=by walk_at "sc"
inductive TV (K:PySem.W.Frag)(T:dY)(C:Addr)(vs:List V)(H:Hp)(Q:VK)(E:XK):Prop
 | mk (A:Rs)(Z:Bx)(day n:Int)(us:List V)(ps:List Pd)(_:vs=[.ref A.p,.int n])(_:H A.p=some (ZM C A (exB Z) day))(_:SqL K H Z.ld us)(_:bT K H us (ps.map dMv))(_:ps.length<=900)(_:TabsOk T H)(_:∀ H',aN T H H'->Q (.bl (aao ps n)) H')
variable {lM:Addr}{lQ:FuncData}(cg:Dm K C "has_pond" "Book.has_pond" jl ["self","number"] lM lQ)
include cg in
theorem abg (B:Blt mg)(R:BC K C):(CX0|||1) lM lQ ["self","number"] (TV K T C):=by
 refine cg.F.ok yZ ?_ ?_;walk_at "i";obtain ⟨A,Z,day,n,us,ps,rfl,hp,hL,d1,h9,tk,q⟩:=h;have hul:us.length=ps.length:=by rw [d1.length,TX]
 have O:=Ow.refl tk;refine ⟨_,(~~~(@aO _ _ _ _ (aC (S7 rfl) rfl B.any PyProof.Rows.boot_any (fP (ao jl) rfl ["self","number"] rfl ["other","room","leak","number"] [none,none,none,some 1] (by decide+kernel) (by decide+kernel) (by decide+kernel) rfl (bF (bJ (pv 0) rfl)) (fun _ _ _=>(qw (K:=K) (n:=3) rfl rfl (aB (bA (i:=0) (show (["other","room","leak","number"]:List Str).Nodup by decide+kernel) rfl (Or.inl rfl)) (aB (bA (i:=1) (show (["other","room","leak","number"]:List Str).Nodup by decide+kernel) rfl (Or.inl rfl)) (aB (bA (i:=2) (show (["other","room","leak","number"]:List Str).Nodup by decide+kernel) rfl (Or.inl rfl)) bH))))) (fun _ _ _=>dJ) (fun _ _ _=>(qy qC (pv 3) (pv 0) (aX _)))>=>ak)))),?_⟩;refine ⟨_,rfl,A.p,C,A.dx,_,.ref Z.ld,rfl,hp,R.c,R.nD,rfl,Z.ld,rfl,⟨_,hL⟩,fun lw hlw=>?_⟩;refine cJ (K:=K) (xs:=us) (fun i τ H'=>Iv (∃ (v0 v1 v2:Option V),τ=[v0,v1,v2,some (.int n)]/\Ow T H H' [(lw,.lst (((ps.take i).map fun p:Pd=>decide (n=p.1)).map V.bl))])) ⟨trivial,none,none,none,rfl,O.mk' hlw rfl⟩ (fun i τ H' _ ⟨_,_,_,_,_,O⟩=>O.same.seq hL) ?_ ?_
 ·clear O;rintro i y τ H3 hy ⟨-,v0,v1,v2,rfl,O⟩;obtain ⟨ap,p,rfl,hp',hT⟩:=d1.JC hy;have hi:=(acp.mp hp').1;refine ⟨ap,_,rfl,hT.mo O.same,rfl,_,_,rfl,_,_,rfl,_,_,rfl,rfl,?_⟩;refine aai ?_;refine ⟨_,rfl,_,rfl,rfl,_,O.get 0,aG (by rw [TX,TX,aed];omega),?_⟩;walk_at "pt";refine ⟨trivial,_,_,_,rfl,?_⟩;rw [Tn.bZ hp',ad3,ad3];rw [show decide (V.int n=V.int p.1)=decide (n=p.1) from by simp] at O;exact O
 clear O;rintro τ H3 ⟨-,v0,v1,v2,rfl,O⟩;rw [hul,ad8 (ad2 _)] at O;exact ⟨lw,_,rfl,O.sq 0,q _ O.same⟩
inductive PK
 | number| yours| aak
def PK.at_ (c:Ec)(cP:Addr):PK->Addr
 | .number=>c.number| .yours=>c.yours| .aak=>cP
open Classical in
noncomputable def Du (S:RS)(ps:List Pd)(n:Int)(y:Str)(room leak:Int):Option PK:=
 if ¬ (0<=n/\n<S.ls.length) then some .number else if S.ns[n.toNat]?≠some y then some .yours else
 if (S.at_ n).back≠-1\/aao ps n=true\/10<=ps.length\/¬ (0<=room/\room<=1000000000000/\0<=leak/\leak<=1000) then some .aak else none
abbrev oG:Stmt:=inClass (top 71) 1
theorem FZ:aH ["self","number","holder","room","leak"] ["self","number","holder","room","leak"] (ao oG):=by walk_at "sc"
inductive Mg (K:PySem.W.Frag)(T:dY)(C:Addr)(c:Ec)(cP:Addr)(vs:List V)(H:Hp)(Q:VK)(E:XK):Prop
 | mk (A:Rs)(Z:Bx)(H0:Hp)(B:List (Addr × HO))(r:List Int)(S:RS)(gs rs ks us:List V)(ps:List Pd)(n:Int)(y:Str)(room leak:Int)(_:vs=[.ref A.p,.int n,.str y,.int room,.int leak])(_:RA K T C A (exB Z) r H0 H (BL Z gs rs ks us++B) S)(_:RP r (exB Z) S)(_:bT K H0 us (ps.map dMv))(_:ps.length<=900)(_:ks.length<=900)(_:(Du S ps n y room leak=none->∀ (t:Addr)(Hb H':Hp),aN T H0 Hb->RA K T C A (exB Z) r Hb H' (BL Z gs rs (ks++[.int 0]) (us++[.ref t])++B) S->bT K Hb (us++[.ref t]) ((ps++[(n,room,leak)]).map dMv)->Q (.int (ps.length:Int)) H'))(_:(∀ k,Du S ps n y room leak=some k->∀ (e:Addr)(H':Hp),aN T H H'->H' e=none->E (.ref (k.at_ c cP)) (some e) H'))
variable (mY:(CX0|||1) qQ rK ["one"] (aaE K))
variable (sO:(CX0|||1) lM lQ ["self","number"] (TV K T C))
variable {vh:Addr}{vJ:FuncData}(iu:DmZ K C "pond" "Book.pond" oG ["self","number","holder","room","leak"] vh vJ)
include bN iZ bG aK dF fM cR cg mY sO iu in
theorem Zn (B:Blt mg)(mL:Eu K mg "NoPond" cP)(CP:∃ t,mg "MOST_PONDS"=some (.int 10 t))(CW:∃ t,mg "WHOLE"=some (.int 1000 t)):
  ((CXE P w)|||3) vh vJ ["self","number","holder","room","leak"] (Mg K T C c cP):=by
 obtain ⟨tP,Ib⟩:=CP
 obtain ⟨tW,hWHOLE⟩:=CW
 obtain ⟨tz,Fz,_⟩:=iu.F
 have R:=fM
 refine Fz.okX FZ (fun vs H Q E h=>?_) (fun cdv A outer s H vs Q E hr h=>?_)
 ·obtain ⟨_,_,_,_,_,_,_,_,_,_,_,_,_,_,_,rfl,_⟩:=h;rfl
 ·obtain ⟨A,Z,H0,L,r,S,gs,rs,ks,us,ps,n,y,room,leak,rfl,⟨ls,vs,O,d0,d1⟩,hp,dP,hpl,hkl,q,qE⟩:=h
  have hll:ls.length=S.ls.length:=by rw [d0.length,TX]
  have hul:us.length=ps.length:=by rw [dP.length,TX]
  have hnn:=hp.nn
  have h60:=hp.l60
  refine ⟨_,(aU (jY (pv 0) bG.c aK.m dF hr.m aK.b .nil Gh (pv 1>=>pv 2>=>ak))<|>@dw _ _ _ _ _ _ _ _ (PW.pt (pw_or (jA (cR<*mY<*(@aM _ _ _ _ _ _ _ aF (bJ (pv 0) rfl) (pv 1) (fun _ _=>rfl)>=>ak))) (pw_or1 (jA (jY (pv 0) fM.c cg.m sO hr.m cg.b .nil wg (pv 1>=>ak))))))
    (~~~(iJ jD rfl (fun _ _ z=>z) rfl mL.m mL.q (jo>=>ak)))
    bf<|>@dw _ _ _ _ _ _ _ _ (aP aaY (aC aA rfl B.len ad9 (bJ (pv 0) rfl>=>ak)) (eV (v:=.int (10)) rfl Ib ⟨_,rfl⟩) (aX _))
    (~~~(iJ jD rfl (fun _ _ z=>z) rfl mL.m mL.q (jo>=>ak)))
    bf<|>@dw _ _ _ _ _ _ _ _ (lE (PW.pt (pw_and (jA (bN<*iZ<*(pv 3>=>ak))) (pw_and1 (vY xu xu au (pv 4) (eV (v:=.int (1000)) rfl hWHOLE ⟨_,rfl⟩))))))
    (~~~(iJ jD rfl (fun _ _ z=>z) rfl mL.m mL.q (jo>=>ak)))
    bf<|>aU (jy aea aef aeg aY (bJ (pv 0) rfl) (@f9 _ _ _ _ _ (pv 1>=>pv 3>=>pv 4>=>ak)>=>ak))<|>aU (jy aea aef aeg aY (bJ (pv 0) rfl) (au>=>ak))<|>(~~~(@aO _ _ _ _ (@bB _ _ _ _ _ _ _ _ wz (aC aA rfl B.len ad9 (bJ (pv 0) rfl>=>ak)) au)))),?_⟩
  refine ⟨_,rfl,A.p,A.dx,_,rfl,O.get 0,rfl,_,rfl,_,rfl,A,exB Z,S.day,ls,S.ns,n,y,rfl,O.get 0,O.sq 3,O.sq 4,by omega,Qa Z,O.same.t1,fun h0 h1 hy=>?_,fun h=>qE .number (by unfold Du;rw [if_pos (fun z=>h (by omega))]),fun h0 h1 hy=>qE .yours (by unfold Du;rw [if_neg (not_not_intro ⟨h0,by omega⟩),if_pos hy])⟩
  obtain ⟨j,rfl⟩:=aeo h0
  obtain ⟨l,hl⟩:∃ l,S.ls[j]?=some l:=⟨_,adW (by omega)⟩
  obtain ⟨al,hal,hT⟩:=d0.wC hl
  have hat:S.at_ (j:Int)=l:=JH rfl hl
  have hE:Du S ps (j:Int) y room leak=open Classical in if l.back≠-1\/aao ps (j:Int)=true\/10<=ps.length\/¬ (0<=room/\room<=1000000000000/\0<=leak/\leak<=1000) then some .aak else none:=by
   unfold Du;rw [if_neg (not_not_intro ⟨h0,by omega⟩),if_neg (not_not_intro hy),hat]
  refine ⟨_,rfl,A.p,C,A.dx,_,.ref A.ll,rfl,O.get 0,bG.c,bG.nL,rfl,_,rfl,A.ll,_,_,_,rfl,rfl,O.sq 3,dN hal,al,l,rfl,hT.mo O.same,?_⟩
  have bad:∀ {H'},aN T H H'->(l.back≠-1\/aao ps (j:Int)=true\/10<=ps.length\/¬ (0<=room/\room<=1000000000000/\0<=leak/\leak<=1000))->∀ e,H' e=none->E (.ref cP) (some e) H':=fun {H'} s h e he=>qE .aak (by rw [hE,if_pos h]) e H' s he
  have s0:aN T H H:=aN.refl O.same.t1
  refine ⟨_,rfl,ifN (ifD (fun hb=>?_) (fun hb=>⟨szl,fun e he=>bad s0 (.inl hb) e he⟩))⟩
  refine ⟨_,rfl,A.p,A.dx,_,rfl,O.get 0,rfl,_,rfl,A,Z,S.day,(j:Int),us,ps,rfl,O.get 0,O.sq 9,dP.mo O.same,hpl,O.same.t1,fun H1 s1=>?_⟩
  have O:=O.vL s1
  refine ⟨_,rfl,ifB (fun hh=>⟨szl,fun e he=>bad s1 (.inr (.inl hh)) e he⟩) (fun hh=>?_)⟩
  refine ⟨_,rfl,A.p,C,A.dx,_,.ref Z.ld,rfl,O.get 0,R.c,R.nD,rfl,Z.ld,_,rfl,.inl (O.sq 9),_,_,rfl,rfl,_,rfl,ifD (fun h10=>⟨szl,fun e he=>bad s1 (.inr (.inr (.inl (by have h10:(10:Int)<=(us.length:Int):=h10;omega)))) e he⟩) (fun h10=>?_)⟩
  have h10:¬ (10:Int)<=(us.length:Int):=h10
  refine ⟨_,rfl,room,rfl,fun bw hbw=>?_⟩
  refine ⟨_,rfl,ifB (fun hw=>?_) (fun hw=>?_)⟩
  rotate_left
  ·exact Ce ⟨szl,fun e he=>bad s1 (.inr (.inr (.inr fun z=>by rw [hbw.mpr ⟨z.1,z.2.1⟩] at hw;cases hw))) e he⟩
  have hw:=hbw.mp hw
  refine ⟨_,rfl,_,_,rfl,rfl,_,rfl,ifD (fun l0=>?_) (fun l0=>?_)⟩
  rotate_left
  ·exact ⟨_,rfl,Ce ⟨szl,fun e he=>bad s1 (.inr (.inr (.inr fun z=>l0 z.2.2.1))) e he⟩⟩
  refine ⟨_,_,rfl,rfl,_,rfl,ifN (ifD (fun l1=>?_) (fun l1=>⟨szl,fun e he=>bad s1 (.inr (.inr (.inr fun z=>l1 z.2.2.2))) e he⟩))⟩
  have hN:Du S ps (j:Int) y room leak=none:=by
   rw [hE,if_neg]
   rintro (z| z| z| z)
   ·exact z hb
   ·rw [hh] at z;cases z
   ·omega
   ·exact z ⟨hw.1,hw.2,l0,l1⟩
  refine ⟨_,rfl,A.p,C,A.dx,_,.ref Z.ld,rfl,O.get 0,R.c,R.nD,rfl,.inl ⟨rfl,_,O.sq 9⟩,_,rfl,_,rfl,_,rfl,szl,fun t ht=>?_⟩
  walk_at "nw"
  refine ⟨Z.ld,_,_,rfl,rfl,O.get 10,aG (by omega),?_⟩
  generalize hE2:upd _ _ _=Hn
  have O:=Ow.uc O 10 rfl hE2 rfl
  clear hE2
  refine ⟨_,rfl,A.p,C,A.dx,_,.ref Z.lk,rfl,O.get 1,R.c,R.nK,rfl,.inl ⟨rfl,_,O.sq 9⟩,Z.lk,_,_,rfl,rfl,O.get 9,aG (by omega),?_⟩
  generalize hE2:upd _ _ _=Hm
  have O:=Ow.uc O 9 rfl hE2 rfl
  clear hE2
  refine ⟨_,rfl,A.p,C,A.dx,_,.ref Z.ld,rfl,O.get 1,R.c,R.nD,rfl,Z.ld,_,rfl,.inl (O.sq 10),_,_,rfl,rfl,?_⟩
  dsimp only
  rw [show (((us++[V.ref t]).length:Nat):Int) - 1=(ps.length:Int) by rw [ad7,hul];simp]
  obtain ⟨Hb,O,sb,e1⟩:=(show Ow T H0 Hm ((t,_)::(RX C A (exB Z) r S.day ls S.ns vs++(BL Z gs rs (ks++[.int 0]) (us++[.ref t])++L))) from O).frz
  refine q hN t Hb Hm sb ⟨ls,vs,O,d0.mo sb,d1.mo sb⟩ ?_
  rw [ad3]
  exact (dP.mo sb).append (.cons (Den.mv (m:=((j:Int),room,leak)) (SqT.of e1)) .nil)
abbrev lB:Stmt:=top 62
theorem wY:aH ["roll","ponds","takes","lets","keepers","users"] ["roll","ponds","takes","lets"] (ao lB):=by walk_at "sc"
inductive Je (K:PySem.W.Frag)(T:dY)(vs:List V)(H:Hp)(Q:VK)(E:XK):Prop
 | mk (b c d e:Addr)(xs:List Int)(rs us:List V)(ls:List Lic)(ps:List (Int × Int × Int))(_:vs=[.ref b,.ref c,.ref d,.ref e])(_:SqL K H b rs)(_:bT K H rs (ls.map Ig))(_:ls.length<=100)(_:SqL K H c us)(_:bT K H us (ps.map dMv))(_:ps.length<=1000)(_:SqL K H d (xs.map V.int))(_:xs.length=ls.length)(_:SqL K H e [])(_:TabsOk T H)(_:∀ (z:Int) H',aN T H H'->Q (.int z) H')
variable {Ab:Addr}{Ai:FuncData}(lW:Df K mg "used_of" lB ["roll","ponds","takes","lets"] Ab Ai)
include cR mY lW in
theorem Rm (B:Blt mg)(C:Mth mg):(CX0|||2) Ab Ai ["roll","ponds","takes","lets"] (Je K T):=by
 obtain ⟨tM,hMOUTH⟩:=C.MOUTH;refine lW.F.ok wY ?_ ?_;walk_at "i";obtain ⟨b,c,d,e,xs,rs,us,ls,ps,rfl,hB,d0,hl1,hC,d1,hp1,hD,hxl,hE,tk,q⟩:=h;have hrl:rs.length=ls.length:=by rw [d0.length,TX]
 have hul:us.length=ps.length:=by rw [d1.length,TX]
 refine ⟨_,(Jv (i:=4) wY.nd rfl (Or.inr rfl) (fP (ao lB) rfl ["roll","ponds","takes","lets","keepers","users"] rfl ["number","room","leak"] [none,none,none] (by decide+kernel) (by decide+kernel) (by decide+kernel) rfl (bF (pv 1)) (fun _ _ _=>(qw (K:=K) (n:=3) rfl rfl (aB (bA (i:=0) (show (["number","room","leak"]:List Str).Nodup by decide+kernel) rfl (Or.inl rfl)) (aB (bA (i:=1) (show (["number","room","leak"]:List Str).Nodup by decide+kernel) rfl (Or.inl rfl)) (aB (bA (i:=2) (show (["number","room","leak"]:List Str).Nodup by decide+kernel) rfl (Or.inl rfl)) bH))))) (fun _ _ _=>dJ) (fun _ _ _=>(pv 0)))<|>kZ (i:=5) (ao lB) rfl ["roll","ponds","takes","lets","keepers","users"] rfl ["number","one","keepers"] [none,none,some 4] (by decide+kernel) (by decide+kernel) (by decide+kernel) rfl wY.nd rfl rfl (Ni rfl B.enumerate (pv 0>=>ak)) (fun _ _ _=>(qw (K:=K) (n:=2) rfl rfl (aB (bA (i:=0) (show (["number","one","keepers"]:List Str).Nodup by decide+kernel) rfl (Or.inl rfl)) (aB (bA (i:=1) (show (["number","one","keepers"]:List Str).Nodup by decide+kernel) rfl (Or.inl rfl)) bH)))) (fun _ _ _=>(Ds (PW.pt (pw_and (lE (jA (cR<*mY<*(pv 1>=>ak)))) (pw_and1 (aP (Dy (K:=K) rfl) (pv 0) (pv 2) (by rfl))))))) (fun _ _ _=>(pv 0)) rfl<|>(~~~(@aO _ _ _ _ (@bB _ _ _ _ _ _ _ _ mH (aC (pA rfl) rfl B.sum ae9 (fP (ao lB) rfl ["roll","ponds","takes","lets","keepers","users"] rfl ["number","takes"] [none,some 2] (by decide+kernel) (by decide+kernel) (by decide+kernel) rfl (bF (pv 5)) (fun _ _ _=>(bA (i:=0) (show (["number","takes"]:List Str).Nodup by decide+kernel) rfl (Or.inl rfl))) (fun _ _ _=>dJ) (fun _ _ _=>(@aM _ _ _ _ _ _ _ (jM (K:=K) rfl) (pv 1) (pv 0) (fun _ _=>rfl)))>=>ak)) (aC (pA rfl) rfl B.sum ae9 (fP (ao lB) rfl ["roll","ponds","takes","lets","keepers","users"] rfl ["place","reach","amount"] [none,none,none] (by decide+kernel) (by decide+kernel) (by decide+kernel) rfl (bF (pv 3)) (fun _ _ _=>(qw (K:=K) (n:=3) rfl rfl (aB (bA (i:=0) (show (["place","reach","amount"]:List Str).Nodup by decide+kernel) rfl (Or.inl rfl)) (aB (bA (i:=1) (show (["place","reach","amount"]:List Str).Nodup by decide+kernel) rfl (Or.inl rfl)) (aB (bA (i:=2) (show (["place","reach","amount"]:List Str).Nodup by decide+kernel) rfl (Or.inl rfl)) bH))))) (fun _ _ _=>(Ds (aP zc (pv 1) (eV (v:=.int (-1)) rfl hMOUTH ⟨_,rfl⟩) (aX _)))) (fun _ _ _=>(pv 2))>=>ak)))))),?_⟩;have O:=Ow.refl tk;refine ⟨_,rfl,c,rfl,⟨_,hC⟩,fun lk hlk=>?_⟩;refine cJ (K:=K) (xs:=us) (fun i τ H'=>Iv (∃ (v0 v1 v2:Option V),τ=[v0,v1,v2]/\Ow T H H' [(lk,.lst (((ps.take i).map (·.1)).map V.int))]))
  ⟨trivial,none,none,none,rfl,O.mk' hlk rfl⟩ (fun _ _ _ _ ⟨_,_,_,_,_,O⟩=>O.same.seq hC) ?_ ?_
 ·rintro i y τ H3 hy ⟨-,v0,v1,v2,rfl,O⟩;obtain ⟨ap,p,rfl,hp,hT⟩:=d1.JC hy;have hi:=(acp.mp hp).1;refine ⟨ap,_,rfl,hT.mo O.same,rfl,_,_,rfl,_,_,rfl,_,_,rfl,rfl,?_⟩;refine aai ?_;refine ⟨_,rfl,_,O.get 0,aG (by rw [TX,TX,aed];omega),?_⟩;walk_at "pt";refine ⟨trivial,_,_,_,rfl,?_⟩;rw [aeA,hp,ad3,ad3];exact O
 rintro τ H3 ⟨-,v0,v1,v2,rfl,O⟩;refine ⟨_,rfl,b,_,rfl,O.same.seq hB,fun lu hlu=>?_⟩;generalize (((ps.take us.length).map (·.1)):List Int)=kl at O;refine Qk (K:=K) (xs:=rs) (fun i τ H'=>Iv (∃ (v0 v1:Option V)(gs:List Nat),τ=[v0,v1,some (.ref lk)]/\gs.length<=i/\(∀ k∈gs,k<ls.length)/\Ow T H H' [(lu,.lst ((Tn.asI gs).map V.int)),(lk,.lst (kl.map V.int))]))
  ⟨trivial,none,none,[],rfl,ad2 _,(fun k hk=>nomatch hk),O.mk' hlu rfl⟩ (fun _ _ _ _ ⟨_,_,_,_,_,_,_,O⟩=>O.same.seq hB) ?_ ?_
 ·rintro i y t' τ H4 hy ⟨-,v0,v1,gs,rfl,hgl,hg,O⟩ ht';obtain ⟨al,l,rfl,hl,hT⟩:=d0.qD hy;have hi:=(acp.mp hl).1;walk_at "nw";refine ⟨t',_,rfl,O.sqT 0,rfl,_,_,rfl,_,_,rfl,rfl,?_⟩;have O:=O.tail;refine ⟨_,rfl,al,l,rfl,hT.mo O.same,_,rfl,ifN (ifN (ifD (fun hc=>?_) fun hc=>?_))⟩
  ·refine ⟨_,rfl,_,rfl,lk,_,rfl,.inl (O.sq 1),rfl,wF _,_,rfl,?_⟩;rw [if_pos rfl,DN];refine ifN (ifD (fun hm=>?_) fun hm=>?_)
   ·exact ⟨trivial,_,_,gs,rfl,by omega,hg,O⟩
   ·refine ⟨_,rfl,_,O.get 0,aG (by rw [TX,Tn.kE];omega),?_⟩;walk_at "pt";refine ⟨trivial,_,_,gs++[i],rfl,by rw [ad7];simp only [ael,aeR];omega,fun k hk=>?_,?_⟩
    ·rcases aem.mp hk with z| z
     ·exact hg k z
     ·rw [aeD.mp z];exact hi
    ·unfold Tn.asI at O ⊢;rw [ad3,ad3];exact O
  ·exact yC ⟨trivial,_,_,gs,rfl,by omega,hg,O⟩
 rintro τ H4 ⟨-,v0,v1,gs,rfl,hgl,hg,O⟩;refine ⟨_,rfl,lu,rfl,⟨_,O.sq 0⟩,fun l1 hl1'=>?_⟩;refine cJ (K:=K) (xs:=(Tn.asI gs).map V.int) (fun i τ H'=>Iv (∃ (v0:Option V),τ=[v0,some (.ref d)]/\Ow T H H' [(l1,.lst (((gs.take i).map fun j=>xs.getD j 0).map V.int)),(lu,.lst ((Tn.asI gs).map V.int)),(lk,.lst (kl.map V.int))]))
  ⟨trivial,none,rfl,O.mk' hl1' rfl⟩ (fun _ _ _ _ ⟨_,_,_,O⟩=>O.sq 1) ?_ ?_
 ·rintro i y τ H5 hy ⟨-,v0,rfl,O⟩;obtain ⟨z,hz,rfl⟩:=ints_get hy;obtain ⟨j,hj,rfl⟩:=Tn.jR hz;have hjl:=hg j (ad1 hj);have hi:=(acp.mp hj).1;refine Hf ?_;refine ⟨_,rfl,_,rfl,d,_,(j:Int),_,rfl,rfl,O.same.seq hD,bh (bL (ns:=xs) (k:=j) (by omega)),?_⟩;refine ⟨_,O.get 0,aG (by rw [TX,TX,aed];omega),?_⟩;walk_at "pt";refine ⟨trivial,_,rfl,?_⟩;rw [Tn.iz hj,ad3];exact O
 rintro τ H5 ⟨-,v0,rfl,O⟩;refine ⟨l1,_,rfl,O.sq 0,?_⟩;refine ⟨_,rfl,e,rfl,⟨_,O.same.seq hE⟩,fun l2 hl2=>?_⟩;refine cJ (K:=K) (xs:=[]) (fun i τ H'=>Iv (∃ (v0 v1 v2:Option V),τ=[v0,v1,v2]/\Ow T H H' [(l2,.lst (([]:List Int).map V.int))]))
  ⟨trivial,none,none,none,rfl,O.tail.tail.tail.mk' hl2 rfl⟩ (fun _ _ _ _ ⟨_,_,_,_,_,O⟩=>O.same.seq hE) ?_ ?_
 ·rintro i y τ H6 hy;cases hy
 rintro τ H6 ⟨-,v0,v1,v2,rfl,O⟩;exact ⟨l2,_,rfl,O.sq 0,_,_,rfl,rfl,q _ _ O.same⟩
theorem ZC (h:z∈Rv.NZ r r.length):0<=z/\z<(r.length:Int):=by
 unfold Rv.NZ at h;obtain ⟨j,hj,rfl⟩:=aep.mp h;have:=aeB.mp (List.mem_filter.mp hj).1;omega
abbrev zq:Stmt:=top 63
theorem jg:aH ["below","springs","roll","ponds","kept","calls","lets","left","dealt_by","takes","after","lost","flows","out","sheet"] ["below","springs","roll","ponds","kept","calls","lets"] (ao zq):=by walk_at "sc"
structure adZ (r s:List Int)(ls:List Lic)(ps:List (Int × Int × Int))(ks cs:List Int):Prop where
 riv:Rv.iB r
 r64:r.length<64
 sl:s.length=r.length
 l64:ls.length<64
 lok:∀ l∈ls,um r l
 kl:ps.length=ks.length
 p1:ps.length<=1000
 pok:∀ p∈ps,0<=p.1/\p.1<(ls.length:Int)/\0<=p.2.2/\p.2.2<=1000
 cl:ls.length=cs.length
 sn:∀ x∈s,0<=x
 ln:∀ c∈fQ cs ps ks ps.length,0<=c
inductive Mu (K:PySem.W.Frag)(T:dY)(vs:List V)(H:Hp)(Q:VK)(E:XK):Prop
 | mk (r s:List Int)(rs us:List V)(ls:List Lic)(ps:List (Int × Int × Int))(ks cs:List Int)(a b c d e g h:Addr)(_:vs=[.ref a,.ref b,.ref c,.ref d,.ref e,.ref g,.ref h])(_:SqL K H a (r.map V.int))(_:SqL K H b (s.map V.int))(_:SqL K H c rs)(_:bT K H rs (ls.map Ig))(_:SqL K H d us)(_:bT K H us (ps.map dMv))(_:SqL K H e (ks.map V.int))(_:SqL K H g (cs.map V.int))(_:SqL K H h [])(_:adZ r s ls ps ks cs)(_:TabsOk T H)(_:∀ (t lt la lf ts:Addr)(xs as fs sh:List Int)(Hb H':Hp),aN T H Hb->Ow T Hb H' [(t,.tup [.ref lt,.ref la,.ref lf,.ref ts]),(ts,.tup (sh.map V.int)),(lf,.lst (fs.map V.int)),(la,.lst (as.map V.int)),(lt,.lst (xs.map V.int))]->Ew r s ls (fQ cs ps ks ps.length) xs->as=(List.range ps.length).map (fun i=>Bu ps ks xs i - zf ps ks xs i)->Q (.ref t) H')
variable (mX:(CX0|||3) qO rH ["below","roll","ponds","kept","calls","lets"] (Mj K T))
variable (Kc:(CX0|||7) PJ Qh ["below","springs","roll","calls"] (Mt K T))
variable (G6:(CX0|||1) Af Am ["ponds","kept","takes"] (T5 K T))
variable (CG:(CX0|||7) xQ xY ["below","springs","moves"] (Jj K T))
variable (Cy:(CX0|||2) xM xV ["roll","ponds","takes","lets"] (Tr K T))
variable (Ba:(CX0|||1) uU vo ["below"] (Ft K T))
variable (G3:(CX0|||2) Ab Ai ["roll","ponds","takes","lets"] (Je K T))
variable {Ei:Addr}{El:FuncData}(pH:Df K mg "day_of" zq ["below","springs","roll","ponds","kept","calls","lets"] Ei El)
include ur lZ iR jH cQ jF lW mX Kc G6 CG Cy Ba G3 pH in
theorem Zv (B:Blt mg):
  (CX0|||8) Ei El ["below","springs","roll","ponds","kept","calls","lets"] (Mu K T):=by
 refine pH.F.ok jg ?_ ?_;walk_at "i";obtain ⟨r,s,rs,us,ls,ps,ks,cs,a,b,c,d,e,g,h,rfl,hA,hB,hC,d0,hD,d1,hE,hG,hH,ok,tk,q⟩:=h;have okl:=ok.l64;have hlc:=ok.cl;have hkl:=ok.kl;refine ⟨_,(iH (cQ<*mX<*(pv 0>=>pv 2>=>pv 3>=>pv 4>=>pv 5>=>pv 6>=>ak)) (fZ rfl (aB (7>>jg) (aB (8>>jg) bH)))<|>9<$>jg<$>(ur<*Kc<*(pv 0>=>pv 1>=>pv 2>=>pv 8>=>ak))<|>iH (lZ<*G6<*(pv 3>=>pv 7>=>pv 9>=>ak)) (fZ rfl (aB (10>>jg) (aB (11>>jg) bH)))<|>Jv (i:=12) jg.nd rfl (Or.inr rfl) (jH<*CG<*(pv 0>=>pv 1>=>jF<*Cy<*(pv 2>=>pv 3>=>pv 9>=>pv 6>=>ak)>=>ak))<|>13<$>jg<$>(aC (pA rfl) rfl B.sum ae9 (fP (ao zq) rfl ["below","springs","roll","ponds","kept","calls","lets","left","dealt_by","takes","after","lost","flows","out","sheet"] rfl ["reach","flows"] [none,some 12] (by decide+kernel) (by decide+kernel) (by decide+kernel) rfl (bF (iR<*Ba<*(pv 0>=>ak))) (fun _ _ _=>(bA (i:=0) (show (["reach","flows"]:List Str).Nodup by decide+kernel) rfl (Or.inl rfl))) (fun _ _ _=>dJ) (fun _ _ _=>(@aM _ _ _ _ _ _ _ (jM (K:=K) rfl) (pv 1) (pv 0) (fun _ _=>rfl)))>=>ak))<|>14<$>jg<$>(@f9 _ _ _ _ _ (aC (pA rfl) rfl B.sum ae9 (pv 1>=>ak)>=>aC (pA rfl) rfl B.sum ae9 (pv 4>=>ak)>=>lW<*G3<*(pv 2>=>pv 3>=>pv 9>=>pv 6>=>ak)>=>aC (pA rfl) rfl B.sum ae9 (pv 10>=>ak)>=>aC (pA rfl) rfl B.sum ae9 (pv 11>=>ak)>=>pv 13>=>ak))<|>(~~~(@aO _ _ _ _ (@f9 _ _ _ _ _ (pv 9>=>pv 10>=>pv 12>=>pv 14>=>ak))))),?_⟩;have O:=Ow.refl tk;refine ⟨_,rfl,_,rfl,_,rfl,_,rfl,_,rfl,_,rfl,.ref a,.ref c,d,e,g,h,us,ps,ks,cs,rfl,hD,d1,hE,hkl,hG,fun p hp=>⟨(ok.pok p hp).1,by have:=(ok.pok p hp).2.1;omega⟩,hH,tk,fun t0 la lb H1 OD=>?_⟩;have O:=O.join OD;clear OD;refine ⟨t0,_,rfl,O.sqT 0,rfl,_,_,rfl,_,_,rfl,rfl,?_⟩;have O:Ow T H H1 [(lb,.lst ((fQ cs ps ks ps.length).map V.int)),(la,.lst (ks.map V.int))]:=O.tail;have hsl:=jQ cs ps ks ps.length;have r64:=ok.r64;have hp1:=ok.p1;refine ⟨_,rfl,_,rfl,_,rfl,_,rfl,a,b,lb,.ref c,r,s,ls,fQ cs ps ks ps.length,rfl,⟨O.same.seq hA,ok.riv,r64⟩,O.same.seq hB,ok.sl,ok.sn,.list (O.same.seq hC) (d0.mo O.same),okl,O.sq 0,by omega,ok.lok,ok.ln,O.same.t1,O.Bt fun lt H2 ys O e2=>?_⟩;obtain ⟨xs,rfl,DX⟩:=e2;have hxl:=DX.len;refine ⟨_,rfl,_,rfl,_,rfl,d,la,lt,us,ps,ks,xs,rfl,O.same.seq hD,d1.mo O.same,hp1,O.sq 2,hkl,O.sq 0,fun p hp=>⟨(ok.pok p hp).1,by have:=(ok.pok p hp).2.1;omega,(ok.pok p hp).2.2⟩,O.same.t1,fun t2 lf2 ll H3 OE=>?_⟩;have O:=O.join OE;clear OE;refine ⟨t2,_,rfl,O.sqT 0,rfl,_,_,rfl,_,_,rfl,rfl,?_⟩;obtain ⟨as,has,hasl⟩:∃ as:List Int,as=(List.range ps.length).map (fun i=>Bu ps ks xs i - zf ps ks xs i)/\as.length=ps.length:=⟨_,rfl,by rw [TX,aeU]⟩;obtain ⟨los,hlos⟩:∃ los:List Int,los=(List.range ps.length).map (zf ps ks xs):=⟨_,rfl⟩;have O:Ow T H H3 [(ll,.lst (los.map V.int)),(lf2,.lst (as.map V.int)),(lt,.lst (xs.map V.int))]:=by rw [has,hlos];exact O.sub (.cons _ (.cons₂ _ (.cons₂ _ (.cons₂ _ (List.nil_sublist _)))))
 clear hlos;refine ⟨_,rfl,_,rfl,_,rfl,_,rfl,_,rfl,_,rfl,c,lt,h,.ref d,xs,rs,ls,rfl,O.same.seq hC,d0.mo O.same,by omega,O.sq 2,hxl,O.same.seq hH,O.same.t1,fun lm Hm H4 vs sm OM dm=>?_⟩;have O:=O.vL (sm.trans OM.same);refine ⟨a,b,lm,r,s,aal ls xs,rfl,⟨O.same.seq hA,ok.riv,r64⟩,O.same.seq hB,ok.sl,.list (OM.sq 0) (dm.mo OM.same),fun m hm=>?_,O.same.t1,O.Bt fun lf H5 ys O e5=>?_⟩
 ·obtain ⟨p,hp,rfl⟩:=aep.mp hm;obtain ⟨h0,h1,h2⟩:=(ok.lok p.1 (List.of_mem_zip hp).1).1;exact ⟨h0,h1,h2⟩
 subst e5;have hfl:(Rv.acq r s (aal ls xs)).length=r.length:=(Rv.Py r s (aal ls xs)).len;generalize Rv.acq r s (aal ls xs)=fl at O hfl;refine ⟨_,rfl,a,r,rfl,O.same.seq hA,r64,O.same.t1,O.Bt fun lq H6 ys O e6=>?_⟩;subst e6;refine ⟨lq,rfl,⟨_,O.sq 0⟩,fun lo hlo=>?_⟩;refine cJ (K:=K) (xs:=(Rv.NZ r r.length).map V.int) (fun i τ H'=>Iv (∃ (v0:Option V)(os:List Int),τ=[v0,some (.ref lf)]/\os.length=i/\Ow T H H' [(lo,.lst (os.map V.int)),(lq,.lst ((Rv.NZ r r.length).map V.int)),(lf,.lst (fl.map V.int)),(ll,.lst (los.map V.int)),(lf2,.lst (as.map V.int)),(lt,.lst (xs.map V.int))]))
  ⟨trivial,none,[],rfl,rfl,O.mk' hlo rfl⟩ (fun _ _ _ _ ⟨_,_,_,_,_,O⟩=>O.sq 1) ?_ ?_
 ·clear O;rintro i y τ H7 hy ⟨-,v0,os,rfl,hol,O⟩;obtain ⟨z,hz,rfl⟩:=ints_get hy;have hzr:=ZC (ad1 hz);have hi:=(acp.mp hz).1;have hml:=Rv.JD r r.length;refine Hf ?_;refine ⟨_,rfl,_,rfl,lf,_,_,_,rfl,rfl,O.sq 2,gk hzr.1 (by omega),?_⟩;refine ⟨_,O.get 0,aG (by rw [TX];omega),?_⟩;walk_at "pt";exact ⟨trivial,_,os++[fl.getD z.toNat 0],rfl,by rw [ad7,hol];rfl,by rw [ad3];exact O⟩
 clear O;rintro τ H7 ⟨-,v0,os,rfl,hol,O⟩;refine ⟨lo,_,rfl,O.sq 0,?_⟩;have O:=O.tail.tail;refine ⟨_,rfl,b,_,rfl,O.same.seq hB,_,rfl,e,_,rfl,O.same.seq hE,?_⟩;refine ⟨_,rfl,_,rfl,_,rfl,_,rfl,c,d,lt,h,xs,rs,us,ls,ps,rfl,O.same.seq hC,d0.mo O.same,by omega,O.same.seq hD,d1.mo O.same,hp1,O.sq 3,hxl,O.same.seq hH,O.same.t1,fun uz H8 sm=>?_⟩;have O:=O.vL sm;refine ⟨_,rfl,lf2,_,rfl,O.sq 2,_,rfl,ll,_,rfl,O.sq 1,_,rfl,szl,fun lh hlh=>?_⟩;walk_at "nw";refine ⟨_,rfl,_,rfl,_,rfl,_,rfl,szl,fun t ht=>?_⟩;walk_at "nw";exact q t lt lf2 lf lh xs as fl [s.sum,ks.sum,uz,as.sum,los.sum,os.sum] H _ (aN.refl tk) (O.del 3) DX has
def grt (gs cs:List Int):List Int:=List.zipWith max cs (gs++List.replicate (cs.length - gs.length) 0)
theorem acS (n:Nat):(List.replicate n [V.int 0]).flatten=(List.replicate n (0:Int)).map V.int:=by
 induction n with
 | zero=>rfl
 | succ n ih=>rw [ae2,afo,ih,ae2];rfl
theorem Y0 {ls:List Int}{c l:Int}(hc:cs[i]?=some c)(hl:ls[i]?=some l):List.zipWith max (cs.take (i+1)) (ls.take (i+1))=List.zipWith max (cs.take i) (ls.take i)++[max c l]:=by
 have h1:=(acp.mp hc).1;have h2:=(acp.mp hl).1;rw [Tn.bZ hc,Tn.bZ hl,List.zipWith_append (by rw [aed,aed];omega)];rfl
abbrev j9:Stmt:=top 70
theorem tY:aH ["before","calls","longer"] ["before","calls"] (ao j9):=by walk_at "sc"
inductive TY (K:PySem.W.Frag)(T:dY)(vs:List V)(H:Hp)(Q:VK)(E:XK):Prop
 | mk (a b:Addr)(gs cs:List Int)(_:vs=[.ref a,.ref b])(_:H a=some (.lst (gs.map V.int)))(_:SqL K H b (cs.map V.int))(_:gs.length<=cs.length)(_:cs.length<=900)(_:TabsOk T H)(_:tX T H (fun xs=>xs=(grt gs cs).map V.int) Q)
variable {oO:Addr}{oZ:FuncData}(fD:Df K mg "greatest_of" j9 ["before","calls"] oO oZ)
include fD in
theorem abh (B:Blt mg):(CX0|||1) oO oZ ["before","calls"] (TY K T):=by
 refine fD.F.ok tY ?_ ?_;walk_at "i";obtain ⟨a,b,gs,cs,rfl,hA,hB,hl,h9,tk,q⟩:=h;have hml:(((cs.map V.int).length:Nat):Int) - (((gs.map V.int).length:Nat):Int)=((cs.length - gs.length:Nat):Int):=by rw [TX,TX];omega
 refine ⟨_,(2<$>tY<$>(@bB _ _ _ _ _ _ _ _ Gk (pv 0) (@bB _ _ _ _ _ _ _ _ yw (@bU _ _ _ _ (au>=>ak)) (@bB _ _ _ _ _ _ _ _ wz (aC aA rfl B.len ad9 (pv 1>=>ak)) (aC aA rfl B.len ad9 (pv 0>=>ak)))))<|>(~~~(@aO _ _ _ _ (fP (ao j9) rfl ["before","calls","longer"] rfl ["call","other"] [none,none] (by decide+kernel) (by decide+kernel) (by decide+kernel) rfl (qu rfl B.zip (pv 1>=>pv 2>=>ak)) (fun _ _ _=>(qw (K:=K) (n:=2) rfl rfl (aB (bA (i:=0) (show (["call","other"]:List Str).Nodup by decide+kernel) rfl (Or.inl rfl)) (aB (bA (i:=1) (show (["call","other"]:List Str).Nodup by decide+kernel) rfl (Or.inl rfl)) bH)))) (fun _ _ _=>dJ) (fun _ _ _=>(aC (GF rfl) rfl B.max PyProof.Rows.boot_max (pv 0>=>pv 1>=>ak))))))),?_⟩;have O:=Ow.refl tk;refine ⟨_,rfl,szl,fun l1 h1=>?_⟩;walk_at "nw";have hA':∀ {H'},aN T H H'->SqL K H' a (gs.map V.int):=fun s=>s.seq (SqL.of hA);refine ⟨_,rfl,b,_,rfl,.inl (O.same.seq hB),_,rfl,a,_,rfl,.inl (hA' O.same),_,_,rfl,rfl,l1,_,_,rfl,rfl,O.get 0,by rw [hml];omega,by rw [hml];omega,iI (by rw [hml,aeb];simp only [ael,aeR];omega),fun l2 h2=>?_⟩;walk_at "nw";rw [hml,aeb,acS] at O;have eA:=O.same.keep _ _ hA (fun _ z=>nomatch z);refine ⟨a,l2,_,_,rfl,rfl,eA,O.get 0,iI (by rw [TX,TX,aeH];omega),fun l3 h3=>?_⟩;walk_at "nw";rw [<- ad3] at O;have hll:(gs++List.replicate (cs.length - gs.length) 0).length=cs.length:=by rw [ad7,aeH];omega
 have eq:grt gs cs=List.zipWith max cs (gs++List.replicate (cs.length - gs.length) 0):=rfl;generalize gs++List.replicate (cs.length - gs.length) 0=lg at O hll eq;have O:=O.two.two;refine ⟨_,rfl,_,rfl,b,l3,_,_,rfl,O.same.seq hB,O.sq 0,fun acc hacc=>?_⟩;refine Em (K:=K) (fun i τ H'=>Iv (∃ (v0 v1:Option V),τ=[v0,v1]/\Ow T H H' [(acc,.lst ((List.zipWith max (cs.take i) (lg.take i)).map V.int)),(l3,.lst (lg.map V.int))])) (by rw [TX,TX];omega)
  ⟨trivial,none,none,rfl,O.mk' hacc rfl⟩ (fun i τ H' _ ⟨_,_,_,_,O⟩=>⟨O.same.seq hB,O.sq 1⟩) ?_ ?_
 ·clear O;rintro i x y t τ H' hx hy ⟨-,v0,v1,rfl,O⟩ ht;obtain ⟨c,hc,rfl⟩:=ints_get hx;obtain ⟨l,hl',rfl⟩:=ints_get hy;have hi:=(acp.mp hc).1;walk_at "nw";refine ⟨t,_,rfl,O.sqT 0,rfl,_,_,rfl,_,_,rfl,rfl,?_⟩;refine aai ?_;refine ⟨_,rfl,_,rfl,_,_,rfl,?_⟩;refine ⟨_,O.get 1,aG (by rw [TX,afp,aed,aed];omega),?_⟩;walk_at "pt";refine ⟨trivial,_,_,rfl,?_⟩;rw [Y0 hc hl',ad3];have e:(if l >c then l else c)=max c l:=by rw [Int.max_def];split <;>split <;>omega
  rw [<- e];exact O.tail
 clear O;rintro τ H' ⟨-,v0,v1,rfl,O⟩;rw [TX,ad8 (ad2 _),ad8 (by omega),<- eq] at O;exact O.ret 0 rfl q rfl
abbrev cZ:Stmt:=inClass (top 71) 6
theorem nU:aH ["self","amounts","count"] ["self","amounts","count"] (ao cZ):=by walk_at "sc"
inductive TF (K:PySem.W.Frag)(T:dY)(cD:Addr)(vs:List V)(H:Hp)(Q:VK)(E:XK):Prop
 | mk (p:V)(a:Addr)(xs:List Int)(n:Int)(_:vs=[p,.ref a,.int n])(_:SqL K H a (xs.map V.int))(_:xs.length<=900)(_:TabsOk T H)(_:((xs.length:Int)=n/\(∀ x∈xs,0<=x/\x<=1000000000000)->∀ H',aN T H H'->Q .non H'))(_:(¬ ((xs.length:Int)=n/\∀ x∈xs,0<=x/\x<=1000000000000)->∀ (e:Addr)(H':Hp),aN T H H'->H' e=none->E (.ref cD) (some e) H'))
variable {fU:Addr}{fV:FuncData}(aQ:Dm K C "look_at_amounts" "Book.look_at_amounts" cZ ["self","amounts","count"] fU fV)
include bN iZ aQ in
theorem abb (B:Blt mg)(Es:Eu K mg "NoDay" cD):((CXE P w)|||2) fU fV ["self","amounts","count"] (TF K T cD):=by
 refine aQ.F.okX nU ?_ ?_
 walk_at "i"
 obtain ⟨p,a,xs,n,rfl,hA,h9,tk,q,qE⟩:=h
 have O:=Ow.refl tk
 refine ⟨_,(~~~(@dw _ _ _ _ _ _ _ _ (PW.pt (pw_or (aP zc (aC aA rfl B.len ad9 (pv 1>=>ak)) (pv 2) (aX _)) (pw_or1 (lE (jA (aC (tG rfl) rfl B.all afj (fP (ao cZ) rfl ["self","amounts","count"] rfl ["amount"] [none] (by decide+kernel) (by decide+kernel) (by decide+kernel) rfl (bF (pv 1)) (fun _ _ _=>(bA (i:=0) (show (["amount"]:List Str).Nodup by decide+kernel) rfl (Or.inl rfl))) (fun _ _ _=>dJ) (fun _ _ _=>(bN<*iZ<*(pv 0>=>ak)))>=>ak)))))))
   (~~~(iJ jD rfl (fun _ _ z=>z) rfl Es.m Es.q (jo>=>ak)))
   bf)),?_⟩
 refine ⟨_,rfl,a,_,rfl,.inl hA,_,rfl,rfl,_,rfl,ifN (ifI (fun hn=>?_) (fun hn=>⟨szl,fun e he=>qE (fun z=>hn (by rw [TX];exact z.1)) e H (aN.refl tk) he⟩))⟩
 rw [TX] at hn
 refine ⟨_,rfl,a,rfl,⟨_,hA⟩,fun lw hlw=>?_⟩
 refine cJ (K:=K) (xs:=xs.map V.int) (fun i τ H'=>Iv (∃ (v0:Option V)(bs:List Bool),τ=[v0]/\bs.length=i/\(bs.all id=true↔∀ x∈xs.take i,0<=x/\x<=1000000000000)/\Ow T H H' [(lw,.lst (bs.map V.bl))])) ⟨trivial,none,[],rfl,rfl,⟨(fun _ x hx=>nomatch hx),(fun _=>rfl)⟩,O.mk' hlw rfl⟩ (fun i τ H' _ ⟨_,_,_,_,_,_,O⟩=>O.same.seq hA) ?_ ?_
 ·clear O
  rintro i y τ H3 hy ⟨-,v0,bs,rfl,hbl,hb,O⟩
  obtain ⟨z,hz,rfl⟩:=ints_get hy
  have hi:=(acp.mp hz).1
  refine Hf ?_
  refine ⟨_,rfl,z,rfl,fun bz hbz=>?_⟩
  refine ⟨_,O.get 0,aG (by rw [TX];omega),?_⟩
  walk_at "pt"
  refine ⟨trivial,_,bs++[bz],rfl,by rw [ad7,hbl];rfl,?_,by rw [ad3];exact O⟩
  rw [Tn.bZ hz,List.all_append]
  simp only [List.all_cons,List.all_nil,Bool.and_true,aev,id_eq,aem,aeD]
  rw [hb,hbz]
  constructor
  ·rintro ⟨h1,h2⟩ x (h| h)
   ·exact h1 x h
   ·rw [h];exact h2
  ·intro h
   exact ⟨fun x hx=>h x (.inl hx),h z (.inr rfl)⟩
 clear O
 rintro τ H3 ⟨-,v0,bs,rfl,hbl,hb,O⟩
 rw [TX,ad8 (ad2 _)] at hb
 refine ⟨lw,bs,rfl,O.sq 0,_,rfl,?_⟩
 exact ifN (ifB (fun h=>q ⟨hn,hb.mp h⟩ H3 O.same) (fun h=>⟨szl,fun e he=>qE (fun z=>by rw [hb.mpr z.2] at h;cases h) e H3 O.same he⟩))
theorem Gz (xs:List V)(k:Nat):Aq xs (some (k:Int)) none=xs.drop k:=by
 unfold Aq;rw [HT.Jq,HT.uL];rcases Nat.le_total k xs.length with h| h
 ·rw [Nat.min_eq_left h,ad8 (by rw [aeS];exact ad2 _)]
 ·rw [Nat.min_eq_right h,List.drop_of_length_le h,List.drop_of_length_le (ad2 _),List.take_nil]
theorem bT.drop':∀ (m:Nat){vs:List V}{ds:List PyData},bT K H vs ds->bT K H (vs.drop m) (ds.drop m)
 | 0,_,_,h=>h
 | _+1,_,_,.nil=>.nil
 | m+1,_,_,.cons _ b=>bT.drop' m b
def tE (S:RS)(gs:List Int):List Int:=gs++(S.ls.drop gs.length).map fun l:Lic=>l.most
def Bx.lg' (Z:Bx)(l:Addr):Bx:=⟨Z.ld,Z.lk,Z.lr,l,Z.la⟩
abbrev mD:Stmt:=inClass (top 71) 10
theorem nY:aH ["self","others","fallen"] ["self"] (ao mD):=by walk_at "sc"
inductive Jo (K:PySem.W.Frag)(T:dY)(C:Addr)(vs:List V)(H:Hp)(Q:VK)(E:XK):Prop
 | mk (A:Rs)(Z:Bx)(H0:Hp)(B:List (Addr × HO))(r:List Int)(S S':RS)(gs:List Int)(rs ks us:List V)(_:vs=[.ref A.p])(_:RA K T C A (exB Z) r H0 H (BL Z (gs.map V.int) rs ks us++B) S)(_:RP r (exB Z) S)(_:gs.length<=S.ls.length)(_:step r S (.lapse (tE S gs))=.ok S')(_:∀ (Hb H':Hp)(fl lg:Addr)(fs:List V),aN T H0 Hb->RA K T C A (exB (Z.lg' lg)) r Hb H' (BL (Z.lg' lg) [] rs ks us++((fl,.lst fs)::B)) S'->bT K Hb fs ((fall S.ls (tE S gs) (tE S gs).length).map dMv)->Q (.ref fl) H')
variable (yQ:((CXE P w)|||2) rm rT ["self","numbers"] (Jh K T C c))
variable {rB:Addr}{rZ:FuncData}(eG:Dm K C "close" "Book.close" mD ["self"] rB rZ)
include dX nP bG d9 fM yQ eG in
theorem Ru (B:Blt mg):
  (CX0|||3) rB rZ ["self"] (Jo K T C):=by
 have R:=fM;refine eG.F.ok nY ?_ ?_;walk_at "i";obtain ⟨A,Z,H0,L,r,S,S',gs,rs,ks,us,rfl,⟨ls,vs,O,d0,d1⟩,hp,hgl,hst,q⟩:=h;have hll:ls.length=S.ls.length:=by rw [d0.length,TX]
 have h60:=hp.l60;refine ⟨_,(kZ (i:=1) (ao mD) rfl ["self","others","fallen"] rfl ["one"] [none] (by decide+kernel) (by decide+kernel) (by decide+kernel) rfl nY.nd rfl rfl (bF (kj ux (bJ (pv 0) rfl) (lF (aC aA rfl B.len ad9 (bJ (pv 0) rfl>=>ak))) uN)) (fun _ _ _=>(bA (i:=0) (show (["one"]:List Str).Nodup by decide+kernel) rfl (Or.inl rfl))) (fun _ _ _=>dJ) (fun _ _ _=>(dX<*nP<*(pv 0>=>ak))) rfl<|>2<$>nY<$>(jY (pv 0) bG.c d9.m yQ hr.m d9.b .nil KD (@bB _ _ _ _ _ _ _ _ Gk (bJ (pv 0) rfl) (pv 1)>=>ak))<|>mF (pv 0) (@bU _ _ _ _ ak) rfl<|>(~~~(@aO _ _ _ _ (pv 2)))),?_⟩;refine ⟨_,rfl,A.p,C,A.dx,_,.ref A.ll,rfl,O.get 0,bG.c,bG.nL,rfl,_,rfl,A.p,C,A.dx,_,.ref Z.lg,rfl,O.get 0,R.c,R.nG,rfl,Z.lg,_,rfl,.inl (O.sq 6),gs.length,by rw [TX],A.ll,_,rfl,O.sq 3,fun l1 h1=>?_⟩;walk_at "nw";rw [Gz] at O;have dd:bT K H0 (ls.drop gs.length) ((S.ls.drop gs.length).map Ig):=by rw [List.map_drop];exact bT.drop' _ d0
 have hdl:(ls.drop gs.length).length=(S.ls.drop gs.length).length:=by rw [aeS,aeS,hll]
 have hdl2:(S.ls.drop gs.length).length<=60:=by rw [aeS];omega
 generalize hdr:ls.drop gs.length=dv at O dd hdl;refine ⟨l1,rfl,⟨_,O.sq 0⟩,fun lw hlw=>?_⟩;refine cJ (K:=K) (xs:=dv) (fun i τ H'=>Iv (∃ (v0:Option V),τ=[v0]/\Ow T H0 H' ((lw,.lst ((((S.ls.drop gs.length).take i).map fun l:Lic=>l.most).map V.int))::(l1,.lst dv)::(RX C A (exB Z) r S.day ls S.ns vs++(BL Z (gs.map V.int) rs ks us++L))))) ⟨trivial,none,rfl,O.mk' hlw rfl⟩ (fun i τ H' _ ⟨_,_,_,O⟩=>O.sq 1) ?_ ?_
 ·clear O;rintro i y τ H3 hy ⟨-,v0,rfl,O⟩;obtain ⟨al,l,rfl,hl,hT⟩:=dd.qD hy;have hi:=(acp.mp hl).1;refine Hf ?_;refine ⟨_,rfl,al,l,rfl,hT.mo O.same,?_⟩;refine ⟨_,O.get 0,aG (by rw [TX,TX,aed];omega),?_⟩;walk_at "pt";refine ⟨trivial,_,rfl,?_⟩;rw [Tn.bZ hl,ad3,ad3];exact O
 clear O;rintro τ H3 ⟨-,v0,rfl,O⟩;rw [hdl,ad8 (ad2 _)] at O;have O:=O.two;refine ⟨_,rfl,A.p,A.dx,_,rfl,O.get 1,(by exact hp.ex.lp),_,rfl,A.p,C,A.dx,_,.ref Z.lg,rfl,O.get 1,R.c,R.nG,rfl,_,rfl,Z.lg,lw,_,_,rfl,rfl,O.get 7,O.get 0,iI (by rw [TX,TX,TX];omega),fun lx hlx=>?_⟩;walk_at "nw";rw [<- ad3] at O;have O:Ow T H0 _ ((lx,.lst ((tE S gs).map V.int))::(RX C A (exB Z) r S.day ls S.ns vs++(BL Z (gs.map V.int) rs ks us++L))):=O.two;have O:=Ow.front [(lx,.lst ((tE S gs).map V.int))] (RX C A (exB Z) r S.day ls S.ns vs) (BL Z (gs.map V.int) rs ks us++L) O;have hcl:(tE S gs).length<=1000:=by unfold tE;rw [ad7,TX,aeS];omega
 refine ⟨A,exB Z,H0,_,r,S,lx,tE S gs,rfl,⟨ls,vs,O,d0,d1⟩,hp,hcl,(fun Hb H' X s O=>SqL.of (O.at_ _ (ad4 _ (.head _)))),fun S2 e Hb H4 fl fs sb ra df=>?_,fun k e=>by rw [hst] at e;cases e⟩;rw [hst] at e;cases e;clear O;obtain ⟨ls2,vs2,O,e0,e1⟩:=ra;refine ⟨szl,fun lg hlg=>?_⟩;walk_at "nw";refine ⟨_,rfl,A.p,C,A.dx,_,rfl,O.get 1,R.c,R.nG,(by show 10<1000;decide),?_⟩;walk_at "pt";have O:Ow T Hb _ ((lg,.lst [])::(RX C A (exB (Z.lg' lg)) r S'.day ls2 S'.ns vs2++((fl,.lst fs)::(lx,.lst ((tE S gs).map V.int))::(Z.lg,.lst (gs.map V.int))::(Z.lr,.lst rs)::(Z.lk,.lst ks)::(Z.ld,.lst us)::L))):=O;have O:Ow T Hb _ ([(lg,.lst [])]++(RX C A (exB (Z.lg' lg)) r S'.day ls2 S'.ns vs2++((fl,.lst fs)::(Z.lr,.lst rs)::(Z.lk,.lst ks)::(Z.ld,.lst us)::L))):=O.sub (.cons₂ _ (aeE (.cons₂ _ (.cons _ (ae0 _ _))) (RX C A (exB (Z.lg' lg)) r S'.day ls2 S'.ns vs2)));have O:=(Ow.front _ _ _ O).perm (afa (RX C A (exB (Z.lg' lg)) r S'.day ls2 S'.ns vs2) (List.Perm.cons (lg,HO.lst []) (afQ (l₁:=[(Z.lr,HO.lst rs),(Z.lk,HO.lst ks),(Z.ld,HO.lst us)]) (a:=(fl,HO.lst fs)) (l₂:=L))));exact ⟨_,rfl,q Hb _ fl lg fs sb ⟨ls2,vs2,O,e0,e1⟩ df⟩
abbrev kh:Stmt:=inClass (top 71) 7
theorem Bl:aH ["self"] ["self"] (ao kh):=by walk_at "sc"
def adS (d:List Int × List Int):PyData:=.tuple [.list (d.1.map PyData.int),.list (d.2.map PyData.int)]
def acg (K:PySem.W.Frag)(H:Hp)(v:V)(d:List Int × List Int):Prop:=∃ t a b:Addr,v=V.ref t/\SqT K H t [V.ref a,V.ref b]/\SqL K H a (d.1.map V.int)/\SqL K H b (d.2.map V.int)
inductive Tj (K:PySem.W.Frag)(T:dY)(C:Addr)(vs:List V)(H:Hp)(Q:VK)(E:XK):Prop
 | mk (A:Rs)(Z:Bx)(day:Int)(rs:List V)(ds:List (List Int × List Int))(_:vs=[.ref A.p])(_:H A.p=some (ZM C A (exB Z) day))(_:SqL K H Z.lr rs)(_:ds.length=rs.length)(_:ds.length<=900)(_:(∀ (i:Nat) v d,rs[i]?=some v->ds[i]?=some d->acg K H v d))(_:TabsOk T H)(_:∀ (l:Addr)(us:List V)(Hb H':Hp),aN T H Hb->Ow T Hb H' [(l,.lst us)]->bT K Hb us (ds.map adS)->Q (.ref l) H')
variable {oW:Addr}{pq:FuncData}(dG:Dm K C "record" "Book.record" kh ["self"] oW pq)
include dG in
theorem aa1 (B:Blt mg)(R:BC K C):(CX0|||1) oW pq ["self"] (Tj K T C):=by
 refine dG.F.ok Bl ?_ ?_;walk_at "i";obtain ⟨A,Z,day,rs,ds,rfl,hp,hL,hdl,h9,hd,tk,q⟩:=h;have O:=Ow.refl tk;refine ⟨_,(~~~(@aO _ _ _ _ (fP (ao kh) rfl ["self"] rfl ["springs","calls"] [none,none] (by decide+kernel) (by decide+kernel) (by decide+kernel) rfl (bF (bJ (pv 0) rfl)) (fun _ _ _=>(qw (K:=K) (n:=2) rfl rfl (aB (bA (i:=0) (show (["springs","calls"]:List Str).Nodup by decide+kernel) rfl (Or.inl rfl)) (aB (bA (i:=1) (show (["springs","calls"]:List Str).Nodup by decide+kernel) rfl (Or.inl rfl)) bH)))) (fun _ _ _=>dJ) (fun _ _ _=>(@f9 _ _ _ _ _ (bR (wG (K:=K) rfl) rfl B.list aes (pv 0>=>ak)>=>bR (wG (K:=K) rfl) rfl B.list aes (pv 1>=>ak)>=>ak)))))),?_⟩;refine ⟨_,rfl,A.p,C,A.dx,_,.ref Z.lr,rfl,hp,R.c,R.nR,rfl,Z.lr,rfl,⟨_,hL⟩,fun lw hlw=>?_⟩;refine cJ (K:=K) (xs:=rs) (fun i τ H'=>Iv (∃ (v0 v1:Option V)(Hb:Hp)(us:List V),τ=[v0,v1]/\us.length=i/\aN T H Hb/\Ow T Hb H' [(lw,.lst us)]/\bT K Hb us ((ds.take i).map adS))) ⟨trivial,none,none,H,[],rfl,rfl,aN.refl tk,O.mk' hlw rfl,.nil⟩ (fun i τ H' _ ⟨_,_,_,_,_,_,_,s,O,_⟩=>(s.trans O.same).seq hL) ?_ ?_
 ·clear O;rintro i y τ H3 hy ⟨-,v0,v1,Hb,us,rfl,hul,sb,O,dv⟩;have hi:=(acp.mp hy).1;obtain ⟨d,hd'⟩:∃ d,ds[i]?=some d:=⟨_,adW (by omega)⟩;obtain ⟨t,a,b,rfl,hT,hA,hB⟩:=hd i y d hy hd';have s3:=sb.trans O.same;refine ⟨t,_,rfl,hT.mo s3,rfl,_,_,rfl,_,_,rfl,rfl,?_⟩;refine aai ?_;refine ⟨_,rfl,a,_,rfl,.inl (s3.seq hA),fun la hla=>?_⟩;walk_at "nw";refine ⟨_,rfl,b,_,rfl,.inl ((sb.trans O.same).seq hB),fun lb hlb=>?_⟩;walk_at "nw";refine ⟨szl,fun t2 ht2=>?_⟩;walk_at "nw";refine ⟨_,O.get 3,aG (by omega),?_⟩;walk_at "pt";obtain ⟨Hc,O,sc,e1⟩:=O.frz;obtain ⟨Hd,O,sd,e2⟩:=O.frz;obtain ⟨He,O,se,e3⟩:=O.frz;refine ⟨trivial,_,_,He,us++[V.ref t2],rfl,by rw [ad7,hul];rfl,((sb.trans sc).trans sd).trans se,O,?_⟩;rw [Tn.bZ hd',ad3];exact (((dv.mo sc).mo sd).mo se).append (.cons (.tuple (((SqT.of e1).mo sd).mo se) (.cons (.list (SqL.of e3) (bT.ints _)) (.cons (.list ((SqL.of e2).mo se) (bT.ints _)) .nil))) .nil)
 clear O;rintro τ H3 ⟨-,v0,v1,Hb,us,rfl,hul,sb,O,dv⟩;rw [ad8 (by omega)] at dv;exact q lw us Hb H3 sb O dv
def Bv (d:List Int × List Int):PyData:=.tuple [tV d.1,tV d.2]
def JW (ps:List Pd)(ks xs:List Int):List Int:=(List.range ps.length).map (fun i=>Bu ps ks xs i - zf ps ks xs i)
def Wat (xs:List Int):Prop:=∀ x∈xs,0<=x/\x<=1000000000000
variable {A:Rs}{B:List (Addr × HO)}
theorem RA.same {ex:List (Str × V)}(h:RA K T C A ex r H0 H B S):aN T H0 H:=by
 obtain ⟨_,_,O,_,_⟩:=h;exact O.same
abbrev sY:Stmt:=inClass (top 71) 5
theorem eU:aH ["self","springs","calls","lets","lets_told","left","dealt_by","told","takes","kept","flows","sheet"] ["self","springs","calls","lets"] (ao sY):=by walk_at "sc"
inductive Ti (K:PySem.W.Frag)(T:dY)(C:Addr)(cD:Addr)(vs:List V)(H:Hp)(Q:VK)(E:XK):Prop
 | mk (A:Rs)(Z:Bx)(H0:Hp)(B:List (Addr × HO))(r:List Int)(S:RS)(gs ks:List Int)(rs us:List V)(ps:List Pd)(ds:List (List Int × List Int))(b g:Addr)(sp cs:List Int)(_:vs=[.ref A.p,.ref b,.ref g,.non])(_:(b,HO.lst (sp.map V.int))∈B)(_:(g,HO.lst (cs.map V.int))∈B)(_:sp.length<=900)(_:cs.length<=900)(_:RA K T C A (exB Z) r H0 H (BL Z (gs.map V.int) rs (ks.map V.int) us++B) S)(_:RP r (exB Z) S)(_:(∀ l∈S.ls,um r l))(_:bT K H0 us (ps.map dMv))(_:ps.length=ks.length)(_:ps.length<=900)(_:(∀ p∈ps,0<=p.1/\p.1<(S.ls.length:Int)/\0<=p.2.2/\p.2.2<=1000))(_:bT K H0 rs (ds.map Bv))(_:ds.length<=900)(_:gs.length<=S.ls.length)(_:sp.length=r.length)(_:Wat sp)(_:cs.length=S.ls.length)(_:Wat cs)(_:(∀ c∈fQ cs ps ks ps.length,0<=c))(_:∀ (t lt la lf ts:Addr)(Z':Bx)(Hb H':Hp)(xs ks':List Int)(td:Addr),aN T H0 Hb->Z'.ld=Z.ld->Ew r sp S.ls (fQ cs ps ks ps.length) xs->ks'=JW ps ks xs->RA K T C A (exB Z') r Hb H' (BL Z' ((grt gs cs).map V.int) (rs++[.ref td]) (ks'.map V.int) us++B) ⟨S.day+1,S.ls,S.ns,S.ds++[.turn]⟩->bT K Hb (rs++[.ref td]) ((ds++[(sp,fQ cs ps ks ps.length)]).map Bv)->SqT K H' t [.ref lt,.ref la,.ref lf,.ref ts]->SqL K H' la (ks'.map V.int)->Q (.ref t) H')
variable (fY:((CXE P w)|||2) fU fV ["self","amounts","count"] (TF K T cD))
variable (Kd:(CX0|||8) Ei El ["below","springs","roll","ponds","kept","calls","lets"] (Mu K T))
variable (fj:(CX0|||1) vd vG ["self"] (Mf K C "licences"))
variable (wQ:(CX0|||1) oO oZ ["before","calls"] (TY K T))
variable (pG:(CX0|||1) u9 vD ["self"] (LQ K T C c))
variable {xT:Addr}{yc:FuncData}(jc:DmD K C "run" "Book.run" sY ["self","springs","calls","lets"] xT yc)
include cQ aW cG bG fM mX pH fD aQ fY Kd fj wQ pG jc in
theorem aa0 (B:Blt mg):
  ((CXE P w)|||9) xT yc ["self","springs","calls","lets"] (Ti K T C cD):=by
 have R:=fM;refine jc.F.okX eU ?_ ?_;walk_at "i";obtain ⟨A,Z,H0,L,r,S,gs,ks,rs,us,ps,ds,b,g,sp,cs,rfl,mB,mG,hs9,hc9,⟨ls,vs,O,d0,d1⟩,hp,hlo,dP,hkl,hp9,pok,dR,hd9,hgl,hsl,w1,hcl,w2,hln,q⟩:=h;have hll:ls.length=S.ls.length:=by rw [d0.length,TX]
 have hrl:rs.length=ds.length:=by rw [dR.length,TX]
 have h60:=hp.l60;have r40:=hp.r40;refine ⟨_,(aU (jY (pv 0) fM.c aQ.m fY hr.m aQ.b .nil Gh (pv 1>=>aC aA rfl B.len ad9 (bJ (pv 0) rfl>=>ak)>=>ak))<|>aU (jY (pv 0) fM.c aQ.m fY hr.m aQ.b .nil Gh (pv 2>=>aC aA rfl B.len ad9 (bJ (pv 0) rfl>=>ak)>=>ak))<|>4<$>eU<$>(Jw (aP Nr (pv 3) yu (aX _)) (@bU _ _ _ _ ak) (pv 3))<|>iH (cQ<*mX<*(bJ (pv 0) rfl>=>bJ (pv 0) rfl>=>bJ (pv 0) rfl>=>bJ (pv 0) rfl>=>pv 2>=>pv 4>=>ak)) (fZ rfl (aB (5>>eU) (aB (6>>eU) bH)))<|>7<$>eU<$>(pH<*Kd<*(bJ (pv 0) rfl>=>pv 1>=>bJ (pv 0) rfl>=>bJ (pv 0) rfl>=>bJ (pv 0) rfl>=>pv 2>=>pv 4>=>ak))<|>iH (pv 7) (fZ rfl (aB (8>>eU) (aB (9>>eU) (aB (10>>eU) (aB (11>>eU) bH)))))<|>mF (pv 0) (bR bx rfl B.list aes (pv 9>=>ak)) rfl<|>aU (jy aea aef aeg aY (bJ (pv 0) rfl) (@f9 _ _ _ _ _ (bR bx rfl B.list aes (pv 1>=>ak)>=>pv 6>=>ak)>=>ak))<|>mF (pv 0) (@f9 _ _ _ _ _ (jL (pv 0) bG.c aW.m fj hr.m aW.b .nil wg>=>bR bx rfl B.list aes (pv 8>=>ak)>=>ak)) rfl<|>mF (pv 0) (fD<*wQ<*(bJ (pv 0) rfl>=>pv 2>=>ak)) rfl<|>aU (jL (pv 0) bG.c cG.m pG hr.m cG.b .nil wg)<|>(~~~(@aO _ _ _ _ (pv 7)))),?_⟩;refine ⟨_,rfl,A.p,A.dx,_,rfl,O.get 0,rfl,_,rfl,_,rfl,A.p,C,A.dx,_,.ref A.lb,rfl,O.get 0,bG.c,bG.nB,rfl,A.lb,_,rfl,.inl (O.sq 2),.ref A.p,b,sp,_,rfl,SqL.of (O.at_ _ (ad4 _ (ad4 _ mB))),hs9,O.same.t1,fun _ H1 s1=>?_,fun hn=>absurd ⟨by rw [TX,hsl],w1⟩ hn⟩;have O:=O.vL s1;refine ⟨_,rfl,A.p,A.dx,_,rfl,O.get 0,rfl,_,rfl,_,rfl,A.p,C,A.dx,_,.ref A.ll,rfl,O.get 0,bG.c,bG.nL,rfl,A.ll,_,rfl,.inl (O.sq 3),.ref A.p,g,cs,_,rfl,SqL.of (O.at_ _ (ad4 _ (ad4 _ mG))),hc9,O.same.t1,fun _ H2 s2=>?_,fun hn=>absurd ⟨by rw [hll,hcl],w2⟩ hn⟩;have O:=O.vL s2;have s2:=s1.trans s2;refine ⟨_,rfl,rfl,_,rfl,Ce ⟨szl,fun le hle=>?_⟩⟩;walk_at "nw";have ft:∀ {X:List (Addr × HO)}{x:Addr × HO}{ex:List (Str × V)}{gz rz kz:List V}{Z':Bx}{us':List V},x∈L->x∈X++(RX C A ex r S.day ls S.ns vs++(BL Z' gz rz kz us'++L)):=fun h=>ad4 _ (ad4 _ (ad4 _ h));have okD:adZ r sp S.ls ps ks cs:=⟨hp.rv,by omega,hsl,by omega,hlo,hkl,by omega,pok,hcl.symm,(fun x hx=>(w1 x hx).1),hln⟩;refine ⟨_,rfl,A.p,C,A.dx,_,.ref A.lb,rfl,O.get 1,bG.c,bG.nB,rfl,_,rfl,A.p,C,A.dx,_,.ref A.ll,rfl,O.get 1,bG.c,bG.nL,rfl,_,rfl,A.p,C,A.dx,_,.ref Z.ld,rfl,O.get 1,R.c,R.nD,rfl,_,rfl,A.p,C,A.dx,_,.ref Z.lk,rfl,O.get 1,R.c,R.nK,rfl,_,rfl,_,rfl,.ref A.lb,.ref A.ll,Z.ld,Z.lk,g,le,us,ps,ks,cs,rfl,O.sq 10,dP.mo O.same,O.sq 9,hkl,SqL.of (O.at_ _ (ft (X:=[_]) mG)),fun p hp=>⟨(pok p hp).1,by have:=(pok p hp).2.1;omega⟩,O.sq 0,O.same.t1,fun t0 la lc H3 OD=>?_⟩;have O:=O.join OD;clear OD;refine ⟨t0,_,rfl,O.sqT 0,rfl,_,_,rfl,_,_,rfl,rfl,?_⟩;have hless:=jQ cs ps ks ps.length;generalize hcs:fQ cs ps ks ps.length=cs' at O hless q;have O:Ow T H0 H3 ([(lc,.lst (cs'.map V.int)),(le,.lst [])]++(RX C A (exB Z) r S.day ls S.ns vs++(BL Z (gs.map V.int) rs (ks.map V.int) us++L))):=O.sub (.cons _ (.cons₂ _ (.cons _ (afK _))));refine ⟨_,rfl,A.p,C,A.dx,_,.ref A.lb,rfl,O.get 2,bG.c,bG.nB,rfl,_,rfl,_,rfl,A.p,C,A.dx,_,.ref A.ll,rfl,O.get 2,bG.c,bG.nL,rfl,_,rfl,A.p,C,A.dx,_,.ref Z.ld,rfl,O.get 2,R.c,R.nD,rfl,_,rfl,A.p,C,A.dx,_,.ref Z.lk,rfl,O.get 2,R.c,R.nK,rfl,_,rfl,_,rfl,r,sp,ls,us,S.ls,ps,ks,cs,A.lb,b,A.ll,Z.ld,Z.lk,g,le,rfl,O.sq 4,SqL.of (O.at_ _ (ft mB)),O.sq 5,d0.mo O.same,O.sq 11,dP.mo O.same,O.sq 10,SqL.of (O.at_ _ (ft mG)),O.sq 1,okD,O.same.t1,fun t lt la' lf ts xs as fs sh Hb H4 sb OD DX has=>?_⟩;rw [hcs] at DX;have O:=O.join (OD.base sb);clear OD sb;refine ⟨_,rfl,t,_,rfl,O.sqT 0,rfl,_,_,rfl,_,_,rfl,_,_,rfl,_,_,rfl,rfl,?_⟩;obtain ⟨Hz,O,sz,xt⟩:=(show Ow T H0 H4 ((t,.tup [.ref lt,.ref la',.ref lf,.ref ts])::_) from O).frz;have d0:=d0.mo sz;have d1:=d1.mo sz;have dR:=dR.mo sz;have O:Ow T Hz H4 ([(la',.lst (as.map V.int)),(lt,.lst (xs.map V.int)),(lc,.lst (cs'.map V.int))]++(RX C A (exB Z) r S.day ls S.ns vs++(BL Z (gs.map V.int) rs (ks.map V.int) us++L))):=O.sub (.cons _ (.cons _ (.cons₂ _ (.cons₂ _ (.cons₂ _ (ae0 _ _))))));refine ⟨_,rfl,la',_,rfl,.inl (O.sq 0),fun lk' hlk'=>?_⟩;walk_at "nw";refine ⟨_,rfl,A.p,C,A.dx,_,rfl,O.get 4,R.c,R.nK,(by show 10<1000;decide),?_⟩;generalize hE2:upd _ _ _=Hn;have O:=Ow.uc O 4 rfl hE2 rfl;clear hE2;have O:Ow T Hz Hn ([(lk',.lst (as.map V.int)),(la',.lst (as.map V.int)),(lt,.lst (xs.map V.int)),(lc,.lst (cs'.map V.int))]++(RX C A (exB ⟨Z.ld,lk',Z.lr,Z.lg,Z.la⟩) r S.day ls S.ns vs++(BL Z (gs.map V.int) rs (ks.map V.int) us++L))):=O;refine ⟨_,rfl,A.p,C,A.dx,_,.ref Z.lr,rfl,O.get 4,R.c,R.nR,rfl,.inl ⟨rfl,_,O.sq 11⟩,_,rfl,b,_,rfl,.inl (SqL.of (O.at_ _ (ft mB))),fun lsp hlsp=>?_⟩;walk_at "nw";refine ⟨_,rfl,szl,fun td htd=>?_⟩;walk_at "nw";refine ⟨Z.lr,_,_,rfl,rfl,O.get 13,aG (by omega),?_⟩;generalize hE2:upd _ _ _=Hm;have O:=Ow.uc O 13 rfl hE2 rfl;clear hE2;obtain ⟨Ha,O,sa,x1⟩:=(show Ow T Hz Hm ((td,.tup [.ref lsp,.ref lc])::(lsp,.lst (sp.map V.int))::([(lk',.lst (as.map V.int)),(la',.lst (as.map V.int)),(lt,.lst (xs.map V.int)),(lc,.lst (cs'.map V.int))]++(RX C A (exB ⟨Z.ld,lk',Z.lr,Z.lg,Z.la⟩) r S.day ls S.ns vs++(BL Z (gs.map V.int) (rs++[.ref td]) (ks.map V.int) us++L)))) from O).frz;obtain ⟨Hb1,O,sb1,x2⟩:=O.frz;obtain ⟨Hc1,O,sc1,x3⟩:=O.R9 3;have O:Ow T Hc1 Hm ([(lk',.lst (as.map V.int)),(la',.lst (as.map V.int)),(lt,.lst (xs.map V.int))]++(RX C A (exB ⟨Z.ld,lk',Z.lr,Z.lg,Z.la⟩) r S.day ls S.ns vs++(BL Z (gs.map V.int) (rs++[.ref td]) (ks.map V.int) us++L))):=O;have sx:=(sa.trans sb1).trans sc1;have d0:=d0.mo sx;have d1:=d1.mo sx;have dR':bT K Hc1 (rs++[.ref td]) ((ds++[(sp,cs')]).map Bv):=by
  rw [ad3];exact (dR.mo sx).append (.cons (.tuple (((SqT.of x1).mo sb1).mo sc1) (.cons (Den.ints ((SqL.of x2).mo sc1)) (.cons (Den.ints (SqL.of x3)) .nil))) .nil)
 clear x1 x2 x3 sa sb1 sc1;refine ⟨_,rfl,A.p,A.dx,_,rfl,O.get 3,rfl,A.p,A.dx,A.ll,_,ls,rfl,O.get 3,rfl,O.sq 6,fun lr2 hlr2=>?_⟩;walk_at "nw";refine ⟨_,rfl,lt,_,rfl,.inl (O.sq 3),fun lt2 hlt2=>?_⟩;walk_at "nw";refine ⟨szl,fun tl htl=>?_⟩;walk_at "nw";refine ⟨_,rfl,A.p,C,A.dx,_,rfl,O.get 6,R.c,R.nL,(by show 10<1000;decide),?_⟩;generalize hE2:upd _ _ _=Hq;have O:=Ow.uc O 6 rfl hE2 rfl;clear hE2;obtain ⟨He,O,se,xa⟩:=(show Ow T Hc1 Hq (_::_::_::_::(la',.lst (as.map V.int))::_::_) from O).R9 4;have d0:=d0.mo se;have d1:=d1.mo se;have dR':=dR'.mo se;have sx:=sx.trans se;have O:Ow T He Hq ([(lk',.lst (as.map V.int))]++(RX C A (exB ⟨Z.ld,lk',Z.lr,Z.lg,.ref tl⟩) r S.day ls S.ns vs++(BL Z (gs.map V.int) (rs++[.ref td]) (ks.map V.int) us++L))):=(show Ow T He Hq (_::_::_::_::_::_) from O).sub (.cons _ (.cons _ (.cons _ (.cons₂ _ (ae0 _ _)))));refine ⟨_,rfl,A.p,C,A.dx,_,.ref Z.lg,rfl,O.get 1,R.c,R.nG,rfl,_,rfl,Z.lg,g,gs,cs,rfl,O.get 7,SqL.of (O.at_ _ (ft mG)),by omega,hc9,O.same.t1,O.Bt fun lg' H6 zs O e6=>?_⟩;subst e6;refine ⟨_,rfl,A.p,C,A.dx,_,rfl,O.get 2,R.c,R.nG,(by show 10<1000;decide),?_⟩;generalize hE2:upd _ _ _=Hr;have O:=Ow.uc O 2 rfl hE2 rfl;clear hE2;have O:Ow T He Hr ([(lg',.lst ((grt gs cs).map V.int)),(lk',.lst (as.map V.int))]++(RX C A (exB ⟨Z.ld,lk',Z.lr,lg',.ref tl⟩) r S.day ls S.ns vs++((Z.lr,.lst (rs++[.ref td]))::(Z.ld,.lst us)::L))):=(show Ow T He Hr ([(lg',.lst ((grt gs cs).map V.int)),(lk',.lst (as.map V.int))]++(RX C A (exB ⟨Z.ld,lk',Z.lr,lg',.ref tl⟩) r S.day ls S.ns vs++((Z.lg,.lst (gs.map V.int))::(Z.lr,.lst (rs++[.ref td]))::(Z.lk,.lst (ks.map V.int))::(Z.ld,.lst us)::L))) from O).sub (aeE (aeE (.cons _ (.cons₂ _ (ae0 _ _))) _) _);have O:Ow T He Hr (RX C A (exB ⟨Z.ld,lk',Z.lr,lg',.ref tl⟩) r S.day ls S.ns vs++(BL ⟨Z.ld,lk',Z.lr,lg',.ref tl⟩ ((grt gs cs).map V.int) (rs++[.ref td]) (as.map V.int) us++L)):=(Ow.front _ _ _ O).perm (afa (RX C A (exB ⟨Z.ld,lk',Z.lr,lg',.ref tl⟩) r S.day ls S.ns vs) (List.Perm.cons (lg',HO.lst ((grt gs cs).map V.int)) (List.Perm.swap (lk',HO.lst (as.map V.int)) (Z.lr,HO.lst (rs++[V.ref td])) _)));refine ⟨_,rfl,A.p,A.dx,_,rfl,O.get 0,rfl,A,exB ⟨Z.ld,lk',Z.lr,lg',.ref tl⟩,He,_,r,S,rfl,⟨ls,vs,O,d0,d1⟩,⟨hp.rv,hp.r40,hp.nn,hp.l60,hp.dl,by show 5<=100;decide,Qa _⟩,fun S2 e7 Hd H7 sd ra=>?_,fun k e7=>by cases e7⟩;cases e7;exact ⟨_,rfl,q t lt la' lf ts ⟨Z.ld,lk',Z.lr,lg',.ref tl⟩ Hd H7 xs as td ((sz.trans sx).trans sd) rfl DX has ra (dR'.mo sd) (((SqT.of xt).mo (sx.trans sd)).mo (RA.same ra)) (((SqL.of xa).mo sd).mo (RA.same ra))⟩
abbrev oE:Stmt:=top 79
theorem Bk:aH ["x","great"] ["x","great"] (ao oE):=by walk_at "sc"
def amt (x:Int)(g:Bool):Int:=if g=true then x*x % 1000000000001 else x % 9
theorem Er (x:Int)(g:Bool):0<=amt x g/\amt x g<=1000000000000:=by
 have a0:=ae6 (x*x) (show (1000000000001:Int)≠0 by decide);have a1:=aeY (x*x) (show (0:Int)<1000000000001 by decide);unfold amt;split <;>omega
inductive aaG (vs:List V)(H:Hp)(Q:VK)(E:XK):Prop
 | mk (x:Int)(g:Bool)(_:vs=[.int x,.bl g])(_:0<=x)(_:x<8589934592)(_:Q (.int (amt x g)) H)
variable {oV:Addr}{o9:FuncData}(bD:Df K mg "_law_amount" oE ["x","great"] oV o9)
include bD in
theorem ac8:(CX0|||1) oV o9 ["x","great"] aaG:=by
 refine bD.F.ok Bk ?_ ?_
 walk_at "i"
 obtain ⟨x,g,rfl,x0,x1,q⟩:=h
 refine ⟨_,(@dw _ _ _ _ _ _ _ _ (jA (pv 1))
   (~~~(@aO _ _ _ _ (@bB _ _ _ _ _ _ _ _ jq (@bB _ _ _ _ _ _ _ _ Gi (pv 0) (pv 0)) (@bB _ _ _ _ _ _ _ _ mH (@bB _ _ _ _ _ _ _ _ Jy au au) au))))
   bf<|>(~~~(@aO _ _ _ _ (@bB _ _ _ _ _ _ _ _ jq (pv 0) au)))),?_⟩
 have e12:(10:Int) ^ (12:Int).toNat+1=1000000000001:=by decide
 refine ⟨_,rfl,_,rfl,?_⟩
 cases g with
 | true =>
  refine Ce ⟨_,rfl,_,rfl,_,_,rfl,rfl,.inl ⟨by omega,by omega⟩,_,_,rfl,rfl,⟨by decide,by decide,by decide⟩,_,_,rfl,rfl,_,_,rfl,rfl,(by show (0:Int)<10 ^ (12:Int).toNat+1;rw [e12];decide),?_⟩
  show Q (.int (x*x % (10 ^ (12:Int).toNat+1))) H
  rw [e12]
  exact q
 | false =>
  exact yC ⟨_,rfl,_,_,rfl,rfl,(by show (0:Int)<9;decide),q⟩
abbrev uF:Stmt:=top 78
theorem mz:aH ["river","start","stop","walk","place"] ["river","start","stop"] (ao uF):=by walk_at "sc"
inductive aaz (K:PySem.W.Frag)(T:dY)(vs:List V)(H:Hp)(Q:VK)(E:XK):Prop
 | mk (a:Addr)(r:List Int)(p b:Int)(_:vs=[.ref a,.int p,.int b])(_:SqL K H a (r.map V.int))(_:Rv.iB r)(_:0<=p)(_:p<r.length)(_:r.length<=900)(_:TabsOk T H)(_:tX T H (fun xs=>xs=(Rv.dZ r p b).map V.int) Q)
variable {uX:Addr}{vA:FuncData}(bI:Df K mg "_law_walk" uF ["river","start","stop"] uX vA)
include bI in
theorem ac0:(CX0|||1) uX vA ["river","start","stop"] (aaz K T):=by
 refine bI.F.ok mz ?_ ?_;walk_at "i";obtain ⟨a,r,p,b,rfl,hS,hR,p0,p1,hn,tk,q⟩:=h;refine ⟨_,(aD (3<$>mz<$>(bU ak))
  (aD (4<$>mz<$>(pv 1))
  (aD (Dt aeh (PW.pt (pw_and (aP zc (pv 4) (pv 2) (aX _)) (pw_and1 (aP zc (pv 4) (vZ mj au) (aX _)))))
   (aD (aU (jy aea aef aeg aY (pv 3) (aq (pv 4) ak)))
   (aJ (4<$>mz<$>(aM aF (pv 0) (pv 4) (fun _ _=>rfl))))))
  (aJ (aO (pv 3)))))),?_⟩
 refine acJ ?_;intro zu0 zu1 zu2 zu3 zu4;have O:=Ow.refl tk;refine ⟨szl,fun lw hlw=>?_⟩;walk_at "nw";refine ⟨_,rfl,?_⟩;have hsl:(Rv.dZ r p b).length<=r.length+1:=by
  have h1:=Rv.Im r p;unfold Rv.dZ;split
  ·exact h1
  ·exact aeP (List.takeWhile_sublist _).length_le h1
 refine ⟨fun m σ H2=>Iv (∃ (pre:List Int)(z:Int),σ=[some (.ref a),some (.int p),some (.int b),some (.ref lw),some (.int z)]/\Ow T H H2 [(lw,.lst (pre.map V.int))]/\(z=-1\/(0<=z/\z<r.length))/\pre++Rv.dZ r z b=Rv.dZ r p b/\m=Rv.mea r z),
  ⟨_,trivial,[],p,rfl,O,.inr ⟨p0,p1⟩,rfl,rfl⟩,?_⟩
 clear O;rintro m σ H2 ⟨-,pre,z,rfl,O,hz,e,rfl⟩;refine ⟨_,rfl,_,rfl,rfl,_,rfl,ifN (ifI (fun h1=>?_) (fun h1=>?_))⟩
 ·have h1:z=b:=h1;dsimp only;rw [if_neg aec];refine ⟨_,rfl,O.ret 0 rfl q ?_⟩;have e2:Rv.dZ r z b=[]:=by
   rcases hz with rfl| ⟨z0,z1⟩
   ·exact Rv.Fo r b
   ·rw [<- h1];exact Rv.Kr hR z0 z1
  rw [e2,afw] at e;rw [e]
 refine ⟨_,rfl,_,rfl,rfl,_,rfl,ifN (ifI (fun h2=>?_) (fun h2=>?_))⟩
 ·have h2:z=-1:=h2;refine ⟨_,rfl,O.ret 0 rfl q ?_⟩;rw [h2,Rv.Fo,afw] at e;rw [e]
 have h1:¬ z=b:=h1;have h2:¬ z=-1:=h2;obtain ⟨z0,z1⟩:=hz.resolve_left h2;have hlen:pre.length<=r.length+1:=by
  have:=hsl;rw [<- e,ad7] at this;omega
 refine ⟨fun σ' H'=>∃ m',m'<Rv.mea r z/\Iv (∃ (pre:List Int)(z:Int),σ'=[some (.ref a),some (.int p),some (.int b),some (.ref lw),some (.int z)]/\Ow T H H' [(lw,.lst (pre.map V.int))]/\(z=-1\/(0<=z/\z<r.length))/\pre++Rv.dZ r z b=Rv.dZ r p b/\m'=Rv.mea r z),fun _ _ x=>x,?_⟩;have g:=Rv.jZ z0 z1;refine ⟨_,rfl,.inl ⟨rfl,_,O.sq 0⟩,_,rfl,lw,_,_,rfl,rfl,O.get 0,aG (by rw [TX];omega),?_⟩;walk_at "pt";refine ⟨_,rfl,_,rfl,a,_,_,_,rfl,rfl,O.same.seq hS,mK z0 g,?_⟩;refine ⟨_,Rv.Ue hR z0 z1,trivial,pre++[z],Rv.nxt r z,rfl,?_,hR.step z0 z1,?_,rfl⟩
 ·rw [ad3];exact O
 ·rw [afY];show pre++(z::Rv.dZ r (Rv.nxt r z) b)=_;rw [<- Rv.Ks hR z0 z1 (fun z=>h1 z.symm)];exact e
theorem zQ {l:List Int}(nd:l.Nodup)(hz:l[i]?=some z):¬ z∈l.take i:=fun hmm=>by
 obtain ⟨h1,h2⟩:=acp.mp hz;obtain ⟨j,hj,ej⟩:=aew hmm;rw [afL] at ej;rw [aed] at hj;have:=(afb nd).mp (ej.trans h2.symm);omega
theorem Hi (r:List Int)(p:Int):Rv.dZ r p (-1)=Rv.walk r p:=if_pos rfl
abbrev uG:Stmt:=top 80
theorem gq:aH ["river","springs","roll","takes","free","place","lower","one","take"] ["river","springs","roll","takes"] (ao uG):=by walk_at "sc"
inductive T3 (K:PySem.W.Frag)(T:dY)(vs:List V)(H:Hp)(Q:VK)(E:XK):Prop
 | mk (a b c d:Addr)(r s xs:List Int)(us:List V)(ls:List Lic)(_:vs=[.ref a,.ref b,.ref c,.ref d])(_:SqL K H a (r.map V.int))(_:Rv.iB r)(_:r.length<64)(_:SqL K H b (s.map V.int))(_:s.length=r.length)(_:SqL K H c us)(_:bT K H us (ls.map Ig))(_:SqL K H d (xs.map V.int))(_:xs.length=ls.length)(_:(∀ l∈ls,um r l))(_:TabsOk T H)(_:tX T H (fun ys=>∃ fl,ys=fl.map V.int/\Rv.Fl r.length fl fun i=>Rv.vN r s (i:Int) - Tn.hold ls.length (yU r ls) (Tn.fX xs) (i:Int)) Q)
variable (gH:(CX0|||1) uX vA ["river","start","stop"] (aaz K T))
variable {uY:Addr}{vB:FuncData}(iU:Df K mg "_law_free" uG ["river","springs","roll","takes"] uY vB)
include bI gH iU in
theorem abj (B:Blt mg):
  (CX0|||2) uY vB ["river","springs","roll","takes"] (T3 K T):=by
 refine iU.F.ok gq ?_ ?_;walk_at "i";obtain ⟨a,b,c,d,r,sp,xs,us,ls,rfl,hS,hR,h64,hB,hl,hC,dls,hD,hxw,hok,tk,q⟩:=h;refine ⟨_,(4<$>gq<$>(@bB _ _ _ _ _ _ _ _ yw (@bU _ _ _ _ (au>=>ak)) (aC aA rfl B.len ad9 (pv 0>=>ak)))<|>cI aeh rfl (jm rfl B.range (aC aA rfl B.len ad9 (pv 0>=>ak)>=>ak)) (5>>gq)
   (~~~(cI aeh rfl (bF (bI<*gH<*(pv 0>=>pv 5>=>@vZ _ _ _ _ _ _ mj au>=>ak))) (6>>gq)
    (~~~(iH (@bB _ _ _ _ _ _ _ _ mH (@aM _ _ _ _ _ _ _ aF (pv 4) (pv 6) (fun _ _=>rfl)) (@aM _ _ _ _ _ _ _ aF (pv 1) (pv 5) (fun _ _=>rfl))) (ud (pv 4) (pv 6) set_list)))))<|>cI aeh rfl (qu rfl B.zip (pv 2>=>pv 3>=>ak)) (fZ rfl (aB (7>>gq) (aB (8>>gq) bH)))
   (~~~(cI aeh rfl (bF (bI<*gH<*(pv 0>=>@aM _ _ _ _ _ _ _ fL (pv 7) au (fun _ _=>rfl)>=>@aM _ _ _ _ _ _ _ fL (pv 7) au (fun _ _=>rfl)>=>ak))) (6>>gq)
    (~~~(iH (@bB _ _ _ _ _ _ _ _ wz (@aM _ _ _ _ _ _ _ aF (pv 4) (pv 6) (fun _ _=>rfl)) (pv 8)) (ud (pv 4) (pv 6) set_list)))))<|>(~~~(@aO _ _ _ _ (pv 4)))),?_⟩
 have hml:(r.map V.int).length=r.length:=TX _;have hmi:(((r.map V.int).length:Nat):Int)=(r.length:Int):=by rw [hml]
 have O:=Ow.refl tk;refine ⟨szl,fun l0 hl0=>?_⟩;walk_at "nw";refine ⟨_,rfl,a,_,rfl,.inl (O.same.seq hS),l0,_,_,rfl,rfl,O.get 0,by rw [hml];omega,by rw [hml];omega,iI (by rw [hml,aeb];simp;omega),fun ld hld=>?_⟩;walk_at "nw";rw [hml,aeb,qt] at O;have O:=O.two;refine ⟨_,rfl,a,_,rfl,.inl (O.same.seq hS),(r.length:Int),congrArg (fun z=>[V.int z]) hmi,by omega,by omega,?_⟩;rw [aeb];refine lG (n:=r.length) (fun t σ H3=>Iv (∃ (v5 v6:Option V)(fl:List Int),σ=[some (.ref a),some (.ref b),some (.ref c),some (.ref d),some (.ref ld),v5,v6,none,none]/\Ow T H H3 [(ld,.lst (fl.map V.int))]/\Rv.Fl r.length fl (Rv.wsum r sp t)))
  ⟨trivial,none,none,_,rfl,O,(Rv.Fl.rep r.length 0).GD fun i _=>rfl⟩ ?_ ?_
 ·clear O;rintro t σ H3 ht ⟨-,v5,v6,fl,rfl,O,FL⟩;have ht:t<r.length:=ht;rw [Int.zero_add];have hu:sp[t]?=some (sp.getD t 0):=bL (by omega);refine ⟨_,rfl,_,rfl,1,rfl,a,r,(t:Int),-1,rfl,O.same.seq hS,hR,by omega,by omega,by omega,O.same.t1,O.Bt fun lw H4 ws O ew=>?_⟩;rw [Hi] at ew;subst ew;refine ⟨lw,rfl,⟨_,O.sq 0⟩,?_⟩;refine dB (K:=K) (a:=lw) (xs:=(Rv.walk r (t:Int)).map V.int) (fun i σ H5=>Iv (∃ (v6:Option V)(fl:List Int),σ=[some (.ref a),some (.ref b),some (.ref c),some (.ref d),some (.ref ld),some (.int (t:Int)),v6,none,none] /\
   Ow T H H5 [(lw,.lst ((Rv.walk r (t:Int)).map V.int)),(ld,.lst (fl.map V.int))]/\Rv.MvI r (Rv.wsum r sp t) (-(sp.getD t 0)) ((Rv.walk r (t:Int)).take i) fl))
   ⟨trivial,v6,fl,rfl,O,Rv.MvI.start _ FL⟩ (fun _ _ _ _ ⟨_,_,_,_,O,_⟩=>O.sq 0) ?_ ?_
  ·clear O;rintro i y σ H5 hy ⟨-,v6,fl,rfl,O,MI⟩;obtain ⟨z,hz,rfl⟩:=ints_get hy;obtain ⟨z0,z1⟩:=Rv.CT hR (t:Int) (by omega) (by omega) z (ad1 hz);obtain ⟨zn,rfl⟩:=aeo z0;have hzl:zn<r.length:=by omega
   obtain ⟨x,hx⟩:∃ x,fl[zn]?=some x:=⟨_,MI.at_ zn hzl⟩;refine ⟨_,rfl,_,rfl,ld,_,_,_,rfl,rfl,O.sq 1,bh hx,_,rfl,_,rfl,b,_,_,_,rfl,rfl,O.same.seq hB,bh hu,_,_,rfl,rfl,_,rfl,_,rfl,?_⟩;refine wu O 1 rfl (jr (by rw [TX,MI.len];exact hzl)) fun H6 O=>?_;refine ⟨trivial,_,fl.set zn (x+sp.getD t 0),rfl,?_,?_⟩
   ·rw [aeW];exact O
   ·rw [aeA,hz,show x+sp.getD t 0=x - -(sp.getD t 0) by omega];exact MI.turn hzl (zQ (Rv.CQ hR (by omega) (by omega)) hz) hx
  ·clear O;rintro σ H5 ⟨-,v6,fl,rfl,O,MI⟩;rw [TX,ae1] at MI;exact ⟨trivial,_,_,fl,rfl,O.tail,Rv.Lg MI⟩
 clear O;rintro σ H3 ⟨-,v5,v6,fl,rfl,O,FL⟩;have FL:Rv.Fl r.length fl fun i=>Rv.vN r sp (i:Int) - Tn.hold 0 (yU r ls) (Tn.fX xs) (i:Int):=FL.GD fun i _=>by
  show Rv.wsum r sp r.length i=Rv.vN r sp (i:Int) - 0;rw [Rv.QV];omega
 have hul:us.length=ls.length:=by rw [dls.length,TX]
 refine ⟨_,rfl,_,rfl,c,d,_,_,rfl,O.same.seq hC,O.same.seq hD,?_⟩;refine uR (K:=K) (fun t σ H4=>Iv (∃ (v5 v6 v7 v8:Option V)(fl:List Int),σ=[some (.ref a),some (.ref b),some (.ref c),some (.ref d),some (.ref ld),v5,v6,v7,v8]/\Ow T H H4 [(ld,.lst (fl.map V.int))]/\Rv.Fl r.length fl fun i=>Rv.vN r sp (i:Int) - Tn.hold t (yU r ls) (Tn.fX xs) (i:Int)))
  (by rw [TX];omega) ⟨trivial,_,_,_,_,fl,rfl,O,FL⟩ (fun _ _ _ _ ⟨_,_,_,_,_,_,_,O,_⟩=>⟨O.same.seq hC,O.same.seq hD⟩) ?_ ?_
 ·clear O;rintro t x y t' σ H4 hx hy ⟨-,v5,v6,v7,v8,fl,rfl,O,FL⟩ ht';obtain ⟨u,hu,rfl⟩:=ints_get hy;obtain ⟨al,l,rfl,hlt,hT⟩:=dls.qD hx;have lok:=(hok l (ad1 hlt)).1;have eu:Tn.fX xs t=u:=by unfold Tn.fX;rw [ad0,hu];rfl
  have ew:yU r ls t=Rv.dZ r l.start l.back:=zB hlt;obtain ⟨wnd,wrn⟩:=Rv.Dg hR (b:=l.back) lok.1 lok.2.1;walk_at "nw";refine ⟨t',_,rfl,O.sqT 0,rfl,_,_,rfl,_,_,rfl,rfl,?_⟩;have O:=O.tail;refine ⟨_,rfl,_,rfl,al,_,1,_,rfl,rfl,hT.mo O.same,rfl,_,rfl,al,_,2,_,rfl,rfl,hT.mo O.same,rfl,a,r,l.start,l.back,rfl,O.same.seq hS,hR,lok.1,lok.2.1,by omega,O.same.t1,O.Bt fun wa H5 ws O e=>?_⟩;subst e;generalize Rv.dZ r l.start l.back=wj at ew wnd wrn O;refine ⟨wa,rfl,⟨_,O.sq 0⟩,?_⟩;refine dB (K:=K) (a:=wa) (xs:=wj.map V.int) (fun i σ H5=>Iv (∃ (v6:Option V)(fl:List Int),σ=[some (.ref a),some (.ref b),some (.ref c),some (.ref d),some (.ref ld),v5,v6,some (.ref al),some (.int u)] /\
   Ow T H H5 [(wa,.lst (wj.map V.int)),(ld,.lst (fl.map V.int))]/\Rv.MvI r (fun i=>Rv.vN r sp (i:Int) - Tn.hold t (yU r ls) (Tn.fX xs) (i:Int)) u (wj.take i) fl))
   ⟨trivial,v6,fl,rfl,O,Rv.MvI.start _ FL⟩ (fun _ _ _ _ ⟨_,_,_,_,O,_⟩=>O.sq 0) ?_ ?_
  ·clear O;rintro i y σ H5 hy ⟨-,v6,fl,rfl,O,MI⟩;obtain ⟨z,hz,rfl⟩:=ints_get hy;obtain ⟨z0,z1⟩:=wrn z (ad1 hz);obtain ⟨zn,rfl⟩:=aeo z0;have hzl:zn<r.length:=by omega
   obtain ⟨x,hx⟩:∃ x,fl[zn]?=some x:=⟨_,MI.at_ zn hzl⟩;refine ⟨_,rfl,_,rfl,ld,_,_,_,rfl,rfl,O.sq 1,bh hx,_,rfl,_,_,rfl,rfl,_,rfl,_,rfl,?_⟩;refine wu O 1 rfl (jr (by rw [TX,MI.len];exact hzl)) fun H6 O=>?_;refine ⟨trivial,_,fl.set zn (x - u),rfl,?_,?_⟩
   ·rw [aeW];exact O
   ·rw [aeA,hz];exact MI.turn hzl (zQ wnd hz) hx
  ·clear O;rintro σ H5 ⟨-,v6,fl,rfl,O,MI⟩;rw [TX,ae1] at MI;refine ⟨trivial,_,_,_,_,fl,rfl,O.tail,Rv.Fl.GD MI fun i _=>?_⟩;show _=Rv.vN r sp (i:Int) - (Tn.hold t (yU r ls) (Tn.fX xs) (i:Int)+if (i:Int)∈yU r ls t then Tn.fX xs t else 0);rw [ew,eu];exact Int.sub_sub _ _ _
 clear O;rintro σ H4 ⟨-,v5,v6,v7,v8,fl,rfl,O,FL⟩;rw [hul] at FL;exact ⟨_,rfl,O.ret 0 rfl q ⟨fl,rfl,FL⟩⟩
variable {m:Int}
theorem QC {n i d' j:Int}(h:Tn.Il d n i d' m j):HT.lexLt [d',m,j] [d,n,i]=false:=by
 by_cases e:HT.lexLt [d',m,j] [d,n,i]=true
 ·rw [lex3] at e;unfold Tn.Il at h;omega
 ·simpa using e
abbrev lC:Stmt:=top 81
theorem bQ:aH ["river","free","roll","takes","number","one","after","place","good","other","last"] ["river","free","roll","takes","number"] (ao lC):=by walk_at "sc"
def Wit (r:List Int)(ls:List Lic)(xs fl:List Int)(k:Nat)(z:Int):Prop:=fl.getD z.toNat 0=0/\∀ j,j<ls.length->z∈yU r ls j->0<Tn.fX xs j->Tn.Il (yE ls j) (Tn.fX xs j) j (yE ls k) (Tn.fX xs k+1) k
inductive TJ (K:PySem.W.Frag)(T:dY)(vs:List V)(H:Hp)(Q:VK)(E:XK):Prop
 | mk (a b c d:Addr)(r fl xs:List Int)(us:List V)(ls:List Lic)(k:Nat)(_:vs=[.ref a,.ref b,.ref c,.ref d,.int (k:Int)])(_:SqL K H a (r.map V.int))(_:Rv.iB r)(_:r.length<64)(_:SqL K H b (fl.map V.int))(_:fl.length=r.length)(_:SqL K H c us)(_:bT K H us (ls.map Ig))(_:ls.length<64)(_:SqL K H d (xs.map V.int))(_:xs.length=ls.length)(_:(∀ l∈ls,um r l))(_:k<ls.length)(_:(∃ z∈yU r ls k,Wit r ls xs fl k z))(_:TabsOk T H)(_:∀ H',aN T H H'->Q (.bl true) H')
variable {lJ:Addr}{lO:FuncData}(cX:Df K mg "_law_is_shown" lC ["river","free","roll","takes","number"] lJ lO)
include bI gH cX in
theorem abe (B:Blt mg):
  (CX0|||2) lJ lO ["river","free","roll","takes","number"] (TJ K T):=by
 refine cX.F.ok bQ ?_ ?_
 walk_at "i"
 obtain ⟨a,b,c,d,r,fl,xs,us,ls,k,rfl,hS,hR,h64,hB,hfl,hC,dls,hl64,hD,hxl,hok,hk,hwit,tk,q⟩:=h
 have hu:=hr.units
 have O:=Ow.refl tk
 have hul:us.length=ls.length:=by rw [dls.length,TX]
 have hui:((us.length:Nat):Int)=(ls.length:Int):=by rw [hul]
 obtain ⟨l,hlk⟩:∃ l,ls[k]?=some l:=⟨_,adW hk⟩
 obtain ⟨al,hal,hT⟩:=dls.wC hlk
 have lok:=(hok l (ad1 hlk)).1
 have ew:yU r ls k=Rv.dZ r l.start l.back:=zB hlk
 obtain ⟨wnd,wrn⟩:=Rv.Dg hR (b:=l.back) lok.1 lok.2.1
 have gx:∀ j,j<ls.length->xs[j]?=some (xs.getD j 0):=fun j hj=>bL (by omega)
 refine ⟨_,(5<$>bQ<$>(@aM _ _ _ _ _ _ _ aF (pv 2) (pv 4) (fun _ _=>rfl))<|>6<$>bQ<$>(@f9 _ _ _ _ _ (@aM _ _ _ _ _ _ _ fL (pv 5) au (fun _ _=>rfl)>=>@bB _ _ _ _ _ _ _ _ mH (@aM _ _ _ _ _ _ _ aF (pv 3) (pv 4) (fun _ _=>rfl)) au>=>pv 4>=>ak))<|>cI aeh rfl (bF (bI<*gH<*(pv 0>=>@aM _ _ _ _ _ _ _ fL (pv 5) au (fun _ _=>rfl)>=>@aM _ _ _ _ _ _ _ fL (pv 5) au (fun _ _=>rfl)>=>ak))) (7>>bQ)
   (8<$>bQ<$>(qy qC (@aM _ _ _ _ _ _ _ aF (pv 1) (pv 7) (fun _ _=>rfl)) au (aX _))<|>cI aeh rfl (jm rfl B.range (aC aA rfl B.len ad9 (pv 2>=>ak)>=>ak)) (9>>bQ)
    (10<$>bQ<$>(@f9 _ _ _ _ _ (@aM _ _ _ _ _ _ _ fL (@aM _ _ _ _ _ _ _ aF (pv 2) (pv 9) (fun _ _=>rfl)) au (fun _ _=>rfl)>=>@aM _ _ _ _ _ _ _ aF (pv 3) (pv 9) (fun _ _=>rfl)>=>pv 9>=>ak))<|>(~~~(@dw _ _ _ _ _ _ _ _ (PW.pt (pw_and (aP KH (@aM _ _ _ _ _ _ _ aF (pv 3) (pv 9) (fun _ _=>rfl)) au (aX _)) (pw_and (aP (aaX (Nat.lt_of_le_of_lt (Nat.le_add_right _ 64) hu)) (pv 10) (pv 6) (aX _)) (pw_and1 (aP Gj (pv 7) (bI<*gH<*(pv 0>=>@aM _ _ _ _ _ _ _ fL (@aM _ _ _ _ _ _ _ aF (pv 2) (pv 9) (fun _ _=>rfl)) au (fun _ _=>rfl)>=>@aM _ _ _ _ _ _ _ fL (@aM _ _ _ _ _ _ _ aF (pv 2) (pv 9) (fun _ _=>rfl)) au (fun _ _=>rfl)>=>ak)) (by rfl))))))
     (~~~(8<$>bQ<$>uO))
     bf)))<|>(~~~(@dw _ _ _ _ _ _ _ _ (jA (pv 8))
    (~~~(@aO _ _ _ _ uO))
    bf)))<|>(~~~(@aO _ _ _ _ uO))),?_⟩
 refine ⟨_,rfl,_,rfl,c,_,_,_,rfl,rfl,hC,dN hal,?_⟩
 refine ⟨_,rfl,al,_,0,_,rfl,rfl,hT,rfl,_,rfl,_,rfl,d,_,_,_,rfl,rfl,hD,bh (gx k hk),_,_,rfl,rfl,_,rfl,szl,fun ta hta=>?_⟩
 walk_at "nw"
 refine ⟨_,rfl,_,rfl,al,_,1,_,rfl,rfl,hT.mo O.same,rfl,_,rfl,al,_,2,_,rfl,rfl,hT.mo O.same,rfl,a,r,l.start,l.back,rfl,O.same.seq hS,hR,lok.1,lok.2.1,by omega,O.same.t1,O.Bt fun wa H5 ws O e=>?_⟩
 subst e
 rw [ew] at hwit
 generalize Rv.dZ r l.start l.back=wj at wnd wrn O hwit
 refine ⟨wa,rfl,⟨_,O.sq 0⟩,?_⟩
 refine dB (K:=K) (a:=wa) (xs:=wj.map V.int) (fun i σ H5=>Iv (∃ (v7 v8 v9 v10:Option V),σ=[some (.ref a),some (.ref b),some (.ref c),some (.ref d),some (.int (k:Int)),some (.ref al),some (.ref ta),v7,v8,v9,v10]/\(∃ j z,i<=j/\wj[j]?=some z/\Wit r ls xs fl k z)/\Ow T H H5 [(wa,.lst (wj.map V.int)),(ta,.tup [.int l.day,.int (xs.getD k 0+1),.int (k:Int)])]))
  ⟨trivial,_,_,_,_,rfl,?_,O⟩ (fun _ _ _ _ ⟨_,_,_,_,_,_,_,O⟩=>O.sq 0) ?_ ?_
 ·obtain ⟨z,hz,hw⟩:=hwit
  obtain ⟨j,hj,e⟩:=List.mem_iff_getElem.mp hz
  exact ⟨j,z,aez _,by rw [adW hj,e],hw⟩
 ·clear O
  rintro i y σ H6 hy ⟨-,v7,v8,v9,v10,rfl,⟨j,zj,hij,hzj,hwj⟩,O⟩
  obtain ⟨z,hz,rfl⟩:=ints_get hy
  obtain ⟨z0,z1⟩:=wrn z (ad1 hz)
  obtain ⟨zn,rfl⟩:=aeo z0
  refine ⟨_,rfl,_,rfl,b,_,_,_,rfl,rfl,O.same.seq hB,bh (bL (ns:=fl) (k:=zn) (by omega)),rfl,?_⟩
  refine ⟨_,rfl,c,_,rfl,.inl (O.same.seq hC),(ls.length:Int),congrArg (fun z=>[V.int z]) hui,by omega,by omega,?_⟩
  rw [aeb]
  refine lG (n:=ls.length) (fun t σ H7=>Iv (∃ (g:Bool)(v9 v10:Option V),σ=[some (.ref a),some (.ref b),some (.ref c),some (.ref d),some (.int (k:Int)),some (.ref al),some (.ref ta),some (.int (zn:Int)),some (.bl g),v9,v10]/\(Wit r ls xs fl k (zn:Int)->g=true)/\Ow T H H7 [(wa,.lst (wj.map V.int)),(ta,.tup [.int l.day,.int (xs.getD k 0+1),.int (k:Int)])]))
   ⟨trivial,_,_,_,rfl,fun hw=>?_,O⟩ ?_ ?_
  ·have:=hw.1
   rw [aeb] at this
   rw [this];rfl
  ·clear O
   rintro t σ H7 ht ⟨-,g,v9,v10,rfl,hg,O⟩
   have ht:t<ls.length:=ht
   rw [Int.zero_add]
   obtain ⟨lt,hlt⟩:∃ l,ls[t]?=some l:=⟨_,adW ht⟩
   obtain ⟨at',hat,hTt⟩:=dls.wC hlt
   have ltok:=(hok lt (ad1 hlt)).1
   have hday:yE ls t=lt.day:=Ej hlt
   have hdayk:yE ls k=l.day:=Ej hlk
   refine ⟨_,rfl,_,rfl,c,_,_,_,rfl,rfl,O.same.seq hC,dN hat,at',_,0,_,rfl,rfl,hTt.mo O.same,rfl,_,rfl,_,rfl,d,_,_,_,rfl,rfl,O.same.seq hD,bh (gx t ht),_,rfl,szl,fun tl htl=>?_⟩
   walk_at "nw"
   refine ⟨_,rfl,_,rfl,d,_,_,_,rfl,rfl,O.same.seq hD,bh (gx t ht),_,_,rfl,rfl,_,rfl,ifD (fun h1=>?_) (fun h1=>?_)⟩
   rotate_left
   ·exact ⟨trivial,g,_,_,rfl,hg,O.tail⟩
   refine ⟨_,rfl,_,rfl,tl,ta,[lt.day,xs.getD t 0,(t:Int)],[l.day,xs.getD k 0+1,(k:Int)],rfl,rfl,O.sqT 0,O.sqT 2,_,rfl,ifB (fun h2=>?_) (fun h2=>?_)⟩
   rotate_left
   ·exact ⟨trivial,g,_,_,rfl,hg,O.tail⟩
   refine ⟨_,rfl,_,rfl,_,rfl,_,rfl,c,_,_,_,rfl,rfl,O.same.seq hC,dN hat,at',_,1,_,rfl,rfl,hTt.mo O.same,rfl,_,rfl,_,rfl,c,_,_,_,rfl,rfl,O.same.seq hC,dN hat,at',_,2,_,rfl,rfl,hTt.mo O.same,rfl,a,r,lt.start,lt.back,rfl,O.same.seq hS,hR,ltok.1,ltok.2.1,by omega,O.same.t1,O.Bt fun wb H8 ws O e=>?_⟩
   subst e
   refine ⟨wb,_,rfl,.inl (O.sq 0),rfl,wF _,?_⟩
   rw [if_neg aec,DN]
   refine ⟨_,rfl,ifD (fun h3=>?_) (fun h3=>?_)⟩
   rotate_left
   ·exact ⟨trivial,g,_,_,rfl,hg,O.tail.tail⟩
   refine ⟨trivial,false,_,_,rfl,fun hw=>?_,O.tail.tail⟩
   have h1:xs.getD t 0 >0:=h1
   have:=hw.2 t ht (by rw [zB hlt];exact h3) h1
   rw [hday,hdayk] at this
   rw [QC (n:=xs.getD t 0) (m:=xs.getD k 0+1) this] at h2
   cases h2
  clear O
  rintro σ H7 ⟨-,g,v9,v10,rfl,hg,O⟩
  refine ⟨_,rfl,_,rfl,?_⟩
  cases g with
  | true=>exact Ce (q _ O.same)
  | false =>
   refine yC ⟨trivial,_,_,_,_,rfl,⟨j,zj,?_,hzj,hwj⟩,O⟩
   rcases Nat.lt_or_ge i j with h| h
   ·exact h
   ·have:j=i:=by omega
    rw [this,hz] at hzj
    rw [<- aek hzj] at hwj
    exact nomatch hg hwj
 clear O
 rintro σ H7 ⟨-,v7,v8,v9,v10,rfl,⟨j,zj,hij,hzj,-⟩,O⟩
 have:=(acp.mp hzj).1
 rw [TX] at hij
 omega
theorem PN (hl:ls[k]?=some l)(hlc:ls.length=cs.length):Tn.fX (jz ls cs) k=min (cs.getD k 0) l.most:=by
 have hk:=(acp.mp hl).1;unfold Tn.fX;rw [ad0,Ez hl (bL (ns:=cs) (by omega))];rfl
abbrev ql:Stmt:=top 82
theorem jh:aH ["river","springs","roll","calls","takes","free","number","want"] ["river","springs","roll","calls"] (ao ql):=by walk_at "sc"
inductive T6 (K:PySem.W.Frag)(T:dY)(vs:List V)(H:Hp)(Q:VK)(E:XK):Prop
 | mk (a b c d:Addr)(r s cs:List Int)(us:List V)(ls:List Lic)(_:vs=[.ref a,.ref b,.ref c,.ref d])(_:aaK K H a r)(_:1<=r.length)(_:SqL K H b (s.map V.int))(_:s.length=r.length)(_:(∀ x∈s,0<=x))(_:SqL K H c us)(_:bT K H us (ls.map Ig))(_:ls.length<64)(_:SqL K H d (cs.map V.int))(_:ls.length=cs.length)(_:(∀ l∈ls,um r l))(_:(∀ c∈cs,0<=c))(_:TabsOk T H)(_:tX T H (fun ys=>∃ xs,ys=xs.map V.int/\Ew r s ls cs xs) Q)
variable (Bc:(CX0|||2) uY vB ["river","springs","roll","takes"] (T3 K T))
variable (sH:(CX0|||2) lJ lO ["river","free","roll","takes","number"] (TJ K T))
variable (yN:(CX0|||1) qU rO ["found"] Jb)
variable {qZ:Addr}{rR:FuncData}(d8:Df K mg "_law_dealt" ql ["river","springs","roll","calls"] qZ rR)
include gU ur Kc iU cX Bc sH yN d8 in
theorem abm (B:Blt mg):(CX0|||8) qZ rR ["river","springs","roll","calls"] (T6 K T):=by
 refine d8.F.ok jh ?_ ?_
 walk_at "i"
 obtain ⟨a,b,c,d,r,sp,cs,us,ls,rfl,hA,hr1,hB,hsl,hsn,hC,dls,hl64,hD,hlc,hok,hcn,tk,q⟩:=h
 have O:=Ow.refl tk
 have hul:us.length=ls.length:=by rw [dls.length,TX]
 have hui:((us.length:Nat):Int)=(ls.length:Int):=by rw [hul]
 refine ⟨_,(4<$>jh<$>(ur<*Kc<*(pv 0>=>pv 1>=>pv 2>=>pv 3>=>ak))<|>@dw _ _ _ _ _ _ _ _ (PW.pt (pw_or (lE (jA (aC vK rfl B.isinstance afN (pv 4>=>Hx (v:=.ty "list") rfl B.list aes rfl>=>ak)))) (pw_or1 (aP zc (aC aA rfl B.len ad9 (pv 4>=>ak)) (aC aA rfl B.len ad9 (pv 2>=>ak)) (aX _)))))
   (~~~(@aO _ _ _ _ yu))
   bf<|>5<$>jh<$>(iU<*Bc<*(pv 0>=>pv 1>=>pv 2>=>pv 4>=>ak))<|>cI aeh rfl (jm rfl B.range (aC aA rfl B.len ad9 (pv 2>=>ak)>=>ak)) (6>>jh)
   (7<$>jh<$>(aC (sE rfl) rfl B.min afk (@aM _ _ _ _ _ _ _ fL (@aM _ _ _ _ _ _ _ aF (pv 2) (pv 6) (fun _ _=>rfl)) au (fun _ _=>rfl)>=>@aM _ _ _ _ _ _ _ aF (pv 3) (pv 6) (fun _ _=>rfl)>=>ak))<|>@dw _ _ _ _ _ _ _ _ (PW.pt (pw_or (lE (jA (gU<*yN<*(@aM _ _ _ _ _ _ _ aF (pv 4) (pv 6) (fun _ _=>rfl)>=>ak)))) (pw_or (aP uP (@aM _ _ _ _ _ _ _ aF (pv 4) (pv 6) (fun _ _=>rfl)) au (aX _)) (pw_or1 (aP KH (@aM _ _ _ _ _ _ _ aF (pv 4) (pv 6) (fun _ _=>rfl)) (pv 7) (aX _))))))
    (~~~(@aO _ _ _ _ yu))
    bf<|>(~~~(@dw _ _ _ _ _ _ _ _ (PW.pt (pw_and (aP uP (@aM _ _ _ _ _ _ _ aF (pv 4) (pv 6) (fun _ _=>rfl)) (pv 7) (aX _)) (pw_and1 (lE (jA (cX<*sH<*(pv 0>=>pv 5>=>pv 2>=>pv 4>=>pv 6>=>ak)))))))
    (~~~(@aO _ _ _ _ yu))
    bf)))<|>@dw _ _ _ _ _ _ _ _ (aP uP (aC (Qt rfl) rfl B.min afk (pv 5>=>ak)) au (aX _))
   (~~~(@aO _ _ _ _ yu))
   bf<|>(~~~(@aO _ _ _ _ (pv 4)))),?_⟩
 refine ⟨_,rfl,_,rfl,_,rfl,_,rfl,a,b,d,.ref c,r,sp,ls,cs,rfl,hA,hB,hsl,hsn,.list hC dls,hl64,hD,hlc,hok,hcn,tk,O.Bt fun lx H1 xs O e=>?_⟩
 obtain ⟨xs,rfl,DX⟩:=e
 have hxl:=DX.len
 refine ⟨_,rfl,_,_,_,true,rfl,.lst (O.get 0),Ug K,_,rfl,yC ?_⟩
 have hln:(((xs.map V.int).length:Nat):Int)=((us.length:Nat):Int):=by rw [TX];omega
 refine ⟨_,rfl,lx,_,rfl,.inl (O.sq 0),_,rfl,c,_,rfl,.inl (O.same.seq hC),rfl,_,rfl,ifN (ifI (fun _=>?_) (fun hc=>absurd hln hc))⟩
 refine ⟨_,rfl,_,rfl,_,rfl,_,rfl,a,b,c,lx,r,sp,xs,us,ls,rfl,O.same.seq hA.1,hA.2.1,hA.2.2,O.same.seq hB,hsl,O.same.seq hC,dls.mo O.same,O.sq 0,hxl,hok,O.same.t1,O.Bt fun lf H2 ys O e=>?_⟩
 obtain ⟨fl,rfl,FL⟩:=e
 have hfll:fl.length=r.length:=FL.len
 have fat:∀ i:Nat,i<r.length->fl.getD i 0=Tn.fF (Rv.nats r sp) (i:Int) - Tn.hold ls.length (yU r ls) (Tn.fX xs) (i:Int):=fun i hi=>by
  rw [Rv.PX (by omega) (by omega)];exact FL.getD hi
 refine ⟨_,rfl,c,_,rfl,.inl (O.same.seq hC),(ls.length:Int),congrArg (fun z=>[V.int z]) hui,by omega,by omega,?_⟩
 rw [aeb]
 refine lG (n:=ls.length) (fun k σ H'=>Iv (∃ (v6 v7:Option V),σ=[some (.ref a),some (.ref b),some (.ref c),some (.ref d),some (.ref lx),some (.ref lf),v6,v7]/\Ow T H H' [(lf,.lst (fl.map V.int)),(lx,.lst (xs.map V.int))])) ⟨trivial,_,_,rfl,O⟩ ?_ ?_
 ·clear O
  rintro k σ H3 hk ⟨-,v6,v7,rfl,O⟩
  have hk:k<ls.length:=hk
  rw [Int.zero_add]
  obtain ⟨l,hlk⟩:∃ l,ls[k]?=some l:=⟨_,adW hk⟩
  obtain ⟨al,hal,hT⟩:=dls.wC hlk
  have gx:xs[k]?=some (xs.getD k 0):=bL (by omega)
  have gc:cs[k]?=some (cs.getD k 0):=bL (by omega)
  have hwant:Tn.fX (jz ls cs) k=min (cs.getD k 0) l.most:=PN hlk hlc
  have hx0:=DX.fit.nn k hk
  have hx1:=DX.fit.le k hk
  have hx0:0<=xs.getD k 0:=hx0
  rw [hwant] at hx1
  have hx1:xs.getD k 0<=min (cs.getD k 0) l.most:=hx1
  refine ⟨_,rfl,_,rfl,c,_,_,_,rfl,rfl,O.same.seq hC,dN hal,al,_,3,_,rfl,rfl,hT.mo O.same,rfl,_,rfl,_,rfl,d,_,_,_,rfl,rfl,O.same.seq hD,bh gc,_,_,rfl,?_⟩
  have hmn:(if cs.getD k 0<l.most then cs.getD k 0 else l.most)=min (cs.getD k 0) l.most:=by
   rw [afZ];split <;>split <;>omega
  dsimp only
  rw [hmn,<- hwant]
  rw [<- hwant] at hx1
  refine ⟨_,rfl,_,rfl,lx,_,_,_,rfl,rfl,O.sq 1,bh gx,_,rfl,_,rfl,yC ?_⟩
  refine ⟨_,rfl,_,rfl,lx,_,_,_,rfl,rfl,O.sq 1,bh gx,_,_,rfl,rfl,_,rfl,ifD (fun h1=>absurd hx0 (by have h1:xs.getD k 0<0:=h1;omega)) (fun _=>?_)⟩
  refine ⟨_,rfl,_,rfl,lx,_,_,_,rfl,rfl,O.sq 1,bh gx,_,rfl,_,_,rfl,rfl,_,rfl,ifD (fun h1=>absurd hx1 (by have h1:Tn.fX (jz ls cs) k<xs.getD k 0:=h1;omega)) (fun _=>?_)⟩
  refine ⟨_,rfl,_,rfl,lx,_,_,_,rfl,rfl,O.sq 1,bh gx,_,rfl,_,_,rfl,rfl,_,rfl,ifD (fun h1=>?_) (fun _=>?_)⟩
  rotate_left
  ·exact ⟨trivial,_,_,rfl,O⟩
  obtain ⟨z,hzw,hz1,hz2⟩:=DX.shown k hk h1
  refine ⟨_,rfl,_,rfl,_,rfl,_,rfl,_,rfl,a,lf,c,lx,r,fl,xs,us,ls,k,rfl,O.same.seq hA.1,hA.2.1,hA.2.2,O.sq 0,hfll,O.same.seq hC,dls.mo O.same,hl64,O.sq 1,hxl,hok,hk,⟨z,hzw,?_,hz2⟩,O.same.t1,fun H4 s4=>?_⟩
  ·obtain ⟨z0,z1⟩:=(Li hA.2.1 hok hk).2 z hzw
   obtain ⟨zn,rfl⟩:=aeo z0
   rw [aeb,fat zn (by omega),hz1];omega
  exact ⟨_,rfl,yC ⟨trivial,_,_,rfl,O.vL s4⟩⟩
 clear O
 rintro σ H3 ⟨-,v6,v7,rfl,O⟩
 refine ⟨_,rfl,lf,fl,rfl,O.sq 0,by omega,fun M hM hle=>?_⟩
 refine ⟨_,_,rfl,rfl,_,rfl,ifD (fun hc=>?_) fun _=>?_⟩
 ·exfalso
  have hc:M<0:=hc
  obtain ⟨i,hi,e⟩:=Tn.Gn hM
  rw [fat i (by omega)] at e
  by_cases hw:∃ k,k<ls.length/\(i:Int)∈yU r ls k
  ·have:=DX.fit.fits (i:Int) hw
   omega
  ·rw [Tn.Gw hw,Rv.PX (by omega) (by omega)] at e
   have:=NT (r:=r) hsn (i:Int)
   omega
 exact ⟨_,rfl,O.ret 1 rfl q ⟨xs,rfl,DX⟩⟩
theorem R3 (h:yg r l):um r l:=⟨⟨h.1.2.2.1,h.1.2.2.2.1,h.2.elim .inl fun z=>.inr (afS z)⟩,h.1.2.2.2.2.1⟩
theorem yg.wm (h:yg r l)(h0:0<=m)(h1:m<=l.most):yg r (wm l m):=⟨⟨h.1.1,h.1.2.1,h.1.2.2.1,h.1.2.2.2.1,h0,Int.le_trans h1 h.1.2.2.2.2.2⟩,h.2⟩
theorem getD_at {xs:List α}{d:α}(h:k<xs.length):xs[k]?=some (xs.getD k d):=by
 rw [ad0,adW h];rfl
section
variable {cs:List Int}{ps:List Pd}{ks:List Int}
theorem Od (cs:List Int)(ps:List Pd)(ks:List Int)(k:Nat):∀ i,(fQ cs ps ks i).getD k 0<=cs.getD k 0
 | 0=>aeK _
 | i+1=>by
  have ih:=Od cs ps ks k i;rw [fQ,ad0,List.getElem?_set];split
  ·rename_i e
   split
   ·rw [e];exact Int.min_le_left _ _
   ·rename_i z
    rw [e,jQ] at z;rw [ad0 (l:=cs),aex (by omega)];exact aeK _
  ·rw [<- ad0];exact ih
theorem Oc (hc:∀ c∈cs,0<=c)(hp:∀ k:Nat,k<ps.length->ks.getD k 0<=(ps.getD k (0,0,0)).2.1):∀ i,i<=ps.length->∀ c∈fQ cs ps ks i,0<=c
 | 0,_=>hc
 | i+1,h=>fun c hm=>by
  rcases afA hm with z| z
  ·exact Oc hc hp i (by omega) c z
  ·have:=hp i h;have h0:0<=cs.getD (ps.getD i (0,0,0)).1.toNat 0:=by
    by_cases hl:(ps.getD i (0,0,0)).1.toNat<cs.length
    ·exact hc _ (ad1 (getD_at hl))
    ·rw [ad0,aex (by omega)];exact aeK _
   rw [z,afZ];split <;>omega
theorem JK {k:Nat}:∀ i,(∀ j,j<i->(ps.getD j (0,0,0)).1.toNat≠k)->(fQ cs ps ks i).getD k 0=cs.getD k 0
 | 0,_=>rfl
 | i+1,h=>by
  rw [fQ,ad0,afm (h i (afq i)),<- ad0];exact JK i fun j hj=>h j (by omega)
theorem aaV (hn:(ps.map (·.1)).Nodup)(hb:∀ p∈ps,0<=p.1){i j:Nat}(hi:i<ps.length)(hj:j<ps.length)(e:(ps.getD i (0,0,0)).1.toNat=(ps.getD j (0,0,0)).1.toNat):i=j:=by
 have h1:=hb _ (ad1 (getD_at (d:=(0,0,0)) hi));have h2:=hb _ (ad1 (getD_at (d:=(0,0,0)) hj));have e1:(ps.map (·.1))[i]?=(ps.map (·.1))[j]?:=by
  rw [ad5,ad5,getD_at (d:=(0,0,0)) hi,getD_at (d:=(0,0,0)) hj];exact congrArg some (show (ps.getD i (0,0,0)).1=(ps.getD j (0,0,0)).1 by omega)
 exact (List.getElem?_inj (by rw [TX];exact hi) hn).mp e1
theorem Oe (hn:(ps.map (·.1)).Nodup)(hb:∀ p∈ps,0<=p.1/\p.1<(cs.length:Int)){k:Nat}(hk:k<ps.length):∀ i,k<i->i<=ps.length->(fQ cs ps ks i).getD (ps.getD k (0,0,0)).1.toNat 0=min (cs.getD (ps.getD k (0,0,0)).1.toNat 0) ((ps.getD k (0,0,0)).2.1 - ks.getD k 0)
 | 0,h,_=>absurd h (afH _)
 | i+1,h,hi=>by
  have hb0:=hb _ (ad1 (getD_at (d:=(0,0,0)) hk));rw [fQ,ad0,List.getElem?_set];by_cases e:i=k
  ·subst e;rw [if_pos rfl,if_pos (by rw [jQ];omega)];rfl
  ·rw [if_neg fun z=>e (aaV hn (fun p hp=>(hb p hp).1) (by omega) hk z),<- ad0];exact Oe hn hb hk i (by omega) (by omega)
end
variable {gs:List Int}
theorem Px (h:gs.length<=cs.length)(hk:k<cs.length):(grt gs cs).getD k 0=max (cs.getD k 0) (gs.getD k 0):=by
 unfold grt;rw [ad0,ae8,getD_at (d:=0) hk];by_cases hg:k<gs.length
 ·rw [aeG hg,getD_at (d:=0) hg];rfl
 ·rw [aeM (by omega),afd,if_pos (by omega),ad0 (l:=gs),aex (by omega)];rfl
theorem Pu (gs cs:List Int)(h:gs.length<=cs.length):(grt gs cs).length=cs.length:=by
 unfold grt;rw [afp,ad7,aeH];omega
theorem ZV (h:gs.length<=cs.length)(hg:Wat gs)(hc:Wat cs):Wat (grt gs cs):=by
 intro x hx;obtain ⟨k,hk⟩:=afB hx;have hl:=(acp.mp hk).1;rw [Pu gs cs h] at hl;have e:=Px h hl;rw [ad0,hk] at e;have e:x=_:=e;have h1:=hc _ (ad1 (getD_at (d:=0) hl));have h2:0<=gs.getD k 0/\gs.getD k 0<=1000000000000:=by
  by_cases h3:k<gs.length
  ·exact hg _ (ad1 (getD_at h3))
  ·rw [ad0,aex (by omega)];decide
 rw [e,Int.max_def];split <;>omega
def Jx (n:Nat)(cs:List Int):List Int:=cs++List.replicate (n - cs.length) 0
variable {n:Nat}
theorem Rg (h:cs.length<=n):(Jx n cs).length=n:=by
 unfold Jx;rw [ad7,aeH];omega
theorem Nm (h:∀ x∈cs,0<=x):∀ x∈Jx n cs,0<=x:=fun x hx=>by
 rcases aem.mp hx with z| z
 ·exact h x z
 ·rw [(List.mem_replicate.mp z).2];exact aeK _
theorem Ql (h:gs.length<=S.ls.length):(tE S gs).length=S.ls.length:=by
 unfold tE;rw [ad7,TX,aeS];omega
theorem YW (hl:S.ls[k]?=some l):(tE S gs)[k]?=some (if k<gs.length then gs.getD k 0 else l.most):=by
 unfold tE;by_cases h:k<gs.length
 ·rw [aeG h,if_pos h];exact getD_at h
 ·rw [aeM (by omega),if_neg h,ad5,afF,show gs.length+(k - gs.length)=k by omega,hl];rfl
theorem Cd (hl:S.ls[k]?=some l):(fJ S.ls (tE S gs))[k]?=some (wm l (min l.most (if k<gs.length then gs.getD k 0 else l.most))):=by
 unfold fJ;rw [ae8,hl,YW hl]
theorem zx (hl:S.ls[k]?=none):(fJ S.ls (tE S gs))[k]?=none:=by
 unfold fJ;rw [ae8,hl]
theorem xH (h:gs.length<=S.ls.length):(fJ S.ls (tE S gs)).length=S.ls.length:=by
 unfold fJ;rw [afp,Ql h];omega
theorem Oi (hg:gs.length<=S.ls.length)(h0:∀ x∈gs,0<=x)(hm:∀ l∈S.ls,0<=l.most)(hc:cs.length<=gs.length)(hk:∀ k:Nat,k<cs.length->cs.getD k 0<=gs.getD k 0)(DX:Ew r s S.ls (Jx S.ls.length cs) xs):Ew r s (fJ S.ls (tE S gs)) (Jx S.ls.length cs) xs:=by
 have e1:yU r (fJ S.ls (tE S gs))=yU r S.ls:=by
  unfold yU;refine congrArg Tn.fW (afz fun k=>?_);rw [ad5,ad5];cases e:S.ls[k]? with
  | none=>rw [zx e]
  | some l=>rw [Cd e];rfl
 have e2:yE (fJ S.ls (tE S gs))=yE S.ls:=by
  funext k;unfold yE;cases e:S.ls[k]? with
  | none=>rw [zx e]
  | some l=>rw [Cd e];rfl
 have e3:jz (fJ S.ls (tE S gs)) (Jx S.ls.length cs)=jz S.ls (Jx S.ls.length cs):=by
  unfold jz;refine afz fun k=>?_;rw [ae8,ae8];cases e:S.ls[k]? with
  | none=>rw [zx e]
  | some l =>
   have hl:=(acp.mp e).1;have l0:=hm l (ad1 e);rw [Cd e];by_cases h:k<cs.length
   ·rw [show (Jx S.ls.length cs)[k]?=some (cs.getD k 0) by unfold Jx;rw [aeG h];exact getD_at h];have:=hk k h;rw [if_pos (by omega)];refine congrArg some ?_;show min _ (min _ _)=min _ _;simp only [afZ]
    repeat' split
    all_goals omega
   ·rw [show (Jx S.ls.length cs)[k]?=some 0 by unfold Jx;rw [aeM (by omega),afd,if_pos (by omega)]];have g0:0<=(if k<gs.length then gs.getD k 0 else l.most):=by
     split
     ·rename_i z;exact h0 _ (ad1 (getD_at z))
     ·exact l0
    generalize (if k<gs.length then gs.getD k 0 else l.most)=y at g0;refine congrArg some ?_;show min _ (min _ _)=min _ _;simp only [afZ]
    repeat' split
    all_goals omega
 refine ⟨by rw [xH hg];exact DX.len,?_,?_⟩
 ·rw [e1,e3,xH hg];exact DX.fit
 ·rw [e1,e2,e3,xH hg];exact DX.shown
structure B6 (r:List Int)(S:RS)(gs ks:List Int)(ps:List Pd)(ds:List (List Int × List Int))(m i:Nat):Prop where
 rv:Rv.iB r
 r1:1<=r.length
 r6:r.length<=6
 nn:S.ns=List.replicate S.ls.length ("water":Str)
 l6:S.ls.length<=6
 lo:∀ l∈S.ls,yg r l
 sd:S.ds.length<=i
 d0:0<=S.day
 d1:S.day<=(i:Int)
 gl:gs.length<=S.ls.length
 gw:Wat gs
 pk:ps.length=ks.length
 pl:ps.length<=S.ls.length
 pb:∀ p∈ps,0<=p.1/\p.1<(S.ls.length:Int)/\0<=p.2.1/\0<=p.2.2/\p.2.2<=1000
 pn:(ps.map (·.1)).Nodup
 kb:∀ k:Nat,k<ps.length->0<=ks.getD k 0/\ks.getD k 0<=(ps.getD k (0,0,0)).2.1
 dn:ds.length<=i
 dr:∀ d∈ds,d.1.length=r.length/\(∀ x∈d.1,0<=x)/\d.2.length<=S.ls.length/\∀ x∈d.2,0<=x
 ml:m<=ds.length
 dg:∀ d∈ds.drop m,d.2.length<=gs.length/\∀ k:Nat,k<d.2.length->d.2.getD k 0<=gs.getD k 0
section
variable {r:List Int}{S:RS}{gs ks:List Int}{ps:List Pd}{ds:List (List Int × List Int)}{m i:Nat}
theorem B6.rp (h:B6 r S gs ks ps ds m i)(hi:i<=100)(Z:Bx):RP r (exB Z) S:=
 ⟨h.rv,by have:=h.r6;omega,by rw [h.nn,aeH],by have:=h.l6;omega,by have:=h.sd;omega,(show (5:Nat)<=100 by decide),Qa Z⟩
theorem B6.lic (h:B6 r S gs ks ps ds m i):∀ l∈S.ls,um r l:=fun l hl=>R3 (h.lo l hl)
theorem B6.keep (h:B6 r S gs ks ps ds m i){S':RS}{d:QM}(e:S'.ls.length=S.ls.length)(en:S'.ns=S.ns)(es:S'.ds=S.ds++[d])(hl:∀ l∈S'.ls,yg r l)(hd:S.day<=S'.day/\S'.day<=S.day+1):B6 r S' gs ks ps ds m (i+1):=by
 have h1:=h.d0;have h2:=h.d1;have h3:=h.sd;have h4:=h.dn;exact ⟨h.rv,h.r1,h.r6,by rw [en,e];exact h.nn,by rw [e];exact h.l6,hl,by rw [es,ad7];exact afc h3,by omega,by omega,by rw [e];exact h.gl,h.gw,h.pk,by rw [e];exact h.pl,by rw [e];exact h.pb,h.pn,h.kb,by omega,by rw [e];exact h.dr,h.ml,h.dg⟩
theorem B6.file (h:B6 r S gs ks ps ds m i){l:Lic}{d:QM}(h6:S.ls.length<6)(hl:yg r l):B6 r ⟨S.day,S.ls++[l],S.ns++[("water":Str)],S.ds++[d]⟩ gs ks ps ds m (i+1):=by
 have h1:=h.d0;have h2:=h.d1;have h3:=h.sd;have h4:=h.dn;have h5:=h.gl;have h7:=h.pl;have e:(S.ls++[l]).length=S.ls.length+1:=ad7;refine ⟨h.rv,h.r1,h.r6,?_,by show (S.ls++[l]).length<=6;omega,fun x hx=>?_,by rw [ad7];exact afc h3,h1,by show S.day<=_;omega,by show _<=(S.ls++[l]).length;omega,h.gw,h.pk,by show _<=(S.ls++[l]).length;omega,fun p hp=>?_,h.pn,h.kb,by omega,fun d hd=>?_,h.ml,h.dg⟩
 ·show S.ns++[("water":Str)]=List.replicate (S.ls++[l]).length ("water":Str);rw [e,List.replicate_succ',h.nn]
 ·rcases aem.mp hx with z| z
  ·exact h.lo x z
  ·rw [aeD.mp z];exact hl
 ·have:=h.pb p hp;show _/\p.1<((S.ls++[l]).length:Int)/\_;omega
 ·obtain ⟨a,b,c,g⟩:=h.dr d hd;exact ⟨a,b,by show _<=(S.ls++[l]).length;omega,g⟩
theorem B6.aak (h:B6 r S gs ks ps ds m i){n room leak:Int}(hn:0<=n/\n<(S.ls.length:Int))(hr:0<=room)(hl:0<=leak/\leak<=1000)(hp:∀ p∈ps,p.1<n)(hpl:ps.length<S.ls.length):B6 r S gs (ks++[0]) (ps++[(n,room,leak)]) ds m i:=by
 have h4:=h.pk;refine ⟨h.rv,h.r1,h.r6,h.nn,h.l6,h.lo,h.sd,h.d0,h.d1,h.gl,h.gw,by simp only [ad7,afM];omega,by simp only [ad7,afM];omega,fun p hm=>?_,?_,fun k hk=>?_,h.dn,h.dr,h.ml,h.dg⟩
 ·rcases aem.mp hm with z| z
  ·exact h.pb p z
  ·rw [aeD.mp z];exact ⟨hn.1,hn.2,hr,hl⟩
 ·rw [ad3];refine afJ.mpr ⟨h.pn,by simp,fun a ha b hb e=>?_⟩;obtain ⟨p,hp',rfl⟩:=aep.mp ha;have:=hp p hp';have hb:b=n:=aeD.mp hb;omega
 ·rw [ad7] at hk;have hk:k<ps.length+1:=hk;by_cases e:k<ps.length
  ·have:=h.kb k e;rw [ad0,aeG (by omega),<- ad0,ad0 (l:=ps++_),aeG e,<- ad0];exact this
  ·have e:k=ps.length:=by omega
   subst e;rw [ad0,aeM (by omega),h4,afC,ad0 (l:=ps++_),<- h4,aeM (ad2 _),afC];exact ⟨aeK _,hr⟩
theorem B6.less (h:B6 r S gs ks ps ds m i){cs:List Int}(hw:Wat cs):∀ c∈fQ cs ps ks ps.length,0<=c:=Oc (fun c hc=>(hw c hc).1) (fun k hk=>(h.kb k hk).2) _ (ad2 _)
theorem B6.run (h:B6 r S gs ks ps ds m i){sp cs xs:List Int}(hs:sp.length=r.length)(hsw:Wat sp)(hc:cs.length=S.ls.length)(hw:Wat cs)(DX:Ew r sp S.ls (fQ cs ps ks ps.length) xs):
  B6 r ⟨S.day+1,S.ls,S.ns,S.ds++[.turn]⟩ (grt gs cs) (JW ps ks xs) ps (ds++[(sp,fQ cs ps ks ps.length)]) m (i+1):=by
 have h1:=h.d0;have h2:=h.d1;have h3:=h.sd;have h4:=h.dn;have h5:=h.gl;have hgl:(grt gs cs).length=cs.length:=Pu gs cs (by omega);have hel:(JW ps ks xs).length=ps.length:=by unfold JW;rw [TX,aeU]
 have hll:=jQ cs ps ks ps.length;refine ⟨h.rv,h.r1,h.r6,h.nn,h.l6,h.lo,by rw [ad7];exact afc h3,by show 0<=S.day+1;omega,by show S.day+1<=_;omega,by rw [hgl];exact Nat.le_of_eq hc,ZV (by omega) h.gw hw,hel.symm,h.pl,h.pb,h.pn,fun k hk=>?_,by rw [ad7];exact afc h4,fun d hd=>?_,by have:=h.ml;rw [ad7];omega,fun d hd=>?_⟩
 ·have e:(JW ps ks xs).getD k 0=Bu ps ks xs k - zf ps ks xs k:=by
   unfold JW;rw [ad0,ad5,afe hk];rfl
  obtain ⟨b1,b2⟩:=h.kb k hk;obtain ⟨p0,p1,p2,p3,p4⟩:=h.pb _ (ad1 (getD_at (d:=(0,0,0)) hk));have ha:=Oe (ks:=ks) (cs:=cs) h.pn (fun p hp=>⟨(h.pb p hp).1,by have:=(h.pb p hp).2.1;omega⟩) hk ps.length hk (ad2 _);have hq:(ps.getD k (0,0,0)).1.toNat<S.ls.length:=by omega
  obtain ⟨l,hl⟩:∃ l,S.ls[(ps.getD k (0,0,0)).1.toNat]?=some l:=⟨_,adW hq⟩;have f0:=DX.fit.nn _ hq;have f2:Tn.fX (jz S.ls (fQ cs ps ks ps.length)) (ps.getD k (0,0,0)).1.toNat<=(ps.getD k (0,0,0)).2.1 - ks.getD k 0:=by
   unfold Tn.fX;rw [ad0,Ez hl (getD_at (d:=0) (by omega)),ha];exact Int.le_trans (Int.min_le_left _ _) (Int.min_le_right _ _)
  have f3:Tn.fX xs (ps.getD k (0,0,0)).1.toNat=xs.getD (ps.getD k (0,0,0)).1.toNat 0:=rfl;have f1:=Int.le_trans (DX.fit.le _ hq) f2;rw [f3] at f0 f1;rw [e];unfold zf Bu;generalize xs.getD (ps.getD k (0,0,0)).1.toNat 0=x at f0 f1;generalize (ps.getD k (0,0,0)).2.2=lk at p3 p4;generalize ks.getD k 0=u at b1 b2 f1;have g0:0<=u+x:=by omega
  have g1:0<=(u+x)*lk / 1000:=Int.ediv_nonneg (Int.mul_nonneg g0 p3) (by decide);have g2:(u+x)*lk / 1000<=u+x:=by
   have:=Int.mul_le_mul_of_nonneg_left p4 g0;omega
  omega
 ·rcases aem.mp hd with z| z
  ·exact h.dr d z
  ·rw [aeD.mp z];exact ⟨hs,fun x hx=>(hsw x hx).1,by show (fQ cs ps ks ps.length).length<=S.ls.length;omega,h.less hw⟩
 ·rw [List.drop_append_of_le_length h.ml] at hd;rw [hgl];rcases aem.mp hd with z| z
  ·obtain ⟨z1,z2⟩:=h.dg d z;refine ⟨by omega,fun k hk=>?_⟩;rw [Px (by omega) (by omega)];exact Int.le_trans (z2 k hk) (Int.le_max_right _ _)
  ·rw [aeD.mp z];refine ⟨Nat.le_of_eq hll,fun k hk=>?_⟩;have hk:k<(fQ cs ps ks ps.length).length:=hk;rw [Px (by omega) (by omega)];exact Int.le_trans (Od cs ps ks k _) (Int.le_max_left _ _)
theorem B6.close (h:B6 r S gs ks ps ds m i):step r S (.lapse (tE S gs))=.ok ⟨S.day,fJ S.ls (tE S gs),S.ns,S.ds++[.lapse (tE S gs)]⟩/\B6 r ⟨S.day,fJ S.ls (tE S gs),S.ns,S.ds++[.lapse (tE S gs)]⟩ [] ks ps ds ds.length (i+1):=by
 have hw:∀ x∈tE S gs,0<=x/\x<=1000000000000:=fun x hx=>by
  rcases aem.mp hx with z| z
  ·exact h.gw x z
  ·obtain ⟨l,hl,rfl⟩:=aep.mp z;have g:=h.lo l (afS hl);exact ⟨g.1.2.2.2.2.1,g.1.2.2.2.2.2⟩
 refine ⟨by simp only [step];rw [if_neg (fun z=>z (Ql h.gl)),if_neg (fun z=>z hw)],?_⟩;have k:=h.keep (S':=⟨S.day,fJ S.ls (tE S gs),S.ns,S.ds++[.lapse (tE S gs)]⟩) (xH h.gl) rfl rfl (fun l hl=>by
  obtain ⟨j,hj⟩:=afB hl;cases e:S.ls[j]? with
  | none=>rw [zx e] at hj;cases hj
  | some l1 =>
   have g:=h.lo l1 (ad1 e);have hx:=hw _ (ad1 (YW (gs:=gs) e));have hm:=g.1.2.2.2.2.1;rw [Cd e] at hj;rw [<- aek hj];exact g.wm (by rw [afZ];split <;>omega) (Int.min_le_left _ _)) ⟨aeK _,by show S.day<=S.day+1;omega⟩
 exact ⟨k.rv,k.r1,k.r6,k.nn,k.l6,k.lo,k.sd,k.d0,k.d1,aez _,(fun x hx=>nomatch hx),k.pk,k.pl,k.pb,k.pn,k.kb,k.dn,k.dr,ad2 _,fun d hd=>by rw [List.drop_length] at hd;cases hd⟩
end
theorem Ow.behind (X R Y Z:List (Addr × HO))(O:Ow T H0 H (X++(R++(Y++Z)))):Ow T H0 H (R++(Y++(X++Z))):=(Ow.front X R (Y++Z) O).perm (afa _ (afO Y X Z))
structure L3 where
 l0:Addr
 l1:Addr
 l2:Addr
abbrev WL (ro mr:Addr)(W:L3)(u0:List V)(ks ms:List Int)(u2:List V):List (Addr × HO):=[(ro,.lst [.ref W.l0,.ref W.l1,.ref W.l2]),(W.l0,.lst u0),(W.l1,.lst (ks.map V.int)),(W.l2,.lst u2),(mr,.lst (ms.map V.int))]
def aad (H:Hp)(us:List V)(ds:List (List Int × List Int)):Prop:=∀ (k:Nat)(d:List Int × List Int),ds[k]?=some d->∃ t a b:Addr,us[k]?=some (.ref t)/\H t=some (.tup [.ref a,.ref b])/\H a=some (.lst (d.1.map V.int))/\H b=some (.lst (d.2.map V.int))
variable {ds:List (List Int × List Int)}
theorem aad.mo {H':Hp}{us:List V}(h:aad H us ds)(s:aN T H H'):aad H' us ds:=fun k d hd=>by
 obtain ⟨t,a,b,e,h1,h2,h3⟩:=h k d hd;exact ⟨t,a,b,e,s.keep _ _ h1 (fun _ z=>nomatch z),s.keep _ _ h2 (fun _ z=>nomatch z),s.keep _ _ h3 (fun _ z=>nomatch z)⟩
theorem aad.snoc {us:List V}{d:List Int × List Int}{t a b:Addr}(h:aad H us ds)(e:us.length=ds.length)(h1:H t=some (.tup [.ref a,.ref b]))(h2:H a=some (.lst (d.1.map V.int)))(h3:H b=some (.lst (d.2.map V.int))):aad H (us++[V.ref t]) (ds++[d]):=fun k x hx=>by
 by_cases hk:k<ds.length
 ·rw [aeG hk] at hx;obtain ⟨t,a,b,g,r⟩:=h k x hx;exact ⟨t,a,b,by rw [aeG (by omega)];exact g,r⟩
 ·have hl:=(acp.mp hx).1;rw [ad7] at hl;have hk:k=ds.length:=by have:k<ds.length+1:=hl;omega
  subst hk;rw [afu] at hx;cases hx;exact ⟨t,a,b,by rw [<- e];exact afu ..,h1,h2,h3⟩
theorem ab3 {v:V}{d:List Int × List Int}(h:Den K H v (Bv d)):acg K H v d:=by
 obtain ⟨t,zs,rfl,hT,dz⟩:=Den.Lr h;cases dz with
 | cons e1 e2=>cases e2 with
  | cons e2 e3 =>
   cases e3;obtain ⟨a,rfl,hA⟩:=e1.zy;obtain ⟨b,rfl,hB⟩:=e2.zy;exact ⟨t,a,b,rfl,hT,hA,hB⟩
inductive BA6 (K:PySem.W.Frag)(T:dY)(C:Addr)(A:Rs)(Z:Bx)(ro mr:Addr)(W:L3)(r:List Int)(H0 H:Hp)(B:List (Addr × HO))(n i:Nat):Prop
 | mk (S:RS)(gs ks:List Int)(ps:List Pd)(ds:List (List Int × List Int))(rs us u0 u2:List V)(ms:List Int)(m:Nat)(_:RA K T C A (exB Z) r H0 H (BL Z (gs.map V.int) rs (ks.map V.int) us++(WL ro mr W u0 ks (ms++[(m:Int)]) u2++B)) S)(_:bT K H0 us (ps.map dMv))(_:bT K H0 rs (ds.map Bv))(_:bT K H0 u0 (ps.map fun p=>dPr (p.1,p.2.1)))(_:bT K H0 u2 (ds.map Bv))(_:aad H0 u2 ds)(_:S.ls.length=n/\ms.length<=i)(_:B6 r S gs ks ps ds m i)
structure In6 (r:List Int)(B:List (Addr × HO))(lv lx:Addr)(xs:List Int):Prop where
 v:(lv,HO.lst (r.map V.int))∈B
 x:(lx,HO.lst (xs.map V.int))∈B
 l:xs.length=14
 b:∀ x∈xs,0<=x/\x<8589934592
def acs (K:PySem.W.Frag)(T:dY)(C:Addr)(A:Rs)(ro mr:Addr)(r:List Int)(H0:Hp)(B:List (Addr × HO))(i:Nat)(v:V)(Q:VK):Prop:=
 ∀ (Z':Bx)(W':L3)(Hb H':Hp)(n':Nat),aN T H0 Hb->BA6 K T C A Z' ro mr W' r Hb H' B n' (i+1)->Q v H'
theorem Lj:Ay "water"/\Asc "water":=⟨⟨by decide+kernel,by decide+kernel,by decide+kernel⟩,by decide+kernel,by decide+kernel⟩
theorem ZX {s b:Int}(hl:yg r ⟨S.day,s,b,m⟩)(hm:m≠0)(h6:S.ls.length<60):step r S (.file "water" s m b)=.ok ⟨S.day,S.ls++[⟨S.day,s,b,m⟩],S.ns++[("water":Str)],S.ds++[.file "water" s m b]⟩:=by
 simp only [step];rw [if_neg (not_not_intro Lj.1),if_neg (fun z=>z.elim hm fun z=>z hl),if_neg (by omega)]
theorem ZS {ps:List Pd}{n:Int}(h:∀ p∈ps,p.1<n):aao ps n=false:=by
 unfold aao;rw [List.any_map,List.any_eq_false];intro p hp;have:=h p hp;simp only [Function.comp_apply,id_eq,decide_eq_true_eq];omega
theorem Zf {ps:List Pd}{room leak:Int}(hl:S.ls[n]?=some l)(hn:S.ns[n]?=some ("water":Str))(hb:l.back=-1)(hp:∀ p∈ps,p.1<(n:Int))(hpl:ps.length<10)(hr:0<=room/\room<=1000000000000)(hk:0<=leak/\leak<=1000):Du S ps (n:Int) "water" room leak=none:=by
 have:=(acp.mp hl).1;unfold Du;rw [if_neg (not_not_intro ⟨by omega,by omega⟩),aeb,if_neg (not_not_intro hn),JH rfl hl,if_neg];rintro (z| z| z| z)
 ·exact z hb
 ·rw [ZS hp] at z;cases z
 ·omega
 ·exact z ⟨hr.1,hr.2,hk⟩
theorem At6 {lv lx:Addr}(h:In6 r B lv lx xs)(k:Nat)(hk:k<14):xs[k]?=some (xs.getD k 0)/\0<=xs.getD k 0/\xs.getD k 0<8589934592:=by
 have e:=bL (ns:=xs) (k:=k) (by have:=h.l;omega);exact ⟨e,h.b _ (ad1 e)⟩
abbrev qj:Stmt:=top 83
theorem iy:aH ["book","river","rows","xs","great","start","walk","back","number"] ["book","river","rows","xs","great"] (ao qj):=by walk_at "sc"
inductive T4 (K:PySem.W.Frag)(T:dY)(C:Addr)(vs:List V)(H:Hp)(Q:VK)(E:XK):Prop
 | mk (A:Rs)(Z:Bx)(ro mr:Addr)(W:L3)(H0:Hp)(B:List (Addr × HO))(r:List Int)(n i:Nat)(lv lx:Addr)(xs:List Int)(g:Bool)(_:vs=[.ref A.p,.ref lv,.ref ro,.ref lx,.bl g])(_:BA6 K T C A Z ro mr W r H0 H B n i)(_:n<6)(_:i<=60)(_:In6 r B lv lx xs)(_:acs K T C A ro mr r H0 B i .non Q)
variable (eY:(CX0|||1) oV o9 ["x","great"] aaG)
variable (Bf:((CXE P w)|||3) vf vH ["self","holder","start","most","back"] (Mq K T C c))
variable (Bh:((CXE P w)|||3) vh vJ ["self","number","holder","room","leak"] (Mg K T C c cP))
variable {qX:Addr}{rQ:FuncData}(gW:Df K mg "_law_filed" qj ["book","river","rows","xs","great"] qX rQ)
include bG gY fM iu bD bI gH eY Bf Bh gW in
theorem abk (B:Blt mg):
  (CX0|||4) qX rQ ["book","river","rows","xs","great"] (T4 K T C):=by
 refine gW.F.ok iy ?_ ?_
 walk_at "i"
 obtain ⟨A,Z,ro,mr,W,H0,L,r,n,i,lv,lx,xs,g,rfl,⟨S,gs,ks,ps,ds,rs,us,u0,u2,ms,m,⟨ls,vs,O,d0,d1⟩,dP,dR,dU,dD,dW,⟨rfl,hm⟩,hk⟩,h6,hi,h,q⟩:=h
 have ft:∀ {X:List (Addr × HO)}{x:Addr × HO}{day:Int}{us0:List V}{ns0:List Str}{vs0 gs0 rs0 ks0 us1 u0' u2':List V}{ks' ms':List Int},x∈L->x∈X++(RX C A (exB Z) r day us0 ns0 vs0++(BL Z gs0 rs0 ks0 us1++(WL ro mr W u0' ks' ms' u2'++L))):=fun h=>ad4 _ (ad4 _ (ad4 _ (ad4 _ h)))
 have hml:(((r.map V.int).length:Nat):Int)=(r.length:Int):=by rw [TX]
 have r1:=hk.r1
 have r6:=hk.r6
 have hR:=hk.rp (by omega) Z
 refine ⟨_,(5<$>iy<$>(@bB _ _ _ _ _ _ _ _ jq (@aM _ _ _ _ _ _ _ aF (pv 3) au (fun _ _=>rfl)) (aC aA rfl B.len ad9 (pv 1>=>ak)))<|>6<$>iy<$>(bI<*gH<*(pv 1>=>pv 5>=>@vZ _ _ _ _ _ _ mj au>=>ak))<|>7<$>iy<$>(@aM _ _ _ _ _ _ _ aF (pv 6) (@bB _ _ _ _ _ _ _ _ jq (@bB _ _ _ _ _ _ _ _ qz (@aM _ _ _ _ _ _ _ aF (pv 3) au (fun _ _=>rfl)) au) (aC aA rfl B.len ad9 (pv 6>=>ak))) (fun _ _=>rfl))<|>(M9 (@dw _ _ _ _ _ _ _ _ (PW.pt (pw_or (aP qC (pv 7) (pv 5) (aX _)) (pw_or1 (aP KH (@bB _ _ _ _ _ _ _ _ jq (@aM _ _ _ _ _ _ _ aF (pv 3) au (fun _ _=>rfl)) au) au (aX _)))))
   (~~~(7<$>iy<$>(@vZ _ _ _ _ _ _ mj au)))
   bf)
  (8<$>iy<$>(jY (pv 0) bG.c gY.m Bf hr.m gY.b0 .nil KD (jo>=>pv 5>=>@bB _ _ _ _ _ _ _ _ mH au (@bB _ _ _ _ _ _ _ _ jq (bD<*eY<*(@aM _ _ _ _ _ _ _ aF (pv 3) au (fun _ _=>rfl)>=>pv 4>=>ak)) (@bB _ _ _ _ _ _ _ _ Jy au au))>=>pv 7>=>ak))<|>(~~~(@dw _ _ _ _ _ _ _ _ (PW.pt (pw_and (aP qC (pv 7) (@vZ _ _ _ _ _ _ mj au) (aX _)) (pw_and1 (aP qC (@bB _ _ _ _ _ _ _ _ jq (@aM _ _ _ _ _ _ _ aF (pv 3) au (fun _ _=>rfl)) au) au (aX _)))))
   (aU (jY (pv 0) fM.c iu.m Bh hr.m iu.b0 .nil KD (pv 8>=>jo>=>bD<*eY<*(@aM _ _ _ _ _ _ _ aF (pv 3) au (fun _ _=>rfl)>=>pv 4>=>ak)>=>@bB _ _ _ _ _ _ _ _ jq (@aM _ _ _ _ _ _ _ aF (pv 3) au (fun _ _=>rfl)) au>=>ak))<|>aU (jy aea aef aeg aY (@aM _ _ _ _ _ _ _ aF (pv 2) au (fun _ _=>rfl)) (@f9 _ _ _ _ _ (pv 8>=>bD<*eY<*(@aM _ _ _ _ _ _ _ aF (pv 3) au (fun _ _=>rfl)>=>pv 4>=>ak)>=>ak)>=>ak))<|>(~~~(aU (jy aea aef aeg aY (@aM _ _ _ _ _ _ _ aF (pv 2) au (fun _ _=>rfl)) (au>=>ak)))))
   bf))))),?_⟩
 have hX:=SqL.of (K:=K) (O.at_ _ (ft (X:=[]) h.x))
 have hV:=SqL.of (K:=K) (O.at_ _ (ft (X:=[]) h.v))
 refine ⟨_,rfl,lx,_,1,_,rfl,rfl,hX,bh (i:=1) (At6 h 1 (by decide)).1,_,rfl,lv,_,rfl,.inl hV,_,_,rfl,rfl,(by rw [hml];omega),?_⟩
 dsimp only
 rw [hml]
 have b0:=ae6 (xs.getD 1 0) (show (r.length:Int)≠0 by omega)
 have b1:=aeY (xs.getD 1 0) (show (0:Int)<(r.length:Int) by omega)
 generalize xs.getD 1 0 % (r.length:Int)=st at b0 b1
 refine ⟨_,rfl,_,rfl,1,rfl,lv,r,st,-1,rfl,hV,hk.rv,b0,b1,by omega,O.same.t1,O.Bt fun lw H1 ys O e=>?_⟩
 subst e
 rw [show Rv.dZ r st (-1)=Rv.walk r st from if_pos rfl] at O
 have hX:=SqL.of (K:=K) (O.at_ _ (ft (X:=[_]) h.x))
 have hwc:=Rv.fH hk.rv b0 b1
 have hw1:1<=(Rv.walk r st).length:=by rw [hwc];exact afc (aez _)
 generalize hWk:Rv.walk r st=wk at O hw1 hwc
 have hwl:(((wk.map V.int).length:Nat):Int)=(wk.length:Int):=by rw [TX]
 have c0:=ae6 (xs.getD 2 0 / 4) (show (wk.length:Int)≠0 by omega)
 have c1:=aeY (xs.getD 2 0 / 4) (show (0:Int)<(wk.length:Int) by omega)
 refine ⟨_,rfl,_,rfl,lx,_,2,_,rfl,rfl,hX,bh (i:=2) (At6 h 2 (by decide)).1,_,_,rfl,rfl,⟨by decide,by decide⟩,_,rfl,lw,_,rfl,.inl (O.sq 0),_,_,rfl,rfl,(by rw [hwl];omega),?_⟩
 dsimp only
 rw [hwl]
 refine ⟨lw,_,_,_,rfl,rfl,O.sq 0,gk c0 c1,?_⟩
 generalize hbk:wk.getD (xs.getD 2 0 / 4 % (wk.length:Int)).toNat 0=bk
 have hbm:bk∈wk:=by rw [<- hbk];exact ad1 (getD_at (d:=0) (by omega))
 have O:=O.tail
 refine ⟨fun σ H'=>Iv (∃ b:Int,σ=[some (.ref A.p),some (.ref lv),some (.ref ro),some (.ref lx),some (.bl g),some (.int st),some (.ref lw),some (.int b),none]/\H'=H1/\(b=-1\/b∈wk.drop 1)),?_,?_⟩
 ·have dn:bk≠st->bk=-1\/bk∈wk.drop 1:=fun z=>by
   rw [hwc] at hbm ⊢
   exact .inr ((aen.mp hbm).resolve_left z)
  refine ⟨_,rfl,_,rfl,rfl,_,rfl,ifI (fun _=>⟨1,rfl,trivial,-1,rfl,rfl,.inl rfl⟩) (fun z=>?_)⟩
  exact ⟨_,rfl,lx,_,2,_,rfl,rfl,hX,bh (i:=2) (At6 h 2 (by decide)).1,_,_,rfl,rfl,(by show (0:Int)<4;decide),_,_,rfl,rfl,_,rfl,ifD (fun _=>⟨1,rfl,trivial,-1,rfl,rfl,.inl rfl⟩) (fun _=>⟨trivial,bk,rfl,rfl,dn z⟩)⟩
 rintro σ H' ⟨-,b,rfl,rfl,hb⟩
 have e12:(10:Int) ^ (12:Int).toNat=1000000000000:=by decide
 have x3:=At6 h 3 (by decide)
 have x5:=At6 h 5 (by decide)
 have a3:=Er (xs.getD 3 0) g
 have m0:=ae6 (amt (xs.getD 3 0) g) (show (1000000000000:Int)≠0 by decide)
 have m1:=aeY (amt (xs.getD 3 0) g) (show (0:Int)<1000000000000 by decide)
 refine ⟨_,rfl,A.p,A.dx,_,rfl,O.get 0,rfl,_,rfl,_,rfl,lx,_,3,_,rfl,rfl,hX,bh (i:=3) x3.1,_,rfl,_,g,rfl,x3.2.1,x3.2.2,_,_,rfl,rfl,⟨by decide,by decide,by decide⟩,_,_,rfl,rfl,(by show (0:Int)<10 ^ (12:Int).toNat;rw [e12];decide),_,_,rfl,rfl,_,rfl,?_⟩
 dsimp only
 rw [e12]
 generalize hmm:1+amt (xs.getD 3 0) g % 1000000000000=mm
 have hd0:=hk.d0
 have hd1:=hk.d1
 have hl:yg r ⟨S.day,st,b,mm⟩:=⟨⟨hd0,by show S.day<=1000000;omega,b0,b1,by show 0<=mm;omega,by show mm<=1000000000000;omega⟩,hb.imp id fun z=>by rw [hWk];exact z⟩
 have hst:=ZX (S:=S) hl (by omega) (by omega)
 refine ⟨A,exB Z,H0,_,r,S,"water",st,mm,b,.int b,rfl,.inr rfl,⟨ls,vs,O,d0,d1⟩,hR,Lj.2,fun S' hs Hb H2 sb ra=>?_,fun k e=>by rw [hst] at e;cases e⟩
 rw [hst] at hs
 cases hs
 clear O
 have hk2:=hk.file (d:=.file "water" st mm b) h6 hl
 have dP:=dP.mo sb
 have dR:=dR.mo sb
 have dU:=dU.mo sb
 have dD:=dD.mo sb
 have dW:=dW.mo sb
 obtain ⟨ls2,vs2,O,e0,e1⟩:=id ra
 have hX:=SqL.of (K:=K) (O.at_ _ (ft (X:=[]) h.x))
 have no:Q .non H2:=q Z W Hb H2 _ sb ⟨_,gs,ks,ps,ds,rs,us,u0,u2,ms,m,ra,dP,dR,dU,dD,dW,⟨rfl,by omega⟩,hk2⟩
 refine ⟨_,rfl,1,rfl,rfl,_,rfl,ifI (fun hb1=>?_) (fun _=>yC no)⟩
 refine ⟨_,rfl,lx,_,4,_,rfl,rfl,hX,bh (i:=4) (At6 h 4 (by decide)).1,_,_,rfl,rfl,(by show (0:Int)<4;decide),rfl,_,rfl,ifI (fun _=>?_) (fun _=>no)⟩
 have x6:=At6 h 6 (by decide)
 have a5:=Er (xs.getD 5 0) g
 have l0:=ae6 (xs.getD 6 0) (show (1001:Int)≠0 by decide)
 have l1:=aeY (xs.getD 6 0) (show (0:Int)<1001 by decide)
 have hpl:=hk.pl
 have hpk:=hk.pk
 have hpo:=hk.pb
 have hnl:S.ns.length=S.ls.length:=by rw [hk.nn,aeH]
 have hpd:=Zf (S:=⟨S.day,S.ls++[⟨S.day,st,b,mm⟩],S.ns++[("water":Str)],S.ds++[.file "water" st mm b]⟩) (ps:=ps) (n:=S.ls.length) (l:=⟨S.day,st,b,mm⟩) (leak:=xs.getD 6 0 % 1001) (afu ..) (by rw [<- hnl];exact afu ..) hb1 (fun p hp=>(hpo p hp).2.1) (by omega) a5 ⟨l0,by omega⟩
 refine ⟨_,rfl,A.p,A.dx,_,rfl,O.get 0,rfl,_,rfl,_,rfl,lx,_,5,_,rfl,rfl,hX,bh (i:=5) x5.1,_,rfl,_,g,rfl,x5.2.1,x5.2.2,_,rfl,lx,_,6,_,rfl,rfl,hX,bh (i:=6) x6.1,_,_,rfl,rfl,(by show (0:Int)<1001;decide),?_⟩
 dsimp only
 generalize xs.getD 6 0 % 1001=lk at l0 l1 hpd
 refine ⟨A,Z,Hb,_,r,_,_,rs,_,us,ps,_,"water",_,lk,rfl,ra,hk2.rp (by omega) Z,dP,by omega,by rw [TX];omega,fun _ t Hc H3 sc ra2 dP2=>?_,fun k e=>by rw [hpd] at e;cases e⟩
 clear O
 obtain ⟨ls3,vs3,O,e0,e1⟩:=ra2
 have dR:=dR.mo sc
 have dU:=dU.mo sc
 have dD:=dD.mo sc
 have dW:=dW.mo sc
 have hX:=SqL.of (K:=K) (O.at_ _ (ft (X:=[]) h.x))
 have hul:u0.length=ps.length:=by rw [dU.length,TX]
 refine ⟨_,rfl,ro,_,0,.ref W.l0,rfl,rfl,O.sq 10,rfl,.inl ⟨rfl,_,O.sq 11⟩,_,rfl,_,rfl,lx,_,5,_,rfl,rfl,hX,bh (i:=5) x5.1,_,rfl,_,g,rfl,x5.2.1,x5.2.2,szl,fun t2 ht2=>?_⟩
 walk_at "nw"
 refine ⟨W.l0,_,_,rfl,rfl,O.get 12,aG (by omega),?_⟩
 generalize hE:upd _ _ _=Hn
 have O:=Ow.uc O 12 rfl hE rfl
 clear hE
 refine ⟨_,rfl,ro,_,1,.ref W.l1,rfl,rfl,O.sq 11,rfl,.inl ⟨rfl,_,O.sq 13⟩,W.l1,_,_,rfl,rfl,O.get 13,aG (by rw [TX];omega),?_⟩
 generalize hE:upd _ _ _=Hn2
 have O:=Ow.uc O 13 rfl hE rfl
 clear hE
 obtain ⟨Hd,O,sd,xt⟩:=O.frz
 have e01:ks.map V.int++[V.int 0]=(ks++[0]).map V.int:=by rw [ad3];rfl
 have dU2:bT K Hd (u0++[V.ref t2]) ((ps++[((S.ls.length:Int),amt (xs.getD 5 0) g,lk)]).map fun p=>dPr (p.1,p.2.1)):=by
  rw [ad3]
  exact (dU.mo sd).append (.cons (.tuple (SqT.of xt) (.cons (.int _) (.cons (.int _) .nil))) .nil)
 refine q Z W Hd Hn2 _ ((sb.trans sc).trans sd) ⟨_,gs,ks++[0],ps++[((S.ls.length:Int),amt (xs.getD 5 0) g,lk)],ds,rs,us++[.ref t],u0++[.ref t2],u2,ms,m,⟨ls3,vs3,?_,e0.mo sd,e1.mo sd⟩,dP2.mo sd,dR.mo sd,dU2,dD.mo sd,dW.mo sd,⟨rfl,by omega⟩,hk2.aak ⟨by omega,by show _<((S.ls++[_]).length:Int);rw [ad7];simp;omega⟩ a5.1 ⟨l0,by omega⟩ (fun p hp=>(hpo p hp).2.1) (by show _<(S.ls++[_]).length;rw [ad7];simp;omega)⟩
 rw [e01] at O
 exact O
theorem Sd {l1 l2:Addr}{xs ys:List V}{g:TG}{tb:TS}{De:Ends}(Pv:Nat->St->Hp->Prop)(hxy:xs.length<=ys.length)(h0:Pv 0 σ H)(hl:∀ i σ H,i<=xs.length->Pv i σ H->SqL K H l1 xs/\SqL K H l2 ys)(hs:∀ i a b T σ H,xs[i]?=some a->ys[i]?=some b->Pv i σ H->H T=none->g (.ref T) σ (upd H T (.tup [a,b])) fun σ2 H2=>tb { De with nx:=Pv (i+1),ct:=Pv (i+1),bk:=De.nx } σ2 H2)(hd:∀ σ H,Pv xs.length σ H->De.nx σ H):
  ∃ W:Nat->Nat->St->Hp->Prop,(∃ m,W 0 m σ H)/\∀ i m σ H,W i m σ H ->
   ((Itz K l1 l2 xs ys).stop i H/\De.nx σ H)\/((Itz K l1 l2 xs ys).go i H/\∃ N:St->Hp->Prop,(∀ σ' H',N σ' H'->∃ m',m'<m/\W (i+1) m' σ' H')/\∀ x H',(Itz K l1 l2 xs ys).yld i H x H'->g x σ H' fun σ2 H2=>tb { De with nx:=N,ct:=N,bk:=De.nx } σ2 H2):=by
 refine ⟨fun i m σ H=>m=xs.length - i/\i<=xs.length/\Pv i σ H,⟨xs.length,by simp,aez _,h0⟩,?_⟩;rintro i m σ H ⟨rfl,hi,p⟩;obtain ⟨q1,q2⟩:=hl i σ H hi p;by_cases hlt:i<xs.length
 ·refine .inr ⟨⟨q1,q2,hlt,by omega⟩,Pv (i+1),fun σ' H' p'=>⟨xs.length - (i+1),by omega,rfl,hlt,p'⟩,fun x H' y=>?_⟩;obtain ⟨T,a,b,rfl,hT,ha,hb,rfl⟩:=y;exact hs i a b T σ _ ha hb p hT
 ·obtain rfl:i=xs.length:=by omega
  exact .inl ⟨⟨q1,q2,.inl (ad2 _)⟩,hd σ H p⟩
theorem acU {a b c k:Int}(h0:0<=k)(h1:k<4)(ha:0<=a/\a<=1000000000000)(hb:0<=b/\b<=1000000000000)(hc:0<=c/\c<=1000000000000)(hd:0<=d/\d<=1000000000000):∃ y,atI [V.int a,V.int b,V.int c,V.int d] k=some (V.int y)/\0<=y/\y<=1000000000000:=by
 rcases (by omega:k=0\/k=1\/k=2\/k=3) with e| e| e| e <;>subst e
 ·exact ⟨a,rfl,ha⟩
 ·exact ⟨b,rfl,hb⟩
 ·exact ⟨c,rfl,hc⟩
 ·exact ⟨d,rfl,hd⟩
abbrev sX:Stmt:=top 84
theorem eO:aH ["book","river","rows","xs","great","springs","calls","one","x","dealt","pond","kept","handed"] ["book","river","rows","xs","great"] (ao sX):=by walk_at "sc"
inductive Tt (K:PySem.W.Frag)(T:dY)(C:Addr)(vs:List V)(H:Hp)(Q:VK)(E:XK):Prop
 | mk (A:Rs)(Z:Bx)(ro mr:Addr)(W:L3)(H0:Hp)(B:List (Addr × HO))(r:List Int)(n i:Nat)(lv lx:Addr)(xs:List Int)(g:Bool)(_:vs=[.ref A.p,.ref lv,.ref ro,.ref lx,.bl g])(_:BA6 K T C A Z ro mr W r H0 H B n i)(_:i<=60)(_:In6 r B lv lx xs)(_:acs K T C A ro mr r H0 B i .non Q)
variable (CK:((CXE P w)|||9) xT yc ["self","springs","calls","lets"] (Ti K T C cD))
variable {xR:Addr}{xZ:FuncData}(jJ:Df K mg "_law_run" sX ["book","river","rows","xs","great"] xR xZ)
include aW bG fM fj jc bD eY CK jJ in
theorem aa6 (B:Blt mg):
  (CX0|||10) xR xZ ["book","river","rows","xs","great"] (Tt K T C):=by
 refine jJ.F.ok eO ?_ ?_
 walk_at "i"
 obtain ⟨A,Z,ro,mr,W,H0,L,r,n,i,lv,lx,xs,g,rfl,⟨S,gs,ks,ps,ds,rs,us,u0,u2,ms,m,⟨ls,vs,O,d0,d1⟩,dP,dR,dU,dD,dW,⟨rfl,hm⟩,hk⟩,hi,h,q⟩:=h
 have ft:∀ {X:List (Addr × HO)}{x:Addr × HO}{ex:List (Str × V)}{day:Int}{us0:List V}{ns0:List Str}{vs0 gs0 rs0 ks0 us1 u0' u2':List V}{ks' ms':List Int},x∈L->x∈X++(RX C A ex r day us0 ns0 vs0++(BL Z gs0 rs0 ks0 us1++(WL ro mr W u0' ks' ms' u2'++L))):=fun h=>ad4 _ (ad4 _ (ad4 _ (ad4 _ h)))
 have hml:(((r.map V.int).length:Nat):Int)=(r.length:Int):=by rw [TX]
 have r1:=hk.r1
 have r6:=hk.r6
 have l6:=hk.l6
 have hxl:=h.l
 have hll:ls.length=S.ls.length:=by rw [d0.length,TX]
 have hR:=hk.rp (by omega) Z
 refine ⟨_,(kZ (i:=5) (ao sX) rfl ["book","river","rows","xs","great","springs","calls","one","x","dealt","pond","kept","handed"] rfl ["x","great"] [none,some 4] (by decide+kernel) (by decide+kernel) (by decide+kernel) rfl eO.nd rfl rfl (bF (kj ux (pv 3) (lF au) (lF (@bB _ _ _ _ _ _ _ _ mH au (aC aA rfl B.len ad9 (pv 1>=>ak)))))) (fun _ _ _=>(bA (i:=0) (show (["x","great"]:List Str).Nodup by decide+kernel) rfl (Or.inl rfl))) (fun _ _ _=>dJ) (fun _ _ _=>(bD<*eY<*(pv 0>=>pv 1>=>ak))) rfl<|>6<$>eO<$>(@bU _ _ _ _ ak)<|>cI aeh rfl (qu rfl B.zip (jL (pv 0) bG.c aW.m fj hr.m aW.b .nil wg>=>kj ux (pv 3) (lF au) uN>=>ak)) (fZ rfl (aB (7>>eO) (aB (8>>eO) bH)))
   (~~~(aU (jy aea aef aeg aY (pv 6) (@aM _ _ _ _ _ _ _ aF (@bU _ _ _ _ (bD<*eY<*(pv 8>=>pv 4>=>ak)>=>@aM _ _ _ _ _ _ _ fL (pv 7) au (fun _ _=>rfl)>=>@bB _ _ _ _ _ _ _ _ qz (@aM _ _ _ _ _ _ _ fL (pv 7) au (fun _ _=>rfl)) au>=>aC (sE rfl) rfl B.min afk (@bB _ _ _ _ _ _ _ _ Jy au au>=>@bB _ _ _ _ _ _ _ _ mH (@aM _ _ _ _ _ _ _ fL (pv 7) au (fun _ _=>rfl)) au>=>ak)>=>ak)) (@bB _ _ _ _ _ _ _ _ jq (pv 8) au) (fun _ _=>rfl)>=>ak))))<|>9<$>eO<$>(bR bx rfl B.list aes (pv 6>=>ak))<|>cI aeh rfl (qu rfl B.zip (@aM _ _ _ _ _ _ _ aF (pv 2) au (fun _ _=>rfl)>=>@aM _ _ _ _ _ _ _ aF (pv 2) au (fun _ _=>rfl)>=>ak)) (fZ rfl (aB (10>>eO) (aB (11>>eO) bH)))
   (~~~(iH (aC (sE rfl) rfl B.min afk (@aM _ _ _ _ _ _ _ aF (pv 9) (@aM _ _ _ _ _ _ _ fL (pv 10) au (fun _ _=>rfl)) (fun _ _=>rfl)>=>@bB _ _ _ _ _ _ _ _ wz (@aM _ _ _ _ _ _ _ fL (pv 10) au (fun _ _=>rfl)) (pv 11)>=>ak)) (ud (pv 9) (@aM _ _ _ _ _ _ _ fL (pv 10) au (fun _ _=>rfl)) set_list)))<|>12<$>eO<$>(@bU _ _ _ _ (bR bx rfl B.list aes (pv 5>=>ak)>=>bR bx rfl B.list aes (pv 6>=>ak)>=>ak))<|>iH (bR bx rfl B.list aes (@aM _ _ _ _ _ _ _ fL (jY (pv 0) fM.c jc.m CK hr.m jc.b1 (.cons (show RelV .non Value.none from rfl) .nil) KD (@aM _ _ _ _ _ _ _ aF (pv 12) au (fun _ _=>rfl)>=>@aM _ _ _ _ _ _ _ aF (pv 12) au (fun _ _=>rfl)>=>ak)) au (fun _ _=>rfl)>=>ak)) (ud (pv 2) au set_list)<|>aU (jy aea aef aeg aY (@aM _ _ _ _ _ _ _ aF (pv 2) au (fun _ _=>rfl)) (@f9 _ _ _ _ _ (pv 5>=>pv 9>=>ak)>=>ak))<|>aU (Ub aea PySem.F.slot_list_clear PySem.F.type_list_clear JF (@aM _ _ _ _ _ _ _ aF (pv 12) au (fun _ _=>rfl)))<|>(~~~(aU (Ub aea PySem.F.slot_list_clear PySem.F.type_list_clear JF (@aM _ _ _ _ _ _ _ aF (pv 12) au (fun _ _=>rfl)))))),?_⟩
 have hX:=SqL.of (K:=K) (O.at_ _ (ft (X:=[]) h.x))
 have hV:=SqL.of (K:=K) (O.at_ _ (ft (X:=[]) h.v))
 refine ⟨_,rfl,1,rfl,_,rfl,lv,_,rfl,.inl hV,_,_,rfl,rfl,((1+r.length:Nat):Int),by rw [hml];rfl,lx,_,rfl,hX,fun l1 h1=>?_⟩
 walk_at "nw"
 rw [show Aq (xs.map V.int) (some 1) (some ((1+r.length:Nat):Int))=((xs.drop 1).take (1+r.length - 1)).map V.int from YT xs 1 (1+r.length)] at O
 have hyl:((xs.drop 1).take (1+r.length - 1)).length=r.length:=by rw [aed,aeS];omega
 have hyb:∀ x∈(xs.drop 1).take (1+r.length - 1),0<=x/\x<8589934592:=fun x hx=>h.b x (afS (List.mem_of_mem_take hx))
 generalize (xs.drop 1).take (1+r.length - 1)=ys at O hyl hyb
 refine ⟨l1,rfl,⟨_,O.sq 0⟩,fun la hla=>?_⟩
 refine cJ (K:=K) (xs:=ys.map V.int) (fun j τ H'=>Iv (∃ (v0:Option V),τ=[v0,some (.bl g)]/\Ow T H0 H' ((la,.lst (((ys.take j).map fun x=>amt x g).map V.int))::(l1,.lst (ys.map V.int))::(RX C A (exB Z) r S.day ls S.ns vs++(BL Z (gs.map V.int) rs (ks.map V.int) us++(WL ro mr W u0 ks (ms++[(m:Int)]) u2++L)))))) ⟨trivial,none,rfl,O.mk' hla rfl⟩ (fun j τ H' _ ⟨_,_,_,O⟩=>O.sq 1) ?_ ?_
 ·clear O
  rintro j y τ H3 hy ⟨-,v0,rfl,O⟩
  obtain ⟨z,hz,rfl⟩:=ints_get hy
  have hj:=(acp.mp hz).1
  have hb:=hyb z (ad1 hz)
  refine Hf ?_
  refine ⟨_,rfl,_,rfl,z,g,rfl,hb.1,hb.2,_,O.get 0,aG (by rw [TX,TX,aed];omega),?_⟩
  walk_at "pt"
  refine ⟨trivial,_,rfl,?_⟩
  rw [Tn.bZ hz,ad3,ad3];exact O
 clear O
 rintro τ H3 ⟨-,v0,rfl,O⟩
 rw [TX,ad8 (ad2 _)] at O
 have hsl:(ys.map fun x=>amt x g).length=r.length:=by rw [TX,hyl]
 have hsw:Wat (ys.map fun x=>amt x g):=fun x hx=>by
  obtain ⟨z,_,rfl⟩:=aep.mp hx
  exact Er z g
 generalize (ys.map fun x=>amt x g)=sp at O hsl hsw
 have O:=O.two
 refine ⟨szl,fun lc hlc=>?_⟩
 walk_at "nw"
 refine ⟨_,rfl,A.p,A.dx,_,rfl,O.get 2,rfl,A.p,A.dx,A.ll,_,ls,rfl,O.get 2,rfl,O.sq 5,fun lr hlr=>?_⟩
 walk_at "nw"
 have hX:=SqL.of (K:=K) (O.at_ _ (ft (X:=[_,_,_]) h.x))
 refine ⟨_,rfl,7,rfl,lx,_,rfl,hX,fun lz hlz=>?_⟩
 walk_at "nw"
 rw [show Aq (xs.map V.int) (some 7) none=(xs.drop 7).map V.int from J1 xs 7] at O
 have hzl:(xs.drop 7).length=7:=by rw [aeS];omega
 have hzb:∀ x∈xs.drop 7,0<=x/\x<8589934592:=fun x hx=>h.b x (afS hx)
 generalize xs.drop 7=zs at O hzl hzb
 refine ⟨lr,lz,_,_,rfl,O.sq 1,O.sq 0,?_⟩
 refine Sd (K:=K) (fun j σ H'=>Iv (∃ (v7 v8:Option V)(cs:List Int),σ=[some (.ref A.p),some (.ref lv),some (.ref ro),some (.ref lx),some (.bl g),some (.ref la),some (.ref lc),v7,v8,none,none,none,none]/\cs.length=j/\Wat cs/\Ow T H0 H' ((lz,.lst (zs.map V.int))::(lr,.lst ls)::(lc,.lst (cs.map V.int))::(la,.lst (sp.map V.int))::(RX C A (exB Z) r S.day ls S.ns vs++(BL Z (gs.map V.int) rs (ks.map V.int) us++(WL ro mr W u0 ks (ms++[(m:Int)]) u2++L))))))
  (by rw [TX];omega) ⟨trivial,none,none,[],rfl,rfl,(fun x hx=>nomatch hx),O⟩ (fun j σ H' _ ⟨_,_,_,_,_,_,_,O⟩=>⟨O.sq 1,O.sq 0⟩) ?_ ?_
 ·clear O
  rintro j x y t' σ H4 hx hy ⟨-,v7,v8,cs,rfl,hcl,hcw,O⟩ ht'
  obtain ⟨al,l,rfl,hl,hT⟩:=d0.qD hx
  obtain ⟨z,hz,rfl⟩:=ints_get hy
  have hj:=(acp.mp hl).1
  have hb:=hzb z (ad1 hz)
  have ll:=hk.lo l (ad1 hl)
  walk_at "nw"
  refine ⟨t',_,rfl,O.sqT 0,rfl,_,_,rfl,_,_,rfl,rfl,?_⟩
  have O:=O.tail
  have hT:=hT.mo O.same
  have e12:(10:Int) ^ (12:Int).toNat=1000000000000:=by decide
  refine ⟨_,rfl,.inl ⟨rfl,_,O.sq 2⟩,_,rfl,_,rfl,z,g,rfl,hb.1,hb.2,_,rfl,al,_,3,_,rfl,rfl,hT,rfl,_,rfl,al,_,3,_,rfl,rfl,hT,rfl,_,_,rfl,rfl,⟨by decide,by decide⟩,_,_,rfl,rfl,⟨by decide,by decide,by decide⟩,_,rfl,al,_,3,_,rfl,rfl,hT,rfl,_,_,rfl,rfl,_,_,rfl,szl,fun l4 h4=>?_⟩
  walk_at "nw"
  have k0:=ae6 z (show (4:Int)≠0 by decide)
  have k1:=aeY z (show (0:Int)<4 by decide)
  have m0:=ll.1.2.2.2.2.1
  have m1:=ll.1.2.2.2.2.2
  obtain ⟨y,hy,hyw⟩:=acU (d:=if l.most+1<(10:Int) ^ (12:Int).toNat then l.most+1 else (10:Int) ^ (12:Int).toNat) k0 k1 (Er z g) ⟨m0,m1⟩ (show 0<=l.most / 2/\l.most / 2<=1000000000000 by omega) (by rw [e12];split <;>omega)
  refine ⟨_,rfl,_,_,rfl,rfl,(by show (0:Int)<4;decide),l4,_,_,_,rfl,rfl,O.sq 0,hy,?_⟩
  refine ⟨lc,_,_,rfl,rfl,O.get 3,aG (by rw [TX];omega),?_⟩
  generalize hE:upd _ _ _=Hn
  have O:=(Ow.uc O 3 rfl hE rfl).tail
  clear hE
  refine ⟨trivial,_,_,cs++[y],rfl,by rw [ad7,hcl];rfl,fun u hu=>?_,by rw [ad3];exact O⟩
  rcases aem.mp hu with a| a
  ·exact hcw u a
  ·rw [aeD.mp a];exact hyw
 clear O
 rintro σ H4 ⟨-,v7,v8,cs,rfl,hcl,hcw,O⟩
 refine ⟨_,rfl,lc,_,rfl,.inl (O.sq 2),fun ld hld=>?_⟩
 walk_at "nw"
 have O:Ow T H0 _ ((ld,.lst (cs.map V.int))::(lc,.lst (cs.map V.int))::(la,.lst (sp.map V.int))::(RX C A (exB Z) r S.day ls S.ns vs++(BL Z (gs.map V.int) rs (ks.map V.int) us++(WL ro mr W u0 ks (ms++[(m:Int)]) u2++L)))):=O.sub (.cons₂ _ (.cons _ (.cons _ (afK _))))
 have hpk:=hk.pk
 have hpl:=hk.pl
 have hul:u0.length=ps.length:=by rw [dU.length,TX]
 have dU':bT K H0 u0 ((ps.map fun p=>(p.1,p.2.1)).map dPr):=by rw [aft];exact dU
 refine ⟨_,rfl,ro,_,0,.ref W.l0,rfl,rfl,O.sq 13,rfl,_,rfl,ro,_,1,.ref W.l1,rfl,rfl,O.sq 13,rfl,W.l0,W.l1,u0,_,rfl,O.sq 14,O.sq 15,?_⟩
 refine uR (K:=K) (fun j σ H'=>Iv (∃ (v10 v11:Option V),σ=[some (.ref A.p),some (.ref lv),some (.ref ro),some (.ref lx),some (.bl g),some (.ref la),some (.ref lc),v7,v8,some (.ref ld),v10,v11,none]/\Ow T H0 H' ((ld,.lst ((fQ cs ps ks j).map V.int))::(lc,.lst (cs.map V.int))::(la,.lst (sp.map V.int))::(RX C A (exB Z) r S.day ls S.ns vs++(BL Z (gs.map V.int) rs (ks.map V.int) us++(WL ro mr W u0 ks (ms++[(m:Int)]) u2++L))))))
  (by rw [TX];omega) ⟨trivial,none,none,rfl,O⟩ (fun j σ H' _ ⟨_,_,_,_,O⟩=>⟨O.sq 14,O.sq 15⟩) ?_ ?_
 ·clear O
  rintro j x y t' σ H5 hx hy ⟨-,v10,v11,rfl,O⟩ ht'
  obtain ⟨ap,z,rfl,hz,hT⟩:=dU'.aaQ hx
  rw [ad5] at hz
  obtain ⟨p,hp,rfl⟩:=Option.map_eq_some_iff.mp hz
  obtain ⟨u,hu,rfl⟩:=ints_get hy
  have hj:=(acp.mp hp).1
  obtain ⟨p0,p1,_⟩:=hk.pb p (ad1 hp)
  have eo:=JK (cs:=cs) (ps:=ps) (ks:=ks) (k:=p.1.toNat) j fun i hi e=>by
   have:=aaV hk.pn (fun p hp=>(hk.pb p hp).1) (i:=i) (j:=j) (by omega) hj (by rw [e,getD_some hp])
   omega
  have en:fQ cs ps ks (j+1)=(fQ cs ps ks j).set p.1.toNat (min ((fQ cs ps ks j).getD p.1.toNat 0) (p.2.1 - u)):=by rw [eo,fQ,getD_some hp,getD_some hu]
  have hll2:=jQ cs ps ks j
  rw [en]
  generalize fQ cs ps ks j=es at O hll2
  walk_at "nw"
  refine ⟨t',_,rfl,O.sqT 0,rfl,_,_,rfl,_,_,rfl,rfl,?_⟩
  have O:=O.tail
  have hT:=hT.mo O.same
  obtain ⟨k,hk1⟩:=aeo p0
  refine ⟨_,rfl,_,rfl,ap,_,0,_,rfl,rfl,hT,rfl,ld,_,_,_,rfl,rfl,O.sq 0,gk p0 (by omega),_,rfl,ap,_,1,_,rfl,rfl,hT,rfl,_,rfl,_,_,rfl,rfl,_,_,rfl,_,rfl,_,rfl,ap,_,0,_,rfl,rfl,hT,rfl,?_⟩
  refine wu O 0 rfl (by rw [hk1];exact jr (j:=k) (by rw [TX];omega)) fun H6 O=>?_
  refine ⟨trivial,_,_,rfl,?_⟩
  have e:(if p.2.1 - u<es.getD p.1.toNat 0 then p.2.1 - u else es.getD p.1.toNat 0)=min (es.getD p.1.toNat 0) (p.2.1 - u):=by rw [afZ];split <;>split <;>omega
  rw [<- e,aeW,show p.1.toNat=k by omega]
  rw [show p.1.toNat=k by omega] at O
  exact O
 clear O
 rintro σ H5 ⟨-,v10,v11,rfl,O⟩
 rw [hul] at O
 refine ⟨_,rfl,la,_,rfl,.inl (O.sq 2),fun h1 hh1=>?_⟩
 walk_at "nw"
 refine ⟨_,rfl,lc,_,rfl,.inl (O.sq 2),fun h2 hh2=>?_⟩
 walk_at "nw"
 refine ⟨szl,fun lh hlh=>?_⟩
 walk_at "nw"
 have O:=Ow.behind [(lh,.lst [.ref h1,.ref h2]),(h2,.lst (cs.map V.int)),(h1,.lst (sp.map V.int)),(ld,.lst ((fQ cs ps ks ps.length).map V.int)),(lc,.lst (cs.map V.int)),(la,.lst (sp.map V.int))] (RX C A (exB Z) r S.day ls S.ns vs) (BL Z (gs.map V.int) rs (ks.map V.int) us) (WL ro mr W u0 ks (ms++[(m:Int)]) u2++L) O
 have hcl2:cs.length=S.ls.length:=by omega
 have hdn:=hk.dn
 have hvl:=hk.sd
 refine ⟨_,rfl,A.p,A.dx,_,rfl,O.get 0,rfl,_,rfl,lh,_,0,.ref h1,rfl,rfl,O.sq 10,rfl,_,rfl,lh,_,1,.ref h2,rfl,rfl,O.sq 10,rfl,?_⟩
 refine ⟨A,Z,H0,_,r,S,gs,ks,rs,us,ps,ds,h1,h2,sp,cs,rfl,.tail _ (.tail _ (.head _)),.tail _ (.head _),by omega,by omega,⟨ls,vs,O,d0,d1⟩,hR,hk.lic,dP,hpk,by omega,fun p hp=>⟨(hk.pb p hp).1,(hk.pb p hp).2.1,(hk.pb p hp).2.2.2⟩,dR,by omega,hk.gl,hsl,hsw,hcl2,hcw,hk.less hcw,fun t lt lq lf ts Z' Hb H6 tx ks' td sb eZ DX ek ra dR' hTt hKs=>?_⟩
 refine ⟨t,_,1,.ref lq,rfl,rfl,hTt,rfl,lq,_,rfl,.inl hKs,fun lk hlk=>?_⟩
 clear O
 obtain ⟨ls2,vs2,O,e0,e1⟩:=ra
 subst ek
 have O:=O.mk' hlk (o:=.lst ((JW ps ks tx).map V.int)) rfl
 generalize upd H6 lk _=H7 at O
 refine ⟨_,rfl,wu O 17 rfl (show ixN 3 1=some 1 from rfl) fun H8 O=>?_⟩
 have hdl:u2.length=ds.length:=by rw [dD.length,TX]
 refine ⟨_,rfl,ro,_,2,.ref W.l2,rfl,rfl,O.sq 17,rfl,.inl ⟨rfl,_,O.sq 20⟩,_,rfl,_,rfl,szl,fun t2 ht2=>?_⟩
 walk_at "nw"
 refine ⟨W.l2,_,_,rfl,rfl,O.get 21,aG (by omega),?_⟩
 generalize hE:upd _ _ _=Hn
 have O:=Ow.uc O 21 rfl hE rfl
 clear hE
 refine ⟨_,rfl,lh,_,0,.ref h1,rfl,rfl,O.sq 12,rfl,.inl ⟨rfl,_,O.sq 14⟩,h1,_,rfl,rfl,O.get 14,?_⟩
 generalize hE:upd _ _ _=Hn2
 have O:=Ow.uc O 14 rfl hE rfl
 clear hE
 refine ⟨_,rfl,lh,_,1,.ref h2,rfl,rfl,O.sq 12,rfl,.inl ⟨rfl,_,O.sq 13⟩,h2,_,rfl,rfl,O.get 13,?_⟩
 generalize hE:upd _ _ _=Hn3
 have O:=Ow.uc O 13 rfl hE rfl
 clear hE
 obtain ⟨Ha,O,sa,x1⟩:=O.frz
 obtain ⟨Hc,O,sc,x2⟩:=O.R9 16
 obtain ⟨Hd,O,sd,x3⟩:=O.R9 14
 have O:Ow T Hd Hn3 ((lk,.lst ((JW ps ks tx).map V.int))::(RX C A (exB Z') r (S.day+1) ls2 S.ns vs2++(BL Z' ((grt gs cs).map V.int) (rs++[.ref td]) ((JW ps ks tx).map V.int) us++((ro,.lst [.ref W.l0,.ref lk,.ref W.l2])::(W.l0,.lst u0)::(W.l2,.lst (u2++[.ref t2]))::(mr,.lst ((ms++[(m:Int)]).map V.int))::L)))):=(show Ow T Hd Hn3 ((lk,.lst ((JW ps ks tx).map V.int))::(RX C A (exB Z') r (S.day+1) ls2 S.ns vs2++(BL Z' ((grt gs cs).map V.int) (rs++[.ref td]) ((JW ps ks tx).map V.int) us++(_::_::_::_::(ro,.lst [.ref W.l0,.ref lk,.ref W.l2])::(W.l0,.lst u0)::_::(W.l2,.lst (u2++[.ref t2]))::(mr,.lst ((ms++[(m:Int)]).map V.int))::L)))) from O).sub (.cons₂ _ (aeE (aeE (.cons _ (.cons _ (.cons _ (.cons _ (.cons₂ _ (.cons₂ _ (.cons _ (afK _)))))))) _) _))
 have O:=O.perm (afQ (l₁:=RX C A (exB Z') r (S.day+1) ls2 S.ns vs2++(BL Z' ((grt gs cs).map V.int) (rs++[.ref td]) ((JW ps ks tx).map V.int) us++[(ro,.lst [.ref W.l0,.ref lk,.ref W.l2]),(W.l0,.lst u0)])) (a:=(lk,.lst ((JW ps ks tx).map V.int))) (l₂:=(W.l2,.lst (u2++[.ref t2]))::(mr,.lst ((ms++[(m:Int)]).map V.int))::L))
 have sx:=(sa.trans sc).trans sd
 have sy:=sb.trans sx
 have dD':bT K Hd (u2++[.ref t2]) ((ds++[(sp,fQ cs ps ks ps.length)]).map Bv):=by
  rw [ad3]
  exact (dD.mo sy).append (.cons (.tuple (((SqT.of x1).mo sc).mo sd) (.cons (Den.ints ((SqL.of x2).mo sd)) (.cons (Den.ints (SqL.of x3)) .nil))) .nil)
 exact q Z' ⟨W.l0,lk,W.l2⟩ Hd Hn3 _ sy ⟨⟨S.day+1,S.ls,S.ns,S.ds++[QM.turn]⟩,grt gs cs,JW ps ks tx,ps,ds++[(sp,fQ cs ps ks ps.length)],rs++[V.ref td],us,u0,u2++[V.ref t2],ms,m,⟨ls2,vs2,O,e0.mo sx,e1.mo sx⟩,dP.mo sy,dR'.mo sx,dU.mo sy,dD',(dW.mo sy).snoc hdl (sd.keep _ _ (sc.keep _ _ x1 (fun _ z=>nomatch z)) (fun _ z=>nomatch z)) (sd.keep _ _ x2 (fun _ z=>nomatch z)) x3,⟨rfl,by omega⟩,hk.run hsl hsw hcl2 hcw DX⟩
theorem adT (l:Lic):¬ (HT.sIx (yV l).length 0 none=0/\HT.sIx (yV l).length (yV l).length (some 3)=(yV l).length):=fun z=>absurd z.2 (by
 show ¬ HT.sIx 4 4 (some ((3:Nat):Int))=4;rw [HT.uL];decide)
abbrev oA:Stmt:=top 85
theorem bK:aH ["book","river","rows","marks","roll","days","lapsed","one","other","springs","told","calls","takes"] ["book","river","rows","marks"] (ao oA):=by walk_at "sc"
inductive Tw (K:PySem.W.Frag)(T:dY)(C:Addr)(vs:List V)(H:Hp)(Q:VK)(E:XK):Prop
 | mk (A:Rs)(Z:Bx)(ro mr:Addr)(W:L3)(H0:Hp)(B:List (Addr × HO))(r:List Int)(n i:Nat)(lv:Addr)(_:vs=[.ref A.p,.ref lv,.ref ro,.ref mr])(_:BA6 K T C A Z ro mr W r H0 H B n i)(_:i<=60)(_:(lv,HO.lst (r.map V.int))∈B)(_:acs K T C A ro mr r H0 B i (.bl true) Q)
variable (yS:(CX0|||3) rB rZ ["self"] (Jo K T C))
variable (wR:(CX0|||1) oW pq ["self"] (Tj K T C))
variable (sI:(CX0|||8) qZ rR ["river","springs","roll","calls"] (T6 K T))
variable {oU:Addr}{o8:FuncData}(bW:Df K mg "_law_closed" oA ["book","river","rows","marks"] oU o8)
include aW bG fM eG dG fj d8 yS wR sI bW in
theorem aa8 (B:Blt mg):
  (CX0|||9) oU o8 ["book","river","rows","marks"] (Tw K T C):=by
 refine bW.F.ok bK ?_ ?_
 walk_at "i"
 obtain ⟨A,Z,ro,mr,W,H0,L,r,n,i,lv,rfl,⟨S,gs,ks,ps,ds,rs,us,u0,u2,ms,m,⟨ls,vs,O,d0,d1⟩,dP,dR,dU,dD,dW,⟨rfl,hm⟩,hk⟩,hi,mV,q⟩:=h
 have hll:ls.length=S.ls.length:=by rw [d0.length,TX]
 have l6:=hk.l6
 have hR:=hk.rp (by omega) Z
 have hu:=hr.units
 refine ⟨_,(4<$>bK<$>(jL (pv 0) bG.c aW.m fj hr.m aW.b .nil wg)<|>5<$>bK<$>(kj ux (@aM _ _ _ _ _ _ _ aF (pv 2) au (fun _ _=>rfl)) (lF (@aM _ _ _ _ _ _ _ aF (pv 3) (@vZ _ _ _ _ _ _ mj au) (fun _ _=>rfl))) uN)<|>aU (jy aea aef aeg aY (pv 3) (aC aA rfl B.len ad9 (@aM _ _ _ _ _ _ _ aF (pv 2) au (fun _ _=>rfl)>=>ak)>=>ak))<|>aU (jL (pv 0) fM.c eG.m yS hr.m eG.b .nil wg)<|>@dw _ _ _ _ _ _ _ _ (aP (Nq hu) (jL (pv 0) fM.c dG.m wR hr.m dG.b .nil wg) (@aM _ _ _ _ _ _ _ aF (pv 2) au (fun _ _=>rfl)) (aX _))
   (~~~(@aO _ _ _ _ uO))
   bf<|>6<$>bK<$>(jL (pv 0) bG.c aW.m fj hr.m aW.b .nil wg)<|>@dw _ _ _ _ _ _ _ _ (aP zc (aC aA rfl B.len ad9 (pv 6>=>ak)) (aC aA rfl B.len ad9 (pv 4>=>ak)) (aX _))
   (~~~(@aO _ _ _ _ uO))
   bf<|>cI aeh rfl (qu rfl B.zip (pv 4>=>pv 6>=>ak)) (fZ rfl (aB (7>>bK) (aB (8>>bK) bH)))
   (~~~(@dw _ _ _ _ _ _ _ _ (PW.pt (pw_or (aP (Nq hu) (kj T8 (pv 8) uN (lF au)) (kj T8 (pv 7) uN (lF au)) (aX _)) (pw_or (aP KH (@aM _ _ _ _ _ _ _ fL (pv 8) au (fun _ _=>rfl)) (@aM _ _ _ _ _ _ _ fL (pv 7) au (fun _ _=>rfl)) (aX _)) (pw_or1 (aP uP (@aM _ _ _ _ _ _ _ fL (pv 8) au (fun _ _=>rfl)) au (aX _))))))
    (~~~(@aO _ _ _ _ uO))
    bf))<|>cI aeh rfl (bF (pv 5)) (fZ rfl (aB (9>>bK) (aB (10>>bK) bH)))
   (11<$>bK<$>(@bB _ _ _ _ _ _ _ _ Gk (pv 10) (@bB _ _ _ _ _ _ _ _ yw (@bU _ _ _ _ (au>=>ak)) (@bB _ _ _ _ _ _ _ _ wz (aC aA rfl B.len ad9 (pv 4>=>ak)) (aC aA rfl B.len ad9 (pv 10>=>ak)))))<|>12<$>bK<$>(d8<*sI<*(pv 1>=>pv 9>=>pv 4>=>pv 11>=>ak))<|>(~~~(@dw _ _ _ _ _ _ _ _ (PW.pt (pw_or (aP Nr (pv 12) yu (aX _)) (pw_or1 (aP (aaW hu) (d8<*sI<*(pv 1>=>pv 9>=>pv 6>=>pv 11>=>ak)) (pv 12) (aX _)))))
    (~~~(@aO _ _ _ _ uO))
    bf)))<|>(~~~(@aO _ _ _ _ uO))),?_⟩
 have hdl:u2.length=ds.length:=by rw [dD.length,TX]
 have hdn:=hk.dn
 refine ⟨_,rfl,A.p,A.dx,_,rfl,O.get 0,rfl,A.p,A.dx,A.ll,_,ls,rfl,O.get 0,rfl,O.sq 3,fun lr hlr=>?_⟩
 walk_at "nw"
 refine ⟨_,rfl,ro,_,2,.ref W.l2,rfl,rfl,O.sq 11,rfl,_,rfl,1,rfl,mr,_,-1,.int (m:Int),rfl,rfl,O.sq 15,(by rw [ad3];exact J4 _ _),(m:Int),rfl,W.l2,_,rfl,O.sq 14,fun ld hld=>?_⟩
 walk_at "nw"
 rw [Gz] at O
 refine ⟨_,rfl,.inl ⟨rfl,_,O.sq 16⟩,_,rfl,ro,_,2,.ref W.l2,rfl,rfl,O.sq 12,rfl,W.l2,_,rfl,.inl (O.sq 15),mr,_,_,rfl,rfl,O.get 16,aG (by rw [TX,ad7];simp only [ael,aeR];omega),?_⟩
 generalize hE:upd _ _ _=Hn
 have O:=Ow.uc O 16 rfl hE rfl
 clear hE
 rw [hdl,show (ms++[(m:Int)]).map V.int++[V.int (ds.length:Int)]=((ms++[(m:Int)])++[(ds.length:Int)]).map V.int by rw [ad3 (l₁:=ms++[(m:Int)])];rfl] at O
 have O:=Ow.behind [(ld,.lst (u2.drop m)),(lr,.lst ls)] (RX C A (exB Z) r S.day ls S.ns vs) (BL Z (gs.map V.int) rs (ks.map V.int) us) (WL ro mr W u0 ks ((ms++[(m:Int)])++[(ds.length:Int)]) u2++L) O
 obtain ⟨hst,hk2⟩:=hk.close
 refine ⟨_,rfl,A.p,A.dx,_,rfl,O.get 0,rfl,A,Z,H0,_,r,S,_,gs,rs,_,us,rfl,⟨ls,vs,O,d0,d1⟩,hR,hk.gl,hst,fun Hb H2 fl lg fs sb ra _=>?_⟩
 clear O
 obtain ⟨ls2,vs2,O,e0,e1⟩:=ra
 have d0:=d0.mo sb
 have dP:=dP.mo sb
 have dR:=dR.mo sb
 have dU:=dU.mo sb
 have dD:=dD.mo sb
 have dW:=dW.mo sb
 have hrl:rs.length=ds.length:=by rw [dR.length,TX]
 refine ⟨_,rfl,A.p,A.dx,_,rfl,O.get 0,rfl,?_⟩
 dsimp only [acz]
 refine ⟨A,Z.lg' lg,_,rs,ds,rfl,O.get 0,O.sq 7,hrl.symm,by omega,fun k v d hv hd=>?_,O.same.t1,fun l ys Hc H7 sc O7 dv=>?_⟩
 ·obtain ⟨d',e,hD⟩:=dR.get' hv
  rw [ad5,hd] at e
  cases e
  exact ab3 (Den.Bm O.same hD)
 have s7:=sc.trans O7.same
 have O:=O.vL s7
 have hsh:Sh 4 (.list (ds.map Bv)):=Sh.list fun d hd=>by
  obtain ⟨z,_,rfl⟩:=aep.mp hd
  exact Sh.tuple fun d hd=>by
   rcases aen.mp hd with e| e
   ·rw [e];exact Sh.ints 1 _
   ·rw [aeD.mp e];exact Sh.ints 1 _
 refine ⟨_,rfl,ro,_,2,.ref W.l2,rfl,rfl,O.sq 13,rfl,.list (ds.map Bv),.list (ds.map Bv),.list (O7.sq 0) (dv.mo O7.same),.list (O.sq 16) (dD.mo O.same),hsh.ok (by decide),hsh.ok (by decide),?_⟩
 rw [if_pos rfl,JX hsh]
 refine ⟨_,rfl,yC ?_⟩
 clear dv O7
 refine ⟨_,rfl,A.p,A.dx,_,rfl,O.get 0,rfl,A.p,A.dx,A.ll,_,ls2,rfl,O.get 0,rfl,O.sq 3,fun lp hlp=>?_⟩
 walk_at "nw"
 have hl2:ls2.length=S.ls.length:=by rw [e0.length,TX];exact xH hk.gl
 refine ⟨_,rfl,lp,_,rfl,.inl (O.sq 0),_,rfl,lr,_,rfl,.inl (O.sq 13),rfl,_,rfl,ifN (ifI (fun _=>?_) (fun z=>absurd (by omega) z))⟩
 have Oq:∀ H':Hp,Ow T Hb H' ((lp,.lst ls2)::(RX C A (exB (Z.lg' lg)) r S.day ls2 S.ns vs2++(BL (Z.lg' lg) [] rs (ks.map V.int) us++((fl,.lst fs)::([(ld,.lst (u2.drop m)),(lr,.lst ls)]++(WL ro mr W u0 ks ((ms++[(m:Int)])++[(ds.length:Int)]) u2++L))))))->Q (.bl true) H':=fun H' O=>q (Z.lg' lg) W Hb H' _ sb ⟨⟨S.day,fJ S.ls (tE S gs),S.ns,S.ds++[QM.lapse (tE S gs)]⟩,[],ks,ps,ds,rs,us,u0,u2,ms++[(m:Int)],ds.length,⟨ls2,vs2,O.tail.sub (aeE (aeE (.cons _ (.cons _ (ae0 _ _))) _) _),e0,e1⟩,dP,dR,dU,dD,dW,⟨rfl,by rw [ad7];exact afc hm⟩,hk2⟩
 have O:Ow T Hb _ ((lp,.lst ls2)::(RX C A (exB (Z.lg' lg)) r S.day ls2 S.ns vs2++(BL (Z.lg' lg) [] rs (ks.map V.int) us++((fl,.lst fs)::([(ld,.lst (u2.drop m)),(lr,.lst ls)]++(WL ro mr W u0 ks ((ms++[(m:Int)])++[(ds.length:Int)]) u2++L)))))):=O
 generalize hM:((RX C A (exB (Z.lg' lg)) r S.day ls2 S.ns vs2++(BL (Z.lg' lg) [] rs (ks.map V.int) us++((fl,.lst fs)::([(ld,.lst (u2.drop m)),(lr,.lst ls)]++(WL ro mr W u0 ks ((ms++[(m:Int)])++[(ds.length:Int)]) u2++L))))):List (Addr × HO))=M at O Oq
 have gR:M[11]?=some (ld,.lst (u2.drop m))/\M[12]?=some (lr,.lst ls)/\(lv,HO.lst (r.map V.int))∈M:=by rw [<- hM];exact ⟨rfl,rfl,ad4 _ (ad4 _ (.tail _ (ad4 _ (ad4 _ mV))))⟩
 have sR:∀ {H'},Ow T Hb H' ((lp,.lst ls2)::M)->SqL K H' lr ls:=fun O=>SqL.of (O.at_ _ (.tail _ (ad1 gR.2.1)))
 have sD:∀ {H'},Ow T Hb H' ((lp,.lst ls2)::M)->SqL K H' ld (u2.drop m):=fun O=>SqL.of (O.at_ _ (.tail _ (ad1 gR.1)))
 have sV:∀ {H'},Ow T Hb H' ((lp,.lst ls2)::M)->SqL K H' lv (r.map V.int):=fun O=>SqL.of (O.at_ _ (.tail _ gR.2.2))
 clear hM gR
 refine ⟨_,rfl,_,rfl,lr,lp,_,_,rfl,sR O,O.sq 0,?_⟩
 refine uR (K:=K) (fun k σ H'=>Iv (∃ (v7 v8:Option V),σ=[some (.ref A.p),some (.ref lv),some (.ref ro),some (.ref mr),some (.ref lr),some (.ref ld),some (.ref lp),v7,v8,none,none,none,none]/\Ow T Hb H' ((lp,.lst ls2)::M))) (by omega) ⟨trivial,none,none,rfl,O⟩ (fun k σ H' _ ⟨_,_,_,_,O⟩=>⟨sR O,O.sq 0⟩) ?_ ?_
 ·clear O
  rintro k x y t' σ H8 hx hy ⟨-,v7,v8,rfl,O⟩ ht'
  obtain ⟨a1,l,rfl,hl,hT1⟩:=d0.qD hx
  obtain ⟨a2,l',rfl,hl',hT2⟩:=e0.qD hy
  have hl':(fJ S.ls (tE S gs))[k]?=some l':=hl'
  rw [Cd hl] at hl'
  have gm:=(hk2.lo l' (ad1 (show (fJ S.ls (tE S gs))[k]?=some l' by rw [Cd hl];exact hl'))).1.2.2.2.2.1
  obtain rfl:=(aek hl').symm
  walk_at "nw"
  refine ⟨t',_,rfl,O.sqT 0,rfl,_,_,rfl,_,_,rfl,rfl,?_⟩
  have O:=O.tail
  have O0:=O
  refine ⟨_,rfl,3,rfl,a2,_,rfl,hT2.mo O.same,adT _,fun t2 ht2=>?_⟩
  walk_at "nw"
  refine ⟨_,rfl,3,rfl,a1,_,rfl,hT1.mo O.same,adT _,fun t1 ht1=>?_⟩
  walk_at "nw"
  rw [show Aq (yV l) none (some 3)=(yV l).take 3 from GC _ 3,show ∀ x,Aq (yV (wm l x)) none (some 3)=(yV l).take 3 from fun x=>GC _ 3] at O
  have hs3:Sh 4 (.tuple [.int l.day,.int l.start,.int l.back]):=Sh.tuple fun d hd=>by
   simp only [aen,afR,or_false] at hd
   rcases hd with e| e| e <;>rw [e]<;>exact Sh.int 3 _
  have dn:∀ H',bT K H' ((yV l).take 3) [.int l.day,.int l.start,.int l.back]:=fun H'=>.cons (.int _) (.cons (.int _) (.cons (.int _) .nil))
  refine ⟨.tuple [.int l.day,.int l.start,.int l.back],.tuple [.int l.day,.int l.start,.int l.back],.tuple (O.sqT 1) (dn _),.tuple (O.sqT 0) (dn _),hs3.ok (by decide),hs3.ok (by decide),?_⟩
  rw [if_pos rfl,JX hs3]
  refine ⟨_,rfl,yC ?_⟩
  have O:=O.tail.tail
  refine ⟨_,rfl,a2,_,3,_,rfl,rfl,hT2.mo O.same,rfl,_,rfl,a1,_,3,_,rfl,rfl,hT1.mo O.same,rfl,_,_,rfl,rfl,_,rfl,ifD (fun z=>absurd z (Int.not_lt.mpr (Int.min_le_left _ _))) (fun _=>?_)⟩
  exact ⟨_,rfl,a2,_,3,_,rfl,rfl,hT2.mo O.same,rfl,_,_,rfl,rfl,_,rfl,ifD (fun z=>absurd z (Int.not_lt.mpr gm)) (fun _=>⟨trivial,_,_,rfl,O⟩)⟩
 clear O
 rintro σ H8 ⟨-,v7,v8,rfl,O⟩
 refine ⟨_,rfl,ld,rfl,⟨_,sD O⟩,?_⟩
 refine dB (K:=K) (xs:=u2.drop m) (fun k σ H'=>Iv (∃ (v9 v10 v11 v12:Option V),σ=[some (.ref A.p),some (.ref lv),some (.ref ro),some (.ref mr),some (.ref lr),some (.ref ld),some (.ref lp),v7,v8,v9,v10,v11,v12]/\Ow T Hb H' ((lp,.lst ls2)::M))) ⟨trivial,none,none,none,none,rfl,O⟩ (fun k σ H' _ ⟨_,_,_,_,_,_,O⟩=>sD O) ?_ ?_
 ·clear O
  rintro k y σ H9 hy ⟨-,v9,v10,v11,v12,rfl,O⟩
  rw [afF] at hy
  have hkl:=(acp.mp hy).1
  obtain ⟨d,hd⟩:∃ d,ds[m+k]?=some d:=⟨_,adW (by omega)⟩
  obtain ⟨t,a,b,et,h1,h2,h3⟩:=dW _ d hd
  rw [hy] at et
  cases et
  have hdm:d∈ds.drop m:=ad1 (i:=k) (by rw [afF];exact hd)
  obtain ⟨c1,c2,c3,c4⟩:=hk.dr d (ad1 hd)
  obtain ⟨g1,g2⟩:=hk.dg d hdm
  refine ⟨t,_,rfl,SqT.of (O.same.keep _ _ h1 (fun _ z=>nomatch z)),rfl,_,_,rfl,_,_,rfl,rfl,?_⟩
  have cl:=Rg c3
  have hA:∀ {H'},aN T Hb H'->SqL K H' a (d.1.map V.int):=fun s=>SqL.of (s.keep _ _ h2 (fun _ z=>nomatch z))
  have hB:∀ {H'},aN T Hb H'->H' b=some (.lst (d.2.map V.int)):=fun s=>s.keep _ _ h3 (fun _ z=>nomatch z)
  have hk1:((ls.length:Int) - (((d.2.map V.int).length:Nat):Int)).toNat=S.ls.length - d.2.length:=by rw [TX];omega
  have hk2':(d.2.map V.int).length=d.2.length:=TX _
  refine ⟨_,rfl,szl,fun lz hlz=>?_⟩
  walk_at "nw"
  refine ⟨_,rfl,lr,_,rfl,.inl (sR O.tail),_,rfl,b,_,rfl,.inl (SqL.of (hB O.same)),_,_,rfl,rfl,lz,_,_,rfl,rfl,O.get 0,by omega,by omega,(by rw [hk1,sizeLine_eq];show 1*_<=_;omega),fun lq hlq=>?_⟩
  walk_at "nw"
  rw [hk1,show [V.int 0]=[V.int (0:Int)] from rfl,qt] at O
  refine ⟨b,lq,_,_,rfl,rfl,hB O.same,O.get 0,(by rw [TX,TX,aeH,sizeLine_eq];omega),fun la hla=>?_⟩
  walk_at "nw"
  rw [<- ad3] at O
  have O:Ow T Hb _ ((la,.lst ((Jx S.ls.length d.2).map V.int))::(lp,.lst ls2)::M):=O.sub (.cons₂ _ (.cons _ (ae0 _ _)))
  refine ⟨_,rfl,_,rfl,_,rfl,_,rfl,lv,a,lr,la,r,d.1,Jx S.ls.length d.2,ls,S.ls,rfl,⟨sV O.tail,hk.rv,by have:=hk.r6;omega⟩,hk.r1,hA O.same,c1,c2,sR O.tail,d0.mo O.same,by omega,O.sq 0,cl.symm,hk.lic,Nm c4,O.same.t1,O.Bt fun lx H10 zs O e=>?_⟩
  obtain ⟨xs,rfl,DX⟩:=e
  have hll2:(fJ S.ls (tE S gs)).length=S.ls.length:=xH hk.gl
  refine ⟨_,rfl,rfl,_,rfl,yC ?_⟩
  refine ⟨_,rfl,_,rfl,_,rfl,_,rfl,lv,a,lp,la,r,d.1,Jx S.ls.length d.2,ls2,fJ S.ls (tE S gs),rfl,⟨sV O.tail.tail,hk.rv,by have:=hk.r6;omega⟩,hk.r1,hA O.same,c1,c2,O.sq 2,e0.mo O.same,by omega,O.sq 1,by omega,hk2.lic,Nm c4,O.same.t1,O.Bt fun ly H11 zs O e=>?_⟩
  obtain ⟨ys,rfl,DY⟩:=e
  obtain rfl:ys=xs:=Sy (fun l hl=>(hk2.lo l hl).1.1) (Oi hk.gl (fun x hx=>(hk.gw x hx).1) (fun l hl=>(hk.lo l hl).1.2.2.2.2.1) g1 g2 DX) DY
  refine ⟨_,rfl,ly,lx,ys,ys,rfl,rfl,O.sq 0,O.sq 1,?_⟩
  rw [if_pos rfl,decide_eq_true rfl]
  exact ⟨_,rfl,yC ⟨trivial,_,_,_,_,rfl,O.tail.tail.tail⟩⟩
 clear O
 rintro σ H9 ⟨-,v9,v10,v11,v12,rfl,O⟩
 exact Oq _ O
theorem HY {c:TT}{t u:TS}{De:Ends}(A B:Prop)(hc:∀ Q:Bool->Hp->Prop,(A->Q true H)->(B->Q false H)->c σ H Q)(h1:A->t De σ H)(h2:B->u De σ H):wW c t u De σ H:=
 hc _ (fun a=>ifT rfl (h1 a)) fun b=>yC (h2 b)
theorem B6.up {ks:List Int}{ps:List Pd}{m:Nat}(h:B6 r S gs ks ps ds m i):B6 r S gs ks ps ds m (i+1):=by
 have h1:=h.sd;have h2:=h.d1;have h3:=h.dn;exact ⟨h.rv,h.r1,h.r6,h.nn,h.l6,h.lo,by omega,h.d0,by omega,h.gl,h.gw,h.pk,h.pl,h.pb,h.pn,h.kb,by omega,h.dr,h.ml,h.dg⟩
abbrev uH:Stmt:=top 86
theorem pP:aH ["book","river","rows","marks","xs","great","many","way"] ["book","river","rows","marks","xs","great"] (ao uH):=by walk_at "sc"
inductive Tv (K:PySem.W.Frag)(T:dY)(C:Addr)(vs:List V)(H:Hp)(Q:VK)(E:XK):Prop
 | mk (A:Rs)(Z:Bx)(ro mr:Addr)(W:L3)(H0:Hp)(B:List (Addr × HO))(r:List Int)(n i:Nat)(lv lx:Addr)(xs:List Int)(g:Bool)(_:vs=[.ref A.p,.ref lv,.ref ro,.ref mr,.ref lx,.bl g])(_:BA6 K T C A Z ro mr W r H0 H B n i)(_:i<=60)(_:In6 r B lv lx xs)(_:acs K T C A ro mr r H0 B i (.bl true) Q)
variable (yP:(CX0|||4) qX rQ ["book","river","rows","xs","great"] (T4 K T C))
variable (CJ:(CX0|||10) xR xZ ["book","river","rows","xs","great"] (Tt K T C))
variable (Bg:((CXE P w)|||3) vg vI ["self","number","holder"] (Mr K T C c))
variable (kW:(CX0|||9) oU o8 ["book","river","rows","marks"] (Tw K T C))
variable {uZ:Addr}{vC:FuncData}(iV:Df K mg "_law_deed" uH ["book","river","rows","marks","xs","great"] uZ vC)
include aW cG bG gZ fM fj pG gW jJ bW yP CJ Bg kW iV in
theorem aa7 (B:Blt mg):
  (CX0|||11) uZ vC ["book","river","rows","marks","xs","great"] (Tv K T C):=by
 refine iV.F.ok pP ?_ ?_
 walk_at "i"
 obtain ⟨A,Z,ro,mr,W,H0,L,r,n,i,lv,lx,xs,g,rfl,⟨S,gs,ks,ps,ds,rs,us,u0,u2,ms,m,⟨ls,vs,O,d0,d1⟩,dP,dR,dU,dD,dW,⟨rfl,hm⟩,hk⟩,hi,h,q⟩:=h
 have hll:ls.length=S.ls.length:=by rw [d0.length,TX]
 have hR:=hk.rp (by omega) Z
 refine ⟨_,(6<$>pP<$>(aC aA rfl B.len ad9 (jL (pv 0) bG.c aW.m fj hr.m aW.b .nil wg>=>ak))<|>7<$>pP<$>(@bB _ _ _ _ _ _ _ _ jq (@aM _ _ _ _ _ _ _ aF (pv 4) au (fun _ _=>rfl)) au)<|>@dw _ _ _ _ _ _ _ _ (PW.pt (pw_or (PW.pt (pw_and (aP uP (pv 7) au (aX _)) (pw_and1 (aP uP (pv 6) au (aX _))))) (pw_or1 (aP qC (pv 6) au (aX _)))))
   (~~~(aU (gW<*yP<*(pv 0>=>pv 1>=>pv 2>=>pv 4>=>pv 5>=>ak))))
   (~~~(@dw _ _ _ _ _ _ _ _ (PW.pt (pw_and (aP uP (pv 7) au (aX _)) (pw_and1 (aP uP (aC aA rfl B.len ad9 (@aM _ _ _ _ _ _ _ aF (pv 2) au (fun _ _=>rfl)>=>ak)) au (aX _)))))
    (~~~(aU (jJ<*CJ<*(pv 0>=>pv 1>=>pv 2>=>pv 4>=>pv 5>=>ak))))
    (~~~(@dw _ _ _ _ _ _ _ _ (aP qC (pv 7) au (aX _))
     (~~~(aU (jY (pv 0) bG.c gZ.m Bg hr.m gZ.b .nil KD (@bB _ _ _ _ _ _ _ _ jq (@aM _ _ _ _ _ _ _ aF (pv 4) au (fun _ _=>rfl)) (pv 6)>=>jo>=>ak))))
     (~~~(@dw _ _ _ _ _ _ _ _ (aP qC (pv 7) au (aX _))
      (~~~(aU (jL (pv 0) bG.c cG.m pG hr.m cG.b .nil wg)))
      (~~~(@dw _ _ _ _ _ _ _ _ (PW.pt (pw_and (aP qC (pv 7) au (aX _)) (pw_and1 (aP uP (aC aA rfl B.len ad9 (pv 3>=>ak)) au (aX _)))))
       (~~~(@aO _ _ _ _ (bW<*kW<*(pv 0>=>pv 1>=>pv 2>=>pv 3>=>ak))))
       bf))))))))<|>(~~~(@aO _ _ _ _ uO))),?_⟩
 refine ⟨_,rfl,A.p,A.dx,_,rfl,O.get 0,rfl,A.p,A.dx,A.ll,_,ls,rfl,O.get 0,rfl,O.sq 3,fun l' hl'=>?_⟩
 have sl:=(aN.refl O.same.t1).upd (o':=.lst ls) hl' (.inl hl')
 refine ⟨l',ls,rfl,.inl (SqL.of aR),?_⟩
 have O:=O.vL sl
 clear sl hl'
 generalize upd H l' (.lst ls)=H1 at O
 have hX:=SqL.of (K:=K) (O.at_ _ (ad4 _ (ad4 _ (ad4 _ h.x))))
 refine ⟨_,rfl,lx,_,0,_,rfl,rfl,hX,bh (i:=0) (At6 h 0 (by decide)).1,_,_,rfl,rfl,(by show (0:Int)<10;decide),?_⟩
 dsimp only
 generalize xs.getD 0 0 % 10=wy
 have ra:RA K T C A (exB Z) r H0 H1 (BL Z (gs.map V.int) rs (ks.map V.int) us++(WL ro mr W u0 ks (ms++[(m:Int)]) u2++L)) S:=⟨ls,vs,O,d0,d1⟩
 have ba:BA6 K T C A Z ro mr W r H0 H1 L S.ls.length i:=⟨S,gs,ks,ps,ds,rs,us,u0,u2,ms,m,ra,dP,dR,dU,dD,dW,⟨rfl,hm⟩,hk⟩
 have go:∀ (S':RS)(Hb H':Hp),aN T H0 Hb->RA K T C A (exB Z) r Hb H' (BL Z (gs.map V.int) rs (ks.map V.int) us++(WL ro mr W u0 ks (ms++[(m:Int)]) u2++L)) S'->B6 r S' gs ks ps ds m (i+1)->Q (.bl true) H':=fun S' Hb H' sb ra hk=>q Z W Hb H' _ sb ⟨S',gs,ks,ps,ds,rs,us,u0,u2,ms,m,ra,dP.mo sb,dR.mo sb,dU.mo sb,dD.mo sb,dW.mo sb,⟨rfl,by omega⟩,hk⟩
 change bO (wW _ _ _) _ _ [some (.ref A.p),some (.ref lv),some (.ref ro),some (.ref mr),some (.ref lx),some (.bl g),some (.int (ls.length:Int)),some (.int wy)] H1
 refine HY (S.ls.length<6) (S.ls.length≠0) (fun Q ht hf=>?_) (fun n6=>?_) (fun n0=>?_)
 ·have fin:Q (decide (V.int (ls.length:Int)=V.int 0)) H1:=by
   by_cases z:ls.length=0
   ·rw [show decide (V.int (ls.length:Int)=V.int 0)=true from decide_eq_true (by rw [z];rfl)];exact ht (by omega)
   ·rw [show decide (V.int (ls.length:Int)=V.int 0)=false from decide_eq_false (fun e=>by injection e;omega)];exact hf (by omega)
  exact ⟨_,rfl,_,_,rfl,rfl,_,rfl,ifD (fun _=>⟨_,rfl,_,_,rfl,rfl,_,rfl,ifD (fun z=>ht (by omega)) (fun _=>⟨_,rfl,rfl,_,rfl,fin⟩)⟩) (fun _=>⟨_,rfl,rfl,_,rfl,fin⟩)⟩
 ·exact ⟨_,rfl,_,rfl,_,rfl,_,rfl,_,rfl,A,Z,ro,mr,W,H0,L,r,S.ls.length,i,lv,lx,xs,g,rfl,ba,n6,hi,h,q⟩
 refine HY True True (fun Q ht hf=>?_) (fun _=>?_) (fun _=>?_)
 ·have hz:∀ b,Q b H1:=fun b=>by
   cases b with
   | true=>exact ht trivial
   | false=>exact hf trivial
  exact ⟨_,rfl,_,_,rfl,rfl,_,rfl,ifD (fun _=>⟨_,rfl,ro,_,2,.ref W.l2,rfl,rfl,O.sq 10,rfl,W.l2,_,rfl,.inl (O.sq 13),_,_,rfl,rfl,_,rfl,hz _⟩) (fun _=>hz _)⟩
 ·exact ⟨_,rfl,_,rfl,_,rfl,_,rfl,_,rfl,A,Z,ro,mr,W,H0,L,r,S.ls.length,i,lv,lx,xs,g,rfl,ba,hi,h,q⟩
 refine ⟨_,rfl,rfl,_,rfl,ifI (fun _=>?_) (fun _=>?_)⟩
 ·have b0:=ae6 (xs.getD 1 0) (show (ls.length:Int)≠0 by omega)
  have b1:=aeY (xs.getD 1 0) (show (0:Int)<(ls.length:Int) by omega)
  refine ⟨_,rfl,A.p,A.dx,_,rfl,O.get 0,rfl,_,rfl,lx,_,1,_,rfl,rfl,hX,bh (i:=1) (At6 h 1 (by decide)).1,_,rfl,_,_,rfl,rfl,(by omega),?_⟩
  dsimp only
  generalize xs.getD 1 0 % (ls.length:Int)=nu at b0 b1
  obtain ⟨k,rfl⟩:=aeo b0
  obtain ⟨l,hl⟩:∃ l,S.ls[k]?=some l:=⟨_,adW (by omega)⟩
  have gl:=hk.lo l (ad1 hl)
  have hst:step r S (.drop (k:Int) "water")=.ok ⟨S.day,S.ls.set k (wm l 0),S.ns,S.ds++[.drop (k:Int) "water"]⟩:=by
   show S.K9 (k:Int) "water" (.ok ⟨S.day,S.ls.set (k:Int).toNat (wm (S.at_ (k:Int)) 0),S.ns,S.ds++[QM.drop (k:Int) "water"]⟩)=_
   rw [Qy b0 (by omega) (by rw [hk.nn,aeb,afd,if_pos (by omega)]),JH rfl hl,aeb]
  refine ⟨A,exB Z,H0,_,r,S,(k:Int),"water",rfl,ra,hR,fun S' hs Hb H' sb ra=>?_,fun j e=>by rw [hst] at e;cases e⟩
  rw [hst] at hs
  cases hs
  refine go _ Hb H' sb ra (hk.keep (aeV ..) rfl rfl (fun x hx=>?_) ⟨aeK _,by show S.day<=S.day+1;omega⟩)
  rcases afA hx with z| z
  ·exact hk.lo x z
  ·rw [z];exact gl.wm (by decide) gl.1.2.2.2.2.1
 refine ⟨_,rfl,rfl,_,rfl,ifI (fun _=>?_) (fun _=>?_)⟩
 ·refine ⟨_,rfl,A.p,A.dx,_,rfl,O.get 0,rfl,A,exB Z,H0,_,r,S,rfl,ra,hR,fun S' hs Hb H' sb ra=>?_,fun j e=>nomatch e⟩
  cases hs
  exact go _ Hb H' sb ra (hk.keep rfl rfl rfl hk.lo ⟨by show S.day<=S.day+1;omega,aeK _⟩)
 refine HY True True (fun Q ht hf=>?_) (fun _=>?_) (fun _=>?_)
 ·have hz:∀ b,Q b H1:=fun b=>by
   cases b with
   | true=>exact ht trivial
   | false=>exact hf trivial
  exact ⟨_,rfl,rfl,_,rfl,ifI (fun _=>⟨_,rfl,mr,_,rfl,.inl (O.sq 14),_,_,rfl,rfl,_,rfl,hz _⟩) (fun _=>hz _)⟩
 ·exact ⟨_,rfl,_,rfl,_,rfl,_,rfl,A,Z,ro,mr,W,H0,L,r,S.ls.length,i,lv,rfl,ba,hi,h.v,q⟩
 exact go S H0 H1 (aN.refl O.same.t0) ra hk.up
theorem BZ {rk:Nat->Nat}(h3:∀ (i:Nat)(x:Int),r[i]?=some x->x=-1\/(0<=x/\x<r.length/\rk x.toNat<rk i)):∀ (f:Nat)(p:Int),0<=p->p<r.length->rk p.toNat<f->Rv.wX r f p=-1
 | 0,p,_,_,h=>absurd h (afH _)
 | f+1,p,h0,h1,h=>by
  show Rv.wX r f (Rv.stp r p)=-1;unfold Rv.stp;rw [if_neg (by omega)];rcases h3 _ _ (Rv.jZ h0 h1) with e| ⟨a,b,c⟩
  ·rw [e];exact Rv.IV r f
  ·exact BZ h3 f _ a b (by omega)
theorem M6 (hR:Rv.iB r)(h1:1<=r.length)(h2:r.length<=40):Rv.isR r=true:=by
 obtain ⟨rk,k1,k2⟩:=hR;have hB:Rv.inB r:=fun x hx=>by
  obtain ⟨i,hi⟩:=afB hx;rcases k2 i x hi with e| ⟨a,b,_⟩<;>omega
 unfold Rv.isR;rw [decide_eq_true (⟨h1,h2⟩:1<=r.length/\r.length<=40),decide_eq_true hB,decide_eq_true (fun i hi=>BZ k2 _ _ (by omega) (by omega) (by rw [aeb];exact k1 i hi))];rfl
theorem Zg (c:Int)(n:Nat):∀ x∈QG c n,0<=x/\x<8589934592:=fun x hx=>by
 unfold QG at hx;obtain ⟨i,_,rfl⟩:=aep.mp hx;have h0:=aaS c i;refine ⟨h0,?_⟩;unfold peb;have:=aeY (((c % 8589934583+4409)*(2*(i:Int)+3)+90001*(i:Int)) ^ 3) (show (0:Int)<68719476731 by decide);omega
theorem acV (R A B C M Q V:α):[R,A,B,C,M,Q,V].Perm [Q,M,R,C,B,A,V]:=
 List.Perm.append_right [V] ((afQ (l₁:=[A,B,C]) (a:=R) (l₂:=[M,Q])).symm.trans (List.reverse_perm [A,B,C,R,M,Q]).symm)
variable {Z:Bx}{ro mr:Addr}{W:L3}
theorem BA6.call {H':Hp}{X:List (Addr × HO)}(h:BA6 K T C A Z ro mr W r H0 H B n i)(O':Ow T H H' X):BA6 K T C A Z ro mr W r H0 H' (X++B) n i:=by
 obtain ⟨S,gs,ks,ps,ds,rs,us,u0,u2,ms,m,⟨a,b,O,d0,d1⟩,e1,e2,e3,e4,e5,e6,e7⟩:=h;refine ⟨S,gs,ks,ps,ds,rs,us,u0,u2,ms,m,⟨a,b,?_,d0,d1⟩,e1,e2,e3,e4,e5,e6,e7⟩;have:=Ow.behind X _ _ _ (O.join O');exact this.perm (afa _ (afa _ (afO _ _ _)))
theorem BA6.less {X:List (Addr × HO)}(h:BA6 K T C A Z ro mr W r H0 H (X++B) n i):BA6 K T C A Z ro mr W r H0 H B n i:=by
 obtain ⟨S,gs,ks,ps,ds,rs,us,u0,u2,ms,m,⟨a,b,O,d0,d1⟩,e1,e2,e3,e4,e5,e6,e7⟩:=h;exact ⟨S,gs,ks,ps,ds,rs,us,u0,u2,ms,m,⟨a,b,O.sub (aeE (aeE (aeE (afV _ _) _) _) _),d0,d1⟩,e1,e2,e3,e4,e5,e6,e7⟩
theorem BA6.at_ (h:BA6 K T C A Z ro mr W r H0 H B n i):TabsOk T H/\∀ x∈B,H x.1=some x.2:=by
 obtain ⟨S,gs,ks,ps,ds,rs,us,u0,u2,ms,m,⟨a,b,O,d0,d1⟩,e⟩:=h;exact ⟨O.same.t1,fun x hx=>O.at_ _ (ad4 _ (ad4 _ (ad4 _ hx)))⟩
abbrev Ht:Stmt:=top 87
theorem yq:aH ["script","first","great","river","book","rows","marks","cell"] ["script"] (ao Ht):=by walk_at "sc"
inductive Ml (K:PySem.W.Frag)(T:dY)(vs:List V)(H:Hp)(Q:VK)(E:XK):Prop
 | mk (a:Addr)(ns:List Int)(_:vs=[.ref a])(_:SqL K H a (ns.map V.int))(_:ns.length<=63)(_:TabsOk T H)(_:∀ H',Q (.bl true) H')
variable (jN:(CX0|||1) nj nC ["script","k"] (Mw K))
variable (nF:(CX0|||2) ni nA ["cell","many"] Mh)
variable (yO:(CX0|||2) qW rP ["xs","cell"] (Jg K))
variable (sS:((CXE P w)|||4) ju lR ["self","below"] (Jp K T C c))
variable (Bd:(CX0|||11) uZ vC ["book","river","rows","marks","xs","great"] (Tv K T C))
include bY cU gV cj bW kW iV jN nF yO sS Bd in
theorem aa9 (D:Df K mg "law" Ht ["script"] f fd)(B:Blt mg)(fM:Cl K mg "Book" C ju Z7):(CX0|||12) f fd ["script"] (Ml K T):=by
 refine D.F.ok yq ?_ ?_
 walk_at "i"
 obtain ⟨a,ns,rfl,hS,hlen,tk,k⟩:=h
 refine ⟨_,(1<$>yq<$>(bY<*jN<*(pv 0>=>au>=>ak))<|>2<$>yq<$>(qy qC (@bB _ _ _ _ _ _ _ _ jq (@bB _ _ _ _ _ _ _ _ qz (pv 1) au) au) au (aX _))<|>3<$>yq<$>(gV<*yO<*(cU<*nF<*(bY<*jN<*(pv 0>=>au>=>ak)>=>@bB _ _ _ _ _ _ _ _ jq (pv 1) au>=>ak)>=>bY<*jN<*(pv 0>=>au>=>ak)>=>ak))<|>4<$>yq<$>(Zi fM.k sS hr.m rfl fM.m cj.b .nil KD (bR bx rfl B.list aes (pv 3>=>ak)>=>ak))<|>5<$>yq<$>(@bU _ _ _ _ (@bU _ _ _ _ ak>=>@bU _ _ _ _ ak>=>@bU _ _ _ _ ak>=>ak))<|>6<$>yq<$>(@bU _ _ _ _ (au>=>ak))<|>cI aeh rfl (bF (@bB _ _ _ _ _ _ _ _ Gk (@bU _ _ _ _ (pv 1>=>ak)) (kj ux (pv 0) (lF au) (lF au)))) (7>>yq)
   (~~~(@dw _ _ _ _ _ _ _ _ (lE (jA (iV<*Bd<*(pv 4>=>pv 3>=>pv 5>=>pv 6>=>cU<*nF<*(pv 7>=>au>=>ak)>=>pv 2>=>ak))))
    (~~~(@aO _ _ _ _ uO))
    bf))<|>(~~~(@aO _ _ _ _ (bW<*kW<*(pv 4>=>pv 3>=>pv 5>=>pv 6>=>ak))))),?_⟩
 have O:=Ow.refl tk
 refine ⟨_,rfl,a,ns,0,rfl,hS,?_⟩
 generalize ns.getD 0 0=fi
 have m6:=(show 0<=fi % 6/\fi % 6<6 by omega)
 refine ⟨_,rfl,_,_,rfl,rfl,⟨by decide,by decide⟩,_,_,rfl,rfl,(by show (0:Int)<2;decide),rfl,?_⟩
 refine ⟨_,rfl,a,ns,1,rfl,hS,_,rfl,_,_,rfl,rfl,(by show (0:Int)<6;decide),_,_,rfl,by omega,by omega,O.got fun lp H1 xs O e=>?_⟩
 subst e
 refine ⟨_,rfl,a,ns,2,rfl,O.same.seq hS,lp,_,_,rfl,O.sq 0,by rw [zu];omega,O.got fun lv H2 xs O e=>?_⟩
 obtain ⟨r,rfl,hR,hrl⟩:=e
 rw [zu] at hrl
 have r1:1<=r.length:=by omega
 have r6:r.length<=6:=by omega
 have hIR:=M6 hR r1 (by omega)
 generalize decide ((fun i j=>V.int (i % j)) (fi / 6) 2=V.int 1)=gr
 refine ⟨_,rfl,lv,_,rfl,.inl (O.sq 0),fun lb hlb=>?_⟩
 walk_at "nw"
 intro x dx nx ndx nex
 have O:=(O.mk' ndx (o:=.own x) rfl).mk' (a:=x) (o:=.ins C dx []) (by rw [aL nex.symm];exact nx) rfl
 refine ⟨x,dx,lb,H,_,r,rfl,O,O.sq 2,by omega,fun _ A Z H5 eA eZ O5=>⟨rfl,?_⟩,fun z=>by rw [hIR] at z;cases z⟩
 subst eA
 clear O nx ndx nex
 have O:Ow T H H5 ((RX C A (exB Z) r 0 [] [] []++BL Z [] [] [] [])++[(lv,.lst (r.map V.int))]):=O5.sub (by rw [afY];exact aeE (aeE (List.Sublist.cons _ (List.Sublist.cons₂ _ (List.nil_sublist _))) _) _)
 clear O5
 refine ⟨szl,fun l0 h0=>?_⟩
 walk_at "nw"
 refine ⟨szl,fun l1 h1=>?_⟩
 walk_at "nw"
 refine ⟨szl,fun l2 h2=>?_⟩
 walk_at "nw"
 refine ⟨szl,fun ro hro=>?_⟩
 walk_at "nw"
 refine ⟨szl,fun mr hmr=>?_⟩
 walk_at "nw"
 refine ⟨_,rfl,szl,fun l5 h5=>?_⟩
 walk_at "nw"
 refine ⟨_,rfl,3,rfl,43,rfl,a,_,rfl,O.same.seq hS,fun l6 h6=>?_⟩
 walk_at "nw"
 rw [show Aq (ns.map V.int) (some 3) (some 43)=((ns.drop 3).take 40).map V.int from YT ns 3 43] at O
 have hql:((ns.drop 3).take 40).length<=40:=by rw [aed];omega
 generalize (ns.drop 3).take 40=q1 at O hql
 refine ⟨l5,l6,_,_,rfl,rfl,O.get 1,O.get 0,iI (by rw [TX];simp only [ael,aeR];omega),fun lq hlq=>?_⟩
 walk_at "nw"
 have O:=O.two.two
 rw [show [V.int fi]++q1.map V.int=(fi::q1).map V.int from rfl] at O
 have hqs:(fi::q1).length<=41:=afc hql
 generalize fi::q1=qs at O hqs
 have O:=Ow.behind [(lq,.lst (qs.map V.int)),(mr,.lst [.int 0]),(ro,.lst [.ref l0,.ref l1,.ref l2]),(l2,.lst []),(l1,.lst []),(l0,.lst [])] (RX C A (exB Z) r 0 [] [] []) (BL Z [] [] [] []) [(lv,.lst (r.map V.int))] O
 have ba0:BA6 K T C A Z ro mr ⟨l0,l1,l2⟩ r H _ [(lq,.lst (qs.map V.int)),(lv,.lst (r.map V.int))] 0 0:=⟨⟨0,[],[],[]⟩,[],[],[],[],[],[],[],[],[],0,⟨[],[],O.perm (afa (RX C A (exB Z) r 0 [] [] []) (afa (BL Z [] [] [] []) ?_)),.nil,.nil⟩,.nil,.nil,.nil,.nil,(fun k d hd=>nomatch hd),⟨rfl,ad2 _⟩,⟨hR,r1,r6,rfl,by decide,(fun x hx=>nomatch hx),ad2 _,aeK _,aeK _,ad2 _,(fun x hx=>nomatch hx),rfl,ad2 _,(fun x hx=>nomatch hx),List.nodup_nil,(fun k hk=>nomatch hk),ad2 _,(fun x hx=>nomatch hx),ad2 _,(fun x hx=>nomatch hx)⟩⟩
 ·clear O
  refine ⟨lq,rfl,⟨_,SqL.of (ba0.at_.2 _ (.head _))⟩,?_⟩
  refine dB (K:=K) (xs:=qs.map V.int) (fun i σ H'=>Iv (∃ (Hb:Hp)(Z:Bx)(W:L3)(n:Nat)(v7:Option V),σ=[some (.ref a),some (.int fi),some (.bl gr),some (.ref lv),some (.ref A.p),some (.ref ro),some (.ref mr),v7]/\BA6 K T C A Z ro mr W r Hb H' [(lq,.lst (qs.map V.int)),(lv,.lst (r.map V.int))] n i))
   ⟨trivial,H,Z,_,0,none,rfl,ba0⟩ (fun i σ H' _ ⟨_,_,_,_,_,_,_,ba⟩=>SqL.of (ba.at_.2 _ (.head _))) ?_ ?_
  ·clear ba0
   rintro i yv σ H8 hyv ⟨-,Hb,Z,W,n,v7,rfl,ba⟩
   obtain ⟨z,hz,rfl⟩:=ints_get hyv
   have hi:=(acp.mp hz).1
   refine ⟨_,rfl,_,rfl,_,rfl,_,rfl,_,rfl,_,_,rfl,by decide,by decide,(Ow.refl ba.at_.1).got fun lx H9 xs O e=>?_⟩
   subst e
   exact ⟨_,rfl,A,Z,ro,mr,W,Hb,_,r,n,i,lv,lx,QG z 14,gr,rfl,ba.call O,by omega,⟨.tail _ (.tail _ (.head _)),.head _,zu _ _,Zg _ _⟩,fun Z' W' Hc H' n' sc ba'=>⟨_,rfl,yC ⟨trivial,Hc,Z',W',n',_,rfl,BA6.less (X:=[_]) ba'⟩⟩⟩
  ·clear ba0
   rintro σ H8 ⟨-,Hb,Z,W,n,v7,rfl,ba⟩
   rw [TX] at ba
   exact ⟨_,rfl,_,rfl,_,rfl,_,rfl,A,Z,ro,mr,W,Hb,_,r,n,_,lv,rfl,ba,by omega,.tail _ (.head _),fun _ _ _ H' _ _ _=>k H'⟩
 ·exact acV _ _ _ _ _ _ _
abbrev eC:Ec:=⟨92,116,104,80,128,0,140,56⟩
theorem lsc {α:Type}{n:Nat}{us:List α}(h:us.length=n+1):∃ a vs,us=a::vs/\vs.length=n:=by
 cases us with
 | nil=>cases h
 | cons a vs=>exact ⟨a,vs,rfl,Nat.succ.inj h⟩
theorem lsn0 {α:Type}{us:List α}(h:us.length=0):us=[]:=List.eq_nil_of_length_eq_zero h
theorem adN {α:Type}{us:List α}(h:us.length=1):∃ a0,us=[a0]:=by
 obtain ⟨a,v,e,h⟩:=lsc h;obtain e2:=lsn0 h;exact ⟨a,by rw [e,e2]⟩
theorem adM {α:Type}{us:List α}(h:us.length=2):∃ a0 a1,us=[a0,a1]:=by
 obtain ⟨a,v,e,h⟩:=lsc h;obtain ⟨b0,e2⟩:=adN h;exact ⟨a,b0,by rw [e,e2]⟩
theorem adf {α:Type}{us:List α}(h:us.length=3):∃ a0 a1 a2,us=[a0,a1,a2]:=by
 obtain ⟨a,v,e,h⟩:=lsc h;obtain ⟨b0,b1,e2⟩:=adM h;exact ⟨a,b0,b1,by rw [e,e2]⟩
theorem abr {α:Type}{us:List α}(h:us.length=4):∃ a0 a1 a2 a3,us=[a0,a1,a2,a3]:=by
 obtain ⟨a,v,e,h⟩:=lsc h;obtain ⟨b0,b1,b2,e2⟩:=adf h;exact ⟨a,b0,b1,b2,by rw [e,e2]⟩
theorem aco {α:Type}{us:List α}(h:us.length=5):∃ a0 a1 a2 a3 a4,us=[a0,a1,a2,a3,a4]:=by
 obtain ⟨a,v,e,h⟩:=lsc h;obtain ⟨b0,b1,b2,b3,e2⟩:=abr h;exact ⟨a,b0,b1,b2,b3,by rw [e,e2]⟩
theorem adL {α:Type}{us:List α}(h:us.length=6):∃ a0 a1 a2 a3 a4 a5,us=[a0,a1,a2,a3,a4,a5]:=by
 obtain ⟨a,v,e,h⟩:=lsc h;obtain ⟨b0,b1,b2,b3,b4,e2⟩:=aco h;exact ⟨a,b0,b1,b2,b3,b4,by rw [e,e2]⟩
theorem lsn7 {α:Type}{us:List α}(h:us.length=7):∃ a0 a1 a2 a3 a4 a5 a6,us=[a0,a1,a2,a3,a4,a5,a6]:=by
 obtain ⟨a,v,e,h⟩:=lsc h;obtain ⟨b0,b1,b2,b3,b4,b5,e2⟩:=adL h;exact ⟨a,b0,b1,b2,b3,b4,b5,by rw [e,e2]⟩
theorem GR {K:PySem.W.Frag}{x qual:Str}{st:Stmt}{f:Addr}{fd:FuncData}{n0:Str}(F:Fun K x qual st f fd)(h:∀ (kV doc pm:Value)(an:Option Addr)(cdv ct u0:Value),bindArgs (fnOf x qual (iG st) (dM st) (ao st) .none kV doc pm an cdv ct) ⟨[u0],[]⟩=pure (([n0]:List Str).zip [u0])):Binds K fd [n0] []:=
 F.binds (ps:=[n0]) fun kV doc pm an cdv ct us hl=>by
  obtain ⟨_,rfl⟩:=adN hl;exact h kV doc pm an cdv ct _
theorem Qx {K:PySem.W.Frag}{x qual:Str}{st:Stmt}{f:Addr}{fd:FuncData}{n0 n1:Str}(F:Fun K x qual st f fd)(h:∀ (kV doc pm:Value)(an:Option Addr)(cdv ct u0 u1:Value),bindArgs (fnOf x qual (iG st) (dM st) (ao st) .none kV doc pm an cdv ct) ⟨[u0,u1],[]⟩=pure (([n0,n1]:List Str).zip [u0,u1])):Binds K fd [n0,n1] []:=
 F.binds (ps:=[n0,n1]) fun kV doc pm an cdv ct us hl=>by
  obtain ⟨_,_,rfl⟩:=adM hl;exact h kV doc pm an cdv ct _ _
theorem YX {K:PySem.W.Frag}{x qual:Str}{st:Stmt}{f:Addr}{fd:FuncData}{n0 n1 n2:Str}(F:Fun K x qual st f fd)(h:∀ (kV doc pm:Value)(an:Option Addr)(cdv ct u0 u1 u2:Value),bindArgs (fnOf x qual (iG st) (dM st) (ao st) .none kV doc pm an cdv ct) ⟨[u0,u1,u2],[]⟩=pure (([n0,n1,n2]:List Str).zip [u0,u1,u2])):Binds K fd [n0,n1,n2] []:=
 F.binds (ps:=[n0,n1,n2]) fun kV doc pm an cdv ct us hl=>by
  obtain ⟨_,_,_,rfl⟩:=adf hl;exact h kV doc pm an cdv ct _ _ _
theorem ab9 {K:PySem.W.Frag}{x qual:Str}{st:Stmt}{f:Addr}{fd:FuncData}{n0 n1 n2 n3:Str}(F:Fun K x qual st f fd)(h:∀ (kV doc pm:Value)(an:Option Addr)(cdv ct u0 u1 u2 u3:Value),bindArgs (fnOf x qual (iG st) (dM st) (ao st) .none kV doc pm an cdv ct) ⟨[u0,u1,u2,u3],[]⟩=pure (([n0,n1,n2,n3]:List Str).zip [u0,u1,u2,u3])):Binds K fd [n0,n1,n2,n3] []:=
 F.binds (ps:=[n0,n1,n2,n3]) fun kV doc pm an cdv ct us hl=>by
  obtain ⟨_,_,_,_,rfl⟩:=abr hl;exact h kV doc pm an cdv ct _ _ _ _
theorem ab8 {K:PySem.W.Frag}{x qual:Str}{st:Stmt}{f:Addr}{fd:FuncData}{n0 n1 n2 n3 n4:Str}(F:Fun K x qual st f fd)(h:∀ (kV doc pm:Value)(an:Option Addr)(cdv ct u0 u1 u2 u3 u4:Value),bindArgs (fnOf x qual (iG st) (dM st) (ao st) .none kV doc pm an cdv ct) ⟨[u0,u1,u2,u3,u4],[]⟩=pure (([n0,n1,n2,n3,n4]:List Str).zip [u0,u1,u2,u3,u4])):Binds K fd [n0,n1,n2,n3,n4] []:=
 F.binds (ps:=[n0,n1,n2,n3,n4]) fun kV doc pm an cdv ct us hl=>by
  obtain ⟨_,_,_,_,_,rfl⟩:=aco hl;exact h kV doc pm an cdv ct _ _ _ _ _
theorem ab7 {K:PySem.W.Frag}{x qual:Str}{st:Stmt}{f:Addr}{fd:FuncData}{n0 n1 n2 n3 n4 n5:Str}(F:Fun K x qual st f fd)(h:∀ (kV doc pm:Value)(an:Option Addr)(cdv ct u0 u1 u2 u3 u4 u5:Value),bindArgs (fnOf x qual (iG st) (dM st) (ao st) .none kV doc pm an cdv ct) ⟨[u0,u1,u2,u3,u4,u5],[]⟩=pure (([n0,n1,n2,n3,n4,n5]:List Str).zip [u0,u1,u2,u3,u4,u5])):Binds K fd [n0,n1,n2,n3,n4,n5] []:=
 F.binds (ps:=[n0,n1,n2,n3,n4,n5]) fun kV doc pm an cdv ct us hl=>by
  obtain ⟨_,_,_,_,_,_,rfl⟩:=adL hl;exact h kV doc pm an cdv ct _ _ _ _ _ _
theorem ab6 {K:PySem.W.Frag}{x qual:Str}{st:Stmt}{f:Addr}{fd:FuncData}{n0 n1 n2 n3 n4 n5 n6:Str}(F:Fun K x qual st f fd)(h:∀ (kV doc pm:Value)(an:Option Addr)(cdv ct u0 u1 u2 u3 u4 u5 u6:Value),bindArgs (fnOf x qual (iG st) (dM st) (ao st) .none kV doc pm an cdv ct) ⟨[u0,u1,u2,u3,u4,u5,u6],[]⟩=pure (([n0,n1,n2,n3,n4,n5,n6]:List Str).zip [u0,u1,u2,u3,u4,u5,u6])):Binds K fd [n0,n1,n2,n3,n4,n5,n6] []:=
 F.binds (ps:=[n0,n1,n2,n3,n4,n5,n6]) fun kV doc pm an cdv ct us hl=>by
  obtain ⟨_,_,_,_,_,_,_,rfl⟩:=lsn7 hl;exact h kV doc pm an cdv ct _ _ _ _ _ _ _
section
variable {K:PySem.W.Frag}{h:Heap}{mg:Str->Option Value}{x q:Str}{st:Stmt}{ps fs:List Str}{f fa C C':Addr}{fd:FuncData}
def XDf (K:PySem.W.Frag)(mg:Str->Option Value)(x:Str)(st:Stmt)(ps:List Str):Prop:=∃ f d,Df K mg x st ps f d
def XDm (K:PySem.W.Frag)(C:Addr)(x q:Str)(st:Stmt)(ps:List Str):Prop:=∃ f d,Dm K C x q st ps f d
def XDn (K:PySem.W.Frag)(C C':Addr)(x q:Str)(st:Stmt)(ps:List Str):Prop:=∃ f d,Dm K C x q st ps f d/\Dm K C' x q st ps f d
theorem ZD (X:K.In h)(G:h.Ns mainGlobals mg)(a:nsIn K mainGlobals x=some (some (.ref f)))(F:Fun K x x st f fd)(b:Fun K x x st f fd->Binds K fd ps []):XDf K mg x st ps:=⟨_,_,F,b F,afx X G a⟩
theorem adJ {c:Addr}(X:K.In h)(G:h.Ns mainGlobals mg)(a:nsIn K mainGlobals x=some (some (.ref f)))(F:Fun K x x st f fd)(b:Fun K x x st f fd->Binds K fd ps [])(e:fd.code=.ref c):∃ f d,Df K mg x st ps f d/\d.code=.ref c:=⟨_,_,⟨F,b F,afx X G a⟩,e⟩
theorem ade (m:Meth K C x f)(F:Fun K x q st f fd)(b:Fun K x q st f fd->Binds K fd ps []):XDm K C x q st ps:=⟨_,_,F,b F,m⟩
theorem mkDn (m:Meth K C x f)(m':PySem.W.findIn K (.ref C') x=some (some (.ref f)))(F:Fun K x q st f fd)(b:Fun K x q st f fd->Binds K fd ps []):XDn K C C' x q st ps:=⟨_,_,⟨F,b F,m⟩,F,b F,m',m.fn,m.kp⟩
theorem adb (m:Meth K C x f)(F:Fun K x q st f fd)(b:Fun K x q st f fd->Binds K fd ps [])(g:PySem.W.specialIn K (.ref C) "__getattribute__"=some (some (.builtin "type.__getattribute__")))(r:readsIn K C (.type "type")=true)(c:findCls K (.ref C) (.type "type") x=some (.val (.ref f))):∃ f d,Dm K C x q st ps f d/\ClF K C f x:=⟨_,_,⟨F,b F,m⟩,g,r,c,F.kp⟩
theorem mkCl (D:Dm K C "__init__" q st ps f fd)(c:Cls K C)(m:makesIn K C=true)(k:keepIn K (.ref C)=true)(g:mg x=some (.ref C))(n:∀ y∈fs,jx K C y):Cl K mg x C f fs:=⟨c,⟨m,D.m.at_,D.m.fn,k⟩,g,n⟩
theorem ada {oc kV dc pm cd ct:Value}{od an:Option Addr}{sl:Array (Option Value)}{Z:FuncData->Prop}(X:K.In h)(G:h.Ns mainGlobals mg)(e:mg "law"=some (.ref fa))(a:nsIn K mainGlobals "law"=some (some (.ref f)))(l:K.lookup f=some ⟨oc,od,.func (fnOf "law" "law" (iG Ht) (dM Ht) (ao Ht) .none kV dc pm an cd ct),sl⟩)(c:codeIn K cd "law"=true)(k:keepIn K (.ref f)=true)(z:∀ d,Df K mg "law" Ht ["script"] fa d->Z d):∃ d,(∀ (s:Shared)(v:Value),BindsTo s d ⟨[v],[]⟩ [("script",v)])/\Z d:=by
 have e:=e.symm.trans (afx X G a);cases e;have F:=abW (st:=Ht) l c k;exact ⟨_,fun s v=>.of_eq rfl,z _ ⟨F,GR F (fun _ _ _ _ _ _ _=>rfl),afx X G a⟩⟩
end
theorem walk {l:PySem.W.OpenLaw}{q:Program}{loose:List Str}{XP:(Str->Option Value)->Heap->Prop}{YP:World->Heap->Prop}{d:DefRec}{K:Params->PySem.W.Frag}{P0 P1:Addr}(hn:l.most=some 63)(hdf:d.params.defaults=[])
  (hY:∀ (w:World)(h:Heap),YP w h->(K w.params).In h)(hYt:∀ (w:World)(h:Heap),YP w h->∀ P∈([P0,P1]:List Addr),h.get? P=some (PySem.W.tabObj #[]))(hts:∀ (w:World),∀ P∈([P0,P1]:List Addr),(K w.params).lookup P=none/\∃ c,PySem.W.codeHdIn (K w.params) c P=true)
  (F:∀ (P:Program)(w:World)(mg:Str->Option Value)(fa:Addr)(h:Heap),(K w.params).In h->h.Ns mainGlobals mg->mg d.name=some (.ref fa) ->
   ∃ fd:FuncData,(∀ (s:Shared)(u:Value),BindsTo s fd ⟨[u],[]⟩ [("script",u)])/\∀ base:Heap,BM mg base->G9 P w (K w.params) mg base CX0 12 fa fd ["script"] (Ml (K w.params) [(P0,cA.1,cA.2),(P1,gb.1,gb.2)])):
  PySem.W.WalkO q loose XP YP l.row.toRowW d [] (fun f vs=>PySem.call f vs):=
 L2.QW (n:=63) (k:=12) (x:="script") (CX:=fun _=>CX0) (sp:=fun w=>Ml (K w.params) [(P0,cA.1,cA.2),(P1,gb.1,gb.2)]) (ts:=([P0,P1]:List Addr)) hn (by decide) hdf ⟨rfl,by decide,by decide⟩ hY hYt hts (fun w mg fa h a b c=>(F _ w mg fa h a b c).imp fun _ z=>⟨z.1,fun base _ _=>z.2 base⟩) (fun _ H a ns hl _ hT hS=>⟨a,ns,rfl,hS,hl,fun t ht=>.inl (hT t.1 (by simp only [aen,afR,or_false] at ht ⊢;(try rcases ht with rfl| ht)<;>(try subst ht)<;>simp)),fun _=>rfl⟩) fun _ _ _ _ _ z=>z
end My
set_option hygiene false
local macro_rules | `(tactic| walk_at "k") => `(tactic| (first | k_is | kernel_rfl | rfl))
local macro_rules | `(tactic| walk_at "me") => `(tactic| exact ⟨by k_is, by walk_at "k", by k_is⟩)
local macro_rules | `(tactic| walk_at "h") => `(tactic| exact ⟨_, afx KX G (by k_is)⟩)
local macro_rules | `(tactic| walk_at "ec") => `(tactic| exact ⟨afx KX G (by k_is), by walk_at "k", ⟨by walk_at "k", by walk_at "k", by walk_at "k", by walk_at "k", by walk_at "k", by walk_at "k", by walk_at "k", by walk_at "k"⟩⟩)
local macro_rules | `(tactic| walk_at "d1") => `(tactic| exact My.ZD KX G (by k_is) ⟨⟨_, _, _, _, _, _, _, _, _, rfl, by k_is, by k_is⟩, by k_is⟩ (fun F => My.GR F (fun _ _ _ _ _ _ _ => rfl)))
local macro_rules | `(tactic| walk_at "m1") => `(tactic| exact My.ade (by walk_at "me") ⟨⟨_, _, _, _, _, _, _, _, _, rfl, by k_is, by k_is⟩, by k_is⟩ (fun F => My.GR F (fun _ _ _ _ _ _ _ => rfl)))
local macro_rules | `(tactic| walk_at "d2") => `(tactic| exact My.ZD KX G (by k_is) ⟨⟨_, _, _, _, _, _, _, _, _, rfl, by k_is, by k_is⟩, by k_is⟩ (fun F => My.Qx F (fun _ _ _ _ _ _ _ _ => rfl)))
local macro_rules | `(tactic| walk_at "m2") => `(tactic| exact My.ade (by walk_at "me") ⟨⟨_, _, _, _, _, _, _, _, _, rfl, by k_is, by k_is⟩, by k_is⟩ (fun F => My.Qx F (fun _ _ _ _ _ _ _ _ => rfl)))
local macro_rules | `(tactic| walk_at "d3") => `(tactic| exact My.ZD KX G (by k_is) ⟨⟨_, _, _, _, _, _, _, _, _, rfl, by k_is, by k_is⟩, by k_is⟩ (fun F => My.YX F (fun _ _ _ _ _ _ _ _ _ => rfl)))
local macro_rules | `(tactic| walk_at "m3") => `(tactic| exact My.ade (by walk_at "me") ⟨⟨_, _, _, _, _, _, _, _, _, rfl, by k_is, by k_is⟩, by k_is⟩ (fun F => My.YX F (fun _ _ _ _ _ _ _ _ _ => rfl)))
local macro_rules | `(tactic| walk_at "d4") => `(tactic| exact My.ZD KX G (by k_is) ⟨⟨_, _, _, _, _, _, _, _, _, rfl, by k_is, by k_is⟩, by k_is⟩ (fun F => My.ab9 F (fun _ _ _ _ _ _ _ _ _ _ => rfl)))
local macro_rules | `(tactic| walk_at "d5") => `(tactic| exact My.ZD KX G (by k_is) ⟨⟨_, _, _, _, _, _, _, _, _, rfl, by k_is, by k_is⟩, by k_is⟩ (fun F => My.ab8 F (fun _ _ _ _ _ _ _ _ _ _ _ => rfl)))
local macro_rules | `(tactic| walk_at "d6") => `(tactic| exact My.ZD KX G (by k_is) ⟨⟨_, _, _, _, _, _, _, _, _, rfl, by k_is, by k_is⟩, by k_is⟩ (fun F => My.ab7 F (fun _ _ _ _ _ _ _ _ _ _ _ _ => rfl)))
local macro_rules | `(tactic| walk_at "d7") => `(tactic| exact My.ZD KX G (by k_is) ⟨⟨_, _, _, _, _, _, _, _, _, rfl, by k_is, by k_is⟩, by k_is⟩ (fun F => My.ab6 F (fun _ _ _ _ _ _ _ _ _ _ _ _ _ => rfl)))
open PySem PySem.W PyProof.Rows My L2
set_option maxRecDepth 100000 in
set_option maxHeartbeats 0 in
theorem PySem.Challenge.cw_sluice_k66_whole_closing_keeps_days_holds : PySem.Challenge.rw_sluice_k66_whole_closing_keeps_days.Holds := by
 w_on;o_law;refine PySem.W.holds_open (q:=My.qv) (loose:=My.JG) (Xt:=(fun s=>xlAt My.qv [] s&& recOk (PySem.W.RowW.records PySem.Challenge.rw_sluice_k66_whole_closing_keeps_days.row.toRowW) s)) (XP:=XL My.qv []) (Yf:=PySem.W.Hook.obs (kmHook My.Kf My.asK My.hkE My.tsK)) (Ya:=PySem.W.Hook.val (kmHook My.Kf My.asK My.hkE My.tsK)) (YP:=PySem.W.Hook.says (kmHook My.Kf My.asK My.hkE My.tsK)) (N:=11246) My.hlE (PySem.W.Hook.of (kmHook My.Kf My.asK My.hkE My.tsK)) (PySem.W.Hook.keeps (kmHook My.Kf My.asK My.hkE My.tsK)) (fun s e=>PySem.W.xl_of s (Bool.and_eq_true_iff.mp e).1) PySem.W.XL.keeps (by rfl) (by rfl) (by rfl) (fun s e=>PySem.W.recFacts_of (Bool.and_eq_true_iff.mp e).2) (by rfl) (by first| assumption| decide+kernel) (by decide+kernel) ⟨rfl,rfl,rfl,rfl,rfl,by decide+kernel⟩ ?hw ?hc
 case hw=>w_witness2
 k_fill;refine' My.walk (l:=PySem.Challenge.rw_sluice_k66_whole_closing_keeps_days) (K:=My.Kf) rfl rfl (fun w h Y=>PySem.W.km_in_of Y) (fun w h Y=>PySem.W.km_tabs_of Y) ?hts ?F
 case hts =>
  intro w P hP;simp only [aen,afR,or_false] at hP;rcases hP with rfl| rfl
  ·exact ⟨by kernel_rfl,273,by kernel_rfl⟩
  ·exact ⟨by kernel_rfl,191,by kernel_rfl⟩
 case F =>
  intro P w mg fa h KX G hmg;refine My.ada KX G hmg (by k_is) (by k_is) (by k_is) (by k_is) fun dL adD base hbm=>?_;have B:Blt mg:=by constructor <;>exact PySem.W.mg_none_of KX G (by k_is)
  have Gx:∃ t,mg "MOST_WATER"=some (.int (1000000000000) t):=by walk_at "h"
  have Br:∃ t,mg "LONGEST_NAME"=some (.int (8) t):=by walk_at "h"
  have Pq:∃ t,mg "LETTERS"=some (.str "abcdefghijklmnopqrstuvwxyz" t):=by walk_at "h"
  obtain ⟨_,_,bN⟩:XDf (Kf w.params) mg "is_water" w5 ["amount"]:=by walk_at "d1"
  obtain ⟨_,_,lY⟩:XDf (Kf w.params) mg "is_name" vW ["text"]:=by walk_at "d1"
  have Bq:∃ t,mg "MOST_REACHES"=some (.int (40) t):=by walk_at "h"
  have Pn:∃ t,mg "MOUTH"=some (.int (-1) t):=by walk_at "h"
  obtain ⟨_,_,cC⟩:XDf (Kf w.params) mg "comes_to_mouth" jX ["below","start"]:=by walk_at "d2"
  obtain ⟨_,_,jG⟩:XDf (Kf w.params) mg "is_river" nH ["below"]:=by walk_at "d1"
  obtain ⟨_,_,fB⟩:XDf (Kf w.params) mg "way_of" Dr ["below","reach"]:=by walk_at "d2"
  obtain ⟨_,_,jU,DQ⟩:∃ f d,Df (Kf w.params) mg "tops_first" jP ["below"] f d/\d.code=.ref 191:=My.adJ KX G (by k_is) ⟨⟨_,_,_,_,_,_,_,_,_,rfl,by k_is,by k_is⟩,by k_is⟩ (fun F=>My.GR F (fun _ _ _ _ _ _ _=>rfl)) (by rfl);obtain ⟨_,_,iR⟩:XDf (Kf w.params) mg "mouths_of" nZ ["below"]:=by walk_at "d1"
  obtain ⟨_,_,cM⟩:XDf (Kf w.params) mg "stretch_of" pR ["below","start","stop"]:=by walk_at "d3"
  obtain ⟨_,_,cO⟩:XDf (Kf w.params) mg "natural_of" pY ["below","springs"]:=by walk_at "d2"
  obtain ⟨_,_,jH⟩:XDf (Kf w.params) mg "flows_of" xg ["below","springs","moves"]:=by walk_at "d3"
  have K4:∃ t,mg "LAST_DAY"=some (.int (1000000) t):=by walk_at "h"
  obtain ⟨_,_,gO⟩:XDf (Kf w.params) mg "is_licence" p7 ["below","one"]:=by walk_at "d2"
  obtain ⟨_,_,gJ⟩:XDf (Kf w.params) mg "reaches_of" pU ["below","one"]:=by walk_at "d2"
  obtain ⟨_,_,cB⟩:XDf (Kf w.params) mg "day_filed" uE ["one"]:=by walk_at "d1"
  obtain ⟨_,_,cR⟩:XDf (Kf w.params) mg "gives_back" p8 ["one"]:=by walk_at "d1"
  obtain ⟨_,_,dX⟩:XDf (Kf w.params) mg "most_of" zM ["one"]:=by walk_at "d1"
  obtain ⟨_,_,dH⟩:XDf (Kf w.params) mg "with_most" uy ["one","most"]:=by walk_at "d2"
  obtain ⟨_,_,wU,Ph⟩:∃ f d,Df (Kf w.params) mg "ranked" vV ["roll"] f d/\d.code=.ref 273:=My.adJ KX G (by k_is) ⟨⟨_,_,_,_,_,_,_,_,_,rfl,by k_is,by k_is⟩,by k_is⟩ (fun F=>My.GR F (fun _ _ _ _ _ _ _=>rfl)) (by rfl);obtain ⟨_,_,iT⟩:XDf (Kf w.params) mg "groups_of" uD ["roll"]:=by walk_at "d1"
  obtain ⟨_,_,jE⟩:XDf (Kf w.params) mg "wants_of" sW ["roll","calls"]:=by walk_at "d2"
  obtain ⟨_,_,gQ⟩:XDf (Kf w.params) mg "count_ways" qd ["free","ways"]:=by walk_at "d2"
  obtain ⟨_,_,fu⟩:XDf (Kf w.params) mg "whole_turns" j8 ["free","ways","rests"]:=by walk_at "d3"
  obtain ⟨_,_,uq⟩:XDf (Kf w.params) mg "draw" MP ["left","way","drops"]:=by walk_at "d3"
  obtain ⟨_,_,bM⟩:XDf (Kf w.params) mg "take_whole_turns" dh ["left","ways","rests","takes","going"]:=by walk_at "d5"
  obtain ⟨_,_,cW⟩:XDf (Kf w.params) mg "take_one_turn" jj ["left","ways","rests","takes","going"]:=by walk_at "d5"
  obtain ⟨_,_,gP⟩:XDf (Kf w.params) mg "deal_turns" qb ["free","ways","rests"]:=by walk_at "d3"
  obtain ⟨_,_,ur⟩:XDf (Kf w.params) mg "deal" Ga ["below","springs","roll","calls"]:=by walk_at "d4"
  have Pk:∃ t,mg "WHOLE"=some (.int (1000) t):=by walk_at "h"
  obtain ⟨_,_,gK⟩:XDf (Kf w.params) mg "pond_start" pW ["roll","pond"]:=by walk_at "d2"
  obtain ⟨_,_,fC⟩:XDf (Kf w.params) mg "look_at_let" oh ["below","roll","ponds","kept","let"]:=by walk_at "d5"
  obtain ⟨_,_,lX⟩:XDf (Kf w.params) mg "let_out" zN ["below","roll","ponds","kept","lets"]:=by walk_at "d5"
  obtain ⟨_,_,gM⟩:XDf (Kf w.params) mg "pond_calls" pX ["roll","ponds","kept","calls"]:=by walk_at "d4"
  obtain ⟨_,_,lZ⟩:XDf (Kf w.params) mg "evening" zO ["ponds","kept","takes"]:=by walk_at "d3"
  obtain ⟨_,_,cQ⟩:XDf (Kf w.params) mg "morning_of" pZ ["below","roll","ponds","kept","calls","lets"]:=by walk_at "d6"
  obtain ⟨_,_,jF⟩:XDf (Kf w.params) mg "moves_of" wZ ["roll","ponds","takes","lets"]:=by walk_at "d4"
  obtain ⟨_,_,lW⟩:XDf (Kf w.params) mg "used_of" lB ["roll","ponds","takes","lets"]:=by walk_at "d4"
  obtain ⟨_,_,pH⟩:XDf (Kf w.params) mg "day_of" zq ["below","springs","roll","ponds","kept","calls","lets"]:=by walk_at "d7"
  have Aa:∃ t,mg "MOST_LICENCES"=some (.int (60) t):=by walk_at "h"
  obtain ⟨_,_,dI⟩:XDf (Kf w.params) mg "look_at_name" m7 ["name"]:=by walk_at "d1"
  have Gy:∃ t,mg "MOST_PONDS"=some (.int (10) t):=by walk_at "h"
  obtain ⟨_,_,fD⟩:XDf (Kf w.params) mg "greatest_of" j9 ["before","calls"]:=by walk_at "d2"
  obtain ⟨_,_,bY⟩:XDf (Kf w.params) mg "_law_cell_at" m8 ["script","k"]:=by walk_at "d2"
  obtain ⟨_,_,gU⟩:XDf (Kf w.params) mg "_law_whole" qe ["found"]:=by walk_at "d1"
  obtain ⟨_,_,bV⟩:XDf (Kf w.params) mg "_law_pebble" ou ["cell","k"]:=by walk_at "d2"
  obtain ⟨_,_,cU⟩:XDf (Kf w.params) mg "_law_pebbles" jK ["cell","many"]:=by walk_at "d2"
  obtain ⟨_,_,gV⟩:XDf (Kf w.params) mg "_law_river" qg ["xs","cell"]:=by walk_at "d2"
  obtain ⟨_,_,bI⟩:XDf (Kf w.params) mg "_law_walk" uF ["river","start","stop"]:=by walk_at "d3"
  obtain ⟨_,_,bD⟩:XDf (Kf w.params) mg "_law_amount" oE ["x","great"]:=by walk_at "d2"
  obtain ⟨_,_,iU⟩:XDf (Kf w.params) mg "_law_free" uG ["river","springs","roll","takes"]:=by walk_at "d4"
  obtain ⟨_,_,cX⟩:XDf (Kf w.params) mg "_law_is_shown" lC ["river","free","roll","takes","number"]:=by walk_at "d5"
  obtain ⟨_,_,d8⟩:XDf (Kf w.params) mg "_law_dealt" ql ["river","springs","roll","calls"]:=by walk_at "d4"
  obtain ⟨_,_,gW⟩:XDf (Kf w.params) mg "_law_filed" qj ["book","river","rows","xs","great"]:=by walk_at "d5"
  obtain ⟨_,_,jJ⟩:XDf (Kf w.params) mg "_law_run" sX ["book","river","rows","xs","great"]:=by walk_at "d5"
  obtain ⟨_,_,bW⟩:XDf (Kf w.params) mg "_law_closed" oA ["book","river","rows","marks"]:=by walk_at "d4"
  obtain ⟨_,_,iV⟩:XDf (Kf w.params) mg "_law_deed" uH ["book","river","rows","marks","xs","great"]:=by walk_at "d6"
  obtain ⟨_,_,ig,lV⟩:∃ f d,Dm (Kf w.params) 528 "__init__" "Roll.__init__" jk ["self","below"] f d/\ClF (Kf w.params) 528 f "__init__":=My.adb (by walk_at "me") ⟨⟨_,_,_,_,_,_,_,_,_,rfl,by k_is,by k_is⟩,by k_is⟩ (fun F=>My.Qx F (fun _ _ _ _ _ _ _ _=>rfl)) (by walk_at "k") (by walk_at "k") (by walk_at "k");obtain ⟨_,_,aW⟩:XDm (Kf w.params) 618 "roll" "Roll.roll" uJ ["self"]:=by walk_at "m1"
  obtain ⟨_,_,cG⟩:XDm (Kf w.params) 618 "turn" "Roll.turn" uI ["self"]:=by walk_at "m1"
  obtain ⟨_,_,m,FM⟩:∃ f d,Meth (Kf w.params) 618 "file" f/\Tc (Kf w.params) "file" "Roll.file" oF [.none] f d:=⟨_,_,(by walk_at "me"),⟨⟨_,_,_,_,_,_,_,_,_,_,_,_,rfl,by k_is,by k_is,by k_is,rfl⟩,by k_is⟩⟩;have gY:DmD (Kf w.params) 618 "file" "Roll.file" oF ["self","holder","start","most","back"] _ _:=⟨FM,FM.binds (fun _ _ _ _ _ _ _ us hl=>by
   obtain ⟨_,_,_,_,_,rfl⟩:=My.aco (show us.length=5 by simpa using hl);exact ⟨_,rfl,rfl⟩),FM.binds (fun _ _ _ _ _ _ _ us hl=>by
   obtain ⟨_,_,_,_,rfl⟩:=My.abr (show us.length=4 by simpa using hl);exact ⟨_,rfl,rfl⟩),m⟩
  obtain ⟨_,_,gZ⟩:XDm (Kf w.params) 618 "drop" "Roll.drop" uK ["self","number","holder"]:=by walk_at "m3"
  obtain ⟨_,_,d9⟩:XDm (Kf w.params) 618 "lapse" "Roll.lapse" mC ["self","numbers"]:=by walk_at "m2"
  obtain ⟨_,_,eE⟩:XDm (Kf w.params) 618 "enter" "Roll.enter" qp ["self","one","holder"]:=by walk_at "m3"
  obtain ⟨_,_,aZ⟩:XDm (Kf w.params) 618 "look_at_number" "Roll.look_at_number" gA ["self","number"]:=by walk_at "m2"
  obtain ⟨_,_,aK⟩:XDm (Kf w.params) 618 "look_at_holder" "Roll.look_at_holder" gB ["self","number","holder"]:=by walk_at "m3"
  obtain ⟨_,_,bC⟩:XDm (Kf w.params) 618 "look_at_room" "Roll.look_at_room" iK ["self"]:=by walk_at "m1"
  have QF:mg "Roll"=some (.ref 528):=afx KX G (by k_is);obtain ⟨_,_,cj⟩:XDm (Kf w.params) 618 "__init__" "Book.__init__" lD ["self","below"]:=by walk_at "m2"
  obtain ⟨_,_,m,_,FM⟩:∃ f d,Meth (Kf w.params) 618 "pond" f/\∃ t,Tc (Kf w.params) "pond" "Book.pond" oG [.int 0 t] f d:=⟨_,_,(by walk_at "me"),_,⟨⟨_,_,_,_,_,_,_,_,_,_,_,_,rfl,by k_is,by k_is,by k_is,rfl⟩,by k_is⟩⟩;have iu:DmZ (Kf w.params) 618 "pond" "Book.pond" oG ["self","number","holder","room","leak"] _ _:=⟨⟨_,FM,FM.binds (fun _ _ _ _ _ _ _ us hl=>by
   obtain ⟨_,_,_,_,rfl⟩:=My.abr (show us.length=4 by simpa using hl);exact ⟨_,rfl,rfl⟩)⟩,FM.binds (fun _ _ _ _ _ _ _ us hl=>by
   obtain ⟨_,_,_,_,_,rfl⟩:=My.aco (show us.length=5 by simpa using hl);exact ⟨_,rfl,rfl⟩),m⟩
  obtain ⟨_,_,cg⟩:XDm (Kf w.params) 618 "has_pond" "Book.has_pond" jl ["self","number"]:=by walk_at "m2"
  obtain ⟨_,_,m,FM⟩:∃ f d,Meth (Kf w.params) 618 "run" f/\Tc (Kf w.params) "run" "Book.run" sY [.none] f d:=⟨_,_,(by walk_at "me"),⟨⟨_,_,_,_,_,_,_,_,_,_,_,_,rfl,by k_is,by k_is,by k_is,rfl⟩,by k_is⟩⟩;have jc:DmD (Kf w.params) 618 "run" "Book.run" sY ["self","springs","calls","lets"] _ _:=⟨FM,FM.binds (fun _ _ _ _ _ _ _ us hl=>by
   obtain ⟨_,_,_,_,rfl⟩:=My.abr (show us.length=4 by simpa using hl);exact ⟨_,rfl,rfl⟩),FM.binds (fun _ _ _ _ _ _ _ us hl=>by
   obtain ⟨_,_,_,rfl⟩:=My.adf (show us.length=3 by simpa using hl);exact ⟨_,rfl,rfl⟩),m⟩
  obtain ⟨_,_,aQ⟩:XDm (Kf w.params) 618 "look_at_amounts" "Book.look_at_amounts" cZ ["self","amounts","count"]:=by walk_at "m3"
  obtain ⟨_,_,dG⟩:XDm (Kf w.params) 618 "record" "Book.record" kh ["self"]:=by walk_at "m1"
  obtain ⟨_,_,eG⟩:XDm (Kf w.params) 618 "close" "Book.close" mD ["self"]:=by walk_at "m1"
  have fM:Cl (Kf w.params) mg "Book" 618 _ ["below","day","licences","names","done","dug","keeps","ran","last","greatest"]:=My.mkCl cj ⟨by walk_at "k",by walk_at "k",by walk_at "k",by walk_at "k"⟩ (by walk_at "k") (by walk_at "k") (afx KX G (by k_is)) (by simp only [aen,afR,or_false,forall_eq_or_imp,forall_eq];exact ⟨by walk_at "k",by walk_at "k",by walk_at "k",by walk_at "k",by walk_at "k",by walk_at "k",by walk_at "k",by walk_at "k",by walk_at "k",by walk_at "k"⟩);have wL:Eu (Kf w.params) mg "NoRiver" 56:=by walk_at "ec"
  have pB:Eu (Kf w.params) mg "NoLicence" 80:=by walk_at "ec"
  have iY:Eu (Kf w.params) mg "NoNumber" 92:=by walk_at "ec"
  have tK:Eu (Kf w.params) mg "NoHolder" 104:=by walk_at "ec"
  have tH:Eu (Kf w.params) mg "NotYours" 116:=by walk_at "ec"
  have wK:Eu (Kf w.params) mg "TooMuch" 128:=by walk_at "ec"
  have J6:Eu (Kf w.params) mg "Full" 140:=by walk_at "ec"
  have mL:Eu (Kf w.params) mg "NoPond" 152:=by walk_at "ec"
  have Es:Eu (Kf w.params) mg "NoDay" 164:=by walk_at "ec"
  have y0:PySem.W.codeHdIn (Kf w.params) 273 269=true:=by kernel_rfl
  have y1:PySem.W.codeHdIn (Kf w.params) 191 187=true:=by kernel_rfl
  have RB:BC (Kf w.params) 618:=Z8 fM;have RR:RC (Kf w.params) 618:=RB.r;have C:Mth mg:=⟨Pn⟩;have CS:Cst mg:=⟨Pn,Bq⟩;have CNm:CN mg:=⟨Br,Pq⟩;have nd:([(269,cA.1,cA.2),(187,gb.1,gb.2)].map (·.1)).Nodup:=by
   show ([269,187]:List Addr).Nodup;decide
  have hT2:TT2 269 [(269,cA.1,cA.2),(187,gb.1,gb.2)]:=⟨aeu,nd⟩;have hT:TT1 187 [(269,cA.1,cA.2),(187,gb.1,gb.2)]:=⟨aej _ aeu,nd⟩;clear nd;generalize ([(269,cA.1,cA.2),(187,gb.1,gb.2)]:dY)=T at hT hT2 ⊢;have g1:=aaZ (P:=P) (w:=w) (base:=base) fB C;have g2:=Rt (P:=P) (w:=w) (base:=base) cC B CS;have g3:=abf cC g2 jG B CS;have g4:=Ri (P:=P) (w:=w) (base:=base) bN Gx;have g5:=Rp (T:=T) fB bN g4 g1 gO B C K4;have g6:=Zw (P:=P) (w:=w) (base:=base) bY B;have g7:=aa3 (P:=P) (w:=w) (base:=base) bV;have g8:=Zo bV g7 cU B;have g9:=Ro bV g7 gV B;have g10:=Rh (P:=P) (w:=w) (base:=base) gU B;have g11:=Zm (T:=T) fB g1 jU DQ y1 hT hbm B;have g12:=aa4 (T:=T) jU g11 cO B C;have g13:=Rn fB g1 cM C;have g14:=KJ cM g13 gJ;have g15:=Zq (P:=P) (w:=w) (base:=base) dX;have g16:=Rj (T:=T) dX g15 jE B;have g17:=Rr (P:=P) (w:=w) (base:=base) (T:=T) gQ B;have g18:=acY (T:=T) gQ g17 fu B;have g19:=Zt (P:=P) (w:=w) (base:=base) (T:=T) uq;have g20:=ac1 (T:=T) fu uq g18 g19 bM B;have g21:=ac3 (T:=T) uq g19 cW B;have g22:=ac7 (T:=T) bM cW g20 g21 gP B;have g23:=abn (P:=P) (w:=w) (base:=base) cB;have g24:=Nu (T:=T) cB g23 wU Ph y0 hT2 hbm B;have g25:=Ny (T:=T) cB g23 wU g24 iT B;have g26:=Zu (T:=T) cO gJ jE gP iT g12 g16 g25 g14 g22 ur B;have g27:=ac4 (P:=P) (w:=w) (base:=base) (T:=T) gM B;have g28:=abl (P:=P) (w:=w) (base:=base) (T:=T) lZ B Pk;have g29:=Nv (P:=P) (w:=w) (base:=base) (T:=T) iR B C;have g30:=Rq (T:=T) cO cM g13 g12 jH;have g31:=abd (P:=P) (w:=w) (base:=base) fC;have g32:=aa2 (P:=P) (w:=w) (base:=base) gK;have g33:=ac5 (T:=T) fC g31 lX B;have g34:=Zr (T:=T) gM lX g33 g27 cQ B;have g35:=aa5 (T:=T) gK g32 jF B;have g36:=Nx (P:=P) (w:=w) (base:=base) (T:=T) lY B CNm;have g37:=HB (T:=T) lY g36 dI tK;have g38:=Ry (P:=P) (w:=w) (base:=base) (mg:=mg) aW B RR;have g39:=Rw (P:=P) (w:=w) (base:=base) (mg:=mg) (T:=T) (c:=eC) cG RR;have g40:=NK (P:=P) (w:=w) (base:=base) (mg:=mg) eE B RR;have g41:=Rx (P:=P) (w:=w) (base:=base) (mg:=mg) (T:=T) bC B RR J6 Aa;have g42:=HD (P:=P) (w:=w) (base:=base) (mg:=mg) (T:=T) aZ B RR iY;have g43:=HF (T:=T) aZ RR g42 aK B tH;have g44:=acZ (P:=P) (w:=w) (base:=base) dH;have g45:=RG (T:=T) (c:=eC) RR aK dH g43 g44 gZ;have g46:=Nz (T:=T) (c:=eC) bN g4 dX g15 dH g44 d9 B RR iY wK;have g47:=RD (T:=T) (c:=eC) gO dI eE bC RR g37 g5 g41 g40 gY B C pB;have g48:=Rz (T:=T) (c:=eC) jG g3 ig B RR wL;have g49:=RJ (T:=T) (c:=eC) RB ig g48 cj QF lV;have g50:=ac6 (P:=P) (w:=w) (base:=base) cR C;have g51:=abg (P:=P) (w:=w) (base:=base) (mg:=mg) (T:=T) cg B RB;have g52:=Zn (T:=T) (c:=eC) bN g4 RR aK g43 RB cR cg g50 g51 iu B mL Gy Pk;have g53:=Rm (T:=T) cR g50 lW B C;have g54:=Zv (T:=T) ur lZ iR jH cQ jF lW g34 g26 g28 g30 g35 g29 g53 pH B;have g55:=abh (P:=P) (w:=w) (base:=base) (T:=T) fD B;have g56:=abb (T:=T) bN g4 aQ B Es;have g57:=Ru (T:=T) (c:=eC) dX g15 RR d9 RB g46 eG B;have g58:=aa1 (P:=P) (w:=w) (base:=base) (mg:=mg) (T:=T) dG B RB;have g59:=aa0 (T:=T) (c:=eC) cQ aW cG RR RB g34 pH fD aQ g56 g54 g38 g55 g39 jc B;have g60:=ac8 (P:=P) (w:=w) (base:=base) bD;have g61:=ac0 (P:=P) (w:=w) (base:=base) (T:=T) bI;have g62:=abj (T:=T) bI g61 iU B;have g63:=abe (T:=T) bI g61 cX B;have g64:=abm (T:=T) gU ur g26 iU cX g62 g63 g10 d8 B;have g65:=abk (T:=T) (c:=eC) RR gY RB iu bD bI g61 g60 g47 g52 gW B;have g66:=aa6 (T:=T) aW RR RB g38 jc bD g60 g59 jJ B;have g67:=aa8 (T:=T) aW RR RB eG dG g38 d8 g57 g58 g64 bW B;have g68:=aa7 (T:=T) (c:=eC) aW cG RR gZ RB g38 g39 gW jJ bW g65 g66 g45 g67 iV B;exact aa9 bY cU gV cj bW g67 iV g6 g8 g9 g49 g68 adD B fM
