import PyProof.Rows.All
import Wide.All
import OpenK.AllK
import Wide.FinOn
import Lean
import PyProof.EqAt
import PyProof.EqKinds
import PyProof.TupleCall
import KE.KSortTup
import PySem.Challenge.RW_sluice_k69_whole_book_replayed
set_option Elab.async false
set_option linter.all false
set_option maxRecDepth 100000
set_option maxHeartbeats 4000000
local macro_rules | `(tactic| omega) => `(tactic| first | lia | omega (splitDisjunctions := true))
local macro_rules | `(tactic| walk_at "sc") => `(tactic| exact ⟨rfl,rfl,rfl,by decide +kernel,rfl,by decide +kernel,by decide +kernel⟩)
abbrev aeu:=@List.length_map
abbrev af4:=@List.getElem?_eq_some_iff
abbrev af9:=@List.getElem?_eq_getElem
abbrev aga:=@List.map_append
abbrev agb:=@Nat.le_refl
abbrev agc:=@PySem.Heap.get?_push_of_some
abbrev agd:=@List.mem_of_getElem?
abbrev agf:=@List.mem_append_right
abbrev agg:=@List.getElem?_map
abbrev agh:=@List.length_append
abbrev agi:=@Bool.false_ne_true
abbrev agj:=@List.getD_eq_getElem?_getD
abbrev agk:=@PySem.boot_len
abbrev agl:=@PySem.Heap.get?_push_size
abbrev agm:=@Int.toNat_natCast
abbrev agn:=@PySem.F.plainAttrs_list
abbrev ago:=@PySem.F.slot_list_append
abbrev agp:=@PySem.F.type_list_append
abbrev agq:=@List.take_of_length_le
abbrev agr:=@PySem.Heap.lt_size
abbrev ags:=@List.size_toArray
abbrev agt:=@List.length_take
abbrev agu:=@List.mem_cons
abbrev agv:=@List.mem_cons_of_mem
abbrev agw:=@List.mem_append
abbrev agx:=@List.length_cons
abbrev agy:=@PyProof.Rows.boot_list
abbrev agz:=@Option.some.inj
abbrev agA:=@Int.eq_ofNat_of_zero_le
abbrev agB:=@List.mem_cons_self
abbrev agC:=@PySem.PassesOwn.never
abbrev agD:=@Bool.and_eq_true
abbrev agE:=@List.mem_singleton
abbrev agF:=@List.mem_map
abbrev agG:=@List.length_set
abbrev agH:=@List.map_cons
abbrev agI:=@Nat.lt_of_lt_of_le
abbrev agJ:=@PyProof.Rows.callWith_type1
abbrev agK:=@List.mem_range
abbrev agL:=@PySem.mem_of_lookup
abbrev agM:=@Nat.ne_of_lt
abbrev agN:=@Nat.zero_le
abbrev agO:=@List.length_replicate
abbrev agP:=@Int.emod_lt_of_pos
abbrev agQ:=@PySem.Heap.get?_update_other
abbrev agR:=@List.not_mem_nil
abbrev agS:=@Nat.le_trans
abbrev agT:=@List.mem_append_left
abbrev agU:=@List.length_nil
abbrev agV:=@List.map_set
abbrev agW:=@Int.emod_nonneg
abbrev agX:=@List.take_add_one
abbrev agY:=@Array.length_toList
abbrev agZ:=@List.replicate_succ
abbrev ag0:=@List.length_range
abbrev ag1:=@List.sublist_cons_self
abbrev ag2:=@PyProof.Rows.boot_isinstance
abbrev ag3:=@List.all_eq_true
abbrev ag4:=@List.Sublist.append_left
abbrev ag5:=@Classical.not_not
abbrev ag6:=@Bool.eq_iff_iff
abbrev ag7:=@PySem.W.kia_one
abbrev ag8:=@List.getElem?_set_self
abbrev ag9:=@List.length_drop
abbrev aha:=@List.getElem_of_mem
abbrev ahb:=@Nat.lt_irrefl
abbrev ahc:=@List.getElem?_eq_none
abbrev ahd:=@List.getElem_mem
abbrev ahe:=@List.take_length
abbrev ahf:=@List.getElem?_append_right
abbrev ahg:=@PySem.Heap.size_push
abbrev ahh:=@List.nodup_cons
abbrev ahi:=@PySem.Heap.get?_update_self
abbrev ahj:=@PyProof.Rows.boot_all
abbrev ahk:=@PyProof.Rows.boot_sum
abbrev ahl:=@List.flatten_cons
abbrev ahm:=@List.append_nil
abbrev ahn:=@List.length_zipWith
abbrev aho:=@List.take_append_drop
abbrev ahp:=@PySem.Calls.spliced_cons
abbrev ahq:=@Bool.false_eq_true
abbrev ahr:=@List.getElem?_append_left
abbrev ahs:=@List.mem_or_eq_of_mem_set
abbrev aht:=@List.sublist_append_right
abbrev ahu:=@List.getElem?_set_ne
abbrev ahv:=@Option.isSome_iff_exists
abbrev ahw:=@PySem.W.mg_of
abbrev ahx:=@List.mem_map_of_mem
abbrev ahy:=@List.getElem_inj
abbrev ahz:=@PySem.W.callWith_K
abbrev ahA:=@List.set_cons_succ
abbrev ahB:=@PySem.F.slot_tuple_iterator_next
abbrev ahC:=@PySem.F.slot_range_iterator_next
abbrev ahD:=@PySem.Calls.spliced_nil
abbrev ahE:=@PySem.F.plain_min_loop
abbrev ahF:=@List.toList_toArray
abbrev ahG:=@List.getElem?_range
abbrev ahH:=@PySem.Heap.SameBut.update
abbrev ahI:=@List.range_succ
abbrev ahJ:=@List.append_assoc
abbrev ahK:=@List.length_singleton
abbrev ahL:=@Nat.sub_self
abbrev ahM:=@Nat.lt_succ_self
abbrev ahN:=@PySem.Around.under_plainId
abbrev ahO:=@List.getElem?_of_mem
abbrev ahP:=@List.filterMap_cons
abbrev ahQ:=@List.getElem?_zip_eq_some
abbrev ahR:=@PySem.W.KasT.kasWp_bind
abbrev ahS:=@List.pairwise_iff_getElem
abbrev ahT:=@List.map_nil
abbrev ahU:=@List.map_map
abbrev ahV:=@List.nodup_append
abbrev ahW:=@List.any_cons
open PySem.W (fnOf topStub topFrame segRun piecesOf topRun restOf piece_app xlAt recOk kmHook instObj methodObj lookIn plainGet hasDictIn handedIn plainGet_of isFn plainOver takerIn makesIn emptyDict keepIn kitOne kitx_list kitx_dict methodCall_KW codeIn readsIn findCls nsIn XL)
namespace L2
open PySem
def inClass (s:Stmt)(j:Nat):Stmt:=match s with
 | .ClassDef _ _ _ body _ _ _ _ _ _ _=>body.getD j (.Pass ⟨0,0,0,0⟩)
 | _=>.Pass ⟨0,0,0,0⟩
def jl (s:Stmt):Arguments:=match s with
 | .FunctionDef _ a _ _ _ _ _ _ _ _=>a
 | _=>{ posonlyargs:=[],args:=[],vararg:=none,kwonlyargs:=[],kw_defaults:=[],kwarg:=none,defaults:=[] }
def fV (s:Stmt):List Stmt:=match s with
 | .FunctionDef _ _ b _ _ _ _ _ _ _=>b
 | _=>[]
def ao (s:Stmt):Scope:=match s with
 | .FunctionDef _ _ _ _ _ _ sc _ _ _=>sc
 | _=>{ kind:=.function,names:=[],isGenerator:=false,isCoroutine:=false }
end L2
namespace My
open PySem L2
noncomputable section
noncomputable def top0 (i:Nat):Stmt:=PySem.Challenge.pw_sluice_k69_whole_book_replayed.main.body.getD i (.Pass ⟨0,0,0,0⟩)
def inC (i j:Nat):Stmt:=inClass (top0 i) j
noncomputable def en (P:Params)(x:Str)(t:Tok)(v:Value):DictEntry:=⟨PyData.keyHash P x,.str x t,v⟩
noncomputable def er (P:Params)(x:Str)(t:Tok)(r:Nat):DictEntry:=en P x t (.ref r)
noncomputable def eb (P:Params):Nat->List (Str × String)->List DictEntry->List DictEntry
 | _,[],r=>r
 | n,x::l,r=>en P x.1 n (.builtin x.2)::eb P (n+1) l r
noncomputable def et (P:Params):Nat->List (Str × String)->List DictEntry->List DictEntry
 | _,[],r=>r
 | n,x::l,r=>en P x.1 n (.type x.2)::et P (n+1) l r
noncomputable def tq (a:Array Value):Obj:={ cls:=.type "tuple",data:=.seq a }
noncomputable def fc (a:Array Value):Obj:={ cls:=.type "code",data:=.fields a }
noncomputable def cp (n:Nat):Value:=.str "/claim/cut.py" n
noncomputable def ot:Obj:=tq #[]
noncomputable def oe:Obj:={ cls:=.none,data:=.fields #[] }
noncomputable def fl (l:List Value):Obj:={ cls:=.none,data:=.fields ⟨l⟩ }
noncomputable def dO (l:List DictEntry)(n:Nat):Obj:={ cls:=.type "dict",data:=.dict ⟨l⟩ n }
noncomputable def bm (x:String)(v:Value):Obj:={ cls:=.type "builtin_function_or_method",data:=.fields #[.builtin x,v] }
noncomputable def su (a:Nat):Obj:={ cls:=.type "super",data:=.fields #[.ref a,.ref a,.ref a] }
noncomputable def fr (a b:Nat)(v:Value):Obj:={ cls:=.type "frame",slots:=#[some (.ref a),some (.ref 3),some (.ref b),none,some v,none,some (.ref 0)] }
noncomputable def t3:List (Int × Nat)->List Value
 | []=>[]
 | (a,b)::l=>.int a 0:: .int 0 0:: .ref b::t3 l
noncomputable def tv:Nat->List Str->List Value
 | _,[]=>[]
 | n,x::l=>.str x n::tv (n+1) l
def tn (n:Nat)(l:List Str):Obj:=tq ⟨tv n l⟩
def ca (n q:Str)(a:Nat)(l c:Int)(r f:Nat):Obj:=fc #[.str n a,.str q (a+1),cp (a+2),.int l 0,.int c 0,.int 0 0,.int 0 0,.int 3 0,.ref r,.bool true,.int 181 0,.ref (r+1),.none,.ref (r+2),.ref (r+3),.ref (r+4),.int f 0,.int l 0,cp (f+1)]
def cb (n q:Str)(a:Nat)(l c:Int)(r f:Nat):Obj:=fc #[.str n a,.str q (a+1),cp (a+2),.int l 0,.int c 0,.int 0 0,.int 0 0,.int 3 0,.ref r,.bool true,.int 181 0,.ref (r+1),.none,.none,.none,.ref (r+2),.int f 0,.int l 0,cp (f+1)]
def cc (n q:Str)(a:Nat)(l:Int)(r f:Nat):Obj:=fc #[.str n a,.str q (a+1),cp (a+2),.int l 0,.int 0 0,.int 0 0,.int 0 0,.int 0 0,.ref r,.bool false,.int 181 0,.ref (r+1),.none,.none,.none,.none,.int f 0,.int l 0,cp (f+1)]
noncomputable def po (x q:Str)(s:Stmt):Obj:={ cls:=.none,data:=.func { name:=x,qualname:=q,params:=jl s,body:=.stmts (fV s),scope:=ao s,globals:=0,closure:=[],defaults:=.none,kwdefaults:=.none } }
noncomputable def fd (x q:Str)(s:Stmt)(m:Value)(c:Nat)(v:Value):Obj:=⟨.type "function",none,.func (fnOf x q (jl s) (fV s) (ao s) v .none .none m none (.ref c) .none),#[]⟩
def fo (x q:Str)(s:Stmt)(m:Value)(c:Nat):Obj:=fd x q s m c .none
noncomputable def mv0:Value:=.str "__main__" 164
noncomputable def mv1:Value:=.str "sluice.licences" 499
noncomputable def mv2:Value:=.str "sluice.turns" 829
noncomputable def mv3:Value:=.str "sluice.books" 1050
noncomputable def mv4:Value:=.str "law_sluice_k69_whole_book_replayed" 1174
noncomputable def mv5:Value:=.str "sluice.bounds" 194
noncomputable def mv6:Value:=.str "sluice.errors" 215
noncomputable def mv7:Value:=.str "sluice.rivers" 443
noncomputable def mv8:Value:=.str "sluice.rolls" 594
noncomputable def mv9:Value:=.str "sluice.deeds" 782
noncomputable def afO:Value:=.str "sluice.flows" 803
noncomputable def mv11:Value:=.str "sluice.dealing" 882
noncomputable def adp:Value:=.str "sluice.ponds" 890
noncomputable def aep:Value:=.str "sluice.days" 969
noncomputable def afN:Value:=.str "sluice.moves" 1016
def Vt (P:Params):List DictEntry:=[en P "__doc__" 166 .none,en P "__package__" 167 .none,en P "__loader__" 168 (.builtin "__main__.__loader__#opaque"),en P "__spec__" 169 .none,er P "__annotations__" 170 6,er P "__builtins__" 171 4,en P "__file__" 173 (.str "/claim/cut.py" 172),en P "__cached__" 174 .none]
def ad7 (P:Params):List DictEntry:=Vt P++[er P "_wall" 193 21,en P "MOST_WATER" 197 (.int 1000000000000 196),en P "LONGEST_NAME" 199 (.int 8 198),en P "LETTERS" 201 (.str "abcdefghijklmnopqrstuvwxyz" 200),er P "is_water" 208 28,er P "is_name" 214 33,er P "SluiceError" 234 43,er P "NoRiver" 250 56,er P "NoReach" 266 68,er P "NoLicence" 282 80,er P "NoNumber" 298 92,er P "NoHolder" 314 104,er P "NotYours" 330 116,er P "NotAlone" 346 128,er P "TooMuch" 362 140,er P "Full" 378 152,er P "NoPond" 394 164,er P "NoDay" 410 176,er P "Fixed" 426 188,er P "Harms" 442 200,en P "MOST_REACHES" 446 (.int 40 445),en P "MOUTH" 449 (.int (-1) 448),er P "comes_to_mouth" 459 209,er P "is_river" 465 214,er P "way_of" 474 221,er P "tops_first" 482 228,er P "mouths_of" 488 233,er P "stretch_of" 498 240,en P "LAST_DAY" 502 (.int 1000000 501),er P "is_licence" 514 247,er P "reaches_of" 526 254,er P "day_filed" 533 261,er P "start_of" 540 268,er P "gives_back" 547 275,er P "most_of" 554 282,er P "with_start" 562 289,er P "with_most" 570 296]
def ad6 (P:Params):List DictEntry:=ad7 P++[er P "ranked" 578 303,er P "groups_of" 587 310,er P "wants_of" 593 315,en P "MOST_LICENCES" 597 (.int 60 596),er P "look_at_name" 604 322,er P "Roll" 781 455,er P "do_anew" 792 466,er P "replayed" 802 473,er P "natural_of" 814 480,er P "flows_of" 828 487,er P "count_ways" 841 494,er P "whole_turns" 847 499]
def ad5 (P:Params):List DictEntry:=ad6 P++[er P "draw" 857 506,er P "take_whole_turns" 863 511,er P "take_one_turn" 869 516,er P "deal_turns" 881 523,er P "deal" 889 528,en P "WHOLE" 893 (.int 1000 892),er P "pond_start" 904 535,er P "look_at_let" 918 542,er P "let_out" 934 549,er P "pond_calls" 950 556,er P "evening" 968 563,er P "morning_of" 983 570,er P "moves_of" 1003 577,er P "used_of" 1009 582,er P "day_of" 1015 587,er P "moved" 1027 594,er P "harm_of" 1049 601,en P "MOST_PONDS" 1053 (.int 10 1052),er P "greatest_of" 1059 606]
def afz (P:Params):List DictEntry:=ad5 P++[er P "Book" 1173 687,er P "_law_cell_at" 1183 696,er P "_law_pebble" 1192 703,er P "_law_pebbles" 1198 708,er P "_law_river" 1212 715,er P "_law_amount" 1220 722,er P "_law_name" 1228 729,er P "_law_old_deed" 1234 734,er P "_law_deed" 1240 739,er P "_law_no_book" 1249 746,er P "_law_same" 1258 753,er P "law" 1274 760]
def aaM:List Value:=t3 []
def aaL:List Value:=t3 [(1,20),(8,27),(10,32),(13,39),(15,52),(17,64),(19,76),(21,88),(23,100),(25,112),(27,124),(29,136),(31,148),(33,160),(35,172),(37,184),(39,196),(44,208),(51,213),(57,220),(62,227),(64,232),(66,239),(75,246),(80,253),(83,260),(85,267),(87,274),(89,281),(91,288),(93,295)]
def aaK:List Value:=aaL++t3 [(95,302),(97,309),(102,314),(106,321),(109,328),(219,465),(235,472),(241,479),(247,486),(254,493),(260,498)]
def aaJ:List Value:=aaK++t3 [(264,505),(267,510),(273,515),(281,522),(290,527),(302,534),(305,541),(313,548),(320,555),(326,562),(337,569),(340,576),(348,581),(352,586),(361,593),(365,600),(378,605)]
def ad4:List Value:=aaJ++t3 [(381,612),(448,695),(452,702),(455,707),(457,714),(476,721),(480,728),(483,733),(499,738),(517,745),(524,752),(534,759)]
def afX:Obj:={ cls:=.none,data:=Data.dict #[] }
def Xy (P:Params):Obj:=dO (en P "__name__" 165 mv4::afz P) 89
def ad1:Obj:=ca "_wall" "_wall" 187 1 1 15 191
def ad0:Obj:=fo "_wall" "_wall" (top0 0) mv0 20
def adZ:Obj:=ca "is_water" "is_water" 202 8 1 22 206
def adY:Obj:=fo "is_water" "is_water" (top0 5) mv5 27
def adX:Obj:=cb "is_name" "is_name" 209 10 1 29 212
def adW:Obj:=fo "is_name" "is_name" (top0 6) mv5 32
def adV (P:Params):Obj:=dO [en P "__module__" 224 mv6,en P "__firstlineno__" 228 (.int 13 227),er P "__static_attributes__" 229 41,er P "__weakref__" 231 44,en P "__doc__" 232 .none] 3
def adU:Obj:={ cls:=.type "type",data:=Data.cls { name:="SluiceError",bases:=[.type "ValueError"],mro:=[.ref 43,.type "ValueError",.type "Exception",.type "BaseException",.type "object"],ns:=42,qualname:="SluiceError",subclasses:=[.ref 56,.ref 68,.ref 80,.ref 92,.ref 104,.ref 116,.ref 128,.ref 140,.ref 152,.ref 164,.ref 176,.ref 188,.ref 200] },slots:=#[some (.ref 34),none,some (.str "SluiceError" 217),some (.str "SluiceError" 225),some (.builtin "ValueError.__new__"),some (.bool true)] }
def adT:Obj:={ cls:=.type "getset_descriptor",data:=Data.fields #[.str "__weakref__" 230,.ref 43,.builtin "ExceptionGroup.__weakref__",.none] }
def adS (P:Params):Obj:=dO [en P "__module__" 242 mv6,en P "__firstlineno__" 246 (.int 15 245),er P "__static_attributes__" 247 54,en P "__doc__" 248 .none] 2
def adR:Obj:={ cls:=.type "type",data:=Data.cls { name:="NoRiver",bases:=[.ref 43],mro:=[.ref 56,.ref 43,.type "ValueError",.type "Exception",.type "BaseException",.type "object"],ns:=55,qualname:="NoRiver" },slots:=#[some (.ref 47),none,some (.str "NoRiver" 235),some (.str "NoRiver" 243),some (.builtin "ValueError.__new__"),some (.bool true)] }
def adQ (P:Params):Obj:=dO [en P "__module__" 258 mv6,en P "__firstlineno__" 262 (.int 17 261),er P "__static_attributes__" 263 66,en P "__doc__" 264 .none] 2
def adP:Obj:={ cls:=.type "type",data:=Data.cls { name:="NoReach",bases:=[.ref 43],mro:=[.ref 68,.ref 43,.type "ValueError",.type "Exception",.type "BaseException",.type "object"],ns:=67,qualname:="NoReach" },slots:=#[some (.ref 59),none,some (.str "NoReach" 251),some (.str "NoReach" 259),some (.builtin "ValueError.__new__"),some (.bool true)] }
def adO (P:Params):Obj:=dO [en P "__module__" 274 mv6,en P "__firstlineno__" 278 (.int 19 277),er P "__static_attributes__" 279 78,en P "__doc__" 280 .none] 2
def adN:Obj:={ cls:=.type "type",data:=Data.cls { name:="NoLicence",bases:=[.ref 43],mro:=[.ref 80,.ref 43,.type "ValueError",.type "Exception",.type "BaseException",.type "object"],ns:=79,qualname:="NoLicence" },slots:=#[some (.ref 71),none,some (.str "NoLicence" 267),some (.str "NoLicence" 275),some (.builtin "ValueError.__new__"),some (.bool true)] }
def adM (P:Params):Obj:=dO [en P "__module__" 290 mv6,en P "__firstlineno__" 294 (.int 21 293),er P "__static_attributes__" 295 90,en P "__doc__" 296 .none] 2
def adL:Obj:={ cls:=.type "type",data:=Data.cls { name:="NoNumber",bases:=[.ref 43],mro:=[.ref 92,.ref 43,.type "ValueError",.type "Exception",.type "BaseException",.type "object"],ns:=91,qualname:="NoNumber" },slots:=#[some (.ref 83),none,some (.str "NoNumber" 283),some (.str "NoNumber" 291),some (.builtin "ValueError.__new__"),some (.bool true)] }
def aaG (P:Params):Obj:=dO [en P "__module__" 306 mv6,en P "__firstlineno__" 310 (.int 23 309),er P "__static_attributes__" 311 102,en P "__doc__" 312 .none] 2
def aaF:Obj:={ cls:=.type "type",data:=Data.cls { name:="NoHolder",bases:=[.ref 43],mro:=[.ref 104,.ref 43,.type "ValueError",.type "Exception",.type "BaseException",.type "object"],ns:=103,qualname:="NoHolder" },slots:=#[some (.ref 95),none,some (.str "NoHolder" 299),some (.str "NoHolder" 307),some (.builtin "ValueError.__new__"),some (.bool true)] }
def aaE (P:Params):Obj:=dO [en P "__module__" 322 mv6,en P "__firstlineno__" 326 (.int 25 325),er P "__static_attributes__" 327 114,en P "__doc__" 328 .none] 2
def aaD:Obj:={ cls:=.type "type",data:=Data.cls { name:="NotYours",bases:=[.ref 43],mro:=[.ref 116,.ref 43,.type "ValueError",.type "Exception",.type "BaseException",.type "object"],ns:=115,qualname:="NotYours" },slots:=#[some (.ref 107),none,some (.str "NotYours" 315),some (.str "NotYours" 323),some (.builtin "ValueError.__new__"),some (.bool true)] }
def aaC (P:Params):Obj:=dO [en P "__module__" 338 mv6,en P "__firstlineno__" 342 (.int 27 341),er P "__static_attributes__" 343 126,en P "__doc__" 344 .none] 2
def aaB:Obj:={ cls:=.type "type",data:=Data.cls { name:="NotAlone",bases:=[.ref 43],mro:=[.ref 128,.ref 43,.type "ValueError",.type "Exception",.type "BaseException",.type "object"],ns:=127,qualname:="NotAlone" },slots:=#[some (.ref 119),none,some (.str "NotAlone" 331),some (.str "NotAlone" 339),some (.builtin "ValueError.__new__"),some (.bool true)] }
def aaA (P:Params):Obj:=dO [en P "__module__" 354 mv6,en P "__firstlineno__" 358 (.int 29 357),er P "__static_attributes__" 359 138,en P "__doc__" 360 .none] 2
def aaz:Obj:={ cls:=.type "type",data:=Data.cls { name:="TooMuch",bases:=[.ref 43],mro:=[.ref 140,.ref 43,.type "ValueError",.type "Exception",.type "BaseException",.type "object"],ns:=139,qualname:="TooMuch" },slots:=#[some (.ref 131),none,some (.str "TooMuch" 347),some (.str "TooMuch" 355),some (.builtin "ValueError.__new__"),some (.bool true)] }
def aay (P:Params):Obj:=dO [en P "__module__" 370 mv6,en P "__firstlineno__" 374 (.int 31 373),er P "__static_attributes__" 375 150,en P "__doc__" 376 .none] 2
def aax:Obj:={ cls:=.type "type",data:=Data.cls { name:="Full",bases:=[.ref 43],mro:=[.ref 152,.ref 43,.type "ValueError",.type "Exception",.type "BaseException",.type "object"],ns:=151,qualname:="Full" },slots:=#[some (.ref 143),none,some (.str "Full" 363),some (.str "Full" 371),some (.builtin "ValueError.__new__"),some (.bool true)] }
def aaw (P:Params):Obj:=dO [en P "__module__" 386 mv6,en P "__firstlineno__" 390 (.int 33 389),er P "__static_attributes__" 391 162,en P "__doc__" 392 .none] 2
def aav:Obj:={ cls:=.type "type",data:=Data.cls { name:="NoPond",bases:=[.ref 43],mro:=[.ref 164,.ref 43,.type "ValueError",.type "Exception",.type "BaseException",.type "object"],ns:=163,qualname:="NoPond" },slots:=#[some (.ref 155),none,some (.str "NoPond" 379),some (.str "NoPond" 387),some (.builtin "ValueError.__new__"),some (.bool true)] }
def aau (P:Params):Obj:=dO [en P "__module__" 402 mv6,en P "__firstlineno__" 406 (.int 35 405),er P "__static_attributes__" 407 174,en P "__doc__" 408 .none] 2
def aat:Obj:={ cls:=.type "type",data:=Data.cls { name:="NoDay",bases:=[.ref 43],mro:=[.ref 176,.ref 43,.type "ValueError",.type "Exception",.type "BaseException",.type "object"],ns:=175,qualname:="NoDay" },slots:=#[some (.ref 167),none,some (.str "NoDay" 395),some (.str "NoDay" 403),some (.builtin "ValueError.__new__"),some (.bool true)] }
def aas (P:Params):Obj:=dO [en P "__module__" 418 mv6,en P "__firstlineno__" 422 (.int 37 421),er P "__static_attributes__" 423 186,en P "__doc__" 424 .none] 2
def aar:Obj:={ cls:=.type "type",data:=Data.cls { name:="Fixed",bases:=[.ref 43],mro:=[.ref 188,.ref 43,.type "ValueError",.type "Exception",.type "BaseException",.type "object"],ns:=187,qualname:="Fixed" },slots:=#[some (.ref 179),none,some (.str "Fixed" 411),some (.str "Fixed" 419),some (.builtin "ValueError.__new__"),some (.bool true)] }
def aaq (P:Params):Obj:=dO [en P "__module__" 434 mv6,en P "__firstlineno__" 438 (.int 39 437),er P "__static_attributes__" 439 198,en P "__doc__" 440 .none] 2
def aap:Obj:={ cls:=.type "type",data:=Data.cls { name:="Harms",bases:=[.ref 43],mro:=[.ref 200,.ref 43,.type "ValueError",.type "Exception",.type "BaseException",.type "object"],ns:=199,qualname:="Harms" },slots:=#[some (.ref 191),none,some (.str "Harms" 427),some (.str "Harms" 435),some (.builtin "ValueError.__new__"),some (.bool true)] }
def aao:Obj:=ca "comes_to_mouth" "comes_to_mouth" 450 44 2 203 457
def aan:Obj:=fo "comes_to_mouth" "comes_to_mouth" (top0 25) mv7 208
def aam:Obj:=cb "is_river" "is_river" 460 51 1 210 463
def aal:Obj:=fo "is_river" "is_river" (top0 26) mv7 213
def aak:Obj:=ca "way_of" "way_of" 466 57 2 215 472
def aaj:Obj:=fo "way_of" "way_of" (top0 27) mv7 220
def aai:Obj:=ca "tops_first" "tops_first" 475 62 1 222 480
def aah:Obj:=fo "tops_first" "tops_first" (top0 28) mv7 227
def aag:Obj:=cb "mouths_of" "mouths_of" 483 64 1 229 486
def aaf:Obj:=fo "mouths_of" "mouths_of" (top0 29) mv7 232
def aae:Obj:=ca "stretch_of" "stretch_of" 489 66 3 234 496
def aad:Obj:=fo "stretch_of" "stretch_of" (top0 30) mv7 239
def aac:Obj:=ca "is_licence" "is_licence" 503 75 2 241 512
def Z9:Obj:=fo "is_licence" "is_licence" (top0 33) mv1 246
def Z8:Obj:=ca "reaches_of" "reaches_of" 515 80 2 248 524
def Z7:Obj:=fo "reaches_of" "reaches_of" (top0 34) mv1 253
def Z6:Obj:=ca "day_filed" "day_filed" 527 83 1 255 531
def Z5:Obj:=fo "day_filed" "day_filed" (top0 35) mv1 260
def Z4:Obj:=ca "start_of" "start_of" 534 85 1 262 538
def Z2:Obj:=fo "start_of" "start_of" (top0 36) mv1 267
def Z1:Obj:=ca "gives_back" "gives_back" 541 87 1 269 545
def Z0:Obj:=fo "gives_back" "gives_back" (top0 37) mv1 274
def ZX:Obj:=ca "most_of" "most_of" 548 89 1 276 552
def ZW:Obj:=fo "most_of" "most_of" (top0 38) mv1 281
def ZV:Obj:=ca "with_start" "with_start" 555 91 2 283 560
def ZS:Obj:=fo "with_start" "with_start" (top0 39) mv1 288
def ZR:Obj:=ca "with_most" "with_most" 563 93 2 290 568
def ZQ:Obj:=fo "with_most" "with_most" (top0 40) mv1 295
def ZP:Obj:=ca "ranked" "ranked" 571 95 1 297 576
def ZM:Obj:=fo "ranked" "ranked" (top0 41) mv1 302
def ZL:Obj:=ca "groups_of" "groups_of" 579 97 1 304 585
def ZK:Obj:=fo "groups_of" "groups_of" (top0 42) mv1 309
def ZJ:Obj:=cb "wants_of" "wants_of" 588 102 2 311 591
def ZG:Obj:=fo "wants_of" "wants_of" (top0 43) mv1 314
def ZF:Obj:=ca "look_at_name" "look_at_name" 598 106 1 316 602
def ZD:Obj:=fo "look_at_name" "look_at_name" (top0 46) mv8 321
def ZC:Obj:=ca "__init__" "Roll.__init__" 617 111 2 330 622
def Zz:Obj:=fo "__init__" "Roll.__init__" (inC 47 0) mv8 335
def Zy:Obj:=ca "today" "Roll.today" 625 120 1 337 629
def Zx:Obj:=fo "today" "Roll.today" (inC 47 1) mv8 342
def Zw:Obj:=ca "roll" "Roll.roll" 632 123 1 344 636
def Zv:Obj:=fo "roll" "Roll.roll" (inC 47 2) mv8 349
def Zu:Obj:=ca "holders" "Roll.holders" 639 126 1 351 643
def Zt:Obj:=fo "holders" "Roll.holders" (inC 47 3) mv8 356
def Zr:Obj:=ca "deeds" "Roll.deeds" 646 129 1 358 650
def Zq:Obj:=fo "deeds" "Roll.deeds" (inC 47 4) mv8 363
def Zo:Obj:=ca "turn" "Roll.turn" 653 132 1 365 657
def Zn:Obj:=fo "turn" "Roll.turn" (inC 47 5) mv8 370
def Zm:Obj:=tq #[.none]
def Zk:Obj:=ca "file" "Roll.file" 660 136 5 373 670
def Zj:Obj:=fd "file" "Roll.file" (inC 47 6) mv8 378 (.ref 372)
def Zi:Obj:=ca "sell" "Roll.sell" 673 146 4 380 680
def Zh:Obj:=fo "sell" "Roll.sell" (inC 47 7) mv8 385
def Zg:Obj:=ca "part" "Roll.part" 683 152 5 387 692
def Zf:Obj:=fo "part" "Roll.part" (inC 47 8) mv8 392
def Ze:Obj:=ca "drop" "Roll.drop" 695 165 3 394 701
def Zd:Obj:=fo "drop" "Roll.drop" (inC 47 9) mv8 399
def Zc:Obj:=ca "move" "Roll.move" 704 170 4 401 712
def Zb:Obj:=fo "move" "Roll.move" (inC 47 10) mv8 406
def Za:Obj:=ca "look_move" "Roll.look_move" 715 179 3 408 721
def Y9:Obj:=fo "look_move" "Roll.look_move" (inC 47 11) mv8 413
def Y8:Obj:=cb "lapse" "Roll.lapse" 724 182 2 415 727
def Y7:Obj:=fo "lapse" "Roll.lapse" (inC 47 12) mv8 418
def Y6:Obj:=ca "enter" "Roll.enter" 730 196 3 420 736
def Y5:Obj:=fo "enter" "Roll.enter" (inC 47 13) mv8 425
def Y4:Obj:=cb "is_alone" "Roll.is_alone" 739 201 2 427 742
def Y0:Obj:=fo "is_alone" "Roll.is_alone" (inC 47 14) mv8 430
def YZ:Obj:=ca "look_at_number" "Roll.look_at_number" 745 206 2 432 750
def YX:Obj:=fo "look_at_number" "Roll.look_at_number" (inC 47 15) mv8 437
def YW:Obj:=ca "look_at_holder" "Roll.look_at_holder" 753 210 3 439 759
def YT:Obj:=fo "look_at_holder" "Roll.look_at_holder" (inC 47 16) mv8 444
def YS:Obj:=ca "look_at_room" "Roll.look_at_room" 762 215 1 446 766
def YQ:Obj:=fo "look_at_room" "Roll.look_at_room" (inC 47 17) mv8 451
def YM (P:Params):Obj:=dO [en P "__module__" 612 mv8,en P "__firstlineno__" 616 (.int 109 615),er P "__init__" 624 336,er P "today" 631 343,er P "roll" 638 350,er P "holders" 645 357,er P "deeds" 652 364,er P "turn" 659 371,er P "file" 672 379,er P "sell" 682 386,er P "part" 694 393,er P "drop" 703 400,er P "move" 714 407,er P "look_move" 723 414,er P "lapse" 729 419,er P "enter" 738 426,er P "is_alone" 744 431,er P "look_at_number" 752 438,er P "look_at_holder" 761 445,er P "look_at_room" 768 452,er P "__static_attributes__" 774 453,er P "__dict__" 776 456,er P "__weakref__" 778 457,en P "__doc__" 779 .none] 4
def Xx:Obj:={ cls:=.type "type",data:=Data.cls { name:="Roll",bases:=[.type "object"],mro:=[.ref 455,.type "object"],ns:=454,qualname:="Roll",subclasses:=[.ref 687] },slots:=#[none,none,some (.str "Roll" 605),some (.str "Roll" 613),some (.builtin "object.__new__"),some (.bool true)] }
def YL:Obj:={ cls:=.type "getset_descriptor",data:=Data.fields #[.str "__dict__" 775,.ref 455,.builtin "function.__dict__",.builtin "function.__dict__#set"] }
def YK:Obj:={ cls:=.type "getset_descriptor",data:=Data.fields #[.str "__weakref__" 777,.ref 455,.builtin "ExceptionGroup.__weakref__",.none] }
def YJ:Obj:=ca "do_anew" "do_anew" 784 219 2 460 790
def YH:Obj:=fo "do_anew" "do_anew" (top0 49) mv9 465
def YG:Obj:=ca "replayed" "replayed" 793 235 2 467 800
def YF:Obj:=fo "replayed" "replayed" (top0 50) mv9 472
def YD:Obj:=ca "natural_of" "natural_of" 805 241 2 474 812
def YC:Obj:=fo "natural_of" "natural_of" (top0 52) afO 479
def YB:Obj:=ca "flows_of" "flows_of" 815 247 3 481 826
def Yz:Obj:=fo "flows_of" "flows_of" (top0 53) afO 486
def Yy:Obj:=ca "count_ways" "count_ways" 831 254 2 488 839
def Yx:Obj:=fo "count_ways" "count_ways" (top0 55) mv2 493
def Yw:Obj:=cb "whole_turns" "whole_turns" 842 260 3 495 845
def Yv:Obj:=fo "whole_turns" "whole_turns" (top0 56) mv2 498
def Yu:Obj:=ca "draw" "draw" 848 264 3 500 855
def Yt:Obj:=fo "draw" "draw" (top0 57) mv2 505
def Ys:Obj:=cb "take_whole_turns" "take_whole_turns" 858 267 5 507 861
def Yr:Obj:=fo "take_whole_turns" "take_whole_turns" (top0 58) mv2 510
def Yq:Obj:=cb "take_one_turn" "take_one_turn" 864 273 5 512 867
def Yp:Obj:=fo "take_one_turn" "take_one_turn" (top0 59) mv2 515
def Yo:Obj:=ca "deal_turns" "deal_turns" 870 281 3 517 879
def Yn:Obj:=fo "deal_turns" "deal_turns" (top0 60) mv2 522
def Ym:Obj:=cb "deal" "deal" 884 290 4 524 887
def Yl:Obj:=fo "deal" "deal" (top0 62) mv11 527
def Yk:Obj:=ca "pond_start" "pond_start" 894 302 2 529 902
def Yj:Obj:=fo "pond_start" "pond_start" (top0 65) adp 534
def Yi:Obj:=ca "look_at_let" "look_at_let" 905 305 5 536 916
def Yh:Obj:=fo "look_at_let" "look_at_let" (top0 66) adp 541
def Yg:Obj:=ca "let_out" "let_out" 919 313 5 543 932
def Ye:Obj:=fo "let_out" "let_out" (top0 67) adp 548
def Yd:Obj:=ca "pond_calls" "pond_calls" 935 320 4 550 948
def Yc:Obj:=fo "pond_calls" "pond_calls" (top0 68) adp 555
def Yb:Obj:=ca "evening" "evening" 951 326 3 557 966
def X8:Obj:=fo "evening" "evening" (top0 69) adp 562
def X7:Obj:=ca "morning_of" "morning_of" 971 337 6 564 981
def X6:Obj:=fo "morning_of" "morning_of" (top0 71) aep 569
def X5:Obj:=ca "moves_of" "moves_of" 984 340 4 571 1001
def X4:Obj:=fo "moves_of" "moves_of" (top0 72) aep 576
def X3:Obj:=cb "used_of" "used_of" 1004 348 4 578 1007
def XR:Obj:=fo "used_of" "used_of" (top0 73) aep 581
def XQ:Obj:=cb "day_of" "day_of" 1010 352 7 583 1013
def XM:Obj:=fo "day_of" "day_of" (top0 74) aep 586
def XJ:Obj:=ca "moved" "moved" 1018 361 3 588 1025
def XH:Obj:=fo "moved" "moved" (top0 76) afN 593
def XF:Obj:=ca "harm_of" "harm_of" 1028 365 5 595 1047
def XD:Obj:=fo "harm_of" "harm_of" (top0 77) afN 600
def XC:Obj:=cb "greatest_of" "greatest_of" 1054 378 2 602 1057
def Xz:Obj:=fo "greatest_of" "greatest_of" (top0 80) mv3 605
def Xw:Obj:=ca "__init__" "Book.__init__" 1072 383 2 614 1077
def Xv:Obj:=fo "__init__" "Book.__init__" (inC 81 0) mv3 619
def Xu:Obj:=tq #[.int 0 1080]
def Xr:Obj:=ca "pond" "Book.pond" 1081 391 5 622 1089
def Xq:Obj:=fd "pond" "Book.pond" (inC 81 1) mv3 627 (.ref 621)
def Xp:Obj:=ca "ponds" "Book.ponds" 1092 403 1 629 1096
def Xo:Obj:=fo "ponds" "Book.ponds" (inC 81 2) mv3 634
def Xn:Obj:=ca "kept" "Book.kept" 1099 406 1 636 1103
def Xm:Obj:=fo "kept" "Book.kept" (inC 81 3) mv3 641
def Xl:Obj:=cb "has_pond" "Book.has_pond" 1106 409 2 643 1109
def Xk:Obj:=fo "has_pond" "Book.has_pond" (inC 81 4) mv3 646
def Xj:Obj:=tq #[.none]
def Xi:Obj:=ca "run" "Book.run" 1112 412 4 649 1127
def Xh:Obj:=fd "run" "Book.run" (inC 81 5) mv3 654 (.ref 648)
def Xg:Obj:=cb "look_at_amounts" "Book.look_at_amounts" 1130 426 3 656 1133
def Xf:Obj:=fo "look_at_amounts" "Book.look_at_amounts" (inC 81 6) mv3 659
def Xe:Obj:=cb "record" "Book.record" 1136 430 1 661 1139
def Xd:Obj:=fo "record" "Book.record" (inC 81 7) mv3 664
def Xc:Obj:=ca "why" "Book.why" 1142 433 2 666 1147
def Xb:Obj:=fo "why" "Book.why" (inC 81 8) mv3 671
def Xa:Obj:=ca "look_move" "Book.look_move" 1150 436 3 673 1156
def W9:Obj:=fo "look_move" "Book.look_move" (inC 81 9) mv3 678
def W8:Obj:=cb "close" "Book.close" 1159 442 1 680 1162
def W7:Obj:=fo "close" "Book.close" (inC 81 10) mv3 683
def W6 (P:Params):Obj:=dO [en P "__module__" 1067 mv3,en P "__firstlineno__" 1071 (.int 381 1070),er P "__init__" 1079 620,er P "pond" 1091 628,er P "ponds" 1098 635,er P "kept" 1105 642,er P "has_pond" 1111 647,er P "run" 1129 655,er P "look_at_amounts" 1135 660,er P "record" 1141 665,er P "why" 1149 672,er P "look_move" 1158 679,er P "close" 1164 684,er P "__static_attributes__" 1170 685,en P "__doc__" 1171 .none] 2
def W5:Obj:={ cls:=.type "type",data:=Data.cls { name:="Book",bases:=[.ref 455],mro:=[.ref 687,.ref 455,.type "object"],ns:=686,qualname:="Book" },slots:=#[some (.ref 607),none,some (.str "Book" 1060),some (.str "Book" 1068),some (.builtin "object.__new__"),some (.bool true)] }
def W4:Obj:=ca "_law_cell_at" "_law_cell_at" 1176 448 2 690 1181
def W3:Obj:=fo "_law_cell_at" "_law_cell_at" (top0 83) mv4 695
def W2:Obj:=ca "_law_pebble" "_law_pebble" 1184 452 2 697 1190
def W0:Obj:=fo "_law_pebble" "_law_pebble" (top0 84) mv4 702
def WY:Obj:=cb "_law_pebbles" "_law_pebbles" 1193 455 2 704 1196
def WX:Obj:=fo "_law_pebbles" "_law_pebbles" (top0 85) mv4 707
def WW:Obj:=ca "_law_river" "_law_river" 1199 457 2 709 1210
def WR:Obj:=fo "_law_river" "_law_river" (top0 86) mv4 714
def WQ:Obj:=ca "_law_amount" "_law_amount" 1213 476 2 716 1218
def WM:Obj:=fo "_law_amount" "_law_amount" (top0 87) mv4 721
def WL:Obj:=ca "_law_name" "_law_name" 1221 480 1 723 1226
def WK:Obj:=fo "_law_name" "_law_name" (top0 88) mv4 728
def WD:Obj:=cb "_law_old_deed" "_law_old_deed" 1229 483 5 730 1232
def Wz:Obj:=fo "_law_old_deed" "_law_old_deed" (top0 89) mv4 733
def Wy:Obj:=cb "_law_deed" "_law_deed" 1235 499 4 735 1238
def Wx:Obj:=fo "_law_deed" "_law_deed" (top0 90) mv4 738
def Ww:Obj:=ca "_law_no_book" "_law_no_book" 1241 517 1 740 1247
def Wv:Obj:=fo "_law_no_book" "_law_no_book" (top0 91) mv4 745
def Wu:Obj:=ca "_law_same" "_law_same" 1250 524 2 747 1256
def Wt:Obj:=fo "_law_same" "_law_same" (top0 92) mv4 752
def Ws:Obj:=ca "law" "law" 1259 534 1 754 1272
def Wr:Obj:=fo "law" "law" (top0 93) mv4 759
def sg0 (P:Params):List Obj:=(dO (en P "__name__" 1 (.str "builtins" 160)::(eb P 2 [("__doc__","builtins.__doc__:str#opaque"),("__package__","builtins.__package__:str#opaque"),("__loader__","builtins.__loader__:shared#opaque"),("__spec__","builtins.__spec__#opaque"),("__build_class__","__build_class__"),("__import__","__import__"),("abs","abs"),("all","all"),("any","any"),("ascii","ascii"),("bin","bin"),("breakpoint","breakpoint"),("callable","callable"),("chr","chr"),("compile","compile"),("delattr","delattr"),("dir","dir"),("divmod","divmod"),("eval","eval"),("exec","exec"),("format","format"),("getattr","getattr"),("globals","globals"),("hasattr","hasattr"),("hash","hash"),("hex","hex"),("id","id"),("input","input"),("isinstance","isinstance"),("issubclass","issubclass"),("iter","iter"),("aiter","aiter")] (eb P 34 [("len","len"),("locals","locals"),("max","max"),("min","min"),("next","next"),("anext","anext"),("oct","oct"),("ord","ord"),("pow","pow"),("print","print"),("repr","repr"),("round","round"),("setattr","setattr"),("sorted","sorted"),("sum","sum"),("vars","vars")] (en P "None" 50 .none::en P "Ellipsis" 51 .ellipsis::en P "NotImplemented" 52 .notImplemented::en P "False" 53 (.bool false)::en P "True" 54 (.bool true)::(et P 55 [("bool","bool"),("memoryview","memoryview"),("bytearray","bytearray"),("bytes","bytes"),("classmethod","classmethod"),("complex","complex"),("dict","dict"),("enumerate","enumerate"),("filter","filter"),("float","float"),("frozenset","frozenset"),("property","property"),("int","int"),("list","list"),("map","map"),("object","object"),("range","range"),("reversed","reversed"),("set","set"),("slice","slice"),("staticmethod","staticmethod"),("str","str"),("super","super"),("tuple","tuple"),("type","type"),("zip","zip")] (en P "__debug__" 81 (.bool true)::(et P 82 [("BaseException","BaseException"),("BaseExceptionGroup","BaseExceptionGroup"),("Exception","Exception"),("GeneratorExit","GeneratorExit"),("KeyboardInterrupt","KeyboardInterrupt"),("SystemExit","SystemExit"),("ArithmeticError","ArithmeticError"),("AssertionError","AssertionError"),("AttributeError","AttributeError"),("BufferError","BufferError"),("EOFError","EOFError"),("ImportError","ImportError"),("LookupError","LookupError"),("MemoryError","MemoryError"),("NameError","NameError"),("OSError","OSError"),("ReferenceError","ReferenceError"),("RuntimeError","RuntimeError"),("StopAsyncIteration","StopAsyncIteration"),("StopIteration","StopIteration"),("SyntaxError","SyntaxError"),("SystemError","SystemError"),("TypeError","TypeError"),("ValueError","ValueError"),("Warning","Warning"),("FloatingPointError","FloatingPointError"),("OverflowError","OverflowError"),("ZeroDivisionError","ZeroDivisionError"),("BytesWarning","BytesWarning"),("DeprecationWarning","DeprecationWarning"),("EncodingWarning","EncodingWarning"),("FutureWarning","FutureWarning")] (et P 114 [("ImportWarning","ImportWarning"),("PendingDeprecationWarning","PendingDeprecationWarning"),("ResourceWarning","ResourceWarning"),("RuntimeWarning","RuntimeWarning"),("SyntaxWarning","SyntaxWarning"),("UnicodeWarning","UnicodeWarning"),("UserWarning","UserWarning"),("BlockingIOError","BlockingIOError"),("ChildProcessError","ChildProcessError"),("ConnectionError","ConnectionError"),("FileExistsError","FileExistsError"),("FileNotFoundError","FileNotFoundError"),("InterruptedError","InterruptedError"),("IsADirectoryError","IsADirectoryError"),("NotADirectoryError","NotADirectoryError"),("PermissionError","PermissionError"),("ProcessLookupError","ProcessLookupError"),("TimeoutError","TimeoutError"),("IndentationError","IndentationError"),("_IncompleteInputError","_IncompleteInputError"),("IndexError","IndexError"),("KeyError","KeyError"),("ModuleNotFoundError","ModuleNotFoundError"),("NotImplementedError","NotImplementedError"),("PythonFinalizationError","PythonFinalizationError"),("RecursionError","RecursionError"),("UnboundLocalError","UnboundLocalError"),("UnicodeError","UnicodeError"),("BrokenPipeError","BrokenPipeError"),("ConnectionAbortedError","ConnectionAbortedError"),("ConnectionRefusedError","ConnectionRefusedError"),("ConnectionResetError","ConnectionResetError")] (et P 146 [("TabError","TabError"),("UnicodeDecodeError","UnicodeDecodeError"),("UnicodeEncodeError","UnicodeEncodeError"),("UnicodeTranslateError","UnicodeTranslateError"),("ExceptionGroup","ExceptionGroup"),("EnvironmentError","OSError"),("IOError","OSError")] (eb P 153 [("open","open"),("quit","builtins.quit#opaque"),("exit","builtins.exit#opaque"),("copyright","builtins.copyright#opaque"),("credits","builtins.credits#opaque"),("license","builtins.license#opaque"),("help","builtins.help#opaque")] [])))))))))) 159)::(dO [er P "builtins" 162 4,er P "__main__" 163 5] 2)::afX::[]
def sg2 (P:Params):List Obj:={ cls:=.type "module",dict:=some 0 }::{ cls:=.type "module",dict:=some 3 }::{ cls:=.type "dict",data:=Data.dict #[] }::ot::oe::(fc #[.str "<module>" 176,.str "<module>" 177,cp 178,.int 1 0,.int 0 0,.int 0 0,.int 0 0,.int 0 0,.ref 7,.bool false,.int 175 0,.ref 8,.none,.none,.none,.none,.int 179 0,.int 1 0,cp 180])::(fr 9 3 mv0)::[]
def sg3 (P:Params):List Obj:=ot::[]
def sg5 (P:Params):List Obj:=(cc "<module>" "<module>" 182 1 11 185)::(fr 13 3 mv0)::[]
def sg6 (P:Params):List Obj:=ot::oe::(tn 190 ["k"])::ot::(po "_wall" "_wall" (top0 0))::ad1::ad0::ot::oe::(tn 205 ["amount"])::ot::(po "is_water" "is_water" (top0 5))::adZ::adY::ot::oe::(po "is_name" "is_name" (top0 6))::adX::adW::(tq #[.type "ValueError"])::(bm "type.__prepare__" (.type "type"))::(dO [en P "__module__" 224 mv6,en P "__qualname__" 226 (.str "SluiceError" 225),en P "__firstlineno__" 228 (.int 13 227),er P "__static_attributes__" 229 41] 4)::ot::oe::(cc "SluiceError" "SluiceError" 219 13 37 222)::(fr 39 36 mv6)::ot::adV P::adU::adT::(su 43)::(bm "object.__init_subclass__" (.ref 43))::(tq #[.ref 43])::(bm "type.__prepare__" (.type "type"))::(dO [en P "__module__" 242 mv6,en P "__qualname__" 244 (.str "NoRiver" 243),en P "__firstlineno__" 246 (.int 15 245),er P "__static_attributes__" 247 54] 4)::ot::oe::(cc "NoRiver" "NoRiver" 237 15 50 240)::(fr 52 49 mv6)::ot::adS P::adR::(su 56)::(bm "object.__init_subclass__" (.ref 56))::(tq #[.ref 43])::(bm "type.__prepare__" (.type "type"))::(dO [en P "__module__" 258 mv6,en P "__qualname__" 260 (.str "NoReach" 259),en P "__firstlineno__" 262 (.int 17 261),er P "__static_attributes__" 263 66] 4)::ot::oe::(cc "NoReach" "NoReach" 253 17 62 256)::(fr 64 61 mv6)::ot::adQ P::adP::(su 68)::(bm "object.__init_subclass__" (.ref 68))::(tq #[.ref 43])::(bm "type.__prepare__" (.type "type"))::(dO [en P "__module__" 274 mv6,en P "__qualname__" 276 (.str "NoLicence" 275),en P "__firstlineno__" 278 (.int 19 277),er P "__static_attributes__" 279 78] 4)::ot::oe::(cc "NoLicence" "NoLicence" 269 19 74 272)::(fr 76 73 mv6)::ot::adO P::adN::(su 80)::(bm "object.__init_subclass__" (.ref 80))::(tq #[.ref 43])::(bm "type.__prepare__" (.type "type"))::(dO [en P "__module__" 290 mv6,en P "__qualname__" 292 (.str "NoNumber" 291),en P "__firstlineno__" 294 (.int 21 293),er P "__static_attributes__" 295 90] 4)::ot::oe::(cc "NoNumber" "NoNumber" 285 21 86 288)::(fr 88 85 mv6)::ot::adM P::adL::(su 92)::(bm "object.__init_subclass__" (.ref 92))::(tq #[.ref 43])::(bm "type.__prepare__" (.type "type"))::(dO [en P "__module__" 306 mv6,en P "__qualname__" 308 (.str "NoHolder" 307),en P "__firstlineno__" 310 (.int 23 309),er P "__static_attributes__" 311 102] 4)::ot::oe::(cc "NoHolder" "NoHolder" 301 23 98 304)::(fr 100 97 mv6)::ot::aaG P::aaF::(su 104)::(bm "object.__init_subclass__" (.ref 104))::(tq #[.ref 43])::(bm "type.__prepare__" (.type "type"))::(dO [en P "__module__" 322 mv6,en P "__qualname__" 324 (.str "NotYours" 323),en P "__firstlineno__" 326 (.int 25 325),er P "__static_attributes__" 327 114] 4)::ot::oe::(cc "NotYours" "NotYours" 317 25 110 320)::(fr 112 109 mv6)::ot::aaE P::aaD::(su 116)::(bm "object.__init_subclass__" (.ref 116))::(tq #[.ref 43])::(bm "type.__prepare__" (.type "type"))::(dO [en P "__module__" 338 mv6,en P "__qualname__" 340 (.str "NotAlone" 339),en P "__firstlineno__" 342 (.int 27 341),er P "__static_attributes__" 343 126] 4)::ot::oe::(cc "NotAlone" "NotAlone" 333 27 122 336)::(fr 124 121 mv6)::ot::aaC P::aaB::(su 128)::(bm "object.__init_subclass__" (.ref 128))::(tq #[.ref 43])::(bm "type.__prepare__" (.type "type"))::(dO [en P "__module__" 354 mv6,en P "__qualname__" 356 (.str "TooMuch" 355),en P "__firstlineno__" 358 (.int 29 357),er P "__static_attributes__" 359 138] 4)::ot::oe::(cc "TooMuch" "TooMuch" 349 29 134 352)::(fr 136 133 mv6)::ot::aaA P::aaz::(su 140)::(bm "object.__init_subclass__" (.ref 140))::(tq #[.ref 43])::(bm "type.__prepare__" (.type "type"))::(dO [en P "__module__" 370 mv6,en P "__qualname__" 372 (.str "Full" 371),en P "__firstlineno__" 374 (.int 31 373),er P "__static_attributes__" 375 150] 4)::ot::oe::(cc "Full" "Full" 365 31 146 368)::(fr 148 145 mv6)::ot::aay P::aax::(su 152)::(bm "object.__init_subclass__" (.ref 152))::(tq #[.ref 43])::(bm "type.__prepare__" (.type "type"))::(dO [en P "__module__" 386 mv6,en P "__qualname__" 388 (.str "NoPond" 387),en P "__firstlineno__" 390 (.int 33 389),er P "__static_attributes__" 391 162] 4)::ot::oe::(cc "NoPond" "NoPond" 381 33 158 384)::(fr 160 157 mv6)::ot::aaw P::aav::(su 164)::(bm "object.__init_subclass__" (.ref 164))::(tq #[.ref 43])::(bm "type.__prepare__" (.type "type"))::(dO [en P "__module__" 402 mv6,en P "__qualname__" 404 (.str "NoDay" 403),en P "__firstlineno__" 406 (.int 35 405),er P "__static_attributes__" 407 174] 4)::ot::oe::(cc "NoDay" "NoDay" 397 35 170 400)::(fr 172 169 mv6)::ot::aau P::aat::(su 176)::(bm "object.__init_subclass__" (.ref 176))::(tq #[.ref 43])::(bm "type.__prepare__" (.type "type"))::(dO [en P "__module__" 418 mv6,en P "__qualname__" 420 (.str "Fixed" 419),en P "__firstlineno__" 422 (.int 37 421),er P "__static_attributes__" 423 186] 4)::ot::oe::(cc "Fixed" "Fixed" 413 37 182 416)::(fr 184 181 mv6)::ot::aas P::aar::(su 188)::(bm "object.__init_subclass__" (.ref 188))::(tq #[.ref 43])::(bm "type.__prepare__" (.type "type"))::(dO [en P "__module__" 434 mv6,en P "__qualname__" 436 (.str "Harms" 435),en P "__firstlineno__" 438 (.int 39 437),er P "__static_attributes__" 439 198] 4)::ot::oe::(cc "Harms" "Harms" 429 39 194 432)::(fr 196 193 mv6)::ot::aaq P::aap::(su 200)::(bm "object.__init_subclass__" (.ref 200))::ot::oe::(tn 453 ["below","start","reach","step"])::ot::(po "comes_to_mouth" "comes_to_mouth" (top0 25))::aao::aan::ot::oe::(po "is_river" "is_river" (top0 26))::aam::aal::ot::oe::(tn 469 ["below","reach","way"])::ot::(po "way_of" "way_of" (top0 27))::aak::aaj::ot::oe::(tn 478 ["below"])::(tn 479 ["below"])::(po "tops_first" "tops_first" (top0 28))::aai::aah::ot::oe::(po "mouths_of" "mouths_of" (top0 29))::aag::aaf::ot::oe::(tn 492 ["below","start","stop","way"])::ot::(po "stretch_of" "stretch_of" (top0 30))::aae::aad::ot::oe::(tn 506 ["below","one","day","start","back","most"])::ot::(po "is_licence" "is_licence" (top0 33))::aac::Z9::ot::oe::(tn 518 ["below","one","day","start","back","most"])::ot::(po "reaches_of" "reaches_of" (top0 34))::Z8::Z7::ot::oe::(tn 530 ["one"])::ot::(po "day_filed" "day_filed" (top0 35))::Z6::Z5::ot::oe::(tn 537 ["one"])::ot::(po "start_of" "start_of" (top0 36))::Z4::Z2::ot::oe::(tn 544 ["one"])::ot::(po "gives_back" "gives_back" (top0 37))::Z1::Z0::ot::oe::(tn 551 ["one"])::ot::(po "most_of" "most_of" (top0 38))::ZX::ZW::ot::oe::(tn 558 ["one","start"])::ot::(po "with_start" "with_start" (top0 39))::ZV::ZS::ot::oe::(tn 566 ["one","most"])::ot::(po "with_most" "with_most" (top0 40))::ZR::ZQ::[]
def sg7 (P:Params):List Obj:=ot::oe::(tn 574 ["roll"])::(tn 575 ["roll"])::(po "ranked" "ranked" (top0 41))::ZP::ZM::ot::oe::(tn 582 ["roll","groups","number"])::ot::(po "groups_of" "groups_of" (top0 42))::ZL::ZK::ot::oe::(po "wants_of" "wants_of" (top0 43))::ZJ::ZG::ot::oe::(tn 601 ["name"])::ot::(po "look_at_name" "look_at_name" (top0 46))::ZF::ZD::ot::(bm "type.__prepare__" (.type "type"))::(dO [en P "__module__" 612 mv8,en P "__qualname__" 614 (.str "Roll" 613),en P "__firstlineno__" 616 (.int 109 615),er P "__init__" 624 336,er P "today" 631 343,er P "roll" 638 350,er P "holders" 645 357,er P "deeds" 652 364,er P "turn" 659 371,er P "file" 672 379,er P "sell" 682 386,er P "part" 694 393,er P "drop" 703 400,er P "move" 714 407,er P "look_move" 723 414,er P "lapse" 729 419,er P "enter" 738 426,er P "is_alone" 744 431,er P "look_at_number" 752 438,er P "look_at_holder" 761 445,er P "look_at_room" 768 452,er P "__static_attributes__" 774 453] 22)::ot::{ cls:=.none,data:=Data.fields #[.int 111 0,.int 4 0,.ref 335,.int 120 0,.int 4 0,.ref 342,.int 123 0,.int 4 0,.ref 349,.int 126 0,.int 4 0,.ref 356,.int 129 0,.int 4 0,.ref 363,.int 132 0,.int 4 0,.ref 370,.int 136 0,.int 4 0,.ref 378,.int 146 0,.int 4 0,.ref 385,.int 152 0,.int 4 0,.ref 392,.int 165 0,.int 4 0,.ref 399,.int 170 0,.int 4 0,.ref 406,.int 179 0,.int 4 0,.ref 413,.int 182 0,.int 4 0,.ref 418,.int 196 0,.int 4 0,.ref 425,.int 201 0,.int 4 0,.ref 430,.int 206 0,.int 4 0,.ref 437,.int 210 0,.int 4 0,.ref 444,.int 215 0,.int 4 0,.ref 451] }::(cc "Roll" "Roll" 607 109 326 610)::(fr 328 325 mv8)::ot::oe::(tn 620 ["self","below"])::ot::(po "__init__" "Roll.__init__" (inC 47 0))::ZC::Zz::ot::oe::(tn 628 ["self"])::ot::(po "today" "Roll.today" (inC 47 1))::Zy::Zx::ot::oe::(tn 635 ["self"])::ot::(po "roll" "Roll.roll" (inC 47 2))::Zw::Zv::ot::oe::(tn 642 ["self"])::ot::(po "holders" "Roll.holders" (inC 47 3))::Zu::Zt::ot::oe::(tn 649 ["self"])::ot::(po "deeds" "Roll.deeds" (inC 47 4))::Zr::Zq::ot::oe::(tn 656 ["self"])::ot::(po "turn" "Roll.turn" (inC 47 5))::Zo::Zn::Zm::ot::oe::(tn 663 ["self","holder","start","most","back","stop","one"])::ot::(po "file" "Roll.file" (inC 47 6))::Zk::Zj::ot::oe::(tn 676 ["self","number","holder","to"])::ot::(po "sell" "Roll.sell" (inC 47 7))::Zi::Zh::ot::oe::(tn 686 ["self","number","holder","most","to","one"])::ot::(po "part" "Roll.part" (inC 47 8))::Zg::Zf::ot::oe::(tn 698 ["self","number","holder"])::ot::(po "drop" "Roll.drop" (inC 47 9))::Ze::Zd::ot::oe::(tn 707 ["self","number","holder","start","one"])::ot::(po "move" "Roll.move" (inC 47 10))::Zc::Zb::ot::oe::(tn 718 ["self","number","start"])::ot::(po "look_move" "Roll.look_move" (inC 47 11))::Za::Y9::ot::oe::(po "lapse" "Roll.lapse" (inC 47 12))::Y8::Y7::ot::oe::(tn 733 ["self","one","holder"])::ot::(po "enter" "Roll.enter" (inC 47 13))::Y6::Y5::ot::oe::(po "is_alone" "Roll.is_alone" (inC 47 14))::Y4::Y0::ot::oe::(tn 748 ["self","number"])::ot::(po "look_at_number" "Roll.look_at_number" (inC 47 15))::YZ::YX::ot::oe::(tn 756 ["self","number","holder"])::ot::(po "look_at_holder" "Roll.look_at_holder" (inC 47 16))::YW::YT::ot::oe::(tn 765 ["self"])::ot::(po "look_at_room" "Roll.look_at_room" (inC 47 17))::YS::YQ::(tn 769 ["below","day","done","licences","names"])::YM P::[]
def sg9 (P:Params):List Obj:=YL::YK::(su 455)::(bm "object.__init_subclass__" (.ref 455))::ot::oe::(tn 787 ["roll","deed","kind"])::ot::(po "do_anew" "do_anew" (top0 49))::YJ::YH::ot::oe::(tn 796 ["below","deeds","roll","deed"])::ot::(po "replayed" "replayed" (top0 50))::YG::YF::ot::oe::(tn 808 ["below","springs","flows","reach"])::ot::(po "natural_of" "natural_of" (top0 52))::YD::YC::ot::oe::(tn 818 ["below","springs","moves","flows","start","stop","amount","reach"])::ot::(po "flows_of" "flows_of" (top0 53))::YB::Yz::ot::oe::(tn 834 ["free","ways","counts","way","reach"])::ot::(po "count_ways" "count_ways" (top0 55))::Yy::Yx::ot::oe::(po "whole_turns" "whole_turns" (top0 56))::Yw::Yv::[]
def afI (P:Params):List Obj:=ot::oe::(tn 851 ["left","way","drops","reach"])::ot::(po "draw" "draw" (top0 57))::Yu::Yt::ot::oe::(po "take_whole_turns" "take_whole_turns" (top0 58))::Ys::Yr::ot::oe::(po "take_one_turn" "take_one_turn" (top0 59))::Yq::Yp::ot::oe::(tn 873 ["free","ways","rests","left","takes","going"])::ot::(po "deal_turns" "deal_turns" (top0 60))::Yo::Yn::ot::oe::(po "deal" "deal" (top0 62))::Ym::Yl::ot::oe::(tn 897 ["roll","pond","number","room","leak"])::ot::(po "pond_start" "pond_start" (top0 65))::Yk::Yj::ot::oe::(tn 908 ["below","roll","ponds","kept","let","place","reach","amount"])::ot::(po "look_at_let" "look_at_let" (top0 66))::Yi::Yh::ot::oe::(tn 922 ["below","roll","ponds","kept","lets","left","let","place","reach","amount"])::ot::(po "let_out" "let_out" (top0 67))::Yg::Ye::ot::oe::(tn 938 ["roll","ponds","kept","calls","lessened","pond","keeps","number","room","leak"])::ot::(po "pond_calls" "pond_calls" (top0 68))::Yd::Yc::ot::oe::(tn 954 ["ponds","kept","takes","after","lost","pond","keeps","number","room","leak","full","loss"])::ot::(po "evening" "evening" (top0 69))::Yb::X8::ot::oe::(tn 974 ["below","roll","ponds","kept","calls","lets","left"])::ot::(po "morning_of" "morning_of" (top0 71))::X7::X6::ot::oe::(tn 987 ["roll","ponds","takes","lets","moves","one","take","day","start","back","most","place","reach","amount"])::ot::(po "moves_of" "moves_of" (top0 72))::X5::X4::ot::oe::(po "used_of" "used_of" (top0 73))::X3::XR::ot::oe::(po "day_of" "day_of" (top0 74))::XQ::XM::ot::oe::(tn 1021 ["roll","number","start","changed"])::ot::(po "moved" "moved" (top0 76))::XJ::XH::ot::oe::(tn 1031 ["below","roll","number","start","record","other_roll","day","one_day","springs","calls","all_calls","takes","other_takes","other","before","after"])::ot::(po "harm_of" "harm_of" (top0 77))::XF::XD::ot::oe::(po "greatest_of" "greatest_of" (top0 80))::XC::Xz::[]
def sg11 (P:Params):List Obj:=(tq #[.ref 455])::(bm "type.__prepare__" (.type "type"))::(dO [en P "__module__" 1067 mv3,en P "__qualname__" 1069 (.str "Book" 1068),en P "__firstlineno__" 1071 (.int 381 1070),er P "__init__" 1079 620,er P "pond" 1091 628,er P "ponds" 1098 635,er P "kept" 1105 642,er P "has_pond" 1111 647,er P "run" 1129 655,er P "look_at_amounts" 1135 660,er P "record" 1141 665,er P "why" 1149 672,er P "look_move" 1158 679,er P "close" 1164 684,er P "__static_attributes__" 1170 685] 15)::ot::{ cls:=.none,data:=Data.fields #[.int 383 0,.int 4 0,.ref 619,.int 391 0,.int 4 0,.ref 627,.int 403 0,.int 4 0,.ref 634,.int 406 0,.int 4 0,.ref 641,.int 409 0,.int 4 0,.ref 646,.int 412 0,.int 4 0,.ref 654,.int 426 0,.int 4 0,.ref 659,.int 430 0,.int 4 0,.ref 664,.int 433 0,.int 4 0,.ref 671,.int 436 0,.int 4 0,.ref 678,.int 442 0,.int 4 0,.ref 683] }::(cc "Book" "Book" 1062 381 610 1065)::(fr 612 609 mv3)::ot::oe::(tn 1075 ["self","below"])::ot::(po "__init__" "Book.__init__" (inC 81 0))::Xw::Xv::Xu::ot::oe::(tn 1084 ["self","number","holder","room","leak"])::ot::(po "pond" "Book.pond" (inC 81 1))::Xr::Xq::ot::oe::(tn 1095 ["self"])::ot::(po "ponds" "Book.ponds" (inC 81 2))::Xp::Xo::ot::oe::(tn 1102 ["self"])::ot::(po "kept" "Book.kept" (inC 81 3))::Xn::Xm::ot::oe::(po "has_pond" "Book.has_pond" (inC 81 4))::Xl::Xk::Xj::ot::oe::(tn 1115 ["self","springs","calls","lets","lets_told","left","dealt_by","told","takes","kept","flows","sheet"])::ot::(po "run" "Book.run" (inC 81 5))::Xi::Xh::ot::oe::(po "look_at_amounts" "Book.look_at_amounts" (inC 81 6))::Xg::Xf::ot::oe::(po "record" "Book.record" (inC 81 7))::Xe::Xd::ot::oe::(tn 1145 ["self","number"])::ot::(po "why" "Book.why" (inC 81 8))::Xc::Xb::ot::oe::(tn 1153 ["self","number","start"])::ot::(po "look_move" "Book.look_move" (inC 81 9))::Xa::W9::ot::oe::(po "close" "Book.close" (inC 81 10))::W8::W7::(tn 1165 ["dug","greatest","keeps","last","ran"])::W6 P::W5::(su 687)::(bm "object.__init_subclass__" (.ref 687))::ot::oe::(tn 1179 ["script","k"])::ot::(po "_law_cell_at" "_law_cell_at" (top0 83))::W4::W3::ot::oe::(tn 1187 ["cell","k","mark"])::ot::(po "_law_pebble" "_law_pebble" (top0 84))::W2::W0::ot::oe::(po "_law_pebbles" "_law_pebbles" (top0 85))::WY::WX::ot::oe::(tn 1202 ["xs","cell","order","onward","k","place","at","found"])::ot::(po "_law_river" "_law_river" (top0 86))::WW::WR::ot::oe::(tn 1216 ["x","great"])::ot::(po "_law_amount" "_law_amount" (top0 87))::WQ::WM::ot::oe::(tn 1224 ["x","letters"])::ot::(po "_law_name" "_law_name" (top0 88))::WL::WK::ot::oe::(po "_law_old_deed" "_law_old_deed" (top0 89))::WD::Wz::ot::oe::(po "_law_deed" "_law_deed" (top0 90))::Wy::Wx::ot::oe::(tn 1244 ["some","caught","e"])::ot::(po "_law_no_book" "_law_no_book" (top0 91))::Ww::Wv::ot::oe::(tn 1253 ["book","river","found"])::ot::(po "_law_same" "_law_same" (top0 92))::Wu::Wt::ot::oe::(tn 1262 ["script","first","great","river","book","spoilt","done","cell","caught","e"])::ot::(po "law" "law" (top0 93))::Ws::Wr::[]
def H0:Params->Heap:=fun P=>{ objs:=⟨sg0 P++(dO (en P "__name__" 165 mv0::Vt P) 9)::sg2 P++[]⟩ }
def Ha:Params->Heap:=fun P=>{ objs:=⟨sg0 P++(dO (en P "__name__" 165 mv0::Vt P) 9)::sg2 P++sg3 P++(fl aaM)::sg5 P++[]⟩ }
def Hb:Params->Heap:=fun P=>{ objs:=⟨sg0 P++(dO (en P "__name__" 165 mv0::Vt P) 9)::sg2 P++sg3 P++(fl aaM)::sg5 P++[]⟩ }
def Hm0:Params->Heap:=fun P=>{ objs:=⟨sg0 P++(dO (en P "__name__" 165 mv1::ad7 P) 46)::sg2 P++sg3 P++(fl aaL)::sg5 P++sg6 P++[]⟩ }
def Hm1:Params->Heap:=fun P=>{ objs:=⟨sg0 P++(dO (en P "__name__" 165 mv2::ad6 P) 58)::sg2 P++sg3 P++(fl aaK)::sg5 P++sg6 P++sg7 P++{ cls:=.type "type",data:=Data.cls { name:="Roll",bases:=[.type "object"],mro:=[.ref 455,.type "object"],ns:=454,qualname:="Roll" },slots:=#[none,none,some (.str "Roll" 605),some (.str "Roll" 613),some (.builtin "object.__new__"),some (.bool true)] }::sg9 P++[]⟩ }
def Hm2:Params->Heap:=fun P=>{ objs:=⟨sg0 P++(dO (en P "__name__" 165 mv3::ad5 P) 77)::sg2 P++sg3 P++(fl aaJ)::sg5 P++sg6 P++sg7 P++{ cls:=.type "type",data:=Data.cls { name:="Roll",bases:=[.type "object"],mro:=[.ref 455,.type "object"],ns:=454,qualname:="Roll" },slots:=#[none,none,some (.str "Roll" 605),some (.str "Roll" 613),some (.builtin "object.__new__"),some (.bool true)] }::sg9 P++afI P++[]⟩ }
def H1:Params->Heap:=fun P=>{ objs:=⟨sg0 P++Xy P::sg2 P++sg3 P++(fl ad4)::sg5 P++sg6 P++sg7 P++Xx::sg9 P++afI P++sg11 P++[]⟩ }
def Kf:Params->PySem.W.Frag:=fun P=>(nat_lit 2,afX)::(nat_lit 3,Xy P)::(nat_lit 20,ad1)::(nat_lit 21,ad0)::(nat_lit 27,adZ)::(nat_lit 28,adY)::(nat_lit 32,adX)::(nat_lit 33,adW)::(nat_lit 42,adV P)::(nat_lit 43,adU)::(nat_lit 44,adT)::(nat_lit 55,adS P)::(nat_lit 56,adR)::(nat_lit 67,adQ P)::(nat_lit 68,adP)::(nat_lit 79,adO P)::(nat_lit 80,adN)::(nat_lit 91,adM P)::(nat_lit 92,adL)::(nat_lit 103,aaG P)::(nat_lit 104,aaF)::(nat_lit 115,aaE P)::(nat_lit 116,aaD)::(nat_lit 127,aaC P)::(nat_lit 128,aaB)::(nat_lit 139,aaA P)::(nat_lit 140,aaz)::(nat_lit 151,aay P)::(nat_lit 152,aax)::(nat_lit 163,aaw P)::(nat_lit 164,aav)::(nat_lit 175,aau P)::(nat_lit 176,aat)::(nat_lit 187,aas P)::(nat_lit 188,aar)::(nat_lit 199,aaq P)::(nat_lit 200,aap)::(nat_lit 208,aao)::(nat_lit 209,aan)::(nat_lit 213,aam)::(nat_lit 214,aal)::(nat_lit 220,aak)::(nat_lit 221,aaj)::(nat_lit 227,aai)::(nat_lit 228,aah)::(nat_lit 232,aag)::(nat_lit 233,aaf)::(nat_lit 239,aae)::(nat_lit 240,aad)::(nat_lit 246,aac)::(nat_lit 247,Z9)::(nat_lit 253,Z8)::(nat_lit 254,Z7)::(nat_lit 260,Z6)::(nat_lit 261,Z5)::(nat_lit 267,Z4)::(nat_lit 268,Z2)::(nat_lit 274,Z1)::(nat_lit 275,Z0)::(nat_lit 281,ZX)::(nat_lit 282,ZW)::(nat_lit 288,ZV)::(nat_lit 289,ZS)::(nat_lit 295,ZR)::(nat_lit 296,ZQ)::(nat_lit 302,ZP)::(nat_lit 303,ZM)::(nat_lit 309,ZL)::(nat_lit 310,ZK)::(nat_lit 314,ZJ)::(nat_lit 315,ZG)::(nat_lit 321,ZF)::(nat_lit 322,ZD)::(nat_lit 335,ZC)::(nat_lit 336,Zz)::(nat_lit 342,Zy)::(nat_lit 343,Zx)::(nat_lit 349,Zw)::(nat_lit 350,Zv)::(nat_lit 356,Zu)::(nat_lit 357,Zt)::(nat_lit 363,Zr)::(nat_lit 364,Zq)::(nat_lit 370,Zo)::(nat_lit 371,Zn)::(nat_lit 372,Zm)::(nat_lit 378,Zk)::(nat_lit 379,Zj)::(nat_lit 385,Zi)::(nat_lit 386,Zh)::(nat_lit 392,Zg)::(nat_lit 393,Zf)::(nat_lit 399,Ze)::(nat_lit 400,Zd)::(nat_lit 406,Zc)::(nat_lit 407,Zb)::(nat_lit 413,Za)::(nat_lit 414,Y9)::(nat_lit 418,Y8)::(nat_lit 419,Y7)::(nat_lit 425,Y6)::(nat_lit 426,Y5)::(nat_lit 430,Y4)::(nat_lit 431,Y0)::(nat_lit 437,YZ)::(nat_lit 438,YX)::(nat_lit 444,YW)::(nat_lit 445,YT)::(nat_lit 451,YS)::(nat_lit 452,YQ)::(nat_lit 454,YM P)::(nat_lit 455,Xx)::(nat_lit 456,YL)::(nat_lit 457,YK)::(nat_lit 465,YJ)::(nat_lit 466,YH)::(nat_lit 472,YG)::(nat_lit 473,YF)::(nat_lit 479,YD)::(nat_lit 480,YC)::(nat_lit 486,YB)::(nat_lit 487,Yz)::(nat_lit 493,Yy)::(nat_lit 494,Yx)::(nat_lit 498,Yw)::(nat_lit 499,Yv)::(nat_lit 505,Yu)::(nat_lit 506,Yt)::(nat_lit 510,Ys)::(nat_lit 511,Yr)::(nat_lit 515,Yq)::(nat_lit 516,Yp)::(nat_lit 522,Yo)::(nat_lit 523,Yn)::(nat_lit 527,Ym)::(nat_lit 528,Yl)::(nat_lit 534,Yk)::(nat_lit 535,Yj)::(nat_lit 541,Yi)::(nat_lit 542,Yh)::(nat_lit 548,Yg)::(nat_lit 549,Ye)::(nat_lit 555,Yd)::(nat_lit 556,Yc)::(nat_lit 562,Yb)::(nat_lit 563,X8)::(nat_lit 569,X7)::(nat_lit 570,X6)::(nat_lit 576,X5)::(nat_lit 577,X4)::(nat_lit 581,X3)::(nat_lit 582,XR)::(nat_lit 586,XQ)::(nat_lit 587,XM)::(nat_lit 593,XJ)::(nat_lit 594,XH)::(nat_lit 600,XF)::(nat_lit 601,XD)::(nat_lit 605,XC)::(nat_lit 606,Xz)::(nat_lit 619,Xw)::(nat_lit 620,Xv)::(nat_lit 621,Xu)::(nat_lit 627,Xr)::(nat_lit 628,Xq)::(nat_lit 634,Xp)::(nat_lit 635,Xo)::(nat_lit 641,Xn)::(nat_lit 642,Xm)::(nat_lit 646,Xl)::(nat_lit 647,Xk)::(nat_lit 648,Xj)::(nat_lit 654,Xi)::(nat_lit 655,Xh)::(nat_lit 659,Xg)::(nat_lit 660,Xf)::(nat_lit 664,Xe)::(nat_lit 665,Xd)::(nat_lit 671,Xc)::(nat_lit 672,Xb)::(nat_lit 678,Xa)::(nat_lit 679,W9)::(nat_lit 683,W8)::(nat_lit 684,W7)::(nat_lit 686,W6 P)::(nat_lit 687,W5)::(nat_lit 695,W4)::(nat_lit 696,W3)::(nat_lit 702,W2)::(nat_lit 703,W0)::(nat_lit 707,WY)::(nat_lit 708,WX)::(nat_lit 714,WW)::(nat_lit 715,WR)::(nat_lit 721,WQ)::(nat_lit 722,WM)::(nat_lit 728,WL)::(nat_lit 729,WK)::(nat_lit 733,WD)::(nat_lit 734,Wz)::(nat_lit 738,Wy)::(nat_lit 739,Wx)::(nat_lit 745,Ww)::(nat_lit 746,Wv)::(nat_lit 752,Wu)::(nat_lit 753,Wt)::(nat_lit 759,Ws)::(nat_lit 760,Wr)::[]
noncomputable def asK:List Addr:=[2,3,20,21,27,28,32,33,42,43,44,55,56,67,68,79,80,91,92,103,104,115,116,127,128,139,140,151,152,163,164,175,176,187,188,199,200,208,209,213,214,220,221,227,228,232,233,239,240,246,247,253,254,260,261,267,268,274,275,281,282,288,289,295,296,302,303,309,310,314,315,321,322,335,336,342,343,349,350,356,357,363,364,370,371,372,378,379,385,386,392,393,399,400,406,407,413,414,418,419,425,426,430,431,437,438,444,445,451,452,454,455,456,457,465,466,472,473,479,480,486,487,493,494,498,499,505,506,510,511,515,516,522,523,527,528,534,535,541,542,548,549,555,556,562,563,569,570,576,577,581,582,586,587,593,594,600,601,605,606,619,620,621,627,628,634,635,641,642,646,647,648,654,655,659,660,664,665,671,672,678,679,683,684,686,687,695,696,702,703,707,708,714,715,721,722,728,729,733,734,738,739,745,746,752,753,759,760]
def tsK:List Addr:=[298,223]
theorem hkE:∀ P,asK=(Kf P).map (·.1):=fun _=>by kernel_rfl
noncomputable def qv:Program:={ PySem.Challenge.pw_sluice_k69_whole_book_replayed with main:={ PySem.Challenge.pw_sluice_k69_whole_book_replayed.main with body:=[top0 93] } }
def MJ:List Str:="_wall"::"MOST_WATER"::"LONGEST_NAME"::"LETTERS"::"is_water"::"is_name"::"SluiceError"::"NoRiver"::"NoReach"::"NoLicence"::"NoNumber"::"NoHolder"::"NotYours"::"NotAlone"::"TooMuch"::"Full"::"NoPond"::"NoDay"::"Fixed"::"Harms"::"MOST_REACHES"::"MOUTH"::"comes_to_mouth"::"is_river"::"way_of"::"tops_first"::"mouths_of"::"stretch_of"::"LAST_DAY"::"is_licence"::"reaches_of"::"day_filed"::"start_of"::"gives_back"::"most_of"::"with_start"::"with_most"::"ranked"::"groups_of"::"wants_of"::"MOST_LICENCES"::"look_at_name"::"Roll"::"do_anew"::"replayed"::"natural_of"::"flows_of"::"count_ways"::"whole_turns"::"draw"::"take_whole_turns"::"take_one_turn"::"deal_turns"::"deal"::"WHOLE"::"pond_start"::"look_at_let"::"let_out"::"pond_calls"::"evening"::"morning_of"::"moves_of"::"used_of"::"day_of"::"moved"::"harm_of"::"MOST_PONDS"::"greatest_of"::"Book"::"_law_cell_at"::"_law_pebble"::"_law_pebbles"::"_law_river"::"_law_amount"::"_law_name"::"_law_old_deed"::"_law_deed"::"_law_no_book"::"_law_same"::[]
end
noncomputable section
noncomputable def PG:Program:=PySem.Challenge.rw_sluice_k69_whole_book_replayed.row.toRowW.prog
noncomputable def zs (h:Heap)(k:Nat)(o:OsState):Shared:=⟨h,#[],{},k,o⟩
theorem hp1:∀ w:World,(PySem.W.fencedOpening PySem.treeTable PG w 12558).map (fun s=>(s.heap,s.gens,s.drawn,s.toks))=some (H0 w.params,#[],{},181):=by
 intro w;kernel_rfl
theorem hp2:∀ w:World,((H0 w.params).isNs mainGlobals&& (#[]:Array GenState).size ==0,(H0 w.params).objs.size,(H0 w.params).nsMap mainGlobals "__annotations__")=(true,11,some (Value.ref 6)):=by
 intro w;kernel_rfl
def BI:List Stmt:=PySem.W.behindTheImports PG
def evT:Env:={ scope:=PG.main.scope,locals:=mainNs,globals:=mainNs,cells:=[],code:=Value.ref 13,frame:=some 14 }
def cT:Code:=.body BI evT
theorem hp3a:∀ (w:World)(os:OsState),PySem.W.topGo PySem.treeTable PG w 11 (some (Value.ref 6)) 12 (zs (H0 w.params) 181 os) (topStub PG)=some ((zs (Ha w.params) 187 os),⟨denote PySem.treeTable cT,cT,(⟨0,0,0,0⟩:Pos),[topFrame (⟨0,0,0,0⟩:Pos)]⟩):=by
 intro w os;kernel_rfl
theorem hp3b:∀ (w:World)(os:OsState),segRun PySem.treeTable PG w 11 (some (Value.ref 6)) 1 20 (zs (Ha w.params) 187 os) (PySem.W.blockOf BI evT cT (⟨0,0,0,0⟩:Pos) [topFrame (⟨0,0,0,0⟩:Pos)])=some (.next,(zs (Hb w.params) 187 os),cT,(⟨0,0,0,0⟩:Pos)):=by
 intro w os;kernel_rfl
theorem hq1:∀ (w:World)(os:OsState),segRun PySem.treeTable PG w 11 (some (Value.ref 6)) 1 3755 (zs (Hb w.params) 187 os) (piecesOf (BI.take 41) evT cT (⟨0,0,0,0⟩:Pos) [topFrame (⟨0,0,0,0⟩:Pos)])=some (.next,(zs (Hm0 w.params) 571 os),cT,(⟨93,0,94,41⟩:Pos)):=by
 intro w os;kernel_rfl
theorem hq2:∀ (w:World)(os:OsState),segRun PySem.treeTable PG w 11 (some (Value.ref 6)) 1 1326 (zs (Hm0 w.params) 571 os) (piecesOf ((BI.drop 41).take 16) evT cT (⟨93,0,94,41⟩:Pos) [topFrame (⟨0,0,0,0⟩:Pos)])=some (.next,(zs (Hm1 w.params) 848 os),cT,(⟨260,0,263,55⟩:Pos)):=by
 intro w os;kernel_rfl
theorem hq3:∀ (w:World)(os:OsState),segRun PySem.treeTable PG w 11 (some (Value.ref 6)) 1 823 (zs (Hm1 w.params) 848 os) (piecesOf (((BI.drop 41).drop 16).take 24) evT cT (⟨260,0,263,55⟩:Pos) [topFrame (⟨0,0,0,0⟩:Pos)])=some (.next,(zs (Hm2 w.params) 1060 os),cT,(⟨378,0,380,67⟩:Pos)):=by
 intro w os;kernel_rfl
theorem hr3:∀ (w:World)(os:OsState),topRun PySem.treeTable PG w 11 (some (Value.ref 6)) 1112 (zs (Hm2 w.params) 1060 os) (restOf (((BI.drop 41).drop 16).drop 24) evT cT (⟨378,0,380,67⟩:Pos) [topFrame (⟨0,0,0,0⟩:Pos)])=some (zs (H1 w.params) 1275 os):=by
 intro w os;kernel_rfl
theorem hr2:∀ (w:World)(os:OsState),topRun PySem.treeTable PG w 11 (some (Value.ref 6)) (823+1112) (zs (Hm1 w.params) 848 os) (restOf ((BI.drop 41).drop 16) evT cT (⟨260,0,263,55⟩:Pos) [topFrame (⟨0,0,0,0⟩:Pos)])=some (zs (H1 w.params) 1275 os):=fun w os=>by
 have h:=piece_app (hq3 w os) (hr3 w os);rwa [aho] at h
theorem hr1:∀ (w:World)(os:OsState),topRun PySem.treeTable PG w 11 (some (Value.ref 6)) (1326+(823+1112)) (zs (Hm0 w.params) 571 os) (restOf (BI.drop 41) evT cT (⟨93,0,94,41⟩:Pos) [topFrame (⟨0,0,0,0⟩:Pos)])=some (zs (H1 w.params) 1275 os):=fun w os=>by
 have h:=piece_app (hq2 w os) (hr2 w os);rwa [aho] at h
theorem hr0:∀ (w:World)(os:OsState),topRun PySem.treeTable PG w 11 (some (Value.ref 6)) (3755+(1326+(823+1112))) (zs (Hb w.params) 187 os) (restOf BI evT cT (⟨0,0,0,0⟩:Pos) [topFrame (⟨0,0,0,0⟩:Pos)])=some (zs (H1 w.params) 1275 os):=fun w os=>by
 have h:=piece_app (hq1 w os) (hr1 w os);rwa [aho] at h
theorem hp3:∀ (w:World)(os:OsState),topRun PySem.treeTable PG w 11 (some (Value.ref 6)) (12+(20+(3755+(1326+(823+1112))))) (zs (H0 w.params) 181 os) (topStub PG)=some (zs (H1 w.params) 1275 os):=fun w os=>PySem.W.go_top (hp3a w os) (PySem.W.piece_block (hp3b w os) (hr0 w os))
theorem hp4:∀ w:World,(fun os=>((PySem.W.staticsOk (importedModules PG.main.body) (H0 w.params) (H1 w.params) && PySem.W.namesBound PG (H1 w.params) && PySem.W.gensDone (zs (H1 w.params) 1275 os) && PySem.W.laidKept (H0 w.params) (H1 w.params)),PySem.W.openSeen qv MJ (importedModules PG.main.body) (fun s=>xlAt My.qv [] s&& recOk (PySem.W.RowW.records PySem.Challenge.rw_sluice_k69_whole_book_replayed.row.toRowW) s) true (zs (H1 w.params) 1275 os),(PySem.W.Hook.obs (kmHook My.Kf My.asK My.hkE My.tsK)) (zs (H1 w.params) 1275 os)))=fun _=>(true,PySem.W.openGood qv MJ,(PySem.W.Hook.val (kmHook My.Kf My.asK My.hkE My.tsK)) w):=by
 intro w;kernel_rfl
theorem hlE:PySem.W.LeftO PySem.Challenge.rw_sluice_k69_whole_book_replayed.row.toRowW.prog qv My.MJ (fun s=>xlAt My.qv [] s&& recOk (PySem.W.RowW.records PySem.Challenge.rw_sluice_k69_whole_book_replayed.row.toRowW) s) (PySem.W.Hook.obs (kmHook My.Kf My.asK My.hkE My.tsK)) (PySem.W.Hook.val (kmHook My.Kf My.asK My.hkE My.tsK)) 12558:=PySem.W.LeftO.of_pieces hp1 hp2 hp3 (by decide) hp4
end
end My
namespace L2
open PySem PySem.Spec PyProof.Rows
abbrev Key:=Sum Int Str
def Ov:Key->Value->Bool
 | .inl k,v=>Value.isInt k v
 | .inr x,v=>Value.isStrOf x v
def keyH (w:World):Key->Int
 | .inl k=>hashInt k
 | .inr x=>hashStr w x
theorem gD:∀ {k:Key}{v:Value},Ov k v=true->(∃ i t,k=Sum.inl i/\v=Value.int i t)\/(∃ x t,k=Sum.inr x/\v=Value.str x t)
 | .inl i,v,h=>by
  obtain ⟨t,e⟩:=Value.isInt_shape (k:=i) (v:=v) h;exact .inl ⟨i,t,rfl,e⟩
 | .inr x,v,h=>by
  obtain ⟨t,e⟩:=Value.isStrOf_shape (x:=x) (v:=v) h;exact .inr ⟨x,t,rfl,e⟩
theorem RG (i:Int)(t:Tok):Ov (.inl i) (.int i t)=true:=by simp [Ov,Value.isInt]
theorem RD (x:Str)(t:Tok):Ov (.inr x) (.str x t)=true:=by simp [Ov,Value.isStrOf]
theorem adC (a b:Int):decide ((Sum.inl a:Key)=Sum.inl b)=(a ==b):=by
 by_cases e:a=b
 ·subst e;simp
 ·have h:¬ (Sum.inl a:Key)=Sum.inl b:=fun q=>e (Sum.inl.inj q);rw [decide_eq_false h];exact (beq_eq_false_iff_ne.mpr e).symm
theorem ady (a b:Str):decide ((Sum.inr a:Key)=Sum.inr b)=decide (a=b):=by
 by_cases e:a=b
 ·subst e;simp
 ·have h:¬ (Sum.inr a:Key)=Sum.inr b:=fun q=>e (Sum.inr.inj q);rw [decide_eq_false h,decide_eq_false e]
theorem adB (a:Int)(b:Str):decide ((Sum.inl a:Key)=Sum.inr b)=false:=decide_eq_false (fun q=>nomatch q)
theorem adz (a:Str)(b:Int):decide ((Sum.inr a:Key)=Sum.inl b)=false:=decide_eq_false (fun q=>nomatch q)
def jk (prog:Program)(w:World):PySem.KeyKind prog w Key where
 is:=Ov;hash:=keyH w;inj:=fun v a b ha hb=>by
  rcases gD ha with ⟨i,t,rfl,rfl⟩ | ⟨x,t,rfl,rfl⟩
  ·rcases gD hb with ⟨j,u,rfl,e⟩ | ⟨y,u,rfl,e⟩
   ·injection e with e1 _;rw [e1]
   ·exact nomatch e
  ·rcases gD hb with ⟨j,u,rfl,e⟩ | ⟨y,u,rfl,e⟩
   ·exact nomatch e
   ·injection e with e1 _;rw [e1]
 byValue:=fun k v h=>by
  rcases gD h with ⟨i,t,rfl,rfl⟩ | ⟨x,t,rfl,rfl⟩<;>rfl
 pyHash:=fun hv h=>by
  rcases gD hv with ⟨i,t,rfl,rfl⟩ | ⟨x,t,rfl,rfl⟩
  ·exact wpAny_pyHash_int h
  ·exact wpAny_pyHash_str h
 eqBool:=fun hu hv h=>by
  rcases gD hu with ⟨i,t,rfl,rfl⟩ | ⟨x,t,rfl,rfl⟩
  ·rcases gD hv with ⟨j,u,rfl,rfl⟩ | ⟨y,u,rfl,rfl⟩
   ·rw [adC] at h;exact wpAny_eqBool_int h
   ·rw [adB] at h;exact SeqAt.EqAt.int_str i t y u _ _ _ _ h
  ·rcases gD hv with ⟨j,u,rfl,rfl⟩ | ⟨y,u,rfl,rfl⟩
   ·rw [adz] at h;exact SeqAt.EqAt.str_int x t j u _ _ _ _ h
   ·rw [ady] at h;exact wpAny_eqBool_str h
 «strs»:=fun k x t v h=>by
  rcases gD h with ⟨i,u,rfl,e⟩ | ⟨y,u,rfl,e⟩
  ·exact nomatch e
  ·injection e with e1 _;subst e1;cases v <;>rfl
theorem Kd (prog:Program)(w:World)(i:Int)(t:Tok):(jk prog w).is (.inl i) (.int i t)=true:=RG i t
theorem Kc (prog:Program)(w:World)(x:Str)(t:Tok):(jk prog w).is (.inr x) (.str x t)=true:=RD x t
inductive V where
 | non| bl (b:Bool) | int (i:Int) | str (x:Str) | byt (b:Array UInt8) | flt (b:UInt64) | ref (a:Addr) | ty (n:String)
 deriving DecidableEq
def RelV:V->Value->Prop
 | .non,u=>u=Value.none
 | .bl b,u=>u=Value.bool b
 | .int i,u=>∃ t,u=Value.int i t
 | .str x,u=>∃ t,u=Value.str x t
 | .byt b,u=>∃ t,u=Value.bytes b t
 | .flt b,u=>∃ t,u=Value.float b t
 | .ref a,u=>u=Value.ref a
 | .ty n,u=>u=Value.type n
abbrev Vals:List V->List Value->Prop:=Paired RelV
theorem Vals.length {xs:List V}{us:List Value}(r:Vals xs us):xs.length=us.length:=Paired.length r
theorem Vals.get:∀ {xs:List V}{us:List Value}{i:Nat}{x:V},Vals xs us->xs[i]?=some x->∃ u,us[i]?=some u/\RelV x u
 | _,_,_,_,.nil,e=>by simp at e
 | _,_,0,_,.cons r _,e=>by simp at e;subst e;exact ⟨_,rfl,r⟩
 | _,_,i+1,x,.cons _ t,e=>by
  obtain ⟨u,h1,h2⟩:=Vals.get (i:=i) (x:=x) t (by simpa using e);exact ⟨u,by simpa using h1,h2⟩
theorem Vals.set {x:V}{u:Value}(r:RelV x u):∀ {xs:List V}{us:List Value}(i:Nat),Vals xs us->Vals (xs.set i x) (us.set i u)
 | _,_,_,.nil=>.nil
 | _,_,0,.cons _ t=>.cons r t
 | _,_,i+1,.cons q t=>.cons q (Vals.set r i t)
theorem Vals.append:∀ {xs ys:List V}{us ws:List Value},Vals xs us->Vals ys ws->Vals (xs++ys) (us++ws)
 | _,_,_,_,.nil,s=>s
 | _,_,_,_,.cons r t,s=>.cons r (Vals.append t s)
theorem Vals.take:∀ {xs:List V}{us:List Value}(n:Nat),Vals xs us->Vals (xs.take n) (us.take n)
 | _,_,0,_=>.nil
 | _,_,_+1,.nil=>.nil
 | _,_,n+1,.cons r t=>.cons r (Vals.take n t)
theorem Vals.drop:∀ {xs:List V}{us:List Value}(n:Nat),Vals xs us->Vals (xs.drop n) (us.drop n)
 | _,_,0,r=>r
 | _,_,_+1,.nil=>.nil
 | _,_,n+1,.cons _ t=>Vals.drop n t
def Tt:Option V->Option Value->Prop
 | some v,some u=>RelV v u
 | none,none=>True
 | _,_=>False
def KV {κ:Type}:List (κ × V)->List (κ × Value)->Prop:=Paired fun (p:κ × V)(q:κ × Value)=>p.1=q.1/\RelV p.2 q.2
def kV:Key->V
 | .inl i=>.int i
 | .inr x=>.str x
inductive HO where
  | lst (xs:List V)
  | tup (xs:List V)
  | dK (kvs:List (Key × V)) | dT (kvs:List (List Key × V))
  | set (S:Int->Bool) (n:Nat)
  | ins (C dx:Addr) (fs:List (Str × V))
  | own (x:Addr)
  | xd (fs:List (Str × V))
  | met (f x:Addr)
  | rng (lo hi:Int)
  | frz (o:Obj) (u:HO)
  | tbl (ps:Array Value)
  | ext (φ:Heap->Prop)
abbrev Hp:=Addr->Option HO
def upd (H:Hp)(a:Addr)(o:HO):Hp:=fun b=>if b=a then some o else H b
theorem aO {H:Hp}{a:Addr}{o:HO}:upd H a o a=some o:=by unfold upd;rw [if_pos rfl]
theorem aN {H:Hp}{a b:Addr}{o:HO}(h:b≠a):upd H a o b=H b:=by unfold upd;rw [if_neg h]
theorem aY {H:Hp}{a b:Addr}{o:HO}(h:H a=some o)(h':H b=none):a≠b:=by
 intro e;subst e;rw [h] at h';cases h'
section
variable (P:Program)(w:World)
def gR (H:Hp)(h:Heap)(a:Addr):HO->Prop
 | .lst xs=>xs.length<=sizeLine/\∃ (its:List Value)(n:Nat),Vals xs its/\h.get? a=some { cls:=.type "list",data:=.seq its.toArray n }
 | .tup xs=>xs.length<=sizeLine/\∃ its:List Value,Vals xs its/\IsTup h a its.toArray
 | .dK kvs=>kvs.length<=sizeLine/\(a ==sysModules)=false/\∃ vs,KV kvs vs/\h.DictOf (jk P w) a vs
 | .dT kvs=>kvs.length<=sizeLine/\(a ==sysModules)=false/\∃ xs:List (List Key × Addr × Value),
   Paired (fun (p:List Key × V)(q:List Key × Addr × Value)=>p.1=q.1/\H q.2.1=some (.tup (p.1.map kV))/\RelV p.2 q.2.2) kvs xs /\
   ∃ o es ep,h.get? a=some o/\o.ExactDict/\o.data=.dict es ep/\es.toList=xs.map (entryOfKey (tupleKind (jk P w)))/\(xs.map (·.1)).Nodup
 | .set S n=>h.SetOf (intKind P w) a S n
 | .ins C dx fs=>H dx=some (.own a)/\fs.length<=1000/\dx≠a/\h.get? a=some (instObj C dx) /\
   ∃ mA,h.Ns1 dx mA/\(∀ f,Tt (fs.lookup f) (mA f))/\PySem.Within mA (fs.map (·.1))
 | .own _=>∃ o,h.get? a=some o
 | .xd fs=>∃ mA,h.Ns1 a mA/\∀ f,Tt (fs.lookup f) (mA f)
 | .rng lo hi=>∃ t u v,h.get? a=some { cls:=.type "range",data:=.fields #[.int lo t,.int hi u,.int 1 v] }
 | .frz o u=>h.get? a=some o/\gR H h a u
 | .tbl ps=>h.get? a=some { cls:=.none,data:=.fields ps }
 | .met f x=>h.get? a=some (methodObj (.ref f) (.ref x))
 | .ext φ=>φ h/\(∃ o,h.get? a=some o)/\∀ h1 h2:Heap,φ h1->(∀ o,h1.get? a=some o->h2.get? a=some o)->φ h2
def HOk (H:Hp)(h:Heap):Prop:=∀ a o,H a=some o->gR P w H h a o
end
section
variable {P:Program}{w:World}{H H':Hp}{h h':Heap}{a:Addr}{o:HO}
theorem gR.lt (x:gR P w H h a o):a<h.objs.size:=by
 cases o with
 | lst xs=>obtain ⟨_,_,_,_,e⟩:=x;exact agr e
 | tup xs=>obtain ⟨_,_,_,p⟩:=x;exact p.lt
 | dK kvs=>obtain ⟨_,_,_,_,o,_,_,e,_⟩:=x;exact agr e
 | dT kvs=>obtain ⟨_,_,_,_,o,_,_,e,_⟩:=x;exact agr e
 | set S n=>obtain ⟨o,_,_,_,e,_⟩:=x;exact agr e
 | ins C dx fs=>obtain ⟨_,_,_,e,_⟩:=x;exact agr e
 | own y=>obtain ⟨_,e⟩:=x;exact agr e
 | xd fs=>obtain ⟨_,⟨_,_,_,e,_⟩,_⟩:=x;exact agr e
 | rng lo hi=>obtain ⟨_,_,_,e⟩:=x;exact agr e
 | frz ob u=>obtain ⟨e,_⟩:=x;exact agr e
 | tbl ps=>exact agr (show h.get? a=some _ from x)
 | met f y=>exact agr (show h.get? a=some _ from x)
 | ext φ=>obtain ⟨_,⟨_,e⟩,_⟩:=x;exact agr e
theorem Paired.afR {α β:Type}{F G:α->β->Prop}:∀ {l₁:List α}{l₂:List β},Paired F l₁ l₂->(∀ a b,F a b->G a b)->Paired G l₁ l₂
 | _,_,.nil,_=>.nil
 | _,_,.cons r t,f=>.cons (f _ _ r) (Paired.afR t f)
theorem gR.stay (x:gR P w H h a o)(k:∀ b u,(b=a\/H b=some (.own a))->h.get? b=some u->h'.get? b=some u)
  (ho:∀ b,H b=some (.own a)->H' b=some (.own a))(ht:∀ b xs,H b=some (.tup xs)->H' b=some (.tup xs)):gR P w H' h' a o:=by
 induction o with
 | lst xs=>obtain ⟨z,its,n,r,e⟩:=x;exact ⟨z,its,n,r,k _ _ (.inl rfl) e⟩
 | tup xs=>obtain ⟨z,its,r,ob,e,c⟩:=x;exact ⟨z,its,r,ob,k _ _ (.inl rfl) e,c⟩
 | dK kvs=>obtain ⟨z,y,vs,r,ob,es,ep,e,c⟩:=x;exact ⟨z,y,vs,r,ob,es,ep,k _ _ (.inl rfl) e,c⟩
 | dT kvs =>
  obtain ⟨z,y,xs,r,ob,es,ep,e,c⟩:=x;exact ⟨z,y,xs,Paired.afR r fun p q z=>⟨z.1,ht _ _ z.2.1,z.2.2⟩,ob,es,ep,k _ _ (.inl rfl) e,c⟩
 | set S n=>obtain ⟨ob,es,ep,t,e,c⟩:=x;exact ⟨ob,es,ep,t,k _ _ (.inl rfl) e,c⟩
 | ins C dx fs =>
  obtain ⟨d,z,ne,e,mA,⟨od,es,ep,e2,c⟩,r⟩:=x;exact ⟨ho _ d,z,ne,k _ _ (.inl rfl) e,mA,⟨od,es,ep,k _ _ (.inr d) e2,c⟩,r⟩
 | own y=>obtain ⟨ob,e⟩:=x;exact ⟨ob,k _ _ (.inl rfl) e⟩
 | xd fs=>obtain ⟨mA,⟨od,es,ep,e,c⟩,r⟩:=x;exact ⟨mA,⟨od,es,ep,k _ _ (.inl rfl) e,c⟩,r⟩
 | rng lo hi=>obtain ⟨t,u,v,e⟩:=x;exact ⟨t,u,v,k _ _ (.inl rfl) e⟩
 | frz ob u ih=>obtain ⟨e,q⟩:=x;exact ⟨k _ _ (.inl rfl) e,ih q⟩
 | tbl ps =>
  have e:h.get? a=some { cls:=.none,data:=.fields ps }:=x;show h'.get? a=some { cls:=.none,data:=.fields ps };exact k a _ (.inl rfl) e
 | met f y =>
  have e:h.get? a=some (methodObj (.ref f) (.ref y)):=x;show h'.get? a=some (methodObj (.ref f) (.ref y));exact k a _ (.inl rfl) e
 | ext φ=>obtain ⟨p,⟨o,e⟩,st⟩:=x;exact ⟨st _ _ p fun o q=>k _ _ (.inl rfl) q,⟨o,k _ _ (.inl rfl) e⟩,st⟩
theorem HOk.lt (x:HOk P w H h)(e:H a=some o):a<h.objs.size:=(x a o e).lt
theorem HOk.fresh (x:HOk P w H h)(e:h.objs.size<=a):H a=none:=by
 cases q:H a with
 | none=>rfl
 | some u=>exact absurd (agI (x.lt q) e) (ahb _)
theorem HOk.kept (x:HOk P w H h)(k:∀ b u,h.get? b=some u->h'.get? b=some u):HOk P w H h':=fun a o e =>
 (x a o e).stay (fun b u _ q=>k b u q) (fun _ q=>q) fun _ _ q=>q
theorem HOk.laid (x:HOk P w H h)(k:∀ b u,h.get? b=some u->h'.get? b=some u)(hp:h.objs.size<=a)(new:gR P w (upd H a o) h' a o):HOk P w (upd H a o) h':=fun b u e=>by
 have hn:=x.fresh hp;by_cases hb:b=a
 ·subst hb;rw [aO] at e;cases e;exact new
 ·rw [aN hb] at e;exact (x b u e).stay (fun c v _ q=>k c v q) (fun c q=>by rw [aN (aY q hn)];exact q) fun c xs q=>by rw [aN (aY q hn)];exact q
end
def Rd (H:Hp)(a:Addr)(u:HO):Prop:=H a=some u\/∃ o,H a=some (.frz o u)
theorem Rd.ok {P:Program}{w:World}{H:Hp}{h:Heap}{a:Addr}{u:HO}(r:Rd H a u)(x:HOk P w H h):gR P w H h a u:=by
 rcases r with r| ⟨o,r⟩
 ·exact x a u r
 ·obtain ⟨_,q⟩:=x a _ r;exact q
def Mut:Option HO->Prop
 | some (.lst _)=>True
 | some (.dK _)=>True
 | some (.dT _)=>True
 | some (.set _ _)=>True
 | some (.ins _ _ _)=>True
 | some (.ext _)=>True
 | _=>False
section
variable {P:Program}{w:World}{H:Hp}{h h':Heap}{x e:Addr}{o':HO}
theorem HOk.write (ok:HOk P w H h)(mu:Mut (H x))(he:e=x\/H e=some (.own x))(k:∀ b u,b≠e->h.get? b=some u->h'.get? b=some u)(heo:∃ u,h'.get? e=some u)
  (new:gR P w (upd H x o') h' x o'):HOk P w (upd H x o') h':=fun b u q=>by
 have nown:∀ c y,H c=some (.own y)->c≠x:=fun c y r z=>by subst z;rw [r] at mu;exact mu
 have ntup:∀ c xs,H c=some (.tup xs)->c≠x:=fun c xs r z=>by subst z;rw [r] at mu;exact mu
 by_cases hb:b=x
 ·subst hb;rw [aO] at q;cases q;exact new
 ·rw [aN hb] at q;by_cases hbe:b=e
  ·have q':H b=some (.own x):=by
    rcases he with z| z
    ·exact absurd (hbe.trans z) hb
    ·rw [hbe];exact z
   rw [q] at q';cases q';obtain ⟨v,hv⟩:=heo;exact ⟨v,by rw [hbe];exact hv⟩
  ·refine (ok b u q).stay (fun c v hc r=>k c v ?_ r) (fun c r=>by rw [aN (nown c b r)];exact r) fun c xs r=>by rw [aN (ntup c xs r)];exact r
   rcases hc with rfl| hc
   ·exact hbe
   ·rintro rfl;rcases he with z| z
    ·exact nown c b hc z
    ·rw [hc] at z;cases z;exact hb rfl
end
structure Un (fs ex:List Addr)(H H':Hp)(h h':Heap):Prop where
 keep:∀ b o,h.get? b=some o->H b=none->b ∉ fs->b ∉ ex->h'.get? b=some o
 slot:∀ b o,h.get? b=some o->H b=none->b∈fs->b ∉ ex->∃ sl,h'.get? b=some { o with slots:=sl }
 free:∀ b o,h.get? b=some o->H b=none->b ∉ ex->H' b=none
 there:∀ b o,h.get? b=some o->b ∉ ex->∃ o',h'.get? b=some o'
 tups:∀ b xs,H b=some (.tup xs)->H' b=some (.tup xs)
 frzs:∀ b o u,H b=some (.frz o u)->H' b=some (.frz o u)
 tbls:∀ b ps,H b=some (.tbl ps)->∃ more,H' b=some (.tbl (ps++more))
section
variable {fs fs' ex ex':List Addr}{H H1 H2:Hp}{h h1 h2 h':Heap}{a x e:Addr}{o:HO}
theorem Un.any (u:Un fs ex H H1 h h1){b:Addr}{ob:Obj}(q:h.get? b=some ob)(n:H b=none)(hx:b ∉ ex):∃ sl,h1.get? b=some { ob with slots:=sl }:=by
 by_cases hb:b∈fs
 ·exact u.slot b ob q n hb hx
 ·exact ⟨ob.slots,u.keep b ob q n hb hx⟩
theorem Un.kept (k:∀ b u,h.get? b=some u->h'.get? b=some u):Un fs ex H H h h' :=
 ⟨fun b ob q _ _ _=>k b ob q,fun b ob q _ _ _=>⟨ob.slots,k b ob q⟩,fun _ _ _ n _=>n,fun b ob q _=>⟨ob,k b ob q⟩,fun _ _ q=>q,fun _ _ _ q=>q,fun _ ps q=>⟨#[],by rw [q];simp⟩⟩
theorem Un.refl:Un fs ex H H h h:=Un.kept fun _ _ q=>q
theorem Un.laid (k:∀ b u,h.get? b=some u->h'.get? b=some u)(hp:h.objs.size<=a)(hn:H a=none):Un fs ex H (upd H a o) h h' where
 keep:=fun b u q _ _ _=>k b u q;slot:=fun b u q _ _ _=>⟨u.slots,k b u q⟩;free:=fun b u q n _=>by rw [aN (agM (agI (agr q) hp))];exact n
 there:=fun b u q _=>⟨u,k b u q⟩;tups:=fun b xs q=>by rw [aN (aY q hn)];exact q
 frzs:=fun b u xs q=>by rw [aN (aY q hn)];exact q
 tbls:=fun b ps q=>⟨#[],by rw [aN (aY q hn),q];simp⟩
theorem Un.write (mu:Mut (H x))(he:e=x\/H e=some (.own x))(k:∀ b u,b≠e->h.get? b=some u->h'.get? b=some u)(heo:∃ u,h'.get? e=some u):Un fs ex H (upd H x o) h h':=by
 have hx:∀ b,H b=none->b≠x:=fun b n z=>by subst z;rw [n] at mu;exact mu
 have hb:∀ b,H b=none->b≠e:=fun b n z=>by
  subst z;rcases he with r| r
  ·exact hx b n r
  ·rw [n] at r;cases r
 have hm:∀ b u,H b=some u->¬ Mut (some u)->b≠x:=fun b u q nm z=>by subst z;rw [q] at mu;exact nm mu
 refine ⟨fun b u q n _ _=>k b u (hb b n) q,fun b u q n _ _=>⟨u.slots,k b u (hb b n) q⟩,fun b u q n _=>by rw [aN (hx b n)];exact n,fun b u q _=>?_,
  fun b xs q=>by rw [aN (hm b _ q fun z=>z)];exact q,fun b u xs q=>by rw [aN (hm b _ q fun z=>z)];exact q,fun b ps q=>⟨#[],by rw [aN (hm b _ q fun z=>z),q];simp⟩⟩
 by_cases hbe:b=e
 ·subst hbe;exact heo
 ·exact ⟨u,k b u hbe q⟩
end
def trk (h:Heap)(H:Hp):List Addr:=(List.range h.objs.size).filter fun a=>(H a).isSome
def TV (h:Heap)(H:Hp):Heap:=PySem.W.hideAll h (trk h H)
theorem RQ (h:Heap)(H:Hp):(TV h H).objs.size=h.objs.size:=PySem.W.hideAll_size _ _
theorem Vl {h:Heap}{H:Hp}{b:Addr}{o:Obj}(e:h.get? b=some o)(n:H b=none):(TV h H).get? b=some o:=
 PySem.W.hideAll_get _ e fun hm=>by
  have q:(H b).isSome=true:=(List.mem_filter.mp hm).2;rw [n] at q;simp at q
theorem abI {h:Heap}{H:Hp}{b:Addr}{o:Obj}(e:(TV h H).get? b=some o):h.get? b=some o/\H b=none:=by
 have e':h.get? b=some o:=PySem.W.of_hideAll (trk h H) e;refine ⟨e',?_⟩;cases q:H b with
 | none=>rfl
 | some x =>
  have hm:b∈trk h H:=List.mem_filter.mpr ⟨agK.mpr (agr e'),by simp [q]⟩;have z:(TV h H).get? b=none:=PySem.W.hideAll_none (trk h H) hm;rw [z] at e;cases e
structure Mod (K:PySem.W.Frag)(mg:Str->Option Value)(base:Heap):Prop where
 kin:K.In base
 glob:base.Ns mainGlobals mg
 blt:∃ mb,base.Ns builtinsNs mb/\∀ x:Str,x≠"__name__"->mb x=bootBuiltins x
 nolimit:base.NoLimit
structure Cx where
 prog:Program
 w:World
 K:PySem.W.Frag
 mg:Str->Option Value
 base:Heap
 A:Around
 N:List Str
 s₀:Shared
 H₀:Hp
 env:Env
 outer:List Env
 stack:List Env
 ex:List Addr
 fn:Str->Bool
 calm:Bool
 pn:List (Addr × Obj)
 xe:Value->Shared->Prop
def frs (l:List Env):List Addr:=l.filterMap (·.frame)
abbrev Cx.fs (X:Cx):List Addr:=frs X.outer
def Vis (sc:Scope)(x:Str):Prop:=sc.names.lookup x=some .local\/sc.names.lookup x=some .cell\/sc.names.lookup x=some .free
def Loc (sc:Scope)(x:Str):Prop:=sc.names.lookup x=some .local\/sc.names.lookup x=some .cell
def Look (env:Env)(h:Heap)(m:Str->Option Value)(x:Str)(u:Value):Prop:=
 (env.kindOf x=some .local/\m x=some u)\/((env.kindOf x=some .cell\/env.kindOf x=some .free)/\∃ c,env.cells.lookup x=some c/\h.IsCell c (some u))
structure Cx.Ok (X:Cx):Prop where
 mod:Mod X.K X.mg X.base
 kind:X.env.scope.kind=.function
 glob:X.env.globals=mainGlobals
 blt:X.env.builtins=builtinsNs
 above:X.s₀.heap.objs.size<=X.env.locals
 inj:∀ x y c,X.env.cells.lookup x=some c->X.env.cells.lookup y=some c->x=y
 has:∀ x,(X.env.kindOf x=some .cell\/X.env.kindOf x=some .free)->∃ c,X.env.cells.lookup x=some c
 cab:∀ x c,X.fn x=true->X.env.cells.lookup x=some c->X.s₀.heap.objs.size<=c
 hd:X.calm=true->X.A.handled=none
 frames:X.A.frames=some X.stack
 stk:X.stack=X.outer\/(X.stack=X.env::X.outer/\X.env.frame=some X.env.locals)
 exf:∀ b∈X.ex,b≠X.env.locals/\∀ x c,X.env.cells.lookup x=some c->c≠b
 bs:∀ b o,X.base.get? b=some o->X.s₀.heap.get? b=some o/\X.H₀ b=none
 bsz:X.base.objs.size<=X.s₀.heap.objs.size
 noex:∀ b o,X.base.get? b=some o->b ∉ X.ex
 exfs:∀ b∈X.ex,b ∉ X.fs
 M7:X.s₀.heap.FunFrames X.base X.outer
 frf:∀ b∈X.fs,X.H₀ b=none
structure Inv (X:Cx)(pins:List (Addr × Obj))(σ:List (Option V))(H:Hp)(s:Shared):Prop where
 ok:X.Ok
 os:s.os=X.s₀.os
 bare:AllBare s.gens
 base:Un X.fs X.ex X.H₀ H X.s₀.heap s.heap
 loc:∃ m,s.heap.Ns X.env.locals m/\∀ (i:Nat)(x:Str)(v:V),X.N[i]?=some x->σ[i]?=some (some v)->Vis X.env.scope x->∃ u,RelV v u/\Look X.env s.heap m x u
 cell:∀ x c,X.env.cells.lookup x=some c->∃ v,s.heap.IsCell c v
 free:H X.env.locals=none
 freeC:∀ x c,X.env.cells.lookup x=some c->H c=none
 pin:∀ p∈X.pn++pins,s.heap.get? p.1=some p.2/\H p.1=none/\p.1≠X.env.locals/\p.1 ∉ X.fs/\∀ v,p.2.data≠.cell v
 hok:HOk X.prog X.w H s.heap
 len:σ.length=X.N.length
section
variable {X:Cx}{pins:List (Addr × Obj)}{σ:List (Option V)}{H H':Hp}{s:Shared}{h':Heap}
theorem Cx.Ok.nofr (ok:X.Ok){b:Addr}{o:Obj}(e:X.base.get? b=some o):b ∉ X.fs:=fun hb=>by
 have:=(ok.M7.mem hb).1;rw [e] at this;cases this
theorem Inv.bs (I:Inv X pins σ H s):∀ b o,X.base.get? b=some o->s.heap.get? b=some o/\H b=none:=fun b o e =>
 ⟨I.base.keep b o (I.ok.bs b o e).1 (I.ok.bs b o e).2 (I.ok.nofr e) (I.ok.noex b o e),I.base.free b o (I.ok.bs b o e).1 (I.ok.bs b o e).2 (I.ok.noex b o e)⟩
theorem Inv.bk (I:Inv X pins σ H s):∀ b o,X.base.get? b=some o->s.heap.get? b=some o:=fun b o e=>(I.bs b o e).1
theorem Inv.mod (I:Inv X pins σ H s):Mod X.K X.mg X.base:=I.ok.mod
theorem Inv.kIn (I:Inv X pins σ H s):X.K.In s.heap:=I.ok.mod.kin.keeps I.bk
theorem Inv.nolimit (I:Inv X pins σ H s):s.heap.NoLimit:=I.ok.mod.nolimit.keeps I.bk
theorem Inv.lt (I:Inv X pins σ H s):X.env.locals<s.heap.objs.size:=let ⟨_,hn,_⟩:=I.loc;hn.lt
theorem Inv.sz (I:Inv X pins σ H s):X.s₀.heap.objs.size<=s.heap.objs.size:=agS I.ok.above (Nat.le_of_lt I.lt)
theorem Inv.nofs (I:Inv X pins σ H s){a:Addr}(h:s.heap.objs.size<=a):a ∉ X.fs:=fun hb=>by
 obtain ⟨_,o,ho,_⟩:=I.ok.M7.mem hb;exact absurd (agI (agr ho) (agS I.sz h)) (ahb _)
theorem Inv.cne (I:Inv X pins σ H s):∀ x c,X.env.cells.lookup x=some c->c≠X.env.locals:=fun x c e z=>by
 obtain ⟨v,o,ho,hd⟩:=I.cell x c e;obtain ⟨m,⟨o',es,ep,ho',hd',_⟩,_⟩:=I.loc;rw [z,ho'] at ho;cases ho;rw [hd'] at hd;cases hd
theorem Inv.M7 (I:Inv X pins σ H s):s.heap.FunFrames X.base X.outer:=by
 have all:∀ (l:List Env),(∀ b∈frs l,b∈X.fs)->X.s₀.heap.FunFrames X.base l->s.heap.FunFrames X.base l:=by
  intro l
  induction l with
  | nil=>intro _ _;trivial
  | cons env r ih =>
   intro hs hl;obtain ⟨hk,⟨L,o,hf,hn,ho,hd⟩,hr⟩:=hl;have hL:L∈X.fs:=hs L (by unfold frs;rw [ahP,hf];exact agB);obtain ⟨sl,e⟩:=I.base.slot L o ho (I.ok.frf L hL) hL fun z=>I.ok.exfs L z hL;exact ⟨hk,⟨L,_,hf,hn,e,hd⟩,ih (fun b hb=>hs b (by unfold frs;rw [ahP,hf];exact agv _ hb)) hr⟩
 exact all X.outer (fun _ hb=>hb) I.ok.M7
theorem Inv.stack (I:Inv X pins σ H s):s.heap.FunFrames X.base X.stack:=by
 rcases I.ok.stk with e| ⟨e,hf⟩
 ·rw [e];exact I.M7
 ·rw [e];obtain ⟨m,hn,_⟩:=I.loc;refine .cons (by rw [I.ok.kind];decide) hf hn ?_ I.M7;exact Heap.get?_none_of_le (agS I.ok.bsz I.ok.above)
theorem Inv.Qd (I:Inv X pins σ H s):∀ b∈frs X.stack,b∈X.env.locals::X.fs:=fun b hb=>by
 rcases I.ok.stk with e| ⟨e,hf⟩
 ·rw [e] at hb;exact agv _ hb
 ·rw [e] at hb;unfold frs at hb;rw [ahP,hf] at hb;exact hb
theorem Inv.FT (I:Inv X pins σ H s):∀ b∈frs X.stack,H b=none:=fun b hb=>by
 rcases agu.mp (I.Qd b hb) with e| hb
 ·rw [e];exact I.free
 ·obtain ⟨_,o,ho,_⟩:=I.ok.M7.mem hb;exact I.base.free b o ho (I.ok.frf b hb) fun z=>I.ok.exfs b z hb
theorem Inv.step {g':Array GenState}{t':Nat}{d':Drawn}{ch:List Addr}(I:Inv X pins σ H s)
  (hch:∀ b∈ch,(b∈X.ex\/X.s₀.heap.objs.size<=b)/\b≠X.env.locals/\(∀ x c,X.env.cells.lookup x=some c->c≠b)/\∀ p∈X.pn++pins,p.1≠b)
  (keep:∀ b o,b≠X.env.locals->b ∉ X.fs->b ∉ ch->s.heap.get? b=some o->H b=none->h'.get? b=some o)
  (slot:∀ b o,b≠X.env.locals->b∈X.fs->b ∉ ch->s.heap.get? b=some o->H b=none->∃ sl,h'.get? b=some { o with slots:=sl })(free:∀ b o,b ∉ ch->s.heap.get? b=some o->H b=none->H' b=none)
  (there:∀ b o,b ∉ ch->s.heap.get? b=some o->∃ o',h'.get? b=some o')
  (tups:∀ b xs,H b=some (.tup xs)->H' b=some (.tup xs))(frzs:∀ b o u,H b=some (.frz o u)->H' b=some (.frz o u))(tbls:∀ b ps,H b=some (.tbl ps)->∃ more,H' b=some (.tbl (ps++more)))
  (ns:∀ m,s.heap.Ns X.env.locals m->h'.Ns X.env.locals m)(hok:HOk X.prog X.w H' h')(hg:AllBare g'):
  Inv X pins σ H' { s with heap:=h',gens:=g',drawn:=d',toks:=t' }:=by
 have neL:∀ b o,X.s₀.heap.get? b=some o->b≠X.env.locals:=fun b o e=>agM (agI (agr e) I.ok.above)
 have neC:∀ b o,X.s₀.heap.get? b=some o->b ∉ X.ex->b ∉ ch:=fun b o e hx hb=>by
  rcases (hch b hb).1 with z| z
  ·exact hx z
  ·exact absurd (agI (agr e) z) (ahb _)
 have cellK:∀ x c,X.env.cells.lookup x=some c->∀ v,s.heap.IsCell c v->h'.IsCell c v:=fun x c e v ⟨o,ho,hd⟩=>by
  have nch:c ∉ ch:=fun z=>(hch c z).2.2.1 x c e rfl
  by_cases hc:c∈X.fs
  ·obtain ⟨sl,q⟩:=slot c o (I.cne x c e) hc nch ho (I.freeC x c e)
   exact ⟨_,q,hd⟩
  ·exact ⟨o,keep c o (I.cne x c e) hc nch ho (I.freeC x c e),hd⟩
 refine ⟨I.ok,I.os,hg,⟨fun b o e n hb hx=>?_,fun b o e n hb hx=>?_,fun b o e n hx=>?_,fun b o e hx=>?_,fun b xs e=>tups b xs (I.base.tups b xs e),fun b o xs e=>frzs b o xs (I.base.frzs b o xs e),fun b ps e=>?_⟩,?_,fun x c e=>?_,?_,fun x c e=>?_,fun p hp=>?_,hok,I.len⟩
 ·exact keep b o (neL b o e) hb (neC b o e hx) (I.base.keep b o e n hb hx) (I.base.free b o e n hx)
 ·obtain ⟨sl,e1⟩:=I.base.slot b o e n hb hx
  obtain ⟨sl',e2⟩:=slot b _ (neL b o e) hb (neC b o e hx) e1 (I.base.free b o e n hx)
  exact ⟨sl',e2⟩
 ·obtain ⟨o',e1⟩:=I.base.there b o e hx
  exact free b o' (neC b o e hx) e1 (I.base.free b o e n hx)
 ·obtain ⟨o',e1⟩:=I.base.there b o e hx
  exact there b o' (neC b o e hx) e1
 ·obtain ⟨m1,e1⟩:=I.base.tbls b ps e
  obtain ⟨m2,e2⟩:=tbls b _ e1
  exact ⟨m1++m2,by rw [e2,Array.append_assoc]⟩
 ·obtain ⟨m,hn,hl⟩:=I.loc
  refine ⟨m,ns m hn,fun i x v e1 e2 e3=>?_⟩
  obtain ⟨u,r,l⟩:=hl i x v e1 e2 e3
  refine ⟨u,r,?_⟩
  rcases l with l| ⟨k,c,e,z⟩
  ·exact .inl l
  ·exact .inr ⟨k,c,e,cellK x c e _ z⟩
 ·obtain ⟨v,z⟩:=I.cell x c e
  exact ⟨v,cellK x c e v z⟩
 ·obtain ⟨m,⟨o,_,_,ho,_⟩,_⟩:=I.loc
  exact free _ o (fun z=>(hch _ z).2.1 rfl) ho I.free
 ·obtain ⟨v,o,ho,hd⟩:=I.cell x c e
  exact free c o (fun z=>(hch c z).2.2.1 x c e rfl) ho (I.freeC x c e)
 ·obtain ⟨e,n,ne,nf,d⟩:=I.pin p hp
  have nch:p.1 ∉ ch:=fun z=>(hch p.1 z).2.2.2 p hp rfl
  exact ⟨keep p.1 p.2 ne nf nch e n,free p.1 p.2 nch e n,ne,nf,d⟩
theorem Inv.un {t':Nat}(I:Inv X pins σ H s)(u:Un X.fs [] H H' s.heap h')(hok:HOk X.prog X.w H' h'):Inv X pins σ H' { s with heap:=h',toks:=t' }:=by
 obtain ⟨m,⟨o,es,ep,ho,r⟩,_⟩:=id I.loc;obtain ⟨sl,hL⟩:=u.any ho I.free (by simp);exact I.step (g':=s.gens) (d':=s.drawn) (ch:=[]) (fun _ z=>nomatch z) (fun b o _ hb _ e n=>u.keep b o e n hb (by simp)) (fun b o _ hb _ e n=>u.slot b o e n hb (by simp)) (fun b o _ e n=>u.free b o e n (by simp)) (fun b o _ e=>u.there b o e (by simp)) u.tups u.frzs u.tbls (fun m' hm=>by
  obtain ⟨o',es',ep',ho',r'⟩:=hm;rw [ho] at ho';cases ho';exact ⟨_,es',ep',hL,r'⟩) hok I.bare
theorem Inv.call {g':Array GenState}{t':Nat}{d':Drawn}{ch:List Addr}(I:Inv X pins σ H s)(u:Un (frs X.stack) ch H H' s.heap h')(hok:HOk X.prog X.w H' h')(hg:AllBare g')
  (hch:∀ b∈ch,(b∈X.ex\/X.s₀.heap.objs.size<=b)/\b≠X.env.locals/\(∀ x c,X.env.cells.lookup x=some c->c≠b)/\∀ p∈X.pn++pins,p.1≠b):
  Inv X pins σ H' { s with heap:=h',gens:=g',drawn:=d',toks:=t' }:=by
 obtain ⟨m,⟨o,es,ep,ho,r⟩,_⟩:=id I.loc
 obtain ⟨sl,hL⟩:=u.any ho I.free fun z=>(hch _ z).2.1 rfl
 exact I.step (ch:=ch) hch (fun b o hL hb hc e n=>u.keep b o e n (fun z=>(agu.mp (I.Qd b z)).elim hL hb) hc) (fun b o _ _ hc e n=>u.any e n hc) (fun b o hc e n=>u.free b o e n hc) (fun b o hc e=>u.there b o e hc) u.tups u.frzs u.tbls (fun m' hm=>by
  obtain ⟨o',es',ep',ho',r'⟩:=hm
  rw [ho] at ho';cases ho'
  exact ⟨_,es',ep',hL,r'⟩) hok hg
theorem Inv.turned {t':Nat}{it:Addr}(I:Inv X pins σ H s)(k:∀ b o,b≠it->s.heap.get? b=some o->h'.get? b=some o)(hn:H it=none)(hL:it≠X.env.locals)
  (h1:it∈X.ex\/X.s₀.heap.objs.size<=it)(h2:∀ x c,X.env.cells.lookup x=some c->c≠it)(h3:∀ p∈X.pn++pins,p.1≠it):Inv X pins σ H { s with heap:=h',toks:=t' }:=by
 have nit:∀ b u,H b=some u->b≠it:=fun b u e z=>by rw [z,hn] at e;cases e
 refine I.step (g':=s.gens) (d':=s.drawn) (ch:=[it]) (fun b hb=>?_) (fun b o _ _ hc e _=>k b o (fun z=>hc (by simp [z])) e) (fun b o _ _ hc e _=>⟨o.slots,k b o (fun z=>hc (by simp [z])) e⟩) (fun _ _ _ _ n=>n)
  (fun b o hc e=>⟨o,k b o (fun z=>hc (by simp [z])) e⟩) (fun _ _ e=>e) (fun _ _ _ e=>e) (fun b ps e=>⟨#[],by rw [e];simp⟩) (fun m hm=>?_) (fun b u e=>?_) I.bare
 ·have e:b=it:=by simpa using hb
  subst e;exact ⟨h1,hL,h2,h3⟩
 ·obtain ⟨o,es,ep,ho,r⟩:=hm;exact ⟨o,es,ep,k _ o (Ne.symm hL) ho,r⟩
 ·refine (I.hok b u e).stay (fun c v hc q=>k c v ?_ q) (fun _ q=>q) fun _ _ q=>q;rcases hc with z| z
  ·rw [z];exact nit b u e
  ·exact nit c _ z
theorem Inv.tok (I:Inv X pins σ H s)(t:Nat):Inv X pins σ H { s with toks:=t }:=I.un (h':=s.heap) (t':=t) Un.refl I.hok
theorem Inv.kept {t':Nat}(I:Inv X pins σ H s)(k:∀ b u,s.heap.get? b=some u->h'.get? b=some u):Inv X pins σ H { s with heap:=h',toks:=t' }:=I.un (Un.kept k) (I.hok.kept k)
theorem Inv.laid {a:Addr}{o:HO}{t':Nat}(I:Inv X pins σ H s)(k:∀ b u,s.heap.get? b=some u->h'.get? b=some u)(hp:s.heap.objs.size<=a)(new:gR X.prog X.w (upd H a o) h' a o):
  Inv X pins σ (upd H a o) { s with heap:=h',toks:=t' }:=I.un (Un.laid k hp (I.hok.fresh hp)) (I.hok.laid k hp new)
theorem Inv.write {x e:Addr}{o:HO}{t':Nat}(I:Inv X pins σ H s)(mu:Mut (H x))(he:e=x\/H e=some (.own x))(k:∀ b u,b≠e->s.heap.get? b=some u->h'.get? b=some u)(heo:∃ u,h'.get? e=some u)
  (new:gR X.prog X.w (upd H x o) h' x o):Inv X pins σ (upd H x o) { s with heap:=h',toks:=t' }:=I.un (Un.write mu he k heo) (I.hok.write mu he k heo new)
theorem Inv.J5 {pins':List (Addr × Obj)}(I:Inv X pins σ H s)(h:∀ p∈pins',s.heap.get? p.1=some p.2/\H p.1=none/\p.1≠X.env.locals/\p.1 ∉ X.fs/\∀ v,p.2.data≠.cell v):Inv X pins' σ H s:=
 ⟨I.ok,I.os,I.bare,I.base,I.loc,I.cell,I.free,I.freeC,fun p hp=>(agw.mp hp).elim (fun z=>I.pin p (agT _ z)) (h p),I.hok,I.len⟩
theorem Mt {N:List Str}(hN:N.Nodup){i j:Nat}{x:Str}(a:N[i]?=some x)(b:N[j]?=some x):i=j:=by
 obtain ⟨h1,e1⟩:=af4.mp a;obtain ⟨h2,e2⟩:=af4.mp b;exact (ahy hN).mp (e1.trans e2.symm)
theorem Ht {M:Model}{A:Around}{E:Value->Shared->Prop}{i:Nat}{x:Str}{v:V}{u:Value}{Q:Unit->Shared->Prop}(I:Inv X pins σ H s)(hN:X.N.Nodup)(hi:X.N[i]?=some x)(hx:Loc X.env.scope x)(r:RelV v u)
  (h:∀ s',Inv X pins (σ.set i (some v)) H s'->(∃ a,Heap.SameBut a s.heap s'.heap/\(a=X.env.locals\/X.env.cells.lookup x=some a))->Q () s')(hf:X.fn x=true\/X.env.scope.names.lookup x=some .local:=by first| exact .inl rfl| exact .inr rfl| assumption):wpAny M A (storeName X.env x u) Q E s:=by
 obtain ⟨m,hn,hl⟩:=id I.loc;have hcls:(X.env.scope.kind == .class|| (X.env.scope.kind == .module&& X.env.locals !=X.env.globals))=false:=by rw [I.ok.kind];rfl
 have hiσ:i<σ.length:=by rw [I.len];exact (af4.mp hi).1
 have cne:=I.cne;have tracked:∀ {a:Addr}{h':Heap},(∃ o,s.heap.get? a=some o/\H a=none)->Heap.SameBut a s.heap h'->HOk X.prog X.w H h':=fun {a h'} ha hs b ob e=>by
  obtain ⟨_,_,hfree⟩:=ha;refine (I.hok b ob e).stay (fun c w' hc q=>(hs.2 c ?_).trans q) (fun _ q=>q) fun _ _ q=>q;rintro rfl;rcases hc with rfl| hc
  ·rw [hfree] at e;cases e
  ·rw [hfree] at hc;cases hc
 rcases hx with hk| hk
 ·refine wpAny_storeName_local hk hn (fun h' hn' hs=>?_) hcls;obtain ⟨oL,_,_,hoL,_⟩:=id hn;refine h _ ⟨I.ok,I.os,I.bare,⟨fun b o e n hb hx=>?_,fun b o e n hb hx=>?_,I.base.free,fun b o e hx=>?_,I.base.tups,I.base.frzs,I.base.tbls⟩,⟨_,hn',fun j y v' e1 e2 e3=>?_⟩,fun y c e=>?_,I.free,I.freeC,fun p hp=>?_,tracked ⟨oL,hoL,I.free⟩ hs,by simpa using I.len⟩ ⟨_,hs,.inl rfl⟩
  ·exact (hs.2 b (agM (agI (agr e) I.ok.above))).trans (I.base.keep b o e n hb hx)
  ·obtain ⟨sl,e1⟩:=I.base.slot b o e n hb hx;exact ⟨sl,(hs.2 b (agM (agI (agr e) I.ok.above))).trans e1⟩
  ·obtain ⟨o',e1⟩:=I.base.there b o e hx;exact ⟨o',(hs.2 b (agM (agI (agr e) I.ok.above))).trans e1⟩
  ·by_cases hj:j=i
   ·subst hj;rw [hi] at e1;cases e1;rw [ag8 hiσ] at e2;cases e2;exact ⟨u,r,.inl ⟨hk,by simp⟩⟩
   ·rw [ahu (Ne.symm hj)] at e2;obtain ⟨u',r',q⟩:=hl j y v' e1 e2 e3;refine ⟨u',r',?_⟩;rcases q with ⟨k,e⟩ | ⟨k,c,e,z⟩
    ·refine .inl ⟨k,?_⟩;have:y≠x:=fun e=>hj (Mt hN e1 (e ▸ hi));simp [this,e]
    ·exact .inr ⟨k,c,e,z.sameBut hs (cne y c e)⟩
  ·obtain ⟨w',z⟩:=I.cell y c e;exact ⟨w',z.sameBut hs (cne y c e)⟩
  ·obtain ⟨e,n,ne,nf,d⟩:=I.pin p hp;exact ⟨(hs.2 p.1 ne).trans e,n,ne,nf,d⟩
 ·have hfn:X.fn x=true:=by
   rcases hf with z| z
   ·exact z
   ·rw [z] at hk;cases hk
  obtain ⟨c,hc⟩:=I.ok.has x (.inl hk);obtain ⟨w',z⟩:=I.cell x c hc;refine wpAny_storeName_cell I.ok.kind hk hc z (fun h' hc' hs=>?_);obtain ⟨oc,hoc,hocd⟩:=id z;refine h { s with heap:=h' } ⟨I.ok,I.os,I.bare,⟨fun b o e n hb hx=>?_,fun b o e n hb hx=>?_,I.base.free,fun b o e hx=>?_,I.base.tups,I.base.frzs,I.base.tbls⟩,⟨m,hn.sameBut hs (Ne.symm (cne x c hc)),fun j y v' e1 e2 e3=>?_⟩,fun y c' e=>?_,I.free,I.freeC,fun p hp=>?_,tracked ⟨oc,hoc,I.freeC x c hc⟩ hs,by simpa using I.len⟩ ⟨c,hs,.inr hc⟩
  ·exact (hs.2 b (agM (agI (agr e) (I.ok.cab x c hfn hc)))).trans (I.base.keep b o e n hb hx)
  ·obtain ⟨sl,e1⟩:=I.base.slot b o e n hb hx;exact ⟨sl,(hs.2 b (agM (agI (agr e) (I.ok.cab x c hfn hc)))).trans e1⟩
  ·obtain ⟨o',e1⟩:=I.base.there b o e hx;exact ⟨o',(hs.2 b (agM (agI (agr e) (I.ok.cab x c hfn hc)))).trans e1⟩
  ·by_cases hj:j=i
   ·subst hj;rw [hi] at e1;cases e1;rw [ag8 hiσ] at e2;cases e2;exact ⟨u,r,.inr ⟨.inl hk,c,hc,hc'⟩⟩
   ·rw [ahu (Ne.symm hj)] at e2;obtain ⟨u',r',q⟩:=hl j y v' e1 e2 e3;refine ⟨u',r',?_⟩;rcases q with q| ⟨k,c',e,z'⟩
    ·exact .inl q
    ·refine .inr ⟨k,c',e,z'.sameBut hs ?_⟩;rintro rfl;exact hj (Mt hN e1 (I.ok.inj _ _ _ e hc ▸ hi))
  ·by_cases hcc:c'=c
   ·subst hcc;exact ⟨_,hc'⟩
   ·obtain ⟨w2,z2⟩:=I.cell y c' e;exact ⟨w2,z2.sameBut hs hcc⟩
  ·obtain ⟨e,n,ne,nf,d⟩:=I.pin p hp;refine ⟨(hs.2 p.1 ?_).trans e,n,ne,nf,d⟩;intro q;rw [q,hoc] at e;have q':oc=p.2:=agz e;exact d w' (by rw [<- q'];exact hocd)
theorem FQ {M:Model}{A:Around}{E:Value->Shared->Prop}{i:Nat}{x:Str}{v:V}{u:Value}{Q:Unit->Shared->Prop}(I:Inv X pins σ H s)(hN:X.N.Nodup)(hi:X.N[i]?=some x)(hx:Loc X.env.scope x)(r:RelV v u)
  (h:∀ s',Inv X pins (σ.set i (some v)) H s'->Q () s')(hf:X.fn x=true\/X.env.scope.names.lookup x=some .local:=by first| exact .inl rfl| exact .inr rfl| assumption):wpAny M A (storeName X.env x u) Q E s:=
 Ht I hN hi hx r (fun s' I' _=>h s' I') hf
theorem Inv.call' {s':Shared}{ch:List Addr}(I:Inv X pins σ H s)(ho:s'.os=s.os)(u:Un (frs X.stack) ch H H' s.heap s'.heap)(hok:HOk X.prog X.w H' s'.heap)(hg:AllBare s'.gens)
  (hch:∀ b∈ch,(b∈X.ex\/X.s₀.heap.objs.size<=b)/\b≠X.env.locals/\(∀ x c,X.env.cells.lookup x=some c->c≠b)/\∀ p∈X.pn++pins,p.1≠b):Inv X pins σ H' s':=by
 obtain ⟨h',g',d',t',o'⟩:=s';have e:o'=s.os:=ho;subst e;exact I.call (g':=g') (t':=t') (d':=d') u hok hg hch
end
abbrev XK:=Value->Option Addr->Hp->Prop
abbrev St:=List (Option V)
abbrev VK:=V->Hp->Prop
abbrev TE:=St->Hp->VK->Prop
abbrev TT:=St->Hp->(Bool->Hp->Prop)->Prop
abbrev TA:=St->Hp->(List V->Hp->Prop)->Prop
structure Ends where
 nx:St->Hp->Prop
 rt:VK
 bk:St->Hp->Prop:=fun _ _=>False
 ct:St->Hp->Prop:=fun _ _=>False
abbrev TS:=Ends->St->Hp->Prop
def EP (X:Cx)(pins:List (Addr × Obj))(σ:St)(Q:VK)(u:Value)(s':Shared):Prop:=∃ v H',Inv X pins σ H' s'/\RelV v u/\Q v H'
def TP (X:Cx)(pins:List (Addr × Obj))(σ:St)(Q:Bool->Hp->Prop)(b:Bool)(s':Shared):Prop:=∃ H',Inv X pins σ H' s'/\Q b H'
def AP (X:Cx)(pins:List (Addr × Obj))(σ:St)(Q:List V->Hp->Prop)(us:List Value)(s':Shared):Prop:=∃ vs H',Inv X pins σ H' s'/\Vals vs us/\Q vs H'
def SP (X:Cx)(pins:List (Addr × Obj))(D:Ends)(f:Flow)(s':Shared):Prop:=
 match f with
 | .next=>∃ σ' H',Inv X pins σ' H' s'/\D.nx σ' H'
 | .brk=>∃ σ' H',Inv X pins σ' H' s'/\D.bk σ' H'
 | .cont=>∃ σ' H',Inv X pins σ' H' s'/\D.ct σ' H'
 | .ret u=>∃ v σ' H',Inv X pins σ' H' s'/\RelV v u/\D.rt v H'
def PE (X:Cx)(e:Expr)(t:TE):Prop:=
 ∀ (pins:List (Addr × Obj))(s:Shared)(σ:St)(H:Hp)(Q:VK),Inv X pins σ H s->t σ H Q->wpAny (model X.prog X.w) X.A (eval e X.env) (EP X pins σ Q) X.xe s
def PT (X:Cx)(e:Expr)(t:TT):Prop:=
 ∀ (pins:List (Addr × Obj))(s:Shared)(σ:St)(H:Hp)(Q:Bool->Hp->Prop),Inv X pins σ H s->t σ H Q->wpAny (model X.prog X.w) X.A (isTrue e X.env (eval e X.env)) (TP X pins σ Q) X.xe s
def PW (X:Cx)(e:Expr)(t:TT):Prop:=
 ∀ (whole:Sem Value)(pins:List (Addr × Obj))(s:Shared)(σ:St)(H:Hp)(Q:Bool->Hp->Prop),Inv X pins σ H s->t σ H Q->wpAny (model X.prog X.w) X.A (isTrue e X.env whole) (TP X pins σ Q) X.xe s
theorem PW.pt {X:Cx}{e:Expr}{t:TT}(h:PW X e t):PT X e t:=h _
def PA (X:Cx)(es:List Expr)(t:TA):Prop:=
 ∀ (pos:Pos)(pins:List (Addr × Obj))(s:Shared)(σ:St)(H:Hp)(Q:List V->Hp->Prop),Inv X pins σ H s->t σ H Q->wpAny (model X.prog X.w) X.A (spliced (backTo pos (starEach es X.env))) (AP X pins σ Q) X.xe s
def PS (X:Cx)(st:Stmt)(t:TS):Prop:=
 ∀ (pins:List (Addr × Obj))(s:Shared)(σ:St)(H:Hp)(D:Ends),Inv X pins σ H s->t D σ H->wpAny (model X.prog X.w) X.A (exec st X.env) (SP X pins D) X.xe s
def PSs (X:Cx)(st:List Stmt)(t:TS):Prop:=
 ∀ (pins:List (Addr × Obj))(s:Shared)(σ:St)(H:Hp)(D:Ends),Inv X pins σ H s->t D σ H->wpAny (model X.prog X.w) X.A (execs st X.env) (SP X pins D) X.xe s
theorem thn {α:Type}{t:Sem α}{Q Q':α->Shared->Prop}{M:Model}{A:Around}{E:Value->Shared->Prop}{s:Shared}(h:wpAny M A t Q E s)(hQ:∀ a s,Q a s->Q' a s):wpAny M A t Q' E s:=wpAny_mono h hQ fun _ _ x=>x
section
variable {X:Cx}
inductive ach (i:Nat)(σ:St)(H:Hp)(Q:VK):Prop
 | mk (v:V)(_:σ[i]?=some (some v))(_:Q v H)
def tC (v:V):TE:=fun _ H Q=>Q v H
theorem acX {i:Nat}{x:Str}{pos:Pos}(hN:X.N[i]?=some x)(hv:Vis X.env.scope x)(hd:(x ==("__debug__":Str))=false:=by decide)(hcd:(x ==("__classdict__":Str))=false:=by decide):PE X (.Name x pos) (ach i):=by
 intro pins s σ H Q I h;obtain ⟨v,e,h⟩:=h;obtain ⟨m,hn,hl⟩:=I.loc;obtain ⟨u,r,l⟩:=hl i x v hN e hv;have fin:EP X pins σ Q u s:=⟨v,H,I,r,h⟩;rcases l with ⟨hk,hm⟩ | ⟨hk,c,hc,hcell⟩
 ·exact wpAny_Name (wpAny_loadName_local I.ok.kind hk hn hm fin) hd
 ·rcases hk with hk| hk
  ·exact wpAny_Name (wpAny_loadName_cell I.ok.kind hk hc hcell fin) hd
  ·exact wpAny_Name (wpAny_loadName_free I.ok.kind hk hc hcell fin hcd) hd
theorem aA {i j pos}:PE X (.Constant (.int i) j pos) (tC (.int i)):=fun _ _ _ H _ I h=>wpAny_Constant_int ⟨.int i,H,I.tok _,⟨_,rfl⟩,h⟩
theorem Cp {b j pos}:PE X (.Constant (.bool b) j pos) (tC (.bl b)):=fun _ _ _ H _ I h=>Constant_bool ⟨.bl b,H,I,rfl,h⟩
theorem yE {j pos}:PE X (.Constant .none j pos) (tC .non):=fun _ _ _ H _ I h=>Constant_none ⟨.non,H,I,rfl,h⟩
theorem cO {x j pos}:PE X (.Constant (.str x) j pos) (tC (.str x)):=fun _ _ _ H _ I h=>Calls.Constant_str ⟨.str x,H,I.tok _,⟨_,rfl⟩,h⟩
def Gl (X:Cx)(x:Str):Prop:=X.env.kindOf x=some .globalImplicit
theorem uf {E:Value->Shared->Prop}{pins:List (Addr × Obj)}{s:Shared}{σ:St}{H:Hp}{x:Str}{u:Value}{pos:Pos}{Q:Value->Shared->Prop}(I:Inv X pins σ H s)(hg:Gl X x)(hm:X.mg x=some u)(h:Q u s)
  (hd:(x ==("__debug__":Str))=false:=by decide):wpAny (model X.prog X.w) X.A (eval (.Name x pos) X.env) Q E s:=
 Calls.Name_function_global I.ok.kind hg (Calls.loadGlobal_global (by rw [I.ok.glob];exact I.mod.glob.keeps I.bk) hm h) hd
theorem nj {E:Value->Shared->Prop}{pins:List (Addr × Obj)}{s:Shared}{σ:St}{H:Hp}{x:Str}{u:Value}{pos:Pos}{Q:Value->Shared->Prop}(I:Inv X pins σ H s)(hg:Gl X x)(hm:X.mg x=none)(hv:bootBuiltins x=some u)(h:Q u s)
  (hn:x≠"__name__":=by decide)(hd:(x ==("__debug__":Str))=false:=by decide):wpAny (model X.prog X.w) X.A (eval (.Name x pos) X.env) Q E s:=by
 obtain ⟨mb,h1,h2⟩:=I.mod.blt;exact Calls.Name_function_global I.ok.kind hg (Calls.loadGlobal_builtin (by rw [I.ok.glob];exact I.mod.glob.keeps I.bk) hm (by rw [I.ok.blt];exact h1.keeps I.bk) ((h2 x hn).trans hv) h) hd
theorem fP {x:Str}{v:V}{u:Value}{pos:Pos}(hg:Gl X x)(hm:X.mg x=some u)(r:RelV v u)(hd:(x ==("__debug__":Str))=false:=by decide):PE X (.Name x pos) (tC v):=
 fun _ _ _ H _ I h=>uf I hg hm ⟨v,H,I,r,h⟩ hd
theorem Q5 {x:Str}{v:V}{u:Value}{pos:Pos}(hg:Gl X x)(hm:X.mg x=none)(hv:bootBuiltins x=some u)(r:RelV v u)(hn:x≠"__name__":=by decide)(hd:(x ==("__debug__":Str))=false:=by decide):PE X (.Name x pos) (tC v):=
 fun _ _ _ H _ I h=>nj I hg hm hv ⟨v,H,I,r,h⟩ hn hd
def t2I (ta tb:TE)(k:Int->Int->Hp->Prop):St->Hp->Prop:=fun σ H=>ta σ H fun x H1=>tb σ H1 fun y H2=>∃ i j,x=.int i/\y=.int j/\k i j H2
variable {a b:Expr}{ta tb:TE}{pos:Pos}
def aci (p:Int->Int->Bool)(ta tb:TE):TE:=fun σ H Q=>t2I ta tb (fun i j H2=>Q (.bl (p i j)) H2) σ H
inductive adF (x:V)(P:Bool->Prop):Prop
 | mk (c:Bool)(_:x=.bl c)(_:P c)
def tB (t:TE):TT:=fun σ H Q=>t σ H fun x H1=>adF x fun c=>Q c H1
theorem iy {e:Expr}{t:TE}(h:PE X e t)(he:∀ whole,isTrue e X.env whole=(do let v <- whole;standAt e.pos;holding [v] (truthy v)):=by intro _;rfl):PT X e (tB t):=by
 intro pins s σ H Q I hw;refine isTrue_plain (thn (h pins s σ H _ I hw) fun v s1 ⟨x,H1,I1,r1,q1⟩=>?_) (he _);obtain ⟨d,rfl,q⟩:=q1;cases r1;exact wpAny_truthy_bool ⟨H1,I1,q⟩
variable {tA tB':TT}{rest:List Expr}
def tAnd (t u:TT):TT:=fun σ H Q=>t σ H fun c H1=>if c=true then u σ H1 Q else Q false H1
def tOr (t u:TT):TT:=fun σ H Q=>t σ H fun c H1=>if c=true then Q true H1 else u σ H1 Q
def tNot (t:TT):TT:=fun σ H Q=>t σ H fun c H1=>Q (!c) H1
theorem pw_and1 (ha:PT X a tA):PW X (.BoolOp .And [a] pos) tA:=by
 intro wh pins s σ H Q I h;refine isTrue_and (thn (ha pins s σ H Q I h) fun c s1 e=>?_);cases c with
 | true=>exact isTrue_and_nil e
 | false=>exact e
theorem pw_or1 (ha:PT X a tA):PW X (.BoolOp .Or [a] pos) tA:=by
 intro wh pins s σ H Q I h;refine isTrue_or (thn (ha pins s σ H Q I h) fun c s1 e=>?_);cases c with
 | false=>exact isTrue_or_nil e
 | true=>exact e
theorem pw_and (ha:PT X a tA)(hb:PW X (.BoolOp .And (b::rest) pos) tB'):PW X (.BoolOp .And (a::b::rest) pos) (tAnd tA tB'):=by
 intro wh pins s σ H Q I h;refine isTrue_and (thn (ha pins s σ H _ I h) fun c s1 ⟨H1,I1,q1⟩=>?_);cases c with
 | true=>exact hb wh pins s1 σ H1 Q I1 q1
 | false=>exact ⟨H1,I1,q1⟩
theorem pw_or (ha:PT X a tA)(hb:PW X (.BoolOp .Or (b::rest) pos) tB'):PW X (.BoolOp .Or (a::b::rest) pos) (tOr tA tB'):=by
 intro wh pins s σ H Q I h;refine isTrue_or (thn (ha pins s σ H _ I h) fun c s1 ⟨H1,I1,q1⟩=>?_);cases c with
 | true=>exact ⟨H1,I1,q1⟩
 | false=>exact hb wh pins s1 σ H1 Q I1 q1
theorem jq (ha:PT X a tA):PT X (.UnaryOp .Not a pos) (tNot tA):=by
 intro pins s σ H Q I h;exact isTrue_not (ha pins s σ H (fun c H1=>Q (!c) H1) I h)
def aeO (ta tb:TE):TE:=fun σ H Q=>ta σ H fun x H1=>adF x fun c=>if c=true then tb σ H1 Q else Q (.bl false) H1
def tOrV (ta tb:TE):TE:=fun σ H Q=>ta σ H fun x H1=>adF x fun c=>if c=true then Q (.bl true) H1 else tb σ H1 Q
def aeG (ta:TE):TE:=fun σ H Q=>ta σ H fun x H1=>adF x fun c=>Q (.bl (!c)) H1
theorem Ma {op} {t:TE} (h:PE X a t):PE X (.BoolOp op [a] pos) t:=fun pins s σ H Q I hw=>BoolOp_one (h pins s σ H Q I hw)
theorem Mg (ha:PE X a ta)(hb:PE X (.BoolOp .And (b::rest) pos) tb):PE X (.BoolOp .And (a::b::rest) pos) (aeO ta tb):=by
 intro pins s σ H Q I h;refine BoolOp_and (thn (ha pins s σ H _ I h) fun v s1 ⟨x,H1,I1,r1,q1⟩=>?_);obtain ⟨c,rfl,q1⟩:=q1;cases r1;refine wpAny_truthy_bool ?_;cases c with
 | true=>exact hb pins s1 σ H1 Q I1 q1
 | false=>exact ⟨.bl false,H1,I1,rfl,q1⟩
theorem ae3 (ha:PE X a ta)(hb:PE X (.BoolOp .Or (b::rest) pos) tb):PE X (.BoolOp .Or (a::b::rest) pos) (tOrV ta tb):=by
 intro pins s σ H Q I h;refine BoolOp_or (thn (ha pins s σ H _ I h) fun v s1 ⟨x,H1,I1,r1,q1⟩=>?_);obtain ⟨c,rfl,q1⟩:=q1;cases r1;refine wpAny_truthy_bool ?_;cases c with
 | false=>exact hb pins s1 σ H1 Q I1 q1
 | true=>exact ⟨.bl true,H1,I1,rfl,q1⟩
theorem acY (ha:PE X a ta):PE X (.UnaryOp .Not a pos) (aeG ta):=by
 intro pins s σ H Q I h;refine UnaryOp_ (thn (ha pins s σ H _ I h) fun v s1 ⟨x,H1,I1,r1,q1⟩=>?_);obtain ⟨c,rfl,q1⟩:=q1;cases r1;exact not_of (wpAny_truthy_bool ⟨.bl (!c),H1,I1,rfl,q1⟩)
def tIf (t:TT)(ta tb:TE):TE:=fun σ H Q=>t σ H fun c H1=>if c=true then ta σ H1 Q else tb σ H1 Q
theorem Mf {c:Expr}(hc:PT X c tA)(ha:PE X a ta)(hb:PE X b tb):PE X (.IfExp c a b pos) (tIf tA ta tb):=by
 intro pins s σ H Q I h;refine wpAny_IfExp (thn (hc pins s σ H _ I h) fun d s1 ⟨H1,I1,q1⟩=>?_);cases d with
 | true=>exact ha pins s1 σ H1 Q I1 q1
 | false=>exact hb pins s1 σ H1 Q I1 q1
end
def SqL (K:PySem.W.Frag)(H:Hp)(a:Addr)(xs:List V):Prop:=
 Rd H a (.lst xs) \/
  ∃ (o:Obj)(its:Array Value)(n:Nat),K.lookup a=some o/\o.cls=.type "list"/\o.dict=none/\o.data=.seq its n/\its.size<=sizeLine/\Vals xs its.toList
def SqT (K:PySem.W.Frag)(H:Hp)(a:Addr)(xs:List V):Prop:=
 Rd H a (.tup xs) \/
  ∃ (o:Obj)(its:Array Value)(n:Nat),K.lookup a=some o/\o.cls=.type "tuple"/\o.data=.seq its n/\its.size<=sizeLine/\Vals xs its.toList
def absV:Value->Option V
 | .none=>some .non
 | .bool b=>some (.bl b)
 | .int i _=>some (.int i)
 | .str x _=>some (.str x)
 | .bytes b _=>some (.byt b)
 | .float b _=>some (.flt b)
 | .ref a=>some (.ref a)
 | .type n=>some (.ty n)
 | _=>none
theorem RelV.abs {x:V}{u:Value}(r:RelV x u):absV u=some x:=by
 cases x with
 | non=>cases r;rfl
 | bl _=>cases r;rfl
 | int _=>obtain ⟨t,rfl⟩:=r;rfl
 | str _=>obtain ⟨t,rfl⟩:=r;rfl
 | byt _=>obtain ⟨t,rfl⟩:=r;rfl
 | flt _=>obtain ⟨t,rfl⟩:=r;rfl
 | ref _=>cases r;rfl
 | ty _=>cases r;rfl
theorem RelV.inj {x y:V}{u:Value}(r:RelV x u)(q:RelV y u):x=y:=agz (r.abs.symm.trans q.abs)
theorem Vals.inj:∀ {xs ys:List V}{us:List Value},Vals xs us->Vals ys us->xs=ys
 | _,_,_,.nil,.nil=>rfl
 | _,_,_,.cons r t,.cons r' t'=>by rw [r.inj r',Vals.inj t t']
section
variable {X:Cx}{pins:List (Addr × Obj)}{σ:St}{H:Hp}{s:Shared}{a:Addr}{xs ys:List V}
theorem SqL.of {K:PySem.W.Frag}(h:H a=some (.lst xs)):SqL K H a xs:=.inl (.inl h)
theorem SqT.of {K:PySem.W.Frag}(h:H a=some (.tup xs)):SqT K H a xs:=.inl (.inl h)
theorem Inv.list (I:Inv X pins σ H s)(h:SqL X.K H a xs):∃ its:List Value,Vals xs its/\PlainL s.heap a its.toArray/\xs.length<=sizeLine:=by
 rcases h with h| ⟨o,its,n,hk,hc,hd,hs,hz,r⟩
 ·obtain ⟨z,its,n,r,e⟩:=h.ok I.hok;exact ⟨its,r,⟨_,n,e,rfl,rfl,rfl⟩,z⟩
 ·refine ⟨its.toList,r,⟨o,n,I.kIn a o hk,hc,hd,by simpa using hs⟩,?_⟩;have e:=r.length;simp only [agY] at e;omega
theorem Inv.tuple (I:Inv X pins σ H s)(h:SqT X.K H a xs):∃ its:List Value,Vals xs its/\IsTup s.heap a its.toArray/\xs.length<=sizeLine:=by
 rcases h with h| ⟨o,its,n,hk,hc,hs,hz,r⟩
 ·obtain ⟨z,its,r,p⟩:=h.ok I.hok;exact ⟨its,r,p,z⟩
 ·refine ⟨its.toList,r,⟨o,I.kIn a o hk,hc,n,by simpa using hs⟩,?_⟩;have e:=r.length;simp only [agY] at e;omega
theorem Inv.Ve (I:Inv X pins σ H s)(h:SqL X.K H a xs)(h':SqL X.K H a ys):xs=ys:=by
 obtain ⟨its,r,⟨o,n,e,_,_,d⟩,_⟩:=I.list h;obtain ⟨its',r',⟨o',n',e',_,_,d'⟩,_⟩:=I.list h';rw [e] at e';cases e';rw [d] at d';injection d' with d1 _;have:its=its':=by simpa using congrArg Array.toList d1
 subst this;exact r.inj r'
theorem Inv.Pz (I:Inv X pins σ H s)(h:SqT X.K H a xs)(h':SqT X.K H a ys):xs=ys:=by
 obtain ⟨its,r,⟨o,e,_,n,d⟩,_⟩:=I.tuple h;obtain ⟨its',r',⟨o',e',_,n',d'⟩,_⟩:=I.tuple h';rw [e] at e';cases e';rw [d] at d';injection d' with d1 _;have:its=its':=by simpa using congrArg Array.toList d1
 subst this;exact r.inj r'
end
abbrev Cx.wish (X:Cx)(E:Value->Shared->Prop):Cx:={ X with xe:=E }
abbrev Cx.nox (X:Cx):Cx:=X.wish fun _ _=>False
theorem Cx.Ok.wish {X:Cx}(ok:X.Ok)(E:Value->Shared->Prop):(X.wish E).Ok:=
 ⟨ok.mod,ok.kind,ok.glob,ok.blt,ok.above,ok.inj,ok.has,ok.cab,ok.hd,ok.frames,ok.stk,ok.exf,ok.bs,ok.bsz,ok.noex,ok.exfs,ok.M7,ok.frf⟩
theorem Cx.Ok.vR {X:Cx}{E:Value->Shared->Prop}(ok:(X.wish E).Ok):X.Ok:=
 ⟨ok.mod,ok.kind,ok.glob,ok.blt,ok.above,ok.inj,ok.has,ok.cab,ok.hd,ok.frames,ok.stk,ok.exf,ok.bs,ok.bsz,ok.noex,ok.exfs,ok.M7,ok.frf⟩
section
variable {X:Cx}{pins:List (Addr × Obj)}{σ:St}{H:Hp}{s:Shared}{E:Value->Shared->Prop}
theorem Inv.wish (I:Inv X pins σ H s)(E:Value->Shared->Prop):Inv (X.wish E) pins σ H s:=⟨I.ok.wish E,I.os,I.bare,I.base,I.loc,I.cell,I.free,I.freeC,I.pin,I.hok,I.len⟩
theorem Inv.vR (I:Inv (X.wish E) pins σ H s):Inv X pins σ H s:=⟨I.ok.vR,I.os,I.bare,I.base,I.loc,I.cell,I.free,I.freeC,I.pin,I.hok,I.len⟩
theorem SP.vR {D:Ends}{f:Flow}{s':Shared}(h:SP (X.wish E) pins D f s'):SP X pins D f s':=by
 cases f with
 | next=>obtain ⟨σ',H',I,q⟩:=h;exact ⟨σ',H',I.vR,q⟩
 | brk=>obtain ⟨σ',H',I,q⟩:=h;exact ⟨σ',H',I.vR,q⟩
 | cont=>obtain ⟨σ',H',I,q⟩:=h;exact ⟨σ',H',I.vR,q⟩
 | ret u=>obtain ⟨v,σ',H',I,r,q⟩:=h;exact ⟨v,σ',H',I.vR,r,q⟩
theorem PSs.nox {st:List Stmt}{t:TS}(h:PSs X.nox st t):PSs X st t:=fun pins s σ H D I hw =>
 wpAny_mono (h pins s σ H D (I.wish _) hw) (fun _ _ q=>q.vR) fun _ _ z=>False.elim z
end
section
variable {X:Cx}{st:Stmt}{rest:List Stmt}{t u:TS}{e:Expr}{te:TE}{pos:Pos}
def aeH:TS:=fun D σ H=>D.nx σ H
def cI (t u:TS):TS:=fun D σ H=>t { D with nx:=u D } σ H
theorem bA:PSs X [] aeH:=fun _ _ σ H _ I h=>wpAny_execs_nil ⟨σ,H,I,h⟩
theorem aF (h1:PS X st t)(h2:PSs X rest u):PSs X (st::rest) (cI t u):=by
 intro pins s σ H D I h;refine wpAny_execs_cons (thn (h1 pins s σ H { D with nx:=u D } I h) fun f s1 q=>?_);cases f with
 | next =>
  obtain ⟨σ',H',I',q⟩:=q;exact h2 pins s1 σ' H' D I' q
 | ret v=>exact q
 | brk=>exact q
 | cont=>exact q
theorem aK (h1:PS X st t):PSs X [st] t:=by
 intro pins s σ H D I h;refine wpAny_execs_cons (thn (h1 pins s σ H D I h) fun f s1 q=>?_);cases f with
 | next=>exact wpAny_execs_nil q
 | ret v=>exact q
 | brk=>exact q
 | cont=>exact q
theorem Inv.quiet {pins:List (Addr × Obj)}{σ:St}{H:Hp}{s:Shared}(I:Inv X pins σ H s):interactive X.env=false:=by simp [interactive,I.ok.kind]
def aeK (te:TE):TS:=fun D σ H=>te σ H fun _ H1=>D.nx σ H1
theorem aM (he:PE X e te)(hs:swapsWith e none pos.line X.env=pure false:=by rfl):PS X (.Expr e pos) (aeK te):=by
 intro pins s σ H D I h;exact wpAny_Expr_any (thn (he pins s σ H _ I h) fun v s1 ⟨x,H1,I1,r1,q1⟩=>⟨σ,H1,I1,q1⟩) I.quiet hs
def tRet (te:TE):TS:=fun D σ H=>te σ H D.rt
theorem aP (he:PE X e te):PS X (.Return (some e) pos) (tRet te):=by
 intro pins s σ H D I h;exact wpAny_Return_some (thn (he pins s σ H _ I h) fun v s1 ⟨x,H1,I1,r1,q1⟩=>⟨x,σ,H1,I1,r1,q1⟩)
def yr (c:TT)(t u:TS):TS:=fun D σ H=>c σ H fun b H1=>if b=true then t D σ H1 else u D σ H1
theorem cM {c:Expr}{a b:List Stmt}{tc:TT}(hc:PT X c tc)(ha:PSs X a t)(hb:PSs X b u):PS X (.If c a b pos) (yr tc t u):=by
 intro pins s σ H D I h;refine wpAny_If (thn (hc pins s σ H _ I h) fun d s1 ⟨H1,I1,q1⟩=>?_);cases d with
 | true=>exact ha pins s1 σ H1 D I1 q1
 | false=>exact hb pins s1 σ H1 D I1 q1
def acB:TS:=fun _ _ _=>False
theorem Ur:PS X st acB:=fun _ _ _ _ _ _ h=>h.elim
end
abbrev TG:=V->St->Hp->(St->Hp->Prop)->Prop
abbrev TGs:=List V->St->Hp->(St->Hp->Prop)->Prop
def PG (X:Cx)(target:Expr)(t:TG):Prop:=
 ∀ (pins:List (Addr × Obj))(s:Shared)(σ:St)(H:Hp)(v:V)(u:Value)(Q:St->Hp->Prop),Inv X pins σ H s->RelV v u->t v σ H Q ->
  wpAny (model X.prog X.w) X.A (assign target X.env u) (fun _ s'=>∃ σ' H',Inv X pins σ' H' s'/\Q σ' H') X.xe s
def PGs (X:Cx)(ts:List Expr)(t:TGs):Prop:=
 ∀ (pins:List (Addr × Obj))(s:Shared)(σ:St)(H:Hp)(vs:List V)(us:List Value)(Q:St->Hp->Prop),Inv X pins σ H s->Vals vs us->t vs σ H Q ->
  wpAny (model X.prog X.w) X.A (assignInOrder ((assignEach ts X.env).map (·.2)) us) (fun _ s'=>∃ σ' H',Inv X pins σ' H' s'/\Q σ' H') X.xe s
abbrev aei:=V->V->V->Hp->(Hp->Prop)->Prop
def afE (X:Cx)(t:aei):Prop:=
 ∀ (pins:List (Addr × Obj))(s:Shared)(σ:St)(H:Hp)(o i v:V)(ov iv u:Value)(Q:Hp->Prop),Inv X pins σ H s->RelV o ov->RelV i iv->RelV v u->t o i v H Q ->
  wpAny (model X.prog X.w) X.A (setItem ov iv u) (fun _ s'=>∃ H',Inv X pins σ H' s'/\Q H') X.xe s
abbrev TIp:=V->V->Hp->VK->Prop
def PIp (X:Cx)(op:Operator)(t:TIp):Prop:=
 ∀ (pins:List (Addr × Obj))(s:Shared)(σ:St)(H:Hp)(x y:V)(v u:Value)(Q:VK),Inv X pins σ H s->RelV x v->RelV y u->t x y H Q ->
  wpAny (model X.prog X.w) X.A (inplaceOp op v u) (EP X pins σ Q) X.xe s
section
variable {X:Cx}{pos:Pos}
def R6 (i:Nat):TG:=fun v σ H Q=>Q (σ.set i (some v)) H
theorem bB {i:Nat}{x:Str}(hN:X.N.Nodup)(hi:X.N[i]?=some x)(hx:Loc X.env.scope x)(hf:X.fn x=true\/X.env.scope.names.lookup x=some .local:=by first| exact .inl rfl| exact .inr rfl| assumption):PG X (.Name x pos) (R6 i):=by
 intro pins s σ H v u Q I r h;exact wpAny_assign_Name (FQ I hN hi hx r (fun s' I'=>⟨_,H,I',h⟩) hf)
def gNil:TGs:=fun vs σ H Q=>vs=[]/\Q σ H
def afw (t:TG)(u:TGs):TGs:=fun vs σ H Q=>∃ v r,vs=v::r/\t v σ H fun σ' H'=>u r σ' H' Q
theorem cg:PGs X [] gNil:=by
 intro pins s σ H vs us Q I r h;obtain ⟨e,h⟩:=h;subst e;cases r;exact assignInOrder_nil ⟨σ,H,I,h⟩
theorem aC {e:Expr}{es:List Expr}{t:TG}{u:TGs}(h1:PG X e t)(h2:PGs X es u)
  (hs:(assignEach (e::es) X.env).map (·.2)=assign e X.env::(assignEach es X.env).map (·.2):=by rfl):PGs X (e::es) (afw t u):=by
 intro pins s σ H vs us Q I r h;obtain ⟨v,vr,e1,h⟩:=h;subst e1;cases r with
 | cons r rr =>
  rw [hs];refine assignInOrder_cons (thn (h1 pins s σ H _ _ _ I r h) fun _ s1 ⟨σ1,H1,I1,q1⟩=>?_);exact h2 pins s1 σ1 H1 _ _ Q I1 rr q1
inductive afY (K:PySem.W.Frag)(n:Nat)(t:TGs)(v:V)(σ:St)(H:Hp)(Q:St->Hp->Prop):Prop
 | mk (a:Addr)(xs:List V)(_:v=.ref a)(_:SqT K H a xs)(_:xs.length=n)(_:t xs σ H Q)
theorem iH {es:List Expr}{k:Nat}{t:TGs}{n:Nat}(hc:X.calm=true)(h:PGs X es t)
  (hn:(assignEach es X.env).length=n:=by rfl)(hst:(assignEach es X.env).findIdx? (·.1)=none:=by rfl):PG X (.Tuple es k pos) (afY X.K n t):=by
 intro pins s σ H v u Q I r hw;obtain ⟨a,xs,e1,hq,hl,hw⟩:=hw;subst e1;cases r;obtain ⟨its,rv,ht,hz⟩:=I.tuple hq;refine assign_Tuple_tuple (I.ok.hd hc) ht (by simp [hn,<- hl,rv.length]) hst fun h' hx=>?_;have I1:Inv X pins σ H { s with heap:=h' }:=I.kept (t':=s.toks) fun b o e=>hx b o (agM (agr e)) e;exact h pins _ σ H xs _ Q I1 (by simpa using rv) hw
def gSub (to ti:TE)(t:aei):TG:=fun v σ H Q=>to σ H fun o H1=>ti σ H1 fun i H2=>t o i v H2 fun H3=>Q σ H3
theorem pX {o i:Expr}{to ti:TE}{t:aei}(ho:PE X o to)(hi:PE X i ti)(hs:afE X t)
  (ha:∀ v,assign (.Subscript o i pos) X.env v=(do
   let ov <- holding [v] (eval o X.env)
   let iv <- holding [v,ov] (eval i X.env)
   standAt pos
   holding [v,ov,iv] (setItem ov iv v)
   release [v,ov,iv] []):=by intro _;rfl):PG X (.Subscript o i pos) (gSub to ti t):=by
 intro pins s σ H v u Q I r h
 rw [ha]
 refine wpAny_bind (wpAny_holding (thn (ho pins s σ H _ I h) fun ov s1 ⟨x,H1,I1,r1,q1⟩=>?_))
 refine wpAny_bind (wpAny_holding (thn (hi pins s1 σ H1 _ I1 q1) fun iv s2 ⟨y,H2,I2,r2,q2⟩=>?_))
 refine wpAny_bind (wpAny_standAt (wpAny_bind (wpAny_holding (thn (hs pins s2 σ H2 x y v ov iv u _ I2 r1 r2 r q2) fun _ s3 ⟨H3,I3,q3⟩=>?_))))
 exact wpAny_release ⟨σ,H3,I3,q3⟩
def aeN (te:TE)(g:TG):TS:=fun D σ H=>te σ H fun x H1=>g x σ H1 D.nx
theorem gQ {tg e:Expr}{te:TE}{g:TG}(he:PE X e te)(hg:PG X tg g)(hs:swapsWithSole [tg] e pos.line X.env=pure false:=by rfl)(hw:swappedStores [tg] e X.env=pure none:=by rfl)
  (h1:(assignEach [tg] X.env).map (·.2)=[assign tg X.env]:=by rfl):PS X (.Assign [tg] e pos) (aeN te g):=by
 intro pins s σ H D I h;refine wpAny_Assign_stores (thn (he pins s σ H _ I h) fun v s1 ⟨x,H1,I1,r1,q1⟩=>?_) hs hw;rw [h1];exact thn (hg pins s1 σ H1 x v _ I1 r1 q1) fun _ s2 q=>q
theorem Il {i:Nat}{x:Str}{e:Expr}{te:TE}{pos':Pos}(hN:X.N.Nodup)(hi:X.N[i]?=some x)(hx:Loc X.env.scope x)(he:PE X e te)(hs:swapsWith e (some (.Name x pos')) pos.line X.env=pure false:=by rfl)(hf:X.fn x=true\/X.env.scope.names.lookup x=some .local:=by first| exact .inl rfl| exact .inr rfl| assumption):
  PS X (.Assign [.Name x pos'] e pos) (aeN te (R6 i)):=by
 intro pins s σ H D I h;refine wpAny_Assign_Name (thn (he pins s σ H _ I h) fun v s1 ⟨y,H1,I1,r1,q1⟩=>?_) hs;exact FQ I1 hN hi hx r1 (fun s2 I2=>⟨_,H1,I2,q1⟩) hf
def aeM (to ti te:TE)(tget:V->V->Hp->VK->Prop)(tip:TIp)(tset:aei):TS:=fun D σ H=>to σ H fun o H1=>ti σ H1 fun i H2=>tget o i H2 fun x H3=>te σ H3 fun y H4=>tip x y H4 fun z H5=>tset o i z H5 fun H6=>D.nx σ H6
def af6 (X:Cx)(t:V->V->Hp->VK->Prop):Prop:=
 ∀ (pins:List (Addr × Obj))(s:Shared)(σ:St)(H:Hp)(o i:V)(ov iv:Value)(Q:VK),Inv X pins σ H s->RelV o ov->RelV i iv->t o i H Q ->
  wpAny (model X.prog X.w) X.A (getItem ov iv) (EP X pins σ Q) X.xe s
theorem wR {o i e:Expr}{to ti te:TE}{tget:V->V->Hp->VK->Prop}{tip:TIp}{tset:aei}{op:Operator}{tpos:Pos}(ho:PE X o to)(hi:PE X i ti)(hg:af6 X tget)(he:PE X e te)(hp:PIp X op tip)(hs:afE X tset)
  (ha:∀ ov iv new,augStore i ov iv new=(do holding [new,ov,iv] (setItem ov iv new);release [new,ov,iv] [];pure .next):=by intros;rfl):PS X (.AugAssign (.Subscript o i tpos) op e pos) (aeM to ti te tget tip tset):=by
 intro pins s σ H D I h;refine wpAny_AugAssign_SubscriptAny (thn (ho pins s σ H _ I h) fun ov s1 ⟨x1,H1,I1,r1,q1⟩=>?_) ha;refine thn (hi pins s1 σ H1 _ I1 q1) fun iv s2 ⟨x2,H2,I2,r2,q2⟩=>?_;refine thn (hg pins s2 σ H2 x1 x2 ov iv _ I2 r1 r2 q2) fun old s3 ⟨x3,H3,I3,r3,q3⟩=>?_;refine thn (he pins s3 σ H3 _ I3 q3) fun v s4 ⟨x4,H4,I4,r4,q4⟩=>?_;refine thn (hp pins s4 σ H4 x3 x4 old v _ I4 r3 r4 q4) fun new s5 ⟨x5,H5,I5,r5,q5⟩=>?_;exact thn (hs pins s5 σ H5 x1 x2 x5 ov iv new _ I5 r1 r2 r5 q5) fun _ s6 ⟨H6,I6,q6⟩=>⟨σ,H6,I6,q6⟩
def ipI (f:Int->Int->Int):TIp:=fun x y H Q=>∃ i j,x=.int i/\y=.int j/\Q (.int (f i j)) H
theorem M4:PIp X .Add (ipI fun i j=>i+j):=by
 intro pins s σ H x y v u Q I r1 r2 h;obtain ⟨i,j,e1,e2,q⟩:=h;subst e1;subst e2;obtain ⟨t,rfl⟩:=r1;obtain ⟨t',rfl⟩:=r2;exact iadd_int ⟨.int _,H,I.tok _,⟨_,rfl⟩,q⟩
theorem RL:PIp X .Sub (ipI fun i j=>i - j):=by
 intro pins s σ H x y v u Q I r1 r2 h;obtain ⟨i,j,e1,e2,q⟩:=h;subst e1;subst e2;obtain ⟨t,rfl⟩:=r1;obtain ⟨t',rfl⟩:=r2;exact isub_int ⟨.int _,H,I.tok _,⟨_,rfl⟩,q⟩
end
section
variable {X:Cx}{pos:Pos}
def Qa (c:TT)(tb:TS):TS:=fun D σ H=>∃ W:Nat->St->Hp->Prop,(∃ m,W m σ H)/\∀ m σ H,W m σ H ->
 c σ H fun b H1=>if b=true then ∃ N:St->Hp->Prop,(∀ σ' H',N σ' H'->∃ m',m'<m/\W m' σ' H')/\tb { D with nx:=N,ct:=N,bk:=D.nx } σ H1 else D.nx σ H1
theorem LR {c:Expr}{body:List Stmt}{tc:TT}{tb:TS}(hp:PassesOwn (model X.prog X.w) X.A X.env X.xe)(hc:PT X c tc)(hb:PSs X body tb):PS X (.While c body [] pos) (Qa tc tb):=by
 intro pins s σ H D I h;obtain ⟨W,⟨m0,w0⟩,turn⟩:=h;refine wpAny_While (codeAny_whileLoop (fun n s'=>∃ σ' H',Inv X pins σ' H' s'/\W n σ' H') ?_ m0 ⟨σ,H,I,w0⟩);rintro n s1 ⟨σ1,H1,I1,w1⟩;refine wpAny_passesOwn hp (thn (hc pins s1 σ1 H1 _ I1 (turn n σ1 H1 w1)) fun b s2 ⟨H2,I2,q2⟩=>?_);cases b with
 | true =>
  obtain ⟨N,hN,q2⟩:=q2;rw [if_pos rfl];refine wpAny_passesOwn hp (thn (hb pins s2 σ1 H2 _ I2 q2) fun f s3 q3=>?_);cases f with
  | next =>
   obtain ⟨σ3,H3,I3,n3⟩:=q3;obtain ⟨m',hm,w3⟩:=hN σ3 H3 n3;exact ⟨m',hm,σ3,H3,I3,w3⟩
  | cont =>
   obtain ⟨σ3,H3,I3,n3⟩:=q3;obtain ⟨m',hm,w3⟩:=hN σ3 H3 n3;exact ⟨m',hm,σ3,H3,I3,w3⟩
  | brk=>exact q3
  | ret v=>exact q3
 | false =>
  rw [if_neg agi];exact wpAny_execs_nil ⟨σ1,H2,I2,q2⟩
end
structure It where
 go:Nat->Hp->Prop
 yld:Nat->Hp->V->Hp->Prop
 stop:Nat->Hp->Prop
def JL (X:Cx)(pins:List (Addr × Obj))(H:Hp)(b:Addr):Prop:=
 H b=none/\b≠X.env.locals/\b ∉ X.fs/\(b∈X.ex\/X.s₀.heap.objs.size<=b)/\(∀ x c,X.env.cells.lookup x=some c->c≠b)/\∀ p∈X.pn++pins,p.1≠b
theorem Inv.G9 {X:Cx}{pins:List (Addr × Obj)}{σ:St}{H H':Hp}{s:Shared}{b:Addr}(I:Inv X pins σ H s)(hb:s.heap.objs.size<=b)(hn:H' b=none):JL X pins H' b:=by
 refine ⟨hn,Nat.ne_of_gt (agI I.lt hb),I.nofs hb,.inr (agS I.sz hb),fun x c e z=>?_,fun p hp z=>?_⟩
 ·obtain ⟨v,q⟩:=I.cell x c e;exact absurd (agI q.lt (by rw [z];exact hb)) (ahb _)
 ·exact absurd (agI (agr (I.pin p hp).1) (by rw [z];exact hb)) (ahb _)
structure Turn (P:Program)(w:World)(K:PySem.W.Frag)(tg:Expr)(J:It)(fp:List Addr)(it:Addr)(tn:Nat->Heap->Prop):Prop where
 mem:it∈fp
 obj:∀ i h,tn i h->∀ b∈fp,∃ o,h.get? b=some o/\∀ v,o.data≠.cell v
 keep:∀ i h h',tn i h->(∀ b∈fp,∀ o,h.get? b=some o->h'.get? b=some o)->tn i h'
 item:∀ (X:Cx),X.prog=P->X.w=w->X.K=K->X.calm=true->∀ (i:Nat)(pins:List (Addr × Obj))(s:Shared)(σ:St)(H:Hp)(E:Value->Shared->Prop),Inv X pins σ H s->(∀ b∈fp,JL X pins H b)->tn i s.heap->J.go i H ->
  wpAny (model P w) X.A (pyNext (.ref it)) (fun r s1=>∃ u,r=some u /\
   wpAny (model P w) X.A (letOwnedTupleGo tg (.ref it) u) (fun _ s2=>∃ x H',Inv X pins σ H' s2/\RelV x u/\J.yld i H x H'/\tn (i+1) s2.heap/\∀ b∈fp,H' b=none) E s1) E s
 done:∀ (X:Cx),X.prog=P->X.w=w->X.K=K->X.calm=true->∀ (i:Nat)(pins:List (Addr × Obj))(s:Shared)(σ:St)(H:Hp)(E:Value->Shared->Prop),Inv X pins σ H s->(∀ b∈fp,JL X pins H b)->tn i s.heap->J.stop i H ->
  wpAny (model P w) X.A (pyNext (.ref it)) (fun r s1=>r=none/\Inv X pins σ H s1) E s
 self:∀ (A:Around)(i:Nat)(s:Shared)(Q:Value->Shared->Prop)(E:Value->Shared->Prop),tn i s.heap->Q (.ref it) s->wpAny (model P w) A (pyIter (.ref it)) Q E s
abbrev TI:=St->Hp->(It->Hp->Prop)->Prop
def PIE (X:Cx)(pins:List (Addr × Obj))(σ:St)(tg:Expr)(R:It->Hp->Prop)(itv:Value)(s2:Shared):Prop:=
 ∃ (it:Addr)(fp:List Addr)(tn:Nat->Heap->Prop)(J:It)(H':Hp),itv=.ref it/\Inv X pins σ H' s2/\Turn X.prog X.w X.K tg J fp it tn/\tn 0 s2.heap/\(∀ b∈fp,JL X pins H' b)/\R J H'
def PI (X:Cx)(tg iter:Expr)(wi:TI):Prop:=
 ∀ (pins:List (Addr × Obj))(s:Shared)(σ:St)(H:Hp)(R:It->Hp->Prop),Inv X pins σ H s->wi σ H R ->
  wpAny (model X.prog X.w) X.A (eval iter X.env) (fun v s1=>wpAny (model X.prog X.w) X.A (pyIter v) (PIE X pins σ tg R) X.xe s1) X.xe s
theorem Vm {M:Model}{A:Around}{E:Value->Shared->Prop}{s:Shared}{tg:Expr}{it:Addr}{u:Value}{o:Obj}{n:String}{vs:Array Value}{Q:Unit->Shared->Prop}(ho:s.heap.get? it=some o)(hc:o.cls=.type n)(hd:o.data=.fields vs)
    (hn:["enumerate","zip","dict_itemiterator","dict_reverseitemiterator","odict_iterator","itertools.zip_longest","itertools.pairwise"].contains n=false)(hQ:Q () s):wpAny M A (letOwnedTupleGo tg (.ref it) u) Q E s:=by
  unfold letOwnedTupleGo;cases tg <;>first
    | exact wpAny_pure hQ
    | (cases u <;>first
        | exact wpAny_pure hQ
        | (refine wpAny_bind (wpAny_load ho ?_)
           rw [hc,hd];show wpAny M A (if (["enumerate","zip","dict_itemiterator","dict_reverseitemiterator","odict_iterator","itertools.zip_longest","itertools.pairwise"].contains n&& vs[0]? ==some (rawInt _))=true then _ else _) Q E s;rw [if_neg (by intro h;rw [hn,Bool.false_and] at h;cases h)];exact wpAny_pure hQ))
def Itl (K:PySem.W.Frag)(a:Addr):It:=
 ⟨fun i H=>∃ xs x,SqL K H a xs/\xs[i]?=some x,fun i H x H'=>H'=H/\∀ xs,SqL K H a xs->xs[i]?=some x,fun i H=>∃ xs,SqL K H a xs/\xs.length<=i⟩
def Itt (K:PySem.W.Frag)(a:Addr):It:=
 ⟨fun i H=>∃ xs x,SqT K H a xs/\xs[i]?=some x,fun i H x H'=>H'=H/\∀ xs,SqT K H a xs->xs[i]?=some x,fun i H=>∃ xs,SqT K H a xs/\xs.length<=i⟩
def Itr (lo:Int)(n:Nat):It:=⟨fun i _=>i<n,fun i H x H'=>H'=H/\x=.int (lo+i),fun i _=>n<=i⟩
theorem Px {P:Program}{w:World}{K:PySem.W.Frag}{tg:Expr}(a it:Addr):Turn P w K tg (Itl K a) [it] it (fun i h=>h.IsListIter it a i) where
 mem:=by simp
 obj:=fun i h st b hb=>by
  have e:b=it:=by simpa using hb
  subst e;obtain ⟨o,e,c,d⟩:=st;exact ⟨o,e,fun v z=>by rw [d] at z;cases z⟩
 keep:=fun i h h' st k=>st.at fun o e=>k it (by simp) o e;item:=by
  intro X hP hw hK hc i pins s σ H E I hf st hg;subst hP hw hK;obtain ⟨xs,x,hq,hx⟩:=hg;obtain ⟨its,rv,p,hz⟩:=I.list hq;obtain ⟨u,hu,ru⟩:=rv.get hx;obtain ⟨f0,f1,f2,f3,f4,f5⟩:=hf it (by simp);refine wpAny_pyNext_list_item st p.isList (x:=u) (by simpa using hu) fun h' st' sb=>?_;have I1:Inv X pins σ H { s with heap:=h' }:=I.turned (t':=s.toks) (fun b o hb e=>(sb.2 b hb).trans e) f0 f1 f3 f4 f5;obtain ⟨o,e,c,d⟩:=id st';exact ⟨u,rfl,Vm (s:={ s with heap:=h' }) e c d (by decide) ⟨x,H,I1,ru,⟨rfl,fun ys hy=>by rw [I.Ve hy hq];exact hx⟩,st',fun b hb=>(hf b hb).1⟩⟩
 done:=by
  intro X hP hw hK hc i pins s σ H E I hf st hg;subst hP hw hK;obtain ⟨xs,hq,hx⟩:=hg;obtain ⟨its,rv,p,hz⟩:=I.list hq;obtain ⟨f0,f1,f2,f3,f4,f5⟩:=hf it (by simp);have hl:=rv.length;exact wpAny_pyNext_list_end (I.ok.hd hc) st p.isList (by simp;omega) fun h' eb=>⟨rfl,I.turned (t':=s.toks) (fun b o hb e=>eb b o hb e) f0 f1 f3 f4 f5⟩
 self:=fun _ _ _ _ _ st h=>wpAny_pyIter_listiter st h
theorem NQ {P:Program}{w:World}{K:PySem.W.Frag}{tg:Expr}(a it:Addr):Turn P w K tg (Itt K a) [it] it (fun i h=>h.IsTupleIter it a i) where
 mem:=by simp
 obj:=fun i h st b hb=>by
  have e:b=it:=by simpa using hb
  subst e;obtain ⟨o,e,c,d⟩:=st;exact ⟨o,e,fun v z=>by rw [d] at z;cases z⟩
 keep:=fun i h h' st k=>st.at fun o e=>k it (by simp) o e;item:=by
  intro X hP hw hK hc i pins s σ H E I hf st hg;subst hP hw hK;obtain ⟨xs,x,hq,hx⟩:=hg;obtain ⟨its,rv,p,hz⟩:=I.tuple hq;obtain ⟨u,hu,ru⟩:=rv.get hx;obtain ⟨f0,f1,f2,f3,f4,f5⟩:=hf it (by simp);refine wpAny_pyNext_tuple_item st (show s.heap.IsTuple a its.toArray from p) (x:=u) (by simpa using hu) fun h' st' sb=>?_;have I1:Inv X pins σ H { s with heap:=h' }:=I.turned (t':=s.toks) (fun b o hb e=>(sb.2 b hb).trans e) f0 f1 f3 f4 f5;obtain ⟨o,e,c,d⟩:=id st';exact ⟨u,rfl,Vm (s:={ s with heap:=h' }) e c d (by decide) ⟨x,H,I1,ru,⟨rfl,fun ys hy=>by rw [I.Pz hy hq];exact hx⟩,st',fun b hb=>(hf b hb).1⟩⟩
 done:=by
  intro X hP hw hK hc i pins s σ H E I hf st hg;subst hP hw hK;obtain ⟨xs,hq,hx⟩:=hg;obtain ⟨its,rv,p,hz⟩:=I.tuple hq;obtain ⟨f0,f1,f2,f3,f4,f5⟩:=hf it (by simp);have hl:=rv.length;exact wpAny_pyNext_tuple_end (I.ok.hd hc) st (show s.heap.IsTuple a its.toArray from p) (by simp;omega) fun h' eb=>⟨rfl,I.turned (t':=s.toks) (fun b o hb e=>eb b o hb e) f0 f1 f3 f4 f5⟩
 self:=fun _ _ _ _ _ st h=>wpAny_pyIter_tupleiter st h
theorem NT {P:Program}{w:World}{K:PySem.W.Frag}{tg:Expr}(it:Addr)(lo:Int)(n:Nat):Turn P w K tg (Itr lo n) [it] it (fun i h=>IsRangeIter h it (lo+(i:Nat)*1) ((n:Int) - (i:Nat)) 1) where
 mem:=by simp
 obj:=fun i h st b hb=>by
  have e:b=it:=by simpa using hb
  subst e;exact ⟨_,st,fun v z=>by
   have z':Data.fields _=Data.cell v:=z;cases z'⟩
 keep:=fun i h h' st k=>k it (by simp) _ st;item:=by
  intro X hP hw hK hc i pins s σ H E I hf st hg;subst hP hw hK;obtain ⟨f0,f1,f2,f3,f4,f5⟩:=hf it (by simp);have W:=Walks.range (prog:=X.prog) (w:=X.w) (I.ok.hd hc) it lo 1 n;refine W.item i s _ _ hg st fun v h' tk hv st' kk=>?_;obtain ⟨t,rfl⟩:=hv;have I1:Inv X pins σ H { s with heap:=h',toks:=tk }:=I.turned (fun b o hb e=>kk b o (by simpa using hb) e) f0 f1 f3 f4 f5;refine ⟨_,rfl,Vm (s:={ s with heap:=h',toks:=tk }) (n:="range_iterator") st' rfl rfl (by decide) ⟨.int (lo+i),H,I1,⟨t,?_⟩,⟨rfl,rfl⟩,st',fun b hb=>(hf b hb).1⟩⟩;rw [Int.mul_one]
 done:=by
  intro X hP hw hK hc i pins s σ H E I hf st hg;subst hP hw hK;obtain ⟨f0,f1,f2,f3,f4,f5⟩:=hf it (by simp);exact wpAny_pyNext_range_end (I.ok.hd hc) st (by have:n<=i:=hg;omega) fun h' eb=>⟨rfl,I.turned (t':=s.toks) (fun b o hb e=>eb b o hb e) f0 f1 f3 f4 f5⟩
 self:=fun _ _ _ _ _ st h=>wpAny_pyIter_rangeiter st h
section
variable {X:Cx}{tg:Expr}
inductive kLst (K:PySem.W.Frag)(x:V)(H:Hp)(R:It->Hp->Prop):Prop
 | mk (a:Addr)(_:x=.ref a)(_:∃ xs,SqL K H a xs)(_:R (Itl K a) H)
def afu (K:PySem.W.Frag)(tl:TE):TI:=fun σ H R=>tl σ H fun x H1=>kLst K x H1 R
def iTup (K:PySem.W.Frag)(tl:TE):TI:=fun σ H R=>tl σ H fun x H1=>∃ a,x=.ref a/\(∃ xs,SqT K H1 a xs)/\R (Itt K a) H1
theorem cJ {l:Expr}{tl:TE}(hl:PE X l tl):PI X tg l (afu X.K tl):=by
 intro pins s σ H R I h;refine thn (hl pins s σ H _ I h) fun v s1 ⟨x,H1,I1,r1,q1⟩=>?_;obtain ⟨a,e,⟨xs,hq⟩,q⟩:=q1;subst e;cases r1;obtain ⟨its,rv,p,hz⟩:=I1.list hq;refine wpAny_pyIter_list p.isList ?_;refine ⟨s1.heap.objs.size,[s1.heap.objs.size],_,_,H1,rfl,I1.kept (t':=s1.toks) fun b o e=>agc _ e,Px a _,⟨_,agl _ rfl,rfl,rfl⟩,fun b hb=>?_,q⟩;have e:b=s1.heap.objs.size:=by simpa using hb
 subst e;exact I1.G9 (agb _) (I1.hok.fresh (agb _))
theorem acU {l:Expr}{tl:TE}(hl:PE X l tl):PI X tg l (iTup X.K tl):=by
 intro pins s σ H R I h;refine thn (hl pins s σ H _ I h) fun v s1 ⟨x,H1,I1,r1,q1⟩=>?_;obtain ⟨a,e,⟨xs,hq⟩,q⟩:=q1;subst e;cases r1;obtain ⟨its,rv,p,hz⟩:=I1.tuple hq;refine wpAny_pyIter_tuple (show s1.heap.IsTuple a its.toArray from p) ?_;refine ⟨s1.heap.objs.size,[s1.heap.objs.size],_,_,H1,rfl,I1.kept (t':=s1.toks) fun b o e=>agc _ e,NQ a _,⟨_,agl _ rfl,rfl,rfl⟩,fun b hb=>?_,q⟩;have e:b=s1.heap.objs.size:=by simpa using hb
 subst e;exact I1.G9 (agb _) (I1.hok.fresh (agb _))
theorem LQ {pins:List (Addr × Obj)}{σ:St}{H:Hp}{s:Shared}{R:It->Hp->Prop}{E:Value->Shared->Prop}{lo hi:Int}{t u v:Tok}{tk:Nat}(I:Inv X pins σ H s)(h1:-(2 ^ 62)<=lo)(h2:lo<2 ^ 62)(h3:-(2 ^ 62)<=hi)(h4:hi<2 ^ 62)
  (q:R (Itr lo (hi - lo).toNat) H):wpAny (model X.prog X.w) X.A (pyIter (.ref s.heap.objs.size)) (PIE X pins σ tg R) E { s with heap:=s.heap.push { cls:=.type "range",data:=.fields #[.int lo t,.int hi u,.int 1 v] },toks:=tk }:=by
 refine wpAny_pyIter_range (IsRange.new ..) (small_one h1 h2 h3 h4) ?_;have I1:Inv X pins σ H { s with heap:=s.heap.push { cls:=.type "range",data:=.fields #[.int lo t,.int hi u,.int 1 v] },toks:=tk }:=I.kept fun b o e=>agc _ e;refine ⟨(s.heap.push { cls:=.type "range",data:=.fields #[.int lo t,.int hi u,.int 1 v] }).objs.size,[(s.heap.push { cls:=.type "range",data:=.fields #[.int lo t,.int hi u,.int 1 v] }).objs.size],_,_,H,rfl,
  I1.kept (t':=tk) fun b o e=>agc _ e,NT _ lo (hi - lo).toNat,?_,fun b hb=>?_,q⟩
 ·have e1:lo+((0:Nat):Int)*1=lo:=by simp
  have e2:(((hi - lo).toNat:Nat):Int) - ((0:Nat):Int)=Builtin.Range.rangeSize lo hi 1:=by rw [rangeSize_one];split <;>omega
  show IsRangeIter _ _ (lo+((0:Nat):Int)*1) ((((hi - lo).toNat:Nat):Int) - ((0:Nat):Int)) 1;rw [e1,e2];exact agl _ rfl
 ·have e:b=(s.heap.push { cls:=.type "range",data:=.fields #[.int lo t,.int hi u,.int 1 v] }).objs.size:=by simpa using hb
  subst e;exact I1.G9 (agb _) (I1.hok.fresh (agb _))
def afs (ta:TA):TI:=fun σ H R=>ta σ H fun vs H1=>∃ j:Int,vs=[.int j]/\-(2 ^ 62)<=j/\j<2 ^ 62/\R (Itr 0 j.toNat) H1
def afr (ta:TA):TI:=fun σ H R=>ta σ H fun vs H1=>∃ i j:Int,vs=[.int i,.int j]/\(-(2 ^ 62)<=i/\i<2 ^ 62/\-(2 ^ 62)<=j/\j<2 ^ 62)/\R (Itr i (j - i).toNat) H1
theorem jW {a:Expr}{ta:TA}{p pos:Pos}(hg:Gl X "range")(hm:X.mg "range"=none)(ha:PA X [a] ta)(hs:starEach [a] X.env=[(false,eval a X.env)]:=by rfl):PI X tg (.Call (.Name "range" p) [a] [] pos) (afs ta):=by
 intro pins s σ H R I h;refine Call_ (nj I hg hm boot_range (agJ (thn (ha pos pins s σ H _ I h) fun us s1 ⟨vs,H1,I1,r1,q1⟩=>?_) hs rfl));obtain ⟨j,e,q1,q2,q⟩:=q1;subst e;cases r1 with
 | cons r rr =>
  cases rr;obtain ⟨t,rfl⟩:=r;exact call_range_1 (LQ I1 (by omega) (by omega) q1 q2 (by simpa using q))
theorem QX {a b:Expr}{ta:TA}{p pos:Pos}(hg:Gl X "range")(hm:X.mg "range"=none)(ha:PA X [a,b] ta)(hs:starEach [a,b] X.env=[(false,eval a X.env),(false,eval b X.env)]:=by rfl)(hs2:starEach [b] X.env=[(false,eval b X.env)]:=by rfl):
  PI X tg (.Call (.Name "range" p) [a,b] [] pos) (afr ta):=by
 intro pins s σ H R I h;refine Call_ (nj I hg hm boot_range (agJ (thn (ha pos pins s σ H _ I h) fun us s1 ⟨vs,H1,I1,r1,q1⟩=>?_) (by rw [hs,hs2]) (by rw [hs2];rfl)));obtain ⟨i,j,e,⟨q1,q2,q3,q4⟩,q⟩:=q1;subst e;cases r1 with
 | cons r rr =>
  cases rr with
  | cons r' rr =>
   cases rr;obtain ⟨t,rfl⟩:=r;obtain ⟨t',rfl⟩:=r';exact call_range_2 (LQ I1 q1 q2 q3 q4 q)
def sU (wi:TI)(g:TG)(tb:TS):TS:=fun D σ H=>wi σ H fun J H1=>∃ W:Nat->Nat->St->Hp->Prop,(∃ m,W 0 m σ H1)/\∀ i m σ H,W i m σ H ->
 (J.stop i H/\D.nx σ H)\/(J.go i H/\∃ N:St->Hp->Prop,(∀ σ' H',N σ' H'->∃ m',m'<m/\W (i+1) m' σ' H')/\∀ x H',J.yld i H x H'->g x σ H' fun σ2 H2=>tb { D with nx:=N,ct:=N,bk:=D.nx } σ2 H2)
def Im (fp:List Addr)(h:Heap):List (Addr × Obj):=fp.filterMap fun b=>(h.get? b).map fun o=>(b,o)
theorem vH {fp:List Addr}{h:Heap}{b:Addr}{o:Obj}(hb:b∈fp)(e:h.get? b=some o):(b,o)∈Im fp h:=List.mem_filterMap.mpr ⟨b,hb,by rw [e];rfl⟩
theorem Ri {fp:List Addr}{h:Heap}{p:Addr × Obj}(hp:p∈Im fp h):p.1∈fp/\h.get? p.1=some p.2:=by
 obtain ⟨b,hb,e⟩:=List.mem_filterMap.mp hp;cases q:h.get? b with
 | none=>rw [q] at e;cases e
 | some o =>
  rw [q] at e;have e':(b,o)=p:=agz e;subst e';exact ⟨hb,q⟩
theorem Inv.pinned {pins:List (Addr × Obj)}{σ:St}{H:Hp}{s:Shared}{fp:List Addr}(I:Inv X pins σ H s)(hf:∀ b∈fp,JL X pins H b)(ho:∀ b∈fp,∃ o,s.heap.get? b=some o/\∀ v,o.data≠.cell v):Inv X (pins++Im fp s.heap) σ H s:=
 I.J5 fun p hp=>(agw.mp hp).elim (fun z=>I.pin p (agf _ z)) fun z=>by
  obtain ⟨hb,e⟩:=Ri z;obtain ⟨f0,f1,f2,_⟩:=hf p.1 hb;obtain ⟨o,e',d⟩:=ho p.1 hb;rw [e] at e';cases e';exact ⟨e,f0,f1,f2,d⟩
theorem Inv.mC {pins pl:List (Addr × Obj)}{σ:St}{H:Hp}{s:Shared}(I:Inv X (pins++pl) σ H s):Inv X pins σ H s:=I.J5 fun p hp=>I.pin p (agf _ (agT _ hp))
theorem f9 {iter:Expr}{body:List Stmt}{wi:TI}{g:TG}{tb:TS}{pos:Pos}(hp:PassesOwn (model X.prog X.w) X.A X.env X.xe)(hc:X.calm=true)(hi:PI X tg iter wi)(hg:PG X tg g)(hb:PSs X body tb)
  (hs:∀ x,foldedSetIterable iter X.env x=pure x:=by intro _;rfl):PS X (.For tg iter body [] pos) (sU wi g tb):=by
 intro pins s σ H D I h;refine wpAny_For (thn (hi pins s σ H _ I h) fun v s1 h1=>thn h1 fun itv s2 h2=>?_) hs;obtain ⟨it,fp,tn,J,H2,e,I2,T,st2,f2,W,⟨m0,w0⟩,turn⟩:=h2;subst e;have stat:∀ {H':Hp},(∀ b∈fp,H' b=none)->∀ b∈fp,JL X pins H' b:=fun hn b hb=>⟨hn b hb,(f2 b hb).2⟩;refine codeAny_forLoop_any (fun n s'=>∃ i σ' H',Inv X pins σ' H' s'/\tn i s'.heap/\(∀ b∈fp,H' b=none)/\W i n σ' H') ?_ m0 ⟨0,σ,H2,I2,st2,fun b hb=>(f2 b hb).1,w0⟩;rintro n s3 ⟨i,σ3,H3,I3,st3,fr3,w3⟩;rcases turn i n σ3 H3 w3 with ⟨stop,qn⟩ | ⟨go,N,hN,step⟩
 ·refine wpAny_passesOwn hp (thn (T.done X rfl rfl rfl hc i pins s3 σ3 H3 X.xe I3 (stat fr3) st3 stop) fun r s4 ⟨hr,I4⟩=>?_);subst hr;exact wpAny_execs_nil ⟨σ3,H3,I4,qn⟩
 ·refine wpAny_passesOwn hp (thn (T.item X rfl rfl rfl hc i pins s3 σ3 H3 X.xe I3 (stat fr3) st3 go) fun r s4 ⟨u,hr,h4⟩=>?_);subst hr;refine wpAny_passesOwn hp (thn h4 fun _ s5 ⟨x,H5,I5,r5,y5,st5,fr5⟩=>?_);have I5':=I5.pinned (stat fr5) (T.obj _ _ st5);refine wpAny_passesOwn hp (thn (hg _ s5 σ3 H5 x u _ I5' r5 (step x H5 y5)) fun _ s6 ⟨σ6,H6,I6,q6⟩=>?_);refine wpAny_passesOwn hp (thn (hb _ s6 σ6 H6 _ I6 q6) fun f s7 q7=>?_);have again:∀ {σ7:St}{H7:Hp},Inv X (pins++Im fp s5.heap) σ7 H7 s7->N σ7 H7->∃ m,m<n/\∃ i σ' H',Inv X pins σ' H' s7/\tn i s7.heap/\(∀ b∈fp,H' b=none)/\W i m σ' H':=fun {σ7 H7} I7 n7=>by
   obtain ⟨m',hm,w7⟩:=hN σ7 H7 n7;refine ⟨m',hm,i+1,σ7,H7,I7.mC,T.keep _ _ _ st5 fun b hb o e=>(I7.pin (b,o) (agf _ (agf _ (vH hb e)))).1,fun b hb=>?_,w7⟩;obtain ⟨o,e,d⟩:=T.obj _ _ st5 b hb;exact (I7.pin (b,o) (agf _ (agf _ (vH hb e)))).2.1
  cases f with
  | next=>obtain ⟨σ7,H7,I7,n7⟩:=q7;exact again I7 n7
  | cont=>obtain ⟨σ7,H7,I7,n7⟩:=q7;exact again I7 n7
  | brk=>obtain ⟨σ7,H7,I7,q7⟩:=q7;exact ⟨σ7,H7,I7.mC,q7⟩
  | ret v=>obtain ⟨x7,σ7,H7,I7,r7,q7⟩:=q7;exact ⟨x7,σ7,H7,I7.mC,r7,q7⟩
end
theorem iB {K:PySem.W.Frag}{a:Addr}{xs:List V}{g:TG}{tb:TS}{D:Ends}{σ:St}{H:Hp}(Pv:Nat->St->Hp->Prop)(h0:Pv 0 σ H)(hl:∀ i σ H,i<=xs.length->Pv i σ H->SqL K H a xs)
  (hs:∀ i x σ H,xs[i]?=some x->Pv i σ H->g x σ H fun σ2 H2=>tb { D with nx:=Pv (i+1),ct:=Pv (i+1),bk:=D.nx } σ2 H2)(hd:∀ σ H,Pv xs.length σ H->D.nx σ H):
  ∃ W:Nat->Nat->St->Hp->Prop,(∃ m,W 0 m σ H)/\∀ i m σ H,W i m σ H ->
   ((Itl K a).stop i H/\D.nx σ H)\/((Itl K a).go i H/\∃ N:St->Hp->Prop,(∀ σ' H',N σ' H'->∃ m',m'<m/\W (i+1) m' σ' H')/\∀ x H',(Itl K a).yld i H x H'->g x σ H' fun σ2 H2=>tb { D with nx:=N,ct:=N,bk:=D.nx } σ2 H2):=by
 refine ⟨fun i m σ H=>m=xs.length - i/\i<=xs.length/\Pv i σ H,⟨xs.length,by simp,agN _,h0⟩,?_⟩
 rintro i m σ H ⟨rfl,hi,p⟩
 have q:=hl i σ H hi p
 by_cases hlt:i<xs.length
 ·refine .inr ⟨⟨xs,xs[i],q,by simp [hlt]⟩,Pv (i+1),fun σ' H' p'=>⟨xs.length - (i+1),by omega,rfl,hlt,p'⟩,fun x H' y=>?_⟩
  obtain ⟨e,y⟩:=y
  subst e
  exact hs i x σ _ (y xs q) p
 ·have e:i=xs.length:=by omega
  subst e
  exact .inl ⟨⟨xs,q,agb _⟩,hd σ H p⟩
theorem yL {lo:Int}{n:Nat}{g:TG}{tb:TS}{D:Ends}{σ:St}{H:Hp}(Pv:Nat->St->Hp->Prop)(h0:Pv 0 σ H)
  (hs:∀ i σ H,i<n->Pv i σ H->g (.int (lo+i)) σ H fun σ2 H2=>tb { D with nx:=Pv (i+1),ct:=Pv (i+1),bk:=D.nx } σ2 H2)(hd:∀ σ H,Pv n σ H->D.nx σ H):
  ∃ W:Nat->Nat->St->Hp->Prop,(∃ m,W 0 m σ H)/\∀ i m σ H,W i m σ H ->
   ((Itr lo n).stop i H/\D.nx σ H)\/((Itr lo n).go i H/\∃ N:St->Hp->Prop,(∀ σ' H',N σ' H'->∃ m',m'<m/\W (i+1) m' σ' H')/\∀ x H',(Itr lo n).yld i H x H'->g x σ H' fun σ2 H2=>tb { D with nx:=N,ct:=N,bk:=D.nx } σ2 H2):=by
 refine ⟨fun i m σ H=>m=n - i/\i<=n/\Pv i σ H,⟨n,by simp,agN _,h0⟩,?_⟩
 rintro i m σ H ⟨rfl,hi,p⟩
 by_cases hlt:i<n
 ·refine .inr ⟨hlt,Pv (i+1),fun σ' H' p'=>⟨n - (i+1),by omega,rfl,hlt,p'⟩,fun x H' y=>?_⟩
  obtain ⟨e,y⟩:=y
  subst e y
  exact hs i σ _ hlt p
 ·have e:i=n:=by omega
  subst e
  exact .inl ⟨agb _,hd σ H p⟩
abbrev R2:=V->V->Hp->VK->Prop
def OpR (X:Cx)(f:Value->Value->Sem Value)(r:R2):Prop:=
 ∀ (pins:List (Addr × Obj))(s:Shared)(σ:St)(H:Hp)(x y:V)(v u:Value)(Q:VK),Inv X pins σ H s->RelV x v->RelV y u->r x y H Q ->
  wpAny (model X.prog X.w) X.A (f v u) (EP X pins σ Q) X.xe s
def UnR (X:Cx)(f:Value->Sem Value)(r:V->Hp->VK->Prop):Prop:=
 ∀ (pins:List (Addr × Obj))(s:Shared)(σ:St)(H:Hp)(x:V)(v:Value)(Q:VK),Inv X pins σ H s->RelV x v->r x H Q ->
  wpAny (model X.prog X.w) X.A (f v) (EP X pins σ Q) X.xe s
def vQ (X:Cx)(f:Value)(r:List V->Hp->VK->Prop):Prop:=
 ∀ (pins:List (Addr × Obj))(s:Shared)(σ:St)(H:Hp)(xs:List V)(us:List Value)(Q:VK),Inv X pins σ H s->Vals xs us->r xs H Q ->
  wpAny (model X.prog X.w) X.A (call f us) (EP X pins σ Q) X.xe s
def TruR (X:Cx)(r:V->Hp->(Bool->Hp->Prop)->Prop):Prop:=
 ∀ (pins:List (Addr × Obj))(s:Shared)(σ:St)(H:Hp)(x:V)(v:Value)(Q:Bool->Hp->Prop),Inv X pins σ H s->RelV x v->r x H Q ->
  wpAny (model X.prog X.w) X.A (truthy v) (TP X pins σ Q) X.xe s
def tOp (r:R2)(ta tb:TE):TE:=fun σ H Q=>ta σ H fun x H1=>tb σ H1 fun y H2=>r x y H2 Q
def tUn (r:V->Hp->VK->Prop)(ta:TE):TE:=fun σ H Q=>ta σ H fun x H1=>r x H1 Q
inductive rI (C:Int->Int->Prop)(g:Int->Int->V)(x y:V)(H:Hp)(Q:VK):Prop
 | mk (i j:Int)(_:x=.int i)(_:y=.int j)(_:C i j)(_:Q (g i j) H)
inductive rI0 (g:Int->Int->V)(x y:V)(H:Hp)(Q:VK):Prop
 | mk (i j:Int)(_:x=.int i)(_:y=.int j)(_:Q (g i j) H)
def rU (g:Int->V):V->Hp->VK->Prop:=fun x H Q=>∃ i,x=.int i/\Q (g i) H
section
variable {X:Cx}{a b c:Expr}{ta tb tc:TE}{pos:Pos}
theorem aex (ha:PE X a ta)(hb:PE X b tb){pins:List (Addr × Obj)}{s:Shared}{σ:St}{H:Hp}{R:V->V->Hp->Prop}(I:Inv X pins σ H s)
  (h:ta σ H fun x H1=>tb σ H1 fun y H2=>R x y H2){Q:Value->Shared->Prop}{f:Value->Value->Sem Value}
  (hf:∀ v u s2 x y H2,Inv X pins σ H2 s2->RelV x v->RelV y u->R x y H2->wpAny (model X.prog X.w) X.A (f v u) Q X.xe s2):
  wpAny (model X.prog X.w) X.A (eval a X.env) (fun v s₁=>wpAny (model X.prog X.w) X.A (eval b X.env) (fun u s₂=>wpAny (model X.prog X.w) X.A (f v u) Q X.xe s₂) X.xe s₁) X.xe s:=by
 refine thn (ha pins s σ H _ I h) fun v s1 ⟨x,H1,I1,r1,q1⟩=>?_
 refine thn (hb pins s1 σ H1 _ I1 q1) fun u s2 ⟨y,H2,I2,r2,q2⟩=>?_
 exact hf v u s2 x y H2 I2 r1 r2 q2
theorem bD {op:Operator}{r:R2}(ho:OpR X (binaryOp op) r)(ha:PE X a ta)(hb:PE X b tb):PE X (.BinOp a op b pos) (tOp r ta tb):=by
 intro pins s σ H Q I h;exact wpAny_BinOp (aex ha hb I h fun v u s2 x y H2 I2 rx ry q=>ho pins s2 σ H2 x y v u Q I2 rx ry q)
theorem Eh {op:UnaryOp}{r:V->Hp->VK->Prop}(ho:UnR X (unaryOp op) r)(ha:PE X a ta):PE X (.UnaryOp op a pos) (tUn r ta):=by
 intro pins s σ H Q I h;exact UnaryOp_ (thn (ha pins s σ H _ I h) fun v s1 ⟨x,H1,I1,r1,q1⟩=>ho pins s1 σ H1 x v Q I1 r1 q1)
theorem opI {f:Value->Value->Sem Value}{C:Int->Int->Prop}{g:Int->Int->Int}
  (rule:∀ (i j:Int)(t u:Tok)(s:Shared)(Q:Value->Shared->Prop)(E:Value->Shared->Prop),C i j->Q (.int (g i j) s.toks) { s with toks:=s.toks+1 }->wpAny (model X.prog X.w) X.A (f (.int i t) (.int j u)) Q E s):
  OpR X f (rI C fun i j=>.int (g i j)):=by
 intro pins s σ H x y v u Q I rx ry h
 obtain ⟨i,j,rfl,rfl,hc,q⟩:=h
 obtain ⟨t,rfl⟩:=rx
 obtain ⟨t',rfl⟩:=ry
 exact rule i j t t' s _ _ hc ⟨.int (g i j),H,I.tok _,⟨_,rfl⟩,q⟩
theorem afM {f:Value->Value->Sem Value}{g:Int->Int->Int}
  (rule:∀ (i j:Int)(t u:Tok)(s:Shared)(Q:Value->Shared->Prop)(E:Value->Shared->Prop),Q (.int (g i j) s.toks) { s with toks:=s.toks+1 }->wpAny (model X.prog X.w) X.A (f (.int i t) (.int j u)) Q E s):
  OpR X f (rI0 fun i j=>.int (g i j)):=by
 intro pins s σ H x y v u Q I rx ry h
 obtain ⟨i,j,rfl,rfl,q⟩:=h
 obtain ⟨t,rfl⟩:=rx
 obtain ⟨t',rfl⟩:=ry
 exact rule i j t t' s _ _ ⟨.int (g i j),H,I.tok _,⟨_,rfl⟩,q⟩
theorem aeo {f:Value->Value->Sem Value}{g:Int->Int->Bool}
  (rule:∀ (i j:Int)(t u:Tok)(s:Shared)(Q:Value->Shared->Prop)(E:Value->Shared->Prop),Q (.bool (g i j)) s->wpAny (model X.prog X.w) X.A (f (.int i t) (.int j u)) Q E s):
  OpR X f (rI0 fun i j=>.bl (g i j)):=by
 intro pins s σ H x y v u Q I rx ry h
 obtain ⟨i,j,rfl,rfl,q⟩:=h
 obtain ⟨t,rfl⟩:=rx
 obtain ⟨t',rfl⟩:=ry
 exact rule i j t t' s _ _ ⟨.bl (g i j),H,I,rfl,q⟩
def CDiv (i j:Int):Prop:=0<j/\j<1073741824
def CPow (i j:Int):Prop:=0<=j/\j<=1000000/\i.natAbs<2 ^ 64
def afH (i j:Int):Prop:=(-(2 ^ 64)<i/\i<2 ^ 64)\/(-(2 ^ 64)<j/\j<2 ^ 64)
theorem afH.ok {i j:Int}(h:afH i j):IntMulOk i j:=by
 rcases h with ⟨h1,h2⟩ | ⟨h1,h2⟩
 ·exact .of_left (intBits_le_64 h1 h2)
 ·exact .of_right (intBits_le_64 h1 h2)
theorem ud:OpR X (binaryOp .Add) (rI0 fun i j=>.int (i+j)):=afM fun _ _ _ _ _ _ _ q=>add_int q
theorem yF:OpR X (binaryOp .Sub) (rI0 fun i j=>.int (i - j)):=afM fun _ _ _ _ _ _ _ q=>sub_int q
theorem Ez:OpR X (binaryOp .Mult) (rI afH fun i j=>.int (i*j)):=opI fun _ _ _ _ _ _ _ hc q=>mul_int q hc.ok
theorem pB:OpR X (binaryOp .FloorDiv) (rI CDiv fun i j=>.int (i / j)):=opI fun i j _ _ _ _ _ hc q=>by
 have h1:(0:Int)<j:=hc.1;have h2:j<1073741824:=hc.2;exact floordiv_int (by omega) (by rw [Int.fdiv_eq_ediv_of_nonneg i (by omega)];exact q) (.inl (PyProof.noPylong_small (by omega)))
theorem gb:OpR X (binaryOp .Mod) (rI (fun _ j=>0<j) fun i j=>.int (i % j)):=opI fun i j _ _ _ _ _ hc q=>by
 have h1:(0:Int)<j:=hc;exact mod_int' (by omega) (by rw [Int.fmod_eq_emod_of_nonneg i (by omega)];exact q)
theorem Wi:OpR X (binaryOp .Pow) (rI CPow fun i j=>.int (i ^ j.toNat)):=opI fun _ _ _ _ _ _ _ hc q=>pow_int_small hc.1 hc.2.1 hc.2.2 q
theorem unI {f:Value->Sem Value}{g:Int->Int}
  (rule:∀ (i:Int)(t:Tok)(s:Shared)(Q:Value->Shared->Prop)(E:Value->Shared->Prop),Q (.int (g i) s.toks) { s with toks:=s.toks+1 }->wpAny (model X.prog X.w) X.A (f (.int i t)) Q E s):
  UnR X f (rU fun i=>.int (g i)):=by
 intro pins s σ H x v Q I rx h
 obtain ⟨i,rfl,q⟩:=h
 obtain ⟨t,rfl⟩:=rx
 exact rule i t s _ _ ⟨.int (g i),H,I.tok _,⟨_,rfl⟩,q⟩
theorem vU:UnR X (unaryOp .USub) (rU fun i=>.int (-i)):=unI fun _ _ _ _ _ q=>neg_int q
end
def afJ:V->V->Bool
 | .non,.non=>true| .non,.int _=>true| .int _,.non=>true| .non,.bl _=>true| .bl _,.non=>true| .non,.str _=>true| .str _,.non=>true
 | .int _,.int _=>true| .bl _,.bl _=>true| .str _,.str _=>true| .byt _,.byt _=>true
 | .int _,.str _=>true| .str _,.int _=>true| .bl _,.str _=>true| .str _,.bl _=>true
 | _,_=>false
def rEq:R2:=fun x y H Q=>afJ x y=true/\Q (.bl (decide (x=y))) H
def rNe:R2:=fun x y H Q=>afJ x y=true/\Q (.bl (!decide (x=y))) H
theorem Sw {i j:Int}:decide (V.int i=V.int j)=(i ==j):=by
 rw [ag6];simp
theorem aaN {i j:Bool}:decide (V.bl i=V.bl j)=(i ==j):=by
 rw [ag6];simp
theorem Sv {i j:Str}:decide (V.str i=V.str j)=(i ==j):=by
 rw [ag6];simp
theorem Sx {i j:Array UInt8}:decide (V.byt i=V.byt j)=(i.toList ==j.toList):=by
 rw [ag6];cases i;cases j;simp
section
variable {X:Cx}{a b c:Expr}{ta tb tc:TE}{pos:Pos}
theorem dN {pins:List (Addr × Obj)}{σ:St}{H:Hp}{s:Shared}{Q:VK}{k k':Bool}(I:Inv X pins σ H s)(q:Q (.bl k) H)(e:k=k'):EP X pins σ Q (.bool k') s:=by
 subst e;exact ⟨.bl k,H,I,rfl,q⟩
theorem kj:OpR X (compareOp .Eq) rEq:=by
 intro pins s σ H x y v u Q I rx ry h;obtain ⟨hs,q⟩:=h;cases x with
 | non =>
  cases rx;cases y with
  | non=>cases ry;exact PySem.EqNone.eq_none_none (dN I q (by simp))
  | bl j=>cases ry;exact PySem.EqNone.eq_none_bool (dN I q (by simp))
  | int j=>obtain ⟨t',rfl⟩:=ry;exact PySem.EqNone.eq_none_int (dN I q (by simp))
  | str j=>obtain ⟨t',rfl⟩:=ry;exact PySem.EqNone.eq_none_str (dN I q (by simp))
  | _=>exact absurd (show false=true from hs) agi
 | bl i =>
  cases rx;cases y with
  | non=>cases ry;exact PySem.EqNone.eq_bool_none (dN I q (by simp))
  | bl j=>cases ry;exact eq_bool (dN I q aaN)
  | str j=>obtain ⟨t',rfl⟩:=ry;exact PySem.EqMixed.eq_bool_str (dN I q (by simp))
  | _=>exact absurd (show false=true from hs) agi
 | int i =>
  obtain ⟨t,rfl⟩:=rx;cases y with
  | non=>cases ry;exact PySem.EqNone.eq_int_none (dN I q (by simp))
  | int j=>obtain ⟨t',rfl⟩:=ry;exact eq_int (dN I q Sw)
  | str j=>obtain ⟨t',rfl⟩:=ry;exact PySem.EqMixed.eq_int_str (dN I q (by simp))
  | _=>exact absurd (show false=true from hs) agi
 | str i =>
  obtain ⟨t,rfl⟩:=rx;cases y with
  | non=>cases ry;exact PySem.EqNone.eq_str_none (dN I q (by simp))
  | bl j=>cases ry;exact PySem.EqMixed.eq_str_bool (dN I q (by simp))
  | int j=>obtain ⟨t',rfl⟩:=ry;exact PySem.EqMixed.eq_str_int (dN I q (by simp))
  | str j=>obtain ⟨t',rfl⟩:=ry;exact eq_str (dN I q Sv)
  | _=>exact absurd (show false=true from hs) agi
 | byt i =>
  obtain ⟨t,rfl⟩:=rx;cases y with
  | byt j=>obtain ⟨t',rfl⟩:=ry;exact PySem.W.eq_bytes (dN I q Sx)
  | _=>exact absurd (show false=true from hs) agi
 | _=>cases y <;>exact absurd (show false=true from hs) agi
theorem Cr:OpR X (compareOp .NotEq) rNe:=by
 intro pins s σ H x y v u Q I rx ry h;obtain ⟨hs,q⟩:=h;cases x with
 | non =>
  cases rx;cases y with
  | non=>cases ry;exact PySem.EqNone.ne_none_none (dN I q (by simp))
  | bl j=>cases ry;exact PySem.EqNone.ne_none_bool (dN I q (by simp))
  | int j=>obtain ⟨t',rfl⟩:=ry;exact PySem.EqNone.ne_none_int (dN I q (by simp))
  | str j=>obtain ⟨t',rfl⟩:=ry;exact PySem.EqNone.ne_none_str (dN I q (by simp))
  | _=>exact absurd (show false=true from hs) agi
 | bl i =>
  cases rx;cases y with
  | non=>cases ry;exact PySem.EqNone.ne_bool_none (dN I q (by simp))
  | bl j=>cases ry;exact ne_bool (dN I q (congrArg not aaN))
  | str j=>obtain ⟨t',rfl⟩:=ry;exact PySem.EqMixed.ne_bool_str (dN I q (by simp))
  | _=>exact absurd (show false=true from hs) agi
 | int i =>
  obtain ⟨t,rfl⟩:=rx;cases y with
  | non=>cases ry;exact PySem.EqNone.ne_int_none (dN I q (by simp))
  | int j=>obtain ⟨t',rfl⟩:=ry;exact ne_int (dN I q (congrArg not Sw))
  | str j=>obtain ⟨t',rfl⟩:=ry;exact PySem.EqMixed.ne_int_str (dN I q (by simp))
  | _=>exact absurd (show false=true from hs) agi
 | str i =>
  obtain ⟨t,rfl⟩:=rx;cases y with
  | non=>cases ry;exact PySem.EqNone.ne_str_none (dN I q (by simp))
  | bl j=>cases ry;exact PySem.EqMixed.ne_str_bool (dN I q (by simp))
  | int j=>obtain ⟨t',rfl⟩:=ry;exact PySem.EqMixed.ne_str_int (dN I q (by simp))
  | str j=>obtain ⟨t',rfl⟩:=ry;exact ne_str (dN I q (congrArg not Sv))
  | _=>exact absurd (show false=true from hs) agi
 | byt i =>
  obtain ⟨t,rfl⟩:=rx;cases y with
  | byt j=>obtain ⟨t',rfl⟩:=ry;exact PySem.W.ne_bytes (dN I q (congrArg not Sx))
  | _=>exact absurd (show false=true from hs) agi
 | _=>cases y <;>exact absurd (show false=true from hs) agi
theorem Bh:OpR X (compareOp .Lt) (rI0 fun i j=>.bl (decide (i<j))):=aeo fun _ _ _ _ _ _ _ q=>lt_int q
theorem yG:OpR X (compareOp .LtE) (rI0 fun i j=>.bl (decide (i<=j))):=aeo fun _ _ _ _ _ _ _ q=>le_int q
theorem Uv:OpR X (compareOp .Gt) (rI0 fun i j=>.bl (decide (j<i))):=aeo fun _ _ _ _ _ _ _ q=>gt_int q
theorem acZ:OpR X (compareOp .GtE) (rI0 fun i j=>.bl (decide (j<=i))):=aeo fun _ _ _ _ _ _ _ q=>ge_int q
theorem Q8:OpR X (compareOp .In) (fun x y H Q=>∃ i j,x=.str i/\y=.str j/\Q (.bl (!(Builtin.Str.occurrences j i 0 j.length 1).isEmpty)) H):=by
 intro pins s σ H x y v u Q I rx ry h;obtain ⟨i,j,rfl,rfl,q⟩:=h;obtain ⟨t,rfl⟩:=rx;obtain ⟨t',rfl⟩:=ry;exact in_str (dN I q rfl)
theorem Wj:OpR X (compareOp .Is) (fun x y H Q=>y=.non/\Q (.bl (decide (x=.non))) H):=by
 intro pins s σ H x y v u Q I rx ry h;obtain ⟨rfl,q⟩:=h;cases ry;refine is_none_gen (dN I q ?_);cases x <;>first
  | (cases rx;rfl)
  | (obtain ⟨t,rfl⟩:=rx;rfl)
theorem Q6:OpR X (compareOp .IsNot) (fun x y H Q=>y=.non/\Q (.bl (!decide (x=.non))) H):=by
 intro pins s σ H x y v u Q I rx ry h;obtain ⟨rfl,q⟩:=h;cases ry;refine isnot_none_gen (dN I q ?_);cases x <;>first
  | (cases rx;rfl)
  | (obtain ⟨t,rfl⟩:=rx;rfl)
theorem bf (b:Expr){op:CmpOp}(h:op≠.In:=by decide)(h2:op≠.NotIn:=by decide):behindInMarks op b=false:=by
 have e1:(op ==CmpOp.In)=false:=by cases op <;>first| rfl| exact absurd rfl h
 have e2:(op ==CmpOp.NotIn)=false:=by cases op <;>first| rfl| exact absurd rfl h2
 cases b <;>simp [behindInMarks,e1,e2]
theorem qz {op:CmpOp}{r:R2}(ho:OpR X (compareOp op) r)(ha:PE X a ta)(hb:PE X b tb)(hm:behindInMarks op b=false):PE X (.Compare a [op] [b] pos) (tOp r ta tb):=by
 intro pins s σ H Q I h;exact wpAny_Compare1 (aex ha hb I h fun v u s2 x y H2 I2 rx ry q=>ho pins s2 σ H2 x y v u Q I2 rx ry q) hm
def aa3 (t:TE):TT:=fun σ H Q=>t σ H fun x H'=>adF x fun k=>Q k H'
theorem aR {op:CmpOp}{r:R2}(ho:OpR X (compareOp op) r)(ha:PE X a ta)(hb:PE X b tb)(hm:behindInMarks op b=false):PT X (.Compare a [op] [b] pos) (aa3 (tOp r ta tb)):=by
 intro pins s σ H Q I h;refine wpAny_isTrue_Compare1 (thn (ha pins s σ H _ I h) fun v s1 ⟨x,H1,I1,r1,q1⟩=>thn (hb pins s1 σ H1 _ I1 q1) fun u s2 ⟨y,H2,I2,r2,q2⟩=>
  thn (ho pins s2 σ H2 x y v u _ I2 r1 r2 q2) fun c s3 ⟨z,H3,I3,r3,k,e,q3⟩=>?_) hm
 subst e;cases r3;exact wpAny_truthy_bool ⟨H3,I3,q3⟩
def VP (r r':R2)(ta tb tc:TE):TE:=fun σ H Q=>ta σ H fun x H1=>tb σ H1 fun y H2=>r x y H2 fun z H3=>∃ k,z=.bl k /\
 (if k=true then tc σ H3 fun w' H4=>r' y w' H4 Q else Q (.bl false) H3)
theorem Gq {op op':CmpOp}{r r':R2}(ho:OpR X (compareOp op) r)(ho':OpR X (compareOp op') r')(ha:PE X a ta)(hb:PE X b tb)(hc:PE X c tc)
  (hm:lastMarks [op,op'] [b,c]=false:=by with_unfolding_all rfl):PE X (.Compare a [op,op'] [b,c] pos) (VP r r' ta tb tc):=by
 intro pins s σ H Q I h;refine Compare_chain (thn (ha pins s σ H _ I h) fun v s1 ⟨x,H1,I1,r1,q1⟩=>chain_link (thn (hb pins s1 σ H1 _ I1 q1) fun u s2 ⟨y,H2,I2,r2,q2⟩=>
  thn (ho pins s2 σ H2 x y v u _ I2 r1 r2 q2) fun d s3 ⟨z,H3,I3,r3,k,e,q3⟩=>?_)) hm
 subst e;cases r3;refine wpAny_truthy_bool ?_;cases k with
 | false=>exact ite_ff ⟨.bl false,H3,I3,rfl,q3⟩
 | true=>exact ite_tt (chain_last (thn (hc pins s3 σ H3 _ I3 q3) fun w' s4 ⟨z',H4,I4,r4,q4⟩=>ho' pins s4 σ H4 y z' u w' Q I4 r2 r4 q4))
theorem vD {op op':CmpOp}{r r':R2}(ho:OpR X (compareOp op) r)(ho':OpR X (compareOp op') r')(ha:PE X a ta)(hb:PE X b tb)(hc:PE X c tc)
  (hm:lastMarks [op,op'] [b,c]=false:=by with_unfolding_all rfl):PT X (.Compare a [op,op'] [b,c] pos) (aa3 (VP r r' ta tb tc)):=by
 intro pins s σ H Q I h;refine isTrue_chain (thn (ha pins s σ H _ I h) fun v s1 ⟨x,H1,I1,r1,q1⟩=>test_link (thn (hb pins s1 σ H1 _ I1 q1) fun u s2 ⟨y,H2,I2,r2,q2⟩=>
  thn (ho pins s2 σ H2 x y v u _ I2 r1 r2 q2) fun d s3 ⟨z,H3,I3,r3,k,e,q3⟩=>?_)) hm
 subst e;cases r3;refine wpAny_truthy_bool ?_;cases k with
 | false =>
  obtain ⟨k',e',q'⟩:=q3;cases e';exact ite_ff ⟨H3,I3,q'⟩
 | true =>
  refine ite_tt (test_last (thn (hc pins s3 σ H3 _ I3 q3) fun w' s4 ⟨z',H4,I4,r4,q4⟩=>thn (ho' pins s4 σ H4 y z' u w' _ I4 r2 r4 q4) fun d' s5 ⟨z2,H5,I5,r5,k2,e2,q5⟩=>?_));subst e2;cases r5;exact wpAny_truthy_bool ⟨H5,I5,q5⟩
def af3 (K:PySem.W.Frag)(x:V)(H:Hp)(k:Bool):Prop:=
 match x with
 | .non=>k=false
 | .bl b=>k=b
 | .int i=>k=(i !=0)
 | .str y=>y.length<=sizeLine/\k=((y.length:Int) !=0)
 | .byt y=>y.size<=sizeLine/\k=((y.size:Int) !=0)
 | .ref p=>(∃ xs,SqL K H p xs/\k=!xs.isEmpty)\/(∃ xs,SqT K H p xs/\k=!xs.isEmpty)\/∃ kvs,H p=some (.dK kvs)/\k=!kvs.isEmpty
 | _=>False
theorem Ox {κ:Type}{kvs:List (κ × V)}{vs:List (κ × Value)}(r:KV kvs vs):(!vs.isEmpty)=!kvs.isEmpty:=by
 cases r <;>rfl
theorem Fd {xs:List V}{its:List Value}(r:Vals xs its):(!its.toArray.isEmpty)=!xs.isEmpty:=by
 cases r <;>simp
theorem yI:(sizeLine:Nat)<2 ^ 63:=by rw [sizeLine_eq];decide
theorem acy:TruR X (fun x H Q=>∃ k,af3 X.K x H k/\Q k H):=by
 intro pins s σ H x v Q I rx h;obtain ⟨k,e,q⟩:=h;have hl:=yI;have hs:sizeLine=16777216:=sizeLine_eq;cases x with
 | non =>
  cases rx;have e':k=false:=e;subst e';exact truthy_none ⟨H,I,q⟩
 | bl b =>
  cases rx;have e':k=b:=e;subst e';exact wpAny_truthy_bool ⟨H,I,q⟩
 | int i =>
  obtain ⟨t,rfl⟩:=rx;have e':k=(i !=0):=e;subst e';exact PySem.P.truthy_int ⟨H,I,q⟩
 | str y =>
  obtain ⟨t,rfl⟩:=rx;obtain ⟨hy,e'⟩:y.length<=sizeLine/\k=((y.length:Int) !=0):=e;subst e';exact PySem.P.truthy_str (by omega) ⟨H,I.tok _,q⟩
 | byt y =>
  obtain ⟨t,rfl⟩:=rx;obtain ⟨hy,e'⟩:y.size<=sizeLine/\k=((y.size:Int) !=0):=e;subst e';exact PySem.W.truthy_bytes (by omega) ⟨H,I.tok _,q⟩
 | ref p =>
  cases rx;have e':(∃ xs,SqL X.K H p xs/\k=!xs.isEmpty)\/(∃ xs,SqT X.K H p xs/\k=!xs.isEmpty)\/∃ kvs,H p=some (.dK kvs)/\k=!kvs.isEmpty:=e;rcases e' with ⟨xs,hx,e'⟩ | ⟨xs,hx,e'⟩ | ⟨kvs,hx,e'⟩
  ·subst e';obtain ⟨its,r,pl,hz⟩:=I.list hx;have hlen:=r.length;exact wpAny_truthy_list pl.isList (by simp only [ags];omega) ⟨H,I.tok _,by rw [Fd r];exact q⟩
  ·subst e';obtain ⟨its,r,pl,hz⟩:=I.tuple hx;have hlen:=r.length;exact truthy_tuple pl (by simp only [ags];omega) ⟨H,I.tok _,by rw [Fd r];exact q⟩
  ·subst e';obtain ⟨hz,hS,vs,r,m⟩:kvs.length<=sizeLine/\(p ==sysModules)=false/\∃ vs,KV kvs vs/\s.heap.DictOf (jk X.prog X.w) p vs:=I.hok p _ hx;have hlen:kvs.length=vs.length:=Paired.length r;exact wpAny_truthy_dict hS m (by omega) ⟨H,I.tok _,by rw [Ox r];exact q⟩
 | _=>exact (show False from e).elim
theorem Uq (ha:PE X a ta)(he:∀ whole,isTrue a X.env whole=(do let v <- whole;standAt a.pos;holding [v] (truthy v))):
  PT X a (fun σ H Q=>ta σ H fun x H'=>∃ k,af3 X.K x H' k/\Q k H'):=by
 intro pins s σ H Q I h;exact isTrue_plain (thn (ha pins s σ H _ I h) fun v s1 ⟨x,H1,I1,r1,q1⟩=>acy pins s1 σ H1 x v Q I1 r1 q1) (he _)
theorem Oh:OpR X (binaryOp .Add) (fun x y H Q=>∃ i j,x=.str i/\y=.str j/\i.length+j.length<=sizeLine/\Q (.str (i++j)) H):=by
 intro pins s σ H x y v u Q I rx ry h;obtain ⟨i,j,rfl,rfl,hz,q⟩:=h;obtain ⟨t,rfl⟩:=rx;obtain ⟨t',rfl⟩:=ry;exact add_str (fun t' tk=>⟨.str (i++j),H,I.tok _,⟨_,rfl⟩,q⟩) hz
def VL (b:Expr):Prop:=∀ o i,subscripted b false o i=operate [o,i] (getItem o i)
theorem Ck (ha:PE X a ta)(hb:PE X b tb)(hs:VL b):
  PE X (.Subscript a b pos) (tOp (fun x y H Q=>∃ z i c,x=.str z/\y=.int i/\0<=i/\i<2 ^ 63/\i<z.length/\z.cps[i.toNat]?=some c/\Q (.str ⟨#[c]⟩) H) ta tb):=by
 intro pins s σ H Q I h;refine Subscript_ (aex ha hb I h fun v u s2 x y H2 I2 rx ry q=>?_);obtain ⟨z,i,c,rfl,rfl,h0,h63,h1,hc,q⟩:=q;obtain ⟨t,rfl⟩:=rx;obtain ⟨t',rfl⟩:=ry;have e:seqIndex? i z.length=some i.toNat:=PySem.StrLaws.seqIndex_nonneg h0 h1;exact tail_any (typeIs_str s2 z t) slot_str_getitem.lookup (getItem_str (c:=c) (by
  have e1:decide (i < -(2 ^ 63:Int))=false:=decide_eq_false (by omega);have e2:decide (i >=2 ^ 63)=false:=decide_eq_false (by omega);rw [e1,e2]<;>rfl) (by rw [e];exact hc) ⟨.str ⟨#[c]⟩,H2,I2.tok _,⟨_,rfl⟩,q⟩) (hs _ _)
theorem vals1 {x:V}{us:List Value}(r:Vals [x] us):∃ u,us=[u]/\RelV x u:=by
 cases r with
 | cons r1 r2=>cases r2;exact ⟨_,rfl,r1⟩
theorem vals2 {x y:V}{us:List Value}(r:Vals [x,y] us):∃ u w',us=[u,w']/\RelV x u/\RelV y w':=by
 cases r with
 | cons r1 r2 =>
  cases r2 with
  | cons r3 r4=>cases r4;exact ⟨_,_,rfl,r1,r3⟩
theorem Jo (hc:X.calm=true):vQ X (.builtin "max") (fun xs H Q=>∃ i j,xs=[.int i,.int j]/\Q (.int (if j >i then j else i)) H):=by
 intro pins s σ H xs us Q I r h;obtain ⟨i,j,rfl,q⟩:=h;obtain ⟨u,w',rfl,⟨t,rfl⟩,⟨t',rfl⟩⟩:=vals2 r;refine max_two_ints (I.ok.hd hc) fun h' tk k=>⟨_,H,I.kept k,?_,q⟩;by_cases hj:j >i
 ·rw [if_pos hj,if_pos hj];exact ⟨_,rfl⟩
 ·rw [if_neg hj,if_neg hj];exact ⟨_,rfl⟩
theorem Jm (hc:X.calm=true):vQ X (.builtin "min") (fun xs H Q=>∃ i j,xs=[.int i,.int j]/\Q (.int (if j<i then j else i)) H):=by
 intro pins s σ H xs us Q I r h;obtain ⟨i,j,rfl,q⟩:=h;obtain ⟨u,w',rfl,⟨t,rfl⟩,⟨t',rfl⟩⟩:=vals2 r;refine min_two_ints (I.ok.hd hc) fun h' tk k=>⟨_,H,I.kept k,?_,q⟩;by_cases hj:j<i
 ·rw [if_pos hj,if_pos hj];exact ⟨_,rfl⟩
 ·rw [if_neg hj,if_neg hj];exact ⟨_,rfl⟩
end
structure ab8 (h:Heap)(x dx C:Addr)(mA:Str->Option Value):Prop where
 obj:h.get? x=some (instObj C dx)
 ns:h.Ns1 dx mA
 ne:dx≠x
theorem Rt {h:Heap}{dx:Addr}{mA:Str->Option Value}(n:h.Ns1 dx mA):∃ od,h.get? dx=some od/\∀ name,lookIn name od=some (mA name):=by
 obtain ⟨o,es,ep,ho,hd,hk,_,hm⟩:=n;refine ⟨o,ho,fun name=>?_⟩;have e:=hm name;unfold nsFind findBy at e;rw [<- Array.find?_toList] at e;unfold lookIn;rw [hd];dsimp only;split
 ·rename_i y q
  rw [q] at e;exact congrArg some e
 ·rename_i q
  rw [q] at e;have a:es.toList.any (·.refKey)=false:=by
   rw [List.any_eq_false];intro y hy;obtain ⟨z,t,hkey⟩:=hk y (Array.mem_toList_iff.mp hy);simp [DictEntry.refKey,hkey]
  have a':¬ es.toList.any (·.refKey)=true:=by rw [a];exact agi
  rw [if_neg a'];exact congrArg some e
theorem ab8.look {h:Heap}{x dx C:Addr}{mA:Str->Option Value}(I:ab8 h x dx C mA):∃ od,PySem.W.InstAt h x (instObj C dx) C (some od)/\∀ name,lookIn name od=some (mA name):=
 let ⟨od,ho,hl⟩:=Rt I.ns;⟨od,⟨I.obj,rfl,rfl,ho⟩,hl⟩
section
variable {prog:Program}{w:World}{A:Around}{E:Value->Shared->Prop}{s:Shared}{K:PySem.W.Frag}{x dx C f:Addr}{mA:Str->Option Value}{name:Str}{v:Value}
theorem get_map {expr:Bool}{Q:Value->Shared->Prop}(X:K.In s.heap)(I:ab8 s.heap x dx C mA)(hg:plainGet K C name=true)(hh:hasDictIn K C=true)
  (ha:PySem.W.findIn K (.ref C) name=some none)(hv:mA name=some v)(hv':handedIn v=true)(h:Q v { s with toks:=s.toks+1 }):
  wpAny (model prog w) A (getAttr (.ref x) name expr) Q E s:=by
 obtain ⟨od,J,hl⟩:=I.look
 exact PySem.W.get_value X J (plainGet_of hg).1 (PySem.W.findObj_own hh ha rfl (by rw [hl,hv])) hv' h
theorem Vn {pl:Sem Bool}{Q:Value × List Value->Shared->Prop}(X:K.In s.heap)(I:ab8 s.heap x dx C mA)(hg:plainGet K C name=true)
  (hf:PySem.W.findIn K (.ref C) name=some (some (.ref f)))(ht:isFn K (.ref f)=true)(hv:mA name=none)(h:Q (.ref f,[.ref x]) s):
  wpAny (model prog w) A (getMethod (.ref x) name pl) Q E s:=by
 obtain ⟨od,J,hl⟩:=I.look
 exact PySem.W.method_fn X J (plainGet_of hg).1 (plainGet_of hg).2 hf (beq_iff_eq.mp ht) (by show (lookIn name od).map (·.isSome)=some false;rw [hl,hv];rfl) h
theorem abg {ns:List Str}{Q:Unit->Shared->Prop}(X:K.In s.heap)(I:ab8 s.heap x dx C mA)
  (hs:PySem.W.findIn K (.ref C) "__setattr__"=some (some (.builtin "object.__setattr__")))(hp:plainOver K C=true)(ht:takerIn K C name=some none)(hh:hasDictIn K C=true)
  (hw:PySem.Within mA ns)(hsz:ns.length<=sizeLine)
  (h:∀ h',ab8 h' x dx C (fun y=>if y=name then some v else mA y)->Heap.SameBut dx s.heap h'->Q () { s with heap:=h',toks:=s.toks+2 }):
  wpAny (model prog w) A (setAttr (.ref x) name v) Q E s:=by
 obtain ⟨od,J,hl⟩:=I.look
 refine PySem.W.set_plain X J hs (PySem.W.osa_open (s:={ s with toks:=s.toks+1 }) (r:=none) X J hp ht fun b=>?_)
 obtain ⟨cd,hc,hd'⟩:=PySem.W.any_some hh
 have hx:s.heap.get? x=some ⟨.ref C,some dx,.plain,#[]⟩:=I.obj
 refine wpAny_bind (wpAny_pure (wpAny_bind (wpAny_bind (wpAny_loadPart hx (wpAny_bind (PySem.W.Looks.here (s:={ s with toks:=s.toks+1 }) (PySem.W.looks_clsIn X hc) ?_))))))
 rw [hd']
 refine wpAny_pure (a:=some dx) (wpAny_bind (wpAny_pure (wpAny_bind ?_)))
 refine wpAny_nsSet1 (s:={ s with toks:=s.toks+1 }) I.ns fun h' hn2 hs2=>?_
 obtain ⟨oD,esD,epD,hoD,hdD,hcD⟩:=hn2.count (PySem.Within.cons name v hw)
 refine wpAny_bind (wpAny_lookBehind hoD (by rw [hdD];exact pastItsLine_dict (agS hcD (by rw [agx];omega))) ?_)
 exact wpAny_pure (h _ ⟨(hs2.2 _ (Ne.symm I.ne)).trans I.obj,hn2,I.ne⟩ hs2)
theorem MF {R:Result->Shared->Prop}{vs:List Value}{kw:List (Str × Value)}(X:K.In s.heap)(hm:makesIn K C=true)
  (hi:PySem.W.findIn K (.ref C) "__init__"=some (some (.ref f)))(hf:PySem.W.typeIn K (.ref f)=some (.type "function"))
  (h:codeAny (model prog w) (A.under (.builtin "type.__call__" ⟨.ref C::vs,kw⟩)) (.call (.ref f) ⟨.ref (s.heap.objs.size+1)::vs,kw⟩) (PySem.W.InitBack (s.heap.objs.size+1) R)
   { s with heap:=(s.heap.push emptyDict).push (instObj C s.heap.objs.size) }):
  codeAny (model prog w) A (.call (.ref C) ⟨vs,kw⟩) R s:=by
 obtain ⟨hh,g,d,t,os⟩:=s
 exact PySem.W.make_core (PySem.W.makes_of X hm) (PySem.W.looks_findIn X hi) (fun self=>PySem.W.bind_fn X self hf) (.inl rfl) h
end
def G8 (f:Str)(v:V):List (Str × V)->List (Str × V)
 | []=>[(f,v)]
 | (g,x)::r=>if g=f then (g,v)::r else (g,x)::G8 f v r
theorem CG (f g:Str)(v:V):∀ fs:List (Str × V),(G8 f v fs).lookup g=if g=f then some v else fs.lookup g
 | []=>by
  show List.lookup g [(f,v)]=_;by_cases h:g=f
  ·have hb:(g ==f)=true:=beq_iff_eq.mpr h;simp only [List.lookup,hb,if_pos h]
  ·have hb:(g ==f)=false:=beq_eq_false_iff_ne.mpr h;simp only [List.lookup,hb,if_neg h]
 | (k,x)::r=>by
  have ih:=CG f g v r;rw [show G8 f v ((k,x)::r)=(if k=f then (k,v)::r else (k,x)::G8 f v r) from rfl];by_cases hk:k=f
  ·rw [if_pos hk];by_cases h:g=k
   ·have hb:(g ==k)=true:=beq_iff_eq.mpr h;simp only [List.lookup,hb,if_pos (h.trans hk)]
   ·have hb:(g ==k)=false:=beq_eq_false_iff_ne.mpr h;simp only [List.lookup,hb,if_neg (fun e:g=f=>h (e.trans hk.symm))]
  ·rw [if_neg hk];by_cases h:g=k
   ·have hb:(g ==k)=true:=beq_iff_eq.mpr h;simp only [List.lookup,hb,if_neg (fun e:g=f=>hk (h.symm.trans e))]
   ·have hb:(g ==k)=false:=beq_eq_false_iff_ne.mpr h;simp only [List.lookup,hb];exact ih
theorem CQ (f:Str)(v:V):∀ fs:List (Str × V),f∈(G8 f v fs).map (·.1)/\∀ g,g∈fs.map (·.1)->g∈(G8 f v fs).map (·.1)
 | []=>⟨by simp [G8],fun g h=>by simp at h⟩
 | (k,x)::r=>by
  obtain ⟨i1,i2⟩:=CQ f v r;rw [show G8 f v ((k,x)::r)=(if k=f then (k,v)::r else (k,x)::G8 f v r) from rfl];by_cases hk:k=f
  ·rw [if_pos hk];subst hk;exact ⟨by simp,fun g h=>by simpa using h⟩
  ·rw [if_neg hk];refine ⟨?_,fun g h=>?_⟩
   ·rw [agH];exact agv _ i1
   ·rw [agH] at h ⊢;rcases agu.mp h with e| e
    ·exact agu.mpr (.inl e)
    ·exact agv _ (i2 g e)
theorem CK (f:Str)(v:V):∀ fs:List (Str × V),(G8 f v fs).length<=fs.length+1
 | []=>by simp [G8]
 | (k,x)::r=>by
  have ih:=CK f v r;rw [show G8 f v ((k,x)::r)=(if k=f then (k,v)::r else (k,x)::G8 f v r) from rfl];by_cases hk:k=f
  ·rw [if_pos hk,agx,agx];omega
  ·rw [if_neg hk,agx,agx];omega
theorem Tt.some_of {v:V}{o:Option Value}(r:Tt (some v) o):∃ u,o=some u/\RelV v u:=by
 cases o with
 | none=>exact (show False from r).elim
 | some u=>exact ⟨u,rfl,r⟩
theorem Tt.none_of {o:Option Value}(r:Tt none o):o=none:=by
 cases o with
 | none=>rfl
 | some u=>exact (show False from r).elim
theorem RV {v:V}{u:Value}(r:RelV v u):handedIn u=true:=by
 cases v with
 | non=>cases (show u=Value.none from r);rfl
 | bl b=>cases (show u=Value.bool b from r);rfl
 | int i=>obtain ⟨t,e⟩:=(show ∃ t,u=Value.int i t from r);cases e;rfl
 | str x=>obtain ⟨t,e⟩:=(show ∃ t,u=Value.str x t from r);cases e;rfl
 | byt b=>obtain ⟨t,e⟩:=(show ∃ t,u=Value.bytes b t from r);cases e;rfl
 | flt b=>obtain ⟨t,e⟩:=(show ∃ t,u=Value.float b t from r);cases e;rfl
 | ref a=>cases (show u=Value.ref a from r);rfl
 | ty n=>cases (show u=Value.type n from r);rfl
section
variable {P:Program}{w:World}{H H':Hp}{h h':Heap}{a C dx:Addr}{fs fs':List (Str × V)}
theorem Gv (hok:HOk P w H h)(e:H a=some (.ins C dx fs)):∃ mA,ab8 h a dx C mA/\(∀ f,Tt (fs.lookup f) (mA f))/\PySem.Within mA (fs.map (·.1))/\fs.length<=1000/\H dx=some (.own a):=by
 obtain ⟨d,z,ne,ob,mA,n,r,q⟩:=(show gR P w H h a (.ins C dx fs) from hok a _ e);exact ⟨mA,⟨ob,n,ne⟩,r,q,z,d⟩
end
structure Cls (K:PySem.W.Frag)(C:Addr):Prop where
 pg:plainGet K C Str.empty=true
 hd:hasDictIn K C=true
 po:plainOver K C=true
 sa:PySem.W.findIn K (.ref C) "__setattr__"=some (some (.builtin "object.__setattr__"))
theorem Cls.get {K:PySem.W.Frag}{C:Addr}(c:Cls K C)(f:Str):plainGet K C f=true:=c.pg
def j4 (K:PySem.W.Frag)(C:Addr)(f:Str):Prop:=PySem.W.findIn K (.ref C) f=some none
theorem j4.taker {K:PySem.W.Frag}{C:Addr}{f:Str}(n:j4 K C f):takerIn K C f=some none:=by
 unfold takerIn;rw [show PySem.W.findIn K (.ref C) f=some none from n];rfl
structure Meth (K:PySem.W.Frag)(C:Addr)(m:Str)(f:Addr):Prop where
 at_:PySem.W.findIn K (.ref C) m=some (some (.ref f))
 fn:isFn K (.ref f)=true
 kp:keepIn K (.ref f)=true
section
variable {X:Cx}{pins:List (Addr × Obj)}{σ:St}{H:Hp}{s:Shared}{a C dx:Addr}{fs:List (Str × V)}{f:Str}{v:V}{A:Around}{E:Value->Shared->Prop}
theorem Fg {b:Bool}{Q:Value->Shared->Prop}(I:Inv X pins σ H s)(e:H a=some (.ins C dx fs))(c:Cls X.K C)(n:j4 X.K C f)(l:fs.lookup f=some v)
  (h:∀ u s',Inv X pins σ H s'->RelV v u->Q u s'):wpAny (model X.prog X.w) A (getAttr (.ref a) f b) Q E s:=by
 obtain ⟨mA,O,r,_,_,_⟩:=Gv I.hok e;obtain ⟨u,hu,ru⟩:=Tt.some_of (v:=v) (o:=mA f) (by rw [<- l];exact r f);exact get_map I.kIn O (c.get f) c.hd n hu (RV ru) (h u _ (I.tok _) ru)
theorem Fe {m:Str}{g:Addr}{pl:Sem Bool}{Q:Value × List Value->Shared->Prop}(I:Inv X pins σ H s)(e:H a=some (.ins C dx fs))(c:Cls X.K C)(k:Meth X.K C m g)(l:fs.lookup m=none)
  (h:Q (.ref g,[.ref a]) s):wpAny (model X.prog X.w) A (getMethod (.ref a) m pl) Q E s:=by
 obtain ⟨mA,O,r,_,_,_⟩:=Gv I.hok e;have hn:mA m=none:=Tt.none_of (by rw [<- l];exact r m);exact Vn I.kIn O (c.get m) k.at_ k.fn hn h
theorem Et {y:V}{u:Value}{Q:Unit->Shared->Prop}(I:Inv X pins σ H s)(e:H a=some (.ins C dx fs))(c:Cls X.K C)(n:j4 X.K C f)(hl:fs.length<1000)(ry:RelV y u)
  (h:∀ s',Inv X pins σ (upd H a (.ins C dx (G8 f y fs))) s'->Q () s'):wpAny (model X.prog X.w) A (setAttr (.ref a) f u) Q E s:=by
 obtain ⟨mA,O,r,wi,_,ho⟩:=Gv I.hok e;have hz:(fs.map (·.1)).length<=sizeLine:=by rw [aeu,sizeLine_eq];omega
 refine abg I.kIn O c.sa c.po n.taker c.hd wi hz fun h' O' sb=>h _ ?_;have hd:∃ o,h'.get? dx=some o:=let ⟨o,_,_,e',_⟩:=O'.ns;⟨o,e'⟩;refine I.write (x:=a) (e:=dx) (by rw [e];exact True.intro) (.inr ho) (fun b q hb z=>(sb.2 b hb).trans z) hd ?_;refine ⟨by rw [aN O.ne];exact ho,?_,O.ne,O'.obj,_,O'.ns,fun g=>?_,fun g hg=>?_⟩
 ·have:=CK f y fs;omega
 ·show Tt ((G8 f y fs).lookup g) (if g=f then some u else mA g);rw [CG];by_cases q:g=f
  ·rw [if_pos q,if_pos q];exact ry
  ·rw [if_neg q,if_neg q];exact r g
 ·by_cases q:g=f
  ·rw [q];exact (CQ f y fs).1
  ·refine (CQ f y fs).2 g (wi g fun z=>hg ?_);show (if g=f then some u else mA g)=none;rw [if_neg q];exact z
theorem Inv.made (I:Inv X pins σ H s):Inv X pins σ (upd (upd H s.heap.objs.size (.own (s.heap.objs.size+1))) (s.heap.objs.size+1) (.ins C s.heap.objs.size []))
  { s with heap:=(s.heap.push emptyDict).push (instObj C s.heap.objs.size) }:=by
 have e1:(s.heap.push emptyDict).get? s.heap.objs.size=some emptyDict:=agl s.heap rfl;have e2:((s.heap.push emptyDict).push (instObj C s.heap.objs.size)).get? (s.heap.objs.size+1)=some (instObj C s.heap.objs.size):=by
  have:=agl (s.heap.push emptyDict) (o:=instObj C s.heap.objs.size) rfl;rwa [ahg] at this
 have e3:(s.heap.push emptyDict).Ns s.heap.objs.size (fun _=>none):=⟨emptyDict,#[],_,e1,rfl,(fun e he=>absurd he (by simp)),fun _=>rfl⟩;have I1:=I.laid (a:=s.heap.objs.size) (o:=.own (s.heap.objs.size+1)) (h':=s.heap.push emptyDict) (t':=s.toks) (fun b u q=>agc _ q) (agb _) ⟨_,e1⟩;refine I1.laid (a:=s.heap.objs.size+1) (o:=.ins C s.heap.objs.size []) (t':=s.toks) (fun b u q=>agc _ q) (Nat.le_of_eq (ahg _ _)) ?_;have ne:s.heap.objs.size≠s.heap.objs.size+1:=agM (ahM _);refine ⟨by rw [aN ne,aO],agN _,ne,e2,fun _=>none,(Heap.Ns1.of_empty e3).at fun o q=>agc _ q,fun _=>True.intro,fun y hy=>absurd rfl hy⟩
theorem ab3 {prog:Program}{w:World}{env:Env}{e:Expr}{f:Str}{pos:Pos}{s:Shared}{Q:Value->Shared->Prop}(hb:attributeBase e f env (eval e env)=eval e env)
  (h:wpAny (model prog w) A (eval e env) (fun o s₁=>wpAny (model prog w) A (getAttr o f true) Q E s₁) E s):wpAny (model prog w) A (eval (.Attribute e f pos) env) Q E s:=
 Attribute_any_ h (by rw [arm_eval_Attribute,hb])
end
inductive kFld (K:PySem.W.Frag)(f:Str)(x:V)(H:Hp)(Q:VK):Prop
 | mk (a C dx:Addr)(fs:List (Str × V))(v:V)(_:x=.ref a)(_:H a=some (.ins C dx fs))(_:Cls K C)(_:j4 K C f)(_:fs.lookup f=some v)(_:Q v H)
def tFld (K:PySem.W.Frag)(ta:TE)(f:Str):TE:=fun σ H Q=>ta σ H fun x H1=>kFld K f x H1 Q
inductive kPut (K:PySem.W.Frag)(f:Str)(x y:V)(H:Hp)(P:Hp->Prop):Prop
 | mk (a C dx:Addr)(fs:List (Str × V))(_:x=.ref a)(_:H a=some (.ins C dx fs))(_:Cls K C)(_:j4 K C f)(_:fs.length<1000)(_:P (upd H a (.ins C dx (G8 f y fs))))
def sFld (K:PySem.W.Frag)(ta tv:TE)(f:Str):TS:=fun D σ H=>tv σ H fun y H1=>ta σ H1 fun x H2=>kPut K f x y H2 fun H3=>D.nx σ H3
def af7 (X:Cx)(op:Operator)(rd:V->V->Hp->VK->Prop):Prop:=
 ∀ (pins:List (Addr × Obj))(s:Shared)(σ:St)(H:Hp)(x y:V)(u v:Value)(Q:VK),Inv X pins σ H s->RelV x u->RelV y v->rd x y H Q->wpAny (model X.prog X.w) X.A (inplaceOp op u v) (EP X pins σ Q) X.xe s
def abh (K:PySem.W.Frag)(ta tv:TE)(rd:V->V->Hp->VK->Prop)(f:Str):TS:=fun D σ H=>ta σ H fun x H1=>∃ a C dx fs v,x=.ref a/\H1 a=some (.ins C dx fs)/\Cls K C/\j4 K C f/\fs.lookup f=some v /\
 tv σ H1 fun y H2=>rd v y H2 fun z H3=>∃ dx' fs',H3 a=some (.ins C dx' fs')/\fs'.length<1000/\D.nx σ (upd H3 a (.ins C dx' (G8 f z fs')))
section
variable {X:Cx}{o e value:Expr}{f:Str}{pos pos' tpos:Pos}{ta tv:TE}
theorem aV (he:PE X e ta)(hb:attributeBase e f X.env (eval e X.env)=eval e X.env):PE X (.Attribute e f pos) (tFld X.K ta f):=by
 intro pins s σ H Q I h;refine ab3 hb (thn (he pins s σ H _ I h) fun u s1 ⟨x,H1,I1,rx,a,C,dx,fs,v,ex,ea,c,n,l,q⟩=>?_);subst ex;obtain rfl:u=Value.ref a:=rx;exact Fg I1 ea c n l fun u' s2 I2 ru=>⟨v,H1,I2,ru,q⟩
theorem oH (ha:PE X o ta)(hv:PE X value tv)(hs:swapsWith value (some (.Attribute o f pos')) pos.line X.env=pure false):PS X (.Assign [.Attribute o f pos'] value pos) (sFld X.K ta tv f):=by
 intro pins s σ H D I h;refine plainObj_wpAny_Assign_Attribute (thn (hv pins s σ H _ I h) fun u s1 ⟨y,H1,I1,ry,q⟩=>thn (ha pins s1 σ H1 _ I1 q) fun ov s2 ⟨x,H2,I2,rx,a,C,dx,fs,ex,ea,c,n,l,q2⟩=>?_) hs;subst ex;obtain rfl:ov=Value.ref a:=rx;exact Et I2 ea c n l ry fun s3 I3=>⟨σ,_,I3,q2⟩
theorem QT {op:Operator}{rd:V->V->Hp->VK->Prop}(ha:PE X o ta)(hv:PE X value tv)(hop:af7 X op rd):PS X (.AugAssign (.Attribute o f tpos) op value pos) (abh X.K ta tv rd f):=by
 intro pins s σ H D I h;refine wpAny_AugAssign_AttributeAny (thn (ha pins s σ H _ I h) fun ov s1 ⟨x,H1,I1,rx,a,C,dx,fs,v,ex,ea,c,n,l,q⟩=>?_);subst ex;obtain rfl:ov=Value.ref a:=rx;refine Fg I1 ea c n l fun u s2 I2 ru=>thn (hv pins s2 σ H1 _ I2 q) fun w3 s3 ⟨y,H2,I3,ry,q3⟩=>thn (hop pins s3 σ H2 v y u w3 _ I3 ru ry q3) fun w4 s4 ⟨z,H3,I4,rz,dx',fs',ea',l',q4⟩=>?_;exact Et I4 ea' c n l' rz fun s5 I5=>⟨σ,_,I5,q4⟩
def rAdd:V->V->Hp->VK->Prop:=fun x y H Q=>∃ i j,x=.int i/\y=.int j/\Q (.int (i+j)) H
theorem adI:af7 X .Add rAdd:=by
 rintro pins s σ H x y u v Q I rx ry ⟨i,j,rfl,rfl,q⟩;obtain ⟨t,rfl⟩:=(show ∃ t,u=Value.int i t from rx);obtain ⟨t',rfl⟩:=(show ∃ t',v=Value.int j t' from ry);exact PyProof.Rows.iadd_int ⟨.int (i+j),H,I.tok _,⟨_,rfl⟩,q⟩
end
section
variable {X:Cx}{pins:List (Addr × Obj)}{σ:St}{H:Hp}{s:Shared}{A:Around}{E:Value->Shared->Prop}{Q:Value->Shared->Prop}{c:Value}{b:Bool}
inductive Np (K:PySem.W.Frag)(H:Hp):V->Value->Prop where
 | non:Np K H .non (.type "NoneType")
 | bl (x:Bool):Np K H (.bl x) (.type "bool")
 | int (i:Int):Np K H (.int i) (.type "int")
 | str (x:Str):Np K H (.str x) (.type "str")
 | flt (x:UInt64):Np K H (.flt x) (.type "float")
 | lst {a:Addr} {xs:List V} (e:H a=some (.lst xs)):Np K H (.ref a) (.type "list")
 | frz {a:Addr} {o:Obj} {xs:List V} (e:H a=some (.frz o (.lst xs))):Np K H (.ref a) (.type "list")
 | tup {a:Addr} {xs:List V} (e:H a=some (.tup xs)):Np K H (.ref a) (.type "tuple")
 | dK {a:Addr} {kvs:List (Key × V)} (e:H a=some (.dK kvs)):Np K H (.ref a) (.type "dict")
 | dT {a:Addr} {kvs:List (List Key × V)} (e:H a=some (.dT kvs)):Np K H (.ref a) (.type "dict")
 | ins {a C dx:Addr} {fs:List (Str × V)} (e:H a=some (.ins C dx fs)) (cl:Cls K C) (ha:PySem.W.findIn K (.ref C) "__class__"=some (some (.builtin "object.__class__")))
   (hn:PySem.W.specialIn K (.builtin "object.__class__") "__get__"=some (some (.builtin "getset_descriptor.__get__")))(htk:PySem.W.takesIn K (.builtin "object.__class__")=some true)
   (hm:PySem.W.mroIn K C (.type "object")=some true):Np K H (.ref a) (.ref C)
theorem RK {x:V}{u t:Value}(I:Inv X pins σ H s)(rx:RelV x u)(ty:Np X.K H x t)(e:kitOne X.K t c=some b)(h:∀ tk,Q (.bool b) { s with toks:=tk }):
  wpAny (model X.prog X.w) A (call (.builtin "isinstance") [u,c]) Q E s:=by
 cases ty with
 | non=>cases (show u=Value.none from rx);exact ag7 PySem.W.kitx_none I.kIn True.intro e (fun z=>nomatch z) h
 | bl y=>cases (show u=Value.bool y from rx);exact ag7 PySem.W.kitx_bool I.kIn True.intro e (fun z=>nomatch z) h
 | int i=>obtain ⟨t,q⟩:=(show ∃ t,u=Value.int i t from rx);cases q;exact ag7 PySem.W.kitx_int I.kIn True.intro e (fun z=>nomatch z) h
 | str y=>obtain ⟨t,q⟩:=(show ∃ t,u=Value.str y t from rx);cases q;exact ag7 PySem.W.kitx_str I.kIn True.intro e (fun z=>nomatch z) h
 | flt y=>obtain ⟨t,q⟩:=(show ∃ t,u=Value.float y t from rx);cases q;exact ag7 PySem.W.kitx_float I.kIn True.intro e (fun z=>nomatch z) h
 | @lst a xs ea =>
  cases (show u=Value.ref a from rx);obtain ⟨_,_,n,_,h1⟩:=(show gR X.prog X.w H s.heap a (.lst xs) from I.hok a _ ea);exact ag7 kitx_list I.kIn ⟨_,h1,rfl⟩ e (fun z=>nomatch z) h
 | @frz a ob xs ea =>
  cases (show u=Value.ref a from rx);obtain ⟨_,_,_,n,_,h1⟩:=(show gR X.prog X.w H s.heap a (.frz ob (.lst xs)) from I.hok a _ ea);exact ag7 kitx_list I.kIn ⟨_,h1,rfl⟩ e (fun z=>nomatch z) h
 | @tup a xs ea =>
  cases (show u=Value.ref a from rx);obtain ⟨_,_,_,p⟩:=(show gR X.prog X.w H s.heap a (.tup xs) from I.hok a _ ea);obtain ⟨o,h1,h2,_⟩:=p;exact ag7 PySem.W.kitx_tuple I.kIn ⟨o,h1,h2⟩ e (fun z=>nomatch z) h
 | @dK a kvs ea =>
  cases (show u=Value.ref a from rx);obtain ⟨_,_,vs,_,p⟩:=(show gR X.prog X.w H s.heap a (.dK kvs) from I.hok a _ ea);obtain ⟨o,es,ep,h1,h2,_⟩:=p;exact ag7 kitx_dict I.kIn ⟨o,h1,h2.1⟩ e (fun z=>nomatch z) h
 | @dT a kvs ea =>
  cases (show u=Value.ref a from rx);obtain ⟨_,_,xs,_,o,es,ep,h1,h2,_⟩:=(show gR X.prog X.w H s.heap a (.dT kvs) from I.hok a _ ea);exact ag7 kitx_dict I.kIn ⟨o,h1,h2.1⟩ e (fun z=>nomatch z) h
 | @ins a C dx fs ea cl ha hn htk hm =>
  cases (show u=Value.ref a from rx);obtain ⟨mA,O,_⟩:=Gv I.hok ea;obtain ⟨od,J,_⟩:=O.look;exact ag7 (PySem.W.kitx_own (cl.get _) cl.hd ha hn htk hm) I.kIn J e (fun z=>nomatch z) h
end
structure sJ (k:Nat)(A:Around):Prop where
 hd:A.handled=none
 dp:A.depth+3*k+5<recursionLimit
 un:A.units+16*k+200<cLine
theorem sJ.mono {j k:Nat}{A:Around}(r:sJ k A)(h:j<=k):sJ j A:=⟨r.hd,by have:=r.dp;omega,by have:=r.un;omega⟩
theorem sJ.deeper {k:Nat}{A:Around}(r:sJ (k+1) A)(env:Env):sJ k (A.deeper env):=
 ⟨r.hd,by have:=r.dp;show A.depth+1+3*k+5<_;omega,by have:=r.un;show A.units+3+16*k+200<_;omega⟩
theorem Ot {A:Around}{C:Addr}{us:List Value}{kw:List (Str × Value)}:(A.under (.builtin "type.__call__" ⟨.ref C::us,kw⟩)).depth=A.depth+1:=by
 first| rfl| simp [Around.under,Code.weight,Code.isCreation,Code.isGuard,Code.isCaller,Code.frames,Code.isFrame,guardIds]
theorem Oq {A:Around}{C:Addr}{us:List Value}{kw:List (Str × Value)}:(A.under (.builtin "type.__call__" ⟨.ref C::us,kw⟩)).units=A.units+1:=by
 first| rfl| simp [Around.under,Code.cUnits,Code.frames,Code.isFrame]
theorem sJ.make {k:Nat}{A:Around}(r:sJ (k+1) A)(C:Addr)(us:List Value)(kw:List (Str × Value)):sJ k (A.under (.builtin "type.__call__" ⟨.ref C::us,kw⟩)):=
 ⟨r.hd,by have:=r.dp;rw [Ot];omega,by have:=r.un;rw [Oq];omega⟩
theorem sJ.depth {k:Nat}{A:Around}(r:sJ k A):A.depth<recursionLimit:=by have:=r.dp;omega
theorem sJ.units {k:Nat}{A:Around}(r:sJ k A):A.units+64<cLine:=by have:=r.un;omega
def acA:TA:=fun _ H Q=>Q [] H
def Ug (ta:TE)(tr:TA):TA:=fun σ H Q=>ta σ H fun x H1=>tr σ H1 fun xs H2=>Q (x::xs) H2
section
variable {X:Cx}{e:Expr}{es:List Expr}{te:TE}{t:TA}{pos:Pos}
theorem ak:PA X [] acA:=fun _ _ _ _ H Q I h=>ahD ⟨[],H,I,.nil,h⟩
theorem aq (ha:PE X e te)(hr:PA X es t)(hs:starEach (e::es) X.env=(false,eval e X.env)::starEach es X.env:=by rfl):PA X (e::es) (Ug te t):=by
 intro pos pins s σ H Q I h;rw [hs];show wpAny _ _ (spliced ((false,eval e X.env)::backTo pos (starEach es X.env))) _ _ s;refine ahp (thn (ha pins s σ H _ I h) fun u s1 ⟨x,H1,I1,r1,q1⟩=>?_);exact thn (hr pos pins s1 σ H1 _ I1 q1) fun us s2 ⟨xs,H2,I2,r2,q2⟩=>⟨x::xs,H2,I2,.cons r1 r2,q2⟩
def tTup (t:TA):TE:=fun σ H Q=>t σ H fun xs H1=>xs.length<=sizeLine/\∀ p,H1 p=none->Q (.ref p) (upd H1 p (.tup xs))
def tLst (t:TA):TE:=fun σ H Q=>t σ H fun xs H1=>xs.length<=sizeLine/\∀ p,H1 p=none->Q (.ref p) (upd H1 p (.lst xs))
theorem fH {x1} (h:PA X es t):PE X (.Tuple es x1 pos) (tTup t):=by
 intro pins s σ H Q I hq;refine wpAny_Tuple_spliced (thn (h pos pins s σ H _ I hq) fun us s1 ⟨xs,H1,I1,r,z,q⟩=>⟨by rw [<- r.length];exact z,?_⟩);have hf:H1 s1.heap.objs.size=none:=I1.hok.fresh (agb _);refine ⟨.ref s1.heap.objs.size,upd H1 s1.heap.objs.size (.tup xs),I1.laid (t':=s1.toks) (fun b u e=>agc _ e) (agb _) ?_,rfl,q _ hf⟩;exact ⟨z,us,r,⟨_,agl _ rfl,rfl,_,rfl⟩⟩
theorem dM (h:PA X es t):PE X (.List es pos) (tLst t):=by
 intro pins s σ H Q I hq;refine wpAny_List_spliced (thn (h pos pins s σ H _ I hq) fun us s1 ⟨xs,H1,I1,r,z,q⟩=>⟨by rw [<- r.length];exact z,?_⟩);have hf:H1 s1.heap.objs.size=none:=I1.hok.fresh (agb _);refine ⟨.ref s1.heap.objs.size,upd H1 s1.heap.objs.size (.lst xs),I1.laid (t':=s1.toks) (fun b u e=>agc _ e) (agb _) ?_,rfl,q _ hf⟩;exact ⟨z,us,0,r,agl _ rfl⟩
end
abbrev Sp:=List V->Hp->VK->XK->Prop
abbrev CXT:=List Env->Hp->Shared->XK->Value->Shared->Prop
structure acd (P:Program)(w:World)(K:PySem.W.Frag)(mg:Str->Option Value)(base:Heap)(A:Around)(outer:List Env)(s:Shared)(H:Hp):Prop where
 frames:A.frames=some outer
 mod:Mod K mg base
 bs:∀ b o,base.get? b=some o->s.heap.get? b=some o/\H b=none
 bsz:base.objs.size<=s.heap.objs.size
 M7:s.heap.FunFrames base outer
 frf:∀ b∈frs outer,H b=none
 hok:HOk P w H s.heap
 bare:AllBare s.gens
def CE (outer:List Env)(P:Program)(w:World)(H:Hp)(s:Shared)(Q:VK)(u:Value)(s':Shared):Prop:=
 ∃ v H',s'.os=s.os/\AllBare s'.gens/\Un (frs outer) [] H H' s.heap s'.heap/\HOk P w H' s'.heap/\RelV v u/\Q v H'
def CR (CX:CXT)(outer:List Env)(P:Program)(w:World)(H:Hp)(s:Shared)(Q:VK)(E:XK)(r:Result)(s':Shared):Prop:=
 match r with
 | .ok (.ret u)=>CE outer P w H s Q u s'
 | .ok _=>False
 | .error e=>CX outer H s E e s'
structure Hf (P:Program)(w:World)(K:PySem.W.Frag)(mg:Str->Option Value)(base:Heap)(CX:CXT)(k:Nat)(f:Addr)(fd:FuncData)(ps:List Str)(sp:Sp):Prop where
 len:∀ vs H Q E,sp vs H Q E->vs.length=ps.length
 run:∀ (A:Around)(outer:List Env)(s:Shared)(H:Hp)(args:Args)(us:List Value)(vs:List V)(Q:VK)(E:XK),sJ k A->acd P w K mg base A outer s H->BindsTo s fd args (ps.zip us)->Vals vs us->sp vs H Q E ->
  codeAny (model P w) A (.call (.ref f) args) (CR CX outer P w H s Q E) s
theorem acd.make {P:Program}{w:World}{K:PySem.W.Frag}{mg:Str->Option Value}{base:Heap}{A:Around}{outer:List Env}{s:Shared}{H:Hp}(e:acd P w K mg base A outer s H)(C:Addr)(us:List Value)(kw:List (Str × Value)):
  acd P w K mg base (A.under (.builtin "type.__call__" ⟨.ref C::us,kw⟩)) outer s H:=⟨by first| exact e.frames| (simpa [Around.under,Code.envs,Code.isFrame,pushEnvs] using e.frames),e.mod,e.bs,e.bsz,e.M7,e.frf,e.hok,e.bare⟩
section
variable {X:Cx}{pins:List (Addr × Obj)}{σ:St}{H:Hp}{s s':Shared}
theorem Inv.env0 (I:Inv X pins σ H s):acd X.prog X.w X.K X.mg X.base X.A X.stack s H:=
 ⟨I.ok.frames,I.ok.mod,I.bs,agS I.ok.bsz I.sz,I.stack,I.FT,I.hok,I.bare⟩
theorem Inv.after {Q:VK}{u:Value}(I:Inv X pins σ H s)(h:CE X.stack X.prog X.w H s Q u s'):EP X pins σ Q u s':=by
 obtain ⟨v,H',os,bare,un,hok,r,q⟩:=h;obtain ⟨hh,g,d,t,os'⟩:=s';obtain rfl:os'=s.os:=os;exact ⟨v,H',I.call (h':=hh) (g':=g) (d':=d) (t':=t) (ch:=[]) un hok bare (fun b z=>absurd z (by simp)),r,q⟩
end
def aa6 (sp:Sp)(dvs:List V)(E:XK)(t:TA):TE:=fun σ H Q=>t σ H fun vs H1=>sp (vs++dvs) H1 Q E
inductive kMet (C:Addr)(m:Str)(x:V)(H:Hp)(P:Prop):Prop
 | mk (a dx:Addr)(fs:List (Str × V))(_:x=.ref a)(_:H a=some (.ins C dx fs))(_:fs.lookup m=none)(_:P)
def acC (C:Addr)(m:Str)(sp:Sp)(dvs:List V)(E:XK)(ta:TE)(t:TA):TE:=fun σ H Q=>ta σ H fun x H1=>kMet C m x H1 (t σ H1 fun vs H2=>sp (x::(vs++dvs)) H2 Q E)
def aeJ (C:Addr)(sp:Sp)(dvs:List V)(E:XK)(t:TA):TE:=fun σ H Q=>t σ H fun vs H1=>∀ x dx,H1 x=none->H1 dx=none->dx≠x ->
 sp (.ref x::(vs++dvs)) (upd (upd H1 dx (.own x)) x (.ins C dx [])) (fun v H2=>v=.non/\Q (.ref x) H2) E
def Binds (K:PySem.W.Frag)(fd:FuncData)(ps:List Str)(ds:List Value):Prop:=
 ∀ (s:Shared)(us:List Value),K.In s.heap->(us++ds).length=ps.length->BindsTo s fd ⟨us,[]⟩ (ps.zip (us++ds))
theorem Binds.all {K:PySem.W.Frag}{fd:FuncData}{ps:List Str}(h:∀ us:List Value,us.length=ps.length->bindArgs fd ⟨us,[]⟩=pure (ps.zip us)):Binds K fd ps []:=fun s us _ hl=>by
 rw [ahm] at hl ⊢;exact .of_eq (h us hl)
def Passes (CX:CXT)(X:Cx)(E:XK):Prop:=∀ (pins:List (Addr × Obj))(σ:St)(H:Hp)(s:Shared)(e:Value)(s':Shared),Inv X pins σ H s->CX X.stack H s E e s'->X.xe e s'
section
variable {X:Cx}{CX:CXT}{k:Nat}{f C:Addr}{fd:FuncData}{ps:List Str}{sp:Sp}{dvs:List V}{ds:List Value}{E:XK}{x m:Str}{p pos apos:Pos}{e o:Expr}{es:List Expr}{ta:TE}{t:TA}
theorem LC {pins:List (Addr × Obj)}{σ:St}{H:Hp}{s:Shared}{Q:VK}{us:List Value}{vs:List V}(F:Hf X.prog X.w X.K X.mg X.base CX k f fd ps sp)(hr:sJ k X.A)(hb:Binds X.K fd ps ds)(hd:Vals dvs ds)(hx:Passes CX X E)
  (I:Inv X pins σ H s)(r:Vals vs us)(h:sp (vs++dvs) H Q E):wpAny (model X.prog X.w) X.A (call (.ref f) us) (EP X pins σ Q) X.xe s:=by
 have r2:Vals (vs++dvs) (us++ds):=r.append hd;have hl:(us++ds).length=ps.length:=by rw [<- r2.length];exact F.len _ _ _ _ h
 refine wpAny_call (codeAny_mono (F.run X.A X.stack s H ⟨us,[]⟩ (us++ds) (vs++dvs) Q E hr I.env0 (hb s us I.kIn hl) r2 h) fun r s' hq=>?_);cases r with
 | error e=>exact hx pins σ H s e s' I hq
 | ok fl =>
  cases fl with
  | ret u=>exact I.after hq
  | next=>exact False.elim hq
  | brk=>exact False.elim hq
  | cont=>exact False.elim hq
theorem Cm (F:Hf X.prog X.w X.K X.mg X.base CX k f fd ps sp)(hr:sJ k X.A)(hg:Gl X x)(hm:X.mg x=some (.ref f))(hk:keepIn X.K (.ref f)=true)(hb:Binds X.K fd ps ds)(hd:Vals dvs ds)(hx:Passes CX X E)
  (ha:PA X (e::es) t)(hdb:(x ==("__debug__":Str))=false:=by decide)(he:starEach (e::es) X.env=(false,eval e X.env)::starEach es X.env:=by rfl)(hpl:(backTo pos (starEach es X.env)).any (·.1)=false:=by rfl):
  PE X (.Call (.Name x p) (e::es) [] pos) (aa6 sp dvs E t):=by
 intro pins s σ H Q I h
 refine wpAny_Call_Name_kw (uf I hg hm ?_ hdb)
 refine ahz (h₀:=X.base) I.ok.mod.kin hk (thn (ha pos pins s σ H _ I h) fun us s1 ⟨vs,H1,I1,r,q⟩=>⟨I1.kIn,?_⟩) he hpl
 exact LC F hr hb hd hx I1 r q
theorem cj {pl:Sem Bool}(he:PE X o ta)(c:Cls X.K C)(hm:Meth X.K C m f)(F:Hf X.prog X.w X.K X.mg X.base CX k f fd ps sp)(hr:sJ k X.A)(hb:Binds X.K fd ps ds)(hd:Vals dvs ds)(hx:Passes CX X E)(ha:PA X (e::es) t)
  (hst:starEach (e::es) X.env=(false,eval e X.env)::starEach es X.env:=by rfl)(hpl:(backTo pos (starEach es X.env)).any (·.1)=false:=by rfl)
  (ht:eval (.Call (.Attribute o m apos) (e::es) [] pos) X.env=(do
   let ov <- eval o X.env
   standAt apos.atName
   let (f,first)<- holding [ov] (getMethod ov m pl)
   callWith pos f first (backTo pos (starEach (e::es) X.env)) (backToKw pos (keywordEach [] X.env))):=by rfl):
  PE X (.Call (.Attribute o m apos) (e::es) [] pos) (acC C m sp dvs E ta t):=by
 intro pins s σ H Q I h
 refine methodCall_KW (pl:=pl) (thn (he pins s σ H _ I h) fun u s1 ⟨x,H1,I1,rx,a,dx,fs,ex,ea,l,q⟩=>?_) ht
 subst ex
 obtain rfl:u=Value.ref a:=rx
 refine Fe I1 ea c hm l ?_
 refine ahz (first:=[.ref a]) (h₀:=X.base) I.ok.mod.kin hm.kp (thn (ha pos pins s1 σ H1 _ I1 q) fun us s2 ⟨vs,H2,I2,r,q2⟩=>⟨I2.kIn,?_⟩) hst hpl
 exact LC (us:=.ref a::us) (vs:=.ref a::vs) F hr hb hd hx I2 (.cons rfl r) q2
theorem cC {pl:Sem Bool}(he:PE X o ta)(c:Cls X.K C)(hm:Meth X.K C m f)(F:Hf X.prog X.w X.K X.mg X.base CX k f fd ps sp)(hr:sJ k X.A)(hb:Binds X.K fd ps ds)(hd:Vals dvs ds)(hx:Passes CX X E)
  (ht:eval (.Call (.Attribute o m apos) [] [] pos) X.env=(do
   let ov <- eval o X.env
   standAt apos.atName
   let (f,first)<- holding [ov] (getMethod ov m pl)
   callWith pos f first (backTo pos (starEach [] X.env)) (backToKw pos (keywordEach [] X.env))):=by rfl):
  PE X (.Call (.Attribute o m apos) [] [] pos) (acC C m sp dvs E ta acA):=by
 intro pins s σ H Q I h
 refine methodCall_KW (pl:=pl) (thn (he pins s σ H _ I h) fun u s1 ⟨x,H1,I1,rx,a,dx,fs,ex,ea,l,q⟩=>?_) ht
 subst ex
 obtain rfl:u=Value.ref a:=rx
 refine Fe I1 ea c hm l ?_
 exact PySem.W.callWith_K0 (first:=[.ref a]) I1.kIn hm.kp (LC (us:=[.ref a]) (vs:=[.ref a]) F hr hb hd hx I1 (.cons rfl .nil) q)
structure Mk (K:PySem.W.Frag)(C f:Addr):Prop where
 makes:makesIn K C=true
 init:PySem.W.findIn K (.ref C) "__init__"=some (some (.ref f))
 fn:isFn K (.ref f)=true
 kp:keepIn K (.ref C)=true
theorem Uj {pins:List (Addr × Obj)}{σ:St}{H:Hp}{s:Shared}{Q:VK}{us:List Value}{vs:List V}(M:Mk X.K C f)(F:Hf X.prog X.w X.K X.mg X.base CX k f fd ps sp)(hr:sJ (k+1) X.A)(hb:Binds X.K fd ps ds)(hd:Vals dvs ds)
  (hx:Passes CX X E)(I:Inv X pins σ H s)(r:Vals vs us)
  (h:∀ x dx,H x=none->H dx=none->dx≠x->sp (.ref x::(vs++dvs)) (upd (upd H dx (.own x)) x (.ins C dx [])) (fun v H2=>v=.non/\Q (.ref x) H2) E):
  wpAny (model X.prog X.w) X.A (call (.ref C) us) (EP X pins σ Q) X.xe s:=by
 have hq:=h (s.heap.objs.size+1) s.heap.objs.size (I.hok.fresh (Nat.le_succ _)) (I.hok.fresh (agb _)) (agM (ahM _))
 have I2:=Inv.made (C:=C) I
 have r2:Vals (V.ref (s.heap.objs.size+1)::(vs++dvs)) (Value.ref (s.heap.objs.size+1)::(us++ds)):=.cons rfl (r.append hd)
 have hl:(Value.ref (s.heap.objs.size+1)::us++ds).length=ps.length:=by
  have e:=r2.length
  rw [F.len _ _ _ _ hq] at e
  exact e.symm
 refine wpAny_call (MF (f:=f) I.kIn M.makes M.init (beq_iff_eq.mp M.fn) (codeAny_mono (F.run _ X.stack _ _ ⟨Value.ref (s.heap.objs.size+1)::us,[]⟩ (Value.ref (s.heap.objs.size+1)::(us++ds)) _ _ E (hr.make C us [])
  (I2.env0.make C us []) (hb _ (Value.ref (s.heap.objs.size+1)::us) I2.kIn hl) r2 hq) fun r s' hq'=>?_))
 cases r with
 | error e=>exact hx pins σ _ _ e s' I2 hq'
 | ok fl =>
  cases fl with
  | ret u =>
   obtain ⟨v,H',I3,rv,ev,q3⟩:=I2.after hq'
   subst ev
   exact ⟨rv,⟨V.ref (s.heap.objs.size+1),H',I3,rfl,q3⟩⟩
  | next=>exact False.elim hq'
  | brk=>exact False.elim hq'
  | cont=>exact False.elim hq'
theorem Q0 (M:Mk X.K C f)(F:Hf X.prog X.w X.K X.mg X.base CX k f fd ps sp)(hr:sJ (k+1) X.A)(hg:Gl X x)(hm:X.mg x=some (.ref C))(hb:Binds X.K fd ps ds)(hd:Vals dvs ds)(hx:Passes CX X E)
  (ha:PA X (e::es) t)(hdb:(x ==("__debug__":Str))=false:=by decide)(he:starEach (e::es) X.env=(false,eval e X.env)::starEach es X.env:=by rfl)(hpl:(backTo pos (starEach es X.env)).any (·.1)=false:=by rfl):
  PE X (.Call (.Name x p) (e::es) [] pos) (aeJ C sp dvs E t):=by
 intro pins s σ H Q I h
 refine wpAny_Call_Name_kw (uf I hg hm ?_ hdb)
 refine ahz (h₀:=X.base) I.ok.mod.kin M.kp (thn (ha pos pins s σ H _ I h) fun us s1 ⟨vs,H1,I1,r,q⟩=>⟨I1.kIn,?_⟩) he hpl
 exact Uj M F hr hb hd hx I1 r q
end
structure aG (N P:List Str)(sc:Scope):Prop where
 kind:sc.kind=.function
 co:sc.isCoroutine=false
 gen:sc.isGenerator=false
 nd:N.Nodup
 pre:N.take P.length=P
 par:∀ x∈P,sc.names.lookup x=some .local\/sc.names.lookup x=some .cell
 nofree:∀ y∈sc.names,y.2≠.free
theorem Js {kindOf:Str->Option NameKind}{x:Str}:∀ {binds:List (Str × Value)}{m:Str->Option Value},(∀ v,(x,v) ∉ binds)->bindL kindOf binds m x=m x
 | [],_,_=>rfl
 | (n,v)::r,m,h=>by
  unfold bindL;rw [Js fun w hw=>h w (agv _ hw)];split
  ·have:x≠n:=by rintro rfl;exact h v agB
   simp [this]
  ·rfl
theorem Ju {kindOf:Str->Option NameKind}{x:Str}:∀ {binds:List (Str × Value)}{m:Str->Option Value},(∀ v,(x,v) ∉ binds)->bindC kindOf binds m x=m x
 | [],_,_=>rfl
 | (n,v)::r,m,h=>by
  unfold bindC;rw [Ju fun w hw=>h w (agv _ hw)];split
  ·rfl
  ·have:x≠n:=by rintro rfl;exact h v agB
   simp [this]
theorem Jt {kindOf:Str->Option NameKind}{x:Str}{v:Value}:∀ {P:List Str}{vs:List Value}{i:Nat}{m:Str->Option Value},P.Nodup->P[i]?=some x->vs[i]?=some v->kindOf x=some .local ->
  bindL kindOf (P.zip vs) m x=some v
 | [],_,_,_,_,h,_,_=>by simp at h
 | _::_,[],_,_,_,_,h,_=>by simp at h
 | p::P,w::vs,0,m,nd,h1,h2,hk=>by
  simp at h1 h2;subst h1;subst h2;show bindL kindOf ((p,w)::P.zip vs) m p=_;unfold bindL;rw [Js fun v hv=>(ahh.mp nd).1 (List.of_mem_zip hv).1,if_pos hk];simp
 | p::P,w::vs,i+1,m,nd,h1,h2,hk=>by
  show bindL kindOf ((p,w)::P.zip vs) m x=_;unfold bindL;exact Jt (i:=i) (ahh.mp nd).2 (by simpa using h1) (by simpa using h2) hk
theorem Jv {kindOf:Str->Option NameKind}{x:Str}{v:Value}:∀ {P:List Str}{vs:List Value}{i:Nat}{m:Str->Option Value},P.Nodup->P[i]?=some x->vs[i]?=some v->kindOf x≠some .local ->
  bindC kindOf (P.zip vs) m x=some v
 | [],_,_,_,_,h,_,_=>by simp at h
 | _::_,[],_,_,_,_,h,_=>by simp at h
 | p::P,w::vs,0,m,nd,h1,h2,hk=>by
  simp at h1 h2;subst h1;subst h2;show bindC kindOf ((p,w)::P.zip vs) m p=_;unfold bindC;rw [Ju fun v hv=>(ahh.mp nd).1 (List.of_mem_zip hv).1,if_neg hk];simp
 | p::P,w::vs,i+1,m,nd,h1,h2,hk=>by
  show bindC kindOf ((p,w)::P.zip vs) m x=_;unfold bindC;exact Jv (i:=i) (ahh.mp nd).2 (by simpa using h1) (by simpa using h2) hk
def start (N:List Str)(vs:List V):St:=vs.map some++List.replicate (N.length - vs.length) none
def SQ (CX:CXT)(P:Program)(w:World)(K:PySem.W.Frag)(mg:Str->Option Value)(base:Heap)(N:List Str)(qual:Str)(scope:Scope)(f:Addr)(cd:Value)(A:Around)(outer:List Env)(s:Shared)(H:Hp)(E:XK):Cx where
 prog:=P;w:=w;K:=K;mg:=mg;base:=base;A:=A.deeper (envOfC qual scope s.heap.objs.size f cd);N:=N;s₀:=s;H₀:=H;env:=envOfC qual scope s.heap.objs.size f cd;outer:=outer;stack:=envOfC qual scope s.heap.objs.size f cd::outer;ex:=[];calm:=true;fn:=fun _=>true;pn:=[];xe:=fun e s'=>wpAny (model P w) (A.deeper (envOfC qual scope s.heap.objs.size f cd)) (leaving (envOfC qual scope s.heap.objs.size f cd) e) (fun _ s''=>CX outer H s E e s'') (fun e' s''=>CX outer H s E e' s'') s'
theorem Nj {sc:Scope}{n:Nat}{x:Str}(h:sc.names.lookup x=some .cell):∃ c,(cellsFrom n sc.names []).lookup x=some c:=by
 have q:=PySem.W.cellsFrom_some sc.names n [] (.inl h);exact ahv.mp q
theorem RM {CX:CXT}{P:Program}{w:World}{K:PySem.W.Frag}{mg:Str->Option Value}{base:Heap}{N ps:List Str}{qual:Str}{scope:Scope}{f:Addr}{cd:Value}{A:Around}{outer:List Env}{s s1:Shared}{H:Hp}{E:XK}{us:List Value}{vs:List V}
  (S:aG N ps scope)(hd:A.handled=none)(e0:acd P w K mg base A outer s H)(hl:vs.length=ps.length)(r:Vals vs us)
  (x:InCallC s s.heap.objs.size (bindL (envOfC qual scope s.heap.objs.size f cd).kindOf (ps.zip us) fun _=>none) (cellsFrom (s.heap.objs.size+1) scope.names []) (bindC (envOfC qual scope s.heap.objs.size f cd).kindOf (ps.zip us) fun _=>none) s1):
  Inv (SQ CX P w K mg base N qual scope f cd A outer s H E) [] (start N vs) H s1:=by
 have hpl:ps.length<=N.length:=by have:=congrArg List.length S.pre;rw [agt] at this;omega
 obtain ⟨h1,tk,rfl,hk⟩:=x.done
 have noA:∀ b:Addr,b ∉ (SQ CX P w K mg base N qual scope f cd A outer s H E).ex:=fun b z=>absurd (show b∈([]:List Addr) from z) (by simp)
 refine ⟨⟨e0.mod,S.kind,rfl,rfl,agb _,fun y z c h1 h2=>?_,fun y hy=>?_,fun y c _ h=>?_,fun _=>hd,Around.frames_deeper e0.frames,.inr ⟨rfl,rfl⟩,fun b z=>absurd z (noA b),e0.bs,e0.bsz,fun b _ _=>noA b,fun b z=>absurd z (noA b),e0.M7,e0.frf⟩,
  rfl,e0.bare,Un.kept hk,⟨_,x.toInCall.ns,fun i y v h1 h2 h3=>?_⟩,fun y c h=>⟨_,x.cell y c h⟩,e0.hok.fresh (agb _),fun y c h=>?_,fun p hp=>absurd (show p∈([]:List (Addr × Obj)) from hp) (by simp),e0.hok.kept hk,?_⟩
 ·exact name_of_addr x.apart (agL h1) (agL h2)
 ·have hy:scope.names.lookup y=some .cell\/scope.names.lookup y=some .free:=hy
  rcases hy with hy| hy
  ·exact Nj hy
  ·exact absurd rfl (S.nofree _ (agL hy))
 ·exact Nat.le_of_lt (x.above y c (agL h))
 ·have hi:i<vs.length:=by
   unfold start at h2
   by_cases hi:i<vs.length
   ·exact hi
   ·rw [ahf (by simpa using hi)] at h2
    rw [List.getElem?_replicate] at h2
    split at h2 <;>cases h2
  have ha:vs[i]?=some v:=by
   unfold start at h2
   rw [ahr (by simpa using hi),agg] at h2
   cases e:vs[i]? with
   | none=>rw [e] at h2;cases h2
   | some a=>rw [e] at h2;cases h2;rfl
  obtain ⟨u,hu,rv⟩:=r.get ha
  have hp:ps[i]?=some y:=by
   rw [<- S.pre,List.getElem?_take_of_lt (by omega)];exact h1
  have ndP:ps.Nodup:=by rw [<- S.pre];exact S.nd.sublist (List.take_sublist _ _)
  refine ⟨u,rv,?_⟩
  rcases S.par y (agd hp) with k| k
  ·exact .inl ⟨k,Jt ndP hp hu k⟩
  ·obtain ⟨c,e⟩:=Nj (n:=s.heap.objs.size+1) k
   refine .inr ⟨.inl k,c,e,?_⟩
   have q:=x.cell y c e
   rw [Jv ndP hp hu (by show scope.names.lookup y≠_;rw [k];decide)] at q
   exact q
 ·exact e0.hok.fresh (Nat.le_of_lt (x.above y c (agL h)))
 ·unfold start
  show _=N.length
  rw [agh,aeu,agO]
  omega
theorem Vq {CX:CXT}{P:Program}{w:World}{K:PySem.W.Frag}{mg:Str->Option Value}{base:Heap}{k:Nat}{f:Addr}{name qual:Str}{params:Arguments}{body:List Stmt}{scope:Scope}{dV kV doc pm cdv ct oc:Value}{an od:Option Addr}
  {osl:Array (Option Value)}{N ps:List Str}{sp:Sp}(lk:K.lookup f=some ⟨oc,od,.func (fnOf name qual params body scope dV kV doc pm an cdv ct),osl⟩)(hcd:codeIn K cdv qual=true)(S:aG N ps scope)
  (len:∀ vs H Q E,sp vs H Q E->vs.length=ps.length)
  (hbody:∀ (A:Around)(outer:List Env)(s:Shared)(H:Hp)(vs:List V)(Q:VK)(E:XK),sJ k (A.deeper (envOfC qual scope s.heap.objs.size f cdv))->sp vs H Q E ->
   ∃ t,PSs (SQ CX P w K mg base N qual scope f cdv A outer s H E) body t/\t { nx:=fun _ H'=>Q .non H',rt:=Q } (start N vs) H):
  Hf P w K mg base CX (k+1) f (fnOf name qual params body scope dV kV doc pm an cdv ct) ps sp:=by
 refine ⟨len,fun A outer s H args us vs Q E hr e0 hb r hsp=>?_⟩
 have hl:=len _ _ _ _ hsp
 have KX:K.In s.heap:=e0.mod.kin.keeps fun b o e=>(e0.bs b o e).1
 have lim:s.heap.NoLimit:=e0.mod.nolimit.keeps fun b o e=>(e0.bs b o e).1
 have hkind:∀ y∈ps.zip us,scope.names.lookup y.1=some .local\/(scope.names.lookup y.1=some .cell/\((cellsFrom (s.heap.objs.size+1) scope.names []).lookup y.1).isSome=true):=fun ⟨n,v⟩ hy=>by
  rcases S.par n (List.of_mem_zip hy).1 with q| q
  ·exact .inl q
  ·exact .inr ⟨q,PySem.W.cellsFrom_some _ _ _ (.inl q)⟩
 refine codeAny_call_function hr.depth (KX _ _ lk) rfl S.co S.gen rfl (PySem.W.codeRec_of KX hcd) (hb _ _ _ _ ?_)
 refine wpAny_newFunctionEnv_cells S.kind hkind fun env he s1 x=>?_
 subst he
 refine ⟨lim.keeps x.toInCall.keep,codeAny_func ?_⟩
 obtain ⟨t,ht,hq⟩:=hbody A outer s H vs Q E (hr.deeper _) hsp
 have I:Inv (SQ CX P w K mg base N qual scope f cdv A outer s H E) [] (start N vs) H s1:=RM S hr.hd e0 hl r x
 refine wpAny_mono (ht [] s1 (start N vs) H _ I hq) (fun fl s' hs=>?_) fun e s' hs=>hs
 have fin:∀ {σ':St}{H':Hp}{v:V}{u:Value},Inv (SQ CX P w K mg base N qual scope f cdv A outer s H E) [] σ' H' s'->RelV v u->Q v H'->CE outer P w H s Q u s' :=
  fun {σ' H' v u} J rv q=>⟨v,H',J.os,J.bare,J.base,J.hok,rv,q⟩
 cases fl with
 | ret u =>
  obtain ⟨v,σ',H',J,rv,q⟩:=hs
  exact fin J rv q
 | next =>
  obtain ⟨σ',H',J,q⟩:=hs
  exact fin (v:=V.non) (u:=Value.none) J rfl q
 | brk =>
  obtain ⟨_,_,_,q⟩:=hs
  exact False.elim q
 | cont =>
  obtain ⟨_,_,_,q⟩:=hs
  exact False.elim q
section
variable {X:Cx}{x:Str}{p pos:Pos}{e:Expr}{es:List Expr}{t:TA}{id T:String}{r:List V->Hp->VK->Prop}
def tCB (r:List V->Hp->VK->Prop)(t:TA):TE:=fun σ H Q=>t σ H fun vs H1=>r vs H1 Q
theorem aD (hc:vQ X (.builtin id) r)(hg:Gl X x)(hm:X.mg x=none)(hv:bootBuiltins x=some (.builtin id))(ha:PA X (e::es) t)(hn:x≠"__name__":=by decide)(hdb:(x ==("__debug__":Str))=false:=by decide)
  (he:starEach (e::es) X.env=(false,eval e X.env)::starEach es X.env:=by rfl)(hpl:(backTo pos (starEach es X.env)).any (·.1)=false:=by rfl):PE X (.Call (.Name x p) (e::es) [] pos) (tCB r t):=by
 intro pins s σ H Q I h;refine wpAny_Call_Name_kw (nj I hg hm hv ?_ hn hdb);exact PyProof.Rows.callWith_builtin1 (thn (ha pos pins s σ H _ I h) fun us s1 ⟨vs,H1,I1,r1,q1⟩=>hc pins s1 σ H1 vs us Q I1 r1 q1) he hpl
theorem bL (hc:vQ X (.type T) r)(hg:Gl X x)(hm:X.mg x=none)(hv:bootBuiltins x=some (.type T))(ha:PA X (e::es) t)(hn:x≠"__name__":=by decide)(hdb:(x ==("__debug__":Str))=false:=by decide)
  (he:starEach (e::es) X.env=(false,eval e X.env)::starEach es X.env:=by rfl)(hpl:(backTo pos (starEach es X.env)).any (·.1)=false:=by rfl):PE X (.Call (.Name x p) (e::es) [] pos) (tCB r t):=by
 intro pins s σ H Q I h;refine wpAny_Call_Name_kw (nj I hg hm hv ?_ hn hdb);exact agJ (thn (ha pos pins s σ H _ I h) fun us s1 ⟨vs,H1,I1,r1,q1⟩=>hc pins s1 σ H1 vs us Q I1 r1 q1) he hpl
end
end L2
namespace HT
open PySem PyProof.Rows
def lexLt:List Int->List Int->Bool
 | [],[]=>false
 | [],_::_=>true
 | _::_,[]=>false
 | x::xs,y::ys=>if x=y then lexLt xs ys else decide (x<y)
theorem pY (x y:Int)(xs ys:List Int):lexLt (x::xs) (y::ys)=if x=y then lexLt xs ys else decide (x<y):=rfl
theorem yJ:lexLt [] []=false:=rfl
section
open PySem.SeqAt
open PySem.AutoSeq1 (wpAny_loadPart')
open PySem.MeetsSeq PySem.MeetsSeq2 PySem.MeetsSeq3
end
section
variable {prog:Program}{w:World}{A:Around}{E:Value->Shared->Prop}{s:Shared}
def sIx (n d:Nat):Option Int->Nat
 | none=>d
 | some v=>if v<0 then (v+(n:Int)).toNat else min v.toNat n
theorem Lz (n d:Nat):sIx n d none=d:=rfl
theorem Ce (n d k:Nat):sIx n d (some (k:Int))=min k n:=by
 show (if (k:Int)<0 then ((k:Int)+(n:Int)).toNat else min (k:Int).toNat n)=min k n;rw [if_neg (by omega),agm]
end
end HT
namespace L2
open PySem PySem.Spec PyProof.Rows
abbrev TO:=St->Hp->(Option Int->Hp->Prop)->Prop
def PO (X:Cx)(e:Option Expr)(t:TO):Prop:=
 ∀ (pins:List (Addr × Obj))(s:Shared)(σ:St)(H:Hp)(Q:Option Int->Hp->Prop),Inv X pins σ H s->t σ H Q ->
  wpAny (model X.prog X.w) X.A (evalPart e X.env) (fun u s'=>∃ o H',Inv X pins σ H' s'/\IsPart u o/\Q o H') X.xe s
def aa4:TO:=fun _ H Q=>Q none H
def aeF (t:TE):TO:=fun σ H Q=>t σ H fun x H1=>∃ i,x=.int i/\Q (some i) H1
theorem intsAre_of {ns:List Int}:∀ {us:List Value},Vals (ns.map V.int) us->IntsAre us ns:=by
 induction ns with
 | nil=>intro us r;rw [ahT] at r;cases r;exact .nil
 | cons n ns ih =>
  intro us r;rw [agH] at r;cases r with
  | cons r1 r2 =>
   obtain ⟨t,e⟩:=r1;subst e;exact .cons n t (ih r2)
section
variable {X:Cx}{e:Expr}{te:TE}{lo hi:Option Expr}{tl th:TO}{pos p2:Pos}
theorem J4:PO X none aa4:=by
 intro pins s σ H Q I h;rw [evalPart_none];exact wpAny_pure ⟨none,H,I,.none,h⟩
theorem Ci (h:PE X e te):PO X (some e) (aeF te):=by
 intro pins s σ H Q I hw;rw [evalPart_some];refine thn (h pins s σ H _ I hw) fun u s1 ⟨x,H1,I1,r1,q1⟩=>?_;obtain ⟨i,rfl,q⟩:=q1;obtain ⟨t,rfl⟩:=r1;exact ⟨some i,H1,I1,.int i t,q⟩
def SlR (X:Cx)(r:V->Option Int->Option Int->Hp->VK->Prop):Prop:=
 ∀ (pins:List (Addr × Obj))(s:Shared)(σ:St)(H:Hp)(x:V)(v vl vu:Value)(lo hi:Option Int)(sl:Addr)(Q:VK),Inv X pins σ H s->RelV x v->s.heap.IsSliceOf sl vl vu .none->IsPart vl lo->IsPart vu hi->r x lo hi H Q ->
  ∃ T id,typeLookup (.type T) "__getitem__"=pure (some (.builtin id))/\s.TypeIs v T/\wpAny (model X.prog X.w) X.A (getItem v (.ref sl)) (EP X pins σ Q) X.xe s
def tSl (r:V->Option Int->Option Int->Hp->VK->Prop)(te:TE)(tl th:TO):TE:=fun σ H Q=>te σ H fun x H1=>tl σ H1 fun l H2=>th σ H2 fun u H3=>r x l u H3 Q
theorem Bo {r:V->Option Int->Option Int->Hp->VK->Prop}(hr:SlR X r)(he:PE X e te)(hl:PO X lo tl)(hu:PO X hi th):PE X (.Subscript e (.Slice lo hi none p2) pos) (tSl r te tl th):=by
 intro pins s σ H Q I h;refine Subscript_ (thn (he pins s σ H _ I h) fun v s1 ⟨x,H1,I1,r1,q1⟩=>?_);refine wpAny_Slice (thn (hl pins s1 σ H1 _ I1 q1) fun vl s2 ⟨l,H2,I2,pl,q2⟩=>thn (hu pins s2 σ H2 _ I2 q2) fun vu s3 ⟨u,H3,I3,pu,q3⟩=>?_);rw [evalPart_none];refine wpAny_pure ?_;have I4:Inv X pins σ H3 { s3 with heap:=s3.heap.push { cls:=.type "slice",data:=.fields #[vl,vu,.none] } }:=I3.kept (t':=s3.toks) fun b ob q=>agc _ q;obtain ⟨T,id,hT,ht,hg⟩:=hr pins { s3 with heap:=s3.heap.push { cls:=.type "slice",data:=.fields #[vl,vu,.none] } } σ H3 x v vl vu l u s3.heap.objs.size Q I4 r1 (Heap.IsSliceOf.new ..) pl pu q3;show wpAny (model X.prog X.w) X.A (subscriptTail e (.Slice lo hi none p2) v (.ref s3.heap.objs.size)) (EP X pins σ Q) X.xe { s3 with heap:=s3.heap.push { cls:=.type "slice",data:=.fields #[vl,vu,.none] } };exact tail_any (ops:=[.ref s3.heap.objs.size,v]) ht hT hg (by with_unfolding_all rfl)
def Kw (xs:List V)(lo hi:Option Int):List V:=(xs.drop (HT.sIx xs.length 0 lo)).take (HT.sIx xs.length xs.length hi - HT.sIx xs.length 0 lo)
theorem Kv (xs:List V)(lo hi:Option Int):(Kw xs lo hi).length<=xs.length:=by
 unfold Kw;rw [agt,ag9];omega
end
def ixN (n:Nat)(i:Int):Option Nat:=if 0<=i then (if i<n then some i.toNat else none) else if -(n:Int)<=i then some (i+n).toNat else none
def atI {α:Type}(xs:List α)(i:Int):Option α:=(ixN xs.length i).bind fun j=>xs[j]?
theorem RJ {n:Nat}{i:Int}{j:Nat}(h:ixN n i=some j):seqIndex? i n=some j/\j<n/\-(n:Int)<=i/\i<n:=by
 unfold ixN at h;by_cases h0:0<=i
 ·rw [if_pos h0] at h;by_cases h1:i<n
  ·rw [if_pos h1] at h;have e:i.toNat=j:=agz h;exact ⟨by rw [seqIndex_of h0 h1,e],by omega,by omega,h1⟩
  ·rw [if_neg h1] at h;cases h
 ·rw [if_neg h0] at h;by_cases h1:-(n:Int)<=i
  ·rw [if_pos h1] at h;have e:(i+n).toNat=j:=agz h;exact ⟨by rw [seqIndex_neg (by omega) h1,e],by omega,h1,by omega⟩
  ·rw [if_neg h1] at h;cases h
theorem Tq {α:Type}{xs:List α}{i:Int}{v:α}(h:atI xs i=some v):∃ j,seqIndex? i xs.length=some j/\xs[j]?=some v/\j<xs.length/\-(xs.length:Int)<=i/\i<xs.length:=by
 unfold atI at h;cases e:ixN xs.length i with
 | none=>rw [e] at h;cases h
 | some j =>
  rw [e] at h;obtain ⟨h1,h2,h3,h4⟩:=RJ e;exact ⟨j,h1,h,h2,h3,h4⟩
theorem dU {α:Type}{xs:List α}{j:Nat}{v:α}(h:xs[j]?=some v):atI xs (j:Int)=some v:=by
 have hj:j<xs.length:=(af4.mp h).1;have e:ixN xs.length (j:Int)=some j:=by
  unfold ixN;rw [if_pos (by omega),if_pos (by omega)];simp
 unfold atI;rw [e];exact h
theorem VH {α:Type}(xs:List α)(v:α):atI (xs++[v]) (-1)=some v:=by
 have hl:(xs++[v]).length=xs.length+1:=by simp
 have e:ixN (xs++[v]).length (-1)=some xs.length:=by
  unfold ixN;rw [hl,if_neg (by decide),if_pos (by omega)];congr 1;omega
 unfold atI;rw [e];show (xs++[v])[xs.length]?=some v;simp
def ab6 (b:Expr):Prop:=∀ o i,subscripted b false o i=operate [o,i] (getItem o i)
def IxR (X:Cx)(r:R2):Prop:=
 ∀ (value slice:Expr)(pins:List (Addr × Obj))(s:Shared)(σ:St)(H:Hp)(x y:V)(v u:Value)(Q:VK),Inv X pins σ H s->RelV x v->RelV y u->r x y H Q ->
  subscripted slice false v u=operate [v,u] (getItem v u)->wpAny (model X.prog X.w) X.A (subscriptTail value slice v u) (EP X pins σ Q) X.xe s
def MtR (X:Cx)(id:String)(r:V->List V->Hp->VK->Prop):Prop:=
 ∀ (pins:List (Addr × Obj))(s:Shared)(σ:St)(H:Hp)(x:V)(xs:List V)(v:Value)(us:List Value)(Q:VK),Inv X pins σ H s->RelV x v->Vals xs us->r x xs H Q ->
  wpAny (model X.prog X.w) X.A (call (.builtin id) (v::us)) (EP X pins σ Q) X.xe s
inductive kLen (K:PySem.W.Frag)(xs:List V)(H:Hp)(Q:VK):Prop
 | mk (p:Addr)(ys:List V)(_:xs=[.ref p])(_:SqL K H p ys\/SqT K H p ys)(_:Q (.int ys.length) H)
inductive adE (K:PySem.W.Frag)(xs:List V)(H:Hp)(Q:VK):Prop
 | mk (p:Addr)(ys:List V)(_:xs=[.ref p])(_:SqL K H p ys\/SqT K H p ys)(_:∀ l,H l=none->Q (.ref l) (upd H l (.lst ys)))
section
variable {X:Cx}{a b:Expr}{ta tb:TE}{pos:Pos}
theorem aZ {r:R2}(hr:IxR X r)(ha:PE X a ta)(hb:PE X b tb)(hs:ab6 b):PE X (.Subscript a b pos) (tOp r ta tb):=by
 intro pins s σ H Q I h;exact Subscript_ (aex ha hb I h fun v u s2 x y H2 I2 rx ry q=>hr a b pins s2 σ H2 x y v u Q I2 rx ry q (hs _ _))
inductive ae0 (K:PySem.W.Frag)(x y:V)(H:Hp)(Q:VK):Prop
 | mk (p:Addr)(xs:List V)(i:Int)(v:V)(_:x=.ref p)(_:y=.int i)(_:SqL K H p xs)(_:atI xs i=some v)(_:Q v H)
inductive rIxT (K:PySem.W.Frag)(x y:V)(H:Hp)(Q:VK):Prop
 | mk (p:Addr)(xs:List V)(i:Int)(v:V)(_:x=.ref p)(_:y=.int i)(_:SqT K H p xs)(_:atI xs i=some v)(_:Q v H)
theorem aU:IxR X (ae0 X.K):=by
 intro value slice pins s σ H x y v u Q I rx ry h hs;obtain ⟨p,xs,i,z,rfl,rfl,hq,he,q⟩:=h;cases rx;obtain ⟨t,rfl⟩:=ry;obtain ⟨its,r,pl,hz⟩:=I.list hq;obtain ⟨j,h1,h2,h3,h4,h5⟩:=Tq he;obtain ⟨w,ew,rw'⟩:=r.get h2;have hl:=r.length;have hn:=yI;have fin:EP X pins σ Q w s:=⟨z,H,I,rw',q⟩;by_cases h0:0<=i
 ·have hj:i.toNat=j:=by
   rw [seqIndex_of h0 h5] at h1;exact agz h1
  exact item_listR pl.isList h0 (by omega) (by rw [hj];simpa using ew) fin hs
 ·have hj:(i+(its.toArray.size:Int)).toNat=j:=by
   rw [seqIndex_neg (by omega) h4] at h1;rw [ags,<- hl];exact agz h1
  exact subscriptTail_builtinR (x:=w) pl.isList.typeIs slot_list_getitem.lookup
   (wpAny_getItem_list_neg (Q:=fun r s'=>r=w/\EP X pins σ Q r s') pl.isList (by omega) (by rw [ags]<;>omega) (by omega) (by rw [hj];simpa using ew) ⟨rfl,fin⟩) hs
theorem fQ:IxR X (rIxT X.K):=by
 intro value slice pins s σ H x y v u Q I rx ry h hs;obtain ⟨p,xs,i,z,rfl,rfl,hq,he,q⟩:=h;cases rx;obtain ⟨t,rfl⟩:=ry;obtain ⟨its,r,pl,hz⟩:=I.tuple hq;obtain ⟨j,h1,h2,h3,h4,h5⟩:=Tq he;obtain ⟨w,ew,rw'⟩:=r.get h2;have hl:=r.length;have hn:=yI;have fin:EP X pins σ Q w s:=⟨z,H,I,rw',q⟩;exact subscriptTail_builtinR (x:=w) pl.typeIs slot_tuple_getitem.lookup
  (getItem_tuple (j:=j) (Q:=fun r s'=>r=w/\EP X pins σ Q r s') pl (by omega) (by omega) (by rw [ags,<- hl];exact h1) (by simpa using ew) ⟨rfl,fin⟩) hs
theorem Oo (its:List Value)(n j:Nat)(u:Value):Obj.mapSeq (·.setIfInBounds j u) { cls:=.type "list",data:=.seq its.toArray n }={ cls:=.type "list",data:=.seq (its.set j u).toArray n }:=by
 simp [Obj.mapSeq]
theorem Inv.lst {pins:List (Addr × Obj)}{σ:St}{H:Hp}{s:Shared}{p:Addr}{xs:List V}(I:Inv X pins σ H s)(h:H p=some (.lst xs)):
  ∃ (its:List Value)(n:Nat),Vals xs its/\s.heap.get? p=some { cls:=.type "list",data:=.seq its.toArray n }/\xs.length<=sizeLine:=by
 obtain ⟨z,its,n,r,e⟩:=I.hok p _ h;exact ⟨its,n,r,e,z⟩
theorem Inv.adv {pins:List (Addr × Obj)}{σ:St}{H:Hp}{s:Shared}{p:Addr}{xs ys:List V}{its its':List Value}{n n':Nat}{f:Obj->Obj}(I:Inv X pins σ H s)(h:H p=some (.lst xs))
  (ho:s.heap.get? p=some { cls:=.type "list",data:=.seq its.toArray n })(hf:f { cls:=.type "list",data:=.seq its.toArray n }={ cls:=.type "list",data:=.seq its'.toArray n' })(r:Vals ys its')(hz:ys.length<=sizeLine)(t:Nat):
  Inv X pins σ (upd H p (.lst ys)) { s with heap:=s.heap.update p f,toks:=t }:=by
 have e:(s.heap.update p f).get? p=some { cls:=.type "list",data:=.seq its'.toArray n' }:=by
  rw [ahi f ho (by rw [hf]<;>rfl),hf]
 refine I.write (x:=p) (e:=p) (by rw [h];trivial) (.inl rfl) (fun b u hb q=>(agQ _ _ (Ne.symm hb)).trans q) ⟨_,e⟩ ?_
 exact ⟨hz,its',n',r,e⟩
inductive acR (o i v:V)(H:Hp)(Q:Hp->Prop):Prop
 | mk (p:Addr)(xs:List V)(k:Int)(j:Nat)(_:o=.ref p)(_:i=.int k)(_:H p=some (.lst xs))(_:ixN xs.length k=some j)(_:Q (upd H p (.lst (xs.set j v))))
theorem set_list:afE X acR:=by
 intro pins s σ H o i v ov iv u Q I ro ri rv h;obtain ⟨p,xs,k,j,rfl,rfl,hp,hj,q⟩:=h;cases ro;obtain ⟨t,rfl⟩:=ri;obtain ⟨its,n,r,ho,hz⟩:=I.lst hp;obtain ⟨h1,h2,h3,h4⟩:=RJ hj;have hl:=r.length;have hn:=yI;have I':Inv X pins σ (upd H p (.lst (xs.set j v))) { s with heap:=s.heap.update p (Obj.mapSeq (·.setIfInBounds j u)) }:=
  I.adv hp ho (Oo its n j u) (r.set rv j) (by rw [agG];exact hz) s.toks
 by_cases h0:0<=k
 ·have hk:k.toNat=j:=by
   rw [seqIndex_of h0 h4] at h1;exact agz h1
  exact PySem.W.ki_setAt ho h0 (by omega) (by rw [ags,<- hl];exact h4) (by rw [hk];exact ⟨_,I',q⟩)
 ·have hk:(k+(its.toArray.size:Int)).toNat=j:=by
   rw [seqIndex_neg (by omega) h3] at h1;rw [ags,<- hl];exact agz h1
  exact PySem.W.ki_setBack ho (by omega) (by rw [ags,<- hl];exact h3) (by omega) (by rw [hk];exact ⟨_,I',q⟩)
theorem HD (lo hi:Option Int)(n:Nat):(sliceBounds lo hi none n).1=((HT.sIx n 0 lo:Nat):Int)/\(sliceBounds lo hi none n).2.1=((HT.sIx n n hi:Nat):Int)/\(sliceBounds lo hi none n).2.2=1:=by
 refine ⟨?_,?_,rfl⟩
 ·cases lo with
  | none=>simp [sliceBounds,HT.sIx]
  | some i =>
   simp only [sliceBounds,HT.sIx,Option.getD_none,show (1:Int)>0 by decide,if_true];by_cases h:i<0
   ·simp only [h,if_true]<;>omega
   ·simp only [h,if_false]<;>omega
 ·cases hi with
  | none=>simp [sliceBounds,HT.sIx]
  | some i =>
   simp only [sliceBounds,HT.sIx,Option.getD_none,show (1:Int)>0 by decide,if_true];by_cases h:i<0
   ·simp only [h,if_true]<;>omega
   ·simp only [h,if_false]<;>omega
theorem Ga (its:List Value)(lo hi:Option Int):slicePick its.toArray lo hi none=((its.drop (HT.sIx its.length 0 lo)).take (HT.sIx its.length its.length hi - HT.sIx its.length 0 lo)).toArray:=by
 obtain ⟨h1,h2,h3⟩:=HD lo hi its.toArray.size;unfold slicePick;rw [h1,h2,h3];simp only [sliceRange_one,pick_run,ags]<;>rfl
def rSlL (K:PySem.W.Frag):V->Option Int->Option Int->Hp->VK->Prop:=fun x lo hi H Q=>∃ a xs,x=.ref a/\SqL K H a xs/\∀ p,H p=none->Q (.ref p) (upd H p (.lst (Kw xs lo hi)))
theorem Gb:SlR X (rSlL X.K):=by
 intro pins s σ H x v vl vu lo hi sl Q I rx hs pl pu h;obtain ⟨a,xs,rfl,hx,q⟩:=h;cases rx;obtain ⟨its,r,ht,hz⟩:=I.list hx;have hlen:=r.length;refine ⟨"list",_,slot_list_getitem.lookup,ht.isList.typeIs,?_⟩;refine wpAny_getItem_list_slice ht.isList hs pl pu .none (by simp) ?_ (by rw [ags]<;>omega)
 rw [Ga,<- hlen];refine ⟨.ref s.heap.objs.size,_,I.laid (t':=s.toks) (o:=.lst (Kw xs lo hi)) (fun b ob q=>agc _ q) (agb _) ?_,rfl,q _ (I.hok.fresh (agb _))⟩;exact ⟨agS (Kv xs lo hi) hz,_,0,(r.drop (HT.sIx xs.length 0 lo)).take (HT.sIx xs.length xs.length hi - HT.sIx xs.length 0 lo),agl _ rfl⟩
def GJ:V->Bool
 | .non=>true
 | .bl _=>true
 | .int _=>true
 | .str _=>true
 | _=>false
def eqV:V->V->Bool
 | .non,.non=>true
 | .bl a,.bl b=>a ==b
 | .bl a,.int b=>(if a then 1 else 0)==b
 | .int a,.bl b=>a ==(if b then 1 else 0)
 | .int a,.int b=>a ==b
 | .str a,.str b=>a ==b
 | _,_=>false
theorem ad3 {A:Around}{s:Shared}{y x:V}{u v:Value}(ry:RelV y u)(rx:RelV x v)(fy:GJ y=true)(fx:GJ x=true):SeqAt.EqAt A s u v (eqV y x):=by
 cases y with
 | non =>
  cases ry;cases x with
  | non=>cases rx;exact SeqAt.EqAt.same _
  | bl b=>cases rx;exact SeqAt.EqAt.none_bool b
  | int b=>obtain ⟨t,rfl⟩:=rx;exact SeqAt.EqAt.none_int b t
  | str b=>obtain ⟨t,rfl⟩:=rx;exact SeqAt.EqAt.none_str b t
  | _=>exact absurd (show false=true from fx) agi
 | bl a =>
  cases ry;cases x with
  | non=>cases rx;exact SeqAt.EqAt.bool_none a
  | bl b=>cases rx;exact SeqAt.EqAt.bool_bool a b
  | int b=>obtain ⟨t,rfl⟩:=rx;exact SeqAt.EqAt.bool_int a b t
  | str b=>obtain ⟨t,rfl⟩:=rx;exact SeqAt.EqAt.bool_str a b t
  | _=>exact absurd (show false=true from fx) agi
 | int a =>
  obtain ⟨t',rfl⟩:=ry;cases x with
  | non=>cases rx;exact SeqAt.EqAt.int_none a t'
  | bl b=>cases rx;exact SeqAt.EqAt.int_bool a t' b
  | int b=>obtain ⟨t,rfl⟩:=rx;exact SeqAt.EqAt.int_int a t' b t
  | str b=>obtain ⟨t,rfl⟩:=rx;exact SeqAt.EqAt.int_str a t' b t
  | _=>exact absurd (show false=true from fx) agi
 | str a =>
  obtain ⟨t',rfl⟩:=ry;cases x with
  | non=>cases rx;exact SeqAt.EqAt.str_none a t'
  | bl b=>cases rx;exact SeqAt.EqAt.str_bool a t' b
  | int b=>obtain ⟨t,rfl⟩:=rx;exact SeqAt.EqAt.str_int a t' b t
  | str b=>obtain ⟨t,rfl⟩:=rx;exact SeqAt.EqAt.str_str a t' b t
  | _=>exact absurd (show false=true from fx) agi
 | _=>exact absurd (show false=true from fy) agi
def eqU (x:V)(u:Value):Bool:=match u with
 | .none=>eqV .non x
 | .bool b=>eqV (.bl b) x
 | .int i _=>eqV (.int i) x
 | .str z _=>eqV (.str z) x
 | _=>false
theorem aaI {x y:V}{u:Value}(r:RelV y u)(f:GJ y=true):eqU x u=eqV y x:=by
 cases y with
 | non=>cases r;rfl
 | bl b=>cases r;rfl
 | int i=>obtain ⟨t,rfl⟩:=r;rfl
 | str z=>obtain ⟨t,rfl⟩:=r;rfl
 | _=>exact absurd (show false=true from f) agi
theorem DK {x:V}:∀ {xs:List V}{us:List Value},Vals xs us->xs.all GJ=true->us.any (eqU x)=xs.any fun y=>eqV y x
 | _,_,.nil,_=>rfl
 | y::xs,u::us,.cons r t,f=>by
  rw [List.all_cons,agD] at f;rw [ahW,ahW,aaI r f.1,DK t f.2]
theorem yH {A:Around}{s:Shared}{x:V}{v:Value}(rx:RelV x v)(fx:GJ x=true):∀ {xs:List V}{us:List Value},Vals xs us->xs.all GJ=true->∀ u∈us,SeqAt.EqAt A s u v (eqU x u)
 | _,_,.nil,_=>fun u hu=>by cases hu
 | y::xs,u::us,.cons r t,f=>fun u' hu=>by
  rw [List.all_cons,agD] at f;rcases agu.mp hu with rfl| hu
  ·rw [aaI r f.1];exact ad3 r rx f.1 fx
  ·exact yH rx fx t f.2 u' hu
def inV (x:V)(xs:List V):Bool:=xs.any fun y=>eqV y x
def rIn (K:PySem.W.Frag)(neg:Bool):R2:=fun x y H Q=>∃ p xs,y=.ref p/\(SqL K H p xs\/SqT K H p xs)/\GJ x=true/\xs.all GJ=true/\Q (.bl (if neg then !inV x xs else inV x xs)) H
theorem Q9:OpR X (compareOp .In) (rIn X.K false):=by
 intro pins s σ H x y v u Q I rx ry h;obtain ⟨p,xs,rfl,hq,fx,fs,q⟩:=h;cases ry;rcases hq with hq| hq
 ·obtain ⟨its,r,pl,hz⟩:=I.list hq;refine SeqAt.in_listAt (eqU x) pl.isList (fun w hw=>yH rx fx r fs w (by simpa using hw)) ⟨.bl _,H,I,rfl,?_⟩;rw [show its.toArray.any (eqU x)=its.any (eqU x) by simp,DK r fs];exact q
 ·obtain ⟨its,r,pl,hz⟩:=I.tuple hq;refine SeqAt.in_tupleAt (eqU x) pl (fun w hw=>yH rx fx r fs w (by simpa using hw)) ⟨.bl _,H,I,rfl,?_⟩;rw [show its.toArray.any (eqU x)=its.any (eqU x) by simp,DK r fs];exact q
theorem Ag:OpR X (compareOp .NotIn) (rIn X.K true):=by
 intro pins s σ H x y v u Q I rx ry h;obtain ⟨p,xs,rfl,hq,fx,fs,q⟩:=h;cases ry;rcases hq with hq| hq
 ·obtain ⟨its,r,pl,hz⟩:=I.list hq;refine SeqAt.notIn_listAt (eqU x) pl.isList (fun w hw=>yH rx fx r fs w (by simpa using hw)) ⟨.bl _,H,I,rfl,?_⟩;rw [show its.toArray.any (eqU x)=its.any (eqU x) by simp,DK r fs];exact q
 ·obtain ⟨its,r,pl,hz⟩:=I.tuple hq;refine SeqAt.notIn_tupleAt (eqU x) pl (fun w hw=>yH rx fx r fs w (by simpa using hw)) ⟨.bl _,H,I,rfl,?_⟩;rw [show its.toArray.any (eqU x)=its.any (eqU x) by simp,DK r fs];exact q
theorem aB:vQ X (.builtin "len") (kLen X.K):=by
 intro pins s σ H xs us Q I r h;obtain ⟨p,ys,rfl,hq,q⟩:=h;obtain ⟨u,rfl,rx⟩:=vals1 r;cases rx;have hn:=yI;rcases hq with hq| hq
 ·obtain ⟨its,r',pl,hz⟩:=I.list hq;have hlen:=r'.length;exact Calls.call_len_list pl.isList (by simp only [ags]<;>omega) ⟨.int ys.length,H,I.tok _,⟨s.toks+1,by rw [ags,hlen]⟩,q⟩
 ·obtain ⟨its,r',pl,hz⟩:=I.tuple hq;have hlen:=r'.length;exact len_tuple pl (by simp only [ags]<;>omega) ⟨.int ys.length,H,I.tok _,⟨s.toks+1,by rw [ags,hlen]⟩,q⟩
theorem Jp:vQ X (.builtin "len") (fun xs H Q=>∃ z,xs=[.str z]/\z.length<=sizeLine/\Q (.int z.length) H):=by
 intro pins s σ H xs us Q I r h;obtain ⟨z,rfl,hz,q⟩:=h;obtain ⟨u,rfl,t,rfl⟩:=vals1 r;have hn:=yI;exact len_str (by omega) ⟨.int z.length,H,I.tok _,⟨_,rfl⟩,q⟩
theorem bh:vQ X (.type "list") (adE X.K):=by
 intro pins s σ H xs us Q I r h;obtain ⟨p,ys,rfl,hq,q⟩:=h;obtain ⟨u,rfl,rx⟩:=vals1 r;cases rx;have fin:∀ (its:List Value),Vals ys its->ys.length<=sizeLine->∀ (h':Heap)(c':Nat),(∀ b o',s.heap.get? b=some o'->h'.get? b=some o') ->
   h'.get? s.heap.objs.size=some { cls:=.type "list",dict:=none,data:=.seq its.toArray c',slots:=#[] }->EP X pins σ Q (.ref s.heap.objs.size) { s with heap:=h' }:=fun its r' hz h' c' kp e =>
  ⟨.ref s.heap.objs.size,_,I.laid (t':=s.toks) kp (agb _) (show gR X.prog X.w _ h' _ (.lst ys) from ⟨hz,its,c',r',e⟩),rfl,q _ (I.hok.fresh (agb _))⟩
 rcases hq with hq| hq
 ·obtain ⟨its,r',pl,hz⟩:=I.list hq;have hlen:=r'.length;obtain ⟨o,ho,hc,n,hd⟩:=pl.isList;exact call_list_seq p (.inl rfl) ho hc hd (fun h' c' kp e=>fin its r' hz h' c' kp e) (by simp only [ags]<;>omega)
 ·obtain ⟨its,r',pl,hz⟩:=I.tuple hq;have hlen:=r'.length;obtain ⟨o,ho,hc,n,hd⟩:=pl;exact call_list_seq p (.inr rfl) ho hc hd (fun h' c' kp e=>fin its r' hz h' c' kp e) (by simp only [ags]<;>omega)
theorem yO:vQ X (.type "tuple") (fun xs H Q=>∃ p ys,xs=[.ref p]/\((SqL X.K H p ys/\∀ l,H l=none->Q (.ref l) (upd H l (.tup ys)))\/(SqT X.K H p ys/\Q (.ref p) H))):=by
 intro pins s σ H xs us Q I r h;obtain ⟨p,ys,rfl,h⟩:=h;obtain ⟨u,rfl,rx⟩:=vals1 r;cases rx;rcases h with ⟨hq,q⟩ | ⟨hq,q⟩
 ·obtain ⟨its,r',pl,hz⟩:=I.list hq;have hlen:=r'.length;refine call_tuple_list pl.isList (fun h' kp=>?_) (by simp only [ags]<;>omega)
  have I1:Inv X pins σ H { s with heap:=h' }:=I.kept (t':=s.toks) kp;have I2:Inv X pins σ (upd H h'.objs.size (.tup ys)) { s with heap:=h'.push { cls:=.type "tuple",data:=.seq its.toArray } }:=
   I1.laid (t':=s.toks) (fun b o e=>agc _ e) (agb _) (show gR X.prog X.w _ _ _ (.tup ys) from ⟨hz,its,r',IsTup.new _ _⟩)
  exact ⟨.ref h'.objs.size,_,I2,rfl,q _ (I1.hok.fresh (agb _))⟩
 ·obtain ⟨its,r',pl,hz⟩:=I.tuple hq;exact call_tuple_same pl ⟨.ref p,H,I,rfl,q⟩
def tyV (K:PySem.W.Frag)(T:String)(x:V)(H:Hp):Prop:=match x with
 | .str _=>T="str"
 | .int _=>T="int"
 | .ref p=>(T="list"/\∃ xs,SqL K H p xs)\/(T="tuple"/\∃ o,K.lookup p=some o/\o.cls=.type "tuple"/\o.dict=none) \/
   (T="dict"/\((∃ kvs,H p=some (.dK kvs))\/∃ kvs,H p=some (.dT kvs)))\/(T="set"/\∃ S n,H p=some (.set S n))
 | _=>False
theorem acw {pins:List (Addr × Obj)}{σ:St}{H:Hp}{s:Shared}{T:String}{x:V}{v:Value}(I:Inv X pins σ H s)(r:RelV x v)(ty:tyV X.K T x H):
  s.TypeIs v T/\∀ a,v=.ref a->∃ ob,s.heap.get? a=some ob/\ob.dict=none:=by
 cases x with
 | str z =>
  obtain ⟨t,rfl⟩:=r;cases (show T="str" from ty);exact ⟨typeIs_str s z t,fun _ e=>nomatch e⟩
 | int i =>
  obtain ⟨t,rfl⟩:=r;cases (show T="int" from ty);exact ⟨typeIs_int s i t,fun _ e=>nomatch e⟩
 | ref p =>
  cases r;rcases ty with ⟨rfl,xs,hq⟩ | ⟨rfl,o,hk,hc,hd⟩ | ⟨rfl,hk⟩ | ⟨rfl,S,n,hk⟩
  ·obtain ⟨its,_,pl,_⟩:=I.list hq;refine ⟨pl.isList.typeIs,fun a e=>?_⟩;cases e;obtain ⟨o,n,e,c,hd,_⟩:=pl;exact ⟨o,e,hd⟩
  ·refine ⟨⟨o,I.kIn p o hk,hc⟩,fun a e=>?_⟩;cases e;exact ⟨o,I.kIn _ o hk,hd⟩
  ·have z:∃ o,s.heap.get? p=some o/\o.ExactDict:=by
    rcases hk with ⟨kvs,hk⟩ | ⟨kvs,hk⟩
    ·obtain ⟨_,_,_,_,o,_,_,e,ex,_⟩:=I.hok p _ hk;exact ⟨o,e,ex⟩
    ·obtain ⟨_,_,_,_,o,_,_,e,ex,_⟩:=I.hok p _ hk;exact ⟨o,e,ex⟩
   obtain ⟨o,e,ex⟩:=z;refine ⟨⟨o,e,ex.1⟩,fun a e2=>?_⟩;cases e2;exact ⟨o,e,ex.2.1⟩
  ·obtain ⟨o,_,_,_,e,ex,_⟩:=I.hok p _ hk;refine ⟨⟨o,e,ex.1⟩,fun a e2=>?_⟩;cases e2;exact ⟨o,e,ex.2.1⟩
 | _=>exact False.elim ty
def tBM (K:PySem.W.Frag)(T:String)(r:V->List V->Hp->VK->Prop)(to:TE)(t:TA):TE:=fun σ H Q=>to σ H fun x H1=>tyV K T x H1/\t σ H1 fun xs H2=>r x xs H2 Q
variable {o e:Expr}{es:List Expr}{to:TE}{t:TA}{name:Str}{apos cpos:Pos}{T id:String}{r:V->List V->Hp->VK->Prop}
theorem kh (pa:PlainAttrs T)(slot:Slot T name id)(hty:typeOf (.builtin id)=pure (.type "method_descriptor"))(hm:MtR X id r)(ho:PE X o to)(ha:PA X (e::es) t)
  (hbase:attributeBase o name X.env (eval o X.env)=eval o X.env:=by rfl)
  (hfew:((backTo cpos (starEach (e::es) X.env)).all (fun x=>!x.1) && (backToKw cpos (keywordEach [] X.env)).all (fun x=>x.1.isSome)
   && decide ((e::es).length+([]:List Keyword).length+(if ([]:List Keyword).isEmpty then 0 else 1)<30))=true:=by rfl)
  (hline:(apos.endLine ==cpos.line)=true:=by rfl)(hs:starEach (e::es) X.env=(false,eval e X.env)::starEach es X.env:=by rfl)(hplain:(backTo cpos (starEach es X.env)).any (·.1)=false:=by rfl):
  PE X (.Call (.Attribute o name apos) (e::es) [] cpos) (tBM X.K T r to t):=by
 intro pins s σ H Q I h
 refine wpAny_Call_method_late hbase hfew hline rfl (thn (ho pins s σ H _ I h) fun v s1 ⟨x,H1,I1,r1,ty,q1⟩=>?_)
 obtain ⟨h1,h2⟩:=acw I1 r1 ty
 refine ⟨T,id,pa,slot,hty,h1,h2,?_⟩
 have hA:=ha cpos pins s1 σ H1 _ I1 q1
 rw [hs] at hA ⊢
 refine Calls.callWith_builtin (by show (false|| (backTo cpos (starEach es X.env)).any (·.1))=false;rw [hplain]<;>rfl) (Calls.evalArgs_plain ?_)
 exact thn hA fun us s2 ⟨vs,H2,I2,r2,q2⟩=>hm pins s2 σ H2 x vs v us Q I2 r1 r2 q2
end
def MtM (X:Cx)(id:String)(r:V->List V->Hp->VK->Prop):Prop:=
 ∀ (pins:List (Addr × Obj))(s:Shared)(σ:St)(H:Hp)(x:V)(xs:List V)(v:Value)(us:List Value)(Q:VK),Inv X pins σ H s->RelV x v->Vals xs us->r x xs H Q ->
  wpAny (model X.prog X.w) X.A (call (.builtin id) (v::us)) (EP X pins σ Q) X.xe s
theorem Vals.one:∀ {x:V}{us:List Value},Vals [x] us->∃ u,us=[u]/\RelV x u
 | _,_,.cons r .nil=>⟨_,rfl,r⟩
theorem Vals.two:∀ {x y:V}{us:List Value},Vals [x,y] us->∃ u v,us=[u,v]/\RelV x u/\RelV y v
 | _,_,_,.cons r (.cons q .nil)=>⟨_,_,rfl,r,q⟩
theorem Vals.rep {xs:List V}{us:List Value}(h:Vals xs us):∀ k:Nat,Vals (List.replicate k xs).flatten (List.replicate k us).flatten
 | 0=>.nil
 | k+1=>by
  rw [agZ,agZ,ahl,ahl];exact Vals.append h (Vals.rep h k)
theorem foldl_rep (its:List Value):∀ (k:Nat)(acc:List Value),
  List.foldl (fun x1 x2=>x1++x2) acc.toArray (List.replicate k its.toArray)=(acc++(List.replicate k its).flatten).toArray
 | 0,acc=>by simp
 | k+1,acc=>by
  have e:acc.toArray++its.toArray=(acc++its).toArray:=by simp
  have e2:(acc++its)++(List.replicate k its).flatten=acc++(List.replicate (k+1) its).flatten:=by
   rw [agZ,ahl,ahJ]
  rw [<- e2,<- foldl_rep its k (acc++its),<- e,agZ,List.foldl_cons]
section
variable {X:Cx}{pins:List (Addr × Obj)}{σ:St}{H:Hp}{s:Shared}{l b:Addr}{xs ys zs:List V}
theorem Inv.afV {its its':List Value}{n:Nat}{f:Array Value->Array Value}{t':Nat}(I:Inv X pins σ H s)(hH:H l=some (.lst xs))
  (e:s.heap.get? l=some { cls:=.type "list",data:=.seq its.toArray n })(hf:f its.toArray=its'.toArray)(hv:Vals ys its')(hz:ys.length<=sizeLine):
  Inv X pins σ (upd H l (.lst ys)) { s with heap:=s.heap.update l (Obj.mapSeq f),toks:=t' }:=by
 have q:=PySem.IsL.update e f
 rw [hf] at q
 refine I.write (x:=l) (e:=l) (by rw [hH];exact trivial) (.inl rfl) (fun b' u hb hu=>(agQ s.heap (Obj.mapSeq f) (Ne.symm hb)).trans hu) ⟨_,q⟩ ?_
 exact ⟨hz,its',_,hv,q⟩
theorem Inv.afW {its:List Value}{t':Nat}(I:Inv X pins σ H s)(hv:Vals ys its)(hz:ys.length<=sizeLine):
  Inv X pins σ (upd H s.heap.objs.size (.lst ys)) { s with heap:=s.heap.push { cls:=.type "list",data:=.seq its.toArray },toks:=t' }:=
 I.laid (fun _ _ q=>agc _ q) (agb _) ⟨hz,its,0,hv,agl _ rfl⟩
theorem Inv.fresh (I:Inv X pins σ H s):H s.heap.objs.size=none:=I.hok.fresh (agb _)
theorem Inv.adw (I:Inv X pins σ H s)(hH:H l=some (.lst xs)):xs.length<=sizeLine/\∃ (its:List Value)(n:Nat),Vals xs its/\xs.length=its.length/\s.heap.get? l=some { cls:=.type "list",data:=.seq its.toArray n }:=by
 obtain ⟨z,its,n,r,e⟩:=I.hok l _ hH;exact ⟨z,its,n,r,r.length,e⟩
theorem Va {n:Nat}(h:n<=sizeLine):Builtin.List.listTooLong n=false:=by
 unfold Builtin.List.listTooLong;exact decide_eq_false (by omega)
end
section
variable {X:Cx}
inductive abl (x:V)(vs:List V)(H:Hp)(Q:VK):Prop
 | mk (l:Addr)(xs:List V)(y:V)(_:x=.ref l)(_:vs=[y])(_:H l=some (.lst xs))(_:xs.length<sizeLine)(_:Q .non (upd H l (.lst (xs++[y]))))
theorem bC:MtM X "list.append" abl:=by
 intro pins s σ H x vs v us Q I rx rv h;obtain ⟨l,xs,y,rfl,rfl,hH,hz,q⟩:=h;cases rx;obtain ⟨u,rfl,ru⟩:=rv.one;obtain ⟨z,its,n,r,hl,e⟩:=I.adw hH;refine call_meets F.slot_list_append ⟨_,e,rfl⟩ F.entry_list_append (F.args_list_append_2 _ _) (PySem.list_append l its.toArray n u (by rw [ags];omega)) ⟨e,?_⟩;refine ⟨.non,_,I.afV (its':=its++[u]) hH e (by simp) (r.append (.cons ru .nil)) ?_,rfl,q⟩;rw [agh,ahK];omega
inductive rCat (x y:V)(H:Hp)(Q:VK):Prop
 | mk (l b:Addr)(xs zs:List V)(_:x=.ref l)(_:y=.ref b)(_:H l=some (.lst xs))(_:H b=some (.lst zs))(_:xs.length+zs.length<=sizeLine)(_:∀ p,H p=none->Q (.ref p) (upd H p (.lst (xs++zs))))
theorem Cu:OpR X (binaryOp .Add) rCat:=by
 intro pins s σ H x y v u Q I rx ry h;obtain ⟨l,b,xs,zs,rfl,rfl,hH,hB,hz,q⟩:=h;cases rx;cases ry;obtain ⟨z,its,n,r,hl,e⟩:=I.adw hH;obtain ⟨z2,its2,n2,r2,hl2,e2⟩:=I.adw hB;refine PySem.P.add_list e e2 ?_ (by rw [ags,ags];omega);have ea:its.toArray++its2.toArray=(its++its2).toArray:=by simp
 rw [ea];exact ⟨.ref _,_,I.afW (t':=s.toks) (r.append r2) (by rw [agh];omega),rfl,q _ I.fresh⟩
def rRep:R2:=fun x y H Q=>∃ l k xs,x=.ref l/\y=.int k/\H l=some (.lst xs)/\-(2 ^ 63)<=k/\k<2 ^ 63/\xs.length*k.toNat<=sizeLine /\
 ∀ p,H p=none->Q (.ref p) (upd H p (.lst (List.replicate k.toNat xs).flatten))
theorem len_rep {α:Type}(xs:List α)(k:Nat):(List.replicate k xs).flatten.length=k*xs.length:=by
 induction k with
 | zero=>simp
 | succ k ih=>rw [agZ,ahl,agh,ih,Nat.succ_mul,Nat.add_comm]
theorem Cq:OpR X (binaryOp .Mult) rRep:=by
 intro pins s σ H x y v u Q I rx ry h;obtain ⟨l,k,xs,rfl,rfl,hH,h1,h2,hz,q⟩:=h;cases rx;obtain ⟨t,rfl⟩:=ry;obtain ⟨z,its,n,r,hl,e⟩:=I.adw hH;have hlen:its.toArray.size*k.toNat<=sizeLine:=by rw [ags,<- hl];exact hz
 have hcap:¬ its.toArray.size*k.toNat >(2 ^ 63 - 1) / 8:=by
  have:(sizeLine:Nat)<=(2 ^ 63 - 1) / 8:=by decide
  omega
 have hfit:¬ (!Builtin.List.listFitsIndex k)=true:=by
  rw [fitsIndex_both h1 h2];exact agi
 have hlong:¬ Builtin.List.listTooLong (its.toArray.size*k.toNat)=true:=by
  rw [Va hlen];exact agi
 have hnew:List.foldl (fun x1 x2=>x1++x2) #[] (List.replicate (if its.toArray.isEmpty=true then 0 else k.toNat) its.toArray)=(List.replicate k.toNat its).flatten.toArray:=by
  have f0:∀ m:Nat,List.foldl (fun x1 x2=>x1++x2) #[] (List.replicate m its.toArray)=(List.replicate m its).flatten.toArray:=fun m=>by
   have:=foldl_rep its m [];rw [List.nil_append] at this;exact this
  rw [f0];cases its with
  | nil=>simp
  | cons a r'=>rw [if_neg (by simp)]
 refine wpAny_binaryOp_repeat_ref (T:="list") (U:="int") (by decide) ⟨_,e,rfl⟩ (fun s'=>typeIs_int s' k t) noFill_list_mul F.fills_int_mul F.slot_int_rmul repeat_list F.slot_int_index.lookup
  (call_meets F.slot_int_rmul (typeIs_int s k t) F.entry_int_rmul (F.args_int_rmul_2 _ _) (int___rmul___int_list k t l its.toArray n)
   ⟨e,rfl,⟨_,e,rfl⟩,call_meets F.slot_list_mul ⟨_,e,rfl⟩ F.entry_list_mul (F.args_list_mul_2 _ _) (AutoListH.list___mul___list_int_3 l its.toArray n k t hfit hcap hlong) ⟨e,?_⟩⟩)
 rw [hnew];exact ⟨.ref _,_,I.afW (t':=s.toks) (r.rep k.toNat) (by rw [len_rep,Nat.mul_comm];exact hz),rfl,q _ I.fresh⟩
end
end L2
namespace Att
open PySem PySem.W PySem.Calls PyProof.Rows
theorem CV {P:Params}{h:Heap}:∀ (ns:List Int)(vs:List Value),WellAll P h vs (ns.map WData.int)->IntsAre vs ns:=by
 intro ns
 induction ns with
 | nil =>
  intro vs w;rw [ahT] at w;cases w;exact .nil
 | cons n ns ih =>
  intro vs w;rw [agH] at w;cases w with
  | cons a b =>
   cases a;exact .cons _ _ (ih _ b)
theorem QG {l:OpenLaw}{n:Nat}(hn:l.most=some n){P:Params}{h:Heap}{args:List WData}{vals:List Value}
  (hpre:l.row.toRowW.claim.pre args=true)(hwl:WellAll P h vals args):
  ∃ a vs ns,vals=[Value.ref a]/\args=[WData.list (ns.map WData.int)]/\h.get? a=some { cls:=.type "list",data:=.seq vs.toArray }/\IntsAre vs ns/\ns.length<=n:=by
 have hsh:WShape.hasAll [] args [.list .int]=true:=(pre_splitW hpre).1
 have hc:l.pre.holds [] { args:=args }=true:=(pre_splitW hpre).2
 obtain ⟨d,r,rfl,h1,h2⟩:=hasAllW_cons hsh
 obtain rfl:=hasAllW_nil h2
 obtain ⟨xs,rfl,h3⟩:=hasW_list h1
 obtain ⟨ns,rfl⟩:=items_int h3
 have hlen:ns.length<=n:=by
  unfold OpenLaw.pre at hc
  have h4:(WTm.not (.lt (.lit (.int (n:Int))) (.len (.arg 0)))).holds [] { args:=[.list (ns.map .int)] }=true:=by
   have h4:=(holds_andW hc).1
   rw [hn] at h4
   exact h4
  have h5:=condW_of h4 (w_not (w_lt w_lit (w_len_list (w_arg rfl))))
  rw [aeu] at h5
  refine Nat.le_of_not_lt fun q=>?_
  have q':(n:Int)<((ns.length:Nat):Int):=by omega
  first
   | (rw [decide_eq_true q'] at h5;exact absurd h5 (by decide))
   | (simp at h5;omega)
 cases hwl with
 | cons w1 w2 =>
  cases w2
  cases w1 with
  | list ho hall=>exact ⟨_,_,ns,rfl,rfl,ho,CV ns _ hall,hlen⟩
theorem QV (l:OpenLaw)(args:List WData):l.row.toRowW.claim.post args (.bool true) args=true:=
 postW_of (r:=l.row.toRowW) (X:=(true ==true))
  (show WShape.has [] (.bool true) .bool=true by first| rfl| decide| simp [WShape.has,WShape.arms,WShape.armsAll])
  (show (WTm.eq .res (.lit (.bool true))).value [] { args:=args,res:=some (.bool true),after:=args }=some (.bool (true ==true)) from w_eq_bool (w_res rfl) w_lit) rfl
theorem KC {l:OpenLaw}{n:Nat}{q:Program}{loose:List Str}{XP:(Str->Option Value)->Heap->Prop}{YP:World->Heap->Prop}{d:DefRec}
  (hn:l.most=some n)(hdf:d.params.defaults=[])
  (call:∀ (w:World)(s₀ s₁:Shared)(mg mb:Str->Option Value)(fa:Addr)(o:Obj)(pm cd doc:Value)(a:Addr)(vs:List Value)(ns:List Int),
   Ground q loose [] XP w s₀ mg mb s₁.heap->YP w s₁.heap ->
   s₁.heap.get? fa=some o->o.data=.func (docDef d.name d.params d.body d.scope pm cd doc)->s₁.heap.CodeRec cd d.name->mg d.name=some (.ref fa) ->
   s₁.heap.get? a=some { cls:=.type "list",data:=.seq vs.toArray }->IntsAre vs ns->ns.length<=n->s₁.gens=#[] ->
   codeAny (model l.prog w) callerA (.call (.ref fa) ⟨[.ref a],[]⟩) (fun r s'=>r=.ok (.ret (.bool true))/\OldK s₁.heap s'.heap/\s'.os=s₁.os/\AllBare s'.gens) s₁):
  WalkO q loose XP YP l.row.toRowW d [] (fun f vs=>PySem.call f vs):=by
 intro w s₀ s₁ mg mb G Y fa o pm cd doc dV kV ho hd hcd hD hmg hg args vals as hpre hlay hrd hwl hlo
 obtain rfl:dV=.none:=Dflts.none hD hdf
 obtain rfl:kV=.none:=Dflts.noKw hD
 obtain ⟨a,vs,ns,rfl,rfl,hobj,hints,hlen⟩:=QG hn hpre hwl
 refine enter_call (codeAny_mono (call w s₀ s₁ mg mb fa o pm cd doc a vs ns G Y ho (fd_plain hd) hcd hmg hobj hints hlen hg) fun r s' hq=>?_)
 obtain ⟨rfl,h2,h3,h4⟩:=hq
 exact ⟨.inl ⟨.bool true,.bool true,[],rfl,fun _=>rfl,.bool true,QV l _,fun _=>⟨List.Pairwise.nil,fun _ hm=>(nomatch hm)⟩⟩,h2,h3,h4⟩
end Att
namespace L2
open PySem PySem.Spec PyProof.Rows
theorem Hi:∀ {vs:List Value}{ns:List Int},IntsAre vs ns->Vals (ns.map V.int) vs
 | _,_,.nil=>.nil
 | _,_,.cons n t h=>.cons ⟨t,rfl⟩ (Hi h)
abbrev CX0:CXT:=fun _ _ _ _ _ _=>False
abbrev E0:XK:=fun _ _ _=>False
theorem jw {X:Cx}:Passes CX0 X E0:=fun _ _ _ _ _ _ _ h=>h.elim
structure Fun (K:PySem.W.Frag)(x qual:Str)(st:Stmt)(f:Addr)(fd:FuncData):Prop where
 ex:∃ (oc:Value)(od:Option Addr)(kV doc pm:Value)(an:Option Addr)(cdv ct:Value)(osl:Array (Option Value)),
  fd=fnOf x qual (jl st) (fV st) (ao st) .none kV doc pm an cdv ct/\K.lookup f=some ⟨oc,od,.func fd,osl⟩/\codeIn K cdv qual=true
 kp:keepIn K (.ref f)=true
variable {P:Program}{w:World}{K:PySem.W.Frag}{mg:Str->Option Value}{base:Heap}
theorem Fun.ok {x qual:Str}{st:Stmt}{f:Addr}{fd:FuncData}{N ps:List Str}{k:Nat}{sp:Sp}(F:Fun K x qual st f fd)(S:aG N ps (ao st))(len:∀ vs H Q E,sp vs H Q E->vs.length=ps.length)
  (hbody:∀ (cdv:Value)(A:Around)(outer:List Env)(s:Shared)(H:Hp)(vs:List V)(Q:VK)(E:XK),sJ k (A.deeper (envOfC qual (ao st) s.heap.objs.size f cdv))->sp vs H Q E ->
   ∃ t,PSs (SQ CX0 P w K mg base N qual (ao st) f cdv A outer s H E).nox (fV st) t/\t { nx:=fun _ H'=>Q .non H',rt:=Q } (start N vs) H):Hf P w K mg base CX0 (k+1) f fd ps sp:=by
 obtain ⟨oc,od,kV,doc,pm,an,cdv,ct,osl,rfl,lk,hcd⟩:=F.ex;refine Vq lk hcd S len fun A outer s H vs Q E hr hsp=>?_;obtain ⟨t,h,q⟩:=hbody cdv A outer s H vs Q E hr hsp;exact ⟨t,h.nox,q⟩
theorem Fun.binds {x qual:Str}{st:Stmt}{f:Addr}{fd:FuncData}{ps:List Str}(F:Fun K x qual st f fd)
  (h:∀ (kV doc pm:Value)(an:Option Addr)(cdv ct:Value)(us:List Value),us.length=ps.length->bindArgs (fnOf x qual (jl st) (fV st) (ao st) .none kV doc pm an cdv ct) ⟨us,[]⟩=pure (ps.zip us)):Binds K fd ps []:=by
 obtain ⟨oc,od,kV,doc,pm,an,cdv,ct,osl,rfl,lk,hcd⟩:=F.ex;exact .all (h kV doc pm an cdv ct)
theorem ad2 {x qual:Str}{st:Stmt}{f:Addr}{oc:Value}{od an:Option Addr}{osl:Array (Option Value)}{kV doc pm cdv ct:Value}(l:K.lookup f=some ⟨oc,od,.func (fnOf x qual (jl st) (fV st) (ao st) .none kV doc pm an cdv ct),osl⟩)
  (c:codeIn K cdv qual=true)(k:keepIn K (.ref f)=true):Fun K x qual st f (fnOf x qual (jl st) (fV st) (ao st) .none kV doc pm an cdv ct):=⟨⟨oc,od,kV,doc,pm,an,cdv,ct,osl,rfl,l,c⟩,k⟩
section
variable {X:Cx}
theorem pv (i:Nat){x:Str}{pos:Pos}(hN:X.N[i]?=some x:=by rfl)(hv:Vis X.env.scope x:=by first| exact Or.inl rfl| exact Or.inr (Or.inl rfl) | exact Or.inr (Or.inr rfl))(hd:(x ==("__debug__":Str))=false:=by decide)
  (hcd:(x ==("__classdict__":Str))=false:=by decide):PE X (.Name x pos) (ach i):=acX hN hv hd hcd
end
theorem yp {A B:Prop}(h:B):if false=true then A else B:=by
 rw [if_neg agi];exact h
theorem vP {A B:Prop}(h:A):if true=true then A else B:=by
 rw [if_pos rfl];exact h
theorem abQ {c A B:Prop} [Decidable c] (h1:c->A) (h2:¬ c->B):if c then A else B:=by
 by_cases h:c
 ·rw [if_pos h];exact h1 h
 ·rw [if_neg h];exact h2 h
theorem abP {c A B:Prop} [Decidable c] (hc:c) (h:B):if (!decide c)=true then A else B:=by
 rw [decide_eq_true hc];exact yp h
def Same (H H':Hp):Prop:=∀ b o,H b=some o->H' b=some o
theorem Same.refl (H:Hp):Same H H:=fun _ _ h=>h
theorem Same.free {H H':Hp}(e:Same H H'){l:Addr}(h:H' l=Option.none):H l=Option.none:=by
 cases q:H l with
 | none=>rfl
 | some o =>
  rw [e l o q] at h;cases h
theorem Same.seq {K:PySem.W.Frag}{H H':Hp}{a:Addr}{xs:List V}(e:Same H H')(h:SqL K H a xs):SqL K H' a xs:=by
 rcases h with (h| ⟨o,h⟩) | h
 ·exact .inl (.inl (e _ _ h))
 ·exact .inl (.inr ⟨o,e _ _ h⟩)
 ·exact .inr h
end L2
namespace L2
open PySem PySem.Spec PyProof.Rows
def clo (cells:List (Str × Addr)):List (Str × NameKind)->List (Str × Addr)->List (Str × Addr)
 | [],cs=>cs
 | (n,k)::r,cs=>clo cells r (if k == .free then (n,(cells.lookup n).getD 0)::cs else cs)
theorem S8 {env:Env}:∀ (names:List (Str × NameKind))(cs:List (Str × Addr)),(∀ y∈names,y.2=.free->∃ c,env.cells.lookup y.1=some c) ->
  (forIn names cs fun (x:Str × NameKind)(r:List (Str × Addr))=>(do
   let cs:=r
   match x with
   | (name,kind)=>
    if kind == .free then do
     let c <- cellOf env name
     let cs:=(name,c)::cs
     pure (ForInStep.yield cs)
    else pure (ForInStep.yield cs):Sem (ForInStep (List (Str × Addr)))))=pure (clo env.cells names cs)
 | [],cs,_=>rfl
 | (n,k)::r,cs,h=>by
  rw [List.forIn_cons]
  by_cases hk:k=.free
  ·subst hk
   obtain ⟨c,hc⟩:=h (n,.free) agB rfl
   have e:cellOf env n=pure c:=by unfold cellOf;rw [hc]
   simp only [beq_self_eq_true,if_true,e,pure_bind]
   rw [S8 r _ fun y hy=>h y (agv _ hy)]
   simp [clo,hc]
  ·have hb:(k ==NameKind.free)=false:=by simpa using hk
   simp only [hb,ahq,if_false,pure_bind]
   rw [S8 r _ fun y hy=>h y (agv _ hy)]
   simp [clo,hb]
theorem wu {env:Env}{scope:Scope}(h:∀ y∈scope.names,y.2=.free->∃ c,env.cells.lookup y.1=some c):closureFor scope env=pure (clo env.cells scope.names []):=by
 unfold closureFor;have e:=S8 (env:=env) scope.names [] h
 first
  | (rw [<- e];rfl)
  | (simp only [bind_pure];exact e)
  | exact e
theorem S7 {cells:List (Str × Addr)}:∀ (names:List (Str × NameKind))(cs:List (Str × Addr))(p:Str × Addr),p∈clo cells names cs->p∈cs\/p.2=(cells.lookup p.1).getD 0
 | [],_,_,h=>.inl h
 | (n,k)::r,cs,p,h=>by
  rcases S7 r _ p h with h' | h'
  ·by_cases hk:(k ==NameKind.free)=true
   ·rw [if_pos hk] at h';rcases agu.mp h' with e| e
    ·subst e;exact .inr rfl
    ·exact .inl e
   ·rw [if_neg hk] at h';exact .inl h'
  ·exact .inr h'
theorem Ni {cells:List (Str × Addr)}:∀ (names:List (Str × NameKind))(cs:List (Str × Addr))(x:Str),(cs.lookup x).isSome=true->((clo cells names cs).lookup x).isSome=true
 | [],_,_,h=>h
 | (n,k)::r,cs,x,h=>by
  refine Ni r _ x ?_;by_cases hk:(k ==NameKind.free)=true
  ·rw [if_pos hk];rw [List.lookup_cons];cases x ==n with
   | true=>rfl
   | false=>exact h
  ·rw [if_neg hk];exact h
theorem Dy {cells:List (Str × Addr)}:∀ (names:List (Str × NameKind))(cs:List (Str × Addr))(x:Str),(x,NameKind.free)∈names->((clo cells names cs).lookup x).isSome=true
 | [],_,_,h=>nomatch h
 | (n,k)::r,cs,x,h=>by
  show ((clo cells r _).lookup x).isSome=true;rcases agu.mp h with e| e
  ·have e1:x=n:=congrArg Prod.fst e;have e2:NameKind.free=k:=congrArg Prod.snd e;subst e1;subst e2;refine Ni r _ x ?_;rw [if_pos (by decide),List.lookup_cons];simp
  ·exact Dy r _ x e
theorem S6 {cells:List (Str × Addr)}{names:List (Str × NameKind)}{x:Str}{c:Addr}(h:(clo cells names []).lookup x=some c):c=(cells.lookup x).getD 0:=by
 rcases S7 names [] _ (agL h) with z| z
 ·exact nomatch z
 ·exact z
theorem G5 {cells:List (Str × Addr)}:∀ {names:List (Str × NameKind)}(cs:List (Str × Addr)){p:Str × Addr},p∈clo cells names cs->p∈cs\/(p.1,NameKind.free)∈names
 | [],_,_,h=>.inl h
 | (n,k)::r,cs,p,h=>by
  rcases G5 (names:=r) _ h with h' | h'
  ·by_cases hk:(k ==NameKind.free)=true
   ·rw [if_pos hk] at h';rcases agu.mp h' with e| e
    ·subst e;have:k=.free:=by simpa using hk
     subst this;exact .inr agB
    ·exact .inl e
   ·rw [if_neg hk] at h';exact .inl h'
  ·exact .inr (agv _ h')
def wk (X:Cx)(scope:Scope)(N:List Str)(s:Shared)(H:Hp)(ex:List Addr):Cx:=
 { X with N:=N,s₀:=s,H₀:=H,env:=compEnvC scope (clo X.env.cells scope.names []) s.heap.objs.size X.env,outer:=X.stack,stack:=X.stack,ex:=ex,fn:=fun x=>((clo X.env.cells scope.names []).lookup x).isNone,pn:=[],xe:=fun _ _=>False }
def freeOk (sc scope:Scope):Bool:=scope.names.all fun y=>(y.2 != .free) || (sc.names.lookup y.1 ==some .cell) || (sc.names.lookup y.1 ==some .free)
def J7 (scope:Scope):Bool:=(scope.kind == .function) && (scope.names.all fun y=>y.2 != .cell) && (scope.names.all fun y=>y.2 != .local|| scope.names.lookup y.1 ==some .local)
def Ky (scope:Scope)(N N':List Str)(cap:List (Option Nat)):Bool:=(cap.length ==N'.length) && (N'.zip cap).all fun p=>match p.2 with
 | none=>true
 | some j=>N[j]? ==some p.1&& scope.names.lookup p.1 ==some .free
def S9 (cap:List (Option Nat))(σ:St):St:=cap.map fun o=>o.bind fun j=>(σ[j]?).bind id
theorem wU {f:Str × NameKind->Str × NameKind}(hf:∀ y,(f y).1=y.1)(x:Str):∀ names:List (Str × NameKind),(names.map f).lookup x=(names.lookup x).map fun k=>(f (x,k)).2
 | []=>rfl
 | (n,k)::r=>by
  have ih:=wU hf x r;have e1:(f (n,k)).1=n:=hf (n,k);have e2:f (n,k)=(n,(f (n,k)).2):=Prod.ext e1 rfl;rw [agH,e2,List.lookup_cons,List.lookup_cons];cases hx:x ==n with
  | true =>
   have:x=n:=by simpa using hx
   subst this;rfl
  | false=>exact ih
def rlb (env:Env):Str × NameKind->Str × NameKind:=fun (n,k)=>if (k ==NameKind.free&& env.scope.kind == .function&& env.kindOf n ==some .cell) then (n,NameKind.cell) else (n,k)
theorem QM (env:Env)(y:Str × NameKind):(rlb env y).1=y.1:=by
 obtain ⟨n,k⟩:=y;unfold rlb;dsimp only;split <;>rfl
theorem QL (env:Env)(n:Str)(k:NameKind):(rlb env (n,k)).2=k\/((rlb env (n,k)).2=.cell/\k=.free):=by
 unfold rlb;dsimp only;split
 ·rename_i h
  rw [agD,agD] at h;exact .inr ⟨rfl,by simpa using h.1.1⟩
 ·exact .inl rfl
theorem yD (scope:Scope)(env:Env):(relabel scope env).names=scope.names.map (rlb env):=rfl
theorem Ii {scope:Scope}{env:Env}{x:Str}(h:scope.names.lookup x=some .free):(relabel scope env).names.lookup x=some .cell\/(relabel scope env).names.lookup x=some .free:=by
 rw [yD,wU (QM env),h];rcases QL env x .free with e| ⟨e,_⟩
 ·exact .inr (congrArg some e)
 ·exact .inl (congrArg some e)
theorem Ae {scope:Scope}{env:Env}{x:Str}{k':NameKind}(hk:k'=.cell\/k'=.free)(hn:∀ y∈scope.names,y.2≠.cell)(h:(relabel scope env).names.lookup x=some k'):(x,NameKind.free)∈scope.names:=by
 rw [yD,wU (QM env)] at h;cases e:scope.names.lookup x with
 | none=>rw [e] at h;cases h
 | some k =>
  rw [e] at h;have h':(rlb env (x,k)).2=k':=agz h;have hm:=agL e;rcases QL env x k with z| ⟨_,z⟩
  ·rw [z] at h';subst h';rcases hk with z2| z2
   ·exact absurd z2 (hn _ hm)
   ·rw [z2] at hm;exact hm
  ·rw [z] at hm;exact hm
def PTs (X:Cx)(ifs:List Expr)(t:TT):Prop:=
 ∀ (pins:List (Addr × Obj))(s:Shared)(σ:St)(H:Hp)(Q:Bool->Hp->Prop),Inv X pins σ H s->t σ H Q ->
  wpAny (model X.prog X.w) X.A (forIn ifs true fun c r=>if r=true then do let ok <- isTrue c X.env (eval c X.env);pure (ForInStep.yield ok) else pure (ForInStep.yield r)) (TP X pins σ Q) X.xe s
def aen:TT:=fun _ H Q=>Q true H
theorem JH {i:Nat}{x:V}{τ:St}{H:Hp}{A B:St->Hp->Prop}(h:A (τ.set i (some x)) H):R6 i x τ H fun τ4 H4=>aen τ4 H4 fun b H5=>if b=true then A τ4 H5 else B τ4 H5:=by
 show if true=true then A (τ.set i (some x)) H else B (τ.set i (some x)) H;rw [if_pos rfl];exact h
theorem eG {X:Cx}:PTs X [] aen:=fun _ _ _ H _ I h=>wpAny_tests_nil ⟨H,I,h⟩
theorem Cg {X:Cx}{c:Expr}{t:TT}(h:PT X c t):PTs X [c] t:=fun pins s σ H Q I hq=>wpAny_tests_one (h pins s σ H Q I hq)
def zZ (J:It)(acc:Addr)(g:TG)(tc:TT)(te:TE)(τ:St)(H1:Hp)(Q:Hp->Prop):Prop:=
 ∃ W:Nat->Nat->St->Hp->Prop,(∃ m,W 0 m τ (upd H1 acc (.lst [])))/\∀ i m τ H2,W i m τ H2->(J.stop i H2/\Q H2)\/(J.go i H2/\∃ N:St->Hp->Prop,(∀ τ' H',N τ' H'->∃ m',m'<m/\W (i+1) m' τ' H')/\∀ x H3,J.yld i H2 x H3->g x τ H3 fun τ4 H4 =>
  tc τ4 H4 fun b H5=>if b=true then te τ4 H5 fun y H6=>∃ ys,H6 acc=some (.lst ys)/\ys.length<sizeLine/\N τ4 (upd H6 acc (.lst (ys++[y]))) else N τ4 H5)
theorem vL {lo:Int}{n:Nat}{acc:Addr}{g:TG}{tc:TT}{te:TE}{τ:St}{H1:Hp}{Q:Hp->Prop}(Pv:Nat->St->Hp->Prop)(h0:Pv 0 τ (upd H1 acc (.lst [])))
  (hs:∀ i τ H,i<n->Pv i τ H->g (.int (lo+i)) τ H fun τ4 H4=>tc τ4 H4 fun b H5=>if b=true then te τ4 H5 fun y H6=>∃ ys,H6 acc=some (.lst ys)/\ys.length<sizeLine/\Pv (i+1) τ4 (upd H6 acc (.lst (ys++[y]))) else Pv (i+1) τ4 H5)
  (hd:∀ τ H,Pv n τ H->Q H):zZ (Itr lo n) acc g tc te τ H1 Q:=by
 refine ⟨fun i m τ H=>m=n - i/\i<=n/\Pv i τ H,⟨n,by simp,agN _,h0⟩,?_⟩
 rintro i m τ H ⟨rfl,hi,p⟩
 by_cases hlt:i<n
 ·refine .inr ⟨hlt,Pv (i+1),fun τ' H' p'=>⟨n - (i+1),by omega,rfl,hlt,p'⟩,fun x H' y=>?_⟩
  obtain ⟨e,y⟩:=y
  subst e y
  exact hs i τ _ hlt p
 ·have e:i=n:=by omega
  subst e
  exact .inl ⟨agb _,hd τ H p⟩
theorem eH {K:PySem.W.Frag}{a:Addr}{xs:List V}{acc:Addr}{g:TG}{tc:TT}{te:TE}{τ:St}{H1:Hp}{Q:Hp->Prop}(Pv:Nat->St->Hp->Prop)(h0:Pv 0 τ (upd H1 acc (.lst [])))(hl:∀ i τ H,i<=xs.length->Pv i τ H->SqL K H a xs)
  (hs:∀ i x τ H,xs[i]?=some x->Pv i τ H->g x τ H fun τ4 H4=>tc τ4 H4 fun b H5=>if b=true then te τ4 H5 fun y H6=>∃ ys,H6 acc=some (.lst ys)/\ys.length<sizeLine/\Pv (i+1) τ4 (upd H6 acc (.lst (ys++[y]))) else Pv (i+1) τ4 H5)
  (hd:∀ τ H,Pv xs.length τ H->Q H):zZ (Itl K a) acc g tc te τ H1 Q:=by
 refine ⟨fun i m τ H=>m=xs.length - i/\i<=xs.length/\Pv i τ H,⟨xs.length,by simp,agN _,h0⟩,?_⟩
 rintro i m τ H ⟨rfl,hi,p⟩
 have q:=hl i τ H hi p
 by_cases hlt:i<xs.length
 ·refine .inr ⟨⟨xs,xs[i],q,by simp [hlt]⟩,Pv (i+1),fun τ' H' p'=>⟨xs.length - (i+1),by omega,rfl,hlt,p'⟩,fun x H' y=>?_⟩
  obtain ⟨e,y⟩:=y
  subst e
  exact hs i x τ _ (y xs q) p
 ·have e:i=xs.length:=by omega
  subst e
  exact .inl ⟨⟨xs,q,agb _⟩,hd τ H p⟩
def aa5 (wi:TI)(cap:List (Option Nat))(g:TG)(tc:TT)(te:TE):TE:=fun σ H Q=>wi σ H fun J H1=>∀ acc,H1 acc=none->zZ J acc g tc te (S9 cap σ) H1 (fun H2=>Q (.ref acc) H2)
abbrev aed (ifs:List Expr)(env:Env):Sem Bool:=forIn ifs true fun c r=>if r=true then do let ok <- isTrue c env (eval c env);pure (ForInStep.yield ok) else pure (ForInStep.yield r)
abbrev wpQ {α:Type}(prog:Program)(w:World)(A:Around)(m:Sem α)(Q:α->Shared->Prop)(s:Shared):Prop:=wpAny (model prog w) A m Q (fun _ _=>False) s
theorem S5 {prog:Program}{w:World}{A:Around}{R:Result->Shared->Prop}{s:Shared}{elt target iter:Expr}{ifs:List Expr}{scope:Scope}{pos:Pos}{it acc:Value}{env:Env}(I:Nat->Shared->Prop)
  (turn:∀ k s0,I k s0->wpQ prog w A (pyNext it) (fun r s1=>(r=none/\R (.ok .next) s1)\/∃ v,r=some v /\
   wpQ prog w A (letOwnedTupleGo target it v) (fun _ s2=>wpQ prog w A (assign target env v) (fun _ s3=>wpQ prog w A (aed ifs env) (fun ok s4 =>
    (ok=false/\∃ m,m<k/\I m s4)\/(ok=true/\wpQ prog w A (eval elt env) (fun x s5=>wpQ prog w A (call (.builtin "list.append") [acc,x]) (fun _ s6=>∃ m,m<k/\I m s6) s5) s4)) s3) s2) s1) s0)
  (k:Nat)(h:I k s):codeAny (model prog w) A (.compLoop (.ListComp elt [⟨target,iter,ifs,0⟩] scope pos) 0 it acc env) R s:=by
 have quiet:∀ (e:Value)(s':Shared),False->notedBy (model prog w) A env (fun e s'=>R (.error e) s') e s':=fun _ _ z=>z.elim;apply codeAny_loop rfl I _ k h;intro k s0 start;apply wpAny_noted;rw [compTurn_list];apply wpAny_bind;apply wpAny_standAt;apply wpAny_bind;apply wpAny_mono (turn k s0 start) _ quiet;rintro r s1 (⟨rfl,stop⟩ | ⟨v,rfl,rest⟩)
 ·exact wpAny_pure stop
 apply wpAny_bind;apply wpAny_mono rest _ quiet;intro _ s2 h2;apply wpAny_bind;apply wpAny_mono h2 _ quiet;intro _ s3 h3;apply wpAny_bind;apply wpAny_mono h3 _ quiet;rintro ok s4 (⟨rfl,skip⟩ | ⟨rfl,add⟩)
 ·exact wpAny_pure ⟨rfl,skip⟩
 apply wpAny_bind;apply wpAny_bind;apply wpAny_mono add _ quiet;intro x s5 h5;apply wpAny_bind;apply wpAny_mono h5 _ quiet;intro _ s6 h6;exact wpAny_pure (wpAny_pure ⟨rfl,h6⟩)
section
variable {X:Cx}{tg iter elt:Expr}{ifs:List Expr}{scope:Scope}{pos:Pos}{wi:TI}{N':List Str}{cap:List (Option Nat)}{g:TG}{tc:TT}{te:TE}
theorem Fj {use:Option (Value->Sem Unit)}{R:Value->Shared->Prop}(sc:Scope)(hsc:X.env.scope=sc)(N₀:List Str)(hN₀:X.N=N₀)(f1:freeOk sc scope=true)(f2:J7 scope=true)(f3:Ky scope N₀ N' cap=true)(hcalm:X.calm=true)
  (hi:PI X tg iter wi)
  (hg:∀ (s:Shared)(H:Hp)(ex:List Addr),PG (wk X scope N' s H ex) tg g)
  (hc:∀ (s:Shared)(H:Hp)(ex:List Addr),PTs (wk X scope N' s H ex) ifs tc)
  (he:∀ (s:Shared)(H:Hp)(ex:List Addr),PE (wk X scope N' s H ex) elt te)
  (hs:∀ x,foldedSetIterable iter X.env x=pure x)
  {pins:List (Addr × Obj)}{s:Shared}{σ:St}{H:Hp}{Q:V->Hp->Prop}(I:Inv X pins σ H s)(h:aa5 wi cap g tc te σ H Q)
  (fin:∀ (acc C:Addr)(s':Shared)(H':Hp)(m:Str->Option Value),Inv X pins σ H' s'->s'.heap.Ns C m->H' C=none->C≠X.env.locals->X.s₀.heap.objs.size<=C->(∀ x c,X.env.cells.lookup x=some c->c≠C)->(∀ p∈X.pn++pins,p.1≠C)->Q (.ref acc) H' ->
   compPost (model X.prog X.w) X.A X.xe use R (.ref acc) C (.ok .next) s'):
  wpAny (model X.prog X.w) X.A (comprehension (.ListComp elt [⟨tg,iter,ifs,0⟩] scope pos) scope X.env (firstIterPos [⟨tg,iter,ifs,0⟩] pos) (newList []) false (firstIter [⟨tg,iter,ifs,0⟩] X.env) use) R X.xe s:=by
 have ok:=I.ok
 have fr:∀ y∈scope.names,y.2=.free->X.env.kindOf y.1=some .cell\/X.env.kindOf y.1=some .free:=fun y hy e=>by
  have q:=ag3.mp f1 y hy
  rw [e] at q
  have q':((sc.names.lookup y.1 ==some NameKind.cell) || (sc.names.lookup y.1 ==some NameKind.free))=true:=by simpa using q
  rw [Bool.or_eq_true] at q'
  unfold Env.kindOf
  rw [hsc]
  rcases q' with z| z
  ·exact .inl (by simpa using z)
  ·exact .inr (by simpa using z)
 obtain ⟨⟨k1,k2⟩,k3⟩:((scope.kind == .function)=true/\(scope.names.all fun y=>y.2 != .cell)=true)/\(scope.names.all fun y=>y.2 != .local|| scope.names.lookup y.1 ==some .local)=true:=by
  unfold J7 at f2
  rw [agD,agD] at f2
  exact f2
 have hkind:scope.kind=.function:=by simpa using k1
 have hcell:∀ y∈scope.names,y.2≠.cell:=fun y hy=>by
  have q:=ag3.mp k2 y hy
  simpa using q
 have hnames:∀ y∈scope.names,y.2=.local->scope.names.lookup y.1=some .local:=fun y hy e=>by
  have q:=ag3.mp k3 y hy
  rw [e] at q
  simpa using q
 have hclos:closureFor scope X.env=pure (clo X.env.cells scope.names []):=wu fun y hy e=>ok.has y.1 (fr y hy e)
 have clX:∀ x c,(clo X.env.cells scope.names []).lookup x=some c->X.env.cells.lookup x=some c:=fun x c e=>by
  have e1:=S6 e
  have hx:(x,NameKind.free)∈scope.names:=by
   rcases G5 [] (agL e) with z| z
   ·exact nomatch z
   ·exact z
  obtain ⟨c',e2⟩:=ok.has x (fr (x,.free) hx rfl)
  rw [e2] at e1 ⊢
  rw [e1];rfl
 refine wpAny_comprehension_free (use:=use) rfl hs hclos hkind hnames ?_
 show wpAny (model X.prog X.w) X.A (eval iter X.env) _ X.xe s
 refine thn (hi pins s σ H _ I h) fun v s1 h1=>thn h1 fun itv s2 h2=>?_
 obtain ⟨it,fp,tn,J,H2,e,I2,T,st2,f2',h3⟩:=h2
 subst e
 refine wpAny_newObj_type ?_
 have fresh2:H2 s2.heap.objs.size=none:=I2.hok.fresh (agb _)
 have I3:Inv X pins σ (upd H2 s2.heap.objs.size (.lst [])) { s2 with heap:=s2.heap.push { cls:=.type "list",data:=.seq ([]:List Value).toArray } }:=
  I2.laid (t':=s2.toks) (fun b o e=>agc _ e) (agb _) ⟨agN _,[],0,.nil,agl _ rfl⟩
 have st3:tn 0 (s2.heap.push { cls:=.type "list",data:=.seq ([]:List Value).toArray }):=T.keep _ _ _ st2 fun b _ o e=>agc _ e
 have fpne:∀ b∈fp,b≠s2.heap.objs.size:=fun b hb z=>by
  obtain ⟨o,eo,_⟩:=T.obj 0 _ st2 b hb
  exact absurd (agr eo) (by rw [z];exact ahb _)
 have fp3:∀ b∈fp,JL X pins (upd H2 s2.heap.objs.size (.lst [])) b:=fun b hb=>by
  obtain ⟨a0,a1⟩:=f2' b hb
  exact ⟨by rw [aN (fpne b hb)];exact a0,a1⟩
 obtain ⟨W,⟨m0,w0⟩,turn⟩:=h3 s2.heap.objs.size fresh2
 generalize hacc:s2.heap.objs.size=acc at I3 fp3 w0 turn fpne ⊢
 generalize hs3:({ s2 with heap:=s2.heap.push { cls:=.type "list",data:=.seq ([]:List Value).toArray } }:Shared)=s3 at I3 ⊢
 have st3:tn 0 s3.heap:=by rw [<- hs3];exact st3
 have accTr:(upd H2 acc (.lst [])) acc=some (.lst []):=aO
 refine wpAny_newFunctionEnv hcell (by intro y hy;cases hy) (fun h4 hns hsb=>?_) hkind
 have hCf:s3.heap.get? s3.heap.objs.size=none:=Heap.get?_none_of_le (agb _)
 have kp4:∀ b o,s3.heap.get? b=some o->h4.get? b=some o:=fun b o e=>hsb.extBut b o (agM (agr e)) (agc _ e)
 let Y:Cx:=wk X scope N' s3 (upd H2 acc (.lst [])) fp
 have envY:Y.env=compEnvC scope (clo X.env.cells scope.names []) s3.heap.objs.size X.env:=rfl
 have okY:Y.Ok:=by
  refine ⟨ok.mod,?_,ok.glob,ok.blt,agb _,?_,?_,?_,ok.hd,ok.frames,.inl rfl,?_,?_,?_,?_,?_,?_,?_⟩
  ·show (relabel scope X.env).kind=.function
   exact hkind
  ·exact fun x y c h1 h2=>ok.inj x y c (clX x c h1) (clX y c h2)
  ·intro x hx
   have hx':(relabel scope X.env).names.lookup x=some .cell\/(relabel scope X.env).names.lookup x=some .free:=hx
   have hm:(x,NameKind.free)∈scope.names:=by
    rcases hx' with z| z
    ·exact Ae (.inl rfl) hcell z
    ·exact Ae (.inr rfl) hcell z
   exact ahv.mp (Dy scope.names [] x hm)
  ·intro x c hx h1
   have hx':((clo X.env.cells scope.names []).lookup x).isNone=true:=hx
   have h1':(clo X.env.cells scope.names []).lookup x=some c:=h1
   rw [h1'] at hx';cases hx'
  ·intro b hb
   obtain ⟨q0,q1,q2,q3,q4,q5⟩:=fp3 b hb
   refine ⟨?_,fun x c h1=>q4 x c (clX x c h1)⟩
   obtain ⟨o,eo,_⟩:=T.obj 0 _ st3 b hb
   exact agM (agr eo)
  ·exact fun b o e=>I3.bs b o e
  ·exact agS ok.bsz I3.sz
  ·intro b o e hb
   obtain ⟨q0,q1,q2,q3,q4,q5⟩:=fp3 b hb
   rcases q3 with z| z
   ·exact ok.noex b o e z
   ·exact absurd (agI (agr e) (agS ok.bsz z)) (ahb _)
  ·intro b hb hf
   obtain ⟨q0,q1,q2,q3,q4,q5⟩:=fp3 b hb
   rcases agu.mp (I3.Qd b hf) with z| z
   ·exact q1 z
   ·exact q2 z
  ·exact I3.stack
  ·exact I3.FT
 have capl:cap.length=N'.length/\∀ p∈N'.zip cap,(match p.2 with| none=>true| some j=>N₀[j]? ==some p.1&& scope.names.lookup p.1 ==some .free)=true:=by
  unfold Ky at f3
  rw [agD] at f3
  exact ⟨by simpa using f3.1,fun p hp=>ag3.mp f3.2 p hp⟩
 have IY:Inv Y [] (S9 cap σ) (upd H2 acc (.lst [])) { s3 with heap:=h4,toks:=s3.toks+([]:List (Str × Value)).length }:=by
  refine ⟨okY,rfl,I3.bare,Un.kept kp4,⟨_,hns,?_⟩,?_,?_,?_,fun p hp=>absurd (show p∈([]:List (Addr × Obj)) from hp) (by simp),I3.hok.kept kp4,?_⟩
  ·intro i x v e1 e2 e3
   have e1':N'[i]?=some x:=e1
   unfold S9 at e2
   rw [agg] at e2
   cases ec:cap[i]? with
   | none=>rw [ec] at e2;cases e2
   | some o =>
    rw [ec] at e2
    cases o with
    | none=>cases e2
    | some j =>
     have e2':(σ[j]?).bind id=some v:=by simpa using e2
     have hz:(x,some j)∈N'.zip cap:=by
      refine agd (i:=i) ?_
      rw [ahQ]
      exact ⟨e1',ec⟩
     have q:=capl.2 _ hz
     have q':(N₀[j]? ==some x)=true/\(scope.names.lookup x ==some NameKind.free)=true:=by simpa [agD] using q
     have q1:X.N[j]?=some x:=by rw [hN₀];simpa using q'.1
     have q2:scope.names.lookup x=some .free:=by simpa using q'.2
     have eσ:σ[j]?=some (some v):=by
      cases z:σ[j]? with
      | none=>rw [z] at e2';cases e2'
      | some y =>
       rw [z] at e2'
       have:y=some v:=e2'
       rw [this]
     have hk:=fr (x,.free) (agL q2) rfl
     obtain ⟨m,hn,hl⟩:=I3.loc
     have vis:Vis X.env.scope x:=by
      rcases hk with z| z
      ·exact .inr (.inl z)
      ·exact .inr (.inr z)
     obtain ⟨u,r,l⟩:=hl j x v q1 eσ vis
     refine ⟨u,r,.inr ⟨?_,?_⟩⟩
     ·rcases Ii (scope:=scope) (env:=X.env) q2 with z| z
      ·exact .inl z
      ·exact .inr z
     ·rcases l with ⟨kl,_⟩ | ⟨_,c,ecx,hcx⟩
      ·rcases hk with z| z
       ·have z':X.env.kindOf x=some .cell:=z
        rw [kl] at z';cases z'
       ·have z':X.env.kindOf x=some .free:=z
        rw [kl] at z';cases z'
      ·have hh:=Dy (cells:=X.env.cells) scope.names [] x (agL q2)
       obtain ⟨c',ec'⟩:=ahv.mp hh
       have ec2:=clX x c' ec'
       rw [ecx] at ec2
       cases ec2
       exact ⟨c,ec',hcx.keeps kp4⟩
  ·intro x c e
   obtain ⟨v,z⟩:=I3.cell x c (clX x c e)
   exact ⟨v,z.keeps kp4⟩
  ·exact I3.hok.fresh (agb _)
  ·exact fun x c e=>I3.freeC x c (clX x c e)
  ·show (S9 cap σ).length=N'.length
   unfold S9
   rw [aeu];exact capl.1
 have fpY:∀ {H':Hp},(∀ b∈fp,H' b=none)->∀ b∈fp,JL Y [] H' b:=fun {H'} hn b hb=>by
  obtain ⟨q0,q1,q2,q3,q4,q5⟩:=fp3 b hb
  refine ⟨hn b hb,(okY.exf b hb).1,okY.exfs b hb,.inl hb,(okY.exf b hb).2,fun p hp=>absurd (show p∈([]:List (Addr × Obj)) from hp) (by simp)⟩
 have st4:tn 0 h4:=T.keep _ _ _ st3 fun b _ o e=>kp4 b o e
 have back:∀ {τ:St}{H':Hp}{s':Shared},Inv Y [] τ H' s'->Q (.ref acc) H'->compPost (model X.prog X.w) X.A X.xe use R (.ref acc) s3.heap.objs.size (.ok .next) s':=fun {τ H' s'} J q=>by
  have un:Un (frs X.stack) fp (upd H2 acc (.lst [])) H' s3.heap s'.heap:=J.base
  have IX:Inv X pins σ H' s':=I3.call' (J.os) un J.hok J.bare fun b hb=>by
   obtain ⟨q0,q1,q2,q3,q4,q5⟩:=fp3 b hb
   exact ⟨q3,q1,q4,q5⟩
  obtain ⟨m,hn,_⟩:=J.loc
  refine fin acc s3.heap.objs.size s' H' m IX hn J.free (Nat.ne_of_gt I3.lt) I3.sz (fun x c e z=>?_) (fun p hp z=>?_) q
  ·obtain ⟨v,q⟩:=I3.cell x c e
   exact absurd q.lt (by rw [z];exact ahb _)
  ·exact absurd (agr (I3.pin p hp).1) (by rw [z];exact ahb _)
 have loop:∀ s5:Shared,s5={ s3 with heap:=h4,toks:=s3.toks+([]:List (Str × Value)).length } ->
   codeAny (model X.prog X.w) X.A (.compLoop (.ListComp elt [⟨tg,iter,ifs,0⟩] scope pos) 0 (.ref it) (.ref acc) Y.env) (compPost (model X.prog X.w) X.A X.xe use R (.ref acc) s3.heap.objs.size) s5:=by
  rintro s5 rfl
  refine S5 (fun n s'=>∃ i τ H',Inv Y [] τ H' s'/\tn i s'.heap/\(∀ b∈fp,H' b=none)/\W i n τ H') ?_ m0 ⟨0,_,_,IY,st4,fun b hb=>(fp3 b hb).1,w0⟩
  rintro n s6 ⟨i,τ,H6,I6,st6,fr6,w6⟩
  rcases turn i n τ H6 w6 with ⟨stop,q⟩ | ⟨go,N,hN,step⟩
  ·refine wpAny_mono (T.done Y rfl rfl rfl hcalm i [] s6 τ H6 (fun _ _=>False) I6 (fpY fr6) st6 stop) (fun r s7 ⟨hr,I7⟩=>?_) fun _ _ z=>z.elim
   exact .inl ⟨hr,back I7 q⟩
  ·refine wpAny_mono (T.item Y rfl rfl rfl hcalm i [] s6 τ H6 (fun _ _=>False) I6 (fpY fr6) st6 go) (fun r s6b ⟨u,hr,h7⟩=>?_) fun _ _ z=>z.elim
   refine .inr ⟨u,hr,?_⟩
   refine wpAny_mono h7 (fun _ s7 ⟨x,H7,I7,r7,y7,st7,fr7⟩=>?_) fun _ _ z=>z.elim
   have I7':=I7.pinned (fpY fr7) (T.obj _ _ st7)
   have again:∀ {τ8:St}{H8:Hp}{s8:Shared},Inv Y ([]++Im fp s7.heap) τ8 H8 s8->N τ8 H8->∃ m,m<n/\∃ i τ H',Inv Y [] τ H' s8/\tn i s8.heap/\(∀ b∈fp,H' b=none)/\W i m τ H':=fun {τ8 H8 s8} I8 n8=>by
    obtain ⟨m',hm,w8⟩:=hN τ8 H8 n8
    refine ⟨m',hm,i+1,τ8,H8,I8.mC,T.keep _ _ _ st7 fun b hb o e=>(I8.pin (b,o) (agf _ (agf _ (vH hb e)))).1,fun b hb=>?_,w8⟩
    obtain ⟨o,e,d⟩:=T.obj _ _ st7 b hb
    exact (I8.pin (b,o) (agf _ (agf _ (vH hb e)))).2.1
   refine wpAny_mono (hg s3 (upd H2 acc (.lst [])) fp _ s7 τ H7 x u _ I7' r7 (step x H7 y7)) (fun _ s8 ⟨τ8,H8,I8,q8⟩=>?_) fun _ _ z=>z.elim
   refine wpAny_mono (hc s3 (upd H2 acc (.lst [])) fp _ s8 τ8 H8 _ I8 q8) (fun b s9 ⟨H9,I9,q9⟩=>?_) fun _ _ z=>z.elim
   cases b with
   | false =>
    rw [if_neg agi] at q9
    exact .inl ⟨rfl,again I9 q9⟩
   | true =>
    rw [if_pos rfl] at q9
    refine .inr ⟨rfl,?_⟩
    refine wpAny_mono (he s3 (upd H2 acc (.lst [])) fp _ s9 τ8 H9 _ I9 q9) (fun y s10 ⟨yv,H10,I10,r10,ys,hl,hz,q10⟩=>?_) fun _ _ z=>z.elim
    refine wpAny_mono (bC (X:=Y) _ s10 τ8 H10 (.ref acc) [yv] (.ref acc) [y] (fun v H'=>N τ8 H') I10 rfl (.cons r10 .nil) ⟨acc,ys,yv,rfl,rfl,hl,hz,q10⟩) (fun v s11 ⟨vv,H11,I11,r11,q11⟩=>?_) fun _ _ z=>z.elim
    exact again I11 q11
 exact codeAny_compStart_list (loop _ rfl) (T.self _ _ _ _ _ st4 (loop _ rfl))
theorem fM (sc:Scope)(hsc:X.env.scope=sc)(N₀:List Str)(hN₀:X.N=N₀)(N':List Str)(cap:List (Option Nat))(f1:freeOk sc scope=true)(f2:J7 scope=true)(f3:Ky scope N₀ N' cap=true)(hcalm:X.calm=true)
  (hi:PI X tg iter wi)
  (hg:∀ (s:Shared)(H:Hp)(ex:List Addr),PG (wk X scope N' s H ex) tg g)
  (hc:∀ (s:Shared)(H:Hp)(ex:List Addr),PTs (wk X scope N' s H ex) ifs tc)
  (he:∀ (s:Shared)(H:Hp)(ex:List Addr),PE (wk X scope N' s H ex) elt te)
  (hs:∀ x,foldedSetIterable iter X.env x=pure x:=by intro _;rfl):
  PE X (.ListComp elt [⟨tg,iter,ifs,0⟩] scope pos) (aa5 wi cap g tc te):=by
 intro pins s σ H Q I h
 rw [eval_ListComp]
 refine Fj (use:=none) sc hsc N₀ hN₀ f1 f2 f3 hcalm hi hg hc he hs I h ?_
 intro acc C s' H' m IX hn hC h1 h2 h3 h4 q
 refine ⟨m,hn,fun h'' hs''=>?_⟩
 exact ⟨.ref acc,H',IX.turned (t':=s'.toks) (fun b o hb e=>(hs''.2 b hb).trans e) hC h1 (.inr h2) h3 h4,rfl,q⟩
theorem kO {i:Nat}{x:Str}{pos' spos:Pos}(sc:Scope)(hsc:X.env.scope=sc)(N₀:List Str)(hN₀:X.N=N₀)(N':List Str)(cap:List (Option Nat))(f1:freeOk sc scope=true)(f2:J7 scope=true)(f3:Ky scope N₀ N' cap=true)(hcalm:X.calm=true)
  (hnd:X.N.Nodup)(hix:X.N[i]?=some x)(hx:X.env.scope.names.lookup x=some .local)
  (hi:PI X tg iter wi)
  (hg:∀ (s:Shared)(H:Hp)(ex:List Addr),PG (wk X scope N' s H ex) tg g)
  (hc:∀ (s:Shared)(H:Hp)(ex:List Addr),PTs (wk X scope N' s H ex) ifs tc)
  (he:∀ (s:Shared)(H:Hp)(ex:List Addr),PE (wk X scope N' s H ex) elt te)
  (hsw:swapsWith (.ListComp elt [⟨tg,iter,ifs,0⟩] scope pos) (some (.Name x pos')) spos.line X.env=pure true)
  (hs:∀ x,foldedSetIterable iter X.env x=pure x:=by intro _;rfl):
  PS X (.Assign [.Name x pos'] (.ListComp elt [⟨tg,iter,ifs,0⟩] scope pos) spos) (aeN (aa5 wi cap g tc te) (R6 i)):=by
 intro pins s σ H D I h
 rw [exec_Assign_Name_used _ _ _ _ hsw]
 refine wpAny_bind (wpAny_standAt (wpAny_bind ?_))
 show wpAny _ X.A (do let _ <- comprehension (.ListComp elt [⟨tg,iter,ifs,0⟩] scope pos) scope X.env _ (newList []) false (firstIter [⟨tg,iter,ifs,0⟩] X.env) (some (assign (.Name x pos') X.env))) _ _ s
 refine wpAny_bind (wpAny_mono (Fj (use:=some (assign (.Name x pos') X.env)) (R:=fun _ s'=>SP X pins D .next s') sc hsc N₀ hN₀ f1 f2 f3 hcalm hi hg hc he hs I h ?_) (fun _ s' hq=>wpAny_pure (wpAny_pure hq)) fun _ _ e=>e)
 intro acc C s' H' m IX hn hC h1 h2 h3 h4 q
 show wpAny _ X.A (assign (.Name x pos') X.env (.ref acc)) _ _ _
 refine wpAny_assign_Name (Ht (v:=.ref acc) IX hnd hix (.inl hx) rfl (fun s2 I2 hsb=>?_) (.inr hx))
 obtain ⟨a,sb,ha⟩:=hsb
 have hCa:C≠a:=by
  rcases ha with z| z
  ·rw [z];exact h1
  ·exact fun w=>h3 x a z w.symm
 refine ⟨m,hn.sameBut sb hCa,fun h'' hs''=>?_⟩
 exact ⟨_,H',I2.turned (t':=s2.toks) (fun b o hb e=>(hs''.2 b hb).trans e) hC h1 (.inr h2) h3 h4,q⟩
end
section
variable {X:Cx}
def ae1 (K:PySem.W.Frag):V->V->Hp->VK->Prop:=fun x y H Q=>∃ p xs j v,x=.ref p/\y=.int (j:Nat)/\SqL K H p xs/\xs[j]?=some v/\Q v H
theorem qD:af6 X (ae1 X.K):=by
 intro pins s σ H o i ov iv Q I ro ri h;obtain ⟨p,xs,j,z,rfl,rfl,hq,he,q⟩:=h;cases ro;obtain ⟨t,rfl⟩:=ri;obtain ⟨its,r,pl,hz⟩:=I.list hq;obtain ⟨w,ew,rw'⟩:=r.get he;have hl:=r.length;have hn:=yI;have hj:j<xs.length:=(af4.mp he).1;exact wpAny_getItem_list pl.isList (by omega) (by omega) (by rw [agm];simpa using ew) ⟨z,H,I,rw',q⟩
theorem Vals.afp {xs:List V}{us:List Value}{y:V}{u:Value}(r:Vals xs us)(ru:RelV y u)(k:Nat):Vals (xs.take k++y::xs.drop k) (us.take k++u::us.drop k):=Vals.append (r.take k) (.cons ru (r.drop k))
theorem adG (its:List Value)(y:Value)(k:Nat):(its.toArray.extract 0 k).push y++its.toArray.extract k=(its.take k++y::its.drop k).toArray:=by
  apply Array.toList_inj.mp
  first
    | (simp;done)
    | (simp [agq];done)
    | (simp
       exact agq (by simp))
def abk:V->List V->Hp->VK->Prop:=fun x vs H Q=>∃ (l:Addr)(xs:List V)(y:V)(i:Int),x=.ref l/\vs=[.int i,y]/\H l=some (.lst xs)/\0<=i/\i<=xs.length/\xs.length<sizeLine/\Q .non (upd H l (.lst (xs.take i.toNat++y::xs.drop i.toNat)))
theorem Rn:MtM X "list.insert" abk:=by
 intro pins s σ H x vs v us Q I rx rv h;obtain ⟨l,xs,y,i,rfl,rfl,hH,h0,hk,hz,q⟩:=h;cases rx;obtain ⟨u,w,rfl,ru,rw'⟩:=rv.two;obtain ⟨t,rfl⟩:=ru;obtain ⟨z,its,n,r,hl,e⟩:=I.adw hH;have hn:=yI;have hf1:¬ (!Builtin.List.listFitsIndex i)=true:=by
  rw [fitsIndex_both (by omega) (by omega)];exact agi
 have hf2:its.toArray.size<=sizeLine:=by rw [ags];omega
 refine call_meets F.slot_list_insert ⟨_,e,rfl⟩ F.entry_list_insert (F.args_list_insert_3 _ _ _) (AutoSeq1.list_insert_list_int_val_1 l its.toArray n i t w hf1 hf2) ⟨e,?_⟩;refine ⟨.non,_,I.afV (its':=its.take i.toNat++w::its.drop i.toNat) hH e ?_ (r.afp rw' i.toNat) ?_,rfl,q⟩
 ·show (its.toArray.extract 0 (if i<0 then (i+(its.toArray.size:Int)).toNat else min i.toNat its.toArray.size)).push w++its.toArray.extract (if i<0 then (i+(its.toArray.size:Int)).toNat else min i.toNat its.toArray.size)=_;have e1:(if i<0 then (i+(its.toArray.size:Int)).toNat else min i.toNat its.toArray.size)=i.toNat:=by
   rw [if_neg (by omega),ags];omega
  rw [e1];exact adG its w i.toNat
 ·rw [agh,agx,agt,ag9];omega
def rEqL (K:PySem.W.Frag)(neg:Bool):R2:=fun x y H Q=>∃ (a b:Addr)(ns ms:List Int),x=.ref a/\y=.ref b/\SqL K H a (ns.map V.int)/\SqL K H b (ms.map V.int)/\Q (.bl (if neg then !decide (ns=ms) else decide (ns=ms))) H
theorem u9:vQ X (.builtin "isinstance") (fun xs H Q=>∃ x t c b,xs=[x,.ref c]/\Np X.K H x t/\kitOne X.K t (.ref c)=some b/\Q (.bl b) H):=by
 intro pins s σ H xs us Q I r h;obtain ⟨x,t,c,b,rfl,ty,e,q⟩:=h;obtain ⟨u,w,rfl,ru,rw'⟩:=vals2 r;obtain rfl:w=Value.ref c:=rw';exact RK I ru ty e fun tk=>⟨.bl b,H,I.tok tk,rfl,q⟩
theorem Og:∀ (bs:List Bool),((List.range bs.length).all fun i=>(bs[i]?).getD true)=bs.all id:=by
 intro bs;rw [ag6];simp only [ag3,agK,id_eq];constructor
 ·intro h b hb;obtain ⟨i,hi,e⟩:=aha hb;have:=h i hi;rw [af9 hi,e] at this;exact this
 ·intro h i hi;rw [af9 hi];exact h _ (ahd hi)
theorem rA (hc:X.calm=true):vQ X (.builtin "all") (fun xs H Q=>∃ (p:Addr)(bs:List Bool),xs=[.ref p]/\SqL X.K H p (bs.map V.bl)/\Q (.bl (bs.all id)) H):=by
 intro pins s σ H xs us Q I r h;obtain ⟨p,bs,rfl,hq,q⟩:=h;obtain ⟨u,rfl,ru⟩:=vals1 r;cases ru;obtain ⟨its,r1,p1,hz⟩:=I.list hq;have hl:=p1.isList;have hlt:p<s.heap.objs.size:=p1.lt;have hlen:=r1.length;rw [aeu] at hlen;refine call_all_walk (wpAny_pyIter_list hl ?_);refine ⟨s.heap.objs.size,[s.heap.objs.size,p],[s.heap.objs.size],its.toArray.size,_,_,fun i=>(bs[i]?).getD true,rfl,Walks.list (A:=X.A.in1) (I.ok.hd hc) _ p (agM hlt) its.toArray,
  ⟨⟨_,agl _ rfl,rfl,rfl⟩,hl.push _⟩,fun i v s' Q' E' hP hQ=>?_,fun h' tk hk=>?_⟩
 ·have hP':its[i]?=some v:=by simpa using hP
  have hi:i<bs.length:=by
   have:=(af4.mp hP').1;omega
  obtain ⟨u,eu,ru⟩:=r1.get (x:=.bl bs[i]) (by rw [agg,af9 hi];rfl);rw [hP'] at eu;cases eu;cases ru;dsimp only at hQ;rw [af9 hi] at hQ;exact wpAny_truthy_bool hQ
 ·have e:((List.range its.toArray.size).all fun i=>(bs[i]?).getD true)=bs.all id:=by
   rw [ags,<- hlen];exact Og bs
  rw [e];refine ⟨.bl _,H,I.kept fun b o eo=>hk b o (fun hm=>?_) (agc _ eo),rfl,q⟩;rw [agE.mp hm] at eo;exact ahb _ (agr eo)
end
section
variable {X:Cx}{st:Stmt}{rest:List Stmt}{t u:TS}
def aeE (t u:TS):TS:=fun D σ H=>∃ M:St->Hp->Prop,t { D with nx:=M } σ H/\∀ σ' H',M σ' H'->u D σ' H'
theorem Ik (h1:PS X st t)(h2:PSs X rest u):PSs X (st::rest) (aeE t u):=by
 intro pins s σ H D I h;obtain ⟨M,ha,hb⟩:=h;refine wpAny_execs_cons (thn (h1 pins s σ H { D with nx:=M } I ha) fun f s1 q=>?_);cases f with
 | next =>
  obtain ⟨σ',H',I',q⟩:=q;exact h2 pins s1 σ' H' D I' (hb σ' H' q)
 | ret v=>exact q
 | brk=>exact q
 | cont=>exact q
end
def acq (H:Hp)(P:List V->Prop)(Q:VK):Prop:=∀ (l:Addr)(H':Hp)(xs:List V),Same H H'->H l=none->H' l=some (.lst xs)->P xs->Q (.ref l) H'
structure Df (K:PySem.W.Frag)(mg:Str->Option Value)(x:Str)(st:Stmt)(ps:List Str)(a:Addr)(fd:FuncData):Prop where
 F:Fun K x x st a fd
 b:Binds K fd ps []
 m:mg x=some (.ref a)
theorem Same.upd {H H':Hp}{l:Addr}{o:HO}(s:Same H H')(h:H l=none):Same H (L2.upd H' l o):=fun b u e=>by
 rw [aN (aY e h)];exact s b u e
theorem ints_get {ns:List Int}{i:Nat}{y:V}(h:(ns.map V.int)[i]?=some y):∃ z,ns[i]?=some z/\y=V.int z:=by
 rw [agg] at h;cases e:ns[i]? with
 | none=>rw [e] at h;cases h
 | some z=>rw [e] at h;exact ⟨z,rfl,(agz h).symm⟩
theorem cu {ns:List Int}{i:Nat}{z:Int}(h:ns[i]?=some z):atI (ns.map V.int) (i:Int)=some (V.int z):=dU (by rw [agg,h];rfl)
theorem qC {ns:List Int}{i:Int}{z:Int}(h0:0<=i)(h:ns[i.toNat]?=some z):atI (ns.map V.int) i=some (V.int z):=by
 obtain ⟨k,rfl⟩:=agA h0;exact cu (by simpa using h)
theorem gZ {n j:Nat}(h:j<n):ixN n (j:Int)=some j:=by
 unfold ixN;rw [if_pos (by omega),if_pos (by omega)];simp
theorem J3 {α:Type}(n:Nat)(x:α):(List.replicate n [x]).flatten=List.replicate n x:=by
 induction n with
 | zero=>rfl
 | succ n ih=>rw [agZ,ahl,ih,agZ];rfl
theorem jL {n:Nat}(h:n<=100000):n<=sizeLine:=agS h (by decide)
theorem aH {n:Nat}(h:n<=100000):n<sizeLine:=Nat.lt_of_le_of_lt h (by decide)
structure Blt (mg:Str->Option Value):Prop where
 len:mg "len"=none
 range:mg "range"=none
 list:mg "list"=none
 isinstance:mg "isinstance"=none
 bool:mg "bool"=none
 int:mg "int"=none
 all:mg "all"=none
 min:mg "min"=none
 max:mg "max"=none
 sum:mg "sum"=none
 sorted:mg "sorted"=none
 zip:mg "zip"=none
 tuple:mg "tuple"=none
 str:mg "str"=none
 any:mg "any"=none
 enumerate:mg "enumerate"=none
 reversed:mg "reversed"=none
 abs:mg "abs"=none
 ValueError:mg "ValueError"=none
 set:mg "set"=none
structure Mth (mg:Str->Option Value):Prop where
 MOUTH:∃ t,mg "MOUTH"=some (.int (-1) t)
section
variable {X:Cx}{K:PySem.W.Frag}
theorem ji (h:X.K=K):IxR X (ae0 K):=h ▸ aU
theorem yQ (h:X.K=K):vQ X (.builtin "len") (kLen K):=h ▸ aB
theorem Gs (h:X.K=K):OpR X (compareOp .NotIn) (rIn K true):=h ▸ Ag
end
end L2
namespace L2
open PySem PySem.W PyProof.Rows
structure Arr (N:Nat)(p:Array Nat):Prop where
 size:p.size=N
 perm:p.toList.Perm (List.range N)
theorem Arr.start (N:Nat):Arr N (List.toArray (List.range N)):=⟨by simp,by simp⟩
theorem Arr.nd {N:Nat}{p:Array Nat}(h:Arr N p):p.toList.Nodup:=h.perm.nodup_iff.mpr List.nodup_range
theorem Arr.get {N:Nat}{p:Array Nat}(h:Arr N p){i:Nat}(hi:i<N):p.toList[i]?=some (p.getD i 0):=by
 have hi':i<p.size:=by rw [h.size];exact hi
 simp [Array.getD,hi']
theorem Arr.lt {N:Nat}{p:Array Nat}(h:Arr N p){i:Nat}(hi:i<N):p.getD i 0<N:=by
 have:=h.perm.mem_iff.mp (agd (h.get hi));exact agK.mp this
theorem Arr.ne {N:Nat}{p:Array Nat}(h:Arr N p){i j:Nat}(hi:i<N)(hj:j<N)(hij:i≠j):p.getD i 0≠p.getD j 0:=by
 intro e;obtain ⟨a1,a2⟩:=af4.mp (h.get hi);obtain ⟨b1,b2⟩:=af4.mp (h.get hj);exact hij ((ahy h.nd).mp (by rw [a2,b2,e]))
theorem Arr.Rj {N:Nat}{p q:Array Nat}(h:Arr N p)(hs:q.size=p.size)(hp:q.Perm p):Arr N q:=⟨hs.trans h.size,(Array.perm_iff_toList_perm.mp hp).trans h.perm⟩
theorem Arr.rev {N:Nat}{p:Array Nat}(h:Arr N p)(i j:Nat):Arr N (kas_rev p i j):=h.Rj (mirror_size _ _ _ _) (mirror_perm _ _ _ _)
theorem Arr.bub {N:Nat}{p:Array Nat}(h:Arr N p)(k d:Nat):Arr N (bubble p k d):=h.Rj (bubble_size _ _ _) (bubble_perm _ _ _)
theorem Gz {p q:Array Nat}{i j:Nat}(h:p[i]?=q[j]?):p.getD i 0=q.getD j 0:=by
 rw [Array.getD_eq_getD_getElem?,Array.getD_eq_getD_getElem?,h]
theorem QS {N:Nat}{p:Array Nat}(h:Arr N p){n k:Nat}(hn:n<=N)(hk:k<n):(kas_rev p 0 n).getD k 0=p.getD (n - 1 - k) 0:=by
 refine Gz ?_;unfold kas_rev;rw [getElem?_mirror (by rw [h.size];exact hn) ((n - 0) / 2) (by omega) k];split
 ·congr 1;omega
 ·congr 1;omega
theorem Tf {N:Nat}{p:Array Nat}(h:Arr N p){k l j:Nat}(hk:k<N)(hl:l<=k):(bubble p k (k - l)).getD j 0=if j=l then p.getD k 0 else if l<j/\j<=k then p.getD (j - 1) 0 else p.getD j 0:=by
 have e:=getElem?_bubble (xs:=p) (src:=k) (by rw [h.size];exact hk) (k - l) (by omega) j;have e1:k - (k - l)=l:=by omega
 rw [e1] at e;by_cases h1:j=l
 ·rw [if_pos h1] at e ⊢;exact Gz e
 ·rw [if_neg h1] at e ⊢;by_cases h2:l<j/\j<=k
  ·rw [if_pos h2] at e ⊢;exact Gz e
  ·rw [if_neg h2] at e ⊢;exact Gz e
section
variable {N:Nat}{κ:Nat->Int}{R:Shared->Prop}{cmp:Nat->Nat->(Bool->Shared->Prop)->Shared->Prop}
def Srt (κ:Nat->Int)(p:Array Nat)(n:Nat):Prop:=∀ i j,i<j->j<n->κ (p.getD i 0)<κ (p.getD j 0)
def Dsc (κ:Nat->Int)(p:Array Nat)(n:Nat):Prop:=∀ i j,i<j->j<n->κ (p.getD j 0)<κ (p.getD i 0)
def Cmp (N:Nat)(κ:Nat->Int)(R:Shared->Prop)(cmp:Nat->Nat->(Bool->Shared->Prop)->Shared->Prop):Prop:=
 ∀ i j C s,i<N->j<N->R s->(∀ s',R s'->C (decide (κ i<κ j)) s')->cmp i j C s
def Inj (N:Nat)(κ:Nat->Int):Prop:=∀ i j,i<N->j<N->i≠j->κ i≠κ j
theorem Srt.snoc {p:Array Nat}{n:Nat}(h:Srt κ p n)(hn:1<=n)(e:κ (p.getD (n - 1) 0)<κ (p.getD n 0)):Srt κ p (n+1):=fun i j hij hj=>by
 by_cases hjn:j=n
 ·subst hjn;by_cases hi:i=j - 1
  ·rw [hi];exact e
  ·have:=h i (j - 1) (by omega) (by omega);omega
 ·exact h i j hij (by omega)
theorem Dsc.snoc {p:Array Nat}{n:Nat}(h:Dsc κ p n)(hn:1<=n)(e:κ (p.getD n 0)<κ (p.getD (n - 1) 0)):Dsc κ p (n+1):=fun i j hij hj=>by
 by_cases hjn:j=n
 ·subst hjn;by_cases hi:i=j - 1
  ·rw [hi];exact e
  ·have:=h i (j - 1) (by omega) (by omega);omega
 ·exact h i j hij (by omega)
variable (hc:Cmp N κ R cmp)(hI:Inj N κ)
include hc hI
theorem FP {p:Array Nat}(A:Arr N p){Q:Nat->Shared->Prop}:∀ (f n:Nat)(s:Shared),1<=n->n+f=N->Srt κ p n->R s ->
  (∀ m s',n<=m->m<=N->Srt κ p m->(m<N->κ (p.getD m 0)<κ (p.getD (m - 1) 0))->R s'->Q m s')->(kas_asc p f n).kasWp cmp Q s
 | 0,n,s,h1,hf,hS,r,k=>k n s (agb _) (by omega) hS (fun z=>by omega) r
 | f+1,n,s,h1,hf,hS,r,k=>by
  unfold kas_asc;refine hc _ _ _ s (A.lt (by omega)) (A.lt (by omega)) r fun s' r'=>?_;by_cases hlt:κ (p.getD n 0)<κ (p.getD (n - 1) 0)
  ·rw [decide_eq_true hlt];dsimp only;rw [if_pos rfl];exact k n s' (agb _) (by omega) hS (fun _=>hlt) r'
  ·rw [decide_eq_false hlt];dsimp only;rw [if_neg agi];have hne:=hI _ _ (A.lt (show n<N by omega)) (A.lt (show n - 1<N by omega)) (A.ne (show n<N by omega) (show n - 1<N by omega) (by omega));exact FP A f (n+1) s' (by omega) (by omega) (hS.snoc h1 (by omega)) r' fun m s2 a b c d e=>k m s2 (by omega) b c d e
theorem Ho {p:Array Nat}(A:Arr N p){Q:Array Nat × Nat × Nat->Shared->Prop}:∀ (f n:Nat)(s:Shared),1<=n->n+f=N->Dsc κ p n->R s ->
  (∀ m s',n<=m->m<=N->Dsc κ p m->R s'->Q (p,m,0) s')->(kas_desc f p n 0).kasWp cmp Q s
 | 0,n,s,h1,hf,hS,r,k=>k n s (agb _) (by omega) hS r
 | f+1,n,s,h1,hf,hS,r,k=>by
  unfold kas_desc;refine hc _ _ _ s (A.lt (by omega)) (A.lt (by omega)) r fun s' r'=>?_;by_cases hlt:κ (p.getD n 0)<κ (p.getD (n - 1) 0)
  ·rw [decide_eq_true hlt];dsimp only;rw [if_pos rfl,if_neg (by omega)];exact Ho A f (n+1) s' (by omega) (by omega) (hS.snoc h1 hlt) r' fun m s2 a b c d=>k m s2 (by omega) b c d
  ·rw [decide_eq_false hlt];dsimp only;rw [if_neg agi];have hne:=hI _ _ (A.lt (show n<N by omega)) (A.lt (show n - 1<N by omega)) (A.ne (show n<N by omega) (show n - 1<N by omega) (by omega));refine hc _ _ _ s' (A.lt (by omega)) (A.lt (by omega)) r' fun s2 r2=>?_;rw [decide_eq_true (by omega)];dsimp only;rw [if_pos rfl];exact k n s2 (agb _) (by omega) hS r2
theorem N7 {p:Array Nat}(A:Arr N p)(h2:2<=N){Q:Nat × Array Nat->Shared->Prop}{s:Shared}(r:R s)
  (k:∀ m p' s',1<=m->m<=N->Arr N p'->Srt κ p' m->R s'->Q (m,p') s'):(kas_count N p).kasWp cmp Q s:=by
 unfold kas_count;rw [ahR];refine FP hc hI A (N - 1) 1 s (agb _) (by omega) (fun i j a b=>by omega) r fun n s' h1 hn hS hd r'=>?_;by_cases hnN:n=N
 ·rw [if_pos (by simp [hnN])];exact k n p s' h1 hn A hS r'
 ·rw [if_neg (by simp [hnN])];have hd':=hd (by omega);by_cases h1n:n >1
  ·rw [if_pos h1n];refine hc _ _ _ s' (A.lt (by omega)) (A.lt (by omega)) r' fun s2 r2=>?_;rw [decide_eq_true (hS 0 (n - 1) (by omega) (by omega))];dsimp only;rw [if_pos rfl];exact k n p s2 h1 hn A hS r2
  ·rw [if_neg h1n];have hn1:n=1:=by omega
   subst hn1;unfold kas_descPart;rw [ahR];refine Ho hc hI A (N - 2) 2 s' (by omega) (by omega) (fun i j a b=>?_) r' fun m s2 hm2 hm hD r2=>?_
   ·have hi:i=0:=by omega
    have hj:j=1:=by omega
    subst hi;subst hj;exact hd'
   ·rw [if_neg (by show ¬ (0:Nat)>0;omega)];show (kas_tail3 m N p).kasWp cmp Q s2;unfold kas_tail3;rw [ahR];refine FP hc hI (A.rev 0 m) (N - m) m s2 (by omega) (by omega) (fun i j a b=>?_) r2 fun m' s3 a b c d e=>?_
    ·rw [QS A hm (by omega),QS A hm (by omega)];exact hD _ _ (by omega) (by omega)
    ·exact k m' _ s3 (by omega) b (A.rev 0 m) c e
theorem zp {p:Array Nat}(A:Arr N p){k:Nat}(hk:k<N)(hS:Srt κ p k){Q:Nat->Shared->Prop}:∀ (f l r:Nat)(s:Shared),l<=r->r<=k->r - l<=f ->
  (∀ i,i<l->κ (p.getD i 0)<κ (p.getD k 0))->(∀ i,r<=i->i<k->κ (p.getD k 0)<κ (p.getD i 0))->R s ->
  (∀ l s',l<=k->(∀ i,i<l->κ (p.getD i 0)<κ (p.getD k 0))->(∀ i,l<=i->i<k->κ (p.getD k 0)<κ (p.getD i 0))->R s'->Q l s')->(kas_place p k f l r).kasWp cmp Q s
 | 0,l,r,s,h1,h2,hf,ha,hb,hr,q=>by
  have e:l=r:=by omega
  subst e;exact q l s h2 ha hb hr
 | f+1,l,r,s,h1,h2,hf,ha,hb,hr,q=>by
  unfold kas_place;by_cases hlr:l >=r
  ·rw [if_pos hlr];have e:l=r:=by omega
   subst e;exact q l s h2 ha hb hr
  ·rw [if_neg hlr];have m1:(l+r) / 2<r:=by omega
   have m0:l<=(l+r) / 2:=by omega
   refine hc _ _ _ s (A.lt hk) (A.lt (by omega)) hr fun s' r'=>?_;by_cases hlt:κ (p.getD k 0)<κ (p.getD ((l+r) / 2) 0)
   ·rw [decide_eq_true hlt];dsimp only;rw [if_pos rfl];refine zp A hk hS f l ((l+r) / 2) s' m0 (by omega) (by omega) ha (fun i hi hik=>?_) r' q;by_cases he:i=(l+r) / 2
    ·rw [he];exact hlt
    ·have:=hS ((l+r) / 2) i (by omega) hik;omega
   ·rw [decide_eq_false hlt];dsimp only;rw [if_neg agi];have hne:=hI _ _ (A.lt hk) (A.lt (show (l+r) / 2<N by omega)) (A.ne hk (show (l+r) / 2<N by omega) (by omega));refine zp A hk hS f ((l+r) / 2+1) r s' (by omega) h2 (by omega) (fun i hi=>?_) hb r' q;by_cases he:i=(l+r) / 2
    ·rw [he];omega
    ·have:=hS i ((l+r) / 2) (by omega) (by omega);omega
theorem KZ {Q:Array Nat->Shared->Prop}(q:∀ p s',Arr N p->Srt κ p N->R s'->Q p s'):∀ (f:Nat)(p:Array Nat)(k:Nat)(s:Shared),Arr N p->k+f=N->Srt κ p k->R s->(kas_bin f p k).kasWp cmp Q s
 | 0,p,k,s,A,hf,hS,r=>by
  have e:k=N:=by omega
  subst e;exact q p s A hS r
 | f+1,p,k,s,A,hf,hS,r=>by
  unfold kas_bin;rw [ahR];refine zp hc hI A (show k<N by omega) hS k 0 k s (agN _) (agb _) (by omega) (fun i hi=>by omega) (fun i a b=>by omega) r fun l s' hl ha hb r'=>?_;refine KZ q f _ (k+1) s' (A.bub k (k - l)) (by omega) (fun i j hij hj=>?_) r';rw [Tf A (by omega) hl,Tf A (by omega) hl];by_cases h1:i=l
  ·rw [if_pos h1,if_neg (by omega),if_pos (by omega)];exact hb _ (by omega) (by omega)
  ·rw [if_neg h1];by_cases h2:j=l
   ·rw [if_pos h2,if_neg (by omega)];exact ha _ (by omega)
   ·rw [if_neg h2];by_cases h3:l<i/\i<=k
    ·rw [if_pos h3,if_pos (by omega)];exact hS _ _ (by omega) (by omega)
    ·rw [if_neg h3];by_cases h4:l<j/\j<=k
     ·rw [if_pos h4];by_cases h5:i<j - 1
      ·exact hS _ _ h5 (by omega)
      ·omega
     ·rw [if_neg h4];exact hS _ _ hij (by omega)
theorem PN (h2:2<=N){Q:Array Nat->Shared->Prop}{s:Shared}(r:R s)(q:∀ p s',Arr N p->Srt κ p N->R s'->Q p s'):(kas_sort N).kasWp cmp Q s:=by
 unfold kas_sort;rw [ahR];refine N7 hc hI (Arr.start N) h2 r fun m p' s' h1 hm A hS r'=>?_;by_cases hlt:m<N
 ·rw [if_pos hlt];have e:max m 1=m:=by omega
  rw [e];exact KZ hc hI q _ p' m s' A (by omega) hS r'
 ·rw [if_neg hlt];have e:m=N:=by omega
  subst e;exact q p' s' A hS r'
end
end L2
namespace L2
open PySem PySem.Spec PyProof.Rows
section
variable {X:Cx}{pins:List (Addr × Obj)}{σ:St}{H:Hp}{s:Shared}{a:Addr}{o:HO}
theorem Inv.adopt (I:Inv X pins σ H s)(hn:H a=none)(hL:a≠X.env.locals)(h0:X.s₀.heap.objs.size<=a)(hc:∀ x c,X.env.cells.lookup x=some c->c≠a)(hp:∀ p∈X.pn++pins,p.1≠a)
  (new:gR X.prog X.w (upd H a o) s.heap a o):Inv X pins σ (upd H a o) s:=by
 have ne:∀ b u,H b=some u->b≠a:=fun b u e=>aY e hn;refine ⟨I.ok,I.os,I.bare,⟨I.base.keep,I.base.slot,fun b ob e n hx=>?_,I.base.there,fun b xs e=>?_,fun b ob xs e=>?_,fun b ps e=>?_⟩,I.loc,I.cell,?_,fun x c e=>?_,fun p hq=>?_,fun b u e=>?_,I.len⟩
 ·rw [aN (agM (agI (agr e) h0))];exact I.base.free b ob e n hx
 ·have:=I.base.tups b xs e;rw [aN (ne b _ this)];exact this
 ·have:=I.base.frzs b ob xs e;rw [aN (ne b _ this)];exact this
 ·obtain ⟨m,e1⟩:=I.base.tbls b ps e;exact ⟨m,by rw [aN (ne b _ e1)];exact e1⟩
 ·rw [aN hL.symm];exact I.free
 ·rw [aN (hc x c e)];exact I.freeC x c e
 ·obtain ⟨e1,n,r⟩:=I.pin p hq;exact ⟨e1,by rw [aN (hp p hq)];exact n,r⟩
 ·by_cases hb:b=a
  ·subst hb;rw [aO] at e;cases e;exact new
  ·rw [aN hb] at e;exact (I.hok b u e).stay (fun _ _ _ q=>q) (fun c q=>by rw [aN (ne c _ q)];exact q) fun c xs q=>by rw [aN (ne c _ q)];exact q
end
section
variable {prog:Program}{w:World}{A:Around}{E:Value->Shared->Prop}{s:Shared}
theorem G4 {r:Addr}{b:Int}{t u v:Tok}{n:Nat}{Q:List Value->Shared->Prop}(hh:A.handled=none)(hr:IsRange s.heap r 0 b 1 t u v)(hsmall:Builtin.Range.small 0 b 1=true)
  (hn:Builtin.Range.rangeSize 0 b 1=n)(hlen:n<=2 ^ 24)
  (h:∀ h' tk vs,(∀ b o,s.heap.get? b=some o->h'.get? b=some o)->Vals ((List.range n).map fun (i:Nat)=>V.int (i:Int)) vs->Q vs { s with heap:=h',toks:=tk }):
  wpAny (model prog w) A (collect (.ref r)) Q E s:=by
 unfold collect
 refine wpAny_bind (wpAny_runValue (codeAny_builtin entry_proto_collect' ?_))
 show wpAny _ _ (do again (.builtin "list.__iadd__" ⟨[<- newList [],.ref r],[]⟩)) _ _ s
 refine wpAny_bind (wpAny_newList (wpAny_pure ⟨Code.quiet_builtin _ (by decide+kernel),codeAny_builtin entry_list_iadd' ?_⟩))
 have e1:A.under (.builtin "proto.collect" ⟨[.ref r],[]⟩)=A.in1:=ahN F.plain_proto_collect _
 have e2:A.under (.builtin "list.__iadd__" ⟨[.ref s.heap.objs.size,.ref r],[]⟩)=A.in1:=ahN F.plain_list_iadd _
 rw [e2]
 show wpAny _ A.in1 (Builtin.List.listExtendWith (.ref s.heap.objs.size) (.ref r) (.ref s.heap.objs.size)) _ _ { s with heap:=s.heap.push (seqObj "list" #[] 0) }
 have hS:(s.heap.push (seqObj "list" #[] 0)).get? s.heap.objs.size=some { cls:=.type "list",data:=.seq #[] 0 }:=agl _ rfl
 have hr':IsRange (s.heap.push (seqObj "list" #[] 0)) r 0 b 1 t u v:=agc _ hr
 refine wpAny_mono (wpAny_extend_range (A:=A) (R:=fun r s'=>match r with
   | .ok (.ret v)=>wpAny (model prog w) A (match v with
     | .ref a=>do
      let o <- load a
      match o.data with
      | .seq xs _=>pure xs.toList
      | _=>unsupported "internal:collect"
     | _=>unsupported "internal:collect") Q E s'
   | .ok _=>False
   | .error e=>E e s') (s:={ s with heap:=s.heap.push (seqObj "list" #[] 0) }) hh hr' hsmall hn hlen s.heap.objs.size (.ref s.heap.objs.size) 0 hS fun h' tk acc c hk hS' hacc=>?_) (fun fin s' q=>?_) (fun e s' q=>q)
 case refine_2 =>
  cases fin with
  | done f=>exact q
  | again c'=>exact q
 show wpAny (model prog w) A (do
   let o <- load s.heap.objs.size
   match o.data with
   | .seq xs _=>pure xs.toList
   | _=>unsupported "internal:collect") Q E { s with heap:=h',toks:=tk }
 refine wpAny_bind (wpAny_load hS' ?_)
 refine wpAny_pure (h h' tk acc.toList (fun b o e=>hk b o (agM (agr e)) (agc _ e)) ?_)
 have hsz:acc.toList.length=n:=by rw [agY];exact hacc.1
 have key:∀ (k:Nat)(l:List Value),l.length=k->(∀ (j:Nat)(v:Value),l[j]?=some v->∃ t,v=.int ((n - k+j:Nat):Int) t)->k<=n->Vals ((List.range' (n - k) k).map fun (i:Nat)=>V.int (i:Int)) l:=by
  intro k
  induction k with
  | zero =>
   intro l hl _ _
   have:l=[]:=List.length_eq_zero_iff.mp hl
   subst this
   exact .nil
  | succ k ih =>
   intro l hl hP hk
   match l,hl with
   | v::l,hl =>
    have hl':l.length=k:=by simpa using hl
    rw [List.range'_succ,agH]
    obtain ⟨t,ht⟩:=hP 0 v rfl
    refine .cons ⟨t,?_⟩ ?_
    ·rw [ht];rfl
    ·have e:n - (k+1)+1=n - k:=by omega
     rw [e]
     refine ih l hl' (fun j v' e'=>?_) (by omega)
     obtain ⟨t',ht'⟩:=hP (j+1) v' (by simpa using e')
     exact ⟨t',by rw [ht'];congr 2;omega⟩
 have:=key n acc.toList hsz (fun j v e=>by
  obtain ⟨t,ht⟩:=hacc.2 j v (by simpa using e)
  refine ⟨t,?_⟩
  rw [ht]
  congr 1
  omega) (agb _)
 rw [ahL,<- List.range_eq_range'] at this
 exact this
end
end L2
namespace L2
open PySem PySem.W PySem.Spec PyProof.Rows
section
variable {prog:Program}{w:World}{A:Around}{E:Value->Shared->Prop}{s:Shared}
theorem CT {Q:Bool->Shared->Prop}:∀ {xs ys:List Value}{ns ms:List Int},IntsAre xs ns->IntsAre ys ms->ns.length=ms.length->∀ i:Nat,Q (HT.lexLt ns ms) s->KatLex prog w A true false Q (xs.zip ys) i s
 | _,_,_,_,.nil,.nil,_,i,q=>by rw [List.zip_nil_left];exact kat_nil q
 | _,_,_,_,.nil,.cons _ _ _,hl,_,_=>by simp at hl
 | _,_,_,_,.cons _ _ _,.nil,hl,_,_=>by simp at hl
 | _,_,_,_,.cons a t hx,.cons c u hy,hl,i,q=>by
  rw [List.zip_cons_cons];refine kat_cons (wpAny_eqBool_int ?_);rw [HT.pY] at q;by_cases h:a=c
  ·rw [if_pos h] at q;have e:(a ==c)=true:=by simp [h]
   rw [e];exact kat_yes (CT hx hy (by simpa using hl) (i+1) q)
  ·rw [if_neg h] at q;have e:(a ==c)=false:=by simp [h]
   rw [e];refine kat_no ?_;by_cases hi:i=0
   ·have ei:(true&& i ==0)=true:=by simp [hi]
    rw [ei];exact oneLt_int q
   ·have ei:(true&& i ==0)=false:=by simp [hi]
    rw [ei];exact kat_one _ _ (lt_int q)
structure Keys (h:Heap)(ks:List Value)(key:Nat->List Int)(N len:Nat):Prop where
 size:ks.length=N
 at_:∀ i,i<N->∃ t its,ks[i]?=some (.ref t)/\IsTup h t its.toArray/\IntsAre its (key i)
 long:∀ i,i<N->(key i).length=len+1
theorem Keys.cmp {ks:List Value}{key:Nat->List Int}{N len:Nat}{κ:Nat->Int}(K:Keys s.heap ks key N len)(hκ:∀ i j,i<N->j<N->HT.lexLt (key i) (key j)=decide (κ i<κ j)):
  Cmp N κ (fun s'=>s'=s) (kas_ask prog w A (tuples' true) ks):=by
 intro i j C s1 hi hj e h;subst e;obtain ⟨t,its,e1,⟨o,ho,hc,n,hd⟩,i1⟩:=K.at_ i hi;obtain ⟨t2,its2,e2,⟨o2,ho2,hc2,n2,hd2⟩,i2⟩:=K.at_ j hj;unfold kas_ask;rw [agj,agj,e1,e2];have l1:its.length=(key i).length:=i1.length;have l2:its2.length=(key j).length:=i2.length;have hl:(key i).length=(key j).length:=by rw [K.long i hi,K.long j hj]
 refine kat_lt ho hd ho2 hd2 ?_;have ef:decide (its.toArray.size<its2.toArray.size)=false:=decide_eq_false (by simp only [ags];omega);rw [ef];refine CT i1 i2 hl 0 ?_;rw [hκ i j hi hj];exact h s1 rfl
theorem Keys.tups {key:Nat->List Int}{len:Nat}:∀ {ks:List Value}{N:Nat},Keys s.heap ks key N len->∃ fs:List Value,KatTups s.heap ks fs/\fs.length=N/\∀ v∈fs,∃ a t,v=.int a t:=by
 have go:∀ (ks:List Value),(∀ i,i<ks.length->∃ t its a u r,ks[i]?=some (.ref t)/\IsTup s.heap t its.toArray/\its=Value.int a u::r)->∃ fs:List Value,KatTups s.heap ks fs/\fs.length=ks.length/\∀ v∈fs,∃ a t,v=Value.int a t:=by
  intro ks
  induction ks with
  | nil=>intro _;exact ⟨[],trivial,rfl,fun v hv=>nomatch hv⟩
  | cons k ks ih =>
   intro h;obtain ⟨fs,h1,h2,h3⟩:=ih fun i hi=>by
    obtain ⟨t,its,a,u,r,e,p⟩:=h (i+1) (by simpa using hi);exact ⟨t,its,a,u,r,by simpa using e,p⟩
   obtain ⟨t,its,a,u,r,e,⟨o,ho,hc,n,hd⟩,rfl⟩:=h 0 (by simp);have e':k=.ref t:=by simpa using e
   subst e';refine ⟨.int a u::fs,KatTups.cons ho hc hd rfl h1,by simp [h2],fun v hv=>?_⟩;rcases agu.mp hv with e| e
   ·exact ⟨a,u,e⟩
   ·exact h3 v e
 intro ks N K;obtain ⟨fs,h1,h2,h3⟩:=go ks fun i hi=>by
  obtain ⟨t,its,e1,p,i1⟩:=K.at_ i (by rw [<- K.size];exact hi);have hl:=K.long i (by rw [<- K.size];exact hi);generalize key i=kl at i1 hl;cases i1 with
  | nil=>simp at hl
  | cons a u hx=>exact ⟨t,_,a,u,_,e1,p,rfl⟩
 exact ⟨fs,h1,by rw [h2,K.size],h3⟩
end
def yR (κ:Nat->Int)(xs ys:List V):Prop:=∃ p:List Nat,p.Perm (List.range xs.length)/\ys=p.map (fun i=>xs.getD i .non)/\p.Pairwise fun i j=>κ i<κ j
theorem QC {κ:Nat->Int}{xs:List V}{p:Array Nat}(A:Arr xs.length p)(hS:Srt κ p xs.length):yR κ xs (p.toList.map fun i=>xs.getD i .non):=by
 refine ⟨p.toList,A.perm,rfl,?_⟩;rw [ahS];intro i j hi hj hij;have hj':j<xs.length:=by rw [agY,A.size] at hj;exact hj
 have e1:p.toList[i]=p.getD i 0:=by
  have:=A.get (show i<xs.length by omega);rw [af9 hi] at this;exact agz this
 have e2:p.toList[j]=p.getD j 0:=by
  have:=A.get hj';rw [af9 hj] at this;exact agz this
 rw [e1,e2];exact hS i j hij hj'
theorem Hh {xs:List V}{vs:List Value}(r:Vals xs vs):∀ (p:List Nat),(∀ i∈p,i<xs.length)->Vals (p.map fun i=>xs.getD i .non) (p.map fun i=>vs.getD i .none)
 | [],_=>.nil
 | i::p,h=>by
  have hi:i<xs.length:=h i agB;obtain ⟨u,e,ru⟩:=r.get (af9 hi);refine .cons ?_ (Hh r p fun j hj=>h j (agv _ hj));show RelV (xs.getD i .non) (vs.getD i .none);rw [agj,agj,e,af9 hi];exact ru
section
variable {X:Cx}{pins:List (Addr × Obj)}{σ:St}{H:Hp}{s:Shared}{A:Around}{E:Value->Shared->Prop}
theorem Inv.zF (I:Inv X pins σ H s){b:Addr}{o:Obj}(f:JL X pins H b)(e:s.heap.get? b=some o)(d:∀ v,o.data≠.cell v):Inv X (pins++[(b,o)]) σ H s:=
 I.J5 fun p hp=>(agw.mp hp).elim (fun z=>I.pin p (agf _ z)) fun z=>by
  have e':p=(b,o):=by simpa using z
  subst e';obtain ⟨f0,f1,f2,_⟩:=f;exact ⟨e,f0,f1,f2,d⟩
theorem sort_keys {f:Value}{D kS:Addr}{e1:Nat}{xs:List V}{vs:List Value}(rv:Vals xs vs)(h64:xs.length<64)(Pv:Nat->List Addr->Hp->Prop)
  (fpD:∀ H',H' D=none->JL X pins H' D)(fpK:∀ H',H' kS=none->JL X pins H' kS)(hDK:D≠kS)
  (hcall:∀ i x u ts pins' s' H',xs[i]?=some x->RelV x u->Inv X pins' σ H' s'->(∀ p∈pins,p∈pins')->Pv i ts H'->wpAny (model X.prog X.w) A (call f [u]) (fun k s2=>∃ t H2,k=.ref t/\Inv X pins' σ H2 s2/\Pv (i+1) (ts++[t]) H2) (fun _ _=>False) s')
  {body:Value->PUnit->Sem (ForInStep PUnit)}
  (hb:∀ x (s:Shared) (R:Value->Shared->Prop) (Q:ForInStep PUnit->Shared->Prop),wpAny (model X.prog X.w) A (call f [x]) R (fun _ _=>False) s->(∀ k s',R k s'->wpAny (model X.prog X.w) A (Builtin.List.listUpdate (.ref kS) (·.push k)) (fun _ s''=>Q (.yield ⟨⟩) s'') E s') ->
   wpAny (model X.prog X.w) A (body x ⟨⟩) Q E s):
  ∀ (r:List Value)(i:Nat)(ts:List Addr)(e:Nat)(s:Shared)(H:Hp),vs.drop i=r->ts.length=i->i<=vs.length->Inv X (pins++[(D,seqObj "list" #[] e1)]++[(kS,seqObj "list" (ts.map Value.ref).toArray e)]) σ H s->Pv i ts H ->
   wpAny (model X.prog X.w) A (forIn r PUnit.unit body) (fun _ s'=>∃ ts' e' H',ts'.length=vs.length/\Inv X (pins++[(D,seqObj "list" #[] e1)]++[(kS,seqObj "list" (ts'.map Value.ref).toArray e')]) σ H' s'/\Pv vs.length ts' H') E s
 | [],i,ts,e,s,H,hr,hl,hi,I,p=>by
  rw [List.forIn_nil]
  have hn:i=vs.length:=by
   have:=congrArg List.length hr
   rw [ag9] at this
   simp at this
   omega
  subst hn
  exact wpAny_pure ⟨ts,e,H,hl,I,p⟩
 | u::r,i,ts,e,s,H,hr,hl,hi,I,p=>by
  rw [List.forIn_cons]
  have hlen:=rv.length
  have hiv:i<vs.length:=by
   have:=congrArg List.length hr
   rw [ag9] at this
   simp at this
   omega
  have eu:vs[i]?=some u:=by
   have:(vs.drop i)[0]?=some u:=by rw [hr];rfl
   rw [List.getElem?_drop] at this
   simpa using this
  have hix:i<xs.length:=by omega
  obtain ⟨u',e',ru⟩:=rv.get (af9 hix)
  rw [eu] at e'
  cases e'
  refine wpAny_bind (hb u s _ _ (hcall i _ u ts _ s H (af9 hix) ru I (fun p hp=>agT _ (agT _ hp)) p) fun k s2 ⟨t,H2,ek,I2,p2⟩=>?_)
  subst ek
  have pk:=I2.pin (kS,seqObj "list" (ts.map Value.ref).toArray e) (agf _ (agf _ (by simp)))
  have pD:=I2.pin (D,seqObj "list" #[] e1) (agf _ (agT _ (agf _ (by simp))))
  refine listUpdate_at pk.1 rfl ?_ (by rw [ags,aeu,sizeLine_eq];omega) (by rw [Array.size_push,ags,aeu,sizeLine_eq];omega)
  have I2':Inv X (pins++[(D,seqObj "list" #[] e1)]) σ H2 s2:=I2.mC
  have fK:JL X (pins++[(D,seqObj "list" #[] e1)]) H2 kS:=by
   obtain ⟨a0,a1,a2,a3,a4,a5⟩:=fpK H2 pk.2.1
   refine ⟨a0,a1,a2,a3,a4,fun p hp=>?_⟩
   rcases agw.mp hp with z| z
   ·exact a5 p (agT _ z)
   ·rcases agw.mp z with z| z
    ·exact a5 p (agf _ z)
    ·have:p=(D,seqObj "list" #[] e1):=by simpa using z
     rw [this];exact hDK
  obtain ⟨a0,a1,a2,a3,a4,a5⟩:=fK
  have I3:Inv X (pins++[(D,seqObj "list" #[] e1)]) σ H2 { s2 with heap:=s2.heap.update kS (Obj.mapSeq (·.push (Value.ref t))) }:=
   I2'.turned (t':=s2.toks) (fun b o hb e=>(agQ _ _ (Ne.symm hb)).trans e) a0 a1 a3 a4 a5
  have ea:((ts.map Value.ref).toArray).push (Value.ref t)=((ts++[t]).map Value.ref).toArray:=by simp
  obtain ⟨c2,hc2⟩:∃ c2,(s2.heap.update kS (Obj.mapSeq (·.push (Value.ref t)))).get? kS=some (seqObj "list" ((ts++[t]).map Value.ref).toArray c2):=⟨_,by rw [<- ea];exact get?_update_seq pk.1 (·.push (Value.ref t))⟩
  have I4:=I3.zF ⟨a0,a1,a2,a3,a4,a5⟩ hc2 (fun v z=>by cases z)
  show wpAny (model X.prog X.w) A (forIn r PUnit.unit body) _ E _
  refine sort_keys rv h64 Pv fpD fpK hDK hcall hb r (i+1) (ts++[t]) c2 _ H2 ?_ (by rw [agh,hl];rfl) (by omega) I4 p2
  have:(vs.drop i).drop 1=r:=by rw [hr];rfl
  rw [List.drop_drop] at this
  exact this
end
section
variable {X:Cx}{pins:List (Addr × Obj)}{σ:St}{H:Hp}{s:Shared}{A:Around}{E:Value->Shared->Prop}
theorem QD {f:Value}{D:Addr}{n0 m:Nat}{xs:List V}{vs:List Value}{key:Nat->List Int}{κ:Nat->Int}(rv:Vals xs vs)(h64:xs.length<64)(Pv:Nat->List Addr->Hp->Prop)(I:Inv X pins σ H s)
  (hD:s.heap.get? D=some (seqObj "list" vs.toArray n0))(fpD:∀ H',H' D=none->JL X pins H' D)(nD:H D=none)(hfresh:X.s₀.heap.objs.size<=D)(p0:Pv 0 [] H)
  (hcall:∀ i x u ts pins' s' H',xs[i]?=some x->RelV x u->Inv X pins' σ H' s'->(∀ p∈pins,p∈pins')->Pv i ts H'->wpAny (model X.prog X.w) A (call f [u]) (fun k s2=>∃ t H2,k=.ref t/\Inv X pins' σ H2 s2/\Pv (i+1) (ts++[t]) H2) (fun _ _=>False) s')
  (htup:∀ ts H',Pv xs.length ts H'->∀ i t,ts[i]?=some t->H' t=some (.tup ((key i).map V.int)))(hlong:∀ i,i<xs.length->(key i).length=m+1)
  (hκ:∀ i j,i<xs.length->j<xs.length->HT.lexLt (key i) (key j)=decide (κ i<κ j))(hinj:Inj xs.length κ):
  wpAny (model X.prog X.w) A (ksk_tree D f false) (fun fin s'=>fin=.done (.ret .none)/\∃ ts H' ys,Pv xs.length ts H'/\H' D=none/\yR κ xs ys/\Inv X pins σ (upd H' D (.lst ys)) s') E s:=by
 have hlen:=rv.length
 unfold ksk_tree
 refine wpAny_bind (listItems_at hD rfl ?_)
 refine wpAny_bind (listUpdate_at hD rfl ?_ (by rw [ags,sizeLine_eq];omega) (agN _))
 obtain ⟨e1,ho1⟩:∃ e1,(s.heap.update D (Obj.mapSeq fun _=>(#[]:Array Value))).get? D=some (seqObj "list" #[] e1):=⟨_,get?_update_seq hD fun _=>#[]⟩
 obtain ⟨a0,a1,a2,a3,a4,a5⟩:=fpD H nD
 have I1:Inv X pins σ H { s with heap:=s.heap.update D (Obj.mapSeq fun _=>(#[]:Array Value)) }:=I.turned (t':=s.toks) (fun b o hb e=>(agQ _ _ (Ne.symm hb)).trans e) a0 a1 a3 a4 a5
 refine wpAny_bind (seqEpoch_at ho1 rfl ?_)
 refine wpAny_bind (wpAny_newTuple ?_ (by show vs.length<=_;rw [sizeLine_eq];omega))
 refine wpAny_bind (wpAny_newList ?_ (agN _))
 refine wpAny_holding ?_
 have I2:Inv X pins σ H { s with heap:=(s.heap.update D (Obj.mapSeq fun _=>(#[]:Array Value))).push (seqObj "tuple" vs.toArray 0) }:=I1.kept (t':=s.toks) fun b o e=>agc _ e
 have I3:Inv X pins σ H { s with heap:=((s.heap.update D (Obj.mapSeq fun _=>(#[]:Array Value))).push (seqObj "tuple" vs.toArray 0)).push (seqObj "list" #[] 0) }:=I2.kept (t':=s.toks) fun b o e=>agc _ e
 have fpK:∀ H',H' (((s.heap.update D (Obj.mapSeq fun _=>(#[]:Array Value))).push (seqObj "tuple" vs.toArray 0)).objs.size)=none->JL X pins H' _:=fun H' hn=>I2.G9 (agb _) hn
 have nK:H (((s.heap.update D (Obj.mapSeq fun _=>(#[]:Array Value))).push (seqObj "tuple" vs.toArray 0)).objs.size)=none:=I2.hok.fresh (agb _)
 have hDK:D≠((s.heap.update D (Obj.mapSeq fun _=>(#[]:Array Value))).push (seqObj "tuple" vs.toArray 0)).objs.size:=agM (agr (agc (seqObj "tuple" vs.toArray 0) ho1))
 have hD3:(((s.heap.update D (Obj.mapSeq fun _=>(#[]:Array Value))).push (seqObj "tuple" vs.toArray 0)).push (seqObj "list" #[] 0)).get? D=some (seqObj "list" #[] e1):=agc _ (agc _ ho1)
 have hK3:(((s.heap.update D (Obj.mapSeq fun _=>(#[]:Array Value))).push (seqObj "tuple" vs.toArray 0)).push (seqObj "list" #[] 0)).get? (((s.heap.update D (Obj.mapSeq fun _=>(#[]:Array Value))).push (seqObj "tuple" vs.toArray 0)).objs.size)=some (seqObj "list" #[] 0):=agl _ rfl
 generalize ((s.heap.update D (Obj.mapSeq fun _=>(#[]:Array Value))).push (seqObj "tuple" vs.toArray 0)).objs.size=kS at fpK nK hDK hK3 ⊢
 generalize hs3:({ s with heap:=((s.heap.update D (Obj.mapSeq fun _=>(#[]:Array Value))).push (seqObj "tuple" vs.toArray 0)).push (seqObj "list" #[] 0) }:Shared)=s3 at I3 ⊢
 have hD3':s3.heap.get? D=some (seqObj "list" #[] e1):=by rw [<- hs3];exact hD3
 have hK3':s3.heap.get? kS=some (seqObj "list" #[] 0):=by rw [<- hs3];exact hK3
 have I4:Inv X (pins++[(D,seqObj "list" #[] e1)]) σ H s3:=I3.zF (fpD H nD) hD3' (fun v z=>by cases z)
 have fK:∀ H',H' kS=none->JL X (pins++[(D,seqObj "list" #[] e1)]) H' kS:=fun H' hn=>by
  obtain ⟨b0,b1,b2,b3,b4,b5⟩:=fpK H' hn
  refine ⟨b0,b1,b2,b3,b4,fun p hp=>?_⟩
  rcases agw.mp hp with z| z
  ·exact b5 p (agT _ z)
  ·rcases agw.mp z with z| z
   ·exact b5 p (agf _ z)
   ·have:p=(D,seqObj "list" #[] e1):=by simpa using z
    rw [this];exact hDK
 have I5:=I4.zF (fK H nK) hK3' (fun v z=>by cases z)
 unfold ksk_rest
 refine wpAny_bind (wpAny_rule ?_)
 first
  | rw [List.forIn_toArray]
  | (rw [<- Array.forIn_toList];simp only [ahF])
  | rw [<- Array.forIn_toList]
 refine wpAny_bind (wpAny_mono (sort_keys (E:=E) rv h64 Pv fpD fpK hDK hcall (fun x s' R Q' hx hk=>?_) vs 0 [] 0 s3 H rfl rfl (agN _) I5 p0) (fun _ s4 hd=>?_) fun _ _ x=>x)
 ·refine wpAny_bind (wpAny_attempt (wpAny_mono hx (fun k s'' hq=>?_) fun _ _ hF=>hF.elim))
  dsimp only
  refine wpAny_bind (wpAny_mono (hk k s'' hq) (fun _ s5 hq5=>wpAny_pure hq5) fun _ _ x=>x)
 obtain ⟨ts,e',H4,htl,I6,p4⟩:=hd
 have pk:=I6.pin (kS,seqObj "list" (ts.map Value.ref).toArray e') (agf _ (agf _ (by simp)))
 have pD:=I6.pin (D,seqObj "list" #[] e1) (agf _ (agT _ (agf _ (by simp))))
 refine wpAny_bind (listItems_at pk.1 rfl ?_)
 have p4':Pv xs.length ts H4:=by rw [hlen];exact p4
 have I7:Inv X pins σ H4 s4:=I6.mC.mC
 have fin:∀ (st:SortSt)(q:List Nat),(arrOf st).map (·.2)=List.toArray (q.map fun i=>vs.getD i Value.none)->failedOf st=none->(∀ i∈q,i<xs.length)->q.length=xs.length->yR κ xs (q.map fun i=>xs.getD i .non) ->
   wpAny (model X.prog X.w) A (ksk_tail D false e1 (.ref kS) st) (fun fin s'=>fin=.done (.ret .none)/\∃ ts H' ys,Pv xs.length ts H'/\H' D=none/\yR κ xs ys/\Inv X pins σ (upd H' D (.lst ys)) s') E s4:=by
  intro st q hout hf hq hql hsb
  unfold ksk_tail
  dsimp only
  refine wpAny_bind (listUpdate_at pk.1 rfl ?_ (by rw [ags,aeu,sizeLine_eq];omega) (agN _))
  obtain ⟨b0,b1,b2,b3,b4,b5⟩:=fpK H4 pk.2.1
  have I8:Inv X pins σ H4 { s4 with heap:=s4.heap.update kS (Obj.mapSeq fun _=>(#[]:Array Value)) }:=I7.turned (t':=s4.toks) (fun b o hb e=>(agQ _ _ (Ne.symm hb)).trans e) b0 b1 b3 b4 b5
  have hD8:(s4.heap.update kS (Obj.mapSeq fun _=>(#[]:Array Value))).get? D=some (seqObj "list" #[] e1):=(agQ _ _ (Ne.symm hDK)).trans pD.1
  refine wpAny_bind (wpAny_letGo ?_)
  refine wpAny_bind (seqEpoch_at hD8 rfl ?_)
  have hsz:(if false=true then ((arrOf st).map (·.2)).reverse else (arrOf st).map (·.2))=List.toArray (q.map fun i=>vs.getD i Value.none):=by rw [if_neg agi];exact hout
  refine wpAny_bind (listUpdate_at hD8 rfl ?_ (agN _) (by show (if false=true then ((arrOf st).map (·.2)).reverse else (arrOf st).map (·.2)).size<=_;rw [hsz,ags,aeu,sizeLine_eq];omega))
  rw [hf]
  simp only [bne_self_eq_false,ahq,if_false]
  refine wpAny_pure ⟨rfl,ts,H4,_,p4',pD.2.1,hsb,?_⟩
  obtain ⟨c0,c1,c2,c3,c4,c5⟩:=fpD H4 pD.2.1
  have I9:=I8.turned (h':=(s4.heap.update kS (Obj.mapSeq fun _=>(#[]:Array Value))).update D (Obj.mapSeq fun _=>(arrOf st).map (·.2))) (t':=s4.toks) (fun b o hb e=>(agQ _ _ (Ne.symm hb)).trans e) c0 c1 c3 c4 c5
  obtain ⟨cc,hcc⟩:∃ cc,((s4.heap.update kS (Obj.mapSeq fun _=>(#[]:Array Value))).update D (Obj.mapSeq fun _=>(arrOf st).map (·.2))).get? D=some (seqObj "list" (q.map fun i=>vs.getD i Value.none).toArray cc):=⟨_,by rw [<- hout];exact get?_update_seq hD8 fun _=>(arrOf st).map (·.2)⟩
  exact I9.adopt pD.2.1 c1 hfresh c4 c5 ⟨by rw [aeu,sizeLine_eq];omega,_,cc,Hh rv q hq,hcc⟩
 have eks:ts.length=xs.length:=by omega
 unfold ksk_end
 dsimp only
 rw [if_neg agi]
 by_cases h2:xs.length<2
 ·have hs2:vs.toArray.size<2:=by rw [ags];omega
  rw [if_pos hs2,if_pos hs2]
  refine wpAny_bind (wpAny_pure ?_)
  refine wpAny_bind ?_
  rw [StateT.run_pure]
  refine wpAny_pure ?_
  dsimp only
  have hr:∀ i∈List.range xs.length,i<xs.length:=fun i hi=>agK.mp hi
  refine fin _ (List.range xs.length) ?_ rfl hr (ag0) ⟨List.range xs.length,List.Perm.refl _,rfl,?_⟩
  ·show ((if false=true then ((ts.map Value.ref).toArray.zip vs.toArray).reverse else (ts.map Value.ref).toArray.zip vs.toArray)).map (·.2)=_
   rw [if_neg agi]
   apply Array.toList_inj.mp
   rw [Array.toList_map,Array.toList_zip,List.map_snd_zip (by rw [ahF,ahF,aeu];omega)]
   rw [ahF]
   apply List.ext_getElem?
   intro j
   rw [ahF,agg]
   by_cases hj:j<xs.length
   ·rw [ahG hj]
    show _=some (vs.getD j Value.none)
    rw [agj,af9 (by omega)];rfl
   ·rw [ahc (by omega),ahc (by rw [ag0];omega)];rfl
  ·match hx:xs.length,h2 with
   | 0,_=>exact List.Pairwise.nil
   | 1,_=>exact List.pairwise_singleton _ _
 ·have hs2:¬ vs.toArray.size<2:=by rw [ags];omega
  rw [if_neg hs2,if_neg hs2]
  have KK:Keys s4.heap (ts.map Value.ref) key xs.length m:=by
   refine ⟨by rw [aeu];exact eks,fun i hi=>?_,hlong⟩
   have hit:i<ts.length:=by omega
   have et:=htup ts H4 p4' i ts[i] (af9 hit)
   obtain ⟨_,its,r,hT⟩:=I7.hok _ _ et
   exact ⟨ts[i],its,by rw [agg,af9 hit];rfl,hT,intsAre_of r⟩
  obtain ⟨fs,kt,kl,kv⟩:=KK.tups
  refine wpAny_bind (kat_kind kt (by omega) (fun v hv=>by obtain ⟨a,t,rfl⟩:=kv v hv;exact Looks.of_pure rfl) (T:=.type "int") (by decide) ?_)
  have ett:(Value.type "int" !=Value.type "tuple")=true:=by decide
  rw [ett]
  have ez:(if false=true then ((ts.map Value.ref).toArray.zip vs.toArray).reverse else (ts.map Value.ref).toArray.zip vs.toArray)=(ts.map Value.ref).toArray.zip vs.toArray:=by rw [if_neg agi]
  rw [ez]
  have hkl:(ts.map Value.ref).length=vs.length:=by rw [aeu];omega
  have run:=kat_run (prog:=X.prog) (w:=X.w) (A:=A) (E:=E) (s:=s4) (κ:=tuples' true) (ks:=ts.map Value.ref) (vs:=vs)
   (Q:=fun st' s'=>s'=s4/\∃ p:Array Nat,arrOf st'=p.map (kas_item ((ts.map Value.ref).toArray.zip vs.toArray))/\failedOf st'=none/\Arr xs.length p/\Srt κ p xs.length)
   (G:=fun p s'=>s'=s4/\Arr xs.length p/\Srt κ p xs.length) hkl (by omega) (by omega) (fun p st' s' _ b c ⟨d,a1,a2⟩=>⟨d,p,b,c,a1,a2⟩) (by
    have:=PN (N:=xs.length) (KK.cmp (prog:=X.prog) (w:=X.w) (A:=A) hκ) hinj (by omega) (Q:=fun p s'=>s'=s4/\Arr xs.length p/\Srt κ p xs.length) (s:=s4) rfl fun p s' a b c=>⟨c,a,b⟩
    rw [<- hlen]
    exact this)
  refine wpAny_bind (wpAny_mono run ?_ fun _ _ x=>x)
  rintro ⟨⟨⟩,st'⟩ s5 ⟨rfl,p,har,hf,AR,SR⟩
  dsimp only
  refine fin st' p.toList (kat_snds hkl har) hf (fun i hi=>?_) (by rw [agY,AR.size]) (QC AR SR)
  exact agK.mp (AR.perm.mem_iff.mp hi)
end
def abO (X:Cx)(scope:Scope)(qual:Str)(c:Value)(N:List Str)(A:Around)(f:Addr)(s:Shared)(H:Hp):Cx:=
 let env:Env:=envX qual scope s.heap.objs.size f c (clo X.env.cells scope.names []);{ prog:=X.prog,w:=X.w,K:=X.K,mg:=X.mg,base:=X.base,A:=A.deeper env,N:=N,s₀:=s,H₀:=H,env:=env,outer:=X.stack,stack:=env::X.stack,ex:=[],fn:=fun x=>((clo X.env.cells scope.names []).lookup x).isNone,calm:=true,pn:=[],xe:=fun _ _=>False }
def Gu (x:V)(cap:List (Option Nat))(σ:St):St:=some x::(cap.map fun o=>o.bind fun j=>(σ[j]?).bind id)
def abN (scope:Scope)(p:Str)(N N':List Str)(cap:List (Option Nat)):Bool:=(scope.names.lookup p ==some .local) && !scope.isCoroutine&& !scope.isGenerator&& (!N'.contains p) && Ky scope N N' cap
section
variable {X:Cx}{pins:List (Addr × Obj)}{σ:St}{H:Hp}{s:Shared}{body:Expr}{scope:Scope}{params:Arguments}{te:TE}
theorem Vh (sc:Scope)(hsc:X.env.scope=sc)(N₀:List Str)(hN₀:X.N=N₀){N':List Str}{cap:List (Option Nat)}{p:Str}(f1:freeOk sc scope=true)(f2:J7 scope=true)(f3:abN scope p N₀ N' cap=true)
  {A:Around}{f:Addr}{name qual:Str}{c pm ctv:Value}{x:V}{u:Value}{Q:VK}(I:Inv X pins σ H s)(hA:A.frames=some X.stack)(hd:A.handled=none)(hroom:A.depth<recursionLimit)
  (hf:(f,({ cls:=.type "function",data:=.func (kla_fn name qual params body scope (clo X.env.cells scope.names []) pm c ctv) }:Obj))∈pins)(hcd:s.heap.CodeRec c qual)
  (hbind:bindArgs (kla_fn name qual params body scope (clo X.env.cells scope.names []) pm c ctv) ⟨[u],[]⟩=pure [(p,u)])
  (hb:PE (abO X scope qual c (p::N') A f s H) body te)(rx:RelV x u)(h:te (Gu x cap σ) H Q):
  wpAny (model X.prog X.w) A (call (.ref f) [u]) (fun k s2=>∃ v H2,RelV v k/\Inv X pins σ H2 s2/\Q v H2) (fun _ _=>False) s:=by
 have ok:=I.ok
 have fr:∀ y∈scope.names,y.2=.free->X.env.kindOf y.1=some .cell\/X.env.kindOf y.1=some .free:=fun y hy e=>by
  have q:=ag3.mp f1 y hy
  rw [e] at q
  have q':((sc.names.lookup y.1 ==some NameKind.cell) || (sc.names.lookup y.1 ==some NameKind.free))=true:=by simpa using q
  rw [Bool.or_eq_true] at q'
  unfold Env.kindOf
  rw [hsc]
  rcases q' with z| z
  ·exact .inl (by simpa using z)
  ·exact .inr (by simpa using z)
 obtain ⟨⟨k1,k2⟩,k3⟩:((scope.kind == .function)=true/\(scope.names.all fun y=>y.2 != .cell)=true)/\(scope.names.all fun y=>y.2 != .local|| scope.names.lookup y.1 ==some .local)=true:=by
  unfold J7 at f2
  rw [agD,agD] at f2
  exact f2
 have hkind:scope.kind=.function:=by simpa using k1
 have hcell:∀ y∈scope.names,y.2≠.cell:=fun y hy=>by
  have q:=ag3.mp k2 y hy
  simpa using q
 obtain ⟨⟨⟨⟨g1,g2⟩,g3⟩,g4⟩,g5⟩:((((scope.names.lookup p ==some .local)=true/\(!scope.isCoroutine)=true)/\(!scope.isGenerator)=true)/\(!N'.contains p)=true)/\Ky scope N₀ N' cap=true:=by
  unfold abN at f3
  rw [agD,agD,agD,agD] at f3
  exact f3
 have hploc:scope.names.lookup p=some .local:=by simpa using g1
 have clX:∀ x c,(clo X.env.cells scope.names []).lookup x=some c->X.env.cells.lookup x=some c:=fun x c e=>by
  have e1:=S6 e
  have hx:(x,NameKind.free)∈scope.names:=by
   rcases G5 [] (agL e) with z| z
   ·exact nomatch z
   ·exact z
  obtain ⟨c',e2⟩:=ok.has x (fr (x,.free) hx rfl)
  rw [e2] at e1 ⊢
  rw [e1];rfl
 have pf:=I.pin _ (agf _ hf)
 refine wpAny_call (kla_callFunE hroom pf.1 rfl (by simpa using g2) (by simpa using g3) rfl hcd ?_)
 rw [hbind]
 refine wpAny_pure ?_
 refine wpAny_newFunctionEnv hcell (fun y hy=>?_) (fun h4 hns hsb=>?_) hkind
 ·have:y=(p,u):=by simpa using hy
  rw [this];exact hploc
 have kp4:∀ b o,s.heap.get? b=some o->h4.get? b=some o:=fun b o e=>hsb.extBut b o (agM (agr e)) (agc _ e)
 refine ⟨I.nolimit.keeps kp4,kla_codeExpr ?_⟩
 let Z:Cx:=abO X scope qual c (p::N') A f s H
 have okZ:Z.Ok:=by
  refine ⟨ok.mod,hkind,rfl,rfl,agb _,?_,?_,?_,fun _=>hd,Around.frames_deeper hA,.inr ⟨rfl,rfl⟩,?_,?_,?_,?_,?_,?_,?_⟩
  ·exact fun x y c h1 h2=>ok.inj x y c (clX x c h1) (clX y c h2)
  ·intro x hx
   have hx':scope.names.lookup x=some .cell\/scope.names.lookup x=some .free:=hx
   rcases hx' with z| z
   ·exact absurd rfl (hcell _ (agL z))
   ·exact ahv.mp (Dy scope.names [] x (agL z))
  ·intro x c hx h1
   have hx':((clo X.env.cells scope.names []).lookup x).isNone=true:=hx
   have h1':(clo X.env.cells scope.names []).lookup x=some c:=h1
   rw [h1'] at hx';cases hx'
  ·exact fun b hb=>absurd (show b∈([]:List Addr) from hb) (by simp)
  ·exact fun b o e=>I.bs b o e
  ·exact agS ok.bsz I.sz
  ·exact fun b o e hb=>absurd (show b∈([]:List Addr) from hb) (by simp)
  ·exact fun b hb=>absurd (show b∈([]:List Addr) from hb) (by simp)
  ·exact I.stack
  ·exact I.FT
 have capl:cap.length=N'.length/\∀ p∈N'.zip cap,(match p.2 with| none=>true| some j=>N₀[j]? ==some p.1&& scope.names.lookup p.1 ==some .free)=true:=by
  unfold Ky at g5
  rw [agD] at g5
  exact ⟨by simpa using g5.1,fun p hp=>ag3.mp g5.2 p hp⟩
 have IZ:Inv Z [] (Gu x cap σ) H { s with heap:=h4,toks:=s.toks+[(p,u)].length }:=by
  refine ⟨okZ,rfl,I.bare,Un.kept kp4,⟨_,hns,?_⟩,?_,?_,?_,fun p hp=>absurd (show p∈([]:List (Addr × Obj)) from hp) (by simp),I.hok.kept kp4,?_⟩
  ·intro i y v e1 e2 e3
   cases i with
   | zero =>
    have e1':p=y:=by
     have e1'':(p::N')[0]?=some y:=e1
     simpa using e1''
    have e2':x=v:=by
     have e2'':(Gu x cap σ)[0]?=some (some v):=e2
     simpa [Gu] using e2''
    subst e1' e2'
    exact ⟨u,rx,.inl ⟨hploc,by simp [List.lookup]⟩⟩
   | succ i =>
    have e1':N'[i]?=some y:=by
     have e1'':(p::N')[i+1]?=some y:=e1
     simpa using e1''
    have e2':(cap.map fun o=>o.bind fun j=>(σ[j]?).bind id)[i]?=some (some v):=by
     have e2'':(Gu x cap σ)[i+1]?=some (some v):=e2
     simpa [Gu] using e2''
    rw [agg] at e2'
    cases ec:cap[i]? with
    | none=>rw [ec] at e2';cases e2'
    | some o =>
     rw [ec] at e2'
     cases o with
     | none=>cases e2'
     | some j =>
      have e3':(σ[j]?).bind id=some v:=by simpa using e2'
      have hz:(y,some j)∈N'.zip cap:=by
       refine agd (i:=i) ?_
       rw [ahQ]
       exact ⟨e1',ec⟩
      have q:=capl.2 _ hz
      have q':(N₀[j]? ==some y)=true/\(scope.names.lookup y ==some NameKind.free)=true:=by simpa [agD] using q
      have q1:X.N[j]?=some y:=by rw [hN₀];simpa using q'.1
      have q2:scope.names.lookup y=some .free:=by simpa using q'.2
      have eσ:σ[j]?=some (some v):=by
       cases z:σ[j]? with
       | none=>rw [z] at e3';cases e3'
       | some y' =>
        rw [z] at e3'
        have:y'=some v:=e3'
        rw [this]
      have hk:=fr (y,.free) (agL q2) rfl
      obtain ⟨m,hn,hl⟩:=I.loc
      have vis:Vis X.env.scope y:=by
       rcases hk with z| z
       ·exact .inr (.inl z)
       ·exact .inr (.inr z)
      obtain ⟨u',r,l⟩:=hl j y v q1 eσ vis
      refine ⟨u',r,.inr ⟨.inr q2,?_⟩⟩
      rcases l with ⟨kl,_⟩ | ⟨_,c,ecx,hcx⟩
      ·rcases hk with z| z
       ·have z':X.env.kindOf y=some .cell:=z
        rw [kl] at z';cases z'
       ·have z':X.env.kindOf y=some .free:=z
        rw [kl] at z';cases z'
      ·have hh:=Dy (cells:=X.env.cells) scope.names [] y (agL q2)
       obtain ⟨c',ec'⟩:=ahv.mp hh
       have ec2:=clX y c' ec'
       rw [ecx] at ec2
       cases ec2
       exact ⟨c,ec',hcx.keeps kp4⟩
  ·intro y c e
   obtain ⟨v,z⟩:=I.cell y c (clX y c e)
   exact ⟨v,z.keeps kp4⟩
  ·exact I.hok.fresh (agb _)
  ·exact fun y c e=>I.freeC y c (clX y c e)
  ·show (Gu x cap σ).length=(p::N').length
   unfold Gu
   rw [agx,agx,aeu,capl.1]
 refine wpAny_mono (hb [] _ _ H Q IZ h) (fun v s2 ⟨vv,H2,J,rv,q⟩=>?_) fun _ _ z=>z.elim
 refine ⟨vv,H2,rv,?_,q⟩
 have un:Un (frs X.stack) [] H H2 s.heap s2.heap:=J.base
 exact I.call' J.os un J.hok J.bare fun b hb=>absurd hb (by simp)
end
section
variable {X:Cx}{pins:List (Addr × Obj)}{σ:St}{H:Hp}{s:Shared}
theorem Inv.grow {P:Addr}{ps more:Array Value}{h':Heap}{t':Nat}(I:Inv X pins σ H s)(hP:H P=some (.tbl ps))(hx:Heap.ExtBut P s.heap h')(hP':h'.get? P=some { cls:=.none,data:=.fields (ps++more) }):
  Inv X pins σ (upd H P (.tbl (ps++more))) { s with heap:=h',toks:=t' }:=by
 have ne:∀ b,H b=none->b≠P:=fun b n z=>by rw [z,hP] at n;cases n
 have hL:X.env.locals≠P:=ne _ I.free;refine I.step (g':=s.gens) (d':=s.drawn) (ch:=[]) (fun _ z=>nomatch z) (fun b o _ _ _ e n=>hx b o (ne b n) e) (fun b o _ _ _ e n=>⟨o.slots,hx b o (ne b n) e⟩) (fun b o _ _ n=>by rw [aN (ne b n)];exact n) (fun b o _ e=>?_) (fun b xs e=>?_) (fun b ob u e=>?_) (fun b qs e=>?_) (fun m hm=>?_) (fun b u e=>?_) I.bare
 ·by_cases hb:b=P
  ·subst hb;exact ⟨_,hP'⟩
  ·exact ⟨o,hx b o hb e⟩
 ·rw [aN (fun z=>by rw [z,hP] at e;cases e)];exact e
 ·rw [aN (fun z=>by rw [z,hP] at e;cases e)];exact e
 ·by_cases hb:b=P
  ·subst hb;rw [hP] at e;cases e;exact ⟨more,by rw [aO]⟩
  ·exact ⟨#[],by rw [aN hb,e];simp⟩
 ·exact hm.extBut hx hL
 ·by_cases hb:b=P
  ·subst hb;rw [aO] at e;cases e;exact hP'
  ·rw [aN hb] at e;refine (I.hok b u e).stay (fun c v hc q=>hx c v ?_ q) (fun c q=>by rw [aN (fun z=>by rw [z,hP] at q;cases q)];exact q) fun c xs q=>by rw [aN (fun z=>by rw [z,hP] at q;cases q)];exact q
   rcases hc with z| z
   ·rw [z];exact hb
   ·intro w;rw [w,hP] at z;cases z
def TabOk (P:Addr)(pos:Pos)(qual:Str)(H:Hp):Prop:=H P=some (.tbl #[])\/∃ c':Addr,H P=some (.tbl #[rawInt pos.line,rawInt pos.col,.ref c'])/\H c'=some (.ext fun h=>h.CodeRec (.ref c') qual)
def BM (mg:Str->Option Value)(base:Heap):Prop:=∃ bm ob,mg "__builtins__"=some (.ref bm)/\bm≠builtinsNs/\bm≠mainGlobals/\base.get? bm=some ob/\ob.cls=.type "module"/\ob.dict=some builtinsNs/\ob.data=.plain
theorem Vg {P c:Addr}{params:Arguments}{body:Expr}{scope:Scope}{pos:Pos}{Q:Value->Shared->Prop}{E:Value->Shared->Prop}{A:Around}(sc:Scope)(hsc:X.env.scope=sc)(f1:freeOk sc scope=true)(I:Inv X pins σ H s)(hbm:BM X.mg X.base)(hcode:X.env.code=.ref c)
  (hhd:codeHdIn X.K c P=true)(hT:TabOk P pos (X.env.qual++"<lambda>") H)(hdef:defaultsOf params X.env=([],[]))
  (h:∀ (f:Addr)(H':Hp)(s':Shared)(c':Addr)(pm ctv:Value),(∀ b o,H b=some o->b≠P->H' b=some o)->(∀ b,H' b=none->H b=none)->TabOk P pos (X.env.qual++"<lambda>") H'->H' c'=some (.ext fun h=>h.CodeRec (.ref c') (X.env.qual++"<lambda>")) ->
   Inv X (pins++[(f,({ cls:=.type "function",data:=.func (kla_fn "<lambda>" (X.env.qual++"<lambda>") params body scope (clo X.env.cells scope.names []) pm (.ref c') ctv) }:Obj))]) σ H' s'->Q (.ref f) s'):
  wpAny (model X.prog X.w) A (eval (.Lambda params body scope pos) X.env) Q E s:=by
 have ok:=I.ok
 have fr:∀ y∈scope.names,y.2=.free->X.env.kindOf y.1=some .cell\/X.env.kindOf y.1=some .free:=fun y hy e=>by
  have q:=ag3.mp f1 y hy
  rw [e] at q
  have q':((sc.names.lookup y.1 ==some NameKind.cell) || (sc.names.lookup y.1 ==some NameKind.free))=true:=by simpa using q
  rw [Bool.or_eq_true] at q'
  unfold Env.kindOf
  rw [hsc]
  rcases q' with z| z
  ·exact .inl (by simpa using z)
  ·exact .inr (by simpa using z)
 have hclos:closureFor scope X.env=pure (clo X.env.cells scope.names []):=wu fun y hy e=>ok.has y.1 (fr y hy e)
 have hg:s.heap.Ns mainGlobals X.mg:=I.mod.glob.keeps I.bk
 have C:CodeHd s.heap c P:=codeHd_of_K I.kIn hhd
 obtain ⟨bm,ob,b1,b2,b3,b4,b5,b6,b7⟩:=hbm
 have hbmP:∀ ps,H P=some (.tbl ps)->bm≠P:=fun ps e z=>by
  have:=(I.bs bm ob b4).2
  rw [z,e] at this;cases this
 have hB:∀ ps,H P=some (.tbl ps)->s.heap.BuiltinsAt X.mg P:=fun ps e=>⟨bm,ob,b1,b2,b3,hbmP ps e,I.bk bm ob b4,b5,b6,b7⟩
 refine kla_eval hdef ?_
 rcases hT with hT| ⟨c',hT,hc'⟩
 ·have hPo:s.heap.get? P=some (tabObj #[]):=I.hok P _ hT
  have hgP:mainGlobals≠P:=fun q=>by
   obtain ⟨o,es,ep,e,hd,_⟩:=id hg
   rw [q,hPo] at e;cases e;cases hd
  refine kla_makeFunction (mg:=X.mg) hclos ok.glob hg hcode C hPo trivial rfl hgP (hB _ hT) fun c' ctv h' tk hx hge hlt hrec htb=>?_
  have hPlt:P<s.heap.objs.size:=agr hPo
  have I1:Inv X pins σ (upd H P (.tbl (#[]++#[rawInt pos.line,rawInt pos.col,.ref c']))) { s with heap:=h',toks:=tk }:=I.grow hT hx htb
  have nc':H c'=none:=I.hok.fresh hge
  have hcP:c'≠P:=fun z=>by rw [z] at hge;exact absurd hPlt (Nat.not_lt.mpr hge)
  have nc1:(upd H P (.tbl (#[]++#[rawInt pos.line,rawInt pos.col,.ref c']))) c'=none:=by rw [aN hcP];exact nc'
  obtain ⟨q0,q1,q2,q3,q4,q5⟩:=I.G9 (H':=H) hge nc'
  have hs0:X.s₀.heap.objs.size<=c':=agS I.sz hge
  have I2:=I1.adopt (a:=c') (o:=.ext fun h=>h.CodeRec (.ref c') (X.env.qual++"<lambda>")) nc1 q1 hs0 q4 q5
   ⟨hrec,by obtain ⟨cc,o,vs,t,e1,e2,_⟩:=hrec;cases e1;exact ⟨o,e2⟩,fun h1 h2 x k=>x.at k⟩
  have I3:=I2.kept (h':=h'.push (kla_obj "<lambda>" (X.env.qual++"<lambda>") params body scope (clo X.env.cells scope.names []) ((X.mg "__name__").getD .none) c' ctv)) (t':=tk) fun b o e=>agc _ e
  have nf:(upd (upd H P (.tbl (#[]++#[rawInt pos.line,rawInt pos.col,.ref c']))) c' (.ext fun h=>h.CodeRec (.ref c') (X.env.qual++"<lambda>"))) h'.objs.size=none:=I2.hok.fresh (agb _)
  have I4:=I3.zF (I2.G9 (agb _) nf) (agl _ rfl) (fun v z=>by cases z)
  refine h _ _ _ c' _ ctv (fun b o e hb=>?_) (fun b e=>?_) (.inr ⟨c',?_,aO⟩) aO I4
  ·rw [aN (aY e nc'),aN hb];exact e
  ·cases z:H b with
   | none=>rfl
   | some o =>
    by_cases hb:b=P
    ·rw [hb,aN hcP.symm,aO] at e;cases e
    ·rw [aN (aY z nc'),aN hb,z] at e;cases e
  ·rw [aN hcP.symm,aO];simp
 ·have hPo:s.heap.get? P=some (tabObj #[rawInt pos.line,rawInt pos.col,.ref c']):=I.hok P _ hT
  have hfnd:codeAmong pos (#[rawInt pos.line,rawInt pos.col,.ref c']:Array Value).toList=some (.ref c'):=by simp [codeAmong,rawInt]
  refine kla_makeFunctionHit (mg:=X.mg) hclos ok.glob hg hcode C hPo trivial hfnd (hB _ hT) fun ctv h' tk hk hsz=>?_
  have I1:Inv X pins σ H { s with heap:=h',toks:=tk }:=I.kept hk
  have I3:=I1.kept (h':=h'.push ({ cls:=.type "function",data:=.func (kla_fn "<lambda>" (X.env.qual++"<lambda>") params body scope (clo X.env.cells scope.names []) ((X.mg "__name__").getD .none) (.ref c') ctv) }:Obj)) (t':=tk) fun b o e=>agc _ e
  have nf:H h'.objs.size=none:=I1.hok.fresh (agb _)
  have I4:=I3.zF (I1.G9 (agb _) nf) (agl _ rfl) (fun v z=>by cases z)
  exact h _ _ _ c' _ ctv (fun b o e _=>e) (fun b e=>e) (.inr ⟨c',hT,hc'⟩) hc' I4
end
def kE (n:Nat):List V:=(List.range n).map fun (i:Nat)=>V.int (i:Int)
def Ue (P:Addr)(lpos:Pos)(qual:Str)(cap:List (Option Nat))(ta:TA)(te:TE):TE:=fun σ H Q=>ta σ H fun vs H1=>∃ n:Nat,vs=[.int (n:Int)]/\n<64/\TabOk P lpos qual H1 /\
 ∀ H2,(∀ b o,H1 b=some o->b≠P->H2 b=some o)->(∀ b,H2 b=none->H1 b=none)->TabOk P lpos qual H2 ->
  ∃ (Pv:Nat->List Addr->Hp->Prop)(key:Nat->List Int)(κ:Nat->Int)(m:Nat),Pv 0 [] H2/\(∀ i ts H3,i<n->Pv i ts H3->(∀ c',H2 c'=some (.ext fun h=>h.CodeRec (.ref c') qual)->H3 c'=some (.ext fun h=>h.CodeRec (.ref c') qual))/\te (Gu (.int (i:Int)) cap σ) H3 fun v H4=>∃ t,v=.ref t/\Pv (i+1) (ts++[t]) H4) /\
   (∀ ts H3,Pv n ts H3->∀ i t,ts[i]?=some t->H3 t=some (.tup ((key i).map V.int)))/\(∀ i,i<n->(key i).length=m+1)/\(∀ i j,i<n->j<n->HT.lexLt (key i) (key j)=decide (κ i<κ j))/\Inj n κ /\
   ∀ ts H3 D ys,Pv n ts H3->H3 D=none->yR κ (kE n) ys->Q (.ref D) (upd H3 D (.lst ys))
section
variable {X:Cx}{e body:Expr}{ta:TA}{te:TE}{params:Arguments}{scope:Scope}{p1 p2 p3 lpos kp pos:Pos}
theorem Af {P c:Addr}{p:Str}(sc:Scope)(hsc:X.env.scope=sc)(N₀:List Str)(hN₀:X.N=N₀)(N':List Str)(cap:List (Option Nat))(f1:freeOk sc scope=true)(f2:J7 scope=true)(f3:abN scope p N₀ N' cap=true)
  (hcalm:X.calm=true)(hbm:BM X.mg X.base)(hcode:X.env.code=.ref c)(hhd:codeHdIn X.K c P=true)(hroom:X.A.depth+4<recursionLimit)
  (hgs:Gl X "sorted")(hms:X.mg "sorted"=none)(hgr:Gl X "range")(hmr:X.mg "range"=none)(ha:PA X [e] ta)
  (hb:∀ (A:Around)(f:Addr)(cv:Value)(s:Shared)(H:Hp),A.handled=none->A.depth<=X.A.depth+2->A.units<=X.A.units+2->PE (abO X scope (X.env.qual++"<lambda>") cv (p::N') A f s H) body te)
  (hbind:∀ (pm cv ctv u:Value),bindArgs (kla_fn "<lambda>" (X.env.qual++"<lambda>") params body scope (clo X.env.cells scope.names []) pm cv ctv) ⟨[u],[]⟩=pure [(p,u)])
  (hdef:defaultsOf params X.env=([],[]):=by rfl)(hs:starEach [e] X.env=[(false,eval e X.env)]:=by rfl):
  PE X (.Call (.Name "sorted" p1) [.Call (.Name "range" p2) [e] [] p3] [⟨some "key",.Lambda params body scope lpos,kp⟩] pos) (Ue P lpos (X.env.qual++"<lambda>") cap ta te):=by
 intro pins s σ H Q I h
 refine wpAny_Call_Name_kw (nj I hgs hms boot_sorted ?_)
 refine callWith_kw ?_
 show wpAny _ _ (spliced ((false,eval (.Call (.Name "range" p2) [e] [] p3) X.env)::[])) _ _ s
 refine ahp (Call_ (nj I hgr hmr boot_range (agJ (thn (ha p3 pins s σ H _ I h) fun us s1 ⟨vs,H1,I1,r1,q1⟩=>?_) hs rfl)))
 obtain ⟨n,e1,hn,hT,q⟩:=q1
 subst e1
 obtain ⟨u,rfl,t,rfl⟩:=vals1 r1
 refine call_range_1 ?_
 refine ahD ?_
 generalize hro:({ cls:=.type "range",data:=.fields #[.int 0 s1.toks,.int (n:Int) t,.int 1 (s1.toks+1)] }:Obj)=ro
 have hrd:∀ v,ro.data≠.cell v:=fun v z=>by rw [<- hro] at z;cases z
 have I2:Inv X pins σ H1 { s1 with heap:=s1.heap.push ro,toks:=s1.toks+1+1 }:=I1.kept fun b o e=>agc _ e
 have nr:H1 s1.heap.objs.size=none:=I1.hok.fresh (agb _)
 have I3:=I2.zF (I1.G9 (agb _) nr) (agl _ (by rw [<- hro];rfl)) hrd
 generalize ({ s1 with heap:=s1.heap.push ro,toks:=s1.toks+1+1 }:Shared)=s2 at I3 ⊢
 generalize s1.heap.objs.size=r at I3 ⊢
 refine kws_cons (Vg (P:=P) (c:=c) sc hsc f1 I3 hbm hcode hhd hT hdef fun f H2 s3 c' pm ctv k1 k2 hT2 hc' I4=>?_)
 refine kws_nil ?_
 show wpAny _ _ (call (.builtin "sorted") [.ref r] [(Str.ofString "key",.ref f)]) _ _ s3
 obtain ⟨Pv,key,κ,m,p0,step,htup,hlong,hκ,hinj,fin⟩:=q H2 k1 k2 hT2
 refine call_function_entry_kw kind_sorted plain_sorted entry_sorted (ksk_s1 _ _) ?_
 unfold Builtin.«sorted»
 refine wpAny_bind (m:=checkCount "sorted" 1 1 _) (wpAny_pure ?_)
 have pr:=I4.pin (r,ro) (agf _ (agT _ (agf _ (by simp))))
 have hR:IsRange s3.heap r 0 (n:Int) 1 s1.toks t (s1.toks+1):=by
  show s3.heap.get? r=_
  rw [pr.1,<- hro]
 have hrs:Builtin.Range.rangeSize 0 (n:Int) 1=(n:Nat):=by rw [rangeSize_one];split <;>omega
 refine wpAny_bind (G4 (A:=X.A.in1) (I.ok.hd hcalm) hR (small_one (by omega) (by omega) (by omega) (by omega)) hrs (by omega) fun h' tk vs hk rv=>?_)
 have I5:Inv X _ σ H2 { s3 with heap:=h',toks:=tk }:=I4.kept hk
 have hlen:=rv.length
 rw [aeu,ag0] at hlen
 refine wpAny_bind (wpAny_newList ?_ (by rw [sizeLine_eq];omega))
 have nD:H2 h'.objs.size=none:=I5.hok.fresh (agb _)
 have I6:Inv X _ σ H2 { s3 with heap:=h'.push (seqObj "list" vs.toArray 0),toks:=tk }:=I5.kept (t':=tk) fun b o e=>agc _ e
 have hD6:(h'.push (seqObj "list" vs.toArray 0)).get? h'.objs.size=some (seqObj "list" vs.toArray 0):=agl _ rfl
 have hxl:((List.range n).map fun (i:Nat)=>V.int (i:Int)).length=n:=by simp
 refine wpAny_bind (wpAny_holding (wpAny_call_entry_kw slot_list_sort ⟨_,hD6,rfl⟩ entry_list_sort ?body (ksk_l1 _ _)))
 show wpAny (model X.prog X.w) X.A.in1.in1 (Builtin.«list.sort» ⟨[.ref h'.objs.size],[(Str.ofString "key",.ref f)]⟩) _ _ _
 rw [ksk_t1]
 refine wpAny_mono (QD (X:=X) (A:=X.A.in1.in1) (s:={ s3 with heap:=h'.push (seqObj "list" vs.toArray 0),toks:=tk }) (xs:=kE n) (key:=key) (κ:=κ) (m:=m) (n0:=0) rv (by show ((List.range n).map _).length<64;rw [hxl];exact hn) Pv I6 hD6
  (fun H' hn'=>I5.G9 (agb _) hn') nD (agS I5.sz (agb _)) p0 ?call ?tup ?long ?kap ?inj) ?_ fun _ _ x=>x
 case call =>
  intro i x u ts pins' s' H' hx rx I' hsub pv
  obtain ⟨hi,ex⟩:i<n/\x=V.int (i:Int):=by
   have hx':((List.range n).map fun (i:Nat)=>V.int (i:Int))[i]?=some x:=hx
   rw [agg] at hx'
   by_cases hi:i<n
   ·rw [ahG hi] at hx'
    exact ⟨hi,(agz hx').symm⟩
   ·rw [ahc (by rw [ag0];omega)] at hx';cases hx'
  subst ex
  obtain ⟨hkc,ht⟩:=step i ts H' hi pv
  have hcr:s'.heap.CodeRec (.ref c') (X.env.qual++"<lambda>"):=(I'.hok c' _ (hkc c' hc')).1
  refine wpAny_mono (Vh (X:=X) (A:=X.A.in1.in1) sc hsc N₀ hN₀ f1 f2 f3 I' I.ok.frames (I.ok.hd hcalm) (by show X.A.depth<recursionLimit;omega) (hsub _ (agf _ agB)) hcr (hbind _ _ _ _)
   (hb _ f _ s' H' (I.ok.hd hcalm) (by show X.A.depth<=X.A.depth+2;omega) (by show X.A.units+1+1<=X.A.units+2;omega)) rx ht) (fun k s2 ⟨v,H3,rv',I7,t',ev,pv'⟩=>?_) fun _ _ x=>x
  subst ev
  have ek:k=.ref t':=rv'
  exact ⟨t',H3,ek,I7,pv'⟩
 case tup =>
  intro ts H' pv
  have pv':Pv n ts H':=by
   have:Pv ((List.range n).map fun (i:Nat)=>V.int (i:Int)).length ts H':=pv
   rw [hxl] at this;exact this
  exact htup ts H' pv'
 case long =>
  intro i hi
  have hi':i<((List.range n).map fun (i:Nat)=>V.int (i:Int)).length:=hi
  rw [hxl] at hi'
  exact hlong i hi'
 case kap =>
  intro i j hi hj
  have hi':i<((List.range n).map fun (i:Nat)=>V.int (i:Int)).length:=hi
  have hj':j<((List.range n).map fun (i:Nat)=>V.int (i:Int)).length:=hj
  rw [hxl] at hi' hj'
  exact hκ i j hi' hj'
 case inj =>
  have:(kE n).length=n:=hxl
  rw [this];exact hinj
 rintro fin' s8 ⟨rfl,ts,H8,ys,pv,nD8,hsb,I8⟩
 refine ⟨_,rfl,wpAny_pure ⟨_,rfl,?_⟩⟩
 have pv':Pv n ts H8:=by
  have e':(kE n).length=n:=hxl
  rw [e'] at pv;exact pv
 exact ⟨.ref h'.objs.size,_,I8.mC.mC,rfl,fin ts H8 _ ys pv' nD8 hsb⟩
end
def ab7 (ts:List Addr)(H:Hp):Prop:=∀ b,H b=none\/(∃ o xs,H b=some (.frz o (.lst xs)))\/(b∈ts/\H b=some (.tbl #[]))
theorem Rz {P:Program}{w:World}{K:PySem.W.Frag}{mg mb:Str->Option Value}{CX:CXT}{k:Nat}{fa a:Addr}{fd:FuncData}{x:Str}{sp:Sp}{s₁:Shared}{vs:List Value}{ns:List Int}{ts:List Addr}
  (KX:K.In s₁.heap)(hns:s₁.heap.Ns mainGlobals mg)(hb:s₁.heap.Ns builtinsNs mb)(hbb:∀ x:Str,x≠"__name__"->mb x=bootBuiltins x)(hlim:s₁.heap.NoLimit)(hg:s₁.gens=#[])
  (ha:s₁.heap.get? a=some { cls:=.type "list",data:=.seq vs.toArray })(hi:IntsAre vs ns)(hl:ns.length<=sizeLine)(hr:sJ k callerA)
  (hts:∀ P∈ts,s₁.heap.get? P=some (tabObj #[]))(htk:∀ P∈ts,K.lookup P=none)(htc:∀ P∈ts,isCodeTable s₁.heap P)
  (hbm:∃ bm ob,mg "__builtins__"=some (.ref bm)/\bm≠builtinsNs/\s₁.heap.get? bm=some ob/\ob.cls=.type "module"/\ob.dict=some builtinsNs/\ob.data=.plain)
  (F:∀ base:Heap,K.In base->base.Ns mainGlobals mg->BM mg base->Hf P w K mg base CX k fa fd [x] sp)(hbind:∀ (s:Shared)(u:Value),BindsTo s fd ⟨[u],[]⟩ [(x,u)])
  (hsp:∀ H:Hp,ab7 ts H->(∀ P∈ts,H P=some (.tbl #[]))->SqL K H a (ns.map V.int)->sp [.ref a] H (fun v _=>v=.bl true) fun _ _ _=>False)
  (hCX:∀ H e s',CX [] H s₁ (fun _ _ _=>False) e s'->False):
  codeAny (model P w) callerA (.call (.ref fa) ⟨[.ref a],[]⟩) (fun r s'=>r=.ok (.ret (.bool true))/\OldK s₁.heap s'.heap/\s'.os=s₁.os/\AllBare s'.gens) s₁:=by
 have rv:=Hi hi
 have lenV:=hi.length
 have haT:a ∉ ts:=fun z=>by have:=hts a z;rw [ha] at this;cases this
 have core:∀ H:Hp,ab7 ts H->(∀ P∈ts,H P=some (.tbl #[]))->SqL K H a (ns.map V.int)->HOk P w H s₁.heap->(∀ b,H b≠none->b=a\/b∈ts)->(H a≠none->K.lookup a=none) ->
   codeAny (model P w) callerA (.call (.ref fa) ⟨[.ref a],[]⟩) (fun r s'=>r=.ok (.ret (.bool true))/\OldK s₁.heap s'.heap/\s'.os=s₁.os/\AllBare s'.gens) s₁:=by
  intro H hO hTb hS hok hA hK
  have base_of:∀ {b:Addr}{o:Obj},s₁.heap.get? b=some o->H b=none->(TV s₁.heap H).get? b=some o:=fun e n=>Vl e n
  have noA:∀ {b:Addr}{o:Obj},s₁.heap.get? b=some o->(∀ xs n,o.data≠.seq xs n)->(∀ ps,o.data≠.fields ps)->H b=none:=fun {b o} e d1 d2=>by
   cases q:H b with
   | none=>rfl
   | some u =>
    rcases hA b (by rw [q];simp) with e' | e'
    ·subst e'
     rw [ha] at e;cases e
     exact absurd rfl (d1 _ _)
    ·have:=hts b e'
     rw [e] at this;cases this
     exact absurd rfl (d2 _)
  have nsK:∀ {b:Addr}{m:Str->Option Value},s₁.heap.Ns b m->(TV s₁.heap H).Ns b m:=fun {b m} ⟨o,es,ep,e,d,r⟩=>⟨o,es,ep,base_of e (noA e (fun _ _ z=>by rw [d] at z;cases z) fun _ z=>by rw [d] at z;cases z),d,r⟩
  have hKb:K.In (TV s₁.heap H):=fun b o e=>base_of (KX b o e) (by
   cases q:H b with
   | none=>rfl
   | some u =>
    rcases hA b (by rw [q];simp) with e' | e'
    ·subst e'
     rw [hK (by rw [q];simp)] at e;cases e
    ·rw [htk b e'] at e;cases e)
  have hM:Mod K mg (TV s₁.heap H):=⟨hKb,nsK hns,⟨mb,nsK hb,hbb⟩,let ⟨mc,h1,h2⟩:=hlim;⟨mc,nsK h1,h2⟩⟩
  have hBM:BM mg (TV s₁.heap H):=by
   obtain ⟨bm,ob,c1,c2,c3,c4,c5,c6⟩:=hbm
   refine ⟨bm,ob,c1,c2,fun q=>?_,base_of c3 (noA c3 (fun _ _ z=>by rw [c6] at z;cases z) fun _ z=>by rw [c6] at z;cases z),c4,c5,c6⟩
   obtain ⟨o,es,ep,e,hd,_⟩:=id hns
   rw [q,e] at c3;cases c3;rw [hd] at c6;cases c6
  have e0:acd P w K mg (TV s₁.heap H) callerA [] s₁ H:=⟨rfl,hM,fun b o e=>abI e,Nat.le_of_eq (RQ _ _),trivial,fun b hb=>absurd (show b∈([]:List Addr) from hb) (by simp),hok,.of_eq hg⟩
  refine codeAny_mono ((F _ hKb (nsK hns) hBM).run callerA [] s₁ H ⟨[.ref a],[]⟩ [.ref a] [.ref a] _ _ hr e0 (hbind s₁ (.ref a)) (.cons rfl .nil) (hsp H hO hTb hS)) fun r s' h=>?_
  cases r with
  | error e=>exact (hCX H e s' h).elim
  | ok fl =>
   cases fl with
   | next=>exact False.elim h
   | brk=>exact False.elim h
   | cont=>exact False.elim h
   | ret u =>
    obtain ⟨v,H',os,bare,un,hok',r',q⟩:=h
    have q':v=.bl true:=q
    subst q'
    obtain rfl:u=Value.bool true:=r'
    have old:∀ b o,s₁.heap.get? b=some o->asItWas s₁.heap s'.heap b o:=fun b o e=>by
     rcases hO b with z| ⟨ob,xs,z⟩ | ⟨hbt,z⟩
     ·exact .inl (un.keep b o e z (by intro z;exact absurd (show b∈([]:List Addr) from z) (by simp)) (by simp))
     ·have z2:=un.frzs b ob _ z
      obtain ⟨e1,_⟩:=hok b _ z
      obtain ⟨e2,_⟩:=hok' b _ z2
      rw [e] at e1;cases e1
      exact .inl e2
     ·obtain ⟨more,z2⟩:=un.tbls b #[] z
      have e2:s'.heap.get? b=some { cls:=.none,data:=.fields (#[]++more) }:=hok' b _ z2
      have e3:=hts b hbt
      rw [e] at e3;cases e3
      exact .inr (.inl ⟨htc b hbt,rfl,#[],more,rfl,e2⟩)
    refine ⟨rfl,⟨old,fun b o e=>?_⟩,os,bare⟩
    exact un.there b o e (by simp)
 have tb:∀ b,(if b∈ts then some (HO.tbl #[]) else none)=none\/b∈ts:=fun b=>by
  by_cases h:b∈ts
  ·exact .inr h
  ·exact .inl (if_neg h)
 cases hk:K.lookup a with
 | some o =>
  have e:=KX a o hk
  rw [ha] at e
  cases e
  refine core (fun b=>if b∈ts then some (.tbl #[]) else none) (fun b=>?_) (fun P hP=>if_pos hP) (.inr ⟨_,vs.toArray,_,hk,rfl,rfl,rfl,by rw [ags,lenV];exact hl,by simpa using rv⟩) (fun b u z=>?_) (fun b z=>?_) (fun z=>absurd (if_neg haT) z)
  ·by_cases h:b∈ts
   ·exact .inr (.inr ⟨h,if_pos h⟩)
   ·exact .inl (if_neg h)
  ·by_cases h:b∈ts
   ·have z':=(if_pos h).symm.trans z
    cases z'
    exact hts b h
   ·have z':=(if_neg h).symm.trans z
    cases z'
  ·by_cases h:b∈ts
   ·exact .inr h
   ·exact absurd (if_neg h) z
 | none =>
  refine core (fun b=>if b=a then some (.frz { cls:=.type "list",data:=.seq vs.toArray } (.lst (ns.map V.int))) else if b∈ts then some (.tbl #[]) else none) (fun b=>?_) (fun P hP=>?_) (.inl (.inr ⟨{ cls:=.type "list",data:=.seq vs.toArray },if_pos rfl⟩)) (fun b u z=>?_) (fun b z=>?_) fun _=>hk
  ·by_cases hb:b=a
   ·exact .inr (.inl ⟨_,_,if_pos hb⟩)
   ·by_cases h:b∈ts
    ·exact .inr (.inr ⟨h,(if_neg hb).trans (if_pos h)⟩)
    ·exact .inl ((if_neg hb).trans (if_neg h))
  ·have hb:P≠a:=fun z=>haT (z ▸ hP)
   exact (if_neg hb).trans (if_pos hP)
  ·by_cases hb:b=a
   ·have z':=(if_pos hb).symm.trans z
    cases z'
    subst hb
    exact ⟨ha,by rw [aeu];exact hl,vs,_,rv,ha⟩
   ·have z1:=(if_neg hb).symm.trans z
    by_cases h:b∈ts
    ·have z':=(if_pos h).symm.trans z1
     cases z'
     exact hts b h
    ·have z':=(if_neg h).symm.trans z1
     cases z'
  ·by_cases hb:b=a
   ·exact .inl hb
   ·by_cases h:b∈ts
    ·exact .inr h
    ·exact absurd ((if_neg hb).trans (if_neg h)) z
theorem T9 {l:PySem.W.OpenLaw}{n k:Nat}{q:Program}{loose:List Str}{XP:(Str->Option Value)->Heap->Prop}{YP:World->Heap->Prop}{d:DefRec}{K:Params->PySem.W.Frag}{CX:World->CXT}{sp:World->Sp}{x:Str}{ts:List Addr}
  (hn:l.most=some n)(hn2:n<=sizeLine)(hdf:d.params.defaults=[])(hr:sJ k callerA)
  (hY:∀ (w:World)(h:Heap),YP w h->(K w.params).In h)(hYt:∀ (w:World)(h:Heap),YP w h->∀ P∈ts,h.get? P=some (tabObj #[]))
  (hts:∀ (w:World),∀ P∈ts,(K w.params).lookup P=none/\∃ c,codeHdIn (K w.params) c P=true)
  (F:∀ (w:World)(mg:Str->Option Value)(fa:Addr)(h:Heap),(K w.params).In h->h.Ns mainGlobals mg->mg d.name=some (.ref fa) ->
   ∃ fd:FuncData,(∀ (s:Shared)(u:Value),BindsTo s fd ⟨[u],[]⟩ [(x,u)]) /\
    ∀ base:Heap,(K w.params).In base->base.Ns mainGlobals mg->BM mg base->Hf l.prog w (K w.params) mg base (CX w) k fa fd [x] (sp w))
  (hsp:∀ (w:World)(H:Hp)(a:Addr)(ns:List Int),ns.length<=n->ab7 ts H->(∀ P∈ts,H P=some (.tbl #[]))->SqL (K w.params) H a (ns.map V.int)->sp w [.ref a] H (fun v _=>v=.bl true) fun _ _ _=>False)
  (hCX:∀ (w:World)(H:Hp)(s:Shared)(e:Value)(s':Shared),CX w [] H s (fun _ _ _=>False) e s'->False):
  PySem.W.WalkO q loose XP YP l.row.toRowW d [] (fun f vs=>PySem.call f vs):=by
 refine Att.KC hn hdf fun w s₀ s₁ mg mb fa o pm cd doc a vs ns G Y ho hd hcd hmg hobj hints hlen hg=>?_
 have KX:=hY w _ Y
 obtain ⟨fd,hb,hF⟩:=F w mg fa _ KX G.T.g hmg
 refine Rz KX G.T.g G.T.b G.T.builtins G.T.nolimit hg hobj hints (agS hlen hn2) hr (hYt w _ Y) (fun P hP=>(hts w P hP).1) (fun P hP=>?_) G.T.bmain hF hb (fun H hO hT hS=>hsp w H a ns hlen hO hT hS) fun H e s'=>hCX w H s₁ e s'
 obtain ⟨c,hc⟩:=(hts w P hP).2
 obtain ⟨o,vs,file,tf,flags,tg,inF,text,tt,e1,e2,e3,e4,_⟩:=codeHd_of_K KX hc
 exact ⟨c,o,vs,e1,e2,e3,e4⟩
end L2
namespace L2
open PySem PySem.Spec PyProof.Rows
mutual
inductive Den (K:PySem.W.Frag)(H:Hp):V->PyData->Prop
 | non:Den K H .non .none
 | bl (b:Bool):Den K H (.bl b) (.bool b)
 | int (i:Int):Den K H (.int i) (.int i)
 | str (x:Str):Den K H (.str x) (.str x)
 | list {a:Addr} {xs:List V} {ds:List PyData}:SqL K H a xs->bY K H xs ds->Den K H (.ref a) (.list ds)
 | tuple {a:Addr} {xs:List V} {ds:List PyData}:SqT K H a xs->bY K H xs ds->Den K H (.ref a) (.tuple ds)
inductive bY (K:PySem.W.Frag)(H:Hp):List V->List PyData->Prop
 | nil:bY K H [] []
 | cons {v:V} {vs:List V} {d:PyData} {ds:List PyData}:Den K H v d->bY K H vs ds->bY K H (v::vs) (d::ds)
end
theorem bY.length {K:PySem.W.Frag}{H:Hp}:∀ {vs:List V}{ds:List PyData},bY K H vs ds->vs.length=ds.length
 | _,_,.nil=>rfl
 | _,_,.cons _ hs=>by rw [agx,agx,bY.length hs]
theorem bY.append {K:PySem.W.Frag}{H:Hp}:∀ {vs ws:List V}{ds es:List PyData},bY K H vs ds->bY K H ws es->bY K H (vs++ws) (ds++es)
 | _,_,_,_,.nil,h=>h
 | _,_,_,_,.cons h hs,h'=>.cons h (bY.append hs h')
theorem bY.get {K:PySem.W.Frag}{H:Hp}:∀ {vs:List V}{ds:List PyData}{i:Nat}{d:PyData},bY K H vs ds->ds[i]?=some d->∃ v,vs[i]?=some v/\Den K H v d
 | _,_,_,_,.nil,e=>by simp at e
 | _,_,0,_,.cons h _,e=>by simp at e;subst e;exact ⟨_,rfl,h⟩
 | _,_,i+1,d,.cons _ hs,e=>by
  obtain ⟨v,h1,h2⟩:=bY.get (i:=i) (d:=d) hs (by simpa using e);exact ⟨v,by simpa using h1,h2⟩
theorem bY.get' {K:PySem.W.Frag}{H:Hp}:∀ {vs:List V}{ds:List PyData}{i:Nat}{v:V},bY K H vs ds->vs[i]?=some v->∃ d,ds[i]?=some d/\Den K H v d
 | _,_,_,_,.nil,e=>by simp at e
 | _,_,0,_,.cons h _,e=>by simp at e;subst e;exact ⟨_,rfl,h⟩
 | _,_,i+1,v,.cons _ hs,e=>by
  obtain ⟨d,h1,h2⟩:=bY.get' (i:=i) (v:=v) hs (by simpa using e);exact ⟨d,by simpa using h1,h2⟩
theorem bY.set {K:PySem.W.Frag}{H:Hp}{v:V}{d:PyData}(h:Den K H v d):∀ {vs:List V}{ds:List PyData}(i:Nat),bY K H vs ds->bY K H (vs.set i v) (ds.set i d)
 | _,_,_,.nil=>.nil
 | _,_,0,.cons _ hs=>.cons h hs
 | _,_,i+1,.cons q hs=>.cons q (bY.set h i hs)
theorem bY.ints {K:PySem.W.Frag}{H:Hp}:∀ (ns:List Int),bY K H (ns.map V.int) (ns.map PyData.int)
 | []=>.nil
 | n::ns=>.cons (.int n) (bY.ints ns)
def sI (ns:List Int):PyData:=.list (ns.map PyData.int)
theorem Den.ints {K:PySem.W.Frag}{H:Hp}{a:Addr}{ns:List Int}(h:SqL K H a (ns.map V.int)):Den K H (.ref a) (sI ns):=.list h (bY.ints ns)
theorem bY.int_inv {K:PySem.W.Frag}{H:Hp}:∀ {vs:List V}{ns:List Int},bY K H vs (ns.map PyData.int)->vs=ns.map V.int
 | _,[],.nil=>rfl
 | _,n::ns,.cons h hs=>by
  cases h;rw [bY.int_inv hs];rfl
theorem Den.int_inv {K:PySem.W.Frag}{H:Hp}{v:V}{i:Int}(h:Den K H v (.int i)):v=.int i:=by cases h;rfl
theorem Den.vJ {K:PySem.W.Frag}{H:Hp}{v:V}{ns:List Int}(h:Den K H v (sI ns)):∃ a,v=.ref a/\SqL K H a (ns.map V.int):=by
 cases h with
 | list h hs=>exact ⟨_,rfl,by rw [<- bY.int_inv hs];exact h⟩
section
variable {X:Cx}{pins:List (Addr × Obj)}{σ:St}{H:Hp}{s:Shared}
mutual
theorem Den.reads (I:Inv X pins σ H s):∀ {v:V}{d:PyData}{u:Value},Den X.K H v d->RelV v u->∃ as,Reads s.heap u d as
 | _,_,_,.non,r=>by cases r;exact ⟨_,.none⟩
 | _,_,_,.bl b,r=>by cases r;exact ⟨_,.bool b⟩
 | _,_,_,.int i,r=>by obtain ⟨t,rfl⟩:=r;exact ⟨_,.int i t⟩
 | _,_,_,.str x,r=>by obtain ⟨t,rfl⟩:=r;exact ⟨_,.str x t⟩
 | _,_,_,.list h hs,r=>by
  cases r;obtain ⟨its,r1,⟨o,n,e,c,_,d⟩,_⟩:=I.list h;obtain ⟨as,q⟩:=bY.reads I hs r1;exact ⟨_,.list e c d (by simpa using q)⟩
 | _,_,_,.tuple h hs,r=>by
  cases r;obtain ⟨its,r1,⟨o,e,c,n,d⟩,_⟩:=I.tuple h;obtain ⟨as,q⟩:=bY.reads I hs r1;exact ⟨_,.tuple e c d (by simpa using q)⟩
theorem bY.reads (I:Inv X pins σ H s):∀ {vs:List V}{ds:List PyData}{us:List Value},bY X.K H vs ds->Vals vs us->∃ as,ReadsAll s.heap us ds as
 | _,_,_,.nil,r=>by cases r;exact ⟨_,.nil⟩
 | _,_,_,.cons h hs,r=>by
  cases r with
  | cons r1 r2 =>
   obtain ⟨as,q⟩:=Den.reads I h r1;obtain ⟨bs,q'⟩:=bY.reads I hs r2;exact ⟨_,.cons q q'⟩
end
def afL (K:PySem.W.Frag)(neg:Bool):R2:=fun x y H Q=>∃ d e,Den K H x d/\Den K H y e/\SeqAt.shaped d=true/\SeqAt.shaped e=true/\Q (.bl (if neg then !PyData.eqv d e else PyData.eqv d e)) H
theorem Wk (hu:X.A.units+64<cLine):OpR X (compareOp .Eq) (afL X.K false):=by
 intro pins s σ H x y v u Q I rx ry h;obtain ⟨d,e,hd,he,sd,se,q⟩:=h;obtain ⟨as,ra⟩:=hd.reads I rx;obtain ⟨bs,rb⟩:=he.reads I ry;exact SeqAt.compareEq_shaped ra rb sd se hu ⟨.bl _,H,I,rfl,q⟩
theorem Q7 (hu:X.A.units+64<cLine):OpR X (compareOp .NotEq) (afL X.K true):=by
 intro pins s σ H x y v u Q I rx ry h;obtain ⟨d,e,hd,he,sd,se,q⟩:=h;obtain ⟨as,ra⟩:=hd.reads I rx;obtain ⟨bs,rb⟩:=he.reads I ry;exact SeqAt.compareNe_shaped ra rb sd se hu ⟨.bl _,H,I,rfl,q⟩
end
def Sh (n:Nat)(d:PyData):Prop:=d.canLay0=true/\d.depth<=n
theorem Tc:∀ {ds:List PyData},(∀ d∈ds,d.canLay0=true)->PyData.canLayAll0 ds=true
 | [],_=>rfl
 | d::ds,h=>by rw [PyData.canLayAll0,h d agB,Tc fun x hx=>h x (agv _ hx)];rfl
theorem Sq {n:Nat}:∀ {ds:List PyData},(∀ d∈ds,d.depth<=n)->PyData.depthAll ds<=n
 | [],_=>by simp [PyData.depthAll]
 | d::ds,h=>by
  have h1:=h d agB;have h2:=Sq fun x hx=>h x (agv _ hx);simp only [PyData.depthAll];omega
theorem Sh.int (n:Nat)(i:Int):Sh n (.int i):=⟨rfl,by simp [PyData.depth]⟩
theorem Sh.list {n:Nat}{ds:List PyData}(h:∀ d∈ds,Sh n d):Sh (n+1) (.list ds):=⟨by rw [PyData.canLay0];exact Tc fun d hd=>(h d hd).1,by
 have:=Sq fun d hd=>(h d hd).2;simp only [PyData.depth];omega⟩
theorem Sh.tuple {n:Nat}{ds:List PyData}(h:∀ d∈ds,Sh n d):Sh (n+1) (.tuple ds):=⟨by rw [PyData.canLay0];exact Tc fun d hd=>(h d hd).1,by
 have:=Sq fun d hd=>(h d hd).2;simp only [PyData.depth];omega⟩
theorem Sh.ints (n:Nat)(ns:List Int):Sh (n+1) (sI ns):=.list fun d hd=>by
 obtain ⟨i,_,rfl⟩:=agF.mp hd;exact .int n i
theorem Sh.ok {n:Nat}{d:PyData}(h:Sh n d)(hn:n<=64):SeqAt.shaped d=true:=by
 unfold SeqAt.shaped;rw [h.1,decide_eq_true (by have:=h.2;omega)];rfl
theorem Bq {n:Nat}{d:PyData}(h:Sh n d):PyData.eqv d d=true:=SeqAt.eqv_refl d h.1
abbrev fJ:=List (Addr × Pos × Str)
def TabsOk (T:fJ)(H:Hp):Prop:=∀ t∈T,TabOk t.1 t.2.1 t.2.2 H
structure aJ (T:fJ)(H H':Hp):Prop where
 t0:TabsOk T H
 t1:TabsOk T H'
 keep:∀ b o,H b=some o->(∀ ps,o≠.tbl ps)->H' b=some o
 tb:∀ b ps,H b=some (.tbl ps)->∃ ps',H' b=some (.tbl ps')
theorem TabsOk.mono {T:fJ}{H H':Hp}(t:TabsOk T H)(s:Same H H'):TabsOk T H':=fun q hq=>by
 rcases t q hq with e| ⟨c,e1,e2⟩
 ·exact .inl (s _ _ e)
 ·exact .inr ⟨c,s _ _ e1,s _ _ e2⟩
theorem aJ.refl {T:fJ}{H:Hp}(t:TabsOk T H):aJ T H H:=⟨t,t,fun _ _ h _=>h,fun _ ps h=>⟨ps,h⟩⟩
theorem aJ.of {T:fJ}{H H':Hp}(t:TabsOk T H)(s:Same H H'):aJ T H H':=⟨t,t.mono s,fun b o h _=>s b o h,fun b ps h=>⟨ps,s _ _ h⟩⟩
theorem aJ.trans {T:fJ}{H H1 H2:Hp}(a:aJ T H H1)(b:aJ T H1 H2):aJ T H H2:=⟨a.t0,b.t1,fun c o h n=>b.keep c o (a.keep c o h n) n,fun c ps h=>by
 obtain ⟨ps',e⟩:=a.tb c ps h;exact b.tb c ps' e⟩
theorem aJ.free {T:fJ}{H H':Hp}(a:aJ T H H'){l:Addr}(h:H' l=none):H l=none:=by
 cases q:H l with
 | none=>rfl
 | some o =>
  have key:(∃ ps,o=.tbl ps)\/∀ ps,o≠.tbl ps:=by
   cases o with
   | tbl ps=>exact .inl ⟨ps,rfl⟩
   | _=>exact .inr fun _ z=>by cases z
  rcases key with ⟨ps,rfl⟩ | n
  ·obtain ⟨ps',e⟩:=a.tb l ps q;rw [h] at e;cases e
  ·have:=a.keep l o q n;rw [h] at this;cases this
theorem aJ.seq {T:fJ}{K:PySem.W.Frag}{H H':Hp}{a:Addr}{xs:List V}(e:aJ T H H')(h:SqL K H a xs):SqL K H' a xs:=by
 rcases h with (h| ⟨o,h⟩) | h
 ·exact .inl (.inl (e.keep _ _ h fun _ z=>by cases z))
 ·exact .inl (.inr ⟨o,e.keep _ _ h fun _ z=>by cases z⟩)
 ·exact .inr h
theorem aJ.TF {T:fJ}{K:PySem.W.Frag}{H H':Hp}{a:Addr}{xs:List V}(e:aJ T H H')(h:SqT K H a xs):SqT K H' a xs:=by
 rcases h with (h| ⟨o,h⟩) | h
 ·exact .inl (.inl (e.keep _ _ h fun _ z=>by cases z))
 ·exact .inl (.inr ⟨o,e.keep _ _ h fun _ z=>by cases z⟩)
 ·exact .inr h
mutual
theorem Den.Cz {T:fJ}{K:PySem.W.Frag}{H H':Hp}(e:aJ T H H'):∀ {v:V}{d:PyData},Den K H v d->Den K H' v d
 | _,_,.non=>.non
 | _,_,.bl b=>.bl b
 | _,_,.int i=>.int i
 | _,_,.str x=>.str x
 | _,_,.list h hs=>.list (e.seq h) (bY.Cz e hs)
 | _,_,.tuple h hs=>.tuple (e.TF h) (bY.Cz e hs)
theorem bY.Cz {T:fJ}{K:PySem.W.Frag}{H H':Hp}(e:aJ T H H'):∀ {vs:List V}{ds:List PyData},bY K H vs ds->bY K H' vs ds
 | _,_,.nil=>.nil
 | _,_,.cons h hs=>.cons (Den.Cz e h) (bY.Cz e hs)
end
def zX (T:fJ)(H:Hp)(P:List V->Prop)(Q:VK):Prop:=∀ (l:Addr)(H':Hp)(xs:List V),aJ T H H'->H l=none->H' l=some (.lst xs)->P xs->Q (.ref l) H'
def rN:HO->Bool
 | .tbl _=>false
 | .ext _=>false
 | _=>true
structure Ow (T:fJ)(H0 H:Hp)(L:List (Addr × HO)):Prop where
 same:aJ T H0 H
 new:∀ p∈L,H0 p.1=none
 at_:∀ p∈L,H p.1=some p.2
 pl:∀ p∈L,rN p.2=true
 nd:(L.map (·.1)).Nodup
section
variable {T:fJ}{H0 H1 H H':Hp}{L L':List (Addr × HO)}{a l:Addr}{o o':HO}{xs:List V}
theorem Ow.refl (t:TabsOk T H):Ow T H H []:=⟨aJ.refl t,(fun p hp=>nomatch hp),(fun p hp=>nomatch hp),(fun p hp=>nomatch hp),List.nodup_nil⟩
theorem Ow.get (O:Ow T H0 H L)(k:Nat)(h:L[k]?=some (a,o):=by rfl):H a=some o:=O.at_ _ (agd h)
theorem Ow.fr (O:Ow T H0 H L)(k:Nat)(h:L[k]?=some (a,o):=by rfl):H0 a=none:=O.new _ (agd h)
theorem Ow.sq {K:PySem.W.Frag}(O:Ow T H0 H L)(k:Nat)(h:L[k]?=some (a,.lst xs):=by rfl):SqL K H a xs:=SqL.of (O.get k h)
theorem Ow.sqT {K:PySem.W.Frag}(O:Ow T H0 H L)(k:Nat)(h:L[k]?=some (a,.tup xs):=by rfl):SqT K H a xs:=SqT.of (O.get k h)
theorem TabOk.upd {P:Addr}{pos:Pos}{q:Str}(t:TabOk P pos q H)(h:H a=none\/∃ o,H a=some o/\rN o=true):TabOk P pos q (L2.upd H a o'):=by
 have ne:∀ b u,H b=some u->rN u=false->b≠a:=fun b u e p z=>by
  subst z;rcases h with h| ⟨o,h,ho⟩
  ·rw [h] at e;cases e
  ·rw [h] at e;cases e;rw [ho] at p;cases p
 rcases t with e| ⟨c,e1,e2⟩
 ·exact .inl (by rw [aN (ne _ _ e rfl)];exact e)
 ·exact .inr ⟨c,by rw [aN (ne _ _ e1 rfl)];exact e1,by rw [aN (ne _ _ e2 rfl)];exact e2⟩
theorem aJ.upd (s:aJ T H0 H)(h:H0 a=none)(h':H a=none\/∃ o,H a=some o/\rN o=true):aJ T H0 (L2.upd H a o'):=
 ⟨s.t0,fun t ht=>(s.t1 t ht).upd h',fun b u e n=>by rw [aN (aY e h)];exact s.keep b u e n,fun b ps e=>by rw [aN (aY e h)];exact s.tb b ps e⟩
theorem Ow.mk' (O:Ow T H0 H L)(h:H a=none)(ho:rN o=true):Ow T H0 (upd H a o) ((a,o)::L):=by
 have ne:∀ p∈L,p.1≠a:=fun p hp=>aY (O.at_ p hp) h;have n0:H0 a=none:=O.same.free h;refine ⟨O.same.upd n0 (.inl h),fun p hp=>?_,fun p hp=>?_,fun p hp=>?_,?_⟩
 ·rcases agu.mp hp with e| e
  ·rw [e];exact n0
  ·exact O.new p e
 ·rcases agu.mp hp with e| e
  ·rw [e];exact aO
  ·rw [aN (ne p e)];exact O.at_ p e
 ·rcases agu.mp hp with e| e
  ·rw [e];exact ho
  ·exact O.pl p e
 ·rw [agH,ahh];refine ⟨fun hm=>?_,O.nd⟩;obtain ⟨p,hp,e⟩:=agF.mp hm;exact ne p hp e
theorem QF:∀ {L:List (Addr × HO)}{k:Nat}{a:Addr}{o o':HO},L[k]?=some (a,o)->(L.set k (a,o')).map (·.1)=L.map (·.1)
 | [],_,_,_,_,h=>by simp at h
 | p::L,0,a,o,o',h=>by
  have:p=(a,o):=by simpa using h
  rw [this];rfl
 | p::L,k+1,a,o,o',h=>by
  rw [ahA,agH,agH,QF (L:=L) (k:=k) (o:=o) (by simpa using h)]
theorem Ow.abm (O:Ow T H0 H L)(k:Nat)(h:L[k]?=some (a,o))(ho:rN o'=true):Ow T H0 (upd H a o') (L.set k (a,o')):=by
 have hm0:=agd h;have n0:H0 a=none:=O.new _ hm0;have hk:k<L.length:=(af4.mp h).1;refine ⟨O.same.upd n0 (.inr ⟨o,O.at_ _ hm0,O.pl _ hm0⟩),fun p hp=>?_,fun p hp=>?_,fun p hp=>?_,by rw [QF h];exact O.nd⟩
 ·rcases ahs hp with e| e
  ·exact O.new p e
  ·rw [e];exact n0
 ·obtain ⟨j,hj,e⟩:=aha hp;by_cases hjk:j=k
  ·subst hjk;rw [List.getElem_set_self] at e;rw [<- e];exact aO
  ·rw [List.getElem_set_ne (Ne.symm hjk)] at e;have hj':j<L.length:=by rw [agG] at hj;exact hj
   have hm:p∈L:=by rw [<- e];exact ahd hj'
   rw [aN]
   ·exact O.at_ p hm
   ·intro z;have e1:(L.map (·.1))[j]?=some p.1:=by rw [agg,af9 hj',e];rfl
    have e2:(L.map (·.1))[k]?=some a:=by rw [agg,h];rfl
    rw [z] at e1;obtain ⟨a1,a2⟩:=af4.mp e1;obtain ⟨b1,b2⟩:=af4.mp e2;exact hjk ((ahy O.nd).mp (a2.trans b2.symm))
 ·rcases ahs hp with e| e
  ·exact O.pl p e
  ·rw [e];exact ho
theorem QW {o:HO}(h:rN o=true):∀ ps,o≠.tbl ps:=fun ps z=>by rw [z] at h;cases h
theorem Ow.dD (O:Ow T H0 H L)(s:aJ T H H'):Ow T H0 H' L:=⟨O.same.trans s,O.new,fun p hp=>s.keep _ _ (O.at_ p hp) (QW (O.pl p hp)),O.pl,O.nd⟩
theorem Ow.adq (O:Ow T H0 H L)(s:aJ T H H')(n:H l=none)(h:H' l=some o)(ho:rN o=true):Ow T H0 H' ((l,o)::L):=by
 have O2:=O.dD s;refine ⟨O2.same,fun p hp=>?_,fun p hp=>?_,fun p hp=>?_,?_⟩
 ·rcases agu.mp hp with e| e
  ·rw [e];exact O.same.free n
  ·exact O.new p e
 ·rcases agu.mp hp with e| e
  ·rw [e];exact h
  ·exact O2.at_ p e
 ·rcases agu.mp hp with e| e
  ·rw [e];exact ho
  ·exact O.pl p e
 ·rw [agH,ahh];refine ⟨fun hm=>?_,O.nd⟩;obtain ⟨p,hp,e⟩:=agF.mp hm;exact aY (O.at_ p hp) n e
theorem Ow.more (O:Ow T H0 H L)(s:Same H H')(n:H l=none)(h:H' l=some o)(ho:rN o=true):Ow T H0 H' ((l,o)::L):=O.adq (aJ.of O.same.t1 s) n h ho
theorem Ow.sub (O:Ow T H0 H L)(h:L'.Sublist L):Ow T H0 H L':=⟨O.same,fun p hp=>O.new p (h.subset hp),fun p hp=>O.at_ p (h.subset hp),fun p hp=>O.pl p (h.subset hp),O.nd.sublist (h.map _)⟩
theorem Ow.perm (O:Ow T H0 H L)(h:L'.Perm L):Ow T H0 H L':=⟨O.same,fun p hp=>O.new p (h.mem_iff.mp hp),fun p hp=>O.at_ p (h.mem_iff.mp hp),fun p hp=>O.pl p (h.mem_iff.mp hp),(h.map _).nodup_iff.mpr O.nd⟩
theorem Ow.tail {p:Addr × HO}(O:Ow T H0 H (p::L)):Ow T H0 H L:=O.sub (ag1 _ _)
theorem Ow.two {p q:Addr × HO}(O:Ow T H0 H (p::q::L)):Ow T H0 H (p::L):=O.sub ((ag1 _ _).cons₂ _)
theorem Ow.base (O:Ow T H0 H L)(s:aJ T H1 H0):Ow T H1 H L:=⟨s.trans O.same,fun p hp=>s.free (O.new p hp),O.at_,O.pl,O.nd⟩
theorem Ow.reb (O:Ow T H0 H L):∃ H1,Ow T H1 H L/\aJ T H0 H1/\∀ b o,H b=some o->(∀ p∈L,p.1≠b)->H1 b=some o:=by
 have keep:∀ b u,H b=some u->(∀ p∈L,p.1≠b)->(fun b=>if b∈L.map (·.1) then none else H b:Hp) b=some u:=fun b u e h=>by
  show (if b∈L.map (·.1) then none else H b)=some u
  rw [if_neg fun hm=>?_];· exact e
  obtain ⟨p,hp,z⟩:=agF.mp hm
  exact h p hp z
 have back:∀ b u,(fun b=>if b∈L.map (·.1) then none else H b:Hp) b=some u->H b=some u:=fun b u e=>by
  dsimp only at e
  split at e
  ·cases e
  ·exact e
 have npl:∀ b u,H b=some u->rN u=false->∀ p∈L,p.1≠b:=fun b u e h p hp z=>by
  have:=O.at_ p hp
  rw [z,e] at this
  have e':u=p.2:=agz this
  rw [e',O.pl p hp] at h;cases h
 have tk:TabsOk T (fun b=>if b∈L.map (·.1) then none else H b):=fun t ht=>by
  rcases O.same.t1 t ht with e| ⟨c,e1,e2⟩
  ·exact .inl (keep _ _ e (npl _ _ e rfl))
  ·exact .inr ⟨c,keep _ _ e1 (npl _ _ e1 rfl),keep _ _ e2 (npl _ _ e2 rfl)⟩
 refine ⟨fun b=>if b∈L.map (·.1) then none else H b,⟨⟨tk,O.same.t1,fun b u e _=>back b u e,fun b ps e=>⟨ps,back _ _ e⟩⟩,fun p hp=>?_,O.at_,O.pl,O.nd⟩,⟨O.same.t0,tk,fun b u e n=>?_,fun b ps e=>?_⟩,keep⟩
 ·exact if_pos (agF.mpr ⟨p,hp,rfl⟩)
 ·refine keep b u (O.same.keep b u e n) fun p hp z=>?_
  rw [<- z,O.new p hp] at e;cases e
 ·obtain ⟨ps',e'⟩:=O.same.tb b ps e
  exact ⟨ps',keep _ _ e' (npl _ _ e' rfl)⟩
theorem uc {i:Int}{j:Nat}{v:V}{Q:Hp->Prop}(O:Ow T H0 H L)(k:Nat)(h:L[k]?=some (l,.lst xs))(hi:ixN xs.length i=some j)(q:∀ H',Ow T H0 H' (L.set k (l,.lst (xs.set j v)))->Q H'):acR (.ref l) (.int i) v H Q:=
 ⟨l,xs,i,j,rfl,rfl,O.get k h,hi,q _ (O.abm k h rfl)⟩
theorem Ow.ret {P:List V->Prop}{Q:VK}(O:Ow T H0 H L)(k:Nat)(h:L[k]?=some (l,.lst xs))(q:zX T H0 P Q)(p:P xs):Q (.ref l) H:=q l H xs O.same (O.fr k h) (O.get k h) p
theorem Ow.got {P:List V->Prop}{Q:VK}(O:Ow T H0 H L)(k:∀ l H' xs,Ow T H0 H' ((l,.lst xs)::L)->P xs->Q (.ref l) H'):acq H P Q:=fun l H' xs s n h p=>k l H' xs (O.more s n h rfl) p
theorem Ow.M6 {P:List V->Prop}{Q:VK}(O:Ow T H0 H L)(k:∀ l H' xs,Ow T H0 H' ((l,.lst xs)::L)->P xs->Q (.ref l) H'):zX T H P Q:=fun l H' xs s n h p=>k l H' xs (O.adq s n h rfl) p
end
end L2
namespace L2
open PySem PySem.W PySem.Spec PyProof.Rows
theorem szl {n:Nat}(h:Nat.ble n 100000=true:=by rfl):n<=sizeLine:=jL (Nat.le_of_ble_eq_true h)
theorem Kl (p:Int)(ns:List Int):inV (.int p) (ns.map V.int)=decide (p∈ns):=by
 unfold inV;rw [List.any_map,ag6];simp only [List.any_eq_true,decide_eq_true_eq];constructor
 ·rintro ⟨x,hx,e⟩;have e':(x ==p)=true:=e;have:x=p:=by simpa using e'
  rw [<- this];exact hx
 ·intro h;exact ⟨p,h,show (p ==p)=true by simp⟩
theorem CZ (ns:List Int):(ns.map V.int).all GJ=true:=by
 rw [List.all_map,ag3];intro _ _;rfl
theorem Fun.okC {P:Program}{w:World}{K:PySem.W.Frag}{mg:Str->Option Value}{base:Heap}{x qual:Str}{st:Stmt}{f:Addr}{fd:FuncData}{N ps:List Str}{k:Nat}{sp:Sp}{c:Value}(F:Fun K x qual st f fd)(hc:fd.code=c)(S:aG N ps (ao st))(len:∀ vs H Q E,sp vs H Q E->vs.length=ps.length)
  (hbody:∀ (A:Around)(outer:List Env)(s:Shared)(H:Hp)(vs:List V)(Q:VK)(E:XK),sJ k (A.deeper (envOfC qual (ao st) s.heap.objs.size f c))->sp vs H Q E ->
   ∃ t,PSs (SQ CX0 P w K mg base N qual (ao st) f c A outer s H E).nox (fV st) t/\t { nx:=fun _ H'=>Q .non H',rt:=Q } (start N vs) H):Hf P w K mg base CX0 (k+1) f fd ps sp:=by
 obtain ⟨oc,od,kV,doc,pm,an,cdv,ct,osl,rfl,lk,hcd⟩:=F.ex;have e:cdv=c:=hc;subst e;refine Vq lk hcd S len fun A outer s H vs Q E hr hsp=>?_;obtain ⟨t,h,q⟩:=hbody A outer s H vs Q E hr hsp;exact ⟨t,h.nox,q⟩
theorem MK {k:Nat}{A XA:Around}{env:Env}(r:sJ (k+2) XA)(hh:A.handled=none)(hd:A.depth<=XA.depth+2)(hu:A.units<=XA.units+2):sJ k (A.deeper env):=
 ⟨hh,by have:=r.dp;show A.depth+1+3*k+5<_;omega,by have:=r.un;show A.units+3+16*k+200<_;omega⟩
theorem MN {A:Around}(r:sJ 1 A):A.depth+4<recursionLimit:=by have:=r.dp;omega
theorem aJ.tab {T:fJ}{H H2:Hp}{P:Addr}{pos:Pos}{q:Str}(t:TabsOk T H)(hm:(P,pos,q)∈T)(nd:(T.map (·.1)).Nodup)(k1:∀ b o,H b=some o->b≠P->H2 b=some o)(t2:TabOk P pos q H2):aJ T H H2:=by
 have hP:∃ ps,H P=some (.tbl ps):=by
  rcases t _ hm with e| ⟨c,e,_⟩
  ·exact ⟨_,e⟩
  ·exact ⟨_,e⟩
 obtain ⟨ps0,hP⟩:=hP;have hP2:∃ ps,H2 P=some (.tbl ps):=by
  rcases t2 with e| ⟨c,e,_⟩
  ·exact ⟨_,e⟩
  ·exact ⟨_,e⟩
 refine ⟨t,fun u hu=>?_,fun b o e n=>k1 b o e fun z=>?_,fun b ps e=>?_⟩
 ·by_cases hb:u.1=P
  ·have:u=(P,pos,q):=by
    obtain ⟨i,hi,ei⟩:=aha hu;obtain ⟨j,hj,ej⟩:=aha hm;have e1:(T.map (·.1))[i]?=some P:=by rw [agg,af9 hi,ei,<- hb];rfl
    have e2:(T.map (·.1))[j]?=some P:=by rw [agg,af9 hj,ej];rfl
    obtain ⟨a1,a2⟩:=af4.mp e1;obtain ⟨b1,b2⟩:=af4.mp e2;have hij:i=j:=(ahy nd).mp (a2.trans b2.symm);subst hij;rw [<- ei,<- ej]
   rw [this];exact t2
  ·rcases t u hu with e| ⟨c,e1,e2⟩
   ·exact .inl (k1 _ _ e hb)
   ·exact .inr ⟨c,k1 _ _ e1 hb,k1 _ _ e2 fun z=>by rw [z,hP] at e2;cases e2⟩
 ·subst z;rw [hP] at e;cases e;exact n ps0 rfl
 ·by_cases hb:b=P
  ·rw [hb];exact hP2
  ·exact ⟨ps,k1 _ _ e hb⟩
section
variable {X:Cx}
theorem rm (hc:X.calm=true):vQ X (.builtin "sum") (fun xs H Q=>∃ (p:Addr)(ns:List Int),xs=[.ref p]/\SqL X.K H p (ns.map V.int)/\Q (.int ns.sum) H):=by
 intro pins s σ H xs us Q I r h;obtain ⟨p,ns,rfl,hq,q⟩:=h;obtain ⟨u,rfl,ru⟩:=vals1 r;cases ru;obtain ⟨its,r1,p1,hz⟩:=I.list hq;have hi:IntsAre its ns:=intsAre_of r1;obtain ⟨ys,hx⟩:=hi.allInts.items;have hl':s.heap.IsList p (intItems ys):=hx ▸ p1.isList;refine sum_intListG (I.ok.hd hc) hl' fun h' tk t' hk=>?_;have e1:ns=ys.toList.map (·.1):=by
  rw [<- nums_intItems,<- hx];exact (show numsOf its.toArray.toList=ns from hi.numsOf).symm
 have e2:preSum (numAt ys) ys.size=ns.sum:=by
  rw [preSum_eq,agq (by simp),e1]
 rw [e2];exact ⟨.int ns.sum,H,I.kept hk,⟨t',rfl⟩,q⟩
theorem Dl:∀ ns ms:List Int,PyData.eqvAll (ns.map PyData.int) (ms.map PyData.int)=decide (ns=ms)
 | [],[]=>by simp [PyData.eqvAll]
 | [],_::_=>by simp [PyData.eqvAll]
 | _::_,[]=>by simp [PyData.eqvAll]
 | n::ns,m::ms=>by
  rw [agH,agH,PyData.eqvAll,Dl ns ms];have e:PyData.eqv (.int n) (.int m)=decide (n=m):=by
   rw [PyData.eqv];rfl
  rw [e,ag6];simp
theorem Vs (ns ms:List Int):PyData.eqv (sI ns) (sI ms)=decide (ns=ms):=by
 unfold sI;rw [PyData.eqv];exact Dl ns ms
theorem ac0 (hu:X.A.units+64<cLine):OpR X (compareOp .Eq) (rEqL X.K false):=by
 intro pins s σ H x y v u Q I rx ry h;obtain ⟨a,b,ns,ms,rfl,rfl,ha,hb,q⟩:=h;refine Wk hu pins s σ H _ _ v u Q I rx ry ⟨_,_,Den.ints ha,Den.ints hb,(Sh.ints 0 ns).ok (by decide),(Sh.ints 0 ms).ok (by decide),?_⟩;rw [Vs];exact q
def acS (K:PySem.W.Frag):V->List V->Hp->VK->Prop:=fun x vs H Q=>∃ (l:Addr)(ns:List Int)(k:Int),x=.ref l/\vs=[.int k]/\SqL K H l (ns.map V.int)/\k∈ns/\Q (.int (ns.idxOf k:Nat)) H
theorem Vb:MtR X "list.index" (acS X.K):=by
 intro pins s σ H x vs v us Q I rx rv h;obtain ⟨l,ns,k,rfl,rfl,hq,hk,q⟩:=h;cases rx;obtain ⟨u,rfl,t,rfl⟩:=vals1 rv;obtain ⟨its,r1,p1,hz⟩:=I.list hq;have hi:IntsAre its ns:=intsAre_of r1;obtain ⟨⟨cls,dd,data,sl⟩,ho,hc,n,hd⟩:=id p1.isList;simp only at hc hd;subst hc hd;have hlen:=hi.length;have hj:ns.idxOf k<ns.length:=List.idxOf_lt_length_iff.mpr hk;have hn:=yI;rw [aeu] at hz;refine call_meets PySem.F.slot_list_index ⟨_,ho,rfl⟩ PySem.F.entry_list_index (PySem.F.args_list_index_2 _ _)
  (SeqAt.list_indexAt l its.toArray n dd sl (.int k t) (isInt k) (ns.idxOf k) (by simpa [hlen] using hj) (by omega) ?_ ?_) ⟨ho,fun y hy=>(eq_isInt k t hi y (by simpa using hy)).at _ _,?_⟩
 ·show isInt k its[ns.idxOf k]=true;rw [isInt_at k hi _ (by omega) hj];simpa using List.getElem_idxOf hj
 ·intro j hjs hlt;show isInt k its[j]=false;rw [isInt_at k hi j (by simpa using hjs) (by omega)];exact ne_of_lt_idxOf hlt _
 ·exact ⟨.int (ns.idxOf k:Nat),H,I.tok _,⟨_,rfl⟩,q⟩
end
section
variable {T:fJ}{H0 H:Hp}{L:List (Addr × HO)}{l:Addr}{xs:List V}
theorem Ow.mkE {a:Addr}{o:HO}{H':Hp}(O:Ow T H0 H L)(h:H a=none)(e:upd H a o=H')(ho:rN o=true):Ow T H0 H' ((a,o)::L):=e ▸ O.mk' h ho
theorem Ow.wQ {a:Addr}{o o':HO}{H':Hp}(O:Ow T H0 H L)(k:Nat)(h:L[k]?=some (a,o))(e:upd H a o'=H')(ho:rN o'=true):Ow T H0 H' (L.set k (a,o')):=e ▸ O.abm k h ho
end
def dMv (m:Int × Int × Int):PyData:=.tuple [.int m.1,.int m.2.1,.int m.2.2]
def afZ (ms:List (Int × Int × Int)):PyData:=.list (ms.map dMv)
theorem Den.Wn {K:PySem.W.Frag}{H:Hp}{v:V}{m:Int × Int × Int}(h:Den K H v (dMv m)):∃ a,v=.ref a/\SqT K H a [.int m.1,.int m.2.1,.int m.2.2]:=by
 cases h with
 | tuple h hs =>
  have e:=bY.int_inv (ns:=[m.1,m.2.1,m.2.2]) hs;exact ⟨_,rfl,by rw [e] at h;exact h⟩
theorem Den.mv {K:PySem.W.Frag}{H:Hp}{a:Addr}{m:Int × Int × Int}(h:SqT K H a [.int m.1,.int m.2.1,.int m.2.2]):Den K H (.ref a) (dMv m):=.tuple h (.cons (.int _) (.cons (.int _) (.cons (.int _) .nil)))
theorem Den.abJ {K:PySem.W.Frag}{H:Hp}{v:V}{ms:List (Int × Int × Int)}(h:Den K H v (afZ ms)):∃ a xs,v=.ref a/\SqL K H a xs/\bY K H xs (ms.map dMv):=by
 cases h with
 | list h hs=>exact ⟨_,_,rfl,h,hs⟩
end L2
namespace L2
open PySem PySem.W PySem.Spec PySem.Calls PyProof.Rows PySem.Builtin PySem.Builtin.ObjectAttr PySem.Builtin.Getset_descriptor
section
variable {prog:Program}{w:World}{A:Around}{E:Value->Shared->Prop}{K:Frag}{e D:Addr}{hh:Heap}{g:Array GenState}{d:Drawn}{t:Nat}{os:OsState}
structure VJ (K:Frag)(D:Addr):Prop where
 ga:findIn K (.ref D) "__getattribute__"=some (some (.builtin "BaseException.__getattribute__"))
 gt:findIn K (.ref D) "__getattr__"=some none
 at_:findIn K (.ref D) "__class__"=some (some (.builtin "object.__class__"))
 sp:specialIn K (.builtin "object.__class__") "__get__"=some (some (.builtin "getset_descriptor.__get__"))
 tk:takesIn K (.builtin "object.__class__")=some true
 mo:mroIn K D (.type "object")=some true
 mb:mroIn K D (.type "BaseException")=some true
 cl:(clsIn K D).isSome=true
theorem aaX {M:Model}(X:K.In hh)(C:VJ K D):Looks M hh (Builtin.ObjectAttr.find (.ref e) (.ref D) "__class__") (.bind (.builtin "getset_descriptor.__get__") (.builtin "object.__class__")):=by
 have L3:Looks M hh (Builtin.ObjectAttr.dataDescriptor? (some (.builtin "object.__class__")) (some (.builtin "getset_descriptor.__get__"))) (some (.builtin "getset_descriptor.__get__",.builtin "object.__class__")):=(looks_takesIn X C.tk).andThen .now;exact (looks_findIn X C.at_).andThen ((looks_specialIn X C.sp).andThen (L3.andThen (Looks.tag .now)))
theorem acu {R:Result->Shared->Prop}{tp:Value}(LT:Looks (model prog w) hh (typeOf (.ref e)) (.ref D))(X:K.In hh)(C:VJ K D)(q:R (.ok (.ret (.ref D))) ⟨hh,g,d,t,os⟩):
  codeAny (model prog w) A (.call (.builtin "getset_descriptor.__get__") ⟨[.builtin "object.__class__",.ref e,tp],[]⟩) R ⟨hh,g,d,t,os⟩:=by
 have LS:=looks_mroIn (M:=model prog w) X C.mo;clear C X;refine codeAny_call_builtin KF.slot_gs.plain KF.entry_gs (KF.slot_gs.check _ _ _ _ _ _ _ _ KF.type_class (KF.args_gs _ _ (tp)) ?_);unfold Builtin.«getset_descriptor.__get__» descrGet;rw [dga_obj];refine wpAny_bind (wpAny_pure ?_);unfold descrGetter descrCheckInstance descrNameAndClass isInstance;simp only [KF.owner_class];repeat lk
 refine ⟨Code.quiet_builtin _ (by decide+kernel),codeAny_builtin KF.entry_class ?_⟩;unfold Builtin.«object.__class__» shownTypeOf;(repeat lk);exact q
theorem T5 {tk:Tok}{Q:Fin->Shared->Prop}(LT:Looks (model prog w) hh (typeOf (.ref e)) (.ref D))(X:K.In hh)(C:VJ K D)(h:Q (.done (.ret (.ref D))) ⟨hh,g,d,t,os⟩):
  wpAny (model prog w) A (Builtin.«object.__getattribute__» ⟨[.ref e,.str "__class__" tk],[]⟩) Q E ⟨hh,g,d,t,os⟩:=by
 unfold Builtin.«object.__getattribute__»;refine wpAny_bind (m:=slotArgs "__getattribute__" 1 _) (wpAny_pure ?_);refine wpAny_bind (m:=Builtin.ObjectAttr.attrName _) (wpAny_pure ?_);refine wpAny_bind (LT.at (wpAny_bind ((aaX X C).at ?_)));unfold Builtin.ObjectAttr.bindTo;exact wpAny_bind (wpAny_holding (wpAny_call (acu LT X C (wpAny_pure h))))
theorem T6 {Q:Option Value->Shared->Prop}(LT:Looks (model prog w) hh (typeOf (.ref e)) (.ref D))(X:K.In hh)(C:VJ K D)(h:Q (some (.ref D)) ⟨hh,g,d,t+1,os⟩):
  wpAny (model prog w) A (getAttr? (.ref e) "__class__") Q E ⟨hh,g,d,t,os⟩:=by
 have L1:=looks_findIn (M:=model prog w) X C.ga;have L2:=looks_findIn (M:=model prog w) X C.gt;have LI:Looks (model prog w) hh (isInstance (.ref e) (.type "BaseException")) true:=LT.andThen (looks_mroIn X C.mb);have f3:=PySem.F.attr_ValueError.ga.bind (.ref e);have hx2:(Value.builtin "BaseException.__getattribute__" ==Value.builtin "object.__getattribute__")=false:=by decide+kernel
 unfold getAttr? getAttrBy? getAttrBy;refine wpAny_bind (wpAny_mkText (wpAny_bind (wpAny_attempt (wpAny_holding (wpAny_bind (LT.at (wpAny_bind (L1.at ?_))))))));dsimp only;rw [if_neg (by rw [hx2];simp)];unfold getAttrByItsOwn hookBefore callGetattribute;refine wpAny_bind ?_;rw [if_pos (show onTheHeap (Value.ref D)=true from rfl)];refine L2.at ?_;refine wpAny_bind (wpAny_attempt (wpAny_holding ?_));rw [if_neg (by simp)];unfold boundAndCalled;rw [f3];refine wpAny_bind (wpAny_pure ?_);refine wpAny_call (codeAny_call_builtin PySem.F.attr_ValueError.ga.plain PySem.F.entry_bexc_ga ?_);have kd:builtinKind "BaseException.__getattribute__"=some .slot:=by decide+kernel
 have spl:splitId "BaseException.__getattribute__"=some ("BaseException","__getattribute__"):=by decide+kernel
 have ha:=PySem.F.args_bexc_ga (.ref e) (.str "__class__" t);simp only [checkBuiltinCall,kd,spl];refine wpAny_bind (LI.at ?_);rw [if_neg (by simp)];refine wpAny_of_eq (a:=()) ha ?_;refine T5 (t:=t+1) LT X C ?_;show wpAny (model prog w) A (handedOut (.ref D)) _ _ _;exact wpAny_pure (wpAny_pure h)
def XAt (e D:Addr)(h:Heap):Prop:=∃ o,h.get? e=some o/\o.cls=.ref D
theorem Pn {M:Model}{h:Heap}(x:XAt e D h):Looks M h (typeOf (.ref e)) (.ref D):=by
 obtain ⟨o,h1,h2⟩:=x;rw [<- h2];exact (Looks.ld h1).andThen .now
theorem Vk (C:VJ K D):KitX K (.ref e) (.ref D) (XAt e D) where
 ty:=fun _ _ _ p=>Pn p;it:=fun M h X _=>by
  have c:=C.cl;unfold clsIn at c;split at c
  ·rename_i ho
   intro _ _ _ _ k q;unfold isType loadHead;exact wpAny_bind (wpAny_loadPart (k _ _ (X _ _ ho)) (wpAny_pure q))
  ·cases c
 ne:=fun h tp dd its n sl X htp=>by
  have c:=C.cl;refine Bool.eq_false_iff.mpr fun q=>?_;cases Value.ref.inj (beq_iff_eq.mp q);unfold clsIn at c;split at c
  ·rename_i ho
   cases (X _ _ ho).symm.trans htp
  ·cases c
 ca:=fun {_ _ _ _ _ s} X p k=>by
  obtain ⟨h0,g0,d0,t0,o0⟩:=s;exact T6 (Pn p) X C k
end
end L2
namespace L2
open PySem PySem.W PySem.Spec PySem.Calls PyProof.Rows
theorem gR.obj {P:Program}{w:World}{H:Hp}{h:Heap}{a:Addr}{o:HO}(x:gR P w H h a o):∃ ob,h.get? a=some ob:=by
 cases o with
 | lst xs=>obtain ⟨_,_,_,_,e⟩:=x;exact ⟨_,e⟩
 | tup xs=>obtain ⟨_,_,_,o,e,_⟩:=x;exact ⟨_,e⟩
 | dK kvs=>obtain ⟨_,_,_,_,o,_,_,e,_⟩:=x;exact ⟨_,e⟩
 | dT kvs=>obtain ⟨_,_,_,_,o,_,_,e,_⟩:=x;exact ⟨_,e⟩
 | set S n=>obtain ⟨o,_,_,_,e,_⟩:=x;exact ⟨_,e⟩
 | ins C dx fs=>obtain ⟨_,_,_,e,_⟩:=x;exact ⟨_,e⟩
 | own y=>exact x
 | xd fs=>obtain ⟨_,⟨_,_,_,e,_⟩,_⟩:=x;exact ⟨_,e⟩
 | rng lo hi=>obtain ⟨_,_,_,e⟩:=x;exact ⟨_,e⟩
 | frz ob u=>obtain ⟨e,_⟩:=x;exact ⟨_,e⟩
 | tbl ps=>exact ⟨_,x⟩
 | met f y=>exact ⟨_,x⟩
 | ext φ=>obtain ⟨_,e,_⟩:=x;exact e
structure Fly (P:Program)(w:World)(B:Heap)(fs:List Addr)(H:Hp)(h0:Heap)(H':Hp)(h:Heap):Prop where
 un:Un fs [] H H' h0 h
 hok:HOk P w H' h
 old:∀ b o,h0.get? b=some o->b ∉ fs->∃ o',B.get? b=some o'/\(H b=none->o'=o)
 trk:∀ b u,H' b=some u->∃ o,h.get? b=some o/\B.get? b=some o
section
variable {P:Program}{w:World}{B h0 h h2:Heap}{fs:List Addr}{H H':Hp}
theorem Fly.on (x:Fly P w B fs H h0 H' h)(sb:B.StaysIn h2)(sm:∀ b∈fs,∀ o,h.get? b=some o->∃ sl,h2.get? b=some { o with slots:=sl }):Fly P w B fs H h0 H' h2:=by
 have kp:∀ b o,h0.get? b=some o->H b=none->b ∉ fs->h2.get? b=some o:=fun b o q n hb=>by
  obtain ⟨o',e,k⟩:=x.old b o q hb;rw [<- k n];exact sb b o' e
 have sl:∀ b o,h0.get? b=some o->H b=none->b∈fs->∃ s,h2.get? b=some { o with slots:=s }:=fun b o q n hb=>by
  obtain ⟨s1,e1⟩:=x.un.slot b o q n hb (by simp);obtain ⟨s2,e2⟩:=sm b hb _ e1;exact ⟨s2,e2⟩
 refine ⟨⟨fun b o q n hb _=>kp b o q n hb,fun b o q n hb _=>sl b o q n hb,x.un.free,fun b o q _=>?_,x.un.tups,x.un.frzs,x.un.tbls⟩,fun a u e=>?_,x.old,fun b u e=>?_⟩
 ·by_cases hb:b∈fs
  ·obtain ⟨o1,e1⟩:=x.un.there b o q (by simp);obtain ⟨s2,e2⟩:=sm b hb _ e1;exact ⟨_,e2⟩
  ·obtain ⟨o',e,_⟩:=x.old b o q hb;exact ⟨o',sb b o' e⟩
 ·refine (x.hok a u e).stay (fun b v hb q=>?_) (fun _ q=>q) fun _ _ q=>q;have tr:∃ u',H' b=some u':=by
   rcases hb with z| z
   ·exact ⟨u,by rw [z];exact e⟩
   ·exact ⟨_,z⟩
  obtain ⟨u',e'⟩:=tr;obtain ⟨o,e1,e2⟩:=x.trk b u' e';rw [q] at e1;cases e1;exact sb b v e2
 ·obtain ⟨o,e1,e2⟩:=x.trk b u e;exact ⟨o,sb b o e2,e2⟩
end
def CXE (P:Program)(w:World):CXT:=fun outer H s E e s'=>∃ (ea t C:Addr)(B:Heap)(H':Hp),e=.ref ea/\s'.os=s.os/\AllBare s'.gens/\Fly P w B (frs outer) H s.heap H' s'.heap/\Heap.FlyingW B outer ea (.ref C) (.ref t) s'.heap /\
 s.heap.get? ea=none/\H' ea=none/\E (.ref C) (some ea) H'
theorem GD {env:Env}{l:List Env}{L:Addr}(hf:env.frame=some L):frs (env::l)=L::frs l:=by unfold frs;rw [ahP,hf]
theorem adH {l:List Env}:∀ env∈l,∀ b,env.frame=some b->b∈frs l:=fun env he b hb=>List.mem_filterMap.mpr ⟨env,he,hb⟩
theorem sV {B h:Heap}{l:List Env}{h2:Heap}(f:h.FunFrames B l)(sm:h.UpToSlots h2):∀ b∈frs l,∀ o,h.get? b=some o->∃ sl,h2.get? b=some { o with slots:=sl }:=fun b hb o e=>by
 obtain ⟨_,o',e',d⟩:=f.mem hb;rw [e] at e';cases e';exact sm b o e d
section
variable {X:Cx}{pins:List (Addr × Obj)}{σ:St}{H:Hp}{s:Shared}{E:XK}
structure Body (X:Cx):Prop where
 st:X.stack=X.env::X.outer
 fr:X.env.frame=some X.env.locals
 ex:X.ex=[]
theorem Inv.J9 (I:Inv X pins σ H s)(hB:Body X){b:Addr}{o:Obj}(e:X.s₀.heap.get? b=some o)(hb:b ∉ frs X.outer):b ∉ frs X.stack:=by
 rw [hB.st,GD hB.fr];intro hm;rcases agu.mp hm with z| z
 ·exact absurd (agr e) (by rw [z];exact Nat.not_lt.mpr I.ok.above)
 ·exact hb z
theorem Ij {e C:Addr}{args:List Value}{h':Heap}{F:Value->Shared->Prop}(hB:Body X)(I:Inv X pins σ H s)(hm:Heap.MadeExcOf s.heap h' e (.ref C) args)(hE:H e=none->E (.ref C) (some e) H):
  wpAny (model X.prog X.w) X.A (leaving X.env (.ref e)) (fun _ s''=>CXE X.prog X.w X.outer X.H₀ X.s₀ E (.ref e) s'') F { s with heap:=h' }:=by
 have hfr:X.A.frames=some (X.env::X.outer):=by rw [<- hB.st];exact I.ok.frames
 have stk:=I.stack;have hl:s.heap.FunFrames (hideAll s.heap (frs X.stack)) (X.env::X.outer):=by
  have:=funFrames_hide stk adH;rw [hB.st] at this ⊢;exact this
 have hne:∀ b o,s.heap.get? b=some o->b ∉ frs X.stack->(hideAll s.heap (frs X.stack)).get? b=some o:=fun b o q n=>hideAll_get _ q n;have htr:∀ b u,H b=some u->∃ o,s.heap.get? b=some o/\(hideAll s.heap (frs X.stack)).get? b=some o:=fun b u q=>by
  obtain ⟨o,eo⟩:=(I.hok b u q).obj;exact ⟨o,eo,hne b o eo fun z=>by rw [I.FT b z] at q;cases q⟩
 have hnx:∀ b:Addr,b ∉ X.ex:=fun b=>by rw [hB.ex];simp
 refine wpAny_leaves_madeW (base:=hideAll s.heap (frs X.stack)) (h:=s.heap) hfr hB.fr (fun b o q=>of_hideAll _ q) hl hm fun h2 t fl _ _ sm=>?_;have F0:Fly X.prog X.w (hideAll s.heap (frs X.stack)) (frs X.outer) X.H₀ X.s₀.heap H s.heap:=by
  refine ⟨?_,I.hok,fun b o q n=>?_,htr⟩
  ·have u:=I.base;rw [hB.ex] at u;exact u
  ·obtain ⟨o',e'⟩:=I.base.there b o q (hnx b);refine ⟨o',hne b o' e' (I.J9 hB q n),fun z=>?_⟩;have:=I.base.keep b o q z n (hnx b);rw [e'] at this;exact agz this
 have F1:=F0.on (h2:=h2) fl.1 fun b hb o q=>by
  have hb':b∈frs X.stack:=by rw [hB.st,GD hB.fr];exact agv _ hb
  obtain ⟨_,o',e',d⟩:=stk.mem hb';rw [q] at e';cases e';exact sm b o (hm.keeps b o q) d
 have he0:H e=none:=by
  cases q:H e with
  | none=>rfl
  | some u =>
   obtain ⟨o,eo⟩:=(I.hok e u q).obj;rw [hm.new] at eo;cases eo
 refine ⟨e,t,C,_,H,rfl,I.os,I.bare,F1,fl,?_,he0,hE he0⟩
 ·cases q:X.s₀.heap.get? e with
  | none=>rfl
  | some o =>
   obtain ⟨o',e'⟩:=I.base.there e o q (hnx e);rw [hm.new] at e';cases e'
theorem Kz {e:Value}{s':Shared}{F:Value->Shared->Prop}(hB:Body X)(I:Inv X pins σ H s)(h:CXE X.prog X.w X.stack H s E e s'):
  wpAny (model X.prog X.w) X.A (leaving X.env e) (fun _ s''=>CXE X.prog X.w X.outer X.H₀ X.s₀ E e s'') F s':=by
 obtain ⟨ea,t,C,B,H',rfl,os,bare,fl,fy,new,nh,hE⟩:=h;have hfr:X.A.frames=some (X.env::X.outer):=by rw [<- hB.st];exact I.ok.frames
 have hnx:∀ b:Addr,b ∉ X.ex:=fun b=>by rw [hB.ex];simp
 rw [hB.st] at fy;refine wpAny_leaves_onW hfr hB.fr fy fun h2 fy2 sm=>?_;have sub:∀ b,b∈frs X.outer->b∈frs X.stack:=fun b hb=>by rw [hB.st,GD hB.fr];exact agv _ hb
 have F0:Fly X.prog X.w B (frs X.outer) X.H₀ X.s₀.heap H' s'.heap:=by
  refine ⟨⟨fun b o q n hb _=>?_,fun b o q n hb _=>?_,fun b o q n _=>?_,fun b o q _=>?_,fun b xs q=>fl.un.tups b xs (I.base.tups b xs q),fun b o u q=>fl.un.frzs b o u (I.base.frzs b o u q),fun b ps q=>?_⟩,fl.hok,fun b o q n=>?_,fl.trk⟩
  ·have e1:=I.base.keep b o q n hb (hnx b);exact fl.un.keep b o e1 (I.base.free b o q n (hnx b)) (I.J9 hB q hb) (by simp)
  ·obtain ⟨s1,e1⟩:=I.base.slot b o q n hb (hnx b);obtain ⟨s2,e2⟩:=fl.un.slot b _ e1 (I.base.free b o q n (hnx b)) (sub b hb) (by simp);exact ⟨s2,e2⟩
  ·obtain ⟨o',e'⟩:=I.base.there b o q (hnx b);exact fl.un.free b o' e' (I.base.free b o q n (hnx b)) (by simp)
  ·obtain ⟨o',e'⟩:=I.base.there b o q (hnx b);exact fl.un.there b o' e' (by simp)
  ·obtain ⟨m1,e1⟩:=I.base.tbls b ps q;obtain ⟨m2,e2⟩:=fl.un.tbls b _ e1;exact ⟨m1++m2,by rw [e2,Array.append_assoc]⟩
  ·obtain ⟨o',e'⟩:=I.base.there b o q (hnx b);obtain ⟨o2,e2,k⟩:=fl.old b o' e' (I.J9 hB q n);refine ⟨o2,e2,fun z=>?_⟩;rw [k (I.base.free b o q z (hnx b))];have:=I.base.keep b o q z n (hnx b);rw [e'] at this;exact agz this
 have F1:=F0.on (h2:=h2) fy2.1 fun b hb o q=>by
  obtain ⟨_,o',e',d⟩:=fy.2.2.1.mem (by rw [hB.st] at sub;exact sub b hb);rw [q] at e';cases e';exact sm b o q d
 refine ⟨ea,t,C,B,H',rfl,os.trans I.os,bare,F1,fy2,?_,nh,hE⟩;cases q:X.s₀.heap.get? ea with
 | none=>rfl
 | some o =>
  obtain ⟨o',e'⟩:=I.base.there ea o q (hnx ea);rw [new] at e';cases e'
end
section
variable {P:Program}{w:World}{K:PySem.W.Frag}{mg:Str->Option Value}{base:Heap}{N:List Str}{qual:Str}{scope:Scope}{f:Addr}{cd:Value}{A:Around}{outer:List Env}{s:Shared}{H:Hp}{E:XK}
theorem fO {CX:CXT}:Body (SQ CX P w K mg base N qual scope f cd A outer s H E):=⟨rfl,rfl,rfl⟩
theorem jX:Passes (CXE P w) (SQ (CXE P w) P w K mg base N qual scope f cd A outer s H E) E:=fun _ _ _ _ _ _ I h=>Kz fO I h
theorem Fun.okX {x:Str}{st:Stmt}{fd:FuncData}{ps:List Str}{k:Nat}{sp:Sp}(F:Fun K x qual st f fd)(S:aG N ps (ao st))(len:∀ vs H Q E,sp vs H Q E->vs.length=ps.length)
  (hbody:∀ (cdv:Value)(A:Around)(outer:List Env)(s:Shared)(H:Hp)(vs:List V)(Q:VK)(E:XK),sJ k (A.deeper (envOfC qual (ao st) s.heap.objs.size f cdv))->sp vs H Q E ->
   ∃ t,PSs (SQ (CXE P w) P w K mg base N qual (ao st) f cdv A outer s H E) (fV st) t/\t { nx:=fun _ H'=>Q .non H',rt:=Q } (start N vs) H):Hf P w K mg base (CXE P w) (k+1) f fd ps sp:=by
 obtain ⟨oc,od,kV,doc,pm,an,cdv,ct,osl,rfl,lk,hcd⟩:=F.ex;exact Vq lk hcd S len fun A outer s H vs Q E hr hsp=>hbody cdv A outer s H vs Q E hr hsp
end
abbrev aew:List Value:=[.type "ValueError",.type "Exception",.type "BaseException",.type "object"]
theorem abX {K:Frag}{h:Heap}{C:Addr}(X:K.In h)(q:excIn K C aew "ValueError.__new__"=true):
  ∃ bm N nm qn bs hdct sn sub ab col dd k0 k1 k2 k3 k5 mN,h.get? C=some (excClassObj nm qn C N bs bm hdct sn sub ab col dd k0 k1 k2 k3 k5 "ValueError.__new__")/\h.Ns N mN/\mN "__init__"=none/\OwnTail h aew bm:=by
 unfold excIn at q;split at q
 ·rename_i d1 c1 s1 look
  split at q
  ·rename_i C1 bm1 a0 a1 a2 a3 n1 a5 m1 l1
   simp only [agD,beq_iff_eq,Bool.not_eq_true'] at q;obtain ⟨⟨⟨⟨⟨e1,e2⟩,e3⟩,e4⟩,e5⟩,e6⟩:=q;subst e1 e2;obtain ⟨nm,bs,mro,ns,qn,hd,sn,sub,ab,col,del⟩:=c1;dsimp only at m1 e3 e5 e6;subst m1 e3;have es:s1=#[a0,a1,a2,a3,some (.builtin "ValueError.__new__"),a5]:=by cases s1;simp only at l1;rw [l1]
   subst es;exact ⟨bm1,ns,nm,qn,bs,hd,sn,sub,ab,col,d1,a0,a1,a2,a3,a5,_,X _ _ look,Heap.Ns.of_isNs (isNs_of_in X e5),nsMap_none_of_in X e5 e6,tail_of_in X e4⟩
  ·cases q
 ·cases q
def acz (E:XK)(C:Addr)(ta:TA):TS:=fun _ σ H=>ta σ H fun vs H1=>vs.length<=sizeLine/\∀ e,H1 e=none->E (.ref C) (some e) H1
section
variable {X:Cx}{E:XK}{x:Str}{C:Addr}{np cpos pos:Pos}{e0:Expr}{ta:TA}
theorem dF (hB:Body X)(hc:X.calm=true)(hx:∀ e s',wpAny (model X.prog X.w) X.A (leaving X.env e) (fun _ s''=>CXE X.prog X.w X.outer X.H₀ X.s₀ E e s'') (fun e s''=>CXE X.prog X.w X.outer X.H₀ X.s₀ E e s'') s'->X.xe e s')
  (hg:Gl X x)(hm:X.mg x=some (.ref C))(hq:excIn X.K C aew "ValueError.__new__"=true)(ha:PA X [e0] ta)(he:starEach [e0] X.env=[(false,eval e0 X.env)]:=by rfl)(hd:(x ==("__debug__":Str))=false:=by decide):
  PS X (.Raise (some (.Call (.Name x np) [e0] [] cpos)) none pos) (acz E C ta):=by
 intro pins s σ H D I h
 obtain ⟨bm,Nn,nm,qn,bs,hdct,sn,sub,ab,col,dd,k0,k1,k2,k3,k5,mN,hC,hN,hni,TL⟩:=abX I.ok.mod.kin hq
 refine wpAny_Raise_call_subU (C:=C) (nm:=nm) (q:=qn) (N:=Nn) (bs:=bs) (bm:=bm) (hdct:=hdct) (sn:=sn) (sub:=sub) (ab:=ab) (col:=col) (dd:=dd) (k0:=k0) (k1:=k1) (k2:=k2) (k3:=k3) (k5:=k5) (mN:=mN) (newId:="ValueError.__new__")
  PySem.F.excBase_ValueError PySem.F.excBase_ValueError.hasB PySem.F.excBase_ValueError (TL.hasType PySem.F.excBase_ValueError.hasBase) (I.ok.hd hc) (by rw [he];rfl) hni ?_
 refine uf I hg hm ⟨rfl,?_⟩ hd
 have a:=ha cpos pins s σ H _ I h
 rw [he] at a ⊢
 refine Calls.evalArgs_plain (wpAny_mono a (fun us s1 ⟨vs,H1,I1,r1,hz,q1⟩=>?_) fun _ _ z=>z)
 exact ⟨rfl,by show us.length<=_;rw [<- r1.length];exact hz,I1.bk _ _ hC,hN.keeps I1.bk,TL.keeps I1.bk,fun h' e mk=>hx _ _ (Ij hB I1 mk (q1 e))⟩
end
def XS (X:Cx)(pins:List (Addr × Obj))(Ex:St->XK)(ev:Value)(s':Shared):Prop:=∃ σ H s,Inv X pins σ H s/\CXE X.prog X.w X.stack H s (Ex σ) ev s'
def PEx (X:Cx)(e:Expr)(t:St->Hp->VK->XK->Prop):Prop:=
 ∀ (pins:List (Addr × Obj))(s:Shared)(σ:St)(H:Hp)(Q:VK)(Ex:St->XK),Inv X pins σ H s->t σ H Q (Ex σ)->wpAny (model X.prog X.w) X.A (eval e X.env) (EP X pins σ Q) (XS X pins Ex) s
abbrev TX:=Ends->(St->XK)->St->Hp->Prop
def PSx (X:Cx)(st:Stmt)(t:TX):Prop:=
 ∀ (pins:List (Addr × Obj))(s:Shared)(σ:St)(H:Hp)(D:Ends)(Ex:St->XK),Inv X pins σ H s->t D Ex σ H->wpAny (model X.prog X.w) X.A (exec st X.env) (SP X pins D) (XS X pins Ex) s
def af5 (X:Cx)(sts:List Stmt)(t:TX):Prop:=
 ∀ (pins:List (Addr × Obj))(s:Shared)(σ:St)(H:Hp)(D:Ends)(Ex:St->XK),Inv X pins σ H s->t D Ex σ H->wpAny (model X.prog X.w) X.A (execs sts X.env) (SP X pins D) (XS X pins Ex) s
section
variable {X:Cx}{k:Nat}{f:Addr}{fd:FuncData}{ps:List Str}{sp:Sp}{dvs:List V}{ds:List Value}{x:Str}{p pos:Pos}{e:Expr}{es:List Expr}{t:TA}
def aeC (sp:Sp)(dvs:List V)(t:TA):St->Hp->VK->XK->Prop:=fun σ H Q Ex=>t σ H fun vs H1=>sp (vs++dvs) H1 Q Ex
theorem aaW (F:Hf X.prog X.w X.K X.mg X.base (CXE X.prog X.w) k f fd ps sp)(hr:sJ k X.A)(hg:Gl X x)(hm:X.mg x=some (.ref f))(hk:keepIn X.K (.ref f)=true)(hb:Binds X.K fd ps ds)(hd:Vals dvs ds)
  (ha:PA X.nox (e::es) t)(hdb:(x ==("__debug__":Str))=false:=by decide)(he:starEach (e::es) X.env=(false,eval e X.env)::starEach es X.env:=by rfl)(hpl:(backTo pos (starEach es X.env)).any (·.1)=false:=by rfl):
  PEx X (.Call (.Name x p) (e::es) [] pos) (aeC sp dvs t):=by
 intro pins s σ H Q Ex I h
 refine wpAny_Call_Name_kw (uf I hg hm ?_ hdb)
 refine ahz (h₀:=X.base) I.ok.mod.kin hk (wpAny_mono (ha pos pins s σ H _ (I.wish _) h) (fun us s1 ⟨vs,H1,I1,r,q⟩=>?_) fun _ _ z=>z.elim) he hpl
 have I1:=I1.vR
 refine ⟨I1.kIn,?_⟩
 have r2:Vals (vs++dvs) (us++ds):=r.append hd
 have hl:(us++ds).length=ps.length:=by rw [<- r2.length];exact F.len _ _ _ _ q
 refine wpAny_call (codeAny_mono (F.run X.A X.stack s1 H1 ⟨us,[]⟩ (us++ds) (vs++dvs) Q (Ex σ) hr I1.env0 (hb s1 us I1.kIn hl) r2 q) fun rr s' hq=>?_)
 cases rr with
 | error ev=>exact ⟨σ,H1,s1,I1,hq⟩
 | ok fl =>
  cases fl with
  | ret u=>exact I1.after hq
  | next=>exact False.elim hq
  | brk=>exact False.elim hq
  | cont=>exact False.elim hq
theorem Pk {te:St->Hp->VK->XK->Prop}{pos:Pos}(he:PEx X e te)(hs:swapsWith e none pos.line X.env=pure false:=by rfl):PSx X (.Expr e pos) (fun D Ex σ H=>te σ H (fun _ H1=>D.nx σ H1) (Ex σ)):=by
 intro pins s σ H D Ex I h;exact wpAny_Expr_any (wpAny_mono (he pins s σ H _ Ex I h) (fun v s1 ⟨x,H1,I1,r1,q1⟩=>⟨σ,H1,I1,q1⟩) fun _ _ z=>z) I.quiet hs
theorem Pj {st:Stmt}{tx:TX}(h:PSx X st tx):af5 X [st] tx:=by
 intro pins s σ H D Ex I hq;refine wpAny_execs_cons (wpAny_mono (h pins s σ H D Ex I hq) (fun fl s1 q=>?_) fun _ _ z=>z);cases fl with
 | next=>exact wpAny_execs_nil q
 | ret v=>exact q
 | brk=>exact q
 | cont=>exact q
end
section
variable {X:Cx}{pins:List (Addr × Obj)}{σ:St}{H:Hp}{s:Shared}
def Oa (X:Cx)(e:Addr):Cx:={ X with A:=X.A.mark (some (.ref e)),calm:=false,xe:=fun _ _=>False }
theorem Inv.sup (I:Inv X pins σ H s)(e:Addr):Inv (Oa X e) pins σ H s:=
 ⟨⟨I.ok.mod,I.ok.kind,I.ok.glob,I.ok.blt,I.ok.above,I.ok.inj,I.ok.has,I.ok.cab,fun z=>(by cases z),I.ok.frames,I.ok.stk,I.ok.exf,I.ok.bs,I.ok.bsz,I.ok.noex,I.ok.exfs,I.ok.M7,I.ok.frf⟩,I.os,I.bare,I.base,I.loc,I.cell,I.free,I.freeC,I.pin,I.hok,I.len⟩
theorem Inv.aeD {e:Addr}(hc:X.calm=true->X.A.handled=none)(I:Inv (Oa X e) pins σ H s):Inv X pins σ H s:=
 ⟨⟨I.ok.mod,I.ok.kind,I.ok.glob,I.ok.blt,I.ok.above,I.ok.inj,I.ok.has,I.ok.cab,hc,I.ok.frames,I.ok.stk,I.ok.exf,I.ok.bs,I.ok.bsz,I.ok.noex,I.ok.exfs,I.ok.M7,I.ok.frf⟩,I.os,I.bare,I.base,I.loc,I.cell,I.free,I.freeC,I.pin,I.hok,I.len⟩
theorem Inv.aeg {a:Addr}{o:HO}(I:Inv X pins σ H s)(hn:H a=none)(hL:a≠X.env.locals)(h0:X.s₀.heap.get? a=none)(hc:∀ x c,X.env.cells.lookup x=some c->c≠a)(hp:∀ p∈X.pn++pins,p.1≠a)
  (new:gR X.prog X.w (upd H a o) s.heap a o):Inv X pins σ (upd H a o) s:=by
 have ne:∀ b u,H b=some u->b≠a:=fun b u e=>aY e hn;refine ⟨I.ok,I.os,I.bare,⟨I.base.keep,I.base.slot,fun b ob e n hx=>?_,I.base.there,fun b xs e=>?_,fun b ob xs e=>?_,fun b ps e=>?_⟩,I.loc,I.cell,?_,fun x c e=>?_,fun p hq=>?_,fun b u e=>?_,I.len⟩
 ·rw [aN fun z=>by rw [z,h0] at e;cases e];exact I.base.free b ob e n hx
 ·have:=I.base.tups b xs e;rw [aN (ne b _ this)];exact this
 ·have:=I.base.frzs b ob xs e;rw [aN (ne b _ this)];exact this
 ·obtain ⟨m,e1⟩:=I.base.tbls b ps e;exact ⟨m,by rw [aN (ne b _ e1)];exact e1⟩
 ·rw [aN hL.symm];exact I.free
 ·rw [aN (hc x c e)];exact I.freeC x c e
 ·obtain ⟨e1,n,r⟩:=I.pin p hq;exact ⟨e1,by rw [aN (hp p hq)];exact n,r⟩
 ·by_cases hb:b=a
  ·subst hb;rw [aO] at e;cases e;exact new
  ·rw [aN hb] at e;exact (I.hok b u e).stay (fun _ _ _ q=>q) (fun c q=>by rw [aN (ne c _ q)];exact q) fun c xs q=>by rw [aN (ne c _ q)];exact q
theorem Inv.acv {i:Nat}{n:Str}{h':Heap}{v:Option Value}{m:Str->Option Value}{t':Nat}(I:Inv X pins σ H s)(hN:X.N.Nodup)(hi:X.N[i]?=some n)(hs:Heap.SameBut X.env.locals s.heap h')(hm:s.heap.Ns X.env.locals m)
  (hl:∀ (j:Nat)(x:Str)(w:V),X.N[j]?=some x->σ[j]?=some (some w)->Vis X.env.scope x->∃ u,RelV w u/\Look X.env s.heap m x u)(hn:h'.Ns X.env.locals (fun x=>if x=n then v else m x)):Inv X pins (σ.set i none) H { s with heap:=h',toks:=t' }:=by
 have kp:∀ b o,b≠X.env.locals->s.heap.get? b=some o->h'.get? b=some o:=fun b o hb e=>(hs.2 b hb).trans e;have old:∀ b o,X.s₀.heap.get? b=some o->b≠X.env.locals:=fun b o e=>agM (agI (agr e) I.ok.above);refine ⟨I.ok,I.os,I.bare,⟨fun b o e n hb hx=>kp b o (old b o e) (I.base.keep b o e n hb hx),fun b o e n hb hx=>?_,I.base.free,fun b o e hx=>?_,I.base.tups,I.base.frzs,I.base.tbls⟩,⟨_,hn,fun j x w e1 e2 e3=>?_⟩,fun x c e=>?_,I.free,I.freeC,fun p hp=>?_,fun b u e=>?_,by rw [agG];exact I.len⟩
 ·obtain ⟨sl,e1⟩:=I.base.slot b o e n hb hx;exact ⟨sl,kp b _ (old b o e) e1⟩
 ·obtain ⟨o',e1⟩:=I.base.there b o e hx;exact ⟨o',kp b _ (old b o e) e1⟩
 ·by_cases hj:j=i
  ·subst hj;have hj':j<σ.length:=by
    have:=(af4.mp e2).1;rw [agG] at this;exact this
   rw [ag8 hj'] at e2;cases e2
  ·rw [ahu (Ne.symm hj)] at e2;have hx:x≠n:=fun z=>by
    subst z;obtain ⟨a1,a2⟩:=af4.mp e1;obtain ⟨b1,b2⟩:=af4.mp hi;exact hj ((ahy hN).mp (a2.trans b2.symm))
   obtain ⟨u,r,l⟩:=hl j x w e1 e2 e3;refine ⟨u,r,?_⟩;rcases l with ⟨k,z⟩ | ⟨k,c,ec,z⟩
   ·exact .inl ⟨k,by dsimp only;rw [if_neg hx];exact z⟩
   ·refine .inr ⟨k,c,ec,?_⟩;obtain ⟨o,ho,hd⟩:=z;exact ⟨o,kp c o (I.cne x c ec) ho,hd⟩
 ·obtain ⟨w,o,ho,hd⟩:=I.cell x c e;exact ⟨w,o,kp c o (I.cne x c e) ho,hd⟩
 ·obtain ⟨e1,n1,l1,r⟩:=I.pin p hp;exact ⟨kp _ _ l1 e1,n1,l1,r⟩
 ·refine (I.hok b u e).stay (fun c w hc q=>kp c w (fun z=>?_) q) (fun _ q=>q) fun _ _ q=>q;rcases hc with y| y
  ·rw [<- y,z,I.free] at e;cases e
  ·rw [z,I.free] at y;cases y
end
def aeB (K:PySem.W.Frag)(Bc:Value)(i:Nat)(th:TS)(D:Ends):St->XK:=fun σ cls oe H=>∃ C e,cls=.ref C/\oe=some e/\exmOne K (.ref C) Bc=some true /\
 th { nx:=fun σ' H'=>D.nx (σ'.set i none) H',rt:=D.rt,bk:=fun σ' H'=>D.bk (σ'.set i none) H',ct:=fun σ' H'=>D.ct (σ'.set i none) H' } (σ.set i (some (.ref e))) (upd H e (.ext (XAt e C)))
def tTry (K:PySem.W.Frag)(Bc:Value)(i:Nat)(tb:TX)(th:TS):TS:=fun D σ H=>tb D (aeB K Bc i th D) σ H
section
variable {X:Cx}{body suite:List Stmt}{b0:Stmt}{x n:Str}{Ba:Addr}{i:Nat}{tb:TX}{th:TS}{np hpos pos:Pos}
theorem Wg (hB:Body X)(hc:X.calm=true)(hb:af5 X body tb)(hg:Gl X x)(hm:X.mg x=some (.ref Ba))(hN:X.N.Nodup)(hi:X.N[i]?=some n)(hlo:X.env.scope.names.lookup n=some .local)
  (hs:∀ e:Addr,PSs (Oa X e) (b0::suite) th)(hd:(x ==("__debug__":Str))=false:=by decide):
  PS X (.Try body [.ExceptHandler (some (.Name x np)) (some n) (b0::suite) hpos] [] [] pos) (tTry X.K (.ref Ba) i tb th):=by
 intro pins s σ H D I h
 refine wpAny_Try_except (wpAny_mono (hb pins s σ H D _ I h) (fun fl s1 q=>?_) fun ev s1 q=>?_)
 ·cases fl with
  | next=>exact wpAny_execs_nil q
  | ret v=>exact q
  | brk=>exact q
  | cont=>exact q
 obtain ⟨σ1,H1,s0,I1,ea,t,C,B,H',rfl,os,bare,fl,fy,new,nh,C',e',ec,ee,hx,ht⟩:=q
 cases ec
 cases ee
 have hfr:X.A.frames=some (X.env::X.outer):=by rw [<- hB.st];exact I1.ok.frames
 have fy0:Heap.FlyingW B (X.env::X.outer) ea (.ref C) (.ref t) s1.heap:=by rw [<- hB.st];exact fy
 refine wpAny_looks_onW hfr hB.fr fy0 fun h4 hd4 sm4=>?_
 have fl4:=fl.on (h2:=h4) hd4.1 (sV fy.2.2.1 sm4)
 refine wpAny_landsW hd4 fun h5 fy5 sm5=>?_
 have fl5:=fl4.on (h2:=h5) fy5.1 (by rw [hB.st];exact sV hd4.2.2.1 sm5)
 have I5:Inv X pins σ1 H' { s1 with heap:=h5 }:=I1.call' (s':={ s1 with heap:=h5 }) (ch:=[]) os fl5.un fl5.hok bare (fun b z=>nomatch z)
 have hxe:XAt ea C h5:=by obtain ⟨ob,h1,h2⟩:=fy5.there;exact ⟨ob,h1,h2⟩
 refine wpAny_handleBy_cons (codeAny_handlers_test ?_) (by intro q;cases q)
 refine uf (X:=Oa X ea) (I5.sup ea) hg hm ?_ hd
 refine (exm_one (K:=X.K) I5.kIn (Pn hxe) hx).at ?_
 show codeAny _ _ _ _ _
 refine codeAny_handlers_suite_as ?_
 refine lands_againW fy5 fun h6 fy6 sm6=>?_
 have fl6:=fl5.on (h2:=h6) fy6.1 (by rw [hB.st];exact sV fy5.2.2.1 sm6)
 have I6:Inv X pins σ1 H' { s1 with heap:=h6 }:=I1.call' (s':={ s1 with heap:=h6 }) (ch:=[]) os fl6.un fl6.hok bare (fun b z=>nomatch z)
 have hxe6:XAt ea C h6:=by obtain ⟨ob,h1,h2⟩:=fy6.there;exact ⟨ob,h1,h2⟩
 have newS:X.s₀.heap.get? ea=none:=by
  cases q:X.s₀.heap.get? ea with
  | none=>rfl
  | some o =>
   obtain ⟨o',e'⟩:=I1.base.there ea o q (by rw [hB.ex];simp)
   rw [new] at e';cases e'
 have I7:Inv X pins σ1 (upd H' ea (.ext (XAt ea C))) { s1 with heap:=h6 }:=by
  refine I6.aeg nh (fun z=>?_) newS (fun y c e z=>?_) (fun p hp z=>?_) ⟨hxe6,(by obtain ⟨o,h1,_⟩:=hxe6;exact ⟨o,h1⟩),fun g1 g2 p k=>?_⟩
  ·obtain ⟨m,⟨o,_,_,ho,_⟩,_⟩:=I1.loc
   rw [<- z,new] at ho;cases ho
  ·obtain ⟨v,o,ho,_⟩:=I1.cell y c e
   rw [z,new] at ho;cases ho
  ·have ho:=(I1.pin p hp).1
   rw [z,new] at ho;cases ho
  ·obtain ⟨o,h1,h2⟩:=p
   exact ⟨o,k o h1,h2⟩
 refine FQ (X:=Oa X ea) (I7.sup ea) hN hi (.inl hlo) (v:=.ref ea) rfl (fun s8 I8=>?_) (.inr hlo)
 refine wpAny_mono (hs ea pins s8 _ _ _ I8 ht) (fun f s9 q=>?_) fun _ _ z=>z.elim
 have out:∀ {σ9:St}{H9:Hp}(J:Inv (Oa X ea) pins σ9 H9 s9)(Z:Shared->Prop),(∀ s10,Inv X pins (σ9.set i none) H9 s10->Z s10)->wpAny (model X.prog X.w) X.A (do bindName X.env n .none;unbindBehindTheSuite X.env n hpos) (fun _ s10=>Z s10) X.xe s9:=fun {σ9 H9} J Z k=>by
  have J':Inv X pins σ9 H9 s9:=J.aeD fun hc=>I1.ok.hd hc
  obtain ⟨m,hn,hl⟩:=id J'.loc
  exact wpAny_nameGoes_keeps hlo hn (by rw [J'.ok.kind];rfl) fun h' v hn' hsb=>k _ (J'.acv hN hi hsb hn hl hn')
 cases f with
 | next=>obtain ⟨σ9,H9,J,q⟩:=q;exact out J _ fun s10 J10=>⟨_,H9,J10,q⟩
 | brk=>obtain ⟨σ9,H9,J,q⟩:=q;exact out J _ fun s10 J10=>⟨_,H9,J10,q⟩
 | cont=>obtain ⟨σ9,H9,J,q⟩:=q;exact out J _ fun s10 J10=>⟨_,H9,J10,q⟩
 | ret u=>obtain ⟨v,σ9,H9,J,r,q⟩:=q;exact out J _ fun s10 J10=>⟨v,_,H9,J10,r,q⟩
def ClsV (c:V)(t:Value):Prop:=(∃ T,c=.ty T/\t=.type T)\/∃ a,c=.ref a/\t=.ref a
theorem oN:vQ X (.builtin "isinstance") (fun xs H Q=>∃ (e D:Addr)(c:V)(t:Value)(b:Bool),xs=[.ref e,c]/\H e=some (.ext (XAt e D))/\VJ X.K D/\ClsV c t/\kitOne X.K (.ref D) t=some b/\Q (.bl b) H):=by
 intro pins s σ H xs us Q I r h;obtain ⟨e,D,c,t,b,rfl,he,hD,hc,hk,q⟩:=h;obtain ⟨u,v,rfl,ru,rv⟩:=vals2 r;cases ru;have ev:v=t:=by
  rcases hc with ⟨T,rfl,rfl⟩ | ⟨a,rfl,rfl⟩
  ·exact rv
  ·exact rv
 subst ev;obtain ⟨hx,_,_⟩:=(show gR X.prog X.w H s.heap e (.ext (XAt e D)) from I.hok e _ he);exact ag7 (Vk hD) I.kIn hx hk (fun z=>nomatch z) fun tk=>⟨.bl b,H,I.tok tk,rfl,q⟩
end
theorem Tg:bootBuiltins "ValueError"=some (.type "ValueError"):=by kernel_rfl
theorem abu {X:Cx}:Passes (CXE X.prog X.w) X E0:=fun _ _ _ _ _ _ _ h=>by
 obtain ⟨_,_,_,_,_,_,_,_,_,_,_,_,hE⟩:=h;exact hE.elim
theorem Ip {X:Cx}{x:Str}{C:Addr}{pos:Pos}(hg:Gl X x)(hm:X.mg x=some (.ref C))(hd:(x ==("__debug__":Str))=false:=by decide):PE X (.Name x pos) (tC (.ref C)):=fP (v:=.ref C) hg hm rfl hd
structure yX (K:PySem.W.Frag)(mg:Str->Option Value)(x:Str)(C:Addr):Prop where
 m:mg x=some (.ref C)
 q:excIn K C aew "ValueError.__new__"=true
 x:VJ K C
end L2
namespace L2
open PySem PySem.Spec PyProof.Rows
section
variable {X:Cx}
theorem NK {n:Nat}{acc:Array Value}(hacc:ItemsOf (fun i v=>∃ t,v=.int (0+(i:Nat)*1) t) acc n):Vals (kE n) acc.toList:=by
 have hsz:acc.toList.length=n:=by rw [agY];exact hacc.1
 have key:∀ (k:Nat)(l:List Value),l.length=k->(∀ (j:Nat)(v:Value),l[j]?=some v->∃ t,v=.int ((n - k+j:Nat):Int) t)->k<=n->Vals ((List.range' (n - k) k).map fun (i:Nat)=>V.int (i:Int)) l:=by
  intro k
  induction k with
  | zero =>
   intro l hl _ _;have:l=[]:=List.length_eq_zero_iff.mp hl;subst this;exact .nil
  | succ k ih =>
   intro l hl hP hk
   match l,hl with
   | v::l,hl =>
    have hl':l.length=k:=by simpa using hl
    rw [List.range'_succ,agH];obtain ⟨t,ht⟩:=hP 0 v rfl;refine .cons ⟨t,?_⟩ ?_
    ·rw [ht];rfl
    ·have e:n - (k+1)+1=n - k:=by omega
     rw [e];refine ih l hl' (fun j v' e'=>?_) (by omega);obtain ⟨t',ht'⟩:=hP (j+1) v' (by simpa using e');exact ⟨t',by rw [ht'];congr 2;omega⟩
 have:=key n acc.toList hsz (fun j v e=>by
  obtain ⟨t,ht⟩:=hacc.2 j v (by simpa using e);refine ⟨t,?_⟩;rw [ht];congr 1;omega) (agb _)
 rw [ahL,<- List.range_eq_range'] at this;exact this
def N8 (ta:TA):TE:=fun σ H Q=>ta σ H fun vs H1=>∃ n:Nat,vs=[.int (n:Int)]/\n<64/\∀ l,H1 l=none->Q (.ref l) (upd H1 l (.lst (kE n)))
theorem Io {e:Expr}{ta:TA}{p1 p2 p3 pos:Pos}(hcalm:X.calm=true)(hgs:Gl X "list")(hms:X.mg "list"=none)(hgr:Gl X "range")(hmr:X.mg "range"=none)(ha:PA X [e] ta)(hs:starEach [e] X.env=[(false,eval e X.env)]:=by rfl):
  PE X (.Call (.Name "list" p1) [.Call (.Name "range" p2) [e] [] p3] [] pos) (N8 ta):=by
 intro pins s σ H Q I h;refine Call_ (nj I hgs hms boot_list (agJ ?_ rfl rfl));show wpAny _ _ (spliced ((false,eval (.Call (.Name "range" p2) [e] [] p3) X.env)::[])) _ _ s;refine ahp (Call_ (nj I hgr hmr boot_range (agJ (thn (ha p3 pins s σ H _ I h) fun us s1 ⟨vs,H1,I1,r1,q1⟩=>?_) hs rfl)));obtain ⟨n,e1,hn,q⟩:=q1;subst e1;obtain ⟨u,rfl,t,rfl⟩:=vals1 r1;refine call_range_1 ?_;refine ahD ?_;have hrs:Builtin.Range.rangeSize 0 (n:Int) 1=(n:Nat):=by rw [rangeSize_one];split <;>omega
 generalize hro:({ cls:=.type "range",data:=.fields #[.int 0 s1.toks,.int (n:Int) t,.int 1 (s1.toks+1)] }:Obj)=ro;have I2:Inv X pins σ H1 { s1 with heap:=s1.heap.push ro,toks:=s1.toks+1+1 }:=I1.kept fun b o e=>agc _ e;have hR:IsRange (s1.heap.push ro) s1.heap.objs.size 0 (n:Int) 1 s1.toks t (s1.toks+1):=by
  rw [<- hro];exact agl _ rfl
 refine call_list_range (I.ok.hd hcalm) hR (small_one (by omega) (by omega) (by omega) (by omega)) hrs (by omega) fun h' tk acc c hk hS hacc=>?_;exact ⟨.ref (s1.heap.push ro).objs.size,_,I2.laid (t':=tk) hk (agb _) (show gR X.prog X.w _ h' _ (.lst (kE n)) from ⟨by unfold kE;rw [aeu,ag0,sizeLine_eq];omega,acc.toList,c,NK hacc,by simpa using hS⟩),rfl,q _ (I2.hok.fresh (agb _))⟩
theorem Inv.sO {pins:List (Addr × Obj)}{σ:St}{H:Hp}{s:Shared}{h':Heap}{t':Nat}{ch:List Addr}(I:Inv X pins σ H s)(k:∀ b o,b ∉ ch->s.heap.get? b=some o->h'.get? b=some o)(f:∀ b∈ch,JL X pins H b):Inv X pins σ H { s with heap:=h',toks:=t' }:=by
 have nit:∀ b u,H b=some u->b ∉ ch:=fun b u e z=>by rw [(f b z).1] at e;cases e
 refine I.step (g':=s.gens) (d':=s.drawn) (ch:=ch) (fun b hb=>?_) (fun b o _ _ hc e _=>k b o hc e) (fun b o _ _ hc e _=>⟨o.slots,k b o hc e⟩) (fun _ _ _ _ n=>n)
  (fun b o hc e=>⟨o,k b o hc e⟩) (fun _ _ e=>e) (fun _ _ _ e=>e) (fun b ps e=>⟨#[],by rw [e];simp⟩) (fun m hm=>?_) (fun b u e=>?_) I.bare
 ·obtain ⟨f0,f1,f2,f3,f4,f5⟩:=f b hb;exact ⟨f3,f1,f4,f5⟩
 ·obtain ⟨o,es,ep,ho,r⟩:=hm;exact ⟨o,es,ep,k _ o (fun z=>(f _ z).2.1 rfl) ho,r⟩
 ·refine (I.hok b u e).stay (fun c v hc q=>k c v ?_ q) (fun _ q=>q) fun _ _ q=>q;rcases hc with z| z
  ·rw [z];exact nit b u e
  ·exact nit c _ z
def Itz (K:PySem.W.Frag)(l1 l2:Addr)(xs ys:List V):It:=
 ⟨fun i H=>SqL K H l1 xs/\SqL K H l2 ys/\i<xs.length/\i<ys.length,fun i H x H'=>∃ T a b,x=.ref T/\H T=none/\xs[i]?=some a/\ys[i]?=some b/\H'=upd H T (.tup [a,b]),
  fun i H=>SqL K H l1 xs/\SqL K H l2 ys/\(xs.length<=i\/ys.length<=i)⟩
def afD (z TI TO i1 i2 l1 l2:Addr)(i:Nat)(h:Heap):Prop:=IsZip h z TI TO .none/\IsPair h TI (.ref i1) (.ref i2)/\(∃ a b,IsPair h TO a b)/\h.IsListIter i1 l1 i/\h.IsListIter i2 l2 i
theorem Ub {P:Program}{w:World}{K:PySem.W.Frag}{elts:List Expr}{kk:Nat}{tpos:Pos}{z TI TO i1 i2 l1 l2:Addr}{xs ys:List V}(D:ZipApart z TI TO i1 i2 l1 l2):
  Turn P w K (.Tuple elts kk tpos) (Itz K l1 l2 xs ys) [z,TI,TO,i1,i2] z (afD z TI TO i1 i2 l1 l2) where
 mem:=by simp
 obj:=fun i h st b hb=>by
  obtain ⟨hz,hTI,⟨a,b',hTO⟩,⟨o1,e1,c1,d1⟩,⟨o2,e2,c2,d2⟩⟩:=st;simp at hb;rcases hb with rfl| rfl| rfl| rfl| rfl
  ·exact ⟨_,hz,fun v z=>by cases (show Data.fields _=Data.cell v from z)⟩
  ·exact ⟨_,hTI,fun v z=>by cases (show Data.seq _ _=Data.cell v from z)⟩
  ·exact ⟨_,hTO,fun v z=>by cases (show Data.seq _ _=Data.cell v from z)⟩
  ·exact ⟨o1,e1,fun v z=>by rw [d1] at z;cases z⟩
  ·exact ⟨o2,e2,fun v z=>by rw [d2] at z;cases z⟩
 keep:=fun i h h' st k=>by
  obtain ⟨hz,hTI,⟨a,b,hTO⟩,h1,h2⟩:=st;exact ⟨k z (by simp) _ hz,k TI (by simp) _ hTI,⟨a,b,k TO (by simp) _ hTO⟩,h1.at fun o e=>k i1 (by simp) o e,h2.at fun o e=>k i2 (by simp) o e⟩
 item:=by
  intro X hP hw hK hc i pins s σ H E I hf st hg;subst hP hw hK;obtain ⟨hz,hTI,⟨p,p',hTO⟩,h1,h2⟩:=st;obtain ⟨hq1,hq2,hi1,hi2⟩:=hg;obtain ⟨its1,rv1,pl1,hz1⟩:=I.list hq1;obtain ⟨its2,rv2,pl2,hz2⟩:=I.list hq2;obtain ⟨u1,hu1,ru1⟩:=rv1.get (af9 hi1);obtain ⟨u2,hu2,ru2⟩:=rv2.get (af9 hi2);refine wpAny_pyNext_zip_item D hz hTI hTO h1 h2 pl1.isList pl2.isList (x:=u1) (y:=u2) (by simpa using hu1) (by simpa using hu2) fun h' a1 a2 a3 a4 a5 a6 hk=>?_;have lt:∀ {c o},s.heap.get? c=some o->s.heap.objs.size≠c:=fun e=>Nat.ne_of_gt (agr e);refine ⟨.ref s.heap.objs.size,rfl,wpAny_letOwnedTupleGo_zip (s:={ s with heap:=h' }) a1 fun h'' hz' hs'=>?_⟩;have Tz:s.heap.objs.size≠z:=lt hz;have sub:∀ b∈([z,TO,i1,i2]:List Addr),b∈([z,TI,TO,i1,i2]:List Addr):=fun b hb=>by
   simp at hb ⊢;rcases hb with rfl| rfl| rfl| rfl <;>simp
  have I1:Inv X pins σ H { s with heap:=h'' }:=I.sO (t':=s.toks) (ch:=[z,TO,i1,i2])
   (fun b o hb e=>hs'.extBut b o (fun x=>hb (by simp [x])) (hk b o (fun x=>hb (by simp [x])) (fun x=>hb (by simp [x])) (fun x=>hb (by simp [x])) (fun x=>hb (by simp [x])) e)) fun b hb=>hf b (sub b hb)
  have F:=I.G9 (H':=H) (agb _) (I.hok.fresh (agb _));obtain ⟨F0,F1,F2,F3,F4,F5⟩:=F;have hT:IsTup h'' s.heap.objs.size #[u1,u2]:=⟨_,hs'.extBut _ _ Tz a5,rfl,_,rfl⟩;have I2:Inv X pins σ (upd H s.heap.objs.size (.tup [xs[i],ys[i]])) { s with heap:=h'' }:=I1.adopt F0 F1 I.sz F4 F5 (show gR X.prog X.w _ h'' _ (.tup [xs[i],ys[i]]) from ⟨by rw [sizeLine_eq];simp,[u1,u2],.cons ru1 (.cons ru2 .nil),hT⟩);refine ⟨.ref s.heap.objs.size,_,I2,rfl,⟨_,_,_,rfl,F0,af9 hi1,af9 hi2,rfl⟩,?_,fun b hb=>?_⟩
  ·exact ⟨hz',hs'.extBut _ _ D.TIz (hk _ _ D.TIz D.TITO D.TIi1 D.TIi2 hTI),⟨_,_,hs'.extBut _ _ D.TOz a2⟩,a3.extBut hs'.extBut D.i1z,a4.extBut hs'.extBut D.i2z⟩
  ·rw [aN]
   ·exact (hf b hb).1
   ·simp at hb;obtain ⟨o1,e1,_⟩:=h1;obtain ⟨o2,e2,_⟩:=h2;rcases hb with rfl| rfl| rfl| rfl| rfl
    ·exact (lt hz).symm
    ·exact (lt hTI).symm
    ·exact (lt hTO).symm
    ·exact (lt e1).symm
    ·exact (lt e2).symm
 done:=by
  intro X hP hw hK hc i pins s σ H E I hf st hg;subst hP hw hK;obtain ⟨hz,hTI,⟨p,p',hTO⟩,h1,h2⟩:=st;obtain ⟨hq1,hq2,hend⟩:=hg;obtain ⟨its1,rv1,pl1,hz1⟩:=I.list hq1;obtain ⟨its2,rv2,pl2,hz2⟩:=I.list hq2;have e1:=rv1.length;have e2:=rv2.length;have sub:∀ b∈([z,TO,i1,i2]:List Addr),b∈([z,TI,TO,i1,i2]:List Addr):=fun b hb=>by
   simp at hb ⊢;rcases hb with rfl| rfl| rfl| rfl <;>simp
  refine wpAny_pyNext_zip_end (I.ok.hd hc) D hz hTI hTO h1 h2 pl1.isList pl2.isList ?_ fun h' hk=>⟨rfl,I.sO (t':=s.toks) (ch:=[z,TO,i1,i2])
   (fun b o hb e=>hk b o (fun x=>hb (by simp [x])) (fun x=>hb (by simp [x])) (fun x=>hb (by simp [x])) (fun x=>hb (by simp [x])) e) fun b hb=>hf b (sub b hb)⟩
  rcases hend with h| h
  ·exact .inl (by simp;omega)
  ·exact .inr (by simp;omega)
 self:=fun _ _ _ _ _ st h=>wpAny_pyIter_zip st.1 h
def iZip (K:PySem.W.Frag)(ta:TA):TI:=fun σ H R=>ta σ H fun vs H1=>∃ l1 l2 xs ys,vs=[.ref l1,.ref l2]/\SqL K H1 l1 xs/\SqL K H1 l2 ys/\R (Itz K l1 l2 xs ys) H1
theorem Cj {elts:List Expr}{kk:Nat}{tpos:Pos}{a b:Expr}{ta:TA}{p pos:Pos}(hg:Gl X "zip")(hm:X.mg "zip"=none)(ha:PA X [a,b] ta)(hs:starEach [a,b] X.env=[(false,eval a X.env),(false,eval b X.env)]:=by rfl)(hs2:starEach [b] X.env=[(false,eval b X.env)]:=by rfl):
  PI X (.Tuple elts kk tpos) (.Call (.Name "zip" p) [a,b] [] pos) (iZip X.K ta):=by
 intro pins s σ H R I h;refine Call_ (nj I hg hm boot_zip (agJ (thn (ha pos pins s σ H _ I h) fun us s1 ⟨vs,H1,I1,r1,q1⟩=>?_) (by rw [hs,hs2]) (by rw [hs2];rfl)));obtain ⟨l1,l2,xs,ys,e,hq1,hq2,q⟩:=q1;subst e;cases r1 with
 | cons r rr =>
  cases rr with
  | cons r' rr =>
   cases rr;cases r;cases r';obtain ⟨its1,rv1,pl1,hz1⟩:=I1.list hq1;obtain ⟨its2,rv2,pl2,hz2⟩:=I1.list hq2;refine call_zip_2 pl1.isList pl2.isList fun h' a1 a2 a3 a4 a5 a6 hk=>?_;refine wpAny_pyIter_zip a1 ?_;have b1:l1<s1.heap.objs.size:=by obtain ⟨o,e,_⟩:=pl1.isList;exact agr e
   have b2:l2<s1.heap.objs.size:=by obtain ⟨o,e,_⟩:=pl2.isList;exact agr e
   refine ⟨_,_,_,_,H1,rfl,I1.kept (t':=s1.toks) hk,Ub (l1:=l1) (l2:=l2) (xs:=xs) (ys:=ys) (TI:=s1.heap.objs.size+2) (TO:=s1.heap.objs.size+3) (i1:=s1.heap.objs.size) (i2:=s1.heap.objs.size+1) ?_,⟨a1,a2,⟨_,_,a3⟩,a4,a5⟩,fun b hb=>?_,q⟩
   ·constructor <;>exact fun z=>by simp only [Addr] at z b1 b2;omega
   ·have hb':s1.heap.objs.size<=b:=by
     simp at hb;rcases hb with rfl| rfl| rfl| rfl| rfl <;>simp
    exact I1.G9 hb' (I1.hok.fresh hb')
theorem GF {K:PySem.W.Frag}{l1 l2:Addr}{xs ys:List V}{g:TG}{tb:TS}{D:Ends}{σ:St}{H:Hp}(Pv:Nat->St->Hp->Prop)(hxy:xs.length=ys.length)(h0:Pv 0 σ H)(hl:∀ i σ H,i<=xs.length->Pv i σ H->SqL K H l1 xs/\SqL K H l2 ys)
  (hs:∀ i a b T σ H,xs[i]?=some a->ys[i]?=some b->Pv i σ H->H T=none->g (.ref T) σ (upd H T (.tup [a,b])) fun σ2 H2=>tb { D with nx:=Pv (i+1),ct:=Pv (i+1),bk:=D.nx } σ2 H2)(hd:∀ σ H,Pv xs.length σ H->D.nx σ H):
  ∃ W:Nat->Nat->St->Hp->Prop,(∃ m,W 0 m σ H)/\∀ i m σ H,W i m σ H ->
   ((Itz K l1 l2 xs ys).stop i H/\D.nx σ H)\/((Itz K l1 l2 xs ys).go i H/\∃ N:St->Hp->Prop,(∀ σ' H',N σ' H'->∃ m',m'<m/\W (i+1) m' σ' H')/\∀ x H',(Itz K l1 l2 xs ys).yld i H x H'->g x σ H' fun σ2 H2=>tb { D with nx:=N,ct:=N,bk:=D.nx } σ2 H2):=by
 refine ⟨fun i m σ H=>m=xs.length - i/\i<=xs.length/\Pv i σ H,⟨xs.length,by simp,agN _,h0⟩,?_⟩
 rintro i m σ H ⟨rfl,hi,p⟩
 obtain ⟨q1,q2⟩:=hl i σ H hi p
 by_cases hlt:i<xs.length
 ·refine .inr ⟨⟨q1,q2,hlt,by omega⟩,Pv (i+1),fun σ' H' p'=>⟨xs.length - (i+1),by omega,rfl,hlt,p'⟩,fun x H' y=>?_⟩
  obtain ⟨T,a,b,rfl,hT,ha,hb,rfl⟩:=y
  exact hs i a b T σ _ ha hb p hT
 ·have e:i=xs.length:=by omega
  subst e
  exact .inl ⟨⟨q1,q2,.inl (agb _)⟩,hd σ H p⟩
end
section
variable {X:Cx}
def Ite (K:PySem.W.Frag)(l:Addr)(xs:List V):It:=
 ⟨fun i H=>SqL K H l xs/\i<xs.length,fun i H x H'=>∃ T a,x=.ref T/\H T=none/\xs[i]?=some a/\H'=upd H T (.tup [.int (i:Int),a]),fun i H=>SqL K H l xs/\xs.length<=i⟩
def ael (e it l:Addr)(i:Nat)(h:Heap):Prop:=(∃ old,IsEnum h e it i old)/\h.IsListIter it l i
theorem Py {P:Program}{w:World}{K:PySem.W.Frag}{elts:List Expr}{kk:Nat}{tpos:Pos}{e it l:Addr}{xs:List V}(hei:e≠it):
  Turn P w K (.Tuple elts kk tpos) (Ite K l xs) [e,it] e (ael e it l) where
 mem:=by simp
 obj:=fun i h st b hb=>by
  obtain ⟨⟨old,he⟩,⟨o1,e1,c1,d1⟩⟩:=st;simp at hb;rcases hb with rfl| rfl
  ·exact ⟨_,he,fun v z=>by cases (show Data.fields _=Data.cell v from z)⟩
  ·exact ⟨o1,e1,fun v z=>by rw [d1] at z;cases z⟩
 keep:=fun i h h' st k=>by
  obtain ⟨⟨old,he⟩,h1⟩:=st;exact ⟨⟨old,k e (by simp) _ he⟩,h1.at fun o x=>k it (by simp) o x⟩
 item:=by
  intro X hP hw hK hc i pins s σ H E I hf st hg;subst hP hw hK;obtain ⟨⟨old,he⟩,h1⟩:=st;obtain ⟨hq1,hi1⟩:=hg;obtain ⟨its1,rv1,pl1,hz1⟩:=I.list hq1;obtain ⟨u1,hu1,ru1⟩:=rv1.get (af9 hi1);refine wpAny_pyNext_enum_item he h1 pl1.isList (x:=u1) (by simpa using hu1) hei fun h' a1 a2 a3 a4 hk=>?_;have lt:∀ {c o},s.heap.get? c=some o->s.heap.objs.size≠c:=fun e=>Nat.ne_of_gt (agr e);refine ⟨.ref s.heap.objs.size,rfl,wpAny_letOwnedTupleGo_enum (s:={ s with heap:=h',toks:=s.toks+1 }) a1 fun h'' hz' hs'=>?_⟩;have Tz:s.heap.objs.size≠e:=lt he;have I1:Inv X pins σ H { s with heap:=h'',toks:=s.toks+1 }:=I.sO (ch:=[e,it])
   (fun b o hb x=>hs'.extBut b o (fun z=>hb (by simp [z])) (hk b o (fun z=>hb (by simp [z])) (fun z=>hb (by simp [z])) x)) fun b hb=>hf b hb
  obtain ⟨F0,F1,F2,F3,F4,F5⟩:=I.G9 (H':=H) (agb _) (I.hok.fresh (agb _));have hT:IsTup h'' s.heap.objs.size #[.int (i:Int) s.toks,u1]:=⟨_,hs'.extBut _ _ Tz a3,rfl,_,rfl⟩;have I2:Inv X pins σ (upd H s.heap.objs.size (.tup [.int (i:Int),xs[i]])) { s with heap:=h'',toks:=s.toks+1 }:=I1.adopt F0 F1 I.sz F4 F5 (show gR X.prog X.w _ h'' _ (.tup [.int (i:Int),xs[i]]) from ⟨by rw [sizeLine_eq];simp,[.int (i:Int) s.toks,u1],.cons ⟨_,rfl⟩ (.cons ru1 .nil),hT⟩);refine ⟨.ref s.heap.objs.size,_,I2,rfl,⟨_,_,rfl,F0,af9 hi1,rfl⟩,?_,fun b hb=>?_⟩
  ·exact ⟨⟨_,by simpa using hz'⟩,a2.extBut hs'.extBut hei.symm⟩
  ·rw [aN]
   ·exact (hf b hb).1
   ·simp at hb;obtain ⟨o1,e1,_⟩:=h1;rcases hb with rfl| rfl
    ·exact (lt he).symm
    ·exact (lt e1).symm
 done:=by
  intro X hP hw hK hc i pins s σ H E I hf st hg;subst hP hw hK;obtain ⟨⟨old,he⟩,h1⟩:=st;obtain ⟨hq1,hend⟩:=hg;obtain ⟨its1,rv1,pl1,hz1⟩:=I.list hq1;have e1:=rv1.length;exact wpAny_pyNext_enum_end (I.ok.hd hc) he h1 pl1.isList (by simp;omega) fun h' hk=>⟨rfl,I.sO (t':=s.toks) (ch:=[e,it])
   (fun b o hb x=>hk b o (fun z=>hb (by simp [z])) x) fun b hb=>hf b hb⟩
 self:=fun _ _ _ _ _ st h=>by
  obtain ⟨⟨old,he⟩,_⟩:=st;exact wpAny_pyIter_enum he h
def afv (K:PySem.W.Frag)(ta:TA):TI:=fun σ H R=>ta σ H fun vs H1=>∃ l xs,vs=[.ref l]/\SqL K H1 l xs/\R (Ite K l xs) H1
theorem Gp {elts:List Expr}{kk:Nat}{tpos:Pos}{a:Expr}{ta:TA}{p pos:Pos}(hg:Gl X "enumerate")(hm:X.mg "enumerate"=none)(ha:PA X [a] ta)(hs:starEach [a] X.env=[(false,eval a X.env)]:=by rfl):
  PI X (.Tuple elts kk tpos) (.Call (.Name "enumerate" p) [a] [] pos) (afv X.K ta):=by
 intro pins s σ H R I h;refine Call_ (nj I hg hm boot_enumerate (agJ (thn (ha pos pins s σ H _ I h) fun us s1 ⟨vs,H1,I1,r1,q1⟩=>?_) hs rfl));obtain ⟨l1,xs,e,hq1,q⟩:=q1;subst e;obtain ⟨u,rfl,ru⟩:=vals1 r1;cases ru;obtain ⟨its1,rv1,pl1,hz1⟩:=I1.list hq1;refine call_enumerate_list pl1.isList fun h' a1 a2 a3 hk=>?_;refine wpAny_pyIter_enum a1 ?_;refine ⟨_,_,_,_,H1,rfl,I1.kept (t':=s1.toks) hk,Py (l:=l1) (xs:=xs) (it:=s1.heap.objs.size) (Nat.succ_ne_self _),⟨⟨_,a1⟩,a2⟩,fun b hb=>?_,q⟩;have hb':s1.heap.objs.size<=b:=by
  simp at hb;rcases hb with rfl| rfl <;>simp
 exact I1.G9 hb' (I1.hok.fresh hb')
theorem M8 {K:PySem.W.Frag}{l:Addr}{xs:List V}{g:TG}{tb:TS}{D:Ends}{σ:St}{H:Hp}(Pv:Nat->St->Hp->Prop)(h0:Pv 0 σ H)(hl:∀ i σ H,i<=xs.length->Pv i σ H->SqL K H l xs)
  (hs:∀ i a T σ H,xs[i]?=some a->Pv i σ H->H T=none->g (.ref T) σ (upd H T (.tup [.int (i:Int),a])) fun σ2 H2=>tb { D with nx:=Pv (i+1),ct:=Pv (i+1),bk:=D.nx } σ2 H2)(hd:∀ σ H,Pv xs.length σ H->D.nx σ H):
  ∃ W:Nat->Nat->St->Hp->Prop,(∃ m,W 0 m σ H)/\∀ i m σ H,W i m σ H ->
   ((Ite K l xs).stop i H/\D.nx σ H)\/((Ite K l xs).go i H/\∃ N:St->Hp->Prop,(∀ σ' H',N σ' H'->∃ m',m'<m/\W (i+1) m' σ' H')/\∀ x H',(Ite K l xs).yld i H x H'->g x σ H' fun σ2 H2=>tb { D with nx:=N,ct:=N,bk:=D.nx } σ2 H2):=by
 refine ⟨fun i m σ H=>m=xs.length - i/\i<=xs.length/\Pv i σ H,⟨xs.length,by simp,agN _,h0⟩,?_⟩
 rintro i m σ H ⟨rfl,hi,p⟩
 have q1:=hl i σ H hi p
 by_cases hlt:i<xs.length
 ·refine .inr ⟨⟨q1,hlt⟩,Pv (i+1),fun σ' H' p'=>⟨xs.length - (i+1),by omega,rfl,hlt,p'⟩,fun x H' y=>?_⟩
  obtain ⟨T,a,rfl,hT,ha,rfl⟩:=y
  exact hs i a T σ _ ha p hT
 ·have e:i=xs.length:=by omega
  subst e
  exact .inl ⟨⟨q1,agb _⟩,hd σ H p⟩
theorem Jk {K:PySem.W.Frag}{a:Addr}{xs:List V}{acc:Addr}{g:TG}{tc:TT}{te:TE}{τ:St}{H1:Hp}{Q:Hp->Prop}(Pv:Nat->St->Hp->Prop)(h0:Pv 0 τ (upd H1 acc (.lst [])))(hl:∀ i τ H,i<=xs.length->Pv i τ H->SqL K H a xs)
  (hs:∀ i x T τ H,xs[i]?=some x->Pv i τ H->H T=none->g (.ref T) τ (upd H T (.tup [.int (i:Int),x])) fun τ4 H4=>tc τ4 H4 fun b H5=>if b=true then te τ4 H5 fun y H6=>∃ ys,H6 acc=some (.lst ys)/\ys.length<sizeLine/\Pv (i+1) τ4 (upd H6 acc (.lst (ys++[y]))) else Pv (i+1) τ4 H5)
  (hd:∀ τ H,Pv xs.length τ H->Q H):zZ (Ite K a xs) acc g tc te τ H1 Q:=by
 refine ⟨fun i m τ H=>m=xs.length - i/\i<=xs.length/\Pv i τ H,⟨xs.length,by simp,agN _,h0⟩,?_⟩
 rintro i m τ H ⟨rfl,hi,p⟩
 have q:=hl i τ H hi p
 by_cases hlt:i<xs.length
 ·refine .inr ⟨⟨q,hlt⟩,Pv (i+1),fun τ' H' p'=>⟨xs.length - (i+1),by omega,rfl,hlt,p'⟩,fun x H' y=>?_⟩
  obtain ⟨T,b,rfl,hT,hb,rfl⟩:=y
  exact hs i b T τ _ hb p hT
 ·have e:i=xs.length:=by omega
  subst e
  exact .inl ⟨⟨q,agb _⟩,hd τ H p⟩
theorem G3 {K:PySem.W.Frag}{l1 l2:Addr}{xs ys:List V}{acc:Addr}{g:TG}{tc:TT}{te:TE}{τ:St}{H1:Hp}{Q:Hp->Prop}(Pv:Nat->St->Hp->Prop)(hxy:xs.length=ys.length)(h0:Pv 0 τ (upd H1 acc (.lst [])))(hl:∀ i τ H,i<=xs.length->Pv i τ H->SqL K H l1 xs/\SqL K H l2 ys)
  (hs:∀ i x y T τ H,xs[i]?=some x->ys[i]?=some y->Pv i τ H->H T=none->g (.ref T) τ (upd H T (.tup [x,y])) fun τ4 H4=>tc τ4 H4 fun b H5=>if b=true then te τ4 H5 fun y H6=>∃ ys,H6 acc=some (.lst ys)/\ys.length<sizeLine/\Pv (i+1) τ4 (upd H6 acc (.lst (ys++[y]))) else Pv (i+1) τ4 H5)
  (hd:∀ τ H,Pv xs.length τ H->Q H):zZ (Itz K l1 l2 xs ys) acc g tc te τ H1 Q:=by
 refine ⟨fun i m τ H=>m=xs.length - i/\i<=xs.length/\Pv i τ H,⟨xs.length,by simp,agN _,h0⟩,?_⟩
 rintro i m τ H ⟨rfl,hi,p⟩
 obtain ⟨q1,q2⟩:=hl i τ H hi p
 by_cases hlt:i<xs.length
 ·refine .inr ⟨⟨q1,q2,hlt,by omega⟩,Pv (i+1),fun τ' H' p'=>⟨xs.length - (i+1),by omega,rfl,hlt,p'⟩,fun x H' y=>?_⟩
  obtain ⟨T,b,c,rfl,hT,hb,hc,rfl⟩:=y
  exact hs i b c T τ _ hb hc p hT
 ·have e:i=xs.length:=by omega
  subst e
  exact .inl ⟨⟨q1,q2,.inl (agb _)⟩,hd τ H p⟩
end
structure Iv (P:Prop):Prop where
 t:True
 p:P
theorem ifT {c:Bool}{A B:Prop}(h:c=true)(a:A):if c=true then A else B:=by rw [if_pos h];exact a
theorem ifF {c:Bool}{A B:Prop}(h:c=false)(b:B):if c=true then A else B:=by rw [if_neg (by rw [h];exact agi)];exact b
theorem ifB {c:Bool}{A B:Prop}(h1:c=true->A)(h2:c=false->B):if c=true then A else B:=by
 cases c with
 | true=>exact ifT rfl (h1 rfl)
 | false=>exact ifF rfl (h2 rfl)
theorem abZ (x y:Int):decide (V.int x=V.int y)=decide (x=y):=by
 by_cases h:x=y
 ·simp [h]
 ·have:¬ V.int x=V.int y:=fun e=>h (by cases e;rfl);simp [h,this]
theorem jt {ns:List Int}{i:Int}(h0:0<=i)(h1:i<(ns.length:Int)):atI (ns.map V.int) i=some (V.int (ns.getD i.toNat 0)):=by
 refine qC h0 ?_;rw [agj,af9 (by omega)];rfl
theorem fU {ns:List Int}{k:Nat}(h:k<ns.length):ns[k]?=some (ns.getD k 0):=by
 rw [agj,af9 h];rfl
theorem afo {n:Nat}{i:Int}(h0:0<=i)(h1:i<(n:Int)):ixN n i=some i.toNat:=by
 unfold ixN;rw [if_pos h0,if_pos h1]
theorem Den.mo {T:fJ}{K:PySem.W.Frag}{H H':Hp}{v:V}{d:PyData}(h:Den K H v d)(e:aJ T H H'):Den K H' v d:=Den.Cz e h
theorem bY.mo {T:fJ}{K:PySem.W.Frag}{H H':Hp}{vs:List V}{ds:List PyData}(h:bY K H vs ds)(e:aJ T H H'):bY K H' vs ds:=bY.Cz e h
theorem SqL.mo {T:fJ}{K:PySem.W.Frag}{H H':Hp}{a:Addr}{xs:List V}(h:SqL K H a xs)(e:aJ T H H'):SqL K H' a xs:=e.seq h
theorem SqT.mo {T:fJ}{K:PySem.W.Frag}{H H':Hp}{a:Addr}{xs:List V}(h:SqT K H a xs)(e:aJ T H H'):SqT K H' a xs:=e.TF h
section
variable {T:fJ}{H0 H1 H H':Hp}{L L':List (Addr × HO)}{a l p:Addr}{o o':HO}{xs:List V}{K:PySem.W.Frag}
theorem Ow.frz (O:Ow T H0 H ((p,o)::L)):∃ Hn,Ow T Hn H L/\aJ T H0 Hn/\Hn p=some o:=by
 obtain ⟨Hn,On,sn,kn⟩:=O.tail.reb;refine ⟨Hn,On,sn,kn p o (O.get 0) fun q hq z=>?_⟩;have nd:=O.nd;rw [agH,ahh] at nd;exact nd.1 (agF.mpr ⟨q,hq,z⟩)
theorem Ow.join (O:Ow T H0 H L)(O':Ow T H H' L'):Ow T H0 H' (L'++L):=by
 have keep:∀ q∈L,H' q.1=some q.2:=fun q hq=>(O.dD O'.same).at_ q hq;refine ⟨O.same.trans O'.same,fun q hq=>?_,fun q hq=>?_,fun q hq=>?_,?_⟩
 ·rcases agw.mp hq with h| h
  ·exact O.same.free (O'.new q h)
  ·exact O.new q h
 ·rcases agw.mp hq with h| h
  ·exact O'.at_ q h
  ·exact keep q h
 ·rcases agw.mp hq with h| h
  ·exact O'.pl q h
  ·exact O.pl q h
 ·rw [aga,ahV];refine ⟨O'.nd,O.nd,fun x hx y hy z=>?_⟩;obtain ⟨q,hq,rfl⟩:=agF.mp hx;obtain ⟨r,hr,rfl⟩:=agF.mp hy;have:=O'.new q hq;rw [z,O.at_ r hr] at this;cases this
end
def dTup (ns:List Int):PyData:=.tuple (ns.map PyData.int)
def Nh (rs:List (List Int)):PyData:=.list (rs.map sI)
section
variable {K:PySem.W.Frag}{H:Hp}{v:V}{a:Addr}{ns:List Int}{rs:List (List Int)}
theorem Den.tup (h:SqT K H a (ns.map V.int)):Den K H (.ref a) (dTup ns):=.tuple h (bY.ints ns)
theorem Den.aa0 (h:Den K H v (dTup ns)):∃ a,v=.ref a/\SqT K H a (ns.map V.int):=by
 cases h with
 | tuple h hs=>exact ⟨_,rfl,by rw [<- bY.int_inv hs];exact h⟩
theorem Den.mK {ds:List PyData}(h:Den K H v (.list ds)):∃ a xs,v=.ref a/\SqL K H a xs/\bY K H xs ds:=by
 cases h with
 | list h hs=>exact ⟨_,_,rfl,h,hs⟩
theorem Den.jm {ds:List PyData}(h:Den K H v (.tuple ds)):∃ a xs,v=.ref a/\SqT K H a xs/\bY K H xs ds:=by
 cases h with
 | tuple h hs=>exact ⟨_,_,rfl,h,hs⟩
theorem Sh.tup (n:Nat)(ns:List Int):Sh (n+1) (dTup ns):=.tuple fun d hd=>by
 obtain ⟨i,_,rfl⟩:=agF.mp hd;exact .int n i
end
section
variable {A B:Prop}
theorem ifD {p:Prop} [Decidable p] (h1:p->A) (h2:¬ p->B):if decide p=true then A else B:=ifB (fun h=>h1 (of_decide_eq_true h)) fun h=>h2 (of_decide_eq_false h)
theorem ifI {x y:Int}(h1:x=y->A)(h2:¬ x=y->B):if decide (V.int x=V.int y)=true then A else B:=by rw [abZ];exact ifD h1 h2
theorem ifN {c:Bool}(h:if c=true then B else A):if (!c)=true then A else B:=by cases c <;>simpa using h
end
structure Lic where
 day:Int
 start:Int
 back:Int
 most:Int
def Dv (l:Lic):PyData:=dTup [l.day,l.start,l.back,l.most]
def SN (ls:List Lic):PyData:=.list (ls.map Dv)
abbrev vq (l:Lic):List V:=[.int l.day,.int l.start,.int l.back,.int l.most]
section
variable {K:PySem.W.Frag}{H:Hp}{v:V}{a:Addr}{ls:List Lic}{l:Lic}{xs:List V}{k:Nat}
theorem Den.lic (h:SqT K H a (vq l)):Den K H (.ref a) (Dv l):=Den.tup (ns:=[l.day,l.start,l.back,l.most]) h
theorem Den.Rx (h:Den K H v (Dv l)):∃ a,v=.ref a/\SqT K H a (vq l):=h.aa0
theorem bY.rO (h:bY K H xs (ls.map Dv))(hk:ls[k]?=some l):∃ a,xs[k]?=some (.ref a)/\SqT K H a (vq l):=by
 obtain ⟨v,h1,h2⟩:=h.get (i:=k) (d:=Dv l) (by rw [agg,hk];rfl);obtain ⟨a,rfl,hT⟩:=h2.Rx;exact ⟨a,h1,hT⟩
theorem bY.CJ (h:bY K H xs (ls.map Dv))(hx:xs[k]?=some v):∃ a l,v=.ref a/\ls[k]?=some l/\SqT K H a (vq l):=by
 obtain ⟨d,h1,h2⟩:=h.get' hx;rw [agg] at h1;cases e:ls[k]? with
 | none=>rw [e] at h1;cases h1
 | some l =>
  rw [e] at h1;cases h1;obtain ⟨a,rfl,hT⟩:=h2.Rx;exact ⟨a,l,rfl,rfl,hT⟩
theorem Sh.lic (n:Nat)(l:Lic):Sh (n+1) (Dv l):=Sh.tup n _
theorem Sh.roll (n:Nat)(ls:List Lic):Sh (n+2) (SN ls):=.list fun d hd=>by
 obtain ⟨i,_,rfl⟩:=agF.mp hd;exact .lic n i
end
theorem ab1 (xs:List V)(i j:Nat):Kw xs (some (i:Int)) (some (j:Int))=(xs.drop i).take (j - i):=by
 unfold Kw;rw [HT.Ce,HT.Ce];refine List.ext_getElem? fun k=>?_;simp only [List.getElem?_take,List.getElem?_drop];by_cases h1:k<j - i
 ·rw [if_pos h1];by_cases h2:i+k<xs.length
  ·rw [if_pos (by omega),show min i xs.length=i by omega]
  ·rw [ahc (l:=xs) (i:=i+k) (by omega)];split
   ·exact ahc (by omega)
   ·rfl
 ·rw [if_neg h1];split
  ·rename_i h3
   omega
  ·rfl
theorem aec (ns:List Int)(i j:Nat):Kw (ns.map V.int) (some (i:Int)) (some (j:Int))=((ns.drop i).take (j - i)).map V.int:=by
 rw [ab1,List.map_take,List.map_drop]
theorem Vw (ns:List Int)(i:Nat):Kw (ns.map V.int) (some (i:Int)) none=(ns.drop i).map V.int:=by
 unfold Kw;rw [HT.Ce,aeu,show HT.sIx ns.length ns.length none=ns.length from rfl,List.map_drop];by_cases h:i<=ns.length
 ·rw [Nat.min_eq_left h,agq (by rw [ag9,aeu];omega)]
 ·rw [Nat.min_eq_right (by omega),List.drop_of_length_le (l:=ns.map V.int) (i:=i) (by rw [aeu];omega),ahL,List.take_zero]
theorem Ow.lend {T:fJ}{H0 H:Hp}{A B:List (Addr × HO)}(O:Ow T H0 H (A++B)):∃ H1,Ow T H1 H A/\aJ T H0 H1/\(∀ p∈B,H1 p.1=some p.2)/\∀ (H':Hp)(A':List (Addr × HO)),Ow T H1 H' A'->Ow T H0 H' (A'++B):=by
 have OA:Ow T H0 H A:=O.sub (List.sublist_append_left A B);have OB:Ow T H0 H B:=O.sub (aht A B);obtain ⟨H1,O1,s1,k1⟩:=OA.reb;have nd:=O.nd;rw [aga,ahV] at nd;have hB:∀ p∈B,H1 p.1=some p.2:=fun p hp=>k1 p.1 p.2 (OB.at_ p hp) fun q hq z=>nd.2.2 q.1 (agF.mpr ⟨q,hq,rfl⟩) p.1 (agF.mpr ⟨p,hp,rfl⟩) z;refine ⟨H1,O1,s1,hB,fun H' A' O'=>?_⟩;refine ⟨s1.trans O'.same,fun p hp=>?_,fun p hp=>?_,fun p hp=>?_,?_⟩
 ·rcases agw.mp hp with h| h
  ·exact s1.free (O'.new p h)
  ·exact OB.new p h
 ·rcases agw.mp hp with h| h
  ·exact O'.at_ p h
  ·refine O'.same.keep _ _ (hB p h) fun ps z=>?_;have:=OB.pl p h;rw [z] at this;cases this
 ·rcases agw.mp hp with h| h
  ·exact O'.pl p h
  ·exact OB.pl p h
 ·rw [aga,ahV];refine ⟨O'.nd,OB.nd,fun x hx y hy z=>?_⟩;obtain ⟨q,hq,rfl⟩:=agF.mp hx;obtain ⟨r,hr,rfl⟩:=agF.mp hy;have e:=O'.new q hq;rw [z,hB r hr] at e;cases e
theorem qy {X:Cx}{K:PySem.W.Frag}{pos:Pos}{es:List Expr}{k:Nat}{t:TGs}{n:Nat}(hK:X.K=K)(hc:X.calm=true)(h:PGs X es t)(hn:(assignEach es X.env).length=n:=by rfl)(hst:(assignEach es X.env).findIdx? (·.1)=none:=by rfl):PG X (.Tuple es k pos) (afY K n t):=hK ▸ iH hc h hn hst
theorem acf {τ:St}{H:Hp}{A B:Hp->Prop}(h:A H):aen τ H fun b H5=>if b=true then A H5 else B H5:=by
 show if true=true then A H else B H;rw [if_pos rfl];exact h
theorem Fi {α:Type}:∀ {L:List α}{k:Nat}{p:α},L[k]?=some p->(p::L.eraseIdx k).Perm L
 | [],_,_,h=>by simp at h
 | a::L,0,p,h=>by
  have e:a=p:=by simpa using h
  subst e;exact List.Perm.refl _
 | a::L,k+1,p,h=>by
  have h':L[k]?=some p:=by simpa using h
  rw [List.eraseIdx_cons_succ];exact (List.Perm.swap a p _).trans ((Fi h').cons a)
section
variable {T:fJ}{H0 H:Hp}{L:List (Addr × HO)}{p:Addr}{o:HO}
theorem Ow.pull (O:Ow T H0 H L)(k:Nat)(h:L[k]?=some (p,o):=by rfl):Ow T H0 H ((p,o)::L.eraseIdx k):=O.perm (Fi h)
theorem Ow.afx (O:Ow T H0 H L)(k:Nat)(h:L[k]?=some (p,o):=by rfl):∃ Hn,Ow T Hn H (L.eraseIdx k)/\aJ T H0 Hn/\Hn p=some o:=(O.pull k h).frz
theorem Ow.del (O:Ow T H0 H L)(k:Nat):Ow T H0 H (L.eraseIdx k):=O.sub (List.eraseIdx_sublist L k)
end
theorem bY.aaY {K:PySem.W.Frag}{H:Hp}{xs:List V}{ws:List (List Int)}{i:Nat}{x:V}(h:bY K H xs (ws.map sI))(hx:xs[i]?=some x):∃ a w,x=.ref a/\ws[i]?=some w/\SqL K H a (w.map V.int):=by
 obtain ⟨d,h1,h2⟩:=h.get' hx;rw [agg] at h1;cases e:ws[i]? with
 | none=>rw [e] at h1;cases h1
 | some w =>
  rw [e] at h1;cases h1;obtain ⟨a,rfl,hL⟩:=h2.vJ;exact ⟨a,w,rfl,rfl,hL⟩
theorem bY.Pq {K:PySem.W.Frag}{H:Hp}{xs:List V}{ws:List (List Int)}{i:Nat}{w:List Int}(h:bY K H xs (ws.map sI))(hw:ws[i]?=some w):∃ a,xs[i]?=some (.ref a)/\SqL K H a (w.map V.int):=by
 obtain ⟨v,h1,h2⟩:=h.get (i:=i) (d:=sI w) (by rw [agg,hw];rfl);obtain ⟨a,rfl,hL⟩:=h2.vJ;exact ⟨a,h1,hL⟩
theorem yP {X:Cx}{K:PySem.W.Frag}(h:X.K=K):vQ X (.type "list") (adE K):=h ▸ bh
end L2
namespace L2
open PySem PySem.W PySem.Spec PyProof.Rows
theorem Rq (a v:Value):argsOk "min" ⟨[a],[(Str.ofString "default",v)]⟩:=by unfold argsOk;kernel_rfl
section
variable {prog:Program}{w:World}{A:Around}{R:Result->Shared->Prop}{I:Addr}{fp wr:List Addr}{n:Nat}{P:Nat->Value->Prop}{St:Nat->Heap->Prop}
theorem Rp (W:Walks prog w A.in1 I fp wr n P St)(bt:Nat->Nat->Bool)(hcmp:CmpOf prog w A.in1 .Lt P bt)(S:Addr)(hSf:S ∉ fp)(d:Value):
  ∀ (k j:Nat)(s:Shared)(bs:Array Value)(c:Nat),n - j=k->j<=n->St j s.heap->((j=0/\bs=#[])\/∃ i vb,j=i+1/\bs=#[vb,vb]/\P (argBest bt i) vb) ->
  s.heap.get? S=some { cls:=.type "list",dict:=none,data:=.seq bs c,slots:=#[] } ->
  (n=0->∀ h' tk,(∀ b o,b ∉ wr->b≠S->s.heap.get? b=some o->h'.get? b=some o)->R (.ok (.ret d)) { s with heap:=h',toks:=tk }) ->
  (∀ v h' tk,0<n->P (argBest bt (n - 1)) v->(∀ b o,b ∉ wr->b≠S->s.heap.get? b=some o->h'.get? b=some o)->R (.ok (.ret v)) { s with heap:=h',toks:=tk }) ->
  codeAny (model prog w) A (.builtin "min.loop" ⟨[.ref I,.none,.ref S],[(Str.ofString "default",d)]⟩) R s:=by
 have nSw:S ∉ wr:=fun h=>hSf (W.sub _ h);have nm:(toString "min"++toString ".loop":String)="min.loop":=by decide
 intro k
 induction k with
 | zero =>
  intro j s bs c hk hj hst hb hS hR0 hR1;have ej:j=n:=Nat.le_antisymm hj (Nat.le_of_sub_eq_zero hk);subst ej;refine codeAny_builtin F.entry_min_loop ?_;rw [ahN ahE _];show wpAny _ A.in1 (seqItems? (.ref S)>>=_) _ _ s;refine wpAny_bind (wpAny_seqItems hS rfl ?_);rcases hb with ⟨e0,rfl⟩ | ⟨i,vb,ei,rfl,hP⟩
  ·show wpAny _ A.in1 (tryCatch (pyNext (.ref I)) _ >>=_) _ _ s;refine wpAny_bind (wpAny_tryCatch (W.done s _ _ hst fun h' tk hk'=>?_));refine wpAny_bind (wpAny_rule ?_);exact wpAny_pure (hR0 e0 h' tk fun b o hbw _ e=>hk' b o hbw e)
  ·show wpAny _ A.in1 (tryCatch (pyNext (.ref I)) _ >>=_) _ _ s;refine wpAny_bind (wpAny_tryCatch (W.done s _ _ hst fun h' tk hk'=>?_));have hS':=hk' S _ nSw hS;show wpAny _ A.in1 (updateSeq S (fun _=>#[])>>=_) _ _ _;refine wpAny_bind (wpAny_updateSeq hS' rfl (wpAny_bind (wpAny_letGo (wpAny_pure ?_))));exact hR1 vb _ tk (by omega) (by rw [ei];exact hP) fun b o hbw hbS e=>(agQ _ _ (Ne.symm hbS)).trans (hk' b o hbw e)
 | succ k ih =>
  intro j s bs c hk hj hst hb hS hR0 hR1;have hlt:j<n:=Nat.sub_pos_iff_lt.mp (by rw [hk];exact Nat.succ_pos k);refine codeAny_builtin F.entry_min_loop ?_;rw [ahN ahE _];show wpAny _ A.in1 (seqItems? (.ref S)>>=_) _ _ s;refine wpAny_bind (wpAny_seqItems hS rfl ?_);rcases hb with ⟨e0,rfl⟩ | ⟨i,vb,ei,rfl,hPb⟩
  ·show wpAny _ A.in1 (tryCatch (pyNext (.ref I)) _ >>=_) _ _ s;refine wpAny_bind (wpAny_tryCatch (W.item j s _ _ hlt hst fun v h' tk hP hst' hk'=>?_));have hS':=hk' S _ nSw hS;show wpAny _ A.in1 (updateSeq S (fun _=>#[v,v])>>=_) _ _ _;refine wpAny_bind (wpAny_updateSeq hS' rfl ?_);rw [nm];subst e0;refine wpAny_pure ⟨plainId_quiet ahE _,ih 1 _ _ _ (by omega) (by omega) (W.frame _ _ _ hst' fun b hbf o e=>(agQ _ _ (fun h:S=b=>hSf (by rw [h];exact hbf))).trans e) (.inr ⟨0,v,rfl,rfl,hP⟩) (ahi _ hS' rfl) (fun z=>by omega) fun v' h'' tk'' hn' hP' hk''=>?_⟩;exact hR1 v' h'' tk'' hn' hP' fun b o hbw hbS e=>hk'' b o hbw hbS ((agQ _ _ (Ne.symm hbS)).trans (hk' b o hbw e))
  ·subst ei;show wpAny _ A.in1 (tryCatch (pyNext (.ref I)) _ >>=_) _ _ s;refine wpAny_bind (wpAny_tryCatch (W.item (i+1) s _ _ hlt hst fun v h' tk hP hst' hk'=>?_));have hS':=hk' S _ nSw hS;show wpAny _ A.in1 (tryCatch (holding [v,v] (richCompare .Lt v vb >>=_)) _ >>=_) _ _ _;refine wpAny_bind (wpAny_tryCatch (wpAny_holding (wpAny_bind (hcmp (i+1) (argBest bt i) v vb _ _ _ hP hPb (wpAny_bind (wpAny_holding (wpAny_truthy_bool (wpAny_bind (wpAny_letGo (wpAny_pure ?_))))))))));cases hb:bt (i+1) (argBest bt i) with
   | true =>
    simp only [if_true];refine wpAny_bind (wpAny_updateSeq hS' rfl (wpAny_bind (wpAny_letGo ?_)));rw [nm];refine wpAny_pure ⟨plainId_quiet ahE _,ih (i+1+1) _ _ _ (by omega) (by omega) (W.frame _ _ _ hst' fun b hbf o e=>(agQ _ _ (fun h:S=b=>hSf (by rw [h];exact hbf))).trans e) (.inr ⟨i+1,v,rfl,rfl,by simp only [argBest,hb,if_true];exact hP⟩) (ahi _ hS' rfl) (fun z=>by omega) fun v' h'' tk'' hn' hP' hk''=>?_⟩;exact hR1 v' h'' tk'' hn' hP' fun b o hbw hbS e=>hk'' b o hbw hbS ((agQ _ _ (Ne.symm hbS)).trans (hk' b o hbw e))
   | false =>
    simp only [ahq,if_false];refine wpAny_bind (wpAny_letGo ?_);rw [nm];refine wpAny_pure ⟨plainId_quiet ahE _,ih (i+1+1) _ _ c (by omega) (by omega) hst' (.inr ⟨i+1,vb,rfl,rfl,by simp only [argBest,hb,ahq,if_false];exact hPb⟩) hS' (fun z=>by omega) fun v' h'' tk'' hn' hP' hk''=>?_⟩;exact hR1 v' h'' tk'' hn' hP' fun b o hbw hbS e=>hk'' b o hbw hbS (hk' b o hbw e)
end
section
variable {X:Cx}
def aeI (K:PySem.W.Frag)(d:Int)(te:TE):TE:=fun σ H Q=>te σ H fun x H1=>∃ (p:Addr)(ns:List Int),x=.ref p/\SqL K H1 p (ns.map V.int)/\(ns=[]->Q (.int d) H1)/\∀ M∈ns,(∀ a∈ns,M<=a)->Q (.int M) H1
theorem abq {e:Expr}{te:TE}{d:Int}{j:Nat}{p1 cp kp pos:Pos}(hcalm:X.calm=true)(hg:Gl X "min")(hm:X.mg "min"=none)(he:PE X e te)(h1:backTo pos (starEach [e] X.env)=(false,eval e X.env)::backTo pos (starEach [] X.env):=by rfl)(h2:(backTo pos (starEach [e] X.env)).any (·.1)=false:=by rfl):
  PE X (.Call (.Name "min" p1) [e] [⟨some "default",.Constant (.int d) j cp,kp⟩] pos) (aeI X.K d te):=by
 intro pins s σ H Q I h;refine wpAny_Call_Name_kw (nj I hg hm boot_min ?_);refine callWith_kw ?_ h1 h2;rw [h1];refine ahp (thn (he pins s σ H _ I h) fun u s1 ⟨x,H1,I1,rx,q1⟩=>?_);obtain ⟨p,ns,rfl,hq,q0,qm⟩:=q1;cases rx;refine ahD ?_;refine kws_cons (wpAny_Constant_int ?_);refine kws_nil ?_;show wpAny _ _ (call (.builtin "min") [.ref p] [(Str.ofString "default",.int d _)]) _ _ _;obtain ⟨its,r1,p1,hz⟩:=I1.list hq;have hi:IntsAre its ns:=intsAre_of r1;obtain ⟨ys,hx⟩:=hi.allInts.items;have hl':s1.heap.IsList p (intItems ys):=hx ▸ p1.isList;have hns:ns=ys.toList.map (·.1):=by
  rw [<- nums_intItems,<- hx];exact (show numsOf its.toArray.toList=ns from hi.numsOf).symm
 have nm:(toString "min"++toString ".loop":String)="min.loop":=by decide
 have hys:(intItems ys).size=ns.length:=by rw [hns];simp [intItems]
 refine kmb_tree F.kind_min F.plain_min F.entry_min (Rq _ _) ?_;show wpAny _ _ (Builtin.Builtins.bindParams "min" ["key","default"] 0 ⟨[],[(Str.ofString "default",.int d s1.toks)]⟩>>=_) _ _ _;refine wpAny_bind (wpAny_of_eq (show Builtin.Builtins.bindParams "min" ["key","default"] 0 ⟨[],[(Str.ofString "default",.int d s1.toks)]⟩=pure [none,some (.int d s1.toks)] from rfl) ?_);refine wpAny_bind (wpAny_pure ?_);refine wpAny_bind (iter_intList (s:={ s1 with toks:=s1.toks+1 }) hl' fun s₂ e st hfp hlI=>?_);subst e;refine wpAny_bind (wpAny_newObj_type ?_);rw [nm];have kept:∀ {h':Heap}{g:Heap}{S:Addr},(∀ b o,s1.heap.get? b=some o->g.get? b=some o)->S=s1.heap.objs.size+1->(∀ b o,b ∉ [s1.heap.objs.size]->b≠S->g.get? b=some o->h'.get? b=some o)->∀ b o,s1.heap.get? b=some o->h'.get? b=some o:=fun hg hS hk b o e=>by
  have lt:=agr e;refine hk b o (fun z=>?_) (fun z=>?_) (hg b o e)
  ·rw [agE.mp z] at lt;exact ahb _ lt
  ·rw [z,hS] at lt;exact absurd lt (by simp only [Addr] at lt ⊢;omega)
 have hg2:∀ b o,s1.heap.get? b=some o->((s1.heap.push { cls:=.type "list_iterator",data:=.fields #[.ref p,.int 0 0] }).push { cls:=.type "list",data:=.seq #[] }).get? b=some o:=fun b o e=>agc _ (agc _ e);have hsz:(s1.heap.push { cls:=.type "list_iterator",data:=.fields #[.ref p,.int 0 0] }).objs.size=s1.heap.objs.size+1:=ahg ..;refine wpAny_pure ⟨plainId_quiet ahE _,Rp (Walks.list (A:=X.A.in1) (I.ok.hd hcalm) _ p hlI (intItems ys)) _ (CmpOf.ints_lt (numAt ys) (fun _ _=>intItems_at)) _ (fun hm=>ahb _ (hfp _ hm)) (.int d s1.toks) _ 0 _ #[] _ rfl (agN _)
  ⟨Heap.IsListIter.at st.1 fun o e=>agc _ e,st.2.push _⟩ (.inl ⟨rfl,rfl⟩) (agl _ rfl) (fun h0 h' tk hk=>?_) fun v h' tk hn hP hk=>?_⟩
 ·have e0:ns=[]:=List.length_eq_zero_iff.mp (by rw [<- hys];exact h0);exact ⟨.int d,H1,I1.kept (t':=tk) (kept hg2 hsz hk),⟨_,rfl⟩,q0 e0⟩
 ·obtain ⟨t,rfl⟩:=intItems_at hP;obtain ⟨h1,h2⟩:=argBest_lt (numAt ys) ((intItems ys).size - 1);have hyz:(intItems ys).size=ys.size:=by simp [intItems]
  refine ⟨.int _,H1,I1.kept (t':=tk) (kept hg2 hsz hk),⟨t,rfl⟩,qm _ ?_ fun a ha=>?_⟩
  ·rw [hns,numAt_eq];exact getD_mem (by rw [aeu,agY];omega)
  ·rw [hns] at ha;obtain ⟨j,hj,rfl⟩:=mem_getD ha;rw [aeu,agY] at hj;rw [<- numAt_eq];exact h2 j (by omega)
end
end L2
namespace L2
open PySem PySem.Spec PyProof.Rows
section
variable {κ:Type} [DecidableEq κ]
def JK (kvs:List (κ × V))(k:κ):Option V:=(kvs.find? fun kv=>decide (kv.1=k)).map (·.2)
def putK (kvs:List (κ × V))(k:κ)(v:V):List (κ × V):=
 if (kvs.any fun kv=>decide (kv.1=k))=true then kvs.map (fun kv=>if kv.1=k then (kv.1,v) else kv) else kvs++[(k,v)]
theorem KN {p:κ × V}{r:List (κ × V)}{k:κ}(e:p.1=k):JK (p::r) k=some p.2:=by simp [JK,List.find?_cons,e]
theorem KQ {p:κ × V}{r:List (κ × V)}{k:κ}(e:¬ p.1=k):JK (p::r) k=JK r k:=by simp [JK,List.find?_cons,e]
theorem KR (k:κ):∀ kvs:List (κ × V),(kvs.any fun kv=>decide (kv.1=k))=(JK kvs k).isSome
 | []=>rfl
 | p::r=>by
  rw [ahW];by_cases e:p.1=k
  ·simp only [KN e,decide_eq_true e,Bool.true_or,Option.isSome_some]
  ·rw [KQ e,decide_eq_false e,Bool.false_or];exact KR k r
theorem Kg (kvs:List (κ × V))(k:κ)(v:V):(putK kvs k v).length<=kvs.length+1:=by
 unfold putK;split
 ·rw [aeu];omega
 ·rw [agh,agx,agU];omega
theorem Uo {kvs:List (κ × V)}{k:κ}(v:V)(h:JK kvs k=none):putK kvs k v=kvs++[(k,v)]:=by
 unfold putK;rw [KR,h];exact if_neg (by decide)
theorem KV.val {kvs:List (κ × V)}{vs:List (κ × Value)}(r:KV kvs vs)(k:κ):Tt (JK kvs k) (valueAt vs k):=by
 unfold KV at r
 induction r with
 | nil=>exact True.intro
 | @cons p q ps qs h t ih =>
  obtain ⟨h1,h2⟩:=h;by_cases e:p.1=k
  ·have e':q.1=k:=h1.symm.trans e;have b:valueAt (q::qs) k=some q.2:=by simp [valueAt,List.find?_cons,e']
   rw [KN e,b];exact h2
  ·have e':¬ q.1=k:=fun z=>e (h1.trans z);have b:valueAt (q::qs) k=valueAt qs k:=by simp [valueAt,List.find?_cons,e']
   rw [KQ e,b];exact ih
theorem KV.any {kvs:List (κ × V)}{vs:List (κ × Value)}(r:KV kvs vs)(k:κ):(kvs.any fun kv=>decide (kv.1=k))=vs.any fun kv=>decide (kv.1=k):=by
 unfold KV at r
 induction r with
 | nil=>rfl
 | cons h t ih=>rw [ahW,ahW,ih,h.1]
theorem KV.repl {kvs:List (κ × V)}{vs:List (κ × Value)}(r:KV kvs vs)(k:κ){y:V}{u:Value}(ry:RelV y u):
  KV (kvs.map fun kv=>if kv.1=k then (kv.1,y) else kv) (vs.map fun kv=>if kv.1=k then (kv.1,u) else kv):=by
 unfold KV at r ⊢
 induction r with
 | nil=>exact .nil
 | @cons p q ps qs h t ih =>
  rw [agH,agH];refine .cons ?_ ih;obtain ⟨h1,h2⟩:=h;by_cases e:p.1=k
  ·rw [if_pos e,if_pos (h1.symm.trans e)];exact ⟨h1,ry⟩
  ·rw [if_neg e,if_neg (fun z=>e (h1.trans z))];exact ⟨h1,h2⟩
theorem KV.put {kvs:List (κ × V)}{vs:List (κ × Value)}(r:KV kvs vs)(k:κ){y:V}{u:Value}(ry:RelV y u):KV (putK kvs k y) (stored vs k u):=by
 unfold putK stored;rw [r.any k];by_cases e:(vs.any fun kv=>decide (kv.1=k))=true
 ·rw [if_pos e,if_pos e];exact r.repl k ry
 ·rw [if_neg e,if_neg e];exact Paired.snoc r ⟨rfl,ry⟩
theorem KV.length {kvs:List (κ × V)}{vs:List (κ × Value)}(r:KV kvs vs):kvs.length=vs.length:=Paired.length r
end
theorem adD {P:Program}{w:World}{k:Key}{u:Value}(r:RelV (kV k) u):(jk P w).is k u=true:=by
 cases k with
 | inl i=>obtain ⟨t,e⟩:=(show ∃ t,u=Value.int i t from r);subst e;exact Kd P w i t
 | inr x=>obtain ⟨t,e⟩:=(show ∃ t,u=Value.str x t from r);subst e;exact Kc P w x t
theorem Jg {P:Program}{w:World}:∀ {ks:List Key}{us:List Value},Vals (ks.map kV) us->ItemsAre (jk P w) ks us
 | [],_,r=>by rw [ahT] at r;cases r;exact .nil
 | k::ks,_,r=>by
  rw [agH] at r;cases r with
  | cons h t=>exact .cons (adD h) (Jg t)
abbrev KT (H:Hp):List (List Key × V)->List (List Key × Addr × Value)->Prop:=Paired fun p q=>p.1=q.1/\H q.2.1=some (.tup (p.1.map kV))/\RelV p.2 q.2.2
section
variable {P:Program}{w:World}{H:Hp}{h:Heap}{a:Addr}
theorem acQ {u:HO}(ok:HOk P w H h)(e:Rd H a u):gR P w H h a u:=e.ok ok
theorem abY {kvs:List (Key × V)}(ok:HOk P w H h)(e:Rd H a (.dK kvs)):kvs.length<=sizeLine/\(a ==sysModules)=false/\∃ vs,KV kvs vs/\h.DictOf (jk P w) a vs:=
 show gR P w H h a (.dK kvs) from acQ ok e
theorem afA {kvs:List (Key × V)}(ok:HOk P w H h)(e:H a=some (.dK kvs)):kvs.length<=sizeLine/\(a ==sysModules)=false/\∃ vs,KV kvs vs/\h.DictOf (jk P w) a vs:=abY ok (.inl e)
theorem adA {ks:List Key}(ok:HOk P w H h)(e:H a=some (.tup (ks.map kV))):(tupleKind (jk P w)).is h ks a:=by
 obtain ⟨_,its,r,o,h1,h2,n,h3⟩:=(show gR P w H h a (.tup (ks.map kV)) from ok a _ e);exact ⟨o,its.toArray,n,h1,h2,h3,by simpa using Jg r⟩
theorem afy {kvs:List (List Key × V)}(ok:HOk P w H h)(e:Rd H a (.dT kvs)):kvs.length<=sizeLine/\(a ==sysModules)=false /\
  ∃ xs,KT H kvs xs/\h.DictOfH (tupleKind (jk P w)) a xs:=by
 obtain ⟨z,y,xs,r,o,es,ep,h1,h2,h3,h4,h5⟩:=(show gR P w H h a (.dT kvs) from acQ ok e);refine ⟨z,y,xs,r,o,es,ep,h1,h2,h3,h4,fun x hx=>?_,h5⟩;have all:∀ {l:List (List Key × V)}{m:List (List Key × Addr × Value)},KT H l m->∀ x∈m,(tupleKind (jk P w)).is h x.1 x.2.1:=by
  intro l m q
  induction q with
  | nil=>intro x hx;exact nomatch hx
  | @cons p q ps qs hq t ih =>
   intro x hx;rcases agu.mp hx with e| hx
   ·subst e;exact adA ok (by rw [<- hq.1];exact hq.2.1)
   ·exact ih x hx
 exact all r x hx
end
section
variable {X:Cx}{pins:List (Addr × Obj)}{σ:St}{H:Hp}{s:Shared}{a:Addr}{y v:V}{u r:Value}{o:Option V}{A:Around}{E:Value->Shared->Prop}
theorem Inv.big (I:Inv X pins σ H s):sysModules<s.heap.objs.size:=by
 have h:mainGlobals<s.heap.objs.size:=(I.mod.glob.keeps I.bk).lt;exact Nat.lt_trans (by decide) h
theorem ab0 {h':Heap}{t':Nat}{ob:HO}(I:Inv X pins σ H s)(mu:Mut (H a))(hs:Heap.SameBut a s.heap h')(he:∃ q,h'.get? a=some q)(new:gR X.prog X.w (upd H a ob) h' a ob):
  Inv X pins σ (upd H a ob) { s with heap:=h',toks:=t' }:=
 I.write (x:=a) (e:=a) mu (.inl rfl) (fun b q hb z=>(hs.2 b hb).trans z) he new
theorem ad8 {P:Program}{w:World}{H':Hp}{h':Heap}{kvs:List (Key × V)}{vs:List (Key × Value)}(z:kvs.length<=sizeLine)(hd:(a ==sysModules)=false)(rel:KV kvs vs)(dd:h'.DictOf (jk P w) a vs):
  gR P w H' h' a (.dK kvs):=⟨z,hd,vs,rel,dd⟩
end
theorem Vu {P:Program}{w:World}{H:Hp}(h:Heap)(hb:sysModules<h.objs.size):gR P w H (h.push { cls:=.type "dict",data:=.dict #[] }) h.objs.size (.dK []):=
 ⟨agN _,beq_eq_false_iff_ne.mpr (Ne.symm (agM hb)),[],.nil,Heap.DictOf.new h⟩
def acD:TE:=fun _ H Q=>∀ p,H p=none->Q (.ref p) (upd H p (.dK []))
section
variable {X:Cx}{pos:Pos}
theorem Ut:PE X (.Dict [] [] pos) acD:=fun pins s σ H Q I h =>
 wpAny_Dict_empty ⟨.ref s.heap.objs.size,_,I.laid (a:=s.heap.objs.size) (o:=.dK []) (t':=s.toks) (fun _ _ q=>agc _ q) (agb _) (Vu s.heap I.big),rfl,h _ (I.hok.fresh (agb _))⟩
end
structure M2 (X:Cx)(o:Expr)(m:Str)(apos:Pos)(e f:Expr)(cpos:Pos):Prop where
 base:attributeBase o m X.env (eval o X.env)=eval o X.env
 few:((backTo cpos (starEach [e,f] X.env)).all (fun x=>!x.1) && (backToKw cpos (keywordEach [] X.env)).all (fun x=>x.1.isSome)
  && decide (([e,f]:List Expr).length+([]:List Keyword).length+(if ([]:List Keyword).isEmpty then 0 else 1)<30))=true
 line:(apos.endLine ==cpos.line)=true
 trees:backTo cpos (starEach [e,f] X.env)=[(false,eval e X.env),(false,eval f X.env)]
def IsD (H:Hp)(a:Addr):Prop:=(∃ kvs,Rd H a (.dK kvs))\/∃ kvs,Rd H a (.dT kvs)
theorem Wq {X:Cx}{pins:List (Addr × Obj)}{σ:St}{H:Hp}{s:Shared}{a:Addr}(I:Inv X pins σ H s)(d:IsD H a):
  s.TypeIs (.ref a) "dict"/\(∀ b,Value.ref a=.ref b->∃ ob,s.heap.get? b=some ob/\ob.dict=none)/\(a ==sysModules)=false:=by
 rcases d with ⟨kvs,e⟩ | ⟨kvs,e⟩
 ·obtain ⟨_,hd,vs,_,dd⟩:=abY I.hok e;refine ⟨dd.typeIs,fun b q=>?_,hd⟩;cases q;obtain ⟨ob,_,_,h1,h2,_⟩:=dd;exact ⟨ob,h1,h2.2.1⟩
 ·obtain ⟨_,hd,xs,_,dd⟩:=afy I.hok e;refine ⟨dd.typeIs,fun b q=>?_,hd⟩;cases q;obtain ⟨ob,_,_,h1,h2,_⟩:=dd;exact ⟨ob,h1,h2.2.1⟩
end L2
namespace L2
open PySem PySem.W PySem.Spec PyProof.Rows
def aeL (td ty tx:TE):TE:=fun σ H Q=>td σ H fun x H1=>∃ a,x=.ref a/\IsD H1 a/\ty σ H1 fun y H2=>tx σ H2 fun z H3=>∃ kvs k,H3 a=some (.dK kvs)/\y=kV k/\kvs.length<sizeLine /\
 (∀ v,JK kvs k=some v->Q v H3)/\(JK kvs k=none->Q z (upd H3 a (.dK (putK kvs k z))))
section
variable {X:Cx}{o e f:Expr}{apos cpos:Pos}{td ty tx:TE}
theorem abr (ho:PE X o td)(he:PE X e ty)(hf:PE X f tx)(m:M2 X o "setdefault" apos e f cpos):PE X (.Call (.Attribute o "setdefault" apos) [e,f] [] cpos) (aeL td ty tx):=by
 intro pins s σ H Q I h;refine wpAny_Call_method m.base m.few m.line PySem.F.plainAttrs_dict PySem.F.slot_dict_setdefault PySem.F.type_dict_setdefault (thn (ho pins s σ H _ I h) fun u s1 ⟨x,H1,I1,rx,a,ex,d,q1⟩=>?_);subst ex;obtain rfl:u=Value.ref a:=rx;obtain ⟨t1,t2,_⟩:=Wq I1 d;refine ⟨t1,t2,?_⟩;rw [m.trees];refine Calls.callWith_builtin rfl (Calls.evalArgs_plain (ahp (thn (he pins s1 σ H1 _ I1 q1) fun iv s2 ⟨y,H2,I2,ry,q2⟩=>
  ahp (thn (hf pins s2 σ H2 _ I2 q2) fun fv s3 ⟨z,H3,I3,rz,kvs,k,ea,ey,hl,q3,q4⟩=>ahD ?_))))
 subst ey;obtain ⟨z1,hd,vs,rel,dd⟩:=afA I3.hok ea;have rv:=rel.val k;have hlen:=rel.length;refine call_meetsIn PySem.F.slot_dict_setdefault dd.typeIs PySem.F.entry_dict_setdefault (PySem.F.args_dict_setdefault_3 _ _ _) (kt_meets_setdefault (jk X.prog X.w) a (adD ry) hd fv) ⟨vs,dd,by omega,fun v hv=>?_,fun hn h' dd' hs=>?_⟩
 ·rw [hv] at rv;cases l:JK kvs k with
  | none=>rw [l] at rv;cases rv
  | some v'=>rw [l] at rv;exact ⟨v',H3,I3.tok _,rv,q3 v' l⟩
 ·rw [hn] at rv;cases l:JK kvs k with
  | some v'=>rw [l] at rv;cases rv
  | none=>exact ⟨z,_,ab0 I3 (by rw [ea];trivial) hs (by obtain ⟨ob,es,ep,he',_⟩:=dd';exact ⟨ob,he'⟩) (ad8 (agS (Kg _ _ _) hl) hd (rel.put k rz) dd'),rz,q4 l⟩
end
def Qc (td:TE):TE:=fun σ H Q=>td σ H fun x H1=>∃ a kvs,x=.ref a/\Rd H1 a (.dK kvs)/\∀ l,H1 l=none->Q (.ref l) (upd H1 l (.lst (kvs.map (·.2))))
theorem KV.vals {kvs:List (Key × V)}{vs:List (Key × Value)}(r:KV kvs vs):Vals (kvs.map (·.2)) (vs.map (·.2)):=by
 induction r with
 | nil=>exact .nil
 | cons h _ ih=>exact .cons h.2 ih
section
variable {X:Cx}{o:Expr}{td:TE}{p1 apos cpos pos:Pos}
theorem J6 (hcalm:X.calm=true)(hgs:Gl X "list")(hms:X.mg "list"=none)(ho:PE X o td)(hb:attributeBase o "values" X.env (eval o X.env)=eval o X.env:=by rfl)(hline:(apos.endLine ==cpos.line)=true:=by rfl):
  PE X (.Call (.Name "list" p1) [.Call (.Attribute o "values" apos) [] [] cpos] [] pos) (Qc td):=by
 intro pins s σ H Q I h;refine Call_ (nj I hgs hms boot_list (agJ ?_ rfl rfl));show wpAny _ _ (spliced ((false,eval (.Call (.Attribute o "values" apos) [] [] cpos) X.env)::[])) _ _ s;refine ahp (wpAny_Call_method hb rfl hline PySem.F.plainAttrs_dict PySem.F.slot_dict_values PySem.F.type_dict_values (thn (ho pins s σ H _ I h) fun u s1 ⟨x,H1,I1,rx,a,kvs,ex,d,q1⟩=>?_));subst ex;obtain rfl:u=Value.ref a:=rx;obtain ⟨t1,t2,_⟩:=Wq I1 (.inl ⟨kvs,d⟩);refine ⟨t1,t2,?_⟩;obtain ⟨hz,hd,vs,rel,dd⟩:=abY I1.hok d;refine Calls.callWith_builtin rfl (PyProof.Rows.evalArgs_none ?_);refine call_meetsIn PySem.F.slot_dict_values dd.typeIs PySem.F.entry_dict_values (PySem.F.args_dict_values_1 _) (meets_dict_values (jk X.prog X.w) a hd) ⟨⟨vs,dd⟩,?_⟩;refine ahD ?_;obtain ⟨ep,da⟩:=dd.dictAt;have hlen:=rel.length;have hsz:(s1.heap.push { cls:=.type "dict_values",data:=.fields #[.ref a] }).objs.size=s1.heap.objs.size+1:=ahg ..;refine kdl_call (kdl_values (knd:=jk X.prog X.w) (r:=s1.heap.objs.size) (d:=a) (kvs:=vs) (ep:=ep)) (I.ok.hd hcalm) ⟨⟨_,agl _ rfl,rfl,rfl⟩,da.push _⟩ (by omega) fun h' tk acc c hk hS hacc=>?_;have e:acc.toList=vs.map (·.2):=kdl_vals_eq acc.toList (by rw [agY];exact hacc.1) fun j v ej=>hacc.2 j v (by rw [<- Array.getElem?_toList];exact ej);refine ⟨.ref (s1.heap.push { cls:=.type "dict_values",data:=.fields #[.ref a] }).objs.size,_,I1.laid (t':=tk) (fun b o e=>hk b o (agc _ e)) (by rw [hsz];exact Nat.le_succ _)
  (show gR X.prog X.w _ h' _ (.lst (kvs.map (·.2))) from ⟨by rw [aeu];exact hz,acc.toList,c,by rw [e];exact rel.vals,by simpa using hS⟩),rfl,q1 _ (I1.hok.fresh (by rw [hsz];exact Nat.le_succ _))⟩
end
section
variable {X:Cx}
theorem bY.Mw {K:PySem.W.Frag}{H:Hp}{xs:List V}{ps:List (Int × Int × Int)}{i:Nat}{x:V}(h:bY K H xs (ps.map dMv))(hx:xs[i]?=some x):∃ a p,x=.ref a/\ps[i]?=some p/\SqT K H a [.int p.1,.int p.2.1,.int p.2.2]:=by
 obtain ⟨d,hd,hv⟩:=h.get' hx;rw [agg] at hd;cases hp:ps[i]? with
 | none=>rw [hp] at hd;cases hd
 | some z =>
  rw [hp] at hd;have e:dMv z=d:=agz hd;subst e;obtain ⟨a,rfl,hT⟩:=hv.Wn;exact ⟨a,z,rfl,rfl,hT⟩
theorem getD_some {α:Type}{xs:List α}{i:Nat}{x d:α}(h:xs[i]?=some x):xs.getD i d=x:=by rw [agj,h];rfl
theorem Vx {K:PySem.W.Frag}{a:Addr}{xs:List V}{acc:Addr}{g:TG}{tc:TT}{te:TE}{τ:St}{H1:Hp}{Q:Hp->Prop}(Pv:Nat->St->Hp->Prop)(h0:Pv 0 τ (upd H1 acc (.lst [])))(hl:∀ i τ H,i<=xs.length->Pv i τ H->SqT K H a xs)
  (hs:∀ i x τ H,xs[i]?=some x->Pv i τ H->g x τ H fun τ4 H4=>tc τ4 H4 fun b H5=>if b=true then te τ4 H5 fun y H6=>∃ ys,H6 acc=some (.lst ys)/\ys.length<sizeLine/\Pv (i+1) τ4 (upd H6 acc (.lst (ys++[y]))) else Pv (i+1) τ4 H5)
  (hd:∀ τ H,Pv xs.length τ H->Q H):zZ (Itt K a) acc g tc te τ H1 Q:=by
 refine ⟨fun i m τ H=>m=xs.length - i/\i<=xs.length/\Pv i τ H,⟨xs.length,by simp,agN _,h0⟩,?_⟩
 rintro i m τ H ⟨rfl,hi,p⟩
 have q:=hl i τ H hi p
 by_cases hlt:i<xs.length
 ·refine .inr ⟨⟨xs,xs[i],q,by simp [hlt]⟩,Pv (i+1),fun τ' H' p'=>⟨xs.length - (i+1),by omega,rfl,hlt,p'⟩,fun x H' y=>?_⟩
  obtain ⟨e,y⟩:=y
  subst e
  exact hs i x τ _ (y xs q) p
 ·have e:i=xs.length:=by omega
  subst e
  exact .inl ⟨⟨xs,q,agb _⟩,hd τ H p⟩
end
end L2
namespace HT
open PySem PyProof.Rows
end HT
namespace L2
open PySem PySem.W PySem.Spec PyProof.Rows
end L2
namespace L2
open PySem
end L2
namespace L2
open PySem PyProof.Rows
section
variable {prog:Program}{w:World}{A:Around}{E:Value->Shared->Prop}{R:Result->Shared->Prop}{s:Shared}
end
end L2
namespace L2
open PySem PySem.Spec PyProof.Rows
section
variable {X:Cx}
theorem Oe (bs:List Bool):((List.range bs.length).any fun i=>(bs[i]?).getD false)=bs.any id:=by
 rw [ag6,List.any_eq_true,List.any_eq_true];constructor
 ·rintro ⟨i,hi,h⟩;rw [agK] at hi;rw [af9 hi] at h;exact ⟨_,ahd hi,h⟩
 ·rintro ⟨b,hb,h⟩;obtain ⟨i,hi,rfl⟩:=aha hb;exact ⟨i,agK.mpr hi,by rw [af9 hi];exact h⟩
theorem VD (hc:X.calm=true):vQ X (.builtin "any") (fun xs H Q=>∃ (p:Addr)(bs:List Bool),xs=[.ref p]/\SqL X.K H p (bs.map V.bl)/\Q (.bl (bs.any id)) H):=by
 intro pins s σ H xs us Q I r h;obtain ⟨p,bs,rfl,hq,q⟩:=h;obtain ⟨u,rfl,ru⟩:=vals1 r;cases ru;obtain ⟨its,r1,p1,hz⟩:=I.list hq;have hl:=p1.isList;have hlt:p<s.heap.objs.size:=p1.lt;have hlen:=r1.length;rw [aeu] at hlen;refine call_any_walk (wpAny_pyIter_list hl ?_);refine ⟨s.heap.objs.size,[s.heap.objs.size,p],[s.heap.objs.size],its.toArray.size,_,_,fun i=>(bs[i]?).getD false,rfl,Walks.list (A:=X.A.in1) (I.ok.hd hc) _ p (agM hlt) its.toArray,
  ⟨⟨_,agl _ rfl,rfl,rfl⟩,hl.push _⟩,fun i v s' Q' E' hP hQ=>?_,fun h' tk hk=>?_⟩
 ·have hP':its[i]?=some v:=by simpa using hP
  have hi:i<bs.length:=by
   have:=(af4.mp hP').1;omega
  obtain ⟨u,eu,ru⟩:=r1.get (x:=.bl bs[i]) (by rw [agg,af9 hi];rfl);rw [hP'] at eu;cases eu;cases ru;dsimp only at hQ;rw [af9 hi] at hQ;exact wpAny_truthy_bool hQ
 ·have e:((List.range its.toArray.size).any fun i=>(bs[i]?).getD false)=bs.any id:=by
   rw [ags,<- hlen];exact Oe bs
  rw [e];refine ⟨.bl _,H,I.kept fun b o eo=>hk b o (fun hm=>?_) (agc _ eo),rfl,q⟩;rw [agE.mp hm] at eo;exact ahb _ (agr eo)
end
def Its (x:Str):It:=⟨fun i _=>i<x.cps.size,fun i H y H'=>H'=H/\∃ c,x.cps[i]?=some c/\y=.str ⟨#[c]⟩,fun i _=>x.cps.size<=i⟩
theorem Uc {P:Program}{w:World}{K:PySem.W.Frag}{tg:Expr}(it:Addr)(x:Str)(t:Tok):Turn P w K tg (Its x) [it] it (fun i h=>h.IsStrIter it "str_ascii_iterator" x t i) where
 mem:=by simp
 obj:=fun i h st b hb=>by
  have e:b=it:=by simpa using hb
  subst e;obtain ⟨o,e,c,d⟩:=st;exact ⟨o,e,fun v z=>by rw [d] at z;cases z⟩
 keep:=fun i h h' st k=>let ⟨o,e,r⟩:=st;⟨o,k it (by simp) o e,r⟩;item:=by
  intro X hP hw hK hc i pins s σ H E I hf st hg;subst hP hw hK;obtain ⟨f0,f1,f2,f3,f4,f5⟩:=hf it (by simp);have hg:i<x.cps.size:=hg;have hx:x.cps[i]?=some x.cps[i]:=by simp [hg]
  refine wpAny_pyNext_ascii_item st hx fun h' st' sb=>?_;have I1:Inv X pins σ H { s with heap:=h',toks:=s.toks+1 }:=I.turned (fun b o hb e=>(sb.2 b hb).trans e) f0 f1 f3 f4 f5;obtain ⟨o,e,c,d⟩:=id st';exact ⟨_,rfl,Vm (s:={ s with heap:=h',toks:=s.toks+1 }) e c d (by decide) ⟨.str ⟨#[x.cps[i]]⟩,H,I1,⟨_,rfl⟩,⟨rfl,_,hx,rfl⟩,st',fun b hb=>(hf b hb).1⟩⟩
 done:=by
  intro X hP hw hK hc i pins s σ H E I hf st hg;subst hP hw hK;obtain ⟨f0,f1,f2,f3,f4,f5⟩:=hf it (by simp);have hg:x.cps.size<=i:=hg;exact wpAny_pyNext_ascii_end (I.ok.hd hc) st (by simp [hg]) fun h' eb=>⟨rfl,I.turned (t':=s.toks) (fun b o hb e=>eb b o hb e) f0 f1 f3 f4 f5⟩
 self:=fun _ _ _ _ _ st h=>wpAny_pyIter_striter_ascii st h
section
variable {X:Cx}{tg:Expr}
def iStr (tl:TE):TI:=fun σ H R=>tl σ H fun v H1=>∃ x,v=.str x/\x.cps.all (·<128)=true/\R (Its x) H1
theorem acV {l:Expr}{tl:TE}(hl:PE X l tl):PI X tg l (iStr tl):=by
 intro pins s σ H R I h;refine thn (hl pins s σ H _ I h) fun v s1 ⟨x,H1,I1,r1,q1⟩=>?_;obtain ⟨z,e,ha,q⟩:=q1;subst e;obtain ⟨t,rfl⟩:=r1;refine wpAny_pyIter_ascii ha ?_;refine ⟨s1.heap.objs.size,[s1.heap.objs.size],_,_,H1,rfl,I1.kept (t':=s1.toks) fun b o e=>agc _ e,Uc _ z t,⟨_,agl _ rfl,rfl,rfl⟩,fun b hb=>?_,q⟩;have e:b=s1.heap.objs.size:=by simpa using hb
 subst e;exact I1.G9 (agb _) (I1.hok.fresh (agb _))
theorem Vy {x:Str}{acc:Addr}{g:TG}{tc:TT}{te:TE}{τ:St}{H1:Hp}{Q:Hp->Prop}(Pv:Nat->St->Hp->Prop)(h0:Pv 0 τ (upd H1 acc (.lst [])))
  (hs:∀ i c τ H,x.cps[i]?=some c->Pv i τ H->g (.str ⟨#[c]⟩) τ H fun τ4 H4=>tc τ4 H4 fun b H5=>if b=true then te τ4 H5 fun y H6=>∃ ys,H6 acc=some (.lst ys)/\ys.length<sizeLine/\Pv (i+1) τ4 (upd H6 acc (.lst (ys++[y]))) else Pv (i+1) τ4 H5)
  (hd:∀ τ H,Pv x.cps.size τ H->Q H):zZ (Its x) acc g tc te τ H1 Q:=by
 refine ⟨fun i m τ H=>m=x.cps.size - i/\i<=x.cps.size/\Pv i τ H,⟨x.cps.size,by simp,agN _,h0⟩,?_⟩
 rintro i m τ H ⟨rfl,hi,p⟩
 by_cases hlt:i<x.cps.size
 ·refine .inr ⟨hlt,Pv (i+1),fun τ' H' p'=>⟨x.cps.size - (i+1),by omega,rfl,hlt,p'⟩,fun y H' e=>?_⟩
  obtain ⟨e,c,hc,ey⟩:=e
  subst e ey
  exact hs i c τ _ hc p
 ·have e:i=x.cps.size:=by omega
  subst e
  exact .inl ⟨agb _,hd τ H p⟩
theorem abv:OpR X (binaryOp .Mult) (fun x y H Q=>∃ z n,x=.str z/\y=.int n/\0<=n/\n<=64/\z.length<=64/\Q (.str (Txt.mul z n)) H):=by
 intro pins s σ H x y v u Q I rx ry h;obtain ⟨z,n,rfl,rfl,n0,n1,hz,q⟩:=h;obtain ⟨t,rfl⟩:=rx;obtain ⟨t',rfl⟩:=ry;refine SB.mul ⟨?_,fun h1 _=>?_,fun h1 _=>?_⟩ fun t' k=>⟨.str _,H,I.tok _,⟨_,rfl⟩,q⟩
 ·rw [decide_eq_false (by omega),decide_eq_false (by omega)];rfl
 ·have:(64:Int)<=(2 ^ 63 - 1) / n:=by
   refine Int.le_ediv_of_mul_le (by omega) ?_;omega
  omega
 ·have h2:z.length*n.toNat<=64*64:=Nat.mul_le_mul hz (by omega);unfold Builtin.Str.tooLong;exact decide_eq_false (by rw [sizeLine_eq];omega)
structure Dm (K:PySem.W.Frag)(C:Addr)(x qual:Str)(st:Stmt)(ps:List Str)(a:Addr)(fd:FuncData):Prop where
 F:Fun K x qual st a fd
 b:Binds K fd ps []
 m:Meth K C x a
structure VN (K:PySem.W.Frag)(x qual:Str)(st:Stmt)(dv:List Value)(f:Addr)(fd:FuncData):Prop where
 ex:∃ (oc:Value)(od:Option Addr)(T:Addr)(o:Obj)(n:Nat)(kV doc pm:Value)(an:Option Addr)(cdv ct:Value)(osl:Array (Option Value)),
  fd=fnOf x qual (jl st) (fV st) (ao st) (.ref T) kV doc pm an cdv ct/\K.lookup f=some ⟨oc,od,.func fd,osl⟩/\codeIn K cdv qual=true/\K.lookup T=some o/\o.data=.seq dv.toArray n
 kp:keepIn K (.ref f)=true
section
variable {P:Program}{w:World}{K:PySem.W.Frag}{mg:Str->Option Value}{base:Heap}{x qual:Str}{st:Stmt}{dv:List Value}{f:Addr}{fd:FuncData}{N ps:List Str}{k:Nat}{sp:Sp}
theorem VN.okX (F:VN K x qual st dv f fd)(S:aG N ps (ao st))(len:∀ vs H Q E,sp vs H Q E->vs.length=ps.length)
  (hbody:∀ (cdv:Value)(A:Around)(outer:List Env)(s:Shared)(H:Hp)(vs:List V)(Q:VK)(E:XK),sJ k (A.deeper (envOfC qual (ao st) s.heap.objs.size f cdv))->sp vs H Q E ->
   ∃ t,PSs (SQ (CXE P w) P w K mg base N qual (ao st) f cdv A outer s H E) (fV st) t/\t { nx:=fun _ H'=>Q .non H',rt:=Q } (start N vs) H):Hf P w K mg base (CXE P w) (k+1) f fd ps sp:=by
 obtain ⟨oc,od,T,o,n,kV,doc,pm,an,cdv,ct,osl,rfl,lk,hcd,_⟩:=F.ex;exact Vq lk hcd S len fun A outer s H vs Q E hr hsp=>hbody cdv A outer s H vs Q E hr hsp
theorem VN.binds {ds:List Value}(F:VN K x qual st dv f fd)
  (h:∀ (T:Addr)(kV doc pm:Value)(an:Option Addr)(cdv ct:Value)(us:List Value),(us++ds).length=ps.length->∃ k:Option (Array Value)->Sem (List (Str × Value)),
   bindArgs (fnOf x qual (jl st) (fV st) (ao st) (.ref T) kV doc pm an cdv ct) ⟨us,[]⟩=(seqItems? (.ref T)>>=k)/\k (some dv.toArray)=pure (ps.zip (us++ds))):Binds K fd ps ds:=by
 obtain ⟨oc,od,T,o,n,kV,doc,pm,an,cdv,ct,osl,rfl,lk,hcd,lt,hs⟩:=F.ex;intro s us X hl;obtain ⟨k,h1,h2⟩:=h T kV doc pm an cdv ct us hl;exact BindsTo.of_defaults rfl (X _ _ lt) hs h1 h2
end
structure DmD (K:PySem.W.Frag)(C:Addr)(x qual:Str)(st:Stmt)(ps:List Str)(a:Addr)(fd:FuncData):Prop where
 F:VN K x qual st [.none] a fd
 b0:Binds K fd ps []
 b1:Binds K fd ps [.none]
 m:Meth K C x a
structure Cl (K:PySem.W.Frag)(mg:Str->Option Value)(x:Str)(C f:Addr)(fs:List Str):Prop where
 c:Cls K C
 k:Mk K C f
 m:mg x=some (.ref C)
 n:∀ y∈fs,j4 K C y
end
section
variable {T:fJ}{H0 H:Hp}{L R B:List (Addr × HO)}{a b:Addr}{o o':HO}{x y:Addr × HO}
theorem Ow.ne (O:Ow T H0 H L)(i j:Nat)(hi:L[i]?=some (a,o):=by rfl)(hj:L[j]?=some (b,o'):=by rfl)(hij:i≠j:=by decide):a≠b:=by
 intro e;subst e;have h1:(L.map (·.1))[i]?=some a:=by rw [agg,hi];rfl
 have h2:(L.map (·.1))[j]?=some a:=by rw [agg,hj];rfl
 exact hij ((List.getElem?_inj (af4.mp h1).1 O.nd).mp (h1.trans h2.symm))
theorem Ow.mid (O:Ow T H0 H (x::(R++B))):Ow T H0 H (R++x::B):=O.perm List.perm_middle
end
open AutoSeq1 (wpAny_loadPart')
section
variable {prog:Program}{w:World}{A:Around}{E:Value->Shared->Prop}{s:Shared}{it l:Addr}{i:Nat}{items:Array Value}
theorem PB {x:Value}{Q:Value->Shared->Prop}(st:s.heap.IsTupleIter it l i)(ht:s.heap.IsTuple l items)(hx:items[i]?=some x)
  (q:∀ h',h'.IsTupleIter it l (i+1)->Heap.SameBut it s.heap h'->Q x { s with heap:=h' }):wpAny (model prog w) A (Builtin.SmallTypes.nextOf (.ref it)) Q E s:=by
 obtain ⟨o,eo,oc,od⟩:=id st;obtain ⟨u,eu,-,m,um⟩:=ht;unfold Builtin.SmallTypes.nextOf;refine wpAny_bind (wpAny_callSpecial?_slot (name:=Str.ofString "__next__") st.typeIs ahB (wpAny_call_entry ahB st.typeIs F.entry_tuple_iterator_next ?_ (F.args_tuple_iterator_next_1 _)));(show wpAny _ _ (field (.ref it) 0 >>=_) _ _ s);refine wpAny_bind (wpAny_field eo od (x:=.ref l) rfl ?_);(show wpAny _ _ (if (Value.ref l ==Value.none)=true then _ else _) _ _ s);rw [if_neg (show ¬ ((Value.ref l ==Value.none)=true) from agi)];(show wpAny _ _ (field (.ref it) 1 >>=_) _ _ s);refine wpAny_bind (wpAny_field eo od (x:=.int i 0) rfl ?_);(show wpAny _ _ (seqItems? (.ref l)>>=_) _ _ s);refine wpAny_bind (wpAny_seqItems eu um ?_);simp only [agm,hx];refine wpAny_bind (wpAny_setField eo od (by simp) (wpAny_pure ⟨x,rfl,wpAny_pure (q _ ⟨_,ahi _ eo (Obj.isFreed_of_fields (Obj.data_mapFields od _)),(Obj.cls_mapFields ..).trans oc,?_⟩ (ahH ..))⟩));rw [Obj.data_mapFields od];simp [rawInt]
theorem PJ {Q:Value->Shared->Prop}(hh:A.handled=none)(st:s.heap.IsTupleIter it l i)(ht:s.heap.IsTuple l items)(hx:items[i]?=none)
  (q:∀ h' e,Heap.ExtBut it s.heap h'->(∃ o,h'.get? e=some o/\o.cls=.type "StopIteration")->E (.ref e) { s with heap:=h' }):wpAny (model prog w) A (Builtin.SmallTypes.nextOf (.ref it)) Q E s:=by
 obtain ⟨o,eo,oc,od⟩:=id st;obtain ⟨u,eu,-,m,um⟩:=ht;unfold Builtin.SmallTypes.nextOf;refine wpAny_bind (wpAny_callSpecial?_slot (name:=Str.ofString "__next__") st.typeIs ahB (wpAny_call_entry ahB st.typeIs F.entry_tuple_iterator_next ?_ (F.args_tuple_iterator_next_1 _)));(show wpAny _ _ (field (.ref it) 0 >>=_) _ _ s);refine wpAny_bind (wpAny_field eo od (x:=.ref l) rfl ?_);(show wpAny _ _ (if (Value.ref l ==Value.none)=true then _ else _) _ _ s);rw [if_neg (show ¬ ((Value.ref l ==Value.none)=true) from agi)];(show wpAny _ _ (field (.ref it) 1 >>=_) _ _ s);refine wpAny_bind (wpAny_field eo od (x:=.int i 0) rfl ?_);(show wpAny _ _ (seqItems? (.ref l)>>=_) _ _ s);refine wpAny_bind (wpAny_seqItems eu um ?_);simp only [agm,hx];refine wpAny_bind (wpAny_rule (wpAny_bind (wpAny_setField eo od (by simp) ?_)));(show wpAny _ _ (newExc (.type "StopIteration") []>>=_) _ _ _);refine wpAny_bind ?_;simp only [newExc,newTuple];refine wpAny_bind (wpAny_newObj_type (wpAny_bind (m:=firstArgMember _ _) (wpAny_of_eq (a:=Value.none) (by first| rfl| (simp only [firstArgMember];rfl)) (wpAny_newObj_type ?_ (by size_fits)))) (by size_fits))
 simp only [raiseNew];refine wpAny_bind (wpAny_handled ?_);(first| rw [show A.in1.handled=none from hh] | rw [hh])
 refine wpAny_bind (wpAny_pure (wpAny_throw (q _ _ (((ahH ..).extBut.push _).push _) ⟨_,agl _ rfl,rfl⟩)))
theorem Hl (hh:A.handled=none)(hne:l≠it):Draws prog w A it [it,l] items.size (fun i v=>items[i]?=some v) (fun i h=>h.IsTupleIter it l i/\h.IsTuple l items):=
 ⟨fun _ _ ⟨⟨o,ho,_⟩,_⟩=>⟨o,ho⟩,fun _ _ _ st hk=>⟨st.1.at fun o e=>hk it (by simp) o e,st.2.at fun o e=>hk l (by simp) o e⟩,
  fun i s Q E hi st q=>PB st.1 st.2 (x:=items[i]) (by simp [hi]) fun h' st' sb=>q _ h' s.toks (by simp [hi]) ⟨st',st.2.extBut sb.extBut hne⟩ sb,
  fun s Q E st q=>PJ hh st.1 st.2 (by simp) q⟩
theorem Ke (l:Addr)(items:Array Value)(n:Nat)(dct:Option Addr)(sl:Array (Option Value)):
  Meets (Builtin.«enumerate.__new__» ⟨[.type "enumerate",.ref l],[]⟩) (fun _ R s=>s.heap.get? l=some ⟨.type "tuple",dct,.seq items n,sl⟩ /\
   R (.ok (.ret (.ref (s.heap.push { cls:=.type "tuple_iterator",data:=.fields #[.ref l,.int 0 0] }).objs.size)))
    { s with heap:=(s.heap.push { cls:=.type "tuple_iterator",data:=.fields #[.ref l,.int 0 0] }).push { cls:=.type "enumerate",data:=.fields #[.none,.bool false,.ref s.heap.objs.size,rawInt 0,.none,.none] } }):=
 .of_wp fun prog w A R s h=>by
  obtain ⟨hp,g,d,tk,os⟩:=s;obtain ⟨hl,h⟩:=h;have hs2:=sub_enumerate;have hT:Heap.IsTuple (Shared.heap ⟨hp,g,d,tk,os⟩) l items:=⟨_,hl,rfl,n,rfl⟩;wp_walk using wpAny_loadPart' hl;refine wpAny_stack_any fun st=>wpAny_pure ?_;split
  ·rename_i c _ _ _ _ _
   cases (c ==Value.type "enumerate")<;>(wp_walk using wpAny_loadPart' hl,wpAny_pyIter_tuple hT;exact ⟨_,rfl,h⟩)
  ·wp_walk using wpAny_loadPart' hl,wpAny_pyIter_tuple hT;exact ⟨_,rfl,h⟩
end
def Iet (K:PySem.W.Frag)(l:Addr)(xs:List V):It:=
 ⟨fun i H=>SqT K H l xs/\i<xs.length,fun i H x H'=>∃ T a,x=.ref T/\H T=none/\xs[i]?=some a/\H'=upd H T (.tup [.int (i:Int),a]),fun i H=>SqT K H l xs/\i=xs.length⟩
def ace (e it l:Addr)(i:Nat)(h:Heap):Prop:=(∃ old,IsEnum h e it i old)/\h.IsTupleIter it l i
theorem Bu {h:Heap}{a b:Addr}{o:Obj}{n:String}{items:Array Value}(ha:h.get? a=some o)(hc:o.cls=.type n)(hn:n≠"tuple")(hb:h.IsTuple b items):a≠b:=by
 intro e;subst e;obtain ⟨o',e',c',_⟩:=hb;rw [ha] at e';cases e';rw [hc] at c';exact hn (Value.type.inj c')
theorem NZ {P:Program}{w:World}{K:PySem.W.Frag}{elts:List Expr}{kk:Nat}{tpos:Pos}{e it l:Addr}{xs:List V}(hei:e≠it):
  Turn P w K (.Tuple elts kk tpos) (Iet K l xs) [e,it] e (ace e it l):=by
 refine ⟨by simp,fun i h st b hb=>?_,fun i h h' st k=>?_,?_,?_,fun _ _ _ _ _ st h=>?_⟩
 ·obtain ⟨⟨old,he⟩,⟨o1,e1,c1,d1⟩⟩:=st;simp at hb;rcases hb with rfl| rfl
  ·exact ⟨_,he,fun v z=>by cases (show Data.fields _=Data.cell v from z)⟩
  ·exact ⟨o1,e1,fun v z=>by rw [d1] at z;cases z⟩
 ·obtain ⟨⟨old,he⟩,h1⟩:=st;exact ⟨⟨old,k e (by simp) _ he⟩,h1.at fun o x=>k it (by simp) o x⟩
 ·intro X hP hw hK hc i pins s σ H E I hf st hg;subst hP hw hK;obtain ⟨⟨old,he⟩,h1⟩:=st;obtain ⟨hq,hi⟩:=hg;obtain ⟨its,rv,pt,hz⟩:=I.tuple hq;have pt:s.heap.IsTuple l its.toArray:=pt;have el:=rv.length;have n1:it≠l:=by obtain ⟨o1,e1,c1,_⟩:=id h1;exact Bu e1 c1 (by decide) pt
  have n2:e≠l:=Bu (n:="enumerate") he rfl (by decide) pt;refine wpAny_pyNext_enum_itemD (Hl (items:=its.toArray) (I.ok.hd hc) n1.symm) he ⟨h1,pt⟩ (by simp;omega) hei (by simp [hei,n2]) fun u h' tk hu a1 a2 a3 a4 hk=>?_;obtain ⟨v,hv,ru⟩:∃ v,xs[i]?=some v/\RelV v u:=by
   obtain ⟨u',hu',ru'⟩:=rv.get (af9 hi);have:u'=u:=by
    have hu:its[i]?=some u:=by simpa using hu
    rw [hu'] at hu;exact agz hu
   exact ⟨_,af9 hi,this ▸ ru'⟩
  have lt:∀ {c o},s.heap.get? c=some o->s.heap.objs.size≠c:=fun e=>Nat.ne_of_gt (agr e);refine ⟨.ref s.heap.objs.size,rfl,wpAny_letOwnedTupleGo_enum (s:={ s with heap:=h',toks:=tk+1 }) a1 fun h'' hz' hs'=>?_⟩;have Tz:s.heap.objs.size≠e:=lt he;have I1:Inv X pins σ H { s with heap:=h'',toks:=tk+1 }:=I.sO (ch:=[e,it])
   (fun b o hb x=>hs'.extBut b o (fun z=>hb (by simp [z])) (hk b o (fun z=>hb (by simp [z])) (fun z=>hb (by simp [z])) x)) fun b hb=>hf b hb
  obtain ⟨F0,F1,F2,F3,F4,F5⟩:=I.G9 (H':=H) (agb _) (I.hok.fresh (agb _));have hT:h''.IsTuple s.heap.objs.size #[.int (i:Int) tk,u]:=⟨_,hs'.extBut _ _ Tz a3,rfl,_,rfl⟩;have I2:Inv X pins σ (upd H s.heap.objs.size (.tup [.int (i:Int),v])) { s with heap:=h'',toks:=tk+1 }:=I1.adopt F0 F1 I.sz F4 F5 (show gR X.prog X.w _ h'' _ (.tup [.int (i:Int),v]) from ⟨by rw [sizeLine_eq];simp,[.int (i:Int) tk,u],.cons ⟨_,rfl⟩ (.cons ru .nil),hT⟩);refine ⟨.ref s.heap.objs.size,_,I2,rfl,⟨_,_,rfl,F0,hv,rfl⟩,⟨⟨_,by simpa using hz'⟩,a2.1.extBut hs'.extBut hei.symm⟩,fun b hb=>?_⟩;rw [aN]
  ·exact (hf b hb).1
  ·simp at hb;obtain ⟨o1,e1,_⟩:=h1;rcases hb with rfl| rfl
   ·exact (lt he).symm
   ·exact (lt e1).symm
 ·intro X hP hw hK hc i pins s σ H E I hf st hg;subst hP hw hK;obtain ⟨⟨old,he⟩,h1⟩:=st;obtain ⟨hq,hend⟩:=hg;obtain ⟨its,rv,pt,hz⟩:=I.tuple hq;have pt:s.heap.IsTuple l its.toArray:=pt;have el:=rv.length;have n1:it≠l:=by obtain ⟨o1,e1,c1,_⟩:=id h1;exact Bu e1 c1 (by decide) pt
  have hi:i=its.toArray.size:=by simp;omega
  refine wpAny_pyNext_enum_endD (Hl (items:=its.toArray) (I.ok.hd hc) n1.symm) he ⟨hi ▸ h1,pt⟩ fun h' hk=>⟨rfl,I.sO (t':=s.toks) (ch:=[e,it]) (fun b o hb x=>hk b o (fun z=>hb (by simp [z])) x) fun b hb=>hf b hb⟩
 ·obtain ⟨⟨old,he⟩,_⟩:=st;exact wpAny_pyIter_enum he h
theorem O8 {prog:Program}{w:World}{A:Around}{E:Value->Shared->Prop}{s:Shared}{l:Addr}{items:Array Value}{Q:Value->Shared->Prop}(hL:s.heap.IsTuple l items)
  (h:∀ h',IsEnum h' (s.heap.objs.size+1) s.heap.objs.size 0 .none->h'.IsTupleIter s.heap.objs.size l 0->(∀ b o,s.heap.get? b=some o->h'.get? b=some o)->Q (.ref (s.heap.objs.size+1)) { s with heap:=h' }):
  wpAny (model prog w) A (call (.type "enumerate") [.ref l]) Q E s:=by
 obtain ⟨⟨c,dct,dt,sl⟩,hl,hc,n,hd⟩:=hL
 obtain rfl:c=.type "tuple":=hc
 obtain rfl:dt=.seq items n:=hd
 have z:(s.heap.push { cls:=.type "tuple_iterator",data:=.fields #[.ref l,.int 0 0] }).objs.size=s.heap.objs.size+1:=ahg ..
 refine callType_new F.called_enumerate (by decide) (F.typeCall_enumerate_1 _) (F.newCall_enumerate_1 _) (fun obj=>F.args_object_init_2 obj _) F.entry_enumerate_new (Ke l items n dct sl) ⟨hl,?_⟩
 show _/\_
 rw [z]
 have he:=agl (s.heap.push { cls:=.type "tuple_iterator",data:=.fields #[.ref l,.int 0 0] }) (o:={ cls:=.type "enumerate",data:=.fields #[.none,.bool false,.ref s.heap.objs.size,rawInt 0,.none,.none] }) rfl
 rw [z] at he
 exact ⟨⟨_,he,rfl⟩,h _ he ⟨_,agc _ (agl _ rfl),rfl,rfl⟩ fun b o x=>agc _ (agc _ x)⟩
section
variable {X:Cx}
def adK (K:PySem.W.Frag)(ta:TA):TI:=fun σ H R=>ta σ H fun vs H1=>∃ l xs,vs=[.ref l]/\SqT K H1 l xs/\R (Iet K l xs) H1
theorem Us {elts:List Expr}{kk:Nat}{tpos:Pos}{a:Expr}{ta:TA}{p pos:Pos}(hg:Gl X "enumerate")(hm:X.mg "enumerate"=none)(ha:PA X [a] ta)(hs:starEach [a] X.env=[(false,eval a X.env)]:=by rfl):
  PI X (.Tuple elts kk tpos) (.Call (.Name "enumerate" p) [a] [] pos) (adK X.K ta):=by
 intro pins s σ H R I h;refine Call_ (nj I hg hm boot_enumerate (agJ (thn (ha pos pins s σ H _ I h) fun us s1 ⟨vs,H1,I1,r1,q1⟩=>?_) hs rfl));obtain ⟨l1,xs,e,hq1,q⟩:=q1;subst e;obtain ⟨u,rfl,ru⟩:=vals1 r1;cases ru;obtain ⟨its1,rv1,pl1,hz1⟩:=I1.tuple hq1;refine O8 (show s1.heap.IsTuple l1 its1.toArray from pl1) fun h' a1 a2 hk=>?_;refine wpAny_pyIter_enum a1 ⟨_,_,_,_,H1,rfl,I1.kept (t':=s1.toks) hk,NZ (l:=l1) (xs:=xs) (it:=s1.heap.objs.size) (Nat.succ_ne_self _),⟨⟨_,a1⟩,a2⟩,fun b hb=>?_,q⟩;have hb':s1.heap.objs.size<=b:=by
  simp at hb;rcases hb with rfl| rfl <;>simp
 exact I1.G9 hb' (I1.hok.fresh hb')
theorem R7 {K:PySem.W.Frag}{l:Addr}{xs:List V}{g:TG}{tb:TS}{D:Ends}{σ:St}{H:Hp}(Pv:Nat->St->Hp->Prop)(h0:Pv 0 σ H)(hl:∀ i σ H,i<=xs.length->Pv i σ H->SqT K H l xs)
  (hs:∀ i a T σ H,xs[i]?=some a->Pv i σ H->H T=none->g (.ref T) σ (upd H T (.tup [.int (i:Int),a])) fun σ2 H2=>tb { D with nx:=Pv (i+1),ct:=Pv (i+1),bk:=D.nx } σ2 H2)(hd:∀ σ H,Pv xs.length σ H->D.nx σ H):
  ∃ W:Nat->Nat->St->Hp->Prop,(∃ m,W 0 m σ H)/\∀ i m σ H,W i m σ H ->
   ((Iet K l xs).stop i H/\D.nx σ H)\/((Iet K l xs).go i H/\∃ N:St->Hp->Prop,(∀ σ' H',N σ' H'->∃ m',m'<m/\W (i+1) m' σ' H')/\∀ x H',(Iet K l xs).yld i H x H'->g x σ H' fun σ2 H2=>tb { D with nx:=N,ct:=N,bk:=D.nx } σ2 H2):=by
 refine ⟨fun i m σ H=>m=xs.length - i/\i<=xs.length/\Pv i σ H,⟨xs.length,by simp,agN _,h0⟩,?_⟩
 rintro i m σ H ⟨rfl,hi,p⟩
 have q1:=hl i σ H hi p
 rcases Nat.lt_or_ge i xs.length with hlt| hge
 ·refine .inr ⟨⟨q1,hlt⟩,Pv (i+1),fun σ' H' p'=>⟨xs.length - (i+1),by omega,rfl,hlt,p'⟩,fun x H' y=>?_⟩
  obtain ⟨T,a,rfl,hT,ha,rfl⟩:=y
  exact hs i a T σ _ ha p hT
 ·have e:i=xs.length:=by omega
  subst e
  exact .inl ⟨⟨q1,rfl⟩,hd σ H p⟩
end
end L2
namespace L2
open PySem PySem.W PySem.Spec PyProof.Rows PySem.Builtin
abbrev KY (vs:List Value):Obj:={ cls:=.type "tuple",data:=.seq vs.toArray }
abbrev aez (f0:Value)(p q:Nat):Obj:={ cls:=.type "zip",dict:=none,data:=.fields #[f0,.bool false,.bool false,.ref p,.ref q],slots:=#[] }
structure Z3 (N l1 l2 n:Nat)(f0 a b c:Value)(j0 j1 j2:Nat)(h:Heap):Prop where
 z:h.get? (N+5)=some (aez f0 (N+3) (N+4))
 ti:h.get? (N+3)=some (KY [.ref N,.ref (N+1),.ref (N+2)])
 to:h.get? (N+4)=some (KY [a,b,c])
 r0:IsRangeIter h N (j0:Int) ((n:Int) - (j0:Int)) 1
 r1:h.IsListIter (N+1) l1 j1
 r2:h.IsListIter (N+2) l2 j2
def Fr3 (N:Nat)(h h':Heap):Prop:=∀ (b:Nat)(o:Obj),(b<N\/N+5<b)->h.get? b=some o->h'.get? b=some o
section
variable {N l1 l2 n:Nat}{f0 a b c:Value}{j0 j1 j2:Nat}{h h':Heap}
theorem Fr3.trans {h₁ h₂ h₃:Heap}(p:Fr3 N h₁ h₂)(q:Fr3 N h₂ h₃):Fr3 N h₁ h₃:=fun b o hb e=>q b o hb (p b o hb e)
theorem Fr3.of {p:Nat}(hp:N<=p/\p<=N+5)(k:Heap.SameBut p h h'):Fr3 N h h':=fun b o hb e=>k.extBut b o (by simp only [Addr];omega) e
theorem Z3.at5 {v:Value}(Z:Z3 N l1 l2 n f0 a b c j0 j1 j2 h)(k:Heap.SameBut (N+5) h h')(hz:h'.get? (N+5)=some (aez v (N+3) (N+4))):Z3 N l1 l2 n v a b c j0 j1 j2 h' :=
 ⟨hz,k.extBut _ _ (by simp only [Addr];omega) Z.ti,k.extBut _ _ (by simp only [Addr];omega) Z.to,k.extBut _ _ (by simp only [Addr];omega) Z.r0,Z.r1.extBut k.extBut (by simp only [Addr];omega),Z.r2.extBut k.extBut (by simp only [Addr];omega)⟩
theorem Z3.at4 {a' b' c':Value}(Z:Z3 N l1 l2 n f0 a b c j0 j1 j2 h)(k:Heap.SameBut (N+4) h h')(ht:h'.get? (N+4)=some (KY [a',b',c'])):Z3 N l1 l2 n f0 a' b' c' j0 j1 j2 h' :=
 ⟨k.extBut _ _ (by simp only [Addr];omega) Z.z,k.extBut _ _ (by simp only [Addr];omega) Z.ti,ht,k.extBut _ _ (by simp only [Addr];omega) Z.r0,Z.r1.extBut k.extBut (by simp only [Addr];omega),Z.r2.extBut k.extBut (by simp only [Addr];omega)⟩
theorem Z3.at0 {m:Nat}(Z:Z3 N l1 l2 n f0 a b c j0 j1 j2 h)(k:Heap.SameBut N h h')(hr:IsRangeIter h' N (m:Int) ((n:Int) - (m:Int)) 1):Z3 N l1 l2 n f0 a b c m j1 j2 h' :=
 ⟨k.extBut _ _ (by simp only [Addr];omega) Z.z,k.extBut _ _ (by simp only [Addr];omega) Z.ti,k.extBut _ _ (by simp only [Addr];omega) Z.to,hr,Z.r1.extBut k.extBut (by simp only [Addr];omega),Z.r2.extBut k.extBut (by simp only [Addr];omega)⟩
theorem Z3.at1 {m:Nat}(Z:Z3 N l1 l2 n f0 a b c j0 j1 j2 h)(k:Heap.SameBut (N+1) h h')(hr:h'.IsListIter (N+1) l1 m):Z3 N l1 l2 n f0 a b c j0 m j2 h' :=
 ⟨k.extBut _ _ (by simp only [Addr];omega) Z.z,k.extBut _ _ (by simp only [Addr];omega) Z.ti,k.extBut _ _ (by simp only [Addr];omega) Z.to,k.extBut _ _ (by simp only [Addr];omega) Z.r0,hr,Z.r2.extBut k.extBut (by simp only [Addr];omega)⟩
theorem Z3.at2 {m:Nat}(Z:Z3 N l1 l2 n f0 a b c j0 j1 j2 h)(k:Heap.SameBut (N+2) h h')(hr:h'.IsListIter (N+2) l2 m):Z3 N l1 l2 n f0 a b c j0 j1 m h' :=
 ⟨k.extBut _ _ (by simp only [Addr];omega) Z.z,k.extBut _ _ (by simp only [Addr];omega) Z.ti,k.extBut _ _ (by simp only [Addr];omega) Z.to,k.extBut _ _ (by simp only [Addr];omega) Z.r0,Z.r1.extBut k.extBut (by simp only [Addr];omega),hr⟩
theorem Z3.up (Z:Z3 N l1 l2 n f0 a b c j0 j1 j2 h)(k:∀ (p:Nat)(o:Obj),h.get? p=some o->h'.get? p=some o):Z3 N l1 l2 n f0 a b c j0 j1 j2 h' :=
 ⟨k _ _ Z.z,k _ _ Z.ti,k _ _ Z.to,k _ _ Z.r0,Z.r1.at fun o e=>k _ o e,Z.r2.at fun o e=>k _ o e⟩
theorem Ru {l:Nat}{xs:Array Value}(hl:h.IsList l xs)(hb:l<N)(k:Fr3 N h h'):h'.IsList l xs:=hl.at fun o e=>k l o (.inl hb) e
end
section
variable {prog:Program}{w:World}{A:Around}{E:Value->Shared->Prop}{s:Shared}
theorem Um {it:Addr}{x left:Int}{Q:Value->Shared->Prop}(hit:IsRangeIter s.heap it x left 1)(hl:0<left)
  (hQ:∀ h',IsRangeIter h' it (x+1) (left - 1) 1->Heap.SameBut it s.heap h'->Q (.int x s.toks) { s with heap:=h',toks:=s.toks+1 }):wpAny (model prog w) A (SmallTypes.nextOf (.ref it)) Q E s:=by
 have ty:s.TypeIs (.ref it) "range_iterator":=⟨_,hit,rfl⟩;unfold SmallTypes.nextOf;refine wpAny_bind (wpAny_callSpecial?_slot ty ahC (call_meets ahC ty F.entry_range_iterator_next (F.args_range_iterator_next_1 _) (AutoRange.range_iterator___next___range_iterator_1 it x left 1 (by omega)) ⟨hit,wpAny_pure (hQ _ ?_ ?_)⟩))
 ·exact ahi _ (ahi _ hit rfl) rfl
 ·exact (ahH ..).trans (ahH ..)
theorem put3 {T:Addr}{a b c x:Value}{k:Nat}{Q:Unit->Shared->Prop}(hT:s.heap.get? T=some (KY [a,b,c]))
  (q:∀ h',h'.get? T=some (KY ([a,b,c].set k x))->Heap.SameBut T s.heap h'->Q () { s with heap:=h' }):wpAny (model prog w) A (updateSeq T (·.setIfInBounds k x)) Q E s:=by
 refine wpAny_updateSeq hT rfl (q _ ?_ (ahH ..));rw [ahi _ hT rfl];simp [Obj.mapSeq,KY]
theorem aaT {N l1 l2 n i:Nat}{a b c x y:Value}{xs ys:Array Value}{Q:Value->Shared->Prop}(Z:Z3 N l1 l2 n .none a b c i i i s.heap)(hi:i<n)(b1:l1<N)(b2:l2<N)
  (g1:s.heap.IsList l1 xs)(g2:s.heap.IsList l2 ys)(hx:xs[i]?=some x)(hy:ys[i]?=some y)
  (q:∀ h',Z3 N l1 l2 n (rawInt s.heap.objs.size) (.int i s.toks) x y (i+1) (i+1) (i+1) h'->h'.get? s.heap.objs.size=some (KY [.int i s.toks,x,y])->Fr3 N s.heap h'->Q (.ref s.heap.objs.size) { s with heap:=h',toks:=s.toks+1 }):
  wpAny (model prog w) A (Builtin.«zip.__next__» ⟨[.ref (N+5)],[]⟩) (fun r s'=>∃ v,r=.done (.ret v)/\Q v s') E s:=by
 show wpAny _ _ (field (.ref (N+5)) 2 >>=_) _ _ _
 refine wpAny_bind (wpAny_field Z.z rfl (x:=.bool false) rfl ?_)
 show wpAny _ _ (field (.ref (N+5)) 3 >>=_) _ _ _
 refine wpAny_bind (wpAny_field Z.z rfl (x:=.ref (N+3)) rfl (wpAny_bind (wpAny_seqItems Z.ti rfl ?_)))
 show wpAny _ _ (SmallTypes.ownedTupleIsFree (.ref (N+5))>>=_) _ _ _
 unfold SmallTypes.ownedTupleIsFree
 refine wpAny_bind (wpAny_bind (wpAny_field Z.z rfl (x:=.none) rfl (wpAny_pure ?_)))
 simp only [if_true]
 refine wpAny_bind (wpAny_rule (wpAny_bind (wpAny_field Z.z rfl (x:=.ref (N+4)) rfl (wpAny_bind (wpAny_setField_rec Z.z (by simp) fun e1 z1 k1=>?_)))))
 have Z:=Z.at5 k1 z1
 have F:=Fr3.of (N:=N) ⟨by omega,by omega⟩ k1
 refine wpAny_bind ?_
 simp only [List.zipIdx_cons,List.zipIdx_nil,List.forIn_cons,List.forIn_nil]
 refine wpAny_bind (wpAny_bind (wpAny_onRaise (wpAny_bind (Um Z.r0 (by omega) fun e2 r k2=>wpAny_pure ?_))))
 have Z:=Z.at0 (m:=i+1) k2 (by rw [show ((i+1:Nat):Int)=(i:Int)+1 by omega,show (n:Int) - ((i:Int)+1)=(n:Int) - (i:Int) - 1 by omega];exact r)
 have F:=F.trans (.of ⟨by omega,by omega⟩ k2)
 refine wpAny_bind (wpAny_seqItems Z.to rfl (wpAny_bind (put3 Z.to fun e3 t k3=>wpAny_bind (wpAny_letGo (wpAny_pure ?_)))))
 have Z:=Z.at4 k3 t
 have F:=F.trans (.of ⟨by omega,by omega⟩ k3)
 refine wpAny_bind (wpAny_bind (wpAny_onRaise (wpAny_bind (wpAny_nextOf_list_item Z.r1 (Ru g1 b1 F) hx fun e4 r k4=>wpAny_pure ?_))))
 have Z:=Z.at1 k4 r
 have F:=F.trans (.of ⟨by omega,by omega⟩ k4)
 refine wpAny_bind (wpAny_seqItems Z.to rfl (wpAny_bind (put3 Z.to fun e5 t k5=>wpAny_bind (wpAny_letGo (wpAny_pure ?_)))))
 have Z:=Z.at4 k5 t
 have F:=F.trans (.of ⟨by omega,by omega⟩ k5)
 refine wpAny_bind (wpAny_bind (wpAny_onRaise (wpAny_bind (wpAny_nextOf_list_item Z.r2 (Ru g2 b2 F) hy fun e6 r k6=>wpAny_pure ?_))))
 have Z:=Z.at2 k6 r
 have F:=F.trans (.of ⟨by omega,by omega⟩ k6)
 refine wpAny_bind (wpAny_seqItems Z.to rfl (wpAny_bind (put3 Z.to fun e7 t k7=>wpAny_bind (wpAny_letGo (wpAny_pure (wpAny_pure ?_))))))
 have Z:=Z.at4 k7 t
 have F:=F.trans (.of ⟨by omega,by omega⟩ k7)
 have hsz:e7.objs.size=s.heap.objs.size:=k7.1.trans (k6.1.trans (k5.1.trans (k4.1.trans (k3.1.trans (k2.1.trans k1.1)))))
 clear r t k1 k2 k3 k4 k5 k6 k7 z1
 refine wpAny_bind (wpAny_seqItems Z.to rfl (wpAny_bind (wpAny_newTuple ?_)))
 have big:N+5<e7.objs.size:=agr Z.z
 show wpAny _ _ (SmallTypes.ownedTupleHandOut (.ref (N+5)) (.ref e7.objs.size)>>=_) _ _ _
 unfold SmallTypes.ownedTupleHandOut
 have Z:=Z.up (h':=e7.push (KY [.int i s.toks,x,y])) fun p o e=>agc _ e
 have T8:(e7.push (KY [.int i s.toks,x,y])).get? e7.objs.size=some (KY [.int i s.toks,x,y]):=agl _ rfl
 have F:=F.trans (h₃:=e7.push (KY [.int i s.toks,x,y])) fun p o _ e=>agc _ e
 refine wpAny_bind (wpAny_bind (wpAny_setField_rec Z.z (by simp) fun e9 z9 k9=>wpAny_setField_rec z9 (by simp) fun f z k=>wpAny_pure ⟨_,rfl,?_⟩))
 have Z:=(Z.at5 k9 z9).at5 k z
 have T:=k.extBut _ _ (by simp only [Addr] at big ⊢;omega) (k9.extBut _ _ (by simp only [Addr] at big ⊢;omega) T8)
 have F:=(F.trans (.of ⟨by omega,by omega⟩ k9)).trans (.of ⟨by omega,by omega⟩ k)
 rw [hsz] at Z T ⊢
 exact q f Z T F
theorem aa7 {α:Type}{Q:α->Shared->Prop}(hh:A.handled=none)(hE:∀ h' e,(∀ b o,s.heap.get? b=some o->h'.get? b=some o)->(∃ o,h'.get? e=some o/\o.cls=.type "StopIteration")->E (.ref e) { s with heap:=h' }):
  wpAny (model prog w) A (newExc (.type "StopIteration") []>>=raiseNew (α:=α)) Q E s:=by
 simp only [newExc,newTuple];refine wpAny_bind (wpAny_bind (wpAny_newObj_type (wpAny_bind (m:=firstArgMember _ _) (wpAny_of_eq (a:=Value.none) (by first| rfl| (simp only [firstArgMember];rfl)) (wpAny_newObj_type ?_ (by size_fits)))) (by size_fits)))
 unfold raiseNew;refine wpAny_bind (wpAny_handled ?_);rw [hh];exact wpAny_bind (wpAny_pure (wpAny_throw (hE _ _ (fun b o e=>agc _ (agc _ e)) ⟨_,agl _ rfl,rfl⟩)))
theorem Ul {it:Addr}{x left:Int}{Q:Value->Shared->Prop}(hh:A.handled=none)(hit:IsRangeIter s.heap it x left 1)(hl:left<=0)
  (hE:∀ h' e,(∀ b o,s.heap.get? b=some o->h'.get? b=some o)->(∃ o,h'.get? e=some o/\o.cls=.type "StopIteration")->E (.ref e) { s with heap:=h' }):wpAny (model prog w) A (SmallTypes.nextOf (.ref it)) Q E s:=by
 have ty:s.TypeIs (.ref it) "range_iterator":=⟨_,hit,rfl⟩;unfold SmallTypes.nextOf;refine wpAny_bind (wpAny_callSpecial?_slot ty ahC (wpAny_call_entry ahC ty F.entry_range_iterator_next ?_ (F.args_range_iterator_next_1 _)));show wpAny _ _ (field (.ref it) 0 >>=fun _=>_) _ _ s;refine wpAny_bind (wpAny_field hit rfl (x:=rawInt x) rfl ?_);show wpAny _ _ (field (.ref it) 1 >>=fun _=>_) _ _ s;refine wpAny_bind (wpAny_field hit rfl (x:=rawInt left) rfl ?_);show wpAny _ _ (field (.ref it) 2 >>=fun _=>_) _ _ s;refine wpAny_bind (wpAny_field hit rfl (x:=rawInt 1) rfl ?_);show wpAny _ _ (if left<=0 then _ else _) _ _ s;rw [if_pos hl];exact wpAny_bind (wpAny_rule (wpAny_bind (aa7 hh hE)))
theorem acs {N l1 l2 n i:Nat}{a b c:Value}{Q:Fin->Shared->Prop}(hh:A.handled=none)(Z:Z3 N l1 l2 n .none a b c i i i s.heap)(hi:n<=i)
  (hE:∀ h' e,Fr3 N s.heap h'->(∃ o,h'.get? e=some o/\o.cls=.type "StopIteration")->E (.ref e) { s with heap:=h' }):wpAny (model prog w) A (Builtin.«zip.__next__» ⟨[.ref (N+5)],[]⟩) Q E s:=by
 show wpAny _ _ (field (.ref (N+5)) 2 >>=_) _ _ _;refine wpAny_bind (wpAny_field Z.z rfl (x:=.bool false) rfl ?_);show wpAny _ _ (field (.ref (N+5)) 3 >>=_) _ _ _;refine wpAny_bind (wpAny_field Z.z rfl (x:=.ref (N+3)) rfl (wpAny_bind (wpAny_seqItems Z.ti rfl ?_)));show wpAny _ _ (SmallTypes.ownedTupleIsFree (.ref (N+5))>>=_) _ _ _;unfold SmallTypes.ownedTupleIsFree;refine wpAny_bind (wpAny_bind (wpAny_field Z.z rfl (x:=.none) rfl (wpAny_pure ?_)));simp only [if_true];refine wpAny_bind (wpAny_rule (wpAny_bind (wpAny_field Z.z rfl (x:=.ref (N+4)) rfl (wpAny_bind (wpAny_setField_rec Z.z (by simp) fun e1 z1 k1=>?_)))));have Z:=Z.at5 k1 z1;have F:=Fr3.of (N:=N) ⟨by omega,by omega⟩ k1;refine wpAny_bind ?_;simp only [List.zipIdx_cons,List.zipIdx_nil,List.forIn_cons,List.forIn_nil];refine wpAny_bind (wpAny_bind (wpAny_onRaise (wpAny_bind (Ul hh Z.r0 (by omega) fun e2 e k2 he=>?_))));obtain ⟨o,ho,hc⟩:=he;have Z:=Z.up k2;refine wpAny_setField_rec Z.z (by simp) fun e3 z3 k3=>hE e3 e ((F.trans fun p o _ e=>k2 p o e).trans (.of ⟨by omega,by omega⟩ k3)) ⟨o,k3.extBut _ _ (fun z=>?_) ho,hc⟩;rw [z] at ho;have:=Z.z.symm.trans ho;cases this;simp at hc
theorem aaS {N l1 l2 n i:Nat}{a b c x y:Value}{xs ys:Array Value}{Q:Option Value->Shared->Prop}(Z:Z3 N l1 l2 n .none a b c i i i s.heap)(hi:i<n)(b1:l1<N)(b2:l2<N)
  (g1:s.heap.IsList l1 xs)(g2:s.heap.IsList l2 ys)(hx:xs[i]?=some x)(hy:ys[i]?=some y)
  (q:∀ h',Z3 N l1 l2 n (rawInt s.heap.objs.size) (.int i s.toks) x y (i+1) (i+1) (i+1) h'->h'.get? s.heap.objs.size=some (KY [.int i s.toks,x,y])->Fr3 N s.heap h'->Q (some (.ref s.heap.objs.size)) { s with heap:=h',toks:=s.toks+1 }):
  wpAny (model prog w) A (pyNext (.ref (N+5))) Q E s:=by
 have ty:s.TypeIs (.ref (N+5)) "zip":=⟨_,Z.z,rfl⟩
 unfold pyNext
 exact wpAny_bind (wpAny_attempt (wpAny_callSpecial?_slot ty F.slot_zip_next (wpAny_call_entry F.slot_zip_next ty F.entry_zip_next (aaT Z hi b1 b2 g1 g2 hx hy fun h' p1 p2 p3=>wpAny_pure (q h' p1 p2 p3)) (F.args_zip_next_1 _))))
theorem aaR {N l1 l2 n i:Nat}{a b c:Value}{Q:Option Value->Shared->Prop}(hh:A.handled=none)(Z:Z3 N l1 l2 n .none a b c i i i s.heap)(hi:n<=i)(q:∀ h',Fr3 N s.heap h'->Q none { s with heap:=h' }):
  wpAny (model prog w) A (pyNext (.ref (N+5))) Q E s:=by
 have ty:s.TypeIs (.ref (N+5)) "zip":=⟨_,Z.z,rfl⟩;unfold pyNext;refine wpAny_bind (wpAny_attempt (wpAny_callSpecial?_slot ty F.slot_zip_next (wpAny_call_entry F.slot_zip_next ty F.entry_zip_next (acs hh Z hi fun h' e k he=>?_) (F.args_zip_next_1 _))));obtain ⟨o,ho,hc⟩:=he;exact wpAny_bind (wpAny_isInstance (T:="StopIteration") (b:=true) ⟨o,ho,hc⟩ isSubtype_stop (wpAny_pure (q _ k)))
end
abbrev z3R (h:Heap)(m:Int):Heap:=h.push { cls:=.type "range_iterator",data:=.fields #[rawInt 0,rawInt (Range.rangeSize 0 m 1),rawInt 1] }
abbrev z3A (h:Heap)(m:Int)(l1:Addr):Heap:=(z3R h m).push { cls:=.type "list_iterator",data:=.fields #[.ref l1,.int 0 0] }
abbrev z3B (h:Heap)(m:Int)(l1 l2:Addr):Heap:=(z3A h m l1).push { cls:=.type "list_iterator",data:=.fields #[.ref l2,.int 0 0] }
abbrev z3I (h:Heap)(m:Int)(l1 l2:Addr):Heap:=(z3B h m l1 l2).push (KY [.ref h.objs.size,.ref (z3R h m).objs.size,.ref (z3A h m l1).objs.size])
abbrev z3O (h:Heap)(m:Int)(l1 l2:Addr):Heap:=(z3I h m l1 l2).push (KY [.none,.none,.none])
abbrev z3Z (h:Heap)(m:Int)(l1 l2:Addr):Heap:=(z3O h m l1 l2).push (aez .none (z3B h m l1 l2).objs.size (z3I h m l1 l2).objs.size)
theorem acr (r l1 l2:Addr)(m:Int)(t u v:Tok)(xs ys:Array Value)(hs:Range.small 0 m 1=true):
  Meets (Builtin.«zip.__new__» ⟨[.type "zip",.ref r,.ref l1,.ref l2],[]⟩) (fun _ R s=>IsRange s.heap r 0 m 1 t u v/\s.heap.IsList l1 xs/\s.heap.IsList l2 ys/\R (.ok (.ret (.ref (z3O s.heap m l1 l2).objs.size))) { s with heap:=z3Z s.heap m l1 l2 }):=
 .of_wp fun prog w A R s h=>by
  obtain ⟨hp,g,d,tk,os⟩:=s;obtain ⟨hr,h1,h2,h⟩:=h;have sub:=sub_zip;have R0:IsRange (Shared.heap ⟨hp,g,d,tk,os⟩) r 0 m 1 t u v:=hr;have L1:Heap.IsList (Shared.heap ⟨z3R hp m,g,d,tk,os⟩) l1 xs:=h1.push _;have L2':Heap.IsList (Shared.heap ⟨z3A hp m l1,g,d,tk,os⟩) l2 ys:=(h2.push _).push _;wp_walk using wpAny_pyIter_range R0 hs,wpAny_pyIter_list L1,wpAny_pyIter_list L2';exact ⟨_,rfl,h⟩
theorem Ph (a b c:Value):checkTypeCall "zip" ⟨[a,b,c],[]⟩=pure ():=by kernel_rfl
theorem Nx (a b c:Value):checkBuiltinCall "zip.__new__" ⟨[.type "zip",a,b,c],[]⟩=pure ():=by kernel_rfl
theorem JM (o a b c:Value):argsOk "object.__init__" ⟨[o,a,b,c],[]⟩:=by
 unfold argsOk;rw [signature?_of (id:="object.__init__") (n:=['_','_','t','i','n','i','_','_']) (o:=['t','c','e','j','b','o']) (by kernel_rfl) F.owner_object];kernel_rfl
section
variable {prog:Program}{w:World}{A:Around}{E:Value->Shared->Prop}{s:Shared}
theorem aaU {r l1 l2:Addr}{n:Nat}{t u v:Tok}{xs ys:Array Value}{Q:Value->Shared->Prop}(hn:(n:Int)<2 ^ 62)(hr:IsRange s.heap r 0 n 1 t u v)(h1:s.heap.IsList l1 xs)(h2:s.heap.IsList l2 ys)
  (q:∀ h',Z3 s.heap.objs.size l1 l2 n .none .none .none .none 0 0 0 h'->h'.objs.size=s.heap.objs.size+6->(∀ (b:Nat)(o:Obj),s.heap.get? b=some o->h'.get? b=some o)->Q (.ref (s.heap.objs.size+5)) { s with heap:=h' }):
  wpAny (model prog w) A (call (.type "zip") [.ref r,.ref l1,.ref l2]) Q E s:=by
 refine callType_new F.called_zip (by decide) (Ph _ _ _) (Nx _ _ _) (fun o=>JM o _ _ _) F.entry_zip_new (acr r l1 l2 n t u v xs ys (small_one (by omega) (by omega) (by omega) hn)) ⟨hr,h1,h2,?_⟩
 have c1:(z3R s.heap n).objs.size=s.heap.objs.size+1:=ahg ..
 have c2:(z3A s.heap n l1).objs.size=s.heap.objs.size+2:=by rw [ahg,c1]
 have c3:(z3B s.heap n l1 l2).objs.size=s.heap.objs.size+3:=by rw [ahg,c2]
 have c4:(z3I s.heap n l1 l2).objs.size=s.heap.objs.size+4:=by rw [ahg,c3]
 have c5:(z3O s.heap n l1 l2).objs.size=s.heap.objs.size+5:=by rw [ahg,c4]
 have c6:(z3Z s.heap n l1 l2).objs.size=s.heap.objs.size+6:=by rw [ahg,c5]
 have up:∀ {h:Heap}{o':Obj}{b:Nat}{o:Obj},h.get? b=some o->(h.push o').get? b=some o:=fun e=>agc _ e
 have d0:(z3Z s.heap n l1 l2).get? s.heap.objs.size=some _:=up (up (up (up (up (agl _ rfl)))))
 have d1:(z3Z s.heap n l1 l2).get? (z3R s.heap n).objs.size=some _:=up (up (up (up (agl _ rfl))))
 have d2:(z3Z s.heap n l1 l2).get? (z3A s.heap n l1).objs.size=some _:=up (up (up (agl _ rfl)))
 have d3:(z3Z s.heap n l1 l2).get? (z3B s.heap n l1 l2).objs.size=some _:=up (up (agl _ rfl))
 have d4:(z3Z s.heap n l1 l2).get? (z3I s.heap n l1 l2).objs.size=some _:=up (agl _ rfl)
 have d5:(z3Z s.heap n l1 l2).get? (z3O s.heap n l1 l2).objs.size=some _:=agl _ rfl
 have keep:∀ (b:Nat)(o:Obj),s.heap.get? b=some o->(z3Z s.heap n l1 l2).get? b=some o:=fun b o e=>up (up (up (up (up (up e)))))
 show _/\_
 rw [c1] at d1
 rw [c2] at d2
 rw [c1,c2,c3] at d3
 rw [c4] at d4
 rw [c3,c4,c5] at d5
 rw [c5]
 have rs:Range.rangeSize 0 (n:Int) 1=(n:Int) - ((0:Nat):Int):=by rw [rangeSize_one];split <;>omega
 rw [rs] at d0
 exact ⟨⟨_,d5,rfl⟩,q _ ⟨d5,d3,d4,d0,⟨_,d1,rfl,rfl⟩,⟨_,d2,rfl,rfl⟩⟩ c6 keep⟩
end
end L2
namespace L2
open PySem PySem.Spec PyProof.Rows PySem.Builtin
section
variable {X:Cx}
def aek (K:PySem.W.Frag)(l1 l2:Addr)(n:Nat)(xs ys:List V):It:=
 ⟨fun i H=>SqL K H l1 xs/\SqL K H l2 ys/\i<n/\i<xs.length/\i<ys.length,fun i H x H'=>∃ T a b,x=.ref T/\H T=none/\xs[i]?=some a/\ys[i]?=some b/\H'=upd H T (.tup [.int (i:Int),a,b]),fun i _=>n<=i⟩
def Z3At (N l1 l2 n:Nat)(i:Nat)(h:Heap):Prop:=∃ a b c,Z3 N l1 l2 n .none a b c i i i h
abbrev six (N:Nat):List Addr:=[N+5,N,N+1,N+2,N+3,N+4]
theorem Wf {N:Nat}{p:Addr}(h:p∈six N):N<=p/\p<=N+5:=by
 simp only [six,agu,agR,or_false] at h;simp only [Addr] at h ⊢;omega
theorem Wm {N:Nat}{p:Addr}(h:N<=p/\p<=N+5):p∈six N:=by
 simp only [six,agu,agR,or_false];simp only [Addr] at h ⊢;omega
theorem aeY (N:Nat):N+5∈six N:=by simp [six]
theorem six0 (N:Nat):N∈six N:=by simp [six]
theorem six1 (N:Nat):N+1∈six N:=by simp [six]
theorem six2 (N:Nat):N+2∈six N:=by simp [six]
theorem six3 (N:Nat):N+3∈six N:=by simp [six]
theorem six4 (N:Nat):N+4∈six N:=by simp [six]
theorem Pu {P:Program}{w:World}{K:PySem.W.Frag}{elts:List Expr}{kk:Nat}{tpos:Pos}{N l1 l2 n:Nat}{xs ys:List V}(b1:l1<N)(b2:l2<N):
  Turn P w K (.Tuple elts kk tpos) (aek K l1 l2 n xs ys) (six N) (N+5) (Z3At N l1 l2 n) where
 mem:=aeY N;obj:=fun i h ⟨a,b',c,Z⟩ b hb=>by
  obtain ⟨o1,e1,-,d1⟩:=Z.r1;obtain ⟨o2,e2,-,d2⟩:=Z.r2;simp only [six,agu,agR,or_false] at hb;rcases hb with rfl| rfl| rfl| rfl| rfl| rfl
  ·exact ⟨_,Z.z,fun v z=>nomatch z⟩
  ·exact ⟨_,Z.r0,fun v z=>nomatch z⟩
  ·exact ⟨o1,e1,fun v z=>by rw [d1] at z;cases z⟩
  ·exact ⟨o2,e2,fun v z=>by rw [d2] at z;cases z⟩
  ·exact ⟨_,Z.ti,fun v z=>nomatch z⟩
  ·exact ⟨_,Z.to,fun v z=>nomatch z⟩
 keep:=fun i h h' ⟨a,b,c,Z⟩ k=>⟨a,b,c,k _ (aeY N) _ Z.z,k _ (six3 N) _ Z.ti,k _ (six4 N) _ Z.to,k _ (six0 N) _ Z.r0,Z.r1.at fun o e=>k _ (six1 N) o e,Z.r2.at fun o e=>k _ (six2 N) o e⟩;item:=by
  intro X hP hw hK hc i pins s σ H E I hf ⟨a,b,c,Z⟩ hg;subst hP hw hK;obtain ⟨q1,q2,hn,hi1,hi2⟩:=hg;obtain ⟨its1,rv1,pl1,-⟩:=I.list q1;obtain ⟨its2,rv2,pl2,-⟩:=I.list q2;obtain ⟨u1,hu1,ru1⟩:=rv1.get (af9 hi1);obtain ⟨u2,hu2,ru2⟩:=rv2.get (af9 hi2);have big:N+5<s.heap.objs.size:=agr Z.z;refine aaS Z hn b1 b2 pl1.isList pl2.isList (x:=u1) (y:=u2) (by simpa using hu1) (by simpa using hu2) fun h' Z' T' F'=>⟨_,rfl,wpAny_letOwnedTupleGo_zip (TI:=N+3) (TO:=N+4) (s:={ s with heap:=h',toks:=s.toks+1 }) Z'.z fun h'' hz hs=>?_⟩;have out:∀ b,b ∉ six N->b<N\/N+5<b:=fun b hb=>by
   by_cases h:N<=b/\b<=N+5
   ·exact absurd (Wm h) hb
   ·simp only [Addr] at h ⊢;omega
  have I1:Inv X pins σ H { s with heap:=h'',toks:=s.toks+1 }:=I.sO (t':=s.toks+1) (ch:=six N) (fun b o hb e=>hs.extBut b o (fun x=>hb (x ▸ aeY N)) (F' b o (out b hb) e)) hf;obtain ⟨F0,F1,F2,F3,F4,F5⟩:=I.G9 (H':=H) (agb _) (I.hok.fresh (agb _));have hT:PyProof.Rows.IsTup h'' s.heap.objs.size #[.int (i:Int) s.toks,u1,u2]:=⟨_,hs.extBut _ _ (by simp only [Addr] at big ⊢;omega) T',rfl,_,rfl⟩;have I2:Inv X pins σ (upd H s.heap.objs.size (.tup [.int (i:Int),xs[i],ys[i]])) { s with heap:=h'',toks:=s.toks+1 }:=I1.adopt F0 F1 I.sz F4 F5 (show gR X.prog X.w _ h'' _ (.tup [.int (i:Int),xs[i],ys[i]]) from ⟨by rw [sizeLine_eq];simp,[.int (i:Int) s.toks,u1,u2],.cons ⟨_,rfl⟩ (.cons ru1 (.cons ru2 .nil)),hT⟩);refine ⟨.ref s.heap.objs.size,_,I2,rfl,⟨_,_,_,rfl,F0,af9 hi1,af9 hi2,rfl⟩,⟨_,_,_,Z'.at5 hs hz⟩,fun b hb=>?_⟩;rw [aN]
  ·exact (hf b hb).1
  ·have:=Wf hb;simp only [Addr] at this big ⊢;omega
 done:=by
  intro X hP hw hK hc i pins s σ H E I hf ⟨a,b,c,Z⟩ hg;subst hP hw hK;refine aaR (I.ok.hd hc) Z hg fun h' F'=>⟨rfl,I.sO (t':=s.toks) (ch:=six N) (fun b o hb e=>F' b o ?_ e) hf⟩;by_cases h:N<=b/\b<=N+5
  ·exact absurd (Wm h) hb
  ·simp only [Addr] at h ⊢;omega
 self:=fun _ _ _ _ _ ⟨_,_,_,Z⟩ h=>wpAny_pyIter_zip (TI:=N+3) (TO:=N+4) Z.z h
theorem VB:vQ X (.type "range") (fun xs H Q=>∃ n:Int,xs=[.int n]/\∀ l,H l=none->Q (.ref l) (upd H l (.rng 0 n))):=by
 intro pins s σ H xs us Q I r h;obtain ⟨n,rfl,q⟩:=h;obtain ⟨u,rfl,t,rfl⟩:=vals1 r;refine call_range_1 ⟨.ref s.heap.objs.size,_,I.laid (t':=s.toks+1+1) (o:=.rng 0 n) (fun b o e=>agc _ e) (agb _) ?_,rfl,q _ (I.hok.fresh (agb _))⟩;exact ⟨_,_,_,agl _ rfl⟩
def afq (K:PySem.W.Frag)(ta:TA):TI:=fun σ H R=>ta σ H fun vs H1=>∃ r l1 l2 n xs ys,vs=[.ref r,.ref l1,.ref l2]/\H1 r=some (.rng 0 ((n:Nat):Int))/\n<1000000/\SqL K H1 l1 xs/\SqL K H1 l2 ys/\R (aek K l1 l2 n xs ys) H1
theorem abo {elts:List Expr}{kk:Nat}{tpos:Pos}{a b c:Expr}{ta:TA}{p pos:Pos}(hg:Gl X "zip")(hm:X.mg "zip"=none)(ha:PA X [a,b,c] ta)
  (hs:starEach [a,b,c] X.env=(false,eval a X.env)::starEach [b,c] X.env:=by rfl)(hs2:(backTo pos (starEach [b,c] X.env)).any (·.1)=false:=by rfl):
  PI X (.Tuple elts kk tpos) (.Call (.Name "zip" p) [a,b,c] [] pos) (afq X.K ta):=by
 intro pins s σ H R I h
 refine Call_ (nj I hg hm boot_zip (agJ (thn (ha pos pins s σ H _ I h) fun us s1 ⟨vs,H1,I1,r1,q1⟩=>?_) hs hs2))
 obtain ⟨r,l1,l2,n,xs,ys,rfl,hr,hn,q1,q2,q⟩:=q1
 cases r1 with
 | cons v0 r1=>cases r1 with
  | cons v1 r1=>cases r1 with
   | cons v2 r1 =>
    cases r1
    cases v0
    cases v1
    cases v2
    obtain ⟨t,u,v,er⟩:=I1.hok r _ hr
    obtain ⟨its1,rv1,pl1,-⟩:=I1.list q1
    obtain ⟨its2,rv2,pl2,-⟩:=I1.list q2
    refine aaU (n:=n) (by omega) er pl1.isList pl2.isList fun h' Z hz hk=>?_
    have b1:l1<s1.heap.objs.size:=by obtain ⟨o,e,-⟩:=pl1.isList;exact agr e
    have b2:l2<s1.heap.objs.size:=by obtain ⟨o,e,-⟩:=pl2.isList;exact agr e
    refine wpAny_pyIter_zip (TI:=s1.heap.objs.size+3) (TO:=s1.heap.objs.size+4) Z.z ⟨_,six s1.heap.objs.size,_,_,H1,rfl,I1.kept (t':=s1.toks) hk,Pu (n:=n) (xs:=xs) (ys:=ys) b1 b2,⟨_,_,_,Z⟩,fun b hb=>?_,q⟩
    have hb':=(Wf hb).1
    exact I1.G9 hb' (I1.hok.fresh hb')
theorem Vp {K:PySem.W.Frag}{l1 l2:Addr}{n:Nat}{xs ys:List V}{g:TG}{tb:TS}{D:Ends}{σ:St}{H:Hp}(Pv:Nat->St->Hp->Prop)(h0:Pv 0 σ H)(hx:n<=xs.length)(hy:n<=ys.length)(hl:∀ i σ H,i<=n->Pv i σ H->SqL K H l1 xs/\SqL K H l2 ys)
  (hs:∀ i a b T σ H,i<n->xs[i]?=some a->ys[i]?=some b->Pv i σ H->H T=none->g (.ref T) σ (upd H T (.tup [.int (i:Int),a,b])) fun σ2 H2=>tb { D with nx:=Pv (i+1),ct:=Pv (i+1),bk:=D.nx } σ2 H2)(hd:∀ σ H,Pv n σ H->D.nx σ H):
  ∃ W:Nat->Nat->St->Hp->Prop,(∃ m,W 0 m σ H)/\∀ i m σ H,W i m σ H ->
   ((aek K l1 l2 n xs ys).stop i H/\D.nx σ H)\/((aek K l1 l2 n xs ys).go i H/\∃ N:St->Hp->Prop,(∀ σ' H',N σ' H'->∃ m',m'<m/\W (i+1) m' σ' H')/\∀ x H',(aek K l1 l2 n xs ys).yld i H x H'->g x σ H' fun σ2 H2=>tb { D with nx:=N,ct:=N,bk:=D.nx } σ2 H2):=by
 refine ⟨fun i m σ H=>m=n - i/\i<=n/\Pv i σ H,⟨n,by simp,agN _,h0⟩,?_⟩
 rintro i m σ H ⟨rfl,hi,p⟩
 obtain ⟨q1,q2⟩:=hl i σ H hi p
 by_cases hlt:i<n
 ·refine .inr ⟨⟨q1,q2,hlt,by omega,by omega⟩,Pv (i+1),fun σ' H' p'=>⟨n - (i+1),by omega,rfl,hlt,p'⟩,fun x H' z=>?_⟩
  obtain ⟨T,a,b,rfl,hT,ha,hb,rfl⟩:=z
  exact hs i a b T σ _ hlt ha hb p hT
 ·have e:i=n:=by omega
  subst e
  exact .inl ⟨agb _,hd σ H p⟩
end
end L2
namespace L2
open PySem PySem.W PySem.Spec PyProof.Rows
theorem bY.strs {K:PySem.W.Frag}{H:Hp}:∀ xs:List Str,bY K H (xs.map V.str) (xs.map PyData.str)
 | []=>.nil
 | x::xs=>.cons (.str x) (bY.strs xs)
end L2
namespace L2
open PySem PySem.Spec PyProof.Rows
section
variable {X:Cx}{k:Nat}{f C:Addr}{fd:FuncData}{ps:List Str}{sp:Sp}{dvs:List V}{ds:List Value}{x:Str}{p pos:Pos}{e:Expr}{es:List Expr}{t:TA}
def aeA (C:Addr)(sp:Sp)(dvs:List V)(t:TA):St->Hp->VK->XK->Prop:=fun σ H Q Ex=>t σ H fun vs H1=>∀ x dx,H1 x=none->H1 dx=none->dx≠x->sp (.ref x::(vs++dvs)) (upd (upd H1 dx (.own x)) x (.ins C dx [])) (fun v H2=>v=.non/\Q (.ref x) H2) Ex
theorem aaV (M:Mk X.K C f)(F:Hf X.prog X.w X.K X.mg X.base (CXE X.prog X.w) k f fd ps sp)(hr:sJ (k+1) X.A)(hg:Gl X x)(hm:X.mg x=some (.ref C))(hb:Binds X.K fd ps ds)(hd:Vals dvs ds)
  (ha:PA X.nox (e::es) t)(hdb:(x ==("__debug__":Str))=false:=by decide)(he:starEach (e::es) X.env=(false,eval e X.env)::starEach es X.env:=by rfl)(hpl:(backTo pos (starEach es X.env)).any (·.1)=false:=by rfl):
  PEx X (.Call (.Name x p) (e::es) [] pos) (aeA C sp dvs t):=by
 intro pins s σ H Q Ex I h
 refine wpAny_Call_Name_kw (uf I hg hm ?_ hdb)
 refine ahz (h₀:=X.base) I.ok.mod.kin M.kp (wpAny_mono (ha pos pins s σ H _ (I.wish _) h) (fun us s1 ⟨vs,H1,I1,r,q⟩=>?_) fun _ _ z=>z.elim) he hpl
 have I1:=I1.vR
 refine ⟨I1.kIn,?_⟩
 have hq:=q (s1.heap.objs.size+1) s1.heap.objs.size (I1.hok.fresh (Nat.le_succ _)) (I1.hok.fresh (agb _)) (agM (ahM _))
 have I2:=Inv.made (C:=C) I1
 have r2:Vals (V.ref (s1.heap.objs.size+1)::(vs++dvs)) (Value.ref (s1.heap.objs.size+1)::(us++ds)):=.cons rfl (r.append hd)
 have hl:(Value.ref (s1.heap.objs.size+1)::us++ds).length=ps.length:=by
  have e:=r2.length
  rw [F.len _ _ _ _ hq] at e
  exact e.symm
 refine wpAny_call (MF (f:=f) I1.kIn M.makes M.init (beq_iff_eq.mp M.fn) (codeAny_mono (F.run _ X.stack _ _ ⟨Value.ref (s1.heap.objs.size+1)::us,[]⟩ (Value.ref (s1.heap.objs.size+1)::(us++ds)) _ _ (Ex σ) (hr.make C us [])
  (I2.env0.make C us []) (hb _ (Value.ref (s1.heap.objs.size+1)::us) I2.kIn hl) r2 hq) fun r s' hq'=>?_))
 cases r with
 | error ev=>exact ⟨σ,_,_,I2,hq'⟩
 | ok fl =>
  cases fl with
  | ret u =>
   obtain ⟨v,H',I3,rv,ev,q3⟩:=I2.after hq'
   subst ev
   exact ⟨rv,⟨V.ref (s1.heap.objs.size+1),H',I3,rfl,q3⟩⟩
  | next=>exact False.elim hq'
  | brk=>exact False.elim hq'
  | cont=>exact False.elim hq'
end
section
variable {X:Cx}{e:Expr}{es:List Expr}{te:TE}{t:TA}
def Wh:Expr->Bool
 | .Starred ..=>false
 | _=>true
theorem Ob (e:Expr)(h:Wh e=true)(es:List Expr)(env:Env):starEach (e::es) env=(false,eval e env)::starEach es env:=by
 cases e <;>first| rfl| cases h
theorem ae4 (ha:PE X e te)(hr:PA X es t)(h:Wh e=true:=by rfl):PA X (e::es) (Ug te t):=aq ha hr (Ob e h es X.env)
end
structure ClF (K:PySem.W.Frag)(C f:Addr)(m:Str):Prop where
 ga:PySem.W.specialIn K (.ref C) "__getattribute__"=some (some (.builtin "type.__getattribute__"))
 rd:readsIn K C (.type "type")=true
 fc:findCls K (.ref C) (.type "type") m=some (.val (.ref f))
 kp:keepIn K (.ref f)=true
section
variable {X:Cx}{CX:CXT}{k:Nat}{f C:Addr}{fd:FuncData}{ps:List Str}{sp:Sp}{dvs:List V}{ds:List Value}{E:XK}{x m:Str}{p pos apos:Pos}{e:Expr}{es:List Expr}{t:TA}
theorem abt {pl:Sem Bool}(hg:Gl X x)(hmg:X.mg x=some (.ref C))(hc:ClF X.K C f m)(F:Hf X.prog X.w X.K X.mg X.base CX k f fd ps sp)(hr:sJ k X.A)(hb:Binds X.K fd ps ds)(hd:Vals dvs ds)(hx:Passes CX X E)(ha:PA X (e::es) t)
  (hdb:(x ==("__debug__":Str))=false:=by decide)(hst:starEach (e::es) X.env=(false,eval e X.env)::starEach es X.env:=by rfl)(hpl:(backTo pos (starEach es X.env)).any (·.1)=false:=by rfl)
  (ht:eval (.Call (.Attribute (.Name x p) m apos) (e::es) [] pos) X.env=(do
   let ov <- eval (.Name x p) X.env
   standAt apos.atName
   let (f,first)<- holding [ov] (getMethod ov m pl)
   callWith pos f first (backTo pos (starEach (e::es) X.env)) (backToKw pos (keywordEach [] X.env))):=by rfl):
  PE X (.Call (.Attribute (.Name x p) m apos) (e::es) [] pos) (aa6 sp dvs E t):=by
 intro pins s σ H Q I h
 refine methodCall_KW (pl:=pl) (uf I hg hmg ?_ hdb) ht
 refine PySem.W.method_cls I.kIn hc.ga (PySem.W.cls_value I.kIn hc.rd hc.fc rfl ?_)
 refine ahz (first:=[]) (h₀:=X.base) I.ok.mod.kin hc.kp (thn (ha pos pins _ σ H _ (I.tok _) h) fun us s2 ⟨vs,H2,I2,r,q2⟩=>⟨I2.kIn,?_⟩) hst hpl
 exact LC (us:=us) (vs:=vs) F hr hb hd hx I2 r q2
end
section
structure DmZ (K:PySem.W.Frag)(C:Addr)(x qual:Str)(st:Stmt)(ps:List Str)(a:Addr)(fd:FuncData):Prop where
 F:∃ t:Tok,VN K x qual st [.int 0 t] a fd/\Binds K fd ps [.int 0 t]
 b0:Binds K fd ps []
 m:Meth K C x a
end
end L2
namespace Rv
def jK (r:List Int):Prop:=∃ rk:Nat->Nat,(∀ i,i<r.length->rk i<r.length) /\
 ∀ (i:Nat)(x:Int),r[i]?=some x->x=-1\/(0<=x/\x<r.length/\rk x.toNat<rk i)
def nxt (r:List Int)(p:Int):Int:=r.getD p.toNat (-1)
theorem lW {r:List Int}{p:Int}(h0:0<=p)(h1:p<r.length):r[p.toNat]?=some (nxt r p):=by
 have h:p.toNat<r.length:=by omega
 unfold nxt;rw [agj,af9 h];rfl
theorem jK.step {r:List Int}(h:jK r){p:Int}(h0:0<=p)(h1:p<r.length):nxt r p=-1\/(0<=nxt r p/\nxt r p<r.length):=by
 obtain ⟨rk,_,h3⟩:=h;rcases h3 _ _ (lW h0 h1) with e| ⟨a,b,_⟩
 ·exact .inl e
 ·exact .inr ⟨a,b⟩
def Br (r:List Int):Nat->Int->List Int
 | 0,_=>[]
 | f+1,p=>if p=-1 then [] else p::Br r f (nxt r p)
def walk (r:List Int)(p:Int):List Int:=Br r (r.length+1) p
theorem yq (r:List Int)(f:Nat):Br r f (-1)=[]:=by
 cases f with
 | zero=>rfl
 | succ f=>unfold Br;rw [if_pos rfl]
theorem vp (r:List Int):walk r (-1)=[]:=yq r _
theorem zY {r:List Int}{rk:Nat->Nat}(h:∀ (i:Nat)(x:Int),r[i]?=some x->x=-1\/(0<=x/\x<r.length/\rk x.toNat<rk i)):
  ∀ (f g:Nat)(p:Int),0<=p->p<r.length->rk p.toNat<f->rk p.toNat<g->Br r f p=Br r g p
 | 0,_,_,_,_,hf,_=>by omega
 | _+1,0,_,_,_,_,hg=>by omega
 | f+1,g+1,p,h0,h1,hf,hg=>by
  unfold Br;rw [if_neg (by omega),if_neg (by omega)];rcases h _ _ (lW h0 h1) with e| ⟨a,b,c⟩
  ·rw [e,yq,yq]
  ·rw [zY h f g _ a b (by omega) (by omega)]
theorem lE {r:List Int}(h:jK r){p:Int}(h0:0<=p)(h1:p<r.length):walk r p=p::walk r (nxt r p):=by
 obtain ⟨rk,h2,h3⟩:=h;show Br r (r.length+1) p=_;unfold Br;rw [if_neg (by omega)];rcases h3 _ _ (lW h0 h1) with e| ⟨a,b,c⟩
 ·rw [e,yq,vp]
 ·have:=h2 p.toNat (by omega);unfold walk;rw [zY h3 r.length (r.length+1) _ a b (by omega) (by omega)]
theorem Hg (r:List Int):∀ (f:Nat)(p:Int),(Br r f p).length<=f
 | 0,_=>agb _
 | f+1,p=>by
  unfold Br;split
  ·exact agN _
  ·exact Nat.succ_le_succ (Hg r f _)
theorem Ua (r:List Int)(p:Int):(walk r p).length<=r.length+1:=Hg r _ _
theorem jK.ind {r:List Int}(h:jK r){P:Int->Prop}(hm:P (-1))(hs:∀ p:Int,0<=p->p<r.length->P (nxt r p)->P p):∀ p:Int,0<=p->p<r.length->P p:=by
 obtain ⟨rk,_,h3⟩:=h;have key:∀ (n:Nat)(p:Int),0<=p->p<r.length->rk p.toNat<n->P p:=by
  intro n
  induction n with
  | zero=>intro p _ _ h;omega
  | succ n ih =>
   intro p h0 h1 h2;refine hs p h0 h1 ?_;rcases h3 _ _ (lW h0 h1) with e| ⟨a,b,c⟩
   ·rw [e];exact hm
   ·exact ih _ a b (by omega)
 exact fun p h0 h1=>key _ p h0 h1 (ahM _)
theorem KJ {r:List Int}(h:jK r):∀ p:Int,0<=p->p<r.length->∀ q∈walk r p,0<=q/\q<r.length:=by
 refine h.ind (P:=fun p=>∀ q∈walk r p,0<=q/\q<r.length) ?_ ?_
 ·intro q hq;rw [vp] at hq;cases hq
 ·intro p h0 h1 ih q hq;rw [lE h h0 h1] at hq;rcases agu.mp hq with e| e
  ·rw [e];exact ⟨h0,h1⟩
  ·exact ih q e
noncomputable def mea (r:List Int)(p:Int):Nat:=(walk r p).length
theorem adu {r:List Int}(h:jK r){p:Int}(h0:0<=p)(h1:p<r.length):mea r (nxt r p)<mea r p:=by
 unfold mea;rw [lE h h0 h1];exact ahM _
structure Ord (k:Nat)(o:List Nat):Prop where
 perm:o.Perm (List.range k)
theorem Ord.len {k:Nat}{o:List Nat}(h:Ord k o):o.length=k:=by rw [h.perm.length_eq,ag0]
theorem Ord.lt {k:Nat}{o:List Nat}(h:Ord k o){j:Nat}(hj:j∈o):j<k:=by
 have:=h.perm.mem_iff.mp hj;exact agK.mp this
theorem Ord.nd {k:Nat}{o:List Nat}(h:Ord k o):o.Nodup:=h.perm.nodup_iff.mpr List.nodup_range
theorem Ord.one:Ord 1 [0]:=⟨List.Perm.refl _⟩
theorem Ord.ins {k:Nat}{o:List Nat}(h:Ord k o)(i:Nat):Ord (k+1) (o.take i++k::o.drop i):=by
 refine ⟨?_⟩;have e:(o.take i++k::o.drop i).Perm (k::o):=by
  have:=(List.perm_middle (a:=k) (l₁:=o.take i) (l₂:=o.drop i));rw [aho] at this;exact this
 refine e.trans ?_;rw [ahI];exact (List.Perm.cons k h.perm).trans (List.perm_append_singleton k (List.range k)).symm
structure Onw (k:Nat)(w:List Int):Prop where
 len:w.length=k
 lt:∀ (j:Nat)(x:Int),w[j]?=some x->x=-1\/(0<=x/\x<j)
theorem Onw.one:Onw 1 [-1]:=⟨rfl,fun j x h=>by
 cases j with
 | zero=>simp at h;exact .inl h.symm
 | succ j=>simp at h⟩
theorem Onw.app {k:Nat}{w:List Int}(h:Onw k w){y:Int}(hy:y=-1\/(0<=y/\y<k)):Onw (k+1) (w++[y]):=by
 refine ⟨by rw [agh,h.len];rfl,fun j x e=>?_⟩;by_cases hj:j<w.length
 ·rw [ahr hj] at e;exact h.lt j x e
 ·rw [ahf (by omega)] at e;have hl:=h.len;have hj':j - w.length=0:=by
   have:=(af4.mp e).1;simp at this;omega
  rw [hj'] at e;simp at e;subst e;rcases hy with e| ⟨a,b⟩
  ·exact .inl e
  ·exact .inr ⟨a,by omega⟩
structure Plc (n:Nat)(o:List Nat)(t:Nat)(pl:List Int):Prop where
 len:pl.length=n
 at_:∀ (a:Nat)(j:Nat),a<t->o[a]?=some j->pl[j]?=some (a:Int)
theorem Plc.start (n:Nat)(o:List Nat)(pl:List Int)(h:pl.length=n):Plc n o 0 pl:=⟨h,fun a j h _=>by omega⟩
theorem Plc.turn {n:Nat}{o:List Nat}{t:Nat}{pl:List Int}(h:Plc n o t pl)(O:Ord n o){j:Nat}(hj:o[t]?=some j):Plc n o (t+1) (pl.set j (t:Int)):=by
 refine ⟨by rw [agG];exact h.len,fun a j' ha e=>?_⟩;by_cases hat:a=t
 ·subst hat;rw [hj] at e;cases e;have hj2:j<n:=O.lt (agd hj);exact ag8 (by rw [h.len];exact hj2)
 ·have hne:j'≠j:=by
   intro z;subst z;obtain ⟨h1,e1⟩:=af4.mp hj;obtain ⟨h2,e2⟩:=af4.mp e;exact hat ((ahy O.nd).mp (e2.trans e1.symm))
  rw [ahu (Ne.symm hne)];exact h.at_ a j' (by omega) e
theorem Plc.all {n:Nat}{o:List Nat}{pl:List Int}(h:Plc n o n pl)(O:Ord n o){k:Nat}(hk:k<n):∃ a:Nat,a<n/\pl[k]?=some (a:Int)/\o[a]?=some k:=by
 have hm:k∈o:=O.perm.mem_iff.mpr (agK.mpr hk);obtain ⟨a,ha,e⟩:=aha hm;have e':o[a]?=some k:=by rw [af9 ha,e]
 have hl:=O.len;exact ⟨a,by omega,h.at_ a k (by omega) e',e'⟩
structure Fnd (n:Nat)(o:List Nat)(_t:Nat)(r:List Int):Prop where
 len:r.length=n
 at_:∀ (i:Nat)(x:Int),r[i]?=some x->x=-1\/∃ (b k j:Nat),x=(b:Int)/\b<n/\o[i]?=some k/\o[b]?=some j/\j<k
theorem Fnd.start (n:Nat)(o:List Nat)(r:List Int)(hl:r.length=n)(h:∀ x∈r,x=-1):Fnd n o 0 r:=⟨hl,fun i x e=>.inl (h x (agd e))⟩
theorem Fnd.turn {n:Nat}{o:List Nat}{t:Nat}{r:List Int}(h:Fnd n o t r){a b k j:Nat}(hb:b<n)(ha:o[a]?=some k)(hj:o[b]?=some j)(hjk:j<k)(t':Nat):Fnd n o t' (r.set a (b:Int)):=by
 refine ⟨by rw [agG];exact h.len,fun i x e=>?_⟩;by_cases hia:i=a
 ·subst hia;have hi:i<r.length:=by
   have:=(af4.mp e).1;rw [agG] at this;exact this
  rw [ag8 hi] at e;cases e;exact .inr ⟨b,k,j,rfl,hb,ha,hj,hjk⟩
 ·rw [ahu (Ne.symm hia)] at e;exact h.at_ i x e
theorem Fnd.same {n:Nat}{o:List Nat}{t:Nat}{r:List Int}(h:Fnd n o t r)(t':Nat):Fnd n o t' r:=⟨h.len,h.at_⟩
theorem Fnd.wN {n:Nat}{o:List Nat}{t:Nat}{r:List Int}(h:Fnd n o t r)(O:Ord n o):jK r:=by
 refine ⟨fun i=>o.getD i 0,fun i hi=>?_,fun i x e=>?_⟩
 ·have hl:=O.len;have hi':i<o.length:=by rw [hl,<- h.len];exact hi
  show o.getD i 0<r.length;rw [agj,af9 hi',h.len];exact O.lt (ahd hi')
 ·rcases h.at_ i x e with z| ⟨b,k,j,rfl,hb,h1,h2,h3⟩
  ·exact .inl z
  ·refine .inr ⟨by omega,by rw [h.len];omega,?_⟩;show o.getD (b:Int).toNat 0<o.getD i 0;rw [agm,agj,agj,h1,h2];exact h3
def stp (r:List Int)(p:Int):Int:=if p=-1 then -1 else nxt r p
def yj (r:List Int):Nat->Int->Int
 | 0,p=>p
 | f+1,p=>yj r f (stp r p)
theorem K5 (r:List Int):∀ f,yj r f (-1)=-1
 | 0=>rfl
 | f+1=>by
  show yj r f (stp r (-1))=-1;unfold stp;rw [if_pos rfl];exact K5 r f
theorem vA (r:List Int):∀ (f:Nat)(p:Int),yj r (f+1) p=stp r (yj r f p)
 | 0,_=>rfl
 | f+1,p=>by
  show yj r (f+1) (stp r p)=stp r (yj r f (stp r p));exact vA r f (stp r p)
theorem K6 (r:List Int)(p:Int){f:Nat}(h:yj r f p=-1):∀ g,yj r (f+g) p=-1
 | 0=>h
 | g+1=>by
  rw [show f+(g+1)=(f+g)+1 from rfl,vA,K6 r p h g];unfold stp;rw [if_pos rfl]
def inB (r:List Int):Prop:=∀ x∈r,-1<=x/\x<(r.length:Int)
instance (r:List Int):Decidable (inB r):=inferInstanceAs (Decidable (∀ x∈r,-1<=x/\x<(r.length:Int)))
theorem abS {r:List Int}(h:inB r){p:Int}(h0:0<=p)(h1:p<r.length):-1<=nxt r p/\nxt r p<r.length:=h _ (agd (lW h0 h1))
theorem M5 {r:List Int}(h:inB r){p:Int}(h0:0<=p)(h1:p<r.length):∀ f,-1<=yj r f p/\yj r f p<(r.length:Int)
 | 0=>⟨by show -1<=p;omega,h1⟩
 | f+1=>by
  rw [vA];obtain ⟨a,b⟩:=M5 h h0 h1 f;unfold stp;by_cases e:yj r f p=-1
  ·rw [if_pos e];omega
  ·rw [if_neg e];exact abS h (by omega) b
def isR (r:List Int):Bool:=decide (1<=r.length/\r.length<=40) && decide (inB r) && decide (∀ i,i<r.length->yj r r.length (i:Int)=-1)
theorem Nz {r:List Int}(h:jK r):∃ rk:Nat->Nat,∀ p:Int,0<=p->p<r.length->(walk r p).Nodup/\∀ q∈walk r p,rk q.toNat<=rk p.toNat:=by
 obtain ⟨rk,h2,h3⟩:=id h;refine ⟨rk,?_⟩;have key:=h.ind (P:=fun p=>(walk r p).Nodup/\(0<=p->∀ q∈walk r p,rk q.toNat<=rk p.toNat)) ?_ ?_
 ·exact fun p h0 h1=>⟨(key p h0 h1).1,(key p h0 h1).2 h0⟩
 ·rw [vp];exact ⟨List.nodup_nil,fun h=>by omega⟩
 ·intro p h0 h1 ⟨nd,ih⟩;rw [lE h h0 h1];rcases h3 _ _ (lW h0 h1) with e| ⟨a,b,c⟩
  ·rw [e,vp];refine ⟨by simp,fun _ q hq=>?_⟩;have:q=p:=by simpa using hq
   rw [this];exact agb _
  ·have ih':=ih a;refine ⟨ahh.mpr ⟨fun hm=>?_,nd⟩,fun _ q hq=>?_⟩
   ·have:=ih' p hm;omega
   ·rcases agu.mp hq with e| e
    ·rw [e];exact agb _
    ·have:=ih' q e;omega
theorem JN {r:List Int}(h:jK r){p:Int}(h0:0<=p)(h1:p<r.length):(walk r p).Nodup:=by
 obtain ⟨rk,k⟩:=Nz h;exact (k p h0 h1).1
def tot:Nat->(Nat->Int)->Int
 | 0,_=>0
 | n+1,f=>tot n f+f n
theorem sS {n:Nat}{f g:Nat->Int}(h:∀ i,i<n->f i=g i):tot n f=tot n g:=by
 induction n with
 | zero=>rfl
 | succ n ih=>unfold tot;rw [ih fun i hi=>h i (by omega),h n (by omega)]
theorem JQ (n:Nat)(f g:Nat->Int):tot n (fun i=>f i+g i)=tot n f+tot n g:=by
 induction n with
 | zero=>rfl
 | succ n ih=>unfold tot;rw [ih];dsimp only;omega
theorem Bj {n:Nat}{f:Nat->Int}(h:∀ i,i<n->f i=0):tot n f=0:=by
 induction n with
 | zero=>rfl
 | succ n ih=>unfold tot;rw [ih fun i hi=>h i (by omega),h n (by omega)];rfl
theorem Ud (n m:Nat)(f:Nat->Nat->Int):tot n (fun i=>tot m (fun j=>f i j))=tot m (fun j=>tot n (fun i=>f i j)):=by
 induction n with
 | zero=>exact (Bj fun _ _=>rfl).symm
 | succ n ih=>show tot n _+tot m _=_;rw [ih,<- JQ];rfl
theorem PX {n k:Nat}(f:Nat->Int)(hk:k<n):tot n (fun i=>if i=k then f i else 0)=f k:=by
 induction n with
 | zero=>omega
 | succ n ih =>
  unfold tot;dsimp only;by_cases h:k=n
  ·subst h;rw [if_pos rfl,Bj fun i hi=>if_neg (by omega)];omega
  ·rw [ih (by omega),if_neg (fun (z:n=k)=>h z.symm)];omega
theorem aa1 (n:Nat)(c:Int)(f:Nat->Int):tot n (fun i=>c*f i)=c*tot n f:=by
 induction n with
 | zero=>simp [tot]
 | succ n ih=>unfold tot;rw [ih,Int.mul_add]
theorem aa2 (n:Nat)(f:Nat->Int)(p:Prop) [Decidable p]:tot n (fun i=>if p then f i else 0)=if p then tot n f else 0:=by
 by_cases h:p
 ·rw [if_pos h];exact sS fun i _=>if_pos h
 ·rw [if_neg h];exact Bj fun i _=>if_neg h
def lsum:List Nat->(Nat->Int)->Int
 | [],_=>0
 | k::l,f=>f k+lsum l f
theorem vI (f:Nat->Int):∀ (l m:List Nat),lsum (l++m) f=lsum l f+lsum m f
 | [],m=>by show _=0+_;rw [Int.zero_add];rfl
 | k::l,m=>by show f k+lsum (l++m) f=f k+lsum l f+lsum m f;rw [vI f l m];omega
theorem Ja {f:Nat->Int}{l m:List Nat}(h:l.Perm m):lsum l f=lsum m f:=by
 induction h with
 | nil=>rfl
 | cons k _ ih=>show f k+_=f k+_;rw [ih]
 | swap a b l=>show f b+(f a+_)=f a+(f b+_);omega
 | trans _ _ h1 h2=>exact h1.trans h2
theorem zG (f:Nat->Int):∀ n,lsum (List.range n) f=tot n f
 | 0=>rfl
 | n+1=>by rw [ahI,vI,zG f n];show _+(f n+0)=_+f n;omega
theorem IW {f:Nat->Int}:∀ {l:List Nat},(∀ k∈l,f k=0)->lsum l f=0
 | [],_=>rfl
 | k::l,h=>by show f k+lsum l f=0;rw [h k agB,IW fun j hj=>h j (agv _ hj)];rfl
def one (p:Prop) [Decidable p]:Int:=if p then 1 else 0
def EY (r s:List Int)(i:Int):Int:=tot r.length fun j=>if i∈walk r (j:Int) then s.getD j 0 else 0
theorem met {r:List Int}(h:jK r){i:Int}(hi:0<=i):∀ p:Int,0<=p->p<r.length->one (i∈walk r p)=one (p=i)+tot r.length fun k=>if nxt r (k:Int)=i then one ((k:Int)∈walk r p) else 0:=by
 have key:=h.ind (P:=fun p=>(p=-1\/(0<=p/\p<r.length))->one (i∈walk r p)=one (p=i)+tot r.length fun k=>if nxt r (k:Int)=i then one ((k:Int)∈walk r p) else 0) ?_ ?_
 ·exact fun p h0 h1=>key p h0 h1 (.inr ⟨h0,h1⟩)
 ·intro _
  rw [vp,Bj fun k _=>?_]
  ·unfold one;rw [if_neg (by simp),if_neg (by omega)];rfl
  ·unfold one;rw [if_neg (show ¬ (k:Int)∈([]:List Int) by simp)];split <;>rfl
 ·intro p h0 h1 ih _
  have ih':=ih (h.step h0 h1)
  have nd:=JN h h0 h1
  rw [lE h h0 h1] at nd ⊢
  obtain ⟨np,_⟩:=ahh.mp nd
  have e1:one (i∈p::walk r (nxt r p))=one (p=i)+one (i∈walk r (nxt r p)):=by
   unfold one
   by_cases hpi:p=i
   ·subst hpi
    rw [if_pos agB,if_pos rfl,if_neg np];rfl
   ·rw [if_neg hpi]
    by_cases hm:i∈walk r (nxt r p)
    ·rw [if_pos (agv _ hm),if_pos hm];rfl
    ·rw [if_neg hm,if_neg fun z=>?_];· rfl
     rcases agu.mp z with z| z
     ·exact hpi z.symm
     ·exact hm z
  have e2:(tot r.length fun k=>if nxt r (k:Int)=i then one ((k:Int)∈p::walk r (nxt r p)) else 0)=
    one (nxt r p=i)+tot r.length fun k=>if nxt r (k:Int)=i then one ((k:Int)∈walk r (nxt r p)) else 0:=by
   have:(tot r.length fun k=>if nxt r (k:Int)=i then one ((k:Int)∈p::walk r (nxt r p)) else 0)=
     tot r.length fun k=>(if k=p.toNat then (fun k=>if nxt r (k:Int)=i then (1:Int) else 0) k else 0)+if nxt r (k:Int)=i then one ((k:Int)∈walk r (nxt r p)) else 0:=by
    refine sS fun k hk=>?_
    by_cases hn:nxt r (k:Int)=i
    ·simp only [if_pos hn]
     by_cases hkp:k=p.toNat
     ·have hkp':(k:Int)=p:=by omega
      rw [if_pos hkp,hkp']
      unfold one
      rw [if_pos agB,if_neg np];rfl
     ·have hkp':¬ (k:Int)=p:=by omega
      rw [if_neg hkp]
      unfold one
      by_cases hm:(k:Int)∈walk r (nxt r p)
      ·rw [if_pos (agv _ hm),if_pos hm];rfl
      ·rw [if_neg hm,if_neg fun z=>?_];· rfl
       rcases agu.mp z with z| z
       ·exact hkp' z
       ·exact hm z
    ·simp only [if_neg hn];split <;>rfl
   rw [this,JQ,PX _ (by omega)]
   have e:((p.toNat:Nat):Int)=p:=by omega
   show (if nxt r ((p.toNat:Nat):Int)=i then (1:Int) else 0)+_=_
   rw [e];rfl
  rw [e1,e2,ih']
theorem Mu {r:List Int}(h:jK r)(s:List Int){i:Nat}(hi:i<r.length):EY r s (i:Int)=s.getD i 0+tot r.length fun k=>if nxt r (k:Int)=(i:Int) then EY r s (k:Int) else 0:=by
 have e:EY r s (i:Int)=tot r.length fun j=>(if j=i then s.getD j 0 else 0)+tot r.length fun k=>if nxt r (k:Int)=(i:Int) then (if (k:Int)∈walk r (j:Int) then s.getD j 0 else 0) else 0:=by
  refine sS fun j hj=>?_;have m:=met h (i:=(i:Int)) (by omega) (j:Int) (by omega) (by omega);have e1:(if (i:Int)∈walk r (j:Int) then s.getD j 0 else 0)=s.getD j 0*one ((i:Int)∈walk r (j:Int)):=by unfold one;split <;>simp
  rw [e1,m,Int.mul_add,<- aa1];congr 1
  ·unfold one;by_cases hji:j=i
   ·rw [if_pos (by omega),if_pos hji];simp
   ·rw [if_neg (by omega),if_neg hji];simp
  ·refine sS fun k hk=>?_;split
   ·unfold one;split <;>simp
   ·simp
 rw [e,JQ,PX (fun j=>s.getD j 0) hi,Ud];congr 1;refine sS fun k hk=>?_;rw [aa2];rfl
def sy (r:List Int)(a b:Int):List Int:=if b=-1 then walk r a else (walk r a).takeWhile (fun x=>!decide (x=b))
def Stop (r:List Int)(a b:Int):Prop:=b=-1\/b∈walk r a
theorem Hs {r:List Int}{a b x:Int}(h:x∈sy r a b):x∈walk r a:=by
 unfold sy at h;split at h
 ·exact h
 ·exact (List.takeWhile_prefix _).subset h
theorem K4 {r:List Int}(h:jK r){a b:Int}(h0:0<=a)(h1:a<r.length):(sy r a b).Nodup:=by
 unfold sy;split
 ·exact JN h h0 h1
 ·exact (JN h h0 h1).sublist (List.takeWhile_sublist _)
structure Fl (n:Nat)(fl:List Int)(g:Nat->Int):Prop where
 len:fl.length=n
 at_:∀ i,i<n->fl[i]?=some (g i)
theorem Fl.of (fl:List Int):Fl fl.length fl (fun i=>fl.getD i 0):=⟨rfl,fun i hi=>by rw [af9 hi,agj,af9 hi];rfl⟩
theorem Fl.aco {n:Nat}{fl:List Int}{g g':Nat->Int}(h:Fl n fl g)(e:∀ i,i<n->g i=g' i):Fl n fl g':=⟨h.len,fun i hi=>by rw [h.at_ i hi,e i hi]⟩
theorem Fl.set {n:Nat}{fl:List Int}{g g':Nat->Int}{j:Nat}{y:Int}(h:Fl n fl g)(hj:j<n)(e:∀ i,i<n->i≠j->g' i=g i)(ey:y=g' j):Fl n (fl.set j y) g' :=
 ⟨by rw [agG];exact h.len,fun i hi=>by
  by_cases hij:i=j
  ·subst hij;rw [ag8 (by rw [h.len];exact hj),ey]
  ·rw [ahu (Ne.symm hij),h.at_ i hi,e i hi hij]⟩
theorem Fl.ext {n:Nat}{fl fl':List Int}{g:Nat->Int}(h:Fl n fl g)(h':Fl n fl' g):fl=fl':=by
 apply List.ext_getElem?;intro i;by_cases hi:i<n
 ·rw [h.at_ i hi,h'.at_ i hi]
 ·rw [ahc (by rw [h.len];omega),ahc (by rw [h'.len];omega)]
theorem Fl.map (n:Nat)(g:Nat->Int):Fl n ((List.range n).map g) g:=⟨by simp,fun i hi=>by rw [agg,ahG hi];rfl⟩
def kap (r:List Int)(i:Nat):Int:=(i:Int) - 64*((walk r (i:Int)).length:Int)
structure TY (r:List Int)(p:List Nat):Prop where
 perm:p.Perm (List.range r.length)
 ord:p.Pairwise fun i j=>kap r i<kap r j
theorem TY.len {r:List Int}{p:List Nat}(h:TY r p):p.length=r.length:=by rw [h.perm.length_eq,ag0]
theorem TY.lt {r:List Int}{p:List Nat}(h:TY r p){j:Nat}(hj:j∈p):j<r.length:=agK.mp (h.perm.mem_iff.mp hj)
theorem TY.first {r:List Int}{p p1 p2:List Nat}{j k:Nat}(h:TY r p)(hR:jK r)(h64:r.length<64)(e:p=p1++j::p2)(hk:k<r.length)(hn:nxt r (k:Int)=(j:Int)):k∈p1:=by
 have hjm:j∈p:=by rw [e];simp
 have hj:=h.lt hjm;have hkm:k∈p:=h.perm.mem_iff.mpr (agK.mpr hk);have hw:(walk r (k:Int)).length=(walk r (j:Int)).length+1:=by rw [lE hR (p:=(k:Int)) (by omega) (by omega),hn,agx]
 have hlt:kap r k<kap r j:=by unfold kap;omega
 rw [e] at hkm;rcases agw.mp hkm with z| z
 ·exact z
 ·have ord:=h.ord;rw [e,List.pairwise_append] at ord;rcases agu.mp z with z| z
  ·subst z;omega
  ·have:=(List.pairwise_cons.mp ord.2.1).1 k z;omega
def nats (r s:List Int):List Int:=(List.range r.length).map fun (i:Nat)=>EY r s (i:Int)
theorem Ka (r s:List Int):Fl r.length (nats r s) fun i=>EY r s (i:Int):=Fl.map _ _
def Nr (r s:List Int)(p:List Nat)(t:Nat)(fl:List Int):Prop:=Fl r.length fl fun i=>s.getD i 0+lsum (p.take t) fun k=>if nxt r (k:Int)=(i:Int) then EY r s (k:Int) else 0
theorem Nr.start (r s:List Int)(p:List Nat)(hs:s.length=r.length):Nr r s p 0 s:=by
 have:=Fl.of s;rw [hs] at this;exact this.aco fun i _=>by rw [List.take_zero];show _=_+0;omega
theorem take_cons {p:List Nat}{t j:Nat}(h:p[t]?=some j):p.take (t+1)=p.take t++[j]:=by rw [agX,h];rfl
theorem Nr.here {r s:List Int}{p:List Nat}{t j:Nat}{fl:List Int}(T:TY r p)(hR:jK r)(h64:r.length<64)(h:Nr r s p t fl)(hj:p[t]?=some j):fl[j]?=some (EY r s (j:Int)):=by
 have hjl:=T.lt (agd hj);rw [h.at_ j hjl,Mu hR s hjl];congr 2;rw [<- zG,<- Ja T.perm];obtain ⟨ht,et⟩:=af4.mp hj;have e:p=p.take t++j::p.drop (t+1):=by
  rw [<- et,List.getElem_cons_drop,aho]
 conv=>rhs;rw [e]
 rw [vI];have z:lsum (j::p.drop (t+1)) (fun k=>if nxt r (k:Int)=(j:Int) then EY r s (k:Int) else 0)=0:=by
  refine IW fun k hk=>if_neg fun hn=>?_;have hkp:k∈p:=by rw [e];exact agf _ hk
  have h1:=T.first hR h64 e (T.lt hkp) hn;have nd:p.Nodup:=T.perm.nodup_iff.mpr List.nodup_range;rw [e,ahV] at nd;exact nd.2.2 k h1 k hk rfl
 rw [z];omega
theorem Nr.afi {r s:List Int}{p:List Nat}{t j:Nat}{fl:List Int}(h:Nr r s p t fl)(hj:p[t]?=some j)(hm:nxt r (j:Int)=-1):Nr r s p (t+1) fl:=
 Fl.aco h fun i _=>by
  rw [take_cons hj,vI];show _=_+(_+((if nxt r (j:Int)=(i:Int) then EY r s (j:Int) else 0)+0));rw [if_neg (by omega)];omega
theorem Nr.turn {r s:List Int}{p:List Nat}{t j b:Nat}{fl:List Int}(T:TY r p)(hR:jK r)(h64:r.length<64)(h:Nr r s p t fl)(hj:p[t]?=some j)(hb:nxt r (j:Int)=(b:Int))(hbl:b<r.length){x:Int}(hx:fl[b]?=some x):
  Nr r s p (t+1) (fl.set b (x+EY r s (j:Int))):=by
 refine Fl.set h hbl (fun i _ hib=>?_) ?_
 ·rw [take_cons hj,vI];show _+(_+((if nxt r (j:Int)=(i:Int) then EY r s (j:Int) else 0)+0))=_;rw [if_neg (by omega)];omega
 ·rw [h.at_ b hbl] at hx;rw [<- agz hx,take_cons hj,vI];show _=_+(_+((if nxt r (j:Int)=(b:Int) then EY r s (j:Int) else 0)+0));rw [if_pos hb];omega
theorem Nr.done {r s:List Int}{p:List Nat}{fl:List Int}(T:TY r p)(hR:jK r)(h:Nr r s p r.length fl):fl=nats r s:=by
 refine Fl.ext (g:=fun i=>EY r s (i:Int)) (Fl.aco h fun i hi=>?_) (Ka r s);rw [<- T.len,ahe,Mu hR s hi,<- zG,Ja T.perm]
abbrev Mv:=Int × Int × Int
def Vc (r:List Int)(ms:List Mv)(i:Int):Int:=(ms.map fun m=>if i∈sy r m.1 m.2.1 then m.2.2 else 0).sum
theorem Ro (r:List Int)(ms:List Mv)(m:Mv)(i:Int):Vc r (ms++[m]) i=Vc r ms i+if i∈sy r m.1 m.2.1 then m.2.2 else 0:=by
 unfold Vc;rw [aga,List.sum_append];simp
def aev (r s:List Int)(ms:List Mv):List Int:=(List.range r.length).map fun (i:Nat)=>EY r s (i:Int) - Vc r ms (i:Int)
theorem R8 (r s:List Int)(ms:List Mv):Fl r.length (aev r s ms) fun i=>EY r s (i:Int) - Vc r ms (i:Int):=Fl.map _ _
def MvI (r:List Int)(g:Nat->Int)(am:Int)(pre:List Int)(fl:List Int):Prop:=Fl r.length fl fun i=>g i - if (i:Int)∈pre then am else 0
theorem MvI.start {r:List Int}{g:Nat->Int}{fl:List Int}(am:Int)(h:Fl r.length fl g):MvI r g am [] fl:=Fl.aco h fun i _=>by rw [if_neg (by simp)];omega
theorem MvI.turn {r:List Int}{g:Nat->Int}{am:Int}{pre:List Int}{fl:List Int}(h:MvI r g am pre fl){j:Nat}(hj:j<r.length)(hn:¬ (j:Int)∈pre){x:Int}(hx:fl[j]?=some x):MvI r g am (pre++[(j:Int)]) (fl.set j (x - am)):=by
 refine Fl.set h hj (fun i _ hij=>?_) ?_
 ·have:((i:Int)∈pre++[(j:Int)])=((i:Int)∈pre):=by
   apply propext;simp;omega
  simp only [this]
 ·rw [h.at_ j hj,if_neg hn] at hx;rw [<- agz hx,if_pos (by simp)];omega
theorem MvI.done {r s:List Int}{ms:List Mv}{m:Mv}{fl:List Int}(h:MvI r (fun i=>EY r s (i:Int) - Vc r ms (i:Int)) m.2.2 (sy r m.1 m.2.1) fl):Fl r.length fl fun i=>EY r s (i:Int) - Vc r (ms++[m]) (i:Int):=
 Fl.aco h fun i _=>by rw [Ro];dsimp only;omega
def afF (r:List Int)(m:Mv):Prop:=0<=m.1/\m.1<r.length/\Stop r m.1 m.2.1
def Rm (r:List Int)(t:Nat):List Int:=((List.range t).filter fun (j:Nat)=>decide (nxt r (j:Int)=-1)).map fun (j:Nat)=>(j:Int)
theorem IV (r:List Int)(t:Nat):Rm r (t+1)=Rm r t++(if nxt r (t:Int)=-1 then [(t:Int)] else []):=by
 unfold Rm;rw [ahI,List.filter_append,aga];by_cases h:nxt r (t:Int)=-1
 ·rw [if_pos h];simp [h]
 ·rw [if_neg h];simp [h]
theorem Mx (r:List Int)(t:Nat):(Rm r t).length<=t:=by
 unfold Rm;rw [aeu];exact agS (List.length_filter_le _ _) (by simp)
end Rv
namespace Tn
def bump (xs w:List Int)(c:Int):List Int:=w.foldl (fun xs r=>xs.set r.toNat (xs.getD r.toNat 0+c)) xs
theorem VF (xs:List Int)(c:Int):bump xs [] c=xs:=rfl
theorem Jr (xs w:List Int)(r c:Int):bump xs (r::w) c=bump (xs.set r.toNat (xs.getD r.toNat 0+c)) w c:=rfl
theorem Te (xs w:List Int)(r c:Int):bump xs (w++[r]) c=(bump xs w c).set r.toNat ((bump xs w c).getD r.toNat 0+c):=by
 unfold bump;rw [List.foldl_append];rfl
theorem mL:∀ (w xs:List Int)(c:Int),(bump xs w c).length=xs.length
 | [],_,_=>rfl
 | r::w,xs,c=>by rw [Jr,mL w,agG]
theorem Vo {xs:List Int}{i k:Nat}{v:Int}(hi:i<xs.length):(xs.set i v).getD k 0=if k=i then v else xs.getD k 0:=by
 rw [agj,List.getElem?_set,agj];by_cases h:i=k
 ·subst h;simp [hi]
 ·have h':¬ k=i:=fun e=>h e.symm;simp [h,h']
theorem G6:∀ {w xs:List Int}{c:Int},w.Nodup->(∀ r∈w,0<=r/\r<xs.length)->∀ k:Nat,(bump xs w c).getD k 0=xs.getD k 0+(if (k:Int)∈w then c else 0)
 | [],xs,c,_,_,k=>by simp [VF]
 | r::w,xs,c,hw,hin,k=>by
  rw [ahh] at hw;obtain ⟨r0,r1⟩:=hin r agB;have hl:r.toNat<xs.length:=by omega
  rw [Jr,G6 hw.2 (fun q hq=>by rw [agG];exact hin q (agv _ hq)) k,Vo hl];by_cases e:k=r.toNat
  ·have ek:(k:Int)=r:=by omega
   have hn:¬ (k:Int)∈w:=by rw [ek];exact hw.1
   rw [if_pos e,if_neg hn,if_pos (by rw [ek];exact agB),e];omega
  ·have ek:¬ (k:Int)=r:=by omega
   rw [if_neg e];by_cases h:(k:Int)∈w
   ·rw [if_pos h,if_pos (agv _ h)]
   ·rw [if_neg h,if_neg (fun z=>by rcases agu.mp z with q| q;exact ek q;exact h q)]
def bumps (xs:List Int)(ps:List (List Int × Int)):List Int:=ps.foldl (fun xs p=>bump xs p.1 p.2) xs
theorem Td (xs:List Int):bumps xs []=xs:=rfl
theorem Fp (xs:List Int)(p:List Int × Int)(ps:List (List Int × Int)):bumps xs (p::ps)=bumps (bump xs p.1 p.2) ps:=rfl
theorem Fo (xs:List Int)(ps:List (List Int × Int))(p:List Int × Int):bumps xs (ps++[p])=bump (bumps xs ps) p.1 p.2:=by
 unfold bumps;rw [List.foldl_append];rfl
theorem vd:∀ (ps:List (List Int × Int))(xs:List Int),(bumps xs ps).length=xs.length
 | [],_=>rfl
 | p::ps,xs=>by rw [Fp,vd ps,mL]
def WOk (n:Nat)(w:List Int):Prop:=w.Nodup/\∀ r∈w,0<=r/\r<(n:Int)
theorem Jq:∀ {ps:List (List Int × Int)}{xs:List Int},(∀ p∈ps,WOk xs.length p.1)->∀ k:Nat,(bumps xs ps).getD k 0=xs.getD k 0+(ps.map fun p=>if (k:Int)∈p.1 then p.2 else 0).sum
 | [],xs,_,k=>by simp [Td]
 | p::ps,xs,h,k=>by
  have hp:=h p agB;rw [Fp,Jq (fun q hq=>by rw [mL];exact h q (agv _ hq)) k,G6 hp.1 hp.2 k,agH,List.sum_cons];omega
def shares (fs cs:List Int):List Int:=((fs.zip cs).filter fun p=>decide (0<p.2)).map fun p=>p.1 / p.2
def WT (fs cs rs:List Int)(M:Int):Prop:=(rs++shares fs cs=[]/\M=0)\/∃ m∈rs++shares fs cs,(∀ a∈rs++shares fs cs,m<=a)/\M=max 0 m
theorem WT.nn {fs cs rs:List Int}{M:Int}(h:WT fs cs rs M):0<=M:=by
 rcases h with ⟨_,e⟩ | ⟨m,_,_,e⟩<;>omega
theorem Hz {g:List Nat}(h:g.Pairwise (·<·)):g.Nodup:=h.imp fun e=>agM e
def fW (ws:List (List Int)):Nat->List Int:=fun k=>ws.getD k []
def fX (xs:List Int):Nat->Int:=fun k=>xs.getD k 0
def asI (gs:List Nat):List Int:=gs.map fun k:Nat=>(k:Int)
theorem Rr {ws:List (List Int)}{k:Nat}(hk:k<ws.length):fW ws k∈ws:=by
 unfold fW;rw [agj,af9 hk];exact ahd hk
theorem GC (n k:Nat):(List.replicate n (0:Int)).getD k 0=0:=by
 rw [agj,List.getElem?_replicate];split <;>rfl
def afB (n:Nat)(ws:List (List Int))(gs:List Nat):List Int:=bumps (List.replicate n 0) (gs.map fun k=>(fW ws k,1))
def unmet (rs xs:List Int)(gs:List Nat):List Int:=gs.map fun k=>rs.getD k 0 - xs.getD k 0
theorem RN {gs:List Nat}{n:Nat}(hg:gs.Nodup)(hn:∀ k∈gs,k<n):WOk n (asI gs):=by
 refine ⟨?_,fun r hr=>?_⟩
 ·unfold asI;exact List.Pairwise.map _ (fun a b h=>by omega) hg
 ·obtain ⟨k,hk,rfl⟩:=agF.mp hr;have:=hn k hk;omega
theorem Vd {gs:List Nat}{k:Nat}:(k:Int)∈asI gs↔k∈gs:=by
 unfold asI;rw [agF];constructor
 ·rintro ⟨a,ha,e⟩;have:a=k:=by omega
  rw [<- this];exact ha
 ·intro h;exact ⟨k,h,rfl⟩
def step1 (ws:List (List Int))(rs:List Int)(s:List Int × List Int × List Nat)(k:Nat):List Int × List Int × List Nat:=
 if s.2.1.getD k 0<rs.getD k 0/\(fW ws k).all (fun r=>decide (0<s.1.getD r.toNat 0))=true then (bump s.1 (fW ws k) (-1),s.2.1.set k (s.2.1.getD k 0+1),s.2.2++[k]) else s
def j9 (ws:List (List Int))(rs:List Int)(gs:List Nat)(s:List Int × List Int × List Nat):List Int × List Int × List Nat:=gs.foldl (step1 ws rs) s
theorem N5 (ws:List (List Int))(rs:List Int)(gs:List Nat)(k:Nat)(s:List Int × List Int × List Nat):j9 ws rs (gs++[k]) s=step1 ws rs (j9 ws rs gs s) k:=by
 unfold j9;rw [List.foldl_append];rfl
theorem WOk.len {n:Nat}{w:List Int}(h:WOk n w):w.length<=n:=by
 have:=List.Nodup.length_le_of_subset (l₂:=asI (List.range n)) h.1 fun r hr=>by
  obtain ⟨r0,r1⟩:=h.2 r hr;obtain ⟨k,rfl⟩:=agA r0;exact Vd.mpr (agK.mpr (by omega))
 simpa [asI] using this
theorem K3 (r:Int):∀ ws:List (List Int),((ws.map fun w=>(w,(1:Int))).map fun p=>if r∈p.1 then p.2 else 0).sum<=(ws.length:Int)
 | []=>by simp
 | w::ws=>by
  have:=K3 r ws;simp only [agH,List.sum_cons,agx];split <;>omega
theorem cw_bound {n:Nat}{ws:List (List Int)}(hws:∀ w∈ws,WOk n w):∀ c∈bumps (List.replicate n 0) (ws.map fun w=>(w,(1:Int))),c<=(ws.length:Int):=fun c hc=>by
 obtain ⟨k,hk,rfl⟩:=aha hc;have e:(bumps (List.replicate n 0) (ws.map fun w=>(w,(1:Int))))[k]=(bumps (List.replicate n 0) (ws.map fun w=>(w,(1:Int)))).getD k 0:=by
  rw [agj,af9 hk];rfl
 rw [e,Jq (fun p hp=>by
  obtain ⟨w,hw,rfl⟩:=agF.mp hp;rw [agO];exact hws w hw) k,GC]
 have:=K3 (k:Int) ws;omega
theorem JW {fs cs:List Int}{i:Nat}{f c:Int}(hf:fs[i]?=some f)(hc:cs[i]?=some c):shares (fs.take (i+1)) (cs.take (i+1))=shares (fs.take i) (cs.take i)++(if 0<c then [f / c] else []):=by
 have l1:=(af4.mp hf).1;have l2:=(af4.mp hc).1;unfold shares;rw [agX,agX,hf,hc,List.zip_append (by rw [agt,agt];omega),List.filter_append,aga];congr 1;by_cases h:0<c
 ·simp [h]
 ·simp [h]
theorem lJ {gs:List Nat}{i:Nat}{z:Int}(h:(asI gs)[i]?=some z):∃ k:Nat,gs[i]?=some k/\z=(k:Int):=by
 unfold asI at h;rw [agg] at h;cases e:gs[i]? with
 | none=>rw [e] at h;cases h
 | some k=>rw [e] at h;exact ⟨k,rfl,(agz h).symm⟩
theorem Jh (gs:List Nat)(i:Nat):(asI gs).take i=asI (gs.take i):=by unfold asI;rw [List.map_take]
theorem oJ (gs:List Nat):(asI gs).length=gs.length:=by unfold asI;rw [aeu]
theorem NP {rs xs:List Int}{gs:List Nat}{i k:Nat}(h:gs[i]?=some k):unmet rs xs (gs.take (i+1))=unmet rs xs (gs.take i)++[rs.getD k 0 - xs.getD k 0]:=by
 unfold unmet;rw [agX,h,aga];rfl
theorem jh {α β:Type}{f:α->β}{gs:List α}{i:Nat}{k:α}(h:gs[i]?=some k):(gs.take (i+1)).map f=(gs.take i).map f++[f k]:=by
 rw [agX,h,aga];rfl
theorem dJ {α:Type}{gs:List α}{i:Nat}{k:α}(h:gs[i]?=some k):gs.take (i+1)=gs.take i++[k]:=by
 rw [agX,h];rfl
theorem N6 {ws:List (List Int)}{rs:List Int}{gs:List Nat}{i k:Nat}{s:List Int × List Int × List Nat}(h:gs[i]?=some k):j9 ws rs (gs.take (i+1)) s=step1 ws rs (j9 ws rs (gs.take i) s) k:=by
 rw [dJ h];exact N5 _ _ _ _ _
theorem Qf (ws:List (List Int))(rs:List Int)(s:List Int × List Int × List Nat)(k:Nat):(step1 ws rs s k).1.length=s.1.length/\(step1 ws rs s k).2.1.length=s.2.1.length/\(step1 ws rs s k).2.2.length<=s.2.2.length+1:=by
 unfold step1;split
 ·exact ⟨mL _ _ _,agG,by simp⟩
 ·exact ⟨rfl,rfl,by omega⟩
theorem Bs (ws:List (List Int))(rs:List Int):∀ (gs:List Nat)(s:List Int × List Int × List Nat),(j9 ws rs gs s).1.length=s.1.length/\(j9 ws rs gs s).2.1.length=s.2.1.length/\(j9 ws rs gs s).2.2.length<=s.2.2.length+gs.length
 | [],s=>⟨rfl,rfl,by simp [j9]⟩
 | k::gs,s=>by
  have a:=Qf ws rs s k;have b:=Bs ws rs gs (step1 ws rs s k);have e:j9 ws rs (k::gs) s=j9 ws rs gs (step1 ws rs s k):=rfl;rw [e];refine ⟨by rw [b.1,a.1],by rw [b.2.1,a.2.1],?_⟩;have:=b.2.2;rw [agx];omega
structure Grp (day:Nat->Int)(q:List Nat)(gs:List (Int × List Nat)):Prop where
 flat:(gs.map (·.2)).flatten=q
 ord:(gs.map (·.1)).Pairwise (·<·)
 grp:∀ g∈gs,g.2≠[]/\∀ k∈g.2,day k=g.1
theorem Grp.start (day:Nat->Int):Grp day [] []:=⟨rfl,.nil,fun _ h=>nomatch h⟩
theorem Grp.mem {day:Nat->Int}{q:List Nat}{gs:List (Int × List Nat)}(h:Grp day q gs){g:Int × List Nat}(hg:g∈gs):∃ k∈q,day k=g.1:=by
 obtain ⟨h1,h2⟩:=h.grp g hg;cases e:g.2 with
 | nil=>exact absurd e h1
 | cons k r =>
  refine ⟨k,?_,h2 k (by rw [e];exact agB)⟩;rw [<- h.flat];exact List.mem_flatten.mpr ⟨g.2,ahx hg,by rw [e];exact agB⟩
theorem Grp.new {day:Nat->Int}{q:List Nat}{gs:List (Int × List Nat)}{k:Nat}(h:Grp day q gs)(hn:∀ g∈gs,g.1≠day k)(hq:∀ j∈q,day j<=day k):Grp day (q++[k]) (gs++[(day k,[k])]):=by
 refine ⟨?_,?_,fun g hg=>?_⟩
 ·rw [aga,List.flatten_append,h.flat];rfl
 ·rw [aga,List.pairwise_append];refine ⟨h.ord,by simp,fun a ha b hb=>?_⟩;obtain ⟨g,hg,rfl⟩:=agF.mp ha;have hb:b=day k:=by simpa using hb
  subst hb;obtain ⟨j,hj,e⟩:=h.mem hg;have:=hq j hj;have:=hn g hg;omega
 ·rcases agw.mp hg with e| e
  ·exact h.grp g e
  ·have:g=(day k,[k]):=by simpa using e
   subst this;exact ⟨by simp,fun j hj=>by
    have:j=k:=by simpa using hj
    rw [this]⟩
theorem Grp.last {day:Nat->Int}{q:List Nat}{gs:List (Int × List Nat)}{k j:Nat}{g:Int × List Nat}(h:Grp day q gs)(hj:gs[j]?=some g)(hk:g.1=day k)(hq:∀ j∈q,day j<=day k):gs=gs.take j++[g]:=by
 obtain ⟨hl,e⟩:=af4.mp hj;have hlen:gs.length=j+1:=by
  refine Nat.le_antisymm (Nat.le_of_not_lt fun hlt=>?_) hl;have ord:=ahS.mp h.ord j (j+1) (by rw [aeu];exact hl) (by rw [aeu];exact hlt) (by omega);rw [List.getElem_map,List.getElem_map,e] at ord;obtain ⟨i,hi,ei⟩:=h.mem (ahd (l:=gs) (n:=j+1) hlt);have:=hq i hi;omega
 have:gs.take (j+1)=gs.take j++[g]:=dJ hj;rw [<- this,agq (by omega)]
theorem Grp.more {day:Nat->Int}{q:List Nat}{gs:List (Int × List Nat)}{k j:Nat}{g:Int × List Nat}(h:Grp day q gs)(hj:gs[j]?=some g)(hk:g.1=day k)(hq:∀ j∈q,day j<=day k):Grp day (q++[k]) (gs.set j (g.1,g.2++[k])):=by
 have e:=h.last hj hk hq;have hl:=(af4.mp hj).1;have es:gs.set j (g.1,g.2++[k])=gs.take j++[(g.1,g.2++[k])]:=by
  conv=>lhs;rw [e]
  have:(gs.take j).length=j:=by rw [agt];omega
  rw [List.set_append,if_neg (by omega),this,ahL];rfl
 have hf:=h.flat;have ho:=h.ord;rw [e] at hf ho;rw [aga,List.flatten_append] at hf;rw [aga] at ho;rw [es];refine ⟨?_,?_,fun g' hg'=>?_⟩
 ·rw [aga,List.flatten_append,<- hf];simp
 ·rw [aga];exact ho
 ·rcases agw.mp hg' with e' | e'
  ·exact h.grp g' (List.mem_of_mem_take e')
  ·have:g'=(g.1,g.2++[k]):=by simpa using e'
   subst this;refine ⟨by simp,fun i hi=>?_⟩;rcases agw.mp hi with z| z
   ·exact (h.grp g (agd hj)).2 i z
   ·have:i=k:=by simpa using z
    rw [this,hk]
structure Rk (day:Nat->Int)(n:Nat)(p:List Nat):Prop where
 perm:p.Perm (List.range n)
 ord:p.Pairwise fun i j=>day i<day j\/day i=day j/\i<j
theorem Rk.len {day:Nat->Int}{n:Nat}{p:List Nat}(h:Rk day n p):p.length=n:=by rw [h.perm.length_eq,ag0]
theorem Rk.lt {day:Nat->Int}{n:Nat}{p:List Nat}(h:Rk day n p){j:Nat}(hj:j∈p):j<n:=agK.mp (h.perm.mem_iff.mp hj)
theorem Rk.before {day:Nat->Int}{n:Nat}{p:List Nat}(h:Rk day n p){i k:Nat}(hi:p[i]?=some k):∀ j∈p.take i,day j<=day k:=fun j hj=>by
 obtain ⟨hl,e⟩:=af4.mp hi;obtain ⟨m,hm,em⟩:=aha hj;rw [agt] at hm;rw [List.getElem_take] at em;have:=ahS.mp h.ord m i (by omega) hl (by omega);rw [em,e] at this;omega
theorem Bp {α:Type}:∀ {L:List (List α)}{g:List α},g∈L->g.Sublist L.flatten
 | [],_,h=>nomatch h
 | x::L,g,h=>by
  rw [ahl];rcases agu.mp h with e| e
  ·rw [e];exact List.sublist_append_left _ _
  ·exact (Bp e).trans (aht _ _)
theorem Grp.up {day:Nat->Int}{n:Nat}{p:List Nat}{gs:List (Int × List Nat)}(h:Grp day p gs)(r:Rk day n p){g:Int × List Nat}(hg:g∈gs):g.2.Pairwise (·<·):=by
 have hs:g.2.Sublist p:=by rw [<- h.flat];exact Bp (ahx hg)
 have:=r.ord.sublist hs;refine List.Pairwise.imp_of_mem (fun {a b} ha hb hab=>?_) this;have ea:=(h.grp g hg).2 a ha;have eb:=(h.grp g hg).2 b hb;omega
end Tn
namespace Rv
theorem Uh {r:List Int}(h:jK r){p b:Int}(h0:0<=p)(h1:p<r.length):Tn.WOk r.length (sy r p b):=⟨K4 h h0 h1,fun q hq=>KJ h p h0 h1 q (Hs hq)⟩
end Rv
namespace Tn
end Tn
namespace Rv
end Rv
namespace Tn
end Tn
namespace Rv
end Rv
namespace Tn
end Tn
namespace Rv
end Rv
namespace Tn
end Tn
namespace Rv
end Rv
namespace L2
open PySem
theorem sJ.m {j k:Nat}{A:Around}(r:sJ k A)(h:j<=k:=by decide):sJ j A:=r.mono h
end L2
namespace My
open PySem L2
local macro_rules | `(tactic| walk_at "new") => `(tactic| (generalize hE : upd _ _ _ = Hn; have On := Ow.mkE (by assumption) (by assumption) hE rfl; clear hE; revert On; revert Hn))
local macro_rules | `(tactic| walk_at "put") => `(tactic| (generalize hE : upd _ _ _ = Hn; (first | have On := Ow.wQ (by assumption) 0 rfl hE rfl | have On := Ow.wQ (by assumption) 1 rfl hE rfl | have On := Ow.wQ (by assumption) 2 rfl hE rfl | have On := Ow.wQ (by assumption) 3 rfl hE rfl | have On := Ow.wQ (by assumption) 4 rfl hE rfl | have On := Ow.wQ (by assumption) 5 rfl hE rfl); clear hE; (try simp only [List.set_cons_zero, ahA] at On); revert On; revert Hn))
set_option hygiene false
local macro_rules | `(tactic| walk_at "get") => `(tactic| first | assumption | exact O.get 0 | exact O.get 1 | exact O.get 2 | exact O.get 3 | exact O.get 4 | exact O.get 5 | exact O.get 6 | exact O.get 7 | exact O.get 8 | exact O.get 9 | exact O.get 10 | exact O.get 11 | exact O.get 12 | fail)
local macro_rules | `(tactic| walk_at "sq") => `(tactic| first | assumption | exact O.sq 0 | exact O.sq 1 | exact O.sq 2 | exact O.sq 3 | exact O.sq 4 | exact O.sq 5 | exact O.sq 6 | exact O.sq 7 | exact O.sq 8 | exact O.sq 9 | exact O.sq 10 | exact O.sq 11 | exact O.sq 12 | exact SqL.mo (by assumption) O.same | exact SqL.mo (by assumption) (s0.trans O.same) | fail)
local macro_rules | `(tactic| walk_at "sqT") => `(tactic| first | assumption | exact O.sqT 0 | exact O.sqT 1 | exact O.sqT 2 | exact O.sqT 3 | exact O.sqT 4 | exact O.sqT 5 | exact O.sqT 6 | exact O.sqT 7 | exact SqT.mo (by assumption) O.same | exact SqT.mo (by assumption) (s0.trans O.same) | fail)
local macro_rules | `(tactic| walk_at "at") => `(tactic| first | rfl | exact cu (by assumption) | exact dU (by assumption) | exact jt (by omega) (by omega) | exact lastV _ _ | exact ints_last (by omega) | exact jt (ns := [_, _]) (by omega) (by simp only [agx, agU]; omega) | exact jt (ns := [_, _, _]) (by omega) (by simp only [agx, agU]; omega) | exact jt (ns := [_, _, _, _]) (by omega) (by simp only [agx, agU]; omega) | exact jt (ns := [_, _, _, _, _]) (by omega) (by simp only [agx, agU]; omega) | exact jt (ns := [_, _, _, _, _, _]) (by omega) (by simp only [agx, agU]; omega) | exact jt (ns := [_, _, _, _, _, _, _]) (by omega) (by simp only [agx, agU]; omega) | exact jt (ns := [_, _, _, _, _, _, _, _]) (by omega) (by simp only [agx, agU]; omega) | fail)
local macro_rules | `(tactic| walk_at "c") => `(tactic| first | omega | (simp only [aeu]; omega) | exact szl | (show (0 : Int) < _; decide) | (show (0 : Int) < _; omega) | exact ⟨by decide, by decide⟩ | exact .inl ⟨by decide, by decide⟩ | exact .inr ⟨by decide, by decide⟩ | exact ⟨by decide, by decide, by decide⟩ | exact .inl ⟨by omega, by omega⟩ | exact .inr ⟨by omega, by omega⟩ | exact ⟨by omega, by omega⟩ | (split <;> omega) | fail)
local macro_rules | `(tactic| walk_at "ty") => `(tactic| first | exact .int _ | exact .bl _ | exact .lst (by walk_at "get") | exact .tup (by walk_at "get") | exact .non | fail)
local macro_rules | `(tactic| walk_at "kit") => `(tactic| first | exact kit_ii K | exact kit_ib K | exact kit_ll K | exact kit_bb K | exact kit_bi K | exact kit_tt K | fail)
local macro_rules | `(tactic| walk_at "s") => `(tactic| first | refine acf ?_ | refine ⟨_, rfl, ?_⟩ | refine ⟨_, _, rfl, rfl, ?_⟩ | refine And.intro rfl ?_ | refine And.intro (by walk_at "c") ?_ | refine ⟨_, _, _, _, rfl, rfl, (show SqL _ _ _ _ by walk_at "sq"), (show atI _ _ = some _ by walk_at "at"), ?_⟩ | refine ⟨_, _, _, _, rfl, rfl, (show SqT _ _ _ _ by walk_at "sqT"), (show atI _ _ = some _ by walk_at "at"), ?_⟩ | refine ⟨_, _, rfl, .inl (show SqL _ _ _ _ by walk_at "sq"), ?_⟩ | refine ⟨_, _, rfl, .inr (show SqT _ _ _ _ by walk_at "sqT"), ?_⟩ | refine ⟨_, _, rfl, (show SqL _ _ _ _ by walk_at "sq"), ?_⟩ | refine And.intro ⟨_, (show SqL _ _ _ _ by walk_at "sq")⟩ ?_ | refine And.intro (.inl ⟨rfl, _, (show SqL _ _ _ _ by walk_at "sq")⟩) ?_ | refine ⟨_, _, _, _, rfl, (show Np _ _ _ _ by walk_at "ty"), (show kitOne _ _ _ = some _ by walk_at "kit"), ?_⟩ | refine ⟨_, _, rfl, ?_⟩ | fail)
local macro_rules | `(tactic| walk_at "w") => `(tactic| repeat walk_at "s")
local macro_rules | `(tactic| walk_at "if") => `(tactic| first | refine vP ?_ | refine yp ?_ | refine ifN ?_ | refine ifI (fun hc => ?_) (fun hc => ?_) | refine ifD (fun hc => ?_) (fun hc => ?_) | refine ifB (fun hc => ?_) (fun hc => ?_) | fail)
local macro_rules | `(tactic| walk_at "go") => `(tactic| repeat' (first | walk_at "if" | walk_at "s" | fail))
local macro_rules | `(tactic| walk_at "nw") => `(tactic| (generalize hE : upd _ _ _ = Hn; replace O := Ow.mkE O (by assumption) hE rfl; clear hE))
local macro_rules | `(tactic| walk_at "pt") => `(tactic| (generalize hE : upd _ _ _ = Hn; (first | replace O := Ow.wQ O 0 rfl hE rfl | replace O := Ow.wQ O 1 rfl hE rfl | replace O := Ow.wQ O 2 rfl hE rfl | replace O := Ow.wQ O 3 rfl hE rfl | replace O := Ow.wQ O 4 rfl hE rfl | replace O := Ow.wQ O 5 rfl hE rfl | replace O := Ow.wQ O 6 rfl hE rfl | replace O := Ow.wQ O 7 rfl hE rfl); clear hE; (try simp only [List.set_cons_zero, ahA] at O)))
local macro_rules | `(tactic| walk_at "er") => `(tactic| simp only [List.eraseIdx_cons_zero, List.eraseIdx_cons_succ] at O)
local macro_rules | `(tactic| walk_at "jn") => `(tactic| simp only [List.cons_append, List.nil_append] at O)
local macro_rules | `(tactic| walk_at "i") => `(tactic| ((focus (intro vs H Q E h; cases h <;> (subst_vars; rfl))); intro cdv A outer s H vs Q E hr h))
local macro_rules | `($a >=> $b) => `(@ae4 _ _ _ _ _ $a $b rfl)
local macro_rules | `($a <|> $b) => `(@aF _ _ _ _ _ $a $b)
local macro_rules | `(~~~$a) => `(@aK _ _ _ $a)
local macro_rules | `($c ||| $k) => `(Hf P w K mg base $c $k)
local macro_rules | `($d <* $g <* $a) => `(Cm $g hr.m rfl ($d).m ($d).F.kp ($d).b .nil jw $a)
local macro_rules | `($d *> $g *> $a) => `(Cm $g hr.m rfl ($d).m ($d).F.kp ($d).b .nil jX $a)
local macro_rules | `($n >> $s) => `(bB (i:=$n) ($s).nd rfl (Or.inl rfl))
local macro_rules | `($n <$> $s <$> $e) => `(Il (i:=$n) ($s).nd rfl (Or.inl rfl) $e)
variable {P:Program}{w:World}{K:PySem.W.Frag}{mg:Str->Option Value}{base:Heap}{T:fJ}{C CR cD cF cH cN cP cS cY f0 f1 f2 fB:Addr}{c:Ec}
def top (i:Nat):Stmt:=PySem.Challenge.pw_sluice_k69_whole_book_replayed.main.body.getD i (.Pass ⟨0,0,0,0⟩)
theorem yC (n:Nat)(x:Int):(List.replicate n [V.int x]).flatten=(List.replicate n x).map V.int:=by rw [List.map_replicate];exact J3 _ _
variable {j:Nat}
theorem Dz {w cur:List Int}{c z:Int}(hz:w[j]?=some z):Tn.bump cur (w.take (j+1)) c=(Tn.bump cur (w.take j) c).set z.toNat ((Tn.bump cur (w.take j) c).getD z.toNat 0+c):=by
 rw [agX,hz];exact Tn.Te _ _ _ _
abbrev Gm:Stmt:=top 27
theorem HJ:aG ["below","reach","way"] ["below","reach"] (ao Gm):=by walk_at "sc"
inductive V0 (K:PySem.W.Frag)(vs:List V)(H:Hp)(Q:VK)(E:XK):Prop
 | mk (a:Addr)(r:List Int)(p:Int)(_:vs=[.ref a,.int p])(_:SqL K H a (r.map V.int))(_:Rv.jK r)(_:0<=p)(_:p<r.length)(_:r.length<=900)(_:acq H (fun xs=>xs=(Rv.walk r p).map V.int) Q)
theorem Tp (pre:List Int)(z:Int):atI ((pre++[z]).map V.int) (-1)=some (V.int z):=by
 rw [aga];exact VH _ _
variable {a1 a5:TS}{D:Ends}{σ:St}{H:Hp}
theorem sl_1 {a2:TT}{a3:TS}(h:let z4:TS:=a3;let z6:TS:=a5;let z7:TS:=cI (Qa a2 z4) z6;(cI a1 z7) D σ H):(cI a1 (cI (Qa a2 a3) a5)) D σ H:=h
variable {a3:TG}{a4 a6 a8 a11:TS}
theorem sl_2 {a2:TI}{a5:TT}(h:let z7:TS:=a6;let z9:TS:=yr a5 z7 a8;let z10:TS:=cI a4 z9;let z12:TS:=a11;let z13:TS:=cI (sU a2 a3 z10) z12;(cI a1 z13) D σ H):(cI a1 (cI (sU a2 a3 (cI a4 (yr a5 a6 a8))) a11)) D σ H:=h
variable {a2 a9:TS}
theorem sl_3 {a1:TT}{a5:TT}(h:let z3:TS:=a2;let z7:TS:=a6;let z10:TS:=a9;let z11:TS:=cI (yr a5 z7 a8) z10;(cI (yr a1 z3 a4) z11) D σ H):(cI (yr a1 a2 a4) (cI (yr a5 a6 a8) a9)) D σ H:=h
theorem sl_4 {a2:TT}{a3:TS}(h:let z4:TS:=a3;let z7:TS:=a6;let z8:TS:=cI (yr a2 z4 a5) z7;(cI a1 z8) D σ H):(cI a1 (cI (yr a2 a3 a5) a6)) D σ H:=h
theorem sl_5 {a1:TT}(h:let z3:TS:=a2;let z6:TS:=a5;(cI (yr a1 z3 a4) z6) D σ H):(cI (yr a1 a2 a4) a5) D σ H:=h
theorem aeP (h:let z3:TS:=a2;(cI a1 z3) D σ H):(cI a1 a2) D σ H:=h
variable {a7 a10:TS}
theorem sl_7 {a3:TI}{a4:TG}{a6:TT}{a9:TT}{a12:TS}{a17:TS}{a18:TI}{a19:TG}{a20:TS}{a22:TS}{a23:TI}{a24:TG}{a25:TT}{a26:TS}{a28:TS}{a30:TS}(h:let z8:TS:=a7;let z11:TS:=a10;let z13:TS:=a12;let z14:TS:=yr a9 z11 z13;let z15:TS:=yr a6 z8 z14;let z16:TS:=cI a5 z15;let z21:TS:=a20;let z27:TS:=a26;let z29:TS:=yr a25 z27 a28;let z31:TS:=a30;let z32:TS:=cI (sU a23 a24 z29) z31;let z33:TS:=cI a22 z32;let z34:TS:=cI (sU a18 a19 z21) z33;let z35:TS:=cI a17 z34;let z36:TS:=cI (sU a3 a4 z16) z35;let z37:TS:=cI a2 z36;(cI a1 z37) D σ H):(cI a1 (cI a2 (cI (sU a3 a4 (cI a5 (yr a6 a7 (yr a9 a10 a12)))) (cI a17 (cI (sU a18 a19 a20) (cI a22 (cI (sU a23 a24 (yr a25 a26 a28)) a30))))))) D σ H:=h
theorem sl_8 {a2:TI}{a4:TT}(h:let z6:TS:=a5;let z8:TS:=yr a4 z6 a7;let z10:TS:=a9;let z11:TS:=cI (sU a2 a3 z8) z10;(cI a1 z11) D σ H):(cI a1 (cI (sU a2 a3 (yr a4 a5 a7)) a9)) D σ H:=h
theorem sl_9 {a2:TT}{a3:TS}{a6:TT}(h:let z4:TS:=a3;let z8:TS:=a7;let z11:TS:=a10;let z12:TS:=cI (yr a6 z8 a9) z11;let z13:TS:=cI (yr a2 z4 a5) z12;(cI a1 z13) D σ H):(cI a1 (cI (yr a2 a3 a5) (cI (yr a6 a7 a9) a10))) D σ H:=h
theorem acO {a2:TI}{a4:TI}{a5:TG}(h:let z7:TS:=a6;let z8:TS:=sU a4 a5 z7;let z10:TS:=a9;let z11:TS:=cI (sU a2 a3 z8) z10;(cI a1 z11) D σ H):(cI a1 (cI (sU a2 a3 (sU a4 a5 a6)) a9)) D σ H:=h
theorem Ui {a3:TS}(h:let z4:TS:=a3;let z5:TS:=cI a2 z4;(cI a1 z5) D σ H):(cI a1 (cI a2 a3)) D σ H:=h
theorem aeX {a1:TI}{a2:TG}{a3:TS}(h:let z4:TS:=a3;(sU a1 a2 z4) D σ H):(sU a1 a2 a3) D σ H:=h
theorem aeW {a3:TI}{a4:TG}(h:let z7:TS:=a6;let z8:TS:=cI a5 z7;let z9:TS:=sU a3 a4 z8;let z10:TS:=cI a2 z9;(cI a1 z10) D σ H):(cI a1 (cI a2 (sU a3 a4 (cI a5 a6)))) D σ H:=h
theorem aeV {a2:TI}{a4:TT}{a13:TS}(h:let z8:TS:=a7;let z9:TS:=cI a6 z8;let z10:TS:=cI a5 z9;let z12:TS:=yr a4 z10 a11;let z14:TS:=a13;let z15:TS:=cI (sU a2 a3 z12) z14;(cI a1 z15) D σ H):(cI a1 (cI (sU a2 a3 (yr a4 (cI a5 (cI a6 a7)) a11)) a13)) D σ H:=h
theorem aeU {a2:TI}(h:let z5:TS:=a4;let z7:TS:=a6;let z8:TS:=cI (sU a2 a3 z5) z7;(cI a1 z8) D σ H):(cI a1 (cI (sU a2 a3 a4) a6)) D σ H:=h
theorem aeT {a3:TS}{a4:TI}{a5:TG}{a8:TI}{a9:TG}{a15:TS}(h:let z11:TS:=a10;let z12:TS:=sU a8 a9 z11;let z13:TS:=cI a7 z12;let z14:TS:=cI a6 z13;let z16:TS:=a15;let z17:TS:=cI (sU a4 a5 z14) z16;let z18:TS:=cI a3 z17;let z19:TS:=cI a2 z18;(cI a1 z19) D σ H):(cI a1 (cI a2 (cI a3 (cI (sU a4 a5 (cI a6 (cI a7 (sU a8 a9 a10)))) a15)))) D σ H:=h
theorem aeS {a2:TI}(h:let z6:TS:=a5;let z7:TS:=cI a4 z6;let z9:TS:=a8;let z10:TS:=cI (sU a2 a3 z7) z9;(cI a1 z10) D σ H):(cI a1 (cI (sU a2 a3 (cI a4 a5)) a8)) D σ H:=h
theorem aeR {a3:TI}{a4:TG}{a15:TS}(h:let z10:TS:=a9;let z11:TS:=cI a8 z10;let z12:TS:=cI a7 z11;let z13:TS:=cI a6 z12;let z14:TS:=cI a5 z13;let z16:TS:=a15;let z17:TS:=cI (sU a3 a4 z14) z16;let z18:TS:=cI a2 z17;(cI a1 z18) D σ H):(cI a1 (cI a2 (cI (sU a3 a4 (cI a5 (cI a6 (cI a7 (cI a8 a9))))) a15))) D σ H:=h
theorem aeQ {a2:TI}{a8:TI}{a9:TG}{a10:TT}{a13:TS}{a20:TS}(h:let z12:TS:=a11;let z14:TS:=yr a10 z12 a13;let z15:TS:=sU a8 a9 z14;let z16:TS:=cI a7 z15;let z17:TS:=cI a6 z16;let z18:TS:=cI a5 z17;let z19:TS:=cI a4 z18;let z21:TS:=a20;let z22:TS:=cI (sU a2 a3 z19) z21;(cI a1 z22) D σ H):(cI a1 (cI (sU a2 a3 (cI a4 (cI a5 (cI a6 (cI a7 (sU a8 a9 (yr a10 a11 a13))))))) a20)) D σ H:=h
variable {GP:Addr}{GX:FuncData}(gK:Df K mg "way_of" Gm ["below","reach"] GP GX)
include gK in
theorem ac3 (C:Mth mg):(CX0|||1) GP GX ["below","reach"] (V0 K):=by
 obtain ⟨tM,hMOUTH⟩:=C.MOUTH;refine gK.F.ok HJ ?_ ?_;walk_at "i";obtain ⟨a,r,p,rfl,hS,hR,p0,p1,hn,q⟩:=h;refine ⟨_,(aF (2<$>HJ<$>(dM (aq (pv 1) ak)))
  (aF (LR agC (aR Cr (aZ aU (pv 0) (aZ aU (pv 2) (Eh vU aA) (fun _ _=>rfl)) (fun _ _=>rfl)) (fP (v:=.int (-1)) rfl hMOUTH ⟨_,rfl⟩) (bf _))
   (aK (aM (kh agn ago agp bC (pv 2) (aq (aZ aU (pv 0) (aZ aU (pv 2) (Eh vU aA) (fun _ _=>rfl)) (fun _ _=>rfl)) ak)))))
  (aK (aP (pv 2))))),?_⟩
 refine sl_1 ?_;intro zu0 zu1 zu2;refine ⟨_,rfl,(by show 1<=sizeLine;decide),fun lw hlw=>?_⟩;refine ⟨fun m σ H'=>∃ (pre:List Int)(z:Int),σ=[some (.ref a),some (.int p),some (.ref lw)]/\Same H H'/\H' lw=some (.lst ((pre++[z]).map V.int))/\0<=z/\z<r.length/\pre++Rv.walk r z=Rv.walk r p/\m=Rv.mea r z,
  ⟨_,[],p,rfl,(Same.refl H).upd hlw,aO,p0,p1,rfl,rfl⟩,?_⟩
 rintro m σ H2 ⟨pre,z,rfl,s2,h2,z0,z1,e,rfl⟩;have g:=Rv.lW z0 z1;have hlen:pre.length+(Rv.walk r z).length<=r.length+1:=by
  have:=Rv.Ua r p;rw [<- e,agh] at this;exact this
 refine ⟨_,rfl,_,rfl,_,rfl,lw,_,_,_,rfl,rfl,SqL.of h2,Tp pre z,a,_,_,_,rfl,rfl,s2.seq hS,qC z0 g,rfl,_,rfl,?_⟩;rcases hR.step z0 z1 with hm| ⟨n0,n1⟩
 ·rw [hm];refine abP rfl ?_;refine ⟨_,rfl,q lw H2 _ s2 hlw h2 ?_⟩;have ew:Rv.walk r z=[z]:=by rw [Rv.lE hR z0 z1,hm,Rv.vp]
  rw [<- e,ew]
 ·have hd:(!decide (V.int (Rv.nxt r z)=V.int (-1)))=true:=by
   have:¬ Rv.nxt r z=-1:=by omega
   simp [this]
  rw [hd];refine vP ?_;refine ⟨fun σ' H'=>∃ m',m'<Rv.mea r z/\∃ (pre:List Int)(z:Int),σ'=[some (.ref a),some (.int p),some (.ref lw)]/\Same H H'/\H' lw=some (.lst ((pre++[z]).map V.int))/\0<=z/\z<r.length/\pre++Rv.walk r z=Rv.walk r p/\m'=Rv.mea r z,fun _ _ x=>x,?_⟩;refine ⟨_,rfl,.inl ⟨rfl,_,SqL.of h2⟩,_,rfl,_,rfl,_,rfl,lw,_,_,_,rfl,rfl,SqL.of h2,Tp pre z,a,_,_,_,rfl,rfl,s2.seq hS,qC z0 g,lw,_,_,rfl,rfl,h2,aH ?_,?_⟩
  ·rw [aeu,agh];have:1<=(Rv.walk r z).length:=by rw [Rv.lE hR z0 z1];exact Nat.succ_le_succ (agN _)
   show pre.length+1<=_;omega
  ·refine ⟨_,Rv.adu hR z0 z1,pre++[z],Rv.nxt r z,rfl,s2.upd hlw,?_,n0,n1,?_,rfl⟩
   ·rw [aO,aga (l₁:=pre++[z])];rfl
   ·rw [ahJ];show pre++(z::Rv.walk r (Rv.nxt r z))=_;rw [<- Rv.lE hR z0 z1];exact e
abbrev lR:Stmt:=top 25
theorem jg:aG ["below","start","reach","step"] ["below","start"] (ao lR):=by walk_at "sc"
inductive Lq (K:PySem.W.Frag)(vs:List V)(H:Hp)(Q:VK)(E:XK):Prop
 | mk (a:Addr)(r:List Int)(i:Nat)(_:vs=[.ref a,.int (i:Int)])(_:SqL K H a (r.map V.int))(_:Rv.inB r)(_:i<r.length)(_:r.length<=900)(_:Q (.bl (decide (Rv.yj r r.length (i:Int)=-1))) H)
structure Cst (mg:Str->Option Value):Prop where
 MOUTH:∃ t,mg "MOUTH"=some (.int (-1) t)
 MOST_REACHES:∃ t,mg "MOST_REACHES"=some (.int 40 t)
variable {lX:Addr}{mj:FuncData}(dH:Df K mg "comes_to_mouth" lR ["below","start"] lX mj)
include dH in
theorem U4 (B:Blt mg)(C:Cst mg):(CX0|||1) lX mj ["below","start"] (Lq K):=by
 obtain ⟨tM,hMOUTH⟩:=C.MOUTH
 refine dH.F.ok jg ?_ ?_
 walk_at "i"
 obtain ⟨a,r,i,rfl,hS,hB,hi,hn,q⟩:=h
 refine ⟨_,(aF (2<$>jg<$>(pv 1))
  (aF (f9 agC rfl (jW rfl B.range (aq (aD aB rfl B.len agk (aq (pv 0) ak)) ak)) (3>>jg)
   (aF (2<$>jg<$>(aZ aU (pv 0) (pv 2) (fun _ _=>rfl)))
   (aK (cM (aR kj (pv 2) (fP (v:=.int (-1)) rfl hMOUTH ⟨_,rfl⟩) (bf _))
    (aK (aP Cp))
    bA))))
  (aK (aP Cp)))),?_⟩
 refine sl_2 ?_
 intro zu0 zu1 zu2 zu3 zu4
 refine ⟨_,rfl,_,rfl,a,_,rfl,.inl hS,_,rfl,by rw [aeu];omega,by rw [aeu];omega,?_⟩
 rw [aeu,agm]
 refine yL (n:=r.length) (fun j σ H2=>∃ (v:Option V),σ=[some (.ref a),some (.int (i:Int)),some (.int (Rv.yj r j (i:Int))),v]/\H=H2/\(j=0\/Rv.yj r j (i:Int)≠-1)) ⟨none,rfl,rfl,.inl rfl⟩ ?_ ?_
 ·rintro j σ H2 hj ⟨v,rfl,rfl,hne⟩
  obtain ⟨b0,b1⟩:=Rv.M5 hB (p:=(i:Int)) (by omega) (by omega) j
  have hne':Rv.yj r j (i:Int)≠-1:=by
   rcases hne with e| e
   ·subst e
    show (i:Int)≠-1
    omega
   ·exact e
  have g:=Rv.lW (r:=r) (p:=Rv.yj r j (i:Int)) (by omega) b1
  have es:Rv.nxt r (Rv.yj r j (i:Int))=Rv.yj r (j+1) (i:Int):=by
   rw [Rv.vA];unfold Rv.stp;rw [if_neg hne']
  rw [es] at g
  refine ⟨_,rfl,_,rfl,a,_,_,_,rfl,rfl,hS,qC (by omega) g,_,rfl,rfl,_,rfl,?_⟩
  refine abQ (fun h=>?_) (fun h=>?_)
  ·have e:Rv.yj r (j+1) (i:Int)=-1:=by
    have:=of_decide_eq_true h
    exact V.int.inj this
   have e2:Rv.yj r r.length (i:Int)=-1:=by
    have:=Rv.K6 r (i:Int) e (r.length - (j+1))
    rw [show j+1+(r.length - (j+1))=r.length by omega] at this
    exact this
   rw [decide_eq_true e2] at q
   exact q
  ·refine ⟨_,rfl,rfl,.inr fun e=>h (decide_eq_true (by rw [e]))⟩
 ·rintro σ H2 ⟨v,rfl,rfl,hne⟩
  have e:¬ Rv.yj r r.length (i:Int)=-1:=by
   rcases hne with e| e
   ·omega
   ·exact e
  rw [decide_eq_false e] at q
  exact q
abbrev pW:Stmt:=top 26
theorem J0:aG ["below"] ["below"] (ao pW):=by walk_at "sc"
inductive V8 (K:PySem.W.Frag)(vs:List V)(H:Hp)(Q:VK)(E:XK):Prop
 | mk (a:Addr)(r:List Int)(_:vs=[.ref a])(_:SqL K H a (r.map V.int))(_:r.length<=900)(_:∀ H',Same H H'->Q (.bl (Rv.isR r)) H')
variable {α:Type}
theorem Nm {p:α->Bool}{l:List α}:(l.map p).all id=l.all p:=by
 rw [List.all_map];rfl
theorem abT (r:List Int):(r.all fun x=>decide (-1<=x) && decide (x<(r.length:Int)))=decide (Rv.inB r):=by
 rw [ag6];simp only [ag3,agD,decide_eq_true_eq];exact Iff.rfl
variable (rT:(CX0|||1) lX mj ["below","start"] (Lq K))
variable {zM:Addr}{zU:FuncData}(jG:Df K mg "is_river" pW ["below"] zM zU)
include dH rT jG in
theorem adh (B:Blt mg)(C:Cst mg):(CX0|||2) zM zU ["below"] (V8 K):=by
 obtain ⟨tM,hMOUTH⟩:=C.MOUTH
 obtain ⟨tR,Gx⟩:=C.MOST_REACHES
 refine jG.F.ok J0 ?_ ?_
 walk_at "i"
 obtain ⟨a,r,rfl,hS,hn,q⟩:=h
 refine ⟨_,(aF (cM (jq (vD yG yG aA (aD aB rfl B.len agk (aq (pv 0) ak)) (fP (v:=.int (40)) rfl Gx ⟨_,rfl⟩)))
   (aK (aP Cp))
   bA)
  (aF (cM (jq (iy (aD (rA rfl) rfl B.all ahj (aq (fM (ao pW) rfl ["below"] rfl ["reach","below"] [none,some 0] (by decide+kernel) (by decide+kernel) (by decide+kernel) rfl (cJ (pv 0)) (fun _ _ _=>(bB (i:=0) (show (["reach","below"]:List Str).Nodup by decide+kernel) rfl (Or.inl rfl))) (fun _ _ _=>eG) (fun _ _ _=>(Gq yG Bh (fP (v:=.int (-1)) rfl hMOUTH ⟨_,rfl⟩) (pv 0) (aD (yQ (K:=K) rfl) rfl B.len agk (aq (pv 1) ak))))) ak))))
   (aK (aP Cp))
   bA)
  (aK (aP (aD (rA rfl) rfl B.all ahj (aq (fM (ao pW) rfl ["below"] rfl ["start","below"] [none,some 0] (by decide+kernel) (by decide+kernel) (by decide+kernel) rfl (jW rfl B.range (aq (aD aB rfl B.len agk (aq (pv 0) ak)) ak)) (fun _ _ _=>(bB (i:=0) (show (["start","below"]:List Str).Nodup by decide+kernel) rfl (Or.inl rfl))) (fun _ _ _=>eG) (fun _ _ _=>(dH<*rT<*(aq (pv 1) (aq (pv 0) ak))))) ak)))))),?_⟩
 refine sl_3 ?_
 intro zu0 zu1 zu2 zu3
 refine ⟨_,rfl,a,_,rfl,.inl hS,_,_,rfl,rfl,_,rfl,?_⟩
 rw [aeu]
 have no1:¬ (1<=r.length/\r.length<=40)->Q (.bl false) H:=fun h=>by
  have e:Rv.isR r=false:=by unfold Rv.isR;rw [decide_eq_false h];rfl
  have:=q H (Same.refl H)
  rw [e] at this
  exact this
 refine abQ (fun h1=>⟨_,_,rfl,rfl,_,rfl,?_⟩) (fun h1=>⟨_,rfl,?_⟩)
 case refine_2=>exact vP (no1 fun z=>h1 (decide_eq_true (by omega)))
 have g1:=of_decide_eq_true h1
 by_cases h2:r.length<=40
 case neg =>
  rw [decide_eq_false (by omega)]
  exact vP (no1 fun z=>h2 z.2)
 rw [decide_eq_true (by omega)]
 refine yp ?_
 refine ⟨_,rfl,a,rfl,⟨_,hS⟩,fun acc hacc=>?_⟩
 refine eH (K:=K) (a:=a) (xs:=r.map V.int) (fun i τ H2=>∃ v,τ=[v,some (.ref a)]/\Same H H2/\H2 acc=some (.lst (((r.take i).map fun x=>decide (-1<=x) && decide (x<(r.length:Int))).map V.bl)))
  ⟨none,rfl,(Same.refl H).upd hacc,by rw [aO];rfl⟩ (fun i τ H2 _ ⟨_,_,s2,_⟩=>s2.seq hS) ?_ ?_
 ·rintro i y τ H2 hi ⟨v,rfl,s2,h2'⟩
  obtain ⟨z,hz,rfl⟩:=ints_get hi
  have hil:i<r.length:=(af4.mp hz).1
  have e:∀ b:Bool,b=(decide (-1<=z) && decide (z<(r.length:Int)))->((r.take i).map fun x=>decide (-1<=x) && decide (x<(r.length:Int))).map V.bl++[V.bl b]=((r.take (i+1)).map fun x=>decide (-1<=x) && decide (x<(r.length:Int))).map V.bl:=fun b hb=>by
   rw [agX,hz,aga,aga,hb];rfl
  have hsz:(((r.take i).map fun x=>decide (-1<=x) && decide (x<(r.length:Int))).map V.bl).length<sizeLine:=aH (by rw [aeu,aeu,agt];omega)
  refine JH ?_
  refine ⟨_,rfl,_,_,rfl,rfl,_,rfl,?_⟩
  refine abQ (fun h3=>?_) (fun h3=>?_)
  ·refine ⟨_,rfl,a,_,rfl,.inl (s2.seq hS),_,_,rfl,rfl,_,h2',hsz,_,rfl,s2.upd hacc,?_⟩
   rw [aO,e _ (by rw [h3,aeu];rfl)]
  ·refine ⟨_,h2',hsz,_,rfl,s2.upd hacc,?_⟩
   have h3':decide (-1<=z)=false:=by simpa using h3
   rw [aO,e false (by rw [h3'];rfl)]
 ·rintro τ H2 ⟨v,rfl,s2,h2'⟩
  rw [aeu,ahe] at h2'
  refine ⟨acc,_,rfl,SqL.of h2',_,rfl,?_⟩
  rw [Nm,abT]
  by_cases hB:Rv.inB r
  case neg =>
   rw [decide_eq_false hB]
   refine vP ?_
   have e:Rv.isR r=false:=by unfold Rv.isR;rw [decide_eq_false hB,Bool.and_false];rfl
   have:=q H2 s2
   rw [e] at this
   exact this
  rw [decide_eq_true hB]
  refine yp ?_
  refine ⟨_,rfl,a,_,rfl,.inl (s2.seq hS),_,rfl,by rw [aeu];omega,by rw [aeu];omega,fun ac2 hac2=>?_⟩
  rw [aeu,agm]
  have nac2:H ac2=none:=s2.free hac2
  refine vL (fun i τ H3=>∃ v,τ=[v,some (.ref a)]/\Same H H3/\H3 ac2=some (.lst (((List.range i).map fun (j:Nat)=>decide (Rv.yj r r.length (j:Int)=-1)).map V.bl))) ⟨none,rfl,s2.upd nac2,by rw [aO];rfl⟩ ?_ ?_
  ·rintro i τ H3 hi ⟨v,rfl,s3,h3⟩
   rw [show (0:Int)+(i:Int)=(i:Int) by omega]
   refine JH ?_
   refine ⟨_,rfl,_,rfl,a,r,i,rfl,s3.seq hS,hB,hi,hn,?_⟩
   refine ⟨_,h3,aH (by rw [aeu,aeu,ag0];omega),_,rfl,s3.upd nac2,?_⟩
   rw [aO,ahI,aga,aga];rfl
  ·rintro τ H3 ⟨v,rfl,s3,h3⟩
   refine ⟨ac2,_,rfl,SqL.of h3,?_⟩
   have e:(((List.range r.length).map fun (j:Nat)=>decide (Rv.yj r r.length (j:Int)=-1)).all id)=Rv.isR r:=by
    unfold Rv.isR
    rw [Nm,decide_eq_true (show 1<=r.length/\r.length<=40 from ⟨by omega,h2⟩),decide_eq_true hB,Bool.true_and,Bool.true_and,ag6]
    simp only [ag3,agK,decide_eq_true_eq]
   rw [e]
   exact q H3 s3
abbrev zB:Stmt:=top 5
theorem JZ:aG ["amount"] ["amount"] (ao zB):=by walk_at "sc"
inductive K9 (vs:List V)(H:Hp)(Q:VK)(E:XK):Prop
 | mk (z:Int)(_:vs=[.int z])(_:∀ b:Bool,(b=true↔(0<=z/\z<=1000000000000))->Q (.bl b) H)
variable {zL:Addr}{zT:FuncData}(bR:Df K mg "is_water" zB ["amount"] zL zT)
include bR in
theorem Uw (CW:∃ t,mg "MOST_WATER"=some (.int 1000000000000 t)):(CX0|||1) zL zT ["amount"] K9:=by
 obtain ⟨tW,Ko⟩:=CW;refine bR.F.ok JZ ?_ ?_;walk_at "i";obtain ⟨z,rfl,q⟩:=h;refine ⟨_,(aK (aP (Gq yG yG aA (pv 0) (fP (v:=.int (1000000000000)) rfl Ko ⟨_,rfl⟩)))),?_⟩;walk_at "go"
 all_goals refine q _ ?_
 all_goals simp only [decide_eq_true_eq,ahq,true_iff,false_iff]
 all_goals omega
abbrev tO:Stmt:=top 33
theorem jN:aG ["below","one","day","start","back","most"] ["below","one"] (ao tO):=by walk_at "sc"
def rC (r:List Int)(l:Lic):Prop:=(0<=l.day/\l.day<=1000000/\0<=l.start/\l.start<r.length/\0<=l.most/\l.most<=1000000000000)/\(l.back=-1\/l.back∈(Rv.walk r l.start).drop 1)
inductive Li (K:PySem.W.Frag)(T:fJ)(vs:List V)(H:Hp)(Q:VK)(E:XK):Prop
 | mk (a t:Addr)(r:List Int)(l:Lic)(_:vs=[.ref a,.ref t])(_:SqL K H a (r.map V.int))(_:Rv.jK r)(_:r.length<=900)(_:SqT K H t (vq l))(_:TabsOk T H)(_:∀ (b:Bool)(H':Hp),aJ T H H'->(b=true↔rC r l)->Q (.bl b) H')
variable (gW:(CX0|||1) zL zT ["amount"] K9)
variable (vN:(CX0|||1) GP GX ["below","reach"] (V0 K))
variable {uD:Addr}{uR:FuncData}(bU:Df K mg "is_licence" tO ["below","one"] uD uR)
include gK bR gW vN bU in
theorem UL (B:Blt mg)(C:Mth mg)(CD:∃ t,mg "LAST_DAY"=some (.int 1000000 t)):(CX0|||2) uD uR ["below","one"] (Li K T):=by
 obtain ⟨tM,hMOUTH⟩:=C.MOUTH
 obtain ⟨tD,R4⟩:=CD
 refine bU.F.ok jN ?_ ?_
 walk_at "i"
 obtain ⟨a,t,r,l,rfl,hA,hR,hn,hT,tk,q⟩:=h
 have hml:((r.map V.int).length:Int)=(r.length:Int):=by rw [aeu]
 have O:=Ow.refl tk
 have s0:=O.same
 have no:¬ (0<=l.day/\l.day<=1000000/\0<=l.start/\l.start<r.length/\0<=l.most/\l.most<=1000000000000)->Q (.bl false) H:=fun h=>q _ _ O.same ⟨(fun e=>by cases e),fun z=>absurd z.1 h⟩
 refine ⟨_,(aF (gQ (pv 1) (iH rfl (aC (2>>jN) (aC (3>>jN) (aC (4>>jN) (aC (5>>jN) cg))))))
  (aF (cM (jq (PW.pt (pw_and (vD yG yG aA (pv 2) (fP (v:=.int (1000000)) rfl R4 ⟨_,rfl⟩)) (pw_and (vD yG Bh aA (pv 3) (aD aB rfl B.len agk (aq (pv 0) ak))) (pw_and1 (iy (bR<*gW<*(aq (pv 5) ak))))))))
   (aK (aP Cp))
   bA)
  (aK (aP (ae3 (qz kj (pv 4) (fP (v:=.int (-1)) rfl hMOUTH ⟨_,rfl⟩) (bf _)) (Ma (qz Q9 (pv 4) (Bo Gb (gK<*vN<*(aq (pv 0) (aq (pv 3) ak))) (Ci aA) J4) (by rfl)))))))),?_⟩
 refine sl_4 ?_
 intro zu0 zu1 zu2
 refine ⟨_,rfl,t,_,rfl,hT,rfl,_,_,rfl,_,_,rfl,_,_,rfl,_,_,rfl,rfl,?_⟩
 walk_at "go"
 all_goals first| (refine no ?_;omega) | skip
 intro b hb
 walk_at "go"
 ·have hm:=hb.mp (by assumption)
  have num:0<=l.day/\l.day<=1000000/\0<=l.start/\l.start<r.length/\0<=l.most/\l.most<=1000000000000:=by omega
  exact q _ _ O.same ⟨fun _=>⟨num,.inl (by omega)⟩,fun _=>rfl⟩
 ·have hm:=hb.mp (by assumption)
  have num:0<=l.day/\l.day<=1000000/\0<=l.start/\l.start<r.length/\0<=l.most/\l.most<=1000000000000:=by omega
  refine ⟨a,r,l.start,rfl,hA,hR,by omega,by omega,hn,O.got fun lw H2 xs O e=>?_⟩
  subst e
  refine ⟨1,rfl,lw,_,rfl,O.sq 0,fun l1 h1=>?_⟩
  walk_at "nw"
  rw [show Kw ((Rv.walk r l.start).map V.int) (some 1) none=((Rv.walk r l.start).drop 1).map V.int from Vw _ 1] at O
  refine ⟨l1,_,rfl,.inl (O.sq 0),rfl,CZ _,?_⟩
  rw [if_neg agi,Kl]
  refine q _ _ O.same ?_
  rw [decide_eq_true_iff]
  exact ⟨fun h=>⟨num,.inr h⟩,fun h=>h.2.resolve_left (by omega)⟩
 ·refine no fun z=>?_
  have:=hb.mpr ⟨z.2.2.2.2.1,z.2.2.2.2.2⟩
  simp_all
abbrev pA:Stmt:=top 83
theorem BP:aG ["script","k"] ["script","k"] (ao pA):=by walk_at "sc"
inductive Qz (K:PySem.W.Frag)(vs:List V)(H:Hp)(Q:VK)(E:XK):Prop
 | mk (a:Addr)(ns:List Int)(k:Nat)(_:vs=[.ref a,.int (k:Int)])(_:SqL K H a (ns.map V.int))(_:Q (.int (ns.getD k 0)) H)
variable {pH:Addr}{pN:FuncData}(dj:Df K mg "_law_cell_at" pA ["script","k"] pH pN)
include dj in
theorem abG (B:Blt mg):(CX0|||1) pH pN ["script","k"] (Qz K):=by
 refine dj.F.ok BP ?_ ?_
 walk_at "i"
 obtain ⟨a,ns,k,rfl,hS,q⟩:=h
 refine ⟨_,(aF (cM (aR Bh (pv 1) (aD aB rfl B.len agk (aq (pv 0) ak)) (bf _))
   (aK (aP (aZ aU (pv 0) (pv 1) (fun _ _=>rfl))))
   bA)
  (aK (aP aA))),?_⟩
 refine sl_5 ?_
 intro zu0 zu1
 refine ⟨_,rfl,_,rfl,a,_,rfl,.inl hS,_,_,rfl,rfl,_,rfl,?_⟩
 refine abQ (fun h=>?_) (fun h=>?_)
 ·have hk:k<ns.length:=by
   have:=of_decide_eq_true h
   rw [aeu] at this;omega
  have e:ns[k]?=some (ns.getD k 0):=by rw [agj,af9 hk];rfl
  exact ⟨_,rfl,_,rfl,a,_,_,_,rfl,rfl,hS,cu e,q⟩
 ·have hk:¬ k<ns.length:=fun z=>h (decide_eq_true (by rw [aeu];omega))
  have e:ns.getD k 0=0:=by rw [agj,ahc (by omega)];rfl
  rw [e] at q
  exact q
abbrev ql:Stmt:=top 84
theorem vX:aG ["cell","k","mark"] ["cell","k"] (ao ql):=by walk_at "sc"
def peb (c k:Int):Int:=((c % 8589934583+4409)*(2*k+3)+90001*k) ^ 3 % 68719476731 / 32
theorem acW (c k:Int):0<=peb c k:=Int.ediv_nonneg (agW _ (by decide)) (by decide)
theorem Om (c k:Int)(h0:0<=k)(h1:k<=1000):((c % 8589934583+4409)*(2*k+3)+90001*k).natAbs<2 ^ 64:=by
 have a0:=agW c (show (8589934583:Int)≠0 by decide);have a1:=agP c (show (0:Int)<8589934583 by decide);have hp:0<=(c % 8589934583+4409)*(2*k+3):=Int.mul_nonneg (by omega) (by omega);have hq:(c % 8589934583+4409)*(2*k+3)<=8589939000*2003:=Int.mul_le_mul (by omega) (by omega) (by omega) (by decide);omega
inductive V2 (vs:List V)(H:Hp)(Q:VK)(E:XK):Prop
 | mk (c k:Int)(_:vs=[.int c,.int k])(_:0<=k)(_:k<=1000)(_:Q (.int (peb c k)) H)
variable {qK:Addr}{qU:FuncData}(dh:Df K mg "_law_pebble" ql ["cell","k"] qK qU)
include dh in
theorem ac7:(CX0|||1) qK qU ["cell","k"] V2:=by
 refine dh.F.ok vX ?_ ?_;walk_at "i";obtain ⟨c,k,rfl,h0,h1,q⟩:=h;refine ⟨_,(aF (2<$>vX<$>(bD ud (bD Ez (bD ud (bD gb (pv 0) aA) aA) (bD ud (bD Ez aA (pv 1)) aA)) (bD Ez aA (pv 1))))
  (aK (aP (bD pB (bD gb (bD Wi (pv 2) aA) aA) aA)))),?_⟩
 refine aeP ?_;intro zu0;refine ⟨_,rfl,_,_,rfl,rfl,(by show (0:Int)<8589934583;decide),_,_,rfl,rfl,?_⟩;refine ⟨_,rfl,_,_,rfl,rfl,.inl ⟨by decide,by decide⟩,_,_,rfl,rfl,_,_,rfl,rfl,.inr ⟨by omega,by omega⟩,?_⟩;refine ⟨_,rfl,_,_,rfl,rfl,.inl ⟨by decide,by decide⟩,_,_,rfl,rfl,?_⟩;refine ⟨_,rfl,_,_,rfl,rfl,⟨by decide,by decide,Om c k h0 h1⟩,_,_,rfl,rfl,(by show (0:Int)<68719476731;decide),_,_,rfl,rfl,⟨by decide,by decide⟩,?_⟩;exact q
abbrev lA:Stmt:=top 85
theorem BK:aG ["cell","many"] ["cell","many"] (ao lA):=by walk_at "sc"
def TJ (c:Int)(n:Nat):List Int:=(List.range n).map fun (i:Nat)=>peb c (i:Int)
theorem QZ (c:Int)(n:Nat):TJ c (n+1)=TJ c n++[peb c (n:Int)]:=by
 unfold TJ;rw [ahI,aga];rfl
theorem Bm (c:Int)(n:Nat):(TJ c n).length=n:=by unfold TJ;simp
inductive Qn (vs:List V)(H:Hp)(Q:VK)(E:XK):Prop
 | mk (c m:Int)(_:vs=[.int c,.int m])(_:-1000<=m)(_:m<=1000)(_:acq H (fun xs=>xs=(TJ c m.toNat).map V.int) Q)
variable (mR:(CX0|||1) qK qU ["cell","k"] V2)
variable {pF:Addr}{pK:FuncData}(d9:Df K mg "_law_pebbles" lA ["cell","many"] pF pK)
include dh mR d9 in
theorem abA (B:Blt mg):(CX0|||2) pF pK ["cell","many"] Qn:=by
 refine d9.F.ok BK ?_ ?_;walk_at "i";obtain ⟨c,m,rfl,h0,h1,q⟩:=h;refine ⟨_,(aK (aP (fM (ao lA) rfl ["cell","many"] rfl ["k","cell"] [none,some 0] (by decide+kernel) (by decide+kernel) (by decide+kernel) rfl (jW rfl B.range (aq (pv 1) ak)) (fun _ _ _=>(bB (i:=0) (show (["k","cell"]:List Str).Nodup by decide+kernel) rfl (Or.inl rfl))) (fun _ _ _=>eG) (fun _ _ _=>(dh<*mR<*(aq (pv 1) (aq (pv 0) ak))))))),?_⟩;refine ⟨_,rfl,m,rfl,by omega,by omega,fun acc hacc=>?_⟩;refine vL (fun i τ H2=>∃ v,τ=[v,some (.int c)]/\Same H H2/\H2 acc=some (.lst ((TJ c i).map V.int))) ⟨none,rfl,(Same.refl H).upd hacc,aO⟩ ?_ ?_
 ·rintro i τ H2 hi ⟨v,rfl,s2,h2⟩;refine JH ?_;refine ⟨_,rfl,_,rfl,c,_,rfl,by omega,by omega,?_⟩;refine ⟨_,h2,aH (by rw [aeu,Bm];omega),_,rfl,s2.upd hacc,?_⟩;rw [aO,QZ,aga,show (0:Int)+(i:Int)=(i:Int) by omega];rfl
 ·rintro τ H2 ⟨v,rfl,s2,h2⟩;exact q acc H2 _ s2 hacc h2 rfl
abbrev tX:Stmt:=top 86
theorem fD:aG ["xs","cell","order","onward","k","place","at","found"] ["xs","cell"] (ao tX):=by walk_at "sc"
inductive Le (K:PySem.W.Frag)(vs:List V)(H:Hp)(Q:VK)(E:XK):Prop
 | mk (a:Addr)(ns:List Int)(c:Int)(_:vs=[.ref a,.int c])(_:SqL K H a (ns.map V.int))(_:ns.length<=900)(_:acq H (fun xs=>∃ r,xs=r.map V.int/\Rv.jK r/\r.length=ns.length+1) Q)
theorem Vz (o:List Nat)(i k:Nat):((o.map fun j:Nat=>V.int (j:Int)).take i++V.int (k:Int)::(o.map fun j:Nat=>V.int (j:Int)).drop i)=(o.take i++k::o.drop i).map fun j:Nat=>V.int (j:Int):=by
 rw [aga,agH,List.map_take,List.map_drop]
variable {uH:Addr}{uW:FuncData}(jd:Df K mg "_law_river" tX ["xs","cell"] uH uW)
include dh mR jd in
theorem UG (B:Blt mg):(CX0|||2) uH uW ["xs","cell"] (Le K):=by
 refine jd.F.ok fD ?_ ?_
 walk_at "i"
 obtain ⟨a,ns,c,rfl,hS,hn,q⟩:=h
 refine ⟨_,(aF (2<$>fD<$>(dM (aq aA ak)))
  (aF (3<$>fD<$>(dM (aq (Eh vU aA) ak)))
  (aF (f9 agC rfl (jW rfl B.range (aq (aD aB rfl B.len agk (aq (pv 0) ak)) ak)) (4>>fD)
   (aF (aM (kh agn PySem.F.slot_list_insert PySem.F.type_list_insert Rn (pv 2) (aq (bD gb (dh<*mR<*(aq (pv 1) (aq (pv 4) ak))) (bD ud (pv 4) aA)) (aq (bD ud (pv 4) aA) ak))))
   (aK (cM (aR kj (bD gb (aZ aU (pv 0) (pv 4) (fun _ _=>rfl)) aA) aA (bf _))
    (aK (aM (kh agn ago agp bC (pv 3) (aq (Eh vU aA) ak))))
    (aK (cM (aR kj (bD gb (bD pB (aZ aU (pv 0) (pv 4) (fun _ _=>rfl)) aA) aA) aA (bf _))
     (aK (aM (kh agn ago agp bC (pv 3) (aq (pv 4) ak))))
     (aK (aM (kh agn ago agp bC (pv 3) (aq (bD gb (bD pB (aZ aU (pv 0) (pv 4) (fun _ _=>rfl)) aA) (bD ud (pv 4) aA)) ak))))))))))
  (aF (5<$>fD<$>(bD Cq (dM (aq aA ak)) (aD aB rfl B.len agk (aq (pv 2) ak))))
  (aF (f9 agC rfl (jW rfl B.range (aq (aD aB rfl B.len agk (aq (pv 2) ak)) ak)) (6>>fD)
   (aK (gQ (pv 6) (pX (pv 5) (aZ aU (pv 2) (pv 6) (fun _ _=>rfl)) set_list))))
  (aF (7<$>fD<$>(bD Cq (dM (aq (Eh vU aA) ak)) (aD aB rfl B.len agk (aq (pv 2) ak))))
  (aF (f9 agC rfl (QX rfl B.range (aq aA (aq (aD aB rfl B.len agk (aq (pv 2) ak)) ak))) (4>>fD)
   (aK (cM (aR Cr (aZ aU (pv 3) (pv 4) (fun _ _=>rfl)) (Eh vU aA) (bf _))
    (aK (gQ (aZ aU (pv 5) (aZ aU (pv 3) (pv 4) (fun _ _=>rfl)) (fun _ _=>rfl)) (pX (pv 7) (aZ aU (pv 5) (pv 4) (fun _ _=>rfl)) set_list)))
    bA)))
  (aK (aP (pv 7)))))))))),?_⟩
 refine sl_7 ?_
 intro zu0 zu1 zu2 zu3 zu4 zu5 zu6 zu7 zu8 zu9 zu10 zu11 zu12 zu13 zu14 zu15
 refine ⟨by decide,fun lo hlo=>?_⟩
 refine ⟨_,rfl,by decide,fun lw hlw=>?_⟩
 have nlo:H lo=none:=hlo
 have nlw:H lw=none:=((Same.refl H).upd hlo).free hlw
 have now:lo≠lw:=aY (H:=upd H lo _) aO hlw
 have s1:Same H (upd (upd H lo (.lst [V.int 0])) lw (.lst [V.int (-1)])):=((Same.refl H).upd nlo).upd nlw
 refine ⟨_,rfl,a,_,rfl,.inl (s1.seq hS),_,rfl,by rw [aeu];omega,by rw [aeu];omega,?_⟩
 rw [aeu,agm]
 refine yL (n:=ns.length) (fun i σ H2=>∃ (o:List Nat)(wd:List Int)(v4:Option V),σ=[some (.ref a),some (.int c),some (.ref lo),some (.ref lw),v4,none,none,none]/\Same H H2 /\
  H2 lo=some (.lst (o.map fun j:Nat=>V.int (j:Int)))/\H2 lw=some (.lst (wd.map V.int))/\Rv.Ord (i+1) o/\Rv.Onw (i+1) wd)
  ⟨[0],[-1],none,rfl,s1,by rw [aN now,aO];rfl,by rw [aO];rfl,Rv.Ord.one,Rv.Onw.one⟩ ?_ ?_
 ·rintro i σ H2 hi ⟨o,wd,v4,rfl,s2,hO,hW,O,W⟩
  have zi:(0:Int)+(i:Int)=(i:Int):=by omega
  rw [zi]
  have xi:ns[i]?=some (ns.getD i 0):=by rw [agj,af9 hi];rfl
  refine ⟨_,rfl,.inl ⟨rfl,_,SqL.of hO⟩,_,rfl,_,rfl,c,_,rfl,by omega,by omega,_,rfl,_,_,rfl,rfl,_,_,rfl,rfl,by omega,_,rfl,_,_,rfl,rfl,?_⟩
  have m0:=agW (peb c (i:Int)) (show ((i:Int)+2)≠0 by omega)
  have m1:=agP (peb c (i:Int)) (show (0:Int)<(i:Int)+2 by omega)
  have hol:=O.len
  refine ⟨lo,_,V.int ((i+1:Nat):Int),peb c (i:Int) % ((i:Int)+2),rfl,rfl,hO,m0,by rw [aeu];omega,aH (by rw [aeu];omega),?_⟩
  generalize (peb c (i:Int) % ((i:Int)+2)).toNat=j
  have O2:=O.ins j
  rw [Vz]
  have s3:=s2.upd (o:=.lst ((o.take j++(i+1)::o.drop j).map fun j:Nat=>V.int (j:Int))) nlo
  have hW3:(upd H2 lo (.lst ((o.take j++(i+1)::o.drop j).map fun j:Nat=>V.int (j:Int)))) lw=some (.lst (wd.map V.int)):=by rw [aN now.symm];exact hW
  have fin:∀ y:Int,(y=-1\/(0<=y/\y<(i+1:Nat)))->∃ (o':List Nat)(wd':List Int)(v4':Option V),
    ([some (.ref a),some (.int c),some (.ref lo),some (.ref lw),some (V.int (i:Int)),none,none,none]:St)=[some (.ref a),some (.int c),some (.ref lo),some (.ref lw),v4',none,none,none] /\
    Same H (upd (upd H2 lo (.lst ((o.take j++(i+1)::o.drop j).map fun j:Nat=>V.int (j:Int)))) lw (.lst (wd.map V.int++[V.int y]))) /\
    (upd (upd H2 lo (.lst ((o.take j++(i+1)::o.drop j).map fun j:Nat=>V.int (j:Int)))) lw (.lst (wd.map V.int++[V.int y]))) lo=some (.lst (o'.map fun j:Nat=>V.int (j:Int))) /\
    (upd (upd H2 lo (.lst ((o.take j++(i+1)::o.drop j).map fun j:Nat=>V.int (j:Int)))) lw (.lst (wd.map V.int++[V.int y]))) lw=some (.lst (wd'.map V.int))/\Rv.Ord (i+1+1) o'/\Rv.Onw (i+1+1) wd' :=
   fun y hy=>⟨_,wd++[y],_,rfl,s3.upd nlw,by rw [aN now,aO],by rw [aO,aga];rfl,O2,W.app hy⟩
  have hwl:=W.len
  have hz:(wd.map V.int).length<sizeLine:=aH (by rw [aeu];omega)
  refine ⟨_,rfl,_,rfl,a,_,_,_,rfl,rfl,s3.seq hS,cu xi,_,_,rfl,rfl,(by show (0:Int)<7;decide),rfl,_,rfl,?_⟩
  refine abQ (fun _=>?_) (fun _=>?_)
  ·exact ⟨_,rfl,.inl ⟨rfl,_,SqL.of hW3⟩,_,rfl,lw,_,_,rfl,rfl,hW3,hz,fin (-1) (.inl rfl)⟩
  ·refine ⟨_,rfl,_,rfl,a,_,_,_,rfl,rfl,s3.seq hS,cu xi,_,_,rfl,rfl,⟨by decide,by decide⟩,_,_,rfl,rfl,(by show (0:Int)<2;decide),rfl,_,rfl,?_⟩
   refine abQ (fun _=>?_) (fun _=>?_)
   ·exact ⟨_,rfl,.inl ⟨rfl,_,SqL.of hW3⟩,_,rfl,lw,_,_,rfl,rfl,hW3,hz,fin (i:Int) (.inr ⟨by omega,by omega⟩)⟩
   ·refine ⟨_,rfl,.inl ⟨rfl,_,SqL.of hW3⟩,_,rfl,_,rfl,a,_,_,_,rfl,rfl,s3.seq hS,cu xi,_,_,rfl,rfl,⟨by decide,by decide⟩,_,rfl,_,_,rfl,rfl,_,_,rfl,rfl,by omega,lw,_,_,rfl,rfl,hW3,hz,fin _ (.inr ⟨?_,?_⟩)⟩
    ·exact agW _ (by omega)
    ·have:=agP (ns.getD i 0 / 14) (show (0:Int)<(i:Int)+1 by omega)
     omega
 ·rintro σ H2 ⟨o,wd,v4,rfl,s2,hO,hW,O,W⟩
  have hol:=O.len
  have hwl:=W.len
  refine ⟨by decide,fun l0 hl0=>?_⟩
  have n0:H l0=none:=s2.free hl0
  have nO:lo≠l0:=aY hO hl0
  have nW:lw≠l0:=aY hW hl0
  have hO3:(upd H2 l0 (.lst [V.int 0])) lo=some (.lst (o.map fun j:Nat=>V.int (j:Int))):=by rw [aN nO];exact hO
  refine ⟨_,rfl,lo,_,rfl,.inl (SqL.of hO3),l0,_,_,rfl,rfl,aO,by omega,?_,?_,fun lp hlp=>?_⟩
  ·rw [aeu,hol];omega
  ·rw [aeu,hol];exact jL (by rw [agm];simp;omega)
  have s3:Same H (upd H2 l0 (.lst [V.int 0])):=s2.upd n0
  have np:H lp=none:=s3.free hlp
  have nOp:lo≠lp:=aY hO3 hlp
  have hW3:(upd H2 l0 (.lst [V.int 0])) lw=some (.lst (wd.map V.int)):=by rw [aN nW];exact hW
  have nWp:lw≠lp:=aY hW3 hlp
  have e0:(List.replicate ((o.map fun j:Nat=>V.int (j:Int)).length:Int).toNat [V.int 0]).flatten=(List.replicate (ns.length+1) (0:Int)).map V.int:=by
   rw [aeu,hol,agm,List.map_replicate]
   exact J3 _ _
  generalize hH4:(upd (upd H2 l0 (.lst [V.int 0])) lp (.lst (List.replicate ((o.map fun j:Nat=>V.int (j:Int)).length:Int).toNat [V.int 0]).flatten))=H4
  have s4:Same H H4:=by rw [<- hH4];exact s3.upd np
  have hO4:H4 lo=some (.lst (o.map fun j:Nat=>V.int (j:Int))):=by rw [<- hH4,aN nOp];exact hO3
  have hW4:H4 lw=some (.lst (wd.map V.int)):=by rw [<- hH4,aN nWp];exact hW3
  have hP4:H4 lp=some (.lst ((List.replicate (ns.length+1) (0:Int)).map V.int)):=by rw [<- hH4,aO,e0]
  refine ⟨_,rfl,lo,_,rfl,.inl (SqL.of hO4),_,rfl,by rw [aeu];omega,by rw [aeu];omega,?_⟩
  rw [aeu,hol,agm]
  refine yL (n:=ns.length+1) (fun i σ H5=>∃ (pl:List Int)(v6:Option V),σ=[some (.ref a),some (.int c),some (.ref lo),some (.ref lw),v4,some (.ref lp),v6,none]/\Same H H5 /\
   H5 lo=some (.lst (o.map fun j:Nat=>V.int (j:Int)))/\H5 lw=some (.lst (wd.map V.int))/\H5 lp=some (.lst (pl.map V.int))/\Rv.Plc (ns.length+1) o i pl)
   ⟨_,none,rfl,s4,hO4,hW4,hP4,Rv.Plc.start _ _ _ (by simp)⟩ ?_ ?_
  ·rintro i σ H5 hi ⟨pl,v6,rfl,s5,hO5,hW5,hP5,PL⟩
   have zi:(0:Int)+(i:Int)=(i:Int):=by omega
   rw [zi]
   have hio:i<o.length:=by omega
   have hj:o[i]<ns.length+1:=O.lt (ahd hio)
   have oj:o[i]?=some o[i]:=af9 hio
   have pll:=PL.len
   refine ⟨_,rfl,_,rfl,_,rfl,_,rfl,lo,_,_,_,rfl,rfl,SqL.of hO5,dU (v:=V.int (o[i]:Int)) (by rw [agg,oj];rfl),lp,_,_,_,rfl,rfl,hP5,gZ (by rw [aeu,pll];exact hj),?_⟩
   refine ⟨_,_,rfl,s5.upd np,by rw [aN nOp];exact hO5,by rw [aN nWp];exact hW5,by rw [aO,<- agV],PL.turn O oj⟩
  ·rintro σ H5 ⟨pl,v6,rfl,s5,hO5,hW5,hP5,PL⟩
   have pll:=PL.len
   refine ⟨_,rfl,by decide,fun l1 hl1=>?_⟩
   have n1:H l1=none:=s5.free hl1
   have mO:lo≠l1:=aY hO5 hl1
   have mW:lw≠l1:=aY hW5 hl1
   have mP:lp≠l1:=aY hP5 hl1
   have hO6:(upd H5 l1 (.lst [V.int (-1)])) lo=some (.lst (o.map fun j:Nat=>V.int (j:Int))):=by rw [aN mO];exact hO5
   refine ⟨_,rfl,lo,_,rfl,.inl (SqL.of hO6),l1,_,_,rfl,rfl,aO,by omega,?_,?_,fun lf hlf=>?_⟩
   ·rw [aeu,hol];omega
   ·rw [aeu,hol];exact jL (by rw [agm];simp;omega)
   have s6:Same H (upd H5 l1 (.lst [V.int (-1)])):=s5.upd n1
   have nf:H lf=none:=s6.free hlf
   have hW6:(upd H5 l1 (.lst [V.int (-1)])) lw=some (.lst (wd.map V.int)):=by rw [aN mW];exact hW5
   have hP6:(upd H5 l1 (.lst [V.int (-1)])) lp=some (.lst (pl.map V.int)):=by rw [aN mP];exact hP5
   have nOf:lo≠lf:=aY hO6 hlf
   have nWf:lw≠lf:=aY hW6 hlf
   have nPf:lp≠lf:=aY hP6 hlf
   have e1:(List.replicate ((o.map fun j:Nat=>V.int (j:Int)).length:Int).toNat [V.int (-1)]).flatten=(List.replicate (ns.length+1) (-1:Int)).map V.int:=by
    rw [aeu,hol,agm,List.map_replicate]
    exact J3 _ _
   generalize hH7:(upd (upd H5 l1 (.lst [V.int (-1)])) lf (.lst (List.replicate ((o.map fun j:Nat=>V.int (j:Int)).length:Int).toNat [V.int (-1)]).flatten))=H7
   have s7:Same H H7:=by rw [<- hH7];exact s6.upd nf
   have hO7:H7 lo=some (.lst (o.map fun j:Nat=>V.int (j:Int))):=by rw [<- hH7,aN nOf];exact hO6
   have hW7:H7 lw=some (.lst (wd.map V.int)):=by rw [<- hH7,aN nWf];exact hW6
   have hP7:H7 lp=some (.lst (pl.map V.int)):=by rw [<- hH7,aN nPf];exact hP6
   have hF7:H7 lf=some (.lst ((List.replicate (ns.length+1) (-1:Int)).map V.int)):=by rw [<- hH7,aO,e1]
   refine ⟨_,rfl,lo,_,rfl,.inl (SqL.of hO7),_,_,rfl,⟨by decide,by decide,by rw [aeu];omega,by rw [aeu];omega⟩,?_⟩
   rw [aeu,hol,show (((ns.length+1:Nat):Int) - 1).toNat=ns.length by omega]
   refine yL (n:=ns.length) (fun i σ H8=>∃ (r:List Int)(v4':Option V),σ=[some (.ref a),some (.int c),some (.ref lo),some (.ref lw),v4',some (.ref lp),v6,some (.ref lf)]/\Same H H8 /\
    H8 lo=some (.lst (o.map fun j:Nat=>V.int (j:Int)))/\H8 lw=some (.lst (wd.map V.int))/\H8 lp=some (.lst (pl.map V.int))/\H8 lf=some (.lst (r.map V.int))/\Rv.Fnd (ns.length+1) o i r)
    ⟨_,v4,rfl,s7,hO7,hW7,hP7,hF7,Rv.Fnd.start _ _ _ (by simp) (fun x hx=>(List.mem_replicate.mp hx).2)⟩ ?_ ?_
   ·rintro i σ H8 hi ⟨r,v4',rfl,s8,hO8,hW8,hP8,hF8,FD⟩
    have zi:(1:Int)+(i:Int)=((i+1:Nat):Int):=by omega
    rw [zi]
    have hiw:i+1<wd.length:=by omega
    have wi:wd[i+1]?=some wd[i+1]:=af9 hiw
    have fl:=FD.len
    refine ⟨_,rfl,_,rfl,lw,_,_,_,rfl,rfl,SqL.of hW8,cu wi,_,rfl,rfl,_,rfl,?_⟩
    by_cases hm:wd[i+1]=-1
    ·rw [hm]
     refine abP rfl ?_
     exact ⟨r,_,rfl,s8,hO8,hW8,hP8,hF8,FD.same _⟩
    ·have hd:(!decide (V.int wd[i+1]=V.int (-1)))=true:=by simp [hm]
     rw [hd]
     refine vP ?_
     obtain ⟨w0,w1⟩:=(W.lt _ _ wi).resolve_left hm
     obtain ⟨ka,hka,pa,oa⟩:=PL.all O (k:=i+1) (by omega)
     obtain ⟨kb,hkb,pb,ob⟩:=PL.all O (k:=wd[i+1].toNat) (by omega)
     refine ⟨_,rfl,_,rfl,_,rfl,lw,_,_,_,rfl,rfl,SqL.of hW8,cu wi,lp,_,_,_,rfl,rfl,SqL.of hP8,qC w0 pb,_,rfl,_,rfl,_,rfl,lp,_,_,_,rfl,rfl,SqL.of hP8,cu pa,lf,_,_,_,rfl,rfl,hF8,gZ (by rw [aeu,fl];exact hka),?_⟩
     refine ⟨_,_,rfl,s8.upd nf,by rw [aN nOf];exact hO8,by rw [aN nWf];exact hW8,by rw [aN nPf];exact hP8,by rw [aO,<- agV],FD.turn hkb oa ob (by omega) _⟩
   ·rintro σ H8 ⟨r,v4',rfl,s8,hO8,hW8,hP8,hF8,FD⟩
    exact ⟨_,rfl,q lf H8 _ s8 nf hF8 ⟨r,rfl,FD.wN O,FD.len⟩⟩
abbrev lF:Stmt:=top 28
theorem Ge:aG ["below"] ["below"] (ao lF):=by walk_at "sc"
def acP (K:PySem.W.Frag)(H:Hp)(a:Addr)(r:List Int):Prop:=SqL K H a (r.map V.int)/\Rv.jK r/\r.length<64
def iz:Pos × Str:=(⟨63,41,63,90⟩,"tops_first.<locals>.<lambda>")
def TT1 (P:Addr)(T:fJ):Prop:=(P,iz.1,iz.2)∈T/\(T.map (·.1)).Nodup
inductive Qg (K:PySem.W.Frag)(T:fJ)(vs:List V)(H:Hp)(Q:VK)(E:XK):Prop
 | mk (a:Addr)(r:List Int)(_:vs=[.ref a])(_:acP K H a r)(_:TabsOk T H)(_:zX T H (fun xs=>∃ p,xs=p.map (fun (i:Nat)=>V.int (i:Int))/\Rv.TY r p) Q)
variable {r:List Int}{i:Nat}
theorem abM (hi:i<64)(hj:j<64):HT.lexLt [-((Rv.walk r (i:Int)).length:Int),(i:Int)] [-((Rv.walk r (j:Int)).length:Int),(j:Int)]=decide (Rv.kap r i<Rv.kap r j):=by
 unfold Rv.kap;rw [HT.pY,HT.pY,HT.yJ];rw [ag6];split
 ·split
  ·simp only [ahq,decide_eq_true_eq,false_iff];omega
  ·simp only [decide_eq_true_eq];omega
 ·simp only [decide_eq_true_eq];omega
variable {f:Addr}{fd:FuncData}
include gK vN in
theorem abw {pT cT:Addr}(D:Df K mg "tops_first" lF ["below"] f fd)(hcd:fd.code=.ref cT)(hhd:PySem.W.codeHdIn K cT pT=true)(hT:TT1 pT T)(hbm:BM mg base)(B:Blt mg):(CX0|||5) f fd ["below"] (Qg K T):=by
 refine D.F.okC hcd Ge (fun vs H Q E h=>?_) (fun A outer s H vs Q E hr h=>?_)
 ·obtain ⟨a,r,rfl,_⟩:=h;rfl
 ·obtain ⟨a,r,rfl,⟨hS,hR,h64⟩,tk,q⟩:=h;refine ⟨_,(aK (aP (Af (P:=pT) (c:=cT) (p:="reach") (ao lF) rfl ["below"] rfl ["below"] [some 0] (by decide+kernel) (by decide+kernel) (by decide+kernel) rfl hbm rfl hhd (MN hr.m) rfl B.sorted rfl B.range (aq (aD aB rfl B.len agk (aq (pv 0) ak)) ak) (fun A f cv s H hh hd hu=>(fH (aq (Eh vU (aD (yQ (K:=K) rfl) rfl B.len agk (aq (Cm vN (MK hr.m hh hd hu) rfl gK.m gK.F.kp gK.b .nil jw (aq (pv 1) (aq (pv 0) ak))) ak))) (aq (pv 0) ak)))) (fun _ _ _ _=>rfl)))),?_⟩;have hl:(r.map V.int).length=r.length:=aeu _;refine ⟨_,rfl,a,_,rfl,.inl hS,r.length,by rw [hl],h64,tk _ hT.1,fun H2 k1 k2 t2=>?_⟩;have sT:aJ T H H2:=aJ.tab tk hT.1 hT.2 k1 t2;refine ⟨fun i ts H3=>aJ T H2 H3/\ts.length=i/\∀ (j:Nat)(t:Addr),ts[j]?=some t->H3 t=some (.tup ([-((Rv.walk r (j:Int)).length:Int),(j:Int)].map V.int)),fun i=>[-((Rv.walk r (i:Int)).length:Int),(i:Int)],Rv.kap r,1,⟨aJ.refl sT.t1,rfl,fun j t e=>by simp at e⟩,?_,?_,fun _ _=>rfl,fun i j hi hj=>abM (by omega) (by omega),?_,?_⟩
  ·rintro i ts H3 hi ⟨s3,htl,h3⟩;refine ⟨fun c' e=>s3.keep c' _ e fun ps z=>(by cases z),?_⟩;refine ⟨_,rfl,_,rfl,a,r,(i:Int),rfl,(sT.trans s3).seq hS,hR,by omega,by omega,by omega,fun l H4 xs s4 n4 h4 e4=>?_⟩;subst e4;refine ⟨l,_,rfl,.inl (SqL.of h4),_,rfl,_,rfl,(by show 2<=sizeLine;decide),fun t ht=>⟨t,rfl,?_⟩⟩;have sT4:aJ T H2 H4:=s3.trans (aJ.of s3.t1 s4);have nt:H2 t=none:=sT4.free ht;refine ⟨sT4.upd nt (.inl ht),by rw [agh,htl];rfl,fun j t' e=>?_⟩;by_cases hj:j<ts.length
   ·rw [ahr hj] at e;have h4':=s4 _ _ (h3 j t' e);rw [aN (aY h4' ht)];exact h4'
   ·rw [ahf (by omega)] at e;have hj0:j - ts.length=0:=by
     have:=(af4.mp e).1;simp at this;omega
    have hji:j=i:=by omega
    rw [hj0] at e;simp at e;subst e;subst hji;rw [aO,aeu];rfl
  ·rintro ts H3 ⟨_,_,h3⟩;exact h3
  ·intro i j hi hj hij e;unfold Rv.kap at e;omega
  ·rintro ts H3 D' ys ⟨s3,_,_⟩ hD ⟨p,hp,rfl,ho⟩;have hbl:(kE r.length).length=r.length:=by unfold kE;simp
   rw [hbl] at hp;refine q D' _ _ ((sT.trans s3).upd ((sT.trans s3).free hD) (.inl hD)) ((sT.trans s3).free hD) aO ⟨p,?_,hp,ho⟩;refine List.map_congr_left fun i hi=>?_;have hi':i<r.length:=agK.mp (hp.mem_iff.mp hi);show (kE r.length).getD i .non=_;unfold kE;rw [agj,agg,ahG hi'];rfl
abbrev tH:Stmt:=top 52
theorem qb:aG ["below","springs","flows","reach"] ["below","springs"] (ao tH):=by walk_at "sc"
inductive V4 (K:PySem.W.Frag)(T:fJ)(vs:List V)(H:Hp)(Q:VK)(E:XK):Prop
 | mk (a b:Addr)(r s:List Int)(_:vs=[.ref a,.ref b])(_:acP K H a r)(_:SqL K H b (s.map V.int))(_:s.length=r.length)(_:TabsOk T H)(_:zX T H (fun xs=>xs=(Rv.nats r s).map V.int) Q)
variable {Ah:Addr}{Ak:FuncData}(lM:Df K mg "tops_first" lF ["below"] Ah Ak)
variable (Ao:(CX0|||5) Ah Ak ["below"] (Qg K T))
variable {ux:Addr}{uP:FuncData}(dY:Df K mg "natural_of" tH ["below","springs"] ux uP)
include lM Ao dY in
theorem ac9 (B:Blt mg)(C:Mth mg):(CX0|||6) ux uP ["below","springs"] (V4 K T):=by
 obtain ⟨tM,hMOUTH⟩:=C.MOUTH
 refine dY.F.ok qb ?_ ?_
 walk_at "i"
 obtain ⟨a,b,r,sp,rfl,⟨hS,hR,h64⟩,hB,hl,tk,q⟩:=h
 refine ⟨_,(aF (2<$>qb<$>(bL bh rfl B.list agy (aq (pv 1) ak)))
  (aF (f9 agC rfl (cJ (lM<*Ao<*(aq (pv 0) ak))) (3>>qb)
   (aK (cM (aR Cr (aZ aU (pv 0) (pv 3) (fun _ _=>rfl)) (fP (v:=.int (-1)) rfl hMOUTH ⟨_,rfl⟩) (bf _))
    (aK (wR (pv 2) (aZ aU (pv 0) (pv 3) (fun _ _=>rfl)) qD (aZ aU (pv 2) (pv 3) (fun _ _=>rfl)) M4 set_list))
    bA)))
  (aK (aP (pv 2))))),?_⟩
 refine sl_8 ?_
 intro zu0 zu1 zu2 zu3
 have O:=Ow.refl tk
 refine ⟨_,rfl,b,_,rfl,.inl hB,fun lf hlf=>?_⟩
 walk_at "new";intro H1 O
 refine ⟨_,rfl,a,r,rfl,⟨O.same.seq hS,hR,h64⟩,O.same.t1,O.M6 fun lt H2 xs O ⟨p,ep,hp⟩=>?_⟩
 subst ep
 refine ⟨lt,rfl,⟨_,O.sq 0⟩,?_⟩
 refine iB (K:=K) (a:=lt) (xs:=p.map fun (i:Nat)=>V.int (i:Int)) (fun t σ H3=>∃ (v3:Option V)(fl:List Int),σ=[some (.ref a),some (.ref b),some (.ref lf),v3]/\Ow T H H3 [(lt,.lst (p.map fun (i:Nat)=>V.int (i:Int))),(lf,.lst (fl.map V.int))]/\Rv.Nr r sp p t fl)
  ⟨none,sp,rfl,O,Rv.Nr.start r sp p hl⟩ (fun _ _ _ _ ⟨_,_,_,O,_⟩=>O.sq 0) ?_ ?_
 ·rintro t y σ H3 hy ⟨v3,fl,rfl,O,N⟩
  rw [agg] at hy
  obtain ⟨j,hj,rfl⟩:∃ j,p[t]?=some j/\y=V.int (j:Int):=by
   cases e:p[t]? with
   | none=>rw [e] at hy;cases hy
   | some j=>rw [e] at hy;exact ⟨j,rfl,(agz hy).symm⟩
  have hjr:=hp.lt (agd hj)
  have gj:=Rv.lW (r:=r) (p:=(j:Int)) (by omega) (by omega)
  have aj:=qC (ns:=r) (i:=(j:Int)) (by omega) gj
  have here:=N.here hp hR h64 hj
  refine ⟨_,rfl,_,rfl,a,_,_,_,rfl,rfl,O.same.seq hS,aj,rfl,_,rfl,?_⟩
  rcases hR.step (p:=(j:Int)) (by omega) (by omega) with hm| ⟨n0,n1⟩
  ·rw [hm]
   refine abP rfl ?_
   exact ⟨_,fl,rfl,O,N.afi hj hm⟩
  ·have hd:(!decide (V.int (Rv.nxt r (j:Int))=V.int (-1)))=true:=by
    have:¬ Rv.nxt r (j:Int)=-1:=by omega
    simp [this]
   rw [hd]
   refine vP ?_
   obtain ⟨bn,ebn⟩:=agA n0
   have hbl:bn<r.length:=by omega
   rw [ebn] at aj
   obtain ⟨x,hx⟩:∃ x,fl[bn]?=some x:=⟨_,N.at_ bn hbl⟩
   refine ⟨_,rfl,_,rfl,_,rfl,a,_,_,_,rfl,rfl,O.same.seq hS,aj,lf,_,bn,V.int x,rfl,rfl,O.sq 1,by rw [agg,hx];rfl,_,rfl,_,rfl,lf,_,_,_,rfl,rfl,O.sq 1,cu here,_,_,rfl,rfl,?_⟩
   refine uc O 1 rfl (gZ (by rw [aeu,N.len];exact hbl)) fun H4 O=>?_
   refine ⟨_,fl.set bn (x+Rv.EY r sp (j:Int)),rfl,?_,N.turn hp hR h64 hj ebn hbl hx⟩
   rw [agV];exact O
 ·rintro σ H3 ⟨v3,fl,rfl,O,N⟩
  rw [aeu,hp.len] at N
  exact ⟨_,rfl,O.ret 1 rfl q (by rw [N.done hp hR])⟩
abbrev sZ:Stmt:=top 30
theorem yt:aG ["below","start","stop","way"] ["below","start","stop"] (ao sZ):=by walk_at "sc"
theorem K1 (b:Int):∀ l:List Int,l.take (l.idxOf b)=l.takeWhile (fun x=>!decide (x=b))
 | []=>rfl
 | x::l=>by
  rw [List.idxOf_cons,List.takeWhile_cons];by_cases h:x=b
  ·simp [h]
  ·have e:(x ==b)=false:=by simp [h]
   rw [e,cond_false,List.take_succ_cons,K1 b l];simp [h]
theorem Vv (ns:List Int)(k:Nat):Kw (ns.map V.int) none (some (k:Int))=(ns.take k).map V.int:=by
 unfold Kw;rw [HT.Lz,HT.Ce,List.drop_zero,aeu,Nat.sub_zero,<- List.map_take];congr 1;rw [List.take_eq_take_iff];omega
inductive Ld (K:PySem.W.Frag)(vs:List V)(H:Hp)(Q:VK)(E:XK):Prop
 | mk (a:Addr)(r:List Int)(p b:Int)(_:vs=[.ref a,.int p,.int b])(_:SqL K H a (r.map V.int))(_:Rv.jK r)(_:0<=p)(_:p<r.length)(_:r.length<=900)(_:Rv.Stop r p b)(_:acq H (fun xs=>xs=(Rv.sy r p b).map V.int) Q)
variable {uo:Addr}{uL:FuncData}(dX:Df K mg "stretch_of" sZ ["below","start","stop"] uo uL)
include gK vN dX in
theorem Uz (C:Mth mg):(CX0|||2) uo uL ["below","start","stop"] (Ld K):=by
 obtain ⟨tM,hMOUTH⟩:=C.MOUTH
 refine dX.F.ok yt ?_ ?_
 walk_at "i"
 obtain ⟨a,r,p,b,rfl,hS,hR,p0,p1,hn,st,q⟩:=h
 refine ⟨_,(aF (3<$>yt<$>(gK<*vN<*(aq (pv 0) (aq (pv 1) ak))))
  (aF (cM (aR kj (pv 2) (fP (v:=.int (-1)) rfl hMOUTH ⟨_,rfl⟩) (bf _))
   (aK (aP (pv 3)))
   bA)
  (aF (cM (aR Ag (pv 2) (pv 3) (by rfl))
   (aK Ur)
   bA)
  (aK (aP (Bo Gb (pv 3) J4 (Ci (kh agn PySem.F.slot_list_index PySem.F.type_list_index Vb (pv 3) (aq (pv 2) ak))))))))),?_⟩
 refine sl_9 ?_
 intro zu0 zu1 zu2 zu3 zu4
 refine ⟨_,rfl,_,rfl,a,r,p,rfl,hS,hR,p0,p1,hn,fun lw H1 xs s1 n1 h1 e1=>?_⟩
 subst e1
 refine ⟨_,rfl,rfl,_,rfl,abQ (fun h=>?_) fun h=>?_⟩
 ·have hb:b=-1:=V.int.inj (of_decide_eq_true h)
  refine ⟨_,rfl,q lw H1 _ s1 n1 h1 ?_⟩
  unfold Rv.sy;rw [if_pos hb]
 ·have hb:¬ b=-1:=fun z=>h (decide_eq_true (by rw [z]))
  have hm:b∈Rv.walk r p:=st.resolve_left hb
  refine ⟨_,rfl,_,rfl,lw,_,rfl,.inl (SqL.of h1),rfl,CZ _,_,rfl,?_⟩
  rw [if_pos rfl,Kl,decide_eq_true hm]
  refine yp ?_
  refine ⟨_,rfl,_,rfl,.inl ⟨rfl,_,SqL.of h1⟩,_,rfl,lw,_,b,rfl,rfl,SqL.of h1,hm,_,rfl,lw,_,rfl,SqL.of h1,fun l hl=>?_⟩
  refine q l _ _ (s1.upd (s1.free hl)) (s1.free hl) aO ?_
  rw [Vv,K1]
  unfold Rv.sy;rw [if_neg hb]
abbrev tu:Stmt:=top 34
theorem jM:aG ["below","one","day","start","back","most"] ["below","one"] (ao tu):=by walk_at "sc"
def aej (r:List Int)(l:Lic):Prop:=0<=l.start/\l.start<r.length/\Rv.Stop r l.start l.back
inductive Ep (K:PySem.W.Frag)(vs:List V)(H:Hp)(Q:VK)(E:XK):Prop
 | mk (a t:Addr)(r:List Int)(l:Lic)(_:vs=[.ref a,.ref t])(_:SqL K H a (r.map V.int))(_:Rv.jK r)(_:r.length<=900)(_:SqT K H t (vq l))(_:aej r l)(_:acq H (fun xs=>xs=(Rv.sy r l.start l.back).map V.int) Q)
variable (oV:(CX0|||2) uo uL ["below","start","stop"] (Ld K))
variable {uq:Addr}{uM:FuncData}(iU:Df K mg "reaches_of" tu ["below","one"] uq uM)
include dX oV iU in
theorem Oi:
  (CX0|||3) uq uM ["below","one"] (Ep K):=by
 refine iU.F.ok jM ?_ ?_;walk_at "i";obtain ⟨a,t,r,l,rfl,hA,hR,hn,hT,ok,q⟩:=h;refine ⟨_,(aF (gQ (pv 1) (iH rfl (aC (2>>jM) (aC (3>>jM) (aC (4>>jM) (aC (5>>jM) cg))))))
  (aK (aP (dX<*oV<*(aq (pv 0) (aq (pv 3) (aq (pv 4) ak))))))),?_⟩
 refine aeP ?_;intro zu0;refine ⟨_,rfl,t,_,rfl,hT,rfl,_,_,rfl,_,_,rfl,_,_,rfl,_,_,rfl,rfl,?_⟩;exact ⟨_,rfl,_,rfl,_,rfl,a,r,l.start,l.back,rfl,hA,hR,ok.1,ok.2.1,hn,ok.2.2,q⟩
abbrev BW:Stmt:=top 38
theorem Oc:aG ["one"] ["one"] (ao BW):=by walk_at "sc"
inductive Qq (K:PySem.W.Frag)(vs:List V)(H:Hp)(Q:VK)(E:XK):Prop
 | mk (a:Addr)(l:Lic)(_:vs=[.ref a])(_:SqT K H a (vq l))(_:Q (.int l.most) H)
variable {Dd:Addr}{Dp:FuncData}(bH:Df K mg "most_of" BW ["one"] Dd Dp)
include bH in
theorem abB:(CX0|||1) Dd Dp ["one"] (Qq K):=by
 refine bH.F.ok Oc ?_ ?_;walk_at "i";obtain ⟨a,l,rfl,hT,q⟩:=h;refine ⟨_,(~~~(@aP _ _ _ _ (@aZ _ _ _ _ _ _ _ fQ (pv 0) aA (fun _ _=>rfl)))),?_⟩;exact ⟨_,rfl,_,_,_,_,rfl,rfl,hT,rfl,q⟩
abbrev vB:Stmt:=top 43
theorem JX:aG ["roll","calls"] ["roll","calls"] (ao vB):=by walk_at "sc"
def KH (ls:List Lic)(cs:List Int):List Int:=List.zipWith (fun l c=>min c l.most) ls cs
theorem adJ (i j:Int):(if j<i then j else i)=min i j:=by
 by_cases h:j<i
 ·rw [if_pos h];omega
 ·rw [if_neg h];omega
variable {β:Type}
theorem T3 {γ:Type}(f:α->β->γ){as:List α}{bs:List β}{a:α}{b:β}(ha:as[i]?=some a)(hb:bs[i]?=some b):List.zipWith f (as.take (i+1)) (bs.take (i+1))=List.zipWith f (as.take i) (bs.take i)++[f a b]:=by
 have h1:=(af4.mp ha);have h2:=(af4.mp hb);obtain ⟨l1,e1⟩:=h1;obtain ⟨l2,e2⟩:=h2;rw [List.take_succ,List.take_succ,ha,hb,List.zipWith_append (by rw [agt,agt];omega)];rfl
inductive La (K:PySem.W.Frag)(T:fJ)(vs:List V)(H:Hp)(Q:VK)(E:XK):Prop
 | mk (v:V)(b:Addr)(ls:List Lic)(cs:List Int)(_:vs=[v,.ref b])(_:Den K H v (SN ls))(_:SqL K H b (cs.map V.int))(_:ls.length=cs.length)(_:ls.length<=1000)(_:TabsOk T H)(_:zX T H (fun xs=>xs=(KH ls cs).map V.int) Q)
variable (fY:(CX0|||1) Dd Dp ["one"] (Qq K))
variable {zH:Addr}{zP:FuncData}(kW:Df K mg "wants_of" vB ["roll","calls"] zH zP)
include bH fY kW in
theorem Ux (B:Blt mg):
  (CX0|||2) zH zP ["roll","calls"] (La K T):=by
 refine kW.F.ok JX ?_ ?_;walk_at "i";obtain ⟨v,b,ls,cs,rfl,hd,hb,hlc,hlen,tk,q⟩:=h;obtain ⟨a,xs,rfl,hL,hds⟩:=hd.mK;have hxl:xs.length=ls.length:=by rw [hds.length,aeu]
 refine ⟨_,(aK (aP (fM (ao vB) rfl ["roll","calls"] rfl ["one","call"] [none,none] (by decide+kernel) (by decide+kernel) (by decide+kernel) rfl (Cj rfl B.zip (aq (pv 0) (aq (pv 1) ak))) (fun _ _ _=>(qy (K:=K) (n:=2) rfl rfl (aC (bB (i:=0) (show (["one","call"]:List Str).Nodup by decide+kernel) rfl (Or.inl rfl)) (aC (bB (i:=1) (show (["one","call"]:List Str).Nodup by decide+kernel) rfl (Or.inl rfl)) cg)))) (fun _ _ _=>eG) (fun _ _ _=>(aD (Jm rfl) rfl B.min PyProof.Rows.boot_min (aq (pv 1) (aq (bH<*fY<*(aq (pv 0) ak)) ak))))))),?_⟩;have O:=Ow.refl tk;refine ⟨_,rfl,_,rfl,a,b,_,_,rfl,hL,hb,fun acc hacc=>?_⟩;refine G3 (K:=K) (fun i τ H'=>Iv (∃ (v0 v1:Option V),τ=[v0,v1]/\Ow T H H' [(acc,.lst ((List.zipWith (fun l c=>min c l.most) (ls.take i) (cs.take i)).map V.int))])) (by rw [aeu];omega)
  ⟨trivial,none,none,rfl,O.mk' hacc rfl⟩ (fun i τ H' _ ⟨_,_,_,_,O⟩=>⟨O.same.seq hL,O.same.seq hb⟩) ?_ ?_
 ·rintro i x y t τ H' hx hy ⟨-,v0,v1,rfl,O⟩ ht;obtain ⟨z,hz,rfl⟩:=ints_get hy;obtain ⟨al,l,rfl,hl,hT⟩:=hds.CJ hx;have hi:=(af4.mp hz).1;walk_at "nw";refine ⟨t,_,rfl,O.sqT 0,rfl,_,_,rfl,_,_,rfl,rfl,?_⟩;refine acf ?_;refine ⟨_,rfl,_,rfl,al,l,rfl,hT.mo O.same,_,_,rfl,?_⟩;refine ⟨_,O.get 1,aH (by rw [aeu,ahn,agt];omega),?_⟩;walk_at "pt";refine ⟨trivial,_,_,rfl,?_⟩;rw [T3 _ hl hz,aga,<- adJ];exact O.tail
 ·rintro τ H' ⟨-,v0,v1,rfl,O⟩;refine O.ret 0 rfl q ?_;rw [hxl,agq (agb _),agq (by omega)];rfl
abbrev tV:Stmt:=top 55
theorem mD:aG ["free","ways","counts","way","reach"] ["free","ways"] (ao tV):=by walk_at "sc"
inductive Lp (K:PySem.W.Frag)(T:fJ)(vs:List V)(H:Hp)(Q:VK)(E:XK):Prop
 | mk (a:Addr)(v:V)(fs:List Int)(ws:List (List Int))(_:vs=[.ref a,v])(_:SqL K H a (fs.map V.int))(_:fs.length<=1000)(_:Den K H v (Nh ws))(_:(∀ w∈ws,Tn.WOk fs.length w))(_:TabsOk T H)(_:zX T H (fun xs=>xs=(Tn.bumps (List.replicate fs.length 0) (ws.map fun w=>(w,1))).map V.int) Q)
variable {uG:Addr}{uV:FuncData}(iZ:Df K mg "count_ways" tV ["free","ways"] uG uV)
include iZ in
theorem U3 (B:Blt mg):(CX0|||1) uG uV ["free","ways"] (Lp K T):=by
 refine iZ.F.ok mD ?_ ?_;walk_at "i";obtain ⟨a,v,fs,ws,rfl,hA,hfl,hd,hws,tk,q⟩:=h;obtain ⟨b,xs,rfl,hL,hds⟩:=hd.mK;have hxl:xs.length=ws.length:=by rw [hds.length,aeu]
 refine ⟨_,(aF (2<$>mD<$>(bD Cq (dM (aq aA ak)) (aD aB rfl B.len agk (aq (pv 0) ak))))
  (aF (f9 agC rfl (cJ (pv 1)) (3>>mD)
   (aK (f9 agC rfl (cJ (pv 3)) (4>>mD)
    (aK (wR (pv 2) (pv 4) qD aA M4 set_list)))))
  (aK (aP (pv 2))))),?_⟩
 refine acO ?_;intro zu0 zu1 zu2 zu3;have O:=Ow.refl tk;have s0:=O.same;walk_at "w";intro l1 h1;walk_at "nw";walk_at "w";refine ⟨l1,_,_,rfl,rfl,O.get 0,by rw [aeu];omega,by rw [aeu];omega,jL (by rw [aeu,agm];simp;omega),fun lc hlc=>?_⟩;walk_at "nw";rw [aeu,agm,yC] at O;have O:=O.two;refine ⟨_,rfl,b,rfl,⟨_,O.same.seq hL⟩,?_⟩;refine iB (K:=K) (xs:=xs) (fun i σ H'=>Iv (∃ v3 v4:Option V,σ=[some (.ref a),some (.ref b),some (.ref lc),v3,v4]/\Ow T H H' [(lc,.lst ((Tn.bumps (List.replicate fs.length 0) ((ws.take i).map fun w=>(w,1))).map V.int))]))
  ⟨trivial,none,none,rfl,O⟩ (fun i σ H' _ ⟨_,_,_,_,O⟩=>O.same.seq hL) ?_ ?_
 ·rintro i x σ H2 hx ⟨-,v3,v4,rfl,O⟩;obtain ⟨wa,w,rfl,hw,hW⟩:=hds.aaY hx;have ok:=hws w (agd hw);have hnext:Tn.bumps (List.replicate fs.length 0) ((ws.take (i+1)).map fun w=>(w,(1:Int)))=Tn.bump (Tn.bumps (List.replicate fs.length 0) ((ws.take i).map fun w=>(w,1))) w 1:=by
   rw [agX,hw,aga];exact Tn.Fo _ _ _
  have hcl:(Tn.bumps (List.replicate fs.length 0) ((ws.take i).map fun w=>(w,(1:Int)))).length=fs.length:=by rw [Tn.vd,agO]
  generalize Tn.bumps (List.replicate fs.length 0) ((ws.take i).map fun w=>(w,(1:Int)))=cur at O hnext hcl;refine ⟨_,rfl,wa,rfl,⟨_,O.same.seq hW⟩,?_⟩;refine iB (K:=K) (xs:=w.map V.int) (fun j σ H'=>Iv (∃ v4:Option V,σ=[some (.ref a),some (.ref b),some (.ref lc),some (.ref wa),v4]/\Ow T H H' [(lc,.lst ((Tn.bump cur (w.take j) 1).map V.int))]))
   ⟨trivial,v4,rfl,O⟩ (fun i σ H' _ ⟨_,_,_,O⟩=>O.same.seq hW) ?_ ?_
  ·rintro j y σ H3 hy ⟨-,v4,rfl,O⟩;obtain ⟨z,hz,rfl⟩:=ints_get hy;obtain ⟨z0,z1⟩:=ok.2 z (agd hz);obtain ⟨zn,rfl⟩:=agA z0;have hbl:(Tn.bump cur (w.take j) 1).length=fs.length:=by rw [Tn.mL,hcl]
   refine ⟨_,rfl,_,rfl,lc,_,zn,_,rfl,rfl,O.sq 0,by rw [agg,fU (by omega)];rfl,?_⟩;refine ⟨_,_,rfl,rfl,lc,_,_,zn,rfl,rfl,O.get 0,gZ (by rw [aeu];omega),?_⟩;walk_at "pt";refine ⟨trivial,_,rfl,?_⟩;rw [Dz hz,agm,agV];exact O
  ·rintro σ H3 ⟨-,v4,rfl,O⟩;rw [aeu,agq (agb _)] at O;refine ⟨trivial,_,_,rfl,?_⟩;rw [hnext];exact O
 rintro σ H2 ⟨-,v3,v4,rfl,O⟩;refine ⟨_,rfl,O.ret 0 rfl q ?_⟩;rw [hxl,agq (agb _)]
abbrev mF:Stmt:=top 56
theorem o7:aG ["free","ways","rests","counts","shares"] ["free","ways","rests"] (ao mF):=by walk_at "sc"
inductive acE (K:PySem.W.Frag)(T:fJ)(vs:List V)(H:Hp)(Q:VK)(E:XK):Prop
 | mk (a b:Addr)(v:V)(fs rs:List Int)(ws:List (List Int))(_:vs=[.ref a,v,.ref b])(_:SqL K H a (fs.map V.int))(_:Den K H v (Nh ws))(_:SqL K H b (rs.map V.int))(_:fs.length<=1000)(_:rs.length<=1000)(_:ws.length<=1000)(_:(∀ w∈ws,Tn.WOk fs.length w))(_:TabsOk T H)(_:∀ (M:Int)(H':Hp),aJ T H H'->Tn.WT fs (Tn.bumps (List.replicate fs.length 0) (ws.map fun w=>(w,1))) rs M->Q (.int M) H')
variable (Ax:(CX0|||1) uG uV ["free","ways"] (Lp K T))
variable {qG:Addr}{qP:FuncData}(gJ:Df K mg "whole_turns" mF ["free","ways","rests"] qG qP)
include iZ Ax gJ in
theorem ae5 (B:Blt mg):
  (CX0|||2) qG qP ["free","ways","rests"] (acE K T):=by
 refine gJ.F.ok o7 ?_ ?_;walk_at "i";obtain ⟨a,b,v,fs,rs,ws,rfl,hA,hd,hB,hfl,hrl,hwl,hws,tk,q⟩:=h;refine ⟨_,(aF (3<$>o7<$>(iZ<*Ax<*(aq (pv 0) (aq (pv 1) ak))))
  (aF (kO (i:=4) (ao mF) rfl ["free","ways","rests","counts","shares"] rfl ["drops","count"] [none,none] (by decide+kernel) (by decide+kernel) (by decide+kernel) rfl o7.nd rfl rfl (Cj rfl B.zip (aq (pv 0) (aq (pv 3) ak))) (fun _ _ _=>(qy (K:=K) (n:=2) rfl rfl (aC (bB (i:=0) (show (["drops","count"]:List Str).Nodup by decide+kernel) rfl (Or.inl rfl)) (aC (bB (i:=1) (show (["drops","count"]:List Str).Nodup by decide+kernel) rfl (Or.inl rfl)) cg)))) (fun _ _ _=>(Cg (aR Uv (pv 1) aA (bf _)))) (fun _ _ _=>(bD pB (pv 0) (pv 1))) rfl)
  (aK (aP (aD (Jo rfl) rfl B.max PyProof.Rows.boot_max (aq aA (aq (abq rfl rfl B.min (bD Cu (bL bh rfl B.list agy (aq (pv 2) ak)) (pv 4))) ak))))))),?_⟩
 refine Ui ?_;intro zu0 zu1;have O:=Ow.refl tk;have s0:=O.same;refine ⟨_,rfl,_,rfl,a,v,fs,ws,rfl,hA,hfl,hd,hws,tk,O.M6 fun lc H2 xs O e=>?_⟩;subst e;have hcb:=Tn.cw_bound hws;have hcl:(Tn.bumps (List.replicate fs.length 0) (ws.map fun w=>(w,(1:Int)))).length=fs.length:=by rw [Tn.vd,agO]
 generalize Tn.bumps (List.replicate fs.length 0) (ws.map fun w=>(w,(1:Int)))=cs at O hcb hcl q;refine ⟨_,rfl,_,rfl,a,lc,_,_,rfl,O.same.seq hA,O.sq 0,fun acc hacc=>?_⟩;refine G3 (K:=K) (fun i τ H'=>Iv (∃ (v0 v1:Option V),τ=[v0,v1]/\Ow T H H' [(acc,.lst ((Tn.shares (fs.take i) (cs.take i)).map V.int)),(lc,.lst (cs.map V.int))])) (by rw [aeu,aeu];omega)
  ⟨trivial,none,none,rfl,O.mk' hacc rfl⟩ (fun i τ H' _ ⟨_,_,_,_,O⟩=>⟨O.same.seq hA,O.sq 1⟩) ?_ ?_
 ·rintro i x y t τ H' hx hy ⟨-,v0,v1,rfl,O⟩ ht;obtain ⟨z,hz,rfl⟩:=ints_get hx;obtain ⟨c,hc,rfl⟩:=ints_get hy;have hi:=(af4.mp hz).1;have hcm:=hcb c (agd hc);have hnext:=Tn.JW hz hc;have hsl:(Tn.shares (fs.take i) (cs.take i)).length<=1000:=by
   unfold Tn.shares;rw [aeu];refine agS (List.length_filter_le _ _) ?_;rw [List.length_zip,agt];omega
  walk_at "nw";refine ⟨t,_,rfl,O.sqT 0,rfl,_,_,rfl,_,_,rfl,rfl,?_⟩;refine ⟨_,rfl,_,_,rfl,rfl,_,rfl,ifD (fun hp=>?_) fun hp=>?_⟩
  ·rw [if_pos hp] at hnext;refine ⟨_,rfl,_,rfl,_,_,rfl,rfl,⟨hp,by omega⟩,?_⟩;refine ⟨_,O.get 1,aH (by rw [aeu];omega),?_⟩;walk_at "pt";refine ⟨trivial,_,_,rfl,?_⟩;rw [hnext,aga];exact O.tail
  ·rw [if_neg hp,ahm] at hnext;refine ⟨trivial,_,_,rfl,?_⟩;rw [hnext];exact O.tail
 rintro τ H' ⟨-,v0,v1,rfl,O⟩;rw [aeu,agq (agb _),agq (by omega)] at O;have hsl:(Tn.shares fs cs).length<=1000:=by
  unfold Tn.shares;rw [aeu];refine agS (List.length_filter_le _ _) ?_;rw [List.length_zip];omega
 refine ⟨_,rfl,b,_,rfl,.inl (O.same.seq hB),fun lr hlr=>?_⟩;walk_at "nw";refine ⟨_,rfl,lr,acc,_,_,rfl,rfl,O.get 0,O.get 1,jL (by rw [aeu,aeu];omega),fun l2 hl2=>?_⟩;walk_at "nw";rw [<- aga] at O;refine ⟨l2,rs++Tn.shares fs cs,rfl,O.sq 0,fun e0=>?_,fun m hm hle=>?_⟩
 ·exact ⟨_,_,rfl,q _ _ O.same (.inl ⟨e0,rfl⟩)⟩
 ·refine ⟨_,_,rfl,q _ _ O.same (.inr ⟨m,hm,hle,?_⟩)⟩;by_cases h:m >0
  ·rw [if_pos h];omega
  ·rw [if_neg h];omega
abbrev QK:Stmt:=top 57
theorem QJ:aG ["left","way","drops","reach"] ["left","way","drops"] (ao QK):=by walk_at "sc"
inductive Qw (K:PySem.W.Frag)(T:fJ)(vs:List V)(H:Hp)(Q:VK)(E:XK):Prop
 | mk (a b:Addr)(fs w:List Int)(c:Int)(Hb:Hp)(_:vs=[.ref a,.ref b,.int c])(_:Ow T Hb H [(a,.lst (fs.map V.int))])(_:SqL K Hb b (w.map V.int))(_:Tn.WOk fs.length w)(_:∀ H',Ow T Hb H' [(a,.lst ((Tn.bump fs w (-c)).map V.int))]->Q .non H')
variable {R9:Addr}{SJ:FuncData}(wB:Df K mg "draw" QK ["left","way","drops"] R9 SJ)
include wB in
theorem abD:(CX0|||1) R9 SJ ["left","way","drops"] (Qw K T):=by
 refine wB.F.ok QJ ?_ ?_;walk_at "i";obtain ⟨a,b,fs,w,c,Hb,rfl,O,hW,ok,q⟩:=h;refine ⟨_,(aK (f9 agC rfl (cJ (pv 1)) (3>>QJ)
   (aK (wR (pv 0) (pv 3) qD (pv 2) RL set_list)))),?_⟩
 refine aeX ?_;intro zu0;refine ⟨_,rfl,b,rfl,⟨_,O.same.seq hW⟩,?_⟩;refine iB (K:=K) (xs:=w.map V.int) (fun j σ H'=>Iv (∃ v3:Option V,σ=[some (.ref a),some (.ref b),some (.int c),v3]/\Ow T Hb H' [(a,.lst ((Tn.bump fs (w.take j) (-c)).map V.int))]))
  ⟨trivial,none,rfl,O⟩ (fun i σ H' _ ⟨_,_,_,O⟩=>O.same.seq hW) ?_ ?_
 ·rintro j y σ H3 hy ⟨-,v4,rfl,O⟩;obtain ⟨z,hz,rfl⟩:=ints_get hy;obtain ⟨z0,z1⟩:=ok.2 z (agd hz);obtain ⟨zn,rfl⟩:=agA z0;have hbl:(Tn.bump fs (w.take j) (-c)).length=fs.length:=Tn.mL _ _ _;refine ⟨_,rfl,_,rfl,a,_,zn,_,rfl,rfl,O.sq 0,by rw [agg,fU (by omega)];rfl,?_⟩;refine ⟨_,rfl,_,_,rfl,rfl,a,_,_,zn,rfl,rfl,O.get 0,gZ (by rw [aeu];omega),?_⟩;walk_at "pt";refine ⟨trivial,_,rfl,?_⟩;rw [Dz hz,agm,agV];exact O
 ·rintro σ H3 ⟨-,v4,rfl,O⟩;rw [aeu,agq (agb _)] at O;exact q _ O
abbrev fG:Stmt:=top 58
theorem gA:aG ["left","ways","rests","takes","going","unmet","turns","taker"] ["left","ways","rests","takes","going"] (ao fG):=by walk_at "sc"
structure af2 (K:PySem.W.Frag)(T:fJ)(H Hb:Hp)(a b t g:Addr)(v:V)(fs rs xs:List Int)(ws:List (List Int))(gs:List Nat):Prop where
 O:Ow T Hb H [(a,.lst (fs.map V.int)),(t,.lst (xs.map V.int))]
 d0:Den K Hb v (Nh ws)
 d1:SqL K Hb b (rs.map V.int)
 d2:SqL K Hb g ((Tn.asI gs).map V.int)
 rl:rs.length=ws.length
 xl:xs.length=ws.length
 gn:∀ k∈gs,k<ws.length
 nd:gs.Nodup
 wok:∀ w∈ws,Tn.WOk fs.length w
 fl:fs.length<=1000
 wl:ws.length<=1000
 gl:gs.length<=1000
inductive acG (K:PySem.W.Frag)(T:fJ)(vs:List V)(H:Hp)(Q:VK)(E:XK):Prop
 | mk (a b t g:Addr)(v:V)(fs rs xs:List Int)(ws:List (List Int))(gs:List Nat)(Hb:Hp)(_:vs=[.ref a,v,.ref b,.ref t,.ref g])(_:af2 K T H Hb a b t g v fs rs xs ws gs)(_:∀ (M:Int)(H':Hp),Tn.WT fs (Tn.afB fs.length ws gs) (Tn.unmet rs xs gs) M->Ow T Hb H' [(a,.lst ((Tn.bumps fs (gs.map fun k=>(Tn.fW ws k,-M))).map V.int)),(t,.lst ((Tn.bump xs (Tn.asI gs) M).map V.int))]->Q .non H')
variable {k:Nat}
theorem Kr {ws:List (List Int)}(h:k<ws.length):ws[k]?=some (Tn.fW ws k):=by
 unfold Tn.fW;rw [agj,af9 h];rfl
variable (yS:(CX0|||2) qG qP ["free","ways","rests"] (acE K T))
variable (Nu:(CX0|||1) R9 SJ ["left","way","drops"] (Qw K T))
variable {jY:Addr}{jZ:FuncData}(cL:Df K mg "take_whole_turns" fG ["left","ways","rests","takes","going"] jY jZ)
include gJ wB yS Nu cL in
theorem ae7 (B:Blt mg):
  (CX0|||3) jY jZ ["left","ways","rests","takes","going"] (acG K T):=by
 refine cL.F.ok gA ?_ ?_
 walk_at "i"
 obtain ⟨a,b,t,g,v,fs,rs,xs,ws,gs,Hb,rfl,⟨O,d0,d1,d2,rl,xl,gn,nd,wok,fl,wl,gl⟩,q⟩:=h
 obtain ⟨va,vs,rfl,hV,hds⟩:=d0.mK
 have hil:((Tn.asI gs).map V.int).length=gs.length:=by rw [aeu,Tn.oJ]
 refine ⟨_,(aF (kO (i:=5) (ao fG) rfl ["left","ways","rests","takes","going","unmet","turns","taker"] rfl ["taker","rests","takes"] [none,some 2,some 3] (by decide+kernel) (by decide+kernel) (by decide+kernel) rfl gA.nd rfl rfl (cJ (pv 4)) (fun _ _ _=>(bB (i:=0) (show (["taker","rests","takes"]:List Str).Nodup by decide+kernel) rfl (Or.inl rfl))) (fun _ _ _=>eG) (fun _ _ _=>(bD yF (aZ (ji (K:=K) rfl) (pv 1) (pv 0) (fun _ _=>rfl)) (aZ (ji (K:=K) rfl) (pv 2) (pv 0) (fun _ _=>rfl)))) rfl)
  (aF (6<$>gA<$>(gJ<*yS<*(aq (pv 0) (aq (fM (ao fG) rfl ["left","ways","rests","takes","going","unmet","turns","taker"] rfl ["taker","ways"] [none,some 1] (by decide+kernel) (by decide+kernel) (by decide+kernel) rfl (cJ (pv 4)) (fun _ _ _=>(bB (i:=0) (show (["taker","ways"]:List Str).Nodup by decide+kernel) rfl (Or.inl rfl))) (fun _ _ _=>eG) (fun _ _ _=>(aZ (ji (K:=K) rfl) (pv 1) (pv 0) (fun _ _=>rfl)))) (aq (pv 5) ak)))))
  (aK (f9 agC rfl (cJ (pv 4)) (7>>gA)
   (aF (aM (wB<*Nu<*(aq (pv 0) (aq (aZ aU (pv 1) (pv 7) (fun _ _=>rfl)) (aq (pv 6) ak)))))
   (aK (wR (pv 3) (pv 7) qD (pv 6) M4 set_list))))))),?_⟩
 refine aeW ?_
 intro zu0 zu1 zu2 zu3
 /- unmet -/
 refine ⟨_,rfl,g,rfl,⟨_,O.same.seq d2⟩,fun lu hlu=>?_⟩
 refine eH (K:=K) (xs:=(Tn.asI gs).map V.int) (fun i τ H'=>Iv (∃ v0:Option V,τ=[v0,some (.ref b),some (.ref t)]/\Ow T Hb H' [(lu,.lst ((Tn.unmet rs xs (gs.take i)).map V.int)),(a,.lst (fs.map V.int)),(t,.lst (xs.map V.int))]))
  ⟨trivial,none,rfl,O.mk' hlu rfl⟩ (fun i τ H' _ ⟨_,_,_,O⟩=>O.same.seq d2) ?_ ?_
 ·rintro i y τ H2 hy ⟨-,v0,rfl,O⟩
  obtain ⟨z,hz,rfl⟩:=ints_get hy
  obtain ⟨k,hk,rfl⟩:=Tn.lJ hz
  have hkn:=gn k (agd hk)
  have hi:=(af4.mp hk).1
  refine JH ?_
  refine ⟨_,rfl,_,rfl,b,_,_,_,rfl,rfl,O.same.seq d1,cu (fU (by omega)),_,rfl,_,rfl,t,_,_,_,rfl,rfl,O.sq 2,cu (fU (by omega)),_,_,rfl,rfl,?_⟩
  refine ⟨_,O.get 0,aH (by rw [aeu];unfold Tn.unmet;rw [aeu,agt];omega),?_⟩
  walk_at "pt"
  refine ⟨trivial,_,rfl,?_⟩
  rw [Tn.NP hk,aga];exact O
 rintro τ H2 ⟨-,v0,rfl,O⟩
 rw [hil,agq (agb _)] at O
 have hul:(Tn.unmet rs xs gs).length=gs.length:=by unfold Tn.unmet;rw [aeu]
 /- whole_turns(left, ..,unmet) -/
 refine ⟨_,rfl,_,rfl,g,rfl,⟨_,O.same.seq d2⟩,fun lw hlw=>?_⟩
 refine eH (K:=K) (xs:=(Tn.asI gs).map V.int) (fun i τ H'=>Iv (∃ (v0:Option V)(us:List V),τ=[v0,some (.ref va)]/\bY K Hb us ((gs.take i).map fun k=>sI (Tn.fW ws k))/\Ow T Hb H' [(lw,.lst us),(lu,.lst ((Tn.unmet rs xs gs).map V.int)),(a,.lst (fs.map V.int)),(t,.lst (xs.map V.int))]))
  ⟨trivial,none,[],rfl,.nil,O.mk' hlw rfl⟩ (fun i τ H' _ ⟨_,_,_,_,_,O⟩=>O.same.seq d2) ?_ ?_
 ·rintro i y τ H3 hy ⟨-,v0,us,rfl,hus,O⟩
  obtain ⟨z,hz,rfl⟩:=ints_get hy
  obtain ⟨k,hk,rfl⟩:=Tn.lJ hz
  have hkn:=gn k (agd hk)
  have hi:=(af4.mp hk).1
  obtain ⟨wa,hwa,hW⟩:=hds.Pq (Kr hkn)
  refine JH ?_
  refine ⟨_,rfl,_,rfl,va,_,_,_,rfl,rfl,O.same.seq hV,dU hwa,?_⟩
  refine ⟨_,O.get 0,aH (by rw [hus.length,aeu,agt];omega),?_⟩
  walk_at "pt"
  refine ⟨trivial,_,us++[.ref wa],rfl,?_,O⟩
  rw [Tn.jh hk]
  exact hus.append (.cons (Den.ints hW) .nil)
 rintro τ H3 ⟨-,v0,us,rfl,hus,O⟩
 rw [hil,agq (agb _)] at hus
 have hus':bY K Hb us ((gs.map fun k=>Tn.fW ws k).map sI):=by rw [ahU];exact hus
 refine ⟨_,rfl,a,lu,.ref lw,fs,Tn.unmet rs xs gs,gs.map fun k=>Tn.fW ws k,rfl,O.sq 2,.list (O.sq 0) (hus'.mo O.same),O.sq 1,fl,by omega,by rw [aeu];omega,fun w hw=>?_,O.same.t1,fun M H4 sm hM=>?_⟩
 ·obtain ⟨k,hk,rfl⟩:=agF.mp hw
  exact wok _ (Tn.Rr (gn k hk))
 have hM:Tn.WT fs (Tn.afB fs.length ws gs) (Tn.unmet rs xs gs) M:=by
  unfold Tn.afB
  rw [ahU] at hM
  exact hM
 have O:=((O.dD sm).tail).tail
 /- the loop -/
 refine ⟨_,rfl,g,rfl,⟨_,O.same.seq d2⟩,?_⟩
 refine iB (K:=K) (xs:=(Tn.asI gs).map V.int) (fun i σ H'=>Iv (∃ v7:Option V,σ=[some (.ref a),some (.ref va),some (.ref b),some (.ref t),some (.ref g),some (.ref lu),some (.int M),v7] /\
  Ow T Hb H' [(a,.lst ((Tn.bumps fs ((gs.take i).map fun k=>(Tn.fW ws k,-M))).map V.int)),(t,.lst ((Tn.bump xs (Tn.asI (gs.take i)) M).map V.int))]))
  ⟨trivial,none,rfl,O⟩ (fun i σ H' _ ⟨_,_,_,O⟩=>O.same.seq d2) ?_ ?_
 ·rintro i y σ H5 hy ⟨-,v7,rfl,O⟩
  obtain ⟨z,hz,rfl⟩:=ints_get hy
  obtain ⟨k,hk,rfl⟩:=Tn.lJ hz
  have hkn:=gn k (agd hk)
  obtain ⟨wa,hwa,hW⟩:=hds.Pq (Kr hkn)
  have hn1:Tn.bumps fs ((gs.take (i+1)).map fun k=>(Tn.fW ws k,-M))=Tn.bump (Tn.bumps fs ((gs.take i).map fun k=>(Tn.fW ws k,-M))) (Tn.fW ws k) (-M):=by
   rw [Tn.jh hk];exact Tn.Fo _ _ _
  have hl1:(Tn.bumps fs ((gs.take i).map fun k=>(Tn.fW ws k,-M))).length=fs.length:=Tn.vd _ _
  have hl2:(Tn.bump xs (Tn.asI (gs.take i)) M).length=ws.length:=by rw [Tn.mL];exact xl
  have hn2:Tn.bump xs (Tn.asI (gs.take (i+1))) M=(Tn.bump xs (Tn.asI (gs.take i)) M).set k ((Tn.bump xs (Tn.asI (gs.take i)) M).getD k 0+M):=by
   rw [<- Tn.Jh,<- Tn.Jh,Dz hz,agm]
  obtain ⟨H1,O1,s1,hB,back⟩:=Ow.lend (A:=[(a,.lst ((Tn.bumps fs ((gs.take i).map fun k=>(Tn.fW ws k,-M))).map V.int))]) (B:=[(t,.lst ((Tn.bump xs (Tn.asI (gs.take i)) M).map V.int))]) O
  refine ⟨_,rfl,_,rfl,_,rfl,va,_,_,_,rfl,rfl,O.same.seq hV,dU hwa,_,rfl,a,wa,_,_,M,H1,rfl,O1,hW.mo s1,by rw [hl1];exact wok _ (Tn.Rr hkn),fun H6 O6=>?_⟩
  have O:=back _ _ O6
  refine ⟨_,rfl,_,rfl,t,_,k,_,rfl,rfl,O.sq 1,by rw [agg,fU (by omega)];rfl,_,rfl,_,_,rfl,rfl,t,_,_,k,rfl,rfl,O.get 1,gZ (by rw [aeu];omega),?_⟩
  walk_at "pt"
  refine ⟨trivial,_,rfl,?_⟩
  rw [hn1,hn2,agV];exact O
 rintro σ H5 ⟨-,v7,rfl,O⟩
 rw [hil,agq (agb _)] at O
 exact q M _ hM O
abbrev jR:Stmt:=top 59
theorem lN:aG ["left","ways","rests","takes","going","still","taker"] ["left","ways","rests","takes","going"] (ao jR):=by walk_at "sc"
inductive acH (K:PySem.W.Frag)(T:fJ)(vs:List V)(H:Hp)(Q:VK)(E:XK):Prop
 | mk (a b t g:Addr)(v:V)(fs rs xs:List Int)(ws:List (List Int))(gs:List Nat)(Hb:Hp)(_:vs=[.ref a,v,.ref b,.ref t,.ref g])(_:af2 K T H Hb a b t g v fs rs xs ws gs)(_:∀ (l:Addr)(H':Hp),Ow T Hb H' [(l,.lst ((Tn.asI (Tn.j9 ws rs gs (fs,xs,[])).2.2).map V.int)),(a,.lst ((Tn.j9 ws rs gs (fs,xs,[])).1.map V.int)),(t,.lst ((Tn.j9 ws rs gs (fs,xs,[])).2.1.map V.int))]->Q (.ref l) H')
theorem ab5 {w l:List Int}:((w.map fun r:Int=>decide (0<l.getD r.toNat 0)).all id)=w.all (fun r=>decide (0<l.getD r.toNat 0)):=by rw [List.all_map];rfl
variable {nq:Addr}{nH:FuncData}(eO:Df K mg "take_one_turn" jR ["left","ways","rests","takes","going"] nq nH)
include wB Nu eO in
theorem ae8 (B:Blt mg):
  (CX0|||2) nq nH ["left","ways","rests","takes","going"] (acH K T):=by
 refine eO.F.ok lN ?_ ?_;walk_at "i";obtain ⟨a,b,t,g,v,fs,rs,xs,ws,gs,Hb,rfl,⟨O,d0,d1,d2,rl,xl,gn,nd,wok,fl,wl,gl⟩,q⟩:=h;obtain ⟨va,vs,rfl,hV,hds⟩:=d0.mK;have hil:((Tn.asI gs).map V.int).length=gs.length:=by rw [aeu,Tn.oJ]
 refine ⟨_,(aF (5<$>lN<$>(dM ak))
  (aF (f9 agC rfl (cJ (pv 4)) (6>>lN)
   (aK (cM (PW.pt (pw_and (aR Bh (aZ aU (pv 3) (pv 6) (fun _ _=>rfl)) (aZ aU (pv 2) (pv 6) (fun _ _=>rfl)) (bf _)) (pw_and1 (iy (aD (rA rfl) rfl B.all ahj (aq (fM (ao jR) rfl ["left","ways","rests","takes","going","still","taker"] rfl ["reach","left"] [none,some 0] (by decide+kernel) (by decide+kernel) (by decide+kernel) rfl (cJ (aZ aU (pv 1) (pv 6) (fun _ _=>rfl))) (fun _ _ _=>(bB (i:=0) (show (["reach","left"]:List Str).Nodup by decide+kernel) rfl (Or.inl rfl))) (fun _ _ _=>eG) (fun _ _ _=>(qz Uv (aZ (ji (K:=K) rfl) (pv 1) (pv 0) (fun _ _=>rfl)) aA (bf _)))) ak))))))
    (aF (aM (wB<*Nu<*(aq (pv 0) (aq (aZ aU (pv 1) (pv 6) (fun _ _=>rfl)) (aq aA ak)))))
    (aF (wR (pv 3) (pv 6) qD aA M4 set_list)
    (aK (aM (kh agn ago agp bC (pv 5) (aq (pv 6) ak))))))
    bA)))
  (aK (aP (pv 5))))),?_⟩
 refine aeV ?_;intro zu0 zu1 zu2 zu3 zu4 zu5;refine ⟨szl,fun ls hls=>?_⟩;walk_at "nw";refine ⟨_,rfl,g,rfl,⟨_,O.same.seq d2⟩,?_⟩;refine iB (K:=K) (xs:=(Tn.asI gs).map V.int) (fun i σ H'=>Iv (∃ v6:Option V,σ=[some (.ref a),some (.ref va),some (.ref b),some (.ref t),some (.ref g),some (.ref ls),v6] /\
  Ow T Hb H' [(ls,.lst ((Tn.asI (Tn.j9 ws rs (gs.take i) (fs,xs,[])).2.2).map V.int)),(a,.lst ((Tn.j9 ws rs (gs.take i) (fs,xs,[])).1.map V.int)),(t,.lst ((Tn.j9 ws rs (gs.take i) (fs,xs,[])).2.1.map V.int))]))
  ⟨trivial,none,rfl,O⟩ (fun i σ H' _ ⟨_,_,_,O⟩=>O.same.seq d2) ?_ ?_
 ·rintro i y σ H5 hy ⟨-,v7,rfl,O⟩;obtain ⟨z,hz,rfl⟩:=ints_get hy;obtain ⟨k,hk,rfl⟩:=Tn.lJ hz;have hkn:=gn k (agd hk);have hi:=(af4.mp hk).1;obtain ⟨wa,hwa,hW⟩:=hds.Pq (Kr hkn);have hnext:=Tn.N6 (ws:=ws) (rs:=rs) (s:=(fs,xs,[])) hk;have hlen:=Tn.Bs ws rs (gs.take i) (fs,xs,[]);rw [hnext];generalize Tn.j9 ws rs (gs.take i) (fs,xs,[])=S at O hlen ⊢;obtain ⟨l,x,st⟩:=S;obtain ⟨hl1,hl2,hl3⟩:=hlen;have hl1:l.length=fs.length:=hl1;have hl2:x.length=xs.length:=hl2;have hl3:st.length<=i:=by
   have:st.length<=0+(gs.take i).length:=hl3;rw [agt] at this;omega
  have O:Ow T Hb H5 [(ls,.lst ((Tn.asI st).map V.int)),(a,.lst (l.map V.int)),(t,.lst (x.map V.int))]:=O;have ok:=wok _ (Tn.Rr hkn);have no:¬ (x.getD k 0<rs.getD k 0/\(Tn.fW ws k).all (fun r=>decide (0<l.getD r.toNat 0))=true)->Tn.step1 ws rs (l,x,st) k=(l,x,st):=fun h=>if_neg h;have yes:(x.getD k 0<rs.getD k 0/\(Tn.fW ws k).all (fun r=>decide (0<l.getD r.toNat 0))=true)->Tn.step1 ws rs (l,x,st) k=(Tn.bump l (Tn.fW ws k) (-1),x.set k (x.getD k 0+1),st++[k]):=fun h=>if_pos h;generalize Tn.step1 ws rs (l,x,st) k=S' at no yes ⊢;refine ⟨_,rfl,_,rfl,t,_,_,_,rfl,rfl,O.sq 2,cu (fU (by omega)),_,rfl,_,rfl,b,_,_,_,rfl,rfl,O.same.seq d1,cu (fU (by omega)),_,_,rfl,rfl,_,rfl,ifD (fun hc1=>?_) fun hc1=>?_⟩
  ·refine ⟨_,rfl,_,rfl,va,_,_,_,rfl,rfl,O.same.seq hV,dU hwa,wa,rfl,⟨_,O.same.seq hW⟩,fun lb hlb=>?_⟩;refine eH (K:=K) (xs:=(Tn.fW ws k).map V.int) (fun j τ H'=>Iv (∃ v0:Option V,τ=[v0,some (.ref a)]/\Ow T Hb H' [(lb,.lst ((((Tn.fW ws k).take j).map fun r:Int=>decide (0<l.getD r.toNat 0)).map V.bl)),(ls,.lst ((Tn.asI st).map V.int)),(a,.lst (l.map V.int)),(t,.lst (x.map V.int))]))
    ⟨trivial,none,rfl,O.mk' hlb rfl⟩ (fun i τ H' _ ⟨_,_,_,O⟩=>O.same.seq hW) ?_ ?_
   ·rintro j y τ H6 hy ⟨-,v0,rfl,O⟩;obtain ⟨r,hr,rfl⟩:=ints_get hy;have hj:=(af4.mp hr).1;obtain ⟨r0,r1⟩:=ok.2 r (agd hr);refine JH ?_;refine ⟨_,rfl,_,rfl,a,_,_,_,rfl,rfl,O.sq 2,jt r0 (by omega),_,_,rfl,rfl,?_⟩;refine ⟨_,O.get 0,aH (by rw [aeu,aeu,agt];have:=ok.len;omega),?_⟩;walk_at "pt";refine ⟨trivial,_,rfl,?_⟩;rw [Tn.jh hr,aga];exact O
   rintro τ H6 ⟨-,v0,rfl,O⟩;rw [aeu,agq (agb _)] at O;refine ⟨lb,_,rfl,O.sq 0,?_⟩;rw [ab5];have O:=O.tail;refine ⟨_,rfl,ifB (fun hc2=>?_) fun hc2=>?_⟩
   ·rw [yes ⟨hc1,hc2⟩];obtain ⟨H1,O1,s1,hB,back⟩:=Ow.lend (A:=[(a,.lst (l.map V.int))]) (B:=[(ls,.lst ((Tn.asI st).map V.int)),(t,.lst (x.map V.int))]) (O.pull 1);refine ⟨_,rfl,_,rfl,_,rfl,va,_,_,_,rfl,rfl,O.same.seq hV,dU hwa,a,wa,l,_,1,H1,rfl,O1,hW.mo s1,by rw [hl1];exact ok,fun H7 O7=>?_⟩;have O:=back _ _ O7;have O:Ow T Hb H7 [(a,.lst ((Tn.bump l (Tn.fW ws k) (-1)).map V.int)),(ls,.lst ((Tn.asI st).map V.int)),(t,.lst (x.map V.int))]:=O;refine ⟨_,rfl,_,rfl,t,_,k,_,rfl,rfl,O.sq 2,by rw [agg,fU (by omega)];rfl,_,_,rfl,rfl,t,_,_,k,rfl,rfl,O.get 2,gZ (by rw [aeu];omega),?_⟩;walk_at "pt";refine ⟨_,rfl,.inl ⟨rfl,_,O.sq 1⟩,_,rfl,ls,_,_,rfl,rfl,O.get 1,aH (by rw [aeu,Tn.oJ];omega),?_⟩;walk_at "pt";refine ⟨trivial,_,rfl,?_⟩;have O:=O.pull 1;show Ow T Hb _ [(ls,.lst ((Tn.asI (st++[k])).map V.int)),(a,.lst ((Tn.bump l (Tn.fW ws k) (-1)).map V.int)),(t,.lst ((x.set k (x.getD k 0+1)).map V.int))];rw [agV];unfold Tn.asI;rw [aga,aga];exact O
   ·rw [no fun z=>by rw [z.2] at hc2;cases hc2];exact ⟨trivial,_,rfl,O⟩
  ·refine yp ?_;rw [no fun z=>hc1 z.1];exact ⟨trivial,_,rfl,O⟩
 rintro σ H5 ⟨-,v7,rfl,O⟩;rw [hil,agq (agb _)] at O;exact ⟨_,rfl,q _ _ O⟩
abbrev wG:Stmt:=top 35
theorem HS:aG ["one"] ["one"] (ao wG):=by walk_at "sc"
inductive Wc (K:PySem.W.Frag)(vs:List V)(H:Hp)(Q:VK)(E:XK):Prop
 | mk (t:Addr)(l:Lic)(_:vs=[.ref t])(_:SqT K H t (vq l))(_:Q (.int l.day) H)
variable {wY:Addr}{xQ:FuncData}(bN:Df K mg "day_filed" wG ["one"] wY xQ)
include bN in
theorem adn:(CX0|||1) wY xQ ["one"] (Wc K):=by
 refine bN.F.ok HS ?_ ?_;walk_at "i";obtain ⟨t,l,rfl,hT,q⟩:=h;refine ⟨_,(~~~(@aP _ _ _ _ (@aZ _ _ _ _ _ _ _ fQ (pv 0) aA (fun _ _=>rfl)))),?_⟩;exact ⟨_,rfl,t,_,0,_,rfl,rfl,hT,rfl,q⟩
abbrev yw:Stmt:=top 41
theorem QH:aG ["roll"] ["roll"] (ao yw):=by walk_at "sc"
def dG:Pos × Str:=(⟨96,40,96,88⟩,"ranked.<locals>.<lambda>")
def TT2 (P:Addr)(T:fJ):Prop:=(P,dG.1,dG.2)∈T/\(T.map (·.1)).Nodup
def Nf (ls:List Lic):Nat->Int:=fun k=>(ls[k]?.map Lic.day).getD 0
variable {ls:List Lic}{l:Lic}
theorem Sy (h:ls[k]?=some l):Nf ls k=l.day:=by unfold Nf;rw [h];rfl
inductive Hu (K:PySem.W.Frag)(T:fJ)(vs:List V)(H:Hp)(Q:VK)(E:XK):Prop
 | mk (v:V)(ls:List Lic)(_:vs=[v])(_:Den K H v (SN ls))(_:ls.length<64)(_:TabsOk T H)(_:zX T H (fun xs=>∃ p,xs=p.map (fun (i:Nat)=>V.int (i:Int))/\Tn.Rk (Nf ls) ls.length p) Q)
def acn (day:Nat->Int)(i:Nat):Int:=64*day i+(i:Int)
theorem Vf {day:Nat->Int}(hi:i<64)(hj:j<64):HT.lexLt [day i,(i:Int)] [day j,(j:Int)]=decide (acn day i<acn day j):=by
 unfold acn;rw [HT.pY,HT.pY,HT.yJ];rw [ag6];split
 ·split
  ·simp only [ahq,decide_eq_true_eq,false_iff];omega
  ·simp only [decide_eq_true_eq];omega
 ·simp only [decide_eq_true_eq];omega
variable (jz:(CX0|||1) wY xQ ["one"] (Wc K))
include bN jz in
theorem Ra {pT cT:Addr}(D:Df K mg "ranked" yw ["roll"] f fd)(hcd:fd.code=.ref cT)(hhd:PySem.W.codeHdIn K cT pT=true)(hT:TT2 pT T)(hbm:BM mg base)(B:Blt mg):(CX0|||5) f fd ["roll"] (Hu K T):=by
 refine D.F.okC hcd QH (fun vs H Q E h=>?_) (fun A outer s H vs Q E hr h=>?_)
 ·obtain ⟨_,_,rfl,_⟩:=h;rfl
 ·obtain ⟨v,ls,rfl,hd,h64,tk,q⟩:=h;obtain ⟨va,vs,rfl,hV,d0⟩:=hd.mK;have hvl:vs.length=ls.length:=by rw [d0.length,aeu]
  refine ⟨_,(aK (aP (Af (P:=pT) (c:=cT) (p:="number") (ao yw) rfl ["roll"] rfl ["roll"] [some 0] (by decide+kernel) (by decide+kernel) (by decide+kernel) rfl hbm rfl hhd (MN hr.m) rfl B.sorted rfl B.range (aq (aD aB rfl B.len agk (aq (pv 0) ak)) ak) (fun A f cv s H hh hd hu=>(fH (aq (Cm jz (MK hr.m hh hd hu) rfl bN.m bN.F.kp bN.b .nil jw (aq (aZ (ji (K:=K) rfl) (pv 1) (pv 0) (fun _ _=>rfl)) ak)) (aq (pv 0) ak)))) (fun _ _ _ _=>rfl)))),?_⟩;refine ⟨_,rfl,va,_,rfl,.inl hV,ls.length,by rw [hvl],h64,tk _ hT.1,fun H2 k1 k2 t2=>?_⟩;have sT:aJ T H H2:=aJ.tab tk hT.1 hT.2 k1 t2;refine ⟨fun i ts H3=>aJ T H2 H3/\ts.length=i/\∀ (j:Nat)(t:Addr),ts[j]?=some t->H3 t=some (.tup ([Nf ls j,(j:Int)].map V.int)),fun i=>[Nf ls i,(i:Int)],acn (Nf ls),1,⟨aJ.refl sT.t1,rfl,fun j t e=>by simp at e⟩,?_,?_,fun _ _=>rfl,fun i j hi hj=>Vf (by omega) (by omega),?_,?_⟩
  ·rintro i ts H3 hi ⟨s3,htl,h3⟩;refine ⟨fun c' e=>s3.keep c' _ e fun ps z=>(by cases z),?_⟩;obtain ⟨al,hal,hTl⟩:=d0.rO (af9 hi);have hTl:=hTl.mo (sT.trans s3);have edl:=Sy (af9 hi);refine ⟨_,rfl,_,rfl,va,_,(i:Int),_,rfl,rfl,(sT.trans s3).seq hV,dU hal,al,_,rfl,hTl,?_⟩;refine ⟨_,rfl,(by show 2<=sizeLine;decide),fun t ht=>⟨t,rfl,?_⟩⟩;have nt:H2 t=none:=s3.free ht;refine ⟨s3.upd nt (.inl ht),by rw [agh,htl];rfl,fun j t' e=>?_⟩;by_cases hj:j<ts.length
   ·rw [ahr hj] at e;have h4':=h3 j t' e;rw [aN (aY h4' ht)];exact h4'
   ·rw [ahf (by omega)] at e;have hj0:j - ts.length=0:=by
     have:=(af4.mp e).1;simp at this;omega
    have hji:j=i:=by omega
    rw [hj0] at e;simp at e;subst e;subst hji;rw [aO,edl];rfl
  ·rintro ts H3 ⟨_,_,h3⟩;exact h3
  ·intro i j hi hj hij e;unfold acn at e;omega
  ·rintro ts H3 D' ys ⟨s3,_,_⟩ hD ⟨p,hp,rfl,ho⟩;have hbl:(kE ls.length).length=ls.length:=by unfold kE;simp
   rw [hbl] at hp;refine q D' _ _ ((sT.trans s3).upd ((sT.trans s3).free hD) (.inl hD)) ((sT.trans s3).free hD) aO ⟨p,?_,hp,?_⟩
   ·refine List.map_congr_left fun i hi=>?_;have hi':i<ls.length:=agK.mp (hp.mem_iff.mp hi);show (kE ls.length).getD i .non=_;unfold kE;rw [agj,agg,ahG hi'];rfl
   ·refine List.Pairwise.imp_of_mem (fun {a b} ha hb hab=>?_) ho;have ha:=agK.mp (hp.mem_iff.mp ha);have hb:=agK.mp (hp.mem_iff.mp hb);unfold acn at hab;omega
abbrev wF:Stmt:=top 42
theorem sW:aG ["roll","groups","number"] ["roll"] (ao wF):=by walk_at "sc"
abbrev Pg:=Addr × Int × List Nat
def TQ (ps:List Pg):List (Addr × HO):=ps.map fun p=>(p.1,.lst ((Tn.asI p.2.2).map V.int))
def kvG (ps:List Pg):List (Key × V):=ps.map fun p=>(Sum.inl p.2.1,V.ref p.1)
inductive Hy (K:PySem.W.Frag)(T:fJ)(vs:List V)(H:Hp)(Q:VK)(E:XK):Prop
 | mk (v:V)(ls:List Lic)(_:vs=[v])(_:Den K H v (SN ls))(_:ls.length<64)(_:TabsOk T H)(_:∀ (l:Addr)(H':Hp)(ps:List Pg)(p:List Nat),Ow T H H' ((l,.lst (ps.map fun p=>V.ref p.1))::TQ ps)->Tn.Rk (Nf ls) ls.length p->Tn.Grp (Nf ls) p (ps.map (·.2))->Q (.ref l) H')
variable {v:V}
theorem Vi {ps:List Pg}{d:Int}(h:JK (kvG ps) (Sum.inl d)=some v):∃ (j:Nat)(p:Pg),ps[j]?=some p/\p.2.1=d/\v=.ref p.1:=by
 unfold JK kvG at h;rw [List.find?_map,Option.map_map] at h;cases e:ps.find? ((fun kv:Key × V=>decide (kv.1=Sum.inl d)) ∘ fun p:Pg=>(Sum.inl p.2.1,V.ref p.1)) with
 | none=>rw [e] at h;cases h
 | some p =>
  rw [e] at h;obtain ⟨j,hj⟩:=ahO (List.mem_of_find?_eq_some e);have hp:=List.find?_some e;simp only [Function.comp,decide_eq_true_eq] at hp;exact ⟨j,p,hj,Sum.inl.inj hp,(agz h).symm⟩
theorem Vj {ps:List Pg}{d:Int}(h:JK (kvG ps) (Sum.inl d)=none):∀ p∈ps,p.2.1≠d:=fun p hp e=>by
 unfold JK kvG at h;rw [Option.map_eq_none_iff,List.find?_eq_none] at h;have:=h _ (ahx hp);simp [e] at this
theorem Ry {ps:List Pg}{p:Pg}(h:ps[j]?=some p):(TQ ps)[j]?=some (p.1,.lst ((Tn.asI p.2.2).map V.int)):=by
 unfold TQ;rw [agg,h];rfl
theorem Aa {f:α->β}:∀ {ps:List α}{j:Nat}{p q:α},ps[j]?=some p->f q=f p->(ps.set j q).map f=ps.map f
 | [],_,_,_,h,_=>by simp at h
 | a::ps,0,p,q,h,e=>by
  have:a=p:=by simpa using h
  subst this;simp [e]
 | a::ps,j+1,p,q,h,e=>by
  rw [ahA,agH,agH,Aa (by simpa using h) e]
variable {Nb:Addr}{Ng:FuncData}(yZ:Df K mg "ranked" yw ["roll"] Nb Ng)
variable (Nt:(CX0|||5) Nb Ng ["roll"] (Hu K T))
variable {wX:Addr}{xP:FuncData}(jB:Df K mg "groups_of" wF ["roll"] wX xP)
include bN jz yZ Nt jB in
theorem Rf (B:Blt mg):(CX0|||6) wX xP ["roll"] (Hy K T):=by
 refine jB.F.ok sW ?_ ?_;walk_at "i";obtain ⟨v,ls,rfl,hd,h64,tk,q⟩:=h;obtain ⟨va,vs,rfl,hV,d0⟩:=hd.mK;have hvl:vs.length=ls.length:=by rw [d0.length,aeu]
 refine ⟨_,(aF (1<$>sW<$>Ut)
  (aF (f9 agC rfl (cJ (yZ<*Nt<*(aq (pv 0) ak))) (2>>sW)
   (aK (aM (kh agn ago agp bC (abr (pv 1) (bN<*jz<*(aq (aZ aU (pv 0) (pv 2) (fun _ _=>rfl)) ak)) (dM ak) ⟨rfl,rfl,rfl,rfl⟩) (aq (pv 2) ak)))))
  (aK (aP (J6 rfl rfl B.list (pv 1)))))),?_⟩
 refine aeU ?_;intro zu0 zu1 zu2;have O:=Ow.refl tk;intro dg hdg;walk_at "nw";refine ⟨_,rfl,.ref va,ls,rfl,hd.Cz O.same,h64,O.same.t1,O.M6 fun lt H2 xs O ⟨p,ep,hp⟩=>?_⟩;subst ep;refine ⟨lt,rfl,⟨_,O.sq 0⟩,?_⟩;refine iB (K:=K) (xs:=p.map fun (i:Nat)=>V.int (i:Int)) (fun i σ H'=>Iv (∃ (v2:Option V)(ps:List Pg),σ=[some (.ref va),some (.ref dg),v2]/\ps.length<=i /\
  Ow T H H' ((lt,.lst (p.map fun (i:Nat)=>V.int (i:Int)))::(dg,.dK (kvG ps))::TQ ps)/\Tn.Grp (Nf ls) (p.take i) (ps.map (·.2))))
  ⟨trivial,none,[],rfl,agb _,O,Tn.Grp.start _⟩ (fun i σ H' _ ⟨_,_,_,_,_,O,_⟩=>O.sq 0) ?_ ?_
 ·rintro i y σ H3 hy ⟨-,v2,ps,rfl,hpl,O,G⟩;rw [agg] at hy;obtain ⟨k,hk,rfl⟩:∃ k,p[i]?=some k/\y=V.int (k:Int):=by
   cases e:p[i]? with
   | none=>rw [e] at hy;cases hy
   | some j=>rw [e] at hy;exact ⟨j,rfl,(agz hy).symm⟩
  have hi:=(af4.mp hk).1;have hpn:=hp.len;have hkl:=hp.lt (agd hk);have hbe:=hp.before hk;obtain ⟨al,hal,hTl⟩:=d0.rO (af9 hkl);have edl:=Sy (af9 hkl);have hvk:vs[k]?=some (.ref al):=hal;refine ⟨_,rfl,dg,rfl,.inl ⟨_,.inl (O.get 1)⟩,_,rfl,_,rfl,va,_,(k:Int),_,rfl,rfl,O.same.seq hV,dU hvk,al,_,rfl,hTl.mo O.same,?_⟩;rw [<- edl];refine ⟨szl,fun l1 h1=>?_⟩;walk_at "nw";refine ⟨kvG ps,Sum.inl (Nf ls k),O.get 2,rfl,?_,fun v hv=>?_,fun hn=>?_⟩
  ·unfold kvG;exact aH (by rw [aeu];omega)
  ·have O:=O.tail;obtain ⟨j,pj,hj,ej,rfl⟩:=Vi hv;have hgj:(ps.map (·.2))[j]?=some pj.2:=by rw [agg,hj];rfl
   have lat:((lt,HO.lst (p.map fun (i:Nat)=>V.int (i:Int)))::(dg,HO.dK (kvG ps))::TQ ps)[j+2]?=some (pj.1,.lst ((Tn.asI pj.2.2).map V.int)):=by
    rw [List.getElem?_cons_succ,List.getElem?_cons_succ];exact Ry hj
   have hgl:pj.2.2.length<=1000:=by
    have hs:pj.2.2.Sublist (p.take i):=by rw [<- G.flat];exact Tn.Bp (ahx (agd hgj))
    have:=hs.length_le;rw [agt] at this;omega
   refine ⟨.inl ⟨rfl,_,SqL.of (O.get (j+2) lat)⟩,_,rfl,pj.1,_,_,rfl,rfl,O.get (j+2) lat,aH (by rw [aeu,Tn.oJ];omega),?_⟩;generalize hE:upd _ _ _=Hn;have O:=Ow.wQ O (j+2) lat hE rfl;clear hE;refine ⟨trivial,_,ps.set j (pj.1,pj.2.1,pj.2.2++[k]),rfl,by rw [agG];omega,?_,?_⟩
   ·rw [show kvG (ps.set j (pj.1,pj.2.1,pj.2.2++[k]))=kvG ps from Aa hj rfl];rw [ahA,ahA] at O;unfold TQ;rw [agV];unfold TQ at O;simp only [Tn.asI,aga,agH,ahT];exact O
   ·rw [Tn.dJ hk,agV];exact G.more hgj ej hbe
  ·rw [Uo _ hn];walk_at "pt";refine ⟨.inl ⟨rfl,_,O.sq 0⟩,_,rfl,l1,_,_,rfl,rfl,O.get 0,aH (by simp),?_⟩;walk_at "pt";refine ⟨trivial,_,ps++[(l1,Nf ls k,[k])],rfl,by rw [agh];simp;omega,?_,?_⟩
   ·unfold kvG TQ;rw [aga,aga];unfold kvG TQ at O;refine O.perm ?_;have e:((lt,HO.lst (p.map fun (i:Nat)=>V.int (i:Int)))::(dg,HO.dK (ps.map (fun p=>((Sum.inl p.2.1:Key),V.ref p.1))++[(l1,Nf ls k,[k])].map (fun p:Pg=>((Sum.inl p.2.1:Key),V.ref p.1))))::(ps.map (fun p=>(p.1,HO.lst ((Tn.asI p.2.2).map V.int)))++[(l1,Nf ls k,[k])].map (fun p:Pg=>(p.1,HO.lst ((Tn.asI p.2.2).map V.int)))))
     =((lt,HO.lst (p.map fun (i:Nat)=>V.int (i:Int)))::(dg,HO.dK (ps.map (fun p=>((Sum.inl p.2.1:Key),V.ref p.1))++[(Sum.inl (Nf ls k),V.ref l1)]))::ps.map (fun p=>(p.1,HO.lst ((Tn.asI p.2.2).map V.int))))++[(l1,HO.lst ([]++[V.int (k:Int)]))]:=rfl
    rw [e];exact List.perm_append_comm
   ·rw [Tn.dJ hk,aga];exact G.new (fun g hg=>by
     obtain ⟨p',hp',rfl⟩:=agF.mp hg;exact Vj hn p' hp') hbe
 ·rintro σ H3 ⟨-,v2,ps,rfl,hpl,O,G⟩;rw [aeu,agq (agb _)] at G;refine ⟨_,rfl,dg,kvG ps,rfl,.inl (O.get 1),fun l hl=>?_⟩;walk_at "nw";have e:(kvG ps).map (·.2)=ps.map fun p=>V.ref p.1:=by unfold kvG;rw [ahU];rfl
  rw [e] at O;exact q l _ ps p (O.sub ((List.Sublist.cons _ (List.Sublist.cons _ (List.Sublist.refl _))).cons₂ _)) hp G
def gap (rs xs:List Int):Nat:=(List.zipWith (fun r x:Int=>(r - x).toNat) rs xs).sum
theorem vK (r x:Int)(rs xs:List Int):gap (r::rs) (x::xs)=(r - x).toNat+gap rs xs:=by unfold gap;rw [List.zipWith_cons_cons,List.sum_cons]
theorem R5:∀ {k:Nat}{rs xs:List Int},k<rs.length->k<xs.length->xs.getD k 0<rs.getD k 0->gap rs (xs.set k (xs.getD k 0+1))+1=gap rs xs
 | _,[],_,h,_,_=>absurd h (Nat.not_lt_zero _)
 | _,_::_,[],_,h,_=>absurd h (Nat.not_lt_zero _)
 | 0,r::rs,x::xs,_,_,h=>by
  have h:x<r:=h;show gap (r::rs) ((x+1)::xs)+1=_;rw [vK,vK];omega
 | k+1,r::rs,x::xs,h1,h2,h=>by
  have ih:=R5 (k:=k) (rs:=rs) (xs:=xs) (Nat.lt_of_succ_lt_succ h1) (Nat.lt_of_succ_lt_succ h2) h;show gap (r::rs) (x::xs.set k (xs.getD k 0+1))+1=_;rw [vK,vK];omega
theorem aaH:∀ {rs xs ys:List Int},xs.length=ys.length->(∀ k:Nat,xs.getD k 0<=ys.getD k 0)->gap rs ys<=gap rs xs
 | [],_,_,_,_=>by unfold gap;simp
 | _::_,[],[],_,_=>agb _
 | _::_,[],_::_,h,_=>by simp at h
 | _::_,_::_,[],h,_=>by simp at h
 | r::rs,x::xs,y::ys,h,hk=>by
  have ih:=aaH (rs:=rs) (xs:=xs) (ys:=ys) (Nat.succ.inj h) (fun k=>hk (k+1));have h0:x<=y:=hk 0;rw [vK,vK];omega
theorem Bt (ws:List (List Int))(rs:List Int):∀ (gs:List Nat)(s:List Int × List Int × List Nat),(∀ k∈gs,k<rs.length)->s.2.1.length=rs.length->gap rs (Tn.j9 ws rs gs s).2.1+(Tn.j9 ws rs gs s).2.2.length=gap rs s.2.1+s.2.2.length
 | [],s,_,_=>rfl
 | k::gs,s,hk,hl=>by
  show gap rs (Tn.j9 ws rs gs (Tn.step1 ws rs s k)).2.1+(Tn.j9 ws rs gs (Tn.step1 ws rs s k)).2.2.length=_;have k0:=hk k agB;by_cases h:s.2.1.getD k 0<rs.getD k 0/\(Tn.fW ws k).all (fun r=>decide (0<s.1.getD r.toNat 0))=true
  ·have e:Tn.step1 ws rs s k=(Tn.bump s.1 (Tn.fW ws k) (-1),s.2.1.set k (s.2.1.getD k 0+1),s.2.2++[k]):=if_pos h;rw [e,Bt ws rs gs _ (fun z hz=>hk z (agv _ hz)) (by show (s.2.1.set k _).length=_;rw [agG];exact hl)];have g:=R5 (rs:=rs) (xs:=s.2.1) k0 (by omega) h.1;show gap rs (s.2.1.set k (s.2.1.getD k 0+1))+(s.2.2++[k]).length=_;rw [agh];simp only [agx,agU];omega
  ·have e:Tn.step1 ws rs s k=s:=if_neg h;rw [e,Bt ws rs gs s (fun z hz=>hk z (agv _ hz)) hl]
theorem Hj (ws:List (List Int))(rs:List Int):∀ (gs:List Nat)(s:List Int × List Int × List Nat),∃ zs,(Tn.j9 ws rs gs s).2.2=s.2.2++zs/\zs.Sublist gs
 | [],s=>⟨[],by rw [ahm];rfl,List.Sublist.refl _⟩
 | k::gs,s=>by
  show ∃ zs,(Tn.j9 ws rs gs (Tn.step1 ws rs s k)).2.2=_/\_;obtain ⟨zs,e,hs⟩:=Hj ws rs gs (Tn.step1 ws rs s k);by_cases h:s.2.1.getD k 0<rs.getD k 0/\(Tn.fW ws k).all (fun r=>decide (0<s.1.getD r.toNat 0))=true
  ·have e2:Tn.step1 ws rs s k=(Tn.bump s.1 (Tn.fW ws k) (-1),s.2.1.set k (s.2.1.getD k 0+1),s.2.2++[k]):=if_pos h;rw [e2] at e ⊢;exact ⟨k::zs,by rw [e,ahJ];rfl,hs.cons₂ _⟩
  ·have e2:Tn.step1 ws rs s k=s:=if_neg h;rw [e2] at e ⊢;exact ⟨zs,e,hs.cons _⟩
abbrev tU:Stmt:=top 60
theorem jO:aG ["free","ways","rests","left","takes","going"] ["free","ways","rests"] (ao tU):=by walk_at "sc"
inductive acN (K:PySem.W.Frag)(T:fJ)(vs:List V)(H:Hp)(Q:VK)(E:XK):Prop
 | mk (a b:Addr)(v:V)(fs rs:List Int)(ws:List (List Int))(_:vs=[.ref a,v,.ref b])(_:SqL K H a (fs.map V.int))(_:Den K H v (Nh ws))(_:SqL K H b (rs.map V.int))(_:rs.length=ws.length)(_:fs.length<=1000)(_:ws.length<64)(_:(∀ w∈ws,Tn.WOk fs.length w))(_:TabsOk T H)(_:∀ (l lt ll:Addr)(xs left:List Int)(H':Hp),Ow T H H' [(l,.tup [.ref lt,.ref ll]),(lt,.lst (xs.map V.int)),(ll,.lst (left.map V.int))]->xs.length=ws.length->left.length=fs.length->Q (.ref l) H')
variable (oU:(CX0|||3) jY jZ ["left","ways","rests","takes","going"] (acG K T))
variable (vf:(CX0|||2) nq nH ["left","ways","rests","takes","going"] (acH K T))
variable {uF:Addr}{uU:FuncData}(iY:Df K mg "deal_turns" tU ["free","ways","rests"] uF uU)
include cL eO oU vf iY in
theorem afe (B:Blt mg):
  (CX0|||4) uF uU ["free","ways","rests"] (acN K T):=by
 refine iY.F.ok jO ?_ ?_;walk_at "i";obtain ⟨a,b,v,fs,rs,ws,rfl,hA,d0,hB,rl,fl,wl,wok,tk,q⟩:=h;obtain ⟨va,vs,rfl,hV,hds⟩:=d0.mK;have hvl:vs.length=ws.length:=by rw [hds.length,aeu]
 refine ⟨_,(3<$>jO<$>(bL bh rfl B.list agy (pv 0>=>ak))<|>4<$>jO<$>(@bD _ _ _ _ _ _ _ _ Cq (@dM _ _ _ _ (aA>=>ak)) (aD aB rfl B.len agk (pv 1>=>ak)))<|>5<$>jO<$>(Io rfl rfl B.list rfl B.range (aD aB rfl B.len agk (pv 1>=>ak)>=>ak))<|>LR agC (Uq (pv 5) (fun _=>rfl))
   (aM (cL<*oU<*(pv 3>=>pv 1>=>pv 2>=>pv 4>=>pv 5>=>ak))<|>(~~~(5<$>jO<$>(eO<*vf<*(pv 3>=>pv 1>=>pv 2>=>pv 4>=>pv 5>=>ak)))))<|>(~~~(@aP _ _ _ _ (@fH _ _ _ _ _ (pv 4>=>pv 3>=>ak))))),?_⟩
 have O:=Ow.refl tk;refine ⟨_,rfl,a,_,rfl,.inl (O.same.seq hA),fun ll hll=>?_⟩;walk_at "nw";refine ⟨szl,fun l1 h1=>?_⟩;walk_at "nw";refine ⟨_,rfl,va,_,rfl,.inl (O.same.seq hV),l1,_,_,rfl,rfl,O.get 0,by omega,by omega,jL (by rw [hvl,agm];simp;omega),fun lt hlt=>?_⟩;walk_at "nw";rw [hvl,agm,yC] at O;have O:=O.two;refine ⟨_,rfl,va,_,rfl,.inl (O.same.seq hV),ws.length,by rw [hvl],wl,fun lg hlg=>?_⟩;walk_at "nw";have eg:kE ws.length=(Tn.asI (List.range ws.length)).map V.int:=by unfold kE Tn.asI;rw [ahU];rfl
 rw [eg] at O;refine ⟨fun m σ H'=>Iv (∃ (lg:Addr)(gs:List Nat)(l xs:List Int),σ=[some (.ref a),some (.ref va),some (.ref b),some (.ref ll),some (.ref lt),some (.ref lg)]/\gs.Nodup/\(∀ k∈gs,k<ws.length)/\l.length=fs.length/\xs.length=ws.length/\m=gap rs xs+gs.length /\
  Ow T H H' [(lg,.lst ((Tn.asI gs).map V.int)),(lt,.lst (xs.map V.int)),(ll,.lst (l.map V.int))]),⟨_,trivial,lg,_,fs,_,rfl,List.nodup_range,(fun k hk=>agK.mp hk),rfl,agO ..,rfl,O⟩,?_⟩
 rintro m σ H2 ⟨-,lg,gs,l,xs,rfl,nd,gn,hll',hxl,rfl,O⟩;have gl:gs.length<=1000:=by
  have:gs.length<=ws.length:=by
   have:=List.Nodup.length_le_of_subset (l₂:=List.range ws.length) nd fun k hk=>agK.mpr (gn k hk);simpa using this
  omega
 refine ⟨_,rfl,_,.inl ⟨_,O.sq 0,rfl⟩,ifB (fun hc=>?_) fun hc=>?_⟩
 ·have hne:0<gs.length:=by
   cases gs with
   | nil=>simp [Tn.asI] at hc
   | cons x gs=>simp
  refine ⟨_,fun σ' H' h=>h,?_⟩;obtain ⟨H1,O1,s1,hBk,back⟩:=Ow.lend (A:=[(ll,.lst (l.map V.int)),(lt,.lst (xs.map V.int))]) (B:=[(lg,.lst ((Tn.asI gs).map V.int))]) (((O.pull 1).pull 2));refine ⟨_,rfl,_,rfl,_,rfl,_,rfl,_,rfl,ll,b,lt,lg,.ref va,l,rs,xs,ws,gs,H1,rfl,⟨O1,.list (hV.mo s1) (hds.mo s1),hB.mo s1,SqL.of (hBk (lg,.lst ((Tn.asI gs).map V.int)) (by simp)),rl,hxl,gn,nd,by rw [hll'];exact wok,by rw [hll'];exact fl,by omega,gl⟩,fun M H3 hM O3=>?_⟩;have M0:=hM.nn;have O:=back _ _ O3;have hx2:(Tn.bump xs (Tn.asI gs) M).length=ws.length:=by rw [Tn.mL,hxl]
  have hl2:(Tn.bumps l (gs.map fun k=>(Tn.fW ws k,-M))).length=fs.length:=by rw [Tn.vd,hll']
  have hg2:gap rs (Tn.bump xs (Tn.asI gs) M)<=gap rs xs:=aaH (by rw [Tn.mL]) fun k=>by
   rw [Tn.G6 (Tn.RN nd gn).1 (by rw [hxl];exact (Tn.RN nd gn).2)];split <;>omega
  generalize Tn.bump xs (Tn.asI gs) M=xs2 at O hx2 hg2;generalize Tn.bumps l (gs.map fun k=>(Tn.fW ws k,-M))=l2 at O hl2;obtain ⟨H4,O4,s4,hBk4,back4⟩:=Ow.lend (A:=[(ll,.lst (l2.map V.int)),(lt,.lst (xs2.map V.int))]) (B:=[(lg,.lst ((Tn.asI gs).map V.int))]) O;refine ⟨_,rfl,_,rfl,_,rfl,_,rfl,_,rfl,ll,b,lt,lg,.ref va,_,rs,_,ws,gs,H4,rfl,⟨O4,.list (hV.mo s4) (hds.mo s4),hB.mo s4,SqL.of (hBk4 (lg,.lst ((Tn.asI gs).map V.int)) (by simp)),rl,hx2,gn,nd,by rw [hl2];exact wok,by rw [hl2];exact fl,by omega,gl⟩,fun l5 H5 O5=>?_⟩;have O:=back4 _ _ O5;have O:=(O.del 3);have O:=O.pull 2;have O:=(O.pull 1);have tg:=Bt ws rs gs (l2,xs2,[]) (fun k hk=>by rw [rl];exact gn k hk) (by show xs2.length=_;omega);obtain ⟨zs,ez,hz⟩:=Hj ws rs gs (l2,xs2,[]);have ez:(Tn.j9 ws rs gs (l2,xs2,[])).2.2=zs:=ez;obtain ⟨t1,t2,_⟩:=Tn.Bs ws rs gs (l2,xs2,[]);refine ⟨_,?_,trivial,l5,(Tn.j9 ws rs gs (l2,xs2,[])).2.2,_,_,rfl,by rw [ez];exact hz.nodup nd,(fun k hk=>gn k (hz.subset (by rw [ez] at hk;exact hk))),t1.trans hl2,t2.trans hx2,rfl,?_⟩
  ·have tg:gap rs (Tn.j9 ws rs gs (l2,xs2,[])).2.1+(Tn.j9 ws rs gs (l2,xs2,[])).2.2.length=gap rs xs2+0:=tg;omega
  ·exact O
 ·have hg:gs=[]:=by
   cases gs with
   | nil=>rfl
   | cons x gs=>simp [Tn.asI] at hc
  subst hg;refine ⟨_,rfl,_,rfl,szl,fun l5 hl5=>?_⟩;walk_at "nw";exact q l5 lt ll xs l _ (O.two) hxl hll'
abbrev Ig:Stmt:=top 62
theorem o8:aG ["below","springs","roll","calls","free","wants","takes","group","ways","dealt","number","take"] ["below","springs","roll","calls"] (ao Ig):=by walk_at "sc"
def acg (r:List Int)(ls:List Lic):Nat->List Int:=Tn.fW (ls.map fun l=>Rv.sy r l.start l.back)
theorem Pr (h:ls[k]?=some l):acg r ls k=Rv.sy r l.start l.back:=by
 unfold acg Tn.fW;rw [agj,agg,h];rfl
def rR (r:List Int)(l:Lic):Prop:=aej r l/\0<=l.most
theorem aaZ (hR:Rv.jK r)(h:∀ l∈ls,rR r l)(hk:k<ls.length):Tn.WOk r.length (acg r ls k):=by
 obtain ⟨h0,h1,_⟩:=(h _ (ahd hk)).1;rw [Pr (af9 hk)];exact Rv.Uh hR h0 h1
variable {cs:List Int}
theorem Ny (h:ls.length=cs.length):(KH ls cs).length=ls.length:=by
 unfold KH;rw [ahn];omega
inductive Qx (K:PySem.W.Frag)(T:fJ)(vs:List V)(H:Hp)(Q:VK)(E:XK):Prop
 | mk (a b c:Addr)(v:V)(r s:List Int)(ls:List Lic)(cs:List Int)(_:vs=[.ref a,.ref b,v,.ref c])(_:acP K H a r)(_:SqL K H b (s.map V.int))(_:s.length=r.length)(_:Den K H v (SN ls))(_:ls.length<64)(_:SqL K H c (cs.map V.int))(_:ls.length=cs.length)(_:(∀ l∈ls,rR r l))(_:TabsOk T H)(_:zX T H (fun ys=>∃ xs:List Int,ys=xs.map V.int/\xs.length=ls.length) Q)
variable (oW:(CX0|||6) ux uP ["below","springs"] (V4 K T))
variable (Fv:(CX0|||2) zH zP ["roll","calls"] (La K T))
variable (DW:(CX0|||6) wX xP ["roll"] (Hy K T))
variable (Aq:(CX0|||3) uq uM ["below","one"] (Ep K))
variable (Aw:(CX0|||4) uF uU ["free","ways","rests"] (acN K T))
variable {Sd:Addr}{SM:FuncData}(vo:Df K mg "deal" Ig ["below","springs","roll","calls"] Sd SM)
include dY iU kW jB iY oW Fv DW Aq Aw vo in
theorem abE (B:Blt mg):
  (CX0|||7) Sd SM ["below","springs","roll","calls"] (Qx K T):=by
 refine vo.F.ok o8 ?_ ?_
 walk_at "i"
 obtain ⟨a,b,c,v,r,sp,ls,cs,rfl,⟨hA,hR,h64⟩,hB,hsl,hd,hl64,hC,hlc,ok,tk,q⟩:=h
 obtain ⟨va,vs,rfl,hV,d0⟩:=hd.mK
 have hvl:vs.length=ls.length:=by rw [d0.length,aeu]
 refine ⟨_,(aF (4<$>o8<$>(dY<*oW<*(aq (pv 0) (aq (pv 1) ak))))
  (aF (Il (i:=5) o8.nd rfl (Or.inr rfl) (kW<*Fv<*(aq (pv 2) (aq (pv 3) ak))))
  (aF (6<$>o8<$>(bD Cq (dM (aq aA ak)) (aD aB rfl B.len agk (aq (pv 2) ak))))
  (aF (f9 agC rfl (cJ (jB<*DW<*(aq (pv 2) ak))) (7>>o8)
   (aF (kO (i:=8) (ao Ig) rfl ["below","springs","roll","calls","free","wants","takes","group","ways","dealt","number","take"] rfl ["number","below","roll"] [none,some 0,some 2] (by decide+kernel) (by decide+kernel) (by decide+kernel) rfl o8.nd rfl rfl (cJ (pv 7)) (fun _ _ _=>(bB (i:=0) (show (["number","below","roll"]:List Str).Nodup by decide+kernel) rfl (Or.inl rfl))) (fun _ _ _=>eG) (fun _ _ _=>(iU<*Aq<*(aq (pv 1) (aq (aZ (ji (K:=K) rfl) (pv 2) (pv 0) (fun _ _=>rfl)) ak)))) rfl)
   (aF (gQ (iY<*Aw<*(aq (pv 4) (aq (pv 8) (aq (fM (ao Ig) rfl ["below","springs","roll","calls","free","wants","takes","group","ways","dealt","number","take"] rfl ["number","wants"] [none,some 5] (by decide+kernel) (by decide+kernel) (by decide+kernel) rfl (cJ (pv 7)) (fun _ _ _=>(bB (i:=0) (show (["number","wants"]:List Str).Nodup by decide+kernel) rfl (Or.inl rfl))) (fun _ _ _=>eG) (fun _ _ _=>(aZ (ji (K:=K) rfl) (pv 1) (pv 0) (fun _ _=>rfl)))) ak)))) (iH rfl (aC (9>>o8) (aC (4>>o8) cg))))
   (aK (f9 agC rfl (Cj rfl B.zip (aq (pv 7) (aq (pv 9) ak))) (iH rfl (aC (10>>o8) (aC (11>>o8) cg)))
    (aK (gQ (pv 11) (pX (pv 6) (pv 10) set_list))))))))
  (aK (aP (pv 6))))))),?_⟩
 refine aeT ?_
 intro zu0 zu1 zu2 zu3 zu4 zu5 zu6 zu7
 have O:=Ow.refl tk
 refine ⟨_,rfl,_,rfl,a,b,r,sp,rfl,⟨hA,hR,h64⟩,hB,hsl,tk,O.M6 fun lf H1 ys O e=>?_⟩
 subst e
 refine ⟨_,rfl,_,rfl,.ref va,c,ls,cs,rfl,hd.Cz O.same,O.same.seq hC,hlc,by omega,O.same.t1,O.M6 fun lw H2 ys O e=>?_⟩
 subst e
 have hnl:(Rv.nats r sp).length=r.length:=(Rv.Ka r sp).len
 have hwl:=Ny hlc
 have hW:=fun k (hk:k<ls.length)=>aaZ hR ok hk
 generalize hwa:KH ls cs=wa at O hwl
 refine ⟨szl,fun l1 h1=>?_⟩
 walk_at "nw"
 refine ⟨_,rfl,va,_,rfl,.inl (O.same.seq hV),l1,_,_,rfl,rfl,O.get 0,by omega,by omega,jL (by rw [agm];simp;omega),fun lt hlt=>?_⟩
 walk_at "nw"
 rw [agm,yC,hvl] at O
 have O:=O.two
 refine ⟨_,rfl,.ref va,ls,rfl,hd.Cz O.same,hl64,O.same.t1,fun lg H3 ps p OG R G=>?_⟩
 have nin:∀ q∈((lg,HO.lst (ps.map fun p=>V.ref p.1))::TQ ps),∀ z∈[(lt,HO.lst ((List.replicate ls.length 0).map V.int)),(lw,.lst (wa.map V.int)),(lf,.lst ((Rv.nats r sp).map V.int))],z.1≠q.1:=fun q hq z hz e=>by
  have h1:=OG.new q hq
  have h2:=O.at_ z hz
  rw [e,h1] at h2;cases h2
 obtain ⟨Hb,O,sb,kb⟩:=(O.dD OG.same).reb
 have hG:SqL K Hb lg (ps.map fun p=>V.ref p.1):=SqL.of (kb lg _ (OG.get 0) (nin _ agB))
 have hP:∀ (j:Nat)(pj:Pg),ps[j]?=some pj->SqL K Hb pj.1 ((Tn.asI pj.2.2).map V.int):=fun j pj hj=>by
  have:=Ry hj
  have hm:=agd this
  exact SqL.of (kb _ _ (OG.at_ _ (agv _ hm)) (nin _ (agv _ hm)))
 clear nin kb OG
 have hA:=sb.seq hA
 have hV:=sb.seq hV
 have d0:=d0.mo sb
 refine ⟨lg,rfl,⟨_,O.same.seq hG⟩,?_⟩
 refine iB (K:=K) (xs:=ps.map fun p=>V.ref p.1) (fun j σ H'=>Iv (∃ (lf:Addr)(v7 v8 v9 v10 v11:Option V)(xs fl:List Int),σ=[some (.ref a),some (.ref b),some (.ref va),some (.ref c),some (.ref lf),some (.ref lw),some (.ref lt),v7,v8,v9,v10,v11] /\
  Ow T Hb H' [(lt,.lst (xs.map V.int)),(lw,.lst (wa.map V.int)),(lf,.lst (fl.map V.int))]/\xs.length=ls.length/\fl.length=r.length))
  ⟨trivial,lf,none,none,none,none,none,_,_,rfl,O,agO ..,hnl⟩ (fun i σ H' _ ⟨_,_,_,_,_,_,_,_,_,_,O,_⟩=>O.same.seq hG) ?_ ?_
 ·rintro j y σ H4 hy ⟨-,lf,v7,v8,v9,v10,v11,xs,fl,rfl,O,hxl,hfl⟩
  rw [agg] at hy
  obtain ⟨pj,hj,rfl⟩:∃ pj,ps[j]?=some pj/\y=V.ref pj.1:=by
   cases e:ps[j]? with
   | none=>rw [e] at hy;cases hy
   | some j=>rw [e] at hy;exact ⟨j,rfl,(agz hy).symm⟩
  have hgj:(ps.map (·.2))[j]?=some pj.2:=by rw [agg,hj];rfl
  have hPj:=hP j pj hj
  have up:=G.up R (agd hgj)
  have nd:=Tn.Hz up
  have hlt:∀ k∈pj.2.2,k<ls.length:=fun k hk=>R.lt (by rw [<- G.flat];exact List.mem_flatten.mpr ⟨pj.2.2,ahx (agd hgj),hk⟩)
  have hgl:pj.2.2.length<=ls.length:=by
   have hs:pj.2.2.Sublist p:=by rw [<- G.flat];exact Tn.Bp (ahx (agd hgj))
   have:=hs.length_le
   rw [R.len] at this;exact this
  /- ways -/
  refine ⟨_,rfl,pj.1,rfl,⟨_,O.same.seq hPj⟩,fun acc hacc=>?_⟩
  refine eH (K:=K) (xs:=(Tn.asI pj.2.2).map V.int) (fun i τ H'=>Iv (∃ (v0:Option V)(Hc:Hp)(us:List V),τ=[v0,some (.ref a),some (.ref va)]/\Ow T Hc H' [(acc,.lst us),(lt,.lst (xs.map V.int)),(lw,.lst (wa.map V.int)),(lf,.lst (fl.map V.int))]/\aJ T Hb Hc/\bY K Hc us ((pj.2.2.take i).map fun k=>sI (acg r ls k))))
   ⟨trivial,none,Hb,[],rfl,O.mk' hacc rfl,aJ.refl O.same.t0,.nil⟩ (fun i τ H' _ ⟨_,_,_,_,_,O,sc,_⟩=>(sc.trans O.same).seq hPj) ?_ ?_
  ·rintro i y τ H5 hy ⟨-,v0,Hc,us,rfl,O,sc,d1⟩
   obtain ⟨z,hz,rfl⟩:=ints_get hy
   obtain ⟨k,hk,rfl⟩:=Tn.lJ hz
   have hi:=(af4.mp hk).1
   have hkl:=hlt k (agd hk)
   obtain ⟨al,hal,hTl⟩:=d0.rO (af9 hkl)
   refine JH ?_
   refine ⟨_,rfl,_,rfl,_,rfl,va,_,(k:Int),_,rfl,rfl,(sc.trans O.same).seq hV,dU hal,a,al,r,_,rfl,(sc.trans O.same).seq hA,hR,by omega,hTl.mo (sc.trans O.same),(ok _ (ahd hkl)).1,O.got fun lx H6 ys O e=>?_⟩
   subst e
   refine ⟨_,O.get 1,aH (by rw [d1.length,aeu,agt];omega),?_⟩
   walk_at "pt"
   obtain ⟨Hn2,O,sn,en2⟩:=O.frz
   refine ⟨trivial,_,Hn2,us++[.ref lx],rfl,O,sc.trans sn,?_⟩
   rw [Tn.jh hk]
   refine (d1.mo sn).append (.cons ?_ .nil)
   rw [Pr (af9 hkl)]
   exact Den.ints (SqL.of en2)
  rintro τ H5 ⟨-,v0,Hc,us,rfl,O,sc,d1⟩
  rw [aeu,Tn.oJ,agq (agb _)] at d1
  /- rests -/
  refine ⟨_,rfl,_,rfl,_,rfl,pj.1,rfl,⟨_,(sc.trans O.same).seq hPj⟩,fun ac2 hac2=>?_⟩
  refine eH (K:=K) (xs:=(Tn.asI pj.2.2).map V.int) (fun i τ H'=>Iv (∃ (v0:Option V),τ=[v0,some (.ref lw)]/\Ow T Hc H' [(ac2,.lst (((pj.2.2.take i).map (Tn.fX wa)).map V.int)),(acc,.lst us),(lt,.lst (xs.map V.int)),(lw,.lst (wa.map V.int)),(lf,.lst (fl.map V.int))]))
   ⟨trivial,none,rfl,O.mk' hac2 rfl⟩ (fun i τ H' _ ⟨_,_,_,O⟩=>(sc.trans O.same).seq hPj) ?_ ?_
  ·rintro i y τ H6 hy ⟨-,v0,rfl,O⟩
   obtain ⟨z,hz,rfl⟩:=ints_get hy
   obtain ⟨k,hk,rfl⟩:=Tn.lJ hz
   have hi:=(af4.mp hk).1
   have hkl:=hlt k (agd hk)
   refine JH ?_
   refine ⟨_,rfl,_,rfl,lw,_,(k:Int),_,rfl,rfl,O.sq 3,cu (fU (ns:=wa) (k:=k) (by omega)),?_⟩
   refine ⟨_,O.get 0,aH (by rw [aeu,aeu,agt];omega),?_⟩
   walk_at "pt"
   refine ⟨trivial,_,rfl,?_⟩
   rw [Tn.jh hk,aga];exact O
  rintro τ H6 ⟨-,v0,rfl,O⟩
  rw [aeu,Tn.oJ,agq (agb _)] at O
  have dws:bY K Hc us ((pj.2.2.map (acg r ls)).map sI):=by rw [ahU];exact d1
  refine ⟨lf,ac2,.ref acc,fl,pj.2.2.map (Tn.fX wa),pj.2.2.map (acg r ls),rfl,O.sq 4,.list (O.sq 1) (dws.mo O.same),O.sq 0,by rw [aeu,aeu],by omega,by rw [aeu];omega,fun w hw=>?_,O.same.t1,fun l lt2 ll ys left H7 OD hyl hlfl=>?_⟩
  ·obtain ⟨k,hk,rfl⟩:=agF.mp hw
   rw [hfl]
   exact hW k (hlt k hk)
  have O:=O.join OD
  walk_at "jn"
  refine ⟨l,_,rfl,O.sqT 0,rfl,_,_,rfl,_,_,rfl,rfl,?_⟩
  have O:=((((O.del 0).del 2).del 2).del 4)
  walk_at "er"
  rw [aeu] at hyl
  refine ⟨_,rfl,_,rfl,pj.1,lt2,_,_,rfl,(sc.trans O.same).seq hPj,O.sq 0,?_⟩
  refine GF (K:=K) (fun i σ H'=>Iv (∃ (v10 v11:Option V)(cur:List Int),σ=[some (.ref a),some (.ref b),some (.ref va),some (.ref c),some (.ref ll),some (.ref lw),some (.ref lt),some (.ref pj.1),some (.ref acc),some (.ref lt2),v10,v11]/\cur.length=ls.length /\
   Ow T Hc H' [(lt2,.lst (ys.map V.int)),(ll,.lst (left.map V.int)),(lt,.lst (cur.map V.int)),(lw,.lst (wa.map V.int))])) (by rw [aeu,aeu,Tn.oJ];omega)
   ⟨trivial,_,_,xs,rfl,hxl,O⟩ (fun i σ H' _ ⟨_,_,_,_,_,_,O⟩=>⟨(sc.trans O.same).seq hPj,O.sq 0⟩) ?_ ?_
  ·rintro i x y t' σ H8 hx hy ⟨-,v10,v11,cur,rfl,hcl,O⟩ ht
   obtain ⟨z,hz,rfl⟩:=ints_get hx
   obtain ⟨k,hk,rfl⟩:=Tn.lJ hz
   obtain ⟨u,hu,rfl⟩:=ints_get hy
   have hkl:=hlt k (agd hk)
   walk_at "nw"
   refine ⟨t',_,rfl,O.sqT 0,rfl,_,_,rfl,_,_,rfl,rfl,?_⟩
   refine ⟨_,rfl,_,rfl,_,rfl,lt,_,_,k,rfl,rfl,O.get 3,gZ (by rw [aeu];omega),?_⟩
   walk_at "pt"
   have O:=O.tail
   exact ⟨trivial,_,_,cur.set k u,rfl,by rw [agG];exact hcl,by rw [agV];exact O⟩
  ·rintro σ H8 ⟨-,v10,v11,cur,rfl,hcl,O⟩
   have O:=(O.base sc).tail
   have O:=O.pull 2
   walk_at "er"
   have O:=O.pull 2
   walk_at "er"
   exact ⟨trivial,ll,_,_,_,_,_,cur,left,rfl,O,hcl,hlfl.trans hfl⟩
 ·rintro σ H4 ⟨-,lf,v7,v8,v9,v10,v11,xs,fl,rfl,O,hxl,hfl⟩
  exact ⟨_,rfl,(O.base sb).ret 0 rfl q ⟨xs,rfl,hxl⟩⟩
abbrev tG:Stmt:=top 68
theorem gB:aG ["roll","ponds","kept","calls","lessened","pond","keeps","number","room","leak"] ["roll","ponds","kept","calls"] (ao tG):=by walk_at "sc"
def Ei (cs:List Int)(ps:List (Int × Int × Int))(ks:List Int):Nat->List Int
 | 0=>cs
 | i+1=>(Ei cs ps ks i).set (ps.getD i (0,0,0)).1.toNat (min (cs.getD (ps.getD i (0,0,0)).1.toNat 0) ((ps.getD i (0,0,0)).2.1 - ks.getD i 0))
theorem yK (cs:List Int)(ps:List (Int × Int × Int))(ks:List Int):∀ i,(Ei cs ps ks i).length=cs.length
 | 0=>rfl
 | i+1=>by rw [Ei,agG];exact yK cs ps ks i
inductive acI (K:PySem.W.Frag)(T:fJ)(vs:List V)(H:Hp)(Q:VK)(E:XK):Prop
 | mk (v:V)(b c d:Addr)(us:List V)(ps:List (Int × Int × Int))(ks cs:List Int)(_:vs=[v,.ref b,.ref c,.ref d])(_:SqL K H b us)(_:bY K H us (ps.map dMv))(_:SqL K H c (ks.map V.int))(_:ps.length=ks.length)(_:SqL K H d (cs.map V.int))(_:(∀ p∈ps,0<=p.1/\p.1<(cs.length:Int)))(_:TabsOk T H)(_:zX T H (fun ys=>ys=(Ei cs ps ks ps.length).map V.int) Q)
variable {uw:Addr}{uO:FuncData}(iW:Df K mg "pond_calls" tG ["roll","ponds","kept","calls"] uw uO)
include iW in
theorem ae9 (B:Blt mg):(CX0|||1) uw uO ["roll","ponds","kept","calls"] (acI K T):=by
 refine iW.F.ok gB ?_ ?_;walk_at "i";obtain ⟨v,b,c,d,us,ps,ks,cs,rfl,hB,d0,hC,hpk,hD,hrg,tk,q⟩:=h;have hul:us.length=ps.length:=by rw [d0.length,aeu]
 have O:=Ow.refl tk;refine ⟨_,(aF (4<$>gB<$>(bL bh rfl B.list agy (aq (pv 3) ak)))
  (aF (f9 agC rfl (Cj rfl B.zip (aq (pv 1) (aq (pv 2) ak))) (iH rfl (aC (5>>gB) (aC (6>>gB) cg)))
   (aF (gQ (pv 5) (iH rfl (aC (7>>gB) (aC (8>>gB) (aC (9>>gB) cg)))))
   (aK (gQ (aD (Jm rfl) rfl B.min PyProof.Rows.boot_min (aq (aZ aU (pv 3) (pv 7) (fun _ _=>rfl)) (aq (bD yF (pv 8) (pv 6)) ak))) (pX (pv 4) (pv 7) set_list)))))
  (aK (aP (pv 4))))),?_⟩
 refine aeS ?_;intro zu0 zu1 zu2 zu3;refine ⟨_,rfl,d,_,rfl,.inl hD,fun lm hlm=>?_⟩;walk_at "nw";refine ⟨_,rfl,_,rfl,b,c,_,_,rfl,O.same.seq hB,O.same.seq hC,?_⟩;refine GF (K:=K) (fun i σ H'=>Iv (∃ (v5 v6 v7 v8 v9:Option V),σ=[some v,some (.ref b),some (.ref c),some (.ref d),some (.ref lm),v5,v6,v7,v8,v9]/\Ow T H H' [(lm,.lst ((Ei cs ps ks i).map V.int))]))
  (by rw [aeu];omega) ⟨trivial,none,none,none,none,none,rfl,O⟩ (fun _ _ _ _ ⟨_,_,_,_,_,_,_,O⟩=>⟨O.same.seq hB,O.same.seq hC⟩) ?_ ?_
 ·rintro i x y t' σ H3 hx hy ⟨-,v5,v6,v7,v8,v9,rfl,O⟩ ht';obtain ⟨ap,p,rfl,hp,hT⟩:=d0.Mw hx;obtain ⟨u,hu,rfl⟩:=ints_get hy;have hr:=hrg p (agd hp);walk_at "nw";refine ⟨t',_,rfl,O.sqT 0,rfl,_,_,rfl,_,_,rfl,rfl,?_⟩;have O:=O.tail;refine ⟨_,rfl,ap,_,rfl,hT.mo O.same,rfl,_,_,rfl,_,_,rfl,_,_,rfl,rfl,?_⟩;refine ⟨_,rfl,_,rfl,d,_,_,_,rfl,rfl,O.same.seq hD,jt hr.1 hr.2,_,rfl,_,rfl,_,_,rfl,rfl,_,_,rfl,_,rfl,_,rfl,?_⟩;refine uc O 0 rfl (afo hr.1 (by rw [aeu,yK];exact hr.2)) fun H6 O=>?_;refine ⟨trivial,_,_,_,_,_,rfl,?_⟩;rw [Ei,getD_some hp,getD_some hu,agV];have em:min (cs.getD p.1.toNat 0) (p.2.1 - u)=if p.2.1 - u<cs.getD p.1.toNat 0 then p.2.1 - u else cs.getD p.1.toNat 0:=by split <;>omega
  rw [em];exact O
 rintro σ H3 ⟨-,v5,v6,v7,v8,v9,rfl,O⟩;rw [hul] at O;exact ⟨_,rfl,O.ret 0 rfl q rfl⟩
abbrev Ca:Stmt:=top 69
theorem gU:aG ["ponds","kept","takes","after","lost","pond","keeps","number","room","leak","full","loss"] ["ponds","kept","takes"] (ao Ca):=by walk_at "sc"
def OJ (ps:List (Int × Int × Int))(ks xs:List Int)(i:Nat):Int:=ks.getD i 0+xs.getD (ps.getD i (0,0,0)).1.toNat 0
def Jb (ps:List (Int × Int × Int))(ks xs:List Int)(i:Nat):Int:=OJ ps ks xs i*(ps.getD i (0,0,0)).2.2 / 1000
inductive Wb (K:PySem.W.Frag)(T:fJ)(vs:List V)(H:Hp)(Q:VK)(E:XK):Prop
 | mk (b c d:Addr)(us:List V)(ps:List (Int × Int × Int))(ks xs:List Int)(_:vs=[.ref b,.ref c,.ref d])(_:SqL K H b us)(_:bY K H us (ps.map dMv))(_:ps.length<=1000)(_:SqL K H c (ks.map V.int))(_:ps.length=ks.length)(_:SqL K H d (xs.map V.int))(_:(∀ p∈ps,0<=p.1/\p.1<(xs.length:Int)/\0<=p.2.2/\p.2.2<=1000))(_:TabsOk T H)(_:∀ (t la ll:Addr)(H':Hp),Ow T H H' [(t,.tup [.ref la,.ref ll]),(ll,.lst (((List.range ps.length).map (Jb ps ks xs)).map V.int)),(la,.lst (((List.range ps.length).map fun i=>OJ ps ks xs i - Jb ps ks xs i).map V.int))]->Q (.ref t) H')
theorem LK (f:Nat->Int)(i:Nat):((List.range (i+1)).map f).map V.int=((List.range i).map f).map V.int++[V.int (f i)]:=by
 rw [ahI,aga,aga];rfl
variable {Dj:Addr}{Dt:FuncData}(oA:Df K mg "evening" Ca ["ponds","kept","takes"] Dj Dt)
include oA in
theorem adl (B:Blt mg)(hW:∃ t,mg "WHOLE"=some (.int 1000 t)):(CX0|||1) Dj Dt ["ponds","kept","takes"] (Wb K T):=by
 obtain ⟨tW,hWHOLE⟩:=hW;refine oA.F.ok gU ?_ ?_;walk_at "i";obtain ⟨b,c,d,us,ps,ks,xs,rfl,hB,d0,hpl,hC,hpk,hD,hrg,tk,q⟩:=h;have hul:us.length=ps.length:=by rw [d0.length,aeu]
 have O:=Ow.refl tk;refine ⟨_,(aF (3<$>gU<$>(dM ak))
  (aF (4<$>gU<$>(dM ak))
  (aF (f9 agC rfl (Cj rfl B.zip (aq (pv 0) (aq (pv 1) ak))) (iH rfl (aC (5>>gU) (aC (6>>gU) cg)))
   (aF (gQ (pv 5) (iH rfl (aC (7>>gU) (aC (8>>gU) (aC (9>>gU) cg)))))
   (aF (10<$>gU<$>(bD ud (pv 6) (aZ aU (pv 2) (pv 7) (fun _ _=>rfl))))
   (aF (11<$>gU<$>(bD pB (bD Ez (pv 10) (pv 9)) (fP (v:=.int (1000)) rfl hWHOLE ⟨_,rfl⟩)))
   (aF (aM (kh agn ago agp bC (pv 3) (aq (bD yF (pv 10) (pv 11)) ak)))
   (aK (aM (kh agn ago agp bC (pv 4) (aq (pv 11) ak)))))))))
  (aK (aP (fH (aq (pv 3) (aq (pv 4) ak)))))))),?_⟩
 refine aeR ?_;intro zu0 zu1 zu2 zu3 zu4 zu5 zu6 zu7;refine ⟨szl,fun la hla=>?_⟩;walk_at "nw";refine ⟨szl,fun ll hll=>?_⟩;walk_at "nw";refine ⟨_,rfl,_,rfl,b,c,_,_,rfl,O.same.seq hB,O.same.seq hC,?_⟩;refine GF (K:=K) (fun i σ H'=>Iv (∃ (v5 v6 v7 v8 v9 v10 v11:Option V),σ=[some (.ref b),some (.ref c),some (.ref d),some (.ref la),some (.ref ll),v5,v6,v7,v8,v9,v10,v11]/\Ow T H H' [(ll,.lst (((List.range i).map (Jb ps ks xs)).map V.int)),(la,.lst (((List.range i).map fun i=>OJ ps ks xs i - Jb ps ks xs i).map V.int))]))
  (by rw [aeu];omega) ⟨trivial,none,none,none,none,none,none,none,rfl,O⟩ (fun _ _ _ _ ⟨_,_,_,_,_,_,_,_,_,O⟩=>⟨O.same.seq hB,O.same.seq hC⟩) ?_ ?_
 ·rintro i x y t' σ H3 hx hy ⟨-,v5,v6,v7,v8,v9,v10,v11,rfl,O⟩ ht';obtain ⟨ap,p,rfl,hp,hT⟩:=d0.Mw hx;obtain ⟨u,hu,rfl⟩:=ints_get hy;have hi:=(af4.mp hp).1;have hr:=hrg p (agd hp);have e1:OJ ps ks xs i=u+xs.getD p.1.toNat 0:=by unfold OJ;rw [getD_some hp,getD_some hu]
  have e2:Jb ps ks xs i=(u+xs.getD p.1.toNat 0)*p.2.2 / 1000:=by unfold Jb;rw [e1,getD_some hp]
  walk_at "nw";refine ⟨t',_,rfl,O.sqT 0,rfl,_,_,rfl,_,_,rfl,rfl,?_⟩;have O:=O.tail;refine ⟨_,rfl,ap,_,rfl,hT.mo O.same,rfl,_,_,rfl,_,_,rfl,_,_,rfl,rfl,?_⟩;refine ⟨_,rfl,_,rfl,_,rfl,d,_,_,_,rfl,rfl,O.same.seq hD,jt hr.1 hr.2.1,_,_,rfl,rfl,?_⟩;refine ⟨_,rfl,_,rfl,_,_,rfl,rfl,.inr ⟨by omega,by omega⟩,_,_,rfl,rfl,⟨by decide,by decide⟩,?_⟩;refine ⟨_,rfl,.inl ⟨rfl,_,O.sq 1⟩,_,rfl,_,rfl,_,_,rfl,rfl,la,_,_,rfl,rfl,O.get 1,aH (by rw [aeu,aeu,ag0];omega),?_⟩;walk_at "pt";refine ⟨_,rfl,.inl ⟨rfl,_,O.sq 0⟩,_,rfl,ll,_,_,rfl,rfl,O.get 0,aH (by rw [aeu,aeu,ag0];omega),?_⟩;walk_at "pt";refine ⟨trivial,_,_,_,_,_,_,_,rfl,?_⟩;rw [LK,LK,e2,e1];exact O
 rintro σ H3 ⟨-,v5,v6,v7,v8,v9,v10,v11,rfl,O⟩;rw [hul] at O;refine ⟨_,rfl,_,rfl,szl,fun t ht=>?_⟩;walk_at "nw";exact q t la ll _ O
abbrev qg:Stmt:=top 29
theorem HN:aG ["below"] ["below"] (ao qg):=by walk_at "sc"
inductive Hv (K:PySem.W.Frag)(T:fJ)(vs:List V)(H:Hp)(Q:VK)(E:XK):Prop
 | mk (a:Addr)(r:List Int)(_:vs=[.ref a])(_:SqL K H a (r.map V.int))(_:r.length<64)(_:TabsOk T H)(_:zX T H (fun xs=>xs=(Rv.Rm r r.length).map V.int) Q)
variable {wW:Addr}{xO:FuncData}(jA:Df K mg "mouths_of" qg ["below"] wW xO)
include jA in
theorem Rb (B:Blt mg)(C:Mth mg):(CX0|||1) wW xO ["below"] (Hv K T):=by
 obtain ⟨tM,hMOUTH⟩:=C.MOUTH;refine jA.F.ok HN ?_ ?_;walk_at "i";obtain ⟨a,r,rfl,hS,h64,tk,q⟩:=h;refine ⟨_,(aK (aP (fM (ao qg) rfl ["below"] rfl ["reach","below"] [none,some 0] (by decide+kernel) (by decide+kernel) (by decide+kernel) rfl (jW rfl B.range (aq (aD aB rfl B.len agk (aq (pv 0) ak)) ak)) (fun _ _ _=>(bB (i:=0) (show (["reach","below"]:List Str).Nodup by decide+kernel) rfl (Or.inl rfl))) (fun _ _ _=>(Cg (aR kj (aZ (ji (K:=K) rfl) (pv 1) (pv 0) (fun _ _=>rfl)) (fP (v:=.int (-1)) rfl hMOUTH ⟨_,rfl⟩) (bf _)))) (fun _ _ _=>(pv 0))))),?_⟩;have O:=Ow.refl tk;have hml:(r.map V.int).length=r.length:=aeu _;refine ⟨_,rfl,a,_,rfl,.inl hS,_,rfl,by rw [hml];omega,by rw [hml];omega,fun acc hacc=>?_⟩;rw [hml,agm];refine vL (n:=r.length) (fun i τ H2=>∃ v,τ=[v,some (.ref a)]/\Ow T H H2 [(acc,.lst ((Rv.Rm r i).map V.int))]) ⟨none,rfl,O.mk' hacc rfl⟩ ?_ ?_
 ·rintro i τ H2 hi ⟨v,rfl,O⟩;rw [show (0:Int)+(i:Int)=(i:Int) by omega];have g:=Rv.lW (r:=r) (p:=(i:Int)) (by omega) (by omega);have ol:=Rv.Mx r i;refine ⟨_,rfl,_,rfl,a,_,_,_,rfl,rfl,O.same.seq hS,qC (by omega) g,rfl,_,rfl,?_⟩;by_cases hm:Rv.nxt r (i:Int)=-1
  ·rw [hm];refine vP ?_;refine ⟨_,rfl,_,O.get 0,aH (by rw [aeu];omega),?_⟩;walk_at "put";intro H4 O;exact ⟨_,rfl,by rw [Rv.IV,if_pos hm,aga];exact O⟩
  ·have hd:decide (V.int (Rv.nxt r (i:Int))=V.int (-1))=false:=by simp [hm]
   rw [hd];refine yp ?_;exact ⟨_,rfl,by rw [Rv.IV,if_neg hm,ahm];exact O⟩
 rintro τ H2 ⟨v,rfl,O⟩;exact O.ret 0 rfl q rfl
abbrev zE:Stmt:=top 53
theorem kJ:aG ["below","springs","moves","flows","start","stop","amount","reach"] ["below","springs","moves"] (ao zE):=by walk_at "sc"
inductive Lk (K:PySem.W.Frag)(T:fJ)(vs:List V)(H:Hp)(Q:VK)(E:XK):Prop
 | mk (a b c:Addr)(r s:List Int)(ms:List Rv.Mv)(_:vs=[.ref a,.ref b,.ref c])(_:acP K H a r)(_:SqL K H b (s.map V.int))(_:s.length=r.length)(_:Den K H (.ref c) (afZ ms))(_:(∀ m∈ms,Rv.afF r m))(_:TabsOk T H)(_:zX T H (fun xs=>xs=(Rv.aev r s ms).map V.int) Q)
variable {zN:Addr}{zV:FuncData}(kZ:Df K mg "flows_of" zE ["below","springs","moves"] zN zV)
include dY dX oV oW kZ in
theorem U0:(CX0|||7) zN zV ["below","springs","moves"] (Lk K T):=by
 refine kZ.F.ok kJ ?_ ?_;walk_at "i";obtain ⟨a,b,c,r,sp,ms,rfl,⟨hS,hR,h64⟩,hB,hl,hM,good,tk,q⟩:=h;refine ⟨_,(aF (3<$>kJ<$>(dY<*oW<*(aq (pv 0) (aq (pv 1) ak))))
  (aF (f9 agC rfl (cJ (pv 2)) (iH rfl (aC (4>>kJ) (aC (5>>kJ) (aC (6>>kJ) cg))))
   (aK (f9 agC rfl (cJ (dX<*oV<*(aq (pv 0) (aq (pv 4) (aq (pv 5) ak))))) (7>>kJ)
    (aK (wR (pv 3) (pv 7) qD (pv 6) RL set_list)))))
  (aK (aP (pv 3))))),?_⟩
 refine acO ?_;intro zu0 zu1 zu2 zu3;obtain ⟨c',xs,ec,hq,hds⟩:=hM.abJ;cases ec;have hxl:xs.length=ms.length:=by rw [hds.length,aeu]
 have O:=Ow.refl tk;refine ⟨_,rfl,_,rfl,a,b,r,sp,rfl,⟨hS,hR,h64⟩,hB,hl,tk,O.M6 fun lf H1 fs O e1=>?_⟩;subst e1;refine ⟨_,rfl,c,rfl,⟨_,O.same.seq hq⟩,?_⟩;refine iB (K:=K) (a:=c) (xs:=xs) (fun t σ H2=>∃ (v4 v5 v6 v7:Option V)(fl:List Int),σ=[some (.ref a),some (.ref b),some (.ref c),some (.ref lf),v4,v5,v6,v7]/\Ow T H H2 [(lf,.lst (fl.map V.int))]/\Rv.Fl r.length fl fun i=>Rv.EY r sp (i:Int) - Rv.Vc r (ms.take t) (i:Int))
  ⟨none,none,none,none,_,rfl,O,(Rv.Ka r sp).aco fun i _=>by show _=_ - (0:Int);omega⟩ (fun _ _ _ _ ⟨_,_,_,_,_,_,O,_⟩=>O.same.seq hq) ?_ ?_
 ·rintro t y σ H2 hy ⟨v4,v5,v6,v7,fl,rfl,O,FL⟩;obtain ⟨d,hd,hden⟩:=hds.get' hy;rw [agg] at hd;obtain ⟨m,hm,rfl⟩:∃ m,ms[t]?=some m/\d=dMv m:=by
   cases e:ms[t]? with
   | none=>rw [e] at hd;cases hd
   | some m=>rw [e] at hd;exact ⟨m,rfl,(agz hd).symm⟩
  obtain ⟨ta,rfl,ht⟩:=hden.Wn;obtain ⟨g0,g1,g2⟩:=good m (agd hm);refine ⟨ta,_,rfl,O.same.TF ht,rfl,_,_,rfl,_,_,rfl,_,_,rfl,rfl,?_⟩;refine ⟨_,rfl,_,rfl,_,rfl,a,r,m.1,m.2.1,rfl,O.same.seq hS,hR,g0,g1,by omega,g2,O.got fun ls H3 zs O e3=>?_⟩;subst e3;refine ⟨ls,rfl,⟨_,O.sq 0⟩,?_⟩;refine iB (K:=K) (a:=ls) (xs:=(Rv.sy r m.1 m.2.1).map V.int) (fun i σ H4=>∃ (v7:Option V)(fl:List Int),σ=[some (.ref a),some (.ref b),some (.ref c),some (.ref lf),some (.int m.1),some (.int m.2.1),some (.int m.2.2),v7] /\
   Ow T H H4 [(ls,.lst ((Rv.sy r m.1 m.2.1).map V.int)),(lf,.lst (fl.map V.int))]/\Rv.MvI r (fun i=>Rv.EY r sp (i:Int) - Rv.Vc r (ms.take t) (i:Int)) m.2.2 ((Rv.sy r m.1 m.2.1).take i) fl)
   ⟨v7,fl,rfl,O,Rv.MvI.start _ FL⟩ (fun _ _ _ _ ⟨_,_,_,O,_⟩=>O.sq 0) ?_ ?_
  ·rintro i y σ H4 hy ⟨v7,fl,rfl,O,MI⟩;obtain ⟨z,hz,rfl⟩:=ints_get hy;obtain ⟨z0,z1⟩:=Rv.KJ hR m.1 g0 g1 z (Rv.Hs (agd hz));obtain ⟨zn,rfl⟩:=agA z0;have hzl:zn<r.length:=by omega
   obtain ⟨x,hx⟩:∃ x,fl[zn]?=some x:=⟨_,MI.at_ zn hzl⟩;have nd:=Rv.K4 hR g0 g1 (b:=m.2.1);have nm:¬ ((zn:Nat):Int)∈(Rv.sy r m.1 m.2.1).take i:=fun hmm=>by
    obtain ⟨h1,h2⟩:=af4.mp hz;obtain ⟨j,hj,ej⟩:=aha hmm;rw [List.getElem_take] at ej;rw [agt] at hj;have:=(ahy nd).mp (ej.trans h2.symm);omega
   refine ⟨_,rfl,_,rfl,lf,_,zn,V.int x,rfl,rfl,O.sq 1,by rw [agg,hx];rfl,_,rfl,_,_,rfl,rfl,?_⟩;refine uc O 1 rfl (gZ (by rw [aeu,MI.len];exact hzl)) fun H5 O=>?_;refine ⟨_,fl.set zn (x - m.2.2),rfl,?_,?_⟩
   ·rw [agV];exact O
   ·rw [agX,hz];exact MI.turn hzl nm hx
  ·rintro σ H4 ⟨v7,fl,rfl,O,MI⟩;rw [aeu,ahe] at MI;refine ⟨_,_,_,_,fl,rfl,O.tail,?_⟩;have e:ms.take (t+1)=ms.take t++[m]:=by rw [agX,hm];rfl
   rw [e];exact MI.done
 ·rintro σ H2 ⟨v4,v5,v6,v7,fl,rfl,O,FL⟩;rw [hxl,ahe] at FL;exact ⟨_,rfl,O.ret 0 rfl q (by rw [Rv.Fl.ext FL (Rv.R8 r sp ms)])⟩
def FZ:Sp:=fun _ _ _ _=>False
abbrev qj:Stmt:=top 66
theorem Eb:aG ["below","roll","ponds","kept","let","place","reach","amount"] ["below","roll","ponds","kept","let"] (ao qj):=by walk_at "sc"
abbrev tE:Stmt:=top 65
theorem Gf:aG ["roll","pond","number","room","leak"] ["roll","pond"] (ao tE):=by walk_at "sc"
variable {qI:Addr}{qQ:FuncData}(gM:Df K mg "look_at_let" qj ["below","roll","ponds","kept","let"] qI qQ)
include gM in
theorem adg:(CX0|||1) qI qQ ["below","roll","ponds","kept","let"] FZ:=gM.F.ok Eb (fun _ _ _ _ h=>h.elim) (fun _ _ _ _ _ _ _ _ _ h=>h.elim)
variable {ur:Addr}{uN:FuncData}(iV:Df K mg "pond_start" tE ["roll","pond"] ur uN)
include iV in
theorem ac6:(CX0|||1) ur uN ["roll","pond"] FZ:=iV.F.ok Gf (fun _ _ _ _ h=>h.elim) (fun _ _ _ _ _ _ _ _ _ h=>h.elim)
abbrev BX:Stmt:=top 67
theorem mV:aG ["below","roll","ponds","kept","lets","left","let","place","reach","amount"] ["below","roll","ponds","kept","lets"] (ao BX):=by walk_at "sc"
inductive acK (K:PySem.W.Frag)(T:fJ)(vs:List V)(H:Hp)(Q:VK)(E:XK):Prop
 | mk (v1 v2 v3:V)(d e:Addr)(ks:List Int)(_:vs=[v1,v2,v3,.ref d,.ref e])(_:SqL K H d (ks.map V.int))(_:SqL K H e [])(_:TabsOk T H)(_:zX T H (fun xs=>xs=ks.map V.int) Q)
variable (yU:(CX0|||1) qI qQ ["below","roll","ponds","kept","let"] FZ)
variable {Dg:Addr}{Dq:FuncData}(nZ:Df K mg "let_out" BX ["below","roll","ponds","kept","lets"] Dg Dq)
include gM yU nZ in
theorem afb (B:Blt mg):(CX0|||2) Dg Dq ["below","roll","ponds","kept","lets"] (acK K T):=by
 refine nZ.F.ok mV ?_ ?_;walk_at "i";obtain ⟨v1,v2,v3,d,e,ks,rfl,hD,hE,tk,q⟩:=h;refine ⟨_,(5<$>mV<$>(bL bh rfl B.list agy (pv 3>=>ak))<|>f9 agC rfl (cJ (pv 4)) (6>>mV)
   (aM (gM<*yU<*(pv 0>=>pv 1>=>pv 2>=>pv 5>=>pv 6>=>ak))<|>gQ (pv 6) (iH rfl (aC (7>>mV) (aC (8>>mV) (aC (9>>mV) cg))))<|>(~~~(wR (pv 5) (pv 7) qD (pv 9) RL set_list)))<|>(~~~(@aP _ _ _ _ (pv 5)))),?_⟩
 have O:=Ow.refl tk;refine ⟨_,rfl,d,_,rfl,.inl hD,fun l hl=>?_⟩;walk_at "nw";refine ⟨_,rfl,e,rfl,⟨_,O.same.seq hE⟩,?_⟩;refine iB (K:=K) (xs:=[]) (fun i σ H'=>Iv (∃ (v6 v7 v8 v9:Option V),σ=[some v1,some v2,some v3,some (.ref d),some (.ref e),some (.ref l),v6,v7,v8,v9]/\Ow T H H' [(l,.lst (ks.map V.int))])) ⟨trivial,none,none,none,none,rfl,O⟩ (fun i σ H' _ ⟨_,_,_,_,_,_,O⟩=>O.same.seq hE) ?_ ?_
 ·rintro i y σ H3 hy;cases hy
 rintro σ H3 ⟨-,v6,v7,v8,v9,rfl,O⟩;exact ⟨_,rfl,O.ret 0 rfl q rfl⟩
abbrev tK:Stmt:=top 71
theorem yu:aG ["below","roll","ponds","kept","calls","lets","left"] ["below","roll","ponds","kept","calls","lets"] (ao tK):=by walk_at "sc"
inductive Qs (K:PySem.W.Frag)(T:fJ)(vs:List V)(H:Hp)(Q:VK)(E:XK):Prop
 | mk (v1 v2:V)(c d g e:Addr)(us:List V)(ps:List (Int × Int × Int))(ks cs:List Int)(_:vs=[v1,v2,.ref c,.ref d,.ref g,.ref e])(_:SqL K H c us)(_:bY K H us (ps.map dMv))(_:SqL K H d (ks.map V.int))(_:ps.length=ks.length)(_:SqL K H g (cs.map V.int))(_:(∀ p∈ps,0<=p.1/\p.1<(cs.length:Int)))(_:SqL K H e [])(_:TabsOk T H)(_:∀ (t la lb:Addr)(H':Hp),Ow T H H' [(t,.tup [.ref la,.ref lb]),(lb,.lst ((Ei cs ps ks ps.length).map V.int)),(la,.lst (ks.map V.int))]->Q (.ref t) H')
variable (Jx:(CX0|||2) Dg Dq ["below","roll","ponds","kept","lets"] (acK K T))
variable (Av:(CX0|||1) uw uO ["roll","ponds","kept","calls"] (acI K T))
variable {uy:Addr}{uQ:FuncData}(dZ:Df K mg "morning_of" tK ["below","roll","ponds","kept","calls","lets"] uy uQ)
include iW nZ Jx Av dZ in
theorem abC (B:Blt mg):(CX0|||3) uy uQ ["below","roll","ponds","kept","calls","lets"] (Qs K T):=by
 refine dZ.F.ok yu ?_ ?_;walk_at "i";obtain ⟨v1,v2,c,d,g,e,us,ps,ks,cs,rfl,hC,d1,hD,hkl,hG,hrg,hE,tk,q⟩:=h;refine ⟨_,(6<$>yu<$>(nZ<*Jx<*(pv 0>=>pv 1>=>pv 2>=>pv 3>=>pv 5>=>ak))<|>(~~~(@aP _ _ _ _ (@fH _ _ _ _ _ (pv 6>=>iW<*Av<*(pv 1>=>pv 2>=>pv 6>=>pv 4>=>ak)>=>ak))))),?_⟩;have O:=Ow.refl tk;refine ⟨_,rfl,_,rfl,_,rfl,_,rfl,_,rfl,v1,v2,.ref c,d,e,ks,rfl,hD,hE,tk,O.M6 fun l1 H1 ys O e1=>?_⟩;subst e1;refine ⟨_,rfl,_,rfl,_,rfl,_,rfl,_,rfl,v2,c,l1,g,us,ps,ks,cs,rfl,O.same.seq hC,d1.mo O.same,O.sq 0,hkl,O.same.seq hG,hrg,O.same.t1,O.M6 fun l2 H2 ys O e2=>?_⟩;subst e2;refine ⟨szl,fun t ht=>?_⟩;walk_at "nw";exact q t l1 l2 _ O
theorem T4 {γ:Type}{as:List α}{bs:List β}{x:α}{y:β}(g:α × β->γ)(hx:as[i]?=some x)(hy:bs[i]?=some y):((as.zip bs).take (i+1)).map g=((as.zip bs).take i).map g++[g (x,y)]:=by
 have e:(as.zip bs)[i]?=some (x,y):=by rw [ahQ];exact ⟨hx,hy⟩
 rw [agX,e,aga];rfl
def acj (ls:List Lic)(xs:List Int):List Rv.Mv:=(ls.zip xs).map fun p=>(p.1.start,p.1.back,p.2)
abbrev zA:Stmt:=top 72
theorem eF:aG ["roll","ponds","takes","lets","moves","one","take","day","start","back","most","place","reach","amount"] ["roll","ponds","takes","lets"] (ao zA):=by walk_at "sc"
inductive V5 (K:PySem.W.Frag)(T:fJ)(vs:List V)(H:Hp)(Q:VK)(E:XK):Prop
 | mk (b d e:Addr)(c:V)(xs:List Int)(rs:List V)(ls:List Lic)(_:vs=[.ref b,c,.ref d,.ref e])(_:SqL K H b rs)(_:bY K H rs (ls.map Dv))(_:ls.length<=100)(_:SqL K H d (xs.map V.int))(_:xs.length=ls.length)(_:SqL K H e [])(_:TabsOk T H)(_:∀ (l:Addr)(H1 H':Hp)(vs:List V),aJ T H H1->Ow T H1 H' [(l,.lst vs)]->bY K H1 vs ((acj ls xs).map dMv)->Q (.ref l) H')
variable (Ar:(CX0|||1) ur uN ["roll","pond"] FZ)
variable {zK:Addr}{zR:FuncData}(kY:Df K mg "moves_of" zA ["roll","ponds","takes","lets"] zK zR)
include iV Ar kY in
theorem ada (B:Blt mg):(CX0|||2) zK zR ["roll","ponds","takes","lets"] (V5 K T):=by
 refine kY.F.ok eF ?_ ?_
 walk_at "i"
 obtain ⟨b,d,e,c,xs,rs,ls,rfl,hB,d0,hl1,hD,hxl,hE,tk,q⟩:=h
 have hrl:rs.length=ls.length:=by rw [d0.length,aeu]
 refine ⟨_,(4<$>eF<$>(@dM _ _ _ _ ak)<|>f9 agC rfl (Cj rfl B.zip (pv 0>=>pv 2>=>ak)) (iH rfl (aC (5>>eF) (aC (6>>eF) cg)))
   (gQ (pv 5) (iH rfl (aC (7>>eF) (aC (8>>eF) (aC (9>>eF) (aC (10>>eF) cg)))))<|>(~~~(aM (kh agn ago agp bC (pv 4) (@fH _ _ _ _ _ (pv 8>=>pv 9>=>pv 6>=>ak)>=>ak)))))<|>f9 agC rfl (cJ (pv 3)) (iH rfl (aC (11>>eF) (aC (12>>eF) (aC (13>>eF) cg))))
   (~~~(aM (kh agn ago agp bC (pv 4) (@fH _ _ _ _ _ (iV<*Ar<*(pv 0>=>@aZ _ _ _ _ _ _ _ aU (pv 1) (pv 11) (fun _ _=>rfl)>=>ak)>=>pv 12>=>@Eh _ _ _ _ _ _ vU (pv 13)>=>ak)>=>ak))))<|>(~~~(@aP _ _ _ _ (pv 4)))),?_⟩
 have O:=Ow.refl tk
 refine ⟨szl,fun lm hlm=>?_⟩
 walk_at "nw"
 refine ⟨_,rfl,_,rfl,b,d,_,_,rfl,O.same.seq hB,O.same.seq hD,?_⟩
 refine GF (K:=K) (fun i σ H'=>Iv (∃ (v5 v6 v7 v8 v9 v10:Option V)(Hb:Hp)(vs:List V),σ=[some (.ref b),some c,some (.ref d),some (.ref e),some (.ref lm),v5,v6,v7,v8,v9,v10,none,none,none]/\aJ T H Hb/\bY K Hb vs (((ls.zip xs).take i).map fun p=>dMv (p.1.start,p.1.back,p.2))/\Ow T Hb H' [(lm,.lst vs)]))
  (by rw [aeu];omega) ⟨trivial,none,none,none,none,none,none,H,[],rfl,aJ.refl tk,.nil,O⟩ (fun _ _ _ _ ⟨_,_,_,_,_,_,_,_,_,_,sb,_,O⟩=>⟨(sb.trans O.same).seq hB,(sb.trans O.same).seq hD⟩) ?_ ?_
 ·rintro i x y t' σ H3 hx hy ⟨-,v5,v6,v7,v8,v9,v10,Hb,vs,rfl,sb,dv,O⟩ ht'
  obtain ⟨al,l,rfl,hl,hT⟩:=d0.CJ hx
  obtain ⟨u,hu,rfl⟩:=ints_get hy
  have hi:=(af4.mp hl).1
  have hvl:vs.length<=i:=by rw [dv.length,aeu,agt];omega
  walk_at "nw"
  refine ⟨t',_,rfl,O.sqT 0,rfl,_,_,rfl,_,_,rfl,rfl,?_⟩
  have O:=O.tail
  refine ⟨_,rfl,al,_,rfl,(hT.mo sb).mo O.same,rfl,_,_,rfl,_,_,rfl,_,_,rfl,_,_,rfl,rfl,?_⟩
  refine ⟨_,rfl,.inl ⟨rfl,_,O.sq 0⟩,_,rfl,_,rfl,_,rfl,szl,fun t ht=>?_⟩
  walk_at "nw"
  refine ⟨lm,_,_,rfl,rfl,O.get 1,aH (by omega),?_⟩
  walk_at "pt"
  obtain ⟨Hc,O,sc,en⟩:=O.frz
  refine ⟨trivial,_,_,_,_,_,_,Hc,vs++[.ref t],rfl,sb.trans sc,?_,O⟩
  rw [T4 (fun p=>dMv (p.1.start,p.1.back,p.2)) hl hu]
  exact (dv.mo sc).append (.cons (Den.mv (m:=(l.start,l.back,u)) (SqT.of en)) .nil)
 rintro σ H3 ⟨-,v5,v6,v7,v8,v9,v10,Hb,vs,rfl,sb,dv,O⟩
 rw [agq (by rw [List.length_zip];omega)] at dv
 refine ⟨_,rfl,e,rfl,⟨_,(sb.trans O.same).seq hE⟩,?_⟩
 refine iB (K:=K) (xs:=[]) (fun i σ H'=>Iv (∃ (v11 v12 v13:Option V),σ=[some (.ref b),some c,some (.ref d),some (.ref e),some (.ref lm),v5,v6,v7,v8,v9,v10,v11,v12,v13]/\Ow T Hb H' [(lm,.lst vs)]))
  ⟨trivial,none,none,none,rfl,O⟩ (fun _ _ _ _ ⟨_,_,_,_,_,O⟩=>(sb.trans O.same).seq hE) ?_ ?_
 ·rintro i y σ H4 hy
  cases hy
 rintro σ H4 ⟨-,v11,v12,v13,rfl,O⟩
 refine ⟨_,rfl,q lm Hb H4 vs sb O ?_⟩
 unfold acj;rw [ahU];exact dv
def oR (x:Str):Prop:=1<=x.cps.size/\x.cps.size<=8/\∀ c∈x.cps.toList,97<=c/\c<=122
def Asc (x:Str):Prop:=x.cps.all (·<128)=true/\x.cps.size<=1000
theorem Ou:∀ c:Nat,c<128->(!(Builtin.Str.occurrences ("abcdefghijklmnopqrstuvwxyz":Str) ⟨#[c]⟩ 0 ("abcdefghijklmnopqrstuvwxyz":Str).length 1).isEmpty)=decide (97<=c/\c<=122):=by
 have h:∀ k:Fin 128,(!(Builtin.Str.occurrences ("abcdefghijklmnopqrstuvwxyz":Str) ⟨#[k.val]⟩ 0 ("abcdefghijklmnopqrstuvwxyz":Str).length 1).isEmpty)=decide (97<=k.val/\k.val<=122):=by decide+kernel
 exact fun c hc=>h ⟨c,hc⟩
abbrev yx:Stmt:=top 6
theorem Od:aG ["text"] ["text"] (ao yx):=by walk_at "sc"
inductive Hx (T:fJ)(vs:List V)(H:Hp)(Q:VK)(E:XK):Prop
 | mk (x:Str)(_:vs=[.str x])(_:Asc x)(_:TabsOk T H)(_:∀ (b:Bool) H',(b=true↔oR x)->aJ T H H'->Q (.bl b) H')
structure CN (mg:Str->Option Value):Prop where
 LONGEST_NAME:∃ t,mg "LONGEST_NAME"=some (.int 8 t)
 LETTERS:∃ t,mg "LETTERS"=some (.str "abcdefghijklmnopqrstuvwxyz" t)
variable {Dh:Addr}{Dr:FuncData}(oh:Df K mg "is_name" yx ["text"] Dh Dr)
include oh in
theorem Rc (B:Blt mg)(CN:CN mg):(CX0|||1) Dh Dr ["text"] (Hx T):=by
 obtain ⟨tM,Gy⟩:=CN.LONGEST_NAME;obtain ⟨tL,hLETTERS⟩:=CN.LETTERS;refine oh.F.ok Od ?_ ?_;walk_at "i";obtain ⟨x,rfl,⟨ha,hx⟩,tk,q⟩:=h;have hu:=hr.units;have O:=Ow.refl tk;refine ⟨_,(~~~(@aP _ _ _ _ (Mg (Gq yG yG aA (aD Jp rfl B.len agk (pv 0>=>ak)) (fP (v:=.int (8)) rfl Gy ⟨_,rfl⟩)) (Ma (aD (rA rfl) rfl B.all ahj (fM (ao yx) rfl ["text"] rfl ["sign"] [none] (by decide+kernel) (by decide+kernel) (by decide+kernel) rfl (acV (pv 0)) (fun _ _ _=>(bB (i:=0) (show (["sign"]:List Str).Nodup by decide+kernel) rfl (Or.inl rfl))) (fun _ _ _=>eG) (fun _ _ _=>(qz Q8 (pv 0) (fP (v:=.str "abcdefghijklmnopqrstuvwxyz") rfl hLETTERS ⟨_,rfl⟩) (by rfl)))>=>ak)))))),?_⟩;have hl:x.length=x.cps.size:=rfl;refine ⟨_,rfl,x,rfl,(by rw [hl,sizeLine_eq];omega),_,_,rfl,rfl,?_⟩;refine ⟨_,rfl,?_⟩;refine ifD (fun h1=>?_) (fun h1=>?_);rotate_left
 ·exact ⟨_,rfl,yp (q _ _ ⟨(fun z=>nomatch z),fun z=>absurd z.1 (by omega)⟩ O.same)⟩
 refine ⟨_,_,rfl,rfl,_,rfl,?_⟩;refine ifD (fun h2=>?_) (fun h2=>?_);rotate_left
 ·exact q _ _ ⟨(fun z=>nomatch z),fun z=>absurd z.2.1 (by omega)⟩ O.same
 refine ⟨_,rfl,x,rfl,ha,fun lw hlw=>?_⟩;refine Vy (fun i τ H'=>Iv (∃ (v0:Option V)(bs:List Bool),τ=[v0]/\bs.length=i/\(bs.all id=true↔∀ c∈x.cps.toList.take i,97<=c/\c<=122)/\Ow T H H' [(lw,.lst (bs.map V.bl))])) ⟨trivial,none,[],rfl,rfl,⟨(fun _ c hc=>nomatch hc),fun _=>rfl⟩,O.mk' hlw rfl⟩ ?_ ?_
 ·rintro i c τ H4 hc ⟨-,v0,bs,rfl,hbl,hb,O⟩;have hi:i<x.cps.size:=by
   rcases Nat.lt_or_ge i x.cps.size with h| h
   ·exact h
   ·rw [Array.getElem?_eq_none h] at hc;cases hc
  have hm:x.cps.toList[i]?=some c:=by rw [Array.getElem?_toList];exact hc
  have hc128:c<128:=by
   have:=Array.all_eq_true.mp ha i hi;rw [Array.getElem?_eq_getElem hi] at hc;cases hc;exact of_decide_eq_true this
  refine JH ?_;refine ⟨_,rfl,_,_,rfl,rfl,?_⟩;rw [Ou c hc128];refine ⟨_,O.get 0,aH (by rw [aeu];omega),?_⟩;walk_at "pt";refine ⟨trivial,_,bs++[decide (97<=c/\c<=122)],rfl,by rw [agh,hbl];rfl,?_,?_⟩
  ·rw [Tn.dJ hm,List.all_append,agD,hb];constructor
   ·rintro ⟨z1,z2⟩ y hy;rcases agw.mp hy with h| h
    ·exact z1 y h
    ·rw [agE.mp h];simpa using z2
   ·intro z;exact ⟨fun y hy=>z y (agT _ hy),by simpa using z c (agf _ (agE.mpr rfl))⟩
  ·rw [aga];exact O
 rintro τ H4 ⟨-,v0,bs,rfl,hbl,hb,O⟩;refine ⟨lw,_,rfl,O.sq 0,?_⟩;rw [show x.cps.size=x.cps.toList.length by simp,ahe] at hb;exact q _ _ ⟨fun z=>⟨by omega,by omega,hb.mp z⟩,fun z=>hb.mpr z.2.2⟩ O.same
abbrev o9:Stmt:=top 46
theorem BJ:aG ["name"] ["name"] (ao o9):=by walk_at "sc"
inductive Bv (T:fJ)(cH:Addr)(vs:List V)(H:Hp)(Q:VK)(E:XK):Prop
 | mk (x:Str)(_:vs=[.str x])(_:Asc x)(_:TabsOk T H)(_:(oR x->∀ H',aJ T H H'->Q .non H'))(_:(¬ oR x->∀ (e:Addr)(H':Hp),aJ T H H'->H' e=none->E (.ref cH) (some e) H'))
variable (Jy:(CX0|||1) Dh Dr ["text"] (Hx T))
variable {pC:Addr}{pJ:FuncData}(bx:Df K mg "look_at_name" o9 ["name"] pC pJ)
include oh Jy bx in
theorem J8 (p7:yX K mg "NoHolder" cH):((CXE P w)|||2) pC pJ ["name"] (Bv T cH):=by
 refine bx.F.okX BJ ?_ ?_
 walk_at "i"
 obtain ⟨x,rfl,ax,tk,q,qx⟩:=h
 refine ⟨_,(~~~(@cM _ _ _ _ _ _ _ _ (jq (iy (oh<*Jy<*(pv 0>=>ak))))
   (~~~(dF fO rfl (fun _ _ z=>z) rfl p7.m p7.q (cO>=>ak)))
   bA)),?_⟩
 refine ⟨_,rfl,x,rfl,ax,tk,fun b H1 hb s1=>?_⟩
 cases b with
 | true=>exact ⟨_,rfl,yp (q (hb.mp rfl) _ s1)⟩
 | false=>exact ⟨_,rfl,vP ⟨szl,fun e he=>qx (fun z=>nomatch hb.mpr z) e _ s1 he⟩⟩
structure Rs where
 p:Addr
 dx:Addr
 lb:Addr
 ll:Addr
 ln:Addr
 lo:Addr
abbrev Uk:List Str:=["below","day","licences","names","done"]
abbrev Pb (C:Addr)(A:Rs)(ex:List (Str × V))(day:Int):HO:=.ins C A.dx (("below",.ref A.lb)::("day",.int day)::("licences",.ref A.ll)::("names",.ref A.ln)::("done",.ref A.lo)::ex)
abbrev RX (C:Addr)(A:Rs)(ex:List (Str × V))(r:List Int)(day:Int)(us:List V)(ns:List Str)(ds:List V):List (Addr × HO):=
 [(A.p,Pb C A ex day),(A.dx,.own A.p),(A.lb,.lst (r.map V.int)),(A.ll,.lst us),(A.ln,.lst (ns.map V.str)),(A.lo,.lst ds)]
structure RC (K:PySem.W.Frag)(C:Addr):Prop where
 c:Cls K C
 nB:j4 K C "below"
 nD:j4 K C "day"
 nL:j4 K C "licences"
 nN:j4 K C "names"
 nO:j4 K C "done"
theorem abj (R:Cl K mg "Roll" C f0 Uk):RC K C:=
 ⟨R.c,R.n _ (.head _),R.n _ (.tail _ (.head _)),R.n _ (.tail _ (.tail _ (.head _))),R.n _ (.tail _ (.tail _ (.tail _ (.head _)))),R.n _ (.tail _ (.tail _ (.tail _ (.tail _ (.head _)))))⟩
theorem acT (A:Rs)(ex:List (Str × V))(day:Int)(z:V):G8 "day" z (("below",.ref A.lb)::("day",.int day)::("licences",.ref A.ll)::("names",.ref A.ln)::("done",.ref A.lo)::ex)=((("below",.ref A.lb)::("day",z)::("licences",.ref A.ll)::("names",.ref A.ln)::("done",.ref A.lo)::ex):List (Str × V)):=rfl
inductive Ea
 | turn
 | file (x:Str) (s m b:Int)
 | sell (n:Int) (y z:Str)
 | part (n:Int) (y:Str) (m:Int) (z:Str)
 | drop (n:Int) (y:Str)
 | move (n:Int) (y:Str) (s:Int)
 | lapse (xs:List Int)
def Dw:Ea->PyData
 | .turn=>.tuple [.str "turn"]
 | .file x s m b=>.tuple [.str "file",.str x,.int s,.int m,.int b]
 | .sell n y z=>.tuple [.str "sell",.int n,.str y,.str z]
 | .part n y m z=>.tuple [.str "part",.int n,.str y,.int m,.str z]
 | .drop n y=>.tuple [.str "drop",.int n,.str y]
 | .move n y s=>.tuple [.str "move",.int n,.str y,.int s]
 | .lapse xs=>.tuple [.str "lapse",.tuple (xs.map PyData.int)]
structure RS where
 day:Int
 ls:List Lic
 ns:List Str
 ds:List Ea
inductive EK
 | number| yours| holder| licence| much| alone| full| wN
structure Ec where
 number:Addr
 yours:Addr
 holder:Addr
 licence:Addr
 much:Addr
 alone:Addr
 full:Addr
 wN:Addr
def Ec.at_ (c:Ec):EK->Addr
 | .number=>c.number| .yours=>c.yours| .holder=>c.holder| .licence=>c.licence| .much=>c.much| .alone=>c.alone| .full=>c.full| .wN=>c.wN
def wm (l:Lic)(m:Int):Lic:=⟨l.day,l.start,l.back,m⟩
def wst (l:Lic)(s:Int):Lic:=⟨l.day,s,l.back,l.most⟩
def vV (ls:List Lic)(d:Int):Nat->List Int
 | 0=>[]
 | i+1=>vV ls d i++(match ls[i]? with| some l=>if l.day=d/\0<l.most then [(i:Int)] else [] | none=>[])
def pZ (ls:List Lic)(xs:List Int):List Lic:=List.zipWith (fun l x=>wm l (min l.most x)) ls xs
def RS.at_ (S:RS)(n:Int):Lic:=S.ls.getD n.toNat ⟨0,0,0,0⟩
open Classical in
noncomputable def RS.En (S:RS)(n:Int)(y:Str)(k:Except EK RS):Except EK RS:=
 if ¬ (0<=n/\n<S.ls.length) then .error .number else if S.ns[n.toNat]?≠some y then .error .yours else k
open Classical in
noncomputable def step (r:List Int)(S:RS):Ea->Except EK RS
 | .turn=>.ok ⟨S.day+1,S.ls,S.ns,S.ds++[.turn]⟩
 | .file x s m b=>if ¬ oR x then .error .holder else if m=0\/¬ rC r ⟨S.day,s,b,m⟩ then .error .licence else if 60<=S.ls.length then .error .full else
   .ok ⟨S.day,S.ls++[⟨S.day,s,b,m⟩],S.ns++[x],S.ds++[.file x s m b]⟩
 | .sell n y z=>S.En n y (if ¬ oR z then .error .holder else .ok ⟨S.day,S.ls,S.ns.set n.toNat z,S.ds++[.sell n y z]⟩)
 | .part n y m z=>S.En n y (if ¬ oR z then .error .holder else if ¬ (1<=m/\m<(S.at_ n).most) then .error .much else if vV S.ls (S.at_ n).day S.ls.length≠[n] then .error .alone else if 60<=S.ls.length then .error .full else
   .ok ⟨S.day,S.ls.set n.toNat (wm (S.at_ n) ((S.at_ n).most - m))++[wm (S.at_ n) m],S.ns++[z],S.ds++[.part n y m z]⟩)
 | .drop n y=>S.En n y (.ok ⟨S.day,S.ls.set n.toNat (wm (S.at_ n) 0),S.ns,S.ds++[.drop n y]⟩)
 | .move n y s=>S.En n y (if ¬ rC r (wst (S.at_ n) s) then .error .licence else .ok ⟨S.day,S.ls.set n.toNat (wst (S.at_ n) s),S.ns,S.ds++[.move n y s]⟩)
 | .lapse xs=>if xs.length≠S.ls.length then .error .number else if ¬ ∀ x∈xs,0<=x/\x<=1000000000000 then .error .much else
   .ok ⟨S.day,pZ S.ls xs,S.ns,S.ds++[.lapse xs]⟩
inductive RA (K:PySem.W.Frag)(T:fJ)(C:Addr)(A:Rs)(ex:List (Str × V))(r:List Int)(H0 H:Hp)(B:List (Addr × HO))(S:RS):Prop
 | mk (us vs:List V)(_:Ow T H0 H (RX C A ex r S.day us S.ns vs++B))(_:bY K H0 us (S.ls.map Dv))(_:bY K H0 vs (S.ds.map Dw))
structure ab9 (ex:List (Str × V)):Prop where
 num:ex.lookup ("look_at_number":Str)=none
 hol:ex.lookup ("look_at_holder":Str)=none
 room:ex.lookup ("look_at_room":Str)=none
 ent:ex.lookup ("enter":Str)=none
 al:ex.lookup ("is_alone":Str)=none
 lmv:ex.lookup ("look_move":Str)=none
 lp:ex.lookup ("lapse":Str)=none
 tn:ex.lookup ("turn":Str)=none
 rl:ex.lookup ("roll":Str)=none
 hs:ex.lookup ("holders":Str)=none
 de:ex.lookup ("deeds":Str)=none
 td:ex.lookup ("today":Str)=none
 fi:ex.lookup ("file":Str)=none
 se:ex.lookup ("sell":Str)=none
 pa:ex.lookup ("part":Str)=none
 dr:ex.lookup ("drop":Str)=none
 mv:ex.lookup ("move":Str)=none
theorem ab9.nil:ab9 []:=⟨rfl,rfl,rfl,rfl,rfl,rfl,rfl,rfl,rfl,rfl,rfl,rfl,rfl,rfl,rfl,rfl,rfl⟩
structure RP (r:List Int)(ex:List (Str × V))(S:RS):Prop where
 rv:Rv.jK r
 r40:r.length<=40
 nn:S.ns.length=S.ls.length
 l60:S.ls.length<=60
 dl:S.ds.length<=9000
 e9:ex.length<=100
 ex:ab9 ex
def After (K:PySem.W.Frag)(T:fJ)(C:Addr)(c:Ec)(A:Rs)(ex:List (Str × V))(r:List Int)(H0 H:Hp)(B:List (Addr × HO))(S:RS)(d:Ea)(v:V)(Q:VK)(E:XK):Prop:=
 (∀ S',step r S d=.ok S'->∀ Hb H',aJ T H0 Hb->RA K T C A ex r Hb H' B S'->Q v H')/\(∀ k,step r S d=.error k->∀ (e:Addr)(H':Hp),aJ T H H'->H' e=none->E (.ref (c.at_ k)) (some e) H')
inductive kI (K:PySem.W.Frag)(C:Addr)(y:Str)(vs:List V)(H:Hp)(Q:VK)(E:XK):Prop
 | mk (p dx l:Addr)(fs:List (Str × V))(us:List V)(_:vs=[.ref p])(_:H p=some (.ins C dx fs))(_:fs.lookup y=some (.ref l))(_:SqL K H l us)(_:∀ l',H l'=none->Q (.ref l') (upd H l' (.lst us)))
abbrev m8:Stmt:=inClass (top 47) 2
theorem HY:aG ["self"] ["self"] (ao m8):=by walk_at "sc"
variable {xu:Addr}{xX:FuncData}(bO:Dm K C "roll" "Roll.roll" m8 ["self"] xu xX)
include bO in
theorem Ml (B:Blt mg)(R:RC K C):(CX0|||1) xu xX ["self"] (kI K C "licences"):=by
 refine bO.F.ok HY ?_ ?_;walk_at "i";obtain ⟨p,dx,l,fs,us,rfl,hp,hf,hl,q⟩:=h;refine ⟨_,(aK (aP (bL bh rfl B.list agy (aq (aV (pv 0) rfl) ak)))),?_⟩;exact ⟨_,rfl,p,C,dx,fs,.ref l,rfl,hp,R.c,R.nL,hf,l,us,rfl,.inl hl,q⟩
abbrev jo:Stmt:=inClass (top 47) 3
theorem BR:aG ["self"] ["self"] (ao jo):=by walk_at "sc"
variable {pI:Addr}{pO:FuncData}(bV:Dm K C "holders" "Roll.holders" jo ["self"] pI pO)
include bV in
theorem Cy (B:Blt mg)(R:RC K C):(CX0|||1) pI pO ["self"] (kI K C "names"):=by
 refine bV.F.ok BR ?_ ?_;walk_at "i";obtain ⟨p,dx,l,fs,us,rfl,hp,hf,hl,q⟩:=h;refine ⟨_,(aK (aP (bL bh rfl B.list agy (aq (aV (pv 0) rfl) ak)))),?_⟩;exact ⟨_,rfl,p,C,dx,fs,.ref l,rfl,hp,R.c,R.nN,hf,l,us,rfl,.inl hl,q⟩
abbrev lH:Stmt:=inClass (top 47) 4
theorem Gj:aG ["self"] ["self"] (ao lH):=by walk_at "sc"
theorem Iz (D:Dm K C "deeds" "Roll.deeds" lH ["self"] f fd)(B:Blt mg)(R:RC K C):(CX0|||1) f fd ["self"] (kI K C "done"):=by
 refine D.F.ok Gj ?_ ?_;walk_at "i";obtain ⟨p,dx,l,fs,us,rfl,hp,hf,hl,q⟩:=h;refine ⟨_,(aK (aP (bL bh rfl B.list agy (aq (aV (pv 0) rfl) ak)))),?_⟩;exact ⟨_,rfl,p,C,dx,fs,.ref l,rfl,hp,R.c,R.nO,hf,l,us,rfl,.inl hl,q⟩
abbrev lG:Stmt:=inClass (top 47) 1
theorem Gh:aG ["self"] ["self"] (ao lG):=by walk_at "sc"
inductive FW (C:Addr)(vs:List V)(H:Hp)(Q:VK)(E:XK):Prop
 | mk (A:Rs)(ex:List (Str × V))(day:Int)(_:vs=[.ref A.p])(_:H A.p=some (Pb C A ex day))(_:Q (.int day) H)
theorem Ir (D:Dm K C "today" "Roll.today" lG ["self"] f fd)(R:RC K C):(CX0|||1) f fd ["self"] (FW C):=by
 refine D.F.ok Gh ?_ ?_;walk_at "i";obtain ⟨A,ex,day,rfl,hp,q⟩:=h;refine ⟨_,(aK (aP (aV (pv 0) rfl))),?_⟩;exact ⟨_,rfl,A.p,C,A.dx,_,.int day,rfl,hp,R.c,R.nD,rfl,q⟩
abbrev qt:Stmt:=inClass (top 47) 5
theorem HW:aG ["self"] ["self"] (ao qt):=by walk_at "sc"
inductive JT (K:PySem.W.Frag)(T:fJ)(C:Addr)(c:Ec)(vs:List V)(H:Hp)(Q:VK)(E:XK):Prop
 | mk (A:Rs)(ex:List (Str × V))(H0:Hp)(B:List (Addr × HO))(r:List Int)(S:RS)(_:vs=[.ref A.p])(_:RA K T C A ex r H0 H B S)(_:RP r ex S)(_:After K T C c A ex r H0 H B S .turn .non Q E)
variable {xq:Addr}{xV:FuncData}(bK:Dm K C "turn" "Roll.turn" qt ["self"] xq xV)
include bK in
theorem Mh (R:RC K C):(CX0|||1) xq xV ["self"] (JT K T C c):=by
 refine bK.F.ok HW ?_ ?_;walk_at "i";obtain ⟨A,ex,H0,L,r,S,rfl,⟨us,vs,O,d0,d1⟩,hp,q,-⟩:=h;have hvl:vs.length=S.ds.length:=by rw [d1.length,aeu]
 have hdl:=hp.dl;have hel:=hp.e9;refine ⟨_,(aF (QT (pv 0) aA adI)
  (aK (aM (kh agn ago agp bC (aV (pv 0) rfl) (aq (fH (aq cO ak)) ak))))),?_⟩
 refine aeP ?_;intro zu0;simp only [List.cons_append,List.nil_append] at O;refine ⟨_,rfl,A.p,C,A.dx,_,_,rfl,O.get 0,R.c,R.nD,rfl,_,_,rfl,rfl,A.dx,_,O.get 0,(by simp only [agx];omega),?_⟩;rw [acT];walk_at "pt";refine ⟨_,rfl,A.p,C,A.dx,_,.ref A.lo,rfl,O.get 0,R.c,R.nO,rfl,.inl ⟨rfl,_,O.sq 5⟩,szl,fun t ht=>?_⟩;walk_at "nw";refine ⟨A.lo,_,_,rfl,rfl,O.get 6,aH (by omega),?_⟩;walk_at "pt";obtain ⟨Hb,O,sb,e1⟩:=O.frz;refine q _ rfl Hb _ sb ⟨us,vs++[V.ref t],O,d0.mo sb,?_⟩;rw [aga];exact (d1.mo sb).append (.cons (.tuple (SqT.of e1) (.cons (.str _) .nil)) .nil)
abbrev tY:Stmt:=inClass (top 47) 13
theorem Gi:aG ["self","one","holder"] ["self","one","holder"] (ao tY):=by walk_at "sc"
inductive Ln (C:Addr)(vs:List V)(H:Hp)(Q:VK)(E:XK):Prop
 | mk (A:Rs)(ex:List (Str × V))(day:Int)(us:List V)(ns:List V)(v x:V)(_:vs=[.ref A.p,v,x])(_:H A.p=some (Pb C A ex day))(_:H A.ll=some (.lst us))(_:H A.ln=some (.lst ns))(_:us.length<=900)(_:ns.length<=900)(_:A.p≠A.ll)(_:A.p≠A.ln)(_:A.ln≠A.ll)(_:Q (.int us.length) (upd (upd H A.ll (.lst (us++[v]))) A.ln (.lst (ns++[x]))))
variable {uI:Addr}{uX:FuncData}(cR:Dm K C "enter" "Roll.enter" tY ["self","one","holder"] uI uX)
include cR in
theorem Iw (B:Blt mg)(R:RC K C):(CX0|||1) uI uX ["self","one","holder"] (Ln C):=by
 refine cR.F.ok Gi ?_ ?_;walk_at "i";obtain ⟨A,ex,day,us,ns,v,x,rfl,hp,hl,hn,ul,nl,n1,n2,n3,q⟩:=h;refine ⟨_,(aF (aM (kh agn ago agp bC (aV (pv 0) rfl) (aq (pv 1) ak)))
  (aF (aM (kh agn ago agp bC (aV (pv 0) rfl) (aq (pv 2) ak)))
  (aK (aP (bD yF (aD aB rfl B.len agk (aq (aV (pv 0) rfl) ak)) aA))))),?_⟩
 refine Ui ?_;intro zu0 zu1;refine ⟨_,rfl,A.p,C,A.dx,_,.ref A.ll,rfl,hp,R.c,R.nL,rfl,.inl ⟨rfl,_,SqL.of hl⟩,_,rfl,A.ll,_,_,rfl,rfl,hl,aH (by omega),?_⟩;have hp:=(aN (H:=H) (o:=.lst (us++[v])) n1).trans hp;have hn:=(aN (H:=H) (o:=.lst (us++[v])) n3).trans hn;have hl:upd H A.ll (.lst (us++[v])) A.ll=some (.lst (us++[v])):=aO;refine ⟨_,rfl,A.p,C,A.dx,_,.ref A.ln,rfl,hp,R.c,R.nN,rfl,.inl ⟨rfl,_,SqL.of hn⟩,_,rfl,A.ln,_,_,rfl,rfl,hn,aH (by omega),?_⟩;have hp:=(aN (o:=.lst (ns++[x])) n2).trans hp;have hl:=(aN (o:=.lst (ns++[x])) n3.symm).trans hl;refine ⟨_,rfl,A.p,C,A.dx,_,.ref A.ll,rfl,hp,R.c,R.nL,rfl,A.ll,_,rfl,.inl (SqL.of hl),_,_,rfl,rfl,?_⟩;dsimp only;rw [show (((us++[v]).length:Nat):Int) - 1=(us.length:Int) by rw [agh];simp];exact q
abbrev ju:Stmt:=inClass (top 47) 17
theorem vO:aG ["self"] ["self"] (ao ju):=by walk_at "sc"
inductive Qj (K:PySem.W.Frag)(T:fJ)(C cF:Addr)(vs:List V)(H:Hp)(Q:VK)(E:XK):Prop
 | mk (A:Rs)(ex:List (Str × V))(day:Int)(us:List V)(_:vs=[.ref A.p])(_:H A.p=some (Pb C A ex day))(_:SqL K H A.ll us)(_:TabsOk T H)(_:(us.length<60->Q .non H))(_:(60<=us.length->∀ (e:Addr)(H':Hp),aJ T H H'->H' e=none->E (.ref cF) (some e) H'))
variable {jx:Addr}{jy:FuncData}(aX:Dm K C "look_at_room" "Roll.look_at_room" ju ["self"] jx jy)
include aX in
theorem Mj (B:Blt mg)(R:RC K C)(Ft:yX K mg "Full" cF)(CL:∃ t,mg "MOST_LICENCES"=some (.int 60 t)):((CXE P w)|||1) jx jy ["self"] (Qj K T C cF):=by
 obtain ⟨tL,Em⟩:=CL
 refine aX.F.okX vO ?_ ?_
 walk_at "i"
 obtain ⟨A,ex,day,us,rfl,hp,hl,tk,q,qx⟩:=h
 refine ⟨_,(~~~(@cM _ _ _ _ _ _ _ _ (aR acZ (aD aB rfl B.len agk (aV (pv 0) rfl>=>ak)) (fP (v:=.int (60)) rfl Em ⟨_,rfl⟩) (bf _))
   (~~~(dF fO rfl (fun _ _ z=>z) rfl Ft.m Ft.q (cO>=>ak)))
   bA)),?_⟩
 refine ⟨_,rfl,A.p,C,A.dx,_,.ref A.ll,rfl,hp,R.c,R.nL,rfl,A.ll,_,rfl,.inl hl,_,_,rfl,rfl,_,rfl,ifD (fun h=>?_) (fun h=>?_)⟩
 ·have h:(60:Int)<=(us.length:Int):=h
  exact ⟨szl,fun e he=>qx (by omega) e H (aJ.refl tk) he⟩
 ·have h:¬ (60:Int)<=(us.length:Int):=h
  exact q (by omega)
abbrev iC:Stmt:=inClass (top 47) 15
theorem sE:aG ["self","number"] ["self","number"] (ao iC):=by walk_at "sc"
inductive Er (K:PySem.W.Frag)(T:fJ)(C cN:Addr)(vs:List V)(H:Hp)(Q:VK)(E:XK):Prop
 | mk (A:Rs)(ex:List (Str × V))(day:Int)(us:List V)(n:Int)(_:vs=[.ref A.p,.int n])(_:H A.p=some (Pb C A ex day))(_:SqL K H A.ll us)(_:TabsOk T H)(_:(0<=n->n<us.length->Q .non H))(_:(¬ (0<=n/\n<us.length)->∀ (e:Addr)(H':Hp),aJ T H H'->H' e=none->E (.ref cN) (some e) H'))
variable {iI:Addr}{iM:FuncData}(bF:Dm K C "look_at_number" "Roll.look_at_number" iC ["self","number"] iI iM)
include bF in
theorem Cv (B:Blt mg)(R:RC K C)(cW:yX K mg "NoNumber" cN):((CXE P w)|||1) iI iM ["self","number"] (Er K T C cN):=by
 refine bF.F.okX sE ?_ ?_
 walk_at "i"
 obtain ⟨A,ex,day,us,n,rfl,hp,hl,tk,q,qx⟩:=h
 refine ⟨_,(~~~(@cM _ _ _ _ _ _ _ _ (jq (vD yG Bh aA (pv 1) (aD aB rfl B.len agk (aV (pv 0) rfl>=>ak))))
   (~~~(dF fO rfl (fun _ _ z=>z) rfl cW.m cW.q (cO>=>ak)))
   bA)),?_⟩
 refine ⟨_,rfl,_,_,rfl,rfl,_,rfl,ifD (fun h1=>?_) (fun h1=>?_)⟩
 rotate_left
 ·refine ⟨_,rfl,vP ⟨szl,fun e he=>qx (fun z=>h1 z.1) e H (aJ.refl tk) he⟩⟩
 refine ⟨_,rfl,A.p,C,A.dx,_,.ref A.ll,rfl,hp,R.c,R.nL,rfl,A.ll,_,rfl,.inl hl,_,_,rfl,rfl,_,rfl,ifN (ifD (fun h2=>?_) (fun h2=>?_))⟩
 ·exact q h1 h2
 ·exact ⟨szl,fun e he=>qx (fun z=>h2 z.2) e H (aJ.refl tk) he⟩
abbrev iD:Stmt:=inClass (top 47) 16
theorem sG:aG ["self","number","holder"] ["self","number","holder"] (ao iD):=by walk_at "sc"
inductive Es (K:PySem.W.Frag)(T:fJ)(C cN cY:Addr)(vs:List V)(H:Hp)(Q:VK)(E:XK):Prop
 | mk (A:Rs)(ex:List (Str × V))(day:Int)(us:List V)(ns:List Str)(n:Int)(y:Str)(_:vs=[.ref A.p,.int n,.str y])(_:H A.p=some (Pb C A ex day))(_:SqL K H A.ll us)(_:SqL K H A.ln (ns.map V.str))(_:us.length=ns.length)(_:ab9 ex)(_:TabsOk T H)(_:(0<=n->n<ns.length->ns[n.toNat]?=some y->Q .non H))(_:(¬ (0<=n/\n<ns.length)->∀ (e:Addr)(H':Hp),aJ T H H'->H' e=none->E (.ref cN) (some e) H'))(_:(0<=n->n<ns.length->ns[n.toNat]?≠some y->∀ (e:Addr)(H':Hp),aJ T H H'->H' e=none->E (.ref cY) (some e) H'))
variable (aL:RC K C)
variable (lK:((CXE P w)|||1) iI iM ["self","number"] (Er K T C cN))
variable {iJ:Addr}{iQ:FuncData}(au:Dm K C "look_at_holder" "Roll.look_at_holder" iD ["self","number","holder"] iJ iQ)
include bF aL lK au in
theorem Cw (B:Blt mg)(mX:yX K mg "NotYours" cY):
  ((CXE P w)|||2) iJ iQ ["self","number","holder"] (Es K T C cN cY):=by
 have R:=aL
 refine au.F.okX sG ?_ ?_
 walk_at "i"
 obtain ⟨A,ex,day,us,ns,n,y,rfl,hp,hl,hn,hul,hex,tk,q,qN,qY⟩:=h
 refine ⟨_,(aM (cj (pv 0) aL.c bF.m lK hr.m bF.b .nil jX (pv 1>=>ak))<|>(~~~(@cM _ _ _ _ _ _ _ _ (aR Cr (@aZ _ _ _ _ _ _ _ aU (aV (pv 0) rfl) (pv 1) (fun _ _=>rfl)) (pv 2) (bf _))
   (~~~(dF fO rfl (fun _ _ z=>z) rfl mX.m mX.q (cO>=>ak)))
   bA))),?_⟩
 refine ⟨_,rfl,A.p,A.dx,_,rfl,hp,hex.num,_,rfl,A,ex,day,us,n,rfl,hp,hl,tk,fun h0 h1=>?_,fun h=>qN (fun z=>h (by omega))⟩
 obtain ⟨k,rfl⟩:=agA h0
 obtain ⟨x,hx⟩:∃ x,ns[k]?=some x:=⟨_,af9 (by omega)⟩
 refine ⟨_,rfl,A.p,C,A.dx,_,.ref A.ln,rfl,hp,R.c,R.nN,rfl,_,rfl,A.ln,_,_,_,rfl,rfl,hn,dU (show (ns.map V.str)[k]?=some (.str x) by rw [agg,hx];rfl),_,rfl,rfl,_,rfl,ifN (ifD (fun h=>?_) (fun h=>?_))⟩
 ·exact q h0 (by omega) (by rw [agm,hx,V.str.inj h])
 ·refine ⟨szl,fun e he=>?_⟩
  exact qY h0 (by omega) (fun z=>h (by rw [agm,hx] at z;rw [agz z])) e H (aJ.refl tk) he
abbrev wD:Stmt:=top 40
theorem HF:aG ["one","most"] ["one","most"] (ao wD):=by walk_at "sc"
inductive acF (K:PySem.W.Frag)(vs:List V)(H:Hp)(Q:VK)(E:XK):Prop
 | mk (a:Addr)(l:Lic)(m:Int)(_:vs=[.ref a,.int m])(_:SqT K H a (vq l))(_:∀ t,H t=none->Q (.ref t) (upd H t (.tup (vq (wm l m)))))
variable {wV:Addr}{xM:FuncData}(bG:Df K mg "with_most" wD ["one","most"] wV xM)
include bG in
theorem ae6:(CX0|||1) wV xM ["one","most"] (acF K):=by
 refine bG.F.ok HF ?_ ?_;walk_at "i";obtain ⟨a,l,m,rfl,hT,q⟩:=h;refine ⟨_,(~~~(@aP _ _ _ _ (@fH _ _ _ _ _ (@aZ _ _ _ _ _ _ _ fQ (pv 0) aA (fun _ _=>rfl)>=>@aZ _ _ _ _ _ _ _ fQ (pv 0) aA (fun _ _=>rfl)>=>@aZ _ _ _ _ _ _ _ fQ (pv 0) aA (fun _ _=>rfl)>=>pv 1>=>ak)))),?_⟩;exact ⟨_,rfl,a,_,0,_,rfl,rfl,hT,rfl,_,rfl,a,_,1,_,rfl,rfl,hT,rfl,_,rfl,a,_,2,_,rfl,rfl,hT,rfl,_,rfl,szl,q⟩
abbrev sY:Stmt:=top 39
theorem Gd:aG ["one","start"] ["one","start"] (ao sY):=by walk_at "sc"
inductive VR (K:PySem.W.Frag)(vs:List V)(H:Hp)(Q:VK)(E:XK):Prop
 | mk (a:Addr)(l:Lic)(m:Int)(_:vs=[.ref a,.int m])(_:SqT K H a (vq l))(_:∀ t,H t=none->Q (.ref t) (upd H t (.tup (vq (wst l m)))))
variable {uh:Addr}{uK:FuncData}(cB:Df K mg "with_start" sY ["one","start"] uh uK)
include cB in
theorem ac1:(CX0|||1) uh uK ["one","start"] (VR K):=by
 refine cB.F.ok Gd ?_ ?_;walk_at "i";obtain ⟨a,l,m,rfl,hT,q⟩:=h;refine ⟨_,(~~~(@aP _ _ _ _ (@fH _ _ _ _ _ (@aZ _ _ _ _ _ _ _ fQ (pv 0) aA (fun _ _=>rfl)>=>pv 1>=>@aZ _ _ _ _ _ _ _ fQ (pv 0) aA (fun _ _=>rfl)>=>@aZ _ _ _ _ _ _ _ fQ (pv 0) aA (fun _ _=>rfl)>=>ak)))),?_⟩;exact ⟨_,rfl,a,_,0,_,rfl,rfl,hT,rfl,_,rfl,_,rfl,a,_,2,_,rfl,rfl,hT,rfl,_,rfl,a,_,3,_,rfl,rfl,hT,rfl,szl,q⟩
theorem Eo (ls:List Lic)(d:Int):∀ i,(vV ls d i).length<=i
 | 0=>agb _
 | i+1=>by
  have:=Eo ls d i;unfold vV;rw [agh];split
  ·split <;>simp <;>omega
  ·simp;omega
abbrev jU:Stmt:=inClass (top 47) 14
theorem lQ:aG ["self","number","day","taking"] ["self","number"] (ao jU):=by walk_at "sc"
inductive Ls (K:PySem.W.Frag)(T:fJ)(C:Addr)(vs:List V)(H:Hp)(Q:VK)(E:XK):Prop
 | mk (A:Rs)(ex:List (Str × V))(day:Int)(us:List V)(ls:List Lic)(n:Nat)(l:Lic)(_:vs=[.ref A.p,.int (n:Int)])(_:H A.p=some (Pb C A ex day))(_:SqL K H A.ll us)(_:bY K H us (ls.map Dv))(_:ls[n]?=some l)(_:ls.length<=64)(_:TabsOk T H)(_:∀ H',aJ T H H'->Q (.bl (decide (vV ls l.day ls.length=[(n:Int)]))) H')
variable {nA:Addr}{nM:FuncData}(dw:Dm K C "is_alone" "Roll.is_alone" jU ["self","number"] nA nM)
include bH fY bN jz dw in
theorem IK (B:Blt mg)(R:RC K C):(CX0|||2) nA nM ["self","number"] (Ls K T C):=by
 refine dw.F.ok lQ ?_ ?_;walk_at "i";obtain ⟨A,ex,day,us,ls,n,l,rfl,hp,hl,d0,hn,l64,tk,q⟩:=h;have hu:=hr.units;have O:=Ow.refl tk;have hul:us.length=ls.length:=by rw [d0.length,aeu]
 obtain ⟨al,hal,hT⟩:=d0.rO hn;refine ⟨_,(aF (Il (i:=2) lQ.nd rfl (Or.inr rfl) (bN<*jz<*(aq (aZ aU (aV (pv 0) rfl) (pv 1) (fun _ _=>rfl)) ak)))
  (aF (kO (i:=3) (ao jU) rfl ["self","number","day","taking"] rfl ["other","one","day"] [none,none,some 2] (by decide+kernel) (by decide+kernel) (by decide+kernel) rfl lQ.nd rfl rfl (Gp rfl B.enumerate (aq (aV (pv 0) rfl) ak)) (fun _ _ _=>(qy (K:=K) (n:=2) rfl rfl (aC (bB (i:=0) (show (["other","one","day"]:List Str).Nodup by decide+kernel) rfl (Or.inl rfl)) (aC (bB (i:=1) (show (["other","one","day"]:List Str).Nodup by decide+kernel) rfl (Or.inl rfl)) cg)))) (fun _ _ _=>(Cg (PW.pt (pw_and (aR kj (bN<*jz<*(aq (pv 1) ak)) (pv 2) (bf _)) (pw_and1 (aR Uv (bH<*fY<*(aq (pv 1) ak)) aA (bf _))))))) (fun _ _ _=>(pv 0)) rfl)
  (aK (aP (qz (ac0 hu) (pv 3) (dM (aq (pv 1) ak)) (bf _)))))),?_⟩
 refine Ui ?_;intro zu0 zu1;refine ⟨_,rfl,A.p,C,A.dx,_,.ref A.ll,rfl,hp,R.c,R.nL,rfl,_,rfl,A.ll,_,_,_,rfl,rfl,hl,dU hal,al,l,rfl,hT,?_⟩;refine ⟨_,rfl,A.p,C,A.dx,_,.ref A.ll,rfl,hp,R.c,R.nL,rfl,A.ll,_,rfl,hl,fun lw hlw=>?_⟩;refine Jk (K:=K) (xs:=us) (fun i τ H'=>Iv (∃ (v0 v1:Option V),τ=[v0,v1,some (.int l.day)]/\Ow T H H' [(lw,.lst ((vV ls l.day i).map V.int))]))
  ⟨trivial,none,none,rfl,O.mk' hlw rfl⟩ (fun i τ H' _ ⟨_,_,_,_,O⟩=>hl.mo O.same) ?_ ?_
 ·rintro i y T0 τ H5 hy ⟨-,v0,v1,rfl,O⟩ hT0;obtain ⟨al,l2,rfl,hl2,hT2⟩:=d0.CJ hy;have hi:=(af4.mp hl2).1;have ht:=Eo ls l.day i;walk_at "nw";refine ⟨T0,_,rfl,O.sqT 0,rfl,_,_,rfl,_,_,rfl,rfl,?_⟩;have O:=O.tail;have hT3:=hT2.mo O.same;refine ⟨_,rfl,al,l2,rfl,hT3,_,rfl,rfl,_,rfl,ifI (fun hd=>?_) (fun hd=>?_)⟩
  ·refine ⟨_,rfl,al,l2,rfl,hT3,_,_,rfl,rfl,_,rfl,ifD (fun hm=>?_) (fun hm=>?_)⟩
   ·refine ⟨_,rfl,_,O.get 0,aH (by rw [aeu];omega),?_⟩;walk_at "pt";refine ⟨trivial,_,_,rfl,?_⟩;unfold vV;rw [hl2];simp only [if_pos (And.intro hd hm)];rw [aga];exact O
   ·refine ⟨trivial,_,_,rfl,?_⟩;unfold vV;rw [hl2];simp only [if_neg (fun z:l2.day=l.day/\0<l2.most=>hm z.2),ahm];exact O
  ·refine ⟨trivial,_,_,rfl,?_⟩;unfold vV;rw [hl2];simp only [if_neg (fun z:l2.day=l.day/\0<l2.most=>hd z.1),ahm];exact O
 rintro τ H5 ⟨-,v0,v1,rfl,O⟩;rw [hul] at O;refine ⟨_,rfl,_,rfl,szl,fun l0 hl0=>?_⟩;walk_at "nw";refine ⟨lw,l0,vV ls l.day ls.length,[(n:Int)],rfl,rfl,O.sq 1,O.sq 0,?_⟩;rw [if_neg agi];exact q _ O.same
variable {S:RS}{n:Int}
theorem Fb (e:n=(k:Int))(h:S.ls[k]?=some l):S.at_ n=l:=by
 unfold RS.at_;rw [e,agm,agj,h];rfl
section
variable {K:PySem.W.Frag}{T:fJ}{C:Addr}{c:Ec}{A:Rs}{ex:List (Str × V)}{r:List Int}{H0 H:Hp}{B:List (Addr × HO)}{S S':RS}{d:Ea}{v:V}{Q:VK}{E:XK}{n:Int}{y:Str}{k:Except EK RS}{ek:EK}
theorem VG (h:¬ (0<=n/\n<S.ls.length)):S.En n y k=.error .number:=if_pos h
theorem O9 (h0:0<=n)(h1:n<S.ls.length)(h:S.ns[n.toNat]?≠some y):S.En n y k=.error .yours:=by unfold RS.En;rw [if_neg (not_not_intro ⟨h0,h1⟩),if_pos h]
theorem DG (h0:0<=n)(h1:n<S.ls.length)(h:S.ns[n.toNat]?=some y):S.En n y k=k:=by unfold RS.En;rw [if_neg (not_not_intro ⟨h0,h1⟩),if_neg (not_not_intro h)]
theorem After.En {k:Except EK RS}(q:After K T C c A ex r H0 H B S d v Q E)(hk:step r S d=S.En n y k)(hnn:S.ns.length=S.ls.length):
  (¬ (0<=n/\n<S.ns.length)->∀ (e:Addr)(H':Hp),aJ T H H'->H' e=none->E (.ref c.number) (some e) H')/\(0<=n->n<S.ns.length->S.ns[n.toNat]?≠some y->∀ (e:Addr)(H':Hp),aJ T H H'->H' e=none->E (.ref c.yours) (some e) H'):=
 ⟨fun h=>q.2 .number (hk.trans (VG (by rw [<- hnn];exact h))),fun h0 h1 h=>q.2 .yours (hk.trans (O9 h0 (by rw [<- hnn];exact h1) h))⟩
end
theorem Den.aea {a:Addr}{x y:V}{d e:PyData}(h:H a=some (.tup [x,y]))(h1:Den K H x d)(h2:Den K H y e):Den K H (.ref a) (.tuple [d,e]):=.tuple (SqT.of h) (.cons h1 (.cons h2 .nil))
abbrev wL:Stmt:=inClass (top 47) 9
theorem Ia:aG ["self","number","holder"] ["self","number","holder"] (ao wL):=by walk_at "sc"
inductive Qv (K:PySem.W.Frag)(T:fJ)(C:Addr)(c:Ec)(vs:List V)(H:Hp)(Q:VK)(E:XK):Prop
 | mk (A:Rs)(ex:List (Str × V))(H0:Hp)(B:List (Addr × HO))(r:List Int)(S:RS)(n:Int)(y:Str)(_:vs=[.ref A.p,.int n,.str y])(_:RA K T C A ex r H0 H B S)(_:RP r ex S)(_:After K T C c A ex r H0 H B S (.drop n y) .non Q E)
variable (aQ:((CXE P w)|||2) iJ iQ ["self","number","holder"] (Es K T C c.number c.yours))
variable (gG:(CX0|||1) wV xM ["one","most"] (acF K))
variable {xJ:Addr}{yc:FuncData}(fj:Dm K C "drop" "Roll.drop" wL ["self","number","holder"] xJ yc)
include aL au bG aQ gG fj in
theorem Ms:((CXE P w)|||3) xJ yc ["self","number","holder"] (Qv K T C c):=by
 have R:=aL;refine fj.F.okX Ia ?_ ?_;walk_at "i";obtain ⟨A,ex,H0,L,r,S,n,y,rfl,⟨us,vs,O,d0,d1⟩,hp,q⟩:=h;have hul:us.length=S.ls.length:=by rw [d0.length,aeu]
 have hvl:vs.length=S.ds.length:=by rw [d1.length,aeu]
 have hnn:=hp.nn;have hdl:=hp.dl;obtain ⟨qN,qY⟩:=After.En (n:=n) (y:=y) q rfl hnn;refine ⟨_,(aM (cj (pv 0) aL.c au.m aQ hr.m au.b .nil jX (pv 1>=>pv 2>=>ak))<|>gQ (bG<*gG<*(@aZ _ _ _ _ _ _ _ aU (aV (pv 0) rfl) (pv 1) (fun _ _=>rfl)>=>aA>=>ak)) (pX (aV (pv 0) rfl) (pv 1) set_list)<|>(~~~(aM (kh agn ago agp bC (aV (pv 0) rfl) (@fH _ _ _ _ _ (cO>=>pv 1>=>pv 2>=>ak)>=>ak))))),?_⟩;refine ⟨_,rfl,A.p,A.dx,_,rfl,O.get 0,(by exact hp.ex.hol),_,rfl,_,rfl,A,ex,S.day,us,S.ns,n,y,rfl,O.get 0,O.sq 3,O.sq 4,by omega,hp.ex,O.same.t1,fun h0 h1 hx=>?_,qN,qY⟩;have hst:step r S (.drop n y)=.ok ⟨S.day,S.ls.set n.toNat (wm (S.at_ n) 0),S.ns,S.ds++[.drop n y]⟩:=DG h0 (by omega) hx;obtain ⟨k,rfl⟩:=agA h0;obtain ⟨l,hl⟩:∃ l,S.ls[k]?=some l:=⟨_,af9 (by omega)⟩;obtain ⟨al,hal,hT⟩:=d0.rO hl;rw [Fb rfl hl,agm] at hst;refine ⟨_,rfl,A.p,C,A.dx,_,.ref A.ll,rfl,O.get 0,R.c,R.nL,rfl,_,rfl,A.ll,_,_,_,rfl,rfl,O.sq 3,dU hal,al,l,0,rfl,hT.mo O.same,fun t1 ht1=>?_⟩;walk_at "nw";refine ⟨_,rfl,A.p,C,A.dx,_,.ref A.ll,rfl,O.get 1,R.c,R.nL,rfl,_,rfl,?_⟩;refine uc O 4 rfl (gZ (by omega)) fun H6 O=>?_;refine ⟨_,rfl,A.p,C,A.dx,_,.ref A.lo,rfl,O.get 1,R.c,R.nO,rfl,.inl ⟨rfl,_,O.sq 6⟩,_,rfl,_,rfl,szl,fun t2 ht2=>?_⟩;walk_at "nw";refine ⟨A.lo,_,_,rfl,rfl,O.get 7,aH (by omega),?_⟩;generalize hE:upd _ _ _=Hn;have O:=Ow.wQ O 7 rfl hE rfl;have O:Ow T H0 Hn ((t2,.tup [.str "drop",.int (k:Int),.str y])::(t1,.tup (vq (wm l 0)))::(RX C A ex r S.day (us.set k (.ref t1)) S.ns (vs++[V.ref t2])++L)):=O;obtain ⟨Hb,O,sb,e2⟩:=O.frz;obtain ⟨Hc,O,sc,e1⟩:=O.frz;have e2:=sc.keep _ _ e2 (fun _ z=>nomatch z);refine q.1 _ hst Hc _ (sb.trans sc) ⟨us.set k (.ref t1),vs++[V.ref t2],O,?_,?_⟩
 ·rw [agV];exact ((d0.mo sb).mo sc).set (Den.lic (l:=wm l 0) (SqT.of e1)) k
 ·rw [aga];exact ((d1.mo sb).mo sc).append (.cons (.tuple (SqT.of e2) (.cons (.str _) (.cons (.int _) (.cons (.str _) .nil)))) .nil)
abbrev wJ:Stmt:=inClass (top 47) 7
theorem HX:aG ["self","number","holder","to"] ["self","number","holder","to"] (ao wJ):=by walk_at "sc"
inductive Qh (K:PySem.W.Frag)(T:fJ)(C:Addr)(c:Ec)(vs:List V)(H:Hp)(Q:VK)(E:XK):Prop
 | mk (A:Rs)(ex:List (Str × V))(H0:Hp)(B:List (Addr × HO))(r:List Int)(S:RS)(n:Int)(y z:Str)(_:vs=[.ref A.p,.int n,.str y,.str z])(_:RA K T C A ex r H0 H B S)(_:RP r ex S)(_:Asc z)(_:After K T C c A ex r H0 H B S (.sell n y z) .non Q E)
variable (gV:((CXE P w)|||2) pC pJ ["name"] (Bv T c.holder))
variable {xr:Addr}{xW:FuncData}(eX:Dm K C "sell" "Roll.sell" wJ ["self","number","holder","to"] xr xW)
include bx aL au aQ gV eX in
theorem Mi:((CXE P w)|||3) xr xW ["self","number","holder","to"] (Qh K T C c):=by
 have R:=aL;refine eX.F.okX HX ?_ ?_;walk_at "i";obtain ⟨A,ex,H0,L,r,S,n,y,z,rfl,⟨us,vs,O,d0,d1⟩,hp,az,q⟩:=h;have hul:us.length=S.ls.length:=by rw [d0.length,aeu]
 have hvl:vs.length=S.ds.length:=by rw [d1.length,aeu]
 have hnn:=hp.nn;have hdl:=hp.dl;obtain ⟨qN,qY⟩:=After.En (n:=n) (y:=y) q rfl hnn;refine ⟨_,(aM (cj (pv 0) aL.c au.m aQ hr.m au.b .nil jX (pv 1>=>pv 2>=>ak))<|>aM (bx*>gV*>(pv 3>=>ak))<|>gQ (pv 3) (pX (aV (pv 0) rfl) (pv 1) set_list)<|>(~~~(aM (kh agn ago agp bC (aV (pv 0) rfl) (@fH _ _ _ _ _ (cO>=>pv 1>=>pv 2>=>pv 3>=>ak)>=>ak))))),?_⟩;refine ⟨_,rfl,A.p,A.dx,_,rfl,O.get 0,(by exact hp.ex.hol),_,rfl,_,rfl,A,ex,S.day,us,S.ns,n,y,rfl,O.get 0,O.sq 3,O.sq 4,by omega,hp.ex,O.same.t1,fun h0 h1 hx=>?_,qN,qY⟩;have hst:step r S (.sell n y z)=_:=DG h0 (by omega) hx;refine ⟨_,rfl,z,rfl,az,O.same.t1,fun nz H2 s2=>?_,fun nz e H' s' he=>q.2 .holder (hst.trans (if_pos nz)) e H' s' he⟩;have hst:=hst.trans (if_neg (not_not_intro nz));have O:=O.dD s2;obtain ⟨k,rfl⟩:=agA h0;rw [agm] at hst;refine ⟨_,rfl,_,rfl,A.p,C,A.dx,_,.ref A.ln,rfl,O.get 0,R.c,R.nN,rfl,_,rfl,?_⟩;refine uc O 4 rfl (gZ (by rw [aeu];omega)) fun H6 O=>?_;refine ⟨_,rfl,A.p,C,A.dx,_,.ref A.lo,rfl,O.get 0,R.c,R.nO,rfl,.inl ⟨rfl,_,O.sq 5⟩,_,rfl,_,rfl,_,rfl,szl,fun t2 ht2=>?_⟩;walk_at "nw";refine ⟨A.lo,_,_,rfl,rfl,O.get 6,aH (by omega),?_⟩;generalize hE:upd _ _ _=Hn;have O:=Ow.wQ O 6 rfl hE rfl;obtain ⟨Hb,O,sb,e2⟩:=(show Ow T H0 Hn ((t2,.tup [.str "sell",.int (k:Int),.str y,.str z])::(RX C A ex r S.day us (S.ns.set k z) (vs++[V.ref t2])++L) ) from by simp only [RX,agV];exact O).frz;refine q.1 _ hst Hb _ sb ⟨us,vs++[V.ref t2],O,d0.mo sb,?_⟩;rw [aga];exact (d1.mo sb).append (.cons (.tuple (SqT.of e2) (.cons (.str _) (.cons (.int _) (.cons (.str _) (.cons (.str _) .nil))))) .nil)
abbrev wK:Stmt:=inClass (top 47) 8
theorem Ad:aG ["self","number","holder","most","to","one"] ["self","number","holder","most","to"] (ao wK):=by walk_at "sc"
inductive Qo (K:PySem.W.Frag)(T:fJ)(C:Addr)(c:Ec)(vs:List V)(H:Hp)(Q:VK)(E:XK):Prop
 | mk (A:Rs)(ex:List (Str × V))(H0:Hp)(B:List (Addr × HO))(r:List Int)(S:RS)(n:Int)(y:Str)(m:Int)(z:Str)(_:vs=[.ref A.p,.int n,.str y,.int m,.str z])(_:RA K T C A ex r H0 H B S)(_:RP r ex S)(_:Asc z)(_:After K T C c A ex r H0 H B S (.part n y m z) (.int (S.ls.length:Int)) Q E)
variable (eN:yX K mg "TooMuch" c.much)
variable (vh:(CX0|||2) nA nM ["self","number"] (Ls K T C))
variable (gH:((CXE P w)|||1) jx jy ["self"] (Qj K T C c.full))
variable (oZ:(CX0|||1) uI uX ["self","one","holder"] (Ln C))
variable {xG:Addr}{xY:FuncData}(eY:Dm K C "part" "Roll.part" wK ["self","number","holder","most","to"] xG xY)
include bH fY bx cR aX aL au bG dw aQ gG gV eN vh gH oZ eY in
theorem Mp (B:Blt mg)(mY:yX K mg "NotAlone" c.alone):
  ((CXE P w)|||3) xG xY ["self","number","holder","most","to"] (Qo K T C c):=by
 have R:=aL
 refine eY.F.okX Ad ?_ ?_
 walk_at "i"
 obtain ⟨A,ex,H0,L,r,S,n,y,m,z,rfl,⟨us,vs,O,d0,d1⟩,hp,az,q⟩:=h
 have hul:us.length=S.ls.length:=by rw [d0.length,aeu]
 have hvl:vs.length=S.ds.length:=by rw [d1.length,aeu]
 have hnn:=hp.nn
 have hdl:=hp.dl
 have hl60:=hp.l60
 obtain ⟨qN,qY⟩:=After.En (n:=n) (y:=y) q rfl hnn
 refine ⟨_,(aM (cj (pv 0) aL.c au.m aQ hr.m au.b .nil jX (pv 1>=>pv 2>=>ak))<|>aM (bx*>gV*>(pv 4>=>ak))<|>5<$>Ad<$>(@aZ _ _ _ _ _ _ _ aU (aV (pv 0) rfl) (pv 1) (fun _ _=>rfl))<|>@cM _ _ _ _ _ _ _ _ (jq (vD yG Bh aA (pv 3) (bH<*fY<*(pv 5>=>ak))))
   (~~~(dF fO rfl (fun _ _ z=>z) rfl eN.m eN.q (cO>=>ak)))
   bA<|>@cM _ _ _ _ _ _ _ _ (jq (iy (cj (pv 0) aL.c dw.m vh hr.m dw.b .nil jw (pv 1>=>ak))))
   (~~~(dF fO rfl (fun _ _ z=>z) rfl mY.m mY.q (cO>=>ak)))
   bA<|>aM (cC (pv 0) aL.c aX.m gH hr.m aX.b .nil jX)<|>gQ (bG<*gG<*(pv 5>=>@bD _ _ _ _ _ _ _ _ yF (bH<*fY<*(pv 5>=>ak)) (pv 3)>=>ak)) (pX (aV (pv 0) rfl) (pv 1) set_list)<|>aM (kh agn ago agp bC (aV (pv 0) rfl) (@fH _ _ _ _ _ (cO>=>pv 1>=>pv 2>=>pv 3>=>pv 4>=>ak)>=>ak))<|>(~~~(@aP _ _ _ _ (cj (pv 0) aL.c cR.m oZ hr.m cR.b .nil jw (bG<*gG<*(pv 5>=>pv 3>=>ak)>=>pv 4>=>ak))))),?_⟩
 refine ⟨_,rfl,A.p,A.dx,_,rfl,O.get 0,(by exact hp.ex.hol),_,rfl,_,rfl,A,ex,S.day,us,S.ns,n,y,rfl,O.get 0,O.sq 3,O.sq 4,by omega,hp.ex,O.same.t1,fun h0 h1 hx=>?_,qN,qY⟩
 have hst:step r S (.part n y m z)=_:=DG h0 (by omega) hx
 refine ⟨_,rfl,z,rfl,az,O.same.t1,fun nz H2 s2=>?_,fun nz e H' s' he=>q.2 .holder (hst.trans (if_pos nz)) e H' s' he⟩
 have hst:=hst.trans (if_neg (not_not_intro nz))
 have O:=O.dD s2
 obtain ⟨k,rfl⟩:=agA h0
 obtain ⟨l,hl⟩:∃ l,S.ls[k]?=some l:=⟨_,af9 (by omega)⟩
 obtain ⟨al,hal,hT⟩:=d0.rO hl
 rw [Fb rfl hl,agm] at hst
 refine ⟨_,rfl,A.p,C,A.dx,_,.ref A.ll,rfl,O.get 0,R.c,R.nL,rfl,_,rfl,A.ll,_,_,_,rfl,rfl,O.sq 3,dU hal,?_⟩
 refine ⟨_,rfl,?_⟩
 have hTm:=hT.mo O.same
 refine ⟨_,_,rfl,rfl,_,rfl,?_⟩
 refine ifD (fun h1=>?_) (fun h1=>?_)
 rotate_left
 ·refine ⟨_,rfl,vP ⟨szl,fun e he=>?_⟩⟩
  exact q.2 .much (hst.trans (if_pos fun z=>h1 z.1)) e _ s2 he
 refine ⟨_,rfl,al,l,rfl,hTm,_,_,rfl,rfl,_,rfl,ifN (ifD (fun h2=>?_) (fun h2=>?_))⟩
 rotate_left
 ·refine ⟨szl,fun e he=>?_⟩
  exact q.2 .much (hst.trans (if_pos fun z=>h2 z.2)) e _ s2 he
 have hst:=hst.trans (if_neg (not_not_intro ⟨h1,h2⟩))
 refine ⟨_,rfl,A.p,A.dx,_,rfl,O.get 0,(by exact hp.ex.al),_,rfl,A,ex,S.day,us,S.ls,k,l,rfl,O.get 0,O.sq 3,d0.mo O.same,hl,by omega,O.same.t1,fun H3 s3=>?_⟩
 have O:=O.dD s3
 have hTm:=hT.mo O.same
 refine ⟨_,rfl,ifN (ifD (fun h3=>?_) (fun h3=>?_))⟩
 rotate_left
 ·refine ⟨szl,fun e he=>?_⟩
  exact q.2 .alone (hst.trans (if_pos h3)) e _ (s2.trans s3) he
 have hst:=hst.trans (if_neg (not_not_intro h3))
 refine ⟨_,rfl,A.p,A.dx,_,rfl,O.get 0,(by exact hp.ex.room),A,ex,S.day,us,rfl,O.get 0,O.sq 3,O.same.t1,fun h4=>?_,fun h4 e H' s' he=>q.2 .full (hst.trans (if_pos (by omega))) e H' ((s2.trans s3).trans s') he⟩
 have hst:=hst.trans (if_neg (by omega))
 refine ⟨_,rfl,_,rfl,al,l,rfl,hTm,_,rfl,_,_,rfl,rfl,al,l,_,rfl,hTm,fun t1 ht1=>?_⟩
 walk_at "nw"
 refine ⟨_,rfl,A.p,C,A.dx,_,.ref A.ll,rfl,O.get 1,R.c,R.nL,rfl,_,rfl,?_⟩
 refine uc O 4 rfl (gZ (by omega)) fun H6 O=>?_
 refine ⟨_,rfl,A.p,C,A.dx,_,.ref A.lo,rfl,O.get 1,R.c,R.nO,rfl,.inl ⟨rfl,_,O.sq 6⟩,_,rfl,_,rfl,_,rfl,_,rfl,szl,fun t2 ht2=>?_⟩
 walk_at "nw"
 refine ⟨A.lo,_,_,rfl,rfl,O.get 7,aH (by omega),?_⟩
 generalize hE:upd _ _ _=Hn
 have O:=Ow.wQ O 7 rfl hE rfl
 clear hE
 refine ⟨_,rfl,A.p,A.dx,_,rfl,O.get 2,(by exact hp.ex.ent),_,rfl,_,rfl,al,l,m,rfl,hT.mo O.same,fun t3 ht3=>?_⟩
 walk_at "nw"
 refine ⟨_,rfl,A,ex,S.day,us.set k (.ref t1),S.ns.map V.str,.ref t3,.str z,rfl,O.get 3,O.get 6,O.get 7,by rw [agG];omega,by rw [aeu];omega,O.ne 3 6,O.ne 3 7,O.ne 7 6,?_⟩
 have O:=(O.abm 6 rfl (o':=.lst (us.set k (.ref t1)++[.ref t3])) rfl).abm 7 rfl (o':=.lst (S.ns.map V.str++[.str z])) rfl
 rw [agG,hul]
 obtain ⟨Hb,O,sb,e3⟩:=(show Ow T H0 _ ((t3,.tup (vq (wm l m)))::(t2,.tup [.str "part",.int (k:Int),.str y,.int m,.str z])::(t1,.tup (vq (wm l (l.most - m))))::(RX C A ex r S.day (us.set k (.ref t1)++[.ref t3]) (S.ns++[z]) (vs++[V.ref t2])++L)) from by simp only [RX,aga,agH,ahT];exact O).frz
 obtain ⟨Hc,O,sc,e2⟩:=O.frz
 obtain ⟨Hd,O,sd,e1⟩:=O.frz
 have e3:=(sc.trans sd).keep _ _ e3 (fun _ z=>nomatch z)
 have e2:=sd.keep _ _ e2 (fun _ z=>nomatch z)
 have sx:=sb.trans (sc.trans sd)
 refine q.1 _ hst Hd _ sx ⟨us.set k (.ref t1)++[V.ref t3],vs++[V.ref t2],O,?_,?_⟩
 ·rw [aga,agV]
  exact ((d0.mo sx).set (Den.lic (l:=wm l (l.most - m)) (SqT.of e1)) k).append (.cons (Den.lic (l:=wm l m) (SqT.of e3)) .nil)
 ·rw [aga]
  exact (d1.mo sx).append (.cons (.tuple (SqT.of e2) (.cons (.str _) (.cons (.int _) (.cons (.str _) (.cons (.int _) (.cons (.str _) .nil)))))) .nil)
abbrev lU:Stmt:=inClass (top 47) 11
theorem zu:aG ["self","number","start"] ["self","number","start"] (ao lU):=by walk_at "sc"
inductive Bw (vs:List V)(H:Hp)(Q:VK)(E:XK):Prop
 | mk (p n s:V)(_:vs=[p,n,s])(_:Q .non H)
variable {lY:Addr}{mq:FuncData}(cQ:Dm K C "look_move" "Roll.look_move" lU ["self","number","start"] lY mq)
include cQ in
theorem Iu:(CX0|||1) lY mq ["self","number","start"] Bw:=by
 refine cQ.F.ok zu ?_ ?_;walk_at "i";obtain ⟨_,_,_,rfl,q⟩:=h;exact ⟨_,(aK (aP yE)),q⟩
abbrev qu:Stmt:=inClass (top 47) 10
theorem oF:aG ["self","number","holder","start","one"] ["self","number","holder","start"] (ao qu):=by walk_at "sc"
inductive Qp (K:PySem.W.Frag)(T:fJ)(C:Addr)(c:Ec)(vs:List V)(H:Hp)(Q:VK)(E:XK):Prop
 | mk (A:Rs)(ex:List (Str × V))(H0:Hp)(B:List (Addr × HO))(r:List Int)(S:RS)(n:Int)(y:Str)(st:Int)(_:vs=[.ref A.p,.int n,.str y,.int st])(_:RA K T C A ex r H0 H B S)(_:RP r ex S)(_:After K T C c A ex r H0 H B S (.move n y st) .non Q E)
variable (cA:yX K mg "NoLicence" c.licence)
variable (jD:(CX0|||1) uh uK ["one","start"] (VR K))
variable (jE:(CX0|||2) uD uR ["below","one"] (Li K T))
variable (rW:(CX0|||1) lY mq ["self","number","start"] Bw)
variable {qM:Addr}{qX:FuncData}(cX:Dm K C "move" "Roll.move" qu ["self","number","holder","start"] qM qX)
include bU aL au cB aQ cQ cA jD jE rW cX in
theorem U6 (B:Blt mg):((CXE P w)|||3) qM qX ["self","number","holder","start"] (Qp K T C c):=by
 have R:=aL
 refine cX.F.okX oF ?_ ?_
 walk_at "i"
 obtain ⟨A,ex,H0,L,r,S,n,y,st,rfl,⟨us,vs,O,d0,d1⟩,hp,q⟩:=h
 have hul:us.length=S.ls.length:=by rw [d0.length,aeu]
 have hvl:vs.length=S.ds.length:=by rw [d1.length,aeu]
 have hnn:=hp.nn
 have hdl:=hp.dl
 have hr40:=hp.r40
 obtain ⟨qN,qY⟩:=After.En (n:=n) (y:=y) q rfl hnn
 have sA:=aJ.refl O.same.t1
 refine ⟨_,(aM (cj (pv 0) aL.c au.m aQ hr.m au.b .nil jX (pv 1>=>pv 2>=>ak))<|>4<$>oF<$>(cB<*jD<*(@aZ _ _ _ _ _ _ _ aU (aV (pv 0) rfl) (pv 1) (fun _ _=>rfl)>=>pv 3>=>ak))<|>@cM _ _ _ _ _ _ _ _ (jq (iy (bU<*jE<*(aV (pv 0) rfl>=>pv 4>=>ak))))
   (~~~(dF fO rfl (fun _ _ z=>z) rfl cA.m cA.q (cO>=>ak)))
   bA<|>aM (cj (pv 0) aL.c cQ.m rW hr.m cQ.b .nil jw (pv 1>=>pv 3>=>ak))<|>gQ (pv 4) (pX (aV (pv 0) rfl) (pv 1) set_list)<|>(~~~(aM (kh agn ago agp bC (aV (pv 0) rfl) (@fH _ _ _ _ _ (cO>=>pv 1>=>pv 2>=>pv 3>=>ak)>=>ak))))),?_⟩
 refine ⟨_,rfl,A.p,A.dx,_,rfl,O.get 0,(by exact hp.ex.hol),_,rfl,_,rfl,A,ex,S.day,us,S.ns,n,y,rfl,O.get 0,O.sq 3,O.sq 4,by omega,hp.ex,O.same.t1,fun h0 h1 hx=>?_,qN,qY⟩
 have hst:step r S (.move n y st)=_:=DG h0 (by omega) hx
 obtain ⟨k,rfl⟩:=agA h0
 obtain ⟨l,hl⟩:∃ l,S.ls[k]?=some l:=⟨_,af9 (by omega)⟩
 obtain ⟨al,hal,hT⟩:=d0.rO hl
 rw [Fb rfl hl,agm] at hst
 refine ⟨_,rfl,A.p,C,A.dx,_,.ref A.ll,rfl,O.get 0,R.c,R.nL,rfl,_,rfl,A.ll,_,_,_,rfl,rfl,O.sq 3,dU hal,_,rfl,al,l,st,rfl,hT.mo O.same,fun t1 ht1=>?_⟩
 have sA:=sA.upd (o':=.tup (vq (wst l st))) ht1 (.inl ht1)
 have O:=O.mk' ht1 (o:=.tup (vq (wst l st))) rfl
 refine ⟨_,rfl,A.p,C,A.dx,_,.ref A.lb,rfl,O.get 1,R.c,R.nB,rfl,_,rfl,A.lb,t1,r,wst l st,rfl,O.sq 3,hp.rv,by omega,O.sqT 0,O.same.t1,fun b H2 s2 hb2=>?_⟩
 have O:=O.dD s2
 have sA:=sA.trans s2
 refine ⟨_,rfl,?_⟩
 cases b with
 | false =>
  refine vP ⟨szl,fun e he=>?_⟩
  exact q.2 .licence (hst.trans (if_pos fun h=>nomatch hb2.mpr h)) e _ sA he
 | true =>
  refine yp ?_
  have hst:=hst.trans (if_neg (not_not_intro (hb2.mp rfl)))
  refine ⟨_,rfl,A.p,A.dx,_,rfl,O.get 1,(by exact hp.ex.lmv),_,rfl,_,rfl,_,_,_,rfl,?_⟩
  refine ⟨_,rfl,_,rfl,A.p,C,A.dx,_,.ref A.ll,rfl,O.get 1,R.c,R.nL,rfl,_,rfl,?_⟩
  refine uc O 4 rfl (gZ (by omega)) fun H6 O=>?_
  refine ⟨_,rfl,A.p,C,A.dx,_,.ref A.lo,rfl,O.get 1,R.c,R.nO,rfl,.inl ⟨rfl,_,O.sq 6⟩,_,rfl,_,rfl,_,rfl,szl,fun t2 ht2=>?_⟩
  walk_at "nw"
  refine ⟨A.lo,_,_,rfl,rfl,O.get 7,aH (by omega),?_⟩
  generalize hE:upd _ _ _=Hn
  have O:=Ow.wQ O 7 rfl hE rfl
  clear hE
  obtain ⟨Hb,O,sb,e2⟩:=(show Ow T H0 Hn ((t2,.tup [.str "move",.int (k:Int),.str y,.int st])::(t1,.tup (vq (wst l st)))::(RX C A ex r S.day (us.set k (.ref t1)) S.ns (vs++[V.ref t2])++L)) from O).frz
  obtain ⟨Hc,O,sc,e1⟩:=O.frz
  have e2:=sc.keep _ _ e2 (fun _ z=>nomatch z)
  have sx:=sb.trans sc
  refine q.1 _ hst Hc _ sx ⟨us.set k (.ref t1),vs++[V.ref t2],O,?_,?_⟩
  ·rw [agV]
   exact (d0.mo sx).set (Den.lic (l:=wst l st) (SqT.of e1)) k
  ·rw [aga]
   exact (d1.mo sx).append (.cons (.tuple (SqT.of e2) (.cons (.str _) (.cons (.int _) (.cons (.str _) (.cons (.int _) .nil))))) .nil)
abbrev m9:Stmt:=inClass (top 47) 6
theorem sX:aG ["self","holder","start","most","back","stop","one"] ["self","holder","start","most","back"] (ao m9):=by walk_at "sc"
inductive Qu (K:PySem.W.Frag)(T:fJ)(C:Addr)(c:Ec)(vs:List V)(H:Hp)(Q:VK)(E:XK):Prop
 | mk (A:Rs)(ex:List (Str × V))(H0:Hp)(B:List (Addr × HO))(r:List Int)(S:RS)(x:Str)(st m b:Int)(bv:V)(_:vs=[.ref A.p,.str x,.int st,.int m,bv])(_:(bv=.non/\b=-1\/bv=.int b))(_:RA K T C A ex r H0 H B S)(_:RP r ex S)(_:Asc x)(_:After K T C c A ex r H0 H B S (.file x st m b) (.int (S.ls.length:Int)) Q E)
variable {Q:VK}
theorem aa8 {bv:V}{stop:Int}(hb:bv=.non/\stop=-1\/bv=.int stop)(hj:σ[j]?=some (some bv))(h:Q (.int stop) H):
  tIf (aa3 (tOp (fun x y H Q=>y=V.non/\Q (V.bl (decide (x=V.non))) H) (ach j) (tC V.non))) (tC (V.int (-1))) (ach j) σ H Q:=by
 refine ⟨bv,hj,rfl,_,rfl,?_⟩;rcases hb with ⟨rfl,rfl⟩ | rfl
 ·exact vP h
 ·exact yp ⟨_,hj,h⟩
variable {xH:Addr}{xZ:FuncData}(cZ:DmD K C "file" "Roll.file" m9 ["self","holder","start","most","back"] xH xZ)
include bU bx cR aX aL gV gH oZ cA jE cZ in
theorem Mr (B:Blt mg)(CM:Mth mg):
  ((CXE P w)|||3) xH xZ ["self","holder","start","most","back"] (Qu K T C c):=by
 obtain ⟨tM,hMOUTH⟩:=CM.MOUTH
 have R:=aL
 refine cZ.F.okX sX ?_ ?_
 walk_at "i"
 obtain ⟨A,ex,H0,L,r,S,x,st,m,b,bv,rfl,hb,⟨us,vs,O,d0,d1⟩,hp,ax,q⟩:=h
 have hul:us.length=S.ls.length:=by rw [d0.length,aeu]
 have hvl:vs.length=S.ds.length:=by rw [d1.length,aeu]
 have hnn:=hp.nn
 have hdl:=hp.dl
 have hr40:=hp.r40
 have hl60:=hp.l60
 have sA:=aJ.refl O.same.t1
 refine ⟨_,(aM (bx*>gV*>(pv 1>=>ak))<|>5<$>sX<$>(Mf (aR Wj (pv 4) yE (bf _)) (fP (v:=.int (-1)) rfl hMOUTH ⟨_,rfl⟩) (pv 4))<|>6<$>sX<$>(@fH _ _ _ _ _ (aV (pv 0) rfl>=>pv 2>=>pv 5>=>pv 3>=>ak))<|>@cM _ _ _ _ _ _ _ _ (PW.pt (pw_or (aR kj (pv 3) aA (bf _)) (pw_or1 (jq (iy (bU<*jE<*(aV (pv 0) rfl>=>pv 6>=>ak)))))))
   (~~~(dF fO rfl (fun _ _ z=>z) rfl cA.m cA.q (cO>=>ak)))
   bA<|>aM (cC (pv 0) aL.c aX.m gH hr.m aX.b .nil jX)<|>aM (kh agn ago agp bC (aV (pv 0) rfl) (@fH _ _ _ _ _ (cO>=>pv 1>=>pv 2>=>pv 3>=>pv 5>=>ak)>=>ak))<|>(~~~(@aP _ _ _ _ (cj (pv 0) aL.c cR.m oZ hr.m cR.b .nil jw (pv 6>=>pv 1>=>ak))))),?_⟩
 refine ⟨_,rfl,x,rfl,ax,O.same.t1,fun nx H1 s1=>?_,fun nx e H' s' he=>q.2 .holder (if_pos nx) e H' s' he⟩
 have hst:step r S (.file x st m b)=_:=if_neg (not_not_intro nx)
 have O:=O.dD s1
 refine aa8 hb rfl ?_
 refine ⟨_,rfl,A.p,C,A.dx,_,.int S.day,rfl,O.get 0,R.c,R.nD,rfl,_,rfl,_,rfl,_,rfl,szl,fun t1 ht1=>?_⟩
 generalize hE:upd _ _ _=Hn
 have s2:aJ T H Hn:=hE ▸ s1.upd (s1.free ht1) (.inl ht1)
 replace O:=Ow.mkE O ht1 hE rfl
 clear hE
 refine ⟨_,rfl,rfl,_,rfl,ifI (fun m0=>?_) (fun m0=>?_)⟩
 ·exact ⟨szl,fun e he=>q.2 .licence (hst.trans (if_pos (.inl m0))) e _ s2 he⟩
 refine ⟨_,rfl,A.p,C,A.dx,_,.ref A.lb,rfl,O.get 1,R.c,R.nB,rfl,_,rfl,A.lb,t1,r,⟨S.day,st,b,m⟩,rfl,O.sq 3,hp.rv,by omega,O.sqT 0,O.same.t1,fun bb H2 s3 hb2=>?_⟩
 have O:=O.dD s3
 cases bb with
 | false=>exact ⟨_,rfl,vP ⟨szl,fun e he=>q.2 .licence (hst.trans (if_pos (.inr fun z=>nomatch hb2.mpr z))) e _ (s2.trans s3) he⟩⟩
 | true =>
 refine ⟨_,rfl,yp ?_⟩
 have hl:=hb2.mp rfl
 have hst:=hst.trans (if_neg (show ¬ (m=0\/¬ rC r ⟨S.day,st,b,m⟩) from fun z=>z.elim m0 fun w=>w hl))
 refine ⟨_,rfl,A.p,A.dx,_,rfl,O.get 1,(by exact hp.ex.room),A,ex,S.day,us,rfl,O.get 1,O.sq 4,O.same.t1,fun h4=>?_,fun h4 e H' s' he=>q.2 .full (hst.trans (if_pos (by omega))) e H' ((s2.trans s3).trans s') he⟩
 have hst:=hst.trans (if_neg (by omega))
 refine ⟨_,rfl,A.p,C,A.dx,_,.ref A.lo,rfl,O.get 1,R.c,R.nO,rfl,.inl ⟨rfl,_,O.sq 6⟩,_,rfl,_,rfl,_,rfl,_,rfl,szl,fun t2 ht2=>?_⟩
 walk_at "nw"
 refine ⟨A.lo,_,_,rfl,rfl,O.get 7,aH (by omega),?_⟩
 generalize hE:upd _ _ _=Hn2
 replace O:=Ow.wQ O 7 rfl hE rfl
 clear hE
 refine ⟨_,rfl,A.p,A.dx,_,rfl,O.get 2,(by exact hp.ex.ent),_,rfl,_,rfl,A,ex,S.day,us,S.ns.map V.str,.ref t1,.str x,rfl,O.get 2,O.get 5,O.get 6,by omega,by rw [aeu];omega,O.ne 2 5,O.ne 2 6,O.ne 6 5,?_⟩
 have O:=(O.abm 5 rfl (o':=.lst (us++[.ref t1])) rfl).abm 6 rfl (o':=.lst (S.ns.map V.str++[.str x])) rfl
 rw [hul]
 obtain ⟨Hb,O,sb,e2⟩:=(show Ow T H0 _ ((t2,.tup [.str "file",.str x,.int st,.int m,.int b])::(t1,.tup (vq ⟨S.day,st,b,m⟩))::(RX C A ex r S.day (us++[.ref t1]) (S.ns++[x]) (vs++[V.ref t2])++L)) from by simp only [RX,aga,agH,ahT];exact O).frz
 obtain ⟨Hc,O,sc,e1⟩:=O.frz
 have e2:=sc.keep _ _ e2 (fun _ z=>nomatch z)
 have sx:=sb.trans sc
 refine q.1 _ hst Hc _ sx ⟨us++[V.ref t1],vs++[V.ref t2],O,?_,?_⟩
 ·rw [aga]
  exact (d0.mo sx).append (.cons (Den.lic (l:=⟨S.day,st,b,m⟩) (SqT.of e1)) .nil)
 ·rw [aga]
  exact (d1.mo sx).append (.cons (.tuple (SqT.of e2) (.cons (.str _) (.cons (.str _) (.cons (.int _) (.cons (.int _) (.cons (.int _) .nil)))))) .nil)
def Pa (ls:List Lic)(xs:List Int)(i:Nat):List Lic:=pZ (ls.take i) (xs.take i)++ls.drop i
def fall (ls:List Lic)(xs:List Int):Nat->List (Int × Int × Int)
 | 0=>[]
 | i+1=>fall ls xs i++(match ls[i]?,xs[i]? with| some l,some x=>if x<l.most then [((i:Int),l.most,x)] else [] | _,_=>[])
theorem GK (ls:List Lic)(xs:List Int):∀ i,(fall ls xs i).length<=i
 | 0=>agb _
 | i+1=>by
  have:=GK ls xs i;unfold fall;rw [agh];split
  ·split <;>simp <;>omega
  ·simp;omega
theorem Jd (ls:List Lic)(xs:List Int):Pa ls xs 0=ls:=by unfold Pa pZ;simp
variable {xs:List Int}
theorem Jf (h:ls.length=xs.length):Pa ls xs xs.length=pZ ls xs:=by unfold Pa;rw [<- h,ahe,h,ahe,<- h,List.drop_length,ahm]
theorem Kh {x:Int}(hl:ls[i]?=some l)(hx:xs[i]?=some x):(Pa ls xs i)[i]?=some l/\Pa ls xs (i+1)=(Pa ls xs i).set i (wm l (min l.most x)):=by
 have h1:=(af4.mp hl).1;have h2:=(af4.mp hx).1;have hn:(pZ (ls.take i) (xs.take i)).length=i:=by unfold pZ;rw [ahn,agt,agt];omega
 have hd:ls.drop i=l::ls.drop (i+1):=by
  rw [List.drop_eq_getElem_cons h1];rw [af9 h1] at hl;cases hl;rfl
 unfold Pa;constructor
 ·rw [ahf (by omega),hn,hd,ahL];rfl
 ·rw [List.set_append_right _ _ (by omega),hn,hd,ahL,Tn.dJ hl,Tn.dJ hx];unfold pZ;rw [List.zipWith_append (by rw [agt,agt];omega)];simp
theorem Je {x:Int}(hl:ls[i]?=some l)(hx:xs[i]?=some x)(h:¬ x<l.most):Pa ls xs (i+1)=Pa ls xs i:=by
 obtain ⟨h1,h2⟩:=Kh hl hx;rw [h2,show wm l (min l.most x)=l by unfold wm;rw [Int.min_eq_left (by omega)]];obtain ⟨hi,e⟩:=af4.mp h1;rw [<- e];exact List.set_getElem_self hi
abbrev jC:Stmt:=inClass (top 47) 12
theorem c7:aG ["self","numbers","fallen","number","amount","before"] ["self","numbers"] (ao jC):=by walk_at "sc"
inductive Lh (K:PySem.W.Frag)(T:fJ)(C:Addr)(c:Ec)(vs:List V)(H:Hp)(Q:VK)(E:XK):Prop
 | mk (A:Rs)(ex:List (Str × V))(H0:Hp)(B:List (Addr × HO))(r:List Int)(S:RS)(a:Addr)(xs:List Int)(_:vs=[.ref A.p,.ref a])(_:RA K T C A ex r H0 H B S)(_:RP r ex S)(_:xs.length<=1000)(_:(∀ (Hb H':Hp)(X:List (Addr × HO)),aJ T H0 Hb->Ow T Hb H' (X++B)->SqL K H' a (xs.map V.int)))(_:(∀ S',step r S (.lapse xs)=.ok S'->∀ (Hb H':Hp)(fl:Addr)(fs:List V),aJ T H0 Hb->RA K T C A ex r Hb H' ((fl,.lst fs)::B) S'->bY K Hb fs ((fall S.ls xs xs.length).map dMv)->Q (.ref fl) H'))(_:(∀ k,step r S (.lapse xs)=.error k->∀ (e:Addr)(H':Hp),aJ T H H'->H' e=none->E (.ref (c.at_ k)) (some e) H'))
variable (cW:yX K mg "NoNumber" c.number)
variable {oK:Addr}{oM:FuncData}(bJ:Dm K C "lapse" "Roll.lapse" jC ["self","numbers"] oK oM)
include bR gW bH fY bG gG eN cW bJ in
theorem Rg (B:Blt mg)(R:RC K C):
  ((CXE P w)|||2) oK oM ["self","numbers"] (Lh K T C c):=by
 refine bJ.F.okX c7 ?_ ?_
 walk_at "i"
 obtain ⟨A,ex,H0,L,r,S,a,xs,rfl,⟨us,vs,O,d0,d1⟩,hp,hx1,ha0,q,qx⟩:=h
 refine ⟨_,(@cM _ _ _ _ _ _ _ _ (aR Cr (aD aB rfl B.len agk (pv 1>=>ak)) (aD aB rfl B.len agk (aV (pv 0) rfl>=>ak)) (bf _))
   (~~~(dF fO rfl (fun _ _ z=>z) rfl cW.m cW.q (cO>=>ak)))
   bA<|>@cM _ _ _ _ _ _ _ _ (jq (iy (aD (rA rfl) rfl B.all ahj (fM (ao jC) rfl ["self","numbers","fallen","number","amount","before"] rfl ["amount"] [none] (by decide+kernel) (by decide+kernel) (by decide+kernel) rfl (cJ (pv 1)) (fun _ _ _=>(bB (i:=0) (show (["amount"]:List Str).Nodup by decide+kernel) rfl (Or.inl rfl))) (fun _ _ _=>eG) (fun _ _ _=>(bR<*gW<*(pv 0>=>ak)))>=>ak))))
   (~~~(dF fO rfl (fun _ _ z=>z) rfl eN.m eN.q (cO>=>ak)))
   bA<|>2<$>c7<$>(@dM _ _ _ _ ak)<|>f9 PassesOwn.leaving rfl (Gp rfl B.enumerate (pv 1>=>ak)) (iH rfl (aC (3>>c7) (aC (4>>c7) cg)))
   (5<$>c7<$>(bH<*fY<*(@aZ _ _ _ _ _ _ _ aU (aV (pv 0) rfl) (pv 3) (fun _ _=>rfl)>=>ak))<|>(~~~(@cM _ _ _ _ _ _ _ _ (aR Bh (pv 4) (pv 5) (bf _))
    (gQ (bG<*gG<*(@aZ _ _ _ _ _ _ _ aU (aV (pv 0) rfl) (pv 3) (fun _ _=>rfl)>=>pv 4>=>ak)) (pX (aV (pv 0) rfl) (pv 3) set_list)<|>(~~~(aM (kh agn ago agp bC (pv 2) (@fH _ _ _ _ _ (pv 3>=>pv 5>=>pv 4>=>ak)>=>ak)))))
    bA)))<|>aM (kh agn ago agp bC (aV (pv 0) rfl) (@fH _ _ _ _ _ (cO>=>bL yO rfl B.tuple PyProof.Rows.boot_tuple (pv 1>=>ak)>=>ak)>=>ak))<|>(~~~(@aP _ _ _ _ (pv 2)))),?_⟩
 have hul:us.length=S.ls.length:=by rw [d0.length,aeu]
 have hvl:vs.length=S.ds.length:=by rw [d1.length,aeu]
 have hdl:=hp.dl
 have hl60:=hp.l60
 have hxm:(xs.map V.int).length=xs.length:=aeu _
 have sA:=aJ.refl O.same.t1
 have t0:=O.same.t0
 have ha:∀ {Hb H':Hp}(X:List (Addr × HO)),aJ T H0 Hb->Ow T Hb H' (X++L)->SqL K H' a (xs.map V.int):=fun X s O=>ha0 _ _ X s O
 have ha1:SqL K H a (xs.map V.int):=ha _ (aJ.refl t0) O
 refine ⟨_,rfl,a,_,rfl,.inl ha1,_,rfl,A.p,C,A.dx,_,.ref A.ll,rfl,O.get 0,R.c,R.nL,rfl,A.ll,_,rfl,.inl (O.sq 3),rfl,_,rfl,ifN (ifI (fun hlen=>?_) fun hlen=>?_)⟩
 rotate_left
 ·refine ⟨szl,fun e he=>qx .number (if_pos (fun z=>hlen (by rw [hxm,hul,z]))) e H sA he⟩
 have hll:S.ls.length=xs.length:=by rw [hxm] at hlen;omega
 have hst:step r S (.lapse xs)=_:=if_neg (not_not_intro hll.symm)
 refine ⟨_,rfl,a,rfl,⟨_,ha1⟩,fun lw hlw=>?_⟩
 refine eH (K:=K) (xs:=xs.map V.int) (fun i τ H'=>Iv (∃ (v0:Option V)(bs:List Bool),τ=[v0]/\bs.length=i/\(bs.all id=true↔∀ x∈xs.take i,0<=x/\x<=1000000000000)/\Ow T H0 H' ((lw,.lst (bs.map V.bl))::(RX C A ex r S.day us S.ns vs++L))/\aJ T H H')) ⟨trivial,none,[],rfl,rfl,⟨(fun _ x hx=>nomatch hx),fun _=>rfl⟩,O.mk' hlw rfl,sA.upd hlw (.inl hlw)⟩ (fun i τ H' _ ⟨_,_,_,_,_,_,O,_⟩=>ha (_::RX C A ex r S.day us S.ns vs) (aJ.refl t0) O) ?_ ?_
 ·rintro i y τ H4 hy ⟨-,v0,bs,rfl,hbl,hb,O,sA⟩
  obtain ⟨z,hz,rfl⟩:=ints_get hy
  have hi:=(af4.mp hz).1
  refine JH ⟨_,rfl,z,rfl,fun b hbz=>?_⟩
  refine ⟨_,O.get 0,aH (by rw [aeu];omega),?_⟩
  have hnew:H lw=none:=hlw
  generalize hE:upd _ _ _=Hn
  have sA:aJ T H Hn:=hE ▸ sA.upd hnew (.inr ⟨_,O.get 0,rfl⟩)
  replace O:=Ow.wQ O 0 rfl hE rfl
  refine ⟨trivial,_,bs++[b],rfl,by rw [agh,hbl];rfl,?_,?_,sA⟩
  ·rw [Tn.dJ hz,List.all_append,agD,hb]
   constructor
   ·rintro ⟨z1,z2⟩ y hy
    rcases agw.mp hy with h| h
    ·exact z1 y h
    ·rw [agE.mp h];exact hbz.mp (by simpa using z2)
   ·intro w
    exact ⟨fun y hy=>w y (agT _ hy),by simpa using hbz.mpr (w z (agf _ (agE.mpr rfl)))⟩
  ·rw [aga];exact O
 clear O sA
 rintro τ H4 ⟨-,v0,bs,rfl,hbl,hb,O,sA⟩
 rw [hxm,ahe] at hb
 refine ⟨lw,_,rfl,O.sq 0,?_⟩
 cases hba:bs.all id with
 | false =>
  exact ⟨_,rfl,vP ⟨szl,fun e he=>qx .much (hst.trans (if_pos fun z=>by rw [hb.mpr z] at hba;cases hba)) e _ sA he⟩⟩
 | true =>
 have hxs:=hb.mp hba
 have hst:=hst.trans (if_neg (not_not_intro hxs))
 refine ⟨_,rfl,yp ?_⟩
 clear hb hba
 have O:=O.tail
 refine ⟨szl,fun fl hfl=>?_⟩
 walk_at "nw"
 refine ⟨_,rfl,a,_,rfl,ha (_::RX C A ex r S.day us S.ns vs) (aJ.refl t0) O,?_⟩
 refine M8 (K:=K) (xs:=xs.map V.int) (fun i σ H'=>Iv (∃ (Hb:Hp)(us' fs:List V)(v3 v4 v5:Option V),σ=[some (.ref A.p),some (.ref a),some (.ref fl),v3,v4,v5]/\Ow T Hb H' ((fl,.lst fs)::(RX C A ex r S.day us' S.ns vs++L))/\aJ T H0 Hb/\bY K Hb us' ((Pa S.ls xs i).map Dv)/\bY K Hb fs ((fall S.ls xs i).map dMv)))
  ⟨trivial,H0,us,[],none,none,none,rfl,O,aJ.refl t0,by rw [Jd];exact d0,.nil⟩ (fun i σ H' _ ⟨_,Hb,us',_,_,_,_,_,O,s,_⟩=>ha (_::RX C A ex r S.day us' S.ns vs) s O) ?_ ?_
 ·rintro i y T0 σ H5 hy ⟨-,Hb,us',fs,v3,v4,v5,rfl,O,s0,d0,d2⟩ hT0
  obtain ⟨x,hx,rfl⟩:=ints_get hy
  have hi:=(af4.mp hx).1
  obtain ⟨l,hl⟩:∃ l,S.ls[i]?=some l:=⟨_,af9 (by omega)⟩
  obtain ⟨e1,e2⟩:=Kh hl hx
  obtain ⟨al,hal,hT⟩:=d0.rO e1
  have hil:i<us'.length:=(af4.mp hal).1
  have hfl2:fs.length<=i:=by have:=GK S.ls xs i;rw [d2.length,aeu];exact this
  walk_at "nw"
  refine ⟨T0,_,rfl,O.sqT 0,rfl,_,_,rfl,_,_,rfl,rfl,?_⟩
  have O:=O.tail
  refine ⟨_,rfl,A.p,C,A.dx,_,.ref A.ll,rfl,O.get 1,R.c,R.nL,rfl,_,rfl,A.ll,_,_,_,rfl,rfl,O.sq 4,dU hal,al,_,rfl,hT.mo O.same,?_⟩
  refine ⟨_,rfl,_,rfl,_,_,rfl,rfl,_,rfl,?_⟩
  refine ifD (fun hlt=>?_) (fun hge=>?_)
  ·refine ⟨_,rfl,A.p,C,A.dx,_,.ref A.ll,rfl,O.get 1,R.c,R.nL,rfl,_,rfl,A.ll,_,_,_,rfl,rfl,O.sq 4,dU hal,_,rfl,al,l,x,rfl,hT.mo O.same,fun t ht=>?_⟩
   walk_at "nw"
   refine ⟨_,rfl,A.p,C,A.dx,_,.ref A.ll,rfl,O.get 2,R.c,R.nL,rfl,_,rfl,?_⟩
   refine uc O 5 rfl (gZ hil) fun H6 O=>?_
   have O:Ow T Hb H6 ((t,.tup (vq (wm l x)))::(fl,.lst fs)::(RX C A ex r S.day (us'.set i (.ref t)) S.ns vs++L)):=O
   refine ⟨_,rfl,.inl ⟨rfl,_,O.sq 1⟩,_,rfl,_,rfl,_,rfl,szl,fun t2 ht2=>?_⟩
   walk_at "nw"
   refine ⟨fl,_,_,rfl,rfl,O.get 2,aH (by omega),?_⟩
   walk_at "pt"
   have O:Ow T Hb _ ((t2,.tup [.int (i:Int),.int l.most,.int x])::(t,.tup (vq (wm l x)))::(fl,.lst (fs++[.ref t2]))::(RX C A ex r S.day (us'.set i (.ref t)) S.ns vs++L)):=O
   obtain ⟨Hn2,O,sn,en⟩:=O.frz
   obtain ⟨Hn3,O,sn3,en2⟩:=O.frz
   have en:=sn3.keep _ _ en (fun _ z=>nomatch z)
   have sn:=sn.trans sn3
   refine ⟨trivial,Hn3,us'.set i (.ref t),fs++[V.ref t2],_,_,_,rfl,O,s0.trans sn,?_,?_⟩
   ·rw [e2,show wm l (min l.most x)=wm l x by rw [Int.min_eq_right (by omega)],agV]
    exact (d0.mo sn).set (Den.lic (l:=wm l x) (SqT.of en2)) i
   ·unfold fall
    rw [hl,hx]
    simp only [if_pos hlt]
    rw [aga]
    exact (d2.mo sn).append (.cons (Den.tup (ns:=[(i:Int),l.most,x]) (SqT.of en)) .nil)
  ·refine ⟨trivial,Hb,us',fs,_,_,_,rfl,O,s0,by rw [Je hl hx hge];exact d0,?_⟩
   unfold fall
   rw [hl,hx]
   simp only [if_neg hge,ahm]
   exact d2
 clear O d0
 rintro σ H5 ⟨-,Hb,us',fs,v3,v4,v5,rfl,O,s0,d0,d2⟩
 rw [hxm,Jf hll] at d0
 rw [hxm] at d2
 refine ⟨_,rfl,A.p,C,A.dx,_,.ref A.lo,rfl,O.get 1,R.c,R.nO,rfl,.inl ⟨rfl,_,O.sq 6⟩,_,rfl,a,_,rfl,.inl ⟨ha (_::RX C A ex r S.day us' S.ns vs) s0 O,fun tt htt=>?_⟩⟩
 walk_at "nw"
 refine ⟨szl,fun t ht=>?_⟩
 walk_at "nw"
 refine ⟨A.lo,_,_,rfl,rfl,O.get 8,aH (by omega),?_⟩
 generalize hE:upd _ _ _=Hn
 have O:=Ow.wQ O 8 rfl hE rfl
 obtain ⟨Hc,O,sc,e1⟩:=(show Ow T Hb Hn ((t,.tup [.str "lapse",.ref tt])::(tt,.tup (xs.map V.int))::(fl,.lst fs)::(RX C A ex r S.day us' S.ns (vs++[V.ref t])++L)) from O).frz
 obtain ⟨Hd,O,sd,e2⟩:=O.frz
 have e1:=sd.keep _ _ e1 (fun _ z=>nomatch z)
 have sc:=sc.trans sd
 refine ⟨_,rfl,q _ hst Hd _ fl fs (s0.trans sc) ⟨us',vs++[V.ref t],O.mid,d0.mo sc,?_⟩ (d2.mo sc)⟩
 rw [aga]
 exact ((d1.mo s0).mo sc).append (.cons (Den.aea e1 (.str _) (.tuple (SqT.of e2) (bY.ints xs))) .nil)
inductive Hw (K:PySem.W.Frag)(T:fJ)(C:Addr)(c:Ec)(vs:List V)(H:Hp)(Q:VK)(E:XK):Prop
 | mk (A:Rs)(ex:List (Str × V))(H0:Hp)(B:List (Addr × HO))(r:List Int)(S:RS)(a:Addr)(xs:List Int)(_:vs=[.ref A.p,.ref a])(_:RA K T C A ex r H0 H B S)(_:RP r ex S)(_:xs.length<=1000)(_:SqT K H0 a (xs.map V.int))(_:(∀ S',step r S (.lapse xs)=.ok S'->∀ (Hb H':Hp)(fl:Addr)(fs:List V),aJ T H0 Hb->RA K T C A ex r Hb H' ((fl,.lst fs)::B) S'->bY K Hb fs ((fall S.ls xs xs.length).map dMv)->Q (.ref fl) H'))(_:(∀ k,step r S (.lapse xs)=.error k->∀ (e:Addr)(H':Hp),aJ T H H'->H' e=none->E (.ref (c.at_ k)) (some e) H'))
include bR gW bH fY bG gG eN cW bJ in
theorem Oj (B:Blt mg)(R:RC K C):
  ((CXE P w)|||2) oK oM ["self","numbers"] (Hw K T C c):=by
 refine bJ.F.okX c7 ?_ ?_
 walk_at "i"
 obtain ⟨A,ex,H0,L,r,S,a,xs,rfl,⟨us,vs,O,d0,d1⟩,hp,hx1,ha0,q,qx⟩:=h
 refine ⟨_,(@cM _ _ _ _ _ _ _ _ (aR Cr (aD aB rfl B.len agk (pv 1>=>ak)) (aD aB rfl B.len agk (aV (pv 0) rfl>=>ak)) (bf _))
   (~~~(dF fO rfl (fun _ _ z=>z) rfl cW.m cW.q (cO>=>ak)))
   bA<|>@cM _ _ _ _ _ _ _ _ (jq (iy (aD (rA rfl) rfl B.all ahj (fM (ao jC) rfl ["self","numbers","fallen","number","amount","before"] rfl ["amount"] [none] (by decide+kernel) (by decide+kernel) (by decide+kernel) rfl (acU (pv 1)) (fun _ _ _=>(bB (i:=0) (show (["amount"]:List Str).Nodup by decide+kernel) rfl (Or.inl rfl))) (fun _ _ _=>eG) (fun _ _ _=>(bR<*gW<*(pv 0>=>ak)))>=>ak))))
   (~~~(dF fO rfl (fun _ _ z=>z) rfl eN.m eN.q (cO>=>ak)))
   bA<|>2<$>c7<$>(@dM _ _ _ _ ak)<|>f9 PassesOwn.leaving rfl (Us rfl B.enumerate (pv 1>=>ak)) (iH rfl (aC (3>>c7) (aC (4>>c7) cg)))
   (5<$>c7<$>(bH<*fY<*(@aZ _ _ _ _ _ _ _ aU (aV (pv 0) rfl) (pv 3) (fun _ _=>rfl)>=>ak))<|>(~~~(@cM _ _ _ _ _ _ _ _ (aR Bh (pv 4) (pv 5) (bf _))
    (gQ (bG<*gG<*(@aZ _ _ _ _ _ _ _ aU (aV (pv 0) rfl) (pv 3) (fun _ _=>rfl)>=>pv 4>=>ak)) (pX (aV (pv 0) rfl) (pv 3) set_list)<|>(~~~(aM (kh agn ago agp bC (pv 2) (@fH _ _ _ _ _ (pv 3>=>pv 5>=>pv 4>=>ak)>=>ak)))))
    bA)))<|>aM (kh agn ago agp bC (aV (pv 0) rfl) (@fH _ _ _ _ _ (cO>=>bL yO rfl B.tuple PyProof.Rows.boot_tuple (pv 1>=>ak)>=>ak)>=>ak))<|>(~~~(@aP _ _ _ _ (pv 2)))),?_⟩
 have hul:us.length=S.ls.length:=by rw [d0.length,aeu]
 have hvl:vs.length=S.ds.length:=by rw [d1.length,aeu]
 have hdl:=hp.dl
 have hl60:=hp.l60
 have hxm:(xs.map V.int).length=xs.length:=aeu _
 have sA:=aJ.refl O.same.t1
 have t0:=O.same.t0
 have ha:∀ {Hb H':Hp}(X:List (Addr × HO)),aJ T H0 Hb->Ow T Hb H' (X++L)->SqT K H' a (xs.map V.int):=fun X s O=>(s.trans O.same).TF ha0
 have ha1:SqT K H a (xs.map V.int):=ha _ (aJ.refl t0) O
 refine ⟨_,rfl,a,_,rfl,.inr ha1,_,rfl,A.p,C,A.dx,_,.ref A.ll,rfl,O.get 0,R.c,R.nL,rfl,A.ll,_,rfl,.inl (O.sq 3),rfl,_,rfl,ifN (ifI (fun hlen=>?_) fun hlen=>?_)⟩
 rotate_left
 ·refine ⟨szl,fun e he=>qx .number (if_pos (fun z=>hlen (by rw [hxm,hul,z]))) e H sA he⟩
 have hll:S.ls.length=xs.length:=by rw [hxm] at hlen;omega
 have hst:step r S (.lapse xs)=_:=if_neg (not_not_intro hll.symm)
 refine ⟨_,rfl,a,rfl,⟨_,ha1⟩,fun lw hlw=>?_⟩
 refine Vx (K:=K) (xs:=xs.map V.int) (fun i τ H'=>Iv (∃ (v0:Option V)(bs:List Bool),τ=[v0]/\bs.length=i/\(bs.all id=true↔∀ x∈xs.take i,0<=x/\x<=1000000000000)/\Ow T H0 H' ((lw,.lst (bs.map V.bl))::(RX C A ex r S.day us S.ns vs++L))/\aJ T H H')) ⟨trivial,none,[],rfl,rfl,⟨(fun _ x hx=>nomatch hx),fun _=>rfl⟩,O.mk' hlw rfl,sA.upd hlw (.inl hlw)⟩ (fun i τ H' _ ⟨_,_,_,_,_,_,O,_⟩=>ha (_::RX C A ex r S.day us S.ns vs) (aJ.refl t0) O) ?_ ?_
 ·rintro i y τ H4 hy ⟨-,v0,bs,rfl,hbl,hb,O,sA⟩
  obtain ⟨z,hz,rfl⟩:=ints_get hy
  have hi:=(af4.mp hz).1
  refine JH ⟨_,rfl,z,rfl,fun b hbz=>?_⟩
  refine ⟨_,O.get 0,aH (by rw [aeu];omega),?_⟩
  have hnew:H lw=none:=hlw
  generalize hE:upd _ _ _=Hn
  have sA:aJ T H Hn:=hE ▸ sA.upd hnew (.inr ⟨_,O.get 0,rfl⟩)
  replace O:=Ow.wQ O 0 rfl hE rfl
  refine ⟨trivial,_,bs++[b],rfl,by rw [agh,hbl];rfl,?_,?_,sA⟩
  ·rw [Tn.dJ hz,List.all_append,agD,hb]
   constructor
   ·rintro ⟨z1,z2⟩ y hy
    rcases agw.mp hy with h| h
    ·exact z1 y h
    ·rw [agE.mp h];exact hbz.mp (by simpa using z2)
   ·intro w
    exact ⟨fun y hy=>w y (agT _ hy),by simpa using hbz.mpr (w z (agf _ (agE.mpr rfl)))⟩
  ·rw [aga];exact O
 clear O sA
 rintro τ H4 ⟨-,v0,bs,rfl,hbl,hb,O,sA⟩
 rw [hxm,ahe] at hb
 refine ⟨lw,_,rfl,O.sq 0,?_⟩
 cases hba:bs.all id with
 | false =>
  exact ⟨_,rfl,vP ⟨szl,fun e he=>qx .much (hst.trans (if_pos fun z=>by rw [hb.mpr z] at hba;cases hba)) e _ sA he⟩⟩
 | true =>
 have hxs:=hb.mp hba
 have hst:=hst.trans (if_neg (not_not_intro hxs))
 refine ⟨_,rfl,yp ?_⟩
 clear hb hba
 have O:=O.tail
 refine ⟨szl,fun fl hfl=>?_⟩
 walk_at "nw"
 refine ⟨_,rfl,a,_,rfl,ha (_::RX C A ex r S.day us S.ns vs) (aJ.refl t0) O,?_⟩
 refine R7 (K:=K) (xs:=xs.map V.int) (fun i σ H'=>Iv (∃ (Hb:Hp)(us' fs:List V)(v3 v4 v5:Option V),σ=[some (.ref A.p),some (.ref a),some (.ref fl),v3,v4,v5]/\Ow T Hb H' ((fl,.lst fs)::(RX C A ex r S.day us' S.ns vs++L))/\aJ T H0 Hb/\bY K Hb us' ((Pa S.ls xs i).map Dv)/\bY K Hb fs ((fall S.ls xs i).map dMv)))
  ⟨trivial,H0,us,[],none,none,none,rfl,O,aJ.refl t0,by rw [Jd];exact d0,.nil⟩ (fun i σ H' _ ⟨_,Hb,us',_,_,_,_,_,O,s,_⟩=>ha (_::RX C A ex r S.day us' S.ns vs) s O) ?_ ?_
 ·rintro i y T0 σ H5 hy ⟨-,Hb,us',fs,v3,v4,v5,rfl,O,s0,d0,d2⟩ hT0
  obtain ⟨x,hx,rfl⟩:=ints_get hy
  have hi:=(af4.mp hx).1
  obtain ⟨l,hl⟩:∃ l,S.ls[i]?=some l:=⟨_,af9 (by omega)⟩
  obtain ⟨e1,e2⟩:=Kh hl hx
  obtain ⟨al,hal,hT⟩:=d0.rO e1
  have hil:i<us'.length:=(af4.mp hal).1
  have hfl2:fs.length<=i:=by have:=GK S.ls xs i;rw [d2.length,aeu];exact this
  walk_at "nw"
  refine ⟨T0,_,rfl,O.sqT 0,rfl,_,_,rfl,_,_,rfl,rfl,?_⟩
  have O:=O.tail
  refine ⟨_,rfl,A.p,C,A.dx,_,.ref A.ll,rfl,O.get 1,R.c,R.nL,rfl,_,rfl,A.ll,_,_,_,rfl,rfl,O.sq 4,dU hal,al,_,rfl,hT.mo O.same,?_⟩
  refine ⟨_,rfl,_,rfl,_,_,rfl,rfl,_,rfl,?_⟩
  refine ifD (fun hlt=>?_) (fun hge=>?_)
  ·refine ⟨_,rfl,A.p,C,A.dx,_,.ref A.ll,rfl,O.get 1,R.c,R.nL,rfl,_,rfl,A.ll,_,_,_,rfl,rfl,O.sq 4,dU hal,_,rfl,al,l,x,rfl,hT.mo O.same,fun t ht=>?_⟩
   walk_at "nw"
   refine ⟨_,rfl,A.p,C,A.dx,_,.ref A.ll,rfl,O.get 2,R.c,R.nL,rfl,_,rfl,?_⟩
   refine uc O 5 rfl (gZ hil) fun H6 O=>?_
   have O:Ow T Hb H6 ((t,.tup (vq (wm l x)))::(fl,.lst fs)::(RX C A ex r S.day (us'.set i (.ref t)) S.ns vs++L)):=O
   refine ⟨_,rfl,.inl ⟨rfl,_,O.sq 1⟩,_,rfl,_,rfl,_,rfl,szl,fun t2 ht2=>?_⟩
   walk_at "nw"
   refine ⟨fl,_,_,rfl,rfl,O.get 2,aH (by omega),?_⟩
   walk_at "pt"
   have O:Ow T Hb _ ((t2,.tup [.int (i:Int),.int l.most,.int x])::(t,.tup (vq (wm l x)))::(fl,.lst (fs++[.ref t2]))::(RX C A ex r S.day (us'.set i (.ref t)) S.ns vs++L)):=O
   obtain ⟨Hn2,O,sn,en⟩:=O.frz
   obtain ⟨Hn3,O,sn3,en2⟩:=O.frz
   have en:=sn3.keep _ _ en (fun _ z=>nomatch z)
   have sn:=sn.trans sn3
   refine ⟨trivial,Hn3,us'.set i (.ref t),fs++[V.ref t2],_,_,_,rfl,O,s0.trans sn,?_,?_⟩
   ·rw [e2,show wm l (min l.most x)=wm l x by rw [Int.min_eq_right (by omega)],agV]
    exact (d0.mo sn).set (Den.lic (l:=wm l x) (SqT.of en2)) i
   ·unfold fall
    rw [hl,hx]
    simp only [if_pos hlt]
    rw [aga]
    exact (d2.mo sn).append (.cons (Den.tup (ns:=[(i:Int),l.most,x]) (SqT.of en)) .nil)
  ·refine ⟨trivial,Hb,us',fs,_,_,_,rfl,O,s0,by rw [Je hl hx hge];exact d0,?_⟩
   unfold fall
   rw [hl,hx]
   simp only [if_neg hge,ahm]
   exact d2
 clear O d0
 rintro σ H5 ⟨-,Hb,us',fs,v3,v4,v5,rfl,O,s0,d0,d2⟩
 rw [hxm,Jf hll] at d0
 rw [hxm] at d2
 refine ⟨_,rfl,A.p,C,A.dx,_,.ref A.lo,rfl,O.get 1,R.c,R.nO,rfl,.inl ⟨rfl,_,O.sq 6⟩,_,rfl,a,_,rfl,.inr ⟨ha (_::RX C A ex r S.day us' S.ns vs) s0 O,?_⟩⟩
 refine ⟨szl,fun t ht=>?_⟩
 walk_at "nw"
 refine ⟨A.lo,_,_,rfl,rfl,O.get 7,aH (by omega),?_⟩
 generalize hE:upd _ _ _=Hn
 have O:=Ow.wQ O 7 rfl hE rfl
 obtain ⟨Hc,O,sc,e1⟩:=(show Ow T Hb Hn ((t,.tup [.str "lapse",.ref a])::(fl,.lst fs)::(RX C A ex r S.day us' S.ns (vs++[V.ref t])++L)) from O).frz
 refine ⟨_,rfl,q _ hst Hc _ fl fs (s0.trans sc) ⟨us',vs++[V.ref t],O.mid,d0.mo sc,?_⟩ (d2.mo sc)⟩
 rw [aga]
 exact ((d1.mo s0).mo sc).append (.cons (Den.aea e1 (.str _) (.tuple ((s0.trans sc).TF ha0) (bY.ints xs))) .nil)
abbrev iG:Stmt:=inClass (top 47) 0
theorem Bd:aG ["self","below"] ["self","below"] (ao iG):=by walk_at "sc"
inductive JV (K:PySem.W.Frag)(T:fJ)(C:Addr)(c:Ec)(vs:List V)(H:Hp)(Q:VK)(E:XK):Prop
 | mk (p dx lv:Addr)(H0:Hp)(B:List (Addr × HO))(r:List Int)(_:vs=[.ref p,.ref lv])(_:Ow T H0 H ((p,.ins C dx [])::(dx,.own p)::B))(_:SqL K H lv (r.map V.int))(_:r.length<=900)(_:(Rv.isR r=true->∀ (A:Rs)(H':Hp),A.p=p->Ow T H0 H' (RX C A [] r 0 [] [] []++B)->Q .non H'))(_:(Rv.isR r=false->∀ (e:Addr)(H':Hp),aJ T H H'->H' e=none->E (.ref c.wN) (some e) H'))
variable (jr:yX K mg "NoRiver" c.wN)
variable (Fy:(CX0|||2) zM zU ["below"] (V8 K))
include jG jr Fy in
theorem Mq {C':Addr}(D:Dm K C' "__init__" "Roll.__init__" iG ["self","below"] f fd)(B:Blt mg)(R:RC K C):
  ((CXE P w)|||3) f fd ["self","below"] (JV K T C c):=by
 refine D.F.okX Bd ?_ ?_
 walk_at "i"
 obtain ⟨p,dx,lv,H0,L,r,rfl,O,hv,r9,q,qx⟩:=h
 refine ⟨_,(@cM _ _ _ _ _ _ _ _ (jq (iy (jG<*Fy<*(pv 1>=>ak))))
   (~~~(dF fO rfl (fun _ _ z=>z) rfl jr.m jr.q (cO>=>ak)))
   bA<|>oH (pv 0) (bL bh rfl B.list agy (pv 1>=>ak)) rfl<|>oH (pv 0) aA rfl<|>oH (pv 0) (@dM _ _ _ _ ak) rfl<|>oH (pv 0) (@dM _ _ _ _ ak) rfl<|>(~~~(oH (pv 0) (@dM _ _ _ _ ak) rfl))),?_⟩
 refine ⟨_,rfl,lv,r,rfl,hv,by omega,fun H1 s1=>?_⟩
 have s1:=aJ.of O.same.t1 s1
 cases hR:Rv.isR r with
 | false=>exact ⟨_,rfl,vP ⟨szl,fun e he=>qx hR e _ s1 he⟩⟩
 | true =>
 refine ⟨_,rfl,yp ?_⟩
 have hv:=s1.seq hv
 have O:=O.dD s1
 refine ⟨_,rfl,lv,_,rfl,.inl hv,fun lb hlb=>?_⟩
 walk_at "nw"
 refine ⟨_,rfl,p,C,dx,_,rfl,O.get 1,R.c,R.nB,(by show 0<1000;decide),?_⟩
 walk_at "pt"
 refine ⟨_,rfl,p,C,dx,_,rfl,O.get 1,R.c,R.nD,(by show 1<1000;decide),?_⟩
 walk_at "pt"
 refine ⟨szl,fun ll hll=>?_⟩
 walk_at "nw"
 refine ⟨_,rfl,p,C,dx,_,rfl,O.get 2,R.c,R.nL,(by show 2<1000;decide),?_⟩
 walk_at "pt"
 refine ⟨szl,fun ln hln=>?_⟩
 walk_at "nw"
 refine ⟨_,rfl,p,C,dx,_,rfl,O.get 3,R.c,R.nN,(by show 3<1000;decide),?_⟩
 walk_at "pt"
 refine ⟨szl,fun lo hlo=>?_⟩
 walk_at "nw"
 refine ⟨_,rfl,p,C,dx,_,rfl,O.get 4,R.c,R.nO,(by show 4<1000;decide),?_⟩
 walk_at "pt"
 have O:=((((O.pull 1 rfl).pull 2 rfl).pull 3 rfl).pull 5 rfl).pull 5 rfl
 exact q hR ⟨p,dx,lb,ll,ln,lo⟩ _ rfl O
def DAt (K:PySem.W.Frag)(H:Hp)(t:Addr):Ea->Prop
 | .turn=>SqT K H t [.str "turn"]
 | .file x s m b=>SqT K H t [.str "file",.str x,.int s,.int m,.int b]
 | .sell n y z=>SqT K H t [.str "sell",.int n,.str y,.str z]
 | .part n y m z=>SqT K H t [.str "part",.int n,.str y,.int m,.str z]
 | .drop n y=>SqT K H t [.str "drop",.int n,.str y]
 | .move n y s=>SqT K H t [.str "move",.int n,.str y,.int s]
 | .lapse xs=>∃ a,SqT K H t [.str "lapse",.ref a]/\SqT K H a (xs.map V.int)
variable {x:Str}
theorem _root_.L2.Den.str_inv (h:Den K H v (.str x)):v=.str x:=by cases h;rfl
theorem _root_.L2.bY.cons_inv {vs:List V}{d:PyData}{ds:List PyData}(h:bY K H vs (d::ds)):∃ v us,vs=v::us/\Den K H v d/\bY K H us ds:=by cases h with| cons a b=>exact ⟨_,_,rfl,a,b⟩
theorem _root_.L2.bY.nil_inv {vs:List V}(h:bY K H vs []):vs=[]:=by cases h;rfl
variable {d:Ea}
theorem Ss (h:Den K H v (Dw d)):∃ t,v=.ref t/\DAt K H t d:=by
 cases d with
 | turn =>
  obtain ⟨t,zs,rfl,hT,dz⟩:=Den.jm h;obtain ⟨v1,u1,rfl,e1,dn⟩:=dz.cons_inv;obtain rfl:=e1.str_inv;obtain rfl:=dn.nil_inv;exact ⟨t,rfl,hT⟩
 | file x s m b =>
  obtain ⟨t,zs,rfl,hT,dz⟩:=Den.jm h;obtain ⟨v1,u1,rfl,e1,dz⟩:=dz.cons_inv;obtain ⟨v2,u2,rfl,e2,dz⟩:=dz.cons_inv;obtain ⟨v3,u3,rfl,e3,dz⟩:=dz.cons_inv;obtain ⟨v4,u4,rfl,e4,dz⟩:=dz.cons_inv;obtain ⟨v5,u5,rfl,e5,dn⟩:=dz.cons_inv;obtain rfl:=e1.str_inv;obtain rfl:=e2.str_inv;obtain rfl:=e3.int_inv;obtain rfl:=e4.int_inv;obtain rfl:=e5.int_inv;obtain rfl:=dn.nil_inv;exact ⟨t,rfl,hT⟩
 | sell n y z =>
  obtain ⟨t,zs,rfl,hT,dz⟩:=Den.jm h;obtain ⟨v1,u1,rfl,e1,dz⟩:=dz.cons_inv;obtain ⟨v2,u2,rfl,e2,dz⟩:=dz.cons_inv;obtain ⟨v3,u3,rfl,e3,dz⟩:=dz.cons_inv;obtain ⟨v4,u4,rfl,e4,dn⟩:=dz.cons_inv;obtain rfl:=e1.str_inv;obtain rfl:=e2.int_inv;obtain rfl:=e3.str_inv;obtain rfl:=e4.str_inv;obtain rfl:=dn.nil_inv;exact ⟨t,rfl,hT⟩
 | part n y m z =>
  obtain ⟨t,zs,rfl,hT,dz⟩:=Den.jm h;obtain ⟨v1,u1,rfl,e1,dz⟩:=dz.cons_inv;obtain ⟨v2,u2,rfl,e2,dz⟩:=dz.cons_inv;obtain ⟨v3,u3,rfl,e3,dz⟩:=dz.cons_inv;obtain ⟨v4,u4,rfl,e4,dz⟩:=dz.cons_inv;obtain ⟨v5,u5,rfl,e5,dn⟩:=dz.cons_inv;obtain rfl:=e1.str_inv;obtain rfl:=e2.int_inv;obtain rfl:=e3.str_inv;obtain rfl:=e4.int_inv;obtain rfl:=e5.str_inv;obtain rfl:=dn.nil_inv;exact ⟨t,rfl,hT⟩
 | drop n y =>
  obtain ⟨t,zs,rfl,hT,dz⟩:=Den.jm h;obtain ⟨v1,u1,rfl,e1,dz⟩:=dz.cons_inv;obtain ⟨v2,u2,rfl,e2,dz⟩:=dz.cons_inv;obtain ⟨v3,u3,rfl,e3,dn⟩:=dz.cons_inv;obtain rfl:=e1.str_inv;obtain rfl:=e2.int_inv;obtain rfl:=e3.str_inv;obtain rfl:=dn.nil_inv;exact ⟨t,rfl,hT⟩
 | move n y s =>
  obtain ⟨t,zs,rfl,hT,dz⟩:=Den.jm h;obtain ⟨v1,u1,rfl,e1,dz⟩:=dz.cons_inv;obtain ⟨v2,u2,rfl,e2,dz⟩:=dz.cons_inv;obtain ⟨v3,u3,rfl,e3,dz⟩:=dz.cons_inv;obtain ⟨v4,u4,rfl,e4,dn⟩:=dz.cons_inv;obtain rfl:=e1.str_inv;obtain rfl:=e2.int_inv;obtain rfl:=e3.str_inv;obtain rfl:=e4.int_inv;obtain rfl:=dn.nil_inv;exact ⟨t,rfl,hT⟩
 | lapse xs =>
  obtain ⟨t,zs,rfl,hT,dz⟩:=Den.jm h;obtain ⟨v1,u1,rfl,e1,dz⟩:=dz.cons_inv;obtain ⟨v2,u2,rfl,e2,dn⟩:=dz.cons_inv;obtain rfl:=e1.str_inv;obtain rfl:=dn.nil_inv;obtain ⟨a,ys,rfl,hA,dy⟩:=e2.jm;obtain rfl:=dy.int_inv;exact ⟨t,rfl,a,hT,hA⟩
variable {H':Hp}
theorem DAt.mo {t:Addr}(h:DAt K H t d)(s:aJ T H H'):DAt K H' t d:=by
 cases d with
 | lapse xs=>obtain ⟨a,h1,h2⟩:=h;exact ⟨a,s.TF h1,s.TF h2⟩
 | _=>exact s.TF h
variable {A:Rs}{ex:List (Str × V)}{H0:Hp}{B:List (Addr × HO)}
theorem RA.drop {x:Addr × HO}(h:RA K T C A ex r H0 H (x::B) S):RA K T C A ex r H0 H B S:=by
 obtain ⟨us,vs,O,d0,d1⟩:=h;exact ⟨us,vs,O.sub (ag4 (ag1 _ _) _),d0,d1⟩
def wA:Ea->Prop
 | .file x _ _ _=>Asc x
 | .sell _ y z=>Asc y/\Asc z
 | .part _ y _ z=>Asc y/\Asc z
 | .drop _ y=>Asc y
 | .move _ y _=>Asc y
 | .lapse xs=>xs.length<=1000
 | .turn=>True
variable {S':RS}
theorem JR (h:step r S d=.ok S'):S'.ds=S.ds++[d]:=by
 cases d <;>simp only [step,RS.En] at h <;>(repeat' split at h)<;>first| (cases h;rfl) | cases h
theorem K7 (h:step r S d=.ok S')(hn:S.ns.length=S.ls.length)(hl:S.ls.length<=60):S'.ns.length=S'.ls.length/\S'.ls.length<=60/\S'.ls.length<=S.ls.length+1:=by
 cases d <;>simp only [step,RS.En] at h <;>(repeat' split at h)<;>first| (cases h;done) | (cases h;simp only [agh,agG,agx,agU,pZ,ahn] at*;omega)
theorem Qe (hp:RP r ex S)(hd:S.ds.length<9000)(h:step r S d=.ok S'):RP r ex S':=by
 obtain ⟨h1,h2,-⟩:=K7 h hp.nn hp.l60;exact ⟨hp.rv,hp.r40,h1,h2,by rw [JR h,agh];exact hd,hp.e9,hp.ex⟩
variable {y:Str}
theorem ifS {A B:Prop}(h1:x=y->A)(h2:¬ x=y->B):if decide (V.str x=V.str y)=true then A else B:=ifD (fun h=>h1 (V.str.inj h)) (fun h=>h2 fun z=>h (by rw [z]))
theorem Ej {A B:Prop}(h:(x ==y)=false)(b:B):if decide (V.str x=V.str y)=true then A else B:=ifS (fun z=>by rw [z,beq_self_eq_true] at h;cases h) fun _=>b
abbrev Cd:Stmt:=top 49
theorem Eu:aG ["roll","deed","kind"] ["roll","deed"] (ao Cd):=by walk_at "sc"
inductive QB (K:PySem.W.Frag)(T:fJ)(C:Addr)(c:Ec)(vs:List V)(H:Hp)(Q:VK)(E:XK):Prop
 | mk (A:Rs)(ex:List (Str × V))(H0:Hp)(B:List (Addr × HO))(r:List Int)(S:RS)(t:Addr)(d:Ea)(_:vs=[.ref A.p,.ref t])(_:RA K T C A ex r H0 H B S)(_:RP r ex S)(_:Den K H0 (.ref t) (Dw d))(_:wA d)(_:After K T C c A ex r H0 H B S d .non Q E)
theorem After.any {v':V}{Q':VK}{E:XK}(h:After K T C c A ex r H0 H B S d v Q E)(f:∀ H',Q v H'->Q' v' H'):After K T C c A ex r H0 H B S d v' Q' E:=
 ⟨fun S' e Hb H' s a=>f H' (h.1 S' e Hb H' s a),h.2⟩
variable (iR:(CX0|||1) xq xV ["self"] (JT K T C c))
variable (rG:((CXE P w)|||3) xH xZ ["self","holder","start","most","back"] (Qu K T C c))
variable (rD:((CXE P w)|||3) xr xW ["self","number","holder","to"] (Qh K T C c))
variable (rE:((CXE P w)|||3) xG xY ["self","number","holder","most","to"] (Qo K T C c))
variable (rH:((CXE P w)|||3) xJ yc ["self","number","holder"] (Qv K T C c))
variable (rF:((CXE P w)|||3) qM qX ["self","number","holder","start"] (Qp K T C c))
variable {Dk:Addr}{Du:FuncData}(oE:Df K mg "do_anew" Cd ["roll","deed"] Dk Du)
include bK aL fj eX eY cX cZ iR rG rD rE rH rF oE in
theorem abH {f7:Addr}{fd7:FuncData}(bJ:Dm K C "lapse" "Roll.lapse" jC ["self","numbers"] f7 fd7)(jF:((CXE P w)|||2) f7 fd7 ["self","numbers"] (Hw K T C c)):
  ((CXE P w)|||4) Dk Du ["roll","deed"] (QB K T C c):=by
 refine oE.F.okX Eu ?_ ?_
 walk_at "i"
 obtain ⟨A,ex,H0,L,r,S,t,d,rfl,ra,hp,dd,hok,q⟩:=h
 have hA:H A.p=some (Pb C A ex S.day):=by obtain ⟨us,vs,O,_⟩:=ra;exact O.get 0
 have sH:aJ T H0 H:=by obtain ⟨us,vs,O,_⟩:=ra;exact O.same
 obtain ⟨t',e,d0A⟩:=Ss dd
 cases e
 have dA:=d0A.mo sH
 refine ⟨_,(2<$>Eu<$>(@aZ _ _ _ _ _ _ _ fQ (pv 1) aA (fun _ _=>rfl))<|>(~~~(@cM _ _ _ _ _ _ _ _ (aR kj (pv 2) cO (bf _))
   (~~~(aM (cC (pv 0) aL.c bK.m iR hr.m bK.b .nil jw)))
   (~~~(@cM _ _ _ _ _ _ _ _ (aR kj (pv 2) cO (bf _))
    (~~~(aM (cj (pv 0) aL.c cZ.m rG hr.m cZ.b0 .nil jX (@aZ _ _ _ _ _ _ _ fQ (pv 1) aA (fun _ _=>rfl)>=>@aZ _ _ _ _ _ _ _ fQ (pv 1) aA (fun _ _=>rfl)>=>@aZ _ _ _ _ _ _ _ fQ (pv 1) aA (fun _ _=>rfl)>=>@aZ _ _ _ _ _ _ _ fQ (pv 1) aA (fun _ _=>rfl)>=>ak))))
    (~~~(@cM _ _ _ _ _ _ _ _ (aR kj (pv 2) cO (bf _))
     (~~~(aM (cj (pv 0) aL.c eX.m rD hr.m eX.b .nil jX (@aZ _ _ _ _ _ _ _ fQ (pv 1) aA (fun _ _=>rfl)>=>@aZ _ _ _ _ _ _ _ fQ (pv 1) aA (fun _ _=>rfl)>=>@aZ _ _ _ _ _ _ _ fQ (pv 1) aA (fun _ _=>rfl)>=>ak))))
     (~~~(@cM _ _ _ _ _ _ _ _ (aR kj (pv 2) cO (bf _))
      (~~~(aM (cj (pv 0) aL.c eY.m rE hr.m eY.b .nil jX (@aZ _ _ _ _ _ _ _ fQ (pv 1) aA (fun _ _=>rfl)>=>@aZ _ _ _ _ _ _ _ fQ (pv 1) aA (fun _ _=>rfl)>=>@aZ _ _ _ _ _ _ _ fQ (pv 1) aA (fun _ _=>rfl)>=>@aZ _ _ _ _ _ _ _ fQ (pv 1) aA (fun _ _=>rfl)>=>ak))))
      (~~~(@cM _ _ _ _ _ _ _ _ (aR kj (pv 2) cO (bf _))
       (~~~(aM (cj (pv 0) aL.c fj.m rH hr.m fj.b .nil jX (@aZ _ _ _ _ _ _ _ fQ (pv 1) aA (fun _ _=>rfl)>=>@aZ _ _ _ _ _ _ _ fQ (pv 1) aA (fun _ _=>rfl)>=>ak))))
       (~~~(@cM _ _ _ _ _ _ _ _ (aR kj (pv 2) cO (bf _))
        (~~~(aM (cj (pv 0) aL.c cX.m rF hr.m cX.b .nil jX (@aZ _ _ _ _ _ _ _ fQ (pv 1) aA (fun _ _=>rfl)>=>@aZ _ _ _ _ _ _ _ fQ (pv 1) aA (fun _ _=>rfl)>=>@aZ _ _ _ _ _ _ _ fQ (pv 1) aA (fun _ _=>rfl)>=>ak))))
        (~~~(aM (cj (pv 0) aL.c bJ.m jF hr.m bJ.b .nil jX (@aZ _ _ _ _ _ _ _ fQ (pv 1) aA (fun _ _=>rfl)>=>ak))))))))))))))))),?_⟩
 cases d with
 | turn =>
  refine ⟨_,rfl,t,_,0,_,rfl,rfl,dA,rfl,?_⟩
  refine ⟨_,rfl,rfl,_,rfl,vP ?_⟩
  exact ⟨_,rfl,A.p,A.dx,_,rfl,hA,(by exact hp.ex.tn),A,ex,H0,L,r,S,rfl,ra,hp,q.1,fun k e=>by simp only [step] at e;cases e⟩
 | file x st m b =>
  refine ⟨_,rfl,t,_,0,_,rfl,rfl,dA,rfl,?_⟩
  refine ⟨_,rfl,rfl,_,rfl,Ej rfl ?_⟩
  refine ⟨_,rfl,rfl,_,rfl,vP ?_⟩
  exact ⟨_,rfl,A.p,A.dx,_,rfl,hA,(by exact hp.ex.fi),_,rfl,t,_,1,_,rfl,rfl,dA,rfl,_,rfl,t,_,2,_,rfl,rfl,dA,rfl,_,rfl,t,_,3,_,rfl,rfl,dA,rfl,_,rfl,t,_,4,_,rfl,rfl,dA,rfl,A,ex,H0,L,r,S,x,st,m,b,_,rfl,.inr rfl,ra,hp,hok,q.any fun _ h=>h⟩
 | sell n y z =>
  refine ⟨_,rfl,t,_,0,_,rfl,rfl,dA,rfl,?_⟩
  refine ⟨_,rfl,rfl,_,rfl,Ej rfl ?_⟩
  refine ⟨_,rfl,rfl,_,rfl,Ej rfl ?_⟩
  refine ⟨_,rfl,rfl,_,rfl,vP ?_⟩
  exact ⟨_,rfl,A.p,A.dx,_,rfl,hA,(by exact hp.ex.se),_,rfl,t,_,1,_,rfl,rfl,dA,rfl,_,rfl,t,_,2,_,rfl,rfl,dA,rfl,_,rfl,t,_,3,_,rfl,rfl,dA,rfl,A,ex,H0,L,r,S,n,y,z,rfl,ra,hp,hok.2,q⟩
 | part n y m z =>
  refine ⟨_,rfl,t,_,0,_,rfl,rfl,dA,rfl,?_⟩
  refine ⟨_,rfl,rfl,_,rfl,Ej rfl ?_⟩
  refine ⟨_,rfl,rfl,_,rfl,Ej rfl ?_⟩
  refine ⟨_,rfl,rfl,_,rfl,Ej rfl ?_⟩
  refine ⟨_,rfl,rfl,_,rfl,vP ?_⟩
  exact ⟨_,rfl,A.p,A.dx,_,rfl,hA,(by exact hp.ex.pa),_,rfl,t,_,1,_,rfl,rfl,dA,rfl,_,rfl,t,_,2,_,rfl,rfl,dA,rfl,_,rfl,t,_,3,_,rfl,rfl,dA,rfl,_,rfl,t,_,4,_,rfl,rfl,dA,rfl,A,ex,H0,L,r,S,n,y,m,z,rfl,ra,hp,hok.2,q.any fun _ h=>h⟩
 | drop n y =>
  refine ⟨_,rfl,t,_,0,_,rfl,rfl,dA,rfl,?_⟩
  refine ⟨_,rfl,rfl,_,rfl,Ej rfl ?_⟩
  refine ⟨_,rfl,rfl,_,rfl,Ej rfl ?_⟩
  refine ⟨_,rfl,rfl,_,rfl,Ej rfl ?_⟩
  refine ⟨_,rfl,rfl,_,rfl,Ej rfl ?_⟩
  refine ⟨_,rfl,rfl,_,rfl,vP ?_⟩
  exact ⟨_,rfl,A.p,A.dx,_,rfl,hA,(by exact hp.ex.dr),_,rfl,t,_,1,_,rfl,rfl,dA,rfl,_,rfl,t,_,2,_,rfl,rfl,dA,rfl,A,ex,H0,L,r,S,n,y,rfl,ra,hp,q⟩
 | move n y st =>
  refine ⟨_,rfl,t,_,0,_,rfl,rfl,dA,rfl,?_⟩
  refine ⟨_,rfl,rfl,_,rfl,Ej rfl ?_⟩
  refine ⟨_,rfl,rfl,_,rfl,Ej rfl ?_⟩
  refine ⟨_,rfl,rfl,_,rfl,Ej rfl ?_⟩
  refine ⟨_,rfl,rfl,_,rfl,Ej rfl ?_⟩
  refine ⟨_,rfl,rfl,_,rfl,Ej rfl ?_⟩
  refine ⟨_,rfl,rfl,_,rfl,vP ?_⟩
  exact ⟨_,rfl,A.p,A.dx,_,rfl,hA,(by exact hp.ex.mv),_,rfl,t,_,1,_,rfl,rfl,dA,rfl,_,rfl,t,_,2,_,rfl,rfl,dA,rfl,_,rfl,t,_,3,_,rfl,rfl,dA,rfl,A,ex,H0,L,r,S,n,y,st,rfl,ra,hp,q⟩
 | lapse xs =>
  obtain ⟨a,hT0,hAx⟩:=d0A
  have hT:=sH.TF hT0
  refine ⟨_,rfl,t,_,0,_,rfl,rfl,hT,rfl,?_⟩
  refine ⟨_,rfl,rfl,_,rfl,Ej rfl ?_⟩
  refine ⟨_,rfl,rfl,_,rfl,Ej rfl ?_⟩
  refine ⟨_,rfl,rfl,_,rfl,Ej rfl ?_⟩
  refine ⟨_,rfl,rfl,_,rfl,Ej rfl ?_⟩
  refine ⟨_,rfl,rfl,_,rfl,Ej rfl ?_⟩
  refine ⟨_,rfl,rfl,_,rfl,Ej rfl ?_⟩
  exact ⟨_,rfl,A.p,A.dx,_,rfl,hA,(by exact hp.ex.lp),_,rfl,t,_,1,_,rfl,rfl,hT,rfl,A,ex,H0,L,r,S,a,xs,rfl,ra,hp,hok,hAx,fun S' e Hb H' fl fs s ra' _=>q.1 S' e Hb H' s ra'.drop,q.2⟩
noncomputable def replay (r:List Int):RS->List Ea->Except EK RS
 | S,[]=>.ok S
 | S,d::ds=>match step r S d with| .ok S'=>replay r S' ds| .error k=>.error k
theorem wO:∀ {S S':RS}{ds:List Ea}{d:Ea},replay r S ds=.ok S'->replay r S (ds++[d])=step r S' d
 | S,S',[],d,h=>by
  cases h;show (match step r S d with| .ok S'=>replay r S' [] | .error k=>.error k)=_;cases step r S d <;>rfl
 | S,S',e::ds,d,h=>by
  simp only [replay,List.cons_append] at h ⊢;cases hs:step r S e with
  | ok S1 =>
   rw [hs] at h;exact wO h
  | error k=>rw [hs] at h;cases h
theorem Ey {k:EK}:∀ {S S':RS}{ds es:List Ea},replay r S ds=.ok S'->replay r S' es=.error k->replay r S (ds++es)=.error k
 | S,S',[],es,h,h2=>by cases h;exact h2
 | S,S',e::ds,es,h,h2=>by
  simp only [replay,List.cons_append] at h ⊢;cases hs:step r S e with
  | ok S1=>rw [hs] at h;exact Ey h h2
  | error k=>rw [hs] at h;cases h
abbrev RS.new:RS:=⟨0,[],[],[]⟩
abbrev zy:Stmt:=top 50
theorem wC:aG ["below","deeds","roll","deed"] ["below","deeds"] (ao zy):=by walk_at "sc"
inductive Qk (K:PySem.W.Frag)(T:fJ)(C:Addr)(c:Ec)(vs:List V)(H:Hp)(Q:VK)(E:XK):Prop
 | mk (lv ld:Addr)(H0:Hp)(B:List (Addr × HO))(r:List Int)(ts:List V)(ds:List Ea)(_:vs=[.ref lv,.ref ld])(_:Ow T H0 H B)(_:SqL K H lv (r.map V.int))(_:r.length<=40)(_:(∀ (Hb H':Hp)(X:List (Addr × HO)),aJ T H0 Hb->Ow T Hb H' (X++B)->SqL K H' ld ts))(_:bY K H0 ts (ds.map Dw))(_:(∀ d∈ds,wA d))(_:ds.length<=1000)(_:(Rv.isR r=true->Rv.jK r))(_:(Rv.isR r=true->∀ S',replay r RS.new ds=.ok S'->∀ (A:Rs)(Hb H':Hp),aJ T H0 Hb->RA K T C A [] r Hb H' B S'->Q (.ref A.p) H'))(_:(Rv.isR r=true->∀ k,replay r RS.new ds=.error k->∀ (e:Addr)(Hb H':Hp),aJ T H0 Hb->Ow T Hb H' B->H' e=none->E (.ref (c.at_ k)) (some e) H'))(_:(Rv.isR r=false->∀ (e:Addr)(Hb H':Hp),aJ T H0 Hb->Ow T Hb H' B->H' e=none->E (.ref c.wN) (some e) H'))
variable {nC:Addr}{uY:FuncData}(bW:Dm K C "__init__" "Roll.__init__" iG ["self","below"] nC uY)
variable (j5:((CXE P w)|||3) nC uY ["self","below"] (JV K T C c))
variable (JC:((CXE P w)|||4) Dk Du ["roll","deed"] (QB K T C c))
variable {zJ:Addr}{zQ:FuncData}(jj:Df K mg "replayed" zy ["below","deeds"] zJ zQ)
include oE bW j5 JC jj in
theorem aby (aL:Cl K mg "Roll" C nC Uk):
  ((CXE P w)|||5) zJ zQ ["below","deeds"] (Qk K T C c):=by
 refine jj.F.okX wC ?_ ?_;walk_at "i";obtain ⟨lv,ld,H0,L,r,ts,ds,rfl,O,hv,r40,hL,dd,hok,hdl,hRr,q,qE,qR⟩:=h;have htl:ts.length=ds.length:=by rw [dd.length,aeu]
 refine ⟨_,(2<$>wC<$>(Q0 aL.k j5 hr.m rfl aL.m bW.b .nil jX (pv 0>=>ak))<|>f9 PassesOwn.leaving rfl (cJ (pv 1)) (3>>wC)
   (~~~(aM (oE*>JC*>(pv 2>=>pv 3>=>ak))))<|>(~~~(@aP _ _ _ _ (pv 2)))),?_⟩
 refine ⟨_,rfl,?_⟩;intro x dx nx ndx nex;have hx':(upd H dx (HO.own x)) x=none:=by rw [aN nex.symm];exact nx
 have O1:=(O.mk' ndx (o:=.own x) rfl).mk' (a:=x) (o:=.ins C dx []) hx' rfl;have s1:aJ T H (upd (upd H dx (.own x)) x (.ins C dx [])):=((aJ.refl O.same.t1).upd ndx (.inl ndx)).upd nx (.inl hx');refine ⟨x,dx,lv,H0,_,r,rfl,O1,s1.seq hv,by omega,fun hR A H5 eA O5=>⟨rfl,?_⟩,fun hR e H' s' he=>?_⟩;rotate_left
 ·exact qR hR e H0 H' (aJ.refl O.same.t0) ((O1.dD s').sub (List.Sublist.cons _ (ag1 _ _))) he
 subst eA;clear O1 nx ndx nex hx' s1;refine ⟨_,rfl,ld,rfl,⟨_,hL H0 _ _ (aJ.refl O.same.t0) O5⟩,?_⟩;refine iB (K:=K) (xs:=ts) (fun i σ H'=>Iv (∃ (v3:Option V)(Hb:Hp)(S:RS),σ=[some (.ref lv),some (.ref ld),some (.ref A.p),v3]/\aJ T H0 Hb/\RA K T C A [] r Hb H' L S/\RP r [] S/\S.ds.length=i/\replay r RS.new (ds.take i)=.ok S))
  ⟨trivial,none,H0,RS.new,rfl,aJ.refl O.same.t0,⟨[],[],O5,.nil,.nil⟩,⟨hRr hR,r40,rfl,by decide,by decide,by decide,ab9.nil⟩,rfl,rfl⟩ (fun i σ H' _ ⟨_,_,Hb,S,_,s,⟨us,vs,O,_,_⟩,_⟩=>hL Hb H' (RX C A [] r S.day us S.ns vs) s O) ?_ ?_
 ·clear O O5;rintro i y σ H6 hy ⟨-,v3,Hb,S,rfl,sb,ra,hp,hSi,hre⟩;have hi:=(af4.mp hy).1;obtain ⟨d,hd⟩:∃ d,ds[i]?=some d:=⟨_,af9 (by omega)⟩;obtain ⟨v,hv1,hv2⟩:=dd.get (i:=i) (d:=Dw d) (by rw [agg,hd];rfl);rw [hy] at hv1;cases hv1;obtain ⟨t,e,-⟩:=Ss hv2;subst e;have hsn:replay r RS.new (ds.take (i+1))=step r S d:=by rw [Tn.dJ hd];exact wO hre
  refine ⟨_,rfl,_,rfl,A,[],Hb,L,r,S,t,d,rfl,ra,hp,hv2.mo sb,hok d (agd hd),fun S' hs Hc H7 sc ra'=>?_,fun k hk e H7 s7 he=>?_⟩
  ·exact ⟨trivial,_,Hc,S',rfl,sb.trans sc,ra',Qe hp (by omega) hs,by rw [JR hs,agh,hSi];rfl,hsn.trans hs⟩
  ·obtain ⟨us,vs,O,_⟩:=ra;refine qE hR k ?_ e Hb H7 sb ((O.dD s7).sub (aht _ _)) he;have h1:ds=ds.take i++(d::ds.drop (i+1)):=by
    obtain ⟨h1,h2⟩:=af4.mp hd;rw [<- h2,<- List.drop_eq_getElem_cons h1,aho]
   rw [h1];refine Ey hre ?_;simp only [replay,hk]
 clear O O5;rintro σ H6 ⟨-,v3,Hb,S,rfl,sb,ra,hp,hSi,hre⟩;rw [htl,ahe] at hre;exact ⟨_,rfl,q hR S hre A Hb H6 sb ra⟩
theorem Sh.str (n:Nat)(h:Asc x):Sh n (.str x):=by
 refine ⟨?_,by simp [PyData.depth]⟩;rw [PyData.canLay0];show x.cps.all (·<0x110000)=true;rw [Array.all_eq_true];intro i hi;have:=of_decide_eq_true (Array.all_eq_true.mp h.1 i hi);exact decide_eq_true (by omega)
theorem Sh.strs (n:Nat){xs:List Str}(h:∀ x∈xs,Asc x):Sh (n+1) (.list (xs.map PyData.str)):=.list fun d hd=>by
 obtain ⟨i,hi,rfl⟩:=agF.mp hd;exact Sh.str n (h i hi)
theorem rB:∀ x∈(["turn","file","sell","part","drop","move","lapse"]:List Str),Asc x:=fun x hx=>by
 simp only [agu,agR,or_false] at hx;rcases hx with rfl| rfl| rfl| rfl| rfl| rfl| rfl <;>exact ⟨by decide+kernel,by decide+kernel⟩
theorem Sh.deed (h:wA d):Sh 2 (Dw d):=by
 cases d with
 | turn =>
  exact .tuple fun e he=>by
   simp only [agu,agR,or_false] at he;subst he;exact Sh.str _ (rB _ (by simp))
 | file x s m b =>
  exact .tuple fun e he=>by
   simp only [agu,agR,or_false] at he;rcases he with rfl| rfl| rfl| rfl| rfl
   ·exact Sh.str _ (rB _ (by simp))
   ·exact Sh.str _ h
   ·exact Sh.int _ _
   ·exact Sh.int _ _
   ·exact Sh.int _ _
 | sell n y z =>
  exact .tuple fun e he=>by
   simp only [agu,agR,or_false] at he;rcases he with rfl| rfl| rfl| rfl
   ·exact Sh.str _ (rB _ (by simp))
   ·exact Sh.int _ _
   ·exact Sh.str _ h.1
   ·exact Sh.str _ h.2
 | part n y m z =>
  exact .tuple fun e he=>by
   simp only [agu,agR,or_false] at he;rcases he with rfl| rfl| rfl| rfl| rfl
   ·exact Sh.str _ (rB _ (by simp))
   ·exact Sh.int _ _
   ·exact Sh.str _ h.1
   ·exact Sh.int _ _
   ·exact Sh.str _ h.2
 | drop n y =>
  exact .tuple fun e he=>by
   simp only [agu,agR,or_false] at he;rcases he with rfl| rfl| rfl
   ·exact Sh.str _ (rB _ (by simp))
   ·exact Sh.int _ _
   ·exact Sh.str _ h
 | move n y s =>
  exact .tuple fun e he=>by
   simp only [agu,agR,or_false] at he;rcases he with rfl| rfl| rfl| rfl
   ·exact Sh.str _ (rB _ (by simp))
   ·exact Sh.int _ _
   ·exact Sh.str _ h
   ·exact Sh.int _ _
 | lapse xs =>
  exact .tuple fun e he=>by
   simp only [agu,agR,or_false] at he;rcases he with rfl| rfl
   ·exact Sh.str _ (rB _ (by simp))
   ·exact .tuple fun e he=>by
     obtain ⟨i,_,rfl⟩:=agF.mp he;exact Sh.int _ _
theorem Sh.ad9 {ds:List Ea}(h:∀ d∈ds,wA d):Sh 3 (.list (ds.map Dw)):=.list fun e he=>by
 obtain ⟨d,hd,rfl⟩:=agF.mp he;exact Sh.deed (h d hd)
structure Bx where
 ld:Addr
 lk:Addr
 lr:Addr
 lg:Addr
 la:V
abbrev exB (Z:Bx):List (Str × V):=[("dug",.ref Z.ld),("keeps",.ref Z.lk),("ran",.ref Z.lr),("last",Z.la),("greatest",.ref Z.lg)]
abbrev BL (Z:Bx)(gs rs ks us:List V):List (Addr × HO):=[(Z.lg,.lst gs),(Z.lr,.lst rs),(Z.lk,.lst ks),(Z.ld,.lst us)]
theorem Sg (Z:Bx):ab9 (exB Z):=⟨rfl,rfl,rfl,rfl,rfl,rfl,rfl,rfl,rfl,rfl,rfl,rfl,rfl,rfl,rfl,rfl,rfl⟩
abbrev Ti:List Str:=["below","day","licences","names","done","dug","keeps","ran","last","greatest"]
structure BC (K:PySem.W.Frag)(C:Addr):Prop where
 c:Cls K C
 r:RC K C
 nD:j4 K C "dug"
 nK:j4 K C "keeps"
 nR:j4 K C "ran"
 nL:j4 K C "last"
 nG:j4 K C "greatest"
theorem ab2 (R:Cl K mg "Book" C f0 Ti):BC K C:=by
 have n:=R.n;simp only [Ti,agu,agR,or_false,forall_eq_or_imp,forall_eq] at n;obtain ⟨a1,a2,a3,a4,a5,a6,a7,a8,a9,a10⟩:=n;exact ⟨R.c,⟨R.c,a1,a2,a3,a4,a5⟩,a6,a7,a8,a9,a10⟩
theorem Ow.front (X R B:List (Addr × HO))(O:Ow T H0 H (X++(R++B))):Ow T H0 H (R++(X++B)):=O.perm (List.perm_append_comm_assoc _ _ _)
abbrev ni:Stmt:=inClass (top 81) 0
theorem Bg:aG ["self","below"] ["self","below"] (ao ni):=by walk_at "sc"
inductive Lw (K:PySem.W.Frag)(T:fJ)(C:Addr)(c:Ec)(vs:List V)(H:Hp)(Q:VK)(E:XK):Prop
 | mk (p dx lv:Addr)(H0:Hp)(B:List (Addr × HO))(r:List Int)(_:vs=[.ref p,.ref lv])(_:Ow T H0 H ((p,.ins C dx [])::(dx,.own p)::B))(_:SqL K H lv (r.map V.int))(_:r.length<=900)(_:(Rv.isR r=true->∀ (A:Rs)(Z:Bx)(H':Hp),A.p=p->Z.la=.non->Ow T H0 H' (RX C A (exB Z) r 0 [] [] []++(BL Z [] [] [] []++B))->Q .non H'))(_:(Rv.isR r=false->∀ (e:Addr)(H':Hp),aJ T H H'->H' e=none->E (.ref c.wN) (some e) H'))
variable (cV:BC K C)
variable {iK:Addr}{nQ:FuncData}(bQ:Dm K C "__init__" "Book.__init__" ni ["self","below"] iK nQ)
include cV bQ in
theorem U9 {fd1:FuncData}(Tv:mg "Roll"=some (.ref CR))(nU:ClF K CR f1 "__init__")(bW:Dm K CR "__init__" "Roll.__init__" iG ["self","below"] f1 fd1)(j5:((CXE P w)|||3) f1 fd1 ["self","below"] (JV K T C c)):
  ((CXE P w)|||4) iK nQ ["self","below"] (Lw K T C c):=by
 have R:=cV;refine bQ.F.okX Bg ?_ ?_;walk_at "i";obtain ⟨p,dx,lv,H0,L,r,rfl,O,hv,r9,q,qx⟩:=h;refine ⟨_,(aM (abt rfl Tv nU j5 hr.m bW.b .nil jX (pv 0>=>pv 1>=>ak))<|>oH (pv 0) (@dM _ _ _ _ ak) rfl<|>oH (pv 0) (@dM _ _ _ _ ak) rfl<|>oH (pv 0) (@dM _ _ _ _ ak) rfl<|>oH (pv 0) yE rfl<|>(~~~(oH (pv 0) (@dM _ _ _ _ ak) rfl))),?_⟩;refine ⟨_,rfl,_,rfl,p,dx,lv,H0,_,r,rfl,O,hv,r9,fun hR A H5 eA O5=>?_,fun hR e H' s he=>qx hR e H' s he⟩;clear O;subst eA;have O:=O5;clear O5;refine ⟨szl,fun ld hld=>?_⟩;walk_at "nw";refine ⟨_,rfl,A.p,C,A.dx,_,rfl,O.get 1,R.c,R.nD,(by show 5<1000;decide),?_⟩;walk_at "pt";refine ⟨szl,fun lk hlk=>?_⟩;walk_at "nw";refine ⟨_,rfl,A.p,C,A.dx,_,rfl,O.get 2,R.c,R.nK,(by show 6<1000;decide),?_⟩;walk_at "pt";refine ⟨szl,fun lr hlr=>?_⟩;walk_at "nw";refine ⟨_,rfl,A.p,C,A.dx,_,rfl,O.get 3,R.c,R.nR,(by show 7<1000;decide),?_⟩;walk_at "pt";refine ⟨_,rfl,A.p,C,A.dx,_,rfl,O.get 3,R.c,R.nL,(by show 8<1000;decide),?_⟩;walk_at "pt";refine ⟨szl,fun lg hlg=>?_⟩;walk_at "nw";refine ⟨_,rfl,A.p,C,A.dx,_,rfl,O.get 4,R.c,R.nG,(by show 9<1000;decide),?_⟩;walk_at "pt";exact q hR A ⟨ld,lk,lr,lg,.non⟩ _ rfl rfl (Ow.front [(lg,.lst []),(lr,.lst []),(lk,.lst []),(ld,.lst [])] (RX C A (exB ⟨ld,lk,lr,lg,.non⟩) r 0 [] [] []) L O)
abbrev tZ:Stmt:=inClass (top 81) 2
theorem Gk:aG ["self"] ["self"] (ao tZ):=by walk_at "sc"
theorem Rh (D:Dm K C "ponds" "Book.ponds" tZ ["self"] f fd)(B:Blt mg)(R:BC K C):(CX0|||1) f fd ["self"] (kI K C "dug"):=by
 refine D.F.ok Gk ?_ ?_;walk_at "i";obtain ⟨p,dx,l,fs,us,rfl,hp,hf,hl,q⟩:=h;refine ⟨_,(aK (aP (bL bh rfl B.list agy (aq (aV (pv 0) rfl) ak)))),?_⟩;exact ⟨_,rfl,p,C,dx,fs,.ref l,rfl,hp,R.c,R.nD,hf,l,us,rfl,.inl hl,q⟩
abbrev wM:Stmt:=inClass (top 81) 3
theorem Ie:aG ["self"] ["self"] (ao wM):=by walk_at "sc"
theorem U8 (D:Dm K C "kept" "Book.kept" wM ["self"] f fd)(B:Blt mg)(R:BC K C):(CX0|||1) f fd ["self"] (kI K C "keeps"):=by
 refine D.F.ok Ie ?_ ?_;walk_at "i";obtain ⟨p,dx,l,fs,us,rfl,hp,hf,hl,q⟩:=h;refine ⟨_,(aK (aP (bL bh rfl B.list agy (aq (aV (pv 0) rfl) ak)))),?_⟩;exact ⟨_,rfl,p,C,dx,fs,.ref l,rfl,hp,R.c,R.nK,hf,l,us,rfl,.inl hl,q⟩
abbrev tQ:Stmt:=top 37
theorem Gg:aG ["one"] ["one"] (ao tQ):=by walk_at "sc"
inductive acM (K:PySem.W.Frag)(vs:List V)(H:Hp)(Q:VK)(E:XK):Prop
 | mk (t:Addr)(l:Lic)(_:vs=[.ref t])(_:SqT K H t (vq l))(_:Q (.bl (!decide (l.back=-1))) H)
variable {uE:Addr}{uT:FuncData}(d8:Df K mg "gives_back" tQ ["one"] uE uT)
include d8 in
theorem afd (C:Mth mg):(CX0|||1) uE uT ["one"] (acM K):=by
 obtain ⟨tM,hMOUTH⟩:=C.MOUTH;refine d8.F.ok Gg ?_ ?_;walk_at "i";obtain ⟨t,l,rfl,hT,q⟩:=h;refine ⟨_,(~~~(@aP _ _ _ _ (qz Cr (@aZ _ _ _ _ _ _ _ fQ (pv 0) aA (fun _ _=>rfl)) (fP (v:=.int (-1)) rfl hMOUTH ⟨_,rfl⟩) (bf _)))),?_⟩;refine ⟨_,rfl,t,_,2,_,rfl,rfl,hT,rfl,rfl,?_⟩;rw [show decide (V.int l.back=V.int (-1))=decide (l.back=-1) from by simp];exact q
abbrev Pd:=Int × Int × Int
def aes (ps:List Pd)(n:Int):Bool:=(ps.map fun p=>decide (n=p.1)).any id
abbrev jV:Stmt:=inClass (top 81) 4
theorem Bf:aG ["self","number"] ["self","number"] (ao jV):=by walk_at "sc"
inductive V9 (K:PySem.W.Frag)(T:fJ)(C:Addr)(vs:List V)(H:Hp)(Q:VK)(E:XK):Prop
 | mk (A:Rs)(Z:Bx)(day n:Int)(us:List V)(ps:List Pd)(_:vs=[.ref A.p,.int n])(_:H A.p=some (Pb C A (exB Z) day))(_:SqL K H Z.ld us)(_:bY K H us (ps.map dMv))(_:ps.length<=900)(_:TabsOk T H)(_:∀ H',aJ T H H'->Q (.bl (aes ps n)) H')
variable {nF:Addr}{nP:FuncData}(bI:Dm K C "has_pond" "Book.has_pond" jV ["self","number"] nF nP)
include bI in
theorem adi (B:Blt mg)(R:BC K C):(CX0|||1) nF nP ["self","number"] (V9 K T C):=by
 refine bI.F.ok Bf ?_ ?_;walk_at "i";obtain ⟨A,Z,day,n,us,ps,rfl,hp,hL,d1,h9,tk,q⟩:=h;have hul:us.length=ps.length:=by rw [d1.length,aeu]
 have O:=Ow.refl tk;refine ⟨_,(~~~(@aP _ _ _ _ (aD (VD rfl) rfl B.any PyProof.Rows.boot_any (fM (ao jV) rfl ["self","number"] rfl ["other","room","leak","number"] [none,none,none,some 1] (by decide+kernel) (by decide+kernel) (by decide+kernel) rfl (cJ (aV (pv 0) rfl)) (fun _ _ _=>(qy (K:=K) (n:=3) rfl rfl (aC (bB (i:=0) (show (["other","room","leak","number"]:List Str).Nodup by decide+kernel) rfl (Or.inl rfl)) (aC (bB (i:=1) (show (["other","room","leak","number"]:List Str).Nodup by decide+kernel) rfl (Or.inl rfl)) (aC (bB (i:=2) (show (["other","room","leak","number"]:List Str).Nodup by decide+kernel) rfl (Or.inl rfl)) cg))))) (fun _ _ _=>eG) (fun _ _ _=>(qz kj (pv 3) (pv 0) (bf _)))>=>ak)))),?_⟩;refine ⟨_,rfl,A.p,C,A.dx,_,.ref Z.ld,rfl,hp,R.c,R.nD,rfl,Z.ld,rfl,⟨_,hL⟩,fun lw hlw=>?_⟩;refine eH (K:=K) (xs:=us) (fun i τ H'=>Iv (∃ (v0 v1 v2:Option V),τ=[v0,v1,v2,some (.int n)]/\Ow T H H' [(lw,.lst (((ps.take i).map fun p:Pd=>decide (n=p.1)).map V.bl))])) ⟨trivial,none,none,none,rfl,O.mk' hlw rfl⟩ (fun i τ H' _ ⟨_,_,_,_,_,O⟩=>O.same.seq hL) ?_ ?_
 ·clear O;rintro i y τ H3 hy ⟨-,v0,v1,v2,rfl,O⟩;obtain ⟨ap,p,rfl,hp',hT⟩:=d1.Mw hy;have hi:=(af4.mp hp').1;refine ⟨ap,_,rfl,hT.mo O.same,rfl,_,_,rfl,_,_,rfl,_,_,rfl,rfl,?_⟩;refine acf ?_;refine ⟨_,rfl,_,rfl,rfl,_,O.get 0,aH (by rw [aeu,aeu,agt];omega),?_⟩;walk_at "pt";refine ⟨trivial,_,_,_,rfl,?_⟩;rw [Tn.dJ hp',aga,aga];rw [show decide (V.int n=V.int p.1)=decide (n=p.1) from by simp] at O;exact O
 clear O;rintro τ H3 ⟨-,v0,v1,v2,rfl,O⟩;rw [hul,agq (agb _)] at O;exact ⟨lw,_,rfl,O.sq 0,q _ O.same⟩
inductive PK
 | number| yours| abn
def PK.at_ (c:Ec)(cP:Addr):PK->Addr
 | .number=>c.number| .yours=>c.yours| .abn=>cP
open Classical in
noncomputable def Gn (S:RS)(ps:List Pd)(n:Int)(y:Str)(room leak:Int):Option PK:=
 if ¬ (0<=n/\n<S.ls.length) then some .number else if S.ns[n.toNat]?≠some y then some .yours else
 if (S.at_ n).back≠-1\/aes ps n=true\/10<=ps.length\/¬ (0<=room/\room<=1000000000000/\0<=leak/\leak<=1000) then some .abn else none
abbrev qw:Stmt:=inClass (top 81) 1
theorem Ib:aG ["self","number","holder","room","leak"] ["self","number","holder","room","leak"] (ao qw):=by walk_at "sc"
inductive Qm (K:PySem.W.Frag)(T:fJ)(C:Addr)(c:Ec)(cP:Addr)(vs:List V)(H:Hp)(Q:VK)(E:XK):Prop
 | mk (A:Rs)(Z:Bx)(H0:Hp)(B:List (Addr × HO))(r:List Int)(S:RS)(gs rs ks us:List V)(ps:List Pd)(n:Int)(y:Str)(room leak:Int)(_:vs=[.ref A.p,.int n,.str y,.int room,.int leak])(_:RA K T C A (exB Z) r H0 H (BL Z gs rs ks us++B) S)(_:RP r (exB Z) S)(_:bY K H0 us (ps.map dMv))(_:ps.length<=900)(_:ks.length<=900)(_:(Gn S ps n y room leak=none->∀ (t:Addr)(Hb H':Hp),aJ T H0 Hb->RA K T C A (exB Z) r Hb H' (BL Z gs rs (ks++[.int 0]) (us++[.ref t])++B) S->bY K Hb (us++[.ref t]) ((ps++[(n,room,leak)]).map dMv)->Q (.int (ps.length:Int)) H'))(_:(∀ k,Gn S ps n y room leak=some k->∀ (e:Addr)(H':Hp),aJ T H H'->H' e=none->E (.ref (k.at_ c cP)) (some e) H'))
variable (oY:(CX0|||1) uE uT ["one"] (acM K))
variable (j6:(CX0|||1) nF nP ["self","number"] (V9 K T C))
variable {xK:Addr}{yd:FuncData}(jf:DmZ K C "pond" "Book.pond" qw ["self","number","holder","room","leak"] xK yd)
include bR gW aL au aQ cV d8 bI oY j6 jf in
theorem abz (B:Blt mg)(mQ:yX K mg "NoPond" cP)(CP:∃ t,mg "MOST_PONDS"=some (.int 10 t))(CW:∃ t,mg "WHOLE"=some (.int 1000 t)):
  ((CXE P w)|||3) xK yd ["self","number","holder","room","leak"] (Qm K T C c cP):=by
 obtain ⟨tP,Kp⟩:=CP
 obtain ⟨tW,hWHOLE⟩:=CW
 obtain ⟨tz,Fz,_⟩:=jf.F
 have R:=cV
 refine Fz.okX Ib (fun vs H Q E h=>?_) (fun cdv A outer s H vs Q E hr h=>?_)
 ·obtain ⟨_,_,_,_,_,_,_,_,_,_,_,_,_,_,_,rfl,_⟩:=h;rfl
 ·obtain ⟨A,Z,H0,L,r,S,gs,rs,ks,us,ps,n,y,room,leak,rfl,⟨ls,vs,O,d0,d1⟩,hp,dP,hpl,hkl,q,qE⟩:=h
  have hll:ls.length=S.ls.length:=by rw [d0.length,aeu]
  have hul:us.length=ps.length:=by rw [dP.length,aeu]
  have hnn:=hp.nn
  have h60:=hp.l60
  refine ⟨_,(aM (cj (pv 0) aL.c au.m aQ hr.m au.b .nil jX (pv 1>=>pv 2>=>ak))<|>@cM _ _ _ _ _ _ _ _ (PW.pt (pw_or (iy (d8<*oY<*(@aZ _ _ _ _ _ _ _ aU (aV (pv 0) rfl) (pv 1) (fun _ _=>rfl)>=>ak))) (pw_or1 (iy (cj (pv 0) cV.c bI.m j6 hr.m bI.b .nil jw (pv 1>=>ak))))))
    (~~~(dF fO rfl (fun _ _ z=>z) rfl mQ.m mQ.q (cO>=>ak)))
    bA<|>@cM _ _ _ _ _ _ _ _ (aR acZ (aD aB rfl B.len agk (aV (pv 0) rfl>=>ak)) (fP (v:=.int (10)) rfl Kp ⟨_,rfl⟩) (bf _))
    (~~~(dF fO rfl (fun _ _ z=>z) rfl mQ.m mQ.q (cO>=>ak)))
    bA<|>@cM _ _ _ _ _ _ _ _ (jq (PW.pt (pw_and (iy (bR<*gW<*(pv 3>=>ak))) (pw_and1 (vD yG yG aA (pv 4) (fP (v:=.int (1000)) rfl hWHOLE ⟨_,rfl⟩))))))
    (~~~(dF fO rfl (fun _ _ z=>z) rfl mQ.m mQ.q (cO>=>ak)))
    bA<|>aM (kh agn ago agp bC (aV (pv 0) rfl) (@fH _ _ _ _ _ (pv 1>=>pv 3>=>pv 4>=>ak)>=>ak))<|>aM (kh agn ago agp bC (aV (pv 0) rfl) (aA>=>ak))<|>(~~~(@aP _ _ _ _ (@bD _ _ _ _ _ _ _ _ yF (aD aB rfl B.len agk (aV (pv 0) rfl>=>ak)) aA)))),?_⟩
  refine ⟨_,rfl,A.p,A.dx,_,rfl,O.get 0,rfl,_,rfl,_,rfl,A,exB Z,S.day,ls,S.ns,n,y,rfl,O.get 0,O.sq 3,O.sq 4,by omega,Sg Z,O.same.t1,fun h0 h1 hy=>?_,fun h=>qE .number (by unfold Gn;rw [if_pos (fun z=>h (by omega))]),fun h0 h1 hy=>qE .yours (by unfold Gn;rw [if_neg (not_not_intro ⟨h0,by omega⟩),if_pos hy])⟩
  obtain ⟨j,rfl⟩:=agA h0
  obtain ⟨l,hl⟩:∃ l,S.ls[j]?=some l:=⟨_,af9 (by omega)⟩
  obtain ⟨al,hal,hT⟩:=d0.rO hl
  have hat:S.at_ (j:Int)=l:=Fb rfl hl
  have hE:Gn S ps (j:Int) y room leak=open Classical in if l.back≠-1\/aes ps (j:Int)=true\/10<=ps.length\/¬ (0<=room/\room<=1000000000000/\0<=leak/\leak<=1000) then some .abn else none:=by
   unfold Gn;rw [if_neg (not_not_intro ⟨h0,by omega⟩),if_neg (not_not_intro hy),hat]
  refine ⟨_,rfl,A.p,C,A.dx,_,.ref A.ll,rfl,O.get 0,aL.c,aL.nL,rfl,_,rfl,A.ll,_,_,_,rfl,rfl,O.sq 3,dU hal,al,l,rfl,hT.mo O.same,?_⟩
  have bad:∀ {H'},aJ T H H'->(l.back≠-1\/aes ps (j:Int)=true\/10<=ps.length\/¬ (0<=room/\room<=1000000000000/\0<=leak/\leak<=1000))->∀ e,H' e=none->E (.ref cP) (some e) H':=fun {H'} s h e he=>qE .abn (by rw [hE,if_pos h]) e H' s he
  have s0:aJ T H H:=aJ.refl O.same.t1
  refine ⟨_,rfl,ifN (ifD (fun hb=>?_) (fun hb=>⟨szl,fun e he=>bad s0 (.inl hb) e he⟩))⟩
  refine ⟨_,rfl,A.p,A.dx,_,rfl,O.get 0,rfl,_,rfl,A,Z,S.day,(j:Int),us,ps,rfl,O.get 0,O.sq 9,dP.mo O.same,hpl,O.same.t1,fun H1 s1=>?_⟩
  have O:=O.dD s1
  refine ⟨_,rfl,ifB (fun hh=>⟨szl,fun e he=>bad s1 (.inr (.inl hh)) e he⟩) (fun hh=>?_)⟩
  refine ⟨_,rfl,A.p,C,A.dx,_,.ref Z.ld,rfl,O.get 0,R.c,R.nD,rfl,Z.ld,_,rfl,.inl (O.sq 9),_,_,rfl,rfl,_,rfl,ifD (fun h10=>⟨szl,fun e he=>bad s1 (.inr (.inr (.inl (by have h10:(10:Int)<=(us.length:Int):=h10;omega)))) e he⟩) (fun h10=>?_)⟩
  have h10:¬ (10:Int)<=(us.length:Int):=h10
  refine ⟨_,rfl,room,rfl,fun bw hbw=>?_⟩
  refine ⟨_,rfl,ifB (fun hw=>?_) (fun hw=>?_)⟩
  rotate_left
  ·exact vP ⟨szl,fun e he=>bad s1 (.inr (.inr (.inr fun z=>by rw [hbw.mpr ⟨z.1,z.2.1⟩] at hw;cases hw))) e he⟩
  have hw:=hbw.mp hw
  refine ⟨_,rfl,_,_,rfl,rfl,_,rfl,ifD (fun l0=>?_) (fun l0=>?_)⟩
  rotate_left
  ·exact ⟨_,rfl,vP ⟨szl,fun e he=>bad s1 (.inr (.inr (.inr fun z=>l0 z.2.2.1))) e he⟩⟩
  refine ⟨_,_,rfl,rfl,_,rfl,ifN (ifD (fun l1=>?_) (fun l1=>⟨szl,fun e he=>bad s1 (.inr (.inr (.inr fun z=>l1 z.2.2.2))) e he⟩))⟩
  have hN:Gn S ps (j:Int) y room leak=none:=by
   rw [hE,if_neg]
   rintro (z| z| z| z)
   ·exact z hb
   ·rw [hh] at z;cases z
   ·omega
   ·exact z ⟨hw.1,hw.2,l0,l1⟩
  refine ⟨_,rfl,A.p,C,A.dx,_,.ref Z.ld,rfl,O.get 0,R.c,R.nD,rfl,.inl ⟨rfl,_,O.sq 9⟩,_,rfl,_,rfl,_,rfl,szl,fun t ht=>?_⟩
  walk_at "nw"
  refine ⟨Z.ld,_,_,rfl,rfl,O.get 10,aH (by omega),?_⟩
  generalize hE2:upd _ _ _=Hn
  have O:=Ow.wQ O 10 rfl hE2 rfl
  clear hE2
  refine ⟨_,rfl,A.p,C,A.dx,_,.ref Z.lk,rfl,O.get 1,R.c,R.nK,rfl,.inl ⟨rfl,_,O.sq 9⟩,Z.lk,_,_,rfl,rfl,O.get 9,aH (by omega),?_⟩
  generalize hE2:upd _ _ _=Hm
  have O:=Ow.wQ O 9 rfl hE2 rfl
  clear hE2
  refine ⟨_,rfl,A.p,C,A.dx,_,.ref Z.ld,rfl,O.get 1,R.c,R.nD,rfl,Z.ld,_,rfl,.inl (O.sq 10),_,_,rfl,rfl,?_⟩
  dsimp only
  rw [show (((us++[V.ref t]).length:Nat):Int) - 1=(ps.length:Int) by rw [agh,hul];simp]
  obtain ⟨Hb,O,sb,e1⟩:=(show Ow T H0 Hm ((t,_)::(RX C A (exB Z) r S.day ls S.ns vs++(BL Z gs rs (ks++[.int 0]) (us++[.ref t])++L))) from O).frz
  refine q hN t Hb Hm sb ⟨ls,vs,O,d0.mo sb,d1.mo sb⟩ ?_
  rw [aga]
  exact (dP.mo sb).append (.cons (Den.mv (m:=((j:Int),room,leak)) (SqT.of e1)) .nil)
abbrev mZ:Stmt:=top 73
theorem zq:aG ["roll","ponds","takes","lets","keepers","users"] ["roll","ponds","takes","lets"] (ao mZ):=by walk_at "sc"
inductive Lb (K:PySem.W.Frag)(T:fJ)(vs:List V)(H:Hp)(Q:VK)(E:XK):Prop
 | mk (b c d e:Addr)(xs:List Int)(rs us:List V)(ls:List Lic)(ps:List (Int × Int × Int))(_:vs=[.ref b,.ref c,.ref d,.ref e])(_:SqL K H b rs)(_:bY K H rs (ls.map Dv))(_:ls.length<=100)(_:SqL K H c us)(_:bY K H us (ps.map dMv))(_:ps.length<=1000)(_:SqL K H d (xs.map V.int))(_:xs.length=ls.length)(_:SqL K H e [])(_:TabsOk T H)(_:∀ (z:Int) H',aJ T H H'->Q (.int z) H')
variable {Dc:Addr}{Dn:FuncData}(nY:Df K mg "used_of" mZ ["roll","ponds","takes","lets"] Dc Dn)
include d8 oY nY in
theorem Uy (B:Blt mg)(C:Mth mg):(CX0|||2) Dc Dn ["roll","ponds","takes","lets"] (Lb K T):=by
 obtain ⟨tM,hMOUTH⟩:=C.MOUTH;refine nY.F.ok zq ?_ ?_;walk_at "i";obtain ⟨b,c,d,e,xs,rs,us,ls,ps,rfl,hB,d0,hl1,hC,d1,hp1,hD,hxl,hE,tk,q⟩:=h;have hrl:rs.length=ls.length:=by rw [d0.length,aeu]
 have hul:us.length=ps.length:=by rw [d1.length,aeu]
 refine ⟨_,(Il (i:=4) zq.nd rfl (Or.inr rfl) (fM (ao mZ) rfl ["roll","ponds","takes","lets","keepers","users"] rfl ["number","room","leak"] [none,none,none] (by decide+kernel) (by decide+kernel) (by decide+kernel) rfl (cJ (pv 1)) (fun _ _ _=>(qy (K:=K) (n:=3) rfl rfl (aC (bB (i:=0) (show (["number","room","leak"]:List Str).Nodup by decide+kernel) rfl (Or.inl rfl)) (aC (bB (i:=1) (show (["number","room","leak"]:List Str).Nodup by decide+kernel) rfl (Or.inl rfl)) (aC (bB (i:=2) (show (["number","room","leak"]:List Str).Nodup by decide+kernel) rfl (Or.inl rfl)) cg))))) (fun _ _ _=>eG) (fun _ _ _=>(pv 0)))<|>kO (i:=5) (ao mZ) rfl ["roll","ponds","takes","lets","keepers","users"] rfl ["number","one","keepers"] [none,none,some 4] (by decide+kernel) (by decide+kernel) (by decide+kernel) rfl zq.nd rfl rfl (Gp rfl B.enumerate (pv 0>=>ak)) (fun _ _ _=>(qy (K:=K) (n:=2) rfl rfl (aC (bB (i:=0) (show (["number","one","keepers"]:List Str).Nodup by decide+kernel) rfl (Or.inl rfl)) (aC (bB (i:=1) (show (["number","one","keepers"]:List Str).Nodup by decide+kernel) rfl (Or.inl rfl)) cg)))) (fun _ _ _=>(Cg (PW.pt (pw_and (jq (iy (d8<*oY<*(pv 1>=>ak)))) (pw_and1 (aR (Gs (K:=K) rfl) (pv 0) (pv 2) (by rfl))))))) (fun _ _ _=>(pv 0)) rfl<|>(~~~(@aP _ _ _ _ (@bD _ _ _ _ _ _ _ _ ud (aD (rm rfl) rfl B.sum ahk (fM (ao mZ) rfl ["roll","ponds","takes","lets","keepers","users"] rfl ["number","takes"] [none,some 2] (by decide+kernel) (by decide+kernel) (by decide+kernel) rfl (cJ (pv 5)) (fun _ _ _=>(bB (i:=0) (show (["number","takes"]:List Str).Nodup by decide+kernel) rfl (Or.inl rfl))) (fun _ _ _=>eG) (fun _ _ _=>(@aZ _ _ _ _ _ _ _ (ji (K:=K) rfl) (pv 1) (pv 0) (fun _ _=>rfl)))>=>ak)) (aD (rm rfl) rfl B.sum ahk (fM (ao mZ) rfl ["roll","ponds","takes","lets","keepers","users"] rfl ["place","reach","amount"] [none,none,none] (by decide+kernel) (by decide+kernel) (by decide+kernel) rfl (cJ (pv 3)) (fun _ _ _=>(qy (K:=K) (n:=3) rfl rfl (aC (bB (i:=0) (show (["place","reach","amount"]:List Str).Nodup by decide+kernel) rfl (Or.inl rfl)) (aC (bB (i:=1) (show (["place","reach","amount"]:List Str).Nodup by decide+kernel) rfl (Or.inl rfl)) (aC (bB (i:=2) (show (["place","reach","amount"]:List Str).Nodup by decide+kernel) rfl (Or.inl rfl)) cg))))) (fun _ _ _=>(Cg (aR Cr (pv 1) (fP (v:=.int (-1)) rfl hMOUTH ⟨_,rfl⟩) (bf _)))) (fun _ _ _=>(pv 2))>=>ak)))))),?_⟩;have O:=Ow.refl tk;refine ⟨_,rfl,c,rfl,⟨_,hC⟩,fun lk hlk=>?_⟩;refine eH (K:=K) (xs:=us) (fun i τ H'=>Iv (∃ (v0 v1 v2:Option V),τ=[v0,v1,v2]/\Ow T H H' [(lk,.lst (((ps.take i).map (·.1)).map V.int))]))
  ⟨trivial,none,none,none,rfl,O.mk' hlk rfl⟩ (fun _ _ _ _ ⟨_,_,_,_,_,O⟩=>O.same.seq hC) ?_ ?_
 ·rintro i y τ H3 hy ⟨-,v0,v1,v2,rfl,O⟩;obtain ⟨ap,p,rfl,hp,hT⟩:=d1.Mw hy;have hi:=(af4.mp hp).1;refine ⟨ap,_,rfl,hT.mo O.same,rfl,_,_,rfl,_,_,rfl,_,_,rfl,rfl,?_⟩;refine acf ?_;refine ⟨_,rfl,_,O.get 0,aH (by rw [aeu,aeu,agt];omega),?_⟩;walk_at "pt";refine ⟨trivial,_,_,_,rfl,?_⟩;rw [agX,hp,aga,aga];exact O
 rintro τ H3 ⟨-,v0,v1,v2,rfl,O⟩;refine ⟨_,rfl,b,_,rfl,O.same.seq hB,fun lu hlu=>?_⟩;generalize (((ps.take us.length).map (·.1)):List Int)=kl at O;refine Jk (K:=K) (xs:=rs) (fun i τ H'=>Iv (∃ (v0 v1:Option V)(gs:List Nat),τ=[v0,v1,some (.ref lk)]/\gs.length<=i/\(∀ k∈gs,k<ls.length)/\Ow T H H' [(lu,.lst ((Tn.asI gs).map V.int)),(lk,.lst (kl.map V.int))]))
  ⟨trivial,none,none,[],rfl,agb _,(fun k hk=>nomatch hk),O.mk' hlu rfl⟩ (fun _ _ _ _ ⟨_,_,_,_,_,_,_,O⟩=>O.same.seq hB) ?_ ?_
 ·rintro i y t' τ H4 hy ⟨-,v0,v1,gs,rfl,hgl,hg,O⟩ ht';obtain ⟨al,l,rfl,hl,hT⟩:=d0.CJ hy;have hi:=(af4.mp hl).1;walk_at "nw";refine ⟨t',_,rfl,O.sqT 0,rfl,_,_,rfl,_,_,rfl,rfl,?_⟩;have O:=O.tail;refine ⟨_,rfl,al,l,rfl,hT.mo O.same,_,rfl,ifN (ifN (ifD (fun hc=>?_) fun hc=>?_))⟩
  ·refine ⟨_,rfl,_,rfl,lk,_,rfl,.inl (O.sq 1),rfl,CZ _,_,rfl,?_⟩;rw [if_pos rfl,Kl];refine ifN (ifD (fun hm=>?_) fun hm=>?_)
   ·exact ⟨trivial,_,_,gs,rfl,by omega,hg,O⟩
   ·refine ⟨_,rfl,_,O.get 0,aH (by rw [aeu,Tn.oJ];omega),?_⟩;walk_at "pt";refine ⟨trivial,_,_,gs++[i],rfl,by rw [agh];simp only [agx,agU];omega,fun k hk=>?_,?_⟩
    ·rcases agw.mp hk with z| z
     ·exact hg k z
     ·rw [agE.mp z];exact hi
    ·unfold Tn.asI at O ⊢;rw [aga,aga];exact O
  ·exact yp ⟨trivial,_,_,gs,rfl,by omega,hg,O⟩
 rintro τ H4 ⟨-,v0,v1,gs,rfl,hgl,hg,O⟩;refine ⟨_,rfl,lu,rfl,⟨_,O.sq 0⟩,fun l1 hl1'=>?_⟩;refine eH (K:=K) (xs:=(Tn.asI gs).map V.int) (fun i τ H'=>Iv (∃ (v0:Option V),τ=[v0,some (.ref d)]/\Ow T H H' [(l1,.lst (((gs.take i).map fun j=>xs.getD j 0).map V.int)),(lu,.lst ((Tn.asI gs).map V.int)),(lk,.lst (kl.map V.int))]))
  ⟨trivial,none,rfl,O.mk' hl1' rfl⟩ (fun _ _ _ _ ⟨_,_,_,O⟩=>O.sq 1) ?_ ?_
 ·rintro i y τ H5 hy ⟨-,v0,rfl,O⟩;obtain ⟨z,hz,rfl⟩:=ints_get hy;obtain ⟨j,hj,rfl⟩:=Tn.lJ hz;have hjl:=hg j (agd hj);have hi:=(af4.mp hj).1;refine JH ?_;refine ⟨_,rfl,_,rfl,d,_,(j:Int),_,rfl,rfl,O.same.seq hD,cu (fU (ns:=xs) (k:=j) (by omega)),?_⟩;refine ⟨_,O.get 0,aH (by rw [aeu,aeu,agt];omega),?_⟩;walk_at "pt";refine ⟨trivial,_,rfl,?_⟩;rw [Tn.jh hj,aga];exact O
 rintro τ H5 ⟨-,v0,rfl,O⟩;refine ⟨l1,_,rfl,O.sq 0,?_⟩;refine ⟨_,rfl,e,rfl,⟨_,O.same.seq hE⟩,fun l2 hl2=>?_⟩;refine eH (K:=K) (xs:=[]) (fun i τ H'=>Iv (∃ (v0 v1 v2:Option V),τ=[v0,v1,v2]/\Ow T H H' [(l2,.lst (([]:List Int).map V.int))]))
  ⟨trivial,none,none,none,rfl,O.tail.tail.tail.mk' hl2 rfl⟩ (fun _ _ _ _ ⟨_,_,_,_,_,O⟩=>O.same.seq hE) ?_ ?_
 ·rintro i y τ H6 hy;cases hy
 rintro τ H6 ⟨-,v0,v1,v2,rfl,O⟩;exact ⟨l2,_,rfl,O.sq 0,_,_,rfl,rfl,q _ _ O.same⟩
theorem abK {z:Int}(h:z∈Rv.Rm r r.length):0<=z/\z<(r.length:Int):=by
 unfold Rv.Rm at h;obtain ⟨j,hj,rfl⟩:=agF.mp h;have:=agK.mp (List.mem_filter.mp hj).1;omega
abbrev Bl:Stmt:=top 74
theorem jP:aG ["below","springs","roll","ponds","kept","calls","lets","left","dealt_by","takes","after","lost","flows","out","sheet"] ["below","springs","roll","ponds","kept","calls","lets"] (ao Bl):=by walk_at "sc"
structure af8 (r s:List Int)(ls:List Lic)(ps:List (Int × Int × Int))(ks cs:List Int):Prop where
 riv:Rv.jK r
 r64:r.length<64
 sl:s.length=r.length
 l64:ls.length<64
 lok:∀ l∈ls,rR r l
 kl:ps.length=ks.length
 p1:ps.length<=1000
 pok:∀ p∈ps,0<=p.1/\p.1<(ls.length:Int)/\0<=p.2.2/\p.2.2<=1000
 cl:ls.length=cs.length
inductive Qy (K:PySem.W.Frag)(T:fJ)(vs:List V)(H:Hp)(Q:VK)(E:XK):Prop
 | mk (r s:List Int)(rs us:List V)(ls:List Lic)(ps:List (Int × Int × Int))(ks cs:List Int)(a b c d e g h:Addr)(_:vs=[.ref a,.ref b,.ref c,.ref d,.ref e,.ref g,.ref h])(_:SqL K H a (r.map V.int))(_:SqL K H b (s.map V.int))(_:SqL K H c rs)(_:bY K H rs (ls.map Dv))(_:SqL K H d us)(_:bY K H us (ps.map dMv))(_:SqL K H e (ks.map V.int))(_:SqL K H g (cs.map V.int))(_:SqL K H h [])(_:af8 r s ls ps ks cs)(_:TabsOk T H)(_:∀ (t lt la lf ts:Addr)(xs as fs sh:List Int)(Hb H':Hp),aJ T H Hb->Ow T Hb H' [(t,.tup [.ref lt,.ref la,.ref lf,.ref ts]),(ts,.tup (sh.map V.int)),(lf,.lst (fs.map V.int)),(la,.lst (as.map V.int)),(lt,.lst (xs.map V.int))]->xs.length=ls.length->as.length=ps.length->Q (.ref t) H')
variable (oX:(CX0|||3) uy uQ ["below","roll","ponds","kept","calls","lets"] (Qs K T))
variable (JD:(CX0|||7) Sd SM ["below","springs","roll","calls"] (Qx K T))
variable (JB:(CX0|||1) Dj Dt ["ponds","kept","takes"] (Wb K T))
variable (FJ:(CX0|||7) zN zV ["below","springs","moves"] (Lk K T))
variable (Fx:(CX0|||2) zK zR ["roll","ponds","takes","lets"] (V5 K T))
variable (DR:(CX0|||1) wW xO ["below"] (Hv K T))
variable (Jw:(CX0|||2) Dc Dn ["roll","ponds","takes","lets"] (Lb K T))
variable {GQ:Addr}{GZ:FuncData}(rJ:Df K mg "day_of" Bl ["below","springs","roll","ponds","kept","calls","lets"] GQ GZ)
include vo oA jA kZ dZ kY nY oX JD JB FJ Fx DR Jw rJ in
theorem abF (B:Blt mg):
  (CX0|||8) GQ GZ ["below","springs","roll","ponds","kept","calls","lets"] (Qy K T):=by
 refine rJ.F.ok jP ?_ ?_;walk_at "i";obtain ⟨r,s,rs,us,ls,ps,ks,cs,a,b,c,d,e,g,h,rfl,hA,hB,hC,d0,hD,d1,hE,hG,hH,ok,tk,q⟩:=h;have okl:=ok.l64;have hlc:=ok.cl;have hkl:=ok.kl;refine ⟨_,(gQ (dZ<*oX<*(pv 0>=>pv 2>=>pv 3>=>pv 4>=>pv 5>=>pv 6>=>ak)) (iH rfl (aC (7>>jP) (aC (8>>jP) cg)))<|>9<$>jP<$>(vo<*JD<*(pv 0>=>pv 1>=>pv 2>=>pv 8>=>ak))<|>gQ (oA<*JB<*(pv 3>=>pv 7>=>pv 9>=>ak)) (iH rfl (aC (10>>jP) (aC (11>>jP) cg)))<|>Il (i:=12) jP.nd rfl (Or.inr rfl) (kZ<*FJ<*(pv 0>=>pv 1>=>kY<*Fx<*(pv 2>=>pv 3>=>pv 9>=>pv 6>=>ak)>=>ak))<|>13<$>jP<$>(aD (rm rfl) rfl B.sum ahk (fM (ao Bl) rfl ["below","springs","roll","ponds","kept","calls","lets","left","dealt_by","takes","after","lost","flows","out","sheet"] rfl ["reach","flows"] [none,some 12] (by decide+kernel) (by decide+kernel) (by decide+kernel) rfl (cJ (jA<*DR<*(pv 0>=>ak))) (fun _ _ _=>(bB (i:=0) (show (["reach","flows"]:List Str).Nodup by decide+kernel) rfl (Or.inl rfl))) (fun _ _ _=>eG) (fun _ _ _=>(@aZ _ _ _ _ _ _ _ (ji (K:=K) rfl) (pv 1) (pv 0) (fun _ _=>rfl)))>=>ak))<|>14<$>jP<$>(@fH _ _ _ _ _ (aD (rm rfl) rfl B.sum ahk (pv 1>=>ak)>=>aD (rm rfl) rfl B.sum ahk (pv 4>=>ak)>=>nY<*Jw<*(pv 2>=>pv 3>=>pv 9>=>pv 6>=>ak)>=>aD (rm rfl) rfl B.sum ahk (pv 10>=>ak)>=>aD (rm rfl) rfl B.sum ahk (pv 11>=>ak)>=>pv 13>=>ak))<|>(~~~(@aP _ _ _ _ (@fH _ _ _ _ _ (pv 9>=>pv 10>=>pv 12>=>pv 14>=>ak))))),?_⟩;have O:=Ow.refl tk;refine ⟨_,rfl,_,rfl,_,rfl,_,rfl,_,rfl,_,rfl,.ref a,.ref c,d,e,g,h,us,ps,ks,cs,rfl,hD,d1,hE,hkl,hG,fun p hp=>⟨(ok.pok p hp).1,by have:=(ok.pok p hp).2.1;omega⟩,hH,tk,fun t0 la lb H1 OD=>?_⟩;have O:=O.join OD;clear OD;refine ⟨t0,_,rfl,O.sqT 0,rfl,_,_,rfl,_,_,rfl,rfl,?_⟩;have O:Ow T H H1 [(lb,.lst ((Ei cs ps ks ps.length).map V.int)),(la,.lst (ks.map V.int))]:=O.tail;have hsl:=yK cs ps ks ps.length;have r64:=ok.r64;have hp1:=ok.p1;refine ⟨_,rfl,_,rfl,_,rfl,_,rfl,a,b,lb,.ref c,r,s,ls,Ei cs ps ks ps.length,rfl,⟨O.same.seq hA,ok.riv,r64⟩,O.same.seq hB,ok.sl,.list (O.same.seq hC) (d0.mo O.same),okl,O.sq 0,by omega,ok.lok,O.same.t1,O.M6 fun lt H2 ys O e2=>?_⟩;obtain ⟨xs,rfl,hxl⟩:=e2;refine ⟨_,rfl,_,rfl,_,rfl,d,la,lt,us,ps,ks,xs,rfl,O.same.seq hD,d1.mo O.same,hp1,O.sq 2,hkl,O.sq 0,fun p hp=>⟨(ok.pok p hp).1,by have:=(ok.pok p hp).2.1;omega,(ok.pok p hp).2.2⟩,O.same.t1,fun t2 lf2 ll H3 OE=>?_⟩;have O:=O.join OE;clear OE;refine ⟨t2,_,rfl,O.sqT 0,rfl,_,_,rfl,_,_,rfl,rfl,?_⟩;obtain ⟨as,has,hasl⟩:∃ as:List Int,as=(List.range ps.length).map (fun i=>OJ ps ks xs i - Jb ps ks xs i)/\as.length=ps.length:=⟨_,rfl,by rw [aeu,ag0]⟩;obtain ⟨los,hlos⟩:∃ los:List Int,los=(List.range ps.length).map (Jb ps ks xs):=⟨_,rfl⟩;have O:Ow T H H3 [(ll,.lst (los.map V.int)),(lf2,.lst (as.map V.int)),(lt,.lst (xs.map V.int))]:=by rw [has,hlos];exact O.sub (.cons _ (.cons₂ _ (.cons₂ _ (.cons₂ _ (List.nil_sublist _)))))
 clear has hlos;refine ⟨_,rfl,_,rfl,_,rfl,_,rfl,_,rfl,_,rfl,c,lt,h,.ref d,xs,rs,ls,rfl,O.same.seq hC,d0.mo O.same,by omega,O.sq 2,hxl,O.same.seq hH,O.same.t1,fun lm Hm H4 vs sm OM dm=>?_⟩;have O:=O.dD (sm.trans OM.same);refine ⟨a,b,lm,r,s,acj ls xs,rfl,⟨O.same.seq hA,ok.riv,r64⟩,O.same.seq hB,ok.sl,.list (OM.sq 0) (dm.mo OM.same),fun m hm=>?_,O.same.t1,O.M6 fun lf H5 ys O e5=>?_⟩
 ·obtain ⟨p,hp,rfl⟩:=agF.mp hm;obtain ⟨h0,h1,h2⟩:=(ok.lok p.1 (List.of_mem_zip hp).1).1;exact ⟨h0,h1,h2⟩
 subst e5;have hfl:(Rv.aev r s (acj ls xs)).length=r.length:=(Rv.R8 r s (acj ls xs)).len;generalize Rv.aev r s (acj ls xs)=fl at O hfl;refine ⟨_,rfl,a,r,rfl,O.same.seq hA,r64,O.same.t1,O.M6 fun lq H6 ys O e6=>?_⟩;subst e6;refine ⟨lq,rfl,⟨_,O.sq 0⟩,fun lo hlo=>?_⟩;refine eH (K:=K) (xs:=(Rv.Rm r r.length).map V.int) (fun i τ H'=>Iv (∃ (v0:Option V)(os:List Int),τ=[v0,some (.ref lf)]/\os.length=i/\Ow T H H' [(lo,.lst (os.map V.int)),(lq,.lst ((Rv.Rm r r.length).map V.int)),(lf,.lst (fl.map V.int)),(ll,.lst (los.map V.int)),(lf2,.lst (as.map V.int)),(lt,.lst (xs.map V.int))]))
  ⟨trivial,none,[],rfl,rfl,O.mk' hlo rfl⟩ (fun _ _ _ _ ⟨_,_,_,_,_,O⟩=>O.sq 1) ?_ ?_
 ·clear O;rintro i y τ H7 hy ⟨-,v0,os,rfl,hol,O⟩;obtain ⟨z,hz,rfl⟩:=ints_get hy;have hzr:=abK (agd hz);have hi:=(af4.mp hz).1;have hml:=Rv.Mx r r.length;refine JH ?_;refine ⟨_,rfl,_,rfl,lf,_,_,_,rfl,rfl,O.sq 2,jt hzr.1 (by omega),?_⟩;refine ⟨_,O.get 0,aH (by rw [aeu];omega),?_⟩;walk_at "pt";exact ⟨trivial,_,os++[fl.getD z.toNat 0],rfl,by rw [agh,hol];rfl,by rw [aga];exact O⟩
 clear O;rintro τ H7 ⟨-,v0,os,rfl,hol,O⟩;refine ⟨lo,_,rfl,O.sq 0,?_⟩;have O:=O.tail.tail;refine ⟨_,rfl,b,_,rfl,O.same.seq hB,_,rfl,e,_,rfl,O.same.seq hE,?_⟩;refine ⟨_,rfl,_,rfl,_,rfl,_,rfl,c,d,lt,h,xs,rs,us,ls,ps,rfl,O.same.seq hC,d0.mo O.same,by omega,O.same.seq hD,d1.mo O.same,hp1,O.sq 3,hxl,O.same.seq hH,O.same.t1,fun uz H8 sm=>?_⟩;have O:=O.dD sm;refine ⟨_,rfl,lf2,_,rfl,O.sq 2,_,rfl,ll,_,rfl,O.sq 1,_,rfl,szl,fun lh hlh=>?_⟩;walk_at "nw";refine ⟨_,rfl,_,rfl,_,rfl,_,rfl,szl,fun t ht=>?_⟩;walk_at "nw";exact q t lt lf2 lf lh xs as fl [s.sum,ks.sum,uz,as.sum,los.sum,os.sum] H _ (aJ.refl tk) (O.del 3) hxl hasl
def grt (gs cs:List Int):List Int:=List.zipWith max cs (gs++List.replicate (cs.length - gs.length) 0)
theorem aeZ (n:Nat):(List.replicate n [V.int 0]).flatten=(List.replicate n (0:Int)).map V.int:=by
 induction n with
 | zero=>rfl
 | succ n ih=>rw [agZ,ahl,ih,agZ];rfl
theorem aaQ {ls:List Int}{c l:Int}(hc:cs[i]?=some c)(hl:ls[i]?=some l):List.zipWith max (cs.take (i+1)) (ls.take (i+1))=List.zipWith max (cs.take i) (ls.take i)++[max c l]:=by
 have h1:=(af4.mp hc).1;have h2:=(af4.mp hl).1;rw [Tn.dJ hc,Tn.dJ hl,List.zipWith_append (by rw [agt,agt];omega)];rfl
abbrev mH:Stmt:=top 80
theorem vW:aG ["before","calls","longer"] ["before","calls"] (ao mH):=by walk_at "sc"
inductive Wa (K:PySem.W.Frag)(T:fJ)(vs:List V)(H:Hp)(Q:VK)(E:XK):Prop
 | mk (a b:Addr)(gs cs:List Int)(_:vs=[.ref a,.ref b])(_:H a=some (.lst (gs.map V.int)))(_:SqL K H b (cs.map V.int))(_:gs.length<=cs.length)(_:cs.length<=900)(_:TabsOk T H)(_:zX T H (fun xs=>xs=(grt gs cs).map V.int) Q)
variable {qJ:Addr}{qT:FuncData}(gO:Df K mg "greatest_of" mH ["before","calls"] qJ qT)
include gO in
theorem adk (B:Blt mg):(CX0|||1) qJ qT ["before","calls"] (Wa K T):=by
 refine gO.F.ok vW ?_ ?_;walk_at "i";obtain ⟨a,b,gs,cs,rfl,hA,hB,hl,h9,tk,q⟩:=h;have hml:(((cs.map V.int).length:Nat):Int) - (((gs.map V.int).length:Nat):Int)=((cs.length - gs.length:Nat):Int):=by rw [aeu,aeu];omega
 refine ⟨_,(2<$>vW<$>(@bD _ _ _ _ _ _ _ _ Cu (pv 0) (@bD _ _ _ _ _ _ _ _ Cq (@dM _ _ _ _ (aA>=>ak)) (@bD _ _ _ _ _ _ _ _ yF (aD aB rfl B.len agk (pv 1>=>ak)) (aD aB rfl B.len agk (pv 0>=>ak)))))<|>(~~~(@aP _ _ _ _ (fM (ao mH) rfl ["before","calls","longer"] rfl ["call","other"] [none,none] (by decide+kernel) (by decide+kernel) (by decide+kernel) rfl (Cj rfl B.zip (pv 1>=>pv 2>=>ak)) (fun _ _ _=>(qy (K:=K) (n:=2) rfl rfl (aC (bB (i:=0) (show (["call","other"]:List Str).Nodup by decide+kernel) rfl (Or.inl rfl)) (aC (bB (i:=1) (show (["call","other"]:List Str).Nodup by decide+kernel) rfl (Or.inl rfl)) cg)))) (fun _ _ _=>eG) (fun _ _ _=>(aD (Jo rfl) rfl B.max PyProof.Rows.boot_max (pv 0>=>pv 1>=>ak))))))),?_⟩;have O:=Ow.refl tk;refine ⟨_,rfl,szl,fun l1 h1=>?_⟩;walk_at "nw";have hA':∀ {H'},aJ T H H'->SqL K H' a (gs.map V.int):=fun s=>s.seq (SqL.of hA);refine ⟨_,rfl,b,_,rfl,.inl (O.same.seq hB),_,rfl,a,_,rfl,.inl (hA' O.same),_,_,rfl,rfl,l1,_,_,rfl,rfl,O.get 0,by rw [hml];omega,by rw [hml];omega,jL (by rw [hml,agm];simp only [agx,agU];omega),fun l2 h2=>?_⟩;walk_at "nw";rw [hml,agm,aeZ] at O;have eA:=O.same.keep _ _ hA (fun _ z=>nomatch z);refine ⟨a,l2,_,_,rfl,rfl,eA,O.get 0,jL (by rw [aeu,aeu,agO];omega),fun l3 h3=>?_⟩;walk_at "nw";rw [<- aga] at O;have hll:(gs++List.replicate (cs.length - gs.length) 0).length=cs.length:=by rw [agh,agO];omega
 have eq:grt gs cs=List.zipWith max cs (gs++List.replicate (cs.length - gs.length) 0):=rfl;generalize gs++List.replicate (cs.length - gs.length) 0=lg at O hll eq;have O:=O.two.two;refine ⟨_,rfl,_,rfl,b,l3,_,_,rfl,O.same.seq hB,O.sq 0,fun acc hacc=>?_⟩;refine G3 (K:=K) (fun i τ H'=>Iv (∃ (v0 v1:Option V),τ=[v0,v1]/\Ow T H H' [(acc,.lst ((List.zipWith max (cs.take i) (lg.take i)).map V.int)),(l3,.lst (lg.map V.int))])) (by rw [aeu,aeu];omega)
  ⟨trivial,none,none,rfl,O.mk' hacc rfl⟩ (fun i τ H' _ ⟨_,_,_,_,O⟩=>⟨O.same.seq hB,O.sq 1⟩) ?_ ?_
 ·clear O;rintro i x y t τ H' hx hy ⟨-,v0,v1,rfl,O⟩ ht;obtain ⟨c,hc,rfl⟩:=ints_get hx;obtain ⟨l,hl',rfl⟩:=ints_get hy;have hi:=(af4.mp hc).1;walk_at "nw";refine ⟨t,_,rfl,O.sqT 0,rfl,_,_,rfl,_,_,rfl,rfl,?_⟩;refine acf ?_;refine ⟨_,rfl,_,rfl,_,_,rfl,?_⟩;refine ⟨_,O.get 1,aH (by rw [aeu,ahn,agt,agt];omega),?_⟩;walk_at "pt";refine ⟨trivial,_,_,rfl,?_⟩;rw [aaQ hc hl',aga];have e:(if l >c then l else c)=max c l:=by rw [Int.max_def];split <;>split <;>omega
  rw [<- e];exact O.tail
 clear O;rintro τ H' ⟨-,v0,v1,rfl,O⟩;rw [aeu,agq (agb _),agq (by omega),<- eq] at O;exact O.ret 0 rfl q rfl
abbrev fu:Stmt:=inClass (top 81) 6
theorem qd:aG ["self","amounts","count"] ["self","amounts","count"] (ao fu):=by walk_at "sc"
inductive V7 (K:PySem.W.Frag)(T:fJ)(cD:Addr)(vs:List V)(H:Hp)(Q:VK)(E:XK):Prop
 | mk (p:V)(a:Addr)(xs:List Int)(n:Int)(_:vs=[p,.ref a,.int n])(_:SqL K H a (xs.map V.int))(_:xs.length<=900)(_:TabsOk T H)(_:((xs.length:Int)=n/\(∀ x∈xs,0<=x/\x<=1000000000000)->∀ H',aJ T H H'->Q .non H'))(_:(¬ ((xs.length:Int)=n/\∀ x∈xs,0<=x/\x<=1000000000000)->∀ (e:Addr)(H':Hp),aJ T H H'->H' e=none->E (.ref cD) (some e) H'))
variable {ig:Addr}{iu:FuncData}(aW:Dm K C "look_at_amounts" "Book.look_at_amounts" fu ["self","amounts","count"] ig iu)
include bR gW aW in
theorem adf (B:Blt mg)(G7:yX K mg "NoDay" cD):((CXE P w)|||2) ig iu ["self","amounts","count"] (V7 K T cD):=by
 refine aW.F.okX qd ?_ ?_
 walk_at "i"
 obtain ⟨p,a,xs,n,rfl,hA,h9,tk,q,qE⟩:=h
 have O:=Ow.refl tk
 refine ⟨_,(~~~(@cM _ _ _ _ _ _ _ _ (PW.pt (pw_or (aR Cr (aD aB rfl B.len agk (pv 1>=>ak)) (pv 2) (bf _)) (pw_or1 (jq (iy (aD (rA rfl) rfl B.all ahj (fM (ao fu) rfl ["self","amounts","count"] rfl ["amount"] [none] (by decide+kernel) (by decide+kernel) (by decide+kernel) rfl (cJ (pv 1)) (fun _ _ _=>(bB (i:=0) (show (["amount"]:List Str).Nodup by decide+kernel) rfl (Or.inl rfl))) (fun _ _ _=>eG) (fun _ _ _=>(bR<*gW<*(pv 0>=>ak)))>=>ak)))))))
   (~~~(dF fO rfl (fun _ _ z=>z) rfl G7.m G7.q (cO>=>ak)))
   bA)),?_⟩
 refine ⟨_,rfl,a,_,rfl,.inl hA,_,rfl,rfl,_,rfl,ifN (ifI (fun hn=>?_) (fun hn=>⟨szl,fun e he=>qE (fun z=>hn (by rw [aeu];exact z.1)) e H (aJ.refl tk) he⟩))⟩
 rw [aeu] at hn
 refine ⟨_,rfl,a,rfl,⟨_,hA⟩,fun lw hlw=>?_⟩
 refine eH (K:=K) (xs:=xs.map V.int) (fun i τ H'=>Iv (∃ (v0:Option V)(bs:List Bool),τ=[v0]/\bs.length=i/\(bs.all id=true↔∀ x∈xs.take i,0<=x/\x<=1000000000000)/\Ow T H H' [(lw,.lst (bs.map V.bl))])) ⟨trivial,none,[],rfl,rfl,⟨(fun _ x hx=>nomatch hx),(fun _=>rfl)⟩,O.mk' hlw rfl⟩ (fun i τ H' _ ⟨_,_,_,_,_,_,O⟩=>O.same.seq hA) ?_ ?_
 ·clear O
  rintro i y τ H3 hy ⟨-,v0,bs,rfl,hbl,hb,O⟩
  obtain ⟨z,hz,rfl⟩:=ints_get hy
  have hi:=(af4.mp hz).1
  refine JH ?_
  refine ⟨_,rfl,z,rfl,fun bz hbz=>?_⟩
  refine ⟨_,O.get 0,aH (by rw [aeu];omega),?_⟩
  walk_at "pt"
  refine ⟨trivial,_,bs++[bz],rfl,by rw [agh,hbl];rfl,?_,by rw [aga];exact O⟩
  rw [Tn.dJ hz,List.all_append]
  simp only [List.all_cons,List.all_nil,Bool.and_true,agD,id_eq,agw,agE]
  rw [hb,hbz]
  constructor
  ·rintro ⟨h1,h2⟩ x (h| h)
   ·exact h1 x h
   ·rw [h];exact h2
  ·intro h
   exact ⟨fun x hx=>h x (.inl hx),h z (.inr rfl)⟩
 clear O
 rintro τ H3 ⟨-,v0,bs,rfl,hbl,hb,O⟩
 rw [aeu,agq (agb _)] at hb
 refine ⟨lw,bs,rfl,O.sq 0,_,rfl,?_⟩
 exact ifN (ifB (fun h=>q ⟨hn,hb.mp h⟩ H3 O.same) (fun h=>⟨szl,fun e he=>qE (fun z=>by rw [hb.mpr z.2] at h;cases h) e H3 O.same he⟩))
theorem SX (xs:List V)(k:Nat):Kw xs (some (k:Int)) none=xs.drop k:=by
 unfold Kw;rw [HT.Lz,HT.Ce];rcases Nat.le_total k xs.length with h| h
 ·rw [Nat.min_eq_left h,agq (by rw [ag9];exact agb _)]
 ·rw [Nat.min_eq_right h,List.drop_of_length_le h,List.drop_of_length_le (agb _),List.take_nil]
theorem bY.drop':∀ (m:Nat){vs:List V}{ds:List PyData},bY K H vs ds->bY K H (vs.drop m) (ds.drop m)
 | 0,_,_,h=>h
 | _+1,_,_,.nil=>.nil
 | m+1,_,_,.cons _ b=>bY.drop' m b
def Jl (S:RS)(gs:List Int):List Int:=gs++(S.ls.drop gs.length).map fun l:Lic=>l.most
def Bx.lg' (Z:Bx)(l:Addr):Bx:=⟨Z.ld,Z.lk,Z.lr,l,Z.la⟩
abbrev oG:Stmt:=inClass (top 81) 10
theorem qe:aG ["self","others","fallen"] ["self"] (ao oG):=by walk_at "sc"
inductive Lr (K:PySem.W.Frag)(T:fJ)(C:Addr)(vs:List V)(H:Hp)(Q:VK)(E:XK):Prop
 | mk (A:Rs)(Z:Bx)(H0:Hp)(B:List (Addr × HO))(r:List Int)(S S':RS)(gs:List Int)(rs ks us:List V)(_:vs=[.ref A.p])(_:RA K T C A (exB Z) r H0 H (BL Z (gs.map V.int) rs ks us++B) S)(_:RP r (exB Z) S)(_:gs.length<=S.ls.length)(_:step r S (.lapse (Jl S gs))=.ok S')(_:∀ (Hb H':Hp)(fl lg:Addr)(fs:List V),aJ T H0 Hb->RA K T C A (exB (Z.lg' lg)) r Hb H' (BL (Z.lg' lg) [] rs ks us++((fl,.lst fs)::B)) S'->bY K Hb fs ((fall S.ls (Jl S gs) (Jl S gs).length).map dMv)->Q (.ref fl) H')
variable (jF:((CXE P w)|||2) oK oM ["self","numbers"] (Lh K T C c))
variable {uJ:Addr}{uZ:FuncData}(gq:Dm K C "close" "Book.close" oG ["self"] uJ uZ)
include bH fY aL bJ cV jF gq in
theorem U5 (B:Blt mg):
  (CX0|||3) uJ uZ ["self"] (Lr K T C):=by
 have R:=cV;refine gq.F.ok qe ?_ ?_;walk_at "i";obtain ⟨A,Z,H0,L,r,S,S',gs,rs,ks,us,rfl,⟨ls,vs,O,d0,d1⟩,hp,hgl,hst,q⟩:=h;have hll:ls.length=S.ls.length:=by rw [d0.length,aeu]
 have h60:=hp.l60;refine ⟨_,(kO (i:=1) (ao oG) rfl ["self","others","fallen"] rfl ["one"] [none] (by decide+kernel) (by decide+kernel) (by decide+kernel) rfl qe.nd rfl rfl (cJ (Bo Gb (aV (pv 0) rfl) (Ci (aD aB rfl B.len agk (aV (pv 0) rfl>=>ak))) J4)) (fun _ _ _=>(bB (i:=0) (show (["one"]:List Str).Nodup by decide+kernel) rfl (Or.inl rfl))) (fun _ _ _=>eG) (fun _ _ _=>(bH<*fY<*(pv 0>=>ak))) rfl<|>2<$>qe<$>(cj (pv 0) aL.c bJ.m jF hr.m bJ.b .nil abu (@bD _ _ _ _ _ _ _ _ Cu (aV (pv 0) rfl) (pv 1)>=>ak))<|>oH (pv 0) (@dM _ _ _ _ ak) rfl<|>(~~~(@aP _ _ _ _ (pv 2)))),?_⟩;refine ⟨_,rfl,A.p,C,A.dx,_,.ref A.ll,rfl,O.get 0,aL.c,aL.nL,rfl,_,rfl,A.p,C,A.dx,_,.ref Z.lg,rfl,O.get 0,R.c,R.nG,rfl,Z.lg,_,rfl,.inl (O.sq 6),gs.length,by rw [aeu],A.ll,_,rfl,O.sq 3,fun l1 h1=>?_⟩;walk_at "nw";rw [SX] at O;have dd:bY K H0 (ls.drop gs.length) ((S.ls.drop gs.length).map Dv):=by rw [List.map_drop];exact bY.drop' _ d0
 have hdl:(ls.drop gs.length).length=(S.ls.drop gs.length).length:=by rw [ag9,ag9,hll]
 have hdl2:(S.ls.drop gs.length).length<=60:=by rw [ag9];omega
 generalize hdr:ls.drop gs.length=dv at O dd hdl;refine ⟨l1,rfl,⟨_,O.sq 0⟩,fun lw hlw=>?_⟩;refine eH (K:=K) (xs:=dv) (fun i τ H'=>Iv (∃ (v0:Option V),τ=[v0]/\Ow T H0 H' ((lw,.lst ((((S.ls.drop gs.length).take i).map fun l:Lic=>l.most).map V.int))::(l1,.lst dv)::(RX C A (exB Z) r S.day ls S.ns vs++(BL Z (gs.map V.int) rs ks us++L))))) ⟨trivial,none,rfl,O.mk' hlw rfl⟩ (fun i τ H' _ ⟨_,_,_,O⟩=>O.sq 1) ?_ ?_
 ·clear O;rintro i y τ H3 hy ⟨-,v0,rfl,O⟩;obtain ⟨al,l,rfl,hl,hT⟩:=dd.CJ hy;have hi:=(af4.mp hl).1;refine JH ?_;refine ⟨_,rfl,al,l,rfl,hT.mo O.same,?_⟩;refine ⟨_,O.get 0,aH (by rw [aeu,aeu,agt];omega),?_⟩;walk_at "pt";refine ⟨trivial,_,rfl,?_⟩;rw [Tn.dJ hl,aga,aga];exact O
 clear O;rintro τ H3 ⟨-,v0,rfl,O⟩;rw [hdl,agq (agb _)] at O;have O:=O.two;refine ⟨_,rfl,A.p,A.dx,_,rfl,O.get 1,(by exact hp.ex.lp),_,rfl,A.p,C,A.dx,_,.ref Z.lg,rfl,O.get 1,R.c,R.nG,rfl,_,rfl,Z.lg,lw,_,_,rfl,rfl,O.get 7,O.get 0,jL (by rw [aeu,aeu,aeu];omega),fun lx hlx=>?_⟩;walk_at "nw";rw [<- aga] at O;have O:Ow T H0 _ ((lx,.lst ((Jl S gs).map V.int))::(RX C A (exB Z) r S.day ls S.ns vs++(BL Z (gs.map V.int) rs ks us++L))):=O.two;have O:=Ow.front [(lx,.lst ((Jl S gs).map V.int))] (RX C A (exB Z) r S.day ls S.ns vs) (BL Z (gs.map V.int) rs ks us++L) O;have hcl:(Jl S gs).length<=1000:=by unfold Jl;rw [agh,aeu,ag9];omega
 refine ⟨A,exB Z,H0,_,r,S,lx,Jl S gs,rfl,⟨ls,vs,O,d0,d1⟩,hp,hcl,(fun Hb H' X s O=>SqL.of (O.at_ _ (agf _ (.head _)))),fun S2 e Hb H4 fl fs sb ra df=>?_,fun k e=>by rw [hst] at e;cases e⟩;rw [hst] at e;cases e;clear O;obtain ⟨ls2,vs2,O,e0,e1⟩:=ra;refine ⟨szl,fun lg hlg=>?_⟩;walk_at "nw";refine ⟨_,rfl,A.p,C,A.dx,_,rfl,O.get 1,R.c,R.nG,(by show 10<1000;decide),?_⟩;walk_at "pt";have O:Ow T Hb _ ((lg,.lst [])::(RX C A (exB (Z.lg' lg)) r S'.day ls2 S'.ns vs2++((fl,.lst fs)::(lx,.lst ((Jl S gs).map V.int))::(Z.lg,.lst (gs.map V.int))::(Z.lr,.lst rs)::(Z.lk,.lst ks)::(Z.ld,.lst us)::L))):=O;have O:Ow T Hb _ ([(lg,.lst [])]++(RX C A (exB (Z.lg' lg)) r S'.day ls2 S'.ns vs2++((fl,.lst fs)::(Z.lr,.lst rs)::(Z.lk,.lst ks)::(Z.ld,.lst us)::L))):=O.sub (.cons₂ _ (ag4 (.cons₂ _ (.cons _ (ag1 _ _))) (RX C A (exB (Z.lg' lg)) r S'.day ls2 S'.ns vs2)));have O:=(Ow.front _ _ _ O).perm (List.Perm.append_left (RX C A (exB (Z.lg' lg)) r S'.day ls2 S'.ns vs2) (List.Perm.cons (lg,HO.lst []) (List.perm_middle (l₁:=[(Z.lr,HO.lst rs),(Z.lk,HO.lst ks),(Z.ld,HO.lst us)]) (a:=(fl,HO.lst fs)) (l₂:=L))));exact ⟨_,rfl,q Hb _ fl lg fs sb ⟨ls2,vs2,O,e0,e1⟩ df⟩
abbrev mJ:Stmt:=inClass (top 81) 7
theorem Ef:aG ["self"] ["self"] (ao mJ):=by walk_at "sc"
def af0 (d:List Int × List Int):PyData:=.tuple [.list (d.1.map PyData.int),.list (d.2.map PyData.int)]
def aem (K:PySem.W.Frag)(H:Hp)(v:V)(d:List Int × List Int):Prop:=∃ t a b:Addr,v=V.ref t/\SqT K H t [V.ref a,V.ref b]/\SqL K H a (d.1.map V.int)/\SqL K H b (d.2.map V.int)
inductive Ql (K:PySem.W.Frag)(T:fJ)(C:Addr)(vs:List V)(H:Hp)(Q:VK)(E:XK):Prop
 | mk (A:Rs)(Z:Bx)(day:Int)(rs:List V)(ds:List (List Int × List Int))(_:vs=[.ref A.p])(_:H A.p=some (Pb C A (exB Z) day))(_:SqL K H Z.lr rs)(_:ds.length=rs.length)(_:ds.length<=900)(_:(∀ (i:Nat) v d,rs[i]?=some v->ds[i]?=some d->aem K H v d))(_:TabsOk T H)(_:∀ (l:Addr)(us:List V)(Hb H':Hp),aJ T H Hb->Ow T Hb H' [(l,.lst us)]->bY K Hb us (ds.map af0)->Q (.ref l) H')
variable {qO:Addr}{qZ:FuncData}(bZ:Dm K C "record" "Book.record" mJ ["self"] qO qZ)
include bZ in
theorem ac5 (B:Blt mg)(R:BC K C):(CX0|||1) qO qZ ["self"] (Ql K T C):=by
 refine bZ.F.ok Ef ?_ ?_;walk_at "i";obtain ⟨A,Z,day,rs,ds,rfl,hp,hL,hdl,h9,hd,tk,q⟩:=h;have O:=Ow.refl tk;refine ⟨_,(~~~(@aP _ _ _ _ (fM (ao mJ) rfl ["self"] rfl ["springs","calls"] [none,none] (by decide+kernel) (by decide+kernel) (by decide+kernel) rfl (cJ (aV (pv 0) rfl)) (fun _ _ _=>(qy (K:=K) (n:=2) rfl rfl (aC (bB (i:=0) (show (["springs","calls"]:List Str).Nodup by decide+kernel) rfl (Or.inl rfl)) (aC (bB (i:=1) (show (["springs","calls"]:List Str).Nodup by decide+kernel) rfl (Or.inl rfl)) cg)))) (fun _ _ _=>eG) (fun _ _ _=>(@fH _ _ _ _ _ (bL (yP (K:=K) rfl) rfl B.list agy (pv 0>=>ak)>=>bL (yP (K:=K) rfl) rfl B.list agy (pv 1>=>ak)>=>ak)))))),?_⟩;refine ⟨_,rfl,A.p,C,A.dx,_,.ref Z.lr,rfl,hp,R.c,R.nR,rfl,Z.lr,rfl,⟨_,hL⟩,fun lw hlw=>?_⟩;refine eH (K:=K) (xs:=rs) (fun i τ H'=>Iv (∃ (v0 v1:Option V)(Hb:Hp)(us:List V),τ=[v0,v1]/\us.length=i/\aJ T H Hb/\Ow T Hb H' [(lw,.lst us)]/\bY K Hb us ((ds.take i).map af0))) ⟨trivial,none,none,H,[],rfl,rfl,aJ.refl tk,O.mk' hlw rfl,.nil⟩ (fun i τ H' _ ⟨_,_,_,_,_,_,_,s,O,_⟩=>(s.trans O.same).seq hL) ?_ ?_
 ·clear O;rintro i y τ H3 hy ⟨-,v0,v1,Hb,us,rfl,hul,sb,O,dv⟩;have hi:=(af4.mp hy).1;obtain ⟨d,hd'⟩:∃ d,ds[i]?=some d:=⟨_,af9 (by omega)⟩;obtain ⟨t,a,b,rfl,hT,hA,hB⟩:=hd i y d hy hd';have s3:=sb.trans O.same;refine ⟨t,_,rfl,hT.mo s3,rfl,_,_,rfl,_,_,rfl,rfl,?_⟩;refine acf ?_;refine ⟨_,rfl,a,_,rfl,.inl (s3.seq hA),fun la hla=>?_⟩;walk_at "nw";refine ⟨_,rfl,b,_,rfl,.inl ((sb.trans O.same).seq hB),fun lb hlb=>?_⟩;walk_at "nw";refine ⟨szl,fun t2 ht2=>?_⟩;walk_at "nw";refine ⟨_,O.get 3,aH (by omega),?_⟩;walk_at "pt";obtain ⟨Hc,O,sc,e1⟩:=O.frz;obtain ⟨Hd,O,sd,e2⟩:=O.frz;obtain ⟨He,O,se,e3⟩:=O.frz;refine ⟨trivial,_,_,He,us++[V.ref t2],rfl,by rw [agh,hul];rfl,((sb.trans sc).trans sd).trans se,O,?_⟩;rw [Tn.dJ hd',aga];exact (((dv.mo sc).mo sd).mo se).append (.cons (.tuple (((SqT.of e1).mo sd).mo se) (.cons (.list (SqL.of e3) (bY.ints _)) (.cons (.list ((SqL.of e2).mo se) (bY.ints _)) .nil))) .nil)
 clear O;rintro τ H3 ⟨-,v0,v1,Hb,us,rfl,hul,sb,O,dv⟩;rw [agq (by omega)] at dv;exact q lw us Hb H3 sb O dv
abbrev J1:Stmt:=top 76
theorem Ly:aG ["roll","number","start","changed"] ["roll","number","start"] (ao J1):=by walk_at "sc"
inductive V6 (K:PySem.W.Frag)(T:fJ)(vs:List V)(H:Hp)(Q:VK)(E:XK):Prop
 | mk (a:Addr)(us:List V)(ls:List Lic)(k:Nat)(l:Lic)(s:Int)(_:vs=[.ref a,.int (k:Int),.int s])(_:SqL K H a us)(_:bY K H us (ls.map Dv))(_:ls[k]?=some l)(_:ls.length<1000)(_:TabsOk T H)(_:∀ (m t:Addr)(H':Hp),Ow T H H' [(m,.lst (us.set k (.ref t))),(t,.tup (vq (wst l s)))]->Q (.ref m) H')
variable {Kq:Addr}{Ks:FuncData}(yh:Df K mg "moved" J1 ["roll","number","start"] Kq Ks)
include cB jD yh in
theorem adb (B:Blt mg):(CX0|||2) Kq Ks ["roll","number","start"] (V6 K T):=by
 refine yh.F.ok Ly ?_ ?_;walk_at "i";obtain ⟨a,us,ls,k,l,s,rfl,hA,d0,hk,hl,tk,q⟩:=h;have O:=Ow.refl tk;obtain ⟨al,hal,hT⟩:=d0.rO hk;have hkl:=(af4.mp hk).1;have hul:us.length=ls.length:=by rw [d0.length,aeu]
 refine ⟨_,(aF (3<$>Ly<$>(bL bh rfl B.list agy (aq (pv 0) ak)))
  (aF (gQ (cB<*jD<*(aq (aZ aU (pv 0) (pv 1) (fun _ _=>rfl)) (aq (pv 2) ak))) (pX (pv 3) (pv 1) set_list))
  (aK (aP (pv 3))))),?_⟩
 refine Ui ?_;intro zu0 zu1;refine ⟨_,rfl,a,_,rfl,.inl hA,fun m hm=>?_⟩;walk_at "nw";refine ⟨_,rfl,_,rfl,a,_,_,_,rfl,rfl,O.same.seq hA,dU hal,_,rfl,al,l,s,rfl,hT.mo O.same,fun t ht=>?_⟩;walk_at "nw";refine ⟨_,rfl,_,rfl,m,_,_,k,rfl,rfl,O.get 1,gZ (by omega),?_⟩;walk_at "pt";refine ⟨_,rfl,q m t _ (O.pull 1)⟩
theorem Ol {us:List V}{t:Addr}(d:bY K H us (ls.map Dv))(h:SqT K H t (vq l)):bY K H (us.set k (.ref t)) ((ls.set k l).map Dv):=by
 induction us generalizing ls k with
 | nil =>
  cases ls with
  | nil=>exact .nil
  | cons x ls=>cases d
 | cons u us ih =>
  cases ls with
  | nil=>cases d
  | cons x ls =>
   cases d with
   | cons d0 ds =>
    cases k with
    | zero=>exact .cons (Den.lic h) ds
    | succ k=>exact .cons d0 (ih ds)
abbrev BZ:Stmt:=top 77
theorem fC:aG ["below","roll","number","start","record","other_roll","day","one_day","springs","calls","all_calls","takes","other_takes","other","before","after"] ["below","roll","number","start","record"] (ao BZ):=by walk_at "sc"
def dRec (ds:List (List Int × List Int)):PyData:=.list (ds.map fun p=>.tuple [sI p.1,sI p.2])
def acp (m:Nat)(cs:List Int):List Int:=cs++List.replicate (m - cs.length) 0
def Nq (r:List Int)(m:Nat)(ds:List (List Int × List Int)):Prop:=∀ d∈ds,d.1.length=r.length/\d.2.length<=m
inductive Lj (K:PySem.W.Frag)(T:fJ)(vs:List V)(H:Hp)(Q:VK)(E:XK):Prop
 | mk (a b:Addr)(v:V)(us:List V)(r:List Int)(ls:List Lic)(n:Nat)(l:Lic)(st:Int)(ds:List (List Int × List Int))(_:vs=[.ref a,.ref b,.int (n:Int),.int st,v])(_:acP K H a r)(_:SqL K H b us)(_:bY K H us (ls.map Dv))(_:ls[n]?=some l)(_:ls.length<64)(_:(∀ l∈ls,rR r l))(_:rR r (wst l st))(_:Den K H v (dRec ds))(_:ds.length<=1000)(_:Nq r ls.length ds)(_:TabsOk T H)(_:(∀ H',aJ T H H'->Q .non H'))(_:(∀ (t:Addr)(xs:List V) H',aJ T H H'->H' t=some (.tup xs)->Q (.ref t) H'))
variable (Tw:(CX0|||2) Kq Ks ["roll","number","start"] (V6 K T))
variable {Di:Addr}{Ds:FuncData}(ou:Df K mg "harm_of" BZ ["below","roll","number","start","record"] Di Ds)
include vo JD yh Tw ou in
theorem UW (B:Blt mg):(CX0|||8) Di Ds ["below","roll","number","start","record"] (Lj K T):=by
 refine ou.F.ok fC ?_ ?_
 walk_at "i"
 obtain ⟨a,b,v,us,r,ls,n,l,st,ds,rfl,hA,hB,d0,hk,hl,hlo,hlo',dR,hdl,hrec,tk,q0,q⟩:=h
 have O:=Ow.refl tk
 refine ⟨_,(aF (5<$>fC<$>(yh<*Tw<*(aq (pv 1) (aq (pv 2) (aq (pv 3) ak)))))
  (aF (f9 agC rfl (Gp rfl B.enumerate (aq (pv 4) ak)) (iH rfl (aC (6>>fC) (aC (7>>fC) cg)))
   (aF (gQ (pv 7) (iH rfl (aC (8>>fC) (aC (9>>fC) cg))))
   (aF (10<$>fC<$>(bD Cu (bL bh rfl B.list agy (aq (pv 9) ak)) (bD Cq (dM (aq aA ak)) (bD yF (aD aB rfl B.len agk (aq (pv 1) ak)) (aD aB rfl B.len agk (aq (pv 9) ak))))))
   (aF (11<$>fC<$>(vo<*JD<*(aq (pv 0) (aq (pv 8) (aq (pv 1) (aq (pv 10) ak))))))
   (aF (12<$>fC<$>(vo<*JD<*(aq (pv 0) (aq (pv 8) (aq (pv 5) (aq (pv 10) ak))))))
   (aK (f9 agC rfl (abo rfl B.zip (aq (bL VB rfl B.range PyProof.Rows.boot_range (aq (aD aB rfl B.len agk (aq (pv 1) ak)) ak)) (aq (pv 11) (aq (pv 12) ak)))) (iH rfl (aC (13>>fC) (aC (14>>fC) (aC (15>>fC) cg))))
    (aK (cM (PW.pt (pw_and (aR Cr (pv 13) (pv 2) (bf _)) (pw_and1 (aR Bh (pv 15) (pv 14) (bf _)))))
     (aK (aP (fH (aq (pv 6) (aq (pv 13) (aq (pv 14) (aq (pv 15) ak)))))))
     bA)))))))))
  (aK (aP yE)))),?_⟩
 refine aeQ ?_
 intro zu0 zu1 zu2 zu3 zu4 zu5 zu6 zu7 zu8
 have hnl:=(af4.mp hk).1
 have hul:us.length=ls.length:=by rw [d0.length,aeu]
 refine ⟨_,rfl,_,rfl,_,rfl,b,us,ls,n,l,st,rfl,hB,d0,hk,by omega,tk,fun m t H1 O=>?_⟩
 obtain ⟨av,vs,rfl,hV,dV⟩:=dR.mK
 have hvl:vs.length=ds.length:=by rw [dV.length,aeu]
 generalize hls':ls.set n (wst l st)=ls'
 have hl':ls'.length=ls.length:=by rw [<- hls',agG]
 have hlo2:∀ l∈ls',rR r l:=fun x hx=>by
  rw [<- hls'] at hx
  rcases ahs hx with h| h
  ·exact hlo x h
  ·rw [h];exact hlo'
 have Dall:∀ {H'},Ow T H H' [(m,.lst (us.set n (.ref t))),(t,.tup (vq (wst l st)))]->bY K H' (us.set n (.ref t)) (ls'.map Dv):=fun O=>by
  rw [<- hls'];exact Ol (d0.mo O.same) (O.sqT 1)
 refine ⟨_,rfl,av,vs,rfl,O.same.seq hV,?_⟩
 refine M8 (K:=K) (xs:=vs) (fun i σ H'=>Iv (∃ (v6 v7 v8 v9 v10 v11 v12 v13 v14 v15:Option V),σ=[some (.ref a),some (.ref b),some (.int (n:Int)),some (.int st),some (.ref av),some (.ref m),v6,v7,v8,v9,v10,v11,v12,v13,v14,v15]/\Ow T H H' [(m,.lst (us.set n (.ref t))),(t,.tup (vq (wst l st)))]))
  ⟨trivial,_,_,_,_,_,_,_,_,_,_,rfl,O⟩ (fun i σ H' _ ⟨_,_,_,_,_,_,_,_,_,_,_,_,O⟩=>O.same.seq hV) ?_ ?_
 ·clear O
  rintro i y tt σ H4 hy ⟨-,v6,v7,v8,v9,v10,v11,v12,v13,v14,v15,rfl,O⟩ ht
  walk_at "nw"
  obtain ⟨d,hd,dd⟩:=dV.get' hy
  rw [agg] at hd
  obtain ⟨dy,hdy,rfl⟩:=Option.map_eq_some_iff.mp hd
  obtain ⟨ay,zs,rfl,hTy,dz⟩:=dd.jm
  obtain ⟨c1,c3⟩:=hrec dy (agd hdy)
  cases dz with
  | cons e1 e2=>cases e2 with
   | cons e2 e3 =>
    cases e3
    obtain ⟨asp,rfl,hSp⟩:=e1.vJ
    obtain ⟨acl,rfl,hCl⟩:=e2.vJ
    refine ⟨tt,_,rfl,O.sqT 0,rfl,_,_,rfl,_,_,rfl,rfl,?_⟩
    have O:=O.tail
    refine ⟨_,rfl,ay,_,rfl,O.same.TF hTy,rfl,_,_,rfl,_,_,rfl,rfl,?_⟩
    refine ⟨_,rfl,acl,_,rfl,.inl (O.same.seq hCl),fun lc hlc=>?_⟩
    walk_at "nw"
    refine ⟨szl,fun lz hlz=>?_⟩
    walk_at "nw"
    have hk1:((us.length:Int) - (((dy.2.map V.int).length:Nat):Int)).toNat=ls.length - dy.2.length:=by rw [aeu];omega
    have hk2:(dy.2.map V.int).length=dy.2.length:=aeu _
    refine ⟨_,rfl,b,_,rfl,.inl (O.same.seq hB),_,rfl,acl,_,rfl,.inl (O.same.seq hCl),_,_,rfl,rfl,lz,_,_,rfl,rfl,O.get 0,by omega,by omega,(by rw [hk1,sizeLine_eq];show 1*_<=_;omega),fun lr hlr=>?_⟩
    walk_at "nw"
    rw [hk1,show [V.int 0]=[V.int (0:Int)] from rfl,yC] at O
    refine ⟨lc,lr,_,_,rfl,rfl,O.get 2,O.get 0,(by rw [aeu,aeu,agO,sizeLine_eq];omega),fun la hla=>?_⟩
    walk_at "nw"
    rw [<- aga] at O
    have hcl:(acp ls.length dy.2).length=ls.length:=by unfold acp;rw [agh,agO];omega
    rw [show dy.2++List.replicate (ls.length - dy.2.length) 0=acp ls.length dy.2 from rfl] at O
    have O:Ow T H _ [(la,.lst ((acp ls.length dy.2).map V.int)),(m,.lst (us.set n (.ref t))),(t,.tup (vq (wst l st)))]:=O.sub (List.Sublist.cons₂ _ (aht [_,_,_] _))
    refine ⟨_,rfl,_,rfl,_,rfl,_,rfl,a,asp,la,.ref b,r,dy.1,ls,acp ls.length dy.2,rfl,⟨O.same.seq hA.1,hA.2⟩,O.same.seq hSp,c1,.list (O.same.seq hB) (d0.mo O.same),hl,O.sq 0,hcl.symm,hlo,O.same.t1,O.M6 fun lx H5 xs O e=>?_⟩
    obtain ⟨xs,rfl,hxl⟩:=e
    refine ⟨_,rfl,_,rfl,_,rfl,_,rfl,a,asp,la,.ref m,r,dy.1,ls',acp ls.length dy.2,rfl,⟨O.same.seq hA.1,hA.2⟩,O.same.seq hSp,c1,.list (O.sq 2) (Dall O.tail.tail),by omega,O.sq 1,by omega,hlo2,O.same.t1,O.M6 fun ly H6 ys O e=>?_⟩
    obtain ⟨ys,rfl,hyl⟩:=e
    refine ⟨_,rfl,b,_,rfl,.inl (O.same.seq hB),_,rfl,fun lr2 hr2=>?_⟩
    walk_at "nw"
    refine ⟨_,rfl,_,rfl,lr2,lx,ly,us.length,_,_,rfl,O.get 0,by omega,O.sq 2,O.sq 1,?_⟩
    refine Vp (K:=K) (fun k σ H'=>Iv (∃ (v13 v14 v15:Option V),σ=[some (.ref a),some (.ref b),some (.int (n:Int)),some (.int st),some (.ref av),some (.ref m),some (.int (i:Int)),some (.ref ay),some (.ref asp),some (.ref acl),some (.ref la),some (.ref lx),some (.ref ly),v13,v14,v15] /\
     Ow T H H' [(ly,.lst (ys.map V.int)),(lx,.lst (xs.map V.int)),(m,.lst (us.set n (.ref t))),(t,.tup (vq (wst l st)))]))
     ⟨trivial,_,_,_,rfl,O.sub (List.Sublist.cons _ (List.Sublist.cons₂ _ (List.Sublist.cons₂ _ (ag1 _ _))))⟩ (by rw [aeu];omega) (by rw [aeu];omega) (fun k σ H' _ ⟨_,_,_,_,_,O⟩=>⟨O.sq 1,O.sq 0⟩) ?_ ?_
    ·clear O
     rintro k x y T7 σ H7 hkl hx1 hy1 ⟨-,v13,v14,v15,rfl,O⟩ hT7
     obtain ⟨x,hx2,rfl⟩:=ints_get hx1
     obtain ⟨y,hy2,rfl⟩:=ints_get hy1
     walk_at "nw"
     refine ⟨T7,_,rfl,O.sqT 0,rfl,_,_,rfl,_,_,rfl,_,_,rfl,rfl,?_⟩
     have O:=O.tail
     refine ⟨_,rfl,_,rfl,rfl,_,rfl,ifN (ifI (fun h1=>?_) (fun h1=>?_))⟩
     ·exact ⟨trivial,_,_,_,rfl,O⟩
     refine ⟨_,rfl,_,rfl,_,_,rfl,rfl,_,rfl,ifD (fun h2=>?_) (fun h2=>?_)⟩
     rotate_left
     ·exact ⟨trivial,_,_,_,rfl,O⟩
     refine ⟨_,rfl,_,rfl,_,rfl,_,rfl,szl,fun tR hR=>?_⟩
     walk_at "nw"
     exact q tR _ _ O.same (O.get 0)
    clear O
    rintro σ H7 ⟨-,v13,v14,v15,rfl,O⟩
    exact ⟨trivial,_,_,_,_,_,_,_,_,_,_,rfl,O.tail.tail⟩
 clear O
 rintro σ H5 ⟨-,v6,v7,v8,v9,v10,v11,v12,v13,v14,v15,rfl,O⟩
 exact q0 _ O.same
def Ku (d:List Int × List Int):PyData:=.tuple [sI d.1,sI d.2]
def Wat (xs:List Int):Prop:=∀ x∈xs,0<=x/\x<=1000000000000
abbrev vC:Stmt:=inClass (top 81) 5
theorem gC:aG ["self","springs","calls","lets","lets_told","left","dealt_by","told","takes","kept","flows","sheet"] ["self","springs","calls","lets"] (ao vC):=by walk_at "sc"
inductive V1 (K:PySem.W.Frag)(T:fJ)(C:Addr)(cD:Addr)(vs:List V)(H:Hp)(Q:VK)(E:XK):Prop
 | mk (A:Rs)(Z:Bx)(H0:Hp)(B:List (Addr × HO))(r:List Int)(S:RS)(gs ks:List Int)(rs us:List V)(ps:List Pd)(ds:List (List Int × List Int))(b g:Addr)(sp cs:List Int)(_:vs=[.ref A.p,.ref b,.ref g,.non])(_:(b,HO.lst (sp.map V.int))∈B)(_:(g,HO.lst (cs.map V.int))∈B)(_:sp.length<=900)(_:cs.length<=900)(_:RA K T C A (exB Z) r H0 H (BL Z (gs.map V.int) rs (ks.map V.int) us++B) S)(_:RP r (exB Z) S)(_:(∀ l∈S.ls,rR r l))(_:bY K H0 us (ps.map dMv))(_:ps.length=ks.length)(_:ps.length<=900)(_:(∀ p∈ps,0<=p.1/\p.1<(S.ls.length:Int)/\0<=p.2.2/\p.2.2<=1000))(_:bY K H0 rs (ds.map Ku))(_:ds.length<=900)(_:gs.length<=S.ls.length)(_:(sp.length=r.length/\Wat sp/\cs.length=S.ls.length/\Wat cs->∀ (t:Addr)(Z':Bx)(Hb H':Hp)(ks' cs':List Int)(td:Addr),aJ T H0 Hb->Z'.ld=Z.ld->ks'.length=ps.length->cs'.length=S.ls.length->RA K T C A (exB Z') r Hb H' (BL Z' ((grt gs cs).map V.int) (rs++[.ref td]) (ks'.map V.int) us++B) ⟨S.day+1,S.ls,S.ns,S.ds++[.turn]⟩->bY K Hb (rs++[.ref td]) ((ds++[(sp,cs')]).map Ku)->Q (.ref t) H'))(_:(¬ (sp.length=r.length/\Wat sp/\cs.length=S.ls.length/\Wat cs)->∀ (e:Addr)(H':Hp),aJ T H H'->H' e=none->E (.ref cD) (some e) H'))
variable (iw:((CXE P w)|||2) ig iu ["self","amounts","count"] (V7 K T cD))
variable (Nv:(CX0|||8) GQ GZ ["below","springs","roll","ponds","kept","calls","lets"] (Qy K T))
variable (iT:(CX0|||1) xu xX ["self"] (kI K C "licences"))
variable (yV:(CX0|||1) qJ qT ["before","calls"] (Wa K T))
variable {zO:Addr}{zW:FuncData}(jJ:DmD K C "run" "Book.run" vC ["self","springs","calls","lets"] zO zW)
include dZ bO bK aL iR cV oX rJ gO aW iw Nv iT yV jJ in
theorem ac4 (B:Blt mg):
  ((CXE P w)|||9) zO zW ["self","springs","calls","lets"] (V1 K T C cD):=by
 have R:=cV;refine jJ.F.okX gC ?_ ?_;walk_at "i";obtain ⟨A,Z,H0,L,r,S,gs,ks,rs,us,ps,ds,b,g,sp,cs,rfl,mB,mG,hs9,hc9,⟨ls,vs,O,d0,d1⟩,hp,hlo,dP,hkl,hp9,pok,dR,hd9,hgl,q,qE⟩:=h;have hll:ls.length=S.ls.length:=by rw [d0.length,aeu]
 have hrl:rs.length=ds.length:=by rw [dR.length,aeu]
 have h60:=hp.l60;have r40:=hp.r40;refine ⟨_,(aM (cj (pv 0) cV.c aW.m iw hr.m aW.b .nil jX (pv 1>=>aD aB rfl B.len agk (aV (pv 0) rfl>=>ak)>=>ak))<|>aM (cj (pv 0) cV.c aW.m iw hr.m aW.b .nil jX (pv 2>=>aD aB rfl B.len agk (aV (pv 0) rfl>=>ak)>=>ak))<|>4<$>gC<$>(Mf (aR Wj (pv 3) yE (bf _)) (@dM _ _ _ _ ak) (pv 3))<|>gQ (dZ<*oX<*(aV (pv 0) rfl>=>aV (pv 0) rfl>=>aV (pv 0) rfl>=>aV (pv 0) rfl>=>pv 2>=>pv 4>=>ak)) (iH rfl (aC (5>>gC) (aC (6>>gC) cg)))<|>7<$>gC<$>(rJ<*Nv<*(aV (pv 0) rfl>=>pv 1>=>aV (pv 0) rfl>=>aV (pv 0) rfl>=>aV (pv 0) rfl>=>pv 2>=>pv 4>=>ak))<|>gQ (pv 7) (iH rfl (aC (8>>gC) (aC (9>>gC) (aC (10>>gC) (aC (11>>gC) cg)))))<|>oH (pv 0) (bL bh rfl B.list agy (pv 9>=>ak)) rfl<|>aM (kh agn ago agp bC (aV (pv 0) rfl) (@fH _ _ _ _ _ (bL bh rfl B.list agy (pv 1>=>ak)>=>pv 6>=>ak)>=>ak))<|>oH (pv 0) (@fH _ _ _ _ _ (cC (pv 0) aL.c bO.m iT hr.m bO.b .nil jw>=>bL bh rfl B.list agy (pv 8>=>ak)>=>ak)) rfl<|>oH (pv 0) (gO<*yV<*(aV (pv 0) rfl>=>pv 2>=>ak)) rfl<|>aM (cC (pv 0) aL.c bK.m iR hr.m bK.b .nil jw)<|>(~~~(@aP _ _ _ _ (pv 7)))),?_⟩;refine ⟨_,rfl,A.p,A.dx,_,rfl,O.get 0,rfl,_,rfl,_,rfl,A.p,C,A.dx,_,.ref A.lb,rfl,O.get 0,aL.c,aL.nB,rfl,A.lb,_,rfl,.inl (O.sq 2),.ref A.p,b,sp,_,rfl,SqL.of (O.at_ _ (agf _ (agf _ mB))),hs9,O.same.t1,fun z1 H1 s1=>?_,fun hn e H' s' he=>qE (fun z=>hn ⟨by rw [aeu,z.1],z.2.1⟩) e H' s' he⟩;obtain ⟨e1,w1⟩:=z1;rw [aeu] at e1;have O:=O.dD s1;refine ⟨_,rfl,A.p,A.dx,_,rfl,O.get 0,rfl,_,rfl,_,rfl,A.p,C,A.dx,_,.ref A.ll,rfl,O.get 0,aL.c,aL.nL,rfl,A.ll,_,rfl,.inl (O.sq 3),.ref A.p,g,cs,_,rfl,SqL.of (O.at_ _ (agf _ (agf _ mG))),hc9,O.same.t1,fun z2 H2 s2=>?_,fun hn e H' s' he=>qE (fun z=>hn ⟨by rw [hll,z.2.2.1],z.2.2.2⟩) e H' (s1.trans s') he⟩;obtain ⟨e2,w2⟩:=z2;have hsl:sp.length=r.length:=by omega
 have hcl:cs.length=S.ls.length:=by omega
 have q:=q ⟨hsl,w1,hcl,w2⟩;clear qE e1 e2;have O:=O.dD s2;have s2:=s1.trans s2;refine ⟨_,rfl,rfl,_,rfl,vP ⟨szl,fun le hle=>?_⟩⟩;walk_at "nw";have ft:∀ {X:List (Addr × HO)}{x:Addr × HO}{ex:List (Str × V)}{gz rz kz:List V}{Z':Bx}{us':List V},x∈L->x∈X++(RX C A ex r S.day ls S.ns vs++(BL Z' gz rz kz us'++L)):=fun h=>agf _ (agf _ (agf _ h));have okD:af8 r sp S.ls ps ks cs:=⟨hp.rv,by omega,hsl,by omega,hlo,hkl,by omega,pok,hcl.symm⟩;refine ⟨_,rfl,A.p,C,A.dx,_,.ref A.lb,rfl,O.get 1,aL.c,aL.nB,rfl,_,rfl,A.p,C,A.dx,_,.ref A.ll,rfl,O.get 1,aL.c,aL.nL,rfl,_,rfl,A.p,C,A.dx,_,.ref Z.ld,rfl,O.get 1,R.c,R.nD,rfl,_,rfl,A.p,C,A.dx,_,.ref Z.lk,rfl,O.get 1,R.c,R.nK,rfl,_,rfl,_,rfl,.ref A.lb,.ref A.ll,Z.ld,Z.lk,g,le,us,ps,ks,cs,rfl,O.sq 10,dP.mo O.same,O.sq 9,hkl,SqL.of (O.at_ _ (ft (X:=[_]) mG)),fun p hp=>⟨(pok p hp).1,by have:=(pok p hp).2.1;omega⟩,O.sq 0,O.same.t1,fun t0 la lc H3 OD=>?_⟩;have O:=O.join OD;clear OD;refine ⟨t0,_,rfl,O.sqT 0,rfl,_,_,rfl,_,_,rfl,rfl,?_⟩;have hless:=yK cs ps ks ps.length;generalize Ei cs ps ks ps.length=cs' at O hless;have O:Ow T H0 H3 ([(lc,.lst (cs'.map V.int)),(le,.lst [])]++(RX C A (exB Z) r S.day ls S.ns vs++(BL Z (gs.map V.int) rs (ks.map V.int) us++L))):=O.sub (.cons _ (.cons₂ _ (.cons _ (List.Sublist.refl _))));refine ⟨_,rfl,A.p,C,A.dx,_,.ref A.lb,rfl,O.get 2,aL.c,aL.nB,rfl,_,rfl,_,rfl,A.p,C,A.dx,_,.ref A.ll,rfl,O.get 2,aL.c,aL.nL,rfl,_,rfl,A.p,C,A.dx,_,.ref Z.ld,rfl,O.get 2,R.c,R.nD,rfl,_,rfl,A.p,C,A.dx,_,.ref Z.lk,rfl,O.get 2,R.c,R.nK,rfl,_,rfl,_,rfl,r,sp,ls,us,S.ls,ps,ks,cs,A.lb,b,A.ll,Z.ld,Z.lk,g,le,rfl,O.sq 4,SqL.of (O.at_ _ (ft mB)),O.sq 5,d0.mo O.same,O.sq 11,dP.mo O.same,O.sq 10,SqL.of (O.at_ _ (ft mG)),O.sq 1,okD,O.same.t1,fun t lt la' lf ts xs as fs sh Hb H4 sb OD hxl hal=>?_⟩;have O:=O.join (OD.base sb);clear OD sb;refine ⟨_,rfl,t,_,rfl,O.sqT 0,rfl,_,_,rfl,_,_,rfl,_,_,rfl,_,_,rfl,rfl,?_⟩;have O:Ow T H0 H4 ([(la',.lst (as.map V.int)),(lt,.lst (xs.map V.int)),(lc,.lst (cs'.map V.int))]++(RX C A (exB Z) r S.day ls S.ns vs++(BL Z (gs.map V.int) rs (ks.map V.int) us++L))):=O.sub (.cons _ (.cons _ (.cons _ (.cons₂ _ (.cons₂ _ (.cons₂ _ (ag1 _ _)))))));refine ⟨_,rfl,la',_,rfl,.inl (O.sq 0),fun lk' hlk'=>?_⟩;walk_at "nw";refine ⟨_,rfl,A.p,C,A.dx,_,rfl,O.get 4,R.c,R.nK,(by show 10<1000;decide),?_⟩;generalize hE2:upd _ _ _=Hn;have O:=Ow.wQ O 4 rfl hE2 rfl;clear hE2;have O:Ow T H0 Hn ([(lk',.lst (as.map V.int)),(la',.lst (as.map V.int)),(lt,.lst (xs.map V.int)),(lc,.lst (cs'.map V.int))]++(RX C A (exB ⟨Z.ld,lk',Z.lr,Z.lg,Z.la⟩) r S.day ls S.ns vs++(BL Z (gs.map V.int) rs (ks.map V.int) us++L))):=O;refine ⟨_,rfl,A.p,C,A.dx,_,.ref Z.lr,rfl,O.get 4,R.c,R.nR,rfl,.inl ⟨rfl,_,O.sq 11⟩,_,rfl,b,_,rfl,.inl (SqL.of (O.at_ _ (ft mB))),fun lsp hlsp=>?_⟩;walk_at "nw";refine ⟨_,rfl,szl,fun td htd=>?_⟩;walk_at "nw";refine ⟨Z.lr,_,_,rfl,rfl,O.get 13,aH (by omega),?_⟩;generalize hE2:upd _ _ _=Hm;have O:=Ow.wQ O 13 rfl hE2 rfl;clear hE2;obtain ⟨Ha,O,sa,x1⟩:=(show Ow T H0 Hm ((td,.tup [.ref lsp,.ref lc])::(lsp,.lst (sp.map V.int))::([(lk',.lst (as.map V.int)),(la',.lst (as.map V.int)),(lt,.lst (xs.map V.int)),(lc,.lst (cs'.map V.int))]++(RX C A (exB ⟨Z.ld,lk',Z.lr,Z.lg,Z.la⟩) r S.day ls S.ns vs++(BL Z (gs.map V.int) (rs++[.ref td]) (ks.map V.int) us++L)))) from O).frz;obtain ⟨Hb1,O,sb1,x2⟩:=O.frz;obtain ⟨Hc1,O,sc1,x3⟩:=O.afx 3;have O:Ow T Hc1 Hm ([(lk',.lst (as.map V.int)),(la',.lst (as.map V.int)),(lt,.lst (xs.map V.int))]++(RX C A (exB ⟨Z.ld,lk',Z.lr,Z.lg,Z.la⟩) r S.day ls S.ns vs++(BL Z (gs.map V.int) (rs++[.ref td]) (ks.map V.int) us++L))):=O;have sx:=(sa.trans sb1).trans sc1;have d0:=d0.mo sx;have d1:=d1.mo sx;have dR':bY K Hc1 (rs++[.ref td]) ((ds++[(sp,cs')]).map Ku):=by
  rw [aga];exact (dR.mo sx).append (.cons (.tuple (((SqT.of x1).mo sb1).mo sc1) (.cons (Den.ints ((SqL.of x2).mo sc1)) (.cons (Den.ints (SqL.of x3)) .nil))) .nil)
 clear x1 x2 x3 sa sb1 sc1;refine ⟨_,rfl,A.p,A.dx,_,rfl,O.get 3,rfl,A.p,A.dx,A.ll,_,ls,rfl,O.get 3,rfl,O.sq 6,fun lr2 hlr2=>?_⟩;walk_at "nw";refine ⟨_,rfl,lt,_,rfl,.inl (O.sq 3),fun lt2 hlt2=>?_⟩;walk_at "nw";refine ⟨szl,fun tl htl=>?_⟩;walk_at "nw";refine ⟨_,rfl,A.p,C,A.dx,_,rfl,O.get 6,R.c,R.nL,(by show 10<1000;decide),?_⟩;generalize hE2:upd _ _ _=Hq;have O:=Ow.wQ O 6 rfl hE2 rfl;clear hE2;have O:Ow T Hc1 Hq ([(lk',.lst (as.map V.int))]++(RX C A (exB ⟨Z.ld,lk',Z.lr,Z.lg,.ref tl⟩) r S.day ls S.ns vs++(BL Z (gs.map V.int) (rs++[.ref td]) (ks.map V.int) us++L))):=(show Ow T Hc1 Hq (_::_::_::_::_::_::_) from O).sub (.cons _ (.cons _ (.cons _ (.cons₂ _ (.cons _ (ag1 _ _))))));refine ⟨_,rfl,A.p,C,A.dx,_,.ref Z.lg,rfl,O.get 1,R.c,R.nG,rfl,_,rfl,Z.lg,g,gs,cs,rfl,O.get 7,SqL.of (O.at_ _ (ft mG)),by omega,hc9,O.same.t1,O.M6 fun lg' H6 zs O e6=>?_⟩;subst e6;refine ⟨_,rfl,A.p,C,A.dx,_,rfl,O.get 2,R.c,R.nG,(by show 10<1000;decide),?_⟩;generalize hE2:upd _ _ _=Hr;have O:=Ow.wQ O 2 rfl hE2 rfl;clear hE2;have O:Ow T Hc1 Hr ([(lg',.lst ((grt gs cs).map V.int)),(lk',.lst (as.map V.int))]++(RX C A (exB ⟨Z.ld,lk',Z.lr,lg',.ref tl⟩) r S.day ls S.ns vs++((Z.lr,.lst (rs++[.ref td]))::(Z.ld,.lst us)::L))):=(show Ow T Hc1 Hr ([(lg',.lst ((grt gs cs).map V.int)),(lk',.lst (as.map V.int))]++(RX C A (exB ⟨Z.ld,lk',Z.lr,lg',.ref tl⟩) r S.day ls S.ns vs++((Z.lg,.lst (gs.map V.int))::(Z.lr,.lst (rs++[.ref td]))::(Z.lk,.lst (ks.map V.int))::(Z.ld,.lst us)::L))) from O).sub (ag4 (ag4 (.cons _ (.cons₂ _ (ag1 _ _))) _) _);have O:Ow T Hc1 Hr (RX C A (exB ⟨Z.ld,lk',Z.lr,lg',.ref tl⟩) r S.day ls S.ns vs++(BL ⟨Z.ld,lk',Z.lr,lg',.ref tl⟩ ((grt gs cs).map V.int) (rs++[.ref td]) (as.map V.int) us++L)):=(Ow.front _ _ _ O).perm (List.Perm.append_left (RX C A (exB ⟨Z.ld,lk',Z.lr,lg',.ref tl⟩) r S.day ls S.ns vs) (List.Perm.cons (lg',HO.lst ((grt gs cs).map V.int)) (List.Perm.swap (lk',HO.lst (as.map V.int)) (Z.lr,HO.lst (rs++[V.ref td])) _)));refine ⟨_,rfl,A.p,A.dx,_,rfl,O.get 0,rfl,A,exB ⟨Z.ld,lk',Z.lr,lg',.ref tl⟩,Hc1,_,r,S,rfl,⟨ls,vs,O,d0,d1⟩,⟨hp.rv,hp.r40,hp.nn,hp.l60,hp.dl,by show 5<=100;decide,Sg _⟩,fun S2 e7 Hd H7 sd ra=>?_,fun k e7=>by cases e7⟩;cases e7;exact ⟨_,rfl,q t ⟨Z.ld,lk',Z.lr,lg',.ref tl⟩ Hd H7 as cs' td (sx.trans sd) rfl hal (hless.trans hcl) ra (dR'.mo sd)⟩
theorem MP (h:rC r l):rR r l:=⟨⟨h.1.2.2.1,h.1.2.2.2.1,h.2.elim .inl fun z=>.inr (List.mem_of_mem_drop z)⟩,h.1.2.2.2.2.1⟩
abbrev lV:Stmt:=inClass (top 81) 9
theorem zx:aG ["self","number","start"] ["self","number","start"] (ao lV):=by walk_at "sc"
inductive Wd (K:PySem.W.Frag)(T:fJ)(C cF cH:Addr)(vs:List V)(H:Hp)(Q:VK)(E:XK):Prop
 | mk (A:Rs)(Z:Bx)(day:Int)(r:List Int)(us:List V)(ls:List Lic)(n:Nat)(l:Lic)(st:Int)(pu:List V)(ps:List Pd)(rs:List V)(ds:List (List Int × List Int))(_:vs=[.ref A.p,.int (n:Int),.int st])(_:H A.p=some (Pb C A (exB Z) day))(_:SqL K H A.lb (r.map V.int))(_:Rv.jK r)(_:r.length<=40)(_:SqL K H A.ll us)(_:bY K H us (ls.map Dv))(_:ls[n]?=some l)(_:ls.length<=60)(_:(∀ l∈ls,rR r l))(_:rR r (wst l st))(_:SqL K H Z.ld pu)(_:bY K H pu (ps.map dMv))(_:ps.length<=900)(_:SqL K H Z.lr rs)(_:bY K H rs (ds.map Ku))(_:ds.length<=900)(_:Nq r ls.length ds)(_:TabsOk T H)(_:(∀ H',aJ T H H'->Q .non H'))(_:(∀ (e:Addr)(H':Hp),aJ T H H'->H' e=none->E (.ref cF) (some e) H'))(_:(∀ (e:Addr)(H':Hp),aJ T H H'->H' e=none->E (.ref cH) (some e) H'))
variable (Jz:(CX0|||8) Di Ds ["below","roll","number","start","record"] (Lj K T))
variable {lZ:Addr}{mz:FuncData}(cU:Dm K C "look_move" "Book.look_move" lV ["self","number","start"] lZ mz)
include aL cV bI j6 ou Jz cU in
theorem ado (DQ:yX K mg "Fixed" cF)(DP:yX K mg "Harms" cH):((CXE P w)|||9) lZ mz ["self","number","start"] (Wd K T C cF cH):=by
 have R:=cV
 refine cU.F.okX zx ?_ ?_
 walk_at "i"
 obtain ⟨A,Z,day,r,us,ls,n,l,st,pu,ps,rs,ds,rfl,hp,hV,hR,r40,hL,d0,hl,h60,hlo,hlo',hD,dP,hp9,hLr,dR,hd9,hrec,tk,q,qF,qH⟩:=h
 refine ⟨_,(@cM _ _ _ _ _ _ _ _ (iy (cj (pv 0) cV.c bI.m j6 hr.m bI.b .nil jw (pv 1>=>ak)))
   (~~~(dF fO rfl (fun _ _ z=>z) rfl DQ.m DQ.q (cO>=>ak)))
   bA<|>(~~~(@cM _ _ _ _ _ _ _ _ (aR Q6 (ou<*Jz<*(aV (pv 0) rfl>=>aV (pv 0) rfl>=>pv 1>=>pv 2>=>aV (pv 0) rfl>=>ak)) yE (bf _))
   (~~~(dF fO rfl (fun _ _ z=>z) rfl DP.m DP.q (cO>=>ak)))
   bA))),?_⟩
 refine ⟨_,rfl,A.p,A.dx,_,rfl,hp,rfl,_,rfl,A,Z,day,(n:Int),pu,ps,rfl,hp,hD,dP,hp9,tk,fun H1 s1=>?_⟩
 refine ⟨_,rfl,ifB (fun _=>⟨szl,fun e he=>qF e H1 s1 he⟩) (fun _=>?_)⟩
 have hp:=s1.keep _ _ hp (fun _ z=>nomatch z)
 refine ⟨_,rfl,A.p,C,A.dx,_,.ref A.lb,rfl,hp,aL.c,aL.nB,rfl,_,rfl,A.p,C,A.dx,_,.ref A.ll,rfl,hp,aL.c,aL.nL,rfl,_,rfl,_,rfl,_,rfl,A.p,C,A.dx,_,.ref Z.lr,rfl,hp,R.c,R.nR,rfl,A.lb,A.ll,.ref Z.lr,us,r,ls,n,l,st,ds,rfl,⟨s1.seq hV,hR,by omega⟩,s1.seq hL,d0.mo s1,hl,by omega,hlo,hlo',.list (s1.seq hLr) (dR.mo s1),by omega,hrec,s1.t1,fun H2 s2=>?_,fun t xs H2 s2 ht=>?_⟩
 ·exact ⟨rfl,_,rfl,yp (q H2 (s1.trans s2))⟩
 ·exact ⟨rfl,_,rfl,vP ⟨szl,fun e he=>qH e H2 (s1.trans s2) he⟩⟩
inductive Lf (K:PySem.W.Frag)(T:fJ)(C:Addr)(c:Ec)(cF cH:Addr)(vs:List V)(H:Hp)(Q:VK)(E:XK):Prop
 | mk (A:Rs)(Z:Bx)(H0:Hp)(B:List (Addr × HO))(r:List Int)(S:RS)(gs rs ks us:List V)(ps:List Pd)(ds:List (List Int × List Int))(n:Int)(y:Str)(st:Int)(_:vs=[.ref A.p,.int n,.str y,.int st])(_:RA K T C A (exB Z) r H0 H (BL Z gs rs ks us++B) S)(_:RP r (exB Z) S)(_:bY K H0 us (ps.map dMv))(_:ps.length<=900)(_:bY K H0 rs (ds.map Ku))(_:ds.length<=900)(_:Nq r S.ls.length ds)(_:(∀ l∈S.ls,rR r l))(_:After K T C c A (exB Z) r H0 H (BL Z gs rs ks us++B) S (.move n y st) .non Q E)(_:(∀ (e:Addr)(H':Hp),aJ T H H'->H' e=none->E (.ref cF) (some e) H'/\E (.ref cH) (some e) H'))
variable (rZ:((CXE P w)|||9) lZ mz ["self","number","start"] (Wd K T C cF cH))
include bU aL au cB aQ cA jD jE cX cV cU rZ in
theorem U7 (B:Blt mg):((CXE P w)|||10) qM qX ["self","number","holder","start"] (Lf K T C c cF cH):=by
 have R:=aL
 refine cX.F.okX oF ?_ ?_
 walk_at "i"
 obtain ⟨A,Z,H0,L,r,S,gs,rs,ks,pu,ps,ds,n,y,st,rfl,⟨us,vs,O,d0,d1⟩,hp,dP,hp9,dR,hd9,hrec,hlo,q,qF⟩:=h
 have hul:us.length=S.ls.length:=by rw [d0.length,aeu]
 have hvl:vs.length=S.ds.length:=by rw [d1.length,aeu]
 have hnn:=hp.nn
 have hdl:=hp.dl
 have hr40:=hp.r40
 obtain ⟨qN,qY⟩:=After.En (n:=n) (y:=y) q rfl hnn
 have sA:=aJ.refl O.same.t1
 refine ⟨_,(aM (cj (pv 0) aL.c au.m aQ hr.m au.b .nil jX (pv 1>=>pv 2>=>ak))<|>4<$>oF<$>(cB<*jD<*(@aZ _ _ _ _ _ _ _ aU (aV (pv 0) rfl) (pv 1) (fun _ _=>rfl)>=>pv 3>=>ak))<|>@cM _ _ _ _ _ _ _ _ (jq (iy (bU<*jE<*(aV (pv 0) rfl>=>pv 4>=>ak))))
   (~~~(dF fO rfl (fun _ _ z=>z) rfl cA.m cA.q (cO>=>ak)))
   bA<|>aM (cj (pv 0) cV.c cU.m rZ hr.m cU.b .nil jX (pv 1>=>pv 3>=>ak))<|>gQ (pv 4) (pX (aV (pv 0) rfl) (pv 1) set_list)<|>(~~~(aM (kh agn ago agp bC (aV (pv 0) rfl) (@fH _ _ _ _ _ (cO>=>pv 1>=>pv 2>=>pv 3>=>ak)>=>ak))))),?_⟩
 refine ⟨_,rfl,A.p,A.dx,_,rfl,O.get 0,(by exact hp.ex.hol),_,rfl,_,rfl,A,exB Z,S.day,us,S.ns,n,y,rfl,O.get 0,O.sq 3,O.sq 4,by omega,hp.ex,O.same.t1,fun h0 h1 hx=>?_,qN,qY⟩
 have hst:step r S (.move n y st)=_:=DG h0 (by omega) hx
 obtain ⟨k,rfl⟩:=agA h0
 obtain ⟨l,hl⟩:∃ l,S.ls[k]?=some l:=⟨_,af9 (by omega)⟩
 obtain ⟨al,hal,hT⟩:=d0.rO hl
 rw [Fb rfl hl,agm] at hst
 refine ⟨_,rfl,A.p,C,A.dx,_,.ref A.ll,rfl,O.get 0,R.c,R.nL,rfl,_,rfl,A.ll,_,_,_,rfl,rfl,O.sq 3,dU hal,_,rfl,al,l,st,rfl,hT.mo O.same,fun t1 ht1=>?_⟩
 have sA:=sA.upd (o':=.tup (vq (wst l st))) ht1 (.inl ht1)
 have O:=O.mk' ht1 (o:=.tup (vq (wst l st))) rfl
 refine ⟨_,rfl,A.p,C,A.dx,_,.ref A.lb,rfl,O.get 1,R.c,R.nB,rfl,_,rfl,A.lb,t1,r,wst l st,rfl,O.sq 3,hp.rv,by omega,O.sqT 0,O.same.t1,fun b H2 s2 hb2=>?_⟩
 have O:=O.dD s2
 have sA:=sA.trans s2
 refine ⟨_,rfl,?_⟩
 cases b with
 | false =>
  refine vP ⟨szl,fun e he=>?_⟩
  exact q.2 .licence (hst.trans (if_pos fun h=>nomatch hb2.mpr h)) e _ sA he
 | true =>
  refine yp ?_
  have hst:=hst.trans (if_neg (not_not_intro (hb2.mp rfl)))
  refine ⟨_,rfl,A.p,A.dx,_,rfl,O.get 1,(by exact hp.ex.lmv),_,rfl,_,rfl,A,Z,S.day,r,us,S.ls,k,l,st,pu,ps,rs,ds,rfl,O.get 1,O.sq 3,hp.rv,hr40,O.sq 4,d0.mo O.same,hl,hp.l60,hlo,MP (hb2.mp rfl),O.sq 10,dP.mo O.same,hp9,O.sq 8,dR.mo O.same,hd9,hrec,O.same.t1,fun H3 s3=>?_,fun e H' s' he=>(qF e H' (sA.trans s') he).1,fun e H' s' he=>(qF e H' (sA.trans s') he).2⟩
  have O:=O.dD s3
  have sA:=sA.trans s3
  refine ⟨_,rfl,_,rfl,A.p,C,A.dx,_,.ref A.ll,rfl,O.get 1,R.c,R.nL,rfl,_,rfl,?_⟩
  refine uc O 4 rfl (gZ (by omega)) fun H6 O=>?_
  refine ⟨_,rfl,A.p,C,A.dx,_,.ref A.lo,rfl,O.get 1,R.c,R.nO,rfl,.inl ⟨rfl,_,O.sq 6⟩,_,rfl,_,rfl,_,rfl,szl,fun t2 ht2=>?_⟩
  walk_at "nw"
  refine ⟨A.lo,_,_,rfl,rfl,O.get 7,aH (by omega),?_⟩
  generalize hE:upd _ _ _=Hn
  have O:=Ow.wQ O 7 rfl hE rfl
  clear hE
  obtain ⟨Hb,O,sb,e2⟩:=(show Ow T H0 Hn ((t2,.tup [.str "move",.int (k:Int),.str y,.int st])::(t1,.tup (vq (wst l st)))::(RX C A (exB Z) r S.day (us.set k (.ref t1)) S.ns (vs++[V.ref t2])++(BL Z gs rs ks pu++L))) from O).frz
  obtain ⟨Hc,O,sc,e1⟩:=O.frz
  have e2:=sc.keep _ _ e2 (fun _ z=>nomatch z)
  have sx:=sb.trans sc
  refine q.1 _ hst Hc _ sx ⟨us.set k (.ref t1),vs++[V.ref t2],O,?_,?_⟩
  ·rw [agV]
   exact (d0.mo sx).set (Den.lic (l:=wst l st) (SqT.of e1)) k
  ·rw [aga]
   exact (d1.mo sx).append (.cons (.tuple (SqT.of e2) (.cons (.str _) (.cons (.int _) (.cons (.str _) (.cons (.int _) .nil))))) .nil)
abbrev qp:Stmt:=top 87
theorem Ed:aG ["x","great"] ["x","great"] (ao qp):=by walk_at "sc"
inductive abf (vs:List V)(H:Hp)(Q:VK)(E:XK):Prop
 | mk (x:Int)(g:Bool)(_:vs=[.int x,.bl g])(_:0<=x)(_:x<8589934592)(_:∀ y:Int,0<=y->y<=1000000000000->Q (.int y) H)
variable {qL:Addr}{qW:FuncData}(bM:Df K mg "_law_amount" qp ["x","great"] qL qW)
include bM in
theorem afg:(CX0|||1) qL qW ["x","great"] abf:=by
 refine bM.F.ok Ed ?_ ?_
 walk_at "i"
 obtain ⟨x,g,rfl,x0,x1,q⟩:=h
 refine ⟨_,(@cM _ _ _ _ _ _ _ _ (iy (pv 1))
   (~~~(@aP _ _ _ _ (@bD _ _ _ _ _ _ _ _ gb (@bD _ _ _ _ _ _ _ _ Ez (pv 0) (pv 0)) (@bD _ _ _ _ _ _ _ _ ud (@bD _ _ _ _ _ _ _ _ Wi aA aA) aA))))
   bA<|>(~~~(@aP _ _ _ _ (@bD _ _ _ _ _ _ _ _ gb (pv 0) aA)))),?_⟩
 have e12:(10:Int) ^ (12:Int).toNat+1=1000000000001:=by decide
 refine ⟨_,rfl,_,rfl,?_⟩
 cases g with
 | true =>
  refine vP ⟨_,rfl,_,rfl,_,_,rfl,rfl,.inl ⟨by omega,by omega⟩,_,_,rfl,rfl,⟨by decide,by decide,by decide⟩,_,_,rfl,rfl,_,_,rfl,rfl,(by show (0:Int)<10 ^ (12:Int).toNat+1;rw [e12];decide),?_⟩
  have a0:=agW (x*x) (show (1000000000001:Int)≠0 by decide)
  have a1:=agP (x*x) (show (0:Int)<1000000000001 by decide)
  show Q (.int (x*x % (10 ^ (12:Int).toNat+1))) H
  rw [e12]
  exact q _ a0 (by omega)
 | false =>
  exact yp ⟨_,rfl,_,_,rfl,rfl,(by show (0:Int)<9;decide),q _ (by omega) (by omega)⟩
theorem ab4 (x y:Str):(x++y).cps.toList=x.cps.toList++y.cps.toList:=by
 show (x.cps++y.cps).toList=_;simp
theorem aeh {i:Int}(h0:0<=i)(h1:i<26):("abcdefghijklmnopqrstuvwxyz":Str).cps[i.toNat]?=some (97+i.toNat):=by
 have h:∀ k:Fin 26,("abcdefghijklmnopqrstuvwxyz":Str).cps[k.val]?=some (97+k.val):=by decide+kernel
 exact h ⟨i.toNat,by omega⟩
theorem vG (h:oR x):Asc x:=⟨by
 rw [Array.all_eq_true_iff_forall_mem];intro c hc;have:=h.2.2 c (by simpa using hc);simp only [decide_eq_true_eq];omega,by have:=h.2.1;omega⟩
theorem M9 (z:Array Nat):∀ (n:Nat)(acc:Array Nat),((List.replicate n z).foldl (·++·) acc).toList=acc.toList++(List.replicate n z.toList).flatten
 | 0,acc=>by simp
 | n+1,acc=>by
  rw [agZ,List.foldl_cons,M9 z n,agZ,ahl];simp
theorem afh (c:Nat)(h:0<=n):(Txt.mul (⟨#[c]⟩:Str) n).cps.toList=List.replicate n.toNat c:=by
 unfold Txt.mul;by_cases h1:n<1
 ·rw [if_pos h1,show n.toNat=0 by omega];rfl
 ·rw [if_neg h1];by_cases h2:n=1
  ·subst h2;rfl
  ·rw [if_neg (by
    simp only [Bool.or_eq_true,beq_iff_eq,not_or];exact ⟨h2,by intro z;exact absurd (show (1:Nat)=0 from z) (by decide)⟩)]
   show ((List.replicate n.toNat (#[c]:Array Nat)).foldl (·++·) #[]).toList=_;rw [M9];simp
abbrev wI:Stmt:=top 88
theorem Ac:aG ["x","letters"] ["x"] (ao wI):=by walk_at "sc"
inductive Lg (vs:List V)(H:Hp)(Q:VK)(E:XK):Prop
 | mk (n:Int)(_:vs=[.int n])(_:0<=n)(_:∀ (x:Str),oR x->Q (.str x) H)
variable {w5:Addr}{xT:FuncData}(eV:Df K mg "_law_name" wI ["x"] w5 xT)
include eV in
theorem UJ:(CX0|||1) w5 xT ["x"] Lg:=by
 refine eV.F.ok Ac ?_ ?_;walk_at "i";obtain ⟨n,rfl,n0,q⟩:=h;refine ⟨_,(1<$>Ac<$>cO<|>(~~~(@aP _ _ _ _ (@bD _ _ _ _ _ _ _ _ Oh (Ck (pv 1) (@bD _ _ _ _ _ _ _ _ gb (pv 0) aA) (fun _ _=>rfl)) (@bD _ _ _ _ _ _ _ _ abv (Ck (pv 1) (@bD _ _ _ _ _ _ _ _ gb (@bD _ _ _ _ _ _ _ _ pB (pv 0) aA) aA) (fun _ _=>rfl)) (@bD _ _ _ _ _ _ _ _ gb (@bD _ _ _ _ _ _ _ _ pB (pv 0) aA) aA)))))),?_⟩;have a0:=agW n (show (26:Int)≠0 by decide);have a1:=agP n (show (0:Int)<26 by decide);have b0:=agW (n / 26) (show (26:Int)≠0 by decide);have b1:=agP (n / 26) (show (0:Int)<26 by decide);have c0:=agW (n / 676) (show (8:Int)≠0 by decide);have c1:=agP (n / 676) (show (0:Int)<8 by decide);refine ⟨_,rfl,_,rfl,_,_,rfl,rfl,(by show (0:Int)<26;decide),_,_,_,rfl,rfl,a0,(by show n % 26<2 ^ 63;omega),a1,aeh a0 a1,?_⟩;refine ⟨_,rfl,_,rfl,_,_,rfl,rfl,⟨by decide,by decide⟩,_,_,rfl,rfl,(by show (0:Int)<26;decide),_,_,_,rfl,rfl,b0,(by show n / 26 % 26<2 ^ 63;omega),b1,aeh b0 b1,?_⟩;refine ⟨_,rfl,_,_,rfl,rfl,⟨by decide,by decide⟩,_,_,rfl,rfl,(by show (0:Int)<8;decide),?_⟩;refine ⟨_,_,rfl,rfl,c0,(by show n / 676 % 8<=_;omega),(by show 1<=_;decide),?_⟩;have m:=afh (97+(n / 26 % 26).toNat) c0;have ml:(Txt.mul (⟨#[97+(n / 26 % 26).toNat]⟩:Str) (n / 676 % 8)).cps.size=(n / 676 % 8).toNat:=by
  rw [<- agY,m,agO]
 refine ⟨_,_,rfl,rfl,?_,q _ ?_⟩
 ·show (1:Nat)+(Txt.mul (⟨#[97+(n / 26 % 26).toNat]⟩:Str) (n / 676 % 8)).cps.size<=_;rw [ml];exact agS (show 1+(n / 676 % 8).toNat<=9 by omega) (by decide)
 ·have ls:=ab4 (⟨#[97+(n % 26).toNat]⟩:Str) (Txt.mul (⟨#[97+(n / 26 % 26).toNat]⟩:Str) (n / 676 % 8));rw [m] at ls;have lz:=congrArg List.length ls;rw [agY] at lz;simp only [agh,agO,ahK] at lz;refine ⟨?_,?_,fun c hc=>?_⟩
  ·omega
  ·omega
  ·rw [ls] at hc;simp only [agw,List.mem_replicate,agE] at hc;omega
section
variable {S S':RS}{n:Int}{y:Str}{k:Except EK RS}{r:List Int}{d:Ea}
theorem oO (h:S.En n y k=.ok S'):0<=n/\n<S.ls.length/\S.ns[n.toNat]?=some y/\k=.ok S':=by
 unfold RS.En at h;split at h
 ·cases h
 ·rename_i h1
  split at h
  ·cases h
  ·rename_i h2
   have h1:=ag5.mp h1;exact ⟨h1.1,h1.2,ag5.mp h2,h⟩
theorem Vr {x:Str}{s m b:Int}(h:step r S (.file x s m b)=.ok S'):S'=⟨S.day,S.ls++[⟨S.day,s,b,m⟩],S.ns++[x],S.ds++[.file x s m b]⟩:=by
 simp only [step] at h
 repeat' split at h
 all_goals first| (cases h;done) | (cases h;rfl)
theorem Lx {z:Str}(h:step r S (.sell n y z)=.ok S'):0<=n/\n<S.ls.length/\S'=⟨S.day,S.ls,S.ns.set n.toNat z,S.ds++[.sell n y z]⟩:=by
 obtain ⟨h0,h1,-,h⟩:=oO h;split at h
 ·cases h
 ·cases h;exact ⟨h0,h1,rfl⟩
theorem Uu {m:Int}{z:Str}(h:step r S (.part n y m z)=.ok S'):0<=n/\n<S.ls.length/\S'=⟨S.day,S.ls.set n.toNat (wm (S.at_ n) ((S.at_ n).most - m))++[wm (S.at_ n) m],S.ns++[z],S.ds++[.part n y m z]⟩:=by
 obtain ⟨h0,h1,-,h⟩:=oO h
 repeat' split at h
 all_goals first| (cases h;done) | (cases h;exact ⟨h0,h1,rfl⟩)
theorem GR (h:step r S (.drop n y)=.ok S'):0<=n/\n<S.ls.length/\S'=⟨S.day,S.ls.set n.toNat (wm (S.at_ n) 0),S.ns,S.ds++[.drop n y]⟩:=by
 obtain ⟨h0,h1,-,h⟩:=oO h;cases h;exact ⟨h0,h1,rfl⟩
theorem Mz {s:Int}(h:step r S (.move n y s)=.ok S'):0<=n/\n<S.ls.length/\S'=⟨S.day,S.ls.set n.toNat (wst (S.at_ n) s),S.ns,S.ds++[.move n y s]⟩:=by
 obtain ⟨h0,h1,-,h⟩:=oO h;split at h
 ·cases h
 ·cases h;exact ⟨h0,h1,rfl⟩
theorem Jc {xs:List Int}(h:step r S (.lapse xs)=.ok S'):xs.length=S.ls.length/\S'=⟨S.day,pZ S.ls xs,S.ns,S.ds++[.lapse xs]⟩:=by
 simp only [step] at h;split at h
 ·cases h
 ·rename_i h1
  split at h
  ·cases h
  ·cases h;exact ⟨ag5.mp h1,rfl⟩
end
theorem K8 (h:step r S d=.ok S'):(d=.turn/\S'.day=S.day+1)\/(d≠.turn/\S'.day=S.day):=by
 cases d with
 | turn=>cases h;exact .inl ⟨rfl,rfl⟩
 | file x s m b=>exact .inr ⟨(fun z=>nomatch z),by rw [Vr h]⟩
 | sell n y z=>exact .inr ⟨(fun z=>nomatch z),by rw [(Lx h).2.2]⟩
 | part n y m z=>exact .inr ⟨(fun z=>nomatch z),by rw [(Uu h).2.2]⟩
 | drop n y=>exact .inr ⟨(fun z=>nomatch z),by rw [(GR h).2.2]⟩
 | move n y s=>exact .inr ⟨(fun z=>nomatch z),by rw [(Mz h).2.2]⟩
 | lapse xs=>exact .inr ⟨(fun z=>nomatch z),by rw [(Jc h).2]⟩
structure At9 (r:List Int)(S:RS)(i:Nat):Prop where
 rp:RP r [] S
 r1:1<=r.length
 re:replay r RS.new S.ds=.ok S
 le:S.ds.length<=i
 ok:∀ d∈S.ds,wA d
 na:∀ x∈S.ns,oR x/\Asc x
 lo:∀ l∈S.ls,rC r l
 d0:0<=S.day
 d1:S.day<=(i:Int)
 ll:S.ls.length<=i
theorem Rw (h:∀ l∈S.ls,rC r l)(h0:0<=n)(h1:n<S.ls.length):rC r (S.at_ n):=by
 obtain ⟨k,rfl⟩:=agA h0;obtain ⟨l,hl⟩:∃ l,S.ls[k]?=some l:=⟨_,af9 (by omega)⟩;rw [Fb rfl hl];exact h l (agd hl)
theorem rC.wm {m:Int}(h:rC r l)(h0:0<=m)(h1:m<=l.most):rC r (wm l m):=⟨⟨h.1.1,h.1.2.1,h.1.2.2.1,h.1.2.2.2.1,h0,Int.le_trans h1 h.1.2.2.2.2.2⟩,h.2⟩
theorem abb (h:step r S d=.ok S')(hl:∀ l∈S.ls,rC r l):∀ l∈S'.ls,rC r l:=by
 have ap:∀ {l2:Lic}{ls:List Lic},(∀ l∈ls,rC r l)->rC r l2->∀ l∈ls++[l2],rC r l:=fun h1 h2 l hl=>by
  rcases agw.mp hl with z| z
  ·exact h1 l z
  ·rw [agE.mp z];exact h2
 have st:∀ {l2:Lic}{k:Nat},rC r l2->∀ l∈S.ls.set k l2,rC r l:=fun h2 l hl'=>by
  rcases ahs hl' with z| z
  ·exact hl l z
  ·rw [z];exact h2
 cases d with
 | turn=>cases h;exact hl
 | file x s m b =>
  simp only [step] at h;split at h
  ·cases h
  ·split at h
   ·cases h
   ·rename_i h2
    split at h
    ·cases h
    ·cases h;exact ap hl (ag5.mp fun z=>h2 (.inr z))
 | sell n y z=>obtain ⟨_,_,e⟩:=Lx h;subst e;exact hl
 | part n y m z =>
  obtain ⟨h0,h1,_,h⟩:=oO h;have g:=Rw hl h0 h1;split at h
  ·cases h
  ·split at h
   ·cases h
   ·rename_i h2
    have h2:=ag5.mp h2;split at h
    ·cases h
    ·split at h
     ·cases h
     ·cases h;exact ap (st (g.wm (by omega) (by omega))) (g.wm (by omega) (by omega))
 | drop n y =>
  obtain ⟨h0,h1,e⟩:=GR h;subst e;have g:=Rw hl h0 h1;exact st (g.wm (by decide) g.1.2.2.2.2.1)
 | move n y s =>
  obtain ⟨h0,h1,_,h⟩:=oO h;split at h
  ·cases h
  ·rename_i h2
   cases h;exact st (ag5.mp h2)
 | lapse xs =>
  simp only [step] at h;split at h
  ·cases h
  ·split at h
   ·cases h
   ·rename_i h2
    have h2:=ag5.mp h2;cases h;intro l hl';show rC r l;have hl':l∈pZ S.ls xs:=hl';unfold pZ at hl';obtain ⟨i,hi⟩:=ahO hl';rw [List.getElem?_zipWith] at hi;cases e1:S.ls[i]? with
    | none=>rw [e1] at hi;cases hi
    | some l1 =>
     cases e2:xs[i]? with
     | none=>rw [e1,e2] at hi;cases hi
     | some x =>
      rw [e1,e2] at hi;have hi:=agz hi;have g:=hl l1 (agd e1);have hx:=h2 x (agd e2);have hm:=g.1.2.2.2.2.1;rw [<- hi];exact g.wm (by rw [Int.min_def];split <;>omega) (Int.min_le_left _ _)
theorem aa9 (h:step r S d=.ok S')(hd:wA d)(hn:∀ x∈S.ns,oR x/\Asc x):∀ x∈S'.ns,oR x/\Asc x:=by
 have ap:∀ {z:Str},oR z->Asc z->∀ x∈S.ns++[z],oR x/\Asc x:=fun h1 h2 x hx=>by
  rcases agw.mp hx with e| e
  ·exact hn x e
  ·rw [agE.mp e];exact ⟨h1,h2⟩
 cases d with
 | file x s m b =>
  simp only [step] at h;split at h
  ·cases h
  ·rename_i h1
   have h1:=ag5.mp h1
   repeat' split at h
   all_goals first| (cases h;done) | (cases h;exact ap h1 hd)
 | sell n y z =>
  obtain ⟨_,_,_,h⟩:=oO h;split at h
  ·cases h
  ·rename_i h1
   have h1:=ag5.mp h1;cases h;intro x hx;rcases ahs hx with e| e
   ·exact hn x e
   ·rw [e];exact ⟨h1,hd.2⟩
 | part n y m z =>
  obtain ⟨_,_,_,h⟩:=oO h;split at h
  ·cases h
  ·rename_i h1
   have h1:=ag5.mp h1
   repeat' split at h
   all_goals first| (cases h;done) | (cases h;exact ap h1 hd.2)
 | turn=>cases h;exact hn
 | drop n y=>obtain ⟨_,_,e⟩:=GR h;subst e;exact hn
 | move n y s=>obtain ⟨_,_,e⟩:=Mz h;subst e;exact hn
 | lapse xs=>obtain ⟨_,e⟩:=Jc h;subst e;exact hn
theorem At9.step (h:At9 r S i)(hi:i<=100)(hs:step r S d=.ok S')(hd:wA d):At9 r S' (i+1):=by
 have e:=JR hs;have h0:=h.d0;have h1:=h.d1;have h2:=h.ll;have h3:=h.le;refine ⟨Qe h.rp (by omega) hs,h.r1,?_,by rw [e,agh];simp only [agx,agU];omega,fun x hx=>?_,aa9 hs hd h.na,abb hs h.lo,?_,?_,?_⟩
 ·rw [e,wO h.re];exact hs
 ·rw [e] at hx;rcases agw.mp hx with z| z
  ·exact h.ok x z
  ·rw [agE.mp z];exact hd
 ·rcases K8 hs with ⟨_,z⟩ | ⟨_,z⟩<;>omega
 ·rcases K8 hs with ⟨_,z⟩ | ⟨_,z⟩<;>omega
 ·obtain ⟨_,_,z⟩:=K7 hs h.rp.nn h.rp.l60;omega
theorem abd (h:step r S d=.ok S'):S.ls.length<=S'.ls.length:=by
 cases d <;>simp only [step,RS.En] at h <;>(repeat' split at h)<;>first| (cases h;done) | (cases h;simp only [agh,agG,agx,agU,pZ,ahn] at*;omega)
theorem At9.mono (h:At9 r S i)(hj:i<=j):At9 r S j:=⟨h.rp,h.r1,h.re,agS h.le hj,h.ok,h.na,h.lo,h.d0,Int.le_trans h.d1 (Int.ofNat_le.mpr hj),agS h.ll hj⟩
structure Bk (r:List Int)(S:RS)(gs ks:List Int)(ps:List Pd)(ds:List (List Int × List Int))(i:Nat):Prop where
 a:At9 r S i
 gl:gs.length<=S.ls.length
 gw:Wat gs
 pk:ps.length=ks.length
 pl:ps.length<=i
 pb:∀ p∈ps,0<=p.1/\p.1<(S.ls.length:Int)/\0<=p.2.2/\p.2.2<=1000
 dl:ds.length<=i
 dr:Nq r S.ls.length ds
variable {gs ks:List Int}{ps:List Pd}{ds:List (List Int × List Int)}
theorem Bk.step (h:Bk r S gs ks ps ds i)(hi:i<=100)(hs:step r S d=.ok S')(hd:wA d):Bk r S' gs ks ps ds (i+1):=by
 have e:=abd hs;have h1:=h.gl;have h2:=h.pl;have h3:=h.dl;exact ⟨h.a.step hi hs hd,by omega,h.gw,h.pk,by omega,fun p hp=>by have:=h.pb p hp;omega,by omega,fun d hd=>by have:=h.dr d hd;omega⟩
theorem Bk.lic (h:Bk r S gs ks ps ds i):∀ l∈S.ls,rR r l:=fun l hl=>MP (h.a.lo l hl)
theorem At9.rpB (h:At9 r S i)(Z:Bx):RP r (exB Z) S:=⟨h.rp.rv,h.rp.r40,h.rp.nn,h.rp.l60,h.rp.dl,(show (5:Nat)<=100 by decide),Sg Z⟩
inductive BkA (K:PySem.W.Frag)(T:fJ)(C:Addr)(A:Rs)(Z:Bx)(r:List Int)(H0 H:Hp)(B:List (Addr × HO))(i:Nat):Prop
 | mk (S:RS)(gs ks:List Int)(ps:List Pd)(ds:List (List Int × List Int))(rs us:List V)(_:RA K T C A (exB Z) r H0 H (BL Z (gs.map V.int) rs (ks.map V.int) us++B) S)(_:bY K H0 us (ps.map dMv))(_:bY K H0 rs (ds.map Ku))(_:Bk r S gs ks ps ds i)
variable {Z:Bx}
theorem BkA.call (h:BkA K T C A Z r H0 H B i)(s:aJ T H H'):BkA K T C A Z r H0 H' B i:=by
 obtain ⟨S,gs,ks,ps,ds,rs,us,⟨a,b,O,d0,d1⟩,e,e2,e3⟩:=h;exact ⟨S,gs,ks,ps,ds,rs,us,⟨a,b,O.dD s,d0,d1⟩,e,e2,e3⟩
def JF (c:Ec)(cP cF cH x:Addr):Prop:=(∃ k,x=c.at_ k)\/x=cP\/x=cF\/x=cH
theorem aeb {d:List Int × List Int}(h:Den K H v (Ku d)):aem K H v d:=by
 obtain ⟨t,zs,rfl,hT,dz⟩:=Den.jm h;obtain ⟨v1,u1,rfl,e1,dz⟩:=dz.cons_inv;obtain ⟨v2,u2,rfl,e2,dn⟩:=dz.cons_inv;obtain rfl:=dn.nil_inv;obtain ⟨a,rfl,hA⟩:=e1.vJ;obtain ⟨b,rfl,hB⟩:=e2.vJ;exact ⟨t,a,b,rfl,hT,hA,hB⟩
theorem BkA.at_ (h:BkA K T C A Z r H0 H B i):∃ day,H A.p=some (Pb C A (exB Z) day):=by
 obtain ⟨S,gs,ks,ps,ds,rs,us,⟨a,b,O,d0,d1⟩,e⟩:=h;exact ⟨S.day,O.get 0⟩
theorem BkA.afK {E:XK}(h:BkA K T C A Z r H0 H B i)(hi:i<=60)(q:∀ l us H',aJ T H H'->SqL K H' l us->Q (.ref l) H'):Ql K T C [.ref A.p] H Q E:=by
 obtain ⟨S,gs,ks,ps,ds,rs,us,⟨a,b,O,d0,d1⟩,dP,dR,hk⟩:=h;have hl:=dR.length;rw [aeu] at hl;have h1:=hk.dl;refine ⟨A,Z,S.day,rs,ds,rfl,O.get 0,O.sq 7,hl.symm,by omega,fun k v d hv hd=>?_,O.same.t1,fun l us Hb H' s O' _=>q l us H' (s.trans O'.same) (O'.sq 0)⟩;obtain ⟨d',e,hD⟩:=dR.get' hv;rw [agg,hd] at e;cases e;exact aeb (Den.Cz O.same hD)
theorem Bk.abn {room:Int}(h:Bk r S gs ks ps ds i)(e:Gn S ps n y room 0=none):Bk r S gs (ks++[0]) (ps++[(n,room,0)]) ds (i+1):=by
 have hn:0<=n/\n<S.ls.length:=by
  unfold Gn at e;split at e
  ·cases e
  ·rename_i z;exact ag5.mp z
 have h2:=h.pl;have h3:=h.dl;have h4:=h.pk;refine ⟨h.a.mono (Nat.le_succ i),h.gl,h.gw,by simp only [agh,ahK];omega,by simp only [agh,ahK];omega,fun p hp=>?_,by omega,h.dr⟩;rcases agw.mp hp with z| z
 ·exact h.pb p z
 ·rw [agE.mp z];exact ⟨hn.1,hn.2,(by decide:(0:Int)<=0),(by decide:(0:Int)<=1000)⟩
theorem Ow.behind (X R Y Z:List (Addr × HO))(O:Ow T H0 H (X++(R++(Y++Z)))):Ow T H0 H (R++(Y++(X++Z))):=(Ow.front X R (Y++Z) O).perm (List.Perm.append_left _ (List.perm_append_comm_assoc Y X Z))
theorem RA.join {X Y:List (Addr × HO)}(h:RA K T C A ex r H0 H (Y++B) S)(O':Ow T H H' X):RA K T C A ex r H0 H' (Y++(X++B)) S:=by
 obtain ⟨us,vs,O,d0,d1⟩:=h;exact ⟨us,vs,Ow.behind X _ Y B (O.join O'),d0,d1⟩
theorem RA.less {X Y:List (Addr × HO)}(h:RA K T C A ex r H0 H (Y++(X++B)) S):RA K T C A ex r H0 H (Y++B) S:=by
 obtain ⟨us,vs,O,d0,d1⟩:=h;exact ⟨us,vs,O.sub (ag4 (ag4 (aht _ _) _) _),d0,d1⟩
theorem afC {H1:Hp}{lx acc:Addr}{g:Bool}{n:Nat}{ti:TE}{Q:Hp->Prop}(hX:SqL K H1 lx (xs.map V.int))(x13:xs.length=13)(hx:∀ x∈xs,0<=x/\x<8589934592)(hn:n<=900)(tk:TabsOk T H1)(hacc:H1 acc=none)(hj:∀ (i:Nat)(H':Hp)(Q':VK),i<n->(∀ j:Nat,j<13->Q' (.int j) H')->ti [some (.int i),some (.bl g),some (.ref lx)] H' Q')(hd:∀ (H':Hp)(ys:List Int),ys.length=n->Wat ys->Ow T H1 H' [(acc,.lst (ys.map V.int))]->Q H'):
  zZ (Itr 0 n) acc (R6 0) aen (aa6 abf [] E0 (Ug (tOp (ae0 K) (ach 2) ti) (Ug (ach 1) acA))) [none,some (.bl g),some (.ref lx)] H1 Q:=by
 refine vL (fun i τ H'=>∃ (v0:Option V)(ys:List Int),τ=[v0,some (.bl g),some (.ref lx)]/\ys.length=i/\Wat ys/\Ow T H1 H' [(acc,.lst (ys.map V.int))]) ⟨none,[],rfl,rfl,(fun x hx=>nomatch hx),(Ow.refl tk).mk' hacc rfl⟩ ?_ ?_
 ·rintro i τ H4 hi ⟨v0,ys,rfl,hl,hw,O⟩;rw [show (0:Int)+(i:Int)=(i:Int) by omega];refine JH ⟨_,rfl,hj i H4 _ hi fun j hj=>?_⟩;have e:=fU (ns:=xs) (k:=j) (by omega);have h0:=hx _ (agd e);refine ⟨lx,_,_,_,rfl,rfl,O.same.seq hX,cu e,_,rfl,_,g,rfl,h0.1,h0.2,fun y y0 y1=>⟨_,O.get 0,aH (by rw [aeu];omega),?_⟩⟩;have O:=O.abm 0 (o':=.lst (ys.map V.int++[.int y])) rfl rfl;refine ⟨_,ys++[y],rfl,by rw [agh,hl];rfl,fun u hu=>?_,by rw [aga];exact O⟩;rcases agw.mp hu with z| z
  ·exact hw u z
  ·rw [agE.mp z];exact ⟨y0,y1⟩
 ·rintro τ H4 ⟨v0,ys,rfl,hl,hw,O⟩;exact hd H4 ys hl hw O
abbrev jT:Stmt:=top 89
theorem lO:aG ["book","xs","number","holder","great","way"] ["book","xs","number","holder","great"] (ao jT):=by walk_at "sc"
inductive acJ (K:PySem.W.Frag)(T:fJ)(C:Addr)(c:Ec)(cP cF cH:Addr)(vs:List V)(H:Hp)(Q:VK)(E:XK):Prop
 | mk (A:Rs)(Z:Bx)(H0:Hp)(B:List (Addr × HO))(r:List Int)(i:Nat)(lx:Addr)(xs:List Int)(n:Int)(y:Str)(g:Bool)(_:vs=[.ref A.p,.ref lx,.int n,.str y,.bl g])(_:BkA K T C A Z r H0 H B i)(_:i<=60)(_:SqL K H lx (xs.map V.int))(_:xs.length=13)(_:(∀ x∈xs,0<=x/\x<8589934592))(_:Asc y)(_:(∀ (Z':Bx)(Hb H':Hp),aJ T H0 Hb->BkA K T C A Z' r Hb H' B (i+1)->Q .non H'))(_:(∀ x,JF c cP cF cH x->∀ (e:Addr)(H':Hp),aJ T H H'->H' e=none->E (.ref x) (some e) H'))
variable (mU:(CX0|||1) qO qZ ["self"] (Ql K T C))
variable (nT:(CX0|||1) w5 xT ["x"] Lg)
variable (fL:(CX0|||1) qL qW ["x","great"] abf)
variable (DY:((CXE P w)|||3) xK yd ["self","number","holder","room","leak"] (Qm K T C c cP))
variable {nu:Addr}{nJ:FuncData}(eU:Df K mg "_law_old_deed" jT ["book","xs","number","holder","great"] nu nJ)
include bO aL fj eX eY bJ rD rE rH cV jf jF bZ iT bM eV mU nT fL DY eU in
theorem afa {f8:Addr}{fd8:FuncData}(B:Blt mg)(cX:Dm K C "move" "Roll.move" qu ["self","number","holder","start"] f8 fd8)(rF:((CXE P w)|||10) f8 fd8 ["self","number","holder","start"] (Lf K T C c cF cH)):
  ((CXE P w)|||11) nu nJ ["book","xs","number","holder","great"] (acJ K T C c cP cF cH):=by
 obtain ⟨tz,Fz,zb_Book_pond⟩:=jf.F
 refine eU.F.okX lO ?_ ?_
 walk_at "i"
 obtain ⟨A,Z,H0,L,r,i,lx,xs,n,y,g,rfl,hB,hi,hX,x13,hx,hy,q,qx⟩:=h
 refine ⟨_,(5<$>lO<$>(@bD _ _ _ _ _ _ _ _ gb (@aZ _ _ _ _ _ _ _ aU (pv 1) aA (fun _ _=>rfl)) aA)<|>(Ik (@cM _ _ _ _ _ _ _ _ (PW.pt (pw_and (aR kj (pv 5) aA (bf _)) (pw_and1 (aR Uv (aD aB rfl B.len agk (cC (pv 0) cV.c bZ.m mU hr.m bZ.b .nil jw>=>ak)) aA (bf _)))))
   (~~~(5<$>lO<$>aA))
   bA)
  (~~~(@cM _ _ _ _ _ _ _ _ (aR kj (pv 5) aA (bf _))
   (~~~(aM (cj (pv 0) aL.c eX.m rD hr.m eX.b .nil jX (pv 2>=>pv 3>=>eV<*nT<*(@aZ _ _ _ _ _ _ _ aU (pv 1) aA (fun _ _=>rfl)>=>ak)>=>ak))))
   (~~~(@cM _ _ _ _ _ _ _ _ (aR kj (pv 5) aA (bf _))
    (~~~(aM (cj (pv 0) aL.c eY.m rE hr.m eY.b .nil jX (pv 2>=>pv 3>=>bM<*fL<*(@aZ _ _ _ _ _ _ _ aU (pv 1) aA (fun _ _=>rfl)>=>pv 4>=>ak)>=>eV<*nT<*(@aZ _ _ _ _ _ _ _ aU (pv 1) aA (fun _ _=>rfl)>=>ak)>=>ak))))
    (~~~(@cM _ _ _ _ _ _ _ _ (aR kj (pv 5) aA (bf _))
     (~~~(aM (cj (pv 0) aL.c fj.m rH hr.m fj.b .nil jX (pv 2>=>pv 3>=>ak))))
     (~~~(@cM _ _ _ _ _ _ _ _ (aR kj (pv 5) aA (bf _))
      (~~~(aM (cj (pv 0) aL.c cX.m rF hr.m cX.b .nil jX (pv 2>=>pv 3>=>@bD _ _ _ _ _ _ _ _ yF (@bD _ _ _ _ _ _ _ _ gb (@aZ _ _ _ _ _ _ _ aU (pv 1) aA (fun _ _=>rfl)) aA) aA>=>ak))))
      (~~~(@cM _ _ _ _ _ _ _ _ (aR kj (pv 5) aA (bf _))
       (~~~(aM (cj (pv 0) aL.c bJ.m jF hr.m bJ.b .nil jX (fM (ao jT) rfl ["book","xs","number","holder","great","way"] rfl ["k","great","xs"] [none,some 4,some 1] (by decide+kernel) (by decide+kernel) (by decide+kernel) rfl (jW rfl B.range (aD aB rfl B.len agk (cC (pv 0) aL.c bO.m iT hr.m bO.b .nil jw>=>ak)>=>ak)) (fun _ _ _=>(bB (i:=0) (show (["k","great","xs"]:List Str).Nodup by decide+kernel) rfl (Or.inl rfl))) (fun _ _ _=>eG) (fun _ _ _=>(bM<*fL<*(@aZ _ _ _ _ _ _ _ (ji (K:=K) rfl) (pv 2) (@bD _ _ _ _ _ _ _ _ gb (pv 0) aA) (fun _ _=>rfl)>=>pv 1>=>ak)))>=>ak))))
       (~~~(aM (cj (pv 0) cV.c jf.m DY hr.m zb_Book_pond (.cons (show RelV (.int 0) _ from ⟨_,rfl⟩) .nil) jX (pv 2>=>pv 3>=>bM<*fL<*(@aZ _ _ _ _ _ _ _ aU (pv 1) aA (fun _ _=>rfl)>=>pv 4>=>ak)>=>ak)))))))))))))))),?_⟩
 have g0:∀ k:Nat,k<13->xs[k]?=some (xs.getD k 0):=fun k hk=>fU (by omega)
 have gp:∀ k:Nat,k<13->0<=xs.getD k 0/\xs.getD k 0<8589934592:=fun k hk=>hx _ (agd (g0 k hk))
 have tk:TabsOk T H:=by obtain ⟨S,gs,ks,ps,ds,rs,us,⟨a,b,O,_⟩,_⟩:=hB;exact O.same.t1
 obtain ⟨dy,hg⟩:=hB.at_
 refine ⟨_,rfl,lx,_,0,_,rfl,rfl,hX,cu (i:=0) (g0 0 (by decide)),_,_,rfl,rfl,(by show (0:Int)<6;decide),?_⟩
 dsimp only
 generalize xs.getD 0 0 % 6=wy
 refine ⟨fun σ H'=>Iv (∃ wy:Int,σ=[some (.ref A.p),some (.ref lx),some (.int n),some (.str y),some (.bl g),some (.int wy)]/\aJ T H H'),?_,?_⟩
 ·refine ⟨_,rfl,rfl,_,rfl,ifI (fun _=>?_) (fun _=>⟨trivial,wy,rfl,aJ.refl tk⟩)⟩
  refine ⟨_,rfl,A.p,A.dx,_,rfl,hg,rfl,?_⟩
  dsimp only [acA]
  refine hB.afK hi fun l us H1 s1 hl=>⟨l,us,rfl,.inl hl,_,_,rfl,rfl,_,rfl,ifD (fun _=>?_) (fun _=>⟨trivial,wy,rfl,s1⟩)⟩
  exact ⟨trivial,4,rfl,s1⟩
 rintro σ H1 ⟨-,wy,rfl,s1⟩
 have hB:=hB.call s1
 have hX:=s1.seq hX
 have qx:=fun x hx e H' s=>qx x hx e H' (s1.trans s)
 obtain ⟨dy,hg⟩:=hB.at_
 clear s1
 obtain ⟨S,gs,ks,ps,ds,rs,us,hA,dP,dR,hk⟩:=hB
 have hR:=hk.a.rpB Z
 have hpl:=hk.pl
 have hdl:=hk.dl
 have aft:∀ (d:Ea)(v:V),wA d->After K T C c A (exB Z) r H0 H1 (BL Z (gs.map V.int) rs (ks.map V.int) us++L) S d v (fun _ H'=>Q .non H') E:=fun d v hd =>
  ⟨fun S' hs Hb H' sb ra=>q Z Hb H' sb ⟨S',gs,ks,ps,ds,rs,us,ra,dP.mo sb,dR.mo sb,hk.step (by omega) hs hd⟩,fun k _ e H' s he=>qx _ (.inl ⟨k,rfl⟩) e H' s he⟩
 refine ⟨_,rfl,rfl,_,rfl,ifI (fun _=>?_) (fun _=>?_)⟩
 ·exact ⟨_,rfl,A.p,A.dx,_,rfl,hg,rfl,_,rfl,_,rfl,_,rfl,lx,_,1,_,rfl,rfl,hX,cu (i:=1) (g0 1 (by decide)),_,rfl,(gp 1 (by decide)).1,fun z hz=>⟨A,exB Z,H0,_,r,S,n,y,z,rfl,hA,hR,vG hz,aft (.sell n y z) .non ⟨hy,vG hz⟩⟩⟩
 refine ⟨_,rfl,rfl,_,rfl,ifI (fun _=>?_) (fun _=>?_)⟩
 ·exact ⟨_,rfl,A.p,A.dx,_,rfl,hg,rfl,_,rfl,_,rfl,_,rfl,lx,_,1,_,rfl,rfl,hX,cu (i:=1) (g0 1 (by decide)),_,rfl,_,g,rfl,(gp 1 (by decide)).1,(gp 1 (by decide)).2,fun m m0 m1=>⟨_,rfl,lx,_,2,_,rfl,rfl,hX,cu (i:=2) (g0 2 (by decide)),_,rfl,(gp 2 (by decide)).1,fun z hz=>⟨A,exB Z,H0,_,r,S,n,y,m,z,rfl,hA,hR,vG hz,aft (.part n y m z) _ ⟨hy,vG hz⟩⟩⟩⟩
 refine ⟨_,rfl,rfl,_,rfl,ifI (fun _=>?_) (fun _=>?_)⟩
 ·exact ⟨_,rfl,A.p,A.dx,_,rfl,hg,rfl,_,rfl,_,rfl,A,exB Z,H0,_,r,S,n,y,rfl,hA,hR,aft (.drop n y) .non hy⟩
 refine ⟨_,rfl,rfl,_,rfl,ifI (fun _=>?_) (fun _=>?_)⟩
 ·refine ⟨_,rfl,A.p,A.dx,_,rfl,hg,rfl,_,rfl,_,rfl,_,rfl,lx,_,1,_,rfl,rfl,hX,cu (i:=1) (g0 1 (by decide)),_,_,rfl,rfl,(by show (0:Int)<14;decide),_,_,rfl,rfl,?_⟩
  exact ⟨A,Z,H0,L,r,S,_,rs,_,us,ps,ds,n,y,_,rfl,hA,hR,dP,by omega,dR,by omega,hk.dr,hk.lic,aft (.move n y _) .non hy,fun e H' s he=>⟨qx _ (.inr (.inr (.inl rfl))) e H' s he,qx _ (.inr (.inr (.inr rfl))) e H' s he⟩⟩
 refine ⟨_,rfl,rfl,_,rfl,ifI (fun _=>?_) (fun _=>?_)⟩
 ·obtain ⟨lu,lw,OA,dA,dB⟩:=hA
  have hll:=dA.length
  rw [aeu] at hll
  have h60:=hR.l60
  refine ⟨_,rfl,A.p,A.dx,_,rfl,hg,rfl,_,rfl,A.p,A.dx,_,rfl,hg,rfl,A.p,A.dx,A.ll,_,lu,rfl,hg,rfl,OA.sq 3,fun l' hl'=>?_⟩
  have sl:=(aJ.refl OA.same.t1).upd (o':=.lst lu) hl' (.inl hl')
  refine ⟨l',lu,rfl,.inl (SqL.of aO),(lu.length:Int),rfl,by omega,by omega,fun acc hacc=>?_⟩
  rw [agm]
  refine afC (T:=T) (sl.seq hX) x13 hx (by omega) sl.t1 hacc (fun i H' Q' hi h=>?_) fun H2 ys hyl hw O=>?_
  ·have b0:=agW (i:Int) (show (12:Int)≠0 by decide)
   have b1:=agP (i:Int) (show (0:Int)<12 by decide)
   have:=h ((i:Int) % 12).toNat (by omega)
   rw [Int.toNat_of_nonneg b0] at this
   exact ⟨_,rfl,_,_,rfl,rfl,(by show (0:Int)<12;decide),this⟩
  have O:=O.base sl
  have hA:RA K T C A (exB Z) r H0 H2 _ S:=RA.join ⟨lu,lw,OA,dA,dB⟩ O
  refine ⟨A,exB Z,H0,_,r,S,acc,ys,rfl,hA,hR,by omega,fun Hb H' X _ O'=>SqL.of (O'.at_ (acc,_) (agf _ (agf _ (.head _)))),fun S' hs Hb H' fl fs sb ra _=>?_,fun k _ e H' s he=>qx _ (.inl ⟨k,rfl⟩) e H' (O.same.trans s) he⟩
  exact q Z Hb H' sb ⟨S',gs,ks,ps,ds,rs,us,ra.drop.less,dP.mo sb,dR.mo sb,hk.step (by omega) hs (show ys.length<=1000 by omega)⟩
 ·refine ⟨_,rfl,A.p,A.dx,_,rfl,hg,rfl,_,rfl,_,rfl,_,rfl,lx,_,1,_,rfl,rfl,hX,cu (i:=1) (g0 1 (by decide)),_,rfl,_,g,rfl,(gp 1 (by decide)).1,(gp 1 (by decide)).2,fun m m0 m1=>?_⟩
  have hkl:=hk.pk
  refine ⟨A,Z,H0,L,r,S,_,rs,_,us,ps,n,y,m,0,rfl,hA,hR,dP,by omega,by rw [aeu];omega,fun e t Hb H' sb ra dP'=>q Z Hb H' sb ⟨S,gs,ks++[0],ps++[(n,m,0)],ds,rs,us++[.ref t],by rw [aga];exact ra,dP',dR.mo sb,hk.abn e⟩,fun k _ e H' s he=>qx _ ?_ e H' s he⟩
  cases k with
  | number=>exact .inl ⟨.number,rfl⟩
  | yours=>exact .inl ⟨.yours,rfl⟩
  | abn=>exact .inr (.inl rfl)
theorem abW (gs cs:List Int)(h:gs.length<=cs.length):(grt gs cs).length=cs.length:=by
 unfold grt;rw [ahn,agh,agO];omega
theorem abV (hg:Wat gs)(hc:Wat cs):Wat (grt gs cs):=by
 intro x hx;unfold grt at hx;obtain ⟨i,hi⟩:=ahO hx;obtain ⟨a,b,h1,h2,rfl⟩:=List.getElem?_zipWith_eq_some.mp hi;have g1:=hc a (agd h1);have g2:0<=b/\b<=1000000000000:=by
  rcases agw.mp (agd h2) with z| z
  ·exact hg b z
  ·rw [(List.mem_replicate.mp z).2];decide
 omega
theorem Bk.run {ks' cs' sp:List Int}(h:Bk r S gs ks ps ds i)(hi:i<=100)(hs:sp.length=r.length)(hc:cs.length=S.ls.length)(hw:Wat cs)(hk:ks'.length=ps.length)(hc':cs'.length=S.ls.length):
  Bk r ⟨S.day+1,S.ls,S.ns,S.ds++[.turn]⟩ (grt gs cs) ks' ps (ds++[(sp,cs')]) (i+1):=by
 have h1:=h.gl;have h2:=h.pl;have h3:=h.dl;refine ⟨h.a.step hi (d:=.turn) rfl trivial,by rw [abW gs cs (by omega)];exact Nat.le_of_eq hc,abV h.gw hw,hk.symm,by omega,h.pb,by rw [agh];exact Nat.succ_le_succ h3,fun d hd=>?_⟩;rcases agw.mp hd with z| z
 ·exact h.dr d z
 ·rw [agE.mp z];exact ⟨hs,Nat.le_of_eq hc'⟩
theorem Bk.close (h:Bk r S gs ks ps ds i)(hi:i<=100):∃ S',My.step r S (.lapse (Jl S gs))=.ok S'/\Bk r S' [] ks ps ds (i+1):=by
 have h1:=h.gl;have h6:=h.a.rp.l60;have e:(Jl S gs).length=S.ls.length:=by unfold Jl;rw [agh,aeu,ag9];omega
 have hw:∀ x∈Jl S gs,0<=x/\x<=1000000000000:=fun x hx=>by
  rcases agw.mp hx with z| z
  ·exact h.gw x z
  ·obtain ⟨l,hl,rfl⟩:=agF.mp z;have g:=h.a.lo l (List.mem_of_mem_drop hl);exact ⟨g.1.2.2.2.2.1,g.1.2.2.2.2.2⟩
 have hs:My.step r S (.lapse (Jl S gs))=.ok ⟨S.day,pZ S.ls (Jl S gs),S.ns,S.ds++[.lapse (Jl S gs)]⟩:=by
  simp only [My.step];rw [if_neg (fun z=>z e),if_neg (fun z=>z hw)]
 have k:=h.step hi hs (show (Jl S gs).length<=1000 by omega);exact ⟨_,hs,k.a,agN _,(fun x hx=>nomatch hx),k.pk,k.pl,k.pb,k.dl,k.dr⟩
theorem ae2 {x y:V}{k:Int}(h0:0<=k)(h1:k<2):∃ v,atI [x,y] k=some v/\(v=x\/v=y):=by
 rcases (by omega:k=0\/k=1) with e| e <;>subst e
 ·exact ⟨x,rfl,.inl rfl⟩
 ·exact ⟨y,rfl,.inr rfl⟩
theorem nob:Asc "nobody":=⟨by decide+kernel,by decide+kernel⟩
theorem abU {ns:List Str}(h:∀ x∈ns,oR x/\Asc x)(h0:0<=n)(h1:n<(ns.length:Int)+1):∃ y,atI (ns.map V.str++[V.str "nobody"]) n=some (.str y)/\Asc y:=by
 obtain ⟨k,rfl⟩:=agA h0;rcases (by omega:k<ns.length\/k=ns.length) with z| z
 ·refine ⟨ns[k],dU ?_,(h _ (ahd z)).2⟩;rw [ahr (by rw [aeu];exact z),agg,af9 z];rfl
 ·refine ⟨"nobody",dU ?_,nob⟩;rw [ahf (by rw [aeu];omega),aeu,z,ahL];rfl
theorem Km {c:TT}{t u:TS}(hc:∀ Q:Bool->Hp->Prop,(∀ b H',aJ T H H'->Q b H')->c σ H Q)(h1:∀ H',aJ T H H'->t D σ H')(h2:∀ H',aJ T H H'->u D σ H'):yr c t u D σ H:=
 hc _ fun b H' s=>by
  cases b with
  | true=>exact ifT rfl (h1 H' s)
  | false=>exact yp (h2 H' s)
abbrev m7:Stmt:=top 90
theorem fZ:aG ["book","river","xs","great","many","way","start","back","springs","number","holder"] ["book","river","xs","great"] (ao m7):=by walk_at "sc"
inductive acL (K:PySem.W.Frag)(T:fJ)(C:Addr)(c:Ec)(cP cF cH cD:Addr)(vs:List V)(H:Hp)(Q:VK)(E:XK):Prop
 | mk (A:Rs)(Z:Bx)(H0:Hp)(B:List (Addr × HO))(r:List Int)(i:Nat)(lv lx:Addr)(xs:List Int)(g:Bool)(_:vs=[.ref A.p,.ref lv,.ref lx,.bl g])(_:BkA K T C A Z r H0 H B i)(_:i<=60)(_:SqL K H lv (r.map V.int))(_:SqL K H lx (xs.map V.int))(_:xs.length=13)(_:(∀ x∈xs,0<=x/\x<8589934592))(_:(∀ (Z':Bx)(Hb H':Hp),aJ T H0 Hb->BkA K T C A Z' r Hb H' B (i+1)->Q .non H'))(_:(∀ x,JF c cP cF cH x->∀ (e:Addr)(H':Hp),aJ T H H'->H' e=none->E (.ref x) (some e) H'))
variable (lC:(CX0|||1) pI pO ["self"] (kI K C "names"))
variable (FN:((CXE P w)|||9) zO zW ["self","springs","calls","lets"] (V1 K T C cD))
variable (Bb:(CX0|||3) uJ uZ ["self"] (Lr K T C))
variable (vg:((CXE P w)|||11) nu nJ ["book","xs","number","holder","great"] (acJ K T C c cP cF cH))
variable {xg:Addr}{xU:FuncData}(gP:Df K mg "_law_deed" m7 ["book","river","xs","great"] xg xU)
include bO bV bK aL cZ iR rG cV gq bZ iT jJ bM eV mU nT fL eU lC FN Bb vg gP in
theorem afc (B:Blt mg):
  ((CXE P w)|||12) xg xU ["book","river","xs","great"] (acL K T C c cP cF cH cD):=by
 refine gP.F.okX fZ ?_ ?_
 walk_at "i"
 obtain ⟨A,Z,H0,L,r,i,lv,lx,xs,g,rfl,hB,hi,hV,hX,x13,hx,q,qx⟩:=h
 refine ⟨_,(4<$>fZ<$>(aD aB rfl B.len agk (cC (pv 0) aL.c bO.m iT hr.m bO.b .nil jw>=>ak))<|>5<$>fZ<$>(@bD _ _ _ _ _ _ _ _ gb (@aZ _ _ _ _ _ _ _ aU (pv 2) aA (fun _ _=>rfl)) aA)<|>(~~~(@cM _ _ _ _ _ _ _ _ (PW.pt (pw_or (PW.pt (pw_and (aR Bh (pv 5) aA (bf _)) (pw_and1 (aR Bh (pv 4) aA (bf _))))) (pw_or1 (aR kj (pv 4) aA (bf _)))))
   (6<$>fZ<$>(@bD _ _ _ _ _ _ _ _ gb (@aZ _ _ _ _ _ _ _ aU (pv 2) aA (fun _ _=>rfl)) (aD aB rfl B.len agk (pv 1>=>ak)))<|>7<$>fZ<$>(@aZ _ _ _ _ _ _ _ aU (@dM _ _ _ _ (@Eh _ _ _ _ _ _ vU aA>=>@aZ _ _ _ _ _ _ _ aU (pv 1) (pv 6) (fun _ _=>rfl)>=>ak)) (@bD _ _ _ _ _ _ _ _ gb (@aZ _ _ _ _ _ _ _ aU (pv 2) aA (fun _ _=>rfl)) aA) (fun _ _=>rfl))<|>(~~~(aM (cj (pv 0) aL.c cZ.m rG hr.m cZ.b0 .nil jX (eV<*nT<*(@aZ _ _ _ _ _ _ _ aU (pv 2) aA (fun _ _=>rfl)>=>ak)>=>pv 6>=>bM<*fL<*(@aZ _ _ _ _ _ _ _ aU (pv 2) aA (fun _ _=>rfl)>=>pv 3>=>ak)>=>pv 7>=>ak)))))
   (~~~(@cM _ _ _ _ _ _ _ _ (PW.pt (pw_and (aR kj (pv 5) aA (bf _)) (pw_and1 (aR Bh (aD aB rfl B.len agk (cC (pv 0) cV.c bZ.m mU hr.m bZ.b .nil jw>=>ak)) aA (bf _)))))
    (kO (i:=8) (ao m7) rfl ["book","river","xs","great","many","way","start","back","springs","number","holder"] rfl ["k","great","xs"] [none,some 3,some 2] (by decide+kernel) (by decide+kernel) (by decide+kernel) rfl fZ.nd rfl rfl (jW rfl B.range (aD aB rfl B.len agk (pv 1>=>ak)>=>ak)) (fun _ _ _=>(bB (i:=0) (show (["k","great","xs"]:List Str).Nodup by decide+kernel) rfl (Or.inl rfl))) (fun _ _ _=>eG) (fun _ _ _=>(bM<*fL<*(@aZ _ _ _ _ _ _ _ (ji (K:=K) rfl) (pv 2) (@bD _ _ _ _ _ _ _ _ gb (pv 0) aA) (fun _ _=>rfl)>=>pv 1>=>ak))) rfl<|>(~~~(aM (cj (pv 0) cV.c jJ.m FN hr.m jJ.b1 (.cons (show RelV .non Value.none from rfl) .nil) jX (pv 8>=>fM (ao m7) rfl ["book","river","xs","great","many","way","start","back","springs","number","holder"] rfl ["k","great","xs"] [none,some 3,some 2] (by decide+kernel) (by decide+kernel) (by decide+kernel) rfl (jW rfl B.range (pv 4>=>ak)) (fun _ _ _=>(bB (i:=0) (show (["k","great","xs"]:List Str).Nodup by decide+kernel) rfl (Or.inl rfl))) (fun _ _ _=>eG) (fun _ _ _=>(bM<*fL<*(@aZ _ _ _ _ _ _ _ (ji (K:=K) rfl) (pv 2) (@bD _ _ _ _ _ _ _ _ gb (@bD _ _ _ _ _ _ _ _ Ez (pv 0) (pv 0)) aA) (fun _ _=>rfl)>=>pv 1>=>ak)))>=>ak)))))
    (~~~(@cM _ _ _ _ _ _ _ _ (aR kj (pv 5) aA (bf _))
     (~~~(aM (cC (pv 0) aL.c bK.m iR hr.m bK.b .nil jw)))
     (~~~(@cM _ _ _ _ _ _ _ _ (PW.pt (pw_and (aR kj (pv 5) aA (bf _)) (pw_and1 (aR kj (@bD _ _ _ _ _ _ _ _ gb (@aZ _ _ _ _ _ _ _ aU (pv 2) aA (fun _ _=>rfl)) aA) aA (bf _)))))
      (~~~(aM (cC (pv 0) cV.c gq.m Bb hr.m gq.b .nil jw)))
      (9<$>fZ<$>(@bD _ _ _ _ _ _ _ _ gb (@aZ _ _ _ _ _ _ _ aU (pv 2) aA (fun _ _=>rfl)) (@bD _ _ _ _ _ _ _ _ ud (pv 4) aA))<|>10<$>fZ<$>(@aZ _ _ _ _ _ _ _ aU (@bD _ _ _ _ _ _ _ _ Cu (cC (pv 0) aL.c bV.m lC hr.m bV.b .nil jw) (@dM _ _ _ _ (cO>=>ak))) (pv 9) (fun _ _=>rfl))<|>(~~~(aM (eU*>vg*>(pv 0>=>pv 2>=>pv 9>=>pv 10>=>pv 3>=>ak)))))))))))))),?_⟩
 have g0:∀ k:Nat,k<13->xs[k]?=some (xs.getD k 0):=fun k hk=>fU (by omega)
 have gp:∀ k:Nat,k<13->0<=xs.getD k 0/\xs.getD k 0<8589934592:=fun k hk=>hx _ (agd (g0 k hk))
 have hml:(((r.map V.int).length:Nat):Int)=(r.length:Int):=by rw [aeu]
 obtain ⟨S,gs,ks,ps,ds,rs,us,⟨lu,lw,OA,dA,dB⟩,dP,dR,hk⟩:=hB
 have hR:=hk.a.rpB Z
 have hpl:=hk.pl
 have hdl:=hk.dl
 have hpk:=hk.pk
 have h60:=hR.l60
 have r40:=hR.r40
 have r1:=hk.a.r1
 have hnn:=hR.nn
 have hll:=dA.length
 rw [aeu] at hll
 refine ⟨_,rfl,A.p,A.dx,_,rfl,OA.get 0,rfl,A.p,A.dx,A.ll,_,lu,rfl,OA.get 0,rfl,OA.sq 3,fun l' hl'=>?_⟩
 have sl:=(aJ.refl OA.same.t1).upd (o':=.lst lu) hl' (.inl hl')
 refine ⟨l',lu,rfl,.inl (SqL.of aO),_,rfl,lx,_,12,_,rfl,rfl,sl.seq hX,cu (i:=12) (g0 12 (by decide)),_,_,rfl,rfl,(by show (0:Int)<7;decide),?_⟩
 have OA:=OA.dD sl
 have hV:=sl.seq hV
 have hX:=sl.seq hX
 have qx:=fun x hx e H' s=>qx x hx e H' (sl.trans s)
 clear sl hl'
 generalize upd H l' (.lst lu)=H1 at OA hV hX qx
 dsimp only
 generalize xs.getD 12 0 % 7=wy
 have aft:∀ (H2:Hp)(d:Ea)(v:V),aJ T H1 H2->wA d->After K T C c A (exB Z) r H0 H2 (BL Z (gs.map V.int) rs (ks.map V.int) us++L) S d v (fun _ H'=>Q .non H') E:=fun H2 d v s2 hd =>
  ⟨fun S' hs Hb H' sb ra=>q Z Hb H' sb ⟨S',gs,ks,ps,ds,rs,us,ra,dP.mo sb,dR.mo sb,hk.step (by omega) hs hd⟩,fun k _ e H' s he=>qx _ (.inl ⟨k,rfl⟩) e H' (s2.trans s) he⟩
 have hAt:∀ H',aJ T H1 H'->RA K T C A (exB Z) r H0 H' (BL Z (gs.map V.int) rs (ks.map V.int) us++L) S:=fun H' s=>⟨lu,lw,OA.dD s,dA,dB⟩
 change yr _ _ _ _ [some (.ref A.p),some (.ref lv),some (.ref lx),some (.bl g),some (.int (lu.length:Int)),some (.int wy),none,none,none,none,none] H1
 refine Km (T:=T) (fun Q h=>?_) (fun H2 s2=>?_) (fun H2 s2=>?_)
 ·have hz:=fun b=>h b H1 (aJ.refl OA.same.t1)
  exact ⟨_,rfl,_,_,rfl,rfl,_,rfl,ifD (fun _=>⟨_,rfl,_,_,rfl,rfl,_,rfl,ifB (fun _=>hz _) (fun _=>⟨_,rfl,rfl,_,rfl,hz _⟩)⟩) (fun _=>⟨_,rfl,rfl,_,rfl,hz _⟩)⟩
 ·refine ⟨_,rfl,lx,_,1,_,rfl,rfl,s2.seq hX,cu (i:=1) (g0 1 (by decide)),_,rfl,lv,_,rfl,.inl (s2.seq hV),_,_,rfl,rfl,(by rw [hml];omega),?_⟩
  dsimp only
  rw [hml]
  have b0:=agW (xs.getD 1 0) (show (r.length:Int)≠0 by omega)
  have b1:=agP (xs.getD 1 0) (show (0:Int)<(r.length:Int) by omega)
  generalize xs.getD 1 0 % (r.length:Int)=st at b0 b1
  obtain ⟨k,rfl⟩:=agA b0
  obtain ⟨b,hb⟩:∃ b,r[k]?=some b:=⟨_,af9 (by omega)⟩
  have c0:=agW (xs.getD 2 0) (show (2:Int)≠0 by decide)
  have c1:=agP (xs.getD 2 0) (show (0:Int)<2 by decide)
  obtain ⟨v,hv,hv2⟩:=ae2 (x:=.int (-1)) (y:=.int b) c0 c1
  obtain ⟨bk,rfl⟩:∃ bk:Int,v=.int bk:=hv2.elim (fun z=>⟨_,z⟩) (fun z=>⟨_,z⟩)
  refine ⟨1,rfl,_,rfl,_,rfl,lv,_,_,_,rfl,rfl,s2.seq hV,cu hb,szl,fun l2 hl2=>?_⟩
  have s3:=s2.upd (o':=.lst [V.int (-1),V.int b]) (s2.free hl2) (.inl hl2)
  refine ⟨_,rfl,lx,_,2,_,rfl,rfl,s3.seq hX,cu (i:=2) (g0 2 (by decide)),_,_,rfl,rfl,(by show (0:Int)<2;decide),l2,_,_,_,rfl,rfl,SqL.of aO,hv,?_⟩
  exact ⟨_,rfl,A.p,A.dx,_,rfl,(OA.dD s3).get 0,rfl,_,rfl,lx,_,3,_,rfl,rfl,s3.seq hX,cu (i:=3) (g0 3 (by decide)),_,rfl,(gp 3 (by decide)).1,fun z hz=>⟨_,rfl,_,rfl,lx,_,4,_,rfl,rfl,s3.seq hX,cu (i:=4) (g0 4 (by decide)),_,rfl,_,g,rfl,(gp 4 (by decide)).1,(gp 4 (by decide)).2,fun m m0 m1 =>
   ⟨_,rfl,A,exB Z,H0,_,r,S,z,(k:Int),m,bk,.int bk,rfl,.inr rfl,hAt _ s3,hR,vG hz,aft _ (.file z (k:Int) m bk) _ s3 (vG hz)⟩⟩⟩
 have hB2:BkA K T C A Z r H0 H2 L i:=⟨S,gs,ks,ps,ds,rs,us,hAt H2 s2,dP,dR,hk⟩
 refine Km (T:=T) (fun Q h=>?_) (fun H3 s3=>?_) (fun H3 s3=>?_)
 ·refine ⟨_,rfl,rfl,_,rfl,ifI (fun _=>?_) (fun _=>h _ H2 (aJ.refl s2.t1))⟩
  refine ⟨_,rfl,A.p,A.dx,_,rfl,(OA.dD s2).get 0,rfl,?_⟩
  dsimp only [acA]
  exact hB2.afK hi fun l us H3 s3 hl=>⟨l,us,rfl,.inl hl,_,_,rfl,rfl,_,rfl,h _ H3 s3⟩
 ·have s3:=s2.trans s3
  refine ⟨_,rfl,lv,_,rfl,.inl (s3.seq hV),(r.length:Int),by rw [aeu],by omega,by omega,fun la hla=>?_⟩
  rw [agm]
  refine afC (T:=T) (s3.seq hX) x13 hx (by omega) s3.t1 hla (fun i H' Q' hi h=>?_) fun H4 sp hsl hsw O4=>?_
  ·have b0:=agW (i:Int) (show (12:Int)≠0 by decide)
   have b1:=agP (i:Int) (show (0:Int)<12 by decide)
   have:=h ((i:Int) % 12).toNat (by omega)
   rw [Int.toNat_of_nonneg b0] at this
   exact ⟨_,rfl,_,_,rfl,rfl,(by show (0:Int)<12;decide),this⟩
  have s4:=s3.trans O4.same
  refine ⟨_,rfl,A.p,A.dx,_,rfl,(OA.dD s4).get 0,rfl,_,rfl,_,rfl,(lu.length:Int),rfl,by omega,by omega,fun lb hlb=>?_⟩
  rw [agm]
  refine afC (T:=T) (s4.seq hX) x13 hx (by omega) s4.t1 hlb (fun i H' Q' hi h=>?_) fun H5 cs hcl hcw O5=>?_
  ·have b0:=agW ((i:Int)*(i:Int)) (show (13:Int)≠0 by decide)
   have b1:=agP ((i:Int)*(i:Int)) (show (0:Int)<13 by decide)
   have:=h ((i:Int)*(i:Int) % 13).toNat (by omega)
   rw [Int.toNat_of_nonneg b0] at this
   exact ⟨_,rfl,_,rfl,_,_,rfl,rfl,.inl ⟨by omega,by omega⟩,_,_,rfl,rfl,(by show (0:Int)<13;decide),this⟩
  have s5:=s4.trans O5.same
  have ra:=RA.join (RA.join (hAt H3 s3) O4) O5
  refine ⟨A,Z,H0,_,r,S,gs,ks,rs,us,ps,ds,la,lb,sp,cs,rfl,.tail _ (.head _),.head _,by omega,by omega,ra,hR,hk.lic,dP,hpk,by omega,hk.pb,dR,by omega,hk.gl,fun _ t Z' Hb H' ks' cs' td sb _ hkl hcl' ra' dR'=>?_,fun bad=>absurd ⟨hsl,hsw,hcl.trans hll,hcw⟩ bad⟩
  exact q Z' Hb H' sb ⟨_,_,ks',ps,ds++[(sp,cs')],_,us,RA.less (X:=[(lb,.lst (cs.map V.int)),(la,.lst (sp.map V.int))]) ra',dP.mo sb,dR',hk.run (by omega) hsl (hcl.trans hll) hcw hkl hcl'⟩
 have s3:=s2.trans s3
 clear s2 hB2
 refine ⟨_,rfl,rfl,_,rfl,ifI (fun _=>?_) (fun _=>?_)⟩
 ·exact ⟨_,rfl,A.p,A.dx,_,rfl,(OA.dD s3).get 0,rfl,A,exB Z,H0,_,r,S,rfl,hAt H3 s3,hR,(aft H3 .turn .non s3 trivial).1,fun k e=>nomatch e⟩
 refine Km (T:=T) (fun Q h=>?_) (fun H4 s4=>?_) (fun H4 s4=>?_)
 ·have hz:=fun b=>h b H3 (aJ.refl s3.t1)
  exact ⟨_,rfl,rfl,_,rfl,ifI (fun _=>⟨_,rfl,lx,_,1,_,rfl,rfl,s3.seq hX,cu (i:=1) (g0 1 (by decide)),_,_,rfl,rfl,(by show (0:Int)<3;decide),rfl,_,rfl,hz _⟩) (fun _=>hz _)⟩
 ·obtain ⟨S',hs,hk'⟩:=hk.close (by omega)
  have s4:=s3.trans s4
  exact ⟨_,rfl,A.p,A.dx,_,rfl,(OA.dD s4).get 0,rfl,A,Z,H0,L,r,S,S',gs,rs,_,us,rfl,hAt H4 s4,hR,hk.gl,hs,fun Hb H' fl lg fs sb ra _=>q (Z.lg' lg) Hb H' sb ⟨S',[],ks,ps,ds,rs,us,RA.less (X:=[(fl,.lst fs)]) ra,dP.mo sb,dR.mo sb,hk'⟩⟩
 have s4:=s3.trans s4
 refine ⟨_,rfl,lx,_,3,_,rfl,rfl,s4.seq hX,cu (i:=3) (g0 3 (by decide)),_,rfl,_,_,rfl,rfl,_,_,rfl,rfl,(by show (0:Int)<(lu.length:Int)+1;omega),?_⟩
 dsimp only
 have b0:=agW (xs.getD 3 0) (show (lu.length:Int)+1≠0 by omega)
 have b1:=agP (xs.getD 3 0) (show (0:Int)<(lu.length:Int)+1 by omega)
 generalize xs.getD 3 0 % ((lu.length:Int)+1)=n at b0 b1
 refine ⟨_,rfl,A.p,A.dx,_,rfl,(OA.dD s4).get 0,rfl,A.p,A.dx,A.ln,_,_,rfl,(OA.dD s4).get 0,rfl,(OA.dD s4).sq 4,fun l1 hl1=>?_⟩
 have O:=(Ow.refl s4.t1).mk' (o:=.lst (S.ns.map V.str)) hl1 rfl
 refine ⟨szl,fun l2 hl2=>?_⟩
 have O:=O.mk' (o:=.lst [V.str "nobody"]) hl2 rfl
 refine ⟨l1,l2,_,_,rfl,rfl,O.get 1,O.get 0,Nat.le_of_lt (aH (n:=(S.ns.map V.str).length+1) (by rw [aeu];omega)),fun l3 hl3=>?_⟩
 have O:=O.mk' (o:=.lst (S.ns.map V.str++[V.str "nobody"])) hl3 rfl
 obtain ⟨y,hyat,hy⟩:=abU hk.a.na b0 (by omega)
 have s5:=s4.trans O.same
 exact ⟨_,rfl,l3,_,_,_,rfl,rfl,O.sq 0,hyat,_,rfl,_,rfl,_,rfl,_,rfl,_,rfl,A,Z,H0,L,r,i,lx,xs,n,y,g,rfl,⟨S,gs,ks,ps,ds,rs,us,hAt _ s5,dP,dR,hk⟩,hi,s5.seq hX,x13,hx,hy,q,fun x hx e H' s he=>qx x hx e H' (s5.trans s) he⟩
structure Tr (K:PySem.W.Frag)(c:Ec)(cP cF cH cS cN:Addr):Prop where
 m:∀ x,JF c cP cF cH x->PySem.W.exmOne K (.ref x) (.ref cS)=some true
 kv:∀ x,JF c cP cF cH x->kitOne K (.ref x) (.type "ValueError")=some true
 x:∀ x,JF c cP cF cH x->VJ K x
 kr:kitOne K (.ref c.wN) (.ref c.wN)=some true
 kn:kitOne K (.ref c.wN) (.ref cN)=some false
abbrev pq:Stmt:=top 91
theorem jQ:aG ["some","caught","e"] ["some"] (ao pq):=by walk_at "sc"
inductive V3 (K:PySem.W.Frag)(T:fJ)(vs:List V)(H:Hp)(Q:VK)(E:XK):Prop
 | mk (lv:Addr)(r:List Int)(_:vs=[.ref lv])(_:SqL K H lv (r.map V.int))(_:r.length<=900)(_:Rv.isR r=false)(_:TabsOk T H)(_:∀ H',aJ T H H'->Q (.bl true) H')
variable (gF:yX K mg "SluiceError" cS)
variable (j7:((CXE P w)|||4) iK nQ ["self","below"] (Lw K T C c))
variable {pG:Addr}{pL:FuncData}(eE:Df K mg "_law_no_book" pq ["some"] pG pL)
include jr bQ gF j7 eE in
theorem ac8 (B:Blt mg)(DN:yX K mg "NoReach" cN)(TT:Tr K c cP cF cH cS cN)(cV:Cl K mg "Book" C iK Ti):(CX0|||6) pG pL ["some"] (V3 K T):=by
 refine eE.F.ok jQ ?_ ?_;walk_at "i";obtain ⟨lv,r,rfl,hV,r9,hR,tk,q⟩:=h;refine ⟨_,(1<$>jQ<$>yE<|>Wg (i:=2) ⟨rfl,rfl,rfl⟩ rfl (Pj (Pk (aaV cV.k j7 hr.m rfl cV.m bQ.b .nil (pv 0>=>ak)))) rfl gF.m jQ.nd rfl rfl (fun e =>
   (~~~(1<$>jQ<$>(pv 2))))<|>(~~~(@aP _ _ _ _ (Mg (aD oN rfl B.isinstance ag2 (pv 1>=>Ip rfl jr.m>=>ak)) (Mg (acY (aD oN rfl B.isinstance ag2 (pv 1>=>Ip rfl DN.m>=>ak))) (Ma (aD oN rfl B.isinstance ag2 (pv 1>=>Q5 (v:=.ty "ValueError") rfl B.ValueError Tg rfl>=>ak)))))))),?_⟩
 have O:=Ow.refl tk;refine ⟨_,rfl,?_⟩;intro x dx nx ndx nex;have hx':(upd H dx (HO.own x)) x=none:=by rw [aN nex.symm];exact nx
 have O1:=(O.mk' ndx (o:=.own x) rfl).mk' (a:=x) (o:=.ins C dx []) hx' rfl;have hx:JF c cP cF cH c.wN:=.inl ⟨.wN,rfl⟩;refine ⟨x,dx,lv,H,_,r,rfl,O1,O1.same.seq hV,by omega,(fun z=>by rw [hR] at z;cases z),fun _ ea H' s' he=>⟨_,ea,rfl,rfl,TT.m _ hx,?_⟩⟩;have s2:=(O1.same.trans s').upd (o':=.ext (XAt ea c.wN)) ((O1.same.trans s').free he) (.inl he);have hq:=TT.x _ hx;exact ⟨_,rfl,_,rfl,ea,_,_,_,_,rfl,aO,hq,.inr ⟨_,rfl,rfl⟩,TT.kr,_,rfl,vP ⟨_,rfl,ea,_,_,_,_,rfl,aO,hq,.inr ⟨_,rfl,rfl⟩,TT.kn,_,rfl,_,rfl,vP ⟨_,rfl,ea,_,_,_,_,rfl,aO,hq,.inl ⟨_,rfl,rfl⟩,TT.kv _ hx,q _ s2⟩⟩⟩
theorem Ew {rk:Nat->Nat}(h3:∀ (i:Nat)(x:Int),r[i]?=some x->x=-1\/(0<=x/\x<r.length/\rk x.toNat<rk i)):∀ (f:Nat)(p:Int),0<=p->p<r.length->rk p.toNat<f->Rv.yj r f p=-1
 | 0,p,_,_,h=>absurd h (Nat.not_lt_zero _)
 | f+1,p,h0,h1,h=>by
  show Rv.yj r f (Rv.stp r p)=-1;unfold Rv.stp;rw [if_neg (by omega)];rcases h3 _ _ (Rv.lW h0 h1) with e| ⟨a,b,c⟩
  ·rw [e];exact Rv.K5 r f
  ·exact Ew h3 f _ a b (by omega)
theorem Ih (hR:Rv.jK r)(h1:1<=r.length)(h2:r.length<=40):Rv.isR r=true:=by
 obtain ⟨rk,k1,k2⟩:=hR;have hB:Rv.inB r:=fun x hx=>by
  obtain ⟨i,hi⟩:=ahO hx;rcases k2 i x hi with e| ⟨a,b,_⟩<;>omega
 unfold Rv.isR;rw [decide_eq_true (⟨h1,h2⟩:1<=r.length/\r.length<=40),decide_eq_true hB,decide_eq_true (fun i hi=>Ew k2 _ _ (by omega) (by omega) (by rw [agm];exact k1 i hi))];rfl
structure aey (K:PySem.W.Frag)(C:Addr):Prop where
 ha:PySem.W.findIn K (.ref C) "__class__"=some (some (.builtin "object.__class__"))
 hn:PySem.W.specialIn K (.builtin "object.__class__") "__get__"=some (some (.builtin "getset_descriptor.__get__"))
 ht:PySem.W.takesIn K (.builtin "object.__class__")=some true
 hm:PySem.W.mroIn K C (.type "object")=some true
 kt:kitOne K (.ref C) (.ref C)=some true
abbrev wH:Stmt:=top 92
theorem Ab:aG ["book","river","found"] ["book","river"] (ao wH):=by walk_at "sc"
inductive Qi (K:PySem.W.Frag)(T:fJ)(C:Addr)(vs:List V)(H:Hp)(Q:VK)(E:XK):Prop
 | mk (A:Rs)(Z:Bx)(H0:Hp)(B:List (Addr × HO))(r:List Int)(i:Nat)(lv:Addr)(_:vs=[.ref A.p,.ref lv])(_:BkA K T C A Z r H0 H B i)(_:i<=60)(_:SqL K H lv (r.map V.int))(_:∀ H',aJ T H H'->Q (.bl true) H')
variable (Fw:((CXE P w)|||5) zJ zQ ["below","deeds"] (Qk K T CR c))
variable {Ai:Addr}{Al:FuncData}(jH:Dm K CR "today" "Roll.today" lG ["self"] Ai Al)
variable (Az:(CX0|||1) Ai Al ["self"] (FW CR))
variable {vY:Addr}{wg:FuncData}(gY:Dm K C "today" "Roll.today" lG ["self"] vY wg)
variable (wz:(CX0|||1) vY wg ["self"] (FW C))
variable {yM:Addr}{yN:FuncData}(dW:Dm K C "roll" "Roll.roll" m8 ["self"] yM yN)
variable (yW:(CX0|||1) yM yN ["self"] (kI K C "licences"))
variable {rP:Addr}{rQ:FuncData}(dI:Dm K C "holders" "Roll.holders" jo ["self"] rP rQ)
variable (rY:(CX0|||1) rP rQ ["self"] (kI K C "names"))
variable {Aj:Addr}{Am:FuncData}(gk:Dm K CR "deeds" "Roll.deeds" lH ["self"] Aj Am)
variable (vm:(CX0|||1) Aj Am ["self"] (kI K CR "done"))
variable {vZ:Addr}{wj:FuncData}(cG:Dm K C "deeds" "Roll.deeds" lH ["self"] vZ wj)
variable (lD:(CX0|||1) vZ wj ["self"] (kI K C "done"))
variable {wZ:Addr}{xR:FuncData}(jc:Df K mg "_law_same" wH ["book","river"] wZ xR)
include jj Fw jH Az gY wz dW yW dI rY gk vm cG lD jc in
theorem abx {f4 f6 f10:Addr}{fd4 fd6 fd10:FuncData}(B:Blt mg)(aL:Cl K mg "Roll" CR f0 Uk)(cV:Cl K mg "Book" C fB Ti)(vM:RC K C)(HI:aey K CR)(KF:kitOne K (.ref CR) (.ref C)=some false)(bO:Dm K CR "roll" "Roll.roll" m8 ["self"] f4 fd4)(iT:(CX0|||1) f4 fd4 ["self"] (kI K CR "licences"))(bV:Dm K CR "holders" "Roll.holders" jo ["self"] f6 fd6)(lC:(CX0|||1) f6 fd6 ["self"] (kI K CR "names"))(bK:Dm K CR "turn" "Roll.turn" qt ["self"] f10 fd10)(iR:(CX0|||1) f10 fd10 ["self"] (JT K T CR c)):(CX0|||6) wZ xR ["book","river"] (Qi K T C):=by
 refine jc.F.ok Ab ?_ ?_
 walk_at "i"
 obtain ⟨A,Z,H0,L,r,i,lv,rfl,⟨S,gs,ks,ps,ds,rs,us,⟨lu,lw,OB,d0,d1⟩,-,-,hk⟩,hi,hV,q⟩:=h
 have hu:=hr.units
 have O:=Ow.refl OB.same.t1
 have d0:=d0.mo OB.same
 have d1:=d1.mo OB.same
 refine ⟨_,(2<$>Ab<$>(Cm Fw hr.m rfl jj.m jj.F.kp jj.b .nil abu (bL bh rfl B.list agy (pv 1>=>ak)>=>cC (pv 0) vM.c cG.m lD hr.m cG.b .nil jw>=>ak))<|>@cM _ _ _ _ _ _ _ _ (PW.pt (pw_or (jq (iy (aD u9 rfl B.isinstance ag2 (pv 2>=>Ip rfl aL.m>=>ak)))) (pw_or1 (iy (aD u9 rfl B.isinstance ag2 (pv 2>=>Ip rfl cV.m>=>ak))))))
   (~~~(@aP _ _ _ _ Cp))
   bA<|>@cM _ _ _ _ _ _ _ _ (PW.pt (pw_or (aR Cr (cC (pv 2) aL.c jH.m Az hr.m jH.b .nil jw) (cC (pv 0) vM.c gY.m wz hr.m gY.b .nil jw) (bf _)) (pw_or1 (aR (Q7 hu) (cC (pv 2) aL.c bO.m iT hr.m bO.b .nil jw) (cC (pv 0) vM.c dW.m yW hr.m dW.b .nil jw) (bf _)))))
   (~~~(@aP _ _ _ _ Cp))
   bA<|>@cM _ _ _ _ _ _ _ _ (PW.pt (pw_or (aR (Q7 hu) (cC (pv 2) aL.c bV.m lC hr.m bV.b .nil jw) (cC (pv 0) vM.c dI.m rY hr.m dI.b .nil jw) (bf _)) (pw_or1 (aR (Q7 hu) (cC (pv 2) aL.c gk.m vm hr.m gk.b .nil jw) (cC (pv 0) vM.c cG.m lD hr.m cG.b .nil jw) (bf _)))))
   (~~~(@aP _ _ _ _ Cp))
   bA<|>aM (cC (pv 2) aL.c bK.m iR hr.m bK.b .nil jw)<|>(~~~(@aP _ _ _ _ (qz (Wk hu) (cC (pv 2) aL.c gk.m vm hr.m gk.b .nil jw) (@bD _ _ _ _ _ _ _ _ Cu (cC (pv 0) vM.c cG.m lD hr.m cG.b .nil jw) (@dM _ _ _ _ (@fH _ _ _ _ _ (cO>=>ak)>=>ak))) (bf _))))),?_⟩
 have hR:=hk.a.rp.rv
 have r1:=hk.a.r1
 have r40:=hk.a.rp.r40
 have hdl:=hk.a.le
 have hIR:=Ih hR r1 r40
 have shr:=Sh.roll 0 S.ls
 have shn:=Sh.strs 0 fun x hx=>(hk.a.na x hx).2
 have shd:=Sh.ad9 hk.a.ok
 have shE:Sh 3 (.list ((S.ds++[Ea.turn]).map Dw)):=Sh.ad9 fun e he=>by
  rcases agw.mp he with h| h
  ·exact hk.a.ok e h
  ·rw [agE.mp h];exact trivial
 refine ⟨_,rfl,lv,_,rfl,.inl hV,fun l1 h1=>?_⟩
 have O:=O.mk' (o:=.lst (r.map V.int)) h1 rfl
 refine ⟨_,rfl,A.p,A.dx,_,rfl,(OB.dD O.same).get 0,rfl,A.p,A.dx,A.lo,_,lw,rfl,(OB.dD O.same).get 0,rfl,(OB.dD O.same).sq 5,fun l2 h2=>?_⟩
 have O:=O.mk' (o:=.lst lw) h2 rfl
 refine ⟨l1,l2,H,_,r,lw,S.ds,rfl,O,O.sq 1,r40,(fun Hb H' X _ O'=>SqL.of (O'.at_ _ (agf _ (.head _)))),d1,hk.a.ok,by omega,(fun _=>hR),fun _ S' e A2 Hc H3 sc ra=>?_,(fun _ k e=>by rw [hk.a.re] at e;cases e),fun z=>by rw [hIR] at z;cases z⟩
 rw [hk.a.re] at e
 cases e
 clear O
 obtain ⟨us2,vs2,O,e0,e1⟩:=ra
 have OB:=OB.dD sc
 have d0:=d0.mo sc
 have d1:=d1.mo sc
 have q:=fun H' s=>q H' (sc.trans s)
 refine ⟨_,rfl,_,_,_,true,rfl,.ins (O.get 0) aL.c HI.ha HI.hn HI.ht HI.hm,HI.kt,_,rfl,yp ?_⟩
 refine ⟨_,rfl,_,_,_,false,rfl,.ins (O.get 0) aL.c HI.ha HI.hn HI.ht HI.hm,KF,_,rfl,yp ?_⟩
 refine ⟨_,rfl,A2.p,A2.dx,_,rfl,O.get 0,rfl,A2,[],S.day,rfl,O.get 0,_,rfl,A.p,A.dx,_,rfl,(OB.dD O.same).get 0,rfl,A,exB Z,S.day,rfl,(OB.dD O.same).get 0,rfl,_,rfl,ifN (ifI (fun _=>?_) (fun h=>absurd rfl h))⟩
 refine ⟨_,rfl,A2.p,A2.dx,_,rfl,O.get 0,rfl,A2.p,A2.dx,A2.ll,_,us2,rfl,O.get 0,rfl,O.sq 3,fun m1 hm1=>?_⟩
 have O1:=O.mk' (o:=.lst us2) hm1 rfl
 refine ⟨_,rfl,A.p,A.dx,_,rfl,(OB.dD O1.same).get 0,rfl,A.p,A.dx,A.ll,_,lu,rfl,(OB.dD O1.same).get 0,rfl,(OB.dD O1.same).sq 3,fun m2 hm2=>?_⟩
 have O2:=O1.mk' (o:=.lst lu) hm2 rfl
 refine ⟨_,_,Den.list (O2.sq 1) (e0.mo O2.same),Den.list (O2.sq 0) (d0.mo O2.same),shr.ok (by decide),shr.ok (by decide),_,rfl,?_⟩
 rw [if_pos rfl,show PyData.eqv (.list (S.ls.map Dv)) (.list (S.ls.map Dv))=true from Bq shr]
 refine yp ?_
 have O:=O2.tail.tail
 clear O1 O2 hm1 hm2
 refine ⟨_,rfl,A2.p,A2.dx,_,rfl,O.get 0,rfl,A2.p,A2.dx,A2.ln,_,_,rfl,O.get 0,rfl,O.sq 4,fun m3 hm3=>?_⟩
 have O1:=O.mk' (o:=.lst (S.ns.map V.str)) hm3 rfl
 refine ⟨_,rfl,A.p,A.dx,_,rfl,(OB.dD O1.same).get 0,rfl,A.p,A.dx,A.ln,_,_,rfl,(OB.dD O1.same).get 0,rfl,(OB.dD O1.same).sq 4,fun m4 hm4=>?_⟩
 have O2:=O1.mk' (o:=.lst (S.ns.map V.str)) hm4 rfl
 refine ⟨_,_,Den.list (O2.sq 1) (bY.strs S.ns),Den.list (O2.sq 0) (bY.strs S.ns),shn.ok (by decide),shn.ok (by decide),_,rfl,?_⟩
 rw [if_pos rfl,Bq shn]
 refine yp ?_
 have O:=O2.tail.tail
 clear O1 O2 hm3 hm4
 refine ⟨_,rfl,A2.p,A2.dx,_,rfl,O.get 0,rfl,A2.p,A2.dx,A2.lo,_,vs2,rfl,O.get 0,rfl,O.sq 5,fun m5 hm5=>?_⟩
 have O1:=O.mk' (o:=.lst vs2) hm5 rfl
 refine ⟨_,rfl,A.p,A.dx,_,rfl,(OB.dD O1.same).get 0,rfl,A.p,A.dx,A.lo,_,lw,rfl,(OB.dD O1.same).get 0,rfl,(OB.dD O1.same).sq 5,fun m6 hm6=>?_⟩
 have O2:=O1.mk' (o:=.lst lw) hm6 rfl
 refine ⟨_,_,Den.list (O2.sq 1) (e1.mo O2.same),Den.list (O2.sq 0) (d1.mo O2.same),shd.ok (by decide),shd.ok (by decide),_,rfl,?_⟩
 rw [if_pos rfl,Bq shd]
 refine yp ?_
 have O:=O2.tail.tail
 clear O1 O2 hm5 hm6
 refine ⟨_,rfl,A2.p,A2.dx,_,rfl,O.get 0,rfl,A2,[],Hc,_,r,S,rfl,⟨us2,vs2,O,e0,e1⟩,hk.a.rp,(fun S' e Hd H4 sd ra=>?_),fun k e=>nomatch e⟩
 cases e
 clear O e0 e1
 obtain ⟨us3,vs3,O,e0,e1⟩:=ra
 have OB:=OB.dD sd
 have d1:=d1.mo sd
 have q:=fun H' s=>q H' (sd.trans s)
 refine ⟨_,rfl,A2.p,A2.dx,_,rfl,O.get 0,rfl,A2.p,A2.dx,A2.lo,_,vs3,rfl,O.get 0,rfl,O.sq 5,fun n1 hn1=>?_⟩
 have O:=O.mk' (o:=.lst vs3) hn1 rfl
 refine ⟨_,rfl,A.p,A.dx,_,rfl,(OB.dD O.same).get 0,rfl,A.p,A.dx,A.lo,_,lw,rfl,(OB.dD O.same).get 0,rfl,(OB.dD O.same).sq 5,fun n2 hn2=>?_⟩
 have O:=O.mk' (o:=.lst lw) hn2 rfl
 refine ⟨szl,fun n3 hn3=>?_⟩
 have O:=O.mk' (o:=.tup [V.str "turn"]) hn3 rfl
 refine ⟨szl,fun n4 hn4=>?_⟩
 have O:=O.mk' (o:=.lst [V.ref n3]) hn4 rfl
 have hwl:=d1.length
 rw [aeu] at hwl
 refine ⟨n2,n4,_,_,rfl,rfl,O.get 2,O.get 0,Nat.le_of_lt (aH (n:=lw.length+1) (by omega)),fun n5 hn5=>?_⟩
 have O:=O.mk' (o:=.lst (lw++[V.ref n3])) hn5 rfl
 generalize upd _ n5 _=H5 at O ⊢
 have g2:bY K H5 (lw++[V.ref n3]) ((S.ds++[Ea.turn]).map Dw):=by rw [aga];exact (d1.mo O.same).append (.cons (.tuple (O.sqT 2) (.cons (.str _) .nil)) .nil)
 refine ⟨_,_,Den.list (O.sq 4) (e1.mo O.same),Den.list (O.sq 0) g2,shE.ok (by decide),shE.ok (by decide),?_⟩
 rw [if_neg agi]
 show Q (.bl (PyData.eqv (.list ((S.ds++[Ea.turn]).map Dw)) (.list ((S.ds++[Ea.turn]).map Dw)))) _
 rw [Bq shE]
 exact q _ O.same
theorem afj (a:Int)(n:Nat)(h:0<n):0<=a % (n:Int)/\a % (n:Int)<n:=⟨agW _ (by omega),agP _ (by omega)⟩
theorem Wo {q:List Int}{x:Int}(hx:x∈q)(h:x < -1\/(q.length:Int)<=x):Rv.isR q=false:=by
 unfold Rv.isR;rw [decide_eq_false (p:=Rv.inB q) (fun z=>by have:=z x hx;omega),Bool.and_false,Bool.false_and]
theorem abR {q:List Int}{p:Nat}(hp:q[p]?=some (p:Int)):Rv.isR q=false:=by
 have lp:=(af4.mp hp).1;have np:Rv.nxt q (p:Int)=p:=by
  have:=Rv.lW (r:=q) (p:=(p:Int)) (by omega) (by omega);rw [agm,hp] at this;exact (agz this).symm
 have key:∀ f,Rv.yj q f (p:Int)=p:=by
  intro f
  induction f with
  | zero=>rfl
  | succ f ih =>
   show Rv.yj q f (Rv.stp q (p:Int))=p;unfold Rv.stp;rw [if_neg (by omega),np];exact ih
 unfold Rv.isR;rw [decide_eq_false (p:=∀ i,i<q.length->Rv.yj q q.length (i:Int)=-1) (fun z=>by
  have h1:=z p lp;rw [key] at h1;omega),Bool.and_false]
theorem abe {w:Int}(hk:k<r.length)(h0:0<=w)(h1:w<3):∃ y:Int,atI [V.int (r.length:Int),V.int (-2),V.int (k:Int)] w=some (V.int y)/\Rv.isR (r.set k y)=false:=by
 have hm:∀ y:Int,y∈r.set k y:=fun y=>agd (ag8 hk);rcases (by omega:w=0\/w=1\/w=2) with e| e| e <;>subst e
 ·exact ⟨_,rfl,Wo (hm _) (.inr (by rw [agG];exact Int.le_refl _))⟩
 ·exact ⟨_,rfl,Wo (hm _) (.inl (by decide))⟩
 ·exact ⟨_,rfl,abR (ag8 hk)⟩
theorem abp (c:Int)(n:Nat):∀ x∈TJ c n,0<=x/\x<8589934592:=fun x hx=>by
 unfold TJ at hx;obtain ⟨i,_,rfl⟩:=agF.mp hx;have h0:=acW c i;refine ⟨h0,?_⟩;unfold peb;have:=agP (((c % 8589934583+4409)*(2*(i:Int)+3)+90001*(i:Int)) ^ 3) (show (0:Int)<68719476731 by decide);omega
abbrev J2:Stmt:=top 93
theorem rM:aG ["script","first","great","river","book","spoilt","done","cell","caught","e"] ["script"] (ao J2):=by walk_at "sc"
inductive Qt (K:PySem.W.Frag)(T:fJ)(vs:List V)(H:Hp)(Q:VK)(E:XK):Prop
 | mk (a:Addr)(ns:List Int)(_:vs=[.ref a])(_:SqL K H a (ns.map V.int))(_:ns.length<=63)(_:TabsOk T H)(_:∀ H',Q (.bl true) H')
variable (lB:(CX0|||1) pH pN ["script","k"] (Qz K))
variable (pP:(CX0|||2) pF pK ["cell","many"] Qn)
variable (Ay:(CX0|||2) uH uW ["xs","cell"] (Le K))
variable (pQ:(CX0|||6) pG pL ["some"] (V3 K T))
variable (DX:((CXE P w)|||12) xg xU ["book","river","xs","great"] (acL K T C c cP cF cH cD))
variable (yg:(CX0|||6) wZ xR ["book","river"] (Qi K T C))
include dj d9 jd bQ gP gF j7 eE jc lB pP Ay pQ DX yg in
theorem ade (D:Df K mg "law" J2 ["script"] f fd)(B:Blt mg)(cV:Cl K mg "Book" C iK Ti)(aL:Cl K mg "Roll" CR f0 Uk)(TT:Tr K c cP cF cH cS cN)(HB:aey K C)(KB:kitOne K (.ref C) (.ref CR)=some true):(CX0|||13) f fd ["script"] (Qt K T):=by
 refine D.F.ok rM ?_ ?_
 walk_at "i"
 obtain ⟨a,ns,rfl,hS,hlen,tk,k⟩:=h
 have hu:=hr.units
 refine ⟨_,(1<$>rM<$>(dj<*lB<*(pv 0>=>aA>=>ak))<|>2<$>rM<$>(qz kj (@bD _ _ _ _ _ _ _ _ gb (@bD _ _ _ _ _ _ _ _ pB (pv 1) aA) aA) aA (bf _))<|>3<$>rM<$>(jd<*Ay<*(d9<*pP<*(dj<*lB<*(pv 0>=>aA>=>ak)>=>@bD _ _ _ _ _ _ _ _ gb (pv 1) aA>=>ak)>=>dj<*lB<*(pv 0>=>aA>=>ak)>=>ak))<|>4<$>rM<$>(Q0 cV.k j7 hr.m rfl cV.m bQ.b .nil abu (bL bh rfl B.list agy (pv 3>=>ak)>=>ak))<|>5<$>rM<$>(bL bh rfl B.list agy (pv 3>=>ak))<|>gQ (@aZ _ _ _ _ _ _ _ aU (@dM _ _ _ _ (aD aB rfl B.len agk (pv 3>=>ak)>=>@Eh _ _ _ _ _ _ vU aA>=>@bD _ _ _ _ _ _ _ _ gb (@bD _ _ _ _ _ _ _ _ pB (pv 1) aA) (aD aB rfl B.len agk (pv 3>=>ak))>=>ak)) (@bD _ _ _ _ _ _ _ _ gb (pv 1) aA) (fun _ _=>rfl)) (pX (pv 5) (@bD _ _ _ _ _ _ _ _ gb (@bD _ _ _ _ _ _ _ _ pB (pv 1) aA) (aD aB rfl B.len agk (pv 3>=>ak))) set_list)<|>@cM _ _ _ _ _ _ _ _ (PW.pt (pw_or (jq (iy (eE<*pQ<*(pv 5>=>ak)))) (pw_or1 (jq (iy (eE<*pQ<*(@dM _ _ _ _ ak>=>ak)))))))
   (~~~(@aP _ _ _ _ Cp))
   bA<|>6<$>rM<$>aA<|>f9 agC rfl (cJ (@bD _ _ _ _ _ _ _ _ Cu (@dM _ _ _ _ (pv 1>=>ak)) (Bo Gb (pv 0) (Ci aA) (Ci aA)))) (7>>rM)
   (8<$>rM<$>yE<|>(Ik (Wg (i:=9) ⟨rfl,rfl,rfl⟩ rfl (Pj (Pk (aaW DX hr.m rfl gP.m gP.F.kp gP.b .nil (pv 4>=>pv 3>=>d9<*pP<*(pv 7>=>aA>=>ak)>=>pv 2>=>ak)))) rfl gF.m rM.nd rfl rfl (fun e =>
    (~~~(8<$>rM<$>(pv 9)))))
   (@cM _ _ _ _ _ _ _ _ (PW.pt (pw_and (aR Q6 (pv 8) yE (bf _)) (pw_and1 (jq (iy (aD oN rfl B.isinstance ag2 (pv 8>=>Q5 (v:=.ty "ValueError") rfl B.ValueError Tg rfl>=>ak)))))))
    (~~~(@aP _ _ _ _ Cp))
    bA<|>6<$>rM<$>(@bD _ _ _ _ _ _ _ _ ud (pv 6) aA)<|>(~~~(@cM _ _ _ _ _ _ _ _ (PW.pt (pw_and (aR kj (pv 6) aA (bf _)) (pw_and1 (jq (iy (jc<*yg<*(pv 4>=>pv 3>=>ak)))))))
    (~~~(@aP _ _ _ _ Cp))
    bA)))))<|>(~~~(@aP _ _ _ _ (Mg (aD u9 rfl B.isinstance ag2 (pv 4>=>Ip rfl aL.m>=>ak)) (Ma (jc<*yg<*(pv 4>=>pv 3>=>ak))))))),?_⟩
 have O:=Ow.refl tk
 refine ⟨_,rfl,a,ns,0,rfl,hS,?_⟩
 generalize ns.getD 0 0=fi
 have m12:=afj fi 12 (by decide)
 have m3:=afj fi 3 (by decide)
 refine ⟨_,rfl,_,_,rfl,rfl,⟨by decide,by decide⟩,_,_,rfl,rfl,(by show (0:Int)<2;decide),rfl,?_⟩
 refine ⟨_,rfl,a,ns,1,rfl,hS,_,rfl,_,_,rfl,rfl,(by show (0:Int)<12;decide),_,_,rfl,by omega,by omega,O.got fun lp H1 xs O e=>?_⟩
 subst e
 refine ⟨_,rfl,a,ns,2,rfl,O.same.seq hS,lp,_,_,rfl,O.sq 0,by rw [Bm];omega,O.got fun lv H2 xs O e=>?_⟩
 obtain ⟨r,rfl,hR,hrl⟩:=e
 rw [Bm] at hrl
 have r1:1<=r.length:=by omega
 have r12:r.length<=12:=by omega
 have hIR:=Ih hR r1 (by omega)
 generalize decide ((fun i j=>V.int (i % j)) (fi / 12) 2=V.int 1)=gr
 refine ⟨_,rfl,lv,_,rfl,.inl (O.sq 0),fun lb hlb=>?_⟩
 walk_at "nw"
 intro x dx nx ndx nex
 have O:=(O.mk' ndx (o:=.own x) rfl).mk' (a:=x) (o:=.ins C dx []) (by rw [aN nex.symm];exact nx) rfl
 refine ⟨x,dx,lb,H,_,r,rfl,O,O.sq 2,by omega,fun _ A Z H5 eA eZ O5=>⟨rfl,?_⟩,fun z=>by rw [hIR] at z;cases z⟩
 subst eA
 clear O nx ndx nex
 have O:Ow T H H5 ((RX C A (exB Z) r 0 [] [] []++BL Z [] [] [] [])++[(lv,.lst (r.map V.int))]):=O5.sub (by rw [ahJ];exact ag4 (ag4 (List.Sublist.cons _ (List.Sublist.cons₂ _ (List.nil_sublist _))) _) _)
 clear O5
 refine ⟨_,rfl,lv,_,rfl,.inl (O.sq 10),fun ls hls=>?_⟩
 walk_at "nw"
 have hml:(((r.map V.int).length:Nat):Int)=(r.length:Int):=by rw [aeu]
 have n0:=afj (fi / 24) r.length (by omega)
 obtain ⟨p,hp⟩:=agA n0.1
 have hpl:p<r.length:=by omega
 obtain ⟨y,hy,hyR⟩:=abe hpl m3.1 m3.2
 refine ⟨_,rfl,lv,_,rfl,.inl (O.sq 11),?_⟩
 refine ⟨2,rfl,_,rfl,_,_,rfl,rfl,⟨by decide,by decide⟩,_,rfl,lv,_,rfl,.inl (O.sq 11),_,_,rfl,rfl,(by rw [hml];omega),szl,fun l3 h3=>?_⟩
 walk_at "nw"
 dsimp only at O
 rw [hml,hp] at O
 refine ⟨_,rfl,_,_,rfl,rfl,(by show (0:Int)<3;decide),?_⟩
 refine ⟨l3,_,_,_,rfl,rfl,O.sq 0,hy,?_⟩
 have O:=O.tail
 refine ⟨_,rfl,_,rfl,_,_,rfl,rfl,⟨by decide,by decide⟩,_,rfl,lv,_,rfl,.inl (O.sq 11),_,_,rfl,rfl,(by rw [hml];omega),?_⟩
 dsimp only
 rw [hml,hp]
 refine uc O 0 rfl (gZ (by rw [aeu];omega)) fun H6 O=>?_
 rw [<- agV] at O
 refine ⟨_,rfl,ls,_,rfl,O.sq 0,by rw [agG];omega,hyR,O.same.t1,fun H7 s7=>⟨_,rfl,yp ?_⟩⟩
 have O:=(O.dD s7).tail
 refine ⟨szl,fun l4 h4=>?_⟩
 walk_at "nw"
 refine ⟨l4,[],rfl,O.sq 0,by decide,rfl,O.same.t1,fun H8 s8=>⟨_,rfl,yp ?_⟩⟩
 have O:=(O.dD s8).tail
 refine ⟨_,rfl,szl,fun l5 h5=>?_⟩
 walk_at "nw"
 refine ⟨_,rfl,3,rfl,43,rfl,a,_,rfl,O.same.seq hS,fun l6 h6=>?_⟩
 walk_at "nw"
 rw [show Kw (ns.map V.int) (some 3) (some 43)=((ns.drop 3).take 40).map V.int from aec ns 3 43] at O
 have hql:((ns.drop 3).take 40).length<=40:=by rw [agt];omega
 generalize (ns.drop 3).take 40=q1 at O hql
 refine ⟨l5,l6,_,_,rfl,rfl,O.get 1,O.get 0,jL (by rw [aeu];simp only [agx,agU];omega),fun lq hlq=>?_⟩
 walk_at "nw"
 have O:=O.two.two
 rw [show [V.int fi]++q1.map V.int=(fi::q1).map V.int from rfl] at O
 have hqs:(fi::q1).length<=41:=Nat.succ_le_succ hql
 generalize fi::q1=qs at O hqs
 have O:=Ow.front [(lq,.lst (qs.map V.int))] (RX C A (exB Z) r 0 [] [] []++BL Z [] [] [] []) [(lv,.lst (r.map V.int))] O
 rw [ahJ] at O
 have bk0:Bk r RS.new [] [] [] [] 0:=⟨⟨⟨hR,by omega,rfl,by decide,by decide,by decide,ab9.nil⟩,r1,rfl,agb _,(fun d hd=>nomatch hd),(fun d hd=>nomatch hd),(fun d hd=>nomatch hd),Int.le_refl _,Int.le_refl _,agb _⟩,agb _,(fun d hd=>nomatch hd),rfl,agb _,(fun d hd=>nomatch hd),agb _,(fun d hd=>nomatch hd)⟩
 have ba0:BkA K T C A Z r H _ [(lq,.lst (qs.map V.int)),(lv,.lst (r.map V.int))] 0:=⟨RS.new,[],[],[],[],[],[],⟨[],[],O,.nil,.nil⟩,.nil,.nil,bk0⟩
 refine ⟨lq,rfl,⟨_,O.sq 10⟩,?_⟩
 refine iB (K:=K) (xs:=qs.map V.int) (fun i σ H'=>Iv (∃ (Hb:Hp)(Z:Bx)(j:Nat)(v7 v8 v9:Option V),σ=[some (.ref a),some (.int fi),some (.bl gr),some (.ref lv),some (.ref A.p),some (.ref ls),some (.int (i:Int)),v7,v8,v9]/\j<=i/\BkA K T C A Z r Hb H' [(lq,.lst (qs.map V.int)),(lv,.lst (r.map V.int))] j))
  ⟨trivial,H,Z,0,none,none,none,rfl,agb _,ba0⟩ (fun i σ H' _ ⟨_,_,_,_,_,_,_,_,_,ba⟩=>(by obtain ⟨_,_,_,_,_,_,_,⟨_,_,O,_,_⟩,_⟩:=ba;exact O.sq 10)) ?_ ?_
 ·clear O ba0 bk0
  rintro i yv σ H8 hyv ⟨-,Hb,Z,j,v7,v8,v9,rfl,hj,ba⟩
  obtain ⟨z,hz,rfl⟩:=ints_get hyv
  have hi:=(af4.mp hz).1
  refine ⟨fun σ H'=>Iv (∃ (Hb:Hp)(Z:Bx)(j:Nat)(v8 v9:Option V),σ=[some (.ref a),some (.int fi),some (.bl gr),some (.ref lv),some (.ref A.p),some (.ref ls),some (.int (i:Int)),some (.int z),v8,v9]/\j<=i+1/\BkA K T C A Z r Hb H' [(lq,.lst (qs.map V.int)),(lv,.lst (r.map V.int))] j/\(v8=some .non\/∃ (ea x:Addr),JF c cP cF cH x/\v8=some (.ref ea)/\H' ea=some (.ext (XAt ea x)))),?_,?_⟩
  ·obtain ⟨S,gs,ks,ps,ds,rs,us,⟨lu,lw,O,d0,d1⟩,dP,dR,hk⟩:=id ba
   refine ⟨_,rfl,_,rfl,_,rfl,_,_,rfl,by decide,by decide,fun lx H7 xs s7 n7 e7 hx=>?_⟩
   subst hx
   have s7:=aJ.of O.same.t1 s7
   have ba':=ba.call s7
   clear O
   obtain ⟨S,gs,ks,ps,ds,rs,us,⟨lu,lw,O,d0,d1⟩,dP,dR,hk⟩:=id ba'
   refine ⟨_,rfl,A,Z,Hb,_,r,j,lv,lx,TJ z 13,gr,rfl,ba',by omega,O.sq 11,SqL.of e7,Bm _ _,abp _ _,fun Z' Hc H9 sc ba2=>?_,fun x hx ea H9 s9 he=>⟨_,ea,rfl,rfl,TT.m _ hx,?_⟩⟩
   ·exact ⟨trivial,Hc,Z',j+1,_,_,rfl,by omega,ba2,.inl rfl⟩
   ·have s2:=s9.upd (o':=.ext (XAt ea x)) (s9.free he) (.inl he)
    exact ⟨_,rfl,trivial,Hb,Z,j,_,_,rfl,by omega,ba'.call s2,.inr ⟨ea,x,hx,rfl,aO⟩⟩
  ·clear ba
   rintro σ H9 ⟨-,Hb,Z,j,v8,v9,rfl,hj,ba,hv⟩
   obtain ⟨S,gs,ks,ps,ds,rs,us,⟨lu,lw,O,d0,d1⟩,dP,dR,hk⟩:=id ba
   rcases hv with rfl| ⟨ea,x,hx,rfl,he⟩
   case' inl=>refine ⟨_,rfl,rfl,_,rfl,yp ?_⟩
   case' inr=>refine ⟨_,rfl,rfl,_,rfl,vP ⟨_,rfl,ea,_,_,_,_,rfl,he,TT.x _ hx,.inl ⟨_,rfl,rfl⟩,TT.kv _ hx,_,rfl,yp ?_⟩⟩
   all_goals
    refine ⟨_,rfl,_,_,rfl,rfl,?_⟩
    refine ⟨_,rfl,rfl,_,rfl,ifI (fun _=>?_) (fun _=>?_)⟩
    ·exact ⟨_,rfl,_,rfl,A,Z,Hb,_,r,j,lv,rfl,ba,by omega,O.sq 11,fun H' s'=>⟨_,rfl,yp ⟨trivial,Hb,Z,j,_,_,_,rfl,hj,ba.call s'⟩⟩⟩
    ·exact ⟨trivial,Hb,Z,j,_,_,_,rfl,hj,ba⟩
 ·clear O ba0 bk0
  rintro σ H8 ⟨-,Hb,Z,j,v7,v8,v9,rfl,hj,ba⟩
  rw [aeu] at hj
  obtain ⟨S,gs,ks,ps,ds,rs,us,⟨lu,lw,O,d0,d1⟩,dP,dR,hk⟩:=id ba
  refine ⟨_,rfl,_,_,_,true,rfl,.ins (O.get 0) cV.c HB.ha HB.hn HB.ht HB.hm,KB,_,rfl,vP ?_⟩
  refine ⟨_,rfl,_,rfl,A,Z,Hb,_,r,j,lv,rfl,ba,by omega,O.sq 11,fun H' _=>k H'⟩
abbrev eC:Ec:=⟨92,116,104,80,140,128,152,56⟩
theorem lsc {α:Type}{n:Nat}{us:List α}(h:us.length=n+1):∃ a vs,us=a::vs/\vs.length=n:=by
 cases us with
 | nil=>cases h
 | cons a vs=>exact ⟨a,vs,rfl,Nat.succ.inj h⟩
theorem lsn0 {α:Type}{us:List α}(h:us.length=0):us=[]:=List.eq_nil_of_length_eq_zero h
theorem afU {α:Type}{us:List α}(h:us.length=1):∃ a0,us=[a0]:=by
 obtain ⟨a,v,e,h⟩:=lsc h;obtain e2:=lsn0 h;exact ⟨a,by rw [e,e2]⟩
theorem afT {α:Type}{us:List α}(h:us.length=2):∃ a0 a1,us=[a0,a1]:=by
 obtain ⟨a,v,e,h⟩:=lsc h;obtain ⟨b0,e2⟩:=afU h;exact ⟨a,b0,by rw [e,e2]⟩
theorem afn {α:Type}{us:List α}(h:us.length=3):∃ a0 a1 a2,us=[a0,a1,a2]:=by
 obtain ⟨a,v,e,h⟩:=lsc h;obtain ⟨b0,b1,e2⟩:=afT h;exact ⟨a,b0,b1,by rw [e,e2]⟩
theorem adx {α:Type}{us:List α}(h:us.length=4):∃ a0 a1 a2 a3,us=[a0,a1,a2,a3]:=by
 obtain ⟨a,v,e,h⟩:=lsc h;obtain ⟨b0,b1,b2,e2⟩:=afn h;exact ⟨a,b0,b1,b2,by rw [e,e2]⟩
theorem aer {α:Type}{us:List α}(h:us.length=5):∃ a0 a1 a2 a3 a4,us=[a0,a1,a2,a3,a4]:=by
 obtain ⟨a,v,e,h⟩:=lsc h;obtain ⟨b0,b1,b2,b3,e2⟩:=adx h;exact ⟨a,b0,b1,b2,b3,by rw [e,e2]⟩
theorem afS {α:Type}{us:List α}(h:us.length=6):∃ a0 a1 a2 a3 a4 a5,us=[a0,a1,a2,a3,a4,a5]:=by
 obtain ⟨a,v,e,h⟩:=lsc h;obtain ⟨b0,b1,b2,b3,b4,e2⟩:=aer h;exact ⟨a,b0,b1,b2,b3,b4,by rw [e,e2]⟩
theorem lsn7 {α:Type}{us:List α}(h:us.length=7):∃ a0 a1 a2 a3 a4 a5 a6,us=[a0,a1,a2,a3,a4,a5,a6]:=by
 obtain ⟨a,v,e,h⟩:=lsc h;obtain ⟨b0,b1,b2,b3,b4,b5,e2⟩:=afS h;exact ⟨a,b0,b1,b2,b3,b4,b5,by rw [e,e2]⟩
theorem Fq {K:PySem.W.Frag}{x qual:Str}{st:Stmt}{f:Addr}{fd:FuncData}{n0:Str}(F:Fun K x qual st f fd)(h:∀ (kV doc pm:Value)(an:Option Addr)(cdv ct u0:Value),bindArgs (fnOf x qual (jl st) (fV st) (ao st) .none kV doc pm an cdv ct) ⟨[u0],[]⟩=pure (([n0]:List Str).zip [u0])):Binds K fd [n0] []:=
 F.binds (ps:=[n0]) fun kV doc pm an cdv ct us hl=>by
  obtain ⟨_,rfl⟩:=afU hl;exact h kV doc pm an cdv ct _
theorem Nk {K:PySem.W.Frag}{x qual:Str}{st:Stmt}{f:Addr}{fd:FuncData}{n0 n1:Str}(F:Fun K x qual st f fd)(h:∀ (kV doc pm:Value)(an:Option Addr)(cdv ct u0 u1:Value),bindArgs (fnOf x qual (jl st) (fV st) (ao st) .none kV doc pm an cdv ct) ⟨[u0,u1],[]⟩=pure (([n0,n1]:List Str).zip [u0,u1])):Binds K fd [n0,n1] []:=
 F.binds (ps:=[n0,n1]) fun kV doc pm an cdv ct us hl=>by
  obtain ⟨_,_,rfl⟩:=afT hl;exact h kV doc pm an cdv ct _ _
theorem Tj {K:PySem.W.Frag}{x qual:Str}{st:Stmt}{f:Addr}{fd:FuncData}{n0 n1 n2:Str}(F:Fun K x qual st f fd)(h:∀ (kV doc pm:Value)(an:Option Addr)(cdv ct u0 u1 u2:Value),bindArgs (fnOf x qual (jl st) (fV st) (ao st) .none kV doc pm an cdv ct) ⟨[u0,u1,u2],[]⟩=pure (([n0,n1,n2]:List Str).zip [u0,u1,u2])):Binds K fd [n0,n1,n2] []:=
 F.binds (ps:=[n0,n1,n2]) fun kV doc pm an cdv ct us hl=>by
  obtain ⟨_,_,_,rfl⟩:=afn hl;exact h kV doc pm an cdv ct _ _ _
theorem aaP {K:PySem.W.Frag}{x qual:Str}{st:Stmt}{f:Addr}{fd:FuncData}{n0 n1 n2 n3:Str}(F:Fun K x qual st f fd)(h:∀ (kV doc pm:Value)(an:Option Addr)(cdv ct u0 u1 u2 u3:Value),bindArgs (fnOf x qual (jl st) (fV st) (ao st) .none kV doc pm an cdv ct) ⟨[u0,u1,u2,u3],[]⟩=pure (([n0,n1,n2,n3]:List Str).zip [u0,u1,u2,u3])):Binds K fd [n0,n1,n2,n3] []:=
 F.binds (ps:=[n0,n1,n2,n3]) fun kV doc pm an cdv ct us hl=>by
  obtain ⟨_,_,_,_,rfl⟩:=adx hl;exact h kV doc pm an cdv ct _ _ _ _
theorem aaO {K:PySem.W.Frag}{x qual:Str}{st:Stmt}{f:Addr}{fd:FuncData}{n0 n1 n2 n3 n4:Str}(F:Fun K x qual st f fd)(h:∀ (kV doc pm:Value)(an:Option Addr)(cdv ct u0 u1 u2 u3 u4:Value),bindArgs (fnOf x qual (jl st) (fV st) (ao st) .none kV doc pm an cdv ct) ⟨[u0,u1,u2,u3,u4],[]⟩=pure (([n0,n1,n2,n3,n4]:List Str).zip [u0,u1,u2,u3,u4])):Binds K fd [n0,n1,n2,n3,n4] []:=
 F.binds (ps:=[n0,n1,n2,n3,n4]) fun kV doc pm an cdv ct us hl=>by
  obtain ⟨_,_,_,_,_,rfl⟩:=aer hl;exact h kV doc pm an cdv ct _ _ _ _ _
theorem aef {K:PySem.W.Frag}{x qual:Str}{st:Stmt}{f:Addr}{fd:FuncData}{n0 n1 n2 n3 n4 n5:Str}(F:Fun K x qual st f fd)(h:∀ (kV doc pm:Value)(an:Option Addr)(cdv ct u0 u1 u2 u3 u4 u5:Value),bindArgs (fnOf x qual (jl st) (fV st) (ao st) .none kV doc pm an cdv ct) ⟨[u0,u1,u2,u3,u4,u5],[]⟩=pure (([n0,n1,n2,n3,n4,n5]:List Str).zip [u0,u1,u2,u3,u4,u5])):Binds K fd [n0,n1,n2,n3,n4,n5] []:=
 F.binds (ps:=[n0,n1,n2,n3,n4,n5]) fun kV doc pm an cdv ct us hl=>by
  obtain ⟨_,_,_,_,_,_,rfl⟩:=afS hl;exact h kV doc pm an cdv ct _ _ _ _ _ _
theorem aee {K:PySem.W.Frag}{x qual:Str}{st:Stmt}{f:Addr}{fd:FuncData}{n0 n1 n2 n3 n4 n5 n6:Str}(F:Fun K x qual st f fd)(h:∀ (kV doc pm:Value)(an:Option Addr)(cdv ct u0 u1 u2 u3 u4 u5 u6:Value),bindArgs (fnOf x qual (jl st) (fV st) (ao st) .none kV doc pm an cdv ct) ⟨[u0,u1,u2,u3,u4,u5,u6],[]⟩=pure (([n0,n1,n2,n3,n4,n5,n6]:List Str).zip [u0,u1,u2,u3,u4,u5,u6])):Binds K fd [n0,n1,n2,n3,n4,n5,n6] []:=
 F.binds (ps:=[n0,n1,n2,n3,n4,n5,n6]) fun kV doc pm an cdv ct us hl=>by
  obtain ⟨_,_,_,_,_,_,_,rfl⟩:=lsn7 hl;exact h kV doc pm an cdv ct _ _ _ _ _ _ _
section
variable {K:PySem.W.Frag}{h:Heap}{mg:Str->Option Value}{x q:Str}{st:Stmt}{ps fs:List Str}{f fa C C':Addr}{fd:FuncData}
def XDf (K:PySem.W.Frag)(mg:Str->Option Value)(x:Str)(st:Stmt)(ps:List Str):Prop:=∃ f d,Df K mg x st ps f d
def XDm (K:PySem.W.Frag)(C:Addr)(x q:Str)(st:Stmt)(ps:List Str):Prop:=∃ f d,Dm K C x q st ps f d
def XDn (K:PySem.W.Frag)(C C':Addr)(x q:Str)(st:Stmt)(ps:List Str):Prop:=∃ f d,Dm K C x q st ps f d/\Dm K C' x q st ps f d
theorem abL (X:K.In h)(G:h.Ns mainGlobals mg)(a:nsIn K mainGlobals x=some (some (.ref f)))(F:Fun K x x st f fd)(b:Fun K x x st f fd->Binds K fd ps []):XDf K mg x st ps:=⟨_,_,F,b F,ahw X G a⟩
theorem afP {c:Addr}(X:K.In h)(G:h.Ns mainGlobals mg)(a:nsIn K mainGlobals x=some (some (.ref f)))(F:Fun K x x st f fd)(b:Fun K x x st f fd->Binds K fd ps [])(e:fd.code=.ref c):∃ f d,Df K mg x st ps f d/\d.code=.ref c:=⟨_,_,⟨F,b F,ahw X G a⟩,e⟩
theorem afm (m:Meth K C x f)(F:Fun K x q st f fd)(b:Fun K x q st f fd->Binds K fd ps []):XDm K C x q st ps:=⟨_,_,F,b F,m⟩
theorem adt (m:Meth K C x f)(m':PySem.W.findIn K (.ref C') x=some (some (.ref f)))(F:Fun K x q st f fd)(b:Fun K x q st f fd->Binds K fd ps []):XDn K C C' x q st ps:=⟨_,_,⟨F,b F,m⟩,F,b F,m',m.fn,m.kp⟩
theorem afl (m:Meth K C x f)(F:Fun K x q st f fd)(b:Fun K x q st f fd->Binds K fd ps [])(g:PySem.W.specialIn K (.ref C) "__getattribute__"=some (some (.builtin "type.__getattribute__")))(r:readsIn K C (.type "type")=true)(c:findCls K (.ref C) (.type "type") x=some (.val (.ref f))):∃ f d,Dm K C x q st ps f d/\ClF K C f x:=⟨_,_,⟨F,b F,m⟩,g,r,c,F.kp⟩
theorem afQ (D:Dm K C "__init__" q st ps f fd)(c:Cls K C)(m:makesIn K C=true)(k:keepIn K (.ref C)=true)(g:mg x=some (.ref C))(n:∀ y∈fs,j4 K C y):Cl K mg x C f fs:=⟨c,⟨m,D.m.at_,D.m.fn,k⟩,g,n⟩
theorem afk {oc kV dc pm cd ct:Value}{od an:Option Addr}{sl:Array (Option Value)}{Z:FuncData->Prop}(X:K.In h)(G:h.Ns mainGlobals mg)(e:mg "law"=some (.ref fa))(a:nsIn K mainGlobals "law"=some (some (.ref f)))(l:K.lookup f=some ⟨oc,od,.func (fnOf "law" "law" (jl J2) (fV J2) (ao J2) .none kV dc pm an cd ct),sl⟩)(c:codeIn K cd "law"=true)(k:keepIn K (.ref f)=true)(z:∀ d,Df K mg "law" J2 ["script"] fa d->Z d):∃ d,(∀ (s:Shared)(v:Value),BindsTo s d ⟨[v],[]⟩ [("script",v)])/\Z d:=by
 have e:=e.symm.trans (ahw X G a);cases e;have F:=ad2 (st:=J2) l c k;exact ⟨_,fun s v=>.of_eq rfl,z _ ⟨F,Fq F (fun _ _ _ _ _ _ _=>rfl),ahw X G a⟩⟩
end
theorem walk {l:PySem.W.OpenLaw}{q:Program}{loose:List Str}{XP:(Str->Option Value)->Heap->Prop}{YP:World->Heap->Prop}{d:DefRec}{K:Params->PySem.W.Frag}{P0 P1:Addr}(hn:l.most=some 63)(hdf:d.params.defaults=[])
  (hY:∀ (w:World)(h:Heap),YP w h->(K w.params).In h)(hYt:∀ (w:World)(h:Heap),YP w h->∀ P∈([P0,P1]:List Addr),h.get? P=some (PySem.W.tabObj #[]))(hts:∀ (w:World),∀ P∈([P0,P1]:List Addr),(K w.params).lookup P=none/\∃ c,PySem.W.codeHdIn (K w.params) c P=true)
  (F:∀ (P:Program)(w:World)(mg:Str->Option Value)(fa:Addr)(h:Heap),(K w.params).In h->h.Ns mainGlobals mg->mg d.name=some (.ref fa) ->
   ∃ fd:FuncData,(∀ (s:Shared)(u:Value),BindsTo s fd ⟨[u],[]⟩ [("script",u)])/\∀ base:Heap,BM mg base->Hf P w (K w.params) mg base CX0 13 fa fd ["script"] (Qt (K w.params) [(P0,dG.1,dG.2),(P1,iz.1,iz.2)])):
  PySem.W.WalkO q loose XP YP l.row.toRowW d [] (fun f vs=>PySem.call f vs):=
 L2.T9 (n:=63) (k:=13) (x:="script") (CX:=fun _=>CX0) (sp:=fun w=>Qt (K w.params) [(P0,dG.1,dG.2),(P1,iz.1,iz.2)]) (ts:=([P0,P1]:List Addr)) hn (by decide) hdf ⟨rfl,by decide,by decide⟩ hY hYt hts (fun w mg fa h a b c=>(F _ w mg fa h a b c).imp fun _ z=>⟨z.1,fun base _ _=>z.2 base⟩) (fun _ H a ns hl _ hT hS=>⟨a,ns,rfl,hS,hl,fun t ht=>.inl (hT t.1 (by simp only [agu,agR,or_false] at ht ⊢;(try rcases ht with rfl| ht)<;>(try subst ht)<;>simp)),fun _=>rfl⟩) fun _ _ _ _ _ z=>z
end My
set_option hygiene false
local macro_rules | `(tactic| walk_at "k") => `(tactic| (first | k_is | kernel_rfl | rfl))
local macro_rules | `(tactic| walk_at "me") => `(tactic| exact ⟨by k_is, by walk_at "k", by k_is⟩)
local macro_rules | `(tactic| walk_at "h") => `(tactic| exact ⟨_, ahw KX G (by k_is)⟩)
local macro_rules | `(tactic| walk_at "ec") => `(tactic| exact ⟨ahw KX G (by k_is), by walk_at "k", ⟨by walk_at "k", by walk_at "k", by walk_at "k", by walk_at "k", by walk_at "k", by walk_at "k", by walk_at "k", by walk_at "k"⟩⟩)
local macro_rules | `(tactic| walk_at "d1") => `(tactic| exact My.abL KX G (by k_is) ⟨⟨_, _, _, _, _, _, _, _, _, rfl, by k_is, by k_is⟩, by k_is⟩ (fun F => My.Fq F (fun _ _ _ _ _ _ _ => rfl)))
local macro_rules | `(tactic| walk_at "m1") => `(tactic| exact My.afm (by walk_at "me") ⟨⟨_, _, _, _, _, _, _, _, _, rfl, by k_is, by k_is⟩, by k_is⟩ (fun F => My.Fq F (fun _ _ _ _ _ _ _ => rfl)))
local macro_rules | `(tactic| walk_at "n1") => `(tactic| exact My.adt (by walk_at "me") (by k_is) ⟨⟨_, _, _, _, _, _, _, _, _, rfl, by k_is, by k_is⟩, by k_is⟩ (fun F => My.Fq F (fun _ _ _ _ _ _ _ => rfl)))
local macro_rules | `(tactic| walk_at "d2") => `(tactic| exact My.abL KX G (by k_is) ⟨⟨_, _, _, _, _, _, _, _, _, rfl, by k_is, by k_is⟩, by k_is⟩ (fun F => My.Nk F (fun _ _ _ _ _ _ _ _ => rfl)))
local macro_rules | `(tactic| walk_at "m2") => `(tactic| exact My.afm (by walk_at "me") ⟨⟨_, _, _, _, _, _, _, _, _, rfl, by k_is, by k_is⟩, by k_is⟩ (fun F => My.Nk F (fun _ _ _ _ _ _ _ _ => rfl)))
local macro_rules | `(tactic| walk_at "n2") => `(tactic| exact My.adt (by walk_at "me") (by k_is) ⟨⟨_, _, _, _, _, _, _, _, _, rfl, by k_is, by k_is⟩, by k_is⟩ (fun F => My.Nk F (fun _ _ _ _ _ _ _ _ => rfl)))
local macro_rules | `(tactic| walk_at "d3") => `(tactic| exact My.abL KX G (by k_is) ⟨⟨_, _, _, _, _, _, _, _, _, rfl, by k_is, by k_is⟩, by k_is⟩ (fun F => My.Tj F (fun _ _ _ _ _ _ _ _ _ => rfl)))
local macro_rules | `(tactic| walk_at "m3") => `(tactic| exact My.afm (by walk_at "me") ⟨⟨_, _, _, _, _, _, _, _, _, rfl, by k_is, by k_is⟩, by k_is⟩ (fun F => My.Tj F (fun _ _ _ _ _ _ _ _ _ => rfl)))
local macro_rules | `(tactic| walk_at "n3") => `(tactic| exact My.adt (by walk_at "me") (by k_is) ⟨⟨_, _, _, _, _, _, _, _, _, rfl, by k_is, by k_is⟩, by k_is⟩ (fun F => My.Tj F (fun _ _ _ _ _ _ _ _ _ => rfl)))
local macro_rules | `(tactic| walk_at "d4") => `(tactic| exact My.abL KX G (by k_is) ⟨⟨_, _, _, _, _, _, _, _, _, rfl, by k_is, by k_is⟩, by k_is⟩ (fun F => My.aaP F (fun _ _ _ _ _ _ _ _ _ _ => rfl)))
local macro_rules | `(tactic| walk_at "n4") => `(tactic| exact My.adt (by walk_at "me") (by k_is) ⟨⟨_, _, _, _, _, _, _, _, _, rfl, by k_is, by k_is⟩, by k_is⟩ (fun F => My.aaP F (fun _ _ _ _ _ _ _ _ _ _ => rfl)))
local macro_rules | `(tactic| walk_at "d5") => `(tactic| exact My.abL KX G (by k_is) ⟨⟨_, _, _, _, _, _, _, _, _, rfl, by k_is, by k_is⟩, by k_is⟩ (fun F => My.aaO F (fun _ _ _ _ _ _ _ _ _ _ _ => rfl)))
local macro_rules | `(tactic| walk_at "n5") => `(tactic| exact My.adt (by walk_at "me") (by k_is) ⟨⟨_, _, _, _, _, _, _, _, _, rfl, by k_is, by k_is⟩, by k_is⟩ (fun F => My.aaO F (fun _ _ _ _ _ _ _ _ _ _ _ => rfl)))
local macro_rules | `(tactic| walk_at "d6") => `(tactic| exact My.abL KX G (by k_is) ⟨⟨_, _, _, _, _, _, _, _, _, rfl, by k_is, by k_is⟩, by k_is⟩ (fun F => My.aef F (fun _ _ _ _ _ _ _ _ _ _ _ _ => rfl)))
local macro_rules | `(tactic| walk_at "d7") => `(tactic| exact My.abL KX G (by k_is) ⟨⟨_, _, _, _, _, _, _, _, _, rfl, by k_is, by k_is⟩, by k_is⟩ (fun F => My.aee F (fun _ _ _ _ _ _ _ _ _ _ _ _ _ => rfl)))
open PySem PySem.W PyProof.Rows My L2
set_option maxRecDepth 100000 in
set_option maxHeartbeats 0 in
theorem PySem.Challenge.cw_sluice_k69_whole_book_replayed_holds : PySem.Challenge.rw_sluice_k69_whole_book_replayed.Holds := by
 w_on;o_law;refine PySem.W.holds_open (q:=My.qv) (loose:=My.MJ) (Xt:=(fun s=>xlAt My.qv [] s&& recOk (PySem.W.RowW.records PySem.Challenge.rw_sluice_k69_whole_book_replayed.row.toRowW) s)) (XP:=XL My.qv []) (Yf:=PySem.W.Hook.obs (kmHook My.Kf My.asK My.hkE My.tsK)) (Ya:=PySem.W.Hook.val (kmHook My.Kf My.asK My.hkE My.tsK)) (YP:=PySem.W.Hook.says (kmHook My.Kf My.asK My.hkE My.tsK)) (N:=12558) My.hlE (PySem.W.Hook.of (kmHook My.Kf My.asK My.hkE My.tsK)) (PySem.W.Hook.keeps (kmHook My.Kf My.asK My.hkE My.tsK)) (fun s e=>PySem.W.xl_of s (Bool.and_eq_true_iff.mp e).1) PySem.W.XL.keeps (by rfl) (by rfl) (by rfl) (fun s e=>PySem.W.recFacts_of (Bool.and_eq_true_iff.mp e).2) (by rfl) (by first| assumption| decide+kernel) (by decide+kernel) ⟨rfl,rfl,rfl,rfl,rfl,by decide+kernel⟩ ?hw ?hc
 case hw=>w_witness2
 k_fill;refine' My.walk (l:=PySem.Challenge.rw_sluice_k69_whole_book_replayed) (K:=My.Kf) rfl rfl (fun w h Y=>PySem.W.km_in_of Y) (fun w h Y=>PySem.W.km_tabs_of Y) ?hts ?F
 case hts =>
  intro w P hP;simp only [agu,agR,or_false] at hP;rcases hP with rfl| rfl
  ·exact ⟨by kernel_rfl,302,by kernel_rfl⟩
  ·exact ⟨by kernel_rfl,227,by kernel_rfl⟩
 case F =>
  intro P w mg fa h KX G hmg;refine My.afk KX G hmg (by k_is) (by k_is) (by k_is) (by k_is) fun dL afG base hbm=>?_;have B:Blt mg:=by constructor <;>exact PySem.W.mg_none_of KX G (by k_is)
  have Ji:∃ t,mg "MOST_WATER"=some (.int (1000000000000) t):=by walk_at "h"
  have El:∃ t,mg "LONGEST_NAME"=some (.int (8) t):=by walk_at "h"
  have R3:∃ t,mg "LETTERS"=some (.str "abcdefghijklmnopqrstuvwxyz" t):=by walk_at "h"
  obtain ⟨_,_,bR⟩:XDf (Kf w.params) mg "is_water" zB ["amount"]:=by walk_at "d1"
  obtain ⟨_,_,oh⟩:XDf (Kf w.params) mg "is_name" yx ["text"]:=by walk_at "d1"
  have Ek:∃ t,mg "MOST_REACHES"=some (.int (40) t):=by walk_at "h"
  have RZ:∃ t,mg "MOUTH"=some (.int (-1) t):=by walk_at "h"
  obtain ⟨_,_,dH⟩:XDf (Kf w.params) mg "comes_to_mouth" lR ["below","start"]:=by walk_at "d2"
  obtain ⟨_,_,jG⟩:XDf (Kf w.params) mg "is_river" pW ["below"]:=by walk_at "d1"
  obtain ⟨_,_,gK⟩:XDf (Kf w.params) mg "way_of" Gm ["below","reach"]:=by walk_at "d2"
  obtain ⟨_,_,lM,Gw⟩:∃ f d,Df (Kf w.params) mg "tops_first" lF ["below"] f d/\d.code=.ref 227:=My.afP KX G (by k_is) ⟨⟨_,_,_,_,_,_,_,_,_,rfl,by k_is,by k_is⟩,by k_is⟩ (fun F=>My.Fq F (fun _ _ _ _ _ _ _=>rfl)) (by rfl);obtain ⟨_,_,jA⟩:XDf (Kf w.params) mg "mouths_of" qg ["below"]:=by walk_at "d1"
  obtain ⟨_,_,dX⟩:XDf (Kf w.params) mg "stretch_of" sZ ["below","start","stop"]:=by walk_at "d3"
  have Oz:∃ t,mg "LAST_DAY"=some (.int (1000000) t):=by walk_at "h"
  obtain ⟨_,_,bU⟩:XDf (Kf w.params) mg "is_licence" tO ["below","one"]:=by walk_at "d2"
  obtain ⟨_,_,iU⟩:XDf (Kf w.params) mg "reaches_of" tu ["below","one"]:=by walk_at "d2"
  obtain ⟨_,_,bN⟩:XDf (Kf w.params) mg "day_filed" wG ["one"]:=by walk_at "d1"
  obtain ⟨_,_,d8⟩:XDf (Kf w.params) mg "gives_back" tQ ["one"]:=by walk_at "d1"
  obtain ⟨_,_,bH⟩:XDf (Kf w.params) mg "most_of" BW ["one"]:=by walk_at "d1"
  obtain ⟨_,_,cB⟩:XDf (Kf w.params) mg "with_start" sY ["one","start"]:=by walk_at "d2"
  obtain ⟨_,_,bG⟩:XDf (Kf w.params) mg "with_most" wD ["one","most"]:=by walk_at "d2"
  obtain ⟨_,_,yZ,RT⟩:∃ f d,Df (Kf w.params) mg "ranked" yw ["roll"] f d/\d.code=.ref 302:=My.afP KX G (by k_is) ⟨⟨_,_,_,_,_,_,_,_,_,rfl,by k_is,by k_is⟩,by k_is⟩ (fun F=>My.Fq F (fun _ _ _ _ _ _ _=>rfl)) (by rfl);obtain ⟨_,_,jB⟩:XDf (Kf w.params) mg "groups_of" wF ["roll"]:=by walk_at "d1"
  obtain ⟨_,_,kW⟩:XDf (Kf w.params) mg "wants_of" vB ["roll","calls"]:=by walk_at "d2"
  have ug:∃ t,mg "MOST_LICENCES"=some (.int (60) t):=by walk_at "h"
  obtain ⟨_,_,bx⟩:XDf (Kf w.params) mg "look_at_name" o9 ["name"]:=by walk_at "d1"
  obtain ⟨_,_,oE⟩:XDf (Kf w.params) mg "do_anew" Cd ["roll","deed"]:=by walk_at "d2"
  obtain ⟨_,_,jj⟩:XDf (Kf w.params) mg "replayed" zy ["below","deeds"]:=by walk_at "d2"
  obtain ⟨_,_,dY⟩:XDf (Kf w.params) mg "natural_of" tH ["below","springs"]:=by walk_at "d2"
  obtain ⟨_,_,kZ⟩:XDf (Kf w.params) mg "flows_of" zE ["below","springs","moves"]:=by walk_at "d3"
  obtain ⟨_,_,iZ⟩:XDf (Kf w.params) mg "count_ways" tV ["free","ways"]:=by walk_at "d2"
  obtain ⟨_,_,gJ⟩:XDf (Kf w.params) mg "whole_turns" mF ["free","ways","rests"]:=by walk_at "d3"
  obtain ⟨_,_,wB⟩:XDf (Kf w.params) mg "draw" QK ["left","way","drops"]:=by walk_at "d3"
  obtain ⟨_,_,cL⟩:XDf (Kf w.params) mg "take_whole_turns" fG ["left","ways","rests","takes","going"]:=by walk_at "d5"
  obtain ⟨_,_,eO⟩:XDf (Kf w.params) mg "take_one_turn" jR ["left","ways","rests","takes","going"]:=by walk_at "d5"
  obtain ⟨_,_,iY⟩:XDf (Kf w.params) mg "deal_turns" tU ["free","ways","rests"]:=by walk_at "d3"
  obtain ⟨_,_,vo⟩:XDf (Kf w.params) mg "deal" Ig ["below","springs","roll","calls"]:=by walk_at "d4"
  have RW:∃ t,mg "WHOLE"=some (.int (1000) t):=by walk_at "h"
  obtain ⟨_,_,iV⟩:XDf (Kf w.params) mg "pond_start" tE ["roll","pond"]:=by walk_at "d2"
  obtain ⟨_,_,gM⟩:XDf (Kf w.params) mg "look_at_let" qj ["below","roll","ponds","kept","let"]:=by walk_at "d5"
  obtain ⟨_,_,nZ⟩:XDf (Kf w.params) mg "let_out" BX ["below","roll","ponds","kept","lets"]:=by walk_at "d5"
  obtain ⟨_,_,iW⟩:XDf (Kf w.params) mg "pond_calls" tG ["roll","ponds","kept","calls"]:=by walk_at "d4"
  obtain ⟨_,_,oA⟩:XDf (Kf w.params) mg "evening" Ca ["ponds","kept","takes"]:=by walk_at "d3"
  obtain ⟨_,_,dZ⟩:XDf (Kf w.params) mg "morning_of" tK ["below","roll","ponds","kept","calls","lets"]:=by walk_at "d6"
  obtain ⟨_,_,kY⟩:XDf (Kf w.params) mg "moves_of" zA ["roll","ponds","takes","lets"]:=by walk_at "d4"
  obtain ⟨_,_,nY⟩:XDf (Kf w.params) mg "used_of" mZ ["roll","ponds","takes","lets"]:=by walk_at "d4"
  obtain ⟨_,_,rJ⟩:XDf (Kf w.params) mg "day_of" Bl ["below","springs","roll","ponds","kept","calls","lets"]:=by walk_at "d7"
  obtain ⟨_,_,yh⟩:XDf (Kf w.params) mg "moved" J1 ["roll","number","start"]:=by walk_at "d3"
  obtain ⟨_,_,ou⟩:XDf (Kf w.params) mg "harm_of" BZ ["below","roll","number","start","record"]:=by walk_at "d5"
  have Jj:∃ t,mg "MOST_PONDS"=some (.int (10) t):=by walk_at "h"
  obtain ⟨_,_,gO⟩:XDf (Kf w.params) mg "greatest_of" mH ["before","calls"]:=by walk_at "d2"
  obtain ⟨_,_,dj⟩:XDf (Kf w.params) mg "_law_cell_at" pA ["script","k"]:=by walk_at "d2"
  obtain ⟨_,_,dh⟩:XDf (Kf w.params) mg "_law_pebble" ql ["cell","k"]:=by walk_at "d2"
  obtain ⟨_,_,d9⟩:XDf (Kf w.params) mg "_law_pebbles" lA ["cell","many"]:=by walk_at "d2"
  obtain ⟨_,_,jd⟩:XDf (Kf w.params) mg "_law_river" tX ["xs","cell"]:=by walk_at "d2"
  obtain ⟨_,_,bM⟩:XDf (Kf w.params) mg "_law_amount" qp ["x","great"]:=by walk_at "d2"
  obtain ⟨_,_,eV⟩:XDf (Kf w.params) mg "_law_name" wI ["x"]:=by walk_at "d1"
  obtain ⟨_,_,eU⟩:XDf (Kf w.params) mg "_law_old_deed" jT ["book","xs","number","holder","great"]:=by walk_at "d5"
  obtain ⟨_,_,gP⟩:XDf (Kf w.params) mg "_law_deed" m7 ["book","river","xs","great"]:=by walk_at "d4"
  obtain ⟨_,_,eE⟩:XDf (Kf w.params) mg "_law_no_book" pq ["some"]:=by walk_at "d1"
  obtain ⟨_,_,jc⟩:XDf (Kf w.params) mg "_law_same" wH ["book","river"]:=by walk_at "d2"
  obtain ⟨_,_,bW,nU⟩:∃ f d,Dm (Kf w.params) 455 "__init__" "Roll.__init__" iG ["self","below"] f d/\ClF (Kf w.params) 455 f "__init__":=My.afl (by walk_at "me") ⟨⟨_,_,_,_,_,_,_,_,_,rfl,by k_is,by k_is⟩,by k_is⟩ (fun F=>My.Nk F (fun _ _ _ _ _ _ _ _=>rfl)) (by walk_at "k") (by walk_at "k") (by walk_at "k");obtain ⟨_,_,jH,gY⟩:XDn (Kf w.params) 455 687 "today" "Roll.today" lG ["self"]:=by walk_at "n1"
  obtain ⟨_,_,bO,dW⟩:XDn (Kf w.params) 455 687 "roll" "Roll.roll" m8 ["self"]:=by walk_at "n1"
  obtain ⟨_,_,bV,dI⟩:XDn (Kf w.params) 455 687 "holders" "Roll.holders" jo ["self"]:=by walk_at "n1"
  obtain ⟨_,_,gk,cG⟩:XDn (Kf w.params) 455 687 "deeds" "Roll.deeds" lH ["self"]:=by walk_at "n1"
  obtain ⟨_,_,bK,rK⟩:XDn (Kf w.params) 455 687 "turn" "Roll.turn" qt ["self"]:=by walk_at "n1"
  obtain ⟨_,_,m,m2,FM⟩:∃ f d,Meth (Kf w.params) 455 "file" f/\Meth (Kf w.params) 687 "file" f/\VN (Kf w.params) "file" "Roll.file" m9 [.none] f d:=⟨_,_,(by walk_at "me"),(by walk_at "me"),⟨⟨_,_,_,_,_,_,_,_,_,_,_,_,rfl,by k_is,by k_is,by k_is,rfl⟩,by k_is⟩⟩;have cZ:DmD (Kf w.params) 455 "file" "Roll.file" m9 ["self","holder","start","most","back"] _ _:=⟨FM,FM.binds (fun _ _ _ _ _ _ _ us hl=>by
   obtain ⟨_,_,_,_,_,rfl⟩:=My.aer (show us.length=5 by simpa using hl);exact ⟨_,rfl,rfl⟩),FM.binds (fun _ _ _ _ _ _ _ us hl=>by
   obtain ⟨_,_,_,_,rfl⟩:=My.adx (show us.length=4 by simpa using hl);exact ⟨_,rfl,rfl⟩),m⟩
  have zj:DmD (Kf w.params) 687 "file" "Roll.file" m9 ["self","holder","start","most","back"] _ _:=⟨FM,cZ.b0,cZ.b1,m2⟩;obtain ⟨_,_,eX,za⟩:XDn (Kf w.params) 455 687 "sell" "Roll.sell" wJ ["self","number","holder","to"]:=by walk_at "n4"
  obtain ⟨_,_,eY,zc⟩:XDn (Kf w.params) 455 687 "part" "Roll.part" wK ["self","number","holder","most","to"]:=by walk_at "n5"
  obtain ⟨_,_,fj,zm⟩:XDn (Kf w.params) 455 687 "drop" "Roll.drop" wL ["self","number","holder"]:=by walk_at "n3"
  obtain ⟨_,_,cX,zf⟩:XDn (Kf w.params) 455 687 "move" "Roll.move" qu ["self","number","holder","start"]:=by walk_at "n4"
  obtain ⟨_,_,cQ⟩:XDm (Kf w.params) 455 "look_move" "Roll.look_move" lU ["self","number","start"]:=by walk_at "m3"
  obtain ⟨_,_,bJ,pR⟩:XDn (Kf w.params) 455 687 "lapse" "Roll.lapse" jC ["self","numbers"]:=by walk_at "n2"
  obtain ⟨_,_,cR,pU⟩:XDn (Kf w.params) 455 687 "enter" "Roll.enter" tY ["self","one","holder"]:=by walk_at "n3"
  obtain ⟨_,_,dw,p8⟩:XDn (Kf w.params) 455 687 "is_alone" "Roll.is_alone" jU ["self","number"]:=by walk_at "n2"
  obtain ⟨_,_,bF,j8⟩:XDn (Kf w.params) 455 687 "look_at_number" "Roll.look_at_number" iC ["self","number"]:=by walk_at "n2"
  obtain ⟨_,_,au,bT⟩:XDn (Kf w.params) 455 687 "look_at_holder" "Roll.look_at_holder" iD ["self","number","holder"]:=by walk_at "n3"
  obtain ⟨_,_,aX,je⟩:XDn (Kf w.params) 455 687 "look_at_room" "Roll.look_at_room" ju ["self"]:=by walk_at "n1"
  have Tv:mg "Roll"=some (.ref 455):=ahw KX G (by k_is);have aL:Cl (Kf w.params) mg "Roll" 455 _ ["below","day","licences","names","done"]:=My.afQ bW ⟨by walk_at "k",by walk_at "k",by walk_at "k",by walk_at "k"⟩ (by walk_at "k") (by walk_at "k") (ahw KX G (by k_is)) (by simp only [agu,agR,or_false,forall_eq_or_imp,forall_eq];exact ⟨by walk_at "k",by walk_at "k",by walk_at "k",by walk_at "k",by walk_at "k"⟩);obtain ⟨_,_,bQ⟩:XDm (Kf w.params) 687 "__init__" "Book.__init__" ni ["self","below"]:=by walk_at "m2"
  obtain ⟨_,_,m,_,FM⟩:∃ f d,Meth (Kf w.params) 687 "pond" f/\∃ t,VN (Kf w.params) "pond" "Book.pond" qw [.int 0 t] f d:=⟨_,_,(by walk_at "me"),_,⟨⟨_,_,_,_,_,_,_,_,_,_,_,_,rfl,by k_is,by k_is,by k_is,rfl⟩,by k_is⟩⟩;have jf:DmZ (Kf w.params) 687 "pond" "Book.pond" qw ["self","number","holder","room","leak"] _ _:=⟨⟨_,FM,FM.binds (fun _ _ _ _ _ _ _ us hl=>by
   obtain ⟨_,_,_,_,rfl⟩:=My.adx (show us.length=4 by simpa using hl);exact ⟨_,rfl,rfl⟩)⟩,FM.binds (fun _ _ _ _ _ _ _ us hl=>by
   obtain ⟨_,_,_,_,_,rfl⟩:=My.aer (show us.length=5 by simpa using hl);exact ⟨_,rfl,rfl⟩),m⟩
  obtain ⟨_,_,JG⟩:XDm (Kf w.params) 687 "ponds" "Book.ponds" tZ ["self"]:=by walk_at "m1"
  obtain ⟨_,_,KD⟩:XDm (Kf w.params) 687 "kept" "Book.kept" wM ["self"]:=by walk_at "m1"
  obtain ⟨_,_,bI⟩:XDm (Kf w.params) 687 "has_pond" "Book.has_pond" jV ["self","number"]:=by walk_at "m2"
  obtain ⟨_,_,m,FM⟩:∃ f d,Meth (Kf w.params) 687 "run" f/\VN (Kf w.params) "run" "Book.run" vC [.none] f d:=⟨_,_,(by walk_at "me"),⟨⟨_,_,_,_,_,_,_,_,_,_,_,_,rfl,by k_is,by k_is,by k_is,rfl⟩,by k_is⟩⟩;have jJ:DmD (Kf w.params) 687 "run" "Book.run" vC ["self","springs","calls","lets"] _ _:=⟨FM,FM.binds (fun _ _ _ _ _ _ _ us hl=>by
   obtain ⟨_,_,_,_,rfl⟩:=My.adx (show us.length=4 by simpa using hl);exact ⟨_,rfl,rfl⟩),FM.binds (fun _ _ _ _ _ _ _ us hl=>by
   obtain ⟨_,_,_,rfl⟩:=My.afn (show us.length=3 by simpa using hl);exact ⟨_,rfl,rfl⟩),m⟩
  obtain ⟨_,_,aW⟩:XDm (Kf w.params) 687 "look_at_amounts" "Book.look_at_amounts" fu ["self","amounts","count"]:=by walk_at "m3"
  obtain ⟨_,_,bZ⟩:XDm (Kf w.params) 687 "record" "Book.record" mJ ["self"]:=by walk_at "m1"
  obtain ⟨_,_,cU⟩:XDm (Kf w.params) 687 "look_move" "Book.look_move" lV ["self","number","start"]:=by walk_at "m3"
  obtain ⟨_,_,gq⟩:XDm (Kf w.params) 687 "close" "Book.close" oG ["self"]:=by walk_at "m1"
  have cV:Cl (Kf w.params) mg "Book" 687 _ ["below","day","licences","names","done","dug","keeps","ran","last","greatest"]:=My.afQ bQ ⟨by walk_at "k",by walk_at "k",by walk_at "k",by walk_at "k"⟩ (by walk_at "k") (by walk_at "k") (ahw KX G (by k_is)) (by simp only [agu,agR,or_false,forall_eq_or_imp,forall_eq];exact ⟨by walk_at "k",by walk_at "k",by walk_at "k",by walk_at "k",by walk_at "k",by walk_at "k",by walk_at "k",by walk_at "k",by walk_at "k",by walk_at "k"⟩);have gF:yX (Kf w.params) mg "SluiceError" 43:=by walk_at "ec"
  have cW:yX (Kf w.params) mg "NoNumber" 92:=by walk_at "ec"
  have mX:yX (Kf w.params) mg "NotYours" 116:=by walk_at "ec"
  have p7:yX (Kf w.params) mg "NoHolder" 104:=by walk_at "ec"
  have cA:yX (Kf w.params) mg "NoLicence" 80:=by walk_at "ec"
  have eN:yX (Kf w.params) mg "TooMuch" 140:=by walk_at "ec"
  have mY:yX (Kf w.params) mg "NotAlone" 128:=by walk_at "ec"
  have Ft:yX (Kf w.params) mg "Full" 152:=by walk_at "ec"
  have jr:yX (Kf w.params) mg "NoRiver" 56:=by walk_at "ec"
  have mQ:yX (Kf w.params) mg "NoPond" 164:=by walk_at "ec"
  have DQ:yX (Kf w.params) mg "Fixed" 188:=by walk_at "ec"
  have DP:yX (Kf w.params) mg "Harms" 200:=by walk_at "ec"
  have G7:yX (Kf w.params) mg "NoDay" 176:=by walk_at "ec"
  have DN:yX (Kf w.params) mg "NoReach" 68:=by walk_at "ec"
  have KF:kitOne (Kf w.params) (.ref 455) (.ref 687)=some false:=by walk_at "k"
  have KB:kitOne (Kf w.params) (.ref 687) (.ref 455)=some true:=by walk_at "k"
  have y0:PySem.W.codeHdIn (Kf w.params) 302 298=true:=by kernel_rfl
  have y1:PySem.W.codeHdIn (Kf w.params) 227 223=true:=by kernel_rfl
  have RB:BC (Kf w.params) 687:=ab2 cV;have RRB:RC (Kf w.params) 687:=RB.r;have RR:RC (Kf w.params) 455:=abj aL;have T1:∀ x,JF eC 164 188 200 x->PySem.W.exmOne (Kf w.params) (.ref x) (.ref 43)=some true/\kitOne (Kf w.params) (.ref x) (.type "ValueError")=some true/\VJ (Kf w.params) x:=fun x h=>by
   rcases h with ⟨k,rfl⟩ | rfl| rfl| rfl
   ·cases k
    ·exact ⟨(by walk_at "k"),(by walk_at "k"),cW.x⟩
    ·exact ⟨(by walk_at "k"),(by walk_at "k"),mX.x⟩
    ·exact ⟨(by walk_at "k"),(by walk_at "k"),p7.x⟩
    ·exact ⟨(by walk_at "k"),(by walk_at "k"),cA.x⟩
    ·exact ⟨(by walk_at "k"),(by walk_at "k"),eN.x⟩
    ·exact ⟨(by walk_at "k"),(by walk_at "k"),mY.x⟩
    ·exact ⟨(by walk_at "k"),(by walk_at "k"),Ft.x⟩
    ·exact ⟨(by walk_at "k"),(by walk_at "k"),jr.x⟩
   ·exact ⟨(by walk_at "k"),(by walk_at "k"),mQ.x⟩
   ·exact ⟨(by walk_at "k"),(by walk_at "k"),DQ.x⟩
   ·exact ⟨(by walk_at "k"),(by walk_at "k"),DP.x⟩
  have TT69:Tr (Kf w.params) eC 164 188 200 43 68:=⟨fun x h=>(T1 x h).1,fun x h=>(T1 x h).2.1,fun x h=>(T1 x h).2.2,(by walk_at "k"),(by walk_at "k")⟩;have HB:aey (Kf w.params) 687:=⟨by walk_at "k",by walk_at "k",by walk_at "k",by walk_at "k",by walk_at "k"⟩;have HI:aey (Kf w.params) 455:=⟨by walk_at "k",by walk_at "k",by walk_at "k",by walk_at "k",by walk_at "k"⟩;have C:Mth mg:=⟨RZ⟩;have CS:Cst mg:=⟨RZ,Ek⟩;have CNm:CN mg:=⟨El,R3⟩;have nd:([(298,dG.1,dG.2),(223,iz.1,iz.2)].map (·.1)).Nodup:=by
   show ([298,223]:List Addr).Nodup;decide
  have hT2:TT2 298 [(298,dG.1,dG.2),(223,iz.1,iz.2)]:=⟨agB,nd⟩;have hT:TT1 223 [(298,dG.1,dG.2),(223,iz.1,iz.2)]:=⟨agv _ agB,nd⟩;clear nd;generalize ([(298,dG.1,dG.2),(223,iz.1,iz.2)]:fJ)=T at hT hT2 ⊢;have g1:=ac3 (P:=P) (w:=w) (base:=base) gK C;have g2:=U4 (P:=P) (w:=w) (base:=base) dH B CS;have g3:=adh dH g2 jG B CS;have g4:=Uw (P:=P) (w:=w) (base:=base) bR Ji;have g5:=UL (T:=T) gK bR g4 g1 bU B C Oz;have g6:=abG (P:=P) (w:=w) (base:=base) dj B;have g7:=ac7 (P:=P) (w:=w) (base:=base) dh;have g8:=abA dh g7 d9 B;have g9:=UG dh g7 jd B;have g10:=abw (T:=T) gK g1 lM Gw y1 hT hbm B;have g11:=ac9 (T:=T) lM g10 dY B C;have g12:=Uz gK g1 dX C;have g13:=Oi dX g12 iU;have g14:=abB (P:=P) (w:=w) (base:=base) bH;have g15:=Ux (T:=T) bH g14 kW B;have g16:=U3 (P:=P) (w:=w) (base:=base) (T:=T) iZ B;have g17:=ae5 (T:=T) iZ g16 gJ B;have g18:=abD (P:=P) (w:=w) (base:=base) (T:=T) wB;have g19:=ae7 (T:=T) gJ wB g17 g18 cL B;have g20:=ae8 (T:=T) wB g18 eO B;have g21:=adn (P:=P) (w:=w) (base:=base) bN;have g22:=Ra (T:=T) bN g21 yZ RT y0 hT2 hbm B;have g23:=Rf (T:=T) bN g21 yZ g22 jB B;have g24:=afe (T:=T) cL eO g19 g20 iY B;have g25:=abE (T:=T) dY iU kW jB iY g11 g15 g23 g13 g24 vo B;have g26:=ae9 (P:=P) (w:=w) (base:=base) (T:=T) iW B;have g27:=adl (P:=P) (w:=w) (base:=base) (T:=T) oA B RW;have g28:=Rb (P:=P) (w:=w) (base:=base) (T:=T) jA B C;have g29:=U0 (T:=T) dY dX g12 g11 kZ;have g30:=adg (P:=P) (w:=w) (base:=base) gM;have g31:=ac6 (P:=P) (w:=w) (base:=base) iV;have g32:=afb (T:=T) gM g30 nZ B;have g33:=abC (T:=T) iW nZ g32 g26 dZ B;have g34:=ada (T:=T) iV g31 kY B;have g35:=Rc (P:=P) (w:=w) (base:=base) (T:=T) oh B CNm;have g36:=J8 (T:=T) oh g35 bx p7;have g37:=Ml (P:=P) (w:=w) (base:=base) (mg:=mg) bO B RR;have g38:=Ml (P:=P) (w:=w) (base:=base) (mg:=mg) dW B RRB;have g39:=Cy (P:=P) (w:=w) (base:=base) (mg:=mg) bV B RR;have g40:=Cy (P:=P) (w:=w) (base:=base) (mg:=mg) dI B RRB;have g41:=Iz (P:=P) (w:=w) (base:=base) (mg:=mg) gk B RR;have g42:=Iz (P:=P) (w:=w) (base:=base) (mg:=mg) cG B RRB;have g43:=Ir (P:=P) (w:=w) (base:=base) (mg:=mg) jH RR;have g44:=Ir (P:=P) (w:=w) (base:=base) (mg:=mg) gY RRB;have g45:=Mh (P:=P) (w:=w) (base:=base) (mg:=mg) (T:=T) (c:=eC) bK RR;have g46:=Mh (P:=P) (w:=w) (base:=base) (mg:=mg) (T:=T) (c:=eC) rK RRB;have g47:=Iw (P:=P) (w:=w) (base:=base) (mg:=mg) cR B RR;have g48:=Iw (P:=P) (w:=w) (base:=base) (mg:=mg) pU B RRB;have g49:=Mj (P:=P) (w:=w) (base:=base) (mg:=mg) (T:=T) aX B RR Ft ug;have g50:=Mj (P:=P) (w:=w) (base:=base) (mg:=mg) (T:=T) je B RRB Ft ug;have g51:=Cv (P:=P) (w:=w) (base:=base) (mg:=mg) (T:=T) bF B RR cW;have g52:=Cv (P:=P) (w:=w) (base:=base) (mg:=mg) (T:=T) j8 B RRB cW;have g53:=Cw (T:=T) bF RR g51 au B mX;have g54:=Cw (T:=T) j8 RRB g52 bT B mX;have g55:=ae6 (P:=P) (w:=w) (base:=base) bG;have g56:=ac1 (P:=P) (w:=w) (base:=base) cB;have g57:=IK (T:=T) bH g14 bN g21 dw B RR;have g58:=IK (T:=T) bH g14 bN g21 p8 B RRB;have g59:=Ms (T:=T) (c:=eC) RR au bG g53 g55 fj;have g60:=Ms (T:=T) (c:=eC) RRB bT bG g54 g55 zm;have g61:=Mi (T:=T) (c:=eC) bx RR au g53 g36 eX;have g62:=Mi (T:=T) (c:=eC) bx RRB bT g54 g36 za;have g63:=Mp (T:=T) (c:=eC) bH g14 bx cR aX RR au bG dw g53 g55 g36 eN g57 g49 g47 eY B mY;have g64:=Mp (T:=T) (c:=eC) bH g14 bx pU je RRB bT bG p8 g54 g55 g36 eN g58 g50 g48 zc B mY;have g65:=Iu (P:=P) (w:=w) (base:=base) (mg:=mg) cQ;have g66:=U6 (T:=T) (c:=eC) bU RR au cB g53 cQ cA g56 g5 g65 cX B;have g67:=Mr (T:=T) (c:=eC) bU bx cR aX RR g36 g49 g47 cA g5 cZ B C;have g68:=Mr (T:=T) (c:=eC) bU bx pU je RRB g36 g50 g48 cA g5 zj B C;have g69:=Rg (T:=T) (c:=eC) bR g4 bH g14 bG g55 eN cW pR B RRB;have g70:=Oj (T:=T) (c:=eC) bR g4 bH g14 bG g55 eN cW bJ B RR;have g71:=Mq (T:=T) (c:=eC) jG jr g3 bW B RR;have g72:=Mq (T:=T) (c:=eC) jG jr g3 bW B RRB;have g73:=abH (T:=T) (c:=eC) bK RR fj eX eY cX cZ g45 g67 g61 g63 g59 g66 oE bJ g70;have g74:=aby (T:=T) (c:=eC) oE bW g71 g73 jj aL;have g75:=U9 (T:=T) (c:=eC) RB bQ Tv nU bW g72;have g76:=Rh (P:=P) (w:=w) (base:=base) (mg:=mg) JG B RB;have g77:=U8 (P:=P) (w:=w) (base:=base) (mg:=mg) KD B RB;have g78:=afd (P:=P) (w:=w) (base:=base) d8 C;have g79:=adi (P:=P) (w:=w) (base:=base) (mg:=mg) (T:=T) bI B RB;have g80:=abz (T:=T) (c:=eC) bR g4 RRB bT g54 RB d8 bI g78 g79 jf B mQ Jj RW;have g81:=Uy (T:=T) d8 g78 nY B C;have g82:=abF (T:=T) vo oA jA kZ dZ kY nY g33 g25 g27 g29 g34 g28 g81 rJ B;have g83:=adk (P:=P) (w:=w) (base:=base) (T:=T) gO B;have g84:=adf (T:=T) bR g4 aW B G7;have g85:=U5 (T:=T) (c:=eC) bH g14 RRB pR RB g69 gq B;have g86:=ac5 (P:=P) (w:=w) (base:=base) (mg:=mg) (T:=T) bZ B RB;have g87:=adb (T:=T) cB g56 yh B;have g88:=UW (T:=T) vo g25 yh g87 ou B;have g89:=ac4 (T:=T) (c:=eC) dZ dW rK RRB g46 RB g33 rJ gO aW g84 g82 g38 g83 jJ B;have g90:=ado (T:=T) RRB RB bI g79 ou g88 cU DQ DP;have g91:=U7 (T:=T) (c:=eC) bU RRB bT cB g54 cA g56 g5 zf RB cU g90 B;have g92:=afg (P:=P) (w:=w) (base:=base) bM;have g93:=UJ (P:=P) (w:=w) (base:=base) eV;have g94:=afa (T:=T) (c:=eC) dW RRB zm za zc pR g62 g64 g60 RB jf g69 bZ g38 bM eV g86 g93 g92 g80 eU B zf g91;have g95:=afc (T:=T) (c:=eC) dW dI rK RRB zj g46 g68 RB gq bZ g38 jJ bM eV g86 g93 g92 eU g40 g89 g85 g94 gP B;have g96:=ac8 (T:=T) (c:=eC) jr bQ gF g75 eE B DN TT69 cV;have g97:=abx (T:=T) (c:=eC) jj g74 jH g43 gY g44 dW g38 dI g40 gk g41 cG g42 jc B aL cV RRB HI KF bO g37 bV g39 bK g45;exact ade dj d9 jd bQ gP gF g75 eE jc g6 g8 g9 g96 g95 g97 afG B cV aL TT69 HB KB
