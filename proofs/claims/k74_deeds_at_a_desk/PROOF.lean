import PyProof.Rows.All
import Wide.All
import OpenK.AllK
import Wide.FinOn
import Lean
import PyProof.EqAt
import PyProof.EqKinds
import PyProof.TupleCall
import KE.KSortTup
import PySem.Challenge.RW_sluice_k74_deeds_at_a_desk
set_option Elab.async false
set_option linter.all false
set_option maxRecDepth 100000
set_option maxHeartbeats 4000000
local macro_rules | `(tactic| omega) => `(tactic| first | lia | omega (splitDisjunctions := true))
local macro_rules | `(tactic| walk_at "sc") => `(tactic| exact ⟨rfl,rfl,rfl,by decide +kernel,rfl,by decide +kernel,by decide +kernel⟩)
abbrev Mv:=@List.mem_append_right
abbrev abW:=@List.length_map
abbrev ada:=@List.getElem?_eq_getElem
abbrev adl:=@List.getElem?_eq_some_iff
abbrev adn:=@PySem.Heap.get?_push_of_some
abbrev ado:=@Nat.le_refl
abbrev adp:=@List.mem_of_getElem?
abbrev adq:=@PySem.Heap.get?_push_size
abbrev adt:=@List.mem_cons
abbrev adu:=@PySem.Heap.lt_size
abbrev adv:=@Bool.false_ne_true
abbrev adw:=@List.map_append
abbrev adx:=@PySem.boot_len
abbrev ady:=@Int.emod_lt_of_pos
abbrev adz:=@PySem.F.plainAttrs_list
abbrev adA:=@PySem.F.slot_list_append
abbrev adB:=@PySem.F.type_list_append
abbrev adC:=@List.getElem?_map
abbrev adD:=@Int.eq_ofNat_of_zero_le
abbrev adE:=@Int.emod_nonneg
abbrev adF:=@List.length_cons
abbrev adG:=@List.length_append
abbrev adH:=@List.size_toArray
abbrev adI:=@List.mem_cons_of_mem
abbrev adJ:=@PyProof.Rows.boot_isinstance
abbrev adK:=@List.mem_singleton
abbrev adL:=@List.Sublist.refl
abbrev adM:=@List.mem_cons_self
abbrev adN:=@Int.toNat_natCast
abbrev adO:=@List.all_eq_true
abbrev adP:=@Option.some.inj
abbrev adQ:=@Nat.lt_of_lt_of_le
abbrev adR:=@List.map_cons
abbrev adS:=@List.getD_eq_getElem?_getD
abbrev adT:=@List.mem_iff_getElem?
abbrev adU:=@List.length_take
abbrev adV:=@Nat.ne_of_lt
abbrev adW:=@List.mem_map
abbrev adX:=@List.take_append_drop
abbrev adY:=@Nat.zero_le
abbrev adZ:=@List.not_mem_nil
abbrev ad0:=@PyProof.Rows.boot_str
abbrev ad1:=@PySem.Heap.size_push
abbrev ad2:=@List.mem_append
abbrev ad3:=@PySem.PassesOwn.never
abbrev ad4:=@Bool.and_eq_true
abbrev ad5:=@PySem.mem_of_lookup
abbrev ad6:=@PyProof.Rows.callWith_type1
abbrev ad7:=@Nat.le_of_ble_eq_true
abbrev ad8:=@PySem.W.piece_app
abbrev ad9:=@Int.lt_of_le_of_lt
abbrev aea:=@List.nil_sublist
abbrev aeb:=@PySem.W.mg_of
abbrev aec:=@Nat.le_trans
abbrev aed:=@Bool.eq_iff_iff
abbrev aee:=@List.take_of_length_le
abbrev aef:=@PyProof.Rows.boot_list
abbrev aeg:=@List.length_nil
abbrev aeh:=@PySem.Heap.get?_update_self
abbrev aei:=@Nat.lt_irrefl
abbrev aej:=@List.append_assoc
abbrev aek:=@List.perm_append_comm_assoc
abbrev ael:=@PySem.F.plainAttrs_str
abbrev aem:=@PySem.W.callWith_K
abbrev aen:=@List.getElem?_eq_none
abbrev aeo:=@List.Perm.append_left
abbrev aep:=@List.sublist_append_right
abbrev aer:=@PySem.F.slot_zip_next
abbrev aes:=@Classical.not_not
abbrev aeu:=@List.mem_range
abbrev aev:=@List.take_length
abbrev aew:=@List.nodup_cons
abbrev aex:=@List.length_set
abbrev aey:=@PyProof.Rows.cnt_cons
abbrev aez:=@PySem.F.slot_str_join
abbrev aeA:=@PySem.F.type_str_join
abbrev aeB:=@List.getElem?_append_right
abbrev aeC:=@PySem.F.slot_range_iterator_next
abbrev aeD:=@List.length_range
abbrev aeE:=@List.mem_append_left
abbrev aeF:=@List.getElem?_append_left
abbrev aeG:=@List.mem_or_eq_of_mem_set
abbrev aeH:=@List.getElem?_take_of_lt
abbrev aeI:=@List.replicate_succ
abbrev aeJ:=@PySem.Heap.get?_update_other
abbrev aeK:=@PySem.W.methodCall_KW
abbrev aeL:=@Array.getElem?_toList
abbrev aeM:=@PyProof.Rows.boot_all
abbrev aeN:=@PySem.Calls.evalArgs_plain
abbrev aeO:=@List.filterMap_cons
abbrev aeP:=@Array.length_toList
abbrev aeQ:=@PySem.Heap.SameBut.update
abbrev aeR:=@List.map_eq_nil_iff
abbrev aeS:=@List.forIn_cons
abbrev aeT:=@List.mem_filterMap
abbrev aeU:=@PySem.Calls.spliced_cons
abbrev aeV:=@Option.isSome_iff_exists
abbrev aeW:=@PySem.StrLaws.join_split
abbrev aeX:=@List.flatten_cons
abbrev aeY:=@List.getElem?_inj
abbrev aeZ:=@PySem.F.args_zip_next_1
abbrev ae0:=@List.take_add_one
abbrev ae1:=@List.sum_cons
abbrev ae2:=@List.cons.inj
open PySem.W (fnOf topStub topFrame segRun piecesOf topRun restOf xlAt recOk kmHook instObj methodObj lookIn plainGet hasDictIn handedIn plainGet_of isFn plainOver takerIn makesIn emptyDict keepIn callWith_K0 codeIn kitOne readsIn findCls nsIn XL)
namespace L2
open PySem
def inClass (s:Stmt)(j:Nat):Stmt:=match s with
 | .ClassDef _ _ _ body _ _ _ _ _ _ _=>body.getD j (.Pass ⟨0,0,0,0⟩)
 | _=>.Pass ⟨0,0,0,0⟩
def iC (s:Stmt):Arguments:=match s with
 | .FunctionDef _ a _ _ _ _ _ _ _ _=>a
 | _=>{ posonlyargs:=[],args:=[],vararg:=none,kwonlyargs:=[],kw_defaults:=[],kwarg:=none,defaults:=[] }
def fC (s:Stmt):List Stmt:=match s with
 | .FunctionDef _ _ b _ _ _ _ _ _ _=>b
 | _=>[]
def ao (s:Stmt):Scope:=match s with
 | .FunctionDef _ _ _ _ _ _ sc _ _ _=>sc
 | _=>{ kind:=.function,names:=[],isGenerator:=false,isCoroutine:=false }
end L2
namespace My
open PySem L2
noncomputable section
noncomputable def top0 (i:Nat):Stmt:=PySem.Challenge.pw_sluice_k74_deeds_at_a_desk.main.body.getD i (.Pass ⟨0,0,0,0⟩)
def inC (i j:Nat):Stmt:=inClass (top0 i) j
noncomputable def en (P:Params)(x:Str)(t:Tok)(v:Value):DictEntry:=⟨PyData.keyHash P x,.str x t,v⟩
noncomputable def er (P:Params)(x:Str)(t:Tok)(r:Nat):DictEntry:=en P x t (.ref r)
noncomputable def eb (P:Params):Nat->List (Str × String)->List DictEntry->List DictEntry
 | _,[],r=>r
 | n,x::l,r=>en P x.1 n (.builtin x.2)::eb P (n+1) l r
noncomputable def et (P:Params):Nat->List (Str × String)->List DictEntry->List DictEntry
 | _,[],r=>r
 | n,x::l,r=>en P x.1 n (.type x.2)::et P (n+1) l r
noncomputable def tq (a:Array Value):Obj:={ cls:=.type "tuple",data:=.seq a }
noncomputable def fc (a:Array Value):Obj:={ cls:=.type "code",data:=.fields a }
noncomputable def cp (n:Nat):Value:=.str "/claim/cut.py" n
noncomputable def ot:Obj:=tq #[]
noncomputable def oe:Obj:={ cls:=.none,data:=.fields #[] }
noncomputable def fl (l:List Value):Obj:={ cls:=.none,data:=.fields ⟨l⟩ }
noncomputable def dO (l:List DictEntry)(n:Nat):Obj:={ cls:=.type "dict",data:=.dict ⟨l⟩ n }
noncomputable def bm (x:String)(v:Value):Obj:={ cls:=.type "builtin_function_or_method",data:=.fields #[.builtin x,v] }
noncomputable def su (a:Nat):Obj:={ cls:=.type "super",data:=.fields #[.ref a,.ref a,.ref a] }
noncomputable def fr (a b:Nat)(v:Value):Obj:={ cls:=.type "frame",slots:=#[some (.ref a),some (.ref 3),some (.ref b),none,some v,none,some (.ref 0)] }
noncomputable def t3:List (Int × Nat)->List Value
 | []=>[]
 | (a,b)::l=>.int a 0:: .int 0 0:: .ref b::t3 l
noncomputable def tv:Nat->List Str->List Value
 | _,[]=>[]
 | n,x::l=>.str x n::tv (n+1) l
def tn (n:Nat)(l:List Str):Obj:=tq ⟨tv n l⟩
def ca (n q:Str)(a:Nat)(l c:Int)(r f:Nat):Obj:=fc #[.str n a,.str q (a+1),cp (a+2),.int l 0,.int c 0,.int 0 0,.int 0 0,.int 3 0,.ref r,.bool true,.int 181 0,.ref (r+1),.none,.ref (r+2),.ref (r+3),.ref (r+4),.int f 0,.int l 0,cp (f+1)]
def cb (n q:Str)(a:Nat)(l c:Int)(r f:Nat):Obj:=fc #[.str n a,.str q (a+1),cp (a+2),.int l 0,.int c 0,.int 0 0,.int 0 0,.int 3 0,.ref r,.bool true,.int 181 0,.ref (r+1),.none,.none,.none,.ref (r+2),.int f 0,.int l 0,cp (f+1)]
def cc (n q:Str)(a:Nat)(l:Int)(r f:Nat):Obj:=fc #[.str n a,.str q (a+1),cp (a+2),.int l 0,.int 0 0,.int 0 0,.int 0 0,.int 0 0,.ref r,.bool false,.int 181 0,.ref (r+1),.none,.none,.none,.none,.int f 0,.int l 0,cp (f+1)]
noncomputable def po (x q:Str)(s:Stmt):Obj:={ cls:=.none,data:=.func { name:=x,qualname:=q,params:=iC s,body:=.stmts (fC s),scope:=ao s,globals:=0,closure:=[],defaults:=.none,kwdefaults:=.none } }
noncomputable def fd (x q:Str)(s:Stmt)(m:Value)(c:Nat)(v:Value):Obj:=⟨.type "function",none,.func (fnOf x q (iC s) (fC s) (ao s) v .none .none m none (.ref c) .none),#[]⟩
def fo (x q:Str)(s:Stmt)(m:Value)(c:Nat):Obj:=fd x q s m c .none
noncomputable def mv0:Value:=.str "__main__" 164
noncomputable def mv1:Value:=.str "sluice.rivers" 475
noncomputable def mv2:Value:=.str "sluice.ponds" 713
noncomputable def mv3:Value:=.str "sluice.rolls" 951
noncomputable def mv4:Value:=.str "sluice.books" 1139
noncomputable def mv5:Value:=.str "sluice.desk" 1312
noncomputable def mv6:Value:=.str "law_sluice_k74_deeds_at_a_desk" 1682
noncomputable def mv7:Value:=.str "sluice.bounds" 194
noncomputable def mv8:Value:=.str "sluice.errors" 215
noncomputable def mv9:Value:=.str "sluice.flows" 531
noncomputable def Il:Value:=.str "sluice.licences" 557
noncomputable def ZF:Value:=.str "sluice.turns" 652
noncomputable def mv12:Value:=.str "sluice.dealing" 705
noncomputable def abU:Value:=.str "sluice.days" 792
noncomputable def ac0:Value:=.str "sluice.moves" 839
noncomputable def acZ:Value:=.str "sluice.holds" 873
noncomputable def mv16:Value:=.str "sluice.cuts" 894
noncomputable def ZD:Value:=.str "sluice.papers" 902
noncomputable def aaT:Value:=.str "sluice.texts" 1267
def Ny (P:Params):List DictEntry:=[en P "__doc__" 166 .none,en P "__package__" 167 .none,en P "__loader__" 168 (.builtin "__main__.__loader__#opaque"),en P "__spec__" 169 .none,er P "__annotations__" 170 6,er P "__builtins__" 171 4,en P "__file__" 173 (.str "/claim/cut.py" 172),en P "__cached__" 174 .none]
def abG (P:Params):List DictEntry:=Ny P++[er P "_wall" 193 21,en P "MOST_WATER" 197 (.int 1000000000000 196),en P "LONGEST_NAME" 199 (.int 8 198),en P "LETTERS" 201 (.str "abcdefghijklmnopqrstuvwxyz" 200),er P "is_water" 208 28,er P "is_name" 214 33,er P "SluiceError" 234 43,er P "NoRiver" 250 56,er P "NoReach" 266 68,er P "NoLicence" 282 80,er P "NoNumber" 298 92,er P "NoHolder" 314 104,er P "NotYours" 330 116,er P "NotAlone" 346 128,er P "TooMuch" 362 140,er P "Full" 378 152,er P "NoPaper" 394 164,er P "NoPond" 410 176,er P "NoDay" 426 188,er P "Fixed" 442 200,er P "Harms" 458 212,er P "NoRow" 474 224,en P "MOST_REACHES" 478 (.int 40 477),en P "MOUTH" 481 (.int (-1) 480),er P "comes_to_mouth" 491 233]
def abE (P:Params):List DictEntry:=abG P++[er P "is_river" 497 238,er P "way_of" 506 245,er P "tops_first" 514 252,er P "mouths_of" 520 257,er P "stretch_of" 530 264,er P "natural_of" 542 271,er P "flows_of" 556 278,en P "LAST_DAY" 560 (.int 1000000 559),er P "is_licence" 572 285,er P "reaches_of" 584 292,er P "day_filed" 591 299,er P "start_of" 598 306,er P "gives_back" 605 313,er P "most_of" 612 320,er P "with_start" 620 327,er P "with_most" 628 334,er P "ranked" 636 341,er P "groups_of" 645 348,er P "wants_of" 651 353,er P "count_ways" 664 360,er P "whole_turns" 670 365,er P "draw" 680 372,er P "take_whole_turns" 686 377,er P "take_one_turn" 692 382,er P "deal_turns" 704 389,er P "deal" 712 394,en P "WHOLE" 716 (.int 1000 715)]
def abD (P:Params):List DictEntry:=abE P++[er P "pond_start" 727 401,er P "look_at_let" 741 408,er P "let_out" 757 415,er P "pond_calls" 773 422,er P "evening" 791 429,er P "morning_of" 806 436,er P "moves_of" 826 443,er P "used_of" 832 448,er P "day_of" 838 453,er P "moved" 850 460,er P "harm_of" 872 467,er P "holds_of" 887 474,er P "free_of" 893 479,er P "dry_of" 901 484,er P "comes_ahead" 914 491,er P "stretches_of" 920 496,er P "who_holds" 926 501,er P "all_ahead" 932 506,er P "first_showing" 944 513,er P "paper_of" 950 518,en P "MOST_LICENCES" 954 (.int 60 953),er P "look_at_name" 961 525]
def abC (P:Params):List DictEntry:=abD P++[er P "Roll" 1138 658]
def abB (P:Params):List DictEntry:=abC P++[en P "MOST_PONDS" 1142 (.int 10 1141),er P "greatest_of" 1148 667,er P "Book" 1266 748]
def abA (P:Params):List DictEntry:=abB P++[en P "FIGURES" 1270 (.str "0123456789" 1269),en P "MOST_FIGURES" 1272 (.int 13 1271),en P "PIECE" 1274 (.int 64 1273),er P "read_words" 1282 757,er P "read_number" 1288 762,er P "read_name" 1295 769,er P "show_number" 1305 776,er P "show_row" 1311 781,en P "MOST_LETS" 1315 (.int 60 1314),en P "OK" 1317 (.str "ok" 1316),en P "NUMBER" 1319 (.str "n" 1318),en P "NAME" 1321 (.str "a" 1320),en P "REACH" 1323 (.str "r" 1322)]
def abz (P:Params):List DictEntry:=abA P++[er P "AHEAD" 1331 782,er P "BEHIND" 1386 785]
def aby (P:Params):List DictEntry:=abz P++[er P "shape_of" 1395 809,er P "read_word" 1403 816,er P "place_of" 1411 823,er P "show_rows" 1417 828,er P "look_at_amount" 1424 835,er P "answer_reach" 1433 842,er P "answer_begin" 1441 849,er P "answer_file" 1450 856,er P "answer_sell" 1458 863,er P "answer_part" 1466 870,er P "answer_drop" 1474 877,er P "answer_move" 1482 884,er P "answer_pond" 1491 891]
def abx (P:Params):List DictEntry:=aby P++[er P "answer_turn" 1499 898,er P "answer_rain" 1507 905,er P "answer_call" 1515 912,er P "answer_let" 1524 919,er P "answer_run" 1530 924,er P "last_day" 1537 931,er P "answer_sheet" 1547 938,er P "answer_flow" 1557 945,er P "answer_kept" 1566 952,er P "answer_why" 1577 959,er P "answer_close" 1586 966,er P "answer_roll" 1602 973]
def XD (P:Params):List DictEntry:=abx P++[er P "ANSWERS" 1641 974]
def XC (P:Params):List DictEntry:=XD P++[er P "Desk" 1681 997,er P "_law_nth" 1692 1008,er P "_law_draws" 1703 1015,er P "_law_names" 1709 1020,er P "_law_river" 1718 1027,er P "_law_classes" 1726 1034]
def abF (P:Params):List DictEntry:=XC P++[er P "_law_said" 1737 1041,er P "_law_given" 1746 1048,er P "_law_done" 1758 1055,er P "_law_amount" 1766 1062,er P "_law_deed" 1783 1069,er P "_law_row" 1795 1076,er P "_law_line_right" 1801 1081,er P "law" 1807 1086]
def Xz:List Value:=t3 []
def Xy:List Value:=t3 [(1,20),(8,27),(10,32),(13,39),(15,52),(17,64),(19,76),(21,88),(23,100),(25,112),(27,124),(29,136),(31,148),(33,160),(35,172),(37,184),(39,196),(41,208),(43,220),(48,232)]
def Xx:List Value:=Xy++t3 [(55,237),(61,244),(66,251),(68,256),(70,263),(78,270),(84,277),(92,284),(97,291),(100,298),(102,305),(104,312),(106,319),(108,326),(110,333),(112,340),(114,347),(119,352),(122,359),(128,364),(132,371),(135,376),(141,381),(149,388),(158,393)]
def Xw:List Value:=Xx++t3 [(170,400),(173,407),(181,414),(188,421),(194,428),(205,435),(208,442),(216,447),(220,452),(229,459),(233,466),(245,473),(251,478),(255,483),(258,490),(260,495),(262,500),(264,505),(268,512),(273,517),(283,524)]
def Xv:List Value:=Xw++t3 [(286,531)]
def Xu:List Value:=Xv++t3 [(397,666),(400,673)]
def J7:List Value:=Xu++t3 [(476,756),(481,761),(487,768),(491,775),(499,780)]
def Xr:List Value:=J7++t3 [(511,808),(516,815),(522,822),(526,827),(528,834),(531,841),(538,848),(541,855),(544,862),(547,869),(549,876),(552,883),(555,890)]
def J6:List Value:=Xr++t3 [(558,897),(561,904),(565,911),(571,918),(577,923),(587,930),(591,937),(594,944),(597,951),(602,958),(611,965),(614,972)]
def Xq:List Value:=J6++t3 [(624,981),(644,1007),(648,1014),(654,1019),(660,1026),(665,1033)]
def Ze:List Value:=Xq++t3 [(670,1040),(680,1047),(700,1054),(710,1061),(717,1068),(744,1075),(752,1080),(762,1085)]
def ac8:Obj:={ cls:=.none,data:=Data.dict #[] }
def Js (P:Params):Obj:=dO (en P "__name__" 165 mv6::abF P) 142
def abu:Obj:=ca "_wall" "_wall" 187 1 1 15 191
def abt:Obj:=fo "_wall" "_wall" (top0 0) mv0 20
def abr:Obj:=ca "is_water" "is_water" 202 8 1 22 206
def abq:Obj:=fo "is_water" "is_water" (top0 5) mv7 27
def abp:Obj:=cb "is_name" "is_name" 209 10 1 29 212
def abo:Obj:=fo "is_name" "is_name" (top0 6) mv7 32
def abn (P:Params):Obj:=dO [en P "__module__" 224 mv8,en P "__firstlineno__" 228 (.int 13 227),er P "__static_attributes__" 229 41,er P "__weakref__" 231 44,en P "__doc__" 232 .none] 3
def abm:Obj:={ cls:=.type "type",data:=Data.cls { name:="SluiceError",bases:=[.type "ValueError"],mro:=[.ref 43,.type "ValueError",.type "Exception",.type "BaseException",.type "object"],ns:=42,qualname:="SluiceError",subclasses:=[.ref 56,.ref 68,.ref 80,.ref 92,.ref 104,.ref 116,.ref 128,.ref 140,.ref 152,.ref 164,.ref 176,.ref 188,.ref 200,.ref 212,.ref 224] },slots:=#[some (.ref 34),none,some (.str "SluiceError" 217),some (.str "SluiceError" 225),some (.builtin "ValueError.__new__"),some (.bool true)] }
def abl:Obj:={ cls:=.type "getset_descriptor",data:=Data.fields #[.str "__weakref__" 230,.ref 43,.builtin "ExceptionGroup.__weakref__",.none] }
def abk (P:Params):Obj:=dO [en P "__module__" 242 mv8,en P "__firstlineno__" 246 (.int 15 245),er P "__static_attributes__" 247 54,en P "__doc__" 248 .none] 2
def abj:Obj:={ cls:=.type "type",data:=Data.cls { name:="NoRiver",bases:=[.ref 43],mro:=[.ref 56,.ref 43,.type "ValueError",.type "Exception",.type "BaseException",.type "object"],ns:=55,qualname:="NoRiver" },slots:=#[some (.ref 47),none,some (.str "NoRiver" 235),some (.str "NoRiver" 243),some (.builtin "ValueError.__new__"),some (.bool true)] }
def abh (P:Params):Obj:=dO [en P "__module__" 258 mv8,en P "__firstlineno__" 262 (.int 17 261),er P "__static_attributes__" 263 66,en P "__doc__" 264 .none] 2
def abg:Obj:={ cls:=.type "type",data:=Data.cls { name:="NoReach",bases:=[.ref 43],mro:=[.ref 68,.ref 43,.type "ValueError",.type "Exception",.type "BaseException",.type "object"],ns:=67,qualname:="NoReach" },slots:=#[some (.ref 59),none,some (.str "NoReach" 251),some (.str "NoReach" 259),some (.builtin "ValueError.__new__"),some (.bool true)] }
def abf (P:Params):Obj:=dO [en P "__module__" 274 mv8,en P "__firstlineno__" 278 (.int 19 277),er P "__static_attributes__" 279 78,en P "__doc__" 280 .none] 2
def abe:Obj:={ cls:=.type "type",data:=Data.cls { name:="NoLicence",bases:=[.ref 43],mro:=[.ref 80,.ref 43,.type "ValueError",.type "Exception",.type "BaseException",.type "object"],ns:=79,qualname:="NoLicence" },slots:=#[some (.ref 71),none,some (.str "NoLicence" 267),some (.str "NoLicence" 275),some (.builtin "ValueError.__new__"),some (.bool true)] }
def abd (P:Params):Obj:=dO [en P "__module__" 290 mv8,en P "__firstlineno__" 294 (.int 21 293),er P "__static_attributes__" 295 90,en P "__doc__" 296 .none] 2
def abb:Obj:={ cls:=.type "type",data:=Data.cls { name:="NoNumber",bases:=[.ref 43],mro:=[.ref 92,.ref 43,.type "ValueError",.type "Exception",.type "BaseException",.type "object"],ns:=91,qualname:="NoNumber" },slots:=#[some (.ref 83),none,some (.str "NoNumber" 283),some (.str "NoNumber" 291),some (.builtin "ValueError.__new__"),some (.bool true)] }
def Xn (P:Params):Obj:=dO [en P "__module__" 306 mv8,en P "__firstlineno__" 310 (.int 23 309),er P "__static_attributes__" 311 102,en P "__doc__" 312 .none] 2
def Xm:Obj:={ cls:=.type "type",data:=Data.cls { name:="NoHolder",bases:=[.ref 43],mro:=[.ref 104,.ref 43,.type "ValueError",.type "Exception",.type "BaseException",.type "object"],ns:=103,qualname:="NoHolder" },slots:=#[some (.ref 95),none,some (.str "NoHolder" 299),some (.str "NoHolder" 307),some (.builtin "ValueError.__new__"),some (.bool true)] }
def Xl (P:Params):Obj:=dO [en P "__module__" 322 mv8,en P "__firstlineno__" 326 (.int 25 325),er P "__static_attributes__" 327 114,en P "__doc__" 328 .none] 2
def Xk:Obj:={ cls:=.type "type",data:=Data.cls { name:="NotYours",bases:=[.ref 43],mro:=[.ref 116,.ref 43,.type "ValueError",.type "Exception",.type "BaseException",.type "object"],ns:=115,qualname:="NotYours" },slots:=#[some (.ref 107),none,some (.str "NotYours" 315),some (.str "NotYours" 323),some (.builtin "ValueError.__new__"),some (.bool true)] }
def Xj (P:Params):Obj:=dO [en P "__module__" 338 mv8,en P "__firstlineno__" 342 (.int 27 341),er P "__static_attributes__" 343 126,en P "__doc__" 344 .none] 2
def Xi:Obj:={ cls:=.type "type",data:=Data.cls { name:="NotAlone",bases:=[.ref 43],mro:=[.ref 128,.ref 43,.type "ValueError",.type "Exception",.type "BaseException",.type "object"],ns:=127,qualname:="NotAlone" },slots:=#[some (.ref 119),none,some (.str "NotAlone" 331),some (.str "NotAlone" 339),some (.builtin "ValueError.__new__"),some (.bool true)] }
def Xh (P:Params):Obj:=dO [en P "__module__" 354 mv8,en P "__firstlineno__" 358 (.int 29 357),er P "__static_attributes__" 359 138,en P "__doc__" 360 .none] 2
def Xg:Obj:={ cls:=.type "type",data:=Data.cls { name:="TooMuch",bases:=[.ref 43],mro:=[.ref 140,.ref 43,.type "ValueError",.type "Exception",.type "BaseException",.type "object"],ns:=139,qualname:="TooMuch" },slots:=#[some (.ref 131),none,some (.str "TooMuch" 347),some (.str "TooMuch" 355),some (.builtin "ValueError.__new__"),some (.bool true)] }
def Xf (P:Params):Obj:=dO [en P "__module__" 370 mv8,en P "__firstlineno__" 374 (.int 31 373),er P "__static_attributes__" 375 150,en P "__doc__" 376 .none] 2
def Xe:Obj:={ cls:=.type "type",data:=Data.cls { name:="Full",bases:=[.ref 43],mro:=[.ref 152,.ref 43,.type "ValueError",.type "Exception",.type "BaseException",.type "object"],ns:=151,qualname:="Full" },slots:=#[some (.ref 143),none,some (.str "Full" 363),some (.str "Full" 371),some (.builtin "ValueError.__new__"),some (.bool true)] }
def Xd (P:Params):Obj:=dO [en P "__module__" 386 mv8,en P "__firstlineno__" 390 (.int 33 389),er P "__static_attributes__" 391 162,en P "__doc__" 392 .none] 2
def Xc:Obj:={ cls:=.type "type",data:=Data.cls { name:="NoPaper",bases:=[.ref 43],mro:=[.ref 164,.ref 43,.type "ValueError",.type "Exception",.type "BaseException",.type "object"],ns:=163,qualname:="NoPaper" },slots:=#[some (.ref 155),none,some (.str "NoPaper" 379),some (.str "NoPaper" 387),some (.builtin "ValueError.__new__"),some (.bool true)] }
def Xb (P:Params):Obj:=dO [en P "__module__" 402 mv8,en P "__firstlineno__" 406 (.int 35 405),er P "__static_attributes__" 407 174,en P "__doc__" 408 .none] 2
def Xa:Obj:={ cls:=.type "type",data:=Data.cls { name:="NoPond",bases:=[.ref 43],mro:=[.ref 176,.ref 43,.type "ValueError",.type "Exception",.type "BaseException",.type "object"],ns:=175,qualname:="NoPond" },slots:=#[some (.ref 167),none,some (.str "NoPond" 395),some (.str "NoPond" 403),some (.builtin "ValueError.__new__"),some (.bool true)] }
def W9 (P:Params):Obj:=dO [en P "__module__" 418 mv8,en P "__firstlineno__" 422 (.int 37 421),er P "__static_attributes__" 423 186,en P "__doc__" 424 .none] 2
def W8:Obj:={ cls:=.type "type",data:=Data.cls { name:="NoDay",bases:=[.ref 43],mro:=[.ref 188,.ref 43,.type "ValueError",.type "Exception",.type "BaseException",.type "object"],ns:=187,qualname:="NoDay" },slots:=#[some (.ref 179),none,some (.str "NoDay" 411),some (.str "NoDay" 419),some (.builtin "ValueError.__new__"),some (.bool true)] }
def W7 (P:Params):Obj:=dO [en P "__module__" 434 mv8,en P "__firstlineno__" 438 (.int 39 437),er P "__static_attributes__" 439 198,en P "__doc__" 440 .none] 2
def W6:Obj:={ cls:=.type "type",data:=Data.cls { name:="Fixed",bases:=[.ref 43],mro:=[.ref 200,.ref 43,.type "ValueError",.type "Exception",.type "BaseException",.type "object"],ns:=199,qualname:="Fixed" },slots:=#[some (.ref 191),none,some (.str "Fixed" 427),some (.str "Fixed" 435),some (.builtin "ValueError.__new__"),some (.bool true)] }
def W5 (P:Params):Obj:=dO [en P "__module__" 450 mv8,en P "__firstlineno__" 454 (.int 41 453),er P "__static_attributes__" 455 210,en P "__doc__" 456 .none] 2
def W4:Obj:={ cls:=.type "type",data:=Data.cls { name:="Harms",bases:=[.ref 43],mro:=[.ref 212,.ref 43,.type "ValueError",.type "Exception",.type "BaseException",.type "object"],ns:=211,qualname:="Harms" },slots:=#[some (.ref 203),none,some (.str "Harms" 443),some (.str "Harms" 451),some (.builtin "ValueError.__new__"),some (.bool true)] }
def W3 (P:Params):Obj:=dO [en P "__module__" 466 mv8,en P "__firstlineno__" 470 (.int 43 469),er P "__static_attributes__" 471 222,en P "__doc__" 472 .none] 2
def W2:Obj:={ cls:=.type "type",data:=Data.cls { name:="NoRow",bases:=[.ref 43],mro:=[.ref 224,.ref 43,.type "ValueError",.type "Exception",.type "BaseException",.type "object"],ns:=223,qualname:="NoRow" },slots:=#[some (.ref 215),none,some (.str "NoRow" 459),some (.str "NoRow" 467),some (.builtin "ValueError.__new__"),some (.bool true)] }
def W0:Obj:=ca "comes_to_mouth" "comes_to_mouth" 482 48 2 227 489
def WY:Obj:=fo "comes_to_mouth" "comes_to_mouth" (top0 27) mv1 232
def WX:Obj:=cb "is_river" "is_river" 492 55 1 234 495
def WW:Obj:=fo "is_river" "is_river" (top0 28) mv1 237
def WT:Obj:=ca "way_of" "way_of" 498 61 2 239 504
def WR:Obj:=fo "way_of" "way_of" (top0 29) mv1 244
def WQ:Obj:=ca "tops_first" "tops_first" 507 66 1 246 512
def WM:Obj:=fo "tops_first" "tops_first" (top0 30) mv1 251
def WL:Obj:=cb "mouths_of" "mouths_of" 515 68 1 253 518
def WK:Obj:=fo "mouths_of" "mouths_of" (top0 31) mv1 256
def WD:Obj:=ca "stretch_of" "stretch_of" 521 70 3 258 528
def Wz:Obj:=fo "stretch_of" "stretch_of" (top0 32) mv1 263
def Wy:Obj:=ca "natural_of" "natural_of" 533 78 2 265 540
def Wx:Obj:=fo "natural_of" "natural_of" (top0 34) mv9 270
def Ww:Obj:=ca "flows_of" "flows_of" 543 84 3 272 554
def Wv:Obj:=fo "flows_of" "flows_of" (top0 35) mv9 277
def Wu:Obj:=ca "is_licence" "is_licence" 561 92 2 279 570
def Wt:Obj:=fo "is_licence" "is_licence" (top0 38) Il 284
def Ws:Obj:=ca "reaches_of" "reaches_of" 573 97 2 286 582
def Wr:Obj:=fo "reaches_of" "reaches_of" (top0 39) Il 291
def Wq:Obj:=ca "day_filed" "day_filed" 585 100 1 293 589
def Wo:Obj:=fo "day_filed" "day_filed" (top0 40) Il 298
def Wn:Obj:=ca "start_of" "start_of" 592 102 1 300 596
def Wm:Obj:=fo "start_of" "start_of" (top0 41) Il 305
def Wk:Obj:=ca "gives_back" "gives_back" 599 104 1 307 603
def Wj:Obj:=fo "gives_back" "gives_back" (top0 42) Il 312
def Wi:Obj:=ca "most_of" "most_of" 606 106 1 314 610
def Wh:Obj:=fo "most_of" "most_of" (top0 43) Il 319
def Wg:Obj:=ca "with_start" "with_start" 613 108 2 321 618
def Wf:Obj:=fo "with_start" "with_start" (top0 44) Il 326
def Wd:Obj:=ca "with_most" "with_most" 621 110 2 328 626
def Wc:Obj:=fo "with_most" "with_most" (top0 45) Il 333
def Wb:Obj:=ca "ranked" "ranked" 629 112 1 335 634
def Wa:Obj:=fo "ranked" "ranked" (top0 46) Il 340
def V9:Obj:=ca "groups_of" "groups_of" 637 114 1 342 643
def V8:Obj:=fo "groups_of" "groups_of" (top0 47) Il 347
def V7:Obj:=cb "wants_of" "wants_of" 646 119 2 349 649
def V6:Obj:=fo "wants_of" "wants_of" (top0 48) Il 352
def V5:Obj:=ca "count_ways" "count_ways" 654 122 2 354 662
def V4:Obj:=fo "count_ways" "count_ways" (top0 50) ZF 359
def V3:Obj:=cb "whole_turns" "whole_turns" 665 128 3 361 668
def V2:Obj:=fo "whole_turns" "whole_turns" (top0 51) ZF 364
def V1:Obj:=ca "draw" "draw" 671 132 3 366 678
def V0:Obj:=fo "draw" "draw" (top0 52) ZF 371
def VR:Obj:=cb "take_whole_turns" "take_whole_turns" 681 135 5 373 684
def VP:Obj:=fo "take_whole_turns" "take_whole_turns" (top0 53) ZF 376
def VN:Obj:=cb "take_one_turn" "take_one_turn" 687 141 5 378 690
def VL:Obj:=fo "take_one_turn" "take_one_turn" (top0 54) ZF 381
def VJ:Obj:=ca "deal_turns" "deal_turns" 693 149 3 383 702
def VH:Obj:=fo "deal_turns" "deal_turns" (top0 55) ZF 388
def VG:Obj:=cb "deal" "deal" 707 158 4 390 710
def VF:Obj:=fo "deal" "deal" (top0 57) mv12 393
def VD:Obj:=ca "pond_start" "pond_start" 717 170 2 395 725
def VB:Obj:=fo "pond_start" "pond_start" (top0 60) mv2 400
def Vz:Obj:=ca "look_at_let" "look_at_let" 728 173 5 402 739
def Vy:Obj:=fo "look_at_let" "look_at_let" (top0 61) mv2 407
def Vx:Obj:=ca "let_out" "let_out" 742 181 5 409 755
def Vw:Obj:=fo "let_out" "let_out" (top0 62) mv2 414
def Vv:Obj:=ca "pond_calls" "pond_calls" 758 188 4 416 771
def Vu:Obj:=fo "pond_calls" "pond_calls" (top0 63) mv2 421
def Vt:Obj:=ca "evening" "evening" 774 194 3 423 789
def Vs:Obj:=fo "evening" "evening" (top0 64) mv2 428
def Vr:Obj:=ca "morning_of" "morning_of" 794 205 6 430 804
def Vq:Obj:=fo "morning_of" "morning_of" (top0 66) abU 435
def Vp:Obj:=ca "moves_of" "moves_of" 807 208 4 437 824
def Vo:Obj:=fo "moves_of" "moves_of" (top0 67) abU 442
def Vn:Obj:=cb "used_of" "used_of" 827 216 4 444 830
def Vm:Obj:=fo "used_of" "used_of" (top0 68) abU 447
def Vl:Obj:=cb "day_of" "day_of" 833 220 7 449 836
def Vk:Obj:=fo "day_of" "day_of" (top0 69) abU 452
def Vj:Obj:=ca "moved" "moved" 841 229 3 454 848
def Vi:Obj:=fo "moved" "moved" (top0 71) ac0 459
def Vh:Obj:=ca "harm_of" "harm_of" 851 233 5 461 870
def Vg:Obj:=fo "harm_of" "harm_of" (top0 72) ac0 466
def Vf:Obj:=ca "holds_of" "holds_of" 875 245 3 468 885
def Ve:Obj:=fo "holds_of" "holds_of" (top0 74) acZ 473
def Vd:Obj:=cb "free_of" "free_of" 888 251 4 475 891
def Vc:Obj:=fo "free_of" "free_of" (top0 75) acZ 478
def Vb:Obj:=cb "dry_of" "dry_of" 896 255 4 480 899
def Va:Obj:=fo "dry_of" "dry_of" (top0 77) mv16 483
def U9:Obj:=ca "comes_ahead" "comes_ahead" 904 258 5 485 912
def U8:Obj:=fo "comes_ahead" "comes_ahead" (top0 79) ZD 490
def U7:Obj:=cb "stretches_of" "stretches_of" 915 260 2 492 918
def U6:Obj:=fo "stretches_of" "stretches_of" (top0 80) ZD 495
def U5:Obj:=cb "who_holds" "who_holds" 921 262 3 497 924
def U4:Obj:=fo "who_holds" "who_holds" (top0 81) ZD 500
def U3:Obj:=cb "all_ahead" "all_ahead" 927 264 5 502 930
def U0:Obj:=fo "all_ahead" "all_ahead" (top0 82) ZD 505
def UW:Obj:=ca "first_showing" "first_showing" 933 268 5 507 942
def UL:Obj:=fo "first_showing" "first_showing" (top0 83) ZD 512
def UJ:Obj:=cb "paper_of" "paper_of" 945 273 6 514 948
def UG:Obj:=fo "paper_of" "paper_of" (top0 84) ZD 517
def Uz:Obj:=ca "look_at_name" "look_at_name" 955 283 1 519 959
def Uy:Obj:=fo "look_at_name" "look_at_name" (top0 87) mv3 524
def Ux:Obj:=ca "__init__" "Roll.__init__" 974 288 2 533 979
def Uw:Obj:=fo "__init__" "Roll.__init__" (inC 88 0) mv3 538
def Uv:Obj:=ca "today" "Roll.today" 982 297 1 540 986
def Uu:Obj:=fo "today" "Roll.today" (inC 88 1) mv3 545
def Ut:Obj:=ca "roll" "Roll.roll" 989 300 1 547 993
def Us:Obj:=fo "roll" "Roll.roll" (inC 88 2) mv3 552
def Ur:Obj:=ca "holders" "Roll.holders" 996 303 1 554 1000
def Uq:Obj:=fo "holders" "Roll.holders" (inC 88 3) mv3 559
def Uo:Obj:=ca "deeds" "Roll.deeds" 1003 306 1 561 1007
def Um:Obj:=fo "deeds" "Roll.deeds" (inC 88 4) mv3 566
def Ul:Obj:=ca "turn" "Roll.turn" 1010 309 1 568 1014
def Uk:Obj:=fo "turn" "Roll.turn" (inC 88 5) mv3 573
def Uj:Obj:=tq #[.none]
def Ui:Obj:=ca "file" "Roll.file" 1017 313 5 576 1027
def Uh:Obj:=fd "file" "Roll.file" (inC 88 6) mv3 581 (.ref 575)
def Ug:Obj:=ca "sell" "Roll.sell" 1030 323 4 583 1037
def Ue:Obj:=fo "sell" "Roll.sell" (inC 88 7) mv3 588
def Ud:Obj:=ca "part" "Roll.part" 1040 329 5 590 1049
def Uc:Obj:=fo "part" "Roll.part" (inC 88 8) mv3 595
def Ub:Obj:=ca "drop" "Roll.drop" 1052 342 3 597 1058
def Ua:Obj:=fo "drop" "Roll.drop" (inC 88 9) mv3 602
def T9:Obj:=ca "move" "Roll.move" 1061 347 4 604 1069
def T7:Obj:=fo "move" "Roll.move" (inC 88 10) mv3 609
def T6:Obj:=ca "look_move" "Roll.look_move" 1072 356 3 611 1078
def T5:Obj:=fo "look_move" "Roll.look_move" (inC 88 11) mv3 616
def T4:Obj:=cb "lapse" "Roll.lapse" 1081 359 2 618 1084
def T3:Obj:=fo "lapse" "Roll.lapse" (inC 88 12) mv3 621
def TY:Obj:=ca "enter" "Roll.enter" 1087 373 3 623 1093
def TV:Obj:=fo "enter" "Roll.enter" (inC 88 13) mv3 628
def TQ:Obj:=cb "is_alone" "Roll.is_alone" 1096 378 2 630 1099
def TJ:Obj:=fo "is_alone" "Roll.is_alone" (inC 88 14) mv3 633
def TF:Obj:=ca "look_at_number" "Roll.look_at_number" 1102 383 2 635 1107
def Tw:Obj:=fo "look_at_number" "Roll.look_at_number" (inC 88 15) mv3 640
def Tv:Obj:=ca "look_at_holder" "Roll.look_at_holder" 1110 387 3 642 1116
def Tt:Obj:=fo "look_at_holder" "Roll.look_at_holder" (inC 88 16) mv3 647
def Tr:Obj:=ca "look_at_room" "Roll.look_at_room" 1119 392 1 649 1123
def Tq:Obj:=fo "look_at_room" "Roll.look_at_room" (inC 88 17) mv3 654
def Tp:Obj:=tn 1126 ["below","day","done","licences","names"]
def Tj (P:Params):Obj:=dO [en P "__module__" 969 mv3,en P "__firstlineno__" 973 (.int 286 972),er P "__init__" 981 539,er P "today" 988 546,er P "roll" 995 553,er P "holders" 1002 560,er P "deeds" 1009 567,er P "turn" 1016 574,er P "file" 1029 582,er P "sell" 1039 589,er P "part" 1051 596,er P "drop" 1060 603,er P "move" 1071 610,er P "look_move" 1080 617,er P "lapse" 1086 622,er P "enter" 1095 629,er P "is_alone" 1101 634,er P "look_at_number" 1109 641,er P "look_at_holder" 1118 648,er P "look_at_room" 1125 655,er P "__static_attributes__" 1131 656,er P "__dict__" 1133 659,er P "__weakref__" 1135 660,en P "__doc__" 1136 .none] 4
def ux:Obj:={ cls:=.type "type",data:=Data.cls { name:="Roll",bases:=[.type "object"],mro:=[.ref 658,.type "object"],ns:=657,qualname:="Roll",subclasses:=[.ref 748] },slots:=#[none,none,some (.str "Roll" 962),some (.str "Roll" 970),some (.builtin "object.__new__"),some (.bool true)] }
def Ti:Obj:={ cls:=.type "getset_descriptor",data:=Data.fields #[.str "__dict__" 1132,.ref 658,.builtin "function.__dict__",.builtin "function.__dict__#set"] }
def Tg:Obj:={ cls:=.type "getset_descriptor",data:=Data.fields #[.str "__weakref__" 1134,.ref 658,.builtin "ExceptionGroup.__weakref__",.none] }
def Tf:Obj:=cb "greatest_of" "greatest_of" 1143 397 2 663 1146
def Te:Obj:=fo "greatest_of" "greatest_of" (top0 91) mv4 666
def Td:Obj:=ca "__init__" "Book.__init__" 1161 402 2 675 1166
def Tc:Obj:=fo "__init__" "Book.__init__" (inC 92 0) mv4 680
def S9:Obj:=tq #[.int 0 1169]
def S8:Obj:=ca "pond" "Book.pond" 1170 410 5 683 1178
def S7:Obj:=fd "pond" "Book.pond" (inC 92 1) mv4 688 (.ref 682)
def S6:Obj:=ca "ponds" "Book.ponds" 1181 422 1 690 1185
def S5:Obj:=fo "ponds" "Book.ponds" (inC 92 2) mv4 695
def SX:Obj:=ca "kept" "Book.kept" 1188 425 1 697 1192
def SQ:Obj:=fo "kept" "Book.kept" (inC 92 3) mv4 702
def SN:Obj:=cb "has_pond" "Book.has_pond" 1195 428 2 704 1198
def SM:Obj:=fo "has_pond" "Book.has_pond" (inC 92 4) mv4 707
def SJ:Obj:=tq #[.none]
def Sy:Obj:=ca "run" "Book.run" 1201 431 4 710 1216
def Sx:Obj:=fd "run" "Book.run" (inC 92 5) mv4 715 (.ref 709)
def Sw:Obj:=cb "look_at_amounts" "Book.look_at_amounts" 1219 445 3 717 1222
def Sv:Obj:=fo "look_at_amounts" "Book.look_at_amounts" (inC 92 6) mv4 720
def Ss:Obj:=cb "record" "Book.record" 1225 449 1 722 1228
def Sq:Obj:=fo "record" "Book.record" (inC 92 7) mv4 725
def Sg:Obj:=ca "why" "Book.why" 1231 452 2 727 1240
def Sd:Obj:=fo "why" "Book.why" (inC 92 8) mv4 732
def R9:Obj:=ca "look_move" "Book.look_move" 1243 461 3 734 1249
def R8:Obj:=fo "look_move" "Book.look_move" (inC 92 9) mv4 739
def R7:Obj:=cb "close" "Book.close" 1252 467 1 741 1255
def R6:Obj:=fo "close" "Book.close" (inC 92 10) mv4 744
def R5 (P:Params):Obj:=dO [en P "__module__" 1156 mv4,en P "__firstlineno__" 1160 (.int 400 1159),er P "__init__" 1168 681,er P "pond" 1180 689,er P "ponds" 1187 696,er P "kept" 1194 703,er P "has_pond" 1200 708,er P "run" 1218 716,er P "look_at_amounts" 1224 721,er P "record" 1230 726,er P "why" 1242 733,er P "look_move" 1251 740,er P "close" 1257 745,er P "__static_attributes__" 1263 746,en P "__doc__" 1264 .none] 2
def R4:Obj:={ cls:=.type "type",data:=Data.cls { name:="Book",bases:=[.ref 658],mro:=[.ref 748,.ref 658,.type "object"],ns:=747,qualname:="Book" },slots:=#[some (.ref 668),none,some (.str "Book" 1149),some (.str "Book" 1157),some (.builtin "object.__new__"),some (.bool true)] }
def R3:Obj:=ca "read_words" "read_words" 1275 476 1 751 1280
def RZ:Obj:=fo "read_words" "read_words" (top0 97) aaT 756
def RW:Obj:=cb "read_number" "read_number" 1283 481 1 758 1286
def RV:Obj:=fo "read_number" "read_number" (top0 98) aaT 761
def RT:Obj:=ca "read_name" "read_name" 1289 487 1 763 1293
def RQ:Obj:=fo "read_name" "read_name" (top0 99) aaT 768
def RN:Obj:=ca "show_number" "show_number" 1296 491 1 770 1303
def RM:Obj:=fo "show_number" "show_number" (top0 100) aaT 775
def RL:Obj:=cb "show_row" "show_row" 1306 499 1 777 1309
def RK:Obj:=fo "show_row" "show_row" (top0 101) aaT 780
def RJ (P:Params):Obj:=dO [er P "reach" 1324 783,er P "begin" 1327 784] 2
def RG:Obj:=tn 1325 ["a","aw"]
def Rz:Obj:=tn 1328 [""]
def Ry (P:Params):Obj:=dO [er P "file" 1332 786,er P "sell" 1336 787,er P "part" 1339 788,er P "drop" 1342 789,er P "move" 1345 790,er P "pond" 1348 791,er P "turn" 1352 792,er P "rain" 1355 793,er P "call" 1358 794,er P "let" 1361 795,er P "run" 1365 796,er P "sheet" 1368 797,er P "flow" 1371 798,er P "kept" 1374 799,er P "why" 1377 800,er P "close" 1380 801,er P "roll" 1383 802] 17
def Rx:Obj:=tn 1333 ["arn","arnr"]
def Rw:Obj:=tn 1337 ["naa"]
def Ru:Obj:=tn 1340 ["nana"]
def Rt:Obj:=tn 1343 ["na"]
def Rr:Obj:=tn 1346 ["nar"]
def Rq:Obj:=tn 1349 ["nan","nann"]
def Rp:Obj:=tn 1353 [""]
def Ro:Obj:=tn 1356 ["rn"]
def Rn:Obj:=tn 1359 ["nn"]
def Rm:Obj:=tn 1362 ["nn","nrn"]
def Rk:Obj:=tn 1366 [""]
def Rj:Obj:=tn 1369 [""]
def Ri:Obj:=tn 1372 ["r"]
def Rh:Obj:=tn 1375 ["n"]
def Rg:Obj:=tn 1378 ["n"]
def Rf:Obj:=tn 1381 [""]
def Rc:Obj:=tn 1384 ["n"]
def Rb:Obj:=ca "shape_of" "shape_of" 1387 511 2 803 1393
def Ra:Obj:=fo "shape_of" "shape_of" (top0 110) mv5 808
def Q9:Obj:=ca "read_word" "read_word" 1396 516 2 810 1401
def Q8:Obj:=fo "read_word" "read_word" (top0 111) mv5 815
def Q7:Obj:=ca "place_of" "place_of" 1404 522 2 817 1409
def Q6:Obj:=fo "place_of" "place_of" (top0 112) mv5 822
def Q5:Obj:=cb "show_rows" "show_rows" 1412 526 1 824 1415
def Q0:Obj:=fo "show_rows" "show_rows" (top0 113) mv5 827
def QZ:Obj:=ca "look_at_amount" "look_at_amount" 1418 528 1 829 1422
def QX:Obj:=fo "look_at_amount" "look_at_amount" (top0 114) mv5 834
def QW:Obj:=ca "answer_reach" "answer_reach" 1425 531 2 836 1431
def QV:Obj:=fo "answer_reach" "answer_reach" (top0 115) mv5 841
def QT:Obj:=ca "answer_begin" "answer_begin" 1434 538 2 843 1439
def QS:Obj:=fo "answer_begin" "answer_begin" (top0 116) mv5 848
def QM:Obj:=ca "answer_file" "answer_file" 1442 541 2 850 1448
def QL:Obj:=fo "answer_file" "answer_file" (top0 117) mv5 855
def QK:Obj:=ca "answer_sell" "answer_sell" 1451 544 2 857 1456
def QJ:Obj:=fo "answer_sell" "answer_sell" (top0 118) mv5 862
def QH:Obj:=ca "answer_part" "answer_part" 1459 547 2 864 1464
def QG:Obj:=fo "answer_part" "answer_part" (top0 119) mv5 869
def QF:Obj:=ca "answer_drop" "answer_drop" 1467 549 2 871 1472
def QD:Obj:=fo "answer_drop" "answer_drop" (top0 120) mv5 876
def QC:Obj:=ca "answer_move" "answer_move" 1475 552 2 878 1480
def QB:Obj:=fo "answer_move" "answer_move" (top0 121) mv5 883
def Qz:Obj:=ca "answer_pond" "answer_pond" 1483 555 2 885 1489
def Qy:Obj:=fo "answer_pond" "answer_pond" (top0 122) mv5 890
def Qx:Obj:=ca "answer_turn" "answer_turn" 1492 558 2 892 1497
def Qw:Obj:=fo "answer_turn" "answer_turn" (top0 123) mv5 897
def Qv:Obj:=ca "answer_rain" "answer_rain" 1500 561 2 899 1505
def Qu:Obj:=fo "answer_rain" "answer_rain" (top0 124) mv5 904
def Qt:Obj:=ca "answer_call" "answer_call" 1508 565 2 906 1513
def Qs:Obj:=fo "answer_call" "answer_call" (top0 125) mv5 911
def Qq:Obj:=ca "answer_let" "answer_let" 1516 571 2 913 1522
def Qp:Obj:=fo "answer_let" "answer_let" (top0 126) mv5 918
def Qo:Obj:=cb "answer_run" "answer_run" 1525 577 2 920 1528
def Qn:Obj:=fo "answer_run" "answer_run" (top0 127) mv5 923
def Qm:Obj:=ca "last_day" "last_day" 1531 587 1 925 1535
def Ql:Obj:=fo "last_day" "last_day" (top0 128) mv5 930
def Qk:Obj:=ca "answer_sheet" "answer_sheet" 1538 591 2 932 1545
def Qj:Obj:=fo "answer_sheet" "answer_sheet" (top0 129) mv5 937
def Qi:Obj:=ca "answer_flow" "answer_flow" 1548 594 2 939 1555
def Qh:Obj:=fo "answer_flow" "answer_flow" (top0 130) mv5 944
def Qg:Obj:=ca "answer_kept" "answer_kept" 1558 597 2 946 1564
def Qf:Obj:=fo "answer_kept" "answer_kept" (top0 131) mv5 951
def Qe:Obj:=ca "answer_why" "answer_why" 1567 602 2 953 1575
def Qd:Obj:=fo "answer_why" "answer_why" (top0 132) mv5 958
def Qc:Obj:=ca "answer_close" "answer_close" 1578 611 2 960 1584
def Qa:Obj:=fo "answer_close" "answer_close" (top0 133) mv5 965
def JV:Obj:=ca "answer_roll" "answer_roll" 1587 614 2 967 1600
def JT:Obj:=fo "answer_roll" "answer_roll" (top0 134) mv5 972
def JR (P:Params):Obj:=dO [er P "reach" 1603 842,er P "begin" 1605 849,er P "file" 1607 856,er P "sell" 1609 863,er P "part" 1611 870,er P "drop" 1613 877,er P "move" 1615 884,er P "pond" 1617 891,er P "turn" 1619 898,er P "rain" 1621 905,er P "call" 1623 912,er P "let" 1625 919,er P "run" 1627 924,er P "sheet" 1629 938,er P "flow" 1631 945,er P "kept" 1633 952,er P "why" 1635 959,er P "close" 1637 966,er P "roll" 1638 973] 19
def JQ:Obj:=ca "__init__" "Desk.__init__" 1654 626 1 983 1658
def JN:Obj:=fo "__init__" "Desk.__init__" (inC 136 0) mv5 988
def JM:Obj:=cb "say" "Desk.say" 1661 635 2 990 1664
def JL:Obj:=fo "say" "Desk.say" (inC 136 1) mv5 993
def JK (P:Params):Obj:=dO [en P "__module__" 1649 mv5,en P "__firstlineno__" 1653 (.int 624 1652),er P "__init__" 1660 989,er P "say" 1666 994,er P "__static_attributes__" 1674 995,er P "__dict__" 1676 998,er P "__weakref__" 1678 999,en P "__doc__" 1679 .none] 4
def JH:Obj:={ cls:=.type "type",data:=Data.cls { name:="Desk",bases:=[.type "object"],mro:=[.ref 997,.type "object"],ns:=996,qualname:="Desk" },slots:=#[none,none,some (.str "Desk" 1642),some (.str "Desk" 1650),some (.builtin "object.__new__"),some (.bool true)] }
def JG:Obj:={ cls:=.type "getset_descriptor",data:=Data.fields #[.str "__dict__" 1675,.ref 997,.builtin "function.__dict__",.builtin "function.__dict__#set"] }
def JF:Obj:={ cls:=.type "getset_descriptor",data:=Data.fields #[.str "__weakref__" 1677,.ref 997,.builtin "ExceptionGroup.__weakref__",.none] }
def JD:Obj:=ca "_law_nth" "_law_nth" 1684 644 2 1002 1690
def JC:Obj:=fo "_law_nth" "_law_nth" (top0 138) mv6 1007
def JB:Obj:=ca "_law_draws" "_law_draws" 1693 648 2 1009 1701
def Jz:Obj:=fo "_law_draws" "_law_draws" (top0 139) mv6 1014
def Jy:Obj:=cb "_law_names" "_law_names" 1704 654 2 1016 1707
def Jx:Obj:=fo "_law_names" "_law_names" (top0 140) mv6 1019
def Jw:Obj:=ca "_law_river" "_law_river" 1710 660 1 1021 1716
def Jv:Obj:=fo "_law_river" "_law_river" (top0 141) mv6 1026
def Ju:Obj:=ca "_law_classes" "_law_classes" 1719 665 1 1028 1724
def Jt:Obj:=fo "_law_classes" "_law_classes" (top0 142) mv6 1033
def Jr:Obj:=ca "_law_said" "_law_said" 1727 670 2 1035 1735
def Jq:Obj:=fo "_law_said" "_law_said" (top0 143) mv6 1040
def Jp:Obj:=ca "_law_given" "_law_given" 1738 680 3 1042 1744
def Jo:Obj:=fo "_law_given" "_law_given" (top0 144) mv6 1047
def Jm:Obj:=ca "_law_done" "_law_done" 1747 700 3 1049 1756
def Jl:Obj:=fo "_law_done" "_law_done" (top0 145) mv6 1054
def Jk:Obj:=ca "_law_amount" "_law_amount" 1759 710 1 1056 1764
def Jj:Obj:=fo "_law_amount" "_law_amount" (top0 146) mv6 1061
def Ji:Obj:=ca "_law_deed" "_law_deed" 1767 717 4 1063 1781
def Jh:Obj:=fo "_law_deed" "_law_deed" (top0 147) mv6 1068
def Jg:Obj:=ca "_law_row" "_law_row" 1784 744 3 1070 1793
def Jf:Obj:=fo "_law_row" "_law_row" (top0 148) mv6 1075
def Je:Obj:=cb "_law_line_right" "_law_line_right" 1796 752 4 1077 1799
def Jd:Obj:=fo "_law_line_right" "_law_line_right" (top0 149) mv6 1080
def Jc:Obj:=cb "law" "law" 1802 762 1 1082 1805
def Jb:Obj:=fo "law" "law" (top0 150) mv6 1085
def sg0 (P:Params):List Obj:=(dO (en P "__name__" 1 (.str "builtins" 160)::(eb P 2 [("__doc__","builtins.__doc__:str#opaque"),("__package__","builtins.__package__:str#opaque"),("__loader__","builtins.__loader__:shared#opaque"),("__spec__","builtins.__spec__#opaque"),("__build_class__","__build_class__"),("__import__","__import__"),("abs","abs"),("all","all"),("any","any"),("ascii","ascii"),("bin","bin"),("breakpoint","breakpoint"),("callable","callable"),("chr","chr"),("compile","compile"),("delattr","delattr"),("dir","dir"),("divmod","divmod"),("eval","eval"),("exec","exec"),("format","format"),("getattr","getattr"),("globals","globals"),("hasattr","hasattr"),("hash","hash"),("hex","hex"),("id","id"),("input","input"),("isinstance","isinstance"),("issubclass","issubclass"),("iter","iter"),("aiter","aiter")] (eb P 34 [("len","len"),("locals","locals"),("max","max"),("min","min"),("next","next"),("anext","anext"),("oct","oct"),("ord","ord"),("pow","pow"),("print","print"),("repr","repr"),("round","round"),("setattr","setattr"),("sorted","sorted"),("sum","sum"),("vars","vars")] (en P "None" 50 .none::en P "Ellipsis" 51 .ellipsis::en P "NotImplemented" 52 .notImplemented::en P "False" 53 (.bool false)::en P "True" 54 (.bool true)::(et P 55 [("bool","bool"),("memoryview","memoryview"),("bytearray","bytearray"),("bytes","bytes"),("classmethod","classmethod"),("complex","complex"),("dict","dict"),("enumerate","enumerate"),("filter","filter"),("float","float"),("frozenset","frozenset"),("property","property"),("int","int"),("list","list"),("map","map"),("object","object"),("range","range"),("reversed","reversed"),("set","set"),("slice","slice"),("staticmethod","staticmethod"),("str","str"),("super","super"),("tuple","tuple"),("type","type"),("zip","zip")] (en P "__debug__" 81 (.bool true)::(et P 82 [("BaseException","BaseException"),("BaseExceptionGroup","BaseExceptionGroup"),("Exception","Exception"),("GeneratorExit","GeneratorExit"),("KeyboardInterrupt","KeyboardInterrupt"),("SystemExit","SystemExit"),("ArithmeticError","ArithmeticError"),("AssertionError","AssertionError"),("AttributeError","AttributeError"),("BufferError","BufferError"),("EOFError","EOFError"),("ImportError","ImportError"),("LookupError","LookupError"),("MemoryError","MemoryError"),("NameError","NameError"),("OSError","OSError"),("ReferenceError","ReferenceError"),("RuntimeError","RuntimeError"),("StopAsyncIteration","StopAsyncIteration"),("StopIteration","StopIteration"),("SyntaxError","SyntaxError"),("SystemError","SystemError"),("TypeError","TypeError"),("ValueError","ValueError"),("Warning","Warning"),("FloatingPointError","FloatingPointError"),("OverflowError","OverflowError"),("ZeroDivisionError","ZeroDivisionError"),("BytesWarning","BytesWarning"),("DeprecationWarning","DeprecationWarning"),("EncodingWarning","EncodingWarning"),("FutureWarning","FutureWarning")] (et P 114 [("ImportWarning","ImportWarning"),("PendingDeprecationWarning","PendingDeprecationWarning"),("ResourceWarning","ResourceWarning"),("RuntimeWarning","RuntimeWarning"),("SyntaxWarning","SyntaxWarning"),("UnicodeWarning","UnicodeWarning"),("UserWarning","UserWarning"),("BlockingIOError","BlockingIOError"),("ChildProcessError","ChildProcessError"),("ConnectionError","ConnectionError"),("FileExistsError","FileExistsError"),("FileNotFoundError","FileNotFoundError"),("InterruptedError","InterruptedError"),("IsADirectoryError","IsADirectoryError"),("NotADirectoryError","NotADirectoryError"),("PermissionError","PermissionError"),("ProcessLookupError","ProcessLookupError"),("TimeoutError","TimeoutError"),("IndentationError","IndentationError"),("_IncompleteInputError","_IncompleteInputError"),("IndexError","IndexError"),("KeyError","KeyError"),("ModuleNotFoundError","ModuleNotFoundError"),("NotImplementedError","NotImplementedError"),("PythonFinalizationError","PythonFinalizationError"),("RecursionError","RecursionError"),("UnboundLocalError","UnboundLocalError"),("UnicodeError","UnicodeError"),("BrokenPipeError","BrokenPipeError"),("ConnectionAbortedError","ConnectionAbortedError"),("ConnectionRefusedError","ConnectionRefusedError"),("ConnectionResetError","ConnectionResetError")] (et P 146 [("TabError","TabError"),("UnicodeDecodeError","UnicodeDecodeError"),("UnicodeEncodeError","UnicodeEncodeError"),("UnicodeTranslateError","UnicodeTranslateError"),("ExceptionGroup","ExceptionGroup"),("EnvironmentError","OSError"),("IOError","OSError")] (eb P 153 [("open","open"),("quit","builtins.quit#opaque"),("exit","builtins.exit#opaque"),("copyright","builtins.copyright#opaque"),("credits","builtins.credits#opaque"),("license","builtins.license#opaque"),("help","builtins.help#opaque")] [])))))))))) 159)::(dO [er P "builtins" 162 4,er P "__main__" 163 5] 2)::ac8::[]
def sg2 (P:Params):List Obj:={ cls:=.type "module",dict:=some 0 }::{ cls:=.type "module",dict:=some 3 }::{ cls:=.type "dict",data:=Data.dict #[] }::ot::oe::(fc #[.str "<module>" 176,.str "<module>" 177,cp 178,.int 1 0,.int 0 0,.int 0 0,.int 0 0,.int 0 0,.ref 7,.bool false,.int 175 0,.ref 8,.none,.none,.none,.none,.int 179 0,.int 1 0,cp 180])::(fr 9 3 mv0)::[]
def sg3 (P:Params):List Obj:=ot::[]
def sg5 (P:Params):List Obj:=(cc "<module>" "<module>" 182 1 11 185)::(fr 13 3 mv0)::[]
def sg6 (P:Params):List Obj:=ot::oe::(tn 190 ["k"])::ot::(po "_wall" "_wall" (top0 0))::abu::abt::ot::oe::(tn 205 ["amount"])::ot::(po "is_water" "is_water" (top0 5))::abr::abq::ot::oe::(po "is_name" "is_name" (top0 6))::abp::abo::(tq #[.type "ValueError"])::(bm "type.__prepare__" (.type "type"))::(dO [en P "__module__" 224 mv8,en P "__qualname__" 226 (.str "SluiceError" 225),en P "__firstlineno__" 228 (.int 13 227),er P "__static_attributes__" 229 41] 4)::ot::oe::(cc "SluiceError" "SluiceError" 219 13 37 222)::(fr 39 36 mv8)::ot::abn P::abm::abl::(su 43)::(bm "object.__init_subclass__" (.ref 43))::(tq #[.ref 43])::(bm "type.__prepare__" (.type "type"))::(dO [en P "__module__" 242 mv8,en P "__qualname__" 244 (.str "NoRiver" 243),en P "__firstlineno__" 246 (.int 15 245),er P "__static_attributes__" 247 54] 4)::ot::oe::(cc "NoRiver" "NoRiver" 237 15 50 240)::(fr 52 49 mv8)::ot::abk P::abj::(su 56)::(bm "object.__init_subclass__" (.ref 56))::(tq #[.ref 43])::(bm "type.__prepare__" (.type "type"))::(dO [en P "__module__" 258 mv8,en P "__qualname__" 260 (.str "NoReach" 259),en P "__firstlineno__" 262 (.int 17 261),er P "__static_attributes__" 263 66] 4)::ot::oe::(cc "NoReach" "NoReach" 253 17 62 256)::(fr 64 61 mv8)::ot::abh P::abg::(su 68)::(bm "object.__init_subclass__" (.ref 68))::(tq #[.ref 43])::(bm "type.__prepare__" (.type "type"))::(dO [en P "__module__" 274 mv8,en P "__qualname__" 276 (.str "NoLicence" 275),en P "__firstlineno__" 278 (.int 19 277),er P "__static_attributes__" 279 78] 4)::ot::oe::(cc "NoLicence" "NoLicence" 269 19 74 272)::(fr 76 73 mv8)::ot::abf P::abe::(su 80)::(bm "object.__init_subclass__" (.ref 80))::(tq #[.ref 43])::(bm "type.__prepare__" (.type "type"))::(dO [en P "__module__" 290 mv8,en P "__qualname__" 292 (.str "NoNumber" 291),en P "__firstlineno__" 294 (.int 21 293),er P "__static_attributes__" 295 90] 4)::ot::oe::(cc "NoNumber" "NoNumber" 285 21 86 288)::(fr 88 85 mv8)::ot::abd P::abb::(su 92)::(bm "object.__init_subclass__" (.ref 92))::(tq #[.ref 43])::(bm "type.__prepare__" (.type "type"))::(dO [en P "__module__" 306 mv8,en P "__qualname__" 308 (.str "NoHolder" 307),en P "__firstlineno__" 310 (.int 23 309),er P "__static_attributes__" 311 102] 4)::ot::oe::(cc "NoHolder" "NoHolder" 301 23 98 304)::(fr 100 97 mv8)::ot::Xn P::Xm::(su 104)::(bm "object.__init_subclass__" (.ref 104))::(tq #[.ref 43])::(bm "type.__prepare__" (.type "type"))::(dO [en P "__module__" 322 mv8,en P "__qualname__" 324 (.str "NotYours" 323),en P "__firstlineno__" 326 (.int 25 325),er P "__static_attributes__" 327 114] 4)::ot::oe::(cc "NotYours" "NotYours" 317 25 110 320)::(fr 112 109 mv8)::ot::Xl P::Xk::(su 116)::(bm "object.__init_subclass__" (.ref 116))::(tq #[.ref 43])::(bm "type.__prepare__" (.type "type"))::(dO [en P "__module__" 338 mv8,en P "__qualname__" 340 (.str "NotAlone" 339),en P "__firstlineno__" 342 (.int 27 341),er P "__static_attributes__" 343 126] 4)::ot::oe::(cc "NotAlone" "NotAlone" 333 27 122 336)::(fr 124 121 mv8)::ot::Xj P::Xi::(su 128)::(bm "object.__init_subclass__" (.ref 128))::(tq #[.ref 43])::(bm "type.__prepare__" (.type "type"))::(dO [en P "__module__" 354 mv8,en P "__qualname__" 356 (.str "TooMuch" 355),en P "__firstlineno__" 358 (.int 29 357),er P "__static_attributes__" 359 138] 4)::ot::oe::(cc "TooMuch" "TooMuch" 349 29 134 352)::(fr 136 133 mv8)::ot::Xh P::Xg::(su 140)::(bm "object.__init_subclass__" (.ref 140))::(tq #[.ref 43])::(bm "type.__prepare__" (.type "type"))::(dO [en P "__module__" 370 mv8,en P "__qualname__" 372 (.str "Full" 371),en P "__firstlineno__" 374 (.int 31 373),er P "__static_attributes__" 375 150] 4)::ot::oe::(cc "Full" "Full" 365 31 146 368)::(fr 148 145 mv8)::ot::Xf P::Xe::(su 152)::(bm "object.__init_subclass__" (.ref 152))::(tq #[.ref 43])::(bm "type.__prepare__" (.type "type"))::(dO [en P "__module__" 386 mv8,en P "__qualname__" 388 (.str "NoPaper" 387),en P "__firstlineno__" 390 (.int 33 389),er P "__static_attributes__" 391 162] 4)::ot::oe::(cc "NoPaper" "NoPaper" 381 33 158 384)::(fr 160 157 mv8)::ot::Xd P::Xc::(su 164)::(bm "object.__init_subclass__" (.ref 164))::(tq #[.ref 43])::(bm "type.__prepare__" (.type "type"))::(dO [en P "__module__" 402 mv8,en P "__qualname__" 404 (.str "NoPond" 403),en P "__firstlineno__" 406 (.int 35 405),er P "__static_attributes__" 407 174] 4)::ot::oe::(cc "NoPond" "NoPond" 397 35 170 400)::(fr 172 169 mv8)::ot::Xb P::Xa::(su 176)::(bm "object.__init_subclass__" (.ref 176))::(tq #[.ref 43])::(bm "type.__prepare__" (.type "type"))::(dO [en P "__module__" 418 mv8,en P "__qualname__" 420 (.str "NoDay" 419),en P "__firstlineno__" 422 (.int 37 421),er P "__static_attributes__" 423 186] 4)::ot::oe::(cc "NoDay" "NoDay" 413 37 182 416)::(fr 184 181 mv8)::ot::W9 P::W8::(su 188)::(bm "object.__init_subclass__" (.ref 188))::(tq #[.ref 43])::(bm "type.__prepare__" (.type "type"))::(dO [en P "__module__" 434 mv8,en P "__qualname__" 436 (.str "Fixed" 435),en P "__firstlineno__" 438 (.int 39 437),er P "__static_attributes__" 439 198] 4)::ot::oe::(cc "Fixed" "Fixed" 429 39 194 432)::(fr 196 193 mv8)::ot::W7 P::W6::(su 200)::(bm "object.__init_subclass__" (.ref 200))::(tq #[.ref 43])::(bm "type.__prepare__" (.type "type"))::(dO [en P "__module__" 450 mv8,en P "__qualname__" 452 (.str "Harms" 451),en P "__firstlineno__" 454 (.int 41 453),er P "__static_attributes__" 455 210] 4)::ot::oe::(cc "Harms" "Harms" 445 41 206 448)::(fr 208 205 mv8)::ot::W5 P::W4::(su 212)::(bm "object.__init_subclass__" (.ref 212))::(tq #[.ref 43])::(bm "type.__prepare__" (.type "type"))::(dO [en P "__module__" 466 mv8,en P "__qualname__" 468 (.str "NoRow" 467),en P "__firstlineno__" 470 (.int 43 469),er P "__static_attributes__" 471 222] 4)::ot::oe::(cc "NoRow" "NoRow" 461 43 218 464)::(fr 220 217 mv8)::ot::W3 P::W2::(su 224)::(bm "object.__init_subclass__" (.ref 224))::ot::oe::(tn 485 ["below","start","reach","step"])::ot::(po "comes_to_mouth" "comes_to_mouth" (top0 27))::W0::WY::[]
def sg7 (P:Params):List Obj:=ot::oe::(po "is_river" "is_river" (top0 28))::WX::WW::ot::oe::(tn 501 ["below","reach","way"])::ot::(po "way_of" "way_of" (top0 29))::WT::WR::ot::oe::(tn 510 ["below"])::(tn 511 ["below"])::(po "tops_first" "tops_first" (top0 30))::WQ::WM::ot::oe::(po "mouths_of" "mouths_of" (top0 31))::WL::WK::ot::oe::(tn 524 ["below","start","stop","way"])::ot::(po "stretch_of" "stretch_of" (top0 32))::WD::Wz::ot::oe::(tn 536 ["below","springs","flows","reach"])::ot::(po "natural_of" "natural_of" (top0 34))::Wy::Wx::ot::oe::(tn 546 ["below","springs","moves","flows","start","stop","amount","reach"])::ot::(po "flows_of" "flows_of" (top0 35))::Ww::Wv::ot::oe::(tn 564 ["below","one","day","start","back","most"])::ot::(po "is_licence" "is_licence" (top0 38))::Wu::Wt::ot::oe::(tn 576 ["below","one","day","start","back","most"])::ot::(po "reaches_of" "reaches_of" (top0 39))::Ws::Wr::ot::oe::(tn 588 ["one"])::ot::(po "day_filed" "day_filed" (top0 40))::Wq::Wo::ot::oe::(tn 595 ["one"])::ot::(po "start_of" "start_of" (top0 41))::Wn::Wm::ot::oe::(tn 602 ["one"])::ot::(po "gives_back" "gives_back" (top0 42))::Wk::Wj::ot::oe::(tn 609 ["one"])::ot::(po "most_of" "most_of" (top0 43))::Wi::Wh::ot::oe::(tn 616 ["one","start"])::ot::(po "with_start" "with_start" (top0 44))::Wg::Wf::ot::oe::(tn 624 ["one","most"])::ot::(po "with_most" "with_most" (top0 45))::Wd::Wc::ot::oe::(tn 632 ["roll"])::(tn 633 ["roll"])::(po "ranked" "ranked" (top0 46))::Wb::Wa::ot::oe::(tn 640 ["roll","groups","number"])::ot::(po "groups_of" "groups_of" (top0 47))::V9::V8::ot::oe::(po "wants_of" "wants_of" (top0 48))::V7::V6::ot::oe::(tn 657 ["free","ways","counts","way","reach"])::ot::(po "count_ways" "count_ways" (top0 50))::V5::V4::ot::oe::(po "whole_turns" "whole_turns" (top0 51))::V3::V2::ot::oe::(tn 674 ["left","way","drops","reach"])::ot::(po "draw" "draw" (top0 52))::V1::V0::ot::oe::(po "take_whole_turns" "take_whole_turns" (top0 53))::VR::VP::ot::oe::(po "take_one_turn" "take_one_turn" (top0 54))::VN::VL::ot::oe::(tn 696 ["free","ways","rests","left","takes","going"])::ot::(po "deal_turns" "deal_turns" (top0 55))::VJ::VH::ot::oe::(po "deal" "deal" (top0 57))::VG::VF::[]
def sg8 (P:Params):List Obj:=ot::oe::(tn 720 ["roll","pond","number","room","leak"])::ot::(po "pond_start" "pond_start" (top0 60))::VD::VB::ot::oe::(tn 731 ["below","roll","ponds","kept","let","place","reach","amount"])::ot::(po "look_at_let" "look_at_let" (top0 61))::Vz::Vy::ot::oe::(tn 745 ["below","roll","ponds","kept","lets","left","let","place","reach","amount"])::ot::(po "let_out" "let_out" (top0 62))::Vx::Vw::ot::oe::(tn 761 ["roll","ponds","kept","calls","lessened","pond","keeps","number","room","leak"])::ot::(po "pond_calls" "pond_calls" (top0 63))::Vv::Vu::ot::oe::(tn 777 ["ponds","kept","takes","after","lost","pond","keeps","number","room","leak","full","loss"])::ot::(po "evening" "evening" (top0 64))::Vt::Vs::ot::oe::(tn 797 ["below","roll","ponds","kept","calls","lets","left"])::ot::(po "morning_of" "morning_of" (top0 66))::Vr::Vq::ot::oe::(tn 810 ["roll","ponds","takes","lets","moves","one","take","day","start","back","most","place","reach","amount"])::ot::(po "moves_of" "moves_of" (top0 67))::Vp::Vo::ot::oe::(po "used_of" "used_of" (top0 68))::Vn::Vm::ot::oe::(po "day_of" "day_of" (top0 69))::Vl::Vk::ot::oe::(tn 844 ["roll","number","start","changed"])::ot::(po "moved" "moved" (top0 71))::Vj::Vi::ot::oe::(tn 854 ["below","roll","number","start","record","other_roll","day","one_day","springs","calls","all_calls","takes","other_takes","other","before","after"])::ot::(po "harm_of" "harm_of" (top0 72))::Vh::Vg::ot::oe::(tn 878 ["below","roll","takes","holds","one","take","reach"])::ot::(po "holds_of" "holds_of" (top0 74))::Vf::Ve::ot::oe::(po "free_of" "free_of" (top0 75))::Vd::Vc::ot::oe::(po "dry_of" "dry_of" (top0 77))::Vb::Va::ot::oe::(tn 907 ["roll","number","nth","other","mth"])::ot::(po "comes_ahead" "comes_ahead" (top0 79))::U9::U8::ot::oe::(po "stretches_of" "stretches_of" (top0 80))::U7::U6::ot::oe::(po "who_holds" "who_holds" (top0 81))::U5::U4::ot::oe::(po "all_ahead" "all_ahead" (top0 82))::U3::U0::ot::oe::(tn 936 ["roll","stretches","dry","takes","number","reach"])::ot::(po "first_showing" "first_showing" (top0 83))::UW::UL::ot::oe::(po "paper_of" "paper_of" (top0 84))::UJ::UG::ot::oe::(tn 958 ["name"])::ot::(po "look_at_name" "look_at_name" (top0 87))::Uz::Uy::[]
def sg9 (P:Params):List Obj:=ot::(bm "type.__prepare__" (.type "type"))::(dO [en P "__module__" 969 mv3,en P "__qualname__" 971 (.str "Roll" 970),en P "__firstlineno__" 973 (.int 286 972),er P "__init__" 981 539,er P "today" 988 546,er P "roll" 995 553,er P "holders" 1002 560,er P "deeds" 1009 567,er P "turn" 1016 574,er P "file" 1029 582,er P "sell" 1039 589,er P "part" 1051 596,er P "drop" 1060 603,er P "move" 1071 610,er P "look_move" 1080 617,er P "lapse" 1086 622,er P "enter" 1095 629,er P "is_alone" 1101 634,er P "look_at_number" 1109 641,er P "look_at_holder" 1118 648,er P "look_at_room" 1125 655,er P "__static_attributes__" 1131 656] 22)::ot::{ cls:=.none,data:=Data.fields #[.int 288 0,.int 4 0,.ref 538,.int 297 0,.int 4 0,.ref 545,.int 300 0,.int 4 0,.ref 552,.int 303 0,.int 4 0,.ref 559,.int 306 0,.int 4 0,.ref 566,.int 309 0,.int 4 0,.ref 573,.int 313 0,.int 4 0,.ref 581,.int 323 0,.int 4 0,.ref 588,.int 329 0,.int 4 0,.ref 595,.int 342 0,.int 4 0,.ref 602,.int 347 0,.int 4 0,.ref 609,.int 356 0,.int 4 0,.ref 616,.int 359 0,.int 4 0,.ref 621,.int 373 0,.int 4 0,.ref 628,.int 378 0,.int 4 0,.ref 633,.int 383 0,.int 4 0,.ref 640,.int 387 0,.int 4 0,.ref 647,.int 392 0,.int 4 0,.ref 654] }::(cc "Roll" "Roll" 964 286 529 967)::(fr 531 528 mv3)::ot::oe::(tn 977 ["self","below"])::ot::(po "__init__" "Roll.__init__" (inC 88 0))::Ux::Uw::ot::oe::(tn 985 ["self"])::ot::(po "today" "Roll.today" (inC 88 1))::Uv::Uu::ot::oe::(tn 992 ["self"])::ot::(po "roll" "Roll.roll" (inC 88 2))::Ut::Us::ot::oe::(tn 999 ["self"])::ot::(po "holders" "Roll.holders" (inC 88 3))::Ur::Uq::ot::oe::(tn 1006 ["self"])::ot::(po "deeds" "Roll.deeds" (inC 88 4))::Uo::Um::ot::oe::(tn 1013 ["self"])::ot::(po "turn" "Roll.turn" (inC 88 5))::Ul::Uk::Uj::ot::oe::(tn 1020 ["self","holder","start","most","back","stop","one"])::ot::(po "file" "Roll.file" (inC 88 6))::Ui::Uh::ot::oe::(tn 1033 ["self","number","holder","to"])::ot::(po "sell" "Roll.sell" (inC 88 7))::Ug::Ue::ot::oe::(tn 1043 ["self","number","holder","most","to","one"])::ot::(po "part" "Roll.part" (inC 88 8))::Ud::Uc::ot::oe::(tn 1055 ["self","number","holder"])::ot::(po "drop" "Roll.drop" (inC 88 9))::Ub::Ua::ot::oe::(tn 1064 ["self","number","holder","start","one"])::ot::(po "move" "Roll.move" (inC 88 10))::T9::T7::ot::oe::(tn 1075 ["self","number","start"])::ot::(po "look_move" "Roll.look_move" (inC 88 11))::T6::T5::ot::oe::(po "lapse" "Roll.lapse" (inC 88 12))::T4::T3::ot::oe::(tn 1090 ["self","one","holder"])::ot::(po "enter" "Roll.enter" (inC 88 13))::TY::TV::ot::oe::(po "is_alone" "Roll.is_alone" (inC 88 14))::TQ::TJ::ot::oe::(tn 1105 ["self","number"])::ot::(po "look_at_number" "Roll.look_at_number" (inC 88 15))::TF::Tw::ot::oe::(tn 1113 ["self","number","holder"])::ot::(po "look_at_holder" "Roll.look_at_holder" (inC 88 16))::Tv::Tt::ot::oe::(tn 1122 ["self"])::ot::(po "look_at_room" "Roll.look_at_room" (inC 88 17))::Tr::Tq::Tp::Tj P::[]
def Lh (P:Params):List Obj:=Ti::Tg::(su 658)::(bm "object.__init_subclass__" (.ref 658))::[]
def Pk (P:Params):List Obj:=ot::oe::(po "greatest_of" "greatest_of" (top0 91))::Tf::Te::(tq #[.ref 658])::(bm "type.__prepare__" (.type "type"))::(dO [en P "__module__" 1156 mv4,en P "__qualname__" 1158 (.str "Book" 1157),en P "__firstlineno__" 1160 (.int 400 1159),er P "__init__" 1168 681,er P "pond" 1180 689,er P "ponds" 1187 696,er P "kept" 1194 703,er P "has_pond" 1200 708,er P "run" 1218 716,er P "look_at_amounts" 1224 721,er P "record" 1230 726,er P "why" 1242 733,er P "look_move" 1251 740,er P "close" 1257 745,er P "__static_attributes__" 1263 746] 15)::ot::{ cls:=.none,data:=Data.fields #[.int 402 0,.int 4 0,.ref 680,.int 410 0,.int 4 0,.ref 688,.int 422 0,.int 4 0,.ref 695,.int 425 0,.int 4 0,.ref 702,.int 428 0,.int 4 0,.ref 707,.int 431 0,.int 4 0,.ref 715,.int 445 0,.int 4 0,.ref 720,.int 449 0,.int 4 0,.ref 725,.int 452 0,.int 4 0,.ref 732,.int 461 0,.int 4 0,.ref 739,.int 467 0,.int 4 0,.ref 744] }::(cc "Book" "Book" 1151 400 671 1154)::(fr 673 670 mv4)::ot::oe::(tn 1164 ["self","below"])::ot::(po "__init__" "Book.__init__" (inC 92 0))::Td::Tc::S9::ot::oe::(tn 1173 ["self","number","holder","room","leak"])::ot::(po "pond" "Book.pond" (inC 92 1))::S8::S7::ot::oe::(tn 1184 ["self"])::ot::(po "ponds" "Book.ponds" (inC 92 2))::S6::S5::ot::oe::(tn 1191 ["self"])::ot::(po "kept" "Book.kept" (inC 92 3))::SX::SQ::ot::oe::(po "has_pond" "Book.has_pond" (inC 92 4))::SN::SM::SJ::ot::oe::(tn 1204 ["self","springs","calls","lets","lets_told","left","dealt_by","told","takes","kept","flows","sheet"])::ot::(po "run" "Book.run" (inC 92 5))::Sy::Sx::ot::oe::(po "look_at_amounts" "Book.look_at_amounts" (inC 92 6))::Sw::Sv::ot::oe::(po "record" "Book.record" (inC 92 7))::Ss::Sq::ot::oe::(tn 1234 ["self","number","roll","takes","springs","calls"])::ot::(po "why" "Book.why" (inC 92 8))::Sg::Sd::ot::oe::(tn 1246 ["self","number","start"])::ot::(po "look_move" "Book.look_move" (inC 92 9))::R9::R8::ot::oe::(po "close" "Book.close" (inC 92 10))::R7::R6::(tn 1258 ["dug","greatest","keeps","last","ran"])::R5 P::R4::(su 748)::(bm "object.__init_subclass__" (.ref 748))::[]
def Yx (P:Params):List Obj:=ot::oe::(tn 1278 ["row","words"])::ot::(po "read_words" "read_words" (top0 97))::R3::RZ::ot::oe::(po "read_number" "read_number" (top0 98))::RW::RV::ot::oe::(tn 1292 ["word"])::ot::(po "read_name" "read_name" (top0 99))::RT::RQ::ot::oe::(tn 1299 ["number","pieces","left","last"])::ot::(po "show_number" "show_number" (top0 100))::RN::RM::ot::oe::(po "show_row" "show_row" (top0 101))::RL::RK::[]
def Zy (P:Params):List Obj:=RJ P::RG::Rz::Ry P::Rx::Rw::Ru::Rt::Rr::Rq::Rp::Ro::Rn::Rm::Rk::Rj::Ri::Rh::Rg::Rf::Rc::[]
def aaf (P:Params):List Obj:=ot::oe::(tn 1390 ["shapes","words","shape"])::ot::(po "shape_of" "shape_of" (top0 110))::Rb::Ra::ot::oe::(tn 1399 ["kind","word"])::ot::(po "read_word" "read_word" (top0 111))::Q9::Q8::ot::oe::(tn 1407 ["names","word"])::ot::(po "place_of" "place_of" (top0 112))::Q7::Q6::ot::oe::(po "show_rows" "show_rows" (top0 113))::Q5::Q0::ot::oe::(tn 1421 ["amount"])::ot::(po "look_at_amount" "look_at_amount" (top0 114))::QZ::QX::ot::oe::(tn 1428 ["desk","told","below"])::ot::(po "answer_reach" "answer_reach" (top0 115))::QW::QV::ot::oe::(tn 1437 ["desk","told"])::ot::(po "answer_begin" "answer_begin" (top0 116))::QT::QS::ot::oe::(tn 1445 ["desk","told","back"])::ot::(po "answer_file" "answer_file" (top0 117))::QM::QL::ot::oe::(tn 1454 ["desk","told"])::ot::(po "answer_sell" "answer_sell" (top0 118))::QK::QJ::ot::oe::(tn 1462 ["desk","told"])::ot::(po "answer_part" "answer_part" (top0 119))::QH::QG::ot::oe::(tn 1470 ["desk","told"])::ot::(po "answer_drop" "answer_drop" (top0 120))::QF::QD::ot::oe::(tn 1478 ["desk","told"])::ot::(po "answer_move" "answer_move" (top0 121))::QC::QB::ot::oe::(tn 1486 ["desk","told","leak"])::ot::(po "answer_pond" "answer_pond" (top0 122))::Qz::Qy::[]
def abS (P:Params):List Obj:=ot::oe::(tn 1495 ["desk","told"])::ot::(po "answer_turn" "answer_turn" (top0 123))::Qx::Qw::ot::oe::(tn 1503 ["desk","told"])::ot::(po "answer_rain" "answer_rain" (top0 124))::Qv::Qu::ot::oe::(tn 1511 ["desk","told"])::ot::(po "answer_call" "answer_call" (top0 125))::Qt::Qs::ot::oe::(tn 1519 ["desk","told","reach"])::ot::(po "answer_let" "answer_let" (top0 126))::Qq::Qp::ot::oe::(po "answer_run" "answer_run" (top0 127))::Qo::Qn::ot::oe::(tn 1534 ["desk"])::ot::(po "last_day" "last_day" (top0 128))::Qm::Ql::ot::oe::(tn 1541 ["desk","told","flows","sheet"])::ot::(po "answer_sheet" "answer_sheet" (top0 129))::Qk::Qj::ot::oe::(tn 1551 ["desk","told","flows","sheet"])::ot::(po "answer_flow" "answer_flow" (top0 130))::Qi::Qh::ot::oe::(tn 1561 ["desk","told","kept"])::ot::(po "answer_kept" "answer_kept" (top0 131))::Qg::Qf::ot::oe::(tn 1570 ["desk","told","paper","name","rows"])::ot::(po "answer_why" "answer_why" (top0 132))::Qe::Qd::ot::oe::(tn 1581 ["desk","told","fallen"])::ot::(po "answer_close" "answer_close" (top0 133))::Qc::Qa::ot::oe::(tn 1590 ["desk","told","roll","holder","day","start","back","most","start_name","back_name"])::ot::(po "answer_roll" "answer_roll" (top0 134))::JV::JT::[]
def acg (P:Params):List Obj:=JR P::(dO [er P "close" 1637 966,er P "roll" 1638 973] 2)::[]
def acT (P:Params):List Obj:=ot::(bm "type.__prepare__" (.type "type"))::(dO [en P "__module__" 1649 mv5,en P "__qualname__" 1651 (.str "Desk" 1650),en P "__firstlineno__" 1653 (.int 624 1652),er P "__init__" 1660 989,er P "say" 1666 994,er P "__static_attributes__" 1674 995] 6)::ot::{ cls:=.none,data:=Data.fields #[.int 626 0,.int 4 0,.ref 988,.int 635 0,.int 4 0,.ref 993] }::(cc "Desk" "Desk" 1644 624 979 1647)::(fr 981 978 mv5)::ot::oe::(tn 1657 ["self"])::ot::(po "__init__" "Desk.__init__" (inC 136 0))::JQ::JN::ot::oe::(po "say" "Desk.say" (inC 136 1))::JM::JL::(tn 1667 ["below","book","calls","last","lets","names","rains"])::JK P::JH::JG::JF::(su 997)::(bm "object.__init_subclass__" (.ref 997))::ot::oe::(tn 1687 ["script","k","cell"])::ot::(po "_law_nth" "_law_nth" (top0 138))::JD::JC::ot::oe::(tn 1696 ["cell","many","drawn","k","base"])::ot::(po "_law_draws" "_law_draws" (top0 139))::JB::Jz::ot::oe::(po "_law_names" "_law_names" (top0 140))::Jy::Jx::ot::oe::(tn 1713 ["xs","below","k"])::ot::(po "_law_river" "_law_river" (top0 141))::Jw::Jv::ot::oe::(tn 1722 ["e","found"])::ot::(po "_law_classes" "_law_classes" (top0 142))::Ju::Jt::[]
def sg19 (P:Params):List Obj:=ot::oe::(tn 1730 ["desk","row","caught","answer","e"])::ot::(po "_law_said" "_law_said" (top0 143))::Jr::Jq::ot::oe::(tn 1741 ["book","word","things"])::ot::(po "_law_given" "_law_given" (top0 144))::Jp::Jo::ot::oe::(tn 1750 ["book","word","things","caught","answer","e"])::ot::(po "_law_done" "_law_done" (top0 145))::Jm::Jl::ot::oe::(tn 1762 ["number","edges"])::ot::(po "_law_amount" "_law_amount" (top0 146))::Jk::Jj::ot::oe::(tn 1770 ["cell","owners","people","below","xs","word","number","holder","to","reach","things"])::ot::(po "_law_deed" "_law_deed" (top0 147))::Ji::Jh::ot::oe::(tn 1787 ["word","things","names","words","k","thing"])::ot::(po "_law_row" "_law_row" (top0 148))::Jg::Jf::ot::oe::(po "_law_line_right" "_law_line_right" (top0 149))::Je::Jd::ot::oe::(po "law" "law" (top0 150))::Jc::Jb::[]
def H0:Params->Heap:=fun P=>{ objs:=⟨sg0 P++(dO (en P "__name__" 165 mv0::Ny P) 9)::sg2 P++[]⟩ }
def Ha:Params->Heap:=fun P=>{ objs:=⟨sg0 P++(dO (en P "__name__" 165 mv0::Ny P) 9)::sg2 P++sg3 P++(fl Xz)::sg5 P++[]⟩ }
def Hb:Params->Heap:=fun P=>{ objs:=⟨sg0 P++(dO (en P "__name__" 165 mv0::Ny P) 9)::sg2 P++sg3 P++(fl Xz)::sg5 P++[]⟩ }
def Hm0:Params->Heap:=fun P=>{ objs:=⟨sg0 P++(dO (en P "__name__" 165 mv1::abG P) 34)::sg2 P++sg3 P++(fl Xy)::sg5 P++sg6 P++[]⟩ }
def Hm1:Params->Heap:=fun P=>{ objs:=⟨sg0 P++(dO (en P "__name__" 165 mv2::abE P) 61)::sg2 P++sg3 P++(fl Xx)::sg5 P++sg6 P++sg7 P++[]⟩ }
def Hm2:Params->Heap:=fun P=>{ objs:=⟨sg0 P++(dO (en P "__name__" 165 mv3::abD P) 83)::sg2 P++sg3 P++(fl Xw)::sg5 P++sg6 P++sg7 P++sg8 P++[]⟩ }
def Hm3:Params->Heap:=fun P=>{ objs:=⟨sg0 P++(dO (en P "__name__" 165 mv3::abC P) 84)::sg2 P++sg3 P++(fl Xv)::sg5 P++sg6 P++sg7 P++sg8 P++sg9 P++{ cls:=.type "type",data:=Data.cls { name:="Roll",bases:=[.type "object"],mro:=[.ref 658,.type "object"],ns:=657,qualname:="Roll" },slots:=#[none,none,some (.str "Roll" 962),some (.str "Roll" 970),some (.builtin "object.__new__"),some (.bool true)] }::Lh P++[]⟩ }
def Hm4:Params->Heap:=fun P=>{ objs:=⟨sg0 P++(dO (en P "__name__" 165 mv4::abB P) 87)::sg2 P++sg3 P++(fl Xu)::sg5 P++sg6 P++sg7 P++sg8 P++sg9 P++ux::Lh P++Pk P++[]⟩ }
def Hm5:Params->Heap:=fun P=>{ objs:=⟨sg0 P++(dO (en P "__name__" 165 mv5::abA P) 100)::sg2 P++sg3 P++(fl J7)::sg5 P++sg6 P++sg7 P++sg8 P++sg9 P++ux::Lh P++Pk P++Yx P++[]⟩ }
def Hm6:Params->Heap:=fun P=>{ objs:=⟨sg0 P++(dO (en P "__name__" 165 mv5::abz P) 102)::sg2 P++sg3 P++(fl J7)::sg5 P++sg6 P++sg7 P++sg8 P++sg9 P++ux::Lh P++Pk P++Yx P++Zy P++[]⟩ }
def Hm7:Params->Heap:=fun P=>{ objs:=⟨sg0 P++(dO (en P "__name__" 165 mv5::aby P) 115)::sg2 P++sg3 P++(fl Xr)::sg5 P++sg6 P++sg7 P++sg8 P++sg9 P++ux::Lh P++Pk P++Yx P++Zy P++aaf P++[]⟩ }
def Hm8:Params->Heap:=fun P=>{ objs:=⟨sg0 P++(dO (en P "__name__" 165 mv5::abx P) 127)::sg2 P++sg3 P++(fl J6)::sg5 P++sg6 P++sg7 P++sg8 P++sg9 P++ux::Lh P++Pk P++Yx P++Zy P++aaf P++abS P++[]⟩ }
def Hm9:Params->Heap:=fun P=>{ objs:=⟨sg0 P++(dO (en P "__name__" 165 mv5::XD P) 128)::sg2 P++sg3 P++(fl J6)::sg5 P++sg6 P++sg7 P++sg8 P++sg9 P++ux::Lh P++Pk P++Yx P++Zy P++aaf P++abS P++acg P++[]⟩ }
def adk:Params->Heap:=fun P=>{ objs:=⟨sg0 P++(dO (en P "__name__" 165 mv6::XC P) 134)::sg2 P++sg3 P++(fl Xq)::sg5 P++sg6 P++sg7 P++sg8 P++sg9 P++ux::Lh P++Pk P++Yx P++Zy P++aaf P++abS P++acg P++acT P++[]⟩ }
def H1:Params->Heap:=fun P=>{ objs:=⟨sg0 P++Js P::sg2 P++sg3 P++(fl Ze)::sg5 P++sg6 P++sg7 P++sg8 P++sg9 P++ux::Lh P++Pk P++Yx P++Zy P++aaf P++abS P++acg P++acT P++sg19 P++[]⟩ }
def Kf:Params->PySem.W.Frag:=fun P=>(nat_lit 2,ac8)::(nat_lit 3,Js P)::(nat_lit 20,abu)::(nat_lit 21,abt)::(nat_lit 27,abr)::(nat_lit 28,abq)::(nat_lit 32,abp)::(nat_lit 33,abo)::(nat_lit 42,abn P)::(nat_lit 43,abm)::(nat_lit 44,abl)::(nat_lit 55,abk P)::(nat_lit 56,abj)::(nat_lit 67,abh P)::(nat_lit 68,abg)::(nat_lit 79,abf P)::(nat_lit 80,abe)::(nat_lit 91,abd P)::(nat_lit 92,abb)::(nat_lit 103,Xn P)::(nat_lit 104,Xm)::(nat_lit 115,Xl P)::(nat_lit 116,Xk)::(nat_lit 127,Xj P)::(nat_lit 128,Xi)::(nat_lit 139,Xh P)::(nat_lit 140,Xg)::(nat_lit 151,Xf P)::(nat_lit 152,Xe)::(nat_lit 163,Xd P)::(nat_lit 164,Xc)::(nat_lit 175,Xb P)::(nat_lit 176,Xa)::(nat_lit 187,W9 P)::(nat_lit 188,W8)::(nat_lit 199,W7 P)::(nat_lit 200,W6)::(nat_lit 211,W5 P)::(nat_lit 212,W4)::(nat_lit 223,W3 P)::(nat_lit 224,W2)::(nat_lit 232,W0)::(nat_lit 233,WY)::(nat_lit 237,WX)::(nat_lit 238,WW)::(nat_lit 244,WT)::(nat_lit 245,WR)::(nat_lit 251,WQ)::(nat_lit 252,WM)::(nat_lit 256,WL)::(nat_lit 257,WK)::(nat_lit 263,WD)::(nat_lit 264,Wz)::(nat_lit 270,Wy)::(nat_lit 271,Wx)::(nat_lit 277,Ww)::(nat_lit 278,Wv)::(nat_lit 284,Wu)::(nat_lit 285,Wt)::(nat_lit 291,Ws)::(nat_lit 292,Wr)::(nat_lit 298,Wq)::(nat_lit 299,Wo)::(nat_lit 305,Wn)::(nat_lit 306,Wm)::(nat_lit 312,Wk)::(nat_lit 313,Wj)::(nat_lit 319,Wi)::(nat_lit 320,Wh)::(nat_lit 326,Wg)::(nat_lit 327,Wf)::(nat_lit 333,Wd)::(nat_lit 334,Wc)::(nat_lit 340,Wb)::(nat_lit 341,Wa)::(nat_lit 347,V9)::(nat_lit 348,V8)::(nat_lit 352,V7)::(nat_lit 353,V6)::(nat_lit 359,V5)::(nat_lit 360,V4)::(nat_lit 364,V3)::(nat_lit 365,V2)::(nat_lit 371,V1)::(nat_lit 372,V0)::(nat_lit 376,VR)::(nat_lit 377,VP)::(nat_lit 381,VN)::(nat_lit 382,VL)::(nat_lit 388,VJ)::(nat_lit 389,VH)::(nat_lit 393,VG)::(nat_lit 394,VF)::(nat_lit 400,VD)::(nat_lit 401,VB)::(nat_lit 407,Vz)::(nat_lit 408,Vy)::(nat_lit 414,Vx)::(nat_lit 415,Vw)::(nat_lit 421,Vv)::(nat_lit 422,Vu)::(nat_lit 428,Vt)::(nat_lit 429,Vs)::(nat_lit 435,Vr)::(nat_lit 436,Vq)::(nat_lit 442,Vp)::(nat_lit 443,Vo)::(nat_lit 447,Vn)::(nat_lit 448,Vm)::(nat_lit 452,Vl)::(nat_lit 453,Vk)::(nat_lit 459,Vj)::(nat_lit 460,Vi)::(nat_lit 466,Vh)::(nat_lit 467,Vg)::(nat_lit 473,Vf)::(nat_lit 474,Ve)::(nat_lit 478,Vd)::(nat_lit 479,Vc)::(nat_lit 483,Vb)::(nat_lit 484,Va)::(nat_lit 490,U9)::(nat_lit 491,U8)::(nat_lit 495,U7)::(nat_lit 496,U6)::(nat_lit 500,U5)::(nat_lit 501,U4)::(nat_lit 505,U3)::(nat_lit 506,U0)::(nat_lit 512,UW)::(nat_lit 513,UL)::(nat_lit 517,UJ)::(nat_lit 518,UG)::(nat_lit 524,Uz)::(nat_lit 525,Uy)::(nat_lit 538,Ux)::(nat_lit 539,Uw)::(nat_lit 545,Uv)::(nat_lit 546,Uu)::(nat_lit 552,Ut)::(nat_lit 553,Us)::(nat_lit 559,Ur)::(nat_lit 560,Uq)::(nat_lit 566,Uo)::(nat_lit 567,Um)::(nat_lit 573,Ul)::(nat_lit 574,Uk)::(nat_lit 575,Uj)::(nat_lit 581,Ui)::(nat_lit 582,Uh)::(nat_lit 588,Ug)::(nat_lit 589,Ue)::(nat_lit 595,Ud)::(nat_lit 596,Uc)::(nat_lit 602,Ub)::(nat_lit 603,Ua)::(nat_lit 609,T9)::(nat_lit 610,T7)::(nat_lit 616,T6)::(nat_lit 617,T5)::(nat_lit 621,T4)::(nat_lit 622,T3)::(nat_lit 628,TY)::(nat_lit 629,TV)::(nat_lit 633,TQ)::(nat_lit 634,TJ)::(nat_lit 640,TF)::(nat_lit 641,Tw)::(nat_lit 647,Tv)::(nat_lit 648,Tt)::(nat_lit 654,Tr)::(nat_lit 655,Tq)::(nat_lit 656,Tp)::(nat_lit 657,Tj P)::(nat_lit 658,ux)::(nat_lit 659,Ti)::(nat_lit 660,Tg)::(nat_lit 666,Tf)::(nat_lit 667,Te)::(nat_lit 680,Td)::(nat_lit 681,Tc)::(nat_lit 682,S9)::(nat_lit 688,S8)::(nat_lit 689,S7)::(nat_lit 695,S6)::(nat_lit 696,S5)::(nat_lit 702,SX)::(nat_lit 703,SQ)::(nat_lit 707,SN)::(nat_lit 708,SM)::(nat_lit 709,SJ)::(nat_lit 715,Sy)::(nat_lit 716,Sx)::(nat_lit 720,Sw)::(nat_lit 721,Sv)::(nat_lit 725,Ss)::(nat_lit 726,Sq)::(nat_lit 732,Sg)::(nat_lit 733,Sd)::(nat_lit 739,R9)::(nat_lit 740,R8)::(nat_lit 744,R7)::(nat_lit 745,R6)::(nat_lit 747,R5 P)::(nat_lit 748,R4)::(nat_lit 756,R3)::(nat_lit 757,RZ)::(nat_lit 761,RW)::(nat_lit 762,RV)::(nat_lit 768,RT)::(nat_lit 769,RQ)::(nat_lit 775,RN)::(nat_lit 776,RM)::(nat_lit 780,RL)::(nat_lit 781,RK)::(nat_lit 782,RJ P)::(nat_lit 783,RG)::(nat_lit 784,Rz)::(nat_lit 785,Ry P)::(nat_lit 786,Rx)::(nat_lit 787,Rw)::(nat_lit 788,Ru)::(nat_lit 789,Rt)::(nat_lit 790,Rr)::(nat_lit 791,Rq)::(nat_lit 792,Rp)::(nat_lit 793,Ro)::(nat_lit 794,Rn)::(nat_lit 795,Rm)::(nat_lit 796,Rk)::(nat_lit 797,Rj)::(nat_lit 798,Ri)::(nat_lit 799,Rh)::(nat_lit 800,Rg)::(nat_lit 801,Rf)::(nat_lit 802,Rc)::(nat_lit 808,Rb)::(nat_lit 809,Ra)::(nat_lit 815,Q9)::(nat_lit 816,Q8)::(nat_lit 822,Q7)::(nat_lit 823,Q6)::(nat_lit 827,Q5)::(nat_lit 828,Q0)::(nat_lit 834,QZ)::(nat_lit 835,QX)::(nat_lit 841,QW)::(nat_lit 842,QV)::(nat_lit 848,QT)::(nat_lit 849,QS)::(nat_lit 855,QM)::(nat_lit 856,QL)::(nat_lit 862,QK)::(nat_lit 863,QJ)::(nat_lit 869,QH)::(nat_lit 870,QG)::(nat_lit 876,QF)::(nat_lit 877,QD)::(nat_lit 883,QC)::(nat_lit 884,QB)::(nat_lit 890,Qz)::(nat_lit 891,Qy)::(nat_lit 897,Qx)::(nat_lit 898,Qw)::(nat_lit 904,Qv)::(nat_lit 905,Qu)::(nat_lit 911,Qt)::(nat_lit 912,Qs)::(nat_lit 918,Qq)::(nat_lit 919,Qp)::(nat_lit 923,Qo)::(nat_lit 924,Qn)::(nat_lit 930,Qm)::(nat_lit 931,Ql)::(nat_lit 937,Qk)::(nat_lit 938,Qj)::(nat_lit 944,Qi)::(nat_lit 945,Qh)::(nat_lit 951,Qg)::(nat_lit 952,Qf)::(nat_lit 958,Qe)::(nat_lit 959,Qd)::(nat_lit 965,Qc)::(nat_lit 966,Qa)::(nat_lit 972,JV)::(nat_lit 973,JT)::(nat_lit 974,JR P)::(nat_lit 988,JQ)::(nat_lit 989,JN)::(nat_lit 993,JM)::(nat_lit 994,JL)::(nat_lit 996,JK P)::(nat_lit 997,JH)::(nat_lit 998,JG)::(nat_lit 999,JF)::(nat_lit 1007,JD)::(nat_lit 1008,JC)::(nat_lit 1014,JB)::(nat_lit 1015,Jz)::(nat_lit 1019,Jy)::(nat_lit 1020,Jx)::(nat_lit 1026,Jw)::(nat_lit 1027,Jv)::(nat_lit 1033,Ju)::(nat_lit 1034,Jt)::(nat_lit 1040,Jr)::(nat_lit 1041,Jq)::(nat_lit 1047,Jp)::(nat_lit 1048,Jo)::(nat_lit 1054,Jm)::(nat_lit 1055,Jl)::(nat_lit 1061,Jk)::(nat_lit 1062,Jj)::(nat_lit 1068,Ji)::(nat_lit 1069,Jh)::(nat_lit 1075,Jg)::(nat_lit 1076,Jf)::(nat_lit 1080,Je)::(nat_lit 1081,Jd)::(nat_lit 1085,Jc)::(nat_lit 1086,Jb)::[]
noncomputable def asK:List Addr:=[2,3,20,21,27,28,32,33,42,43,44,55,56,67,68,79,80,91,92,103,104,115,116,127,128,139,140,151,152,163,164,175,176,187,188,199,200,211,212,223,224,232,233,237,238,244,245,251,252,256,257,263,264,270,271,277,278,284,285,291,292,298,299,305,306,312,313,319,320,326,327,333,334,340,341,347,348,352,353,359,360,364,365,371,372,376,377,381,382,388,389,393,394,400,401,407,408,414,415,421,422,428,429,435,436,442,443,447,448,452,453,459,460,466,467,473,474,478,479,483,484,490,491,495,496,500,501,505,506,512,513,517,518,524,525,538,539,545,546,552,553,559,560,566,567,573,574,575,581,582,588,589,595,596,602,603,609,610,616,617,621,622,628,629,633,634,640,641,647,648,654,655,656,657,658,659,660,666,667,680,681,682,688,689,695,696,702,703,707,708,709,715,716,720,721,725,726,732,733,739,740,744,745,747,748,756,757,761,762,768,769,775,776,780,781,782,783,784,785,786,787,788,789,790,791,792,793,794,795,796,797,798,799,800,801,802,808,809,815,816,822,823,827,828,834,835,841,842,848,849,855,856,862,863,869,870,876,877,883,884,890,891,897,898,904,905,911,912,918,919,923,924,930,931,937,938,944,945,951,952,958,959,965,966,972,973,974,988,989,993,994,996,997,998,999,1007,1008,1014,1015,1019,1020,1026,1027,1033,1034,1040,1041,1047,1048,1054,1055,1061,1062,1068,1069,1075,1076,1080,1081,1085,1086]
def tsK:List Addr:=[336,247]
theorem hkE:∀ P,asK=(Kf P).map (·.1):=fun _=>by kernel_rfl
noncomputable def qv:Program:={ PySem.Challenge.pw_sluice_k74_deeds_at_a_desk with main:={ PySem.Challenge.pw_sluice_k74_deeds_at_a_desk.main with body:=[top0 150] } }
def Ep:List Str:="_wall"::"MOST_WATER"::"LONGEST_NAME"::"LETTERS"::"is_water"::"is_name"::"SluiceError"::"NoRiver"::"NoReach"::"NoLicence"::"NoNumber"::"NoHolder"::"NotYours"::"NotAlone"::"TooMuch"::"Full"::"NoPaper"::"NoPond"::"NoDay"::"Fixed"::"Harms"::"NoRow"::"MOST_REACHES"::"MOUTH"::"comes_to_mouth"::"is_river"::"way_of"::"tops_first"::"mouths_of"::"stretch_of"::"natural_of"::"flows_of"::"LAST_DAY"::"is_licence"::"reaches_of"::"day_filed"::"start_of"::"gives_back"::"most_of"::"with_start"::"with_most"::"ranked"::"groups_of"::"wants_of"::"count_ways"::"whole_turns"::"draw"::"take_whole_turns"::"take_one_turn"::"deal_turns"::"deal"::"WHOLE"::"pond_start"::"look_at_let"::"let_out"::"pond_calls"::"evening"::"morning_of"::"moves_of"::"used_of"::"day_of"::"moved"::"harm_of"::"holds_of"::"free_of"::"dry_of"::"comes_ahead"::"stretches_of"::"who_holds"::"all_ahead"::"first_showing"::"paper_of"::"MOST_LICENCES"::"look_at_name"::"Roll"::"MOST_PONDS"::"greatest_of"::"Book"::"FIGURES"::"MOST_FIGURES"::"PIECE"::"read_words"::"read_number"::"read_name"::"show_number"::"show_row"::"MOST_LETS"::"OK"::"NUMBER"::"NAME"::"REACH"::"AHEAD"::"BEHIND"::"shape_of"::"read_word"::"place_of"::"show_rows"::"look_at_amount"::"answer_reach"::"answer_begin"::"answer_file"::"answer_sell"::"answer_part"::"answer_drop"::"answer_move"::"answer_pond"::"answer_turn"::"answer_rain"::"answer_call"::"answer_let"::"answer_run"::"last_day"::"answer_sheet"::"answer_flow"::"answer_kept"::"answer_why"::"answer_close"::"answer_roll"::"ANSWERS"::"Desk"::"_law_nth"::"_law_draws"::"_law_names"::"_law_river"::"_law_classes"::"_law_said"::"_law_given"::"_law_done"::"_law_amount"::"_law_deed"::"_law_row"::"_law_line_right"::[]
end
noncomputable section
noncomputable def PG:Program:=PySem.Challenge.rw_sluice_k74_deeds_at_a_desk.row.toRowW.prog
noncomputable def zs (h:Heap)(k:Nat)(o:OsState):Shared:=⟨h,#[],{},k,o⟩
theorem hp1:∀ w:World,(PySem.W.fencedOpening PySem.treeTable PG w 17844).map (fun s=>(s.heap,s.gens,s.drawn,s.toks))=some (H0 w.params,#[],{},181):=by
 intro w;kernel_rfl
theorem hp2:∀ w:World,((H0 w.params).isNs mainGlobals&& (#[]:Array GenState).size ==0,(H0 w.params).objs.size,(H0 w.params).nsMap mainGlobals "__annotations__")=(true,11,some (Value.ref 6)):=by
 intro w;kernel_rfl
def BI:List Stmt:=PySem.W.behindTheImports PG
def evT:Env:={ scope:=PG.main.scope,locals:=mainNs,globals:=mainNs,cells:=[],code:=Value.ref 13,frame:=some 14 }
def cT:Code:=.body BI evT
theorem hp3a:∀ (w:World)(os:OsState),PySem.W.topGo PySem.treeTable PG w 11 (some (Value.ref 6)) 12 (zs (H0 w.params) 181 os) (topStub PG)=some ((zs (Ha w.params) 187 os),⟨denote PySem.treeTable cT,cT,(⟨0,0,0,0⟩:Pos),[topFrame (⟨0,0,0,0⟩:Pos)]⟩):=by
 intro w os;kernel_rfl
theorem hp3b:∀ (w:World)(os:OsState),segRun PySem.treeTable PG w 11 (some (Value.ref 6)) 1 20 (zs (Ha w.params) 187 os) (PySem.W.blockOf BI evT cT (⟨0,0,0,0⟩:Pos) [topFrame (⟨0,0,0,0⟩:Pos)])=some (.next,(zs (Hb w.params) 187 os),cT,(⟨0,0,0,0⟩:Pos)):=by
 intro w os;kernel_rfl
set_option hygiene false in
local macro_rules | `(tactic| walk_at "row") => `(tactic| (have e := PySem.World.withFollow_self w "special-get-raises"; cases hb : w.params.followText "special-get-raises" <;> rw [hb] at e <;> rw [<- e] <;> kernel_rfl))
theorem hq1:∀ (w:World)(os:OsState),segRun PySem.treeTable PG w 11 (some (Value.ref 6)) 1 3774 (zs (Hb w.params) 187 os) (piecesOf (BI.take 28) evT cT (⟨0,0,0,0⟩:Pos) [topFrame (⟨0,0,0,0⟩:Pos)])=some (.next,(zs (Hm0 w.params) 492 os),cT,(⟨48,0,54,16⟩:Pos)):=by
 intro w os;kernel_rfl
theorem hq2:∀ (w:World)(os:OsState),segRun PySem.treeTable PG w 11 (some (Value.ref 6)) 1 1010 (zs (Hm0 w.params) 492 os) (piecesOf ((BI.drop 28).take 32) evT cT (⟨48,0,54,16⟩:Pos) [topFrame (⟨0,0,0,0⟩:Pos)])=some (.next,(zs (Hm1 w.params) 717 os),cT,(⟨169,0,169,5⟩:Pos)):=by
 intro w os;kernel_rfl
theorem hq3:∀ (w:World)(os:OsState),segRun PySem.treeTable PG w 11 (some (Value.ref 6)) 1 940 (zs (Hm1 w.params) 717 os) (piecesOf (((BI.drop 28).drop 32).take 28) evT cT (⟨169,0,169,5⟩:Pos) [topFrame (⟨0,0,0,0⟩:Pos)])=some (.next,(zs (Hm2 w.params) 962 os),cT,(⟨283,0,285,78⟩:Pos)):=by
 intro w os;kernel_rfl
theorem hq4:∀ (w:World)(os:OsState),segRun PySem.treeTable PG w 11 (some (Value.ref 6)) 1 975 (zs (Hm2 w.params) 962 os) (piecesOf ((((BI.drop 28).drop 32).drop 28).take 1) evT cT (⟨283,0,285,78⟩:Pos) [topFrame (⟨0,0,0,0⟩:Pos)])=some (.next,(zs (Hm3 w.params) 1139 os),cT,(⟨286,0,394,67⟩:Pos)):=by
 intro w os;kernel_rfl
theorem hq5:∀ (w:World)(os:OsState),segRun PySem.treeTable PG w 11 (some (Value.ref 6)) 1 816 (zs (Hm3 w.params) 1139 os) (piecesOf (((((BI.drop 28).drop 32).drop 28).drop 1).take 4) evT cT (⟨286,0,394,67⟩:Pos) [topFrame (⟨0,0,0,0⟩:Pos)])=some (.next,(zs (Hm4 w.params) 1267 os),cT,(⟨400,0,471,21⟩:Pos)):=by
 intro w os;kernel_rfl
theorem hq6:∀ (w:World)(os:OsState),segRun PySem.treeTable PG w 11 (some (Value.ref 6)) 1 433 (zs (Hm4 w.params) 1267 os) (piecesOf ((((((BI.drop 28).drop 32).drop 28).drop 1).drop 4).take 15) evT cT (⟨400,0,471,21⟩:Pos) [topFrame (⟨0,0,0,0⟩:Pos)])=some (.next,(zs (Hm5 w.params) 1324 os),cT,(⟨508,0,508,5⟩:Pos)):=by
 intro w os;kernel_rfl
theorem hq7:∀ (w:World)(os:OsState),segRun PySem.treeTable PG w 11 (some (Value.ref 6)) 1 548 (zs (Hm5 w.params) 1324 os) (piecesOf (((((((BI.drop 28).drop 32).drop 28).drop 1).drop 4).drop 15).take 2) evT cT (⟨508,0,508,5⟩:Pos) [topFrame (⟨0,0,0,0⟩:Pos)])=some (.next,(zs (Hm6 w.params) 1387 os),cT,(⟨510,0,510,6⟩:Pos)):=by
 intro w os;walk_at "row"
theorem hq8:∀ (w:World)(os:OsState),segRun PySem.treeTable PG w 11 (some (Value.ref 6)) 1 589 (zs (Hm6 w.params) 1387 os) (piecesOf ((((((((BI.drop 28).drop 32).drop 28).drop 1).drop 4).drop 15).drop 2).take 13) evT cT (⟨510,0,510,6⟩:Pos) [topFrame (⟨0,0,0,0⟩:Pos)])=some (.next,(zs (Hm7 w.params) 1492 os),cT,(⟨555,0,557,70⟩:Pos)):=by
 intro w os;kernel_rfl
theorem hq9:∀ (w:World)(os:OsState),segRun PySem.treeTable PG w 11 (some (Value.ref 6)) 1 573 (zs (Hm7 w.params) 1492 os) (piecesOf (((((((((BI.drop 28).drop 32).drop 28).drop 1).drop 4).drop 15).drop 2).drop 13).take 12) evT cT (⟨555,0,557,70⟩:Pos) [topFrame (⟨0,0,0,0⟩:Pos)])=some (.next,(zs (Hm8 w.params) 1603 os),cT,(⟨614,0,622,60⟩:Pos)):=by
 intro w os;kernel_rfl
theorem hq10:∀ (w:World)(os:OsState),segRun PySem.treeTable PG w 11 (some (Value.ref 6)) 1 533 (zs (Hm8 w.params) 1603 os) (piecesOf ((((((((((BI.drop 28).drop 32).drop 28).drop 1).drop 4).drop 15).drop 2).drop 13).drop 12).take 1) evT cT (⟨614,0,622,60⟩:Pos) [topFrame (⟨0,0,0,0⟩:Pos)])=some (.next,(zs (Hm9 w.params) 1642 os),cT,(⟨623,0,623,7⟩:Pos)):=by
 intro w os;walk_at "row"
theorem hq11:∀ (w:World)(os:OsState),segRun PySem.treeTable PG w 11 (some (Value.ref 6)) 1 615 (zs (Hm9 w.params) 1642 os) (piecesOf (((((((((((BI.drop 28).drop 32).drop 28).drop 1).drop 4).drop 15).drop 2).drop 13).drop 12).drop 1).take 7) evT cT (⟨623,0,623,7⟩:Pos) [topFrame (⟨0,0,0,0⟩:Pos)])=some (.next,(zs (adk w.params) 1727 os),cT,(⟨665,0,669,93⟩:Pos)):=by
 intro w os;kernel_rfl
theorem hr11:∀ (w:World)(os:OsState),topRun PySem.treeTable PG w 11 (some (Value.ref 6)) 453 (zs (adk w.params) 1727 os) (restOf (((((((((((BI.drop 28).drop 32).drop 28).drop 1).drop 4).drop 15).drop 2).drop 13).drop 12).drop 1).drop 7) evT cT (⟨665,0,669,93⟩:Pos) [topFrame (⟨0,0,0,0⟩:Pos)])=some (zs (H1 w.params) 1808 os):=by
 intro w os;kernel_rfl
theorem hr10:∀ (w:World)(os:OsState),topRun PySem.treeTable PG w 11 (some (Value.ref 6)) (615+453) (zs (Hm9 w.params) 1642 os) (restOf ((((((((((BI.drop 28).drop 32).drop 28).drop 1).drop 4).drop 15).drop 2).drop 13).drop 12).drop 1) evT cT (⟨623,0,623,7⟩:Pos) [topFrame (⟨0,0,0,0⟩:Pos)])=some (zs (H1 w.params) 1808 os):=fun w os=>by
 have h:=ad8 (hq11 w os) (hr11 w os);rwa [adX] at h
theorem hr9:∀ (w:World)(os:OsState),topRun PySem.treeTable PG w 11 (some (Value.ref 6)) (533+(615+453)) (zs (Hm8 w.params) 1603 os) (restOf (((((((((BI.drop 28).drop 32).drop 28).drop 1).drop 4).drop 15).drop 2).drop 13).drop 12) evT cT (⟨614,0,622,60⟩:Pos) [topFrame (⟨0,0,0,0⟩:Pos)])=some (zs (H1 w.params) 1808 os):=fun w os=>by
 have h:=ad8 (hq10 w os) (hr10 w os);rwa [adX] at h
theorem hr8:∀ (w:World)(os:OsState),topRun PySem.treeTable PG w 11 (some (Value.ref 6)) (573+(533+(615+453))) (zs (Hm7 w.params) 1492 os) (restOf ((((((((BI.drop 28).drop 32).drop 28).drop 1).drop 4).drop 15).drop 2).drop 13) evT cT (⟨555,0,557,70⟩:Pos) [topFrame (⟨0,0,0,0⟩:Pos)])=some (zs (H1 w.params) 1808 os):=fun w os=>by
 have h:=ad8 (hq9 w os) (hr9 w os);rwa [adX] at h
theorem hr7:∀ (w:World)(os:OsState),topRun PySem.treeTable PG w 11 (some (Value.ref 6)) (589+(573+(533+(615+453)))) (zs (Hm6 w.params) 1387 os) (restOf (((((((BI.drop 28).drop 32).drop 28).drop 1).drop 4).drop 15).drop 2) evT cT (⟨510,0,510,6⟩:Pos) [topFrame (⟨0,0,0,0⟩:Pos)])=some (zs (H1 w.params) 1808 os):=fun w os=>by
 have h:=ad8 (hq8 w os) (hr8 w os);rwa [adX] at h
theorem hr6:∀ (w:World)(os:OsState),topRun PySem.treeTable PG w 11 (some (Value.ref 6)) (548+(589+(573+(533+(615+453))))) (zs (Hm5 w.params) 1324 os) (restOf ((((((BI.drop 28).drop 32).drop 28).drop 1).drop 4).drop 15) evT cT (⟨508,0,508,5⟩:Pos) [topFrame (⟨0,0,0,0⟩:Pos)])=some (zs (H1 w.params) 1808 os):=fun w os=>by
 have h:=ad8 (hq7 w os) (hr7 w os);rwa [adX] at h
theorem hr5:∀ (w:World)(os:OsState),topRun PySem.treeTable PG w 11 (some (Value.ref 6)) (433+(548+(589+(573+(533+(615+453)))))) (zs (Hm4 w.params) 1267 os) (restOf (((((BI.drop 28).drop 32).drop 28).drop 1).drop 4) evT cT (⟨400,0,471,21⟩:Pos) [topFrame (⟨0,0,0,0⟩:Pos)])=some (zs (H1 w.params) 1808 os):=fun w os=>by
 have h:=ad8 (hq6 w os) (hr6 w os);rwa [adX] at h
theorem hr4:∀ (w:World)(os:OsState),topRun PySem.treeTable PG w 11 (some (Value.ref 6)) (816+(433+(548+(589+(573+(533+(615+453))))))) (zs (Hm3 w.params) 1139 os) (restOf ((((BI.drop 28).drop 32).drop 28).drop 1) evT cT (⟨286,0,394,67⟩:Pos) [topFrame (⟨0,0,0,0⟩:Pos)])=some (zs (H1 w.params) 1808 os):=fun w os=>by
 have h:=ad8 (hq5 w os) (hr5 w os);rwa [adX] at h
theorem hr3:∀ (w:World)(os:OsState),topRun PySem.treeTable PG w 11 (some (Value.ref 6)) (975+(816+(433+(548+(589+(573+(533+(615+453)))))))) (zs (Hm2 w.params) 962 os) (restOf (((BI.drop 28).drop 32).drop 28) evT cT (⟨283,0,285,78⟩:Pos) [topFrame (⟨0,0,0,0⟩:Pos)])=some (zs (H1 w.params) 1808 os):=fun w os=>by
 have h:=ad8 (hq4 w os) (hr4 w os);rwa [adX] at h
theorem hr2:∀ (w:World)(os:OsState),topRun PySem.treeTable PG w 11 (some (Value.ref 6)) (940+(975+(816+(433+(548+(589+(573+(533+(615+453))))))))) (zs (Hm1 w.params) 717 os) (restOf ((BI.drop 28).drop 32) evT cT (⟨169,0,169,5⟩:Pos) [topFrame (⟨0,0,0,0⟩:Pos)])=some (zs (H1 w.params) 1808 os):=fun w os=>by
 have h:=ad8 (hq3 w os) (hr3 w os);rwa [adX] at h
theorem hr1:∀ (w:World)(os:OsState),topRun PySem.treeTable PG w 11 (some (Value.ref 6)) (1010+(940+(975+(816+(433+(548+(589+(573+(533+(615+453)))))))))) (zs (Hm0 w.params) 492 os) (restOf (BI.drop 28) evT cT (⟨48,0,54,16⟩:Pos) [topFrame (⟨0,0,0,0⟩:Pos)])=some (zs (H1 w.params) 1808 os):=fun w os=>by
 have h:=ad8 (hq2 w os) (hr2 w os);rwa [adX] at h
theorem hr0:∀ (w:World)(os:OsState),topRun PySem.treeTable PG w 11 (some (Value.ref 6)) (3774+(1010+(940+(975+(816+(433+(548+(589+(573+(533+(615+453))))))))))) (zs (Hb w.params) 187 os) (restOf BI evT cT (⟨0,0,0,0⟩:Pos) [topFrame (⟨0,0,0,0⟩:Pos)])=some (zs (H1 w.params) 1808 os):=fun w os=>by
 have h:=ad8 (hq1 w os) (hr1 w os);rwa [adX] at h
theorem hp3:∀ (w:World)(os:OsState),topRun PySem.treeTable PG w 11 (some (Value.ref 6)) (12+(20+(3774+(1010+(940+(975+(816+(433+(548+(589+(573+(533+(615+453))))))))))))) (zs (H0 w.params) 181 os) (topStub PG)=some (zs (H1 w.params) 1808 os):=fun w os=>PySem.W.go_top (hp3a w os) (PySem.W.piece_block (hp3b w os) (hr0 w os))
theorem hp4:∀ w:World,(fun os=>((PySem.W.staticsOk (importedModules PG.main.body) (H0 w.params) (H1 w.params) && PySem.W.namesBound PG (H1 w.params) && PySem.W.gensDone (zs (H1 w.params) 1808 os) && PySem.W.laidKept (H0 w.params) (H1 w.params)),PySem.W.openSeen qv Ep (importedModules PG.main.body) (fun s=>xlAt My.qv [] s&& recOk (PySem.W.RowW.records PySem.Challenge.rw_sluice_k74_deeds_at_a_desk.row.toRowW) s) true (zs (H1 w.params) 1808 os),(PySem.W.Hook.obs (kmHook My.Kf My.asK My.hkE My.tsK)) (zs (H1 w.params) 1808 os)))=fun _=>(true,PySem.W.openGood qv Ep,(PySem.W.Hook.val (kmHook My.Kf My.asK My.hkE My.tsK)) w):=by
 intro w;kernel_rfl
theorem anB {a b:Bool}(h:a=true)(k:b=true):(a&& b)=true:=by rw [h,k];rfl
theorem ws2:PySem.W.namesResolve (PySem.W.OpenLaw.row PySem.Challenge.rw_sluice_k74_deeds_at_a_desk).prog=true:=by
 skip;kernel_rfl
theorem ws5:PySem.W.namesMeet (PySem.W.OpenLaw.row PySem.Challenge.rw_sluice_k74_deeds_at_a_desk).prog (PySem.W.OpenLaw.row PySem.Challenge.rw_sluice_k74_deeds_at_a_desk).prog.main.body (fun _ n=>PySem.W.attrL n)=true:=by
 skip;kernel_rfl
theorem ws0:PySem.W.OpenRow.wellSaid (PySem.W.OpenLaw.row PySem.Challenge.rw_sluice_k74_deeds_at_a_desk)=true:=by
 unfold PySem.W.OpenRow.wellSaid PySem.W.OpenRow.partSaid PySem.W.looksOpen
 repeat' (with_reducible refine anB ?_ ?_)
 all_goals first| with_reducible exact ws2| with_reducible exact ws5| (skip;kernel_rfl)
theorem wsq:PySem.W.OpenLaw.wellSaid PySem.Challenge.rw_sluice_k74_deeds_at_a_desk=true:=by
 unfold PySem.W.OpenLaw.wellSaid
 repeat' (with_reducible refine anB ?_ ?_)
 exact ws0
 all_goals (skip;kernel_rfl)
theorem hlE:PySem.W.LeftO PySem.Challenge.rw_sluice_k74_deeds_at_a_desk.row.toRowW.prog qv My.Ep (fun s=>xlAt My.qv [] s&& recOk (PySem.W.RowW.records PySem.Challenge.rw_sluice_k74_deeds_at_a_desk.row.toRowW) s) (PySem.W.Hook.obs (kmHook My.Kf My.asK My.hkE My.tsK)) (PySem.W.Hook.val (kmHook My.Kf My.asK My.hkE My.tsK)) 17844:=PySem.W.LeftO.of_pieces hp1 hp2 hp3 (by decide) hp4
end
end My
abbrev Fa:=PySem.W.Frag
abbrev Ff:=PySem.FuncData
abbrev Fh:=PySem.Str→Option PySem.Value
abbrev Fk:=List (PySem.Addr × PySem.Obj)
abbrev Fm:=PySem.Value→PySem.Shared→Prop
abbrev Fn:=List Nat
namespace L2
open PySem PySem.Spec PyProof.Rows
abbrev Key:=Sum Int Str
def Gj:Key->Value->Bool
 | .inl k,v=>Value.isInt k v
 | .inr x,v=>Value.isStrOf x v
def keyH (w:World):Key->Int
 | .inl k=>hashInt k
 | .inr x=>hashStr w x
theorem dY:∀ {k:Key}{v:Value},Gj k v=true->(∃ i t,k=Sum.inl i/\v=Value.int i t)\/(∃ x t,k=Sum.inr x/\v=Value.str x t)
 | .inl i,v,h=>by
  obtain ⟨t,e⟩:=Value.isInt_shape (k:=i) (v:=v) h;exact .inl ⟨i,t,rfl,e⟩
 | .inr x,v,h=>by
  obtain ⟨t,e⟩:=Value.isStrOf_shape (x:=x) (v:=v) h;exact .inr ⟨x,t,rfl,e⟩
theorem Iz (i:Int)(t:Tok):Gj (.inl i) (.int i t)=true:=by simp [Gj,Value.isInt]
theorem Iw (x:Str)(t:Tok):Gj (.inr x) (.str x t)=true:=by simp [Gj,Value.isStrOf]
theorem aa3 (a b:Int):decide ((Sum.inl a:Key)=Sum.inl b)=(a ==b):=by
 by_cases e:a=b
 ·subst e;simp
 ·have h:¬ (Sum.inl a:Key)=Sum.inl b:=fun q=>e (Sum.inl.inj q);rw [decide_eq_false h];exact (beq_eq_false_iff_ne.mpr e).symm
theorem aa0 (a b:Str):decide ((Sum.inr a:Key)=Sum.inr b)=decide (a=b):=by
 by_cases e:a=b
 ·subst e;simp
 ·have h:¬ (Sum.inr a:Key)=Sum.inr b:=fun q=>e (Sum.inr.inj q);rw [decide_eq_false h,decide_eq_false e]
theorem aa2 (a:Int)(b:Str):decide ((Sum.inl a:Key)=Sum.inr b)=false:=decide_eq_false (fun q=>nomatch q)
theorem aa1 (a:Str)(b:Int):decide ((Sum.inr a:Key)=Sum.inl b)=false:=decide_eq_false (fun q=>nomatch q)
def jJ (prog:Program)(w:World):PySem.KeyKind prog w Key where
 is:=Gj;hash:=keyH w;inj:=fun v a b ha hb=>by
  rcases dY ha with ⟨i,t,rfl,rfl⟩ | ⟨x,t,rfl,rfl⟩
  ·rcases dY hb with ⟨j,u,rfl,e⟩ | ⟨y,u,rfl,e⟩
   ·injection e with e1 _;rw [e1]
   ·exact nomatch e
  ·rcases dY hb with ⟨j,u,rfl,e⟩ | ⟨y,u,rfl,e⟩
   ·exact nomatch e
   ·injection e with e1 _;rw [e1]
 byValue:=fun k v h=>by
  rcases dY h with ⟨i,t,rfl,rfl⟩ | ⟨x,t,rfl,rfl⟩<;>rfl
 pyHash:=fun hv h=>by
  rcases dY hv with ⟨i,t,rfl,rfl⟩ | ⟨x,t,rfl,rfl⟩
  ·exact wpAny_pyHash_int h
  ·exact wpAny_pyHash_str h
 eqBool:=fun hu hv h=>by
  rcases dY hu with ⟨i,t,rfl,rfl⟩ | ⟨x,t,rfl,rfl⟩
  ·rcases dY hv with ⟨j,u,rfl,rfl⟩ | ⟨y,u,rfl,rfl⟩
   ·rw [aa3] at h;exact wpAny_eqBool_int h
   ·rw [aa2] at h;exact SeqAt.EqAt.int_str i t y u _ _ _ _ h
  ·rcases dY hv with ⟨j,u,rfl,rfl⟩ | ⟨y,u,rfl,rfl⟩
   ·rw [aa1] at h;exact SeqAt.EqAt.str_int x t j u _ _ _ _ h
   ·rw [aa0] at h;exact wpAny_eqBool_str h
 «strs»:=fun k x t v h=>by
  rcases dY h with ⟨i,u,rfl,e⟩ | ⟨y,u,rfl,e⟩
  ·exact nomatch e
  ·injection e with e1 _;subst e1;cases v <;>rfl
theorem CG (prog:Program)(w:World)(i:Int)(t:Tok):(jJ prog w).is (.inl i) (.int i t)=true:=Iz i t
theorem rH (prog:Program)(w:World)(x:Str)(t:Tok):(jJ prog w).is (.inr x) (.str x t)=true:=Iw x t
inductive V where
 | non| bl (b:Bool) | int (i:Int) | str (x:Str) | byt (b:Array UInt8) | flt (b:UInt64) | ref (a:Addr) | ty (n:String)
 deriving DecidableEq
abbrev Fs:=List V
def RelV:V->Value->Prop
 | .non,u=>u=Value.none
 | .bl b,u=>u=Value.bool b
 | .int i,u=>∃ t,u=Value.int i t
 | .str x,u=>∃ t,u=Value.str x t
 | .byt b,u=>∃ t,u=Value.bytes b t
 | .flt b,u=>∃ t,u=Value.float b t
 | .ref a,u=>u=Value.ref a
 | .ty n,u=>u=Value.type n
abbrev Vals:Fs->List Value->Prop:=Paired RelV
theorem Vals.length {xs:Fs}{us:List Value}(r:Vals xs us):xs.length=us.length:=Paired.length r
theorem Vals.get:∀ {xs:Fs}{us:List Value}{i:Nat}{x:V},Vals xs us->xs[i]?=some x->∃ u,us[i]?=some u/\RelV x u
 | _,_,_,_,.nil,e=>by simp at e
 | _,_,0,_,.cons r _,e=>by simp at e;subst e;exact ⟨_,rfl,r⟩
 | _,_,i+1,x,.cons _ t,e=>by
  obtain ⟨u,h1,h2⟩:=Vals.get (i:=i) (x:=x) t (by simpa using e);exact ⟨u,by simpa using h1,h2⟩
theorem Vals.set {x:V}{u:Value}(r:RelV x u):∀ {xs:Fs}{us:List Value}(i:Nat),Vals xs us->Vals (xs.set i x) (us.set i u)
 | _,_,_,.nil=>.nil
 | _,_,0,.cons _ t=>.cons r t
 | _,_,i+1,.cons q t=>.cons q (Vals.set r i t)
theorem Vals.append:∀ {xs ys:Fs}{us ws:List Value},Vals xs us->Vals ys ws->Vals (xs++ys) (us++ws)
 | _,_,_,_,.nil,s=>s
 | _,_,_,_,.cons r t,s=>.cons r (Vals.append t s)
theorem Vals.take:∀ {xs:Fs}{us:List Value}(n:Nat),Vals xs us->Vals (xs.take n) (us.take n)
 | _,_,0,_=>.nil
 | _,_,_+1,.nil=>.nil
 | _,_,n+1,.cons r t=>.cons r (Vals.take n t)
theorem Vals.drop:∀ {xs:Fs}{us:List Value}(n:Nat),Vals xs us->Vals (xs.drop n) (us.drop n)
 | _,_,0,r=>r
 | _,_,_+1,.nil=>.nil
 | _,_,n+1,.cons _ t=>Vals.drop n t
def Fo:Option V->Option Value->Prop
 | some v,some u=>RelV v u
 | none,none=>True
 | _,_=>False
def KV {κ:Type}:List (κ × V)->List (κ × Value)->Prop:=Paired fun (p:κ × V)(q:κ × Value)=>p.1=q.1/\RelV p.2 q.2
def kV:Key->V
 | .inl i=>.int i
 | .inr x=>.str x
inductive HO where
  | lst (xs:Fs)
  | tup (xs:Fs)
  | dK (kvs:List (Key × V)) | dT (kvs:List (List Key × V))
  | set (S:Int->Bool) (n:Nat)
  | ins (C dx:Addr) (fs:List (Str × V))
  | own (x:Addr)
  | xd (fs:List (Str × V))
  | met (f x:Addr)
  | rng (lo hi:Int)
  | frz (o:Obj) (u:HO)
  | tbl (ps:Array Value)
  | ext (φ:Heap->Prop)
abbrev Fr:=List (Addr × HO)
abbrev Hp:=Addr->Option HO
def upd (H:Hp)(a:Addr)(o:HO):Hp:=fun b=>if b=a then some o else H b
theorem cC {H:Hp}{a:Addr}{o:HO}:upd H a o a=some o:=by unfold upd;rw [if_pos rfl]
theorem aX {H:Hp}{a b:Addr}{o:HO}(h:b≠a):upd H a o b=H b:=by unfold upd;rw [if_neg h]
theorem dH {H:Hp}{a b:Addr}{o:HO}(h:H a=some o)(h':H b=none):a≠b:=by
 intro e;subst e;rw [h] at h';cases h'
section
variable (P:Program)(w:World)
def jV (H:Hp)(h:Heap)(a:Addr):HO->Prop
 | .lst xs=>xs.length<=sizeLine/\∃ (its:List Value)(n:Nat),Vals xs its/\h.get? a=some { cls:=.type "list",data:=.seq its.toArray n }
 | .tup xs=>xs.length<=sizeLine/\∃ its:List Value,Vals xs its/\IsTup h a its.toArray
 | .dK kvs=>kvs.length<=sizeLine/\(a ==sysModules)=false/\∃ vs,KV kvs vs/\h.DictOf (jJ P w) a vs
 | .dT kvs=>kvs.length<=sizeLine/\(a ==sysModules)=false/\∃ xs:List (List Key × Addr × Value),
   Paired (fun (p:List Key × V)(q:List Key × Addr × Value)=>p.1=q.1/\H q.2.1=some (.tup (p.1.map kV))/\RelV p.2 q.2.2) kvs xs /\
   ∃ o es ep,h.get? a=some o/\o.ExactDict/\o.data=.dict es ep/\es.toList=xs.map (entryOfKey (tupleKind (jJ P w)))/\(xs.map (·.1)).Nodup
 | .set S n=>h.SetOf (intKind P w) a S n
 | .ins C dx fs=>H dx=some (.own a)/\fs.length<=1000/\dx≠a/\h.get? a=some (instObj C dx) /\
   ∃ mA,h.Ns1 dx mA/\(∀ f,Fo (fs.lookup f) (mA f))/\PySem.Within mA (fs.map (·.1))
 | .own _=>∃ o,h.get? a=some o
 | .xd fs=>∃ mA,h.Ns1 a mA/\∀ f,Fo (fs.lookup f) (mA f)
 | .rng lo hi=>∃ t u v,h.get? a=some { cls:=.type "range",data:=.fields #[.int lo t,.int hi u,.int 1 v] }
 | .frz o u=>h.get? a=some o/\jV H h a u
 | .tbl ps=>h.get? a=some { cls:=.none,data:=.fields ps }
 | .met f x=>h.get? a=some (methodObj (.ref f) (.ref x))
 | .ext φ=>φ h/\(∃ o,h.get? a=some o)/\∀ h1 h2:Heap,φ h1->(∀ o,h1.get? a=some o->h2.get? a=some o)->φ h2
def HOk (H:Hp)(h:Heap):Prop:=∀ a o,H a=some o->jV P w H h a o
end
section
variable {P:Program}{w:World}{H H':Hp}{h h':Heap}{a:Addr}{o:HO}
theorem jV.lt (x:jV P w H h a o):a<h.objs.size:=by
 cases o with
 | lst xs=>obtain ⟨_,_,_,_,e⟩:=x;exact adu e
 | tup xs=>obtain ⟨_,_,_,p⟩:=x;exact p.lt
 | dK kvs=>obtain ⟨_,_,_,_,o,_,_,e,_⟩:=x;exact adu e
 | dT kvs=>obtain ⟨_,_,_,_,o,_,_,e,_⟩:=x;exact adu e
 | set S n=>obtain ⟨o,_,_,_,e,_⟩:=x;exact adu e
 | ins C dx fs=>obtain ⟨_,_,_,e,_⟩:=x;exact adu e
 | own y=>obtain ⟨_,e⟩:=x;exact adu e
 | xd fs=>obtain ⟨_,⟨_,_,_,e,_⟩,_⟩:=x;exact adu e
 | rng lo hi=>obtain ⟨_,_,_,e⟩:=x;exact adu e
 | frz ob u=>obtain ⟨e,_⟩:=x;exact adu e
 | tbl ps=>exact adu (show h.get? a=some _ from x)
 | met f y=>exact adu (show h.get? a=some _ from x)
 | ext φ=>obtain ⟨_,⟨_,e⟩,_⟩:=x;exact adu e
theorem Paired.ac3 {α β:Type}{F G:α->β->Prop}:∀ {l₁:List α}{l₂:List β},Paired F l₁ l₂->(∀ a b,F a b->G a b)->Paired G l₁ l₂
 | _,_,.nil,_=>.nil
 | _,_,.cons r t,f=>.cons (f _ _ r) (Paired.ac3 t f)
theorem jV.stay (x:jV P w H h a o)(k:∀ b u,(b=a\/H b=some (.own a))->h.get? b=some u->h'.get? b=some u)
  (ho:∀ b,H b=some (.own a)->H' b=some (.own a))(ht:∀ b xs,H b=some (.tup xs)->H' b=some (.tup xs)):jV P w H' h' a o:=by
 induction o with
 | lst xs=>obtain ⟨z,its,n,r,e⟩:=x;exact ⟨z,its,n,r,k _ _ (.inl rfl) e⟩
 | tup xs=>obtain ⟨z,its,r,ob,e,c⟩:=x;exact ⟨z,its,r,ob,k _ _ (.inl rfl) e,c⟩
 | dK kvs=>obtain ⟨z,y,vs,r,ob,es,ep,e,c⟩:=x;exact ⟨z,y,vs,r,ob,es,ep,k _ _ (.inl rfl) e,c⟩
 | dT kvs =>
  obtain ⟨z,y,xs,r,ob,es,ep,e,c⟩:=x;exact ⟨z,y,xs,Paired.ac3 r fun p q z=>⟨z.1,ht _ _ z.2.1,z.2.2⟩,ob,es,ep,k _ _ (.inl rfl) e,c⟩
 | set S n=>obtain ⟨ob,es,ep,t,e,c⟩:=x;exact ⟨ob,es,ep,t,k _ _ (.inl rfl) e,c⟩
 | ins C dx fs =>
  obtain ⟨d,z,ne,e,mA,⟨od,es,ep,e2,c⟩,r⟩:=x;exact ⟨ho _ d,z,ne,k _ _ (.inl rfl) e,mA,⟨od,es,ep,k _ _ (.inr d) e2,c⟩,r⟩
 | own y=>obtain ⟨ob,e⟩:=x;exact ⟨ob,k _ _ (.inl rfl) e⟩
 | xd fs=>obtain ⟨mA,⟨od,es,ep,e,c⟩,r⟩:=x;exact ⟨mA,⟨od,es,ep,k _ _ (.inl rfl) e,c⟩,r⟩
 | rng lo hi=>obtain ⟨t,u,v,e⟩:=x;exact ⟨t,u,v,k _ _ (.inl rfl) e⟩
 | frz ob u ih=>obtain ⟨e,q⟩:=x;exact ⟨k _ _ (.inl rfl) e,ih q⟩
 | tbl ps =>
  have e:h.get? a=some { cls:=.none,data:=.fields ps }:=x;show h'.get? a=some { cls:=.none,data:=.fields ps };exact k a _ (.inl rfl) e
 | met f y =>
  have e:h.get? a=some (methodObj (.ref f) (.ref y)):=x;show h'.get? a=some (methodObj (.ref f) (.ref y));exact k a _ (.inl rfl) e
 | ext φ=>obtain ⟨p,⟨o,e⟩,st⟩:=x;exact ⟨st _ _ p fun o q=>k _ _ (.inl rfl) q,⟨o,k _ _ (.inl rfl) e⟩,st⟩
theorem HOk.lt (x:HOk P w H h)(e:H a=some o):a<h.objs.size:=(x a o e).lt
theorem HOk.fresh (x:HOk P w H h)(e:h.objs.size<=a):H a=none:=by
 cases q:H a with
 | none=>rfl
 | some u=>exact absurd (adQ (x.lt q) e) (aei _)
theorem HOk.kept (x:HOk P w H h)(k:∀ b u,h.get? b=some u->h'.get? b=some u):HOk P w H h':=fun a o e =>
 (x a o e).stay (fun b u _ q=>k b u q) (fun _ q=>q) fun _ _ q=>q
theorem HOk.laid (x:HOk P w H h)(k:∀ b u,h.get? b=some u->h'.get? b=some u)(hp:h.objs.size<=a)(new:jV P w (upd H a o) h' a o):HOk P w (upd H a o) h':=fun b u e=>by
 have hn:=x.fresh hp;by_cases hb:b=a
 ·subst hb;rw [cC] at e;cases e;exact new
 ·rw [aX hb] at e;exact (x b u e).stay (fun c v _ q=>k c v q) (fun c q=>by rw [aX (dH q hn)];exact q) fun c xs q=>by rw [aX (dH q hn)];exact q
end
def Rd (H:Hp)(a:Addr)(u:HO):Prop:=H a=some u\/∃ o,H a=some (.frz o u)
theorem Rd.ok {P:Program}{w:World}{H:Hp}{h:Heap}{a:Addr}{u:HO}(r:Rd H a u)(x:HOk P w H h):jV P w H h a u:=by
 rcases r with r| ⟨o,r⟩
 ·exact x a u r
 ·obtain ⟨_,q⟩:=x a _ r;exact q
def Mut:Option HO->Prop
 | some (.lst _)=>True
 | some (.dK _)=>True
 | some (.dT _)=>True
 | some (.set _ _)=>True
 | some (.ins _ _ _)=>True
 | some (.ext _)=>True
 | _=>False
section
variable {P:Program}{w:World}{H:Hp}{h h':Heap}{x e:Addr}{o':HO}
theorem HOk.write (ok:HOk P w H h)(mu:Mut (H x))(he:e=x\/H e=some (.own x))(k:∀ b u,b≠e->h.get? b=some u->h'.get? b=some u)(heo:∃ u,h'.get? e=some u)
  (new:jV P w (upd H x o') h' x o'):HOk P w (upd H x o') h':=fun b u q=>by
 have nown:∀ c y,H c=some (.own y)->c≠x:=fun c y r z=>by subst z;rw [r] at mu;exact mu
 have ntup:∀ c xs,H c=some (.tup xs)->c≠x:=fun c xs r z=>by subst z;rw [r] at mu;exact mu
 by_cases hb:b=x
 ·subst hb;rw [cC] at q;cases q;exact new
 ·rw [aX hb] at q;by_cases hbe:b=e
  ·have q':H b=some (.own x):=by
    rcases he with z| z
    ·exact absurd (hbe.trans z) hb
    ·rw [hbe];exact z
   rw [q] at q';cases q';obtain ⟨v,hv⟩:=heo;exact ⟨v,by rw [hbe];exact hv⟩
  ·refine (ok b u q).stay (fun c v hc r=>k c v ?_ r) (fun c r=>by rw [aX (nown c b r)];exact r) fun c xs r=>by rw [aX (ntup c xs r)];exact r
   rcases hc with rfl| hc
   ·exact hbe
   ·rintro rfl;rcases he with z| z
    ·exact nown c b hc z
    ·rw [hc] at z;cases z;exact hb rfl
end
structure Un (fs ex:List Addr)(H H':Hp)(h h':Heap):Prop where
 keep:∀ b o,h.get? b=some o->H b=none->b ∉ fs->b ∉ ex->h'.get? b=some o
 slot:∀ b o,h.get? b=some o->H b=none->b∈fs->b ∉ ex->∃ sl,h'.get? b=some { o with slots:=sl }
 free:∀ b o,h.get? b=some o->H b=none->b ∉ ex->H' b=none
 there:∀ b o,h.get? b=some o->b ∉ ex->∃ o',h'.get? b=some o'
 tups:∀ b xs,H b=some (.tup xs)->H' b=some (.tup xs)
 frzs:∀ b o u,H b=some (.frz o u)->H' b=some (.frz o u)
 tbls:∀ b ps,H b=some (.tbl ps)->∃ more,H' b=some (.tbl (ps++more))
section
variable {fs fs' ex ex':List Addr}{H H1 H2:Hp}{h h1 h2 h':Heap}{a x e:Addr}{o:HO}
theorem Un.any (u:Un fs ex H H1 h h1){b:Addr}{ob:Obj}(q:h.get? b=some ob)(n:H b=none)(hx:b ∉ ex):∃ sl,h1.get? b=some { ob with slots:=sl }:=by
 by_cases hb:b∈fs
 ·exact u.slot b ob q n hb hx
 ·exact ⟨ob.slots,u.keep b ob q n hb hx⟩
theorem Un.kept (k:∀ b u,h.get? b=some u->h'.get? b=some u):Un fs ex H H h h' :=
 ⟨fun b ob q _ _ _=>k b ob q,fun b ob q _ _ _=>⟨ob.slots,k b ob q⟩,fun _ _ _ n _=>n,fun b ob q _=>⟨ob,k b ob q⟩,fun _ _ q=>q,fun _ _ _ q=>q,fun _ ps q=>⟨#[],by rw [q];simp⟩⟩
theorem Un.refl:Un fs ex H H h h:=Un.kept fun _ _ q=>q
theorem Un.laid (k:∀ b u,h.get? b=some u->h'.get? b=some u)(hp:h.objs.size<=a)(hn:H a=none):Un fs ex H (upd H a o) h h' where
 keep:=fun b u q _ _ _=>k b u q;slot:=fun b u q _ _ _=>⟨u.slots,k b u q⟩;free:=fun b u q n _=>by rw [aX (adV (adQ (adu q) hp))];exact n
 there:=fun b u q _=>⟨u,k b u q⟩;tups:=fun b xs q=>by rw [aX (dH q hn)];exact q
 frzs:=fun b u xs q=>by rw [aX (dH q hn)];exact q
 tbls:=fun b ps q=>⟨#[],by rw [aX (dH q hn),q];simp⟩
theorem Un.write (mu:Mut (H x))(he:e=x\/H e=some (.own x))(k:∀ b u,b≠e->h.get? b=some u->h'.get? b=some u)(heo:∃ u,h'.get? e=some u):Un fs ex H (upd H x o) h h':=by
 have hx:∀ b,H b=none->b≠x:=fun b n z=>by subst z;rw [n] at mu;exact mu
 have hb:∀ b,H b=none->b≠e:=fun b n z=>by
  subst z;rcases he with r| r
  ·exact hx b n r
  ·rw [n] at r;cases r
 have hm:∀ b u,H b=some u->¬ Mut (some u)->b≠x:=fun b u q nm z=>by subst z;rw [q] at mu;exact nm mu
 refine ⟨fun b u q n _ _=>k b u (hb b n) q,fun b u q n _ _=>⟨u.slots,k b u (hb b n) q⟩,fun b u q n _=>by rw [aX (hx b n)];exact n,fun b u q _=>?_,
  fun b xs q=>by rw [aX (hm b _ q fun z=>z)];exact q,fun b u xs q=>by rw [aX (hm b _ q fun z=>z)];exact q,fun b ps q=>⟨#[],by rw [aX (hm b _ q fun z=>z),q];simp⟩⟩
 by_cases hbe:b=e
 ·subst hbe;exact heo
 ·exact ⟨u,k b u hbe q⟩
end
def trk (h:Heap)(H:Hp):List Addr:=(List.range h.objs.size).filter fun a=>(H a).isSome
def Nq (h:Heap)(H:Hp):Heap:=PySem.W.hideAll h (trk h H)
theorem JW (h:Heap)(H:Hp):(Nq h H).objs.size=h.objs.size:=PySem.W.hideAll_size _ _
theorem Np {h:Heap}{H:Hp}{b:Addr}{o:Obj}(e:h.get? b=some o)(n:H b=none):(Nq h H).get? b=some o:=
 PySem.W.hideAll_get _ e fun hm=>by
  have q:(H b).isSome=true:=(List.mem_filter.mp hm).2;rw [n] at q;simp at q
theorem YX {h:Heap}{H:Hp}{b:Addr}{o:Obj}(e:(Nq h H).get? b=some o):h.get? b=some o/\H b=none:=by
 have e':h.get? b=some o:=PySem.W.of_hideAll (trk h H) e;refine ⟨e',?_⟩;cases q:H b with
 | none=>rfl
 | some x =>
  have hm:b∈trk h H:=List.mem_filter.mpr ⟨aeu.mpr (adu e'),by simp [q]⟩;have z:(Nq h H).get? b=none:=PySem.W.hideAll_none (trk h H) hm;rw [z] at e;cases e
structure Mod (K:Fa)(mg:Fh)(base:Heap):Prop where
 kin:K.In base
 glob:base.Ns mainGlobals mg
 blt:∃ mb,base.Ns builtinsNs mb/\∀ x:Str,x≠"__name__"->mb x=bootBuiltins x
 nolimit:base.NoLimit
structure Cx where
 prog:Program
 w:World
 K:Fa
 mg:Fh
 base:Heap
 A:Around
 N:List Str
 s₀:Shared
 H₀:Hp
 env:Env
 outer:List Env
 stack:List Env
 ex:List Addr
 fn:Str->Bool
 calm:Bool
 pn:Fk
 xe:Fm
def frs (l:List Env):List Addr:=l.filterMap (·.frame)
abbrev Cx.fs (X:Cx):List Addr:=frs X.outer
def Vis (sc:Scope)(x:Str):Prop:=sc.names.lookup x=some .local\/sc.names.lookup x=some .cell\/sc.names.lookup x=some .free
def Loc (sc:Scope)(x:Str):Prop:=sc.names.lookup x=some .local\/sc.names.lookup x=some .cell
def Look (env:Env)(h:Heap)(m:Fh)(x:Str)(u:Value):Prop:=
 (env.kindOf x=some .local/\m x=some u)\/((env.kindOf x=some .cell\/env.kindOf x=some .free)/\∃ c,env.cells.lookup x=some c/\h.IsCell c (some u))
structure Cx.Ok (X:Cx):Prop where
 mod:Mod X.K X.mg X.base
 kind:X.env.scope.kind=.function
 glob:X.env.globals=mainGlobals
 blt:X.env.builtins=builtinsNs
 above:X.s₀.heap.objs.size<=X.env.locals
 inj:∀ x y c,X.env.cells.lookup x=some c->X.env.cells.lookup y=some c->x=y
 has:∀ x,(X.env.kindOf x=some .cell\/X.env.kindOf x=some .free)->∃ c,X.env.cells.lookup x=some c
 cab:∀ x c,X.fn x=true->X.env.cells.lookup x=some c->X.s₀.heap.objs.size<=c
 hd:X.calm=true->X.A.handled=none
 frames:X.A.frames=some X.stack
 stk:X.stack=X.outer\/(X.stack=X.env::X.outer/\X.env.frame=some X.env.locals)
 exf:∀ b∈X.ex,b≠X.env.locals/\∀ x c,X.env.cells.lookup x=some c->c≠b
 bs:∀ b o,X.base.get? b=some o->X.s₀.heap.get? b=some o/\X.H₀ b=none
 bsz:X.base.objs.size<=X.s₀.heap.objs.size
 noex:∀ b o,X.base.get? b=some o->b ∉ X.ex
 exfs:∀ b∈X.ex,b ∉ X.fs
 EY:X.s₀.heap.FunFrames X.base X.outer
 frf:∀ b∈X.fs,X.H₀ b=none
structure Inv (X:Cx)(pins:Fk)(σ:List (Option V))(H:Hp)(s:Shared):Prop where
 ok:X.Ok
 os:s.os=X.s₀.os
 bare:AllBare s.gens
 base:Un X.fs X.ex X.H₀ H X.s₀.heap s.heap
 loc:∃ m,s.heap.Ns X.env.locals m/\∀ (i:Nat)(x:Str)(v:V),X.N[i]?=some x->σ[i]?=some (some v)->Vis X.env.scope x->∃ u,RelV v u/\Look X.env s.heap m x u
 cell:∀ x c,X.env.cells.lookup x=some c->∃ v,s.heap.IsCell c v
 free:H X.env.locals=none
 freeC:∀ x c,X.env.cells.lookup x=some c->H c=none
 pin:∀ p∈X.pn++pins,s.heap.get? p.1=some p.2/\H p.1=none/\p.1≠X.env.locals/\p.1 ∉ X.fs/\∀ v,p.2.data≠.cell v
 hok:HOk X.prog X.w H s.heap
 len:σ.length=X.N.length
section
variable {X:Cx}{pins:Fk}{σ:List (Option V)}{H H':Hp}{s:Shared}{h':Heap}
theorem Cx.Ok.nofr (ok:X.Ok){b:Addr}{o:Obj}(e:X.base.get? b=some o):b ∉ X.fs:=fun hb=>by
 have:=(ok.EY.mem hb).1;rw [e] at this;cases this
theorem Inv.bs (I:Inv X pins σ H s):∀ b o,X.base.get? b=some o->s.heap.get? b=some o/\H b=none:=fun b o e =>
 ⟨I.base.keep b o (I.ok.bs b o e).1 (I.ok.bs b o e).2 (I.ok.nofr e) (I.ok.noex b o e),I.base.free b o (I.ok.bs b o e).1 (I.ok.bs b o e).2 (I.ok.noex b o e)⟩
theorem Inv.bk (I:Inv X pins σ H s):∀ b o,X.base.get? b=some o->s.heap.get? b=some o:=fun b o e=>(I.bs b o e).1
theorem Inv.mod (I:Inv X pins σ H s):Mod X.K X.mg X.base:=I.ok.mod
theorem Inv.kIn (I:Inv X pins σ H s):X.K.In s.heap:=I.ok.mod.kin.keeps I.bk
theorem Inv.lt (I:Inv X pins σ H s):X.env.locals<s.heap.objs.size:=let ⟨_,hn,_⟩:=I.loc;hn.lt
theorem Inv.sz (I:Inv X pins σ H s):X.s₀.heap.objs.size<=s.heap.objs.size:=aec I.ok.above (Nat.le_of_lt I.lt)
theorem Inv.nofs (I:Inv X pins σ H s){a:Addr}(h:s.heap.objs.size<=a):a ∉ X.fs:=fun hb=>by
 obtain ⟨_,o,ho,_⟩:=I.ok.EY.mem hb;exact absurd (adQ (adu ho) (aec I.sz h)) (aei _)
theorem Inv.cne (I:Inv X pins σ H s):∀ x c,X.env.cells.lookup x=some c->c≠X.env.locals:=fun x c e z=>by
 obtain ⟨v,o,ho,hd⟩:=I.cell x c e;obtain ⟨m,⟨o',es,ep,ho',hd',_⟩,_⟩:=I.loc;rw [z,ho'] at ho;cases ho;rw [hd'] at hd;cases hd
theorem Inv.EY (I:Inv X pins σ H s):s.heap.FunFrames X.base X.outer:=by
 have all:∀ (l:List Env),(∀ b∈frs l,b∈X.fs)->X.s₀.heap.FunFrames X.base l->s.heap.FunFrames X.base l:=by
  intro l
  induction l with
  | nil=>intro _ _;trivial
  | cons env r ih =>
   intro hs hl;obtain ⟨hk,⟨L,o,hf,hn,ho,hd⟩,hr⟩:=hl;have hL:L∈X.fs:=hs L (by unfold frs;rw [aeO,hf];exact adM);obtain ⟨sl,e⟩:=I.base.slot L o ho (I.ok.frf L hL) hL fun z=>I.ok.exfs L z hL;exact ⟨hk,⟨L,_,hf,hn,e,hd⟩,ih (fun b hb=>hs b (by unfold frs;rw [aeO,hf];exact adI _ hb)) hr⟩
 exact all X.outer (fun _ hb=>hb) I.ok.EY
theorem Inv.stack (I:Inv X pins σ H s):s.heap.FunFrames X.base X.stack:=by
 rcases I.ok.stk with e| ⟨e,hf⟩
 ·rw [e];exact I.EY
 ·rw [e];obtain ⟨m,hn,_⟩:=I.loc;refine .cons (by rw [I.ok.kind];decide) hf hn ?_ I.EY;exact Heap.get?_none_of_le (aec I.ok.bsz I.ok.above)
theorem Inv.GP (I:Inv X pins σ H s):∀ b∈frs X.stack,b∈X.env.locals::X.fs:=fun b hb=>by
 rcases I.ok.stk with e| ⟨e,hf⟩
 ·rw [e] at hb;exact adI _ hb
 ·rw [e] at hb;unfold frs at hb;rw [aeO,hf] at hb;exact hb
theorem Inv.Cd (I:Inv X pins σ H s):∀ b∈frs X.stack,H b=none:=fun b hb=>by
 rcases adt.mp (I.GP b hb) with e| hb
 ·rw [e];exact I.free
 ·obtain ⟨_,o,ho,_⟩:=I.ok.EY.mem hb;exact I.base.free b o ho (I.ok.frf b hb) fun z=>I.ok.exfs b z hb
theorem Inv.step {g':Array GenState}{t':Nat}{d':Drawn}{ch:List Addr}(I:Inv X pins σ H s)
  (hch:∀ b∈ch,(b∈X.ex\/X.s₀.heap.objs.size<=b)/\b≠X.env.locals/\(∀ x c,X.env.cells.lookup x=some c->c≠b)/\∀ p∈X.pn++pins,p.1≠b)
  (keep:∀ b o,b≠X.env.locals->b ∉ X.fs->b ∉ ch->s.heap.get? b=some o->H b=none->h'.get? b=some o)
  (slot:∀ b o,b≠X.env.locals->b∈X.fs->b ∉ ch->s.heap.get? b=some o->H b=none->∃ sl,h'.get? b=some { o with slots:=sl })(free:∀ b o,b ∉ ch->s.heap.get? b=some o->H b=none->H' b=none)
  (there:∀ b o,b ∉ ch->s.heap.get? b=some o->∃ o',h'.get? b=some o')
  (tups:∀ b xs,H b=some (.tup xs)->H' b=some (.tup xs))(frzs:∀ b o u,H b=some (.frz o u)->H' b=some (.frz o u))(tbls:∀ b ps,H b=some (.tbl ps)->∃ more,H' b=some (.tbl (ps++more)))
  (ns:∀ m,s.heap.Ns X.env.locals m->h'.Ns X.env.locals m)(hok:HOk X.prog X.w H' h')(hg:AllBare g'):
  Inv X pins σ H' { s with heap:=h',gens:=g',drawn:=d',toks:=t' }:=by
 have neL:∀ b o,X.s₀.heap.get? b=some o->b≠X.env.locals:=fun b o e=>adV (adQ (adu e) I.ok.above)
 have neC:∀ b o,X.s₀.heap.get? b=some o->b ∉ X.ex->b ∉ ch:=fun b o e hx hb=>by
  rcases (hch b hb).1 with z| z
  ·exact hx z
  ·exact absurd (adQ (adu e) z) (aei _)
 have cellK:∀ x c,X.env.cells.lookup x=some c->∀ v,s.heap.IsCell c v->h'.IsCell c v:=fun x c e v ⟨o,ho,hd⟩=>by
  have nch:c ∉ ch:=fun z=>(hch c z).2.2.1 x c e rfl
  by_cases hc:c∈X.fs
  ·obtain ⟨sl,q⟩:=slot c o (I.cne x c e) hc nch ho (I.freeC x c e)
   exact ⟨_,q,hd⟩
  ·exact ⟨o,keep c o (I.cne x c e) hc nch ho (I.freeC x c e),hd⟩
 refine ⟨I.ok,I.os,hg,⟨fun b o e n hb hx=>?_,fun b o e n hb hx=>?_,fun b o e n hx=>?_,fun b o e hx=>?_,fun b xs e=>tups b xs (I.base.tups b xs e),fun b o xs e=>frzs b o xs (I.base.frzs b o xs e),fun b ps e=>?_⟩,?_,fun x c e=>?_,?_,fun x c e=>?_,fun p hp=>?_,hok,I.len⟩
 ·exact keep b o (neL b o e) hb (neC b o e hx) (I.base.keep b o e n hb hx) (I.base.free b o e n hx)
 ·obtain ⟨sl,e1⟩:=I.base.slot b o e n hb hx
  obtain ⟨sl',e2⟩:=slot b _ (neL b o e) hb (neC b o e hx) e1 (I.base.free b o e n hx)
  exact ⟨sl',e2⟩
 ·obtain ⟨o',e1⟩:=I.base.there b o e hx
  exact free b o' (neC b o e hx) e1 (I.base.free b o e n hx)
 ·obtain ⟨o',e1⟩:=I.base.there b o e hx
  exact there b o' (neC b o e hx) e1
 ·obtain ⟨m1,e1⟩:=I.base.tbls b ps e
  obtain ⟨m2,e2⟩:=tbls b _ e1
  exact ⟨m1++m2,by rw [e2,Array.append_assoc]⟩
 ·obtain ⟨m,hn,hl⟩:=I.loc
  refine ⟨m,ns m hn,fun i x v e1 e2 e3=>?_⟩
  obtain ⟨u,r,l⟩:=hl i x v e1 e2 e3
  refine ⟨u,r,?_⟩
  rcases l with l| ⟨k,c,e,z⟩
  ·exact .inl l
  ·exact .inr ⟨k,c,e,cellK x c e _ z⟩
 ·obtain ⟨v,z⟩:=I.cell x c e
  exact ⟨v,cellK x c e v z⟩
 ·obtain ⟨m,⟨o,_,_,ho,_⟩,_⟩:=I.loc
  exact free _ o (fun z=>(hch _ z).2.1 rfl) ho I.free
 ·obtain ⟨v,o,ho,hd⟩:=I.cell x c e
  exact free c o (fun z=>(hch c z).2.2.1 x c e rfl) ho (I.freeC x c e)
 ·obtain ⟨e,n,ne,nf,d⟩:=I.pin p hp
  have nch:p.1 ∉ ch:=fun z=>(hch p.1 z).2.2.2 p hp rfl
  exact ⟨keep p.1 p.2 ne nf nch e n,free p.1 p.2 nch e n,ne,nf,d⟩
theorem Inv.un {t':Nat}(I:Inv X pins σ H s)(u:Un X.fs [] H H' s.heap h')(hok:HOk X.prog X.w H' h'):Inv X pins σ H' { s with heap:=h',toks:=t' }:=by
 obtain ⟨m,⟨o,es,ep,ho,r⟩,_⟩:=id I.loc;obtain ⟨sl,hL⟩:=u.any ho I.free (by simp);exact I.step (g':=s.gens) (d':=s.drawn) (ch:=[]) (fun _ z=>nomatch z) (fun b o _ hb _ e n=>u.keep b o e n hb (by simp)) (fun b o _ hb _ e n=>u.slot b o e n hb (by simp)) (fun b o _ e n=>u.free b o e n (by simp)) (fun b o _ e=>u.there b o e (by simp)) u.tups u.frzs u.tbls (fun m' hm=>by
  obtain ⟨o',es',ep',ho',r'⟩:=hm;rw [ho] at ho';cases ho';exact ⟨_,es',ep',hL,r'⟩) hok I.bare
theorem Inv.call {g':Array GenState}{t':Nat}{d':Drawn}{ch:List Addr}(I:Inv X pins σ H s)(u:Un (frs X.stack) ch H H' s.heap h')(hok:HOk X.prog X.w H' h')(hg:AllBare g')
  (hch:∀ b∈ch,(b∈X.ex\/X.s₀.heap.objs.size<=b)/\b≠X.env.locals/\(∀ x c,X.env.cells.lookup x=some c->c≠b)/\∀ p∈X.pn++pins,p.1≠b):
  Inv X pins σ H' { s with heap:=h',gens:=g',drawn:=d',toks:=t' }:=by
 obtain ⟨m,⟨o,es,ep,ho,r⟩,_⟩:=id I.loc
 obtain ⟨sl,hL⟩:=u.any ho I.free fun z=>(hch _ z).2.1 rfl
 exact I.step (ch:=ch) hch (fun b o hL hb hc e n=>u.keep b o e n (fun z=>(adt.mp (I.GP b z)).elim hL hb) hc) (fun b o _ _ hc e n=>u.any e n hc) (fun b o hc e n=>u.free b o e n hc) (fun b o hc e=>u.there b o e hc) u.tups u.frzs u.tbls (fun m' hm=>by
  obtain ⟨o',es',ep',ho',r'⟩:=hm
  rw [ho] at ho';cases ho'
  exact ⟨_,es',ep',hL,r'⟩) hok hg
theorem Inv.turned {t':Nat}{it:Addr}(I:Inv X pins σ H s)(k:∀ b o,b≠it->s.heap.get? b=some o->h'.get? b=some o)(hn:H it=none)(hL:it≠X.env.locals)
  (h1:it∈X.ex\/X.s₀.heap.objs.size<=it)(h2:∀ x c,X.env.cells.lookup x=some c->c≠it)(h3:∀ p∈X.pn++pins,p.1≠it):Inv X pins σ H { s with heap:=h',toks:=t' }:=by
 have nit:∀ b u,H b=some u->b≠it:=fun b u e z=>by rw [z,hn] at e;cases e
 refine I.step (g':=s.gens) (d':=s.drawn) (ch:=[it]) (fun b hb=>?_) (fun b o _ _ hc e _=>k b o (fun z=>hc (by simp [z])) e) (fun b o _ _ hc e _=>⟨o.slots,k b o (fun z=>hc (by simp [z])) e⟩) (fun _ _ _ _ n=>n)
  (fun b o hc e=>⟨o,k b o (fun z=>hc (by simp [z])) e⟩) (fun _ _ e=>e) (fun _ _ _ e=>e) (fun b ps e=>⟨#[],by rw [e];simp⟩) (fun m hm=>?_) (fun b u e=>?_) I.bare
 ·have e:b=it:=by simpa using hb
  subst e;exact ⟨h1,hL,h2,h3⟩
 ·obtain ⟨o,es,ep,ho,r⟩:=hm;exact ⟨o,es,ep,k _ o (Ne.symm hL) ho,r⟩
 ·refine (I.hok b u e).stay (fun c v hc q=>k c v ?_ q) (fun _ q=>q) fun _ _ q=>q;rcases hc with z| z
  ·rw [z];exact nit b u e
  ·exact nit c _ z
theorem Inv.tok (I:Inv X pins σ H s)(t:Nat):Inv X pins σ H { s with toks:=t }:=I.un (h':=s.heap) (t':=t) Un.refl I.hok
theorem Inv.kept {t':Nat}(I:Inv X pins σ H s)(k:∀ b u,s.heap.get? b=some u->h'.get? b=some u):Inv X pins σ H { s with heap:=h',toks:=t' }:=I.un (Un.kept k) (I.hok.kept k)
theorem Inv.laid {a:Addr}{o:HO}{t':Nat}(I:Inv X pins σ H s)(k:∀ b u,s.heap.get? b=some u->h'.get? b=some u)(hp:s.heap.objs.size<=a)(new:jV X.prog X.w (upd H a o) h' a o):
  Inv X pins σ (upd H a o) { s with heap:=h',toks:=t' }:=I.un (Un.laid k hp (I.hok.fresh hp)) (I.hok.laid k hp new)
theorem Inv.write {x e:Addr}{o:HO}{t':Nat}(I:Inv X pins σ H s)(mu:Mut (H x))(he:e=x\/H e=some (.own x))(k:∀ b u,b≠e->s.heap.get? b=some u->h'.get? b=some u)(heo:∃ u,h'.get? e=some u)
  (new:jV X.prog X.w (upd H x o) h' x o):Inv X pins σ (upd H x o) { s with heap:=h',toks:=t' }:=I.un (Un.write mu he k heo) (I.hok.write mu he k heo new)
theorem Inv.HD {pins':Fk}(I:Inv X pins σ H s)(h:∀ p∈pins',s.heap.get? p.1=some p.2/\H p.1=none/\p.1≠X.env.locals/\p.1 ∉ X.fs/\∀ v,p.2.data≠.cell v):Inv X pins' σ H s:=
 ⟨I.ok,I.os,I.bare,I.base,I.loc,I.cell,I.free,I.freeC,fun p hp=>(ad2.mp hp).elim (fun z=>I.pin p (aeE _ z)) (h p),I.hok,I.len⟩
theorem Eo {N:List Str}(hN:N.Nodup){i j:Nat}{x:Str}(a:N[i]?=some x)(b:N[j]?=some x):i=j:=by
 obtain ⟨h1,e1⟩:=adl.mp a;obtain ⟨h2,e2⟩:=adl.mp b;exact (List.getElem_inj hN).mp (e1.trans e2.symm)
theorem Ac {M:Model}{A:Around}{E:Fm}{i:Nat}{x:Str}{v:V}{u:Value}{Q:Unit->Shared->Prop}(I:Inv X pins σ H s)(hN:X.N.Nodup)(hi:X.N[i]?=some x)(hx:Loc X.env.scope x)(r:RelV v u)
  (h:∀ s',Inv X pins (σ.set i (some v)) H s'->(∃ a,Heap.SameBut a s.heap s'.heap/\(a=X.env.locals\/X.env.cells.lookup x=some a))->Q () s')(hf:X.fn x=true\/X.env.scope.names.lookup x=some .local:=by first| exact .inl rfl| exact .inr rfl| assumption):wpAny M A (storeName X.env x u) Q E s:=by
 obtain ⟨m,hn,hl⟩:=id I.loc;have hcls:(X.env.scope.kind == .class|| (X.env.scope.kind == .module&& X.env.locals !=X.env.globals))=false:=by rw [I.ok.kind];rfl
 have hiσ:i<σ.length:=by rw [I.len];exact (adl.mp hi).1
 have cne:=I.cne;have tracked:∀ {a:Addr}{h':Heap},(∃ o,s.heap.get? a=some o/\H a=none)->Heap.SameBut a s.heap h'->HOk X.prog X.w H h':=fun {a h'} ha hs b ob e=>by
  obtain ⟨_,_,hfree⟩:=ha;refine (I.hok b ob e).stay (fun c w' hc q=>(hs.2 c ?_).trans q) (fun _ q=>q) fun _ _ q=>q;rintro rfl;rcases hc with rfl| hc
  ·rw [hfree] at e;cases e
  ·rw [hfree] at hc;cases hc
 rcases hx with hk| hk
 ·refine wpAny_storeName_local hk hn (fun h' hn' hs=>?_) hcls;obtain ⟨oL,_,_,hoL,_⟩:=id hn;refine h _ ⟨I.ok,I.os,I.bare,⟨fun b o e n hb hx=>?_,fun b o e n hb hx=>?_,I.base.free,fun b o e hx=>?_,I.base.tups,I.base.frzs,I.base.tbls⟩,⟨_,hn',fun j y v' e1 e2 e3=>?_⟩,fun y c e=>?_,I.free,I.freeC,fun p hp=>?_,tracked ⟨oL,hoL,I.free⟩ hs,by simpa using I.len⟩ ⟨_,hs,.inl rfl⟩
  ·exact (hs.2 b (adV (adQ (adu e) I.ok.above))).trans (I.base.keep b o e n hb hx)
  ·obtain ⟨sl,e1⟩:=I.base.slot b o e n hb hx;exact ⟨sl,(hs.2 b (adV (adQ (adu e) I.ok.above))).trans e1⟩
  ·obtain ⟨o',e1⟩:=I.base.there b o e hx;exact ⟨o',(hs.2 b (adV (adQ (adu e) I.ok.above))).trans e1⟩
  ·by_cases hj:j=i
   ·subst hj;rw [hi] at e1;cases e1;rw [List.getElem?_set_self hiσ] at e2;cases e2;exact ⟨u,r,.inl ⟨hk,by simp⟩⟩
   ·rw [List.getElem?_set_ne (Ne.symm hj)] at e2;obtain ⟨u',r',q⟩:=hl j y v' e1 e2 e3;refine ⟨u',r',?_⟩;rcases q with ⟨k,e⟩ | ⟨k,c,e,z⟩
    ·refine .inl ⟨k,?_⟩;have:y≠x:=fun e=>hj (Eo hN e1 (e ▸ hi));simp [this,e]
    ·exact .inr ⟨k,c,e,z.sameBut hs (cne y c e)⟩
  ·obtain ⟨w',z⟩:=I.cell y c e;exact ⟨w',z.sameBut hs (cne y c e)⟩
  ·obtain ⟨e,n,ne,nf,d⟩:=I.pin p hp;exact ⟨(hs.2 p.1 ne).trans e,n,ne,nf,d⟩
 ·have hfn:X.fn x=true:=by
   rcases hf with z| z
   ·exact z
   ·rw [z] at hk;cases hk
  obtain ⟨c,hc⟩:=I.ok.has x (.inl hk);obtain ⟨w',z⟩:=I.cell x c hc;refine wpAny_storeName_cell I.ok.kind hk hc z (fun h' hc' hs=>?_);obtain ⟨oc,hoc,hocd⟩:=id z;refine h { s with heap:=h' } ⟨I.ok,I.os,I.bare,⟨fun b o e n hb hx=>?_,fun b o e n hb hx=>?_,I.base.free,fun b o e hx=>?_,I.base.tups,I.base.frzs,I.base.tbls⟩,⟨m,hn.sameBut hs (Ne.symm (cne x c hc)),fun j y v' e1 e2 e3=>?_⟩,fun y c' e=>?_,I.free,I.freeC,fun p hp=>?_,tracked ⟨oc,hoc,I.freeC x c hc⟩ hs,by simpa using I.len⟩ ⟨c,hs,.inr hc⟩
  ·exact (hs.2 b (adV (adQ (adu e) (I.ok.cab x c hfn hc)))).trans (I.base.keep b o e n hb hx)
  ·obtain ⟨sl,e1⟩:=I.base.slot b o e n hb hx;exact ⟨sl,(hs.2 b (adV (adQ (adu e) (I.ok.cab x c hfn hc)))).trans e1⟩
  ·obtain ⟨o',e1⟩:=I.base.there b o e hx;exact ⟨o',(hs.2 b (adV (adQ (adu e) (I.ok.cab x c hfn hc)))).trans e1⟩
  ·by_cases hj:j=i
   ·subst hj;rw [hi] at e1;cases e1;rw [List.getElem?_set_self hiσ] at e2;cases e2;exact ⟨u,r,.inr ⟨.inl hk,c,hc,hc'⟩⟩
   ·rw [List.getElem?_set_ne (Ne.symm hj)] at e2;obtain ⟨u',r',q⟩:=hl j y v' e1 e2 e3;refine ⟨u',r',?_⟩;rcases q with q| ⟨k,c',e,z'⟩
    ·exact .inl q
    ·refine .inr ⟨k,c',e,z'.sameBut hs ?_⟩;rintro rfl;exact hj (Eo hN e1 (I.ok.inj _ _ _ e hc ▸ hi))
  ·by_cases hcc:c'=c
   ·subst hcc;exact ⟨_,hc'⟩
   ·obtain ⟨w2,z2⟩:=I.cell y c' e;exact ⟨w2,z2.sameBut hs hcc⟩
  ·obtain ⟨e,n,ne,nf,d⟩:=I.pin p hp;refine ⟨(hs.2 p.1 ?_).trans e,n,ne,nf,d⟩;intro q;rw [q,hoc] at e;have q':oc=p.2:=adP e;exact d w' (by rw [<- q'];exact hocd)
theorem v7 {M:Model}{A:Around}{E:Fm}{i:Nat}{x:Str}{v:V}{u:Value}{Q:Unit->Shared->Prop}(I:Inv X pins σ H s)(hN:X.N.Nodup)(hi:X.N[i]?=some x)(hx:Loc X.env.scope x)(r:RelV v u)
  (h:∀ s',Inv X pins (σ.set i (some v)) H s'->Q () s')(hf:X.fn x=true\/X.env.scope.names.lookup x=some .local:=by first| exact .inl rfl| exact .inr rfl| assumption):wpAny M A (storeName X.env x u) Q E s:=
 Ac I hN hi hx r (fun s' I' _=>h s' I') hf
theorem Inv.call' {s':Shared}{ch:List Addr}(I:Inv X pins σ H s)(ho:s'.os=s.os)(u:Un (frs X.stack) ch H H' s.heap s'.heap)(hok:HOk X.prog X.w H' s'.heap)(hg:AllBare s'.gens)
  (hch:∀ b∈ch,(b∈X.ex\/X.s₀.heap.objs.size<=b)/\b≠X.env.locals/\(∀ x c,X.env.cells.lookup x=some c->c≠b)/\∀ p∈X.pn++pins,p.1≠b):Inv X pins σ H' s':=by
 obtain ⟨h',g',d',t',o'⟩:=s';have e:o'=s.os:=ho;subst e;exact I.call (g':=g') (t':=t') (d':=d') u hok hg hch
end
abbrev XK:=Value->Option Addr->Hp->Prop
abbrev St:=List (Option V)
abbrev VK:=V->Hp->Prop
abbrev TE:=St->Hp->VK->Prop
abbrev TT:=St->Hp->(Bool->Hp->Prop)->Prop
abbrev TA:=St->Hp->(Fs->Hp->Prop)->Prop
structure Ends where
 nx:St->Hp->Prop
 rt:VK
 bk:St->Hp->Prop:=fun _ _=>False
 ct:St->Hp->Prop:=fun _ _=>False
abbrev TS:=Ends->St->Hp->Prop
def EP (X:Cx)(pins:Fk)(σ:St)(Q:VK)(u:Value)(s':Shared):Prop:=∃ v H',Inv X pins σ H' s'/\RelV v u/\Q v H'
def TP (X:Cx)(pins:Fk)(σ:St)(Q:Bool->Hp->Prop)(b:Bool)(s':Shared):Prop:=∃ H',Inv X pins σ H' s'/\Q b H'
def AP (X:Cx)(pins:Fk)(σ:St)(Q:Fs->Hp->Prop)(us:List Value)(s':Shared):Prop:=∃ vs H',Inv X pins σ H' s'/\Vals vs us/\Q vs H'
def SP (X:Cx)(pins:Fk)(D:Ends)(f:Flow)(s':Shared):Prop:=
 match f with
 | .next=>∃ σ' H',Inv X pins σ' H' s'/\D.nx σ' H'
 | .brk=>∃ σ' H',Inv X pins σ' H' s'/\D.bk σ' H'
 | .cont=>∃ σ' H',Inv X pins σ' H' s'/\D.ct σ' H'
 | .ret u=>∃ v σ' H',Inv X pins σ' H' s'/\RelV v u/\D.rt v H'
def PE (X:Cx)(e:Expr)(t:TE):Prop:=
 ∀ (pins:Fk)(s:Shared)(σ:St)(H:Hp)(Q:VK),Inv X pins σ H s->t σ H Q->wpAny (model X.prog X.w) X.A (eval e X.env) (EP X pins σ Q) X.xe s
def PT (X:Cx)(e:Expr)(t:TT):Prop:=
 ∀ (pins:Fk)(s:Shared)(σ:St)(H:Hp)(Q:Bool->Hp->Prop),Inv X pins σ H s->t σ H Q->wpAny (model X.prog X.w) X.A (isTrue e X.env (eval e X.env)) (TP X pins σ Q) X.xe s
def PW (X:Cx)(e:Expr)(t:TT):Prop:=
 ∀ (whole:Sem Value)(pins:Fk)(s:Shared)(σ:St)(H:Hp)(Q:Bool->Hp->Prop),Inv X pins σ H s->t σ H Q->wpAny (model X.prog X.w) X.A (isTrue e X.env whole) (TP X pins σ Q) X.xe s
theorem PW.pt {X:Cx}{e:Expr}{t:TT}(h:PW X e t):PT X e t:=h _
def PA (X:Cx)(es:List Expr)(t:TA):Prop:=
 ∀ (pos:Pos)(pins:Fk)(s:Shared)(σ:St)(H:Hp)(Q:Fs->Hp->Prop),Inv X pins σ H s->t σ H Q->wpAny (model X.prog X.w) X.A (spliced (backTo pos (starEach es X.env))) (AP X pins σ Q) X.xe s
def PS (X:Cx)(st:Stmt)(t:TS):Prop:=
 ∀ (pins:Fk)(s:Shared)(σ:St)(H:Hp)(D:Ends),Inv X pins σ H s->t D σ H->wpAny (model X.prog X.w) X.A (exec st X.env) (SP X pins D) X.xe s
def PSs (X:Cx)(st:List Stmt)(t:TS):Prop:=
 ∀ (pins:Fk)(s:Shared)(σ:St)(H:Hp)(D:Ends),Inv X pins σ H s->t D σ H->wpAny (model X.prog X.w) X.A (execs st X.env) (SP X pins D) X.xe s
theorem thn {α:Type}{t:Sem α}{Q Q':α->Shared->Prop}{M:Model}{A:Around}{E:Fm}{s:Shared}(h:wpAny M A t Q E s)(hQ:∀ a s,Q a s->Q' a s):wpAny M A t Q' E s:=wpAny_mono h hQ fun _ _ x=>x
section
variable {X:Cx}
inductive abR (i:Nat)(σ:St)(H:Hp)(Q:VK):Prop
 | mk (v:V)(_:σ[i]?=some (some v))(_:Q v H)
def tC (v:V):TE:=fun _ H Q=>Q v H
theorem aam {i:Nat}{x:Str}{pos:Pos}(hN:X.N[i]?=some x)(hv:Vis X.env.scope x)(hd:(x ==("__debug__":Str))=false:=by decide)(hcd:(x ==("__classdict__":Str))=false:=by decide):PE X (.Name x pos) (abR i):=by
 intro pins s σ H Q I h;obtain ⟨v,e,h⟩:=h;obtain ⟨m,hn,hl⟩:=I.loc;obtain ⟨u,r,l⟩:=hl i x v hN e hv;have fin:EP X pins σ Q u s:=⟨v,H,I,r,h⟩;rcases l with ⟨hk,hm⟩ | ⟨hk,c,hc,hcell⟩
 ·exact wpAny_Name (wpAny_loadName_local I.ok.kind hk hn hm fin) hd
 ·rcases hk with hk| hk
  ·exact wpAny_Name (wpAny_loadName_cell I.ok.kind hk hc hcell fin) hd
  ·exact wpAny_Name (wpAny_loadName_free I.ok.kind hk hc hcell fin hcd) hd
theorem ak {i j pos}:PE X (.Constant (.int i) j pos) (tC (.int i)):=fun _ _ _ H _ I h=>wpAny_Constant_int ⟨.int i,H,I.tok _,⟨_,rfl⟩,h⟩
theorem vX {b j pos}:PE X (.Constant (.bool b) j pos) (tC (.bl b)):=fun _ _ _ H _ I h=>Constant_bool ⟨.bl b,H,I,rfl,h⟩
theorem lV {j pos}:PE X (.Constant .none j pos) (tC .non):=fun _ _ _ H _ I h=>Constant_none ⟨.non,H,I,rfl,h⟩
theorem aJ {x j pos}:PE X (.Constant (.str x) j pos) (tC (.str x)):=fun _ _ _ H _ I h=>Calls.Constant_str ⟨.str x,H,I.tok _,⟨_,rfl⟩,h⟩
def Gl (X:Cx)(x:Str):Prop:=X.env.kindOf x=some .globalImplicit
theorem lE {E:Fm}{pins:Fk}{s:Shared}{σ:St}{H:Hp}{x:Str}{u:Value}{pos:Pos}{Q:Fm}(I:Inv X pins σ H s)(hg:Gl X x)(hm:X.mg x=some u)(h:Q u s)
  (hd:(x ==("__debug__":Str))=false:=by decide):wpAny (model X.prog X.w) X.A (eval (.Name x pos) X.env) Q E s:=
 Calls.Name_function_global I.ok.kind hg (Calls.loadGlobal_global (by rw [I.ok.glob];exact I.mod.glob.keeps I.bk) hm h) hd
theorem vI {E:Fm}{pins:Fk}{s:Shared}{σ:St}{H:Hp}{x:Str}{u:Value}{pos:Pos}{Q:Fm}(I:Inv X pins σ H s)(hg:Gl X x)(hm:X.mg x=none)(hv:bootBuiltins x=some u)(h:Q u s)
  (hn:x≠"__name__":=by decide)(hd:(x ==("__debug__":Str))=false:=by decide):wpAny (model X.prog X.w) X.A (eval (.Name x pos) X.env) Q E s:=by
 obtain ⟨mb,h1,h2⟩:=I.mod.blt;exact Calls.Name_function_global I.ok.kind hg (Calls.loadGlobal_builtin (by rw [I.ok.glob];exact I.mod.glob.keeps I.bk) hm (by rw [I.ok.blt];exact h1.keeps I.bk) ((h2 x hn).trans hv) h) hd
theorem bN {x:Str}{v:V}{u:Value}{pos:Pos}(hg:Gl X x)(hm:X.mg x=some u)(r:RelV v u)(hd:(x ==("__debug__":Str))=false:=by decide):PE X (.Name x pos) (tC v):=
 fun _ _ _ H _ I h=>lE I hg hm ⟨v,H,I,r,h⟩ hd
def t2I (ta tb:TE)(k:Int->Int->Hp->Prop):St->Hp->Prop:=fun σ H=>ta σ H fun x H1=>tb σ H1 fun y H2=>∃ i j,x=.int i/\y=.int j/\k i j H2
variable {a b:Expr}{ta tb:TE}{pos:Pos}
def Zx (p:Int->Int->Bool)(ta tb:TE):TE:=fun σ H Q=>t2I ta tb (fun i j H2=>Q (.bl (p i j)) H2) σ H
inductive aa6 (x:V)(P:Bool->Prop):Prop
 | mk (c:Bool)(_:x=.bl c)(_:P c)
def tB (t:TE):TT:=fun σ H Q=>t σ H fun x H1=>aa6 x fun c=>Q c H1
theorem jx {e:Expr}{t:TE}(h:PE X e t)(he:∀ whole,isTrue e X.env whole=(do let v <- whole;standAt e.pos;holding [v] (truthy v)):=by intro _;rfl):PT X e (tB t):=by
 intro pins s σ H Q I hw;refine isTrue_plain (thn (h pins s σ H _ I hw) fun v s1 ⟨x,H1,I1,r1,q1⟩=>?_) (he _);obtain ⟨d,rfl,q⟩:=q1;cases r1;exact wpAny_truthy_bool ⟨H1,I1,q⟩
variable {tA tB':TT}{rest:List Expr}
def tAnd (t u:TT):TT:=fun σ H Q=>t σ H fun c H1=>if c=true then u σ H1 Q else Q false H1
def tOr (t u:TT):TT:=fun σ H Q=>t σ H fun c H1=>if c=true then Q true H1 else u σ H1 Q
def tNot (t:TT):TT:=fun σ H Q=>t σ H fun c H1=>Q (!c) H1
theorem pw_and1 (ha:PT X a tA):PW X (.BoolOp .And [a] pos) tA:=by
 intro wh pins s σ H Q I h;refine isTrue_and (thn (ha pins s σ H Q I h) fun c s1 e=>?_);cases c with
 | true=>exact isTrue_and_nil e
 | false=>exact e
theorem pw_or1 (ha:PT X a tA):PW X (.BoolOp .Or [a] pos) tA:=by
 intro wh pins s σ H Q I h;refine isTrue_or (thn (ha pins s σ H Q I h) fun c s1 e=>?_);cases c with
 | false=>exact isTrue_or_nil e
 | true=>exact e
theorem pw_and (ha:PT X a tA)(hb:PW X (.BoolOp .And (b::rest) pos) tB'):PW X (.BoolOp .And (a::b::rest) pos) (tAnd tA tB'):=by
 intro wh pins s σ H Q I h;refine isTrue_and (thn (ha pins s σ H _ I h) fun c s1 ⟨H1,I1,q1⟩=>?_);cases c with
 | true=>exact hb wh pins s1 σ H1 Q I1 q1
 | false=>exact ⟨H1,I1,q1⟩
theorem pw_or (ha:PT X a tA)(hb:PW X (.BoolOp .Or (b::rest) pos) tB'):PW X (.BoolOp .Or (a::b::rest) pos) (tOr tA tB'):=by
 intro wh pins s σ H Q I h;refine isTrue_or (thn (ha pins s σ H _ I h) fun c s1 ⟨H1,I1,q1⟩=>?_);cases c with
 | true=>exact ⟨H1,I1,q1⟩
 | false=>exact hb wh pins s1 σ H1 Q I1 q1
theorem jd (ha:PT X a tA):PT X (.UnaryOp .Not a pos) (tNot tA):=by
 intro pins s σ H Q I h;exact isTrue_not (ha pins s σ H (fun c H1=>Q (!c) H1) I h)
def ace (ta tb:TE):TE:=fun σ H Q=>ta σ H fun x H1=>aa6 x fun c=>if c=true then tb σ H1 Q else Q (.bl false) H1
def tOrV (ta tb:TE):TE:=fun σ H Q=>ta σ H fun x H1=>aa6 x fun c=>if c=true then Q (.bl true) H1 else tb σ H1 Q
theorem Py {op} {t:TE} (h:PE X a t):PE X (.BoolOp op [a] pos) t:=fun pins s σ H Q I hw=>BoolOp_one (h pins s σ H Q I hw)
theorem aan (ha:PE X a ta)(hb:PE X (.BoolOp .And (b::rest) pos) tb):PE X (.BoolOp .And (a::b::rest) pos) (ace ta tb):=by
 intro pins s σ H Q I h;refine BoolOp_and (thn (ha pins s σ H _ I h) fun v s1 ⟨x,H1,I1,r1,q1⟩=>?_);obtain ⟨c,rfl,q1⟩:=q1;cases r1;refine wpAny_truthy_bool ?_;cases c with
 | true=>exact hb pins s1 σ H1 Q I1 q1
 | false=>exact ⟨.bl false,H1,I1,rfl,q1⟩
theorem aci (ha:PE X a ta)(hb:PE X (.BoolOp .Or (b::rest) pos) tb):PE X (.BoolOp .Or (a::b::rest) pos) (tOrV ta tb):=by
 intro pins s σ H Q I h;refine BoolOp_or (thn (ha pins s σ H _ I h) fun v s1 ⟨x,H1,I1,r1,q1⟩=>?_);obtain ⟨c,rfl,q1⟩:=q1;cases r1;refine wpAny_truthy_bool ?_;cases c with
 | false=>exact hb pins s1 σ H1 Q I1 q1
 | true=>exact ⟨.bl true,H1,I1,rfl,q1⟩
def tIf (t:TT)(ta tb:TE):TE:=fun σ H Q=>t σ H fun c H1=>if c=true then ta σ H1 Q else tb σ H1 Q
theorem mX {c:Expr}(hc:PT X c tA)(ha:PE X a ta)(hb:PE X b tb):PE X (.IfExp c a b pos) (tIf tA ta tb):=by
 intro pins s σ H Q I h;refine wpAny_IfExp (thn (hc pins s σ H _ I h) fun d s1 ⟨H1,I1,q1⟩=>?_);cases d with
 | true=>exact ha pins s1 σ H1 Q I1 q1
 | false=>exact hb pins s1 σ H1 Q I1 q1
end
def SqL (K:Fa)(H:Hp)(a:Addr)(xs:Fs):Prop:=
 Rd H a (.lst xs) \/
  ∃ (o:Obj)(its:Array Value)(n:Nat),K.lookup a=some o/\o.cls=.type "list"/\o.dict=none/\o.data=.seq its n/\its.size<=sizeLine/\Vals xs its.toList
def SqT (K:Fa)(H:Hp)(a:Addr)(xs:Fs):Prop:=
 Rd H a (.tup xs) \/
  ∃ (o:Obj)(its:Array Value)(n:Nat),K.lookup a=some o/\o.cls=.type "tuple"/\o.data=.seq its n/\its.size<=sizeLine/\Vals xs its.toList
def absV:Value->Option V
 | .none=>some .non
 | .bool b=>some (.bl b)
 | .int i _=>some (.int i)
 | .str x _=>some (.str x)
 | .bytes b _=>some (.byt b)
 | .float b _=>some (.flt b)
 | .ref a=>some (.ref a)
 | .type n=>some (.ty n)
 | _=>none
theorem RelV.abs {x:V}{u:Value}(r:RelV x u):absV u=some x:=by
 cases x with
 | non=>cases r;rfl
 | bl _=>cases r;rfl
 | int _=>obtain ⟨t,rfl⟩:=r;rfl
 | str _=>obtain ⟨t,rfl⟩:=r;rfl
 | byt _=>obtain ⟨t,rfl⟩:=r;rfl
 | flt _=>obtain ⟨t,rfl⟩:=r;rfl
 | ref _=>cases r;rfl
 | ty _=>cases r;rfl
theorem RelV.inj {x y:V}{u:Value}(r:RelV x u)(q:RelV y u):x=y:=adP (r.abs.symm.trans q.abs)
theorem Vals.inj:∀ {xs ys:Fs}{us:List Value},Vals xs us->Vals ys us->xs=ys
 | _,_,_,.nil,.nil=>rfl
 | _,_,_,.cons r t,.cons r' t'=>by rw [r.inj r',Vals.inj t t']
section
variable {X:Cx}{pins:Fk}{σ:St}{H:Hp}{s:Shared}{a:Addr}{xs ys:Fs}
theorem SqL.of {K:Fa}(h:H a=some (.lst xs)):SqL K H a xs:=.inl (.inl h)
theorem SqT.of {K:Fa}(h:H a=some (.tup xs)):SqT K H a xs:=.inl (.inl h)
theorem Inv.list (I:Inv X pins σ H s)(h:SqL X.K H a xs):∃ its:List Value,Vals xs its/\PlainL s.heap a its.toArray/\xs.length<=sizeLine:=by
 rcases h with h| ⟨o,its,n,hk,hc,hd,hs,hz,r⟩
 ·obtain ⟨z,its,n,r,e⟩:=h.ok I.hok;exact ⟨its,r,⟨_,n,e,rfl,rfl,rfl⟩,z⟩
 ·refine ⟨its.toList,r,⟨o,n,I.kIn a o hk,hc,hd,by simpa using hs⟩,?_⟩;have e:=r.length;simp only [aeP] at e;omega
theorem Inv.tuple (I:Inv X pins σ H s)(h:SqT X.K H a xs):∃ its:List Value,Vals xs its/\IsTup s.heap a its.toArray/\xs.length<=sizeLine:=by
 rcases h with h| ⟨o,its,n,hk,hc,hs,hz,r⟩
 ·obtain ⟨z,its,r,p⟩:=h.ok I.hok;exact ⟨its,r,p,z⟩
 ·refine ⟨its.toList,r,⟨o,I.kIn a o hk,hc,n,by simpa using hs⟩,?_⟩;have e:=r.length;simp only [aeP] at e;omega
theorem Inv.M7 (I:Inv X pins σ H s)(h:SqL X.K H a xs)(h':SqL X.K H a ys):xs=ys:=by
 obtain ⟨its,r,⟨o,n,e,_,_,d⟩,_⟩:=I.list h;obtain ⟨its',r',⟨o',n',e',_,_,d'⟩,_⟩:=I.list h';rw [e] at e';cases e';rw [d] at d';injection d' with d1 _;have:its=its':=by simpa using congrArg Array.toList d1
 subst this;exact r.inj r'
theorem Inv.GF (I:Inv X pins σ H s)(h:SqT X.K H a xs)(h':SqT X.K H a ys):xs=ys:=by
 obtain ⟨its,r,⟨o,e,_,n,d⟩,_⟩:=I.tuple h;obtain ⟨its',r',⟨o',e',_,n',d'⟩,_⟩:=I.tuple h';rw [e] at e';cases e';rw [d] at d';injection d' with d1 _;have:its=its':=by simpa using congrArg Array.toList d1
 subst this;exact r.inj r'
end
abbrev Cx.wish (X:Cx)(E:Fm):Cx:={ X with xe:=E }
abbrev Cx.nox (X:Cx):Cx:=X.wish fun _ _=>False
theorem Cx.Ok.wish {X:Cx}(ok:X.Ok)(E:Fm):(X.wish E).Ok:=
 ⟨ok.mod,ok.kind,ok.glob,ok.blt,ok.above,ok.inj,ok.has,ok.cab,ok.hd,ok.frames,ok.stk,ok.exf,ok.bs,ok.bsz,ok.noex,ok.exfs,ok.EY,ok.frf⟩
theorem Cx.Ok.oH {X:Cx}{E:Fm}(ok:(X.wish E).Ok):X.Ok:=
 ⟨ok.mod,ok.kind,ok.glob,ok.blt,ok.above,ok.inj,ok.has,ok.cab,ok.hd,ok.frames,ok.stk,ok.exf,ok.bs,ok.bsz,ok.noex,ok.exfs,ok.EY,ok.frf⟩
section
variable {X:Cx}{pins:Fk}{σ:St}{H:Hp}{s:Shared}{E:Fm}
theorem Inv.wish (I:Inv X pins σ H s)(E:Fm):Inv (X.wish E) pins σ H s:=⟨I.ok.wish E,I.os,I.bare,I.base,I.loc,I.cell,I.free,I.freeC,I.pin,I.hok,I.len⟩
theorem Inv.oH (I:Inv (X.wish E) pins σ H s):Inv X pins σ H s:=⟨I.ok.oH,I.os,I.bare,I.base,I.loc,I.cell,I.free,I.freeC,I.pin,I.hok,I.len⟩
theorem SP.oH {D:Ends}{f:Flow}{s':Shared}(h:SP (X.wish E) pins D f s'):SP X pins D f s':=by
 cases f with
 | next=>obtain ⟨σ',H',I,q⟩:=h;exact ⟨σ',H',I.oH,q⟩
 | brk=>obtain ⟨σ',H',I,q⟩:=h;exact ⟨σ',H',I.oH,q⟩
 | cont=>obtain ⟨σ',H',I,q⟩:=h;exact ⟨σ',H',I.oH,q⟩
 | ret u=>obtain ⟨v,σ',H',I,r,q⟩:=h;exact ⟨v,σ',H',I.oH,r,q⟩
theorem PSs.nox {st:List Stmt}{t:TS}(h:PSs X.nox st t):PSs X st t:=fun pins s σ H D I hw =>
 wpAny_mono (h pins s σ H D (I.wish _) hw) (fun _ _ q=>q.oH) fun _ _ z=>False.elim z
end
section
variable {X:Cx}{st:Stmt}{rest:List Stmt}{t u:TS}{e:Expr}{te:TE}{pos:Pos}
def ab7:TS:=fun D σ H=>D.nx σ H
def qC (t u:TS):TS:=fun D σ H=>t { D with nx:=u D } σ H
theorem aL:PSs X [] ab7:=fun _ _ σ H _ I h=>wpAny_execs_nil ⟨σ,H,I,h⟩
theorem cW (h1:PS X st t)(h2:PSs X rest u):PSs X (st::rest) (qC t u):=by
 intro pins s σ H D I h;refine wpAny_execs_cons (thn (h1 pins s σ H { D with nx:=u D } I h) fun f s1 q=>?_);cases f with
 | next =>
  obtain ⟨σ',H',I',q⟩:=q;exact h2 pins s1 σ' H' D I' q
 | ret v=>exact q
 | brk=>exact q
 | cont=>exact q
theorem dj (h1:PS X st t):PSs X [st] t:=by
 intro pins s σ H D I h;refine wpAny_execs_cons (thn (h1 pins s σ H D I h) fun f s1 q=>?_);cases f with
 | next=>exact wpAny_execs_nil q
 | ret v=>exact q
 | brk=>exact q
 | cont=>exact q
theorem Inv.quiet {pins:Fk}{σ:St}{H:Hp}{s:Shared}(I:Inv X pins σ H s):interactive X.env=false:=by simp [interactive,I.ok.kind]
def ab9 (te:TE):TS:=fun D σ H=>te σ H fun _ H1=>D.nx σ H1
theorem bf (he:PE X e te)(hs:swapsWith e none pos.line X.env=pure false:=by rfl):PS X (.Expr e pos) (ab9 te):=by
 intro pins s σ H D I h;exact wpAny_Expr_any (thn (he pins s σ H _ I h) fun v s1 ⟨x,H1,I1,r1,q1⟩=>⟨σ,H1,I1,q1⟩) I.quiet hs
def tRet (te:TE):TS:=fun D σ H=>te σ H D.rt
theorem aH (he:PE X e te):PS X (.Return (some e) pos) (tRet te):=by
 intro pins s σ H D I h;exact wpAny_Return_some (thn (he pins s σ H _ I h) fun v s1 ⟨x,H1,I1,r1,q1⟩=>⟨x,σ,H1,I1,r1,q1⟩)
def KN (c:TT)(t u:TS):TS:=fun D σ H=>c σ H fun b H1=>if b=true then t D σ H1 else u D σ H1
theorem bM {c:Expr}{a b:List Stmt}{tc:TT}(hc:PT X c tc)(ha:PSs X a t)(hb:PSs X b u):PS X (.If c a b pos) (KN tc t u):=by
 intro pins s σ H D I h;refine wpAny_If (thn (hc pins s σ H _ I h) fun d s1 ⟨H1,I1,q1⟩=>?_);cases d with
 | true=>exact ha pins s1 σ H1 D I1 q1
 | false=>exact hb pins s1 σ H1 D I1 q1
def ZW:TS:=fun _ _ _=>False
theorem Hx {sts:List Stmt}:PSs X sts ZW:=fun _ _ _ _ _ _ h=>h.elim
end
abbrev TG:=V->St->Hp->(St->Hp->Prop)->Prop
abbrev TGs:=Fs->St->Hp->(St->Hp->Prop)->Prop
def PG (X:Cx)(target:Expr)(t:TG):Prop:=
 ∀ (pins:Fk)(s:Shared)(σ:St)(H:Hp)(v:V)(u:Value)(Q:St->Hp->Prop),Inv X pins σ H s->RelV v u->t v σ H Q ->
  wpAny (model X.prog X.w) X.A (assign target X.env u) (fun _ s'=>∃ σ' H',Inv X pins σ' H' s'/\Q σ' H') X.xe s
def PGs (X:Cx)(ts:List Expr)(t:TGs):Prop:=
 ∀ (pins:Fk)(s:Shared)(σ:St)(H:Hp)(vs:Fs)(us:List Value)(Q:St->Hp->Prop),Inv X pins σ H s->Vals vs us->t vs σ H Q ->
  wpAny (model X.prog X.w) X.A (assignInOrder ((assignEach ts X.env).map (·.2)) us) (fun _ s'=>∃ σ' H',Inv X pins σ' H' s'/\Q σ' H') X.xe s
abbrev acH:=V->V->V->Hp->(Hp->Prop)->Prop
def adf (X:Cx)(t:acH):Prop:=
 ∀ (pins:Fk)(s:Shared)(σ:St)(H:Hp)(o i v:V)(ov iv u:Value)(Q:Hp->Prop),Inv X pins σ H s->RelV o ov->RelV i iv->RelV v u->t o i v H Q ->
  wpAny (model X.prog X.w) X.A (setItem ov iv u) (fun _ s'=>∃ H',Inv X pins σ H' s'/\Q H') X.xe s
section
variable {X:Cx}{pos:Pos}
def Nu (i:Nat):TG:=fun v σ H Q=>Q (σ.set i (some v)) H
theorem dR {i:Nat}{x:Str}(hN:X.N.Nodup)(hi:X.N[i]?=some x)(hx:Loc X.env.scope x)(hf:X.fn x=true\/X.env.scope.names.lookup x=some .local:=by first| exact .inl rfl| exact .inr rfl| assumption):PG X (.Name x pos) (Nu i):=by
 intro pins s σ H v u Q I r h;exact wpAny_assign_Name (v7 I hN hi hx r (fun s' I'=>⟨_,H,I',h⟩) hf)
def gNil:TGs:=fun vs σ H Q=>vs=[]/\Q σ H
def acF (t:TG)(u:TGs):TGs:=fun vs σ H Q=>∃ v r,vs=v::r/\t v σ H fun σ' H'=>u r σ' H' Q
theorem jo:PGs X [] gNil:=by
 intro pins s σ H vs us Q I r h;obtain ⟨e,h⟩:=h;subst e;cases r;exact assignInOrder_nil ⟨σ,H,I,h⟩
theorem aZ {e:Expr}{es:List Expr}{t:TG}{u:TGs}(h1:PG X e t)(h2:PGs X es u)
  (hs:(assignEach (e::es) X.env).map (·.2)=assign e X.env::(assignEach es X.env).map (·.2):=by rfl):PGs X (e::es) (acF t u):=by
 intro pins s σ H vs us Q I r h;obtain ⟨v,vr,e1,h⟩:=h;subst e1;cases r with
 | cons r rr =>
  rw [hs];refine assignInOrder_cons (thn (h1 pins s σ H _ _ _ I r h) fun _ s1 ⟨σ1,H1,I1,q1⟩=>?_);exact h2 pins s1 σ1 H1 _ _ Q I1 rr q1
inductive ac9 (K:Fa)(n:Nat)(t:TGs)(v:V)(σ:St)(H:Hp)(Q:St->Hp->Prop):Prop
 | mk (a:Addr)(xs:Fs)(_:v=.ref a)(_:SqT K H a xs)(_:xs.length=n)(_:t xs σ H Q)
theorem uo {es:List Expr}{k:Nat}{t:TGs}{n:Nat}(hc:X.calm=true)(h:PGs X es t)
  (hn:(assignEach es X.env).length=n:=by rfl)(hst:(assignEach es X.env).findIdx? (·.1)=none:=by rfl):PG X (.Tuple es k pos) (ac9 X.K n t):=by
 intro pins s σ H v u Q I r hw;obtain ⟨a,xs,e1,hq,hl,hw⟩:=hw;subst e1;cases r;obtain ⟨its,rv,ht,hz⟩:=I.tuple hq;refine assign_Tuple_tuple (I.ok.hd hc) ht (by simp [hn,<- hl,rv.length]) hst fun h' hx=>?_;have I1:Inv X pins σ H { s with heap:=h' }:=I.kept (t':=s.toks) fun b o e=>hx b o (adV (adu e)) e;exact h pins _ σ H xs _ Q I1 (by simpa using rv) hw
def gSub (to ti:TE)(t:acH):TG:=fun v σ H Q=>to σ H fun o H1=>ti σ H1 fun i H2=>t o i v H2 fun H3=>Q σ H3
theorem Bh {o i:Expr}{to ti:TE}{t:acH}(ho:PE X o to)(hi:PE X i ti)(hs:adf X t)
  (ha:∀ v,assign (.Subscript o i pos) X.env v=(do
   let ov <- holding [v] (eval o X.env)
   let iv <- holding [v,ov] (eval i X.env)
   standAt pos
   holding [v,ov,iv] (setItem ov iv v)
   release [v,ov,iv] []):=by intro _;rfl):PG X (.Subscript o i pos) (gSub to ti t):=by
 intro pins s σ H v u Q I r h
 rw [ha]
 refine wpAny_bind (wpAny_holding (thn (ho pins s σ H _ I h) fun ov s1 ⟨x,H1,I1,r1,q1⟩=>?_))
 refine wpAny_bind (wpAny_holding (thn (hi pins s1 σ H1 _ I1 q1) fun iv s2 ⟨y,H2,I2,r2,q2⟩=>?_))
 refine wpAny_bind (wpAny_standAt (wpAny_bind (wpAny_holding (thn (hs pins s2 σ H2 x y v ov iv u _ I2 r1 r2 r q2) fun _ s3 ⟨H3,I3,q3⟩=>?_))))
 exact wpAny_release ⟨σ,H3,I3,q3⟩
def acd (te:TE)(g:TG):TS:=fun D σ H=>te σ H fun x H1=>g x σ H1 D.nx
theorem qM {tg e:Expr}{te:TE}{g:TG}(he:PE X e te)(hg:PG X tg g)(hs:swapsWithSole [tg] e pos.line X.env=pure false:=by rfl)(hw:swappedStores [tg] e X.env=pure none:=by rfl)
  (h1:(assignEach [tg] X.env).map (·.2)=[assign tg X.env]:=by rfl):PS X (.Assign [tg] e pos) (acd te g):=by
 intro pins s σ H D I h;refine wpAny_Assign_stores (thn (he pins s σ H _ I h) fun v s1 ⟨x,H1,I1,r1,q1⟩=>?_) hs hw;rw [h1];exact thn (hg pins s1 σ H1 x v _ I1 r1 q1) fun _ s2 q=>q
theorem wN {i:Nat}{x:Str}{e:Expr}{te:TE}{pos':Pos}(hN:X.N.Nodup)(hi:X.N[i]?=some x)(hx:Loc X.env.scope x)(he:PE X e te)(hs:swapsWith e (some (.Name x pos')) pos.line X.env=pure false:=by rfl)(hf:X.fn x=true\/X.env.scope.names.lookup x=some .local:=by first| exact .inl rfl| exact .inr rfl| assumption):
  PS X (.Assign [.Name x pos'] e pos) (acd te (Nu i)):=by
 intro pins s σ H D I h;refine wpAny_Assign_Name (thn (he pins s σ H _ I h) fun v s1 ⟨y,H1,I1,r1,q1⟩=>?_) hs;exact v7 I1 hN hi hx r1 (fun s2 I2=>⟨_,H1,I2,q1⟩) hf
end
section
variable {X:Cx}{pos:Pos}
def GK (c:TT)(tb:TS):TS:=fun D σ H=>∃ W:Nat->St->Hp->Prop,(∃ m,W m σ H)/\∀ m σ H,W m σ H ->
 c σ H fun b H1=>if b=true then ∃ N:St->Hp->Prop,(∀ σ' H',N σ' H'->∃ m',m'<m/\W m' σ' H')/\tb { D with nx:=N,ct:=N,bk:=D.nx } σ H1 else D.nx σ H1
theorem Ei {c:Expr}{body:List Stmt}{tc:TT}{tb:TS}(hp:PassesOwn (model X.prog X.w) X.A X.env X.xe)(hc:PT X c tc)(hb:PSs X body tb):PS X (.While c body [] pos) (GK tc tb):=by
 intro pins s σ H D I h;obtain ⟨W,⟨m0,w0⟩,turn⟩:=h;refine wpAny_While (codeAny_whileLoop (fun n s'=>∃ σ' H',Inv X pins σ' H' s'/\W n σ' H') ?_ m0 ⟨σ,H,I,w0⟩);rintro n s1 ⟨σ1,H1,I1,w1⟩;refine wpAny_passesOwn hp (thn (hc pins s1 σ1 H1 _ I1 (turn n σ1 H1 w1)) fun b s2 ⟨H2,I2,q2⟩=>?_);cases b with
 | true =>
  obtain ⟨N,hN,q2⟩:=q2;rw [if_pos rfl];refine wpAny_passesOwn hp (thn (hb pins s2 σ1 H2 _ I2 q2) fun f s3 q3=>?_);cases f with
  | next =>
   obtain ⟨σ3,H3,I3,n3⟩:=q3;obtain ⟨m',hm,w3⟩:=hN σ3 H3 n3;exact ⟨m',hm,σ3,H3,I3,w3⟩
  | cont =>
   obtain ⟨σ3,H3,I3,n3⟩:=q3;obtain ⟨m',hm,w3⟩:=hN σ3 H3 n3;exact ⟨m',hm,σ3,H3,I3,w3⟩
  | brk=>exact q3
  | ret v=>exact q3
 | false =>
  rw [if_neg adv];exact wpAny_execs_nil ⟨σ1,H2,I2,q2⟩
end
structure It where
 go:Nat->Hp->Prop
 yld:Nat->Hp->V->Hp->Prop
 stop:Nat->Hp->Prop
def Ob (X:Cx)(pins:Fk)(H:Hp)(b:Addr):Prop:=
 H b=none/\b≠X.env.locals/\b ∉ X.fs/\(b∈X.ex\/X.s₀.heap.objs.size<=b)/\(∀ x c,X.env.cells.lookup x=some c->c≠b)/\∀ p∈X.pn++pins,p.1≠b
theorem Inv.KR {X:Cx}{pins:Fk}{σ:St}{H H':Hp}{s:Shared}{b:Addr}(I:Inv X pins σ H s)(hb:s.heap.objs.size<=b)(hn:H' b=none):Ob X pins H' b:=by
 refine ⟨hn,Nat.ne_of_gt (adQ I.lt hb),I.nofs hb,.inr (aec I.sz hb),fun x c e z=>?_,fun p hp z=>?_⟩
 ·obtain ⟨v,q⟩:=I.cell x c e;exact absurd (adQ q.lt (by rw [z];exact hb)) (aei _)
 ·exact absurd (adQ (adu (I.pin p hp).1) (by rw [z];exact hb)) (aei _)
structure Turn (P:Program)(w:World)(K:Fa)(tg:Expr)(J:It)(fp:List Addr)(it:Addr)(tn:Nat->Heap->Prop):Prop where
 mem:it∈fp
 obj:∀ i h,tn i h->∀ b∈fp,∃ o,h.get? b=some o/\∀ v,o.data≠.cell v
 keep:∀ i h h',tn i h->(∀ b∈fp,∀ o,h.get? b=some o->h'.get? b=some o)->tn i h'
 item:∀ (X:Cx),X.prog=P->X.w=w->X.K=K->X.calm=true->∀ (i:Nat)(pins:Fk)(s:Shared)(σ:St)(H:Hp)(E:Fm),Inv X pins σ H s->(∀ b∈fp,Ob X pins H b)->tn i s.heap->J.go i H ->
  wpAny (model P w) X.A (pyNext (.ref it)) (fun r s1=>∃ u,r=some u /\
   wpAny (model P w) X.A (letOwnedTupleGo tg (.ref it) u) (fun _ s2=>∃ x H',Inv X pins σ H' s2/\RelV x u/\J.yld i H x H'/\tn (i+1) s2.heap/\∀ b∈fp,H' b=none) E s1) E s
 done:∀ (X:Cx),X.prog=P->X.w=w->X.K=K->X.calm=true->∀ (i:Nat)(pins:Fk)(s:Shared)(σ:St)(H:Hp)(E:Fm),Inv X pins σ H s->(∀ b∈fp,Ob X pins H b)->tn i s.heap->J.stop i H ->
  wpAny (model P w) X.A (pyNext (.ref it)) (fun r s1=>r=none/\Inv X pins σ H s1) E s
 self:∀ (A:Around)(i:Nat)(s:Shared)(Q:Fm)(E:Fm),tn i s.heap->Q (.ref it) s->wpAny (model P w) A (pyIter (.ref it)) Q E s
abbrev TI:=St->Hp->(It->Hp->Prop)->Prop
def PIE (X:Cx)(pins:Fk)(σ:St)(tg:Expr)(R:It->Hp->Prop)(itv:Value)(s2:Shared):Prop:=
 ∃ (it:Addr)(fp:List Addr)(tn:Nat->Heap->Prop)(J:It)(H':Hp),itv=.ref it/\Inv X pins σ H' s2/\Turn X.prog X.w X.K tg J fp it tn/\tn 0 s2.heap/\(∀ b∈fp,Ob X pins H' b)/\R J H'
def PI (X:Cx)(tg iter:Expr)(wi:TI):Prop:=
 ∀ (pins:Fk)(s:Shared)(σ:St)(H:Hp)(R:It->Hp->Prop),Inv X pins σ H s->wi σ H R ->
  wpAny (model X.prog X.w) X.A (eval iter X.env) (fun v s1=>wpAny (model X.prog X.w) X.A (pyIter v) (PIE X pins σ tg R) X.xe s1) X.xe s
theorem Nr {M:Model}{A:Around}{E:Fm}{s:Shared}{tg:Expr}{it:Addr}{u:Value}{o:Obj}{n:String}{vs:Array Value}{Q:Unit->Shared->Prop}(ho:s.heap.get? it=some o)(hc:o.cls=.type n)(hd:o.data=.fields vs)
    (hn:["enumerate","zip","dict_itemiterator","dict_reverseitemiterator","odict_iterator","itertools.zip_longest","itertools.pairwise"].contains n=false)(hQ:Q () s):wpAny M A (letOwnedTupleGo tg (.ref it) u) Q E s:=by
  unfold letOwnedTupleGo;cases tg <;>first
    | exact wpAny_pure hQ
    | (cases u <;>first
        | exact wpAny_pure hQ
        | (refine wpAny_bind (wpAny_load ho ?_)
           rw [hc,hd];show wpAny M A (if (["enumerate","zip","dict_itemiterator","dict_reverseitemiterator","odict_iterator","itertools.zip_longest","itertools.pairwise"].contains n&& vs[0]? ==some (rawInt _))=true then _ else _) Q E s;rw [if_neg (by intro h;rw [hn,Bool.false_and] at h;cases h)];exact wpAny_pure hQ))
def Itl (K:Fa)(a:Addr):It:=
 ⟨fun i H=>∃ xs x,SqL K H a xs/\xs[i]?=some x,fun i H x H'=>H'=H/\∀ xs,SqL K H a xs->xs[i]?=some x,fun i H=>∃ xs,SqL K H a xs/\xs.length<=i⟩
def Itt (K:Fa)(a:Addr):It:=
 ⟨fun i H=>∃ xs x,SqT K H a xs/\xs[i]?=some x,fun i H x H'=>H'=H/\∀ xs,SqT K H a xs->xs[i]?=some x,fun i H=>∃ xs,SqT K H a xs/\xs.length<=i⟩
def Itr (lo:Int)(n:Nat):It:=⟨fun i _=>i<n,fun i H x H'=>H'=H/\x=.int (lo+i),fun i _=>n<=i⟩
theorem GC {P:Program}{w:World}{K:Fa}{tg:Expr}(a it:Addr):Turn P w K tg (Itl K a) [it] it (fun i h=>h.IsListIter it a i) where
 mem:=by simp
 obj:=fun i h st b hb=>by
  have e:b=it:=by simpa using hb
  subst e;obtain ⟨o,e,c,d⟩:=st;exact ⟨o,e,fun v z=>by rw [d] at z;cases z⟩
 keep:=fun i h h' st k=>st.at fun o e=>k it (by simp) o e;item:=by
  intro X hP hw hK hc i pins s σ H E I hf st hg;subst hP hw hK;obtain ⟨xs,x,hq,hx⟩:=hg;obtain ⟨its,rv,p,hz⟩:=I.list hq;obtain ⟨u,hu,ru⟩:=rv.get hx;obtain ⟨f0,f1,f2,f3,f4,f5⟩:=hf it (by simp);refine wpAny_pyNext_list_item st p.isList (x:=u) (by simpa using hu) fun h' st' sb=>?_;have I1:Inv X pins σ H { s with heap:=h' }:=I.turned (t':=s.toks) (fun b o hb e=>(sb.2 b hb).trans e) f0 f1 f3 f4 f5;obtain ⟨o,e,c,d⟩:=id st';exact ⟨u,rfl,Nr (s:={ s with heap:=h' }) e c d (by decide) ⟨x,H,I1,ru,⟨rfl,fun ys hy=>by rw [I.M7 hy hq];exact hx⟩,st',fun b hb=>(hf b hb).1⟩⟩
 done:=by
  intro X hP hw hK hc i pins s σ H E I hf st hg;subst hP hw hK;obtain ⟨xs,hq,hx⟩:=hg;obtain ⟨its,rv,p,hz⟩:=I.list hq;obtain ⟨f0,f1,f2,f3,f4,f5⟩:=hf it (by simp);have hl:=rv.length;exact wpAny_pyNext_list_end (I.ok.hd hc) st p.isList (by simp;omega) fun h' eb=>⟨rfl,I.turned (t':=s.toks) (fun b o hb e=>eb b o hb e) f0 f1 f3 f4 f5⟩
 self:=fun _ _ _ _ _ st h=>wpAny_pyIter_listiter st h
theorem Fv {P:Program}{w:World}{K:Fa}{tg:Expr}(a it:Addr):Turn P w K tg (Itt K a) [it] it (fun i h=>h.IsTupleIter it a i) where
 mem:=by simp
 obj:=fun i h st b hb=>by
  have e:b=it:=by simpa using hb
  subst e;obtain ⟨o,e,c,d⟩:=st;exact ⟨o,e,fun v z=>by rw [d] at z;cases z⟩
 keep:=fun i h h' st k=>st.at fun o e=>k it (by simp) o e;item:=by
  intro X hP hw hK hc i pins s σ H E I hf st hg;subst hP hw hK;obtain ⟨xs,x,hq,hx⟩:=hg;obtain ⟨its,rv,p,hz⟩:=I.tuple hq;obtain ⟨u,hu,ru⟩:=rv.get hx;obtain ⟨f0,f1,f2,f3,f4,f5⟩:=hf it (by simp);refine wpAny_pyNext_tuple_item st (show s.heap.IsTuple a its.toArray from p) (x:=u) (by simpa using hu) fun h' st' sb=>?_;have I1:Inv X pins σ H { s with heap:=h' }:=I.turned (t':=s.toks) (fun b o hb e=>(sb.2 b hb).trans e) f0 f1 f3 f4 f5;obtain ⟨o,e,c,d⟩:=id st';exact ⟨u,rfl,Nr (s:={ s with heap:=h' }) e c d (by decide) ⟨x,H,I1,ru,⟨rfl,fun ys hy=>by rw [I.GF hy hq];exact hx⟩,st',fun b hb=>(hf b hb).1⟩⟩
 done:=by
  intro X hP hw hK hc i pins s σ H E I hf st hg;subst hP hw hK;obtain ⟨xs,hq,hx⟩:=hg;obtain ⟨its,rv,p,hz⟩:=I.tuple hq;obtain ⟨f0,f1,f2,f3,f4,f5⟩:=hf it (by simp);have hl:=rv.length;exact wpAny_pyNext_tuple_end (I.ok.hd hc) st (show s.heap.IsTuple a its.toArray from p) (by simp;omega) fun h' eb=>⟨rfl,I.turned (t':=s.toks) (fun b o hb e=>eb b o hb e) f0 f1 f3 f4 f5⟩
 self:=fun _ _ _ _ _ st h=>wpAny_pyIter_tupleiter st h
theorem Fw {P:Program}{w:World}{K:Fa}{tg:Expr}(it:Addr)(lo:Int)(n:Nat):Turn P w K tg (Itr lo n) [it] it (fun i h=>IsRangeIter h it (lo+(i:Nat)*1) ((n:Int) - (i:Nat)) 1) where
 mem:=by simp
 obj:=fun i h st b hb=>by
  have e:b=it:=by simpa using hb
  subst e;exact ⟨_,st,fun v z=>by
   have z':Data.fields _=Data.cell v:=z;cases z'⟩
 keep:=fun i h h' st k=>k it (by simp) _ st;item:=by
  intro X hP hw hK hc i pins s σ H E I hf st hg;subst hP hw hK;obtain ⟨f0,f1,f2,f3,f4,f5⟩:=hf it (by simp);have W:=Walks.range (prog:=X.prog) (w:=X.w) (I.ok.hd hc) it lo 1 n;refine W.item i s _ _ hg st fun v h' tk hv st' kk=>?_;obtain ⟨t,rfl⟩:=hv;have I1:Inv X pins σ H { s with heap:=h',toks:=tk }:=I.turned (fun b o hb e=>kk b o (by simpa using hb) e) f0 f1 f3 f4 f5;refine ⟨_,rfl,Nr (s:={ s with heap:=h',toks:=tk }) (n:="range_iterator") st' rfl rfl (by decide) ⟨.int (lo+i),H,I1,⟨t,?_⟩,⟨rfl,rfl⟩,st',fun b hb=>(hf b hb).1⟩⟩;rw [Int.mul_one]
 done:=by
  intro X hP hw hK hc i pins s σ H E I hf st hg;subst hP hw hK;obtain ⟨f0,f1,f2,f3,f4,f5⟩:=hf it (by simp);exact wpAny_pyNext_range_end (I.ok.hd hc) st (by have:n<=i:=hg;omega) fun h' eb=>⟨rfl,I.turned (t':=s.toks) (fun b o hb e=>eb b o hb e) f0 f1 f3 f4 f5⟩
 self:=fun _ _ _ _ _ st h=>wpAny_pyIter_rangeiter st h
section
variable {X:Cx}{tg:Expr}
inductive kLst (K:Fa)(x:V)(H:Hp)(R:It->Hp->Prop):Prop
 | mk (a:Addr)(_:x=.ref a)(_:∃ xs,SqL K H a xs)(_:R (Itl K a) H)
def acD (K:Fa)(tl:TE):TI:=fun σ H R=>tl σ H fun x H1=>kLst K x H1 R
def iTup (K:Fa)(tl:TE):TI:=fun σ H R=>tl σ H fun x H1=>∃ a,x=.ref a/\(∃ xs,SqT K H1 a xs)/\R (Itt K a) H1
theorem rF {l:Expr}{tl:TE}(hl:PE X l tl):PI X tg l (acD X.K tl):=by
 intro pins s σ H R I h;refine thn (hl pins s σ H _ I h) fun v s1 ⟨x,H1,I1,r1,q1⟩=>?_;obtain ⟨a,e,⟨xs,hq⟩,q⟩:=q1;subst e;cases r1;obtain ⟨its,rv,p,hz⟩:=I1.list hq;refine wpAny_pyIter_list p.isList ?_;refine ⟨s1.heap.objs.size,[s1.heap.objs.size],_,_,H1,rfl,I1.kept (t':=s1.toks) fun b o e=>adn _ e,GC a _,⟨_,adq _ rfl,rfl,rfl⟩,fun b hb=>?_,q⟩;have e:b=s1.heap.objs.size:=by simpa using hb
 subst e;exact I1.KR (ado _) (I1.hok.fresh (ado _))
theorem aak {l:Expr}{tl:TE}(hl:PE X l tl):PI X tg l (iTup X.K tl):=by
 intro pins s σ H R I h;refine thn (hl pins s σ H _ I h) fun v s1 ⟨x,H1,I1,r1,q1⟩=>?_;obtain ⟨a,e,⟨xs,hq⟩,q⟩:=q1;subst e;cases r1;obtain ⟨its,rv,p,hz⟩:=I1.tuple hq;refine wpAny_pyIter_tuple (show s1.heap.IsTuple a its.toArray from p) ?_;refine ⟨s1.heap.objs.size,[s1.heap.objs.size],_,_,H1,rfl,I1.kept (t':=s1.toks) fun b o e=>adn _ e,Fv a _,⟨_,adq _ rfl,rfl,rfl⟩,fun b hb=>?_,q⟩;have e:b=s1.heap.objs.size:=by simpa using hb
 subst e;exact I1.KR (ado _) (I1.hok.fresh (ado _))
theorem Eh {pins:Fk}{σ:St}{H:Hp}{s:Shared}{R:It->Hp->Prop}{E:Fm}{lo hi:Int}{t u v:Tok}{tk:Nat}(I:Inv X pins σ H s)(h1:-(2 ^ 62)<=lo)(h2:lo<2 ^ 62)(h3:-(2 ^ 62)<=hi)(h4:hi<2 ^ 62)
  (q:R (Itr lo (hi - lo).toNat) H):wpAny (model X.prog X.w) X.A (pyIter (.ref s.heap.objs.size)) (PIE X pins σ tg R) E { s with heap:=s.heap.push { cls:=.type "range",data:=.fields #[.int lo t,.int hi u,.int 1 v] },toks:=tk }:=by
 refine wpAny_pyIter_range (IsRange.new ..) (small_one h1 h2 h3 h4) ?_;have I1:Inv X pins σ H { s with heap:=s.heap.push { cls:=.type "range",data:=.fields #[.int lo t,.int hi u,.int 1 v] },toks:=tk }:=I.kept fun b o e=>adn _ e;refine ⟨(s.heap.push { cls:=.type "range",data:=.fields #[.int lo t,.int hi u,.int 1 v] }).objs.size,[(s.heap.push { cls:=.type "range",data:=.fields #[.int lo t,.int hi u,.int 1 v] }).objs.size],_,_,H,rfl,
  I1.kept (t':=tk) fun b o e=>adn _ e,Fw _ lo (hi - lo).toNat,?_,fun b hb=>?_,q⟩
 ·have e1:lo+((0:Nat):Int)*1=lo:=by simp
  have e2:(((hi - lo).toNat:Nat):Int) - ((0:Nat):Int)=Builtin.Range.rangeSize lo hi 1:=by rw [rangeSize_one];split <;>omega
  show IsRangeIter _ _ (lo+((0:Nat):Int)*1) ((((hi - lo).toNat:Nat):Int) - ((0:Nat):Int)) 1;rw [e1,e2];exact adq _ rfl
 ·have e:b=(s.heap.push { cls:=.type "range",data:=.fields #[.int lo t,.int hi u,.int 1 v] }).objs.size:=by simpa using hb
  subst e;exact I1.KR (ado _) (I1.hok.fresh (ado _))
def acC (ta:TA):TI:=fun σ H R=>ta σ H fun vs H1=>∃ j:Int,vs=[.int j]/\-(2 ^ 62)<=j/\j<2 ^ 62/\R (Itr 0 j.toNat) H1
def acB (ta:TA):TI:=fun σ H R=>ta σ H fun vs H1=>∃ i j:Int,vs=[.int i,.int j]/\(-(2 ^ 62)<=i/\i<2 ^ 62/\-(2 ^ 62)<=j/\j<2 ^ 62)/\R (Itr i (j - i).toNat) H1
theorem iy {a:Expr}{ta:TA}{p pos:Pos}(hg:Gl X "range")(hm:X.mg "range"=none)(ha:PA X [a] ta)(hs:starEach [a] X.env=[(false,eval a X.env)]:=by rfl):PI X tg (.Call (.Name "range" p) [a] [] pos) (acC ta):=by
 intro pins s σ H R I h;refine Call_ (vI I hg hm boot_range (ad6 (thn (ha pos pins s σ H _ I h) fun us s1 ⟨vs,H1,I1,r1,q1⟩=>?_) hs rfl));obtain ⟨j,e,q1,q2,q⟩:=q1;subst e;cases r1 with
 | cons r rr =>
  cases rr;obtain ⟨t,rfl⟩:=r;exact call_range_1 (Eh I1 (by omega) (by omega) q1 q2 (by simpa using q))
theorem HJ {a b:Expr}{ta:TA}{p pos:Pos}(hg:Gl X "range")(hm:X.mg "range"=none)(ha:PA X [a,b] ta)(hs:starEach [a,b] X.env=[(false,eval a X.env),(false,eval b X.env)]:=by rfl)(hs2:starEach [b] X.env=[(false,eval b X.env)]:=by rfl):
  PI X tg (.Call (.Name "range" p) [a,b] [] pos) (acB ta):=by
 intro pins s σ H R I h;refine Call_ (vI I hg hm boot_range (ad6 (thn (ha pos pins s σ H _ I h) fun us s1 ⟨vs,H1,I1,r1,q1⟩=>?_) (by rw [hs,hs2]) (by rw [hs2];rfl)));obtain ⟨i,j,e,⟨q1,q2,q3,q4⟩,q⟩:=q1;subst e;cases r1 with
 | cons r rr =>
  cases rr with
  | cons r' rr =>
   cases rr;obtain ⟨t,rfl⟩:=r;obtain ⟨t',rfl⟩:=r';exact call_range_2 (Eh I1 q1 q2 q3 q4 q)
def Yp (wi:TI)(g:TG)(tb:TS):TS:=fun D σ H=>wi σ H fun J H1=>∃ W:Nat->Nat->St->Hp->Prop,(∃ m,W 0 m σ H1)/\∀ i m σ H,W i m σ H ->
 (J.stop i H/\D.nx σ H)\/(J.go i H/\∃ N:St->Hp->Prop,(∀ σ' H',N σ' H'->∃ m',m'<m/\W (i+1) m' σ' H')/\∀ x H',J.yld i H x H'->g x σ H' fun σ2 H2=>tb { D with nx:=N,ct:=N,bk:=D.nx } σ2 H2)
def Bg (fp:List Addr)(h:Heap):Fk:=fp.filterMap fun b=>(h.get? b).map fun o=>(b,o)
theorem ql {fp:List Addr}{h:Heap}{b:Addr}{o:Obj}(hb:b∈fp)(e:h.get? b=some o):(b,o)∈Bg fp h:=aeT.mpr ⟨b,hb,by rw [e];rfl⟩
theorem Ih {fp:List Addr}{h:Heap}{p:Addr × Obj}(hp:p∈Bg fp h):p.1∈fp/\h.get? p.1=some p.2:=by
 obtain ⟨b,hb,e⟩:=aeT.mp hp;cases q:h.get? b with
 | none=>rw [q] at e;cases e
 | some o =>
  rw [q] at e;have e':(b,o)=p:=adP e;subst e';exact ⟨hb,q⟩
theorem Inv.pinned {pins:Fk}{σ:St}{H:Hp}{s:Shared}{fp:List Addr}(I:Inv X pins σ H s)(hf:∀ b∈fp,Ob X pins H b)(ho:∀ b∈fp,∃ o,s.heap.get? b=some o/\∀ v,o.data≠.cell v):Inv X (pins++Bg fp s.heap) σ H s:=
 I.HD fun p hp=>(ad2.mp hp).elim (fun z=>I.pin p (Mv _ z)) fun z=>by
  obtain ⟨hb,e⟩:=Ih z;obtain ⟨f0,f1,f2,_⟩:=hf p.1 hb;obtain ⟨o,e',d⟩:=ho p.1 hb;rw [e] at e';cases e';exact ⟨e,f0,f1,f2,d⟩
theorem Inv.vZ {pins pl:Fk}{σ:St}{H:Hp}{s:Shared}(I:Inv X (pins++pl) σ H s):Inv X pins σ H s:=I.HD fun p hp=>I.pin p (Mv _ (aeE _ hp))
theorem nY {iter:Expr}{body:List Stmt}{wi:TI}{g:TG}{tb:TS}{pos:Pos}(hp:PassesOwn (model X.prog X.w) X.A X.env X.xe)(hc:X.calm=true)(hi:PI X tg iter wi)(hg:PG X tg g)(hb:PSs X body tb)
  (hs:∀ x,foldedSetIterable iter X.env x=pure x:=by intro _;rfl):PS X (.For tg iter body [] pos) (Yp wi g tb):=by
 intro pins s σ H D I h;refine wpAny_For (thn (hi pins s σ H _ I h) fun v s1 h1=>thn h1 fun itv s2 h2=>?_) hs;obtain ⟨it,fp,tn,J,H2,e,I2,T,st2,f2,W,⟨m0,w0⟩,turn⟩:=h2;subst e;have stat:∀ {H':Hp},(∀ b∈fp,H' b=none)->∀ b∈fp,Ob X pins H' b:=fun hn b hb=>⟨hn b hb,(f2 b hb).2⟩;refine codeAny_forLoop_any (fun n s'=>∃ i σ' H',Inv X pins σ' H' s'/\tn i s'.heap/\(∀ b∈fp,H' b=none)/\W i n σ' H') ?_ m0 ⟨0,σ,H2,I2,st2,fun b hb=>(f2 b hb).1,w0⟩;rintro n s3 ⟨i,σ3,H3,I3,st3,fr3,w3⟩;rcases turn i n σ3 H3 w3 with ⟨stop,qn⟩ | ⟨go,N,hN,step⟩
 ·refine wpAny_passesOwn hp (thn (T.done X rfl rfl rfl hc i pins s3 σ3 H3 X.xe I3 (stat fr3) st3 stop) fun r s4 ⟨hr,I4⟩=>?_);subst hr;exact wpAny_execs_nil ⟨σ3,H3,I4,qn⟩
 ·refine wpAny_passesOwn hp (thn (T.item X rfl rfl rfl hc i pins s3 σ3 H3 X.xe I3 (stat fr3) st3 go) fun r s4 ⟨u,hr,h4⟩=>?_);subst hr;refine wpAny_passesOwn hp (thn h4 fun _ s5 ⟨x,H5,I5,r5,y5,st5,fr5⟩=>?_);have I5':=I5.pinned (stat fr5) (T.obj _ _ st5);refine wpAny_passesOwn hp (thn (hg _ s5 σ3 H5 x u _ I5' r5 (step x H5 y5)) fun _ s6 ⟨σ6,H6,I6,q6⟩=>?_);refine wpAny_passesOwn hp (thn (hb _ s6 σ6 H6 _ I6 q6) fun f s7 q7=>?_);have again:∀ {σ7:St}{H7:Hp},Inv X (pins++Bg fp s5.heap) σ7 H7 s7->N σ7 H7->∃ m,m<n/\∃ i σ' H',Inv X pins σ' H' s7/\tn i s7.heap/\(∀ b∈fp,H' b=none)/\W i m σ' H':=fun {σ7 H7} I7 n7=>by
   obtain ⟨m',hm,w7⟩:=hN σ7 H7 n7;refine ⟨m',hm,i+1,σ7,H7,I7.vZ,T.keep _ _ _ st5 fun b hb o e=>(I7.pin (b,o) (Mv _ (Mv _ (ql hb e)))).1,fun b hb=>?_,w7⟩;obtain ⟨o,e,d⟩:=T.obj _ _ st5 b hb;exact (I7.pin (b,o) (Mv _ (Mv _ (ql hb e)))).2.1
  cases f with
  | next=>obtain ⟨σ7,H7,I7,n7⟩:=q7;exact again I7 n7
  | cont=>obtain ⟨σ7,H7,I7,n7⟩:=q7;exact again I7 n7
  | brk=>obtain ⟨σ7,H7,I7,q7⟩:=q7;exact ⟨σ7,H7,I7.vZ,q7⟩
  | ret v=>obtain ⟨x7,σ7,H7,I7,r7,q7⟩:=q7;exact ⟨x7,σ7,H7,I7.vZ,r7,q7⟩
end
theorem Fb {K:Fa}{a:Addr}{xs:Fs}{g:TG}{tb:TS}{D:Ends}{σ:St}{H:Hp}(Pv:Nat->St->Hp->Prop)(h0:Pv 0 σ H)(hl:∀ i σ H,i<=xs.length->Pv i σ H->SqL K H a xs)
  (hs:∀ i x σ H,xs[i]?=some x->Pv i σ H->g x σ H fun σ2 H2=>tb { D with nx:=Pv (i+1),ct:=Pv (i+1),bk:=D.nx } σ2 H2)(hd:∀ σ H,Pv xs.length σ H->D.nx σ H):
  ∃ W:Nat->Nat->St->Hp->Prop,(∃ m,W 0 m σ H)/\∀ i m σ H,W i m σ H ->
   ((Itl K a).stop i H/\D.nx σ H)\/((Itl K a).go i H/\∃ N:St->Hp->Prop,(∀ σ' H',N σ' H'->∃ m',m'<m/\W (i+1) m' σ' H')/\∀ x H',(Itl K a).yld i H x H'->g x σ H' fun σ2 H2=>tb { D with nx:=N,ct:=N,bk:=D.nx } σ2 H2):=by
 refine ⟨fun i m σ H=>m=xs.length - i/\i<=xs.length/\Pv i σ H,⟨xs.length,by simp,adY _,h0⟩,?_⟩
 rintro i m σ H ⟨rfl,hi,p⟩
 have q:=hl i σ H hi p
 by_cases hlt:i<xs.length
 ·refine .inr ⟨⟨xs,xs[i],q,by simp [hlt]⟩,Pv (i+1),fun σ' H' p'=>⟨xs.length - (i+1),by omega,rfl,hlt,p'⟩,fun x H' y=>?_⟩
  obtain ⟨e,y⟩:=y
  subst e
  exact hs i x σ _ (y xs q) p
 ·have e:i=xs.length:=by omega
  subst e
  exact .inl ⟨⟨xs,q,ado _⟩,hd σ H p⟩
theorem Za {K:Fa}{a:Addr}{xs:Fs}{g:TG}{tb:TS}{D:Ends}{σ:St}{H:Hp}(Pv:Nat->St->Hp->Prop)(h0:Pv 0 σ H)(hl:∀ i σ H,i<=xs.length->Pv i σ H->SqT K H a xs)
  (hs:∀ i x σ H,xs[i]?=some x->Pv i σ H->g x σ H fun σ2 H2=>tb { D with nx:=Pv (i+1),ct:=Pv (i+1),bk:=D.nx } σ2 H2)(hd:∀ σ H,Pv xs.length σ H->D.nx σ H):
  ∃ W:Nat->Nat->St->Hp->Prop,(∃ m,W 0 m σ H)/\∀ i m σ H,W i m σ H ->
   ((Itt K a).stop i H/\D.nx σ H)\/((Itt K a).go i H/\∃ N:St->Hp->Prop,(∀ σ' H',N σ' H'->∃ m',m'<m/\W (i+1) m' σ' H')/\∀ x H',(Itt K a).yld i H x H'->g x σ H' fun σ2 H2=>tb { D with nx:=N,ct:=N,bk:=D.nx } σ2 H2):=by
 refine ⟨fun i m σ H=>m=xs.length - i/\i<=xs.length/\Pv i σ H,⟨xs.length,by simp,adY _,h0⟩,?_⟩
 rintro i m σ H ⟨rfl,hi,p⟩
 have q:=hl i σ H hi p
 by_cases hlt:i<xs.length
 ·refine .inr ⟨⟨xs,xs[i],q,by simp [hlt]⟩,Pv (i+1),fun σ' H' p'=>⟨xs.length - (i+1),by omega,rfl,hlt,p'⟩,fun x H' y=>?_⟩
  obtain ⟨e,y⟩:=y
  subst e
  exact hs i x σ _ (y xs q) p
 ·have e:i=xs.length:=by omega
  subst e
  exact .inl ⟨⟨xs,q,ado _⟩,hd σ H p⟩
theorem lW {lo:Int}{n:Nat}{g:TG}{tb:TS}{D:Ends}{σ:St}{H:Hp}(Pv:Nat->St->Hp->Prop)(h0:Pv 0 σ H)
  (hs:∀ i σ H,i<n->Pv i σ H->g (.int (lo+i)) σ H fun σ2 H2=>tb { D with nx:=Pv (i+1),ct:=Pv (i+1),bk:=D.nx } σ2 H2)(hd:∀ σ H,Pv n σ H->D.nx σ H):
  ∃ W:Nat->Nat->St->Hp->Prop,(∃ m,W 0 m σ H)/\∀ i m σ H,W i m σ H ->
   ((Itr lo n).stop i H/\D.nx σ H)\/((Itr lo n).go i H/\∃ N:St->Hp->Prop,(∀ σ' H',N σ' H'->∃ m',m'<m/\W (i+1) m' σ' H')/\∀ x H',(Itr lo n).yld i H x H'->g x σ H' fun σ2 H2=>tb { D with nx:=N,ct:=N,bk:=D.nx } σ2 H2):=by
 refine ⟨fun i m σ H=>m=n - i/\i<=n/\Pv i σ H,⟨n,by simp,adY _,h0⟩,?_⟩
 rintro i m σ H ⟨rfl,hi,p⟩
 by_cases hlt:i<n
 ·refine .inr ⟨hlt,Pv (i+1),fun σ' H' p'=>⟨n - (i+1),by omega,rfl,hlt,p'⟩,fun x H' y=>?_⟩
  obtain ⟨e,y⟩:=y
  subst e y
  exact hs i σ _ hlt p
 ·have e:i=n:=by omega
  subst e
  exact .inl ⟨ado _,hd σ H p⟩
abbrev R2:=V->V->Hp->VK->Prop
def OpR (X:Cx)(f:Value->Value->Sem Value)(r:R2):Prop:=
 ∀ (pins:Fk)(s:Shared)(σ:St)(H:Hp)(x y:V)(v u:Value)(Q:VK),Inv X pins σ H s->RelV x v->RelV y u->r x y H Q ->
  wpAny (model X.prog X.w) X.A (f v u) (EP X pins σ Q) X.xe s
def UnR (X:Cx)(f:Value->Sem Value)(r:V->Hp->VK->Prop):Prop:=
 ∀ (pins:Fk)(s:Shared)(σ:St)(H:Hp)(x:V)(v:Value)(Q:VK),Inv X pins σ H s->RelV x v->r x H Q ->
  wpAny (model X.prog X.w) X.A (f v) (EP X pins σ Q) X.xe s
def tY (X:Cx)(f:Value)(r:Fs->Hp->VK->Prop):Prop:=
 ∀ (pins:Fk)(s:Shared)(σ:St)(H:Hp)(xs:Fs)(us:List Value)(Q:VK),Inv X pins σ H s->Vals xs us->r xs H Q ->
  wpAny (model X.prog X.w) X.A (call f us) (EP X pins σ Q) X.xe s
def tOp (r:R2)(ta tb:TE):TE:=fun σ H Q=>ta σ H fun x H1=>tb σ H1 fun y H2=>r x y H2 Q
def tUn (r:V->Hp->VK->Prop)(ta:TE):TE:=fun σ H Q=>ta σ H fun x H1=>r x H1 Q
inductive rI (C:Int->Int->Prop)(g:Int->Int->V)(x y:V)(H:Hp)(Q:VK):Prop
 | mk (i j:Int)(_:x=.int i)(_:y=.int j)(_:C i j)(_:Q (g i j) H)
inductive rI0 (g:Int->Int->V)(x y:V)(H:Hp)(Q:VK):Prop
 | mk (i j:Int)(_:x=.int i)(_:y=.int j)(_:Q (g i j) H)
def rU (g:Int->V):V->Hp->VK->Prop:=fun x H Q=>∃ i,x=.int i/\Q (g i) H
section
variable {X:Cx}{a b c:Expr}{ta tb tc:TE}{pos:Pos}
theorem abY (ha:PE X a ta)(hb:PE X b tb){pins:Fk}{s:Shared}{σ:St}{H:Hp}{R:V->V->Hp->Prop}(I:Inv X pins σ H s)
  (h:ta σ H fun x H1=>tb σ H1 fun y H2=>R x y H2){Q:Fm}{f:Value->Value->Sem Value}
  (hf:∀ v u s2 x y H2,Inv X pins σ H2 s2->RelV x v->RelV y u->R x y H2->wpAny (model X.prog X.w) X.A (f v u) Q X.xe s2):
  wpAny (model X.prog X.w) X.A (eval a X.env) (fun v s₁=>wpAny (model X.prog X.w) X.A (eval b X.env) (fun u s₂=>wpAny (model X.prog X.w) X.A (f v u) Q X.xe s₂) X.xe s₁) X.xe s:=by
 refine thn (ha pins s σ H _ I h) fun v s1 ⟨x,H1,I1,r1,q1⟩=>?_
 refine thn (hb pins s1 σ H1 _ I1 q1) fun u s2 ⟨y,H2,I2,r2,q2⟩=>?_
 exact hf v u s2 x y H2 I2 r1 r2 q2
theorem aW {op:Operator}{r:R2}(ho:OpR X (binaryOp op) r)(ha:PE X a ta)(hb:PE X b tb):PE X (.BinOp a op b pos) (tOp r ta tb):=by
 intro pins s σ H Q I h;exact wpAny_BinOp (abY ha hb I h fun v u s2 x y H2 I2 rx ry q=>ho pins s2 σ H2 x y v u Q I2 rx ry q)
theorem HN {op:UnaryOp}{r:V->Hp->VK->Prop}(ho:UnR X (unaryOp op) r)(ha:PE X a ta):PE X (.UnaryOp op a pos) (tUn r ta):=by
 intro pins s σ H Q I h;exact UnaryOp_ (thn (ha pins s σ H _ I h) fun v s1 ⟨x,H1,I1,r1,q1⟩=>ho pins s1 σ H1 x v Q I1 r1 q1)
theorem opI {f:Value->Value->Sem Value}{C:Int->Int->Prop}{g:Int->Int->Int}
  (rule:∀ (i j:Int)(t u:Tok)(s:Shared)(Q:Fm)(E:Fm),C i j->Q (.int (g i j) s.toks) { s with toks:=s.toks+1 }->wpAny (model X.prog X.w) X.A (f (.int i t) (.int j u)) Q E s):
  OpR X f (rI C fun i j=>.int (g i j)):=by
 intro pins s σ H x y v u Q I rx ry h
 obtain ⟨i,j,rfl,rfl,hc,q⟩:=h
 obtain ⟨t,rfl⟩:=rx
 obtain ⟨t',rfl⟩:=ry
 exact rule i j t t' s _ _ hc ⟨.int (g i j),H,I.tok _,⟨_,rfl⟩,q⟩
theorem acY {f:Value->Value->Sem Value}{g:Int->Int->Int}
  (rule:∀ (i j:Int)(t u:Tok)(s:Shared)(Q:Fm)(E:Fm),Q (.int (g i j) s.toks) { s with toks:=s.toks+1 }->wpAny (model X.prog X.w) X.A (f (.int i t) (.int j u)) Q E s):
  OpR X f (rI0 fun i j=>.int (g i j)):=by
 intro pins s σ H x y v u Q I rx ry h
 obtain ⟨i,j,rfl,rfl,q⟩:=h
 obtain ⟨t,rfl⟩:=rx
 obtain ⟨t',rfl⟩:=ry
 exact rule i j t t' s _ _ ⟨.int (g i j),H,I.tok _,⟨_,rfl⟩,q⟩
theorem abT {f:Value->Value->Sem Value}{g:Int->Int->Bool}
  (rule:∀ (i j:Int)(t u:Tok)(s:Shared)(Q:Fm)(E:Fm),Q (.bool (g i j)) s->wpAny (model X.prog X.w) X.A (f (.int i t) (.int j u)) Q E s):
  OpR X f (rI0 fun i j=>.bl (g i j)):=by
 intro pins s σ H x y v u Q I rx ry h
 obtain ⟨i,j,rfl,rfl,q⟩:=h
 obtain ⟨t,rfl⟩:=rx
 obtain ⟨t',rfl⟩:=ry
 exact rule i j t t' s _ _ ⟨.bl (g i j),H,I,rfl,q⟩
def CDiv (i j:Int):Prop:=0<j/\j<1073741824
def acM (i j:Int):Prop:=0<=j/\j<=1000000/\i.natAbs<2 ^ 64
def acN (i j:Int):Prop:=(-(2 ^ 64)<i/\i<2 ^ 64)\/(-(2 ^ 64)<j/\j<2 ^ 64)
theorem acN.ok {i j:Int}(h:acN i j):IntMulOk i j:=by
 rcases h with ⟨h1,h2⟩ | ⟨h1,h2⟩
 ·exact .of_left (intBits_le_64 h1 h2)
 ·exact .of_right (intBits_le_64 h1 h2)
theorem kE:OpR X (binaryOp .Add) (rI0 fun i j=>.int (i+j)):=acY fun _ _ _ _ _ _ _ q=>add_int q
theorem uq:OpR X (binaryOp .Sub) (rI0 fun i j=>.int (i - j)):=acY fun _ _ _ _ _ _ _ q=>sub_int q
theorem Bl:OpR X (binaryOp .Mult) (rI acN fun i j=>.int (i*j)):=opI fun _ _ _ _ _ _ _ hc q=>mul_int q hc.ok
theorem iK:OpR X (binaryOp .FloorDiv) (rI CDiv fun i j=>.int (i / j)):=opI fun i j _ _ _ _ _ hc q=>by
 have h1:(0:Int)<j:=hc.1;have h2:j<1073741824:=hc.2;exact floordiv_int (by omega) (by rw [Int.fdiv_eq_ediv_of_nonneg i (by omega)];exact q) (.inl (PyProof.noPylong_small (by omega)))
theorem cA:OpR X (binaryOp .Mod) (rI (fun _ j=>0<j) fun i j=>.int (i % j)):=opI fun i j _ _ _ _ _ hc q=>by
 have h1:(0:Int)<j:=hc;exact mod_int' (by omega) (by rw [Int.fmod_eq_emod_of_nonneg i (by omega)];exact q)
theorem wQ:OpR X (binaryOp .Pow) (rI acM fun i j=>.int (i ^ j.toNat)):=opI fun _ _ _ _ _ _ _ hc q=>pow_int_small hc.1 hc.2.1 hc.2.2 q
theorem unI {f:Value->Sem Value}{g:Int->Int}
  (rule:∀ (i:Int)(t:Tok)(s:Shared)(Q:Fm)(E:Fm),Q (.int (g i) s.toks) { s with toks:=s.toks+1 }->wpAny (model X.prog X.w) X.A (f (.int i t)) Q E s):
  UnR X f (rU fun i=>.int (g i)):=by
 intro pins s σ H x v Q I rx h
 obtain ⟨i,rfl,q⟩:=h
 obtain ⟨t,rfl⟩:=rx
 exact rule i t s _ _ ⟨.int (g i),H,I.tok _,⟨_,rfl⟩,q⟩
theorem zZ:UnR X (unaryOp .USub) (rU fun i=>.int (-i)):=unI fun _ _ _ _ _ q=>neg_int q
end
def acV:V->V->Bool
 | .non,.non=>true| .non,.int _=>true| .int _,.non=>true| .non,.bl _=>true| .bl _,.non=>true| .non,.str _=>true| .str _,.non=>true
 | .int _,.int _=>true| .bl _,.bl _=>true| .str _,.str _=>true| .byt _,.byt _=>true
 | .int _,.str _=>true| .str _,.int _=>true| .bl _,.str _=>true| .str _,.bl _=>true
 | _,_=>false
def rEq:R2:=fun x y H Q=>acV x y=true/\Q (.bl (decide (x=y))) H
def rNe:R2:=fun x y H Q=>acV x y=true/\Q (.bl (!decide (x=y))) H
theorem zK {i j:Int}:decide (V.int i=V.int j)=(i ==j):=by
 rw [aed];simp
theorem XJ {i j:Bool}:decide (V.bl i=V.bl j)=(i ==j):=by
 rw [aed];simp
theorem J8 {i j:Str}:decide (V.str i=V.str j)=(i ==j):=by
 rw [aed];simp
theorem J9 {i j:Array UInt8}:decide (V.byt i=V.byt j)=(i.toList ==j.toList):=by
 rw [aed];cases i;cases j;simp
section
variable {X:Cx}{a b c:Expr}{ta tb tc:TE}{pos:Pos}
theorem cV {pins:Fk}{σ:St}{H:Hp}{s:Shared}{Q:VK}{k k':Bool}(I:Inv X pins σ H s)(q:Q (.bl k) H)(e:k=k'):EP X pins σ Q (.bool k') s:=by
 subst e;exact ⟨.bl k,H,I,rfl,q⟩
theorem dU:OpR X (compareOp .Eq) rEq:=by
 intro pins s σ H x y v u Q I rx ry h;obtain ⟨hs,q⟩:=h;cases x with
 | non =>
  cases rx;cases y with
  | non=>cases ry;exact PySem.EqNone.eq_none_none (cV I q (by simp))
  | bl j=>cases ry;exact PySem.EqNone.eq_none_bool (cV I q (by simp))
  | int j=>obtain ⟨t',rfl⟩:=ry;exact PySem.EqNone.eq_none_int (cV I q (by simp))
  | str j=>obtain ⟨t',rfl⟩:=ry;exact PySem.EqNone.eq_none_str (cV I q (by simp))
  | _=>exact absurd (show false=true from hs) adv
 | bl i =>
  cases rx;cases y with
  | non=>cases ry;exact PySem.EqNone.eq_bool_none (cV I q (by simp))
  | bl j=>cases ry;exact eq_bool (cV I q XJ)
  | str j=>obtain ⟨t',rfl⟩:=ry;exact PySem.EqMixed.eq_bool_str (cV I q (by simp))
  | _=>exact absurd (show false=true from hs) adv
 | int i =>
  obtain ⟨t,rfl⟩:=rx;cases y with
  | non=>cases ry;exact PySem.EqNone.eq_int_none (cV I q (by simp))
  | int j=>obtain ⟨t',rfl⟩:=ry;exact eq_int (cV I q zK)
  | str j=>obtain ⟨t',rfl⟩:=ry;exact PySem.EqMixed.eq_int_str (cV I q (by simp))
  | _=>exact absurd (show false=true from hs) adv
 | str i =>
  obtain ⟨t,rfl⟩:=rx;cases y with
  | non=>cases ry;exact PySem.EqNone.eq_str_none (cV I q (by simp))
  | bl j=>cases ry;exact PySem.EqMixed.eq_str_bool (cV I q (by simp))
  | int j=>obtain ⟨t',rfl⟩:=ry;exact PySem.EqMixed.eq_str_int (cV I q (by simp))
  | str j=>obtain ⟨t',rfl⟩:=ry;exact eq_str (cV I q J8)
  | _=>exact absurd (show false=true from hs) adv
 | byt i =>
  obtain ⟨t,rfl⟩:=rx;cases y with
  | byt j=>obtain ⟨t',rfl⟩:=ry;exact PySem.W.eq_bytes (cV I q J9)
  | _=>exact absurd (show false=true from hs) adv
 | _=>cases y <;>exact absurd (show false=true from hs) adv
theorem yj:OpR X (compareOp .NotEq) rNe:=by
 intro pins s σ H x y v u Q I rx ry h;obtain ⟨hs,q⟩:=h;cases x with
 | non =>
  cases rx;cases y with
  | non=>cases ry;exact PySem.EqNone.ne_none_none (cV I q (by simp))
  | bl j=>cases ry;exact PySem.EqNone.ne_none_bool (cV I q (by simp))
  | int j=>obtain ⟨t',rfl⟩:=ry;exact PySem.EqNone.ne_none_int (cV I q (by simp))
  | str j=>obtain ⟨t',rfl⟩:=ry;exact PySem.EqNone.ne_none_str (cV I q (by simp))
  | _=>exact absurd (show false=true from hs) adv
 | bl i =>
  cases rx;cases y with
  | non=>cases ry;exact PySem.EqNone.ne_bool_none (cV I q (by simp))
  | bl j=>cases ry;exact ne_bool (cV I q (congrArg not XJ))
  | str j=>obtain ⟨t',rfl⟩:=ry;exact PySem.EqMixed.ne_bool_str (cV I q (by simp))
  | _=>exact absurd (show false=true from hs) adv
 | int i =>
  obtain ⟨t,rfl⟩:=rx;cases y with
  | non=>cases ry;exact PySem.EqNone.ne_int_none (cV I q (by simp))
  | int j=>obtain ⟨t',rfl⟩:=ry;exact ne_int (cV I q (congrArg not zK))
  | str j=>obtain ⟨t',rfl⟩:=ry;exact PySem.EqMixed.ne_int_str (cV I q (by simp))
  | _=>exact absurd (show false=true from hs) adv
 | str i =>
  obtain ⟨t,rfl⟩:=rx;cases y with
  | non=>cases ry;exact PySem.EqNone.ne_str_none (cV I q (by simp))
  | bl j=>cases ry;exact PySem.EqMixed.ne_str_bool (cV I q (by simp))
  | int j=>obtain ⟨t',rfl⟩:=ry;exact PySem.EqMixed.ne_str_int (cV I q (by simp))
  | str j=>obtain ⟨t',rfl⟩:=ry;exact ne_str (cV I q (congrArg not J8))
  | _=>exact absurd (show false=true from hs) adv
 | byt i =>
  obtain ⟨t,rfl⟩:=rx;cases y with
  | byt j=>obtain ⟨t',rfl⟩:=ry;exact PySem.W.ne_bytes (cV I q (congrArg not J9))
  | _=>exact absurd (show false=true from hs) adv
 | _=>cases y <;>exact absurd (show false=true from hs) adv
theorem Gd:OpR X (compareOp .Lt) (rI0 fun i j=>.bl (decide (i<j))):=abT fun _ _ _ _ _ _ _ q=>lt_int q
theorem qG:OpR X (compareOp .LtE) (rI0 fun i j=>.bl (decide (i<=j))):=abT fun _ _ _ _ _ _ _ q=>le_int q
theorem aaq:OpR X (compareOp .Gt) (rI0 fun i j=>.bl (decide (j<i))):=abT fun _ _ _ _ _ _ _ q=>gt_int q
theorem Cr:OpR X (compareOp .GtE) (rI0 fun i j=>.bl (decide (j<=i))):=abT fun _ _ _ _ _ _ _ q=>ge_int q
theorem Bm:OpR X (compareOp .In) (fun x y H Q=>∃ i j,x=.str i/\y=.str j/\Q (.bl (!(Builtin.Str.occurrences j i 0 j.length 1).isEmpty)) H):=by
 intro pins s σ H x y v u Q I rx ry h;obtain ⟨i,j,rfl,rfl,q⟩:=h;obtain ⟨t,rfl⟩:=rx;obtain ⟨t',rfl⟩:=ry;exact in_str (cV I q rfl)
theorem En:OpR X (compareOp .Is) (fun x y H Q=>y=.non/\Q (.bl (decide (x=.non))) H):=by
 intro pins s σ H x y v u Q I rx ry h;obtain ⟨rfl,q⟩:=h;cases ry;refine is_none_gen (cV I q ?_);cases x <;>first
  | (cases rx;rfl)
  | (obtain ⟨t,rfl⟩:=rx;rfl)
theorem YQ:OpR X (compareOp .IsNot) (fun x y H Q=>y=.non/\Q (.bl (!decide (x=.non))) H):=by
 intro pins s σ H x y v u Q I rx ry h;obtain ⟨rfl,q⟩:=h;cases ry;refine isnot_none_gen (cV I q ?_);cases x <;>first
  | (cases rx;rfl)
  | (obtain ⟨t,rfl⟩:=rx;rfl)
theorem aO (b:Expr){op:CmpOp}(h:op≠.In:=by decide)(h2:op≠.NotIn:=by decide):behindInMarks op b=false:=by
 have e1:(op ==CmpOp.In)=false:=by cases op <;>first| rfl| exact absurd rfl h
 have e2:(op ==CmpOp.NotIn)=false:=by cases op <;>first| rfl| exact absurd rfl h2
 cases b <;>simp [behindInMarks,e1,e2]
theorem iI {op:CmpOp}{r:R2}(ho:OpR X (compareOp op) r)(ha:PE X a ta)(hb:PE X b tb)(hm:behindInMarks op b=false):PE X (.Compare a [op] [b] pos) (tOp r ta tb):=by
 intro pins s σ H Q I h;exact wpAny_Compare1 (abY ha hb I h fun v u s2 x y H2 I2 rx ry q=>ho pins s2 σ H2 x y v u Q I2 rx ry q) hm
def Yn (t:TE):TT:=fun σ H Q=>t σ H fun x H'=>aa6 x fun k=>Q k H'
theorem aG {op:CmpOp}{r:R2}(ho:OpR X (compareOp op) r)(ha:PE X a ta)(hb:PE X b tb)(hm:behindInMarks op b=false):PT X (.Compare a [op] [b] pos) (Yn (tOp r ta tb)):=by
 intro pins s σ H Q I h;refine wpAny_isTrue_Compare1 (thn (ha pins s σ H _ I h) fun v s1 ⟨x,H1,I1,r1,q1⟩=>thn (hb pins s1 σ H1 _ I1 q1) fun u s2 ⟨y,H2,I2,r2,q2⟩=>
  thn (ho pins s2 σ H2 x y v u _ I2 r1 r2 q2) fun c s3 ⟨z,H3,I3,r3,k,e,q3⟩=>?_) hm
 subst e;cases r3;exact wpAny_truthy_bool ⟨H3,I3,q3⟩
def Og (r r':R2)(ta tb tc:TE):TE:=fun σ H Q=>ta σ H fun x H1=>tb σ H1 fun y H2=>r x y H2 fun z H3=>∃ k,z=.bl k /\
 (if k=true then tc σ H3 fun w' H4=>r' y w' H4 Q else Q (.bl false) H3)
theorem zu {op op':CmpOp}{r r':R2}(ho:OpR X (compareOp op) r)(ho':OpR X (compareOp op') r')(ha:PE X a ta)(hb:PE X b tb)(hc:PE X c tc)
  (hm:lastMarks [op,op'] [b,c]=false:=by with_unfolding_all rfl):PE X (.Compare a [op,op'] [b,c] pos) (Og r r' ta tb tc):=by
 intro pins s σ H Q I h;refine Compare_chain (thn (ha pins s σ H _ I h) fun v s1 ⟨x,H1,I1,r1,q1⟩=>chain_link (thn (hb pins s1 σ H1 _ I1 q1) fun u s2 ⟨y,H2,I2,r2,q2⟩=>
  thn (ho pins s2 σ H2 x y v u _ I2 r1 r2 q2) fun d s3 ⟨z,H3,I3,r3,k,e,q3⟩=>?_)) hm
 subst e;cases r3;refine wpAny_truthy_bool ?_;cases k with
 | false=>exact ite_ff ⟨.bl false,H3,I3,rfl,q3⟩
 | true=>exact ite_tt (chain_last (thn (hc pins s3 σ H3 _ I3 q3) fun w' s4 ⟨z',H4,I4,r4,q4⟩=>ho' pins s4 σ H4 y z' u w' Q I4 r2 r4 q4))
theorem mW {op op':CmpOp}{r r':R2}(ho:OpR X (compareOp op) r)(ho':OpR X (compareOp op') r')(ha:PE X a ta)(hb:PE X b tb)(hc:PE X c tc)
  (hm:lastMarks [op,op'] [b,c]=false:=by with_unfolding_all rfl):PT X (.Compare a [op,op'] [b,c] pos) (Yn (Og r r' ta tb tc)):=by
 intro pins s σ H Q I h;refine isTrue_chain (thn (ha pins s σ H _ I h) fun v s1 ⟨x,H1,I1,r1,q1⟩=>test_link (thn (hb pins s1 σ H1 _ I1 q1) fun u s2 ⟨y,H2,I2,r2,q2⟩=>
  thn (ho pins s2 σ H2 x y v u _ I2 r1 r2 q2) fun d s3 ⟨z,H3,I3,r3,k,e,q3⟩=>?_)) hm
 subst e;cases r3;refine wpAny_truthy_bool ?_;cases k with
 | false =>
  obtain ⟨k',e',q'⟩:=q3;cases e';exact ite_ff ⟨H3,I3,q'⟩
 | true =>
  refine ite_tt (test_last (thn (hc pins s3 σ H3 _ I3 q3) fun w' s4 ⟨z',H4,I4,r4,q4⟩=>thn (ho' pins s4 σ H4 y z' u w' _ I4 r2 r4 q4) fun d' s5 ⟨z2,H5,I5,r5,k2,e2,q5⟩=>?_));subst e2;cases r5;exact wpAny_truthy_bool ⟨H5,I5,q5⟩
theorem Bs:(sizeLine:Nat)<2 ^ 63:=by rw [sizeLine_eq];decide
theorem uU:OpR X (binaryOp .Add) (fun x y H Q=>∃ i j,x=.str i/\y=.str j/\i.length+j.length<=sizeLine/\Q (.str (i++j)) H):=by
 intro pins s σ H x y v u Q I rx ry h;obtain ⟨i,j,rfl,rfl,hz,q⟩:=h;obtain ⟨t,rfl⟩:=rx;obtain ⟨t',rfl⟩:=ry;exact add_str (fun t' tk=>⟨.str (i++j),H,I.tok _,⟨_,rfl⟩,q⟩) hz
def Oa (b:Expr):Prop:=∀ o i,subscripted b false o i=operate [o,i] (getItem o i)
theorem rG (ha:PE X a ta)(hb:PE X b tb)(hs:Oa b):
  PE X (.Subscript a b pos) (tOp (fun x y H Q=>∃ z i c,x=.str z/\y=.int i/\0<=i/\i<2 ^ 63/\i<z.length/\z.cps[i.toNat]?=some c/\Q (.str ⟨#[c]⟩) H) ta tb):=by
 intro pins s σ H Q I h;refine Subscript_ (abY ha hb I h fun v u s2 x y H2 I2 rx ry q=>?_);obtain ⟨z,i,c,rfl,rfl,h0,h63,h1,hc,q⟩:=q;obtain ⟨t,rfl⟩:=rx;obtain ⟨t',rfl⟩:=ry;have e:seqIndex? i z.length=some i.toNat:=PySem.StrLaws.seqIndex_nonneg h0 h1;exact tail_any (typeIs_str s2 z t) slot_str_getitem.lookup (getItem_str (c:=c) (by
  have e1:decide (i < -(2 ^ 63:Int))=false:=decide_eq_false (by omega);have e2:decide (i >=2 ^ 63)=false:=decide_eq_false (by omega);rw [e1,e2]<;>rfl) (by rw [e];exact hc) ⟨.str ⟨#[c]⟩,H2,I2.tok _,⟨_,rfl⟩,q⟩) (hs _ _)
theorem vals1 {x:V}{us:List Value}(r:Vals [x] us):∃ u,us=[u]/\RelV x u:=by
 cases r with
 | cons r1 r2=>cases r2;exact ⟨_,rfl,r1⟩
theorem vals2 {x y:V}{us:List Value}(r:Vals [x,y] us):∃ u w',us=[u,w']/\RelV x u/\RelV y w':=by
 cases r with
 | cons r1 r2 =>
  cases r2 with
  | cons r3 r4=>cases r4;exact ⟨_,_,rfl,r1,r3⟩
theorem Ks (hc:X.calm=true):tY X (.builtin "max") (fun xs H Q=>∃ i j,xs=[.int i,.int j]/\Q (.int (if j >i then j else i)) H):=by
 intro pins s σ H xs us Q I r h;obtain ⟨i,j,rfl,q⟩:=h;obtain ⟨u,w',rfl,⟨t,rfl⟩,⟨t',rfl⟩⟩:=vals2 r;refine max_two_ints (I.ok.hd hc) fun h' tk k=>⟨_,H,I.kept k,?_,q⟩;by_cases hj:j >i
 ·rw [if_pos hj,if_pos hj];exact ⟨_,rfl⟩
 ·rw [if_neg hj,if_neg hj];exact ⟨_,rfl⟩
theorem Ku:tY X (.type "int") (fun xs H Q=>(∃ i,xs=[.int i]/\Q (.int i) H)\/∃ k,xs=[.bl k]/\Q (.int (if k then 1 else 0)) H):=by
 intro pins s σ H xs us Q I r h;rcases h with ⟨i,rfl,q⟩ | ⟨k,rfl,q⟩
 ·obtain ⟨u,rfl,t,rfl⟩:=vals1 r;exact call_int_int ⟨.int i,H,I,⟨_,rfl⟩,q⟩
 ·obtain ⟨u,rfl,r1⟩:=vals1 r;cases r1;exact call_int_bool ⟨.int (if k then 1 else 0),H,I.tok _,⟨_,rfl⟩,q⟩
theorem dJ:tY X (.type "str") (fun xs H Q=>∃ i,xs=[.int i]/\i.natAbs.log2<1920/\Q (.str (toString i)) H):=by
 intro pins s σ H xs us Q I r h;obtain ⟨i,rfl,hz,q⟩:=h;obtain ⟨u,rfl,t,rfl⟩:=vals1 r;exact PySem.P.str_of_int hz ⟨.str _,H,I.tok _,⟨_,rfl⟩,q⟩
end
structure Zu (h:Heap)(x dx C:Addr)(mA:Fh):Prop where
 obj:h.get? x=some (instObj C dx)
 ns:h.Ns1 dx mA
 ne:dx≠x
theorem Ip {h:Heap}{dx:Addr}{mA:Fh}(n:h.Ns1 dx mA):∃ od,h.get? dx=some od/\∀ name,lookIn name od=some (mA name):=by
 obtain ⟨o,es,ep,ho,hd,hk,_,hm⟩:=n;refine ⟨o,ho,fun name=>?_⟩;have e:=hm name;unfold nsFind findBy at e;rw [<- Array.find?_toList] at e;unfold lookIn;rw [hd];dsimp only;split
 ·rename_i y q
  rw [q] at e;exact congrArg some e
 ·rename_i q
  rw [q] at e;have a:es.toList.any (·.refKey)=false:=by
   rw [List.any_eq_false];intro y hy;obtain ⟨z,t,hkey⟩:=hk y (Array.mem_toList_iff.mp hy);simp [DictEntry.refKey,hkey]
  have a':¬ es.toList.any (·.refKey)=true:=by rw [a];exact adv
  rw [if_neg a'];exact congrArg some e
theorem Zu.look {h:Heap}{x dx C:Addr}{mA:Fh}(I:Zu h x dx C mA):∃ od,PySem.W.InstAt h x (instObj C dx) C (some od)/\∀ name,lookIn name od=some (mA name):=
 let ⟨od,ho,hl⟩:=Ip I.ns;⟨od,⟨I.obj,rfl,rfl,ho⟩,hl⟩
section
variable {prog:Program}{w:World}{A:Around}{E:Fm}{s:Shared}{K:Fa}{x dx C f:Addr}{mA:Fh}{name:Str}{v:Value}
theorem get_map {expr:Bool}{Q:Fm}(X:K.In s.heap)(I:Zu s.heap x dx C mA)(hg:plainGet K C name=true)(hh:hasDictIn K C=true)
  (ha:PySem.W.findIn K (.ref C) name=some none)(hv:mA name=some v)(hv':handedIn v=true)(h:Q v { s with toks:=s.toks+1 }):
  wpAny (model prog w) A (getAttr (.ref x) name expr) Q E s:=by
 obtain ⟨od,J,hl⟩:=I.look
 exact PySem.W.get_value X J (plainGet_of hg).1 (PySem.W.findObj_own hh ha rfl (by rw [hl,hv])) hv' h
theorem Nt {pl:Sem Bool}{Q:Value × List Value->Shared->Prop}(X:K.In s.heap)(I:Zu s.heap x dx C mA)(hg:plainGet K C name=true)
  (hf:PySem.W.findIn K (.ref C) name=some (some (.ref f)))(ht:isFn K (.ref f)=true)(hv:mA name=none)(h:Q (.ref f,[.ref x]) s):
  wpAny (model prog w) A (getMethod (.ref x) name pl) Q E s:=by
 obtain ⟨od,J,hl⟩:=I.look
 exact PySem.W.method_fn X J (plainGet_of hg).1 (plainGet_of hg).2 hf (beq_iff_eq.mp ht) (by show (lookIn name od).map (·.isSome)=some false;rw [hl,hv];rfl) h
theorem Yy {ns:List Str}{Q:Unit->Shared->Prop}(X:K.In s.heap)(I:Zu s.heap x dx C mA)
  (hs:PySem.W.findIn K (.ref C) "__setattr__"=some (some (.builtin "object.__setattr__")))(hp:plainOver K C=true)(ht:takerIn K C name=some none)(hh:hasDictIn K C=true)
  (hw:PySem.Within mA ns)(hsz:ns.length<=sizeLine)
  (h:∀ h',Zu h' x dx C (fun y=>if y=name then some v else mA y)->Heap.SameBut dx s.heap h'->Q () { s with heap:=h',toks:=s.toks+2 }):
  wpAny (model prog w) A (setAttr (.ref x) name v) Q E s:=by
 obtain ⟨od,J,hl⟩:=I.look
 refine PySem.W.set_plain X J hs (PySem.W.osa_open (s:={ s with toks:=s.toks+1 }) (r:=none) X J hp ht fun b=>?_)
 obtain ⟨cd,hc,hd'⟩:=PySem.W.any_some hh
 have hx:s.heap.get? x=some ⟨.ref C,some dx,.plain,#[]⟩:=I.obj
 refine wpAny_bind (wpAny_pure (wpAny_bind (wpAny_bind (wpAny_loadPart hx (wpAny_bind (PySem.W.Looks.here (s:={ s with toks:=s.toks+1 }) (PySem.W.looks_clsIn X hc) ?_))))))
 rw [hd']
 refine wpAny_pure (a:=some dx) (wpAny_bind (wpAny_pure (wpAny_bind ?_)))
 refine wpAny_nsSet1 (s:={ s with toks:=s.toks+1 }) I.ns fun h' hn2 hs2=>?_
 obtain ⟨oD,esD,epD,hoD,hdD,hcD⟩:=hn2.count (PySem.Within.cons name v hw)
 refine wpAny_bind (wpAny_lookBehind hoD (by rw [hdD];exact pastItsLine_dict (aec hcD (by rw [adF];omega))) ?_)
 exact wpAny_pure (h _ ⟨(hs2.2 _ (Ne.symm I.ne)).trans I.obj,hn2,I.ne⟩ hs2)
theorem M6 {R:Result->Shared->Prop}{vs:List Value}{kw:List (Str × Value)}(X:K.In s.heap)(hm:makesIn K C=true)
  (hi:PySem.W.findIn K (.ref C) "__init__"=some (some (.ref f)))(hf:PySem.W.typeIn K (.ref f)=some (.type "function"))
  (h:codeAny (model prog w) (A.under (.builtin "type.__call__" ⟨.ref C::vs,kw⟩)) (.call (.ref f) ⟨.ref (s.heap.objs.size+1)::vs,kw⟩) (PySem.W.InitBack (s.heap.objs.size+1) R)
   { s with heap:=(s.heap.push emptyDict).push (instObj C s.heap.objs.size) }):
  codeAny (model prog w) A (.call (.ref C) ⟨vs,kw⟩) R s:=by
 obtain ⟨hh,g,d,t,os⟩:=s
 exact PySem.W.make_core (PySem.W.makes_of X hm) (PySem.W.looks_findIn X hi) (fun self=>PySem.W.bind_fn X self hf) (.inl rfl) h
end
def zU (f:Str)(v:V):List (Str × V)->List (Str × V)
 | []=>[(f,v)]
 | (g,x)::r=>if g=f then (g,v)::r else (g,x)::zU f v r
theorem wV (f g:Str)(v:V):∀ fs:List (Str × V),(zU f v fs).lookup g=if g=f then some v else fs.lookup g
 | []=>by
  show List.lookup g [(f,v)]=_;by_cases h:g=f
  ·have hb:(g ==f)=true:=beq_iff_eq.mpr h;simp only [List.lookup,hb,if_pos h]
  ·have hb:(g ==f)=false:=beq_eq_false_iff_ne.mpr h;simp only [List.lookup,hb,if_neg h]
 | (k,x)::r=>by
  have ih:=wV f g v r;rw [show zU f v ((k,x)::r)=(if k=f then (k,v)::r else (k,x)::zU f v r) from rfl];by_cases hk:k=f
  ·rw [if_pos hk];by_cases h:g=k
   ·have hb:(g ==k)=true:=beq_iff_eq.mpr h;simp only [List.lookup,hb,if_pos (h.trans hk)]
   ·have hb:(g ==k)=false:=beq_eq_false_iff_ne.mpr h;simp only [List.lookup,hb,if_neg (fun e:g=f=>h (e.trans hk.symm))]
  ·rw [if_neg hk];by_cases h:g=k
   ·have hb:(g ==k)=true:=beq_iff_eq.mpr h;simp only [List.lookup,hb,if_neg (fun e:g=f=>hk (h.symm.trans e))]
   ·have hb:(g ==k)=false:=beq_eq_false_iff_ne.mpr h;simp only [List.lookup,hb];exact ih
theorem wY (f:Str)(v:V):∀ fs:List (Str × V),f∈(zU f v fs).map (·.1)/\∀ g,g∈fs.map (·.1)->g∈(zU f v fs).map (·.1)
 | []=>⟨by simp [zU],fun g h=>by simp at h⟩
 | (k,x)::r=>by
  obtain ⟨i1,i2⟩:=wY f v r;rw [show zU f v ((k,x)::r)=(if k=f then (k,v)::r else (k,x)::zU f v r) from rfl];by_cases hk:k=f
  ·rw [if_pos hk];subst hk;exact ⟨by simp,fun g h=>by simpa using h⟩
  ·rw [if_neg hk];refine ⟨?_,fun g h=>?_⟩
   ·rw [adR];exact adI _ i1
   ·rw [adR] at h ⊢;rcases adt.mp h with e| e
    ·exact adt.mpr (.inl e)
    ·exact adI _ (i2 g e)
theorem wX (f:Str)(v:V):∀ fs:List (Str × V),(zU f v fs).length<=fs.length+1
 | []=>by simp [zU]
 | (k,x)::r=>by
  have ih:=wX f v r;rw [show zU f v ((k,x)::r)=(if k=f then (k,v)::r else (k,x)::zU f v r) from rfl];by_cases hk:k=f
  ·rw [if_pos hk,adF,adF];omega
  ·rw [if_neg hk,adF,adF];omega
theorem Fo.some_of {v:V}{o:Option Value}(r:Fo (some v) o):∃ u,o=some u/\RelV v u:=by
 cases o with
 | none=>exact (show False from r).elim
 | some u=>exact ⟨u,rfl,r⟩
theorem Fo.none_of {o:Option Value}(r:Fo none o):o=none:=by
 cases o with
 | none=>rfl
 | some u=>exact (show False from r).elim
theorem JX {v:V}{u:Value}(r:RelV v u):handedIn u=true:=by
 cases v with
 | non=>cases (show u=Value.none from r);rfl
 | bl b=>cases (show u=Value.bool b from r);rfl
 | int i=>obtain ⟨t,e⟩:=(show ∃ t,u=Value.int i t from r);cases e;rfl
 | str x=>obtain ⟨t,e⟩:=(show ∃ t,u=Value.str x t from r);cases e;rfl
 | byt b=>obtain ⟨t,e⟩:=(show ∃ t,u=Value.bytes b t from r);cases e;rfl
 | flt b=>obtain ⟨t,e⟩:=(show ∃ t,u=Value.float b t from r);cases e;rfl
 | ref a=>cases (show u=Value.ref a from r);rfl
 | ty n=>cases (show u=Value.type n from r);rfl
section
variable {P:Program}{w:World}{H H':Hp}{h h':Heap}{a C dx:Addr}{fs fs':List (Str × V)}
theorem CJ (hok:HOk P w H h)(e:H a=some (.ins C dx fs)):∃ mA,Zu h a dx C mA/\(∀ f,Fo (fs.lookup f) (mA f))/\PySem.Within mA (fs.map (·.1))/\fs.length<=1000/\H dx=some (.own a):=by
 obtain ⟨d,z,ne,ob,mA,n,r,q⟩:=(show jV P w H h a (.ins C dx fs) from hok a _ e);exact ⟨mA,⟨ob,n,ne⟩,r,q,z,d⟩
end
structure Cls (K:Fa)(C:Addr):Prop where
 pg:plainGet K C Str.empty=true
 hd:hasDictIn K C=true
 po:plainOver K C=true
 sa:PySem.W.findIn K (.ref C) "__setattr__"=some (some (.builtin "object.__setattr__"))
theorem Cls.get {K:Fa}{C:Addr}(c:Cls K C)(f:Str):plainGet K C f=true:=c.pg
def dW (K:Fa)(C:Addr)(f:Str):Prop:=PySem.W.findIn K (.ref C) f=some none
theorem dW.taker {K:Fa}{C:Addr}{f:Str}(n:dW K C f):takerIn K C f=some none:=by
 unfold takerIn;rw [show PySem.W.findIn K (.ref C) f=some none from n];rfl
structure Meth (K:Fa)(C:Addr)(m:Str)(f:Addr):Prop where
 at_:PySem.W.findIn K (.ref C) m=some (some (.ref f))
 fn:isFn K (.ref f)=true
 kp:keepIn K (.ref f)=true
section
variable {X:Cx}{pins:Fk}{σ:St}{H:Hp}{s:Shared}{a C dx:Addr}{fs:List (Str × V)}{f:Str}{v:V}{A:Around}{E:Fm}
theorem yG {b:Bool}{Q:Fm}(I:Inv X pins σ H s)(e:H a=some (.ins C dx fs))(c:Cls X.K C)(n:dW X.K C f)(l:fs.lookup f=some v)
  (h:∀ u s',Inv X pins σ H s'->RelV v u->Q u s'):wpAny (model X.prog X.w) A (getAttr (.ref a) f b) Q E s:=by
 obtain ⟨mA,O,r,_,_,_⟩:=CJ I.hok e;obtain ⟨u,hu,ru⟩:=Fo.some_of (v:=v) (o:=mA f) (by rw [<- l];exact r f);exact get_map I.kIn O (c.get f) c.hd n hu (JX ru) (h u _ (I.tok _) ru)
theorem uV {m:Str}{g:Addr}{pl:Sem Bool}{Q:Value × List Value->Shared->Prop}(I:Inv X pins σ H s)(e:H a=some (.ins C dx fs))(c:Cls X.K C)(k:Meth X.K C m g)(l:fs.lookup m=none)
  (h:Q (.ref g,[.ref a]) s):wpAny (model X.prog X.w) A (getMethod (.ref a) m pl) Q E s:=by
 obtain ⟨mA,O,r,_,_,_⟩:=CJ I.hok e;have hn:mA m=none:=Fo.none_of (by rw [<- l];exact r m);exact Nt I.kIn O (c.get m) k.at_ k.fn hn h
theorem yD {y:V}{u:Value}{Q:Unit->Shared->Prop}(I:Inv X pins σ H s)(e:H a=some (.ins C dx fs))(c:Cls X.K C)(n:dW X.K C f)(hl:fs.length<1000)(ry:RelV y u)
  (h:∀ s',Inv X pins σ (upd H a (.ins C dx (zU f y fs))) s'->Q () s'):wpAny (model X.prog X.w) A (setAttr (.ref a) f u) Q E s:=by
 obtain ⟨mA,O,r,wi,_,ho⟩:=CJ I.hok e;have hz:(fs.map (·.1)).length<=sizeLine:=by rw [abW,sizeLine_eq];omega
 refine Yy I.kIn O c.sa c.po n.taker c.hd wi hz fun h' O' sb=>h _ ?_;have hd:∃ o,h'.get? dx=some o:=let ⟨o,_,_,e',_⟩:=O'.ns;⟨o,e'⟩;refine I.write (x:=a) (e:=dx) (by rw [e];exact True.intro) (.inr ho) (fun b q hb z=>(sb.2 b hb).trans z) hd ?_;refine ⟨by rw [aX O.ne];exact ho,?_,O.ne,O'.obj,_,O'.ns,fun g=>?_,fun g hg=>?_⟩
 ·have:=wX f y fs;omega
 ·show Fo ((zU f y fs).lookup g) (if g=f then some u else mA g);rw [wV];by_cases q:g=f
  ·rw [if_pos q,if_pos q];exact ry
  ·rw [if_neg q,if_neg q];exact r g
 ·by_cases q:g=f
  ·rw [q];exact (wY f y fs).1
  ·refine (wY f y fs).2 g (wi g fun z=>hg ?_);show (if g=f then some u else mA g)=none;rw [if_neg q];exact z
theorem Inv.made (I:Inv X pins σ H s):Inv X pins σ (upd (upd H s.heap.objs.size (.own (s.heap.objs.size+1))) (s.heap.objs.size+1) (.ins C s.heap.objs.size []))
  { s with heap:=(s.heap.push emptyDict).push (instObj C s.heap.objs.size) }:=by
 have e1:(s.heap.push emptyDict).get? s.heap.objs.size=some emptyDict:=adq s.heap rfl;have e2:((s.heap.push emptyDict).push (instObj C s.heap.objs.size)).get? (s.heap.objs.size+1)=some (instObj C s.heap.objs.size):=by
  have:=adq (s.heap.push emptyDict) (o:=instObj C s.heap.objs.size) rfl;rwa [ad1] at this
 have e3:(s.heap.push emptyDict).Ns s.heap.objs.size (fun _=>none):=⟨emptyDict,#[],_,e1,rfl,(fun e he=>absurd he (by simp)),fun _=>rfl⟩;have I1:=I.laid (a:=s.heap.objs.size) (o:=.own (s.heap.objs.size+1)) (h':=s.heap.push emptyDict) (t':=s.toks) (fun b u q=>adn _ q) (ado _) ⟨_,e1⟩;refine I1.laid (a:=s.heap.objs.size+1) (o:=.ins C s.heap.objs.size []) (t':=s.toks) (fun b u q=>adn _ q) (Nat.le_of_eq (ad1 _ _)) ?_;have ne:s.heap.objs.size≠s.heap.objs.size+1:=adV (Nat.lt_succ_self _);refine ⟨by rw [aX ne,cC],adY _,ne,e2,fun _=>none,(Heap.Ns1.of_empty e3).at fun o q=>adn _ q,fun _=>True.intro,fun y hy=>absurd rfl hy⟩
theorem Zq {prog:Program}{w:World}{env:Env}{e:Expr}{f:Str}{pos:Pos}{s:Shared}{Q:Fm}(hb:attributeBase e f env (eval e env)=eval e env)
  (h:wpAny (model prog w) A (eval e env) (fun o s₁=>wpAny (model prog w) A (getAttr o f true) Q E s₁) E s):wpAny (model prog w) A (eval (.Attribute e f pos) env) Q E s:=
 Attribute_any_ h (by rw [arm_eval_Attribute,hb])
end
inductive kFld (K:Fa)(f:Str)(x:V)(H:Hp)(Q:VK):Prop
 | mk (a C dx:Addr)(fs:List (Str × V))(v:V)(_:x=.ref a)(_:H a=some (.ins C dx fs))(_:Cls K C)(_:dW K C f)(_:fs.lookup f=some v)(_:Q v H)
def acQ (K:Fa)(ta:TE)(f:Str):TE:=fun σ H Q=>ta σ H fun x H1=>kFld K f x H1 Q
inductive kPut (K:Fa)(f:Str)(x y:V)(H:Hp)(P:Hp->Prop):Prop
 | mk (a C dx:Addr)(fs:List (Str × V))(_:x=.ref a)(_:H a=some (.ins C dx fs))(_:Cls K C)(_:dW K C f)(_:fs.length<1000)(_:P (upd H a (.ins C dx (zU f y fs))))
def sFld (K:Fa)(ta tv:TE)(f:Str):TS:=fun D σ H=>tv σ H fun y H1=>ta σ H1 fun x H2=>kPut K f x y H2 fun H3=>D.nx σ H3
def adi (X:Cx)(op:Operator)(rd:V->V->Hp->VK->Prop):Prop:=
 ∀ (pins:Fk)(s:Shared)(σ:St)(H:Hp)(x y:V)(u v:Value)(Q:VK),Inv X pins σ H s->RelV x u->RelV y v->rd x y H Q->wpAny (model X.prog X.w) X.A (inplaceOp op u v) (EP X pins σ Q) X.xe s
def YD (K:Fa)(ta tv:TE)(rd:V->V->Hp->VK->Prop)(f:Str):TS:=fun D σ H=>ta σ H fun x H1=>∃ a C dx fs v,x=.ref a/\H1 a=some (.ins C dx fs)/\Cls K C/\dW K C f/\fs.lookup f=some v /\
 tv σ H1 fun y H2=>rd v y H2 fun z H3=>∃ dx' fs',H3 a=some (.ins C dx' fs')/\fs'.length<1000/\D.nx σ (upd H3 a (.ins C dx' (zU f z fs')))
section
variable {X:Cx}{o e value:Expr}{f:Str}{pos pos' tpos:Pos}{ta tv:TE}
theorem aY (he:PE X e ta)(hb:attributeBase e f X.env (eval e X.env)=eval e X.env):PE X (.Attribute e f pos) (acQ X.K ta f):=by
 intro pins s σ H Q I h;refine Zq hb (thn (he pins s σ H _ I h) fun u s1 ⟨x,H1,I1,rx,a,C,dx,fs,v,ex,ea,c,n,l,q⟩=>?_);subst ex;obtain rfl:u=Value.ref a:=rx;exact yG I1 ea c n l fun u' s2 I2 ru=>⟨v,H1,I2,ru,q⟩
theorem iH (ha:PE X o ta)(hv:PE X value tv)(hs:swapsWith value (some (.Attribute o f pos')) pos.line X.env=pure false):PS X (.Assign [.Attribute o f pos'] value pos) (sFld X.K ta tv f):=by
 intro pins s σ H D I h;refine plainObj_wpAny_Assign_Attribute (thn (hv pins s σ H _ I h) fun u s1 ⟨y,H1,I1,ry,q⟩=>thn (ha pins s1 σ H1 _ I1 q) fun ov s2 ⟨x,H2,I2,rx,a,C,dx,fs,ex,ea,c,n,l,q2⟩=>?_) hs;subst ex;obtain rfl:ov=Value.ref a:=rx;exact yD I2 ea c n l ry fun s3 I3=>⟨σ,_,I3,q2⟩
theorem Hy {op:Operator}{rd:V->V->Hp->VK->Prop}(ha:PE X o ta)(hv:PE X value tv)(hop:adi X op rd):PS X (.AugAssign (.Attribute o f tpos) op value pos) (YD X.K ta tv rd f):=by
 intro pins s σ H D I h;refine wpAny_AugAssign_AttributeAny (thn (ha pins s σ H _ I h) fun ov s1 ⟨x,H1,I1,rx,a,C,dx,fs,v,ex,ea,c,n,l,q⟩=>?_);subst ex;obtain rfl:ov=Value.ref a:=rx;refine yG I1 ea c n l fun u s2 I2 ru=>thn (hv pins s2 σ H1 _ I2 q) fun w3 s3 ⟨y,H2,I3,ry,q3⟩=>thn (hop pins s3 σ H2 v y u w3 _ I3 ru ry q3) fun w4 s4 ⟨z,H3,I4,rz,dx',fs',ea',l',q4⟩=>?_;exact yD I4 ea' c n l' rz fun s5 I5=>⟨σ,_,I5,q4⟩
def rAdd:V->V->Hp->VK->Prop:=fun x y H Q=>∃ i j,x=.int i/\y=.int j/\Q (.int (i+j)) H
theorem aa8:adi X .Add rAdd:=by
 rintro pins s σ H x y u v Q I rx ry ⟨i,j,rfl,rfl,q⟩;obtain ⟨t,rfl⟩:=(show ∃ t,u=Value.int i t from rx);obtain ⟨t',rfl⟩:=(show ∃ t',v=Value.int j t' from ry);exact PyProof.Rows.iadd_int ⟨.int (i+j),H,I.tok _,⟨_,rfl⟩,q⟩
end
structure qu (k:Nat)(A:Around):Prop where
 hd:A.handled=none
 dp:A.depth+3*k+5<recursionLimit
 un:A.units+16*k+200<cLine
theorem qu.mono {j k:Nat}{A:Around}(r:qu k A)(h:j<=k):qu j A:=⟨r.hd,by have:=r.dp;omega,by have:=r.un;omega⟩
theorem qu.deeper {k:Nat}{A:Around}(r:qu (k+1) A)(env:Env):qu k (A.deeper env):=
 ⟨r.hd,by have:=r.dp;show A.depth+1+3*k+5<_;omega,by have:=r.un;show A.units+3+16*k+200<_;omega⟩
theorem Gh {A:Around}{C:Addr}{us:List Value}{kw:List (Str × Value)}:(A.under (.builtin "type.__call__" ⟨.ref C::us,kw⟩)).depth=A.depth+1:=by
 first| rfl| simp [Around.under,Code.weight,Code.isCreation,Code.isGuard,Code.isCaller,Code.frames,Code.isFrame,guardIds]
theorem Gg {A:Around}{C:Addr}{us:List Value}{kw:List (Str × Value)}:(A.under (.builtin "type.__call__" ⟨.ref C::us,kw⟩)).units=A.units+1:=by
 first| rfl| simp [Around.under,Code.cUnits,Code.frames,Code.isFrame]
theorem qu.make {k:Nat}{A:Around}(r:qu (k+1) A)(C:Addr)(us:List Value)(kw:List (Str × Value)):qu k (A.under (.builtin "type.__call__" ⟨.ref C::us,kw⟩)):=
 ⟨r.hd,by have:=r.dp;rw [Gh];omega,by have:=r.un;rw [Gg];omega⟩
theorem qu.depth {k:Nat}{A:Around}(r:qu k A):A.depth<recursionLimit:=by have:=r.dp;omega
theorem qu.units {k:Nat}{A:Around}(r:qu k A):A.units+64<cLine:=by have:=r.un;omega
def ab6:TA:=fun _ H Q=>Q [] H
def Z6 (ta:TE)(tr:TA):TA:=fun σ H Q=>ta σ H fun x H1=>tr σ H1 fun xs H2=>Q (x::xs) H2
section
variable {X:Cx}{e:Expr}{es:List Expr}{te:TE}{t:TA}{pos:Pos}
theorem aj:PA X [] ab6:=fun _ _ _ _ H Q I h=>Calls.spliced_nil ⟨[],H,I,.nil,h⟩
theorem bG (ha:PE X e te)(hr:PA X es t)(hs:starEach (e::es) X.env=(false,eval e X.env)::starEach es X.env:=by rfl):PA X (e::es) (Z6 te t):=by
 intro pos pins s σ H Q I h;rw [hs];show wpAny _ _ (spliced ((false,eval e X.env)::backTo pos (starEach es X.env))) _ _ s;refine aeU (thn (ha pins s σ H _ I h) fun u s1 ⟨x,H1,I1,r1,q1⟩=>?_);exact thn (hr pos pins s1 σ H1 _ I1 q1) fun us s2 ⟨xs,H2,I2,r2,q2⟩=>⟨x::xs,H2,I2,.cons r1 r2,q2⟩
def tTup (t:TA):TE:=fun σ H Q=>t σ H fun xs H1=>xs.length<=sizeLine/\∀ p,H1 p=none->Q (.ref p) (upd H1 p (.tup xs))
def tLst (t:TA):TE:=fun σ H Q=>t σ H fun xs H1=>xs.length<=sizeLine/\∀ p,H1 p=none->Q (.ref p) (upd H1 p (.lst xs))
theorem f9 {x1} (h:PA X es t):PE X (.Tuple es x1 pos) (tTup t):=by
 intro pins s σ H Q I hq;refine wpAny_Tuple_spliced (thn (h pos pins s σ H _ I hq) fun us s1 ⟨xs,H1,I1,r,z,q⟩=>⟨by rw [<- r.length];exact z,?_⟩);have hf:H1 s1.heap.objs.size=none:=I1.hok.fresh (ado _);refine ⟨.ref s1.heap.objs.size,upd H1 s1.heap.objs.size (.tup xs),I1.laid (t':=s1.toks) (fun b u e=>adn _ e) (ado _) ?_,rfl,q _ hf⟩;exact ⟨z,us,r,⟨_,adq _ rfl,rfl,_,rfl⟩⟩
theorem bO (h:PA X es t):PE X (.List es pos) (tLst t):=by
 intro pins s σ H Q I hq;refine wpAny_List_spliced (thn (h pos pins s σ H _ I hq) fun us s1 ⟨xs,H1,I1,r,z,q⟩=>⟨by rw [<- r.length];exact z,?_⟩);have hf:H1 s1.heap.objs.size=none:=I1.hok.fresh (ado _);refine ⟨.ref s1.heap.objs.size,upd H1 s1.heap.objs.size (.lst xs),I1.laid (t':=s1.toks) (fun b u e=>adn _ e) (ado _) ?_,rfl,q _ hf⟩;exact ⟨z,us,0,r,adq _ rfl⟩
end
abbrev Sp:=Fs->Hp->VK->XK->Prop
abbrev CXT:=List Env->Hp->Shared->XK->Fm
structure Zv (P:Program)(w:World)(K:Fa)(mg:Fh)(base:Heap)(A:Around)(outer:List Env)(s:Shared)(H:Hp):Prop where
 frames:A.frames=some outer
 mod:Mod K mg base
 bs:∀ b o,base.get? b=some o->s.heap.get? b=some o/\H b=none
 bsz:base.objs.size<=s.heap.objs.size
 EY:s.heap.FunFrames base outer
 frf:∀ b∈frs outer,H b=none
 hok:HOk P w H s.heap
 bare:AllBare s.gens
def CE (outer:List Env)(P:Program)(w:World)(H:Hp)(s:Shared)(Q:VK)(u:Value)(s':Shared):Prop:=
 ∃ v H',s'.os=s.os/\AllBare s'.gens/\Un (frs outer) [] H H' s.heap s'.heap/\HOk P w H' s'.heap/\RelV v u/\Q v H'
def CR (CX:CXT)(outer:List Env)(P:Program)(w:World)(H:Hp)(s:Shared)(Q:VK)(E:XK)(r:Result)(s':Shared):Prop:=
 match r with
 | .ok (.ret u)=>CE outer P w H s Q u s'
 | .ok _=>False
 | .error e=>CX outer H s E e s'
structure zT (P:Program)(w:World)(K:Fa)(mg:Fh)(base:Heap)(CX:CXT)(k:Nat)(f:Addr)(fd:Ff)(ps:List Str)(sp:Sp):Prop where
 len:∀ vs H Q E,sp vs H Q E->vs.length=ps.length
 run:∀ (A:Around)(outer:List Env)(s:Shared)(H:Hp)(args:Args)(us:List Value)(vs:Fs)(Q:VK)(E:XK),qu k A->Zv P w K mg base A outer s H->BindsTo s fd args (ps.zip us)->Vals vs us->sp vs H Q E ->
  codeAny (model P w) A (.call (.ref f) args) (CR CX outer P w H s Q E) s
theorem Zv.make {P:Program}{w:World}{K:Fa}{mg:Fh}{base:Heap}{A:Around}{outer:List Env}{s:Shared}{H:Hp}(e:Zv P w K mg base A outer s H)(C:Addr)(us:List Value)(kw:List (Str × Value)):
  Zv P w K mg base (A.under (.builtin "type.__call__" ⟨.ref C::us,kw⟩)) outer s H:=⟨by first| exact e.frames| (simpa [Around.under,Code.envs,Code.isFrame,pushEnvs] using e.frames),e.mod,e.bs,e.bsz,e.EY,e.frf,e.hok,e.bare⟩
section
variable {X:Cx}{pins:Fk}{σ:St}{H:Hp}{s s':Shared}
theorem Inv.env0 (I:Inv X pins σ H s):Zv X.prog X.w X.K X.mg X.base X.A X.stack s H:=
 ⟨I.ok.frames,I.ok.mod,I.bs,aec I.ok.bsz I.sz,I.stack,I.Cd,I.hok,I.bare⟩
theorem Inv.after {Q:VK}{u:Value}(I:Inv X pins σ H s)(h:CE X.stack X.prog X.w H s Q u s'):EP X pins σ Q u s':=by
 obtain ⟨v,H',os,bare,un,hok,r,q⟩:=h;obtain ⟨hh,g,d,t,os'⟩:=s';obtain rfl:os'=s.os:=os;exact ⟨v,H',I.call (h':=hh) (g':=g) (d':=d) (t':=t) (ch:=[]) un hok bare (fun b z=>absurd z (by simp)),r,q⟩
end
def Z8 (sp:Sp)(dvs:Fs)(E:XK)(t:TA):TE:=fun σ H Q=>t σ H fun vs H1=>sp (vs++dvs) H1 Q E
inductive kMet (C:Addr)(m:Str)(x:V)(H:Hp)(P:Prop):Prop
 | mk (a dx:Addr)(fs:List (Str × V))(_:x=.ref a)(_:H a=some (.ins C dx fs))(_:fs.lookup m=none)(_:P)
def ZX (C:Addr)(m:Str)(sp:Sp)(dvs:Fs)(E:XK)(ta:TE)(t:TA):TE:=fun σ H Q=>ta σ H fun x H1=>kMet C m x H1 (t σ H1 fun vs H2=>sp (x::(vs++dvs)) H2 Q E)
def Z0 (C:Addr)(sp:Sp)(dvs:Fs)(E:XK)(t:TA):TE:=fun σ H Q=>t σ H fun vs H1=>∀ x dx,H1 x=none->H1 dx=none->dx≠x ->
 sp (.ref x::(vs++dvs)) (upd (upd H1 dx (.own x)) x (.ins C dx [])) (fun v H2=>v=.non/\Q (.ref x) H2) E
def Binds (K:Fa)(fd:Ff)(ps:List Str)(ds:List Value):Prop:=
 ∀ (s:Shared)(us:List Value),K.In s.heap->(us++ds).length=ps.length->BindsTo s fd ⟨us,[]⟩ (ps.zip (us++ds))
theorem Binds.all {K:Fa}{fd:Ff}{ps:List Str}(h:∀ us:List Value,us.length=ps.length->bindArgs fd ⟨us,[]⟩=pure (ps.zip us)):Binds K fd ps []:=fun s us _ hl=>by
 rw [List.append_nil] at hl ⊢;exact .of_eq (h us hl)
def Passes (CX:CXT)(X:Cx)(E:XK):Prop:=∀ (pins:Fk)(σ:St)(H:Hp)(s:Shared)(e:Value)(s':Shared),Inv X pins σ H s->CX X.stack H s E e s'->X.xe e s'
section
variable {X:Cx}{CX:CXT}{k:Nat}{f C:Addr}{fd:Ff}{ps:List Str}{sp:Sp}{dvs:Fs}{ds:List Value}{E:XK}{x m:Str}{p pos apos:Pos}{e o:Expr}{es:List Expr}{ta:TE}{t:TA}
theorem Az {pins:Fk}{σ:St}{H:Hp}{s:Shared}{Q:VK}{us:List Value}{vs:Fs}(F:zT X.prog X.w X.K X.mg X.base CX k f fd ps sp)(hr:qu k X.A)(hb:Binds X.K fd ps ds)(hd:Vals dvs ds)(hx:Passes CX X E)
  (I:Inv X pins σ H s)(r:Vals vs us)(h:sp (vs++dvs) H Q E):wpAny (model X.prog X.w) X.A (call (.ref f) us) (EP X pins σ Q) X.xe s:=by
 have r2:Vals (vs++dvs) (us++ds):=r.append hd;have hl:(us++ds).length=ps.length:=by rw [<- r2.length];exact F.len _ _ _ _ h
 refine wpAny_call (codeAny_mono (F.run X.A X.stack s H ⟨us,[]⟩ (us++ds) (vs++dvs) Q E hr I.env0 (hb s us I.kIn hl) r2 h) fun r s' hq=>?_);cases r with
 | error e=>exact hx pins σ H s e s' I hq
 | ok fl =>
  cases fl with
  | ret u=>exact I.after hq
  | next=>exact False.elim hq
  | brk=>exact False.elim hq
  | cont=>exact False.elim hq
theorem wO (F:zT X.prog X.w X.K X.mg X.base CX k f fd ps sp)(hr:qu k X.A)(hg:Gl X x)(hm:X.mg x=some (.ref f))(hk:keepIn X.K (.ref f)=true)(hb:Binds X.K fd ps ds)(hd:Vals dvs ds)(hx:Passes CX X E)
  (ha:PA X (e::es) t)(hdb:(x ==("__debug__":Str))=false:=by decide)(he:starEach (e::es) X.env=(false,eval e X.env)::starEach es X.env:=by rfl)(hpl:(backTo pos (starEach es X.env)).any (·.1)=false:=by rfl):
  PE X (.Call (.Name x p) (e::es) [] pos) (Z8 sp dvs E t):=by
 intro pins s σ H Q I h
 refine wpAny_Call_Name_kw (lE I hg hm ?_ hdb)
 refine aem (h₀:=X.base) I.ok.mod.kin hk (thn (ha pos pins s σ H _ I h) fun us s1 ⟨vs,H1,I1,r,q⟩=>⟨I1.kIn,?_⟩) he hpl
 exact Az F hr hb hd hx I1 r q
theorem cu {pl:Sem Bool}(he:PE X o ta)(c:Cls X.K C)(hm:Meth X.K C m f)(F:zT X.prog X.w X.K X.mg X.base CX k f fd ps sp)(hr:qu k X.A)(hb:Binds X.K fd ps ds)(hd:Vals dvs ds)(hx:Passes CX X E)(ha:PA X (e::es) t)
  (hst:starEach (e::es) X.env=(false,eval e X.env)::starEach es X.env:=by rfl)(hpl:(backTo pos (starEach es X.env)).any (·.1)=false:=by rfl)
  (ht:eval (.Call (.Attribute o m apos) (e::es) [] pos) X.env=(do
   let ov <- eval o X.env
   standAt apos.atName
   let (f,first)<- holding [ov] (getMethod ov m pl)
   callWith pos f first (backTo pos (starEach (e::es) X.env)) (backToKw pos (keywordEach [] X.env))):=by rfl):
  PE X (.Call (.Attribute o m apos) (e::es) [] pos) (ZX C m sp dvs E ta t):=by
 intro pins s σ H Q I h
 refine aeK (pl:=pl) (thn (he pins s σ H _ I h) fun u s1 ⟨x,H1,I1,rx,a,dx,fs,ex,ea,l,q⟩=>?_) ht
 subst ex
 obtain rfl:u=Value.ref a:=rx
 refine uV I1 ea c hm l ?_
 refine aem (first:=[.ref a]) (h₀:=X.base) I.ok.mod.kin hm.kp (thn (ha pos pins s1 σ H1 _ I1 q) fun us s2 ⟨vs,H2,I2,r,q2⟩=>⟨I2.kIn,?_⟩) hst hpl
 exact Az (us:=.ref a::us) (vs:=.ref a::vs) F hr hb hd hx I2 (.cons rfl r) q2
theorem iz {pl:Sem Bool}(he:PE X o ta)(c:Cls X.K C)(hm:Meth X.K C m f)(F:zT X.prog X.w X.K X.mg X.base CX k f fd ps sp)(hr:qu k X.A)(hb:Binds X.K fd ps ds)(hd:Vals dvs ds)(hx:Passes CX X E)
  (ht:eval (.Call (.Attribute o m apos) [] [] pos) X.env=(do
   let ov <- eval o X.env
   standAt apos.atName
   let (f,first)<- holding [ov] (getMethod ov m pl)
   callWith pos f first (backTo pos (starEach [] X.env)) (backToKw pos (keywordEach [] X.env))):=by rfl):
  PE X (.Call (.Attribute o m apos) [] [] pos) (ZX C m sp dvs E ta ab6):=by
 intro pins s σ H Q I h
 refine aeK (pl:=pl) (thn (he pins s σ H _ I h) fun u s1 ⟨x,H1,I1,rx,a,dx,fs,ex,ea,l,q⟩=>?_) ht
 subst ex
 obtain rfl:u=Value.ref a:=rx
 refine uV I1 ea c hm l ?_
 exact callWith_K0 (first:=[.ref a]) I1.kIn hm.kp (Az (us:=[.ref a]) (vs:=[.ref a]) F hr hb hd hx I1 (.cons rfl .nil) q)
structure Mk (K:Fa)(C f:Addr):Prop where
 makes:makesIn K C=true
 init:PySem.W.findIn K (.ref C) "__init__"=some (some (.ref f))
 fn:isFn K (.ref f)=true
 kp:keepIn K (.ref C)=true
theorem Ed {pins:Fk}{σ:St}{H:Hp}{s:Shared}{Q:VK}{us:List Value}{vs:Fs}(M:Mk X.K C f)(F:zT X.prog X.w X.K X.mg X.base CX k f fd ps sp)(hr:qu (k+1) X.A)(hb:Binds X.K fd ps ds)(hd:Vals dvs ds)
  (hx:Passes CX X E)(I:Inv X pins σ H s)(r:Vals vs us)
  (h:∀ x dx,H x=none->H dx=none->dx≠x->sp (.ref x::(vs++dvs)) (upd (upd H dx (.own x)) x (.ins C dx [])) (fun v H2=>v=.non/\Q (.ref x) H2) E):
  wpAny (model X.prog X.w) X.A (call (.ref C) us) (EP X pins σ Q) X.xe s:=by
 have hq:=h (s.heap.objs.size+1) s.heap.objs.size (I.hok.fresh (Nat.le_succ _)) (I.hok.fresh (ado _)) (adV (Nat.lt_succ_self _))
 have I2:=Inv.made (C:=C) I
 have r2:Vals (V.ref (s.heap.objs.size+1)::(vs++dvs)) (Value.ref (s.heap.objs.size+1)::(us++ds)):=.cons rfl (r.append hd)
 have hl:(Value.ref (s.heap.objs.size+1)::us++ds).length=ps.length:=by
  have e:=r2.length
  rw [F.len _ _ _ _ hq] at e
  exact e.symm
 refine wpAny_call (M6 (f:=f) I.kIn M.makes M.init (beq_iff_eq.mp M.fn) (codeAny_mono (F.run _ X.stack _ _ ⟨Value.ref (s.heap.objs.size+1)::us,[]⟩ (Value.ref (s.heap.objs.size+1)::(us++ds)) _ _ E (hr.make C us [])
  (I2.env0.make C us []) (hb _ (Value.ref (s.heap.objs.size+1)::us) I2.kIn hl) r2 hq) fun r s' hq'=>?_))
 cases r with
 | error e=>exact hx pins σ _ _ e s' I2 hq'
 | ok fl =>
  cases fl with
  | ret u =>
   obtain ⟨v,H',I3,rv,ev,q3⟩:=I2.after hq'
   subst ev
   exact ⟨rv,⟨V.ref (s.heap.objs.size+1),H',I3,rfl,q3⟩⟩
  | next=>exact False.elim hq'
  | brk=>exact False.elim hq'
  | cont=>exact False.elim hq'
theorem HS (M:Mk X.K C f)(F:zT X.prog X.w X.K X.mg X.base CX k f fd ps sp)(hr:qu (k+1) X.A)(hg:Gl X x)(hm:X.mg x=some (.ref C))(hb:Binds X.K fd ps ds)(hd:Vals dvs ds)(hx:Passes CX X E)
  (ha:PA X (e::es) t)(hdb:(x ==("__debug__":Str))=false:=by decide)(he:starEach (e::es) X.env=(false,eval e X.env)::starEach es X.env:=by rfl)(hpl:(backTo pos (starEach es X.env)).any (·.1)=false:=by rfl):
  PE X (.Call (.Name x p) (e::es) [] pos) (Z0 C sp dvs E t):=by
 intro pins s σ H Q I h
 refine wpAny_Call_Name_kw (lE I hg hm ?_ hdb)
 refine aem (h₀:=X.base) I.ok.mod.kin M.kp (thn (ha pos pins s σ H _ I h) fun us s1 ⟨vs,H1,I1,r,q⟩=>⟨I1.kIn,?_⟩) he hpl
 exact Ed M F hr hb hd hx I1 r q
theorem Ej (M:Mk X.K C f)(F:zT X.prog X.w X.K X.mg X.base CX k f fd ps sp)(hr:qu (k+1) X.A)(hg:Gl X x)(hm:X.mg x=some (.ref C))(hb:Binds X.K fd ps ds)(hd:Vals dvs ds)(hx:Passes CX X E)
  (hdb:(x ==("__debug__":Str))=false:=by decide):PE X (.Call (.Name x p) [] [] pos) (Z0 C sp dvs E ab6):=by
 intro pins s σ H Q I h;refine wpAny_Call_Name_kw (lE I hg hm ?_ hdb);exact callWith_K0 I.kIn M.kp (Ed (us:=[]) M F hr hb hd hx I .nil h)
end
structure aF (N P:List Str)(sc:Scope):Prop where
 kind:sc.kind=.function
 co:sc.isCoroutine=false
 gen:sc.isGenerator=false
 nd:N.Nodup
 pre:N.take P.length=P
 par:∀ x∈P,sc.names.lookup x=some .local\/sc.names.lookup x=some .cell
 nofree:∀ y∈sc.names,y.2≠.free
theorem Bw {kindOf:Str->Option NameKind}{x:Str}:∀ {binds:List (Str × Value)}{m:Fh},(∀ v,(x,v) ∉ binds)->bindL kindOf binds m x=m x
 | [],_,_=>rfl
 | (n,v)::r,m,h=>by
  unfold bindL;rw [Bw fun w hw=>h w (adI _ hw)];split
  ·have:x≠n:=by rintro rfl;exact h v adM
   simp [this]
  ·rfl
theorem BK {kindOf:Str->Option NameKind}{x:Str}:∀ {binds:List (Str × Value)}{m:Fh},(∀ v,(x,v) ∉ binds)->bindC kindOf binds m x=m x
 | [],_,_=>rfl
 | (n,v)::r,m,h=>by
  unfold bindC;rw [BK fun w hw=>h w (adI _ hw)];split
  ·rfl
  ·have:x≠n:=by rintro rfl;exact h v adM
   simp [this]
theorem BJ {kindOf:Str->Option NameKind}{x:Str}{v:Value}:∀ {P:List Str}{vs:List Value}{i:Nat}{m:Fh},P.Nodup->P[i]?=some x->vs[i]?=some v->kindOf x=some .local ->
  bindL kindOf (P.zip vs) m x=some v
 | [],_,_,_,_,h,_,_=>by simp at h
 | _::_,[],_,_,_,_,h,_=>by simp at h
 | p::P,w::vs,0,m,nd,h1,h2,hk=>by
  simp at h1 h2;subst h1;subst h2;show bindL kindOf ((p,w)::P.zip vs) m p=_;unfold bindL;rw [Bw fun v hv=>(aew.mp nd).1 (List.of_mem_zip hv).1,if_pos hk];simp
 | p::P,w::vs,i+1,m,nd,h1,h2,hk=>by
  show bindL kindOf ((p,w)::P.zip vs) m x=_;unfold bindL;exact BJ (i:=i) (aew.mp nd).2 (by simpa using h1) (by simpa using h2) hk
theorem BP {kindOf:Str->Option NameKind}{x:Str}{v:Value}:∀ {P:List Str}{vs:List Value}{i:Nat}{m:Fh},P.Nodup->P[i]?=some x->vs[i]?=some v->kindOf x≠some .local ->
  bindC kindOf (P.zip vs) m x=some v
 | [],_,_,_,_,h,_,_=>by simp at h
 | _::_,[],_,_,_,_,h,_=>by simp at h
 | p::P,w::vs,0,m,nd,h1,h2,hk=>by
  simp at h1 h2;subst h1;subst h2;show bindC kindOf ((p,w)::P.zip vs) m p=_;unfold bindC;rw [BK fun v hv=>(aew.mp nd).1 (List.of_mem_zip hv).1,if_neg hk];simp
 | p::P,w::vs,i+1,m,nd,h1,h2,hk=>by
  show bindC kindOf ((p,w)::P.zip vs) m x=_;unfold bindC;exact BP (i:=i) (aew.mp nd).2 (by simpa using h1) (by simpa using h2) hk
def start (N:List Str)(vs:Fs):St:=vs.map some++List.replicate (N.length - vs.length) none
def KZ (CX:CXT)(P:Program)(w:World)(K:Fa)(mg:Fh)(base:Heap)(N:List Str)(qual:Str)(scope:Scope)(f:Addr)(cd:Value)(A:Around)(outer:List Env)(s:Shared)(H:Hp)(E:XK):Cx where
 prog:=P;w:=w;K:=K;mg:=mg;base:=base;A:=A.deeper (envOfC qual scope s.heap.objs.size f cd);N:=N;s₀:=s;H₀:=H;env:=envOfC qual scope s.heap.objs.size f cd;outer:=outer;stack:=envOfC qual scope s.heap.objs.size f cd::outer;ex:=[];calm:=true;fn:=fun _=>true;pn:=[];xe:=fun e s'=>wpAny (model P w) (A.deeper (envOfC qual scope s.heap.objs.size f cd)) (leaving (envOfC qual scope s.heap.objs.size f cd) e) (fun _ s''=>CX outer H s E e s'') (fun e' s''=>CX outer H s E e' s'') s'
theorem Fj {sc:Scope}{n:Nat}{x:Str}(h:sc.names.lookup x=some .cell):∃ c,(cellsFrom n sc.names []).lookup x=some c:=by
 have q:=PySem.W.cellsFrom_some sc.names n [] (.inl h);exact aeV.mp q
theorem IW {CX:CXT}{P:Program}{w:World}{K:Fa}{mg:Fh}{base:Heap}{N ps:List Str}{qual:Str}{scope:Scope}{f:Addr}{cd:Value}{A:Around}{outer:List Env}{s s1:Shared}{H:Hp}{E:XK}{us:List Value}{vs:Fs}
  (S:aF N ps scope)(hd:A.handled=none)(e0:Zv P w K mg base A outer s H)(hl:vs.length=ps.length)(r:Vals vs us)
  (x:InCallC s s.heap.objs.size (bindL (envOfC qual scope s.heap.objs.size f cd).kindOf (ps.zip us) fun _=>none) (cellsFrom (s.heap.objs.size+1) scope.names []) (bindC (envOfC qual scope s.heap.objs.size f cd).kindOf (ps.zip us) fun _=>none) s1):
  Inv (KZ CX P w K mg base N qual scope f cd A outer s H E) [] (start N vs) H s1:=by
 have hpl:ps.length<=N.length:=by have:=congrArg List.length S.pre;rw [adU] at this;omega
 obtain ⟨h1,tk,rfl,hk⟩:=x.done
 have noA:∀ b:Addr,b ∉ (KZ CX P w K mg base N qual scope f cd A outer s H E).ex:=fun b z=>absurd (show b∈([]:List Addr) from z) (by simp)
 refine ⟨⟨e0.mod,S.kind,rfl,rfl,ado _,fun y z c h1 h2=>?_,fun y hy=>?_,fun y c _ h=>?_,fun _=>hd,Around.frames_deeper e0.frames,.inr ⟨rfl,rfl⟩,fun b z=>absurd z (noA b),e0.bs,e0.bsz,fun b _ _=>noA b,fun b z=>absurd z (noA b),e0.EY,e0.frf⟩,
  rfl,e0.bare,Un.kept hk,⟨_,x.toInCall.ns,fun i y v h1 h2 h3=>?_⟩,fun y c h=>⟨_,x.cell y c h⟩,e0.hok.fresh (ado _),fun y c h=>?_,fun p hp=>absurd (show p∈([]:Fk) from hp) (by simp),e0.hok.kept hk,?_⟩
 ·exact name_of_addr x.apart (ad5 h1) (ad5 h2)
 ·have hy:scope.names.lookup y=some .cell\/scope.names.lookup y=some .free:=hy
  rcases hy with hy| hy
  ·exact Fj hy
  ·exact absurd rfl (S.nofree _ (ad5 hy))
 ·exact Nat.le_of_lt (x.above y c (ad5 h))
 ·have hi:i<vs.length:=by
   unfold start at h2
   by_cases hi:i<vs.length
   ·exact hi
   ·rw [aeB (by simpa using hi)] at h2
    rw [List.getElem?_replicate] at h2
    split at h2 <;>cases h2
  have ha:vs[i]?=some v:=by
   unfold start at h2
   rw [aeF (by simpa using hi),adC] at h2
   cases e:vs[i]? with
   | none=>rw [e] at h2;cases h2
   | some a=>rw [e] at h2;cases h2;rfl
  obtain ⟨u,hu,rv⟩:=r.get ha
  have hp:ps[i]?=some y:=by
   rw [<- S.pre,aeH (by omega)];exact h1
  have ndP:ps.Nodup:=by rw [<- S.pre];exact S.nd.sublist (List.take_sublist _ _)
  refine ⟨u,rv,?_⟩
  rcases S.par y (adp hp) with k| k
  ·exact .inl ⟨k,BJ ndP hp hu k⟩
  ·obtain ⟨c,e⟩:=Fj (n:=s.heap.objs.size+1) k
   refine .inr ⟨.inl k,c,e,?_⟩
   have q:=x.cell y c e
   rw [BP ndP hp hu (by show scope.names.lookup y≠_;rw [k];decide)] at q
   exact q
 ·exact e0.hok.fresh (Nat.le_of_lt (x.above y c (ad5 h)))
 ·unfold start
  show _=N.length
  rw [adG,abW,List.length_replicate]
  omega
theorem Zb {CX:CXT}{P:Program}{w:World}{K:Fa}{mg:Fh}{base:Heap}{k:Nat}{f:Addr}{name qual:Str}{params:Arguments}{body:List Stmt}{scope:Scope}{dV kV doc pm cdv ct oc:Value}{an od:Option Addr}
  {osl:Array (Option Value)}{N ps:List Str}{sp:Sp}(lk:K.lookup f=some ⟨oc,od,.func (fnOf name qual params body scope dV kV doc pm an cdv ct),osl⟩)(hcd:codeIn K cdv qual=true)(S:aF N ps scope)
  (len:∀ vs H Q E,sp vs H Q E->vs.length=ps.length)
  (hbody:∀ (A:Around)(outer:List Env)(s:Shared)(H:Hp)(vs:Fs)(Q:VK)(E:XK),qu k (A.deeper (envOfC qual scope s.heap.objs.size f cdv))->sp vs H Q E ->
   ∃ t,PSs (KZ CX P w K mg base N qual scope f cdv A outer s H E) body t/\t { nx:=fun _ H'=>Q .non H',rt:=Q } (start N vs) H):
  zT P w K mg base CX (k+1) f (fnOf name qual params body scope dV kV doc pm an cdv ct) ps sp:=by
 refine ⟨len,fun A outer s H args us vs Q E hr e0 hb r hsp=>?_⟩
 have hl:=len _ _ _ _ hsp
 have KX:K.In s.heap:=e0.mod.kin.keeps fun b o e=>(e0.bs b o e).1
 have lim:s.heap.NoLimit:=e0.mod.nolimit.keeps fun b o e=>(e0.bs b o e).1
 have hkind:∀ y∈ps.zip us,scope.names.lookup y.1=some .local\/(scope.names.lookup y.1=some .cell/\((cellsFrom (s.heap.objs.size+1) scope.names []).lookup y.1).isSome=true):=fun ⟨n,v⟩ hy=>by
  rcases S.par n (List.of_mem_zip hy).1 with q| q
  ·exact .inl q
  ·exact .inr ⟨q,PySem.W.cellsFrom_some _ _ _ (.inl q)⟩
 refine codeAny_call_function hr.depth (KX _ _ lk) rfl S.co S.gen rfl (PySem.W.codeRec_of KX hcd) (hb _ _ _ _ ?_)
 refine wpAny_newFunctionEnv_cells S.kind hkind fun env he s1 x=>?_
 subst he
 refine ⟨lim.keeps x.toInCall.keep,codeAny_func ?_⟩
 obtain ⟨t,ht,hq⟩:=hbody A outer s H vs Q E (hr.deeper _) hsp
 have I:Inv (KZ CX P w K mg base N qual scope f cdv A outer s H E) [] (start N vs) H s1:=IW S hr.hd e0 hl r x
 refine wpAny_mono (ht [] s1 (start N vs) H _ I hq) (fun fl s' hs=>?_) fun e s' hs=>hs
 have fin:∀ {σ':St}{H':Hp}{v:V}{u:Value},Inv (KZ CX P w K mg base N qual scope f cdv A outer s H E) [] σ' H' s'->RelV v u->Q v H'->CE outer P w H s Q u s' :=
  fun {σ' H' v u} J rv q=>⟨v,H',J.os,J.bare,J.base,J.hok,rv,q⟩
 cases fl with
 | ret u =>
  obtain ⟨v,σ',H',J,rv,q⟩:=hs
  exact fin J rv q
 | next =>
  obtain ⟨σ',H',J,q⟩:=hs
  exact fin (v:=V.non) (u:=Value.none) J rfl q
 | brk =>
  obtain ⟨_,_,_,q⟩:=hs
  exact False.elim q
 | cont =>
  obtain ⟨_,_,_,q⟩:=hs
  exact False.elim q
section
variable {X:Cx}{x:Str}{p pos:Pos}{e:Expr}{es:List Expr}{t:TA}{id T:String}{r:Fs->Hp->VK->Prop}
def tCB (r:Fs->Hp->VK->Prop)(t:TA):TE:=fun σ H Q=>t σ H fun vs H1=>r vs H1 Q
theorem aD (hc:tY X (.builtin id) r)(hg:Gl X x)(hm:X.mg x=none)(hv:bootBuiltins x=some (.builtin id))(ha:PA X (e::es) t)(hn:x≠"__name__":=by decide)(hdb:(x ==("__debug__":Str))=false:=by decide)
  (he:starEach (e::es) X.env=(false,eval e X.env)::starEach es X.env:=by rfl)(hpl:(backTo pos (starEach es X.env)).any (·.1)=false:=by rfl):PE X (.Call (.Name x p) (e::es) [] pos) (tCB r t):=by
 intro pins s σ H Q I h;refine wpAny_Call_Name_kw (vI I hg hm hv ?_ hn hdb);exact PyProof.Rows.callWith_builtin1 (thn (ha pos pins s σ H _ I h) fun us s1 ⟨vs,H1,I1,r1,q1⟩=>hc pins s1 σ H1 vs us Q I1 r1 q1) he hpl
theorem bJ (hc:tY X (.type T) r)(hg:Gl X x)(hm:X.mg x=none)(hv:bootBuiltins x=some (.type T))(ha:PA X (e::es) t)(hn:x≠"__name__":=by decide)(hdb:(x ==("__debug__":Str))=false:=by decide)
  (he:starEach (e::es) X.env=(false,eval e X.env)::starEach es X.env:=by rfl)(hpl:(backTo pos (starEach es X.env)).any (·.1)=false:=by rfl):PE X (.Call (.Name x p) (e::es) [] pos) (tCB r t):=by
 intro pins s σ H Q I h;refine wpAny_Call_Name_kw (vI I hg hm hv ?_ hn hdb);exact ad6 (thn (ha pos pins s σ H _ I h) fun us s1 ⟨vs,H1,I1,r1,q1⟩=>hc pins s1 σ H1 vs us Q I1 r1 q1) he hpl
end
end L2
namespace HT
open PySem PyProof.Rows
section
open PySem.SeqAt
open PySem.AutoSeq1 (wpAny_loadPart')
open PySem.MeetsSeq PySem.MeetsSeq2 PySem.MeetsSeq3
end
section
variable {prog:Program}{w:World}{A:Around}{E:Fm}{s:Shared}
def sIx (n d:Nat):Option Int->Nat
 | none=>d
 | some v=>if v<0 then (v+(n:Int)).toNat else min v.toNat n
theorem wM (n d k:Nat):sIx n d (some (k:Int))=min k n:=by
 show (if (k:Int)<0 then ((k:Int)+(n:Int)).toNat else min (k:Int).toNat n)=min k n;rw [if_neg (by omega),adN]
end
end HT
namespace L2
open PySem PySem.Spec PyProof.Rows
abbrev TO:=St->Hp->(Option Int->Hp->Prop)->Prop
def PO (X:Cx)(e:Option Expr)(t:TO):Prop:=
 ∀ (pins:Fk)(s:Shared)(σ:St)(H:Hp)(Q:Option Int->Hp->Prop),Inv X pins σ H s->t σ H Q ->
  wpAny (model X.prog X.w) X.A (evalPart e X.env) (fun u s'=>∃ o H',Inv X pins σ H' s'/\IsPart u o/\Q o H') X.xe s
def Yo:TO:=fun _ H Q=>Q none H
def ab5 (t:TE):TO:=fun σ H Q=>t σ H fun x H1=>∃ i,x=.int i/\Q (some i) H1
section
variable {X:Cx}{e:Expr}{te:TE}{lo hi:Option Expr}{tl th:TO}{pos p2:Pos}
theorem uT:PO X none Yo:=by
 intro pins s σ H Q I h;rw [evalPart_none];exact wpAny_pure ⟨none,H,I,.none,h⟩
theorem jm (h:PE X e te):PO X (some e) (ab5 te):=by
 intro pins s σ H Q I hw;rw [evalPart_some];refine thn (h pins s σ H _ I hw) fun u s1 ⟨x,H1,I1,r1,q1⟩=>?_;obtain ⟨i,rfl,q⟩:=q1;obtain ⟨t,rfl⟩:=r1;exact ⟨some i,H1,I1,.int i t,q⟩
def SlR (X:Cx)(r:V->Option Int->Option Int->Hp->VK->Prop):Prop:=
 ∀ (pins:Fk)(s:Shared)(σ:St)(H:Hp)(x:V)(v vl vu:Value)(lo hi:Option Int)(sl:Addr)(Q:VK),Inv X pins σ H s->RelV x v->s.heap.IsSliceOf sl vl vu .none->IsPart vl lo->IsPart vu hi->r x lo hi H Q ->
  ∃ T id,typeLookup (.type T) "__getitem__"=pure (some (.builtin id))/\s.TypeIs v T/\wpAny (model X.prog X.w) X.A (getItem v (.ref sl)) (EP X pins σ Q) X.xe s
def tSl (r:V->Option Int->Option Int->Hp->VK->Prop)(te:TE)(tl th:TO):TE:=fun σ H Q=>te σ H fun x H1=>tl σ H1 fun l H2=>th σ H2 fun u H3=>r x l u H3 Q
theorem jA {r:V->Option Int->Option Int->Hp->VK->Prop}(hr:SlR X r)(he:PE X e te)(hl:PO X lo tl)(hu:PO X hi th):PE X (.Subscript e (.Slice lo hi none p2) pos) (tSl r te tl th):=by
 intro pins s σ H Q I h;refine Subscript_ (thn (he pins s σ H _ I h) fun v s1 ⟨x,H1,I1,r1,q1⟩=>?_);refine wpAny_Slice (thn (hl pins s1 σ H1 _ I1 q1) fun vl s2 ⟨l,H2,I2,pl,q2⟩=>thn (hu pins s2 σ H2 _ I2 q2) fun vu s3 ⟨u,H3,I3,pu,q3⟩=>?_);rw [evalPart_none];refine wpAny_pure ?_;have I4:Inv X pins σ H3 { s3 with heap:=s3.heap.push { cls:=.type "slice",data:=.fields #[vl,vu,.none] } }:=I3.kept (t':=s3.toks) fun b ob q=>adn _ q;obtain ⟨T,id,hT,ht,hg⟩:=hr pins { s3 with heap:=s3.heap.push { cls:=.type "slice",data:=.fields #[vl,vu,.none] } } σ H3 x v vl vu l u s3.heap.objs.size Q I4 r1 (Heap.IsSliceOf.new ..) pl pu q3;show wpAny (model X.prog X.w) X.A (subscriptTail e (.Slice lo hi none p2) v (.ref s3.heap.objs.size)) (EP X pins σ Q) X.xe { s3 with heap:=s3.heap.push { cls:=.type "slice",data:=.fields #[vl,vu,.none] } };exact tail_any (ops:=[.ref s3.heap.objs.size,v]) ht hT hg (by with_unfolding_all rfl)
def zM (xs:Fs)(lo hi:Option Int):Fs:=(xs.drop (HT.sIx xs.length 0 lo)).take (HT.sIx xs.length xs.length hi - HT.sIx xs.length 0 lo)
theorem Dg (xs:Fs)(lo hi:Option Int):(zM xs lo hi).length<=xs.length:=by
 unfold zM;rw [adU,List.length_drop];omega
end
def ixN (n:Nat)(i:Int):Option Nat:=if 0<=i then (if i<n then some i.toNat else none) else if -(n:Int)<=i then some (i+n).toNat else none
def atI {α:Type}(xs:List α)(i:Int):Option α:=(ixN xs.length i).bind fun j=>xs[j]?
theorem IV {n:Nat}{i:Int}{j:Nat}(h:ixN n i=some j):seqIndex? i n=some j/\j<n/\-(n:Int)<=i/\i<n:=by
 unfold ixN at h;by_cases h0:0<=i
 ·rw [if_pos h0] at h;by_cases h1:i<n
  ·rw [if_pos h1] at h;have e:i.toNat=j:=adP h;exact ⟨by rw [seqIndex_of h0 h1,e],by omega,by omega,h1⟩
  ·rw [if_neg h1] at h;cases h
 ·rw [if_neg h0] at h;by_cases h1:-(n:Int)<=i
  ·rw [if_pos h1] at h;have e:(i+n).toNat=j:=adP h;exact ⟨by rw [seqIndex_neg (by omega) h1,e],by omega,h1,by omega⟩
  ·rw [if_neg h1] at h;cases h
theorem Ky {α:Type}{xs:List α}{i:Int}{v:α}(h:atI xs i=some v):∃ j,seqIndex? i xs.length=some j/\xs[j]?=some v/\j<xs.length/\-(xs.length:Int)<=i/\i<xs.length:=by
 unfold atI at h;cases e:ixN xs.length i with
 | none=>rw [e] at h;cases h
 | some j =>
  rw [e] at h;obtain ⟨h1,h2,h3,h4⟩:=IV e;exact ⟨j,h1,h,h2,h3,h4⟩
theorem dN {α:Type}{xs:List α}{j:Nat}{v:α}(h:xs[j]?=some v):atI xs (j:Int)=some v:=by
 have hj:j<xs.length:=(adl.mp h).1;have e:ixN xs.length (j:Int)=some j:=by
  unfold ixN;rw [if_pos (by omega),if_pos (by omega)];simp
 unfold atI;rw [e];exact h
theorem N7 {α:Type}(xs:List α)(v:α):atI (xs++[v]) (-1)=some v:=by
 have hl:(xs++[v]).length=xs.length+1:=by simp
 have e:ixN (xs++[v]).length (-1)=some xs.length:=by
  unfold ixN;rw [hl,if_neg (by decide),if_pos (by omega)];congr 1;omega
 unfold atI;rw [e];show (xs++[v])[xs.length]?=some v;simp
def Zt (b:Expr):Prop:=∀ o i,subscripted b false o i=operate [o,i] (getItem o i)
def IxR (X:Cx)(r:R2):Prop:=
 ∀ (value slice:Expr)(pins:Fk)(s:Shared)(σ:St)(H:Hp)(x y:V)(v u:Value)(Q:VK),Inv X pins σ H s->RelV x v->RelV y u->r x y H Q ->
  subscripted slice false v u=operate [v,u] (getItem v u)->wpAny (model X.prog X.w) X.A (subscriptTail value slice v u) (EP X pins σ Q) X.xe s
def MtR (X:Cx)(id:String)(r:V->Fs->Hp->VK->Prop):Prop:=
 ∀ (pins:Fk)(s:Shared)(σ:St)(H:Hp)(x:V)(xs:Fs)(v:Value)(us:List Value)(Q:VK),Inv X pins σ H s->RelV x v->Vals xs us->r x xs H Q ->
  wpAny (model X.prog X.w) X.A (call (.builtin id) (v::us)) (EP X pins σ Q) X.xe s
inductive kLen (K:Fa)(xs:Fs)(H:Hp)(Q:VK):Prop
 | mk (p:Addr)(ys:Fs)(_:xs=[.ref p])(_:SqL K H p ys\/SqT K H p ys)(_:Q (.int ys.length) H)
inductive acv (K:Fa)(xs:Fs)(H:Hp)(Q:VK):Prop
 | mk (p:Addr)(ys:Fs)(_:xs=[.ref p])(_:SqL K H p ys\/SqT K H p ys)(_:∀ l,H l=none->Q (.ref l) (upd H l (.lst ys)))
section
variable {X:Cx}{a b:Expr}{ta tb:TE}{pos:Pos}
theorem aK {r:R2}(hr:IxR X r)(ha:PE X a ta)(hb:PE X b tb)(hs:Zt b):PE X (.Subscript a b pos) (tOp r ta tb):=by
 intro pins s σ H Q I h;exact Subscript_ (abY ha hb I h fun v u s2 x y H2 I2 rx ry q=>hr a b pins s2 σ H2 x y v u Q I2 rx ry q (hs _ _))
inductive acW (K:Fa)(x y:V)(H:Hp)(Q:VK):Prop
 | mk (p:Addr)(xs:Fs)(i:Int)(v:V)(_:x=.ref p)(_:y=.int i)(_:SqL K H p xs)(_:atI xs i=some v)(_:Q v H)
inductive rIxT (K:Fa)(x y:V)(H:Hp)(Q:VK):Prop
 | mk (p:Addr)(xs:Fs)(i:Int)(v:V)(_:x=.ref p)(_:y=.int i)(_:SqT K H p xs)(_:atI xs i=some v)(_:Q v H)
theorem au:IxR X (acW X.K):=by
 intro value slice pins s σ H x y v u Q I rx ry h hs;obtain ⟨p,xs,i,z,rfl,rfl,hq,he,q⟩:=h;cases rx;obtain ⟨t,rfl⟩:=ry;obtain ⟨its,r,pl,hz⟩:=I.list hq;obtain ⟨j,h1,h2,h3,h4,h5⟩:=Ky he;obtain ⟨w,ew,rw'⟩:=r.get h2;have hl:=r.length;have hn:=Bs;have fin:EP X pins σ Q w s:=⟨z,H,I,rw',q⟩;by_cases h0:0<=i
 ·have hj:i.toNat=j:=by
   rw [seqIndex_of h0 h5] at h1;exact adP h1
  exact item_listR pl.isList h0 (by omega) (by rw [hj];simpa using ew) fin hs
 ·have hj:(i+(its.toArray.size:Int)).toNat=j:=by
   rw [seqIndex_neg (by omega) h4] at h1;rw [adH,<- hl];exact adP h1
  exact subscriptTail_builtinR (x:=w) pl.isList.typeIs slot_list_getitem.lookup
   (wpAny_getItem_list_neg (Q:=fun r s'=>r=w/\EP X pins σ Q r s') pl.isList (by omega) (by rw [adH]<;>omega) (by omega) (by rw [hj];simpa using ew) ⟨rfl,fin⟩) hs
theorem uw:IxR X (rIxT X.K):=by
 intro value slice pins s σ H x y v u Q I rx ry h hs;obtain ⟨p,xs,i,z,rfl,rfl,hq,he,q⟩:=h;cases rx;obtain ⟨t,rfl⟩:=ry;obtain ⟨its,r,pl,hz⟩:=I.tuple hq;obtain ⟨j,h1,h2,h3,h4,h5⟩:=Ky he;obtain ⟨w,ew,rw'⟩:=r.get h2;have hl:=r.length;have hn:=Bs;have fin:EP X pins σ Q w s:=⟨z,H,I,rw',q⟩;exact subscriptTail_builtinR (x:=w) pl.typeIs slot_tuple_getitem.lookup
  (getItem_tuple (j:=j) (Q:=fun r s'=>r=w/\EP X pins σ Q r s') pl (by omega) (by omega) (by rw [adH,<- hl];exact h1) (by simpa using ew) ⟨rfl,fin⟩) hs
theorem Gf (its:List Value)(n j:Nat)(u:Value):Obj.mapSeq (·.setIfInBounds j u) { cls:=.type "list",data:=.seq its.toArray n }={ cls:=.type "list",data:=.seq (its.set j u).toArray n }:=by
 simp [Obj.mapSeq]
theorem Inv.lst {pins:Fk}{σ:St}{H:Hp}{s:Shared}{p:Addr}{xs:Fs}(I:Inv X pins σ H s)(h:H p=some (.lst xs)):
  ∃ (its:List Value)(n:Nat),Vals xs its/\s.heap.get? p=some { cls:=.type "list",data:=.seq its.toArray n }/\xs.length<=sizeLine:=by
 obtain ⟨z,its,n,r,e⟩:=I.hok p _ h;exact ⟨its,n,r,e,z⟩
theorem Inv.aaY {pins:Fk}{σ:St}{H:Hp}{s:Shared}{p:Addr}{xs ys:Fs}{its its':List Value}{n n':Nat}{f:Obj->Obj}(I:Inv X pins σ H s)(h:H p=some (.lst xs))
  (ho:s.heap.get? p=some { cls:=.type "list",data:=.seq its.toArray n })(hf:f { cls:=.type "list",data:=.seq its.toArray n }={ cls:=.type "list",data:=.seq its'.toArray n' })(r:Vals ys its')(hz:ys.length<=sizeLine)(t:Nat):
  Inv X pins σ (upd H p (.lst ys)) { s with heap:=s.heap.update p f,toks:=t }:=by
 have e:(s.heap.update p f).get? p=some { cls:=.type "list",data:=.seq its'.toArray n' }:=by
  rw [aeh f ho (by rw [hf]<;>rfl),hf]
 refine I.write (x:=p) (e:=p) (by rw [h];trivial) (.inl rfl) (fun b u hb q=>(aeJ _ _ (Ne.symm hb)).trans q) ⟨_,e⟩ ?_
 exact ⟨hz,its',n',r,e⟩
inductive aai (o i v:V)(H:Hp)(Q:Hp->Prop):Prop
 | mk (p:Addr)(xs:Fs)(k:Int)(j:Nat)(_:o=.ref p)(_:i=.int k)(_:H p=some (.lst xs))(_:ixN xs.length k=some j)(_:Q (upd H p (.lst (xs.set j v))))
theorem set_list:adf X aai:=by
 intro pins s σ H o i v ov iv u Q I ro ri rv h;obtain ⟨p,xs,k,j,rfl,rfl,hp,hj,q⟩:=h;cases ro;obtain ⟨t,rfl⟩:=ri;obtain ⟨its,n,r,ho,hz⟩:=I.lst hp;obtain ⟨h1,h2,h3,h4⟩:=IV hj;have hl:=r.length;have hn:=Bs;have I':Inv X pins σ (upd H p (.lst (xs.set j v))) { s with heap:=s.heap.update p (Obj.mapSeq (·.setIfInBounds j u)) }:=
  I.aaY hp ho (Gf its n j u) (r.set rv j) (by rw [aex];exact hz) s.toks
 by_cases h0:0<=k
 ·have hk:k.toNat=j:=by
   rw [seqIndex_of h0 h4] at h1;exact adP h1
  exact PySem.W.ki_setAt ho h0 (by omega) (by rw [adH,<- hl];exact h4) (by rw [hk];exact ⟨_,I',q⟩)
 ·have hk:(k+(its.toArray.size:Int)).toNat=j:=by
   rw [seqIndex_neg (by omega) h3] at h1;rw [adH,<- hl];exact adP h1
  exact PySem.W.ki_setBack ho (by omega) (by rw [adH,<- hl];exact h3) (by omega) (by rw [hk];exact ⟨_,I',q⟩)
theorem Ai (lo hi:Option Int)(n:Nat):(sliceBounds lo hi none n).1=((HT.sIx n 0 lo:Nat):Int)/\(sliceBounds lo hi none n).2.1=((HT.sIx n n hi:Nat):Int)/\(sliceBounds lo hi none n).2.2=1:=by
 refine ⟨?_,?_,rfl⟩
 ·cases lo with
  | none=>simp [sliceBounds,HT.sIx]
  | some i =>
   simp only [sliceBounds,HT.sIx,Option.getD_none,show (1:Int)>0 by decide,if_true];by_cases h:i<0
   ·simp only [h,if_true]<;>omega
   ·simp only [h,if_false]<;>omega
 ·cases hi with
  | none=>simp [sliceBounds,HT.sIx]
  | some i =>
   simp only [sliceBounds,HT.sIx,Option.getD_none,show (1:Int)>0 by decide,if_true];by_cases h:i<0
   ·simp only [h,if_true]<;>omega
   ·simp only [h,if_false]<;>omega
theorem yW (its:List Value)(lo hi:Option Int):slicePick its.toArray lo hi none=((its.drop (HT.sIx its.length 0 lo)).take (HT.sIx its.length its.length hi - HT.sIx its.length 0 lo)).toArray:=by
 obtain ⟨h1,h2,h3⟩:=Ai lo hi its.toArray.size;unfold slicePick;rw [h1,h2,h3];simp only [sliceRange_one,pick_run,adH]<;>rfl
def rSlL (K:Fa):V->Option Int->Option Int->Hp->VK->Prop:=fun x lo hi H Q=>∃ a xs,x=.ref a/\SqL K H a xs/\∀ p,H p=none->Q (.ref p) (upd H p (.lst (zM xs lo hi)))
theorem qP:SlR X (rSlL X.K):=by
 intro pins s σ H x v vl vu lo hi sl Q I rx hs pl pu h;obtain ⟨a,xs,rfl,hx,q⟩:=h;cases rx;obtain ⟨its,r,ht,hz⟩:=I.list hx;have hlen:=r.length;refine ⟨"list",_,slot_list_getitem.lookup,ht.isList.typeIs,?_⟩;refine wpAny_getItem_list_slice ht.isList hs pl pu .none (by simp) ?_ (by rw [adH]<;>omega)
 rw [yW,<- hlen];refine ⟨.ref s.heap.objs.size,_,I.laid (t':=s.toks) (o:=.lst (zM xs lo hi)) (fun b ob q=>adn _ q) (ado _) ?_,rfl,q _ (I.hok.fresh (ado _))⟩;exact ⟨aec (Dg xs lo hi) hz,_,0,(r.drop (HT.sIx xs.length 0 lo)).take (HT.sIx xs.length xs.length hi - HT.sIx xs.length 0 lo),adq _ rfl⟩
def vY:V->Bool
 | .non=>true
 | .bl _=>true
 | .int _=>true
 | .str _=>true
 | _=>false
def eqV:V->V->Bool
 | .non,.non=>true
 | .bl a,.bl b=>a ==b
 | .bl a,.int b=>(if a then 1 else 0)==b
 | .int a,.bl b=>a ==(if b then 1 else 0)
 | .int a,.int b=>a ==b
 | .str a,.str b=>a ==b
 | _,_=>false
theorem abw {A:Around}{s:Shared}{y x:V}{u v:Value}(ry:RelV y u)(rx:RelV x v)(fy:vY y=true)(fx:vY x=true):SeqAt.EqAt A s u v (eqV y x):=by
 cases y with
 | non =>
  cases ry;cases x with
  | non=>cases rx;exact SeqAt.EqAt.same _
  | bl b=>cases rx;exact SeqAt.EqAt.none_bool b
  | int b=>obtain ⟨t,rfl⟩:=rx;exact SeqAt.EqAt.none_int b t
  | str b=>obtain ⟨t,rfl⟩:=rx;exact SeqAt.EqAt.none_str b t
  | _=>exact absurd (show false=true from fx) adv
 | bl a =>
  cases ry;cases x with
  | non=>cases rx;exact SeqAt.EqAt.bool_none a
  | bl b=>cases rx;exact SeqAt.EqAt.bool_bool a b
  | int b=>obtain ⟨t,rfl⟩:=rx;exact SeqAt.EqAt.bool_int a b t
  | str b=>obtain ⟨t,rfl⟩:=rx;exact SeqAt.EqAt.bool_str a b t
  | _=>exact absurd (show false=true from fx) adv
 | int a =>
  obtain ⟨t',rfl⟩:=ry;cases x with
  | non=>cases rx;exact SeqAt.EqAt.int_none a t'
  | bl b=>cases rx;exact SeqAt.EqAt.int_bool a t' b
  | int b=>obtain ⟨t,rfl⟩:=rx;exact SeqAt.EqAt.int_int a t' b t
  | str b=>obtain ⟨t,rfl⟩:=rx;exact SeqAt.EqAt.int_str a t' b t
  | _=>exact absurd (show false=true from fx) adv
 | str a =>
  obtain ⟨t',rfl⟩:=ry;cases x with
  | non=>cases rx;exact SeqAt.EqAt.str_none a t'
  | bl b=>cases rx;exact SeqAt.EqAt.str_bool a t' b
  | int b=>obtain ⟨t,rfl⟩:=rx;exact SeqAt.EqAt.str_int a t' b t
  | str b=>obtain ⟨t,rfl⟩:=rx;exact SeqAt.EqAt.str_str a t' b t
  | _=>exact absurd (show false=true from fx) adv
 | _=>exact absurd (show false=true from fy) adv
def eqU (x:V)(u:Value):Bool:=match u with
 | .none=>eqV .non x
 | .bool b=>eqV (.bl b) x
 | .int i _=>eqV (.int i) x
 | .str z _=>eqV (.str z) x
 | _=>false
theorem J5 {x y:V}{u:Value}(r:RelV y u)(f:vY y=true):eqU x u=eqV y x:=by
 cases y with
 | non=>cases r;rfl
 | bl b=>cases r;rfl
 | int i=>obtain ⟨t,rfl⟩:=r;rfl
 | str z=>obtain ⟨t,rfl⟩:=r;rfl
 | _=>exact absurd (show false=true from f) adv
theorem xQ {x:V}:∀ {xs:Fs}{us:List Value},Vals xs us->xs.all vY=true->us.any (eqU x)=xs.any fun y=>eqV y x
 | _,_,.nil,_=>rfl
 | y::xs,u::us,.cons r t,f=>by
  rw [List.all_cons,ad4] at f;rw [List.any_cons,List.any_cons,J5 r f.1,xQ t f.2]
theorem qm {A:Around}{s:Shared}{x:V}{v:Value}(rx:RelV x v)(fx:vY x=true):∀ {xs:Fs}{us:List Value},Vals xs us->xs.all vY=true->∀ u∈us,SeqAt.EqAt A s u v (eqU x u)
 | _,_,.nil,_=>fun u hu=>by cases hu
 | y::xs,u::us,.cons r t,f=>fun u' hu=>by
  rw [List.all_cons,ad4] at f;rcases adt.mp hu with rfl| hu
  ·rw [J5 r f.1];exact abw r rx f.1 fx
  ·exact qm rx fx t f.2 u' hu
def inV (x:V)(xs:Fs):Bool:=xs.any fun y=>eqV y x
def rIn (K:Fa)(neg:Bool):R2:=fun x y H Q=>∃ p xs,y=.ref p/\(SqL K H p xs\/SqT K H p xs)/\vY x=true/\xs.all vY=true/\Q (.bl (if neg then !inV x xs else inV x xs)) H
theorem ur:OpR X (compareOp .In) (rIn X.K false):=by
 intro pins s σ H x y v u Q I rx ry h;obtain ⟨p,xs,rfl,hq,fx,fs,q⟩:=h;cases ry;rcases hq with hq| hq
 ·obtain ⟨its,r,pl,hz⟩:=I.list hq;refine SeqAt.in_listAt (eqU x) pl.isList (fun w hw=>qm rx fx r fs w (by simpa using hw)) ⟨.bl _,H,I,rfl,?_⟩;rw [show its.toArray.any (eqU x)=its.any (eqU x) by simp,xQ r fs];exact q
 ·obtain ⟨its,r,pl,hz⟩:=I.tuple hq;refine SeqAt.in_tupleAt (eqU x) pl (fun w hw=>qm rx fx r fs w (by simpa using hw)) ⟨.bl _,H,I,rfl,?_⟩;rw [show its.toArray.any (eqU x)=its.any (eqU x) by simp,xQ r fs];exact q
theorem Bk:OpR X (compareOp .NotIn) (rIn X.K true):=by
 intro pins s σ H x y v u Q I rx ry h;obtain ⟨p,xs,rfl,hq,fx,fs,q⟩:=h;cases ry;rcases hq with hq| hq
 ·obtain ⟨its,r,pl,hz⟩:=I.list hq;refine SeqAt.notIn_listAt (eqU x) pl.isList (fun w hw=>qm rx fx r fs w (by simpa using hw)) ⟨.bl _,H,I,rfl,?_⟩;rw [show its.toArray.any (eqU x)=its.any (eqU x) by simp,xQ r fs];exact q
 ·obtain ⟨its,r,pl,hz⟩:=I.tuple hq;refine SeqAt.notIn_tupleAt (eqU x) pl (fun w hw=>qm rx fx r fs w (by simpa using hw)) ⟨.bl _,H,I,rfl,?_⟩;rw [show its.toArray.any (eqU x)=its.any (eqU x) by simp,xQ r fs];exact q
theorem aC:tY X (.builtin "len") (kLen X.K):=by
 intro pins s σ H xs us Q I r h;obtain ⟨p,ys,rfl,hq,q⟩:=h;obtain ⟨u,rfl,rx⟩:=vals1 r;cases rx;have hn:=Bs;rcases hq with hq| hq
 ·obtain ⟨its,r',pl,hz⟩:=I.list hq;have hlen:=r'.length;exact Calls.call_len_list pl.isList (by simp only [adH]<;>omega) ⟨.int ys.length,H,I.tok _,⟨s.toks+1,by rw [adH,hlen]⟩,q⟩
 ·obtain ⟨its,r',pl,hz⟩:=I.tuple hq;have hlen:=r'.length;exact len_tuple pl (by simp only [adH]<;>omega) ⟨.int ys.length,H,I.tok _,⟨s.toks+1,by rw [adH,hlen]⟩,q⟩
theorem kI:tY X (.builtin "len") (fun xs H Q=>∃ z,xs=[.str z]/\z.length<=sizeLine/\Q (.int z.length) H):=by
 intro pins s σ H xs us Q I r h;obtain ⟨z,rfl,hz,q⟩:=h;obtain ⟨u,rfl,t,rfl⟩:=vals1 r;have hn:=Bs;exact len_str (by omega) ⟨.int z.length,H,I.tok _,⟨_,rfl⟩,q⟩
theorem fH:tY X (.type "list") (acv X.K):=by
 intro pins s σ H xs us Q I r h;obtain ⟨p,ys,rfl,hq,q⟩:=h;obtain ⟨u,rfl,rx⟩:=vals1 r;cases rx;have fin:∀ (its:List Value),Vals ys its->ys.length<=sizeLine->∀ (h':Heap)(c':Nat),(∀ b o',s.heap.get? b=some o'->h'.get? b=some o') ->
   h'.get? s.heap.objs.size=some { cls:=.type "list",dict:=none,data:=.seq its.toArray c',slots:=#[] }->EP X pins σ Q (.ref s.heap.objs.size) { s with heap:=h' }:=fun its r' hz h' c' kp e =>
  ⟨.ref s.heap.objs.size,_,I.laid (t':=s.toks) kp (ado _) (show jV X.prog X.w _ h' _ (.lst ys) from ⟨hz,its,c',r',e⟩),rfl,q _ (I.hok.fresh (ado _))⟩
 rcases hq with hq| hq
 ·obtain ⟨its,r',pl,hz⟩:=I.list hq;have hlen:=r'.length;obtain ⟨o,ho,hc,n,hd⟩:=pl.isList;exact call_list_seq p (.inl rfl) ho hc hd (fun h' c' kp e=>fin its r' hz h' c' kp e) (by simp only [adH]<;>omega)
 ·obtain ⟨its,r',pl,hz⟩:=I.tuple hq;have hlen:=r'.length;obtain ⟨o,ho,hc,n,hd⟩:=pl;exact call_list_seq p (.inr rfl) ho hc hd (fun h' c' kp e=>fin its r' hz h' c' kp e) (by simp only [adH]<;>omega)
def tyV (K:Fa)(T:String)(x:V)(H:Hp):Prop:=match x with
 | .str _=>T="str"
 | .int _=>T="int"
 | .ref p=>(T="list"/\∃ xs,SqL K H p xs)\/(T="tuple"/\∃ o,K.lookup p=some o/\o.cls=.type "tuple"/\o.dict=none) \/
   (T="dict"/\((∃ kvs,H p=some (.dK kvs))\/∃ kvs,H p=some (.dT kvs)))\/(T="set"/\∃ S n,H p=some (.set S n))
 | _=>False
theorem Oe {pins:Fk}{σ:St}{H:Hp}{s:Shared}{T:String}{x:V}{v:Value}(I:Inv X pins σ H s)(r:RelV x v)(ty:tyV X.K T x H):
  s.TypeIs v T/\∀ a,v=.ref a->∃ ob,s.heap.get? a=some ob/\ob.dict=none:=by
 cases x with
 | str z =>
  obtain ⟨t,rfl⟩:=r;cases (show T="str" from ty);exact ⟨typeIs_str s z t,fun _ e=>nomatch e⟩
 | int i =>
  obtain ⟨t,rfl⟩:=r;cases (show T="int" from ty);exact ⟨typeIs_int s i t,fun _ e=>nomatch e⟩
 | ref p =>
  cases r;rcases ty with ⟨rfl,xs,hq⟩ | ⟨rfl,o,hk,hc,hd⟩ | ⟨rfl,hk⟩ | ⟨rfl,S,n,hk⟩
  ·obtain ⟨its,_,pl,_⟩:=I.list hq;refine ⟨pl.isList.typeIs,fun a e=>?_⟩;cases e;obtain ⟨o,n,e,c,hd,_⟩:=pl;exact ⟨o,e,hd⟩
  ·refine ⟨⟨o,I.kIn p o hk,hc⟩,fun a e=>?_⟩;cases e;exact ⟨o,I.kIn _ o hk,hd⟩
  ·have z:∃ o,s.heap.get? p=some o/\o.ExactDict:=by
    rcases hk with ⟨kvs,hk⟩ | ⟨kvs,hk⟩
    ·obtain ⟨_,_,_,_,o,_,_,e,ex,_⟩:=I.hok p _ hk;exact ⟨o,e,ex⟩
    ·obtain ⟨_,_,_,_,o,_,_,e,ex,_⟩:=I.hok p _ hk;exact ⟨o,e,ex⟩
   obtain ⟨o,e,ex⟩:=z;refine ⟨⟨o,e,ex.1⟩,fun a e2=>?_⟩;cases e2;exact ⟨o,e,ex.2.1⟩
  ·obtain ⟨o,_,_,_,e,ex,_⟩:=I.hok p _ hk;refine ⟨⟨o,e,ex.1⟩,fun a e2=>?_⟩;cases e2;exact ⟨o,e,ex.2.1⟩
 | _=>exact False.elim ty
def tBM (K:Fa)(T:String)(r:V->Fs->Hp->VK->Prop)(to:TE)(t:TA):TE:=fun σ H Q=>to σ H fun x H1=>tyV K T x H1/\t σ H1 fun xs H2=>r x xs H2 Q
variable {o e:Expr}{es:List Expr}{to:TE}{t:TA}{name:Str}{apos cpos:Pos}{T id:String}{r:V->Fs->Hp->VK->Prop}
theorem je (pa:PlainAttrs T)(slot:Slot T name id)(hty:typeOf (.builtin id)=pure (.type "method_descriptor"))(hm:MtR X id r)(ho:PE X o to)(ha:PA X (e::es) t)
  (hbase:attributeBase o name X.env (eval o X.env)=eval o X.env:=by rfl)
  (hfew:((backTo cpos (starEach (e::es) X.env)).all (fun x=>!x.1) && (backToKw cpos (keywordEach [] X.env)).all (fun x=>x.1.isSome)
   && decide ((e::es).length+([]:List Keyword).length+(if ([]:List Keyword).isEmpty then 0 else 1)<30))=true:=by rfl)
  (hline:(apos.endLine ==cpos.line)=true:=by rfl)(hs:starEach (e::es) X.env=(false,eval e X.env)::starEach es X.env:=by rfl)(hplain:(backTo cpos (starEach es X.env)).any (·.1)=false:=by rfl):
  PE X (.Call (.Attribute o name apos) (e::es) [] cpos) (tBM X.K T r to t):=by
 intro pins s σ H Q I h
 refine wpAny_Call_method_late hbase hfew hline rfl (thn (ho pins s σ H _ I h) fun v s1 ⟨x,H1,I1,r1,ty,q1⟩=>?_)
 obtain ⟨h1,h2⟩:=Oe I1 r1 ty
 refine ⟨T,id,pa,slot,hty,h1,h2,?_⟩
 have hA:=ha cpos pins s1 σ H1 _ I1 q1
 rw [hs] at hA ⊢
 refine Calls.callWith_builtin (by show (false|| (backTo cpos (starEach es X.env)).any (·.1))=false;rw [hplain]<;>rfl) (aeN ?_)
 exact thn hA fun us s2 ⟨vs,H2,I2,r2,q2⟩=>hm pins s2 σ H2 x vs v us Q I2 r1 r2 q2
end
def MtM (X:Cx)(id:String)(r:V->Fs->Hp->VK->Prop):Prop:=
 ∀ (pins:Fk)(s:Shared)(σ:St)(H:Hp)(x:V)(xs:Fs)(v:Value)(us:List Value)(Q:VK),Inv X pins σ H s->RelV x v->Vals xs us->r x xs H Q ->
  wpAny (model X.prog X.w) X.A (call (.builtin id) (v::us)) (EP X pins σ Q) X.xe s
theorem Vals.one:∀ {x:V}{us:List Value},Vals [x] us->∃ u,us=[u]/\RelV x u
 | _,_,.cons r .nil=>⟨_,rfl,r⟩
theorem Vals.rep {xs:Fs}{us:List Value}(h:Vals xs us):∀ k:Nat,Vals (List.replicate k xs).flatten (List.replicate k us).flatten
 | 0=>.nil
 | k+1=>by
  rw [aeI,aeI,aeX,aeX];exact Vals.append h (Vals.rep h k)
theorem foldl_rep (its:List Value):∀ (k:Nat)(acc:List Value),
  List.foldl (fun x1 x2=>x1++x2) acc.toArray (List.replicate k its.toArray)=(acc++(List.replicate k its).flatten).toArray
 | 0,acc=>by simp
 | k+1,acc=>by
  have e:acc.toArray++its.toArray=(acc++its).toArray:=by simp
  have e2:(acc++its)++(List.replicate k its).flatten=acc++(List.replicate (k+1) its).flatten:=by
   rw [aeI,aeX,aej]
  rw [<- e2,<- foldl_rep its k (acc++its),<- e,aeI,List.foldl_cons]
section
variable {X:Cx}{pins:Fk}{σ:St}{H:Hp}{s:Shared}{l b:Addr}{xs ys zs:Fs}
theorem Inv.lset {its its':List Value}{n:Nat}{f:Array Value->Array Value}{t':Nat}(I:Inv X pins σ H s)(hH:H l=some (.lst xs))
  (e:s.heap.get? l=some { cls:=.type "list",data:=.seq its.toArray n })(hf:f its.toArray=its'.toArray)(hv:Vals ys its')(hz:ys.length<=sizeLine):
  Inv X pins σ (upd H l (.lst ys)) { s with heap:=s.heap.update l (Obj.mapSeq f),toks:=t' }:=by
 have q:=PySem.IsL.update e f
 rw [hf] at q
 refine I.write (x:=l) (e:=l) (by rw [hH];exact trivial) (.inl rfl) (fun b' u hb hu=>(aeJ s.heap (Obj.mapSeq f) (Ne.symm hb)).trans hu) ⟨_,q⟩ ?_
 exact ⟨hz,its',_,hv,q⟩
theorem Inv.ac7 {its:List Value}{t':Nat}(I:Inv X pins σ H s)(hv:Vals ys its)(hz:ys.length<=sizeLine):
  Inv X pins σ (upd H s.heap.objs.size (.lst ys)) { s with heap:=s.heap.push { cls:=.type "list",data:=.seq its.toArray },toks:=t' }:=
 I.laid (fun _ _ q=>adn _ q) (ado _) ⟨hz,its,0,hv,adq _ rfl⟩
theorem Inv.fresh (I:Inv X pins σ H s):H s.heap.objs.size=none:=I.hok.fresh (ado _)
theorem Inv.aaZ (I:Inv X pins σ H s)(hH:H l=some (.lst xs)):xs.length<=sizeLine/\∃ (its:List Value)(n:Nat),Vals xs its/\xs.length=its.length/\s.heap.get? l=some { cls:=.type "list",data:=.seq its.toArray n }:=by
 obtain ⟨z,its,n,r,e⟩:=I.hok l _ hH;exact ⟨z,its,n,r,r.length,e⟩
theorem M4 {n:Nat}(h:n<=sizeLine):Builtin.List.listTooLong n=false:=by
 unfold Builtin.List.listTooLong;exact decide_eq_false (by omega)
end
section
variable {X:Cx}
inductive YG (x:V)(vs:Fs)(H:Hp)(Q:VK):Prop
 | mk (l:Addr)(xs:Fs)(y:V)(_:x=.ref l)(_:vs=[y])(_:H l=some (.lst xs))(_:xs.length<sizeLine)(_:Q .non (upd H l (.lst (xs++[y]))))
theorem bK:MtM X "list.append" YG:=by
 intro pins s σ H x vs v us Q I rx rv h;obtain ⟨l,xs,y,rfl,rfl,hH,hz,q⟩:=h;cases rx;obtain ⟨u,rfl,ru⟩:=rv.one;obtain ⟨z,its,n,r,hl,e⟩:=I.aaZ hH;refine call_meets F.slot_list_append ⟨_,e,rfl⟩ F.entry_list_append (F.args_list_append_2 _ _) (PySem.list_append l its.toArray n u (by rw [adH];omega)) ⟨e,?_⟩;refine ⟨.non,_,I.lset (its':=its++[u]) hH e (by simp) (r.append (.cons ru .nil)) ?_,rfl,q⟩;rw [adG,List.length_singleton];omega
inductive rCat (x y:V)(H:Hp)(Q:VK):Prop
 | mk (l b:Addr)(xs zs:Fs)(_:x=.ref l)(_:y=.ref b)(_:H l=some (.lst xs))(_:H b=some (.lst zs))(_:xs.length+zs.length<=sizeLine)(_:∀ p,H p=none->Q (.ref p) (upd H p (.lst (xs++zs))))
theorem Bo:OpR X (binaryOp .Add) rCat:=by
 intro pins s σ H x y v u Q I rx ry h;obtain ⟨l,b,xs,zs,rfl,rfl,hH,hB,hz,q⟩:=h;cases rx;cases ry;obtain ⟨z,its,n,r,hl,e⟩:=I.aaZ hH;obtain ⟨z2,its2,n2,r2,hl2,e2⟩:=I.aaZ hB;refine PySem.P.add_list e e2 ?_ (by rw [adH,adH];omega);have ea:its.toArray++its2.toArray=(its++its2).toArray:=by simp
 rw [ea];exact ⟨.ref _,_,I.ac7 (t':=s.toks) (r.append r2) (by rw [adG];omega),rfl,q _ I.fresh⟩
def rRep:R2:=fun x y H Q=>∃ l k xs,x=.ref l/\y=.int k/\H l=some (.lst xs)/\-(2 ^ 63)<=k/\k<2 ^ 63/\xs.length*k.toNat<=sizeLine /\
 ∀ p,H p=none->Q (.ref p) (upd H p (.lst (List.replicate k.toNat xs).flatten))
theorem len_rep {α:Type}(xs:List α)(k:Nat):(List.replicate k xs).flatten.length=k*xs.length:=by
 induction k with
 | zero=>simp
 | succ k ih=>rw [aeI,aeX,adG,ih,Nat.succ_mul,Nat.add_comm]
theorem aao:OpR X (binaryOp .Mult) rRep:=by
 intro pins s σ H x y v u Q I rx ry h;obtain ⟨l,k,xs,rfl,rfl,hH,h1,h2,hz,q⟩:=h;cases rx;obtain ⟨t,rfl⟩:=ry;obtain ⟨z,its,n,r,hl,e⟩:=I.aaZ hH;have hlen:its.toArray.size*k.toNat<=sizeLine:=by rw [adH,<- hl];exact hz
 have hcap:¬ its.toArray.size*k.toNat >(2 ^ 63 - 1) / 8:=by
  have:(sizeLine:Nat)<=(2 ^ 63 - 1) / 8:=by decide
  omega
 have hfit:¬ (!Builtin.List.listFitsIndex k)=true:=by
  rw [fitsIndex_both h1 h2];exact adv
 have hlong:¬ Builtin.List.listTooLong (its.toArray.size*k.toNat)=true:=by
  rw [M4 hlen];exact adv
 have hnew:List.foldl (fun x1 x2=>x1++x2) #[] (List.replicate (if its.toArray.isEmpty=true then 0 else k.toNat) its.toArray)=(List.replicate k.toNat its).flatten.toArray:=by
  have f0:∀ m:Nat,List.foldl (fun x1 x2=>x1++x2) #[] (List.replicate m its.toArray)=(List.replicate m its).flatten.toArray:=fun m=>by
   have:=foldl_rep its m [];rw [List.nil_append] at this;exact this
  rw [f0];cases its with
  | nil=>simp
  | cons a r'=>rw [if_neg (by simp)]
 refine wpAny_binaryOp_repeat_ref (T:="list") (U:="int") (by decide) ⟨_,e,rfl⟩ (fun s'=>typeIs_int s' k t) noFill_list_mul F.fills_int_mul F.slot_int_rmul repeat_list F.slot_int_index.lookup
  (call_meets F.slot_int_rmul (typeIs_int s k t) F.entry_int_rmul (F.args_int_rmul_2 _ _) (int___rmul___int_list k t l its.toArray n)
   ⟨e,rfl,⟨_,e,rfl⟩,call_meets F.slot_list_mul ⟨_,e,rfl⟩ F.entry_list_mul (F.args_list_mul_2 _ _) (AutoListH.list___mul___list_int_3 l its.toArray n k t hfit hcap hlong) ⟨e,?_⟩⟩)
 rw [hnew];exact ⟨.ref _,_,I.ac7 (t':=s.toks) (r.rep k.toNat) (by rw [len_rep,Nat.mul_comm];exact hz),rfl,q _ I.fresh⟩
end
end L2
namespace Att
open PySem PySem.W PySem.Calls PyProof.Rows
theorem w5 {P:Params}{h:Heap}:∀ (ns:List Int)(vs:List Value),WellAll P h vs (ns.map WData.int)->IntsAre vs ns:=by
 intro ns
 induction ns with
 | nil =>
  intro vs w;rw [List.map_nil] at w;cases w;exact .nil
 | cons n ns ih =>
  intro vs w;rw [adR] at w;cases w with
  | cons a b =>
   cases a;exact .cons _ _ (ih _ b)
theorem Hj {l:OpenLaw}{n:Nat}(hn:l.most=some n){P:Params}{h:Heap}{args:List WData}{vals:List Value}
  (hpre:l.row.toRowW.claim.pre args=true)(hwl:WellAll P h vals args):
  ∃ a vs ns,vals=[Value.ref a]/\args=[WData.list (ns.map WData.int)]/\h.get? a=some { cls:=.type "list",data:=.seq vs.toArray }/\IntsAre vs ns/\ns.length<=n:=by
 have hsh:WShape.hasAll [] args [.list .int]=true:=(pre_splitW hpre).1
 have hc:l.pre.holds [] { args:=args }=true:=(pre_splitW hpre).2
 obtain ⟨d,r,rfl,h1,h2⟩:=hasAllW_cons hsh
 obtain rfl:=hasAllW_nil h2
 obtain ⟨xs,rfl,h3⟩:=hasW_list h1
 obtain ⟨ns,rfl⟩:=items_int h3
 have hlen:ns.length<=n:=by
  unfold OpenLaw.pre at hc
  have h4:(WTm.not (.lt (.lit (.int (n:Int))) (.len (.arg 0)))).holds [] { args:=[.list (ns.map .int)] }=true:=by
   have h4:=(holds_andW hc).1
   rw [hn] at h4
   exact h4
  have h5:=condW_of h4 (w_not (w_lt w_lit (w_len_list (w_arg rfl))))
  rw [abW] at h5
  refine Nat.le_of_not_lt fun q=>?_
  have q':(n:Int)<((ns.length:Nat):Int):=by omega
  first
   | (rw [decide_eq_true q'] at h5;exact absurd h5 (by decide))
   | (simp at h5;omega)
 cases hwl with
 | cons w1 w2 =>
  cases w2
  cases w1 with
  | list ho hall=>exact ⟨_,_,ns,rfl,rfl,ho,w5 ns _ hall,hlen⟩
theorem Hz (l:OpenLaw)(args:List WData):l.row.toRowW.claim.post args (.bool true) args=true:=
 postW_of (r:=l.row.toRowW) (X:=(true ==true))
  (show WShape.has [] (.bool true) .bool=true by first| rfl| decide| simp [WShape.has,WShape.arms,WShape.armsAll])
  (show (WTm.eq .res (.lit (.bool true))).value [] { args:=args,res:=some (.bool true),after:=args }=some (.bool (true ==true)) from w_eq_bool (w_res rfl) w_lit) rfl
theorem Dl {l:OpenLaw}{n:Nat}{q:Program}{loose:List Str}{XP:(Fh)->Heap->Prop}{YP:World->Heap->Prop}{d:DefRec}
  (hn:l.most=some n)(hdf:d.params.defaults=[])
  (call:∀ (w:World)(s₀ s₁:Shared)(mg mb:Fh)(fa:Addr)(o:Obj)(pm cd doc:Value)(a:Addr)(vs:List Value)(ns:List Int),
   Ground q loose [] XP w s₀ mg mb s₁.heap->YP w s₁.heap ->
   s₁.heap.get? fa=some o->o.data=.func (docDef d.name d.params d.body d.scope pm cd doc)->s₁.heap.CodeRec cd d.name->mg d.name=some (.ref fa) ->
   s₁.heap.get? a=some { cls:=.type "list",data:=.seq vs.toArray }->IntsAre vs ns->ns.length<=n->s₁.gens=#[] ->
   codeAny (model l.prog w) callerA (.call (.ref fa) ⟨[.ref a],[]⟩) (fun r s'=>r=.ok (.ret (.bool true))/\OldK s₁.heap s'.heap/\s'.os=s₁.os/\AllBare s'.gens) s₁):
  WalkO q loose XP YP l.row.toRowW d [] (fun f vs=>PySem.call f vs):=by
 intro w s₀ s₁ mg mb G Y fa o pm cd doc dV kV ho hd hcd hD hmg hg args vals as hpre hlay hrd hwl hlo
 obtain rfl:dV=.none:=Dflts.none hD hdf
 obtain rfl:kV=.none:=Dflts.noKw hD
 obtain ⟨a,vs,ns,rfl,rfl,hobj,hints,hlen⟩:=Hj hn hpre hwl
 refine enter_call (codeAny_mono (call w s₀ s₁ mg mb fa o pm cd doc a vs ns G Y ho (fd_plain hd) hcd hmg hobj hints hlen hg) fun r s' hq=>?_)
 obtain ⟨rfl,h2,h3,h4⟩:=hq
 exact ⟨.inl ⟨.bool true,.bool true,[],rfl,fun _=>rfl,.bool true,Hz l _,fun _=>⟨List.Pairwise.nil,fun _ hm=>(nomatch hm)⟩⟩,h2,h3,h4⟩
end Att
namespace L2
open PySem PySem.Spec PyProof.Rows
theorem zY:∀ {vs:List Value}{ns:List Int},IntsAre vs ns->Vals (ns.map V.int) vs
 | _,_,.nil=>.nil
 | _,_,.cons n t h=>.cons ⟨t,rfl⟩ (zY h)
def Only (H:Hp):Prop:=∀ b,H b=none\/∃ o xs,H b=some (.frz o (.lst xs))
theorem M9 {P:Program}{w:World}{K:Fa}{mg mb:Fh}{CX:CXT}{k:Nat}{fa a:Addr}{fd:Ff}{x:Str}{sp:Sp}{s₁:Shared}{vs:List Value}{ns:List Int}
  (KX:K.In s₁.heap)(hns:s₁.heap.Ns mainGlobals mg)(hb:s₁.heap.Ns builtinsNs mb)(hbb:∀ x:Str,x≠"__name__"->mb x=bootBuiltins x)(hlim:s₁.heap.NoLimit)(hg:s₁.gens=#[])
  (ha:s₁.heap.get? a=some { cls:=.type "list",data:=.seq vs.toArray })(hi:IntsAre vs ns)(hl:ns.length<=sizeLine)(hr:qu k callerA)
  (F:∀ base:Heap,K.In base->base.Ns mainGlobals mg->zT P w K mg base CX k fa fd [x] sp)(hbind:∀ (s:Shared)(u:Value),BindsTo s fd ⟨[u],[]⟩ [(x,u)])
  (hsp:∀ H:Hp,Only H->SqL K H a (ns.map V.int)->sp [.ref a] H (fun v _=>v=.bl true) fun _ _ _=>False)
  (hCX:∀ H e s',CX [] H s₁ (fun _ _ _=>False) e s'->False):
  codeAny (model P w) callerA (.call (.ref fa) ⟨[.ref a],[]⟩) (fun r s'=>r=.ok (.ret (.bool true))/\OldK s₁.heap s'.heap/\s'.os=s₁.os/\AllBare s'.gens) s₁:=by
 have rv:=zY hi
 have lenV:=hi.length
 have core:∀ H:Hp,Only H->SqL K H a (ns.map V.int)->HOk P w H s₁.heap->(∀ b,H b≠none->b=a)->(H a≠none->K.lookup a=none) ->
   codeAny (model P w) callerA (.call (.ref fa) ⟨[.ref a],[]⟩) (fun r s'=>r=.ok (.ret (.bool true))/\OldK s₁.heap s'.heap/\s'.os=s₁.os/\AllBare s'.gens) s₁:=by
  intro H hO hS hok hA hK
  have base_of:∀ {b:Addr}{o:Obj},s₁.heap.get? b=some o->H b=none->(Nq s₁.heap H).get? b=some o:=fun e n=>Np e n
  have noA:∀ {b:Addr}{o:Obj}{es:Array DictEntry}{ep:Nat},s₁.heap.get? b=some o->o.data=.dict es ep->H b=none:=fun {b o es ep} e d=>by
   cases q:H b with
   | none=>rfl
   | some u =>
    have e':b=a:=hA b (by rw [q];simp)
    subst e'
    rw [ha] at e;cases e
    have d':Data.seq vs.toArray _=Data.dict es ep:=d
    cases d'
  have nsK:∀ {b:Addr}{m:Fh},s₁.heap.Ns b m->(Nq s₁.heap H).Ns b m:=fun {b m} ⟨o,es,ep,e,d,r⟩=>⟨o,es,ep,base_of e (noA e d),d,r⟩
  have hKb:K.In (Nq s₁.heap H):=fun b o e=>base_of (KX b o e) (by
   cases q:H b with
   | none=>rfl
   | some u =>
    have e':b=a:=hA b (by rw [q];simp)
    subst e'
    rw [hK (by rw [q];simp)] at e;cases e)
  have hM:Mod K mg (Nq s₁.heap H):=⟨hKb,nsK hns,⟨mb,nsK hb,hbb⟩,let ⟨mc,h1,h2⟩:=hlim;⟨mc,nsK h1,h2⟩⟩
  have e0:Zv P w K mg (Nq s₁.heap H) callerA [] s₁ H:=⟨rfl,hM,fun b o e=>YX e,Nat.le_of_eq (JW _ _),trivial,fun b hb=>absurd (show b∈([]:List Addr) from hb) (by simp),hok,.of_eq hg⟩
  refine codeAny_mono ((F _ hKb (nsK hns)).run callerA [] s₁ H ⟨[.ref a],[]⟩ [.ref a] [.ref a] _ _ hr e0 (hbind s₁ (.ref a)) (.cons rfl .nil) (hsp H hO hS)) fun r s' h=>?_
  cases r with
  | error e=>exact (hCX H e s' h).elim
  | ok fl =>
   cases fl with
   | next=>exact False.elim h
   | brk=>exact False.elim h
   | cont=>exact False.elim h
   | ret u =>
    obtain ⟨v,H',os,bare,un,hok',r',q⟩:=h
    have q':v=.bl true:=q
    subst q'
    obtain rfl:u=Value.bool true:=r'
    refine ⟨rfl,OldK.of_keep fun b o e=>?_,os,bare⟩
    cases q:H b with
    | none=>exact un.keep b o e q (by intro z;exact absurd (show b∈([]:List Addr) from z) (by simp)) (by simp)
    | some u =>
     rcases hO b with z| ⟨ob,xs,z⟩
     ·rw [q] at z;cases z
     ·have z2:=un.frzs b ob _ z
      obtain ⟨e1,_⟩:=hok b _ z
      obtain ⟨e2,_⟩:=hok' b _ z2
      rw [e] at e1;cases e1
      exact e2
 cases hk:K.lookup a with
 | some o =>
  have e:=KX a o hk
  rw [ha] at e
  cases e
  refine core (fun _=>none) (fun _=>.inl rfl) (.inr ⟨_,vs.toArray,_,hk,rfl,rfl,rfl,by rw [adH,lenV];exact hl,by simpa using rv⟩) (fun b u z=>by have z':(none:Option HO)=some u:=z;cases z') (fun b z=>absurd rfl z) fun z=>absurd rfl z
 | none =>
  refine core (fun b=>if b=a then some (.frz { cls:=.type "list",data:=.seq vs.toArray } (.lst (ns.map V.int))) else none) (fun b=>?_) (.inl (.inr ⟨{ cls:=.type "list",data:=.seq vs.toArray },if_pos rfl⟩)) (fun b u z=>?_) (fun b z=>?_) fun _=>hk
  ·by_cases hb:b=a
   ·exact .inr ⟨_,_,if_pos hb⟩
   ·exact .inl (if_neg hb)
  ·by_cases hb:b=a
   ·have z':=(if_pos hb).symm.trans z
    cases z'
    subst hb
    exact ⟨ha,by rw [abW];exact hl,vs,_,rv,ha⟩
   ·have z':=(if_neg hb).symm.trans z
    cases z'
  ·by_cases hb:b=a
   ·exact hb
   ·exact absurd (if_neg hb) z
theorem Yk {l:PySem.W.OpenLaw}{n k:Nat}{q:Program}{loose:List Str}{XP:(Fh)->Heap->Prop}{YP:World->Heap->Prop}{d:DefRec}{K:Params->Fa}{CX:World->CXT}{sp:World->Sp}{x:Str}
  (hn:l.most=some n)(hn2:n<=sizeLine)(hdf:d.params.defaults=[])(hr:qu k callerA)
  (hY:∀ (w:World)(h:Heap),YP w h->(K w.params).In h)
  (F:∀ (w:World)(mg:Fh)(fa:Addr)(h:Heap),(K w.params).In h->h.Ns mainGlobals mg->mg d.name=some (.ref fa) ->
   ∃ fd:Ff,(∀ (s:Shared)(u:Value),BindsTo s fd ⟨[u],[]⟩ [(x,u)]) /\
    ∀ base:Heap,(K w.params).In base->base.Ns mainGlobals mg->zT l.prog w (K w.params) mg base (CX w) k fa fd [x] (sp w))
  (hsp:∀ (w:World)(H:Hp)(a:Addr)(ns:List Int),ns.length<=n->Only H->SqL (K w.params) H a (ns.map V.int)->sp w [.ref a] H (fun v _=>v=.bl true) fun _ _ _=>False)
  (hCX:∀ (w:World)(H:Hp)(s:Shared)(e:Value)(s':Shared),CX w [] H s (fun _ _ _=>False) e s'->False):
  PySem.W.WalkO q loose XP YP l.row.toRowW d [] (fun f vs=>PySem.call f vs):=by
 refine Att.Dl hn hdf fun w s₀ s₁ mg mb fa o pm cd doc a vs ns G Y ho hd hcd hmg hobj hints hlen hg=>?_
 have KX:=hY w _ Y
 obtain ⟨fd,hb,hF⟩:=F w mg fa _ KX G.T.g hmg
 exact M9 KX G.T.g G.T.b G.T.builtins G.T.nolimit hg hobj hints (aec hlen hn2) hr hF hb (fun H hO hS=>hsp w H a ns hlen hO hS) fun H e s'=>hCX w H s₁ e s'
abbrev CX0:CXT:=fun _ _ _ _ _ _=>False
abbrev E0:XK:=fun _ _ _=>False
theorem oZ {X:Cx}:Passes CX0 X E0:=fun _ _ _ _ _ _ _ h=>h.elim
structure Fun (K:Fa)(x qual:Str)(st:Stmt)(f:Addr)(fd:Ff):Prop where
 ex:∃ (oc:Value)(od:Option Addr)(kV doc pm:Value)(an:Option Addr)(cdv ct:Value)(osl:Array (Option Value)),
  fd=fnOf x qual (iC st) (fC st) (ao st) .none kV doc pm an cdv ct/\K.lookup f=some ⟨oc,od,.func fd,osl⟩/\codeIn K cdv qual=true
 kp:keepIn K (.ref f)=true
variable {P:Program}{w:World}{K:Fa}{mg:Fh}{base:Heap}
theorem Fun.ok {x qual:Str}{st:Stmt}{f:Addr}{fd:Ff}{N ps:List Str}{k:Nat}{sp:Sp}(F:Fun K x qual st f fd)(S:aF N ps (ao st))(len:∀ vs H Q E,sp vs H Q E->vs.length=ps.length)
  (hbody:∀ (cdv:Value)(A:Around)(outer:List Env)(s:Shared)(H:Hp)(vs:Fs)(Q:VK)(E:XK),qu k (A.deeper (envOfC qual (ao st) s.heap.objs.size f cdv))->sp vs H Q E ->
   ∃ t,PSs (KZ CX0 P w K mg base N qual (ao st) f cdv A outer s H E).nox (fC st) t/\t { nx:=fun _ H'=>Q .non H',rt:=Q } (start N vs) H):zT P w K mg base CX0 (k+1) f fd ps sp:=by
 obtain ⟨oc,od,kV,doc,pm,an,cdv,ct,osl,rfl,lk,hcd⟩:=F.ex;refine Zb lk hcd S len fun A outer s H vs Q E hr hsp=>?_;obtain ⟨t,h,q⟩:=hbody cdv A outer s H vs Q E hr hsp;exact ⟨t,h.nox,q⟩
theorem Fun.binds {x qual:Str}{st:Stmt}{f:Addr}{fd:Ff}{ps:List Str}(F:Fun K x qual st f fd)
  (h:∀ (kV doc pm:Value)(an:Option Addr)(cdv ct:Value)(us:List Value),us.length=ps.length->bindArgs (fnOf x qual (iC st) (fC st) (ao st) .none kV doc pm an cdv ct) ⟨us,[]⟩=pure (ps.zip us)):Binds K fd ps []:=by
 obtain ⟨oc,od,kV,doc,pm,an,cdv,ct,osl,rfl,lk,hcd⟩:=F.ex;exact .all (h kV doc pm an cdv ct)
theorem abv {x qual:Str}{st:Stmt}{f:Addr}{oc:Value}{od an:Option Addr}{osl:Array (Option Value)}{kV doc pm cdv ct:Value}(l:K.lookup f=some ⟨oc,od,.func (fnOf x qual (iC st) (fC st) (ao st) .none kV doc pm an cdv ct),osl⟩)
  (c:codeIn K cdv qual=true)(k:keepIn K (.ref f)=true):Fun K x qual st f (fnOf x qual (iC st) (fC st) (ao st) .none kV doc pm an cdv ct):=⟨⟨oc,od,kV,doc,pm,an,cdv,ct,osl,rfl,l,c⟩,k⟩
section
variable {X:Cx}
theorem pv (i:Nat){x:Str}{pos:Pos}(hN:X.N[i]?=some x:=by rfl)(hv:Vis X.env.scope x:=by first| exact Or.inl rfl| exact Or.inr (Or.inl rfl) | exact Or.inr (Or.inr rfl))(hd:(x ==("__debug__":Str))=false:=by decide)
  (hcd:(x ==("__classdict__":Str))=false:=by decide):PE X (.Name x pos) (abR i):=aam hN hv hd hcd
end
theorem lR {A B:Prop}(h:B):if false=true then A else B:=by
 rw [if_neg adv];exact h
theorem j7 {A B:Prop}(h:A):if true=true then A else B:=by
 rw [if_pos rfl];exact h
theorem acy {c A B:Prop} [Decidable c] (h1:c->A) (h2:¬ c->B):if c then A else B:=by
 by_cases h:c
 ·rw [if_pos h];exact h1 h
 ·rw [if_neg h];exact h2 h
theorem acw {c A B:Prop} [Decidable c] (hc:c) (h:B):if (!decide c)=true then A else B:=by
 rw [decide_eq_true hc];exact lR h
def Same (H H':Hp):Prop:=∀ b o,H b=some o->H' b=some o
theorem Same.refl (H:Hp):Same H H:=fun _ _ h=>h
theorem Same.free {H H':Hp}(e:Same H H'){l:Addr}(h:H' l=Option.none):H l=Option.none:=by
 cases q:H l with
 | none=>rfl
 | some o =>
  rw [e l o q] at h;cases h
theorem Same.seq {K:Fa}{H H':Hp}{a:Addr}{xs:Fs}(e:Same H H')(h:SqL K H a xs):SqL K H' a xs:=by
 rcases h with (h| ⟨o,h⟩) | h
 ·exact .inl (.inl (e _ _ h))
 ·exact .inl (.inr ⟨o,e _ _ h⟩)
 ·exact .inr h
end L2
namespace L2
open PySem PySem.Spec PyProof.Rows
def clo (cells:List (Str × Addr)):List (Str × NameKind)->List (Str × Addr)->List (Str × Addr)
 | [],cs=>cs
 | (n,k)::r,cs=>clo cells r (if k == .free then (n,(cells.lookup n).getD 0)::cs else cs)
theorem Ko {env:Env}:∀ (names:List (Str × NameKind))(cs:List (Str × Addr)),(∀ y∈names,y.2=.free->∃ c,env.cells.lookup y.1=some c) ->
  (forIn names cs fun (x:Str × NameKind)(r:List (Str × Addr))=>(do
   let cs:=r
   match x with
   | (name,kind)=>
    if kind == .free then do
     let c <- cellOf env name
     let cs:=(name,c)::cs
     pure (ForInStep.yield cs)
    else pure (ForInStep.yield cs):Sem (ForInStep (List (Str × Addr)))))=pure (clo env.cells names cs)
 | [],cs,_=>rfl
 | (n,k)::r,cs,h=>by
  rw [aeS]
  by_cases hk:k=.free
  ·subst hk
   obtain ⟨c,hc⟩:=h (n,.free) adM rfl
   have e:cellOf env n=pure c:=by unfold cellOf;rw [hc]
   simp only [beq_self_eq_true,if_true,e,pure_bind]
   rw [Ko r _ fun y hy=>h y (adI _ hy)]
   simp [clo,hc]
  ·have hb:(k ==NameKind.free)=false:=by simpa using hk
   simp only [hb,Bool.false_eq_true,if_false,pure_bind]
   rw [Ko r _ fun y hy=>h y (adI _ hy)]
   simp [clo,hb]
theorem yt {env:Env}{scope:Scope}(h:∀ y∈scope.names,y.2=.free->∃ c,env.cells.lookup y.1=some c):closureFor scope env=pure (clo env.cells scope.names []):=by
 unfold closureFor;have e:=Ko (env:=env) scope.names [] h
 first
  | (rw [<- e];rfl)
  | (simp only [bind_pure];exact e)
  | exact e
theorem Km {cells:List (Str × Addr)}:∀ (names:List (Str × NameKind))(cs:List (Str × Addr))(p:Str × Addr),p∈clo cells names cs->p∈cs\/p.2=(cells.lookup p.1).getD 0
 | [],_,_,h=>.inl h
 | (n,k)::r,cs,p,h=>by
  rcases Km r _ p h with h' | h'
  ·by_cases hk:(k ==NameKind.free)=true
   ·rw [if_pos hk] at h';rcases adt.mp h' with e| e
    ·subst e;exact .inr rfl
    ·exact .inl e
   ·rw [if_neg hk] at h';exact .inl h'
  ·exact .inr h'
theorem Fg {cells:List (Str × Addr)}:∀ (names:List (Str × NameKind))(cs:List (Str × Addr))(x:Str),(cs.lookup x).isSome=true->((clo cells names cs).lookup x).isSome=true
 | [],_,_,h=>h
 | (n,k)::r,cs,x,h=>by
  refine Fg r _ x ?_;by_cases hk:(k ==NameKind.free)=true
  ·rw [if_pos hk];rw [List.lookup_cons];cases x ==n with
   | true=>rfl
   | false=>exact h
  ·rw [if_neg hk];exact h
theorem Di {cells:List (Str × Addr)}:∀ (names:List (Str × NameKind))(cs:List (Str × Addr))(x:Str),(x,NameKind.free)∈names->((clo cells names cs).lookup x).isSome=true
 | [],_,_,h=>nomatch h
 | (n,k)::r,cs,x,h=>by
  show ((clo cells r _).lookup x).isSome=true;rcases adt.mp h with e| e
  ·have e1:x=n:=congrArg Prod.fst e;have e2:NameKind.free=k:=congrArg Prod.snd e;subst e1;subst e2;refine Fg r _ x ?_;rw [if_pos (by decide),List.lookup_cons];simp
  ·exact Di r _ x e
theorem Zn {cells:List (Str × Addr)}{names:List (Str × NameKind)}{x:Str}{c:Addr}(h:(clo cells names []).lookup x=some c):c=(cells.lookup x).getD 0:=by
 rcases Km names [] _ (ad5 h) with z| z
 ·exact nomatch z
 ·exact z
theorem Fi {cells:List (Str × Addr)}:∀ {names:List (Str × NameKind)}(cs:List (Str × Addr)){p:Str × Addr},p∈clo cells names cs->p∈cs\/(p.1,NameKind.free)∈names
 | [],_,_,h=>.inl h
 | (n,k)::r,cs,p,h=>by
  rcases Fi (names:=r) _ h with h' | h'
  ·by_cases hk:(k ==NameKind.free)=true
   ·rw [if_pos hk] at h';rcases adt.mp h' with e| e
    ·subst e;have:k=.free:=by simpa using hk
     subst this;exact .inr adM
    ·exact .inl e
   ·rw [if_neg hk] at h';exact .inl h'
  ·exact .inr (adI _ h')
def qO (X:Cx)(scope:Scope)(N:List Str)(s:Shared)(H:Hp)(ex:List Addr):Cx:=
 { X with N:=N,s₀:=s,H₀:=H,env:=compEnvC scope (clo X.env.cells scope.names []) s.heap.objs.size X.env,outer:=X.stack,stack:=X.stack,ex:=ex,fn:=fun x=>((clo X.env.cells scope.names []).lookup x).isNone,pn:=[],xe:=fun _ _=>False }
def freeOk (sc scope:Scope):Bool:=scope.names.all fun y=>(y.2 != .free) || (sc.names.lookup y.1 ==some .cell) || (sc.names.lookup y.1 ==some .free)
def Ls (scope:Scope):Bool:=(scope.kind == .function) && (scope.names.all fun y=>y.2 != .cell) && (scope.names.all fun y=>y.2 != .local|| scope.names.lookup y.1 ==some .local)
def NQ (scope:Scope)(N N':List Str)(cap:List (Option Nat)):Bool:=(cap.length ==N'.length) && (N'.zip cap).all fun p=>match p.2 with
 | none=>true
 | some j=>N[j]? ==some p.1&& scope.names.lookup p.1 ==some .free
def Kp (cap:List (Option Nat))(σ:St):St:=cap.map fun o=>o.bind fun j=>(σ[j]?).bind id
theorem rJ {f:Str × NameKind->Str × NameKind}(hf:∀ y,(f y).1=y.1)(x:Str):∀ names:List (Str × NameKind),(names.map f).lookup x=(names.lookup x).map fun k=>(f (x,k)).2
 | []=>rfl
 | (n,k)::r=>by
  have ih:=rJ hf x r;have e1:(f (n,k)).1=n:=hf (n,k);have e2:f (n,k)=(n,(f (n,k)).2):=Prod.ext e1 rfl;rw [adR,e2,List.lookup_cons,List.lookup_cons];cases hx:x ==n with
  | true =>
   have:x=n:=by simpa using hx
   subst this;rfl
  | false=>exact ih
def rlb (env:Env):Str × NameKind->Str × NameKind:=fun (n,k)=>if (k ==NameKind.free&& env.scope.kind == .function&& env.kindOf n ==some .cell) then (n,NameKind.cell) else (n,k)
theorem Hu (env:Env)(y:Str × NameKind):(rlb env y).1=y.1:=by
 obtain ⟨n,k⟩:=y;unfold rlb;dsimp only;split <;>rfl
theorem Ht (env:Env)(n:Str)(k:NameKind):(rlb env (n,k)).2=k\/((rlb env (n,k)).2=.cell/\k=.free):=by
 unfold rlb;dsimp only;split
 ·rename_i h
  rw [ad4,ad4] at h;exact .inr ⟨rfl,by simpa using h.1.1⟩
 ·exact .inl rfl
theorem uh (scope:Scope)(env:Env):(relabel scope env).names=scope.names.map (rlb env):=rfl
theorem Bd {scope:Scope}{env:Env}{x:Str}(h:scope.names.lookup x=some .free):(relabel scope env).names.lookup x=some .cell\/(relabel scope env).names.lookup x=some .free:=by
 rw [uh,rJ (Hu env),h];rcases Ht env x .free with e| ⟨e,_⟩
 ·exact .inr (congrArg some e)
 ·exact .inl (congrArg some e)
theorem vG {scope:Scope}{env:Env}{x:Str}{k':NameKind}(hk:k'=.cell\/k'=.free)(hn:∀ y∈scope.names,y.2≠.cell)(h:(relabel scope env).names.lookup x=some k'):(x,NameKind.free)∈scope.names:=by
 rw [uh,rJ (Hu env)] at h;cases e:scope.names.lookup x with
 | none=>rw [e] at h;cases h
 | some k =>
  rw [e] at h;have h':(rlb env (x,k)).2=k':=adP h;have hm:=ad5 e;rcases Ht env x k with z| ⟨_,z⟩
  ·rw [z] at h';subst h';rcases hk with z2| z2
   ·exact absurd z2 (hn _ hm)
   ·rw [z2] at hm;exact hm
  ·rw [z] at hm;exact hm
def PTs (X:Cx)(ifs:List Expr)(t:TT):Prop:=
 ∀ (pins:Fk)(s:Shared)(σ:St)(H:Hp)(Q:Bool->Hp->Prop),Inv X pins σ H s->t σ H Q ->
  wpAny (model X.prog X.w) X.A (forIn ifs true fun c r=>if r=true then do let ok <- isTrue c X.env (eval c X.env);pure (ForInStep.yield ok) else pure (ForInStep.yield r)) (TP X pins σ Q) X.xe s
def ab3:TT:=fun _ H Q=>Q true H
theorem K3 {i:Nat}{x:V}{τ:St}{H:Hp}{A B:St->Hp->Prop}(h:A (τ.set i (some x)) H):Nu i x τ H fun τ4 H4=>ab3 τ4 H4 fun b H5=>if b=true then A τ4 H5 else B τ4 H5:=by
 show if true=true then A (τ.set i (some x)) H else B (τ.set i (some x)) H;rw [if_pos rfl];exact h
theorem jl {X:Cx}:PTs X [] ab3:=fun _ _ _ H _ I h=>wpAny_tests_nil ⟨H,I,h⟩
theorem Hw {X:Cx}{c:Expr}{t:TT}(h:PT X c t):PTs X [c] t:=fun pins s σ H Q I hq=>wpAny_tests_one (h pins s σ H Q I hq)
def yw (J:It)(acc:Addr)(g:TG)(tc:TT)(te:TE)(τ:St)(H1:Hp)(Q:Hp->Prop):Prop:=
 ∃ W:Nat->Nat->St->Hp->Prop,(∃ m,W 0 m τ (upd H1 acc (.lst [])))/\∀ i m τ H2,W i m τ H2->(J.stop i H2/\Q H2)\/(J.go i H2/\∃ N:St->Hp->Prop,(∀ τ' H',N τ' H'->∃ m',m'<m/\W (i+1) m' τ' H')/\∀ x H3,J.yld i H2 x H3->g x τ H3 fun τ4 H4 =>
  tc τ4 H4 fun b H5=>if b=true then te τ4 H5 fun y H6=>∃ ys,H6 acc=some (.lst ys)/\ys.length<sizeLine/\N τ4 (upd H6 acc (.lst (ys++[y]))) else N τ4 H5)
theorem qt {lo:Int}{n:Nat}{acc:Addr}{g:TG}{tc:TT}{te:TE}{τ:St}{H1:Hp}{Q:Hp->Prop}(Pv:Nat->St->Hp->Prop)(h0:Pv 0 τ (upd H1 acc (.lst [])))
  (hs:∀ i τ H,i<n->Pv i τ H->g (.int (lo+i)) τ H fun τ4 H4=>tc τ4 H4 fun b H5=>if b=true then te τ4 H5 fun y H6=>∃ ys,H6 acc=some (.lst ys)/\ys.length<sizeLine/\Pv (i+1) τ4 (upd H6 acc (.lst (ys++[y]))) else Pv (i+1) τ4 H5)
  (hd:∀ τ H,Pv n τ H->Q H):yw (Itr lo n) acc g tc te τ H1 Q:=by
 refine ⟨fun i m τ H=>m=n - i/\i<=n/\Pv i τ H,⟨n,by simp,adY _,h0⟩,?_⟩
 rintro i m τ H ⟨rfl,hi,p⟩
 by_cases hlt:i<n
 ·refine .inr ⟨hlt,Pv (i+1),fun τ' H' p'=>⟨n - (i+1),by omega,rfl,hlt,p'⟩,fun x H' y=>?_⟩
  obtain ⟨e,y⟩:=y
  subst e y
  exact hs i τ _ hlt p
 ·have e:i=n:=by omega
  subst e
  exact .inl ⟨ado _,hd τ H p⟩
theorem pX {K:Fa}{a:Addr}{xs:Fs}{acc:Addr}{g:TG}{tc:TT}{te:TE}{τ:St}{H1:Hp}{Q:Hp->Prop}(Pv:Nat->St->Hp->Prop)(h0:Pv 0 τ (upd H1 acc (.lst [])))(hl:∀ i τ H,i<=xs.length->Pv i τ H->SqL K H a xs)
  (hs:∀ i x τ H,xs[i]?=some x->Pv i τ H->g x τ H fun τ4 H4=>tc τ4 H4 fun b H5=>if b=true then te τ4 H5 fun y H6=>∃ ys,H6 acc=some (.lst ys)/\ys.length<sizeLine/\Pv (i+1) τ4 (upd H6 acc (.lst (ys++[y]))) else Pv (i+1) τ4 H5)
  (hd:∀ τ H,Pv xs.length τ H->Q H):yw (Itl K a) acc g tc te τ H1 Q:=by
 refine ⟨fun i m τ H=>m=xs.length - i/\i<=xs.length/\Pv i τ H,⟨xs.length,by simp,adY _,h0⟩,?_⟩
 rintro i m τ H ⟨rfl,hi,p⟩
 have q:=hl i τ H hi p
 by_cases hlt:i<xs.length
 ·refine .inr ⟨⟨xs,xs[i],q,by simp [hlt]⟩,Pv (i+1),fun τ' H' p'=>⟨xs.length - (i+1),by omega,rfl,hlt,p'⟩,fun x H' y=>?_⟩
  obtain ⟨e,y⟩:=y
  subst e
  exact hs i x τ _ (y xs q) p
 ·have e:i=xs.length:=by omega
  subst e
  exact .inl ⟨⟨xs,q,ado _⟩,hd τ H p⟩
def Yq (wi:TI)(cap:List (Option Nat))(g:TG)(tc:TT)(te:TE):TE:=fun σ H Q=>wi σ H fun J H1=>∀ acc,H1 acc=none->yw J acc g tc te (Kp cap σ) H1 (fun H2=>Q (.ref acc) H2)
abbrev abI (ifs:List Expr)(env:Env):Sem Bool:=forIn ifs true fun c r=>if r=true then do let ok <- isTrue c env (eval c env);pure (ForInStep.yield ok) else pure (ForInStep.yield r)
abbrev wpQ {α:Type}(prog:Program)(w:World)(A:Around)(m:Sem α)(Q:α->Shared->Prop)(s:Shared):Prop:=wpAny (model prog w) A m Q (fun _ _=>False) s
theorem Kg {prog:Program}{w:World}{A:Around}{R:Result->Shared->Prop}{s:Shared}{elt target iter:Expr}{ifs:List Expr}{scope:Scope}{pos:Pos}{it acc:Value}{env:Env}(I:Nat->Shared->Prop)
  (turn:∀ k s0,I k s0->wpQ prog w A (pyNext it) (fun r s1=>(r=none/\R (.ok .next) s1)\/∃ v,r=some v /\
   wpQ prog w A (letOwnedTupleGo target it v) (fun _ s2=>wpQ prog w A (assign target env v) (fun _ s3=>wpQ prog w A (abI ifs env) (fun ok s4 =>
    (ok=false/\∃ m,m<k/\I m s4)\/(ok=true/\wpQ prog w A (eval elt env) (fun x s5=>wpQ prog w A (call (.builtin "list.append") [acc,x]) (fun _ s6=>∃ m,m<k/\I m s6) s5) s4)) s3) s2) s1) s0)
  (k:Nat)(h:I k s):codeAny (model prog w) A (.compLoop (.ListComp elt [⟨target,iter,ifs,0⟩] scope pos) 0 it acc env) R s:=by
 have quiet:∀ (e:Value)(s':Shared),False->notedBy (model prog w) A env (fun e s'=>R (.error e) s') e s':=fun _ _ z=>z.elim;apply codeAny_loop rfl I _ k h;intro k s0 start;apply wpAny_noted;rw [compTurn_list];apply wpAny_bind;apply wpAny_standAt;apply wpAny_bind;apply wpAny_mono (turn k s0 start) _ quiet;rintro r s1 (⟨rfl,stop⟩ | ⟨v,rfl,rest⟩)
 ·exact wpAny_pure stop
 apply wpAny_bind;apply wpAny_mono rest _ quiet;intro _ s2 h2;apply wpAny_bind;apply wpAny_mono h2 _ quiet;intro _ s3 h3;apply wpAny_bind;apply wpAny_mono h3 _ quiet;rintro ok s4 (⟨rfl,skip⟩ | ⟨rfl,add⟩)
 ·exact wpAny_pure ⟨rfl,skip⟩
 apply wpAny_bind;apply wpAny_bind;apply wpAny_mono add _ quiet;intro x s5 h5;apply wpAny_bind;apply wpAny_mono h5 _ quiet;intro _ s6 h6;exact wpAny_pure (wpAny_pure ⟨rfl,h6⟩)
section
variable {X:Cx}{tg iter elt:Expr}{ifs:List Expr}{scope:Scope}{pos:Pos}{wi:TI}{N':List Str}{cap:List (Option Nat)}{g:TG}{tc:TT}{te:TE}
theorem yK {use:Option (Value->Sem Unit)}{R:Fm}(sc:Scope)(hsc:X.env.scope=sc)(N₀:List Str)(hN₀:X.N=N₀)(f1:freeOk sc scope=true)(f2:Ls scope=true)(f3:NQ scope N₀ N' cap=true)(hcalm:X.calm=true)
  (hi:PI X tg iter wi)
  (hg:∀ (s:Shared)(H:Hp)(ex:List Addr),PG (qO X scope N' s H ex) tg g)
  (hc:∀ (s:Shared)(H:Hp)(ex:List Addr),PTs (qO X scope N' s H ex) ifs tc)
  (he:∀ (s:Shared)(H:Hp)(ex:List Addr),PE (qO X scope N' s H ex) elt te)
  (hs:∀ x,foldedSetIterable iter X.env x=pure x)
  {pins:Fk}{s:Shared}{σ:St}{H:Hp}{Q:V->Hp->Prop}(I:Inv X pins σ H s)(h:Yq wi cap g tc te σ H Q)
  (fin:∀ (acc C:Addr)(s':Shared)(H':Hp)(m:Fh),Inv X pins σ H' s'->s'.heap.Ns C m->H' C=none->C≠X.env.locals->X.s₀.heap.objs.size<=C->(∀ x c,X.env.cells.lookup x=some c->c≠C)->(∀ p∈X.pn++pins,p.1≠C)->Q (.ref acc) H' ->
   compPost (model X.prog X.w) X.A X.xe use R (.ref acc) C (.ok .next) s'):
  wpAny (model X.prog X.w) X.A (comprehension (.ListComp elt [⟨tg,iter,ifs,0⟩] scope pos) scope X.env (firstIterPos [⟨tg,iter,ifs,0⟩] pos) (newList []) false (firstIter [⟨tg,iter,ifs,0⟩] X.env) use) R X.xe s:=by
 have ok:=I.ok
 have fr:∀ y∈scope.names,y.2=.free->X.env.kindOf y.1=some .cell\/X.env.kindOf y.1=some .free:=fun y hy e=>by
  have q:=adO.mp f1 y hy
  rw [e] at q
  have q':((sc.names.lookup y.1 ==some NameKind.cell) || (sc.names.lookup y.1 ==some NameKind.free))=true:=by simpa using q
  rw [Bool.or_eq_true] at q'
  unfold Env.kindOf
  rw [hsc]
  rcases q' with z| z
  ·exact .inl (by simpa using z)
  ·exact .inr (by simpa using z)
 obtain ⟨⟨k1,k2⟩,k3⟩:((scope.kind == .function)=true/\(scope.names.all fun y=>y.2 != .cell)=true)/\(scope.names.all fun y=>y.2 != .local|| scope.names.lookup y.1 ==some .local)=true:=by
  unfold Ls at f2
  rw [ad4,ad4] at f2
  exact f2
 have hkind:scope.kind=.function:=by simpa using k1
 have hcell:∀ y∈scope.names,y.2≠.cell:=fun y hy=>by
  have q:=adO.mp k2 y hy
  simpa using q
 have hnames:∀ y∈scope.names,y.2=.local->scope.names.lookup y.1=some .local:=fun y hy e=>by
  have q:=adO.mp k3 y hy
  rw [e] at q
  simpa using q
 have hclos:closureFor scope X.env=pure (clo X.env.cells scope.names []):=yt fun y hy e=>ok.has y.1 (fr y hy e)
 have clX:∀ x c,(clo X.env.cells scope.names []).lookup x=some c->X.env.cells.lookup x=some c:=fun x c e=>by
  have e1:=Zn e
  have hx:(x,NameKind.free)∈scope.names:=by
   rcases Fi [] (ad5 e) with z| z
   ·exact nomatch z
   ·exact z
  obtain ⟨c',e2⟩:=ok.has x (fr (x,.free) hx rfl)
  rw [e2] at e1 ⊢
  rw [e1];rfl
 refine wpAny_comprehension_free (use:=use) rfl hs hclos hkind hnames ?_
 show wpAny (model X.prog X.w) X.A (eval iter X.env) _ X.xe s
 refine thn (hi pins s σ H _ I h) fun v s1 h1=>thn h1 fun itv s2 h2=>?_
 obtain ⟨it,fp,tn,J,H2,e,I2,T,st2,f2',h3⟩:=h2
 subst e
 refine wpAny_newObj_type ?_
 have fresh2:H2 s2.heap.objs.size=none:=I2.hok.fresh (ado _)
 have I3:Inv X pins σ (upd H2 s2.heap.objs.size (.lst [])) { s2 with heap:=s2.heap.push { cls:=.type "list",data:=.seq ([]:List Value).toArray } }:=
  I2.laid (t':=s2.toks) (fun b o e=>adn _ e) (ado _) ⟨adY _,[],0,.nil,adq _ rfl⟩
 have st3:tn 0 (s2.heap.push { cls:=.type "list",data:=.seq ([]:List Value).toArray }):=T.keep _ _ _ st2 fun b _ o e=>adn _ e
 have fpne:∀ b∈fp,b≠s2.heap.objs.size:=fun b hb z=>by
  obtain ⟨o,eo,_⟩:=T.obj 0 _ st2 b hb
  exact absurd (adu eo) (by rw [z];exact aei _)
 have fp3:∀ b∈fp,Ob X pins (upd H2 s2.heap.objs.size (.lst [])) b:=fun b hb=>by
  obtain ⟨a0,a1⟩:=f2' b hb
  exact ⟨by rw [aX (fpne b hb)];exact a0,a1⟩
 obtain ⟨W,⟨m0,w0⟩,turn⟩:=h3 s2.heap.objs.size fresh2
 generalize hacc:s2.heap.objs.size=acc at I3 fp3 w0 turn fpne ⊢
 generalize hs3:({ s2 with heap:=s2.heap.push { cls:=.type "list",data:=.seq ([]:List Value).toArray } }:Shared)=s3 at I3 ⊢
 have st3:tn 0 s3.heap:=by rw [<- hs3];exact st3
 have accTr:(upd H2 acc (.lst [])) acc=some (.lst []):=cC
 refine wpAny_newFunctionEnv hcell (by intro y hy;cases hy) (fun h4 hns hsb=>?_) hkind
 have hCf:s3.heap.get? s3.heap.objs.size=none:=Heap.get?_none_of_le (ado _)
 have kp4:∀ b o,s3.heap.get? b=some o->h4.get? b=some o:=fun b o e=>hsb.extBut b o (adV (adu e)) (adn _ e)
 let Y:Cx:=qO X scope N' s3 (upd H2 acc (.lst [])) fp
 have envY:Y.env=compEnvC scope (clo X.env.cells scope.names []) s3.heap.objs.size X.env:=rfl
 have okY:Y.Ok:=by
  refine ⟨ok.mod,?_,ok.glob,ok.blt,ado _,?_,?_,?_,ok.hd,ok.frames,.inl rfl,?_,?_,?_,?_,?_,?_,?_⟩
  ·show (relabel scope X.env).kind=.function
   exact hkind
  ·exact fun x y c h1 h2=>ok.inj x y c (clX x c h1) (clX y c h2)
  ·intro x hx
   have hx':(relabel scope X.env).names.lookup x=some .cell\/(relabel scope X.env).names.lookup x=some .free:=hx
   have hm:(x,NameKind.free)∈scope.names:=by
    rcases hx' with z| z
    ·exact vG (.inl rfl) hcell z
    ·exact vG (.inr rfl) hcell z
   exact aeV.mp (Di scope.names [] x hm)
  ·intro x c hx h1
   have hx':((clo X.env.cells scope.names []).lookup x).isNone=true:=hx
   have h1':(clo X.env.cells scope.names []).lookup x=some c:=h1
   rw [h1'] at hx';cases hx'
  ·intro b hb
   obtain ⟨q0,q1,q2,q3,q4,q5⟩:=fp3 b hb
   refine ⟨?_,fun x c h1=>q4 x c (clX x c h1)⟩
   obtain ⟨o,eo,_⟩:=T.obj 0 _ st3 b hb
   exact adV (adu eo)
  ·exact fun b o e=>I3.bs b o e
  ·exact aec ok.bsz I3.sz
  ·intro b o e hb
   obtain ⟨q0,q1,q2,q3,q4,q5⟩:=fp3 b hb
   rcases q3 with z| z
   ·exact ok.noex b o e z
   ·exact absurd (adQ (adu e) (aec ok.bsz z)) (aei _)
  ·intro b hb hf
   obtain ⟨q0,q1,q2,q3,q4,q5⟩:=fp3 b hb
   rcases adt.mp (I3.GP b hf) with z| z
   ·exact q1 z
   ·exact q2 z
  ·exact I3.stack
  ·exact I3.Cd
 have capl:cap.length=N'.length/\∀ p∈N'.zip cap,(match p.2 with| none=>true| some j=>N₀[j]? ==some p.1&& scope.names.lookup p.1 ==some .free)=true:=by
  unfold NQ at f3
  rw [ad4] at f3
  exact ⟨by simpa using f3.1,fun p hp=>adO.mp f3.2 p hp⟩
 have IY:Inv Y [] (Kp cap σ) (upd H2 acc (.lst [])) { s3 with heap:=h4,toks:=s3.toks+([]:List (Str × Value)).length }:=by
  refine ⟨okY,rfl,I3.bare,Un.kept kp4,⟨_,hns,?_⟩,?_,?_,?_,fun p hp=>absurd (show p∈([]:Fk) from hp) (by simp),I3.hok.kept kp4,?_⟩
  ·intro i x v e1 e2 e3
   have e1':N'[i]?=some x:=e1
   unfold Kp at e2
   rw [adC] at e2
   cases ec:cap[i]? with
   | none=>rw [ec] at e2;cases e2
   | some o =>
    rw [ec] at e2
    cases o with
    | none=>cases e2
    | some j =>
     have e2':(σ[j]?).bind id=some v:=by simpa using e2
     have hz:(x,some j)∈N'.zip cap:=by
      refine adp (i:=i) ?_
      rw [List.getElem?_zip_eq_some]
      exact ⟨e1',ec⟩
     have q:=capl.2 _ hz
     have q':(N₀[j]? ==some x)=true/\(scope.names.lookup x ==some NameKind.free)=true:=by simpa [ad4] using q
     have q1:X.N[j]?=some x:=by rw [hN₀];simpa using q'.1
     have q2:scope.names.lookup x=some .free:=by simpa using q'.2
     have eσ:σ[j]?=some (some v):=by
      cases z:σ[j]? with
      | none=>rw [z] at e2';cases e2'
      | some y =>
       rw [z] at e2'
       have:y=some v:=e2'
       rw [this]
     have hk:=fr (x,.free) (ad5 q2) rfl
     obtain ⟨m,hn,hl⟩:=I3.loc
     have vis:Vis X.env.scope x:=by
      rcases hk with z| z
      ·exact .inr (.inl z)
      ·exact .inr (.inr z)
     obtain ⟨u,r,l⟩:=hl j x v q1 eσ vis
     refine ⟨u,r,.inr ⟨?_,?_⟩⟩
     ·rcases Bd (scope:=scope) (env:=X.env) q2 with z| z
      ·exact .inl z
      ·exact .inr z
     ·rcases l with ⟨kl,_⟩ | ⟨_,c,ecx,hcx⟩
      ·rcases hk with z| z
       ·have z':X.env.kindOf x=some .cell:=z
        rw [kl] at z';cases z'
       ·have z':X.env.kindOf x=some .free:=z
        rw [kl] at z';cases z'
      ·have hh:=Di (cells:=X.env.cells) scope.names [] x (ad5 q2)
       obtain ⟨c',ec'⟩:=aeV.mp hh
       have ec2:=clX x c' ec'
       rw [ecx] at ec2
       cases ec2
       exact ⟨c,ec',hcx.keeps kp4⟩
  ·intro x c e
   obtain ⟨v,z⟩:=I3.cell x c (clX x c e)
   exact ⟨v,z.keeps kp4⟩
  ·exact I3.hok.fresh (ado _)
  ·exact fun x c e=>I3.freeC x c (clX x c e)
  ·show (Kp cap σ).length=N'.length
   unfold Kp
   rw [abW];exact capl.1
 have fpY:∀ {H':Hp},(∀ b∈fp,H' b=none)->∀ b∈fp,Ob Y [] H' b:=fun {H'} hn b hb=>by
  obtain ⟨q0,q1,q2,q3,q4,q5⟩:=fp3 b hb
  refine ⟨hn b hb,(okY.exf b hb).1,okY.exfs b hb,.inl hb,(okY.exf b hb).2,fun p hp=>absurd (show p∈([]:Fk) from hp) (by simp)⟩
 have st4:tn 0 h4:=T.keep _ _ _ st3 fun b _ o e=>kp4 b o e
 have back:∀ {τ:St}{H':Hp}{s':Shared},Inv Y [] τ H' s'->Q (.ref acc) H'->compPost (model X.prog X.w) X.A X.xe use R (.ref acc) s3.heap.objs.size (.ok .next) s':=fun {τ H' s'} J q=>by
  have un:Un (frs X.stack) fp (upd H2 acc (.lst [])) H' s3.heap s'.heap:=J.base
  have IX:Inv X pins σ H' s':=I3.call' (J.os) un J.hok J.bare fun b hb=>by
   obtain ⟨q0,q1,q2,q3,q4,q5⟩:=fp3 b hb
   exact ⟨q3,q1,q4,q5⟩
  obtain ⟨m,hn,_⟩:=J.loc
  refine fin acc s3.heap.objs.size s' H' m IX hn J.free (Nat.ne_of_gt I3.lt) I3.sz (fun x c e z=>?_) (fun p hp z=>?_) q
  ·obtain ⟨v,q⟩:=I3.cell x c e
   exact absurd q.lt (by rw [z];exact aei _)
  ·exact absurd (adu (I3.pin p hp).1) (by rw [z];exact aei _)
 have loop:∀ s5:Shared,s5={ s3 with heap:=h4,toks:=s3.toks+([]:List (Str × Value)).length } ->
   codeAny (model X.prog X.w) X.A (.compLoop (.ListComp elt [⟨tg,iter,ifs,0⟩] scope pos) 0 (.ref it) (.ref acc) Y.env) (compPost (model X.prog X.w) X.A X.xe use R (.ref acc) s3.heap.objs.size) s5:=by
  rintro s5 rfl
  refine Kg (fun n s'=>∃ i τ H',Inv Y [] τ H' s'/\tn i s'.heap/\(∀ b∈fp,H' b=none)/\W i n τ H') ?_ m0 ⟨0,_,_,IY,st4,fun b hb=>(fp3 b hb).1,w0⟩
  rintro n s6 ⟨i,τ,H6,I6,st6,fr6,w6⟩
  rcases turn i n τ H6 w6 with ⟨stop,q⟩ | ⟨go,N,hN,step⟩
  ·refine wpAny_mono (T.done Y rfl rfl rfl hcalm i [] s6 τ H6 (fun _ _=>False) I6 (fpY fr6) st6 stop) (fun r s7 ⟨hr,I7⟩=>?_) fun _ _ z=>z.elim
   exact .inl ⟨hr,back I7 q⟩
  ·refine wpAny_mono (T.item Y rfl rfl rfl hcalm i [] s6 τ H6 (fun _ _=>False) I6 (fpY fr6) st6 go) (fun r s6b ⟨u,hr,h7⟩=>?_) fun _ _ z=>z.elim
   refine .inr ⟨u,hr,?_⟩
   refine wpAny_mono h7 (fun _ s7 ⟨x,H7,I7,r7,y7,st7,fr7⟩=>?_) fun _ _ z=>z.elim
   have I7':=I7.pinned (fpY fr7) (T.obj _ _ st7)
   have again:∀ {τ8:St}{H8:Hp}{s8:Shared},Inv Y ([]++Bg fp s7.heap) τ8 H8 s8->N τ8 H8->∃ m,m<n/\∃ i τ H',Inv Y [] τ H' s8/\tn i s8.heap/\(∀ b∈fp,H' b=none)/\W i m τ H':=fun {τ8 H8 s8} I8 n8=>by
    obtain ⟨m',hm,w8⟩:=hN τ8 H8 n8
    refine ⟨m',hm,i+1,τ8,H8,I8.vZ,T.keep _ _ _ st7 fun b hb o e=>(I8.pin (b,o) (Mv _ (Mv _ (ql hb e)))).1,fun b hb=>?_,w8⟩
    obtain ⟨o,e,d⟩:=T.obj _ _ st7 b hb
    exact (I8.pin (b,o) (Mv _ (Mv _ (ql hb e)))).2.1
   refine wpAny_mono (hg s3 (upd H2 acc (.lst [])) fp _ s7 τ H7 x u _ I7' r7 (step x H7 y7)) (fun _ s8 ⟨τ8,H8,I8,q8⟩=>?_) fun _ _ z=>z.elim
   refine wpAny_mono (hc s3 (upd H2 acc (.lst [])) fp _ s8 τ8 H8 _ I8 q8) (fun b s9 ⟨H9,I9,q9⟩=>?_) fun _ _ z=>z.elim
   cases b with
   | false =>
    rw [if_neg adv] at q9
    exact .inl ⟨rfl,again I9 q9⟩
   | true =>
    rw [if_pos rfl] at q9
    refine .inr ⟨rfl,?_⟩
    refine wpAny_mono (he s3 (upd H2 acc (.lst [])) fp _ s9 τ8 H9 _ I9 q9) (fun y s10 ⟨yv,H10,I10,r10,ys,hl,hz,q10⟩=>?_) fun _ _ z=>z.elim
    refine wpAny_mono (bK (X:=Y) _ s10 τ8 H10 (.ref acc) [yv] (.ref acc) [y] (fun v H'=>N τ8 H') I10 rfl (.cons r10 .nil) ⟨acc,ys,yv,rfl,rfl,hl,hz,q10⟩) (fun v s11 ⟨vv,H11,I11,r11,q11⟩=>?_) fun _ _ z=>z.elim
    exact again I11 q11
 exact codeAny_compStart_list (loop _ rfl) (T.self _ _ _ _ _ st4 (loop _ rfl))
theorem jH (sc:Scope)(hsc:X.env.scope=sc)(N₀:List Str)(hN₀:X.N=N₀)(N':List Str)(cap:List (Option Nat))(f1:freeOk sc scope=true)(f2:Ls scope=true)(f3:NQ scope N₀ N' cap=true)(hcalm:X.calm=true)
  (hi:PI X tg iter wi)
  (hg:∀ (s:Shared)(H:Hp)(ex:List Addr),PG (qO X scope N' s H ex) tg g)
  (hc:∀ (s:Shared)(H:Hp)(ex:List Addr),PTs (qO X scope N' s H ex) ifs tc)
  (he:∀ (s:Shared)(H:Hp)(ex:List Addr),PE (qO X scope N' s H ex) elt te)
  (hs:∀ x,foldedSetIterable iter X.env x=pure x:=by intro _;rfl):
  PE X (.ListComp elt [⟨tg,iter,ifs,0⟩] scope pos) (Yq wi cap g tc te):=by
 intro pins s σ H Q I h
 rw [eval_ListComp]
 refine yK (use:=none) sc hsc N₀ hN₀ f1 f2 f3 hcalm hi hg hc he hs I h ?_
 intro acc C s' H' m IX hn hC h1 h2 h3 h4 q
 refine ⟨m,hn,fun h'' hs''=>?_⟩
 exact ⟨.ref acc,H',IX.turned (t':=s'.toks) (fun b o hb e=>(hs''.2 b hb).trans e) hC h1 (.inr h2) h3 h4,rfl,q⟩
theorem uR {i:Nat}{x:Str}{pos' spos:Pos}(sc:Scope)(hsc:X.env.scope=sc)(N₀:List Str)(hN₀:X.N=N₀)(N':List Str)(cap:List (Option Nat))(f1:freeOk sc scope=true)(f2:Ls scope=true)(f3:NQ scope N₀ N' cap=true)(hcalm:X.calm=true)
  (hnd:X.N.Nodup)(hix:X.N[i]?=some x)(hx:X.env.scope.names.lookup x=some .local)
  (hi:PI X tg iter wi)
  (hg:∀ (s:Shared)(H:Hp)(ex:List Addr),PG (qO X scope N' s H ex) tg g)
  (hc:∀ (s:Shared)(H:Hp)(ex:List Addr),PTs (qO X scope N' s H ex) ifs tc)
  (he:∀ (s:Shared)(H:Hp)(ex:List Addr),PE (qO X scope N' s H ex) elt te)
  (hsw:swapsWith (.ListComp elt [⟨tg,iter,ifs,0⟩] scope pos) (some (.Name x pos')) spos.line X.env=pure true)
  (hs:∀ x,foldedSetIterable iter X.env x=pure x:=by intro _;rfl):
  PS X (.Assign [.Name x pos'] (.ListComp elt [⟨tg,iter,ifs,0⟩] scope pos) spos) (acd (Yq wi cap g tc te) (Nu i)):=by
 intro pins s σ H D I h
 rw [exec_Assign_Name_used _ _ _ _ hsw]
 refine wpAny_bind (wpAny_standAt (wpAny_bind ?_))
 show wpAny _ X.A (do let _ <- comprehension (.ListComp elt [⟨tg,iter,ifs,0⟩] scope pos) scope X.env _ (newList []) false (firstIter [⟨tg,iter,ifs,0⟩] X.env) (some (assign (.Name x pos') X.env))) _ _ s
 refine wpAny_bind (wpAny_mono (yK (use:=some (assign (.Name x pos') X.env)) (R:=fun _ s'=>SP X pins D .next s') sc hsc N₀ hN₀ f1 f2 f3 hcalm hi hg hc he hs I h ?_) (fun _ s' hq=>wpAny_pure (wpAny_pure hq)) fun _ _ e=>e)
 intro acc C s' H' m IX hn hC h1 h2 h3 h4 q
 show wpAny _ X.A (assign (.Name x pos') X.env (.ref acc)) _ _ _
 refine wpAny_assign_Name (Ac (v:=.ref acc) IX hnd hix (.inl hx) rfl (fun s2 I2 hsb=>?_) (.inr hx))
 obtain ⟨a,sb,ha⟩:=hsb
 have hCa:C≠a:=by
  rcases ha with z| z
  ·rw [z];exact h1
  ·exact fun w=>h3 x a z w.symm
 refine ⟨m,hn.sameBut sb hCa,fun h'' hs''=>?_⟩
 exact ⟨_,H',I2.turned (t':=s2.toks) (fun b o hb e=>(hs''.2 b hb).trans e) hC h1 (.inr h2) h3 h4,q⟩
end
section
variable {X:Cx}
def rEqL (K:Fa)(neg:Bool):R2:=fun x y H Q=>∃ (a b:Addr)(ns ms:List Int),x=.ref a/\y=.ref b/\SqL K H a (ns.map V.int)/\SqL K H b (ms.map V.int)/\Q (.bl (if neg then !decide (ns=ms) else decide (ns=ms))) H
theorem Ga:∀ (bs:List Bool),((List.range bs.length).all fun i=>(bs[i]?).getD true)=bs.all id:=by
 intro bs;rw [aed];simp only [adO,aeu,id_eq];constructor
 ·intro h b hb;obtain ⟨i,hi,e⟩:=List.getElem_of_mem hb;have:=h i hi;rw [ada hi,e] at this;exact this
 ·intro h i hi;rw [ada hi];exact h _ (List.getElem_mem hi)
theorem wu (hc:X.calm=true):tY X (.builtin "all") (fun xs H Q=>∃ (p:Addr)(bs:List Bool),xs=[.ref p]/\SqL X.K H p (bs.map V.bl)/\Q (.bl (bs.all id)) H):=by
 intro pins s σ H xs us Q I r h;obtain ⟨p,bs,rfl,hq,q⟩:=h;obtain ⟨u,rfl,ru⟩:=vals1 r;cases ru;obtain ⟨its,r1,p1,hz⟩:=I.list hq;have hl:=p1.isList;have hlt:p<s.heap.objs.size:=p1.lt;have hlen:=r1.length;rw [abW] at hlen;refine call_all_walk (wpAny_pyIter_list hl ?_);refine ⟨s.heap.objs.size,[s.heap.objs.size,p],[s.heap.objs.size],its.toArray.size,_,_,fun i=>(bs[i]?).getD true,rfl,Walks.list (A:=X.A.in1) (I.ok.hd hc) _ p (adV hlt) its.toArray,
  ⟨⟨_,adq _ rfl,rfl,rfl⟩,hl.push _⟩,fun i v s' Q' E' hP hQ=>?_,fun h' tk hk=>?_⟩
 ·have hP':its[i]?=some v:=by simpa using hP
  have hi:i<bs.length:=by
   have:=(adl.mp hP').1;omega
  obtain ⟨u,eu,ru⟩:=r1.get (x:=.bl bs[i]) (by rw [adC,ada hi];rfl);rw [hP'] at eu;cases eu;cases ru;dsimp only at hQ;rw [ada hi] at hQ;exact wpAny_truthy_bool hQ
 ·have e:((List.range its.toArray.size).all fun i=>(bs[i]?).getD true)=bs.all id:=by
   rw [adH,<- hlen];exact Ga bs
  rw [e];refine ⟨.bl _,H,I.kept fun b o eo=>hk b o (fun hm=>?_) (adn _ eo),rfl,q⟩;rw [adK.mp hm] at eo;exact aei _ (adu eo)
end
section
variable {X:Cx}{st:Stmt}{rest:List Stmt}{t u:TS}
def ab4 (t u:TS):TS:=fun D σ H=>∃ M:St->Hp->Prop,t { D with nx:=M } σ H/\∀ σ' H',M σ' H'->u D σ' H'
theorem jG (h1:PS X st t)(h2:PSs X rest u):PSs X (st::rest) (ab4 t u):=by
 intro pins s σ H D I h;obtain ⟨M,ha,hb⟩:=h;refine wpAny_execs_cons (thn (h1 pins s σ H { D with nx:=M } I ha) fun f s1 q=>?_);cases f with
 | next =>
  obtain ⟨σ',H',I',q⟩:=q;exact h2 pins s1 σ' H' D I' (hb σ' H' q)
 | ret v=>exact q
 | brk=>exact q
 | cont=>exact q
end
def adb (H:Hp)(P:Fs->Prop)(Q:VK):Prop:=∀ (l:Addr)(H':Hp)(xs:Fs),Same H H'->H l=none->H' l=some (.lst xs)->P xs->Q (.ref l) H'
structure Df (K:Fa)(mg:Fh)(x:Str)(st:Stmt)(ps:List Str)(a:Addr)(fd:Ff):Prop where
 F:Fun K x x st a fd
 b:Binds K fd ps []
 m:mg x=some (.ref a)
theorem Same.upd {H H':Hp}{l:Addr}{o:HO}(s:Same H H')(h:H l=none):Same H (L2.upd H' l o):=fun b u e=>by
 rw [aX (dH e h)];exact s b u e
theorem ints_get {ns:List Int}{i:Nat}{y:V}(h:(ns.map V.int)[i]?=some y):∃ z,ns[i]?=some z/\y=V.int z:=by
 rw [adC] at h;cases e:ns[i]? with
 | none=>rw [e] at h;cases h
 | some z=>rw [e] at h;exact ⟨z,rfl,(adP h).symm⟩
theorem bY {ns:List Int}{i:Nat}{z:Int}(h:ns[i]?=some z):atI (ns.map V.int) (i:Int)=some (V.int z):=dN (by rw [adC,h];rfl)
theorem wj {ns:List Int}{i:Int}{z:Int}(h0:0<=i)(h:ns[i.toNat]?=some z):atI (ns.map V.int) i=some (V.int z):=by
 obtain ⟨k,rfl⟩:=adD h0;exact bY (by simpa using h)
theorem wZ {n j:Nat}(h:j<n):ixN n (j:Int)=some j:=by
 unfold ixN;rw [if_pos (by omega),if_pos (by omega)];simp
theorem ud {n:Nat}(h:n<=100000):n<=sizeLine:=aec h (by decide)
theorem aQ {n:Nat}(h:n<=100000):n<sizeLine:=Nat.lt_of_le_of_lt h (by decide)
structure Blt (mg:Fh):Prop where
 len:mg "len"=none
 range:mg "range"=none
 list:mg "list"=none
 isinstance:mg "isinstance"=none
 bool:mg "bool"=none
 int:mg "int"=none
 all:mg "all"=none
 min:mg "min"=none
 max:mg "max"=none
 sum:mg "sum"=none
 sorted:mg "sorted"=none
 zip:mg "zip"=none
 tuple:mg "tuple"=none
 str:mg "str"=none
 any:mg "any"=none
 enumerate:mg "enumerate"=none
 reversed:mg "reversed"=none
 abs:mg "abs"=none
 ValueError:mg "ValueError"=none
 set:mg "set"=none
structure Mth (mg:Fh):Prop where
 MOUTH:∃ t,mg "MOUTH"=some (.int (-1) t)
section
variable {X:Cx}{K:Fa}
theorem Ew (h:X.K=K):IxR X (acW K):=h ▸ au
theorem zN (h:X.K=K):tY X (.builtin "len") (kLen K):=h ▸ aC
end
end L2
namespace L2
open PySem PySem.W PyProof.Rows
section
variable {N:Nat}{κ:Nat->Int}{R:Shared->Prop}{cmp:Nat->Nat->(Bool->Shared->Prop)->Shared->Prop}
def Cmp (N:Nat)(κ:Nat->Int)(R:Shared->Prop)(cmp:Nat->Nat->(Bool->Shared->Prop)->Shared->Prop):Prop:=
 ∀ i j C s,i<N->j<N->R s->(∀ s',R s'->C (decide (κ i<κ j)) s')->cmp i j C s
def Inj (N:Nat)(κ:Nat->Int):Prop:=∀ i j,i<N->j<N->i≠j->κ i≠κ j
variable (hc:Cmp N κ R cmp)(hI:Inj N κ)
include hc hI
end
end L2
namespace L2
open PySem PySem.Spec PyProof.Rows
section
variable {X:Cx}{pins:Fk}{σ:St}{H:Hp}{s:Shared}{a:Addr}{o:HO}
theorem Inv.adopt (I:Inv X pins σ H s)(hn:H a=none)(hL:a≠X.env.locals)(h0:X.s₀.heap.objs.size<=a)(hc:∀ x c,X.env.cells.lookup x=some c->c≠a)(hp:∀ p∈X.pn++pins,p.1≠a)
  (new:jV X.prog X.w (upd H a o) s.heap a o):Inv X pins σ (upd H a o) s:=by
 have ne:∀ b u,H b=some u->b≠a:=fun b u e=>dH e hn;refine ⟨I.ok,I.os,I.bare,⟨I.base.keep,I.base.slot,fun b ob e n hx=>?_,I.base.there,fun b xs e=>?_,fun b ob xs e=>?_,fun b ps e=>?_⟩,I.loc,I.cell,?_,fun x c e=>?_,fun p hq=>?_,fun b u e=>?_,I.len⟩
 ·rw [aX (adV (adQ (adu e) h0))];exact I.base.free b ob e n hx
 ·have:=I.base.tups b xs e;rw [aX (ne b _ this)];exact this
 ·have:=I.base.frzs b ob xs e;rw [aX (ne b _ this)];exact this
 ·obtain ⟨m,e1⟩:=I.base.tbls b ps e;exact ⟨m,by rw [aX (ne b _ e1)];exact e1⟩
 ·rw [aX hL.symm];exact I.free
 ·rw [aX (hc x c e)];exact I.freeC x c e
 ·obtain ⟨e1,n,r⟩:=I.pin p hq;exact ⟨e1,by rw [aX (hp p hq)];exact n,r⟩
 ·by_cases hb:b=a
  ·subst hb;rw [cC] at e;cases e;exact new
  ·rw [aX hb] at e;exact (I.hok b u e).stay (fun _ _ _ q=>q) (fun c q=>by rw [aX (ne c _ q)];exact q) fun c xs q=>by rw [aX (ne c _ q)];exact q
end
end L2
namespace L2
open PySem PySem.W PySem.Spec PyProof.Rows
section
variable {X:Cx}{pins:Fk}{σ:St}{H:Hp}{s:Shared}
def TabOk (P:Addr)(pos:Pos)(qual:Str)(H:Hp):Prop:=H P=some (.tbl #[])\/∃ c':Addr,H P=some (.tbl #[rawInt pos.line,rawInt pos.col,.ref c'])/\H c'=some (.ext fun h=>h.CodeRec (.ref c') qual)
end
end L2
namespace L2
open PySem PySem.Spec PyProof.Rows
mutual
inductive Den (K:Fa)(H:Hp):V->PyData->Prop
 | non:Den K H .non .none
 | bl (b:Bool):Den K H (.bl b) (.bool b)
 | int (i:Int):Den K H (.int i) (.int i)
 | str (x:Str):Den K H (.str x) (.str x)
 | list {a:Addr} {xs:Fs} {ds:List PyData}:SqL K H a xs->eO K H xs ds->Den K H (.ref a) (.list ds)
 | tuple {a:Addr} {xs:Fs} {ds:List PyData}:SqT K H a xs->eO K H xs ds->Den K H (.ref a) (.tuple ds)
inductive eO (K:Fa)(H:Hp):Fs->List PyData->Prop
 | nil:eO K H [] []
 | cons {v:V} {vs:Fs} {d:PyData} {ds:List PyData}:Den K H v d->eO K H vs ds->eO K H (v::vs) (d::ds)
end
theorem eO.length {K:Fa}{H:Hp}:∀ {vs:Fs}{ds:List PyData},eO K H vs ds->vs.length=ds.length
 | _,_,.nil=>rfl
 | _,_,.cons _ hs=>by rw [adF,adF,eO.length hs]
theorem eO.append {K:Fa}{H:Hp}:∀ {vs ws:Fs}{ds es:List PyData},eO K H vs ds->eO K H ws es->eO K H (vs++ws) (ds++es)
 | _,_,_,_,.nil,h=>h
 | _,_,_,_,.cons h hs,h'=>.cons h (eO.append hs h')
theorem eO.get {K:Fa}{H:Hp}:∀ {vs:Fs}{ds:List PyData}{i:Nat}{d:PyData},eO K H vs ds->ds[i]?=some d->∃ v,vs[i]?=some v/\Den K H v d
 | _,_,_,_,.nil,e=>by simp at e
 | _,_,0,_,.cons h _,e=>by simp at e;subst e;exact ⟨_,rfl,h⟩
 | _,_,i+1,d,.cons _ hs,e=>by
  obtain ⟨v,h1,h2⟩:=eO.get (i:=i) (d:=d) hs (by simpa using e);exact ⟨v,by simpa using h1,h2⟩
theorem eO.get' {K:Fa}{H:Hp}:∀ {vs:Fs}{ds:List PyData}{i:Nat}{v:V},eO K H vs ds->vs[i]?=some v->∃ d,ds[i]?=some d/\Den K H v d
 | _,_,_,_,.nil,e=>by simp at e
 | _,_,0,_,.cons h _,e=>by simp at e;subst e;exact ⟨_,rfl,h⟩
 | _,_,i+1,v,.cons _ hs,e=>by
  obtain ⟨d,h1,h2⟩:=eO.get' (i:=i) (v:=v) hs (by simpa using e);exact ⟨d,by simpa using h1,h2⟩
theorem eO.set {K:Fa}{H:Hp}{v:V}{d:PyData}(h:Den K H v d):∀ {vs:Fs}{ds:List PyData}(i:Nat),eO K H vs ds->eO K H (vs.set i v) (ds.set i d)
 | _,_,_,.nil=>.nil
 | _,_,0,.cons _ hs=>.cons h hs
 | _,_,i+1,.cons q hs=>.cons q (eO.set h i hs)
theorem eO.ints {K:Fa}{H:Hp}:∀ (ns:List Int),eO K H (ns.map V.int) (ns.map PyData.int)
 | []=>.nil
 | n::ns=>.cons (.int n) (eO.ints ns)
def Kc (ns:List Int):PyData:=.list (ns.map PyData.int)
theorem Den.ints {K:Fa}{H:Hp}{a:Addr}{ns:List Int}(h:SqL K H a (ns.map V.int)):Den K H (.ref a) (Kc ns):=.list h (eO.ints ns)
theorem eO.int_inv {K:Fa}{H:Hp}:∀ {vs:Fs}{ns:List Int},eO K H vs (ns.map PyData.int)->vs=ns.map V.int
 | _,[],.nil=>rfl
 | _,n::ns,.cons h hs=>by
  cases h;rw [eO.int_inv hs];rfl
section
variable {X:Cx}{pins:Fk}{σ:St}{H:Hp}{s:Shared}
mutual
theorem Den.reads (I:Inv X pins σ H s):∀ {v:V}{d:PyData}{u:Value},Den X.K H v d->RelV v u->∃ as,Reads s.heap u d as
 | _,_,_,.non,r=>by cases r;exact ⟨_,.none⟩
 | _,_,_,.bl b,r=>by cases r;exact ⟨_,.bool b⟩
 | _,_,_,.int i,r=>by obtain ⟨t,rfl⟩:=r;exact ⟨_,.int i t⟩
 | _,_,_,.str x,r=>by obtain ⟨t,rfl⟩:=r;exact ⟨_,.str x t⟩
 | _,_,_,.list h hs,r=>by
  cases r;obtain ⟨its,r1,⟨o,n,e,c,_,d⟩,_⟩:=I.list h;obtain ⟨as,q⟩:=eO.reads I hs r1;exact ⟨_,.list e c d (by simpa using q)⟩
 | _,_,_,.tuple h hs,r=>by
  cases r;obtain ⟨its,r1,⟨o,e,c,n,d⟩,_⟩:=I.tuple h;obtain ⟨as,q⟩:=eO.reads I hs r1;exact ⟨_,.tuple e c d (by simpa using q)⟩
theorem eO.reads (I:Inv X pins σ H s):∀ {vs:Fs}{ds:List PyData}{us:List Value},eO X.K H vs ds->Vals vs us->∃ as,ReadsAll s.heap us ds as
 | _,_,_,.nil,r=>by cases r;exact ⟨_,.nil⟩
 | _,_,_,.cons h hs,r=>by
  cases r with
  | cons r1 r2 =>
   obtain ⟨as,q⟩:=Den.reads I h r1;obtain ⟨bs,q'⟩:=eO.reads I hs r2;exact ⟨_,.cons q q'⟩
end
def ach (K:Fa)(neg:Bool):R2:=fun x y H Q=>∃ d e,Den K H x d/\Den K H y e/\SeqAt.shaped d=true/\SeqAt.shaped e=true/\Q (.bl (if neg then !PyData.eqv d e else PyData.eqv d e)) H
theorem HW (hu:X.A.units+64<cLine):OpR X (compareOp .Eq) (ach X.K false):=by
 intro pins s σ H x y v u Q I rx ry h;obtain ⟨d,e,hd,he,sd,se,q⟩:=h;obtain ⟨as,ra⟩:=hd.reads I rx;obtain ⟨bs,rb⟩:=he.reads I ry;exact SeqAt.compareEq_shaped ra rb sd se hu ⟨.bl _,H,I,rfl,q⟩
theorem aap (hu:X.A.units+64<cLine):OpR X (compareOp .NotEq) (ach X.K true):=by
 intro pins s σ H x y v u Q I rx ry h;obtain ⟨d,e,hd,he,sd,se,q⟩:=h;obtain ⟨as,ra⟩:=hd.reads I rx;obtain ⟨bs,rb⟩:=he.reads I ry;exact SeqAt.compareNe_shaped ra rb sd se hu ⟨.bl _,H,I,rfl,q⟩
end
def Sh (n:Nat)(d:PyData):Prop:=d.canLay0=true/\d.depth<=n
theorem XM:∀ {ds:List PyData},(∀ d∈ds,d.canLay0=true)->PyData.canLayAll0 ds=true
 | [],_=>rfl
 | d::ds,h=>by rw [PyData.canLayAll0,h d adM,XM fun x hx=>h x (adI _ hx)];rfl
theorem XH {n:Nat}:∀ {ds:List PyData},(∀ d∈ds,d.depth<=n)->PyData.depthAll ds<=n
 | [],_=>by simp [PyData.depthAll]
 | d::ds,h=>by
  have h1:=h d adM;have h2:=XH fun x hx=>h x (adI _ hx);simp only [PyData.depthAll];omega
theorem Sh.int (n:Nat)(i:Int):Sh n (.int i):=⟨rfl,by simp [PyData.depth]⟩
theorem Sh.list {n:Nat}{ds:List PyData}(h:∀ d∈ds,Sh n d):Sh (n+1) (.list ds):=⟨by rw [PyData.canLay0];exact XM fun d hd=>(h d hd).1,by
 have:=XH fun d hd=>(h d hd).2;simp only [PyData.depth];omega⟩
theorem Sh.ints (n:Nat)(ns:List Int):Sh (n+1) (Kc ns):=.list fun d hd=>by
 obtain ⟨i,_,rfl⟩:=adW.mp hd;exact .int n i
theorem Sh.ok {n:Nat}{d:PyData}(h:Sh n d)(hn:n<=64):SeqAt.shaped d=true:=by
 unfold SeqAt.shaped;rw [h.1,decide_eq_true (by have:=h.2;omega)];rfl
theorem wk {n:Nat}{d:PyData}(h:Sh n d):PyData.eqv d d=true:=SeqAt.eqv_refl d h.1
abbrev d8:=List (Addr × Pos × Str)
def TabsOk (T:d8)(H:Hp):Prop:=∀ t∈T,TabOk t.1 t.2.1 t.2.2 H
structure aM (T:d8)(H H':Hp):Prop where
 t0:TabsOk T H
 t1:TabsOk T H'
 keep:∀ b o,H b=some o->(∀ ps,o≠.tbl ps)->H' b=some o
 tb:∀ b ps,H b=some (.tbl ps)->∃ ps',H' b=some (.tbl ps')
theorem TabsOk.mono {T:d8}{H H':Hp}(t:TabsOk T H)(s:Same H H'):TabsOk T H':=fun q hq=>by
 rcases t q hq with e| ⟨c,e1,e2⟩
 ·exact .inl (s _ _ e)
 ·exact .inr ⟨c,s _ _ e1,s _ _ e2⟩
theorem aM.refl {T:d8}{H:Hp}(t:TabsOk T H):aM T H H:=⟨t,t,fun _ _ h _=>h,fun _ ps h=>⟨ps,h⟩⟩
theorem aM.of {T:d8}{H H':Hp}(t:TabsOk T H)(s:Same H H'):aM T H H':=⟨t,t.mono s,fun b o h _=>s b o h,fun b ps h=>⟨ps,s _ _ h⟩⟩
theorem aM.trans {T:d8}{H H1 H2:Hp}(a:aM T H H1)(b:aM T H1 H2):aM T H H2:=⟨a.t0,b.t1,fun c o h n=>b.keep c o (a.keep c o h n) n,fun c ps h=>by
 obtain ⟨ps',e⟩:=a.tb c ps h;exact b.tb c ps' e⟩
theorem aM.free {T:d8}{H H':Hp}(a:aM T H H'){l:Addr}(h:H' l=none):H l=none:=by
 cases q:H l with
 | none=>rfl
 | some o =>
  have key:(∃ ps,o=.tbl ps)\/∀ ps,o≠.tbl ps:=by
   cases o with
   | tbl ps=>exact .inl ⟨ps,rfl⟩
   | _=>exact .inr fun _ z=>by cases z
  rcases key with ⟨ps,rfl⟩ | n
  ·obtain ⟨ps',e⟩:=a.tb l ps q;rw [h] at e;cases e
  ·have:=a.keep l o q n;rw [h] at this;cases this
theorem aM.seq {T:d8}{K:Fa}{H H':Hp}{a:Addr}{xs:Fs}(e:aM T H H')(h:SqL K H a xs):SqL K H' a xs:=by
 rcases h with (h| ⟨o,h⟩) | h
 ·exact .inl (.inl (e.keep _ _ h fun _ z=>by cases z))
 ·exact .inl (.inr ⟨o,e.keep _ _ h fun _ z=>by cases z⟩)
 ·exact .inr h
theorem aM.acU {T:d8}{K:Fa}{H H':Hp}{a:Addr}{xs:Fs}(e:aM T H H')(h:SqT K H a xs):SqT K H' a xs:=by
 rcases h with (h| ⟨o,h⟩) | h
 ·exact .inl (.inl (e.keep _ _ h fun _ z=>by cases z))
 ·exact .inl (.inr ⟨o,e.keep _ _ h fun _ z=>by cases z⟩)
 ·exact .inr h
mutual
theorem Den.Ge {T:d8}{K:Fa}{H H':Hp}(e:aM T H H'):∀ {v:V}{d:PyData},Den K H v d->Den K H' v d
 | _,_,.non=>.non
 | _,_,.bl b=>.bl b
 | _,_,.int i=>.int i
 | _,_,.str x=>.str x
 | _,_,.list h hs=>.list (e.seq h) (eO.Ge e hs)
 | _,_,.tuple h hs=>.tuple (e.acU h) (eO.Ge e hs)
theorem eO.Ge {T:d8}{K:Fa}{H H':Hp}(e:aM T H H'):∀ {vs:Fs}{ds:List PyData},eO K H vs ds->eO K H' vs ds
 | _,_,.nil=>.nil
 | _,_,.cons h hs=>.cons (Den.Ge e h) (eO.Ge e hs)
end
def Gp (T:d8)(H:Hp)(P:Fs->Prop)(Q:VK):Prop:=∀ (l:Addr)(H':Hp)(xs:Fs),aM T H H'->H l=none->H' l=some (.lst xs)->P xs->Q (.ref l) H'
def nZ:HO->Bool
 | .tbl _=>false
 | .ext _=>false
 | _=>true
structure Ow (T:d8)(H0 H:Hp)(L:Fr):Prop where
 same:aM T H0 H
 new:∀ p∈L,H0 p.1=none
 at_:∀ p∈L,H p.1=some p.2
 pl:∀ p∈L,nZ p.2=true
 nd:(L.map (·.1)).Nodup
section
variable {T:d8}{H0 H1 H H':Hp}{L L':Fr}{a l:Addr}{o o':HO}{xs:Fs}
theorem Ow.refl (t:TabsOk T H):Ow T H H []:=⟨aM.refl t,(fun p hp=>nomatch hp),(fun p hp=>nomatch hp),(fun p hp=>nomatch hp),List.nodup_nil⟩
theorem Ow.get (O:Ow T H0 H L)(k:Nat)(h:L[k]?=some (a,o):=by rfl):H a=some o:=O.at_ _ (adp h)
theorem Ow.fr (O:Ow T H0 H L)(k:Nat)(h:L[k]?=some (a,o):=by rfl):H0 a=none:=O.new _ (adp h)
theorem Ow.sq {K:Fa}(O:Ow T H0 H L)(k:Nat)(h:L[k]?=some (a,.lst xs):=by rfl):SqL K H a xs:=SqL.of (O.get k h)
theorem Ow.sqT {K:Fa}(O:Ow T H0 H L)(k:Nat)(h:L[k]?=some (a,.tup xs):=by rfl):SqT K H a xs:=SqT.of (O.get k h)
theorem TabOk.upd {P:Addr}{pos:Pos}{q:Str}(t:TabOk P pos q H)(h:H a=none\/∃ o,H a=some o/\nZ o=true):TabOk P pos q (L2.upd H a o'):=by
 have ne:∀ b u,H b=some u->nZ u=false->b≠a:=fun b u e p z=>by
  subst z;rcases h with h| ⟨o,h,ho⟩
  ·rw [h] at e;cases e
  ·rw [h] at e;cases e;rw [ho] at p;cases p
 rcases t with e| ⟨c,e1,e2⟩
 ·exact .inl (by rw [aX (ne _ _ e rfl)];exact e)
 ·exact .inr ⟨c,by rw [aX (ne _ _ e1 rfl)];exact e1,by rw [aX (ne _ _ e2 rfl)];exact e2⟩
theorem aM.upd (s:aM T H0 H)(h:H0 a=none)(h':H a=none\/∃ o,H a=some o/\nZ o=true):aM T H0 (L2.upd H a o'):=
 ⟨s.t0,fun t ht=>(s.t1 t ht).upd h',fun b u e n=>by rw [aX (dH e h)];exact s.keep b u e n,fun b ps e=>by rw [aX (dH e h)];exact s.tb b ps e⟩
theorem Ow.mk' (O:Ow T H0 H L)(h:H a=none)(ho:nZ o=true):Ow T H0 (upd H a o) ((a,o)::L):=by
 have ne:∀ p∈L,p.1≠a:=fun p hp=>dH (O.at_ p hp) h;have n0:H0 a=none:=O.same.free h;refine ⟨O.same.upd n0 (.inl h),fun p hp=>?_,fun p hp=>?_,fun p hp=>?_,?_⟩
 ·rcases adt.mp hp with e| e
  ·rw [e];exact n0
  ·exact O.new p e
 ·rcases adt.mp hp with e| e
  ·rw [e];exact cC
  ·rw [aX (ne p e)];exact O.at_ p e
 ·rcases adt.mp hp with e| e
  ·rw [e];exact ho
  ·exact O.pl p e
 ·rw [adR,aew];refine ⟨fun hm=>?_,O.nd⟩;obtain ⟨p,hp,e⟩:=adW.mp hm;exact ne p hp e
theorem Hi:∀ {L:Fr}{k:Nat}{a:Addr}{o o':HO},L[k]?=some (a,o)->(L.set k (a,o')).map (·.1)=L.map (·.1)
 | [],_,_,_,_,h=>by simp at h
 | p::L,0,a,o,o',h=>by
  have:p=(a,o):=by simpa using h
  rw [this];rfl
 | p::L,k+1,a,o,o',h=>by
  rw [List.set_cons_succ,adR,adR,Hi (L:=L) (k:=k) (o:=o) (by simpa using h)]
theorem Ow.ZC (O:Ow T H0 H L)(k:Nat)(h:L[k]?=some (a,o))(ho:nZ o'=true):Ow T H0 (upd H a o') (L.set k (a,o')):=by
 have hm0:=adp h;have n0:H0 a=none:=O.new _ hm0;have hk:k<L.length:=(adl.mp h).1;refine ⟨O.same.upd n0 (.inr ⟨o,O.at_ _ hm0,O.pl _ hm0⟩),fun p hp=>?_,fun p hp=>?_,fun p hp=>?_,by rw [Hi h];exact O.nd⟩
 ·rcases aeG hp with e| e
  ·exact O.new p e
  ·rw [e];exact n0
 ·obtain ⟨j,hj,e⟩:=List.getElem_of_mem hp;by_cases hjk:j=k
  ·subst hjk;rw [List.getElem_set_self] at e;rw [<- e];exact cC
  ·rw [List.getElem_set_ne (Ne.symm hjk)] at e;have hj':j<L.length:=by rw [aex] at hj;exact hj
   have hm:p∈L:=by rw [<- e];exact List.getElem_mem hj'
   rw [aX]
   ·exact O.at_ p hm
   ·intro z;have e1:(L.map (·.1))[j]?=some p.1:=by rw [adC,ada hj',e];rfl
    have e2:(L.map (·.1))[k]?=some a:=by rw [adC,h];rfl
    rw [z] at e1;obtain ⟨a1,a2⟩:=adl.mp e1;obtain ⟨b1,b2⟩:=adl.mp e2;exact hjk ((List.getElem_inj O.nd).mp (a2.trans b2.symm))
 ·rcases aeG hp with e| e
  ·exact O.pl p e
  ·rw [e];exact ho
theorem HB {o:HO}(h:nZ o=true):∀ ps,o≠.tbl ps:=fun ps z=>by rw [z] at h;cases h
theorem Ow.jB (O:Ow T H0 H L)(s:aM T H H'):Ow T H0 H' L:=⟨O.same.trans s,O.new,fun p hp=>s.keep _ _ (O.at_ p hp) (HB (O.pl p hp)),O.pl,O.nd⟩
theorem Ow.aaU (O:Ow T H0 H L)(s:aM T H H')(n:H l=none)(h:H' l=some o)(ho:nZ o=true):Ow T H0 H' ((l,o)::L):=by
 have O2:=O.jB s;refine ⟨O2.same,fun p hp=>?_,fun p hp=>?_,fun p hp=>?_,?_⟩
 ·rcases adt.mp hp with e| e
  ·rw [e];exact O.same.free n
  ·exact O.new p e
 ·rcases adt.mp hp with e| e
  ·rw [e];exact h
  ·exact O2.at_ p e
 ·rcases adt.mp hp with e| e
  ·rw [e];exact ho
  ·exact O.pl p e
 ·rw [adR,aew];refine ⟨fun hm=>?_,O.nd⟩;obtain ⟨p,hp,e⟩:=adW.mp hm;exact dH (O.at_ p hp) n e
theorem Ow.more (O:Ow T H0 H L)(s:Same H H')(n:H l=none)(h:H' l=some o)(ho:nZ o=true):Ow T H0 H' ((l,o)::L):=O.aaU (aM.of O.same.t1 s) n h ho
theorem Ow.sub (O:Ow T H0 H L)(h:L'.Sublist L):Ow T H0 H L':=⟨O.same,fun p hp=>O.new p (h.subset hp),fun p hp=>O.at_ p (h.subset hp),fun p hp=>O.pl p (h.subset hp),O.nd.sublist (h.map _)⟩
theorem Ow.perm (O:Ow T H0 H L)(h:L'.Perm L):Ow T H0 H L':=⟨O.same,fun p hp=>O.new p (h.mem_iff.mp hp),fun p hp=>O.at_ p (h.mem_iff.mp hp),fun p hp=>O.pl p (h.mem_iff.mp hp),(h.map _).nodup_iff.mpr O.nd⟩
theorem Ow.tail {p:Addr × HO}(O:Ow T H0 H (p::L)):Ow T H0 H L:=O.sub (List.sublist_cons_self _ _)
theorem Ow.reb (O:Ow T H0 H L):∃ H1,Ow T H1 H L/\aM T H0 H1/\∀ b o,H b=some o->(∀ p∈L,p.1≠b)->H1 b=some o:=by
 have keep:∀ b u,H b=some u->(∀ p∈L,p.1≠b)->(fun b=>if b∈L.map (·.1) then none else H b:Hp) b=some u:=fun b u e h=>by
  show (if b∈L.map (·.1) then none else H b)=some u
  rw [if_neg fun hm=>?_];· exact e
  obtain ⟨p,hp,z⟩:=adW.mp hm
  exact h p hp z
 have back:∀ b u,(fun b=>if b∈L.map (·.1) then none else H b:Hp) b=some u->H b=some u:=fun b u e=>by
  dsimp only at e
  split at e
  ·cases e
  ·exact e
 have npl:∀ b u,H b=some u->nZ u=false->∀ p∈L,p.1≠b:=fun b u e h p hp z=>by
  have:=O.at_ p hp
  rw [z,e] at this
  have e':u=p.2:=adP this
  rw [e',O.pl p hp] at h;cases h
 have tk:TabsOk T (fun b=>if b∈L.map (·.1) then none else H b):=fun t ht=>by
  rcases O.same.t1 t ht with e| ⟨c,e1,e2⟩
  ·exact .inl (keep _ _ e (npl _ _ e rfl))
  ·exact .inr ⟨c,keep _ _ e1 (npl _ _ e1 rfl),keep _ _ e2 (npl _ _ e2 rfl)⟩
 refine ⟨fun b=>if b∈L.map (·.1) then none else H b,⟨⟨tk,O.same.t1,fun b u e _=>back b u e,fun b ps e=>⟨ps,back _ _ e⟩⟩,fun p hp=>?_,O.at_,O.pl,O.nd⟩,⟨O.same.t0,tk,fun b u e n=>?_,fun b ps e=>?_⟩,keep⟩
 ·exact if_pos (adW.mpr ⟨p,hp,rfl⟩)
 ·refine keep b u (O.same.keep b u e n) fun p hp z=>?_
  rw [<- z,O.new p hp] at e;cases e
 ·obtain ⟨ps',e'⟩:=O.same.tb b ps e
  exact ⟨ps',keep _ _ e' (npl _ _ e' rfl)⟩
theorem Em {i:Int}{j:Nat}{v:V}{Q:Hp->Prop}(O:Ow T H0 H L)(k:Nat)(h:L[k]?=some (l,.lst xs))(hi:ixN xs.length i=some j)(q:∀ H',Ow T H0 H' (L.set k (l,.lst (xs.set j v)))->Q H'):aai (.ref l) (.int i) v H Q:=
 ⟨l,xs,i,j,rfl,rfl,O.get k h,hi,q _ (O.ZC k h rfl)⟩
theorem Ow.ret {P:Fs->Prop}{Q:VK}(O:Ow T H0 H L)(k:Nat)(h:L[k]?=some (l,.lst xs))(q:Gp T H0 P Q)(p:P xs):Q (.ref l) H:=q l H xs O.same (O.fr k h) (O.get k h) p
theorem Ow.got {P:Fs->Prop}{Q:VK}(O:Ow T H0 H L)(k:∀ l H' xs,Ow T H0 H' ((l,.lst xs)::L)->P xs->Q (.ref l) H'):adb H P Q:=fun l H' xs s n h p=>k l H' xs (O.more s n h rfl) p
theorem Ow.Y9 {P:Fs->Prop}{Q:VK}(O:Ow T H0 H L)(k:∀ l H' xs,Ow T H0 H' ((l,.lst xs)::L)->P xs->Q (.ref l) H'):Gp T H P Q:=fun l H' xs s n h p=>k l H' xs (O.aaU s n h rfl) p
end
end L2
namespace L2
open PySem PySem.W PySem.Spec PyProof.Rows
theorem szl {n:Nat}(h:Nat.ble n 100000=true:=by rfl):n<=sizeLine:=ud (ad7 h)
theorem Y5 (p:Int)(ns:List Int):inV (.int p) (ns.map V.int)=decide (p∈ns):=by
 unfold inV;rw [List.any_map,aed];simp only [List.any_eq_true,decide_eq_true_eq];constructor
 ·rintro ⟨x,hx,e⟩;have e':(x ==p)=true:=e;have:x=p:=by simpa using e'
  rw [<- this];exact hx
 ·intro h;exact ⟨p,h,show (p ==p)=true by simp⟩
theorem J3 (ns:List Int):(ns.map V.int).all vY=true:=by
 rw [List.all_map,adO];intro _ _;rfl
section
variable {X:Cx}
theorem xJ:∀ ns ms:List Int,PyData.eqvAll (ns.map PyData.int) (ms.map PyData.int)=decide (ns=ms)
 | [],[]=>by simp [PyData.eqvAll]
 | [],_::_=>by simp [PyData.eqvAll]
 | _::_,[]=>by simp [PyData.eqvAll]
 | n::ns,m::ms=>by
  rw [adR,adR,PyData.eqvAll,xJ ns ms];have e:PyData.eqv (.int n) (.int m)=decide (n=m):=by
   rw [PyData.eqv];rfl
  rw [e,aed];simp
theorem Nv (ns ms:List Int):PyData.eqv (Kc ns) (Kc ms)=decide (ns=ms):=by
 unfold Kc;rw [PyData.eqv];exact xJ ns ms
theorem aar (hu:X.A.units+64<cLine):OpR X (compareOp .Eq) (rEqL X.K false):=by
 intro pins s σ H x y v u Q I rx ry h;obtain ⟨a,b,ns,ms,rfl,rfl,ha,hb,q⟩:=h;refine HW hu pins s σ H _ _ v u Q I rx ry ⟨_,_,Den.ints ha,Den.ints hb,(Sh.ints 0 ns).ok (by decide),(Sh.ints 0 ms).ok (by decide),?_⟩;rw [Nv];exact q
end
section
variable {T:d8}{H0 H:Hp}{L:Fr}{l:Addr}{xs:Fs}
theorem Ow.mkE {a:Addr}{o:HO}{H':Hp}(O:Ow T H0 H L)(h:H a=none)(e:upd H a o=H')(ho:nZ o=true):Ow T H0 H' ((a,o)::L):=e ▸ O.mk' h ho
theorem Ow.uQ {a:Addr}{o o':HO}{H':Hp}(O:Ow T H0 H L)(k:Nat)(h:L[k]?=some (a,o))(e:upd H a o'=H')(ho:nZ o'=true):Ow T H0 H' (L.set k (a,o')):=e ▸ O.ZC k h ho
end
def dMv (m:Int × Int × Int):PyData:=.tuple [.int m.1,.int m.2.1,.int m.2.2]
theorem Den.aaR {K:Fa}{H:Hp}{v:V}{m:Int × Int × Int}(h:Den K H v (dMv m)):∃ a,v=.ref a/\SqT K H a [.int m.1,.int m.2.1,.int m.2.2]:=by
 cases h with
 | tuple h hs =>
  have e:=eO.int_inv (ns:=[m.1,m.2.1,m.2.2]) hs;exact ⟨_,rfl,by rw [e] at h;exact h⟩
theorem Den.mv {K:Fa}{H:Hp}{a:Addr}{m:Int × Int × Int}(h:SqT K H a [.int m.1,.int m.2.1,.int m.2.2]):Den K H (.ref a) (dMv m):=.tuple h (.cons (.int _) (.cons (.int _) (.cons (.int _) .nil)))
end L2
namespace L2
open PySem PySem.W PySem.Spec PySem.Calls PyProof.Rows PySem.Builtin PySem.Builtin.ObjectAttr PySem.Builtin.Getset_descriptor
section
variable {prog:Program}{w:World}{A:Around}{E:Fm}{K:Frag}{e D:Addr}{hh:Heap}{g:Array GenState}{d:Drawn}{t:Nat}{os:OsState}
structure N8 (K:Frag)(D:Addr):Prop where
 ga:findIn K (.ref D) "__getattribute__"=some (some (.builtin "BaseException.__getattribute__"))
 gt:findIn K (.ref D) "__getattr__"=some none
 at_:findIn K (.ref D) "__class__"=some (some (.builtin "object.__class__"))
 sp:specialIn K (.builtin "object.__class__") "__get__"=some (some (.builtin "getset_descriptor.__get__"))
 tk:takesIn K (.builtin "object.__class__")=some true
 mo:mroIn K D (.type "object")=some true
 mb:mroIn K D (.type "BaseException")=some true
 cl:(clsIn K D).isSome=true
theorem Yi {M:Model}(X:K.In hh)(C:N8 K D):Looks M hh (Builtin.ObjectAttr.find (.ref e) (.ref D) "__class__") (.bind (.builtin "getset_descriptor.__get__") (.builtin "object.__class__")):=by
 have L3:Looks M hh (Builtin.ObjectAttr.dataDescriptor? (some (.builtin "object.__class__")) (some (.builtin "getset_descriptor.__get__"))) (some (.builtin "getset_descriptor.__get__",.builtin "object.__class__")):=(looks_takesIn X C.tk).andThen .now;exact (looks_findIn X C.at_).andThen ((looks_specialIn X C.sp).andThen (L3.andThen (Looks.tag .now)))
theorem ZM {R:Result->Shared->Prop}{tp:Value}(LT:Looks (model prog w) hh (typeOf (.ref e)) (.ref D))(X:K.In hh)(C:N8 K D)(q:R (.ok (.ret (.ref D))) ⟨hh,g,d,t,os⟩):
  codeAny (model prog w) A (.call (.builtin "getset_descriptor.__get__") ⟨[.builtin "object.__class__",.ref e,tp],[]⟩) R ⟨hh,g,d,t,os⟩:=by
 have LS:=looks_mroIn (M:=model prog w) X C.mo;clear C X;refine codeAny_call_builtin KF.slot_gs.plain KF.entry_gs (KF.slot_gs.check _ _ _ _ _ _ _ _ KF.type_class (KF.args_gs _ _ (tp)) ?_);unfold Builtin.«getset_descriptor.__get__» descrGet;rw [dga_obj];refine wpAny_bind (wpAny_pure ?_);unfold descrGetter descrCheckInstance descrNameAndClass isInstance;simp only [KF.owner_class];repeat lk
 refine ⟨Code.quiet_builtin _ (by decide+kernel),codeAny_builtin KF.entry_class ?_⟩;unfold Builtin.«object.__class__» shownTypeOf;(repeat lk);exact q
theorem K4 {tk:Tok}{Q:Fin->Shared->Prop}(LT:Looks (model prog w) hh (typeOf (.ref e)) (.ref D))(X:K.In hh)(C:N8 K D)(h:Q (.done (.ret (.ref D))) ⟨hh,g,d,t,os⟩):
  wpAny (model prog w) A (Builtin.«object.__getattribute__» ⟨[.ref e,.str "__class__" tk],[]⟩) Q E ⟨hh,g,d,t,os⟩:=by
 unfold Builtin.«object.__getattribute__»;refine wpAny_bind (m:=slotArgs "__getattribute__" 1 _) (wpAny_pure ?_);refine wpAny_bind (m:=Builtin.ObjectAttr.attrName _) (wpAny_pure ?_);refine wpAny_bind (LT.at (wpAny_bind ((Yi X C).at ?_)));unfold Builtin.ObjectAttr.bindTo;exact wpAny_bind (wpAny_holding (wpAny_call (ZM LT X C (wpAny_pure h))))
theorem K5 {Q:Option Value->Shared->Prop}(LT:Looks (model prog w) hh (typeOf (.ref e)) (.ref D))(X:K.In hh)(C:N8 K D)(h:Q (some (.ref D)) ⟨hh,g,d,t+1,os⟩):
  wpAny (model prog w) A (getAttr? (.ref e) "__class__") Q E ⟨hh,g,d,t,os⟩:=by
 have L1:=looks_findIn (M:=model prog w) X C.ga;have L2:=looks_findIn (M:=model prog w) X C.gt;have LI:Looks (model prog w) hh (isInstance (.ref e) (.type "BaseException")) true:=LT.andThen (looks_mroIn X C.mb);have f3:=PySem.F.attr_ValueError.ga.bind (.ref e);have hx2:(Value.builtin "BaseException.__getattribute__" ==Value.builtin "object.__getattribute__")=false:=by decide+kernel
 unfold getAttr? getAttrBy? getAttrBy;refine wpAny_bind (wpAny_mkText (wpAny_bind (wpAny_attempt (wpAny_holding (wpAny_bind (LT.at (wpAny_bind (L1.at ?_))))))));dsimp only;rw [if_neg (by rw [hx2];simp)];unfold getAttrByItsOwn hookBefore callGetattribute;refine wpAny_bind ?_;rw [if_pos (show onTheHeap (Value.ref D)=true from rfl)];refine L2.at ?_;refine wpAny_bind (wpAny_attempt (wpAny_holding ?_));rw [if_neg (by simp)];unfold boundAndCalled;rw [f3];refine wpAny_bind (wpAny_pure ?_);refine wpAny_call (codeAny_call_builtin PySem.F.attr_ValueError.ga.plain PySem.F.entry_bexc_ga ?_);have kd:builtinKind "BaseException.__getattribute__"=some .slot:=by decide+kernel
 have spl:splitId "BaseException.__getattribute__"=some ("BaseException","__getattribute__"):=by decide+kernel
 have ha:=PySem.F.args_bexc_ga (.ref e) (.str "__class__" t);simp only [checkBuiltinCall,kd,spl];refine wpAny_bind (LI.at ?_);rw [if_neg (by simp)];refine wpAny_of_eq (a:=()) ha ?_;refine K4 (t:=t+1) LT X C ?_;show wpAny (model prog w) A (handedOut (.ref D)) _ _ _;exact wpAny_pure (wpAny_pure h)
def XAt (e D:Addr)(h:Heap):Prop:=∃ o,h.get? e=some o/\o.cls=.ref D
theorem Gv {M:Model}{h:Heap}(x:XAt e D h):Looks M h (typeOf (.ref e)) (.ref D):=by
 obtain ⟨o,h1,h2⟩:=x;rw [<- h2];exact (Looks.ld h1).andThen .now
theorem Nf (C:N8 K D):KitX K (.ref e) (.ref D) (XAt e D) where
 ty:=fun _ _ _ p=>Gv p;it:=fun M h X _=>by
  have c:=C.cl;unfold clsIn at c;split at c
  ·rename_i ho
   intro _ _ _ _ k q;unfold isType loadHead;exact wpAny_bind (wpAny_loadPart (k _ _ (X _ _ ho)) (wpAny_pure q))
  ·cases c
 ne:=fun h tp dd its n sl X htp=>by
  have c:=C.cl;refine Bool.eq_false_iff.mpr fun q=>?_;cases Value.ref.inj (beq_iff_eq.mp q);unfold clsIn at c;split at c
  ·rename_i ho
   cases (X _ _ ho).symm.trans htp
  ·cases c
 ca:=fun {_ _ _ _ _ s} X p k=>by
  obtain ⟨h0,g0,d0,t0,o0⟩:=s;exact K5 (Gv p) X C k
end
end L2
namespace L2
open PySem PySem.W PySem.Spec PySem.Calls PyProof.Rows
theorem jV.obj {P:Program}{w:World}{H:Hp}{h:Heap}{a:Addr}{o:HO}(x:jV P w H h a o):∃ ob,h.get? a=some ob:=by
 cases o with
 | lst xs=>obtain ⟨_,_,_,_,e⟩:=x;exact ⟨_,e⟩
 | tup xs=>obtain ⟨_,_,_,o,e,_⟩:=x;exact ⟨_,e⟩
 | dK kvs=>obtain ⟨_,_,_,_,o,_,_,e,_⟩:=x;exact ⟨_,e⟩
 | dT kvs=>obtain ⟨_,_,_,_,o,_,_,e,_⟩:=x;exact ⟨_,e⟩
 | set S n=>obtain ⟨o,_,_,_,e,_⟩:=x;exact ⟨_,e⟩
 | ins C dx fs=>obtain ⟨_,_,_,e,_⟩:=x;exact ⟨_,e⟩
 | own y=>exact x
 | xd fs=>obtain ⟨_,⟨_,_,_,e,_⟩,_⟩:=x;exact ⟨_,e⟩
 | rng lo hi=>obtain ⟨_,_,_,e⟩:=x;exact ⟨_,e⟩
 | frz ob u=>obtain ⟨e,_⟩:=x;exact ⟨_,e⟩
 | tbl ps=>exact ⟨_,x⟩
 | met f y=>exact ⟨_,x⟩
 | ext φ=>obtain ⟨_,e,_⟩:=x;exact e
structure Fly (P:Program)(w:World)(B:Heap)(fs:List Addr)(H:Hp)(h0:Heap)(H':Hp)(h:Heap):Prop where
 un:Un fs [] H H' h0 h
 hok:HOk P w H' h
 old:∀ b o,h0.get? b=some o->b ∉ fs->∃ o',B.get? b=some o'/\(H b=none->o'=o)
 trk:∀ b u,H' b=some u->∃ o,h.get? b=some o/\B.get? b=some o
section
variable {P:Program}{w:World}{B h0 h h2:Heap}{fs:List Addr}{H H':Hp}
theorem Fly.on (x:Fly P w B fs H h0 H' h)(sb:B.StaysIn h2)(sm:∀ b∈fs,∀ o,h.get? b=some o->∃ sl,h2.get? b=some { o with slots:=sl }):Fly P w B fs H h0 H' h2:=by
 have kp:∀ b o,h0.get? b=some o->H b=none->b ∉ fs->h2.get? b=some o:=fun b o q n hb=>by
  obtain ⟨o',e,k⟩:=x.old b o q hb;rw [<- k n];exact sb b o' e
 have sl:∀ b o,h0.get? b=some o->H b=none->b∈fs->∃ s,h2.get? b=some { o with slots:=s }:=fun b o q n hb=>by
  obtain ⟨s1,e1⟩:=x.un.slot b o q n hb (by simp);obtain ⟨s2,e2⟩:=sm b hb _ e1;exact ⟨s2,e2⟩
 refine ⟨⟨fun b o q n hb _=>kp b o q n hb,fun b o q n hb _=>sl b o q n hb,x.un.free,fun b o q _=>?_,x.un.tups,x.un.frzs,x.un.tbls⟩,fun a u e=>?_,x.old,fun b u e=>?_⟩
 ·by_cases hb:b∈fs
  ·obtain ⟨o1,e1⟩:=x.un.there b o q (by simp);obtain ⟨s2,e2⟩:=sm b hb _ e1;exact ⟨_,e2⟩
  ·obtain ⟨o',e,_⟩:=x.old b o q hb;exact ⟨o',sb b o' e⟩
 ·refine (x.hok a u e).stay (fun b v hb q=>?_) (fun _ q=>q) fun _ _ q=>q;have tr:∃ u',H' b=some u':=by
   rcases hb with z| z
   ·exact ⟨u,by rw [z];exact e⟩
   ·exact ⟨_,z⟩
  obtain ⟨u',e'⟩:=tr;obtain ⟨o,e1,e2⟩:=x.trk b u' e';rw [q] at e1;cases e1;exact sb b v e2
 ·obtain ⟨o,e1,e2⟩:=x.trk b u e;exact ⟨o,sb b o e2,e2⟩
end
def CXE (P:Program)(w:World):CXT:=fun outer H s E e s'=>∃ (ea t C:Addr)(B:Heap)(H':Hp),e=.ref ea/\s'.os=s.os/\AllBare s'.gens/\Fly P w B (frs outer) H s.heap H' s'.heap/\Heap.FlyingW B outer ea (.ref C) (.ref t) s'.heap /\
 s.heap.get? ea=none/\H' ea=none/\E (.ref C) (some ea) H'
theorem zG {env:Env}{l:List Env}{L:Addr}(hf:env.frame=some L):frs (env::l)=L::frs l:=by unfold frs;rw [aeO,hf]
theorem aa7 {l:List Env}:∀ env∈l,∀ b,env.frame=some b->b∈frs l:=fun env he b hb=>aeT.mpr ⟨env,he,hb⟩
theorem oJ {B h:Heap}{l:List Env}{h2:Heap}(f:h.FunFrames B l)(sm:h.UpToSlots h2):∀ b∈frs l,∀ o,h.get? b=some o->∃ sl,h2.get? b=some { o with slots:=sl }:=fun b hb o e=>by
 obtain ⟨_,o',e',d⟩:=f.mem hb;rw [e] at e';cases e';exact sm b o e d
section
variable {X:Cx}{pins:Fk}{σ:St}{H:Hp}{s:Shared}{E:XK}
structure Body (X:Cx):Prop where
 st:X.stack=X.env::X.outer
 fr:X.env.frame=some X.env.locals
 ex:X.ex=[]
theorem Inv.Cz (I:Inv X pins σ H s)(hB:Body X){b:Addr}{o:Obj}(e:X.s₀.heap.get? b=some o)(hb:b ∉ frs X.outer):b ∉ frs X.stack:=by
 rw [hB.st,zG hB.fr];intro hm;rcases adt.mp hm with z| z
 ·exact absurd (adu e) (by rw [z];exact Nat.not_lt.mpr I.ok.above)
 ·exact hb z
theorem Bf {e C:Addr}{args:List Value}{h':Heap}{F:Fm}(hB:Body X)(I:Inv X pins σ H s)(hm:Heap.MadeExcOf s.heap h' e (.ref C) args)(hE:H e=none->E (.ref C) (some e) H):
  wpAny (model X.prog X.w) X.A (leaving X.env (.ref e)) (fun _ s''=>CXE X.prog X.w X.outer X.H₀ X.s₀ E (.ref e) s'') F { s with heap:=h' }:=by
 have hfr:X.A.frames=some (X.env::X.outer):=by rw [<- hB.st];exact I.ok.frames
 have stk:=I.stack;have hl:s.heap.FunFrames (hideAll s.heap (frs X.stack)) (X.env::X.outer):=by
  have:=funFrames_hide stk aa7;rw [hB.st] at this ⊢;exact this
 have hne:∀ b o,s.heap.get? b=some o->b ∉ frs X.stack->(hideAll s.heap (frs X.stack)).get? b=some o:=fun b o q n=>hideAll_get _ q n;have htr:∀ b u,H b=some u->∃ o,s.heap.get? b=some o/\(hideAll s.heap (frs X.stack)).get? b=some o:=fun b u q=>by
  obtain ⟨o,eo⟩:=(I.hok b u q).obj;exact ⟨o,eo,hne b o eo fun z=>by rw [I.Cd b z] at q;cases q⟩
 have hnx:∀ b:Addr,b ∉ X.ex:=fun b=>by rw [hB.ex];simp
 refine wpAny_leaves_madeW (base:=hideAll s.heap (frs X.stack)) (h:=s.heap) hfr hB.fr (fun b o q=>of_hideAll _ q) hl hm fun h2 t fl _ _ sm=>?_;have F0:Fly X.prog X.w (hideAll s.heap (frs X.stack)) (frs X.outer) X.H₀ X.s₀.heap H s.heap:=by
  refine ⟨?_,I.hok,fun b o q n=>?_,htr⟩
  ·have u:=I.base;rw [hB.ex] at u;exact u
  ·obtain ⟨o',e'⟩:=I.base.there b o q (hnx b);refine ⟨o',hne b o' e' (I.Cz hB q n),fun z=>?_⟩;have:=I.base.keep b o q z n (hnx b);rw [e'] at this;exact adP this
 have F1:=F0.on (h2:=h2) fl.1 fun b hb o q=>by
  have hb':b∈frs X.stack:=by rw [hB.st,zG hB.fr];exact adI _ hb
  obtain ⟨_,o',e',d⟩:=stk.mem hb';rw [q] at e';cases e';exact sm b o (hm.keeps b o q) d
 have he0:H e=none:=by
  cases q:H e with
  | none=>rfl
  | some u =>
   obtain ⟨o,eo⟩:=(I.hok e u q).obj;rw [hm.new] at eo;cases eo
 refine ⟨e,t,C,_,H,rfl,I.os,I.bare,F1,fl,?_,he0,hE he0⟩
 ·cases q:X.s₀.heap.get? e with
  | none=>rfl
  | some o =>
   obtain ⟨o',e'⟩:=I.base.there e o q (hnx e);rw [hm.new] at e';cases e'
theorem Dj {e:Value}{s':Shared}{F:Fm}(hB:Body X)(I:Inv X pins σ H s)(h:CXE X.prog X.w X.stack H s E e s'):
  wpAny (model X.prog X.w) X.A (leaving X.env e) (fun _ s''=>CXE X.prog X.w X.outer X.H₀ X.s₀ E e s'') F s':=by
 obtain ⟨ea,t,C,B,H',rfl,os,bare,fl,fy,new,nh,hE⟩:=h;have hfr:X.A.frames=some (X.env::X.outer):=by rw [<- hB.st];exact I.ok.frames
 have hnx:∀ b:Addr,b ∉ X.ex:=fun b=>by rw [hB.ex];simp
 rw [hB.st] at fy;refine wpAny_leaves_onW hfr hB.fr fy fun h2 fy2 sm=>?_;have sub:∀ b,b∈frs X.outer->b∈frs X.stack:=fun b hb=>by rw [hB.st,zG hB.fr];exact adI _ hb
 have F0:Fly X.prog X.w B (frs X.outer) X.H₀ X.s₀.heap H' s'.heap:=by
  refine ⟨⟨fun b o q n hb _=>?_,fun b o q n hb _=>?_,fun b o q n _=>?_,fun b o q _=>?_,fun b xs q=>fl.un.tups b xs (I.base.tups b xs q),fun b o u q=>fl.un.frzs b o u (I.base.frzs b o u q),fun b ps q=>?_⟩,fl.hok,fun b o q n=>?_,fl.trk⟩
  ·have e1:=I.base.keep b o q n hb (hnx b);exact fl.un.keep b o e1 (I.base.free b o q n (hnx b)) (I.Cz hB q hb) (by simp)
  ·obtain ⟨s1,e1⟩:=I.base.slot b o q n hb (hnx b);obtain ⟨s2,e2⟩:=fl.un.slot b _ e1 (I.base.free b o q n (hnx b)) (sub b hb) (by simp);exact ⟨s2,e2⟩
  ·obtain ⟨o',e'⟩:=I.base.there b o q (hnx b);exact fl.un.free b o' e' (I.base.free b o q n (hnx b)) (by simp)
  ·obtain ⟨o',e'⟩:=I.base.there b o q (hnx b);exact fl.un.there b o' e' (by simp)
  ·obtain ⟨m1,e1⟩:=I.base.tbls b ps q;obtain ⟨m2,e2⟩:=fl.un.tbls b _ e1;exact ⟨m1++m2,by rw [e2,Array.append_assoc]⟩
  ·obtain ⟨o',e'⟩:=I.base.there b o q (hnx b);obtain ⟨o2,e2,k⟩:=fl.old b o' e' (I.Cz hB q n);refine ⟨o2,e2,fun z=>?_⟩;rw [k (I.base.free b o q z (hnx b))];have:=I.base.keep b o q z n (hnx b);rw [e'] at this;exact adP this
 have F1:=F0.on (h2:=h2) fy2.1 fun b hb o q=>by
  obtain ⟨_,o',e',d⟩:=fy.2.2.1.mem (by rw [hB.st] at sub;exact sub b hb);rw [q] at e';cases e';exact sm b o q d
 refine ⟨ea,t,C,B,H',rfl,os.trans I.os,bare,F1,fy2,?_,nh,hE⟩;cases q:X.s₀.heap.get? ea with
 | none=>rfl
 | some o =>
  obtain ⟨o',e'⟩:=I.base.there ea o q (hnx ea);rw [new] at e';cases e'
end
section
variable {P:Program}{w:World}{K:Fa}{mg:Fh}{base:Heap}{N:List Str}{qual:Str}{scope:Scope}{f:Addr}{cd:Value}{A:Around}{outer:List Env}{s:Shared}{H:Hp}{E:XK}
theorem dw {CX:CXT}:Body (KZ CX P w K mg base N qual scope f cd A outer s H E):=⟨rfl,rfl,rfl⟩
theorem iJ:Passes (CXE P w) (KZ (CXE P w) P w K mg base N qual scope f cd A outer s H E) E:=fun _ _ _ _ _ _ I h=>Dj dw I h
theorem Fun.okX {x:Str}{st:Stmt}{fd:Ff}{ps:List Str}{k:Nat}{sp:Sp}(F:Fun K x qual st f fd)(S:aF N ps (ao st))(len:∀ vs H Q E,sp vs H Q E->vs.length=ps.length)
  (hbody:∀ (cdv:Value)(A:Around)(outer:List Env)(s:Shared)(H:Hp)(vs:Fs)(Q:VK)(E:XK),qu k (A.deeper (envOfC qual (ao st) s.heap.objs.size f cdv))->sp vs H Q E ->
   ∃ t,PSs (KZ (CXE P w) P w K mg base N qual (ao st) f cdv A outer s H E) (fC st) t/\t { nx:=fun _ H'=>Q .non H',rt:=Q } (start N vs) H):zT P w K mg base (CXE P w) (k+1) f fd ps sp:=by
 obtain ⟨oc,od,kV,doc,pm,an,cdv,ct,osl,rfl,lk,hcd⟩:=F.ex;exact Zb lk hcd S len fun A outer s H vs Q E hr hsp=>hbody cdv A outer s H vs Q E hr hsp
end
abbrev abX:List Value:=[.type "ValueError",.type "Exception",.type "BaseException",.type "object"]
theorem Zd {K:Frag}{h:Heap}{C:Addr}(X:K.In h)(q:excIn K C abX "ValueError.__new__"=true):
  ∃ bm N nm qn bs hdct sn sub ab col dd k0 k1 k2 k3 k5 mN,h.get? C=some (excClassObj nm qn C N bs bm hdct sn sub ab col dd k0 k1 k2 k3 k5 "ValueError.__new__")/\h.Ns N mN/\mN "__init__"=none/\OwnTail h abX bm:=by
 unfold excIn at q;split at q
 ·rename_i d1 c1 s1 look
  split at q
  ·rename_i C1 bm1 a0 a1 a2 a3 n1 a5 m1 l1
   simp only [ad4,beq_iff_eq,Bool.not_eq_true'] at q;obtain ⟨⟨⟨⟨⟨e1,e2⟩,e3⟩,e4⟩,e5⟩,e6⟩:=q;subst e1 e2;obtain ⟨nm,bs,mro,ns,qn,hd,sn,sub,ab,col,del⟩:=c1;dsimp only at m1 e3 e5 e6;subst m1 e3;have es:s1=#[a0,a1,a2,a3,some (.builtin "ValueError.__new__"),a5]:=by cases s1;simp only at l1;rw [l1]
   subst es;exact ⟨bm1,ns,nm,qn,bs,hd,sn,sub,ab,col,d1,a0,a1,a2,a3,a5,_,X _ _ look,Heap.Ns.of_isNs (isNs_of_in X e5),nsMap_none_of_in X e5 e6,tail_of_in X e4⟩
  ·cases q
 ·cases q
def ZV (E:XK)(C:Addr)(ta:TA):TS:=fun _ σ H=>ta σ H fun vs H1=>vs.length<=sizeLine/\∀ e,H1 e=none->E (.ref C) (some e) H1
section
variable {X:Cx}{E:XK}{x:Str}{C:Addr}{np cpos pos:Pos}{e0:Expr}{ta:TA}
theorem bZ (hB:Body X)(hc:X.calm=true)(hx:∀ e s',wpAny (model X.prog X.w) X.A (leaving X.env e) (fun _ s''=>CXE X.prog X.w X.outer X.H₀ X.s₀ E e s'') (fun e s''=>CXE X.prog X.w X.outer X.H₀ X.s₀ E e s'') s'->X.xe e s')
  (hg:Gl X x)(hm:X.mg x=some (.ref C))(hq:excIn X.K C abX "ValueError.__new__"=true)(ha:PA X [e0] ta)(he:starEach [e0] X.env=[(false,eval e0 X.env)]:=by rfl)(hd:(x ==("__debug__":Str))=false:=by decide):
  PS X (.Raise (some (.Call (.Name x np) [e0] [] cpos)) none pos) (ZV E C ta):=by
 intro pins s σ H D I h
 obtain ⟨bm,Nn,nm,qn,bs,hdct,sn,sub,ab,col,dd,k0,k1,k2,k3,k5,mN,hC,hN,hni,TL⟩:=Zd I.ok.mod.kin hq
 refine wpAny_Raise_call_subU (C:=C) (nm:=nm) (q:=qn) (N:=Nn) (bs:=bs) (bm:=bm) (hdct:=hdct) (sn:=sn) (sub:=sub) (ab:=ab) (col:=col) (dd:=dd) (k0:=k0) (k1:=k1) (k2:=k2) (k3:=k3) (k5:=k5) (mN:=mN) (newId:="ValueError.__new__")
  PySem.F.excBase_ValueError PySem.F.excBase_ValueError.hasB PySem.F.excBase_ValueError (TL.hasType PySem.F.excBase_ValueError.hasBase) (I.ok.hd hc) (by rw [he];rfl) hni ?_
 refine lE I hg hm ⟨rfl,?_⟩ hd
 have a:=ha cpos pins s σ H _ I h
 rw [he] at a ⊢
 refine aeN (wpAny_mono a (fun us s1 ⟨vs,H1,I1,r1,hz,q1⟩=>?_) fun _ _ z=>z)
 exact ⟨rfl,by show us.length<=_;rw [<- r1.length];exact hz,I1.bk _ _ hC,hN.keeps I1.bk,TL.keeps I1.bk,fun h' e mk=>hx _ _ (Bf hB I1 mk (q1 e))⟩
end
def XS (X:Cx)(pins:Fk)(Ex:St->XK)(ev:Value)(s':Shared):Prop:=∃ σ H s,Inv X pins σ H s/\CXE X.prog X.w X.stack H s (Ex σ) ev s'
def PEx (X:Cx)(e:Expr)(t:St->Hp->VK->XK->Prop):Prop:=
 ∀ (pins:Fk)(s:Shared)(σ:St)(H:Hp)(Q:VK)(Ex:St->XK),Inv X pins σ H s->t σ H Q (Ex σ)->wpAny (model X.prog X.w) X.A (eval e X.env) (EP X pins σ Q) (XS X pins Ex) s
abbrev TX:=Ends->(St->XK)->St->Hp->Prop
def PSx (X:Cx)(st:Stmt)(t:TX):Prop:=
 ∀ (pins:Fk)(s:Shared)(σ:St)(H:Hp)(D:Ends)(Ex:St->XK),Inv X pins σ H s->t D Ex σ H->wpAny (model X.prog X.w) X.A (exec st X.env) (SP X pins D) (XS X pins Ex) s
def ade (X:Cx)(sts:List Stmt)(t:TX):Prop:=
 ∀ (pins:Fk)(s:Shared)(σ:St)(H:Hp)(D:Ends)(Ex:St->XK),Inv X pins σ H s->t D Ex σ H->wpAny (model X.prog X.w) X.A (execs sts X.env) (SP X pins D) (XS X pins Ex) s
section
variable {X:Cx}{k:Nat}{f:Addr}{fd:Ff}{ps:List Str}{sp:Sp}{dvs:Fs}{ds:List Value}{x:Str}{p pos:Pos}{e:Expr}{es:List Expr}{t:TA}
def ab1 (sp:Sp)(dvs:Fs)(t:TA):St->Hp->VK->XK->Prop:=fun σ H Q Ex=>t σ H fun vs H1=>sp (vs++dvs) H1 Q Ex
theorem Yh (F:zT X.prog X.w X.K X.mg X.base (CXE X.prog X.w) k f fd ps sp)(hr:qu k X.A)(hg:Gl X x)(hm:X.mg x=some (.ref f))(hk:keepIn X.K (.ref f)=true)(hb:Binds X.K fd ps ds)(hd:Vals dvs ds)
  (ha:PA X.nox (e::es) t)(hdb:(x ==("__debug__":Str))=false:=by decide)(he:starEach (e::es) X.env=(false,eval e X.env)::starEach es X.env:=by rfl)(hpl:(backTo pos (starEach es X.env)).any (·.1)=false:=by rfl):
  PEx X (.Call (.Name x p) (e::es) [] pos) (ab1 sp dvs t):=by
 intro pins s σ H Q Ex I h
 refine wpAny_Call_Name_kw (lE I hg hm ?_ hdb)
 refine aem (h₀:=X.base) I.ok.mod.kin hk (wpAny_mono (ha pos pins s σ H _ (I.wish _) h) (fun us s1 ⟨vs,H1,I1,r,q⟩=>?_) fun _ _ z=>z.elim) he hpl
 have I1:=I1.oH
 refine ⟨I1.kIn,?_⟩
 have r2:Vals (vs++dvs) (us++ds):=r.append hd
 have hl:(us++ds).length=ps.length:=by rw [<- r2.length];exact F.len _ _ _ _ q
 refine wpAny_call (codeAny_mono (F.run X.A X.stack s1 H1 ⟨us,[]⟩ (us++ds) (vs++dvs) Q (Ex σ) hr I1.env0 (hb s1 us I1.kIn hl) r2 q) fun rr s' hq=>?_)
 cases rr with
 | error ev=>exact ⟨σ,H1,s1,I1,hq⟩
 | ok fl =>
  cases fl with
  | ret u=>exact I1.after hq
  | next=>exact False.elim hq
  | brk=>exact False.elim hq
  | cont=>exact False.elim hq
theorem Oc {i:Nat}{te:St->Hp->VK->XK->Prop}{pos pos':Pos}(hN:X.N.Nodup)(hi:X.N[i]?=some x)(hx:Loc X.env.scope x)(he:PEx X e te)(hs:swapsWith e (some (.Name x pos')) pos.line X.env=pure false:=by rfl)(hf:X.fn x=true\/X.env.scope.names.lookup x=some .local:=by first| exact .inl rfl| exact .inr rfl| assumption):
  PSx X (.Assign [.Name x pos'] e pos) (fun D Ex σ H=>te σ H (fun v H1=>D.nx (σ.set i (some v)) H1) (Ex σ)):=by
 intro pins s σ H D Ex I h;refine wpAny_Assign_Name (wpAny_mono (he pins s σ H _ Ex I h) (fun v s1 ⟨y,H1,I1,r1,q1⟩=>?_) fun _ _ z=>z) hs;exact v7 I1 hN hi hx r1 (fun s2 I2=>⟨_,H1,I2,q1⟩) hf
theorem Gu {st:Stmt}{tx:TX}(h:PSx X st tx):ade X [st] tx:=by
 intro pins s σ H D Ex I hq;refine wpAny_execs_cons (wpAny_mono (h pins s σ H D Ex I hq) (fun fl s1 q=>?_) fun _ _ z=>z);cases fl with
 | next=>exact wpAny_execs_nil q
 | ret v=>exact q
 | brk=>exact q
 | cont=>exact q
end
section
variable {X:Cx}{pins:Fk}{σ:St}{H:Hp}{s:Shared}
def Fx (X:Cx)(e:Addr):Cx:={ X with A:=X.A.mark (some (.ref e)),calm:=false,xe:=fun _ _=>False }
theorem Inv.sup (I:Inv X pins σ H s)(e:Addr):Inv (Fx X e) pins σ H s:=
 ⟨⟨I.ok.mod,I.ok.kind,I.ok.glob,I.ok.blt,I.ok.above,I.ok.inj,I.ok.has,I.ok.cab,fun z=>(by cases z),I.ok.frames,I.ok.stk,I.ok.exf,I.ok.bs,I.ok.bsz,I.ok.noex,I.ok.exfs,I.ok.EY,I.ok.frf⟩,I.os,I.bare,I.base,I.loc,I.cell,I.free,I.freeC,I.pin,I.hok,I.len⟩
theorem Inv.ab2 {e:Addr}(hc:X.calm=true->X.A.handled=none)(I:Inv (Fx X e) pins σ H s):Inv X pins σ H s:=
 ⟨⟨I.ok.mod,I.ok.kind,I.ok.glob,I.ok.blt,I.ok.above,I.ok.inj,I.ok.has,I.ok.cab,hc,I.ok.frames,I.ok.stk,I.ok.exf,I.ok.bs,I.ok.bsz,I.ok.noex,I.ok.exfs,I.ok.EY,I.ok.frf⟩,I.os,I.bare,I.base,I.loc,I.cell,I.free,I.freeC,I.pin,I.hok,I.len⟩
theorem Inv.abJ {a:Addr}{o:HO}(I:Inv X pins σ H s)(hn:H a=none)(hL:a≠X.env.locals)(h0:X.s₀.heap.get? a=none)(hc:∀ x c,X.env.cells.lookup x=some c->c≠a)(hp:∀ p∈X.pn++pins,p.1≠a)
  (new:jV X.prog X.w (upd H a o) s.heap a o):Inv X pins σ (upd H a o) s:=by
 have ne:∀ b u,H b=some u->b≠a:=fun b u e=>dH e hn;refine ⟨I.ok,I.os,I.bare,⟨I.base.keep,I.base.slot,fun b ob e n hx=>?_,I.base.there,fun b xs e=>?_,fun b ob xs e=>?_,fun b ps e=>?_⟩,I.loc,I.cell,?_,fun x c e=>?_,fun p hq=>?_,fun b u e=>?_,I.len⟩
 ·rw [aX fun z=>by rw [z,h0] at e;cases e];exact I.base.free b ob e n hx
 ·have:=I.base.tups b xs e;rw [aX (ne b _ this)];exact this
 ·have:=I.base.frzs b ob xs e;rw [aX (ne b _ this)];exact this
 ·obtain ⟨m,e1⟩:=I.base.tbls b ps e;exact ⟨m,by rw [aX (ne b _ e1)];exact e1⟩
 ·rw [aX hL.symm];exact I.free
 ·rw [aX (hc x c e)];exact I.freeC x c e
 ·obtain ⟨e1,n,r⟩:=I.pin p hq;exact ⟨e1,by rw [aX (hp p hq)];exact n,r⟩
 ·by_cases hb:b=a
  ·subst hb;rw [cC] at e;cases e;exact new
  ·rw [aX hb] at e;exact (I.hok b u e).stay (fun _ _ _ q=>q) (fun c q=>by rw [aX (ne c _ q)];exact q) fun c xs q=>by rw [aX (ne c _ q)];exact q
theorem Inv.ZQ {i:Nat}{n:Str}{h':Heap}{v:Option Value}{m:Fh}{t':Nat}(I:Inv X pins σ H s)(hN:X.N.Nodup)(hi:X.N[i]?=some n)(hs:Heap.SameBut X.env.locals s.heap h')(hm:s.heap.Ns X.env.locals m)
  (hl:∀ (j:Nat)(x:Str)(w:V),X.N[j]?=some x->σ[j]?=some (some w)->Vis X.env.scope x->∃ u,RelV w u/\Look X.env s.heap m x u)(hn:h'.Ns X.env.locals (fun x=>if x=n then v else m x)):Inv X pins (σ.set i none) H { s with heap:=h',toks:=t' }:=by
 have kp:∀ b o,b≠X.env.locals->s.heap.get? b=some o->h'.get? b=some o:=fun b o hb e=>(hs.2 b hb).trans e;have old:∀ b o,X.s₀.heap.get? b=some o->b≠X.env.locals:=fun b o e=>adV (adQ (adu e) I.ok.above);refine ⟨I.ok,I.os,I.bare,⟨fun b o e n hb hx=>kp b o (old b o e) (I.base.keep b o e n hb hx),fun b o e n hb hx=>?_,I.base.free,fun b o e hx=>?_,I.base.tups,I.base.frzs,I.base.tbls⟩,⟨_,hn,fun j x w e1 e2 e3=>?_⟩,fun x c e=>?_,I.free,I.freeC,fun p hp=>?_,fun b u e=>?_,by rw [aex];exact I.len⟩
 ·obtain ⟨sl,e1⟩:=I.base.slot b o e n hb hx;exact ⟨sl,kp b _ (old b o e) e1⟩
 ·obtain ⟨o',e1⟩:=I.base.there b o e hx;exact ⟨o',kp b _ (old b o e) e1⟩
 ·by_cases hj:j=i
  ·subst hj;have hj':j<σ.length:=by
    have:=(adl.mp e2).1;rw [aex] at this;exact this
   rw [List.getElem?_set_self hj'] at e2;cases e2
  ·rw [List.getElem?_set_ne (Ne.symm hj)] at e2;have hx:x≠n:=fun z=>by
    subst z;obtain ⟨a1,a2⟩:=adl.mp e1;obtain ⟨b1,b2⟩:=adl.mp hi;exact hj ((List.getElem_inj hN).mp (a2.trans b2.symm))
   obtain ⟨u,r,l⟩:=hl j x w e1 e2 e3;refine ⟨u,r,?_⟩;rcases l with ⟨k,z⟩ | ⟨k,c,ec,z⟩
   ·exact .inl ⟨k,by dsimp only;rw [if_neg hx];exact z⟩
   ·refine .inr ⟨k,c,ec,?_⟩;obtain ⟨o,ho,hd⟩:=z;exact ⟨o,kp c o (I.cne x c ec) ho,hd⟩
 ·obtain ⟨w,o,ho,hd⟩:=I.cell x c e;exact ⟨w,o,kp c o (I.cne x c e) ho,hd⟩
 ·obtain ⟨e1,n1,l1,r⟩:=I.pin p hp;exact ⟨kp _ _ l1 e1,n1,l1,r⟩
 ·refine (I.hok b u e).stay (fun c w hc q=>kp c w (fun z=>?_) q) (fun _ q=>q) fun _ _ q=>q;rcases hc with y| y
  ·rw [<- y,z,I.free] at e;cases e
  ·rw [z,I.free] at y;cases y
end
def ab0 (K:Fa)(Bc:Value)(i:Nat)(th:TS)(D:Ends):St->XK:=fun σ cls oe H=>∃ C e,cls=.ref C/\oe=some e/\exmOne K (.ref C) Bc=some true /\
 th { nx:=fun σ' H'=>D.nx (σ'.set i none) H',rt:=D.rt,bk:=fun σ' H'=>D.bk (σ'.set i none) H',ct:=fun σ' H'=>D.ct (σ'.set i none) H' } (σ.set i (some (.ref e))) (upd H e (.ext (XAt e C)))
def tTry (K:Fa)(Bc:Value)(i:Nat)(tb:TX)(th:TS):TS:=fun D σ H=>tb D (ab0 K Bc i th D) σ H
section
variable {X:Cx}{body suite:List Stmt}{b0:Stmt}{x n:Str}{Ba:Addr}{i:Nat}{tb:TX}{th:TS}{np hpos pos:Pos}
theorem Pq (hB:Body X)(hc:X.calm=true)(hb:ade X body tb)(hg:Gl X x)(hm:X.mg x=some (.ref Ba))(hN:X.N.Nodup)(hi:X.N[i]?=some n)(hlo:X.env.scope.names.lookup n=some .local)
  (hs:∀ e:Addr,PSs (Fx X e) (b0::suite) th)(hd:(x ==("__debug__":Str))=false:=by decide):
  PS X (.Try body [.ExceptHandler (some (.Name x np)) (some n) (b0::suite) hpos] [] [] pos) (tTry X.K (.ref Ba) i tb th):=by
 intro pins s σ H D I h
 refine wpAny_Try_except (wpAny_mono (hb pins s σ H D _ I h) (fun fl s1 q=>?_) fun ev s1 q=>?_)
 ·cases fl with
  | next=>exact wpAny_execs_nil q
  | ret v=>exact q
  | brk=>exact q
  | cont=>exact q
 obtain ⟨σ1,H1,s0,I1,ea,t,C,B,H',rfl,os,bare,fl,fy,new,nh,C',e',ec,ee,hx,ht⟩:=q
 cases ec
 cases ee
 have hfr:X.A.frames=some (X.env::X.outer):=by rw [<- hB.st];exact I1.ok.frames
 have fy0:Heap.FlyingW B (X.env::X.outer) ea (.ref C) (.ref t) s1.heap:=by rw [<- hB.st];exact fy
 refine wpAny_looks_onW hfr hB.fr fy0 fun h4 hd4 sm4=>?_
 have fl4:=fl.on (h2:=h4) hd4.1 (oJ fy.2.2.1 sm4)
 refine wpAny_landsW hd4 fun h5 fy5 sm5=>?_
 have fl5:=fl4.on (h2:=h5) fy5.1 (by rw [hB.st];exact oJ hd4.2.2.1 sm5)
 have I5:Inv X pins σ1 H' { s1 with heap:=h5 }:=I1.call' (s':={ s1 with heap:=h5 }) (ch:=[]) os fl5.un fl5.hok bare (fun b z=>nomatch z)
 have hxe:XAt ea C h5:=by obtain ⟨ob,h1,h2⟩:=fy5.there;exact ⟨ob,h1,h2⟩
 refine wpAny_handleBy_cons (codeAny_handlers_test ?_) (by intro q;cases q)
 refine lE (X:=Fx X ea) (I5.sup ea) hg hm ?_ hd
 refine (exm_one (K:=X.K) I5.kIn (Gv hxe) hx).at ?_
 show codeAny _ _ _ _ _
 refine codeAny_handlers_suite_as ?_
 refine lands_againW fy5 fun h6 fy6 sm6=>?_
 have fl6:=fl5.on (h2:=h6) fy6.1 (by rw [hB.st];exact oJ fy5.2.2.1 sm6)
 have I6:Inv X pins σ1 H' { s1 with heap:=h6 }:=I1.call' (s':={ s1 with heap:=h6 }) (ch:=[]) os fl6.un fl6.hok bare (fun b z=>nomatch z)
 have hxe6:XAt ea C h6:=by obtain ⟨ob,h1,h2⟩:=fy6.there;exact ⟨ob,h1,h2⟩
 have newS:X.s₀.heap.get? ea=none:=by
  cases q:X.s₀.heap.get? ea with
  | none=>rfl
  | some o =>
   obtain ⟨o',e'⟩:=I1.base.there ea o q (by rw [hB.ex];simp)
   rw [new] at e';cases e'
 have I7:Inv X pins σ1 (upd H' ea (.ext (XAt ea C))) { s1 with heap:=h6 }:=by
  refine I6.abJ nh (fun z=>?_) newS (fun y c e z=>?_) (fun p hp z=>?_) ⟨hxe6,(by obtain ⟨o,h1,_⟩:=hxe6;exact ⟨o,h1⟩),fun g1 g2 p k=>?_⟩
  ·obtain ⟨m,⟨o,_,_,ho,_⟩,_⟩:=I1.loc
   rw [<- z,new] at ho;cases ho
  ·obtain ⟨v,o,ho,_⟩:=I1.cell y c e
   rw [z,new] at ho;cases ho
  ·have ho:=(I1.pin p hp).1
   rw [z,new] at ho;cases ho
  ·obtain ⟨o,h1,h2⟩:=p
   exact ⟨o,k o h1,h2⟩
 refine v7 (X:=Fx X ea) (I7.sup ea) hN hi (.inl hlo) (v:=.ref ea) rfl (fun s8 I8=>?_) (.inr hlo)
 refine wpAny_mono (hs ea pins s8 _ _ _ I8 ht) (fun f s9 q=>?_) fun _ _ z=>z.elim
 have out:∀ {σ9:St}{H9:Hp}(J:Inv (Fx X ea) pins σ9 H9 s9)(Z:Shared->Prop),(∀ s10,Inv X pins (σ9.set i none) H9 s10->Z s10)->wpAny (model X.prog X.w) X.A (do bindName X.env n .none;unbindBehindTheSuite X.env n hpos) (fun _ s10=>Z s10) X.xe s9:=fun {σ9 H9} J Z k=>by
  have J':Inv X pins σ9 H9 s9:=J.ab2 fun hc=>I1.ok.hd hc
  obtain ⟨m,hn,hl⟩:=id J'.loc
  exact wpAny_nameGoes_keeps hlo hn (by rw [J'.ok.kind];rfl) fun h' v hn' hsb=>k _ (J'.ZQ hN hi hsb hn hl hn')
 cases f with
 | next=>obtain ⟨σ9,H9,J,q⟩:=q;exact out J _ fun s10 J10=>⟨_,H9,J10,q⟩
 | brk=>obtain ⟨σ9,H9,J,q⟩:=q;exact out J _ fun s10 J10=>⟨_,H9,J10,q⟩
 | cont=>obtain ⟨σ9,H9,J,q⟩:=q;exact out J _ fun s10 J10=>⟨_,H9,J10,q⟩
 | ret u=>obtain ⟨v,σ9,H9,J,r,q⟩:=q;exact out J _ fun s10 J10=>⟨v,_,H9,J10,r,q⟩
def ClsV (c:V)(t:Value):Prop:=(∃ T,c=.ty T/\t=.type T)\/∃ a,c=.ref a/\t=.ref a
theorem bH:tY X (.builtin "isinstance") (fun xs H Q=>∃ (e D:Addr)(c:V)(t:Value)(b:Bool),xs=[.ref e,c]/\H e=some (.ext (XAt e D))/\N8 X.K D/\ClsV c t/\kitOne X.K (.ref D) t=some b/\Q (.bl b) H):=by
 intro pins s σ H xs us Q I r h;obtain ⟨e,D,c,t,b,rfl,he,hD,hc,hk,q⟩:=h;obtain ⟨u,v,rfl,ru,rv⟩:=vals2 r;cases ru;have ev:v=t:=by
  rcases hc with ⟨T,rfl,rfl⟩ | ⟨a,rfl,rfl⟩
  ·exact rv
  ·exact rv
 subst ev;obtain ⟨hx,_,_⟩:=(show jV X.prog X.w H s.heap e (.ext (XAt e D)) from I.hok e _ he);exact PySem.W.kia_one (Nf hD) I.kIn hx hk (fun z=>nomatch z) fun tk=>⟨.bl b,H,I.tok tk,rfl,q⟩
end
theorem Lr {X:Cx}:Passes (CXE X.prog X.w) X E0:=fun _ _ _ _ _ _ _ h=>by
 obtain ⟨_,_,_,_,_,_,_,_,_,_,_,_,hE⟩:=h;exact hE.elim
theorem kh {X:Cx}{x:Str}{C:Addr}{pos:Pos}(hg:Gl X x)(hm:X.mg x=some (.ref C))(hd:(x ==("__debug__":Str))=false:=by decide):PE X (.Name x pos) (tC (.ref C)):=bN (v:=.ref C) hg hm rfl hd
structure j8 (K:Fa)(mg:Fh)(x:Str)(C:Addr):Prop where
 m:mg x=some (.ref C)
 q:excIn K C abX "ValueError.__new__"=true
 x:N8 K C
end L2
namespace L2
open PySem PySem.Spec PyProof.Rows
section
variable {X:Cx}
theorem Inv.uG {pins:Fk}{σ:St}{H:Hp}{s:Shared}{h':Heap}{t':Nat}{ch:List Addr}(I:Inv X pins σ H s)(k:∀ b o,b ∉ ch->s.heap.get? b=some o->h'.get? b=some o)(f:∀ b∈ch,Ob X pins H b):Inv X pins σ H { s with heap:=h',toks:=t' }:=by
 have nit:∀ b u,H b=some u->b ∉ ch:=fun b u e z=>by rw [(f b z).1] at e;cases e
 refine I.step (g':=s.gens) (d':=s.drawn) (ch:=ch) (fun b hb=>?_) (fun b o _ _ hc e _=>k b o hc e) (fun b o _ _ hc e _=>⟨o.slots,k b o hc e⟩) (fun _ _ _ _ n=>n)
  (fun b o hc e=>⟨o,k b o hc e⟩) (fun _ _ e=>e) (fun _ _ _ e=>e) (fun b ps e=>⟨#[],by rw [e];simp⟩) (fun m hm=>?_) (fun b u e=>?_) I.bare
 ·obtain ⟨f0,f1,f2,f3,f4,f5⟩:=f b hb;exact ⟨f3,f1,f4,f5⟩
 ·obtain ⟨o,es,ep,ho,r⟩:=hm;exact ⟨o,es,ep,k _ o (fun z=>(f _ z).2.1 rfl) ho,r⟩
 ·refine (I.hok b u e).stay (fun c v hc q=>k c v ?_ q) (fun _ q=>q) fun _ _ q=>q;rcases hc with z| z
  ·rw [z];exact nit b u e
  ·exact nit c _ z
end
section
variable {X:Cx}
def Ite (K:Fa)(l:Addr)(xs:Fs):It:=
 ⟨fun i H=>SqL K H l xs/\i<xs.length,fun i H x H'=>∃ T a,x=.ref T/\H T=none/\xs[i]?=some a/\H'=upd H T (.tup [.int (i:Int),a]),fun i H=>SqL K H l xs/\xs.length<=i⟩
def abO (e it l:Addr)(i:Nat)(h:Heap):Prop:=(∃ old,IsEnum h e it i old)/\h.IsListIter it l i
theorem GD {P:Program}{w:World}{K:Fa}{elts:List Expr}{kk:Nat}{tpos:Pos}{e it l:Addr}{xs:Fs}(hei:e≠it):
  Turn P w K (.Tuple elts kk tpos) (Ite K l xs) [e,it] e (abO e it l) where
 mem:=by simp
 obj:=fun i h st b hb=>by
  obtain ⟨⟨old,he⟩,⟨o1,e1,c1,d1⟩⟩:=st;simp at hb;rcases hb with rfl| rfl
  ·exact ⟨_,he,fun v z=>by cases (show Data.fields _=Data.cell v from z)⟩
  ·exact ⟨o1,e1,fun v z=>by rw [d1] at z;cases z⟩
 keep:=fun i h h' st k=>by
  obtain ⟨⟨old,he⟩,h1⟩:=st;exact ⟨⟨old,k e (by simp) _ he⟩,h1.at fun o x=>k it (by simp) o x⟩
 item:=by
  intro X hP hw hK hc i pins s σ H E I hf st hg;subst hP hw hK;obtain ⟨⟨old,he⟩,h1⟩:=st;obtain ⟨hq1,hi1⟩:=hg;obtain ⟨its1,rv1,pl1,hz1⟩:=I.list hq1;obtain ⟨u1,hu1,ru1⟩:=rv1.get (ada hi1);refine wpAny_pyNext_enum_item he h1 pl1.isList (x:=u1) (by simpa using hu1) hei fun h' a1 a2 a3 a4 hk=>?_;have lt:∀ {c o},s.heap.get? c=some o->s.heap.objs.size≠c:=fun e=>Nat.ne_of_gt (adu e);refine ⟨.ref s.heap.objs.size,rfl,wpAny_letOwnedTupleGo_enum (s:={ s with heap:=h',toks:=s.toks+1 }) a1 fun h'' hz' hs'=>?_⟩;have Tz:s.heap.objs.size≠e:=lt he;have I1:Inv X pins σ H { s with heap:=h'',toks:=s.toks+1 }:=I.uG (ch:=[e,it])
   (fun b o hb x=>hs'.extBut b o (fun z=>hb (by simp [z])) (hk b o (fun z=>hb (by simp [z])) (fun z=>hb (by simp [z])) x)) fun b hb=>hf b hb
  obtain ⟨F0,F1,F2,F3,F4,F5⟩:=I.KR (H':=H) (ado _) (I.hok.fresh (ado _));have hT:IsTup h'' s.heap.objs.size #[.int (i:Int) s.toks,u1]:=⟨_,hs'.extBut _ _ Tz a3,rfl,_,rfl⟩;have I2:Inv X pins σ (upd H s.heap.objs.size (.tup [.int (i:Int),xs[i]])) { s with heap:=h'',toks:=s.toks+1 }:=I1.adopt F0 F1 I.sz F4 F5 (show jV X.prog X.w _ h'' _ (.tup [.int (i:Int),xs[i]]) from ⟨by rw [sizeLine_eq];simp,[.int (i:Int) s.toks,u1],.cons ⟨_,rfl⟩ (.cons ru1 .nil),hT⟩);refine ⟨.ref s.heap.objs.size,_,I2,rfl,⟨_,_,rfl,F0,ada hi1,rfl⟩,?_,fun b hb=>?_⟩
  ·exact ⟨⟨_,by simpa using hz'⟩,a2.extBut hs'.extBut hei.symm⟩
  ·rw [aX]
   ·exact (hf b hb).1
   ·simp at hb;obtain ⟨o1,e1,_⟩:=h1;rcases hb with rfl| rfl
    ·exact (lt he).symm
    ·exact (lt e1).symm
 done:=by
  intro X hP hw hK hc i pins s σ H E I hf st hg;subst hP hw hK;obtain ⟨⟨old,he⟩,h1⟩:=st;obtain ⟨hq1,hend⟩:=hg;obtain ⟨its1,rv1,pl1,hz1⟩:=I.list hq1;have e1:=rv1.length;exact wpAny_pyNext_enum_end (I.ok.hd hc) he h1 pl1.isList (by simp;omega) fun h' hk=>⟨rfl,I.uG (t':=s.toks) (ch:=[e,it])
   (fun b o hb x=>hk b o (fun z=>hb (by simp [z])) x) fun b hb=>hf b hb⟩
 self:=fun _ _ _ _ _ st h=>by
  obtain ⟨⟨old,he⟩,_⟩:=st;exact wpAny_pyIter_enum he h
def acE (K:Fa)(ta:TA):TI:=fun σ H R=>ta σ H fun vs H1=>∃ l xs,vs=[.ref l]/\SqL K H1 l xs/\R (Ite K l xs) H1
theorem Cq {elts:List Expr}{kk:Nat}{tpos:Pos}{a:Expr}{ta:TA}{p pos:Pos}(hg:Gl X "enumerate")(hm:X.mg "enumerate"=none)(ha:PA X [a] ta)(hs:starEach [a] X.env=[(false,eval a X.env)]:=by rfl):
  PI X (.Tuple elts kk tpos) (.Call (.Name "enumerate" p) [a] [] pos) (acE X.K ta):=by
 intro pins s σ H R I h;refine Call_ (vI I hg hm boot_enumerate (ad6 (thn (ha pos pins s σ H _ I h) fun us s1 ⟨vs,H1,I1,r1,q1⟩=>?_) hs rfl));obtain ⟨l1,xs,e,hq1,q⟩:=q1;subst e;obtain ⟨u,rfl,ru⟩:=vals1 r1;cases ru;obtain ⟨its1,rv1,pl1,hz1⟩:=I1.list hq1;refine call_enumerate_list pl1.isList fun h' a1 a2 a3 hk=>?_;refine wpAny_pyIter_enum a1 ?_;refine ⟨_,_,_,_,H1,rfl,I1.kept (t':=s1.toks) hk,GD (l:=l1) (xs:=xs) (it:=s1.heap.objs.size) (Nat.succ_ne_self _),⟨⟨_,a1⟩,a2⟩,fun b hb=>?_,q⟩;have hb':s1.heap.objs.size<=b:=by
  simp at hb;rcases hb with rfl| rfl <;>simp
 exact I1.KR hb' (I1.hok.fresh hb')
theorem Fd {K:Fa}{l:Addr}{xs:Fs}{g:TG}{tb:TS}{D:Ends}{σ:St}{H:Hp}(Pv:Nat->St->Hp->Prop)(h0:Pv 0 σ H)(hl:∀ i σ H,i<=xs.length->Pv i σ H->SqL K H l xs)
  (hs:∀ i a T σ H,xs[i]?=some a->Pv i σ H->H T=none->g (.ref T) σ (upd H T (.tup [.int (i:Int),a])) fun σ2 H2=>tb { D with nx:=Pv (i+1),ct:=Pv (i+1),bk:=D.nx } σ2 H2)(hd:∀ σ H,Pv xs.length σ H->D.nx σ H):
  ∃ W:Nat->Nat->St->Hp->Prop,(∃ m,W 0 m σ H)/\∀ i m σ H,W i m σ H ->
   ((Ite K l xs).stop i H/\D.nx σ H)\/((Ite K l xs).go i H/\∃ N:St->Hp->Prop,(∀ σ' H',N σ' H'->∃ m',m'<m/\W (i+1) m' σ' H')/\∀ x H',(Ite K l xs).yld i H x H'->g x σ H' fun σ2 H2=>tb { D with nx:=N,ct:=N,bk:=D.nx } σ2 H2):=by
 refine ⟨fun i m σ H=>m=xs.length - i/\i<=xs.length/\Pv i σ H,⟨xs.length,by simp,adY _,h0⟩,?_⟩
 rintro i m σ H ⟨rfl,hi,p⟩
 have q1:=hl i σ H hi p
 by_cases hlt:i<xs.length
 ·refine .inr ⟨⟨q1,hlt⟩,Pv (i+1),fun σ' H' p'=>⟨xs.length - (i+1),by omega,rfl,hlt,p'⟩,fun x H' y=>?_⟩
  obtain ⟨T,a,rfl,hT,ha,rfl⟩:=y
  exact hs i a T σ _ ha p hT
 ·have e:i=xs.length:=by omega
  subst e
  exact .inl ⟨⟨q1,ado _⟩,hd σ H p⟩
theorem Kh {K:Fa}{a:Addr}{xs:Fs}{acc:Addr}{g:TG}{tc:TT}{te:TE}{τ:St}{H1:Hp}{Q:Hp->Prop}(Pv:Nat->St->Hp->Prop)(h0:Pv 0 τ (upd H1 acc (.lst [])))(hl:∀ i τ H,i<=xs.length->Pv i τ H->SqL K H a xs)
  (hs:∀ i x T τ H,xs[i]?=some x->Pv i τ H->H T=none->g (.ref T) τ (upd H T (.tup [.int (i:Int),x])) fun τ4 H4=>tc τ4 H4 fun b H5=>if b=true then te τ4 H5 fun y H6=>∃ ys,H6 acc=some (.lst ys)/\ys.length<sizeLine/\Pv (i+1) τ4 (upd H6 acc (.lst (ys++[y]))) else Pv (i+1) τ4 H5)
  (hd:∀ τ H,Pv xs.length τ H->Q H):yw (Ite K a xs) acc g tc te τ H1 Q:=by
 refine ⟨fun i m τ H=>m=xs.length - i/\i<=xs.length/\Pv i τ H,⟨xs.length,by simp,adY _,h0⟩,?_⟩
 rintro i m τ H ⟨rfl,hi,p⟩
 have q:=hl i τ H hi p
 by_cases hlt:i<xs.length
 ·refine .inr ⟨⟨q,hlt⟩,Pv (i+1),fun τ' H' p'=>⟨xs.length - (i+1),by omega,rfl,hlt,p'⟩,fun x H' y=>?_⟩
  obtain ⟨T,b,rfl,hT,hb,rfl⟩:=y
  exact hs i b T τ _ hb p hT
 ·have e:i=xs.length:=by omega
  subst e
  exact .inl ⟨⟨q,ado _⟩,hd τ H p⟩
end
structure Iv (P:Prop):Prop where
 t:True
 p:P
theorem ifT {c:Bool}{A B:Prop}(h:c=true)(a:A):if c=true then A else B:=by rw [if_pos h];exact a
theorem ifF {c:Bool}{A B:Prop}(h:c=false)(b:B):if c=true then A else B:=by rw [if_neg (by rw [h];exact adv)];exact b
theorem ifB {c:Bool}{A B:Prop}(h1:c=true->A)(h2:c=false->B):if c=true then A else B:=by
 cases c with
 | true=>exact ifT rfl (h1 rfl)
 | false=>exact ifF rfl (h2 rfl)
theorem Zg (x y:Int):decide (V.int x=V.int y)=decide (x=y):=by
 by_cases h:x=y
 ·simp [h]
 ·have:¬ V.int x=V.int y:=fun e=>h (by cases e;rfl);simp [h,this]
theorem gk {ns:List Int}{i:Int}(h0:0<=i)(h1:i<(ns.length:Int)):atI (ns.map V.int) i=some (V.int (ns.getD i.toNat 0)):=by
 refine wj h0 ?_;rw [adS,ada (by omega)];rfl
theorem jf {ns:List Int}{k:Nat}(h:k<ns.length):ns[k]?=some (ns.getD k 0):=by
 rw [adS,ada h];rfl
theorem eO.mo {T:d8}{K:Fa}{H H':Hp}{vs:Fs}{ds:List PyData}(h:eO K H vs ds)(e:aM T H H'):eO K H' vs ds:=eO.Ge e h
theorem SqL.mo {T:d8}{K:Fa}{H H':Hp}{a:Addr}{xs:Fs}(h:SqL K H a xs)(e:aM T H H'):SqL K H' a xs:=e.seq h
theorem SqT.mo {T:d8}{K:Fa}{H H':Hp}{a:Addr}{xs:Fs}(h:SqT K H a xs)(e:aM T H H'):SqT K H' a xs:=e.acU h
section
variable {T:d8}{H0 H1 H H':Hp}{L L':Fr}{a l p:Addr}{o o':HO}{xs:Fs}{K:Fa}
theorem Ow.frz (O:Ow T H0 H ((p,o)::L)):∃ Hn,Ow T Hn H L/\aM T H0 Hn/\Hn p=some o:=by
 obtain ⟨Hn,On,sn,kn⟩:=O.tail.reb;refine ⟨Hn,On,sn,kn p o (O.get 0) fun q hq z=>?_⟩;have nd:=O.nd;rw [adR,aew] at nd;exact nd.1 (adW.mpr ⟨q,hq,z⟩)
theorem Ow.join (O:Ow T H0 H L)(O':Ow T H H' L'):Ow T H0 H' (L'++L):=by
 have keep:∀ q∈L,H' q.1=some q.2:=fun q hq=>(O.jB O'.same).at_ q hq;refine ⟨O.same.trans O'.same,fun q hq=>?_,fun q hq=>?_,fun q hq=>?_,?_⟩
 ·rcases ad2.mp hq with h| h
  ·exact O.same.free (O'.new q h)
  ·exact O.new q h
 ·rcases ad2.mp hq with h| h
  ·exact O'.at_ q h
  ·exact keep q h
 ·rcases ad2.mp hq with h| h
  ·exact O'.pl q h
  ·exact O.pl q h
 ·rw [adw,List.nodup_append];refine ⟨O'.nd,O.nd,fun x hx y hy z=>?_⟩;obtain ⟨q,hq,rfl⟩:=adW.mp hx;obtain ⟨r,hr,rfl⟩:=adW.mp hy;have:=O'.new q hq;rw [z,O.at_ r hr] at this;cases this
end
def dTup (ns:List Int):PyData:=.tuple (ns.map PyData.int)
section
variable {K:Fa}{H:Hp}{v:V}{a:Addr}{ns:List Int}{rs:List (List Int)}
theorem Den.tup (h:SqT K H a (ns.map V.int)):Den K H (.ref a) (dTup ns):=.tuple h (eO.ints ns)
theorem Den.Ym (h:Den K H v (dTup ns)):∃ a,v=.ref a/\SqT K H a (ns.map V.int):=by
 cases h with
 | tuple h hs=>exact ⟨_,rfl,by rw [<- eO.int_inv hs];exact h⟩
end
section
variable {A B:Prop}
theorem ifD {p:Prop} [Decidable p] (h1:p->A) (h2:¬ p->B):if decide p=true then A else B:=ifB (fun h=>h1 (of_decide_eq_true h)) fun h=>h2 (of_decide_eq_false h)
theorem ifI {x y:Int}(h1:x=y->A)(h2:¬ x=y->B):if decide (V.int x=V.int y)=true then A else B:=by rw [Zg];exact ifD h1 h2
theorem ifN {c:Bool}(h:if c=true then B else A):if (!c)=true then A else B:=by cases c <;>simpa using h
end
structure Lic where
 day:Int
 start:Int
 back:Int
 most:Int
def KY (l:Lic):PyData:=dTup [l.day,l.start,l.back,l.most]
abbrev xX (l:Lic):Fs:=[.int l.day,.int l.start,.int l.back,.int l.most]
section
variable {K:Fa}{H:Hp}{v:V}{a:Addr}{ls:List Lic}{l:Lic}{xs:Fs}{k:Nat}
theorem Den.lic (h:SqT K H a (xX l)):Den K H (.ref a) (KY l):=Den.tup (ns:=[l.day,l.start,l.back,l.most]) h
theorem Den.Iu (h:Den K H v (KY l)):∃ a,v=.ref a/\SqT K H a (xX l):=h.Ym
theorem eO.vH (h:eO K H xs (ls.map KY))(hk:ls[k]?=some l):∃ a,xs[k]?=some (.ref a)/\SqT K H a (xX l):=by
 obtain ⟨v,h1,h2⟩:=h.get (i:=k) (d:=KY l) (by rw [adC,hk];rfl);obtain ⟨a,rfl,hT⟩:=h2.Iu;exact ⟨a,h1,hT⟩
theorem eO.Y4 (h:eO K H xs (ls.map KY))(hx:xs[k]?=some v):∃ a l,v=.ref a/\ls[k]?=some l/\SqT K H a (xX l):=by
 obtain ⟨d,h1,h2⟩:=h.get' hx;rw [adC] at h1;cases e:ls[k]? with
 | none=>rw [e] at h1;cases h1
 | some l =>
  rw [e] at h1;cases h1;obtain ⟨a,rfl,hT⟩:=h2.Iu;exact ⟨a,l,rfl,rfl,hT⟩
end
theorem Zj (xs:Fs)(i j:Nat):zM xs (some (i:Int)) (some (j:Int))=(xs.drop i).take (j - i):=by
 unfold zM;rw [HT.wM,HT.wM];refine List.ext_getElem? fun k=>?_;simp only [List.getElem?_take,List.getElem?_drop];by_cases h1:k<j - i
 ·rw [if_pos h1];by_cases h2:i+k<xs.length
  ·rw [if_pos (by omega),show min i xs.length=i by omega]
  ·rw [aen (l:=xs) (i:=i+k) (by omega)];split
   ·exact aen (by omega)
   ·rfl
 ·rw [if_neg h1];split
  ·rename_i h3
   omega
  ·rfl
theorem Kd (ns:List Int)(i j:Nat):zM (ns.map V.int) (some (i:Int)) (some (j:Int))=((ns.drop i).take (j - i)).map V.int:=by
 rw [Zj,List.map_take,List.map_drop]
theorem NK (ns:List Int)(i:Nat):zM (ns.map V.int) (some (i:Int)) none=(ns.drop i).map V.int:=by
 unfold zM;rw [HT.wM,abW,show HT.sIx ns.length ns.length none=ns.length from rfl,List.map_drop];by_cases h:i<=ns.length
 ·rw [Nat.min_eq_left h,aee (by rw [List.length_drop,abW];omega)]
 ·rw [Nat.min_eq_right (by omega),List.drop_of_length_le (l:=ns.map V.int) (i:=i) (by rw [abW];omega),Nat.sub_self,List.take_zero]
theorem zq {X:Cx}{K:Fa}{pos:Pos}{es:List Expr}{k:Nat}{t:TGs}{n:Nat}(hK:X.K=K)(hc:X.calm=true)(h:PGs X es t)(hn:(assignEach es X.env).length=n:=by rfl)(hst:(assignEach es X.env).findIdx? (·.1)=none:=by rfl):PG X (.Tuple es k pos) (ac9 K n t):=hK ▸ uo hc h hn hst
theorem abQ {τ:St}{H:Hp}{A B:Hp->Prop}(h:A H):ab3 τ H fun b H5=>if b=true then A H5 else B H5:=by
 show if true=true then A H else B H;rw [if_pos rfl];exact h
theorem yI {α:Type}:∀ {L:List α}{k:Nat}{p:α},L[k]?=some p->(p::L.eraseIdx k).Perm L
 | [],_,_,h=>by simp at h
 | a::L,0,p,h=>by
  have e:a=p:=by simpa using h
  subst e;exact List.Perm.refl _
 | a::L,k+1,p,h=>by
  have h':L[k]?=some p:=by simpa using h
  rw [List.eraseIdx_cons_succ];exact (List.Perm.swap a p _).trans ((yI h').cons a)
section
variable {T:d8}{H0 H:Hp}{L:Fr}{p:Addr}{o:HO}
theorem Ow.pull (O:Ow T H0 H L)(k:Nat)(h:L[k]?=some (p,o):=by rfl):Ow T H0 H ((p,o)::L.eraseIdx k):=O.perm (yI h)
end
end L2
namespace L2
open PySem PySem.W PySem.Spec PyProof.Rows
theorem Ik:typeLookup (.type "list_reverseiterator") "__len__"=pure none:=by (rw [typeLookup_type,builtinLookup_eq_fast];kernel_rfl)
theorem Nm:typeLookup (.type "list_reverseiterator") "__length_hint__"=pure (some (.builtin "list_reverseiterator.__length_hint__")):=by (rw [typeLookup_type,builtinLookup_eq_fast];kernel_rfl)
section
variable {prog:Program}{w:World}{A:Around}{E:Fm}{s:Shared}
theorem Nk {I:Addr}{Q:Bool->Shared->Prop}(hT:s.TypeIs (.ref I) "list_reverseiterator")(h:Q false s):wpAny (model prog w) A (Builtin.List.listLengthHint (.ref I)) Q E s:=by
 unfold Builtin.List.listLengthHint;refine wpAny_bind (wpAny_specialOf hT Ik ?_);show wpAny _ A (specialOf (Value.ref I) (Str.ofString "__length_hint__")>>=_) _ _ _;refine wpAny_bind (wpAny_specialOf hT Nm ?_);generalize hid:("list_reverseiterator.__length_hint__":String)=id0;wp_delta;rw [show splitId id0=some ("list_reverseiterator","__length_hint__") from by subst hid;decide+kernel];subst hid;refine wpAny_bind (wpAny_isInstance (T:="list_reverseiterator") (b:=true) hT (by rw [isSubtype_type];kernel_rfl) ?_);exact wpAny_pure h
end
end L2
namespace L2
open PySem PySem.Spec PyProof.Rows
section
variable {κ:Type} [DecidableEq κ]
def yP (kvs:List (κ × V))(k:κ):Option V:=(kvs.find? fun kv=>decide (kv.1=k)).map (·.2)
theorem K8 {p:κ × V}{r:List (κ × V)}{k:κ}(e:p.1=k):yP (p::r) k=some p.2:=by simp [yP,List.find?_cons,e]
theorem K9 {p:κ × V}{r:List (κ × V)}{k:κ}(e:¬ p.1=k):yP (p::r) k=yP r k:=by simp [yP,List.find?_cons,e]
theorem Fo.getD {o:Option V}{u:Option Value}{d:V}{d':Value}(r:Fo o u)(rd:RelV d d'):RelV (o.getD d) (u.getD d'):=by
 cases o with
 | none=>cases u with
  | none=>exact rd
  | some _=>exact (show False from r).elim
 | some _=>cases u with
  | none=>exact (show False from r).elim
  | some _=>exact r
theorem KV.val {kvs:List (κ × V)}{vs:List (κ × Value)}(r:KV kvs vs)(k:κ):Fo (yP kvs k) (valueAt vs k):=by
 unfold KV at r
 induction r with
 | nil=>exact True.intro
 | @cons p q ps qs h t ih =>
  obtain ⟨h1,h2⟩:=h;by_cases e:p.1=k
  ·have e':q.1=k:=h1.symm.trans e;have b:valueAt (q::qs) k=some q.2:=by simp [valueAt,List.find?_cons,e']
   rw [K8 e,b];exact h2
  ·have e':¬ q.1=k:=fun z=>e (h1.trans z);have b:valueAt (q::qs) k=valueAt qs k:=by simp [valueAt,List.find?_cons,e']
   rw [K9 e,b];exact ih
end
theorem aa5 {P:Program}{w:World}{k:Key}{u:Value}(r:RelV (kV k) u):(jJ P w).is k u=true:=by
 cases k with
 | inl i=>obtain ⟨t,e⟩:=(show ∃ t,u=Value.int i t from r);subst e;exact CG P w i t
 | inr x=>obtain ⟨t,e⟩:=(show ∃ t,u=Value.str x t from r);subst e;exact rH P w x t
section
variable {X:Cx}{pins:Fk}{σ:St}{H:Hp}{s:Shared}{a:Addr}{y v:V}{u r:Value}{o:Option V}{A:Around}{E:Fm}
theorem Inv.big (I:Inv X pins σ H s):sysModules<s.heap.objs.size:=by
 have h:mainGlobals<s.heap.objs.size:=(I.mod.glob.keeps I.bk).lt;exact Nat.lt_trans (by decide) h
end
def adg (i:Expr):Prop:=∀ ov iv,subscripted i false ov iv=operate [ov,iv] (getItem ov iv)
theorem Yr {prog:Program}{w:World}{A:Around}{E:Fm}{s:Shared}{env:Env}{value slice:Expr}{pos:Pos}{T id:String}{Q:Fm}
  (hl:typeLookup (.type T) "__getitem__"=pure (some (.builtin id)))(hs:adg slice)
  (h:wpAny (model prog w) A (eval value env) (fun o s₁=>wpAny (model prog w) A (eval slice env) (fun i s₂=>s₂.TypeIs o T/\wpAny (model prog w) A (getItem o i) Q E s₂) E s₁) E s):
  wpAny (model prog w) A (eval (.Subscript value slice pos) env) Q E s:=by
 refine Subscript_ (wpAny_mono h (fun o s₁ h₁=>wpAny_mono h₁ (fun i s₂ h₂=>?_) fun _ _ x=>x) fun _ _ x=>x)
 obtain ⟨hT,h₂⟩:=h₂
 unfold subscriptTail
 refine wpAny_bind ?_
 rw [getitemInPython_of_ne hT.not_modules]
 refine wpAny_bind (wpAny_specialOf hT hl ?_)
 have fin:wpAny (model prog w) A (subscripted slice false o i) (fun r s₃=>wpAny (model prog w) A (letTemporaryGo value o r >>=fun _=>pure r) Q E s₃) E s₂:=by
  rw [hs o i]
  exact wpAny_operating (wpAny_mono h₂ (fun r s₃ h₃=>wpAny_bind (wpAny_letTemporaryGo (wpAny_pure h₃))) fun _ _ x=>x)
 first
  | exact wpAny_pure (wpAny_bind fin)
  | exact wpAny_bind (wpAny_pure (wpAny_bind fin))
  | exact wpAny_bind fin
theorem Nz {P:Program}{w:World}{H:Hp}(h:Heap)(hb:sysModules<h.objs.size):jV P w H (h.push { cls:=.type "dict",data:=.dict #[] }) h.objs.size (.dK []):=
 ⟨adY _,beq_eq_false_iff_ne.mpr (Ne.symm (adV hb)),[],.nil,Heap.DictOf.new h⟩
def Z5:TE:=fun _ H Q=>∀ p,H p=none->Q (.ref p) (upd H p (.dK []))
section
variable {X:Cx}{pos:Pos}
theorem El:PE X (.Dict [] [] pos) Z5:=fun pins s σ H Q I h =>
 wpAny_Dict_empty ⟨.ref s.heap.objs.size,_,I.laid (a:=s.heap.objs.size) (o:=.dK []) (t':=s.toks) (fun _ _ q=>adn _ q) (ado _) (Nz s.heap I.big),rfl,h _ (I.hok.fresh (ado _))⟩
end
structure M2 (X:Cx)(o:Expr)(m:Str)(apos:Pos)(e f:Expr)(cpos:Pos):Prop where
 base:attributeBase o m X.env (eval o X.env)=eval o X.env
 few:((backTo cpos (starEach [e,f] X.env)).all (fun x=>!x.1) && (backToKw cpos (keywordEach [] X.env)).all (fun x=>x.1.isSome)
  && decide (([e,f]:List Expr).length+([]:List Keyword).length+(if ([]:List Keyword).isEmpty then 0 else 1)<30))=true
 line:(apos.endLine ==cpos.line)=true
 trees:backTo cpos (starEach [e,f] X.env)=[(false,eval e X.env),(false,eval f X.env)]
end L2
namespace L2
open PySem PySem.W PySem.Spec PyProof.Rows
section
variable {X:Cx}
theorem xP (xs:Fs)(j:Nat):zM xs none (some (j:Int))=xs.take j:=by
 unfold zM;rw [HT.wM,show HT.sIx xs.length 0 none=0 from rfl,List.drop_zero,Nat.sub_zero];by_cases h:j<=xs.length
 ·rw [Nat.min_eq_left h]
 ·rw [Nat.min_eq_right (by omega),aee (ado _),aee (by omega)]
theorem eO.aaS {K:Fa}{H:Hp}{xs:Fs}{ps:List (Int × Int × Int)}{i:Nat}{x:V}(h:eO K H xs (ps.map dMv))(hx:xs[i]?=some x):∃ a p,x=.ref a/\ps[i]?=some p/\SqT K H a [.int p.1,.int p.2.1,.int p.2.2]:=by
 obtain ⟨d,hd,hv⟩:=h.get' hx;rw [adC] at hd;cases hp:ps[i]? with
 | none=>rw [hp] at hd;cases hd
 | some z =>
  rw [hp] at hd;have e:dMv z=d:=adP hd;subst e;obtain ⟨a,rfl,hT⟩:=hv.aaR;exact ⟨a,z,rfl,rfl,hT⟩
end
end L2
namespace HT
open PySem PyProof.Rows
end HT
namespace L2
open PySem PySem.W PySem.Spec PyProof.Rows
end L2
namespace L2
open PySem
end L2
namespace L2
open PySem PyProof.Rows
section
variable {prog:Program}{w:World}{A:Around}{E:Fm}{R:Result->Shared->Prop}{s:Shared}
end
end L2
namespace L2
open PySem PySem.Spec PyProof.Rows
section
variable {X:Cx}
theorem FZ (bs:List Bool):((List.range bs.length).any fun i=>(bs[i]?).getD false)=bs.any id:=by
 rw [aed,List.any_eq_true,List.any_eq_true];constructor
 ·rintro ⟨i,hi,h⟩;rw [aeu] at hi;rw [ada hi] at h;exact ⟨_,List.getElem_mem hi,h⟩
 ·rintro ⟨b,hb,h⟩;obtain ⟨i,hi,rfl⟩:=List.getElem_of_mem hb;exact ⟨i,aeu.mpr hi,by rw [ada hi];exact h⟩
theorem NZ (hc:X.calm=true):tY X (.builtin "any") (fun xs H Q=>∃ (p:Addr)(bs:List Bool),xs=[.ref p]/\SqL X.K H p (bs.map V.bl)/\Q (.bl (bs.any id)) H):=by
 intro pins s σ H xs us Q I r h;obtain ⟨p,bs,rfl,hq,q⟩:=h;obtain ⟨u,rfl,ru⟩:=vals1 r;cases ru;obtain ⟨its,r1,p1,hz⟩:=I.list hq;have hl:=p1.isList;have hlt:p<s.heap.objs.size:=p1.lt;have hlen:=r1.length;rw [abW] at hlen;refine call_any_walk (wpAny_pyIter_list hl ?_);refine ⟨s.heap.objs.size,[s.heap.objs.size,p],[s.heap.objs.size],its.toArray.size,_,_,fun i=>(bs[i]?).getD false,rfl,Walks.list (A:=X.A.in1) (I.ok.hd hc) _ p (adV hlt) its.toArray,
  ⟨⟨_,adq _ rfl,rfl,rfl⟩,hl.push _⟩,fun i v s' Q' E' hP hQ=>?_,fun h' tk hk=>?_⟩
 ·have hP':its[i]?=some v:=by simpa using hP
  have hi:i<bs.length:=by
   have:=(adl.mp hP').1;omega
  obtain ⟨u,eu,ru⟩:=r1.get (x:=.bl bs[i]) (by rw [adC,ada hi];rfl);rw [hP'] at eu;cases eu;cases ru;dsimp only at hQ;rw [ada hi] at hQ;exact wpAny_truthy_bool hQ
 ·have e:((List.range its.toArray.size).any fun i=>(bs[i]?).getD false)=bs.any id:=by
   rw [adH,<- hlen];exact FZ bs
  rw [e];refine ⟨.bl _,H,I.kept fun b o eo=>hk b o (fun hm=>?_) (adn _ eo),rfl,q⟩;rw [adK.mp hm] at eo;exact aei _ (adu eo)
end
def Its (x:Str):It:=⟨fun i _=>i<x.cps.size,fun i H y H'=>H'=H/\∃ c,x.cps[i]?=some c/\y=.str ⟨#[c]⟩,fun i _=>x.cps.size<=i⟩
theorem La {P:Program}{w:World}{K:Fa}{tg:Expr}(it:Addr)(x:Str)(t:Tok):Turn P w K tg (Its x) [it] it (fun i h=>h.IsStrIter it "str_ascii_iterator" x t i) where
 mem:=by simp
 obj:=fun i h st b hb=>by
  have e:b=it:=by simpa using hb
  subst e;obtain ⟨o,e,c,d⟩:=st;exact ⟨o,e,fun v z=>by rw [d] at z;cases z⟩
 keep:=fun i h h' st k=>let ⟨o,e,r⟩:=st;⟨o,k it (by simp) o e,r⟩;item:=by
  intro X hP hw hK hc i pins s σ H E I hf st hg;subst hP hw hK;obtain ⟨f0,f1,f2,f3,f4,f5⟩:=hf it (by simp);have hg:i<x.cps.size:=hg;have hx:x.cps[i]?=some x.cps[i]:=by simp [hg]
  refine wpAny_pyNext_ascii_item st hx fun h' st' sb=>?_;have I1:Inv X pins σ H { s with heap:=h',toks:=s.toks+1 }:=I.turned (fun b o hb e=>(sb.2 b hb).trans e) f0 f1 f3 f4 f5;obtain ⟨o,e,c,d⟩:=id st';exact ⟨_,rfl,Nr (s:={ s with heap:=h',toks:=s.toks+1 }) e c d (by decide) ⟨.str ⟨#[x.cps[i]]⟩,H,I1,⟨_,rfl⟩,⟨rfl,_,hx,rfl⟩,st',fun b hb=>(hf b hb).1⟩⟩
 done:=by
  intro X hP hw hK hc i pins s σ H E I hf st hg;subst hP hw hK;obtain ⟨f0,f1,f2,f3,f4,f5⟩:=hf it (by simp);have hg:x.cps.size<=i:=hg;exact wpAny_pyNext_ascii_end (I.ok.hd hc) st (by simp [hg]) fun h' eb=>⟨rfl,I.turned (t':=s.toks) (fun b o hb e=>eb b o hb e) f0 f1 f3 f4 f5⟩
 self:=fun _ _ _ _ _ st h=>wpAny_pyIter_striter_ascii st h
section
variable {X:Cx}{tg:Expr}
def iStr (tl:TE):TI:=fun σ H R=>tl σ H fun v H1=>∃ x,v=.str x/\x.cps.all (·<128)=true/\R (Its x) H1
theorem Px {l:Expr}{tl:TE}(hl:PE X l tl):PI X tg l (iStr tl):=by
 intro pins s σ H R I h;refine thn (hl pins s σ H _ I h) fun v s1 ⟨x,H1,I1,r1,q1⟩=>?_;obtain ⟨z,e,ha,q⟩:=q1;subst e;obtain ⟨t,rfl⟩:=r1;refine wpAny_pyIter_ascii ha ?_;refine ⟨s1.heap.objs.size,[s1.heap.objs.size],_,_,H1,rfl,I1.kept (t':=s1.toks) fun b o e=>adn _ e,La _ z t,⟨_,adq _ rfl,rfl,rfl⟩,fun b hb=>?_,q⟩;have e:b=s1.heap.objs.size:=by simpa using hb
 subst e;exact I1.KR (ado _) (I1.hok.fresh (ado _))
theorem Fe {x:Str}{acc:Addr}{g:TG}{tc:TT}{te:TE}{τ:St}{H1:Hp}{Q:Hp->Prop}(Pv:Nat->St->Hp->Prop)(h0:Pv 0 τ (upd H1 acc (.lst [])))
  (hs:∀ i c τ H,x.cps[i]?=some c->Pv i τ H->g (.str ⟨#[c]⟩) τ H fun τ4 H4=>tc τ4 H4 fun b H5=>if b=true then te τ4 H5 fun y H6=>∃ ys,H6 acc=some (.lst ys)/\ys.length<sizeLine/\Pv (i+1) τ4 (upd H6 acc (.lst (ys++[y]))) else Pv (i+1) τ4 H5)
  (hd:∀ τ H,Pv x.cps.size τ H->Q H):yw (Its x) acc g tc te τ H1 Q:=by
 refine ⟨fun i m τ H=>m=x.cps.size - i/\i<=x.cps.size/\Pv i τ H,⟨x.cps.size,by simp,adY _,h0⟩,?_⟩
 rintro i m τ H ⟨rfl,hi,p⟩
 by_cases hlt:i<x.cps.size
 ·refine .inr ⟨hlt,Pv (i+1),fun τ' H' p'=>⟨x.cps.size - (i+1),by omega,rfl,hlt,p'⟩,fun y H' e=>?_⟩
  obtain ⟨e,c,hc,ey⟩:=e
  subst e ey
  exact hs i c τ _ hc p
 ·have e:i=x.cps.size:=by omega
  subst e
  exact .inl ⟨ado _,hd τ H p⟩
structure Dm (K:Fa)(C:Addr)(x qual:Str)(st:Stmt)(ps:List Str)(a:Addr)(fd:Ff):Prop where
 F:Fun K x qual st a fd
 b:Binds K fd ps []
 m:Meth K C x a
structure X4 (K:Fa)(x qual:Str)(st:Stmt)(dv:List Value)(f:Addr)(fd:Ff):Prop where
 ex:∃ (oc:Value)(od:Option Addr)(T:Addr)(o:Obj)(n:Nat)(kV doc pm:Value)(an:Option Addr)(cdv ct:Value)(osl:Array (Option Value)),
  fd=fnOf x qual (iC st) (fC st) (ao st) (.ref T) kV doc pm an cdv ct/\K.lookup f=some ⟨oc,od,.func fd,osl⟩/\codeIn K cdv qual=true/\K.lookup T=some o/\o.data=.seq dv.toArray n
 kp:keepIn K (.ref f)=true
section
variable {P:Program}{w:World}{K:Fa}{mg:Fh}{base:Heap}{x qual:Str}{st:Stmt}{dv:List Value}{f:Addr}{fd:Ff}{N ps:List Str}{k:Nat}{sp:Sp}
theorem X4.okX (F:X4 K x qual st dv f fd)(S:aF N ps (ao st))(len:∀ vs H Q E,sp vs H Q E->vs.length=ps.length)
  (hbody:∀ (cdv:Value)(A:Around)(outer:List Env)(s:Shared)(H:Hp)(vs:Fs)(Q:VK)(E:XK),qu k (A.deeper (envOfC qual (ao st) s.heap.objs.size f cdv))->sp vs H Q E ->
   ∃ t,PSs (KZ (CXE P w) P w K mg base N qual (ao st) f cdv A outer s H E) (fC st) t/\t { nx:=fun _ H'=>Q .non H',rt:=Q } (start N vs) H):zT P w K mg base (CXE P w) (k+1) f fd ps sp:=by
 obtain ⟨oc,od,T,o,n,kV,doc,pm,an,cdv,ct,osl,rfl,lk,hcd,_⟩:=F.ex;exact Zb lk hcd S len fun A outer s H vs Q E hr hsp=>hbody cdv A outer s H vs Q E hr hsp
theorem X4.binds {ds:List Value}(F:X4 K x qual st dv f fd)
  (h:∀ (T:Addr)(kV doc pm:Value)(an:Option Addr)(cdv ct:Value)(us:List Value),(us++ds).length=ps.length->∃ k:Option (Array Value)->Sem (List (Str × Value)),
   bindArgs (fnOf x qual (iC st) (fC st) (ao st) (.ref T) kV doc pm an cdv ct) ⟨us,[]⟩=(seqItems? (.ref T)>>=k)/\k (some dv.toArray)=pure (ps.zip (us++ds))):Binds K fd ps ds:=by
 obtain ⟨oc,od,T,o,n,kV,doc,pm,an,cdv,ct,osl,rfl,lk,hcd,lt,hs⟩:=F.ex;intro s us X hl;obtain ⟨k,h1,h2⟩:=h T kV doc pm an cdv ct us hl;exact BindsTo.of_defaults rfl (X _ _ lt) hs h1 h2
end
structure DmD (K:Fa)(C:Addr)(x qual:Str)(st:Stmt)(ps:List Str)(a:Addr)(fd:Ff):Prop where
 F:X4 K x qual st [.none] a fd
 b0:Binds K fd ps []
 b1:Binds K fd ps [.none]
 m:Meth K C x a
structure Cl (K:Fa)(mg:Fh)(x:Str)(C f:Addr)(fs:List Str):Prop where
 c:Cls K C
 k:Mk K C f
 m:mg x=some (.ref C)
 n:∀ y∈fs,dW K C y
end
section
variable {T:d8}{H0 H:Hp}{L R B:Fr}{a b:Addr}{o o':HO}{x y:Addr × HO}
theorem Ow.ne (O:Ow T H0 H L)(i j:Nat)(hi:L[i]?=some (a,o):=by rfl)(hj:L[j]?=some (b,o'):=by rfl)(hij:i≠j:=by decide):a≠b:=by
 intro e;subst e;have h1:(L.map (·.1))[i]?=some a:=by rw [adC,hi];rfl
 have h2:(L.map (·.1))[j]?=some a:=by rw [adC,hj];rfl
 exact hij ((aeY (adl.mp h1).1 O.nd).mp (h1.trans h2.symm))
end
section
variable {X:Cx}{k:Nat}{f C:Addr}{fd:Ff}{ps:List Str}{sp:Sp}{dvs:Fs}{ds:List Value}{m:Str}{apos pos:Pos}{o e:Expr}{es:List Expr}{t:TA}{ta:TE}
def abZ (C:Addr)(m:Str)(sp:Sp)(dvs:Fs)(ta:TE)(t:TA):St->Hp->VK->XK->Prop:=fun σ H Q Ex=>ta σ H fun x H1=>∃ a dx fs,x=.ref a/\H1 a=some (.ins C dx fs)/\fs.lookup m=none/\t σ H1 fun vs H2=>sp (x::(vs++dvs)) H2 Q Ex
theorem Yg {pl:Sem Bool}(he:PE X.nox o ta)(c:Cls X.K C)(hm:Meth X.K C m f)(F:zT X.prog X.w X.K X.mg X.base (CXE X.prog X.w) k f fd ps sp)(hr:qu k X.A)(hb:Binds X.K fd ps ds)(hd:Vals dvs ds)(ha:PA X.nox (e::es) t)
  (hst:starEach (e::es) X.env=(false,eval e X.env)::starEach es X.env:=by rfl)(hpl:(backTo pos (starEach es X.env)).any (·.1)=false:=by rfl)
  (ht:eval (.Call (.Attribute o m apos) (e::es) [] pos) X.env=(do
   let ov <- eval o X.env
   standAt apos.atName
   let (f,first)<- holding [ov] (getMethod ov m pl)
   callWith pos f first (backTo pos (starEach (e::es) X.env)) (backToKw pos (keywordEach [] X.env))):=by rfl):
  PEx X (.Call (.Attribute o m apos) (e::es) [] pos) (abZ C m sp dvs ta t):=by
 intro pins s σ H Q Ex I h
 refine aeK (pl:=pl) (wpAny_mono (he pins s σ H _ (I.wish _) h) (fun u s1 ⟨x,H1,I1,rx,a,dx,fs,ex,ea,l,q⟩=>?_) fun _ _ z=>z.elim) ht
 subst ex
 obtain rfl:u=Value.ref a:=rx
 have I1:=I1.oH
 refine uV I1 ea c hm l ?_
 refine aem (first:=[.ref a]) (h₀:=X.base) I.ok.mod.kin hm.kp (wpAny_mono (ha pos pins s1 σ H1 _ (I1.wish _) q) (fun us s2 ⟨vs,H2,I2,r,q2⟩=>?_) fun _ _ z=>z.elim) hst hpl
 have I2:=I2.oH
 refine ⟨I2.kIn,?_⟩
 have r2:Vals (V.ref a::(vs++dvs)) (Value.ref a::(us++ds)):=.cons rfl (r.append hd)
 have hl:(Value.ref a::us++ds).length=ps.length:=by
  have e:=r2.length
  rw [F.len _ _ _ _ q2] at e
  exact e.symm
 refine wpAny_call (codeAny_mono (F.run X.A X.stack s2 H2 ⟨Value.ref a::us,[]⟩ (Value.ref a::us++ds) (V.ref a::(vs++dvs)) Q (Ex σ) hr I2.env0 (hb s2 (Value.ref a::us) I2.kIn hl) r2 q2) fun rr s' hq=>?_)
 cases rr with
 | error ev=>exact ⟨σ,H2,s2,I2,hq⟩
 | ok fl =>
  cases fl with
  | ret u=>exact I2.after hq
  | next=>exact False.elim hq
  | brk=>exact False.elim hq
  | cont=>exact False.elim hq
end
theorem Dw:∀ {ys:List Str}{us:List Value},Vals (ys.map V.str) us->StrsAre us ys
 | [],_,h=>by cases h;exact .nil
 | y::ys,_,h=>by
  cases h with
  | cons r t =>
   obtain ⟨k,rfl⟩:=r;exact .cons y k (Dw t)
def rJoin (K:Fa):V->Fs->Hp->VK->Prop:=fun x vs H Q=>∃ (z:Str)(a:Addr)(ys:List Str),x=.str z/\vs=[.ref a]/\SqL K H a (ys.map V.str)/\(ys.map (·.length)).sum+ys.length*z.length<=100000/\Q (.str (Txt.join z ys)) H
theorem wU {X:Cx}:MtR X "str.join" (rJoin X.K):=by
 intro pins s σ H x vs v us Q I rx rv h;obtain ⟨z,a,ys,rfl,rfl,hq,hz,q⟩:=h;obtain ⟨t,rfl⟩:=rx;obtain ⟨u,rfl,ru⟩:=vals1 rv;cases ru;obtain ⟨its,r,p,_⟩:=I.list hq;exact join_list p.isList (Dw (by simpa using r)) (by omega) fun t' k=>⟨.str _,H,I.tok _,⟨_,rfl⟩,q⟩
theorem qp (z:Str)(ys:List Str):Txt.join z ys=Str.join z ys:=eq_of_beq (join_plain_closes z ys)
def rSlS:V->Option Int->Option Int->Hp->VK->Prop:=fun x lo hi H Q=>∃ z,x=.str z/\z.length<=100000/\Q (.str (Txt.slice z lo hi)) H
theorem Ph {X:Cx}:SlR X rSlS:=by
 intro pins s σ H x v vl vu lo hi sl Q I rx hs pl pu h;obtain ⟨z,rfl,hz,q⟩:=h;obtain ⟨t,rfl⟩:=rx;refine ⟨"str",_,F.slot_str_getitem.lookup,typeIs_str _ _ _,?_⟩;have hk:∀ (lo hi:Option Int),(Txt.slice z lo hi).length<=sizeLine:=fun lo hi=>aec (Txt.slice_le z lo hi) (by rw [sizeLine_eq];omega);cases pl with
 | none =>
  cases pu with
  | none=>exact wpAny_getItem_str_slice (l:=none) (u:=none) (st:=none) hs rfl (post_val_or_str ⟨hk _ _,fun t' k=>⟨.str _,H,I.tok _,⟨_,rfl⟩,q⟩⟩)
  | int j tj=>exact wpAny_getItem_str_slice (l:=none) (u:=some (j,tj)) (st:=none) hs rfl (post_val_or_str ⟨hk _ _,fun t' k=>⟨.str _,H,I.tok _,⟨_,rfl⟩,q⟩⟩)
 | int i ti =>
  cases pu with
  | none=>exact wpAny_getItem_str_slice (l:=some (i,ti)) (u:=none) (st:=none) hs rfl (post_val_or_str ⟨hk _ _,fun t' k=>⟨.str _,H,I.tok _,⟨_,rfl⟩,q⟩⟩)
  | int j tj=>exact wpAny_getItem_str_slice (l:=some (i,ti)) (u:=some (j,tj)) (st:=none) hs rfl (post_val_or_str ⟨hk _ _,fun t' k=>⟨.str _,H,I.tok _,⟨_,rfl⟩,q⟩⟩)
theorem Ag {x:Str}{lo hi:Option Int}{c:Nat}(h:c∈(Txt.slice x lo hi).cps.toList):c∈x.cps.toList:=by
 unfold Txt.slice at h;split at h
 ·exact h
 ·simp only [aeT] at h;obtain ⟨a,_,h⟩:=h;exact Array.mem_toList_iff.mpr (Array.mem_of_getElem? h)
end L2
namespace L2
open PySem PySem.Spec PyProof.Rows PySem.Builtin PySem.Builtin.Str PySem.StrLaws
theorem zX:∀ l:List (Str × Tok),Vals ((l.map (·.1)).map V.str) (strValues l)
 | []=>.nil
 | p::l=>.cons ⟨p.2,rfl⟩ (zX l)
def aah:V->Fs->Hp->VK->Prop:=fun x vs H Q=>∃ (z y:Str),x=.str z/\vs=[.str y]/\(y.length ==0)=false/\z.length<=100000/\∀ p,H p=none->Q (.ref p) (upd H p (.lst ((Txt.split z y).map V.str)))
theorem M5 {X:Cx}:MtR X "str.split" aah:=by
 intro pins s σ H x vs v us Q I rx rv h;obtain ⟨z,y,rfl,rfl,hy,hz,q⟩:=h;obtain ⟨t,rfl⟩:=rx;obtain ⟨u',rfl,ru⟩:=vals1 rv;obtain ⟨u,rfl⟩:=ru;have hsz:z.length<=sizeLine:=by rw [sizeLine_eq];omega
 have hsz2:(partsBetween z (occurrences z y 0 z.length (z.length+1)) y.length).length<=sizeLine:=by
  have:=occ_length_le_len z y 0 z.length (z.length+1);unfold partsBetween;simp only [abW,List.length_zip,adF,adG,aeg];rw [sizeLine_eq];omega
 have fin:∀ (l:List (Str × Tok))(k:Nat),l.map (·.1)=Txt.split z y->EP X pins σ Q (.ref s.heap.objs.size) { s with toks:=k,heap:=s.heap.push { cls:=.type "list",data:=.seq (strValues l).toArray } }:=fun l k hl=>by
  refine ⟨.ref s.heap.objs.size,_,I.laid (t':=k) (o:=.lst ((Txt.split z y).map V.str)) (fun b ob q=>adn _ q) (ado _) ?_,rfl,q _ (I.hok.fresh (ado _))⟩;refine ⟨?_,strValues l,0,?_,adq _ rfl⟩
  ·have:=split_le z y;rw [abW,sizeLine_eq];omega
  ·rw [<- hl];exact zX l
 cases h1:(decide (z.length<y.length) || decide (strKind z<strKind y))
 ·cases hf:(occurrences z y 0 z.length (z.length+1)).isEmpty
  ·refine call_meets F.slot_str_split (typeIs_str _ _ _) F.entry_str_split (F.args_str_split_2 _ _) (meets_str_split_sep z y t u h1 hy hf hsz hsz2) ?_;show wants _ _ _ { s with toks:=_,heap:=s.heap.push { cls:=.type "list",data:=.seq (strsFrom s.toks (partsBetween z (occurrences z y 0 z.length (z.length+1)) y.length)).toArray } };rw [strsFrom_eq];exact fin (numbered s.toks _) _ ((numbered_texts _ _).trans ((if_neg (ne_true_of_eq_false h1)).trans (if_neg (ne_true_of_eq_false hf))).symm)
  ·exact call_meets F.slot_str_split (typeIs_str _ _ _) F.entry_str_split (F.args_str_split_2 _ _) (meets_str_split_not_found z y t u h1 hy hf)
    (fin [(z,t)] s.toks ((if_neg (ne_true_of_eq_false h1)).trans (if_pos hf)).symm)
 ·exact call_meets F.slot_str_split (typeIs_str _ _ _) F.entry_str_split (F.args_str_split_2 _ _) (meets_str_split_cannot_occur z y t u h1)
   (fin [(z,t)] s.toks (if_pos h1).symm)
end L2
namespace L2
open PySem PySem.Spec PyProof.Rows PySem.NumText
theorem zO {X:Cx}:tY X (.type "int") (fun xs H Q=>∃ x:Str,xs=[.str x]/\AllDigits x.cps.toList/\x.cps.toList≠[]/\x.length<=640/\Q (.int (digitsVal x.cps.toList:Nat)) H):=by
 intro pins s σ H xs us Q I r h;obtain ⟨x,rfl,hd,hn,hl,q⟩:=h;obtain ⟨u,rfl,t,rfl⟩:=vals1 r;exact PySem.W.KIN.call_text (intText_digits hd hn (by omega)) hl ⟨.int _,H,I.tok _,⟨_,rfl⟩,q⟩
theorem zJ:∀ d:Nat,d<10->(Nat.digitChar d).toNat=48+d:=by decide
end L2
namespace L2
open PySem PySem.W PySem.Spec PyProof.Rows PySem.Builtin PySem.Builtin.Str
section
variable {prog:Program}{w:World}{A:Around}{E:Fm}{s:Shared}
theorem Dh {I l:Addr}{items:Array Value}{Q:List Value->Shared->Prop}(hh:A.handled=none)(hne:l≠I)(hit:s.heap.IsRevIter I l ((items.size:Int) - 1))(hl:s.heap.IsList l items)(hn:items.size<=sizeLine)
  (hQ:∀ h' tk acc,(∀ b o,b≠I->s.heap.get? b=some o->h'.get? b=some o)->ItemsOf (fun i v=>items[items.size - 1 - i]?=some v) acc items.size->Q acc.toList { s with heap:=h',toks:=tk }):
  wpAny (model prog w) A (collect (.ref I)) Q E s:=by
 unfold collect;refine wpAny_bind (wpAny_runValue (codeAny_builtin F.entry_proto_collect ?_));rw [Around.under_plainId F.plain_proto_collect _]
 show wpAny _ A.in1 (newList []>>=fun u=>again (.builtin "list.__iadd__" ⟨[u,.ref I],[]⟩)) _ _ _
 refine wpAny_bind (wpAny_newObj_type ?_);refine wpAny_pure ⟨plainId_quiet F.plain_list_iadd _,codeAny_builtin F.entry_list_iadd ?_⟩;rw [Around.under_plainId F.plain_list_iadd _]
 generalize hSd:s.heap.objs.size=S
 have hS:(s.heap.push { cls:=.type "list",data:=.seq ([]:List Value).toArray }).get? S=some { cls:=.type "list",data:=.seq ([]:List Value).toArray }:=by rw [<- hSd];exact adq _ rfl
 have lI:I<S:=by obtain ⟨_,e,_⟩:=id hit;rw [<- hSd];exact adu e
 have ll:l<S:=by obtain ⟨_,e,_⟩:=id hl;rw [<- hSd];exact adu e
 have nSI:S≠I:=Nat.ne_of_gt lI
 have nSl:S≠l:=Nat.ne_of_gt ll
 have hSf:S ∉ [I,l]:=by simp only [adt,adZ,or_false,not_or];exact ⟨nSI,nSl⟩
 have old:∀ b o,s.heap.get? b=some o->b≠S:=fun b o e=>by rw [<- hSd];exact adV (adu e)
 have k2:∀ b o,b≠S->s.heap.get? b=some o->(s.heap.push { cls:=.type "list",data:=.seq ([]:List Value).toArray }).get? b=some o:=fun b o _ e=>adn _ e
 show wpAny _ A.in1 (Builtin.List.listExtendWith (.ref S) (.ref I) (.ref S)) _ _ _
 generalize (s.heap.push { cls:=.type "list",data:=.seq ([]:List Value).toArray })=g at hS k2 ⊢
 have W:=Walks.listRev (prog:=prog) (w:=w) (A:=A.in1) hh I l hne items
 have hit2:g.IsRevIter I l ((items.size:Int) - 1):=hit.at fun o e=>k2 I o (Ne.symm nSI) e
 have hl2:g.IsList l items:=hl.at fun o e=>k2 l o (Ne.symm nSl) e
 have st:0<=items.size/\g.IsRevIter I l ((items.size:Int) - 1 - ((0:Nat):Int))/\g.IsList l items:=⟨adY _,by simpa using hit2,hl2⟩
 unfold Builtin.List.listExtendWith;refine wpAny_bind (wpAny_typeOf (T:="list_reverseiterator") (s:={ s with heap:=g }) hit2.typeIs ?_)
 have e1:Builtin.List.listSameRef (.ref S) (.ref I)=false:=by simp [Builtin.List.listSameRef,nSI]
 have e2:(Value.type "list_reverseiterator" ==Value.type "list")=false:=by decide
 have e3:(Value.type "list_reverseiterator" ==Value.type "tuple")=false:=by decide
 simp only [e1,e2,e3,Bool.or_false,Bool.false_eq_true,if_false]
 refine wpAny_bind (wpAny_pyIter_revIter (s:={ s with heap:=g }) hit2 ?_)
 refine wpAny_bind (wpAny_holding (Nk (s:={ s with heap:=g }) hit2.typeIs ?_))
 refine wpAny_ite_split (fun _=>?_) (fun _=>?_)
 ·refine wpAny_bind (wpAny_rule ?_);refine wpAny_bind ?_
  show wpAny _ _ (updateSeq S (·.push .none)>>=fun _=>updateSeq S (·.pop)) _ _ _
  refine wpAny_bind (wpAny_updateSeq hS rfl ?_)
  have h3:=aeh (Obj.mapSeq (·.push Value.none)) hS rfl
  refine wpAny_updateSeq (hz:=by seq_fits) h3 rfl ?_
  have h4:=aeh (Obj.mapSeq (·.pop)) h3 rfl
  have k4:∀ b o,b≠S->g.get? b=some o->((g.update S (Obj.mapSeq (·.push Value.none))).update S (Obj.mapSeq (·.pop))).get? b=some o:=
   fun b o hb e=>(aeJ _ _ (Ne.symm hb)).trans ((aeJ _ _ (Ne.symm hb)).trans e)
  have k5:∀ b o,b≠S->s.heap.get? b=some o->_:=fun b o hb e=>k4 b o hb (k2 b o hb e)
  refine wpAny_pure ⟨plainId_quiet F.plain_extend_loop _,codeAny_extend_loopS W.toS hn S hSf _ items.size 0 _ _ _ rfl (adY _) ⟨adY _,st.2.1.at fun o e=>k4 I o (Ne.symm nSI) e,st.2.2.at fun o e=>k4 l o (Ne.symm nSl) e⟩ h4 (ItemsOf.nil _) fun s' acc' c' hm hS' hacc=>?_⟩
  show wpAny _ A (load S >>=_) _ _ s';refine wpAny_bind (wpAny_load hS' ?_)
  rw [Moved.eq_with hm]
  refine wpAny_pure (hQ s'.heap s'.toks acc' (fun b o hb e=>hm.heap b o (fun hmem=>?_) (k5 b o (old b o e) e)) hacc)
  rcases adt.mp hmem with e' | hmem
  ·exact old b o e e'
  ·exact hb (adK.mp hmem)
 ·refine wpAny_pure ⟨plainId_quiet F.plain_extend_loop _,codeAny_extend_loopS W.toS hn S hSf _ items.size 0 _ _ _ rfl (adY _) st hS (ItemsOf.nil _) fun s' acc' c' hm hS' hacc=>?_⟩
  show wpAny _ A (load S >>=_) _ _ s';refine wpAny_bind (wpAny_load hS' ?_)
  rw [Moved.eq_with hm]
  refine wpAny_pure (hQ s'.heap s'.toks acc' (fun b o hb e=>hm.heap b o (fun hmem=>?_) (k2 b o (old b o e) e)) hacc)
  rcases adt.mp hmem with e' | hmem
  ·exact old b o e e'
  ·exact hb (adK.mp hmem)
theorem Ni {I l:Addr}{items:Array Value}{x:Str}{t:Tok}{ls:List (Str × Tok)}{Q:Fm}(hh:A.handled=none)(hne:l≠I)(hit:s.heap.IsRevIter I l ((items.size:Int) - 1))(hl:s.heap.IsList l items)(hn:items.size<=sizeLine)
  (hi:items.toList=strValues ls)(hok:JoinOk x (ls.reverse.map (·.1))=true)
  (hQ:∀ h' k t',(∀ b o,b≠I->s.heap.get? b=some o->h'.get? b=some o)->Q (.str (Txt.join x (ls.reverse.map (·.1))) t') { s with heap:=h',toks:=k }):
  wpAny (model prog w) A (call (.builtin "str.join") [.str x t,.ref I]) Q E s:=by
 refine wpAny_call (codeAny_call_builtin F.slot_str_join.plain F.entry_str_join (F.slot_str_join.check _ _ _ _ _ _ _ _ (typeIs_str _ _ _) (F.args_str_join_2 _ _) ?_))
 rw [join_tree_other];refine wpAny_bind (wpAny_typeOf (T:="list_reverseiterator") hit.typeIs ?_)
 show wpAny _ A.in1 ((pyIter (.ref I)).tryCatch _ >>=fun it=>collect it >>=fun us=>joinTail x us) _ _ s
 refine wpAny_bind (wpAny_tryCatch (wpAny_pyIter_revIter hit ?_));refine wpAny_bind (Dh (A:=A.in1) hh hne hit hl hn fun h' tk acc hk hacc=>?_)
 have e:acc.toList=strValues ls.reverse:=by
  have hr:acc.toList=items.toList.reverse:=by
   refine List.ext_getElem? fun i=>?_
   have hsz:=hacc.1
   have hlen:items.toList.length=items.size:=aeP
   by_cases hi:i<items.size
   ·have hia:i<acc.size:=by rw [hsz];exact hi
    have:=hacc.2 i acc[i] (Array.getElem?_eq_getElem hia)
    rw [List.getElem?_reverse (by omega),hlen]
    have e1:acc.toList[i]?=some acc[i]:=by simp [hia]
    rw [e1,aeL];exact this.symm
   ·rw [aen (by rw [aeP,hsz];omega),aen (by rw [List.length_reverse,hlen];omega)]
  rw [hr,hi]
  show (ls.map _).reverse=ls.reverse.map _
  rw [List.map_reverse]
 rw [e]
 generalize ls.reverse=rl at hok hQ e ⊢
 have hok':tooLong ((rl.map (·.1)).toArray.foldl (· + ·.length+x.length) 0)=false:=by
  unfold JoinOk at hok;rwa [Bool.not_eq_true'] at hok
 have g:Gives (joinTail x (strValues rl)) (joinMade x rl):=by
  have g0:=gives_joinTail x rl hok'
  clear hQ e hok
  cases rl with
  | nil=>exact g0
  | cons p r=>cases r with
   | nil=>exact g0
   | cons q r'=>exact g0
 exact g prog w A (wants Q E) { s with heap:=h',toks:=tk } (post_join rl ⟨joinFit_length hok',fun t' k=>hQ h' k t' hk⟩)
end
theorem Ab:∀ {ys:List Str}{us:List Value},Vals (ys.map V.str) us->∃ l:List (Str × Tok),us=strValues l/\l.map (·.1)=ys
 | [],_,h=>by cases h;exact ⟨[],rfl,rfl⟩
 | y::ys,_,h=>by
  cases h with
  | cons r t =>
   obtain ⟨k,rfl⟩:=r;obtain ⟨l,rfl,e⟩:=Ab t;exact ⟨(y,k)::l,rfl,by rw [adR,e]⟩
section
variable {X:Cx}
def Lb (K:Fa)(to:TE)(ta:TA):TE:=fun σ H Q=>to σ H fun x H1=>∃ z:Str,x=.str z/\z.length<=16/\ta σ H1 fun vs H2=>∃ (a:Addr)(ys:List Str),vs=[.ref a]/\SqL K H2 a (ys.map V.str)/\(ys.reverse.map (·.length)).sum+ys.reverse.length<=1048576/\Q (.str (Txt.join z ys.reverse)) H2
theorem Gb {o e:Expr}{to:TE}{ta:TA}{apos cpos p2 p3:Pos}(hcalm:X.calm=true)(ho:PE X o to)(hgr:Gl X "reversed")(hmr:X.mg "reversed"=none)(ha:PA X [e] ta)
  (hbase:attributeBase o "join" X.env (eval o X.env)=eval o X.env:=by rfl)
  (hfew:((backTo cpos (starEach [.Call (.Name "reversed" p2) [e] [] p3] X.env)).all (fun x=>!x.1) && (backToKw cpos (keywordEach [] X.env)).all (fun x=>x.1.isSome)
   && decide (([.Call (.Name "reversed" p2) [e] [] p3]:List Expr).length+([]:List Keyword).length+(if ([]:List Keyword).isEmpty then 0 else 1)<30))=true:=by rfl)
  (hline:(apos.endLine ==cpos.line)=true:=by rfl)(hs:starEach [e] X.env=[(false,eval e X.env)]:=by rfl):
  PE X (.Call (.Attribute o "join" apos) [.Call (.Name "reversed" p2) [e] [] p3] [] cpos) (Lb X.K to ta):=by
 intro pins s σ H Q I h
 refine wpAny_Call_method_late hbase hfew hline rfl (thn (ho pins s σ H _ I h) fun v s1 ⟨x,H1,I1,r1,z,ez,hz16,q1⟩=>?_)
 subst ez
 obtain ⟨h1,h2⟩:=Oe (T:="str") I1 r1 rfl
 obtain ⟨t,rfl⟩:=r1
 refine ⟨"str",_,F.plainAttrs_str,F.slot_str_join,F.type_str_join,h1,h2,?_⟩
 refine Calls.callWith_builtin rfl ?_
 show wpAny _ _ (evalArgs _ true ((false,eval (.Call (.Name "reversed" p2) [e] [] p3) X.env)::[]) []) _ _ s1
 refine aeN (aeU (Call_ (vI I1 hgr hmr boot_reversed (ad6 (thn (ha p3 pins s1 σ H1 _ I1 q1) fun us s2 ⟨vs,H2,I2,r2,q2⟩=>?_) hs rfl))))
 obtain ⟨a,ys,e1,hq,hw,q⟩:=q2
 subst e1
 obtain ⟨u,rfl,ru⟩:=vals1 r2
 cases ru
 obtain ⟨its,rv,pl,hzz⟩:=I2.list hq
 obtain ⟨l,rfl,el⟩:=Ab rv
 refine call_reversed_list pl.isList ?_
 refine Calls.spliced_nil ?_
 have hla:a<s2.heap.objs.size:=by obtain ⟨_,e,_⟩:=id pl.isList;exact adu e
 have hlen:=rv.length
 have er:(l.reverse.map (·.1))=ys.reverse:=by rw [List.map_reverse,el]
 refine Ni (I:=s2.heap.objs.size) (l:=a) (items:=(strValues l).toArray) (ls:=l) (I.ok.hd hcalm) (adV hla) ⟨_,adq _ rfl,rfl,rfl⟩ (pl.isList.at fun o e=>adn _ e) (by rw [adH];omega) (by simp) (by rw [er];exact joinOk_of_weight hw hz16) fun h' k t' hk=>?_
 rw [er]
 have hsz:(s2.heap.push (revObj a ((((strValues l).toArray.size:Nat):Int) - 1))).objs.size=s2.heap.objs.size+1:=ad1 ..
 exact ⟨.str _,H2,I2.kept (t':=k) (fun b o e=>hk b o (adV (adu e)) (adn _ e)),⟨_,rfl⟩,q⟩
end
end L2
namespace L2
open PySem PySem.W PySem.Spec PyProof.Rows PySem.Builtin
abbrev uF (vs:List Value):Obj:={ cls:=.type "tuple",data:=.seq vs.toArray }
abbrev Zw (f0:Value)(p q:Nat):Obj:={ cls:=.type "zip",dict:=none,data:=.fields #[f0,.bool false,.bool false,.ref p,.ref q],slots:=#[] }
structure Z3 (N l1 l2 n:Nat)(f0 a b c:Value)(j0 j1 j2:Nat)(h:Heap):Prop where
 z:h.get? (N+5)=some (Zw f0 (N+3) (N+4))
 ti:h.get? (N+3)=some (uF [.ref N,.ref (N+1),.ref (N+2)])
 to:h.get? (N+4)=some (uF [a,b,c])
 r0:IsRangeIter h N (j0:Int) ((n:Int) - (j0:Int)) 1
 r1:h.IsListIter (N+1) l1 j1
 r2:h.IsListIter (N+2) l2 j2
def Fr3 (N:Nat)(h h':Heap):Prop:=∀ (b:Nat)(o:Obj),(b<N\/N+5<b)->h.get? b=some o->h'.get? b=some o
section
variable {N l1 l2 n:Nat}{f0 a b c:Value}{j0 j1 j2:Nat}{h h':Heap}
theorem Fr3.trans {h₁ h₂ h₃:Heap}(p:Fr3 N h₁ h₂)(q:Fr3 N h₂ h₃):Fr3 N h₁ h₃:=fun b o hb e=>q b o hb (p b o hb e)
theorem Fr3.of {p:Nat}(hp:N<=p/\p<=N+5)(k:Heap.SameBut p h h'):Fr3 N h h':=fun b o hb e=>k.extBut b o (by simp only [Addr];omega) e
theorem Z3.at5 {v:Value}(Z:Z3 N l1 l2 n f0 a b c j0 j1 j2 h)(k:Heap.SameBut (N+5) h h')(hz:h'.get? (N+5)=some (Zw v (N+3) (N+4))):Z3 N l1 l2 n v a b c j0 j1 j2 h' :=
 ⟨hz,k.extBut _ _ (by simp only [Addr];omega) Z.ti,k.extBut _ _ (by simp only [Addr];omega) Z.to,k.extBut _ _ (by simp only [Addr];omega) Z.r0,Z.r1.extBut k.extBut (by simp only [Addr];omega),Z.r2.extBut k.extBut (by simp only [Addr];omega)⟩
theorem Z3.at4 {a' b' c':Value}(Z:Z3 N l1 l2 n f0 a b c j0 j1 j2 h)(k:Heap.SameBut (N+4) h h')(ht:h'.get? (N+4)=some (uF [a',b',c'])):Z3 N l1 l2 n f0 a' b' c' j0 j1 j2 h' :=
 ⟨k.extBut _ _ (by simp only [Addr];omega) Z.z,k.extBut _ _ (by simp only [Addr];omega) Z.ti,ht,k.extBut _ _ (by simp only [Addr];omega) Z.r0,Z.r1.extBut k.extBut (by simp only [Addr];omega),Z.r2.extBut k.extBut (by simp only [Addr];omega)⟩
theorem Z3.at0 {m:Nat}(Z:Z3 N l1 l2 n f0 a b c j0 j1 j2 h)(k:Heap.SameBut N h h')(hr:IsRangeIter h' N (m:Int) ((n:Int) - (m:Int)) 1):Z3 N l1 l2 n f0 a b c m j1 j2 h' :=
 ⟨k.extBut _ _ (by simp only [Addr];omega) Z.z,k.extBut _ _ (by simp only [Addr];omega) Z.ti,k.extBut _ _ (by simp only [Addr];omega) Z.to,hr,Z.r1.extBut k.extBut (by simp only [Addr];omega),Z.r2.extBut k.extBut (by simp only [Addr];omega)⟩
theorem Z3.at1 {m:Nat}(Z:Z3 N l1 l2 n f0 a b c j0 j1 j2 h)(k:Heap.SameBut (N+1) h h')(hr:h'.IsListIter (N+1) l1 m):Z3 N l1 l2 n f0 a b c j0 m j2 h' :=
 ⟨k.extBut _ _ (by simp only [Addr];omega) Z.z,k.extBut _ _ (by simp only [Addr];omega) Z.ti,k.extBut _ _ (by simp only [Addr];omega) Z.to,k.extBut _ _ (by simp only [Addr];omega) Z.r0,hr,Z.r2.extBut k.extBut (by simp only [Addr];omega)⟩
theorem Z3.at2 {m:Nat}(Z:Z3 N l1 l2 n f0 a b c j0 j1 j2 h)(k:Heap.SameBut (N+2) h h')(hr:h'.IsListIter (N+2) l2 m):Z3 N l1 l2 n f0 a b c j0 j1 m h' :=
 ⟨k.extBut _ _ (by simp only [Addr];omega) Z.z,k.extBut _ _ (by simp only [Addr];omega) Z.ti,k.extBut _ _ (by simp only [Addr];omega) Z.to,k.extBut _ _ (by simp only [Addr];omega) Z.r0,Z.r1.extBut k.extBut (by simp only [Addr];omega),hr⟩
theorem Z3.up (Z:Z3 N l1 l2 n f0 a b c j0 j1 j2 h)(k:∀ (p:Nat)(o:Obj),h.get? p=some o->h'.get? p=some o):Z3 N l1 l2 n f0 a b c j0 j1 j2 h' :=
 ⟨k _ _ Z.z,k _ _ Z.ti,k _ _ Z.to,k _ _ Z.r0,Z.r1.at fun o e=>k _ o e,Z.r2.at fun o e=>k _ o e⟩
theorem Ir {l:Nat}{xs:Array Value}(hl:h.IsList l xs)(hb:l<N)(k:Fr3 N h h'):h'.IsList l xs:=hl.at fun o e=>k l o (.inl hb) e
end
section
variable {prog:Program}{w:World}{A:Around}{E:Fm}{s:Shared}
theorem Ln {it:Addr}{x left:Int}{Q:Fm}(hit:IsRangeIter s.heap it x left 1)(hl:0<left)
  (hQ:∀ h',IsRangeIter h' it (x+1) (left - 1) 1->Heap.SameBut it s.heap h'->Q (.int x s.toks) { s with heap:=h',toks:=s.toks+1 }):wpAny (model prog w) A (SmallTypes.nextOf (.ref it)) Q E s:=by
 have ty:s.TypeIs (.ref it) "range_iterator":=⟨_,hit,rfl⟩;unfold SmallTypes.nextOf;refine wpAny_bind (wpAny_callSpecial?_slot ty aeC (call_meets aeC ty F.entry_range_iterator_next (F.args_range_iterator_next_1 _) (AutoRange.range_iterator___next___range_iterator_1 it x left 1 (by omega)) ⟨hit,wpAny_pure (hQ _ ?_ ?_)⟩))
 ·exact aeh _ (aeh _ hit rfl) rfl
 ·exact (aeQ ..).trans (aeQ ..)
theorem put3 {T:Addr}{a b c x:Value}{k:Nat}{Q:Unit->Shared->Prop}(hT:s.heap.get? T=some (uF [a,b,c]))
  (q:∀ h',h'.get? T=some (uF ([a,b,c].set k x))->Heap.SameBut T s.heap h'->Q () { s with heap:=h' }):wpAny (model prog w) A (updateSeq T (·.setIfInBounds k x)) Q E s:=by
 refine wpAny_updateSeq hT rfl (q _ ?_ (aeQ ..));rw [aeh _ hT rfl];simp [Obj.mapSeq,uF]
theorem Yd {N l1 l2 n i:Nat}{a b c x y:Value}{xs ys:Array Value}{Q:Fm}(Z:Z3 N l1 l2 n .none a b c i i i s.heap)(hi:i<n)(b1:l1<N)(b2:l2<N)
  (g1:s.heap.IsList l1 xs)(g2:s.heap.IsList l2 ys)(hx:xs[i]?=some x)(hy:ys[i]?=some y)
  (q:∀ h',Z3 N l1 l2 n (rawInt s.heap.objs.size) (.int i s.toks) x y (i+1) (i+1) (i+1) h'->h'.get? s.heap.objs.size=some (uF [.int i s.toks,x,y])->Fr3 N s.heap h'->Q (.ref s.heap.objs.size) { s with heap:=h',toks:=s.toks+1 }):
  wpAny (model prog w) A (Builtin.«zip.__next__» ⟨[.ref (N+5)],[]⟩) (fun r s'=>∃ v,r=.done (.ret v)/\Q v s') E s:=by
 show wpAny _ _ (field (.ref (N+5)) 2 >>=_) _ _ _
 refine wpAny_bind (wpAny_field Z.z rfl (x:=.bool false) rfl ?_)
 show wpAny _ _ (field (.ref (N+5)) 3 >>=_) _ _ _
 refine wpAny_bind (wpAny_field Z.z rfl (x:=.ref (N+3)) rfl (wpAny_bind (wpAny_seqItems Z.ti rfl ?_)))
 show wpAny _ _ (SmallTypes.ownedTupleIsFree (.ref (N+5))>>=_) _ _ _
 unfold SmallTypes.ownedTupleIsFree
 refine wpAny_bind (wpAny_bind (wpAny_field Z.z rfl (x:=.none) rfl (wpAny_pure ?_)))
 simp only [if_true]
 refine wpAny_bind (wpAny_rule (wpAny_bind (wpAny_field Z.z rfl (x:=.ref (N+4)) rfl (wpAny_bind (wpAny_setField_rec Z.z (by simp) fun e1 z1 k1=>?_)))))
 have Z:=Z.at5 k1 z1
 have F:=Fr3.of (N:=N) ⟨by omega,by omega⟩ k1
 refine wpAny_bind ?_
 simp only [List.zipIdx_cons,List.zipIdx_nil,aeS,List.forIn_nil]
 refine wpAny_bind (wpAny_bind (wpAny_onRaise (wpAny_bind (Ln Z.r0 (by omega) fun e2 r k2=>wpAny_pure ?_))))
 have Z:=Z.at0 (m:=i+1) k2 (by rw [show ((i+1:Nat):Int)=(i:Int)+1 by omega,show (n:Int) - ((i:Int)+1)=(n:Int) - (i:Int) - 1 by omega];exact r)
 have F:=F.trans (.of ⟨by omega,by omega⟩ k2)
 refine wpAny_bind (wpAny_seqItems Z.to rfl (wpAny_bind (put3 Z.to fun e3 t k3=>wpAny_bind (wpAny_letGo (wpAny_pure ?_)))))
 have Z:=Z.at4 k3 t
 have F:=F.trans (.of ⟨by omega,by omega⟩ k3)
 refine wpAny_bind (wpAny_bind (wpAny_onRaise (wpAny_bind (wpAny_nextOf_list_item Z.r1 (Ir g1 b1 F) hx fun e4 r k4=>wpAny_pure ?_))))
 have Z:=Z.at1 k4 r
 have F:=F.trans (.of ⟨by omega,by omega⟩ k4)
 refine wpAny_bind (wpAny_seqItems Z.to rfl (wpAny_bind (put3 Z.to fun e5 t k5=>wpAny_bind (wpAny_letGo (wpAny_pure ?_)))))
 have Z:=Z.at4 k5 t
 have F:=F.trans (.of ⟨by omega,by omega⟩ k5)
 refine wpAny_bind (wpAny_bind (wpAny_onRaise (wpAny_bind (wpAny_nextOf_list_item Z.r2 (Ir g2 b2 F) hy fun e6 r k6=>wpAny_pure ?_))))
 have Z:=Z.at2 k6 r
 have F:=F.trans (.of ⟨by omega,by omega⟩ k6)
 refine wpAny_bind (wpAny_seqItems Z.to rfl (wpAny_bind (put3 Z.to fun e7 t k7=>wpAny_bind (wpAny_letGo (wpAny_pure (wpAny_pure ?_))))))
 have Z:=Z.at4 k7 t
 have F:=F.trans (.of ⟨by omega,by omega⟩ k7)
 have hsz:e7.objs.size=s.heap.objs.size:=k7.1.trans (k6.1.trans (k5.1.trans (k4.1.trans (k3.1.trans (k2.1.trans k1.1)))))
 clear r t k1 k2 k3 k4 k5 k6 k7 z1
 refine wpAny_bind (wpAny_seqItems Z.to rfl (wpAny_bind (wpAny_newTuple ?_)))
 have big:N+5<e7.objs.size:=adu Z.z
 show wpAny _ _ (SmallTypes.ownedTupleHandOut (.ref (N+5)) (.ref e7.objs.size)>>=_) _ _ _
 unfold SmallTypes.ownedTupleHandOut
 have Z:=Z.up (h':=e7.push (uF [.int i s.toks,x,y])) fun p o e=>adn _ e
 have T8:(e7.push (uF [.int i s.toks,x,y])).get? e7.objs.size=some (uF [.int i s.toks,x,y]):=adq _ rfl
 have F:=F.trans (h₃:=e7.push (uF [.int i s.toks,x,y])) fun p o _ e=>adn _ e
 refine wpAny_bind (wpAny_bind (wpAny_setField_rec Z.z (by simp) fun e9 z9 k9=>wpAny_setField_rec z9 (by simp) fun f z k=>wpAny_pure ⟨_,rfl,?_⟩))
 have Z:=(Z.at5 k9 z9).at5 k z
 have T:=k.extBut _ _ (by simp only [Addr] at big ⊢;omega) (k9.extBut _ _ (by simp only [Addr] at big ⊢;omega) T8)
 have F:=(F.trans (.of ⟨by omega,by omega⟩ k9)).trans (.of ⟨by omega,by omega⟩ k)
 rw [hsz] at Z T ⊢
 exact q f Z T F
theorem Ys {α:Type}{Q:α->Shared->Prop}(hh:A.handled=none)(hE:∀ h' e,(∀ b o,s.heap.get? b=some o->h'.get? b=some o)->(∃ o,h'.get? e=some o/\o.cls=.type "StopIteration")->E (.ref e) { s with heap:=h' }):
  wpAny (model prog w) A (newExc (.type "StopIteration") []>>=raiseNew (α:=α)) Q E s:=by
 simp only [newExc,newTuple];refine wpAny_bind (wpAny_bind (wpAny_newObj_type (wpAny_bind (m:=firstArgMember _ _) (wpAny_of_eq (a:=Value.none) (by first| rfl| (simp only [firstArgMember];rfl)) (wpAny_newObj_type ?_ (by size_fits)))) (by size_fits)))
 unfold raiseNew;refine wpAny_bind (wpAny_handled ?_);rw [hh];exact wpAny_bind (wpAny_pure (wpAny_throw (hE _ _ (fun b o e=>adn _ (adn _ e)) ⟨_,adq _ rfl,rfl⟩)))
theorem Lk {it:Addr}{x left:Int}{Q:Fm}(hh:A.handled=none)(hit:IsRangeIter s.heap it x left 1)(hl:left<=0)
  (hE:∀ h' e,(∀ b o,s.heap.get? b=some o->h'.get? b=some o)->(∃ o,h'.get? e=some o/\o.cls=.type "StopIteration")->E (.ref e) { s with heap:=h' }):wpAny (model prog w) A (SmallTypes.nextOf (.ref it)) Q E s:=by
 have ty:s.TypeIs (.ref it) "range_iterator":=⟨_,hit,rfl⟩;unfold SmallTypes.nextOf;refine wpAny_bind (wpAny_callSpecial?_slot ty aeC (wpAny_call_entry aeC ty F.entry_range_iterator_next ?_ (F.args_range_iterator_next_1 _)));show wpAny _ _ (field (.ref it) 0 >>=fun _=>_) _ _ s;refine wpAny_bind (wpAny_field hit rfl (x:=rawInt x) rfl ?_);show wpAny _ _ (field (.ref it) 1 >>=fun _=>_) _ _ s;refine wpAny_bind (wpAny_field hit rfl (x:=rawInt left) rfl ?_);show wpAny _ _ (field (.ref it) 2 >>=fun _=>_) _ _ s;refine wpAny_bind (wpAny_field hit rfl (x:=rawInt 1) rfl ?_);show wpAny _ _ (if left<=0 then _ else _) _ _ s;rw [if_pos hl];exact wpAny_bind (wpAny_rule (wpAny_bind (Ys hh hE)))
theorem ZL {N l1 l2 n i:Nat}{a b c:Value}{Q:Fin->Shared->Prop}(hh:A.handled=none)(Z:Z3 N l1 l2 n .none a b c i i i s.heap)(hi:n<=i)
  (hE:∀ h' e,Fr3 N s.heap h'->(∃ o,h'.get? e=some o/\o.cls=.type "StopIteration")->E (.ref e) { s with heap:=h' }):wpAny (model prog w) A (Builtin.«zip.__next__» ⟨[.ref (N+5)],[]⟩) Q E s:=by
 show wpAny _ _ (field (.ref (N+5)) 2 >>=_) _ _ _;refine wpAny_bind (wpAny_field Z.z rfl (x:=.bool false) rfl ?_);show wpAny _ _ (field (.ref (N+5)) 3 >>=_) _ _ _;refine wpAny_bind (wpAny_field Z.z rfl (x:=.ref (N+3)) rfl (wpAny_bind (wpAny_seqItems Z.ti rfl ?_)));show wpAny _ _ (SmallTypes.ownedTupleIsFree (.ref (N+5))>>=_) _ _ _;unfold SmallTypes.ownedTupleIsFree;refine wpAny_bind (wpAny_bind (wpAny_field Z.z rfl (x:=.none) rfl (wpAny_pure ?_)));simp only [if_true];refine wpAny_bind (wpAny_rule (wpAny_bind (wpAny_field Z.z rfl (x:=.ref (N+4)) rfl (wpAny_bind (wpAny_setField_rec Z.z (by simp) fun e1 z1 k1=>?_)))));have Z:=Z.at5 k1 z1;have F:=Fr3.of (N:=N) ⟨by omega,by omega⟩ k1;refine wpAny_bind ?_;simp only [List.zipIdx_cons,List.zipIdx_nil,aeS,List.forIn_nil];refine wpAny_bind (wpAny_bind (wpAny_onRaise (wpAny_bind (Lk hh Z.r0 (by omega) fun e2 e k2 he=>?_))));obtain ⟨o,ho,hc⟩:=he;have Z:=Z.up k2;refine wpAny_setField_rec Z.z (by simp) fun e3 z3 k3=>hE e3 e ((F.trans fun p o _ e=>k2 p o e).trans (.of ⟨by omega,by omega⟩ k3)) ⟨o,k3.extBut _ _ (fun z=>?_) ho,hc⟩;rw [z] at ho;have:=Z.z.symm.trans ho;cases this;simp at hc
theorem Yc {N l1 l2 n i:Nat}{a b c x y:Value}{xs ys:Array Value}{Q:Option Value->Shared->Prop}(Z:Z3 N l1 l2 n .none a b c i i i s.heap)(hi:i<n)(b1:l1<N)(b2:l2<N)
  (g1:s.heap.IsList l1 xs)(g2:s.heap.IsList l2 ys)(hx:xs[i]?=some x)(hy:ys[i]?=some y)
  (q:∀ h',Z3 N l1 l2 n (rawInt s.heap.objs.size) (.int i s.toks) x y (i+1) (i+1) (i+1) h'->h'.get? s.heap.objs.size=some (uF [.int i s.toks,x,y])->Fr3 N s.heap h'->Q (some (.ref s.heap.objs.size)) { s with heap:=h',toks:=s.toks+1 }):
  wpAny (model prog w) A (pyNext (.ref (N+5))) Q E s:=by
 have ty:s.TypeIs (.ref (N+5)) "zip":=⟨_,Z.z,rfl⟩
 unfold pyNext
 exact wpAny_bind (wpAny_attempt (wpAny_callSpecial?_slot ty aer (wpAny_call_entry aer ty F.entry_zip_next (Yd Z hi b1 b2 g1 g2 hx hy fun h' p1 p2 p3=>wpAny_pure (q h' p1 p2 p3)) (aeZ _))))
theorem Yb {N l1 l2 n i:Nat}{a b c:Value}{Q:Option Value->Shared->Prop}(hh:A.handled=none)(Z:Z3 N l1 l2 n .none a b c i i i s.heap)(hi:n<=i)(q:∀ h',Fr3 N s.heap h'->Q none { s with heap:=h' }):
  wpAny (model prog w) A (pyNext (.ref (N+5))) Q E s:=by
 have ty:s.TypeIs (.ref (N+5)) "zip":=⟨_,Z.z,rfl⟩;unfold pyNext;refine wpAny_bind (wpAny_attempt (wpAny_callSpecial?_slot ty aer (wpAny_call_entry aer ty F.entry_zip_next (ZL hh Z hi fun h' e k he=>?_) (aeZ _))));obtain ⟨o,ho,hc⟩:=he;exact wpAny_bind (wpAny_isInstance (T:="StopIteration") (b:=true) ⟨o,ho,hc⟩ isSubtype_stop (wpAny_pure (q _ k)))
end
abbrev z3R (h:Heap)(m:Int):Heap:=h.push { cls:=.type "range_iterator",data:=.fields #[rawInt 0,rawInt (Range.rangeSize 0 m 1),rawInt 1] }
abbrev z3A (h:Heap)(m:Int)(l1:Addr):Heap:=(z3R h m).push { cls:=.type "list_iterator",data:=.fields #[.ref l1,.int 0 0] }
abbrev z3B (h:Heap)(m:Int)(l1 l2:Addr):Heap:=(z3A h m l1).push { cls:=.type "list_iterator",data:=.fields #[.ref l2,.int 0 0] }
abbrev z3I (h:Heap)(m:Int)(l1 l2:Addr):Heap:=(z3B h m l1 l2).push (uF [.ref h.objs.size,.ref (z3R h m).objs.size,.ref (z3A h m l1).objs.size])
abbrev z3O (h:Heap)(m:Int)(l1 l2:Addr):Heap:=(z3I h m l1 l2).push (uF [.none,.none,.none])
abbrev z3Z (h:Heap)(m:Int)(l1 l2:Addr):Heap:=(z3O h m l1 l2).push (Zw .none (z3B h m l1 l2).objs.size (z3I h m l1 l2).objs.size)
theorem ZK (r l1 l2:Addr)(m:Int)(t u v:Tok)(xs ys:Array Value)(hs:Range.small 0 m 1=true):
  Meets (Builtin.«zip.__new__» ⟨[.type "zip",.ref r,.ref l1,.ref l2],[]⟩) (fun _ R s=>IsRange s.heap r 0 m 1 t u v/\s.heap.IsList l1 xs/\s.heap.IsList l2 ys/\R (.ok (.ret (.ref (z3O s.heap m l1 l2).objs.size))) { s with heap:=z3Z s.heap m l1 l2 }):=
 .of_wp fun prog w A R s h=>by
  obtain ⟨hp,g,d,tk,os⟩:=s;obtain ⟨hr,h1,h2,h⟩:=h;have sub:=sub_zip;have R0:IsRange (Shared.heap ⟨hp,g,d,tk,os⟩) r 0 m 1 t u v:=hr;have L1:Heap.IsList (Shared.heap ⟨z3R hp m,g,d,tk,os⟩) l1 xs:=h1.push _;have L2':Heap.IsList (Shared.heap ⟨z3A hp m l1,g,d,tk,os⟩) l2 ys:=(h2.push _).push _;wp_walk using wpAny_pyIter_range R0 hs,wpAny_pyIter_list L1,wpAny_pyIter_list L2';exact ⟨_,rfl,h⟩
theorem Gs (a b c:Value):checkTypeCall "zip" ⟨[a,b,c],[]⟩=pure ():=by kernel_rfl
theorem Ft (a b c:Value):checkBuiltinCall "zip.__new__" ⟨[.type "zip",a,b,c],[]⟩=pure ():=by kernel_rfl
theorem BZ (o a b c:Value):argsOk "object.__init__" ⟨[o,a,b,c],[]⟩:=by
 unfold argsOk;rw [signature?_of (id:="object.__init__") (n:=['_','_','t','i','n','i','_','_']) (o:=['t','c','e','j','b','o']) (by kernel_rfl) F.owner_object];kernel_rfl
section
variable {prog:Program}{w:World}{A:Around}{E:Fm}{s:Shared}
theorem Ye {r l1 l2:Addr}{n:Nat}{t u v:Tok}{xs ys:Array Value}{Q:Fm}(hn:(n:Int)<2 ^ 62)(hr:IsRange s.heap r 0 n 1 t u v)(h1:s.heap.IsList l1 xs)(h2:s.heap.IsList l2 ys)
  (q:∀ h',Z3 s.heap.objs.size l1 l2 n .none .none .none .none 0 0 0 h'->h'.objs.size=s.heap.objs.size+6->(∀ (b:Nat)(o:Obj),s.heap.get? b=some o->h'.get? b=some o)->Q (.ref (s.heap.objs.size+5)) { s with heap:=h' }):
  wpAny (model prog w) A (call (.type "zip") [.ref r,.ref l1,.ref l2]) Q E s:=by
 refine callType_new F.called_zip (by decide) (Gs _ _ _) (Ft _ _ _) (fun o=>BZ o _ _ _) F.entry_zip_new (ZK r l1 l2 n t u v xs ys (small_one (by omega) (by omega) (by omega) hn)) ⟨hr,h1,h2,?_⟩
 have c1:(z3R s.heap n).objs.size=s.heap.objs.size+1:=ad1 ..
 have c2:(z3A s.heap n l1).objs.size=s.heap.objs.size+2:=by rw [ad1,c1]
 have c3:(z3B s.heap n l1 l2).objs.size=s.heap.objs.size+3:=by rw [ad1,c2]
 have c4:(z3I s.heap n l1 l2).objs.size=s.heap.objs.size+4:=by rw [ad1,c3]
 have c5:(z3O s.heap n l1 l2).objs.size=s.heap.objs.size+5:=by rw [ad1,c4]
 have c6:(z3Z s.heap n l1 l2).objs.size=s.heap.objs.size+6:=by rw [ad1,c5]
 have up:∀ {h:Heap}{o':Obj}{b:Nat}{o:Obj},h.get? b=some o->(h.push o').get? b=some o:=fun e=>adn _ e
 have d0:(z3Z s.heap n l1 l2).get? s.heap.objs.size=some _:=up (up (up (up (up (adq _ rfl)))))
 have d1:(z3Z s.heap n l1 l2).get? (z3R s.heap n).objs.size=some _:=up (up (up (up (adq _ rfl))))
 have d2:(z3Z s.heap n l1 l2).get? (z3A s.heap n l1).objs.size=some _:=up (up (up (adq _ rfl)))
 have d3:(z3Z s.heap n l1 l2).get? (z3B s.heap n l1 l2).objs.size=some _:=up (up (adq _ rfl))
 have d4:(z3Z s.heap n l1 l2).get? (z3I s.heap n l1 l2).objs.size=some _:=up (adq _ rfl)
 have d5:(z3Z s.heap n l1 l2).get? (z3O s.heap n l1 l2).objs.size=some _:=adq _ rfl
 have keep:∀ (b:Nat)(o:Obj),s.heap.get? b=some o->(z3Z s.heap n l1 l2).get? b=some o:=fun b o e=>up (up (up (up (up (up e)))))
 show _/\_
 rw [c1] at d1
 rw [c2] at d2
 rw [c1,c2,c3] at d3
 rw [c4] at d4
 rw [c3,c4,c5] at d5
 rw [c5]
 have rs:Range.rangeSize 0 (n:Int) 1=(n:Int) - ((0:Nat):Int):=by rw [rangeSize_one];split <;>omega
 rw [rs] at d0
 exact ⟨⟨_,d5,rfl⟩,q _ ⟨d5,d3,d4,d0,⟨_,d1,rfl,rfl⟩,⟨_,d2,rfl,rfl⟩⟩ c6 keep⟩
end
end L2
namespace L2
open PySem PySem.Spec PyProof.Rows PySem.Builtin
section
variable {X:Cx}
def adh (K:Fa)(l1 l2:Addr)(n:Nat)(xs ys:Fs):It:=
 ⟨fun i H=>SqL K H l1 xs/\SqL K H l2 ys/\i<n/\i<xs.length/\i<ys.length,fun i H x H'=>∃ T a b,x=.ref T/\H T=none/\xs[i]?=some a/\ys[i]?=some b/\H'=upd H T (.tup [.int (i:Int),a,b]),fun i _=>n<=i⟩
def Z3At (N l1 l2 n:Nat)(i:Nat)(h:Heap):Prop:=∃ a b c,Z3 N l1 l2 n .none a b c i i i h
abbrev six (N:Nat):List Addr:=[N+5,N,N+1,N+2,N+3,N+4]
theorem Pj {N:Nat}{p:Addr}(h:p∈six N):N<=p/\p<=N+5:=by
 simp only [six,adt,adZ,or_false] at h;simp only [Addr] at h ⊢;omega
theorem PJ {N:Nat}{p:Addr}(h:N<=p/\p<=N+5):p∈six N:=by
 simp only [six,adt,adZ,or_false];simp only [Addr] at h ⊢;omega
theorem acf (N:Nat):N+5∈six N:=by simp [six]
theorem six0 (N:Nat):N∈six N:=by simp [six]
theorem six1 (N:Nat):N+1∈six N:=by simp [six]
theorem six2 (N:Nat):N+2∈six N:=by simp [six]
theorem six3 (N:Nat):N+3∈six N:=by simp [six]
theorem six4 (N:Nat):N+4∈six N:=by simp [six]
theorem Gz {P:Program}{w:World}{K:Fa}{elts:List Expr}{kk:Nat}{tpos:Pos}{N l1 l2 n:Nat}{xs ys:Fs}(b1:l1<N)(b2:l2<N):
  Turn P w K (.Tuple elts kk tpos) (adh K l1 l2 n xs ys) (six N) (N+5) (Z3At N l1 l2 n) where
 mem:=acf N;obj:=fun i h ⟨a,b',c,Z⟩ b hb=>by
  obtain ⟨o1,e1,-,d1⟩:=Z.r1;obtain ⟨o2,e2,-,d2⟩:=Z.r2;simp only [six,adt,adZ,or_false] at hb;rcases hb with rfl| rfl| rfl| rfl| rfl| rfl
  ·exact ⟨_,Z.z,fun v z=>nomatch z⟩
  ·exact ⟨_,Z.r0,fun v z=>nomatch z⟩
  ·exact ⟨o1,e1,fun v z=>by rw [d1] at z;cases z⟩
  ·exact ⟨o2,e2,fun v z=>by rw [d2] at z;cases z⟩
  ·exact ⟨_,Z.ti,fun v z=>nomatch z⟩
  ·exact ⟨_,Z.to,fun v z=>nomatch z⟩
 keep:=fun i h h' ⟨a,b,c,Z⟩ k=>⟨a,b,c,k _ (acf N) _ Z.z,k _ (six3 N) _ Z.ti,k _ (six4 N) _ Z.to,k _ (six0 N) _ Z.r0,Z.r1.at fun o e=>k _ (six1 N) o e,Z.r2.at fun o e=>k _ (six2 N) o e⟩;item:=by
  intro X hP hw hK hc i pins s σ H E I hf ⟨a,b,c,Z⟩ hg;subst hP hw hK;obtain ⟨q1,q2,hn,hi1,hi2⟩:=hg;obtain ⟨its1,rv1,pl1,-⟩:=I.list q1;obtain ⟨its2,rv2,pl2,-⟩:=I.list q2;obtain ⟨u1,hu1,ru1⟩:=rv1.get (ada hi1);obtain ⟨u2,hu2,ru2⟩:=rv2.get (ada hi2);have big:N+5<s.heap.objs.size:=adu Z.z;refine Yc Z hn b1 b2 pl1.isList pl2.isList (x:=u1) (y:=u2) (by simpa using hu1) (by simpa using hu2) fun h' Z' T' F'=>⟨_,rfl,wpAny_letOwnedTupleGo_zip (TI:=N+3) (TO:=N+4) (s:={ s with heap:=h',toks:=s.toks+1 }) Z'.z fun h'' hz hs=>?_⟩;have out:∀ b,b ∉ six N->b<N\/N+5<b:=fun b hb=>by
   by_cases h:N<=b/\b<=N+5
   ·exact absurd (PJ h) hb
   ·simp only [Addr] at h ⊢;omega
  have I1:Inv X pins σ H { s with heap:=h'',toks:=s.toks+1 }:=I.uG (t':=s.toks+1) (ch:=six N) (fun b o hb e=>hs.extBut b o (fun x=>hb (x ▸ acf N)) (F' b o (out b hb) e)) hf;obtain ⟨F0,F1,F2,F3,F4,F5⟩:=I.KR (H':=H) (ado _) (I.hok.fresh (ado _));have hT:PyProof.Rows.IsTup h'' s.heap.objs.size #[.int (i:Int) s.toks,u1,u2]:=⟨_,hs.extBut _ _ (by simp only [Addr] at big ⊢;omega) T',rfl,_,rfl⟩;have I2:Inv X pins σ (upd H s.heap.objs.size (.tup [.int (i:Int),xs[i],ys[i]])) { s with heap:=h'',toks:=s.toks+1 }:=I1.adopt F0 F1 I.sz F4 F5 (show jV X.prog X.w _ h'' _ (.tup [.int (i:Int),xs[i],ys[i]]) from ⟨by rw [sizeLine_eq];simp,[.int (i:Int) s.toks,u1,u2],.cons ⟨_,rfl⟩ (.cons ru1 (.cons ru2 .nil)),hT⟩);refine ⟨.ref s.heap.objs.size,_,I2,rfl,⟨_,_,_,rfl,F0,ada hi1,ada hi2,rfl⟩,⟨_,_,_,Z'.at5 hs hz⟩,fun b hb=>?_⟩;rw [aX]
  ·exact (hf b hb).1
  ·have:=Pj hb;simp only [Addr] at this big ⊢;omega
 done:=by
  intro X hP hw hK hc i pins s σ H E I hf ⟨a,b,c,Z⟩ hg;subst hP hw hK;refine Yb (I.ok.hd hc) Z hg fun h' F'=>⟨rfl,I.uG (t':=s.toks) (ch:=six N) (fun b o hb e=>F' b o ?_ e) hf⟩;by_cases h:N<=b/\b<=N+5
  ·exact absurd (PJ h) hb
  ·simp only [Addr] at h ⊢;omega
 self:=fun _ _ _ _ _ ⟨_,_,_,Z⟩ h=>wpAny_pyIter_zip (TI:=N+3) (TO:=N+4) Z.z h
theorem NT:tY X (.type "range") (fun xs H Q=>∃ n:Int,xs=[.int n]/\∀ l,H l=none->Q (.ref l) (upd H l (.rng 0 n))):=by
 intro pins s σ H xs us Q I r h;obtain ⟨n,rfl,q⟩:=h;obtain ⟨u,rfl,t,rfl⟩:=vals1 r;refine call_range_1 ⟨.ref s.heap.objs.size,_,I.laid (t':=s.toks+1+1) (o:=.rng 0 n) (fun b o e=>adn _ e) (ado _) ?_,rfl,q _ (I.hok.fresh (ado _))⟩;exact ⟨_,_,_,adq _ rfl⟩
def acA (K:Fa)(ta:TA):TI:=fun σ H R=>ta σ H fun vs H1=>∃ r l1 l2 n xs ys,vs=[.ref r,.ref l1,.ref l2]/\H1 r=some (.rng 0 ((n:Nat):Int))/\n<1000000/\SqL K H1 l1 xs/\SqL K H1 l2 ys/\R (adh K l1 l2 n xs ys) H1
theorem YH {elts:List Expr}{kk:Nat}{tpos:Pos}{a b c:Expr}{ta:TA}{p pos:Pos}(hg:Gl X "zip")(hm:X.mg "zip"=none)(ha:PA X [a,b,c] ta)
  (hs:starEach [a,b,c] X.env=(false,eval a X.env)::starEach [b,c] X.env:=by rfl)(hs2:(backTo pos (starEach [b,c] X.env)).any (·.1)=false:=by rfl):
  PI X (.Tuple elts kk tpos) (.Call (.Name "zip" p) [a,b,c] [] pos) (acA X.K ta):=by
 intro pins s σ H R I h
 refine Call_ (vI I hg hm boot_zip (ad6 (thn (ha pos pins s σ H _ I h) fun us s1 ⟨vs,H1,I1,r1,q1⟩=>?_) hs hs2))
 obtain ⟨r,l1,l2,n,xs,ys,rfl,hr,hn,q1,q2,q⟩:=q1
 cases r1 with
 | cons v0 r1=>cases r1 with
  | cons v1 r1=>cases r1 with
   | cons v2 r1 =>
    cases r1
    cases v0
    cases v1
    cases v2
    obtain ⟨t,u,v,er⟩:=I1.hok r _ hr
    obtain ⟨its1,rv1,pl1,-⟩:=I1.list q1
    obtain ⟨its2,rv2,pl2,-⟩:=I1.list q2
    refine Ye (n:=n) (by omega) er pl1.isList pl2.isList fun h' Z hz hk=>?_
    have b1:l1<s1.heap.objs.size:=by obtain ⟨o,e,-⟩:=pl1.isList;exact adu e
    have b2:l2<s1.heap.objs.size:=by obtain ⟨o,e,-⟩:=pl2.isList;exact adu e
    refine wpAny_pyIter_zip (TI:=s1.heap.objs.size+3) (TO:=s1.heap.objs.size+4) Z.z ⟨_,six s1.heap.objs.size,_,_,H1,rfl,I1.kept (t':=s1.toks) hk,Gz (n:=n) (xs:=xs) (ys:=ys) b1 b2,⟨_,_,_,Z⟩,fun b hb=>?_,q⟩
    have hb':=(Pj hb).1
    exact I1.KR hb' (I1.hok.fresh hb')
end
end L2
namespace L2
open PySem PySem.Spec PyProof.Rows
section
variable {X:Cx}{e:Expr}{es:List Expr}{te:TE}{t:TA}
def Pu:Expr->Bool
 | .Starred ..=>false
 | _=>true
theorem Fy (e:Expr)(h:Pu e=true)(es:List Expr)(env:Env):starEach (e::es) env=(false,eval e env)::starEach es env:=by
 cases e <;>first| rfl| cases h
theorem acj (ha:PE X e te)(hr:PA X es t)(h:Pu e=true:=by rfl):PA X (e::es) (Z6 te t):=bG ha hr (Fy e h es X.env)
end
structure ClF (K:Fa)(C f:Addr)(m:Str):Prop where
 ga:PySem.W.specialIn K (.ref C) "__getattribute__"=some (some (.builtin "type.__getattribute__"))
 rd:readsIn K C (.type "type")=true
 fc:findCls K (.ref C) (.type "type") m=some (.val (.ref f))
 kp:keepIn K (.ref f)=true
section
variable {X:Cx}{CX:CXT}{k:Nat}{f C:Addr}{fd:Ff}{ps:List Str}{sp:Sp}{dvs:Fs}{ds:List Value}{E:XK}{x m:Str}{p pos apos:Pos}{e:Expr}{es:List Expr}{t:TA}
theorem YM {pl:Sem Bool}(hg:Gl X x)(hmg:X.mg x=some (.ref C))(hc:ClF X.K C f m)(F:zT X.prog X.w X.K X.mg X.base CX k f fd ps sp)(hr:qu k X.A)(hb:Binds X.K fd ps ds)(hd:Vals dvs ds)(hx:Passes CX X E)(ha:PA X (e::es) t)
  (hdb:(x ==("__debug__":Str))=false:=by decide)(hst:starEach (e::es) X.env=(false,eval e X.env)::starEach es X.env:=by rfl)(hpl:(backTo pos (starEach es X.env)).any (·.1)=false:=by rfl)
  (ht:eval (.Call (.Attribute (.Name x p) m apos) (e::es) [] pos) X.env=(do
   let ov <- eval (.Name x p) X.env
   standAt apos.atName
   let (f,first)<- holding [ov] (getMethod ov m pl)
   callWith pos f first (backTo pos (starEach (e::es) X.env)) (backToKw pos (keywordEach [] X.env))):=by rfl):
  PE X (.Call (.Attribute (.Name x p) m apos) (e::es) [] pos) (Z8 sp dvs E t):=by
 intro pins s σ H Q I h
 refine aeK (pl:=pl) (lE I hg hmg ?_ hdb) ht
 refine PySem.W.method_cls I.kIn hc.ga (PySem.W.cls_value I.kIn hc.rd hc.fc rfl ?_)
 refine aem (first:=[]) (h₀:=X.base) I.ok.mod.kin hc.kp (thn (ha pos pins _ σ H _ (I.tok _) h) fun us s2 ⟨vs,H2,I2,r,q2⟩=>⟨I2.kIn,?_⟩) hst hpl
 exact Az (us:=us) (vs:=vs) F hr hb hd hx I2 r q2
end
section
structure DmZ (K:Fa)(C:Addr)(x qual:Str)(st:Stmt)(ps:List Str)(a:Addr)(fd:Ff):Prop where
 F:∃ t:Tok,X4 K x qual st [.int 0 t] a fd/\Binds K fd ps [.int 0 t]
 b0:Binds K fd ps []
 m:Meth K C x a
end
end L2
namespace L2
open PySem PySem.W PySem.Spec PyProof.Rows
structure KD (P:Program)(w:World)(K:Fa)(a:Addr)(kvs:List (Key × V)):Prop where
 ns:(a ==sysModules)=false
 ex:∃ (o:Obj)(vs:List (Key × Value)),K.lookup a=some o/\KV kvs vs/\o.IsDictOf (jJ P w) vs
section
variable {X:Cx}{pins:Fk}{σ:St}{H:Hp}{s:Shared}{a:Addr}{kvs:List (Key × V)}
theorem KD.at_ (I:Inv X pins σ H s)(d:KD X.prog X.w X.K a kvs):∃ vs,KV kvs vs/\s.heap.DictOf (jJ X.prog X.w) a vs:=by
 obtain ⟨o,vs,e,r,z⟩:=d.ex;exact ⟨vs,r,Heap.dictOf_iff.mpr ⟨o,I.kIn a o e,z⟩⟩
end
def Z4 (a:Addr)(kvs:List (Key × V))(ty tx:TE):TE:=fun σ H Q=>ty σ H fun y H1=>tx σ H1 fun z H2=>∃ k,y=kV k/\Q ((yP kvs k).getD z) H2
def ab8 (a:Addr)(kvs:List (Key × V))(ty:TE):TE:=fun σ H Q=>ty σ H fun y H1=>∃ k v,y=kV k/\yP kvs k=some v/\Q v H1
section
variable {X:Cx}{x:Str}{i e f:Expr}{p pos apos cpos:Pos}{ty tx:TE}{a:Addr}{kvs:List (Key × V)}
theorem Ek (hg:Gl X x)(hm:X.mg x=some (.ref a))(d:KD X.prog X.w X.K a kvs)(he:PE X e ty)(hf:PE X f tx)(m:M2 X (.Name x p) "get" apos e f cpos)(hdb:(x ==("__debug__":Str))=false:=by decide):
  PE X (.Call (.Attribute (.Name x p) "get" apos) [e,f] [] cpos) (Z4 a kvs ty tx):=by
 intro pins s σ H Q I h;refine wpAny_Call_method m.base m.few m.line PySem.F.plainAttrs_dict PySem.F.slot_dict_get PySem.F.type_dict_get (lE I hg hm ?_ hdb);obtain ⟨vs,r,dd⟩:=d.at_ I;refine ⟨dd.typeIs,fun b q=>?_,?_⟩
 ·cases q;obtain ⟨ob,_,_,h1,h2,_⟩:=dd;exact ⟨ob,h1,h2.2.1⟩
 rw [m.trees];refine Calls.callWith_builtin rfl (aeN (aeU (thn (he pins s σ H _ I h) fun iv s2 ⟨y,H2,I2,ry,q2⟩=>
  aeU (thn (hf pins s2 σ H2 _ I2 q2) fun fv s3 ⟨z,H3,I3,rz,k,ey,q3⟩=>Calls.spliced_nil ?_))))
 subst ey;obtain ⟨vs,r,dd⟩:=d.at_ I3;refine call_meetsIn PySem.F.slot_dict_get dd.typeIs PySem.F.entry_dict_get (PySem.F.args_dict_get_3 _ _ _) (meets_dict_get_default (jJ X.prog X.w) a (aa5 ry) d.ns fv) ⟨_,dd.mapOf,_,H3,I3.tok _,?_,q3⟩;exact (r.val k).getD rz
theorem YJ (hg:Gl X x)(hm:X.mg x=some (.ref a))(d:KD X.prog X.w X.K a kvs)(hi:PE X i ty)(hs:adg i)(hdb:(x ==("__debug__":Str))=false:=by decide):PE X (.Subscript (.Name x p) i pos) (ab8 a kvs ty):=by
 intro pins s σ H Q I h;refine Yr PySem.F.slot_dict_getitem.lookup hs (lE I hg hm (thn (hi pins s σ H _ I h) fun iv s2 ⟨y,H2,I2,ry,k,v,ey,l,q2⟩=>?_) hdb);subst ey;obtain ⟨vs,r,dd⟩:=d.at_ I2;obtain ⟨w',hw,rw'⟩:=Fo.some_of (v:=v) (o:=valueAt vs k) (by rw [<- l];exact r.val k);exact ⟨dd.typeIs,wpAny_getItem_of (aa5 ry) dd.mapOf hw ⟨v,H2,I2.tok _,rw',q2⟩⟩
end
def Z7 (G:Addr->Sp->Prop)(E:XK)(tf:TE)(t:TA):TE:=fun σ H Q=>tf σ H fun x H1=>∃ f sp,x=.ref f/\G f sp/\t σ H1 fun vs H2=>sp vs H2 Q E
structure FnV (P:Program)(w:World)(K:Fa)(mg:Fh)(base:Heap)(CX:CXT)(k:Nat)(ps:List Str)(f:Addr)(sp:Sp):Prop where
 ex:∃ fd,zT P w K mg base CX k f fd ps sp/\Binds K fd ps []
 kp:keepIn K (.ref f)=true
theorem Lq {X:Cx}{CX:CXT}{k:Nat}{ps:List Str}{G:Addr->Sp->Prop}{E:XK}{o i:Expr}{sp pos:Pos}{e:Expr}{es:List Expr}{tf:TE}{t:TA}(hf:PE X (.Subscript o i sp) tf)(F:∀ f p,G f p->FnV X.prog X.w X.K X.mg X.base CX k ps f p)(hr:qu k X.A)(hx:Passes CX X E)
  (ha:PA X (e::es) t)(he:starEach (e::es) X.env=(false,eval e X.env)::starEach es X.env:=by rfl)(hpl:(backTo pos (starEach es X.env)).any (·.1)=false:=by rfl):
  PE X (.Call (.Subscript o i sp) (e::es) [] pos) (Z7 G E tf t):=by
 intro pins s σ H Q I h
 have e0:eval (.Call (.Subscript o i sp) (e::es) [] pos) X.env=(do callWith pos (<- eval (.Subscript o i sp) X.env) [] (backTo pos (starEach (e::es) X.env)) (backToKw pos (keywordEach [] X.env))):=rfl
 rw [e0]
 refine wpAny_bind (thn (hf pins s σ H _ I h) fun u s1 ⟨x,H1,I1,rx,f,p,ex,g,q⟩=>?_)
 subst ex
 obtain rfl:u=Value.ref f:=rx
 obtain ⟨⟨fd,F1,hb⟩,hk⟩:=F f p g
 refine aem (h₀:=X.base) I.ok.mod.kin hk (thn (ha pos pins s1 σ H1 _ I1 q) fun us s2 ⟨vs,H2,I2,r,q2⟩=>⟨I2.kIn,?_⟩) he hpl
 exact Az F1 hr hb .nil hx I2 r (by rw [List.append_nil];exact q2)
end L2
namespace L2
open PySem PySem.W PySem.Spec PyProof.Rows PySem.Builtin
structure ZS (N l1:Nat)(x:Str)(t:Tok)(f0 a b:Value)(j0 j1:Nat)(h:Heap):Prop where
 z:h.get? (N+4)=some (Zw f0 (N+2) (N+3))
 ti:h.get? (N+2)=some (uF [.ref N,.ref (N+1)])
 to:h.get? (N+3)=some (uF [a,b])
 r0:h.IsStrIter N "str_ascii_iterator" x t j0
 r1:h.IsListIter (N+1) l1 j1
def FrS (N:Nat)(h h':Heap):Prop:=∀ (b:Nat)(o:Obj),(b<N\/N+4<b)->h.get? b=some o->h'.get? b=some o
theorem wB {h h':Heap}{it p:Addr}{x:Str}{t:Tok}{i:Nat}(r:h.IsStrIter it "str_ascii_iterator" x t i)(k:Heap.ExtBut p h h')(hn:it≠p):h'.IsStrIter it "str_ascii_iterator" x t i:=
 let ⟨o,e,c⟩:=r;⟨o,k it o hn e,c⟩
section
variable {N l1:Nat}{x:Str}{t:Tok}{f0 a b:Value}{j0 j1:Nat}{h h':Heap}
theorem FrS.trans {h₁ h₂ h₃:Heap}(p:FrS N h₁ h₂)(q:FrS N h₂ h₃):FrS N h₁ h₃:=fun b o hb e=>q b o hb (p b o hb e)
theorem FrS.of {p:Nat}(hp:N<=p/\p<=N+4)(k:Heap.ExtBut p h h'):FrS N h h':=fun b o hb e=>k b o (by simp only [Addr];omega) e
theorem ZS.at4 {v:Value}(Z:ZS N l1 x t f0 a b j0 j1 h)(k:Heap.ExtBut (N+4) h h')(hz:h'.get? (N+4)=some (Zw v (N+2) (N+3))):ZS N l1 x t v a b j0 j1 h' :=
 ⟨hz,k _ _ (by simp only [Addr];omega) Z.ti,k _ _ (by simp only [Addr];omega) Z.to,wB Z.r0 k (by simp only [Addr];omega),Z.r1.extBut k (by simp only [Addr];omega)⟩
theorem ZS.at3 {a' b':Value}(Z:ZS N l1 x t f0 a b j0 j1 h)(k:Heap.ExtBut (N+3) h h')(ht:h'.get? (N+3)=some (uF [a',b'])):ZS N l1 x t f0 a' b' j0 j1 h' :=
 ⟨k _ _ (by simp only [Addr];omega) Z.z,k _ _ (by simp only [Addr];omega) Z.ti,ht,wB Z.r0 k (by simp only [Addr];omega),Z.r1.extBut k (by simp only [Addr];omega)⟩
theorem ZS.at0 {m:Nat}(Z:ZS N l1 x t f0 a b j0 j1 h)(k:Heap.ExtBut N h h')(hr:h'.IsStrIter N "str_ascii_iterator" x t m):ZS N l1 x t f0 a b m j1 h' :=
 ⟨k _ _ (by simp only [Addr];omega) Z.z,k _ _ (by simp only [Addr];omega) Z.ti,k _ _ (by simp only [Addr];omega) Z.to,hr,Z.r1.extBut k (by simp only [Addr];omega)⟩
theorem ZS.at1 {m:Nat}(Z:ZS N l1 x t f0 a b j0 j1 h)(k:Heap.ExtBut (N+1) h h')(hr:h'.IsListIter (N+1) l1 m):ZS N l1 x t f0 a b j0 m h' :=
 ⟨k _ _ (by simp only [Addr];omega) Z.z,k _ _ (by simp only [Addr];omega) Z.ti,k _ _ (by simp only [Addr];omega) Z.to,wB Z.r0 k (by simp only [Addr];omega),hr⟩
theorem ZS.up (Z:ZS N l1 x t f0 a b j0 j1 h)(k:∀ (p:Nat)(o:Obj),h.get? p=some o->h'.get? p=some o):ZS N l1 x t f0 a b j0 j1 h' :=
 ⟨k _ _ Z.z,k _ _ Z.ti,k _ _ Z.to,(let ⟨o,e,c⟩:=Z.r0;⟨o,k _ o e,c⟩),Z.r1.at fun o e=>k _ o e⟩
theorem M8 {l:Nat}{xs:Array Value}(hl:h.IsList l xs)(hb:l<N)(k:FrS N h h'):h'.IsList l xs:=hl.at fun o e=>k l o (.inl hb) e
end
section
variable {prog:Program}{w:World}{A:Around}{E:Fm}{s:Shared}
theorem put2 {T:Addr}{a b x:Value}{k:Nat}{Q:Unit->Shared->Prop}(hT:s.heap.get? T=some (uF [a,b]))
  (q:∀ h',h'.get? T=some (uF ([a,b].set k x))->Heap.SameBut T s.heap h'->Q () { s with heap:=h' }):wpAny (model prog w) A (updateSeq T (·.setIfInBounds k x)) Q E s:=by
 refine wpAny_updateSeq hT rfl (q _ ?_ (aeQ ..));rw [aeh _ hT rfl];simp [Obj.mapSeq,uF]
theorem X7 {N l1 i c:Nat}{x:Str}{t:Tok}{a b y:Value}{ys:Array Value}{Q:Fm}(Z:ZS N l1 x t .none a b i i s.heap)(b1:l1<N)
  (hx:x.cps[i]?=some c)(g1:s.heap.IsList l1 ys)(hy:ys[i]?=some y)
  (q:∀ h',ZS N l1 x t (rawInt s.heap.objs.size) (.str ⟨#[c]⟩ s.toks) y (i+1) (i+1) h'->h'.get? s.heap.objs.size=some (uF [.str ⟨#[c]⟩ s.toks,y])->FrS N s.heap h'->Q (.ref s.heap.objs.size) { s with heap:=h',toks:=s.toks+1 }):
  wpAny (model prog w) A (Builtin.«zip.__next__» ⟨[.ref (N+4)],[]⟩) (fun r s'=>∃ v,r=.done (.ret v)/\Q v s') E s:=by
 show wpAny _ _ (field (.ref (N+4)) 2 >>=_) _ _ _
 refine wpAny_bind (wpAny_field Z.z rfl (x:=.bool false) rfl ?_)
 show wpAny _ _ (field (.ref (N+4)) 3 >>=_) _ _ _
 refine wpAny_bind (wpAny_field Z.z rfl (x:=.ref (N+2)) rfl (wpAny_bind (wpAny_seqItems Z.ti rfl ?_)))
 show wpAny _ _ (SmallTypes.ownedTupleIsFree (.ref (N+4))>>=_) _ _ _
 unfold SmallTypes.ownedTupleIsFree
 refine wpAny_bind (wpAny_bind (wpAny_field Z.z rfl (x:=.none) rfl (wpAny_pure ?_)))
 simp only [if_true]
 refine wpAny_bind (wpAny_rule (wpAny_bind (wpAny_field Z.z rfl (x:=.ref (N+3)) rfl (wpAny_bind (wpAny_setField_rec Z.z (by simp) fun e1 z1 k1=>?_)))))
 have Z:=Z.at4 k1.extBut z1
 have F:=FrS.of (N:=N) ⟨by omega,by omega⟩ k1.extBut
 refine wpAny_bind ?_
 simp only [List.zipIdx_cons,List.zipIdx_nil,aeS,List.forIn_nil]
 refine wpAny_bind (wpAny_bind (wpAny_onRaise (wpAny_bind (wpAny_nextOf_ascii_item Z.r0 hx fun e2 r k2=>wpAny_pure ?_))))
 have Z:=Z.at0 k2.extBut r
 have F:=F.trans (.of ⟨by omega,by omega⟩ k2.extBut)
 refine wpAny_bind (wpAny_seqItems Z.to rfl (wpAny_bind (put2 Z.to fun e3 t k3=>wpAny_bind (wpAny_letGo (wpAny_pure ?_)))))
 have Z:=Z.at3 k3.extBut t
 have F:=F.trans (.of ⟨by omega,by omega⟩ k3.extBut)
 refine wpAny_bind (wpAny_bind (wpAny_onRaise (wpAny_bind (wpAny_nextOf_list_item Z.r1 (M8 g1 b1 F) hy fun e4 r k4=>wpAny_pure ?_))))
 have Z:=Z.at1 k4.extBut r
 have F:=F.trans (.of ⟨by omega,by omega⟩ k4.extBut)
 refine wpAny_bind (wpAny_seqItems Z.to rfl (wpAny_bind (put2 Z.to fun e5 t k5=>wpAny_bind (wpAny_letGo (wpAny_pure (wpAny_pure ?_))))))
 have Z:=Z.at3 k5.extBut t
 have F:=F.trans (.of ⟨by omega,by omega⟩ k5.extBut)
 have hsz:e5.objs.size=s.heap.objs.size:=k5.1.trans (k4.1.trans (k3.1.trans (k2.1.trans k1.1)))
 clear r t k1 k2 k3 k4 k5 z1
 refine wpAny_bind (wpAny_seqItems Z.to rfl (wpAny_bind (wpAny_newTuple ?_)))
 have big:N+4<e5.objs.size:=adu Z.z
 show wpAny _ _ (SmallTypes.ownedTupleHandOut (.ref (N+4)) (.ref e5.objs.size)>>=_) _ _ _
 unfold SmallTypes.ownedTupleHandOut
 have Z:=Z.up (h':=e5.push (uF [.str ⟨#[c]⟩ s.toks,y])) fun p o e=>adn _ e
 have T8:(e5.push (uF [.str ⟨#[c]⟩ s.toks,y])).get? e5.objs.size=some (uF [.str ⟨#[c]⟩ s.toks,y]):=adq _ rfl
 have F:=F.trans (h₃:=e5.push (uF [.str ⟨#[c]⟩ s.toks,y])) fun p o _ e=>adn _ e
 refine wpAny_bind (wpAny_bind (wpAny_setField_rec Z.z (by simp) fun e9 z9 k9=>wpAny_setField_rec z9 (by simp) fun f z k=>wpAny_pure ⟨_,rfl,?_⟩))
 have Z:=(Z.at4 k9.extBut z9).at4 k.extBut z
 have T:=k.extBut _ _ (by simp only [Addr] at big ⊢;omega) (k9.extBut _ _ (by simp only [Addr] at big ⊢;omega) T8)
 have F:=(F.trans (.of ⟨by omega,by omega⟩ k9.extBut)).trans (.of ⟨by omega,by omega⟩ k.extBut)
 rw [hsz] at Z T ⊢
 exact q f Z T F
theorem ZJ {N l1 i:Nat}{x:Str}{t:Tok}{a b:Value}{Q:Fin->Shared->Prop}(hh:A.handled=none)(Z:ZS N l1 x t .none a b i i s.heap)(hx:x.cps[i]?=none)
  (hE:∀ h' e,FrS N s.heap h'->(∃ o,h'.get? e=some o/\o.cls=.type "StopIteration")->E (.ref e) { s with heap:=h' }):wpAny (model prog w) A (Builtin.«zip.__next__» ⟨[.ref (N+4)],[]⟩) Q E s:=by
 show wpAny _ _ (field (.ref (N+4)) 2 >>=_) _ _ _;refine wpAny_bind (wpAny_field Z.z rfl (x:=.bool false) rfl ?_);show wpAny _ _ (field (.ref (N+4)) 3 >>=_) _ _ _;refine wpAny_bind (wpAny_field Z.z rfl (x:=.ref (N+2)) rfl (wpAny_bind (wpAny_seqItems Z.ti rfl ?_)));show wpAny _ _ (SmallTypes.ownedTupleIsFree (.ref (N+4))>>=_) _ _ _;unfold SmallTypes.ownedTupleIsFree;refine wpAny_bind (wpAny_bind (wpAny_field Z.z rfl (x:=.none) rfl (wpAny_pure ?_)));simp only [if_true];refine wpAny_bind (wpAny_rule (wpAny_bind (wpAny_field Z.z rfl (x:=.ref (N+3)) rfl (wpAny_bind (wpAny_setField_rec Z.z (by simp) fun e1 z1 k1=>?_)))));have Z:=Z.at4 k1.extBut z1;have F:=FrS.of (N:=N) ⟨by omega,by omega⟩ k1.extBut;refine wpAny_bind ?_;simp only [List.zipIdx_cons,List.zipIdx_nil,aeS,List.forIn_nil];refine wpAny_bind (wpAny_bind (wpAny_onRaise (wpAny_bind (wpAny_nextOf_ascii_end hh Z.r0 hx fun e2 e k2 he=>?_))));obtain ⟨o,ho,hc⟩:=he;have Zz:=k2 _ _ (by simp only [Addr];omega) Z.z;refine wpAny_setField_rec Zz (by simp) fun e3 z3 k3=>hE e3 e ((F.trans (.of ⟨by omega,by omega⟩ k2)).trans (.of ⟨by omega,by omega⟩ k3.extBut)) ⟨o,k3.extBut _ _ (fun z=>?_) ho,hc⟩;rw [z] at ho;have:=Zz.symm.trans ho;cases this;simp at hc
theorem X6 {N l1 i c:Nat}{x:Str}{t:Tok}{a b y:Value}{ys:Array Value}{Q:Option Value->Shared->Prop}(Z:ZS N l1 x t .none a b i i s.heap)(b1:l1<N)
  (hx:x.cps[i]?=some c)(g1:s.heap.IsList l1 ys)(hy:ys[i]?=some y)
  (q:∀ h',ZS N l1 x t (rawInt s.heap.objs.size) (.str ⟨#[c]⟩ s.toks) y (i+1) (i+1) h'->h'.get? s.heap.objs.size=some (uF [.str ⟨#[c]⟩ s.toks,y])->FrS N s.heap h'->Q (some (.ref s.heap.objs.size)) { s with heap:=h',toks:=s.toks+1 }):
  wpAny (model prog w) A (pyNext (.ref (N+4))) Q E s:=by
 have ty:s.TypeIs (.ref (N+4)) "zip":=⟨_,Z.z,rfl⟩
 unfold pyNext
 exact wpAny_bind (wpAny_attempt (wpAny_callSpecial?_slot ty aer (wpAny_call_entry aer ty F.entry_zip_next (X7 Z b1 hx g1 hy fun h' p1 p2 p3=>wpAny_pure (q h' p1 p2 p3)) (aeZ _))))
theorem X5 {N l1 i:Nat}{x:Str}{t:Tok}{a b:Value}{Q:Option Value->Shared->Prop}(hh:A.handled=none)(Z:ZS N l1 x t .none a b i i s.heap)(hx:x.cps[i]?=none)(q:∀ h',FrS N s.heap h'->Q none { s with heap:=h' }):
  wpAny (model prog w) A (pyNext (.ref (N+4))) Q E s:=by
 have ty:s.TypeIs (.ref (N+4)) "zip":=⟨_,Z.z,rfl⟩;unfold pyNext;refine wpAny_bind (wpAny_attempt (wpAny_callSpecial?_slot ty aer (wpAny_call_entry aer ty F.entry_zip_next (ZJ hh Z hx fun h' e k he=>?_) (aeZ _))));obtain ⟨o,ho,hc⟩:=he;exact wpAny_bind (wpAny_isInstance (T:="StopIteration") (b:=true) ⟨o,ho,hc⟩ isSubtype_stop (wpAny_pure (q _ k)))
end
abbrev zsS (h:Heap)(x:Str)(t:Tok):Heap:=h.push { cls:=.type "str_ascii_iterator",data:=.fields #[.str x t,.int 0 0] }
abbrev zsA (h:Heap)(x:Str)(t:Tok)(l1:Addr):Heap:=(zsS h x t).push { cls:=.type "list_iterator",data:=.fields #[.ref l1,.int 0 0] }
abbrev zsI (h:Heap)(x:Str)(t:Tok)(l1:Addr):Heap:=(zsA h x t l1).push (uF [.ref h.objs.size,.ref (zsS h x t).objs.size])
abbrev zsO (h:Heap)(x:Str)(t:Tok)(l1:Addr):Heap:=(zsI h x t l1).push (uF [.none,.none])
abbrev zsZ (h:Heap)(x:Str)(t:Tok)(l1:Addr):Heap:=(zsO h x t l1).push (Zw .none (zsA h x t l1).objs.size (zsI h x t l1).objs.size)
theorem ZG (x:Str)(t:Tok)(l1:Addr)(ys:Array Value)(ha:x.cps.all (·<128)=true):
  Meets (Builtin.«zip.__new__» ⟨[.type "zip",.str x t,.ref l1],[]⟩) (fun _ R s=>s.heap.IsList l1 ys/\R (.ok (.ret (.ref (zsO s.heap x t l1).objs.size))) { s with heap:=zsZ s.heap x t l1 }):=
 .of_wp fun prog w A R s h=>by
  obtain ⟨hp,g,d,tk,os⟩:=s;obtain ⟨h1,h⟩:=h;have sub:=sub_zip;have L1:Heap.IsList (Shared.heap ⟨zsS hp x t,g,d,tk,os⟩) l1 ys:=h1.push _;wp_walk using wpAny_pyIter_ascii ha,wpAny_pyIter_list L1;exact ⟨_,rfl,h⟩
section
variable {prog:Program}{w:World}{A:Around}{E:Fm}{s:Shared}
theorem X8 {l1:Addr}{x:Str}{t:Tok}{ys:Array Value}{Q:Fm}(ha:x.cps.all (·<128)=true)(h1:s.heap.IsList l1 ys)
  (q:∀ h',ZS s.heap.objs.size l1 x t .none .none .none 0 0 h'->h'.objs.size=s.heap.objs.size+5->(∀ (b:Nat)(o:Obj),s.heap.get? b=some o->h'.get? b=some o)->Q (.ref (s.heap.objs.size+4)) { s with heap:=h' }):
  wpAny (model prog w) A (call (.type "zip") [.str x t,.ref l1]) Q E s:=by
 refine callType_new F.called_zip (by decide) (F.typeCall_zip_2 _ _) (F.newCall_zip_2 _ _) (fun o=>F.args_object_init_3 o _ _) F.entry_zip_new (ZG x t l1 ys ha) ⟨h1,?_⟩
 have c1:(zsS s.heap x t).objs.size=s.heap.objs.size+1:=ad1 ..
 have c2:(zsA s.heap x t l1).objs.size=s.heap.objs.size+2:=by rw [ad1,c1]
 have c3:(zsI s.heap x t l1).objs.size=s.heap.objs.size+3:=by rw [ad1,c2]
 have c4:(zsO s.heap x t l1).objs.size=s.heap.objs.size+4:=by rw [ad1,c3]
 have c5:(zsZ s.heap x t l1).objs.size=s.heap.objs.size+5:=by rw [ad1,c4]
 have up:∀ {h:Heap}{o':Obj}{b:Nat}{o:Obj},h.get? b=some o->(h.push o').get? b=some o:=fun e=>adn _ e
 have d0:(zsZ s.heap x t l1).get? s.heap.objs.size=some _:=up (up (up (up (adq _ rfl))))
 have d1:(zsZ s.heap x t l1).get? (zsS s.heap x t).objs.size=some _:=up (up (up (adq _ rfl)))
 have d2:(zsZ s.heap x t l1).get? (zsA s.heap x t l1).objs.size=some _:=up (up (adq _ rfl))
 have d3:(zsZ s.heap x t l1).get? (zsI s.heap x t l1).objs.size=some _:=up (adq _ rfl)
 have d4:(zsZ s.heap x t l1).get? (zsO s.heap x t l1).objs.size=some _:=adq _ rfl
 have keep:∀ (b:Nat)(o:Obj),s.heap.get? b=some o->(zsZ s.heap x t l1).get? b=some o:=fun b o e=>up (up (up (up (up e))))
 show _/\_
 rw [c1] at d1
 rw [c1,c2] at d2
 rw [c3] at d3
 rw [c2,c3,c4] at d4
 rw [c4]
 exact ⟨⟨_,d4,rfl⟩,q _ ⟨d4,d2,d3,⟨_,d0,rfl,rfl⟩,⟨_,d1,rfl,rfl⟩⟩ c5 keep⟩
end
section
variable {X:Cx}
def acI (K:Fa)(l1:Addr)(x:Str)(ys:Fs):It:=
 ⟨fun i H=>SqL K H l1 ys/\i<x.cps.size/\i<ys.length,fun i H v H'=>∃ T c b,v=.ref T/\H T=none/\x.cps[i]?=some c/\ys[i]?=some b/\H'=upd H T (.tup [.str ⟨#[c]⟩,b]),fun i _=>x.cps.size<=i⟩
def ZSAt (N l1:Nat)(x:Str)(t:Tok)(i:Nat)(h:Heap):Prop:=∃ a b,ZS N l1 x t .none a b i i h
abbrev fiv (N:Nat):List Addr:=[N+4,N,N+1,N+2,N+3]
theorem Xo {N:Nat}{p:Addr}(h:p∈fiv N):N<=p/\p<=N+4:=by
 simp only [fiv,adt,adZ,or_false] at h;simp only [Addr] at h ⊢;omega
theorem Ii {N:Nat}{p:Addr}(h:N<=p/\p<=N+4):p∈fiv N:=by
 simp only [fiv,adt,adZ,or_false];simp only [Addr] at h ⊢;omega
theorem Zc (N:Nat){k:Nat}(h:k<=4):N+k∈fiv N:=Ii ⟨Nat.le_add_right N k,Nat.add_le_add_left h N⟩
theorem Gy {P:Program}{w:World}{K:Fa}{elts:List Expr}{kk:Nat}{tpos:Pos}{N l1:Nat}{x:Str}{t:Tok}{ys:Fs}(b1:l1<N):
  Turn P w K (.Tuple elts kk tpos) (acI K l1 x ys) (fiv N) (N+4) (ZSAt N l1 x t) where
 mem:=Zc N (by omega);obj:=fun i h ⟨a,b',Z⟩ b hb=>by
  obtain ⟨o0,e0,-,d0⟩:=Z.r0;obtain ⟨o1,e1,-,d1⟩:=Z.r1;simp only [fiv,adt,adZ,or_false] at hb;rcases hb with rfl| rfl| rfl| rfl| rfl
  ·exact ⟨_,Z.z,fun v z=>nomatch z⟩
  ·exact ⟨o0,e0,fun v z=>by rw [d0] at z;cases z⟩
  ·exact ⟨o1,e1,fun v z=>by rw [d1] at z;cases z⟩
  ·exact ⟨_,Z.ti,fun v z=>nomatch z⟩
  ·exact ⟨_,Z.to,fun v z=>nomatch z⟩
 keep:=fun i h h' ⟨a,b,Z⟩ k=>⟨a,b,k _ (Zc N (k:=4) (by omega)) _ Z.z,k _ (Zc N (k:=2) (by omega)) _ Z.ti,k _ (Zc N (k:=3) (by omega)) _ Z.to,(let ⟨o,e,c⟩:=Z.r0;⟨o,k _ (Zc N (k:=0) (by omega)) o e,c⟩),Z.r1.at fun o e=>k _ (Zc N (k:=1) (by omega)) o e⟩;item:=by
  intro X hP hw hK hc i pins s σ H E I hf ⟨a,b,Z⟩ hg;subst hP hw hK;obtain ⟨q1,hn,hi1⟩:=hg;obtain ⟨its1,rv1,pl1,-⟩:=I.list q1;obtain ⟨u1,hu1,ru1⟩:=rv1.get (ada hi1);have hx:x.cps[i]?=some x.cps[i]:=by simp [hn]
  have big:N+4<s.heap.objs.size:=adu Z.z;refine X6 Z b1 hx pl1.isList (y:=u1) (by simpa using hu1) fun h' Z' T' F'=>⟨_,rfl,wpAny_letOwnedTupleGo_zip (TI:=N+2) (TO:=N+3) (s:={ s with heap:=h',toks:=s.toks+1 }) Z'.z fun h'' hz hs=>?_⟩;have out:∀ b,b ∉ fiv N->b<N\/N+4<b:=fun b hb=>by
   by_cases h:N<=b/\b<=N+4
   ·exact absurd (Ii h) hb
   ·simp only [Addr] at h ⊢;omega
  have I1:Inv X pins σ H { s with heap:=h'',toks:=s.toks+1 }:=I.uG (t':=s.toks+1) (ch:=fiv N) (fun b o hb e=>hs.extBut b o (fun x=>hb (x ▸ Zc N (k:=4) (by omega))) (F' b o (out b hb) e)) hf;obtain ⟨F0,F1,F2,F3,F4,F5⟩:=I.KR (H':=H) (ado _) (I.hok.fresh (ado _));have hT:PyProof.Rows.IsTup h'' s.heap.objs.size #[.str ⟨#[x.cps[i]]⟩ s.toks,u1]:=⟨_,hs.extBut _ _ (by simp only [Addr] at big ⊢;omega) T',rfl,_,rfl⟩;have I2:Inv X pins σ (upd H s.heap.objs.size (.tup [.str ⟨#[x.cps[i]]⟩,ys[i]])) { s with heap:=h'',toks:=s.toks+1 }:=I1.adopt F0 F1 I.sz F4 F5 (show jV X.prog X.w _ h'' _ (.tup [.str ⟨#[x.cps[i]]⟩,ys[i]]) from ⟨by rw [sizeLine_eq];simp,[.str ⟨#[x.cps[i]]⟩ s.toks,u1],.cons ⟨_,rfl⟩ (.cons ru1 .nil),hT⟩);refine ⟨.ref s.heap.objs.size,_,I2,rfl,⟨_,_,_,rfl,F0,hx,ada hi1,rfl⟩,⟨_,_,Z'.at4 hs.extBut hz⟩,fun b hb=>?_⟩;rw [aX]
  ·exact (hf b hb).1
  ·have:=Xo hb;simp only [Addr] at this big ⊢;omega
 done:=by
  intro X hP hw hK hc i pins s σ H E I hf ⟨a,b,Z⟩ hg;subst hP hw hK;have hg:x.cps.size<=i:=hg;refine X5 (I.ok.hd hc) Z (by simp [hg]) fun h' F'=>⟨rfl,I.uG (t':=s.toks) (ch:=fiv N) (fun b o hb e=>F' b o ?_ e) hf⟩;by_cases h:N<=b/\b<=N+4
  ·exact absurd (Ii h) hb
  ·simp only [Addr] at h ⊢;omega
 self:=fun _ _ _ _ _ ⟨_,_,Z⟩ h=>wpAny_pyIter_zip (TI:=N+2) (TO:=N+3) Z.z h
def acz (K:Fa)(ta:TA):TI:=fun σ H R=>ta σ H fun vs H1=>∃ x l1 ys,vs=[.str x,.ref l1]/\x.cps.all (·<128)=true/\SqL K H1 l1 ys/\R (acI K l1 x ys) H1
theorem HF {elts:List Expr}{kk:Nat}{tpos:Pos}{a b:Expr}{ta:TA}{p pos:Pos}(hg:Gl X "zip")(hm:X.mg "zip"=none)(ha:PA X [a,b] ta)
  (hs:starEach [a,b] X.env=(false,eval a X.env)::starEach [b] X.env:=by rfl)(hs2:(backTo pos (starEach [b] X.env)).any (·.1)=false:=by rfl):
  PI X (.Tuple elts kk tpos) (.Call (.Name "zip" p) [a,b] [] pos) (acz X.K ta):=by
 intro pins s σ H R I h
 refine Call_ (vI I hg hm boot_zip (ad6 (thn (ha pos pins s σ H _ I h) fun us s1 ⟨vs,H1,I1,r1,q1⟩=>?_) hs hs2))
 obtain ⟨x,l1,ys,rfl,hx,q1,q⟩:=q1
 cases r1 with
 | cons v0 r1=>cases r1 with
  | cons v1 r1 =>
   cases r1
   obtain ⟨t,rfl⟩:=v0
   cases v1
   obtain ⟨its1,rv1,pl1,-⟩:=I1.list q1
   refine X8 hx pl1.isList fun h' Z hz hk=>?_
   have b1:l1<s1.heap.objs.size:=by obtain ⟨o,e,-⟩:=pl1.isList;exact adu e
   refine wpAny_pyIter_zip (TI:=s1.heap.objs.size+2) (TO:=s1.heap.objs.size+3) Z.z ⟨_,fiv s1.heap.objs.size,_,_,H1,rfl,I1.kept (t':=s1.toks) hk,Gy (ys:=ys) b1,⟨_,_,Z⟩,fun b hb=>?_,q⟩
   have hb':=(Xo hb).1
   exact I1.KR hb' (I1.hok.fresh hb')
theorem Bv {K:Fa}{l1:Addr}{x:Str}{ys:Fs}{acc:Addr}{g:TG}{tc:TT}{te:TE}{τ:St}{H1:Hp}{Q:Hp->Prop}(Pv:Nat->St->Hp->Prop)(h0:Pv 0 τ (upd H1 acc (.lst [])))(hx:x.cps.size<=ys.length)(hl:∀ i τ H,i<=x.cps.size->Pv i τ H->SqL K H l1 ys)
  (hs:∀ i c b T τ H,x.cps[i]?=some c->ys[i]?=some b->Pv i τ H->H T=none->g (.ref T) τ (upd H T (.tup [.str ⟨#[c]⟩,b])) fun τ4 H4=>tc τ4 H4 fun b H5=>if b=true then te τ4 H5 fun y H6=>∃ zs,H6 acc=some (.lst zs)/\zs.length<sizeLine/\Pv (i+1) τ4 (upd H6 acc (.lst (zs++[y]))) else Pv (i+1) τ4 H5)
  (hd:∀ τ H,Pv x.cps.size τ H->Q H):yw (acI K l1 x ys) acc g tc te τ H1 Q:=by
 refine ⟨fun i m τ H=>m=x.cps.size - i/\i<=x.cps.size/\Pv i τ H,⟨x.cps.size,by simp,adY _,h0⟩,?_⟩
 rintro i m τ H ⟨rfl,hi,p⟩
 have q1:=hl i τ H hi p
 by_cases hlt:i<x.cps.size
 ·refine .inr ⟨⟨q1,hlt,by omega⟩,Pv (i+1),fun τ' H' p'=>⟨x.cps.size - (i+1),by omega,rfl,hlt,p'⟩,fun v H' z=>?_⟩
  obtain ⟨T,c,b,rfl,hT,hc,hb,rfl⟩:=z
  exact hs i c b T τ _ hc hb p hT
 ·have e:i=x.cps.size:=by omega
  subst e
  exact .inl ⟨ado _,hd τ H p⟩
end
section
variable {X:Cx}
def YF:V->Fs->Hp->VK->Prop:=fun x vs H Q=>∃ (l:Addr)(ns:List Str)(y:Str)(j:Nat),x=.ref l/\vs=[.str y]/\H l=some (.lst (ns.map V.str))/\ns[j]?=some y/\(∀ m,m<j->ns[m]?≠some y)/\Q (.int (j:Int)) H
theorem Im:MtR X "list.index" YF:=by
 intro pins s σ H x xs v us Q I rx rv h;obtain ⟨l,ns,y,j,rfl,rfl,hH,hj,hno,q⟩:=h;cases rx;obtain ⟨u,rfl,ru⟩:=rv.one;obtain ⟨z,its,n,r,hl,e⟩:=I.aaZ hH;have fl:(ns.map V.str).all vY=true:=by simp [vY]
 have hjl:=(adl.mp hj).1;rw [abW] at hl z;have at_:∀ m (hm:m<its.length),eqU (.str y) its[m]=decide (ns[m]?=some y):=fun m hm=>by
  obtain ⟨w',hw⟩:∃ w',ns[m]?=some w':=⟨_,ada (by omega)⟩;obtain ⟨u',hu',ru'⟩:=r.get (i:=m) (x:=.str w') (by rw [adC,hw];rfl);have eu:its[m]=u':=by
   rw [ada hm] at hu';exact adP hu'
  rw [eu,J5 ru' rfl,hw];show decide (w'=y)=_;by_cases c:w'=y
  ·rw [decide_eq_true c,decide_eq_true (by rw [c])]
  ·rw [decide_eq_false c,decide_eq_false fun z=>c (adP z)]
 have sm:((j:Nat):Int)<2 ^ 63 - 1:=by rw [sizeLine_eq] at z;omega
 refine call_meets F.slot_list_index ⟨_,e,rfl⟩ F.entry_list_index (F.args_list_index_2 _ _) ((SeqAt.list_indexAt l its.toArray n none #[] u (eqU (.str y)) j (by simp;omega) sm ?_ ?_)) ⟨e,fun w' hw=>qm ru rfl r fl w' (by simpa using hw),?_⟩
 ·rw [List.getElem_toArray,at_ j (by omega)];exact decide_eq_true hj
 ·intro m hm h1;rw [List.getElem_toArray,at_ m (by simpa using hm)];exact decide_eq_false (hno m h1)
 ·exact ⟨.int _,H,I.tok _,⟨_,rfl⟩,q⟩
theorem YL {K:Fa}{e:Expr}{f:Str}{pos:Pos}{ta:TE}(hK:X.K=K)(he:PE X e ta)(hb:attributeBase e f X.env (eval e X.env)=eval e X.env):PE X (.Attribute e f pos) (acQ K ta f):=hK ▸ aY he hb
def ZR:V->Option Str
 | .str x=>some x
 | .int n=>some (toString n)
 | _=>none
def okV:V->Prop
 | .str x=>x.length<=sizeLine
 | .int n=>n.natAbs.log2<1920
 | _=>False
def tFmt (tv:TE):TE:=fun σ H Q=>tv σ H fun v H1=>okV v/\∃ y,ZR v=some y/\Q (.str y) H1
theorem Bj {e:Expr}{pos:Pos}{tv:TE}(he:PE X e tv):PE X (.FormattedValue e (-1) none pos) (tFmt tv):=by
 intro pins s σ H Q I h;refine PyProof.Rows.FormattedValue_plain (thn (he pins s σ H _ I h) fun u s1 ⟨v,H1,I1,rv,ok,y,hy,q⟩=>?_);cases v with
 | str x =>
  obtain ⟨t,rfl⟩:=rv;cases hy;exact PyProof.Rows.formatField_str (fun t' tk=>⟨.str _,H1,I1.tok _,⟨_,rfl⟩,q⟩) ok
 | int n =>
  obtain ⟨t,rfl⟩:=rv;cases hy;exact PyProof.Rows.formatField_int_small ok ⟨.str _,H1,I1.tok _,⟨_,rfl⟩,q⟩
 | _=>exact ok.elim
def tJn:List TE->Str->TE
 | [],acc=>fun _ H Q=>acc.length<=sizeLine/\Q (.str acc) H
 | t::ts,acc=>fun σ H Q=>t σ H fun v H1=>∃ y,v=.str y/\(acc++y).length<=sizeLine/\tJn ts (acc++y) σ H1 Q
inductive PJn (X:Cx):List Expr->List TE->Prop
 | nil:PJn X [] []
 | cons {e:Expr} {es:List Expr} {t:TE} {ts:List TE} (h:PE X e t) (hs:PJn X es ts):PJn X (e::es) (t::ts)
theorem Nh {es:List Expr}{ts:List TE}(J:PJn X es ts):∀ (acc:Str)(pins:Fk)(s:Shared)(σ:St)(H:Hp)(Q:VK),Inv X pins σ H s->tJn ts acc σ H Q ->
  Joins (model X.prog X.w) X.A X.xe (evalEach es X.env) acc (fun out s₁=>out.length<=sizeLine/\EP X pins σ Q (.str out s₁.toks) { s₁ with toks:=s₁.toks+1 }) s:=by
 induction J with
 | nil=>exact fun acc pins s σ H Q I h=>⟨h.1,.str acc,H,I.tok _,⟨_,rfl⟩,h.2⟩
 | cons he hs ih =>
  intro acc pins s σ H Q I h;refine thn (he pins s σ H _ I h) fun u s1 ⟨v,H1,I1,rv,y,ev,hz,q⟩=>?_;subst ev;obtain ⟨t,rfl⟩:=rv;exact ⟨y,t,rfl,hz,ih _ pins s1 σ H1 Q I1 q⟩
theorem YK {e₁ e₂:Expr}{es:List Expr}{ts:List TE}{pos:Pos}(J:PJn X (e₁::e₂::es) ts):PE X (.JoinedStr (e₁::e₂::es) pos) (tJn ts Str.empty):=fun pins s σ H Q I h =>
 wpAny_JoinedStr (Nh J Str.empty pins s σ H Q I h)
theorem Kr:tY X (.type "str") (fun xs H Q=>∃ v y,xs=[v]/\okV v/\ZR v=some y/\Q (.str y) H):=by
 intro pins s σ H xs us Q I r h;obtain ⟨v,y,rfl,ok,hy,q⟩:=h;obtain ⟨u,rfl,ru⟩:=r.one;cases v with
 | str x =>
  obtain ⟨t,rfl⟩:=ru;cases hy;exact PySem.P.str_of_str ⟨.str _,H,I,⟨_,rfl⟩,q⟩
 | int n =>
  obtain ⟨t,rfl⟩:=ru;cases hy;exact PySem.P.str_of_int ok ⟨.str _,H,I.tok _,⟨_,rfl⟩,q⟩
 | _=>exact ok.elim
end
end L2
namespace Rv
def uy (r:List Int):Prop:=∃ rk:Nat->Nat,(∀ i,i<r.length->rk i<r.length) /\
 ∀ (i:Nat)(x:Int),r[i]?=some x->x=-1\/(0<=x/\x<r.length/\rk x.toNat<rk i)
def nxt (r:List Int)(p:Int):Int:=r.getD p.toNat (-1)
theorem o7 {r:List Int}{p:Int}(h0:0<=p)(h1:p<r.length):r[p.toNat]?=some (nxt r p):=by
 have h:p.toNat<r.length:=by omega
 unfold nxt;rw [adS,ada h];rfl
theorem uy.step {r:List Int}(h:uy r){p:Int}(h0:0<=p)(h1:p<r.length):nxt r p=-1\/(0<=nxt r p/\nxt r p<r.length):=by
 obtain ⟨rk,_,h3⟩:=h;rcases h3 _ _ (o7 h0 h1) with e| ⟨a,b,_⟩
 ·exact .inl e
 ·exact .inr ⟨a,b⟩
def wA (r:List Int):Nat->Int->List Int
 | 0,_=>[]
 | f+1,p=>if p=-1 then [] else p::wA r f (nxt r p)
def walk (r:List Int)(p:Int):List Int:=wA r (r.length+1) p
theorem tZ (r:List Int)(f:Nat):wA r f (-1)=[]:=by
 cases f with
 | zero=>rfl
 | succ f=>unfold wA;rw [if_pos rfl]
theorem yO (r:List Int):walk r (-1)=[]:=tZ r _
theorem vB {r:List Int}{rk:Nat->Nat}(h:∀ (i:Nat)(x:Int),r[i]?=some x->x=-1\/(0<=x/\x<r.length/\rk x.toNat<rk i)):
  ∀ (f g:Nat)(p:Int),0<=p->p<r.length->rk p.toNat<f->rk p.toNat<g->wA r f p=wA r g p
 | 0,_,_,_,_,hf,_=>by omega
 | _+1,0,_,_,_,_,hg=>by omega
 | f+1,g+1,p,h0,h1,hf,hg=>by
  unfold wA;rw [if_neg (by omega),if_neg (by omega)];rcases h _ _ (o7 h0 h1) with e| ⟨a,b,c⟩
  ·rw [e,tZ,tZ]
  ·rw [vB h f g _ a b (by omega) (by omega)]
theorem oG {r:List Int}(h:uy r){p:Int}(h0:0<=p)(h1:p<r.length):walk r p=p::walk r (nxt r p):=by
 obtain ⟨rk,h2,h3⟩:=h;show wA r (r.length+1) p=_;unfold wA;rw [if_neg (by omega)];rcases h3 _ _ (o7 h0 h1) with e| ⟨a,b,c⟩
 ·rw [e,tZ,yO]
 ·have:=h2 p.toNat (by omega);unfold walk;rw [vB h3 r.length (r.length+1) _ a b (by omega) (by omega)]
theorem zW (r:List Int):∀ (f:Nat)(p:Int),(wA r f p).length<=f
 | 0,_=>ado _
 | f+1,p=>by
  unfold wA;split
  ·exact adY _
  ·exact Nat.succ_le_succ (zW r f _)
theorem K7 (r:List Int)(p:Int):(walk r p).length<=r.length+1:=zW r _ _
theorem uy.ind {r:List Int}(h:uy r){P:Int->Prop}(hm:P (-1))(hs:∀ p:Int,0<=p->p<r.length->P (nxt r p)->P p):∀ p:Int,0<=p->p<r.length->P p:=by
 obtain ⟨rk,_,h3⟩:=h;have key:∀ (n:Nat)(p:Int),0<=p->p<r.length->rk p.toNat<n->P p:=by
  intro n
  induction n with
  | zero=>intro p _ _ h;omega
  | succ n ih =>
   intro p h0 h1 h2;refine hs p h0 h1 ?_;rcases h3 _ _ (o7 h0 h1) with e| ⟨a,b,c⟩
   ·rw [e];exact hm
   ·exact ih _ a b (by omega)
 exact fun p h0 h1=>key _ p h0 h1 (Nat.lt_succ_self _)
theorem K6 {r:List Int}(h:uy r):∀ p:Int,0<=p->p<r.length->∀ q∈walk r p,0<=q/\q<r.length:=by
 refine h.ind (P:=fun p=>∀ q∈walk r p,0<=q/\q<r.length) ?_ ?_
 ·intro q hq;rw [yO] at hq;cases hq
 ·intro p h0 h1 ih q hq;rw [oG h h0 h1] at hq;rcases adt.mp hq with e| e
  ·rw [e];exact ⟨h0,h1⟩
  ·exact ih q e
noncomputable def mea (r:List Int)(p:Int):Nat:=(walk r p).length
theorem aaX {r:List Int}(h:uy r){p:Int}(h0:0<=p)(h1:p<r.length):mea r (nxt r p)<mea r p:=by
 unfold mea;rw [oG h h0 h1];exact Nat.lt_succ_self _
def stp (r:List Int)(p:Int):Int:=if p=-1 then -1 else nxt r p
def uH (r:List Int):Nat->Int->Int
 | 0,p=>p
 | f+1,p=>uH r f (stp r p)
theorem Dy (r:List Int):∀ f,uH r f (-1)=-1
 | 0=>rfl
 | f+1=>by
  show uH r f (stp r (-1))=-1;unfold stp;rw [if_pos rfl];exact Dy r f
theorem qg (r:List Int):∀ (f:Nat)(p:Int),uH r (f+1) p=stp r (uH r f p)
 | 0,_=>rfl
 | f+1,p=>by
  show uH r (f+1) (stp r p)=stp r (uH r f (stp r p));exact qg r f (stp r p)
theorem Dz (r:List Int)(p:Int){f:Nat}(h:uH r f p=-1):∀ g,uH r (f+g) p=-1
 | 0=>h
 | g+1=>by
  rw [show f+(g+1)=(f+g)+1 from rfl,qg,Dz r p h g];unfold stp;rw [if_pos rfl]
def inB (r:List Int):Prop:=∀ x∈r,-1<=x/\x<(r.length:Int)
instance (r:List Int):Decidable (inB r):=inferInstanceAs (Decidable (∀ x∈r,-1<=x/\x<(r.length:Int)))
theorem Y6 {r:List Int}(h:inB r){p:Int}(h0:0<=p)(h1:p<r.length):-1<=nxt r p/\nxt r p<r.length:=h _ (adp (o7 h0 h1))
theorem Ey {r:List Int}(h:inB r){p:Int}(h0:0<=p)(h1:p<r.length):∀ f,-1<=uH r f p/\uH r f p<(r.length:Int)
 | 0=>⟨by show -1<=p;omega,h1⟩
 | f+1=>by
  rw [qg];obtain ⟨a,b⟩:=Ey h h0 h1 f;unfold stp;by_cases e:uH r f p=-1
  ·rw [if_pos e];omega
  ·rw [if_neg e];exact Y6 h (by omega) b
def isR (r:List Int):Bool:=decide (1<=r.length/\r.length<=40) && decide (inB r) && decide (∀ i,i<r.length->uH r r.length (i:Int)=-1)
end Rv
namespace Tn
theorem uc {α:Type}{gs:List α}{i:Nat}{k:α}(h:gs[i]?=some k):gs.take (i+1)=gs.take i++[k]:=by
 rw [ae0,h];rfl
end Tn
namespace Rv
end Rv
namespace Tn
end Tn
namespace Rv
end Rv
namespace Tn
end Tn
namespace Rv
end Rv
namespace Tn
end Tn
namespace Rv
end Rv
namespace Tn
end Tn
namespace Rv
end Rv
namespace L2
open PySem
theorem qu.m {j k:Nat}{A:Around}(r:qu k A)(h:j<=k:=by decide):qu j A:=r.mono h
end L2
namespace My
open PySem L2
set_option hygiene false
local macro_rules | `(tactic| walk_at "get") => `(tactic| first | assumption | exact O.get 0 | exact O.get 1 | exact O.get 2 | exact O.get 3 | exact O.get 4 | exact O.get 5 | exact O.get 6 | exact O.get 7 | exact O.get 8 | exact O.get 9 | exact O.get 10 | exact O.get 11 | exact O.get 12 | fail)
local macro_rules | `(tactic| walk_at "sq") => `(tactic| first | assumption | exact O.sq 0 | exact O.sq 1 | exact O.sq 2 | exact O.sq 3 | exact O.sq 4 | exact O.sq 5 | exact O.sq 6 | exact O.sq 7 | exact O.sq 8 | exact O.sq 9 | exact O.sq 10 | exact O.sq 11 | exact O.sq 12 | exact SqL.mo (by assumption) O.same | exact SqL.mo (by assumption) (s0.trans O.same) | fail)
local macro_rules | `(tactic| walk_at "sqT") => `(tactic| first | assumption | exact O.sqT 0 | exact O.sqT 1 | exact O.sqT 2 | exact O.sqT 3 | exact O.sqT 4 | exact O.sqT 5 | exact O.sqT 6 | exact O.sqT 7 | exact SqT.mo (by assumption) O.same | exact SqT.mo (by assumption) (s0.trans O.same) | fail)
local macro_rules | `(tactic| walk_at "at") => `(tactic| first | rfl | exact bY (by assumption) | exact dN (by assumption) | exact gk (by omega) (by omega) | exact lastV _ _ | exact ints_last (by omega) | exact gk (ns := [_, _]) (by omega) (by simp only [adF, aeg]; omega) | exact gk (ns := [_, _, _]) (by omega) (by simp only [adF, aeg]; omega) | exact gk (ns := [_, _, _, _]) (by omega) (by simp only [adF, aeg]; omega) | exact gk (ns := [_, _, _, _, _]) (by omega) (by simp only [adF, aeg]; omega) | exact gk (ns := [_, _, _, _, _, _]) (by omega) (by simp only [adF, aeg]; omega) | exact gk (ns := [_, _, _, _, _, _, _]) (by omega) (by simp only [adF, aeg]; omega) | exact gk (ns := [_, _, _, _, _, _, _, _]) (by omega) (by simp only [adF, aeg]; omega) | fail)
local macro_rules | `(tactic| walk_at "c") => `(tactic| first | omega | (simp only [abW]; omega) | exact szl | (show (0 : Int) < _; decide) | (show (0 : Int) < _; omega) | exact ⟨by decide, by decide⟩ | exact .inl ⟨by decide, by decide⟩ | exact .inr ⟨by decide, by decide⟩ | exact ⟨by decide, by decide, by decide⟩ | exact .inl ⟨by omega, by omega⟩ | exact .inr ⟨by omega, by omega⟩ | exact ⟨by omega, by omega⟩ | (split <;> omega) | fail)
local macro_rules | `(tactic| walk_at "ty") => `(tactic| first | exact .int _ | exact .bl _ | exact .lst (by walk_at "get") | exact .tup (by walk_at "get") | exact .non | fail)
local macro_rules | `(tactic| walk_at "kit") => `(tactic| first | exact kit_ii K | exact kit_ib K | exact kit_ll K | exact kit_bb K | exact kit_bi K | exact kit_tt K | fail)
local macro_rules | `(tactic| walk_at "s") => `(tactic| first | refine abQ ?_ | refine ⟨_, rfl, ?_⟩ | refine ⟨_, _, rfl, rfl, ?_⟩ | refine And.intro rfl ?_ | refine And.intro (by walk_at "c") ?_ | refine ⟨_, _, _, _, rfl, rfl, (show SqL _ _ _ _ by walk_at "sq"), (show atI _ _ = some _ by walk_at "at"), ?_⟩ | refine ⟨_, _, _, _, rfl, rfl, (show SqT _ _ _ _ by walk_at "sqT"), (show atI _ _ = some _ by walk_at "at"), ?_⟩ | refine ⟨_, _, rfl, .inl (show SqL _ _ _ _ by walk_at "sq"), ?_⟩ | refine ⟨_, _, rfl, .inr (show SqT _ _ _ _ by walk_at "sqT"), ?_⟩ | refine ⟨_, _, rfl, (show SqL _ _ _ _ by walk_at "sq"), ?_⟩ | refine And.intro ⟨_, (show SqL _ _ _ _ by walk_at "sq")⟩ ?_ | refine And.intro (.inl ⟨rfl, _, (show SqL _ _ _ _ by walk_at "sq")⟩) ?_ | refine ⟨_, _, _, _, rfl, (show TyOf _ _ _ _ by walk_at "ty"), (show kitOne _ _ _ = some _ by walk_at "kit"), ?_⟩ | refine ⟨_, _, rfl, ?_⟩ | fail)
local macro_rules | `(tactic| walk_at "if") => `(tactic| first | refine j7 ?_ | refine lR ?_ | refine ifN ?_ | refine ifI (fun hc => ?_) (fun hc => ?_) | refine ifD (fun hc => ?_) (fun hc => ?_) | refine ifB (fun hc => ?_) (fun hc => ?_) | fail)
local macro_rules | `(tactic| walk_at "go") => `(tactic| repeat' (first | walk_at "if" | walk_at "s" | fail))
local macro_rules | `(tactic| walk_at "nw") => `(tactic| (generalize hE : upd _ _ _ = Hn; replace O := Ow.mkE O (by assumption) hE rfl; clear hE))
local macro_rules | `(tactic| walk_at "pt") => `(tactic| (generalize hE : upd _ _ _ = Hn; (first | replace O := Ow.uQ O 0 rfl hE rfl | replace O := Ow.uQ O 1 rfl hE rfl | replace O := Ow.uQ O 2 rfl hE rfl | replace O := Ow.uQ O 3 rfl hE rfl | replace O := Ow.uQ O 4 rfl hE rfl | replace O := Ow.uQ O 5 rfl hE rfl | replace O := Ow.uQ O 6 rfl hE rfl | replace O := Ow.uQ O 7 rfl hE rfl); clear hE; (try simp only [List.set_cons_zero, List.set_cons_succ] at O)))
local macro_rules | `(tactic| walk_at "i") => `(tactic| ((focus (intro vs H Q E h; cases h <;> (subst_vars; rfl))); intro cdv A outer s H vs Q E hr h))
local macro_rules | `($a >=> $b) => `(@acj _ _ _ _ _ $a $b rfl)
local macro_rules | `($a <|> $b) => `(@cW _ _ _ _ _ $a $b)
local macro_rules | `(~~~$a) => `(@dj _ _ _ $a)
local macro_rules | `($c ||| $k) => `(zT P w K mg base $c $k)
local macro_rules | `($d <* $g <* $a) => `(wO $g hr.m rfl ($d).m ($d).F.kp ($d).b .nil oZ $a)
local macro_rules | `($d *> $g *> $a) => `(wO $g hr.m rfl ($d).m ($d).F.kp ($d).b .nil iJ $a)
local macro_rules | `($n >> $s) => `(dR (i:=$n) ($s).nd rfl (Or.inl rfl))
local macro_rules | `($n <$> $s <$> $e) => `(wN (i:=$n) ($s).nd rfl (Or.inl rfl) $e)
variable {P:Program}{w:World}{K:Fa}{mg:Fh}{base:Heap}{T:d8}{C CD CR aA aB aN b0 b1 b10 b11 b12 b13 b2 b3 b4 b5 b6 b7 b8 b9 cF cH cN cP cR cS cY f2:Addr}{c:Ec}{kA kB kN:List (Key × V)}{AT:List (Addr × Sp)}{e:Er}{cl:List Addr}{SP:Sp}
def top (i:Nat):Stmt:=PySem.Challenge.pw_sluice_k74_deeds_at_a_desk.main.body.getD i (.Pass ⟨0,0,0,0⟩)
abbrev zj:Stmt:=top 29
theorem Ak:aF ["below","reach","way"] ["below","reach"] (ao zj):=by walk_at "sc"
inductive Oi (K:Fa)(vs:Fs)(H:Hp)(Q:VK)(E:XK):Prop
 | mk (a:Addr)(r:List Int)(p:Int)(_:vs=[.ref a,.int p])(_:SqL K H a (r.map V.int))(_:Rv.uy r)(_:0<=p)(_:p<r.length)(_:r.length<=900)(_:adb H (fun xs=>xs=(Rv.walk r p).map V.int) Q)
theorem Kw (pre:List Int)(z:Int):atI ((pre++[z]).map V.int) (-1)=some (V.int z):=by
 rw [adw];exact N7 _ _
variable {a1 a3 a5:TS}{D:Ends}{σ:St}{H:Hp}
theorem sl_1 {a2:TT}(h:let z4:TS:=a3;let z6:TS:=a5;let z7:TS:=qC (GK a2 z4) z6;(qC a1 z7) D σ H):(qC a1 (qC (GK a2 a3) a5)) D σ H:=h
variable {a4 a6 a8:TS}
theorem sl_2 {a2:TI}{a3:TG}{a5:TT}{a11:TS}(h:let z7:TS:=a6;let z9:TS:=KN a5 z7 a8;let z10:TS:=qC a4 z9;let z12:TS:=a11;let z13:TS:=qC (Yp a2 a3 z10) z12;(qC a1 z13) D σ H):(qC a1 (qC (Yp a2 a3 (qC a4 (KN a5 a6 a8))) a11)) D σ H:=h
variable {a2:TS}
theorem sl_3 {a1:TT}{a5:TT}{a9:TS}(h:let z3:TS:=a2;let z7:TS:=a6;let z10:TS:=a9;let z11:TS:=qC (KN a5 z7 a8) z10;(qC (KN a1 z3 a4) z11) D σ H):(qC (KN a1 a2 a4) (qC (KN a5 a6 a8) a9)) D σ H:=h
theorem sl_4 {a2:TT}(h:let z4:TS:=a3;let z7:TS:=a6;let z8:TS:=qC (KN a2 z4 a5) z7;(qC a1 z8) D σ H):(qC a1 (qC (KN a2 a3 a5) a6)) D σ H:=h
theorem sl_5 {a1:TI}{a2:TG}(h:let z4:TS:=a3;let z6:TS:=a5;(qC (Yp a1 a2 z4) z6) D σ H):(qC (Yp a1 a2 a3) a5) D σ H:=h
theorem sl_6 {a2:TI}{a3:TG}(h:let z6:TS:=a5;let z7:TS:=qC a4 z6;let z9:TS:=a8;let z10:TS:=qC (Yp a2 a3 z7) z9;(qC a1 z10) D σ H):(qC a1 (qC (Yp a2 a3 (qC a4 a5)) a8)) D σ H:=h
theorem sl_7 (h:let z3:TS:=a2;(qC a1 z3) D σ H):(qC a1 a2) D σ H:=h
theorem acR (h:let z4:TS:=a3;let z5:TS:=qC a2 z4;(qC a1 z5) D σ H):(qC a1 (qC a2 a3)) D σ H:=h
variable {zH:Addr}{zL:Ff}(nF:Df K mg "way_of" zj ["below","reach"] zH zL)
include nF in
theorem aat (C:Mth mg):(CX0|||1) zH zL ["below","reach"] (Oi K):=by
 obtain ⟨tM,hMOUTH⟩:=C.MOUTH;refine nF.F.ok Ak ?_ ?_;walk_at "i";obtain ⟨a,r,p,rfl,hS,hR,p0,p1,hn,q⟩:=h;refine ⟨_,(cW (2<$>Ak<$>(bO (bG (pv 1) aj)))
  (cW (Ei ad3 (aG yj (aK au (pv 0) (aK au (pv 2) (HN zZ ak) (fun _ _=>rfl)) (fun _ _=>rfl)) (bN (v:=.int (-1)) rfl hMOUTH ⟨_,rfl⟩) (aO _))
   (dj (bf (je adz adA adB bK (pv 2) (bG (aK au (pv 0) (aK au (pv 2) (HN zZ ak) (fun _ _=>rfl)) (fun _ _=>rfl)) aj)))))
  (dj (aH (pv 2))))),?_⟩
 refine sl_1 ?_;intro zu0 zu1 zu2;refine ⟨_,rfl,(by show 1<=sizeLine;decide),fun lw hlw=>?_⟩;refine ⟨fun m σ H'=>∃ (pre:List Int)(z:Int),σ=[some (.ref a),some (.int p),some (.ref lw)]/\Same H H'/\H' lw=some (.lst ((pre++[z]).map V.int))/\0<=z/\z<r.length/\pre++Rv.walk r z=Rv.walk r p/\m=Rv.mea r z,
  ⟨_,[],p,rfl,(Same.refl H).upd hlw,cC,p0,p1,rfl,rfl⟩,?_⟩
 rintro m σ H2 ⟨pre,z,rfl,s2,h2,z0,z1,e,rfl⟩;have g:=Rv.o7 z0 z1;have hlen:pre.length+(Rv.walk r z).length<=r.length+1:=by
  have:=Rv.K7 r p;rw [<- e,adG] at this;exact this
 refine ⟨_,rfl,_,rfl,_,rfl,lw,_,_,_,rfl,rfl,SqL.of h2,Kw pre z,a,_,_,_,rfl,rfl,s2.seq hS,wj z0 g,rfl,_,rfl,?_⟩;rcases hR.step z0 z1 with hm| ⟨n0,n1⟩
 ·rw [hm];refine acw rfl ?_;refine ⟨_,rfl,q lw H2 _ s2 hlw h2 ?_⟩;have ew:Rv.walk r z=[z]:=by rw [Rv.oG hR z0 z1,hm,Rv.yO]
  rw [<- e,ew]
 ·have hd:(!decide (V.int (Rv.nxt r z)=V.int (-1)))=true:=by
   have:¬ Rv.nxt r z=-1:=by omega
   simp [this]
  rw [hd];refine j7 ?_;refine ⟨fun σ' H'=>∃ m',m'<Rv.mea r z/\∃ (pre:List Int)(z:Int),σ'=[some (.ref a),some (.int p),some (.ref lw)]/\Same H H'/\H' lw=some (.lst ((pre++[z]).map V.int))/\0<=z/\z<r.length/\pre++Rv.walk r z=Rv.walk r p/\m'=Rv.mea r z,fun _ _ x=>x,?_⟩;refine ⟨_,rfl,.inl ⟨rfl,_,SqL.of h2⟩,_,rfl,_,rfl,_,rfl,lw,_,_,_,rfl,rfl,SqL.of h2,Kw pre z,a,_,_,_,rfl,rfl,s2.seq hS,wj z0 g,lw,_,_,rfl,rfl,h2,aQ ?_,?_⟩
  ·rw [abW,adG];have:1<=(Rv.walk r z).length:=by rw [Rv.oG hR z0 z1];exact Nat.succ_le_succ (adY _)
   show pre.length+1<=_;omega
  ·refine ⟨_,Rv.aaX hR z0 z1,pre++[z],Rv.nxt r z,rfl,s2.upd hlw,?_,n0,n1,?_,rfl⟩
   ·rw [cC,adw (l₁:=pre++[z])];rfl
   ·rw [aej];show pre++(z::Rv.walk r (Rv.nxt r z))=_;rw [<- Rv.oG hR z0 z1];exact e
abbrev jj:Stmt:=top 27
theorem fV:aF ["below","start","reach","step"] ["below","start"] (ao jj):=by walk_at "sc"
inductive DW (K:Fa)(vs:Fs)(H:Hp)(Q:VK)(E:XK):Prop
 | mk (a:Addr)(r:List Int)(i:Nat)(_:vs=[.ref a,.int (i:Int)])(_:SqL K H a (r.map V.int))(_:Rv.inB r)(_:i<r.length)(_:r.length<=900)(_:Q (.bl (decide (Rv.uH r r.length (i:Int)=-1))) H)
structure Cst (mg:Fh):Prop where
 MOUTH:∃ t,mg "MOUTH"=some (.int (-1) t)
 MOST_REACHES:∃ t,mg "MOST_REACHES"=some (.int 40 t)
variable {jq:Addr}{jt:Ff}(cJ:Df K mg "comes_to_mouth" jj ["below","start"] jq jt)
include cJ in
theorem LR (B:Blt mg)(C:Cst mg):(CX0|||1) jq jt ["below","start"] (DW K):=by
 obtain ⟨tM,hMOUTH⟩:=C.MOUTH
 refine cJ.F.ok fV ?_ ?_
 walk_at "i"
 obtain ⟨a,r,i,rfl,hS,hB,hi,hn,q⟩:=h
 refine ⟨_,(cW (2<$>fV<$>(pv 1))
  (cW (nY ad3 rfl (iy rfl B.range (bG (aD aC rfl B.len adx (bG (pv 0) aj)) aj)) (3>>fV)
   (cW (2<$>fV<$>(aK au (pv 0) (pv 2) (fun _ _=>rfl)))
   (dj (bM (aG dU (pv 2) (bN (v:=.int (-1)) rfl hMOUTH ⟨_,rfl⟩) (aO _))
    (dj (aH vX))
    aL))))
  (dj (aH vX)))),?_⟩
 refine sl_2 ?_
 intro zu0 zu1 zu2 zu3 zu4
 refine ⟨_,rfl,_,rfl,a,_,rfl,.inl hS,_,rfl,by rw [abW];omega,by rw [abW];omega,?_⟩
 rw [abW,adN]
 refine lW (n:=r.length) (fun j σ H2=>∃ (v:Option V),σ=[some (.ref a),some (.int (i:Int)),some (.int (Rv.uH r j (i:Int))),v]/\H=H2/\(j=0\/Rv.uH r j (i:Int)≠-1)) ⟨none,rfl,rfl,.inl rfl⟩ ?_ ?_
 ·rintro j σ H2 hj ⟨v,rfl,rfl,hne⟩
  obtain ⟨b0,b1⟩:=Rv.Ey hB (p:=(i:Int)) (by omega) (by omega) j
  have hne':Rv.uH r j (i:Int)≠-1:=by
   rcases hne with e| e
   ·subst e
    show (i:Int)≠-1
    omega
   ·exact e
  have g:=Rv.o7 (r:=r) (p:=Rv.uH r j (i:Int)) (by omega) b1
  have es:Rv.nxt r (Rv.uH r j (i:Int))=Rv.uH r (j+1) (i:Int):=by
   rw [Rv.qg];unfold Rv.stp;rw [if_neg hne']
  rw [es] at g
  refine ⟨_,rfl,_,rfl,a,_,_,_,rfl,rfl,hS,wj (by omega) g,_,rfl,rfl,_,rfl,?_⟩
  refine acy (fun h=>?_) (fun h=>?_)
  ·have e:Rv.uH r (j+1) (i:Int)=-1:=by
    have:=of_decide_eq_true h
    exact V.int.inj this
   have e2:Rv.uH r r.length (i:Int)=-1:=by
    have:=Rv.Dz r (i:Int) e (r.length - (j+1))
    rw [show j+1+(r.length - (j+1))=r.length by omega] at this
    exact this
   rw [decide_eq_true e2] at q
   exact q
  ·refine ⟨_,rfl,rfl,.inr fun e=>h (decide_eq_true (by rw [e]))⟩
 ·rintro σ H2 ⟨v,rfl,rfl,hne⟩
  have e:¬ Rv.uH r r.length (i:Int)=-1:=by
   rcases hne with e| e
   ·omega
   ·exact e
  rw [decide_eq_false e] at q
  exact q
abbrev lU:Stmt:=top 28
theorem Cj:aF ["below"] ["below"] (ao lU):=by walk_at "sc"
inductive O7 (K:Fa)(vs:Fs)(H:Hp)(Q:VK)(E:XK):Prop
 | mk (a:Addr)(r:List Int)(_:vs=[.ref a])(_:SqL K H a (r.map V.int))(_:r.length<=900)(_:∀ H',Same H H'->Q (.bl (Rv.isR r)) H')
theorem Fl {α:Type}{p:α->Bool}{l:List α}:(l.map p).all id=l.all p:=by
 rw [List.all_map];rfl
theorem Y7 (r:List Int):(r.all fun x=>decide (-1<=x) && decide (x<(r.length:Int)))=decide (Rv.inB r):=by
 rw [aed];simp only [adO,ad4,decide_eq_true_eq];exact Iff.rfl
variable (oh:(CX0|||1) jq jt ["below","start"] (DW K))
variable {u5:Addr}{vm:Ff}(iU:Df K mg "is_river" lU ["below"] u5 vm)
include cJ oh iU in
theorem aaK (B:Blt mg)(C:Cst mg):(CX0|||2) u5 vm ["below"] (O7 K):=by
 obtain ⟨tM,hMOUTH⟩:=C.MOUTH
 obtain ⟨tR,mZ⟩:=C.MOST_REACHES
 refine iU.F.ok Cj ?_ ?_
 walk_at "i"
 obtain ⟨a,r,rfl,hS,hn,q⟩:=h
 refine ⟨_,(cW (bM (jd (mW qG qG ak (aD aC rfl B.len adx (bG (pv 0) aj)) (bN (v:=.int (40)) rfl mZ ⟨_,rfl⟩)))
   (dj (aH vX))
   aL)
  (cW (bM (jd (jx (aD (wu rfl) rfl B.all aeM (bG (jH (ao lU) rfl ["below"] rfl ["reach","below"] [none,some 0] (by decide+kernel) (by decide+kernel) (by decide+kernel) rfl (rF (pv 0)) (fun _ _ _=>(dR (i:=0) (show (["reach","below"]:List Str).Nodup by decide+kernel) rfl (Or.inl rfl))) (fun _ _ _=>jl) (fun _ _ _=>(zu qG Gd (bN (v:=.int (-1)) rfl hMOUTH ⟨_,rfl⟩) (pv 0) (aD (zN (K:=K) rfl) rfl B.len adx (bG (pv 1) aj))))) aj))))
   (dj (aH vX))
   aL)
  (dj (aH (aD (wu rfl) rfl B.all aeM (bG (jH (ao lU) rfl ["below"] rfl ["start","below"] [none,some 0] (by decide+kernel) (by decide+kernel) (by decide+kernel) rfl (iy rfl B.range (bG (aD aC rfl B.len adx (bG (pv 0) aj)) aj)) (fun _ _ _=>(dR (i:=0) (show (["start","below"]:List Str).Nodup by decide+kernel) rfl (Or.inl rfl))) (fun _ _ _=>jl) (fun _ _ _=>(cJ<*oh<*(bG (pv 1) (bG (pv 0) aj))))) aj)))))),?_⟩
 refine sl_3 ?_
 intro zu0 zu1 zu2 zu3
 refine ⟨_,rfl,a,_,rfl,.inl hS,_,_,rfl,rfl,_,rfl,?_⟩
 rw [abW]
 have no1:¬ (1<=r.length/\r.length<=40)->Q (.bl false) H:=fun h=>by
  have e:Rv.isR r=false:=by unfold Rv.isR;rw [decide_eq_false h];rfl
  have:=q H (Same.refl H)
  rw [e] at this
  exact this
 refine acy (fun h1=>⟨_,_,rfl,rfl,_,rfl,?_⟩) (fun h1=>⟨_,rfl,?_⟩)
 case refine_2=>exact j7 (no1 fun z=>h1 (decide_eq_true (by omega)))
 have g1:=of_decide_eq_true h1
 by_cases h2:r.length<=40
 case neg =>
  rw [decide_eq_false (by omega)]
  exact j7 (no1 fun z=>h2 z.2)
 rw [decide_eq_true (by omega)]
 refine lR ?_
 refine ⟨_,rfl,a,rfl,⟨_,hS⟩,fun acc hacc=>?_⟩
 refine pX (K:=K) (a:=a) (xs:=r.map V.int) (fun i τ H2=>∃ v,τ=[v,some (.ref a)]/\Same H H2/\H2 acc=some (.lst (((r.take i).map fun x=>decide (-1<=x) && decide (x<(r.length:Int))).map V.bl)))
  ⟨none,rfl,(Same.refl H).upd hacc,by rw [cC];rfl⟩ (fun i τ H2 _ ⟨_,_,s2,_⟩=>s2.seq hS) ?_ ?_
 ·rintro i y τ H2 hi ⟨v,rfl,s2,h2'⟩
  obtain ⟨z,hz,rfl⟩:=ints_get hi
  have hil:i<r.length:=(adl.mp hz).1
  have e:∀ b:Bool,b=(decide (-1<=z) && decide (z<(r.length:Int)))->((r.take i).map fun x=>decide (-1<=x) && decide (x<(r.length:Int))).map V.bl++[V.bl b]=((r.take (i+1)).map fun x=>decide (-1<=x) && decide (x<(r.length:Int))).map V.bl:=fun b hb=>by
   rw [ae0,hz,adw,adw,hb];rfl
  have hsz:(((r.take i).map fun x=>decide (-1<=x) && decide (x<(r.length:Int))).map V.bl).length<sizeLine:=aQ (by rw [abW,abW,adU];omega)
  refine K3 ?_
  refine ⟨_,rfl,_,_,rfl,rfl,_,rfl,?_⟩
  refine acy (fun h3=>?_) (fun h3=>?_)
  ·refine ⟨_,rfl,a,_,rfl,.inl (s2.seq hS),_,_,rfl,rfl,_,h2',hsz,_,rfl,s2.upd hacc,?_⟩
   rw [cC,e _ (by rw [h3,abW];rfl)]
  ·refine ⟨_,h2',hsz,_,rfl,s2.upd hacc,?_⟩
   have h3':decide (-1<=z)=false:=by simpa using h3
   rw [cC,e false (by rw [h3'];rfl)]
 ·rintro τ H2 ⟨v,rfl,s2,h2'⟩
  rw [abW,aev] at h2'
  refine ⟨acc,_,rfl,SqL.of h2',_,rfl,?_⟩
  rw [Fl,Y7]
  by_cases hB:Rv.inB r
  case neg =>
   rw [decide_eq_false hB]
   refine j7 ?_
   have e:Rv.isR r=false:=by unfold Rv.isR;rw [decide_eq_false hB,Bool.and_false];rfl
   have:=q H2 s2
   rw [e] at this
   exact this
  rw [decide_eq_true hB]
  refine lR ?_
  refine ⟨_,rfl,a,_,rfl,.inl (s2.seq hS),_,rfl,by rw [abW];omega,by rw [abW];omega,fun ac2 hac2=>?_⟩
  rw [abW,adN]
  have nac2:H ac2=none:=s2.free hac2
  refine qt (fun i τ H3=>∃ v,τ=[v,some (.ref a)]/\Same H H3/\H3 ac2=some (.lst (((List.range i).map fun (j:Nat)=>decide (Rv.uH r r.length (j:Int)=-1)).map V.bl))) ⟨none,rfl,s2.upd nac2,by rw [cC];rfl⟩ ?_ ?_
  ·rintro i τ H3 hi ⟨v,rfl,s3,h3⟩
   rw [show (0:Int)+(i:Int)=(i:Int) by omega]
   refine K3 ?_
   refine ⟨_,rfl,_,rfl,a,r,i,rfl,s3.seq hS,hB,hi,hn,?_⟩
   refine ⟨_,h3,aQ (by rw [abW,abW,aeD];omega),_,rfl,s3.upd nac2,?_⟩
   rw [cC,List.range_succ,adw,adw];rfl
  ·rintro τ H3 ⟨v,rfl,s3,h3⟩
   refine ⟨ac2,_,rfl,SqL.of h3,?_⟩
   have e:(((List.range r.length).map fun (j:Nat)=>decide (Rv.uH r r.length (j:Int)=-1)).all id)=Rv.isR r:=by
    unfold Rv.isR
    rw [Fl,decide_eq_true (show 1<=r.length/\r.length<=40 from ⟨by omega,h2⟩),decide_eq_true hB,Bool.true_and,Bool.true_and,aed]
    simp only [adO,aeu,decide_eq_true_eq]
   rw [e]
   exact q H3 s3
abbrev uN:Stmt:=top 5
theorem Ci:aF ["amount"] ["amount"] (ao uN):=by walk_at "sc"
inductive DK (vs:Fs)(H:Hp)(Q:VK)(E:XK):Prop
 | mk (z:Int)(_:vs=[.int z])(_:∀ b:Bool,(b=true↔(0<=z/\z<=1000000000000))->Q (.bl b) H)
variable {uZ:Addr}{vh:Ff}(eX:Df K mg "is_water" uN ["amount"] uZ vh)
include eX in
theorem Lx (CW:∃ t,mg "MOST_WATER"=some (.int 1000000000000 t)):(CX0|||1) uZ vh ["amount"] DK:=by
 obtain ⟨tW,CT⟩:=CW;refine eX.F.ok Ci ?_ ?_;walk_at "i";obtain ⟨z,rfl,q⟩:=h;refine ⟨_,(dj (aH (zu qG qG ak (pv 0) (bN (v:=.int (1000000000000)) rfl CT ⟨_,rfl⟩)))),?_⟩;walk_at "go"
 all_goals refine q _ ?_
 all_goals simp only [decide_eq_true_eq,Bool.false_eq_true,true_iff,false_iff]
 all_goals omega
abbrev oR:Stmt:=top 38
theorem gQ:aF ["below","one","day","start","back","most"] ["below","one"] (ao oR):=by walk_at "sc"
def oF (r:List Int)(l:Lic):Prop:=(0<=l.day/\l.day<=1000000/\0<=l.start/\l.start<r.length/\0<=l.most/\l.most<=1000000000000)/\(l.back=-1\/l.back∈(Rv.walk r l.start).drop 1)
inductive DP (K:Fa)(T:d8)(vs:Fs)(H:Hp)(Q:VK)(E:XK):Prop
 | mk (a t:Addr)(r:List Int)(l:Lic)(_:vs=[.ref a,.ref t])(_:SqL K H a (r.map V.int))(_:Rv.uy r)(_:r.length<=900)(_:SqT K H t (xX l))(_:TabsOk T H)(_:∀ (b:Bool)(H':Hp),aM T H H'->(b=true↔oF r l)->Q (.bl b) H')
variable (qy:(CX0|||1) uZ vh ["amount"] DK)
variable (Fp:(CX0|||1) zH zL ["below","reach"] (Oi K))
variable {pA:Addr}{pK:Ff}(dg:Df K mg "is_licence" oR ["below","one"] pA pK)
include nF eX qy Fp dg in
theorem LC (B:Blt mg)(C:Mth mg)(CD:∃ t,mg "LAST_DAY"=some (.int 1000000 t)):(CX0|||2) pA pK ["below","one"] (DP K T):=by
 obtain ⟨tM,hMOUTH⟩:=C.MOUTH
 obtain ⟨tD,J2⟩:=CD
 refine dg.F.ok gQ ?_ ?_
 walk_at "i"
 obtain ⟨a,t,r,l,rfl,hA,hR,hn,hT,tk,q⟩:=h
 have hml:((r.map V.int).length:Int)=(r.length:Int):=by rw [abW]
 have O:=Ow.refl tk
 have s0:=O.same
 have no:¬ (0<=l.day/\l.day<=1000000/\0<=l.start/\l.start<r.length/\0<=l.most/\l.most<=1000000000000)->Q (.bl false) H:=fun h=>q _ _ O.same ⟨(fun e=>by cases e),fun z=>absurd z.1 h⟩
 refine ⟨_,(cW (qM (pv 1) (uo rfl (aZ (2>>gQ) (aZ (3>>gQ) (aZ (4>>gQ) (aZ (5>>gQ) jo))))))
  (cW (bM (jd (PW.pt (pw_and (mW qG qG ak (pv 2) (bN (v:=.int (1000000)) rfl J2 ⟨_,rfl⟩)) (pw_and (mW qG Gd ak (pv 3) (aD aC rfl B.len adx (bG (pv 0) aj))) (pw_and1 (jx (eX<*qy<*(bG (pv 5) aj))))))))
   (dj (aH vX))
   aL)
  (dj (aH (aci (iI dU (pv 4) (bN (v:=.int (-1)) rfl hMOUTH ⟨_,rfl⟩) (aO _)) (Py (iI ur (pv 4) (jA qP (nF<*Fp<*(bG (pv 0) (bG (pv 3) aj))) (jm ak) uT) (by rfl)))))))),?_⟩
 refine sl_4 ?_
 intro zu0 zu1 zu2
 refine ⟨_,rfl,t,_,rfl,hT,rfl,_,_,rfl,_,_,rfl,_,_,rfl,_,_,rfl,rfl,?_⟩
 walk_at "go"
 all_goals first| (refine no ?_;omega) | skip
 intro b hb
 walk_at "go"
 ·have hm:=hb.mp (by assumption)
  have num:0<=l.day/\l.day<=1000000/\0<=l.start/\l.start<r.length/\0<=l.most/\l.most<=1000000000000:=by omega
  exact q _ _ O.same ⟨fun _=>⟨num,.inl (by omega)⟩,fun _=>rfl⟩
 ·have hm:=hb.mp (by assumption)
  have num:0<=l.day/\l.day<=1000000/\0<=l.start/\l.start<r.length/\0<=l.most/\l.most<=1000000000000:=by omega
  refine ⟨a,r,l.start,rfl,hA,hR,by omega,by omega,hn,O.got fun lw H2 xs O e=>?_⟩
  subst e
  refine ⟨1,rfl,lw,_,rfl,O.sq 0,fun l1 h1=>?_⟩
  walk_at "nw"
  rw [show zM ((Rv.walk r l.start).map V.int) (some 1) none=((Rv.walk r l.start).drop 1).map V.int from NK _ 1] at O
  refine ⟨l1,_,rfl,.inl (O.sq 0),rfl,J3 _,?_⟩
  rw [if_neg adv,Y5]
  refine q _ _ O.same ?_
  rw [decide_eq_true_iff]
  exact ⟨fun h=>⟨num,.inr h⟩,fun h=>h.2.resolve_left (by omega)⟩
 ·refine no fun z=>?_
  have:=hb.mpr ⟨z.2.2.2.2.1,z.2.2.2.2.2⟩
  simp_all
abbrev uP:Stmt:=top 138
theorem wI:aF ["script","k","cell"] ["script","k"] (ao uP):=by walk_at "sc"
inductive Ot (K:Fa)(T:d8)(vs:Fs)(H:Hp)(Q:VK)(E:XK):Prop
 | mk (a:Addr)(ns:List Int)(k:Nat)(_:vs=[.ref a,.int (k:Int)])(_:SqL K H a (ns.map V.int))(_:TabsOk T H)(_:∀ H',aM T H H'->Q (.int (ns.getD k 0)) H')
variable {u9:Addr}{vp:Ff}(fZ:Df K mg "_law_nth" uP ["script","k"] u9 vp)
include fZ in
theorem aaB:(CX0|||1) u9 vp ["script","k"] (Ot K T):=by
 refine fZ.F.ok wI ?_ ?_;walk_at "i";obtain ⟨a,ns,k,rfl,hS,tk,q⟩:=h;refine ⟨_,(cW (nY ad3 rfl (rF (jA qP (pv 0) (jm (pv 1)) (jm (aW kE (pv 1) ak)))) (2>>wI)
   (dj (aH (pv 2))))
  (dj (aH ak))),?_⟩
 refine sl_5 ?_;intro zu0 zu1;have O:=Ow.refl tk;refine ⟨_,rfl,_,rfl,(k:Int),rfl,_,rfl,_,_,rfl,rfl,_,rfl,a,_,rfl,hS,fun l hl=>?_⟩;walk_at "nw";rw [show zM (ns.map V.int) (some (k:Int)) (some ((k:Int)+1))=((ns.drop k).take 1).map V.int from by have e:=Kd ns k (k+1);rw [show k+1 - k=1 by omega] at e;exact e] at O;refine ⟨l,rfl,⟨_,O.sq 0⟩,?_⟩;refine Fb (K:=K) (xs:=((ns.drop k).take 1).map V.int) (fun i σ H'=>Iv (i=0/\σ=[some (.ref a),some (.int (k:Int)),none]/\Ow T H H' [(l,.lst (((ns.drop k).take 1).map V.int))]))
  ⟨trivial,rfl,rfl,O⟩ (fun i σ H' _ ⟨_,_,_,O⟩=>O.sq 0) ?_ ?_
 ·rintro i y σ H3 hy ⟨-,rfl,rfl,O⟩;obtain ⟨z,hz,rfl⟩:=ints_get hy;have e:ns.getD k 0=z:=by
   rw [List.getElem?_take,if_pos (by decide),List.getElem?_drop] at hz;rw [adS,show ns[k]?=some z from hz];rfl
  subst e;exact ⟨_,rfl,q _ O.same⟩
 rintro σ H3 ⟨-,e0,rfl,O⟩;have e:ns.getD k 0=0:=by
  rw [abW,adU,List.length_drop] at e0;rw [adS,aen (by omega)];rfl
 have z:=q _ O.same;rw [e] at z;exact z
abbrev j9:Stmt:=top 139
theorem jy:aF ["cell","many","drawn","k","base"] ["cell","many"] (ao j9):=by walk_at "sc"
inductive Hf (T:d8)(vs:Fs)(H:Hp)(Q:VK)(E:XK):Prop
 | mk (c:Int)(n:Nat)(_:vs=[.int c,.int (n:Int)])(_:n<=100)(_:TabsOk T H)(_:Gp T H (fun xs=>∃ ys:List Int,xs=ys.map V.int/\ys.length=n/\∀ y∈ys,0<=y/\y<600011003) Q)
variable {pG:Addr}{pQ:Ff}(bL:Df K mg "_law_draws" j9 ["cell","many"] pG pQ)
include bL in
theorem aaN (B:Blt mg):(CX0|||1) pG pQ ["cell","many"] (Hf T):=by
 refine bL.F.ok jy ?_ ?_;walk_at "i";obtain ⟨c,n,rfl,h1,tk,q⟩:=h;have O:=Ow.refl tk;refine ⟨_,(cW (2<$>jy<$>(bO aj))
  (cW (nY ad3 rfl (iy rfl B.range (bG (pv 1) aj)) (3>>jy)
   (cW (4<$>jy<$>(aW kE (aW kE (aW cA (pv 0) ak) (aW Bl ak (pv 3))) ak))
   (dj (bf (je adz adA adB bK (pv 2) (bG (aW cA (aW iK (aW Bl (aW Bl (pv 4) (pv 4)) (pv 4)) ak) ak) aj))))))
  (dj (aH (pv 2))))),?_⟩
 refine sl_6 ?_;intro zu0 zu1 zu2 zu3;refine ⟨szl,fun lw hlw=>?_⟩;walk_at "nw";refine ⟨_,rfl,(n:Int),rfl,by omega,by omega,?_⟩;rw [adN];refine lW (n:=n) (fun i σ H'=>Iv (∃ (v3 v4:Option V)(ys:List Int),σ=[some (.int c),some (.int (n:Int)),some (.ref lw),v3,v4]/\Ow T H H' [(lw,.lst (ys.map V.int))]/\ys.length=i/\∀ y∈ys,0<=y/\y<600011003)) ⟨trivial,none,none,[],rfl,O,rfl,fun y hy=>nomatch hy⟩ ?_ ?_
 ·clear O;rintro i σ H4 hi ⟨-,v3,v4,ys,rfl,O,hy,hyb⟩;rw [Int.zero_add];have a0:=adE c (show (777767777:Int)≠0 by decide);have a1:=ady c (show (0:Int)<777767777 by decide);have b0:(0:Int)<=c % 777767777+1217*(i:Int)+59:=by omega
  have b1:c % 777767777+1217*(i:Int)+59<1000000000:=by omega
  refine ⟨_,rfl,_,_,rfl,rfl,(by show (0:Int)<777767777;decide),_,rfl,_,_,rfl,rfl,.inl ⟨by decide,by decide⟩,_,_,rfl,rfl,_,_,rfl,rfl,?_⟩;refine ⟨_,rfl,.inl ⟨rfl,_,O.sq 0⟩,_,rfl,_,rfl,_,_,rfl,rfl,.inr ⟨by omega,by omega⟩,_,rfl,_,_,rfl,rfl,.inr ⟨by omega,by omega⟩,_,_,rfl,rfl,⟨by decide,by decide⟩,_,_,rfl,rfl,(by show (0:Int)<600011003;decide),lw,_,_,rfl,rfl,O.get 0,aQ (by rw [abW];omega),?_⟩;walk_at "pt";refine ⟨trivial,_,_,ys++[(c % 777767777+1217*(i:Int)+59)*(c % 777767777+1217*(i:Int)+59)*(c % 777767777+1217*(i:Int)+59) / 11 % 600011003],rfl,?_,by rw [adG,hy];rfl,fun y h=>?_⟩
  ·rw [adw];exact O
  ·rcases ad2.mp h with h| h
   ·exact hyb y h
   ·rw [adK.mp h];exact ⟨adE _ (by decide),ady _ (by decide)⟩
 clear O;rintro σ H4 ⟨-,v3,v4,ys,rfl,O,hy,hyb⟩;exact ⟨_,rfl,O.ret 0 rfl q ⟨ys,rfl,hy,hyb⟩⟩
theorem iR (x y:Str):(x++y).cps.toList=x.cps.toList++y.cps.toList:=by
 show (x.cps++y.cps).toList=_;simp
def J:List (Fn)->Fn
 | []=>[]
 | [w]=>w
 | w::v::ws=>w++32::J (v::ws)
theorem vJ:∀ ys:List Str,(Str.join (" ":Str) ys).cps.toList=J (ys.map fun x=>x.cps.toList)
 | []=>rfl
 | [x]=>rfl
 | x::y::ys=>by
  show ((x++(" ":Str))++Str.join (" ":Str) (y::ys)).cps.toList=_;rw [iR,iR,vJ (y::ys),show (" ":Str).cps.toList=[32] from rfl];show _=x.cps.toList++32::J ((y::ys).map fun x=>x.cps.toList);rw [aej];rfl
theorem Zm (a b:Fn):PyProof.Rows.cnt 32 (a++b)=PyProof.Rows.cnt 32 a+PyProof.Rows.cnt 32 b:=by
 induction a with
 | nil=>rw [List.nil_append,PyProof.Rows.cnt_nil,Int.zero_add]
 | cons x a ih=>rw [List.cons_append,aey,aey,ih];omega
theorem Kl (a:Fn):0<=PyProof.Rows.cnt 32 a:=by
 induction a with
 | nil=>rw [PyProof.Rows.cnt_nil];exact Int.le_refl _
 | cons x a ih=>rw [aey];split <;>omega
theorem NP {a:Fn}(h:PyProof.Rows.cnt 32 a=0):32 ∉ a:=by
 induction a with
 | nil=>exact fun h=>nomatch h
 | cons x a ih =>
  rw [aey] at h;have:=Kl a;intro hm;rcases adt.mp hm with e| e
  ·rw [if_pos e.symm] at h;omega
  ·split at h
   ·omega
   ·exact ih (by omega) e
theorem abN:∀ ws:List (Fn),ws≠[]->PyProof.Rows.cnt 32 (J ws)=(ws.map (PyProof.Rows.cnt 32)).sum+(ws.length:Int) - 1
 | [],h=>absurd rfl h
 | [w],_=>by show PyProof.Rows.cnt 32 w=(PyProof.Rows.cnt 32 w+0)+((0+1:Nat):Int) - 1;omega
 | w::v::ws,_=>by
  have ih:=abN (v::ws) (fun h=>nomatch h);show PyProof.Rows.cnt 32 (w++32::J (v::ws))=_;rw [Zm,aey,if_pos rfl,ih];simp only [adR,ae1,adF];omega
theorem Ld {ws:List (Fn)}(h:(ws.map (PyProof.Rows.cnt 32)).sum=0):∀ w∈ws,32 ∉ w:=by
 induction ws with
 | nil=>exact fun w hw=>nomatch hw
 | cons v ws ih =>
  simp only [adR,ae1] at h;have h1:=Kl v;have h2:0<=(ws.map (PyProof.Rows.cnt 32)).sum:=by
   clear ih h
   induction ws with
   | nil=>exact Int.le_refl _
   | cons u ws ih=>simp only [adR,ae1];have:=Kl u;omega
  intro w hw;rcases adt.mp hw with e| e
  ·rw [e];exact NP (by omega)
  ·exact ih (by omega) w e
def Good (x:Fn):Prop:=0<x.length/\x[0]?≠some 32/\x[x.length - 1]?≠some 32/\∀ i,¬ (x[i]?=some 32/\x[i+1]?=some 32)
theorem Br {w:Fn}(h:32 ∉ w)(i:Nat):w[i]?≠some 32:=fun e=>h (adp e)
theorem Ez:∀ ws:List (Fn),ws≠[]->(∀ w∈ws,32 ∉ w)->((∀ w∈ws,w≠[])↔Good (J ws))
 | [],h,_=>absurd rfl h
 | [w],_,h=>by
  have hw:=h w adM;show (∀ w'∈[w],w'≠[])↔Good w;constructor
  ·intro hn;have:=hn w adM;exact ⟨List.length_pos_iff.mpr this,Br hw _,Br hw _,fun i z=>Br hw _ z.1⟩
  ·intro g w' hw';rw [adK.mp hw'];exact List.length_pos_iff.mp g.1
 | w::v::ws,_,h=>by
  have hw:=h w adM;have ih:=Ez (v::ws) (fun h=>nomatch h) fun u hu=>h u (adI _ hu);show _↔Good (w++32::J (v::ws));generalize J (v::ws)=R at ih;have lt:∀ i,i<w.length->(w++32::R)[i]?=w[i]?:=fun i hi=>aeF hi;have eq:(w++32::R)[w.length]?=some 32:=by rw [aeB (ado _),Nat.sub_self];rfl
  have gt:∀ i,(w++32::R)[w.length+1+i]?=R[i]?:=fun i=>by
   rw [aeB (by omega),show w.length+1+i - w.length=i+1 by omega];rfl
  have ln:(w++32::R).length=w.length+1+R.length:=by rw [adG,adF];omega
  generalize w++32::R=X at lt eq gt ln;constructor
  ·intro hn;have hwn:=List.length_pos_iff.mpr (hn w adM);obtain ⟨g1,g2,g3,g4⟩:=ih.mp fun u hu=>hn u (adI _ hu);refine ⟨by omega,by rw [lt 0 hwn];exact Br hw _,?_,fun i ⟨z1,z2⟩=>?_⟩
   ·rw [show X.length - 1=w.length+1+(R.length - 1) by omega,gt];exact g3
   ·by_cases c1:i<w.length
    ·rw [lt i c1] at z1;exact Br hw _ z1
    ·by_cases c2:i=w.length
     ·rw [c2,show w.length+1=w.length+1+0 by omega,gt] at z2;exact g2 z2
     ·obtain ⟨j,rfl⟩:∃ j,i=w.length+1+j:=⟨i - w.length - 1,by omega⟩;rw [gt] at z1;rw [show w.length+1+j+1=w.length+1+(j+1) by omega,gt] at z2;exact g4 j ⟨z1,z2⟩
  ·intro ⟨g1,g2,g3,g4⟩ u hu;have hwn:w≠[]:=fun e=>by
    subst e;exact g2 eq
   have gR:Good R:=by
    have r0:0<R.length:=by
     rcases Nat.eq_zero_or_pos R.length with e| e
     ·exact absurd (by rw [show X.length - 1=w.length by omega];exact eq) g3
     ·exact e
    refine ⟨r0,fun z=>g4 w.length ⟨eq,by rw [show w.length+1=w.length+1+0 by omega,gt];exact z⟩,fun z=>g3 (by rw [show X.length - 1=w.length+1+(R.length - 1) by omega,gt];exact z),fun i ⟨z1,z2⟩=>g4 (w.length+1+i) ⟨by rw [gt];exact z1,by rw [show w.length+1+i+1=w.length+1+(i+1) by omega,gt];exact z2⟩⟩
   rcases adt.mp hu with e| e
   ·rw [e];exact hwn
   ·exact ih.mpr gR u e
variable {x:Str}
theorem Zk:x.cps.toList=[]↔x="":=by
 constructor
 ·intro h;cases x with
  | mk c =>
   have:c=#[]:=Array.toList_inj.mp h;rw [this];rfl
 ·intro h;rw [h];rfl
theorem yQ (x:Str):Txt.split x (" ":Str)≠[]:=fun h=>by
 have:=PyProof.Rows.split_pos x (" ":Str);rw [h] at this;exact absurd this (by decide)
theorem DG (x:Str):∀ y∈Txt.split x (" ":Str),32 ∉ y.cps.toList:=by
 have h1:=PyProof.Rows.split_len x 32;have h2:=vJ (Txt.split x (" ":Str));rw [aeW] at h2;have h3:=abN ((Txt.split x (" ":Str)).map fun x=>x.cps.toList) (fun z=>yQ x (aeR.mp z));rw [<- h2,abW] at h3;have h1:(((Txt.split x (" ":Str)).length:Nat):Int)=1+PyProof.Rows.cnt 32 x.cps.toList:=h1;intro y hy;exact Ld (ws:=(Txt.split x (" ":Str)).map fun x=>x.cps.toList) (by omega) _ (adW.mpr ⟨y,hy,rfl⟩)
theorem uI (x:Str):("":Str) ∉ Txt.split x (" ":Str)↔Good x.cps.toList:=by
 have h2:=vJ (Txt.split x (" ":Str));rw [aeW] at h2;rw [h2,<- Ez _ (fun z=>yQ x (aeR.mp z)) fun w hw=>by
  obtain ⟨y,hy,rfl⟩:=adW.mp hw;exact DG x y hy]
 constructor
 ·intro h w hw e;obtain ⟨y,hy,rfl⟩:=adW.mp hw;rw [Zk.mp e] at hy;exact h hy
 ·intro h hm;exact h _ (adW.mpr ⟨_,hm,rfl⟩) rfl
theorem CK (x:Str)(ns:List Str):inV (.str x) (ns.map V.str)=decide (x∈ns):=by
 unfold inV;rw [List.any_map,aed];simp only [List.any_eq_true,decide_eq_true_eq];constructor
 ·rintro ⟨y,hy,e⟩;have e':(y ==x)=true:=e;rw [<- eq_of_beq e'];exact hy
 ·intro h;exact ⟨x,h,show (x ==x)=true from beq_self_eq_true x⟩
theorem xr (ns:List Str):(ns.map V.str).all vY=true:=by
 rw [List.all_map,adO];intro _ _;rfl
def bI (x:Str):Prop:=1<=x.cps.size/\x.cps.size<=8/\∀ c∈x.cps.toList,97<=c/\c<=122
def Asc (x:Str):Prop:=x.cps.all (·<128)=true/\x.cps.size<=1000
theorem Gi:∀ c:Nat,c<128->(!(Builtin.Str.occurrences ("abcdefghijklmnopqrstuvwxyz":Str) ⟨#[c]⟩ 0 ("abcdefghijklmnopqrstuvwxyz":Str).length 1).isEmpty)=decide (97<=c/\c<=122):=by
 have h:∀ k:Fin 128,(!(Builtin.Str.occurrences ("abcdefghijklmnopqrstuvwxyz":Str) ⟨#[k.val]⟩ 0 ("abcdefghijklmnopqrstuvwxyz":Str).length 1).isEmpty)=decide (97<=k.val/\k.val<=122):=by decide+kernel
 exact fun c hc=>h ⟨c,hc⟩
abbrev ug:Stmt:=top 6
theorem FQ:aF ["text"] ["text"] (ao ug):=by walk_at "sc"
inductive Ae (T:d8)(vs:Fs)(H:Hp)(Q:VK)(E:XK):Prop
 | mk (x:Str)(_:vs=[.str x])(_:Asc x)(_:TabsOk T H)(_:∀ (b:Bool) H',(b=true↔bI x)->aM T H H'->Q (.bl b) H')
structure CN (mg:Fh):Prop where
 LONGEST_NAME:∃ t,mg "LONGEST_NAME"=some (.int 8 t)
 LETTERS:∃ t,mg "LETTERS"=some (.str "abcdefghijklmnopqrstuvwxyz" t)
variable {xG:Addr}{xM:Ff}(gj:Df K mg "is_name" ug ["text"] xG xM)
include gj in
theorem HX (B:Blt mg)(CN:CN mg):(CX0|||1) xG xM ["text"] (Ae T):=by
 obtain ⟨tM,zF⟩:=CN.LONGEST_NAME;obtain ⟨tL,hLETTERS⟩:=CN.LETTERS;refine gj.F.ok FQ ?_ ?_;walk_at "i";obtain ⟨x,rfl,⟨ha,hx⟩,tk,q⟩:=h;have hu:=hr.units;have O:=Ow.refl tk;refine ⟨_,(~~~(@aH _ _ _ _ (aan (zu qG qG ak (aD kI rfl B.len adx (pv 0>=>aj)) (bN (v:=.int (8)) rfl zF ⟨_,rfl⟩)) (Py (aD (wu rfl) rfl B.all aeM (jH (ao ug) rfl ["text"] rfl ["sign"] [none] (by decide+kernel) (by decide+kernel) (by decide+kernel) rfl (Px (pv 0)) (fun _ _ _=>(dR (i:=0) (show (["sign"]:List Str).Nodup by decide+kernel) rfl (Or.inl rfl))) (fun _ _ _=>jl) (fun _ _ _=>(iI Bm (pv 0) (bN (v:=.str "abcdefghijklmnopqrstuvwxyz") rfl hLETTERS ⟨_,rfl⟩) (by rfl)))>=>aj)))))),?_⟩;have hl:x.length=x.cps.size:=rfl;refine ⟨_,rfl,x,rfl,(by rw [hl,sizeLine_eq];omega),_,_,rfl,rfl,?_⟩;refine ⟨_,rfl,?_⟩;refine ifD (fun h1=>?_) (fun h1=>?_);rotate_left
 ·exact ⟨_,rfl,lR (q _ _ ⟨(fun z=>nomatch z),fun z=>absurd z.1 (by omega)⟩ O.same)⟩
 refine ⟨_,_,rfl,rfl,_,rfl,?_⟩;refine ifD (fun h2=>?_) (fun h2=>?_);rotate_left
 ·exact q _ _ ⟨(fun z=>nomatch z),fun z=>absurd z.2.1 (by omega)⟩ O.same
 refine ⟨_,rfl,x,rfl,ha,fun lw hlw=>?_⟩;refine Fe (fun i τ H'=>Iv (∃ (v0:Option V)(bs:List Bool),τ=[v0]/\bs.length=i/\(bs.all id=true↔∀ c∈x.cps.toList.take i,97<=c/\c<=122)/\Ow T H H' [(lw,.lst (bs.map V.bl))])) ⟨trivial,none,[],rfl,rfl,⟨(fun _ c hc=>nomatch hc),fun _=>rfl⟩,O.mk' hlw rfl⟩ ?_ ?_
 ·rintro i c τ H4 hc ⟨-,v0,bs,rfl,hbl,hb,O⟩;have hi:i<x.cps.size:=by
   rcases Nat.lt_or_ge i x.cps.size with h| h
   ·exact h
   ·rw [Array.getElem?_eq_none h] at hc;cases hc
  have hm:x.cps.toList[i]?=some c:=by rw [aeL];exact hc
  have hc128:c<128:=by
   have:=Array.all_eq_true.mp ha i hi;rw [Array.getElem?_eq_getElem hi] at hc;cases hc;exact of_decide_eq_true this
  refine K3 ?_;refine ⟨_,rfl,_,_,rfl,rfl,?_⟩;rw [Gi c hc128];refine ⟨_,O.get 0,aQ (by rw [abW];omega),?_⟩;walk_at "pt";refine ⟨trivial,_,bs++[decide (97<=c/\c<=122)],rfl,by rw [adG,hbl];rfl,?_,?_⟩
  ·rw [Tn.uc hm,List.all_append,ad4,hb];constructor
   ·rintro ⟨z1,z2⟩ y hy;rcases ad2.mp hy with h| h
    ·exact z1 y h
    ·rw [adK.mp h];simpa using z2
   ·intro z;exact ⟨fun y hy=>z y (aeE _ hy),by simpa using z c (Mv _ (adK.mpr rfl))⟩
  ·rw [adw];exact O
 rintro τ H4 ⟨-,v0,bs,rfl,hbl,hb,O⟩;refine ⟨lw,_,rfl,O.sq 0,?_⟩;rw [show x.cps.size=x.cps.toList.length by simp,aev] at hb;exact q _ _ ⟨fun z=>⟨by omega,by omega,hb.mp z⟩,fun z=>hb.mpr z.2.2⟩ O.same
abbrev lu:Stmt:=top 87
theorem wG:aF ["name"] ["name"] (ao lu):=by walk_at "sc"
inductive wC (T:d8)(cH:Addr)(vs:Fs)(H:Hp)(Q:VK)(E:XK):Prop
 | mk (x:Str)(_:vs=[.str x])(_:Asc x)(_:TabsOk T H)(_:(bI x->∀ H',aM T H H'->Q .non H'))(_:(¬ bI x->∀ (e:Addr)(H':Hp),aM T H H'->H' e=none->E (.ref cH) (some e) H'))
variable (uE:(CX0|||1) xG xM ["text"] (Ae T))
variable {lG:Addr}{lK:Ff}(bA:Df K mg "look_at_name" lu ["name"] lG lK)
include gj uE bA in
theorem Cu (gM:j8 K mg "NoHolder" cH):((CXE P w)|||2) lG lK ["name"] (wC T cH):=by
 refine bA.F.okX wG ?_ ?_
 walk_at "i"
 obtain ⟨x,rfl,ax,tk,q,qx⟩:=h
 refine ⟨_,(~~~(@bM _ _ _ _ _ _ _ _ (jd (jx (gj<*uE<*(pv 0>=>aj))))
   (~~~(bZ dw rfl (fun _ _ z=>z) rfl gM.m gM.q (aJ>=>aj)))
   aL)),?_⟩
 refine ⟨_,rfl,x,rfl,ax,tk,fun b H1 hb s1=>?_⟩
 cases b with
 | true=>exact ⟨_,rfl,lR (q (hb.mp rfl) _ s1)⟩
 | false=>exact ⟨_,rfl,j7 ⟨szl,fun e he=>qx (fun z=>nomatch hb.mpr z) e _ s1 he⟩⟩
def acO (x:Str):Prop:=∀ c∈x.cps.toList,c<128
theorem jK (x:Str):x.cps.toList.length=x.length:=by show _=x.cps.size;simp
theorem len_app (x y:Str):(x++y).length=x.length+y.length:=by rw [<- jK,iR,adG,jK,jK]
open PySem.NumText in
def KJ (x:Str):Prop:=1<=x.length/\x.length<=13/\AllDigits x.cps.toList/\(x=("0":Str)\/x.cps.toList[0]?≠some 48)
abbrev XF:Str:="0123456789"
theorem P0 (c:Nat):c∈XF.cps.toList↔48<=c/\c<=57:=by
 have e:XF.cps.toList=(List.range 10).map (48+ ·):=by decide+kernel
 rw [e,adW];constructor
 ·rintro ⟨k,hk,rfl⟩;have:=aeu.mp hk;omega
 ·intro h;exact ⟨c - 48,aeu.mpr (by omega),by omega⟩
def allIn (x s:Str):Bool:=x.cps.toList.all fun c=>decide (c∈s.cps.toList)
theorem BR (x s:Str):allIn x s=true↔∀ c∈x.cps.toList,c∈s.cps.toList:=by
 unfold allIn;rw [adO];exact ⟨fun h c hc=>of_decide_eq_true (h c hc),fun h c hc=>decide_eq_true (h c hc)⟩
variable {i:Nat}
theorem abH {c:Nat}(h:x.cps[i]?=some c):x.cps.toList[i]?=some c:=by rw [aeL];exact h
theorem Zr (h:acO x):x.cps.all (·<128)=true:=by
 rw [Array.all_eq_true];intro i hi;exact decide_eq_true (h _ (Array.getElem_mem_toList hi))
theorem take_all {s:Str}{c:Nat}(hc:x.cps[i]?=some c):((x.cps.toList.take (i+1)).map fun c=>decide (c∈s.cps.toList))=((x.cps.toList.take i).map fun c=>decide (c∈s.cps.toList))++[decide (c∈s.cps.toList)]:=by
 rw [Tn.uc (abH hc),adw];rfl
abbrev gb (n:Int):Str:=Str.ofString (toString n)
def acP:List Int->List Str
 | []=>["-"]
 | n::ns=>(n::ns).map gb
def rowOf (ns:List Int):Str:=Str.join (" ":Str) (acP ns)
variable {y:Str}
theorem Ca (h:x.cps.toList=y.cps.toList):x=y:=by
 cases x with
 | mk a=>cases y with
  | mk b=>exact congrArg Str.mk (Array.toList_inj.mp h)
theorem Dv:∀ {xs ys:List Str},(xs.map fun x=>x.cps.toList)=(ys.map fun x=>x.cps.toList)->xs=ys
 | [],[],_=>rfl
 | [],_::_,h=>nomatch h
 | _::_,[],h=>nomatch h
 | x::xs,y::ys,h=>by
  rw [adR,adR] at h;obtain ⟨h1,h2⟩:=ae2 h;rw [Ca h1,Dv h2]
theorem Ke:∀ {w v A B:Fn},32 ∉ w->32 ∉ v->w++32::A=v++32::B->w=v/\A=B
 | [],[],A,B,_,_,h=>⟨rfl,(ae2 h).2⟩
 | [],c::v,A,B,_,h2,h=>absurd (by rw [(ae2 h).1];exact adM) h2
 | c::w,[],A,B,h1,_,h=>absurd (by rw [<- (ae2 h).1];exact adM) h1
 | c::w,d::v,A,B,h1,h2,h=>by
  obtain ⟨e1,e2⟩:=ae2 h;obtain ⟨e3,e4⟩:=Ke (fun z=>h1 (adI _ z)) (fun z=>h2 (adI _ z)) e2;exact ⟨by rw [e1,e3],e4⟩
theorem abM:∀ ws vs:List (Fn),ws≠[]->vs≠[]->(∀ w∈ws,32 ∉ w)->(∀ w∈vs,32 ∉ w)->J ws=J vs->ws=vs
 | [],_,h,_,_,_,_=>absurd rfl h
 | _::_,[],_,h,_,_,_=>absurd rfl h
 | [w],[v],_,_,_,_,h=>by rw [show w=v from h]
 | [w],v::u::vs,_,_,h1,_,h=>by
  have h:w=v++32::J (u::vs):=h;exact absurd (by rw [h];exact Mv _ adM) (h1 w adM)
 | w::u::ws,[v],_,_,_,h2,h=>by
  have h:w++32::J (u::ws)=v:=h;exact absurd (by rw [<- h];exact Mv _ adM) (h2 v adM)
 | w::x::ws,v::u::vs,_,_,h1,h2,h=>by
  have h:w++32::J (x::ws)=v++32::J (u::vs):=h;obtain ⟨e1,e2⟩:=Ke (h1 w adM) (h2 v adM) h;rw [e1,abM (x::ws) (u::vs) (fun h=>nomatch h) (fun h=>nomatch h) (fun z hz=>h1 z (adI _ hz)) (fun z hz=>h2 z (adI _ hz)) e2]
theorem FJ {ts:List Str}(hn:ts≠[])(hb:∀ t∈ts,32 ∉ t.cps.toList):Txt.split (Str.join (" ":Str) ts) (" ":Str)=ts:=by
 refine Dv (abM _ _ (fun z=>yQ _ (aeR.mp z)) (fun z=>hn (aeR.mp z)) ?_ ?_ ?_)
 ·intro w hw;obtain ⟨y,hy,rfl⟩:=adW.mp hw;exact DG _ y hy
 ·intro w hw;obtain ⟨y,hy,rfl⟩:=adW.mp hw;exact hb y hy
 ·rw [<- vJ,aeW,vJ]
theorem abL:∀ ws:List (Fn),(J ws).length<=(ws.map List.length).sum+ws.length
 | []=>ado _
 | [w]=>by show w.length<=(w.length+0)+1;omega
 | w::v::ws=>by
  have ih:=abL (v::ws);show (w++32::J (v::ws)).length<=_;rw [adG,adF];simp only [adR,ae1,adF] at ih ⊢;omega
variable {ns:List Str}
theorem Aa {m:Nat}(h:∀ x∈ns,x.length<=m):(ns.map (·.length)).sum<=m*ns.length:=by
 induction ns with
 | nil=>exact ado _
 | cons x ns ih =>
  have h1:=h x adM;have h2:=ih fun y hy=>h y (adI _ hy);simp only [adR,ae1,adF];rw [Nat.mul_add];omega
variable {n:Int}
theorem mY (h0:0<=n)(h1:n<10 ^ 60):1<=(gb n).length/\(gb n).length<=60/\PySem.NumText.AllDigits (gb n).cps.toList:=by
 obtain ⟨m,rfl⟩:=adD h0;have hs:=PySem.W.KIN.signs_num m;have hl:(Str.ofString (toString ((m:Nat):Int))).length=(Nat.toDigits 10 m).length:=by rw [<- jK,hs,abW]
 refine ⟨?_,?_,?_⟩
 ·show 1<=(Str.ofString (toString ((m:Nat):Int))).length;rw [hl];exact PySem.toDigits_len_ge 10 m
 ·show (Str.ofString (toString ((m:Nat):Int))).length<=60;rw [hl];exact (Nat.length_toDigits_le_iff (by decide) (by decide)).mpr (by omega)
 ·intro c hc;have hc:c∈(Str.ofString (toString ((m:Nat):Int))).cps.toList:=hc;rw [hs] at hc;obtain ⟨ch,hch,e⟩:=adW.mp hc;have r:=PyProof.Rows.digit_range (Nat.isDigit_of_mem_toDigits (by decide) (by decide) hch);rw [<- e];omega
theorem wW (h0:0<=n)(h1:n<10 ^ 60):n.natAbs.log2<1920:=by
 by_cases e:n.natAbs=0
 ·rw [e];decide
 ·rw [Nat.log2_lt e];have:(10:Nat) ^ 60<2 ^ 1920:=by decide+kernel
  omega
theorem lead (m:Nat):0<m->∃ d,1<=d/\d<=9/\(Nat.toDigits 10 m)[0]?=some (Nat.digitChar d):=by
 induction m using Nat.strongRecOn with
 | _ m ih =>
  intro hm;by_cases h:m<10
  ·exact ⟨m,by omega,by omega,by rw [Nat.toDigits_of_lt_base h];rfl⟩
  ·obtain ⟨d,d1,d2,e⟩:=ih (m / 10) (by omega) (by omega);refine ⟨d,d1,d2,?_⟩;rw [Nat.toDigits_of_base_le (by decide) (by omega),aeF (PySem.toDigits_len_ge 10 _)];exact e
theorem Ij (h0:0<=n)(h1:n<10 ^ 13):KJ (gb n)/\((PySem.NumText.digitsVal (gb n).cps.toList:Nat):Int)=n:=by
 have nt:=mY h0 (by omega);obtain ⟨m,rfl⟩:=adD h0;have hs:(gb ((m:Nat):Int)).cps.toList=_:=PySem.W.KIN.signs_num m;have hl:(gb ((m:Nat):Int)).length=(Nat.toDigits 10 m).length:=by rw [<- jK,hs,abW]
 refine ⟨⟨nt.1,?_,nt.2.2,?_⟩,?_⟩
 ·rw [hl];exact (Nat.length_toDigits_le_iff (by decide) (by decide)).mpr (by omega)
 ·rcases Nat.eq_zero_or_pos m with e| e
  ·exact .inl (by rw [e];rfl)
  ·obtain ⟨d,d1,d2,e⟩:=lead m e;refine .inr ?_;rw [hs,adC,e];show some (Nat.digitChar d).toNat≠some 48;rw [zJ d (by omega)];intro z;have:=adP z;omega
 ·rw [hs,PySem.W.KIN.val_back]
theorem Yl {ns:List Int}(h:ns≠[]):acP ns=ns.map gb:=by
 cases ns with
 | nil=>exact absurd rfl h
 | cons _ _=>rfl
theorem MP {ns:List Int}(h:∀ n∈ns,0<=n/\n<10 ^ 60):((ns.map gb).map (·.length)).sum<=60*ns.length:=by
 have:=Aa (ns:=ns.map gb) (m:=60) fun x hx=>by
  obtain ⟨n,hn,rfl⟩:=adW.mp hx;exact (mY (h n hn).1 (h n hn).2).2.1
 rwa [abW] at this
theorem Nj (ts:List Str):(Str.join (" ":Str) ts).length<=(ts.map (·.length)).sum+ts.length:=by
 rw [<- jK,vJ];have:=abL (ts.map fun x=>x.cps.toList);rw [abW,List.map_map] at this;have e:ts.map (List.length ∘ fun x:Str=>x.cps.toList)=ts.map (·.length):=List.map_congr_left fun x _=>jK x;rwa [e] at this
theorem Cm (n:Int):rowOf [n]=gb n:=rfl
abbrev oO:Stmt:=top 97
theorem uf:aF ["row","words"] ["row"] (ao oO):=by walk_at "sc"
inductive aac (T:d8)(cR:Addr)(vs:Fs)(H:Hp)(Q:VK)(E:XK):Prop
 | mk (x:Str)(_:vs=[.str x])(_:x.length<=20000)(_:TabsOk T H)(_:(¬ Good x.cps.toList->∀ (e:Addr)(H':Hp),aM T H H'->H' e=none->E (.ref cR) (some e) H'))(_:(Good x.cps.toList->∀ l,H l=none->Q (.ref l) (upd H l (.lst ((Txt.split x (" ":Str)).map V.str)))))
variable (dF:j8 K mg "NoRow" cR)
variable {pq:Addr}{pJ:Ff}(fK:Df K mg "read_words" oO ["row"] pq pJ)
include dF fK in
theorem aco:((CXE P w)|||1) pq pJ ["row"] (aac T cR):=by
 refine fK.F.okX uf ?_ ?_
 walk_at "i"
 obtain ⟨x,rfl,hl,tk,qx,q⟩:=h
 have O:=Ow.refl tk
 refine ⟨_,(1<$>uf<$>(je ael PySem.F.slot_str_split PySem.F.type_str_split M5 (pv 0) (aJ>=>aj))<|>@bM _ _ _ _ _ _ _ _ (aG ur aJ (pv 1) (by rfl))
   (~~~(bZ dw rfl (fun _ _ z=>z) rfl dF.m dF.q (aJ>=>aj)))
   aL<|>(~~~(@aH _ _ _ _ (pv 1)))),?_⟩
 refine ⟨_,rfl,rfl,x,(" ":Str),rfl,rfl,rfl,by omega,fun l hl'=>?_⟩
 have O:=O.mk' hl' (o:=.lst ((Txt.split x (" ":Str)).map V.str)) rfl
 refine ⟨_,rfl,l,_,rfl,.inl (O.sq 0),rfl,xr _,?_⟩
 rw [if_neg adv,CK]
 refine ⟨_,rfl,ifD (fun h=>?_) (fun h=>?_)⟩
 ·exact ⟨szl,fun e he=>qx (fun g=>(uI x).mpr g h) e _ O.same he⟩
 ·exact ⟨_,rfl,q ((uI x).mp h) l hl'⟩
structure CF (mg:Fh):Prop where
 MOST_FIGURES:∃ t,mg "MOST_FIGURES"=some (.int 13 t)
 FIGURES:∃ t,mg "FIGURES"=some (.str "0123456789" t)
theorem Ds {c:Nat}:V.str (⟨#[c]⟩:Str)=V.str ("0":Str)↔c=48:=by
 constructor
 ·intro h;have h:=congrArg (fun z:Str=>z.cps.toList) (V.str.inj h);rw [show ("0":Str).cps.toList=[48] from rfl] at h;simpa using h
 ·intro h;rw [h];rfl
abbrev jz:Stmt:=top 98
theorem xY:aF ["word"] ["word"] (ao jz):=by walk_at "sc"
open PySem.NumText in
inductive aad (T:d8)(cR:Addr)(vs:Fs)(H:Hp)(Q:VK)(E:XK):Prop
 | mk (x:Str)(_:vs=[.str x])(_:acO x)(_:x.length<=1000)(_:TabsOk T H)(_:(¬ KJ x->∀ (e:Addr)(H':Hp),aM T H H'->H' e=none->E (.ref cR) (some e) H'))(_:(KJ x->∀ H',aM T H H'->Q (.int (digitsVal x.cps.toList:Nat)) H'))
variable {m6:Addr}{m9:Ff}(eH:Df K mg "read_number" jz ["word"] m6 m9)
include dF eH in
theorem acp (B:Blt mg)(CF:CF mg):((CXE P w)|||1) m6 m9 ["word"] (aad T cR):=by
 obtain ⟨tM,zE⟩:=CF.MOST_FIGURES
 obtain ⟨tL,hFIGURES⟩:=CF.FIGURES
 refine eH.F.okX xY ?_ ?_
 walk_at "i"
 obtain ⟨x,rfl,hA,hl,tk,qx,q⟩:=h
 have O:=Ow.refl tk
 refine ⟨_,(@bM _ _ _ _ _ _ _ _ (PW.pt (pw_or (jd (mW qG qG ak (aD kI rfl B.len adx (pv 0>=>aj)) (bN (v:=.int (13)) rfl zE ⟨_,rfl⟩))) (pw_or1 (jd (jx (aD (wu rfl) rfl B.all aeM (jH (ao jz) rfl ["word"] rfl ["sign"] [none] (by decide+kernel) (by decide+kernel) (by decide+kernel) rfl (Px (pv 0)) (fun _ _ _=>(dR (i:=0) (show (["sign"]:List Str).Nodup by decide+kernel) rfl (Or.inl rfl))) (fun _ _ _=>jl) (fun _ _ _=>(iI Bm (pv 0) (bN (v:=.str "0123456789") rfl hFIGURES ⟨_,rfl⟩) (by rfl)))>=>aj)))))))
   (~~~(bZ dw rfl (fun _ _ z=>z) rfl dF.m dF.q (aJ>=>aj)))
   aL<|>@bM _ _ _ _ _ _ _ _ (PW.pt (pw_and (aG dU (rG (pv 0) ak (fun _ _=>rfl)) aJ (aO _)) (pw_and1 (aG yj (pv 0) aJ (aO _)))))
   (~~~(bZ dw rfl (fun _ _ z=>z) rfl dF.m dF.q (aJ>=>aj)))
   aL<|>(~~~(@aH _ _ _ _ (bJ zO rfl B.int PyProof.Rows.boot_int (pv 0>=>aj))))),?_⟩
 refine ⟨_,rfl,x,rfl,(by rw [sizeLine_eq];omega),_,_,rfl,rfl,_,rfl,ifD (fun h1=>?_) (fun h1=>?_)⟩
 rotate_left
 ·exact ⟨_,rfl,j7 ⟨szl,fun e he=>qx (fun z=>h1 (by have:=z.1;omega)) e _ O.same he⟩⟩
 refine ⟨_,_,rfl,rfl,_,rfl,ifN (ifD (fun h2=>?_) (fun h2=>?_))⟩
 rotate_left
 ·exact ⟨szl,fun e he=>qx (fun z=>h2 (by have:=z.2.1;omega)) e _ O.same he⟩
 refine ⟨_,rfl,x,rfl,Zr hA,fun lw hlw=>?_⟩
 refine Fe (fun i τ H'=>Iv (∃ (v0:Option V),τ=[v0]/\Ow T H H' [(lw,.lst (((x.cps.toList.take i).map fun c=>decide (c∈XF.cps.toList)).map V.bl))])) ⟨trivial,none,rfl,O.mk' hlw rfl⟩ ?_ ?_
 ·clear O
  rintro i c τ H4 hc ⟨-,v0,rfl,O⟩
  refine K3 ?_
  refine ⟨_,rfl,_,_,rfl,rfl,?_⟩
  rw [show (!(Builtin.Str.occurrences ("0123456789":Str) ⟨#[c]⟩ 0 ("0123456789":Str).length 1).isEmpty)=decide (c∈XF.cps.toList) from PySem.StrLaws.found_one XF c]
  refine ⟨_,O.get 0,aQ (by rw [abW,abW,adU,jK];omega),?_⟩
  walk_at "pt"
  refine ⟨trivial,_,rfl,?_⟩
  rw [take_all hc,adw];exact O
 clear O
 rintro τ H4 ⟨-,v0,rfl,O⟩
 refine ⟨lw,_,rfl,O.sq 0,?_⟩
 rw [aee (by simp),List.all_map]
 show aa6 (V.bl (allIn x XF)) _
 refine ⟨_,rfl,ifN (ifB (fun h3=>?_) (fun h3=>?_))⟩
 rotate_left
 ·exact ⟨szl,fun e he=>qx (fun z=>by
   have:=(BR x XF).mpr fun c hc=>(P0 c).mpr (z.2.2.1 c hc)
   rw [this] at h3;cases h3) e _ O.same he⟩
 have hdig:PySem.NumText.AllDigits x.cps.toList:=fun c hc=>(P0 c).mp ((BR x XF).mp h3 c hc)
 have xl:=jK x
 obtain ⟨c0,hc0⟩:∃ c,x.cps.toList[0]?=some c:=⟨_,ada (by omega)⟩
 have hnil:x.cps.toList≠[]:=fun e=>by rw [e] at xl;have:(0:Nat)=x.length:=xl;omega
 have fin:(x=("0":Str)\/x.cps.toList[0]?≠some 48)->KJ x:=fun h=>⟨by omega,by omega,hdig,h⟩
 refine ⟨_,rfl,_,_,_,rfl,rfl,by decide,by decide,(by show (0:Int)<(x.length:Int);omega),(by rw [<- aeL];exact hc0),rfl,_,rfl,ifD (fun h4=>?_) (fun h4=>?_)⟩
 ·refine ⟨_,rfl,rfl,_,rfl,ifN (ifD (fun h5=>?_) (fun h5=>?_))⟩
  ·exact ⟨_,rfl,x,rfl,hdig,hnil,by omega,q (fin (.inl (V.str.inj h5))) _ O.same⟩
  ·exact ⟨szl,fun e he=>qx (fun z=>z.2.2.2.elim (fun e=>h5 (by rw [e])) fun e=>e (by rw [hc0,Ds.mp h4])) e _ O.same he⟩
 ·exact ⟨_,rfl,x,rfl,hdig,hnil,by omega,q (fin (.inr (by rw [hc0];exact fun e=>h4 (Ds.mpr (adP e))))) _ O.same⟩
theorem join_one (x:Str):Txt.join ("":Str) [x]=x:=by
 rw [qp];rfl
abbrev mj:Stmt:=top 100
theorem kZ:aF ["number","pieces","left","last"] ["number"] (ao mj):=by walk_at "sc"
inductive Ol (T:d8)(vs:Fs)(H:Hp)(Q:VK)(E:XK):Prop
 | mk (n:Int)(_:vs=[.int n])(_:0<=n)(_:n<10 ^ 60)(_:TabsOk T H)(_:∀ H',aM T H H'->Q (.str (Str.ofString (toString n))) H')
variable {m5:Addr}{m8:Ff}(eF:Df K mg "show_number" mj ["number"] m5 m8)
include eF in
theorem aaw (B:Blt mg):(CX0|||1) m5 m8 ["number"] (Ol T):=by
 refine eF.F.ok kZ ?_ ?_;walk_at "i";obtain ⟨n,rfl,h0,h1,tk,q⟩:=h;have O:=Ow.refl tk;have nt:=mY h0 h1;refine ⟨_,(1<$>kZ<$>(@bO _ _ _ _ aj)<|>2<$>kZ<$>(pv 0)<|>Ei ad3 (aG Cr (pv 2) (@aW _ _ _ _ _ _ _ _ wQ ak ak) (aO _)) Hx<|>bf (je adz adA adB bK (pv 1) (bJ dJ rfl B.str ad0 (pv 2>=>aj)>=>aj))<|>(~~~(@aH _ _ _ _ (Gb rfl aJ rfl B.reversed (pv 1>=>aj))))),?_⟩;refine ⟨szl,fun lp hlp=>?_⟩;walk_at "nw";refine ⟨_,rfl,?_⟩;refine ⟨fun _ σ H'=>Iv (σ=[some (.int n),some (.ref lp),some (.int n),none]/\Ow T H H' [(lp,.lst [])]),⟨0,trivial,rfl,O⟩,?_⟩;clear O;rintro m σ H4 ⟨-,rfl,O⟩;refine ⟨_,rfl,_,_,rfl,rfl,⟨by decide,by decide,by decide⟩,_,_,rfl,rfl,_,rfl,ifD (fun h=>?_) (fun _=>?_)⟩
 ·have:(10:Int) ^ (64:Int).toNat<=n:=h;have h60:(10:Int) ^ 60<(10:Int) ^ (64:Int).toNat:=by decide
  exact absurd this (Int.not_le.mpr (Int.lt_trans h1 h60))
 refine ⟨_,rfl,.inl ⟨rfl,_,O.sq 0⟩,_,rfl,_,rfl,wW h0 h1,lp,_,_,rfl,rfl,O.get 0,aQ (by decide),?_⟩;walk_at "pt";refine ⟨_,rfl,(by decide),_,rfl,lp,[gb n],rfl,O.sq 0,(by show (gb n).length+0+1<=1048576;omega),?_⟩;rw [show ([gb n]:List Str).reverse=[gb n] from rfl,join_one];exact q _ O.same
abbrev qj:Stmt:=top 101
theorem Ce:aF ["numbers"] ["numbers"] (ao qj):=by walk_at "sc"
inductive Ad (K:Fa)(T:d8)(vs:Fs)(H:Hp)(Q:VK)(E:XK):Prop
 | mk (a:Addr)(ns:List Int)(_:vs=[.ref a])(_:SqL K H a (ns.map V.int))(_:ns.length<=200)(_:(∀ n∈ns,0<=n/\n<10 ^ 60))(_:TabsOk T H)(_:∀ H',aM T H H'->Q (.str (rowOf ns)) H')
variable (uz:(CX0|||1) m5 m8 ["number"] (Ol T))
variable {uW:Addr}{vd:Ff}(dh:Df K mg "show_row" qj ["numbers"] uW vd)
include eF uz dh in
theorem aau (B:Blt mg):(CX0|||2) uW vd ["numbers"] (Ad K T):=by
 refine dh.F.ok Ce ?_ ?_
 walk_at "i"
 obtain ⟨a,ns,rfl,hS,hl,hb,tk,q⟩:=h
 have O:=Ow.refl tk
 refine ⟨_,(@bM _ _ _ _ _ _ _ _ (aG dU (aD aC rfl B.len adx (pv 0>=>aj)) ak (aO _))
   (~~~(@aH _ _ _ _ aJ))
   aL<|>(~~~(@aH _ _ _ _ (je ael aez aeA wU aJ (jH (ao qj) rfl ["numbers"] rfl ["number"] [none] (by decide+kernel) (by decide+kernel) (by decide+kernel) rfl (rF (pv 0)) (fun _ _ _=>(dR (i:=0) (show (["number"]:List Str).Nodup by decide+kernel) rfl (Or.inl rfl))) (fun _ _ _=>jl) (fun _ _ _=>(eF<*uz<*(pv 0>=>aj)))>=>aj))))),?_⟩
 refine ⟨_,rfl,a,_,rfl,.inl hS,rfl,_,rfl,ifI (fun h=>?_) (fun h=>?_)⟩
 ·have e:ns=[]:=by
   have h:(((ns.map V.int).length:Nat):Int)=0:=h
   rw [abW] at h
   exact List.length_eq_zero_iff.mp (by omega)
  subst e
  exact q _ O.same
 have hne:ns≠[]:=fun e=>h (by rw [e];rfl)
 refine ⟨rfl,_,rfl,a,rfl,⟨_,hS⟩,fun lw hlw=>?_⟩
 refine pX (K:=K) (xs:=ns.map V.int) (fun i τ H'=>Iv (∃ (v0:Option V),τ=[v0]/\Ow T H H' [(lw,.lst (((ns.take i).map gb).map V.str))])) ⟨trivial,none,rfl,O.mk' hlw rfl⟩ (fun i τ H' _ ⟨_,_,_,O⟩=>O.same.seq hS) ?_ ?_
 ·clear O
  rintro i y τ H4 hy ⟨-,v0,rfl,O⟩
  obtain ⟨c,hc,rfl⟩:=ints_get hy
  have hcb:=hb c (adp hc)
  refine K3 ?_
  refine ⟨_,rfl,c,rfl,hcb.1,hcb.2,O.same.t1,fun H5 s5=>?_⟩
  have O:=O.jB s5
  refine ⟨_,O.get 0,aQ (by rw [abW,abW,adU];omega),?_⟩
  walk_at "pt"
  refine ⟨trivial,_,rfl,?_⟩
  rw [Tn.uc hc,adw,adw];exact O
 clear O
 rintro τ H4 ⟨-,v0,rfl,O⟩
 rw [abW,aev] at O
 have hsum:=MP hb
 refine ⟨_,lw,ns.map gb,rfl,rfl,O.sq 0,(by show _+(ns.map gb).length*1<=100000;rw [abW];omega),?_⟩
 rw [qp,<- Yl hne]
 exact q _ O.same
structure Rs where
 p:Addr
 dx:Addr
 lb:Addr
 ll:Addr
 ln:Addr
 lo:Addr
abbrev PX (C:Addr)(A:Rs)(ex:List (Str × V))(day:Int):HO:=.ins C A.dx (("below",.ref A.lb)::("day",.int day)::("licences",.ref A.ll)::("names",.ref A.ln)::("done",.ref A.lo)::ex)
abbrev RX (C:Addr)(A:Rs)(ex:List (Str × V))(r:List Int)(day:Int)(us:Fs)(ns:List Str)(ds:Fs):Fr:=
 [(A.p,PX C A ex day),(A.dx,.own A.p),(A.lb,.lst (r.map V.int)),(A.ll,.lst us),(A.ln,.lst (ns.map V.str)),(A.lo,.lst ds)]
structure RC (K:Fa)(C:Addr):Prop where
 c:Cls K C
 nB:dW K C "below"
 nD:dW K C "day"
 nL:dW K C "licences"
 nN:dW K C "names"
 nO:dW K C "done"
theorem aaj (A:Rs)(ex:List (Str × V))(day:Int)(z:V):zU "day" z (("below",.ref A.lb)::("day",.int day)::("licences",.ref A.ll)::("names",.ref A.ln)::("done",.ref A.lo)::ex)=((("below",.ref A.lb)::("day",z)::("licences",.ref A.ll)::("names",.ref A.ln)::("done",.ref A.lo)::ex):List (Str × V)):=rfl
inductive Fq
 | turn
 | file (x:Str) (s m b:Int)
 | sell (n:Int) (y z:Str)
 | part (n:Int) (y:Str) (m:Int) (z:Str)
 | drop (n:Int) (y:Str)
 | move (n:Int) (y:Str) (s:Int)
 | lapse (xs:List Int)
def acG:Fq->PyData
 | .turn=>.tuple [.str "turn"]
 | .file x s m b=>.tuple [.str "file",.str x,.int s,.int m,.int b]
 | .sell n y z=>.tuple [.str "sell",.int n,.str y,.str z]
 | .part n y m z=>.tuple [.str "part",.int n,.str y,.int m,.str z]
 | .drop n y=>.tuple [.str "drop",.int n,.str y]
 | .move n y s=>.tuple [.str "move",.int n,.str y,.int s]
 | .lapse xs=>.tuple [.str "lapse",.tuple (xs.map PyData.int)]
structure RS where
 day:Int
 ls:List Lic
 ns:List Str
 ds:List Fq
inductive EK
 | number| yours| holder| licence| much| alone| full| river
structure Ec where
 number:Addr
 yours:Addr
 holder:Addr
 licence:Addr
 much:Addr
 alone:Addr
 full:Addr
 river:Addr
def Ec.at_ (c:Ec):EK->Addr
 | .number=>c.number| .yours=>c.yours| .holder=>c.holder| .licence=>c.licence| .much=>c.much| .alone=>c.alone| .full=>c.full| .river=>c.river
def wm (l:Lic)(m:Int):Lic:=⟨l.day,l.start,l.back,m⟩
def wst (l:Lic)(s:Int):Lic:=⟨l.day,s,l.back,l.most⟩
def qH (ls:List Lic)(d:Int):Nat->List Int
 | 0=>[]
 | i+1=>qH ls d i++(match ls[i]? with| some l=>if l.day=d/\0<l.most then [(i:Int)] else [] | none=>[])
def PL (ls:List Lic)(xs:List Int):List Lic:=List.zipWith (fun l x=>wm l (min l.most x)) ls xs
def RS.at_ (S:RS)(n:Int):Lic:=S.ls.getD n.toNat ⟨0,0,0,0⟩
open Classical in
noncomputable def RS.zQ (S:RS)(n:Int)(y:Str)(k:Except EK RS):Except EK RS:=
 if ¬ (0<=n/\n<S.ls.length) then .error .number else if S.ns[n.toNat]?≠some y then .error .yours else k
open Classical in
noncomputable def step (r:List Int)(S:RS):Fq->Except EK RS
 | .turn=>.ok ⟨S.day+1,S.ls,S.ns,S.ds++[.turn]⟩
 | .file x s m b=>if ¬ bI x then .error .holder else if m=0\/¬ oF r ⟨S.day,s,b,m⟩ then .error .licence else if 60<=S.ls.length then .error .full else
   .ok ⟨S.day,S.ls++[⟨S.day,s,b,m⟩],S.ns++[x],S.ds++[.file x s m b]⟩
 | .sell n y z=>S.zQ n y (if ¬ bI z then .error .holder else .ok ⟨S.day,S.ls,S.ns.set n.toNat z,S.ds++[.sell n y z]⟩)
 | .part n y m z=>S.zQ n y (if ¬ bI z then .error .holder else if ¬ (1<=m/\m<(S.at_ n).most) then .error .much else if qH S.ls (S.at_ n).day S.ls.length≠[n] then .error .alone else if 60<=S.ls.length then .error .full else
   .ok ⟨S.day,S.ls.set n.toNat (wm (S.at_ n) ((S.at_ n).most - m))++[wm (S.at_ n) m],S.ns++[z],S.ds++[.part n y m z]⟩)
 | .drop n y=>S.zQ n y (.ok ⟨S.day,S.ls.set n.toNat (wm (S.at_ n) 0),S.ns,S.ds++[.drop n y]⟩)
 | .move n y s=>S.zQ n y (if ¬ oF r (wst (S.at_ n) s) then .error .licence else .ok ⟨S.day,S.ls.set n.toNat (wst (S.at_ n) s),S.ns,S.ds++[.move n y s]⟩)
 | .lapse xs=>if xs.length≠S.ls.length then .error .number else if ¬ ∀ x∈xs,0<=x/\x<=1000000000000 then .error .much else
   .ok ⟨S.day,PL S.ls xs,S.ns,S.ds++[.lapse xs]⟩
inductive RA (K:Fa)(T:d8)(C:Addr)(A:Rs)(ex:List (Str × V))(r:List Int)(H0 H:Hp)(B:Fr)(S:RS):Prop
 | mk (us vs:Fs)(_:Ow T H0 H (RX C A ex r S.day us S.ns vs++B))(_:eO K H0 us (S.ls.map KY))(_:eO K H0 vs (S.ds.map acG))
structure acJ (ex:List (Str × V)):Prop where
 num:ex.lookup ("look_at_number":Str)=none
 hol:ex.lookup ("look_at_holder":Str)=none
 room:ex.lookup ("look_at_room":Str)=none
 ent:ex.lookup ("enter":Str)=none
 al:ex.lookup ("is_alone":Str)=none
 lmv:ex.lookup ("look_move":Str)=none
 lp:ex.lookup ("lapse":Str)=none
 tn:ex.lookup ("turn":Str)=none
 rl:ex.lookup ("roll":Str)=none
 hs:ex.lookup ("holders":Str)=none
 de:ex.lookup ("deeds":Str)=none
 td:ex.lookup ("today":Str)=none
 fi:ex.lookup ("file":Str)=none
 se:ex.lookup ("sell":Str)=none
 pa:ex.lookup ("part":Str)=none
 dr:ex.lookup ("drop":Str)=none
 mv:ex.lookup ("move":Str)=none
structure RP (r:List Int)(ex:List (Str × V))(S:RS):Prop where
 rv:Rv.uy r
 r40:r.length<=40
 nn:S.ns.length=S.ls.length
 l60:S.ls.length<=60
 dl:S.ds.length<=9000
 e9:ex.length<=100
 ex:acJ ex
def After (K:Fa)(T:d8)(C:Addr)(c:Ec)(A:Rs)(ex:List (Str × V))(r:List Int)(H0 H:Hp)(B:Fr)(S:RS)(d:Fq)(v:V)(Q:VK)(E:XK):Prop:=
 (∀ S',step r S d=.ok S'->∀ Hb H',aM T H0 Hb->RA K T C A ex r Hb H' B S'->Q v H')/\(∀ k,step r S d=.error k->∀ (e:Addr)(H':Hp),aM T H H'->H' e=none->E (.ref (c.at_ k)) (some e) H')
inductive uJ (K:Fa)(C:Addr)(y:Str)(vs:Fs)(H:Hp)(Q:VK)(E:XK):Prop
 | mk (p dx l:Addr)(fs:List (Str × V))(us:Fs)(_:vs=[.ref p])(_:H p=some (.ins C dx fs))(_:fs.lookup y=some (.ref l))(_:SqL K H l us)(_:∀ l',H l'=none->Q (.ref l') (upd H l' (.lst us)))
abbrev rA:Stmt:=inClass (top 88) 2
theorem Av:aF ["self"] ["self"] (ao rA):=by walk_at "sc"
variable {rY:Addr}{sZ:Ff}(bB:Dm K C "roll" "Roll.roll" rA ["self"] rY sZ)
include bB in
theorem Mt (B:Blt mg)(R:RC K C):(CX0|||1) rY sZ ["self"] (uJ K C "licences"):=by
 refine bB.F.ok Av ?_ ?_;walk_at "i";obtain ⟨p,dx,l,fs,us,rfl,hp,hf,hl,q⟩:=h;refine ⟨_,(dj (aH (bJ fH rfl B.list aef (bG (aY (pv 0) rfl) aj)))),?_⟩;exact ⟨_,rfl,p,C,dx,fs,.ref l,rfl,hp,R.c,R.nL,hf,l,us,rfl,.inl hl,q⟩
abbrev lD:Stmt:=inClass (top 88) 3
theorem wJ:aF ["self"] ["self"] (ao lD):=by walk_at "sc"
variable {lJ:Addr}{lN:Ff}(aV:Dm K C "holders" "Roll.holders" lD ["self"] lJ lN)
include aV in
theorem Cy (B:Blt mg)(R:RC K C):(CX0|||1) lJ lN ["self"] (uJ K C "names"):=by
 refine aV.F.ok wJ ?_ ?_;walk_at "i";obtain ⟨p,dx,l,fs,us,rfl,hp,hf,hl,q⟩:=h;refine ⟨_,(dj (aH (bJ fH rfl B.list aef (bG (aY (pv 0) rfl) aj)))),?_⟩;exact ⟨_,rfl,p,C,dx,fs,.ref l,rfl,hp,R.c,R.nN,hf,l,us,rfl,.inl hl,q⟩
abbrev qZ:Stmt:=inClass (top 88) 5
theorem Aq:aF ["self"] ["self"] (ao qZ):=by walk_at "sc"
inductive GQ (K:Fa)(T:d8)(C:Addr)(c:Ec)(vs:Fs)(H:Hp)(Q:VK)(E:XK):Prop
 | mk (A:Rs)(ex:List (Str × V))(H0:Hp)(B:Fr)(r:List Int)(S:RS)(_:vs=[.ref A.p])(_:RA K T C A ex r H0 H B S)(_:RP r ex S)(_:After K T C c A ex r H0 H B S .turn .non Q E)
variable {rT:Addr}{sX:Ff}(cL:Dm K C "turn" "Roll.turn" qZ ["self"] rT sX)
include cL in
theorem Mq (R:RC K C):(CX0|||1) rT sX ["self"] (GQ K T C c):=by
 refine cL.F.ok Aq ?_ ?_;walk_at "i";obtain ⟨A,ex,H0,L,r,S,rfl,⟨us,vs,O,d0,d1⟩,hp,q,-⟩:=h;have hvl:vs.length=S.ds.length:=by rw [d1.length,abW]
 have hdl:=hp.dl;have hel:=hp.e9;refine ⟨_,(cW (Hy (pv 0) ak aa8)
  (dj (bf (je adz adA adB bK (aY (pv 0) rfl) (bG (f9 (bG aJ aj)) aj))))),?_⟩
 refine sl_7 ?_;intro zu0;simp only [List.cons_append,List.nil_append] at O;refine ⟨_,rfl,A.p,C,A.dx,_,_,rfl,O.get 0,R.c,R.nD,rfl,_,_,rfl,rfl,A.dx,_,O.get 0,(by simp only [adF];omega),?_⟩;rw [aaj];walk_at "pt";refine ⟨_,rfl,A.p,C,A.dx,_,.ref A.lo,rfl,O.get 0,R.c,R.nO,rfl,.inl ⟨rfl,_,O.sq 5⟩,szl,fun t ht=>?_⟩;walk_at "nw";refine ⟨A.lo,_,_,rfl,rfl,O.get 6,aQ (by omega),?_⟩;walk_at "pt";obtain ⟨Hb,O,sb,e1⟩:=O.frz;refine q _ rfl Hb _ sb ⟨us,vs++[V.ref t],O,d0.mo sb,?_⟩;rw [adw];exact (d1.mo sb).append (.cons (.tuple (SqT.of e1) (.cons (.str _) .nil)) .nil)
abbrev oX:Stmt:=inClass (top 88) 13
theorem zc:aF ["self","one","holder"] ["self","one","holder"] (ao oX):=by walk_at "sc"
inductive DR (C:Addr)(vs:Fs)(H:Hp)(Q:VK)(E:XK):Prop
 | mk (A:Rs)(ex:List (Str × V))(day:Int)(us:Fs)(ns:Fs)(v x:V)(_:vs=[.ref A.p,v,x])(_:H A.p=some (PX C A ex day))(_:H A.ll=some (.lst us))(_:H A.ln=some (.lst ns))(_:us.length<=900)(_:ns.length<=900)(_:A.p≠A.ll)(_:A.p≠A.ln)(_:A.ln≠A.ll)(_:Q (.int us.length) (upd (upd H A.ll (.lst (us++[v]))) A.ln (.lst (ns++[x]))))
variable {pH:Addr}{pR:Ff}(bV:Dm K C "enter" "Roll.enter" oX ["self","one","holder"] pH pR)
include bV in
theorem Ib (B:Blt mg)(R:RC K C):(CX0|||1) pH pR ["self","one","holder"] (DR C):=by
 refine bV.F.ok zc ?_ ?_;walk_at "i";obtain ⟨A,ex,day,us,ns,v,x,rfl,hp,hl,hn,ul,nl,n1,n2,n3,q⟩:=h;refine ⟨_,(cW (bf (je adz adA adB bK (aY (pv 0) rfl) (bG (pv 1) aj)))
  (cW (bf (je adz adA adB bK (aY (pv 0) rfl) (bG (pv 2) aj)))
  (dj (aH (aW uq (aD aC rfl B.len adx (bG (aY (pv 0) rfl) aj)) ak))))),?_⟩
 refine acR ?_;intro zu0 zu1;refine ⟨_,rfl,A.p,C,A.dx,_,.ref A.ll,rfl,hp,R.c,R.nL,rfl,.inl ⟨rfl,_,SqL.of hl⟩,_,rfl,A.ll,_,_,rfl,rfl,hl,aQ (by omega),?_⟩;have hp:=(aX (H:=H) (o:=.lst (us++[v])) n1).trans hp;have hn:=(aX (H:=H) (o:=.lst (us++[v])) n3).trans hn;have hl:upd H A.ll (.lst (us++[v])) A.ll=some (.lst (us++[v])):=cC;refine ⟨_,rfl,A.p,C,A.dx,_,.ref A.ln,rfl,hp,R.c,R.nN,rfl,.inl ⟨rfl,_,SqL.of hn⟩,_,rfl,A.ln,_,_,rfl,rfl,hn,aQ (by omega),?_⟩;have hp:=(aX (o:=.lst (ns++[x])) n2).trans hp;have hl:=(aX (o:=.lst (ns++[x])) n3.symm).trans hl;refine ⟨_,rfl,A.p,C,A.dx,_,.ref A.ll,rfl,hp,R.c,R.nL,rfl,A.ll,_,rfl,.inl (SqL.of hl),_,_,rfl,rfl,?_⟩;dsimp only;rw [show (((us++[v]).length:Nat):Int) - 1=(us.length:Int) by rw [adG];simp];exact q
abbrev gw:Stmt:=inClass (top 88) 17
theorem qD:aF ["self"] ["self"] (ao gw):=by walk_at "sc"
inductive GX (K:Fa)(T:d8)(C cF:Addr)(vs:Fs)(H:Hp)(Q:VK)(E:XK):Prop
 | mk (A:Rs)(ex:List (Str × V))(day:Int)(us:Fs)(_:vs=[.ref A.p])(_:H A.p=some (PX C A ex day))(_:SqL K H A.ll us)(_:TabsOk T H)(_:(us.length<60->Q .non H))(_:(60<=us.length->∀ (e:Addr)(H':Hp),aM T H H'->H' e=none->E (.ref cF) (some e) H'))
variable {gA:Addr}{gB:Ff}(aP:Dm K C "look_at_room" "Roll.look_at_room" gw ["self"] gA gB)
include aP in
theorem Ms (B:Blt mg)(R:RC K C)(vK:j8 K mg "Full" cF)(CL:∃ t,mg "MOST_LICENCES"=some (.int 60 t)):((CXE P w)|||1) gA gB ["self"] (GX K T C cF):=by
 obtain ⟨tL,yr⟩:=CL
 refine aP.F.okX qD ?_ ?_
 walk_at "i"
 obtain ⟨A,ex,day,us,rfl,hp,hl,tk,q,qx⟩:=h
 refine ⟨_,(~~~(@bM _ _ _ _ _ _ _ _ (aG Cr (aD aC rfl B.len adx (aY (pv 0) rfl>=>aj)) (bN (v:=.int (60)) rfl yr ⟨_,rfl⟩) (aO _))
   (~~~(bZ dw rfl (fun _ _ z=>z) rfl vK.m vK.q (aJ>=>aj)))
   aL)),?_⟩
 refine ⟨_,rfl,A.p,C,A.dx,_,.ref A.ll,rfl,hp,R.c,R.nL,rfl,A.ll,_,rfl,.inl hl,_,_,rfl,rfl,_,rfl,ifD (fun h=>?_) (fun h=>?_)⟩
 ·have h:(60:Int)<=(us.length:Int):=h
  exact ⟨szl,fun e he=>qx (by omega) e H (aM.refl tk) he⟩
 ·have h:¬ (60:Int)<=(us.length:Int):=h
  exact q (by omega)
abbrev eY:Stmt:=inClass (top 88) 15
theorem oA:aF ["self","number"] ["self","number"] (ao eY):=by walk_at "sc"
inductive yx (K:Fa)(T:d8)(C cN:Addr)(vs:Fs)(H:Hp)(Q:VK)(E:XK):Prop
 | mk (A:Rs)(ex:List (Str × V))(day:Int)(us:Fs)(n:Int)(_:vs=[.ref A.p,.int n])(_:H A.p=some (PX C A ex day))(_:SqL K H A.ll us)(_:TabsOk T H)(_:(0<=n->n<us.length->Q .non H))(_:(¬ (0<=n/\n<us.length)->∀ (e:Addr)(H':Hp),aM T H H'->H' e=none->E (.ref cN) (some e) H'))
variable {fu:Addr}{fD:Ff}(bh:Dm K C "look_at_number" "Roll.look_at_number" eY ["self","number"] fu fD)
include bh in
theorem Cv (B:Blt mg)(R:RC K C)(dI:j8 K mg "NoNumber" cN):((CXE P w)|||1) fu fD ["self","number"] (yx K T C cN):=by
 refine bh.F.okX oA ?_ ?_
 walk_at "i"
 obtain ⟨A,ex,day,us,n,rfl,hp,hl,tk,q,qx⟩:=h
 refine ⟨_,(~~~(@bM _ _ _ _ _ _ _ _ (jd (mW qG Gd ak (pv 1) (aD aC rfl B.len adx (aY (pv 0) rfl>=>aj))))
   (~~~(bZ dw rfl (fun _ _ z=>z) rfl dI.m dI.q (aJ>=>aj)))
   aL)),?_⟩
 refine ⟨_,rfl,_,_,rfl,rfl,_,rfl,ifD (fun h1=>?_) (fun h1=>?_)⟩
 rotate_left
 ·refine ⟨_,rfl,j7 ⟨szl,fun e he=>qx (fun z=>h1 z.1) e H (aM.refl tk) he⟩⟩
 refine ⟨_,rfl,A.p,C,A.dx,_,.ref A.ll,rfl,hp,R.c,R.nL,rfl,A.ll,_,rfl,.inl hl,_,_,rfl,rfl,_,rfl,ifN (ifD (fun h2=>?_) (fun h2=>?_))⟩
 ·exact q h1 h2
 ·exact ⟨szl,fun e he=>qx (fun z=>h2 z.2) e H (aM.refl tk) he⟩
abbrev fj:Stmt:=inClass (top 88) 16
theorem oE:aF ["self","number","holder"] ["self","number","holder"] (ao fj):=by walk_at "sc"
inductive yC (K:Fa)(T:d8)(C cN cY:Addr)(vs:Fs)(H:Hp)(Q:VK)(E:XK):Prop
 | mk (A:Rs)(ex:List (Str × V))(day:Int)(us:Fs)(ns:List Str)(n:Int)(y:Str)(_:vs=[.ref A.p,.int n,.str y])(_:H A.p=some (PX C A ex day))(_:SqL K H A.ll us)(_:SqL K H A.ln (ns.map V.str))(_:us.length=ns.length)(_:acJ ex)(_:TabsOk T H)(_:(0<=n->n<ns.length->ns[n.toNat]?=some y->Q .non H))(_:(¬ (0<=n/\n<ns.length)->∀ (e:Addr)(H':Hp),aM T H H'->H' e=none->E (.ref cN) (some e) H'))(_:(0<=n->n<ns.length->ns[n.toNat]?≠some y->∀ (e:Addr)(H':Hp),aM T H H'->H' e=none->E (.ref cY) (some e) H'))
variable (aU:RC K C)
variable (jh:((CXE P w)|||1) fu fD ["self","number"] (yx K T C cN))
variable {fB:Addr}{fG:Ff}(aq:Dm K C "look_at_holder" "Roll.look_at_holder" fj ["self","number","holder"] fB fG)
include bh aU jh aq in
theorem Cw (B:Blt mg)(gJ:j8 K mg "NotYours" cY):
  ((CXE P w)|||2) fB fG ["self","number","holder"] (yC K T C cN cY):=by
 have R:=aU
 refine aq.F.okX oE ?_ ?_
 walk_at "i"
 obtain ⟨A,ex,day,us,ns,n,y,rfl,hp,hl,hn,hul,hex,tk,q,qN,qY⟩:=h
 refine ⟨_,(bf (cu (pv 0) aU.c bh.m jh hr.m bh.b .nil iJ (pv 1>=>aj))<|>(~~~(@bM _ _ _ _ _ _ _ _ (aG yj (@aK _ _ _ _ _ _ _ au (aY (pv 0) rfl) (pv 1) (fun _ _=>rfl)) (pv 2) (aO _))
   (~~~(bZ dw rfl (fun _ _ z=>z) rfl gJ.m gJ.q (aJ>=>aj)))
   aL))),?_⟩
 refine ⟨_,rfl,A.p,A.dx,_,rfl,hp,hex.num,_,rfl,A,ex,day,us,n,rfl,hp,hl,tk,fun h0 h1=>?_,fun h=>qN (fun z=>h (by omega))⟩
 obtain ⟨k,rfl⟩:=adD h0
 obtain ⟨x,hx⟩:∃ x,ns[k]?=some x:=⟨_,ada (by omega)⟩
 refine ⟨_,rfl,A.p,C,A.dx,_,.ref A.ln,rfl,hp,R.c,R.nN,rfl,_,rfl,A.ln,_,_,_,rfl,rfl,hn,dN (show (ns.map V.str)[k]?=some (.str x) by rw [adC,hx];rfl),_,rfl,rfl,_,rfl,ifN (ifD (fun h=>?_) (fun h=>?_))⟩
 ·exact q h0 (by omega) (by rw [adN,hx,V.str.inj h])
 ·refine ⟨szl,fun e he=>?_⟩
  exact qY h0 (by omega) (fun z=>h (by rw [adN,hx] at z;rw [adP z])) e H (aM.refl tk) he
abbrev qU:Stmt:=top 40
theorem Ao:aF ["one"] ["one"] (ao qU):=by walk_at "sc"
inductive Pb (K:Fa)(vs:Fs)(H:Hp)(Q:VK)(E:XK):Prop
 | mk (a:Addr)(l:Lic)(_:vs=[.ref a])(_:SqT K H a (xX l))(_:Q (.int l.day) H)
variable {rO:Addr}{sS:Ff}(fO:Df K mg "day_filed" qU ["one"] rO sS)
include fO in
theorem aaO:(CX0|||1) rO sS ["one"] (Pb K):=by
 refine fO.F.ok Ao ?_ ?_;walk_at "i";obtain ⟨a,l,rfl,hT,q⟩:=h;exact ⟨_,(~~~(@aH _ _ _ _ (@aK _ _ _ _ _ _ _ uw (pv 0) ak (fun _ _=>rfl)))),_,rfl,a,_,0,_,rfl,rfl,hT,rfl,q⟩
abbrev wK:Stmt:=top 43
theorem FP:aF ["one"] ["one"] (ao wK):=by walk_at "sc"
inductive G5 (K:Fa)(vs:Fs)(H:Hp)(Q:VK)(E:XK):Prop
 | mk (a:Addr)(l:Lic)(_:vs=[.ref a])(_:SqT K H a (xX l))(_:Q (.int l.most) H)
variable {xu:Addr}{xK:Ff}(fL:Df K mg "most_of" wK ["one"] xu xK)
include fL in
theorem YT:(CX0|||1) xu xK ["one"] (G5 K):=by
 refine fL.F.ok FP ?_ ?_;walk_at "i";obtain ⟨a,l,rfl,hT,q⟩:=h;exact ⟨_,(~~~(@aH _ _ _ _ (@aK _ _ _ _ _ _ _ uw (pv 0) ak (fun _ _=>rfl)))),_,rfl,a,_,3,_,rfl,rfl,hT,rfl,q⟩
abbrev qQ:Stmt:=top 45
theorem Aj:aF ["one","most"] ["one","most"] (ao qQ):=by walk_at "sc"
inductive Z9 (K:Fa)(vs:Fs)(H:Hp)(Q:VK)(E:XK):Prop
 | mk (a:Addr)(l:Lic)(m:Int)(_:vs=[.ref a,.int m])(_:SqT K H a (xX l))(_:∀ t,H t=none->Q (.ref t) (upd H t (.tup (xX (wm l m)))))
variable {rK:Addr}{sI:Ff}(dB:Df K mg "with_most" qQ ["one","most"] rK sI)
include dB in
theorem acn:(CX0|||1) rK sI ["one","most"] (Z9 K):=by
 refine dB.F.ok Aj ?_ ?_;walk_at "i";obtain ⟨a,l,m,rfl,hT,q⟩:=h;refine ⟨_,(~~~(@aH _ _ _ _ (@f9 _ _ _ _ _ (@aK _ _ _ _ _ _ _ uw (pv 0) ak (fun _ _=>rfl)>=>@aK _ _ _ _ _ _ _ uw (pv 0) ak (fun _ _=>rfl)>=>@aK _ _ _ _ _ _ _ uw (pv 0) ak (fun _ _=>rfl)>=>pv 1>=>aj)))),?_⟩;exact ⟨_,rfl,a,_,0,_,rfl,rfl,hT,rfl,_,rfl,a,_,1,_,rfl,rfl,hT,rfl,_,rfl,a,_,2,_,rfl,rfl,hT,rfl,_,rfl,szl,q⟩
abbrev oN:Stmt:=top 44
theorem yX:aF ["one","start"] ["one","start"] (ao oN):=by walk_at "sc"
inductive Oh (K:Fa)(vs:Fs)(H:Hp)(Q:VK)(E:XK):Prop
 | mk (a:Addr)(l:Lic)(m:Int)(_:vs=[.ref a,.int m])(_:SqT K H a (xX l))(_:∀ t,H t=none->Q (.ref t) (upd H t (.tup (xX (wst l m)))))
variable {o9:Addr}{pI:Ff}(c7:Df K mg "with_start" oN ["one","start"] o9 pI)
include c7 in
theorem aas:(CX0|||1) o9 pI ["one","start"] (Oh K):=by
 refine c7.F.ok yX ?_ ?_;walk_at "i";obtain ⟨a,l,m,rfl,hT,q⟩:=h;refine ⟨_,(~~~(@aH _ _ _ _ (@f9 _ _ _ _ _ (@aK _ _ _ _ _ _ _ uw (pv 0) ak (fun _ _=>rfl)>=>pv 1>=>@aK _ _ _ _ _ _ _ uw (pv 0) ak (fun _ _=>rfl)>=>@aK _ _ _ _ _ _ _ uw (pv 0) ak (fun _ _=>rfl)>=>aj)))),?_⟩;exact ⟨_,rfl,a,_,0,_,rfl,rfl,hT,rfl,_,rfl,_,rfl,a,_,2,_,rfl,rfl,hT,rfl,_,rfl,a,_,3,_,rfl,rfl,hT,rfl,szl,q⟩
theorem yu (ls:List Lic)(d:Int):∀ i,(qH ls d i).length<=i
 | 0=>ado _
 | i+1=>by
  have:=yu ls d i;unfold qH;rw [adG];split
  ·split <;>simp <;>omega
  ·simp;omega
abbrev gW:Stmt:=inClass (top 88) 14
theorem ji:aF ["self","number","day","taking"] ["self","number"] (ao gW):=by walk_at "sc"
inductive DY (K:Fa)(T:d8)(C:Addr)(vs:Fs)(H:Hp)(Q:VK)(E:XK):Prop
 | mk (A:Rs)(ex:List (Str × V))(day:Int)(us:Fs)(ls:List Lic)(n:Nat)(l:Lic)(_:vs=[.ref A.p,.int (n:Int)])(_:H A.p=some (PX C A ex day))(_:SqL K H A.ll us)(_:eO K H us (ls.map KY))(_:ls[n]?=some l)(_:ls.length<=64)(_:TabsOk T H)(_:∀ H',aM T H H'->Q (.bl (decide (qH ls l.day ls.length=[(n:Int)]))) H')
variable (tU:(CX0|||1) rO sS ["one"] (Pb K))
variable (pZ:(CX0|||1) xu xK ["one"] (G5 K))
variable {jM:Addr}{jQ:Ff}(cB:Dm K C "is_alone" "Roll.is_alone" gW ["self","number"] jM jQ)
include fO fL tU pZ cB in
theorem Ie (B:Blt mg)(R:RC K C):(CX0|||2) jM jQ ["self","number"] (DY K T C):=by
 refine cB.F.ok ji ?_ ?_;walk_at "i";obtain ⟨A,ex,day,us,ls,n,l,rfl,hp,hl,d0,hn,l64,tk,q⟩:=h;have hu:=hr.units;have O:=Ow.refl tk;have hul:us.length=ls.length:=by rw [d0.length,abW]
 obtain ⟨al,hal,hT⟩:=d0.vH hn;refine ⟨_,(cW (wN (i:=2) ji.nd rfl (Or.inr rfl) (fO<*tU<*(bG (aK au (aY (pv 0) rfl) (pv 1) (fun _ _=>rfl)) aj)))
  (cW (uR (i:=3) (ao gW) rfl ["self","number","day","taking"] rfl ["other","one","day"] [none,none,some 2] (by decide+kernel) (by decide+kernel) (by decide+kernel) rfl ji.nd rfl rfl (Cq rfl B.enumerate (bG (aY (pv 0) rfl) aj)) (fun _ _ _=>(zq (K:=K) (n:=2) rfl rfl (aZ (dR (i:=0) (show (["other","one","day"]:List Str).Nodup by decide+kernel) rfl (Or.inl rfl)) (aZ (dR (i:=1) (show (["other","one","day"]:List Str).Nodup by decide+kernel) rfl (Or.inl rfl)) jo)))) (fun _ _ _=>(Hw (PW.pt (pw_and (aG dU (fO<*tU<*(bG (pv 1) aj)) (pv 2) (aO _)) (pw_and1 (aG aaq (fL<*pZ<*(bG (pv 1) aj)) ak (aO _))))))) (fun _ _ _=>(pv 0)) rfl)
  (dj (aH (iI (aar hu) (pv 3) (bO (bG (pv 1) aj)) (aO _)))))),?_⟩
 refine acR ?_;intro zu0 zu1;refine ⟨_,rfl,A.p,C,A.dx,_,.ref A.ll,rfl,hp,R.c,R.nL,rfl,_,rfl,A.ll,_,_,_,rfl,rfl,hl,dN hal,al,l,rfl,hT,?_⟩;refine ⟨_,rfl,A.p,C,A.dx,_,.ref A.ll,rfl,hp,R.c,R.nL,rfl,A.ll,_,rfl,hl,fun lw hlw=>?_⟩;refine Kh (K:=K) (xs:=us) (fun i τ H'=>Iv (∃ (v0 v1:Option V),τ=[v0,v1,some (.int l.day)]/\Ow T H H' [(lw,.lst ((qH ls l.day i).map V.int))]))
  ⟨trivial,none,none,rfl,O.mk' hlw rfl⟩ (fun i τ H' _ ⟨_,_,_,_,O⟩=>hl.mo O.same) ?_ ?_
 ·rintro i y T0 τ H5 hy ⟨-,v0,v1,rfl,O⟩ hT0;obtain ⟨al,l2,rfl,hl2,hT2⟩:=d0.Y4 hy;have hi:=(adl.mp hl2).1;have ht:=yu ls l.day i;walk_at "nw";refine ⟨T0,_,rfl,O.sqT 0,rfl,_,_,rfl,_,_,rfl,rfl,?_⟩;have O:=O.tail;have hT3:=hT2.mo O.same;refine ⟨_,rfl,al,l2,rfl,hT3,_,rfl,rfl,_,rfl,ifI (fun hd=>?_) (fun hd=>?_)⟩
  ·refine ⟨_,rfl,al,l2,rfl,hT3,_,_,rfl,rfl,_,rfl,ifD (fun hm=>?_) (fun hm=>?_)⟩
   ·refine ⟨_,rfl,_,O.get 0,aQ (by rw [abW];omega),?_⟩;walk_at "pt";refine ⟨trivial,_,_,rfl,?_⟩;unfold qH;rw [hl2];simp only [if_pos (And.intro hd hm)];rw [adw];exact O
   ·refine ⟨trivial,_,_,rfl,?_⟩;unfold qH;rw [hl2];simp only [if_neg (fun z:l2.day=l.day/\0<l2.most=>hm z.2),List.append_nil];exact O
  ·refine ⟨trivial,_,_,rfl,?_⟩;unfold qH;rw [hl2];simp only [if_neg (fun z:l2.day=l.day/\0<l2.most=>hd z.1),List.append_nil];exact O
 rintro τ H5 ⟨-,v0,v1,rfl,O⟩;rw [hul] at O;refine ⟨_,rfl,_,rfl,szl,fun l0 hl0=>?_⟩;walk_at "nw";refine ⟨lw,l0,qH ls l.day ls.length,[(n:Int)],rfl,rfl,O.sq 1,O.sq 0,?_⟩;rw [if_neg adv];exact q _ O.same
variable {S:RS}
theorem Es {k:Nat}{l:Lic}(e:n=(k:Int))(h:S.ls[k]?=some l):S.at_ n=l:=by
 unfold RS.at_;rw [e,adN,adS,h];rfl
section
variable {K:Fa}{T:d8}{C:Addr}{c:Ec}{A:Rs}{ex:List (Str × V)}{r:List Int}{H0 H:Hp}{B:Fr}{S S':RS}{d:Fq}{v:V}{Q:VK}{E:XK}{n:Int}{y:Str}{k:Except EK RS}{ek:EK}
theorem N6 (h:¬ (0<=n/\n<S.ls.length)):S.zQ n y k=.error .number:=if_pos h
theorem Gn (h0:0<=n)(h1:n<S.ls.length)(h:S.ns[n.toNat]?≠some y):S.zQ n y k=.error .yours:=by unfold RS.zQ;rw [if_neg (not_not_intro ⟨h0,h1⟩),if_pos h]
theorem zP (h0:0<=n)(h1:n<S.ls.length)(h:S.ns[n.toNat]?=some y):S.zQ n y k=k:=by unfold RS.zQ;rw [if_neg (not_not_intro ⟨h0,h1⟩),if_neg (not_not_intro h)]
theorem After.zQ {k:Except EK RS}(q:After K T C c A ex r H0 H B S d v Q E)(hk:step r S d=S.zQ n y k)(hnn:S.ns.length=S.ls.length):
  (¬ (0<=n/\n<S.ns.length)->∀ (e:Addr)(H':Hp),aM T H H'->H' e=none->E (.ref c.number) (some e) H')/\(0<=n->n<S.ns.length->S.ns[n.toNat]?≠some y->∀ (e:Addr)(H':Hp),aM T H H'->H' e=none->E (.ref c.yours) (some e) H'):=
 ⟨fun h=>q.2 .number (hk.trans (N6 (by rw [<- hnn];exact h))),fun h0 h1 h=>q.2 .yours (hk.trans (Gn h0 (by rw [<- hnn];exact h1) h))⟩
end
abbrev rD:Stmt:=inClass (top 88) 9
theorem Aw:aF ["self","number","holder"] ["self","number","holder"] (ao rD):=by walk_at "sc"
inductive Hg (K:Fa)(T:d8)(C:Addr)(c:Ec)(vs:Fs)(H:Hp)(Q:VK)(E:XK):Prop
 | mk (A:Rs)(ex:List (Str × V))(H0:Hp)(B:Fr)(r:List Int)(S:RS)(n:Int)(y:Str)(_:vs=[.ref A.p,.int n,.str y])(_:RA K T C A ex r H0 H B S)(_:RP r ex S)(_:After K T C c A ex r H0 H B S (.drop n y) .non Q E)
variable (aR:((CXE P w)|||2) fB fG ["self","number","holder"] (yC K T C c.number c.yours))
variable (jW:(CX0|||1) rK sI ["one","most"] (Z9 K))
variable {sG:Addr}{tH:Ff}(cU:Dm K C "drop" "Roll.drop" rD ["self","number","holder"] sG tH)
include aU aq dB aR jW cU in
theorem Mz:((CXE P w)|||3) sG tH ["self","number","holder"] (Hg K T C c):=by
 have R:=aU;refine cU.F.okX Aw ?_ ?_;walk_at "i";obtain ⟨A,ex,H0,L,r,S,n,y,rfl,⟨us,vs,O,d0,d1⟩,hp,q⟩:=h;have hul:us.length=S.ls.length:=by rw [d0.length,abW]
 have hvl:vs.length=S.ds.length:=by rw [d1.length,abW]
 have hnn:=hp.nn;have hdl:=hp.dl;obtain ⟨qN,qY⟩:=After.zQ (n:=n) (y:=y) q rfl hnn;refine ⟨_,(bf (cu (pv 0) aU.c aq.m aR hr.m aq.b .nil iJ (pv 1>=>pv 2>=>aj))<|>qM (dB<*jW<*(@aK _ _ _ _ _ _ _ au (aY (pv 0) rfl) (pv 1) (fun _ _=>rfl)>=>ak>=>aj)) (Bh (aY (pv 0) rfl) (pv 1) set_list)<|>(~~~(bf (je adz adA adB bK (aY (pv 0) rfl) (@f9 _ _ _ _ _ (aJ>=>pv 1>=>pv 2>=>aj)>=>aj))))),?_⟩;refine ⟨_,rfl,A.p,A.dx,_,rfl,O.get 0,(by exact hp.ex.hol),_,rfl,_,rfl,A,ex,S.day,us,S.ns,n,y,rfl,O.get 0,O.sq 3,O.sq 4,by omega,hp.ex,O.same.t1,fun h0 h1 hx=>?_,qN,qY⟩;have hst:step r S (.drop n y)=.ok ⟨S.day,S.ls.set n.toNat (wm (S.at_ n) 0),S.ns,S.ds++[.drop n y]⟩:=zP h0 (by omega) hx;obtain ⟨k,rfl⟩:=adD h0;obtain ⟨l,hl⟩:∃ l,S.ls[k]?=some l:=⟨_,ada (by omega)⟩;obtain ⟨al,hal,hT⟩:=d0.vH hl;rw [Es rfl hl,adN] at hst;refine ⟨_,rfl,A.p,C,A.dx,_,.ref A.ll,rfl,O.get 0,R.c,R.nL,rfl,_,rfl,A.ll,_,_,_,rfl,rfl,O.sq 3,dN hal,al,l,0,rfl,hT.mo O.same,fun t1 ht1=>?_⟩;walk_at "nw";refine ⟨_,rfl,A.p,C,A.dx,_,.ref A.ll,rfl,O.get 1,R.c,R.nL,rfl,_,rfl,?_⟩;refine Em O 4 rfl (wZ (by omega)) fun H6 O=>?_;refine ⟨_,rfl,A.p,C,A.dx,_,.ref A.lo,rfl,O.get 1,R.c,R.nO,rfl,.inl ⟨rfl,_,O.sq 6⟩,_,rfl,_,rfl,szl,fun t2 ht2=>?_⟩;walk_at "nw";refine ⟨A.lo,_,_,rfl,rfl,O.get 7,aQ (by omega),?_⟩;generalize hE:upd _ _ _=Hn;have O:=Ow.uQ O 7 rfl hE rfl;have O:Ow T H0 Hn ((t2,.tup [.str "drop",.int (k:Int),.str y])::(t1,.tup (xX (wm l 0)))::(RX C A ex r S.day (us.set k (.ref t1)) S.ns (vs++[V.ref t2])++L)):=O;obtain ⟨Hb,O,sb,e2⟩:=O.frz;obtain ⟨Hc,O,sc,e1⟩:=O.frz;have e2:=sc.keep _ _ e2 (fun _ z=>nomatch z);refine q.1 _ hst Hc _ (sb.trans sc) ⟨us.set k (.ref t1),vs++[V.ref t2],O,?_,?_⟩
 ·rw [List.map_set];exact ((d0.mo sb).mo sc).set (Den.lic (l:=wm l 0) (SqT.of e1)) k
 ·rw [adw];exact ((d1.mo sb).mo sc).append (.cons (.tuple (SqT.of e2) (.cons (.str _) (.cons (.int _) (.cons (.str _) .nil)))) .nil)
abbrev rm:Stmt:=inClass (top 88) 7
theorem Ar:aF ["self","number","holder","to"] ["self","number","holder","to"] (ao rm):=by walk_at "sc"
inductive GR (K:Fa)(T:d8)(C:Addr)(c:Ec)(vs:Fs)(H:Hp)(Q:VK)(E:XK):Prop
 | mk (A:Rs)(ex:List (Str × V))(H0:Hp)(B:Fr)(r:List Int)(S:RS)(n:Int)(y z:Str)(_:vs=[.ref A.p,.int n,.str y,.str z])(_:RA K T C A ex r H0 H B S)(_:RP r ex S)(_:Asc z)(_:After K T C c A ex r H0 H B S (.sell n y z) .non Q E)
variable (eU:((CXE P w)|||2) lG lK ["name"] (wC T c.holder))
variable {rW:Addr}{sY:Ff}(cM:Dm K C "sell" "Roll.sell" rm ["self","number","holder","to"] rW sY)
include bA aU aq aR eU cM in
theorem Mr:((CXE P w)|||3) rW sY ["self","number","holder","to"] (GR K T C c):=by
 have R:=aU;refine cM.F.okX Ar ?_ ?_;walk_at "i";obtain ⟨A,ex,H0,L,r,S,n,y,z,rfl,⟨us,vs,O,d0,d1⟩,hp,az,q⟩:=h;have hul:us.length=S.ls.length:=by rw [d0.length,abW]
 have hvl:vs.length=S.ds.length:=by rw [d1.length,abW]
 have hnn:=hp.nn;have hdl:=hp.dl;obtain ⟨qN,qY⟩:=After.zQ (n:=n) (y:=y) q rfl hnn;refine ⟨_,(bf (cu (pv 0) aU.c aq.m aR hr.m aq.b .nil iJ (pv 1>=>pv 2>=>aj))<|>bf (bA*>eU*>(pv 3>=>aj))<|>qM (pv 3) (Bh (aY (pv 0) rfl) (pv 1) set_list)<|>(~~~(bf (je adz adA adB bK (aY (pv 0) rfl) (@f9 _ _ _ _ _ (aJ>=>pv 1>=>pv 2>=>pv 3>=>aj)>=>aj))))),?_⟩;refine ⟨_,rfl,A.p,A.dx,_,rfl,O.get 0,(by exact hp.ex.hol),_,rfl,_,rfl,A,ex,S.day,us,S.ns,n,y,rfl,O.get 0,O.sq 3,O.sq 4,by omega,hp.ex,O.same.t1,fun h0 h1 hx=>?_,qN,qY⟩;have hst:step r S (.sell n y z)=_:=zP h0 (by omega) hx;refine ⟨_,rfl,z,rfl,az,O.same.t1,fun nz H2 s2=>?_,fun nz e H' s' he=>q.2 .holder (hst.trans (if_pos nz)) e H' s' he⟩;have hst:=hst.trans (if_neg (not_not_intro nz));have O:=O.jB s2;obtain ⟨k,rfl⟩:=adD h0;rw [adN] at hst;refine ⟨_,rfl,_,rfl,A.p,C,A.dx,_,.ref A.ln,rfl,O.get 0,R.c,R.nN,rfl,_,rfl,?_⟩;refine Em O 4 rfl (wZ (by rw [abW];omega)) fun H6 O=>?_;refine ⟨_,rfl,A.p,C,A.dx,_,.ref A.lo,rfl,O.get 0,R.c,R.nO,rfl,.inl ⟨rfl,_,O.sq 5⟩,_,rfl,_,rfl,_,rfl,szl,fun t2 ht2=>?_⟩;walk_at "nw";refine ⟨A.lo,_,_,rfl,rfl,O.get 6,aQ (by omega),?_⟩;generalize hE:upd _ _ _=Hn;have O:=Ow.uQ O 6 rfl hE rfl;obtain ⟨Hb,O,sb,e2⟩:=(show Ow T H0 Hn ((t2,.tup [.str "sell",.int (k:Int),.str y,.str z])::(RX C A ex r S.day us (S.ns.set k z) (vs++[V.ref t2])++L) ) from by simp only [RX,List.map_set];exact O).frz;refine q.1 _ hst Hb _ sb ⟨us,vs++[V.ref t2],O,d0.mo sb,?_⟩;rw [adw];exact (d1.mo sb).append (.cons (.tuple (SqT.of e2) (.cons (.str _) (.cons (.int _) (.cons (.str _) (.cons (.str _) .nil))))) .nil)
abbrev rB:Stmt:=inClass (top 88) 8
theorem vC:aF ["self","number","holder","most","to","one"] ["self","number","holder","most","to"] (ao rB):=by walk_at "sc"
inductive G3 (K:Fa)(T:d8)(C:Addr)(c:Ec)(vs:Fs)(H:Hp)(Q:VK)(E:XK):Prop
 | mk (A:Rs)(ex:List (Str × V))(H0:Hp)(B:Fr)(r:List Int)(S:RS)(n:Int)(y:Str)(m:Int)(z:Str)(_:vs=[.ref A.p,.int n,.str y,.int m,.str z])(_:RA K T C A ex r H0 H B S)(_:RP r ex S)(_:Asc z)(_:After K T C c A ex r H0 H B S (.part n y m z) (.int (S.ls.length:Int)) Q E)
variable (p8:(CX0|||2) jM jQ ["self","number"] (DY K T C))
variable (d9:((CXE P w)|||1) gA gB ["self"] (GX K T C c.full))
variable (kW:(CX0|||1) pH pR ["self","one","holder"] (DR C))
variable {rZ:Addr}{tu:Ff}(cO:Dm K C "part" "Roll.part" rB ["self","number","holder","most","to"] rZ tu)
include bA bV aP aU aq fL dB pZ cB aR jW eU p8 d9 kW cO in
theorem Mu (B:Blt mg)(jg:j8 K mg "TooMuch" c.much)(gK:j8 K mg "NotAlone" c.alone):
  ((CXE P w)|||3) rZ tu ["self","number","holder","most","to"] (G3 K T C c):=by
 have R:=aU
 refine cO.F.okX vC ?_ ?_
 walk_at "i"
 obtain ⟨A,ex,H0,L,r,S,n,y,m,z,rfl,⟨us,vs,O,d0,d1⟩,hp,az,q⟩:=h
 have hul:us.length=S.ls.length:=by rw [d0.length,abW]
 have hvl:vs.length=S.ds.length:=by rw [d1.length,abW]
 have hnn:=hp.nn
 have hdl:=hp.dl
 have hl60:=hp.l60
 obtain ⟨qN,qY⟩:=After.zQ (n:=n) (y:=y) q rfl hnn
 refine ⟨_,(bf (cu (pv 0) aU.c aq.m aR hr.m aq.b .nil iJ (pv 1>=>pv 2>=>aj))<|>bf (bA*>eU*>(pv 4>=>aj))<|>5<$>vC<$>(@aK _ _ _ _ _ _ _ au (aY (pv 0) rfl) (pv 1) (fun _ _=>rfl))<|>@bM _ _ _ _ _ _ _ _ (jd (mW qG Gd ak (pv 3) (fL<*pZ<*(pv 5>=>aj))))
   (~~~(bZ dw rfl (fun _ _ z=>z) rfl jg.m jg.q (aJ>=>aj)))
   aL<|>@bM _ _ _ _ _ _ _ _ (jd (jx (cu (pv 0) aU.c cB.m p8 hr.m cB.b .nil oZ (pv 1>=>aj))))
   (~~~(bZ dw rfl (fun _ _ z=>z) rfl gK.m gK.q (aJ>=>aj)))
   aL<|>bf (iz (pv 0) aU.c aP.m d9 hr.m aP.b .nil iJ)<|>qM (dB<*jW<*(pv 5>=>@aW _ _ _ _ _ _ _ _ uq (fL<*pZ<*(pv 5>=>aj)) (pv 3)>=>aj)) (Bh (aY (pv 0) rfl) (pv 1) set_list)<|>bf (je adz adA adB bK (aY (pv 0) rfl) (@f9 _ _ _ _ _ (aJ>=>pv 1>=>pv 2>=>pv 3>=>pv 4>=>aj)>=>aj))<|>(~~~(@aH _ _ _ _ (cu (pv 0) aU.c bV.m kW hr.m bV.b .nil oZ (dB<*jW<*(pv 5>=>pv 3>=>aj)>=>pv 4>=>aj))))),?_⟩
 refine ⟨_,rfl,A.p,A.dx,_,rfl,O.get 0,(by exact hp.ex.hol),_,rfl,_,rfl,A,ex,S.day,us,S.ns,n,y,rfl,O.get 0,O.sq 3,O.sq 4,by omega,hp.ex,O.same.t1,fun h0 h1 hx=>?_,qN,qY⟩
 have hst:step r S (.part n y m z)=_:=zP h0 (by omega) hx
 refine ⟨_,rfl,z,rfl,az,O.same.t1,fun nz H2 s2=>?_,fun nz e H' s' he=>q.2 .holder (hst.trans (if_pos nz)) e H' s' he⟩
 have hst:=hst.trans (if_neg (not_not_intro nz))
 have O:=O.jB s2
 obtain ⟨k,rfl⟩:=adD h0
 obtain ⟨l,hl⟩:∃ l,S.ls[k]?=some l:=⟨_,ada (by omega)⟩
 obtain ⟨al,hal,hT⟩:=d0.vH hl
 rw [Es rfl hl,adN] at hst
 refine ⟨_,rfl,A.p,C,A.dx,_,.ref A.ll,rfl,O.get 0,R.c,R.nL,rfl,_,rfl,A.ll,_,_,_,rfl,rfl,O.sq 3,dN hal,?_⟩
 refine ⟨_,rfl,?_⟩
 have hTm:=hT.mo O.same
 refine ⟨_,_,rfl,rfl,_,rfl,?_⟩
 refine ifD (fun h1=>?_) (fun h1=>?_)
 rotate_left
 ·refine ⟨_,rfl,j7 ⟨szl,fun e he=>?_⟩⟩
  exact q.2 .much (hst.trans (if_pos fun z=>h1 z.1)) e _ s2 he
 refine ⟨_,rfl,al,l,rfl,hTm,_,_,rfl,rfl,_,rfl,ifN (ifD (fun h2=>?_) (fun h2=>?_))⟩
 rotate_left
 ·refine ⟨szl,fun e he=>?_⟩
  exact q.2 .much (hst.trans (if_pos fun z=>h2 z.2)) e _ s2 he
 have hst:=hst.trans (if_neg (not_not_intro ⟨h1,h2⟩))
 refine ⟨_,rfl,A.p,A.dx,_,rfl,O.get 0,(by exact hp.ex.al),_,rfl,A,ex,S.day,us,S.ls,k,l,rfl,O.get 0,O.sq 3,d0.mo O.same,hl,by omega,O.same.t1,fun H3 s3=>?_⟩
 have O:=O.jB s3
 have hTm:=hT.mo O.same
 refine ⟨_,rfl,ifN (ifD (fun h3=>?_) (fun h3=>?_))⟩
 rotate_left
 ·refine ⟨szl,fun e he=>?_⟩
  exact q.2 .alone (hst.trans (if_pos h3)) e _ (s2.trans s3) he
 have hst:=hst.trans (if_neg (not_not_intro h3))
 refine ⟨_,rfl,A.p,A.dx,_,rfl,O.get 0,(by exact hp.ex.room),A,ex,S.day,us,rfl,O.get 0,O.sq 3,O.same.t1,fun h4=>?_,fun h4 e H' s' he=>q.2 .full (hst.trans (if_pos (by omega))) e H' ((s2.trans s3).trans s') he⟩
 have hst:=hst.trans (if_neg (by omega))
 refine ⟨_,rfl,_,rfl,al,l,rfl,hTm,_,rfl,_,_,rfl,rfl,al,l,_,rfl,hTm,fun t1 ht1=>?_⟩
 walk_at "nw"
 refine ⟨_,rfl,A.p,C,A.dx,_,.ref A.ll,rfl,O.get 1,R.c,R.nL,rfl,_,rfl,?_⟩
 refine Em O 4 rfl (wZ (by omega)) fun H6 O=>?_
 refine ⟨_,rfl,A.p,C,A.dx,_,.ref A.lo,rfl,O.get 1,R.c,R.nO,rfl,.inl ⟨rfl,_,O.sq 6⟩,_,rfl,_,rfl,_,rfl,_,rfl,szl,fun t2 ht2=>?_⟩
 walk_at "nw"
 refine ⟨A.lo,_,_,rfl,rfl,O.get 7,aQ (by omega),?_⟩
 generalize hE:upd _ _ _=Hn
 have O:=Ow.uQ O 7 rfl hE rfl
 clear hE
 refine ⟨_,rfl,A.p,A.dx,_,rfl,O.get 2,(by exact hp.ex.ent),_,rfl,_,rfl,al,l,m,rfl,hT.mo O.same,fun t3 ht3=>?_⟩
 walk_at "nw"
 refine ⟨_,rfl,A,ex,S.day,us.set k (.ref t1),S.ns.map V.str,.ref t3,.str z,rfl,O.get 3,O.get 6,O.get 7,by rw [aex];omega,by rw [abW];omega,O.ne 3 6,O.ne 3 7,O.ne 7 6,?_⟩
 have O:=(O.ZC 6 rfl (o':=.lst (us.set k (.ref t1)++[.ref t3])) rfl).ZC 7 rfl (o':=.lst (S.ns.map V.str++[.str z])) rfl
 rw [aex,hul]
 obtain ⟨Hb,O,sb,e3⟩:=(show Ow T H0 _ ((t3,.tup (xX (wm l m)))::(t2,.tup [.str "part",.int (k:Int),.str y,.int m,.str z])::(t1,.tup (xX (wm l (l.most - m))))::(RX C A ex r S.day (us.set k (.ref t1)++[.ref t3]) (S.ns++[z]) (vs++[V.ref t2])++L)) from by simp only [RX,adw,adR,List.map_nil];exact O).frz
 obtain ⟨Hc,O,sc,e2⟩:=O.frz
 obtain ⟨Hd,O,sd,e1⟩:=O.frz
 have e3:=(sc.trans sd).keep _ _ e3 (fun _ z=>nomatch z)
 have e2:=sd.keep _ _ e2 (fun _ z=>nomatch z)
 have sx:=sb.trans (sc.trans sd)
 refine q.1 _ hst Hd _ sx ⟨us.set k (.ref t1)++[V.ref t3],vs++[V.ref t2],O,?_,?_⟩
 ·rw [adw,List.map_set]
  exact ((d0.mo sx).set (Den.lic (l:=wm l (l.most - m)) (SqT.of e1)) k).append (.cons (Den.lic (l:=wm l m) (SqT.of e3)) .nil)
 ·rw [adw]
  exact (d1.mo sx).append (.cons (.tuple (SqT.of e2) (.cons (.str _) (.cons (.int _) (.cons (.str _) (.cons (.int _) (.cons (.str _) .nil)))))) .nil)
abbrev mR:Stmt:=inClass (top 88) 6
theorem oM:aF ["self","holder","start","most","back","stop","one"] ["self","holder","start","most","back"] (ao mR):=by walk_at "sc"
inductive G9 (K:Fa)(T:d8)(C:Addr)(c:Ec)(vs:Fs)(H:Hp)(Q:VK)(E:XK):Prop
 | mk (A:Rs)(ex:List (Str × V))(H0:Hp)(B:Fr)(r:List Int)(S:RS)(x:Str)(st m b:Int)(bv:V)(_:vs=[.ref A.p,.str x,.int st,.int m,bv])(_:(bv=.non/\b=-1\/bv=.int b))(_:RA K T C A ex r H0 H B S)(_:RP r ex S)(_:Asc x)(_:After K T C c A ex r H0 H B S (.file x st m b) (.int (S.ls.length:Int)) Q E)
variable {Q:VK}
theorem Yt {j:Nat}{bv:V}{stop:Int}(hb:bv=.non/\stop=-1\/bv=.int stop)(hj:σ[j]?=some (some bv))(h:Q (.int stop) H):
  tIf (Yn (tOp (fun x y H Q=>y=V.non/\Q (V.bl (decide (x=V.non))) H) (abR j) (tC V.non))) (tC (V.int (-1))) (abR j) σ H Q:=by
 refine ⟨bv,hj,rfl,_,rfl,?_⟩;rcases hb with ⟨rfl,rfl⟩ | rfl
 ·exact j7 h
 ·exact lR ⟨_,hj,h⟩
variable (cg:j8 K mg "NoLicence" c.licence)
variable (kO:(CX0|||2) pA pK ["below","one"] (DP K T))
variable {sE:Addr}{tG:Ff}(bT:DmD K C "file" "Roll.file" mR ["self","holder","start","most","back"] sE tG)
include dg bA bV aP aU eU d9 kW cg kO bT in
theorem Mx (B:Blt mg)(CM:Mth mg):
  ((CXE P w)|||3) sE tG ["self","holder","start","most","back"] (G9 K T C c):=by
 obtain ⟨tM,hMOUTH⟩:=CM.MOUTH
 have R:=aU
 refine bT.F.okX oM ?_ ?_
 walk_at "i"
 obtain ⟨A,ex,H0,L,r,S,x,st,m,b,bv,rfl,hb,⟨us,vs,O,d0,d1⟩,hp,ax,q⟩:=h
 have hul:us.length=S.ls.length:=by rw [d0.length,abW]
 have hvl:vs.length=S.ds.length:=by rw [d1.length,abW]
 have hnn:=hp.nn
 have hdl:=hp.dl
 have hr40:=hp.r40
 have hl60:=hp.l60
 have sA:=aM.refl O.same.t1
 refine ⟨_,(bf (bA*>eU*>(pv 1>=>aj))<|>5<$>oM<$>(mX (aG En (pv 4) lV (aO _)) (bN (v:=.int (-1)) rfl hMOUTH ⟨_,rfl⟩) (pv 4))<|>6<$>oM<$>(@f9 _ _ _ _ _ (aY (pv 0) rfl>=>pv 2>=>pv 5>=>pv 3>=>aj))<|>@bM _ _ _ _ _ _ _ _ (PW.pt (pw_or (aG dU (pv 3) ak (aO _)) (pw_or1 (jd (jx (dg<*kO<*(aY (pv 0) rfl>=>pv 6>=>aj)))))))
   (~~~(bZ dw rfl (fun _ _ z=>z) rfl cg.m cg.q (aJ>=>aj)))
   aL<|>bf (iz (pv 0) aU.c aP.m d9 hr.m aP.b .nil iJ)<|>bf (je adz adA adB bK (aY (pv 0) rfl) (@f9 _ _ _ _ _ (aJ>=>pv 1>=>pv 2>=>pv 3>=>pv 5>=>aj)>=>aj))<|>(~~~(@aH _ _ _ _ (cu (pv 0) aU.c bV.m kW hr.m bV.b .nil oZ (pv 6>=>pv 1>=>aj))))),?_⟩
 refine ⟨_,rfl,x,rfl,ax,O.same.t1,fun nx H1 s1=>?_,fun nx e H' s' he=>q.2 .holder (if_pos nx) e H' s' he⟩
 have hst:step r S (.file x st m b)=_:=if_neg (not_not_intro nx)
 have O:=O.jB s1
 refine Yt hb rfl ?_
 refine ⟨_,rfl,A.p,C,A.dx,_,.int S.day,rfl,O.get 0,R.c,R.nD,rfl,_,rfl,_,rfl,_,rfl,szl,fun t1 ht1=>?_⟩
 generalize hE:upd _ _ _=Hn
 have s2:aM T H Hn:=hE ▸ s1.upd (s1.free ht1) (.inl ht1)
 replace O:=Ow.mkE O ht1 hE rfl
 clear hE
 refine ⟨_,rfl,rfl,_,rfl,ifI (fun m0=>?_) (fun m0=>?_)⟩
 ·exact ⟨szl,fun e he=>q.2 .licence (hst.trans (if_pos (.inl m0))) e _ s2 he⟩
 refine ⟨_,rfl,A.p,C,A.dx,_,.ref A.lb,rfl,O.get 1,R.c,R.nB,rfl,_,rfl,A.lb,t1,r,⟨S.day,st,b,m⟩,rfl,O.sq 3,hp.rv,by omega,O.sqT 0,O.same.t1,fun bb H2 s3 hb2=>?_⟩
 have O:=O.jB s3
 cases bb with
 | false=>exact ⟨_,rfl,j7 ⟨szl,fun e he=>q.2 .licence (hst.trans (if_pos (.inr fun z=>nomatch hb2.mpr z))) e _ (s2.trans s3) he⟩⟩
 | true =>
 refine ⟨_,rfl,lR ?_⟩
 have hl:=hb2.mp rfl
 have hst:=hst.trans (if_neg (show ¬ (m=0\/¬ oF r ⟨S.day,st,b,m⟩) from fun z=>z.elim m0 fun w=>w hl))
 refine ⟨_,rfl,A.p,A.dx,_,rfl,O.get 1,(by exact hp.ex.room),A,ex,S.day,us,rfl,O.get 1,O.sq 4,O.same.t1,fun h4=>?_,fun h4 e H' s' he=>q.2 .full (hst.trans (if_pos (by omega))) e H' ((s2.trans s3).trans s') he⟩
 have hst:=hst.trans (if_neg (by omega))
 refine ⟨_,rfl,A.p,C,A.dx,_,.ref A.lo,rfl,O.get 1,R.c,R.nO,rfl,.inl ⟨rfl,_,O.sq 6⟩,_,rfl,_,rfl,_,rfl,_,rfl,szl,fun t2 ht2=>?_⟩
 walk_at "nw"
 refine ⟨A.lo,_,_,rfl,rfl,O.get 7,aQ (by omega),?_⟩
 generalize hE:upd _ _ _=Hn2
 replace O:=Ow.uQ O 7 rfl hE rfl
 clear hE
 refine ⟨_,rfl,A.p,A.dx,_,rfl,O.get 2,(by exact hp.ex.ent),_,rfl,_,rfl,A,ex,S.day,us,S.ns.map V.str,.ref t1,.str x,rfl,O.get 2,O.get 5,O.get 6,by omega,by rw [abW];omega,O.ne 2 5,O.ne 2 6,O.ne 6 5,?_⟩
 have O:=(O.ZC 5 rfl (o':=.lst (us++[.ref t1])) rfl).ZC 6 rfl (o':=.lst (S.ns.map V.str++[.str x])) rfl
 rw [hul]
 obtain ⟨Hb,O,sb,e2⟩:=(show Ow T H0 _ ((t2,.tup [.str "file",.str x,.int st,.int m,.int b])::(t1,.tup (xX ⟨S.day,st,b,m⟩))::(RX C A ex r S.day (us++[.ref t1]) (S.ns++[x]) (vs++[V.ref t2])++L)) from by simp only [RX,adw,adR,List.map_nil];exact O).frz
 obtain ⟨Hc,O,sc,e1⟩:=O.frz
 have e2:=sc.keep _ _ e2 (fun _ z=>nomatch z)
 have sx:=sb.trans sc
 refine q.1 _ hst Hc _ sx ⟨us++[V.ref t1],vs++[V.ref t2],O,?_,?_⟩
 ·rw [adw]
  exact (d0.mo sx).append (.cons (Den.lic (l:=⟨S.day,st,b,m⟩) (SqT.of e1)) .nil)
 ·rw [adw]
  exact (d1.mo sx).append (.cons (.tuple (SqT.of e2) (.cons (.str _) (.cons (.str _) (.cons (.int _) (.cons (.int _) (.cons (.int _) .nil)))))) .nil)
abbrev gY:Stmt:=inClass (top 88) 0
theorem vR:aF ["self","below"] ["self","below"] (ao gY):=by walk_at "sc"
inductive G8 (K:Fa)(T:d8)(C:Addr)(c:Ec)(vs:Fs)(H:Hp)(Q:VK)(E:XK):Prop
 | mk (p dx lv:Addr)(H0:Hp)(B:Fr)(r:List Int)(_:vs=[.ref p,.ref lv])(_:Ow T H0 H ((p,.ins C dx [])::(dx,.own p)::B))(_:SqL K H lv (r.map V.int))(_:r.length<=900)(_:(Rv.isR r=true->∀ (A:Rs)(H':Hp),A.p=p->Ow T H0 H' (RX C A [] r 0 [] [] []++B)->Q .non H'))(_:(Rv.isR r=false->∀ (e:Addr)(H':Hp),aM T H H'->H' e=none->E (.ref c.river) (some e) H'))
variable (yM:(CX0|||2) u5 vm ["below"] (O7 K))
variable {f:Addr}{fd:Ff}
include iU yM in
theorem Mw {C':Addr}(D:Dm K C' "__init__" "Roll.__init__" gY ["self","below"] f fd)(B:Blt mg)(R:RC K C)(eN:j8 K mg "NoRiver" c.river):
  ((CXE P w)|||3) f fd ["self","below"] (G8 K T C c):=by
 refine D.F.okX vR ?_ ?_
 walk_at "i"
 obtain ⟨p,dx,lv,H0,L,r,rfl,O,hv,r9,q,qx⟩:=h
 refine ⟨_,(@bM _ _ _ _ _ _ _ _ (jd (jx (iU<*yM<*(pv 1>=>aj))))
   (~~~(bZ dw rfl (fun _ _ z=>z) rfl eN.m eN.q (aJ>=>aj)))
   aL<|>iH (pv 0) (bJ fH rfl B.list aef (pv 1>=>aj)) rfl<|>iH (pv 0) ak rfl<|>iH (pv 0) (@bO _ _ _ _ aj) rfl<|>iH (pv 0) (@bO _ _ _ _ aj) rfl<|>(~~~(iH (pv 0) (@bO _ _ _ _ aj) rfl))),?_⟩
 refine ⟨_,rfl,lv,r,rfl,hv,by omega,fun H1 s1=>?_⟩
 have s1:=aM.of O.same.t1 s1
 cases hR:Rv.isR r with
 | false=>exact ⟨_,rfl,j7 ⟨szl,fun e he=>qx hR e _ s1 he⟩⟩
 | true =>
 refine ⟨_,rfl,lR ?_⟩
 have hv:=s1.seq hv
 have O:=O.jB s1
 refine ⟨_,rfl,lv,_,rfl,.inl hv,fun lb hlb=>?_⟩
 walk_at "nw"
 refine ⟨_,rfl,p,C,dx,_,rfl,O.get 1,R.c,R.nB,(by show 0<1000;decide),?_⟩
 walk_at "pt"
 refine ⟨_,rfl,p,C,dx,_,rfl,O.get 1,R.c,R.nD,(by show 1<1000;decide),?_⟩
 walk_at "pt"
 refine ⟨szl,fun ll hll=>?_⟩
 walk_at "nw"
 refine ⟨_,rfl,p,C,dx,_,rfl,O.get 2,R.c,R.nL,(by show 2<1000;decide),?_⟩
 walk_at "pt"
 refine ⟨szl,fun ln hln=>?_⟩
 walk_at "nw"
 refine ⟨_,rfl,p,C,dx,_,rfl,O.get 3,R.c,R.nN,(by show 3<1000;decide),?_⟩
 walk_at "pt"
 refine ⟨szl,fun lo hlo=>?_⟩
 walk_at "nw"
 refine ⟨_,rfl,p,C,dx,_,rfl,O.get 4,R.c,R.nO,(by show 4<1000;decide),?_⟩
 walk_at "pt"
 have O:=((((O.pull 1 rfl).pull 2 rfl).pull 3 rfl).pull 5 rfl).pull 5 rfl
 exact q hR ⟨p,dx,lb,ll,ln,lo⟩ _ rfl O
structure Bx where
 ld:Addr
 lk:Addr
 lr:Addr
 lg:Addr
 la:V
abbrev exB (Z:Bx):List (Str × V):=[("dug",.ref Z.ld),("keeps",.ref Z.lk),("ran",.ref Z.lr),("last",Z.la),("greatest",.ref Z.lg)]
abbrev BL (Z:Bx)(gs rs ks us:Fs):Fr:=[(Z.lg,.lst gs),(Z.lr,.lst rs),(Z.lk,.lst ks),(Z.ld,.lst us)]
theorem Xp (Z:Bx):acJ (exB Z):=⟨rfl,rfl,rfl,rfl,rfl,rfl,rfl,rfl,rfl,rfl,rfl,rfl,rfl,rfl,rfl,rfl,rfl⟩
abbrev N5:List Str:=["below","day","licences","names","done","dug","keeps","ran","last","greatest"]
structure BC (K:Fa)(C:Addr):Prop where
 c:Cls K C
 r:RC K C
 nD:dW K C "dug"
 nK:dW K C "keeps"
 nR:dW K C "ran"
 nL:dW K C "last"
 nG:dW K C "greatest"
theorem Zo {f0:Addr}(R:Cl K mg "Book" C f0 N5):BC K C:=by
 have n:=R.n;simp only [N5,adt,adZ,or_false,forall_eq_or_imp,forall_eq] at n;obtain ⟨a1,a2,a3,a4,a5,a6,a7,a8,a9,a10⟩:=n;exact ⟨R.c,⟨R.c,a1,a2,a3,a4,a5⟩,a6,a7,a8,a9,a10⟩
variable {H0:Hp}
theorem Ow.front (X R B:Fr)(O:Ow T H0 H (X++(R++B))):Ow T H0 H (R++(X++B)):=O.perm (aek _ _ _)
abbrev iu:Stmt:=inClass (top 92) 0
theorem vW:aF ["self","below"] ["self","below"] (ao iu):=by walk_at "sc"
inductive yV (K:Fa)(T:d8)(C:Addr)(c:Ec)(vs:Fs)(H:Hp)(Q:VK)(E:XK):Prop
 | mk (p dx lv:Addr)(H0:Hp)(B:Fr)(r:List Int)(_:vs=[.ref p,.ref lv])(_:Ow T H0 H ((p,.ins C dx [])::(dx,.own p)::B))(_:SqL K H lv (r.map V.int))(_:r.length<=900)(_:(Rv.isR r=true->∀ (A:Rs)(Z:Bx)(H':Hp),A.p=p->Z.la=.non->Ow T H0 H' (RX C A (exB Z) r 0 [] [] []++(BL Z [] [] [] []++B))->Q .non H'))(_:(Rv.isR r=false->∀ (e:Addr)(H':Hp),aM T H H'->H' e=none->E (.ref c.river) (some e) H'))
variable (dz:BC K C)
variable {jN:Addr}{pU:Ff}(fU:Dm K CR "__init__" "Roll.__init__" gY ["self","below"] jN pU)
variable (qb:((CXE P w)|||3) jN pU ["self","below"] (G8 K T C c))
variable {iB:Addr}{jT:Ff}(bD:Dm K C "__init__" "Book.__init__" iu ["self","below"] iB jT)
include dz fU qb bD in
theorem MN (Kz:mg "Roll"=some (.ref CR))(j4:ClF K CR jN "__init__"):
  ((CXE P w)|||4) iB jT ["self","below"] (yV K T C c):=by
 have R:=dz;refine bD.F.okX vW ?_ ?_;walk_at "i";obtain ⟨p,dx,lv,H0,L,r,rfl,O,hv,r9,q,qx⟩:=h;refine ⟨_,(bf (YM rfl Kz j4 qb hr.m fU.b .nil iJ (pv 0>=>pv 1>=>aj))<|>iH (pv 0) (@bO _ _ _ _ aj) rfl<|>iH (pv 0) (@bO _ _ _ _ aj) rfl<|>iH (pv 0) (@bO _ _ _ _ aj) rfl<|>iH (pv 0) lV rfl<|>(~~~(iH (pv 0) (@bO _ _ _ _ aj) rfl))),?_⟩;refine ⟨_,rfl,_,rfl,p,dx,lv,H0,_,r,rfl,O,hv,r9,fun hR A H5 eA O5=>?_,fun hR e H' s he=>qx hR e H' s he⟩;clear O;subst eA;have O:=O5;clear O5;refine ⟨szl,fun ld hld=>?_⟩;walk_at "nw";refine ⟨_,rfl,A.p,C,A.dx,_,rfl,O.get 1,R.c,R.nD,(by show 5<1000;decide),?_⟩;walk_at "pt";refine ⟨szl,fun lk hlk=>?_⟩;walk_at "nw";refine ⟨_,rfl,A.p,C,A.dx,_,rfl,O.get 2,R.c,R.nK,(by show 6<1000;decide),?_⟩;walk_at "pt";refine ⟨szl,fun lr hlr=>?_⟩;walk_at "nw";refine ⟨_,rfl,A.p,C,A.dx,_,rfl,O.get 3,R.c,R.nR,(by show 7<1000;decide),?_⟩;walk_at "pt";refine ⟨_,rfl,A.p,C,A.dx,_,rfl,O.get 3,R.c,R.nL,(by show 8<1000;decide),?_⟩;walk_at "pt";refine ⟨szl,fun lg hlg=>?_⟩;walk_at "nw";refine ⟨_,rfl,A.p,C,A.dx,_,rfl,O.get 4,R.c,R.nG,(by show 9<1000;decide),?_⟩;walk_at "pt";exact q hR A ⟨ld,lk,lr,lg,.non⟩ _ rfl rfl (Ow.front [(lg,.lst []),(lr,.lst []),(lk,.lst []),(ld,.lst [])] (RX C A (exB ⟨ld,lk,lr,lg,.non⟩) r 0 [] [] []) L O)
abbrev oY:Stmt:=inClass (top 92) 2
theorem zf:aF ["self"] ["self"] (ao oY):=by walk_at "sc"
theorem Ig (D:Dm K C "ponds" "Book.ponds" oY ["self"] f fd)(B:Blt mg)(R:BC K C):(CX0|||1) f fd ["self"] (uJ K C "dug"):=by
 refine D.F.ok zf ?_ ?_;walk_at "i";obtain ⟨p,dx,l,fs,us,rfl,hp,hf,hl,q⟩:=h;refine ⟨_,(dj (aH (bJ fH rfl B.list aef (bG (aY (pv 0) rfl) aj)))),?_⟩;exact ⟨_,rfl,p,C,dx,fs,.ref l,rfl,hp,R.c,R.nD,hf,l,us,rfl,.inl hl,q⟩
abbrev rE:Stmt:=inClass (top 92) 3
theorem Ay:aF ["self"] ["self"] (ao rE):=by walk_at "sc"
theorem MK (D:Dm K C "kept" "Book.kept" rE ["self"] f fd)(B:Blt mg)(R:BC K C):(CX0|||1) f fd ["self"] (uJ K C "keeps"):=by
 refine D.F.ok Ay ?_ ?_;walk_at "i";obtain ⟨p,dx,l,fs,us,rfl,hp,hf,hl,q⟩:=h;refine ⟨_,(dj (aH (bJ fH rfl B.list aef (bG (aY (pv 0) rfl) aj)))),?_⟩;exact ⟨_,rfl,p,C,dx,fs,.ref l,rfl,hp,R.c,R.nK,hf,l,us,rfl,.inl hl,q⟩
abbrev oU:Stmt:=top 42
theorem yZ:aF ["one"] ["one"] (ao oU):=by walk_at "sc"
inductive aae (K:Fa)(vs:Fs)(H:Hp)(Q:VK)(E:XK):Prop
 | mk (t:Addr)(l:Lic)(_:vs=[.ref t])(_:SqT K H t (xX l))(_:Q (.bl (!decide (l.back=-1))) H)
variable {pB:Addr}{pL:Ff}(fM:Df K mg "gives_back" oU ["one"] pB pL)
include fM in
theorem acq (C:Mth mg):(CX0|||1) pB pL ["one"] (aae K):=by
 obtain ⟨tM,hMOUTH⟩:=C.MOUTH;refine fM.F.ok yZ ?_ ?_;walk_at "i";obtain ⟨t,l,rfl,hT,q⟩:=h;refine ⟨_,(~~~(@aH _ _ _ _ (iI yj (@aK _ _ _ _ _ _ _ uw (pv 0) ak (fun _ _=>rfl)) (bN (v:=.int (-1)) rfl hMOUTH ⟨_,rfl⟩) (aO _)))),?_⟩;refine ⟨_,rfl,t,_,2,_,rfl,rfl,hT,rfl,rfl,?_⟩;rw [show decide (V.int l.back=V.int (-1))=decide (l.back=-1) from by simp];exact q
abbrev Pd:=Int × Int × Int
def Gk (ps:List Pd)(n:Int):Bool:=(ps.map fun p=>decide (n=p.1)).any id
abbrev ig:Stmt:=inClass (top 92) 4
theorem vV:aF ["self","number"] ["self","number"] (ao ig):=by walk_at "sc"
inductive Pa (K:Fa)(T:d8)(C:Addr)(vs:Fs)(H:Hp)(Q:VK)(E:XK):Prop
 | mk (A:Rs)(Z:Bx)(day n:Int)(us:Fs)(ps:List Pd)(_:vs=[.ref A.p,.int n])(_:H A.p=some (PX C A (exB Z) day))(_:SqL K H Z.ld us)(_:eO K H us (ps.map dMv))(_:ps.length<=900)(_:TabsOk T H)(_:∀ H',aM T H H'->Q (.bl (Gk ps n)) H')
variable {jP:Addr}{jR:Ff}(bx:Dm K C "has_pond" "Book.has_pond" ig ["self","number"] jP jR)
include bx in
theorem aaL (B:Blt mg)(R:BC K C):(CX0|||1) jP jR ["self","number"] (Pa K T C):=by
 refine bx.F.ok vV ?_ ?_;walk_at "i";obtain ⟨A,Z,day,n,us,ps,rfl,hp,hL,d1,h9,tk,q⟩:=h;have hul:us.length=ps.length:=by rw [d1.length,abW]
 have O:=Ow.refl tk;refine ⟨_,(~~~(@aH _ _ _ _ (aD (NZ rfl) rfl B.any PyProof.Rows.boot_any (jH (ao ig) rfl ["self","number"] rfl ["other","room","leak","number"] [none,none,none,some 1] (by decide+kernel) (by decide+kernel) (by decide+kernel) rfl (rF (aY (pv 0) rfl)) (fun _ _ _=>(zq (K:=K) (n:=3) rfl rfl (aZ (dR (i:=0) (show (["other","room","leak","number"]:List Str).Nodup by decide+kernel) rfl (Or.inl rfl)) (aZ (dR (i:=1) (show (["other","room","leak","number"]:List Str).Nodup by decide+kernel) rfl (Or.inl rfl)) (aZ (dR (i:=2) (show (["other","room","leak","number"]:List Str).Nodup by decide+kernel) rfl (Or.inl rfl)) jo))))) (fun _ _ _=>jl) (fun _ _ _=>(iI dU (pv 3) (pv 0) (aO _)))>=>aj)))),?_⟩;refine ⟨_,rfl,A.p,C,A.dx,_,.ref Z.ld,rfl,hp,R.c,R.nD,rfl,Z.ld,rfl,⟨_,hL⟩,fun lw hlw=>?_⟩;refine pX (K:=K) (xs:=us) (fun i τ H'=>Iv (∃ (v0 v1 v2:Option V),τ=[v0,v1,v2,some (.int n)]/\Ow T H H' [(lw,.lst (((ps.take i).map fun p:Pd=>decide (n=p.1)).map V.bl))])) ⟨trivial,none,none,none,rfl,O.mk' hlw rfl⟩ (fun i τ H' _ ⟨_,_,_,_,_,O⟩=>O.same.seq hL) ?_ ?_
 ·clear O;rintro i y τ H3 hy ⟨-,v0,v1,v2,rfl,O⟩;obtain ⟨ap,p,rfl,hp',hT⟩:=d1.aaS hy;have hi:=(adl.mp hp').1;refine ⟨ap,_,rfl,hT.mo O.same,rfl,_,_,rfl,_,_,rfl,_,_,rfl,rfl,?_⟩;refine abQ ?_;refine ⟨_,rfl,_,rfl,rfl,_,O.get 0,aQ (by rw [abW,abW,adU];omega),?_⟩;walk_at "pt";refine ⟨trivial,_,_,_,rfl,?_⟩;rw [Tn.uc hp',adw,adw];rw [show decide (V.int n=V.int p.1)=decide (n=p.1) from by simp] at O;exact O
 clear O;rintro τ H3 ⟨-,v0,v1,v2,rfl,O⟩;rw [hul,aee (ado _)] at O;exact ⟨lw,_,rfl,O.sq 0,q _ O.same⟩
inductive PK
 | number| yours| pond
def PK.at_ (c:Ec)(cP:Addr):PK->Addr
 | .number=>c.number| .yours=>c.yours| .pond=>cP
open Classical in
noncomputable def um (S:RS)(ps:List Pd)(n:Int)(y:Str)(room leak:Int):Option PK:=
 if ¬ (0<=n/\n<S.ls.length) then some .number else if S.ns[n.toNat]?≠some y then some .yours else
 if (S.at_ n).back≠-1\/Gk ps n=true\/10<=ps.length\/¬ (0<=room/\room<=1000000000000/\0<=leak/\leak<=1000) then some .pond else none
abbrev mU:Stmt:=inClass (top 92) 1
theorem Ax:aF ["self","number","holder","room","leak"] ["self","number","holder","room","leak"] (ao mU):=by walk_at "sc"
inductive GZ (K:Fa)(T:d8)(C:Addr)(c:Ec)(cP:Addr)(vs:Fs)(H:Hp)(Q:VK)(E:XK):Prop
 | mk (A:Rs)(Z:Bx)(H0:Hp)(B:Fr)(r:List Int)(S:RS)(gs rs ks us:Fs)(ps:List Pd)(n:Int)(y:Str)(room leak:Int)(_:vs=[.ref A.p,.int n,.str y,.int room,.int leak])(_:RA K T C A (exB Z) r H0 H (BL Z gs rs ks us++B) S)(_:RP r (exB Z) S)(_:eO K H0 us (ps.map dMv))(_:ps.length<=900)(_:ks.length<=900)(_:(um S ps n y room leak=none->∀ (t:Addr)(Hb H':Hp),aM T H0 Hb->RA K T C A (exB Z) r Hb H' (BL Z gs rs (ks++[.int 0]) (us++[.ref t])++B) S->eO K Hb (us++[.ref t]) ((ps++[(n,room,leak)]).map dMv)->Q (.int (ps.length:Int)) H'))(_:(∀ k,um S ps n y room leak=some k->∀ (e:Addr)(H':Hp),aM T H H'->H' e=none->E (.ref (k.at_ c cP)) (some e) H'))
variable (vN:(CX0|||1) pB pL ["one"] (aae K))
variable (iD:(CX0|||1) jP jR ["self","number"] (Pa K T C))
variable {sH:Addr}{tK:Ff}(bU:DmZ K C "pond" "Book.pond" mU ["self","number","holder","room","leak"] sH tK)
include eX qy aU aq aR dz fM bx vN iD bU in
theorem YS (B:Blt mg)(gn:j8 K mg "NoPond" cP)(CP:∃ t,mg "MOST_PONDS"=some (.int 10 t))(CW:∃ t,mg "WHOLE"=some (.int 1000 t)):
  ((CXE P w)|||3) sH tK ["self","number","holder","room","leak"] (GZ K T C c cP):=by
 obtain ⟨tP,CV⟩:=CP
 obtain ⟨tW,hWHOLE⟩:=CW
 obtain ⟨tz,Fz,_⟩:=bU.F
 have R:=dz
 refine Fz.okX Ax (fun vs H Q E h=>?_) (fun cdv A outer s H vs Q E hr h=>?_)
 ·obtain ⟨_,_,_,_,_,_,_,_,_,_,_,_,_,_,_,rfl,_⟩:=h;rfl
 ·obtain ⟨A,Z,H0,L,r,S,gs,rs,ks,us,ps,n,y,room,leak,rfl,⟨ls,vs,O,d0,d1⟩,hp,dP,hpl,hkl,q,qE⟩:=h
  have hll:ls.length=S.ls.length:=by rw [d0.length,abW]
  have hul:us.length=ps.length:=by rw [dP.length,abW]
  have hnn:=hp.nn
  have h60:=hp.l60
  refine ⟨_,(bf (cu (pv 0) aU.c aq.m aR hr.m aq.b .nil iJ (pv 1>=>pv 2>=>aj))<|>@bM _ _ _ _ _ _ _ _ (PW.pt (pw_or (jx (fM<*vN<*(@aK _ _ _ _ _ _ _ au (aY (pv 0) rfl) (pv 1) (fun _ _=>rfl)>=>aj))) (pw_or1 (jx (cu (pv 0) dz.c bx.m iD hr.m bx.b .nil oZ (pv 1>=>aj))))))
    (~~~(bZ dw rfl (fun _ _ z=>z) rfl gn.m gn.q (aJ>=>aj)))
    aL<|>@bM _ _ _ _ _ _ _ _ (aG Cr (aD aC rfl B.len adx (aY (pv 0) rfl>=>aj)) (bN (v:=.int (10)) rfl CV ⟨_,rfl⟩) (aO _))
    (~~~(bZ dw rfl (fun _ _ z=>z) rfl gn.m gn.q (aJ>=>aj)))
    aL<|>@bM _ _ _ _ _ _ _ _ (jd (PW.pt (pw_and (jx (eX<*qy<*(pv 3>=>aj))) (pw_and1 (mW qG qG ak (pv 4) (bN (v:=.int (1000)) rfl hWHOLE ⟨_,rfl⟩))))))
    (~~~(bZ dw rfl (fun _ _ z=>z) rfl gn.m gn.q (aJ>=>aj)))
    aL<|>bf (je adz adA adB bK (aY (pv 0) rfl) (@f9 _ _ _ _ _ (pv 1>=>pv 3>=>pv 4>=>aj)>=>aj))<|>bf (je adz adA adB bK (aY (pv 0) rfl) (ak>=>aj))<|>(~~~(@aH _ _ _ _ (@aW _ _ _ _ _ _ _ _ uq (aD aC rfl B.len adx (aY (pv 0) rfl>=>aj)) ak)))),?_⟩
  refine ⟨_,rfl,A.p,A.dx,_,rfl,O.get 0,rfl,_,rfl,_,rfl,A,exB Z,S.day,ls,S.ns,n,y,rfl,O.get 0,O.sq 3,O.sq 4,by omega,Xp Z,O.same.t1,fun h0 h1 hy=>?_,fun h=>qE .number (by unfold um;rw [if_pos (fun z=>h (by omega))]),fun h0 h1 hy=>qE .yours (by unfold um;rw [if_neg (not_not_intro ⟨h0,by omega⟩),if_pos hy])⟩
  obtain ⟨j,rfl⟩:=adD h0
  obtain ⟨l,hl⟩:∃ l,S.ls[j]?=some l:=⟨_,ada (by omega)⟩
  obtain ⟨al,hal,hT⟩:=d0.vH hl
  have hat:S.at_ (j:Int)=l:=Es rfl hl
  have hE:um S ps (j:Int) y room leak=open Classical in if l.back≠-1\/Gk ps (j:Int)=true\/10<=ps.length\/¬ (0<=room/\room<=1000000000000/\0<=leak/\leak<=1000) then some .pond else none:=by
   unfold um;rw [if_neg (not_not_intro ⟨h0,by omega⟩),if_neg (not_not_intro hy),hat]
  refine ⟨_,rfl,A.p,C,A.dx,_,.ref A.ll,rfl,O.get 0,aU.c,aU.nL,rfl,_,rfl,A.ll,_,_,_,rfl,rfl,O.sq 3,dN hal,al,l,rfl,hT.mo O.same,?_⟩
  have bad:∀ {H'},aM T H H'->(l.back≠-1\/Gk ps (j:Int)=true\/10<=ps.length\/¬ (0<=room/\room<=1000000000000/\0<=leak/\leak<=1000))->∀ e,H' e=none->E (.ref cP) (some e) H':=fun {H'} s h e he=>qE .pond (by rw [hE,if_pos h]) e H' s he
  have s0:aM T H H:=aM.refl O.same.t1
  refine ⟨_,rfl,ifN (ifD (fun hb=>?_) (fun hb=>⟨szl,fun e he=>bad s0 (.inl hb) e he⟩))⟩
  refine ⟨_,rfl,A.p,A.dx,_,rfl,O.get 0,rfl,_,rfl,A,Z,S.day,(j:Int),us,ps,rfl,O.get 0,O.sq 9,dP.mo O.same,hpl,O.same.t1,fun H1 s1=>?_⟩
  have O:=O.jB s1
  refine ⟨_,rfl,ifB (fun hh=>⟨szl,fun e he=>bad s1 (.inr (.inl hh)) e he⟩) (fun hh=>?_)⟩
  refine ⟨_,rfl,A.p,C,A.dx,_,.ref Z.ld,rfl,O.get 0,R.c,R.nD,rfl,Z.ld,_,rfl,.inl (O.sq 9),_,_,rfl,rfl,_,rfl,ifD (fun h10=>⟨szl,fun e he=>bad s1 (.inr (.inr (.inl (by have h10:(10:Int)<=(us.length:Int):=h10;omega)))) e he⟩) (fun h10=>?_)⟩
  have h10:¬ (10:Int)<=(us.length:Int):=h10
  refine ⟨_,rfl,room,rfl,fun bw hbw=>?_⟩
  refine ⟨_,rfl,ifB (fun hw=>?_) (fun hw=>?_)⟩
  rotate_left
  ·exact j7 ⟨szl,fun e he=>bad s1 (.inr (.inr (.inr fun z=>by rw [hbw.mpr ⟨z.1,z.2.1⟩] at hw;cases hw))) e he⟩
  have hw:=hbw.mp hw
  refine ⟨_,rfl,_,_,rfl,rfl,_,rfl,ifD (fun l0=>?_) (fun l0=>?_)⟩
  rotate_left
  ·exact ⟨_,rfl,j7 ⟨szl,fun e he=>bad s1 (.inr (.inr (.inr fun z=>l0 z.2.2.1))) e he⟩⟩
  refine ⟨_,_,rfl,rfl,_,rfl,ifN (ifD (fun l1=>?_) (fun l1=>⟨szl,fun e he=>bad s1 (.inr (.inr (.inr fun z=>l1 z.2.2.2))) e he⟩))⟩
  have hN:um S ps (j:Int) y room leak=none:=by
   rw [hE,if_neg]
   rintro (z| z| z| z)
   ·exact z hb
   ·rw [hh] at z;cases z
   ·omega
   ·exact z ⟨hw.1,hw.2,l0,l1⟩
  refine ⟨_,rfl,A.p,C,A.dx,_,.ref Z.ld,rfl,O.get 0,R.c,R.nD,rfl,.inl ⟨rfl,_,O.sq 9⟩,_,rfl,_,rfl,_,rfl,szl,fun t ht=>?_⟩
  walk_at "nw"
  refine ⟨Z.ld,_,_,rfl,rfl,O.get 10,aQ (by omega),?_⟩
  generalize hE2:upd _ _ _=Hn
  have O:=Ow.uQ O 10 rfl hE2 rfl
  clear hE2
  refine ⟨_,rfl,A.p,C,A.dx,_,.ref Z.lk,rfl,O.get 1,R.c,R.nK,rfl,.inl ⟨rfl,_,O.sq 9⟩,Z.lk,_,_,rfl,rfl,O.get 9,aQ (by omega),?_⟩
  generalize hE2:upd _ _ _=Hm
  have O:=Ow.uQ O 9 rfl hE2 rfl
  clear hE2
  refine ⟨_,rfl,A.p,C,A.dx,_,.ref Z.ld,rfl,O.get 1,R.c,R.nD,rfl,Z.ld,_,rfl,.inl (O.sq 10),_,_,rfl,rfl,?_⟩
  dsimp only
  rw [show (((us++[V.ref t]).length:Nat):Int) - 1=(ps.length:Int) by rw [adG,hul];simp]
  obtain ⟨Hb,O,sb,e1⟩:=(show Ow T H0 Hm ((t,_)::(RX C A (exB Z) r S.day ls S.ns vs++(BL Z gs rs (ks++[.int 0]) (us++[.ref t])++L))) from O).frz
  refine q hN t Hb Hm sb ⟨ls,vs,O,d0.mo sb,d1.mo sb⟩ ?_
  rw [adw]
  exact (dP.mo sb).append (.cons (Den.mv (m:=((j:Int),room,leak)) (SqT.of e1)) .nil)
abbrev Ck:Stmt:=top 71
theorem Eb:aF ["roll","number","start","changed"] ["roll","number","start"] (ao Ck):=by walk_at "sc"
inductive Ov (K:Fa)(T:d8)(vs:Fs)(H:Hp)(Q:VK)(E:XK):Prop
 | mk (a:Addr)(us:Fs)(ls:List Lic)(k:Nat)(l:Lic)(s:Int)(_:vs=[.ref a,.int (k:Int),.int s])(_:SqL K H a us)(_:eO K H us (ls.map KY))(_:ls[k]?=some l)(_:ls.length<1000)(_:TabsOk T H)(_:∀ (m t:Addr)(H':Hp),Ow T H H' [(m,.lst (us.set k (.ref t))),(t,.tup (xX (wst l s)))]->Q (.ref m) H')
variable (kJ:(CX0|||1) o9 pI ["one","start"] (Oh K))
variable {CZ:Addr}{Dc:Ff}(tX:Df K mg "moved" Ck ["roll","number","start"] CZ Dc)
include c7 kJ tX in
theorem aaD (B:Blt mg):(CX0|||2) CZ Dc ["roll","number","start"] (Ov K T):=by
 refine tX.F.ok Eb ?_ ?_;walk_at "i";obtain ⟨a,us,ls,k,l,s,rfl,hA,d0,hk,hl,tk,q⟩:=h;have O:=Ow.refl tk;obtain ⟨al,hal,hT⟩:=d0.vH hk;have hkl:=(adl.mp hk).1;have hul:us.length=ls.length:=by rw [d0.length,abW]
 refine ⟨_,(3<$>Eb<$>(bJ fH rfl B.list aef (pv 0>=>aj))<|>qM (c7<*kJ<*(@aK _ _ _ _ _ _ _ au (pv 0) (pv 1) (fun _ _=>rfl)>=>pv 2>=>aj)) (Bh (pv 3) (pv 1) set_list)<|>(~~~(@aH _ _ _ _ (pv 3)))),?_⟩;refine ⟨_,rfl,a,_,rfl,.inl hA,fun m hm=>?_⟩;walk_at "nw";refine ⟨_,rfl,_,rfl,a,_,_,_,rfl,rfl,O.same.seq hA,dN hal,_,rfl,al,l,s,rfl,hT.mo O.same,fun t ht=>?_⟩;walk_at "nw";refine ⟨_,rfl,_,rfl,m,_,_,k,rfl,rfl,O.get 1,wZ (by omega),?_⟩;walk_at "pt";refine ⟨_,rfl,q m t _ (O.pull 1)⟩
abbrev Hs:Stmt:=top 57
theorem Yz:aF ["below","springs","roll","calls","free","wants","takes","group","ways","dealt","number","take"] ["below","springs","roll","calls"] (ao Hs):=by walk_at "sc"
def G4:Sp:=fun _ _ _ _=>False
variable {J4:Addr}{Ka:Ff}(vQ:Df K mg "deal" Hs ["below","springs","roll","calls"] J4 Ka)
include vQ in
theorem LQ:(CX0|||1) J4 Ka ["below","springs","roll","calls"] G4:=vQ.F.ok Yz (fun _ _ _ _ h=>h.elim) (fun _ _ _ _ _ _ _ _ _ h=>h.elim)
abbrev wL:Stmt:=top 72
theorem dG:aF ["below","roll","number","start","record","other_roll","day","one_day","springs","calls","all_calls","takes","other_takes","other","before","after"] ["below","roll","number","start","record"] (ao wL):=by walk_at "sc"
inductive DQ (K:Fa)(T:d8)(vs:Fs)(H:Hp)(Q:VK)(E:XK):Prop
 | mk (v:V)(b c:Addr)(us:Fs)(ls:List Lic)(n:Nat)(l:Lic)(st:Int)(_:vs=[v,.ref b,.int (n:Int),.int st,.ref c])(_:SqL K H b us)(_:eO K H us (ls.map KY))(_:ls[n]?=some l)(_:ls.length<64)(_:SqL K H c [])(_:TabsOk T H)(_:∀ H',aM T H H'->Q .non H')
variable (KC:(CX0|||2) CZ Dc ["roll","number","start"] (Ov K T))
variable (KH:(CX0|||1) J4 Ka ["below","springs","roll","calls"] G4)
variable {xH:Addr}{xO:Ff}(j5:Df K mg "harm_of" wL ["below","roll","number","start","record"] xH xO)
include tX vQ KC KH j5 in
theorem LK (B:Blt mg):(CX0|||3) xH xO ["below","roll","number","start","record"] (DQ K T):=by
 refine j5.F.ok dG ?_ ?_
 walk_at "i"
 obtain ⟨v,b,c,us,ls,n,l,st,rfl,hB,d0,hl,h64,hC,tk,q⟩:=h
 have hu:=hr.units
 have O:=Ow.refl tk
 refine ⟨_,(5<$>dG<$>(tX<*KC<*(pv 1>=>pv 2>=>pv 3>=>aj))<|>nY ad3 rfl (Cq rfl B.enumerate (pv 4>=>aj)) (uo rfl (aZ (6>>dG) (aZ (7>>dG) jo)))
   (qM (pv 7) (uo rfl (aZ (8>>dG) (aZ (9>>dG) jo)))<|>10<$>dG<$>(@aW _ _ _ _ _ _ _ _ Bo (bJ fH rfl B.list aef (pv 9>=>aj)) (@aW _ _ _ _ _ _ _ _ aao (@bO _ _ _ _ (ak>=>aj)) (@aW _ _ _ _ _ _ _ _ uq (aD aC rfl B.len adx (pv 1>=>aj)) (aD aC rfl B.len adx (pv 9>=>aj)))))<|>11<$>dG<$>(vQ<*KH<*(pv 0>=>pv 8>=>pv 1>=>pv 10>=>aj))<|>12<$>dG<$>(vQ<*KH<*(pv 0>=>pv 8>=>pv 5>=>pv 10>=>aj))<|>(~~~(nY ad3 rfl (YH rfl B.zip (bJ NT rfl B.range PyProof.Rows.boot_range (aD aC rfl B.len adx (pv 1>=>aj)>=>aj)>=>pv 11>=>pv 12>=>aj)) (uo rfl (aZ (13>>dG) (aZ (14>>dG) (aZ (15>>dG) jo))))
    (~~~(@bM _ _ _ _ _ _ _ _ (PW.pt (pw_and (aG yj (pv 13) (pv 2) (aO _)) (pw_and1 (aG Gd (pv 15) (pv 14) (aO _)))))
     (~~~(@aH _ _ _ _ (@f9 _ _ _ _ _ (pv 6>=>pv 13>=>pv 14>=>pv 15>=>aj))))
     aL)))))<|>(~~~(@aH _ _ _ _ lV))),?_⟩
 refine ⟨_,rfl,_,rfl,_,rfl,b,us,ls,n,l,st,rfl,hB,d0,hl,by omega,tk,fun m t H1 O1=>?_⟩
 refine ⟨_,rfl,c,_,rfl,O1.same.seq hC,?_⟩
 exact Fd (K:=K) (xs:=[]) (fun _ _ H'=>Iv (aM T H H')) ⟨trivial,O1.same⟩ (fun _ _ _ _ z=>z.2.seq hC) (fun i y t' σ H' hy=>nomatch hy) (fun σ H' z=>q H' z.2)
abbrev jk:Stmt:=inClass (top 92) 9
theorem uK:aF ["self","number","start"] ["self","number","start"] (ao jk):=by walk_at "sc"
inductive Pg (K:Fa)(T:d8)(C cF:Addr)(vs:Fs)(H:Hp)(Q:VK)(E:XK):Prop
 | mk (A:Rs)(Z:Bx)(day:Int)(us:Fs)(ls:List Lic)(n:Nat)(l:Lic)(st:Int)(pu:Fs)(ps:List Pd)(_:vs=[.ref A.p,.int (n:Int),.int st])(_:H A.p=some (PX C A (exB Z) day))(_:SqL K H A.ll us)(_:eO K H us (ls.map KY))(_:ls[n]?=some l)(_:ls.length<=60)(_:SqL K H Z.ld pu)(_:eO K H pu (ps.map dMv))(_:ps.length<=900)(_:SqL K H Z.lr [])(_:TabsOk T H)(_:(Gk ps (n:Int)=false->∀ H',aM T H H'->Q .non H'))(_:(Gk ps (n:Int)=true->∀ (e:Addr)(H':Hp),aM T H H'->H' e=none->E (.ref cF) (some e) H'))
variable (BW:(CX0|||3) xH xO ["below","roll","number","start","record"] (DQ K T))
variable {jr:Addr}{ju:Ff}(bW:Dm K C "look_move" "Book.look_move" jk ["self","number","start"] jr ju)
include aU dz bx iD j5 BW bW in
theorem aaP (pY:j8 K mg "Fixed" cF)(tQ:j8 K mg "Harms" cH):((CXE P w)|||4) jr ju ["self","number","start"] (Pg K T C cF):=by
 have R:=dz
 refine bW.F.okX uK ?_ ?_
 walk_at "i"
 obtain ⟨A,Z,day,us,ls,n,l,st,pu,ps,rfl,hp,hL,d0,hl,h60,hD,dP,hp9,hLr,tk,q,qF⟩:=h
 refine ⟨_,(@bM _ _ _ _ _ _ _ _ (jx (cu (pv 0) dz.c bx.m iD hr.m bx.b .nil oZ (pv 1>=>aj)))
   (~~~(bZ dw rfl (fun _ _ z=>z) rfl pY.m pY.q (aJ>=>aj)))
   aL<|>(~~~(@bM _ _ _ _ _ _ _ _ (aG YQ (j5<*BW<*(aY (pv 0) rfl>=>aY (pv 0) rfl>=>pv 1>=>pv 2>=>aY (pv 0) rfl>=>aj)) lV (aO _))
   (~~~(bZ dw rfl (fun _ _ z=>z) rfl tQ.m tQ.q (aJ>=>aj)))
   aL))),?_⟩
 refine ⟨_,rfl,A.p,A.dx,_,rfl,hp,rfl,_,rfl,A,Z,day,(n:Int),pu,ps,rfl,hp,hD,dP,hp9,tk,fun H1 s1=>?_⟩
 refine ⟨_,rfl,ifB (fun hh=>⟨szl,fun e he=>qF hh e H1 s1 he⟩) (fun hh=>?_)⟩
 have hp:=s1.keep _ _ hp (fun _ z=>nomatch z)
 exact ⟨_,rfl,A.p,C,A.dx,_,.ref A.lb,rfl,hp,aU.c,aU.nB,rfl,_,rfl,A.p,C,A.dx,_,.ref A.ll,rfl,hp,aU.c,aU.nL,rfl,_,rfl,_,rfl,_,rfl,A.p,C,A.dx,_,.ref Z.lr,rfl,hp,R.c,R.nR,rfl,.ref A.lb,A.ll,Z.lr,us,ls,n,l,st,rfl,s1.seq hL,d0.mo s1,hl,by omega,s1.seq hLr,s1.t1,fun H2 s2=>⟨rfl,_,rfl,lR (q hh H2 (s1.trans s2))⟩⟩
abbrev rC:Stmt:=inClass (top 88) 10
theorem vD:aF ["self","number","holder","start","one"] ["self","number","holder","start"] (ao rC):=by walk_at "sc"
inductive DN (K:Fa)(T:d8)(C:Addr)(c:Ec)(cF:Addr)(vs:Fs)(H:Hp)(Q:VK)(E:XK):Prop
 | mk (A:Rs)(Z:Bx)(H0:Hp)(B:Fr)(r:List Int)(S:RS)(gs ks us:Fs)(ps:List Pd)(n:Int)(y:Str)(st:Int)(_:vs=[.ref A.p,.int n,.str y,.int st])(_:RA K T C A (exB Z) r H0 H (BL Z gs [] ks us++B) S)(_:RP r (exB Z) S)(_:eO K H0 us (ps.map dMv))(_:ps.length<=900)(_:(∀ S',step r S (.move n y st)=.ok S'->Gk ps n=false->∀ (Hb H':Hp),aM T H0 Hb->RA K T C A (exB Z) r Hb H' (BL Z gs [] ks us++B) S'->Q .non H'))(_:(∀ k,step r S (.move n y st)=.error k->∀ (e:Addr)(H':Hp),aM T H H'->H' e=none->E (.ref (c.at_ k)) (some e) H'))(_:(∀ S',step r S (.move n y st)=.ok S'->Gk ps n=true->∀ (e:Addr)(H':Hp),aM T H H'->H' e=none->E (.ref cF) (some e) H'))
variable (ou:((CXE P w)|||4) jr ju ["self","number","start"] (Pg K T C cF))
variable {sy:Addr}{tE:Ff}(cQ:Dm K C "move" "Roll.move" rC ["self","number","holder","start"] sy tE)
include dg aU aq c7 aR cg kO dz kJ bW ou cQ in
theorem MJ (B:Blt mg):((CXE P w)|||5) sy tE ["self","number","holder","start"] (DN K T C c cF):=by
 have R:=aU
 refine cQ.F.okX vD ?_ ?_
 walk_at "i"
 obtain ⟨A,Z,H0,L,r,S,gs,ks,pu,ps,n,y,st,rfl,⟨us,vs,O,d0,d1⟩,hp,dP,hp9,q1,q2,qF⟩:=h
 have hul:us.length=S.ls.length:=by rw [d0.length,abW]
 have hvl:vs.length=S.ds.length:=by rw [d1.length,abW]
 have hnn:=hp.nn
 have hdl:=hp.dl
 have hr40:=hp.r40
 obtain ⟨qN,qY⟩:=After.zQ (n:=n) (y:=y) (show After K T C c A (exB Z) r H0 H (BL Z gs [] ks pu++L) S (.move n y st) .non (fun _ _=>True) E from ⟨fun _ _ _ _ _ _=>trivial,q2⟩) rfl hnn
 have sA:=aM.refl O.same.t1
 refine ⟨_,(bf (cu (pv 0) aU.c aq.m aR hr.m aq.b .nil iJ (pv 1>=>pv 2>=>aj))<|>4<$>vD<$>(c7<*kJ<*(@aK _ _ _ _ _ _ _ au (aY (pv 0) rfl) (pv 1) (fun _ _=>rfl)>=>pv 3>=>aj))<|>@bM _ _ _ _ _ _ _ _ (jd (jx (dg<*kO<*(aY (pv 0) rfl>=>pv 4>=>aj))))
   (~~~(bZ dw rfl (fun _ _ z=>z) rfl cg.m cg.q (aJ>=>aj)))
   aL<|>bf (cu (pv 0) dz.c bW.m ou hr.m bW.b .nil iJ (pv 1>=>pv 3>=>aj))<|>qM (pv 4) (Bh (aY (pv 0) rfl) (pv 1) set_list)<|>(~~~(bf (je adz adA adB bK (aY (pv 0) rfl) (@f9 _ _ _ _ _ (aJ>=>pv 1>=>pv 2>=>pv 3>=>aj)>=>aj))))),?_⟩
 refine ⟨_,rfl,A.p,A.dx,_,rfl,O.get 0,(by exact hp.ex.hol),_,rfl,_,rfl,A,exB Z,S.day,us,S.ns,n,y,rfl,O.get 0,O.sq 3,O.sq 4,by omega,hp.ex,O.same.t1,fun h0 h1 hx=>?_,qN,qY⟩
 have hst:step r S (.move n y st)=_:=zP h0 (by omega) hx
 obtain ⟨k,rfl⟩:=adD h0
 obtain ⟨l,hl⟩:∃ l,S.ls[k]?=some l:=⟨_,ada (by omega)⟩
 obtain ⟨al,hal,hT⟩:=d0.vH hl
 rw [Es rfl hl,adN] at hst
 refine ⟨_,rfl,A.p,C,A.dx,_,.ref A.ll,rfl,O.get 0,R.c,R.nL,rfl,_,rfl,A.ll,_,_,_,rfl,rfl,O.sq 3,dN hal,_,rfl,al,l,st,rfl,hT.mo O.same,fun t1 ht1=>?_⟩
 have sA:=sA.upd (o':=.tup (xX (wst l st))) ht1 (.inl ht1)
 have O:=O.mk' ht1 (o:=.tup (xX (wst l st))) rfl
 refine ⟨_,rfl,A.p,C,A.dx,_,.ref A.lb,rfl,O.get 1,R.c,R.nB,rfl,_,rfl,A.lb,t1,r,wst l st,rfl,O.sq 3,hp.rv,by omega,O.sqT 0,O.same.t1,fun b H2 s2 hb2=>?_⟩
 have O:=O.jB s2
 have sA:=sA.trans s2
 refine ⟨_,rfl,?_⟩
 cases b with
 | false =>
  refine j7 ⟨szl,fun e he=>?_⟩
  exact q2 .licence (hst.trans (if_pos fun h=>nomatch hb2.mpr h)) e _ sA he
 | true =>
  refine lR ?_
  have hst:=hst.trans (if_neg (not_not_intro (hb2.mp rfl)))
  refine ⟨_,rfl,A.p,A.dx,_,rfl,O.get 1,(by exact hp.ex.lmv),_,rfl,_,rfl,A,Z,S.day,us,S.ls,k,l,st,pu,ps,rfl,O.get 1,O.sq 4,d0.mo O.same,hl,hp.l60,O.sq 10,dP.mo O.same,hp9,O.sq 8,O.same.t1,fun hf H3 s3=>?_,fun ht e H' s' he=>qF _ hst ht e H' (sA.trans s') he⟩
  have O:=O.jB s3
  have sA:=sA.trans s3
  refine ⟨_,rfl,_,rfl,A.p,C,A.dx,_,.ref A.ll,rfl,O.get 1,R.c,R.nL,rfl,_,rfl,?_⟩
  refine Em O 4 rfl (wZ (by omega)) fun H6 O=>?_
  refine ⟨_,rfl,A.p,C,A.dx,_,.ref A.lo,rfl,O.get 1,R.c,R.nO,rfl,.inl ⟨rfl,_,O.sq 6⟩,_,rfl,_,rfl,_,rfl,szl,fun t2 ht2=>?_⟩
  walk_at "nw"
  refine ⟨A.lo,_,_,rfl,rfl,O.get 7,aQ (by omega),?_⟩
  generalize hE:upd _ _ _=Hn
  have O:=Ow.uQ O 7 rfl hE rfl
  clear hE
  obtain ⟨Hb,O,sb,e2⟩:=(show Ow T H0 Hn ((t2,.tup [.str "move",.int (k:Int),.str y,.int st])::(t1,.tup (xX (wst l st)))::(RX C A (exB Z) r S.day (us.set k (.ref t1)) S.ns (vs++[V.ref t2])++(BL Z gs [] ks pu++L))) from O).frz
  obtain ⟨Hc,O,sc,e1⟩:=O.frz
  have e2:=sc.keep _ _ e2 (fun _ z=>nomatch z)
  have sx:=sb.trans sc
  refine q1 _ hst hf Hc _ sx ⟨us.set k (.ref t1),vs++[V.ref t2],O,?_,?_⟩
  ·rw [List.map_set]
   exact (d0.mo sx).set (Den.lic (l:=wst l st) (SqT.of e1)) k
  ·rw [adw]
   exact (d1.mo sx).append (.cons (.tuple (SqT.of e2) (.cons (.str _) (.cons (.int _) (.cons (.str _) (.cons (.int _) .nil))))) .nil)
abbrev qT:Stmt:=top 99
theorem Am:aF ["word"] ["word"] (ao qT):=by walk_at "sc"
inductive Oo (T:d8)(vs:Fs)(H:Hp)(Q:VK)(E:XK):Prop
 | mk (x:Str)(_:vs=[.str x])(_:Asc x)(_:bI x)(_:TabsOk T H)(_:∀ H',aM T H H'->Q (.str x) H')
variable {rN:Addr}{sO:Ff}(gD:Df K mg "read_name" qT ["word"] rN sO)
include gj uE dF gD in
theorem aaz:((CXE P w)|||2) rN sO ["word"] (Oo T):=by
 refine gD.F.okX Am ?_ ?_
 walk_at "i"
 obtain ⟨x,rfl,hA,hn,tk,q⟩:=h
 refine ⟨_,(@bM _ _ _ _ _ _ _ _ (jd (jx (gj<*uE<*(pv 0>=>aj))))
   (~~~(bZ dw rfl (fun _ _ z=>z) rfl dF.m dF.q (aJ>=>aj)))
   aL<|>(~~~(@aH _ _ _ _ (pv 0)))),?_⟩
 refine ⟨_,rfl,x,rfl,hA,tk,fun b H1 hb s1=>?_⟩
 refine ⟨_,rfl,?_⟩
 cases b with
 | false=>exact absurd (hb.mpr hn) adv
 | true=>exact lR ⟨_,rfl,q _ s1⟩
abbrev uL:Stmt:=top 110
theorem wF:aF ["shapes","words","shape"] ["shapes","words"] (ao uL):=by walk_at "sc"
inductive Oj (K:Fa)(T:d8)(vs:Fs)(H:Hp)(Q:VK)(E:XK):Prop
 | mk (a b:Addr)(xs:List Str)(us:Fs)(j:Nat)(x:Str)(_:vs=[.ref a,.ref b])(_:SqT K H a (xs.map V.str))(_:xs.length<=10)(_:(∀ y∈xs,y.length<=100))(_:SqL K H b us)(_:us.length<=100)(_:xs[j]?=some x)(_:x.length+1=us.length)(_:(∀ m y,m<j->xs[m]?=some y->y.length+1≠us.length))(_:TabsOk T H)(_:∀ H',aM T H H'->Q (.str x) H')
variable {uX:Addr}{vf:Ff}(iT:Df K mg "shape_of" uL ["shapes","words"] uX vf)
include dF iT in
theorem aav (B:Blt mg):((CXE P w)|||1) uX vf ["shapes","words"] (Oj K T):=by
 refine iT.F.okX wF ?_ ?_
 walk_at "i"
 obtain ⟨a,b,xs,us,j,x,rfl,hA,hx10,hlen,hB,hu,hj,hl,hno,tk,q⟩:=h
 refine ⟨_,(nY PassesOwn.leaving rfl (aak (pv 0)) (2>>wF)
   (~~~(@bM _ _ _ _ _ _ _ _ (aG dU (aD kI rfl B.len adx (pv 2>=>aj)) (@aW _ _ _ _ _ _ _ _ uq (aD aC rfl B.len adx (pv 1>=>aj)) ak) (aO _))
    (~~~(@aH _ _ _ _ (pv 2)))
    aL))<|>(~~~(bZ dw rfl (fun _ _ z=>z) rfl dF.m dF.q (aJ>=>aj)))),?_⟩
 have hjl:=(adl.mp hj).1
 refine ⟨_,rfl,a,rfl,⟨_,hA⟩,?_⟩
 refine Za (K:=K) (xs:=xs.map V.str) (fun i σ H'=>Iv (∃ v2:Option V,σ=[some (.ref a),some (.ref b),v2]/\i<=j/\H'=H)) ⟨trivial,none,rfl,adY _,rfl⟩ (fun _ _ _ _ ⟨_,_,_,_,e⟩=>e ▸ hA) ?_ ?_
 ·rintro i v σ H1 hv ⟨-,v2,rfl,hij,rfl⟩
  rw [adC] at hv
  cases hy:xs[i]? with
  | none=>rw [hy] at hv;cases hv
  | some y =>
   rw [hy] at hv
   cases hv
   refine ⟨_,rfl,y,rfl,?_,_,rfl,b,_,rfl,.inl hB,_,_,rfl,rfl,rfl,_,rfl,?_⟩
   ·rw [sizeLine_eq];have:=hlen y (adp hy);omega
   refine ifI (fun e=>?_) (fun e=>?_)
   ·have:i=j:=by
     by_cases c:i=j
     ·exact c
     ·exact absurd (by omega) (hno i y (by omega) hy)
    subst this
    rw [hj] at hy
    cases hy
    exact ⟨_,rfl,q _ (aM.refl tk)⟩
   ·refine ⟨trivial,_,rfl,?_,rfl⟩
    by_cases c:i=j
    ·subst c
     rw [hj] at hy
     cases hy
     exact absurd (by omega) e
    ·omega
 ·rintro σ H1 ⟨-,v2,rfl,hij,rfl⟩
  rw [abW] at hij
  omega
abbrev qR:Stmt:=top 111
theorem Al:aF ["kind","word"] ["kind","word"] (ao qR):=by walk_at "sc"
inductive xR (ns:List Str):Nat->Str->V->Prop
 | num {x:Str} (a:acO x) (l:x.length<=1000) (h:KJ x):xR ns 110 x (.int (PySem.NumText.digitsVal x.cps.toList:Nat))
 | nam {x:Str} (a:Asc x) (h:bI x):xR ns 97 x (.str x)
 | rea {x:Str} {j:Nat} (h:ns[j]?=some x) (hn:∀ m,m<j->ns[m]?≠some x):xR ns 114 x (.int (j:Int))
 | oth {x:Str}:xR ns 119 x (.str x)
def Lp (c:Nat)(x:Str)(v:V):V:=if c=114 then .str x else v
inductive Om (T:d8)(vs:Fs)(H:Hp)(Q:VK)(E:XK):Prop
 | mk (ns:List Str)(c:Nat)(x:Str)(v:V)(_:vs=[.str ⟨#[c]⟩,.str x])(_:xR ns c x v)(_:TabsOk T H)(_:∀ H',aM T H H'->Q (Lp c x v) H')
variable (uD:((CXE P w)|||1) m6 m9 ["word"] (aad T cR))
variable (xV:((CXE P w)|||2) rN sO ["word"] (Oo T))
variable {rM:Addr}{sJ:Ff}(eG:Df K mg "read_word" qR ["kind","word"] rM sJ)
include eH gD uD xV eG in
theorem aay (zB:∃ t,mg "NUMBER"=some (.str "n" t))(JZ:∃ t,mg "NAME"=some (.str "a" t)):((CXE P w)|||3) rM sJ ["kind","word"] (Om T):=by
 obtain ⟨tN,hNUMBER⟩:=zB
 obtain ⟨tA,hNAME⟩:=JZ
 refine eG.F.okX Al ?_ ?_
 walk_at "i"
 obtain ⟨ns,c,x,v,rfl,hw,tk,q⟩:=h
 refine ⟨_,(@bM _ _ _ _ _ _ _ _ (aG dU (pv 0) (bN (v:=.str "n") rfl hNUMBER ⟨_,rfl⟩) (aO _))
   (~~~(@aH _ _ _ _ (eH*>uD*>(pv 1>=>aj))))
   aL<|>@bM _ _ _ _ _ _ _ _ (aG dU (pv 0) (bN (v:=.str "a") rfl hNAME ⟨_,rfl⟩) (aO _))
   (~~~(@aH _ _ _ _ (gD*>xV*>(pv 1>=>aj))))
   aL<|>(~~~(@aH _ _ _ _ (pv 1)))),?_⟩
 have e1:∀ (c d:Nat),V.str (⟨#[c]⟩:Str)=V.str ⟨#[d]⟩↔c=d:=fun c d=>⟨fun h=>by injection h with h;injection h with h;simpa using h,fun h=>by rw [h]⟩
 refine ⟨_,rfl,rfl,_,rfl,?_⟩
 cases hw with
 | num a l h=>exact j7 ⟨_,rfl,x,rfl,a,l,tk,(fun z=>absurd h z),fun _ H' s'=>q H' s'⟩
 | nam a h=>exact lR ⟨_,rfl,rfl,_,rfl,j7 ⟨_,rfl,x,rfl,a,h,tk,fun H' s'=>q H' s'⟩⟩
 | rea h hn=>exact lR ⟨_,rfl,rfl,_,rfl,lR ⟨_,rfl,q _ (aM.refl tk)⟩⟩
 | oth=>exact lR ⟨_,rfl,rfl,_,rfl,lR ⟨_,rfl,q _ (aM.refl tk)⟩⟩
abbrev uM:Stmt:=top 112
theorem Cg:aF ["names","word"] ["names","word"] (ao uM):=by walk_at "sc"
inductive Oq (K:Fa)(vs:Fs)(H:Hp)(Q:VK)(E:XK):Prop
 | mk (l:Addr)(ns:List Str)(x:Str)(j:Nat)(_:vs=[.ref l,.str x])(_:H l=some (.lst (ns.map V.str)))(_:ns[j]?=some x)(_:(∀ m,m<j->ns[m]?≠some x))(_:Q (.int (j:Int)) H)
variable {uY:Addr}{vg:Ff}(cI:Df K mg "place_of" uM ["names","word"] uY vg)
include cI in
theorem aaA (jU:j8 K mg "NoReach" cR):((CXE P w)|||1) uY vg ["names","word"] (Oq K):=by
 refine cI.F.okX Cg ?_ ?_
 walk_at "i"
 obtain ⟨l,ns,x,j,rfl,hH,hj,hn,q⟩:=h
 refine ⟨_,(@bM _ _ _ _ _ _ _ _ (aG Bk (pv 1) (pv 0) (by rfl))
   (~~~(bZ dw rfl (fun _ _ z=>z) rfl jU.m jU.q (aJ>=>aj)))
   aL<|>(~~~(@aH _ _ _ _ (je adz PySem.F.slot_list_index PySem.F.type_list_index Im (pv 0) (pv 1>=>aj))))),?_⟩
 refine ⟨_,rfl,_,rfl,l,_,rfl,.inl (SqL.of hH),rfl,xr _,?_⟩
 rw [if_pos rfl,CK]
 refine ⟨_,rfl,ifN (ifD (fun _=>?_) (fun h=>absurd (adp hj) h))⟩
 exact ⟨_,rfl,.inl ⟨rfl,_,SqL.of hH⟩,_,rfl,l,ns,x,j,rfl,rfl,hH,hj,hn,q⟩
structure Dk where
 p:Addr
 dx:Addr
 ln:Addr
 lb:Addr
 rn:Addr
 cl:Addr
 le:Addr
abbrev Zf:List Str:=["names","below","book","rains","calls","lets","last"]
abbrev Ja (CD:Addr)(Dq:Dk)(bk:V):HO:=.ins CD Dq.dx [("names",.ref Dq.ln),("below",.ref Dq.lb),("book",bk),("rains",.ref Dq.rn),("calls",.ref Dq.cl),("lets",.ref Dq.le),("last",.non)]
abbrev DX (CD:Addr)(Dq:Dk)(bk:V)(ns:List Str)(bs:List Int):Fr:=[(Dq.p,Ja CD Dq bk),(Dq.dx,.own Dq.p),(Dq.ln,.lst (ns.map V.str)),(Dq.lb,.lst (bs.map V.int)),(Dq.rn,.dK []),(Dq.cl,.dK []),(Dq.le,.lst [])]
structure DC (K:Fa)(C:Addr):Prop where
 c:Cls K C
 n1:dW K C "names"
 n2:dW K C "below"
 n3:dW K C "book"
 n4:dW K C "rains"
 n5:dW K C "calls"
 n6:dW K C "lets"
 n7:dW K C "last"
theorem Zh {f0:Addr}(R:Cl K mg "Desk" C f0 Zf):DC K C:=by
 have n:=R.n;simp only [Zf,adt,adZ,or_false,forall_eq_or_imp,forall_eq] at n;obtain ⟨a1,a2,a3,a4,a5,a6,a7⟩:=n;exact ⟨R.c,a1,a2,a3,a4,a5,a6,a7⟩
abbrev gZ:Stmt:=inClass (top 136) 0
theorem vU:aF ["self"] ["self"] (ao gZ):=by walk_at "sc"
inductive Ea (K:Fa)(T:d8)(C:Addr)(vs:Fs)(H:Hp)(Q:VK)(E:XK):Prop
 | mk (p dx:Addr)(H0:Hp)(B:Fr)(_:vs=[.ref p])(_:Ow T H0 H ((p,.ins C dx [])::(dx,.own p)::B))(_:∀ (Dq:Dk)(H':Hp),Dq.p=p->Ow T H0 H' (DX C Dq .non [] []++B)->Q .non H')
theorem aal {α:Type}(p d n b r c l:α)(B:List α):(l::c::r::b::n::p::d::B).Perm (p::d::n::b::r::c::l::B):=by
 have h1:[l,c,r,b,n,p,d].Perm [p,d,n,b,r,c,l]:=by
  refine (List.perm_append_comm (l₁:=[l,c,r,b,n]) (l₂:=[p,d])).trans ?_;exact aeo [p,d] (List.reverse_perm [l,c,r,b,n]).symm
 exact List.Perm.append_right B h1
theorem MF (D:Dm K C "__init__" "Desk.__init__" gZ ["self"] f fd)(cG:DC K C):(CX0|||1) f fd ["self"] (Ea K T C):=by
 have R:=cG;refine D.F.ok vU ?_ ?_;walk_at "i";obtain ⟨p,dx,H0,L,rfl,O,q⟩:=h;refine ⟨_,(iH (pv 0) (@bO _ _ _ _ aj) rfl<|>iH (pv 0) (@bO _ _ _ _ aj) rfl<|>iH (pv 0) lV rfl<|>iH (pv 0) El rfl<|>iH (pv 0) El rfl<|>iH (pv 0) (@bO _ _ _ _ aj) rfl<|>(~~~(iH (pv 0) lV rfl))),?_⟩;refine ⟨szl,fun ln hln=>?_⟩;walk_at "nw";refine ⟨_,rfl,p,C,dx,_,rfl,O.get 1,R.c,R.n1,(by show 0<1000;decide),?_⟩;walk_at "pt";refine ⟨szl,fun lb hlb=>?_⟩;walk_at "nw";refine ⟨_,rfl,p,C,dx,_,rfl,O.get 2,R.c,R.n2,(by show 1<1000;decide),?_⟩;walk_at "pt";refine ⟨_,rfl,p,C,dx,_,rfl,O.get 2,R.c,R.n3,(by show 2<1000;decide),?_⟩;walk_at "pt";refine (fun rn hrn=>?_);walk_at "nw";refine ⟨_,rfl,p,C,dx,_,rfl,O.get 3,R.c,R.n4,(by show 3<1000;decide),?_⟩;walk_at "pt";refine (fun cl hcl=>?_);walk_at "nw";refine ⟨_,rfl,p,C,dx,_,rfl,O.get 4,R.c,R.n5,(by show 4<1000;decide),?_⟩;walk_at "pt";refine ⟨szl,fun le hle=>?_⟩;walk_at "nw";refine ⟨_,rfl,p,C,dx,_,rfl,O.get 5,R.c,R.n6,(by show 5<1000;decide),?_⟩;walk_at "pt";refine ⟨_,rfl,p,C,dx,_,rfl,O.get 5,R.c,R.n7,(by show 6<1000;decide),?_⟩;walk_at "pt";exact q ⟨p,dx,ln,lb,rn,cl,le⟩ _ rfl (O.perm (aal _ _ _ _ _ _ _ _).symm)
abbrev jD:Stmt:=inClass (top 136) 1
theorem gq:aF ["self","row","words","first","shapes","shape","told"] ["self","row"] (ao jD):=by walk_at "sc"
structure Said (K:Fa)(H:Hp)(kA kB kN:List (Key × V))(AT:List (Addr × Sp))(ns:List Str)(bk:V)(w0:Str)(ws:List Str)(us:Fs)(sp:Sp):Prop where
 wd:∀ x∈w0::ws,32 ∉ x.cps.toList/\x≠("":Str)/\x.length<=100
 wl:ws.length<=20
 sh:∃ (t:Addr)(xs:List Str)(j:Nat)(sh:Str),(bk=.non/\yP kA (.inr w0)=some (.ref t)\/(∃ b,bk=.ref b)/\yP kB (.inr w0)=some (.ref t))/\SqT K H t (xs.map V.str)/\xs.length<=10/\(∀ y∈xs,y.length<=100)/\xs[j]?=some sh/\sh.length=ws.length/\(∀ (m:Nat)(y:Str),m<j->xs[m]?=some y->y.length≠ws.length)/\sh.cps.all (·<128)=true/\us.length=ws.length/\∀ (i c:Nat)(x:Str)(v:V),sh.cps[i]?=some c->ws[i]?=some x->us[i]?=some v->xR ns c x v
 an:∃ f,yP kN (.inr w0)=some (.ref f)/\(f,sp)∈AT
inductive qI (K:Fa)(T:d8)(CD:Addr)(kA kB kN:List (Key × V))(AT:List (Addr × Sp))(vs:Fs)(H:Hp)(Q:VK)(E:XK):Prop
 | mk (Dq:Dk)(bk:V)(ns:List Str)(w0:Str)(ws:List Str)(us:Fs)(sp:Sp)(_:vs=[.ref Dq.p,.str (Str.join (" ":Str) (w0::ws))])(_:H Dq.p=some (Ja CD Dq bk))(_:H Dq.ln=some (.lst (ns.map V.str)))(_:Said K H kA kB kN AT ns bk w0 ws us sp)(_:TabsOk T H)(_:∀ (lt:Addr)(H':Hp),Ow T H H' [(lt,.lst us)]->sp [.ref Dq.p,.ref lt] H' Q E)
variable (cG:DC K CD)
variable (vM:((CXE P w)|||1) pq pJ ["row"] (aac T cR))
variable (yL:((CXE P w)|||1) uX vf ["shapes","words"] (Oj K T))
variable (xU:((CXE P w)|||3) rM sJ ["kind","word"] (Om T))
variable (qw:((CXE P w)|||1) uY vg ["names","word"] (Oq K))
include fK iT eG cI cG vM yL xU qw in
theorem aax (D:Dm K CD "say" "Desk.say" jD ["self","row"] f fd)(B:Blt mg)(CQ:∃ t,mg "REACH"=some (.str "r" t))(Dp:mg "AHEAD"=some (.ref aA))(KD_AHEAD:KD P w K aA kA)(zR:mg "BEHIND"=some (.ref aB))(KD_BEHIND:KD P w K aB kB)(xT:mg "ANSWERS"=some (.ref aN))(KD_ANSWERS:KD P w K aN kN)(vA:∀ f sp,(f,sp)∈AT->FnV P w K mg base (CXE P w) 12 ["desk","told"] f sp):
  ((CXE P w)|||13) f fd ["self","row"] (qI K T CD kA kB kN AT):=by
 obtain ⟨tR,hREACH⟩:=CQ;have R:=cG;refine D.F.okX gq ?_ ?_;walk_at "i";obtain ⟨Dq,bk,ns,w0,ws,us,sp,rfl,hp,hn,h,tk,q⟩:=h;refine ⟨_,(2<$>gq<$>(fK*>vM*>(pv 1>=>aj))<|>3<$>gq<$>(@aK _ _ _ _ _ _ _ au (pv 2) ak (fun _ _=>rfl))<|>(jG (4<$>gq<$>(mX (aG En (aY (pv 0) rfl) lV (aO _)) (Ek rfl Dp KD_AHEAD (pv 3) (@f9 _ _ _ _ _ aj) ⟨rfl,rfl,rfl,rfl⟩) (Ek rfl zR KD_BEHIND (pv 3) (@f9 _ _ _ _ _ aj) ⟨rfl,rfl,rfl,rfl⟩)))
  (5<$>gq<$>(iT*>yL*>(pv 4>=>pv 2>=>aj))<|>uR (i:=6) (ao jD) rfl ["self","row","words","first","shapes","shape","told"] rfl ["kind","word"] [none,none] (by decide+kernel) (by decide+kernel) (by decide+kernel) rfl gq.nd rfl rfl (HF rfl B.zip (pv 5>=>jA qP (pv 2) (jm ak) uT>=>aj)) (fun _ _ _=>(zq (K:=K) (n:=2) rfl rfl (aZ (dR (i:=0) (show (["kind","word"]:List Str).Nodup by decide+kernel) rfl (Or.inl rfl)) (aZ (dR (i:=1) (show (["kind","word"]:List Str).Nodup by decide+kernel) rfl (Or.inl rfl)) jo)))) (fun _ _ _=>jl) (fun _ _ _=>(wO xU hr.m rfl eG.m eG.F.kp eG.b .nil Lr (pv 0>=>pv 1>=>aj))) rfl<|>uR (i:=6) (ao jD) rfl ["self","row","words","first","shapes","shape","told"] rfl ["kind","one","self"] [none,none,some 0] (by decide+kernel) (by decide+kernel) (by decide+kernel) rfl gq.nd rfl rfl (HF rfl B.zip (pv 5>=>pv 6>=>aj)) (fun _ _ _=>(zq (K:=K) (n:=2) rfl rfl (aZ (dR (i:=0) (show (["kind","one","self"]:List Str).Nodup by decide+kernel) rfl (Or.inl rfl)) (aZ (dR (i:=1) (show (["kind","one","self"]:List Str).Nodup by decide+kernel) rfl (Or.inl rfl)) jo)))) (fun _ _ _=>jl) (fun _ _ _=>(mX (aG dU (pv 0) (bN (v:=.str "r") rfl hREACH ⟨_,rfl⟩) (aO _)) (wO qw hr.m rfl cI.m cI.F.kp cI.b .nil Lr (YL (K:=K) rfl (pv 2) rfl>=>pv 1>=>aj)) (pv 1))) rfl<|>(~~~(@aH _ _ _ _ (Lq (YJ rfl xT KD_ANSWERS (pv 3) (fun _ _=>rfl)) vA hr.m iJ (pv 0>=>pv 6>=>aj))))))),?_⟩
 have hsp:Txt.split (Str.join (" ":Str) (w0::ws)) (" ":Str)=w0::ws:=FJ (fun z=>nomatch z) (fun t ht=>(h.wd t ht).1);have hgd:Good (Str.join (" ":Str) (w0::ws)).cps.toList:=(uI _).mp (by rw [hsp];exact fun z=>(h.wd _ z).2.1 rfl);have hwl:=h.wl;obtain ⟨t,xs,j,sh,hbk,hT,hx10,hxl,hj,hsl,hno,hasc,hul,hW⟩:=h.sh;obtain ⟨f0,hf0,hAT⟩:=h.an;have hjl:(Str.join (" ":Str) (w0::ws)).length<=20000:=by
  have a:=Nj (w0::ws);have b:=Aa (ns:=w0::ws) (m:=100) (fun x hx=>(h.wd x hx).2.2);simp only [adF] at a b;omega
 have O:=Ow.refl tk;refine ⟨_,rfl,_,rfl,hjl,tk,(fun z=>absurd hgd z),fun _ lw hlw=>?_⟩;rw [hsp];walk_at "nw";refine ⟨_,rfl,lw,_,0,.str w0,rfl,rfl,O.sq 0,dN (j:=0) (xs:=(w0::ws).map V.str) rfl,?_⟩;have keepP:∀ {H':Hp},aM T H H'->H' Dq.p=some (Ja CD Dq bk):=fun s=>s.keep _ _ hp (fun _ z=>nomatch z);have keepN:∀ {H':Hp},aM T H H'->H' Dq.ln=some (.lst (ns.map V.str)):=fun s=>s.keep _ _ hn (fun _ z=>nomatch z);refine ⟨fun σ H'=>Iv (σ=[some (.ref Dq.p),some (.str (Str.join (" ":Str) (w0::ws))),some (.ref lw),some (.str w0),some (.ref t),none,none]/\Ow T H H' [(lw,.lst ((w0::ws).map V.str))]),?_,?_⟩
 ·rcases hbk with ⟨rfl,hv⟩ | ⟨⟨b,rfl⟩,hv⟩
  ·refine ⟨_,rfl,Dq.p,CD,Dq.dx,_,.non,rfl,keepP O.same,R.c,R.n3,rfl,rfl,_,rfl,j7 ⟨_,rfl,szl,fun te hte=>?_⟩⟩;walk_at "nw";refine ⟨.inr w0,rfl,?_⟩;rw [hv];exact ⟨trivial,rfl,O.tail⟩
  ·refine ⟨_,rfl,Dq.p,CD,Dq.dx,_,.ref b,rfl,keepP O.same,R.c,R.n3,rfl,rfl,_,rfl,lR ⟨_,rfl,szl,fun te hte=>?_⟩⟩;walk_at "nw";refine ⟨.inr w0,rfl,?_⟩;rw [hv];exact ⟨trivial,rfl,O.tail⟩
 clear O;rintro σ H2 ⟨-,rfl,O⟩;refine ⟨_,rfl,_,rfl,t,lw,xs,_,j,sh,rfl,hT.mo O.same,hx10,hxl,O.sq 0,by simp;omega,hj,by simp;omega,fun m y hm hy=>by have:=hno m y hm hy;simp;omega,O.same.t1,fun H3 s3=>?_⟩;have O:=O.jB s3;obtain ⟨rd,hrl,hrd⟩:∃ rd:Fs,rd.length=ws.length/\∀ (i c:Nat)(x:Str)(v:V),sh.cps[i]?=some c->ws[i]?=some x->us[i]?=some v->rd[i]?=some (Lp c x v):=by
  refine ⟨(List.range ws.length).map fun i=>Lp (sh.cps.getD i 0) (ws.getD i "") (us.getD i .non),by simp,fun i c x v h1 h2 h3=>?_⟩;have hi:=(adl.mp h2).1;rw [adC,List.getElem?_range hi];show some (Lp (sh.cps.getD i 0) (ws.getD i "") (us.getD i .non))=_;rw [adS,adS,h2,h3];simp [Array.getD_eq_getD_getElem?,h1]
 refine ⟨_,rfl,_,rfl,1,rfl,lw,_,rfl,O.sq 0,fun l1 h1=>?_⟩;walk_at "nw";have ecut:zM ((w0::ws).map V.str) (some 1) none=ws.map V.str:=by
  unfold zM;rw [show HT.sIx ((w0::ws).map V.str).length 0 (some 1)=1 from by rw [show (1:Int)=((1:Nat):Int) from rfl,HT.wM];simp,show HT.sIx ((w0::ws).map V.str).length ((w0::ws).map V.str).length none=((w0::ws).map V.str).length from rfl];simp;exact aee (by simp)
 rw [ecut] at O;have O:Ow T H Hn [(l1,.lst (ws.map V.str))]:=O.sub (.cons₂ _ (aea _));have hcl:sh.cps.size=ws.length:=hsl;refine ⟨sh,l1,_,rfl,hasc,O.sq 0,fun acc hacc=>?_⟩;refine Bv (K:=K) (ys:=ws.map V.str) (fun i τ H'=>Iv (∃ v0 v1:Option V,τ=[v0,v1]/\Ow T H H' [(acc,.lst (rd.take i)),(l1,.lst (ws.map V.str))])) ⟨trivial,none,none,rfl,O.mk' hacc rfl⟩ (by rw [abW];omega) (fun _ _ _ _ ⟨_,_,_,_,O⟩=>O.sq 1) ?_ ?_
 ·clear O;rintro i c b T1 τ H4 hc hb ⟨-,v0,v1,rfl,O⟩ hT1;rw [adC] at hb;cases hx:ws[i]? with
  | none=>rw [hx] at hb;cases hb
  | some x =>
   rw [hx] at hb;cases hb;have hi:=(adl.mp hx).1;obtain ⟨v,hv⟩:∃ v,us[i]?=some v:=⟨_,ada (by omega)⟩;have hr1:=hrd i c x v hc hx hv;walk_at "nw";refine ⟨T1,_,rfl,O.sqT 0,rfl,_,_,rfl,_,_,rfl,rfl,?_⟩;have O:=O.tail;refine abQ ?_;refine ⟨_,rfl,_,rfl,ns,c,x,v,rfl,hW i c x v hc hx hv,O.same.t1,fun H5 s5=>?_⟩;have O:=O.jB s5;refine ⟨_,O.get 0,aQ (by rw [adU];omega),?_⟩;walk_at "pt";refine ⟨trivial,_,_,rfl,?_⟩;rw [ae0,hr1];exact O
 clear O;rintro τ H4 ⟨-,v0,v1,rfl,O⟩;rw [hcl,<- hrl,aev] at O;have O:Ow T H H4 [(acc,.lst rd)]:=O.sub (.cons₂ _ (aea _));refine ⟨_,rfl,_,rfl,sh,acc,rd,rfl,hasc,O.sq 0,fun ac2 hac2=>?_⟩;refine Bv (K:=K) (ys:=rd) (fun i τ H'=>Iv (∃ v0 v1:Option V,τ=[v0,v1,some (.ref Dq.p)]/\Ow T H H' [(ac2,.lst (us.take i)),(acc,.lst rd)])) ⟨trivial,none,none,rfl,O.mk' hac2 rfl⟩ (by omega) (fun _ _ _ _ ⟨_,_,_,_,O⟩=>O.sq 1) ?_ ?_
 ·clear O;rintro i c b T1 τ H4 hc hb ⟨-,v0,v1,rfl,O⟩ hT1;have hi:=(adl.mp hb).1;obtain ⟨v,hv⟩:∃ v,us[i]?=some v:=⟨_,ada (by omega)⟩;obtain ⟨x,hx⟩:∃ x,ws[i]?=some x:=⟨_,ada (by omega)⟩;have hr1:=hrd i c x v hc hx hv;rw [hb] at hr1;have eb:=adP hr1;subst eb;have hw:=hW i c x v hc hx hv;walk_at "nw";refine ⟨T1,_,rfl,O.sqT 0,rfl,_,_,rfl,_,_,rfl,rfl,?_⟩;replace O:=O.tail;refine abQ ?_;have hus:(us.take i).length<sizeLine:=aQ (by rw [adU];omega);have nx:us.take (i+1)=us.take i++[v]:=by rw [ae0,hv];rfl
  refine ⟨_,rfl,rfl,_,rfl,?_⟩;cases hw with
  | num a l h =>
   refine lR ⟨_,rfl,_,O.get 0,hus,?_⟩;walk_at "pt";exact ⟨trivial,_,_,rfl,by rw [nx];exact O⟩
  | nam a h =>
   refine lR ⟨_,rfl,_,O.get 0,hus,?_⟩;walk_at "pt";exact ⟨trivial,_,_,rfl,by rw [nx];exact O⟩
  | oth =>
   refine lR ⟨_,rfl,_,O.get 0,hus,?_⟩;walk_at "pt";exact ⟨trivial,_,_,rfl,by rw [nx];exact O⟩
  | @rea _ j h hn1 =>
   refine j7 ⟨_,rfl,Dq.p,CD,Dq.dx,_,.ref Dq.ln,rfl,keepP O.same,R.c,R.n1,rfl,_,rfl,Dq.ln,ns,x,j,rfl,keepN O.same,h,hn1,_,O.get 0,hus,?_⟩;walk_at "pt";exact ⟨trivial,_,_,rfl,by rw [nx];exact O⟩
 clear O;rintro τ H5 ⟨-,v0,v1,rfl,O⟩;rw [hcl,<- hul,aev] at O;have O:Ow T H H5 [(ac2,.lst us)]:=O.sub (.cons₂ _ (aea _));exact ⟨_,rfl,.inr w0,.ref f0,rfl,hf0,f0,sp,rfl,hAT,_,rfl,_,rfl,q ac2 H5 O⟩
variable {r:List Int}{S':RS}
theorem Yv {d:Fq}(h:step r S d=.ok S'):S'.ds=S.ds++[d]:=by
 cases d <;>simp only [step,RS.zQ] at h <;>(repeat' split at h)<;>first| (cases h;rfl) | cases h
theorem Le {d:Fq}(h:step r S d=.ok S')(hn:S.ns.length=S.ls.length)(hl:S.ls.length<=60):S'.ns.length=S'.ls.length/\S'.ls.length<=60/\S'.ls.length<=S.ls.length+1:=by
 cases d <;>simp only [step,RS.zQ] at h <;>(repeat' split at h)<;>first| (cases h;done) | (cases h;simp only [adG,aex,adF,aeg,PL,List.length_zipWith] at*;omega)
inductive Dd
 | file (x:Str) (st m:Int) (b:Option Int)
 | sell (n:Int) (y z:Str)
 | part (n:Int) (y:Str) (m:Int) (z:Str)
 | drop (n:Int) (y:Str)
 | move (n:Int) (y:Str) (st:Int)
 | pond (n:Int) (y:Str) (room:Int) (leak:Option Int)
 | turn
def kY:Dd->Fs
 | .file x st m none=>[.str x,.int st,.int m]
 | .file x st m (some b)=>[.str x,.int st,.int m,.int b]
 | .sell n y z=>[.int n,.str y,.str z]
 | .part n y m z=>[.int n,.str y,.int m,.str z]
 | .drop n y=>[.int n,.str y]
 | .move n y st=>[.int n,.str y,.int st]
 | .pond n y m none=>[.int n,.str y,.int m]
 | .pond n y m (some b)=>[.int n,.str y,.int m,.int b]
 | .turn=>[]
def acK:Dd->Prop
 | .file x _ _ _=>Asc x
 | .sell _ y z=>Asc y/\Asc z
 | .part _ y _ z=>Asc y/\Asc z
 | .drop _ y=>Asc y
 | .move _ y _=>Asc y
 | .pond _ y _ _=>Asc y
 | .turn=>True
structure Er where
 c:Ec
 cP:Addr
 cF:Addr
def ofS (e:Er)(ps:List Pd)(y:Str):Except EK RS->Except Addr (RS × List Pd × Str)
 | .ok S=>.ok (S,ps,y)
 | .error k=>.error (e.c.at_ k)
noncomputable def zA (e:Er)(r:List Int)(S:RS)(ps:List Pd):Dd->Except Addr (RS × List Pd × Str)
 | .file x st m b=>ofS e ps (gb (S.ls.length:Int)) (step r S (.file x st m (b.getD (-1))))
 | .sell n y z=>ofS e ps "ok" (step r S (.sell n y z))
 | .part n y m z=>ofS e ps (gb (S.ls.length:Int)) (step r S (.part n y m z))
 | .drop n y=>ofS e ps "ok" (step r S (.drop n y))
 | .move n y st=>match step r S (.move n y st) with
  | .ok S'=>if Gk ps n then .error e.cF else .ok (S',ps,"ok")
  | .error k=>.error (e.c.at_ k)
 | .pond n y m b=>match um S ps n y m (b.getD 0) with
  | none=>.ok (S,ps++[(n,m,b.getD 0)],gb (ps.length:Int))
  | some k=>.error (k.at_ e.c e.cP)
 | .turn=>ofS e ps "ok" (step r S .turn)
inductive BS (K:Fa)(T:d8)(C:Addr)(A:Rs)(Z:Bx)(r:List Int)(H0 H:Hp)(B:Fr)(S:RS)(ps:List Pd):Prop
 | mk (ks us:Fs)(_:RA K T C A (exB Z) r H0 H (BL Z [] [] ks us++B) S)(_:eO K H0 us (ps.map dMv))(_:ks.length=ps.length)(_:ps.length<=10)
variable {A:Rs}{Z:Bx}{B:Fr}{ps:List Pd}
theorem BS.go {H':Hp}(h:BS K T C A Z r H0 H B S ps)(s:aM T H H'):BS K T C A Z r H0 H' B S ps:=by
 obtain ⟨ks,us,⟨a,b,O,d0,d1⟩,dP,e1,e2⟩:=h;exact ⟨ks,us,⟨a,b,O.jB s,d0,d1⟩,dP,e1,e2⟩
theorem BS.tab (h:BS K T C A Z r H0 H B S ps):TabsOk T H:=by
 obtain ⟨ks,us,⟨a,b,O,d0,d1⟩,dP,e1,e2⟩:=h;exact O.same.t1
variable {m:Int}
theorem zp {b:Int}(h:um S ps n y m b=none):ps.length<10:=by
 unfold um at h;split at h
 ·cases h
 ·split at h
  ·cases h
  ·split at h
   ·cases h
   ·rename_i z
    by_cases c:ps.length<10
    ·exact c
    ·exact absurd (.inr (.inr (.inl (by omega)))) z
variable {k:Except EK RS}
theorem kj {st:Int}(b:Option Int)(h:step r S (.file x st m (b.getD (-1)))=k):zA e r S ps (.file x st m b)=ofS e ps (gb (S.ls.length:Int)) k:=by
 show ofS e ps _ _=_;rw [h]
theorem zx (b:Option Int)(h:um S ps n y m (b.getD 0)=none):zA e r S ps (.pond n y m b)=.ok (S,ps++[(n,m,b.getD 0)],gb (ps.length:Int)):=by
 show (match um S ps n y m (b.getD 0) with| none=>_| some k=>_)=_;rw [h]
theorem zy (b:Option Int){k:PK}(h:um S ps n y m (b.getD 0)=some k):zA e r S ps (.pond n y m b)=.error (k.at_ e.c e.cP):=by
 show (match um S ps n y m (b.getD 0) with| none=>_| some k=>_)=_;rw [h]
def Ng:Dd->Nat
 | .file ..=>0
 | .sell ..=>1
 | .part ..=>2
 | .drop ..=>3
 | .move ..=>4
 | .pond ..=>5
 | .turn=>6
structure abP (K:Fa)(T:d8)(C:Addr)(e:Er)(A:Rs)(Z:Bx)(r:List Int)(H0 H:Hp)(B:Fr)(S:RS)(ps:List Pd)(d:Dd)(Q:VK)(E:XK):Prop where
 ok:∀ S' ps' y,zA e r S ps d=.ok (S',ps',y)->∀ Hb H',aM T H0 Hb->BS K T C A Z r Hb H' B S' ps'->Q (.str y) H'
 er:∀ a,zA e r S ps d=.error a->∀ (x:Addr)(H':Hp),aM T H H'->H' x=none->E (.ref a) (some x) H'
inductive jw (K:Fa)(T:d8)(C CD:Addr)(e:Er)(k:Nat)(vs:Fs)(H:Hp)(Q:VK)(E:XK):Prop
 | mk (A:Rs)(Z:Bx)(Dq:Dk)(lt:Addr)(H0:Hp)(B:Fr)(r:List Int)(S:RS)(ps:List Pd)(d:Dd)(_:vs=[.ref Dq.p,.ref lt])(_:Ng d=k)(_:BS K T C A Z r H0 H B S ps)(_:RP r (exB Z) S)(_:acK d)(_:(Dq.p,Ja CD Dq (.ref A.p))∈B)(_:(lt,HO.lst (kY d))∈B)(_:abP K T C e A Z r H0 H B S ps d Q E)
abbrev mz:Stmt:=top 118
theorem yc:aF ["desk","told"] ["desk","told"] (ao mz):=by walk_at "sc"
variable (nq:((CXE P w)|||3) rW sY ["self","number","holder","to"] (GR K T C e.c))
include aU cM dz cG nq in
theorem Mf (D:Df K mg "answer_sell" mz ["desk","told"] f fd)(zV:∃ t,mg "OK"=some (.str "ok" t)):((CXE P w)|||12) f fd ["desk","told"] (jw K T C CD e 1):=by
 obtain ⟨tO,hOK⟩:=zV;have R:=cG;refine D.F.okX yc ?_ ?_;walk_at "i";obtain ⟨A,Z,Dq,lt,H0,L,r,S,ps,d,rfl,hk,⟨ks,us,ra,dP,hkl,hp10⟩,hp,hd,mD,mL,q⟩:=h;obtain ⟨us0,vs0,O,d0,d1⟩:=id ra;have hD:=O.at_ _ (Mv _ (Mv _ mD));have hL:=SqL.of (K:=K) (O.at_ _ (Mv _ (Mv _ mL)));refine ⟨_,(bf (cu (aY (pv 0) rfl) aU.c cM.m nq hr.m cM.b .nil iJ (@aK _ _ _ _ _ _ _ au (pv 1) ak (fun _ _=>rfl)>=>@aK _ _ _ _ _ _ _ au (pv 1) ak (fun _ _=>rfl)>=>@aK _ _ _ _ _ _ _ au (pv 1) ak (fun _ _=>rfl)>=>aj))<|>(~~~(@aH _ _ _ _ (bN (v:=.str "ok") rfl hOK ⟨_,rfl⟩)))),?_⟩;cases d with
 | sell n y z =>
  refine ⟨_,rfl,Dq.p,CD,Dq.dx,_,.ref A.p,rfl,hD,R.c,R.n3,rfl,A.p,A.dx,_,rfl,O.get 0,rfl,_,rfl,lt,_,0,_,rfl,rfl,hL,rfl,_,rfl,lt,_,1,_,rfl,rfl,hL,rfl,_,rfl,lt,_,2,_,rfl,rfl,hL,rfl,A,exB Z,H0,_,r,S,n,y,z,rfl,ra,hp,hd.2,fun S' hs Hb H' sb ra=>q.ok S' ps "ok" (by show ofS e ps "ok" _=_;rw [hs];rfl) Hb H' sb ⟨ks,us,ra,dP.mo sb,hkl,hp10⟩,fun k hs x H' s' hx=>q.er _ (by show ofS e ps "ok" _=_;rw [hs];rfl) x H' s' hx⟩
 | _=>cases hk
abbrev mK:Stmt:=top 120
theorem yh:aF ["desk","told"] ["desk","told"] (ao mK):=by walk_at "sc"
variable (nC:((CXE P w)|||3) sG tH ["self","number","holder"] (Hg K T C e.c))
include aU cU dz cG nC in
theorem Mp (D:Df K mg "answer_drop" mK ["desk","told"] f fd)(zV:∃ t,mg "OK"=some (.str "ok" t)):((CXE P w)|||12) f fd ["desk","told"] (jw K T C CD e 3):=by
 obtain ⟨tO,hOK⟩:=zV;have R:=cG;refine D.F.okX yh ?_ ?_;walk_at "i";obtain ⟨A,Z,Dq,lt,H0,L,r,S,ps,d,rfl,hk,⟨ks,us,ra,dP,hkl,hp10⟩,hp,hd,mD,mL,q⟩:=h;obtain ⟨us0,vs0,O,d0,d1⟩:=id ra;have hD:=O.at_ _ (Mv _ (Mv _ mD));have hL:=SqL.of (K:=K) (O.at_ _ (Mv _ (Mv _ mL)));refine ⟨_,(bf (cu (aY (pv 0) rfl) aU.c cU.m nC hr.m cU.b .nil iJ (@aK _ _ _ _ _ _ _ au (pv 1) ak (fun _ _=>rfl)>=>@aK _ _ _ _ _ _ _ au (pv 1) ak (fun _ _=>rfl)>=>aj))<|>(~~~(@aH _ _ _ _ (bN (v:=.str "ok") rfl hOK ⟨_,rfl⟩)))),?_⟩;cases d with
 | drop n y =>
  refine ⟨_,rfl,Dq.p,CD,Dq.dx,_,.ref A.p,rfl,hD,R.c,R.n3,rfl,A.p,A.dx,_,rfl,O.get 0,rfl,_,rfl,lt,_,0,_,rfl,rfl,hL,rfl,_,rfl,lt,_,1,_,rfl,rfl,hL,rfl,A,exB Z,H0,_,r,S,n,y,rfl,ra,hp,fun S' hs Hb H' sb ra=>q.ok S' ps "ok" (by show ofS e ps "ok" _=_;rw [hs];rfl) Hb H' sb ⟨ks,us,ra,dP.mo sb,hkl,hp10⟩,fun k hs x H' s' hx=>q.er _ (by show ofS e ps "ok" _=_;rw [hs];rfl) x H' s' hx⟩
 | _=>cases hk
abbrev mq:Stmt:=top 123
theorem xZ:aF ["desk","told"] ["desk","told"] (ao mq):=by walk_at "sc"
variable (nj:(CX0|||1) rT sX ["self"] (GQ K T C e.c))
include cL aU dz cG nj in
theorem Ma (D:Df K mg "answer_turn" mq ["desk","told"] f fd)(zV:∃ t,mg "OK"=some (.str "ok" t)):((CXE P w)|||12) f fd ["desk","told"] (jw K T C CD e 6):=by
 obtain ⟨tO,hOK⟩:=zV;have R:=cG;refine D.F.okX xZ ?_ ?_;walk_at "i";obtain ⟨A,Z,Dq,lt,H0,L,r,S,ps,d,rfl,hk,⟨ks,us,ra,dP,hkl,hp10⟩,hp,hd,mD,mL,q⟩:=h;obtain ⟨us0,vs0,O,d0,d1⟩:=id ra;have hD:=O.at_ _ (Mv _ (Mv _ mD));have hL:=SqL.of (K:=K) (O.at_ _ (Mv _ (Mv _ mL)));refine ⟨_,(bf (iz (aY (pv 0) rfl) aU.c cL.m nj hr.m cL.b .nil oZ)<|>(~~~(@aH _ _ _ _ (bN (v:=.str "ok") rfl hOK ⟨_,rfl⟩)))),?_⟩;cases d with
 | turn =>
  refine ⟨_,rfl,Dq.p,CD,Dq.dx,_,.ref A.p,rfl,hD,R.c,R.n3,rfl,A.p,A.dx,_,rfl,O.get 0,rfl,A,exB Z,H0,_,r,S,rfl,ra,hp,fun S' hs Hb H' sb ra=>q.ok S' ps "ok" (by cases hs;rfl) Hb H' sb ⟨ks,us,ra,dP.mo sb,hkl,hp10⟩,fun k hs=>nomatch hs⟩
 | _=>cases hk
abbrev mH:Stmt:=top 121
theorem yg:aF ["desk","told"] ["desk","told"] (ao mH):=by walk_at "sc"
variable (nA:((CXE P w)|||5) sy tE ["self","number","holder","start"] (DN K T C e.c e.cF))
include aU dz cQ cG nA in
theorem Mj (D:Df K mg "answer_move" mH ["desk","told"] f fd)(zV:∃ t,mg "OK"=some (.str "ok" t)):((CXE P w)|||12) f fd ["desk","told"] (jw K T C CD e 4):=by
 obtain ⟨tO,hOK⟩:=zV;have R:=cG;refine D.F.okX yg ?_ ?_;walk_at "i";obtain ⟨A,Z,Dq,lt,H0,L,r,S,ps,d,rfl,hk,⟨ks,us,ra,dP,hkl,hp10⟩,hp,hd,mD,mL,q⟩:=h;obtain ⟨us0,vs0,O,d0,d1⟩:=id ra;have hD:=O.at_ _ (Mv _ (Mv _ mD));have hL:=SqL.of (K:=K) (O.at_ _ (Mv _ (Mv _ mL)));refine ⟨_,(bf (cu (aY (pv 0) rfl) aU.c cQ.m nA hr.m cQ.b .nil iJ (@aK _ _ _ _ _ _ _ au (pv 1) ak (fun _ _=>rfl)>=>@aK _ _ _ _ _ _ _ au (pv 1) ak (fun _ _=>rfl)>=>@aK _ _ _ _ _ _ _ au (pv 1) ak (fun _ _=>rfl)>=>aj))<|>(~~~(@aH _ _ _ _ (bN (v:=.str "ok") rfl hOK ⟨_,rfl⟩)))),?_⟩;cases d with
 | move n y z =>
  refine ⟨_,rfl,Dq.p,CD,Dq.dx,_,.ref A.p,rfl,hD,R.c,R.n3,rfl,A.p,A.dx,_,rfl,O.get 0,rfl,_,rfl,lt,_,0,_,rfl,rfl,hL,rfl,_,rfl,lt,_,1,_,rfl,rfl,hL,rfl,_,rfl,lt,_,2,_,rfl,rfl,hL,rfl,A,Z,H0,L,r,S,[],ks,us,ps,n,y,z,rfl,ra,hp,dP,by omega,fun S' hs hf Hb H' sb ra=>q.ok S' ps "ok" (by show (match step r S (.move n y z) with| .ok S'=>_| .error k=>_)=_;rw [hs];show (if Gk ps n=true then _ else _)=_;rw [hf];rfl) Hb H' sb ⟨ks,us,ra,dP.mo sb,hkl,hp10⟩,fun k hs x H' s' hx=>q.er _ (by show (match step r S (.move n y z) with| .ok S'=>_| .error k=>_)=_;rw [hs]) x H' s' hx,fun S' hs ht x H' s' hx=>q.er _ (by show (match step r S (.move n y z) with| .ok S'=>_| .error k=>_)=_;rw [hs];show (if Gk ps n=true then _ else _)=_;rw [ht];rfl) x H' s' hx⟩
 | _=>cases hk
abbrev mG:Stmt:=top 119
theorem yd:aF ["desk","told"] ["desk","told"] (ao mG):=by walk_at "sc"
variable (nu:((CXE P w)|||3) rZ tu ["self","number","holder","most","to"] (G3 K T C e.c))
variable (jE:(CX0|||2) uW vd ["numbers"] (Ad K T))
include dh aU cO dz cG nu jE in
theorem Mi (D:Df K mg "answer_part" mG ["desk","told"] f fd)(B:Blt mg):((CXE P w)|||12) f fd ["desk","told"] (jw K T C CD e 2):=by
 have R:=cG;refine D.F.okX yd ?_ ?_;walk_at "i";obtain ⟨A,Z,Dq,lt,H0,L,r,S,ps,d,rfl,hk,⟨ks,us,ra,dP,hkl,hp10⟩,hp,hd,mD,mL,q⟩:=h;obtain ⟨us0,vs0,O,d0,d1⟩:=id ra;have hD:=O.at_ _ (Mv _ (Mv _ mD));have hL:=SqL.of (K:=K) (O.at_ _ (Mv _ (Mv _ mL)));have h60:=hp.l60;have fin:∀ {S':RS}{ps':List Pd}{n:Nat}{Hb H1:Hp}{l:Addr},n<=100->zA e r S ps d=.ok (S',ps',gb (n:Int))->aM T H0 Hb->BS K T C A Z r Hb H1 L S' ps'->H1 l=none->Ad K T [.ref l] (upd H1 l (.lst [.int (n:Int)])) Q E0:=fun {S' ps' n Hb H1 l} hn ho sb bs hl=>by
  have s1:=(aM.refl bs.tab).upd (o':=.lst [.int (n:Int)]) hl (.inl hl);refine ⟨l,[(n:Int)],rfl,SqL.of cC,(by show 1<=200;decide),(fun x hx=>by rw [adK.mp hx];exact ⟨by omega,ad9 (show (n:Int)<=100 by omega) (by decide)⟩),s1.t1,fun H' s'=>?_⟩;rw [Cm];exact q.ok S' ps' _ ho Hb H' sb (bs.go (s1.trans s'))
 refine ⟨_,(~~~(@aH _ _ _ _ (dh<*jE<*(@bO _ _ _ _ (cu (aY (pv 0) rfl) aU.c cO.m nu hr.m cO.b .nil iJ (@aK _ _ _ _ _ _ _ au (pv 1) ak (fun _ _=>rfl)>=>@aK _ _ _ _ _ _ _ au (pv 1) ak (fun _ _=>rfl)>=>@aK _ _ _ _ _ _ _ au (pv 1) ak (fun _ _=>rfl)>=>@aK _ _ _ _ _ _ _ au (pv 1) ak (fun _ _=>rfl)>=>aj)>=>aj)>=>aj)))),?_⟩;cases d with
 | part n y m z =>
  refine ⟨_,rfl,Dq.p,CD,Dq.dx,_,.ref A.p,rfl,hD,R.c,R.n3,rfl,A.p,A.dx,_,rfl,O.get 0,rfl,_,rfl,lt,_,0,_,rfl,rfl,hL,rfl,_,rfl,lt,_,1,_,rfl,rfl,hL,rfl,_,rfl,lt,_,2,_,rfl,rfl,hL,rfl,_,rfl,lt,_,3,_,rfl,rfl,hL,rfl,A,exB Z,H0,_,r,S,n,y,m,z,rfl,ra,hp,hd.2,fun S' hs Hb H1 sb ra=>⟨szl,fun l hl=>fin (by omega) (by show ofS e ps _ _=_;rw [hs];rfl) sb ⟨ks,us,ra,dP.mo sb,hkl,hp10⟩ hl⟩,fun k hs x H' s' hx=>q.er _ (by show ofS e ps _ _=_;rw [hs];rfl) x H' s' hx⟩
 | _=>cases hk
abbrev mJ:Stmt:=top 117
theorem qK:aF ["desk","told","back"] ["desk","told"] (ao mJ):=by walk_at "sc"
variable (jX:((CXE P w)|||3) sE tG ["self","holder","start","most","back"] (G9 K T C e.c))
include dh aU bT dz cG jE jX in
theorem Ml (D:Df K mg "answer_file" mJ ["desk","told"] f fd)(B:Blt mg)(jL:∃ t,mg "MOUTH"=some (.int (-1) t)):((CXE P w)|||12) f fd ["desk","told"] (jw K T C CD e 0):=by
 obtain ⟨tM,hMOUTH⟩:=jL;have R:=cG;refine D.F.okX qK ?_ ?_;walk_at "i";obtain ⟨A,Z,Dq,lt,H0,L,r,S,ps,d,rfl,hk,⟨ks,us,ra,dP,hkl,hp10⟩,hp,hd,mD,mL,q⟩:=h;obtain ⟨us0,vs0,O,d0,d1⟩:=id ra;have hD:=O.at_ _ (Mv _ (Mv _ mD));have hL:=SqL.of (K:=K) (O.at_ _ (Mv _ (Mv _ mL)));have h60:=hp.l60;have fin:∀ {S':RS}{ps':List Pd}{n:Nat}{Hb H1:Hp}{l:Addr},n<=100->zA e r S ps d=.ok (S',ps',gb (n:Int))->aM T H0 Hb->BS K T C A Z r Hb H1 L S' ps'->H1 l=none->Ad K T [.ref l] (upd H1 l (.lst [.int (n:Int)])) Q E0:=fun {S' ps' n Hb H1 l} hn ho sb bs hl=>by
  have s1:=(aM.refl bs.tab).upd (o':=.lst [.int (n:Int)]) hl (.inl hl);refine ⟨l,[(n:Int)],rfl,SqL.of cC,(by show 1<=200;decide),(fun x hx=>by rw [adK.mp hx];exact ⟨by omega,ad9 (show (n:Int)<=100 by omega) (by decide)⟩),s1.t1,fun H' s'=>?_⟩;rw [Cm];exact q.ok S' ps' _ ho Hb H' sb (bs.go (s1.trans s'))
 refine ⟨_,(2<$>qK<$>(mX (aG dU (aD aC rfl B.len adx (pv 1>=>aj)) ak (aO _)) (@aK _ _ _ _ _ _ _ au (pv 1) ak (fun _ _=>rfl)) (bN (v:=.int (-1)) rfl hMOUTH ⟨_,rfl⟩))<|>(~~~(@aH _ _ _ _ (dh<*jE<*(@bO _ _ _ _ (cu (aY (pv 0) rfl) aU.c bT.m jX hr.m bT.b0 .nil iJ (@aK _ _ _ _ _ _ _ au (pv 1) ak (fun _ _=>rfl)>=>@aK _ _ _ _ _ _ _ au (pv 1) ak (fun _ _=>rfl)>=>@aK _ _ _ _ _ _ _ au (pv 1) ak (fun _ _=>rfl)>=>pv 2>=>aj)>=>aj)>=>aj))))),?_⟩;cases d with
 | file x st m b =>
  cases b with
  | none =>
   refine ⟨_,rfl,lt,_,rfl,.inl hL,rfl,_,rfl,lR ⟨_,rfl,Dq.p,CD,Dq.dx,_,.ref A.p,rfl,hD,R.c,R.n3,rfl,A.p,A.dx,_,rfl,O.get 0,rfl,_,rfl,lt,_,0,_,rfl,rfl,hL,rfl,_,rfl,lt,_,1,_,rfl,rfl,hL,rfl,_,rfl,lt,_,2,_,rfl,rfl,hL,rfl,_,rfl,A,exB Z,H0,_,r,S,x,st,m,-1,_,rfl,.inr rfl,ra,hp,hd,fun S' hs Hb H1 sb ra=>⟨szl,fun l hl=>fin (by omega) (kj none hs) sb ⟨ks,us,ra,dP.mo sb,hkl,hp10⟩ hl⟩,fun k hs x H' s' hx=>q.er _ (kj none hs) x H' s' hx⟩⟩
  | some b =>
   refine ⟨_,rfl,lt,_,rfl,.inl hL,rfl,_,rfl,j7 ⟨_,rfl,lt,_,3,_,rfl,rfl,hL,rfl,_,rfl,Dq.p,CD,Dq.dx,_,.ref A.p,rfl,hD,R.c,R.n3,rfl,A.p,A.dx,_,rfl,O.get 0,rfl,_,rfl,lt,_,0,_,rfl,rfl,hL,rfl,_,rfl,lt,_,1,_,rfl,rfl,hL,rfl,_,rfl,lt,_,2,_,rfl,rfl,hL,rfl,_,rfl,A,exB Z,H0,_,r,S,x,st,m,b,_,rfl,.inr rfl,ra,hp,hd,fun S' hs Hb H1 sb ra=>⟨szl,fun l hl=>fin (by omega) (kj (some b) hs) sb ⟨ks,us,ra,dP.mo sb,hkl,hp10⟩ hl⟩,fun k hs x H' s' hx=>q.er _ (kj (some b) hs) x H' s' hx⟩⟩
 | _=>cases hk
abbrev mF:Stmt:=top 122
theorem qJ:aF ["desk","told","leak"] ["desk","told"] (ao mF):=by walk_at "sc"
variable (jZ:((CXE P w)|||3) sH tK ["self","number","holder","room","leak"] (GZ K T C e.c e.cP))
include dh aU dz bU cG jE jZ in
theorem Mh (D:Df K mg "answer_pond" mF ["desk","told"] f fd)(B:Blt mg):((CXE P w)|||12) f fd ["desk","told"] (jw K T C CD e 5):=by
 have R:=cG;refine D.F.okX qJ ?_ ?_;walk_at "i";obtain ⟨A,Z,Dq,lt,H0,L,r,S,ps,d,rfl,hk,⟨ks,us,ra,dP,hkl,hp10⟩,hp,hd,mD,mL,q⟩:=h;obtain ⟨us0,vs0,O,d0,d1⟩:=id ra;have hD:=O.at_ _ (Mv _ (Mv _ mD));have hL:=SqL.of (K:=K) (O.at_ _ (Mv _ (Mv _ mL)));have h60:=hp.l60;have fin:∀ {S':RS}{ps':List Pd}{n:Nat}{Hb H1:Hp}{l:Addr},n<=100->zA e r S ps d=.ok (S',ps',gb (n:Int))->aM T H0 Hb->BS K T C A Z r Hb H1 L S' ps'->H1 l=none->Ad K T [.ref l] (upd H1 l (.lst [.int (n:Int)])) Q E0:=fun {S' ps' n Hb H1 l} hn ho sb bs hl=>by
  have s1:=(aM.refl bs.tab).upd (o':=.lst [.int (n:Int)]) hl (.inl hl);refine ⟨l,[(n:Int)],rfl,SqL.of cC,(by show 1<=200;decide),(fun x hx=>by rw [adK.mp hx];exact ⟨by omega,ad9 (show (n:Int)<=100 by omega) (by decide)⟩),s1.t1,fun H' s'=>?_⟩;rw [Cm];exact q.ok S' ps' _ ho Hb H' sb (bs.go (s1.trans s'))
 refine ⟨_,(2<$>qJ<$>(mX (aG dU (aD aC rfl B.len adx (pv 1>=>aj)) ak (aO _)) (@aK _ _ _ _ _ _ _ au (pv 1) ak (fun _ _=>rfl)) ak)<|>(~~~(@aH _ _ _ _ (dh<*jE<*(@bO _ _ _ _ (cu (aY (pv 0) rfl) dz.c bU.m jZ hr.m bU.b0 .nil iJ (@aK _ _ _ _ _ _ _ au (pv 1) ak (fun _ _=>rfl)>=>@aK _ _ _ _ _ _ _ au (pv 1) ak (fun _ _=>rfl)>=>@aK _ _ _ _ _ _ _ au (pv 1) ak (fun _ _=>rfl)>=>pv 2>=>aj)>=>aj)>=>aj))))),?_⟩;cases d with
 | pond n y m b =>
  cases b with
  | none =>
   refine ⟨_,rfl,lt,_,rfl,.inl hL,rfl,_,rfl,lR ⟨_,rfl,Dq.p,CD,Dq.dx,_,.ref A.p,rfl,hD,R.c,R.n3,rfl,A.p,A.dx,_,rfl,O.get 0,rfl,_,rfl,lt,_,0,_,rfl,rfl,hL,rfl,_,rfl,lt,_,1,_,rfl,rfl,hL,rfl,_,rfl,lt,_,2,_,rfl,rfl,hL,rfl,_,rfl,A,Z,H0,L,r,S,[],[],ks,us,ps,n,y,m,0,rfl,ra,hp,dP,by omega,by omega,fun hs t Hb H1 sb ra dP2=>⟨szl,fun l hl=>fin (by omega) (zx none hs) sb ⟨ks++[.int 0],us++[.ref t],ra,dP2,by simp [hkl],by have:=zp hs;simp;omega⟩ hl⟩,fun k hs x H' s' hx=>q.er _ (zy none hs) x H' s' hx⟩⟩
  | some b =>
   refine ⟨_,rfl,lt,_,rfl,.inl hL,rfl,_,rfl,j7 ⟨_,rfl,lt,_,3,_,rfl,rfl,hL,rfl,_,rfl,Dq.p,CD,Dq.dx,_,.ref A.p,rfl,hD,R.c,R.n3,rfl,A.p,A.dx,_,rfl,O.get 0,rfl,_,rfl,lt,_,0,_,rfl,rfl,hL,rfl,_,rfl,lt,_,1,_,rfl,rfl,hL,rfl,_,rfl,lt,_,2,_,rfl,rfl,hL,rfl,_,rfl,A,Z,H0,L,r,S,[],[],ks,us,ps,n,y,m,b,rfl,ra,hp,dP,by omega,by omega,fun hs t Hb H1 sb ra dP2=>⟨szl,fun l hl=>fin (by omega) (zx (some b) hs) sb ⟨ks++[.int 0],us++[.ref t],ra,dP2,by simp [hkl],by have:=zp hs;simp;omega⟩ hl⟩,fun k hs x H' s' hx=>q.er _ (zy (some b) hs) x H' s' hx⟩⟩
 | _=>cases hk
theorem getD_at' {xs:List Str}{k:Nat}(h:k<xs.length):xs[k]?=some (xs.getD k ""):=by
 rw [adS,ada h];rfl
abbrev lA:Stmt:=top 115
theorem oK:aF ["desk","told","below"] ["desk","told"] (ao lA):=by walk_at "sc"
inductive yS (K:Fa)(T:d8)(CD:Addr)(vs:Fs)(H:Hp)(Q:VK)(E:XK):Prop
 | mk (Dq:Dk)(lt:Addr)(H0:Hp)(B:Fr)(ns:List Str)(bs:List Int)(x:Str)(us:Fs)(b:Int)(_:vs=[.ref Dq.p,.ref lt])(_:Ow T H0 H (DX CD Dq .non ns bs++B))(_:(lt,HO.lst us)∈B)(_:x ∉ ns)(_:ns.length<40)(_:bs.length<40)(_:(us=[.str x]/\b=-1\/∃ (y:Str)(j:Nat),us=[.str x,.str y]/\ns[j]?=some y/\(∀ m,m<j->ns[m]?≠some y)/\b=(j:Int)))(_:∀ H',Ow T H0 H' (DX CD Dq .non (ns++[x]) (bs++[b])++B)->Q (.str "ok") H')
include cI cG qw in
theorem HY (D:Df K mg "answer_reach" lA ["desk","told"] f fd)(B:Blt mg)(eN:j8 K mg "NoRiver" cR)(iW:∃ t,mg "MOST_REACHES"=some (.int (40) t))(jL:∃ t,mg "MOUTH"=some (.int (-1) t))(zV:∃ t,mg "OK"=some (.str "ok" t)):((CXE P w)|||12) f fd ["desk","told"] (yS K T CD):=by
 obtain ⟨tR,mZ⟩:=iW
 obtain ⟨tM,hMOUTH⟩:=jL
 obtain ⟨tO,hOK⟩:=zV
 have R:=cG
 refine D.F.okX oK ?_ ?_
 walk_at "i"
 obtain ⟨Dq,lt,H0,L,ns,bs,x,us,b,rfl,O,mL,hx,hn,hb,hus,q⟩:=h
 have hL:=SqL.of (K:=K) (O.at_ _ (Mv _ mL))
 have u0:us[0]?=some (.str x):=by rcases hus with ⟨rfl,_⟩ | ⟨y,j,rfl,_⟩<;>rfl
 refine ⟨_,(@bM _ _ _ _ _ _ _ _ (PW.pt (pw_or (aG ur (@aK _ _ _ _ _ _ _ au (pv 1) ak (fun _ _=>rfl)) (aY (pv 0) rfl) (by rfl)) (pw_or1 (aG Cr (aD aC rfl B.len adx (aY (pv 0) rfl>=>aj)) (bN (v:=.int (40)) rfl mZ ⟨_,rfl⟩) (aO _)))))
   (~~~(bZ dw rfl (fun _ _ z=>z) rfl eN.m eN.q (aJ>=>aj)))
   aL<|>(jG (2<$>oK<$>(mX (aG dU (aD aC rfl B.len adx (pv 1>=>aj)) ak (aO _)) (wO qw hr.m rfl cI.m cI.F.kp cI.b .nil Lr (aY (pv 0) rfl>=>@aK _ _ _ _ _ _ _ au (pv 1) ak (fun _ _=>rfl)>=>aj)) (bN (v:=.int (-1)) rfl hMOUTH ⟨_,rfl⟩)))
  (bf (je adz adA adB bK (aY (pv 0) rfl) (@aK _ _ _ _ _ _ _ au (pv 1) ak (fun _ _=>rfl)>=>aj))<|>bf (je adz adA adB bK (aY (pv 0) rfl) (pv 2>=>aj))<|>(~~~(@aH _ _ _ _ (bN (v:=.str "ok") rfl hOK ⟨_,rfl⟩)))))),?_⟩
 refine ⟨_,rfl,lt,_,0,_,rfl,rfl,hL,dN (j:=0) u0,_,rfl,Dq.p,CD,Dq.dx,_,.ref Dq.ln,rfl,O.get 0,R.c,R.n1,rfl,Dq.ln,_,rfl,.inl (O.sq 2),rfl,xr _,?_⟩
 rw [if_neg adv,CK]
 refine ⟨_,rfl,ifD (fun h=>absurd h hx) (fun _=>?_)⟩
 refine ⟨_,rfl,Dq.p,CD,Dq.dx,_,.ref Dq.ln,rfl,O.get 0,R.c,R.n1,rfl,Dq.ln,_,rfl,.inl (O.sq 2),_,_,rfl,rfl,_,rfl,ifD (fun h=>absurd h (by simp;omega)) (fun _=>?_)⟩
 refine ⟨fun σ H'=>Iv (σ=[some (.ref Dq.p),some (.ref lt),some (.int b)]/\H'=H),?_,?_⟩
 ·rcases hus with ⟨rfl,rfl⟩ | ⟨y,j,rfl,hj,hm,rfl⟩
  ·exact ⟨_,rfl,lt,_,rfl,.inl hL,rfl,_,rfl,lR ⟨trivial,rfl,rfl⟩⟩
  ·exact ⟨_,rfl,lt,_,rfl,.inl hL,rfl,_,rfl,j7 ⟨_,rfl,Dq.p,CD,Dq.dx,_,.ref Dq.ln,rfl,O.get 0,R.c,R.n1,rfl,_,rfl,lt,_,1,_,rfl,rfl,hL,rfl,Dq.ln,ns,y,j,rfl,O.get 2,hj,hm,trivial,rfl,rfl⟩⟩
 rintro σ H1 ⟨-,rfl,rfl⟩
 refine ⟨_,rfl,Dq.p,CD,Dq.dx,_,.ref Dq.ln,rfl,O.get 0,R.c,R.n1,rfl,.inl ⟨rfl,_,O.sq 2⟩,_,rfl,lt,_,0,_,rfl,rfl,hL,dN (j:=0) u0,Dq.ln,_,_,rfl,rfl,O.get 2,aQ (by rw [abW];omega),?_⟩
 generalize hE:upd _ _ _=Hn
 have O:=Ow.uQ O 2 rfl hE rfl
 clear hE
 refine ⟨_,rfl,Dq.p,CD,Dq.dx,_,.ref Dq.lb,rfl,O.get 0,R.c,R.n2,rfl,.inl ⟨rfl,_,O.sq 3⟩,_,rfl,Dq.lb,_,_,rfl,rfl,O.get 3,aQ (by rw [abW];omega),?_⟩
 generalize hE:upd _ _ _=Hm
 have O:=Ow.uQ O 3 rfl hE rfl
 clear hE
 refine q Hm ?_
 show Ow T H0 Hm ((Dq.p,Ja CD Dq .non)::(Dq.dx,.own Dq.p)::(Dq.ln,.lst ((ns++[x]).map V.str))::(Dq.lb,.lst ((bs++[b]).map V.int))::(Dq.rn,.dK [])::(Dq.cl,.dK [])::(Dq.le,.lst [])::L)
 rw [show (ns++[x]).map V.str=ns.map V.str++[.str x] by simp,show (bs++[b]).map V.int=bs.map V.int++[.int b] by simp]
 exact O
abbrev lB:Stmt:=top 116
theorem wH:aF ["desk","told"] ["desk","told"] (ao lB):=by walk_at "sc"
inductive yU (K:Fa)(T:d8)(C CD:Addr)(c:Ec)(vs:Fs)(H:Hp)(Q:VK)(E:XK):Prop
 | mk (Dq:Dk)(lt:Addr)(H0:Hp)(B:Fr)(ns:List Str)(bs:List Int)(_:vs=[.ref Dq.p,.ref lt])(_:Ow T H0 H (DX CD Dq .non ns bs++B))(_:bs.length<=900)(_:(Rv.isR bs=true->∀ (A:Rs)(Z:Bx)(H':Hp),Z.la=.non->Ow T H0 H' (RX C A (exB Z) bs 0 [] [] []++(BL Z [] [] [] []++(DX CD Dq (.ref A.p) ns bs++B)))->Q (.str "ok") H'))(_:(Rv.isR bs=false->∀ (e:Addr)(H':Hp),aM T H H'->H' e=none->E (.ref c.river) (some e) H'))
variable (iG:((CXE P w)|||4) iB jT ["self","below"] (yV K T C c))
include bD cG iG in
theorem Ia (D:Df K mg "answer_begin" lB ["desk","told"] f fd)(dz:Cl K mg "Book" C iB N5)(zV:∃ t,mg "OK"=some (.str "ok" t)):((CXE P w)|||12) f fd ["desk","told"] (yU K T C CD c):=by
 obtain ⟨tO,hOK⟩:=zV;have R:=cG;refine D.F.okX wH ?_ ?_;walk_at "i";obtain ⟨Dq,lt,H0,L,ns,bs,rfl,O,hb,q,qe⟩:=h;refine ⟨_,(iH (pv 0) (HS dz.k iG hr.m rfl dz.m bD.b .nil iJ (aY (pv 0) rfl>=>aj)) rfl<|>(~~~(@aH _ _ _ _ (bN (v:=.str "ok") rfl hOK ⟨_,rfl⟩)))),?_⟩;refine ⟨_,rfl,Dq.p,CD,Dq.dx,_,.ref Dq.lb,rfl,O.get 0,R.c,R.n2,rfl,?_⟩;intro x dx nx ndx nex;have O1:=O;have O:=(O.mk' ndx (o:=.own x) rfl).mk' (a:=x) (o:=.ins C dx []) (by rw [aX nex.symm];exact nx) rfl;have s1:=((aM.refl O1.same.t1).upd (o':=.own x) ndx (.inl ndx));have s2:=s1.upd (a:=x) (o':=.ins C dx []) nx (.inl (by rw [aX nex.symm];exact nx));refine ⟨x,dx,Dq.lb,H0,_,bs,rfl,O,O.sq 5,hb,fun hR A Z H5 eA eZ O5=>⟨rfl,?_⟩,fun hR e H' s' he=>qe hR e H' (s2.trans s') he⟩;subst eA;clear O O1 nx ndx nex s1 s2;have O:=O5;clear O5;refine ⟨_,rfl,Dq.p,CD,Dq.dx,_,rfl,O.get 10,R.c,R.n3,(by show 7<1000;decide),?_⟩;generalize hE:upd _ _ _=Hn;have O:=Ow.uQ O 10 rfl hE rfl;clear hE;exact q hR A Z Hn eZ O
abbrev mC:Stmt:=top 134
theorem cj:aF ["desk","told","roll","holder","day","start","back","most","start_name","back_name"] ["desk","told"] (ao mC):=by walk_at "sc"
def FW (y:Str)(day:Int)(sn bn:Str)(most:Int):Str:=Str.join (" ":Str) [y,gb day,sn,bn,gb most]
theorem Lj (y:Str)(day:Int)(sn bn:Str)(most:Int):((((((((Str.empty++y)++(" ":Str))++gb day)++(" ":Str))++sn)++(" ":Str))++bn)++(" ":Str))++gb most=FW y day sn bn most:=by
 apply Ca;unfold FW;rw [vJ];simp only [iR,adR,List.map_nil,J];rw [show (Str.empty).cps.toList=[] from rfl,show (" ":Str).cps.toList=[32] from rfl];simp
inductive yR (K:Fa)(T:d8)(C CD:Addr)(c:Ec)(vs:Fs)(H:Hp)(Q:VK)(E:XK):Prop
 | mk (A:Rs)(Z:Bx)(Dq:Dk)(lt:Addr)(H0:Hp)(B:Fr)(r:List Int)(S:RS)(ps:List Pd)(ns:List Str)(n:Nat)(_:vs=[.ref Dq.p,.ref lt])(_:BS K T C A Z r H0 H B S ps)(_:S.ls.length<=60)(_:S.ns.length=S.ls.length)(_:(Dq.p,Ja CD Dq (.ref A.p))∈B)(_:(Dq.ln,HO.lst (ns.map V.str))∈B)(_:(lt,HO.lst [.int (n:Int)])∈B)(_:(∀ x∈ns,x.length<=100))(_:(∀ x∈S.ns,x.length<=100))(_:(∀ l∈S.ls,0<=l.start/\l.start<(ns.length:Int)/\(l.back=-1\/0<=l.back/\l.back<(ns.length:Int))/\0<=l.day/\l.day<10 ^ 60/\0<=l.most/\l.most<10 ^ 60))(_:(S.ls.length<=n->∀ (e:Addr)(H':Hp),aM T H H'->H' e=none->E (.ref c.number) (some e) H'))(_:(∀ l y,S.ls[n]?=some l->S.ns[n]?=some y->∀ H',aM T H H'->Q (.str (FW y l.day (ns.getD l.start.toNat "") (if l.back=-1 then "-" else ns.getD l.back.toNat "") l.most)) H'))
variable (gC:(CX0|||1) rY sZ ["self"] (uJ K C "licences"))
variable (eV:(CX0|||1) lJ lN ["self"] (uJ K C "names"))
include bB aV aU cG gC eV in
theorem Mg (D:Df K mg "answer_roll" mC ["desk","told"] f fd)(B:Blt mg)(dI:j8 K mg "NoNumber" c.number)(jL:∃ t,mg "MOUTH"=some (.int (-1) t)):((CXE P w)|||12) f fd ["desk","told"] (yR K T C CD c):=by
 obtain ⟨tM,hMOUTH⟩:=jL
 have R:=cG
 refine D.F.okX cj ?_ ?_
 walk_at "i"
 obtain ⟨A,Z,Dq,lt,H0,L,r,S,ps,ns,n,rfl,⟨ks,us,⟨ls,vs0,OA,d0,d1⟩,dP,hkl,hp10⟩,h60,hnn,mD,mN,mL,hnl,hsl,hlo,qe,q⟩:=h
 have hll:ls.length=S.ls.length:=by rw [d0.length,abW]
 have hD:=OA.at_ _ (Mv _ (Mv _ mD))
 have hN:=OA.at_ _ (Mv _ (Mv _ mN))
 have hL:=SqL.of (K:=K) (OA.at_ _ (Mv _ (Mv _ mL)))
 refine ⟨_,(2<$>cj<$>(iz (aY (pv 0) rfl) aU.c bB.m gC hr.m bB.b .nil oZ)<|>@bM _ _ _ _ _ _ _ _ (aG Cr (@aK _ _ _ _ _ _ _ au (pv 1) ak (fun _ _=>rfl)) (aD aC rfl B.len adx (pv 2>=>aj)) (aO _))
   (~~~(bZ dw rfl (fun _ _ z=>z) rfl dI.m dI.q (aJ>=>aj)))
   aL<|>3<$>cj<$>(@aK _ _ _ _ _ _ _ au (iz (aY (pv 0) rfl) aU.c aV.m eV hr.m aV.b .nil oZ) (@aK _ _ _ _ _ _ _ au (pv 1) ak (fun _ _=>rfl)) (fun _ _=>rfl))<|>qM (@aK _ _ _ _ _ _ _ au (pv 2) (@aK _ _ _ _ _ _ _ au (pv 1) ak (fun _ _=>rfl)) (fun _ _=>rfl)) (uo rfl (aZ (4>>cj) (aZ (5>>cj) (aZ (6>>cj) (aZ (7>>cj) jo)))))<|>8<$>cj<$>(@aK _ _ _ _ _ _ _ au (aY (pv 0) rfl) (pv 5) (fun _ _=>rfl))<|>(jG (9<$>cj<$>(mX (aG yj (pv 6) (bN (v:=.int (-1)) rfl hMOUTH ⟨_,rfl⟩) (aO _)) (@aK _ _ _ _ _ _ _ au (aY (pv 0) rfl) (pv 6) (fun _ _=>rfl)) aJ))
  (~~~(@aH _ _ _ _ (YK (.cons (Bj (pv 3)) (.cons aJ (.cons (Bj (pv 4)) (.cons aJ (.cons (Bj (pv 8)) (.cons aJ (.cons (Bj (pv 9)) (.cons aJ (.cons (Bj (pv 7)) .nil)))))))))))))),?_⟩
 have O:=Ow.refl OA.same.t1
 refine ⟨_,rfl,Dq.p,CD,Dq.dx,_,.ref A.p,rfl,hD,R.c,R.n3,rfl,A.p,A.dx,_,rfl,OA.get 0,rfl,A.p,A.dx,A.ll,_,ls,rfl,OA.get 0,rfl,OA.sq 3,fun lr hlr=>?_⟩
 walk_at "nw"
 have kp:∀ {H':Hp}{a:Addr}{o:HO},aM T H H'->H a=some o->(∀ v,o≠.tbl v)->H' a=some o:=fun s h z=>s.keep _ _ h z
 have hD:=kp O.same hD (fun _ z=>nomatch z)
 refine ⟨_,rfl,lt,_,0,_,rfl,rfl,O.same.seq hL,rfl,_,rfl,lr,_,rfl,.inl (O.sq 0),_,_,rfl,rfl,_,rfl,ifD (fun hge=>?_) (fun hlt=>?_)⟩
 ·exact ⟨szl,fun e he=>qe (by omega) e _ O.same he⟩
 obtain ⟨l,hl⟩:∃ l,S.ls[n]?=some l:=⟨_,ada (by omega)⟩
 obtain ⟨y,hy⟩:∃ y,S.ns[n]?=some y:=⟨_,ada (by omega)⟩
 obtain ⟨al,hal,hT⟩:=d0.vH hl
 obtain ⟨s0,s1,hbk,dd0,dd1,mm0,mm1⟩:=hlo l (adp hl)
 have OA2:=OA.jB O.same
 refine ⟨_,rfl,Dq.p,CD,Dq.dx,_,.ref A.p,rfl,hD,R.c,R.n3,rfl,A.p,A.dx,_,rfl,OA2.get 0,rfl,A.p,A.dx,A.ln,_,_,rfl,OA2.get 0,rfl,OA2.sq 4,fun lh hlh=>?_⟩
 clear OA2
 walk_at "nw"
 refine ⟨_,rfl,lt,_,0,_,rfl,rfl,O.same.seq hL,rfl,lh,_,_,_,rfl,rfl,O.sq 0,dN (v:=.str y) (by rw [adC,hy];rfl),?_⟩
 refine ⟨_,rfl,_,rfl,lt,_,0,_,rfl,rfl,O.same.seq hL,rfl,lr,_,_,_,rfl,rfl,O.sq 1,dN hal,al,_,rfl,(hT.mo OA.same).mo O.same,rfl,_,_,rfl,_,_,rfl,_,_,rfl,_,_,rfl,rfl,?_⟩
 obtain ⟨st,hst⟩:=adD s0
 have hsn:ns[st]?=some (ns.getD l.start.toNat ""):=by rw [hst,adN];exact getD_at' (by omega)
 have hD2:∀ {H':Hp},aM T H H'->H' Dq.p=some (Ja CD Dq (.ref A.p)):=fun s=>s.keep _ _ (OA.at_ _ (Mv _ (Mv _ mD))) (fun _ z=>nomatch z)
 have hN2:∀ {H':Hp},aM T H H'->SqL K H' Dq.ln (ns.map V.str):=fun s=>s.seq (SqL.of hN)
 refine ⟨_,rfl,Dq.p,CD,Dq.dx,_,.ref Dq.ln,rfl,hD2 O.same,R.c,R.n1,rfl,_,rfl,Dq.ln,_,_,_,rfl,rfl,hN2 O.same,(by rw [hst];exact dN (v:=V.str (ns.getD l.start.toNat "")) (by rw [adC,hsn];rfl)),?_⟩
 refine ⟨fun σ H'=>Iv (σ=[some (.ref Dq.p),some (.ref lt),some (.ref lr),some (.str y),some (.int l.day),some (.int l.start),some (.int l.back),some (.int l.most),some (.str (ns.getD l.start.toNat "")),some (.str (if l.back=-1 then "-" else ns.getD l.back.toNat ""))]/\aM T H H'),?_,?_⟩
 ·refine ⟨_,rfl,rfl,_,rfl,?_⟩
  by_cases hb:l.back=-1
  ·rw [if_pos hb,hb]
   exact lR ⟨trivial,rfl,O.same⟩
  ·rw [if_neg hb]
   obtain ⟨b0,b1⟩:=hbk.resolve_left hb
   obtain ⟨bt,hbt⟩:=adD b0
   have hbn:ns[bt]?=some (ns.getD l.back.toNat ""):=by rw [hbt,adN];exact getD_at' (by omega)
   have hix:atI (ns.map V.str) l.back=some (V.str (ns.getD l.back.toNat "")):=by
    have h2:=dN (xs:=ns.map V.str) (j:=bt) (v:=V.str (ns.getD l.back.toNat "")) (by rw [adC,hbn];rfl)
    rw [<- hbt] at h2
    exact h2
   refine ifN (ifI (fun z=>absurd z hb) (fun _=>?_))
   exact ⟨_,rfl,Dq.p,CD,Dq.dx,_,.ref Dq.ln,rfl,hD2 O.same,R.c,R.n1,rfl,_,rfl,Dq.ln,_,_,_,rfl,rfl,hN2 O.same,hix,trivial,rfl,O.same⟩
 rintro σ H5 ⟨-,rfl,s5⟩
 have hsx:∀ i,(ns.getD i "").length<=100:=fun i=>by
  by_cases c:i<ns.length
  ·exact hnl _ (adp (getD_at' c))
  ·rw [adS,aen (by omega)];decide
 have hbx:(if l.back=-1 then ("-":Str) else ns.getD l.back.toNat "").length<=100:=by
  split
  ·decide
  ·exact hsx _
 have hyx:=hsl y (adp hy)
 have hn1:=(mY dd0 dd1).2.1
 have hn2:=(mY mm0 mm1).2.1
 have qq:=q l y hl hy H5 s5
 rw [<- Lj] at qq
 have hE:(Str.empty).length=0:=rfl
 have hS:(" ":Str).length=1:=rfl
 have sl:∀ {k:Nat},k<=1000->k<=sizeLine:=fun h=>by rw [sizeLine_eq];omega
 have hx1:=hsx l.start.toNat
 generalize ns.getD l.start.toNat ""=sn at hx1 qq
 generalize (if l.back=-1 then ("-":Str) else ns.getD l.back.toNat "")=bn at hbx qq
 have e1:(toString l.day:Str)=gb l.day:=rfl
 have e2:(toString l.most:Str)=gb l.most:=rfl
 refine ⟨_,rfl,sl (by omega),_,rfl,_,rfl,sl (by simp only [len_app,hE];omega),_,rfl,sl (by simp only [len_app,hE,hS];omega),_,rfl,wW dd0 dd1,_,rfl,_,rfl,sl (by rw [e1];simp only [len_app,hE,hS];omega),?_⟩
 rw [e1]
 refine ⟨_,rfl,sl (by simp only [len_app,hE,hS];omega),_,rfl,sl (by omega),_,rfl,_,rfl,sl (by simp only [len_app,hE,hS];omega),_,rfl,sl (by simp only [len_app,hE,hS];omega),_,rfl,sl (by omega),_,rfl,_,rfl,sl (by simp only [len_app,hE,hS];omega),_,rfl,sl (by simp only [len_app,hE,hS];omega),_,rfl,wW mm0 mm1,_,rfl,_,rfl,sl (by rw [e2];simp only [len_app,hE,hS];omega),sl (by rw [e2];simp only [len_app,hE,hS];omega),?_⟩
 rw [e2]
 exact qq
def ErA (e:Er)(a:Addr):Prop:=(∃ k,a=e.c.at_ k)\/a=e.cP\/a=e.cF
def o8 (K:Fa)(cl:List Addr)(a:Addr):List Bool:=cl.map fun b=>(kitOne K (.ref a) (.ref b)).getD false
structure vL (K:Fa)(e:Er)(cl:List Addr)(cS:Addr):Prop where
 m:∀ a,ErA e a->PySem.W.exmOne K (.ref a) (.ref cS)=some true
 kt:∀ a,ErA e a->∀ b∈cl,(kitOne K (.ref a) (.ref b)).isSome=true
 x:∀ a,ErA e a->N8 K a
 nm:o8 K cl e.c.number=(List.range 14).map fun j=>decide (j=6)
 rv:o8 K cl e.c.river=(List.range 14).map fun j=>decide (j=9)
variable {a b:Addr}
theorem vL.at_ (TT:vL K e cl cS)(ha:ErA e a)(hb:b∈cl):kitOne K (.ref a) (.ref b)=some ((kitOne K (.ref a) (.ref b)).getD false):=by
 have h:=TT.kt a ha b hb;cases z:kitOne K (.ref a) (.ref b) with
 | none=>rw [z] at h;cases h
 | some k=>rfl
abbrev lC:Stmt:=top 142
theorem gV:aF ["e","found"] ["e"] (ao lC):=by walk_at "sc"
inductive G6 (K:Fa)(T:d8)(e:Er)(cl:List Addr)(vs:Fs)(H:Hp)(Q:VK)(E:XK):Prop
 | mk (x a:Addr)(_:vs=[.ref x])(_:ErA e a)(_:H x=some (.ext (XAt x a)))(_:TabsOk T H)(_:Gp T H (fun xs=>xs=(o8 K cl a).map V.bl) Q)
variable {lH:Addr}{lM:Ff}(bQ:Df K mg "_law_classes" lC ["e"] lH lM)
include bQ in
theorem aaI (B:Blt mg)(TT:vL K e [b0,b1,b2,b3,b4,b5,b6,b7,b8,b9,b10,b11,b12,b13] cS)(pY:j8 K mg "Fixed" b0)(vK:j8 K mg "Full" b1)(tQ:j8 K mg "Harms" b2)(Dn:j8 K mg "NoDay" b3)(gM:j8 K mg "NoHolder" b4)(cg:j8 K mg "NoLicence" b5)(dI:j8 K mg "NoNumber" b6)(gn:j8 K mg "NoPond" b7)(jU:j8 K mg "NoReach" b8)(eN:j8 K mg "NoRiver" b9)(dF:j8 K mg "NoRow" b10)(gK:j8 K mg "NotAlone" b11)(gJ:j8 K mg "NotYours" b12)(jg:j8 K mg "TooMuch" b13):
  (CX0|||1) lH lM ["e"] (G6 K T e [b0,b1,b2,b3,b4,b5,b6,b7,b8,b9,b10,b11,b12,b13]):=by
 refine bQ.F.ok gV ?_ ?_;walk_at "i";obtain ⟨x,a,rfl,ha,hX,tk,q⟩:=h;have hD:=TT.x a ha;have kt:=fun {b} (hb:b∈[b0,b1,b2,b3,b4,b5,b6,b7,b8,b9,b10,b11,b12,b13])=>TT.at_ ha hb;have O:=Ow.refl tk;have hXs:∀ {H'},aM T H H'->H' x=some (.ext (XAt x a)):=fun s=>s.keep _ _ hX (fun _ z=>nomatch z);refine ⟨_,(1<$>gV<$>(@bO _ _ _ _ (aD bH rfl B.isinstance adJ (pv 0>=>kh rfl pY.m>=>aj)>=>aD bH rfl B.isinstance adJ (pv 0>=>kh rfl vK.m>=>aj)>=>aD bH rfl B.isinstance adJ (pv 0>=>kh rfl tQ.m>=>aj)>=>aD bH rfl B.isinstance adJ (pv 0>=>kh rfl Dn.m>=>aj)>=>aj))<|>1<$>gV<$>(@aW _ _ _ _ _ _ _ _ Bo (pv 1) (@bO _ _ _ _ (aD bH rfl B.isinstance adJ (pv 0>=>kh rfl gM.m>=>aj)>=>aD bH rfl B.isinstance adJ (pv 0>=>kh rfl cg.m>=>aj)>=>aD bH rfl B.isinstance adJ (pv 0>=>kh rfl dI.m>=>aj)>=>aj)))<|>1<$>gV<$>(@aW _ _ _ _ _ _ _ _ Bo (pv 1) (@bO _ _ _ _ (aD bH rfl B.isinstance adJ (pv 0>=>kh rfl gn.m>=>aj)>=>aD bH rfl B.isinstance adJ (pv 0>=>kh rfl jU.m>=>aj)>=>aD bH rfl B.isinstance adJ (pv 0>=>kh rfl eN.m>=>aj)>=>aD bH rfl B.isinstance adJ (pv 0>=>kh rfl dF.m>=>aj)>=>aj)))<|>(~~~(@aH _ _ _ _ (@aW _ _ _ _ _ _ _ _ Bo (pv 1) (@bO _ _ _ _ (aD bH rfl B.isinstance adJ (pv 0>=>kh rfl gK.m>=>aj)>=>aD bH rfl B.isinstance adJ (pv 0>=>kh rfl gJ.m>=>aj)>=>aD bH rfl B.isinstance adJ (pv 0>=>kh rfl jg.m>=>aj)>=>aj)))))),?_⟩;refine ⟨_,rfl,x,_,_,_,_,rfl,hXs O.same,hD,.inr ⟨_,rfl,rfl⟩,kt (b:=b0) (by simp),_,rfl,x,_,_,_,_,rfl,hXs O.same,hD,.inr ⟨_,rfl,rfl⟩,kt (b:=b1) (by simp),_,rfl,x,_,_,_,_,rfl,hXs O.same,hD,.inr ⟨_,rfl,rfl⟩,kt (b:=b2) (by simp),_,rfl,x,_,_,_,_,rfl,hXs O.same,hD,.inr ⟨_,rfl,rfl⟩,kt (b:=b3) (by simp),szl,fun l1 h1=>?_⟩;walk_at "nw";refine ⟨_,rfl,_,rfl,x,_,_,_,_,rfl,hXs O.same,hD,.inr ⟨_,rfl,rfl⟩,kt (b:=b4) (by simp),_,rfl,x,_,_,_,_,rfl,hXs O.same,hD,.inr ⟨_,rfl,rfl⟩,kt (b:=b5) (by simp),_,rfl,x,_,_,_,_,rfl,hXs O.same,hD,.inr ⟨_,rfl,rfl⟩,kt (b:=b6) (by simp),szl,fun l2 h2=>?_⟩;walk_at "nw";refine ⟨l1,l2,_,_,rfl,rfl,O.get 1,O.get 0,ud (by simp),fun l3 h3=>?_⟩;walk_at "nw";refine ⟨_,rfl,_,rfl,x,_,_,_,_,rfl,hXs O.same,hD,.inr ⟨_,rfl,rfl⟩,kt (b:=b7) (by simp),_,rfl,x,_,_,_,_,rfl,hXs O.same,hD,.inr ⟨_,rfl,rfl⟩,kt (b:=b8) (by simp),_,rfl,x,_,_,_,_,rfl,hXs O.same,hD,.inr ⟨_,rfl,rfl⟩,kt (b:=b9) (by simp),_,rfl,x,_,_,_,_,rfl,hXs O.same,hD,.inr ⟨_,rfl,rfl⟩,kt (b:=b10) (by simp),szl,fun l4 h4=>?_⟩;walk_at "nw";refine ⟨l3,l4,_,_,rfl,rfl,O.get 1,O.get 0,ud (by simp),fun l5 h5=>?_⟩;walk_at "nw";refine ⟨_,rfl,_,rfl,x,_,_,_,_,rfl,hXs O.same,hD,.inr ⟨_,rfl,rfl⟩,kt (b:=b11) (by simp),_,rfl,x,_,_,_,_,rfl,hXs O.same,hD,.inr ⟨_,rfl,rfl⟩,kt (b:=b12) (by simp),_,rfl,x,_,_,_,_,rfl,hXs O.same,hD,.inr ⟨_,rfl,rfl⟩,kt (b:=b13) (by simp),szl,fun l6 h6=>?_⟩;walk_at "nw";refine ⟨l5,l6,_,_,rfl,rfl,O.get 1,O.get 0,ud (by simp),fun l7 h7=>?_⟩;walk_at "nw";exact O.ret 0 rfl q rfl
theorem ifS {A B:Prop}(h1:x=y->A)(h2:¬ x=y->B):if decide (V.str x=V.str y)=true then A else B:=ifD (fun h=>h1 (V.str.inj h)) (fun h=>h2 fun z=>h (by rw [z]))
theorem xg {A B:Prop}(h:(x ==y)=false)(b:B):if decide (V.str x=V.str y)=true then A else B:=ifS (fun z=>by rw [z,beq_self_eq_true] at h;cases h) fun _=>b
def eK (K:Fa)(T:d8)(e:Er)(cl:List Addr)(Q:VK):XK:=fun c o H'=>∃ a x,c=.ref a/\o=some x/\ErA e a/\TabsOk T H'/\H' x=none/\∀ l H2,Ow T H' H2 [(l,.lst ((o8 K cl a).map V.bl))]->Q (.ref l) H2
def Gq (K:Fa)(T:d8)(e:Er)(cl:List Addr)(SP:Sp):Sp:=fun vs H Q _=>∀ (Q':VK)(E':XK),(∀ v H',Q v H'->Q' v H')->(∀ c o H',eK K T e cl Q c o H'->E' c o H')->SP vs H Q' E'
theorem eK.lcs {x:Addr}{H':Hp}(ha:ErA e a)(tk:TabsOk T H')(hx:H' x=none)(q:∀ l H2,Ow T H' H2 [(l,.lst ((o8 K cl a).map V.bl))]->Q (.ref l) H2):G6 K T e cl [.ref x] (upd H' x (.ext (XAt x a))) Q E0:=by
 have O:=(Ow.refl tk).jB ((aM.refl tk).upd (o':=.ext (XAt x a)) hx (.inl hx));exact ⟨x,a,rfl,ha,cC,O.same.t1,O.Y9 fun l H2 xs O2 e2=>by subst e2;exact q l H2 O2⟩
abbrev mO:Stmt:=top 143
theorem gG:aF ["desk","row","caught","answer","e"] ["desk","row"] (ao mO):=by walk_at "sc"
variable (dZ:j8 K mg "SluiceError" cS)
variable {yH:Addr}{yJ:Ff}(jF:Dm K CD "say" "Desk.say" jD ["self","row"] yH yJ)
variable (yN:((CXE P w)|||13) yH yJ ["self","row"] SP)
variable (iY:(CX0|||1) lH lM ["e"] (G6 K T e cl))
variable {rP:Addr}{sU:Ff}(bR:Df K mg "_law_said" mO ["desk","row"] rP sU)
include cG bQ dZ jF yN iY bR in
theorem Ly (TT:vL K e cl cS)(hSP:∀ vs H Q E,SP vs H Q E->∃ (p dx:Addr)(y:Str)(fs:List (Str × V)),vs=[.ref p,.str y]/\H p=some (.ins CD dx fs)/\fs.lookup ("say":Str)=none):(CX0|||14) rP sU ["desk","row"] (Gq K T e cl SP):=by
 refine bR.F.ok gG (fun vs H Q E h=>?_) (fun cdv A outer s H vs Q E hr h=>?_)
 ·obtain ⟨_,_,_,_,rfl,_⟩:=hSP _ _ _ _ (h (fun _ _=>True) (fun _ _ _=>True) (fun _ _ _=>trivial) (fun _ _ _ _=>trivial));rfl
 ·obtain ⟨p,dx,y,fs,rfl,hp,hfs⟩:=hSP _ _ _ _ (h (fun _ _=>True) (fun _ _ _=>True) (fun _ _ _=>trivial) (fun _ _ _ _=>trivial))
  refine ⟨_,(2<$>gG<$>lV<|>3<$>gG<$>lV<|>Pq (i:=4) ⟨rfl,rfl,rfl⟩ rfl (Gu (Oc (i:=3) gG.nd rfl (Or.inl rfl) (Yg (pv 0) cG.c jF.m yN hr.m jF.b .nil (pv 1>=>aj)))) rfl dZ.m gG.nd rfl rfl (fun e =>
    (~~~(2<$>gG<$>(pv 4))))<|>@bM _ _ _ _ _ _ _ _ (aG En (pv 2) lV (aO _))
    (~~~(@aH _ _ _ _ (pv 3)))
    aL<|>(~~~(@aH _ _ _ _ (bQ<*iY<*(pv 2>=>aj))))),?_⟩
  refine ⟨_,rfl,p,dx,fs,rfl,hp,hfs,_,rfl,h _ _ (fun v H' q=>⟨_,rfl,rfl,_,rfl,j7 ⟨_,rfl,q⟩⟩) (fun c o H' z=>?_)⟩
  obtain ⟨a,x,rfl,rfl,ha,tk,hx,q⟩:=z
  exact ⟨_,x,rfl,rfl,TT.m a ha,_,rfl,_,rfl,rfl,_,rfl,lR ⟨_,rfl,eK.lcs ha tk hx q⟩⟩
abbrev oW:Stmt:=top 144
theorem za:aF ["book","word","things"] ["book","word","things"] (ao oW):=by walk_at "sc"
def j6:Dd->Str
 | .file ..=>"file"
 | .sell ..=>"sell"
 | .part ..=>"part"
 | .drop ..=>"drop"
 | .move ..=>"move"
 | .pond ..=>"pond"
 | .turn=>"turn"
inductive Af (K:Fa)(T:d8)(C:Addr)(e:Er)(vs:Fs)(H:Hp)(Q:VK)(E:XK):Prop
 | mk (A:Rs)(Z:Bx)(lt:Addr)(H0:Hp)(B:Fr)(r:List Int)(S:RS)(ps:List Pd)(d:Dd)(_:vs=[.ref A.p,.str (j6 d),.ref lt])(_:BS K T C A Z r H0 H B S ps)(_:RP r (exB Z) S)(_:acK d)(_:(lt,HO.lst (kY d))∈B)(_:abP K T C e A Z r H0 H B S ps d Q E)
variable {pF:Addr}{pP:Ff}(dM:Df K mg "_law_given" oW ["book","word","things"] pF pP)
include cL aU cU cM cO bT dz bU cQ nq nC nj nA nu jX jZ dM in
theorem aaM (B:Blt mg):((CXE P w)|||12) pF pP ["book","word","things"] (Af K T C e):=by
 refine dM.F.okX za ?_ ?_
 walk_at "i"
 obtain ⟨A,Z,lt,H0,L,r,S,ps,d,rfl,⟨ks,us,ra,dP,hkl,hp10⟩,hp,hd,mL,q⟩:=h
 obtain ⟨us0,vs0,O,d0,d1⟩:=id ra
 have hL:=SqL.of (K:=K) (O.at_ _ (Mv _ (Mv _ mL)))
 have h60:=hp.l60
 have lo:∀ n:Nat,n<=100->((n:Int)).natAbs.log2<1920:=fun n hn=>wW (by omega) (ad9 (show (n:Int)<=100 by omega) (by decide))
 obtain ⟨tz,Fz,zb_Book_pond⟩:=bU.F
 refine ⟨_,(@bM _ _ _ _ _ _ _ _ (PW.pt (pw_and (aG dU (pv 1) aJ (aO _)) (pw_and1 (aG dU (aD aC rfl B.len adx (pv 2>=>aj)) ak (aO _)))))
   (~~~(@aH _ _ _ _ (bJ dJ rfl B.str ad0 (cu (pv 0) aU.c bT.m jX hr.m bT.b1 (.cons (show RelV .non Value.none from rfl) .nil) iJ (@aK _ _ _ _ _ _ _ au (pv 2) ak (fun _ _=>rfl)>=>@aK _ _ _ _ _ _ _ au (pv 2) ak (fun _ _=>rfl)>=>@aK _ _ _ _ _ _ _ au (pv 2) ak (fun _ _=>rfl)>=>aj)>=>aj))))
   aL<|>@bM _ _ _ _ _ _ _ _ (aG dU (pv 1) aJ (aO _))
   (~~~(@aH _ _ _ _ (bJ dJ rfl B.str ad0 (cu (pv 0) aU.c bT.m jX hr.m bT.b0 .nil iJ (@aK _ _ _ _ _ _ _ au (pv 2) ak (fun _ _=>rfl)>=>@aK _ _ _ _ _ _ _ au (pv 2) ak (fun _ _=>rfl)>=>@aK _ _ _ _ _ _ _ au (pv 2) ak (fun _ _=>rfl)>=>@aK _ _ _ _ _ _ _ au (pv 2) ak (fun _ _=>rfl)>=>aj)>=>aj))))
   aL<|>@bM _ _ _ _ _ _ _ _ (aG dU (pv 1) aJ (aO _))
   (~~~(@aH _ _ _ _ (bJ dJ rfl B.str ad0 (cu (pv 0) aU.c cO.m nu hr.m cO.b .nil iJ (@aK _ _ _ _ _ _ _ au (pv 2) ak (fun _ _=>rfl)>=>@aK _ _ _ _ _ _ _ au (pv 2) ak (fun _ _=>rfl)>=>@aK _ _ _ _ _ _ _ au (pv 2) ak (fun _ _=>rfl)>=>@aK _ _ _ _ _ _ _ au (pv 2) ak (fun _ _=>rfl)>=>aj)>=>aj))))
   aL<|>@bM _ _ _ _ _ _ _ _ (PW.pt (pw_and (aG dU (pv 1) aJ (aO _)) (pw_and1 (aG dU (aD aC rfl B.len adx (pv 2>=>aj)) ak (aO _)))))
   (~~~(@aH _ _ _ _ (bJ dJ rfl B.str ad0 (cu (pv 0) dz.c bU.m jZ hr.m zb_Book_pond (.cons (show RelV (.int 0) _ from ⟨_,rfl⟩) .nil) iJ (@aK _ _ _ _ _ _ _ au (pv 2) ak (fun _ _=>rfl)>=>@aK _ _ _ _ _ _ _ au (pv 2) ak (fun _ _=>rfl)>=>@aK _ _ _ _ _ _ _ au (pv 2) ak (fun _ _=>rfl)>=>aj)>=>aj))))
   aL<|>@bM _ _ _ _ _ _ _ _ (aG dU (pv 1) aJ (aO _))
   (~~~(@aH _ _ _ _ (bJ dJ rfl B.str ad0 (cu (pv 0) dz.c bU.m jZ hr.m bU.b0 .nil iJ (@aK _ _ _ _ _ _ _ au (pv 2) ak (fun _ _=>rfl)>=>@aK _ _ _ _ _ _ _ au (pv 2) ak (fun _ _=>rfl)>=>@aK _ _ _ _ _ _ _ au (pv 2) ak (fun _ _=>rfl)>=>@aK _ _ _ _ _ _ _ au (pv 2) ak (fun _ _=>rfl)>=>aj)>=>aj))))
   aL<|>@bM _ _ _ _ _ _ _ _ (aG dU (pv 1) aJ (aO _))
   (~~~(bf (cu (pv 0) aU.c cM.m nq hr.m cM.b .nil iJ (@aK _ _ _ _ _ _ _ au (pv 2) ak (fun _ _=>rfl)>=>@aK _ _ _ _ _ _ _ au (pv 2) ak (fun _ _=>rfl)>=>@aK _ _ _ _ _ _ _ au (pv 2) ak (fun _ _=>rfl)>=>aj))))
   (~~~(@bM _ _ _ _ _ _ _ _ (aG dU (pv 1) aJ (aO _))
    (~~~(bf (cu (pv 0) aU.c cU.m nC hr.m cU.b .nil iJ (@aK _ _ _ _ _ _ _ au (pv 2) ak (fun _ _=>rfl)>=>@aK _ _ _ _ _ _ _ au (pv 2) ak (fun _ _=>rfl)>=>aj))))
    (~~~(@bM _ _ _ _ _ _ _ _ (aG dU (pv 1) aJ (aO _))
     (~~~(bf (cu (pv 0) aU.c cQ.m nA hr.m cQ.b .nil iJ (@aK _ _ _ _ _ _ _ au (pv 2) ak (fun _ _=>rfl)>=>@aK _ _ _ _ _ _ _ au (pv 2) ak (fun _ _=>rfl)>=>@aK _ _ _ _ _ _ _ au (pv 2) ak (fun _ _=>rfl)>=>aj))))
     (~~~(bf (iz (pv 0) aU.c cL.m nj hr.m cL.b .nil oZ)))))))<|>(~~~(@aH _ _ _ _ aJ))),?_⟩
 have ne:∀ {x y:Str}{A B:Prop},(x ==y)=false->B->if decide (V.str x=V.str y)=true then A else B:=fun h b=>xg h b
 cases d with
 | file x st m b =>
  cases b with
  | none=>exact ⟨_,rfl,rfl,_,rfl,j7 ⟨_,rfl,lt,_,rfl,.inl hL,rfl,_,rfl,j7 ⟨_,rfl,A.p,A.dx,_,rfl,O.get 0,rfl,_,rfl,lt,_,0,_,rfl,rfl,hL,rfl,_,rfl,lt,_,1,_,rfl,rfl,hL,rfl,_,rfl,lt,_,2,_,rfl,rfl,hL,rfl,A,exB Z,H0,_,r,S,x,st,m,-1,.non,rfl,.inl ⟨rfl,rfl⟩,ra,hp,hd,fun S' hs Hb H1 sb ra=>⟨_,rfl,lo _ (by omega),q.ok S' ps _ (kj none hs) Hb H1 sb ⟨ks,us,ra,dP.mo sb,hkl,hp10⟩⟩,fun k hs x H' s' hx=>q.er _ (kj none hs) x H' s' hx⟩⟩⟩
  | some b=>exact ⟨_,rfl,rfl,_,rfl,j7 ⟨_,rfl,lt,_,rfl,.inl hL,rfl,_,rfl,lR ⟨_,rfl,rfl,_,rfl,j7 ⟨_,rfl,A.p,A.dx,_,rfl,O.get 0,rfl,_,rfl,lt,_,0,_,rfl,rfl,hL,rfl,_,rfl,lt,_,1,_,rfl,rfl,hL,rfl,_,rfl,lt,_,2,_,rfl,rfl,hL,rfl,_,rfl,lt,_,3,_,rfl,rfl,hL,rfl,A,exB Z,H0,_,r,S,x,st,m,b,_,rfl,.inr rfl,ra,hp,hd,fun S' hs Hb H1 sb ra=>⟨_,rfl,lo _ (by omega),q.ok S' ps _ (kj (some b) hs) Hb H1 sb ⟨ks,us,ra,dP.mo sb,hkl,hp10⟩⟩,fun k hs x H' s' hx=>q.er _ (kj (some b) hs) x H' s' hx⟩⟩⟩⟩
 | part n y m z=>exact ⟨_,rfl,rfl,_,rfl,ne rfl ⟨_,rfl,rfl,_,rfl,ne rfl ⟨_,rfl,rfl,_,rfl,j7 ⟨_,rfl,A.p,A.dx,_,rfl,O.get 0,rfl,_,rfl,lt,_,0,_,rfl,rfl,hL,rfl,_,rfl,lt,_,1,_,rfl,rfl,hL,rfl,_,rfl,lt,_,2,_,rfl,rfl,hL,rfl,_,rfl,lt,_,3,_,rfl,rfl,hL,rfl,A,exB Z,H0,_,r,S,n,y,m,z,rfl,ra,hp,hd.2,fun S' hs Hb H1 sb ra=>⟨_,rfl,lo _ (by omega),q.ok S' ps _ (by show ofS e ps _ _=_;rw [hs];rfl) Hb H1 sb ⟨ks,us,ra,dP.mo sb,hkl,hp10⟩⟩,fun k hs x H' s' hx=>q.er _ (by show ofS e ps _ _=_;rw [hs];rfl) x H' s' hx⟩⟩⟩⟩
 | pond n y m b=>cases b with
  | none=>exact ⟨_,rfl,rfl,_,rfl,ne rfl ⟨_,rfl,rfl,_,rfl,ne rfl ⟨_,rfl,rfl,_,rfl,ne rfl ⟨_,rfl,rfl,_,rfl,j7 ⟨_,rfl,lt,_,rfl,.inl hL,rfl,_,rfl,j7 ⟨_,rfl,A.p,A.dx,_,rfl,O.get 0,rfl,_,rfl,lt,_,0,_,rfl,rfl,hL,rfl,_,rfl,lt,_,1,_,rfl,rfl,hL,rfl,_,rfl,lt,_,2,_,rfl,rfl,hL,rfl,A,Z,H0,L,r,S,[],[],ks,us,ps,n,y,m,0,rfl,ra,hp,dP,by omega,by omega,fun hs t Hb H1 sb ra dP2=>⟨_,rfl,lo _ (by omega),q.ok S _ _ (zx none hs) Hb H1 sb ⟨ks++[.int 0],us++[.ref t],ra,dP2,by simp [hkl],by have:=zp hs;simp;omega⟩⟩,fun k hs x H' s' hx=>q.er _ (zy none hs) x H' s' hx⟩⟩⟩⟩⟩⟩
  | some b=>exact ⟨_,rfl,rfl,_,rfl,ne rfl ⟨_,rfl,rfl,_,rfl,ne rfl ⟨_,rfl,rfl,_,rfl,ne rfl ⟨_,rfl,rfl,_,rfl,j7 ⟨_,rfl,lt,_,rfl,.inl hL,rfl,_,rfl,lR ⟨_,rfl,rfl,_,rfl,j7 ⟨_,rfl,A.p,A.dx,_,rfl,O.get 0,rfl,_,rfl,lt,_,0,_,rfl,rfl,hL,rfl,_,rfl,lt,_,1,_,rfl,rfl,hL,rfl,_,rfl,lt,_,2,_,rfl,rfl,hL,rfl,_,rfl,lt,_,3,_,rfl,rfl,hL,rfl,A,Z,H0,L,r,S,[],[],ks,us,ps,n,y,m,b,rfl,ra,hp,dP,by omega,by omega,fun hs t Hb H1 sb ra dP2=>⟨_,rfl,lo _ (by omega),q.ok S _ _ (zx (some b) hs) Hb H1 sb ⟨ks++[.int 0],us++[.ref t],ra,dP2,by simp [hkl],by have:=zp hs;simp;omega⟩⟩,fun k hs x H' s' hx=>q.er _ (zy (some b) hs) x H' s' hx⟩⟩⟩⟩⟩⟩⟩
 | sell n y z=>exact ⟨_,rfl,rfl,_,rfl,ne rfl ⟨_,rfl,rfl,_,rfl,ne rfl ⟨_,rfl,rfl,_,rfl,ne rfl ⟨_,rfl,rfl,_,rfl,ne rfl ⟨_,rfl,rfl,_,rfl,ne rfl ⟨_,rfl,rfl,_,rfl,j7 ⟨_,rfl,A.p,A.dx,_,rfl,O.get 0,rfl,_,rfl,lt,_,0,_,rfl,rfl,hL,rfl,_,rfl,lt,_,1,_,rfl,rfl,hL,rfl,_,rfl,lt,_,2,_,rfl,rfl,hL,rfl,A,exB Z,H0,_,r,S,n,y,z,rfl,ra,hp,hd.2,fun S' hs Hb H' sb ra=>q.ok S' ps "ok" (by show ofS e ps "ok" _=_;rw [hs];rfl) Hb H' sb ⟨ks,us,ra,dP.mo sb,hkl,hp10⟩,fun k hs x H' s' hx=>q.er _ (by show ofS e ps "ok" _=_;rw [hs];rfl) x H' s' hx⟩⟩⟩⟩⟩⟩⟩
 | drop n y=>exact ⟨_,rfl,rfl,_,rfl,ne rfl ⟨_,rfl,rfl,_,rfl,ne rfl ⟨_,rfl,rfl,_,rfl,ne rfl ⟨_,rfl,rfl,_,rfl,ne rfl ⟨_,rfl,rfl,_,rfl,ne rfl ⟨_,rfl,rfl,_,rfl,ne rfl ⟨_,rfl,rfl,_,rfl,j7 ⟨_,rfl,A.p,A.dx,_,rfl,O.get 0,rfl,_,rfl,lt,_,0,_,rfl,rfl,hL,rfl,_,rfl,lt,_,1,_,rfl,rfl,hL,rfl,A,exB Z,H0,_,r,S,n,y,rfl,ra,hp,fun S' hs Hb H' sb ra=>q.ok S' ps "ok" (by show ofS e ps "ok" _=_;rw [hs];rfl) Hb H' sb ⟨ks,us,ra,dP.mo sb,hkl,hp10⟩,fun k hs x H' s' hx=>q.er _ (by show ofS e ps "ok" _=_;rw [hs];rfl) x H' s' hx⟩⟩⟩⟩⟩⟩⟩⟩
 | move n y z=>exact ⟨_,rfl,rfl,_,rfl,ne rfl ⟨_,rfl,rfl,_,rfl,ne rfl ⟨_,rfl,rfl,_,rfl,ne rfl ⟨_,rfl,rfl,_,rfl,ne rfl ⟨_,rfl,rfl,_,rfl,ne rfl ⟨_,rfl,rfl,_,rfl,ne rfl ⟨_,rfl,rfl,_,rfl,ne rfl ⟨_,rfl,rfl,_,rfl,j7 ⟨_,rfl,A.p,A.dx,_,rfl,O.get 0,rfl,_,rfl,lt,_,0,_,rfl,rfl,hL,rfl,_,rfl,lt,_,1,_,rfl,rfl,hL,rfl,_,rfl,lt,_,2,_,rfl,rfl,hL,rfl,A,Z,H0,L,r,S,[],ks,us,ps,n,y,z,rfl,ra,hp,dP,by omega,fun S' hs hf Hb H' sb ra=>q.ok S' ps "ok" (by show (match step r S (.move n y z) with| .ok S'=>_| .error k=>_)=_;rw [hs];show (if Gk ps n=true then _ else _)=_;rw [hf];rfl) Hb H' sb ⟨ks,us,ra,dP.mo sb,hkl,hp10⟩,fun k hs x H' s' hx=>q.er _ (by show (match step r S (.move n y z) with| .ok S'=>_| .error k=>_)=_;rw [hs]) x H' s' hx,fun S' hs ht x H' s' hx=>q.er _ (by show (match step r S (.move n y z) with| .ok S'=>_| .error k=>_)=_;rw [hs];show (if Gk ps n=true then _ else _)=_;rw [ht];rfl) x H' s' hx⟩⟩⟩⟩⟩⟩⟩⟩⟩
 | turn=>exact ⟨_,rfl,rfl,_,rfl,ne rfl ⟨_,rfl,rfl,_,rfl,ne rfl ⟨_,rfl,rfl,_,rfl,ne rfl ⟨_,rfl,rfl,_,rfl,ne rfl ⟨_,rfl,rfl,_,rfl,ne rfl ⟨_,rfl,rfl,_,rfl,ne rfl ⟨_,rfl,rfl,_,rfl,ne rfl ⟨_,rfl,rfl,_,rfl,ne rfl ⟨_,rfl,A.p,A.dx,_,rfl,O.get 0,rfl,A,exB Z,H0,_,r,S,rfl,ra,hp,fun S' hs Hb H' sb ra=>q.ok S' ps "ok" (by cases hs;rfl) Hb H' sb ⟨ks,us,ra,dP.mo sb,hkl,hp10⟩,fun k hs=>nomatch hs⟩⟩⟩⟩⟩⟩⟩⟩⟩
abbrev qW:Stmt:=top 145
theorem gH:aF ["book","word","things","caught","answer","e"] ["book","word","things"] (ao qW):=by walk_at "sc"
variable (vP:((CXE P w)|||12) pF pP ["book","word","things"] (Af K T C e))
variable {rQ:Addr}{sV:Ff}(fQ:Df K mg "_law_done" qW ["book","word","things"] rQ sV)
include bQ dZ iY dM vP fQ in
theorem Lz (TT:vL K e cl cS):(CX0|||13) rQ sV ["book","word","things"] (Gq K T e cl (Af K T C e)):=by
 refine fQ.F.ok gH (fun vs H Q E h=>?_) (fun cdv A outer s H vs Q E hr h=>?_)
 ·obtain ⟨_,_,_,_,_,_,_,_,_,rfl,_⟩:=(h (fun _ _=>True) (fun _ _ _=>True) (fun _ _ _=>trivial) (fun _ _ _ _=>trivial));rfl
 ·obtain ⟨_,_,_,_,_,_,_,_,_,rfl,_⟩:=(h (fun _ _=>True) (fun _ _ _=>True) (fun _ _ _=>trivial) (fun _ _ _ _=>trivial))
  refine ⟨_,(3<$>gH<$>lV<|>4<$>gH<$>lV<|>Pq (i:=5) ⟨rfl,rfl,rfl⟩ rfl (Gu (Oc (i:=4) gH.nd rfl (Or.inl rfl) (Yh vP hr.m rfl dM.m dM.F.kp dM.b .nil (pv 0>=>pv 1>=>pv 2>=>aj)))) rfl dZ.m gH.nd rfl rfl (fun e =>
    (~~~(3<$>gH<$>(pv 5))))<|>@bM _ _ _ _ _ _ _ _ (aG En (pv 3) lV (aO _))
    (~~~(@aH _ _ _ _ (pv 4)))
    aL<|>(~~~(@aH _ _ _ _ (bQ<*iY<*(pv 3>=>aj))))),?_⟩
  refine ⟨_,rfl,_,rfl,_,rfl,h _ _ (fun v H' q=>⟨_,rfl,rfl,_,rfl,j7 ⟨_,rfl,q⟩⟩) (fun c o H' z=>?_)⟩
  obtain ⟨a,x,rfl,rfl,ha,tk,hx,q⟩:=z
  exact ⟨_,x,rfl,rfl,TT.m a ha,_,rfl,_,rfl,rfl,_,rfl,lR ⟨_,rfl,eK.lcs ha tk hx q⟩⟩
abbrev oV:Stmt:=top 141
theorem lZ:aF ["xs","below","k"] ["xs"] (ao oV):=by walk_at "sc"
inductive Ox (K:Fa)(T:d8)(vs:Fs)(H:Hp)(Q:VK)(E:XK):Prop
 | mk (a:Addr)(xs:List Int)(_:vs=[.ref a])(_:SqL K H a (xs.map V.int))(_:xs.length=9)(_:(∀ x∈xs,0<=x))(_:TabsOk T H)(_:Gp T H (fun us=>∃ bs:List Int,us=bs.map V.int/\1<=bs.length/\bs.length<=8/\∀ (i:Nat)(b:Int),bs[i]?=some b->b=-1\/0<=b/\b<(i:Int)) Q)
variable {pC:Addr}{pN:Ff}(fP:Df K mg "_law_river" oV ["xs"] pC pN)
include fP in
theorem aaE (B:Blt mg):(CX0|||1) pC pN ["xs"] (Ox K T):=by
 refine fP.F.ok lZ ?_ ?_;walk_at "i";obtain ⟨a,xs,rfl,hX,hl,hx0,tk,q⟩:=h;refine ⟨_,(1<$>lZ<$>(@bO _ _ _ _ (@HN _ _ _ _ _ _ zZ ak>=>aj))<|>nY ad3 rfl (HJ rfl B.range (ak>=>@aW _ _ _ _ _ _ _ _ kE ak (@aW _ _ _ _ _ _ _ _ cA (@aK _ _ _ _ _ _ _ au (pv 0) ak (fun _ _=>rfl)) ak)>=>aj)) (2>>lZ)
   (~~~(bf (je adz adA adB bK (pv 1) (@aK _ _ _ _ _ _ _ au (@bO _ _ _ _ (@HN _ _ _ _ _ _ zZ ak>=>@aW _ _ _ _ _ _ _ _ uq (pv 2) ak>=>@aW _ _ _ _ _ _ _ _ uq (pv 2) ak>=>@aW _ _ _ _ _ _ _ _ cA (@aW _ _ _ _ _ _ _ _ iK (@aK _ _ _ _ _ _ _ au (pv 0) (pv 2) (fun _ _=>rfl)) ak) (pv 2)>=>@aW _ _ _ _ _ _ _ _ cA (@aW _ _ _ _ _ _ _ _ iK (@aK _ _ _ _ _ _ _ au (pv 0) (pv 2) (fun _ _=>rfl)) ak) (pv 2)>=>aj)) (@aW _ _ _ _ _ _ _ _ cA (@aK _ _ _ _ _ _ _ au (pv 0) (pv 2) (fun _ _=>rfl)) ak) (fun _ _=>rfl)>=>aj))))<|>(~~~(@aH _ _ _ _ (pv 1)))),?_⟩
 have O:=Ow.refl tk;refine ⟨1,rfl,szl,fun lb hlb=>?_⟩;walk_at "nw";have g:∀ k:Nat,k<9->xs[k]?=some (xs.getD k 0)/\0<=xs.getD k 0:=fun k hk=>by
  have e:=jf (ns:=xs) (k:=k) (by omega);exact ⟨e,hx0 _ (adp e)⟩
 have m0:=adE (xs.getD 0 0) (show (8:Int)≠0 by decide);have m1:=ady (xs.getD 0 0) (show (0:Int)<8 by decide);refine ⟨_,rfl,a,_,0,_,rfl,rfl,O.same.seq hX,bY (i:=0) (g 0 (by decide)).1,_,_,rfl,rfl,(by show (0:Int)<8;decide),_,_,rfl,rfl,_,_,rfl,⟨by decide,by decide,by omega,by omega⟩,?_⟩;obtain ⟨z,hz⟩:=adD m0;rw [show (1+xs.getD 0 0 % 8 - 1).toNat=z by omega];refine lW (n:=z) (fun i σ H'=>Iv (∃ (bs:List Int)(v2:Option V),σ=[some (.ref a),some (.ref lb),v2]/\bs.length=i+1/\(∀ (j:Nat)(b:Int),bs[j]?=some b->b=-1\/0<=b/\b<(j:Int))/\Ow T H H' [(lb,.lst (bs.map V.int))])) ⟨trivial,[-1],none,rfl,rfl,(fun j b hb=>by
  cases j with
  | zero=>cases hb;exact .inl rfl
  | succ j=>cases hb),O⟩ ?_ ?_
 ·clear O;rintro i σ H2 hi ⟨-,bs,v2,rfl,hbl,hbs,O⟩;have gi:=g (i+1) (by omega);have ei:(1:Int)+(i:Int)=((i+1:Nat):Int):=by omega
  rw [ei];have hm0:=adE (xs.getD (i+1) 0 / 5) (show ((i+1:Nat):Int)≠0 by omega);have hm1:=ady (xs.getD (i+1) 0 / 5) (show (0:Int)<((i+1:Nat):Int) by omega);have k0:=adE (xs.getD (i+1) 0) (show (5:Int)≠0 by decide);have k1:=ady (xs.getD (i+1) 0) (show (0:Int)<5 by decide);refine ⟨_,rfl,.inl ⟨rfl,_,O.sq 0⟩,1,rfl,_,rfl,_,_,rfl,rfl,_,rfl,_,_,rfl,rfl,_,rfl,_,rfl,a,_,_,_,rfl,rfl,O.same.seq hX,bY gi.1,_,_,rfl,rfl,⟨by decide,by decide⟩,_,rfl,_,_,rfl,rfl,(by show (0:Int)<((i+1:Nat):Int);omega),_,rfl,_,rfl,a,_,_,_,rfl,rfl,O.same.seq hX,bY gi.1,_,_,rfl,rfl,⟨by decide,by decide⟩,_,rfl,_,_,rfl,rfl,(by show (0:Int)<((i+1:Nat):Int);omega),szl,fun l1 h1=>?_⟩;walk_at "nw";refine ⟨_,rfl,_,rfl,a,_,_,_,rfl,rfl,O.same.seq hX,bY gi.1,_,_,rfl,rfl,(by show (0:Int)<5;decide),?_⟩;dsimp only at O ⊢;have hb:∀ z∈[(-1:Int),((i+1:Nat):Int) - 1,((i+1:Nat):Int) - 1,xs.getD (i+1) 0 / 5 % ((i+1:Nat):Int),xs.getD (i+1) 0 / 5 % ((i+1:Nat):Int)],z=-1\/0<=z/\z<((i+1:Nat):Int):=by
   intro z hz;simp only [adt,adZ,or_false] at hz;rcases hz with rfl| rfl| rfl| rfl| rfl
   ·exact .inl rfl
   ·exact .inr ⟨by omega,by omega⟩
   ·exact .inr ⟨by omega,by omega⟩
   ·exact .inr ⟨hm0,hm1⟩
   ·exact .inr ⟨hm0,hm1⟩
  have hz:=hb _ (adp (jf (ns:=[(-1:Int),((i+1:Nat):Int) - 1,((i+1:Nat):Int) - 1,xs.getD (i+1) 0 / 5 % ((i+1:Nat):Int),xs.getD (i+1) 0 / 5 % ((i+1:Nat):Int)]) (k:=(xs.getD (i+1) 0 % 5).toNat) (by show _<5;omega)));refine ⟨l1,_,_,_,rfl,rfl,O.sq 0,gk (ns:=[(-1:Int),((i+1:Nat):Int) - 1,((i+1:Nat):Int) - 1,xs.getD (i+1) 0 / 5 % ((i+1:Nat):Int),xs.getD (i+1) 0 / 5 % ((i+1:Nat):Int)]) k0 (by show _<(5:Int);omega),?_⟩;generalize List.getD [(-1:Int),((i+1:Nat):Int) - 1,((i+1:Nat):Int) - 1,xs.getD (i+1) 0 / 5 % ((i+1:Nat):Int),xs.getD (i+1) 0 / 5 % ((i+1:Nat):Int)] (xs.getD (i+1) 0 % 5).toNat 0=bz at hz ⊢;refine ⟨lb,_,_,rfl,rfl,O.get 1,aQ (by rw [abW];omega),?_⟩;generalize hE:upd _ _ _=Hm;have O:=Ow.uQ O 1 rfl hE rfl;refine ⟨trivial,bs++[bz],_,rfl,by rw [adG,hbl];rfl,fun j b hb=>?_,?_⟩
  ·by_cases c:j<bs.length
   ·rw [aeF c] at hb;exact hbs j b hb
   ·rw [aeB (by omega)] at hb;have:j=bs.length:=by
     have:=(adl.mp hb).1;simp at this;omega
    subst this;rw [Nat.sub_self] at hb;cases hb;rw [hbl];exact hz
  ·rw [adw];exact O.tail
 ·clear O;rintro σ H2 ⟨-,bs,v2,rfl,hbl,hbs,O⟩;exact ⟨_,rfl,O.ret 0 rfl q ⟨bs,rfl,by omega,by omega,hbs⟩⟩
theorem Eu:∀ cs:Fn,(Str.join ("":Str) (cs.map fun c=>(⟨#[c]⟩:Str))).cps.toList=cs
 | []=>rfl
 | [c]=>rfl
 | c::d::cs=>by
  show (((⟨#[c]⟩:Str)++("":Str))++Str.join ("":Str) ((d::cs).map fun c=>(⟨#[c]⟩:Str))).cps.toList=_;rw [iR,iR,Eu (d::cs)];rfl
theorem Y0 (h1:1<=x.cps.toList.length)(h8:x.cps.toList.length<=8)(h:∀ c∈x.cps.toList,97<=c/\c<=122):bI x:=⟨by simpa using h1,by simpa using h8,h⟩
theorem abK {i:Int}(h0:0<=i)(h1:i<26):("abcdefghijklmnopqrstuvwxyz":Str).cps[i.toNat]?=some (97+i.toNat):=by
 have h:∀ k:Fin 26,("abcdefghijklmnopqrstuvwxyz":Str).cps[k.val]?=some (97+k.val):=by decide+kernel
 exact h ⟨i.toNat,by omega⟩
theorem Ah (x:Str)(l u:Option Int):(Txt.slice x l u).length<=(Builtin.Str.strSliceIndices l u 1 x.length).length:=by
 unfold Txt.slice;split
 ·rename_i h
  simp only [ad4,beq_iff_eq] at h;exact Nat.le_of_eq h.2.symm
 ·show (List.filterMap _ (Builtin.Str.strSliceIndices l u 1 x.length)).toArray.size<=_;rw [adH];exact List.length_filterMap_le _ _
theorem Lf (x:Str)(k:Nat):(Txt.slice x none (some (k:Int))).length<=k:=by
 refine aec (Ah _ _ _) ?_;unfold Builtin.Str.strSliceIndices sliceRange;simp only [show (1:Int)>0 by decide,if_true,abW,aeD];split <;>(try split)<;>(try simp only [Int.ediv_one])<;>omega
theorem Lg (x:Str)(k:Nat):(Txt.slice x (some (k:Int)) none).length<=x.length - k:=by
 refine aec (Ah _ _ _) ?_;unfold Builtin.Str.strSliceIndices sliceRange;simp only [show (1:Int)>0 by decide,if_true,abW,aeD];split <;>(try split)<;>(try simp only [Int.ediv_one])<;>omega
abbrev jc:Stmt:=top 140
theorem gU:aF ["cell","many","letters","xs","word","at"] ["cell","many"] (ao jc):=by walk_at "sc"
inductive Ou (T:d8)(vs:Fs)(H:Hp)(Q:VK)(E:XK):Prop
 | mk (c:Int)(n:Nat)(_:vs=[.int c,.int (n:Int)])(_:n<=20)(_:TabsOk T H)(_:Gp T H (fun us=>∃ ns:List Str,us=ns.map V.str/\ns.length=n/\(∀ x∈ns,bI x)/\ns.Nodup) Q)
variable (gO:(CX0|||1) pG pQ ["cell","many"] (Hf T))
variable {pD:Addr}{pO:Ff}(dX:Df K mg "_law_names" jc ["cell","many"] pD pO)
include bL gO dX in
theorem aaC (B:Blt mg):(CX0|||2) pD pO ["cell","many"] (Ou T):=by
 refine dX.F.ok gU ?_ ?_;walk_at "i";obtain ⟨c,n,rfl,hn,tk,q⟩:=h;refine ⟨_,(wN (i:=2) gU.nd rfl (Or.inr rfl) aJ<|>wN (i:=3) gU.nd rfl (Or.inr rfl) (bL<*gO<*(pv 0>=>ak>=>aj))<|>wN (i:=4) gU.nd rfl (Or.inr rfl) (je ael aez aeA wU aJ (jH (ao jc) rfl ["cell","many","letters","xs","word","at"] rfl ["x","letters"] [none,some 2] (by decide+kernel) (by decide+kernel) (by decide+kernel) rfl (rF (jA qP (pv 3) uT (jm (@aW _ _ _ _ _ _ _ _ cA (@aK _ _ _ _ _ _ _ au (pv 3) ak (fun _ _=>rfl)) ak)))) (fun _ _ _=>(dR (i:=0) (show (["x","letters"]:List Str).Nodup by decide+kernel) rfl (Or.inl rfl))) (fun _ _ _=>jl) (fun _ _ _=>(rG (pv 1) (@aW _ _ _ _ _ _ _ _ cA (pv 0) ak) (fun _ _=>rfl)))>=>aj))<|>wN (i:=5) gU.nd rfl (Or.inr rfl) (@aW _ _ _ _ _ _ _ _ cA (@aW _ _ _ _ _ _ _ _ iK (@aK _ _ _ _ _ _ _ au (pv 3) ak (fun _ _=>rfl)) ak) (@aW _ _ _ _ _ _ _ _ kE (aD kI rfl B.len adx (pv 4>=>aj)) ak))<|>(~~~(@aH _ _ _ _ (jH (ao jc) rfl ["cell","many","letters","xs","word","at"] rfl ["k","word","letters","at","xs"] [none,some 4,some 2,some 5,some 3] (by decide+kernel) (by decide+kernel) (by decide+kernel) rfl (iy rfl B.range (pv 1>=>aj)) (fun _ _ _=>(dR (i:=0) (show (["k","word","letters","at","xs"]:List Str).Nodup by decide+kernel) rfl (Or.inl rfl))) (fun _ _ _=>jl) (fun _ _ _=>(@aW _ _ _ _ _ _ _ _ uU (@aW _ _ _ _ _ _ _ _ uU (jA Ph (pv 1) uT (jm (pv 3))) (rG (pv 2) (@aW _ _ _ _ _ _ _ _ cA (@aW _ _ _ _ _ _ _ _ kE (@aK _ _ _ _ _ _ _ (Ew (K:=K) rfl) (pv 4) ak (fun _ _=>rfl)) (pv 0)) ak) (fun _ _=>rfl))) (jA Ph (pv 1) (jm (pv 3)) uT))))))),?_⟩;have O:=Ow.refl tk;refine ⟨_,rfl,c,9,rfl,by decide,tk,O.Y9 fun lx H1 us O e1=>?_⟩;obtain ⟨xs,rfl,hxl,hxb⟩:=e1;have g:∀ k:Nat,k<9->xs[k]?=some (xs.getD k 0)/\0<=xs.getD k 0/\xs.getD k 0<600011003:=fun k hk=>by
  have e:=jf (ns:=xs) (k:=k) (by omega);exact ⟨e,hxb _ (adp e)⟩
 have m0:=adE (xs.getD 8 0) (show (8:Int)≠0 by decide);have m1:=ady (xs.getD 8 0) (show (0:Int)<8 by decide);obtain ⟨m,hm⟩:=adD m0;refine ⟨rfl,_,rfl,_,rfl,lx,_,8,_,rfl,rfl,O.sq 0,bY (i:=8) (g 8 (by decide)).1,_,_,rfl,rfl,(by show (0:Int)<8;decide),(m:Int),by rw [hm],lx,_,rfl,O.sq 0,fun ls hls=>?_⟩;walk_at "nw";rw [xP,<- List.map_take] at O;refine ⟨ls,rfl,⟨_,O.sq 0⟩,fun la hla=>?_⟩;refine pX (K:=K) (xs:=(xs.take m).map V.int) (fun i τ H'=>Iv (∃ (v0:Option V)(cs:Fn),τ=[v0,some (.str "abcdefghijklmnopqrstuvwxyz")]/\cs.length=i/\(∀ c∈cs,97<=c/\c<=122)/\Ow T H H' [(la,.lst ((cs.map fun c=>(⟨#[c]⟩:Str)).map V.str)),(ls,.lst ((xs.take m).map V.int)),(lx,.lst (xs.map V.int))])) ⟨trivial,none,[],rfl,rfl,(fun c hc=>nomatch hc),O.mk' hla rfl⟩ (fun _ _ _ _ ⟨_,_,_,_,_,_,O⟩=>O.sq 1) ?_ ?_
 ·clear O;rintro i y τ H4 hy ⟨-,v0,cs,rfl,hcl,hcs,O⟩;obtain ⟨z,hz,rfl⟩:=ints_get hy;have hi:=(adl.mp hz).1;rw [adU] at hi;have z0:=adE z (show (26:Int)≠0 by decide);have z1:=ady z (show (0:Int)<26 by decide);refine K3 ?_;refine ⟨_,rfl,_,rfl,_,_,rfl,rfl,(by show (0:Int)<26;decide),_,_,_,rfl,rfl,z0,(by show z % 26<2 ^ 63;omega),(by show z % 26<26;omega),abK z0 z1,?_⟩;refine ⟨_,O.get 0,aQ (by rw [abW,abW];omega),?_⟩;walk_at "pt";refine ⟨trivial,_,cs++[97+(z % 26).toNat],rfl,by rw [adG,hcl];rfl,(fun c hc=>?_),?_⟩
  ·rcases ad2.mp hc with e| e
   ·exact hcs c e
   ·rw [adK.mp e];omega
  ·rw [adw,adw];exact O
 clear O;rintro τ H4 ⟨-,v0,cs,rfl,hcl,hcs,O⟩;rw [abW,adU] at hcl;have O:Ow T H H4 [(la,.lst ((cs.map fun c=>(⟨#[c]⟩:Str)).map V.str)),(lx,.lst (xs.map V.int))]:=O.sub (.cons₂ _ (.cons _ (adL _)));have hsum:((cs.map fun c=>(⟨#[c]⟩:Str)).map (·.length)).sum<=1*(cs.map fun c=>(⟨#[c]⟩:Str)).length:=Aa fun x hx=>by
  obtain ⟨c,_,rfl⟩:=adW.mp hx;exact ado _
 rw [abW] at hsum;refine ⟨_,la,cs.map fun c=>(⟨#[c]⟩:Str),rfl,rfl,O.sq 0,(by show _+(cs.map _).length*0<=100000;omega),?_⟩;rw [qp];have hwd:=Eu cs;generalize Str.join ("":Str) (cs.map fun c=>(⟨#[c]⟩:Str))=wd at hwd;have hwl:wd.length=cs.length:=by rw [<- hwd];show wd.cps.size=_;simp
 have sl:∀ {k:Nat},k<=1000->k<=sizeLine:=fun h=>by rw [sizeLine_eq];omega
 have O:Ow T H H4 [(lx,.lst (xs.map V.int))]:=O.tail;have g8:=(g 8 (by decide)).2;have hd0:=Int.ediv_nonneg g8.1 (show (0:Int)<=8 by decide);have p0:=adE (xs.getD 8 0 / 8) (show (wd.length:Int)+1≠0 by omega);have p1:=ady (xs.getD 8 0 / 8) (show (0:Int)<(wd.length:Int)+1 by omega);refine ⟨_,rfl,lx,_,8,_,rfl,rfl,O.sq 0,bY (i:=8) (g 8 (by decide)).1,_,_,rfl,rfl,⟨by decide,by decide⟩,_,rfl,wd,rfl,sl (by omega),_,_,rfl,rfl,_,_,rfl,rfl,(by show (0:Int)<(wd.length:Int)+1;omega),?_⟩;dsimp only;obtain ⟨p,hp⟩:=adD p0;rw [hp] at p1 ⊢;refine ⟨_,rfl,_,rfl,by omega,by omega,fun lr hlr=>?_⟩;rw [adN];have hlo:=Lf wd p;have hhi:=Lg wd p;have hlm:∀ c∈(Txt.slice wd none (some (p:Int))).cps.toList,97<=c/\c<=122:=fun c hc=>hcs c (by rw [<- hwd];exact Ag hc);have hhm:∀ c∈(Txt.slice wd (some (p:Int)) none).cps.toList,97<=c/\c<=122:=fun c hc=>hcs c (by rw [<- hwd];exact Ag hc);have g7:=(g 7 (by decide)).2;let nm:Nat->Str:=fun i=>Txt.slice wd none (some (p:Int))++(⟨#[97+((xs.getD 7 0+(i:Int)) % 26).toNat]⟩:Str)++Txt.slice wd (some (p:Int)) none;refine qt (lo:=0) (n:=n) (fun i τ H'=>Iv (∃ (v0:Option V),τ=[v0,some (.str wd),some (.str "abcdefghijklmnopqrstuvwxyz"),some (.int (p:Int)),some (.ref lx)]/\Ow T H H' [(lr,.lst (((List.range i).map nm).map V.str)),(lx,.lst (xs.map V.int))])) ⟨trivial,none,rfl,O.mk' hlr rfl⟩ ?_ ?_
 ·clear O;rintro i τ H5 hi ⟨-,v0,rfl,O⟩;rw [show (0:Int)+(i:Int)=(i:Int) by omega];have z0:=adE (xs.getD 7 0+(i:Int)) (show (26:Int)≠0 by decide);have z1:=ady (xs.getD 7 0+(i:Int)) (show (0:Int)<26 by decide);refine K3 ?_;refine ⟨_,rfl,_,rfl,(p:Int),rfl,wd,rfl,by omega,_,rfl,_,rfl,lx,_,7,_,rfl,rfl,O.sq 1,bY (i:=7) (g 7 (by decide)).1,_,rfl,_,_,rfl,rfl,_,_,rfl,rfl,(by show (0:Int)<26;decide),_,_,_,rfl,rfl,z0,(by show (xs.getD 7 0+(i:Int)) % 26<2 ^ 63;omega),(by show (xs.getD 7 0+(i:Int)) % 26<26;omega),abK z0 z1,_,_,rfl,rfl,sl (by show _+1<=_;omega),_,rfl,_,rfl,(p:Int),rfl,wd,rfl,by omega,_,_,rfl,rfl,sl (by rw [len_app];show _+1+_<=_;omega),?_⟩;refine ⟨_,O.get 0,aQ (by rw [abW,abW,aeD];omega),?_⟩;walk_at "pt";refine ⟨trivial,_,rfl,?_⟩;rw [List.range_succ,adw,adw];exact O
 ·clear O;rintro τ H5 ⟨-,v0,rfl,O⟩;refine O.ret 0 rfl q ⟨(List.range n).map nm,rfl,by simp,fun x hx=>?_,?_⟩
  ·obtain ⟨i,_,rfl⟩:=adW.mp hx;have z0:=adE (xs.getD 7 0+(i:Int)) (show (26:Int)≠0 by decide);have z1:=ady (xs.getD 7 0+(i:Int)) (show (0:Int)<26 by decide);have e:(nm i).cps.toList=(Txt.slice wd none (some (p:Int))).cps.toList++[97+((xs.getD 7 0+(i:Int)) % 26).toNat]++(Txt.slice wd (some (p:Int)) none).cps.toList:=by
    show (_++_++_:Str).cps.toList=_;rw [iR,iR]
   have l1:=jK (Txt.slice wd none (some (p:Int)));have l2:=jK (Txt.slice wd (some (p:Int)) none);refine Y0 ?_ ?_ ?_
   ·rw [e];simp only [adG,List.length_singleton];omega
   ·rw [e];simp only [adG,List.length_singleton];omega
   ·rw [e];intro c hc;rcases ad2.mp hc with hc| hc
    ·rcases ad2.mp hc with hc| hc
     ·exact hlm c hc
     ·rw [adK.mp hc];omega
    ·exact hhm c hc
  ·refine List.pairwise_map.mpr (List.Pairwise.imp_of_mem (fun {i j} hi hj hlt e=>?_) List.pairwise_lt_range);have hj:=aeu.mp hj;have e:=congrArg (fun z:Str=>z.cps.toList) e;have e:(Txt.slice wd none (some (p:Int))++(⟨#[97+((xs.getD 7 0+(i:Int)) % 26).toNat]⟩:Str)++Txt.slice wd (some (p:Int)) none).cps.toList=(Txt.slice wd none (some (p:Int))++(⟨#[97+((xs.getD 7 0+(j:Int)) % 26).toNat]⟩:Str)++Txt.slice wd (some (p:Int)) none).cps.toList:=e;rw [iR,iR,iR,iR] at e;have e:=List.append_cancel_left (List.append_cancel_right e);have e:[97+((xs.getD 7 0+(i:Int)) % 26).toNat]=[97+((xs.getD 7 0+(j:Int)) % 26).toNat]:=e;injection e with e;omega
abbrev mQ:Stmt:=top 146
theorem qL:aF ["number","edges"] ["number"] (ao mQ):=by walk_at "sc"
inductive O6 (T:d8)(vs:Fs)(H:Hp)(Q:VK)(E:XK):Prop
 | mk (n:Int)(_:vs=[.int n])(_:0<=n)(_:n<600011003)(_:TabsOk T H)(_:∀ (z:Int)(H':Hp),0<=z->z<10000000000000->aM T H H'->Q (.int z) H')
variable {m7:Addr}{ni:Ff}(cX:Df K mg "_law_amount" mQ ["number"] m7 ni)
include cX in
theorem YW:(CX0|||1) m7 ni ["number"] (O6 T):=by
 refine cX.F.ok qL ?_ ?_
 walk_at "i"
 obtain ⟨n,rfl,n0,n1,tk,q⟩:=h
 refine ⟨_,(1<$>qL<$>(@bO _ _ _ _ (@aW _ _ _ _ _ _ _ _ wQ ak ak>=>@aW _ _ _ _ _ _ _ _ kE (@aW _ _ _ _ _ _ _ _ wQ ak ak) ak>=>@aW _ _ _ _ _ _ _ _ uq (@aW _ _ _ _ _ _ _ _ wQ ak ak) ak>=>@aW _ _ _ _ _ _ _ _ uq (@aW _ _ _ _ _ _ _ _ wQ ak ak) ak>=>aj))<|>@bM _ _ _ _ _ _ _ _ (aG dU (@aW _ _ _ _ _ _ _ _ cA (pv 0) ak) ak (aO _))
   (~~~(@aH _ _ _ _ (@aK _ _ _ _ _ _ _ au (pv 1) (@aW _ _ _ _ _ _ _ _ cA (@aW _ _ _ _ _ _ _ _ iK (pv 0) ak) ak) (fun _ _=>rfl))))
   aL<|>@bM _ _ _ _ _ _ _ _ (aG dU (@aW _ _ _ _ _ _ _ _ cA (pv 0) ak) ak (aO _))
   (~~~(@aH _ _ _ _ (@aW _ _ _ _ _ _ _ _ cA (@aW _ _ _ _ _ _ _ _ Bl (@aW _ _ _ _ _ _ _ _ iK (pv 0) ak) ak) (@aW _ _ _ _ _ _ _ _ wQ ak ak))))
   aL<|>(~~~(@aH _ _ _ _ (@aW _ _ _ _ _ _ _ _ cA (@aW _ _ _ _ _ _ _ _ iK (pv 0) ak) ak)))),?_⟩
 have O:=Ow.refl tk
 have D3:acM 10 12/\acM 10 13:=⟨⟨by decide,by decide,by decide⟩,⟨by decide,by decide,by decide⟩⟩
 refine ⟨_,_,rfl,rfl,D3.1,_,_,rfl,rfl,D3.1,_,_,rfl,rfl,_,_,rfl,rfl,D3.1,_,_,rfl,rfl,_,_,rfl,rfl,D3.2,_,_,rfl,rfl,szl,fun l1 h1=>?_⟩
 walk_at "nw"
 have hq0:=Int.ediv_nonneg n0 (show (0:Int)<=4 by decide)
 have k0:=adE (n / 4) (show (4:Int)≠0 by decide)
 have k1:=ady (n / 4) (show (0:Int)<4 by decide)
 have e12:(10:Int) ^ (12:Int).toNat=1000000000000:=by decide
 refine ⟨_,rfl,_,_,rfl,rfl,(by show (0:Int)<4;decide),rfl,_,rfl,ifI (fun _=>?_) (fun _=>?_)⟩
 ·have hb:∀ z∈[(10:Int) ^ (12:Int).toNat,(10:Int) ^ (12:Int).toNat+1,(10:Int) ^ (12:Int).toNat - 1,(10:Int) ^ (13:Int).toNat - 1],0<=z/\z<10000000000000:=by decide
  have hz:=hb _ (adp (jf (ns:=[(10:Int) ^ (12:Int).toNat,(10:Int) ^ (12:Int).toNat+1,(10:Int) ^ (12:Int).toNat - 1,(10:Int) ^ (13:Int).toNat - 1]) (k:=(n / 4 % 4).toNat) (by show _<4;omega)))
  exact ⟨_,rfl,_,rfl,_,_,rfl,rfl,⟨by decide,by decide⟩,_,_,rfl,rfl,(by show (0:Int)<4;decide),l1,_,_,_,rfl,rfl,O.sq 0,gk (ns:=[(10:Int) ^ (12:Int).toNat,(10:Int) ^ (12:Int).toNat+1,(10:Int) ^ (12:Int).toNat - 1,(10:Int) ^ (13:Int).toNat - 1]) k0 (by show _<(4:Int);omega),q _ _ hz.1 hz.2 O.same⟩
 refine ⟨_,rfl,_,_,rfl,rfl,(by show (0:Int)<4;decide),rfl,_,rfl,ifI (fun _=>?_) (fun _=>?_)⟩
 ·have z0:=adE (n / 4*731428571) (show (10:Int) ^ (12:Int).toNat≠0 by decide)
  have z1:=ady (n / 4*731428571) (show (0:Int)<(10:Int) ^ (12:Int).toNat by decide)
  exact ⟨_,rfl,_,_,rfl,rfl,⟨by decide,by decide⟩,_,_,rfl,rfl,.inl ⟨by omega,by omega⟩,_,_,rfl,rfl,D3.1,_,_,rfl,rfl,(by show (0:Int)<(10:Int) ^ (12:Int).toNat;decide),q _ _ z0 (by omega) O.same⟩
 ·have z0:=adE (n / 4) (show (10:Int)≠0 by decide)
  have z1:=ady (n / 4) (show (0:Int)<10 by decide)
  exact ⟨_,rfl,_,_,rfl,rfl,⟨by decide,by decide⟩,_,_,rfl,rfl,(by show (0:Int)<10;decide),q _ _ z0 (by omega) O.same⟩
def K1 (m:Nat):Dd->Prop
 | .file x st a b=>bI x/\0<=st/\st<(m:Int)/\0<=a/\a<10000000000000/\∀ z,b=some z->0<=z/\z<(m:Int)
 | .sell n y z=>0<=n/\n<10000000000000/\bI y/\bI z
 | .part n y a z=>0<=n/\n<10000000000000/\bI y/\0<=a/\a<10000000000000/\bI z
 | .drop n y=>0<=n/\n<10000000000000/\bI y
 | .move n y st=>0<=n/\n<10000000000000/\bI y/\0<=st/\st<(m:Int)
 | .pond n y a b=>0<=n/\n<10000000000000/\bI y/\0<=a/\a<10000000000000/\∀ z,b=some z->0<=z/\z<10000000000000
 | .turn=>True
abbrev nine:Fs:=[.str "file",.str "file",.str "sell",.str "drop",.str "move",.str "part",.str "pond",.str "turn",.str "file"]
theorem YZ {i:Int}(h0:0<=i)(h1:i<9):∃ w:Str,atI nine i=some (.str w)/\(w="file"\/w="sell"\/w="drop"\/w="move"\/w="part"\/w="pond"\/w="turn"):=by
 have:i=0\/i=1\/i=2\/i=3\/i=4\/i=5\/i=6\/i=7\/i=8:=by omega
 rcases this with rfl| rfl| rfl| rfl| rfl| rfl| rfl| rfl| rfl
 ·exact ⟨_,rfl,.inl rfl⟩
 ·exact ⟨_,rfl,.inl rfl⟩
 ·exact ⟨_,rfl,.inr (.inl rfl)⟩
 ·exact ⟨_,rfl,.inr (.inr (.inl rfl))⟩
 ·exact ⟨_,rfl,.inr (.inr (.inr (.inl rfl)))⟩
 ·exact ⟨_,rfl,.inr (.inr (.inr (.inr (.inl rfl))))⟩
 ·exact ⟨_,rfl,.inr (.inr (.inr (.inr (.inr (.inl rfl)))))⟩
 ·exact ⟨_,rfl,.inr (.inr (.inr (.inr (.inr (.inr rfl)))))⟩
 ·exact ⟨_,rfl,.inl rfl⟩
theorem qd {i:Int}(h0:0<=i)(h1:i<(ns.length:Int)):atI (ns.map V.str) i=some (.str (ns.getD i.toNat "")):=by
 obtain ⟨k,rfl⟩:=adD h0;refine dN ?_;rw [adC,adN,getD_at' (by omega)];rfl
theorem getD_mem' {i:Int}(h0:0<=i)(h1:i<(ns.length:Int)):ns.getD i.toNat ""∈ns:=adp (getD_at' (by omega))
abbrev qX:Stmt:=top 147
theorem cZ:aF ["cell","owners","people","below","xs","word","number","holder","to","reach","things"] ["cell","owners","people","below"] (ao qX):=by walk_at "sc"
inductive OJ (K:Fa)(T:d8)(vs:Fs)(H:Hp)(Q:VK)(E:XK):Prop
 | mk (c:Int)(lo lp lb:Addr)(os pp:List Str)(bs:List Int)(_:vs=[.int c,.ref lo,.ref lp,.ref lb])(_:SqL K H lo (os.map V.str))(_:os.length<=60)(_:(∀ x∈os,bI x))(_:SqL K H lp (pp.map V.str))(_:pp.length=3)(_:(∀ x∈pp,bI x))(_:SqL K H lb (bs.map V.int))(_:1<=bs.length)(_:bs.length<=8)(_:TabsOk T H)(_:∀ (d:Dd)(t lt:Addr)(H':Hp),K1 bs.length d->Ow T H H' [(t,.tup [.str (j6 d),.ref lt]),(lt,.lst (kY d))]->Q (.ref t) H')
variable (jC:(CX0|||1) m7 ni ["number"] (O6 T))
variable {rR:Addr}{sW:Ff}(gF:Df K mg "_law_deed" qX ["cell","owners","people","below"] rR sW)
include bL gO cX jC gF in
theorem aaH (B:Blt mg):(CX0|||2) rR sW ["cell","owners","people","below"] (OJ K T):=by
 refine gF.F.ok cZ ?_ ?_
 walk_at "i"
 obtain ⟨c,lo,lp,lb,os,pp,bs,rfl,hO,ho60,hon,hP,hp3,hpn,hB,hb1,hb8,tk,q⟩:=h
 refine ⟨_,(4<$>cZ<$>(bL<*gO<*(pv 0>=>ak>=>aj))<|>5<$>cZ<$>(@aK _ _ _ _ _ _ _ au (@bO _ _ _ _ (aJ>=>aJ>=>aJ>=>aJ>=>aJ>=>aJ>=>aJ>=>aJ>=>aJ>=>aj)) (@aW _ _ _ _ _ _ _ _ cA (@aK _ _ _ _ _ _ _ au (pv 4) ak (fun _ _=>rfl)) ak) (fun _ _=>rfl))<|>6<$>cZ<$>(@aW _ _ _ _ _ _ _ _ cA (@aK _ _ _ _ _ _ _ au (pv 4) ak (fun _ _=>rfl)) (aD (Ks rfl) rfl B.max PyProof.Rows.boot_max (ak>=>aD aC rfl B.len adx (pv 1>=>aj)>=>aj)))<|>(jG (@bM _ _ _ _ _ _ _ _ (aG dU (@aW _ _ _ _ _ _ _ _ cA (@aK _ _ _ _ _ _ _ au (pv 4) ak (fun _ _=>rfl)) ak) ak (aO _))
   (~~~(6<$>cZ<$>(@aK _ _ _ _ _ _ _ au (@bO _ _ _ _ (aD aC rfl B.len adx (pv 1>=>aj)>=>@aW _ _ _ _ _ _ _ _ kE (aD aC rfl B.len adx (pv 1>=>aj)) ak>=>@aW _ _ _ _ _ _ _ _ cA (@aW _ _ _ _ _ _ _ _ Bl (@aK _ _ _ _ _ _ _ au (pv 4) ak (fun _ _=>rfl)) ak) (@aW _ _ _ _ _ _ _ _ wQ ak ak)>=>aj)) (@aW _ _ _ _ _ _ _ _ cA (@aW _ _ _ _ _ _ _ _ iK (@aK _ _ _ _ _ _ _ au (pv 4) ak (fun _ _=>rfl)) ak) ak) (fun _ _=>rfl))))
   aL)
  (7<$>cZ<$>(@aK _ _ _ _ _ _ _ au (pv 2) (@aW _ _ _ _ _ _ _ _ cA (@aW _ _ _ _ _ _ _ _ iK (@aK _ _ _ _ _ _ _ au (pv 4) ak (fun _ _=>rfl)) ak) ak) (fun _ _=>rfl))<|>(jG (@bM _ _ _ _ _ _ _ _ (PW.pt (pw_and (aG aaq (@aW _ _ _ _ _ _ _ _ cA (@aK _ _ _ _ _ _ _ au (pv 4) ak (fun _ _=>rfl)) ak) ak (aO _)) (pw_and1 (aG Gd (pv 6) (aD aC rfl B.len adx (pv 1>=>aj)) (aO _)))))
   (~~~(7<$>cZ<$>(@aK _ _ _ _ _ _ _ au (pv 1) (pv 6) (fun _ _=>rfl))))
   aL)
  (8<$>cZ<$>(@aK _ _ _ _ _ _ _ au (pv 2) (@aW _ _ _ _ _ _ _ _ cA (@aK _ _ _ _ _ _ _ au (pv 4) ak (fun _ _=>rfl)) ak) (fun _ _=>rfl))<|>9<$>cZ<$>(@aW _ _ _ _ _ _ _ _ cA (@aK _ _ _ _ _ _ _ au (pv 4) ak (fun _ _=>rfl)) (aD aC rfl B.len adx (pv 3>=>aj)))<|>@bM _ _ _ _ _ _ _ _ (aG dU (pv 5) aJ (aO _))
   (10<$>cZ<$>(@bO _ _ _ _ (pv 8>=>pv 9>=>cX<*jC<*(@aK _ _ _ _ _ _ _ au (pv 4) ak (fun _ _=>rfl)>=>aj)>=>aj))<|>(jG (@bM _ _ _ _ _ _ _ _ (aG dU (@aW _ _ _ _ _ _ _ _ cA (@aK _ _ _ _ _ _ _ au (pv 4) ak (fun _ _=>rfl)) ak) ak (aO _))
    (~~~(bf (je adz adA adB bK (pv 10) (@aK _ _ _ _ _ _ _ au (@bO _ _ _ _ (@aW _ _ _ _ _ _ _ _ cA (@aK _ _ _ _ _ _ _ au (pv 3) (pv 9) (fun _ _=>rfl)) (aD aC rfl B.len adx (pv 3>=>aj))>=>@aW _ _ _ _ _ _ _ _ cA (@aK _ _ _ _ _ _ _ au (pv 4) ak (fun _ _=>rfl)) (aD aC rfl B.len adx (pv 3>=>aj))>=>aj)) (@aW _ _ _ _ _ _ _ _ cA (@aW _ _ _ _ _ _ _ _ iK (@aK _ _ _ _ _ _ _ au (pv 4) ak (fun _ _=>rfl)) ak) ak) (fun _ _=>rfl)>=>aj))))
    aL)
   (~~~(@aH _ _ _ _ (@f9 _ _ _ _ _ (pv 5>=>pv 10>=>aj))))))
   aL<|>@bM _ _ _ _ _ _ _ _ (aG dU (pv 5) aJ (aO _))
   (~~~(@aH _ _ _ _ (@f9 _ _ _ _ _ (pv 5>=>jA qP (@bO _ _ _ _ (pv 6>=>pv 7>=>cX<*jC<*(@aK _ _ _ _ _ _ _ au (pv 4) ak (fun _ _=>rfl)>=>aj)>=>@aW _ _ _ _ _ _ _ _ cA (@aW _ _ _ _ _ _ _ _ iK (@aK _ _ _ _ _ _ _ au (pv 4) ak (fun _ _=>rfl)) ak) ak>=>aj)) uT (jm (@aW _ _ _ _ _ _ _ _ kE ak (@aW _ _ _ _ _ _ _ _ cA (@aK _ _ _ _ _ _ _ au (pv 4) ak (fun _ _=>rfl)) ak)))>=>aj))))
   aL<|>@bM _ _ _ _ _ _ _ _ (aG dU (pv 5) aJ (aO _))
   (~~~(@aH _ _ _ _ (@f9 _ _ _ _ _ (pv 5>=>@bO _ _ _ _ (pv 6>=>pv 7>=>cX<*jC<*(@aK _ _ _ _ _ _ _ au (pv 4) ak (fun _ _=>rfl)>=>aj)>=>pv 8>=>aj)>=>aj))))
   aL<|>@bM _ _ _ _ _ _ _ _ (aG dU (pv 5) aJ (aO _))
   (~~~(@aH _ _ _ _ (@f9 _ _ _ _ _ (pv 5>=>@bO _ _ _ _ (pv 6>=>pv 7>=>pv 8>=>aj)>=>aj))))
   aL<|>@bM _ _ _ _ _ _ _ _ (aG dU (pv 5) aJ (aO _))
   (~~~(@aH _ _ _ _ (@f9 _ _ _ _ _ (pv 5>=>@bO _ _ _ _ (pv 6>=>pv 7>=>aj)>=>aj))))
   aL<|>@bM _ _ _ _ _ _ _ _ (aG dU (pv 5) aJ (aO _))
   (~~~(@aH _ _ _ _ (@f9 _ _ _ _ _ (pv 5>=>@bO _ _ _ _ (pv 6>=>pv 7>=>pv 9>=>aj)>=>aj))))
   aL<|>(~~~(@aH _ _ _ _ (@f9 _ _ _ _ _ (pv 5>=>@bO _ _ _ _ aj>=>aj))))))))),?_⟩
 have O:=Ow.refl tk
 have hol:(((os.map V.str).length:Nat):Int)=(os.length:Int):=by rw [abW]
 have hbl:(((bs.map V.int).length:Nat):Int)=(bs.length:Int):=by rw [abW]
 refine ⟨_,rfl,c,9,rfl,by decide,tk,O.Y9 fun lx H1 us O e1=>?_⟩
 obtain ⟨xs,rfl,hxl,hxb⟩:=e1
 have g:∀ k:Nat,k<9->xs[k]?=some (xs.getD k 0)/\0<=xs.getD k 0/\xs.getD k 0<600011003:=fun k hk=>by
  have e:=jf (ns:=xs) (k:=k) (by omega)
  exact ⟨e,hxb _ (adp e)⟩
 refine ⟨szl,fun l1 h1=>?_⟩
 walk_at "nw"
 have w0:=adE (xs.getD 0 0) (show (9:Int)≠0 by decide)
 have w1:=ady (xs.getD 0 0) (show (0:Int)<9 by decide)
 obtain ⟨wd,hwd,hw⟩:=YZ w0 w1
 refine ⟨_,rfl,lx,_,0,_,rfl,rfl,O.sq 1,bY (i:=0) (g 0 (by decide)).1,_,_,rfl,rfl,(by show (0:Int)<9;decide),l1,_,_,_,rfl,rfl,O.sq 0,hwd,?_⟩
 have O:Ow T H Hn [(lx,.lst (xs.map V.int))]:=O.tail
 have mx:∀ k:Nat,0<(if (k:Int)>1 then (k:Int) else 1):=fun k=>by split <;>omega
 have n0:=adE (xs.getD 1 0) (show (if ((os.length:Nat):Int)>1 then (os.length:Int) else 1)≠0 by have:=mx os.length;omega)
 have n1:=ady (xs.getD 1 0) (mx os.length)
 refine ⟨_,rfl,lx,_,1,_,rfl,rfl,O.sq 0,bY (i:=1) (g 1 (by decide)).1,_,rfl,lo,_,rfl,.inl (O.same.seq hO),_,_,rfl,_,_,rfl,rfl,(by rw [hol];exact mx os.length),?_⟩
 dsimp only
 rw [hol]
 refine ⟨fun σ H'=>Iv (∃ (z:Int),σ=[some (.int c),some (.ref lo),some (.ref lp),some (.ref lb),some (.ref lx),some (.str wd),some (.int z),none,none,none,none]/\0<=z/\z<10000000000000/\Ow T H H' [(lx,.lst (xs.map V.int))]),?_,?_⟩
 ·refine ⟨_,rfl,lx,_,2,_,rfl,rfl,O.sq 0,bY (i:=2) (g 2 (by decide)).1,_,_,rfl,rfl,(by show (0:Int)<6;decide),rfl,_,rfl,ifI (fun _=>?_) (fun _=>⟨trivial,_,rfl,n0,?_,O⟩)⟩
  ·refine ⟨_,rfl,lo,_,rfl,.inl (O.same.seq hO),_,rfl,lo,_,rfl,.inl (O.same.seq hO),_,_,rfl,rfl,_,rfl,lx,_,1,_,rfl,rfl,O.sq 0,bY (i:=1) (g 1 (by decide)).1,_,_,rfl,rfl,.inl ⟨by have:=(g 1 (by decide)).2;omega,by have:=(g 1 (by decide)).2;omega⟩,_,_,rfl,rfl,⟨by decide,by decide,by decide⟩,_,_,rfl,rfl,(by show (0:Int)<(10:Int) ^ (13:Int).toNat;decide),szl,fun l2 h2=>?_⟩
   walk_at "nw"
   have k0:=adE (xs.getD 2 0 / 6) (show (3:Int)≠0 by decide)
   have k1:=ady (xs.getD 2 0 / 6) (show (0:Int)<3 by decide)
   have e0:=adE (xs.getD 1 0*731428571) (show (10:Int) ^ (13:Int).toNat≠0 by decide)
   have e1:=ady (xs.getD 1 0*731428571) (show (0:Int)<(10:Int) ^ (13:Int).toNat by decide)
   have e13:(10:Int) ^ (13:Int).toNat=10000000000000:=by decide
   rw [hol] at O
   have hb:∀ z∈[(os.length:Int),(os.length:Int)+1,xs.getD 1 0*731428571 % (10:Int) ^ (13:Int).toNat],0<=z/\z<10000000000000:=by
    intro z hz
    simp only [adt,adZ,or_false] at hz
    rcases hz with rfl| rfl| rfl
    ·omega
    ·omega
    ·rw [e13] at e0 e1 ⊢;exact ⟨e0,e1⟩
   have hz:=hb _ (adp (jf (ns:=[(os.length:Int),(os.length:Int)+1,xs.getD 1 0*731428571 % (10:Int) ^ (13:Int).toNat]) (k:=(xs.getD 2 0 / 6 % 3).toNat) (by show _<3;omega)))
   exact ⟨_,rfl,lx,_,2,_,rfl,rfl,O.sq 1,bY (i:=2) (g 2 (by decide)).1,_,_,rfl,rfl,⟨by decide,by decide⟩,_,_,rfl,rfl,(by show (0:Int)<3;decide),l2,_,_,_,rfl,rfl,O.sq 0,gk (ns:=[(os.length:Int),(os.length:Int)+1,xs.getD 1 0*731428571 % (10:Int) ^ (13:Int).toNat]) k0 (by show _<(3:Int);omega),trivial,_,rfl,hz.1,hz.2,O.tail⟩
  ·have:(if ((os.length:Nat):Int)>1 then (os.length:Int) else 1)<=60:=by split <;>omega
   omega
 clear O
 rintro σ H2 ⟨-,z,rfl,z0,z1,O⟩
 have i0:=adE (xs.getD 3 0 / 6) (show (3:Int)≠0 by decide)
 have i1:=ady (xs.getD 3 0 / 6) (show (0:Int)<3 by decide)
 have j0:=adE (xs.getD 4 0) (show (3:Int)≠0 by decide)
 have j1:=ady (xs.getD 4 0) (show (0:Int)<3 by decide)
 refine ⟨_,rfl,_,rfl,lx,_,3,_,rfl,rfl,O.sq 0,bY (i:=3) (g 3 (by decide)).1,_,_,rfl,rfl,⟨by decide,by decide⟩,_,_,rfl,rfl,(by show (0:Int)<3;decide),lp,_,_,_,rfl,rfl,O.same.seq hP,qd i0 (by omega),?_⟩
 refine ⟨fun σ H'=>Iv (∃ (y:Str),σ=[some (.int c),some (.ref lo),some (.ref lp),some (.ref lb),some (.ref lx),some (.str wd),some (.int z),some (.str y),none,none,none]/\bI y/\Ow T H H' [(lx,.lst (xs.map V.int))]),?_,?_⟩
 ·have no:=(⟨trivial,_,rfl,hpn _ (getD_mem' i0 (by omega)),O⟩:Iv (∃ (y:Str),[some (V.int c),some (.ref lo),some (.ref lp),some (.ref lb),some (.ref lx),some (.str wd),some (.int z),some (.str (pp.getD (xs.getD 3 0 / 6 % 3).toNat "")),none,none,none]=[some (.int c),some (.ref lo),some (.ref lp),some (.ref lb),some (.ref lx),some (.str wd),some (.int z),some (.str y),none,none,none]/\bI y/\Ow T H H2 [(lx,.lst (xs.map V.int))]))
  refine ⟨_,rfl,lx,_,3,_,rfl,rfl,O.sq 0,bY (i:=3) (g 3 (by decide)).1,_,_,rfl,rfl,(by show (0:Int)<6;decide),_,_,rfl,rfl,_,rfl,ifD (fun _=>?_) (fun _=>lR no)⟩
  refine ⟨_,rfl,_,rfl,lo,_,rfl,.inl (O.same.seq hO),_,_,rfl,rfl,_,rfl,ifD (fun hlt=>?_) (fun _=>no)⟩
  rw [hol] at hlt
  exact ⟨_,rfl,_,rfl,lo,_,_,_,rfl,rfl,O.same.seq hO,qd z0 hlt,trivial,_,rfl,hon _ (getD_mem' z0 hlt),O⟩
 clear O
 rintro σ H3 ⟨-,y,rfl,hy,O⟩
 have r0:=adE (xs.getD 5 0) (show (bs.length:Int)≠0 by omega)
 have r1:=ady (xs.getD 5 0) (show (0:Int)<(bs.length:Int) by omega)
 have hto:=hpn _ (getD_mem' (ns:=pp) j0 (by omega))
 refine ⟨_,rfl,_,rfl,lx,_,4,_,rfl,rfl,O.sq 0,bY (i:=4) (g 4 (by decide)).1,_,_,rfl,rfl,(by show (0:Int)<3;decide),lp,_,_,_,rfl,rfl,O.same.seq hP,qd j0 (by omega),?_⟩
 refine ⟨_,rfl,lx,_,5,_,rfl,rfl,O.sq 0,bY (i:=5) (g 5 (by decide)).1,_,rfl,lb,_,rfl,.inl (O.same.seq hB),_,_,rfl,rfl,(by rw [hbl];omega),?_⟩
 dsimp only
 rw [hbl]
 generalize pp.getD (xs.getD 4 0 % 3).toNat ""=to at hto
 generalize hre:xs.getD 5 0 % (bs.length:Int)=re at r0 r1
 have g6:=(g 6 (by decide)).2
 have g7:=(g 7 (by decide)).2
 have g8:=(g 8 (by decide)).2
 rcases hw with rfl| rfl| rfl| rfl| rfl| rfl| rfl
 ·refine ⟨_,rfl,rfl,_,rfl,j7 ⟨_,rfl,_,rfl,_,rfl,lx,_,6,_,rfl,rfl,O.sq 0,bY (i:=6) (g 6 (by decide)).1,_,rfl,g6.1,g6.2,O.same.t1,fun am H4 a0 a1 s4=>⟨szl,fun lt hlt=>?_⟩⟩⟩
  have O:=O.jB s4
  walk_at "nw"
  refine ⟨fun σ H'=>Iv (∃ (bb:Option Int),σ=[some (.int c),some (.ref lo),some (.ref lp),some (.ref lb),some (.ref lx),some (.str "file"),some (.int z),some (.str y),some (.str to),some (.int re),some (.ref lt)]/\(∀ b,bb=some b->0<=b/\b<(bs.length:Int))/\Ow T H H' [(lt,.lst (kY (.file to re am bb))),(lx,.lst (xs.map V.int))]),?_,?_⟩
  ·refine ⟨_,rfl,lx,_,7,_,rfl,rfl,O.sq 1,bY (i:=7) (g 7 (by decide)).1,_,_,rfl,rfl,(by show (0:Int)<3;decide),rfl,_,rfl,ifI (fun _=>?_) (fun _=>⟨trivial,none,rfl,(fun b hb=>nomatch hb),O⟩)⟩
   obtain ⟨rk,hrk⟩:=adD r0
   have hbr:bs[rk]?=some (bs.getD rk 0):=jf (by omega)
   have c0:=adE (bs.getD rk 0) (show (bs.length:Int)≠0 by omega)
   have c1:=ady (bs.getD rk 0) (show (0:Int)<(bs.length:Int) by omega)
   have d0:=adE (xs.getD 8 0) (show (bs.length:Int)≠0 by omega)
   have d1:=ady (xs.getD 8 0) (show (0:Int)<(bs.length:Int) by omega)
   refine ⟨_,rfl,.inl ⟨rfl,_,O.sq 0⟩,_,rfl,_,rfl,lb,_,_,_,rfl,rfl,O.same.seq hB,(by rw [hrk];exact bY hbr),_,rfl,lb,_,rfl,.inl (O.same.seq hB),_,_,rfl,rfl,(by rw [hbl];omega),_,rfl,lx,_,8,_,rfl,rfl,O.sq 1,bY (i:=8) (g 8 (by decide)).1,_,rfl,lb,_,rfl,.inl (O.same.seq hB),_,_,rfl,rfl,(by rw [hbl];omega),szl,fun l3 h3=>?_⟩
   walk_at "nw"
   rw [hbl] at O
   have k0:=adE (xs.getD 7 0 / 3) (show (2:Int)≠0 by decide)
   have k1:=ady (xs.getD 7 0 / 3) (show (0:Int)<2 by decide)
   have hb:∀ z∈[bs.getD rk 0 % (bs.length:Int),xs.getD 8 0 % (bs.length:Int)],0<=z/\z<(bs.length:Int):=by
    intro z hz
    simp only [adt,adZ,or_false] at hz
    rcases hz with rfl| rfl
    ·exact ⟨c0,c1⟩
    ·exact ⟨d0,d1⟩
   have hz:=hb _ (adp (jf (ns:=[bs.getD rk 0 % (bs.length:Int),xs.getD 8 0 % (bs.length:Int)]) (k:=(xs.getD 7 0 / 3 % 2).toNat) (by show _<2;omega)))
   refine ⟨_,rfl,lx,_,7,_,rfl,rfl,O.sq 2,bY (i:=7) (g 7 (by decide)).1,_,_,rfl,rfl,⟨by decide,by decide⟩,_,_,rfl,rfl,(by show (0:Int)<2;decide),l3,_,_,_,rfl,rfl,O.sq 0,gk (ns:=[bs.getD rk 0 % (bs.length:Int),xs.getD 8 0 % (bs.length:Int)]) k0 (by show _<(2:Int);omega),?_⟩
   generalize List.getD [bs.getD rk 0 % (bs.length:Int),xs.getD 8 0 % (bs.length:Int)] (xs.getD 7 0 / 3 % 2).toNat 0=bz at hz ⊢
   refine ⟨lt,_,_,rfl,rfl,O.get 1,aQ (by show 3<=100000;decide),?_⟩
   generalize hE:upd _ _ _=Hm
   have O:=Ow.uQ O 1 rfl hE rfl
   exact ⟨trivial,some bz,rfl,(fun b hb=>by cases hb;exact hz),O.tail⟩
  clear O
  rintro σ H5 ⟨-,bb,rfl,hbb,O⟩
  refine ⟨_,rfl,_,rfl,szl,fun t ht=>?_⟩
  walk_at "nw"
  exact q (.file to re am bb) t lt _ ⟨hto,r0,r1,a0,a1,hbb⟩ (O.sub (.cons₂ _ (.cons₂ _ (aea _))))
 ·refine ⟨_,rfl,rfl,_,rfl,xg rfl ⟨_,rfl,rfl,_,rfl,xg rfl ⟨_,rfl,rfl,_,rfl,xg rfl ⟨_,rfl,rfl,_,rfl,j7 ⟨_,rfl,_,rfl,_,rfl,_,rfl,szl,fun lt hlt=>?_⟩⟩⟩⟩⟩
  walk_at "nw"
  refine ⟨szl,fun t ht=>?_⟩
  walk_at "nw"
  exact q (.sell z y to) t lt _ ⟨z0,z1,hy,hto⟩ (O.sub (.cons₂ _ (.cons₂ _ (aea _))))
 ·refine ⟨_,rfl,rfl,_,rfl,xg rfl ⟨_,rfl,rfl,_,rfl,xg rfl ⟨_,rfl,rfl,_,rfl,xg rfl ⟨_,rfl,rfl,_,rfl,xg rfl ⟨_,rfl,rfl,_,rfl,j7 ⟨_,rfl,_,rfl,_,rfl,szl,fun lt hlt=>?_⟩⟩⟩⟩⟩⟩
  walk_at "nw"
  refine ⟨szl,fun t ht=>?_⟩
  walk_at "nw"
  exact q (.drop z y) t lt _ ⟨z0,z1,hy⟩ (O.sub (.cons₂ _ (.cons₂ _ (aea _))))
 ·refine ⟨_,rfl,rfl,_,rfl,xg rfl ⟨_,rfl,rfl,_,rfl,xg rfl ⟨_,rfl,rfl,_,rfl,xg rfl ⟨_,rfl,rfl,_,rfl,xg rfl ⟨_,rfl,rfl,_,rfl,xg rfl ⟨_,rfl,rfl,_,rfl,j7 ⟨_,rfl,_,rfl,_,rfl,_,rfl,szl,fun lt hlt=>?_⟩⟩⟩⟩⟩⟩⟩
  walk_at "nw"
  refine ⟨szl,fun t ht=>?_⟩
  walk_at "nw"
  exact q (.move z y re) t lt _ ⟨z0,z1,hy,r0,r1⟩ (O.sub (.cons₂ _ (.cons₂ _ (aea _))))
 ·refine ⟨_,rfl,rfl,_,rfl,xg rfl ⟨_,rfl,rfl,_,rfl,xg rfl ⟨_,rfl,rfl,_,rfl,j7 ⟨_,rfl,_,rfl,_,rfl,_,rfl,lx,_,6,_,rfl,rfl,O.sq 0,bY (i:=6) (g 6 (by decide)).1,_,rfl,g6.1,g6.2,O.same.t1,fun am H4 a0 a1 s4=>⟨_,rfl,szl,fun lt hlt=>?_⟩⟩⟩⟩⟩
  have O:=O.jB s4
  walk_at "nw"
  refine ⟨szl,fun t ht=>?_⟩
  walk_at "nw"
  exact q (.part z y am to) t lt _ ⟨z0,z1,hy,a0,a1,hto⟩ (O.sub (.cons₂ _ (.cons₂ _ (aea _))))
 ·have l0:=adE (xs.getD 7 0 / 2) (show (1100:Int)≠0 by decide)
  have l1:=ady (xs.getD 7 0 / 2) (show (0:Int)<1100 by decide)
  refine ⟨_,rfl,rfl,_,rfl,xg rfl ⟨_,rfl,rfl,_,rfl,j7 ⟨_,rfl,_,rfl,_,rfl,_,rfl,lx,_,6,_,rfl,rfl,O.sq 0,bY (i:=6) (g 6 (by decide)).1,_,rfl,g6.1,g6.2,O.same.t1,fun am H4 a0 a1 s4=>?_⟩⟩⟩
  have O:=O.jB s4
  refine ⟨_,rfl,lx,_,7,_,rfl,rfl,O.sq 0,bY (i:=7) (g 7 (by decide)).1,_,_,rfl,rfl,⟨by decide,by decide⟩,_,_,rfl,rfl,(by show (0:Int)<1100;decide),szl,fun l3 h3=>?_⟩
  walk_at "nw"
  have fin:∀ (bb:Option Int)(lt:Addr)(Hm:Hp),(∀ b,bb=some b->0<=b/\b<10000000000000)->Ow T H Hm ((lt,.lst (kY (.pond z y am bb)))::[(l3,.lst [.int z,.str y,.int am,.int (xs.getD 7 0 / 2 % 1100)]),(lx,.lst (xs.map V.int))])->2<=sizeLine/\∀ t,Hm t=none->Q (.ref t) (upd Hm t (.tup [.str "pond",.ref lt])):=fun bb lt Hm hb O=>⟨szl,fun t ht=>q (.pond z y am bb) t lt _ ⟨z0,z1,hy,a0,a1,hb⟩ ((O.mk' ht (o:=.tup [.str "pond",.ref lt]) rfl).sub (.cons₂ _ (.cons₂ _ (aea _))))⟩
  have m01:xs.getD 7 0 % 2=0\/xs.getD 7 0 % 2=1:=by omega
  rcases m01 with e| e
  ·refine ⟨_,rfl,lx,_,7,_,rfl,rfl,O.sq 1,bY (i:=7) (g 7 (by decide)).1,_,_,rfl,rfl,(by show (0:Int)<2;decide),_,_,rfl,rfl,((3:Nat):Int),by rw [e];rfl,l3,_,rfl,O.sq 0,fun lt hlt=>?_⟩
   walk_at "nw"
   rw [xP] at O
   exact fin none lt _ (fun b hb=>nomatch hb) O
  ·refine ⟨_,rfl,lx,_,7,_,rfl,rfl,O.sq 1,bY (i:=7) (g 7 (by decide)).1,_,_,rfl,rfl,(by show (0:Int)<2;decide),_,_,rfl,rfl,((4:Nat):Int),by rw [e];rfl,l3,_,rfl,O.sq 0,fun lt hlt=>?_⟩
   walk_at "nw"
   rw [xP] at O
   exact fin (some (xs.getD 7 0 / 2 % 1100)) lt _ (fun b hb=>by cases hb;omega) O
 ·refine ⟨_,rfl,rfl,_,rfl,xg rfl ⟨_,rfl,rfl,_,rfl,xg rfl ⟨_,rfl,rfl,_,rfl,xg rfl ⟨_,rfl,rfl,_,rfl,xg rfl ⟨_,rfl,rfl,_,rfl,xg rfl ⟨_,rfl,rfl,_,rfl,xg rfl ⟨_,rfl,szl,fun lt hlt=>?_⟩⟩⟩⟩⟩⟩⟩
  walk_at "nw"
  refine ⟨szl,fun t ht=>?_⟩
  walk_at "nw"
  exact q .turn t lt _ trivial (O.sub (.cons₂ _ (.cons₂ _ (aea _))))
def Bb (ns:List Str):Dd->List Str
 | .file x st a none=>[x,ns.getD st.toNat "",gb a]
 | .file x st a (some b)=>[x,ns.getD st.toNat "",gb a,ns.getD b.toNat ""]
 | .sell n y z=>[gb n,y,z]
 | .part n y a z=>[gb n,y,gb a,z]
 | .drop n y=>[gb n,y]
 | .move n y st=>[gb n,y,ns.getD st.toNat ""]
 | .pond n y a none=>[gb n,y,gb a]
 | .pond n y a (some b)=>[gb n,y,gb a,gb b]
 | .turn=>[]
def Cp (d:Dd)(i:Nat):Bool:=match Ng d with
 | 0=>i ==1|| i ==3
 | 4=>i ==2
 | _=>false
theorem iV (h:bI x):x.length<=100:=by have:=h.2.1;show x.cps.size<=100;omega
variable {d:Dd}
theorem Pn (hn:∀ x∈ns,bI x)(hd:K1 ns.length d){v:V}(h:(kY d)[i]?=some v):∃ x,(Bb ns d)[i]?=some x/\x.length<=100/\(Cp d i=true/\(∃ j:Nat,v=.int (j:Int)/\ns[j]?=some x)\/Cp d i=false/\okV v/\ZR v=some x):=by
 have tx:∀ {x:Str},bI x->x.length<=100/\okV (.str x)/\ZR (.str x)=some x:=fun hx=>⟨iV hx,(by show _<=sizeLine;have:=iV hx;rw [sizeLine_eq];omega),rfl⟩;have nm:∀ {n:Int},0<=n->n<10000000000000->(gb n).length<=100/\okV (.int n)/\ZR (.int n)=some (gb n):=fun h0 h1=>⟨by have:=(mY h0 (Int.lt_trans h1 (by decide))).2.1;omega,wW h0 (Int.lt_trans h1 (by decide)),rfl⟩;have rc:∀ {z:Int},0<=z->z<(ns.length:Int)->(ns.getD z.toNat "").length<=100/\∃ j:Nat,V.int z=.int (j:Int)/\ns[j]?=some (ns.getD z.toNat ""):=fun {z} h0 h1=>by
  obtain ⟨j,rfl⟩:=adD h0;rw [adN];exact ⟨iV (hn _ (adp (getD_at' (by omega)))),j,rfl,getD_at' (by omega)⟩
 cases d with
 | file x st a b =>
  obtain ⟨hx,s0,s1,a0,a1,hb⟩:=hd;cases b with
  | none =>
   rcases i with _| _| _| i
   ·cases h;exact ⟨_,rfl,(tx hx).1,.inr ⟨rfl,(tx hx).2⟩⟩
   ·cases h;exact ⟨_,rfl,(rc s0 s1).1,.inl ⟨rfl,(rc s0 s1).2⟩⟩
   ·cases h;exact ⟨_,rfl,(nm a0 a1).1,.inr ⟨rfl,(nm a0 a1).2⟩⟩
   ·cases h
  | some b =>
   have hb:=hb b rfl;rcases i with _| _| _| _| i
   ·cases h;exact ⟨_,rfl,(tx hx).1,.inr ⟨rfl,(tx hx).2⟩⟩
   ·cases h;exact ⟨_,rfl,(rc s0 s1).1,.inl ⟨rfl,(rc s0 s1).2⟩⟩
   ·cases h;exact ⟨_,rfl,(nm a0 a1).1,.inr ⟨rfl,(nm a0 a1).2⟩⟩
   ·cases h;exact ⟨_,rfl,(rc hb.1 hb.2).1,.inl ⟨rfl,(rc hb.1 hb.2).2⟩⟩
   ·cases h
 | sell n y z =>
  obtain ⟨n0,n1,hy,hz⟩:=hd;rcases i with _| _| _| i
  ·cases h;exact ⟨_,rfl,(nm n0 n1).1,.inr ⟨rfl,(nm n0 n1).2⟩⟩
  ·cases h;exact ⟨_,rfl,(tx hy).1,.inr ⟨rfl,(tx hy).2⟩⟩
  ·cases h;exact ⟨_,rfl,(tx hz).1,.inr ⟨rfl,(tx hz).2⟩⟩
  ·cases h
 | part n y a z =>
  obtain ⟨n0,n1,hy,a0,a1,hz⟩:=hd;rcases i with _| _| _| _| i
  ·cases h;exact ⟨_,rfl,(nm n0 n1).1,.inr ⟨rfl,(nm n0 n1).2⟩⟩
  ·cases h;exact ⟨_,rfl,(tx hy).1,.inr ⟨rfl,(tx hy).2⟩⟩
  ·cases h;exact ⟨_,rfl,(nm a0 a1).1,.inr ⟨rfl,(nm a0 a1).2⟩⟩
  ·cases h;exact ⟨_,rfl,(tx hz).1,.inr ⟨rfl,(tx hz).2⟩⟩
  ·cases h
 | drop n y =>
  obtain ⟨n0,n1,hy⟩:=hd;rcases i with _| _| i
  ·cases h;exact ⟨_,rfl,(nm n0 n1).1,.inr ⟨rfl,(nm n0 n1).2⟩⟩
  ·cases h;exact ⟨_,rfl,(tx hy).1,.inr ⟨rfl,(tx hy).2⟩⟩
  ·cases h
 | move n y st =>
  obtain ⟨n0,n1,hy,s0,s1⟩:=hd;rcases i with _| _| _| i
  ·cases h;exact ⟨_,rfl,(nm n0 n1).1,.inr ⟨rfl,(nm n0 n1).2⟩⟩
  ·cases h;exact ⟨_,rfl,(tx hy).1,.inr ⟨rfl,(tx hy).2⟩⟩
  ·cases h;exact ⟨_,rfl,(rc s0 s1).1,.inl ⟨rfl,(rc s0 s1).2⟩⟩
  ·cases h
 | pond n y a b =>
  obtain ⟨n0,n1,hy,a0,a1,hb⟩:=hd;cases b with
  | none =>
   rcases i with _| _| _| i
   ·cases h;exact ⟨_,rfl,(nm n0 n1).1,.inr ⟨rfl,(nm n0 n1).2⟩⟩
   ·cases h;exact ⟨_,rfl,(tx hy).1,.inr ⟨rfl,(tx hy).2⟩⟩
   ·cases h;exact ⟨_,rfl,(nm a0 a1).1,.inr ⟨rfl,(nm a0 a1).2⟩⟩
   ·cases h
  | some b =>
   have hb:=hb b rfl;rcases i with _| _| _| _| i
   ·cases h;exact ⟨_,rfl,(nm n0 n1).1,.inr ⟨rfl,(nm n0 n1).2⟩⟩
   ·cases h;exact ⟨_,rfl,(tx hy).1,.inr ⟨rfl,(tx hy).2⟩⟩
   ·cases h;exact ⟨_,rfl,(nm a0 a1).1,.inr ⟨rfl,(nm a0 a1).2⟩⟩
   ·cases h;exact ⟨_,rfl,(nm hb.1 hb.2).1,.inr ⟨rfl,(nm hb.1 hb.2).2⟩⟩
   ·cases h
 | turn=>cases h
theorem Ef (ns:List Str)(d:Dd):(Bb ns d).length=(kY d).length/\(kY d).length<=4:=by
 cases d with
 | file x st a b=>cases b <;>exact ⟨rfl,ad7 rfl⟩
 | pond n y a b=>cases b <;>exact ⟨rfl,ad7 rfl⟩
 | _=>exact ⟨rfl,ad7 rfl⟩
theorem aa9 {c:TT}{a b:TS} {Dq σ H} (r:Bool) (I:Hp->Prop) (hc:∀ Kq:Bool->Hp->Prop,(∀ Hm,I Hm->Kq r Hm)->c σ H Kq) (ha:∀ Hm,I Hm->if r=true then a Dq σ Hm else b Dq σ Hm):KN c a b Dq σ H:=hc _ ha
abbrev uO:Stmt:=top 148
theorem lY:aF ["word","things","names","words","k","thing"] ["word","things","names"] (ao uO):=by walk_at "sc"
inductive Oz (K:Fa)(T:d8)(vs:Fs)(H:Hp)(Q:VK)(E:XK):Prop
 | mk (d:Dd)(lt ln:Addr)(ns:List Str)(_:vs=[.str (j6 d),.ref lt,.ref ln])(_:SqL K H lt (kY d))(_:SqL K H ln (ns.map V.str))(_:(∀ x∈ns,bI x))(_:K1 ns.length d)(_:TabsOk T H)(_:∀ H',aM T H H'->Q (.str (Str.join (" ":Str) (j6 d::Bb ns d))) H')
variable {u6:Addr}{vo:Ff}(gP:Df K mg "_law_row" uO ["word","things","names"] u6 vo)
include gP in
theorem aaF (B:Blt mg):(CX0|||1) u6 vo ["word","things","names"] (Oz K T):=by
 refine gP.F.ok lY ?_ ?_
 walk_at "i"
 obtain ⟨d,lt,ln,ns,rfl,hL,hN,hn,hd,tk,q⟩:=h
 refine ⟨_,(3<$>lY<$>(@bO _ _ _ _ (pv 0>=>aj))<|>nY ad3 rfl (Cq rfl B.enumerate (pv 1>=>aj)) (uo rfl (aZ (4>>lY) (aZ (5>>lY) jo)))
   (~~~(@bM _ _ _ _ _ _ _ _ (PW.pt (pw_or (PW.pt (pw_and (aG dU (pv 0) aJ (aO _)) (pw_and1 (aG ur (pv 4) (@f9 _ _ _ _ _ (ak>=>ak>=>aj)) (by rfl))))) (pw_or1 (PW.pt (pw_and (aG dU (pv 0) aJ (aO _)) (pw_and1 (aG dU (pv 4) ak (aO _))))))))
    (~~~(bf (je adz adA adB bK (pv 3) (@aK _ _ _ _ _ _ _ au (pv 2) (pv 5) (fun _ _=>rfl)>=>aj))))
    (~~~(bf (je adz adA adB bK (pv 3) (bJ Kr rfl B.str ad0 (pv 5>=>aj)>=>aj))))))<|>(~~~(@aH _ _ _ _ (je ael aez aeA wU aJ (pv 3>=>aj))))),?_⟩
 have O:=Ow.refl tk
 obtain ⟨hrl,hr4⟩:=Ef ns d
 refine ⟨_,rfl,szl,fun lw hlw=>?_⟩
 walk_at "nw"
 refine ⟨_,rfl,lt,_,rfl,O.same.seq hL,?_⟩
 refine Fd (K:=K) (xs:=kY d) (fun i σ H'=>Iv (∃ (v4 v5:Option V),σ=[some (.str (j6 d)),some (.ref lt),some (.ref ln),some (.ref lw),v4,v5]/\Ow T H H' [(lw,.lst ((j6 d::(Bb ns d).take i).map V.str))])) ⟨trivial,none,none,rfl,O⟩ (fun _ _ _ _ ⟨_,_,_,_,O⟩=>O.same.seq hL) ?_ ?_
 ·clear O
  rintro i v T0 σ H3 hv ⟨-,v4,v5,rfl,O⟩ hT0
  have hi:=(adl.mp hv).1
  obtain ⟨x,hx,hxl,hcs⟩:=Pn hn hd hv
  walk_at "nw"
  refine ⟨T0,_,rfl,O.sqT 0,rfl,_,_,rfl,_,_,rfl,rfl,?_⟩
  have tk1:((j6 d::(Bb ns d).take i).map V.str)++[V.str x]=(j6 d::(Bb ns d).take (i+1)).map V.str:=by rw [List.take_succ,hx];simp
  have sl:((j6 d::(Bb ns d).take i).map V.str).length<sizeLine:=aQ (by rw [abW,adF,adU];omega)
  have hi4:i<4:=by omega
  refine aa9 (Cp d i) (fun Hm=>Ow T H Hm [(lw,.lst ((j6 d::(Bb ns d).take i).map V.str))]) (fun Kq k=>?_) (fun Hm _=>?_)
  ·replace O:=O.tail
   have ne:∀ {x y:Str}{A B:Prop},(x ==y)=false->B->if decide (V.str x=V.str y)=true then A else B:=fun h b=>xg h b
   cases d with
   | file x st a b =>
    refine ⟨_,rfl,rfl,_,rfl,j7 ⟨_,rfl,szl,fun p hp=>?_⟩⟩
    walk_at "nw"
    have k:=k _ O.tail
    rcases i with _| _| _| _| i
    ·refine ⟨p,_,rfl,.inr (O.sqT 0),rfl,rfl,_,rfl,?_⟩
     refine ifF rfl ?_
     exact ⟨_,rfl,rfl,_,rfl,ne rfl k⟩
    ·refine ⟨p,_,rfl,.inr (O.sqT 0),rfl,rfl,_,rfl,?_⟩
     exact ifT rfl k
    ·refine ⟨p,_,rfl,.inr (O.sqT 0),rfl,rfl,_,rfl,?_⟩
     refine ifF rfl ?_
     exact ⟨_,rfl,rfl,_,rfl,ne rfl k⟩
    ·refine ⟨p,_,rfl,.inr (O.sqT 0),rfl,rfl,_,rfl,?_⟩
     exact ifT rfl k
    ·omega
   | move n y st =>
    refine ⟨_,rfl,rfl,_,rfl,ne rfl ⟨_,rfl,rfl,_,rfl,j7 ⟨_,rfl,rfl,_,rfl,?_⟩⟩⟩
    have k:=k _ O
    rcases i with _| _| _| _| i
    ·exact k
    ·exact k
    ·exact k
    ·exact k
    ·omega
   | _=>exact ⟨_,rfl,rfl,_,rfl,ne rfl ⟨_,rfl,rfl,_,rfl,ne rfl (k _ O)⟩⟩
  ·clear O;rename_i O
   have fin:∀ Hk,upd Hm lw (.lst (((j6 d::(Bb ns d).take i).map V.str)++[V.str x]))=Hk->Ow T H Hk [(lw,.lst ((j6 d::(Bb ns d).take (i+1)).map V.str))]:=fun Hk hE=>by
    have O:=Ow.uQ O 0 rfl hE rfl
    rw [tk1] at O;exact O
   rcases hcs with ⟨hr,j,rfl,hj⟩ | ⟨hr,ok,tx⟩
   ·rw [hr]
    exact j7 ⟨_,rfl,.inl ⟨rfl,_,O.sq 0⟩,_,rfl,_,rfl,ln,_,_,_,rfl,rfl,O.same.seq hN,dN (by rw [adC,hj];rfl),lw,_,_,rfl,rfl,O.get 0,sl,trivial,_,_,rfl,fin _ rfl⟩
   ·rw [hr]
    exact lR ⟨_,rfl,.inl ⟨rfl,_,O.sq 0⟩,_,rfl,_,_,rfl,ok,tx,lw,_,_,rfl,rfl,O.get 0,sl,trivial,_,_,rfl,fin _ rfl⟩
 ·clear O
  rintro σ H3 ⟨-,v4,v5,rfl,O⟩
  rw [<- hrl,aev] at O
  have hs:((j6 d::Bb ns d).map (·.length)).sum<=100*(j6 d::Bb ns d).length:=Aa fun x hx=>?_
  ·refine ⟨rfl,_,rfl,(" "),lw,j6 d::Bb ns d,rfl,rfl,O.sq 0,?_,?_⟩
   ·rw [adF] at hs ⊢
    show _+_*1<=100000
    omega
   ·rw [qp]
    exact q _ O.same
  ·rcases adt.mp hx with rfl| hx
   ·cases d <;>exact ad7 rfl
   ·obtain ⟨i,hi⟩:=adT.mp hx
    have hi2:=(adl.mp hi).1
    rw [hrl] at hi2
    obtain ⟨y,hy,hyl,_⟩:=Pn hn hd (ada (l:=kY d) hi2)
    rw [hi] at hy;cases hy;exact hyl
def wD:Dd->List Str
 | .file ..=>["arn","arnr"]
 | .sell ..=>["naa"]
 | .part ..=>["nana"]
 | .drop ..=>["na"]
 | .move ..=>["nar"]
 | .pond ..=>["nan","nann"]
 | .turn=>[""]
def shC:Dd->Fn
 | .file _ _ _ none=>[97,114,110]
 | .file _ _ _ (some _)=>[97,114,110,114]
 | .sell ..=>[110,97,97]
 | .part ..=>[110,97,110,97]
 | .drop ..=>[110,97]
 | .move ..=>[110,97,114]
 | .pond _ _ _ none=>[110,97,110]
 | .pond _ _ _ (some _)=>[110,97,110,110]
 | .turn=>[]
def shJ:Dd->Nat
 | .file _ _ _ (some _)=>1
 | .pond _ _ _ (some _)=>1
 | _=>0
structure DT (K:Fa)(T:d8)(C CD:Addr)(e:Er)(kA kB kN:List (Key × V))(AT:List (Addr × Sp)):Prop where
 row:∀ d:Dd,∃ t f,yP kB (.inr (j6 d))=some (.ref t)/\(∀ H,SqT K H t ((wD d).map V.str))/\yP kN (.inr (j6 d))=some (.ref f)/\(f,jw K T C CD e (Ng d))∈AT
 rea:∃ t f,yP kA (.inr ("reach":Str))=some (.ref t)/\(∀ H,SqT K H t ([("a":Str),"aw"].map V.str))/\yP kN (.inr ("reach":Str))=some (.ref f)/\(f,yS K T CD)∈AT
 beg:∃ t f,yP kA (.inr ("begin":Str))=some (.ref t)/\(∀ H,SqT K H t ([("":Str)].map V.str))/\yP kN (.inr ("begin":Str))=some (.ref f)/\(f,yU K T C CD e.c)∈AT
 rol:∃ t f,yP kB (.inr ("roll":Str))=some (.ref t)/\(∀ H,SqT K H t ([("n":Str)].map V.str))/\yP kN (.inr ("roll":Str))=some (.ref f)/\(f,yR K T C CD e.c)∈AT
theorem cD (h:bI x):Asc x:=by
 refine ⟨?_,by have:=h.2.1;omega⟩;rw [Array.all_eq_true'];intro c hc;have:=h.2.2 c (Array.mem_toList_iff.mpr hc);simp;omega
theorem wR (h:bI x):32 ∉ x.cps.toList/\x≠("":Str)/\x.length<=100:=
 ⟨fun hc=>by have:=h.2.2 _ hc;omega,fun e=>by have:=h.1;rw [e] at this;exact absurd this (by decide),iV h⟩
theorem aaQ (h0:0<=n)(h1:n<10000000000000):32 ∉ (gb n).cps.toList/\gb n≠("":Str)/\(gb n).length<=100:=by
 obtain ⟨d,-⟩:=Ij h0 (Int.lt_of_lt_of_le h1 (by decide));obtain ⟨d1,d2,d3,-⟩:=d;refine ⟨fun hc=>?_,fun e=>?_,by omega⟩
 ·have:=d3 _ hc;omega
 ·rw [e] at d1;exact absurd d1 (by decide)
theorem fX (h0:0<=n)(h1:n<10000000000000):xR ns 110 (gb n) (.int n):=by
 obtain ⟨d,e⟩:=Ij h0 (Int.lt_of_lt_of_le h1 (by decide));have:=xR.num (ns:=ns) (x:=gb n) (fun c hc=>by have:=d.2.2.1 c hc;omega) (by have:=d.2.1;omega) d;rw [e] at this;exact this
theorem wg (hnd:ns.Nodup){z:Int}(h0:0<=z)(h1:z<(ns.length:Int)):xR ns 114 (ns.getD z.toNat "") (.int z):=by
 obtain ⟨j,rfl⟩:=adD h0;rw [adN];have hj:=getD_at' (xs:=ns) (k:=j) (by omega);refine .rea hj fun m hm e=>?_;have:=(aeY (i:=m) (j:=j) (by omega) hnd).mp (by rw [hj,e]);omega
theorem Dt (hnd:ns.Nodup)(hd:K1 ns.length d)(i c:Nat)(x:Str)(v:V)(h1:(shC d)[i]?=some c)(h2:(Bb ns d)[i]?=some x)(h3:(kY d)[i]?=some v):xR ns c x v:=by
 cases d with
 | file x st a b =>
  obtain ⟨hx,s0,s1,a0,a1,hb⟩:=hd;cases b with
  | none =>
   rcases i with _| _| _| i
   ·cases h1;cases h2;cases h3;exact .nam (cD hx) hx
   ·cases h1;cases h2;cases h3;exact wg hnd s0 s1
   ·cases h1;cases h2;cases h3;exact fX a0 a1
   ·cases h1
  | some b =>
   have hb:=hb b rfl;rcases i with _| _| _| _| i
   ·cases h1;cases h2;cases h3;exact .nam (cD hx) hx
   ·cases h1;cases h2;cases h3;exact wg hnd s0 s1
   ·cases h1;cases h2;cases h3;exact fX a0 a1
   ·cases h1;cases h2;cases h3;exact wg hnd hb.1 hb.2
   ·cases h1
 | sell n y z =>
  obtain ⟨n0,n1,hy,hz⟩:=hd;rcases i with _| _| _| i
  ·cases h1;cases h2;cases h3;exact fX n0 n1
  ·cases h1;cases h2;cases h3;exact .nam (cD hy) hy
  ·cases h1;cases h2;cases h3;exact .nam (cD hz) hz
  ·cases h1
 | part n y a z =>
  obtain ⟨n0,n1,hy,a0,a1,hz⟩:=hd;rcases i with _| _| _| _| i
  ·cases h1;cases h2;cases h3;exact fX n0 n1
  ·cases h1;cases h2;cases h3;exact .nam (cD hy) hy
  ·cases h1;cases h2;cases h3;exact fX a0 a1
  ·cases h1;cases h2;cases h3;exact .nam (cD hz) hz
  ·cases h1
 | drop n y =>
  obtain ⟨n0,n1,hy⟩:=hd;rcases i with _| _| i
  ·cases h1;cases h2;cases h3;exact fX n0 n1
  ·cases h1;cases h2;cases h3;exact .nam (cD hy) hy
  ·cases h1
 | move n y st =>
  obtain ⟨n0,n1,hy,s0,s1⟩:=hd;rcases i with _| _| _| i
  ·cases h1;cases h2;cases h3;exact fX n0 n1
  ·cases h1;cases h2;cases h3;exact .nam (cD hy) hy
  ·cases h1;cases h2;cases h3;exact wg hnd s0 s1
  ·cases h1
 | pond n y a b =>
  obtain ⟨n0,n1,hy,a0,a1,hb⟩:=hd;cases b with
  | none =>
   rcases i with _| _| _| i
   ·cases h1;cases h2;cases h3;exact fX n0 n1
   ·cases h1;cases h2;cases h3;exact .nam (cD hy) hy
   ·cases h1;cases h2;cases h3;exact fX a0 a1
   ·cases h1
  | some b =>
   have hb:=hb b rfl;rcases i with _| _| _| _| i
   ·cases h1;cases h2;cases h3;exact fX n0 n1
   ·cases h1;cases h2;cases h3;exact .nam (cD hy) hy
   ·cases h1;cases h2;cases h3;exact fX a0 a1
   ·cases h1;cases h2;cases h3;exact fX hb.1 hb.2
   ·cases h1
 | turn=>cases h1
theorem Yj {c:Nat}{v:V}(hn:∀ x∈ns,bI x)(h:xR ns c x v)(hc:c≠119):32 ∉ x.cps.toList/\x≠("":Str)/\x.length<=100:=by
 cases h with
 | num a l h =>
  obtain ⟨d1,d2,d3,-⟩:=h;refine ⟨fun hc=>?_,fun e=>?_,by omega⟩
  ·have:=d3 _ hc;omega
  ·rw [e] at d1;exact absurd d1 (by decide)
 | nam a h=>exact wR h
 | rea h _=>exact wR (hn _ (adp h))
 | oth=>exact absurd rfl hc
abbrev acS:List (Fn):=[[97,114,110],[97,114,110,114],[110,97,97],[110,97,110,97],[110,97],[110,97,114],[110,97,110],[110,97,110,110],[]]
abbrev Od:List Str:=["file","sell","part","drop","move","pond","turn"]
abbrev Hh:List (List Str):=[["arn","arnr"],["naa"],["nana"],["na"],["nar"],["nan","nann"],[""]]
theorem inDs (d:Dd):∃ i:Fin 7,Od[i.val]?=some (j6 d)/\Hh[i.val]?=some (wD d):=by
 cases d with
 | file=>exact ⟨0,rfl,rfl⟩
 | sell=>exact ⟨1,rfl,rfl⟩
 | part=>exact ⟨2,rfl,rfl⟩
 | drop=>exact ⟨3,rfl,rfl⟩
 | move=>exact ⟨4,rfl,rfl⟩
 | pond=>exact ⟨5,rfl,rfl⟩
 | turn=>exact ⟨6,rfl,rfl⟩
theorem inCs (ns:List Str)(d:Dd):(shC d).length=(Bb ns d).length/\∃ i:Fin 9,acS[i.val]?=some (shC d):=by
 cases d with
 | file x st a b=>cases b with
  | none=>exact ⟨rfl,0,rfl⟩
  | some b=>exact ⟨rfl,1,rfl⟩
 | sell=>exact ⟨rfl,2,rfl⟩
 | part=>exact ⟨rfl,3,rfl⟩
 | drop=>exact ⟨rfl,4,rfl⟩
 | move=>exact ⟨rfl,5,rfl⟩
 | pond x st a b=>cases b with
  | none=>exact ⟨rfl,6,rfl⟩
  | some b=>exact ⟨rfl,7,rfl⟩
 | turn=>exact ⟨rfl,8,rfl⟩
theorem Yw:∀ l∈acS,∀ c∈l,c≠119/\c<128:=by decide
theorem Gw:∀ x∈Od,32 ∉ x.cps.toList/\x≠("":Str)/\x.length<=100:=by decide
theorem FN:∀ l∈Hh,l.length<=10/\∀ y∈l,y.length<=100:=by decide
theorem shS (d:Dd):∃ sh:Str,(wD d)[shJ d]?=some sh/\sh.cps=(shC d).toArray/\(∀ (m:Nat)(y:Str),m<shJ d->(wD d)[m]?=some y->y.length≠(shC d).length):=by
 cases d with
 | file x st a b=>cases b with
  | none=>exact ⟨_,rfl,rfl,fun m y hm=>by cases hm⟩
  | some b=>exact ⟨_,rfl,rfl,fun m y hm hy=>by cases m with
   | zero=>cases hy;exact Nat.ne_of_beq_eq_false rfl
   | succ m=>exact absurd hm (by show ¬ m+1<1;omega)⟩
 | pond x st a b=>cases b with
  | none=>exact ⟨_,rfl,rfl,fun m y hm=>by cases hm⟩
  | some b=>exact ⟨_,rfl,rfl,fun m y hm hy=>by cases m with
   | zero=>cases hy;exact Nat.ne_of_beq_eq_false rfl
   | succ m=>exact absurd hm (by show ¬ m+1<1;omega)⟩
 | _=>exact ⟨_,rfl,rfl,fun m y hm=>by cases hm⟩
theorem Hr (dt:DT K T C CD e kA kB kN AT)(hn:∀ x∈ns,bI x)(hnd:ns.Nodup)(hd:K1 ns.length d)(H:Hp):Said K H kA kB kN AT ns (.ref b) (j6 d) (Bb ns d) (kY d) (jw K T C CD e (Ng d)):=by
 obtain ⟨t,f,hB,hT,hN,hA⟩:=dt.row d;obtain ⟨hl1,hl2⟩:=Ef ns d;obtain ⟨hc1,ic,hic⟩:=inCs ns d;have hc2:=Yw _ (adp hic);obtain ⟨iw,hiw,his⟩:=inDs d;have hw:=Gw _ (adp hiw);have hsh:=FN _ (adp his);obtain ⟨sh,hs,hsc,hsm⟩:=shS d;refine ⟨fun x hx=>?_,by omega,⟨t,wD d,shJ d,sh,.inr ⟨⟨_,rfl⟩,hB⟩,hT H,?_,?_,hs,?_,?_,?_,?_,?_⟩,f,hN,hA⟩
 ·rcases adt.mp hx with rfl| hx
  ·exact hw
  ·obtain ⟨i,hi⟩:=adT.mp hx;have hi2:=(adl.mp hi).1;have e1:=ada (l:=shC d) (i:=i) (by omega);have e3:=ada (l:=kY d) (i:=i) (by omega);exact Yj hn (Dt hnd hd i _ x _ e1 hi e3) (hc2 _ (adp e1)).1
 ·exact hsh.1
 ·exact hsh.2
 ·show sh.cps.size=_;rw [hsc,adH];exact hc1
 ·intro m y hm hy;rw [<- hc1];exact hsm m y hm hy
 ·rw [hsc,Array.all_eq_true'];intro c hc;have:=(hc2 c (List.mem_toArray.mp hc)).2;simp only [decide_eq_true_eq];exact this
 ·rw [hl1]
 ·intro i c x v h1 h2 h3;rw [hsc,List.getElem?_toArray] at h1;exact Dt hnd hd i c x v h1 h2 h3
theorem oF.wm {l:Lic}(h:oF r l)(h0:0<=m)(h1:m<=l.most):oF r (wm l m):=⟨⟨h.1.1,h.1.2.1,h.1.2.2.1,h.1.2.2.2.1,h0,Int.le_trans h1 h.1.2.2.2.2.2⟩,h.2⟩
theorem wz (h:S.zQ n y k=.ok S'):0<=n/\n<S.ls.length/\k=.ok S':=by
 unfold RS.zQ at h;split at h
 ·cases h
 ·rename_i h1
  split at h
  ·cases h
  ·have h1:=aes.mp h1;exact ⟨h1.1,h1.2,h⟩
theorem Yu {d:Fq}(h:step r S d=.ok S')(hd:∀ xs,d≠.lapse xs)(hl:∀ l∈S.ls,oF r l)(hn:∀ x∈S.ns,bI x):(∀ l∈S'.ls,oF r l)/\∀ x∈S'.ns,bI x:=by
 have ap:∀ {l2:Lic}{ls:List Lic},(∀ l∈ls,oF r l)->oF r l2->∀ l∈ls++[l2],oF r l:=fun h1 h2 l hl=>by
  rcases ad2.mp hl with z| z
  ·exact h1 l z
  ·rw [adK.mp z];exact h2
 have st:∀ {l2:Lic}{k:Nat},oF r l2->∀ l∈S.ls.set k l2,oF r l:=fun h2 l hl'=>by
  rcases aeG hl' with z| z
  ·exact hl l z
  ·rw [z];exact h2
 have an:∀ {z:Str},bI z->∀ x∈S.ns++[z],bI x:=fun h1 x hx=>by
  rcases ad2.mp hx with e| e
  ·exact hn x e
  ·rw [adK.mp e];exact h1
 have at_:∀ {n:Int},0<=n->n<S.ls.length->oF r (S.at_ n):=fun {n} h0 h1=>by
  unfold RS.at_;rw [adS,ada (by omega)];exact hl _ (List.getElem_mem _)
 cases d with
 | turn=>cases h;exact ⟨hl,hn⟩
 | file x s m b =>
  simp only [step] at h;split at h
  ·cases h
  ·rename_i h1
   split at h
   ·cases h
   ·rename_i h2
    split at h
    ·cases h
    ·cases h;exact ⟨ap hl (aes.mp fun z=>h2 (.inr z)),an (aes.mp h1)⟩
 | sell n y z =>
  obtain ⟨_,_,h⟩:=wz h;split at h
  ·cases h
  ·rename_i h1
   cases h;refine ⟨hl,fun x hx=>?_⟩;rcases aeG hx with e| e
   ·exact hn x e
   ·rw [e];exact aes.mp h1
 | part n y m z =>
  obtain ⟨h0,h1,h⟩:=wz h;have g:=at_ h0 h1;split at h
  ·cases h
  ·rename_i h3
   split at h
   ·cases h
   ·rename_i h2
    have h2:=aes.mp h2;split at h
    ·cases h
    ·split at h
     ·cases h
     ·cases h;exact ⟨ap (st (g.wm (by omega) (by omega))) (g.wm (by omega) (by omega)),an (aes.mp h3)⟩
 | drop n y =>
  obtain ⟨h0,h1,h⟩:=wz h;cases h;have g:=at_ h0 h1;exact ⟨st (g.wm (by decide) g.1.2.2.2.2.1),hn⟩
 | move n y s =>
  obtain ⟨h0,h1,h⟩:=wz h;split at h
  ·cases h
  ·rename_i h2
   cases h;exact ⟨st (aes.mp h2),hn⟩
 | lapse xs=>exact absurd rfl (hd xs)
variable {ps':List Pd}
theorem Bp {y':Str}(h:ofS e ps y k=.ok (S',ps',y')):k=.ok S':=by
 cases k with
 | ok S=>cases h;rfl
 | error k=>cases h
theorem Bq (h:ofS e ps y k=.error a):ErA e a:=by
 cases k with
 | ok S=>cases h
 | error k=>cases h;exact .inl ⟨_,rfl⟩
theorem Lw (h:zA e r S ps d=.ok (S',ps',y)):S'=S\/∃ dd,(∀ xs,dd≠.lapse xs)/\step r S dd=.ok S':=by
 cases d with
 | file x st m b=>exact .inr ⟨_,(fun _=>Fq.noConfusion),Bp h⟩
 | sell n y z=>exact .inr ⟨_,(fun _=>Fq.noConfusion),Bp h⟩
 | part n y m z=>exact .inr ⟨_,(fun _=>Fq.noConfusion),Bp h⟩
 | drop n y=>exact .inr ⟨_,(fun _=>Fq.noConfusion),Bp h⟩
 | turn=>exact .inr ⟨.turn,(fun _=>Fq.noConfusion),by first| exact Bp h| (cases h;rfl)⟩
 | move n y st =>
  simp only [zA] at h;split at h
  ·rename_i S1 hs
   split at h
   ·cases h
   ·cases h;exact .inr ⟨_,(fun _=>Fq.noConfusion),hs⟩
  ·cases h
 | pond n y m b =>
  simp only [zA] at h;split at h <;>cases h
  exact .inl rfl
theorem Pz (h:zA e r S ps d=.error a):ErA e a:=by
 cases d with
 | file x st m b=>exact Bq h
 | sell n y z=>exact Bq h
 | part n y m z=>exact Bq h
 | drop n y=>exact Bq h
 | turn=>first| exact Bq h| cases h
 | move n y st =>
  simp only [zA] at h;split at h
  ·split at h
   ·cases h;exact .inr (.inr rfl)
   ·cases h
  ·cases h;exact .inl ⟨_,rfl⟩
 | pond n y m b =>
  simp only [zA] at h;split at h
  ·cases h
  ·rename_i k _
   cases h;cases k with
   | pond=>exact .inr (.inl rfl)
   | number=>exact .inl ⟨.number,rfl⟩
   | yours=>exact .inl ⟨.yours,rfl⟩
structure SW (r:List Int)(S:RS)(i:Nat):Prop where
 rv:Rv.uy r
 r1:1<=r.length
 r8:r.length<=8
 nn:S.ns.length=S.ls.length
 l60:S.ls.length<=60
 dl:S.ds.length<=i
 lic:∀ l∈S.ls,oF r l
 nam:∀ x∈S.ns,bI x
theorem SW.rp (h:SW r S i)(hi:i<=9000)(Z:Bx):RP r (exB Z) S:=⟨h.rv,by have:=h.r8;omega,h.nn,h.l60,by have:=h.dl;omega,ad7 rfl,Xp Z⟩
theorem SW.out (h:SW r S i)(ho:zA e r S ps d=.ok (S',ps',y)):SW r S' (i+1):=by
 have hd:=h.dl;rcases Lw ho with rfl| ⟨dd,hx,hs⟩
 ·exact ⟨h.rv,h.r1,h.r8,h.nn,h.l60,by omega,h.lic,h.nam⟩
 ·obtain ⟨h1,h2,-⟩:=Le hs h.nn h.l60;obtain ⟨h3,h4⟩:=Yu hs hx h.lic h.nam;exact ⟨h.rv,h.r1,h.r8,h1,h2,by rw [Yv hs,adG];show _+1<=_;omega,h3,h4⟩
def PKB (K:Fa)(T:d8)(C:Addr)(A:Rs)(Z:Bx)(r:List Int)(H0:Hp)(S:RS)(ps:List Pd)(M:Fr):Prop:=∀ Hb H' B',aM T H0 Hb->Ow T Hb H' (M++B')->BS K T C A Z r Hb H' B' S ps
theorem PKB.mo {H1:Hp}{M:Fr}(h:PKB K T C A Z r H0 S ps M)(s:aM T H0 H1):PKB K T C A Z r H1 S ps M:=fun Hb H' B' sb O=>h Hb H' B' (s.trans sb) O
theorem BS.pack (h:BS K T C A Z r H0 H B S ps):∃ M,Ow T H0 H (M++B)/\PKB K T C A Z r H0 S ps M:=by
 obtain ⟨ks,us,⟨ls,vs,O,d0,d1⟩,dP,e1,e2⟩:=h;exact ⟨RX C A (exB Z) r S.day ls S.ns vs++BL Z [] [] ks us,by rw [aej];exact O,fun Hb H' B' sb O'=>⟨ks,us,⟨ls,vs,by rw [aej] at O';exact O',d0.mo sb,d1.mo sb⟩,dP.mo sb,e1,e2⟩⟩
theorem Ow.behind (X R Y Z:Fr)(O:Ow T H0 H (X++(R++(Y++Z)))):Ow T H0 H (R++(Y++(X++Z))):=(Ow.front X R (Y++Z) O).perm (aeo _ (aek Y X Z))
inductive TB (K:Fa)(T:d8)(C:Addr)(A1:Rs)(Z1:Bx)(A2:Rs)(Z2:Bx)(r:List Int)(H0 H:Hp)(X:Fr)(S1:RS)(ps1:List Pd)(S2:RS)(ps2:List Pd):Prop
 | mk (M1 M2:Fr)(_:Ow T H0 H (M1++(M2++X)))(_:PKB K T C A1 Z1 r H0 S1 ps1 M1)(_:PKB K T C A2 Z2 r H0 S2 ps2 M2)
section
variable {K:Fa}{T:d8}{C CD:Addr}{A1:Rs}{Z1:Bx}{A2:Rs}{Z2:Bx}{r:List Int}{H0 H H':Hp}{X Y:Fr}{S1:RS}{ps1:List Pd}{S2:RS}{ps2:List Pd}
theorem TB.add (h:TB K T C A1 Z1 A2 Z2 r H0 H X S1 ps1 S2 ps2)(O':Ow T H H' Y):TB K T C A1 Z1 A2 Z2 r H0 H' (Y++X) S1 ps1 S2 ps2:=by
 obtain ⟨M1,M2,O,k1,k2⟩:=h;exact ⟨M1,M2,Ow.behind Y _ _ _ (O.join O'),k1,k2⟩
theorem TB.go (h:TB K T C A1 Z1 A2 Z2 r H0 H X S1 ps1 S2 ps2)(s:aM T H H'):TB K T C A1 Z1 A2 Z2 r H0 H' X S1 ps1 S2 ps2:=by
 obtain ⟨M1,M2,O,k1,k2⟩:=h;exact ⟨M1,M2,O.jB s,k1,k2⟩
theorem TB.sub (h:TB K T C A1 Z1 A2 Z2 r H0 H X S1 ps1 S2 ps2)(s:Y.Sublist X):TB K T C A1 Z1 A2 Z2 r H0 H Y S1 ps1 S2 ps2:=by
 obtain ⟨M1,M2,O,k1,k2⟩:=h;exact ⟨M1,M2,O.sub ((adL _).append ((adL _).append s)),k1,k2⟩
theorem TB.at_ (h:TB K T C A1 Z1 A2 Z2 r H0 H X S1 ps1 S2 ps2):TabsOk T H/\∀ x∈X,H x.1=some x.2:=by
 obtain ⟨M1,M2,O,k1,k2⟩:=h;exact ⟨O.same.t1,fun x hx=>O.at_ _ (Mv _ (Mv _ hx))⟩
theorem TB.same (h:TB K T C A1 Z1 A2 Z2 r H0 H X S1 ps1 S2 ps2):aM T H0 H:=by
 obtain ⟨M1,M2,O,k1,k2⟩:=h;exact O.same
theorem TB.bs1 (h:TB K T C A1 Z1 A2 Z2 r H0 H X S1 ps1 S2 ps2):∃ M,BS K T C A1 Z1 r H0 H (M++X) S1 ps1:=by
 obtain ⟨M1,M2,O,k1,k2⟩:=h;exact ⟨M2,k1 _ _ _ (aM.refl O.same.t0) O⟩
theorem TB.bs2 (h:TB K T C A1 Z1 A2 Z2 r H0 H X S1 ps1 S2 ps2):∃ M,BS K T C A2 Z2 r H0 H (M++X) S2 ps2:=by
 obtain ⟨M1,M2,O,k1,k2⟩:=h;exact ⟨M1,k2 _ _ _ (aM.refl O.same.t0) (Ow.front _ _ _ O)⟩
end
theorem ZP {m:Nat}(h:K1 m d):acK d:=by
 cases d with
 | file=>exact cD h.1
 | sell=>exact ⟨cD h.2.2.1,cD h.2.2.2⟩
 | part=>exact ⟨cD h.2.2.1,cD h.2.2.2.2.2⟩
 | drop=>exact cD h.2.2
 | move=>exact cD h.2.2.1
 | pond=>exact cD h.2.2.1
 | turn=>trivial
section
variable {K:Fa}{T:d8}{C CD:Addr}{e:Er}{cl:List Addr}{kA kB kN:List (Key × V)}{AT:List (Addr × Sp)}{A1:Rs}{Z1:Bx}{A2:Rs}{Z2:Bx}{r:List Int}{H0 H:Hp}{X:Fr}{S1:RS}{ps1:List Pd}{S2:RS}{ps2:List Pd}{Q:VK}{E:XK}
theorem TB.say (h:TB K T C A1 Z1 A2 Z2 r H0 H X S1 ps1 S2 ps2)(dt:DT K T C CD e kA kB kN AT){ns:List Str}(hn:∀ x∈ns,bI x)(hnd:ns.Nodup){d:Dd}(hd:K1 ns.length d){Dq:Dk}(mD:(Dq.p,Ja CD Dq (.ref A1.p))∈X)(mN:(Dq.ln,HO.lst (ns.map V.str))∈X)(rp:RP r (exB Z1) S1)
  (qo:∀ S' ps' y,zA e r S1 ps1 d=.ok (S',ps',y)->∀ Hb H',aM T H0 Hb->TB K T C A1 Z1 A2 Z2 r Hb H' X S' ps' S2 ps2->Q (.str y) H')
  (qe:∀ a,zA e r S1 ps1 d=.error a->∀ l H',TB K T C A1 Z1 A2 Z2 r H0 H' ((l,.lst ((o8 K cl a).map V.bl))::X) S1 ps1 S2 ps2->Q (.ref l) H'):
  Gq K T e cl (qI K T CD kA kB kN AT) [.ref Dq.p,.str (Str.join (" ":Str) (j6 d::Bb ns d))] H Q E:=by
 intro Q' E' hq he
 have ha:=h.at_
 refine ⟨Dq,_,ns,_,_,_,_,rfl,ha.2 _ mD,ha.2 _ mN,Hr dt hn hnd hd H,ha.1,fun lt H1 O1=>?_⟩
 obtain ⟨M1,M2,O,k1,k2⟩:=h.add O1
 have sm:([(lt,HO.lst (kY d))]++X)=(lt,HO.lst (kY d))::X:=rfl
 refine ⟨A1,Z1,Dq,lt,H0,M2++([(lt,HO.lst (kY d))]++X),r,S1,ps1,d,rfl,rfl,k1 _ _ _ (aM.refl O.same.t0) O,rp,ZP hd,Mv _ (Mv _ mD),Mv _ (aeE _ (.head _)),⟨fun S' ps' y hs Hb H' sb bs=>?_,fun a hs x H' s' hx=>?_⟩⟩
 ·obtain ⟨M,O2,k⟩:=bs.pack
  exact hq _ _ (qo S' ps' y hs Hb H' sb ((TB.mk M M2 O2 k (k2.mo sb)).sub (aep _ _)))
 ·refine he _ _ _ ⟨a,x,rfl,rfl,Pz hs,s'.t1,hx,fun l H2 O2=>?_⟩
  exact qe a hs l H2 (((h.add O1).go s').add O2|>.sub (.cons₂ _ (.cons _ (adL _))))
theorem TB.give (h:TB K T C A1 Z1 A2 Z2 r H0 H X S1 ps1 S2 ps2){d:Dd}{m:Nat}(hd:K1 m d){lt:Addr}(mL:(lt,HO.lst (kY d))∈X)(rp:RP r (exB Z2) S2)
  (qo:∀ S' ps' y,zA e r S2 ps2 d=.ok (S',ps',y)->∀ Hb H',aM T H0 Hb->TB K T C A1 Z1 A2 Z2 r Hb H' X S1 ps1 S' ps'->Q (.str y) H')
  (qe:∀ a,zA e r S2 ps2 d=.error a->∀ l H',TB K T C A1 Z1 A2 Z2 r H0 H' ((l,.lst ((o8 K cl a).map V.bl))::X) S1 ps1 S2 ps2->Q (.ref l) H'):
  Gq K T e cl (Af K T C e) [.ref A2.p,.str (j6 d),.ref lt] H Q E:=by
 intro Q' E' hq he
 obtain ⟨M1,M2,O,k1,k2⟩:=id h
 refine ⟨A2,Z2,lt,H0,M1++X,r,S2,ps2,d,rfl,k2 _ _ _ (aM.refl O.same.t0) (Ow.front _ _ _ O),rp,ZP hd,Mv _ mL,⟨fun S' ps' y hs Hb H' sb bs=>?_,fun a hs x H' s' hx=>?_⟩⟩
 ·obtain ⟨M,O2,k⟩:=bs.pack
  exact hq _ _ (qo S' ps' y hs Hb H' sb (TB.mk M1 M (Ow.front _ _ _ O2) (k1.mo sb) k))
 ·refine he _ _ _ ⟨a,x,rfl,rfl,Pz hs,s'.t1,hx,fun l H2 O2=>?_⟩
  exact qe a hs l H2 ((h.go s').add O2)
end
theorem eO.bls:∀ bs:List Bool,eO K H (bs.map V.bl) (bs.map PyData.bool)
 | []=>.nil
 | b::bs=>.cons (.bl b) (eO.bls bs)
theorem Sh.bls (bs:List Bool):Sh 1 (.list (bs.map PyData.bool)):=.list fun d hd=>by
 obtain ⟨b,_,rfl⟩:=adW.mp hd;exact ⟨rfl,by simp [PyData.depth]⟩
def rNeU (K:Fa):R2:=fun x y H Q=>rNe x y H Q\/ach K true x y H Q
theorem PB {X:Cx}(hu:X.A.units+64<cLine):OpR X (compareOp .NotEq) (rNeU X.K):=by
 intro pins s σ H x y v u Q I rx ry h;rcases h with h| h
 ·exact yj pins s σ H x y v u Q I rx ry h
 ·exact aap hu pins s σ H x y v u Q I rx ry h
theorem Li (n:Int):(("roll ":Str)++gb n)=Str.join (" ":Str) [("roll":Str),gb n]:=by
 apply Ca;rw [vJ];simp only [iR,adR,List.map_nil,J];rw [show ("roll ":Str).cps.toList=[114,111,108,108,32] from rfl,show ("roll":Str).cps.toList=[114,111,108,108] from rfl];rfl
theorem Hq (dt:DT K T C CD e kA kB kN AT){n:Nat}(hn:n<=100)(H:Hp):Said K H kA kB kN AT ns (.ref b) ("roll":Str) [gb (n:Int)] [.int (n:Int)] (yR K T C CD e.c):=by
 obtain ⟨t,f,hB,hT,hN,hA⟩:=dt.rol;have w:=aaQ (n:=(n:Int)) (by omega) (by omega);refine ⟨fun x hx=>?_,ad7 rfl,⟨t,[("n":Str)],0,("n":Str),.inr ⟨⟨_,rfl⟩,hB⟩,hT H,by decide,by decide,rfl,rfl,(fun m y hm=>absurd hm (Nat.not_lt_zero _)),by decide+kernel,rfl,fun i c x v h1 h2 h3=>?_⟩,f,hN,hA⟩
 ·rcases adt.mp hx with rfl| hx
  ·decide
  ·rw [adK.mp hx];exact w
 ·cases i with
  | zero=>cases h1;cases h2;cases h3;exact fX (by omega) (by omega)
  | succ i=>cases h2
section
variable {K:Fa}{T:d8}{C CD:Addr}{e:Er}{cl:List Addr}{kA kB kN:List (Key × V)}{AT:List (Addr × Sp)}{A1:Rs}{Z1:Bx}{A2:Rs}{Z2:Bx}{r:List Int}{H0 H:Hp}{X:Fr}{S1:RS}{ps1:List Pd}{S2:RS}{ps2:List Pd}{Q:VK}{E:XK}
theorem oF.rng {l:Lic}(h:oF r l)(hr:Rv.uy r):l.back=-1\/0<=l.back/\l.back<(r.length:Int):=by
 rcases h.2 with h1| h1
 ·exact .inl h1
 ·exact .inr (Rv.K6 hr _ h.1.2.2.1 h.1.2.2.2.1 _ (List.mem_of_mem_drop h1))
theorem TB.rol (h:TB K T C A1 Z1 A2 Z2 r H0 H X S1 ps1 S2 ps2)(dt:DT K T C CD e kA kB kN AT){ns:List Str}(hn:∀ x∈ns,bI x)(hl:ns.length=r.length){n i:Nat}(hnn:n<=100){Dq:Dk}(mD:(Dq.p,Ja CD Dq (.ref A1.p))∈X)(mN:(Dq.ln,HO.lst (ns.map V.str))∈X)(sw:SW r S1 i)
  (qe:S1.ls.length<=n->∀ l H',TB K T C A1 Z1 A2 Z2 r H0 H' ((l,.lst ((o8 K cl e.c.number).map V.bl))::X) S1 ps1 S2 ps2->Q (.ref l) H')
  (qo:∀ l y,S1.ls[n]?=some l->S1.ns[n]?=some y->∀ H',TB K T C A1 Z1 A2 Z2 r H0 H' X S1 ps1 S2 ps2->Q (.str (FW y l.day (ns.getD l.start.toNat "") (if l.back=-1 then "-" else ns.getD l.back.toNat "") l.most)) H'):
  Gq K T e cl (qI K T CD kA kB kN AT) [.ref Dq.p,.str (Str.join (" ":Str) [("roll":Str),gb (n:Int)])] H Q E:=by
 intro Q' E' hq he
 have ha:=h.at_
 refine ⟨Dq,_,ns,_,_,_,_,rfl,ha.2 _ mD,ha.2 _ mN,Hq dt hnn H,ha.1,fun lt H1 O1=>?_⟩
 have h1:=h.add O1
 obtain ⟨M,bs⟩:=h1.bs1
 refine ⟨A1,Z1,Dq,lt,H0,M++([(lt,HO.lst [.int (n:Int)])]++X),r,S1,ps1,ns,n,rfl,bs,sw.l60,sw.nn,Mv _ (Mv _ mD),Mv _ (Mv _ mN),Mv _ (aeE _ (.head _)),fun x hx=>iV (hn x hx),fun x hx=>iV (sw.nam x hx),fun l hl'=>?_,fun hge x H' s' hx=>?_,fun l y e1 e2 H' s'=>?_⟩
 ·have g:=sw.lic l hl'
  have g2:=g.rng sw.rv
  obtain ⟨⟨a1,a2,a3,a4,a5,a6⟩,-⟩:=g
  rw [hl]
  exact ⟨a3,a4,g2,a1,ad9 a2 (by decide),a5,ad9 a6 (by decide)⟩
 ·refine he _ _ _ ⟨_,x,rfl,rfl,.inl ⟨.number,rfl⟩,s'.t1,hx,fun l H2 O2=>?_⟩
  exact qe hge l H2 ((h1.go s').add O2|>.sub (.cons₂ _ (.cons _ (adL _))))
 ·exact hq _ _ (qo l y e1 e2 H' ((h1.go s').sub (.cons _ (adL _))))
end
theorem aag {p:V}{E:XK}(h:x=y)(k:SP [p,.str y] H Q E):SP [p,.str x] H Q E:=by rw [h];exact k
abbrev fW:Stmt:=top 149
theorem bC:aF ["desk","book","names","number","lines","found","day","start","back","most","there"] ["desk","book","names","number"] (ao fW):=by walk_at "sc"
inductive OD (K:Fa)(T:d8)(C CD:Addr)(vs:Fs)(H:Hp)(Q:VK)(E:XK):Prop
 | mk (A1:Rs)(Z1:Bx)(A2:Rs)(Z2:Bx)(Dq:Dk)(lm:Addr)(H0:Hp)(X:Fr)(r:List Int)(S:RS)(ps:List Pd)(ns:List Str)(n i:Nat)(_:vs=[.ref Dq.p,.ref A2.p,.ref lm,.int (n:Int)])(_:TB K T C A1 Z1 A2 Z2 r H0 H X S ps S ps)(_:SW r S i)(_:(Dq.p,Ja CD Dq (.ref A1.p))∈X)(_:(Dq.ln,HO.lst (ns.map V.str))∈X)(_:(lm,HO.lst (ns.map V.str))∈X)(_:(∀ x∈ns,bI x))(_:ns.length=r.length)(_:n<=100)(_:∀ H',TB K T C A1 Z1 A2 Z2 r H0 H' X S ps S ps->Q (.bl true) H')
variable (fJ:(CX0|||14) rP sU ["desk","row"] (Gq K T e cl (qI K T CD kA kB kN AT)))
variable {iM:Addr}{iQ:Ff}(bF:Df K mg "_law_line_right" fW ["desk","book","names","number"] iM iQ)
include bB aV aU gC eV bR fJ bF in
theorem aaG (B:Blt mg)(dt:DT K T C CD e kA kB kN AT)(TT:vL K e cl cS):(CX0|||15) iM iQ ["desk","book","names","number"] (OD K T C CD):=by
 refine bF.F.ok bC ?_ ?_
 walk_at "i"
 obtain ⟨A1,Z1,A2,Z2,Dq,lm,H0,X,r,S,ps,ns,n,i,rfl,tb,sw,mD,mN,mM,hn,hnl,hn100,q⟩:=h
 have hu:=hr.units
 refine ⟨_,(4<$>bC<$>(iz (pv 1) aU.c bB.m gC hr.m bB.b .nil oZ)<|>5<$>bC<$>(bR<*fJ<*(pv 0>=>@aW _ _ _ _ _ _ _ _ uU aJ (bJ dJ rfl B.str ad0 (pv 3>=>aj))>=>aj))<|>@bM _ _ _ _ _ _ _ _ (aG Cr (pv 3) (aD aC rfl B.len adx (pv 4>=>aj)) (aO _))
   (~~~(@aH _ _ _ _ (iI (HW hu) (pv 5) (jH (ao fW) rfl ["desk","book","names","number","lines","found","day","start","back","most","there"] rfl ["k"] [none] (by decide+kernel) (by decide+kernel) (by decide+kernel) rfl (iy rfl B.range (ak>=>aj)) (fun _ _ _=>(dR (i:=0) (show (["k"]:List Str).Nodup by decide+kernel) rfl (Or.inl rfl))) (fun _ _ _=>jl) (fun _ _ _=>(iI dU (pv 0) ak (aO _)))) (aO _))))
   aL<|>qM (@aK _ _ _ _ _ _ _ au (pv 4) (pv 3) (fun _ _=>rfl)) (uo rfl (aZ (6>>bC) (aZ (7>>bC) (aZ (8>>bC) (aZ (9>>bC) jo)))))<|>10<$>bC<$>aJ<|>(jG (@bM _ _ _ _ _ _ _ _ (aG yj (pv 8) (@HN _ _ _ _ _ _ zZ ak) (aO _))
   (~~~(10<$>bC<$>(@aK _ _ _ _ _ _ _ au (pv 2) (pv 8) (fun _ _=>rfl))))
   aL)
  (~~~(@aH _ _ _ _ (iI dU (pv 5) (je ael aez aeA wU aJ (@bO _ _ _ _ (@aK _ _ _ _ _ _ _ au (iz (pv 1) aU.c aV.m eV hr.m aV.b .nil oZ) (pv 3) (fun _ _=>rfl)>=>bJ dJ rfl B.str ad0 (pv 6>=>aj)>=>@aK _ _ _ _ _ _ _ au (pv 2) (pv 7) (fun _ _=>rfl)>=>pv 10>=>bJ dJ rfl B.str ad0 (pv 9>=>aj)>=>aj)>=>aj)) (aO _)))))),?_⟩
 obtain ⟨M,⟨ks,us,⟨ls,vs0,OA,d0,d1⟩,dP,hkl,hp10⟩⟩:=tb.bs2
 have hll:ls.length=S.ls.length:=by rw [d0.length,abW]
 refine ⟨_,rfl,A2.p,A2.dx,_,rfl,OA.get 0,rfl,A2.p,A2.dx,A2.ll,_,ls,rfl,OA.get 0,rfl,OA.sq 3,fun lr hlr=>?_⟩
 have O:=(Ow.refl tb.at_.1).mk' hlr (o:=.lst ls) rfl
 have tb:=tb.add O
 generalize upd H lr _=H1 at tb
 clear O OA
 refine ⟨_,rfl,_,rfl,_,rfl,wW (Int.natCast_nonneg n) (ad9 (show (n:Int)<=100 by omega) (by decide)),_,_,rfl,rfl,?_,?_⟩
 ·have:=(mY (n:=(n:Int)) (Int.natCast_nonneg n) (ad9 (show (n:Int)<=100 by omega) (by decide))).2.1
  show 5+(gb n).length<=sizeLine
  rw [sizeLine_eq];omega
 refine aag (SP:=Gq K T e cl (qI K T CD kA kB kN AT)) (E:=E0) (Li (n:Int)) ?_
 refine tb.rol dt hn hnl hn100 (.tail _ mD) (.tail _ mN) sw (fun hge l H2 tb=>?_) (fun l y hl hy H2 tb=>?_)
 ·have hat:=tb.at_.2
  refine ⟨_,rfl,_,rfl,lr,_,rfl,.inl (SqL.of (hat _ (.tail _ (.head _)))),_,_,rfl,rfl,_,rfl,ifD (fun _=>?_) (fun z=>absurd ?_ z)⟩
  ·refine ⟨_,rfl,?_⟩
   refine ⟨_,rfl,by decide,by decide,fun lq hlq=>?_⟩
   have OQ:=(Ow.refl tb.at_.1).mk' hlq (o:=.lst []) rfl
   refine qt (lo:=0) (n:=14) (fun i τ H'=>Iv (∃ v0,τ=[v0]/\Ow T H2 H' [(lq,.lst (((List.range i).map fun j=>decide (j=6)).map V.bl))])) ⟨trivial,none,rfl,OQ⟩ ?_ ?_
   ·rintro i τ H5 hi ⟨-,v0,rfl,O⟩
    refine K3 ?_
    refine ⟨_,rfl,rfl,?_⟩
    have ed:decide (V.int ((0:Int)+(i:Int))=V.int 6)=decide (i=6):=by
     rw [zK]
     by_cases c:i=6
     ·subst c;rfl
     ·rw [decide_eq_false c];exact beq_eq_false_iff_ne.mpr (by omega)
    refine ⟨_,O.get 0,aQ (by rw [abW,abW,aeD];omega),?_⟩
    walk_at "pt"
    refine ⟨trivial,_,rfl,?_⟩
    rw [List.range_succ,adw,adw];rw [ed] at O;exact O
   ·rintro τ H5 ⟨-,v0,rfl,O⟩
    have tb:=tb.add O
    have hat:=tb.at_.2
    have sh:=Sh.bls ((List.range 14).map fun j=>decide (j=6))
    refine ⟨_,_,Den.list (SqL.of (hat _ (.tail _ (.head _)))) (by rw [TT.nm];exact eO.bls _),Den.list (SqL.of (hat _ (.head _))) (eO.bls _),sh.ok (by decide),sh.ok (by decide),?_⟩
    rw [if_neg adv,wk sh]
    exact q _ (tb.sub (.cons _ (.cons _ (.cons _ (adL _)))))
  ·rw [hll];omega
 ·have hat:=tb.at_.2
  have hk:=(adl.mp hl).1
  refine ⟨_,rfl,_,rfl,lr,_,rfl,.inl (SqL.of (hat _ (.head _))),_,_,rfl,rfl,_,rfl,ifD (fun z=>?_) (fun _=>?_)⟩
  ·exact absurd z (by rw [hll];omega)
  obtain ⟨al,hal,hT⟩:=d0.vH hl
  have g:=sw.lic l (adp hl)
  have hbk:=g.rng sw.rv
  obtain ⟨⟨a1,a2,s0,s1,m0,m1⟩,-⟩:=g
  have strsZ:∀ {z:Int},0<=z->z<(r.length:Int)->atI (ns.map V.str) z=some (V.str (ns.getD z.toNat "")):=fun h0 h1=>qd h0 (by rw [hnl];exact h1)
  refine ⟨_,rfl,_,rfl,lr,_,_,_,rfl,rfl,SqL.of (hat _ (.head _)),dN hal,al,_,rfl,hT.mo tb.same,rfl,_,_,rfl,_,_,rfl,_,_,rfl,_,_,rfl,rfl,?_⟩
  refine ⟨fun σ H'=>Iv (σ=[some (.ref Dq.p),some (.ref A2.p),some (.ref lm),some (.int (n:Int)),some (.ref lr),some (.str (FW y l.day (ns.getD l.start.toNat "") (if l.back=-1 then "-" else ns.getD l.back.toNat "") l.most)),some (.int l.day),some (.int l.start),some (.int l.back),some (.int l.most),some (.str (if l.back=-1 then "-" else ns.getD l.back.toNat ""))]/\H'=H2),?_,?_⟩
  ·refine ⟨_,rfl,_,rfl,rfl,_,rfl,?_⟩
   by_cases hb:l.back=-1
   ·rw [if_pos hb,hb]
    exact lR ⟨trivial,rfl,rfl⟩
   ·rw [if_neg hb]
    obtain ⟨b0,b1⟩:=hbk.resolve_left hb
    refine ifN (ifI (fun z=>absurd z hb) (fun _=>?_))
    exact ⟨_,rfl,_,rfl,lm,_,_,_,rfl,rfl,SqL.of (hat _ (.tail _ mM)),strsZ b0 b1,trivial,rfl,rfl⟩
  rintro σ H3 ⟨-,rfl,rfl⟩
  generalize hbn:(if l.back=-1 then ("-":Str) else ns.getD l.back.toNat "")=bn
  have lx:∀ {z:Int},0<=z->z<10000000000000->z.natAbs.log2<1920:=fun h0 h1=>wW h0 (Int.lt_trans h1 (by decide))
  obtain ⟨M3,⟨ks3,us3,⟨ls3,vs3,OA,e0,e1⟩,_,_,_⟩⟩:=tb.bs2
  refine ⟨_,rfl,rfl,_,rfl,A2.p,A2.dx,_,rfl,OA.get 0,rfl,A2.p,A2.dx,A2.ln,_,_,rfl,OA.get 0,rfl,OA.sq 4,fun lh hlh=>?_⟩
  have O:=(Ow.refl tb.at_.1).mk' hlh (o:=.lst (S.ns.map V.str)) rfl
  have tb:=tb.add O
  generalize upd H3 lh _=H4 at tb
  clear O OA hat
  have hat:=tb.at_.2
  refine ⟨_,rfl,lh,_,_,_,rfl,rfl,SqL.of (hat _ (.head _)),dN (v:=.str y) (by rw [adC,hy];rfl),_,rfl,_,rfl,lx a1 (by omega),_,rfl,_,rfl,lm,_,_,_,rfl,rfl,SqL.of (hat _ (.tail _ (.tail _ mM))),strsZ s0 s1,_,rfl,_,rfl,_,rfl,lx m0 (by omega),szl,fun lj hlj=>?_⟩
  have O:=(Ow.refl tb.at_.1).mk' hlj (o:=.lst ([y,gb l.day,ns.getD l.start.toNat "",bn,gb l.most].map V.str)) rfl
  have tb:=tb.add O
  have ly:=iV (sw.nam y (adp hy))
  have ld:=(mY (n:=l.day) a1 (ad9 a2 (by decide))).2.1
  have lmm:=(mY (n:=l.most) m0 (ad9 m1 (by decide))).2.1
  have lnn:∀ {z:Int},0<=z->z<(r.length:Int)->(ns.getD z.toNat "").length<=100:=fun h0 h1=>iV (hn _ (getD_mem' h0 (by rw [hnl];exact h1)))
  have lst:=lnn s0 s1
  have lbn:bn.length<=100:=by
   rw [<- hbn]
   split
   ·decide
   ·rename_i hb
    obtain ⟨b0,b1⟩:=hbk.resolve_left hb
    exact lnn b0 b1
  refine ⟨(" "),lj,[y,gb l.day,ns.getD l.start.toNat "",bn,gb l.most],rfl,rfl,O.sq 0,?_,rfl,?_⟩
  ·show y.length+((gb l.day).length+((ns.getD l.start.toNat "").length+(bn.length+((gb l.most).length+0))))+5*1<=100000
   omega
  ·rw [qp]
   rw [show decide (V.str (FW y l.day (ns.getD l.start.toNat "") bn l.most)=V.str (Str.join (" ":Str) [y,gb l.day,ns.getD l.start.toNat "",bn,gb l.most]))=true from decide_eq_true rfl]
   exact q _ (tb.sub (.cons _ (.cons _ (.cons _ (adL _)))))
theorem yE (dt:DT K T C CD e kA kB kN AT)(ns:List Str)(H:Hp):Said K H kA kB kN AT ns .non ("begin":Str) [] [] (yU K T C CD e.c):=by
 obtain ⟨t,f,hB,hT,hN,hA⟩:=dt.beg;refine ⟨fun x hx=>?_,adY _,⟨t,[("":Str)],0,("":Str),.inl ⟨rfl,hB⟩,hT H,by decide,by decide,rfl,rfl,(fun m y hm=>absurd hm (Nat.not_lt_zero _)),by decide+kernel,rfl,fun i c x v h1 h2 h3=>by cases h2⟩,f,hN,hA⟩;rw [adK.mp hx];decide
theorem FT (dt:DT K T C CD e kA kB kN AT)(ns:List Str){ys:List Str}(hx:bI x)(hy:ys=[]\/∃ y,ys=[y]/\bI y)(H:Hp):Said K H kA kB kN AT ns .non ("reach":Str) (x::ys) ((x::ys).map V.str) (yS K T CD):=by
 obtain ⟨t,f,hB,hT,hN,hA⟩:=dt.rea;have w0:32 ∉ ("reach":Str).cps.toList/\("reach":Str)≠("":Str)/\("reach":Str).length<=100:=by decide
 rcases hy with rfl| ⟨y,rfl,hy⟩
 ·refine ⟨fun z hz=>?_,ad7 rfl,⟨t,[("a":Str),"aw"],0,("a":Str),.inl ⟨rfl,hB⟩,hT H,by decide,by decide,rfl,rfl,(fun m y hm=>absurd hm (Nat.not_lt_zero _)),by decide+kernel,rfl,fun i c z v h1 h2 h3=>?_⟩,f,hN,hA⟩
  ·rcases adt.mp hz with rfl| hz
   ·exact w0
   ·rw [adK.mp hz];exact wR hx
  ·cases i with
   | zero=>cases h1;cases h2;cases h3;exact .nam (cD hx) hx
   | succ i=>cases h2
 ·refine ⟨fun z hz=>?_,ad7 rfl,⟨t,[("a":Str),"aw"],1,("aw":Str),.inl ⟨rfl,hB⟩,hT H,by decide,by decide,rfl,rfl,(fun m z hm hz=>?_),by decide+kernel,rfl,fun i c z v h1 h2 h3=>?_⟩,f,hN,hA⟩
  ·rcases adt.mp hz with rfl| hz
   ·exact w0
   ·rcases adt.mp hz with rfl| hz
    ·exact wR hx
    ·rw [adK.mp hz];exact wR hy
  ·cases m with
   | zero=>cases hz;exact Nat.ne_of_beq_eq_false rfl
   | succ m=>omega
  ·rcases i with _| _| i
   ·cases h1;cases h2;cases h3;exact .nam (cD hx) hx
   ·cases h1;cases h2;cases h3;exact .oth
   ·cases h2
section
variable {K:Fa}{T:d8}{C CD:Addr}{e:Er}{cl:List Addr}{kA kB kN:List (Key × V)}{AT:List (Addr × Sp)}{H0 H:Hp}{Y:Fr}{Q:VK}{E:XK}{Dq:Dk}
theorem Hl (dt:DT K T C CD e kA kB kN AT){ns:List Str}{bs:List Int}(O:Ow T H0 H (DX CD Dq .non ns bs++Y))(hl:ns.length<40)(hb:bs.length<40){x:Str}(hx:bI x)(hnx:x ∉ ns){ys:List Str}{b:Int}(h:ys=[]/\b=-1\/∃ (y:Str)(j:Nat),ys=[y]/\bI y/\ns[j]?=some y/\(∀ m,m<j->ns[m]?≠some y)/\b=(j:Int))
  (q:∀ H',Ow T H0 H' (DX CD Dq .non (ns++[x]) (bs++[b])++Y)->Q (.str "ok") H'):Gq K T e cl (qI K T CD kA kB kN AT) [.ref Dq.p,.str (Str.join (" ":Str) (("reach":Str)::x::ys))] H Q E:=by
 intro Q' E' hq he;refine ⟨Dq,_,ns,_,_,_,_,rfl,O.get 0,O.get 2,FT dt ns hx (h.imp (·.1) fun ⟨y,j,a,b,_⟩=>⟨y,a,b⟩) H,O.same.t1,fun lt H1 O1=>?_⟩;refine ⟨Dq,lt,H0,[(lt,.lst ((x::ys).map V.str))]++Y,ns,bs,x,(x::ys).map V.str,b,rfl,Ow.front _ _ _ (O.join O1),.head _,hnx,hl,hb,?_,fun H' O2=>hq _ _ (q H' (O2.sub ((adL _).append (.cons _ (adL _)))))⟩;rcases h with ⟨rfl,rfl⟩ | ⟨y,j,rfl,hy,h1,h2,rfl⟩
 ·exact .inl ⟨rfl,rfl⟩
 ·exact .inr ⟨y,j,rfl,h1,h2,rfl⟩
theorem Ho (dt:DT K T C CD e kA kB kN AT){ns:List Str}{bs:List Int}(O:Ow T H0 H (DX CD Dq .non ns bs++Y))(hb:bs.length<=900)(hR:Rv.isR bs=true)
  (q:∀ (A:Rs)(Z:Bx)(H':Hp),Ow T H0 H' (RX C A (exB Z) bs 0 [] [] []++(BL Z [] [] [] []++(DX CD Dq (.ref A.p) ns bs++Y)))->Q (.str "ok") H'):Gq K T e cl (qI K T CD kA kB kN AT) [.ref Dq.p,.str ("begin":Str)] H Q E:=by
 intro Q' E' hq he;refine ⟨Dq,_,ns,("begin":Str),[],_,_,by rfl,O.get 0,O.get 2,yE dt ns H,O.same.t1,fun lt H1 O1=>?_⟩;exact ⟨Dq,lt,H0,[(lt,.lst [])]++Y,ns,bs,rfl,Ow.front _ _ _ (O.join O1),hb,fun _ A Z H' _ O2=>hq _ _ (q A Z H' (O2.sub ((adL _).append ((adL _).append ((adL _).append (.cons _ (adL _))))))),fun h=>by rw [hR] at h;cases h⟩
theorem YB (dt:DT K T C CD e kA kB kN AT){X:Fr}{A1:Rs}{Z1:Bx}{A2:Rs}{Z2:Bx}{r:List Int}{S1:RS}{ps1:List Pd}{S2:RS}{ps2:List Pd}(tb:TB K T C A1 Z1 A2 Z2 r H0 H (DX CD Dq .non [] []++X) S1 ps1 S2 ps2)
  (q:∀ l H',(H' l=some (.lst ((o8 K cl e.c.river).map V.bl))/\TabsOk T H')->Q (.ref l) H'):Gq K T e cl (qI K T CD kA kB kN AT) [.ref Dq.p,.str ("begin":Str)] H Q E:=by
 intro Q' E' hq he;obtain ⟨M1,M2,O,-,-⟩:=tb;have O:Ow T H0 H (DX CD Dq .non [] []++X):=O.sub ((aep M2 _).trans (aep M1 _));refine ⟨Dq,_,[],("begin":Str),[],_,_,by rfl,O.get 0,O.get 2,yE dt [] H,O.same.t1,fun lt H1 O1=>?_⟩;refine ⟨Dq,lt,H0,[(lt,.lst [])]++X,[],[],rfl,Ow.front _ _ _ (O.join O1),by decide,fun h=>absurd h (by decide),fun _ x H' s' hx=>he _ _ _ ⟨_,x,rfl,rfl,.inl ⟨.river,rfl⟩,s'.t1,hx,fun l H2 O2=>?_⟩⟩;exact q l H2 ⟨O2.get 0,O2.same.t1⟩
end
abbrev TKV:=Str × Tok × Addr
def Nx (q:Params):List TKV->List DictEntry
 | []=>[]
 | (x,t,v)::l=>⟨PyData.keyHash q x,.str x t,.ref v⟩::Nx q l
def Nb:List TKV->List (Key × V)
 | []=>[]
 | (x,_,v)::l=>(.inr x,.ref v)::Nb l
def Gx:List TKV->List (Key × Value)
 | []=>[]
 | (x,_,v)::l=>(.inr x,.ref v)::Gx l
theorem IK:∀ (l:List TKV),∀ e∈Nx w.params l,∃ k,(jJ P w).is k e.key=true/\e.hash=(jJ P w).hash k
 | (x,t,v)::l,e,he=>by
  rcases adt.mp he with rfl| he
  ·exact ⟨.inr x,rH P w x t,rfl⟩
  ·exact IK l e he
theorem Et:∀ (l:List TKV),Pairs (jJ P w) (Nx w.params l) (Gx l)
 | []=>.nil
 | (x,t,v)::l=>.cons (rH P w x t) rfl (Et l)
theorem aa4:∀ (l:List TKV),KV (Nb l) (Gx l)
 | []=>.nil
 | (x,t,v)::l=>.cons ⟨rfl,rfl⟩ (aa4 l)
theorem PN:∀ (l:List TKV),(Gx l).map (·.1)=(l.map (·.1)).map Sum.inr
 | []=>rfl
 | (x,t,v)::l=>by show _::_=_::_;rw [PN l]
theorem KD.of {l:List TKV}{n:Nat}(hns:(a ==sysModules)=false)(h:K.lookup a=some ⟨.type "dict",none,.dict (Nx w.params l).toArray n,#[]⟩)(nd:(l.map (·.1)).Nodup):KD P w K a (Nb l):=by
 refine ⟨hns,_,Gx l,h,aa4 l,_,_,⟨rfl,rfl,rfl⟩,rfl,fun e he=>IK l e (List.mem_toArray.mp he),Et l,?_⟩;rw [PN];exact List.Pairwise.map _ (fun a b h e=>h (Sum.inr.inj e)) nd
theorem lF {Pr:Addr->Sp->Prop}{s:Sp}{L:List (Addr × Sp)}(h:Pr a s)(hl:∀ f sp,(f,sp)∈L->Pr f sp):∀ f sp,(f,sp)∈(a,s)::L->Pr f sp:=fun f sp m=>by
 rcases adt.mp m with e| m
 ·cases e;exact h
 ·exact hl _ _ m
def tsV:List (Str × Tok)->List Value
 | []=>[]
 | (x,t)::l=>.str x t::tsV l
theorem Du:∀ (l:List (Str × Tok)),Vals (l.map fun p=>V.str p.1) (tsV l)
 | []=>.nil
 | (x,t)::l=>.cons ⟨t,rfl⟩ (Du l)
theorem GJ:∀ (l:List (Str × Tok)),(tsV l).length=l.length
 | []=>rfl
 | (x,t)::l=>by show _+1=_+1;rw [GJ l]
theorem sqk {t:Addr}{l:List (Str × Tok)}{n:Nat}(h:K.lookup t=some ⟨.type "tuple",none,.seq ⟨tsV l⟩ n,#[]⟩)(hl:l.length<=100)(H:Hp):SqT K H t (l.map fun p=>V.str p.1):=
 .inr ⟨_,_,n,h,rfl,rfl,by show (tsV l).length<=_;rw [GJ,sizeLine_eq];omega,Du l⟩
theorem YC:∀ vs H Q E,qI K T CD kA kB kN AT vs H Q E->∃ (p dx:Addr)(y:Str)(fs:List (Str × V)),vs=[.ref p,.str y]/\H p=some (.ins CD dx fs)/\fs.lookup ("say":Str)=none:=fun vs H Q E h=>by
 obtain ⟨Dq,bk,ns,w0,ws,us,sp,rfl,hp,_⟩:=h;exact ⟨_,_,_,_,rfl,hp,rfl⟩
theorem Io {bs:List Int}(h1:1<=bs.length)(h:∀ (i:Nat)(b:Int),bs[i]?=some b->b=-1\/0<=b/\b<(i:Int)):Rv.uy bs:=by
 refine ⟨id,fun i hi=>hi,fun i b hb=>?_⟩;have hi:=(adl.mp hb).1;rcases h i b hb with e| ⟨e1,e2⟩
 ·exact .inl e
 ·exact .inr ⟨e1,by omega,by show b.toNat<i;omega⟩
theorem yF {rk:Nat->Nat}(h3:∀ (i:Nat)(x:Int),r[i]?=some x->x=-1\/(0<=x/\x<r.length/\rk x.toNat<rk i)):∀ (f:Nat)(p:Int),0<=p->p<r.length->rk p.toNat<f->Rv.uH r f p=-1
 | 0,p,_,_,h=>absurd h (Nat.not_lt_zero _)
 | f+1,p,h0,h1,h=>by
  show Rv.uH r f (Rv.stp r p)=-1;unfold Rv.stp;rw [if_neg (by omega)];rcases h3 _ _ (Rv.o7 h0 h1) with e| ⟨a,b,c⟩
  ·rw [e];exact Rv.Dy r f
  ·exact yF h3 f _ a b (by omega)
theorem Hv (hR:Rv.uy r)(h1:1<=r.length)(h2:r.length<=40):Rv.isR r=true:=by
 obtain ⟨rk,k1,k2⟩:=hR;have hB:Rv.inB r:=fun x hx=>by
  obtain ⟨i,hi⟩:=List.getElem?_of_mem hx;rcases k2 i x hi with e| ⟨a,b,_⟩<;>omega
 unfold Rv.isR;rw [decide_eq_true (⟨h1,h2⟩:1<=r.length/\r.length<=40),decide_eq_true hB,decide_eq_true (fun i hi=>yF k2 _ _ (by omega) (by omega) (by rw [adN];exact k1 i hi))];rfl
theorem acX:PKB K T C A Z r H0 ⟨0,[],[],[]⟩ [] (RX C A (exB Z) r 0 [] [] []++BL Z [] [] [] []):=fun Hb H' B' sb O'=>⟨[],[],⟨[],[],by rw [aej] at O';exact O',.nil,.nil⟩,.nil,rfl,by decide⟩
theorem SW.up (h:SW r S i):SW r S (i+1):=⟨h.rv,h.r1,h.r8,h.nn,h.l60,by have:=h.dl;omega,h.lic,h.nam⟩
theorem Zi {b:Int}(h:r[i]?=some b):zM (r.map V.int) (some (i:Int)) (some ((i+1:Nat):Int))=[V.int b]:=by
 obtain ⟨h1,h2⟩:=adl.mp h;rw [Kd,Nat.add_sub_cancel_left,List.drop_eq_getElem_cons h1,h2];rfl
abbrev zm:Stmt:=top 150
theorem iZ:aF ["script","first","below","names","people","desk","beside","book","k","row","things","cell","word","number"] ["script"] (ao zm):=by walk_at "sc"
inductive G7 (K:Fa)(vs:Fs)(H:Hp)(Q:VK)(E:XK):Prop
 | mk (a:Addr)(ns:List Int)(_:vs=[.ref a])(_:SqL K H a (ns.map V.int))(_:ns.length<=63)(_:∀ H',Q (.bl true) H')
variable (qz:(CX0|||1) u9 vp ["script","k"] (Ot K []))
variable {jO:Addr}{pW:Ff}(dD:Dm K CD "__init__" "Desk.__init__" gZ ["self"] jO pW)
variable (jY:(CX0|||1) jO pW ["self"] (Ea K [] CD))
variable (vO:(CX0|||1) pC pN ["xs"] (Ox K []))
variable (p7:(CX0|||2) pD pO ["cell","many"] (Ou []))
variable (vq:(CX0|||1) u6 vo ["word","things","names"] (Oz K []))
variable (tV:(CX0|||13) rQ sV ["book","word","things"] (Gq K [] e cl (Af K [] C e)))
variable (xW:(CX0|||2) rR sW ["cell","owners","people","below"] (OJ K []))
variable (fY:(CX0|||15) iM iQ ["desk","book","names","number"] (OD K [] C CD))
include fZ bB aV aU gC eV fQ fP dX gF gP bF qz dD jY vO p7 vq tV xW fY in
theorem aaJ {f4 f7:Addr}{fd2 fd4 fd7:Ff}(D:Df K mg "law" zm ["script"] f fd)(B:Blt mg)(dz:Cl K mg "Book" C f2 N5)(cG:Cl K mg "Desk" CD jO Zf)(dt:DT K [] C CD e kA kB kN AT)(TT:vL K e cl cS)(bD:Dm K C "__init__" "Book.__init__" iu ["self","below"] f2 fd2)(iG:((CXE P w)|||4) f2 fd2 ["self","below"] (yV K [] C e.c))(bL:Df K mg "_law_draws" j9 ["cell","many"] f4 fd4)(gO:(CX0|||1) f4 fd4 ["cell","many"] (Hf []))(bR:Df K mg "_law_said" mO ["desk","row"] f7 fd7)(fJ:(CX0|||14) f7 fd7 ["desk","row"] (Gq K [] e cl (qI K [] CD kA kB kN AT))):(CX0|||16) f fd ["script"] (G7 K):=by
 refine D.F.ok iZ ?_ ?_
 walk_at "i"
 obtain ⟨a,ns,rfl,hS,hlen,k⟩:=h
 have tk:TabsOk [] H:=fun t h=>nomatch h
 have hu:=hr.units
 refine ⟨_,(1<$>iZ<$>(fZ<*qz<*(pv 0>=>ak>=>aj))<|>2<$>iZ<$>(fP<*vO<*(bL<*gO<*(@aW _ _ _ _ _ _ _ _ iK (pv 1) ak>=>ak>=>aj)>=>aj))<|>wN (i:=3) iZ.nd rfl (Or.inr rfl) (dX<*p7<*(fZ<*qz<*(pv 0>=>ak>=>aj)>=>aD aC rfl B.len adx (pv 2>=>aj)>=>aj))<|>4<$>iZ<$>(dX<*p7<*(@aW _ _ _ _ _ _ _ _ kE (@aW _ _ _ _ _ _ _ _ iK (fZ<*qz<*(pv 0>=>ak>=>aj)) ak) ak>=>ak>=>aj))<|>5<$>iZ<$>(Ej cG.k jY hr.m rfl cG.m dD.b .nil oZ)<|>6<$>iZ<$>(Ej cG.k jY hr.m rfl cG.m dD.b .nil oZ)<|>7<$>iZ<$>(HS dz.k iG hr.m rfl dz.m bD.b .nil Lr (pv 2>=>aj))<|>nY ad3 rfl (iy rfl B.range (aD aC rfl B.len adx (pv 2>=>aj)>=>aj)) (8>>iZ)
   (9<$>iZ<$>(@aW _ _ _ _ _ _ _ _ Bo (@bO _ _ _ _ (aJ>=>@aK _ _ _ _ _ _ _ au (pv 3) (pv 8) (fun _ _=>rfl)>=>aj)) (jH (ao zm) rfl ["script","first","below","names","people","desk","beside","book","k","row","things","cell","word","number"] rfl ["at","names"] [none,some 3] (by decide+kernel) (by decide+kernel) (by decide+kernel) rfl (rF (jA qP (pv 2) (jm (pv 8)) (jm (@aW _ _ _ _ _ _ _ _ kE (pv 8) ak)))) (fun _ _ _=>(dR (i:=0) (show (["at","names"]:List Str).Nodup by decide+kernel) rfl (Or.inl rfl))) (fun _ _ _=>(Hw (aG Cr (pv 0) ak (aO _)))) (fun _ _ _=>(@aK _ _ _ _ _ _ _ (Ew (K:=K) rfl) (pv 1) (pv 0) (fun _ _=>rfl)))))<|>(~~~(@bM _ _ _ _ _ _ _ _ (aG yj (bR<*fJ<*(pv 5>=>je ael aez aeA wU aJ (pv 9>=>aj)>=>aj)) aJ (aO _))
    (~~~(@aH _ _ _ _ vX))
    aL)))<|>@bM _ _ _ _ _ _ _ _ (aG yj (bR<*fJ<*(pv 5>=>aJ>=>aj)) aJ (aO _))
   (~~~(@aH _ _ _ _ vX))
   aL<|>nY ad3 rfl (iy rfl B.range (@aK _ _ _ _ _ _ _ au (@bO _ _ _ _ (ak>=>ak>=>aj)) (bJ Ku rfl B.int PyProof.Rows.boot_int (iI dU (@aW _ _ _ _ _ _ _ _ cA (pv 1) ak) ak (aO _)>=>aj)) (fun _ _=>rfl)>=>aj)) (8>>iZ)
   (10<$>iZ<$>(@bO _ _ _ _ (@aK _ _ _ _ _ _ _ au (pv 4) (@aW _ _ _ _ _ _ _ _ cA (pv 8) ak) (fun _ _=>rfl)>=>@aW _ _ _ _ _ _ _ _ cA (pv 8) (aD aC rfl B.len adx (pv 2>=>aj))>=>@aW _ _ _ _ _ _ _ _ kE ak (@aW _ _ _ _ _ _ _ _ cA (pv 8) ak)>=>aj))<|>(~~~(@bM _ _ _ _ _ _ _ _ (aG (PB hu) (bR<*fJ<*(pv 5>=>gP<*vq<*(aJ>=>pv 10>=>pv 3>=>aj)>=>aj)) (fQ<*tV<*(pv 7>=>aJ>=>pv 10>=>aj)) (aO _))
    (~~~(@aH _ _ _ _ vX))
    aL)))<|>nY ad3 rfl (rF (jA qP (pv 0) (jm ak) (jm ak))) (11>>iZ)
   (qM (gF<*xW<*(pv 11>=>iz (pv 7) aU.c aV.m eV hr.m aV.b .nil oZ>=>pv 4>=>pv 2>=>aj)) (uo rfl (aZ (12>>iZ) (aZ (10>>iZ) jo)))<|>13<$>iZ<$>(@aW _ _ _ _ _ _ _ _ cA (pv 11) (@aW _ _ _ _ _ _ _ _ kE (aD aC rfl B.len adx (iz (pv 7) aU.c bB.m gC hr.m bB.b .nil oZ>=>aj)) ak))<|>@bM _ _ _ _ _ _ _ _ (jd (jx (bF<*fY<*(pv 5>=>pv 7>=>pv 3>=>pv 13>=>aj))))
    (~~~(@aH _ _ _ _ vX))
    aL<|>@bM _ _ _ _ _ _ _ _ (aG (PB hu) (bR<*fJ<*(pv 5>=>gP<*vq<*(pv 12>=>pv 10>=>pv 3>=>aj)>=>aj)) (fQ<*tV<*(pv 7>=>pv 12>=>pv 10>=>aj)) (aO _))
    (~~~(@aH _ _ _ _ vX))
    aL<|>(~~~(@bM _ _ _ _ _ _ _ _ (jd (jx (bF<*fY<*(pv 5>=>pv 7>=>pv 3>=>pv 13>=>aj))))
    (~~~(@aH _ _ _ _ vX))
    aL)))<|>nY ad3 rfl (iy rfl B.range (@aW _ _ _ _ _ _ _ _ kE (aD aC rfl B.len adx (iz (pv 7) aU.c bB.m gC hr.m bB.b .nil oZ>=>aj)) ak>=>aj)) (13>>iZ)
   (~~~(@bM _ _ _ _ _ _ _ _ (jd (jx (bF<*fY<*(pv 5>=>pv 7>=>pv 3>=>pv 13>=>aj))))
    (~~~(@aH _ _ _ _ vX))
    aL))<|>(~~~(@aH _ _ _ _ (iI (HW hu) (bR<*fJ<*(pv 6>=>aJ>=>aj)) (jH (ao zm) rfl ["script","first","below","names","people","desk","beside","book","k","row","things","cell","word","number"] rfl ["k"] [none] (by decide+kernel) (by decide+kernel) (by decide+kernel) rfl (iy rfl B.range (ak>=>aj)) (fun _ _ _=>(dR (i:=0) (show (["k"]:List Str).Nodup by decide+kernel) rfl (Or.inl rfl))) (fun _ _ _=>jl) (fun _ _ _=>(iI dU (pv 0) ak (aO _)))) (aO _))))),?_⟩
 have O:=Ow.refl tk
 refine ⟨_,rfl,a,ns,0,rfl,hS,tk,fun H1 s1=>?_⟩
 generalize ns.getD 0 0=fi
 have O:=O.jB s1
 refine ⟨_,rfl,_,_,rfl,rfl,⟨by decide,by decide⟩,_,9,rfl,by decide,O.same.t1,O.Y9 fun lx H2 us O e1=>?_⟩
 obtain ⟨xs,rfl,hxl,hxb⟩:=e1
 refine ⟨lx,xs,rfl,O.sq 0,hxl,fun x hx=>(hxb x hx).1,O.same.t1,O.Y9 fun lv H3 us O e1=>?_⟩
 obtain ⟨r,rfl,r1,r8,hrv⟩:=e1
 have hR:=Io r1 hrv
 have hIR:=Hv hR r1 (by omega)
 refine ⟨_,rfl,a,ns,1,rfl,O.same.seq hS,O.same.t1,fun H4 s4=>?_⟩
 have O:=O.jB s4
 generalize ns.getD 1 0=c1
 refine ⟨_,rfl,lv,_,rfl,.inl (O.sq 0),c1,r.length,by rw [abW];rfl,by omega,O.same.t1,O.Y9 fun lm H5 us O e1=>?_⟩
 obtain ⟨nm,rfl,hml,hmn,hmd⟩:=e1
 refine ⟨_,rfl,a,ns,1,rfl,O.same.seq hS,O.same.t1,fun H6 s6=>?_⟩
 have O:=O.jB s6
 generalize ns.getD 1 0=c2
 refine ⟨_,_,rfl,rfl,⟨by decide,by decide⟩,_,_,rfl,rfl,_,3,rfl,by decide,O.same.t1,O.Y9 fun lp H7 us O e1=>?_⟩
 obtain ⟨pp,rfl,hpl,hpn,-⟩:=e1
 have O:Ow [] H H7 [(lp,.lst (pp.map V.str)),(lm,.lst (nm.map V.str)),(lv,.lst (r.map V.int))]:=O.sub (.cons₂ _ (.cons₂ _ (.cons₂ _ (aea _))))
 intro x1 dx1 nx1 ndx1 nex1
 have O:=(O.mk' ndx1 (o:=.own x1) rfl).mk' (a:=x1) (o:=.ins CD dx1 []) (by rw [aX nex1.symm];exact nx1) rfl
 refine ⟨x1,dx1,H,_,rfl,O,fun D1 H8 eD O8=>⟨rfl,?_⟩⟩
 subst eD
 clear nx1 ndx1 nex1 O
 have O:=O8
 clear O8
 intro x2 dx2 nx2 ndx2 nex2
 have O:=(O.mk' ndx2 (o:=.own x2) rfl).mk' (a:=x2) (o:=.ins CD dx2 []) (by rw [aX nex2.symm];exact nx2) rfl
 refine ⟨x2,dx2,H,_,rfl,O,fun D2 H9 eD O9=>⟨rfl,?_⟩⟩
 subst eD
 clear nx2 ndx2 nex2 O
 have O:=O9
 clear O9
 refine ⟨_,rfl,?_⟩
 intro x3 dx3 nx3 ndx3 nex3
 have O:=(O.mk' ndx3 (o:=.own x3) rfl).mk' (a:=x3) (o:=.ins C dx3 []) (by rw [aX nex3.symm];exact nx3) rfl
 refine ⟨x3,dx3,lv,H,_,r,rfl,O,O.sq 18,by omega,fun _ A2 Z2 H10 eA eZ OB=>⟨rfl,?_⟩,fun z=>by rw [hIR] at z;cases z⟩
 subst eA
 clear nx3 ndx3 nex3 O
 have O:=OB
 clear OB
 have O:Ow [] H H10 (DX CD D1 .non [] []++((RX C A2 (exB Z2) r 0 [] [] []++BL Z2 [] [] [] [])++(DX CD D2 .non [] []++[(lp,.lst (pp.map V.str)),(lm,.lst (nm.map V.str)),(lv,.lst (r.map V.int))]))):=by
  refine O.perm ?_
  refine (aek (DX CD D1 .non [] []) (RX C A2 (exB Z2) r 0 [] [] []++BL Z2 [] [] [] []) _).trans ?_
  rw [aej]
  refine aeo _ (aeo _ ?_)
  exact aek _ _ _
 generalize hM2:RX C A2 (exB Z2) r 0 [] [] []++BL Z2 [] [] [] []=M2 at O
 generalize hLL:[(lp,HO.lst (pp.map V.str)),(lm,.lst (nm.map V.str)),(lv,.lst (r.map V.int))]=LL at O
 have mP:(lp,HO.lst (pp.map V.str))∈LL:=by rw [<- hLL];exact .head _
 have mM:(lm,HO.lst (nm.map V.str))∈LL:=by rw [<- hLL];exact .tail _ (.head _)
 have mV:(lv,HO.lst (r.map V.int))∈LL:=by rw [<- hLL];exact .tail _ (.tail _ (.head _))
 have inO:∀ {H':Hp}{k:Nat}{p:Addr × HO},Ow [] H H' (DX CD D1 .non (nm.take k) (r.take k)++(M2++(DX CD D2 .non [] []++LL)))->p∈LL->H' p.1=some p.2:=fun O h=>O.at_ _ (Mv _ (Mv _ (Mv _ h)))
 have rlen:(((r.map V.int).length:Nat):Int)=(r.length:Int):=by rw [abW]
 refine ⟨_,rfl,lv,_,rfl,.inl (SqL.of (O.at_ _ (Mv _ (Mv _ (Mv _ mV))))),_,rfl,by rw [rlen];omega,by rw [rlen];omega,?_⟩
 rw [rlen,adN]
 refine lW (n:=r.length) (fun i σ H'=>Iv (∃ (v8 v9:Option V),σ=[some (.ref a),some (.int fi),some (.ref lv),some (.ref lm),some (.ref lp),some (.ref D1.p),some (.ref D2.p),some (.ref A2.p),v8,v9,none,none,none,none]/\Ow [] H H' (DX CD D1 .non (nm.take i) (r.take i)++(M2++(DX CD D2 .non [] []++LL))))) ⟨trivial,none,none,rfl,O⟩ ?_ ?_
 ·clear O
  rintro i σ H2 hi ⟨-,v8,v9,rfl,O⟩
  rw [show (0:Int)+(i:Int)=(i:Int) by omega]
  obtain ⟨b,hb⟩:∃ b,r[i]?=some b:=⟨_,ada hi⟩
  obtain ⟨x,hx⟩:∃ x,nm[i]?=some x:=⟨_,ada (by omega)⟩
  refine ⟨_,rfl,_,rfl,lm,_,_,_,rfl,rfl,SqL.of (inO O mM),dN (v:=.str x) (by rw [adC,hx];rfl),szl,fun l1 h1=>?_⟩
  have O1:=O.mk' h1 (o:=.lst [V.str ("reach":Str),V.str x]) rfl
  generalize hE:upd H2 l1 _=H3 at O1 ⊢
  clear hE
  have at3:∀ {H':Hp}{W:Fr}{p:Addr × HO},Ow [] H H' (W++(DX CD D1 .non (nm.take i) (r.take i)++(M2++(DX CD D2 .non [] []++LL))))->p∈LL->H' p.1=some p.2:=fun O h=>O.at_ _ (Mv _ (Mv _ (Mv _ (Mv _ h))))
  refine ⟨_,rfl,_,rfl,(i:Int),rfl,_,rfl,_,_,rfl,rfl,((i+1:Nat):Int),rfl,lv,_,rfl,SqL.of (at3 (W:=[_]) O1 mV),fun ls hls=>?_⟩
  have O2:=O1.mk' hls (o:=.lst (zM (r.map V.int) (some (i:Int)) (some ((i+1:Nat):Int)))) rfl
  generalize hE:upd H3 ls _=H4 at O2 ⊢
  clear hE
  rw [Zi hb] at O2
  generalize hys:(if 0<=b then [nm.getD b.toNat ""] else [])=ys
  refine ⟨ls,rfl,⟨_,O2.sq 0⟩,fun la hla=>?_⟩
  refine pX (K:=K) (xs:=[V.int b]) (fun j τ H'=>Iv (∃ (v0:Option V),τ=[v0,some (.ref lm)]/\Ow [] H H' ([(la,.lst ((if j=0 then [] else ys).map V.str)),(ls,.lst [V.int b]),(l1,.lst ([("reach":Str),x].map V.str))]++(DX CD D1 .non (nm.take i) (r.take i)++(M2++(DX CD D2 .non [] []++LL)))))) ⟨trivial,none,rfl,O2.mk' hla rfl⟩ (fun _ _ _ _ ⟨_,_,_,O⟩=>O.sq 1) ?_ ?_
  ·rintro j y τ H5 hy ⟨-,v0,rfl,O⟩
   cases j with
   | succ j=>cases hy
   | zero =>
    cases hy
    refine ⟨_,rfl,_,_,rfl,rfl,_,rfl,ifD (fun h0=>?_) (fun h0=>?_)⟩
    ·rw [if_pos h0] at hys
     have hb2:=(hrv i b hb).resolve_left (by omega)
     refine ⟨_,rfl,_,rfl,lm,_,_,_,rfl,rfl,SqL.of (at3 (W:=[_,_,_]) O mM),qd h0 (by omega),_,O.get 0,aQ (by show 0<=100000;decide),?_⟩
     walk_at "pt"
     refine ⟨trivial,_,rfl,?_⟩
     rw [if_neg (Nat.succ_ne_zero _),<- hys];exact O
    ·rw [if_neg h0] at hys
     subst hys
     exact ⟨trivial,_,rfl,by rw [if_neg (Nat.succ_ne_zero _)];exact O⟩
  ·rintro τ H5 ⟨-,v0,rfl,O⟩
   have O:Ow [] H H5 ([(la,.lst (ys.map V.str)),(ls,.lst [V.int b]),(l1,.lst ([("reach":Str),x].map V.str))]++(DX CD D1 .non (nm.take i) (r.take i)++(M2++(DX CD D2 .non [] []++LL)))):=O
   have hyl:ys.length<=1:=by rw [<- hys];split <;>simp
   refine ⟨l1,la,_,_,rfl,rfl,O.get 2,O.get 0,ud (by rw [abW,abW];show 2+_<=_;omega),fun lq hlq=>?_⟩
   have O3:=O.mk' hlq (o:=.lst ([("reach":Str),x].map V.str++ys.map V.str)) rfl
   generalize hE:upd H5 lq _=H6 at O3 ⊢
   clear hE O O2 O1
   rw [<- adw] at O3
   have hxn:=hmn x (adp hx)
   have hyn:∀ y∈ys,y.length<=100:=fun y hy=>by
    rw [<- hys] at hy
    split at hy
    ·rename_i h0
     have hb2:=(hrv i b hb).resolve_left (by omega)
     rw [adK.mp hy]
     exact iV (hmn _ (getD_mem' h0 (by omega)))
    ·cases hy
   have hsum:(([("reach":Str),x]++ys).map (·.length)).sum<=100*([("reach":Str),x]++ys).length:=Aa fun y hy=>by
    rcases ad2.mp hy with z| z
    ·rcases adt.mp z with rfl| z
     ·decide
     ·rw [adK.mp z];exact iV hxn
    ·exact hyn y z
   refine ⟨_,rfl,rfl,_,rfl,(" "),lq,[("reach":Str),x]++ys,rfl,rfl,O3.sq 0,?_,?_⟩
   ·rw [adG] at hsum ⊢
    show _+(2+ys.length)*1<=100000
    have:([("reach":Str),x]).length=2:=rfl
    omega
   ·rw [qp]
    have O4:Ow [] H H6 (DX CD D1 .non (nm.take i) (r.take i)++(M2++(DX CD D2 .non [] []++LL))):=O3.sub (.cons _ (.cons _ (.cons _ (.cons _ (adL _)))))
    refine Hl (E:=E0) dt O4 (by rw [adU];omega) (by rw [adU];omega) hxn (fun hm=>?_) (b:=b) ?_ (fun H7 O=>⟨rfl,_,rfl,lR ⟨trivial,_,_,rfl,?_⟩⟩)
    ·obtain ⟨j,hj⟩:=adT.mp hm
     have hj2:=(adl.mp hj).1
     rw [adU] at hj2
     rw [aeH (by omega)] at hj
     have:=(aeY (i:=j) (j:=i) (by omega) hmd).mp (by rw [hj,hx])
     omega
    ·by_cases h0:0<=b
     ·rw [if_pos h0] at hys
      have hb2:=(hrv i b hb).resolve_left (by omega)
      have hg:nm[b.toNat]?=some (nm.getD b.toNat ""):=getD_at' (by omega)
      refine .inr ⟨_,b.toNat,hys.symm,hmn _ (adp hg),by rw [aeH (by omega)];exact hg,fun m hm e1=>?_,by omega⟩
      rw [aeH (by omega)] at e1
      have:=(aeY (i:=m) (j:=b.toNat) (by omega) hmd).mp (by rw [hg,e1])
      omega
     ·rw [if_neg h0] at hys
      exact .inl ⟨hys.symm,by rcases hrv i b hb with e1| e1 <;>omega⟩
    ·rw [List.take_succ,hx,List.take_succ,hb];exact O
 clear O
 rintro σ H2 ⟨-,v8,v9,rfl,O⟩
 rw [aee (by omega),aev] at O
 refine ⟨_,rfl,Ho (E:=E0) dt O (by omega) hIR (fun A1 Z1 H3 O=>⟨rfl,_,rfl,lR ?_⟩)⟩
 have tb:TB K [] C A1 Z1 A2 Z2 r H H3 (DX CD D1 (.ref A1.p) nm r++(DX CD D2 .non [] []++LL)) ⟨0,[],[],[]⟩ [] ⟨0,[],[],[]⟩ []:=by
  refine ⟨RX C A1 (exB Z1) r 0 [] [] []++BL Z1 [] [] [] [],M2,O.perm ?_,acX,by rw [<- hM2];exact acX⟩
  rw [aej]
  exact aeo _ (aeo _ (aek _ _ _))
 clear O hM2
 have sub2:(DX CD D2 .non [] []++LL).Sublist (DX CD D1 (.ref A1.p) nm r++(DX CD D2 .non [] []++LL)):=aep _ _
 have mD:(D1.p,Ja CD D1 (.ref A1.p))∈DX CD D1 (.ref A1.p) nm r++(DX CD D2 .non [] []++LL):=.head _
 have mN:(D1.ln,HO.lst (nm.map V.str))∈DX CD D1 (.ref A1.p) nm r++(DX CD D2 .non [] []++LL):=.tail _ (.tail _ (.head _))
 replace mP:=sub2.subset (Mv _ mP)
 replace mM:=sub2.subset (Mv _ mM)
 replace mV:=sub2.subset (Mv _ mV)
 generalize DX CD D1 (.ref A1.p) nm r++(DX CD D2 .non [] []++LL)=XX at tb sub2 mD mN mP mM mV
 have sw0:SW r ⟨0,[],[],[]⟩ 0:=⟨hR,r1,r8,rfl,adY _,ado _,(fun _ h=>nomatch h),(fun _ h=>nomatch h)⟩
 refine ⟨szl,fun l1 h1=>?_⟩
 have O1:=(Ow.refl tb.at_.1).mk' h1 (o:=.lst [V.int 0,V.int 58]) rfl
 have tb1:=tb.add O1
 generalize hE:upd H3 l1 _=H4 at tb1 ⊢
 clear hE O1 tb
 refine ⟨_,rfl,_,_,rfl,rfl,(by show (0:Int)<7;decide),rfl,.inr ⟨_,rfl,?_⟩⟩
 generalize decide ((fun i j=>V.int (i % j)) fi 7=V.int 3)=kk
 obtain ⟨nf,hnf,hat⟩:∃ nf:Nat,nf<=58/\atI [V.int 0,V.int 58] (if kk=true then 1 else 0)=some (.int (nf:Int)):=by
  cases kk
  ·exact ⟨0,by decide,rfl⟩
  ·exact ⟨58,by decide,rfl⟩
 refine ⟨l1,_,_,_,rfl,rfl,SqL.of (tb1.at_.2 _ (.head _)),hat,_,rfl,by omega,by omega,?_⟩
 rw [adN]
 have tb:=tb1.sub (aep _ _)
 clear tb1
 refine lW (n:=nf) (fun i σ H'=>Iv (∃ (Hb:Hp)(S:RS)(ps:List Pd)(v8 v9 v10:Option V),σ=[some (.ref a),some (.int fi),some (.ref lv),some (.ref lm),some (.ref lp),some (.ref D1.p),some (.ref D2.p),some (.ref A2.p),v8,v9,v10,none,none,none]/\aM [] H Hb/\TB K [] C A1 Z1 A2 Z2 r Hb H' XX S ps S ps/\SW r S i)) ⟨trivial,H,_,_,v8,v9,none,rfl,aM.refl tk,tb,sw0⟩ ?_ ?_
 ·clear tb sw0
  rintro i σ H5 hi ⟨-,Hb,S,ps,v8,v9,v10,rfl,sb,tb,sw⟩
  rw [show (0:Int)+(i:Int)=(i:Int) by omega]
  have hat:=tb.at_.2
  have p0:=adE (i:Int) (show (3:Int)≠0 by decide)
  have p1:=ady (i:Int) (show (0:Int)<3 by decide)
  have q0:=adE (i:Int) (show (r.length:Int)≠0 by omega)
  have q1:=ady (i:Int) (show (0:Int)<(r.length:Int) by omega)
  have w0:=adE (i:Int) (show (4:Int)≠0 by decide)
  have w1:=ady (i:Int) (show (0:Int)<4 by decide)
  refine ⟨_,rfl,_,rfl,_,_,rfl,rfl,(by show (0:Int)<3;decide),lp,_,_,_,rfl,rfl,SqL.of (hat _ mP),qd p0 (by omega),_,rfl,_,rfl,lv,_,rfl,.inl (SqL.of (hat _ mV)),_,_,rfl,rfl,(by rw [rlen];omega),_,rfl,_,_,rfl,rfl,(by show (0:Int)<4;decide),_,_,rfl,rfl,szl,fun lt hlt=>?_⟩
  dsimp only
  rw [rlen]
  have hd:K1 nm.length (.file (pp.getD ((i:Int) % 3).toNat "") ((i:Int) % (r.length:Int)) (1+(i:Int) % 4) none):=⟨hpn _ (getD_mem' p0 (by omega)),q0,by rw [hml];exact q1,by omega,by omega,fun z h=>nomatch h⟩
  have O1:=(Ow.refl tb.at_.1).mk' hlt (o:=.lst (kY (.file (pp.getD ((i:Int) % 3).toNat "") ((i:Int) % (r.length:Int)) (1+(i:Int) % 4) none))) rfl
  have tb:=tb.add O1
  have O2:upd H5 lt (.lst (kY (.file (pp.getD ((i:Int) % 3).toNat "") ((i:Int) % (r.length:Int)) (1+(i:Int) % 4) none)))=upd H5 lt (.lst [.str (pp.getD ((i:Int) % 3).toNat ""),.int ((i:Int) % (r.length:Int)),.int (1+(i:Int) % 4)]):=rfl
  rw [O2] at tb
  clear O1 O2 hat
  generalize hE:upd H5 lt _=H6 at tb ⊢
  clear hE
  have hat:=tb.at_.2
  refine ⟨_,rfl,_,rfl,_,rfl,(.file (pp.getD ((i:Int) % 3).toNat "") ((i:Int) % (r.length:Int)) (1+(i:Int) % 4) none),lt,lm,nm,rfl,SqL.of (hat _ (.head _)),SqL.of (hat _ (.tail _ mM)),hmn,hd,tb.at_.1,fun H7 s7=>?_⟩
  have tb:=tb.go s7
  refine tb.say (E:=E0) dt hmn hmd hd (.tail _ mD) (.tail _ mN) (sw.rp (by omega) Z1) (fun S' ps' y ho Hb2 H8 sb2 tb=>?_) (fun er ho l H8 tb=>?_)
  ·refine ⟨_,rfl,_,rfl,tb.give (E:=E0) (d:=(.file (pp.getD ((i:Int) % 3).toNat "") ((i:Int) % (r.length:Int)) (1+(i:Int) % 4) none)) hd (.head _) (sw.rp (by omega) Z2) (fun S2 ps2 y2 ho2 Hb3 H9 sb3 tb=>?_) (fun er2 ho2=>?_)⟩
   ·rw [ho] at ho2
    cases ho2
    refine .inl ⟨rfl,_,rfl,?_⟩
    rw [decide_eq_true rfl]
    exact lR ⟨trivial,Hb3,_,_,_,_,_,rfl,(sb.trans sb2).trans sb3,tb.sub (.cons _ (adL _)),sw.out ho⟩
   ·rw [ho] at ho2;cases ho2
  ·refine ⟨_,rfl,_,rfl,tb.give (E:=E0) (d:=(.file (pp.getD ((i:Int) % 3).toNat "") ((i:Int) % (r.length:Int)) (1+(i:Int) % 4) none)) hd (.tail _ (.head _)) (sw.rp (by omega) Z2) (fun S2 ps2 y2 ho2=>?_) (fun er2 ho2 l2 H9 tb=>?_)⟩
   ·rw [ho] at ho2;cases ho2
   ·rw [ho] at ho2
    cases ho2
    have hat:=tb.at_.2
    have sh:=Sh.bls (o8 K cl er)
    refine .inr ⟨_,_,Den.list (SqL.of (hat _ (.tail _ (.head _)))) (eO.bls _),Den.list (SqL.of (hat _ (.head _))) (eO.bls _),sh.ok (by decide),sh.ok (by decide),_,rfl,?_⟩
    rw [if_pos rfl,wk sh]
    exact lR ⟨trivial,Hb,_,_,_,_,_,rfl,sb,tb.sub (.cons _ (.cons _ (.cons _ (adL _)))),sw.up⟩
 clear tb sw0
 rintro σ H5 ⟨-,Hb,S,ps,v8,v9,v10,rfl,sb,tb,sw⟩
 refine ⟨_,rfl,2,rfl,62,rfl,a,_,rfl,(sb.trans tb.same).seq hS,fun lc hlc=>?_⟩
 have OC:=(Ow.refl tb.at_.1).mk' hlc (o:=.lst (zM (ns.map V.int) (some 2) (some 62))) rfl
 have tb:=tb.add OC
 generalize hE:upd H5 lc _=H6 at tb ⊢
 clear hE OC
 rw [show zM (ns.map V.int) (some 2) (some 62)=((ns.drop 2).take 60).map V.int from Kd ns 2 62] at tb
 have hcl:((ns.drop 2).take 60).length<=60:=by rw [adU];omega
 generalize (ns.drop 2).take 60=cs at tb hcl
 refine ⟨lc,rfl,⟨_,SqL.of (tb.at_.2 _ (.head _))⟩,?_⟩
 refine Fb (K:=K) (xs:=cs.map V.int) (fun i σ H'=>Iv (∃ (Hb:Hp)(S:RS)(ps:List Pd)(v8 v9 v10 v11 v12 v13:Option V),σ=[some (.ref a),some (.int fi),some (.ref lv),some (.ref lm),some (.ref lp),some (.ref D1.p),some (.ref D2.p),some (.ref A2.p),v8,v9,v10,v11,v12,v13]/\TB K [] C A1 Z1 A2 Z2 r Hb H' ((lc,.lst (cs.map V.int))::XX) S ps S ps/\SW r S (nf+i))) ⟨trivial,Hb,S,ps,v8,v9,v10,none,none,none,rfl,tb,sw⟩ (fun _ _ _ _ ⟨_,_,_,_,_,_,_,_,_,_,_,tb,_⟩=>SqL.of (tb.at_.2 _ (.head _))) ?_ ?_
 ·clear tb sw sb
  rintro i yv σ H7 hyv ⟨-,Hb,S,ps,v8,v9,v10,v11,v12,v13,rfl,tb,sw⟩
  obtain ⟨c,hc,rfl⟩:=ints_get hyv
  have hi:=(adl.mp hc).1
  obtain ⟨M3,⟨ks3,us3,⟨ls3,vs3,OA,e0,e1⟩,_,_,_⟩⟩:=tb.bs2
  refine ⟨_,rfl,_,rfl,A2.p,A2.dx,_,rfl,OA.get 0,rfl,A2.p,A2.dx,A2.ln,_,_,rfl,OA.get 0,rfl,OA.sq 4,fun lh hlh=>?_⟩
  have O:=(Ow.refl tb.at_.1).mk' hlh (o:=.lst (S.ns.map V.str)) rfl
  have tb:=tb.add O
  generalize hE:upd H7 lh _=H8 at tb ⊢
  clear O OA hE e0 e1
  have hat:=tb.at_.2
  refine ⟨_,rfl,_,rfl,c,lh,lp,lv,S.ns,pp,r,rfl,SqL.of (hat _ (.head _)),by rw [sw.nn];exact sw.l60,sw.nam,SqL.of (hat _ (.tail _ (.tail _ mP))),hpl,hpn,SqL.of (hat _ (.tail _ (.tail _ mV))),r1,r8,tb.at_.1,fun d t lt H9 hd O9=>?_⟩
  replace tb:=tb.add O9
  have hd:K1 nm.length d:=by rw [hml];exact hd
  refine ⟨t,_,rfl,O9.sqT 0,rfl,_,_,rfl,_,_,rfl,rfl,?_⟩
  clear O9 hat
  obtain ⟨M3,⟨ks3,us3,⟨ls3,vs3,OA,e0,e1⟩,_,_,_⟩⟩:=tb.bs2
  have hll:ls3.length=S.ls.length:=by rw [e0.length,abW]
  refine ⟨_,rfl,_,rfl,A2.p,A2.dx,_,rfl,OA.get 0,rfl,A2.p,A2.dx,A2.ll,_,ls3,rfl,OA.get 0,rfl,OA.sq 3,fun lr hlr=>?_⟩
  have O:=(Ow.refl tb.at_.1).mk' hlr (o:=.lst ls3) rfl
  have tb:=tb.add O
  generalize hE:upd H9 lr _=H10 at tb ⊢
  clear O OA hE e0 e1
  have h60:=sw.l60
  refine ⟨lr,_,rfl,.inl (SqL.of (tb.at_.2 _ (.head _))),_,_,rfl,rfl,_,_,rfl,rfl,(by omega),?_⟩
  dsimp only
  rw [hll]
  have c0:=adE c (show (S.ls.length:Int)+1≠0 by omega)
  have c1:=ady c (show (0:Int)<(S.ls.length:Int)+1 by omega)
  obtain ⟨n,hn⟩:=adD c0
  rw [hn] at c1 ⊢
  have tb:TB K [] C A1 Z1 A2 Z2 r Hb H10 ((t,.tup [.str (j6 d),.ref lt])::(lt,.lst (kY d))::(lc,.lst (cs.map V.int))::XX) S ps S ps:=tb.sub (.cons _ (.cons₂ _ (.cons₂ _ (.cons _ (adL _)))))
  refine ⟨_,rfl,_,rfl,_,rfl,_,rfl,A1,Z1,A2,Z2,D1,lm,Hb,_,r,S,ps,nm,n,_,rfl,tb,sw,.tail _ (.tail _ (.tail _ mD)),.tail _ (.tail _ (.tail _ mN)),.tail _ (.tail _ (.tail _ mM)),hmn,hml,by omega,fun H11 tb=>?_⟩
  refine ⟨_,rfl,lR ?_⟩
  have hat:=tb.at_.2
  refine ⟨_,rfl,_,rfl,_,rfl,_,rfl,d,lt,lm,nm,rfl,SqL.of (hat _ (.tail _ (.head _))),SqL.of (hat _ (.tail _ (.tail _ (.tail _ mM)))),hmn,hd,tb.at_.1,fun H12 s12=>?_⟩
  have tb:=tb.go s12
  refine tb.say (E:=E0) dt hmn hmd hd (.tail _ (.tail _ (.tail _ mD))) (.tail _ (.tail _ (.tail _ mN))) (sw.rp (by omega) Z1) (fun S' ps' y ho Hb2 H13 sb2 tb=>?_) (fun er ho l H13 tb=>?_)
  ·refine ⟨_,rfl,_,rfl,_,rfl,tb.give (E:=E0) (d:=d) hd (.tail _ (.head _)) (sw.rp (by omega) Z2) (fun S2 ps2 y2 ho2 Hb3 H14 sb3 tb=>?_) (fun er2 ho2=>?_)⟩
   ·rw [ho] at ho2
    cases ho2
    refine .inl ⟨rfl,_,rfl,?_⟩
    rw [decide_eq_true rfl]
    refine lR ?_
    refine ⟨_,rfl,_,rfl,_,rfl,_,rfl,A1,Z1,A2,Z2,D1,lm,Hb3,_,r,_,_,nm,n,_,rfl,tb,sw.out ho,.tail _ (.tail _ (.tail _ mD)),.tail _ (.tail _ (.tail _ mN)),.tail _ (.tail _ (.tail _ mM)),hmn,hml,by omega,fun H15 tb=>⟨_,rfl,lR ?_⟩⟩
    exact ⟨trivial,Hb3,_,_,_,_,_,_,_,_,rfl,tb.sub (.cons _ (.cons _ (adL _))),sw.out ho⟩
   ·rw [ho] at ho2;cases ho2
  ·refine ⟨_,rfl,_,rfl,_,rfl,tb.give (E:=E0) (d:=d) hd (.tail _ (.tail _ (.head _))) (sw.rp (by omega) Z2) (fun S2 ps2 y2 ho2=>?_) (fun er2 ho2 l2 H14 tb=>?_)⟩
   ·rw [ho] at ho2;cases ho2
   ·rw [ho] at ho2
    cases ho2
    have hat:=tb.at_.2
    have sh:=Sh.bls (o8 K cl er)
    refine .inr ⟨_,_,Den.list (SqL.of (hat _ (.tail _ (.head _)))) (eO.bls _),Den.list (SqL.of (hat _ (.head _))) (eO.bls _),sh.ok (by decide),sh.ok (by decide),_,rfl,?_⟩
    rw [if_pos rfl,wk sh]
    refine lR ?_
    have tb:TB K [] C A1 Z1 A2 Z2 r Hb H14 ((lc,.lst (cs.map V.int))::XX) S ps S ps:=tb.sub (.cons _ (.cons _ (.cons _ (.cons _ (adL _)))))
    refine ⟨_,rfl,_,rfl,_,rfl,_,rfl,A1,Z1,A2,Z2,D1,lm,Hb,_,r,S,ps,nm,n,_,rfl,tb,sw,.tail _ mD,.tail _ mN,.tail _ mM,hmn,hml,by omega,fun H15 tb=>⟨_,rfl,lR ?_⟩⟩
    exact ⟨trivial,Hb,_,_,_,_,_,_,_,_,rfl,tb,sw.up⟩
 clear tb sw sb
 rintro σ H7 ⟨-,Hb,S,ps,v8,v9,v10,v11,v12,v13,rfl,tb,sw⟩
 have tb:=tb.sub (.cons _ (adL _))
 have h60:=sw.l60
 obtain ⟨M3,⟨ks3,us3,⟨ls3,vs3,OA,e0,e1⟩,_,_,_⟩⟩:=tb.bs2
 have hll:ls3.length=S.ls.length:=by rw [e0.length,abW]
 refine ⟨_,rfl,A2.p,A2.dx,_,rfl,OA.get 0,rfl,A2.p,A2.dx,A2.ll,_,ls3,rfl,OA.get 0,rfl,OA.sq 3,fun lr hlr=>?_⟩
 have O:=(Ow.refl tb.at_.1).mk' hlr (o:=.lst ls3) rfl
 have tb:=tb.add O
 generalize hE:upd H7 lr _=H8 at tb ⊢
 clear O OA hE e0 e1
 refine ⟨lr,_,rfl,.inl (SqL.of (tb.at_.2 _ (.head _))),_,_,rfl,rfl,((S.ls.length+1:Nat):Int),by rw [hll];rfl,by omega,by omega,?_⟩
 rw [adN]
 have tb:=tb.sub (.cons _ (adL _))
 refine lW (n:=S.ls.length+1) (fun i σ H'=>Iv (∃ (v13:Option V),σ=[some (.ref a),some (.int fi),some (.ref lv),some (.ref lm),some (.ref lp),some (.ref D1.p),some (.ref D2.p),some (.ref A2.p),v8,v9,v10,v11,v12,v13]/\TB K [] C A1 Z1 A2 Z2 r Hb H' XX S ps S ps)) ⟨trivial,_,rfl,tb⟩ ?_ ?_
 ·clear tb
  rintro i σ H9 hi ⟨-,v13,rfl,tb⟩
  rw [show (0:Int)+(i:Int)=(i:Int) by omega]
  exact ⟨_,rfl,_,rfl,_,rfl,_,rfl,A1,Z1,A2,Z2,D1,lm,Hb,_,r,S,ps,nm,i,_,rfl,tb,sw,mD,mN,mM,hmn,hml,by omega,fun H10 tb=>⟨_,rfl,lR ⟨trivial,_,rfl,tb⟩⟩⟩
 clear tb
 rintro σ H9 ⟨-,v13,rfl,tb⟩
 refine ⟨_,rfl,YB (E:=E0) dt (tb.sub sub2) (fun l H10 hl=>?_)⟩
 refine ⟨_,rfl,by decide,by decide,fun lq hlq=>?_⟩
 have OQ:=(Ow.refl hl.2).mk' hlq (o:=.lst []) rfl
 refine qt (lo:=0) (n:=14) (fun i τ H'=>Iv (∃ v0,τ=[v0]/\Ow [] H10 H' [(lq,.lst (((List.range i).map fun j=>decide (j=9)).map V.bl))])) ⟨trivial,none,rfl,OQ⟩ ?_ ?_
 ·rintro i τ H5 hi ⟨-,v0,rfl,O⟩
  refine K3 ?_
  refine ⟨_,rfl,rfl,?_⟩
  have ed:decide (V.int ((0:Int)+(i:Int))=V.int 9)=decide (i=9):=by
   rw [zK]
   by_cases c:i=9
   ·subst c;rfl
   ·rw [decide_eq_false c];exact beq_eq_false_iff_ne.mpr (by omega)
  refine ⟨_,O.get 0,aQ (by rw [abW,abW,aeD];omega),?_⟩
  walk_at "pt"
  refine ⟨trivial,_,rfl,?_⟩
  rw [List.range_succ,adw,adw];rw [ed] at O;exact O
 ·rintro τ H5 ⟨-,v0,rfl,O⟩
  have sh:=Sh.bls ((List.range 14).map fun j=>decide (j=9))
  have hl5:=O.same.seq (SqL.of (K:=K) hl.1)
  rw [TT.rv] at hl5
  refine ⟨_,_,Den.list hl5 (eO.bls _),Den.list (O.sq 0) (eO.bls _),sh.ok (by decide),sh.ok (by decide),?_⟩
  rw [if_neg adv,wk sh]
  exact k _
abbrev tyA:List TKV:=[("reach",1324,783),("begin",1327,784)]
abbrev tyB:List TKV:=[("file",1332,786),("sell",1336,787),("part",1339,788),("drop",1342,789),("move",1345,790),("pond",1348,791),("turn",1352,792),("rain",1355,793),("call",1358,794),("let",1361,795),("run",1365,796),("sheet",1368,797),("flow",1371,798),("kept",1374,799),("why",1377,800),("close",1380,801),("roll",1383,802)]
abbrev tyN:List TKV:=[("reach",1603,842),("begin",1605,849),("file",1607,856),("sell",1609,863),("part",1611,870),("drop",1613,877),("move",1615,884),("pond",1617,891),("turn",1619,898),("rain",1621,905),("call",1623,912),("let",1625,919),("run",1627,924),("sheet",1629,938),("flow",1631,945),("kept",1633,952),("why",1635,959),("close",1637,966),("roll",1638,973)]
abbrev eC:Ec:=⟨92,116,104,80,140,128,152,56⟩
abbrev eE:Er:=(⟨eC,176,200⟩:Er)
abbrev at7 (K:Fa):List (Addr × Sp):=[(856,jw K [] 748 997 eE 0),(863,jw K [] 748 997 eE 1),(870,jw K [] 748 997 eE 2),(877,jw K [] 748 997 eE 3),(884,jw K [] 748 997 eE 4),(891,jw K [] 748 997 eE 5),(898,jw K [] 748 997 eE 6),(842,yS K [] 997),(849,yU K [] 748 997 eC),(973,yR K [] 748 997 eC)]
theorem lsc {α:Type}{n:Nat}{us:List α}(h:us.length=n+1):∃ a vs,us=a::vs/\vs.length=n:=by
 cases us with
 | nil=>cases h
 | cons a vs=>exact ⟨a,vs,rfl,Nat.succ.inj h⟩
theorem lsn0 {α:Type}{us:List α}(h:us.length=0):us=[]:=List.eq_nil_of_length_eq_zero h
theorem ac6 {α:Type}{us:List α}(h:us.length=1):∃ a0,us=[a0]:=by
 obtain ⟨a,v,e,h⟩:=lsc h;obtain e2:=lsn0 h;exact ⟨a,by rw [e,e2]⟩
theorem ac5 {α:Type}{us:List α}(h:us.length=2):∃ a0 a1,us=[a0,a1]:=by
 obtain ⟨a,v,e,h⟩:=lsc h;obtain ⟨b0,e2⟩:=ac6 h;exact ⟨a,b0,by rw [e,e2]⟩
theorem ac4 {α:Type}{us:List α}(h:us.length=3):∃ a0 a1 a2,us=[a0,a1,a2]:=by
 obtain ⟨a,v,e,h⟩:=lsc h;obtain ⟨b0,b1,e2⟩:=ac5 h;exact ⟨a,b0,b1,by rw [e,e2]⟩
theorem abV {α:Type}{us:List α}(h:us.length=4):∃ a0 a1 a2 a3,us=[a0,a1,a2,a3]:=by
 obtain ⟨a,v,e,h⟩:=lsc h;obtain ⟨b0,b1,b2,e2⟩:=ac4 h;exact ⟨a,b0,b1,b2,by rw [e,e2]⟩
theorem acu {α:Type}{us:List α}(h:us.length=5):∃ a0 a1 a2 a3 a4,us=[a0,a1,a2,a3,a4]:=by
 obtain ⟨a,v,e,h⟩:=lsc h;obtain ⟨b0,b1,b2,b3,e2⟩:=abV h;exact ⟨a,b0,b1,b2,b3,by rw [e,e2]⟩
theorem Kv {K:Fa}{x qual:Str}{st:Stmt}{f:Addr}{fd:Ff}{n0:Str}(F:Fun K x qual st f fd)(h:∀ (kV doc pm:Value)(an:Option Addr)(cdv ct u0:Value),bindArgs (fnOf x qual (iC st) (fC st) (ao st) .none kV doc pm an cdv ct) ⟨[u0],[]⟩=pure (([n0]:List Str).zip [u0])):Binds K fd [n0] []:=
 F.binds (ps:=[n0]) fun kV doc pm an cdv ct us hl=>by
  obtain ⟨_,rfl⟩:=ac6 hl;exact h kV doc pm an cdv ct _
theorem lX {K:Fa}{x qual:Str}{st:Stmt}{f:Addr}{fd:Ff}{n0 n1:Str}(F:Fun K x qual st f fd)(h:∀ (kV doc pm:Value)(an:Option Addr)(cdv ct u0 u1:Value),bindArgs (fnOf x qual (iC st) (fC st) (ao st) .none kV doc pm an cdv ct) ⟨[u0,u1],[]⟩=pure (([n0,n1]:List Str).zip [u0,u1])):Binds K fd [n0,n1] []:=
 F.binds (ps:=[n0,n1]) fun kV doc pm an cdv ct us hl=>by
  obtain ⟨_,_,rfl⟩:=ac5 hl;exact h kV doc pm an cdv ct _ _
theorem X3 {K:Fa}{x qual:Str}{st:Stmt}{f:Addr}{fd:Ff}{n0 n1 n2:Str}(F:Fun K x qual st f fd)(h:∀ (kV doc pm:Value)(an:Option Addr)(cdv ct u0 u1 u2:Value),bindArgs (fnOf x qual (iC st) (fC st) (ao st) .none kV doc pm an cdv ct) ⟨[u0,u1,u2],[]⟩=pure (([n0,n1,n2]:List Str).zip [u0,u1,u2])):Binds K fd [n0,n1,n2] []:=
 F.binds (ps:=[n0,n1,n2]) fun kV doc pm an cdv ct us hl=>by
  obtain ⟨_,_,_,rfl⟩:=ac4 hl;exact h kV doc pm an cdv ct _ _ _
theorem XR {K:Fa}{x qual:Str}{st:Stmt}{f:Addr}{fd:Ff}{n0 n1 n2 n3:Str}(F:Fun K x qual st f fd)(h:∀ (kV doc pm:Value)(an:Option Addr)(cdv ct u0 u1 u2 u3:Value),bindArgs (fnOf x qual (iC st) (fC st) (ao st) .none kV doc pm an cdv ct) ⟨[u0,u1,u2,u3],[]⟩=pure (([n0,n1,n2,n3]:List Str).zip [u0,u1,u2,u3])):Binds K fd [n0,n1,n2,n3] []:=
 F.binds (ps:=[n0,n1,n2,n3]) fun kV doc pm an cdv ct us hl=>by
  obtain ⟨_,_,_,_,rfl⟩:=abV hl;exact h kV doc pm an cdv ct _ _ _ _
theorem XQ {K:Fa}{x qual:Str}{st:Stmt}{f:Addr}{fd:Ff}{n0 n1 n2 n3 n4:Str}(F:Fun K x qual st f fd)(h:∀ (kV doc pm:Value)(an:Option Addr)(cdv ct u0 u1 u2 u3 u4:Value),bindArgs (fnOf x qual (iC st) (fC st) (ao st) .none kV doc pm an cdv ct) ⟨[u0,u1,u2,u3,u4],[]⟩=pure (([n0,n1,n2,n3,n4]:List Str).zip [u0,u1,u2,u3,u4])):Binds K fd [n0,n1,n2,n3,n4] []:=
 F.binds (ps:=[n0,n1,n2,n3,n4]) fun kV doc pm an cdv ct us hl=>by
  obtain ⟨_,_,_,_,_,rfl⟩:=acu hl;exact h kV doc pm an cdv ct _ _ _ _ _
section
variable {K:Fa}{h:Heap}{mg:Fh}{x q:Str}{st:Stmt}{ps fs:List Str}{f fa C C':Addr}{fd:Ff}
def XDf (K:Fa)(mg:Fh)(x:Str)(st:Stmt)(ps:List Str):Prop:=∃ f d,Df K mg x st ps f d
def XDm (K:Fa)(C:Addr)(x q:Str)(st:Stmt)(ps:List Str):Prop:=∃ f d,Dm K C x q st ps f d
def XDn (K:Fa)(C C':Addr)(x q:Str)(st:Stmt)(ps:List Str):Prop:=∃ f d,Dm K C x q st ps f d/\Dm K C' x q st ps f d
theorem aaW (X:K.In h)(G:h.Ns mainGlobals mg)(a:nsIn K mainGlobals x=some (some (.ref f)))(F:Fun K x x st f fd)(b:Fun K x x st f fd->Binds K fd ps []):XDf K mg x st ps:=⟨_,_,F,b F,aeb X G a⟩
theorem KQ (X:K.In h)(G:h.Ns mainGlobals mg)(a:nsIn K mainGlobals x=some (some (.ref f)))(F:Fun K x x st f fd)(b:Fun K x x st f fd->Binds K fd ps []):∃ d,Df K mg x st ps f d:=⟨_,F,b F,aeb X G a⟩
theorem mkDl {c:Addr}(X:K.In h)(G:h.Ns mainGlobals mg)(a:nsIn K mainGlobals x=some (some (.ref f)))(F:Fun K x x st f fd)(b:Fun K x x st f fd->Binds K fd ps [])(e:fd.code=.ref c):∃ f d,Df K mg x st ps f d/\d.code=.ref c:=⟨_,_,⟨F,b F,aeb X G a⟩,e⟩
theorem aaV (m:Meth K C x f)(F:Fun K x q st f fd)(b:Fun K x q st f fd->Binds K fd ps []):XDm K C x q st ps:=⟨_,_,F,b F,m⟩
theorem mkDn (m:Meth K C x f)(m':PySem.W.findIn K (.ref C') x=some (some (.ref f)))(F:Fun K x q st f fd)(b:Fun K x q st f fd->Binds K fd ps []):XDn K C C' x q st ps:=⟨_,_,⟨F,b F,m⟩,F,b F,m',m.fn,m.kp⟩
theorem acs (m:Meth K C x f)(F:Fun K x q st f fd)(b:Fun K x q st f fd->Binds K fd ps [])(g:PySem.W.specialIn K (.ref C) "__getattribute__"=some (some (.builtin "type.__getattribute__")))(r:readsIn K C (.type "type")=true)(c:findCls K (.ref C) (.type "type") x=some (.val (.ref f))):∃ f d,Dm K C x q st ps f d/\ClF K C f x:=⟨_,_,⟨F,b F,m⟩,g,r,c,F.kp⟩
theorem ac1 (D:Dm K C "__init__" q st ps f fd)(c:Cls K C)(m:makesIn K C=true)(k:keepIn K (.ref C)=true)(g:mg x=some (.ref C))(n:∀ y∈fs,dW K C y):Cl K mg x C f fs:=⟨c,⟨m,D.m.at_,D.m.fn,k⟩,g,n⟩
theorem acr {oc kV dc pm cd ct:Value}{od an:Option Addr}{sl:Array (Option Value)}{Z:Ff->Prop}(X:K.In h)(G:h.Ns mainGlobals mg)(e:mg "law"=some (.ref fa))(a:nsIn K mainGlobals "law"=some (some (.ref f)))(l:K.lookup f=some ⟨oc,od,.func (fnOf "law" "law" (iC zm) (fC zm) (ao zm) .none kV dc pm an cd ct),sl⟩)(c:codeIn K cd "law"=true)(k:keepIn K (.ref f)=true)(z:∀ d,Df K mg "law" zm ["script"] fa d->Z d):∃ d,(∀ (s:Shared)(v:Value),BindsTo s d ⟨[v],[]⟩ [("script",v)])/\Z d:=by
 have e:=e.symm.trans (aeb X G a);cases e;have F:=abv (st:=zm) l c k;exact ⟨_,fun s v=>.of_eq rfl,z _ ⟨F,Kv F (fun _ _ _ _ _ _ _=>rfl),aeb X G a⟩⟩
end
theorem walk {l:PySem.W.OpenLaw}{q:Program}{loose:List Str}{XP:(Fh)->Heap->Prop}{YP:World->Heap->Prop}{d:DefRec}{K:Params->Fa}(hn:l.most=some 63)(hdf:d.params.defaults=[])
  (hY:∀ (w:World)(h:Heap),YP w h->(K w.params).In h)
  (F:∀ (P:Program)(w:World)(mg:Fh)(fa:Addr)(h:Heap),(K w.params).In h->h.Ns mainGlobals mg->mg d.name=some (.ref fa) ->
   ∃ fd:Ff,(∀ (s:Shared)(u:Value),BindsTo s fd ⟨[u],[]⟩ [("script",u)])/\∀ base:Heap,zT P w (K w.params) mg base CX0 16 fa fd ["script"] (G7 (K w.params))):
  PySem.W.WalkO q loose XP YP l.row.toRowW d [] (fun f vs=>PySem.call f vs):=
 L2.Yk (n:=63) (k:=16) (x:="script") (CX:=fun _=>CX0) (sp:=fun w=>G7 (K w.params)) hn (by decide) hdf ⟨rfl,by decide,by decide⟩ hY (fun w mg fa h a b c=>(F _ w mg fa h a b c).imp fun _ z=>⟨z.1,fun base _ _=>z.2 base⟩) (fun _ _ a ns hl _ hS=>⟨a,ns,rfl,hS,hl,fun _=>rfl⟩) fun _ _ _ _ _ z=>z
end My
set_option hygiene false
local macro_rules | `(tactic| walk_at "k") => `(tactic| (first | k_is | kernel_rfl | rfl))
local macro_rules | `(tactic| walk_at "me") => `(tactic| exact ⟨by k_is, by walk_at "k", by k_is⟩)
local macro_rules | `(tactic| walk_at "h") => `(tactic| exact ⟨_, aeb KX G (by k_is)⟩)
local macro_rules | `(tactic| walk_at "ec") => `(tactic| exact ⟨aeb KX G (by k_is), by walk_at "k", ⟨by walk_at "k", by walk_at "k", by walk_at "k", by walk_at "k", by walk_at "k", by walk_at "k", by walk_at "k", by walk_at "k"⟩⟩)
local macro_rules | `(tactic| walk_at "d1") => `(tactic| exact My.aaW KX G (by k_is) ⟨⟨_, _, _, _, _, _, _, _, _, rfl, by k_is, by k_is⟩, by k_is⟩ (fun F => My.Kv F (fun _ _ _ _ _ _ _ => rfl)))
local macro_rules | `(tactic| walk_at "m1") => `(tactic| exact My.aaV (by walk_at "me") ⟨⟨_, _, _, _, _, _, _, _, _, rfl, by k_is, by k_is⟩, by k_is⟩ (fun F => My.Kv F (fun _ _ _ _ _ _ _ => rfl)))
local macro_rules | `(tactic| walk_at "d2") => `(tactic| exact My.aaW KX G (by k_is) ⟨⟨_, _, _, _, _, _, _, _, _, rfl, by k_is, by k_is⟩, by k_is⟩ (fun F => My.lX F (fun _ _ _ _ _ _ _ _ => rfl)))
local macro_rules | `(tactic| walk_at "m2") => `(tactic| exact My.aaV (by walk_at "me") ⟨⟨_, _, _, _, _, _, _, _, _, rfl, by k_is, by k_is⟩, by k_is⟩ (fun F => My.lX F (fun _ _ _ _ _ _ _ _ => rfl)))
local macro_rules | `(tactic| walk_at "d3") => `(tactic| exact My.aaW KX G (by k_is) ⟨⟨_, _, _, _, _, _, _, _, _, rfl, by k_is, by k_is⟩, by k_is⟩ (fun F => My.X3 F (fun _ _ _ _ _ _ _ _ _ => rfl)))
local macro_rules | `(tactic| walk_at "m3") => `(tactic| exact My.aaV (by walk_at "me") ⟨⟨_, _, _, _, _, _, _, _, _, rfl, by k_is, by k_is⟩, by k_is⟩ (fun F => My.X3 F (fun _ _ _ _ _ _ _ _ _ => rfl)))
local macro_rules | `(tactic| walk_at "d4") => `(tactic| exact My.aaW KX G (by k_is) ⟨⟨_, _, _, _, _, _, _, _, _, rfl, by k_is, by k_is⟩, by k_is⟩ (fun F => My.XR F (fun _ _ _ _ _ _ _ _ _ _ => rfl)))
local macro_rules | `(tactic| walk_at "m4") => `(tactic| exact My.aaV (by walk_at "me") ⟨⟨_, _, _, _, _, _, _, _, _, rfl, by k_is, by k_is⟩, by k_is⟩ (fun F => My.XR F (fun _ _ _ _ _ _ _ _ _ _ => rfl)))
local macro_rules | `(tactic| walk_at "d5") => `(tactic| exact My.aaW KX G (by k_is) ⟨⟨_, _, _, _, _, _, _, _, _, rfl, by k_is, by k_is⟩, by k_is⟩ (fun F => My.XQ F (fun _ _ _ _ _ _ _ _ _ _ _ => rfl)))
local macro_rules | `(tactic| walk_at "m5") => `(tactic| exact My.aaV (by walk_at "me") ⟨⟨_, _, _, _, _, _, _, _, _, rfl, by k_is, by k_is⟩, by k_is⟩ (fun F => My.XQ F (fun _ _ _ _ _ _ _ _ _ _ _ => rfl)))
open PySem PySem.W PyProof.Rows My L2
set_option maxRecDepth 100000 in
set_option maxHeartbeats 0 in
theorem PySem.Challenge.cw_sluice_k74_deeds_at_a_desk_holds : PySem.Challenge.rw_sluice_k74_deeds_at_a_desk.Holds := by
 w_on;refine PySem.W.holds_law My.wsq fun said=>?_;refine PySem.W.holds_open (q:=My.qv) (loose:=My.Ep) (Xt:=(fun s=>xlAt My.qv [] s&& recOk (PySem.W.RowW.records PySem.Challenge.rw_sluice_k74_deeds_at_a_desk.row.toRowW) s)) (XP:=XL My.qv []) (Yf:=PySem.W.Hook.obs (kmHook My.Kf My.asK My.hkE My.tsK)) (Ya:=PySem.W.Hook.val (kmHook My.Kf My.asK My.hkE My.tsK)) (YP:=PySem.W.Hook.says (kmHook My.Kf My.asK My.hkE My.tsK)) (N:=17844) My.hlE (PySem.W.Hook.of (kmHook My.Kf My.asK My.hkE My.tsK)) (PySem.W.Hook.keeps (kmHook My.Kf My.asK My.hkE My.tsK)) (fun s e=>PySem.W.xl_of s (Bool.and_eq_true_iff.mp e).1) PySem.W.XL.keeps (by rfl) (by rfl) (by rfl) (fun s e=>PySem.W.recFacts_of (Bool.and_eq_true_iff.mp e).2) (by rfl) (by first| assumption| decide+kernel) (by decide+kernel) ⟨rfl,rfl,rfl,rfl,rfl,by decide+kernel⟩ ?hw ?hc
 case hw=>w_witness2
 k_fill;refine' My.walk (l:=PySem.Challenge.rw_sluice_k74_deeds_at_a_desk) (K:=My.Kf) rfl rfl (fun w h Y=>PySem.W.km_in_of Y) ?F
 case F =>
  intro P w mg fa h KX G hmg;refine My.acr KX G hmg (by k_is) (by k_is) (by k_is) (by k_is) fun dL acL base=>?_;have B:Blt mg:=by constructor <;>exact PySem.W.mg_none_of KX G (by k_is)
  have Bt:∃ t,mg "MOST_WATER"=some (.int (1000000000000) t):=by walk_at "h"
  have yq:∃ t,mg "LONGEST_NAME"=some (.int (8) t):=by walk_at "h"
  have J0:∃ t,mg "LETTERS"=some (.str "abcdefghijklmnopqrstuvwxyz" t):=by walk_at "h"
  obtain ⟨_,_,eX⟩:XDf (Kf w.params) mg "is_water" uN ["amount"]:=by walk_at "d1"
  obtain ⟨_,_,gj⟩:XDf (Kf w.params) mg "is_name" ug ["text"]:=by walk_at "d1"
  have iW:∃ t,mg "MOST_REACHES"=some (.int (40) t):=by walk_at "h"
  have jL:∃ t,mg "MOUTH"=some (.int (-1) t):=by walk_at "h"
  obtain ⟨_,_,cJ⟩:XDf (Kf w.params) mg "comes_to_mouth" jj ["below","start"]:=by walk_at "d2"
  obtain ⟨_,_,iU⟩:XDf (Kf w.params) mg "is_river" lU ["below"]:=by walk_at "d1"
  obtain ⟨_,_,nF⟩:XDf (Kf w.params) mg "way_of" zj ["below","reach"]:=by walk_at "d2"
  have Gm:∃ t,mg "LAST_DAY"=some (.int (1000000) t):=by walk_at "h"
  obtain ⟨_,_,dg⟩:XDf (Kf w.params) mg "is_licence" oR ["below","one"]:=by walk_at "d2"
  obtain ⟨_,_,fO⟩:XDf (Kf w.params) mg "day_filed" qU ["one"]:=by walk_at "d1"
  obtain ⟨_,_,fM⟩:XDf (Kf w.params) mg "gives_back" oU ["one"]:=by walk_at "d1"
  obtain ⟨_,_,fL⟩:XDf (Kf w.params) mg "most_of" wK ["one"]:=by walk_at "d1"
  obtain ⟨_,_,c7⟩:XDf (Kf w.params) mg "with_start" oN ["one","start"]:=by walk_at "d2"
  obtain ⟨_,_,dB⟩:XDf (Kf w.params) mg "with_most" qQ ["one","most"]:=by walk_at "d2"
  obtain ⟨_,_,vQ⟩:XDf (Kf w.params) mg "deal" Hs ["below","springs","roll","calls"]:=by walk_at "d4"
  have Y8:∃ t,mg "WHOLE"=some (.int (1000) t):=by walk_at "h"
  obtain ⟨_,_,tX⟩:XDf (Kf w.params) mg "moved" Ck ["roll","number","start"]:=by walk_at "d3"
  obtain ⟨_,_,j5⟩:XDf (Kf w.params) mg "harm_of" wL ["below","roll","number","start","record"]:=by walk_at "d5"
  have xq:∃ t,mg "MOST_LICENCES"=some (.int (60) t):=by walk_at "h"
  obtain ⟨_,_,bA⟩:XDf (Kf w.params) mg "look_at_name" lu ["name"]:=by walk_at "d1"
  have Bu:∃ t,mg "MOST_PONDS"=some (.int (10) t):=by walk_at "h"
  have J1:∃ t,mg "FIGURES"=some (.str "0123456789" t):=by walk_at "h"
  have yp:∃ t,mg "MOST_FIGURES"=some (.int (13) t):=by walk_at "h"
  obtain ⟨_,_,fK⟩:XDf (Kf w.params) mg "read_words" oO ["row"]:=by walk_at "d1"
  obtain ⟨_,_,eH⟩:XDf (Kf w.params) mg "read_number" jz ["word"]:=by walk_at "d1"
  obtain ⟨_,_,gD⟩:XDf (Kf w.params) mg "read_name" qT ["word"]:=by walk_at "d1"
  obtain ⟨_,_,eF⟩:XDf (Kf w.params) mg "show_number" mj ["number"]:=by walk_at "d1"
  obtain ⟨_,_,dh⟩:XDf (Kf w.params) mg "show_row" qj ["numbers"]:=by walk_at "d1"
  have zV:∃ t,mg "OK"=some (.str "ok" t):=by walk_at "h"
  have zB:∃ t,mg "NUMBER"=some (.str "n" t):=by walk_at "h"
  have JZ:∃ t,mg "NAME"=some (.str "a" t):=by walk_at "h"
  have CQ:∃ t,mg "REACH"=some (.str "r" t):=by walk_at "h"
  have Dp:mg "AHEAD"=some (.ref 782):=aeb KX G (by k_is);have zR:mg "BEHIND"=some (.ref 785):=aeb KX G (by k_is);obtain ⟨_,_,iT⟩:XDf (Kf w.params) mg "shape_of" uL ["shapes","words"]:=by walk_at "d2"
  obtain ⟨_,_,eG⟩:XDf (Kf w.params) mg "read_word" qR ["kind","word"]:=by walk_at "d2"
  obtain ⟨_,_,cI⟩:XDf (Kf w.params) mg "place_of" uM ["names","word"]:=by walk_at "d2"
  obtain ⟨_,lO⟩:∃ d,Df (Kf w.params) mg "answer_reach" lA ["desk","told"] 842 d:=My.KQ KX G (by k_is) ⟨⟨_,_,_,_,_,_,_,_,_,rfl,by k_is,by k_is⟩,by k_is⟩ (fun F=>My.lX F (fun _ _ _ _ _ _ _ _=>rfl));obtain ⟨_,lQ⟩:∃ d,Df (Kf w.params) mg "answer_begin" lB ["desk","told"] 849 d:=My.KQ KX G (by k_is) ⟨⟨_,_,_,_,_,_,_,_,_,rfl,by k_is,by k_is⟩,by k_is⟩ (fun F=>My.lX F (fun _ _ _ _ _ _ _ _=>rfl));obtain ⟨_,nU⟩:∃ d,Df (Kf w.params) mg "answer_file" mJ ["desk","told"] 856 d:=My.KQ KX G (by k_is) ⟨⟨_,_,_,_,_,_,_,_,_,rfl,by k_is,by k_is⟩,by k_is⟩ (fun F=>My.lX F (fun _ _ _ _ _ _ _ _=>rfl));obtain ⟨_,nJ⟩:∃ d,Df (Kf w.params) mg "answer_sell" mz ["desk","told"] 863 d:=My.KQ KX G (by k_is) ⟨⟨_,_,_,_,_,_,_,_,_,rfl,by k_is,by k_is⟩,by k_is⟩ (fun F=>My.lX F (fun _ _ _ _ _ _ _ _=>rfl));obtain ⟨_,nQ⟩:∃ d,Df (Kf w.params) mg "answer_part" mG ["desk","told"] 870 d:=My.KQ KX G (by k_is) ⟨⟨_,_,_,_,_,_,_,_,_,rfl,by k_is,by k_is⟩,by k_is⟩ (fun F=>My.lX F (fun _ _ _ _ _ _ _ _=>rfl));obtain ⟨_,nW⟩:∃ d,Df (Kf w.params) mg "answer_drop" mK ["desk","told"] 877 d:=My.KQ KX G (by k_is) ⟨⟨_,_,_,_,_,_,_,_,_,rfl,by k_is,by k_is⟩,by k_is⟩ (fun F=>My.lX F (fun _ _ _ _ _ _ _ _=>rfl));obtain ⟨_,nT⟩:∃ d,Df (Kf w.params) mg "answer_move" mH ["desk","told"] 884 d:=My.KQ KX G (by k_is) ⟨⟨_,_,_,_,_,_,_,_,_,rfl,by k_is,by k_is⟩,by k_is⟩ (fun F=>My.lX F (fun _ _ _ _ _ _ _ _=>rfl));obtain ⟨_,nP⟩:∃ d,Df (Kf w.params) mg "answer_pond" mF ["desk","told"] 891 d:=My.KQ KX G (by k_is) ⟨⟨_,_,_,_,_,_,_,_,_,rfl,by k_is,by k_is⟩,by k_is⟩ (fun F=>My.lX F (fun _ _ _ _ _ _ _ _=>rfl));obtain ⟨_,nH⟩:∃ d,Df (Kf w.params) mg "answer_turn" mq ["desk","told"] 898 d:=My.KQ KX G (by k_is) ⟨⟨_,_,_,_,_,_,_,_,_,rfl,by k_is,by k_is⟩,by k_is⟩ (fun F=>My.lX F (fun _ _ _ _ _ _ _ _=>rfl));obtain ⟨_,nM⟩:∃ d,Df (Kf w.params) mg "answer_roll" mC ["desk","told"] 973 d:=My.KQ KX G (by k_is) ⟨⟨_,_,_,_,_,_,_,_,_,rfl,by k_is,by k_is⟩,by k_is⟩ (fun F=>My.lX F (fun _ _ _ _ _ _ _ _=>rfl));have xT:mg "ANSWERS"=some (.ref 974):=aeb KX G (by k_is);obtain ⟨_,_,fZ⟩:XDf (Kf w.params) mg "_law_nth" uP ["script","k"]:=by walk_at "d2"
  obtain ⟨_,_,bL⟩:XDf (Kf w.params) mg "_law_draws" j9 ["cell","many"]:=by walk_at "d2"
  obtain ⟨_,_,dX⟩:XDf (Kf w.params) mg "_law_names" jc ["cell","many"]:=by walk_at "d2"
  obtain ⟨_,_,fP⟩:XDf (Kf w.params) mg "_law_river" oV ["xs"]:=by walk_at "d1"
  obtain ⟨_,_,bQ⟩:XDf (Kf w.params) mg "_law_classes" lC ["e"]:=by walk_at "d1"
  obtain ⟨_,_,bR⟩:XDf (Kf w.params) mg "_law_said" mO ["desk","row"]:=by walk_at "d2"
  obtain ⟨_,_,dM⟩:XDf (Kf w.params) mg "_law_given" oW ["book","word","things"]:=by walk_at "d3"
  obtain ⟨_,_,fQ⟩:XDf (Kf w.params) mg "_law_done" qW ["book","word","things"]:=by walk_at "d3"
  obtain ⟨_,_,cX⟩:XDf (Kf w.params) mg "_law_amount" mQ ["number"]:=by walk_at "d1"
  obtain ⟨_,_,gF⟩:XDf (Kf w.params) mg "_law_deed" qX ["cell","owners","people","below"]:=by walk_at "d4"
  obtain ⟨_,_,gP⟩:XDf (Kf w.params) mg "_law_row" uO ["word","things","names"]:=by walk_at "d3"
  obtain ⟨_,_,bF⟩:XDf (Kf w.params) mg "_law_line_right" fW ["desk","book","names","number"]:=by walk_at "d4"
  obtain ⟨_,_,fU,j4⟩:∃ f d,Dm (Kf w.params) 658 "__init__" "Roll.__init__" gY ["self","below"] f d/\ClF (Kf w.params) 658 f "__init__":=My.acs (by walk_at "me") ⟨⟨_,_,_,_,_,_,_,_,_,rfl,by k_is,by k_is⟩,by k_is⟩ (fun F=>My.lX F (fun _ _ _ _ _ _ _ _=>rfl)) (by walk_at "k") (by walk_at "k") (by walk_at "k");obtain ⟨_,_,bB⟩:XDm (Kf w.params) 748 "roll" "Roll.roll" rA ["self"]:=by walk_at "m1"
  obtain ⟨_,_,aV⟩:XDm (Kf w.params) 748 "holders" "Roll.holders" lD ["self"]:=by walk_at "m1"
  obtain ⟨_,_,cL⟩:XDm (Kf w.params) 748 "turn" "Roll.turn" qZ ["self"]:=by walk_at "m1"
  obtain ⟨_,_,m,FM⟩:∃ f d,Meth (Kf w.params) 748 "file" f/\X4 (Kf w.params) "file" "Roll.file" mR [.none] f d:=⟨_,_,(by walk_at "me"),⟨⟨_,_,_,_,_,_,_,_,_,_,_,_,rfl,by k_is,by k_is,by k_is,rfl⟩,by k_is⟩⟩;have bT:DmD (Kf w.params) 748 "file" "Roll.file" mR ["self","holder","start","most","back"] _ _:=⟨FM,FM.binds (fun _ _ _ _ _ _ _ us hl=>by
   obtain ⟨_,_,_,_,_,rfl⟩:=My.acu (show us.length=5 by simpa using hl);exact ⟨_,rfl,rfl⟩),FM.binds (fun _ _ _ _ _ _ _ us hl=>by
   obtain ⟨_,_,_,_,rfl⟩:=My.abV (show us.length=4 by simpa using hl);exact ⟨_,rfl,rfl⟩),m⟩
  obtain ⟨_,_,cM⟩:XDm (Kf w.params) 748 "sell" "Roll.sell" rm ["self","number","holder","to"]:=by walk_at "m4"
  obtain ⟨_,_,cO⟩:XDm (Kf w.params) 748 "part" "Roll.part" rB ["self","number","holder","most","to"]:=by walk_at "m5"
  obtain ⟨_,_,cU⟩:XDm (Kf w.params) 748 "drop" "Roll.drop" rD ["self","number","holder"]:=by walk_at "m3"
  obtain ⟨_,_,cQ⟩:XDm (Kf w.params) 748 "move" "Roll.move" rC ["self","number","holder","start"]:=by walk_at "m4"
  obtain ⟨_,_,bV⟩:XDm (Kf w.params) 748 "enter" "Roll.enter" oX ["self","one","holder"]:=by walk_at "m3"
  obtain ⟨_,_,cB⟩:XDm (Kf w.params) 748 "is_alone" "Roll.is_alone" gW ["self","number"]:=by walk_at "m2"
  obtain ⟨_,_,bh⟩:XDm (Kf w.params) 748 "look_at_number" "Roll.look_at_number" eY ["self","number"]:=by walk_at "m2"
  obtain ⟨_,_,aq⟩:XDm (Kf w.params) 748 "look_at_holder" "Roll.look_at_holder" fj ["self","number","holder"]:=by walk_at "m3"
  obtain ⟨_,_,aP⟩:XDm (Kf w.params) 748 "look_at_room" "Roll.look_at_room" gw ["self"]:=by walk_at "m1"
  have Kz:mg "Roll"=some (.ref 658):=aeb KX G (by k_is);obtain ⟨_,_,bD⟩:XDm (Kf w.params) 748 "__init__" "Book.__init__" iu ["self","below"]:=by walk_at "m2"
  obtain ⟨_,_,m,_,FM⟩:∃ f d,Meth (Kf w.params) 748 "pond" f/\∃ t,X4 (Kf w.params) "pond" "Book.pond" mU [.int 0 t] f d:=⟨_,_,(by walk_at "me"),_,⟨⟨_,_,_,_,_,_,_,_,_,_,_,_,rfl,by k_is,by k_is,by k_is,rfl⟩,by k_is⟩⟩;have bU:DmZ (Kf w.params) 748 "pond" "Book.pond" mU ["self","number","holder","room","leak"] _ _:=⟨⟨_,FM,FM.binds (fun _ _ _ _ _ _ _ us hl=>by
   obtain ⟨_,_,_,_,rfl⟩:=My.abV (show us.length=4 by simpa using hl);exact ⟨_,rfl,rfl⟩)⟩,FM.binds (fun _ _ _ _ _ _ _ us hl=>by
   obtain ⟨_,_,_,_,_,rfl⟩:=My.acu (show us.length=5 by simpa using hl);exact ⟨_,rfl,rfl⟩),m⟩
  obtain ⟨_,_,BX⟩:XDm (Kf w.params) 748 "ponds" "Book.ponds" oY ["self"]:=by walk_at "m1"
  obtain ⟨_,_,Dr⟩:XDm (Kf w.params) 748 "kept" "Book.kept" rE ["self"]:=by walk_at "m1"
  obtain ⟨_,_,bx⟩:XDm (Kf w.params) 748 "has_pond" "Book.has_pond" ig ["self","number"]:=by walk_at "m2"
  obtain ⟨_,_,bW⟩:XDm (Kf w.params) 748 "look_move" "Book.look_move" jk ["self","number","start"]:=by walk_at "m3"
  have dz:Cl (Kf w.params) mg "Book" 748 _ ["below","day","licences","names","done","dug","keeps","ran","last","greatest"]:=My.ac1 bD ⟨by walk_at "k",by walk_at "k",by walk_at "k",by walk_at "k"⟩ (by walk_at "k") (by walk_at "k") (aeb KX G (by k_is)) (by simp only [adt,adZ,or_false,forall_eq_or_imp,forall_eq];exact ⟨by walk_at "k",by walk_at "k",by walk_at "k",by walk_at "k",by walk_at "k",by walk_at "k",by walk_at "k",by walk_at "k",by walk_at "k",by walk_at "k"⟩);obtain ⟨_,_,dD⟩:XDm (Kf w.params) 997 "__init__" "Desk.__init__" gZ ["self"]:=by walk_at "m1"
  obtain ⟨_,_,jF⟩:XDm (Kf w.params) 997 "say" "Desk.say" jD ["self","row"]:=by walk_at "m2"
  have cG:Cl (Kf w.params) mg "Desk" 997 _ ["names","below","book","rains","calls","lets","last"]:=My.ac1 dD ⟨by walk_at "k",by walk_at "k",by walk_at "k",by walk_at "k"⟩ (by walk_at "k") (by walk_at "k") (aeb KX G (by k_is)) (by simp only [adt,adZ,or_false,forall_eq_or_imp,forall_eq];exact ⟨by walk_at "k",by walk_at "k",by walk_at "k",by walk_at "k",by walk_at "k",by walk_at "k",by walk_at "k"⟩);have dZ:j8 (Kf w.params) mg "SluiceError" 43:=by walk_at "ec"
  have Dn:j8 (Kf w.params) mg "NoDay" 188:=by walk_at "ec"
  have gn:j8 (Kf w.params) mg "NoPond" 176:=by walk_at "ec"
  have pY:j8 (Kf w.params) mg "Fixed" 200:=by walk_at "ec"
  have tQ:j8 (Kf w.params) mg "Harms" 212:=by walk_at "ec"
  have jU:j8 (Kf w.params) mg "NoReach" 68:=by walk_at "ec"
  have eN:j8 (Kf w.params) mg "NoRiver" 56:=by walk_at "ec"
  have cg:j8 (Kf w.params) mg "NoLicence" 80:=by walk_at "ec"
  have dI:j8 (Kf w.params) mg "NoNumber" 92:=by walk_at "ec"
  have gM:j8 (Kf w.params) mg "NoHolder" 104:=by walk_at "ec"
  have gJ:j8 (Kf w.params) mg "NotYours" 116:=by walk_at "ec"
  have gK:j8 (Kf w.params) mg "NotAlone" 128:=by walk_at "ec"
  have jg:j8 (Kf w.params) mg "TooMuch" 140:=by walk_at "ec"
  have vK:j8 (Kf w.params) mg "Full" 152:=by walk_at "ec"
  have dF:j8 (Kf w.params) mg "NoRow" 224:=by walk_at "ec"
  have RB:BC (Kf w.params) 748:=Zo dz;have RR:RC (Kf w.params) 748:=RB.r;have CFm:CF mg:=⟨yp,J1⟩;have RD:DC (Kf w.params) 997:=Zh cG;have C:Mth mg:=⟨jL⟩;have CS:Cst mg:=⟨jL,iW⟩;have CNm:CN mg:=⟨yq,J0⟩;have T1:∀ a,ErA eE a->PySem.W.exmOne (Kf w.params) (.ref a) (.ref 43)=some true/\(∀ b∈([200,152,212,188,104,80,92,176,68,56,224,128,116,140]:List Addr),(kitOne (Kf w.params) (.ref a) (.ref b)).isSome=true)/\N8 (Kf w.params) a:=fun a h=>by
   rcases h with ⟨k,rfl⟩ | rfl| rfl
   ·cases k
    ·exact ⟨by walk_at "k",adO.mp (by kernel_rfl),dI.x⟩
    ·exact ⟨by walk_at "k",adO.mp (by kernel_rfl),gJ.x⟩
    ·exact ⟨by walk_at "k",adO.mp (by kernel_rfl),gM.x⟩
    ·exact ⟨by walk_at "k",adO.mp (by kernel_rfl),cg.x⟩
    ·exact ⟨by walk_at "k",adO.mp (by kernel_rfl),jg.x⟩
    ·exact ⟨by walk_at "k",adO.mp (by kernel_rfl),gK.x⟩
    ·exact ⟨by walk_at "k",adO.mp (by kernel_rfl),vK.x⟩
    ·exact ⟨by walk_at "k",adO.mp (by kernel_rfl),eN.x⟩
   ·exact ⟨by walk_at "k",adO.mp (by kernel_rfl),gn.x⟩
   ·exact ⟨by walk_at "k",adO.mp (by kernel_rfl),pY.x⟩
  have TT74:vL (Kf w.params) eE [200,152,212,188,104,80,92,176,68,56,224,128,116,140] 43:=⟨fun a h=>(T1 a h).1,fun a h=>(T1 a h).2.1,fun a h=>(T1 a h).2.2,by kernel_rfl,by kernel_rfl⟩;have g1:=aat (P:=P) (w:=w) (base:=base) nF C;have g2:=LR (P:=P) (w:=w) (base:=base) cJ B CS;have g3:=aaK cJ g2 iU B CS;have g4:=Lx (P:=P) (w:=w) (base:=base) eX Bt;have g5:=LC (T:=[]) nF eX g4 g1 dg B C Gm;have g6:=aaB (P:=P) (w:=w) (base:=base) (T:=[]) fZ;have g7:=aaN (P:=P) (w:=w) (base:=base) (T:=[]) bL B;have g8:=HX (P:=P) (w:=w) (base:=base) (T:=[]) gj B CNm;have g9:=Cu (T:=[]) gj g8 bA gM;have g10:=aco (P:=P) (w:=w) (base:=base) (T:=[]) dF fK;have g11:=acp (P:=P) (w:=w) (base:=base) (T:=[]) dF eH B CFm;have g12:=aaw (P:=P) (w:=w) (base:=base) (T:=[]) eF B;have g13:=aau (T:=[]) eF g12 dh B;have g14:=Mt (P:=P) (w:=w) (base:=base) (mg:=mg) bB B RR;have g15:=Cy (P:=P) (w:=w) (base:=base) (mg:=mg) aV B RR;have g16:=Mq (P:=P) (w:=w) (base:=base) (mg:=mg) (T:=[]) (c:=eC) cL RR;have g17:=Ib (P:=P) (w:=w) (base:=base) (mg:=mg) bV B RR;have g18:=Ms (P:=P) (w:=w) (base:=base) (mg:=mg) (T:=[]) aP B RR vK xq;have g19:=Cv (P:=P) (w:=w) (base:=base) (mg:=mg) (T:=[]) bh B RR dI;have g20:=Cw (T:=[]) bh RR g19 aq B gJ;have g21:=aaO (P:=P) (w:=w) (base:=base) fO;have g22:=YT (P:=P) (w:=w) (base:=base) fL;have g23:=acn (P:=P) (w:=w) (base:=base) dB;have g24:=aas (P:=P) (w:=w) (base:=base) c7;have g25:=Ie (T:=[]) fO fL g21 g22 cB B RR;have g26:=Mz (T:=[]) (c:=eC) RR aq dB g20 g23 cU;have g27:=Mr (T:=[]) (c:=eC) bA RR aq g20 g9 cM;have g28:=Mu (T:=[]) (c:=eC) bA bV aP RR aq fL dB g22 cB g20 g23 g9 g25 g18 g17 cO B jg gK;have g29:=Mx (T:=[]) (c:=eC) dg bA bV aP RR g9 g18 g17 cg g5 bT B C;have g30:=Mw (T:=[]) (c:=eC) iU g3 fU B RR eN;have g31:=MN (T:=[]) (c:=eC) RB fU g30 bD Kz j4;have g32:=Ig (P:=P) (w:=w) (base:=base) (mg:=mg) BX B RB;have g33:=MK (P:=P) (w:=w) (base:=base) (mg:=mg) Dr B RB;have g34:=acq (P:=P) (w:=w) (base:=base) fM C;have g35:=aaL (P:=P) (w:=w) (base:=base) (mg:=mg) (T:=[]) bx B RB;have g36:=YS (T:=[]) (c:=eC) eX g4 RR aq g20 RB fM bx g34 g35 bU B gn Bu Y8;have g37:=aaD (T:=[]) c7 g24 tX B;have g38:=LQ (P:=P) (w:=w) (base:=base) vQ;have g39:=LK (T:=[]) tX vQ g37 g38 j5 B;have g40:=aaP (T:=[]) RR RB bx g35 j5 g39 bW pY tQ;have g41:=MJ (T:=[]) (c:=eC) dg RR aq c7 g20 cg g5 RB g24 bW g40 cQ B;have g42:=aaz (T:=[]) gj g8 dF gD;have g43:=aav (P:=P) (w:=w) (base:=base) (T:=[]) dF iT B;have g44:=aay (T:=[]) eH gD g11 g42 eG zB JZ;have g45:=aaA (P:=P) (w:=w) (base:=base) cI jU;have g46:=MF (P:=P) (w:=w) (base:=base) (mg:=mg) (T:=[]) dD RD;have g47:=Mf (T:=[]) (e:=eE) RR cM RB RD g27 nJ zV;have g48:=Mp (T:=[]) (e:=eE) RR cU RB RD g26 nW zV;have g49:=Ma (T:=[]) (e:=eE) cL RR RB RD g16 nH zV;have g50:=Mj (T:=[]) (e:=eE) RR RB cQ RD g41 nT zV;have g51:=Mi (T:=[]) (e:=eE) dh RR cO RB RD g28 g13 nQ B;have g52:=Ml (T:=[]) (e:=eE) dh RR bT RB RD g13 g29 nU B jL;have g53:=Mh (T:=[]) (e:=eE) dh RR RB bU RD g13 g36 nP B;have g54:=HY (T:=[]) cI RD g45 lO B eN iW jL zV;have g55:=Ia (T:=[]) (c:=eC) bD RD g31 lQ dz zV;have g56:=Mg (T:=[]) (c:=eC) bB aV RR RD g14 g15 nM B dI jL;have KD_AHEAD:KD P w (Kf w.params) 782 (Nb tyA):=KD.of (n:=2) (by decide) (by kernel_rfl) (by decide+kernel);have KD_BEHIND:KD P w (Kf w.params) 785 (Nb tyB):=KD.of (n:=17) (by decide) (by kernel_rfl) (by decide+kernel);have KD_ANSWERS:KD P w (Kf w.params) 974 (Nb tyN):=KD.of (n:=19) (by decide) (by kernel_rfl) (by decide+kernel);have vA:∀ f sp,(f,sp)∈at7 (Kf w.params)->FnV P w (Kf w.params) mg base (CXE P w) 12 ["desk","told"] f sp:=lF ⟨⟨_,g52,nU.b⟩,nU.F.kp⟩ (lF ⟨⟨_,g47,nJ.b⟩,nJ.F.kp⟩ (lF ⟨⟨_,g51,nQ.b⟩,nQ.F.kp⟩ (lF ⟨⟨_,g48,nW.b⟩,nW.F.kp⟩ (lF ⟨⟨_,g50,nT.b⟩,nT.F.kp⟩ (lF ⟨⟨_,g53,nP.b⟩,nP.F.kp⟩ (lF ⟨⟨_,g49,nH.b⟩,nH.F.kp⟩ (lF ⟨⟨_,g54,lO.b⟩,lO.F.kp⟩ (lF ⟨⟨_,g55,lQ.b⟩,lQ.F.kp⟩ (lF ⟨⟨_,g56,nM.b⟩,nM.F.kp⟩ (fun _ _ h=>nomatch h))))))))));have dt74:DT (Kf w.params) [] 748 997 eE (Nb tyA) (Nb tyB) (Nb tyN) (at7 (Kf w.params)):=by
   refine ⟨fun d=>?_,⟨783,842,by kernel_rfl,sqk (l:=[("a",1325),("aw",1326)]) (n:=0) (by kernel_rfl) (by decide),by kernel_rfl,adT.mpr ⟨7,rfl⟩⟩,⟨784,849,by kernel_rfl,sqk (l:=[("",1328)]) (n:=0) (by kernel_rfl) (by decide),by kernel_rfl,adT.mpr ⟨8,rfl⟩⟩,⟨802,973,by kernel_rfl,sqk (l:=[("n",1384)]) (n:=0) (by kernel_rfl) (by decide),by kernel_rfl,adT.mpr ⟨9,rfl⟩⟩⟩;cases d
   ·exact ⟨786,856,by kernel_rfl,sqk (l:=[("arn",1333),("arnr",1334)]) (n:=0) (by kernel_rfl) (by decide),by kernel_rfl,adT.mpr ⟨0,rfl⟩⟩
   ·exact ⟨787,863,by kernel_rfl,sqk (l:=[("naa",1337)]) (n:=0) (by kernel_rfl) (by decide),by kernel_rfl,adT.mpr ⟨1,rfl⟩⟩
   ·exact ⟨788,870,by kernel_rfl,sqk (l:=[("nana",1340)]) (n:=0) (by kernel_rfl) (by decide),by kernel_rfl,adT.mpr ⟨2,rfl⟩⟩
   ·exact ⟨789,877,by kernel_rfl,sqk (l:=[("na",1343)]) (n:=0) (by kernel_rfl) (by decide),by kernel_rfl,adT.mpr ⟨3,rfl⟩⟩
   ·exact ⟨790,884,by kernel_rfl,sqk (l:=[("nar",1346)]) (n:=0) (by kernel_rfl) (by decide),by kernel_rfl,adT.mpr ⟨4,rfl⟩⟩
   ·exact ⟨791,891,by kernel_rfl,sqk (l:=[("nan",1349),("nann",1350)]) (n:=0) (by kernel_rfl) (by decide),by kernel_rfl,adT.mpr ⟨5,rfl⟩⟩
   ·exact ⟨792,898,by kernel_rfl,sqk (l:=[("",1353)]) (n:=0) (by kernel_rfl) (by decide),by kernel_rfl,adT.mpr ⟨6,rfl⟩⟩
  have g57:=aax (T:=[]) fK iT eG cI RD g10 g43 g44 g45 jF B CQ Dp KD_AHEAD zR KD_BEHIND xT KD_ANSWERS vA;have g58:=aaI (P:=P) (w:=w) (base:=base) (T:=[]) (e:=eE) bQ B TT74 pY vK tQ Dn gM cg dI gn jU eN dF gK gJ jg;have g59:=Ly (T:=[]) (e:=eE) RD bQ dZ jF g57 g58 bR TT74 YC;have g60:=aaM (T:=[]) (e:=eE) cL RR cU cM cO bT RB bU cQ g27 g26 g16 g41 g28 g29 g36 dM B;have g61:=Lz (T:=[]) (e:=eE) bQ dZ g58 dM g60 fQ TT74;have g62:=aaE (P:=P) (w:=w) (base:=base) (T:=[]) fP B;have g63:=aaC (T:=[]) bL g7 dX B;have g64:=YW (P:=P) (w:=w) (base:=base) (T:=[]) cX;have g65:=aaH (T:=[]) bL g7 cX g64 gF B;have g66:=aaF (P:=P) (w:=w) (base:=base) (T:=[]) gP B;have g67:=aaG (T:=[]) (e:=eE) bB aV RR g14 g15 bR g59 bF B dt74 TT74;exact aaJ fZ bB aV RR g14 g15 fQ fP dX gF gP bF g6 dD g46 g62 g63 g66 g61 g65 g67 acL B dz cG dt74 TT74 bD g31 bL g7 bR g59
