import PyProof.Rows.All
import Wide.All
import OpenK.AllK
import Wide.FinOn
import Lean
import PyProof.EqAt
import PyProof.EqKinds
import PyProof.TupleCall
import KE.KSortTup
import PySem.Challenge.RW_sluice_k67_moves_refused
set_option Elab.async false
set_option linter.all false
set_option maxRecDepth 100000
set_option maxHeartbeats 4000000
local macro_rules | `(tactic| omega) => `(tactic| first | lia | omega (splitDisjunctions := true))
local macro_rules | `(tactic| walk_at "sc") => `(tactic| exact ⟨rfl,rfl,rfl,by decide +kernel,rfl,by decide +kernel,by decide +kernel⟩)
abbrev ac5:=@List.length_map
abbrev aeD:=@List.getElem?_eq_getElem
abbrev aeJ:=@List.getElem?_eq_some_iff
abbrev aeK:=@List.mem_append_right
abbrev aeL:=@Nat.le_refl
abbrev aeM:=@List.getD_eq_getElem?_getD
abbrev aeN:=@List.map_append
abbrev aeO:=@List.mem_of_getElem?
abbrev aeP:=@PySem.Heap.get?_push_of_some
abbrev aeQ:=@List.getElem?_map
abbrev aeR:=@Bool.false_ne_true
abbrev aeS:=@List.mem_cons
abbrev aeT:=@Int.toNat_natCast
abbrev aeU:=@List.take_of_length_le
abbrev aeV:=@PySem.Heap.lt_size
abbrev aeW:=@PySem.Heap.get?_push_size
abbrev aeX:=@List.size_toArray
abbrev aeY:=@Option.some.inj
abbrev aeZ:=@PySem.boot_len
abbrev ae0:=@List.length_take
abbrev ae1:=@List.length_append
abbrev ae2:=@PyProof.Rows.boot_isinstance
abbrev ae3:=@PySem.F.plainAttrs_list
abbrev ae4:=@List.mem_cons_of_mem
abbrev ae5:=@PySem.F.slot_list_append
abbrev ae6:=@PySem.F.type_list_append
abbrev ae7:=@PySem.PassesOwn.never
abbrev ae8:=@List.not_mem_nil
abbrev ae9:=@Int.eq_ofNat_of_zero_le
abbrev afa:=@List.mem_append
abbrev afb:=@List.length_cons
abbrev afc:=@List.mem_map
abbrev afd:=@List.mem_cons_self
abbrev afe:=@PyProof.Rows.boot_list
abbrev afg:=@List.map_cons
abbrev afh:=@List.getElem_of_mem
abbrev afi:=@Bool.and_eq_true
abbrev afj:=@Nat.lt_of_lt_of_le
abbrev afk:=@List.mem_range
abbrev afl:=@List.mem_singleton
abbrev afm:=@PySem.mem_of_lookup
abbrev afn:=@List.length_replicate
abbrev afo:=@List.take_add_one
abbrev afp:=@PyProof.Rows.callWith_type1
abbrev afq:=@List.length_set
abbrev afr:=@Nat.ne_of_lt
abbrev afs:=@Nat.zero_le
abbrev aft:=@PySem.Heap.get?_update_other
abbrev afu:=@List.getElem?_eq_none
abbrev afv:=@List.sublist_cons_self
abbrev afw:=@List.mem_append_left
abbrev afx:=@List.getElem_mem
abbrev afy:=@List.Sublist.append_left
abbrev afz:=@List.length_range
abbrev afA:=@List.all_eq_true
abbrev afB:=@Nat.le_trans
abbrev afC:=@List.sublist_append_right
abbrev afD:=@List.map_set
abbrev afE:=@PySem.W.kia_one
abbrev afF:=@Array.length_toList
abbrev afG:=@List.replicate_succ
abbrev afH:=@Nat.lt_irrefl
abbrev afI:=@Bool.eq_iff_iff
abbrev afJ:=@List.nodup_cons
abbrev afK:=@List.length_nil
abbrev afL:=@List.getElem?_set_ne
abbrev afM:=@List.getElem?_set_self
abbrev afN:=@List.getElem?_range
abbrev afO:=@List.getElem?_append_left
abbrev afP:=@List.pairwise_iff_getElem
abbrev afQ:=@PyProof.Rows.boot_sum
abbrev afR:=@List.getElem_inj
abbrev afS:=@Int.le_refl
abbrev afT:=@PySem.Heap.size_push
abbrev afU:=@List.mem_map_of_mem
abbrev afV:=@PySem.Calls.spliced_cons
abbrev afW:=@PySem.Heap.get?_update_self
abbrev afX:=@Bool.false_eq_true
abbrev afY:=@Int.emod_lt_of_pos
abbrev afZ:=@List.getElem?_zip_eq_some
abbrev af0:=@List.mem_or_eq_of_mem_set
abbrev af2:=@Option.isSome_iff_exists
abbrev af3:=@Int.emod_nonneg
abbrev af4:=@List.flatten_cons
abbrev af5:=@List.set_cons_succ
abbrev af6:=@List.take_append_drop
abbrev af7:=@PyProof.Rows.boot_all
abbrev af8:=@PySem.F.slot_range_iterator_next
abbrev af9:=@PySem.W.mg_of
abbrev aga:=@PySem.Calls.spliced_nil
abbrev agb:=@List.map_nil
abbrev agc:=@List.length_drop
abbrev agd:=@PySem.F.plain_min_loop
abbrev agf:=@List.take_length
abbrev agg:=@List.map_map
abbrev agh:=@List.toList_toArray
abbrev agi:=@List.getElem?_replicate
abbrev agj:=@PySem.W.callWith_K
abbrev agk:=@List.range_succ
abbrev agl:=@List.append_assoc
abbrev agm:=@PySem.W.methodCall_KW
abbrev agn:=@Nat.lt_succ_self
abbrev ago:=@PySem.Around.under_plainId
abbrev agp:=@List.nil_sublist
abbrev agq:=@List.getElem?_append_right
abbrev agr:=@List.filterMap_cons
abbrev ags:=@List.length_zipWith
abbrev agt:=@List.append_nil
abbrev agu:=@PySem.W.KasT.kasWp_bind
abbrev agv:=@Nat.not_lt_zero
abbrev agw:=@List.sublist_append_left
abbrev agx:=@List.nodup_append
abbrev agy:=@List.getElem_take
abbrev agz:=@List.any_cons
open PySem.W (fnOf topStub topFrame segRun piecesOf topRun restOf piece_app xlAt recOk kmHook instObj methodObj lookIn plainGet hasDictIn handedIn plainGet_of isFn plainOver takerIn makesIn emptyDict keepIn kitOne kitx_list kitx_dict codeIn readsIn findCls nsIn XL)
namespace L2
open PySem
def inClass (s:Stmt)(j:Nat):Stmt:=match s with
 | .ClassDef _ _ _ body _ _ _ _ _ _ _=>body.getD j (.Pass ⟨0,0,0,0⟩)
 | _=>.Pass ⟨0,0,0,0⟩
def iD (s:Stmt):Arguments:=match s with
 | .FunctionDef _ a _ _ _ _ _ _ _ _=>a
 | _=>{ posonlyargs:=[],args:=[],vararg:=none,kwonlyargs:=[],kw_defaults:=[],kwarg:=none,defaults:=[] }
def dZ (s:Stmt):List Stmt:=match s with
 | .FunctionDef _ _ b _ _ _ _ _ _ _=>b
 | _=>[]
def ao (s:Stmt):Scope:=match s with
 | .FunctionDef _ _ _ _ _ _ sc _ _ _=>sc
 | _=>{ kind:=.function,names:=[],isGenerator:=false,isCoroutine:=false }
end L2
namespace My
open PySem L2
noncomputable section
noncomputable def top0 (i:Nat):Stmt:=PySem.Challenge.pw_sluice_k67_moves_refused.main.body.getD i (.Pass ⟨0,0,0,0⟩)
def inC (i j:Nat):Stmt:=inClass (top0 i) j
noncomputable def en (P:Params)(x:Str)(t:Tok)(v:Value):DictEntry:=⟨PyData.keyHash P x,.str x t,v⟩
noncomputable def er (P:Params)(x:Str)(t:Tok)(r:Nat):DictEntry:=en P x t (.ref r)
noncomputable def eb (P:Params):Nat->List (Str × String)->List DictEntry->List DictEntry
 | _,[],r=>r
 | n,x::l,r=>en P x.1 n (.builtin x.2)::eb P (n+1) l r
noncomputable def et (P:Params):Nat->List (Str × String)->List DictEntry->List DictEntry
 | _,[],r=>r
 | n,x::l,r=>en P x.1 n (.type x.2)::et P (n+1) l r
noncomputable def tq (a:Array Value):Obj:={ cls:=.type "tuple",data:=.seq a }
noncomputable def fc (a:Array Value):Obj:={ cls:=.type "code",data:=.fields a }
noncomputable def cp (n:Nat):Value:=.str "/claim/cut.py" n
noncomputable def ot:Obj:=tq #[]
noncomputable def oe:Obj:={ cls:=.none,data:=.fields #[] }
noncomputable def fl (l:List Value):Obj:={ cls:=.none,data:=.fields ⟨l⟩ }
noncomputable def dO (l:List DictEntry)(n:Nat):Obj:={ cls:=.type "dict",data:=.dict ⟨l⟩ n }
noncomputable def bm (x:String)(v:Value):Obj:={ cls:=.type "builtin_function_or_method",data:=.fields #[.builtin x,v] }
noncomputable def su (a:Nat):Obj:={ cls:=.type "super",data:=.fields #[.ref a,.ref a,.ref a] }
noncomputable def fr (a b:Nat)(v:Value):Obj:={ cls:=.type "frame",slots:=#[some (.ref a),some (.ref 3),some (.ref b),none,some v,none,some (.ref 0)] }
noncomputable def t3:List (Int × Nat)->List Value
 | []=>[]
 | (a,b)::l=>.int a 0:: .int 0 0:: .ref b::t3 l
noncomputable def tv:Nat->List Str->List Value
 | _,[]=>[]
 | n,x::l=>.str x n::tv (n+1) l
def tn (n:Nat)(l:List Str):Obj:=tq ⟨tv n l⟩
def ca (n q:Str)(a:Nat)(l c:Int)(r f:Nat):Obj:=fc #[.str n a,.str q (a+1),cp (a+2),.int l 0,.int c 0,.int 0 0,.int 0 0,.int 3 0,.ref r,.bool true,.int 181 0,.ref (r+1),.none,.ref (r+2),.ref (r+3),.ref (r+4),.int f 0,.int l 0,cp (f+1)]
def cb (n q:Str)(a:Nat)(l c:Int)(r f:Nat):Obj:=fc #[.str n a,.str q (a+1),cp (a+2),.int l 0,.int c 0,.int 0 0,.int 0 0,.int 3 0,.ref r,.bool true,.int 181 0,.ref (r+1),.none,.none,.none,.ref (r+2),.int f 0,.int l 0,cp (f+1)]
def cc (n q:Str)(a:Nat)(l:Int)(r f:Nat):Obj:=fc #[.str n a,.str q (a+1),cp (a+2),.int l 0,.int 0 0,.int 0 0,.int 0 0,.int 0 0,.ref r,.bool false,.int 181 0,.ref (r+1),.none,.none,.none,.none,.int f 0,.int l 0,cp (f+1)]
noncomputable def po (x q:Str)(s:Stmt):Obj:={ cls:=.none,data:=.func { name:=x,qualname:=q,params:=iD s,body:=.stmts (dZ s),scope:=ao s,globals:=0,closure:=[],defaults:=.none,kwdefaults:=.none } }
noncomputable def fd (x q:Str)(s:Stmt)(m:Value)(c:Nat)(v:Value):Obj:=⟨.type "function",none,.func (fnOf x q (iD s) (dZ s) (ao s) v .none .none m none (.ref c) .none),#[]⟩
def fo (x q:Str)(s:Stmt)(m:Value)(c:Nat):Obj:=fd x q s m c .none
noncomputable def mv0:Value:=.str "__main__" 164
noncomputable def mv1:Value:=.str "sluice.rivers" 491
noncomputable def mv2:Value:=.str "sluice.turns" 857
noncomputable def mv3:Value:=.str "sluice.books" 1078
noncomputable def mv4:Value:=.str "law_sluice_k67_moves_refused" 1202
noncomputable def mv5:Value:=.str "sluice.bounds" 194
noncomputable def mv6:Value:=.str "sluice.errors" 215
noncomputable def mv7:Value:=.str "sluice.licences" 547
noncomputable def mv8:Value:=.str "sluice.rolls" 642
noncomputable def mv9:Value:=.str "sluice.flows" 831
noncomputable def mv10:Value:=.str "sluice.dealing" 910
noncomputable def abR:Value:=.str "sluice.ponds" 918
noncomputable def ac0:Value:=.str "sluice.days" 997
noncomputable def aen:Value:=.str "sluice.moves" 1044
def Sg (P:Params):List DictEntry:=[en P "__doc__" 166 .none,en P "__package__" 167 .none,en P "__loader__" 168 (.builtin "__main__.__loader__#opaque"),en P "__spec__" 169 .none,er P "__annotations__" 170 6,er P "__builtins__" 171 4,en P "__file__" 173 (.str "/claim/cut.py" 172),en P "__cached__" 174 .none]
def acF (P:Params):List DictEntry:=Sg P++[er P "_wall" 193 21,en P "MOST_WATER" 197 (.int 1000000000000 196),en P "LONGEST_NAME" 199 (.int 8 198),en P "LETTERS" 201 (.str "abcdefghijklmnopqrstuvwxyz" 200),er P "is_water" 208 28,er P "is_name" 214 33,er P "SluiceError" 234 43,er P "NoRiver" 250 56,er P "NoReach" 266 68,er P "NoLicence" 282 80,er P "NoNumber" 298 92,er P "NoHolder" 314 104,er P "NotYours" 330 116,er P "NotAlone" 346 128,er P "TooMuch" 362 140,er P "Full" 378 152,er P "NoPaper" 394 164,er P "NoCut" 410 176,er P "NoPond" 426 188,er P "NoDay" 442 200,er P "Fixed" 458 212,er P "Harms" 474 224,er P "NoRow" 490 236,en P "MOST_REACHES" 494 (.int 40 493),en P "MOUTH" 497 (.int (-1) 496),er P "comes_to_mouth" 507 245,er P "is_river" 513 250,er P "way_of" 522 257,er P "tops_first" 530 264,er P "mouths_of" 536 269]
def acE (P:Params):List DictEntry:=acF P++[er P "stretch_of" 546 276,en P "LAST_DAY" 550 (.int 1000000 549),er P "is_licence" 562 283,er P "reaches_of" 574 290,er P "day_filed" 581 297,er P "start_of" 588 304,er P "gives_back" 595 311,er P "most_of" 602 318,er P "with_start" 610 325,er P "with_most" 618 332,er P "ranked" 626 339,er P "groups_of" 635 346,er P "wants_of" 641 351,en P "MOST_LICENCES" 645 (.int 60 644),er P "look_at_name" 652 358,er P "Roll" 830 493,er P "natural_of" 842 504,er P "flows_of" 856 511]
def acD (P:Params):List DictEntry:=acE P++[er P "count_ways" 869 518,er P "whole_turns" 875 523,er P "draw" 885 530,er P "take_whole_turns" 891 535,er P "take_one_turn" 897 540,er P "deal_turns" 909 547,er P "deal" 917 552,en P "WHOLE" 921 (.int 1000 920),er P "pond_start" 932 559,er P "look_at_let" 946 566,er P "let_out" 962 573,er P "pond_calls" 978 580,er P "evening" 996 587,er P "morning_of" 1011 594,er P "moves_of" 1031 601,er P "used_of" 1037 606,er P "day_of" 1043 611,er P "moved" 1055 618,er P "harm_of" 1077 625,en P "MOST_PONDS" 1081 (.int 10 1080),er P "greatest_of" 1087 630]
def ad4 (P:Params):List DictEntry:=acD P++[er P "Book" 1201 711,er P "_law_cell_at" 1211 720,er P "_law_pebble" 1220 727,er P "_law_pebbles" 1226 732,er P "_law_places" 1238 739,er P "_law_laid" 1248 746,er P "_law_walk" 1258 753,er P "_law_moved" 1272 760,er P "_law_kinds" 1280 767,er P "_law_due" 1293 774,er P "_law_tried" 1312 781,er P "_law_wished" 1325 788,er P "_law_book" 1336 795,er P "law" 1358 802]
def Zb:List Value:=t3 []
def Za:List Value:=t3 [(1,20),(8,27),(10,32),(13,39),(15,52),(17,64),(19,76),(21,88),(23,100),(25,112),(27,124),(29,136),(31,148),(33,160),(35,172),(37,184),(39,196),(41,208),(43,220),(45,232),(50,244),(57,249),(63,256),(68,263),(70,268)]
def Y9:List Value:=Za++t3 [(72,275),(81,282),(86,289),(89,296),(91,303),(93,310),(95,317),(97,324),(99,331),(101,338),(103,345),(108,350),(112,357),(115,364),(211,503),(217,510)]
def Y8:List Value:=Y9++t3 [(224,517),(230,522),(234,529),(237,534),(243,539),(251,546),(260,551),(272,558),(275,565),(283,572),(290,579),(296,586),(307,593),(310,600),(318,605),(322,610),(331,617),(335,624),(348,629)]
def acC:List Value:=Y8++t3 [(351,636),(418,719),(422,726),(425,731),(427,738),(435,745),(440,752),(447,759),(462,766),(466,773),(478,780),(490,787),(500,794),(512,801)]
def aex:Obj:={ cls:=.none,data:=Data.dict #[] }
def Vy (P:Params):Obj:=dO (en P "__name__" 165 mv4::ad4 P) 92
def acw:Obj:=ca "_wall" "_wall" 187 1 1 15 191
def acv:Obj:=fo "_wall" "_wall" (top0 0) mv0 20
def acu:Obj:=ca "is_water" "is_water" 202 8 1 22 206
def acs:Obj:=fo "is_water" "is_water" (top0 5) mv5 27
def acr:Obj:=cb "is_name" "is_name" 209 10 1 29 212
def acq:Obj:=fo "is_name" "is_name" (top0 6) mv5 32
def acp (P:Params):Obj:=dO [en P "__module__" 224 mv6,en P "__firstlineno__" 228 (.int 13 227),er P "__static_attributes__" 229 41,er P "__weakref__" 231 44,en P "__doc__" 232 .none] 3
def aco:Obj:={ cls:=.type "type",data:=Data.cls { name:="SluiceError",bases:=[.type "ValueError"],mro:=[.ref 43,.type "ValueError",.type "Exception",.type "BaseException",.type "object"],ns:=42,qualname:="SluiceError",subclasses:=[.ref 56,.ref 68,.ref 80,.ref 92,.ref 104,.ref 116,.ref 128,.ref 140,.ref 152,.ref 164,.ref 176,.ref 188,.ref 200,.ref 212,.ref 224,.ref 236] },slots:=#[some (.ref 34),none,some (.str "SluiceError" 217),some (.str "SluiceError" 225),some (.builtin "ValueError.__new__"),some (.bool true)] }
def acn:Obj:={ cls:=.type "getset_descriptor",data:=Data.fields #[.str "__weakref__" 230,.ref 43,.builtin "ExceptionGroup.__weakref__",.none] }
def acj (P:Params):Obj:=dO [en P "__module__" 242 mv6,en P "__firstlineno__" 246 (.int 15 245),er P "__static_attributes__" 247 54,en P "__doc__" 248 .none] 2
def aci:Obj:={ cls:=.type "type",data:=Data.cls { name:="NoRiver",bases:=[.ref 43],mro:=[.ref 56,.ref 43,.type "ValueError",.type "Exception",.type "BaseException",.type "object"],ns:=55,qualname:="NoRiver" },slots:=#[some (.ref 47),none,some (.str "NoRiver" 235),some (.str "NoRiver" 243),some (.builtin "ValueError.__new__"),some (.bool true)] }
def ach (P:Params):Obj:=dO [en P "__module__" 258 mv6,en P "__firstlineno__" 262 (.int 17 261),er P "__static_attributes__" 263 66,en P "__doc__" 264 .none] 2
def acg:Obj:={ cls:=.type "type",data:=Data.cls { name:="NoReach",bases:=[.ref 43],mro:=[.ref 68,.ref 43,.type "ValueError",.type "Exception",.type "BaseException",.type "object"],ns:=67,qualname:="NoReach" },slots:=#[some (.ref 59),none,some (.str "NoReach" 251),some (.str "NoReach" 259),some (.builtin "ValueError.__new__"),some (.bool true)] }
def acf (P:Params):Obj:=dO [en P "__module__" 274 mv6,en P "__firstlineno__" 278 (.int 19 277),er P "__static_attributes__" 279 78,en P "__doc__" 280 .none] 2
def ace:Obj:={ cls:=.type "type",data:=Data.cls { name:="NoLicence",bases:=[.ref 43],mro:=[.ref 80,.ref 43,.type "ValueError",.type "Exception",.type "BaseException",.type "object"],ns:=79,qualname:="NoLicence" },slots:=#[some (.ref 71),none,some (.str "NoLicence" 267),some (.str "NoLicence" 275),some (.builtin "ValueError.__new__"),some (.bool true)] }
def acd (P:Params):Obj:=dO [en P "__module__" 290 mv6,en P "__firstlineno__" 294 (.int 21 293),er P "__static_attributes__" 295 90,en P "__doc__" 296 .none] 2
def ab9:Obj:={ cls:=.type "type",data:=Data.cls { name:="NoNumber",bases:=[.ref 43],mro:=[.ref 92,.ref 43,.type "ValueError",.type "Exception",.type "BaseException",.type "object"],ns:=91,qualname:="NoNumber" },slots:=#[some (.ref 83),none,some (.str "NoNumber" 283),some (.str "NoNumber" 291),some (.builtin "ValueError.__new__"),some (.bool true)] }
def Y6 (P:Params):Obj:=dO [en P "__module__" 306 mv6,en P "__firstlineno__" 310 (.int 23 309),er P "__static_attributes__" 311 102,en P "__doc__" 312 .none] 2
def Y5:Obj:={ cls:=.type "type",data:=Data.cls { name:="NoHolder",bases:=[.ref 43],mro:=[.ref 104,.ref 43,.type "ValueError",.type "Exception",.type "BaseException",.type "object"],ns:=103,qualname:="NoHolder" },slots:=#[some (.ref 95),none,some (.str "NoHolder" 299),some (.str "NoHolder" 307),some (.builtin "ValueError.__new__"),some (.bool true)] }
def Y4 (P:Params):Obj:=dO [en P "__module__" 322 mv6,en P "__firstlineno__" 326 (.int 25 325),er P "__static_attributes__" 327 114,en P "__doc__" 328 .none] 2
def Y0:Obj:={ cls:=.type "type",data:=Data.cls { name:="NotYours",bases:=[.ref 43],mro:=[.ref 116,.ref 43,.type "ValueError",.type "Exception",.type "BaseException",.type "object"],ns:=115,qualname:="NotYours" },slots:=#[some (.ref 107),none,some (.str "NotYours" 315),some (.str "NotYours" 323),some (.builtin "ValueError.__new__"),some (.bool true)] }
def YZ (P:Params):Obj:=dO [en P "__module__" 338 mv6,en P "__firstlineno__" 342 (.int 27 341),er P "__static_attributes__" 343 126,en P "__doc__" 344 .none] 2
def YX:Obj:={ cls:=.type "type",data:=Data.cls { name:="NotAlone",bases:=[.ref 43],mro:=[.ref 128,.ref 43,.type "ValueError",.type "Exception",.type "BaseException",.type "object"],ns:=127,qualname:="NotAlone" },slots:=#[some (.ref 119),none,some (.str "NotAlone" 331),some (.str "NotAlone" 339),some (.builtin "ValueError.__new__"),some (.bool true)] }
def YW (P:Params):Obj:=dO [en P "__module__" 354 mv6,en P "__firstlineno__" 358 (.int 29 357),er P "__static_attributes__" 359 138,en P "__doc__" 360 .none] 2
def YT:Obj:={ cls:=.type "type",data:=Data.cls { name:="TooMuch",bases:=[.ref 43],mro:=[.ref 140,.ref 43,.type "ValueError",.type "Exception",.type "BaseException",.type "object"],ns:=139,qualname:="TooMuch" },slots:=#[some (.ref 131),none,some (.str "TooMuch" 347),some (.str "TooMuch" 355),some (.builtin "ValueError.__new__"),some (.bool true)] }
def YS (P:Params):Obj:=dO [en P "__module__" 370 mv6,en P "__firstlineno__" 374 (.int 31 373),er P "__static_attributes__" 375 150,en P "__doc__" 376 .none] 2
def YQ:Obj:={ cls:=.type "type",data:=Data.cls { name:="Full",bases:=[.ref 43],mro:=[.ref 152,.ref 43,.type "ValueError",.type "Exception",.type "BaseException",.type "object"],ns:=151,qualname:="Full" },slots:=#[some (.ref 143),none,some (.str "Full" 363),some (.str "Full" 371),some (.builtin "ValueError.__new__"),some (.bool true)] }
def YM (P:Params):Obj:=dO [en P "__module__" 386 mv6,en P "__firstlineno__" 390 (.int 33 389),er P "__static_attributes__" 391 162,en P "__doc__" 392 .none] 2
def YL:Obj:={ cls:=.type "type",data:=Data.cls { name:="NoPaper",bases:=[.ref 43],mro:=[.ref 164,.ref 43,.type "ValueError",.type "Exception",.type "BaseException",.type "object"],ns:=163,qualname:="NoPaper" },slots:=#[some (.ref 155),none,some (.str "NoPaper" 379),some (.str "NoPaper" 387),some (.builtin "ValueError.__new__"),some (.bool true)] }
def YK (P:Params):Obj:=dO [en P "__module__" 402 mv6,en P "__firstlineno__" 406 (.int 35 405),er P "__static_attributes__" 407 174,en P "__doc__" 408 .none] 2
def YJ:Obj:={ cls:=.type "type",data:=Data.cls { name:="NoCut",bases:=[.ref 43],mro:=[.ref 176,.ref 43,.type "ValueError",.type "Exception",.type "BaseException",.type "object"],ns:=175,qualname:="NoCut" },slots:=#[some (.ref 167),none,some (.str "NoCut" 395),some (.str "NoCut" 403),some (.builtin "ValueError.__new__"),some (.bool true)] }
def YH (P:Params):Obj:=dO [en P "__module__" 418 mv6,en P "__firstlineno__" 422 (.int 37 421),er P "__static_attributes__" 423 186,en P "__doc__" 424 .none] 2
def YG:Obj:={ cls:=.type "type",data:=Data.cls { name:="NoPond",bases:=[.ref 43],mro:=[.ref 188,.ref 43,.type "ValueError",.type "Exception",.type "BaseException",.type "object"],ns:=187,qualname:="NoPond" },slots:=#[some (.ref 179),none,some (.str "NoPond" 411),some (.str "NoPond" 419),some (.builtin "ValueError.__new__"),some (.bool true)] }
def YF (P:Params):Obj:=dO [en P "__module__" 434 mv6,en P "__firstlineno__" 438 (.int 39 437),er P "__static_attributes__" 439 198,en P "__doc__" 440 .none] 2
def YD:Obj:={ cls:=.type "type",data:=Data.cls { name:="NoDay",bases:=[.ref 43],mro:=[.ref 200,.ref 43,.type "ValueError",.type "Exception",.type "BaseException",.type "object"],ns:=199,qualname:="NoDay" },slots:=#[some (.ref 191),none,some (.str "NoDay" 427),some (.str "NoDay" 435),some (.builtin "ValueError.__new__"),some (.bool true)] }
def YC (P:Params):Obj:=dO [en P "__module__" 450 mv6,en P "__firstlineno__" 454 (.int 41 453),er P "__static_attributes__" 455 210,en P "__doc__" 456 .none] 2
def YB:Obj:={ cls:=.type "type",data:=Data.cls { name:="Fixed",bases:=[.ref 43],mro:=[.ref 212,.ref 43,.type "ValueError",.type "Exception",.type "BaseException",.type "object"],ns:=211,qualname:="Fixed" },slots:=#[some (.ref 203),none,some (.str "Fixed" 443),some (.str "Fixed" 451),some (.builtin "ValueError.__new__"),some (.bool true)] }
def Yz (P:Params):Obj:=dO [en P "__module__" 466 mv6,en P "__firstlineno__" 470 (.int 43 469),er P "__static_attributes__" 471 222,en P "__doc__" 472 .none] 2
def Yy:Obj:={ cls:=.type "type",data:=Data.cls { name:="Harms",bases:=[.ref 43],mro:=[.ref 224,.ref 43,.type "ValueError",.type "Exception",.type "BaseException",.type "object"],ns:=223,qualname:="Harms" },slots:=#[some (.ref 215),none,some (.str "Harms" 459),some (.str "Harms" 467),some (.builtin "ValueError.__new__"),some (.bool true)] }
def Yx (P:Params):Obj:=dO [en P "__module__" 482 mv6,en P "__firstlineno__" 486 (.int 45 485),er P "__static_attributes__" 487 234,en P "__doc__" 488 .none] 2
def Yw:Obj:={ cls:=.type "type",data:=Data.cls { name:="NoRow",bases:=[.ref 43],mro:=[.ref 236,.ref 43,.type "ValueError",.type "Exception",.type "BaseException",.type "object"],ns:=235,qualname:="NoRow" },slots:=#[some (.ref 227),none,some (.str "NoRow" 475),some (.str "NoRow" 483),some (.builtin "ValueError.__new__"),some (.bool true)] }
def Yv:Obj:=ca "comes_to_mouth" "comes_to_mouth" 498 50 2 239 505
def Yu:Obj:=fo "comes_to_mouth" "comes_to_mouth" (top0 28) mv1 244
def Yt:Obj:=cb "is_river" "is_river" 508 57 1 246 511
def Ys:Obj:=fo "is_river" "is_river" (top0 29) mv1 249
def Yr:Obj:=ca "way_of" "way_of" 514 63 2 251 520
def Yq:Obj:=fo "way_of" "way_of" (top0 30) mv1 256
def Yp:Obj:=ca "tops_first" "tops_first" 523 68 1 258 528
def Yo:Obj:=fo "tops_first" "tops_first" (top0 31) mv1 263
def Yn:Obj:=cb "mouths_of" "mouths_of" 531 70 1 265 534
def Ym:Obj:=fo "mouths_of" "mouths_of" (top0 32) mv1 268
def Yl:Obj:=ca "stretch_of" "stretch_of" 537 72 3 270 544
def Yk:Obj:=fo "stretch_of" "stretch_of" (top0 33) mv1 275
def Yj:Obj:=ca "is_licence" "is_licence" 551 81 2 277 560
def Yi:Obj:=fo "is_licence" "is_licence" (top0 36) mv7 282
def Yh:Obj:=ca "reaches_of" "reaches_of" 563 86 2 284 572
def Yg:Obj:=fo "reaches_of" "reaches_of" (top0 37) mv7 289
def Ye:Obj:=ca "day_filed" "day_filed" 575 89 1 291 579
def Yd:Obj:=fo "day_filed" "day_filed" (top0 38) mv7 296
def Yc:Obj:=ca "start_of" "start_of" 582 91 1 298 586
def Yb:Obj:=fo "start_of" "start_of" (top0 39) mv7 303
def X8:Obj:=ca "gives_back" "gives_back" 589 93 1 305 593
def X7:Obj:=fo "gives_back" "gives_back" (top0 40) mv7 310
def X6:Obj:=ca "most_of" "most_of" 596 95 1 312 600
def X5:Obj:=fo "most_of" "most_of" (top0 41) mv7 317
def X4:Obj:=ca "with_start" "with_start" 603 97 2 319 608
def X3:Obj:=fo "with_start" "with_start" (top0 42) mv7 324
def XR:Obj:=ca "with_most" "with_most" 611 99 2 326 616
def XQ:Obj:=fo "with_most" "with_most" (top0 43) mv7 331
def XM:Obj:=ca "ranked" "ranked" 619 101 1 333 624
def XJ:Obj:=fo "ranked" "ranked" (top0 44) mv7 338
def XH:Obj:=ca "groups_of" "groups_of" 627 103 1 340 633
def XF:Obj:=fo "groups_of" "groups_of" (top0 45) mv7 345
def XD:Obj:=cb "wants_of" "wants_of" 636 108 2 347 639
def XC:Obj:=fo "wants_of" "wants_of" (top0 46) mv7 350
def Xz:Obj:=ca "look_at_name" "look_at_name" 646 112 1 352 650
def Xy:Obj:=fo "look_at_name" "look_at_name" (top0 49) mv8 357
def Xx:Obj:=ca "__init__" "Roll.__init__" 665 117 2 366 670
def Xw:Obj:=fo "__init__" "Roll.__init__" (inC 50 0) mv8 371
def Xv:Obj:=ca "today" "Roll.today" 673 126 1 373 677
def Xu:Obj:=fo "today" "Roll.today" (inC 50 1) mv8 378
def Xr:Obj:=ca "roll" "Roll.roll" 680 129 1 380 684
def Xq:Obj:=fo "roll" "Roll.roll" (inC 50 2) mv8 385
def Xp:Obj:=ca "holders" "Roll.holders" 687 132 1 387 691
def Xo:Obj:=fo "holders" "Roll.holders" (inC 50 3) mv8 392
def Xn:Obj:=ca "deeds" "Roll.deeds" 694 135 1 394 698
def Xm:Obj:=fo "deeds" "Roll.deeds" (inC 50 4) mv8 399
def Xl:Obj:=ca "turn" "Roll.turn" 701 138 1 401 705
def Xk:Obj:=fo "turn" "Roll.turn" (inC 50 5) mv8 406
def Xj:Obj:=tq #[.none]
def Xi:Obj:=ca "file" "Roll.file" 708 142 5 409 718
def Xh:Obj:=fd "file" "Roll.file" (inC 50 6) mv8 414 (.ref 408)
def Xg:Obj:=ca "sell" "Roll.sell" 721 152 4 416 728
def Xf:Obj:=fo "sell" "Roll.sell" (inC 50 7) mv8 421
def Xe:Obj:=ca "part" "Roll.part" 731 158 5 423 739
def Xd:Obj:=fo "part" "Roll.part" (inC 50 8) mv8 428
def Xc:Obj:=ca "drop" "Roll.drop" 742 161 3 430 748
def Xb:Obj:=fo "drop" "Roll.drop" (inC 50 9) mv8 435
def Xa:Obj:=ca "move" "Roll.move" 751 164 4 437 759
def W9:Obj:=fo "move" "Roll.move" (inC 50 10) mv8 442
def W8:Obj:=ca "look_move" "Roll.look_move" 762 173 3 444 768
def W7:Obj:=fo "look_move" "Roll.look_move" (inC 50 11) mv8 449
def W6:Obj:=cb "lapse" "Roll.lapse" 771 176 2 451 774
def W5:Obj:=fo "lapse" "Roll.lapse" (inC 50 12) mv8 454
def W4:Obj:=ca "enter" "Roll.enter" 777 190 3 456 783
def W0:Obj:=fo "enter" "Roll.enter" (inC 50 13) mv8 461
def WY:Obj:=ca "is_alone" "Roll.is_alone" 786 195 2 463 791
def WX:Obj:=fo "is_alone" "Roll.is_alone" (inC 50 14) mv8 468
def WW:Obj:=ca "look_at_number" "Roll.look_at_number" 794 198 2 470 799
def WR:Obj:=fo "look_at_number" "Roll.look_at_number" (inC 50 15) mv8 475
def WQ:Obj:=ca "look_at_holder" "Roll.look_at_holder" 802 202 3 477 808
def WM:Obj:=fo "look_at_holder" "Roll.look_at_holder" (inC 50 16) mv8 482
def WL:Obj:=ca "look_at_room" "Roll.look_at_room" 811 207 1 484 815
def WK:Obj:=fo "look_at_room" "Roll.look_at_room" (inC 50 17) mv8 489
def WD (P:Params):Obj:=dO [en P "__module__" 660 mv8,en P "__firstlineno__" 664 (.int 115 663),er P "__init__" 672 372,er P "today" 679 379,er P "roll" 686 386,er P "holders" 693 393,er P "deeds" 700 400,er P "turn" 707 407,er P "file" 720 415,er P "sell" 730 422,er P "part" 741 429,er P "drop" 750 436,er P "move" 761 443,er P "look_move" 770 450,er P "lapse" 776 455,er P "enter" 785 462,er P "is_alone" 793 469,er P "look_at_number" 801 476,er P "look_at_holder" 810 483,er P "look_at_room" 817 490,er P "__static_attributes__" 823 491,er P "__dict__" 825 494,er P "__weakref__" 827 495,en P "__doc__" 828 .none] 4
def Vx:Obj:={ cls:=.type "type",data:=Data.cls { name:="Roll",bases:=[.type "object"],mro:=[.ref 493,.type "object"],ns:=492,qualname:="Roll",subclasses:=[.ref 711] },slots:=#[none,none,some (.str "Roll" 653),some (.str "Roll" 661),some (.builtin "object.__new__"),some (.bool true)] }
def Wz:Obj:={ cls:=.type "getset_descriptor",data:=Data.fields #[.str "__dict__" 824,.ref 493,.builtin "function.__dict__",.builtin "function.__dict__#set"] }
def Wy:Obj:={ cls:=.type "getset_descriptor",data:=Data.fields #[.str "__weakref__" 826,.ref 493,.builtin "ExceptionGroup.__weakref__",.none] }
def Wx:Obj:=ca "natural_of" "natural_of" 833 211 2 498 840
def Ww:Obj:=fo "natural_of" "natural_of" (top0 52) mv9 503
def Wv:Obj:=ca "flows_of" "flows_of" 843 217 3 505 854
def Wu:Obj:=fo "flows_of" "flows_of" (top0 53) mv9 510
def Wt:Obj:=ca "count_ways" "count_ways" 859 224 2 512 867
def Ws:Obj:=fo "count_ways" "count_ways" (top0 55) mv2 517
def Wr:Obj:=cb "whole_turns" "whole_turns" 870 230 3 519 873
def Wq:Obj:=fo "whole_turns" "whole_turns" (top0 56) mv2 522
def Wo:Obj:=ca "draw" "draw" 876 234 3 524 883
def Wn:Obj:=fo "draw" "draw" (top0 57) mv2 529
def Wm:Obj:=cb "take_whole_turns" "take_whole_turns" 886 237 5 531 889
def Wk:Obj:=fo "take_whole_turns" "take_whole_turns" (top0 58) mv2 534
def Wj:Obj:=cb "take_one_turn" "take_one_turn" 892 243 5 536 895
def Wi:Obj:=fo "take_one_turn" "take_one_turn" (top0 59) mv2 539
def Wh:Obj:=ca "deal_turns" "deal_turns" 898 251 3 541 907
def Wg:Obj:=fo "deal_turns" "deal_turns" (top0 60) mv2 546
def Wf:Obj:=cb "deal" "deal" 912 260 4 548 915
def Wd:Obj:=fo "deal" "deal" (top0 62) mv10 551
def Wc:Obj:=ca "pond_start" "pond_start" 922 272 2 553 930
def Wb:Obj:=fo "pond_start" "pond_start" (top0 65) abR 558
def Wa:Obj:=ca "look_at_let" "look_at_let" 933 275 5 560 944
def V9:Obj:=fo "look_at_let" "look_at_let" (top0 66) abR 565
def V8:Obj:=ca "let_out" "let_out" 947 283 5 567 960
def V7:Obj:=fo "let_out" "let_out" (top0 67) abR 572
def V6:Obj:=ca "pond_calls" "pond_calls" 963 290 4 574 976
def V5:Obj:=fo "pond_calls" "pond_calls" (top0 68) abR 579
def V4:Obj:=ca "evening" "evening" 979 296 3 581 994
def V3:Obj:=fo "evening" "evening" (top0 69) abR 586
def V2:Obj:=ca "morning_of" "morning_of" 999 307 6 588 1009
def V1:Obj:=fo "morning_of" "morning_of" (top0 71) ac0 593
def V0:Obj:=ca "moves_of" "moves_of" 1012 310 4 595 1029
def VR:Obj:=fo "moves_of" "moves_of" (top0 72) ac0 600
def VP:Obj:=cb "used_of" "used_of" 1032 318 4 602 1035
def VN:Obj:=fo "used_of" "used_of" (top0 73) ac0 605
def VL:Obj:=cb "day_of" "day_of" 1038 322 7 607 1041
def VJ:Obj:=fo "day_of" "day_of" (top0 74) ac0 610
def VH:Obj:=ca "moved" "moved" 1046 331 3 612 1053
def VG:Obj:=fo "moved" "moved" (top0 76) aen 617
def VF:Obj:=ca "harm_of" "harm_of" 1056 335 5 619 1075
def VD:Obj:=fo "harm_of" "harm_of" (top0 77) aen 624
def VB:Obj:=cb "greatest_of" "greatest_of" 1082 348 2 626 1085
def Vz:Obj:=fo "greatest_of" "greatest_of" (top0 80) mv3 629
def Vw:Obj:=ca "__init__" "Book.__init__" 1100 353 2 638 1105
def Vv:Obj:=fo "__init__" "Book.__init__" (inC 81 0) mv3 643
def Vu:Obj:=tq #[.int 0 1108]
def Vt:Obj:=ca "pond" "Book.pond" 1109 361 5 646 1117
def Vs:Obj:=fd "pond" "Book.pond" (inC 81 1) mv3 651 (.ref 645)
def Vr:Obj:=ca "ponds" "Book.ponds" 1120 373 1 653 1124
def Vq:Obj:=fo "ponds" "Book.ponds" (inC 81 2) mv3 658
def Vp:Obj:=ca "kept" "Book.kept" 1127 376 1 660 1131
def Vo:Obj:=fo "kept" "Book.kept" (inC 81 3) mv3 665
def Vn:Obj:=cb "has_pond" "Book.has_pond" 1134 379 2 667 1137
def Vm:Obj:=fo "has_pond" "Book.has_pond" (inC 81 4) mv3 670
def Vl:Obj:=tq #[.none]
def Vk:Obj:=ca "run" "Book.run" 1140 382 4 673 1155
def Vj:Obj:=fd "run" "Book.run" (inC 81 5) mv3 678 (.ref 672)
def Vi:Obj:=cb "look_at_amounts" "Book.look_at_amounts" 1158 396 3 680 1161
def Vh:Obj:=fo "look_at_amounts" "Book.look_at_amounts" (inC 81 6) mv3 683
def Vg:Obj:=cb "record" "Book.record" 1164 400 1 685 1167
def Vf:Obj:=fo "record" "Book.record" (inC 81 7) mv3 688
def Ve:Obj:=ca "why" "Book.why" 1170 403 2 690 1175
def Vd:Obj:=fo "why" "Book.why" (inC 81 8) mv3 695
def Vc:Obj:=ca "look_move" "Book.look_move" 1178 406 3 697 1184
def Vb:Obj:=fo "look_move" "Book.look_move" (inC 81 9) mv3 702
def Va:Obj:=cb "close" "Book.close" 1187 412 1 704 1190
def U9:Obj:=fo "close" "Book.close" (inC 81 10) mv3 707
def U8 (P:Params):Obj:=dO [en P "__module__" 1095 mv3,en P "__firstlineno__" 1099 (.int 351 1098),er P "__init__" 1107 644,er P "pond" 1119 652,er P "ponds" 1126 659,er P "kept" 1133 666,er P "has_pond" 1139 671,er P "run" 1157 679,er P "look_at_amounts" 1163 684,er P "record" 1169 689,er P "why" 1177 696,er P "look_move" 1186 703,er P "close" 1192 708,er P "__static_attributes__" 1198 709,en P "__doc__" 1199 .none] 2
def U7:Obj:={ cls:=.type "type",data:=Data.cls { name:="Book",bases:=[.ref 493],mro:=[.ref 711,.ref 493,.type "object"],ns:=710,qualname:="Book" },slots:=#[some (.ref 631),none,some (.str "Book" 1088),some (.str "Book" 1096),some (.builtin "object.__new__"),some (.bool true)] }
def U6:Obj:=ca "_law_cell_at" "_law_cell_at" 1204 418 2 714 1209
def U5:Obj:=fo "_law_cell_at" "_law_cell_at" (top0 83) mv4 719
def U4:Obj:=ca "_law_pebble" "_law_pebble" 1212 422 2 721 1218
def U3:Obj:=fo "_law_pebble" "_law_pebble" (top0 84) mv4 726
def U0:Obj:=cb "_law_pebbles" "_law_pebbles" 1221 425 2 728 1224
def UW:Obj:=fo "_law_pebbles" "_law_pebbles" (top0 85) mv4 731
def UL:Obj:=ca "_law_places" "_law_places" 1227 427 2 733 1236
def UJ:Obj:=fo "_law_places" "_law_places" (top0 86) mv4 738
def UG:Obj:=ca "_law_laid" "_law_laid" 1239 435 2 740 1246
def Uz:Obj:=fo "_law_laid" "_law_laid" (top0 87) mv4 745
def Uy:Obj:=ca "_law_walk" "_law_walk" 1249 440 2 747 1256
def Ux:Obj:=fo "_law_walk" "_law_walk" (top0 88) mv4 752
def Uw:Obj:=ca "_law_moved" "_law_moved" 1259 447 4 754 1270
def Uv:Obj:=fo "_law_moved" "_law_moved" (top0 89) mv4 759
def Uu:Obj:=ca "_law_kinds" "_law_kinds" 1273 462 1 761 1278
def Ut:Obj:=fo "_law_kinds" "_law_kinds" (top0 90) mv4 766
def Us:Obj:=ca "_law_due" "_law_due" 1281 466 5 768 1291
def Ur:Obj:=fo "_law_due" "_law_due" (top0 91) mv4 773
def Uq:Obj:=ca "_law_tried" "_law_tried" 1294 478 5 775 1310
def Uo:Obj:=fo "_law_tried" "_law_tried" (top0 92) mv4 780
def Um:Obj:=ca "_law_wished" "_law_wished" 1313 490 3 782 1323
def Ul:Obj:=fo "_law_wished" "_law_wished" (top0 93) mv4 787
def Uk:Obj:=ca "_law_book" "_law_book" 1326 500 4 789 1334
def Uj:Obj:=fo "_law_book" "_law_book" (top0 94) mv4 794
def Ui:Obj:=ca "law" "law" 1337 512 1 796 1356
def Uh:Obj:=fo "law" "law" (top0 95) mv4 801
def sg0 (P:Params):List Obj:=(dO (en P "__name__" 1 (.str "builtins" 160)::(eb P 2 [("__doc__","builtins.__doc__:str#opaque"),("__package__","builtins.__package__:str#opaque"),("__loader__","builtins.__loader__:shared#opaque"),("__spec__","builtins.__spec__#opaque"),("__build_class__","__build_class__"),("__import__","__import__"),("abs","abs"),("all","all"),("any","any"),("ascii","ascii"),("bin","bin"),("breakpoint","breakpoint"),("callable","callable"),("chr","chr"),("compile","compile"),("delattr","delattr"),("dir","dir"),("divmod","divmod"),("eval","eval"),("exec","exec"),("format","format"),("getattr","getattr"),("globals","globals"),("hasattr","hasattr"),("hash","hash"),("hex","hex"),("id","id"),("input","input"),("isinstance","isinstance"),("issubclass","issubclass"),("iter","iter"),("aiter","aiter")] (eb P 34 [("len","len"),("locals","locals"),("max","max"),("min","min"),("next","next"),("anext","anext"),("oct","oct"),("ord","ord"),("pow","pow"),("print","print"),("repr","repr"),("round","round"),("setattr","setattr"),("sorted","sorted"),("sum","sum"),("vars","vars")] (en P "None" 50 .none::en P "Ellipsis" 51 .ellipsis::en P "NotImplemented" 52 .notImplemented::en P "False" 53 (.bool false)::en P "True" 54 (.bool true)::(et P 55 [("bool","bool"),("memoryview","memoryview"),("bytearray","bytearray"),("bytes","bytes"),("classmethod","classmethod"),("complex","complex"),("dict","dict"),("enumerate","enumerate"),("filter","filter"),("float","float"),("frozenset","frozenset"),("property","property"),("int","int"),("list","list"),("map","map"),("object","object"),("range","range"),("reversed","reversed"),("set","set"),("slice","slice"),("staticmethod","staticmethod"),("str","str"),("super","super"),("tuple","tuple"),("type","type"),("zip","zip")] (en P "__debug__" 81 (.bool true)::(et P 82 [("BaseException","BaseException"),("BaseExceptionGroup","BaseExceptionGroup"),("Exception","Exception"),("GeneratorExit","GeneratorExit"),("KeyboardInterrupt","KeyboardInterrupt"),("SystemExit","SystemExit"),("ArithmeticError","ArithmeticError"),("AssertionError","AssertionError"),("AttributeError","AttributeError"),("BufferError","BufferError"),("EOFError","EOFError"),("ImportError","ImportError"),("LookupError","LookupError"),("MemoryError","MemoryError"),("NameError","NameError"),("OSError","OSError"),("ReferenceError","ReferenceError"),("RuntimeError","RuntimeError"),("StopAsyncIteration","StopAsyncIteration"),("StopIteration","StopIteration"),("SyntaxError","SyntaxError"),("SystemError","SystemError"),("TypeError","TypeError"),("ValueError","ValueError"),("Warning","Warning"),("FloatingPointError","FloatingPointError"),("OverflowError","OverflowError"),("ZeroDivisionError","ZeroDivisionError"),("BytesWarning","BytesWarning"),("DeprecationWarning","DeprecationWarning"),("EncodingWarning","EncodingWarning"),("FutureWarning","FutureWarning")] (et P 114 [("ImportWarning","ImportWarning"),("PendingDeprecationWarning","PendingDeprecationWarning"),("ResourceWarning","ResourceWarning"),("RuntimeWarning","RuntimeWarning"),("SyntaxWarning","SyntaxWarning"),("UnicodeWarning","UnicodeWarning"),("UserWarning","UserWarning"),("BlockingIOError","BlockingIOError"),("ChildProcessError","ChildProcessError"),("ConnectionError","ConnectionError"),("FileExistsError","FileExistsError"),("FileNotFoundError","FileNotFoundError"),("InterruptedError","InterruptedError"),("IsADirectoryError","IsADirectoryError"),("NotADirectoryError","NotADirectoryError"),("PermissionError","PermissionError"),("ProcessLookupError","ProcessLookupError"),("TimeoutError","TimeoutError"),("IndentationError","IndentationError"),("_IncompleteInputError","_IncompleteInputError"),("IndexError","IndexError"),("KeyError","KeyError"),("ModuleNotFoundError","ModuleNotFoundError"),("NotImplementedError","NotImplementedError"),("PythonFinalizationError","PythonFinalizationError"),("RecursionError","RecursionError"),("UnboundLocalError","UnboundLocalError"),("UnicodeError","UnicodeError"),("BrokenPipeError","BrokenPipeError"),("ConnectionAbortedError","ConnectionAbortedError"),("ConnectionRefusedError","ConnectionRefusedError"),("ConnectionResetError","ConnectionResetError")] (et P 146 [("TabError","TabError"),("UnicodeDecodeError","UnicodeDecodeError"),("UnicodeEncodeError","UnicodeEncodeError"),("UnicodeTranslateError","UnicodeTranslateError"),("ExceptionGroup","ExceptionGroup"),("EnvironmentError","OSError"),("IOError","OSError")] (eb P 153 [("open","open"),("quit","builtins.quit#opaque"),("exit","builtins.exit#opaque"),("copyright","builtins.copyright#opaque"),("credits","builtins.credits#opaque"),("license","builtins.license#opaque"),("help","builtins.help#opaque")] [])))))))))) 159)::(dO [er P "builtins" 162 4,er P "__main__" 163 5] 2)::aex::[]
def sg2 (P:Params):List Obj:={ cls:=.type "module",dict:=some 0 }::{ cls:=.type "module",dict:=some 3 }::{ cls:=.type "dict",data:=Data.dict #[] }::ot::oe::(fc #[.str "<module>" 176,.str "<module>" 177,cp 178,.int 1 0,.int 0 0,.int 0 0,.int 0 0,.int 0 0,.ref 7,.bool false,.int 175 0,.ref 8,.none,.none,.none,.none,.int 179 0,.int 1 0,cp 180])::(fr 9 3 mv0)::[]
def sg3 (P:Params):List Obj:=ot::[]
def sg5 (P:Params):List Obj:=(cc "<module>" "<module>" 182 1 11 185)::(fr 13 3 mv0)::[]
def sg6 (P:Params):List Obj:=ot::oe::(tn 190 ["k"])::ot::(po "_wall" "_wall" (top0 0))::acw::acv::ot::oe::(tn 205 ["amount"])::ot::(po "is_water" "is_water" (top0 5))::acu::acs::ot::oe::(po "is_name" "is_name" (top0 6))::acr::acq::(tq #[.type "ValueError"])::(bm "type.__prepare__" (.type "type"))::(dO [en P "__module__" 224 mv6,en P "__qualname__" 226 (.str "SluiceError" 225),en P "__firstlineno__" 228 (.int 13 227),er P "__static_attributes__" 229 41] 4)::ot::oe::(cc "SluiceError" "SluiceError" 219 13 37 222)::(fr 39 36 mv6)::ot::acp P::aco::acn::(su 43)::(bm "object.__init_subclass__" (.ref 43))::(tq #[.ref 43])::(bm "type.__prepare__" (.type "type"))::(dO [en P "__module__" 242 mv6,en P "__qualname__" 244 (.str "NoRiver" 243),en P "__firstlineno__" 246 (.int 15 245),er P "__static_attributes__" 247 54] 4)::ot::oe::(cc "NoRiver" "NoRiver" 237 15 50 240)::(fr 52 49 mv6)::ot::acj P::aci::(su 56)::(bm "object.__init_subclass__" (.ref 56))::(tq #[.ref 43])::(bm "type.__prepare__" (.type "type"))::(dO [en P "__module__" 258 mv6,en P "__qualname__" 260 (.str "NoReach" 259),en P "__firstlineno__" 262 (.int 17 261),er P "__static_attributes__" 263 66] 4)::ot::oe::(cc "NoReach" "NoReach" 253 17 62 256)::(fr 64 61 mv6)::ot::ach P::acg::(su 68)::(bm "object.__init_subclass__" (.ref 68))::(tq #[.ref 43])::(bm "type.__prepare__" (.type "type"))::(dO [en P "__module__" 274 mv6,en P "__qualname__" 276 (.str "NoLicence" 275),en P "__firstlineno__" 278 (.int 19 277),er P "__static_attributes__" 279 78] 4)::ot::oe::(cc "NoLicence" "NoLicence" 269 19 74 272)::(fr 76 73 mv6)::ot::acf P::ace::(su 80)::(bm "object.__init_subclass__" (.ref 80))::(tq #[.ref 43])::(bm "type.__prepare__" (.type "type"))::(dO [en P "__module__" 290 mv6,en P "__qualname__" 292 (.str "NoNumber" 291),en P "__firstlineno__" 294 (.int 21 293),er P "__static_attributes__" 295 90] 4)::ot::oe::(cc "NoNumber" "NoNumber" 285 21 86 288)::(fr 88 85 mv6)::ot::acd P::ab9::(su 92)::(bm "object.__init_subclass__" (.ref 92))::(tq #[.ref 43])::(bm "type.__prepare__" (.type "type"))::(dO [en P "__module__" 306 mv6,en P "__qualname__" 308 (.str "NoHolder" 307),en P "__firstlineno__" 310 (.int 23 309),er P "__static_attributes__" 311 102] 4)::ot::oe::(cc "NoHolder" "NoHolder" 301 23 98 304)::(fr 100 97 mv6)::ot::Y6 P::Y5::(su 104)::(bm "object.__init_subclass__" (.ref 104))::(tq #[.ref 43])::(bm "type.__prepare__" (.type "type"))::(dO [en P "__module__" 322 mv6,en P "__qualname__" 324 (.str "NotYours" 323),en P "__firstlineno__" 326 (.int 25 325),er P "__static_attributes__" 327 114] 4)::ot::oe::(cc "NotYours" "NotYours" 317 25 110 320)::(fr 112 109 mv6)::ot::Y4 P::Y0::(su 116)::(bm "object.__init_subclass__" (.ref 116))::(tq #[.ref 43])::(bm "type.__prepare__" (.type "type"))::(dO [en P "__module__" 338 mv6,en P "__qualname__" 340 (.str "NotAlone" 339),en P "__firstlineno__" 342 (.int 27 341),er P "__static_attributes__" 343 126] 4)::ot::oe::(cc "NotAlone" "NotAlone" 333 27 122 336)::(fr 124 121 mv6)::ot::YZ P::YX::(su 128)::(bm "object.__init_subclass__" (.ref 128))::(tq #[.ref 43])::(bm "type.__prepare__" (.type "type"))::(dO [en P "__module__" 354 mv6,en P "__qualname__" 356 (.str "TooMuch" 355),en P "__firstlineno__" 358 (.int 29 357),er P "__static_attributes__" 359 138] 4)::ot::oe::(cc "TooMuch" "TooMuch" 349 29 134 352)::(fr 136 133 mv6)::ot::YW P::YT::(su 140)::(bm "object.__init_subclass__" (.ref 140))::(tq #[.ref 43])::(bm "type.__prepare__" (.type "type"))::(dO [en P "__module__" 370 mv6,en P "__qualname__" 372 (.str "Full" 371),en P "__firstlineno__" 374 (.int 31 373),er P "__static_attributes__" 375 150] 4)::ot::oe::(cc "Full" "Full" 365 31 146 368)::(fr 148 145 mv6)::ot::YS P::YQ::(su 152)::(bm "object.__init_subclass__" (.ref 152))::(tq #[.ref 43])::(bm "type.__prepare__" (.type "type"))::(dO [en P "__module__" 386 mv6,en P "__qualname__" 388 (.str "NoPaper" 387),en P "__firstlineno__" 390 (.int 33 389),er P "__static_attributes__" 391 162] 4)::ot::oe::(cc "NoPaper" "NoPaper" 381 33 158 384)::(fr 160 157 mv6)::ot::YM P::YL::(su 164)::(bm "object.__init_subclass__" (.ref 164))::(tq #[.ref 43])::(bm "type.__prepare__" (.type "type"))::(dO [en P "__module__" 402 mv6,en P "__qualname__" 404 (.str "NoCut" 403),en P "__firstlineno__" 406 (.int 35 405),er P "__static_attributes__" 407 174] 4)::ot::oe::(cc "NoCut" "NoCut" 397 35 170 400)::(fr 172 169 mv6)::ot::YK P::YJ::(su 176)::(bm "object.__init_subclass__" (.ref 176))::(tq #[.ref 43])::(bm "type.__prepare__" (.type "type"))::(dO [en P "__module__" 418 mv6,en P "__qualname__" 420 (.str "NoPond" 419),en P "__firstlineno__" 422 (.int 37 421),er P "__static_attributes__" 423 186] 4)::ot::oe::(cc "NoPond" "NoPond" 413 37 182 416)::(fr 184 181 mv6)::ot::YH P::YG::(su 188)::(bm "object.__init_subclass__" (.ref 188))::(tq #[.ref 43])::(bm "type.__prepare__" (.type "type"))::(dO [en P "__module__" 434 mv6,en P "__qualname__" 436 (.str "NoDay" 435),en P "__firstlineno__" 438 (.int 39 437),er P "__static_attributes__" 439 198] 4)::ot::oe::(cc "NoDay" "NoDay" 429 39 194 432)::(fr 196 193 mv6)::ot::YF P::YD::(su 200)::(bm "object.__init_subclass__" (.ref 200))::(tq #[.ref 43])::(bm "type.__prepare__" (.type "type"))::(dO [en P "__module__" 450 mv6,en P "__qualname__" 452 (.str "Fixed" 451),en P "__firstlineno__" 454 (.int 41 453),er P "__static_attributes__" 455 210] 4)::ot::oe::(cc "Fixed" "Fixed" 445 41 206 448)::(fr 208 205 mv6)::ot::YC P::YB::(su 212)::(bm "object.__init_subclass__" (.ref 212))::(tq #[.ref 43])::(bm "type.__prepare__" (.type "type"))::(dO [en P "__module__" 466 mv6,en P "__qualname__" 468 (.str "Harms" 467),en P "__firstlineno__" 470 (.int 43 469),er P "__static_attributes__" 471 222] 4)::ot::oe::(cc "Harms" "Harms" 461 43 218 464)::(fr 220 217 mv6)::ot::Yz P::Yy::(su 224)::(bm "object.__init_subclass__" (.ref 224))::(tq #[.ref 43])::(bm "type.__prepare__" (.type "type"))::(dO [en P "__module__" 482 mv6,en P "__qualname__" 484 (.str "NoRow" 483),en P "__firstlineno__" 486 (.int 45 485),er P "__static_attributes__" 487 234] 4)::ot::oe::(cc "NoRow" "NoRow" 477 45 230 480)::(fr 232 229 mv6)::ot::Yx P::Yw::(su 236)::(bm "object.__init_subclass__" (.ref 236))::ot::oe::(tn 501 ["below","start","reach","step"])::ot::(po "comes_to_mouth" "comes_to_mouth" (top0 28))::Yv::Yu::ot::oe::(po "is_river" "is_river" (top0 29))::Yt::Ys::ot::oe::(tn 517 ["below","reach","way"])::ot::(po "way_of" "way_of" (top0 30))::Yr::Yq::ot::oe::(tn 526 ["below"])::(tn 527 ["below"])::(po "tops_first" "tops_first" (top0 31))::Yp::Yo::ot::oe::(po "mouths_of" "mouths_of" (top0 32))::Yn::Ym::[]
def sg7 (P:Params):List Obj:=ot::oe::(tn 540 ["below","start","stop","way"])::ot::(po "stretch_of" "stretch_of" (top0 33))::Yl::Yk::ot::oe::(tn 554 ["below","one","day","start","back","most"])::ot::(po "is_licence" "is_licence" (top0 36))::Yj::Yi::ot::oe::(tn 566 ["below","one","day","start","back","most"])::ot::(po "reaches_of" "reaches_of" (top0 37))::Yh::Yg::ot::oe::(tn 578 ["one"])::ot::(po "day_filed" "day_filed" (top0 38))::Ye::Yd::ot::oe::(tn 585 ["one"])::ot::(po "start_of" "start_of" (top0 39))::Yc::Yb::ot::oe::(tn 592 ["one"])::ot::(po "gives_back" "gives_back" (top0 40))::X8::X7::ot::oe::(tn 599 ["one"])::ot::(po "most_of" "most_of" (top0 41))::X6::X5::ot::oe::(tn 606 ["one","start"])::ot::(po "with_start" "with_start" (top0 42))::X4::X3::ot::oe::(tn 614 ["one","most"])::ot::(po "with_most" "with_most" (top0 43))::XR::XQ::ot::oe::(tn 622 ["roll"])::(tn 623 ["roll"])::(po "ranked" "ranked" (top0 44))::XM::XJ::ot::oe::(tn 630 ["roll","groups","number"])::ot::(po "groups_of" "groups_of" (top0 45))::XH::XF::ot::oe::(po "wants_of" "wants_of" (top0 46))::XD::XC::ot::oe::(tn 649 ["name"])::ot::(po "look_at_name" "look_at_name" (top0 49))::Xz::Xy::ot::(bm "type.__prepare__" (.type "type"))::(dO [en P "__module__" 660 mv8,en P "__qualname__" 662 (.str "Roll" 661),en P "__firstlineno__" 664 (.int 115 663),er P "__init__" 672 372,er P "today" 679 379,er P "roll" 686 386,er P "holders" 693 393,er P "deeds" 700 400,er P "turn" 707 407,er P "file" 720 415,er P "sell" 730 422,er P "part" 741 429,er P "drop" 750 436,er P "move" 761 443,er P "look_move" 770 450,er P "lapse" 776 455,er P "enter" 785 462,er P "is_alone" 793 469,er P "look_at_number" 801 476,er P "look_at_holder" 810 483,er P "look_at_room" 817 490,er P "__static_attributes__" 823 491] 22)::ot::{ cls:=.none,data:=Data.fields #[.int 117 0,.int 4 0,.ref 371,.int 126 0,.int 4 0,.ref 378,.int 129 0,.int 4 0,.ref 385,.int 132 0,.int 4 0,.ref 392,.int 135 0,.int 4 0,.ref 399,.int 138 0,.int 4 0,.ref 406,.int 142 0,.int 4 0,.ref 414,.int 152 0,.int 4 0,.ref 421,.int 158 0,.int 4 0,.ref 428,.int 161 0,.int 4 0,.ref 435,.int 164 0,.int 4 0,.ref 442,.int 173 0,.int 4 0,.ref 449,.int 176 0,.int 4 0,.ref 454,.int 190 0,.int 4 0,.ref 461,.int 195 0,.int 4 0,.ref 468,.int 198 0,.int 4 0,.ref 475,.int 202 0,.int 4 0,.ref 482,.int 207 0,.int 4 0,.ref 489] }::(cc "Roll" "Roll" 655 115 362 658)::(fr 364 361 mv8)::ot::oe::(tn 668 ["self","below"])::ot::(po "__init__" "Roll.__init__" (inC 50 0))::Xx::Xw::ot::oe::(tn 676 ["self"])::ot::(po "today" "Roll.today" (inC 50 1))::Xv::Xu::ot::oe::(tn 683 ["self"])::ot::(po "roll" "Roll.roll" (inC 50 2))::Xr::Xq::ot::oe::(tn 690 ["self"])::ot::(po "holders" "Roll.holders" (inC 50 3))::Xp::Xo::ot::oe::(tn 697 ["self"])::ot::(po "deeds" "Roll.deeds" (inC 50 4))::Xn::Xm::ot::oe::(tn 704 ["self"])::ot::(po "turn" "Roll.turn" (inC 50 5))::Xl::Xk::Xj::ot::oe::(tn 711 ["self","holder","start","most","back","stop","one"])::ot::(po "file" "Roll.file" (inC 50 6))::Xi::Xh::ot::oe::(tn 724 ["self","number","holder","to"])::ot::(po "sell" "Roll.sell" (inC 50 7))::Xg::Xf::ot::oe::(tn 734 ["self","number","holder","most","to"])::ot::(po "part" "Roll.part" (inC 50 8))::Xe::Xd::ot::oe::(tn 745 ["self","number","holder"])::ot::(po "drop" "Roll.drop" (inC 50 9))::Xc::Xb::ot::oe::(tn 754 ["self","number","holder","start","one"])::ot::(po "move" "Roll.move" (inC 50 10))::Xa::W9::ot::oe::(tn 765 ["self","number","start"])::ot::(po "look_move" "Roll.look_move" (inC 50 11))::W8::W7::ot::oe::(po "lapse" "Roll.lapse" (inC 50 12))::W6::W5::ot::oe::(tn 780 ["self","one","holder"])::ot::(po "enter" "Roll.enter" (inC 50 13))::W4::W0::ot::oe::(tn 789 ["self","number"])::ot::(po "is_alone" "Roll.is_alone" (inC 50 14))::WY::WX::ot::oe::(tn 797 ["self","number"])::ot::(po "look_at_number" "Roll.look_at_number" (inC 50 15))::WW::WR::ot::oe::(tn 805 ["self","number","holder"])::ot::(po "look_at_holder" "Roll.look_at_holder" (inC 50 16))::WQ::WM::ot::oe::(tn 814 ["self"])::ot::(po "look_at_room" "Roll.look_at_room" (inC 50 17))::WL::WK::(tn 818 ["below","day","done","licences","names"])::WD P::[]
def sg9 (P:Params):List Obj:=Wz::Wy::(su 493)::(bm "object.__init_subclass__" (.ref 493))::ot::oe::(tn 836 ["below","springs","flows","reach"])::ot::(po "natural_of" "natural_of" (top0 52))::Wx::Ww::ot::oe::(tn 846 ["below","springs","moves","flows","start","stop","amount","reach"])::ot::(po "flows_of" "flows_of" (top0 53))::Wv::Wu::[]
def aeh (P:Params):List Obj:=ot::oe::(tn 862 ["free","ways","counts","way","reach"])::ot::(po "count_ways" "count_ways" (top0 55))::Wt::Ws::ot::oe::(po "whole_turns" "whole_turns" (top0 56))::Wr::Wq::ot::oe::(tn 879 ["left","way","drops","reach"])::ot::(po "draw" "draw" (top0 57))::Wo::Wn::ot::oe::(po "take_whole_turns" "take_whole_turns" (top0 58))::Wm::Wk::ot::oe::(po "take_one_turn" "take_one_turn" (top0 59))::Wj::Wi::ot::oe::(tn 901 ["free","ways","rests","left","takes","going"])::ot::(po "deal_turns" "deal_turns" (top0 60))::Wh::Wg::ot::oe::(po "deal" "deal" (top0 62))::Wf::Wd::ot::oe::(tn 925 ["roll","pond","number","room","leak"])::ot::(po "pond_start" "pond_start" (top0 65))::Wc::Wb::ot::oe::(tn 936 ["below","roll","ponds","kept","let","place","reach","amount"])::ot::(po "look_at_let" "look_at_let" (top0 66))::Wa::V9::ot::oe::(tn 950 ["below","roll","ponds","kept","lets","left","let","place","reach","amount"])::ot::(po "let_out" "let_out" (top0 67))::V8::V7::ot::oe::(tn 966 ["roll","ponds","kept","calls","lessened","pond","keeps","number","room","leak"])::ot::(po "pond_calls" "pond_calls" (top0 68))::V6::V5::ot::oe::(tn 982 ["ponds","kept","takes","after","lost","pond","keeps","number","room","leak","full","loss"])::ot::(po "evening" "evening" (top0 69))::V4::V3::ot::oe::(tn 1002 ["below","roll","ponds","kept","calls","lets","left"])::ot::(po "morning_of" "morning_of" (top0 71))::V2::V1::ot::oe::(tn 1015 ["roll","ponds","takes","lets","moves","one","take","day","start","back","most","place","reach","amount"])::ot::(po "moves_of" "moves_of" (top0 72))::V0::VR::ot::oe::(po "used_of" "used_of" (top0 73))::VP::VN::ot::oe::(po "day_of" "day_of" (top0 74))::VL::VJ::ot::oe::(tn 1049 ["roll","number","start","changed"])::ot::(po "moved" "moved" (top0 76))::VH::VG::ot::oe::(tn 1059 ["below","roll","number","start","record","other_roll","day","one_day","springs","calls","all_calls","takes","other_takes","other","before","after"])::ot::(po "harm_of" "harm_of" (top0 77))::VF::VD::ot::oe::(po "greatest_of" "greatest_of" (top0 80))::VB::Vz::[]
def sg11 (P:Params):List Obj:=(tq #[.ref 493])::(bm "type.__prepare__" (.type "type"))::(dO [en P "__module__" 1095 mv3,en P "__qualname__" 1097 (.str "Book" 1096),en P "__firstlineno__" 1099 (.int 351 1098),er P "__init__" 1107 644,er P "pond" 1119 652,er P "ponds" 1126 659,er P "kept" 1133 666,er P "has_pond" 1139 671,er P "run" 1157 679,er P "look_at_amounts" 1163 684,er P "record" 1169 689,er P "why" 1177 696,er P "look_move" 1186 703,er P "close" 1192 708,er P "__static_attributes__" 1198 709] 15)::ot::{ cls:=.none,data:=Data.fields #[.int 353 0,.int 4 0,.ref 643,.int 361 0,.int 4 0,.ref 651,.int 373 0,.int 4 0,.ref 658,.int 376 0,.int 4 0,.ref 665,.int 379 0,.int 4 0,.ref 670,.int 382 0,.int 4 0,.ref 678,.int 396 0,.int 4 0,.ref 683,.int 400 0,.int 4 0,.ref 688,.int 403 0,.int 4 0,.ref 695,.int 406 0,.int 4 0,.ref 702,.int 412 0,.int 4 0,.ref 707] }::(cc "Book" "Book" 1090 351 634 1093)::(fr 636 633 mv3)::ot::oe::(tn 1103 ["self","below"])::ot::(po "__init__" "Book.__init__" (inC 81 0))::Vw::Vv::Vu::ot::oe::(tn 1112 ["self","number","holder","room","leak"])::ot::(po "pond" "Book.pond" (inC 81 1))::Vt::Vs::ot::oe::(tn 1123 ["self"])::ot::(po "ponds" "Book.ponds" (inC 81 2))::Vr::Vq::ot::oe::(tn 1130 ["self"])::ot::(po "kept" "Book.kept" (inC 81 3))::Vp::Vo::ot::oe::(po "has_pond" "Book.has_pond" (inC 81 4))::Vn::Vm::Vl::ot::oe::(tn 1143 ["self","springs","calls","lets","lets_told","left","dealt_by","told","takes","kept","flows","sheet"])::ot::(po "run" "Book.run" (inC 81 5))::Vk::Vj::ot::oe::(po "look_at_amounts" "Book.look_at_amounts" (inC 81 6))::Vi::Vh::ot::oe::(po "record" "Book.record" (inC 81 7))::Vg::Vf::ot::oe::(tn 1173 ["self","number"])::ot::(po "why" "Book.why" (inC 81 8))::Ve::Vd::ot::oe::(tn 1181 ["self","number","start"])::ot::(po "look_move" "Book.look_move" (inC 81 9))::Vc::Vb::ot::oe::(po "close" "Book.close" (inC 81 10))::Va::U9::(tn 1193 ["dug","greatest","keeps","last","ran"])::U8 P::U7::(su 711)::(bm "object.__init_subclass__" (.ref 711))::ot::oe::(tn 1207 ["script","k"])::ot::(po "_law_cell_at" "_law_cell_at" (top0 83))::U6::U5::ot::oe::(tn 1215 ["cell","k","mark"])::ot::(po "_law_pebble" "_law_pebble" (top0 84))::U4::U3::ot::oe::(po "_law_pebbles" "_law_pebbles" (top0 85))::U0::UW::ot::oe::(tn 1230 ["many","cell","order","k","place","at"])::ot::(po "_law_places" "_law_places" (top0 86))::UL::UJ::ot::oe::(tn 1242 ["tree","place","found","k"])::ot::(po "_law_laid" "_law_laid" (top0 87))::UG::Uz::ot::oe::(tn 1252 ["river","start","walk","place"])::ot::(po "_law_walk" "_law_walk" (top0 88))::Uy::Ux::ot::oe::(tn 1262 ["book","number","holder","start","caught","e","others","kinds"])::ot::(po "_law_moved" "_law_moved" (top0 89))::Uw::Uv::ot::oe::(tn 1276 ["way","kinds"])::ot::(po "_law_kinds" "_law_kinds" (top0 90))::Uu::Ut::ot::oe::(tn 1284 ["river","book","number","holder","start","roll","back"])::ot::(po "_law_due" "_law_due" (top0 91))::Us::Ur::ot::oe::(tn 1297 ["book","river","number","holder","start","roll","trail","due","found","day","old","back","most"])::ot::(po "_law_tried" "_law_tried" (top0 92))::Uq::Uo::ot::oe::(tn 1316 ["book","river","cell","xs","number","holder","start"])::ot::(po "_law_wished" "_law_wished" (top0 93))::Um::Ul::ot::oe::(tn 1329 ["river","places","most","later","book"])::ot::(po "_law_book" "_law_book" (top0 94))::Uk::Uj::ot::oe::(tn 1340 ["script","first","rise","tree","x","places","river","most","later","book","ahead","cells","cut","springs","fresh","cell"])::ot::(po "law" "law" (top0 95))::Ui::Uh::[]
def H0:Params->Heap:=fun P=>{ objs:=⟨sg0 P++(dO (en P "__name__" 165 mv0::Sg P) 9)::sg2 P++[]⟩ }
def Ha:Params->Heap:=fun P=>{ objs:=⟨sg0 P++(dO (en P "__name__" 165 mv0::Sg P) 9)::sg2 P++sg3 P++(fl Zb)::sg5 P++[]⟩ }
def Hb:Params->Heap:=fun P=>{ objs:=⟨sg0 P++(dO (en P "__name__" 165 mv0::Sg P) 9)::sg2 P++sg3 P++(fl Zb)::sg5 P++[]⟩ }
def Hm0:Params->Heap:=fun P=>{ objs:=⟨sg0 P++(dO (en P "__name__" 165 mv1::acF P) 39)::sg2 P++sg3 P++(fl Za)::sg5 P++sg6 P++[]⟩ }
def Hm1:Params->Heap:=fun P=>{ objs:=⟨sg0 P++(dO (en P "__name__" 165 mv2::acE P) 57)::sg2 P++sg3 P++(fl Y9)::sg5 P++sg6 P++sg7 P++{ cls:=.type "type",data:=Data.cls { name:="Roll",bases:=[.type "object"],mro:=[.ref 493,.type "object"],ns:=492,qualname:="Roll" },slots:=#[none,none,some (.str "Roll" 653),some (.str "Roll" 661),some (.builtin "object.__new__"),some (.bool true)] }::sg9 P++[]⟩ }
def Hm2:Params->Heap:=fun P=>{ objs:=⟨sg0 P++(dO (en P "__name__" 165 mv3::acD P) 78)::sg2 P++sg3 P++(fl Y8)::sg5 P++sg6 P++sg7 P++{ cls:=.type "type",data:=Data.cls { name:="Roll",bases:=[.type "object"],mro:=[.ref 493,.type "object"],ns:=492,qualname:="Roll" },slots:=#[none,none,some (.str "Roll" 653),some (.str "Roll" 661),some (.builtin "object.__new__"),some (.bool true)] }::sg9 P++aeh P++[]⟩ }
def H1:Params->Heap:=fun P=>{ objs:=⟨sg0 P++Vy P::sg2 P++sg3 P++(fl acC)::sg5 P++sg6 P++sg7 P++Vx::sg9 P++aeh P++sg11 P++[]⟩ }
def Kf:Params->PySem.W.Frag:=fun P=>(nat_lit 2,aex)::(nat_lit 3,Vy P)::(nat_lit 20,acw)::(nat_lit 21,acv)::(nat_lit 27,acu)::(nat_lit 28,acs)::(nat_lit 32,acr)::(nat_lit 33,acq)::(nat_lit 42,acp P)::(nat_lit 43,aco)::(nat_lit 44,acn)::(nat_lit 55,acj P)::(nat_lit 56,aci)::(nat_lit 67,ach P)::(nat_lit 68,acg)::(nat_lit 79,acf P)::(nat_lit 80,ace)::(nat_lit 91,acd P)::(nat_lit 92,ab9)::(nat_lit 103,Y6 P)::(nat_lit 104,Y5)::(nat_lit 115,Y4 P)::(nat_lit 116,Y0)::(nat_lit 127,YZ P)::(nat_lit 128,YX)::(nat_lit 139,YW P)::(nat_lit 140,YT)::(nat_lit 151,YS P)::(nat_lit 152,YQ)::(nat_lit 163,YM P)::(nat_lit 164,YL)::(nat_lit 175,YK P)::(nat_lit 176,YJ)::(nat_lit 187,YH P)::(nat_lit 188,YG)::(nat_lit 199,YF P)::(nat_lit 200,YD)::(nat_lit 211,YC P)::(nat_lit 212,YB)::(nat_lit 223,Yz P)::(nat_lit 224,Yy)::(nat_lit 235,Yx P)::(nat_lit 236,Yw)::(nat_lit 244,Yv)::(nat_lit 245,Yu)::(nat_lit 249,Yt)::(nat_lit 250,Ys)::(nat_lit 256,Yr)::(nat_lit 257,Yq)::(nat_lit 263,Yp)::(nat_lit 264,Yo)::(nat_lit 268,Yn)::(nat_lit 269,Ym)::(nat_lit 275,Yl)::(nat_lit 276,Yk)::(nat_lit 282,Yj)::(nat_lit 283,Yi)::(nat_lit 289,Yh)::(nat_lit 290,Yg)::(nat_lit 296,Ye)::(nat_lit 297,Yd)::(nat_lit 303,Yc)::(nat_lit 304,Yb)::(nat_lit 310,X8)::(nat_lit 311,X7)::(nat_lit 317,X6)::(nat_lit 318,X5)::(nat_lit 324,X4)::(nat_lit 325,X3)::(nat_lit 331,XR)::(nat_lit 332,XQ)::(nat_lit 338,XM)::(nat_lit 339,XJ)::(nat_lit 345,XH)::(nat_lit 346,XF)::(nat_lit 350,XD)::(nat_lit 351,XC)::(nat_lit 357,Xz)::(nat_lit 358,Xy)::(nat_lit 371,Xx)::(nat_lit 372,Xw)::(nat_lit 378,Xv)::(nat_lit 379,Xu)::(nat_lit 385,Xr)::(nat_lit 386,Xq)::(nat_lit 392,Xp)::(nat_lit 393,Xo)::(nat_lit 399,Xn)::(nat_lit 400,Xm)::(nat_lit 406,Xl)::(nat_lit 407,Xk)::(nat_lit 408,Xj)::(nat_lit 414,Xi)::(nat_lit 415,Xh)::(nat_lit 421,Xg)::(nat_lit 422,Xf)::(nat_lit 428,Xe)::(nat_lit 429,Xd)::(nat_lit 435,Xc)::(nat_lit 436,Xb)::(nat_lit 442,Xa)::(nat_lit 443,W9)::(nat_lit 449,W8)::(nat_lit 450,W7)::(nat_lit 454,W6)::(nat_lit 455,W5)::(nat_lit 461,W4)::(nat_lit 462,W0)::(nat_lit 468,WY)::(nat_lit 469,WX)::(nat_lit 475,WW)::(nat_lit 476,WR)::(nat_lit 482,WQ)::(nat_lit 483,WM)::(nat_lit 489,WL)::(nat_lit 490,WK)::(nat_lit 492,WD P)::(nat_lit 493,Vx)::(nat_lit 494,Wz)::(nat_lit 495,Wy)::(nat_lit 503,Wx)::(nat_lit 504,Ww)::(nat_lit 510,Wv)::(nat_lit 511,Wu)::(nat_lit 517,Wt)::(nat_lit 518,Ws)::(nat_lit 522,Wr)::(nat_lit 523,Wq)::(nat_lit 529,Wo)::(nat_lit 530,Wn)::(nat_lit 534,Wm)::(nat_lit 535,Wk)::(nat_lit 539,Wj)::(nat_lit 540,Wi)::(nat_lit 546,Wh)::(nat_lit 547,Wg)::(nat_lit 551,Wf)::(nat_lit 552,Wd)::(nat_lit 558,Wc)::(nat_lit 559,Wb)::(nat_lit 565,Wa)::(nat_lit 566,V9)::(nat_lit 572,V8)::(nat_lit 573,V7)::(nat_lit 579,V6)::(nat_lit 580,V5)::(nat_lit 586,V4)::(nat_lit 587,V3)::(nat_lit 593,V2)::(nat_lit 594,V1)::(nat_lit 600,V0)::(nat_lit 601,VR)::(nat_lit 605,VP)::(nat_lit 606,VN)::(nat_lit 610,VL)::(nat_lit 611,VJ)::(nat_lit 617,VH)::(nat_lit 618,VG)::(nat_lit 624,VF)::(nat_lit 625,VD)::(nat_lit 629,VB)::(nat_lit 630,Vz)::(nat_lit 643,Vw)::(nat_lit 644,Vv)::(nat_lit 645,Vu)::(nat_lit 651,Vt)::(nat_lit 652,Vs)::(nat_lit 658,Vr)::(nat_lit 659,Vq)::(nat_lit 665,Vp)::(nat_lit 666,Vo)::(nat_lit 670,Vn)::(nat_lit 671,Vm)::(nat_lit 672,Vl)::(nat_lit 678,Vk)::(nat_lit 679,Vj)::(nat_lit 683,Vi)::(nat_lit 684,Vh)::(nat_lit 688,Vg)::(nat_lit 689,Vf)::(nat_lit 695,Ve)::(nat_lit 696,Vd)::(nat_lit 702,Vc)::(nat_lit 703,Vb)::(nat_lit 707,Va)::(nat_lit 708,U9)::(nat_lit 710,U8 P)::(nat_lit 711,U7)::(nat_lit 719,U6)::(nat_lit 720,U5)::(nat_lit 726,U4)::(nat_lit 727,U3)::(nat_lit 731,U0)::(nat_lit 732,UW)::(nat_lit 738,UL)::(nat_lit 739,UJ)::(nat_lit 745,UG)::(nat_lit 746,Uz)::(nat_lit 752,Uy)::(nat_lit 753,Ux)::(nat_lit 759,Uw)::(nat_lit 760,Uv)::(nat_lit 766,Uu)::(nat_lit 767,Ut)::(nat_lit 773,Us)::(nat_lit 774,Ur)::(nat_lit 780,Uq)::(nat_lit 781,Uo)::(nat_lit 787,Um)::(nat_lit 788,Ul)::(nat_lit 794,Uk)::(nat_lit 795,Uj)::(nat_lit 801,Ui)::(nat_lit 802,Uh)::[]
noncomputable def asK:List Addr:=[2,3,20,21,27,28,32,33,42,43,44,55,56,67,68,79,80,91,92,103,104,115,116,127,128,139,140,151,152,163,164,175,176,187,188,199,200,211,212,223,224,235,236,244,245,249,250,256,257,263,264,268,269,275,276,282,283,289,290,296,297,303,304,310,311,317,318,324,325,331,332,338,339,345,346,350,351,357,358,371,372,378,379,385,386,392,393,399,400,406,407,408,414,415,421,422,428,429,435,436,442,443,449,450,454,455,461,462,468,469,475,476,482,483,489,490,492,493,494,495,503,504,510,511,517,518,522,523,529,530,534,535,539,540,546,547,551,552,558,559,565,566,572,573,579,580,586,587,593,594,600,601,605,606,610,611,617,618,624,625,629,630,643,644,645,651,652,658,659,665,666,670,671,672,678,679,683,684,688,689,695,696,702,703,707,708,710,711,719,720,726,727,731,732,738,739,745,746,752,753,759,760,766,767,773,774,780,781,787,788,794,795,801,802]
def tsK:List Addr:=[334,259]
theorem hkE:∀ P,asK=(Kf P).map (·.1):=fun _=>by kernel_rfl
noncomputable def qv:Program:={ PySem.Challenge.pw_sluice_k67_moves_refused with main:={ PySem.Challenge.pw_sluice_k67_moves_refused.main with body:=[top0 95] } }
def J3:List Str:="_wall"::"MOST_WATER"::"LONGEST_NAME"::"LETTERS"::"is_water"::"is_name"::"SluiceError"::"NoRiver"::"NoReach"::"NoLicence"::"NoNumber"::"NoHolder"::"NotYours"::"NotAlone"::"TooMuch"::"Full"::"NoPaper"::"NoCut"::"NoPond"::"NoDay"::"Fixed"::"Harms"::"NoRow"::"MOST_REACHES"::"MOUTH"::"comes_to_mouth"::"is_river"::"way_of"::"tops_first"::"mouths_of"::"stretch_of"::"LAST_DAY"::"is_licence"::"reaches_of"::"day_filed"::"start_of"::"gives_back"::"most_of"::"with_start"::"with_most"::"ranked"::"groups_of"::"wants_of"::"MOST_LICENCES"::"look_at_name"::"Roll"::"natural_of"::"flows_of"::"count_ways"::"whole_turns"::"draw"::"take_whole_turns"::"take_one_turn"::"deal_turns"::"deal"::"WHOLE"::"pond_start"::"look_at_let"::"let_out"::"pond_calls"::"evening"::"morning_of"::"moves_of"::"used_of"::"day_of"::"moved"::"harm_of"::"MOST_PONDS"::"greatest_of"::"Book"::"_law_cell_at"::"_law_pebble"::"_law_pebbles"::"_law_places"::"_law_laid"::"_law_walk"::"_law_moved"::"_law_kinds"::"_law_due"::"_law_tried"::"_law_wished"::"_law_book"::[]
end
noncomputable section
noncomputable def PG:Program:=PySem.Challenge.rw_sluice_k67_moves_refused.row.toRowW.prog
noncomputable def zs (h:Heap)(k:Nat)(o:OsState):Shared:=⟨h,#[],{},k,o⟩
theorem hp1:∀ w:World,(PySem.W.fencedOpening PySem.treeTable PG w 13906).map (fun s=>(s.heap,s.gens,s.drawn,s.toks))=some (H0 w.params,#[],{},181):=by
 intro w;kernel_rfl
theorem hp2:∀ w:World,((H0 w.params).isNs mainGlobals&& (#[]:Array GenState).size ==0,(H0 w.params).objs.size,(H0 w.params).nsMap mainGlobals "__annotations__")=(true,11,some (Value.ref 6)):=by
 intro w;kernel_rfl
def BI:List Stmt:=PySem.W.behindTheImports PG
def evT:Env:={ scope:=PG.main.scope,locals:=mainNs,globals:=mainNs,cells:=[],code:=Value.ref 13,frame:=some 14 }
def cT:Code:=.body BI evT
theorem hp3a:∀ (w:World)(os:OsState),PySem.W.topGo PySem.treeTable PG w 11 (some (Value.ref 6)) 12 (zs (H0 w.params) 181 os) (topStub PG)=some ((zs (Ha w.params) 187 os),⟨denote PySem.treeTable cT,cT,(⟨0,0,0,0⟩:Pos),[topFrame (⟨0,0,0,0⟩:Pos)]⟩):=by
 intro w os;kernel_rfl
theorem hp3b:∀ (w:World)(os:OsState),segRun PySem.treeTable PG w 11 (some (Value.ref 6)) 1 20 (zs (Ha w.params) 187 os) (PySem.W.blockOf BI evT cT (⟨0,0,0,0⟩:Pos) [topFrame (⟨0,0,0,0⟩:Pos)])=some (.next,(zs (Hb w.params) 187 os),cT,(⟨0,0,0,0⟩:Pos)):=by
 intro w os;kernel_rfl
theorem hq1:∀ (w:World)(os:OsState),segRun PySem.treeTable PG w 11 (some (Value.ref 6)) 1 4100 (zs (Hb w.params) 187 os) (piecesOf (BI.take 33) evT cT (⟨0,0,0,0⟩:Pos) [topFrame (⟨0,0,0,0⟩:Pos)])=some (.next,(zs (Hm0 w.params) 537 os),cT,(⟨70,0,71,74⟩:Pos)):=by
 intro w os;kernel_rfl
theorem hq2:∀ (w:World)(os:OsState),segRun PySem.treeTable PG w 11 (some (Value.ref 6)) 1 1492 (zs (Hm0 w.params) 537 os) (piecesOf ((BI.drop 33).take 22) evT cT (⟨70,0,71,74⟩:Pos) [topFrame (⟨0,0,0,0⟩:Pos)])=some (.next,(zs (Hm1 w.params) 859 os),cT,(⟨223,0,223,8⟩:Pos)):=by
 intro w os;kernel_rfl
theorem hq3:∀ (w:World)(os:OsState),segRun PySem.treeTable PG w 11 (some (Value.ref 6)) 1 882 (zs (Hm1 w.params) 859 os) (piecesOf (((BI.drop 33).drop 22).take 26) evT cT (⟨223,0,223,8⟩:Pos) [topFrame (⟨0,0,0,0⟩:Pos)])=some (.next,(zs (Hm2 w.params) 1088 os),cT,(⟨348,0,350,67⟩:Pos)):=by
 intro w os;kernel_rfl
theorem hr3:∀ (w:World)(os:OsState),topRun PySem.treeTable PG w 11 (some (Value.ref 6)) 1216 (zs (Hm2 w.params) 1088 os) (restOf (((BI.drop 33).drop 22).drop 26) evT cT (⟨348,0,350,67⟩:Pos) [topFrame (⟨0,0,0,0⟩:Pos)])=some (zs (H1 w.params) 1359 os):=by
 intro w os;kernel_rfl
theorem hr2:∀ (w:World)(os:OsState),topRun PySem.treeTable PG w 11 (some (Value.ref 6)) (882+1216) (zs (Hm1 w.params) 859 os) (restOf ((BI.drop 33).drop 22) evT cT (⟨223,0,223,8⟩:Pos) [topFrame (⟨0,0,0,0⟩:Pos)])=some (zs (H1 w.params) 1359 os):=fun w os=>by
 have h:=piece_app (hq3 w os) (hr3 w os);rwa [af6] at h
theorem hr1:∀ (w:World)(os:OsState),topRun PySem.treeTable PG w 11 (some (Value.ref 6)) (1492+(882+1216)) (zs (Hm0 w.params) 537 os) (restOf (BI.drop 33) evT cT (⟨70,0,71,74⟩:Pos) [topFrame (⟨0,0,0,0⟩:Pos)])=some (zs (H1 w.params) 1359 os):=fun w os=>by
 have h:=piece_app (hq2 w os) (hr2 w os);rwa [af6] at h
theorem hr0:∀ (w:World)(os:OsState),topRun PySem.treeTable PG w 11 (some (Value.ref 6)) (4100+(1492+(882+1216))) (zs (Hb w.params) 187 os) (restOf BI evT cT (⟨0,0,0,0⟩:Pos) [topFrame (⟨0,0,0,0⟩:Pos)])=some (zs (H1 w.params) 1359 os):=fun w os=>by
 have h:=piece_app (hq1 w os) (hr1 w os);rwa [af6] at h
theorem hp3:∀ (w:World)(os:OsState),topRun PySem.treeTable PG w 11 (some (Value.ref 6)) (12+(20+(4100+(1492+(882+1216))))) (zs (H0 w.params) 181 os) (topStub PG)=some (zs (H1 w.params) 1359 os):=fun w os=>PySem.W.go_top (hp3a w os) (PySem.W.piece_block (hp3b w os) (hr0 w os))
theorem hp4:∀ w:World,(fun os=>((PySem.W.staticsOk (importedModules PG.main.body) (H0 w.params) (H1 w.params) && PySem.W.namesBound PG (H1 w.params) && PySem.W.gensDone (zs (H1 w.params) 1359 os) && PySem.W.laidKept (H0 w.params) (H1 w.params)),PySem.W.openSeen qv J3 (importedModules PG.main.body) (fun s=>xlAt My.qv [] s&& recOk (PySem.W.RowW.records PySem.Challenge.rw_sluice_k67_moves_refused.row.toRowW) s) true (zs (H1 w.params) 1359 os),(PySem.W.Hook.obs (kmHook My.Kf My.asK My.hkE My.tsK)) (zs (H1 w.params) 1359 os)))=fun _=>(true,PySem.W.openGood qv J3,(PySem.W.Hook.val (kmHook My.Kf My.asK My.hkE My.tsK)) w):=by
 intro w;kernel_rfl
theorem hlE:PySem.W.LeftO PySem.Challenge.rw_sluice_k67_moves_refused.row.toRowW.prog qv My.J3 (fun s=>xlAt My.qv [] s&& recOk (PySem.W.RowW.records PySem.Challenge.rw_sluice_k67_moves_refused.row.toRowW) s) (PySem.W.Hook.obs (kmHook My.Kf My.asK My.hkE My.tsK)) (PySem.W.Hook.val (kmHook My.Kf My.asK My.hkE My.tsK)) 13906:=PySem.W.LeftO.of_pieces hp1 hp2 hp3 (by decide) hp4
end
end My
namespace L2
open PySem PySem.Spec PyProof.Rows
abbrev Key:=Sum Int Str
def Lf:Key->Value->Bool
 | .inl k,v=>Value.isInt k v
 | .inr x,v=>Value.isStrOf x v
def keyH (w:World):Key->Int
 | .inl k=>hashInt k
 | .inr x=>hashStr w x
theorem eU:∀ {k:Key}{v:Value},Lf k v=true->(∃ i t,k=Sum.inl i/\v=Value.int i t)\/(∃ x t,k=Sum.inr x/\v=Value.str x t)
 | .inl i,v,h=>by
  obtain ⟨t,e⟩:=Value.isInt_shape (k:=i) (v:=v) h;exact .inl ⟨i,t,rfl,e⟩
 | .inr x,v,h=>by
  obtain ⟨t,e⟩:=Value.isStrOf_shape (x:=x) (v:=v) h;exact .inr ⟨x,t,rfl,e⟩
theorem Ot (i:Int)(t:Tok):Lf (.inl i) (.int i t)=true:=by simp [Lf,Value.isInt]
theorem Oq (x:Str)(t:Tok):Lf (.inr x) (.str x t)=true:=by simp [Lf,Value.isStrOf]
theorem ab1 (a b:Int):decide ((Sum.inl a:Key)=Sum.inl b)=(a ==b):=by
 by_cases e:a=b
 ·subst e;simp
 ·have h:¬ (Sum.inl a:Key)=Sum.inl b:=fun q=>e (Sum.inl.inj q);rw [decide_eq_false h];exact (beq_eq_false_iff_ne.mpr e).symm
theorem abX (a b:Str):decide ((Sum.inr a:Key)=Sum.inr b)=decide (a=b):=by
 by_cases e:a=b
 ·subst e;simp
 ·have h:¬ (Sum.inr a:Key)=Sum.inr b:=fun q=>e (Sum.inr.inj q);rw [decide_eq_false h,decide_eq_false e]
theorem ab0 (a:Int)(b:Str):decide ((Sum.inl a:Key)=Sum.inr b)=false:=decide_eq_false (fun q=>nomatch q)
theorem abY (a:Str)(b:Int):decide ((Sum.inr a:Key)=Sum.inl b)=false:=decide_eq_false (fun q=>nomatch q)
def iC (prog:Program)(w:World):PySem.KeyKind prog w Key where
 is:=Lf;hash:=keyH w;inj:=fun v a b ha hb=>by
  rcases eU ha with ⟨i,t,rfl,rfl⟩ | ⟨x,t,rfl,rfl⟩
  ·rcases eU hb with ⟨j,u,rfl,e⟩ | ⟨y,u,rfl,e⟩
   ·injection e with e1 _;rw [e1]
   ·exact nomatch e
  ·rcases eU hb with ⟨j,u,rfl,e⟩ | ⟨y,u,rfl,e⟩
   ·exact nomatch e
   ·injection e with e1 _;rw [e1]
 byValue:=fun k v h=>by
  rcases eU h with ⟨i,t,rfl,rfl⟩ | ⟨x,t,rfl,rfl⟩<;>rfl
 pyHash:=fun hv h=>by
  rcases eU hv with ⟨i,t,rfl,rfl⟩ | ⟨x,t,rfl,rfl⟩
  ·exact wpAny_pyHash_int h
  ·exact wpAny_pyHash_str h
 eqBool:=fun hu hv h=>by
  rcases eU hu with ⟨i,t,rfl,rfl⟩ | ⟨x,t,rfl,rfl⟩
  ·rcases eU hv with ⟨j,u,rfl,rfl⟩ | ⟨y,u,rfl,rfl⟩
   ·rw [ab1] at h;exact wpAny_eqBool_int h
   ·rw [ab0] at h;exact SeqAt.EqAt.int_str i t y u _ _ _ _ h
  ·rcases eU hv with ⟨j,u,rfl,rfl⟩ | ⟨y,u,rfl,rfl⟩
   ·rw [abY] at h;exact SeqAt.EqAt.str_int x t j u _ _ _ _ h
   ·rw [abX] at h;exact wpAny_eqBool_str h
 «strs»:=fun k x t v h=>by
  rcases eU h with ⟨i,u,rfl,e⟩ | ⟨y,u,rfl,e⟩
  ·exact nomatch e
  ·injection e with e1 _;subst e1;cases v <;>rfl
theorem Ip (prog:Program)(w:World)(i:Int)(t:Tok):(iC prog w).is (.inl i) (.int i t)=true:=Ot i t
theorem Io (prog:Program)(w:World)(x:Str)(t:Tok):(iC prog w).is (.inr x) (.str x t)=true:=Oq x t
inductive V where
 | non| bl (b:Bool) | int (i:Int) | str (x:Str) | byt (b:Array UInt8) | flt (b:UInt64) | ref (a:Addr) | ty (n:String)
 deriving DecidableEq
def RelV:V->Value->Prop
 | .non,u=>u=Value.none
 | .bl b,u=>u=Value.bool b
 | .int i,u=>∃ t,u=Value.int i t
 | .str x,u=>∃ t,u=Value.str x t
 | .byt b,u=>∃ t,u=Value.bytes b t
 | .flt b,u=>∃ t,u=Value.float b t
 | .ref a,u=>u=Value.ref a
 | .ty n,u=>u=Value.type n
abbrev Vals:List V->List Value->Prop:=Paired RelV
theorem Vals.length {xs:List V}{us:List Value}(r:Vals xs us):xs.length=us.length:=Paired.length r
theorem Vals.get:∀ {xs:List V}{us:List Value}{i:Nat}{x:V},Vals xs us->xs[i]?=some x->∃ u,us[i]?=some u/\RelV x u
 | _,_,_,_,.nil,e=>by simp at e
 | _,_,0,_,.cons r _,e=>by simp at e;subst e;exact ⟨_,rfl,r⟩
 | _,_,i+1,x,.cons _ t,e=>by
  obtain ⟨u,h1,h2⟩:=Vals.get (i:=i) (x:=x) t (by simpa using e);exact ⟨u,by simpa using h1,h2⟩
theorem Vals.set {x:V}{u:Value}(r:RelV x u):∀ {xs:List V}{us:List Value}(i:Nat),Vals xs us->Vals (xs.set i x) (us.set i u)
 | _,_,_,.nil=>.nil
 | _,_,0,.cons _ t=>.cons r t
 | _,_,i+1,.cons q t=>.cons q (Vals.set r i t)
theorem Vals.append:∀ {xs ys:List V}{us ws:List Value},Vals xs us->Vals ys ws->Vals (xs++ys) (us++ws)
 | _,_,_,_,.nil,s=>s
 | _,_,_,_,.cons r t,s=>.cons r (Vals.append t s)
theorem Vals.take:∀ {xs:List V}{us:List Value}(n:Nat),Vals xs us->Vals (xs.take n) (us.take n)
 | _,_,0,_=>.nil
 | _,_,_+1,.nil=>.nil
 | _,_,n+1,.cons r t=>.cons r (Vals.take n t)
theorem Vals.drop:∀ {xs:List V}{us:List Value}(n:Nat),Vals xs us->Vals (xs.drop n) (us.drop n)
 | _,_,0,r=>r
 | _,_,_+1,.nil=>.nil
 | _,_,n+1,.cons _ t=>Vals.drop n t
def Qt:Option V->Option Value->Prop
 | some v,some u=>RelV v u
 | none,none=>True
 | _,_=>False
def KV {κ:Type}:List (κ × V)->List (κ × Value)->Prop:=Paired fun (p:κ × V)(q:κ × Value)=>p.1=q.1/\RelV p.2 q.2
def kV:Key->V
 | .inl i=>.int i
 | .inr x=>.str x
inductive HO where
  | lst (xs:List V)
  | tup (xs:List V)
  | dK (kvs:List (Key × V)) | dT (kvs:List (List Key × V))
  | set (S:Int->Bool) (n:Nat)
  | ins (C dx:Addr) (fs:List (Str × V))
  | own (x:Addr)
  | xd (fs:List (Str × V))
  | met (f x:Addr)
  | rng (lo hi:Int)
  | frz (o:Obj) (u:HO)
  | tbl (ps:Array Value)
  | ext (φ:Heap->Prop)
abbrev Hp:=Addr->Option HO
def upd (H:Hp)(a:Addr)(o:HO):Hp:=fun b=>if b=a then some o else H b
theorem aZ {H:Hp}{a:Addr}{o:HO}:upd H a o a=some o:=by unfold upd;rw [if_pos rfl]
theorem aN {H:Hp}{a b:Addr}{o:HO}(h:b≠a):upd H a o b=H b:=by unfold upd;rw [if_neg h]
theorem bR {H:Hp}{a b:Addr}{o:HO}(h:H a=some o)(h':H b=none):a≠b:=by
 intro e;subst e;rw [h] at h';cases h'
section
variable (P:Program)(w:World)
def gq (H:Hp)(h:Heap)(a:Addr):HO->Prop
 | .lst xs=>xs.length<=sizeLine/\∃ (its:List Value)(n:Nat),Vals xs its/\h.get? a=some { cls:=.type "list",data:=.seq its.toArray n }
 | .tup xs=>xs.length<=sizeLine/\∃ its:List Value,Vals xs its/\IsTup h a its.toArray
 | .dK kvs=>kvs.length<=sizeLine/\(a ==sysModules)=false/\∃ vs,KV kvs vs/\h.DictOf (iC P w) a vs
 | .dT kvs=>kvs.length<=sizeLine/\(a ==sysModules)=false/\∃ xs:List (List Key × Addr × Value),
   Paired (fun (p:List Key × V)(q:List Key × Addr × Value)=>p.1=q.1/\H q.2.1=some (.tup (p.1.map kV))/\RelV p.2 q.2.2) kvs xs /\
   ∃ o es ep,h.get? a=some o/\o.ExactDict/\o.data=.dict es ep/\es.toList=xs.map (entryOfKey (tupleKind (iC P w)))/\(xs.map (·.1)).Nodup
 | .set S n=>h.SetOf (intKind P w) a S n
 | .ins C dx fs=>H dx=some (.own a)/\fs.length<=1000/\dx≠a/\h.get? a=some (instObj C dx) /\
   ∃ mA,h.Ns1 dx mA/\(∀ f,Qt (fs.lookup f) (mA f))/\PySem.Within mA (fs.map (·.1))
 | .own _=>∃ o,h.get? a=some o
 | .xd fs=>∃ mA,h.Ns1 a mA/\∀ f,Qt (fs.lookup f) (mA f)
 | .rng lo hi=>∃ t u v,h.get? a=some { cls:=.type "range",data:=.fields #[.int lo t,.int hi u,.int 1 v] }
 | .frz o u=>h.get? a=some o/\gq H h a u
 | .tbl ps=>h.get? a=some { cls:=.none,data:=.fields ps }
 | .met f x=>h.get? a=some (methodObj (.ref f) (.ref x))
 | .ext φ=>φ h/\(∃ o,h.get? a=some o)/\∀ h1 h2:Heap,φ h1->(∀ o,h1.get? a=some o->h2.get? a=some o)->φ h2
def HOk (H:Hp)(h:Heap):Prop:=∀ a o,H a=some o->gq P w H h a o
end
section
variable {P:Program}{w:World}{H H':Hp}{h h':Heap}{a:Addr}{o:HO}
theorem gq.lt (x:gq P w H h a o):a<h.objs.size:=by
 cases o with
 | lst xs=>obtain ⟨_,_,_,_,e⟩:=x;exact aeV e
 | tup xs=>obtain ⟨_,_,_,p⟩:=x;exact p.lt
 | dK kvs=>obtain ⟨_,_,_,_,o,_,_,e,_⟩:=x;exact aeV e
 | dT kvs=>obtain ⟨_,_,_,_,o,_,_,e,_⟩:=x;exact aeV e
 | set S n=>obtain ⟨o,_,_,_,e,_⟩:=x;exact aeV e
 | ins C dx fs=>obtain ⟨_,_,_,e,_⟩:=x;exact aeV e
 | own y=>obtain ⟨_,e⟩:=x;exact aeV e
 | xd fs=>obtain ⟨_,⟨_,_,_,e,_⟩,_⟩:=x;exact aeV e
 | rng lo hi=>obtain ⟨_,_,_,e⟩:=x;exact aeV e
 | frz ob u=>obtain ⟨e,_⟩:=x;exact aeV e
 | tbl ps=>exact aeV (show h.get? a=some _ from x)
 | met f y=>exact aeV (show h.get? a=some _ from x)
 | ext φ=>obtain ⟨_,⟨_,e⟩,_⟩:=x;exact aeV e
theorem Paired.aep {α β:Type}{F G:α->β->Prop}:∀ {l₁:List α}{l₂:List β},Paired F l₁ l₂->(∀ a b,F a b->G a b)->Paired G l₁ l₂
 | _,_,.nil,_=>.nil
 | _,_,.cons r t,f=>.cons (f _ _ r) (Paired.aep t f)
theorem gq.stay (x:gq P w H h a o)(k:∀ b u,(b=a\/H b=some (.own a))->h.get? b=some u->h'.get? b=some u)
  (ho:∀ b,H b=some (.own a)->H' b=some (.own a))(ht:∀ b xs,H b=some (.tup xs)->H' b=some (.tup xs)):gq P w H' h' a o:=by
 induction o with
 | lst xs=>obtain ⟨z,its,n,r,e⟩:=x;exact ⟨z,its,n,r,k _ _ (.inl rfl) e⟩
 | tup xs=>obtain ⟨z,its,r,ob,e,c⟩:=x;exact ⟨z,its,r,ob,k _ _ (.inl rfl) e,c⟩
 | dK kvs=>obtain ⟨z,y,vs,r,ob,es,ep,e,c⟩:=x;exact ⟨z,y,vs,r,ob,es,ep,k _ _ (.inl rfl) e,c⟩
 | dT kvs =>
  obtain ⟨z,y,xs,r,ob,es,ep,e,c⟩:=x;exact ⟨z,y,xs,Paired.aep r fun p q z=>⟨z.1,ht _ _ z.2.1,z.2.2⟩,ob,es,ep,k _ _ (.inl rfl) e,c⟩
 | set S n=>obtain ⟨ob,es,ep,t,e,c⟩:=x;exact ⟨ob,es,ep,t,k _ _ (.inl rfl) e,c⟩
 | ins C dx fs =>
  obtain ⟨d,z,ne,e,mA,⟨od,es,ep,e2,c⟩,r⟩:=x;exact ⟨ho _ d,z,ne,k _ _ (.inl rfl) e,mA,⟨od,es,ep,k _ _ (.inr d) e2,c⟩,r⟩
 | own y=>obtain ⟨ob,e⟩:=x;exact ⟨ob,k _ _ (.inl rfl) e⟩
 | xd fs=>obtain ⟨mA,⟨od,es,ep,e,c⟩,r⟩:=x;exact ⟨mA,⟨od,es,ep,k _ _ (.inl rfl) e,c⟩,r⟩
 | rng lo hi=>obtain ⟨t,u,v,e⟩:=x;exact ⟨t,u,v,k _ _ (.inl rfl) e⟩
 | frz ob u ih=>obtain ⟨e,q⟩:=x;exact ⟨k _ _ (.inl rfl) e,ih q⟩
 | tbl ps =>
  have e:h.get? a=some { cls:=.none,data:=.fields ps }:=x;show h'.get? a=some { cls:=.none,data:=.fields ps };exact k a _ (.inl rfl) e
 | met f y =>
  have e:h.get? a=some (methodObj (.ref f) (.ref y)):=x;show h'.get? a=some (methodObj (.ref f) (.ref y));exact k a _ (.inl rfl) e
 | ext φ=>obtain ⟨p,⟨o,e⟩,st⟩:=x;exact ⟨st _ _ p fun o q=>k _ _ (.inl rfl) q,⟨o,k _ _ (.inl rfl) e⟩,st⟩
theorem HOk.lt (x:HOk P w H h)(e:H a=some o):a<h.objs.size:=(x a o e).lt
theorem HOk.fresh (x:HOk P w H h)(e:h.objs.size<=a):H a=none:=by
 cases q:H a with
 | none=>rfl
 | some u=>exact absurd (afj (x.lt q) e) (afH _)
theorem HOk.kept (x:HOk P w H h)(k:∀ b u,h.get? b=some u->h'.get? b=some u):HOk P w H h':=fun a o e =>
 (x a o e).stay (fun b u _ q=>k b u q) (fun _ q=>q) fun _ _ q=>q
theorem HOk.laid (x:HOk P w H h)(k:∀ b u,h.get? b=some u->h'.get? b=some u)(hp:h.objs.size<=a)(new:gq P w (upd H a o) h' a o):HOk P w (upd H a o) h':=fun b u e=>by
 have hn:=x.fresh hp;by_cases hb:b=a
 ·subst hb;rw [aZ] at e;cases e;exact new
 ·rw [aN hb] at e;exact (x b u e).stay (fun c v _ q=>k c v q) (fun c q=>by rw [aN (bR q hn)];exact q) fun c xs q=>by rw [aN (bR q hn)];exact q
end
def Rd (H:Hp)(a:Addr)(u:HO):Prop:=H a=some u\/∃ o,H a=some (.frz o u)
theorem Rd.ok {P:Program}{w:World}{H:Hp}{h:Heap}{a:Addr}{u:HO}(r:Rd H a u)(x:HOk P w H h):gq P w H h a u:=by
 rcases r with r| ⟨o,r⟩
 ·exact x a u r
 ·obtain ⟨_,q⟩:=x a _ r;exact q
def Mut:Option HO->Prop
 | some (.lst _)=>True
 | some (.dK _)=>True
 | some (.dT _)=>True
 | some (.set _ _)=>True
 | some (.ins _ _ _)=>True
 | some (.ext _)=>True
 | _=>False
section
variable {P:Program}{w:World}{H:Hp}{h h':Heap}{x e:Addr}{o':HO}
theorem HOk.write (ok:HOk P w H h)(mu:Mut (H x))(he:e=x\/H e=some (.own x))(k:∀ b u,b≠e->h.get? b=some u->h'.get? b=some u)(heo:∃ u,h'.get? e=some u)
  (new:gq P w (upd H x o') h' x o'):HOk P w (upd H x o') h':=fun b u q=>by
 have nown:∀ c y,H c=some (.own y)->c≠x:=fun c y r z=>by subst z;rw [r] at mu;exact mu
 have ntup:∀ c xs,H c=some (.tup xs)->c≠x:=fun c xs r z=>by subst z;rw [r] at mu;exact mu
 by_cases hb:b=x
 ·subst hb;rw [aZ] at q;cases q;exact new
 ·rw [aN hb] at q;by_cases hbe:b=e
  ·have q':H b=some (.own x):=by
    rcases he with z| z
    ·exact absurd (hbe.trans z) hb
    ·rw [hbe];exact z
   rw [q] at q';cases q';obtain ⟨v,hv⟩:=heo;exact ⟨v,by rw [hbe];exact hv⟩
  ·refine (ok b u q).stay (fun c v hc r=>k c v ?_ r) (fun c r=>by rw [aN (nown c b r)];exact r) fun c xs r=>by rw [aN (ntup c xs r)];exact r
   rcases hc with rfl| hc
   ·exact hbe
   ·rintro rfl;rcases he with z| z
    ·exact nown c b hc z
    ·rw [hc] at z;cases z;exact hb rfl
end
structure Un (fs ex:List Addr)(H H':Hp)(h h':Heap):Prop where
 keep:∀ b o,h.get? b=some o->H b=none->b ∉ fs->b ∉ ex->h'.get? b=some o
 slot:∀ b o,h.get? b=some o->H b=none->b∈fs->b ∉ ex->∃ sl,h'.get? b=some { o with slots:=sl }
 free:∀ b o,h.get? b=some o->H b=none->b ∉ ex->H' b=none
 there:∀ b o,h.get? b=some o->b ∉ ex->∃ o',h'.get? b=some o'
 tups:∀ b xs,H b=some (.tup xs)->H' b=some (.tup xs)
 frzs:∀ b o u,H b=some (.frz o u)->H' b=some (.frz o u)
 tbls:∀ b ps,H b=some (.tbl ps)->∃ more,H' b=some (.tbl (ps++more))
section
variable {fs fs' ex ex':List Addr}{H H1 H2:Hp}{h h1 h2 h':Heap}{a x e:Addr}{o:HO}
theorem Un.any (u:Un fs ex H H1 h h1){b:Addr}{ob:Obj}(q:h.get? b=some ob)(n:H b=none)(hx:b ∉ ex):∃ sl,h1.get? b=some { ob with slots:=sl }:=by
 by_cases hb:b∈fs
 ·exact u.slot b ob q n hb hx
 ·exact ⟨ob.slots,u.keep b ob q n hb hx⟩
theorem Un.kept (k:∀ b u,h.get? b=some u->h'.get? b=some u):Un fs ex H H h h' :=
 ⟨fun b ob q _ _ _=>k b ob q,fun b ob q _ _ _=>⟨ob.slots,k b ob q⟩,fun _ _ _ n _=>n,fun b ob q _=>⟨ob,k b ob q⟩,fun _ _ q=>q,fun _ _ _ q=>q,fun _ ps q=>⟨#[],by rw [q];simp⟩⟩
theorem Un.refl:Un fs ex H H h h:=Un.kept fun _ _ q=>q
theorem Un.laid (k:∀ b u,h.get? b=some u->h'.get? b=some u)(hp:h.objs.size<=a)(hn:H a=none):Un fs ex H (upd H a o) h h' where
 keep:=fun b u q _ _ _=>k b u q;slot:=fun b u q _ _ _=>⟨u.slots,k b u q⟩;free:=fun b u q n _=>by rw [aN (afr (afj (aeV q) hp))];exact n
 there:=fun b u q _=>⟨u,k b u q⟩;tups:=fun b xs q=>by rw [aN (bR q hn)];exact q
 frzs:=fun b u xs q=>by rw [aN (bR q hn)];exact q
 tbls:=fun b ps q=>⟨#[],by rw [aN (bR q hn),q];simp⟩
theorem Un.write (mu:Mut (H x))(he:e=x\/H e=some (.own x))(k:∀ b u,b≠e->h.get? b=some u->h'.get? b=some u)(heo:∃ u,h'.get? e=some u):Un fs ex H (upd H x o) h h':=by
 have hx:∀ b,H b=none->b≠x:=fun b n z=>by subst z;rw [n] at mu;exact mu
 have hb:∀ b,H b=none->b≠e:=fun b n z=>by
  subst z;rcases he with r| r
  ·exact hx b n r
  ·rw [n] at r;cases r
 have hm:∀ b u,H b=some u->¬ Mut (some u)->b≠x:=fun b u q nm z=>by subst z;rw [q] at mu;exact nm mu
 refine ⟨fun b u q n _ _=>k b u (hb b n) q,fun b u q n _ _=>⟨u.slots,k b u (hb b n) q⟩,fun b u q n _=>by rw [aN (hx b n)];exact n,fun b u q _=>?_,
  fun b xs q=>by rw [aN (hm b _ q fun z=>z)];exact q,fun b u xs q=>by rw [aN (hm b _ q fun z=>z)];exact q,fun b ps q=>⟨#[],by rw [aN (hm b _ q fun z=>z),q];simp⟩⟩
 by_cases hbe:b=e
 ·subst hbe;exact heo
 ·exact ⟨u,k b u hbe q⟩
end
def trk (h:Heap)(H:Hp):List Addr:=(List.range h.objs.size).filter fun a=>(H a).isSome
def Qx (h:Heap)(H:Hp):Heap:=PySem.W.hideAll h (trk h H)
theorem O9 (h:Heap)(H:Hp):(Qx h H).objs.size=h.objs.size:=PySem.W.hideAll_size _ _
theorem R4 {h:Heap}{H:Hp}{b:Addr}{o:Obj}(e:h.get? b=some o)(n:H b=none):(Qx h H).get? b=some o:=
 PySem.W.hideAll_get _ e fun hm=>by
  have q:(H b).isSome=true:=(List.mem_filter.mp hm).2;rw [n] at q;simp at q
theorem aap {h:Heap}{H:Hp}{b:Addr}{o:Obj}(e:(Qx h H).get? b=some o):h.get? b=some o/\H b=none:=by
 have e':h.get? b=some o:=PySem.W.of_hideAll (trk h H) e;refine ⟨e',?_⟩;cases q:H b with
 | none=>rfl
 | some x =>
  have hm:b∈trk h H:=List.mem_filter.mpr ⟨afk.mpr (aeV e'),by simp [q]⟩;have z:(Qx h H).get? b=none:=PySem.W.hideAll_none (trk h H) hm;rw [z] at e;cases e
structure Mod (K:PySem.W.Frag)(mg:Str->Option Value)(base:Heap):Prop where
 kin:K.In base
 glob:base.Ns mainGlobals mg
 blt:∃ mb,base.Ns builtinsNs mb/\∀ x:Str,x≠"__name__"->mb x=bootBuiltins x
 nolimit:base.NoLimit
structure Cx where
 prog:Program
 w:World
 K:PySem.W.Frag
 mg:Str->Option Value
 base:Heap
 A:Around
 N:List Str
 s₀:Shared
 H₀:Hp
 env:Env
 outer:List Env
 stack:List Env
 ex:List Addr
 fn:Str->Bool
 calm:Bool
 pn:List (Addr × Obj)
 xe:Value->Shared->Prop
def frs (l:List Env):List Addr:=l.filterMap (·.frame)
abbrev Cx.fs (X:Cx):List Addr:=frs X.outer
def Vis (sc:Scope)(x:Str):Prop:=sc.names.lookup x=some .local\/sc.names.lookup x=some .cell\/sc.names.lookup x=some .free
def Loc (sc:Scope)(x:Str):Prop:=sc.names.lookup x=some .local\/sc.names.lookup x=some .cell
def Look (env:Env)(h:Heap)(m:Str->Option Value)(x:Str)(u:Value):Prop:=
 (env.kindOf x=some .local/\m x=some u)\/((env.kindOf x=some .cell\/env.kindOf x=some .free)/\∃ c,env.cells.lookup x=some c/\h.IsCell c (some u))
structure Cx.Ok (X:Cx):Prop where
 mod:Mod X.K X.mg X.base
 kind:X.env.scope.kind=.function
 glob:X.env.globals=mainGlobals
 blt:X.env.builtins=builtinsNs
 above:X.s₀.heap.objs.size<=X.env.locals
 inj:∀ x y c,X.env.cells.lookup x=some c->X.env.cells.lookup y=some c->x=y
 has:∀ x,(X.env.kindOf x=some .cell\/X.env.kindOf x=some .free)->∃ c,X.env.cells.lookup x=some c
 cab:∀ x c,X.fn x=true->X.env.cells.lookup x=some c->X.s₀.heap.objs.size<=c
 hd:X.calm=true->X.A.handled=none
 frames:X.A.frames=some X.stack
 stk:X.stack=X.outer\/(X.stack=X.env::X.outer/\X.env.frame=some X.env.locals)
 exf:∀ b∈X.ex,b≠X.env.locals/\∀ x c,X.env.cells.lookup x=some c->c≠b
 bs:∀ b o,X.base.get? b=some o->X.s₀.heap.get? b=some o/\X.H₀ b=none
 bsz:X.base.objs.size<=X.s₀.heap.objs.size
 noex:∀ b o,X.base.get? b=some o->b ∉ X.ex
 exfs:∀ b∈X.ex,b ∉ X.fs
 Ka:X.s₀.heap.FunFrames X.base X.outer
 frf:∀ b∈X.fs,X.H₀ b=none
structure Inv (X:Cx)(pins:List (Addr × Obj))(σ:List (Option V))(H:Hp)(s:Shared):Prop where
 ok:X.Ok
 os:s.os=X.s₀.os
 bare:AllBare s.gens
 base:Un X.fs X.ex X.H₀ H X.s₀.heap s.heap
 loc:∃ m,s.heap.Ns X.env.locals m/\∀ (i:Nat)(x:Str)(v:V),X.N[i]?=some x->σ[i]?=some (some v)->Vis X.env.scope x->∃ u,RelV v u/\Look X.env s.heap m x u
 cell:∀ x c,X.env.cells.lookup x=some c->∃ v,s.heap.IsCell c v
 free:H X.env.locals=none
 freeC:∀ x c,X.env.cells.lookup x=some c->H c=none
 pin:∀ p∈X.pn++pins,s.heap.get? p.1=some p.2/\H p.1=none/\p.1≠X.env.locals/\p.1 ∉ X.fs/\∀ v,p.2.data≠.cell v
 hok:HOk X.prog X.w H s.heap
 len:σ.length=X.N.length
section
variable {X:Cx}{pins:List (Addr × Obj)}{σ:List (Option V)}{H H':Hp}{s:Shared}{h':Heap}
theorem Cx.Ok.nofr (ok:X.Ok){b:Addr}{o:Obj}(e:X.base.get? b=some o):b ∉ X.fs:=fun hb=>by
 have:=(ok.Ka.mem hb).1;rw [e] at this;cases this
theorem Inv.bs (I:Inv X pins σ H s):∀ b o,X.base.get? b=some o->s.heap.get? b=some o/\H b=none:=fun b o e =>
 ⟨I.base.keep b o (I.ok.bs b o e).1 (I.ok.bs b o e).2 (I.ok.nofr e) (I.ok.noex b o e),I.base.free b o (I.ok.bs b o e).1 (I.ok.bs b o e).2 (I.ok.noex b o e)⟩
theorem Inv.bk (I:Inv X pins σ H s):∀ b o,X.base.get? b=some o->s.heap.get? b=some o:=fun b o e=>(I.bs b o e).1
theorem Inv.mod (I:Inv X pins σ H s):Mod X.K X.mg X.base:=I.ok.mod
theorem Inv.kIn (I:Inv X pins σ H s):X.K.In s.heap:=I.ok.mod.kin.keeps I.bk
theorem Inv.nolimit (I:Inv X pins σ H s):s.heap.NoLimit:=I.ok.mod.nolimit.keeps I.bk
theorem Inv.lt (I:Inv X pins σ H s):X.env.locals<s.heap.objs.size:=let ⟨_,hn,_⟩:=I.loc;hn.lt
theorem Inv.sz (I:Inv X pins σ H s):X.s₀.heap.objs.size<=s.heap.objs.size:=afB I.ok.above (Nat.le_of_lt I.lt)
theorem Inv.nofs (I:Inv X pins σ H s){a:Addr}(h:s.heap.objs.size<=a):a ∉ X.fs:=fun hb=>by
 obtain ⟨_,o,ho,_⟩:=I.ok.Ka.mem hb;exact absurd (afj (aeV ho) (afB I.sz h)) (afH _)
theorem Inv.cne (I:Inv X pins σ H s):∀ x c,X.env.cells.lookup x=some c->c≠X.env.locals:=fun x c e z=>by
 obtain ⟨v,o,ho,hd⟩:=I.cell x c e;obtain ⟨m,⟨o',es,ep,ho',hd',_⟩,_⟩:=I.loc;rw [z,ho'] at ho;cases ho;rw [hd'] at hd;cases hd
theorem Inv.Ka (I:Inv X pins σ H s):s.heap.FunFrames X.base X.outer:=by
 have all:∀ (l:List Env),(∀ b∈frs l,b∈X.fs)->X.s₀.heap.FunFrames X.base l->s.heap.FunFrames X.base l:=by
  intro l
  induction l with
  | nil=>intro _ _;trivial
  | cons env r ih =>
   intro hs hl;obtain ⟨hk,⟨L,o,hf,hn,ho,hd⟩,hr⟩:=hl;have hL:L∈X.fs:=hs L (by unfold frs;rw [agr,hf];exact afd);obtain ⟨sl,e⟩:=I.base.slot L o ho (I.ok.frf L hL) hL fun z=>I.ok.exfs L z hL;exact ⟨hk,⟨L,_,hf,hn,e,hd⟩,ih (fun b hb=>hs b (by unfold frs;rw [agr,hf];exact ae4 _ hb)) hr⟩
 exact all X.outer (fun _ hb=>hb) I.ok.Ka
theorem Inv.stack (I:Inv X pins σ H s):s.heap.FunFrames X.base X.stack:=by
 rcases I.ok.stk with e| ⟨e,hf⟩
 ·rw [e];exact I.Ka
 ·rw [e];obtain ⟨m,hn,_⟩:=I.loc;refine .cons (by rw [I.ok.kind];decide) hf hn ?_ I.Ka;exact Heap.get?_none_of_le (afB I.ok.bsz I.ok.above)
theorem Inv.Mg (I:Inv X pins σ H s):∀ b∈frs X.stack,b∈X.env.locals::X.fs:=fun b hb=>by
 rcases I.ok.stk with e| ⟨e,hf⟩
 ·rw [e] at hb;exact ae4 _ hb
 ·rw [e] at hb;unfold frs at hb;rw [agr,hf] at hb;exact hb
theorem Inv.Dl (I:Inv X pins σ H s):∀ b∈frs X.stack,H b=none:=fun b hb=>by
 rcases aeS.mp (I.Mg b hb) with e| hb
 ·rw [e];exact I.free
 ·obtain ⟨_,o,ho,_⟩:=I.ok.Ka.mem hb;exact I.base.free b o ho (I.ok.frf b hb) fun z=>I.ok.exfs b z hb
theorem Inv.step {g':Array GenState}{t':Nat}{d':Drawn}{ch:List Addr}(I:Inv X pins σ H s)
  (hch:∀ b∈ch,(b∈X.ex\/X.s₀.heap.objs.size<=b)/\b≠X.env.locals/\(∀ x c,X.env.cells.lookup x=some c->c≠b)/\∀ p∈X.pn++pins,p.1≠b)
  (keep:∀ b o,b≠X.env.locals->b ∉ X.fs->b ∉ ch->s.heap.get? b=some o->H b=none->h'.get? b=some o)
  (slot:∀ b o,b≠X.env.locals->b∈X.fs->b ∉ ch->s.heap.get? b=some o->H b=none->∃ sl,h'.get? b=some { o with slots:=sl })(free:∀ b o,b ∉ ch->s.heap.get? b=some o->H b=none->H' b=none)
  (there:∀ b o,b ∉ ch->s.heap.get? b=some o->∃ o',h'.get? b=some o')
  (tups:∀ b xs,H b=some (.tup xs)->H' b=some (.tup xs))(frzs:∀ b o u,H b=some (.frz o u)->H' b=some (.frz o u))(tbls:∀ b ps,H b=some (.tbl ps)->∃ more,H' b=some (.tbl (ps++more)))
  (ns:∀ m,s.heap.Ns X.env.locals m->h'.Ns X.env.locals m)(hok:HOk X.prog X.w H' h')(hg:AllBare g'):
  Inv X pins σ H' { s with heap:=h',gens:=g',drawn:=d',toks:=t' }:=by
 have neL:∀ b o,X.s₀.heap.get? b=some o->b≠X.env.locals:=fun b o e=>afr (afj (aeV e) I.ok.above)
 have neC:∀ b o,X.s₀.heap.get? b=some o->b ∉ X.ex->b ∉ ch:=fun b o e hx hb=>by
  rcases (hch b hb).1 with z| z
  ·exact hx z
  ·exact absurd (afj (aeV e) z) (afH _)
 have cellK:∀ x c,X.env.cells.lookup x=some c->∀ v,s.heap.IsCell c v->h'.IsCell c v:=fun x c e v ⟨o,ho,hd⟩=>by
  have nch:c ∉ ch:=fun z=>(hch c z).2.2.1 x c e rfl
  by_cases hc:c∈X.fs
  ·obtain ⟨sl,q⟩:=slot c o (I.cne x c e) hc nch ho (I.freeC x c e)
   exact ⟨_,q,hd⟩
  ·exact ⟨o,keep c o (I.cne x c e) hc nch ho (I.freeC x c e),hd⟩
 refine ⟨I.ok,I.os,hg,⟨fun b o e n hb hx=>?_,fun b o e n hb hx=>?_,fun b o e n hx=>?_,fun b o e hx=>?_,fun b xs e=>tups b xs (I.base.tups b xs e),fun b o xs e=>frzs b o xs (I.base.frzs b o xs e),fun b ps e=>?_⟩,?_,fun x c e=>?_,?_,fun x c e=>?_,fun p hp=>?_,hok,I.len⟩
 ·exact keep b o (neL b o e) hb (neC b o e hx) (I.base.keep b o e n hb hx) (I.base.free b o e n hx)
 ·obtain ⟨sl,e1⟩:=I.base.slot b o e n hb hx
  obtain ⟨sl',e2⟩:=slot b _ (neL b o e) hb (neC b o e hx) e1 (I.base.free b o e n hx)
  exact ⟨sl',e2⟩
 ·obtain ⟨o',e1⟩:=I.base.there b o e hx
  exact free b o' (neC b o e hx) e1 (I.base.free b o e n hx)
 ·obtain ⟨o',e1⟩:=I.base.there b o e hx
  exact there b o' (neC b o e hx) e1
 ·obtain ⟨m1,e1⟩:=I.base.tbls b ps e
  obtain ⟨m2,e2⟩:=tbls b _ e1
  exact ⟨m1++m2,by rw [e2,Array.append_assoc]⟩
 ·obtain ⟨m,hn,hl⟩:=I.loc
  refine ⟨m,ns m hn,fun i x v e1 e2 e3=>?_⟩
  obtain ⟨u,r,l⟩:=hl i x v e1 e2 e3
  refine ⟨u,r,?_⟩
  rcases l with l| ⟨k,c,e,z⟩
  ·exact .inl l
  ·exact .inr ⟨k,c,e,cellK x c e _ z⟩
 ·obtain ⟨v,z⟩:=I.cell x c e
  exact ⟨v,cellK x c e v z⟩
 ·obtain ⟨m,⟨o,_,_,ho,_⟩,_⟩:=I.loc
  exact free _ o (fun z=>(hch _ z).2.1 rfl) ho I.free
 ·obtain ⟨v,o,ho,hd⟩:=I.cell x c e
  exact free c o (fun z=>(hch c z).2.2.1 x c e rfl) ho (I.freeC x c e)
 ·obtain ⟨e,n,ne,nf,d⟩:=I.pin p hp
  have nch:p.1 ∉ ch:=fun z=>(hch p.1 z).2.2.2 p hp rfl
  exact ⟨keep p.1 p.2 ne nf nch e n,free p.1 p.2 nch e n,ne,nf,d⟩
theorem Inv.un {t':Nat}(I:Inv X pins σ H s)(u:Un X.fs [] H H' s.heap h')(hok:HOk X.prog X.w H' h'):Inv X pins σ H' { s with heap:=h',toks:=t' }:=by
 obtain ⟨m,⟨o,es,ep,ho,r⟩,_⟩:=id I.loc;obtain ⟨sl,hL⟩:=u.any ho I.free (by simp);exact I.step (g':=s.gens) (d':=s.drawn) (ch:=[]) (fun _ z=>nomatch z) (fun b o _ hb _ e n=>u.keep b o e n hb (by simp)) (fun b o _ hb _ e n=>u.slot b o e n hb (by simp)) (fun b o _ e n=>u.free b o e n (by simp)) (fun b o _ e=>u.there b o e (by simp)) u.tups u.frzs u.tbls (fun m' hm=>by
  obtain ⟨o',es',ep',ho',r'⟩:=hm;rw [ho] at ho';cases ho';exact ⟨_,es',ep',hL,r'⟩) hok I.bare
theorem Inv.call {g':Array GenState}{t':Nat}{d':Drawn}{ch:List Addr}(I:Inv X pins σ H s)(u:Un (frs X.stack) ch H H' s.heap h')(hok:HOk X.prog X.w H' h')(hg:AllBare g')
  (hch:∀ b∈ch,(b∈X.ex\/X.s₀.heap.objs.size<=b)/\b≠X.env.locals/\(∀ x c,X.env.cells.lookup x=some c->c≠b)/\∀ p∈X.pn++pins,p.1≠b):
  Inv X pins σ H' { s with heap:=h',gens:=g',drawn:=d',toks:=t' }:=by
 obtain ⟨m,⟨o,es,ep,ho,r⟩,_⟩:=id I.loc
 obtain ⟨sl,hL⟩:=u.any ho I.free fun z=>(hch _ z).2.1 rfl
 exact I.step (ch:=ch) hch (fun b o hL hb hc e n=>u.keep b o e n (fun z=>(aeS.mp (I.Mg b z)).elim hL hb) hc) (fun b o _ _ hc e n=>u.any e n hc) (fun b o hc e n=>u.free b o e n hc) (fun b o hc e=>u.there b o e hc) u.tups u.frzs u.tbls (fun m' hm=>by
  obtain ⟨o',es',ep',ho',r'⟩:=hm
  rw [ho] at ho';cases ho'
  exact ⟨_,es',ep',hL,r'⟩) hok hg
theorem Inv.turned {t':Nat}{it:Addr}(I:Inv X pins σ H s)(k:∀ b o,b≠it->s.heap.get? b=some o->h'.get? b=some o)(hn:H it=none)(hL:it≠X.env.locals)
  (h1:it∈X.ex\/X.s₀.heap.objs.size<=it)(h2:∀ x c,X.env.cells.lookup x=some c->c≠it)(h3:∀ p∈X.pn++pins,p.1≠it):Inv X pins σ H { s with heap:=h',toks:=t' }:=by
 have nit:∀ b u,H b=some u->b≠it:=fun b u e z=>by rw [z,hn] at e;cases e
 refine I.step (g':=s.gens) (d':=s.drawn) (ch:=[it]) (fun b hb=>?_) (fun b o _ _ hc e _=>k b o (fun z=>hc (by simp [z])) e) (fun b o _ _ hc e _=>⟨o.slots,k b o (fun z=>hc (by simp [z])) e⟩) (fun _ _ _ _ n=>n)
  (fun b o hc e=>⟨o,k b o (fun z=>hc (by simp [z])) e⟩) (fun _ _ e=>e) (fun _ _ _ e=>e) (fun b ps e=>⟨#[],by rw [e];simp⟩) (fun m hm=>?_) (fun b u e=>?_) I.bare
 ·have e:b=it:=by simpa using hb
  subst e;exact ⟨h1,hL,h2,h3⟩
 ·obtain ⟨o,es,ep,ho,r⟩:=hm;exact ⟨o,es,ep,k _ o (Ne.symm hL) ho,r⟩
 ·refine (I.hok b u e).stay (fun c v hc q=>k c v ?_ q) (fun _ q=>q) fun _ _ q=>q;rcases hc with z| z
  ·rw [z];exact nit b u e
  ·exact nit c _ z
theorem Inv.tok (I:Inv X pins σ H s)(t:Nat):Inv X pins σ H { s with toks:=t }:=I.un (h':=s.heap) (t':=t) Un.refl I.hok
theorem Inv.kept {t':Nat}(I:Inv X pins σ H s)(k:∀ b u,s.heap.get? b=some u->h'.get? b=some u):Inv X pins σ H { s with heap:=h',toks:=t' }:=I.un (Un.kept k) (I.hok.kept k)
theorem Inv.laid {a:Addr}{o:HO}{t':Nat}(I:Inv X pins σ H s)(k:∀ b u,s.heap.get? b=some u->h'.get? b=some u)(hp:s.heap.objs.size<=a)(new:gq X.prog X.w (upd H a o) h' a o):
  Inv X pins σ (upd H a o) { s with heap:=h',toks:=t' }:=I.un (Un.laid k hp (I.hok.fresh hp)) (I.hok.laid k hp new)
theorem Inv.write {x e:Addr}{o:HO}{t':Nat}(I:Inv X pins σ H s)(mu:Mut (H x))(he:e=x\/H e=some (.own x))(k:∀ b u,b≠e->s.heap.get? b=some u->h'.get? b=some u)(heo:∃ u,h'.get? e=some u)
  (new:gq X.prog X.w (upd H x o) h' x o):Inv X pins σ (upd H x o) { s with heap:=h',toks:=t' }:=I.un (Un.write mu he k heo) (I.hok.write mu he k heo new)
theorem Inv.Ib {pins':List (Addr × Obj)}(I:Inv X pins σ H s)(h:∀ p∈pins',s.heap.get? p.1=some p.2/\H p.1=none/\p.1≠X.env.locals/\p.1 ∉ X.fs/\∀ v,p.2.data≠.cell v):Inv X pins' σ H s:=
 ⟨I.ok,I.os,I.bare,I.base,I.loc,I.cell,I.free,I.freeC,fun p hp=>(afa.mp hp).elim (fun z=>I.pin p (afw _ z)) (h p),I.hok,I.len⟩
theorem JZ {N:List Str}(hN:N.Nodup){i j:Nat}{x:Str}(a:N[i]?=some x)(b:N[j]?=some x):i=j:=by
 obtain ⟨h1,e1⟩:=aeJ.mp a;obtain ⟨h2,e2⟩:=aeJ.mp b;exact (afR hN).mp (e1.trans e2.symm)
theorem FQ {M:Model}{A:Around}{E:Value->Shared->Prop}{i:Nat}{x:Str}{v:V}{u:Value}{Q:Unit->Shared->Prop}(I:Inv X pins σ H s)(hN:X.N.Nodup)(hi:X.N[i]?=some x)(hx:Loc X.env.scope x)(r:RelV v u)
  (h:∀ s',Inv X pins (σ.set i (some v)) H s'->(∃ a,Heap.SameBut a s.heap s'.heap/\(a=X.env.locals\/X.env.cells.lookup x=some a))->Q () s')(hf:X.fn x=true\/X.env.scope.names.lookup x=some .local:=by first| exact .inl rfl| exact .inr rfl| assumption):wpAny M A (storeName X.env x u) Q E s:=by
 obtain ⟨m,hn,hl⟩:=id I.loc;have hcls:(X.env.scope.kind == .class|| (X.env.scope.kind == .module&& X.env.locals !=X.env.globals))=false:=by rw [I.ok.kind];rfl
 have hiσ:i<σ.length:=by rw [I.len];exact (aeJ.mp hi).1
 have cne:=I.cne;have tracked:∀ {a:Addr}{h':Heap},(∃ o,s.heap.get? a=some o/\H a=none)->Heap.SameBut a s.heap h'->HOk X.prog X.w H h':=fun {a h'} ha hs b ob e=>by
  obtain ⟨_,_,hfree⟩:=ha;refine (I.hok b ob e).stay (fun c w' hc q=>(hs.2 c ?_).trans q) (fun _ q=>q) fun _ _ q=>q;rintro rfl;rcases hc with rfl| hc
  ·rw [hfree] at e;cases e
  ·rw [hfree] at hc;cases hc
 rcases hx with hk| hk
 ·refine wpAny_storeName_local hk hn (fun h' hn' hs=>?_) hcls;obtain ⟨oL,_,_,hoL,_⟩:=id hn;refine h _ ⟨I.ok,I.os,I.bare,⟨fun b o e n hb hx=>?_,fun b o e n hb hx=>?_,I.base.free,fun b o e hx=>?_,I.base.tups,I.base.frzs,I.base.tbls⟩,⟨_,hn',fun j y v' e1 e2 e3=>?_⟩,fun y c e=>?_,I.free,I.freeC,fun p hp=>?_,tracked ⟨oL,hoL,I.free⟩ hs,by simpa using I.len⟩ ⟨_,hs,.inl rfl⟩
  ·exact (hs.2 b (afr (afj (aeV e) I.ok.above))).trans (I.base.keep b o e n hb hx)
  ·obtain ⟨sl,e1⟩:=I.base.slot b o e n hb hx;exact ⟨sl,(hs.2 b (afr (afj (aeV e) I.ok.above))).trans e1⟩
  ·obtain ⟨o',e1⟩:=I.base.there b o e hx;exact ⟨o',(hs.2 b (afr (afj (aeV e) I.ok.above))).trans e1⟩
  ·by_cases hj:j=i
   ·subst hj;rw [hi] at e1;cases e1;rw [afM hiσ] at e2;cases e2;exact ⟨u,r,.inl ⟨hk,by simp⟩⟩
   ·rw [afL (Ne.symm hj)] at e2;obtain ⟨u',r',q⟩:=hl j y v' e1 e2 e3;refine ⟨u',r',?_⟩;rcases q with ⟨k,e⟩ | ⟨k,c,e,z⟩
    ·refine .inl ⟨k,?_⟩;have:y≠x:=fun e=>hj (JZ hN e1 (e ▸ hi));simp [this,e]
    ·exact .inr ⟨k,c,e,z.sameBut hs (cne y c e)⟩
  ·obtain ⟨w',z⟩:=I.cell y c e;exact ⟨w',z.sameBut hs (cne y c e)⟩
  ·obtain ⟨e,n,ne,nf,d⟩:=I.pin p hp;exact ⟨(hs.2 p.1 ne).trans e,n,ne,nf,d⟩
 ·have hfn:X.fn x=true:=by
   rcases hf with z| z
   ·exact z
   ·rw [z] at hk;cases hk
  obtain ⟨c,hc⟩:=I.ok.has x (.inl hk);obtain ⟨w',z⟩:=I.cell x c hc;refine wpAny_storeName_cell I.ok.kind hk hc z (fun h' hc' hs=>?_);obtain ⟨oc,hoc,hocd⟩:=id z;refine h { s with heap:=h' } ⟨I.ok,I.os,I.bare,⟨fun b o e n hb hx=>?_,fun b o e n hb hx=>?_,I.base.free,fun b o e hx=>?_,I.base.tups,I.base.frzs,I.base.tbls⟩,⟨m,hn.sameBut hs (Ne.symm (cne x c hc)),fun j y v' e1 e2 e3=>?_⟩,fun y c' e=>?_,I.free,I.freeC,fun p hp=>?_,tracked ⟨oc,hoc,I.freeC x c hc⟩ hs,by simpa using I.len⟩ ⟨c,hs,.inr hc⟩
  ·exact (hs.2 b (afr (afj (aeV e) (I.ok.cab x c hfn hc)))).trans (I.base.keep b o e n hb hx)
  ·obtain ⟨sl,e1⟩:=I.base.slot b o e n hb hx;exact ⟨sl,(hs.2 b (afr (afj (aeV e) (I.ok.cab x c hfn hc)))).trans e1⟩
  ·obtain ⟨o',e1⟩:=I.base.there b o e hx;exact ⟨o',(hs.2 b (afr (afj (aeV e) (I.ok.cab x c hfn hc)))).trans e1⟩
  ·by_cases hj:j=i
   ·subst hj;rw [hi] at e1;cases e1;rw [afM hiσ] at e2;cases e2;exact ⟨u,r,.inr ⟨.inl hk,c,hc,hc'⟩⟩
   ·rw [afL (Ne.symm hj)] at e2;obtain ⟨u',r',q⟩:=hl j y v' e1 e2 e3;refine ⟨u',r',?_⟩;rcases q with q| ⟨k,c',e,z'⟩
    ·exact .inl q
    ·refine .inr ⟨k,c',e,z'.sameBut hs ?_⟩;rintro rfl;exact hj (JZ hN e1 (I.ok.inj _ _ _ e hc ▸ hi))
  ·by_cases hcc:c'=c
   ·subst hcc;exact ⟨_,hc'⟩
   ·obtain ⟨w2,z2⟩:=I.cell y c' e;exact ⟨w2,z2.sameBut hs hcc⟩
  ·obtain ⟨e,n,ne,nf,d⟩:=I.pin p hp;refine ⟨(hs.2 p.1 ?_).trans e,n,ne,nf,d⟩;intro q;rw [q,hoc] at e;have q':oc=p.2:=aeY e;exact d w' (by rw [<- q'];exact hocd)
theorem Dk {M:Model}{A:Around}{E:Value->Shared->Prop}{i:Nat}{x:Str}{v:V}{u:Value}{Q:Unit->Shared->Prop}(I:Inv X pins σ H s)(hN:X.N.Nodup)(hi:X.N[i]?=some x)(hx:Loc X.env.scope x)(r:RelV v u)
  (h:∀ s',Inv X pins (σ.set i (some v)) H s'->Q () s')(hf:X.fn x=true\/X.env.scope.names.lookup x=some .local:=by first| exact .inl rfl| exact .inr rfl| assumption):wpAny M A (storeName X.env x u) Q E s:=
 FQ I hN hi hx r (fun s' I' _=>h s' I') hf
theorem Inv.call' {s':Shared}{ch:List Addr}(I:Inv X pins σ H s)(ho:s'.os=s.os)(u:Un (frs X.stack) ch H H' s.heap s'.heap)(hok:HOk X.prog X.w H' s'.heap)(hg:AllBare s'.gens)
  (hch:∀ b∈ch,(b∈X.ex\/X.s₀.heap.objs.size<=b)/\b≠X.env.locals/\(∀ x c,X.env.cells.lookup x=some c->c≠b)/\∀ p∈X.pn++pins,p.1≠b):Inv X pins σ H' s':=by
 obtain ⟨h',g',d',t',o'⟩:=s';have e:o'=s.os:=ho;subst e;exact I.call (g':=g') (t':=t') (d':=d') u hok hg hch
end
abbrev XK:=Value->Option Addr->Hp->Prop
abbrev St:=List (Option V)
abbrev VK:=V->Hp->Prop
abbrev TE:=St->Hp->VK->Prop
abbrev TT:=St->Hp->(Bool->Hp->Prop)->Prop
abbrev TA:=St->Hp->(List V->Hp->Prop)->Prop
structure Ends where
 nx:St->Hp->Prop
 rt:VK
 bk:St->Hp->Prop:=fun _ _=>False
 ct:St->Hp->Prop:=fun _ _=>False
abbrev TS:=Ends->St->Hp->Prop
def EP (X:Cx)(pins:List (Addr × Obj))(σ:St)(Q:VK)(u:Value)(s':Shared):Prop:=∃ v H',Inv X pins σ H' s'/\RelV v u/\Q v H'
def TP (X:Cx)(pins:List (Addr × Obj))(σ:St)(Q:Bool->Hp->Prop)(b:Bool)(s':Shared):Prop:=∃ H',Inv X pins σ H' s'/\Q b H'
def AP (X:Cx)(pins:List (Addr × Obj))(σ:St)(Q:List V->Hp->Prop)(us:List Value)(s':Shared):Prop:=∃ vs H',Inv X pins σ H' s'/\Vals vs us/\Q vs H'
def SP (X:Cx)(pins:List (Addr × Obj))(D:Ends)(f:Flow)(s':Shared):Prop:=
 match f with
 | .next=>∃ σ' H',Inv X pins σ' H' s'/\D.nx σ' H'
 | .brk=>∃ σ' H',Inv X pins σ' H' s'/\D.bk σ' H'
 | .cont=>∃ σ' H',Inv X pins σ' H' s'/\D.ct σ' H'
 | .ret u=>∃ v σ' H',Inv X pins σ' H' s'/\RelV v u/\D.rt v H'
def PE (X:Cx)(e:Expr)(t:TE):Prop:=
 ∀ (pins:List (Addr × Obj))(s:Shared)(σ:St)(H:Hp)(Q:VK),Inv X pins σ H s->t σ H Q->wpAny (model X.prog X.w) X.A (eval e X.env) (EP X pins σ Q) X.xe s
def PT (X:Cx)(e:Expr)(t:TT):Prop:=
 ∀ (pins:List (Addr × Obj))(s:Shared)(σ:St)(H:Hp)(Q:Bool->Hp->Prop),Inv X pins σ H s->t σ H Q->wpAny (model X.prog X.w) X.A (isTrue e X.env (eval e X.env)) (TP X pins σ Q) X.xe s
def PW (X:Cx)(e:Expr)(t:TT):Prop:=
 ∀ (whole:Sem Value)(pins:List (Addr × Obj))(s:Shared)(σ:St)(H:Hp)(Q:Bool->Hp->Prop),Inv X pins σ H s->t σ H Q->wpAny (model X.prog X.w) X.A (isTrue e X.env whole) (TP X pins σ Q) X.xe s
theorem PW.pt {X:Cx}{e:Expr}{t:TT}(h:PW X e t):PT X e t:=h _
def PA (X:Cx)(es:List Expr)(t:TA):Prop:=
 ∀ (pos:Pos)(pins:List (Addr × Obj))(s:Shared)(σ:St)(H:Hp)(Q:List V->Hp->Prop),Inv X pins σ H s->t σ H Q->wpAny (model X.prog X.w) X.A (spliced (backTo pos (starEach es X.env))) (AP X pins σ Q) X.xe s
def PS (X:Cx)(st:Stmt)(t:TS):Prop:=
 ∀ (pins:List (Addr × Obj))(s:Shared)(σ:St)(H:Hp)(D:Ends),Inv X pins σ H s->t D σ H->wpAny (model X.prog X.w) X.A (exec st X.env) (SP X pins D) X.xe s
def PSs (X:Cx)(st:List Stmt)(t:TS):Prop:=
 ∀ (pins:List (Addr × Obj))(s:Shared)(σ:St)(H:Hp)(D:Ends),Inv X pins σ H s->t D σ H->wpAny (model X.prog X.w) X.A (execs st X.env) (SP X pins D) X.xe s
theorem thn {α:Type}{t:Sem α}{Q Q':α->Shared->Prop}{M:Model}{A:Around}{E:Value->Shared->Prop}{s:Shared}(h:wpAny M A t Q E s)(hQ:∀ a s,Q a s->Q' a s):wpAny M A t Q' E s:=wpAny_mono h hQ fun _ _ x=>x
section
variable {X:Cx}
inductive aa2 (i:Nat)(σ:St)(H:Hp)(Q:VK):Prop
 | mk (v:V)(_:σ[i]?=some (some v))(_:Q v H)
def tC (v:V):TE:=fun _ H Q=>Q v H
theorem abq {i:Nat}{x:Str}{pos:Pos}(hN:X.N[i]?=some x)(hv:Vis X.env.scope x)(hd:(x ==("__debug__":Str))=false:=by decide)(hcd:(x ==("__classdict__":Str))=false:=by decide):PE X (.Name x pos) (aa2 i):=by
 intro pins s σ H Q I h;obtain ⟨v,e,h⟩:=h;obtain ⟨m,hn,hl⟩:=I.loc;obtain ⟨u,r,l⟩:=hl i x v hN e hv;have fin:EP X pins σ Q u s:=⟨v,H,I,r,h⟩;rcases l with ⟨hk,hm⟩ | ⟨hk,c,hc,hcell⟩
 ·exact wpAny_Name (wpAny_loadName_local I.ok.kind hk hn hm fin) hd
 ·rcases hk with hk| hk
  ·exact wpAny_Name (wpAny_loadName_cell I.ok.kind hk hc hcell fin) hd
  ·exact wpAny_Name (wpAny_loadName_free I.ok.kind hk hc hcell fin hcd) hd
theorem au {i j pos}:PE X (.Constant (.int i) j pos) (tC (.int i)):=fun _ _ _ H _ I h=>wpAny_Constant_int ⟨.int i,H,I.tok _,⟨_,rfl⟩,h⟩
theorem oN {b j pos}:PE X (.Constant (.bool b) j pos) (tC (.bl b)):=fun _ _ _ H _ I h=>Constant_bool ⟨.bl b,H,I,rfl,h⟩
theorem zW {j pos}:PE X (.Constant .none j pos) (tC .non):=fun _ _ _ H _ I h=>Constant_none ⟨.non,H,I,rfl,h⟩
theorem cO {x j pos}:PE X (.Constant (.str x) j pos) (tC (.str x)):=fun _ _ _ H _ I h=>Calls.Constant_str ⟨.str x,H,I.tok _,⟨_,rfl⟩,h⟩
def Gl (X:Cx)(x:Str):Prop:=X.env.kindOf x=some .globalImplicit
theorem xU {E:Value->Shared->Prop}{pins:List (Addr × Obj)}{s:Shared}{σ:St}{H:Hp}{x:Str}{u:Value}{pos:Pos}{Q:Value->Shared->Prop}(I:Inv X pins σ H s)(hg:Gl X x)(hm:X.mg x=some u)(h:Q u s)
  (hd:(x ==("__debug__":Str))=false:=by decide):wpAny (model X.prog X.w) X.A (eval (.Name x pos) X.env) Q E s:=
 Calls.Name_function_global I.ok.kind hg (Calls.loadGlobal_global (by rw [I.ok.glob];exact I.mod.glob.keeps I.bk) hm h) hd
theorem mF {E:Value->Shared->Prop}{pins:List (Addr × Obj)}{s:Shared}{σ:St}{H:Hp}{x:Str}{u:Value}{pos:Pos}{Q:Value->Shared->Prop}(I:Inv X pins σ H s)(hg:Gl X x)(hm:X.mg x=none)(hv:bootBuiltins x=some u)(h:Q u s)
  (hn:x≠"__name__":=by decide)(hd:(x ==("__debug__":Str))=false:=by decide):wpAny (model X.prog X.w) X.A (eval (.Name x pos) X.env) Q E s:=by
 obtain ⟨mb,h1,h2⟩:=I.mod.blt;exact Calls.Name_function_global I.ok.kind hg (Calls.loadGlobal_builtin (by rw [I.ok.glob];exact I.mod.glob.keeps I.bk) hm (by rw [I.ok.blt];exact h1.keeps I.bk) ((h2 x hn).trans hv) h) hd
theorem dY {x:Str}{v:V}{u:Value}{pos:Pos}(hg:Gl X x)(hm:X.mg x=some u)(r:RelV v u)(hd:(x ==("__debug__":Str))=false:=by decide):PE X (.Name x pos) (tC v):=
 fun _ _ _ H _ I h=>xU I hg hm ⟨v,H,I,r,h⟩ hd
theorem Z8 {x:Str}{v:V}{u:Value}{pos:Pos}(hg:Gl X x)(hm:X.mg x=none)(hv:bootBuiltins x=some u)(r:RelV v u)(hn:x≠"__name__":=by decide)(hd:(x ==("__debug__":Str))=false:=by decide):PE X (.Name x pos) (tC v):=
 fun _ _ _ H _ I h=>mF I hg hm hv ⟨v,H,I,r,h⟩ hn hd
def t2I (ta tb:TE)(k:Int->Int->Hp->Prop):St->Hp->Prop:=fun σ H=>ta σ H fun x H1=>tb σ H1 fun y H2=>∃ i j,x=.int i/\y=.int j/\k i j H2
variable {a b:Expr}{ta tb:TE}{pos:Pos}
def aaT (p:Int->Int->Bool)(ta tb:TE):TE:=fun σ H Q=>t2I ta tb (fun i j H2=>Q (.bl (p i j)) H2) σ H
inductive ac4 (x:V)(P:Bool->Prop):Prop
 | mk (c:Bool)(_:x=.bl c)(_:P c)
def tB (t:TE):TT:=fun σ H Q=>t σ H fun x H1=>ac4 x fun c=>Q c H1
theorem j7 {e:Expr}{t:TE}(h:PE X e t)(he:∀ whole,isTrue e X.env whole=(do let v <- whole;standAt e.pos;holding [v] (truthy v)):=by intro _;rfl):PT X e (tB t):=by
 intro pins s σ H Q I hw;refine isTrue_plain (thn (h pins s σ H _ I hw) fun v s1 ⟨x,H1,I1,r1,q1⟩=>?_) (he _);obtain ⟨d,rfl,q⟩:=q1;cases r1;exact wpAny_truthy_bool ⟨H1,I1,q⟩
variable {tA tB':TT}{rest:List Expr}
def tAnd (t u:TT):TT:=fun σ H Q=>t σ H fun c H1=>if c=true then u σ H1 Q else Q false H1
def tOr (t u:TT):TT:=fun σ H Q=>t σ H fun c H1=>if c=true then Q true H1 else u σ H1 Q
def tNot (t:TT):TT:=fun σ H Q=>t σ H fun c H1=>Q (!c) H1
theorem pw_and1 (ha:PT X a tA):PW X (.BoolOp .And [a] pos) tA:=by
 intro wh pins s σ H Q I h;refine isTrue_and (thn (ha pins s σ H Q I h) fun c s1 e=>?_);cases c with
 | true=>exact isTrue_and_nil e
 | false=>exact e
theorem pw_or1 (ha:PT X a tA):PW X (.BoolOp .Or [a] pos) tA:=by
 intro wh pins s σ H Q I h;refine isTrue_or (thn (ha pins s σ H Q I h) fun c s1 e=>?_);cases c with
 | false=>exact isTrue_or_nil e
 | true=>exact e
theorem pw_and (ha:PT X a tA)(hb:PW X (.BoolOp .And (b::rest) pos) tB'):PW X (.BoolOp .And (a::b::rest) pos) (tAnd tA tB'):=by
 intro wh pins s σ H Q I h;refine isTrue_and (thn (ha pins s σ H _ I h) fun c s1 ⟨H1,I1,q1⟩=>?_);cases c with
 | true=>exact hb wh pins s1 σ H1 Q I1 q1
 | false=>exact ⟨H1,I1,q1⟩
theorem pw_or (ha:PT X a tA)(hb:PW X (.BoolOp .Or (b::rest) pos) tB'):PW X (.BoolOp .Or (a::b::rest) pos) (tOr tA tB'):=by
 intro wh pins s σ H Q I h;refine isTrue_or (thn (ha pins s σ H _ I h) fun c s1 ⟨H1,I1,q1⟩=>?_);cases c with
 | true=>exact ⟨H1,I1,q1⟩
 | false=>exact hb wh pins s1 σ H1 Q I1 q1
theorem nQ (ha:PT X a tA):PT X (.UnaryOp .Not a pos) (tNot tA):=by
 intro pins s σ H Q I h;exact isTrue_not (ha pins s σ H (fun c H1=>Q (!c) H1) I h)
def adq (ta tb:TE):TE:=fun σ H Q=>ta σ H fun x H1=>ac4 x fun c=>if c=true then tb σ H1 Q else Q (.bl false) H1
def tOrV (ta tb:TE):TE:=fun σ H Q=>ta σ H fun x H1=>ac4 x fun c=>if c=true then Q (.bl true) H1 else tb σ H1 Q
theorem Nx {op} {t:TE} (h:PE X a t):PE X (.BoolOp op [a] pos) t:=fun pins s σ H Q I hw=>BoolOp_one (h pins s σ H Q I hw)
theorem Ub (ha:PE X a ta)(hb:PE X (.BoolOp .And (b::rest) pos) tb):PE X (.BoolOp .And (a::b::rest) pos) (adq ta tb):=by
 intro pins s σ H Q I h;refine BoolOp_and (thn (ha pins s σ H _ I h) fun v s1 ⟨x,H1,I1,r1,q1⟩=>?_);obtain ⟨c,rfl,q1⟩:=q1;cases r1;refine wpAny_truthy_bool ?_;cases c with
 | true=>exact hb pins s1 σ H1 Q I1 q1
 | false=>exact ⟨.bl false,H1,I1,rfl,q1⟩
theorem adF (ha:PE X a ta)(hb:PE X (.BoolOp .Or (b::rest) pos) tb):PE X (.BoolOp .Or (a::b::rest) pos) (tOrV ta tb):=by
 intro pins s σ H Q I h;refine BoolOp_or (thn (ha pins s σ H _ I h) fun v s1 ⟨x,H1,I1,r1,q1⟩=>?_);obtain ⟨c,rfl,q1⟩:=q1;cases r1;refine wpAny_truthy_bool ?_;cases c with
 | false=>exact hb pins s1 σ H1 Q I1 q1
 | true=>exact ⟨.bl true,H1,I1,rfl,q1⟩
def tIf (t:TT)(ta tb:TE):TE:=fun σ H Q=>t σ H fun c H1=>if c=true then ta σ H1 Q else tb σ H1 Q
theorem JW {c:Expr}(hc:PT X c tA)(ha:PE X a ta)(hb:PE X b tb):PE X (.IfExp c a b pos) (tIf tA ta tb):=by
 intro pins s σ H Q I h;refine wpAny_IfExp (thn (hc pins s σ H _ I h) fun d s1 ⟨H1,I1,q1⟩=>?_);cases d with
 | true=>exact ha pins s1 σ H1 Q I1 q1
 | false=>exact hb pins s1 σ H1 Q I1 q1
end
def SqL (K:PySem.W.Frag)(H:Hp)(a:Addr)(xs:List V):Prop:=
 Rd H a (.lst xs) \/
  ∃ (o:Obj)(its:Array Value)(n:Nat),K.lookup a=some o/\o.cls=.type "list"/\o.dict=none/\o.data=.seq its n/\its.size<=sizeLine/\Vals xs its.toList
def SqT (K:PySem.W.Frag)(H:Hp)(a:Addr)(xs:List V):Prop:=
 Rd H a (.tup xs) \/
  ∃ (o:Obj)(its:Array Value)(n:Nat),K.lookup a=some o/\o.cls=.type "tuple"/\o.data=.seq its n/\its.size<=sizeLine/\Vals xs its.toList
def absV:Value->Option V
 | .none=>some .non
 | .bool b=>some (.bl b)
 | .int i _=>some (.int i)
 | .str x _=>some (.str x)
 | .bytes b _=>some (.byt b)
 | .float b _=>some (.flt b)
 | .ref a=>some (.ref a)
 | .type n=>some (.ty n)
 | _=>none
theorem RelV.abs {x:V}{u:Value}(r:RelV x u):absV u=some x:=by
 cases x with
 | non=>cases r;rfl
 | bl _=>cases r;rfl
 | int _=>obtain ⟨t,rfl⟩:=r;rfl
 | str _=>obtain ⟨t,rfl⟩:=r;rfl
 | byt _=>obtain ⟨t,rfl⟩:=r;rfl
 | flt _=>obtain ⟨t,rfl⟩:=r;rfl
 | ref _=>cases r;rfl
 | ty _=>cases r;rfl
theorem RelV.inj {x y:V}{u:Value}(r:RelV x u)(q:RelV y u):x=y:=aeY (r.abs.symm.trans q.abs)
theorem Vals.inj:∀ {xs ys:List V}{us:List Value},Vals xs us->Vals ys us->xs=ys
 | _,_,_,.nil,.nil=>rfl
 | _,_,_,.cons r t,.cons r' t'=>by rw [r.inj r',Vals.inj t t']
section
variable {X:Cx}{pins:List (Addr × Obj)}{σ:St}{H:Hp}{s:Shared}{a:Addr}{xs ys:List V}
theorem SqL.of {K:PySem.W.Frag}(h:H a=some (.lst xs)):SqL K H a xs:=.inl (.inl h)
theorem SqT.of {K:PySem.W.Frag}(h:H a=some (.tup xs)):SqT K H a xs:=.inl (.inl h)
theorem Inv.list (I:Inv X pins σ H s)(h:SqL X.K H a xs):∃ its:List Value,Vals xs its/\PlainL s.heap a its.toArray/\xs.length<=sizeLine:=by
 rcases h with h| ⟨o,its,n,hk,hc,hd,hs,hz,r⟩
 ·obtain ⟨z,its,n,r,e⟩:=h.ok I.hok;exact ⟨its,r,⟨_,n,e,rfl,rfl,rfl⟩,z⟩
 ·refine ⟨its.toList,r,⟨o,n,I.kIn a o hk,hc,hd,by simpa using hs⟩,?_⟩;have e:=r.length;simp only [afF] at e;omega
theorem Inv.tuple (I:Inv X pins σ H s)(h:SqT X.K H a xs):∃ its:List Value,Vals xs its/\IsTup s.heap a its.toArray/\xs.length<=sizeLine:=by
 rcases h with h| ⟨o,its,n,hk,hc,hs,hz,r⟩
 ·obtain ⟨z,its,r,p⟩:=h.ok I.hok;exact ⟨its,r,p,z⟩
 ·refine ⟨its.toList,r,⟨o,I.kIn a o hk,hc,n,by simpa using hs⟩,?_⟩;have e:=r.length;simp only [afF] at e;omega
theorem Inv.RJ (I:Inv X pins σ H s)(h:SqL X.K H a xs)(h':SqL X.K H a ys):xs=ys:=by
 obtain ⟨its,r,⟨o,n,e,_,_,d⟩,_⟩:=I.list h;obtain ⟨its',r',⟨o',n',e',_,_,d'⟩,_⟩:=I.list h';rw [e] at e';cases e';rw [d] at d';injection d' with d1 _;have:its=its':=by simpa using congrArg Array.toList d1
 subst this;exact r.inj r'
end
abbrev Cx.wish (X:Cx)(E:Value->Shared->Prop):Cx:={ X with xe:=E }
abbrev Cx.nox (X:Cx):Cx:=X.wish fun _ _=>False
theorem Cx.Ok.wish {X:Cx}(ok:X.Ok)(E:Value->Shared->Prop):(X.wish E).Ok:=
 ⟨ok.mod,ok.kind,ok.glob,ok.blt,ok.above,ok.inj,ok.has,ok.cab,ok.hd,ok.frames,ok.stk,ok.exf,ok.bs,ok.bsz,ok.noex,ok.exfs,ok.Ka,ok.frf⟩
theorem Cx.Ok.uo {X:Cx}{E:Value->Shared->Prop}(ok:(X.wish E).Ok):X.Ok:=
 ⟨ok.mod,ok.kind,ok.glob,ok.blt,ok.above,ok.inj,ok.has,ok.cab,ok.hd,ok.frames,ok.stk,ok.exf,ok.bs,ok.bsz,ok.noex,ok.exfs,ok.Ka,ok.frf⟩
section
variable {X:Cx}{pins:List (Addr × Obj)}{σ:St}{H:Hp}{s:Shared}{E:Value->Shared->Prop}
theorem Inv.wish (I:Inv X pins σ H s)(E:Value->Shared->Prop):Inv (X.wish E) pins σ H s:=⟨I.ok.wish E,I.os,I.bare,I.base,I.loc,I.cell,I.free,I.freeC,I.pin,I.hok,I.len⟩
theorem Inv.uo (I:Inv (X.wish E) pins σ H s):Inv X pins σ H s:=⟨I.ok.uo,I.os,I.bare,I.base,I.loc,I.cell,I.free,I.freeC,I.pin,I.hok,I.len⟩
theorem SP.uo {D:Ends}{f:Flow}{s':Shared}(h:SP (X.wish E) pins D f s'):SP X pins D f s':=by
 cases f with
 | next=>obtain ⟨σ',H',I,q⟩:=h;exact ⟨σ',H',I.uo,q⟩
 | brk=>obtain ⟨σ',H',I,q⟩:=h;exact ⟨σ',H',I.uo,q⟩
 | cont=>obtain ⟨σ',H',I,q⟩:=h;exact ⟨σ',H',I.uo,q⟩
 | ret u=>obtain ⟨v,σ',H',I,r,q⟩:=h;exact ⟨v,σ',H',I.uo,r,q⟩
theorem PSs.nox {st:List Stmt}{t:TS}(h:PSs X.nox st t):PSs X st t:=fun pins s σ H D I hw =>
 wpAny_mono (h pins s σ H D (I.wish _) hw) (fun _ _ q=>q.uo) fun _ _ z=>False.elim z
end
section
variable {X:Cx}{st:Stmt}{rest:List Stmt}{t u:TS}{e:Expr}{te:TE}{pos:Pos}
def aa4:TS:=fun D σ H=>D.nx σ H
def dD (t u:TS):TS:=fun D σ H=>t { D with nx:=u D } σ H
theorem aX:PSs X [] aa4:=fun _ _ σ H _ I h=>wpAny_execs_nil ⟨σ,H,I,h⟩
theorem aG (h1:PS X st t)(h2:PSs X rest u):PSs X (st::rest) (dD t u):=by
 intro pins s σ H D I h;refine wpAny_execs_cons (thn (h1 pins s σ H { D with nx:=u D } I h) fun f s1 q=>?_);cases f with
 | next =>
  obtain ⟨σ',H',I',q⟩:=q;exact h2 pins s1 σ' H' D I' q
 | ret v=>exact q
 | brk=>exact q
 | cont=>exact q
theorem aK (h1:PS X st t):PSs X [st] t:=by
 intro pins s σ H D I h;refine wpAny_execs_cons (thn (h1 pins s σ H D I h) fun f s1 q=>?_);cases f with
 | next=>exact wpAny_execs_nil q
 | ret v=>exact q
 | brk=>exact q
 | cont=>exact q
theorem Inv.quiet {pins:List (Addr × Obj)}{σ:St}{H:Hp}{s:Shared}(I:Inv X pins σ H s):interactive X.env=false:=by simp [interactive,I.ok.kind]
def adl (te:TE):TS:=fun D σ H=>te σ H fun _ H1=>D.nx σ H1
theorem aR (he:PE X e te)(hs:swapsWith e none pos.line X.env=pure false:=by rfl):PS X (.Expr e pos) (adl te):=by
 intro pins s σ H D I h;exact wpAny_Expr_any (thn (he pins s σ H _ I h) fun v s1 ⟨x,H1,I1,r1,q1⟩=>⟨σ,H1,I1,q1⟩) I.quiet hs
def adg (te:TE):TS:=fun D σ H=>te σ H D.rt
theorem aL (he:PE X e te):PS X (.Return (some e) pos) (adg te):=by
 intro pins s σ H D I h;exact wpAny_Return_some (thn (he pins s σ H _ I h) fun v s1 ⟨x,H1,I1,r1,q1⟩=>⟨x,σ,H1,I1,r1,q1⟩)
def Cd (c:TT)(t u:TS):TS:=fun D σ H=>c σ H fun b H1=>if b=true then t D σ H1 else u D σ H1
theorem eO {c:Expr}{a b:List Stmt}{tc:TT}(hc:PT X c tc)(ha:PSs X a t)(hb:PSs X b u):PS X (.If c a b pos) (Cd tc t u):=by
 intro pins s σ H D I h;refine wpAny_If (thn (hc pins s σ H _ I h) fun d s1 ⟨H1,I1,q1⟩=>?_);cases d with
 | true=>exact ha pins s1 σ H1 D I1 q1
 | false=>exact hb pins s1 σ H1 D I1 q1
def aa5:TS:=fun _ _ _=>False
theorem Q6:PS X st aa5:=fun _ _ _ _ _ _ h=>h.elim
end
abbrev TG:=V->St->Hp->(St->Hp->Prop)->Prop
abbrev TGs:=List V->St->Hp->(St->Hp->Prop)->Prop
def PG (X:Cx)(target:Expr)(t:TG):Prop:=
 ∀ (pins:List (Addr × Obj))(s:Shared)(σ:St)(H:Hp)(v:V)(u:Value)(Q:St->Hp->Prop),Inv X pins σ H s->RelV v u->t v σ H Q ->
  wpAny (model X.prog X.w) X.A (assign target X.env u) (fun _ s'=>∃ σ' H',Inv X pins σ' H' s'/\Q σ' H') X.xe s
def PGs (X:Cx)(ts:List Expr)(t:TGs):Prop:=
 ∀ (pins:List (Addr × Obj))(s:Shared)(σ:St)(H:Hp)(vs:List V)(us:List Value)(Q:St->Hp->Prop),Inv X pins σ H s->Vals vs us->t vs σ H Q ->
  wpAny (model X.prog X.w) X.A (assignInOrder ((assignEach ts X.env).map (·.2)) us) (fun _ s'=>∃ σ' H',Inv X pins σ' H' s'/\Q σ' H') X.xe s
abbrev acP:=V->V->V->Hp->(Hp->Prop)->Prop
def aea (X:Cx)(t:acP):Prop:=
 ∀ (pins:List (Addr × Obj))(s:Shared)(σ:St)(H:Hp)(o i v:V)(ov iv u:Value)(Q:Hp->Prop),Inv X pins σ H s->RelV o ov->RelV i iv->RelV v u->t o i v H Q ->
  wpAny (model X.prog X.w) X.A (setItem ov iv u) (fun _ s'=>∃ H',Inv X pins σ H' s'/\Q H') X.xe s
abbrev TIp:=V->V->Hp->VK->Prop
def PIp (X:Cx)(op:Operator)(t:TIp):Prop:=
 ∀ (pins:List (Addr × Obj))(s:Shared)(σ:St)(H:Hp)(x y:V)(v u:Value)(Q:VK),Inv X pins σ H s->RelV x v->RelV y u->t x y H Q ->
  wpAny (model X.prog X.w) X.A (inplaceOp op v u) (EP X pins σ Q) X.xe s
section
variable {X:Cx}{pos:Pos}
def R6 (i:Nat):TG:=fun v σ H Q=>Q (σ.set i (some v)) H
theorem bG {i:Nat}{x:Str}(hN:X.N.Nodup)(hi:X.N[i]?=some x)(hx:Loc X.env.scope x)(hf:X.fn x=true\/X.env.scope.names.lookup x=some .local:=by first| exact .inl rfl| exact .inr rfl| assumption):PG X (.Name x pos) (R6 i):=by
 intro pins s σ H v u Q I r h;exact wpAny_assign_Name (Dk I hN hi hx r (fun s' I'=>⟨_,H,I',h⟩) hf)
def gNil:TGs:=fun vs σ H Q=>vs=[]/\Q σ H
def ad1 (t:TG)(u:TGs):TGs:=fun vs σ H Q=>∃ v r,vs=v::r/\t v σ H fun σ' H'=>u r σ' H' Q
theorem bN:PGs X [] gNil:=by
 intro pins s σ H vs us Q I r h;obtain ⟨e,h⟩:=h;subst e;cases r;exact assignInOrder_nil ⟨σ,H,I,h⟩
theorem aA {e:Expr}{es:List Expr}{t:TG}{u:TGs}(h1:PG X e t)(h2:PGs X es u)
  (hs:(assignEach (e::es) X.env).map (·.2)=assign e X.env::(assignEach es X.env).map (·.2):=by rfl):PGs X (e::es) (ad1 t u):=by
 intro pins s σ H vs us Q I r h;obtain ⟨v,vr,e1,h⟩:=h;subst e1;cases r with
 | cons r rr =>
  rw [hs];refine assignInOrder_cons (thn (h1 pins s σ H _ _ _ I r h) fun _ s1 ⟨σ1,H1,I1,q1⟩=>?_);exact h2 pins s1 σ1 H1 _ _ Q I1 rr q1
inductive aey (K:PySem.W.Frag)(n:Nat)(t:TGs)(v:V)(σ:St)(H:Hp)(Q:St->Hp->Prop):Prop
 | mk (a:Addr)(xs:List V)(_:v=.ref a)(_:SqT K H a xs)(_:xs.length=n)(_:t xs σ H Q)
theorem iB {es:List Expr}{k:Nat}{t:TGs}{n:Nat}(hc:X.calm=true)(h:PGs X es t)
  (hn:(assignEach es X.env).length=n:=by rfl)(hst:(assignEach es X.env).findIdx? (·.1)=none:=by rfl):PG X (.Tuple es k pos) (aey X.K n t):=by
 intro pins s σ H v u Q I r hw;obtain ⟨a,xs,e1,hq,hl,hw⟩:=hw;subst e1;cases r;obtain ⟨its,rv,ht,hz⟩:=I.tuple hq;refine assign_Tuple_tuple (I.ok.hd hc) ht (by simp [hn,<- hl,rv.length]) hst fun h' hx=>?_;have I1:Inv X pins σ H { s with heap:=h' }:=I.kept (t':=s.toks) fun b o e=>hx b o (afr (aeV e)) e;exact h pins _ σ H xs _ Q I1 (by simpa using rv) hw
def gSub (to ti:TE)(t:acP):TG:=fun v σ H Q=>to σ H fun o H1=>ti σ H1 fun i H2=>t o i v H2 fun H3=>Q σ H3
theorem uw {o i:Expr}{to ti:TE}{t:acP}(ho:PE X o to)(hi:PE X i ti)(hs:aea X t)
  (ha:∀ v,assign (.Subscript o i pos) X.env v=(do
   let ov <- holding [v] (eval o X.env)
   let iv <- holding [v,ov] (eval i X.env)
   standAt pos
   holding [v,ov,iv] (setItem ov iv v)
   release [v,ov,iv] []):=by intro _;rfl):PG X (.Subscript o i pos) (gSub to ti t):=by
 intro pins s σ H v u Q I r h
 rw [ha]
 refine wpAny_bind (wpAny_holding (thn (ho pins s σ H _ I h) fun ov s1 ⟨x,H1,I1,r1,q1⟩=>?_))
 refine wpAny_bind (wpAny_holding (thn (hi pins s1 σ H1 _ I1 q1) fun iv s2 ⟨y,H2,I2,r2,q2⟩=>?_))
 refine wpAny_bind (wpAny_standAt (wpAny_bind (wpAny_holding (thn (hs pins s2 σ H2 x y v ov iv u _ I2 r1 r2 r q2) fun _ s3 ⟨H3,I3,q3⟩=>?_))))
 exact wpAny_release ⟨σ,H3,I3,q3⟩
def adp (te:TE)(g:TG):TS:=fun D σ H=>te σ H fun x H1=>g x σ H1 D.nx
theorem gC {tg e:Expr}{te:TE}{g:TG}(he:PE X e te)(hg:PG X tg g)(hs:swapsWithSole [tg] e pos.line X.env=pure false:=by rfl)(hw:swappedStores [tg] e X.env=pure none:=by rfl)
  (h1:(assignEach [tg] X.env).map (·.2)=[assign tg X.env]:=by rfl):PS X (.Assign [tg] e pos) (adp te g):=by
 intro pins s σ H D I h;refine wpAny_Assign_stores (thn (he pins s σ H _ I h) fun v s1 ⟨x,H1,I1,r1,q1⟩=>?_) hs hw;rw [h1];exact thn (hg pins s1 σ H1 x v _ I1 r1 q1) fun _ s2 q=>q
theorem JV {i:Nat}{x:Str}{e:Expr}{te:TE}{pos':Pos}(hN:X.N.Nodup)(hi:X.N[i]?=some x)(hx:Loc X.env.scope x)(he:PE X e te)(hs:swapsWith e (some (.Name x pos')) pos.line X.env=pure false:=by rfl)(hf:X.fn x=true\/X.env.scope.names.lookup x=some .local:=by first| exact .inl rfl| exact .inr rfl| assumption):
  PS X (.Assign [.Name x pos'] e pos) (adp te (R6 i)):=by
 intro pins s σ H D I h;refine wpAny_Assign_Name (thn (he pins s σ H _ I h) fun v s1 ⟨y,H1,I1,r1,q1⟩=>?_) hs;exact Dk I1 hN hi hx r1 (fun s2 I2=>⟨_,H1,I2,q1⟩) hf
def ado (to ti te:TE)(tget:V->V->Hp->VK->Prop)(tip:TIp)(tset:acP):TS:=fun D σ H=>to σ H fun o H1=>ti σ H1 fun i H2=>tget o i H2 fun x H3=>te σ H3 fun y H4=>tip x y H4 fun z H5=>tset o i z H5 fun H6=>D.nx σ H6
def aeF (X:Cx)(t:V->V->Hp->VK->Prop):Prop:=
 ∀ (pins:List (Addr × Obj))(s:Shared)(σ:St)(H:Hp)(o i:V)(ov iv:Value)(Q:VK),Inv X pins σ H s->RelV o ov->RelV i iv->t o i H Q ->
  wpAny (model X.prog X.w) X.A (getItem ov iv) (EP X pins σ Q) X.xe s
theorem uT {o i e:Expr}{to ti te:TE}{tget:V->V->Hp->VK->Prop}{tip:TIp}{tset:acP}{op:Operator}{tpos:Pos}(ho:PE X o to)(hi:PE X i ti)(hg:aeF X tget)(he:PE X e te)(hp:PIp X op tip)(hs:aea X tset)
  (ha:∀ ov iv new,augStore i ov iv new=(do holding [new,ov,iv] (setItem ov iv new);release [new,ov,iv] [];pure .next):=by intros;rfl):PS X (.AugAssign (.Subscript o i tpos) op e pos) (ado to ti te tget tip tset):=by
 intro pins s σ H D I h;refine wpAny_AugAssign_SubscriptAny (thn (ho pins s σ H _ I h) fun ov s1 ⟨x1,H1,I1,r1,q1⟩=>?_) ha;refine thn (hi pins s1 σ H1 _ I1 q1) fun iv s2 ⟨x2,H2,I2,r2,q2⟩=>?_;refine thn (hg pins s2 σ H2 x1 x2 ov iv _ I2 r1 r2 q2) fun old s3 ⟨x3,H3,I3,r3,q3⟩=>?_;refine thn (he pins s3 σ H3 _ I3 q3) fun v s4 ⟨x4,H4,I4,r4,q4⟩=>?_;refine thn (hp pins s4 σ H4 x3 x4 old v _ I4 r3 r4 q4) fun new s5 ⟨x5,H5,I5,r5,q5⟩=>?_;exact thn (hs pins s5 σ H5 x1 x2 x5 ov iv new _ I5 r1 r2 r5 q5) fun _ s6 ⟨H6,I6,q6⟩=>⟨σ,H6,I6,q6⟩
def ipI (f:Int->Int->Int):TIp:=fun x y H Q=>∃ i j,x=.int i/\y=.int j/\Q (.int (f i j)) H
theorem J7:PIp X .Add (ipI fun i j=>i+j):=by
 intro pins s σ H x y v u Q I r1 r2 h;obtain ⟨i,j,e1,e2,q⟩:=h;subst e1;subst e2;obtain ⟨t,rfl⟩:=r1;obtain ⟨t',rfl⟩:=r2;exact iadd_int ⟨.int _,H,I.tok _,⟨_,rfl⟩,q⟩
theorem Ox:PIp X .Sub (ipI fun i j=>i - j):=by
 intro pins s σ H x y v u Q I r1 r2 h;obtain ⟨i,j,e1,e2,q⟩:=h;subst e1;subst e2;obtain ⟨t,rfl⟩:=r1;obtain ⟨t',rfl⟩:=r2;exact isub_int ⟨.int _,H,I.tok _,⟨_,rfl⟩,q⟩
end
section
variable {X:Cx}{pos:Pos}
def Ma (c:TT)(tb:TS):TS:=fun D σ H=>∃ W:Nat->St->Hp->Prop,(∃ m,W m σ H)/\∀ m σ H,W m σ H ->
 c σ H fun b H1=>if b=true then ∃ N:St->Hp->Prop,(∀ σ' H',N σ' H'->∃ m',m'<m/\W m' σ' H')/\tb { D with nx:=N,ct:=N,bk:=D.nx } σ H1 else D.nx σ H1
theorem DN {c:Expr}{body:List Stmt}{tc:TT}{tb:TS}(hp:PassesOwn (model X.prog X.w) X.A X.env X.xe)(hc:PT X c tc)(hb:PSs X body tb):PS X (.While c body [] pos) (Ma tc tb):=by
 intro pins s σ H D I h;obtain ⟨W,⟨m0,w0⟩,turn⟩:=h;refine wpAny_While (codeAny_whileLoop (fun n s'=>∃ σ' H',Inv X pins σ' H' s'/\W n σ' H') ?_ m0 ⟨σ,H,I,w0⟩);rintro n s1 ⟨σ1,H1,I1,w1⟩;refine wpAny_passesOwn hp (thn (hc pins s1 σ1 H1 _ I1 (turn n σ1 H1 w1)) fun b s2 ⟨H2,I2,q2⟩=>?_);cases b with
 | true =>
  obtain ⟨N,hN,q2⟩:=q2;rw [if_pos rfl];refine wpAny_passesOwn hp (thn (hb pins s2 σ1 H2 _ I2 q2) fun f s3 q3=>?_);cases f with
  | next =>
   obtain ⟨σ3,H3,I3,n3⟩:=q3;obtain ⟨m',hm,w3⟩:=hN σ3 H3 n3;exact ⟨m',hm,σ3,H3,I3,w3⟩
  | cont =>
   obtain ⟨σ3,H3,I3,n3⟩:=q3;obtain ⟨m',hm,w3⟩:=hN σ3 H3 n3;exact ⟨m',hm,σ3,H3,I3,w3⟩
  | brk=>exact q3
  | ret v=>exact q3
 | false =>
  rw [if_neg aeR];exact wpAny_execs_nil ⟨σ1,H2,I2,q2⟩
end
structure It where
 go:Nat->Hp->Prop
 yld:Nat->Hp->V->Hp->Prop
 stop:Nat->Hp->Prop
def Hv (X:Cx)(pins:List (Addr × Obj))(H:Hp)(b:Addr):Prop:=
 H b=none/\b≠X.env.locals/\b ∉ X.fs/\(b∈X.ex\/X.s₀.heap.objs.size<=b)/\(∀ x c,X.env.cells.lookup x=some c->c≠b)/\∀ p∈X.pn++pins,p.1≠b
theorem Inv.IK {X:Cx}{pins:List (Addr × Obj)}{σ:St}{H H':Hp}{s:Shared}{b:Addr}(I:Inv X pins σ H s)(hb:s.heap.objs.size<=b)(hn:H' b=none):Hv X pins H' b:=by
 refine ⟨hn,Nat.ne_of_gt (afj I.lt hb),I.nofs hb,.inr (afB I.sz hb),fun x c e z=>?_,fun p hp z=>?_⟩
 ·obtain ⟨v,q⟩:=I.cell x c e;exact absurd (afj q.lt (by rw [z];exact hb)) (afH _)
 ·exact absurd (afj (aeV (I.pin p hp).1) (by rw [z];exact hb)) (afH _)
structure Turn (P:Program)(w:World)(K:PySem.W.Frag)(tg:Expr)(J:It)(fp:List Addr)(it:Addr)(tn:Nat->Heap->Prop):Prop where
 mem:it∈fp
 obj:∀ i h,tn i h->∀ b∈fp,∃ o,h.get? b=some o/\∀ v,o.data≠.cell v
 keep:∀ i h h',tn i h->(∀ b∈fp,∀ o,h.get? b=some o->h'.get? b=some o)->tn i h'
 item:∀ (X:Cx),X.prog=P->X.w=w->X.K=K->X.calm=true->∀ (i:Nat)(pins:List (Addr × Obj))(s:Shared)(σ:St)(H:Hp)(E:Value->Shared->Prop),Inv X pins σ H s->(∀ b∈fp,Hv X pins H b)->tn i s.heap->J.go i H ->
  wpAny (model P w) X.A (pyNext (.ref it)) (fun r s1=>∃ u,r=some u /\
   wpAny (model P w) X.A (letOwnedTupleGo tg (.ref it) u) (fun _ s2=>∃ x H',Inv X pins σ H' s2/\RelV x u/\J.yld i H x H'/\tn (i+1) s2.heap/\∀ b∈fp,H' b=none) E s1) E s
 done:∀ (X:Cx),X.prog=P->X.w=w->X.K=K->X.calm=true->∀ (i:Nat)(pins:List (Addr × Obj))(s:Shared)(σ:St)(H:Hp)(E:Value->Shared->Prop),Inv X pins σ H s->(∀ b∈fp,Hv X pins H b)->tn i s.heap->J.stop i H ->
  wpAny (model P w) X.A (pyNext (.ref it)) (fun r s1=>r=none/\Inv X pins σ H s1) E s
 self:∀ (A:Around)(i:Nat)(s:Shared)(Q:Value->Shared->Prop)(E:Value->Shared->Prop),tn i s.heap->Q (.ref it) s->wpAny (model P w) A (pyIter (.ref it)) Q E s
abbrev TI:=St->Hp->(It->Hp->Prop)->Prop
def PIE (X:Cx)(pins:List (Addr × Obj))(σ:St)(tg:Expr)(R:It->Hp->Prop)(itv:Value)(s2:Shared):Prop:=
 ∃ (it:Addr)(fp:List Addr)(tn:Nat->Heap->Prop)(J:It)(H':Hp),itv=.ref it/\Inv X pins σ H' s2/\Turn X.prog X.w X.K tg J fp it tn/\tn 0 s2.heap/\(∀ b∈fp,Hv X pins H' b)/\R J H'
def PI (X:Cx)(tg iter:Expr)(wi:TI):Prop:=
 ∀ (pins:List (Addr × Obj))(s:Shared)(σ:St)(H:Hp)(R:It->Hp->Prop),Inv X pins σ H s->wi σ H R ->
  wpAny (model X.prog X.w) X.A (eval iter X.env) (fun v s1=>wpAny (model X.prog X.w) X.A (pyIter v) (PIE X pins σ tg R) X.xe s1) X.xe s
theorem aaC {M:Model}{A:Around}{E:Value->Shared->Prop}{s:Shared}{tg:Expr}{it:Addr}{u:Value}{o:Obj}{n:String}{vs:Array Value}{Q:Unit->Shared->Prop}(ho:s.heap.get? it=some o)(hc:o.cls=.type n)(hd:o.data=.fields vs)
    (hn:["enumerate","zip","dict_itemiterator","dict_reverseitemiterator","odict_iterator","itertools.zip_longest","itertools.pairwise"].contains n=false)(hQ:Q () s):wpAny M A (letOwnedTupleGo tg (.ref it) u) Q E s:=by
  unfold letOwnedTupleGo;cases tg <;>first
    | exact wpAny_pure hQ
    | (cases u <;>first
        | exact wpAny_pure hQ
        | (refine wpAny_bind (wpAny_load ho ?_)
           rw [hc,hd];show wpAny M A (if (["enumerate","zip","dict_itemiterator","dict_reverseitemiterator","odict_iterator","itertools.zip_longest","itertools.pairwise"].contains n&& vs[0]? ==some (rawInt _))=true then _ else _) Q E s;rw [if_neg (by intro h;rw [hn,Bool.false_and] at h;cases h)];exact wpAny_pure hQ))
def Itl (K:PySem.W.Frag)(a:Addr):It:=
 ⟨fun i H=>∃ xs x,SqL K H a xs/\xs[i]?=some x,fun i H x H'=>H'=H/\∀ xs,SqL K H a xs->xs[i]?=some x,fun i H=>∃ xs,SqL K H a xs/\xs.length<=i⟩
def Itr (lo:Int)(n:Nat):It:=⟨fun i _=>i<n,fun i H x H'=>H'=H/\x=.int (lo+i),fun i _=>n<=i⟩
theorem LC {P:Program}{w:World}{K:PySem.W.Frag}{tg:Expr}(a it:Addr):Turn P w K tg (Itl K a) [it] it (fun i h=>h.IsListIter it a i) where
 mem:=by simp
 obj:=fun i h st b hb=>by
  have e:b=it:=by simpa using hb
  subst e;obtain ⟨o,e,c,d⟩:=st;exact ⟨o,e,fun v z=>by rw [d] at z;cases z⟩
 keep:=fun i h h' st k=>st.at fun o e=>k it (by simp) o e;item:=by
  intro X hP hw hK hc i pins s σ H E I hf st hg;subst hP hw hK;obtain ⟨xs,x,hq,hx⟩:=hg;obtain ⟨its,rv,p,hz⟩:=I.list hq;obtain ⟨u,hu,ru⟩:=rv.get hx;obtain ⟨f0,f1,f2,f3,f4,f5⟩:=hf it (by simp);refine wpAny_pyNext_list_item st p.isList (x:=u) (by simpa using hu) fun h' st' sb=>?_;have I1:Inv X pins σ H { s with heap:=h' }:=I.turned (t':=s.toks) (fun b o hb e=>(sb.2 b hb).trans e) f0 f1 f3 f4 f5;obtain ⟨o,e,c,d⟩:=id st';exact ⟨u,rfl,aaC (s:={ s with heap:=h' }) e c d (by decide) ⟨x,H,I1,ru,⟨rfl,fun ys hy=>by rw [I.RJ hy hq];exact hx⟩,st',fun b hb=>(hf b hb).1⟩⟩
 done:=by
  intro X hP hw hK hc i pins s σ H E I hf st hg;subst hP hw hK;obtain ⟨xs,hq,hx⟩:=hg;obtain ⟨its,rv,p,hz⟩:=I.list hq;obtain ⟨f0,f1,f2,f3,f4,f5⟩:=hf it (by simp);have hl:=rv.length;exact wpAny_pyNext_list_end (I.ok.hd hc) st p.isList (by simp;omega) fun h' eb=>⟨rfl,I.turned (t':=s.toks) (fun b o hb e=>eb b o hb e) f0 f1 f3 f4 f5⟩
 self:=fun _ _ _ _ _ st h=>wpAny_pyIter_listiter st h
theorem KJ {P:Program}{w:World}{K:PySem.W.Frag}{tg:Expr}(it:Addr)(lo:Int)(n:Nat):Turn P w K tg (Itr lo n) [it] it (fun i h=>IsRangeIter h it (lo+(i:Nat)*1) ((n:Int) - (i:Nat)) 1) where
 mem:=by simp
 obj:=fun i h st b hb=>by
  have e:b=it:=by simpa using hb
  subst e;exact ⟨_,st,fun v z=>by
   have z':Data.fields _=Data.cell v:=z;cases z'⟩
 keep:=fun i h h' st k=>k it (by simp) _ st;item:=by
  intro X hP hw hK hc i pins s σ H E I hf st hg;subst hP hw hK;obtain ⟨f0,f1,f2,f3,f4,f5⟩:=hf it (by simp);have W:=Walks.range (prog:=X.prog) (w:=X.w) (I.ok.hd hc) it lo 1 n;refine W.item i s _ _ hg st fun v h' tk hv st' kk=>?_;obtain ⟨t,rfl⟩:=hv;have I1:Inv X pins σ H { s with heap:=h',toks:=tk }:=I.turned (fun b o hb e=>kk b o (by simpa using hb) e) f0 f1 f3 f4 f5;refine ⟨_,rfl,aaC (s:={ s with heap:=h',toks:=tk }) (n:="range_iterator") st' rfl rfl (by decide) ⟨.int (lo+i),H,I1,⟨t,?_⟩,⟨rfl,rfl⟩,st',fun b hb=>(hf b hb).1⟩⟩;rw [Int.mul_one]
 done:=by
  intro X hP hw hK hc i pins s σ H E I hf st hg;subst hP hw hK;obtain ⟨f0,f1,f2,f3,f4,f5⟩:=hf it (by simp);exact wpAny_pyNext_range_end (I.ok.hd hc) st (by have:n<=i:=hg;omega) fun h' eb=>⟨rfl,I.turned (t':=s.toks) (fun b o hb e=>eb b o hb e) f0 f1 f3 f4 f5⟩
 self:=fun _ _ _ _ _ st h=>wpAny_pyIter_rangeiter st h
section
variable {X:Cx}{tg:Expr}
inductive kLst (K:PySem.W.Frag)(x:V)(H:Hp)(R:It->Hp->Prop):Prop
 | mk (a:Addr)(_:x=.ref a)(_:∃ xs,SqL K H a xs)(_:R (Itl K a) H)
def adY (K:PySem.W.Frag)(tl:TE):TI:=fun σ H R=>tl σ H fun x H1=>kLst K x H1 R
theorem bU {l:Expr}{tl:TE}(hl:PE X l tl):PI X tg l (adY X.K tl):=by
 intro pins s σ H R I h;refine thn (hl pins s σ H _ I h) fun v s1 ⟨x,H1,I1,r1,q1⟩=>?_;obtain ⟨a,e,⟨xs,hq⟩,q⟩:=q1;subst e;cases r1;obtain ⟨its,rv,p,hz⟩:=I1.list hq;refine wpAny_pyIter_list p.isList ?_;refine ⟨s1.heap.objs.size,[s1.heap.objs.size],_,_,H1,rfl,I1.kept (t':=s1.toks) fun b o e=>aeP _ e,LC a _,⟨_,aeW _ rfl,rfl,rfl⟩,fun b hb=>?_,q⟩;have e:b=s1.heap.objs.size:=by simpa using hb
 subst e;exact I1.IK (aeL _) (I1.hok.fresh (aeL _))
theorem JR {pins:List (Addr × Obj)}{σ:St}{H:Hp}{s:Shared}{R:It->Hp->Prop}{E:Value->Shared->Prop}{lo hi:Int}{t u v:Tok}{tk:Nat}(I:Inv X pins σ H s)(h1:-(2 ^ 62)<=lo)(h2:lo<2 ^ 62)(h3:-(2 ^ 62)<=hi)(h4:hi<2 ^ 62)
  (q:R (Itr lo (hi - lo).toNat) H):wpAny (model X.prog X.w) X.A (pyIter (.ref s.heap.objs.size)) (PIE X pins σ tg R) E { s with heap:=s.heap.push { cls:=.type "range",data:=.fields #[.int lo t,.int hi u,.int 1 v] },toks:=tk }:=by
 refine wpAny_pyIter_range (IsRange.new ..) (small_one h1 h2 h3 h4) ?_;have I1:Inv X pins σ H { s with heap:=s.heap.push { cls:=.type "range",data:=.fields #[.int lo t,.int hi u,.int 1 v] },toks:=tk }:=I.kept fun b o e=>aeP _ e;refine ⟨(s.heap.push { cls:=.type "range",data:=.fields #[.int lo t,.int hi u,.int 1 v] }).objs.size,[(s.heap.push { cls:=.type "range",data:=.fields #[.int lo t,.int hi u,.int 1 v] }).objs.size],_,_,H,rfl,
  I1.kept (t':=tk) fun b o e=>aeP _ e,KJ _ lo (hi - lo).toNat,?_,fun b hb=>?_,q⟩
 ·have e1:lo+((0:Nat):Int)*1=lo:=by simp
  have e2:(((hi - lo).toNat:Nat):Int) - ((0:Nat):Int)=Builtin.Range.rangeSize lo hi 1:=by rw [rangeSize_one];split <;>omega
  show IsRangeIter _ _ (lo+((0:Nat):Int)*1) ((((hi - lo).toNat:Nat):Int) - ((0:Nat):Int)) 1;rw [e1,e2];exact aeW _ rfl
 ·have e:b=(s.heap.push { cls:=.type "range",data:=.fields #[.int lo t,.int hi u,.int 1 v] }).objs.size:=by simpa using hb
  subst e;exact I1.IK (aeL _) (I1.hok.fresh (aeL _))
def adX (ta:TA):TI:=fun σ H R=>ta σ H fun vs H1=>∃ j:Int,vs=[.int j]/\-(2 ^ 62)<=j/\j<2 ^ 62/\R (Itr 0 j.toNat) H1
def adW (ta:TA):TI:=fun σ H R=>ta σ H fun vs H1=>∃ i j:Int,vs=[.int i,.int j]/\(-(2 ^ 62)<=i/\i<2 ^ 62/\-(2 ^ 62)<=j/\j<2 ^ 62)/\R (Itr i (j - i).toNat) H1
theorem nU {a:Expr}{ta:TA}{p pos:Pos}(hg:Gl X "range")(hm:X.mg "range"=none)(ha:PA X [a] ta)(hs:starEach [a] X.env=[(false,eval a X.env)]:=by rfl):PI X tg (.Call (.Name "range" p) [a] [] pos) (adX ta):=by
 intro pins s σ H R I h;refine Call_ (mF I hg hm boot_range (afp (thn (ha pos pins s σ H _ I h) fun us s1 ⟨vs,H1,I1,r1,q1⟩=>?_) hs rfl));obtain ⟨j,e,q1,q2,q⟩:=q1;subst e;cases r1 with
 | cons r rr =>
  cases rr;obtain ⟨t,rfl⟩:=r;exact call_range_1 (JR I1 (by omega) (by omega) q1 q2 (by simpa using q))
theorem Nt {a b:Expr}{ta:TA}{p pos:Pos}(hg:Gl X "range")(hm:X.mg "range"=none)(ha:PA X [a,b] ta)(hs:starEach [a,b] X.env=[(false,eval a X.env),(false,eval b X.env)]:=by rfl)(hs2:starEach [b] X.env=[(false,eval b X.env)]:=by rfl):
  PI X tg (.Call (.Name "range" p) [a,b] [] pos) (adW ta):=by
 intro pins s σ H R I h;refine Call_ (mF I hg hm boot_range (afp (thn (ha pos pins s σ H _ I h) fun us s1 ⟨vs,H1,I1,r1,q1⟩=>?_) (by rw [hs,hs2]) (by rw [hs2];rfl)));obtain ⟨i,j,e,⟨q1,q2,q3,q4⟩,q⟩:=q1;subst e;cases r1 with
 | cons r rr =>
  cases rr with
  | cons r' rr =>
   cases rr;obtain ⟨t,rfl⟩:=r;obtain ⟨t',rfl⟩:=r';exact call_range_2 (JR I1 q1 q2 q3 q4 q)
def za (wi:TI)(g:TG)(tb:TS):TS:=fun D σ H=>wi σ H fun J H1=>∃ W:Nat->Nat->St->Hp->Prop,(∃ m,W 0 m σ H1)/\∀ i m σ H,W i m σ H ->
 (J.stop i H/\D.nx σ H)\/(J.go i H/\∃ N:St->Hp->Prop,(∀ σ' H',N σ' H'->∃ m',m'<m/\W (i+1) m' σ' H')/\∀ x H',J.yld i H x H'->g x σ H' fun σ2 H2=>tb { D with nx:=N,ct:=N,bk:=D.nx } σ2 H2)
def Gq (fp:List Addr)(h:Heap):List (Addr × Obj):=fp.filterMap fun b=>(h.get? b).map fun o=>(b,o)
theorem tZ {fp:List Addr}{h:Heap}{b:Addr}{o:Obj}(hb:b∈fp)(e:h.get? b=some o):(b,o)∈Gq fp h:=List.mem_filterMap.mpr ⟨b,hb,by rw [e];rfl⟩
theorem N7 {fp:List Addr}{h:Heap}{p:Addr × Obj}(hp:p∈Gq fp h):p.1∈fp/\h.get? p.1=some p.2:=by
 obtain ⟨b,hb,e⟩:=List.mem_filterMap.mp hp;cases q:h.get? b with
 | none=>rw [q] at e;cases e
 | some o =>
  rw [q] at e;have e':(b,o)=p:=aeY e;subst e';exact ⟨hb,q⟩
theorem Inv.pinned {pins:List (Addr × Obj)}{σ:St}{H:Hp}{s:Shared}{fp:List Addr}(I:Inv X pins σ H s)(hf:∀ b∈fp,Hv X pins H b)(ho:∀ b∈fp,∃ o,s.heap.get? b=some o/\∀ v,o.data≠.cell v):Inv X (pins++Gq fp s.heap) σ H s:=
 I.Ib fun p hp=>(afa.mp hp).elim (fun z=>I.pin p (aeK _ z)) fun z=>by
  obtain ⟨hb,e⟩:=N7 z;obtain ⟨f0,f1,f2,_⟩:=hf p.1 hb;obtain ⟨o,e',d⟩:=ho p.1 hb;rw [e] at e';cases e';exact ⟨e,f0,f1,f2,d⟩
theorem Inv.j8 {pins pl:List (Addr × Obj)}{σ:St}{H:Hp}{s:Shared}(I:Inv X (pins++pl) σ H s):Inv X pins σ H s:=I.Ib fun p hp=>I.pin p (aeK _ (afw _ hp))
theorem fJ {iter:Expr}{body:List Stmt}{wi:TI}{g:TG}{tb:TS}{pos:Pos}(hp:PassesOwn (model X.prog X.w) X.A X.env X.xe)(hc:X.calm=true)(hi:PI X tg iter wi)(hg:PG X tg g)(hb:PSs X body tb)
  (hs:∀ x,foldedSetIterable iter X.env x=pure x:=by intro _;rfl):PS X (.For tg iter body [] pos) (za wi g tb):=by
 intro pins s σ H D I h;refine wpAny_For (thn (hi pins s σ H _ I h) fun v s1 h1=>thn h1 fun itv s2 h2=>?_) hs;obtain ⟨it,fp,tn,J,H2,e,I2,T,st2,f2,W,⟨m0,w0⟩,turn⟩:=h2;subst e;have stat:∀ {H':Hp},(∀ b∈fp,H' b=none)->∀ b∈fp,Hv X pins H' b:=fun hn b hb=>⟨hn b hb,(f2 b hb).2⟩;refine codeAny_forLoop_any (fun n s'=>∃ i σ' H',Inv X pins σ' H' s'/\tn i s'.heap/\(∀ b∈fp,H' b=none)/\W i n σ' H') ?_ m0 ⟨0,σ,H2,I2,st2,fun b hb=>(f2 b hb).1,w0⟩;rintro n s3 ⟨i,σ3,H3,I3,st3,fr3,w3⟩;rcases turn i n σ3 H3 w3 with ⟨stop,qn⟩ | ⟨go,N,hN,step⟩
 ·refine wpAny_passesOwn hp (thn (T.done X rfl rfl rfl hc i pins s3 σ3 H3 X.xe I3 (stat fr3) st3 stop) fun r s4 ⟨hr,I4⟩=>?_);subst hr;exact wpAny_execs_nil ⟨σ3,H3,I4,qn⟩
 ·refine wpAny_passesOwn hp (thn (T.item X rfl rfl rfl hc i pins s3 σ3 H3 X.xe I3 (stat fr3) st3 go) fun r s4 ⟨u,hr,h4⟩=>?_);subst hr;refine wpAny_passesOwn hp (thn h4 fun _ s5 ⟨x,H5,I5,r5,y5,st5,fr5⟩=>?_);have I5':=I5.pinned (stat fr5) (T.obj _ _ st5);refine wpAny_passesOwn hp (thn (hg _ s5 σ3 H5 x u _ I5' r5 (step x H5 y5)) fun _ s6 ⟨σ6,H6,I6,q6⟩=>?_);refine wpAny_passesOwn hp (thn (hb _ s6 σ6 H6 _ I6 q6) fun f s7 q7=>?_);have again:∀ {σ7:St}{H7:Hp},Inv X (pins++Gq fp s5.heap) σ7 H7 s7->N σ7 H7->∃ m,m<n/\∃ i σ' H',Inv X pins σ' H' s7/\tn i s7.heap/\(∀ b∈fp,H' b=none)/\W i m σ' H':=fun {σ7 H7} I7 n7=>by
   obtain ⟨m',hm,w7⟩:=hN σ7 H7 n7;refine ⟨m',hm,i+1,σ7,H7,I7.j8,T.keep _ _ _ st5 fun b hb o e=>(I7.pin (b,o) (aeK _ (aeK _ (tZ hb e)))).1,fun b hb=>?_,w7⟩;obtain ⟨o,e,d⟩:=T.obj _ _ st5 b hb;exact (I7.pin (b,o) (aeK _ (aeK _ (tZ hb e)))).2.1
  cases f with
  | next=>obtain ⟨σ7,H7,I7,n7⟩:=q7;exact again I7 n7
  | cont=>obtain ⟨σ7,H7,I7,n7⟩:=q7;exact again I7 n7
  | brk=>obtain ⟨σ7,H7,I7,q7⟩:=q7;exact ⟨σ7,H7,I7.j8,q7⟩
  | ret v=>obtain ⟨x7,σ7,H7,I7,r7,q7⟩:=q7;exact ⟨x7,σ7,H7,I7.j8,r7,q7⟩
end
theorem eV {K:PySem.W.Frag}{a:Addr}{xs:List V}{g:TG}{tb:TS}{D:Ends}{σ:St}{H:Hp}(Pv:Nat->St->Hp->Prop)(h0:Pv 0 σ H)(hl:∀ i σ H,i<=xs.length->Pv i σ H->SqL K H a xs)
  (hs:∀ i x σ H,xs[i]?=some x->Pv i σ H->g x σ H fun σ2 H2=>tb { D with nx:=Pv (i+1),ct:=Pv (i+1),bk:=D.nx } σ2 H2)(hd:∀ σ H,Pv xs.length σ H->D.nx σ H):
  ∃ W:Nat->Nat->St->Hp->Prop,(∃ m,W 0 m σ H)/\∀ i m σ H,W i m σ H ->
   ((Itl K a).stop i H/\D.nx σ H)\/((Itl K a).go i H/\∃ N:St->Hp->Prop,(∀ σ' H',N σ' H'->∃ m',m'<m/\W (i+1) m' σ' H')/\∀ x H',(Itl K a).yld i H x H'->g x σ H' fun σ2 H2=>tb { D with nx:=N,ct:=N,bk:=D.nx } σ2 H2):=by
 refine ⟨fun i m σ H=>m=xs.length - i/\i<=xs.length/\Pv i σ H,⟨xs.length,by simp,afs _,h0⟩,?_⟩
 rintro i m σ H ⟨rfl,hi,p⟩
 have q:=hl i σ H hi p
 by_cases hlt:i<xs.length
 ·refine .inr ⟨⟨xs,xs[i],q,by simp [hlt]⟩,Pv (i+1),fun σ' H' p'=>⟨xs.length - (i+1),by omega,rfl,hlt,p'⟩,fun x H' y=>?_⟩
  obtain ⟨e,y⟩:=y
  subst e
  exact hs i x σ _ (y xs q) p
 ·have e:i=xs.length:=by omega
  subst e
  exact .inl ⟨⟨xs,q,aeL _⟩,hd σ H p⟩
theorem wI {lo:Int}{n:Nat}{g:TG}{tb:TS}{D:Ends}{σ:St}{H:Hp}(Pv:Nat->St->Hp->Prop)(h0:Pv 0 σ H)
  (hs:∀ i σ H,i<n->Pv i σ H->g (.int (lo+i)) σ H fun σ2 H2=>tb { D with nx:=Pv (i+1),ct:=Pv (i+1),bk:=D.nx } σ2 H2)(hd:∀ σ H,Pv n σ H->D.nx σ H):
  ∃ W:Nat->Nat->St->Hp->Prop,(∃ m,W 0 m σ H)/\∀ i m σ H,W i m σ H ->
   ((Itr lo n).stop i H/\D.nx σ H)\/((Itr lo n).go i H/\∃ N:St->Hp->Prop,(∀ σ' H',N σ' H'->∃ m',m'<m/\W (i+1) m' σ' H')/\∀ x H',(Itr lo n).yld i H x H'->g x σ H' fun σ2 H2=>tb { D with nx:=N,ct:=N,bk:=D.nx } σ2 H2):=by
 refine ⟨fun i m σ H=>m=n - i/\i<=n/\Pv i σ H,⟨n,by simp,afs _,h0⟩,?_⟩
 rintro i m σ H ⟨rfl,hi,p⟩
 by_cases hlt:i<n
 ·refine .inr ⟨hlt,Pv (i+1),fun σ' H' p'=>⟨n - (i+1),by omega,rfl,hlt,p'⟩,fun x H' y=>?_⟩
  obtain ⟨e,y⟩:=y
  subst e y
  exact hs i σ _ hlt p
 ·have e:i=n:=by omega
  subst e
  exact .inl ⟨aeL _,hd σ H p⟩
abbrev R2:=V->V->Hp->VK->Prop
def OpR (X:Cx)(f:Value->Value->Sem Value)(r:R2):Prop:=
 ∀ (pins:List (Addr × Obj))(s:Shared)(σ:St)(H:Hp)(x y:V)(v u:Value)(Q:VK),Inv X pins σ H s->RelV x v->RelV y u->r x y H Q ->
  wpAny (model X.prog X.w) X.A (f v u) (EP X pins σ Q) X.xe s
def UnR (X:Cx)(f:Value->Sem Value)(r:V->Hp->VK->Prop):Prop:=
 ∀ (pins:List (Addr × Obj))(s:Shared)(σ:St)(H:Hp)(x:V)(v:Value)(Q:VK),Inv X pins σ H s->RelV x v->r x H Q ->
  wpAny (model X.prog X.w) X.A (f v) (EP X pins σ Q) X.xe s
def vR (X:Cx)(f:Value)(r:List V->Hp->VK->Prop):Prop:=
 ∀ (pins:List (Addr × Obj))(s:Shared)(σ:St)(H:Hp)(xs:List V)(us:List Value)(Q:VK),Inv X pins σ H s->Vals xs us->r xs H Q ->
  wpAny (model X.prog X.w) X.A (call f us) (EP X pins σ Q) X.xe s
def TruR (X:Cx)(r:V->Hp->(Bool->Hp->Prop)->Prop):Prop:=
 ∀ (pins:List (Addr × Obj))(s:Shared)(σ:St)(H:Hp)(x:V)(v:Value)(Q:Bool->Hp->Prop),Inv X pins σ H s->RelV x v->r x H Q ->
  wpAny (model X.prog X.w) X.A (truthy v) (TP X pins σ Q) X.xe s
def tOp (r:R2)(ta tb:TE):TE:=fun σ H Q=>ta σ H fun x H1=>tb σ H1 fun y H2=>r x y H2 Q
def tUn (r:V->Hp->VK->Prop)(ta:TE):TE:=fun σ H Q=>ta σ H fun x H1=>r x H1 Q
inductive rI (C:Int->Int->Prop)(g:Int->Int->V)(x y:V)(H:Hp)(Q:VK):Prop
 | mk (i j:Int)(_:x=.int i)(_:y=.int j)(_:C i j)(_:Q (g i j) H)
inductive rI0 (g:Int->Int->V)(x y:V)(H:Hp)(Q:VK):Prop
 | mk (i j:Int)(_:x=.int i)(_:y=.int j)(_:Q (g i j) H)
def rU (g:Int->V):V->Hp->VK->Prop:=fun x H Q=>∃ i,x=.int i/\Q (g i) H
section
variable {X:Cx}{a b c:Expr}{ta tb tc:TE}{pos:Pos}
theorem ad7 (ha:PE X a ta)(hb:PE X b tb){pins:List (Addr × Obj)}{s:Shared}{σ:St}{H:Hp}{R:V->V->Hp->Prop}(I:Inv X pins σ H s)
  (h:ta σ H fun x H1=>tb σ H1 fun y H2=>R x y H2){Q:Value->Shared->Prop}{f:Value->Value->Sem Value}
  (hf:∀ v u s2 x y H2,Inv X pins σ H2 s2->RelV x v->RelV y u->R x y H2->wpAny (model X.prog X.w) X.A (f v u) Q X.xe s2):
  wpAny (model X.prog X.w) X.A (eval a X.env) (fun v s₁=>wpAny (model X.prog X.w) X.A (eval b X.env) (fun u s₂=>wpAny (model X.prog X.w) X.A (f v u) Q X.xe s₂) X.xe s₁) X.xe s:=by
 refine thn (ha pins s σ H _ I h) fun v s1 ⟨x,H1,I1,r1,q1⟩=>?_
 refine thn (hb pins s1 σ H1 _ I1 q1) fun u s2 ⟨y,H2,I2,r2,q2⟩=>?_
 exact hf v u s2 x y H2 I2 r1 r2 q2
theorem bA {op:Operator}{r:R2}(ho:OpR X (binaryOp op) r)(ha:PE X a ta)(hb:PE X b tb):PE X (.BinOp a op b pos) (tOp r ta tb):=by
 intro pins s σ H Q I h;exact wpAny_BinOp (ad7 ha hb I h fun v u s2 x y H2 I2 rx ry q=>ho pins s2 σ H2 x y v u Q I2 rx ry q)
theorem xP {op:UnaryOp}{r:V->Hp->VK->Prop}(ho:UnR X (unaryOp op) r)(ha:PE X a ta):PE X (.UnaryOp op a pos) (tUn r ta):=by
 intro pins s σ H Q I h;exact UnaryOp_ (thn (ha pins s σ H _ I h) fun v s1 ⟨x,H1,I1,r1,q1⟩=>ho pins s1 σ H1 x v Q I1 r1 q1)
theorem opI {f:Value->Value->Sem Value}{C:Int->Int->Prop}{g:Int->Int->Int}
  (rule:∀ (i j:Int)(t u:Tok)(s:Shared)(Q:Value->Shared->Prop)(E:Value->Shared->Prop),C i j->Q (.int (g i j) s.toks) { s with toks:=s.toks+1 }->wpAny (model X.prog X.w) X.A (f (.int i t) (.int j u)) Q E s):
  OpR X f (rI C fun i j=>.int (g i j)):=by
 intro pins s σ H x y v u Q I rx ry h
 obtain ⟨i,j,rfl,rfl,hc,q⟩:=h
 obtain ⟨t,rfl⟩:=rx
 obtain ⟨t',rfl⟩:=ry
 exact rule i j t t' s _ _ hc ⟨.int (g i j),H,I.tok _,⟨_,rfl⟩,q⟩
theorem aem {f:Value->Value->Sem Value}{g:Int->Int->Int}
  (rule:∀ (i j:Int)(t u:Tok)(s:Shared)(Q:Value->Shared->Prop)(E:Value->Shared->Prop),Q (.int (g i j) s.toks) { s with toks:=s.toks+1 }->wpAny (model X.prog X.w) X.A (f (.int i t) (.int j u)) Q E s):
  OpR X f (rI0 fun i j=>.int (g i j)):=by
 intro pins s σ H x y v u Q I rx ry h
 obtain ⟨i,j,rfl,rfl,q⟩:=h
 obtain ⟨t,rfl⟩:=rx
 obtain ⟨t',rfl⟩:=ry
 exact rule i j t t' s _ _ ⟨.int (g i j),H,I.tok _,⟨_,rfl⟩,q⟩
theorem acZ {f:Value->Value->Sem Value}{g:Int->Int->Bool}
  (rule:∀ (i j:Int)(t u:Tok)(s:Shared)(Q:Value->Shared->Prop)(E:Value->Shared->Prop),Q (.bool (g i j)) s->wpAny (model X.prog X.w) X.A (f (.int i t) (.int j u)) Q E s):
  OpR X f (rI0 fun i j=>.bl (g i j)):=by
 intro pins s σ H x y v u Q I rx ry h
 obtain ⟨i,j,rfl,rfl,q⟩:=h
 obtain ⟨t,rfl⟩:=rx
 obtain ⟨t',rfl⟩:=ry
 exact rule i j t t' s _ _ ⟨.bl (g i j),H,I,rfl,q⟩
def CDiv (i j:Int):Prop:=0<j/\j<1073741824
def CPow (i j:Int):Prop:=0<=j/\j<=1000000/\i.natAbs<2 ^ 64
def aee (i j:Int):Prop:=(-(2 ^ 64)<i/\i<2 ^ 64)\/(-(2 ^ 64)<j/\j<2 ^ 64)
theorem aee.ok {i j:Int}(h:aee i j):IntMulOk i j:=by
 rcases h with ⟨h1,h2⟩ | ⟨h1,h2⟩
 ·exact .of_left (intBits_le_64 h1 h2)
 ·exact .of_right (intBits_le_64 h1 h2)
theorem pW:OpR X (binaryOp .Add) (rI0 fun i j=>.int (i+j)):=aem fun _ _ _ _ _ _ _ q=>add_int q
theorem wA:OpR X (binaryOp .Sub) (rI0 fun i j=>.int (i - j)):=aem fun _ _ _ _ _ _ _ q=>sub_int q
theorem JX:OpR X (binaryOp .Mult) (rI aee fun i j=>.int (i*j)):=opI fun _ _ _ _ _ _ _ hc q=>mul_int q hc.ok
theorem xR:OpR X (binaryOp .FloorDiv) (rI CDiv fun i j=>.int (i / j)):=opI fun i j _ _ _ _ _ hc q=>by
 have h1:(0:Int)<j:=hc.1;have h2:j<1073741824:=hc.2;exact floordiv_int (by omega) (by rw [Int.fdiv_eq_ediv_of_nonneg i (by omega)];exact q) (.inl (PyProof.noPylong_small (by omega)))
theorem ji:OpR X (binaryOp .Mod) (rI (fun _ j=>0<j) fun i j=>.int (i % j)):=opI fun i j _ _ _ _ _ hc q=>by
 have h1:(0:Int)<j:=hc;exact mod_int' (by omega) (by rw [Int.fmod_eq_emod_of_nonneg i (by omega)];exact q)
theorem Cm:OpR X (binaryOp .Pow) (rI CPow fun i j=>.int (i ^ j.toNat)):=opI fun _ _ _ _ _ _ _ hc q=>pow_int_small hc.1 hc.2.1 hc.2.2 q
theorem unI {f:Value->Sem Value}{g:Int->Int}
  (rule:∀ (i:Int)(t:Tok)(s:Shared)(Q:Value->Shared->Prop)(E:Value->Shared->Prop),Q (.int (g i) s.toks) { s with toks:=s.toks+1 }->wpAny (model X.prog X.w) X.A (f (.int i t)) Q E s):
  UnR X f (rU fun i=>.int (g i)):=by
 intro pins s σ H x v Q I rx h
 obtain ⟨i,rfl,q⟩:=h
 obtain ⟨t,rfl⟩:=rx
 exact rule i t s _ _ ⟨.int (g i),H,I.tok _,⟨_,rfl⟩,q⟩
theorem nF:UnR X (unaryOp .USub) (rU fun i=>.int (-i)):=unI fun _ _ _ _ _ q=>neg_int q
end
def aei:V->V->Bool
 | .non,.non=>true| .non,.int _=>true| .int _,.non=>true| .non,.bl _=>true| .bl _,.non=>true| .non,.str _=>true| .str _,.non=>true
 | .int _,.int _=>true| .bl _,.bl _=>true| .str _,.str _=>true| .byt _,.byt _=>true
 | .int _,.str _=>true| .str _,.int _=>true| .bl _,.str _=>true| .str _,.bl _=>true
 | _,_=>false
def rEq:R2:=fun x y H Q=>aei x y=true/\Q (.bl (decide (x=y))) H
def rNe:R2:=fun x y H Q=>aei x y=true/\Q (.bl (!decide (x=y))) H
theorem PJ {i j:Int}:decide (V.int i=V.int j)=(i ==j):=by
 rw [afI];simp
theorem Zc {i j:Bool}:decide (V.bl i=V.bl j)=(i ==j):=by
 rw [afI];simp
theorem PB {i j:Str}:decide (V.str i=V.str j)=(i ==j):=by
 rw [afI];simp
theorem PN {i j:Array UInt8}:decide (V.byt i=V.byt j)=(i.toList ==j.toList):=by
 rw [afI];cases i;cases j;simp
section
variable {X:Cx}{a b c:Expr}{ta tb tc:TE}{pos:Pos}
theorem cL {pins:List (Addr × Obj)}{σ:St}{H:Hp}{s:Shared}{Q:VK}{k k':Bool}(I:Inv X pins σ H s)(q:Q (.bl k) H)(e:k=k'):EP X pins σ Q (.bool k') s:=by
 subst e;exact ⟨.bl k,H,I,rfl,q⟩
theorem Ef:OpR X (compareOp .Eq) rEq:=by
 intro pins s σ H x y v u Q I rx ry h;obtain ⟨hs,q⟩:=h;cases x with
 | non =>
  cases rx;cases y with
  | non=>cases ry;exact PySem.EqNone.eq_none_none (cL I q (by simp))
  | bl j=>cases ry;exact PySem.EqNone.eq_none_bool (cL I q (by simp))
  | int j=>obtain ⟨t',rfl⟩:=ry;exact PySem.EqNone.eq_none_int (cL I q (by simp))
  | str j=>obtain ⟨t',rfl⟩:=ry;exact PySem.EqNone.eq_none_str (cL I q (by simp))
  | _=>exact absurd (show false=true from hs) aeR
 | bl i =>
  cases rx;cases y with
  | non=>cases ry;exact PySem.EqNone.eq_bool_none (cL I q (by simp))
  | bl j=>cases ry;exact eq_bool (cL I q Zc)
  | str j=>obtain ⟨t',rfl⟩:=ry;exact PySem.EqMixed.eq_bool_str (cL I q (by simp))
  | _=>exact absurd (show false=true from hs) aeR
 | int i =>
  obtain ⟨t,rfl⟩:=rx;cases y with
  | non=>cases ry;exact PySem.EqNone.eq_int_none (cL I q (by simp))
  | int j=>obtain ⟨t',rfl⟩:=ry;exact eq_int (cL I q PJ)
  | str j=>obtain ⟨t',rfl⟩:=ry;exact PySem.EqMixed.eq_int_str (cL I q (by simp))
  | _=>exact absurd (show false=true from hs) aeR
 | str i =>
  obtain ⟨t,rfl⟩:=rx;cases y with
  | non=>cases ry;exact PySem.EqNone.eq_str_none (cL I q (by simp))
  | bl j=>cases ry;exact PySem.EqMixed.eq_str_bool (cL I q (by simp))
  | int j=>obtain ⟨t',rfl⟩:=ry;exact PySem.EqMixed.eq_str_int (cL I q (by simp))
  | str j=>obtain ⟨t',rfl⟩:=ry;exact eq_str (cL I q PB)
  | _=>exact absurd (show false=true from hs) aeR
 | byt i =>
  obtain ⟨t,rfl⟩:=rx;cases y with
  | byt j=>obtain ⟨t',rfl⟩:=ry;exact PySem.W.eq_bytes (cL I q PN)
  | _=>exact absurd (show false=true from hs) aeR
 | _=>cases y <;>exact absurd (show false=true from hs) aeR
theorem zX:OpR X (compareOp .NotEq) rNe:=by
 intro pins s σ H x y v u Q I rx ry h;obtain ⟨hs,q⟩:=h;cases x with
 | non =>
  cases rx;cases y with
  | non=>cases ry;exact PySem.EqNone.ne_none_none (cL I q (by simp))
  | bl j=>cases ry;exact PySem.EqNone.ne_none_bool (cL I q (by simp))
  | int j=>obtain ⟨t',rfl⟩:=ry;exact PySem.EqNone.ne_none_int (cL I q (by simp))
  | str j=>obtain ⟨t',rfl⟩:=ry;exact PySem.EqNone.ne_none_str (cL I q (by simp))
  | _=>exact absurd (show false=true from hs) aeR
 | bl i =>
  cases rx;cases y with
  | non=>cases ry;exact PySem.EqNone.ne_bool_none (cL I q (by simp))
  | bl j=>cases ry;exact ne_bool (cL I q (congrArg not Zc))
  | str j=>obtain ⟨t',rfl⟩:=ry;exact PySem.EqMixed.ne_bool_str (cL I q (by simp))
  | _=>exact absurd (show false=true from hs) aeR
 | int i =>
  obtain ⟨t,rfl⟩:=rx;cases y with
  | non=>cases ry;exact PySem.EqNone.ne_int_none (cL I q (by simp))
  | int j=>obtain ⟨t',rfl⟩:=ry;exact ne_int (cL I q (congrArg not PJ))
  | str j=>obtain ⟨t',rfl⟩:=ry;exact PySem.EqMixed.ne_int_str (cL I q (by simp))
  | _=>exact absurd (show false=true from hs) aeR
 | str i =>
  obtain ⟨t,rfl⟩:=rx;cases y with
  | non=>cases ry;exact PySem.EqNone.ne_str_none (cL I q (by simp))
  | bl j=>cases ry;exact PySem.EqMixed.ne_str_bool (cL I q (by simp))
  | int j=>obtain ⟨t',rfl⟩:=ry;exact PySem.EqMixed.ne_str_int (cL I q (by simp))
  | str j=>obtain ⟨t',rfl⟩:=ry;exact ne_str (cL I q (congrArg not PB))
  | _=>exact absurd (show false=true from hs) aeR
 | byt i =>
  obtain ⟨t,rfl⟩:=rx;cases y with
  | byt j=>obtain ⟨t',rfl⟩:=ry;exact PySem.W.ne_bytes (cL I q (congrArg not PN))
  | _=>exact absurd (show false=true from hs) aeR
 | _=>cases y <;>exact absurd (show false=true from hs) aeR
theorem Ed:OpR X (compareOp .Lt) (rI0 fun i j=>.bl (decide (i<j))):=acZ fun _ _ _ _ _ _ _ q=>lt_int q
theorem wB:OpR X (compareOp .LtE) (rI0 fun i j=>.bl (decide (i<=j))):=acZ fun _ _ _ _ _ _ _ q=>le_int q
theorem Q8:OpR X (compareOp .Gt) (rI0 fun i j=>.bl (decide (j<i))):=acZ fun _ _ _ _ _ _ _ q=>gt_int q
theorem Q9:OpR X (compareOp .GtE) (rI0 fun i j=>.bl (decide (j<=i))):=acZ fun _ _ _ _ _ _ _ q=>ge_int q
theorem NK:OpR X (compareOp .In) (fun x y H Q=>∃ i j,x=.str i/\y=.str j/\Q (.bl (!(Builtin.Str.occurrences j i 0 j.length 1).isEmpty)) H):=by
 intro pins s σ H x y v u Q I rx ry h;obtain ⟨i,j,rfl,rfl,q⟩:=h;obtain ⟨t,rfl⟩:=rx;obtain ⟨t',rfl⟩:=ry;exact in_str (cL I q rfl)
theorem Nz:OpR X (compareOp .Is) (fun x y H Q=>y=.non/\Q (.bl (decide (x=.non))) H):=by
 intro pins s σ H x y v u Q I rx ry h;obtain ⟨rfl,q⟩:=h;cases ry;refine is_none_gen (cL I q ?_);cases x <;>first
  | (cases rx;rfl)
  | (obtain ⟨t,rfl⟩:=rx;rfl)
theorem Z9:OpR X (compareOp .IsNot) (fun x y H Q=>y=.non/\Q (.bl (!decide (x=.non))) H):=by
 intro pins s σ H x y v u Q I rx ry h;obtain ⟨rfl,q⟩:=h;cases ry;refine isnot_none_gen (cL I q ?_);cases x <;>first
  | (cases rx;rfl)
  | (obtain ⟨t,rfl⟩:=rx;rfl)
theorem bx (b:Expr){op:CmpOp}(h:op≠.In:=by decide)(h2:op≠.NotIn:=by decide):behindInMarks op b=false:=by
 have e1:(op ==CmpOp.In)=false:=by cases op <;>first| rfl| exact absurd rfl h
 have e2:(op ==CmpOp.NotIn)=false:=by cases op <;>first| rfl| exact absurd rfl h2
 cases b <;>simp [behindInMarks,e1,e2]
theorem oM {op:CmpOp}{r:R2}(ho:OpR X (compareOp op) r)(ha:PE X a ta)(hb:PE X b tb)(hm:behindInMarks op b=false):PE X (.Compare a [op] [b] pos) (tOp r ta tb):=by
 intro pins s σ H Q I h;exact wpAny_Compare1 (ad7 ha hb I h fun v u s2 x y H2 I2 rx ry q=>ho pins s2 σ H2 x y v u Q I2 rx ry q) hm
def QL (t:TE):TT:=fun σ H Q=>t σ H fun x H'=>ac4 x fun k=>Q k H'
theorem aQ {op:CmpOp}{r:R2}(ho:OpR X (compareOp op) r)(ha:PE X a ta)(hb:PE X b tb)(hm:behindInMarks op b=false):PT X (.Compare a [op] [b] pos) (QL (tOp r ta tb)):=by
 intro pins s σ H Q I h;refine wpAny_isTrue_Compare1 (thn (ha pins s σ H _ I h) fun v s1 ⟨x,H1,I1,r1,q1⟩=>thn (hb pins s1 σ H1 _ I1 q1) fun u s2 ⟨y,H2,I2,r2,q2⟩=>
  thn (ho pins s2 σ H2 x y v u _ I2 r1 r2 q2) fun c s3 ⟨z,H3,I3,r3,k,e,q3⟩=>?_) hm
 subst e;cases r3;exact wpAny_truthy_bool ⟨H3,I3,q3⟩
def Tc (r r':R2)(ta tb tc:TE):TE:=fun σ H Q=>ta σ H fun x H1=>tb σ H1 fun y H2=>r x y H2 fun z H3=>∃ k,z=.bl k /\
 (if k=true then tc σ H3 fun w' H4=>r' y w' H4 Q else Q (.bl false) H3)
theorem DR {op op':CmpOp}{r r':R2}(ho:OpR X (compareOp op) r)(ho':OpR X (compareOp op') r')(ha:PE X a ta)(hb:PE X b tb)(hc:PE X c tc)
  (hm:lastMarks [op,op'] [b,c]=false:=by with_unfolding_all rfl):PE X (.Compare a [op,op'] [b,c] pos) (Tc r r' ta tb tc):=by
 intro pins s σ H Q I h;refine Compare_chain (thn (ha pins s σ H _ I h) fun v s1 ⟨x,H1,I1,r1,q1⟩=>chain_link (thn (hb pins s1 σ H1 _ I1 q1) fun u s2 ⟨y,H2,I2,r2,q2⟩=>
  thn (ho pins s2 σ H2 x y v u _ I2 r1 r2 q2) fun d s3 ⟨z,H3,I3,r3,k,e,q3⟩=>?_)) hm
 subst e;cases r3;refine wpAny_truthy_bool ?_;cases k with
 | false=>exact ite_ff ⟨.bl false,H3,I3,rfl,q3⟩
 | true=>exact ite_tt (chain_last (thn (hc pins s3 σ H3 _ I3 q3) fun w' s4 ⟨z',H4,I4,r4,q4⟩=>ho' pins s4 σ H4 y z' u w' Q I4 r2 r4 q4))
theorem tV {op op':CmpOp}{r r':R2}(ho:OpR X (compareOp op) r)(ho':OpR X (compareOp op') r')(ha:PE X a ta)(hb:PE X b tb)(hc:PE X c tc)
  (hm:lastMarks [op,op'] [b,c]=false:=by with_unfolding_all rfl):PT X (.Compare a [op,op'] [b,c] pos) (QL (Tc r r' ta tb tc)):=by
 intro pins s σ H Q I h;refine isTrue_chain (thn (ha pins s σ H _ I h) fun v s1 ⟨x,H1,I1,r1,q1⟩=>test_link (thn (hb pins s1 σ H1 _ I1 q1) fun u s2 ⟨y,H2,I2,r2,q2⟩=>
  thn (ho pins s2 σ H2 x y v u _ I2 r1 r2 q2) fun d s3 ⟨z,H3,I3,r3,k,e,q3⟩=>?_)) hm
 subst e;cases r3;refine wpAny_truthy_bool ?_;cases k with
 | false =>
  obtain ⟨k',e',q'⟩:=q3;cases e';exact ite_ff ⟨H3,I3,q'⟩
 | true =>
  refine ite_tt (test_last (thn (hc pins s3 σ H3 _ I3 q3) fun w' s4 ⟨z',H4,I4,r4,q4⟩=>thn (ho' pins s4 σ H4 y z' u w' _ I4 r2 r4 q4) fun d' s5 ⟨z2,H5,I5,r5,k2,e2,q5⟩=>?_));subst e2;cases r5;exact wpAny_truthy_bool ⟨H5,I5,q5⟩
def aeC (K:PySem.W.Frag)(x:V)(H:Hp)(k:Bool):Prop:=
 match x with
 | .non=>k=false
 | .bl b=>k=b
 | .int i=>k=(i !=0)
 | .str y=>y.length<=sizeLine/\k=((y.length:Int) !=0)
 | .byt y=>y.size<=sizeLine/\k=((y.size:Int) !=0)
 | .ref p=>(∃ xs,SqL K H p xs/\k=!xs.isEmpty)\/(∃ xs,SqT K H p xs/\k=!xs.isEmpty)\/∃ kvs,H p=some (.dK kvs)/\k=!kvs.isEmpty
 | _=>False
theorem Lg {κ:Type}{kvs:List (κ × V)}{vs:List (κ × Value)}(r:KV kvs vs):(!vs.isEmpty)=!kvs.isEmpty:=by
 cases r <;>rfl
theorem Cr {xs:List V}{its:List Value}(r:Vals xs its):(!its.toArray.isEmpty)=!xs.isEmpty:=by
 cases r <;>simp
theorem wD:(sizeLine:Nat)<2 ^ 63:=by rw [sizeLine_eq];decide
theorem aa1:TruR X (fun x H Q=>∃ k,aeC X.K x H k/\Q k H):=by
 intro pins s σ H x v Q I rx h;obtain ⟨k,e,q⟩:=h;have hl:=wD;have hs:sizeLine=16777216:=sizeLine_eq;cases x with
 | non =>
  cases rx;have e':k=false:=e;subst e';exact truthy_none ⟨H,I,q⟩
 | bl b =>
  cases rx;have e':k=b:=e;subst e';exact wpAny_truthy_bool ⟨H,I,q⟩
 | int i =>
  obtain ⟨t,rfl⟩:=rx;have e':k=(i !=0):=e;subst e';exact PySem.P.truthy_int ⟨H,I,q⟩
 | str y =>
  obtain ⟨t,rfl⟩:=rx;obtain ⟨hy,e'⟩:y.length<=sizeLine/\k=((y.length:Int) !=0):=e;subst e';exact PySem.P.truthy_str (by omega) ⟨H,I.tok _,q⟩
 | byt y =>
  obtain ⟨t,rfl⟩:=rx;obtain ⟨hy,e'⟩:y.size<=sizeLine/\k=((y.size:Int) !=0):=e;subst e';exact PySem.W.truthy_bytes (by omega) ⟨H,I.tok _,q⟩
 | ref p =>
  cases rx;have e':(∃ xs,SqL X.K H p xs/\k=!xs.isEmpty)\/(∃ xs,SqT X.K H p xs/\k=!xs.isEmpty)\/∃ kvs,H p=some (.dK kvs)/\k=!kvs.isEmpty:=e;rcases e' with ⟨xs,hx,e'⟩ | ⟨xs,hx,e'⟩ | ⟨kvs,hx,e'⟩
  ·subst e';obtain ⟨its,r,pl,hz⟩:=I.list hx;have hlen:=r.length;exact wpAny_truthy_list pl.isList (by simp only [aeX];omega) ⟨H,I.tok _,by rw [Cr r];exact q⟩
  ·subst e';obtain ⟨its,r,pl,hz⟩:=I.tuple hx;have hlen:=r.length;exact truthy_tuple pl (by simp only [aeX];omega) ⟨H,I.tok _,by rw [Cr r];exact q⟩
  ·subst e';obtain ⟨hz,hS,vs,r,m⟩:kvs.length<=sizeLine/\(p ==sysModules)=false/\∃ vs,KV kvs vs/\s.heap.DictOf (iC X.prog X.w) p vs:=I.hok p _ hx;have hlen:kvs.length=vs.length:=Paired.length r;exact wpAny_truthy_dict hS m (by omega) ⟨H,I.tok _,by rw [Lg r];exact q⟩
 | _=>exact (show False from e).elim
theorem Q5 (ha:PE X a ta)(he:∀ whole,isTrue a X.env whole=(do let v <- whole;standAt a.pos;holding [v] (truthy v))):
  PT X a (fun σ H Q=>ta σ H fun x H'=>∃ k,aeC X.K x H' k/\Q k H'):=by
 intro pins s σ H Q I h;exact isTrue_plain (thn (ha pins s σ H _ I h) fun v s1 ⟨x,H1,I1,r1,q1⟩=>aa1 pins s1 σ H1 x v Q I1 r1 q1) (he _)
theorem vals1 {x:V}{us:List Value}(r:Vals [x] us):∃ u,us=[u]/\RelV x u:=by
 cases r with
 | cons r1 r2=>cases r2;exact ⟨_,rfl,r1⟩
theorem vals2 {x y:V}{us:List Value}(r:Vals [x,y] us):∃ u w',us=[u,w']/\RelV x u/\RelV y w':=by
 cases r with
 | cons r1 r2 =>
  cases r2 with
  | cons r3 r4=>cases r4;exact ⟨_,_,rfl,r1,r3⟩
theorem GR (hc:X.calm=true):vR X (.builtin "max") (fun xs H Q=>∃ i j,xs=[.int i,.int j]/\Q (.int (if j >i then j else i)) H):=by
 intro pins s σ H xs us Q I r h;obtain ⟨i,j,rfl,q⟩:=h;obtain ⟨u,w',rfl,⟨t,rfl⟩,⟨t',rfl⟩⟩:=vals2 r;refine max_two_ints (I.ok.hd hc) fun h' tk k=>⟨_,H,I.kept k,?_,q⟩;by_cases hj:j >i
 ·rw [if_pos hj,if_pos hj];exact ⟨_,rfl⟩
 ·rw [if_neg hj,if_neg hj];exact ⟨_,rfl⟩
theorem GQ (hc:X.calm=true):vR X (.builtin "min") (fun xs H Q=>∃ i j,xs=[.int i,.int j]/\Q (.int (if j<i then j else i)) H):=by
 intro pins s σ H xs us Q I r h;obtain ⟨i,j,rfl,q⟩:=h;obtain ⟨u,w',rfl,⟨t,rfl⟩,⟨t',rfl⟩⟩:=vals2 r;refine min_two_ints (I.ok.hd hc) fun h' tk k=>⟨_,H,I.kept k,?_,q⟩;by_cases hj:j<i
 ·rw [if_pos hj,if_pos hj];exact ⟨_,rfl⟩
 ·rw [if_neg hj,if_neg hj];exact ⟨_,rfl⟩
end
structure aaQ (h:Heap)(x dx C:Addr)(mA:Str->Option Value):Prop where
 obj:h.get? x=some (instObj C dx)
 ns:h.Ns1 dx mA
 ne:dx≠x
theorem Oi {h:Heap}{dx:Addr}{mA:Str->Option Value}(n:h.Ns1 dx mA):∃ od,h.get? dx=some od/\∀ name,lookIn name od=some (mA name):=by
 obtain ⟨o,es,ep,ho,hd,hk,_,hm⟩:=n;refine ⟨o,ho,fun name=>?_⟩;have e:=hm name;unfold nsFind findBy at e;rw [<- Array.find?_toList] at e;unfold lookIn;rw [hd];dsimp only;split
 ·rename_i y q
  rw [q] at e;exact congrArg some e
 ·rename_i q
  rw [q] at e;have a:es.toList.any (·.refKey)=false:=by
   rw [List.any_eq_false];intro y hy;obtain ⟨z,t,hkey⟩:=hk y (Array.mem_toList_iff.mp hy);simp [DictEntry.refKey,hkey]
  have a':¬ es.toList.any (·.refKey)=true:=by rw [a];exact aeR
  rw [if_neg a'];exact congrArg some e
theorem aaQ.look {h:Heap}{x dx C:Addr}{mA:Str->Option Value}(I:aaQ h x dx C mA):∃ od,PySem.W.InstAt h x (instObj C dx) C (some od)/\∀ name,lookIn name od=some (mA name):=
 let ⟨od,ho,hl⟩:=Oi I.ns;⟨od,⟨I.obj,rfl,rfl,ho⟩,hl⟩
section
variable {prog:Program}{w:World}{A:Around}{E:Value->Shared->Prop}{s:Shared}{K:PySem.W.Frag}{x dx C f:Addr}{mA:Str->Option Value}{name:Str}{v:Value}
theorem get_map {expr:Bool}{Q:Value->Shared->Prop}(X:K.In s.heap)(I:aaQ s.heap x dx C mA)(hg:plainGet K C name=true)(hh:hasDictIn K C=true)
  (ha:PySem.W.findIn K (.ref C) name=some none)(hv:mA name=some v)(hv':handedIn v=true)(h:Q v { s with toks:=s.toks+1 }):
  wpAny (model prog w) A (getAttr (.ref x) name expr) Q E s:=by
 obtain ⟨od,J,hl⟩:=I.look
 exact PySem.W.get_value X J (plainGet_of hg).1 (PySem.W.findObj_own hh ha rfl (by rw [hl,hv])) hv' h
theorem R5 {pl:Sem Bool}{Q:Value × List Value->Shared->Prop}(X:K.In s.heap)(I:aaQ s.heap x dx C mA)(hg:plainGet K C name=true)
  (hf:PySem.W.findIn K (.ref C) name=some (some (.ref f)))(ht:isFn K (.ref f)=true)(hv:mA name=none)(h:Q (.ref f,[.ref x]) s):
  wpAny (model prog w) A (getMethod (.ref x) name pl) Q E s:=by
 obtain ⟨od,J,hl⟩:=I.look
 exact PySem.W.method_fn X J (plainGet_of hg).1 (plainGet_of hg).2 hf (beq_iff_eq.mp ht) (by show (lookIn name od).map (·.isSome)=some false;rw [hl,hv];rfl) h
theorem ZP {ns:List Str}{Q:Unit->Shared->Prop}(X:K.In s.heap)(I:aaQ s.heap x dx C mA)
  (hs:PySem.W.findIn K (.ref C) "__setattr__"=some (some (.builtin "object.__setattr__")))(hp:plainOver K C=true)(ht:takerIn K C name=some none)(hh:hasDictIn K C=true)
  (hw:PySem.Within mA ns)(hsz:ns.length<=sizeLine)
  (h:∀ h',aaQ h' x dx C (fun y=>if y=name then some v else mA y)->Heap.SameBut dx s.heap h'->Q () { s with heap:=h',toks:=s.toks+2 }):
  wpAny (model prog w) A (setAttr (.ref x) name v) Q E s:=by
 obtain ⟨od,J,hl⟩:=I.look
 refine PySem.W.set_plain X J hs (PySem.W.osa_open (s:={ s with toks:=s.toks+1 }) (r:=none) X J hp ht fun b=>?_)
 obtain ⟨cd,hc,hd'⟩:=PySem.W.any_some hh
 have hx:s.heap.get? x=some ⟨.ref C,some dx,.plain,#[]⟩:=I.obj
 refine wpAny_bind (wpAny_pure (wpAny_bind (wpAny_bind (wpAny_loadPart hx (wpAny_bind (PySem.W.Looks.here (s:={ s with toks:=s.toks+1 }) (PySem.W.looks_clsIn X hc) ?_))))))
 rw [hd']
 refine wpAny_pure (a:=some dx) (wpAny_bind (wpAny_pure (wpAny_bind ?_)))
 refine wpAny_nsSet1 (s:={ s with toks:=s.toks+1 }) I.ns fun h' hn2 hs2=>?_
 obtain ⟨oD,esD,epD,hoD,hdD,hcD⟩:=hn2.count (PySem.Within.cons name v hw)
 refine wpAny_bind (wpAny_lookBehind hoD (by rw [hdD];exact pastItsLine_dict (afB hcD (by rw [afb];omega))) ?_)
 exact wpAny_pure (h _ ⟨(hs2.2 _ (Ne.symm I.ne)).trans I.obj,hn2,I.ne⟩ hs2)
theorem RG {R:Result->Shared->Prop}{vs:List Value}{kw:List (Str × Value)}(X:K.In s.heap)(hm:makesIn K C=true)
  (hi:PySem.W.findIn K (.ref C) "__init__"=some (some (.ref f)))(hf:PySem.W.typeIn K (.ref f)=some (.type "function"))
  (h:codeAny (model prog w) (A.under (.builtin "type.__call__" ⟨.ref C::vs,kw⟩)) (.call (.ref f) ⟨.ref (s.heap.objs.size+1)::vs,kw⟩) (PySem.W.InitBack (s.heap.objs.size+1) R)
   { s with heap:=(s.heap.push emptyDict).push (instObj C s.heap.objs.size) }):
  codeAny (model prog w) A (.call (.ref C) ⟨vs,kw⟩) R s:=by
 obtain ⟨hh,g,d,t,os⟩:=s
 exact PySem.W.make_core (PySem.W.makes_of X hm) (PySem.W.looks_findIn X hi) (fun self=>PySem.W.bind_fn X self hf) (.inl rfl) h
end
def Ft (f:Str)(v:V):List (Str × V)->List (Str × V)
 | []=>[(f,v)]
 | (g,x)::r=>if g=f then (g,v)::r else (g,x)::Ft f v r
theorem Aa (f g:Str)(v:V):∀ fs:List (Str × V),(Ft f v fs).lookup g=if g=f then some v else fs.lookup g
 | []=>by
  show List.lookup g [(f,v)]=_;by_cases h:g=f
  ·have hb:(g ==f)=true:=beq_iff_eq.mpr h;simp only [List.lookup,hb,if_pos h]
  ·have hb:(g ==f)=false:=beq_eq_false_iff_ne.mpr h;simp only [List.lookup,hb,if_neg h]
 | (k,x)::r=>by
  have ih:=Aa f g v r;rw [show Ft f v ((k,x)::r)=(if k=f then (k,v)::r else (k,x)::Ft f v r) from rfl];by_cases hk:k=f
  ·rw [if_pos hk];by_cases h:g=k
   ·have hb:(g ==k)=true:=beq_iff_eq.mpr h;simp only [List.lookup,hb,if_pos (h.trans hk)]
   ·have hb:(g ==k)=false:=beq_eq_false_iff_ne.mpr h;simp only [List.lookup,hb,if_neg (fun e:g=f=>h (e.trans hk.symm))]
  ·rw [if_neg hk];by_cases h:g=k
   ·have hb:(g ==k)=true:=beq_iff_eq.mpr h;simp only [List.lookup,hb,if_neg (fun e:g=f=>hk (h.symm.trans e))]
   ·have hb:(g ==k)=false:=beq_eq_false_iff_ne.mpr h;simp only [List.lookup,hb];exact ih
theorem Ad (f:Str)(v:V):∀ fs:List (Str × V),f∈(Ft f v fs).map (·.1)/\∀ g,g∈fs.map (·.1)->g∈(Ft f v fs).map (·.1)
 | []=>⟨by simp [Ft],fun g h=>by simp at h⟩
 | (k,x)::r=>by
  obtain ⟨i1,i2⟩:=Ad f v r;rw [show Ft f v ((k,x)::r)=(if k=f then (k,v)::r else (k,x)::Ft f v r) from rfl];by_cases hk:k=f
  ·rw [if_pos hk];subst hk;exact ⟨by simp,fun g h=>by simpa using h⟩
  ·rw [if_neg hk];refine ⟨?_,fun g h=>?_⟩
   ·rw [afg];exact ae4 _ i1
   ·rw [afg] at h ⊢;rcases aeS.mp h with e| e
    ·exact aeS.mpr (.inl e)
    ·exact ae4 _ (i2 g e)
theorem Ac (f:Str)(v:V):∀ fs:List (Str × V),(Ft f v fs).length<=fs.length+1
 | []=>by simp [Ft]
 | (k,x)::r=>by
  have ih:=Ac f v r;rw [show Ft f v ((k,x)::r)=(if k=f then (k,v)::r else (k,x)::Ft f v r) from rfl];by_cases hk:k=f
  ·rw [if_pos hk,afb,afb];omega
  ·rw [if_neg hk,afb,afb];omega
theorem Qt.some_of {v:V}{o:Option Value}(r:Qt (some v) o):∃ u,o=some u/\RelV v u:=by
 cases o with
 | none=>exact (show False from r).elim
 | some u=>exact ⟨u,rfl,r⟩
theorem Qt.none_of {o:Option Value}(r:Qt none o):o=none:=by
 cases o with
 | none=>rfl
 | some u=>exact (show False from r).elim
theorem Pb {v:V}{u:Value}(r:RelV v u):handedIn u=true:=by
 cases v with
 | non=>cases (show u=Value.none from r);rfl
 | bl b=>cases (show u=Value.bool b from r);rfl
 | int i=>obtain ⟨t,e⟩:=(show ∃ t,u=Value.int i t from r);cases e;rfl
 | str x=>obtain ⟨t,e⟩:=(show ∃ t,u=Value.str x t from r);cases e;rfl
 | byt b=>obtain ⟨t,e⟩:=(show ∃ t,u=Value.bytes b t from r);cases e;rfl
 | flt b=>obtain ⟨t,e⟩:=(show ∃ t,u=Value.float b t from r);cases e;rfl
 | ref a=>cases (show u=Value.ref a from r);rfl
 | ty n=>cases (show u=Value.type n from r);rfl
section
variable {P:Program}{w:World}{H H':Hp}{h h':Heap}{a C dx:Addr}{fs fs':List (Str × V)}
theorem Ej (hok:HOk P w H h)(e:H a=some (.ins C dx fs)):∃ mA,aaQ h a dx C mA/\(∀ f,Qt (fs.lookup f) (mA f))/\PySem.Within mA (fs.map (·.1))/\fs.length<=1000/\H dx=some (.own a):=by
 obtain ⟨d,z,ne,ob,mA,n,r,q⟩:=(show gq P w H h a (.ins C dx fs) from hok a _ e);exact ⟨mA,⟨ob,n,ne⟩,r,q,z,d⟩
end
structure Cls (K:PySem.W.Frag)(C:Addr):Prop where
 pg:plainGet K C Str.empty=true
 hd:hasDictIn K C=true
 po:plainOver K C=true
 sa:PySem.W.findIn K (.ref C) "__setattr__"=some (some (.builtin "object.__setattr__"))
theorem Cls.get {K:PySem.W.Frag}{C:Addr}(c:Cls K C)(f:Str):plainGet K C f=true:=c.pg
def ju (K:PySem.W.Frag)(C:Addr)(f:Str):Prop:=PySem.W.findIn K (.ref C) f=some none
theorem ju.taker {K:PySem.W.Frag}{C:Addr}{f:Str}(n:ju K C f):takerIn K C f=some none:=by
 unfold takerIn;rw [show PySem.W.findIn K (.ref C) f=some none from n];rfl
structure Meth (K:PySem.W.Frag)(C:Addr)(m:Str)(f:Addr):Prop where
 at_:PySem.W.findIn K (.ref C) m=some (some (.ref f))
 fn:isFn K (.ref f)=true
 kp:keepIn K (.ref f)=true
section
variable {X:Cx}{pins:List (Addr × Obj)}{σ:St}{H:Hp}{s:Shared}{a C dx:Addr}{fs:List (Str × V)}{f:Str}{v:V}{A:Around}{E:Value->Shared->Prop}
theorem Cw {b:Bool}{Q:Value->Shared->Prop}(I:Inv X pins σ H s)(e:H a=some (.ins C dx fs))(c:Cls X.K C)(n:ju X.K C f)(l:fs.lookup f=some v)
  (h:∀ u s',Inv X pins σ H s'->RelV v u->Q u s'):wpAny (model X.prog X.w) A (getAttr (.ref a) f b) Q E s:=by
 obtain ⟨mA,O,r,_,_,_⟩:=Ej I.hok e;obtain ⟨u,hu,ru⟩:=Qt.some_of (v:=v) (o:=mA f) (by rw [<- l];exact r f);exact get_map I.kIn O (c.get f) c.hd n hu (Pb ru) (h u _ (I.tok _) ru)
theorem xV {m:Str}{g:Addr}{pl:Sem Bool}{Q:Value × List Value->Shared->Prop}(I:Inv X pins σ H s)(e:H a=some (.ins C dx fs))(c:Cls X.K C)(k:Meth X.K C m g)(l:fs.lookup m=none)
  (h:Q (.ref g,[.ref a]) s):wpAny (model X.prog X.w) A (getMethod (.ref a) m pl) Q E s:=by
 obtain ⟨mA,O,r,_,_,_⟩:=Ej I.hok e;have hn:mA m=none:=Qt.none_of (by rw [<- l];exact r m);exact R5 I.kIn O (c.get m) k.at_ k.fn hn h
theorem Cj {y:V}{u:Value}{Q:Unit->Shared->Prop}(I:Inv X pins σ H s)(e:H a=some (.ins C dx fs))(c:Cls X.K C)(n:ju X.K C f)(hl:fs.length<1000)(ry:RelV y u)
  (h:∀ s',Inv X pins σ (upd H a (.ins C dx (Ft f y fs))) s'->Q () s'):wpAny (model X.prog X.w) A (setAttr (.ref a) f u) Q E s:=by
 obtain ⟨mA,O,r,wi,_,ho⟩:=Ej I.hok e;have hz:(fs.map (·.1)).length<=sizeLine:=by rw [ac5,sizeLine_eq];omega
 refine ZP I.kIn O c.sa c.po n.taker c.hd wi hz fun h' O' sb=>h _ ?_;have hd:∃ o,h'.get? dx=some o:=let ⟨o,_,_,e',_⟩:=O'.ns;⟨o,e'⟩;refine I.write (x:=a) (e:=dx) (by rw [e];exact True.intro) (.inr ho) (fun b q hb z=>(sb.2 b hb).trans z) hd ?_;refine ⟨by rw [aN O.ne];exact ho,?_,O.ne,O'.obj,_,O'.ns,fun g=>?_,fun g hg=>?_⟩
 ·have:=Ac f y fs;omega
 ·show Qt ((Ft f y fs).lookup g) (if g=f then some u else mA g);rw [Aa];by_cases q:g=f
  ·rw [if_pos q,if_pos q];exact ry
  ·rw [if_neg q,if_neg q];exact r g
 ·by_cases q:g=f
  ·rw [q];exact (Ad f y fs).1
  ·refine (Ad f y fs).2 g (wi g fun z=>hg ?_);show (if g=f then some u else mA g)=none;rw [if_neg q];exact z
theorem Inv.made (I:Inv X pins σ H s):Inv X pins σ (upd (upd H s.heap.objs.size (.own (s.heap.objs.size+1))) (s.heap.objs.size+1) (.ins C s.heap.objs.size []))
  { s with heap:=(s.heap.push emptyDict).push (instObj C s.heap.objs.size) }:=by
 have e1:(s.heap.push emptyDict).get? s.heap.objs.size=some emptyDict:=aeW s.heap rfl;have e2:((s.heap.push emptyDict).push (instObj C s.heap.objs.size)).get? (s.heap.objs.size+1)=some (instObj C s.heap.objs.size):=by
  have:=aeW (s.heap.push emptyDict) (o:=instObj C s.heap.objs.size) rfl;rwa [afT] at this
 have e3:(s.heap.push emptyDict).Ns s.heap.objs.size (fun _=>none):=⟨emptyDict,#[],_,e1,rfl,(fun e he=>absurd he (by simp)),fun _=>rfl⟩;have I1:=I.laid (a:=s.heap.objs.size) (o:=.own (s.heap.objs.size+1)) (h':=s.heap.push emptyDict) (t':=s.toks) (fun b u q=>aeP _ q) (aeL _) ⟨_,e1⟩;refine I1.laid (a:=s.heap.objs.size+1) (o:=.ins C s.heap.objs.size []) (t':=s.toks) (fun b u q=>aeP _ q) (Nat.le_of_eq (afT _ _)) ?_;have ne:s.heap.objs.size≠s.heap.objs.size+1:=afr (agn _);refine ⟨by rw [aN ne,aZ],afs _,ne,e2,fun _=>none,(Heap.Ns1.of_empty e3).at fun o q=>aeP _ q,fun _=>True.intro,fun y hy=>absurd rfl hy⟩
theorem aaM {prog:Program}{w:World}{env:Env}{e:Expr}{f:Str}{pos:Pos}{s:Shared}{Q:Value->Shared->Prop}(hb:attributeBase e f env (eval e env)=eval e env)
  (h:wpAny (model prog w) A (eval e env) (fun o s₁=>wpAny (model prog w) A (getAttr o f true) Q E s₁) E s):wpAny (model prog w) A (eval (.Attribute e f pos) env) Q E s:=
 Attribute_any_ h (by rw [arm_eval_Attribute,hb])
end
inductive kFld (K:PySem.W.Frag)(f:Str)(x:V)(H:Hp)(Q:VK):Prop
 | mk (a C dx:Addr)(fs:List (Str × V))(v:V)(_:x=.ref a)(_:H a=some (.ins C dx fs))(_:Cls K C)(_:ju K C f)(_:fs.lookup f=some v)(_:Q v H)
def tFld (K:PySem.W.Frag)(ta:TE)(f:Str):TE:=fun σ H Q=>ta σ H fun x H1=>kFld K f x H1 Q
inductive kPut (K:PySem.W.Frag)(f:Str)(x y:V)(H:Hp)(P:Hp->Prop):Prop
 | mk (a C dx:Addr)(fs:List (Str × V))(_:x=.ref a)(_:H a=some (.ins C dx fs))(_:Cls K C)(_:ju K C f)(_:fs.length<1000)(_:P (upd H a (.ins C dx (Ft f y fs))))
def sFld (K:PySem.W.Frag)(ta tv:TE)(f:Str):TS:=fun D σ H=>tv σ H fun y H1=>ta σ H1 fun x H2=>kPut K f x y H2 fun H3=>D.nx σ H3
def aeH (X:Cx)(op:Operator)(rd:V->V->Hp->VK->Prop):Prop:=
 ∀ (pins:List (Addr × Obj))(s:Shared)(σ:St)(H:Hp)(x y:V)(u v:Value)(Q:VK),Inv X pins σ H s->RelV x u->RelV y v->rd x y H Q->wpAny (model X.prog X.w) X.A (inplaceOp op u v) (EP X pins σ Q) X.xe s
def ZQ (K:PySem.W.Frag)(ta tv:TE)(rd:V->V->Hp->VK->Prop)(f:Str):TS:=fun D σ H=>ta σ H fun x H1=>∃ a C dx fs v,x=.ref a/\H1 a=some (.ins C dx fs)/\Cls K C/\ju K C f/\fs.lookup f=some v /\
 tv σ H1 fun y H2=>rd v y H2 fun z H3=>∃ dx' fs',H3 a=some (.ins C dx' fs')/\fs'.length<1000/\D.nx σ (upd H3 a (.ins C dx' (Ft f z fs')))
section
variable {X:Cx}{o e value:Expr}{f:Str}{pos pos' tpos:Pos}{ta tv:TE}
theorem bI (he:PE X e ta)(hb:attributeBase e f X.env (eval e X.env)=eval e X.env):PE X (.Attribute e f pos) (tFld X.K ta f):=by
 intro pins s σ H Q I h;refine aaM hb (thn (he pins s σ H _ I h) fun u s1 ⟨x,H1,I1,rx,a,C,dx,fs,v,ex,ea,c,n,l,q⟩=>?_);subst ex;obtain rfl:u=Value.ref a:=rx;exact Cw I1 ea c n l fun u' s2 I2 ru=>⟨v,H1,I2,ru,q⟩
theorem nT (ha:PE X o ta)(hv:PE X value tv)(hs:swapsWith value (some (.Attribute o f pos')) pos.line X.env=pure false):PS X (.Assign [.Attribute o f pos'] value pos) (sFld X.K ta tv f):=by
 intro pins s σ H D I h;refine plainObj_wpAny_Assign_Attribute (thn (hv pins s σ H _ I h) fun u s1 ⟨y,H1,I1,ry,q⟩=>thn (ha pins s1 σ H1 _ I1 q) fun ov s2 ⟨x,H2,I2,rx,a,C,dx,fs,ex,ea,c,n,l,q2⟩=>?_) hs;subst ex;obtain rfl:ov=Value.ref a:=rx;exact Cj I2 ea c n l ry fun s3 I3=>⟨σ,_,I3,q2⟩
theorem Np {op:Operator}{rd:V->V->Hp->VK->Prop}(ha:PE X o ta)(hv:PE X value tv)(hop:aeH X op rd):PS X (.AugAssign (.Attribute o f tpos) op value pos) (ZQ X.K ta tv rd f):=by
 intro pins s σ H D I h;refine wpAny_AugAssign_AttributeAny (thn (ha pins s σ H _ I h) fun ov s1 ⟨x,H1,I1,rx,a,C,dx,fs,v,ex,ea,c,n,l,q⟩=>?_);subst ex;obtain rfl:ov=Value.ref a:=rx;refine Cw I1 ea c n l fun u s2 I2 ru=>thn (hv pins s2 σ H1 _ I2 q) fun w3 s3 ⟨y,H2,I3,ry,q3⟩=>thn (hop pins s3 σ H2 v y u w3 _ I3 ru ry q3) fun w4 s4 ⟨z,H3,I4,rz,dx',fs',ea',l',q4⟩=>?_;exact Cj I4 ea' c n l' rz fun s5 I5=>⟨σ,_,I5,q4⟩
def rAdd:V->V->Hp->VK->Prop:=fun x y H Q=>∃ i j,x=.int i/\y=.int j/\Q (.int (i+j)) H
theorem ab7:aeH X .Add rAdd:=by
 rintro pins s σ H x y u v Q I rx ry ⟨i,j,rfl,rfl,q⟩;obtain ⟨t,rfl⟩:=(show ∃ t,u=Value.int i t from rx);obtain ⟨t',rfl⟩:=(show ∃ t',v=Value.int j t' from ry);exact PyProof.Rows.iadd_int ⟨.int (i+j),H,I.tok _,⟨_,rfl⟩,q⟩
end
section
variable {X:Cx}{pins:List (Addr × Obj)}{σ:St}{H:Hp}{s:Shared}{A:Around}{E:Value->Shared->Prop}{Q:Value->Shared->Prop}{c:Value}{b:Bool}
inductive Kq (K:PySem.W.Frag)(H:Hp):V->Value->Prop where
 | non:Kq K H .non (.type "NoneType")
 | bl (x:Bool):Kq K H (.bl x) (.type "bool")
 | int (i:Int):Kq K H (.int i) (.type "int")
 | str (x:Str):Kq K H (.str x) (.type "str")
 | flt (x:UInt64):Kq K H (.flt x) (.type "float")
 | lst {a:Addr} {xs:List V} (e:H a=some (.lst xs)):Kq K H (.ref a) (.type "list")
 | frz {a:Addr} {o:Obj} {xs:List V} (e:H a=some (.frz o (.lst xs))):Kq K H (.ref a) (.type "list")
 | tup {a:Addr} {xs:List V} (e:H a=some (.tup xs)):Kq K H (.ref a) (.type "tuple")
 | dK {a:Addr} {kvs:List (Key × V)} (e:H a=some (.dK kvs)):Kq K H (.ref a) (.type "dict")
 | dT {a:Addr} {kvs:List (List Key × V)} (e:H a=some (.dT kvs)):Kq K H (.ref a) (.type "dict")
 | ins {a C dx:Addr} {fs:List (Str × V)} (e:H a=some (.ins C dx fs)) (cl:Cls K C) (ha:PySem.W.findIn K (.ref C) "__class__"=some (some (.builtin "object.__class__")))
   (hn:PySem.W.specialIn K (.builtin "object.__class__") "__get__"=some (some (.builtin "getset_descriptor.__get__")))(htk:PySem.W.takesIn K (.builtin "object.__class__")=some true)
   (hm:PySem.W.mroIn K C (.type "object")=some true):Kq K H (.ref a) (.ref C)
theorem Ov {x:V}{u t:Value}(I:Inv X pins σ H s)(rx:RelV x u)(ty:Kq X.K H x t)(e:kitOne X.K t c=some b)(h:∀ tk,Q (.bool b) { s with toks:=tk }):
  wpAny (model X.prog X.w) A (call (.builtin "isinstance") [u,c]) Q E s:=by
 cases ty with
 | non=>cases (show u=Value.none from rx);exact afE PySem.W.kitx_none I.kIn True.intro e (fun z=>nomatch z) h
 | bl y=>cases (show u=Value.bool y from rx);exact afE PySem.W.kitx_bool I.kIn True.intro e (fun z=>nomatch z) h
 | int i=>obtain ⟨t,q⟩:=(show ∃ t,u=Value.int i t from rx);cases q;exact afE PySem.W.kitx_int I.kIn True.intro e (fun z=>nomatch z) h
 | str y=>obtain ⟨t,q⟩:=(show ∃ t,u=Value.str y t from rx);cases q;exact afE PySem.W.kitx_str I.kIn True.intro e (fun z=>nomatch z) h
 | flt y=>obtain ⟨t,q⟩:=(show ∃ t,u=Value.float y t from rx);cases q;exact afE PySem.W.kitx_float I.kIn True.intro e (fun z=>nomatch z) h
 | @lst a xs ea =>
  cases (show u=Value.ref a from rx);obtain ⟨_,_,n,_,h1⟩:=(show gq X.prog X.w H s.heap a (.lst xs) from I.hok a _ ea);exact afE kitx_list I.kIn ⟨_,h1,rfl⟩ e (fun z=>nomatch z) h
 | @frz a ob xs ea =>
  cases (show u=Value.ref a from rx);obtain ⟨_,_,_,n,_,h1⟩:=(show gq X.prog X.w H s.heap a (.frz ob (.lst xs)) from I.hok a _ ea);exact afE kitx_list I.kIn ⟨_,h1,rfl⟩ e (fun z=>nomatch z) h
 | @tup a xs ea =>
  cases (show u=Value.ref a from rx);obtain ⟨_,_,_,p⟩:=(show gq X.prog X.w H s.heap a (.tup xs) from I.hok a _ ea);obtain ⟨o,h1,h2,_⟩:=p;exact afE PySem.W.kitx_tuple I.kIn ⟨o,h1,h2⟩ e (fun z=>nomatch z) h
 | @dK a kvs ea =>
  cases (show u=Value.ref a from rx);obtain ⟨_,_,vs,_,p⟩:=(show gq X.prog X.w H s.heap a (.dK kvs) from I.hok a _ ea);obtain ⟨o,es,ep,h1,h2,_⟩:=p;exact afE kitx_dict I.kIn ⟨o,h1,h2.1⟩ e (fun z=>nomatch z) h
 | @dT a kvs ea =>
  cases (show u=Value.ref a from rx);obtain ⟨_,_,xs,_,o,es,ep,h1,h2,_⟩:=(show gq X.prog X.w H s.heap a (.dT kvs) from I.hok a _ ea);exact afE kitx_dict I.kIn ⟨o,h1,h2.1⟩ e (fun z=>nomatch z) h
 | @ins a C dx fs ea cl ha hn htk hm =>
  cases (show u=Value.ref a from rx);obtain ⟨mA,O,_⟩:=Ej I.hok ea;obtain ⟨od,J,_⟩:=O.look;exact afE (PySem.W.kitx_own (cl.get _) cl.hd ha hn htk hm) I.kIn J e (fun z=>nomatch z) h
end
structure sX (k:Nat)(A:Around):Prop where
 hd:A.handled=none
 dp:A.depth+3*k+5<recursionLimit
 un:A.units+16*k+200<cLine
theorem sX.mono {j k:Nat}{A:Around}(r:sX k A)(h:j<=k):sX j A:=⟨r.hd,by have:=r.dp;omega,by have:=r.un;omega⟩
theorem sX.deeper {k:Nat}{A:Around}(r:sX (k+1) A)(env:Env):sX k (A.deeper env):=
 ⟨r.hd,by have:=r.dp;show A.depth+1+3*k+5<_;omega,by have:=r.un;show A.units+3+16*k+200<_;omega⟩
theorem Ld {A:Around}{C:Addr}{us:List Value}{kw:List (Str × Value)}:(A.under (.builtin "type.__call__" ⟨.ref C::us,kw⟩)).depth=A.depth+1:=by
 first| rfl| simp [Around.under,Code.weight,Code.isCreation,Code.isGuard,Code.isCaller,Code.frames,Code.isFrame,guardIds]
theorem Lb {A:Around}{C:Addr}{us:List Value}{kw:List (Str × Value)}:(A.under (.builtin "type.__call__" ⟨.ref C::us,kw⟩)).units=A.units+1:=by
 first| rfl| simp [Around.under,Code.cUnits,Code.frames,Code.isFrame]
theorem sX.make {k:Nat}{A:Around}(r:sX (k+1) A)(C:Addr)(us:List Value)(kw:List (Str × Value)):sX k (A.under (.builtin "type.__call__" ⟨.ref C::us,kw⟩)):=
 ⟨r.hd,by have:=r.dp;rw [Ld];omega,by have:=r.un;rw [Lb];omega⟩
theorem sX.depth {k:Nat}{A:Around}(r:sX k A):A.depth<recursionLimit:=by have:=r.dp;omega
theorem sX.units {k:Nat}{A:Around}(r:sX k A):A.units+64<cLine:=by have:=r.un;omega
def S9:TA:=fun _ H Q=>Q [] H
def ZD (ta:TE)(tr:TA):TA:=fun σ H Q=>ta σ H fun x H1=>tr σ H1 fun xs H2=>Q (x::xs) H2
section
variable {X:Cx}{e:Expr}{es:List Expr}{te:TE}{t:TA}{pos:Pos}
theorem ak:PA X [] S9:=fun _ _ _ _ H Q I h=>aga ⟨[],H,I,.nil,h⟩
theorem aq (ha:PE X e te)(hr:PA X es t)(hs:starEach (e::es) X.env=(false,eval e X.env)::starEach es X.env:=by rfl):PA X (e::es) (ZD te t):=by
 intro pos pins s σ H Q I h;rw [hs];show wpAny _ _ (spliced ((false,eval e X.env)::backTo pos (starEach es X.env))) _ _ s;refine afV (thn (ha pins s σ H _ I h) fun u s1 ⟨x,H1,I1,r1,q1⟩=>?_);exact thn (hr pos pins s1 σ H1 _ I1 q1) fun us s2 ⟨xs,H2,I2,r2,q2⟩=>⟨x::xs,H2,I2,.cons r1 r2,q2⟩
def tTup (t:TA):TE:=fun σ H Q=>t σ H fun xs H1=>xs.length<=sizeLine/\∀ p,H1 p=none->Q (.ref p) (upd H1 p (.tup xs))
def aef (t:TA):TE:=fun σ H Q=>t σ H fun xs H1=>xs.length<=sizeLine/\∀ p,H1 p=none->Q (.ref p) (upd H1 p (.lst xs))
theorem gD {x1} (h:PA X es t):PE X (.Tuple es x1 pos) (tTup t):=by
 intro pins s σ H Q I hq;refine wpAny_Tuple_spliced (thn (h pos pins s σ H _ I hq) fun us s1 ⟨xs,H1,I1,r,z,q⟩=>⟨by rw [<- r.length];exact z,?_⟩);have hf:H1 s1.heap.objs.size=none:=I1.hok.fresh (aeL _);refine ⟨.ref s1.heap.objs.size,upd H1 s1.heap.objs.size (.tup xs),I1.laid (t':=s1.toks) (fun b u e=>aeP _ e) (aeL _) ?_,rfl,q _ hf⟩;exact ⟨z,us,r,⟨_,aeW _ rfl,rfl,_,rfl⟩⟩
theorem bF (h:PA X es t):PE X (.List es pos) (aef t):=by
 intro pins s σ H Q I hq;refine wpAny_List_spliced (thn (h pos pins s σ H _ I hq) fun us s1 ⟨xs,H1,I1,r,z,q⟩=>⟨by rw [<- r.length];exact z,?_⟩);have hf:H1 s1.heap.objs.size=none:=I1.hok.fresh (aeL _);refine ⟨.ref s1.heap.objs.size,upd H1 s1.heap.objs.size (.lst xs),I1.laid (t':=s1.toks) (fun b u e=>aeP _ e) (aeL _) ?_,rfl,q _ hf⟩;exact ⟨z,us,0,r,aeW _ rfl⟩
end
abbrev Sp:=List V->Hp->VK->XK->Prop
abbrev CXT:=List Env->Hp->Shared->XK->Value->Shared->Prop
structure aaR (P:Program)(w:World)(K:PySem.W.Frag)(mg:Str->Option Value)(base:Heap)(A:Around)(outer:List Env)(s:Shared)(H:Hp):Prop where
 frames:A.frames=some outer
 mod:Mod K mg base
 bs:∀ b o,base.get? b=some o->s.heap.get? b=some o/\H b=none
 bsz:base.objs.size<=s.heap.objs.size
 Ka:s.heap.FunFrames base outer
 frf:∀ b∈frs outer,H b=none
 hok:HOk P w H s.heap
 bare:AllBare s.gens
def CE (outer:List Env)(P:Program)(w:World)(H:Hp)(s:Shared)(Q:VK)(u:Value)(s':Shared):Prop:=
 ∃ v H',s'.os=s.os/\AllBare s'.gens/\Un (frs outer) [] H H' s.heap s'.heap/\HOk P w H' s'.heap/\RelV v u/\Q v H'
def CR (CX:CXT)(outer:List Env)(P:Program)(w:World)(H:Hp)(s:Shared)(Q:VK)(E:XK)(r:Result)(s':Shared):Prop:=
 match r with
 | .ok (.ret u)=>CE outer P w H s Q u s'
 | .ok _=>False
 | .error e=>CX outer H s E e s'
structure Hs (P:Program)(w:World)(K:PySem.W.Frag)(mg:Str->Option Value)(base:Heap)(CX:CXT)(k:Nat)(f:Addr)(fd:FuncData)(ps:List Str)(sp:Sp):Prop where
 len:∀ vs H Q E,sp vs H Q E->vs.length=ps.length
 run:∀ (A:Around)(outer:List Env)(s:Shared)(H:Hp)(args:Args)(us:List Value)(vs:List V)(Q:VK)(E:XK),sX k A->aaR P w K mg base A outer s H->BindsTo s fd args (ps.zip us)->Vals vs us->sp vs H Q E ->
  codeAny (model P w) A (.call (.ref f) args) (CR CX outer P w H s Q E) s
theorem aaR.make {P:Program}{w:World}{K:PySem.W.Frag}{mg:Str->Option Value}{base:Heap}{A:Around}{outer:List Env}{s:Shared}{H:Hp}(e:aaR P w K mg base A outer s H)(C:Addr)(us:List Value)(kw:List (Str × Value)):
  aaR P w K mg base (A.under (.builtin "type.__call__" ⟨.ref C::us,kw⟩)) outer s H:=⟨by first| exact e.frames| (simpa [Around.under,Code.envs,Code.isFrame,pushEnvs] using e.frames),e.mod,e.bs,e.bsz,e.Ka,e.frf,e.hok,e.bare⟩
section
variable {X:Cx}{pins:List (Addr × Obj)}{σ:St}{H:Hp}{s s':Shared}
theorem Inv.env0 (I:Inv X pins σ H s):aaR X.prog X.w X.K X.mg X.base X.A X.stack s H:=
 ⟨I.ok.frames,I.ok.mod,I.bs,afB I.ok.bsz I.sz,I.stack,I.Dl,I.hok,I.bare⟩
theorem Inv.after {Q:VK}{u:Value}(I:Inv X pins σ H s)(h:CE X.stack X.prog X.w H s Q u s'):EP X pins σ Q u s':=by
 obtain ⟨v,H',os,bare,un,hok,r,q⟩:=h;obtain ⟨hh,g,d,t,os'⟩:=s';obtain rfl:os'=s.os:=os;exact ⟨v,H',I.call (h':=hh) (g':=g) (d':=d) (t':=t) (ch:=[]) un hok bare (fun b z=>absurd z (by simp)),r,q⟩
end
def ZG (sp:Sp)(dvs:List V)(E:XK)(t:TA):TE:=fun σ H Q=>t σ H fun vs H1=>sp (vs++dvs) H1 Q E
inductive kMet (C:Addr)(m:Str)(x:V)(H:Hp)(P:Prop):Prop
 | mk (a dx:Addr)(fs:List (Str × V))(_:x=.ref a)(_:H a=some (.ins C dx fs))(_:fs.lookup m=none)(_:P)
def aa6 (C:Addr)(m:Str)(sp:Sp)(dvs:List V)(E:XK)(ta:TE)(t:TA):TE:=fun σ H Q=>ta σ H fun x H1=>kMet C m x H1 (t σ H1 fun vs H2=>sp (x::(vs++dvs)) H2 Q E)
def adk (C:Addr)(sp:Sp)(dvs:List V)(E:XK)(t:TA):TE:=fun σ H Q=>t σ H fun vs H1=>∀ x dx,H1 x=none->H1 dx=none->dx≠x ->
 sp (.ref x::(vs++dvs)) (upd (upd H1 dx (.own x)) x (.ins C dx [])) (fun v H2=>v=.non/\Q (.ref x) H2) E
def Binds (K:PySem.W.Frag)(fd:FuncData)(ps:List Str)(ds:List Value):Prop:=
 ∀ (s:Shared)(us:List Value),K.In s.heap->(us++ds).length=ps.length->BindsTo s fd ⟨us,[]⟩ (ps.zip (us++ds))
theorem Binds.all {K:PySem.W.Frag}{fd:FuncData}{ps:List Str}(h:∀ us:List Value,us.length=ps.length->bindArgs fd ⟨us,[]⟩=pure (ps.zip us)):Binds K fd ps []:=fun s us _ hl=>by
 rw [agt] at hl ⊢;exact .of_eq (h us hl)
def Passes (CX:CXT)(X:Cx)(E:XK):Prop:=∀ (pins:List (Addr × Obj))(σ:St)(H:Hp)(s:Shared)(e:Value)(s':Shared),Inv X pins σ H s->CX X.stack H s E e s'->X.xe e s'
section
variable {X:Cx}{CX:CXT}{k:Nat}{f C:Addr}{fd:FuncData}{ps:List Str}{sp:Sp}{dvs:List V}{ds:List Value}{E:XK}{x m:Str}{p pos apos:Pos}{e o:Expr}{es:List Expr}{ta:TE}{t:TA}
theorem JN {pins:List (Addr × Obj)}{σ:St}{H:Hp}{s:Shared}{Q:VK}{us:List Value}{vs:List V}(F:Hs X.prog X.w X.K X.mg X.base CX k f fd ps sp)(hr:sX k X.A)(hb:Binds X.K fd ps ds)(hd:Vals dvs ds)(hx:Passes CX X E)
  (I:Inv X pins σ H s)(r:Vals vs us)(h:sp (vs++dvs) H Q E):wpAny (model X.prog X.w) X.A (call (.ref f) us) (EP X pins σ Q) X.xe s:=by
 have r2:Vals (vs++dvs) (us++ds):=r.append hd;have hl:(us++ds).length=ps.length:=by rw [<- r2.length];exact F.len _ _ _ _ h
 refine wpAny_call (codeAny_mono (F.run X.A X.stack s H ⟨us,[]⟩ (us++ds) (vs++dvs) Q E hr I.env0 (hb s us I.kIn hl) r2 h) fun r s' hq=>?_);cases r with
 | error e=>exact hx pins σ H s e s' I hq
 | ok fl =>
  cases fl with
  | ret u=>exact I.after hq
  | next=>exact False.elim hq
  | brk=>exact False.elim hq
  | cont=>exact False.elim hq
theorem DW (F:Hs X.prog X.w X.K X.mg X.base CX k f fd ps sp)(hr:sX k X.A)(hg:Gl X x)(hm:X.mg x=some (.ref f))(hk:keepIn X.K (.ref f)=true)(hb:Binds X.K fd ps ds)(hd:Vals dvs ds)(hx:Passes CX X E)
  (ha:PA X (e::es) t)(hdb:(x ==("__debug__":Str))=false:=by decide)(he:starEach (e::es) X.env=(false,eval e X.env)::starEach es X.env:=by rfl)(hpl:(backTo pos (starEach es X.env)).any (·.1)=false:=by rfl):
  PE X (.Call (.Name x p) (e::es) [] pos) (ZG sp dvs E t):=by
 intro pins s σ H Q I h
 refine wpAny_Call_Name_kw (xU I hg hm ?_ hdb)
 refine agj (h₀:=X.base) I.ok.mod.kin hk (thn (ha pos pins s σ H _ I h) fun us s1 ⟨vs,H1,I1,r,q⟩=>⟨I1.kIn,?_⟩) he hpl
 exact JN F hr hb hd hx I1 r q
theorem fQ {pl:Sem Bool}(he:PE X o ta)(c:Cls X.K C)(hm:Meth X.K C m f)(F:Hs X.prog X.w X.K X.mg X.base CX k f fd ps sp)(hr:sX k X.A)(hb:Binds X.K fd ps ds)(hd:Vals dvs ds)(hx:Passes CX X E)(ha:PA X (e::es) t)
  (hst:starEach (e::es) X.env=(false,eval e X.env)::starEach es X.env:=by rfl)(hpl:(backTo pos (starEach es X.env)).any (·.1)=false:=by rfl)
  (ht:eval (.Call (.Attribute o m apos) (e::es) [] pos) X.env=(do
   let ov <- eval o X.env
   standAt apos.atName
   let (f,first)<- holding [ov] (getMethod ov m pl)
   callWith pos f first (backTo pos (starEach (e::es) X.env)) (backToKw pos (keywordEach [] X.env))):=by rfl):
  PE X (.Call (.Attribute o m apos) (e::es) [] pos) (aa6 C m sp dvs E ta t):=by
 intro pins s σ H Q I h
 refine agm (pl:=pl) (thn (he pins s σ H _ I h) fun u s1 ⟨x,H1,I1,rx,a,dx,fs,ex,ea,l,q⟩=>?_) ht
 subst ex
 obtain rfl:u=Value.ref a:=rx
 refine xV I1 ea c hm l ?_
 refine agj (first:=[.ref a]) (h₀:=X.base) I.ok.mod.kin hm.kp (thn (ha pos pins s1 σ H1 _ I1 q) fun us s2 ⟨vs,H2,I2,r,q2⟩=>⟨I2.kIn,?_⟩) hst hpl
 exact JN (us:=.ref a::us) (vs:=.ref a::vs) F hr hb hd hx I2 (.cons rfl r) q2
theorem gb {pl:Sem Bool}(he:PE X o ta)(c:Cls X.K C)(hm:Meth X.K C m f)(F:Hs X.prog X.w X.K X.mg X.base CX k f fd ps sp)(hr:sX k X.A)(hb:Binds X.K fd ps ds)(hd:Vals dvs ds)(hx:Passes CX X E)
  (ht:eval (.Call (.Attribute o m apos) [] [] pos) X.env=(do
   let ov <- eval o X.env
   standAt apos.atName
   let (f,first)<- holding [ov] (getMethod ov m pl)
   callWith pos f first (backTo pos (starEach [] X.env)) (backToKw pos (keywordEach [] X.env))):=by rfl):
  PE X (.Call (.Attribute o m apos) [] [] pos) (aa6 C m sp dvs E ta S9):=by
 intro pins s σ H Q I h
 refine agm (pl:=pl) (thn (he pins s σ H _ I h) fun u s1 ⟨x,H1,I1,rx,a,dx,fs,ex,ea,l,q⟩=>?_) ht
 subst ex
 obtain rfl:u=Value.ref a:=rx
 refine xV I1 ea c hm l ?_
 exact PySem.W.callWith_K0 (first:=[.ref a]) I1.kIn hm.kp (JN (us:=[.ref a]) (vs:=[.ref a]) F hr hb hd hx I1 (.cons rfl .nil) q)
structure Mk (K:PySem.W.Frag)(C f:Addr):Prop where
 makes:makesIn K C=true
 init:PySem.W.findIn K (.ref C) "__init__"=some (some (.ref f))
 fn:isFn K (.ref f)=true
 kp:keepIn K (.ref C)=true
theorem QW {pins:List (Addr × Obj)}{σ:St}{H:Hp}{s:Shared}{Q:VK}{us:List Value}{vs:List V}(M:Mk X.K C f)(F:Hs X.prog X.w X.K X.mg X.base CX k f fd ps sp)(hr:sX (k+1) X.A)(hb:Binds X.K fd ps ds)(hd:Vals dvs ds)
  (hx:Passes CX X E)(I:Inv X pins σ H s)(r:Vals vs us)
  (h:∀ x dx,H x=none->H dx=none->dx≠x->sp (.ref x::(vs++dvs)) (upd (upd H dx (.own x)) x (.ins C dx [])) (fun v H2=>v=.non/\Q (.ref x) H2) E):
  wpAny (model X.prog X.w) X.A (call (.ref C) us) (EP X pins σ Q) X.xe s:=by
 have hq:=h (s.heap.objs.size+1) s.heap.objs.size (I.hok.fresh (Nat.le_succ _)) (I.hok.fresh (aeL _)) (afr (agn _))
 have I2:=Inv.made (C:=C) I
 have r2:Vals (V.ref (s.heap.objs.size+1)::(vs++dvs)) (Value.ref (s.heap.objs.size+1)::(us++ds)):=.cons rfl (r.append hd)
 have hl:(Value.ref (s.heap.objs.size+1)::us++ds).length=ps.length:=by
  have e:=r2.length
  rw [F.len _ _ _ _ hq] at e
  exact e.symm
 refine wpAny_call (RG (f:=f) I.kIn M.makes M.init (beq_iff_eq.mp M.fn) (codeAny_mono (F.run _ X.stack _ _ ⟨Value.ref (s.heap.objs.size+1)::us,[]⟩ (Value.ref (s.heap.objs.size+1)::(us++ds)) _ _ E (hr.make C us [])
  (I2.env0.make C us []) (hb _ (Value.ref (s.heap.objs.size+1)::us) I2.kIn hl) r2 hq) fun r s' hq'=>?_))
 cases r with
 | error e=>exact hx pins σ _ _ e s' I2 hq'
 | ok fl =>
  cases fl with
  | ret u =>
   obtain ⟨v,H',I3,rv,ev,q3⟩:=I2.after hq'
   subst ev
   exact ⟨rv,⟨V.ref (s.heap.objs.size+1),H',I3,rfl,q3⟩⟩
  | next=>exact False.elim hq'
  | brk=>exact False.elim hq'
  | cont=>exact False.elim hq'
theorem Z0 (M:Mk X.K C f)(F:Hs X.prog X.w X.K X.mg X.base CX k f fd ps sp)(hr:sX (k+1) X.A)(hg:Gl X x)(hm:X.mg x=some (.ref C))(hb:Binds X.K fd ps ds)(hd:Vals dvs ds)(hx:Passes CX X E)
  (ha:PA X (e::es) t)(hdb:(x ==("__debug__":Str))=false:=by decide)(he:starEach (e::es) X.env=(false,eval e X.env)::starEach es X.env:=by rfl)(hpl:(backTo pos (starEach es X.env)).any (·.1)=false:=by rfl):
  PE X (.Call (.Name x p) (e::es) [] pos) (adk C sp dvs E t):=by
 intro pins s σ H Q I h
 refine wpAny_Call_Name_kw (xU I hg hm ?_ hdb)
 refine agj (h₀:=X.base) I.ok.mod.kin M.kp (thn (ha pos pins s σ H _ I h) fun us s1 ⟨vs,H1,I1,r,q⟩=>⟨I1.kIn,?_⟩) he hpl
 exact QW M F hr hb hd hx I1 r q
end
structure aD (N P:List Str)(sc:Scope):Prop where
 kind:sc.kind=.function
 co:sc.isCoroutine=false
 gen:sc.isGenerator=false
 nd:N.Nodup
 pre:N.take P.length=P
 par:∀ x∈P,sc.names.lookup x=some .local\/sc.names.lookup x=some .cell
 nofree:∀ y∈sc.names,y.2≠.free
theorem G4 {kindOf:Str->Option NameKind}{x:Str}:∀ {binds:List (Str × Value)}{m:Str->Option Value},(∀ v,(x,v) ∉ binds)->bindL kindOf binds m x=m x
 | [],_,_=>rfl
 | (n,v)::r,m,h=>by
  unfold bindL;rw [G4 fun w hw=>h w (ae4 _ hw)];split
  ·have:x≠n:=by rintro rfl;exact h v afd
   simp [this]
  ·rfl
theorem G7 {kindOf:Str->Option NameKind}{x:Str}:∀ {binds:List (Str × Value)}{m:Str->Option Value},(∀ v,(x,v) ∉ binds)->bindC kindOf binds m x=m x
 | [],_,_=>rfl
 | (n,v)::r,m,h=>by
  unfold bindC;rw [G7 fun w hw=>h w (ae4 _ hw)];split
  ·rfl
  ·have:x≠n:=by rintro rfl;exact h v afd
   simp [this]
theorem G5 {kindOf:Str->Option NameKind}{x:Str}{v:Value}:∀ {P:List Str}{vs:List Value}{i:Nat}{m:Str->Option Value},P.Nodup->P[i]?=some x->vs[i]?=some v->kindOf x=some .local ->
  bindL kindOf (P.zip vs) m x=some v
 | [],_,_,_,_,h,_,_=>by simp at h
 | _::_,[],_,_,_,_,h,_=>by simp at h
 | p::P,w::vs,0,m,nd,h1,h2,hk=>by
  simp at h1 h2;subst h1;subst h2;show bindL kindOf ((p,w)::P.zip vs) m p=_;unfold bindL;rw [G4 fun v hv=>(afJ.mp nd).1 (List.of_mem_zip hv).1,if_pos hk];simp
 | p::P,w::vs,i+1,m,nd,h1,h2,hk=>by
  show bindL kindOf ((p,w)::P.zip vs) m x=_;unfold bindL;exact G5 (i:=i) (afJ.mp nd).2 (by simpa using h1) (by simpa using h2) hk
theorem G8 {kindOf:Str->Option NameKind}{x:Str}{v:Value}:∀ {P:List Str}{vs:List Value}{i:Nat}{m:Str->Option Value},P.Nodup->P[i]?=some x->vs[i]?=some v->kindOf x≠some .local ->
  bindC kindOf (P.zip vs) m x=some v
 | [],_,_,_,_,h,_,_=>by simp at h
 | _::_,[],_,_,_,_,h,_=>by simp at h
 | p::P,w::vs,0,m,nd,h1,h2,hk=>by
  simp at h1 h2;subst h1;subst h2;show bindC kindOf ((p,w)::P.zip vs) m p=_;unfold bindC;rw [G7 fun v hv=>(afJ.mp nd).1 (List.of_mem_zip hv).1,if_neg hk];simp
 | p::P,w::vs,i+1,m,nd,h1,h2,hk=>by
  show bindC kindOf ((p,w)::P.zip vs) m x=_;unfold bindC;exact G8 (i:=i) (afJ.mp nd).2 (by simpa using h1) (by simpa using h2) hk
def start (N:List Str)(vs:List V):St:=vs.map some++List.replicate (N.length - vs.length) none
def Qe (CX:CXT)(P:Program)(w:World)(K:PySem.W.Frag)(mg:Str->Option Value)(base:Heap)(N:List Str)(qual:Str)(scope:Scope)(f:Addr)(cd:Value)(A:Around)(outer:List Env)(s:Shared)(H:Hp)(E:XK):Cx where
 prog:=P;w:=w;K:=K;mg:=mg;base:=base;A:=A.deeper (envOfC qual scope s.heap.objs.size f cd);N:=N;s₀:=s;H₀:=H;env:=envOfC qual scope s.heap.objs.size f cd;outer:=outer;stack:=envOfC qual scope s.heap.objs.size f cd::outer;ex:=[];calm:=true;fn:=fun _=>true;pn:=[];xe:=fun e s'=>wpAny (model P w) (A.deeper (envOfC qual scope s.heap.objs.size f cd)) (leaving (envOfC qual scope s.heap.objs.size f cd) e) (fun _ s''=>CX outer H s E e s'') (fun e' s''=>CX outer H s E e' s'') s'
theorem Km {sc:Scope}{n:Nat}{x:Str}(h:sc.names.lookup x=some .cell):∃ c,(cellsFrom n sc.names []).lookup x=some c:=by
 have q:=PySem.W.cellsFrom_some sc.names n [] (.inl h);exact af2.mp q
theorem Oz {CX:CXT}{P:Program}{w:World}{K:PySem.W.Frag}{mg:Str->Option Value}{base:Heap}{N ps:List Str}{qual:Str}{scope:Scope}{f:Addr}{cd:Value}{A:Around}{outer:List Env}{s s1:Shared}{H:Hp}{E:XK}{us:List Value}{vs:List V}
  (S:aD N ps scope)(hd:A.handled=none)(e0:aaR P w K mg base A outer s H)(hl:vs.length=ps.length)(r:Vals vs us)
  (x:InCallC s s.heap.objs.size (bindL (envOfC qual scope s.heap.objs.size f cd).kindOf (ps.zip us) fun _=>none) (cellsFrom (s.heap.objs.size+1) scope.names []) (bindC (envOfC qual scope s.heap.objs.size f cd).kindOf (ps.zip us) fun _=>none) s1):
  Inv (Qe CX P w K mg base N qual scope f cd A outer s H E) [] (start N vs) H s1:=by
 have hpl:ps.length<=N.length:=by have:=congrArg List.length S.pre;rw [ae0] at this;omega
 obtain ⟨h1,tk,rfl,hk⟩:=x.done
 have noA:∀ b:Addr,b ∉ (Qe CX P w K mg base N qual scope f cd A outer s H E).ex:=fun b z=>absurd (show b∈([]:List Addr) from z) (by simp)
 refine ⟨⟨e0.mod,S.kind,rfl,rfl,aeL _,fun y z c h1 h2=>?_,fun y hy=>?_,fun y c _ h=>?_,fun _=>hd,Around.frames_deeper e0.frames,.inr ⟨rfl,rfl⟩,fun b z=>absurd z (noA b),e0.bs,e0.bsz,fun b _ _=>noA b,fun b z=>absurd z (noA b),e0.Ka,e0.frf⟩,
  rfl,e0.bare,Un.kept hk,⟨_,x.toInCall.ns,fun i y v h1 h2 h3=>?_⟩,fun y c h=>⟨_,x.cell y c h⟩,e0.hok.fresh (aeL _),fun y c h=>?_,fun p hp=>absurd (show p∈([]:List (Addr × Obj)) from hp) (by simp),e0.hok.kept hk,?_⟩
 ·exact name_of_addr x.apart (afm h1) (afm h2)
 ·have hy:scope.names.lookup y=some .cell\/scope.names.lookup y=some .free:=hy
  rcases hy with hy| hy
  ·exact Km hy
  ·exact absurd rfl (S.nofree _ (afm hy))
 ·exact Nat.le_of_lt (x.above y c (afm h))
 ·have hi:i<vs.length:=by
   unfold start at h2
   by_cases hi:i<vs.length
   ·exact hi
   ·rw [agq (by simpa using hi)] at h2
    rw [agi] at h2
    split at h2 <;>cases h2
  have ha:vs[i]?=some v:=by
   unfold start at h2
   rw [afO (by simpa using hi),aeQ] at h2
   cases e:vs[i]? with
   | none=>rw [e] at h2;cases h2
   | some a=>rw [e] at h2;cases h2;rfl
  obtain ⟨u,hu,rv⟩:=r.get ha
  have hp:ps[i]?=some y:=by
   rw [<- S.pre,List.getElem?_take_of_lt (by omega)];exact h1
  have ndP:ps.Nodup:=by rw [<- S.pre];exact S.nd.sublist (List.take_sublist _ _)
  refine ⟨u,rv,?_⟩
  rcases S.par y (aeO hp) with k| k
  ·exact .inl ⟨k,G5 ndP hp hu k⟩
  ·obtain ⟨c,e⟩:=Km (n:=s.heap.objs.size+1) k
   refine .inr ⟨.inl k,c,e,?_⟩
   have q:=x.cell y c e
   rw [G8 ndP hp hu (by show scope.names.lookup y≠_;rw [k];decide)] at q
   exact q
 ·exact e0.hok.fresh (Nat.le_of_lt (x.above y c (afm h)))
 ·unfold start
  show _=N.length
  rw [ae1,ac5,afn]
  omega
theorem R9 {CX:CXT}{P:Program}{w:World}{K:PySem.W.Frag}{mg:Str->Option Value}{base:Heap}{k:Nat}{f:Addr}{name qual:Str}{params:Arguments}{body:List Stmt}{scope:Scope}{dV kV doc pm cdv ct oc:Value}{an od:Option Addr}
  {osl:Array (Option Value)}{N ps:List Str}{sp:Sp}(lk:K.lookup f=some ⟨oc,od,.func (fnOf name qual params body scope dV kV doc pm an cdv ct),osl⟩)(hcd:codeIn K cdv qual=true)(S:aD N ps scope)
  (len:∀ vs H Q E,sp vs H Q E->vs.length=ps.length)
  (hbody:∀ (A:Around)(outer:List Env)(s:Shared)(H:Hp)(vs:List V)(Q:VK)(E:XK),sX k (A.deeper (envOfC qual scope s.heap.objs.size f cdv))->sp vs H Q E ->
   ∃ t,PSs (Qe CX P w K mg base N qual scope f cdv A outer s H E) body t/\t { nx:=fun _ H'=>Q .non H',rt:=Q } (start N vs) H):
  Hs P w K mg base CX (k+1) f (fnOf name qual params body scope dV kV doc pm an cdv ct) ps sp:=by
 refine ⟨len,fun A outer s H args us vs Q E hr e0 hb r hsp=>?_⟩
 have hl:=len _ _ _ _ hsp
 have KX:K.In s.heap:=e0.mod.kin.keeps fun b o e=>(e0.bs b o e).1
 have lim:s.heap.NoLimit:=e0.mod.nolimit.keeps fun b o e=>(e0.bs b o e).1
 have hkind:∀ y∈ps.zip us,scope.names.lookup y.1=some .local\/(scope.names.lookup y.1=some .cell/\((cellsFrom (s.heap.objs.size+1) scope.names []).lookup y.1).isSome=true):=fun ⟨n,v⟩ hy=>by
  rcases S.par n (List.of_mem_zip hy).1 with q| q
  ·exact .inl q
  ·exact .inr ⟨q,PySem.W.cellsFrom_some _ _ _ (.inl q)⟩
 refine codeAny_call_function hr.depth (KX _ _ lk) rfl S.co S.gen rfl (PySem.W.codeRec_of KX hcd) (hb _ _ _ _ ?_)
 refine wpAny_newFunctionEnv_cells S.kind hkind fun env he s1 x=>?_
 subst he
 refine ⟨lim.keeps x.toInCall.keep,codeAny_func ?_⟩
 obtain ⟨t,ht,hq⟩:=hbody A outer s H vs Q E (hr.deeper _) hsp
 have I:Inv (Qe CX P w K mg base N qual scope f cdv A outer s H E) [] (start N vs) H s1:=Oz S hr.hd e0 hl r x
 refine wpAny_mono (ht [] s1 (start N vs) H _ I hq) (fun fl s' hs=>?_) fun e s' hs=>hs
 have fin:∀ {σ':St}{H':Hp}{v:V}{u:Value},Inv (Qe CX P w K mg base N qual scope f cdv A outer s H E) [] σ' H' s'->RelV v u->Q v H'->CE outer P w H s Q u s' :=
  fun {σ' H' v u} J rv q=>⟨v,H',J.os,J.bare,J.base,J.hok,rv,q⟩
 cases fl with
 | ret u =>
  obtain ⟨v,σ',H',J,rv,q⟩:=hs
  exact fin J rv q
 | next =>
  obtain ⟨σ',H',J,q⟩:=hs
  exact fin (v:=V.non) (u:=Value.none) J rfl q
 | brk =>
  obtain ⟨_,_,_,q⟩:=hs
  exact False.elim q
 | cont =>
  obtain ⟨_,_,_,q⟩:=hs
  exact False.elim q
section
variable {X:Cx}{x:Str}{p pos:Pos}{e:Expr}{es:List Expr}{t:TA}{id T:String}{r:List V->Hp->VK->Prop}
def tCB (r:List V->Hp->VK->Prop)(t:TA):TE:=fun σ H Q=>t σ H fun vs H1=>r vs H1 Q
theorem aB (hc:vR X (.builtin id) r)(hg:Gl X x)(hm:X.mg x=none)(hv:bootBuiltins x=some (.builtin id))(ha:PA X (e::es) t)(hn:x≠"__name__":=by decide)(hdb:(x ==("__debug__":Str))=false:=by decide)
  (he:starEach (e::es) X.env=(false,eval e X.env)::starEach es X.env:=by rfl)(hpl:(backTo pos (starEach es X.env)).any (·.1)=false:=by rfl):PE X (.Call (.Name x p) (e::es) [] pos) (tCB r t):=by
 intro pins s σ H Q I h;refine wpAny_Call_Name_kw (mF I hg hm hv ?_ hn hdb);exact PyProof.Rows.callWith_builtin1 (thn (ha pos pins s σ H _ I h) fun us s1 ⟨vs,H1,I1,r1,q1⟩=>hc pins s1 σ H1 vs us Q I1 r1 q1) he hpl
theorem bW (hc:vR X (.type T) r)(hg:Gl X x)(hm:X.mg x=none)(hv:bootBuiltins x=some (.type T))(ha:PA X (e::es) t)(hn:x≠"__name__":=by decide)(hdb:(x ==("__debug__":Str))=false:=by decide)
  (he:starEach (e::es) X.env=(false,eval e X.env)::starEach es X.env:=by rfl)(hpl:(backTo pos (starEach es X.env)).any (·.1)=false:=by rfl):PE X (.Call (.Name x p) (e::es) [] pos) (tCB r t):=by
 intro pins s σ H Q I h;refine wpAny_Call_Name_kw (mF I hg hm hv ?_ hn hdb);exact afp (thn (ha pos pins s σ H _ I h) fun us s1 ⟨vs,H1,I1,r1,q1⟩=>hc pins s1 σ H1 vs us Q I1 r1 q1) he hpl
end
end L2
namespace HT
open PySem PyProof.Rows
def lexLt:List Int->List Int->Bool
 | [],[]=>false
 | [],_::_=>true
 | _::_,[]=>false
 | x::xs,y::ys=>if x=y then lexLt xs ys else decide (x<y)
theorem nW (x y:Int)(xs ys:List Int):lexLt (x::xs) (y::ys)=if x=y then lexLt xs ys else decide (x<y):=rfl
theorem wF:lexLt [] []=false:=rfl
section
open PySem.SeqAt
open PySem.AutoSeq1 (wpAny_loadPart')
open PySem.MeetsSeq PySem.MeetsSeq2 PySem.MeetsSeq3
end
section
variable {prog:Program}{w:World}{A:Around}{E:Value->Shared->Prop}{s:Shared}
def sIx (n d:Nat):Option Int->Nat
 | none=>d
 | some v=>if v<0 then (v+(n:Int)).toNat else min v.toNat n
theorem QV (n d:Nat):sIx n d none=d:=rfl
theorem DG (n d k:Nat):sIx n d (some (k:Int))=min k n:=by
 show (if (k:Int)<0 then ((k:Int)+(n:Int)).toNat else min (k:Int).toNat n)=min k n;rw [if_neg (by omega),aeT]
end
end HT
namespace L2
open PySem PySem.Spec PyProof.Rows
abbrev TO:=St->Hp->(Option Int->Hp->Prop)->Prop
def PO (X:Cx)(e:Option Expr)(t:TO):Prop:=
 ∀ (pins:List (Addr × Obj))(s:Shared)(σ:St)(H:Hp)(Q:Option Int->Hp->Prop),Inv X pins σ H s->t σ H Q ->
  wpAny (model X.prog X.w) X.A (evalPart e X.env) (fun u s'=>∃ o H',Inv X pins σ H' s'/\IsPart u o/\Q o H') X.xe s
def ZC:TO:=fun _ H Q=>Q none H
def adh (t:TE):TO:=fun σ H Q=>t σ H fun x H1=>∃ i,x=.int i/\Q (some i) H1
theorem intsAre_of {ns:List Int}:∀ {us:List Value},Vals (ns.map V.int) us->IntsAre us ns:=by
 induction ns with
 | nil=>intro us r;rw [agb] at r;cases r;exact .nil
 | cons n ns ih =>
  intro us r;rw [afg] at r;cases r with
  | cons r1 r2 =>
   obtain ⟨t,e⟩:=r1;subst e;exact .cons n t (ih r2)
section
variable {X:Cx}{e:Expr}{te:TE}{lo hi:Option Expr}{tl th:TO}{pos p2:Pos}
theorem zU:PO X none ZC:=by
 intro pins s σ H Q I h;rw [evalPart_none];exact wpAny_pure ⟨none,H,I,.none,h⟩
theorem uU (h:PE X e te):PO X (some e) (adh te):=by
 intro pins s σ H Q I hw;rw [evalPart_some];refine thn (h pins s σ H _ I hw) fun u s1 ⟨x,H1,I1,r1,q1⟩=>?_;obtain ⟨i,rfl,q⟩:=q1;obtain ⟨t,rfl⟩:=r1;exact ⟨some i,H1,I1,.int i t,q⟩
def SlR (X:Cx)(r:V->Option Int->Option Int->Hp->VK->Prop):Prop:=
 ∀ (pins:List (Addr × Obj))(s:Shared)(σ:St)(H:Hp)(x:V)(v vl vu:Value)(lo hi:Option Int)(sl:Addr)(Q:VK),Inv X pins σ H s->RelV x v->s.heap.IsSliceOf sl vl vu .none->IsPart vl lo->IsPart vu hi->r x lo hi H Q ->
  ∃ T id,typeLookup (.type T) "__getitem__"=pure (some (.builtin id))/\s.TypeIs v T/\wpAny (model X.prog X.w) X.A (getItem v (.ref sl)) (EP X pins σ Q) X.xe s
def tSl (r:V->Option Int->Option Int->Hp->VK->Prop)(te:TE)(tl th:TO):TE:=fun σ H Q=>te σ H fun x H1=>tl σ H1 fun l H2=>th σ H2 fun u H3=>r x l u H3 Q
theorem tY {r:V->Option Int->Option Int->Hp->VK->Prop}(hr:SlR X r)(he:PE X e te)(hl:PO X lo tl)(hu:PO X hi th):PE X (.Subscript e (.Slice lo hi none p2) pos) (tSl r te tl th):=by
 intro pins s σ H Q I h;refine Subscript_ (thn (he pins s σ H _ I h) fun v s1 ⟨x,H1,I1,r1,q1⟩=>?_);refine wpAny_Slice (thn (hl pins s1 σ H1 _ I1 q1) fun vl s2 ⟨l,H2,I2,pl,q2⟩=>thn (hu pins s2 σ H2 _ I2 q2) fun vu s3 ⟨u,H3,I3,pu,q3⟩=>?_);rw [evalPart_none];refine wpAny_pure ?_;have I4:Inv X pins σ H3 { s3 with heap:=s3.heap.push { cls:=.type "slice",data:=.fields #[vl,vu,.none] } }:=I3.kept (t':=s3.toks) fun b ob q=>aeP _ q;obtain ⟨T,id,hT,ht,hg⟩:=hr pins { s3 with heap:=s3.heap.push { cls:=.type "slice",data:=.fields #[vl,vu,.none] } } σ H3 x v vl vu l u s3.heap.objs.size Q I4 r1 (Heap.IsSliceOf.new ..) pl pu q3;show wpAny (model X.prog X.w) X.A (subscriptTail e (.Slice lo hi none p2) v (.ref s3.heap.objs.size)) (EP X pins σ Q) X.xe { s3 with heap:=s3.heap.push { cls:=.type "slice",data:=.fields #[vl,vu,.none] } };exact tail_any (ops:=[.ref s3.heap.objs.size,v]) ht hT hg (by with_unfolding_all rfl)
def GP (xs:List V)(lo hi:Option Int):List V:=(xs.drop (HT.sIx xs.length 0 lo)).take (HT.sIx xs.length xs.length hi - HT.sIx xs.length 0 lo)
theorem Jc (xs:List V)(lo hi:Option Int):(GP xs lo hi).length<=xs.length:=by
 unfold GP;rw [ae0,agc];omega
end
def ixN (n:Nat)(i:Int):Option Nat:=if 0<=i then (if i<n then some i.toNat else none) else if -(n:Int)<=i then some (i+n).toNat else none
def atI {α:Type}(xs:List α)(i:Int):Option α:=(ixN xs.length i).bind fun j=>xs[j]?
theorem Ou {n:Nat}{i:Int}{j:Nat}(h:ixN n i=some j):seqIndex? i n=some j/\j<n/\-(n:Int)<=i/\i<n:=by
 unfold ixN at h;by_cases h0:0<=i
 ·rw [if_pos h0] at h;by_cases h1:i<n
  ·rw [if_pos h1] at h;have e:i.toNat=j:=aeY h;exact ⟨by rw [seqIndex_of h0 h1,e],by omega,by omega,h1⟩
  ·rw [if_neg h1] at h;cases h
 ·rw [if_neg h0] at h;by_cases h1:-(n:Int)<=i
  ·rw [if_pos h1] at h;have e:(i+n).toNat=j:=aeY h;exact ⟨by rw [seqIndex_neg (by omega) h1,e],by omega,h1,by omega⟩
  ·rw [if_neg h1] at h;cases h
theorem Qs {α:Type}{xs:List α}{i:Int}{v:α}(h:atI xs i=some v):∃ j,seqIndex? i xs.length=some j/\xs[j]?=some v/\j<xs.length/\-(xs.length:Int)<=i/\i<xs.length:=by
 unfold atI at h;cases e:ixN xs.length i with
 | none=>rw [e] at h;cases h
 | some j =>
  rw [e] at h;obtain ⟨h1,h2,h3,h4⟩:=Ou e;exact ⟨j,h1,h,h2,h3,h4⟩
theorem d9 {α:Type}{xs:List α}{j:Nat}{v:α}(h:xs[j]?=some v):atI xs (j:Int)=some v:=by
 have hj:j<xs.length:=(aeJ.mp h).1;have e:ixN xs.length (j:Int)=some j:=by
  unfold ixN;rw [if_pos (by omega),if_pos (by omega)];simp
 unfold atI;rw [e];exact h
theorem SX {α:Type}(xs:List α)(v:α):atI (xs++[v]) (-1)=some v:=by
 have hl:(xs++[v]).length=xs.length+1:=by simp
 have e:ixN (xs++[v]).length (-1)=some xs.length:=by
  unfold ixN;rw [hl,if_neg (by decide),if_pos (by omega)];congr 1;omega
 unfold atI;rw [e];show (xs++[v])[xs.length]?=some v;simp
def aaO (b:Expr):Prop:=∀ o i,subscripted b false o i=operate [o,i] (getItem o i)
def IxR (X:Cx)(r:R2):Prop:=
 ∀ (value slice:Expr)(pins:List (Addr × Obj))(s:Shared)(σ:St)(H:Hp)(x y:V)(v u:Value)(Q:VK),Inv X pins σ H s->RelV x v->RelV y u->r x y H Q ->
  subscripted slice false v u=operate [v,u] (getItem v u)->wpAny (model X.prog X.w) X.A (subscriptTail value slice v u) (EP X pins σ Q) X.xe s
def MtR (X:Cx)(id:String)(r:V->List V->Hp->VK->Prop):Prop:=
 ∀ (pins:List (Addr × Obj))(s:Shared)(σ:St)(H:Hp)(x:V)(xs:List V)(v:Value)(us:List Value)(Q:VK),Inv X pins σ H s->RelV x v->Vals xs us->r x xs H Q ->
  wpAny (model X.prog X.w) X.A (call (.builtin id) (v::us)) (EP X pins σ Q) X.xe s
inductive kLen (K:PySem.W.Frag)(xs:List V)(H:Hp)(Q:VK):Prop
 | mk (p:Addr)(ys:List V)(_:xs=[.ref p])(_:SqL K H p ys\/SqT K H p ys)(_:Q (.int ys.length) H)
inductive ab3 (K:PySem.W.Frag)(xs:List V)(H:Hp)(Q:VK):Prop
 | mk (p:Addr)(ys:List V)(_:xs=[.ref p])(_:SqL K H p ys\/SqT K H p ys)(_:∀ l,H l=none->Q (.ref l) (upd H l (.lst ys)))
section
variable {X:Cx}{a b:Expr}{ta tb:TE}{pos:Pos}
theorem bD {r:R2}(hr:IxR X r)(ha:PE X a ta)(hb:PE X b tb)(hs:aaO b):PE X (.Subscript a b pos) (tOp r ta tb):=by
 intro pins s σ H Q I h;exact Subscript_ (ad7 ha hb I h fun v u s2 x y H2 I2 rx ry q=>hr a b pins s2 σ H2 x y v u Q I2 rx ry q (hs _ _))
inductive aek (K:PySem.W.Frag)(x y:V)(H:Hp)(Q:VK):Prop
 | mk (p:Addr)(xs:List V)(i:Int)(v:V)(_:x=.ref p)(_:y=.int i)(_:SqL K H p xs)(_:atI xs i=some v)(_:Q v H)
inductive rIxT (K:PySem.W.Frag)(x y:V)(H:Hp)(Q:VK):Prop
 | mk (p:Addr)(xs:List V)(i:Int)(v:V)(_:x=.ref p)(_:y=.int i)(_:SqT K H p xs)(_:atI xs i=some v)(_:Q v H)
theorem aM:IxR X (aek X.K):=by
 intro value slice pins s σ H x y v u Q I rx ry h hs;obtain ⟨p,xs,i,z,rfl,rfl,hq,he,q⟩:=h;cases rx;obtain ⟨t,rfl⟩:=ry;obtain ⟨its,r,pl,hz⟩:=I.list hq;obtain ⟨j,h1,h2,h3,h4,h5⟩:=Qs he;obtain ⟨w,ew,rw'⟩:=r.get h2;have hl:=r.length;have hn:=wD;have fin:EP X pins σ Q w s:=⟨z,H,I,rw',q⟩;by_cases h0:0<=i
 ·have hj:i.toNat=j:=by
   rw [seqIndex_of h0 h5] at h1;exact aeY h1
  exact item_listR pl.isList h0 (by omega) (by rw [hj];simpa using ew) fin hs
 ·have hj:(i+(its.toArray.size:Int)).toNat=j:=by
   rw [seqIndex_neg (by omega) h4] at h1;rw [aeX,<- hl];exact aeY h1
  exact subscriptTail_builtinR (x:=w) pl.isList.typeIs slot_list_getitem.lookup
   (wpAny_getItem_list_neg (Q:=fun r s'=>r=w/\EP X pins σ Q r s') pl.isList (by omega) (by rw [aeX]<;>omega) (by omega) (by rw [hj];simpa using ew) ⟨rfl,fin⟩) hs
theorem yL:IxR X (rIxT X.K):=by
 intro value slice pins s σ H x y v u Q I rx ry h hs;obtain ⟨p,xs,i,z,rfl,rfl,hq,he,q⟩:=h;cases rx;obtain ⟨t,rfl⟩:=ry;obtain ⟨its,r,pl,hz⟩:=I.tuple hq;obtain ⟨j,h1,h2,h3,h4,h5⟩:=Qs he;obtain ⟨w,ew,rw'⟩:=r.get h2;have hl:=r.length;have hn:=wD;have fin:EP X pins σ Q w s:=⟨z,H,I,rw',q⟩;exact subscriptTail_builtinR (x:=w) pl.typeIs slot_tuple_getitem.lookup
  (getItem_tuple (j:=j) (Q:=fun r s'=>r=w/\EP X pins σ Q r s') pl (by omega) (by omega) (by rw [aeX,<- hl];exact h1) (by simpa using ew) ⟨rfl,fin⟩) hs
theorem La (its:List Value)(n j:Nat)(u:Value):Obj.mapSeq (·.setIfInBounds j u) { cls:=.type "list",data:=.seq its.toArray n }={ cls:=.type "list",data:=.seq (its.set j u).toArray n }:=by
 simp [Obj.mapSeq]
theorem Inv.lst {pins:List (Addr × Obj)}{σ:St}{H:Hp}{s:Shared}{p:Addr}{xs:List V}(I:Inv X pins σ H s)(h:H p=some (.lst xs)):
  ∃ (its:List Value)(n:Nat),Vals xs its/\s.heap.get? p=some { cls:=.type "list",data:=.seq its.toArray n }/\xs.length<=sizeLine:=by
 obtain ⟨z,its,n,r,e⟩:=I.hok p _ h;exact ⟨its,n,r,e,z⟩
theorem Inv.abT {pins:List (Addr × Obj)}{σ:St}{H:Hp}{s:Shared}{p:Addr}{xs ys:List V}{its its':List Value}{n n':Nat}{f:Obj->Obj}(I:Inv X pins σ H s)(h:H p=some (.lst xs))
  (ho:s.heap.get? p=some { cls:=.type "list",data:=.seq its.toArray n })(hf:f { cls:=.type "list",data:=.seq its.toArray n }={ cls:=.type "list",data:=.seq its'.toArray n' })(r:Vals ys its')(hz:ys.length<=sizeLine)(t:Nat):
  Inv X pins σ (upd H p (.lst ys)) { s with heap:=s.heap.update p f,toks:=t }:=by
 have e:(s.heap.update p f).get? p=some { cls:=.type "list",data:=.seq its'.toArray n' }:=by
  rw [afW f ho (by rw [hf]<;>rfl),hf]
 refine I.write (x:=p) (e:=p) (by rw [h];trivial) (.inl rfl) (fun b u hb q=>(aft _ _ (Ne.symm hb)).trans q) ⟨_,e⟩ ?_
 exact ⟨hz,its',n',r,e⟩
inductive abk (o i v:V)(H:Hp)(Q:Hp->Prop):Prop
 | mk (p:Addr)(xs:List V)(k:Int)(j:Nat)(_:o=.ref p)(_:i=.int k)(_:H p=some (.lst xs))(_:ixN xs.length k=some j)(_:Q (upd H p (.lst (xs.set j v))))
theorem set_list:aea X abk:=by
 intro pins s σ H o i v ov iv u Q I ro ri rv h;obtain ⟨p,xs,k,j,rfl,rfl,hp,hj,q⟩:=h;cases ro;obtain ⟨t,rfl⟩:=ri;obtain ⟨its,n,r,ho,hz⟩:=I.lst hp;obtain ⟨h1,h2,h3,h4⟩:=Ou hj;have hl:=r.length;have hn:=wD;have I':Inv X pins σ (upd H p (.lst (xs.set j v))) { s with heap:=s.heap.update p (Obj.mapSeq (·.setIfInBounds j u)) }:=
  I.abT hp ho (La its n j u) (r.set rv j) (by rw [afq];exact hz) s.toks
 by_cases h0:0<=k
 ·have hk:k.toNat=j:=by
   rw [seqIndex_of h0 h4] at h1;exact aeY h1
  exact PySem.W.ki_setAt ho h0 (by omega) (by rw [aeX,<- hl];exact h4) (by rw [hk];exact ⟨_,I',q⟩)
 ·have hk:(k+(its.toArray.size:Int)).toNat=j:=by
   rw [seqIndex_neg (by omega) h3] at h1;rw [aeX,<- hl];exact aeY h1
  exact PySem.W.ki_setBack ho (by omega) (by rw [aeX,<- hl];exact h3) (by omega) (by rw [hk];exact ⟨_,I',q⟩)
theorem Gb (lo hi:Option Int)(n:Nat):(sliceBounds lo hi none n).1=((HT.sIx n 0 lo:Nat):Int)/\(sliceBounds lo hi none n).2.1=((HT.sIx n n hi:Nat):Int)/\(sliceBounds lo hi none n).2.2=1:=by
 refine ⟨?_,?_,rfl⟩
 ·cases lo with
  | none=>simp [sliceBounds,HT.sIx]
  | some i =>
   simp only [sliceBounds,HT.sIx,Option.getD_none,show (1:Int)>0 by decide,if_true];by_cases h:i<0
   ·simp only [h,if_true]<;>omega
   ·simp only [h,if_false]<;>omega
 ·cases hi with
  | none=>simp [sliceBounds,HT.sIx]
  | some i =>
   simp only [sliceBounds,HT.sIx,Option.getD_none,show (1:Int)>0 by decide,if_true];by_cases h:i<0
   ·simp only [h,if_true]<;>omega
   ·simp only [h,if_false]<;>omega
theorem Dq (its:List Value)(lo hi:Option Int):slicePick its.toArray lo hi none=((its.drop (HT.sIx its.length 0 lo)).take (HT.sIx its.length its.length hi - HT.sIx its.length 0 lo)).toArray:=by
 obtain ⟨h1,h2,h3⟩:=Gb lo hi its.toArray.size;unfold slicePick;rw [h1,h2,h3];simp only [sliceRange_one,pick_run,aeX]<;>rfl
def rSlL (K:PySem.W.Frag):V->Option Int->Option Int->Hp->VK->Prop:=fun x lo hi H Q=>∃ a xs,x=.ref a/\SqL K H a xs/\∀ p,H p=none->Q (.ref p) (upd H p (.lst (GP xs lo hi)))
theorem xr:SlR X (rSlL X.K):=by
 intro pins s σ H x v vl vu lo hi sl Q I rx hs pl pu h;obtain ⟨a,xs,rfl,hx,q⟩:=h;cases rx;obtain ⟨its,r,ht,hz⟩:=I.list hx;have hlen:=r.length;refine ⟨"list",_,slot_list_getitem.lookup,ht.isList.typeIs,?_⟩;refine wpAny_getItem_list_slice ht.isList hs pl pu .none (by simp) ?_ (by rw [aeX]<;>omega)
 rw [Dq,<- hlen];refine ⟨.ref s.heap.objs.size,_,I.laid (t':=s.toks) (o:=.lst (GP xs lo hi)) (fun b ob q=>aeP _ q) (aeL _) ?_,rfl,q _ (I.hok.fresh (aeL _))⟩;exact ⟨afB (Jc xs lo hi) hz,_,0,(r.drop (HT.sIx xs.length 0 lo)).take (HT.sIx xs.length xs.length hi - HT.sIx xs.length 0 lo),aeW _ rfl⟩
def Eu:V->Bool
 | .non=>true
 | .bl _=>true
 | .int _=>true
 | .str _=>true
 | _=>false
def eqV:V->V->Bool
 | .non,.non=>true
 | .bl a,.bl b=>a ==b
 | .bl a,.int b=>(if a then 1 else 0)==b
 | .int a,.bl b=>a ==(if b then 1 else 0)
 | .int a,.int b=>a ==b
 | .str a,.str b=>a ==b
 | _,_=>false
theorem acB {A:Around}{s:Shared}{y x:V}{u v:Value}(ry:RelV y u)(rx:RelV x v)(fy:Eu y=true)(fx:Eu x=true):SeqAt.EqAt A s u v (eqV y x):=by
 cases y with
 | non =>
  cases ry;cases x with
  | non=>cases rx;exact SeqAt.EqAt.same _
  | bl b=>cases rx;exact SeqAt.EqAt.none_bool b
  | int b=>obtain ⟨t,rfl⟩:=rx;exact SeqAt.EqAt.none_int b t
  | str b=>obtain ⟨t,rfl⟩:=rx;exact SeqAt.EqAt.none_str b t
  | _=>exact absurd (show false=true from fx) aeR
 | bl a =>
  cases ry;cases x with
  | non=>cases rx;exact SeqAt.EqAt.bool_none a
  | bl b=>cases rx;exact SeqAt.EqAt.bool_bool a b
  | int b=>obtain ⟨t,rfl⟩:=rx;exact SeqAt.EqAt.bool_int a b t
  | str b=>obtain ⟨t,rfl⟩:=rx;exact SeqAt.EqAt.bool_str a b t
  | _=>exact absurd (show false=true from fx) aeR
 | int a =>
  obtain ⟨t',rfl⟩:=ry;cases x with
  | non=>cases rx;exact SeqAt.EqAt.int_none a t'
  | bl b=>cases rx;exact SeqAt.EqAt.int_bool a t' b
  | int b=>obtain ⟨t,rfl⟩:=rx;exact SeqAt.EqAt.int_int a t' b t
  | str b=>obtain ⟨t,rfl⟩:=rx;exact SeqAt.EqAt.int_str a t' b t
  | _=>exact absurd (show false=true from fx) aeR
 | str a =>
  obtain ⟨t',rfl⟩:=ry;cases x with
  | non=>cases rx;exact SeqAt.EqAt.str_none a t'
  | bl b=>cases rx;exact SeqAt.EqAt.str_bool a t' b
  | int b=>obtain ⟨t,rfl⟩:=rx;exact SeqAt.EqAt.str_int a t' b t
  | str b=>obtain ⟨t,rfl⟩:=rx;exact SeqAt.EqAt.str_str a t' b t
  | _=>exact absurd (show false=true from fx) aeR
 | _=>exact absurd (show false=true from fy) aeR
def eqU (x:V)(u:Value):Bool:=match u with
 | .none=>eqV .non x
 | .bool b=>eqV (.bl b) x
 | .int i _=>eqV (.int i) x
 | .str z _=>eqV (.str z) x
 | _=>false
theorem Y7 {x y:V}{u:Value}(r:RelV y u)(f:Eu y=true):eqU x u=eqV y x:=by
 cases y with
 | non=>cases r;rfl
 | bl b=>cases r;rfl
 | int i=>obtain ⟨t,rfl⟩:=r;rfl
 | str z=>obtain ⟨t,rfl⟩:=r;rfl
 | _=>exact absurd (show false=true from f) aeR
theorem Bf {x:V}:∀ {xs:List V}{us:List Value},Vals xs us->xs.all Eu=true->us.any (eqU x)=xs.any fun y=>eqV y x
 | _,_,.nil,_=>rfl
 | y::xs,u::us,.cons r t,f=>by
  rw [List.all_cons,afi] at f;rw [agz,agz,Y7 r f.1,Bf t f.2]
theorem wC {A:Around}{s:Shared}{x:V}{v:Value}(rx:RelV x v)(fx:Eu x=true):∀ {xs:List V}{us:List Value},Vals xs us->xs.all Eu=true->∀ u∈us,SeqAt.EqAt A s u v (eqU x u)
 | _,_,.nil,_=>fun u hu=>by cases hu
 | y::xs,u::us,.cons r t,f=>fun u' hu=>by
  rw [List.all_cons,afi] at f;rcases aeS.mp hu with rfl| hu
  ·rw [Y7 r f.1];exact acB r rx f.1 fx
  ·exact wC rx fx t f.2 u' hu
def inV (x:V)(xs:List V):Bool:=xs.any fun y=>eqV y x
def rIn (K:PySem.W.Frag)(neg:Bool):R2:=fun x y H Q=>∃ p xs,y=.ref p/\(SqL K H p xs\/SqT K H p xs)/\Eu x=true/\xs.all Eu=true/\Q (.bl (if neg then !inV x xs else inV x xs)) H
theorem Gu:OpR X (compareOp .In) (rIn X.K false):=by
 intro pins s σ H x y v u Q I rx ry h;obtain ⟨p,xs,rfl,hq,fx,fs,q⟩:=h;cases ry;rcases hq with hq| hq
 ·obtain ⟨its,r,pl,hz⟩:=I.list hq;refine SeqAt.in_listAt (eqU x) pl.isList (fun w hw=>wC rx fx r fs w (by simpa using hw)) ⟨.bl _,H,I,rfl,?_⟩;rw [show its.toArray.any (eqU x)=its.any (eqU x) by simp,Bf r fs];exact q
 ·obtain ⟨its,r,pl,hz⟩:=I.tuple hq;refine SeqAt.in_tupleAt (eqU x) pl (fun w hw=>wC rx fx r fs w (by simpa using hw)) ⟨.bl _,H,I,rfl,?_⟩;rw [show its.toArray.any (eqU x)=its.any (eqU x) by simp,Bf r fs];exact q
theorem qQ:OpR X (compareOp .NotIn) (rIn X.K true):=by
 intro pins s σ H x y v u Q I rx ry h;obtain ⟨p,xs,rfl,hq,fx,fs,q⟩:=h;cases ry;rcases hq with hq| hq
 ·obtain ⟨its,r,pl,hz⟩:=I.list hq;refine SeqAt.notIn_listAt (eqU x) pl.isList (fun w hw=>wC rx fx r fs w (by simpa using hw)) ⟨.bl _,H,I,rfl,?_⟩;rw [show its.toArray.any (eqU x)=its.any (eqU x) by simp,Bf r fs];exact q
 ·obtain ⟨its,r,pl,hz⟩:=I.tuple hq;refine SeqAt.notIn_tupleAt (eqU x) pl (fun w hw=>wC rx fx r fs w (by simpa using hw)) ⟨.bl _,H,I,rfl,?_⟩;rw [show its.toArray.any (eqU x)=its.any (eqU x) by simp,Bf r fs];exact q
theorem aC:vR X (.builtin "len") (kLen X.K):=by
 intro pins s σ H xs us Q I r h;obtain ⟨p,ys,rfl,hq,q⟩:=h;obtain ⟨u,rfl,rx⟩:=vals1 r;cases rx;have hn:=wD;rcases hq with hq| hq
 ·obtain ⟨its,r',pl,hz⟩:=I.list hq;have hlen:=r'.length;exact Calls.call_len_list pl.isList (by simp only [aeX]<;>omega) ⟨.int ys.length,H,I.tok _,⟨s.toks+1,by rw [aeX,hlen]⟩,q⟩
 ·obtain ⟨its,r',pl,hz⟩:=I.tuple hq;have hlen:=r'.length;exact len_tuple pl (by simp only [aeX]<;>omega) ⟨.int ys.length,H,I.tok _,⟨s.toks+1,by rw [aeX,hlen]⟩,q⟩
theorem GX:vR X (.builtin "len") (fun xs H Q=>∃ z,xs=[.str z]/\z.length<=sizeLine/\Q (.int z.length) H):=by
 intro pins s σ H xs us Q I r h;obtain ⟨z,rfl,hz,q⟩:=h;obtain ⟨u,rfl,t,rfl⟩:=vals1 r;have hn:=wD;exact len_str (by omega) ⟨.int z.length,H,I.tok _,⟨_,rfl⟩,q⟩
theorem bf:vR X (.type "list") (ab3 X.K):=by
 intro pins s σ H xs us Q I r h;obtain ⟨p,ys,rfl,hq,q⟩:=h;obtain ⟨u,rfl,rx⟩:=vals1 r;cases rx;have fin:∀ (its:List Value),Vals ys its->ys.length<=sizeLine->∀ (h':Heap)(c':Nat),(∀ b o',s.heap.get? b=some o'->h'.get? b=some o') ->
   h'.get? s.heap.objs.size=some { cls:=.type "list",dict:=none,data:=.seq its.toArray c',slots:=#[] }->EP X pins σ Q (.ref s.heap.objs.size) { s with heap:=h' }:=fun its r' hz h' c' kp e =>
  ⟨.ref s.heap.objs.size,_,I.laid (t':=s.toks) kp (aeL _) (show gq X.prog X.w _ h' _ (.lst ys) from ⟨hz,its,c',r',e⟩),rfl,q _ (I.hok.fresh (aeL _))⟩
 rcases hq with hq| hq
 ·obtain ⟨its,r',pl,hz⟩:=I.list hq;have hlen:=r'.length;obtain ⟨o,ho,hc,n,hd⟩:=pl.isList;exact call_list_seq p (.inl rfl) ho hc hd (fun h' c' kp e=>fin its r' hz h' c' kp e) (by simp only [aeX]<;>omega)
 ·obtain ⟨its,r',pl,hz⟩:=I.tuple hq;have hlen:=r'.length;obtain ⟨o,ho,hc,n,hd⟩:=pl;exact call_list_seq p (.inr rfl) ho hc hd (fun h' c' kp e=>fin its r' hz h' c' kp e) (by simp only [aeX]<;>omega)
def tyV (K:PySem.W.Frag)(T:String)(x:V)(H:Hp):Prop:=match x with
 | .str _=>T="str"
 | .int _=>T="int"
 | .ref p=>(T="list"/\∃ xs,SqL K H p xs)\/(T="tuple"/\∃ o,K.lookup p=some o/\o.cls=.type "tuple"/\o.dict=none) \/
   (T="dict"/\((∃ kvs,H p=some (.dK kvs))\/∃ kvs,H p=some (.dT kvs)))\/(T="set"/\∃ S n,H p=some (.set S n))
 | _=>False
theorem aa0 {pins:List (Addr × Obj)}{σ:St}{H:Hp}{s:Shared}{T:String}{x:V}{v:Value}(I:Inv X pins σ H s)(r:RelV x v)(ty:tyV X.K T x H):
  s.TypeIs v T/\∀ a,v=.ref a->∃ ob,s.heap.get? a=some ob/\ob.dict=none:=by
 cases x with
 | str z =>
  obtain ⟨t,rfl⟩:=r;cases (show T="str" from ty);exact ⟨typeIs_str s z t,fun _ e=>nomatch e⟩
 | int i =>
  obtain ⟨t,rfl⟩:=r;cases (show T="int" from ty);exact ⟨typeIs_int s i t,fun _ e=>nomatch e⟩
 | ref p =>
  cases r;rcases ty with ⟨rfl,xs,hq⟩ | ⟨rfl,o,hk,hc,hd⟩ | ⟨rfl,hk⟩ | ⟨rfl,S,n,hk⟩
  ·obtain ⟨its,_,pl,_⟩:=I.list hq;refine ⟨pl.isList.typeIs,fun a e=>?_⟩;cases e;obtain ⟨o,n,e,c,hd,_⟩:=pl;exact ⟨o,e,hd⟩
  ·refine ⟨⟨o,I.kIn p o hk,hc⟩,fun a e=>?_⟩;cases e;exact ⟨o,I.kIn _ o hk,hd⟩
  ·have z:∃ o,s.heap.get? p=some o/\o.ExactDict:=by
    rcases hk with ⟨kvs,hk⟩ | ⟨kvs,hk⟩
    ·obtain ⟨_,_,_,_,o,_,_,e,ex,_⟩:=I.hok p _ hk;exact ⟨o,e,ex⟩
    ·obtain ⟨_,_,_,_,o,_,_,e,ex,_⟩:=I.hok p _ hk;exact ⟨o,e,ex⟩
   obtain ⟨o,e,ex⟩:=z;refine ⟨⟨o,e,ex.1⟩,fun a e2=>?_⟩;cases e2;exact ⟨o,e,ex.2.1⟩
  ·obtain ⟨o,_,_,_,e,ex,_⟩:=I.hok p _ hk;refine ⟨⟨o,e,ex.1⟩,fun a e2=>?_⟩;cases e2;exact ⟨o,e,ex.2.1⟩
 | _=>exact False.elim ty
def tBM (K:PySem.W.Frag)(T:String)(r:V->List V->Hp->VK->Prop)(to:TE)(t:TA):TE:=fun σ H Q=>to σ H fun x H1=>tyV K T x H1/\t σ H1 fun xs H2=>r x xs H2 Q
variable {o e:Expr}{es:List Expr}{to:TE}{t:TA}{name:Str}{apos cpos:Pos}{T id:String}{r:V->List V->Hp->VK->Prop}
theorem m7 (pa:PlainAttrs T)(slot:Slot T name id)(hty:typeOf (.builtin id)=pure (.type "method_descriptor"))(hm:MtR X id r)(ho:PE X o to)(ha:PA X (e::es) t)
  (hbase:attributeBase o name X.env (eval o X.env)=eval o X.env:=by rfl)
  (hfew:((backTo cpos (starEach (e::es) X.env)).all (fun x=>!x.1) && (backToKw cpos (keywordEach [] X.env)).all (fun x=>x.1.isSome)
   && decide ((e::es).length+([]:List Keyword).length+(if ([]:List Keyword).isEmpty then 0 else 1)<30))=true:=by rfl)
  (hline:(apos.endLine ==cpos.line)=true:=by rfl)(hs:starEach (e::es) X.env=(false,eval e X.env)::starEach es X.env:=by rfl)(hplain:(backTo cpos (starEach es X.env)).any (·.1)=false:=by rfl):
  PE X (.Call (.Attribute o name apos) (e::es) [] cpos) (tBM X.K T r to t):=by
 intro pins s σ H Q I h
 refine wpAny_Call_method_late hbase hfew hline rfl (thn (ho pins s σ H _ I h) fun v s1 ⟨x,H1,I1,r1,ty,q1⟩=>?_)
 obtain ⟨h1,h2⟩:=aa0 I1 r1 ty
 refine ⟨T,id,pa,slot,hty,h1,h2,?_⟩
 have hA:=ha cpos pins s1 σ H1 _ I1 q1
 rw [hs] at hA ⊢
 refine Calls.callWith_builtin (by show (false|| (backTo cpos (starEach es X.env)).any (·.1))=false;rw [hplain]<;>rfl) (Calls.evalArgs_plain ?_)
 exact thn hA fun us s2 ⟨vs,H2,I2,r2,q2⟩=>hm pins s2 σ H2 x vs v us Q I2 r1 r2 q2
end
def MtM (X:Cx)(id:String)(r:V->List V->Hp->VK->Prop):Prop:=
 ∀ (pins:List (Addr × Obj))(s:Shared)(σ:St)(H:Hp)(x:V)(xs:List V)(v:Value)(us:List Value)(Q:VK),Inv X pins σ H s->RelV x v->Vals xs us->r x xs H Q ->
  wpAny (model X.prog X.w) X.A (call (.builtin id) (v::us)) (EP X pins σ Q) X.xe s
theorem Vals.one:∀ {x:V}{us:List Value},Vals [x] us->∃ u,us=[u]/\RelV x u
 | _,_,.cons r .nil=>⟨_,rfl,r⟩
theorem Vals.two:∀ {x y:V}{us:List Value},Vals [x,y] us->∃ u v,us=[u,v]/\RelV x u/\RelV y v
 | _,_,_,.cons r (.cons q .nil)=>⟨_,_,rfl,r,q⟩
theorem Vals.rep {xs:List V}{us:List Value}(h:Vals xs us):∀ k:Nat,Vals (List.replicate k xs).flatten (List.replicate k us).flatten
 | 0=>.nil
 | k+1=>by
  rw [afG,afG,af4,af4];exact Vals.append h (Vals.rep h k)
theorem foldl_rep (its:List Value):∀ (k:Nat)(acc:List Value),
  List.foldl (fun x1 x2=>x1++x2) acc.toArray (List.replicate k its.toArray)=(acc++(List.replicate k its).flatten).toArray
 | 0,acc=>by simp
 | k+1,acc=>by
  have e:acc.toArray++its.toArray=(acc++its).toArray:=by simp
  have e2:(acc++its)++(List.replicate k its).flatten=acc++(List.replicate (k+1) its).flatten:=by
   rw [afG,af4,agl]
  rw [<- e2,<- foldl_rep its k (acc++its),<- e,afG,List.foldl_cons]
section
variable {X:Cx}{pins:List (Addr × Obj)}{σ:St}{H:Hp}{s:Shared}{l b:Addr}{xs ys zs:List V}
theorem Inv.aev {its its':List Value}{n:Nat}{f:Array Value->Array Value}{t':Nat}(I:Inv X pins σ H s)(hH:H l=some (.lst xs))
  (e:s.heap.get? l=some { cls:=.type "list",data:=.seq its.toArray n })(hf:f its.toArray=its'.toArray)(hv:Vals ys its')(hz:ys.length<=sizeLine):
  Inv X pins σ (upd H l (.lst ys)) { s with heap:=s.heap.update l (Obj.mapSeq f),toks:=t' }:=by
 have q:=PySem.IsL.update e f
 rw [hf] at q
 refine I.write (x:=l) (e:=l) (by rw [hH];exact trivial) (.inl rfl) (fun b' u hb hu=>(aft s.heap (Obj.mapSeq f) (Ne.symm hb)).trans hu) ⟨_,q⟩ ?_
 exact ⟨hz,its',_,hv,q⟩
theorem Inv.aew {its:List Value}{t':Nat}(I:Inv X pins σ H s)(hv:Vals ys its)(hz:ys.length<=sizeLine):
  Inv X pins σ (upd H s.heap.objs.size (.lst ys)) { s with heap:=s.heap.push { cls:=.type "list",data:=.seq its.toArray },toks:=t' }:=
 I.laid (fun _ _ q=>aeP _ q) (aeL _) ⟨hz,its,0,hv,aeW _ rfl⟩
theorem Inv.fresh (I:Inv X pins σ H s):H s.heap.objs.size=none:=I.hok.fresh (aeL _)
theorem Inv.abU (I:Inv X pins σ H s)(hH:H l=some (.lst xs)):xs.length<=sizeLine/\∃ (its:List Value)(n:Nat),Vals xs its/\xs.length=its.length/\s.heap.get? l=some { cls:=.type "list",data:=.seq its.toArray n }:=by
 obtain ⟨z,its,n,r,e⟩:=I.hok l _ hH;exact ⟨z,its,n,r,r.length,e⟩
theorem Rw {n:Nat}(h:n<=sizeLine):Builtin.List.listTooLong n=false:=by
 unfold Builtin.List.listTooLong;exact decide_eq_false (by omega)
end
section
variable {X:Cx}
inductive ZV (x:V)(vs:List V)(H:Hp)(Q:VK):Prop
 | mk (l:Addr)(xs:List V)(y:V)(_:x=.ref l)(_:vs=[y])(_:H l=some (.lst xs))(_:xs.length<sizeLine)(_:Q .non (upd H l (.lst (xs++[y]))))
theorem bJ:MtM X "list.append" ZV:=by
 intro pins s σ H x vs v us Q I rx rv h;obtain ⟨l,xs,y,rfl,rfl,hH,hz,q⟩:=h;cases rx;obtain ⟨u,rfl,ru⟩:=rv.one;obtain ⟨z,its,n,r,hl,e⟩:=I.abU hH;refine call_meets F.slot_list_append ⟨_,e,rfl⟩ F.entry_list_append (F.args_list_append_2 _ _) (PySem.list_append l its.toArray n u (by rw [aeX];omega)) ⟨e,?_⟩;refine ⟨.non,_,I.aev (its':=its++[u]) hH e (by simp) (r.append (.cons ru .nil)) ?_,rfl,q⟩;rw [ae1,List.length_singleton];omega
inductive rCat (x y:V)(H:Hp)(Q:VK):Prop
 | mk (l b:Addr)(xs zs:List V)(_:x=.ref l)(_:y=.ref b)(_:H l=some (.lst xs))(_:H b=some (.lst zs))(_:xs.length+zs.length<=sizeLine)(_:∀ p,H p=none->Q (.ref p) (upd H p (.lst (xs++zs))))
theorem zY:OpR X (binaryOp .Add) rCat:=by
 intro pins s σ H x y v u Q I rx ry h;obtain ⟨l,b,xs,zs,rfl,rfl,hH,hB,hz,q⟩:=h;cases rx;cases ry;obtain ⟨z,its,n,r,hl,e⟩:=I.abU hH;obtain ⟨z2,its2,n2,r2,hl2,e2⟩:=I.abU hB;refine PySem.P.add_list e e2 ?_ (by rw [aeX,aeX];omega);have ea:its.toArray++its2.toArray=(its++its2).toArray:=by simp
 rw [ea];exact ⟨.ref _,_,I.aew (t':=s.toks) (r.append r2) (by rw [ae1];omega),rfl,q _ I.fresh⟩
def rRep:R2:=fun x y H Q=>∃ l k xs,x=.ref l/\y=.int k/\H l=some (.lst xs)/\-(2 ^ 63)<=k/\k<2 ^ 63/\xs.length*k.toNat<=sizeLine /\
 ∀ p,H p=none->Q (.ref p) (upd H p (.lst (List.replicate k.toNat xs).flatten))
theorem len_rep {α:Type}(xs:List α)(k:Nat):(List.replicate k xs).flatten.length=k*xs.length:=by
 induction k with
 | zero=>simp
 | succ k ih=>rw [afG,af4,ae1,ih,Nat.succ_mul,Nat.add_comm]
theorem yK:OpR X (binaryOp .Mult) rRep:=by
 intro pins s σ H x y v u Q I rx ry h;obtain ⟨l,k,xs,rfl,rfl,hH,h1,h2,hz,q⟩:=h;cases rx;obtain ⟨t,rfl⟩:=ry;obtain ⟨z,its,n,r,hl,e⟩:=I.abU hH;have hlen:its.toArray.size*k.toNat<=sizeLine:=by rw [aeX,<- hl];exact hz
 have hcap:¬ its.toArray.size*k.toNat >(2 ^ 63 - 1) / 8:=by
  have:(sizeLine:Nat)<=(2 ^ 63 - 1) / 8:=by decide
  omega
 have hfit:¬ (!Builtin.List.listFitsIndex k)=true:=by
  rw [fitsIndex_both h1 h2];exact aeR
 have hlong:¬ Builtin.List.listTooLong (its.toArray.size*k.toNat)=true:=by
  rw [Rw hlen];exact aeR
 have hnew:List.foldl (fun x1 x2=>x1++x2) #[] (List.replicate (if its.toArray.isEmpty=true then 0 else k.toNat) its.toArray)=(List.replicate k.toNat its).flatten.toArray:=by
  have f0:∀ m:Nat,List.foldl (fun x1 x2=>x1++x2) #[] (List.replicate m its.toArray)=(List.replicate m its).flatten.toArray:=fun m=>by
   have:=foldl_rep its m [];rw [List.nil_append] at this;exact this
  rw [f0];cases its with
  | nil=>simp
  | cons a r'=>rw [if_neg (by simp)]
 refine wpAny_binaryOp_repeat_ref (T:="list") (U:="int") (by decide) ⟨_,e,rfl⟩ (fun s'=>typeIs_int s' k t) noFill_list_mul F.fills_int_mul F.slot_int_rmul repeat_list F.slot_int_index.lookup
  (call_meets F.slot_int_rmul (typeIs_int s k t) F.entry_int_rmul (F.args_int_rmul_2 _ _) (int___rmul___int_list k t l its.toArray n)
   ⟨e,rfl,⟨_,e,rfl⟩,call_meets F.slot_list_mul ⟨_,e,rfl⟩ F.entry_list_mul (F.args_list_mul_2 _ _) (AutoListH.list___mul___list_int_3 l its.toArray n k t hfit hcap hlong) ⟨e,?_⟩⟩)
 rw [hnew];exact ⟨.ref _,_,I.aew (t':=s.toks) (r.rep k.toNat) (by rw [len_rep,Nat.mul_comm];exact hz),rfl,q _ I.fresh⟩
end
end L2
namespace Att
open PySem PySem.W PySem.Calls PyProof.Rows
theorem Af {P:Params}{h:Heap}:∀ (ns:List Int)(vs:List Value),WellAll P h vs (ns.map WData.int)->IntsAre vs ns:=by
 intro ns
 induction ns with
 | nil =>
  intro vs w;rw [agb] at w;cases w;exact .nil
 | cons n ns ih =>
  intro vs w;rw [afg] at w;cases w with
  | cons a b =>
   cases a;exact .cons _ _ (ih _ b)
theorem M9 {l:OpenLaw}{n:Nat}(hn:l.most=some n){P:Params}{h:Heap}{args:List WData}{vals:List Value}
  (hpre:l.row.toRowW.claim.pre args=true)(hwl:WellAll P h vals args):
  ∃ a vs ns,vals=[Value.ref a]/\args=[WData.list (ns.map WData.int)]/\h.get? a=some { cls:=.type "list",data:=.seq vs.toArray }/\IntsAre vs ns/\ns.length<=n:=by
 have hsh:WShape.hasAll [] args [.list .int]=true:=(pre_splitW hpre).1
 have hc:l.pre.holds [] { args:=args }=true:=(pre_splitW hpre).2
 obtain ⟨d,r,rfl,h1,h2⟩:=hasAllW_cons hsh
 obtain rfl:=hasAllW_nil h2
 obtain ⟨xs,rfl,h3⟩:=hasW_list h1
 obtain ⟨ns,rfl⟩:=items_int h3
 have hlen:ns.length<=n:=by
  unfold OpenLaw.pre at hc
  have h4:(WTm.not (.lt (.lit (.int (n:Int))) (.len (.arg 0)))).holds [] { args:=[.list (ns.map .int)] }=true:=by
   have h4:=(holds_andW hc).1
   rw [hn] at h4
   exact h4
  have h5:=condW_of h4 (w_not (w_lt w_lit (w_len_list (w_arg rfl))))
  rw [ac5] at h5
  refine Nat.le_of_not_lt fun q=>?_
  have q':(n:Int)<((ns.length:Nat):Int):=by omega
  first
   | (rw [decide_eq_true q'] at h5;exact absurd h5 (by decide))
   | (simp at h5;omega)
 cases hwl with
 | cons w1 w2 =>
  cases w2
  cases w1 with
  | list ho hall=>exact ⟨_,_,ns,rfl,rfl,ho,Af ns _ hall,hlen⟩
theorem Nq (l:OpenLaw)(args:List WData):l.row.toRowW.claim.post args (.bool true) args=true:=
 postW_of (r:=l.row.toRowW) (X:=(true ==true))
  (show WShape.has [] (.bool true) .bool=true by first| rfl| decide| simp [WShape.has,WShape.arms,WShape.armsAll])
  (show (WTm.eq .res (.lit (.bool true))).value [] { args:=args,res:=some (.bool true),after:=args }=some (.bool (true ==true)) from w_eq_bool (w_res rfl) w_lit) rfl
theorem Jf {l:OpenLaw}{n:Nat}{q:Program}{loose:List Str}{XP:(Str->Option Value)->Heap->Prop}{YP:World->Heap->Prop}{d:DefRec}
  (hn:l.most=some n)(hdf:d.params.defaults=[])
  (call:∀ (w:World)(s₀ s₁:Shared)(mg mb:Str->Option Value)(fa:Addr)(o:Obj)(pm cd doc:Value)(a:Addr)(vs:List Value)(ns:List Int),
   Ground q loose [] XP w s₀ mg mb s₁.heap->YP w s₁.heap ->
   s₁.heap.get? fa=some o->o.data=.func (docDef d.name d.params d.body d.scope pm cd doc)->s₁.heap.CodeRec cd d.name->mg d.name=some (.ref fa) ->
   s₁.heap.get? a=some { cls:=.type "list",data:=.seq vs.toArray }->IntsAre vs ns->ns.length<=n->s₁.gens=#[] ->
   codeAny (model l.prog w) callerA (.call (.ref fa) ⟨[.ref a],[]⟩) (fun r s'=>r=.ok (.ret (.bool true))/\OldK s₁.heap s'.heap/\s'.os=s₁.os/\AllBare s'.gens) s₁):
  WalkO q loose XP YP l.row.toRowW d [] (fun f vs=>PySem.call f vs):=by
 intro w s₀ s₁ mg mb G Y fa o pm cd doc dV kV ho hd hcd hD hmg hg args vals as hpre hlay hrd hwl hlo
 obtain rfl:dV=.none:=Dflts.none hD hdf
 obtain rfl:kV=.none:=Dflts.noKw hD
 obtain ⟨a,vs,ns,rfl,rfl,hobj,hints,hlen⟩:=M9 hn hpre hwl
 refine enter_call (codeAny_mono (call w s₀ s₁ mg mb fa o pm cd doc a vs ns G Y ho (fd_plain hd) hcd hmg hobj hints hlen hg) fun r s' hq=>?_)
 obtain ⟨rfl,h2,h3,h4⟩:=hq
 exact ⟨.inl ⟨.bool true,.bool true,[],rfl,fun _=>rfl,.bool true,Nq l _,fun _=>⟨List.Pairwise.nil,fun _ hm=>(nomatch hm)⟩⟩,h2,h3,h4⟩
end Att
namespace L2
open PySem PySem.Spec PyProof.Rows
theorem Fx:∀ {vs:List Value}{ns:List Int},IntsAre vs ns->Vals (ns.map V.int) vs
 | _,_,.nil=>.nil
 | _,_,.cons n t h=>.cons ⟨t,rfl⟩ (Fx h)
abbrev CX0:CXT:=fun _ _ _ _ _ _=>False
abbrev E0:XK:=fun _ _ _=>False
theorem oO {X:Cx}:Passes CX0 X E0:=fun _ _ _ _ _ _ _ h=>h.elim
structure Fun (K:PySem.W.Frag)(x qual:Str)(st:Stmt)(f:Addr)(fd:FuncData):Prop where
 ex:∃ (oc:Value)(od:Option Addr)(kV doc pm:Value)(an:Option Addr)(cdv ct:Value)(osl:Array (Option Value)),
  fd=fnOf x qual (iD st) (dZ st) (ao st) .none kV doc pm an cdv ct/\K.lookup f=some ⟨oc,od,.func fd,osl⟩/\codeIn K cdv qual=true
 kp:keepIn K (.ref f)=true
variable {P:Program}{w:World}{K:PySem.W.Frag}{mg:Str->Option Value}{base:Heap}
theorem Fun.ok {x qual:Str}{st:Stmt}{f:Addr}{fd:FuncData}{N ps:List Str}{k:Nat}{sp:Sp}(F:Fun K x qual st f fd)(S:aD N ps (ao st))(len:∀ vs H Q E,sp vs H Q E->vs.length=ps.length)
  (hbody:∀ (cdv:Value)(A:Around)(outer:List Env)(s:Shared)(H:Hp)(vs:List V)(Q:VK)(E:XK),sX k (A.deeper (envOfC qual (ao st) s.heap.objs.size f cdv))->sp vs H Q E ->
   ∃ t,PSs (Qe CX0 P w K mg base N qual (ao st) f cdv A outer s H E).nox (dZ st) t/\t { nx:=fun _ H'=>Q .non H',rt:=Q } (start N vs) H):Hs P w K mg base CX0 (k+1) f fd ps sp:=by
 obtain ⟨oc,od,kV,doc,pm,an,cdv,ct,osl,rfl,lk,hcd⟩:=F.ex;refine R9 lk hcd S len fun A outer s H vs Q E hr hsp=>?_;obtain ⟨t,h,q⟩:=hbody cdv A outer s H vs Q E hr hsp;exact ⟨t,h.nox,q⟩
theorem Fun.binds {x qual:Str}{st:Stmt}{f:Addr}{fd:FuncData}{ps:List Str}(F:Fun K x qual st f fd)
  (h:∀ (kV doc pm:Value)(an:Option Addr)(cdv ct:Value)(us:List Value),us.length=ps.length->bindArgs (fnOf x qual (iD st) (dZ st) (ao st) .none kV doc pm an cdv ct) ⟨us,[]⟩=pure (ps.zip us)):Binds K fd ps []:=by
 obtain ⟨oc,od,kV,doc,pm,an,cdv,ct,osl,rfl,lk,hcd⟩:=F.ex;exact .all (h kV doc pm an cdv ct)
theorem acy {x qual:Str}{st:Stmt}{f:Addr}{oc:Value}{od an:Option Addr}{osl:Array (Option Value)}{kV doc pm cdv ct:Value}(l:K.lookup f=some ⟨oc,od,.func (fnOf x qual (iD st) (dZ st) (ao st) .none kV doc pm an cdv ct),osl⟩)
  (c:codeIn K cdv qual=true)(k:keepIn K (.ref f)=true):Fun K x qual st f (fnOf x qual (iD st) (dZ st) (ao st) .none kV doc pm an cdv ct):=⟨⟨oc,od,kV,doc,pm,an,cdv,ct,osl,rfl,l,c⟩,k⟩
section
variable {X:Cx}
theorem pv (i:Nat){x:Str}{pos:Pos}(hN:X.N[i]?=some x:=by rfl)(hv:Vis X.env.scope x:=by first| exact Or.inl rfl| exact Or.inr (Or.inl rfl) | exact Or.inr (Or.inr rfl))(hd:(x ==("__debug__":Str))=false:=by decide)
  (hcd:(x ==("__classdict__":Str))=false:=by decide):PE X (.Name x pos) (aa2 i):=abq hN hv hd hcd
end
theorem um {A B:Prop}(h:B):if false=true then A else B:=by
 rw [if_neg aeR];exact h
theorem zA {A B:Prop}(h:A):if true=true then A else B:=by
 rw [if_pos rfl];exact h
theorem ab4 {c A B:Prop} [Decidable c] (h1:c->A) (h2:¬ c->B):if c then A else B:=by
 by_cases h:c
 ·rw [if_pos h];exact h1 h
 ·rw [if_neg h];exact h2 h
theorem aaz {c A B:Prop} [Decidable c] (hc:c) (h:B):if (!decide c)=true then A else B:=by
 rw [decide_eq_true hc];exact um h
def Same (H H':Hp):Prop:=∀ b o,H b=some o->H' b=some o
theorem Same.refl (H:Hp):Same H H:=fun _ _ h=>h
theorem Same.free {H H':Hp}(e:Same H H'){l:Addr}(h:H' l=Option.none):H l=Option.none:=by
 cases q:H l with
 | none=>rfl
 | some o =>
  rw [e l o q] at h;cases h
theorem Same.seq {K:PySem.W.Frag}{H H':Hp}{a:Addr}{xs:List V}(e:Same H H')(h:SqL K H a xs):SqL K H' a xs:=by
 rcases h with (h| ⟨o,h⟩) | h
 ·exact .inl (.inl (e _ _ h))
 ·exact .inl (.inr ⟨o,e _ _ h⟩)
 ·exact .inr h
end L2
namespace L2
open PySem PySem.Spec PyProof.Rows
def clo (cells:List (Str × Addr)):List (Str × NameKind)->List (Str × Addr)->List (Str × Addr)
 | [],cs=>cs
 | (n,k)::r,cs=>clo cells r (if k == .free then (n,(cells.lookup n).getD 0)::cs else cs)
theorem Qj {env:Env}:∀ (names:List (Str × NameKind))(cs:List (Str × Addr)),(∀ y∈names,y.2=.free->∃ c,env.cells.lookup y.1=some c) ->
  (forIn names cs fun (x:Str × NameKind)(r:List (Str × Addr))=>(do
   let cs:=r
   match x with
   | (name,kind)=>
    if kind == .free then do
     let c <- cellOf env name
     let cs:=(name,c)::cs
     pure (ForInStep.yield cs)
    else pure (ForInStep.yield cs):Sem (ForInStep (List (Str × Addr)))))=pure (clo env.cells names cs)
 | [],cs,_=>rfl
 | (n,k)::r,cs,h=>by
  rw [List.forIn_cons]
  by_cases hk:k=.free
  ·subst hk
   obtain ⟨c,hc⟩:=h (n,.free) afd rfl
   have e:cellOf env n=pure c:=by unfold cellOf;rw [hc]
   simp only [beq_self_eq_true,if_true,e,pure_bind]
   rw [Qj r _ fun y hy=>h y (ae4 _ hy)]
   simp [clo,hc]
  ·have hb:(k ==NameKind.free)=false:=by simpa using hk
   simp only [hb,afX,if_false,pure_bind]
   rw [Qj r _ fun y hy=>h y (ae4 _ hy)]
   simp [clo,hb]
theorem uF {env:Env}{scope:Scope}(h:∀ y∈scope.names,y.2=.free->∃ c,env.cells.lookup y.1=some c):closureFor scope env=pure (clo env.cells scope.names []):=by
 unfold closureFor;have e:=Qj (env:=env) scope.names [] h
 first
  | (rw [<- e];rfl)
  | (simp only [bind_pure];exact e)
  | exact e
theorem Qi {cells:List (Str × Addr)}:∀ (names:List (Str × NameKind))(cs:List (Str × Addr))(p:Str × Addr),p∈clo cells names cs->p∈cs\/p.2=(cells.lookup p.1).getD 0
 | [],_,_,h=>.inl h
 | (n,k)::r,cs,p,h=>by
  rcases Qi r _ p h with h' | h'
  ·by_cases hk:(k ==NameKind.free)=true
   ·rw [if_pos hk] at h';rcases aeS.mp h' with e| e
    ·subst e;exact .inr rfl
    ·exact .inl e
   ·rw [if_neg hk] at h';exact .inl h'
  ·exact .inr h'
theorem Kl {cells:List (Str × Addr)}:∀ (names:List (Str × NameKind))(cs:List (Str × Addr))(x:Str),(cs.lookup x).isSome=true->((clo cells names cs).lookup x).isSome=true
 | [],_,_,h=>h
 | (n,k)::r,cs,x,h=>by
  refine Kl r _ x ?_;by_cases hk:(k ==NameKind.free)=true
  ·rw [if_pos hk];rw [List.lookup_cons];cases x ==n with
   | true=>rfl
   | false=>exact h
  ·rw [if_neg hk];exact h
theorem Az {cells:List (Str × Addr)}:∀ (names:List (Str × NameKind))(cs:List (Str × Addr))(x:Str),(x,NameKind.free)∈names->((clo cells names cs).lookup x).isSome=true
 | [],_,_,h=>nomatch h
 | (n,k)::r,cs,x,h=>by
  show ((clo cells r _).lookup x).isSome=true;rcases aeS.mp h with e| e
  ·have e1:x=n:=congrArg Prod.fst e;have e2:NameKind.free=k:=congrArg Prod.snd e;subst e1;subst e2;refine Kl r _ x ?_;rw [if_pos (by decide),List.lookup_cons];simp
  ·exact Az r _ x e
theorem Qh {cells:List (Str × Addr)}{names:List (Str × NameKind)}{x:Str}{c:Addr}(h:(clo cells names []).lookup x=some c):c=(cells.lookup x).getD 0:=by
 rcases Qi names [] _ (afm h) with z| z
 ·exact nomatch z
 ·exact z
theorem Fj {cells:List (Str × Addr)}:∀ {names:List (Str × NameKind)}(cs:List (Str × Addr)){p:Str × Addr},p∈clo cells names cs->p∈cs\/(p.1,NameKind.free)∈names
 | [],_,_,h=>.inl h
 | (n,k)::r,cs,p,h=>by
  rcases Fj (names:=r) _ h with h' | h'
  ·by_cases hk:(k ==NameKind.free)=true
   ·rw [if_pos hk] at h';rcases aeS.mp h' with e| e
    ·subst e;have:k=.free:=by simpa using hk
     subst this;exact .inr afd
    ·exact .inl e
   ·rw [if_neg hk] at h';exact .inl h'
  ·exact .inr (ae4 _ h')
def uE (X:Cx)(scope:Scope)(N:List Str)(s:Shared)(H:Hp)(ex:List Addr):Cx:=
 { X with N:=N,s₀:=s,H₀:=H,env:=compEnvC scope (clo X.env.cells scope.names []) s.heap.objs.size X.env,outer:=X.stack,stack:=X.stack,ex:=ex,fn:=fun x=>((clo X.env.cells scope.names []).lookup x).isNone,pn:=[],xe:=fun _ _=>False }
def freeOk (sc scope:Scope):Bool:=scope.names.all fun y=>(y.2 != .free) || (sc.names.lookup y.1 ==some .cell) || (sc.names.lookup y.1 ==some .free)
def Ig (scope:Scope):Bool:=(scope.kind == .function) && (scope.names.all fun y=>y.2 != .cell) && (scope.names.all fun y=>y.2 != .local|| scope.names.lookup y.1 ==some .local)
def Jd (scope:Scope)(N N':List Str)(cap:List (Option Nat)):Bool:=(cap.length ==N'.length) && (N'.zip cap).all fun p=>match p.2 with
 | none=>true
 | some j=>N[j]? ==some p.1&& scope.names.lookup p.1 ==some .free
def Qk (cap:List (Option Nat))(σ:St):St:=cap.map fun o=>o.bind fun j=>(σ[j]?).bind id
theorem uV {f:Str × NameKind->Str × NameKind}(hf:∀ y,(f y).1=y.1)(x:Str):∀ names:List (Str × NameKind),(names.map f).lookup x=(names.lookup x).map fun k=>(f (x,k)).2
 | []=>rfl
 | (n,k)::r=>by
  have ih:=uV hf x r;have e1:(f (n,k)).1=n:=hf (n,k);have e2:f (n,k)=(n,(f (n,k)).2):=Prod.ext e1 rfl;rw [afg,e2,List.lookup_cons,List.lookup_cons];cases hx:x ==n with
  | true =>
   have:x=n:=by simpa using hx
   subst this;rfl
  | false=>exact ih
def rlb (env:Env):Str × NameKind->Str × NameKind:=fun (n,k)=>if (k ==NameKind.free&& env.scope.kind == .function&& env.kindOf n ==some .cell) then (n,NameKind.cell) else (n,k)
theorem Ni (env:Env)(y:Str × NameKind):(rlb env y).1=y.1:=by
 obtain ⟨n,k⟩:=y;unfold rlb;dsimp only;split <;>rfl
theorem Nh (env:Env)(n:Str)(k:NameKind):(rlb env (n,k)).2=k\/((rlb env (n,k)).2=.cell/\k=.free):=by
 unfold rlb;dsimp only;split
 ·rename_i h
  rw [afi,afi] at h;exact .inr ⟨rfl,by simpa using h.1.1⟩
 ·exact .inl rfl
theorem wu (scope:Scope)(env:Env):(relabel scope env).names=scope.names.map (rlb env):=rfl
theorem Gn {scope:Scope}{env:Env}{x:Str}(h:scope.names.lookup x=some .free):(relabel scope env).names.lookup x=some .cell\/(relabel scope env).names.lookup x=some .free:=by
 rw [wu,uV (Ni env),h];rcases Nh env x .free with e| ⟨e,_⟩
 ·exact .inr (congrArg some e)
 ·exact .inl (congrArg some e)
theorem yH {scope:Scope}{env:Env}{x:Str}{k':NameKind}(hk:k'=.cell\/k'=.free)(hn:∀ y∈scope.names,y.2≠.cell)(h:(relabel scope env).names.lookup x=some k'):(x,NameKind.free)∈scope.names:=by
 rw [wu,uV (Ni env)] at h;cases e:scope.names.lookup x with
 | none=>rw [e] at h;cases h
 | some k =>
  rw [e] at h;have h':(rlb env (x,k)).2=k':=aeY h;have hm:=afm e;rcases Nh env x k with z| ⟨_,z⟩
  ·rw [z] at h';subst h';rcases hk with z2| z2
   ·exact absurd z2 (hn _ hm)
   ·rw [z2] at hm;exact hm
  ·rw [z] at hm;exact hm
def PTs (X:Cx)(ifs:List Expr)(t:TT):Prop:=
 ∀ (pins:List (Addr × Obj))(s:Shared)(σ:St)(H:Hp)(Q:Bool->Hp->Prop),Inv X pins σ H s->t σ H Q ->
  wpAny (model X.prog X.w) X.A (forIn ifs true fun c r=>if r=true then do let ok <- isTrue c X.env (eval c X.env);pure (ForInStep.yield ok) else pure (ForInStep.yield r)) (TP X pins σ Q) X.xe s
def ade:TT:=fun _ H Q=>Q true H
theorem Lj {i:Nat}{x:V}{τ:St}{H:Hp}{A B:St->Hp->Prop}(h:A (τ.set i (some x)) H):R6 i x τ H fun τ4 H4=>ade τ4 H4 fun b H5=>if b=true then A τ4 H5 else B τ4 H5:=by
 show if true=true then A (τ.set i (some x)) H else B (τ.set i (some x)) H;rw [if_pos rfl];exact h
theorem gB {X:Cx}:PTs X [] ade:=fun _ _ _ H _ I h=>wpAny_tests_nil ⟨H,I,h⟩
theorem DK {X:Cx}{c:Expr}{t:TT}(h:PT X c t):PTs X [c] t:=fun pins s σ H Q I hq=>wpAny_tests_one (h pins s σ H Q I hq)
def Ca (J:It)(acc:Addr)(g:TG)(tc:TT)(te:TE)(τ:St)(H1:Hp)(Q:Hp->Prop):Prop:=
 ∃ W:Nat->Nat->St->Hp->Prop,(∃ m,W 0 m τ (upd H1 acc (.lst [])))/\∀ i m τ H2,W i m τ H2->(J.stop i H2/\Q H2)\/(J.go i H2/\∃ N:St->Hp->Prop,(∀ τ' H',N τ' H'->∃ m',m'<m/\W (i+1) m' τ' H')/\∀ x H3,J.yld i H2 x H3->g x τ H3 fun τ4 H4 =>
  tc τ4 H4 fun b H5=>if b=true then te τ4 H5 fun y H6=>∃ ys,H6 acc=some (.lst ys)/\ys.length<sizeLine/\N τ4 (upd H6 acc (.lst (ys++[y]))) else N τ4 H5)
theorem yw {lo:Int}{n:Nat}{acc:Addr}{g:TG}{tc:TT}{te:TE}{τ:St}{H1:Hp}{Q:Hp->Prop}(Pv:Nat->St->Hp->Prop)(h0:Pv 0 τ (upd H1 acc (.lst [])))
  (hs:∀ i τ H,i<n->Pv i τ H->g (.int (lo+i)) τ H fun τ4 H4=>tc τ4 H4 fun b H5=>if b=true then te τ4 H5 fun y H6=>∃ ys,H6 acc=some (.lst ys)/\ys.length<sizeLine/\Pv (i+1) τ4 (upd H6 acc (.lst (ys++[y]))) else Pv (i+1) τ4 H5)
  (hd:∀ τ H,Pv n τ H->Q H):Ca (Itr lo n) acc g tc te τ H1 Q:=by
 refine ⟨fun i m τ H=>m=n - i/\i<=n/\Pv i τ H,⟨n,by simp,afs _,h0⟩,?_⟩
 rintro i m τ H ⟨rfl,hi,p⟩
 by_cases hlt:i<n
 ·refine .inr ⟨hlt,Pv (i+1),fun τ' H' p'=>⟨n - (i+1),by omega,rfl,hlt,p'⟩,fun x H' y=>?_⟩
  obtain ⟨e,y⟩:=y
  subst e y
  exact hs i τ _ hlt p
 ·have e:i=n:=by omega
  subst e
  exact .inl ⟨aeL _,hd τ H p⟩
theorem d8 {K:PySem.W.Frag}{a:Addr}{xs:List V}{acc:Addr}{g:TG}{tc:TT}{te:TE}{τ:St}{H1:Hp}{Q:Hp->Prop}(Pv:Nat->St->Hp->Prop)(h0:Pv 0 τ (upd H1 acc (.lst [])))(hl:∀ i τ H,i<=xs.length->Pv i τ H->SqL K H a xs)
  (hs:∀ i x τ H,xs[i]?=some x->Pv i τ H->g x τ H fun τ4 H4=>tc τ4 H4 fun b H5=>if b=true then te τ4 H5 fun y H6=>∃ ys,H6 acc=some (.lst ys)/\ys.length<sizeLine/\Pv (i+1) τ4 (upd H6 acc (.lst (ys++[y]))) else Pv (i+1) τ4 H5)
  (hd:∀ τ H,Pv xs.length τ H->Q H):Ca (Itl K a) acc g tc te τ H1 Q:=by
 refine ⟨fun i m τ H=>m=xs.length - i/\i<=xs.length/\Pv i τ H,⟨xs.length,by simp,afs _,h0⟩,?_⟩
 rintro i m τ H ⟨rfl,hi,p⟩
 have q:=hl i τ H hi p
 by_cases hlt:i<xs.length
 ·refine .inr ⟨⟨xs,xs[i],q,by simp [hlt]⟩,Pv (i+1),fun τ' H' p'=>⟨xs.length - (i+1),by omega,rfl,hlt,p'⟩,fun x H' y=>?_⟩
  obtain ⟨e,y⟩:=y
  subst e
  exact hs i x τ _ (y xs q) p
 ·have e:i=xs.length:=by omega
  subst e
  exact .inl ⟨⟨xs,q,aeL _⟩,hd τ H p⟩
def ZF (wi:TI)(cap:List (Option Nat))(g:TG)(tc:TT)(te:TE):TE:=fun σ H Q=>wi σ H fun J H1=>∀ acc,H1 acc=none->Ca J acc g tc te (Qk cap σ) H1 (fun H2=>Q (.ref acc) H2)
abbrev acK (ifs:List Expr)(env:Env):Sem Bool:=forIn ifs true fun c r=>if r=true then do let ok <- isTrue c env (eval c env);pure (ForInStep.yield ok) else pure (ForInStep.yield r)
abbrev wpQ {α:Type}(prog:Program)(w:World)(A:Around)(m:Sem α)(Q:α->Shared->Prop)(s:Shared):Prop:=wpAny (model prog w) A m Q (fun _ _=>False) s
theorem Qf {prog:Program}{w:World}{A:Around}{R:Result->Shared->Prop}{s:Shared}{elt target iter:Expr}{ifs:List Expr}{scope:Scope}{pos:Pos}{it acc:Value}{env:Env}(I:Nat->Shared->Prop)
  (turn:∀ k s0,I k s0->wpQ prog w A (pyNext it) (fun r s1=>(r=none/\R (.ok .next) s1)\/∃ v,r=some v /\
   wpQ prog w A (letOwnedTupleGo target it v) (fun _ s2=>wpQ prog w A (assign target env v) (fun _ s3=>wpQ prog w A (acK ifs env) (fun ok s4 =>
    (ok=false/\∃ m,m<k/\I m s4)\/(ok=true/\wpQ prog w A (eval elt env) (fun x s5=>wpQ prog w A (call (.builtin "list.append") [acc,x]) (fun _ s6=>∃ m,m<k/\I m s6) s5) s4)) s3) s2) s1) s0)
  (k:Nat)(h:I k s):codeAny (model prog w) A (.compLoop (.ListComp elt [⟨target,iter,ifs,0⟩] scope pos) 0 it acc env) R s:=by
 have quiet:∀ (e:Value)(s':Shared),False->notedBy (model prog w) A env (fun e s'=>R (.error e) s') e s':=fun _ _ z=>z.elim;apply codeAny_loop rfl I _ k h;intro k s0 start;apply wpAny_noted;rw [compTurn_list];apply wpAny_bind;apply wpAny_standAt;apply wpAny_bind;apply wpAny_mono (turn k s0 start) _ quiet;rintro r s1 (⟨rfl,stop⟩ | ⟨v,rfl,rest⟩)
 ·exact wpAny_pure stop
 apply wpAny_bind;apply wpAny_mono rest _ quiet;intro _ s2 h2;apply wpAny_bind;apply wpAny_mono h2 _ quiet;intro _ s3 h3;apply wpAny_bind;apply wpAny_mono h3 _ quiet;rintro ok s4 (⟨rfl,skip⟩ | ⟨rfl,add⟩)
 ·exact wpAny_pure ⟨rfl,skip⟩
 apply wpAny_bind;apply wpAny_bind;apply wpAny_mono add _ quiet;intro x s5 h5;apply wpAny_bind;apply wpAny_mono h5 _ quiet;intro _ s6 h6;exact wpAny_pure (wpAny_pure ⟨rfl,h6⟩)
section
variable {X:Cx}{tg iter elt:Expr}{ifs:List Expr}{scope:Scope}{pos:Pos}{wi:TI}{N':List Str}{cap:List (Option Nat)}{g:TG}{tc:TT}{te:TE}
theorem CG {use:Option (Value->Sem Unit)}{R:Value->Shared->Prop}(sc:Scope)(hsc:X.env.scope=sc)(N₀:List Str)(hN₀:X.N=N₀)(f1:freeOk sc scope=true)(f2:Ig scope=true)(f3:Jd scope N₀ N' cap=true)(hcalm:X.calm=true)
  (hi:PI X tg iter wi)
  (hg:∀ (s:Shared)(H:Hp)(ex:List Addr),PG (uE X scope N' s H ex) tg g)
  (hc:∀ (s:Shared)(H:Hp)(ex:List Addr),PTs (uE X scope N' s H ex) ifs tc)
  (he:∀ (s:Shared)(H:Hp)(ex:List Addr),PE (uE X scope N' s H ex) elt te)
  (hs:∀ x,foldedSetIterable iter X.env x=pure x)
  {pins:List (Addr × Obj)}{s:Shared}{σ:St}{H:Hp}{Q:V->Hp->Prop}(I:Inv X pins σ H s)(h:ZF wi cap g tc te σ H Q)
  (fin:∀ (acc C:Addr)(s':Shared)(H':Hp)(m:Str->Option Value),Inv X pins σ H' s'->s'.heap.Ns C m->H' C=none->C≠X.env.locals->X.s₀.heap.objs.size<=C->(∀ x c,X.env.cells.lookup x=some c->c≠C)->(∀ p∈X.pn++pins,p.1≠C)->Q (.ref acc) H' ->
   compPost (model X.prog X.w) X.A X.xe use R (.ref acc) C (.ok .next) s'):
  wpAny (model X.prog X.w) X.A (comprehension (.ListComp elt [⟨tg,iter,ifs,0⟩] scope pos) scope X.env (firstIterPos [⟨tg,iter,ifs,0⟩] pos) (newList []) false (firstIter [⟨tg,iter,ifs,0⟩] X.env) use) R X.xe s:=by
 have ok:=I.ok
 have fr:∀ y∈scope.names,y.2=.free->X.env.kindOf y.1=some .cell\/X.env.kindOf y.1=some .free:=fun y hy e=>by
  have q:=afA.mp f1 y hy
  rw [e] at q
  have q':((sc.names.lookup y.1 ==some NameKind.cell) || (sc.names.lookup y.1 ==some NameKind.free))=true:=by simpa using q
  rw [Bool.or_eq_true] at q'
  unfold Env.kindOf
  rw [hsc]
  rcases q' with z| z
  ·exact .inl (by simpa using z)
  ·exact .inr (by simpa using z)
 obtain ⟨⟨k1,k2⟩,k3⟩:((scope.kind == .function)=true/\(scope.names.all fun y=>y.2 != .cell)=true)/\(scope.names.all fun y=>y.2 != .local|| scope.names.lookup y.1 ==some .local)=true:=by
  unfold Ig at f2
  rw [afi,afi] at f2
  exact f2
 have hkind:scope.kind=.function:=by simpa using k1
 have hcell:∀ y∈scope.names,y.2≠.cell:=fun y hy=>by
  have q:=afA.mp k2 y hy
  simpa using q
 have hnames:∀ y∈scope.names,y.2=.local->scope.names.lookup y.1=some .local:=fun y hy e=>by
  have q:=afA.mp k3 y hy
  rw [e] at q
  simpa using q
 have hclos:closureFor scope X.env=pure (clo X.env.cells scope.names []):=uF fun y hy e=>ok.has y.1 (fr y hy e)
 have clX:∀ x c,(clo X.env.cells scope.names []).lookup x=some c->X.env.cells.lookup x=some c:=fun x c e=>by
  have e1:=Qh e
  have hx:(x,NameKind.free)∈scope.names:=by
   rcases Fj [] (afm e) with z| z
   ·exact nomatch z
   ·exact z
  obtain ⟨c',e2⟩:=ok.has x (fr (x,.free) hx rfl)
  rw [e2] at e1 ⊢
  rw [e1];rfl
 refine wpAny_comprehension_free (use:=use) rfl hs hclos hkind hnames ?_
 show wpAny (model X.prog X.w) X.A (eval iter X.env) _ X.xe s
 refine thn (hi pins s σ H _ I h) fun v s1 h1=>thn h1 fun itv s2 h2=>?_
 obtain ⟨it,fp,tn,J,H2,e,I2,T,st2,f2',h3⟩:=h2
 subst e
 refine wpAny_newObj_type ?_
 have fresh2:H2 s2.heap.objs.size=none:=I2.hok.fresh (aeL _)
 have I3:Inv X pins σ (upd H2 s2.heap.objs.size (.lst [])) { s2 with heap:=s2.heap.push { cls:=.type "list",data:=.seq ([]:List Value).toArray } }:=
  I2.laid (t':=s2.toks) (fun b o e=>aeP _ e) (aeL _) ⟨afs _,[],0,.nil,aeW _ rfl⟩
 have st3:tn 0 (s2.heap.push { cls:=.type "list",data:=.seq ([]:List Value).toArray }):=T.keep _ _ _ st2 fun b _ o e=>aeP _ e
 have fpne:∀ b∈fp,b≠s2.heap.objs.size:=fun b hb z=>by
  obtain ⟨o,eo,_⟩:=T.obj 0 _ st2 b hb
  exact absurd (aeV eo) (by rw [z];exact afH _)
 have fp3:∀ b∈fp,Hv X pins (upd H2 s2.heap.objs.size (.lst [])) b:=fun b hb=>by
  obtain ⟨a0,a1⟩:=f2' b hb
  exact ⟨by rw [aN (fpne b hb)];exact a0,a1⟩
 obtain ⟨W,⟨m0,w0⟩,turn⟩:=h3 s2.heap.objs.size fresh2
 generalize hacc:s2.heap.objs.size=acc at I3 fp3 w0 turn fpne ⊢
 generalize hs3:({ s2 with heap:=s2.heap.push { cls:=.type "list",data:=.seq ([]:List Value).toArray } }:Shared)=s3 at I3 ⊢
 have st3:tn 0 s3.heap:=by rw [<- hs3];exact st3
 have accTr:(upd H2 acc (.lst [])) acc=some (.lst []):=aZ
 refine wpAny_newFunctionEnv hcell (by intro y hy;cases hy) (fun h4 hns hsb=>?_) hkind
 have hCf:s3.heap.get? s3.heap.objs.size=none:=Heap.get?_none_of_le (aeL _)
 have kp4:∀ b o,s3.heap.get? b=some o->h4.get? b=some o:=fun b o e=>hsb.extBut b o (afr (aeV e)) (aeP _ e)
 let Y:Cx:=uE X scope N' s3 (upd H2 acc (.lst [])) fp
 have envY:Y.env=compEnvC scope (clo X.env.cells scope.names []) s3.heap.objs.size X.env:=rfl
 have okY:Y.Ok:=by
  refine ⟨ok.mod,?_,ok.glob,ok.blt,aeL _,?_,?_,?_,ok.hd,ok.frames,.inl rfl,?_,?_,?_,?_,?_,?_,?_⟩
  ·show (relabel scope X.env).kind=.function
   exact hkind
  ·exact fun x y c h1 h2=>ok.inj x y c (clX x c h1) (clX y c h2)
  ·intro x hx
   have hx':(relabel scope X.env).names.lookup x=some .cell\/(relabel scope X.env).names.lookup x=some .free:=hx
   have hm:(x,NameKind.free)∈scope.names:=by
    rcases hx' with z| z
    ·exact yH (.inl rfl) hcell z
    ·exact yH (.inr rfl) hcell z
   exact af2.mp (Az scope.names [] x hm)
  ·intro x c hx h1
   have hx':((clo X.env.cells scope.names []).lookup x).isNone=true:=hx
   have h1':(clo X.env.cells scope.names []).lookup x=some c:=h1
   rw [h1'] at hx';cases hx'
  ·intro b hb
   obtain ⟨q0,q1,q2,q3,q4,q5⟩:=fp3 b hb
   refine ⟨?_,fun x c h1=>q4 x c (clX x c h1)⟩
   obtain ⟨o,eo,_⟩:=T.obj 0 _ st3 b hb
   exact afr (aeV eo)
  ·exact fun b o e=>I3.bs b o e
  ·exact afB ok.bsz I3.sz
  ·intro b o e hb
   obtain ⟨q0,q1,q2,q3,q4,q5⟩:=fp3 b hb
   rcases q3 with z| z
   ·exact ok.noex b o e z
   ·exact absurd (afj (aeV e) (afB ok.bsz z)) (afH _)
  ·intro b hb hf
   obtain ⟨q0,q1,q2,q3,q4,q5⟩:=fp3 b hb
   rcases aeS.mp (I3.Mg b hf) with z| z
   ·exact q1 z
   ·exact q2 z
  ·exact I3.stack
  ·exact I3.Dl
 have capl:cap.length=N'.length/\∀ p∈N'.zip cap,(match p.2 with| none=>true| some j=>N₀[j]? ==some p.1&& scope.names.lookup p.1 ==some .free)=true:=by
  unfold Jd at f3
  rw [afi] at f3
  exact ⟨by simpa using f3.1,fun p hp=>afA.mp f3.2 p hp⟩
 have IY:Inv Y [] (Qk cap σ) (upd H2 acc (.lst [])) { s3 with heap:=h4,toks:=s3.toks+([]:List (Str × Value)).length }:=by
  refine ⟨okY,rfl,I3.bare,Un.kept kp4,⟨_,hns,?_⟩,?_,?_,?_,fun p hp=>absurd (show p∈([]:List (Addr × Obj)) from hp) (by simp),I3.hok.kept kp4,?_⟩
  ·intro i x v e1 e2 e3
   have e1':N'[i]?=some x:=e1
   unfold Qk at e2
   rw [aeQ] at e2
   cases ec:cap[i]? with
   | none=>rw [ec] at e2;cases e2
   | some o =>
    rw [ec] at e2
    cases o with
    | none=>cases e2
    | some j =>
     have e2':(σ[j]?).bind id=some v:=by simpa using e2
     have hz:(x,some j)∈N'.zip cap:=by
      refine aeO (i:=i) ?_
      rw [afZ]
      exact ⟨e1',ec⟩
     have q:=capl.2 _ hz
     have q':(N₀[j]? ==some x)=true/\(scope.names.lookup x ==some NameKind.free)=true:=by simpa [afi] using q
     have q1:X.N[j]?=some x:=by rw [hN₀];simpa using q'.1
     have q2:scope.names.lookup x=some .free:=by simpa using q'.2
     have eσ:σ[j]?=some (some v):=by
      cases z:σ[j]? with
      | none=>rw [z] at e2';cases e2'
      | some y =>
       rw [z] at e2'
       have:y=some v:=e2'
       rw [this]
     have hk:=fr (x,.free) (afm q2) rfl
     obtain ⟨m,hn,hl⟩:=I3.loc
     have vis:Vis X.env.scope x:=by
      rcases hk with z| z
      ·exact .inr (.inl z)
      ·exact .inr (.inr z)
     obtain ⟨u,r,l⟩:=hl j x v q1 eσ vis
     refine ⟨u,r,.inr ⟨?_,?_⟩⟩
     ·rcases Gn (scope:=scope) (env:=X.env) q2 with z| z
      ·exact .inl z
      ·exact .inr z
     ·rcases l with ⟨kl,_⟩ | ⟨_,c,ecx,hcx⟩
      ·rcases hk with z| z
       ·have z':X.env.kindOf x=some .cell:=z
        rw [kl] at z';cases z'
       ·have z':X.env.kindOf x=some .free:=z
        rw [kl] at z';cases z'
      ·have hh:=Az (cells:=X.env.cells) scope.names [] x (afm q2)
       obtain ⟨c',ec'⟩:=af2.mp hh
       have ec2:=clX x c' ec'
       rw [ecx] at ec2
       cases ec2
       exact ⟨c,ec',hcx.keeps kp4⟩
  ·intro x c e
   obtain ⟨v,z⟩:=I3.cell x c (clX x c e)
   exact ⟨v,z.keeps kp4⟩
  ·exact I3.hok.fresh (aeL _)
  ·exact fun x c e=>I3.freeC x c (clX x c e)
  ·show (Qk cap σ).length=N'.length
   unfold Qk
   rw [ac5];exact capl.1
 have fpY:∀ {H':Hp},(∀ b∈fp,H' b=none)->∀ b∈fp,Hv Y [] H' b:=fun {H'} hn b hb=>by
  obtain ⟨q0,q1,q2,q3,q4,q5⟩:=fp3 b hb
  refine ⟨hn b hb,(okY.exf b hb).1,okY.exfs b hb,.inl hb,(okY.exf b hb).2,fun p hp=>absurd (show p∈([]:List (Addr × Obj)) from hp) (by simp)⟩
 have st4:tn 0 h4:=T.keep _ _ _ st3 fun b _ o e=>kp4 b o e
 have back:∀ {τ:St}{H':Hp}{s':Shared},Inv Y [] τ H' s'->Q (.ref acc) H'->compPost (model X.prog X.w) X.A X.xe use R (.ref acc) s3.heap.objs.size (.ok .next) s':=fun {τ H' s'} J q=>by
  have un:Un (frs X.stack) fp (upd H2 acc (.lst [])) H' s3.heap s'.heap:=J.base
  have IX:Inv X pins σ H' s':=I3.call' (J.os) un J.hok J.bare fun b hb=>by
   obtain ⟨q0,q1,q2,q3,q4,q5⟩:=fp3 b hb
   exact ⟨q3,q1,q4,q5⟩
  obtain ⟨m,hn,_⟩:=J.loc
  refine fin acc s3.heap.objs.size s' H' m IX hn J.free (Nat.ne_of_gt I3.lt) I3.sz (fun x c e z=>?_) (fun p hp z=>?_) q
  ·obtain ⟨v,q⟩:=I3.cell x c e
   exact absurd q.lt (by rw [z];exact afH _)
  ·exact absurd (aeV (I3.pin p hp).1) (by rw [z];exact afH _)
 have loop:∀ s5:Shared,s5={ s3 with heap:=h4,toks:=s3.toks+([]:List (Str × Value)).length } ->
   codeAny (model X.prog X.w) X.A (.compLoop (.ListComp elt [⟨tg,iter,ifs,0⟩] scope pos) 0 (.ref it) (.ref acc) Y.env) (compPost (model X.prog X.w) X.A X.xe use R (.ref acc) s3.heap.objs.size) s5:=by
  rintro s5 rfl
  refine Qf (fun n s'=>∃ i τ H',Inv Y [] τ H' s'/\tn i s'.heap/\(∀ b∈fp,H' b=none)/\W i n τ H') ?_ m0 ⟨0,_,_,IY,st4,fun b hb=>(fp3 b hb).1,w0⟩
  rintro n s6 ⟨i,τ,H6,I6,st6,fr6,w6⟩
  rcases turn i n τ H6 w6 with ⟨stop,q⟩ | ⟨go,N,hN,step⟩
  ·refine wpAny_mono (T.done Y rfl rfl rfl hcalm i [] s6 τ H6 (fun _ _=>False) I6 (fpY fr6) st6 stop) (fun r s7 ⟨hr,I7⟩=>?_) fun _ _ z=>z.elim
   exact .inl ⟨hr,back I7 q⟩
  ·refine wpAny_mono (T.item Y rfl rfl rfl hcalm i [] s6 τ H6 (fun _ _=>False) I6 (fpY fr6) st6 go) (fun r s6b ⟨u,hr,h7⟩=>?_) fun _ _ z=>z.elim
   refine .inr ⟨u,hr,?_⟩
   refine wpAny_mono h7 (fun _ s7 ⟨x,H7,I7,r7,y7,st7,fr7⟩=>?_) fun _ _ z=>z.elim
   have I7':=I7.pinned (fpY fr7) (T.obj _ _ st7)
   have again:∀ {τ8:St}{H8:Hp}{s8:Shared},Inv Y ([]++Gq fp s7.heap) τ8 H8 s8->N τ8 H8->∃ m,m<n/\∃ i τ H',Inv Y [] τ H' s8/\tn i s8.heap/\(∀ b∈fp,H' b=none)/\W i m τ H':=fun {τ8 H8 s8} I8 n8=>by
    obtain ⟨m',hm,w8⟩:=hN τ8 H8 n8
    refine ⟨m',hm,i+1,τ8,H8,I8.j8,T.keep _ _ _ st7 fun b hb o e=>(I8.pin (b,o) (aeK _ (aeK _ (tZ hb e)))).1,fun b hb=>?_,w8⟩
    obtain ⟨o,e,d⟩:=T.obj _ _ st7 b hb
    exact (I8.pin (b,o) (aeK _ (aeK _ (tZ hb e)))).2.1
   refine wpAny_mono (hg s3 (upd H2 acc (.lst [])) fp _ s7 τ H7 x u _ I7' r7 (step x H7 y7)) (fun _ s8 ⟨τ8,H8,I8,q8⟩=>?_) fun _ _ z=>z.elim
   refine wpAny_mono (hc s3 (upd H2 acc (.lst [])) fp _ s8 τ8 H8 _ I8 q8) (fun b s9 ⟨H9,I9,q9⟩=>?_) fun _ _ z=>z.elim
   cases b with
   | false =>
    rw [if_neg aeR] at q9
    exact .inl ⟨rfl,again I9 q9⟩
   | true =>
    rw [if_pos rfl] at q9
    refine .inr ⟨rfl,?_⟩
    refine wpAny_mono (he s3 (upd H2 acc (.lst [])) fp _ s9 τ8 H9 _ I9 q9) (fun y s10 ⟨yv,H10,I10,r10,ys,hl,hz,q10⟩=>?_) fun _ _ z=>z.elim
    refine wpAny_mono (bJ (X:=Y) _ s10 τ8 H10 (.ref acc) [yv] (.ref acc) [y] (fun v H'=>N τ8 H') I10 rfl (.cons r10 .nil) ⟨acc,ys,yv,rfl,rfl,hl,hz,q10⟩) (fun v s11 ⟨vv,H11,I11,r11,q11⟩=>?_) fun _ _ z=>z.elim
    exact again I11 q11
 exact codeAny_compStart_list (loop _ rfl) (T.self _ _ _ _ _ st4 (loop _ rfl))
theorem gF (sc:Scope)(hsc:X.env.scope=sc)(N₀:List Str)(hN₀:X.N=N₀)(N':List Str)(cap:List (Option Nat))(f1:freeOk sc scope=true)(f2:Ig scope=true)(f3:Jd scope N₀ N' cap=true)(hcalm:X.calm=true)
  (hi:PI X tg iter wi)
  (hg:∀ (s:Shared)(H:Hp)(ex:List Addr),PG (uE X scope N' s H ex) tg g)
  (hc:∀ (s:Shared)(H:Hp)(ex:List Addr),PTs (uE X scope N' s H ex) ifs tc)
  (he:∀ (s:Shared)(H:Hp)(ex:List Addr),PE (uE X scope N' s H ex) elt te)
  (hs:∀ x,foldedSetIterable iter X.env x=pure x:=by intro _;rfl):
  PE X (.ListComp elt [⟨tg,iter,ifs,0⟩] scope pos) (ZF wi cap g tc te):=by
 intro pins s σ H Q I h
 rw [eval_ListComp]
 refine CG (use:=none) sc hsc N₀ hN₀ f1 f2 f3 hcalm hi hg hc he hs I h ?_
 intro acc C s' H' m IX hn hC h1 h2 h3 h4 q
 refine ⟨m,hn,fun h'' hs''=>?_⟩
 exact ⟨.ref acc,H',IX.turned (t':=s'.toks) (fun b o hb e=>(hs''.2 b hb).trans e) hC h1 (.inr h2) h3 h4,rfl,q⟩
theorem tX {i:Nat}{x:Str}{pos' spos:Pos}(sc:Scope)(hsc:X.env.scope=sc)(N₀:List Str)(hN₀:X.N=N₀)(N':List Str)(cap:List (Option Nat))(f1:freeOk sc scope=true)(f2:Ig scope=true)(f3:Jd scope N₀ N' cap=true)(hcalm:X.calm=true)
  (hnd:X.N.Nodup)(hix:X.N[i]?=some x)(hx:X.env.scope.names.lookup x=some .local)
  (hi:PI X tg iter wi)
  (hg:∀ (s:Shared)(H:Hp)(ex:List Addr),PG (uE X scope N' s H ex) tg g)
  (hc:∀ (s:Shared)(H:Hp)(ex:List Addr),PTs (uE X scope N' s H ex) ifs tc)
  (he:∀ (s:Shared)(H:Hp)(ex:List Addr),PE (uE X scope N' s H ex) elt te)
  (hsw:swapsWith (.ListComp elt [⟨tg,iter,ifs,0⟩] scope pos) (some (.Name x pos')) spos.line X.env=pure true)
  (hs:∀ x,foldedSetIterable iter X.env x=pure x:=by intro _;rfl):
  PS X (.Assign [.Name x pos'] (.ListComp elt [⟨tg,iter,ifs,0⟩] scope pos) spos) (adp (ZF wi cap g tc te) (R6 i)):=by
 intro pins s σ H D I h
 rw [exec_Assign_Name_used _ _ _ _ hsw]
 refine wpAny_bind (wpAny_standAt (wpAny_bind ?_))
 show wpAny _ X.A (do let _ <- comprehension (.ListComp elt [⟨tg,iter,ifs,0⟩] scope pos) scope X.env _ (newList []) false (firstIter [⟨tg,iter,ifs,0⟩] X.env) (some (assign (.Name x pos') X.env))) _ _ s
 refine wpAny_bind (wpAny_mono (CG (use:=some (assign (.Name x pos') X.env)) (R:=fun _ s'=>SP X pins D .next s') sc hsc N₀ hN₀ f1 f2 f3 hcalm hi hg hc he hs I h ?_) (fun _ s' hq=>wpAny_pure (wpAny_pure hq)) fun _ _ e=>e)
 intro acc C s' H' m IX hn hC h1 h2 h3 h4 q
 show wpAny _ X.A (assign (.Name x pos') X.env (.ref acc)) _ _ _
 refine wpAny_assign_Name (FQ (v:=.ref acc) IX hnd hix (.inl hx) rfl (fun s2 I2 hsb=>?_) (.inr hx))
 obtain ⟨a,sb,ha⟩:=hsb
 have hCa:C≠a:=by
  rcases ha with z| z
  ·rw [z];exact h1
  ·exact fun w=>h3 x a z w.symm
 refine ⟨m,hn.sameBut sb hCa,fun h'' hs''=>?_⟩
 exact ⟨_,H',I2.turned (t':=s2.toks) (fun b o hb e=>(hs''.2 b hb).trans e) hC h1 (.inr h2) h3 h4,q⟩
end
section
variable {X:Cx}
def adD (K:PySem.W.Frag):V->V->Hp->VK->Prop:=fun x y H Q=>∃ p xs j v,x=.ref p/\y=.int (j:Nat)/\SqL K H p xs/\xs[j]?=some v/\Q v H
theorem oU:aeF X (adD X.K):=by
 intro pins s σ H o i ov iv Q I ro ri h;obtain ⟨p,xs,j,z,rfl,rfl,hq,he,q⟩:=h;cases ro;obtain ⟨t,rfl⟩:=ri;obtain ⟨its,r,pl,hz⟩:=I.list hq;obtain ⟨w,ew,rw'⟩:=r.get he;have hl:=r.length;have hn:=wD;have hj:j<xs.length:=(aeJ.mp he).1;exact wpAny_getItem_list pl.isList (by omega) (by omega) (by rw [aeT];simpa using ew) ⟨z,H,I,rw',q⟩
theorem Vals.adU {xs:List V}{us:List Value}{y:V}{u:Value}(r:Vals xs us)(ru:RelV y u)(k:Nat):Vals (xs.take k++y::xs.drop k) (us.take k++u::us.drop k):=Vals.append (r.take k) (.cons ru (r.drop k))
theorem ab5 (its:List Value)(y:Value)(k:Nat):(its.toArray.extract 0 k).push y++its.toArray.extract k=(its.take k++y::its.drop k).toArray:=by
  apply Array.toList_inj.mp
  first
    | (simp;done)
    | (simp [aeU];done)
    | (simp
       exact aeU (by simp))
def ZS:V->List V->Hp->VK->Prop:=fun x vs H Q=>∃ (l:Addr)(xs:List V)(y:V)(i:Int),x=.ref l/\vs=[.int i,y]/\H l=some (.lst xs)/\0<=i/\i<=xs.length/\xs.length<sizeLine/\Q .non (upd H l (.lst (xs.take i.toNat++y::xs.drop i.toNat)))
theorem Oc:MtM X "list.insert" ZS:=by
 intro pins s σ H x vs v us Q I rx rv h;obtain ⟨l,xs,y,i,rfl,rfl,hH,h0,hk,hz,q⟩:=h;cases rx;obtain ⟨u,w,rfl,ru,rw'⟩:=rv.two;obtain ⟨t,rfl⟩:=ru;obtain ⟨z,its,n,r,hl,e⟩:=I.abU hH;have hn:=wD;have hf1:¬ (!Builtin.List.listFitsIndex i)=true:=by
  rw [fitsIndex_both (by omega) (by omega)];exact aeR
 have hf2:its.toArray.size<=sizeLine:=by rw [aeX];omega
 refine call_meets F.slot_list_insert ⟨_,e,rfl⟩ F.entry_list_insert (F.args_list_insert_3 _ _ _) (AutoSeq1.list_insert_list_int_val_1 l its.toArray n i t w hf1 hf2) ⟨e,?_⟩;refine ⟨.non,_,I.aev (its':=its.take i.toNat++w::its.drop i.toNat) hH e ?_ (r.adU rw' i.toNat) ?_,rfl,q⟩
 ·show (its.toArray.extract 0 (if i<0 then (i+(its.toArray.size:Int)).toNat else min i.toNat its.toArray.size)).push w++its.toArray.extract (if i<0 then (i+(its.toArray.size:Int)).toNat else min i.toNat its.toArray.size)=_;have e1:(if i<0 then (i+(its.toArray.size:Int)).toNat else min i.toNat its.toArray.size)=i.toNat:=by
   rw [if_neg (by omega),aeX];omega
  rw [e1];exact ab5 its w i.toNat
 ·rw [ae1,afb,ae0,agc];omega
theorem GZ:vR X (.builtin "isinstance") (fun xs H Q=>∃ x t c b,xs=[x,.ref c]/\Kq X.K H x t/\kitOne X.K t (.ref c)=some b/\Q (.bl b) H):=by
 intro pins s σ H xs us Q I r h;obtain ⟨x,t,c,b,rfl,ty,e,q⟩:=h;obtain ⟨u,w,rfl,ru,rw'⟩:=vals2 r;obtain rfl:w=Value.ref c:=rw';exact Ov I ru ty e fun tk=>⟨.bl b,H,I.tok tk,rfl,q⟩
theorem K5:∀ (bs:List Bool),((List.range bs.length).all fun i=>(bs[i]?).getD true)=bs.all id:=by
 intro bs;rw [afI];simp only [afA,afk,id_eq];constructor
 ·intro h b hb;obtain ⟨i,hi,e⟩:=afh hb;have:=h i hi;rw [aeD hi,e] at this;exact this
 ·intro h i hi;rw [aeD hi];exact h _ (afx hi)
theorem wM (hc:X.calm=true):vR X (.builtin "all") (fun xs H Q=>∃ (p:Addr)(bs:List Bool),xs=[.ref p]/\SqL X.K H p (bs.map V.bl)/\Q (.bl (bs.all id)) H):=by
 intro pins s σ H xs us Q I r h;obtain ⟨p,bs,rfl,hq,q⟩:=h;obtain ⟨u,rfl,ru⟩:=vals1 r;cases ru;obtain ⟨its,r1,p1,hz⟩:=I.list hq;have hl:=p1.isList;have hlt:p<s.heap.objs.size:=p1.lt;have hlen:=r1.length;rw [ac5] at hlen;refine call_all_walk (wpAny_pyIter_list hl ?_);refine ⟨s.heap.objs.size,[s.heap.objs.size,p],[s.heap.objs.size],its.toArray.size,_,_,fun i=>(bs[i]?).getD true,rfl,Walks.list (A:=X.A.in1) (I.ok.hd hc) _ p (afr hlt) its.toArray,
  ⟨⟨_,aeW _ rfl,rfl,rfl⟩,hl.push _⟩,fun i v s' Q' E' hP hQ=>?_,fun h' tk hk=>?_⟩
 ·have hP':its[i]?=some v:=by simpa using hP
  have hi:i<bs.length:=by
   have:=(aeJ.mp hP').1;omega
  obtain ⟨u,eu,ru⟩:=r1.get (x:=.bl bs[i]) (by rw [aeQ,aeD hi];rfl);rw [hP'] at eu;cases eu;cases ru;dsimp only at hQ;rw [aeD hi] at hQ;exact wpAny_truthy_bool hQ
 ·have e:((List.range its.toArray.size).all fun i=>(bs[i]?).getD true)=bs.all id:=by
   rw [aeX,<- hlen];exact K5 bs
  rw [e];refine ⟨.bl _,H,I.kept fun b o eo=>hk b o (fun hm=>?_) (aeP _ eo),rfl,q⟩;rw [afl.mp hm] at eo;exact afH _ (aeV eo)
end
section
variable {X:Cx}{st:Stmt}{rest:List Stmt}{t u:TS}
def adf (t u:TS):TS:=fun D σ H=>∃ M:St->Hp->Prop,t { D with nx:=M } σ H/\∀ σ' H',M σ' H'->u D σ' H'
theorem wz (h1:PS X st t)(h2:PSs X rest u):PSs X (st::rest) (adf t u):=by
 intro pins s σ H D I h;obtain ⟨M,ha,hb⟩:=h;refine wpAny_execs_cons (thn (h1 pins s σ H { D with nx:=M } I ha) fun f s1 q=>?_);cases f with
 | next =>
  obtain ⟨σ',H',I',q⟩:=q;exact h2 pins s1 σ' H' D I' (hb σ' H' q)
 | ret v=>exact q
 | brk=>exact q
 | cont=>exact q
end
def acR (H:Hp)(P:List V->Prop)(Q:VK):Prop:=∀ (l:Addr)(H':Hp)(xs:List V),Same H H'->H l=none->H' l=some (.lst xs)->P xs->Q (.ref l) H'
structure Df (K:PySem.W.Frag)(mg:Str->Option Value)(x:Str)(st:Stmt)(ps:List Str)(a:Addr)(fd:FuncData):Prop where
 F:Fun K x x st a fd
 b:Binds K fd ps []
 m:mg x=some (.ref a)
theorem Same.upd {H H':Hp}{l:Addr}{o:HO}(s:Same H H')(h:H l=none):Same H (L2.upd H' l o):=fun b u e=>by
 rw [aN (bR e h)];exact s b u e
theorem ints_get {ns:List Int}{i:Nat}{y:V}(h:(ns.map V.int)[i]?=some y):∃ z,ns[i]?=some z/\y=V.int z:=by
 rw [aeQ] at h;cases e:ns[i]? with
 | none=>rw [e] at h;cases h
 | some z=>rw [e] at h;exact ⟨z,rfl,(aeY h).symm⟩
theorem bV {ns:List Int}{i:Nat}{z:Int}(h:ns[i]?=some z):atI (ns.map V.int) (i:Int)=some (V.int z):=d9 (by rw [aeQ,h];rfl)
theorem mH {ns:List Int}{i:Int}{z:Int}(h0:0<=i)(h:ns[i.toNat]?=some z):atI (ns.map V.int) i=some (V.int z):=by
 obtain ⟨k,rfl⟩:=ae9 h0;exact bV (by simpa using h)
theorem iJ {n j:Nat}(h:j<n):ixN n (j:Int)=some j:=by
 unfold ixN;rw [if_pos (by omega),if_pos (by omega)];simp
theorem ZR {α:Type}(n:Nat)(x:α):(List.replicate n [x]).flatten=List.replicate n x:=by
 induction n with
 | zero=>rfl
 | succ n ih=>rw [afG,af4,ih,afG];rfl
theorem f9 {n:Nat}(h:n<=100000):n<=sizeLine:=afB h (by decide)
theorem aH {n:Nat}(h:n<=100000):n<sizeLine:=Nat.lt_of_le_of_lt h (by decide)
structure Blt (mg:Str->Option Value):Prop where
 len:mg "len"=none
 range:mg "range"=none
 list:mg "list"=none
 isinstance:mg "isinstance"=none
 bool:mg "bool"=none
 int:mg "int"=none
 all:mg "all"=none
 min:mg "min"=none
 max:mg "max"=none
 sum:mg "sum"=none
 sorted:mg "sorted"=none
 zip:mg "zip"=none
 tuple:mg "tuple"=none
 str:mg "str"=none
 any:mg "any"=none
 enumerate:mg "enumerate"=none
 reversed:mg "reversed"=none
 abs:mg "abs"=none
 ValueError:mg "ValueError"=none
 set:mg "set"=none
structure Mth (mg:Str->Option Value):Prop where
 MOUTH:∃ t,mg "MOUTH"=some (.int (-1) t)
section
variable {X:Cx}{K:PySem.W.Frag}
theorem jH (h:X.K=K):IxR X (aek K):=h ▸ aM
theorem wL (h:X.K=K):vR X (.builtin "len") (kLen K):=h ▸ aC
theorem Eb (h:X.K=K):OpR X (compareOp .NotIn) (rIn K true):=h ▸ qQ
end
end L2
namespace L2
open PySem PySem.W PyProof.Rows
structure Arr (N:Nat)(p:Array Nat):Prop where
 size:p.size=N
 perm:p.toList.Perm (List.range N)
theorem Arr.start (N:Nat):Arr N (List.toArray (List.range N)):=⟨by simp,by simp⟩
theorem Arr.nd {N:Nat}{p:Array Nat}(h:Arr N p):p.toList.Nodup:=h.perm.nodup_iff.mpr List.nodup_range
theorem Arr.get {N:Nat}{p:Array Nat}(h:Arr N p){i:Nat}(hi:i<N):p.toList[i]?=some (p.getD i 0):=by
 have hi':i<p.size:=by rw [h.size];exact hi
 simp [Array.getD,hi']
theorem Arr.lt {N:Nat}{p:Array Nat}(h:Arr N p){i:Nat}(hi:i<N):p.getD i 0<N:=by
 have:=h.perm.mem_iff.mp (aeO (h.get hi));exact afk.mp this
theorem Arr.ne {N:Nat}{p:Array Nat}(h:Arr N p){i j:Nat}(hi:i<N)(hj:j<N)(hij:i≠j):p.getD i 0≠p.getD j 0:=by
 intro e;obtain ⟨a1,a2⟩:=aeJ.mp (h.get hi);obtain ⟨b1,b2⟩:=aeJ.mp (h.get hj);exact hij ((afR h.nd).mp (by rw [a2,b2,e]))
theorem Arr.N8 {N:Nat}{p q:Array Nat}(h:Arr N p)(hs:q.size=p.size)(hp:q.Perm p):Arr N q:=⟨hs.trans h.size,(Array.perm_iff_toList_perm.mp hp).trans h.perm⟩
theorem Arr.rev {N:Nat}{p:Array Nat}(h:Arr N p)(i j:Nat):Arr N (kas_rev p i j):=h.N8 (mirror_size _ _ _ _) (mirror_perm _ _ _ _)
theorem Arr.bub {N:Nat}{p:Array Nat}(h:Arr N p)(k d:Nat):Arr N (bubble p k d):=h.N8 (bubble_size _ _ _) (bubble_perm _ _ _)
theorem Er {p q:Array Nat}{i j:Nat}(h:p[i]?=q[j]?):p.getD i 0=q.getD j 0:=by
 rw [Array.getD_eq_getD_getElem?,Array.getD_eq_getD_getElem?,h]
theorem Nk {N:Nat}{p:Array Nat}(h:Arr N p){n k:Nat}(hn:n<=N)(hk:k<n):(kas_rev p 0 n).getD k 0=p.getD (n - 1 - k) 0:=by
 refine Er ?_;unfold kas_rev;rw [getElem?_mirror (by rw [h.size];exact hn) ((n - 0) / 2) (by omega) k];split
 ·congr 1;omega
 ·congr 1;omega
theorem Qo {N:Nat}{p:Array Nat}(h:Arr N p){k l j:Nat}(hk:k<N)(hl:l<=k):(bubble p k (k - l)).getD j 0=if j=l then p.getD k 0 else if l<j/\j<=k then p.getD (j - 1) 0 else p.getD j 0:=by
 have e:=getElem?_bubble (xs:=p) (src:=k) (by rw [h.size];exact hk) (k - l) (by omega) j;have e1:k - (k - l)=l:=by omega
 rw [e1] at e;by_cases h1:j=l
 ·rw [if_pos h1] at e ⊢;exact Er e
 ·rw [if_neg h1] at e ⊢;by_cases h2:l<j/\j<=k
  ·rw [if_pos h2] at e ⊢;exact Er e
  ·rw [if_neg h2] at e ⊢;exact Er e
section
variable {N:Nat}{κ:Nat->Int}{R:Shared->Prop}{cmp:Nat->Nat->(Bool->Shared->Prop)->Shared->Prop}
def Srt (κ:Nat->Int)(p:Array Nat)(n:Nat):Prop:=∀ i j,i<j->j<n->κ (p.getD i 0)<κ (p.getD j 0)
def Dsc (κ:Nat->Int)(p:Array Nat)(n:Nat):Prop:=∀ i j,i<j->j<n->κ (p.getD j 0)<κ (p.getD i 0)
def Cmp (N:Nat)(κ:Nat->Int)(R:Shared->Prop)(cmp:Nat->Nat->(Bool->Shared->Prop)->Shared->Prop):Prop:=
 ∀ i j C s,i<N->j<N->R s->(∀ s',R s'->C (decide (κ i<κ j)) s')->cmp i j C s
def Inj (N:Nat)(κ:Nat->Int):Prop:=∀ i j,i<N->j<N->i≠j->κ i≠κ j
theorem Srt.snoc {p:Array Nat}{n:Nat}(h:Srt κ p n)(hn:1<=n)(e:κ (p.getD (n - 1) 0)<κ (p.getD n 0)):Srt κ p (n+1):=fun i j hij hj=>by
 by_cases hjn:j=n
 ·subst hjn;by_cases hi:i=j - 1
  ·rw [hi];exact e
  ·have:=h i (j - 1) (by omega) (by omega);omega
 ·exact h i j hij (by omega)
theorem Dsc.snoc {p:Array Nat}{n:Nat}(h:Dsc κ p n)(hn:1<=n)(e:κ (p.getD n 0)<κ (p.getD (n - 1) 0)):Dsc κ p (n+1):=fun i j hij hj=>by
 by_cases hjn:j=n
 ·subst hjn;by_cases hi:i=j - 1
  ·rw [hi];exact e
  ·have:=h i (j - 1) (by omega) (by omega);omega
 ·exact h i j hij (by omega)
variable (hc:Cmp N κ R cmp)(hI:Inj N κ)
include hc hI
theorem Dh {p:Array Nat}(A:Arr N p){Q:Nat->Shared->Prop}:∀ (f n:Nat)(s:Shared),1<=n->n+f=N->Srt κ p n->R s ->
  (∀ m s',n<=m->m<=N->Srt κ p m->(m<N->κ (p.getD m 0)<κ (p.getD (m - 1) 0))->R s'->Q m s')->(kas_asc p f n).kasWp cmp Q s
 | 0,n,s,h1,hf,hS,r,k=>k n s (aeL _) (by omega) hS (fun z=>by omega) r
 | f+1,n,s,h1,hf,hS,r,k=>by
  unfold kas_asc;refine hc _ _ _ s (A.lt (by omega)) (A.lt (by omega)) r fun s' r'=>?_;by_cases hlt:κ (p.getD n 0)<κ (p.getD (n - 1) 0)
  ·rw [decide_eq_true hlt];dsimp only;rw [if_pos rfl];exact k n s' (aeL _) (by omega) hS (fun _=>hlt) r'
  ·rw [decide_eq_false hlt];dsimp only;rw [if_neg aeR];have hne:=hI _ _ (A.lt (show n<N by omega)) (A.lt (show n - 1<N by omega)) (A.ne (show n<N by omega) (show n - 1<N by omega) (by omega));exact Dh A f (n+1) s' (by omega) (by omega) (hS.snoc h1 (by omega)) r' fun m s2 a b c d e=>k m s2 (by omega) b c d e
theorem FN {p:Array Nat}(A:Arr N p){Q:Array Nat × Nat × Nat->Shared->Prop}:∀ (f n:Nat)(s:Shared),1<=n->n+f=N->Dsc κ p n->R s ->
  (∀ m s',n<=m->m<=N->Dsc κ p m->R s'->Q (p,m,0) s')->(kas_desc f p n 0).kasWp cmp Q s
 | 0,n,s,h1,hf,hS,r,k=>k n s (aeL _) (by omega) hS r
 | f+1,n,s,h1,hf,hS,r,k=>by
  unfold kas_desc;refine hc _ _ _ s (A.lt (by omega)) (A.lt (by omega)) r fun s' r'=>?_;by_cases hlt:κ (p.getD n 0)<κ (p.getD (n - 1) 0)
  ·rw [decide_eq_true hlt];dsimp only;rw [if_pos rfl,if_neg (by omega)];exact FN A f (n+1) s' (by omega) (by omega) (hS.snoc h1 hlt) r' fun m s2 a b c d=>k m s2 (by omega) b c d
  ·rw [decide_eq_false hlt];dsimp only;rw [if_neg aeR];have hne:=hI _ _ (A.lt (show n<N by omega)) (A.lt (show n - 1<N by omega)) (A.ne (show n<N by omega) (show n - 1<N by omega) (by omega));refine hc _ _ _ s' (A.lt (by omega)) (A.lt (by omega)) r' fun s2 r2=>?_;rw [decide_eq_true (by omega)];dsimp only;rw [if_pos rfl];exact k n s2 (aeL _) (by omega) hS r2
theorem KQ {p:Array Nat}(A:Arr N p)(h2:2<=N){Q:Nat × Array Nat->Shared->Prop}{s:Shared}(r:R s)
  (k:∀ m p' s',1<=m->m<=N->Arr N p'->Srt κ p' m->R s'->Q (m,p') s'):(kas_count N p).kasWp cmp Q s:=by
 unfold kas_count;rw [agu];refine Dh hc hI A (N - 1) 1 s (aeL _) (by omega) (fun i j a b=>by omega) r fun n s' h1 hn hS hd r'=>?_;by_cases hnN:n=N
 ·rw [if_pos (by simp [hnN])];exact k n p s' h1 hn A hS r'
 ·rw [if_neg (by simp [hnN])];have hd':=hd (by omega);by_cases h1n:n >1
  ·rw [if_pos h1n];refine hc _ _ _ s' (A.lt (by omega)) (A.lt (by omega)) r' fun s2 r2=>?_;rw [decide_eq_true (hS 0 (n - 1) (by omega) (by omega))];dsimp only;rw [if_pos rfl];exact k n p s2 h1 hn A hS r2
  ·rw [if_neg h1n];have hn1:n=1:=by omega
   subst hn1;unfold kas_descPart;rw [agu];refine FN hc hI A (N - 2) 2 s' (by omega) (by omega) (fun i j a b=>?_) r' fun m s2 hm2 hm hD r2=>?_
   ·have hi:i=0:=by omega
    have hj:j=1:=by omega
    subst hi;subst hj;exact hd'
   ·rw [if_neg (by show ¬ (0:Nat)>0;omega)];show (kas_tail3 m N p).kasWp cmp Q s2;unfold kas_tail3;rw [agu];refine Dh hc hI (A.rev 0 m) (N - m) m s2 (by omega) (by omega) (fun i j a b=>?_) r2 fun m' s3 a b c d e=>?_
    ·rw [Nk A hm (by omega),Nk A hm (by omega)];exact hD _ _ (by omega) (by omega)
    ·exact k m' _ s3 (by omega) b (A.rev 0 m) c e
theorem w5 {p:Array Nat}(A:Arr N p){k:Nat}(hk:k<N)(hS:Srt κ p k){Q:Nat->Shared->Prop}:∀ (f l r:Nat)(s:Shared),l<=r->r<=k->r - l<=f ->
  (∀ i,i<l->κ (p.getD i 0)<κ (p.getD k 0))->(∀ i,r<=i->i<k->κ (p.getD k 0)<κ (p.getD i 0))->R s ->
  (∀ l s',l<=k->(∀ i,i<l->κ (p.getD i 0)<κ (p.getD k 0))->(∀ i,l<=i->i<k->κ (p.getD k 0)<κ (p.getD i 0))->R s'->Q l s')->(kas_place p k f l r).kasWp cmp Q s
 | 0,l,r,s,h1,h2,hf,ha,hb,hr,q=>by
  have e:l=r:=by omega
  subst e;exact q l s h2 ha hb hr
 | f+1,l,r,s,h1,h2,hf,ha,hb,hr,q=>by
  unfold kas_place;by_cases hlr:l >=r
  ·rw [if_pos hlr];have e:l=r:=by omega
   subst e;exact q l s h2 ha hb hr
  ·rw [if_neg hlr];have m1:(l+r) / 2<r:=by omega
   have m0:l<=(l+r) / 2:=by omega
   refine hc _ _ _ s (A.lt hk) (A.lt (by omega)) hr fun s' r'=>?_;by_cases hlt:κ (p.getD k 0)<κ (p.getD ((l+r) / 2) 0)
   ·rw [decide_eq_true hlt];dsimp only;rw [if_pos rfl];refine w5 A hk hS f l ((l+r) / 2) s' m0 (by omega) (by omega) ha (fun i hi hik=>?_) r' q;by_cases he:i=(l+r) / 2
    ·rw [he];exact hlt
    ·have:=hS ((l+r) / 2) i (by omega) hik;omega
   ·rw [decide_eq_false hlt];dsimp only;rw [if_neg aeR];have hne:=hI _ _ (A.lt hk) (A.lt (show (l+r) / 2<N by omega)) (A.ne hk (show (l+r) / 2<N by omega) (by omega));refine w5 A hk hS f ((l+r) / 2+1) r s' (by omega) h2 (by omega) (fun i hi=>?_) hb r' q;by_cases he:i=(l+r) / 2
    ·rw [he];omega
    ·have:=hS i ((l+r) / 2) (by omega) (by omega);omega
theorem Jr {Q:Array Nat->Shared->Prop}(q:∀ p s',Arr N p->Srt κ p N->R s'->Q p s'):∀ (f:Nat)(p:Array Nat)(k:Nat)(s:Shared),Arr N p->k+f=N->Srt κ p k->R s->(kas_bin f p k).kasWp cmp Q s
 | 0,p,k,s,A,hf,hS,r=>by
  have e:k=N:=by omega
  subst e;exact q p s A hS r
 | f+1,p,k,s,A,hf,hS,r=>by
  unfold kas_bin;rw [agu];refine w5 hc hI A (show k<N by omega) hS k 0 k s (afs _) (aeL _) (by omega) (fun i hi=>by omega) (fun i a b=>by omega) r fun l s' hl ha hb r'=>?_;refine Jr q f _ (k+1) s' (A.bub k (k - l)) (by omega) (fun i j hij hj=>?_) r';rw [Qo A (by omega) hl,Qo A (by omega) hl];by_cases h1:i=l
  ·rw [if_pos h1,if_neg (by omega),if_pos (by omega)];exact hb _ (by omega) (by omega)
  ·rw [if_neg h1];by_cases h2:j=l
   ·rw [if_pos h2,if_neg (by omega)];exact ha _ (by omega)
   ·rw [if_neg h2];by_cases h3:l<i/\i<=k
    ·rw [if_pos h3,if_pos (by omega)];exact hS _ _ (by omega) (by omega)
    ·rw [if_neg h3];by_cases h4:l<j/\j<=k
     ·rw [if_pos h4];by_cases h5:i<j - 1
      ·exact hS _ _ h5 (by omega)
      ·omega
     ·rw [if_neg h4];exact hS _ _ hij (by omega)
theorem LR (h2:2<=N){Q:Array Nat->Shared->Prop}{s:Shared}(r:R s)(q:∀ p s',Arr N p->Srt κ p N->R s'->Q p s'):(kas_sort N).kasWp cmp Q s:=by
 unfold kas_sort;rw [agu];refine KQ hc hI (Arr.start N) h2 r fun m p' s' h1 hm A hS r'=>?_;by_cases hlt:m<N
 ·rw [if_pos hlt];have e:max m 1=m:=by omega
  rw [e];exact Jr hc hI q _ p' m s' A (by omega) hS r'
 ·rw [if_neg hlt];have e:m=N:=by omega
  subst e;exact q p' s' A hS r'
end
end L2
namespace L2
open PySem PySem.Spec PyProof.Rows
section
variable {X:Cx}{pins:List (Addr × Obj)}{σ:St}{H:Hp}{s:Shared}{a:Addr}{o:HO}
theorem Inv.adopt (I:Inv X pins σ H s)(hn:H a=none)(hL:a≠X.env.locals)(h0:X.s₀.heap.objs.size<=a)(hc:∀ x c,X.env.cells.lookup x=some c->c≠a)(hp:∀ p∈X.pn++pins,p.1≠a)
  (new:gq X.prog X.w (upd H a o) s.heap a o):Inv X pins σ (upd H a o) s:=by
 have ne:∀ b u,H b=some u->b≠a:=fun b u e=>bR e hn;refine ⟨I.ok,I.os,I.bare,⟨I.base.keep,I.base.slot,fun b ob e n hx=>?_,I.base.there,fun b xs e=>?_,fun b ob xs e=>?_,fun b ps e=>?_⟩,I.loc,I.cell,?_,fun x c e=>?_,fun p hq=>?_,fun b u e=>?_,I.len⟩
 ·rw [aN (afr (afj (aeV e) h0))];exact I.base.free b ob e n hx
 ·have:=I.base.tups b xs e;rw [aN (ne b _ this)];exact this
 ·have:=I.base.frzs b ob xs e;rw [aN (ne b _ this)];exact this
 ·obtain ⟨m,e1⟩:=I.base.tbls b ps e;exact ⟨m,by rw [aN (ne b _ e1)];exact e1⟩
 ·rw [aN hL.symm];exact I.free
 ·rw [aN (hc x c e)];exact I.freeC x c e
 ·obtain ⟨e1,n,r⟩:=I.pin p hq;exact ⟨e1,by rw [aN (hp p hq)];exact n,r⟩
 ·by_cases hb:b=a
  ·subst hb;rw [aZ] at e;cases e;exact new
  ·rw [aN hb] at e;exact (I.hok b u e).stay (fun _ _ _ q=>q) (fun c q=>by rw [aN (ne c _ q)];exact q) fun c xs q=>by rw [aN (ne c _ q)];exact q
end
section
variable {prog:Program}{w:World}{A:Around}{E:Value->Shared->Prop}{s:Shared}
theorem Fi {r:Addr}{b:Int}{t u v:Tok}{n:Nat}{Q:List Value->Shared->Prop}(hh:A.handled=none)(hr:IsRange s.heap r 0 b 1 t u v)(hsmall:Builtin.Range.small 0 b 1=true)
  (hn:Builtin.Range.rangeSize 0 b 1=n)(hlen:n<=2 ^ 24)
  (h:∀ h' tk vs,(∀ b o,s.heap.get? b=some o->h'.get? b=some o)->Vals ((List.range n).map fun (i:Nat)=>V.int (i:Int)) vs->Q vs { s with heap:=h',toks:=tk }):
  wpAny (model prog w) A (collect (.ref r)) Q E s:=by
 unfold collect
 refine wpAny_bind (wpAny_runValue (codeAny_builtin entry_proto_collect' ?_))
 show wpAny _ _ (do again (.builtin "list.__iadd__" ⟨[<- newList [],.ref r],[]⟩)) _ _ s
 refine wpAny_bind (wpAny_newList (wpAny_pure ⟨Code.quiet_builtin _ (by decide+kernel),codeAny_builtin entry_list_iadd' ?_⟩))
 have e1:A.under (.builtin "proto.collect" ⟨[.ref r],[]⟩)=A.in1:=ago F.plain_proto_collect _
 have e2:A.under (.builtin "list.__iadd__" ⟨[.ref s.heap.objs.size,.ref r],[]⟩)=A.in1:=ago F.plain_list_iadd _
 rw [e2]
 show wpAny _ A.in1 (Builtin.List.listExtendWith (.ref s.heap.objs.size) (.ref r) (.ref s.heap.objs.size)) _ _ { s with heap:=s.heap.push (seqObj "list" #[] 0) }
 have hS:(s.heap.push (seqObj "list" #[] 0)).get? s.heap.objs.size=some { cls:=.type "list",data:=.seq #[] 0 }:=aeW _ rfl
 have hr':IsRange (s.heap.push (seqObj "list" #[] 0)) r 0 b 1 t u v:=aeP _ hr
 refine wpAny_mono (wpAny_extend_range (A:=A) (R:=fun r s'=>match r with
   | .ok (.ret v)=>wpAny (model prog w) A (match v with
     | .ref a=>do
      let o <- load a
      match o.data with
      | .seq xs _=>pure xs.toList
      | _=>unsupported "internal:collect"
     | _=>unsupported "internal:collect") Q E s'
   | .ok _=>False
   | .error e=>E e s') (s:={ s with heap:=s.heap.push (seqObj "list" #[] 0) }) hh hr' hsmall hn hlen s.heap.objs.size (.ref s.heap.objs.size) 0 hS fun h' tk acc c hk hS' hacc=>?_) (fun fin s' q=>?_) (fun e s' q=>q)
 case refine_2 =>
  cases fin with
  | done f=>exact q
  | again c'=>exact q
 show wpAny (model prog w) A (do
   let o <- load s.heap.objs.size
   match o.data with
   | .seq xs _=>pure xs.toList
   | _=>unsupported "internal:collect") Q E { s with heap:=h',toks:=tk }
 refine wpAny_bind (wpAny_load hS' ?_)
 refine wpAny_pure (h h' tk acc.toList (fun b o e=>hk b o (afr (aeV e)) (aeP _ e)) ?_)
 have hsz:acc.toList.length=n:=by rw [afF];exact hacc.1
 have key:∀ (k:Nat)(l:List Value),l.length=k->(∀ (j:Nat)(v:Value),l[j]?=some v->∃ t,v=.int ((n - k+j:Nat):Int) t)->k<=n->Vals ((List.range' (n - k) k).map fun (i:Nat)=>V.int (i:Int)) l:=by
  intro k
  induction k with
  | zero =>
   intro l hl _ _
   have:l=[]:=List.length_eq_zero_iff.mp hl
   subst this
   exact .nil
  | succ k ih =>
   intro l hl hP hk
   match l,hl with
   | v::l,hl =>
    have hl':l.length=k:=by simpa using hl
    rw [List.range'_succ,afg]
    obtain ⟨t,ht⟩:=hP 0 v rfl
    refine .cons ⟨t,?_⟩ ?_
    ·rw [ht];rfl
    ·have e:n - (k+1)+1=n - k:=by omega
     rw [e]
     refine ih l hl' (fun j v' e'=>?_) (by omega)
     obtain ⟨t',ht'⟩:=hP (j+1) v' (by simpa using e')
     exact ⟨t',by rw [ht'];congr 2;omega⟩
 have:=key n acc.toList hsz (fun j v e=>by
  obtain ⟨t,ht⟩:=hacc.2 j v (by simpa using e)
  refine ⟨t,?_⟩
  rw [ht]
  congr 1
  omega) (aeL _)
 rw [Nat.sub_self,<- List.range_eq_range'] at this
 exact this
end
end L2
namespace L2
open PySem PySem.W PySem.Spec PyProof.Rows
section
variable {prog:Program}{w:World}{A:Around}{E:Value->Shared->Prop}{s:Shared}
theorem Ae {Q:Bool->Shared->Prop}:∀ {xs ys:List Value}{ns ms:List Int},IntsAre xs ns->IntsAre ys ms->ns.length=ms.length->∀ i:Nat,Q (HT.lexLt ns ms) s->KatLex prog w A true false Q (xs.zip ys) i s
 | _,_,_,_,.nil,.nil,_,i,q=>by rw [List.zip_nil_left];exact kat_nil q
 | _,_,_,_,.nil,.cons _ _ _,hl,_,_=>by simp at hl
 | _,_,_,_,.cons _ _ _,.nil,hl,_,_=>by simp at hl
 | _,_,_,_,.cons a t hx,.cons c u hy,hl,i,q=>by
  rw [List.zip_cons_cons];refine kat_cons (wpAny_eqBool_int ?_);rw [HT.nW] at q;by_cases h:a=c
  ·rw [if_pos h] at q;have e:(a ==c)=true:=by simp [h]
   rw [e];exact kat_yes (Ae hx hy (by simpa using hl) (i+1) q)
  ·rw [if_neg h] at q;have e:(a ==c)=false:=by simp [h]
   rw [e];refine kat_no ?_;by_cases hi:i=0
   ·have ei:(true&& i ==0)=true:=by simp [hi]
    rw [ei];exact oneLt_int q
   ·have ei:(true&& i ==0)=false:=by simp [hi]
    rw [ei];exact kat_one _ _ (lt_int q)
structure Keys (h:Heap)(ks:List Value)(key:Nat->List Int)(N len:Nat):Prop where
 size:ks.length=N
 at_:∀ i,i<N->∃ t its,ks[i]?=some (.ref t)/\IsTup h t its.toArray/\IntsAre its (key i)
 long:∀ i,i<N->(key i).length=len+1
theorem Keys.cmp {ks:List Value}{key:Nat->List Int}{N len:Nat}{κ:Nat->Int}(K:Keys s.heap ks key N len)(hκ:∀ i j,i<N->j<N->HT.lexLt (key i) (key j)=decide (κ i<κ j)):
  Cmp N κ (fun s'=>s'=s) (kas_ask prog w A (tuples' true) ks):=by
 intro i j C s1 hi hj e h;subst e;obtain ⟨t,its,e1,⟨o,ho,hc,n,hd⟩,i1⟩:=K.at_ i hi;obtain ⟨t2,its2,e2,⟨o2,ho2,hc2,n2,hd2⟩,i2⟩:=K.at_ j hj;unfold kas_ask;rw [aeM,aeM,e1,e2];have l1:its.length=(key i).length:=i1.length;have l2:its2.length=(key j).length:=i2.length;have hl:(key i).length=(key j).length:=by rw [K.long i hi,K.long j hj]
 refine kat_lt ho hd ho2 hd2 ?_;have ef:decide (its.toArray.size<its2.toArray.size)=false:=decide_eq_false (by simp only [aeX];omega);rw [ef];refine Ae i1 i2 hl 0 ?_;rw [hκ i j hi hj];exact h s1 rfl
theorem Keys.tups {key:Nat->List Int}{len:Nat}:∀ {ks:List Value}{N:Nat},Keys s.heap ks key N len->∃ fs:List Value,KatTups s.heap ks fs/\fs.length=N/\∀ v∈fs,∃ a t,v=.int a t:=by
 have go:∀ (ks:List Value),(∀ i,i<ks.length->∃ t its a u r,ks[i]?=some (.ref t)/\IsTup s.heap t its.toArray/\its=Value.int a u::r)->∃ fs:List Value,KatTups s.heap ks fs/\fs.length=ks.length/\∀ v∈fs,∃ a t,v=Value.int a t:=by
  intro ks
  induction ks with
  | nil=>intro _;exact ⟨[],trivial,rfl,fun v hv=>nomatch hv⟩
  | cons k ks ih =>
   intro h;obtain ⟨fs,h1,h2,h3⟩:=ih fun i hi=>by
    obtain ⟨t,its,a,u,r,e,p⟩:=h (i+1) (by simpa using hi);exact ⟨t,its,a,u,r,by simpa using e,p⟩
   obtain ⟨t,its,a,u,r,e,⟨o,ho,hc,n,hd⟩,rfl⟩:=h 0 (by simp);have e':k=.ref t:=by simpa using e
   subst e';refine ⟨.int a u::fs,KatTups.cons ho hc hd rfl h1,by simp [h2],fun v hv=>?_⟩;rcases aeS.mp hv with e| e
   ·exact ⟨a,u,e⟩
   ·exact h3 v e
 intro ks N K;obtain ⟨fs,h1,h2,h3⟩:=go ks fun i hi=>by
  obtain ⟨t,its,e1,p,i1⟩:=K.at_ i (by rw [<- K.size];exact hi);have hl:=K.long i (by rw [<- K.size];exact hi);generalize key i=kl at i1 hl;cases i1 with
  | nil=>simp at hl
  | cons a u hx=>exact ⟨t,_,a,u,_,e1,p,rfl⟩
 exact ⟨fs,h1,by rw [h2,K.size],h3⟩
end
def wQ (κ:Nat->Int)(xs ys:List V):Prop:=∃ p:List Nat,p.Perm (List.range xs.length)/\ys=p.map (fun i=>xs.getD i .non)/\p.Pairwise fun i j=>κ i<κ j
theorem M6 {κ:Nat->Int}{xs:List V}{p:Array Nat}(A:Arr xs.length p)(hS:Srt κ p xs.length):wQ κ xs (p.toList.map fun i=>xs.getD i .non):=by
 refine ⟨p.toList,A.perm,rfl,?_⟩;rw [afP];intro i j hi hj hij;have hj':j<xs.length:=by rw [afF,A.size] at hj;exact hj
 have e1:p.toList[i]=p.getD i 0:=by
  have:=A.get (show i<xs.length by omega);rw [aeD hi] at this;exact aeY this
 have e2:p.toList[j]=p.getD j 0:=by
  have:=A.get hj';rw [aeD hj] at this;exact aeY this
 rw [e1,e2];exact hS i j hij hj'
theorem Fw {xs:List V}{vs:List Value}(r:Vals xs vs):∀ (p:List Nat),(∀ i∈p,i<xs.length)->Vals (p.map fun i=>xs.getD i .non) (p.map fun i=>vs.getD i .none)
 | [],_=>.nil
 | i::p,h=>by
  have hi:i<xs.length:=h i afd;obtain ⟨u,e,ru⟩:=r.get (aeD hi);refine .cons ?_ (Fw r p fun j hj=>h j (ae4 _ hj));show RelV (xs.getD i .non) (vs.getD i .none);rw [aeM,aeM,e,aeD hi];exact ru
section
variable {X:Cx}{pins:List (Addr × Obj)}{σ:St}{H:Hp}{s:Shared}{A:Around}{E:Value->Shared->Prop}
theorem Inv.xO (I:Inv X pins σ H s){b:Addr}{o:Obj}(f:Hv X pins H b)(e:s.heap.get? b=some o)(d:∀ v,o.data≠.cell v):Inv X (pins++[(b,o)]) σ H s:=
 I.Ib fun p hp=>(afa.mp hp).elim (fun z=>I.pin p (aeK _ z)) fun z=>by
  have e':p=(b,o):=by simpa using z
  subst e';obtain ⟨f0,f1,f2,_⟩:=f;exact ⟨e,f0,f1,f2,d⟩
theorem sort_keys {f:Value}{D kS:Addr}{e1:Nat}{xs:List V}{vs:List Value}(rv:Vals xs vs)(h64:xs.length<64)(Pv:Nat->List Addr->Hp->Prop)
  (fpD:∀ H',H' D=none->Hv X pins H' D)(fpK:∀ H',H' kS=none->Hv X pins H' kS)(hDK:D≠kS)
  (hcall:∀ i x u ts pins' s' H',xs[i]?=some x->RelV x u->Inv X pins' σ H' s'->(∀ p∈pins,p∈pins')->Pv i ts H'->wpAny (model X.prog X.w) A (call f [u]) (fun k s2=>∃ t H2,k=.ref t/\Inv X pins' σ H2 s2/\Pv (i+1) (ts++[t]) H2) (fun _ _=>False) s')
  {body:Value->PUnit->Sem (ForInStep PUnit)}
  (hb:∀ x (s:Shared) (R:Value->Shared->Prop) (Q:ForInStep PUnit->Shared->Prop),wpAny (model X.prog X.w) A (call f [x]) R (fun _ _=>False) s->(∀ k s',R k s'->wpAny (model X.prog X.w) A (Builtin.List.listUpdate (.ref kS) (·.push k)) (fun _ s''=>Q (.yield ⟨⟩) s'') E s') ->
   wpAny (model X.prog X.w) A (body x ⟨⟩) Q E s):
  ∀ (r:List Value)(i:Nat)(ts:List Addr)(e:Nat)(s:Shared)(H:Hp),vs.drop i=r->ts.length=i->i<=vs.length->Inv X (pins++[(D,seqObj "list" #[] e1)]++[(kS,seqObj "list" (ts.map Value.ref).toArray e)]) σ H s->Pv i ts H ->
   wpAny (model X.prog X.w) A (forIn r PUnit.unit body) (fun _ s'=>∃ ts' e' H',ts'.length=vs.length/\Inv X (pins++[(D,seqObj "list" #[] e1)]++[(kS,seqObj "list" (ts'.map Value.ref).toArray e')]) σ H' s'/\Pv vs.length ts' H') E s
 | [],i,ts,e,s,H,hr,hl,hi,I,p=>by
  rw [List.forIn_nil]
  have hn:i=vs.length:=by
   have:=congrArg List.length hr
   rw [agc] at this
   simp at this
   omega
  subst hn
  exact wpAny_pure ⟨ts,e,H,hl,I,p⟩
 | u::r,i,ts,e,s,H,hr,hl,hi,I,p=>by
  rw [List.forIn_cons]
  have hlen:=rv.length
  have hiv:i<vs.length:=by
   have:=congrArg List.length hr
   rw [agc] at this
   simp at this
   omega
  have eu:vs[i]?=some u:=by
   have:(vs.drop i)[0]?=some u:=by rw [hr];rfl
   rw [List.getElem?_drop] at this
   simpa using this
  have hix:i<xs.length:=by omega
  obtain ⟨u',e',ru⟩:=rv.get (aeD hix)
  rw [eu] at e'
  cases e'
  refine wpAny_bind (hb u s _ _ (hcall i _ u ts _ s H (aeD hix) ru I (fun p hp=>afw _ (afw _ hp)) p) fun k s2 ⟨t,H2,ek,I2,p2⟩=>?_)
  subst ek
  have pk:=I2.pin (kS,seqObj "list" (ts.map Value.ref).toArray e) (aeK _ (aeK _ (by simp)))
  have pD:=I2.pin (D,seqObj "list" #[] e1) (aeK _ (afw _ (aeK _ (by simp))))
  refine listUpdate_at pk.1 rfl ?_ (by rw [aeX,ac5,sizeLine_eq];omega) (by rw [Array.size_push,aeX,ac5,sizeLine_eq];omega)
  have I2':Inv X (pins++[(D,seqObj "list" #[] e1)]) σ H2 s2:=I2.j8
  have fK:Hv X (pins++[(D,seqObj "list" #[] e1)]) H2 kS:=by
   obtain ⟨a0,a1,a2,a3,a4,a5⟩:=fpK H2 pk.2.1
   refine ⟨a0,a1,a2,a3,a4,fun p hp=>?_⟩
   rcases afa.mp hp with z| z
   ·exact a5 p (afw _ z)
   ·rcases afa.mp z with z| z
    ·exact a5 p (aeK _ z)
    ·have:p=(D,seqObj "list" #[] e1):=by simpa using z
     rw [this];exact hDK
  obtain ⟨a0,a1,a2,a3,a4,a5⟩:=fK
  have I3:Inv X (pins++[(D,seqObj "list" #[] e1)]) σ H2 { s2 with heap:=s2.heap.update kS (Obj.mapSeq (·.push (Value.ref t))) }:=
   I2'.turned (t':=s2.toks) (fun b o hb e=>(aft _ _ (Ne.symm hb)).trans e) a0 a1 a3 a4 a5
  have ea:((ts.map Value.ref).toArray).push (Value.ref t)=((ts++[t]).map Value.ref).toArray:=by simp
  obtain ⟨c2,hc2⟩:∃ c2,(s2.heap.update kS (Obj.mapSeq (·.push (Value.ref t)))).get? kS=some (seqObj "list" ((ts++[t]).map Value.ref).toArray c2):=⟨_,by rw [<- ea];exact get?_update_seq pk.1 (·.push (Value.ref t))⟩
  have I4:=I3.xO ⟨a0,a1,a2,a3,a4,a5⟩ hc2 (fun v z=>by cases z)
  show wpAny (model X.prog X.w) A (forIn r PUnit.unit body) _ E _
  refine sort_keys rv h64 Pv fpD fpK hDK hcall hb r (i+1) (ts++[t]) c2 _ H2 ?_ (by rw [ae1,hl];rfl) (by omega) I4 p2
  have:(vs.drop i).drop 1=r:=by rw [hr];rfl
  rw [List.drop_drop] at this
  exact this
end
section
variable {X:Cx}{pins:List (Addr × Obj)}{σ:St}{H:Hp}{s:Shared}{A:Around}{E:Value->Shared->Prop}
theorem M7 {f:Value}{D:Addr}{n0 m:Nat}{xs:List V}{vs:List Value}{key:Nat->List Int}{κ:Nat->Int}(rv:Vals xs vs)(h64:xs.length<64)(Pv:Nat->List Addr->Hp->Prop)(I:Inv X pins σ H s)
  (hD:s.heap.get? D=some (seqObj "list" vs.toArray n0))(fpD:∀ H',H' D=none->Hv X pins H' D)(nD:H D=none)(hfresh:X.s₀.heap.objs.size<=D)(p0:Pv 0 [] H)
  (hcall:∀ i x u ts pins' s' H',xs[i]?=some x->RelV x u->Inv X pins' σ H' s'->(∀ p∈pins,p∈pins')->Pv i ts H'->wpAny (model X.prog X.w) A (call f [u]) (fun k s2=>∃ t H2,k=.ref t/\Inv X pins' σ H2 s2/\Pv (i+1) (ts++[t]) H2) (fun _ _=>False) s')
  (htup:∀ ts H',Pv xs.length ts H'->∀ i t,ts[i]?=some t->H' t=some (.tup ((key i).map V.int)))(hlong:∀ i,i<xs.length->(key i).length=m+1)
  (hκ:∀ i j,i<xs.length->j<xs.length->HT.lexLt (key i) (key j)=decide (κ i<κ j))(hinj:Inj xs.length κ):
  wpAny (model X.prog X.w) A (ksk_tree D f false) (fun fin s'=>fin=.done (.ret .none)/\∃ ts H' ys,Pv xs.length ts H'/\H' D=none/\wQ κ xs ys/\Inv X pins σ (upd H' D (.lst ys)) s') E s:=by
 have hlen:=rv.length
 unfold ksk_tree
 refine wpAny_bind (listItems_at hD rfl ?_)
 refine wpAny_bind (listUpdate_at hD rfl ?_ (by rw [aeX,sizeLine_eq];omega) (afs _))
 obtain ⟨e1,ho1⟩:∃ e1,(s.heap.update D (Obj.mapSeq fun _=>(#[]:Array Value))).get? D=some (seqObj "list" #[] e1):=⟨_,get?_update_seq hD fun _=>#[]⟩
 obtain ⟨a0,a1,a2,a3,a4,a5⟩:=fpD H nD
 have I1:Inv X pins σ H { s with heap:=s.heap.update D (Obj.mapSeq fun _=>(#[]:Array Value)) }:=I.turned (t':=s.toks) (fun b o hb e=>(aft _ _ (Ne.symm hb)).trans e) a0 a1 a3 a4 a5
 refine wpAny_bind (seqEpoch_at ho1 rfl ?_)
 refine wpAny_bind (wpAny_newTuple ?_ (by show vs.length<=_;rw [sizeLine_eq];omega))
 refine wpAny_bind (wpAny_newList ?_ (afs _))
 refine wpAny_holding ?_
 have I2:Inv X pins σ H { s with heap:=(s.heap.update D (Obj.mapSeq fun _=>(#[]:Array Value))).push (seqObj "tuple" vs.toArray 0) }:=I1.kept (t':=s.toks) fun b o e=>aeP _ e
 have I3:Inv X pins σ H { s with heap:=((s.heap.update D (Obj.mapSeq fun _=>(#[]:Array Value))).push (seqObj "tuple" vs.toArray 0)).push (seqObj "list" #[] 0) }:=I2.kept (t':=s.toks) fun b o e=>aeP _ e
 have fpK:∀ H',H' (((s.heap.update D (Obj.mapSeq fun _=>(#[]:Array Value))).push (seqObj "tuple" vs.toArray 0)).objs.size)=none->Hv X pins H' _:=fun H' hn=>I2.IK (aeL _) hn
 have nK:H (((s.heap.update D (Obj.mapSeq fun _=>(#[]:Array Value))).push (seqObj "tuple" vs.toArray 0)).objs.size)=none:=I2.hok.fresh (aeL _)
 have hDK:D≠((s.heap.update D (Obj.mapSeq fun _=>(#[]:Array Value))).push (seqObj "tuple" vs.toArray 0)).objs.size:=afr (aeV (aeP (seqObj "tuple" vs.toArray 0) ho1))
 have hD3:(((s.heap.update D (Obj.mapSeq fun _=>(#[]:Array Value))).push (seqObj "tuple" vs.toArray 0)).push (seqObj "list" #[] 0)).get? D=some (seqObj "list" #[] e1):=aeP _ (aeP _ ho1)
 have hK3:(((s.heap.update D (Obj.mapSeq fun _=>(#[]:Array Value))).push (seqObj "tuple" vs.toArray 0)).push (seqObj "list" #[] 0)).get? (((s.heap.update D (Obj.mapSeq fun _=>(#[]:Array Value))).push (seqObj "tuple" vs.toArray 0)).objs.size)=some (seqObj "list" #[] 0):=aeW _ rfl
 generalize ((s.heap.update D (Obj.mapSeq fun _=>(#[]:Array Value))).push (seqObj "tuple" vs.toArray 0)).objs.size=kS at fpK nK hDK hK3 ⊢
 generalize hs3:({ s with heap:=((s.heap.update D (Obj.mapSeq fun _=>(#[]:Array Value))).push (seqObj "tuple" vs.toArray 0)).push (seqObj "list" #[] 0) }:Shared)=s3 at I3 ⊢
 have hD3':s3.heap.get? D=some (seqObj "list" #[] e1):=by rw [<- hs3];exact hD3
 have hK3':s3.heap.get? kS=some (seqObj "list" #[] 0):=by rw [<- hs3];exact hK3
 have I4:Inv X (pins++[(D,seqObj "list" #[] e1)]) σ H s3:=I3.xO (fpD H nD) hD3' (fun v z=>by cases z)
 have fK:∀ H',H' kS=none->Hv X (pins++[(D,seqObj "list" #[] e1)]) H' kS:=fun H' hn=>by
  obtain ⟨b0,b1,b2,b3,b4,b5⟩:=fpK H' hn
  refine ⟨b0,b1,b2,b3,b4,fun p hp=>?_⟩
  rcases afa.mp hp with z| z
  ·exact b5 p (afw _ z)
  ·rcases afa.mp z with z| z
   ·exact b5 p (aeK _ z)
   ·have:p=(D,seqObj "list" #[] e1):=by simpa using z
    rw [this];exact hDK
 have I5:=I4.xO (fK H nK) hK3' (fun v z=>by cases z)
 unfold ksk_rest
 refine wpAny_bind (wpAny_rule ?_)
 first
  | rw [List.forIn_toArray]
  | (rw [<- Array.forIn_toList];simp only [agh])
  | rw [<- Array.forIn_toList]
 refine wpAny_bind (wpAny_mono (sort_keys (E:=E) rv h64 Pv fpD fpK hDK hcall (fun x s' R Q' hx hk=>?_) vs 0 [] 0 s3 H rfl rfl (afs _) I5 p0) (fun _ s4 hd=>?_) fun _ _ x=>x)
 ·refine wpAny_bind (wpAny_attempt (wpAny_mono hx (fun k s'' hq=>?_) fun _ _ hF=>hF.elim))
  dsimp only
  refine wpAny_bind (wpAny_mono (hk k s'' hq) (fun _ s5 hq5=>wpAny_pure hq5) fun _ _ x=>x)
 obtain ⟨ts,e',H4,htl,I6,p4⟩:=hd
 have pk:=I6.pin (kS,seqObj "list" (ts.map Value.ref).toArray e') (aeK _ (aeK _ (by simp)))
 have pD:=I6.pin (D,seqObj "list" #[] e1) (aeK _ (afw _ (aeK _ (by simp))))
 refine wpAny_bind (listItems_at pk.1 rfl ?_)
 have p4':Pv xs.length ts H4:=by rw [hlen];exact p4
 have I7:Inv X pins σ H4 s4:=I6.j8.j8
 have fin:∀ (st:SortSt)(q:List Nat),(arrOf st).map (·.2)=List.toArray (q.map fun i=>vs.getD i Value.none)->failedOf st=none->(∀ i∈q,i<xs.length)->q.length=xs.length->wQ κ xs (q.map fun i=>xs.getD i .non) ->
   wpAny (model X.prog X.w) A (ksk_tail D false e1 (.ref kS) st) (fun fin s'=>fin=.done (.ret .none)/\∃ ts H' ys,Pv xs.length ts H'/\H' D=none/\wQ κ xs ys/\Inv X pins σ (upd H' D (.lst ys)) s') E s4:=by
  intro st q hout hf hq hql hsb
  unfold ksk_tail
  dsimp only
  refine wpAny_bind (listUpdate_at pk.1 rfl ?_ (by rw [aeX,ac5,sizeLine_eq];omega) (afs _))
  obtain ⟨b0,b1,b2,b3,b4,b5⟩:=fpK H4 pk.2.1
  have I8:Inv X pins σ H4 { s4 with heap:=s4.heap.update kS (Obj.mapSeq fun _=>(#[]:Array Value)) }:=I7.turned (t':=s4.toks) (fun b o hb e=>(aft _ _ (Ne.symm hb)).trans e) b0 b1 b3 b4 b5
  have hD8:(s4.heap.update kS (Obj.mapSeq fun _=>(#[]:Array Value))).get? D=some (seqObj "list" #[] e1):=(aft _ _ (Ne.symm hDK)).trans pD.1
  refine wpAny_bind (wpAny_letGo ?_)
  refine wpAny_bind (seqEpoch_at hD8 rfl ?_)
  have hsz:(if false=true then ((arrOf st).map (·.2)).reverse else (arrOf st).map (·.2))=List.toArray (q.map fun i=>vs.getD i Value.none):=by rw [if_neg aeR];exact hout
  refine wpAny_bind (listUpdate_at hD8 rfl ?_ (afs _) (by show (if false=true then ((arrOf st).map (·.2)).reverse else (arrOf st).map (·.2)).size<=_;rw [hsz,aeX,ac5,sizeLine_eq];omega))
  rw [hf]
  simp only [bne_self_eq_false,afX,if_false]
  refine wpAny_pure ⟨rfl,ts,H4,_,p4',pD.2.1,hsb,?_⟩
  obtain ⟨c0,c1,c2,c3,c4,c5⟩:=fpD H4 pD.2.1
  have I9:=I8.turned (h':=(s4.heap.update kS (Obj.mapSeq fun _=>(#[]:Array Value))).update D (Obj.mapSeq fun _=>(arrOf st).map (·.2))) (t':=s4.toks) (fun b o hb e=>(aft _ _ (Ne.symm hb)).trans e) c0 c1 c3 c4 c5
  obtain ⟨cc,hcc⟩:∃ cc,((s4.heap.update kS (Obj.mapSeq fun _=>(#[]:Array Value))).update D (Obj.mapSeq fun _=>(arrOf st).map (·.2))).get? D=some (seqObj "list" (q.map fun i=>vs.getD i Value.none).toArray cc):=⟨_,by rw [<- hout];exact get?_update_seq hD8 fun _=>(arrOf st).map (·.2)⟩
  exact I9.adopt pD.2.1 c1 hfresh c4 c5 ⟨by rw [ac5,sizeLine_eq];omega,_,cc,Fw rv q hq,hcc⟩
 have eks:ts.length=xs.length:=by omega
 unfold ksk_end
 dsimp only
 rw [if_neg aeR]
 by_cases h2:xs.length<2
 ·have hs2:vs.toArray.size<2:=by rw [aeX];omega
  rw [if_pos hs2,if_pos hs2]
  refine wpAny_bind (wpAny_pure ?_)
  refine wpAny_bind ?_
  rw [StateT.run_pure]
  refine wpAny_pure ?_
  dsimp only
  have hr:∀ i∈List.range xs.length,i<xs.length:=fun i hi=>afk.mp hi
  refine fin _ (List.range xs.length) ?_ rfl hr (afz) ⟨List.range xs.length,List.Perm.refl _,rfl,?_⟩
  ·show ((if false=true then ((ts.map Value.ref).toArray.zip vs.toArray).reverse else (ts.map Value.ref).toArray.zip vs.toArray)).map (·.2)=_
   rw [if_neg aeR]
   apply Array.toList_inj.mp
   rw [Array.toList_map,Array.toList_zip,List.map_snd_zip (by rw [agh,agh,ac5];omega)]
   rw [agh]
   apply List.ext_getElem?
   intro j
   rw [agh,aeQ]
   by_cases hj:j<xs.length
   ·rw [afN hj]
    show _=some (vs.getD j Value.none)
    rw [aeM,aeD (by omega)];rfl
   ·rw [afu (by omega),afu (by rw [afz];omega)];rfl
  ·match hx:xs.length,h2 with
   | 0,_=>exact List.Pairwise.nil
   | 1,_=>exact List.pairwise_singleton _ _
 ·have hs2:¬ vs.toArray.size<2:=by rw [aeX];omega
  rw [if_neg hs2,if_neg hs2]
  have KK:Keys s4.heap (ts.map Value.ref) key xs.length m:=by
   refine ⟨by rw [ac5];exact eks,fun i hi=>?_,hlong⟩
   have hit:i<ts.length:=by omega
   have et:=htup ts H4 p4' i ts[i] (aeD hit)
   obtain ⟨_,its,r,hT⟩:=I7.hok _ _ et
   exact ⟨ts[i],its,by rw [aeQ,aeD hit];rfl,hT,intsAre_of r⟩
  obtain ⟨fs,kt,kl,kv⟩:=KK.tups
  refine wpAny_bind (kat_kind kt (by omega) (fun v hv=>by obtain ⟨a,t,rfl⟩:=kv v hv;exact Looks.of_pure rfl) (T:=.type "int") (by decide) ?_)
  have ett:(Value.type "int" !=Value.type "tuple")=true:=by decide
  rw [ett]
  have ez:(if false=true then ((ts.map Value.ref).toArray.zip vs.toArray).reverse else (ts.map Value.ref).toArray.zip vs.toArray)=(ts.map Value.ref).toArray.zip vs.toArray:=by rw [if_neg aeR]
  rw [ez]
  have hkl:(ts.map Value.ref).length=vs.length:=by rw [ac5];omega
  have run:=kat_run (prog:=X.prog) (w:=X.w) (A:=A) (E:=E) (s:=s4) (κ:=tuples' true) (ks:=ts.map Value.ref) (vs:=vs)
   (Q:=fun st' s'=>s'=s4/\∃ p:Array Nat,arrOf st'=p.map (kas_item ((ts.map Value.ref).toArray.zip vs.toArray))/\failedOf st'=none/\Arr xs.length p/\Srt κ p xs.length)
   (G:=fun p s'=>s'=s4/\Arr xs.length p/\Srt κ p xs.length) hkl (by omega) (by omega) (fun p st' s' _ b c ⟨d,a1,a2⟩=>⟨d,p,b,c,a1,a2⟩) (by
    have:=LR (N:=xs.length) (KK.cmp (prog:=X.prog) (w:=X.w) (A:=A) hκ) hinj (by omega) (Q:=fun p s'=>s'=s4/\Arr xs.length p/\Srt κ p xs.length) (s:=s4) rfl fun p s' a b c=>⟨c,a,b⟩
    rw [<- hlen]
    exact this)
  refine wpAny_bind (wpAny_mono run ?_ fun _ _ x=>x)
  rintro ⟨⟨⟩,st'⟩ s5 ⟨rfl,p,har,hf,AR,SR⟩
  dsimp only
  refine fin st' p.toList (kat_snds hkl har) hf (fun i hi=>?_) (by rw [afF,AR.size]) (M6 AR SR)
  exact afk.mp (AR.perm.mem_iff.mp hi)
end
def aay (X:Cx)(scope:Scope)(qual:Str)(c:Value)(N:List Str)(A:Around)(f:Addr)(s:Shared)(H:Hp):Cx:=
 let env:Env:=envX qual scope s.heap.objs.size f c (clo X.env.cells scope.names []);{ prog:=X.prog,w:=X.w,K:=X.K,mg:=X.mg,base:=X.base,A:=A.deeper env,N:=N,s₀:=s,H₀:=H,env:=env,outer:=X.stack,stack:=env::X.stack,ex:=[],fn:=fun x=>((clo X.env.cells scope.names []).lookup x).isNone,calm:=true,pn:=[],xe:=fun _ _=>False }
def Ei (x:V)(cap:List (Option Nat))(σ:St):St:=some x::(cap.map fun o=>o.bind fun j=>(σ[j]?).bind id)
def aax (scope:Scope)(p:Str)(N N':List Str)(cap:List (Option Nat)):Bool:=(scope.names.lookup p ==some .local) && !scope.isCoroutine&& !scope.isGenerator&& (!N'.contains p) && Jd scope N N' cap
section
variable {X:Cx}{pins:List (Addr × Obj)}{σ:St}{H:Hp}{s:Shared}{body:Expr}{scope:Scope}{params:Arguments}{te:TE}
theorem RM (sc:Scope)(hsc:X.env.scope=sc)(N₀:List Str)(hN₀:X.N=N₀){N':List Str}{cap:List (Option Nat)}{p:Str}(f1:freeOk sc scope=true)(f2:Ig scope=true)(f3:aax scope p N₀ N' cap=true)
  {A:Around}{f:Addr}{name qual:Str}{c pm ctv:Value}{x:V}{u:Value}{Q:VK}(I:Inv X pins σ H s)(hA:A.frames=some X.stack)(hd:A.handled=none)(hroom:A.depth<recursionLimit)
  (hf:(f,({ cls:=.type "function",data:=.func (kla_fn name qual params body scope (clo X.env.cells scope.names []) pm c ctv) }:Obj))∈pins)(hcd:s.heap.CodeRec c qual)
  (hbind:bindArgs (kla_fn name qual params body scope (clo X.env.cells scope.names []) pm c ctv) ⟨[u],[]⟩=pure [(p,u)])
  (hb:PE (aay X scope qual c (p::N') A f s H) body te)(rx:RelV x u)(h:te (Ei x cap σ) H Q):
  wpAny (model X.prog X.w) A (call (.ref f) [u]) (fun k s2=>∃ v H2,RelV v k/\Inv X pins σ H2 s2/\Q v H2) (fun _ _=>False) s:=by
 have ok:=I.ok
 have fr:∀ y∈scope.names,y.2=.free->X.env.kindOf y.1=some .cell\/X.env.kindOf y.1=some .free:=fun y hy e=>by
  have q:=afA.mp f1 y hy
  rw [e] at q
  have q':((sc.names.lookup y.1 ==some NameKind.cell) || (sc.names.lookup y.1 ==some NameKind.free))=true:=by simpa using q
  rw [Bool.or_eq_true] at q'
  unfold Env.kindOf
  rw [hsc]
  rcases q' with z| z
  ·exact .inl (by simpa using z)
  ·exact .inr (by simpa using z)
 obtain ⟨⟨k1,k2⟩,k3⟩:((scope.kind == .function)=true/\(scope.names.all fun y=>y.2 != .cell)=true)/\(scope.names.all fun y=>y.2 != .local|| scope.names.lookup y.1 ==some .local)=true:=by
  unfold Ig at f2
  rw [afi,afi] at f2
  exact f2
 have hkind:scope.kind=.function:=by simpa using k1
 have hcell:∀ y∈scope.names,y.2≠.cell:=fun y hy=>by
  have q:=afA.mp k2 y hy
  simpa using q
 obtain ⟨⟨⟨⟨g1,g2⟩,g3⟩,g4⟩,g5⟩:((((scope.names.lookup p ==some .local)=true/\(!scope.isCoroutine)=true)/\(!scope.isGenerator)=true)/\(!N'.contains p)=true)/\Jd scope N₀ N' cap=true:=by
  unfold aax at f3
  rw [afi,afi,afi,afi] at f3
  exact f3
 have hploc:scope.names.lookup p=some .local:=by simpa using g1
 have clX:∀ x c,(clo X.env.cells scope.names []).lookup x=some c->X.env.cells.lookup x=some c:=fun x c e=>by
  have e1:=Qh e
  have hx:(x,NameKind.free)∈scope.names:=by
   rcases Fj [] (afm e) with z| z
   ·exact nomatch z
   ·exact z
  obtain ⟨c',e2⟩:=ok.has x (fr (x,.free) hx rfl)
  rw [e2] at e1 ⊢
  rw [e1];rfl
 have pf:=I.pin _ (aeK _ hf)
 refine wpAny_call (kla_callFunE hroom pf.1 rfl (by simpa using g2) (by simpa using g3) rfl hcd ?_)
 rw [hbind]
 refine wpAny_pure ?_
 refine wpAny_newFunctionEnv hcell (fun y hy=>?_) (fun h4 hns hsb=>?_) hkind
 ·have:y=(p,u):=by simpa using hy
  rw [this];exact hploc
 have kp4:∀ b o,s.heap.get? b=some o->h4.get? b=some o:=fun b o e=>hsb.extBut b o (afr (aeV e)) (aeP _ e)
 refine ⟨I.nolimit.keeps kp4,kla_codeExpr ?_⟩
 let Z:Cx:=aay X scope qual c (p::N') A f s H
 have okZ:Z.Ok:=by
  refine ⟨ok.mod,hkind,rfl,rfl,aeL _,?_,?_,?_,fun _=>hd,Around.frames_deeper hA,.inr ⟨rfl,rfl⟩,?_,?_,?_,?_,?_,?_,?_⟩
  ·exact fun x y c h1 h2=>ok.inj x y c (clX x c h1) (clX y c h2)
  ·intro x hx
   have hx':scope.names.lookup x=some .cell\/scope.names.lookup x=some .free:=hx
   rcases hx' with z| z
   ·exact absurd rfl (hcell _ (afm z))
   ·exact af2.mp (Az scope.names [] x (afm z))
  ·intro x c hx h1
   have hx':((clo X.env.cells scope.names []).lookup x).isNone=true:=hx
   have h1':(clo X.env.cells scope.names []).lookup x=some c:=h1
   rw [h1'] at hx';cases hx'
  ·exact fun b hb=>absurd (show b∈([]:List Addr) from hb) (by simp)
  ·exact fun b o e=>I.bs b o e
  ·exact afB ok.bsz I.sz
  ·exact fun b o e hb=>absurd (show b∈([]:List Addr) from hb) (by simp)
  ·exact fun b hb=>absurd (show b∈([]:List Addr) from hb) (by simp)
  ·exact I.stack
  ·exact I.Dl
 have capl:cap.length=N'.length/\∀ p∈N'.zip cap,(match p.2 with| none=>true| some j=>N₀[j]? ==some p.1&& scope.names.lookup p.1 ==some .free)=true:=by
  unfold Jd at g5
  rw [afi] at g5
  exact ⟨by simpa using g5.1,fun p hp=>afA.mp g5.2 p hp⟩
 have IZ:Inv Z [] (Ei x cap σ) H { s with heap:=h4,toks:=s.toks+[(p,u)].length }:=by
  refine ⟨okZ,rfl,I.bare,Un.kept kp4,⟨_,hns,?_⟩,?_,?_,?_,fun p hp=>absurd (show p∈([]:List (Addr × Obj)) from hp) (by simp),I.hok.kept kp4,?_⟩
  ·intro i y v e1 e2 e3
   cases i with
   | zero =>
    have e1':p=y:=by
     have e1'':(p::N')[0]?=some y:=e1
     simpa using e1''
    have e2':x=v:=by
     have e2'':(Ei x cap σ)[0]?=some (some v):=e2
     simpa [Ei] using e2''
    subst e1' e2'
    exact ⟨u,rx,.inl ⟨hploc,by simp [List.lookup]⟩⟩
   | succ i =>
    have e1':N'[i]?=some y:=by
     have e1'':(p::N')[i+1]?=some y:=e1
     simpa using e1''
    have e2':(cap.map fun o=>o.bind fun j=>(σ[j]?).bind id)[i]?=some (some v):=by
     have e2'':(Ei x cap σ)[i+1]?=some (some v):=e2
     simpa [Ei] using e2''
    rw [aeQ] at e2'
    cases ec:cap[i]? with
    | none=>rw [ec] at e2';cases e2'
    | some o =>
     rw [ec] at e2'
     cases o with
     | none=>cases e2'
     | some j =>
      have e3':(σ[j]?).bind id=some v:=by simpa using e2'
      have hz:(y,some j)∈N'.zip cap:=by
       refine aeO (i:=i) ?_
       rw [afZ]
       exact ⟨e1',ec⟩
      have q:=capl.2 _ hz
      have q':(N₀[j]? ==some y)=true/\(scope.names.lookup y ==some NameKind.free)=true:=by simpa [afi] using q
      have q1:X.N[j]?=some y:=by rw [hN₀];simpa using q'.1
      have q2:scope.names.lookup y=some .free:=by simpa using q'.2
      have eσ:σ[j]?=some (some v):=by
       cases z:σ[j]? with
       | none=>rw [z] at e3';cases e3'
       | some y' =>
        rw [z] at e3'
        have:y'=some v:=e3'
        rw [this]
      have hk:=fr (y,.free) (afm q2) rfl
      obtain ⟨m,hn,hl⟩:=I.loc
      have vis:Vis X.env.scope y:=by
       rcases hk with z| z
       ·exact .inr (.inl z)
       ·exact .inr (.inr z)
      obtain ⟨u',r,l⟩:=hl j y v q1 eσ vis
      refine ⟨u',r,.inr ⟨.inr q2,?_⟩⟩
      rcases l with ⟨kl,_⟩ | ⟨_,c,ecx,hcx⟩
      ·rcases hk with z| z
       ·have z':X.env.kindOf y=some .cell:=z
        rw [kl] at z';cases z'
       ·have z':X.env.kindOf y=some .free:=z
        rw [kl] at z';cases z'
      ·have hh:=Az (cells:=X.env.cells) scope.names [] y (afm q2)
       obtain ⟨c',ec'⟩:=af2.mp hh
       have ec2:=clX y c' ec'
       rw [ecx] at ec2
       cases ec2
       exact ⟨c,ec',hcx.keeps kp4⟩
  ·intro y c e
   obtain ⟨v,z⟩:=I.cell y c (clX y c e)
   exact ⟨v,z.keeps kp4⟩
  ·exact I.hok.fresh (aeL _)
  ·exact fun y c e=>I.freeC y c (clX y c e)
  ·show (Ei x cap σ).length=(p::N').length
   unfold Ei
   rw [afb,afb,ac5,capl.1]
 refine wpAny_mono (hb [] _ _ H Q IZ h) (fun v s2 ⟨vv,H2,J,rv,q⟩=>?_) fun _ _ z=>z.elim
 refine ⟨vv,H2,rv,?_,q⟩
 have un:Un (frs X.stack) [] H H2 s.heap s2.heap:=J.base
 exact I.call' J.os un J.hok J.bare fun b hb=>absurd hb (by simp)
end
section
variable {X:Cx}{pins:List (Addr × Obj)}{σ:St}{H:Hp}{s:Shared}
theorem Inv.grow {P:Addr}{ps more:Array Value}{h':Heap}{t':Nat}(I:Inv X pins σ H s)(hP:H P=some (.tbl ps))(hx:Heap.ExtBut P s.heap h')(hP':h'.get? P=some { cls:=.none,data:=.fields (ps++more) }):
  Inv X pins σ (upd H P (.tbl (ps++more))) { s with heap:=h',toks:=t' }:=by
 have ne:∀ b,H b=none->b≠P:=fun b n z=>by rw [z,hP] at n;cases n
 have hL:X.env.locals≠P:=ne _ I.free;refine I.step (g':=s.gens) (d':=s.drawn) (ch:=[]) (fun _ z=>nomatch z) (fun b o _ _ _ e n=>hx b o (ne b n) e) (fun b o _ _ _ e n=>⟨o.slots,hx b o (ne b n) e⟩) (fun b o _ _ n=>by rw [aN (ne b n)];exact n) (fun b o _ e=>?_) (fun b xs e=>?_) (fun b ob u e=>?_) (fun b qs e=>?_) (fun m hm=>?_) (fun b u e=>?_) I.bare
 ·by_cases hb:b=P
  ·subst hb;exact ⟨_,hP'⟩
  ·exact ⟨o,hx b o hb e⟩
 ·rw [aN (fun z=>by rw [z,hP] at e;cases e)];exact e
 ·rw [aN (fun z=>by rw [z,hP] at e;cases e)];exact e
 ·by_cases hb:b=P
  ·subst hb;rw [hP] at e;cases e;exact ⟨more,by rw [aZ]⟩
  ·exact ⟨#[],by rw [aN hb,e];simp⟩
 ·exact hm.extBut hx hL
 ·by_cases hb:b=P
  ·subst hb;rw [aZ] at e;cases e;exact hP'
  ·rw [aN hb] at e;refine (I.hok b u e).stay (fun c v hc q=>hx c v ?_ q) (fun c q=>by rw [aN (fun z=>by rw [z,hP] at q;cases q)];exact q) fun c xs q=>by rw [aN (fun z=>by rw [z,hP] at q;cases q)];exact q
   rcases hc with z| z
   ·rw [z];exact hb
   ·intro w;rw [w,hP] at z;cases z
def TabOk (P:Addr)(pos:Pos)(qual:Str)(H:Hp):Prop:=H P=some (.tbl #[])\/∃ c':Addr,H P=some (.tbl #[rawInt pos.line,rawInt pos.col,.ref c'])/\H c'=some (.ext fun h=>h.CodeRec (.ref c') qual)
def BM (mg:Str->Option Value)(base:Heap):Prop:=∃ bm ob,mg "__builtins__"=some (.ref bm)/\bm≠builtinsNs/\bm≠mainGlobals/\base.get? bm=some ob/\ob.cls=.type "module"/\ob.dict=some builtinsNs/\ob.data=.plain
theorem RL {P c:Addr}{params:Arguments}{body:Expr}{scope:Scope}{pos:Pos}{Q:Value->Shared->Prop}{E:Value->Shared->Prop}{A:Around}(sc:Scope)(hsc:X.env.scope=sc)(f1:freeOk sc scope=true)(I:Inv X pins σ H s)(hbm:BM X.mg X.base)(hcode:X.env.code=.ref c)
  (hhd:codeHdIn X.K c P=true)(hT:TabOk P pos (X.env.qual++"<lambda>") H)(hdef:defaultsOf params X.env=([],[]))
  (h:∀ (f:Addr)(H':Hp)(s':Shared)(c':Addr)(pm ctv:Value),(∀ b o,H b=some o->b≠P->H' b=some o)->(∀ b,H' b=none->H b=none)->TabOk P pos (X.env.qual++"<lambda>") H'->H' c'=some (.ext fun h=>h.CodeRec (.ref c') (X.env.qual++"<lambda>")) ->
   Inv X (pins++[(f,({ cls:=.type "function",data:=.func (kla_fn "<lambda>" (X.env.qual++"<lambda>") params body scope (clo X.env.cells scope.names []) pm (.ref c') ctv) }:Obj))]) σ H' s'->Q (.ref f) s'):
  wpAny (model X.prog X.w) A (eval (.Lambda params body scope pos) X.env) Q E s:=by
 have ok:=I.ok
 have fr:∀ y∈scope.names,y.2=.free->X.env.kindOf y.1=some .cell\/X.env.kindOf y.1=some .free:=fun y hy e=>by
  have q:=afA.mp f1 y hy
  rw [e] at q
  have q':((sc.names.lookup y.1 ==some NameKind.cell) || (sc.names.lookup y.1 ==some NameKind.free))=true:=by simpa using q
  rw [Bool.or_eq_true] at q'
  unfold Env.kindOf
  rw [hsc]
  rcases q' with z| z
  ·exact .inl (by simpa using z)
  ·exact .inr (by simpa using z)
 have hclos:closureFor scope X.env=pure (clo X.env.cells scope.names []):=uF fun y hy e=>ok.has y.1 (fr y hy e)
 have hg:s.heap.Ns mainGlobals X.mg:=I.mod.glob.keeps I.bk
 have C:CodeHd s.heap c P:=codeHd_of_K I.kIn hhd
 obtain ⟨bm,ob,b1,b2,b3,b4,b5,b6,b7⟩:=hbm
 have hbmP:∀ ps,H P=some (.tbl ps)->bm≠P:=fun ps e z=>by
  have:=(I.bs bm ob b4).2
  rw [z,e] at this;cases this
 have hB:∀ ps,H P=some (.tbl ps)->s.heap.BuiltinsAt X.mg P:=fun ps e=>⟨bm,ob,b1,b2,b3,hbmP ps e,I.bk bm ob b4,b5,b6,b7⟩
 refine kla_eval hdef ?_
 rcases hT with hT| ⟨c',hT,hc'⟩
 ·have hPo:s.heap.get? P=some (tabObj #[]):=I.hok P _ hT
  have hgP:mainGlobals≠P:=fun q=>by
   obtain ⟨o,es,ep,e,hd,_⟩:=id hg
   rw [q,hPo] at e;cases e;cases hd
  refine kla_makeFunction (mg:=X.mg) hclos ok.glob hg hcode C hPo trivial rfl hgP (hB _ hT) fun c' ctv h' tk hx hge hlt hrec htb=>?_
  have hPlt:P<s.heap.objs.size:=aeV hPo
  have I1:Inv X pins σ (upd H P (.tbl (#[]++#[rawInt pos.line,rawInt pos.col,.ref c']))) { s with heap:=h',toks:=tk }:=I.grow hT hx htb
  have nc':H c'=none:=I.hok.fresh hge
  have hcP:c'≠P:=fun z=>by rw [z] at hge;exact absurd hPlt (Nat.not_lt.mpr hge)
  have nc1:(upd H P (.tbl (#[]++#[rawInt pos.line,rawInt pos.col,.ref c']))) c'=none:=by rw [aN hcP];exact nc'
  obtain ⟨q0,q1,q2,q3,q4,q5⟩:=I.IK (H':=H) hge nc'
  have hs0:X.s₀.heap.objs.size<=c':=afB I.sz hge
  have I2:=I1.adopt (a:=c') (o:=.ext fun h=>h.CodeRec (.ref c') (X.env.qual++"<lambda>")) nc1 q1 hs0 q4 q5
   ⟨hrec,by obtain ⟨cc,o,vs,t,e1,e2,_⟩:=hrec;cases e1;exact ⟨o,e2⟩,fun h1 h2 x k=>x.at k⟩
  have I3:=I2.kept (h':=h'.push (kla_obj "<lambda>" (X.env.qual++"<lambda>") params body scope (clo X.env.cells scope.names []) ((X.mg "__name__").getD .none) c' ctv)) (t':=tk) fun b o e=>aeP _ e
  have nf:(upd (upd H P (.tbl (#[]++#[rawInt pos.line,rawInt pos.col,.ref c']))) c' (.ext fun h=>h.CodeRec (.ref c') (X.env.qual++"<lambda>"))) h'.objs.size=none:=I2.hok.fresh (aeL _)
  have I4:=I3.xO (I2.IK (aeL _) nf) (aeW _ rfl) (fun v z=>by cases z)
  refine h _ _ _ c' _ ctv (fun b o e hb=>?_) (fun b e=>?_) (.inr ⟨c',?_,aZ⟩) aZ I4
  ·rw [aN (bR e nc'),aN hb];exact e
  ·cases z:H b with
   | none=>rfl
   | some o =>
    by_cases hb:b=P
    ·rw [hb,aN hcP.symm,aZ] at e;cases e
    ·rw [aN (bR z nc'),aN hb,z] at e;cases e
  ·rw [aN hcP.symm,aZ];simp
 ·have hPo:s.heap.get? P=some (tabObj #[rawInt pos.line,rawInt pos.col,.ref c']):=I.hok P _ hT
  have hfnd:codeAmong pos (#[rawInt pos.line,rawInt pos.col,.ref c']:Array Value).toList=some (.ref c'):=by simp [codeAmong,rawInt]
  refine kla_makeFunctionHit (mg:=X.mg) hclos ok.glob hg hcode C hPo trivial hfnd (hB _ hT) fun ctv h' tk hk hsz=>?_
  have I1:Inv X pins σ H { s with heap:=h',toks:=tk }:=I.kept hk
  have I3:=I1.kept (h':=h'.push ({ cls:=.type "function",data:=.func (kla_fn "<lambda>" (X.env.qual++"<lambda>") params body scope (clo X.env.cells scope.names []) ((X.mg "__name__").getD .none) (.ref c') ctv) }:Obj)) (t':=tk) fun b o e=>aeP _ e
  have nf:H h'.objs.size=none:=I1.hok.fresh (aeL _)
  have I4:=I3.xO (I1.IK (aeL _) nf) (aeW _ rfl) (fun v z=>by cases z)
  exact h _ _ _ c' _ ctv (fun b o e _=>e) (fun b e=>e) (.inr ⟨c',hT,hc'⟩) hc' I4
end
def jx (n:Nat):List V:=(List.range n).map fun (i:Nat)=>V.int (i:Int)
def QM (P:Addr)(lpos:Pos)(qual:Str)(cap:List (Option Nat))(ta:TA)(te:TE):TE:=fun σ H Q=>ta σ H fun vs H1=>∃ n:Nat,vs=[.int (n:Int)]/\n<64/\TabOk P lpos qual H1 /\
 ∀ H2,(∀ b o,H1 b=some o->b≠P->H2 b=some o)->(∀ b,H2 b=none->H1 b=none)->TabOk P lpos qual H2 ->
  ∃ (Pv:Nat->List Addr->Hp->Prop)(key:Nat->List Int)(κ:Nat->Int)(m:Nat),Pv 0 [] H2/\(∀ i ts H3,i<n->Pv i ts H3->(∀ c',H2 c'=some (.ext fun h=>h.CodeRec (.ref c') qual)->H3 c'=some (.ext fun h=>h.CodeRec (.ref c') qual))/\te (Ei (.int (i:Int)) cap σ) H3 fun v H4=>∃ t,v=.ref t/\Pv (i+1) (ts++[t]) H4) /\
   (∀ ts H3,Pv n ts H3->∀ i t,ts[i]?=some t->H3 t=some (.tup ((key i).map V.int)))/\(∀ i,i<n->(key i).length=m+1)/\(∀ i j,i<n->j<n->HT.lexLt (key i) (key j)=decide (κ i<κ j))/\Inj n κ /\
   ∀ ts H3 D ys,Pv n ts H3->H3 D=none->wQ κ (jx n) ys->Q (.ref D) (upd H3 D (.lst ys))
section
variable {X:Cx}{e body:Expr}{ta:TA}{te:TE}{params:Arguments}{scope:Scope}{p1 p2 p3 lpos kp pos:Pos}
theorem yJ {P c:Addr}{p:Str}(sc:Scope)(hsc:X.env.scope=sc)(N₀:List Str)(hN₀:X.N=N₀)(N':List Str)(cap:List (Option Nat))(f1:freeOk sc scope=true)(f2:Ig scope=true)(f3:aax scope p N₀ N' cap=true)
  (hcalm:X.calm=true)(hbm:BM X.mg X.base)(hcode:X.env.code=.ref c)(hhd:codeHdIn X.K c P=true)(hroom:X.A.depth+4<recursionLimit)
  (hgs:Gl X "sorted")(hms:X.mg "sorted"=none)(hgr:Gl X "range")(hmr:X.mg "range"=none)(ha:PA X [e] ta)
  (hb:∀ (A:Around)(f:Addr)(cv:Value)(s:Shared)(H:Hp),A.handled=none->A.depth<=X.A.depth+2->A.units<=X.A.units+2->PE (aay X scope (X.env.qual++"<lambda>") cv (p::N') A f s H) body te)
  (hbind:∀ (pm cv ctv u:Value),bindArgs (kla_fn "<lambda>" (X.env.qual++"<lambda>") params body scope (clo X.env.cells scope.names []) pm cv ctv) ⟨[u],[]⟩=pure [(p,u)])
  (hdef:defaultsOf params X.env=([],[]):=by rfl)(hs:starEach [e] X.env=[(false,eval e X.env)]:=by rfl):
  PE X (.Call (.Name "sorted" p1) [.Call (.Name "range" p2) [e] [] p3] [⟨some "key",.Lambda params body scope lpos,kp⟩] pos) (QM P lpos (X.env.qual++"<lambda>") cap ta te):=by
 intro pins s σ H Q I h
 refine wpAny_Call_Name_kw (mF I hgs hms boot_sorted ?_)
 refine callWith_kw ?_
 show wpAny _ _ (spliced ((false,eval (.Call (.Name "range" p2) [e] [] p3) X.env)::[])) _ _ s
 refine afV (Call_ (mF I hgr hmr boot_range (afp (thn (ha p3 pins s σ H _ I h) fun us s1 ⟨vs,H1,I1,r1,q1⟩=>?_) hs rfl)))
 obtain ⟨n,e1,hn,hT,q⟩:=q1
 subst e1
 obtain ⟨u,rfl,t,rfl⟩:=vals1 r1
 refine call_range_1 ?_
 refine aga ?_
 generalize hro:({ cls:=.type "range",data:=.fields #[.int 0 s1.toks,.int (n:Int) t,.int 1 (s1.toks+1)] }:Obj)=ro
 have hrd:∀ v,ro.data≠.cell v:=fun v z=>by rw [<- hro] at z;cases z
 have I2:Inv X pins σ H1 { s1 with heap:=s1.heap.push ro,toks:=s1.toks+1+1 }:=I1.kept fun b o e=>aeP _ e
 have nr:H1 s1.heap.objs.size=none:=I1.hok.fresh (aeL _)
 have I3:=I2.xO (I1.IK (aeL _) nr) (aeW _ (by rw [<- hro];rfl)) hrd
 generalize ({ s1 with heap:=s1.heap.push ro,toks:=s1.toks+1+1 }:Shared)=s2 at I3 ⊢
 generalize s1.heap.objs.size=r at I3 ⊢
 refine kws_cons (RL (P:=P) (c:=c) sc hsc f1 I3 hbm hcode hhd hT hdef fun f H2 s3 c' pm ctv k1 k2 hT2 hc' I4=>?_)
 refine kws_nil ?_
 show wpAny _ _ (call (.builtin "sorted") [.ref r] [(Str.ofString "key",.ref f)]) _ _ s3
 obtain ⟨Pv,key,κ,m,p0,step,htup,hlong,hκ,hinj,fin⟩:=q H2 k1 k2 hT2
 refine call_function_entry_kw kind_sorted plain_sorted entry_sorted (ksk_s1 _ _) ?_
 unfold Builtin.«sorted»
 refine wpAny_bind (m:=checkCount "sorted" 1 1 _) (wpAny_pure ?_)
 have pr:=I4.pin (r,ro) (aeK _ (afw _ (aeK _ (by simp))))
 have hR:IsRange s3.heap r 0 (n:Int) 1 s1.toks t (s1.toks+1):=by
  show s3.heap.get? r=_
  rw [pr.1,<- hro]
 have hrs:Builtin.Range.rangeSize 0 (n:Int) 1=(n:Nat):=by rw [rangeSize_one];split <;>omega
 refine wpAny_bind (Fi (A:=X.A.in1) (I.ok.hd hcalm) hR (small_one (by omega) (by omega) (by omega) (by omega)) hrs (by omega) fun h' tk vs hk rv=>?_)
 have I5:Inv X _ σ H2 { s3 with heap:=h',toks:=tk }:=I4.kept hk
 have hlen:=rv.length
 rw [ac5,afz] at hlen
 refine wpAny_bind (wpAny_newList ?_ (by rw [sizeLine_eq];omega))
 have nD:H2 h'.objs.size=none:=I5.hok.fresh (aeL _)
 have I6:Inv X _ σ H2 { s3 with heap:=h'.push (seqObj "list" vs.toArray 0),toks:=tk }:=I5.kept (t':=tk) fun b o e=>aeP _ e
 have hD6:(h'.push (seqObj "list" vs.toArray 0)).get? h'.objs.size=some (seqObj "list" vs.toArray 0):=aeW _ rfl
 have hxl:((List.range n).map fun (i:Nat)=>V.int (i:Int)).length=n:=by simp
 refine wpAny_bind (wpAny_holding (wpAny_call_entry_kw slot_list_sort ⟨_,hD6,rfl⟩ entry_list_sort ?body (ksk_l1 _ _)))
 show wpAny (model X.prog X.w) X.A.in1.in1 (Builtin.«list.sort» ⟨[.ref h'.objs.size],[(Str.ofString "key",.ref f)]⟩) _ _ _
 rw [ksk_t1]
 refine wpAny_mono (M7 (X:=X) (A:=X.A.in1.in1) (s:={ s3 with heap:=h'.push (seqObj "list" vs.toArray 0),toks:=tk }) (xs:=jx n) (key:=key) (κ:=κ) (m:=m) (n0:=0) rv (by show ((List.range n).map _).length<64;rw [hxl];exact hn) Pv I6 hD6
  (fun H' hn'=>I5.IK (aeL _) hn') nD (afB I5.sz (aeL _)) p0 ?call ?tup ?long ?kap ?inj) ?_ fun _ _ x=>x
 case call =>
  intro i x u ts pins' s' H' hx rx I' hsub pv
  obtain ⟨hi,ex⟩:i<n/\x=V.int (i:Int):=by
   have hx':((List.range n).map fun (i:Nat)=>V.int (i:Int))[i]?=some x:=hx
   rw [aeQ] at hx'
   by_cases hi:i<n
   ·rw [afN hi] at hx'
    exact ⟨hi,(aeY hx').symm⟩
   ·rw [afu (by rw [afz];omega)] at hx';cases hx'
  subst ex
  obtain ⟨hkc,ht⟩:=step i ts H' hi pv
  have hcr:s'.heap.CodeRec (.ref c') (X.env.qual++"<lambda>"):=(I'.hok c' _ (hkc c' hc')).1
  refine wpAny_mono (RM (X:=X) (A:=X.A.in1.in1) sc hsc N₀ hN₀ f1 f2 f3 I' I.ok.frames (I.ok.hd hcalm) (by show X.A.depth<recursionLimit;omega) (hsub _ (aeK _ afd)) hcr (hbind _ _ _ _)
   (hb _ f _ s' H' (I.ok.hd hcalm) (by show X.A.depth<=X.A.depth+2;omega) (by show X.A.units+1+1<=X.A.units+2;omega)) rx ht) (fun k s2 ⟨v,H3,rv',I7,t',ev,pv'⟩=>?_) fun _ _ x=>x
  subst ev
  have ek:k=.ref t':=rv'
  exact ⟨t',H3,ek,I7,pv'⟩
 case tup =>
  intro ts H' pv
  have pv':Pv n ts H':=by
   have:Pv ((List.range n).map fun (i:Nat)=>V.int (i:Int)).length ts H':=pv
   rw [hxl] at this;exact this
  exact htup ts H' pv'
 case long =>
  intro i hi
  have hi':i<((List.range n).map fun (i:Nat)=>V.int (i:Int)).length:=hi
  rw [hxl] at hi'
  exact hlong i hi'
 case kap =>
  intro i j hi hj
  have hi':i<((List.range n).map fun (i:Nat)=>V.int (i:Int)).length:=hi
  have hj':j<((List.range n).map fun (i:Nat)=>V.int (i:Int)).length:=hj
  rw [hxl] at hi' hj'
  exact hκ i j hi' hj'
 case inj =>
  have:(jx n).length=n:=hxl
  rw [this];exact hinj
 rintro fin' s8 ⟨rfl,ts,H8,ys,pv,nD8,hsb,I8⟩
 refine ⟨_,rfl,wpAny_pure ⟨_,rfl,?_⟩⟩
 have pv':Pv n ts H8:=by
  have e':(jx n).length=n:=hxl
  rw [e'] at pv;exact pv
 exact ⟨.ref h'.objs.size,_,I8.j8.j8,rfl,fin ts H8 _ ys pv' nD8 hsb⟩
end
def aaP (ts:List Addr)(H:Hp):Prop:=∀ b,H b=none\/(∃ o xs,H b=some (.frz o (.lst xs)))\/(b∈ts/\H b=some (.tbl #[]))
theorem Oo {P:Program}{w:World}{K:PySem.W.Frag}{mg mb:Str->Option Value}{CX:CXT}{k:Nat}{fa a:Addr}{fd:FuncData}{x:Str}{sp:Sp}{s₁:Shared}{vs:List Value}{ns:List Int}{ts:List Addr}
  (KX:K.In s₁.heap)(hns:s₁.heap.Ns mainGlobals mg)(hb:s₁.heap.Ns builtinsNs mb)(hbb:∀ x:Str,x≠"__name__"->mb x=bootBuiltins x)(hlim:s₁.heap.NoLimit)(hg:s₁.gens=#[])
  (ha:s₁.heap.get? a=some { cls:=.type "list",data:=.seq vs.toArray })(hi:IntsAre vs ns)(hl:ns.length<=sizeLine)(hr:sX k callerA)
  (hts:∀ P∈ts,s₁.heap.get? P=some (tabObj #[]))(htk:∀ P∈ts,K.lookup P=none)(htc:∀ P∈ts,isCodeTable s₁.heap P)
  (hbm:∃ bm ob,mg "__builtins__"=some (.ref bm)/\bm≠builtinsNs/\s₁.heap.get? bm=some ob/\ob.cls=.type "module"/\ob.dict=some builtinsNs/\ob.data=.plain)
  (F:∀ base:Heap,K.In base->base.Ns mainGlobals mg->BM mg base->Hs P w K mg base CX k fa fd [x] sp)(hbind:∀ (s:Shared)(u:Value),BindsTo s fd ⟨[u],[]⟩ [(x,u)])
  (hsp:∀ H:Hp,aaP ts H->(∀ P∈ts,H P=some (.tbl #[]))->SqL K H a (ns.map V.int)->sp [.ref a] H (fun v _=>v=.bl true) fun _ _ _=>False)
  (hCX:∀ H e s',CX [] H s₁ (fun _ _ _=>False) e s'->False):
  codeAny (model P w) callerA (.call (.ref fa) ⟨[.ref a],[]⟩) (fun r s'=>r=.ok (.ret (.bool true))/\OldK s₁.heap s'.heap/\s'.os=s₁.os/\AllBare s'.gens) s₁:=by
 have rv:=Fx hi
 have lenV:=hi.length
 have haT:a ∉ ts:=fun z=>by have:=hts a z;rw [ha] at this;cases this
 have core:∀ H:Hp,aaP ts H->(∀ P∈ts,H P=some (.tbl #[]))->SqL K H a (ns.map V.int)->HOk P w H s₁.heap->(∀ b,H b≠none->b=a\/b∈ts)->(H a≠none->K.lookup a=none) ->
   codeAny (model P w) callerA (.call (.ref fa) ⟨[.ref a],[]⟩) (fun r s'=>r=.ok (.ret (.bool true))/\OldK s₁.heap s'.heap/\s'.os=s₁.os/\AllBare s'.gens) s₁:=by
  intro H hO hTb hS hok hA hK
  have base_of:∀ {b:Addr}{o:Obj},s₁.heap.get? b=some o->H b=none->(Qx s₁.heap H).get? b=some o:=fun e n=>R4 e n
  have noA:∀ {b:Addr}{o:Obj},s₁.heap.get? b=some o->(∀ xs n,o.data≠.seq xs n)->(∀ ps,o.data≠.fields ps)->H b=none:=fun {b o} e d1 d2=>by
   cases q:H b with
   | none=>rfl
   | some u =>
    rcases hA b (by rw [q];simp) with e' | e'
    ·subst e'
     rw [ha] at e;cases e
     exact absurd rfl (d1 _ _)
    ·have:=hts b e'
     rw [e] at this;cases this
     exact absurd rfl (d2 _)
  have nsK:∀ {b:Addr}{m:Str->Option Value},s₁.heap.Ns b m->(Qx s₁.heap H).Ns b m:=fun {b m} ⟨o,es,ep,e,d,r⟩=>⟨o,es,ep,base_of e (noA e (fun _ _ z=>by rw [d] at z;cases z) fun _ z=>by rw [d] at z;cases z),d,r⟩
  have hKb:K.In (Qx s₁.heap H):=fun b o e=>base_of (KX b o e) (by
   cases q:H b with
   | none=>rfl
   | some u =>
    rcases hA b (by rw [q];simp) with e' | e'
    ·subst e'
     rw [hK (by rw [q];simp)] at e;cases e
    ·rw [htk b e'] at e;cases e)
  have hM:Mod K mg (Qx s₁.heap H):=⟨hKb,nsK hns,⟨mb,nsK hb,hbb⟩,let ⟨mc,h1,h2⟩:=hlim;⟨mc,nsK h1,h2⟩⟩
  have hBM:BM mg (Qx s₁.heap H):=by
   obtain ⟨bm,ob,c1,c2,c3,c4,c5,c6⟩:=hbm
   refine ⟨bm,ob,c1,c2,fun q=>?_,base_of c3 (noA c3 (fun _ _ z=>by rw [c6] at z;cases z) fun _ z=>by rw [c6] at z;cases z),c4,c5,c6⟩
   obtain ⟨o,es,ep,e,hd,_⟩:=id hns
   rw [q,e] at c3;cases c3;rw [hd] at c6;cases c6
  have e0:aaR P w K mg (Qx s₁.heap H) callerA [] s₁ H:=⟨rfl,hM,fun b o e=>aap e,Nat.le_of_eq (O9 _ _),trivial,fun b hb=>absurd (show b∈([]:List Addr) from hb) (by simp),hok,.of_eq hg⟩
  refine codeAny_mono ((F _ hKb (nsK hns) hBM).run callerA [] s₁ H ⟨[.ref a],[]⟩ [.ref a] [.ref a] _ _ hr e0 (hbind s₁ (.ref a)) (.cons rfl .nil) (hsp H hO hTb hS)) fun r s' h=>?_
  cases r with
  | error e=>exact (hCX H e s' h).elim
  | ok fl =>
   cases fl with
   | next=>exact False.elim h
   | brk=>exact False.elim h
   | cont=>exact False.elim h
   | ret u =>
    obtain ⟨v,H',os,bare,un,hok',r',q⟩:=h
    have q':v=.bl true:=q
    subst q'
    obtain rfl:u=Value.bool true:=r'
    have old:∀ b o,s₁.heap.get? b=some o->asItWas s₁.heap s'.heap b o:=fun b o e=>by
     rcases hO b with z| ⟨ob,xs,z⟩ | ⟨hbt,z⟩
     ·exact .inl (un.keep b o e z (by intro z;exact absurd (show b∈([]:List Addr) from z) (by simp)) (by simp))
     ·have z2:=un.frzs b ob _ z
      obtain ⟨e1,_⟩:=hok b _ z
      obtain ⟨e2,_⟩:=hok' b _ z2
      rw [e] at e1;cases e1
      exact .inl e2
     ·obtain ⟨more,z2⟩:=un.tbls b #[] z
      have e2:s'.heap.get? b=some { cls:=.none,data:=.fields (#[]++more) }:=hok' b _ z2
      have e3:=hts b hbt
      rw [e] at e3;cases e3
      exact .inr (.inl ⟨htc b hbt,rfl,#[],more,rfl,e2⟩)
    refine ⟨rfl,⟨old,fun b o e=>?_⟩,os,bare⟩
    exact un.there b o e (by simp)
 have tb:∀ b,(if b∈ts then some (HO.tbl #[]) else none)=none\/b∈ts:=fun b=>by
  by_cases h:b∈ts
  ·exact .inr h
  ·exact .inl (if_neg h)
 cases hk:K.lookup a with
 | some o =>
  have e:=KX a o hk
  rw [ha] at e
  cases e
  refine core (fun b=>if b∈ts then some (.tbl #[]) else none) (fun b=>?_) (fun P hP=>if_pos hP) (.inr ⟨_,vs.toArray,_,hk,rfl,rfl,rfl,by rw [aeX,lenV];exact hl,by simpa using rv⟩) (fun b u z=>?_) (fun b z=>?_) (fun z=>absurd (if_neg haT) z)
  ·by_cases h:b∈ts
   ·exact .inr (.inr ⟨h,if_pos h⟩)
   ·exact .inl (if_neg h)
  ·by_cases h:b∈ts
   ·have z':=(if_pos h).symm.trans z
    cases z'
    exact hts b h
   ·have z':=(if_neg h).symm.trans z
    cases z'
  ·by_cases h:b∈ts
   ·exact .inr h
   ·exact absurd (if_neg h) z
 | none =>
  refine core (fun b=>if b=a then some (.frz { cls:=.type "list",data:=.seq vs.toArray } (.lst (ns.map V.int))) else if b∈ts then some (.tbl #[]) else none) (fun b=>?_) (fun P hP=>?_) (.inl (.inr ⟨{ cls:=.type "list",data:=.seq vs.toArray },if_pos rfl⟩)) (fun b u z=>?_) (fun b z=>?_) fun _=>hk
  ·by_cases hb:b=a
   ·exact .inr (.inl ⟨_,_,if_pos hb⟩)
   ·by_cases h:b∈ts
    ·exact .inr (.inr ⟨h,(if_neg hb).trans (if_pos h)⟩)
    ·exact .inl ((if_neg hb).trans (if_neg h))
  ·have hb:P≠a:=fun z=>haT (z ▸ hP)
   exact (if_neg hb).trans (if_pos hP)
  ·by_cases hb:b=a
   ·have z':=(if_pos hb).symm.trans z
    cases z'
    subst hb
    exact ⟨ha,by rw [ac5];exact hl,vs,_,rv,ha⟩
   ·have z1:=(if_neg hb).symm.trans z
    by_cases h:b∈ts
    ·have z':=(if_pos h).symm.trans z1
     cases z'
     exact hts b h
    ·have z':=(if_neg h).symm.trans z1
     cases z'
  ·by_cases hb:b=a
   ·exact .inl hb
   ·by_cases h:b∈ts
    ·exact .inr h
    ·exact absurd ((if_neg hb).trans (if_neg h)) z
theorem QG {l:PySem.W.OpenLaw}{n k:Nat}{q:Program}{loose:List Str}{XP:(Str->Option Value)->Heap->Prop}{YP:World->Heap->Prop}{d:DefRec}{K:Params->PySem.W.Frag}{CX:World->CXT}{sp:World->Sp}{x:Str}{ts:List Addr}
  (hn:l.most=some n)(hn2:n<=sizeLine)(hdf:d.params.defaults=[])(hr:sX k callerA)
  (hY:∀ (w:World)(h:Heap),YP w h->(K w.params).In h)(hYt:∀ (w:World)(h:Heap),YP w h->∀ P∈ts,h.get? P=some (tabObj #[]))
  (hts:∀ (w:World),∀ P∈ts,(K w.params).lookup P=none/\∃ c,codeHdIn (K w.params) c P=true)
  (F:∀ (w:World)(mg:Str->Option Value)(fa:Addr)(h:Heap),(K w.params).In h->h.Ns mainGlobals mg->mg d.name=some (.ref fa) ->
   ∃ fd:FuncData,(∀ (s:Shared)(u:Value),BindsTo s fd ⟨[u],[]⟩ [(x,u)]) /\
    ∀ base:Heap,(K w.params).In base->base.Ns mainGlobals mg->BM mg base->Hs l.prog w (K w.params) mg base (CX w) k fa fd [x] (sp w))
  (hsp:∀ (w:World)(H:Hp)(a:Addr)(ns:List Int),ns.length<=n->aaP ts H->(∀ P∈ts,H P=some (.tbl #[]))->SqL (K w.params) H a (ns.map V.int)->sp w [.ref a] H (fun v _=>v=.bl true) fun _ _ _=>False)
  (hCX:∀ (w:World)(H:Hp)(s:Shared)(e:Value)(s':Shared),CX w [] H s (fun _ _ _=>False) e s'->False):
  PySem.W.WalkO q loose XP YP l.row.toRowW d [] (fun f vs=>PySem.call f vs):=by
 refine Att.Jf hn hdf fun w s₀ s₁ mg mb fa o pm cd doc a vs ns G Y ho hd hcd hmg hobj hints hlen hg=>?_
 have KX:=hY w _ Y
 obtain ⟨fd,hb,hF⟩:=F w mg fa _ KX G.T.g hmg
 refine Oo KX G.T.g G.T.b G.T.builtins G.T.nolimit hg hobj hints (afB hlen hn2) hr (hYt w _ Y) (fun P hP=>(hts w P hP).1) (fun P hP=>?_) G.T.bmain hF hb (fun H hO hT hS=>hsp w H a ns hlen hO hT hS) fun H e s'=>hCX w H s₁ e s'
 obtain ⟨c,hc⟩:=(hts w P hP).2
 obtain ⟨o,vs,file,tf,flags,tg,inF,text,tt,e1,e2,e3,e4,_⟩:=codeHd_of_K KX hc
 exact ⟨c,o,vs,e1,e2,e3,e4⟩
end L2
namespace L2
open PySem PySem.Spec PyProof.Rows
mutual
inductive Den (K:PySem.W.Frag)(H:Hp):V->PyData->Prop
 | non:Den K H .non .none
 | bl (b:Bool):Den K H (.bl b) (.bool b)
 | int (i:Int):Den K H (.int i) (.int i)
 | str (x:Str):Den K H (.str x) (.str x)
 | list {a:Addr} {xs:List V} {ds:List PyData}:SqL K H a xs->bZ K H xs ds->Den K H (.ref a) (.list ds)
 | tuple {a:Addr} {xs:List V} {ds:List PyData}:SqT K H a xs->bZ K H xs ds->Den K H (.ref a) (.tuple ds)
inductive bZ (K:PySem.W.Frag)(H:Hp):List V->List PyData->Prop
 | nil:bZ K H [] []
 | cons {v:V} {vs:List V} {d:PyData} {ds:List PyData}:Den K H v d->bZ K H vs ds->bZ K H (v::vs) (d::ds)
end
theorem bZ.length {K:PySem.W.Frag}{H:Hp}:∀ {vs:List V}{ds:List PyData},bZ K H vs ds->vs.length=ds.length
 | _,_,.nil=>rfl
 | _,_,.cons _ hs=>by rw [afb,afb,bZ.length hs]
theorem bZ.append {K:PySem.W.Frag}{H:Hp}:∀ {vs ws:List V}{ds es:List PyData},bZ K H vs ds->bZ K H ws es->bZ K H (vs++ws) (ds++es)
 | _,_,_,_,.nil,h=>h
 | _,_,_,_,.cons h hs,h'=>.cons h (bZ.append hs h')
theorem bZ.get {K:PySem.W.Frag}{H:Hp}:∀ {vs:List V}{ds:List PyData}{i:Nat}{d:PyData},bZ K H vs ds->ds[i]?=some d->∃ v,vs[i]?=some v/\Den K H v d
 | _,_,_,_,.nil,e=>by simp at e
 | _,_,0,_,.cons h _,e=>by simp at e;subst e;exact ⟨_,rfl,h⟩
 | _,_,i+1,d,.cons _ hs,e=>by
  obtain ⟨v,h1,h2⟩:=bZ.get (i:=i) (d:=d) hs (by simpa using e);exact ⟨v,by simpa using h1,h2⟩
theorem bZ.get' {K:PySem.W.Frag}{H:Hp}:∀ {vs:List V}{ds:List PyData}{i:Nat}{v:V},bZ K H vs ds->vs[i]?=some v->∃ d,ds[i]?=some d/\Den K H v d
 | _,_,_,_,.nil,e=>by simp at e
 | _,_,0,_,.cons h _,e=>by simp at e;subst e;exact ⟨_,rfl,h⟩
 | _,_,i+1,v,.cons _ hs,e=>by
  obtain ⟨d,h1,h2⟩:=bZ.get' (i:=i) (v:=v) hs (by simpa using e);exact ⟨d,by simpa using h1,h2⟩
theorem bZ.set {K:PySem.W.Frag}{H:Hp}{v:V}{d:PyData}(h:Den K H v d):∀ {vs:List V}{ds:List PyData}(i:Nat),bZ K H vs ds->bZ K H (vs.set i v) (ds.set i d)
 | _,_,_,.nil=>.nil
 | _,_,0,.cons _ hs=>.cons h hs
 | _,_,i+1,.cons q hs=>.cons q (bZ.set h i hs)
theorem bZ.ints {K:PySem.W.Frag}{H:Hp}:∀ (ns:List Int),bZ K H (ns.map V.int) (ns.map PyData.int)
 | []=>.nil
 | n::ns=>.cons (.int n) (bZ.ints ns)
def vN (ns:List Int):PyData:=.list (ns.map PyData.int)
theorem Den.ints {K:PySem.W.Frag}{H:Hp}{a:Addr}{ns:List Int}(h:SqL K H a (ns.map V.int)):Den K H (.ref a) (vN ns):=.list h (bZ.ints ns)
theorem bZ.int_inv {K:PySem.W.Frag}{H:Hp}:∀ {vs:List V}{ns:List Int},bZ K H vs (ns.map PyData.int)->vs=ns.map V.int
 | _,[],.nil=>rfl
 | _,n::ns,.cons h hs=>by
  cases h;rw [bZ.int_inv hs];rfl
theorem Den.ud {K:PySem.W.Frag}{H:Hp}{v:V}{ns:List Int}(h:Den K H v (vN ns)):∃ a,v=.ref a/\SqL K H a (ns.map V.int):=by
 cases h with
 | list h hs=>exact ⟨_,rfl,by rw [<- bZ.int_inv hs];exact h⟩
section
variable {X:Cx}{pins:List (Addr × Obj)}{σ:St}{H:Hp}{s:Shared}
mutual
theorem Den.reads (I:Inv X pins σ H s):∀ {v:V}{d:PyData}{u:Value},Den X.K H v d->RelV v u->∃ as,Reads s.heap u d as
 | _,_,_,.non,r=>by cases r;exact ⟨_,.none⟩
 | _,_,_,.bl b,r=>by cases r;exact ⟨_,.bool b⟩
 | _,_,_,.int i,r=>by obtain ⟨t,rfl⟩:=r;exact ⟨_,.int i t⟩
 | _,_,_,.str x,r=>by obtain ⟨t,rfl⟩:=r;exact ⟨_,.str x t⟩
 | _,_,_,.list h hs,r=>by
  cases r;obtain ⟨its,r1,⟨o,n,e,c,_,d⟩,_⟩:=I.list h;obtain ⟨as,q⟩:=bZ.reads I hs r1;exact ⟨_,.list e c d (by simpa using q)⟩
 | _,_,_,.tuple h hs,r=>by
  cases r;obtain ⟨its,r1,⟨o,e,c,n,d⟩,_⟩:=I.tuple h;obtain ⟨as,q⟩:=bZ.reads I hs r1;exact ⟨_,.tuple e c d (by simpa using q)⟩
theorem bZ.reads (I:Inv X pins σ H s):∀ {vs:List V}{ds:List PyData}{us:List Value},bZ X.K H vs ds->Vals vs us->∃ as,ReadsAll s.heap us ds as
 | _,_,_,.nil,r=>by cases r;exact ⟨_,.nil⟩
 | _,_,_,.cons h hs,r=>by
  cases r with
  | cons r1 r2 =>
   obtain ⟨as,q⟩:=Den.reads I h r1;obtain ⟨bs,q'⟩:=bZ.reads I hs r2;exact ⟨_,.cons q q'⟩
end
def ael (K:PySem.W.Frag)(neg:Bool):R2:=fun x y H Q=>∃ d e,Den K H x d/\Den K H y e/\SeqAt.shaped d=true/\SeqAt.shaped e=true/\Q (.bl (if neg then !PyData.eqv d e else PyData.eqv d e)) H
theorem Gv (hu:X.A.units+64<cLine):OpR X (compareOp .Eq) (ael X.K false):=by
 intro pins s σ H x y v u Q I rx ry h;obtain ⟨d,e,hd,he,sd,se,q⟩:=h;obtain ⟨as,ra⟩:=hd.reads I rx;obtain ⟨bs,rb⟩:=he.reads I ry;exact SeqAt.compareEq_shaped ra rb sd se hu ⟨.bl _,H,I,rfl,q⟩
theorem Cp (hu:X.A.units+64<cLine):OpR X (compareOp .NotEq) (ael X.K true):=by
 intro pins s σ H x y v u Q I rx ry h;obtain ⟨d,e,hd,he,sd,se,q⟩:=h;obtain ⟨as,ra⟩:=hd.reads I rx;obtain ⟨bs,rb⟩:=he.reads I ry;exact SeqAt.compareNe_shaped ra rb sd se hu ⟨.bl _,H,I,rfl,q⟩
end
def Sh (n:Nat)(d:PyData):Prop:=d.canLay0=true/\d.depth<=n
theorem Ql:∀ {ds:List PyData},(∀ d∈ds,d.canLay0=true)->PyData.canLayAll0 ds=true
 | [],_=>rfl
 | d::ds,h=>by rw [PyData.canLayAll0,h d afd,Ql fun x hx=>h x (ae4 _ hx)];rfl
theorem Py {n:Nat}:∀ {ds:List PyData},(∀ d∈ds,d.depth<=n)->PyData.depthAll ds<=n
 | [],_=>by simp [PyData.depthAll]
 | d::ds,h=>by
  have h1:=h d afd;have h2:=Py fun x hx=>h x (ae4 _ hx);simp only [PyData.depthAll];omega
theorem Sh.int (n:Nat)(i:Int):Sh n (.int i):=⟨rfl,by simp [PyData.depth]⟩
theorem Sh.list {n:Nat}{ds:List PyData}(h:∀ d∈ds,Sh n d):Sh (n+1) (.list ds):=⟨by rw [PyData.canLay0];exact Ql fun d hd=>(h d hd).1,by
 have:=Py fun d hd=>(h d hd).2;simp only [PyData.depth];omega⟩
theorem Sh.tuple {n:Nat}{ds:List PyData}(h:∀ d∈ds,Sh n d):Sh (n+1) (.tuple ds):=⟨by rw [PyData.canLay0];exact Ql fun d hd=>(h d hd).1,by
 have:=Py fun d hd=>(h d hd).2;simp only [PyData.depth];omega⟩
theorem Sh.ints (n:Nat)(ns:List Int):Sh (n+1) (vN ns):=.list fun d hd=>by
 obtain ⟨i,_,rfl⟩:=afc.mp hd;exact .int n i
theorem Sh.ok {n:Nat}{d:PyData}(h:Sh n d)(hn:n<=64):SeqAt.shaped d=true:=by
 unfold SeqAt.shaped;rw [h.1,decide_eq_true (by have:=h.2;omega)];rfl
theorem jm {n:Nat}{d:PyData}(h:Sh n d):PyData.eqv d d=true:=SeqAt.eqv_refl d h.1
abbrev dX:=List (Addr × Pos × Str)
def TabsOk (T:dX)(H:Hp):Prop:=∀ t∈T,TabOk t.1 t.2.1 t.2.2 H
structure aJ (T:dX)(H H':Hp):Prop where
 t0:TabsOk T H
 t1:TabsOk T H'
 keep:∀ b o,H b=some o->(∀ ps,o≠.tbl ps)->H' b=some o
 tb:∀ b ps,H b=some (.tbl ps)->∃ ps',H' b=some (.tbl ps')
theorem TabsOk.mono {T:dX}{H H':Hp}(t:TabsOk T H)(s:Same H H'):TabsOk T H':=fun q hq=>by
 rcases t q hq with e| ⟨c,e1,e2⟩
 ·exact .inl (s _ _ e)
 ·exact .inr ⟨c,s _ _ e1,s _ _ e2⟩
theorem aJ.refl {T:dX}{H:Hp}(t:TabsOk T H):aJ T H H:=⟨t,t,fun _ _ h _=>h,fun _ ps h=>⟨ps,h⟩⟩
theorem aJ.of {T:dX}{H H':Hp}(t:TabsOk T H)(s:Same H H'):aJ T H H':=⟨t,t.mono s,fun b o h _=>s b o h,fun b ps h=>⟨ps,s _ _ h⟩⟩
theorem aJ.trans {T:dX}{H H1 H2:Hp}(a:aJ T H H1)(b:aJ T H1 H2):aJ T H H2:=⟨a.t0,b.t1,fun c o h n=>b.keep c o (a.keep c o h n) n,fun c ps h=>by
 obtain ⟨ps',e⟩:=a.tb c ps h;exact b.tb c ps' e⟩
theorem aJ.free {T:dX}{H H':Hp}(a:aJ T H H'){l:Addr}(h:H' l=none):H l=none:=by
 cases q:H l with
 | none=>rfl
 | some o =>
  have key:(∃ ps,o=.tbl ps)\/∀ ps,o≠.tbl ps:=by
   cases o with
   | tbl ps=>exact .inl ⟨ps,rfl⟩
   | _=>exact .inr fun _ z=>by cases z
  rcases key with ⟨ps,rfl⟩ | n
  ·obtain ⟨ps',e⟩:=a.tb l ps q;rw [h] at e;cases e
  ·have:=a.keep l o q n;rw [h] at this;cases this
theorem aJ.seq {T:dX}{K:PySem.W.Frag}{H H':Hp}{a:Addr}{xs:List V}(e:aJ T H H')(h:SqL K H a xs):SqL K H' a xs:=by
 rcases h with (h| ⟨o,h⟩) | h
 ·exact .inl (.inl (e.keep _ _ h fun _ z=>by cases z))
 ·exact .inl (.inr ⟨o,e.keep _ _ h fun _ z=>by cases z⟩)
 ·exact .inr h
theorem aJ.acX {T:dX}{K:PySem.W.Frag}{H H':Hp}{a:Addr}{xs:List V}(e:aJ T H H')(h:SqT K H a xs):SqT K H' a xs:=by
 rcases h with (h| ⟨o,h⟩) | h
 ·exact .inl (.inl (e.keep _ _ h fun _ z=>by cases z))
 ·exact .inl (.inr ⟨o,e.keep _ _ h fun _ z=>by cases z⟩)
 ·exact .inr h
mutual
theorem Den.BJ {T:dX}{K:PySem.W.Frag}{H H':Hp}(e:aJ T H H'):∀ {v:V}{d:PyData},Den K H v d->Den K H' v d
 | _,_,.non=>.non
 | _,_,.bl b=>.bl b
 | _,_,.int i=>.int i
 | _,_,.str x=>.str x
 | _,_,.list h hs=>.list (e.seq h) (bZ.BJ e hs)
 | _,_,.tuple h hs=>.tuple (e.acX h) (bZ.BJ e hs)
theorem bZ.BJ {T:dX}{K:PySem.W.Frag}{H H':Hp}(e:aJ T H H'):∀ {vs:List V}{ds:List PyData},bZ K H vs ds->bZ K H' vs ds
 | _,_,.nil=>.nil
 | _,_,.cons h hs=>.cons (Den.BJ e h) (bZ.BJ e hs)
end
def sY (T:dX)(H:Hp)(P:List V->Prop)(Q:VK):Prop:=∀ (l:Addr)(H':Hp)(xs:List V),aJ T H H'->H l=none->H' l=some (.lst xs)->P xs->Q (.ref l) H'
def pU:HO->Bool
 | .tbl _=>false
 | .ext _=>false
 | _=>true
structure Ow (T:dX)(H0 H:Hp)(L:List (Addr × HO)):Prop where
 same:aJ T H0 H
 new:∀ p∈L,H0 p.1=none
 at_:∀ p∈L,H p.1=some p.2
 pl:∀ p∈L,pU p.2=true
 nd:(L.map (·.1)).Nodup
section
variable {T:dX}{H0 H1 H H':Hp}{L L':List (Addr × HO)}{a l:Addr}{o o':HO}{xs:List V}
theorem Ow.refl (t:TabsOk T H):Ow T H H []:=⟨aJ.refl t,(fun p hp=>nomatch hp),(fun p hp=>nomatch hp),(fun p hp=>nomatch hp),List.nodup_nil⟩
theorem Ow.get (O:Ow T H0 H L)(k:Nat)(h:L[k]?=some (a,o):=by rfl):H a=some o:=O.at_ _ (aeO h)
theorem Ow.fr (O:Ow T H0 H L)(k:Nat)(h:L[k]?=some (a,o):=by rfl):H0 a=none:=O.new _ (aeO h)
theorem Ow.sq {K:PySem.W.Frag}(O:Ow T H0 H L)(k:Nat)(h:L[k]?=some (a,.lst xs):=by rfl):SqL K H a xs:=SqL.of (O.get k h)
theorem Ow.sqT {K:PySem.W.Frag}(O:Ow T H0 H L)(k:Nat)(h:L[k]?=some (a,.tup xs):=by rfl):SqT K H a xs:=SqT.of (O.get k h)
theorem TabOk.upd {P:Addr}{pos:Pos}{q:Str}(t:TabOk P pos q H)(h:H a=none\/∃ o,H a=some o/\pU o=true):TabOk P pos q (L2.upd H a o'):=by
 have ne:∀ b u,H b=some u->pU u=false->b≠a:=fun b u e p z=>by
  subst z;rcases h with h| ⟨o,h,ho⟩
  ·rw [h] at e;cases e
  ·rw [h] at e;cases e;rw [ho] at p;cases p
 rcases t with e| ⟨c,e1,e2⟩
 ·exact .inl (by rw [aN (ne _ _ e rfl)];exact e)
 ·exact .inr ⟨c,by rw [aN (ne _ _ e1 rfl)];exact e1,by rw [aN (ne _ _ e2 rfl)];exact e2⟩
theorem aJ.upd (s:aJ T H0 H)(h:H0 a=none)(h':H a=none\/∃ o,H a=some o/\pU o=true):aJ T H0 (L2.upd H a o'):=
 ⟨s.t0,fun t ht=>(s.t1 t ht).upd h',fun b u e n=>by rw [aN (bR e h)];exact s.keep b u e n,fun b ps e=>by rw [aN (bR e h)];exact s.tb b ps e⟩
theorem Ow.mk' (O:Ow T H0 H L)(h:H a=none)(ho:pU o=true):Ow T H0 (upd H a o) ((a,o)::L):=by
 have ne:∀ p∈L,p.1≠a:=fun p hp=>bR (O.at_ p hp) h;have n0:H0 a=none:=O.same.free h;refine ⟨O.same.upd n0 (.inl h),fun p hp=>?_,fun p hp=>?_,fun p hp=>?_,?_⟩
 ·rcases aeS.mp hp with e| e
  ·rw [e];exact n0
  ·exact O.new p e
 ·rcases aeS.mp hp with e| e
  ·rw [e];exact aZ
  ·rw [aN (ne p e)];exact O.at_ p e
 ·rcases aeS.mp hp with e| e
  ·rw [e];exact ho
  ·exact O.pl p e
 ·rw [afg,afJ];refine ⟨fun hm=>?_,O.nd⟩;obtain ⟨p,hp,e⟩:=afc.mp hm;exact ne p hp e
theorem M8:∀ {L:List (Addr × HO)}{k:Nat}{a:Addr}{o o':HO},L[k]?=some (a,o)->(L.set k (a,o')).map (·.1)=L.map (·.1)
 | [],_,_,_,_,h=>by simp at h
 | p::L,0,a,o,o',h=>by
  have:p=(a,o):=by simpa using h
  rw [this];rfl
 | p::L,k+1,a,o,o',h=>by
  rw [af5,afg,afg,M8 (L:=L) (k:=k) (o:=o) (by simpa using h)]
theorem Ow.acY (O:Ow T H0 H L)(k:Nat)(h:L[k]?=some (a,o))(ho:pU o'=true):Ow T H0 (upd H a o') (L.set k (a,o')):=by
 have hm0:=aeO h;have n0:H0 a=none:=O.new _ hm0;have hk:k<L.length:=(aeJ.mp h).1;refine ⟨O.same.upd n0 (.inr ⟨o,O.at_ _ hm0,O.pl _ hm0⟩),fun p hp=>?_,fun p hp=>?_,fun p hp=>?_,by rw [M8 h];exact O.nd⟩
 ·rcases af0 hp with e| e
  ·exact O.new p e
  ·rw [e];exact n0
 ·obtain ⟨j,hj,e⟩:=afh hp;by_cases hjk:j=k
  ·subst hjk;rw [List.getElem_set_self] at e;rw [<- e];exact aZ
  ·rw [List.getElem_set_ne (Ne.symm hjk)] at e;have hj':j<L.length:=by rw [afq] at hj;exact hj
   have hm:p∈L:=by rw [<- e];exact afx hj'
   rw [aN]
   ·exact O.at_ p hm
   ·intro z;have e1:(L.map (·.1))[j]?=some p.1:=by rw [aeQ,aeD hj',e];rfl
    have e2:(L.map (·.1))[k]?=some a:=by rw [aeQ,h];rfl
    rw [z] at e1;obtain ⟨a1,a2⟩:=aeJ.mp e1;obtain ⟨b1,b2⟩:=aeJ.mp e2;exact hjk ((afR O.nd).mp (a2.trans b2.symm))
 ·rcases af0 hp with e| e
  ·exact O.pl p e
  ·rw [e];exact ho
theorem Nr {o:HO}(h:pU o=true):∀ ps,o≠.tbl ps:=fun ps z=>by rw [z] at h;cases h
theorem Ow.jq (O:Ow T H0 H L)(s:aJ T H H'):Ow T H0 H' L:=⟨O.same.trans s,O.new,fun p hp=>s.keep _ _ (O.at_ p hp) (Nr (O.pl p hp)),O.pl,O.nd⟩
theorem Ow.abS (O:Ow T H0 H L)(s:aJ T H H')(n:H l=none)(h:H' l=some o)(ho:pU o=true):Ow T H0 H' ((l,o)::L):=by
 have O2:=O.jq s;refine ⟨O2.same,fun p hp=>?_,fun p hp=>?_,fun p hp=>?_,?_⟩
 ·rcases aeS.mp hp with e| e
  ·rw [e];exact O.same.free n
  ·exact O.new p e
 ·rcases aeS.mp hp with e| e
  ·rw [e];exact h
  ·exact O2.at_ p e
 ·rcases aeS.mp hp with e| e
  ·rw [e];exact ho
  ·exact O.pl p e
 ·rw [afg,afJ];refine ⟨fun hm=>?_,O.nd⟩;obtain ⟨p,hp,e⟩:=afc.mp hm;exact bR (O.at_ p hp) n e
theorem Ow.more (O:Ow T H0 H L)(s:Same H H')(n:H l=none)(h:H' l=some o)(ho:pU o=true):Ow T H0 H' ((l,o)::L):=O.abS (aJ.of O.same.t1 s) n h ho
theorem Ow.sub (O:Ow T H0 H L)(h:L'.Sublist L):Ow T H0 H L':=⟨O.same,fun p hp=>O.new p (h.subset hp),fun p hp=>O.at_ p (h.subset hp),fun p hp=>O.pl p (h.subset hp),O.nd.sublist (h.map _)⟩
theorem Ow.perm (O:Ow T H0 H L)(h:L'.Perm L):Ow T H0 H L':=⟨O.same,fun p hp=>O.new p (h.mem_iff.mp hp),fun p hp=>O.at_ p (h.mem_iff.mp hp),fun p hp=>O.pl p (h.mem_iff.mp hp),(h.map _).nodup_iff.mpr O.nd⟩
theorem Ow.tail {p:Addr × HO}(O:Ow T H0 H (p::L)):Ow T H0 H L:=O.sub (afv _ _)
theorem Ow.two {p q:Addr × HO}(O:Ow T H0 H (p::q::L)):Ow T H0 H (p::L):=O.sub ((afv _ _).cons₂ _)
theorem Ow.base (O:Ow T H0 H L)(s:aJ T H1 H0):Ow T H1 H L:=⟨s.trans O.same,fun p hp=>s.free (O.new p hp),O.at_,O.pl,O.nd⟩
theorem Ow.reb (O:Ow T H0 H L):∃ H1,Ow T H1 H L/\aJ T H0 H1/\∀ b o,H b=some o->(∀ p∈L,p.1≠b)->H1 b=some o:=by
 have keep:∀ b u,H b=some u->(∀ p∈L,p.1≠b)->(fun b=>if b∈L.map (·.1) then none else H b:Hp) b=some u:=fun b u e h=>by
  show (if b∈L.map (·.1) then none else H b)=some u
  rw [if_neg fun hm=>?_];· exact e
  obtain ⟨p,hp,z⟩:=afc.mp hm
  exact h p hp z
 have back:∀ b u,(fun b=>if b∈L.map (·.1) then none else H b:Hp) b=some u->H b=some u:=fun b u e=>by
  dsimp only at e
  split at e
  ·cases e
  ·exact e
 have npl:∀ b u,H b=some u->pU u=false->∀ p∈L,p.1≠b:=fun b u e h p hp z=>by
  have:=O.at_ p hp
  rw [z,e] at this
  have e':u=p.2:=aeY this
  rw [e',O.pl p hp] at h;cases h
 have tk:TabsOk T (fun b=>if b∈L.map (·.1) then none else H b):=fun t ht=>by
  rcases O.same.t1 t ht with e| ⟨c,e1,e2⟩
  ·exact .inl (keep _ _ e (npl _ _ e rfl))
  ·exact .inr ⟨c,keep _ _ e1 (npl _ _ e1 rfl),keep _ _ e2 (npl _ _ e2 rfl)⟩
 refine ⟨fun b=>if b∈L.map (·.1) then none else H b,⟨⟨tk,O.same.t1,fun b u e _=>back b u e,fun b ps e=>⟨ps,back _ _ e⟩⟩,fun p hp=>?_,O.at_,O.pl,O.nd⟩,⟨O.same.t0,tk,fun b u e n=>?_,fun b ps e=>?_⟩,keep⟩
 ·exact if_pos (afc.mpr ⟨p,hp,rfl⟩)
 ·refine keep b u (O.same.keep b u e n) fun p hp z=>?_
  rw [<- z,O.new p hp] at e;cases e
 ·obtain ⟨ps',e'⟩:=O.same.tb b ps e
  exact ⟨ps',keep _ _ e' (npl _ _ e' rfl)⟩
theorem ux {i:Int}{j:Nat}{v:V}{Q:Hp->Prop}(O:Ow T H0 H L)(k:Nat)(h:L[k]?=some (l,.lst xs))(hi:ixN xs.length i=some j)(q:∀ H',Ow T H0 H' (L.set k (l,.lst (xs.set j v)))->Q H'):abk (.ref l) (.int i) v H Q:=
 ⟨l,xs,i,j,rfl,rfl,O.get k h,hi,q _ (O.acY k h rfl)⟩
theorem Ow.ret {P:List V->Prop}{Q:VK}(O:Ow T H0 H L)(k:Nat)(h:L[k]?=some (l,.lst xs))(q:sY T H0 P Q)(p:P xs):Q (.ref l) H:=q l H xs O.same (O.fr k h) (O.get k h) p
theorem Ow.got {P:List V->Prop}{Q:VK}(O:Ow T H0 H L)(k:∀ l H' xs,Ow T H0 H' ((l,.lst xs)::L)->P xs->Q (.ref l) H'):acR H P Q:=fun l H' xs s n h p=>k l H' xs (O.more s n h rfl) p
theorem Ow.Cv {P:List V->Prop}{Q:VK}(O:Ow T H0 H L)(k:∀ l H' xs,Ow T H0 H' ((l,.lst xs)::L)->P xs->Q (.ref l) H'):sY T H P Q:=fun l H' xs s n h p=>k l H' xs (O.abS s n h rfl) p
end
end L2
namespace L2
open PySem PySem.W PySem.Spec PyProof.Rows
theorem szl {n:Nat}(h:Nat.ble n 100000=true:=by rfl):n<=sizeLine:=f9 (Nat.le_of_ble_eq_true h)
theorem Ek (p:Int)(ns:List Int):inV (.int p) (ns.map V.int)=decide (p∈ns):=by
 unfold inV;rw [List.any_map,afI];simp only [List.any_eq_true,decide_eq_true_eq];constructor
 ·rintro ⟨x,hx,e⟩;have e':(x ==p)=true:=e;have:x=p:=by simpa using e'
  rw [<- this];exact hx
 ·intro h;exact ⟨p,h,show (p ==p)=true by simp⟩
theorem wJ (ns:List Int):(ns.map V.int).all Eu=true:=by
 rw [List.all_map,afA];intro _ _;rfl
theorem Fun.okC {P:Program}{w:World}{K:PySem.W.Frag}{mg:Str->Option Value}{base:Heap}{x qual:Str}{st:Stmt}{f:Addr}{fd:FuncData}{N ps:List Str}{k:Nat}{sp:Sp}{c:Value}(F:Fun K x qual st f fd)(hc:fd.code=c)(S:aD N ps (ao st))(len:∀ vs H Q E,sp vs H Q E->vs.length=ps.length)
  (hbody:∀ (A:Around)(outer:List Env)(s:Shared)(H:Hp)(vs:List V)(Q:VK)(E:XK),sX k (A.deeper (envOfC qual (ao st) s.heap.objs.size f c))->sp vs H Q E ->
   ∃ t,PSs (Qe CX0 P w K mg base N qual (ao st) f c A outer s H E).nox (dZ st) t/\t { nx:=fun _ H'=>Q .non H',rt:=Q } (start N vs) H):Hs P w K mg base CX0 (k+1) f fd ps sp:=by
 obtain ⟨oc,od,kV,doc,pm,an,cdv,ct,osl,rfl,lk,hcd⟩:=F.ex;have e:cdv=c:=hc;subst e;refine R9 lk hcd S len fun A outer s H vs Q E hr hsp=>?_;obtain ⟨t,h,q⟩:=hbody A outer s H vs Q E hr hsp;exact ⟨t,h.nox,q⟩
theorem J4 {k:Nat}{A XA:Around}{env:Env}(r:sX (k+2) XA)(hh:A.handled=none)(hd:A.depth<=XA.depth+2)(hu:A.units<=XA.units+2):sX k (A.deeper env):=
 ⟨hh,by have:=r.dp;show A.depth+1+3*k+5<_;omega,by have:=r.un;show A.units+3+16*k+200<_;omega⟩
theorem J5 {A:Around}(r:sX 1 A):A.depth+4<recursionLimit:=by have:=r.dp;omega
theorem aJ.tab {T:dX}{H H2:Hp}{P:Addr}{pos:Pos}{q:Str}(t:TabsOk T H)(hm:(P,pos,q)∈T)(nd:(T.map (·.1)).Nodup)(k1:∀ b o,H b=some o->b≠P->H2 b=some o)(t2:TabOk P pos q H2):aJ T H H2:=by
 have hP:∃ ps,H P=some (.tbl ps):=by
  rcases t _ hm with e| ⟨c,e,_⟩
  ·exact ⟨_,e⟩
  ·exact ⟨_,e⟩
 obtain ⟨ps0,hP⟩:=hP;have hP2:∃ ps,H2 P=some (.tbl ps):=by
  rcases t2 with e| ⟨c,e,_⟩
  ·exact ⟨_,e⟩
  ·exact ⟨_,e⟩
 refine ⟨t,fun u hu=>?_,fun b o e n=>k1 b o e fun z=>?_,fun b ps e=>?_⟩
 ·by_cases hb:u.1=P
  ·have:u=(P,pos,q):=by
    obtain ⟨i,hi,ei⟩:=afh hu;obtain ⟨j,hj,ej⟩:=afh hm;have e1:(T.map (·.1))[i]?=some P:=by rw [aeQ,aeD hi,ei,<- hb];rfl
    have e2:(T.map (·.1))[j]?=some P:=by rw [aeQ,aeD hj,ej];rfl
    obtain ⟨a1,a2⟩:=aeJ.mp e1;obtain ⟨b1,b2⟩:=aeJ.mp e2;have hij:i=j:=(afR nd).mp (a2.trans b2.symm);subst hij;rw [<- ei,<- ej]
   rw [this];exact t2
  ·rcases t u hu with e| ⟨c,e1,e2⟩
   ·exact .inl (k1 _ _ e hb)
   ·exact .inr ⟨c,k1 _ _ e1 hb,k1 _ _ e2 fun z=>by rw [z,hP] at e2;cases e2⟩
 ·subst z;rw [hP] at e;cases e;exact n ps0 rfl
 ·by_cases hb:b=P
  ·rw [hb];exact hP2
  ·exact ⟨ps,k1 _ _ e hb⟩
section
variable {X:Cx}
theorem pH (hc:X.calm=true):vR X (.builtin "sum") (fun xs H Q=>∃ (p:Addr)(ns:List Int),xs=[.ref p]/\SqL X.K H p (ns.map V.int)/\Q (.int ns.sum) H):=by
 intro pins s σ H xs us Q I r h;obtain ⟨p,ns,rfl,hq,q⟩:=h;obtain ⟨u,rfl,ru⟩:=vals1 r;cases ru;obtain ⟨its,r1,p1,hz⟩:=I.list hq;have hi:IntsAre its ns:=intsAre_of r1;obtain ⟨ys,hx⟩:=hi.allInts.items;have hl':s.heap.IsList p (intItems ys):=hx ▸ p1.isList;refine sum_intListG (I.ok.hd hc) hl' fun h' tk t' hk=>?_;have e1:ns=ys.toList.map (·.1):=by
  rw [<- nums_intItems,<- hx];exact (show numsOf its.toArray.toList=ns from hi.numsOf).symm
 have e2:preSum (numAt ys) ys.size=ns.sum:=by
  rw [preSum_eq,aeU (by simp),e1]
 rw [e2];exact ⟨.int ns.sum,H,I.kept hk,⟨t',rfl⟩,q⟩
def abl (K:PySem.W.Frag):V->List V->Hp->VK->Prop:=fun x vs H Q=>∃ (l:Addr)(ns:List Int)(k:Int),x=.ref l/\vs=[.int k]/\SqL K H l (ns.map V.int)/\k∈ns/\Q (.int (ns.idxOf k:Nat)) H
theorem Rx:MtR X "list.index" (abl X.K):=by
 intro pins s σ H x vs v us Q I rx rv h;obtain ⟨l,ns,k,rfl,rfl,hq,hk,q⟩:=h;cases rx;obtain ⟨u,rfl,t,rfl⟩:=vals1 rv;obtain ⟨its,r1,p1,hz⟩:=I.list hq;have hi:IntsAre its ns:=intsAre_of r1;obtain ⟨⟨cls,dd,data,sl⟩,ho,hc,n,hd⟩:=id p1.isList;simp only at hc hd;subst hc hd;have hlen:=hi.length;have hj:ns.idxOf k<ns.length:=List.idxOf_lt_length_iff.mpr hk;have hn:=wD;rw [ac5] at hz;refine call_meets PySem.F.slot_list_index ⟨_,ho,rfl⟩ PySem.F.entry_list_index (PySem.F.args_list_index_2 _ _)
  (SeqAt.list_indexAt l its.toArray n dd sl (.int k t) (isInt k) (ns.idxOf k) (by simpa [hlen] using hj) (by omega) ?_ ?_) ⟨ho,fun y hy=>(eq_isInt k t hi y (by simpa using hy)).at _ _,?_⟩
 ·show isInt k its[ns.idxOf k]=true;rw [isInt_at k hi _ (by omega) hj];simpa using List.getElem_idxOf hj
 ·intro j hjs hlt;show isInt k its[j]=false;rw [isInt_at k hi j (by simpa using hjs) (by omega)];exact ne_of_lt_idxOf hlt _
 ·exact ⟨.int (ns.idxOf k:Nat),H,I.tok _,⟨_,rfl⟩,q⟩
end
def acQ (T:dX)(H:Hp)(P:List V->Prop)(Q:VK):Prop:=∀ (l:Addr)(H':Hp)(xs:List V),aJ T H H'->H l=none->H' l=some (.tup xs)->P xs->Q (.ref l) H'
section
variable {T:dX}{H0 H:Hp}{L:List (Addr × HO)}{l:Addr}{xs:List V}
theorem Ow.retT {P:List V->Prop}{Q:VK}(O:Ow T H0 H L)(k:Nat)(h:L[k]?=some (l,.tup xs))(q:acQ T H0 P Q)(p:P xs):Q (.ref l) H:=q l H xs O.same (O.fr k h) (O.get k h) p
theorem Ow.mkE {a:Addr}{o:HO}{H':Hp}(O:Ow T H0 H L)(h:H a=none)(e:upd H a o=H')(ho:pU o=true):Ow T H0 H' ((a,o)::L):=e ▸ O.mk' h ho
theorem Ow.yI {a:Addr}{o o':HO}{H':Hp}(O:Ow T H0 H L)(k:Nat)(h:L[k]?=some (a,o))(e:upd H a o'=H')(ho:pU o'=true):Ow T H0 H' (L.set k (a,o')):=e ▸ O.acY k h ho
end
def dMv (m:Int × Int × Int):PyData:=.tuple [.int m.1,.int m.2.1,.int m.2.2]
def aez (ms:List (Int × Int × Int)):PyData:=.list (ms.map dMv)
theorem Den.Ud {K:PySem.W.Frag}{H:Hp}{v:V}{m:Int × Int × Int}(h:Den K H v (dMv m)):∃ a,v=.ref a/\SqT K H a [.int m.1,.int m.2.1,.int m.2.2]:=by
 cases h with
 | tuple h hs =>
  have e:=bZ.int_inv (ns:=[m.1,m.2.1,m.2.2]) hs;exact ⟨_,rfl,by rw [e] at h;exact h⟩
theorem Den.mv {K:PySem.W.Frag}{H:Hp}{a:Addr}{m:Int × Int × Int}(h:SqT K H a [.int m.1,.int m.2.1,.int m.2.2]):Den K H (.ref a) (dMv m):=.tuple h (.cons (.int _) (.cons (.int _) (.cons (.int _) .nil)))
theorem Den.aas {K:PySem.W.Frag}{H:Hp}{v:V}{ms:List (Int × Int × Int)}(h:Den K H v (aez ms)):∃ a xs,v=.ref a/\SqL K H a xs/\bZ K H xs (ms.map dMv):=by
 cases h with
 | list h hs=>exact ⟨_,_,rfl,h,hs⟩
end L2
namespace L2
open PySem PySem.W PySem.Spec PySem.Calls PyProof.Rows PySem.Builtin PySem.Builtin.ObjectAttr PySem.Builtin.Getset_descriptor
section
variable {prog:Program}{w:World}{A:Around}{E:Value->Shared->Prop}{K:Frag}{e D:Addr}{hh:Heap}{g:Array GenState}{d:Drawn}{t:Nat}{os:OsState}
structure S5 (K:Frag)(D:Addr):Prop where
 ga:findIn K (.ref D) "__getattribute__"=some (some (.builtin "BaseException.__getattribute__"))
 gt:findIn K (.ref D) "__getattr__"=some none
 at_:findIn K (.ref D) "__class__"=some (some (.builtin "object.__class__"))
 sp:specialIn K (.builtin "object.__class__") "__get__"=some (some (.builtin "getset_descriptor.__get__"))
 tk:takesIn K (.builtin "object.__class__")=some true
 mo:mroIn K D (.type "object")=some true
 mb:mroIn K D (.type "BaseException")=some true
 cl:(clsIn K D).isSome=true
theorem Zt {M:Model}(X:K.In hh)(C:S5 K D):Looks M hh (Builtin.ObjectAttr.find (.ref e) (.ref D) "__class__") (.bind (.builtin "getset_descriptor.__get__") (.builtin "object.__class__")):=by
 have L3:Looks M hh (Builtin.ObjectAttr.dataDescriptor? (some (.builtin "object.__class__")) (some (.builtin "getset_descriptor.__get__"))) (some (.builtin "getset_descriptor.__get__",.builtin "object.__class__")):=(looks_takesIn X C.tk).andThen .now;exact (looks_findIn X C.at_).andThen ((looks_specialIn X C.sp).andThen (L3.andThen (Looks.tag .now)))
theorem aaY {R:Result->Shared->Prop}{tp:Value}(LT:Looks (model prog w) hh (typeOf (.ref e)) (.ref D))(X:K.In hh)(C:S5 K D)(q:R (.ok (.ret (.ref D))) ⟨hh,g,d,t,os⟩):
  codeAny (model prog w) A (.call (.builtin "getset_descriptor.__get__") ⟨[.builtin "object.__class__",.ref e,tp],[]⟩) R ⟨hh,g,d,t,os⟩:=by
 have LS:=looks_mroIn (M:=model prog w) X C.mo;clear C X;refine codeAny_call_builtin KF.slot_gs.plain KF.entry_gs (KF.slot_gs.check _ _ _ _ _ _ _ _ KF.type_class (KF.args_gs _ _ (tp)) ?_);unfold Builtin.«getset_descriptor.__get__» descrGet;rw [dga_obj];refine wpAny_bind (wpAny_pure ?_);unfold descrGetter descrCheckInstance descrNameAndClass isInstance;simp only [KF.owner_class];repeat lk
 refine ⟨Code.quiet_builtin _ (by decide+kernel),codeAny_builtin KF.entry_class ?_⟩;unfold Builtin.«object.__class__» shownTypeOf;(repeat lk);exact q
theorem QD {tk:Tok}{Q:Fin->Shared->Prop}(LT:Looks (model prog w) hh (typeOf (.ref e)) (.ref D))(X:K.In hh)(C:S5 K D)(h:Q (.done (.ret (.ref D))) ⟨hh,g,d,t,os⟩):
  wpAny (model prog w) A (Builtin.«object.__getattribute__» ⟨[.ref e,.str "__class__" tk],[]⟩) Q E ⟨hh,g,d,t,os⟩:=by
 unfold Builtin.«object.__getattribute__»;refine wpAny_bind (m:=slotArgs "__getattribute__" 1 _) (wpAny_pure ?_);refine wpAny_bind (m:=Builtin.ObjectAttr.attrName _) (wpAny_pure ?_);refine wpAny_bind (LT.at (wpAny_bind ((Zt X C).at ?_)));unfold Builtin.ObjectAttr.bindTo;exact wpAny_bind (wpAny_holding (wpAny_call (aaY LT X C (wpAny_pure h))))
theorem QF {Q:Option Value->Shared->Prop}(LT:Looks (model prog w) hh (typeOf (.ref e)) (.ref D))(X:K.In hh)(C:S5 K D)(h:Q (some (.ref D)) ⟨hh,g,d,t+1,os⟩):
  wpAny (model prog w) A (getAttr? (.ref e) "__class__") Q E ⟨hh,g,d,t,os⟩:=by
 have L1:=looks_findIn (M:=model prog w) X C.ga;have L2:=looks_findIn (M:=model prog w) X C.gt;have LI:Looks (model prog w) hh (isInstance (.ref e) (.type "BaseException")) true:=LT.andThen (looks_mroIn X C.mb);have f3:=PySem.F.attr_ValueError.ga.bind (.ref e);have hx2:(Value.builtin "BaseException.__getattribute__" ==Value.builtin "object.__getattribute__")=false:=by decide+kernel
 unfold getAttr? getAttrBy? getAttrBy;refine wpAny_bind (wpAny_mkText (wpAny_bind (wpAny_attempt (wpAny_holding (wpAny_bind (LT.at (wpAny_bind (L1.at ?_))))))));dsimp only;rw [if_neg (by rw [hx2];simp)];unfold getAttrByItsOwn hookBefore callGetattribute;refine wpAny_bind ?_;rw [if_pos (show onTheHeap (Value.ref D)=true from rfl)];refine L2.at ?_;refine wpAny_bind (wpAny_attempt (wpAny_holding ?_));rw [if_neg (by simp)];unfold boundAndCalled;rw [f3];refine wpAny_bind (wpAny_pure ?_);refine wpAny_call (codeAny_call_builtin PySem.F.attr_ValueError.ga.plain PySem.F.entry_bexc_ga ?_);have kd:builtinKind "BaseException.__getattribute__"=some .slot:=by decide+kernel
 have spl:splitId "BaseException.__getattribute__"=some ("BaseException","__getattribute__"):=by decide+kernel
 have ha:=PySem.F.args_bexc_ga (.ref e) (.str "__class__" t);simp only [checkBuiltinCall,kd,spl];refine wpAny_bind (LI.at ?_);rw [if_neg (by simp)];refine wpAny_of_eq (a:=()) ha ?_;refine QD (t:=t+1) LT X C ?_;show wpAny (model prog w) A (handedOut (.ref D)) _ _ _;exact wpAny_pure (wpAny_pure h)
def XAt (e D:Addr)(h:Heap):Prop:=∃ o,h.get? e=some o/\o.cls=.ref D
theorem Ls {M:Model}{h:Heap}(x:XAt e D h):Looks M h (typeOf (.ref e)) (.ref D):=by
 obtain ⟨o,h1,h2⟩:=x;rw [<- h2];exact (Looks.ld h1).andThen .now
theorem RT (C:S5 K D):KitX K (.ref e) (.ref D) (XAt e D) where
 ty:=fun _ _ _ p=>Ls p;it:=fun M h X _=>by
  have c:=C.cl;unfold clsIn at c;split at c
  ·rename_i ho
   intro _ _ _ _ k q;unfold isType loadHead;exact wpAny_bind (wpAny_loadPart (k _ _ (X _ _ ho)) (wpAny_pure q))
  ·cases c
 ne:=fun h tp dd its n sl X htp=>by
  have c:=C.cl;refine Bool.eq_false_iff.mpr fun q=>?_;cases Value.ref.inj (beq_iff_eq.mp q);unfold clsIn at c;split at c
  ·rename_i ho
   cases (X _ _ ho).symm.trans htp
  ·cases c
 ca:=fun {_ _ _ _ _ s} X p k=>by
  obtain ⟨h0,g0,d0,t0,o0⟩:=s;exact QF (Ls p) X C k
end
end L2
namespace L2
open PySem PySem.W PySem.Spec PySem.Calls PyProof.Rows
theorem gq.obj {P:Program}{w:World}{H:Hp}{h:Heap}{a:Addr}{o:HO}(x:gq P w H h a o):∃ ob,h.get? a=some ob:=by
 cases o with
 | lst xs=>obtain ⟨_,_,_,_,e⟩:=x;exact ⟨_,e⟩
 | tup xs=>obtain ⟨_,_,_,o,e,_⟩:=x;exact ⟨_,e⟩
 | dK kvs=>obtain ⟨_,_,_,_,o,_,_,e,_⟩:=x;exact ⟨_,e⟩
 | dT kvs=>obtain ⟨_,_,_,_,o,_,_,e,_⟩:=x;exact ⟨_,e⟩
 | set S n=>obtain ⟨o,_,_,_,e,_⟩:=x;exact ⟨_,e⟩
 | ins C dx fs=>obtain ⟨_,_,_,e,_⟩:=x;exact ⟨_,e⟩
 | own y=>exact x
 | xd fs=>obtain ⟨_,⟨_,_,_,e,_⟩,_⟩:=x;exact ⟨_,e⟩
 | rng lo hi=>obtain ⟨_,_,_,e⟩:=x;exact ⟨_,e⟩
 | frz ob u=>obtain ⟨e,_⟩:=x;exact ⟨_,e⟩
 | tbl ps=>exact ⟨_,x⟩
 | met f y=>exact ⟨_,x⟩
 | ext φ=>obtain ⟨_,e,_⟩:=x;exact e
structure Fly (P:Program)(w:World)(B:Heap)(fs:List Addr)(H:Hp)(h0:Heap)(H':Hp)(h:Heap):Prop where
 un:Un fs [] H H' h0 h
 hok:HOk P w H' h
 old:∀ b o,h0.get? b=some o->b ∉ fs->∃ o',B.get? b=some o'/\(H b=none->o'=o)
 trk:∀ b u,H' b=some u->∃ o,h.get? b=some o/\B.get? b=some o
section
variable {P:Program}{w:World}{B h0 h h2:Heap}{fs:List Addr}{H H':Hp}
theorem Fly.on (x:Fly P w B fs H h0 H' h)(sb:B.StaysIn h2)(sm:∀ b∈fs,∀ o,h.get? b=some o->∃ sl,h2.get? b=some { o with slots:=sl }):Fly P w B fs H h0 H' h2:=by
 have kp:∀ b o,h0.get? b=some o->H b=none->b ∉ fs->h2.get? b=some o:=fun b o q n hb=>by
  obtain ⟨o',e,k⟩:=x.old b o q hb;rw [<- k n];exact sb b o' e
 have sl:∀ b o,h0.get? b=some o->H b=none->b∈fs->∃ s,h2.get? b=some { o with slots:=s }:=fun b o q n hb=>by
  obtain ⟨s1,e1⟩:=x.un.slot b o q n hb (by simp);obtain ⟨s2,e2⟩:=sm b hb _ e1;exact ⟨s2,e2⟩
 refine ⟨⟨fun b o q n hb _=>kp b o q n hb,fun b o q n hb _=>sl b o q n hb,x.un.free,fun b o q _=>?_,x.un.tups,x.un.frzs,x.un.tbls⟩,fun a u e=>?_,x.old,fun b u e=>?_⟩
 ·by_cases hb:b∈fs
  ·obtain ⟨o1,e1⟩:=x.un.there b o q (by simp);obtain ⟨s2,e2⟩:=sm b hb _ e1;exact ⟨_,e2⟩
  ·obtain ⟨o',e,_⟩:=x.old b o q hb;exact ⟨o',sb b o' e⟩
 ·refine (x.hok a u e).stay (fun b v hb q=>?_) (fun _ q=>q) fun _ _ q=>q;have tr:∃ u',H' b=some u':=by
   rcases hb with z| z
   ·exact ⟨u,by rw [z];exact e⟩
   ·exact ⟨_,z⟩
  obtain ⟨u',e'⟩:=tr;obtain ⟨o,e1,e2⟩:=x.trk b u' e';rw [q] at e1;cases e1;exact sb b v e2
 ·obtain ⟨o,e1,e2⟩:=x.trk b u e;exact ⟨o,sb b o e2,e2⟩
end
def CXE (P:Program)(w:World):CXT:=fun outer H s E e s'=>∃ (ea t C:Addr)(B:Heap)(H':Hp),e=.ref ea/\s'.os=s.os/\AllBare s'.gens/\Fly P w B (frs outer) H s.heap H' s'.heap/\Heap.FlyingW B outer ea (.ref C) (.ref t) s'.heap /\
 s.heap.get? ea=none/\H' ea=none/\E (.ref C) (some ea) H'
theorem Es {env:Env}{l:List Env}{L:Addr}(hf:env.frame=some L):frs (env::l)=L::frs l:=by unfold frs;rw [agr,hf]
theorem ab6 {l:List Env}:∀ env∈l,∀ b,env.frame=some b->b∈frs l:=fun env he b hb=>List.mem_filterMap.mpr ⟨env,he,hb⟩
theorem qb {B h:Heap}{l:List Env}{h2:Heap}(f:h.FunFrames B l)(sm:h.UpToSlots h2):∀ b∈frs l,∀ o,h.get? b=some o->∃ sl,h2.get? b=some { o with slots:=sl }:=fun b hb o e=>by
 obtain ⟨_,o',e',d⟩:=f.mem hb;rw [e] at e';cases e';exact sm b o e d
section
variable {X:Cx}{pins:List (Addr × Obj)}{σ:St}{H:Hp}{s:Shared}{E:XK}
structure Body (X:Cx):Prop where
 st:X.stack=X.env::X.outer
 fr:X.env.frame=some X.env.locals
 ex:X.ex=[]
theorem Inv.Il (I:Inv X pins σ H s)(hB:Body X){b:Addr}{o:Obj}(e:X.s₀.heap.get? b=some o)(hb:b ∉ frs X.outer):b ∉ frs X.stack:=by
 rw [hB.st,Es hB.fr];intro hm;rcases aeS.mp hm with z| z
 ·exact absurd (aeV e) (by rw [z];exact Nat.not_lt.mpr I.ok.above)
 ·exact hb z
theorem Gp {e C:Addr}{args:List Value}{h':Heap}{F:Value->Shared->Prop}(hB:Body X)(I:Inv X pins σ H s)(hm:Heap.MadeExcOf s.heap h' e (.ref C) args)(hE:H e=none->E (.ref C) (some e) H):
  wpAny (model X.prog X.w) X.A (leaving X.env (.ref e)) (fun _ s''=>CXE X.prog X.w X.outer X.H₀ X.s₀ E (.ref e) s'') F { s with heap:=h' }:=by
 have hfr:X.A.frames=some (X.env::X.outer):=by rw [<- hB.st];exact I.ok.frames
 have stk:=I.stack;have hl:s.heap.FunFrames (hideAll s.heap (frs X.stack)) (X.env::X.outer):=by
  have:=funFrames_hide stk ab6;rw [hB.st] at this ⊢;exact this
 have hne:∀ b o,s.heap.get? b=some o->b ∉ frs X.stack->(hideAll s.heap (frs X.stack)).get? b=some o:=fun b o q n=>hideAll_get _ q n;have htr:∀ b u,H b=some u->∃ o,s.heap.get? b=some o/\(hideAll s.heap (frs X.stack)).get? b=some o:=fun b u q=>by
  obtain ⟨o,eo⟩:=(I.hok b u q).obj;exact ⟨o,eo,hne b o eo fun z=>by rw [I.Dl b z] at q;cases q⟩
 have hnx:∀ b:Addr,b ∉ X.ex:=fun b=>by rw [hB.ex];simp
 refine wpAny_leaves_madeW (base:=hideAll s.heap (frs X.stack)) (h:=s.heap) hfr hB.fr (fun b o q=>of_hideAll _ q) hl hm fun h2 t fl _ _ sm=>?_;have F0:Fly X.prog X.w (hideAll s.heap (frs X.stack)) (frs X.outer) X.H₀ X.s₀.heap H s.heap:=by
  refine ⟨?_,I.hok,fun b o q n=>?_,htr⟩
  ·have u:=I.base;rw [hB.ex] at u;exact u
  ·obtain ⟨o',e'⟩:=I.base.there b o q (hnx b);refine ⟨o',hne b o' e' (I.Il hB q n),fun z=>?_⟩;have:=I.base.keep b o q z n (hnx b);rw [e'] at this;exact aeY this
 have F1:=F0.on (h2:=h2) fl.1 fun b hb o q=>by
  have hb':b∈frs X.stack:=by rw [hB.st,Es hB.fr];exact ae4 _ hb
  obtain ⟨_,o',e',d⟩:=stk.mem hb';rw [q] at e';cases e';exact sm b o (hm.keeps b o q) d
 have he0:H e=none:=by
  cases q:H e with
  | none=>rfl
  | some u =>
   obtain ⟨o,eo⟩:=(I.hok e u q).obj;rw [hm.new] at eo;cases eo
 refine ⟨e,t,C,_,H,rfl,I.os,I.bare,F1,fl,?_,he0,hE he0⟩
 ·cases q:X.s₀.heap.get? e with
  | none=>rfl
  | some o =>
   obtain ⟨o',e'⟩:=I.base.there e o q (hnx e);rw [hm.new] at e';cases e'
theorem Je {e:Value}{s':Shared}{F:Value->Shared->Prop}(hB:Body X)(I:Inv X pins σ H s)(h:CXE X.prog X.w X.stack H s E e s'):
  wpAny (model X.prog X.w) X.A (leaving X.env e) (fun _ s''=>CXE X.prog X.w X.outer X.H₀ X.s₀ E e s'') F s':=by
 obtain ⟨ea,t,C,B,H',rfl,os,bare,fl,fy,new,nh,hE⟩:=h;have hfr:X.A.frames=some (X.env::X.outer):=by rw [<- hB.st];exact I.ok.frames
 have hnx:∀ b:Addr,b ∉ X.ex:=fun b=>by rw [hB.ex];simp
 rw [hB.st] at fy;refine wpAny_leaves_onW hfr hB.fr fy fun h2 fy2 sm=>?_;have sub:∀ b,b∈frs X.outer->b∈frs X.stack:=fun b hb=>by rw [hB.st,Es hB.fr];exact ae4 _ hb
 have F0:Fly X.prog X.w B (frs X.outer) X.H₀ X.s₀.heap H' s'.heap:=by
  refine ⟨⟨fun b o q n hb _=>?_,fun b o q n hb _=>?_,fun b o q n _=>?_,fun b o q _=>?_,fun b xs q=>fl.un.tups b xs (I.base.tups b xs q),fun b o u q=>fl.un.frzs b o u (I.base.frzs b o u q),fun b ps q=>?_⟩,fl.hok,fun b o q n=>?_,fl.trk⟩
  ·have e1:=I.base.keep b o q n hb (hnx b);exact fl.un.keep b o e1 (I.base.free b o q n (hnx b)) (I.Il hB q hb) (by simp)
  ·obtain ⟨s1,e1⟩:=I.base.slot b o q n hb (hnx b);obtain ⟨s2,e2⟩:=fl.un.slot b _ e1 (I.base.free b o q n (hnx b)) (sub b hb) (by simp);exact ⟨s2,e2⟩
  ·obtain ⟨o',e'⟩:=I.base.there b o q (hnx b);exact fl.un.free b o' e' (I.base.free b o q n (hnx b)) (by simp)
  ·obtain ⟨o',e'⟩:=I.base.there b o q (hnx b);exact fl.un.there b o' e' (by simp)
  ·obtain ⟨m1,e1⟩:=I.base.tbls b ps q;obtain ⟨m2,e2⟩:=fl.un.tbls b _ e1;exact ⟨m1++m2,by rw [e2,Array.append_assoc]⟩
  ·obtain ⟨o',e'⟩:=I.base.there b o q (hnx b);obtain ⟨o2,e2,k⟩:=fl.old b o' e' (I.Il hB q n);refine ⟨o2,e2,fun z=>?_⟩;rw [k (I.base.free b o q z (hnx b))];have:=I.base.keep b o q z n (hnx b);rw [e'] at this;exact aeY this
 have F1:=F0.on (h2:=h2) fy2.1 fun b hb o q=>by
  obtain ⟨_,o',e',d⟩:=fy.2.2.1.mem (by rw [hB.st] at sub;exact sub b hb);rw [q] at e';cases e';exact sm b o q d
 refine ⟨ea,t,C,B,H',rfl,os.trans I.os,bare,F1,fy2,?_,nh,hE⟩;cases q:X.s₀.heap.get? ea with
 | none=>rfl
 | some o =>
  obtain ⟨o',e'⟩:=I.base.there ea o q (hnx ea);rw [new] at e';cases e'
end
section
variable {P:Program}{w:World}{K:PySem.W.Frag}{mg:Str->Option Value}{base:Heap}{N:List Str}{qual:Str}{scope:Scope}{f:Addr}{cd:Value}{A:Around}{outer:List Env}{s:Shared}{H:Hp}{E:XK}
theorem jr {CX:CXT}:Body (Qe CX P w K mg base N qual scope f cd A outer s H E):=⟨rfl,rfl,rfl⟩
theorem Bw:Passes (CXE P w) (Qe (CXE P w) P w K mg base N qual scope f cd A outer s H E) E:=fun _ _ _ _ _ _ I h=>Je jr I h
theorem Fun.okX {x:Str}{st:Stmt}{fd:FuncData}{ps:List Str}{k:Nat}{sp:Sp}(F:Fun K x qual st f fd)(S:aD N ps (ao st))(len:∀ vs H Q E,sp vs H Q E->vs.length=ps.length)
  (hbody:∀ (cdv:Value)(A:Around)(outer:List Env)(s:Shared)(H:Hp)(vs:List V)(Q:VK)(E:XK),sX k (A.deeper (envOfC qual (ao st) s.heap.objs.size f cdv))->sp vs H Q E ->
   ∃ t,PSs (Qe (CXE P w) P w K mg base N qual (ao st) f cdv A outer s H E) (dZ st) t/\t { nx:=fun _ H'=>Q .non H',rt:=Q } (start N vs) H):Hs P w K mg base (CXE P w) (k+1) f fd ps sp:=by
 obtain ⟨oc,od,kV,doc,pm,an,cdv,ct,osl,rfl,lk,hcd⟩:=F.ex;exact R9 lk hcd S len fun A outer s H vs Q E hr hsp=>hbody cdv A outer s H vs Q E hr hsp
end
abbrev ac7:List Value:=[.type "ValueError",.type "Exception",.type "BaseException",.type "object"]
theorem aaE {K:Frag}{h:Heap}{C:Addr}(X:K.In h)(q:excIn K C ac7 "ValueError.__new__"=true):
  ∃ bm N nm qn bs hdct sn sub ab col dd k0 k1 k2 k3 k5 mN,h.get? C=some (excClassObj nm qn C N bs bm hdct sn sub ab col dd k0 k1 k2 k3 k5 "ValueError.__new__")/\h.Ns N mN/\mN "__init__"=none/\OwnTail h ac7 bm:=by
 unfold excIn at q;split at q
 ·rename_i d1 c1 s1 look
  split at q
  ·rename_i C1 bm1 a0 a1 a2 a3 n1 a5 m1 l1
   simp only [afi,beq_iff_eq,Bool.not_eq_true'] at q;obtain ⟨⟨⟨⟨⟨e1,e2⟩,e3⟩,e4⟩,e5⟩,e6⟩:=q;subst e1 e2;obtain ⟨nm,bs,mro,ns,qn,hd,sn,sub,ab,col,del⟩:=c1;dsimp only at m1 e3 e5 e6;subst m1 e3;have es:s1=#[a0,a1,a2,a3,some (.builtin "ValueError.__new__"),a5]:=by cases s1;simp only at l1;rw [l1]
   subst es;exact ⟨bm1,ns,nm,qn,bs,hd,sn,sub,ab,col,d1,a0,a1,a2,a3,a5,_,X _ _ look,Heap.Ns.of_isNs (isNs_of_in X e5),nsMap_none_of_in X e5 e6,tail_of_in X e4⟩
  ·cases q
 ·cases q
def aa3 (E:XK)(C:Addr)(ta:TA):TS:=fun _ σ H=>ta σ H fun vs H1=>vs.length<=sizeLine/\∀ e,H1 e=none->E (.ref C) (some e) H1
section
variable {X:Cx}{E:XK}{x:Str}{C:Addr}{np cpos pos:Pos}{e0:Expr}{ta:TA}
theorem iw (hB:Body X)(hc:X.calm=true)(hx:∀ e s',wpAny (model X.prog X.w) X.A (leaving X.env e) (fun _ s''=>CXE X.prog X.w X.outer X.H₀ X.s₀ E e s'') (fun e s''=>CXE X.prog X.w X.outer X.H₀ X.s₀ E e s'') s'->X.xe e s')
  (hg:Gl X x)(hm:X.mg x=some (.ref C))(hq:excIn X.K C ac7 "ValueError.__new__"=true)(ha:PA X [e0] ta)(he:starEach [e0] X.env=[(false,eval e0 X.env)]:=by rfl)(hd:(x ==("__debug__":Str))=false:=by decide):
  PS X (.Raise (some (.Call (.Name x np) [e0] [] cpos)) none pos) (aa3 E C ta):=by
 intro pins s σ H D I h
 obtain ⟨bm,Nn,nm,qn,bs,hdct,sn,sub,ab,col,dd,k0,k1,k2,k3,k5,mN,hC,hN,hni,TL⟩:=aaE I.ok.mod.kin hq
 refine wpAny_Raise_call_subU (C:=C) (nm:=nm) (q:=qn) (N:=Nn) (bs:=bs) (bm:=bm) (hdct:=hdct) (sn:=sn) (sub:=sub) (ab:=ab) (col:=col) (dd:=dd) (k0:=k0) (k1:=k1) (k2:=k2) (k3:=k3) (k5:=k5) (mN:=mN) (newId:="ValueError.__new__")
  PySem.F.excBase_ValueError PySem.F.excBase_ValueError.hasB PySem.F.excBase_ValueError (TL.hasType PySem.F.excBase_ValueError.hasBase) (I.ok.hd hc) (by rw [he];rfl) hni ?_
 refine xU I hg hm ⟨rfl,?_⟩ hd
 have a:=ha cpos pins s σ H _ I h
 rw [he] at a ⊢
 refine Calls.evalArgs_plain (wpAny_mono a (fun us s1 ⟨vs,H1,I1,r1,hz,q1⟩=>?_) fun _ _ z=>z)
 exact ⟨rfl,by show us.length<=_;rw [<- r1.length];exact hz,I1.bk _ _ hC,hN.keeps I1.bk,TL.keeps I1.bk,fun h' e mk=>hx _ _ (Gp hB I1 mk (q1 e))⟩
end
def XS (X:Cx)(pins:List (Addr × Obj))(Ex:St->XK)(ev:Value)(s':Shared):Prop:=∃ σ H s,Inv X pins σ H s/\CXE X.prog X.w X.stack H s (Ex σ) ev s'
def PEx (X:Cx)(e:Expr)(t:St->Hp->VK->XK->Prop):Prop:=
 ∀ (pins:List (Addr × Obj))(s:Shared)(σ:St)(H:Hp)(Q:VK)(Ex:St->XK),Inv X pins σ H s->t σ H Q (Ex σ)->wpAny (model X.prog X.w) X.A (eval e X.env) (EP X pins σ Q) (XS X pins Ex) s
abbrev TX:=Ends->(St->XK)->St->Hp->Prop
def PSx (X:Cx)(st:Stmt)(t:TX):Prop:=
 ∀ (pins:List (Addr × Obj))(s:Shared)(σ:St)(H:Hp)(D:Ends)(Ex:St->XK),Inv X pins σ H s->t D Ex σ H->wpAny (model X.prog X.w) X.A (exec st X.env) (SP X pins D) (XS X pins Ex) s
def aeE (X:Cx)(sts:List Stmt)(t:TX):Prop:=
 ∀ (pins:List (Addr × Obj))(s:Shared)(σ:St)(H:Hp)(D:Ends)(Ex:St->XK),Inv X pins σ H s->t D Ex σ H->wpAny (model X.prog X.w) X.A (execs sts X.env) (SP X pins D) (XS X pins Ex) s
section
variable {X:Cx}{k:Nat}{f:Addr}{fd:FuncData}{ps:List Str}{sp:Sp}{dvs:List V}{ds:List Value}{x:Str}{p pos:Pos}{e:Expr}{es:List Expr}{t:TA}
theorem Zq {te:St->Hp->VK->XK->Prop}{pos:Pos}(he:PEx X e te)(hs:swapsWith e none pos.line X.env=pure false:=by rfl):PSx X (.Expr e pos) (fun D Ex σ H=>te σ H (fun _ H1=>D.nx σ H1) (Ex σ)):=by
 intro pins s σ H D Ex I h;exact wpAny_Expr_any (wpAny_mono (he pins s σ H _ Ex I h) (fun v s1 ⟨x,H1,I1,r1,q1⟩=>⟨σ,H1,I1,q1⟩) fun _ _ z=>z) I.quiet hs
theorem Zo {st:Stmt}{tx:TX}(h:PSx X st tx):aeE X [st] tx:=by
 intro pins s σ H D Ex I hq;refine wpAny_execs_cons (wpAny_mono (h pins s σ H D Ex I hq) (fun fl s1 q=>?_) fun _ _ z=>z);cases fl with
 | next=>exact wpAny_execs_nil q
 | ret v=>exact q
 | brk=>exact q
 | cont=>exact q
end
section
variable {X:Cx}{pins:List (Addr × Obj)}{σ:St}{H:Hp}{s:Shared}
def KY (X:Cx)(e:Addr):Cx:={ X with A:=X.A.mark (some (.ref e)),calm:=false,xe:=fun _ _=>False }
theorem Inv.sup (I:Inv X pins σ H s)(e:Addr):Inv (KY X e) pins σ H s:=
 ⟨⟨I.ok.mod,I.ok.kind,I.ok.glob,I.ok.blt,I.ok.above,I.ok.inj,I.ok.has,I.ok.cab,fun z=>(by cases z),I.ok.frames,I.ok.stk,I.ok.exf,I.ok.bs,I.ok.bsz,I.ok.noex,I.ok.exfs,I.ok.Ka,I.ok.frf⟩,I.os,I.bare,I.base,I.loc,I.cell,I.free,I.freeC,I.pin,I.hok,I.len⟩
theorem Inv.adb {e:Addr}(hc:X.calm=true->X.A.handled=none)(I:Inv (KY X e) pins σ H s):Inv X pins σ H s:=
 ⟨⟨I.ok.mod,I.ok.kind,I.ok.glob,I.ok.blt,I.ok.above,I.ok.inj,I.ok.has,I.ok.cab,hc,I.ok.frames,I.ok.stk,I.ok.exf,I.ok.bs,I.ok.bsz,I.ok.noex,I.ok.exfs,I.ok.Ka,I.ok.frf⟩,I.os,I.bare,I.base,I.loc,I.cell,I.free,I.freeC,I.pin,I.hok,I.len⟩
theorem Inv.acO {a:Addr}{o:HO}(I:Inv X pins σ H s)(hn:H a=none)(hL:a≠X.env.locals)(h0:X.s₀.heap.get? a=none)(hc:∀ x c,X.env.cells.lookup x=some c->c≠a)(hp:∀ p∈X.pn++pins,p.1≠a)
  (new:gq X.prog X.w (upd H a o) s.heap a o):Inv X pins σ (upd H a o) s:=by
 have ne:∀ b u,H b=some u->b≠a:=fun b u e=>bR e hn;refine ⟨I.ok,I.os,I.bare,⟨I.base.keep,I.base.slot,fun b ob e n hx=>?_,I.base.there,fun b xs e=>?_,fun b ob xs e=>?_,fun b ps e=>?_⟩,I.loc,I.cell,?_,fun x c e=>?_,fun p hq=>?_,fun b u e=>?_,I.len⟩
 ·rw [aN fun z=>by rw [z,h0] at e;cases e];exact I.base.free b ob e n hx
 ·have:=I.base.tups b xs e;rw [aN (ne b _ this)];exact this
 ·have:=I.base.frzs b ob xs e;rw [aN (ne b _ this)];exact this
 ·obtain ⟨m,e1⟩:=I.base.tbls b ps e;exact ⟨m,by rw [aN (ne b _ e1)];exact e1⟩
 ·rw [aN hL.symm];exact I.free
 ·rw [aN (hc x c e)];exact I.freeC x c e
 ·obtain ⟨e1,n,r⟩:=I.pin p hq;exact ⟨e1,by rw [aN (hp p hq)];exact n,r⟩
 ·by_cases hb:b=a
  ·subst hb;rw [aZ] at e;cases e;exact new
  ·rw [aN hb] at e;exact (I.hok b u e).stay (fun _ _ _ q=>q) (fun c q=>by rw [aN (ne c _ q)];exact q) fun c xs q=>by rw [aN (ne c _ q)];exact q
theorem Inv.aaZ {i:Nat}{n:Str}{h':Heap}{v:Option Value}{m:Str->Option Value}{t':Nat}(I:Inv X pins σ H s)(hN:X.N.Nodup)(hi:X.N[i]?=some n)(hs:Heap.SameBut X.env.locals s.heap h')(hm:s.heap.Ns X.env.locals m)
  (hl:∀ (j:Nat)(x:Str)(w:V),X.N[j]?=some x->σ[j]?=some (some w)->Vis X.env.scope x->∃ u,RelV w u/\Look X.env s.heap m x u)(hn:h'.Ns X.env.locals (fun x=>if x=n then v else m x)):Inv X pins (σ.set i none) H { s with heap:=h',toks:=t' }:=by
 have kp:∀ b o,b≠X.env.locals->s.heap.get? b=some o->h'.get? b=some o:=fun b o hb e=>(hs.2 b hb).trans e;have old:∀ b o,X.s₀.heap.get? b=some o->b≠X.env.locals:=fun b o e=>afr (afj (aeV e) I.ok.above);refine ⟨I.ok,I.os,I.bare,⟨fun b o e n hb hx=>kp b o (old b o e) (I.base.keep b o e n hb hx),fun b o e n hb hx=>?_,I.base.free,fun b o e hx=>?_,I.base.tups,I.base.frzs,I.base.tbls⟩,⟨_,hn,fun j x w e1 e2 e3=>?_⟩,fun x c e=>?_,I.free,I.freeC,fun p hp=>?_,fun b u e=>?_,by rw [afq];exact I.len⟩
 ·obtain ⟨sl,e1⟩:=I.base.slot b o e n hb hx;exact ⟨sl,kp b _ (old b o e) e1⟩
 ·obtain ⟨o',e1⟩:=I.base.there b o e hx;exact ⟨o',kp b _ (old b o e) e1⟩
 ·by_cases hj:j=i
  ·subst hj;have hj':j<σ.length:=by
    have:=(aeJ.mp e2).1;rw [afq] at this;exact this
   rw [afM hj'] at e2;cases e2
  ·rw [afL (Ne.symm hj)] at e2;have hx:x≠n:=fun z=>by
    subst z;obtain ⟨a1,a2⟩:=aeJ.mp e1;obtain ⟨b1,b2⟩:=aeJ.mp hi;exact hj ((afR hN).mp (a2.trans b2.symm))
   obtain ⟨u,r,l⟩:=hl j x w e1 e2 e3;refine ⟨u,r,?_⟩;rcases l with ⟨k,z⟩ | ⟨k,c,ec,z⟩
   ·exact .inl ⟨k,by dsimp only;rw [if_neg hx];exact z⟩
   ·refine .inr ⟨k,c,ec,?_⟩;obtain ⟨o,ho,hd⟩:=z;exact ⟨o,kp c o (I.cne x c ec) ho,hd⟩
 ·obtain ⟨w,o,ho,hd⟩:=I.cell x c e;exact ⟨w,o,kp c o (I.cne x c e) ho,hd⟩
 ·obtain ⟨e1,n1,l1,r⟩:=I.pin p hp;exact ⟨kp _ _ l1 e1,n1,l1,r⟩
 ·refine (I.hok b u e).stay (fun c w hc q=>kp c w (fun z=>?_) q) (fun _ q=>q) fun _ _ q=>q;rcases hc with y| y
  ·rw [<- y,z,I.free] at e;cases e
  ·rw [z,I.free] at y;cases y
end
def ada (K:PySem.W.Frag)(Bc:Value)(i:Nat)(th:TS)(D:Ends):St->XK:=fun σ cls oe H=>∃ C e,cls=.ref C/\oe=some e/\exmOne K (.ref C) Bc=some true /\
 th { nx:=fun σ' H'=>D.nx (σ'.set i none) H',rt:=D.rt,bk:=fun σ' H'=>D.bk (σ'.set i none) H',ct:=fun σ' H'=>D.ct (σ'.set i none) H' } (σ.set i (some (.ref e))) (upd H e (.ext (XAt e C)))
def tTry (K:PySem.W.Frag)(Bc:Value)(i:Nat)(tb:TX)(th:TS):TS:=fun D σ H=>tb D (ada K Bc i th D) σ H
section
variable {X:Cx}{body suite:List Stmt}{b0:Stmt}{x n:Str}{Ba:Addr}{i:Nat}{tb:TX}{th:TS}{np hpos pos:Pos}
theorem abn (hB:Body X)(hc:X.calm=true)(hb:aeE X body tb)(hg:Gl X x)(hm:X.mg x=some (.ref Ba))(hN:X.N.Nodup)(hi:X.N[i]?=some n)(hlo:X.env.scope.names.lookup n=some .local)
  (hs:∀ e:Addr,PSs (KY X e) (b0::suite) th)(hd:(x ==("__debug__":Str))=false:=by decide):
  PS X (.Try body [.ExceptHandler (some (.Name x np)) (some n) (b0::suite) hpos] [] [] pos) (tTry X.K (.ref Ba) i tb th):=by
 intro pins s σ H D I h
 refine wpAny_Try_except (wpAny_mono (hb pins s σ H D _ I h) (fun fl s1 q=>?_) fun ev s1 q=>?_)
 ·cases fl with
  | next=>exact wpAny_execs_nil q
  | ret v=>exact q
  | brk=>exact q
  | cont=>exact q
 obtain ⟨σ1,H1,s0,I1,ea,t,C,B,H',rfl,os,bare,fl,fy,new,nh,C',e',ec,ee,hx,ht⟩:=q
 cases ec
 cases ee
 have hfr:X.A.frames=some (X.env::X.outer):=by rw [<- hB.st];exact I1.ok.frames
 have fy0:Heap.FlyingW B (X.env::X.outer) ea (.ref C) (.ref t) s1.heap:=by rw [<- hB.st];exact fy
 refine wpAny_looks_onW hfr hB.fr fy0 fun h4 hd4 sm4=>?_
 have fl4:=fl.on (h2:=h4) hd4.1 (qb fy.2.2.1 sm4)
 refine wpAny_landsW hd4 fun h5 fy5 sm5=>?_
 have fl5:=fl4.on (h2:=h5) fy5.1 (by rw [hB.st];exact qb hd4.2.2.1 sm5)
 have I5:Inv X pins σ1 H' { s1 with heap:=h5 }:=I1.call' (s':={ s1 with heap:=h5 }) (ch:=[]) os fl5.un fl5.hok bare (fun b z=>nomatch z)
 have hxe:XAt ea C h5:=by obtain ⟨ob,h1,h2⟩:=fy5.there;exact ⟨ob,h1,h2⟩
 refine wpAny_handleBy_cons (codeAny_handlers_test ?_) (by intro q;cases q)
 refine xU (X:=KY X ea) (I5.sup ea) hg hm ?_ hd
 refine (exm_one (K:=X.K) I5.kIn (Ls hxe) hx).at ?_
 show codeAny _ _ _ _ _
 refine codeAny_handlers_suite_as ?_
 refine lands_againW fy5 fun h6 fy6 sm6=>?_
 have fl6:=fl5.on (h2:=h6) fy6.1 (by rw [hB.st];exact qb fy5.2.2.1 sm6)
 have I6:Inv X pins σ1 H' { s1 with heap:=h6 }:=I1.call' (s':={ s1 with heap:=h6 }) (ch:=[]) os fl6.un fl6.hok bare (fun b z=>nomatch z)
 have hxe6:XAt ea C h6:=by obtain ⟨ob,h1,h2⟩:=fy6.there;exact ⟨ob,h1,h2⟩
 have newS:X.s₀.heap.get? ea=none:=by
  cases q:X.s₀.heap.get? ea with
  | none=>rfl
  | some o =>
   obtain ⟨o',e'⟩:=I1.base.there ea o q (by rw [hB.ex];simp)
   rw [new] at e';cases e'
 have I7:Inv X pins σ1 (upd H' ea (.ext (XAt ea C))) { s1 with heap:=h6 }:=by
  refine I6.acO nh (fun z=>?_) newS (fun y c e z=>?_) (fun p hp z=>?_) ⟨hxe6,(by obtain ⟨o,h1,_⟩:=hxe6;exact ⟨o,h1⟩),fun g1 g2 p k=>?_⟩
  ·obtain ⟨m,⟨o,_,_,ho,_⟩,_⟩:=I1.loc
   rw [<- z,new] at ho;cases ho
  ·obtain ⟨v,o,ho,_⟩:=I1.cell y c e
   rw [z,new] at ho;cases ho
  ·have ho:=(I1.pin p hp).1
   rw [z,new] at ho;cases ho
  ·obtain ⟨o,h1,h2⟩:=p
   exact ⟨o,k o h1,h2⟩
 refine Dk (X:=KY X ea) (I7.sup ea) hN hi (.inl hlo) (v:=.ref ea) rfl (fun s8 I8=>?_) (.inr hlo)
 refine wpAny_mono (hs ea pins s8 _ _ _ I8 ht) (fun f s9 q=>?_) fun _ _ z=>z.elim
 have out:∀ {σ9:St}{H9:Hp}(J:Inv (KY X ea) pins σ9 H9 s9)(Z:Shared->Prop),(∀ s10,Inv X pins (σ9.set i none) H9 s10->Z s10)->wpAny (model X.prog X.w) X.A (do bindName X.env n .none;unbindBehindTheSuite X.env n hpos) (fun _ s10=>Z s10) X.xe s9:=fun {σ9 H9} J Z k=>by
  have J':Inv X pins σ9 H9 s9:=J.adb fun hc=>I1.ok.hd hc
  obtain ⟨m,hn,hl⟩:=id J'.loc
  exact wpAny_nameGoes_keeps hlo hn (by rw [J'.ok.kind];rfl) fun h' v hn' hsb=>k _ (J'.aaZ hN hi hsb hn hl hn')
 cases f with
 | next=>obtain ⟨σ9,H9,J,q⟩:=q;exact out J _ fun s10 J10=>⟨_,H9,J10,q⟩
 | brk=>obtain ⟨σ9,H9,J,q⟩:=q;exact out J _ fun s10 J10=>⟨_,H9,J10,q⟩
 | cont=>obtain ⟨σ9,H9,J,q⟩:=q;exact out J _ fun s10 J10=>⟨_,H9,J10,q⟩
 | ret u=>obtain ⟨v,σ9,H9,J,r,q⟩:=q;exact out J _ fun s10 J10=>⟨v,_,H9,J10,r,q⟩
def ClsV (c:V)(t:Value):Prop:=(∃ T,c=.ty T/\t=.type T)\/∃ a,c=.ref a/\t=.ref a
theorem aV:vR X (.builtin "isinstance") (fun xs H Q=>∃ (e D:Addr)(c:V)(t:Value)(b:Bool),xs=[.ref e,c]/\H e=some (.ext (XAt e D))/\S5 X.K D/\ClsV c t/\kitOne X.K (.ref D) t=some b/\Q (.bl b) H):=by
 intro pins s σ H xs us Q I r h;obtain ⟨e,D,c,t,b,rfl,he,hD,hc,hk,q⟩:=h;obtain ⟨u,v,rfl,ru,rv⟩:=vals2 r;cases ru;have ev:v=t:=by
  rcases hc with ⟨T,rfl,rfl⟩ | ⟨a,rfl,rfl⟩
  ·exact rv
  ·exact rv
 subst ev;obtain ⟨hx,_,_⟩:=(show gq X.prog X.w H s.heap e (.ext (XAt e D)) from I.hok e _ he);exact afE (RT hD) I.kIn hx hk (fun z=>nomatch z) fun tk=>⟨.bl b,H,I.tok tk,rfl,q⟩
end
theorem aaK:bootBuiltins "ValueError"=some (.type "ValueError"):=by kernel_rfl
theorem Ea {X:Cx}:Passes (CXE X.prog X.w) X E0:=fun _ _ _ _ _ _ _ h=>by
 obtain ⟨_,_,_,_,_,_,_,_,_,_,_,_,hE⟩:=h;exact hE.elim
theorem jP {X:Cx}{x:Str}{C:Addr}{pos:Pos}(hg:Gl X x)(hm:X.mg x=some (.ref C))(hd:(x ==("__debug__":Str))=false:=by decide):PE X (.Name x pos) (tC (.ref C)):=dY (v:=.ref C) hg hm rfl hd
structure nZ (K:PySem.W.Frag)(mg:Str->Option Value)(x:Str)(C:Addr):Prop where
 m:mg x=some (.ref C)
 q:excIn K C ac7 "ValueError.__new__"=true
 x:S5 K C
end L2
namespace L2
open PySem PySem.Spec PyProof.Rows
section
variable {X:Cx}
theorem KD {n:Nat}{acc:Array Value}(hacc:ItemsOf (fun i v=>∃ t,v=.int (0+(i:Nat)*1) t) acc n):Vals (jx n) acc.toList:=by
 have hsz:acc.toList.length=n:=by rw [afF];exact hacc.1
 have key:∀ (k:Nat)(l:List Value),l.length=k->(∀ (j:Nat)(v:Value),l[j]?=some v->∃ t,v=.int ((n - k+j:Nat):Int) t)->k<=n->Vals ((List.range' (n - k) k).map fun (i:Nat)=>V.int (i:Int)) l:=by
  intro k
  induction k with
  | zero =>
   intro l hl _ _;have:l=[]:=List.length_eq_zero_iff.mp hl;subst this;exact .nil
  | succ k ih =>
   intro l hl hP hk
   match l,hl with
   | v::l,hl =>
    have hl':l.length=k:=by simpa using hl
    rw [List.range'_succ,afg];obtain ⟨t,ht⟩:=hP 0 v rfl;refine .cons ⟨t,?_⟩ ?_
    ·rw [ht];rfl
    ·have e:n - (k+1)+1=n - k:=by omega
     rw [e];refine ih l hl' (fun j v' e'=>?_) (by omega);obtain ⟨t',ht'⟩:=hP (j+1) v' (by simpa using e');exact ⟨t',by rw [ht'];congr 2;omega⟩
 have:=key n acc.toList hsz (fun j v e=>by
  obtain ⟨t,ht⟩:=hacc.2 j v (by simpa using e);refine ⟨t,?_⟩;rw [ht];congr 1;omega) (aeL _)
 rw [Nat.sub_self,<- List.range_eq_range'] at this;exact this
def KR (ta:TA):TE:=fun σ H Q=>ta σ H fun vs H1=>∃ n:Nat,vs=[.int (n:Int)]/\n<64/\∀ l,H1 l=none->Q (.ref l) (upd H1 l (.lst (jx n)))
theorem Gs {e:Expr}{ta:TA}{p1 p2 p3 pos:Pos}(hcalm:X.calm=true)(hgs:Gl X "list")(hms:X.mg "list"=none)(hgr:Gl X "range")(hmr:X.mg "range"=none)(ha:PA X [e] ta)(hs:starEach [e] X.env=[(false,eval e X.env)]:=by rfl):
  PE X (.Call (.Name "list" p1) [.Call (.Name "range" p2) [e] [] p3] [] pos) (KR ta):=by
 intro pins s σ H Q I h;refine Call_ (mF I hgs hms boot_list (afp ?_ rfl rfl));show wpAny _ _ (spliced ((false,eval (.Call (.Name "range" p2) [e] [] p3) X.env)::[])) _ _ s;refine afV (Call_ (mF I hgr hmr boot_range (afp (thn (ha p3 pins s σ H _ I h) fun us s1 ⟨vs,H1,I1,r1,q1⟩=>?_) hs rfl)));obtain ⟨n,e1,hn,q⟩:=q1;subst e1;obtain ⟨u,rfl,t,rfl⟩:=vals1 r1;refine call_range_1 ?_;refine aga ?_;have hrs:Builtin.Range.rangeSize 0 (n:Int) 1=(n:Nat):=by rw [rangeSize_one];split <;>omega
 generalize hro:({ cls:=.type "range",data:=.fields #[.int 0 s1.toks,.int (n:Int) t,.int 1 (s1.toks+1)] }:Obj)=ro;have I2:Inv X pins σ H1 { s1 with heap:=s1.heap.push ro,toks:=s1.toks+1+1 }:=I1.kept fun b o e=>aeP _ e;have hR:IsRange (s1.heap.push ro) s1.heap.objs.size 0 (n:Int) 1 s1.toks t (s1.toks+1):=by
  rw [<- hro];exact aeW _ rfl
 refine call_list_range (I.ok.hd hcalm) hR (small_one (by omega) (by omega) (by omega) (by omega)) hrs (by omega) fun h' tk acc c hk hS hacc=>?_;exact ⟨.ref (s1.heap.push ro).objs.size,_,I2.laid (t':=tk) hk (aeL _) (show gq X.prog X.w _ h' _ (.lst (jx n)) from ⟨by unfold jx;rw [ac5,afz,sizeLine_eq];omega,acc.toList,c,KD hacc,by simpa using hS⟩),rfl,q _ (I2.hok.fresh (aeL _))⟩
theorem Inv.wZ {pins:List (Addr × Obj)}{σ:St}{H:Hp}{s:Shared}{h':Heap}{t':Nat}{ch:List Addr}(I:Inv X pins σ H s)(k:∀ b o,b ∉ ch->s.heap.get? b=some o->h'.get? b=some o)(f:∀ b∈ch,Hv X pins H b):Inv X pins σ H { s with heap:=h',toks:=t' }:=by
 have nit:∀ b u,H b=some u->b ∉ ch:=fun b u e z=>by rw [(f b z).1] at e;cases e
 refine I.step (g':=s.gens) (d':=s.drawn) (ch:=ch) (fun b hb=>?_) (fun b o _ _ hc e _=>k b o hc e) (fun b o _ _ hc e _=>⟨o.slots,k b o hc e⟩) (fun _ _ _ _ n=>n)
  (fun b o hc e=>⟨o,k b o hc e⟩) (fun _ _ e=>e) (fun _ _ _ e=>e) (fun b ps e=>⟨#[],by rw [e];simp⟩) (fun m hm=>?_) (fun b u e=>?_) I.bare
 ·obtain ⟨f0,f1,f2,f3,f4,f5⟩:=f b hb;exact ⟨f3,f1,f4,f5⟩
 ·obtain ⟨o,es,ep,ho,r⟩:=hm;exact ⟨o,es,ep,k _ o (fun z=>(f _ z).2.1 rfl) ho,r⟩
 ·refine (I.hok b u e).stay (fun c v hc q=>k c v ?_ q) (fun _ q=>q) fun _ _ q=>q;rcases hc with z| z
  ·rw [z];exact nit b u e
  ·exact nit c _ z
def Itz (K:PySem.W.Frag)(l1 l2:Addr)(xs ys:List V):It:=
 ⟨fun i H=>SqL K H l1 xs/\SqL K H l2 ys/\i<xs.length/\i<ys.length,fun i H x H'=>∃ T a b,x=.ref T/\H T=none/\xs[i]?=some a/\ys[i]?=some b/\H'=upd H T (.tup [a,b]),
  fun i H=>SqL K H l1 xs/\SqL K H l2 ys/\(xs.length<=i\/ys.length<=i)⟩
def ad9 (z TI TO i1 i2 l1 l2:Addr)(i:Nat)(h:Heap):Prop:=IsZip h z TI TO .none/\IsPair h TI (.ref i1) (.ref i2)/\(∃ a b,IsPair h TO a b)/\h.IsListIter i1 l1 i/\h.IsListIter i2 l2 i
theorem QH {P:Program}{w:World}{K:PySem.W.Frag}{elts:List Expr}{kk:Nat}{tpos:Pos}{z TI TO i1 i2 l1 l2:Addr}{xs ys:List V}(D:ZipApart z TI TO i1 i2 l1 l2):
  Turn P w K (.Tuple elts kk tpos) (Itz K l1 l2 xs ys) [z,TI,TO,i1,i2] z (ad9 z TI TO i1 i2 l1 l2) where
 mem:=by simp
 obj:=fun i h st b hb=>by
  obtain ⟨hz,hTI,⟨a,b',hTO⟩,⟨o1,e1,c1,d1⟩,⟨o2,e2,c2,d2⟩⟩:=st;simp at hb;rcases hb with rfl| rfl| rfl| rfl| rfl
  ·exact ⟨_,hz,fun v z=>by cases (show Data.fields _=Data.cell v from z)⟩
  ·exact ⟨_,hTI,fun v z=>by cases (show Data.seq _ _=Data.cell v from z)⟩
  ·exact ⟨_,hTO,fun v z=>by cases (show Data.seq _ _=Data.cell v from z)⟩
  ·exact ⟨o1,e1,fun v z=>by rw [d1] at z;cases z⟩
  ·exact ⟨o2,e2,fun v z=>by rw [d2] at z;cases z⟩
 keep:=fun i h h' st k=>by
  obtain ⟨hz,hTI,⟨a,b,hTO⟩,h1,h2⟩:=st;exact ⟨k z (by simp) _ hz,k TI (by simp) _ hTI,⟨a,b,k TO (by simp) _ hTO⟩,h1.at fun o e=>k i1 (by simp) o e,h2.at fun o e=>k i2 (by simp) o e⟩
 item:=by
  intro X hP hw hK hc i pins s σ H E I hf st hg;subst hP hw hK;obtain ⟨hz,hTI,⟨p,p',hTO⟩,h1,h2⟩:=st;obtain ⟨hq1,hq2,hi1,hi2⟩:=hg;obtain ⟨its1,rv1,pl1,hz1⟩:=I.list hq1;obtain ⟨its2,rv2,pl2,hz2⟩:=I.list hq2;obtain ⟨u1,hu1,ru1⟩:=rv1.get (aeD hi1);obtain ⟨u2,hu2,ru2⟩:=rv2.get (aeD hi2);refine wpAny_pyNext_zip_item D hz hTI hTO h1 h2 pl1.isList pl2.isList (x:=u1) (y:=u2) (by simpa using hu1) (by simpa using hu2) fun h' a1 a2 a3 a4 a5 a6 hk=>?_;have lt:∀ {c o},s.heap.get? c=some o->s.heap.objs.size≠c:=fun e=>Nat.ne_of_gt (aeV e);refine ⟨.ref s.heap.objs.size,rfl,wpAny_letOwnedTupleGo_zip (s:={ s with heap:=h' }) a1 fun h'' hz' hs'=>?_⟩;have Tz:s.heap.objs.size≠z:=lt hz;have sub:∀ b∈([z,TO,i1,i2]:List Addr),b∈([z,TI,TO,i1,i2]:List Addr):=fun b hb=>by
   simp at hb ⊢;rcases hb with rfl| rfl| rfl| rfl <;>simp
  have I1:Inv X pins σ H { s with heap:=h'' }:=I.wZ (t':=s.toks) (ch:=[z,TO,i1,i2])
   (fun b o hb e=>hs'.extBut b o (fun x=>hb (by simp [x])) (hk b o (fun x=>hb (by simp [x])) (fun x=>hb (by simp [x])) (fun x=>hb (by simp [x])) (fun x=>hb (by simp [x])) e)) fun b hb=>hf b (sub b hb)
  have F:=I.IK (H':=H) (aeL _) (I.hok.fresh (aeL _));obtain ⟨F0,F1,F2,F3,F4,F5⟩:=F;have hT:IsTup h'' s.heap.objs.size #[u1,u2]:=⟨_,hs'.extBut _ _ Tz a5,rfl,_,rfl⟩;have I2:Inv X pins σ (upd H s.heap.objs.size (.tup [xs[i],ys[i]])) { s with heap:=h'' }:=I1.adopt F0 F1 I.sz F4 F5 (show gq X.prog X.w _ h'' _ (.tup [xs[i],ys[i]]) from ⟨by rw [sizeLine_eq];simp,[u1,u2],.cons ru1 (.cons ru2 .nil),hT⟩);refine ⟨.ref s.heap.objs.size,_,I2,rfl,⟨_,_,_,rfl,F0,aeD hi1,aeD hi2,rfl⟩,?_,fun b hb=>?_⟩
  ·exact ⟨hz',hs'.extBut _ _ D.TIz (hk _ _ D.TIz D.TITO D.TIi1 D.TIi2 hTI),⟨_,_,hs'.extBut _ _ D.TOz a2⟩,a3.extBut hs'.extBut D.i1z,a4.extBut hs'.extBut D.i2z⟩
  ·rw [aN]
   ·exact (hf b hb).1
   ·simp at hb;obtain ⟨o1,e1,_⟩:=h1;obtain ⟨o2,e2,_⟩:=h2;rcases hb with rfl| rfl| rfl| rfl| rfl
    ·exact (lt hz).symm
    ·exact (lt hTI).symm
    ·exact (lt hTO).symm
    ·exact (lt e1).symm
    ·exact (lt e2).symm
 done:=by
  intro X hP hw hK hc i pins s σ H E I hf st hg;subst hP hw hK;obtain ⟨hz,hTI,⟨p,p',hTO⟩,h1,h2⟩:=st;obtain ⟨hq1,hq2,hend⟩:=hg;obtain ⟨its1,rv1,pl1,hz1⟩:=I.list hq1;obtain ⟨its2,rv2,pl2,hz2⟩:=I.list hq2;have e1:=rv1.length;have e2:=rv2.length;have sub:∀ b∈([z,TO,i1,i2]:List Addr),b∈([z,TI,TO,i1,i2]:List Addr):=fun b hb=>by
   simp at hb ⊢;rcases hb with rfl| rfl| rfl| rfl <;>simp
  refine wpAny_pyNext_zip_end (I.ok.hd hc) D hz hTI hTO h1 h2 pl1.isList pl2.isList ?_ fun h' hk=>⟨rfl,I.wZ (t':=s.toks) (ch:=[z,TO,i1,i2])
   (fun b o hb e=>hk b o (fun x=>hb (by simp [x])) (fun x=>hb (by simp [x])) (fun x=>hb (by simp [x])) (fun x=>hb (by simp [x])) e) fun b hb=>hf b (sub b hb)⟩
  rcases hend with h| h
  ·exact .inl (by simp;omega)
  ·exact .inr (by simp;omega)
 self:=fun _ _ _ _ _ st h=>wpAny_pyIter_zip st.1 h
def iZip (K:PySem.W.Frag)(ta:TA):TI:=fun σ H R=>ta σ H fun vs H1=>∃ l1 l2 xs ys,vs=[.ref l1,.ref l2]/\SqL K H1 l1 xs/\SqL K H1 l2 ys/\R (Itz K l1 l2 xs ys) H1
theorem zV {elts:List Expr}{kk:Nat}{tpos:Pos}{a b:Expr}{ta:TA}{p pos:Pos}(hg:Gl X "zip")(hm:X.mg "zip"=none)(ha:PA X [a,b] ta)(hs:starEach [a,b] X.env=[(false,eval a X.env),(false,eval b X.env)]:=by rfl)(hs2:starEach [b] X.env=[(false,eval b X.env)]:=by rfl):
  PI X (.Tuple elts kk tpos) (.Call (.Name "zip" p) [a,b] [] pos) (iZip X.K ta):=by
 intro pins s σ H R I h;refine Call_ (mF I hg hm boot_zip (afp (thn (ha pos pins s σ H _ I h) fun us s1 ⟨vs,H1,I1,r1,q1⟩=>?_) (by rw [hs,hs2]) (by rw [hs2];rfl)));obtain ⟨l1,l2,xs,ys,e,hq1,hq2,q⟩:=q1;subst e;cases r1 with
 | cons r rr =>
  cases rr with
  | cons r' rr =>
   cases rr;cases r;cases r';obtain ⟨its1,rv1,pl1,hz1⟩:=I1.list hq1;obtain ⟨its2,rv2,pl2,hz2⟩:=I1.list hq2;refine call_zip_2 pl1.isList pl2.isList fun h' a1 a2 a3 a4 a5 a6 hk=>?_;refine wpAny_pyIter_zip a1 ?_;have b1:l1<s1.heap.objs.size:=by obtain ⟨o,e,_⟩:=pl1.isList;exact aeV e
   have b2:l2<s1.heap.objs.size:=by obtain ⟨o,e,_⟩:=pl2.isList;exact aeV e
   refine ⟨_,_,_,_,H1,rfl,I1.kept (t':=s1.toks) hk,QH (l1:=l1) (l2:=l2) (xs:=xs) (ys:=ys) (TI:=s1.heap.objs.size+2) (TO:=s1.heap.objs.size+3) (i1:=s1.heap.objs.size) (i2:=s1.heap.objs.size+1) ?_,⟨a1,a2,⟨_,_,a3⟩,a4,a5⟩,fun b hb=>?_,q⟩
   ·constructor <;>exact fun z=>by simp only [Addr] at z b1 b2;omega
   ·have hb':s1.heap.objs.size<=b:=by
     simp at hb;rcases hb with rfl| rfl| rfl| rfl| rfl <;>simp
    exact I1.IK hb' (I1.hok.fresh hb')
theorem Et {K:PySem.W.Frag}{l1 l2:Addr}{xs ys:List V}{g:TG}{tb:TS}{D:Ends}{σ:St}{H:Hp}(Pv:Nat->St->Hp->Prop)(hxy:xs.length=ys.length)(h0:Pv 0 σ H)(hl:∀ i σ H,i<=xs.length->Pv i σ H->SqL K H l1 xs/\SqL K H l2 ys)
  (hs:∀ i a b T σ H,xs[i]?=some a->ys[i]?=some b->Pv i σ H->H T=none->g (.ref T) σ (upd H T (.tup [a,b])) fun σ2 H2=>tb { D with nx:=Pv (i+1),ct:=Pv (i+1),bk:=D.nx } σ2 H2)(hd:∀ σ H,Pv xs.length σ H->D.nx σ H):
  ∃ W:Nat->Nat->St->Hp->Prop,(∃ m,W 0 m σ H)/\∀ i m σ H,W i m σ H ->
   ((Itz K l1 l2 xs ys).stop i H/\D.nx σ H)\/((Itz K l1 l2 xs ys).go i H/\∃ N:St->Hp->Prop,(∀ σ' H',N σ' H'->∃ m',m'<m/\W (i+1) m' σ' H')/\∀ x H',(Itz K l1 l2 xs ys).yld i H x H'->g x σ H' fun σ2 H2=>tb { D with nx:=N,ct:=N,bk:=D.nx } σ2 H2):=by
 refine ⟨fun i m σ H=>m=xs.length - i/\i<=xs.length/\Pv i σ H,⟨xs.length,by simp,afs _,h0⟩,?_⟩
 rintro i m σ H ⟨rfl,hi,p⟩
 obtain ⟨q1,q2⟩:=hl i σ H hi p
 by_cases hlt:i<xs.length
 ·refine .inr ⟨⟨q1,q2,hlt,by omega⟩,Pv (i+1),fun σ' H' p'=>⟨xs.length - (i+1),by omega,rfl,hlt,p'⟩,fun x H' y=>?_⟩
  obtain ⟨T,a,b,rfl,hT,ha,hb,rfl⟩:=y
  exact hs i a b T σ _ ha hb p hT
 ·have e:i=xs.length:=by omega
  subst e
  exact .inl ⟨⟨q1,q2,.inl (aeL _)⟩,hd σ H p⟩
end
section
variable {X:Cx}
def Ite (K:PySem.W.Frag)(l:Addr)(xs:List V):It:=
 ⟨fun i H=>SqL K H l xs/\i<xs.length,fun i H x H'=>∃ T a,x=.ref T/\H T=none/\xs[i]?=some a/\H'=upd H T (.tup [.int (i:Int),a]),fun i H=>SqL K H l xs/\xs.length<=i⟩
def acU (e it l:Addr)(i:Nat)(h:Heap):Prop:=(∃ old,IsEnum h e it i old)/\h.IsListIter it l i
theorem LK {P:Program}{w:World}{K:PySem.W.Frag}{elts:List Expr}{kk:Nat}{tpos:Pos}{e it l:Addr}{xs:List V}(hei:e≠it):
  Turn P w K (.Tuple elts kk tpos) (Ite K l xs) [e,it] e (acU e it l) where
 mem:=by simp
 obj:=fun i h st b hb=>by
  obtain ⟨⟨old,he⟩,⟨o1,e1,c1,d1⟩⟩:=st;simp at hb;rcases hb with rfl| rfl
  ·exact ⟨_,he,fun v z=>by cases (show Data.fields _=Data.cell v from z)⟩
  ·exact ⟨o1,e1,fun v z=>by rw [d1] at z;cases z⟩
 keep:=fun i h h' st k=>by
  obtain ⟨⟨old,he⟩,h1⟩:=st;exact ⟨⟨old,k e (by simp) _ he⟩,h1.at fun o x=>k it (by simp) o x⟩
 item:=by
  intro X hP hw hK hc i pins s σ H E I hf st hg;subst hP hw hK;obtain ⟨⟨old,he⟩,h1⟩:=st;obtain ⟨hq1,hi1⟩:=hg;obtain ⟨its1,rv1,pl1,hz1⟩:=I.list hq1;obtain ⟨u1,hu1,ru1⟩:=rv1.get (aeD hi1);refine wpAny_pyNext_enum_item he h1 pl1.isList (x:=u1) (by simpa using hu1) hei fun h' a1 a2 a3 a4 hk=>?_;have lt:∀ {c o},s.heap.get? c=some o->s.heap.objs.size≠c:=fun e=>Nat.ne_of_gt (aeV e);refine ⟨.ref s.heap.objs.size,rfl,wpAny_letOwnedTupleGo_enum (s:={ s with heap:=h',toks:=s.toks+1 }) a1 fun h'' hz' hs'=>?_⟩;have Tz:s.heap.objs.size≠e:=lt he;have I1:Inv X pins σ H { s with heap:=h'',toks:=s.toks+1 }:=I.wZ (ch:=[e,it])
   (fun b o hb x=>hs'.extBut b o (fun z=>hb (by simp [z])) (hk b o (fun z=>hb (by simp [z])) (fun z=>hb (by simp [z])) x)) fun b hb=>hf b hb
  obtain ⟨F0,F1,F2,F3,F4,F5⟩:=I.IK (H':=H) (aeL _) (I.hok.fresh (aeL _));have hT:IsTup h'' s.heap.objs.size #[.int (i:Int) s.toks,u1]:=⟨_,hs'.extBut _ _ Tz a3,rfl,_,rfl⟩;have I2:Inv X pins σ (upd H s.heap.objs.size (.tup [.int (i:Int),xs[i]])) { s with heap:=h'',toks:=s.toks+1 }:=I1.adopt F0 F1 I.sz F4 F5 (show gq X.prog X.w _ h'' _ (.tup [.int (i:Int),xs[i]]) from ⟨by rw [sizeLine_eq];simp,[.int (i:Int) s.toks,u1],.cons ⟨_,rfl⟩ (.cons ru1 .nil),hT⟩);refine ⟨.ref s.heap.objs.size,_,I2,rfl,⟨_,_,rfl,F0,aeD hi1,rfl⟩,?_,fun b hb=>?_⟩
  ·exact ⟨⟨_,by simpa using hz'⟩,a2.extBut hs'.extBut hei.symm⟩
  ·rw [aN]
   ·exact (hf b hb).1
   ·simp at hb;obtain ⟨o1,e1,_⟩:=h1;rcases hb with rfl| rfl
    ·exact (lt he).symm
    ·exact (lt e1).symm
 done:=by
  intro X hP hw hK hc i pins s σ H E I hf st hg;subst hP hw hK;obtain ⟨⟨old,he⟩,h1⟩:=st;obtain ⟨hq1,hend⟩:=hg;obtain ⟨its1,rv1,pl1,hz1⟩:=I.list hq1;have e1:=rv1.length;exact wpAny_pyNext_enum_end (I.ok.hd hc) he h1 pl1.isList (by simp;omega) fun h' hk=>⟨rfl,I.wZ (t':=s.toks) (ch:=[e,it])
   (fun b o hb x=>hk b o (fun z=>hb (by simp [z])) x) fun b hb=>hf b hb⟩
 self:=fun _ _ _ _ _ st h=>by
  obtain ⟨⟨old,he⟩,_⟩:=st;exact wpAny_pyIter_enum he h
def adZ (K:PySem.W.Frag)(ta:TA):TI:=fun σ H R=>ta σ H fun vs H1=>∃ l xs,vs=[.ref l]/\SqL K H1 l xs/\R (Ite K l xs) H1
theorem Nu {elts:List Expr}{kk:Nat}{tpos:Pos}{a:Expr}{ta:TA}{p pos:Pos}(hg:Gl X "enumerate")(hm:X.mg "enumerate"=none)(ha:PA X [a] ta)(hs:starEach [a] X.env=[(false,eval a X.env)]:=by rfl):
  PI X (.Tuple elts kk tpos) (.Call (.Name "enumerate" p) [a] [] pos) (adZ X.K ta):=by
 intro pins s σ H R I h;refine Call_ (mF I hg hm boot_enumerate (afp (thn (ha pos pins s σ H _ I h) fun us s1 ⟨vs,H1,I1,r1,q1⟩=>?_) hs rfl));obtain ⟨l1,xs,e,hq1,q⟩:=q1;subst e;obtain ⟨u,rfl,ru⟩:=vals1 r1;cases ru;obtain ⟨its1,rv1,pl1,hz1⟩:=I1.list hq1;refine call_enumerate_list pl1.isList fun h' a1 a2 a3 hk=>?_;refine wpAny_pyIter_enum a1 ?_;refine ⟨_,_,_,_,H1,rfl,I1.kept (t':=s1.toks) hk,LK (l:=l1) (xs:=xs) (it:=s1.heap.objs.size) (Nat.succ_ne_self _),⟨⟨_,a1⟩,a2⟩,fun b hb=>?_,q⟩;have hb':s1.heap.objs.size<=b:=by
  simp at hb;rcases hb with rfl| rfl <;>simp
 exact I1.IK hb' (I1.hok.fresh hb')
theorem R8 {K:PySem.W.Frag}{l:Addr}{xs:List V}{g:TG}{tb:TS}{D:Ends}{σ:St}{H:Hp}(Pv:Nat->St->Hp->Prop)(h0:Pv 0 σ H)(hl:∀ i σ H,i<=xs.length->Pv i σ H->SqL K H l xs)
  (hs:∀ i a T σ H,xs[i]?=some a->Pv i σ H->H T=none->g (.ref T) σ (upd H T (.tup [.int (i:Int),a])) fun σ2 H2=>tb { D with nx:=Pv (i+1),ct:=Pv (i+1),bk:=D.nx } σ2 H2)(hd:∀ σ H,Pv xs.length σ H->D.nx σ H):
  ∃ W:Nat->Nat->St->Hp->Prop,(∃ m,W 0 m σ H)/\∀ i m σ H,W i m σ H ->
   ((Ite K l xs).stop i H/\D.nx σ H)\/((Ite K l xs).go i H/\∃ N:St->Hp->Prop,(∀ σ' H',N σ' H'->∃ m',m'<m/\W (i+1) m' σ' H')/\∀ x H',(Ite K l xs).yld i H x H'->g x σ H' fun σ2 H2=>tb { D with nx:=N,ct:=N,bk:=D.nx } σ2 H2):=by
 refine ⟨fun i m σ H=>m=xs.length - i/\i<=xs.length/\Pv i σ H,⟨xs.length,by simp,afs _,h0⟩,?_⟩
 rintro i m σ H ⟨rfl,hi,p⟩
 have q1:=hl i σ H hi p
 by_cases hlt:i<xs.length
 ·refine .inr ⟨⟨q1,hlt⟩,Pv (i+1),fun σ' H' p'=>⟨xs.length - (i+1),by omega,rfl,hlt,p'⟩,fun x H' y=>?_⟩
  obtain ⟨T,a,rfl,hT,ha,rfl⟩:=y
  exact hs i a T σ _ ha p hT
 ·have e:i=xs.length:=by omega
  subst e
  exact .inl ⟨⟨q1,aeL _⟩,hd σ H p⟩
theorem Qg {K:PySem.W.Frag}{a:Addr}{xs:List V}{acc:Addr}{g:TG}{tc:TT}{te:TE}{τ:St}{H1:Hp}{Q:Hp->Prop}(Pv:Nat->St->Hp->Prop)(h0:Pv 0 τ (upd H1 acc (.lst [])))(hl:∀ i τ H,i<=xs.length->Pv i τ H->SqL K H a xs)
  (hs:∀ i x T τ H,xs[i]?=some x->Pv i τ H->H T=none->g (.ref T) τ (upd H T (.tup [.int (i:Int),x])) fun τ4 H4=>tc τ4 H4 fun b H5=>if b=true then te τ4 H5 fun y H6=>∃ ys,H6 acc=some (.lst ys)/\ys.length<sizeLine/\Pv (i+1) τ4 (upd H6 acc (.lst (ys++[y]))) else Pv (i+1) τ4 H5)
  (hd:∀ τ H,Pv xs.length τ H->Q H):Ca (Ite K a xs) acc g tc te τ H1 Q:=by
 refine ⟨fun i m τ H=>m=xs.length - i/\i<=xs.length/\Pv i τ H,⟨xs.length,by simp,afs _,h0⟩,?_⟩
 rintro i m τ H ⟨rfl,hi,p⟩
 have q:=hl i τ H hi p
 by_cases hlt:i<xs.length
 ·refine .inr ⟨⟨q,hlt⟩,Pv (i+1),fun τ' H' p'=>⟨xs.length - (i+1),by omega,rfl,hlt,p'⟩,fun x H' y=>?_⟩
  obtain ⟨T,b,rfl,hT,hb,rfl⟩:=y
  exact hs i b T τ _ hb p hT
 ·have e:i=xs.length:=by omega
  subst e
  exact .inl ⟨⟨q,aeL _⟩,hd τ H p⟩
theorem Fg {K:PySem.W.Frag}{l1 l2:Addr}{xs ys:List V}{acc:Addr}{g:TG}{tc:TT}{te:TE}{τ:St}{H1:Hp}{Q:Hp->Prop}(Pv:Nat->St->Hp->Prop)(hxy:xs.length=ys.length)(h0:Pv 0 τ (upd H1 acc (.lst [])))(hl:∀ i τ H,i<=xs.length->Pv i τ H->SqL K H l1 xs/\SqL K H l2 ys)
  (hs:∀ i x y T τ H,xs[i]?=some x->ys[i]?=some y->Pv i τ H->H T=none->g (.ref T) τ (upd H T (.tup [x,y])) fun τ4 H4=>tc τ4 H4 fun b H5=>if b=true then te τ4 H5 fun y H6=>∃ ys,H6 acc=some (.lst ys)/\ys.length<sizeLine/\Pv (i+1) τ4 (upd H6 acc (.lst (ys++[y]))) else Pv (i+1) τ4 H5)
  (hd:∀ τ H,Pv xs.length τ H->Q H):Ca (Itz K l1 l2 xs ys) acc g tc te τ H1 Q:=by
 refine ⟨fun i m τ H=>m=xs.length - i/\i<=xs.length/\Pv i τ H,⟨xs.length,by simp,afs _,h0⟩,?_⟩
 rintro i m τ H ⟨rfl,hi,p⟩
 obtain ⟨q1,q2⟩:=hl i τ H hi p
 by_cases hlt:i<xs.length
 ·refine .inr ⟨⟨q1,q2,hlt,by omega⟩,Pv (i+1),fun τ' H' p'=>⟨xs.length - (i+1),by omega,rfl,hlt,p'⟩,fun x H' y=>?_⟩
  obtain ⟨T,b,c,rfl,hT,hb,hc,rfl⟩:=y
  exact hs i b c T τ _ hb hc p hT
 ·have e:i=xs.length:=by omega
  subst e
  exact .inl ⟨⟨q1,q2,.inl (aeL _)⟩,hd τ H p⟩
end
structure Iv (P:Prop):Prop where
 t:True
 p:P
theorem ifT {c:Bool}{A B:Prop}(h:c=true)(a:A):if c=true then A else B:=by rw [if_pos h];exact a
theorem ifF {c:Bool}{A B:Prop}(h:c=false)(b:B):if c=true then A else B:=by rw [if_neg (by rw [h];exact aeR)];exact b
theorem ifB {c:Bool}{A B:Prop}(h1:c=true->A)(h2:c=false->B):if c=true then A else B:=by
 cases c with
 | true=>exact ifT rfl (h1 rfl)
 | false=>exact ifF rfl (h2 rfl)
theorem aaG (x y:Int):decide (V.int x=V.int y)=decide (x=y):=by
 by_cases h:x=y
 ·simp [h]
 ·have:¬ V.int x=V.int y:=fun e=>h (by cases e;rfl);simp [h,this]
theorem iz {ns:List Int}{i:Int}(h0:0<=i)(h1:i<(ns.length:Int)):atI (ns.map V.int) i=some (V.int (ns.getD i.toNat 0)):=by
 refine mH h0 ?_;rw [aeM,aeD (by omega)];rfl
theorem gG {ns:List Int}{k:Nat}(h:k<ns.length):ns[k]?=some (ns.getD k 0):=by
 rw [aeM,aeD h];rfl
theorem adT {n:Nat}{i:Int}(h0:0<=i)(h1:i<(n:Int)):ixN n i=some i.toNat:=by
 unfold ixN;rw [if_pos h0,if_pos h1]
theorem bZ.mo {T:dX}{K:PySem.W.Frag}{H H':Hp}{vs:List V}{ds:List PyData}(h:bZ K H vs ds)(e:aJ T H H'):bZ K H' vs ds:=bZ.BJ e h
theorem SqL.mo {T:dX}{K:PySem.W.Frag}{H H':Hp}{a:Addr}{xs:List V}(h:SqL K H a xs)(e:aJ T H H'):SqL K H' a xs:=e.seq h
theorem SqT.mo {T:dX}{K:PySem.W.Frag}{H H':Hp}{a:Addr}{xs:List V}(h:SqT K H a xs)(e:aJ T H H'):SqT K H' a xs:=e.acX h
section
variable {T:dX}{H0 H1 H H':Hp}{L L':List (Addr × HO)}{a l p:Addr}{o o':HO}{xs:List V}{K:PySem.W.Frag}
theorem Ow.frz (O:Ow T H0 H ((p,o)::L)):∃ Hn,Ow T Hn H L/\aJ T H0 Hn/\Hn p=some o:=by
 obtain ⟨Hn,On,sn,kn⟩:=O.tail.reb;refine ⟨Hn,On,sn,kn p o (O.get 0) fun q hq z=>?_⟩;have nd:=O.nd;rw [afg,afJ] at nd;exact nd.1 (afc.mpr ⟨q,hq,z⟩)
theorem Ow.join (O:Ow T H0 H L)(O':Ow T H H' L'):Ow T H0 H' (L'++L):=by
 have keep:∀ q∈L,H' q.1=some q.2:=fun q hq=>(O.jq O'.same).at_ q hq;refine ⟨O.same.trans O'.same,fun q hq=>?_,fun q hq=>?_,fun q hq=>?_,?_⟩
 ·rcases afa.mp hq with h| h
  ·exact O.same.free (O'.new q h)
  ·exact O.new q h
 ·rcases afa.mp hq with h| h
  ·exact O'.at_ q h
  ·exact keep q h
 ·rcases afa.mp hq with h| h
  ·exact O'.pl q h
  ·exact O.pl q h
 ·rw [aeN,agx];refine ⟨O'.nd,O.nd,fun x hx y hy z=>?_⟩;obtain ⟨q,hq,rfl⟩:=afc.mp hx;obtain ⟨r,hr,rfl⟩:=afc.mp hy;have:=O'.new q hq;rw [z,O.at_ r hr] at this;cases this
end
def dTup (ns:List Int):PyData:=.tuple (ns.map PyData.int)
def Kg (rs:List (List Int)):PyData:=.list (rs.map vN)
section
variable {K:PySem.W.Frag}{H:Hp}{v:V}{a:Addr}{ns:List Int}{rs:List (List Int)}
theorem Den.tup (h:SqT K H a (ns.map V.int)):Den K H (.ref a) (dTup ns):=.tuple h (bZ.ints ns)
theorem Den.Zx (h:Den K H v (dTup ns)):∃ a,v=.ref a/\SqT K H a (ns.map V.int):=by
 cases h with
 | tuple h hs=>exact ⟨_,rfl,by rw [<- bZ.int_inv hs];exact h⟩
theorem Den.kI {ds:List PyData}(h:Den K H v (.list ds)):∃ a xs,v=.ref a/\SqL K H a xs/\bZ K H xs ds:=by
 cases h with
 | list h hs=>exact ⟨_,_,rfl,h,hs⟩
theorem Den.FJ {ds:List PyData}(h:Den K H v (.tuple ds)):∃ a xs,v=.ref a/\SqT K H a xs/\bZ K H xs ds:=by
 cases h with
 | tuple h hs=>exact ⟨_,_,rfl,h,hs⟩
end
section
variable {A B:Prop}
theorem ifD {p:Prop} [Decidable p] (h1:p->A) (h2:¬ p->B):if decide p=true then A else B:=ifB (fun h=>h1 (of_decide_eq_true h)) fun h=>h2 (of_decide_eq_false h)
theorem ifI {x y:Int}(h1:x=y->A)(h2:¬ x=y->B):if decide (V.int x=V.int y)=true then A else B:=by rw [aaG];exact ifD h1 h2
theorem ifN {c:Bool}(h:if c=true then B else A):if (!c)=true then A else B:=by cases c <;>simpa using h
end
structure Lic where
 day:Int
 start:Int
 back:Int
 most:Int
def yO (l:Lic):PyData:=dTup [l.day,l.start,l.back,l.most]
def Ss (ls:List Lic):PyData:=.list (ls.map yO)
abbrev zG (l:Lic):List V:=[.int l.day,.int l.start,.int l.back,.int l.most]
section
variable {K:PySem.W.Frag}{H:Hp}{v:V}{a:Addr}{ls:List Lic}{l:Lic}{xs:List V}{k:Nat}
theorem Den.lic (h:SqT K H a (zG l)):Den K H (.ref a) (yO l):=Den.tup (ns:=[l.day,l.start,l.back,l.most]) h
theorem Den.Ol (h:Den K H v (yO l)):∃ a,v=.ref a/\SqT K H a (zG l):=h.Zx
theorem bZ.uy (h:bZ K H xs (ls.map yO))(hk:ls[k]?=some l):∃ a,xs[k]?=some (.ref a)/\SqT K H a (zG l):=by
 obtain ⟨v,h1,h2⟩:=h.get (i:=k) (d:=yO l) (by rw [aeQ,hk];rfl);obtain ⟨a,rfl,hT⟩:=h2.Ol;exact ⟨a,h1,hT⟩
theorem bZ.Ir (h:bZ K H xs (ls.map yO))(hx:xs[k]?=some v):∃ a l,v=.ref a/\ls[k]?=some l/\SqT K H a (zG l):=by
 obtain ⟨d,h1,h2⟩:=h.get' hx;rw [aeQ] at h1;cases e:ls[k]? with
 | none=>rw [e] at h1;cases h1
 | some l =>
  rw [e] at h1;cases h1;obtain ⟨a,rfl,hT⟩:=h2.Ol;exact ⟨a,l,rfl,rfl,hT⟩
end
theorem aaI (xs:List V)(i j:Nat):GP xs (some (i:Int)) (some (j:Int))=(xs.drop i).take (j - i):=by
 unfold GP;rw [HT.DG,HT.DG];refine List.ext_getElem? fun k=>?_;simp only [List.getElem?_take,List.getElem?_drop];by_cases h1:k<j - i
 ·rw [if_pos h1];by_cases h2:i+k<xs.length
  ·rw [if_pos (by omega),show min i xs.length=i by omega]
  ·rw [afu (l:=xs) (i:=i+k) (by omega)];split
   ·exact afu (by omega)
   ·rfl
 ·rw [if_neg h1];split
  ·rename_i h3
   omega
  ·rfl
theorem acI (ns:List Int)(i j:Nat):GP (ns.map V.int) (some (i:Int)) (some (j:Int))=((ns.drop i).take (j - i)).map V.int:=by
 rw [aaI,List.map_take,List.map_drop]
theorem Fe (ns:List Int)(i:Nat):GP (ns.map V.int) (some (i:Int)) none=(ns.drop i).map V.int:=by
 unfold GP;rw [HT.DG,ac5,show HT.sIx ns.length ns.length none=ns.length from rfl,List.map_drop];by_cases h:i<=ns.length
 ·rw [Nat.min_eq_left h,aeU (by rw [agc,ac5];omega)]
 ·rw [Nat.min_eq_right (by omega),List.drop_of_length_le (l:=ns.map V.int) (i:=i) (by rw [ac5];omega),Nat.sub_self,List.take_zero]
theorem Ow.lend {T:dX}{H0 H:Hp}{A B:List (Addr × HO)}(O:Ow T H0 H (A++B)):∃ H1,Ow T H1 H A/\aJ T H0 H1/\(∀ p∈B,H1 p.1=some p.2)/\∀ (H':Hp)(A':List (Addr × HO)),Ow T H1 H' A'->Ow T H0 H' (A'++B):=by
 have OA:Ow T H0 H A:=O.sub (agw A B);have OB:Ow T H0 H B:=O.sub (afC A B);obtain ⟨H1,O1,s1,k1⟩:=OA.reb;have nd:=O.nd;rw [aeN,agx] at nd;have hB:∀ p∈B,H1 p.1=some p.2:=fun p hp=>k1 p.1 p.2 (OB.at_ p hp) fun q hq z=>nd.2.2 q.1 (afc.mpr ⟨q,hq,rfl⟩) p.1 (afc.mpr ⟨p,hp,rfl⟩) z;refine ⟨H1,O1,s1,hB,fun H' A' O'=>?_⟩;refine ⟨s1.trans O'.same,fun p hp=>?_,fun p hp=>?_,fun p hp=>?_,?_⟩
 ·rcases afa.mp hp with h| h
  ·exact s1.free (O'.new p h)
  ·exact OB.new p h
 ·rcases afa.mp hp with h| h
  ·exact O'.at_ p h
  ·refine O'.same.keep _ _ (hB p h) fun ps z=>?_;have:=OB.pl p h;rw [z] at this;cases this
 ·rcases afa.mp hp with h| h
  ·exact O'.pl p h
  ·exact OB.pl p h
 ·rw [aeN,agx];refine ⟨O'.nd,OB.nd,fun x hx y hy z=>?_⟩;obtain ⟨q,hq,rfl⟩:=afc.mp hx;obtain ⟨r,hr,rfl⟩:=afc.mp hy;have e:=O'.new q hq;rw [z,hB r hr] at e;cases e
theorem qP {X:Cx}{K:PySem.W.Frag}{pos:Pos}{es:List Expr}{k:Nat}{t:TGs}{n:Nat}(hK:X.K=K)(hc:X.calm=true)(h:PGs X es t)(hn:(assignEach es X.env).length=n:=by rfl)(hst:(assignEach es X.env).findIdx? (·.1)=none:=by rfl):PG X (.Tuple es k pos) (aey K n t):=hK ▸ iB hc h hn hst
theorem aaS {τ:St}{H:Hp}{A B:Hp->Prop}(h:A H):ade τ H fun b H5=>if b=true then A H5 else B H5:=by
 show if true=true then A H else B H;rw [if_pos rfl];exact h
theorem Cz {α:Type}:∀ {L:List α}{k:Nat}{p:α},L[k]?=some p->(p::L.eraseIdx k).Perm L
 | [],_,_,h=>by simp at h
 | a::L,0,p,h=>by
  have e:a=p:=by simpa using h
  subst e;exact List.Perm.refl _
 | a::L,k+1,p,h=>by
  have h':L[k]?=some p:=by simpa using h
  rw [List.eraseIdx_cons_succ];exact (List.Perm.swap a p _).trans ((Cz h').cons a)
section
variable {T:dX}{H0 H:Hp}{L:List (Addr × HO)}{p:Addr}{o:HO}
theorem Ow.pull (O:Ow T H0 H L)(k:Nat)(h:L[k]?=some (p,o):=by rfl):Ow T H0 H ((p,o)::L.eraseIdx k):=O.perm (Cz h)
theorem Ow.acz (O:Ow T H0 H L)(k:Nat)(h:L[k]?=some (p,o):=by rfl):∃ Hn,Ow T Hn H (L.eraseIdx k)/\aJ T H0 Hn/\Hn p=some o:=(O.pull k h).frz
theorem Ow.del (O:Ow T H0 H L)(k:Nat):Ow T H0 H (L.eraseIdx k):=O.sub (List.eraseIdx_sublist L k)
end
theorem bZ.Zv {K:PySem.W.Frag}{H:Hp}{xs:List V}{ws:List (List Int)}{i:Nat}{x:V}(h:bZ K H xs (ws.map vN))(hx:xs[i]?=some x):∃ a w,x=.ref a/\ws[i]?=some w/\SqL K H a (w.map V.int):=by
 obtain ⟨d,h1,h2⟩:=h.get' hx;rw [aeQ] at h1;cases e:ws[i]? with
 | none=>rw [e] at h1;cases h1
 | some w =>
  rw [e] at h1;cases h1;obtain ⟨a,rfl,hL⟩:=h2.ud;exact ⟨a,w,rfl,rfl,hL⟩
theorem bZ.Lw {K:PySem.W.Frag}{H:Hp}{xs:List V}{ws:List (List Int)}{i:Nat}{w:List Int}(h:bZ K H xs (ws.map vN))(hw:ws[i]?=some w):∃ a,xs[i]?=some (.ref a)/\SqL K H a (w.map V.int):=by
 obtain ⟨v,h1,h2⟩:=h.get (i:=i) (d:=vN w) (by rw [aeQ,hw];rfl);obtain ⟨a,rfl,hL⟩:=h2.ud;exact ⟨a,h1,hL⟩
theorem wK {X:Cx}{K:PySem.W.Frag}(h:X.K=K):vR X (.type "list") (ab3 K):=h ▸ bf
end L2
namespace L2
open PySem PySem.W PySem.Spec PyProof.Rows
theorem Og (a v:Value):argsOk "min" ⟨[a],[(Str.ofString "default",v)]⟩:=by unfold argsOk;kernel_rfl
section
variable {prog:Program}{w:World}{A:Around}{R:Result->Shared->Prop}{I:Addr}{fp wr:List Addr}{n:Nat}{P:Nat->Value->Prop}{St:Nat->Heap->Prop}
theorem Oe (W:Walks prog w A.in1 I fp wr n P St)(bt:Nat->Nat->Bool)(hcmp:CmpOf prog w A.in1 .Lt P bt)(S:Addr)(hSf:S ∉ fp)(d:Value):
  ∀ (k j:Nat)(s:Shared)(bs:Array Value)(c:Nat),n - j=k->j<=n->St j s.heap->((j=0/\bs=#[])\/∃ i vb,j=i+1/\bs=#[vb,vb]/\P (argBest bt i) vb) ->
  s.heap.get? S=some { cls:=.type "list",dict:=none,data:=.seq bs c,slots:=#[] } ->
  (n=0->∀ h' tk,(∀ b o,b ∉ wr->b≠S->s.heap.get? b=some o->h'.get? b=some o)->R (.ok (.ret d)) { s with heap:=h',toks:=tk }) ->
  (∀ v h' tk,0<n->P (argBest bt (n - 1)) v->(∀ b o,b ∉ wr->b≠S->s.heap.get? b=some o->h'.get? b=some o)->R (.ok (.ret v)) { s with heap:=h',toks:=tk }) ->
  codeAny (model prog w) A (.builtin "min.loop" ⟨[.ref I,.none,.ref S],[(Str.ofString "default",d)]⟩) R s:=by
 have nSw:S ∉ wr:=fun h=>hSf (W.sub _ h);have nm:(toString "min"++toString ".loop":String)="min.loop":=by decide
 intro k
 induction k with
 | zero =>
  intro j s bs c hk hj hst hb hS hR0 hR1;have ej:j=n:=Nat.le_antisymm hj (Nat.le_of_sub_eq_zero hk);subst ej;refine codeAny_builtin F.entry_min_loop ?_;rw [ago agd _];show wpAny _ A.in1 (seqItems? (.ref S)>>=_) _ _ s;refine wpAny_bind (wpAny_seqItems hS rfl ?_);rcases hb with ⟨e0,rfl⟩ | ⟨i,vb,ei,rfl,hP⟩
  ·show wpAny _ A.in1 (tryCatch (pyNext (.ref I)) _ >>=_) _ _ s;refine wpAny_bind (wpAny_tryCatch (W.done s _ _ hst fun h' tk hk'=>?_));refine wpAny_bind (wpAny_rule ?_);exact wpAny_pure (hR0 e0 h' tk fun b o hbw _ e=>hk' b o hbw e)
  ·show wpAny _ A.in1 (tryCatch (pyNext (.ref I)) _ >>=_) _ _ s;refine wpAny_bind (wpAny_tryCatch (W.done s _ _ hst fun h' tk hk'=>?_));have hS':=hk' S _ nSw hS;show wpAny _ A.in1 (updateSeq S (fun _=>#[])>>=_) _ _ _;refine wpAny_bind (wpAny_updateSeq hS' rfl (wpAny_bind (wpAny_letGo (wpAny_pure ?_))));exact hR1 vb _ tk (by omega) (by rw [ei];exact hP) fun b o hbw hbS e=>(aft _ _ (Ne.symm hbS)).trans (hk' b o hbw e)
 | succ k ih =>
  intro j s bs c hk hj hst hb hS hR0 hR1;have hlt:j<n:=Nat.sub_pos_iff_lt.mp (by rw [hk];exact Nat.succ_pos k);refine codeAny_builtin F.entry_min_loop ?_;rw [ago agd _];show wpAny _ A.in1 (seqItems? (.ref S)>>=_) _ _ s;refine wpAny_bind (wpAny_seqItems hS rfl ?_);rcases hb with ⟨e0,rfl⟩ | ⟨i,vb,ei,rfl,hPb⟩
  ·show wpAny _ A.in1 (tryCatch (pyNext (.ref I)) _ >>=_) _ _ s;refine wpAny_bind (wpAny_tryCatch (W.item j s _ _ hlt hst fun v h' tk hP hst' hk'=>?_));have hS':=hk' S _ nSw hS;show wpAny _ A.in1 (updateSeq S (fun _=>#[v,v])>>=_) _ _ _;refine wpAny_bind (wpAny_updateSeq hS' rfl ?_);rw [nm];subst e0;refine wpAny_pure ⟨plainId_quiet agd _,ih 1 _ _ _ (by omega) (by omega) (W.frame _ _ _ hst' fun b hbf o e=>(aft _ _ (fun h:S=b=>hSf (by rw [h];exact hbf))).trans e) (.inr ⟨0,v,rfl,rfl,hP⟩) (afW _ hS' rfl) (fun z=>by omega) fun v' h'' tk'' hn' hP' hk''=>?_⟩;exact hR1 v' h'' tk'' hn' hP' fun b o hbw hbS e=>hk'' b o hbw hbS ((aft _ _ (Ne.symm hbS)).trans (hk' b o hbw e))
  ·subst ei;show wpAny _ A.in1 (tryCatch (pyNext (.ref I)) _ >>=_) _ _ s;refine wpAny_bind (wpAny_tryCatch (W.item (i+1) s _ _ hlt hst fun v h' tk hP hst' hk'=>?_));have hS':=hk' S _ nSw hS;show wpAny _ A.in1 (tryCatch (holding [v,v] (richCompare .Lt v vb >>=_)) _ >>=_) _ _ _;refine wpAny_bind (wpAny_tryCatch (wpAny_holding (wpAny_bind (hcmp (i+1) (argBest bt i) v vb _ _ _ hP hPb (wpAny_bind (wpAny_holding (wpAny_truthy_bool (wpAny_bind (wpAny_letGo (wpAny_pure ?_))))))))));cases hb:bt (i+1) (argBest bt i) with
   | true =>
    simp only [if_true];refine wpAny_bind (wpAny_updateSeq hS' rfl (wpAny_bind (wpAny_letGo ?_)));rw [nm];refine wpAny_pure ⟨plainId_quiet agd _,ih (i+1+1) _ _ _ (by omega) (by omega) (W.frame _ _ _ hst' fun b hbf o e=>(aft _ _ (fun h:S=b=>hSf (by rw [h];exact hbf))).trans e) (.inr ⟨i+1,v,rfl,rfl,by simp only [argBest,hb,if_true];exact hP⟩) (afW _ hS' rfl) (fun z=>by omega) fun v' h'' tk'' hn' hP' hk''=>?_⟩;exact hR1 v' h'' tk'' hn' hP' fun b o hbw hbS e=>hk'' b o hbw hbS ((aft _ _ (Ne.symm hbS)).trans (hk' b o hbw e))
   | false =>
    simp only [afX,if_false];refine wpAny_bind (wpAny_letGo ?_);rw [nm];refine wpAny_pure ⟨plainId_quiet agd _,ih (i+1+1) _ _ c (by omega) (by omega) hst' (.inr ⟨i+1,vb,rfl,rfl,by simp only [argBest,hb,afX,if_false];exact hPb⟩) hS' (fun z=>by omega) fun v' h'' tk'' hn' hP' hk''=>?_⟩;exact hR1 v' h'' tk'' hn' hP' fun b o hbw hbS e=>hk'' b o hbw hbS (hk' b o hbw e)
end
section
variable {X:Cx}
def adi (K:PySem.W.Frag)(d:Int)(te:TE):TE:=fun σ H Q=>te σ H fun x H1=>∃ (p:Addr)(ns:List Int),x=.ref p/\SqL K H1 p (ns.map V.int)/\(ns=[]->Q (.int d) H1)/\∀ M∈ns,(∀ a∈ns,M<=a)->Q (.int M) H1
theorem ZX {e:Expr}{te:TE}{d:Int}{j:Nat}{p1 cp kp pos:Pos}(hcalm:X.calm=true)(hg:Gl X "min")(hm:X.mg "min"=none)(he:PE X e te)(h1:backTo pos (starEach [e] X.env)=(false,eval e X.env)::backTo pos (starEach [] X.env):=by rfl)(h2:(backTo pos (starEach [e] X.env)).any (·.1)=false:=by rfl):
  PE X (.Call (.Name "min" p1) [e] [⟨some "default",.Constant (.int d) j cp,kp⟩] pos) (adi X.K d te):=by
 intro pins s σ H Q I h;refine wpAny_Call_Name_kw (mF I hg hm boot_min ?_);refine callWith_kw ?_ h1 h2;rw [h1];refine afV (thn (he pins s σ H _ I h) fun u s1 ⟨x,H1,I1,rx,q1⟩=>?_);obtain ⟨p,ns,rfl,hq,q0,qm⟩:=q1;cases rx;refine aga ?_;refine kws_cons (wpAny_Constant_int ?_);refine kws_nil ?_;show wpAny _ _ (call (.builtin "min") [.ref p] [(Str.ofString "default",.int d _)]) _ _ _;obtain ⟨its,r1,p1,hz⟩:=I1.list hq;have hi:IntsAre its ns:=intsAre_of r1;obtain ⟨ys,hx⟩:=hi.allInts.items;have hl':s1.heap.IsList p (intItems ys):=hx ▸ p1.isList;have hns:ns=ys.toList.map (·.1):=by
  rw [<- nums_intItems,<- hx];exact (show numsOf its.toArray.toList=ns from hi.numsOf).symm
 have nm:(toString "min"++toString ".loop":String)="min.loop":=by decide
 have hys:(intItems ys).size=ns.length:=by rw [hns];simp [intItems]
 refine kmb_tree F.kind_min F.plain_min F.entry_min (Og _ _) ?_;show wpAny _ _ (Builtin.Builtins.bindParams "min" ["key","default"] 0 ⟨[],[(Str.ofString "default",.int d s1.toks)]⟩>>=_) _ _ _;refine wpAny_bind (wpAny_of_eq (show Builtin.Builtins.bindParams "min" ["key","default"] 0 ⟨[],[(Str.ofString "default",.int d s1.toks)]⟩=pure [none,some (.int d s1.toks)] from rfl) ?_);refine wpAny_bind (wpAny_pure ?_);refine wpAny_bind (iter_intList (s:={ s1 with toks:=s1.toks+1 }) hl' fun s₂ e st hfp hlI=>?_);subst e;refine wpAny_bind (wpAny_newObj_type ?_);rw [nm];have kept:∀ {h':Heap}{g:Heap}{S:Addr},(∀ b o,s1.heap.get? b=some o->g.get? b=some o)->S=s1.heap.objs.size+1->(∀ b o,b ∉ [s1.heap.objs.size]->b≠S->g.get? b=some o->h'.get? b=some o)->∀ b o,s1.heap.get? b=some o->h'.get? b=some o:=fun hg hS hk b o e=>by
  have lt:=aeV e;refine hk b o (fun z=>?_) (fun z=>?_) (hg b o e)
  ·rw [afl.mp z] at lt;exact afH _ lt
  ·rw [z,hS] at lt;exact absurd lt (by simp only [Addr] at lt ⊢;omega)
 have hg2:∀ b o,s1.heap.get? b=some o->((s1.heap.push { cls:=.type "list_iterator",data:=.fields #[.ref p,.int 0 0] }).push { cls:=.type "list",data:=.seq #[] }).get? b=some o:=fun b o e=>aeP _ (aeP _ e);have hsz:(s1.heap.push { cls:=.type "list_iterator",data:=.fields #[.ref p,.int 0 0] }).objs.size=s1.heap.objs.size+1:=afT ..;refine wpAny_pure ⟨plainId_quiet agd _,Oe (Walks.list (A:=X.A.in1) (I.ok.hd hcalm) _ p hlI (intItems ys)) _ (CmpOf.ints_lt (numAt ys) (fun _ _=>intItems_at)) _ (fun hm=>afH _ (hfp _ hm)) (.int d s1.toks) _ 0 _ #[] _ rfl (afs _)
  ⟨Heap.IsListIter.at st.1 fun o e=>aeP _ e,st.2.push _⟩ (.inl ⟨rfl,rfl⟩) (aeW _ rfl) (fun h0 h' tk hk=>?_) fun v h' tk hn hP hk=>?_⟩
 ·have e0:ns=[]:=List.length_eq_zero_iff.mp (by rw [<- hys];exact h0);exact ⟨.int d,H1,I1.kept (t':=tk) (kept hg2 hsz hk),⟨_,rfl⟩,q0 e0⟩
 ·obtain ⟨t,rfl⟩:=intItems_at hP;obtain ⟨h1,h2⟩:=argBest_lt (numAt ys) ((intItems ys).size - 1);have hyz:(intItems ys).size=ys.size:=by simp [intItems]
  refine ⟨.int _,H1,I1.kept (t':=tk) (kept hg2 hsz hk),⟨t,rfl⟩,qm _ ?_ fun a ha=>?_⟩
  ·rw [hns,numAt_eq];exact getD_mem (by rw [ac5,afF];omega)
  ·rw [hns] at ha;obtain ⟨j,hj,rfl⟩:=mem_getD ha;rw [ac5,afF] at hj;rw [<- numAt_eq];exact h2 j (by omega)
end
end L2
namespace L2
open PySem PySem.Spec PyProof.Rows
section
variable {κ:Type} [DecidableEq κ]
def Ht (kvs:List (κ × V))(k:κ):Option V:=(kvs.find? fun kv=>decide (kv.1=k)).map (·.2)
def putK (kvs:List (κ × V))(k:κ)(v:V):List (κ × V):=
 if (kvs.any fun kv=>decide (kv.1=k))=true then kvs.map (fun kv=>if kv.1=k then (kv.1,v) else kv) else kvs++[(k,v)]
theorem Jm {p:κ × V}{r:List (κ × V)}{k:κ}(e:p.1=k):Ht (p::r) k=some p.2:=by simp [Ht,List.find?_cons,e]
theorem Jo {p:κ × V}{r:List (κ × V)}{k:κ}(e:¬ p.1=k):Ht (p::r) k=Ht r k:=by simp [Ht,List.find?_cons,e]
theorem Jp (k:κ):∀ kvs:List (κ × V),(kvs.any fun kv=>decide (kv.1=k))=(Ht kvs k).isSome
 | []=>rfl
 | p::r=>by
  rw [agz];by_cases e:p.1=k
  ·simp only [Jm e,decide_eq_true e,Bool.true_or,Option.isSome_some]
  ·rw [Jo e,decide_eq_false e,Bool.false_or];exact Jp k r
theorem Iu (kvs:List (κ × V))(k:κ)(v:V):(putK kvs k v).length<=kvs.length+1:=by
 unfold putK;split
 ·rw [ac5];omega
 ·rw [ae1,afb,afK];omega
theorem Q0 {kvs:List (κ × V)}{k:κ}(v:V)(h:Ht kvs k=none):putK kvs k v=kvs++[(k,v)]:=by
 unfold putK;rw [Jp,h];exact if_neg (by decide)
theorem KV.val {kvs:List (κ × V)}{vs:List (κ × Value)}(r:KV kvs vs)(k:κ):Qt (Ht kvs k) (valueAt vs k):=by
 unfold KV at r
 induction r with
 | nil=>exact True.intro
 | @cons p q ps qs h t ih =>
  obtain ⟨h1,h2⟩:=h;by_cases e:p.1=k
  ·have e':q.1=k:=h1.symm.trans e;have b:valueAt (q::qs) k=some q.2:=by simp [valueAt,List.find?_cons,e']
   rw [Jm e,b];exact h2
  ·have e':¬ q.1=k:=fun z=>e (h1.trans z);have b:valueAt (q::qs) k=valueAt qs k:=by simp [valueAt,List.find?_cons,e']
   rw [Jo e,b];exact ih
theorem KV.any {kvs:List (κ × V)}{vs:List (κ × Value)}(r:KV kvs vs)(k:κ):(kvs.any fun kv=>decide (kv.1=k))=vs.any fun kv=>decide (kv.1=k):=by
 unfold KV at r
 induction r with
 | nil=>rfl
 | cons h t ih=>rw [agz,agz,ih,h.1]
theorem KV.repl {kvs:List (κ × V)}{vs:List (κ × Value)}(r:KV kvs vs)(k:κ){y:V}{u:Value}(ry:RelV y u):
  KV (kvs.map fun kv=>if kv.1=k then (kv.1,y) else kv) (vs.map fun kv=>if kv.1=k then (kv.1,u) else kv):=by
 unfold KV at r ⊢
 induction r with
 | nil=>exact .nil
 | @cons p q ps qs h t ih =>
  rw [afg,afg];refine .cons ?_ ih;obtain ⟨h1,h2⟩:=h;by_cases e:p.1=k
  ·rw [if_pos e,if_pos (h1.symm.trans e)];exact ⟨h1,ry⟩
  ·rw [if_neg e,if_neg (fun z=>e (h1.trans z))];exact ⟨h1,h2⟩
theorem KV.put {kvs:List (κ × V)}{vs:List (κ × Value)}(r:KV kvs vs)(k:κ){y:V}{u:Value}(ry:RelV y u):KV (putK kvs k y) (stored vs k u):=by
 unfold putK stored;rw [r.any k];by_cases e:(vs.any fun kv=>decide (kv.1=k))=true
 ·rw [if_pos e,if_pos e];exact r.repl k ry
 ·rw [if_neg e,if_neg e];exact Paired.snoc r ⟨rfl,ry⟩
theorem KV.length {kvs:List (κ × V)}{vs:List (κ × Value)}(r:KV kvs vs):kvs.length=vs.length:=Paired.length r
end
theorem ab2 {P:Program}{w:World}{k:Key}{u:Value}(r:RelV (kV k) u):(iC P w).is k u=true:=by
 cases k with
 | inl i=>obtain ⟨t,e⟩:=(show ∃ t,u=Value.int i t from r);subst e;exact Ip P w i t
 | inr x=>obtain ⟨t,e⟩:=(show ∃ t,u=Value.str x t from r);subst e;exact Io P w x t
theorem Gz {P:Program}{w:World}:∀ {ks:List Key}{us:List Value},Vals (ks.map kV) us->ItemsAre (iC P w) ks us
 | [],_,r=>by rw [agb] at r;cases r;exact .nil
 | k::ks,_,r=>by
  rw [afg] at r;cases r with
  | cons h t=>exact .cons (ab2 h) (Gz t)
abbrev KT (H:Hp):List (List Key × V)->List (List Key × Addr × Value)->Prop:=Paired fun p q=>p.1=q.1/\H q.2.1=some (.tup (p.1.map kV))/\RelV p.2 q.2.2
section
variable {P:Program}{w:World}{H:Hp}{h:Heap}{a:Addr}
theorem abj {u:HO}(ok:HOk P w H h)(e:Rd H a u):gq P w H h a u:=e.ok ok
theorem aaF {kvs:List (Key × V)}(ok:HOk P w H h)(e:Rd H a (.dK kvs)):kvs.length<=sizeLine/\(a ==sysModules)=false/\∃ vs,KV kvs vs/\h.DictOf (iC P w) a vs:=
 show gq P w H h a (.dK kvs) from abj ok e
theorem ad5 {kvs:List (Key × V)}(ok:HOk P w H h)(e:H a=some (.dK kvs)):kvs.length<=sizeLine/\(a ==sysModules)=false/\∃ vs,KV kvs vs/\h.DictOf (iC P w) a vs:=aaF ok (.inl e)
theorem abZ {ks:List Key}(ok:HOk P w H h)(e:H a=some (.tup (ks.map kV))):(tupleKind (iC P w)).is h ks a:=by
 obtain ⟨_,its,r,o,h1,h2,n,h3⟩:=(show gq P w H h a (.tup (ks.map kV)) from ok a _ e);exact ⟨o,its.toArray,n,h1,h2,h3,by simpa using Gz r⟩
theorem ad3 {kvs:List (List Key × V)}(ok:HOk P w H h)(e:Rd H a (.dT kvs)):kvs.length<=sizeLine/\(a ==sysModules)=false /\
  ∃ xs,KT H kvs xs/\h.DictOfH (tupleKind (iC P w)) a xs:=by
 obtain ⟨z,y,xs,r,o,es,ep,h1,h2,h3,h4,h5⟩:=(show gq P w H h a (.dT kvs) from abj ok e);refine ⟨z,y,xs,r,o,es,ep,h1,h2,h3,h4,fun x hx=>?_,h5⟩;have all:∀ {l:List (List Key × V)}{m:List (List Key × Addr × Value)},KT H l m->∀ x∈m,(tupleKind (iC P w)).is h x.1 x.2.1:=by
  intro l m q
  induction q with
  | nil=>intro x hx;exact nomatch hx
  | @cons p q ps qs hq t ih =>
   intro x hx;rcases aeS.mp hx with e| hx
   ·subst e;exact abZ ok (by rw [<- hq.1];exact hq.2.1)
   ·exact ih x hx
 exact all r x hx
end
section
variable {X:Cx}{pins:List (Addr × Obj)}{σ:St}{H:Hp}{s:Shared}{a:Addr}{y v:V}{u r:Value}{o:Option V}{A:Around}{E:Value->Shared->Prop}
theorem Inv.big (I:Inv X pins σ H s):sysModules<s.heap.objs.size:=by
 have h:mainGlobals<s.heap.objs.size:=(I.mod.glob.keeps I.bk).lt;exact Nat.lt_trans (by decide) h
theorem aaH {h':Heap}{t':Nat}{ob:HO}(I:Inv X pins σ H s)(mu:Mut (H a))(hs:Heap.SameBut a s.heap h')(he:∃ q,h'.get? a=some q)(new:gq X.prog X.w (upd H a ob) h' a ob):
  Inv X pins σ (upd H a ob) { s with heap:=h',toks:=t' }:=
 I.write (x:=a) (e:=a) mu (.inl rfl) (fun b q hb z=>(hs.2 b hb).trans z) he new
theorem acG {P:Program}{w:World}{H':Hp}{h':Heap}{kvs:List (Key × V)}{vs:List (Key × Value)}(z:kvs.length<=sizeLine)(hd:(a ==sysModules)=false)(rel:KV kvs vs)(dd:h'.DictOf (iC P w) a vs):
  gq P w H' h' a (.dK kvs):=⟨z,hd,vs,rel,dd⟩
end
theorem Sq {P:Program}{w:World}{H:Hp}(h:Heap)(hb:sysModules<h.objs.size):gq P w H (h.push { cls:=.type "dict",data:=.dict #[] }) h.objs.size (.dK []):=
 ⟨afs _,beq_eq_false_iff_ne.mpr (Ne.symm (afr hb)),[],.nil,Heap.DictOf.new h⟩
def aa7:TE:=fun _ H Q=>∀ p,H p=none->Q (.ref p) (upd H p (.dK []))
section
variable {X:Cx}{pos:Pos}
theorem Q7:PE X (.Dict [] [] pos) aa7:=fun pins s σ H Q I h =>
 wpAny_Dict_empty ⟨.ref s.heap.objs.size,_,I.laid (a:=s.heap.objs.size) (o:=.dK []) (t':=s.toks) (fun _ _ q=>aeP _ q) (aeL _) (Sq s.heap I.big),rfl,h _ (I.hok.fresh (aeL _))⟩
end
structure M2 (X:Cx)(o:Expr)(m:Str)(apos:Pos)(e f:Expr)(cpos:Pos):Prop where
 base:attributeBase o m X.env (eval o X.env)=eval o X.env
 few:((backTo cpos (starEach [e,f] X.env)).all (fun x=>!x.1) && (backToKw cpos (keywordEach [] X.env)).all (fun x=>x.1.isSome)
  && decide (([e,f]:List Expr).length+([]:List Keyword).length+(if ([]:List Keyword).isEmpty then 0 else 1)<30))=true
 line:(apos.endLine ==cpos.line)=true
 trees:backTo cpos (starEach [e,f] X.env)=[(false,eval e X.env),(false,eval f X.env)]
def IsD (H:Hp)(a:Addr):Prop:=(∃ kvs,Rd H a (.dK kvs))\/∃ kvs,Rd H a (.dT kvs)
theorem Ug {X:Cx}{pins:List (Addr × Obj)}{σ:St}{H:Hp}{s:Shared}{a:Addr}(I:Inv X pins σ H s)(d:IsD H a):
  s.TypeIs (.ref a) "dict"/\(∀ b,Value.ref a=.ref b->∃ ob,s.heap.get? b=some ob/\ob.dict=none)/\(a ==sysModules)=false:=by
 rcases d with ⟨kvs,e⟩ | ⟨kvs,e⟩
 ·obtain ⟨_,hd,vs,_,dd⟩:=aaF I.hok e;refine ⟨dd.typeIs,fun b q=>?_,hd⟩;cases q;obtain ⟨ob,_,_,h1,h2,_⟩:=dd;exact ⟨ob,h1,h2.2.1⟩
 ·obtain ⟨_,hd,xs,_,dd⟩:=ad3 I.hok e;refine ⟨dd.typeIs,fun b q=>?_,hd⟩;cases q;obtain ⟨ob,_,_,h1,h2,_⟩:=dd;exact ⟨ob,h1,h2.2.1⟩
end L2
namespace L2
open PySem PySem.W PySem.Spec PyProof.Rows
def adn (td ty tx:TE):TE:=fun σ H Q=>td σ H fun x H1=>∃ a,x=.ref a/\IsD H1 a/\ty σ H1 fun y H2=>tx σ H2 fun z H3=>∃ kvs k,H3 a=some (.dK kvs)/\y=kV k/\kvs.length<sizeLine /\
 (∀ v,Ht kvs k=some v->Q v H3)/\(Ht kvs k=none->Q z (upd H3 a (.dK (putK kvs k z))))
section
variable {X:Cx}{o e f:Expr}{apos cpos:Pos}{td ty tx:TE}
theorem Z6 (ho:PE X o td)(he:PE X e ty)(hf:PE X f tx)(m:M2 X o "setdefault" apos e f cpos):PE X (.Call (.Attribute o "setdefault" apos) [e,f] [] cpos) (adn td ty tx):=by
 intro pins s σ H Q I h;refine wpAny_Call_method m.base m.few m.line PySem.F.plainAttrs_dict PySem.F.slot_dict_setdefault PySem.F.type_dict_setdefault (thn (ho pins s σ H _ I h) fun u s1 ⟨x,H1,I1,rx,a,ex,d,q1⟩=>?_);subst ex;obtain rfl:u=Value.ref a:=rx;obtain ⟨t1,t2,_⟩:=Ug I1 d;refine ⟨t1,t2,?_⟩;rw [m.trees];refine Calls.callWith_builtin rfl (Calls.evalArgs_plain (afV (thn (he pins s1 σ H1 _ I1 q1) fun iv s2 ⟨y,H2,I2,ry,q2⟩=>
  afV (thn (hf pins s2 σ H2 _ I2 q2) fun fv s3 ⟨z,H3,I3,rz,kvs,k,ea,ey,hl,q3,q4⟩=>aga ?_))))
 subst ey;obtain ⟨z1,hd,vs,rel,dd⟩:=ad5 I3.hok ea;have rv:=rel.val k;have hlen:=rel.length;refine call_meetsIn PySem.F.slot_dict_setdefault dd.typeIs PySem.F.entry_dict_setdefault (PySem.F.args_dict_setdefault_3 _ _ _) (kt_meets_setdefault (iC X.prog X.w) a (ab2 ry) hd fv) ⟨vs,dd,by omega,fun v hv=>?_,fun hn h' dd' hs=>?_⟩
 ·rw [hv] at rv;cases l:Ht kvs k with
  | none=>rw [l] at rv;cases rv
  | some v'=>rw [l] at rv;exact ⟨v',H3,I3.tok _,rv,q3 v' l⟩
 ·rw [hn] at rv;cases l:Ht kvs k with
  | some v'=>rw [l] at rv;cases rv
  | none=>exact ⟨z,_,aaH I3 (by rw [ea];trivial) hs (by obtain ⟨ob,es,ep,he',_⟩:=dd';exact ⟨ob,he'⟩) (acG (afB (Iu _ _ _) hl) hd (rel.put k rz) dd'),rz,q4 l⟩
end
def Mf (td:TE):TE:=fun σ H Q=>td σ H fun x H1=>∃ a kvs,x=.ref a/\Rd H1 a (.dK kvs)/\∀ l,H1 l=none->Q (.ref l) (upd H1 l (.lst (kvs.map (·.2))))
theorem KV.vals {kvs:List (Key × V)}{vs:List (Key × Value)}(r:KV kvs vs):Vals (kvs.map (·.2)) (vs.map (·.2)):=by
 induction r with
 | nil=>exact .nil
 | cons h _ ih=>exact .cons h.2 ih
section
variable {X:Cx}{o:Expr}{td:TE}{p1 apos cpos pos:Pos}
theorem Ie (hcalm:X.calm=true)(hgs:Gl X "list")(hms:X.mg "list"=none)(ho:PE X o td)(hb:attributeBase o "values" X.env (eval o X.env)=eval o X.env:=by rfl)(hline:(apos.endLine ==cpos.line)=true:=by rfl):
  PE X (.Call (.Name "list" p1) [.Call (.Attribute o "values" apos) [] [] cpos] [] pos) (Mf td):=by
 intro pins s σ H Q I h;refine Call_ (mF I hgs hms boot_list (afp ?_ rfl rfl));show wpAny _ _ (spliced ((false,eval (.Call (.Attribute o "values" apos) [] [] cpos) X.env)::[])) _ _ s;refine afV (wpAny_Call_method hb rfl hline PySem.F.plainAttrs_dict PySem.F.slot_dict_values PySem.F.type_dict_values (thn (ho pins s σ H _ I h) fun u s1 ⟨x,H1,I1,rx,a,kvs,ex,d,q1⟩=>?_));subst ex;obtain rfl:u=Value.ref a:=rx;obtain ⟨t1,t2,_⟩:=Ug I1 (.inl ⟨kvs,d⟩);refine ⟨t1,t2,?_⟩;obtain ⟨hz,hd,vs,rel,dd⟩:=aaF I1.hok d;refine Calls.callWith_builtin rfl (PyProof.Rows.evalArgs_none ?_);refine call_meetsIn PySem.F.slot_dict_values dd.typeIs PySem.F.entry_dict_values (PySem.F.args_dict_values_1 _) (meets_dict_values (iC X.prog X.w) a hd) ⟨⟨vs,dd⟩,?_⟩;refine aga ?_;obtain ⟨ep,da⟩:=dd.dictAt;have hlen:=rel.length;have hsz:(s1.heap.push { cls:=.type "dict_values",data:=.fields #[.ref a] }).objs.size=s1.heap.objs.size+1:=afT ..;refine kdl_call (kdl_values (knd:=iC X.prog X.w) (r:=s1.heap.objs.size) (d:=a) (kvs:=vs) (ep:=ep)) (I.ok.hd hcalm) ⟨⟨_,aeW _ rfl,rfl,rfl⟩,da.push _⟩ (by omega) fun h' tk acc c hk hS hacc=>?_;have e:acc.toList=vs.map (·.2):=kdl_vals_eq acc.toList (by rw [afF];exact hacc.1) fun j v ej=>hacc.2 j v (by rw [<- Array.getElem?_toList];exact ej);refine ⟨.ref (s1.heap.push { cls:=.type "dict_values",data:=.fields #[.ref a] }).objs.size,_,I1.laid (t':=tk) (fun b o e=>hk b o (aeP _ e)) (by rw [hsz];exact Nat.le_succ _)
  (show gq X.prog X.w _ h' _ (.lst (kvs.map (·.2))) from ⟨by rw [ac5];exact hz,acc.toList,c,by rw [e];exact rel.vals,by simpa using hS⟩),rfl,q1 _ (I1.hok.fresh (by rw [hsz];exact Nat.le_succ _))⟩
end
section
variable {X:Cx}
theorem bZ.J1 {K:PySem.W.Frag}{H:Hp}{xs:List V}{ps:List (Int × Int × Int)}{i:Nat}{x:V}(h:bZ K H xs (ps.map dMv))(hx:xs[i]?=some x):∃ a p,x=.ref a/\ps[i]?=some p/\SqT K H a [.int p.1,.int p.2.1,.int p.2.2]:=by
 obtain ⟨d,hd,hv⟩:=h.get' hx;rw [aeQ] at hd;cases hp:ps[i]? with
 | none=>rw [hp] at hd;cases hd
 | some z =>
  rw [hp] at hd;have e:dMv z=d:=aeY hd;subst e;obtain ⟨a,rfl,hT⟩:=hv.Ud;exact ⟨a,z,rfl,rfl,hT⟩
theorem getD_some {α:Type}{xs:List α}{i:Nat}{x d:α}(h:xs[i]?=some x):xs.getD i d=x:=by rw [aeM,h];rfl
end
end L2
namespace HT
open PySem PyProof.Rows
end HT
namespace L2
open PySem PySem.W PySem.Spec PyProof.Rows
end L2
namespace L2
open PySem
end L2
namespace L2
open PySem PyProof.Rows
section
variable {prog:Program}{w:World}{A:Around}{E:Value->Shared->Prop}{R:Result->Shared->Prop}{s:Shared}
end
end L2
namespace L2
open PySem PySem.Spec PyProof.Rows
section
variable {X:Cx}
theorem K4 (bs:List Bool):((List.range bs.length).any fun i=>(bs[i]?).getD false)=bs.any id:=by
 rw [afI,List.any_eq_true,List.any_eq_true];constructor
 ·rintro ⟨i,hi,h⟩;rw [afk] at hi;rw [aeD hi] at h;exact ⟨_,afx hi,h⟩
 ·rintro ⟨b,hb,h⟩;obtain ⟨i,hi,rfl⟩:=afh hb;exact ⟨i,afk.mpr hi,by rw [aeD hi];exact h⟩
theorem SM (hc:X.calm=true):vR X (.builtin "any") (fun xs H Q=>∃ (p:Addr)(bs:List Bool),xs=[.ref p]/\SqL X.K H p (bs.map V.bl)/\Q (.bl (bs.any id)) H):=by
 intro pins s σ H xs us Q I r h;obtain ⟨p,bs,rfl,hq,q⟩:=h;obtain ⟨u,rfl,ru⟩:=vals1 r;cases ru;obtain ⟨its,r1,p1,hz⟩:=I.list hq;have hl:=p1.isList;have hlt:p<s.heap.objs.size:=p1.lt;have hlen:=r1.length;rw [ac5] at hlen;refine call_any_walk (wpAny_pyIter_list hl ?_);refine ⟨s.heap.objs.size,[s.heap.objs.size,p],[s.heap.objs.size],its.toArray.size,_,_,fun i=>(bs[i]?).getD false,rfl,Walks.list (A:=X.A.in1) (I.ok.hd hc) _ p (afr hlt) its.toArray,
  ⟨⟨_,aeW _ rfl,rfl,rfl⟩,hl.push _⟩,fun i v s' Q' E' hP hQ=>?_,fun h' tk hk=>?_⟩
 ·have hP':its[i]?=some v:=by simpa using hP
  have hi:i<bs.length:=by
   have:=(aeJ.mp hP').1;omega
  obtain ⟨u,eu,ru⟩:=r1.get (x:=.bl bs[i]) (by rw [aeQ,aeD hi];rfl);rw [hP'] at eu;cases eu;cases ru;dsimp only at hQ;rw [aeD hi] at hQ;exact wpAny_truthy_bool hQ
 ·have e:((List.range its.toArray.size).any fun i=>(bs[i]?).getD false)=bs.any id:=by
   rw [aeX,<- hlen];exact K4 bs
  rw [e];refine ⟨.bl _,H,I.kept fun b o eo=>hk b o (fun hm=>?_) (aeP _ eo),rfl,q⟩;rw [afl.mp hm] at eo;exact afH _ (aeV eo)
end
def Its (x:Str):It:=⟨fun i _=>i<x.cps.size,fun i H y H'=>H'=H/\∃ c,x.cps[i]?=some c/\y=.str ⟨#[c]⟩,fun i _=>x.cps.size<=i⟩
theorem QJ {P:Program}{w:World}{K:PySem.W.Frag}{tg:Expr}(it:Addr)(x:Str)(t:Tok):Turn P w K tg (Its x) [it] it (fun i h=>h.IsStrIter it "str_ascii_iterator" x t i) where
 mem:=by simp
 obj:=fun i h st b hb=>by
  have e:b=it:=by simpa using hb
  subst e;obtain ⟨o,e,c,d⟩:=st;exact ⟨o,e,fun v z=>by rw [d] at z;cases z⟩
 keep:=fun i h h' st k=>let ⟨o,e,r⟩:=st;⟨o,k it (by simp) o e,r⟩;item:=by
  intro X hP hw hK hc i pins s σ H E I hf st hg;subst hP hw hK;obtain ⟨f0,f1,f2,f3,f4,f5⟩:=hf it (by simp);have hg:i<x.cps.size:=hg;have hx:x.cps[i]?=some x.cps[i]:=by simp [hg]
  refine wpAny_pyNext_ascii_item st hx fun h' st' sb=>?_;have I1:Inv X pins σ H { s with heap:=h',toks:=s.toks+1 }:=I.turned (fun b o hb e=>(sb.2 b hb).trans e) f0 f1 f3 f4 f5;obtain ⟨o,e,c,d⟩:=id st';exact ⟨_,rfl,aaC (s:={ s with heap:=h',toks:=s.toks+1 }) e c d (by decide) ⟨.str ⟨#[x.cps[i]]⟩,H,I1,⟨_,rfl⟩,⟨rfl,_,hx,rfl⟩,st',fun b hb=>(hf b hb).1⟩⟩
 done:=by
  intro X hP hw hK hc i pins s σ H E I hf st hg;subst hP hw hK;obtain ⟨f0,f1,f2,f3,f4,f5⟩:=hf it (by simp);have hg:x.cps.size<=i:=hg;exact wpAny_pyNext_ascii_end (I.ok.hd hc) st (by simp [hg]) fun h' eb=>⟨rfl,I.turned (t':=s.toks) (fun b o hb e=>eb b o hb e) f0 f1 f3 f4 f5⟩
 self:=fun _ _ _ _ _ st h=>wpAny_pyIter_striter_ascii st h
section
variable {X:Cx}{tg:Expr}
def iStr (tl:TE):TI:=fun σ H R=>tl σ H fun v H1=>∃ x,v=.str x/\x.cps.all (·<128)=true/\R (Its x) H1
theorem abp {l:Expr}{tl:TE}(hl:PE X l tl):PI X tg l (iStr tl):=by
 intro pins s σ H R I h;refine thn (hl pins s σ H _ I h) fun v s1 ⟨x,H1,I1,r1,q1⟩=>?_;obtain ⟨z,e,ha,q⟩:=q1;subst e;obtain ⟨t,rfl⟩:=r1;refine wpAny_pyIter_ascii ha ?_;refine ⟨s1.heap.objs.size,[s1.heap.objs.size],_,_,H1,rfl,I1.kept (t':=s1.toks) fun b o e=>aeP _ e,QJ _ z t,⟨_,aeW _ rfl,rfl,rfl⟩,fun b hb=>?_,q⟩;have e:b=s1.heap.objs.size:=by simpa using hb
 subst e;exact I1.IK (aeL _) (I1.hok.fresh (aeL _))
theorem Sv {x:Str}{acc:Addr}{g:TG}{tc:TT}{te:TE}{τ:St}{H1:Hp}{Q:Hp->Prop}(Pv:Nat->St->Hp->Prop)(h0:Pv 0 τ (upd H1 acc (.lst [])))
  (hs:∀ i c τ H,x.cps[i]?=some c->Pv i τ H->g (.str ⟨#[c]⟩) τ H fun τ4 H4=>tc τ4 H4 fun b H5=>if b=true then te τ4 H5 fun y H6=>∃ ys,H6 acc=some (.lst ys)/\ys.length<sizeLine/\Pv (i+1) τ4 (upd H6 acc (.lst (ys++[y]))) else Pv (i+1) τ4 H5)
  (hd:∀ τ H,Pv x.cps.size τ H->Q H):Ca (Its x) acc g tc te τ H1 Q:=by
 refine ⟨fun i m τ H=>m=x.cps.size - i/\i<=x.cps.size/\Pv i τ H,⟨x.cps.size,by simp,afs _,h0⟩,?_⟩
 rintro i m τ H ⟨rfl,hi,p⟩
 by_cases hlt:i<x.cps.size
 ·refine .inr ⟨hlt,Pv (i+1),fun τ' H' p'=>⟨x.cps.size - (i+1),by omega,rfl,hlt,p'⟩,fun y H' e=>?_⟩
  obtain ⟨e,c,hc,ey⟩:=e
  subst e ey
  exact hs i c τ _ hc p
 ·have e:i=x.cps.size:=by omega
  subst e
  exact .inl ⟨aeL _,hd τ H p⟩
structure Dm (K:PySem.W.Frag)(C:Addr)(x qual:Str)(st:Stmt)(ps:List Str)(a:Addr)(fd:FuncData):Prop where
 F:Fun K x qual st a fd
 b:Binds K fd ps []
 m:Meth K C x a
structure S7 (K:PySem.W.Frag)(x qual:Str)(st:Stmt)(dv:List Value)(f:Addr)(fd:FuncData):Prop where
 ex:∃ (oc:Value)(od:Option Addr)(T:Addr)(o:Obj)(n:Nat)(kV doc pm:Value)(an:Option Addr)(cdv ct:Value)(osl:Array (Option Value)),
  fd=fnOf x qual (iD st) (dZ st) (ao st) (.ref T) kV doc pm an cdv ct/\K.lookup f=some ⟨oc,od,.func fd,osl⟩/\codeIn K cdv qual=true/\K.lookup T=some o/\o.data=.seq dv.toArray n
 kp:keepIn K (.ref f)=true
section
variable {P:Program}{w:World}{K:PySem.W.Frag}{mg:Str->Option Value}{base:Heap}{x qual:Str}{st:Stmt}{dv:List Value}{f:Addr}{fd:FuncData}{N ps:List Str}{k:Nat}{sp:Sp}
theorem S7.okX (F:S7 K x qual st dv f fd)(S:aD N ps (ao st))(len:∀ vs H Q E,sp vs H Q E->vs.length=ps.length)
  (hbody:∀ (cdv:Value)(A:Around)(outer:List Env)(s:Shared)(H:Hp)(vs:List V)(Q:VK)(E:XK),sX k (A.deeper (envOfC qual (ao st) s.heap.objs.size f cdv))->sp vs H Q E ->
   ∃ t,PSs (Qe (CXE P w) P w K mg base N qual (ao st) f cdv A outer s H E) (dZ st) t/\t { nx:=fun _ H'=>Q .non H',rt:=Q } (start N vs) H):Hs P w K mg base (CXE P w) (k+1) f fd ps sp:=by
 obtain ⟨oc,od,T,o,n,kV,doc,pm,an,cdv,ct,osl,rfl,lk,hcd,_⟩:=F.ex;exact R9 lk hcd S len fun A outer s H vs Q E hr hsp=>hbody cdv A outer s H vs Q E hr hsp
theorem S7.binds {ds:List Value}(F:S7 K x qual st dv f fd)
  (h:∀ (T:Addr)(kV doc pm:Value)(an:Option Addr)(cdv ct:Value)(us:List Value),(us++ds).length=ps.length->∃ k:Option (Array Value)->Sem (List (Str × Value)),
   bindArgs (fnOf x qual (iD st) (dZ st) (ao st) (.ref T) kV doc pm an cdv ct) ⟨us,[]⟩=(seqItems? (.ref T)>>=k)/\k (some dv.toArray)=pure (ps.zip (us++ds))):Binds K fd ps ds:=by
 obtain ⟨oc,od,T,o,n,kV,doc,pm,an,cdv,ct,osl,rfl,lk,hcd,lt,hs⟩:=F.ex;intro s us X hl;obtain ⟨k,h1,h2⟩:=h T kV doc pm an cdv ct us hl;exact BindsTo.of_defaults rfl (X _ _ lt) hs h1 h2
end
structure DmD (K:PySem.W.Frag)(C:Addr)(x qual:Str)(st:Stmt)(ps:List Str)(a:Addr)(fd:FuncData):Prop where
 F:S7 K x qual st [.none] a fd
 b0:Binds K fd ps []
 b1:Binds K fd ps [.none]
 m:Meth K C x a
structure Cl (K:PySem.W.Frag)(mg:Str->Option Value)(x:Str)(C f:Addr)(fs:List Str):Prop where
 c:Cls K C
 k:Mk K C f
 m:mg x=some (.ref C)
 n:∀ y∈fs,ju K C y
end
section
variable {T:dX}{H0 H:Hp}{L R B:List (Addr × HO)}{a b:Addr}{o o':HO}{x y:Addr × HO}
theorem Ow.ne (O:Ow T H0 H L)(i j:Nat)(hi:L[i]?=some (a,o):=by rfl)(hj:L[j]?=some (b,o'):=by rfl)(hij:i≠j:=by decide):a≠b:=by
 intro e;subst e;have h1:(L.map (·.1))[i]?=some a:=by rw [aeQ,hi];rfl
 have h2:(L.map (·.1))[j]?=some a:=by rw [aeQ,hj];rfl
 exact hij ((List.getElem?_inj (aeJ.mp h1).1 O.nd).mp (h1.trans h2.symm))
end
section
variable {X:Cx}{k:Nat}{f C:Addr}{fd:FuncData}{ps:List Str}{sp:Sp}{dvs:List V}{ds:List Value}{m:Str}{apos pos:Pos}{o e:Expr}{es:List Expr}{t:TA}{ta:TE}
def ac9 (C:Addr)(m:Str)(sp:Sp)(dvs:List V)(ta:TE)(t:TA):St->Hp->VK->XK->Prop:=fun σ H Q Ex=>ta σ H fun x H1=>∃ a dx fs,x=.ref a/\H1 a=some (.ins C dx fs)/\fs.lookup m=none/\t σ H1 fun vs H2=>sp (x::(vs++dvs)) H2 Q Ex
theorem Zr {pl:Sem Bool}(he:PE X.nox o ta)(c:Cls X.K C)(hm:Meth X.K C m f)(F:Hs X.prog X.w X.K X.mg X.base (CXE X.prog X.w) k f fd ps sp)(hr:sX k X.A)(hb:Binds X.K fd ps ds)(hd:Vals dvs ds)(ha:PA X.nox (e::es) t)
  (hst:starEach (e::es) X.env=(false,eval e X.env)::starEach es X.env:=by rfl)(hpl:(backTo pos (starEach es X.env)).any (·.1)=false:=by rfl)
  (ht:eval (.Call (.Attribute o m apos) (e::es) [] pos) X.env=(do
   let ov <- eval o X.env
   standAt apos.atName
   let (f,first)<- holding [ov] (getMethod ov m pl)
   callWith pos f first (backTo pos (starEach (e::es) X.env)) (backToKw pos (keywordEach [] X.env))):=by rfl):
  PEx X (.Call (.Attribute o m apos) (e::es) [] pos) (ac9 C m sp dvs ta t):=by
 intro pins s σ H Q Ex I h
 refine agm (pl:=pl) (wpAny_mono (he pins s σ H _ (I.wish _) h) (fun u s1 ⟨x,H1,I1,rx,a,dx,fs,ex,ea,l,q⟩=>?_) fun _ _ z=>z.elim) ht
 subst ex
 obtain rfl:u=Value.ref a:=rx
 have I1:=I1.uo
 refine xV I1 ea c hm l ?_
 refine agj (first:=[.ref a]) (h₀:=X.base) I.ok.mod.kin hm.kp (wpAny_mono (ha pos pins s1 σ H1 _ (I1.wish _) q) (fun us s2 ⟨vs,H2,I2,r,q2⟩=>?_) fun _ _ z=>z.elim) hst hpl
 have I2:=I2.uo
 refine ⟨I2.kIn,?_⟩
 have r2:Vals (V.ref a::(vs++dvs)) (Value.ref a::(us++ds)):=.cons rfl (r.append hd)
 have hl:(Value.ref a::us++ds).length=ps.length:=by
  have e:=r2.length
  rw [F.len _ _ _ _ q2] at e
  exact e.symm
 refine wpAny_call (codeAny_mono (F.run X.A X.stack s2 H2 ⟨Value.ref a::us,[]⟩ (Value.ref a::us++ds) (V.ref a::(vs++dvs)) Q (Ex σ) hr I2.env0 (hb s2 (Value.ref a::us) I2.kIn hl) r2 q2) fun rr s' hq=>?_)
 cases rr with
 | error ev=>exact ⟨σ,H2,s2,I2,hq⟩
 | ok fl =>
  cases fl with
  | ret u=>exact I2.after hq
  | next=>exact False.elim hq
  | brk=>exact False.elim hq
  | cont=>exact False.elim hq
end
end L2
namespace L2
open PySem PySem.W PySem.Spec PyProof.Rows PySem.Builtin
abbrev Jq (vs:List Value):Obj:={ cls:=.type "tuple",data:=.seq vs.toArray }
abbrev ac8 (f0:Value)(p q:Nat):Obj:={ cls:=.type "zip",dict:=none,data:=.fields #[f0,.bool false,.bool false,.ref p,.ref q],slots:=#[] }
structure Z3 (N l1 l2 n:Nat)(f0 a b c:Value)(j0 j1 j2:Nat)(h:Heap):Prop where
 z:h.get? (N+5)=some (ac8 f0 (N+3) (N+4))
 ti:h.get? (N+3)=some (Jq [.ref N,.ref (N+1),.ref (N+2)])
 to:h.get? (N+4)=some (Jq [a,b,c])
 r0:IsRangeIter h N (j0:Int) ((n:Int) - (j0:Int)) 1
 r1:h.IsListIter (N+1) l1 j1
 r2:h.IsListIter (N+2) l2 j2
def Fr3 (N:Nat)(h h':Heap):Prop:=∀ (b:Nat)(o:Obj),(b<N\/N+5<b)->h.get? b=some o->h'.get? b=some o
section
variable {N l1 l2 n:Nat}{f0 a b c:Value}{j0 j1 j2:Nat}{h h':Heap}
theorem Fr3.trans {h₁ h₂ h₃:Heap}(p:Fr3 N h₁ h₂)(q:Fr3 N h₂ h₃):Fr3 N h₁ h₃:=fun b o hb e=>q b o hb (p b o hb e)
theorem Fr3.of {p:Nat}(hp:N<=p/\p<=N+5)(k:Heap.SameBut p h h'):Fr3 N h h':=fun b o hb e=>k.extBut b o (by simp only [Addr];omega) e
theorem Z3.at5 {v:Value}(Z:Z3 N l1 l2 n f0 a b c j0 j1 j2 h)(k:Heap.SameBut (N+5) h h')(hz:h'.get? (N+5)=some (ac8 v (N+3) (N+4))):Z3 N l1 l2 n v a b c j0 j1 j2 h' :=
 ⟨hz,k.extBut _ _ (by simp only [Addr];omega) Z.ti,k.extBut _ _ (by simp only [Addr];omega) Z.to,k.extBut _ _ (by simp only [Addr];omega) Z.r0,Z.r1.extBut k.extBut (by simp only [Addr];omega),Z.r2.extBut k.extBut (by simp only [Addr];omega)⟩
theorem Z3.at4 {a' b' c':Value}(Z:Z3 N l1 l2 n f0 a b c j0 j1 j2 h)(k:Heap.SameBut (N+4) h h')(ht:h'.get? (N+4)=some (Jq [a',b',c'])):Z3 N l1 l2 n f0 a' b' c' j0 j1 j2 h' :=
 ⟨k.extBut _ _ (by simp only [Addr];omega) Z.z,k.extBut _ _ (by simp only [Addr];omega) Z.ti,ht,k.extBut _ _ (by simp only [Addr];omega) Z.r0,Z.r1.extBut k.extBut (by simp only [Addr];omega),Z.r2.extBut k.extBut (by simp only [Addr];omega)⟩
theorem Z3.at0 {m:Nat}(Z:Z3 N l1 l2 n f0 a b c j0 j1 j2 h)(k:Heap.SameBut N h h')(hr:IsRangeIter h' N (m:Int) ((n:Int) - (m:Int)) 1):Z3 N l1 l2 n f0 a b c m j1 j2 h' :=
 ⟨k.extBut _ _ (by simp only [Addr];omega) Z.z,k.extBut _ _ (by simp only [Addr];omega) Z.ti,k.extBut _ _ (by simp only [Addr];omega) Z.to,hr,Z.r1.extBut k.extBut (by simp only [Addr];omega),Z.r2.extBut k.extBut (by simp only [Addr];omega)⟩
theorem Z3.at1 {m:Nat}(Z:Z3 N l1 l2 n f0 a b c j0 j1 j2 h)(k:Heap.SameBut (N+1) h h')(hr:h'.IsListIter (N+1) l1 m):Z3 N l1 l2 n f0 a b c j0 m j2 h' :=
 ⟨k.extBut _ _ (by simp only [Addr];omega) Z.z,k.extBut _ _ (by simp only [Addr];omega) Z.ti,k.extBut _ _ (by simp only [Addr];omega) Z.to,k.extBut _ _ (by simp only [Addr];omega) Z.r0,hr,Z.r2.extBut k.extBut (by simp only [Addr];omega)⟩
theorem Z3.at2 {m:Nat}(Z:Z3 N l1 l2 n f0 a b c j0 j1 j2 h)(k:Heap.SameBut (N+2) h h')(hr:h'.IsListIter (N+2) l2 m):Z3 N l1 l2 n f0 a b c j0 j1 m h' :=
 ⟨k.extBut _ _ (by simp only [Addr];omega) Z.z,k.extBut _ _ (by simp only [Addr];omega) Z.ti,k.extBut _ _ (by simp only [Addr];omega) Z.to,k.extBut _ _ (by simp only [Addr];omega) Z.r0,Z.r1.extBut k.extBut (by simp only [Addr];omega),hr⟩
theorem Z3.up (Z:Z3 N l1 l2 n f0 a b c j0 j1 j2 h)(k:∀ (p:Nat)(o:Obj),h.get? p=some o->h'.get? p=some o):Z3 N l1 l2 n f0 a b c j0 j1 j2 h' :=
 ⟨k _ _ Z.z,k _ _ Z.ti,k _ _ Z.to,k _ _ Z.r0,Z.r1.at fun o e=>k _ o e,Z.r2.at fun o e=>k _ o e⟩
theorem Oj {l:Nat}{xs:Array Value}(hl:h.IsList l xs)(hb:l<N)(k:Fr3 N h h'):h'.IsList l xs:=hl.at fun o e=>k l o (.inl hb) e
end
section
variable {prog:Program}{w:World}{A:Around}{E:Value->Shared->Prop}{s:Shared}
theorem QZ {it:Addr}{x left:Int}{Q:Value->Shared->Prop}(hit:IsRangeIter s.heap it x left 1)(hl:0<left)
  (hQ:∀ h',IsRangeIter h' it (x+1) (left - 1) 1->Heap.SameBut it s.heap h'->Q (.int x s.toks) { s with heap:=h',toks:=s.toks+1 }):wpAny (model prog w) A (SmallTypes.nextOf (.ref it)) Q E s:=by
 have ty:s.TypeIs (.ref it) "range_iterator":=⟨_,hit,rfl⟩;unfold SmallTypes.nextOf;refine wpAny_bind (wpAny_callSpecial?_slot ty af8 (call_meets af8 ty F.entry_range_iterator_next (F.args_range_iterator_next_1 _) (AutoRange.range_iterator___next___range_iterator_1 it x left 1 (by omega)) ⟨hit,wpAny_pure (hQ _ ?_ ?_)⟩))
 ·exact afW _ (afW _ hit rfl) rfl
 ·exact (Heap.SameBut.update ..).trans (Heap.SameBut.update ..)
theorem put3 {T:Addr}{a b c x:Value}{k:Nat}{Q:Unit->Shared->Prop}(hT:s.heap.get? T=some (Jq [a,b,c]))
  (q:∀ h',h'.get? T=some (Jq ([a,b,c].set k x))->Heap.SameBut T s.heap h'->Q () { s with heap:=h' }):wpAny (model prog w) A (updateSeq T (·.setIfInBounds k x)) Q E s:=by
 refine wpAny_updateSeq hT rfl (q _ ?_ (Heap.SameBut.update ..));rw [afW _ hT rfl];simp [Obj.mapSeq,Jq]
theorem Zm {N l1 l2 n i:Nat}{a b c x y:Value}{xs ys:Array Value}{Q:Value->Shared->Prop}(Z:Z3 N l1 l2 n .none a b c i i i s.heap)(hi:i<n)(b1:l1<N)(b2:l2<N)
  (g1:s.heap.IsList l1 xs)(g2:s.heap.IsList l2 ys)(hx:xs[i]?=some x)(hy:ys[i]?=some y)
  (q:∀ h',Z3 N l1 l2 n (rawInt s.heap.objs.size) (.int i s.toks) x y (i+1) (i+1) (i+1) h'->h'.get? s.heap.objs.size=some (Jq [.int i s.toks,x,y])->Fr3 N s.heap h'->Q (.ref s.heap.objs.size) { s with heap:=h',toks:=s.toks+1 }):
  wpAny (model prog w) A (Builtin.«zip.__next__» ⟨[.ref (N+5)],[]⟩) (fun r s'=>∃ v,r=.done (.ret v)/\Q v s') E s:=by
 show wpAny _ _ (field (.ref (N+5)) 2 >>=_) _ _ _
 refine wpAny_bind (wpAny_field Z.z rfl (x:=.bool false) rfl ?_)
 show wpAny _ _ (field (.ref (N+5)) 3 >>=_) _ _ _
 refine wpAny_bind (wpAny_field Z.z rfl (x:=.ref (N+3)) rfl (wpAny_bind (wpAny_seqItems Z.ti rfl ?_)))
 show wpAny _ _ (SmallTypes.ownedTupleIsFree (.ref (N+5))>>=_) _ _ _
 unfold SmallTypes.ownedTupleIsFree
 refine wpAny_bind (wpAny_bind (wpAny_field Z.z rfl (x:=.none) rfl (wpAny_pure ?_)))
 simp only [if_true]
 refine wpAny_bind (wpAny_rule (wpAny_bind (wpAny_field Z.z rfl (x:=.ref (N+4)) rfl (wpAny_bind (wpAny_setField_rec Z.z (by simp) fun e1 z1 k1=>?_)))))
 have Z:=Z.at5 k1 z1
 have F:=Fr3.of (N:=N) ⟨by omega,by omega⟩ k1
 refine wpAny_bind ?_
 simp only [List.zipIdx_cons,List.zipIdx_nil,List.forIn_cons,List.forIn_nil]
 refine wpAny_bind (wpAny_bind (wpAny_onRaise (wpAny_bind (QZ Z.r0 (by omega) fun e2 r k2=>wpAny_pure ?_))))
 have Z:=Z.at0 (m:=i+1) k2 (by rw [show ((i+1:Nat):Int)=(i:Int)+1 by omega,show (n:Int) - ((i:Int)+1)=(n:Int) - (i:Int) - 1 by omega];exact r)
 have F:=F.trans (.of ⟨by omega,by omega⟩ k2)
 refine wpAny_bind (wpAny_seqItems Z.to rfl (wpAny_bind (put3 Z.to fun e3 t k3=>wpAny_bind (wpAny_letGo (wpAny_pure ?_)))))
 have Z:=Z.at4 k3 t
 have F:=F.trans (.of ⟨by omega,by omega⟩ k3)
 refine wpAny_bind (wpAny_bind (wpAny_onRaise (wpAny_bind (wpAny_nextOf_list_item Z.r1 (Oj g1 b1 F) hx fun e4 r k4=>wpAny_pure ?_))))
 have Z:=Z.at1 k4 r
 have F:=F.trans (.of ⟨by omega,by omega⟩ k4)
 refine wpAny_bind (wpAny_seqItems Z.to rfl (wpAny_bind (put3 Z.to fun e5 t k5=>wpAny_bind (wpAny_letGo (wpAny_pure ?_)))))
 have Z:=Z.at4 k5 t
 have F:=F.trans (.of ⟨by omega,by omega⟩ k5)
 refine wpAny_bind (wpAny_bind (wpAny_onRaise (wpAny_bind (wpAny_nextOf_list_item Z.r2 (Oj g2 b2 F) hy fun e6 r k6=>wpAny_pure ?_))))
 have Z:=Z.at2 k6 r
 have F:=F.trans (.of ⟨by omega,by omega⟩ k6)
 refine wpAny_bind (wpAny_seqItems Z.to rfl (wpAny_bind (put3 Z.to fun e7 t k7=>wpAny_bind (wpAny_letGo (wpAny_pure (wpAny_pure ?_))))))
 have Z:=Z.at4 k7 t
 have F:=F.trans (.of ⟨by omega,by omega⟩ k7)
 have hsz:e7.objs.size=s.heap.objs.size:=k7.1.trans (k6.1.trans (k5.1.trans (k4.1.trans (k3.1.trans (k2.1.trans k1.1)))))
 clear r t k1 k2 k3 k4 k5 k6 k7 z1
 refine wpAny_bind (wpAny_seqItems Z.to rfl (wpAny_bind (wpAny_newTuple ?_)))
 have big:N+5<e7.objs.size:=aeV Z.z
 show wpAny _ _ (SmallTypes.ownedTupleHandOut (.ref (N+5)) (.ref e7.objs.size)>>=_) _ _ _
 unfold SmallTypes.ownedTupleHandOut
 have Z:=Z.up (h':=e7.push (Jq [.int i s.toks,x,y])) fun p o e=>aeP _ e
 have T8:(e7.push (Jq [.int i s.toks,x,y])).get? e7.objs.size=some (Jq [.int i s.toks,x,y]):=aeW _ rfl
 have F:=F.trans (h₃:=e7.push (Jq [.int i s.toks,x,y])) fun p o _ e=>aeP _ e
 refine wpAny_bind (wpAny_bind (wpAny_setField_rec Z.z (by simp) fun e9 z9 k9=>wpAny_setField_rec z9 (by simp) fun f z k=>wpAny_pure ⟨_,rfl,?_⟩))
 have Z:=(Z.at5 k9 z9).at5 k z
 have T:=k.extBut _ _ (by simp only [Addr] at big ⊢;omega) (k9.extBut _ _ (by simp only [Addr] at big ⊢;omega) T8)
 have F:=(F.trans (.of ⟨by omega,by omega⟩ k9)).trans (.of ⟨by omega,by omega⟩ k)
 rw [hsz] at Z T ⊢
 exact q f Z T F
theorem ZJ {α:Type}{Q:α->Shared->Prop}(hh:A.handled=none)(hE:∀ h' e,(∀ b o,s.heap.get? b=some o->h'.get? b=some o)->(∃ o,h'.get? e=some o/\o.cls=.type "StopIteration")->E (.ref e) { s with heap:=h' }):
  wpAny (model prog w) A (newExc (.type "StopIteration") []>>=raiseNew (α:=α)) Q E s:=by
 simp only [newExc,newTuple];refine wpAny_bind (wpAny_bind (wpAny_newObj_type (wpAny_bind (m:=firstArgMember _ _) (wpAny_of_eq (a:=Value.none) (by first| rfl| (simp only [firstArgMember];rfl)) (wpAny_newObj_type ?_ (by size_fits)))) (by size_fits)))
 unfold raiseNew;refine wpAny_bind (wpAny_handled ?_);rw [hh];exact wpAny_bind (wpAny_pure (wpAny_throw (hE _ _ (fun b o e=>aeP _ (aeP _ e)) ⟨_,aeW _ rfl,rfl⟩)))
theorem QX {it:Addr}{x left:Int}{Q:Value->Shared->Prop}(hh:A.handled=none)(hit:IsRangeIter s.heap it x left 1)(hl:left<=0)
  (hE:∀ h' e,(∀ b o,s.heap.get? b=some o->h'.get? b=some o)->(∃ o,h'.get? e=some o/\o.cls=.type "StopIteration")->E (.ref e) { s with heap:=h' }):wpAny (model prog w) A (SmallTypes.nextOf (.ref it)) Q E s:=by
 have ty:s.TypeIs (.ref it) "range_iterator":=⟨_,hit,rfl⟩;unfold SmallTypes.nextOf;refine wpAny_bind (wpAny_callSpecial?_slot ty af8 (wpAny_call_entry af8 ty F.entry_range_iterator_next ?_ (F.args_range_iterator_next_1 _)));show wpAny _ _ (field (.ref it) 0 >>=fun _=>_) _ _ s;refine wpAny_bind (wpAny_field hit rfl (x:=rawInt x) rfl ?_);show wpAny _ _ (field (.ref it) 1 >>=fun _=>_) _ _ s;refine wpAny_bind (wpAny_field hit rfl (x:=rawInt left) rfl ?_);show wpAny _ _ (field (.ref it) 2 >>=fun _=>_) _ _ s;refine wpAny_bind (wpAny_field hit rfl (x:=rawInt 1) rfl ?_);show wpAny _ _ (if left<=0 then _ else _) _ _ s;rw [if_pos hl];exact wpAny_bind (wpAny_rule (wpAny_bind (ZJ hh hE)))
theorem aaX {N l1 l2 n i:Nat}{a b c:Value}{Q:Fin->Shared->Prop}(hh:A.handled=none)(Z:Z3 N l1 l2 n .none a b c i i i s.heap)(hi:n<=i)
  (hE:∀ h' e,Fr3 N s.heap h'->(∃ o,h'.get? e=some o/\o.cls=.type "StopIteration")->E (.ref e) { s with heap:=h' }):wpAny (model prog w) A (Builtin.«zip.__next__» ⟨[.ref (N+5)],[]⟩) Q E s:=by
 show wpAny _ _ (field (.ref (N+5)) 2 >>=_) _ _ _;refine wpAny_bind (wpAny_field Z.z rfl (x:=.bool false) rfl ?_);show wpAny _ _ (field (.ref (N+5)) 3 >>=_) _ _ _;refine wpAny_bind (wpAny_field Z.z rfl (x:=.ref (N+3)) rfl (wpAny_bind (wpAny_seqItems Z.ti rfl ?_)));show wpAny _ _ (SmallTypes.ownedTupleIsFree (.ref (N+5))>>=_) _ _ _;unfold SmallTypes.ownedTupleIsFree;refine wpAny_bind (wpAny_bind (wpAny_field Z.z rfl (x:=.none) rfl (wpAny_pure ?_)));simp only [if_true];refine wpAny_bind (wpAny_rule (wpAny_bind (wpAny_field Z.z rfl (x:=.ref (N+4)) rfl (wpAny_bind (wpAny_setField_rec Z.z (by simp) fun e1 z1 k1=>?_)))));have Z:=Z.at5 k1 z1;have F:=Fr3.of (N:=N) ⟨by omega,by omega⟩ k1;refine wpAny_bind ?_;simp only [List.zipIdx_cons,List.zipIdx_nil,List.forIn_cons,List.forIn_nil];refine wpAny_bind (wpAny_bind (wpAny_onRaise (wpAny_bind (QX hh Z.r0 (by omega) fun e2 e k2 he=>?_))));obtain ⟨o,ho,hc⟩:=he;have Z:=Z.up k2;refine wpAny_setField_rec Z.z (by simp) fun e3 z3 k3=>hE e3 e ((F.trans fun p o _ e=>k2 p o e).trans (.of ⟨by omega,by omega⟩ k3)) ⟨o,k3.extBut _ _ (fun z=>?_) ho,hc⟩;rw [z] at ho;have:=Z.z.symm.trans ho;cases this;simp at hc
theorem Zk {N l1 l2 n i:Nat}{a b c x y:Value}{xs ys:Array Value}{Q:Option Value->Shared->Prop}(Z:Z3 N l1 l2 n .none a b c i i i s.heap)(hi:i<n)(b1:l1<N)(b2:l2<N)
  (g1:s.heap.IsList l1 xs)(g2:s.heap.IsList l2 ys)(hx:xs[i]?=some x)(hy:ys[i]?=some y)
  (q:∀ h',Z3 N l1 l2 n (rawInt s.heap.objs.size) (.int i s.toks) x y (i+1) (i+1) (i+1) h'->h'.get? s.heap.objs.size=some (Jq [.int i s.toks,x,y])->Fr3 N s.heap h'->Q (some (.ref s.heap.objs.size)) { s with heap:=h',toks:=s.toks+1 }):
  wpAny (model prog w) A (pyNext (.ref (N+5))) Q E s:=by
 have ty:s.TypeIs (.ref (N+5)) "zip":=⟨_,Z.z,rfl⟩
 unfold pyNext
 exact wpAny_bind (wpAny_attempt (wpAny_callSpecial?_slot ty F.slot_zip_next (wpAny_call_entry F.slot_zip_next ty F.entry_zip_next (Zm Z hi b1 b2 g1 g2 hx hy fun h' p1 p2 p3=>wpAny_pure (q h' p1 p2 p3)) (F.args_zip_next_1 _))))
theorem Zj {N l1 l2 n i:Nat}{a b c:Value}{Q:Option Value->Shared->Prop}(hh:A.handled=none)(Z:Z3 N l1 l2 n .none a b c i i i s.heap)(hi:n<=i)(q:∀ h',Fr3 N s.heap h'->Q none { s with heap:=h' }):
  wpAny (model prog w) A (pyNext (.ref (N+5))) Q E s:=by
 have ty:s.TypeIs (.ref (N+5)) "zip":=⟨_,Z.z,rfl⟩;unfold pyNext;refine wpAny_bind (wpAny_attempt (wpAny_callSpecial?_slot ty F.slot_zip_next (wpAny_call_entry F.slot_zip_next ty F.entry_zip_next (aaX hh Z hi fun h' e k he=>?_) (F.args_zip_next_1 _))));obtain ⟨o,ho,hc⟩:=he;exact wpAny_bind (wpAny_isInstance (T:="StopIteration") (b:=true) ⟨o,ho,hc⟩ isSubtype_stop (wpAny_pure (q _ k)))
end
abbrev z3R (h:Heap)(m:Int):Heap:=h.push { cls:=.type "range_iterator",data:=.fields #[rawInt 0,rawInt (Range.rangeSize 0 m 1),rawInt 1] }
abbrev z3A (h:Heap)(m:Int)(l1:Addr):Heap:=(z3R h m).push { cls:=.type "list_iterator",data:=.fields #[.ref l1,.int 0 0] }
abbrev z3B (h:Heap)(m:Int)(l1 l2:Addr):Heap:=(z3A h m l1).push { cls:=.type "list_iterator",data:=.fields #[.ref l2,.int 0 0] }
abbrev z3I (h:Heap)(m:Int)(l1 l2:Addr):Heap:=(z3B h m l1 l2).push (Jq [.ref h.objs.size,.ref (z3R h m).objs.size,.ref (z3A h m l1).objs.size])
abbrev z3O (h:Heap)(m:Int)(l1 l2:Addr):Heap:=(z3I h m l1 l2).push (Jq [.none,.none,.none])
abbrev z3Z (h:Heap)(m:Int)(l1 l2:Addr):Heap:=(z3O h m l1 l2).push (ac8 .none (z3B h m l1 l2).objs.size (z3I h m l1 l2).objs.size)
theorem aaW (r l1 l2:Addr)(m:Int)(t u v:Tok)(xs ys:Array Value)(hs:Range.small 0 m 1=true):
  Meets (Builtin.«zip.__new__» ⟨[.type "zip",.ref r,.ref l1,.ref l2],[]⟩) (fun _ R s=>IsRange s.heap r 0 m 1 t u v/\s.heap.IsList l1 xs/\s.heap.IsList l2 ys/\R (.ok (.ret (.ref (z3O s.heap m l1 l2).objs.size))) { s with heap:=z3Z s.heap m l1 l2 }):=
 .of_wp fun prog w A R s h=>by
  obtain ⟨hp,g,d,tk,os⟩:=s;obtain ⟨hr,h1,h2,h⟩:=h;have sub:=sub_zip;have R0:IsRange (Shared.heap ⟨hp,g,d,tk,os⟩) r 0 m 1 t u v:=hr;have L1:Heap.IsList (Shared.heap ⟨z3R hp m,g,d,tk,os⟩) l1 xs:=h1.push _;have L2':Heap.IsList (Shared.heap ⟨z3A hp m l1,g,d,tk,os⟩) l2 ys:=(h2.push _).push _;wp_walk using wpAny_pyIter_range R0 hs,wpAny_pyIter_list L1,wpAny_pyIter_list L2';exact ⟨_,rfl,h⟩
theorem Lr (a b c:Value):checkTypeCall "zip" ⟨[a,b,c],[]⟩=pure ():=by kernel_rfl
theorem Ky (a b c:Value):checkBuiltinCall "zip.__new__" ⟨[.type "zip",a,b,c],[]⟩=pure ():=by kernel_rfl
theorem Hw (o a b c:Value):argsOk "object.__init__" ⟨[o,a,b,c],[]⟩:=by
 unfold argsOk;rw [signature?_of (id:="object.__init__") (n:=['_','_','t','i','n','i','_','_']) (o:=['t','c','e','j','b','o']) (by kernel_rfl) F.owner_object];kernel_rfl
section
variable {prog:Program}{w:World}{A:Around}{E:Value->Shared->Prop}{s:Shared}
theorem Zn {r l1 l2:Addr}{n:Nat}{t u v:Tok}{xs ys:Array Value}{Q:Value->Shared->Prop}(hn:(n:Int)<2 ^ 62)(hr:IsRange s.heap r 0 n 1 t u v)(h1:s.heap.IsList l1 xs)(h2:s.heap.IsList l2 ys)
  (q:∀ h',Z3 s.heap.objs.size l1 l2 n .none .none .none .none 0 0 0 h'->h'.objs.size=s.heap.objs.size+6->(∀ (b:Nat)(o:Obj),s.heap.get? b=some o->h'.get? b=some o)->Q (.ref (s.heap.objs.size+5)) { s with heap:=h' }):
  wpAny (model prog w) A (call (.type "zip") [.ref r,.ref l1,.ref l2]) Q E s:=by
 refine callType_new F.called_zip (by decide) (Lr _ _ _) (Ky _ _ _) (fun o=>Hw o _ _ _) F.entry_zip_new (aaW r l1 l2 n t u v xs ys (small_one (by omega) (by omega) (by omega) hn)) ⟨hr,h1,h2,?_⟩
 have c1:(z3R s.heap n).objs.size=s.heap.objs.size+1:=afT ..
 have c2:(z3A s.heap n l1).objs.size=s.heap.objs.size+2:=by rw [afT,c1]
 have c3:(z3B s.heap n l1 l2).objs.size=s.heap.objs.size+3:=by rw [afT,c2]
 have c4:(z3I s.heap n l1 l2).objs.size=s.heap.objs.size+4:=by rw [afT,c3]
 have c5:(z3O s.heap n l1 l2).objs.size=s.heap.objs.size+5:=by rw [afT,c4]
 have c6:(z3Z s.heap n l1 l2).objs.size=s.heap.objs.size+6:=by rw [afT,c5]
 have up:∀ {h:Heap}{o':Obj}{b:Nat}{o:Obj},h.get? b=some o->(h.push o').get? b=some o:=fun e=>aeP _ e
 have d0:(z3Z s.heap n l1 l2).get? s.heap.objs.size=some _:=up (up (up (up (up (aeW _ rfl)))))
 have d1:(z3Z s.heap n l1 l2).get? (z3R s.heap n).objs.size=some _:=up (up (up (up (aeW _ rfl))))
 have d2:(z3Z s.heap n l1 l2).get? (z3A s.heap n l1).objs.size=some _:=up (up (up (aeW _ rfl)))
 have d3:(z3Z s.heap n l1 l2).get? (z3B s.heap n l1 l2).objs.size=some _:=up (up (aeW _ rfl))
 have d4:(z3Z s.heap n l1 l2).get? (z3I s.heap n l1 l2).objs.size=some _:=up (aeW _ rfl)
 have d5:(z3Z s.heap n l1 l2).get? (z3O s.heap n l1 l2).objs.size=some _:=aeW _ rfl
 have keep:∀ (b:Nat)(o:Obj),s.heap.get? b=some o->(z3Z s.heap n l1 l2).get? b=some o:=fun b o e=>up (up (up (up (up (up e)))))
 show _/\_
 rw [c1] at d1
 rw [c2] at d2
 rw [c1,c2,c3] at d3
 rw [c4] at d4
 rw [c3,c4,c5] at d5
 rw [c5]
 have rs:Range.rangeSize 0 (n:Int) 1=(n:Int) - ((0:Nat):Int):=by rw [rangeSize_one];split <;>omega
 rw [rs] at d0
 exact ⟨⟨_,d5,rfl⟩,q _ ⟨d5,d3,d4,d0,⟨_,d1,rfl,rfl⟩,⟨_,d2,rfl,rfl⟩⟩ c6 keep⟩
end
end L2
namespace L2
open PySem PySem.Spec PyProof.Rows PySem.Builtin
section
variable {X:Cx}
def acT (K:PySem.W.Frag)(l1 l2:Addr)(n:Nat)(xs ys:List V):It:=
 ⟨fun i H=>SqL K H l1 xs/\SqL K H l2 ys/\i<n/\i<xs.length/\i<ys.length,fun i H x H'=>∃ T a b,x=.ref T/\H T=none/\xs[i]?=some a/\ys[i]?=some b/\H'=upd H T (.tup [.int (i:Int),a,b]),fun i _=>n<=i⟩
def Z3At (N l1 l2 n:Nat)(i:Nat)(h:Heap):Prop:=∃ a b c,Z3 N l1 l2 n .none a b c i i i h
abbrev six (N:Nat):List Addr:=[N+5,N,N+1,N+2,N+3,N+4]
theorem T6 {N:Nat}{p:Addr}(h:p∈six N):N<=p/\p<=N+5:=by
 simp only [six,aeS,ae8,or_false] at h;simp only [Addr] at h ⊢;omega
theorem Uc {N:Nat}{p:Addr}(h:N<=p/\p<=N+5):p∈six N:=by
 simp only [six,aeS,ae8,or_false];simp only [Addr] at h ⊢;omega
theorem adB (N:Nat):N+5∈six N:=by simp [six]
theorem six0 (N:Nat):N∈six N:=by simp [six]
theorem six1 (N:Nat):N+1∈six N:=by simp [six]
theorem six2 (N:Nat):N+2∈six N:=by simp [six]
theorem six3 (N:Nat):N+3∈six N:=by simp [six]
theorem six4 (N:Nat):N+4∈six N:=by simp [six]
theorem Lz {P:Program}{w:World}{K:PySem.W.Frag}{elts:List Expr}{kk:Nat}{tpos:Pos}{N l1 l2 n:Nat}{xs ys:List V}(b1:l1<N)(b2:l2<N):
  Turn P w K (.Tuple elts kk tpos) (acT K l1 l2 n xs ys) (six N) (N+5) (Z3At N l1 l2 n) where
 mem:=adB N;obj:=fun i h ⟨a,b',c,Z⟩ b hb=>by
  obtain ⟨o1,e1,-,d1⟩:=Z.r1;obtain ⟨o2,e2,-,d2⟩:=Z.r2;simp only [six,aeS,ae8,or_false] at hb;rcases hb with rfl| rfl| rfl| rfl| rfl| rfl
  ·exact ⟨_,Z.z,fun v z=>nomatch z⟩
  ·exact ⟨_,Z.r0,fun v z=>nomatch z⟩
  ·exact ⟨o1,e1,fun v z=>by rw [d1] at z;cases z⟩
  ·exact ⟨o2,e2,fun v z=>by rw [d2] at z;cases z⟩
  ·exact ⟨_,Z.ti,fun v z=>nomatch z⟩
  ·exact ⟨_,Z.to,fun v z=>nomatch z⟩
 keep:=fun i h h' ⟨a,b,c,Z⟩ k=>⟨a,b,c,k _ (adB N) _ Z.z,k _ (six3 N) _ Z.ti,k _ (six4 N) _ Z.to,k _ (six0 N) _ Z.r0,Z.r1.at fun o e=>k _ (six1 N) o e,Z.r2.at fun o e=>k _ (six2 N) o e⟩;item:=by
  intro X hP hw hK hc i pins s σ H E I hf ⟨a,b,c,Z⟩ hg;subst hP hw hK;obtain ⟨q1,q2,hn,hi1,hi2⟩:=hg;obtain ⟨its1,rv1,pl1,-⟩:=I.list q1;obtain ⟨its2,rv2,pl2,-⟩:=I.list q2;obtain ⟨u1,hu1,ru1⟩:=rv1.get (aeD hi1);obtain ⟨u2,hu2,ru2⟩:=rv2.get (aeD hi2);have big:N+5<s.heap.objs.size:=aeV Z.z;refine Zk Z hn b1 b2 pl1.isList pl2.isList (x:=u1) (y:=u2) (by simpa using hu1) (by simpa using hu2) fun h' Z' T' F'=>⟨_,rfl,wpAny_letOwnedTupleGo_zip (TI:=N+3) (TO:=N+4) (s:={ s with heap:=h',toks:=s.toks+1 }) Z'.z fun h'' hz hs=>?_⟩;have out:∀ b,b ∉ six N->b<N\/N+5<b:=fun b hb=>by
   by_cases h:N<=b/\b<=N+5
   ·exact absurd (Uc h) hb
   ·simp only [Addr] at h ⊢;omega
  have I1:Inv X pins σ H { s with heap:=h'',toks:=s.toks+1 }:=I.wZ (t':=s.toks+1) (ch:=six N) (fun b o hb e=>hs.extBut b o (fun x=>hb (x ▸ adB N)) (F' b o (out b hb) e)) hf;obtain ⟨F0,F1,F2,F3,F4,F5⟩:=I.IK (H':=H) (aeL _) (I.hok.fresh (aeL _));have hT:PyProof.Rows.IsTup h'' s.heap.objs.size #[.int (i:Int) s.toks,u1,u2]:=⟨_,hs.extBut _ _ (by simp only [Addr] at big ⊢;omega) T',rfl,_,rfl⟩;have I2:Inv X pins σ (upd H s.heap.objs.size (.tup [.int (i:Int),xs[i],ys[i]])) { s with heap:=h'',toks:=s.toks+1 }:=I1.adopt F0 F1 I.sz F4 F5 (show gq X.prog X.w _ h'' _ (.tup [.int (i:Int),xs[i],ys[i]]) from ⟨by rw [sizeLine_eq];simp,[.int (i:Int) s.toks,u1,u2],.cons ⟨_,rfl⟩ (.cons ru1 (.cons ru2 .nil)),hT⟩);refine ⟨.ref s.heap.objs.size,_,I2,rfl,⟨_,_,_,rfl,F0,aeD hi1,aeD hi2,rfl⟩,⟨_,_,_,Z'.at5 hs hz⟩,fun b hb=>?_⟩;rw [aN]
  ·exact (hf b hb).1
  ·have:=T6 hb;simp only [Addr] at this big ⊢;omega
 done:=by
  intro X hP hw hK hc i pins s σ H E I hf ⟨a,b,c,Z⟩ hg;subst hP hw hK;refine Zj (I.ok.hd hc) Z hg fun h' F'=>⟨rfl,I.wZ (t':=s.toks) (ch:=six N) (fun b o hb e=>F' b o ?_ e) hf⟩;by_cases h:N<=b/\b<=N+5
  ·exact absurd (Uc h) hb
  ·simp only [Addr] at h ⊢;omega
 self:=fun _ _ _ _ _ ⟨_,_,_,Z⟩ h=>wpAny_pyIter_zip (TI:=N+3) (TO:=N+4) Z.z h
theorem SJ:vR X (.type "range") (fun xs H Q=>∃ n:Int,xs=[.int n]/\∀ l,H l=none->Q (.ref l) (upd H l (.rng 0 n))):=by
 intro pins s σ H xs us Q I r h;obtain ⟨n,rfl,q⟩:=h;obtain ⟨u,rfl,t,rfl⟩:=vals1 r;refine call_range_1 ⟨.ref s.heap.objs.size,_,I.laid (t':=s.toks+1+1) (o:=.rng 0 n) (fun b o e=>aeP _ e) (aeL _) ?_,rfl,q _ (I.hok.fresh (aeL _))⟩;exact ⟨_,_,_,aeW _ rfl⟩
def adV (K:PySem.W.Frag)(ta:TA):TI:=fun σ H R=>ta σ H fun vs H1=>∃ r l1 l2 n xs ys,vs=[.ref r,.ref l1,.ref l2]/\H1 r=some (.rng 0 ((n:Nat):Int))/\n<1000000/\SqL K H1 l1 xs/\SqL K H1 l2 ys/\R (acT K l1 l2 n xs ys) H1
theorem ZW {elts:List Expr}{kk:Nat}{tpos:Pos}{a b c:Expr}{ta:TA}{p pos:Pos}(hg:Gl X "zip")(hm:X.mg "zip"=none)(ha:PA X [a,b,c] ta)
  (hs:starEach [a,b,c] X.env=(false,eval a X.env)::starEach [b,c] X.env:=by rfl)(hs2:(backTo pos (starEach [b,c] X.env)).any (·.1)=false:=by rfl):
  PI X (.Tuple elts kk tpos) (.Call (.Name "zip" p) [a,b,c] [] pos) (adV X.K ta):=by
 intro pins s σ H R I h
 refine Call_ (mF I hg hm boot_zip (afp (thn (ha pos pins s σ H _ I h) fun us s1 ⟨vs,H1,I1,r1,q1⟩=>?_) hs hs2))
 obtain ⟨r,l1,l2,n,xs,ys,rfl,hr,hn,q1,q2,q⟩:=q1
 cases r1 with
 | cons v0 r1=>cases r1 with
  | cons v1 r1=>cases r1 with
   | cons v2 r1 =>
    cases r1
    cases v0
    cases v1
    cases v2
    obtain ⟨t,u,v,er⟩:=I1.hok r _ hr
    obtain ⟨its1,rv1,pl1,-⟩:=I1.list q1
    obtain ⟨its2,rv2,pl2,-⟩:=I1.list q2
    refine Zn (n:=n) (by omega) er pl1.isList pl2.isList fun h' Z hz hk=>?_
    have b1:l1<s1.heap.objs.size:=by obtain ⟨o,e,-⟩:=pl1.isList;exact aeV e
    have b2:l2<s1.heap.objs.size:=by obtain ⟨o,e,-⟩:=pl2.isList;exact aeV e
    refine wpAny_pyIter_zip (TI:=s1.heap.objs.size+3) (TO:=s1.heap.objs.size+4) Z.z ⟨_,six s1.heap.objs.size,_,_,H1,rfl,I1.kept (t':=s1.toks) hk,Lz (n:=n) (xs:=xs) (ys:=ys) b1 b2,⟨_,_,_,Z⟩,fun b hb=>?_,q⟩
    have hb':=(T6 hb).1
    exact I1.IK hb' (I1.hok.fresh hb')
theorem R7 {K:PySem.W.Frag}{l1 l2:Addr}{n:Nat}{xs ys:List V}{g:TG}{tb:TS}{D:Ends}{σ:St}{H:Hp}(Pv:Nat->St->Hp->Prop)(h0:Pv 0 σ H)(hx:n<=xs.length)(hy:n<=ys.length)(hl:∀ i σ H,i<=n->Pv i σ H->SqL K H l1 xs/\SqL K H l2 ys)
  (hs:∀ i a b T σ H,i<n->xs[i]?=some a->ys[i]?=some b->Pv i σ H->H T=none->g (.ref T) σ (upd H T (.tup [.int (i:Int),a,b])) fun σ2 H2=>tb { D with nx:=Pv (i+1),ct:=Pv (i+1),bk:=D.nx } σ2 H2)(hd:∀ σ H,Pv n σ H->D.nx σ H):
  ∃ W:Nat->Nat->St->Hp->Prop,(∃ m,W 0 m σ H)/\∀ i m σ H,W i m σ H ->
   ((acT K l1 l2 n xs ys).stop i H/\D.nx σ H)\/((acT K l1 l2 n xs ys).go i H/\∃ N:St->Hp->Prop,(∀ σ' H',N σ' H'->∃ m',m'<m/\W (i+1) m' σ' H')/\∀ x H',(acT K l1 l2 n xs ys).yld i H x H'->g x σ H' fun σ2 H2=>tb { D with nx:=N,ct:=N,bk:=D.nx } σ2 H2):=by
 refine ⟨fun i m σ H=>m=n - i/\i<=n/\Pv i σ H,⟨n,by simp,afs _,h0⟩,?_⟩
 rintro i m σ H ⟨rfl,hi,p⟩
 obtain ⟨q1,q2⟩:=hl i σ H hi p
 by_cases hlt:i<n
 ·refine .inr ⟨⟨q1,q2,hlt,by omega,by omega⟩,Pv (i+1),fun σ' H' p'=>⟨n - (i+1),by omega,rfl,hlt,p'⟩,fun x H' z=>?_⟩
  obtain ⟨T,a,b,rfl,hT,ha,hb,rfl⟩:=z
  exact hs i a b T σ _ hlt ha hb p hT
 ·have e:i=n:=by omega
  subst e
  exact .inl ⟨aeL _,hd σ H p⟩
end
end L2
namespace L2
open PySem PySem.Spec PyProof.Rows
section
variable {X:Cx}{e:Expr}{es:List Expr}{te:TE}{t:TA}
def Ua:Expr->Bool
 | .Starred ..=>false
 | _=>true
theorem KZ (e:Expr)(h:Ua e=true)(es:List Expr)(env:Env):starEach (e::es) env=(false,eval e env)::starEach es env:=by
 cases e <;>first| rfl| cases h
theorem adG (ha:PE X e te)(hr:PA X es t)(h:Ua e=true:=by rfl):PA X (e::es) (ZD te t):=aq ha hr (KZ e h es X.env)
end
structure ClF (K:PySem.W.Frag)(C f:Addr)(m:Str):Prop where
 ga:PySem.W.specialIn K (.ref C) "__getattribute__"=some (some (.builtin "type.__getattribute__"))
 rd:readsIn K C (.type "type")=true
 fc:findCls K (.ref C) (.type "type") m=some (.val (.ref f))
 kp:keepIn K (.ref f)=true
section
variable {X:Cx}{CX:CXT}{k:Nat}{f C:Addr}{fd:FuncData}{ps:List Str}{sp:Sp}{dvs:List V}{ds:List Value}{E:XK}{x m:Str}{p pos apos:Pos}{e:Expr}{es:List Expr}{t:TA}
theorem Z7 {pl:Sem Bool}(hg:Gl X x)(hmg:X.mg x=some (.ref C))(hc:ClF X.K C f m)(F:Hs X.prog X.w X.K X.mg X.base CX k f fd ps sp)(hr:sX k X.A)(hb:Binds X.K fd ps ds)(hd:Vals dvs ds)(hx:Passes CX X E)(ha:PA X (e::es) t)
  (hdb:(x ==("__debug__":Str))=false:=by decide)(hst:starEach (e::es) X.env=(false,eval e X.env)::starEach es X.env:=by rfl)(hpl:(backTo pos (starEach es X.env)).any (·.1)=false:=by rfl)
  (ht:eval (.Call (.Attribute (.Name x p) m apos) (e::es) [] pos) X.env=(do
   let ov <- eval (.Name x p) X.env
   standAt apos.atName
   let (f,first)<- holding [ov] (getMethod ov m pl)
   callWith pos f first (backTo pos (starEach (e::es) X.env)) (backToKw pos (keywordEach [] X.env))):=by rfl):
  PE X (.Call (.Attribute (.Name x p) m apos) (e::es) [] pos) (ZG sp dvs E t):=by
 intro pins s σ H Q I h
 refine agm (pl:=pl) (xU I hg hmg ?_ hdb) ht
 refine PySem.W.method_cls I.kIn hc.ga (PySem.W.cls_value I.kIn hc.rd hc.fc rfl ?_)
 refine agj (first:=[]) (h₀:=X.base) I.ok.mod.kin hc.kp (thn (ha pos pins _ σ H _ (I.tok _) h) fun us s2 ⟨vs,H2,I2,r,q2⟩=>⟨I2.kIn,?_⟩) hst hpl
 exact JN (us:=us) (vs:=vs) F hr hb hd hx I2 r q2
end
section
structure DmZ (K:PySem.W.Frag)(C:Addr)(x qual:Str)(st:Stmt)(ps:List Str)(a:Addr)(fd:FuncData):Prop where
 F:∃ t:Tok,S7 K x qual st [.int 0 t] a fd/\Binds K fd ps [.int 0 t]
 b0:Binds K fd ps []
 m:Meth K C x a
end
end L2
namespace Rv
def iG (r:List Int):Prop:=∃ rk:Nat->Nat,(∀ i,i<r.length->rk i<r.length) /\
 ∀ (i:Nat)(x:Int),r[i]?=some x->x=-1\/(0<=x/\x<r.length/\rk x.toNat<rk i)
def nxt (r:List Int)(p:Int):Int:=r.getD p.toNat (-1)
theorem jz {r:List Int}{p:Int}(h0:0<=p)(h1:p<r.length):r[p.toNat]?=some (nxt r p):=by
 have h:p.toNat<r.length:=by omega
 unfold nxt;rw [aeM,aeD h];rfl
theorem iG.step {r:List Int}(h:iG r){p:Int}(h0:0<=p)(h1:p<r.length):nxt r p=-1\/(0<=nxt r p/\nxt r p<r.length):=by
 obtain ⟨rk,_,h3⟩:=h;rcases h3 _ _ (jz h0 h1) with e| ⟨a,b,_⟩
 ·exact .inl e
 ·exact .inr ⟨a,b⟩
def zF (r:List Int):Nat->Int->List Int
 | 0,_=>[]
 | f+1,p=>if p=-1 then [] else p::zF r f (nxt r p)
def walk (r:List Int)(p:Int):List Int:=zF r (r.length+1) p
theorem vU (r:List Int)(f:Nat):zF r f (-1)=[]:=by
 cases f with
 | zero=>rfl
 | succ f=>unfold zF;rw [if_pos rfl]
theorem mz (r:List Int):walk r (-1)=[]:=vU r _
theorem yD {r:List Int}{rk:Nat->Nat}(h:∀ (i:Nat)(x:Int),r[i]?=some x->x=-1\/(0<=x/\x<r.length/\rk x.toNat<rk i)):
  ∀ (f g:Nat)(p:Int),0<=p->p<r.length->rk p.toNat<f->rk p.toNat<g->zF r f p=zF r g p
 | 0,_,_,_,_,hf,_=>by omega
 | _+1,0,_,_,_,_,hg=>by omega
 | f+1,g+1,p,h0,h1,hf,hg=>by
  unfold zF;rw [if_neg (by omega),if_neg (by omega)];rcases h _ _ (jz h0 h1) with e| ⟨a,b,c⟩
  ·rw [e,vU,vU]
  ·rw [yD h f g _ a b (by omega) (by omega)]
theorem fD {r:List Int}(h:iG r){p:Int}(h0:0<=p)(h1:p<r.length):walk r p=p::walk r (nxt r p):=by
 obtain ⟨rk,h2,h3⟩:=h;show zF r (r.length+1) p=_;unfold zF;rw [if_neg (by omega)];rcases h3 _ _ (jz h0 h1) with e| ⟨a,b,c⟩
 ·rw [e,vU,mz]
 ·have:=h2 p.toNat (by omega);unfold walk;rw [yD h3 r.length (r.length+1) _ a b (by omega) (by omega)]
theorem Fv (r:List Int):∀ (f:Nat)(p:Int),(zF r f p).length<=f
 | 0,_=>aeL _
 | f+1,p=>by
  unfold zF;split
  ·exact afs _
  ·exact Nat.succ_le_succ (Fv r f _)
theorem Jl (r:List Int)(p:Int):(walk r p).length<=r.length+1:=Fv r _ _
theorem iG.ind {r:List Int}(h:iG r){P:Int->Prop}(hm:P (-1))(hs:∀ p:Int,0<=p->p<r.length->P (nxt r p)->P p):∀ p:Int,0<=p->p<r.length->P p:=by
 obtain ⟨rk,_,h3⟩:=h;have key:∀ (n:Nat)(p:Int),0<=p->p<r.length->rk p.toNat<n->P p:=by
  intro n
  induction n with
  | zero=>intro p _ _ h;omega
  | succ n ih =>
   intro p h0 h1 h2;refine hs p h0 h1 ?_;rcases h3 _ _ (jz h0 h1) with e| ⟨a,b,c⟩
   ·rw [e];exact hm
   ·exact ih _ a b (by omega)
 exact fun p h0 h1=>key _ p h0 h1 (agn _)
theorem Jk {r:List Int}(h:iG r):∀ p:Int,0<=p->p<r.length->∀ q∈walk r p,0<=q/\q<r.length:=by
 refine h.ind (P:=fun p=>∀ q∈walk r p,0<=q/\q<r.length) ?_ ?_
 ·intro q hq;rw [mz] at hq;cases hq
 ·intro p h0 h1 ih q hq;rw [fD h h0 h1] at hq;rcases aeS.mp hq with e| e
  ·rw [e];exact ⟨h0,h1⟩
  ·exact ih q e
noncomputable def mea (r:List Int)(p:Int):Nat:=(walk r p).length
theorem Ue {r:List Int}(h:iG r){p:Int}(h0:0<=p)(h1:p<r.length):mea r (nxt r p)<mea r p:=by
 unfold mea;rw [fD h h0 h1];exact agn _
structure Ord (k:Nat)(o:List Nat):Prop where
 perm:o.Perm (List.range k)
theorem Ord.len {k:Nat}{o:List Nat}(h:Ord k o):o.length=k:=by rw [h.perm.length_eq,afz]
theorem Ord.lt {k:Nat}{o:List Nat}(h:Ord k o){j:Nat}(hj:j∈o):j<k:=by
 have:=h.perm.mem_iff.mp hj;exact afk.mp this
theorem Ord.nd {k:Nat}{o:List Nat}(h:Ord k o):o.Nodup:=h.perm.nodup_iff.mpr List.nodup_range
theorem Ord.ins {k:Nat}{o:List Nat}(h:Ord k o)(i:Nat):Ord (k+1) (o.take i++k::o.drop i):=by
 refine ⟨?_⟩;have e:(o.take i++k::o.drop i).Perm (k::o):=by
  have:=(List.perm_middle (a:=k) (l₁:=o.take i) (l₂:=o.drop i));rw [af6] at this;exact this
 refine e.trans ?_;rw [agk];exact (List.Perm.cons k h.perm).trans (List.perm_append_singleton k (List.range k)).symm
structure Plc (n:Nat)(o:List Nat)(t:Nat)(pl:List Int):Prop where
 len:pl.length=n
 at_:∀ (a:Nat)(j:Nat),a<t->o[a]?=some j->pl[j]?=some (a:Int)
theorem Plc.start (n:Nat)(o:List Nat)(pl:List Int)(h:pl.length=n):Plc n o 0 pl:=⟨h,fun a j h _=>by omega⟩
theorem Plc.turn {n:Nat}{o:List Nat}{t:Nat}{pl:List Int}(h:Plc n o t pl)(O:Ord n o){j:Nat}(hj:o[t]?=some j):Plc n o (t+1) (pl.set j (t:Int)):=by
 refine ⟨by rw [afq];exact h.len,fun a j' ha e=>?_⟩;by_cases hat:a=t
 ·subst hat;rw [hj] at e;cases e;have hj2:j<n:=O.lt (aeO hj);exact afM (by rw [h.len];exact hj2)
 ·have hne:j'≠j:=by
   intro z;subst z;obtain ⟨h1,e1⟩:=aeJ.mp hj;obtain ⟨h2,e2⟩:=aeJ.mp e;exact hat ((afR O.nd).mp (e2.trans e1.symm))
  rw [afL (Ne.symm hne)];exact h.at_ a j' (by omega) e
theorem Plc.all {n:Nat}{o:List Nat}{pl:List Int}(h:Plc n o n pl)(O:Ord n o){k:Nat}(hk:k<n):∃ a:Nat,a<n/\pl[k]?=some (a:Int)/\o[a]?=some k:=by
 have hm:k∈o:=O.perm.mem_iff.mpr (afk.mpr hk);obtain ⟨a,ha,e⟩:=afh hm;have e':o[a]?=some k:=by rw [aeD ha,e]
 have hl:=O.len;exact ⟨a,by omega,h.at_ a k (by omega) e',e'⟩
structure Fnd (n:Nat)(o:List Nat)(_t:Nat)(r:List Int):Prop where
 len:r.length=n
 at_:∀ (i:Nat)(x:Int),r[i]?=some x->x=-1\/∃ (b k j:Nat),x=(b:Int)/\b<n/\o[i]?=some k/\o[b]?=some j/\j<k
theorem Fnd.start (n:Nat)(o:List Nat)(r:List Int)(hl:r.length=n)(h:∀ x∈r,x=-1):Fnd n o 0 r:=⟨hl,fun i x e=>.inl (h x (aeO e))⟩
theorem Fnd.turn {n:Nat}{o:List Nat}{t:Nat}{r:List Int}(h:Fnd n o t r){a b k j:Nat}(hb:b<n)(ha:o[a]?=some k)(hj:o[b]?=some j)(hjk:j<k)(t':Nat):Fnd n o t' (r.set a (b:Int)):=by
 refine ⟨by rw [afq];exact h.len,fun i x e=>?_⟩;by_cases hia:i=a
 ·subst hia;have hi:i<r.length:=by
   have:=(aeJ.mp e).1;rw [afq] at this;exact this
  rw [afM hi] at e;cases e;exact .inr ⟨b,k,j,rfl,hb,ha,hj,hjk⟩
 ·rw [afL (Ne.symm hia)] at e;exact h.at_ i x e
theorem Fnd.Gm {n:Nat}{o:List Nat}{t:Nat}{r:List Int}(h:Fnd n o t r)(O:Ord n o):iG r:=by
 refine ⟨fun i=>o.getD i 0,fun i hi=>?_,fun i x e=>?_⟩
 ·have hl:=O.len;have hi':i<o.length:=by rw [hl,<- h.len];exact hi
  show o.getD i 0<r.length;rw [aeM,aeD hi',h.len];exact O.lt (afx hi')
 ·rcases h.at_ i x e with z| ⟨b,k,j,rfl,hb,h1,h2,h3⟩
  ·exact .inl z
  ·refine .inr ⟨by omega,by rw [h.len];omega,?_⟩;show o.getD (b:Int).toNat 0<o.getD i 0;rw [aeT,aeM,aeM,h1,h2];exact h3
def stp (r:List Int)(p:Int):Int:=if p=-1 then -1 else nxt r p
def xg (r:List Int):Nat->Int->Int
 | 0,p=>p
 | f+1,p=>xg r f (stp r p)
theorem Jv (r:List Int):∀ f,xg r f (-1)=-1
 | 0=>rfl
 | f+1=>by
  show xg r f (stp r (-1))=-1;unfold stp;rw [if_pos rfl];exact Jv r f
theorem tO (r:List Int):∀ (f:Nat)(p:Int),xg r (f+1) p=stp r (xg r f p)
 | 0,_=>rfl
 | f+1,p=>by
  show xg r (f+1) (stp r p)=stp r (xg r f (stp r p));exact tO r f (stp r p)
theorem Jw (r:List Int)(p:Int){f:Nat}(h:xg r f p=-1):∀ g,xg r (f+g) p=-1
 | 0=>h
 | g+1=>by
  rw [show f+(g+1)=(f+g)+1 from rfl,tO,Jw r p h g];unfold stp;rw [if_pos rfl]
def inB (r:List Int):Prop:=∀ x∈r,-1<=x/\x<(r.length:Int)
instance (r:List Int):Decidable (inB r):=inferInstanceAs (Decidable (∀ x∈r,-1<=x/\x<(r.length:Int)))
theorem aaA {r:List Int}(h:inB r){p:Int}(h0:0<=p)(h1:p<r.length):-1<=nxt r p/\nxt r p<r.length:=h _ (aeO (jz h0 h1))
theorem J8 {r:List Int}(h:inB r){p:Int}(h0:0<=p)(h1:p<r.length):∀ f,-1<=xg r f p/\xg r f p<(r.length:Int)
 | 0=>⟨by show -1<=p;omega,h1⟩
 | f+1=>by
  rw [tO];obtain ⟨a,b⟩:=J8 h h0 h1 f;unfold stp;by_cases e:xg r f p=-1
  ·rw [if_pos e];omega
  ·rw [if_neg e];exact aaA h (by omega) b
def isR (r:List Int):Bool:=decide (1<=r.length/\r.length<=40) && decide (inB r) && decide (∀ i,i<r.length->xg r r.length (i:Int)=-1)
theorem KC {r:List Int}(h:iG r):∃ rk:Nat->Nat,∀ p:Int,0<=p->p<r.length->(walk r p).Nodup/\∀ q∈walk r p,rk q.toNat<=rk p.toNat:=by
 obtain ⟨rk,h2,h3⟩:=id h;refine ⟨rk,?_⟩;have key:=h.ind (P:=fun p=>(walk r p).Nodup/\(0<=p->∀ q∈walk r p,rk q.toNat<=rk p.toNat)) ?_ ?_
 ·exact fun p h0 h1=>⟨(key p h0 h1).1,(key p h0 h1).2 h0⟩
 ·rw [mz];exact ⟨List.nodup_nil,fun h=>by omega⟩
 ·intro p h0 h1 ⟨nd,ih⟩;rw [fD h h0 h1];rcases h3 _ _ (jz h0 h1) with e| ⟨a,b,c⟩
  ·rw [e,mz];refine ⟨by simp,fun _ q hq=>?_⟩;have:q=p:=by simpa using hq
   rw [this];exact aeL _
  ·have ih':=ih a;refine ⟨afJ.mpr ⟨fun hm=>?_,nd⟩,fun _ q hq=>?_⟩
   ·have:=ih' p hm;omega
   ·rcases aeS.mp hq with e| e
    ·rw [e];exact aeL _
    ·have:=ih' q e;omega
theorem Hy {r:List Int}(h:iG r){p:Int}(h0:0<=p)(h1:p<r.length):(walk r p).Nodup:=by
 obtain ⟨rk,k⟩:=KC h;exact (k p h0 h1).1
def tot:Nat->(Nat->Int)->Int
 | 0,_=>0
 | n+1,f=>tot n f+f n
theorem nH {n:Nat}{f g:Nat->Int}(h:∀ i,i<n->f i=g i):tot n f=tot n g:=by
 induction n with
 | zero=>rfl
 | succ n ih=>unfold tot;rw [ih fun i hi=>h i (by omega),h n (by omega)]
theorem HF (n:Nat)(f g:Nat->Int):tot n (fun i=>f i+g i)=tot n f+tot n g:=by
 induction n with
 | zero=>rfl
 | succ n ih=>unfold tot;rw [ih];dsimp only;omega
theorem zu {n:Nat}{f:Nat->Int}(h:∀ i,i<n->f i=0):tot n f=0:=by
 induction n with
 | zero=>rfl
 | succ n ih=>unfold tot;rw [ih fun i hi=>h i (by omega),h n (by omega)];rfl
theorem QK (n m:Nat)(f:Nat->Nat->Int):tot n (fun i=>tot m (fun j=>f i j))=tot m (fun j=>tot n (fun i=>f i j)):=by
 induction n with
 | zero=>exact (zu fun _ _=>rfl).symm
 | succ n ih=>show tot n _+tot m _=_;rw [ih,<- HF];rfl
theorem HD {n k:Nat}(f:Nat->Int)(hk:k<n):tot n (fun i=>if i=k then f i else 0)=f k:=by
 induction n with
 | zero=>omega
 | succ n ih =>
  unfold tot;dsimp only;by_cases h:k=n
  ·subst h;rw [if_pos rfl,zu fun i hi=>if_neg (by omega)];omega
  ·rw [ih (by omega),if_neg (fun (z:n=k)=>h z.symm)];omega
theorem Zy (n:Nat)(c:Int)(f:Nat->Int):tot n (fun i=>c*f i)=c*tot n f:=by
 induction n with
 | zero=>simp [tot]
 | succ n ih=>unfold tot;rw [ih,Int.mul_add]
theorem Zz (n:Nat)(f:Nat->Int)(p:Prop) [Decidable p]:tot n (fun i=>if p then f i else 0)=if p then tot n f else 0:=by
 by_cases h:p
 ·rw [if_pos h];exact nH fun i _=>if_pos h
 ·rw [if_neg h];exact zu fun i _=>if_neg h
def lsum:List Nat->(Nat->Int)->Int
 | [],_=>0
 | k::l,f=>f k+lsum l f
theorem uc (f:Nat->Int):∀ (l m:List Nat),lsum (l++m) f=lsum l f+lsum m f
 | [],m=>by show _=0+_;rw [Int.zero_add];rfl
 | k::l,m=>by show f k+lsum (l++m) f=f k+lsum l f+lsum m f;rw [uc f l m];omega
theorem Gy {f:Nat->Int}{l m:List Nat}(h:l.Perm m):lsum l f=lsum m f:=by
 induction h with
 | nil=>rfl
 | cons k _ ih=>show f k+_=f k+_;rw [ih]
 | swap a b l=>show f b+(f a+_)=f a+(f b+_);omega
 | trans _ _ h1 h2=>exact h1.trans h2
theorem xT (f:Nat->Int):∀ n,lsum (List.range n) f=tot n f
 | 0=>rfl
 | n+1=>by rw [agk,uc,xT f n];show _+(f n+0)=_+f n;omega
theorem Gx {f:Nat->Int}:∀ {l:List Nat},(∀ k∈l,f k=0)->lsum l f=0
 | [],_=>rfl
 | k::l,h=>by show f k+lsum l f=0;rw [h k afd,Gx fun j hj=>h j (ae4 _ hj)];rfl
def one (p:Prop) [Decidable p]:Int:=if p then 1 else 0
def zm (r s:List Int)(i:Int):Int:=tot r.length fun j=>if i∈walk r (j:Int) then s.getD j 0 else 0
theorem met {r:List Int}(h:iG r){i:Int}(hi:0<=i):∀ p:Int,0<=p->p<r.length->one (i∈walk r p)=one (p=i)+tot r.length fun k=>if nxt r (k:Int)=i then one ((k:Int)∈walk r p) else 0:=by
 have key:=h.ind (P:=fun p=>(p=-1\/(0<=p/\p<r.length))->one (i∈walk r p)=one (p=i)+tot r.length fun k=>if nxt r (k:Int)=i then one ((k:Int)∈walk r p) else 0) ?_ ?_
 ·exact fun p h0 h1=>key p h0 h1 (.inr ⟨h0,h1⟩)
 ·intro _
  rw [mz,zu fun k _=>?_]
  ·unfold one;rw [if_neg (by simp),if_neg (by omega)];rfl
  ·unfold one;rw [if_neg (show ¬ (k:Int)∈([]:List Int) by simp)];split <;>rfl
 ·intro p h0 h1 ih _
  have ih':=ih (h.step h0 h1)
  have nd:=Hy h h0 h1
  rw [fD h h0 h1] at nd ⊢
  obtain ⟨np,_⟩:=afJ.mp nd
  have e1:one (i∈p::walk r (nxt r p))=one (p=i)+one (i∈walk r (nxt r p)):=by
   unfold one
   by_cases hpi:p=i
   ·subst hpi
    rw [if_pos afd,if_pos rfl,if_neg np];rfl
   ·rw [if_neg hpi]
    by_cases hm:i∈walk r (nxt r p)
    ·rw [if_pos (ae4 _ hm),if_pos hm];rfl
    ·rw [if_neg hm,if_neg fun z=>?_];· rfl
     rcases aeS.mp z with z| z
     ·exact hpi z.symm
     ·exact hm z
  have e2:(tot r.length fun k=>if nxt r (k:Int)=i then one ((k:Int)∈p::walk r (nxt r p)) else 0)=
    one (nxt r p=i)+tot r.length fun k=>if nxt r (k:Int)=i then one ((k:Int)∈walk r (nxt r p)) else 0:=by
   have:(tot r.length fun k=>if nxt r (k:Int)=i then one ((k:Int)∈p::walk r (nxt r p)) else 0)=
     tot r.length fun k=>(if k=p.toNat then (fun k=>if nxt r (k:Int)=i then (1:Int) else 0) k else 0)+if nxt r (k:Int)=i then one ((k:Int)∈walk r (nxt r p)) else 0:=by
    refine nH fun k hk=>?_
    by_cases hn:nxt r (k:Int)=i
    ·simp only [if_pos hn]
     by_cases hkp:k=p.toNat
     ·have hkp':(k:Int)=p:=by omega
      rw [if_pos hkp,hkp']
      unfold one
      rw [if_pos afd,if_neg np];rfl
     ·have hkp':¬ (k:Int)=p:=by omega
      rw [if_neg hkp]
      unfold one
      by_cases hm:(k:Int)∈walk r (nxt r p)
      ·rw [if_pos (ae4 _ hm),if_pos hm];rfl
      ·rw [if_neg hm,if_neg fun z=>?_];· rfl
       rcases aeS.mp z with z| z
       ·exact hkp' z
       ·exact hm z
    ·simp only [if_neg hn];split <;>rfl
   rw [this,HF,HD _ (by omega)]
   have e:((p.toNat:Nat):Int)=p:=by omega
   show (if nxt r ((p.toNat:Nat):Int)=i then (1:Int) else 0)+_=_
   rw [e];rfl
  rw [e1,e2,ih']
theorem J0 {r:List Int}(h:iG r)(s:List Int){i:Nat}(hi:i<r.length):zm r s (i:Int)=s.getD i 0+tot r.length fun k=>if nxt r (k:Int)=(i:Int) then zm r s (k:Int) else 0:=by
 have e:zm r s (i:Int)=tot r.length fun j=>(if j=i then s.getD j 0 else 0)+tot r.length fun k=>if nxt r (k:Int)=(i:Int) then (if (k:Int)∈walk r (j:Int) then s.getD j 0 else 0) else 0:=by
  refine nH fun j hj=>?_;have m:=met h (i:=(i:Int)) (by omega) (j:Int) (by omega) (by omega);have e1:(if (i:Int)∈walk r (j:Int) then s.getD j 0 else 0)=s.getD j 0*one ((i:Int)∈walk r (j:Int)):=by unfold one;split <;>simp
  rw [e1,m,Int.mul_add,<- Zy];congr 1
  ·unfold one;by_cases hji:j=i
   ·rw [if_pos (by omega),if_pos hji];simp
   ·rw [if_neg (by omega),if_neg hji];simp
  ·refine nH fun k hk=>?_;split
   ·unfold one;split <;>simp
   ·simp
 rw [e,HF,HD (fun j=>s.getD j 0) hi,QK];congr 1;refine nH fun k hk=>?_;rw [Zz];rfl
def nM (r:List Int)(a b:Int):List Int:=if b=-1 then walk r a else (walk r a).takeWhile (fun x=>!decide (x=b))
def Stop (r:List Int)(a b:Int):Prop:=b=-1\/b∈walk r a
theorem FP {r:List Int}{a b x:Int}(h:x∈nM r a b):x∈walk r a:=by
 unfold nM at h;split at h
 ·exact h
 ·exact (List.takeWhile_prefix _).subset h
theorem Ju {r:List Int}(h:iG r){a b:Int}(h0:0<=a)(h1:a<r.length):(nM r a b).Nodup:=by
 unfold nM;split
 ·exact Hy h h0 h1
 ·exact (Hy h h0 h1).sublist (List.takeWhile_sublist _)
structure Fl (n:Nat)(fl:List Int)(g:Nat->Int):Prop where
 len:fl.length=n
 at_:∀ i,i<n->fl[i]?=some (g i)
theorem Fl.of (fl:List Int):Fl fl.length fl (fun i=>fl.getD i 0):=⟨rfl,fun i hi=>by rw [aeD hi,aeM,aeD hi];rfl⟩
theorem Fl.Li {n:Nat}{fl:List Int}{g g':Nat->Int}(h:Fl n fl g)(e:∀ i,i<n->g i=g' i):Fl n fl g':=⟨h.len,fun i hi=>by rw [h.at_ i hi,e i hi]⟩
theorem Fl.set {n:Nat}{fl:List Int}{g g':Nat->Int}{j:Nat}{y:Int}(h:Fl n fl g)(hj:j<n)(e:∀ i,i<n->i≠j->g' i=g i)(ey:y=g' j):Fl n (fl.set j y) g' :=
 ⟨by rw [afq];exact h.len,fun i hi=>by
  by_cases hij:i=j
  ·subst hij;rw [afM (by rw [h.len];exact hj),ey]
  ·rw [afL (Ne.symm hij),h.at_ i hi,e i hi hij]⟩
theorem Fl.ext {n:Nat}{fl fl':List Int}{g:Nat->Int}(h:Fl n fl g)(h':Fl n fl' g):fl=fl':=by
 apply List.ext_getElem?;intro i;by_cases hi:i<n
 ·rw [h.at_ i hi,h'.at_ i hi]
 ·rw [afu (by rw [h.len];omega),afu (by rw [h'.len];omega)]
theorem Fl.map (n:Nat)(g:Nat->Int):Fl n ((List.range n).map g) g:=⟨by simp,fun i hi=>by rw [aeQ,afN hi];rfl⟩
def kap (r:List Int)(i:Nat):Int:=(i:Int) - 64*((walk r (i:Int)).length:Int)
structure Qz (r:List Int)(p:List Nat):Prop where
 perm:p.Perm (List.range r.length)
 ord:p.Pairwise fun i j=>kap r i<kap r j
theorem Qz.len {r:List Int}{p:List Nat}(h:Qz r p):p.length=r.length:=by rw [h.perm.length_eq,afz]
theorem Qz.lt {r:List Int}{p:List Nat}(h:Qz r p){j:Nat}(hj:j∈p):j<r.length:=afk.mp (h.perm.mem_iff.mp hj)
theorem Qz.first {r:List Int}{p p1 p2:List Nat}{j k:Nat}(h:Qz r p)(hR:iG r)(h64:r.length<64)(e:p=p1++j::p2)(hk:k<r.length)(hn:nxt r (k:Int)=(j:Int)):k∈p1:=by
 have hjm:j∈p:=by rw [e];simp
 have hj:=h.lt hjm;have hkm:k∈p:=h.perm.mem_iff.mpr (afk.mpr hk);have hw:(walk r (k:Int)).length=(walk r (j:Int)).length+1:=by rw [fD hR (p:=(k:Int)) (by omega) (by omega),hn,afb]
 have hlt:kap r k<kap r j:=by unfold kap;omega
 rw [e] at hkm;rcases afa.mp hkm with z| z
 ·exact z
 ·have ord:=h.ord;rw [e,List.pairwise_append] at ord;rcases aeS.mp z with z| z
  ·subst z;omega
  ·have:=(List.pairwise_cons.mp ord.2.1).1 k z;omega
def nats (r s:List Int):List Int:=(List.range r.length).map fun (i:Nat)=>zm r s (i:Int)
theorem Im (r s:List Int):Fl r.length (nats r s) fun i=>zm r s (i:Int):=Fl.map _ _
def Kr (r s:List Int)(p:List Nat)(t:Nat)(fl:List Int):Prop:=Fl r.length fl fun i=>s.getD i 0+lsum (p.take t) fun k=>if nxt r (k:Int)=(i:Int) then zm r s (k:Int) else 0
theorem Kr.start (r s:List Int)(p:List Nat)(hs:s.length=r.length):Kr r s p 0 s:=by
 have:=Fl.of s;rw [hs] at this;exact this.Li fun i _=>by rw [List.take_zero];show _=_+0;omega
theorem take_cons {p:List Nat}{t j:Nat}(h:p[t]?=some j):p.take (t+1)=p.take t++[j]:=by rw [afo,h];rfl
theorem Kr.here {r s:List Int}{p:List Nat}{t j:Nat}{fl:List Int}(T:Qz r p)(hR:iG r)(h64:r.length<64)(h:Kr r s p t fl)(hj:p[t]?=some j):fl[j]?=some (zm r s (j:Int)):=by
 have hjl:=T.lt (aeO hj);rw [h.at_ j hjl,J0 hR s hjl];congr 2;rw [<- xT,<- Gy T.perm];obtain ⟨ht,et⟩:=aeJ.mp hj;have e:p=p.take t++j::p.drop (t+1):=by
  rw [<- et,List.getElem_cons_drop,af6]
 conv=>rhs;rw [e]
 rw [uc];have z:lsum (j::p.drop (t+1)) (fun k=>if nxt r (k:Int)=(j:Int) then zm r s (k:Int) else 0)=0:=by
  refine Gx fun k hk=>if_neg fun hn=>?_;have hkp:k∈p:=by rw [e];exact aeK _ hk
  have h1:=T.first hR h64 e (T.lt hkp) hn;have nd:p.Nodup:=T.perm.nodup_iff.mpr List.nodup_range;rw [e,agx] at nd;exact nd.2.2 k h1 k hk rfl
 rw [z];omega
theorem Kr.adO {r s:List Int}{p:List Nat}{t j:Nat}{fl:List Int}(h:Kr r s p t fl)(hj:p[t]?=some j)(hm:nxt r (j:Int)=-1):Kr r s p (t+1) fl:=
 Fl.Li h fun i _=>by
  rw [take_cons hj,uc];show _=_+(_+((if nxt r (j:Int)=(i:Int) then zm r s (j:Int) else 0)+0));rw [if_neg (by omega)];omega
theorem Kr.turn {r s:List Int}{p:List Nat}{t j b:Nat}{fl:List Int}(T:Qz r p)(hR:iG r)(h64:r.length<64)(h:Kr r s p t fl)(hj:p[t]?=some j)(hb:nxt r (j:Int)=(b:Int))(hbl:b<r.length){x:Int}(hx:fl[b]?=some x):
  Kr r s p (t+1) (fl.set b (x+zm r s (j:Int))):=by
 refine Fl.set h hbl (fun i _ hib=>?_) ?_
 ·rw [take_cons hj,uc];show _+(_+((if nxt r (j:Int)=(i:Int) then zm r s (j:Int) else 0)+0))=_;rw [if_neg (by omega)];omega
 ·rw [h.at_ b hbl] at hx;rw [<- aeY hx,take_cons hj,uc];show _=_+(_+((if nxt r (j:Int)=(b:Int) then zm r s (j:Int) else 0)+0));rw [if_pos hb];omega
theorem Kr.done {r s:List Int}{p:List Nat}{fl:List Int}(T:Qz r p)(hR:iG r)(h:Kr r s p r.length fl):fl=nats r s:=by
 refine Fl.ext (g:=fun i=>zm r s (i:Int)) (Fl.Li h fun i hi=>?_) (Im r s);rw [<- T.len,agf,J0 hR s hi,<- xT,Gy T.perm]
abbrev Mv:=Int × Int × Int
def Ry (r:List Int)(ms:List Mv)(i:Int):Int:=(ms.map fun m=>if i∈nM r m.1 m.2.1 then m.2.2 else 0).sum
theorem Od (r:List Int)(ms:List Mv)(m:Mv)(i:Int):Ry r (ms++[m]) i=Ry r ms i+if i∈nM r m.1 m.2.1 then m.2.2 else 0:=by
 unfold Ry;rw [aeN,List.sum_append];simp
def ac6 (r s:List Int)(ms:List Mv):List Int:=(List.range r.length).map fun (i:Nat)=>zm r s (i:Int) - Ry r ms (i:Int)
theorem Pq (r s:List Int)(ms:List Mv):Fl r.length (ac6 r s ms) fun i=>zm r s (i:Int) - Ry r ms (i:Int):=Fl.map _ _
def MvI (r:List Int)(g:Nat->Int)(am:Int)(pre:List Int)(fl:List Int):Prop:=Fl r.length fl fun i=>g i - if (i:Int)∈pre then am else 0
theorem MvI.start {r:List Int}{g:Nat->Int}{fl:List Int}(am:Int)(h:Fl r.length fl g):MvI r g am [] fl:=Fl.Li h fun i _=>by rw [if_neg (by simp)];omega
theorem MvI.turn {r:List Int}{g:Nat->Int}{am:Int}{pre:List Int}{fl:List Int}(h:MvI r g am pre fl){j:Nat}(hj:j<r.length)(hn:¬ (j:Int)∈pre){x:Int}(hx:fl[j]?=some x):MvI r g am (pre++[(j:Int)]) (fl.set j (x - am)):=by
 refine Fl.set h hj (fun i _ hij=>?_) ?_
 ·have:((i:Int)∈pre++[(j:Int)])=((i:Int)∈pre):=by
   apply propext;simp;omega
  simp only [this]
 ·rw [h.at_ j hj,if_neg hn] at hx;rw [<- aeY hx,if_pos (by simp)];omega
theorem MvI.done {r s:List Int}{ms:List Mv}{m:Mv}{fl:List Int}(h:MvI r (fun i=>zm r s (i:Int) - Ry r ms (i:Int)) m.2.2 (nM r m.1 m.2.1) fl):Fl r.length fl fun i=>zm r s (i:Int) - Ry r (ms++[m]) (i:Int):=
 Fl.Li h fun i _=>by rw [Od];dsimp only;omega
def aeb (r:List Int)(m:Mv):Prop:=0<=m.1/\m.1<r.length/\Stop r m.1 m.2.1
def Ob (r:List Int)(t:Nat):List Int:=((List.range t).filter fun (j:Nat)=>decide (nxt r (j:Int)=-1)).map fun (j:Nat)=>(j:Int)
theorem Gw (r:List Int)(t:Nat):Ob r (t+1)=Ob r t++(if nxt r (t:Int)=-1 then [(t:Int)] else []):=by
 unfold Ob;rw [agk,List.filter_append,aeN];by_cases h:nxt r (t:Int)=-1
 ·rw [if_pos h];simp [h]
 ·rw [if_neg h];simp [h]
theorem J2 (r:List Int)(t:Nat):(Ob r t).length<=t:=by
 unfold Ob;rw [ac5];exact afB (List.length_filter_le _ _) (by simp)
end Rv
namespace Tn
def nJ:Nat->(Nat->Int)->Int
 | 0,_=>0
 | n+1,f=>nJ n f+f n
theorem cB {f g:Nat->Int}:∀ {n:Nat},(∀ k,k<n->f k=g k)->nJ n f=nJ n g
 | 0,_=>rfl
 | n+1,h=>by
  show nJ n f+f n=nJ n g+g n;rw [cB fun k hk=>h k (by omega),h n (by omega)]
theorem Dj {f g:Nat->Int}:∀ {n:Nat},(∀ k,k<n->f k<=g k)->nJ n f<=nJ n g
 | 0,_=>afS _
 | n+1,h=>by
  show nJ n f+f n<=nJ n g+g n;have a:=Dj fun k hk=>h k (Nat.lt_succ_of_lt hk);have b:=h n (agn n);omega
theorem vW (f g:Nat->Int):∀ n:Nat,nJ n (fun k=>f k+g k)=nJ n f+nJ n g
 | 0=>rfl
 | n+1=>by
  show nJ n _+(f n+g n)=nJ n f+f n+(nJ n g+g n);rw [vW f g n];omega
theorem Di (f g:Nat->Int):∀ n:Nat,nJ n (fun k=>f k - g k)=nJ n f - nJ n g
 | 0=>rfl
 | n+1=>by
  show nJ n _+(f n - g n)=nJ n f+f n - (nJ n g+g n);rw [Di f g n];omega
theorem jM:∀ n:Nat,nJ n (fun _=>0)=0
 | 0=>rfl
 | n+1=>by show nJ n _+0=0;rw [jM n];rfl
theorem vV {i:Nat}(c:Int):∀ {n:Nat},i<n->nJ n (fun k=>if k=i then c else 0)=c
 | 0,hi=>absurd hi (agv _)
 | n+1,hi=>by
  show nJ n _+(if n=i then c else 0)=c;by_cases e:n=i
  ·subst e;rw [if_pos rfl,cB (g:=fun _=>0) fun k hk=>if_neg (by omega),jM];omega
  ·rw [if_neg e,vV c (by omega)];omega
theorem HJ {f:Nat->Int}{n:Nat}(h:∀ k,k<n->0<=f k):0<=nJ n f:=by
 have:=Dj (f:=fun _=>0) (g:=f) h;rw [jM] at this;exact this
theorem zH {f:Nat->Int}{n i:Nat}(hi:i<n)(h:∀ k,k<n->0<=f k):f i<=nJ n f:=by
 have:=Dj (f:=fun k=>if k=i then f i else 0) (g:=f) (n:=n) fun k hk=>by
  by_cases e:k=i
  ·subst e;rw [if_pos rfl];exact afS _
  ·rw [if_neg e];exact h k hk
 rw [vV _ hi] at this;exact this
def hold (n:Nat)(W:Nat->List Int)(x:Nat->Int)(r:Int):Int:=nJ n fun k=>if r∈W k then x k else 0
theorem Cu {n:Nat}{W:Nat->List Int}{x y:Nat->Int}{r:Int}(h:∀ k,k<n->r∈W k->x k=y k):hold n W x r=hold n W y r:=
 cB fun k hk=>by
  by_cases e:r∈W k
  ·rw [if_pos e,if_pos e];exact h k hk e
  ·rw [if_neg e,if_neg e]
def put (x:Nat->Int)(i:Nat)(c:Int):Nat->Int:=fun k=>if k=i then x k+c else x k
theorem JT (x:Nat->Int)(i:Nat)(c:Int):put x i c i=x i+c:=if_pos rfl
theorem zT {x:Nat->Int}{i k:Nat}{c:Int}(h:k≠i):put x i c k=x k:=if_neg h
theorem El {n i:Nat}{W:Nat->List Int}{x:Nat->Int}{r c:Int}(hi:i<n):hold n W (put x i c) r=hold n W x r+(if r∈W i then c else 0):=by
 have e:∀ k,k<n->(if r∈W k then put x i c k else 0)=(if r∈W k then x k else 0)+(if k=i then (if r∈W i then c else 0) else 0):=fun k _=>by
  by_cases h1:r∈W k
  ·by_cases h2:k=i
   ·subst h2;simp [put,h1]
   ·simp [put,h1,h2]
  ·by_cases h2:k=i
   ·subst h2;simp [h1]
   ·simp [h1,h2]
 unfold hold;rw [cB e,vW,vV _ hi]
theorem qT (n:Nat)(W:Nat->List Int)(r:Int):hold n W (fun _=>0) r=0:=by
 unfold hold;rw [cB (g:=fun _=>0) fun k _=>by split <;>rfl,jM]
def acW (d n i d' m j:Int):Prop:=d<d'\/d=d'/\(n<m\/n=m/\i<j)
structure Fit (n:Nat)(F:Int->Int)(W:Nat->List Int)(want x:Nat->Int):Prop where
 nn:∀ k,k<n->0<=x k
 le:∀ k,k<n->x k<=want k
 fits:∀ r,(∃ k,k<n/\r∈W k)->hold n W x r<=F r
def Fp (n:Nat)(F:Int->Int)(W:Nat->List Int)(day x:Nat->Int)(k:Nat)(r:Int):Prop:=
 r∈W k/\hold n W x r=F r/\∀ j,j<n->r∈W j->0<x j->acW (day j) (x j) j (day k) (x k+1) k
def G9 (n:Nat)(F:Int->Int)(W:Nat->List Int)(day want x:Nat->Int):Prop:=
 ∀ k,k<n->x k<want k->∃ r,Fp n F W day x k r
def d0:Nat->Int:=fun _=>0
structure Ln (n:Nat)(F:Int->Int)(W:Nat->List Int)(want x:Nat->Int)(G:Nat->Bool)(t:Int):Prop where
 fit:Fit n F W want x
 go:∀ k,G k=true->k<n/\x k=t
 top:∀ k,k<n->x k<=t
 done:∀ k,k<n->G k=false->x k<want k->∃ r,Fp n F W d0 x k r
theorem Ln.start {n:Nat}{F:Int->Int}{W:Nat->List Int}{want:Nat->Int}(hw:∀ k,k<n->0<=want k)(hF:∀ r,(∃ k,k<n/\r∈W k)->0<=F r):
  Ln n F W want (fun _=>0) (fun k=>decide (k<n)) 0:=
 ⟨⟨fun _ _=>afS _,hw,fun r hr=>by rw [qT];exact hF r hr⟩,fun k hk=>⟨by simpa using hk,rfl⟩,fun _ _=>afS _,fun k hk hg=>by simp [hk] at hg⟩
theorem Ln.finish {n:Nat}{F:Int->Int}{W:Nat->List Int}{want x:Nat->Int}{G:Nat->Bool}{t:Int}(h:Ln n F W want x G t)(hG:∀ k,k<n->G k=false):Fit n F W want x/\G9 n F W d0 want x:=
 ⟨h.fit,fun k hk hl=>h.done k hk (hG k hk) hl⟩
def cnt (n:Nat)(W:Nat->List Int)(G:Nat->Bool)(r:Int):Int:=hold n W (fun k=>if G k then 1 else 0) r
def jump (x:Nat->Int)(G:Nat->Bool)(m:Int):Nat->Int:=fun k=>if G k then x k+m else x k
theorem Ag (n:Nat)(W:Nat->List Int)(x:Nat->Int)(G:Nat->Bool)(m r:Int):hold n W (jump x G m) r=hold n W x r+m*cnt n W G r:=by
 unfold cnt hold jump
 induction n with
 | zero=>simp [nJ]
 | succ n ih =>
  simp only [nJ];rw [ih,Int.mul_add];by_cases h1:r∈W n
  ·by_cases h2:G n=true
   ·simp [h1,h2];omega
   ·simp [h1,h2];omega
  ·simp [h1]
theorem aaJ {n:Nat}{W:Nat->List Int}{G:Nat->Bool}{r:Int}{j:Nat}(hj:j<n)(hr:r∈W j)(hg:G j=true):0<cnt n W G r:=by
 have h:=zH (f:=fun k=>if r∈W k then (if G k then (1:Int) else 0) else 0) hj fun k _=>by
  split
  ·split <;>decide
  ·decide
 simp only [hr,hg,if_true] at h;show 0<nJ n fun k=>if r∈W k then (if G k then (1:Int) else 0) else 0;omega
theorem acJ (n:Nat)(W:Nat->List Int)(G:Nat->Bool)(r:Int):0<=cnt n W G r:=HJ fun k _=>by
 show (0:Int)<=if r∈W k then (if G k then (1:Int) else 0) else 0;split
 ·split <;>decide
 ·decide
theorem Ln.jump {n:Nat}{F:Int->Int}{W:Nat->List Int}{want x:Nat->Int}{G:Nat->Bool}{t m:Int}(h:Ln n F W want x G t)(hm:0<=m)(h1:∀ k,G k=true->x k+m<=want k)
  (h2:∀ r,(∃ k,k<n/\r∈W k)->m*cnt n W G r<=F r - hold n W x r):Ln n F W want (jump x G m) G (t+m):=by
 refine ⟨⟨fun k hk=>?_,fun k hk=>?_,fun r hr=>?_⟩,fun k hk=>⟨(h.go k hk).1,?_⟩,fun k hk=>?_,fun k hk hg hl=>?_⟩
 ·have:=h.fit.nn k hk;unfold Tn.jump;split <;>omega
 ·unfold Tn.jump;split
  ·rename_i hg;exact h1 k hg
  ·exact h.fit.le k hk
 ·rw [Ag];have:=h2 r hr;omega
 ·unfold Tn.jump;rw [if_pos hk,(h.go k hk).2]
 ·have:=h.top k hk;unfold Tn.jump;split <;>omega
 ·have ek:Tn.jump x G m k=x k:=by unfold Tn.jump;rw [hg];rfl
  rw [ek] at hl;obtain ⟨r,hr,hF,hall⟩:=h.done k hk hg hl;by_cases hm0:m=0
  ·have e:Tn.jump x G m=x:=by
    funext j;unfold Tn.jump;split <;>omega
   rw [e];exact ⟨r,hr,hF,hall⟩
  ·have hc:=h2 r ⟨k,hk,hr⟩;have hno:∀ j,j<n->r∈W j->G j=false:=fun j hj hrj=>by
    cases hgj:G j with
    | false=>rfl
    | true =>
     exfalso;have p:=aaJ hj hrj hgj;have q:0<m*cnt n W G r:=Int.mul_pos (by omega) p;omega
   have same:∀ j,j<n->r∈W j->Tn.jump x G m j=x j:=fun j hj hrj=>by unfold Tn.jump;rw [hno j hj hrj];rfl
   refine ⟨r,hr,?_,fun j hj hrj hp=>?_⟩
   ·rw [Cu (y:=x) same];exact hF
   ·rw [same j hj hrj] at hp ⊢;rw [ek];exact hall j hj hrj hp
structure Jj (n:Nat)(F:Int->Int)(W:Nat->List Int)(want x:Nat->Int)(G S:Nat->Bool)(t:Int)(p:Nat):Prop where
 fit:Fit n F W want x
 still:∀ k,S k=true->k<p/\k<n/\x k=t+1
 wait:∀ k,k<n->G k=true->p<=k->x k=t
 low:∀ k,k<n->S k=false->x k<=t
 done:∀ k,k<n->S k=false->(k<p\/G k=false)->x k<want k->∃ r,Fp n F W d0 x k r
theorem Ln.pass {n:Nat}{F:Int->Int}{W:Nat->List Int}{want x:Nat->Int}{G:Nat->Bool}{t:Int}(h:Ln n F W want x G t):Jj n F W want x G (fun _=>false) t 0:=
 ⟨h.fit,(fun _ hk=>by cases hk),fun k _ hg _=>(h.go k hg).2,fun k hk _=>h.top k hk,fun k hk _ hg hl=>by
  rcases hg with z| z
  ·exact absurd z (agv _)
  ·exact h.done k hk z hl⟩
theorem Jj.skip {n:Nat}{F:Int->Int}{W:Nat->List Int}{want x:Nat->Int}{G S:Nat->Bool}{t:Int}{p q:Nat}(h:Jj n F W want x G S t p)(hpq:p<=q)(hno:∀ k,p<=k->k<q->G k=false):Jj n F W want x G S t q:=
 ⟨h.fit,fun k hk=>⟨by have:=(h.still k hk).1;omega,(h.still k hk).2⟩,fun k hk hg hq=>h.wait k hk hg (by omega),h.low,fun k hk hs hg hl=>by
  refine h.done k hk hs ?_ hl;rcases hg with z| z
  ·by_cases e:k<p
   ·exact .inl e
   ·exact .inr (hno k (by omega) z)
  ·exact .inr z⟩
theorem Jj.gets {n:Nat}{F:Int->Int}{W:Nat->List Int}{want x:Nat->Int}{G S:Nat->Bool}{t:Int}{p:Nat}(h:Jj n F W want x G S t p)(hp:p<n)(hg:G p=true)(hw:x p<want p)(hfree:∀ r,r∈W p->0<F r - hold n W x r):
  Jj n F W want (put x p 1) G (fun k=>if k=p then true else S k) t (p+1):=by
 have xp:=h.wait p hp hg (aeL _);refine ⟨⟨fun k hk=>?_,fun k hk=>?_,fun r hr=>?_⟩,fun k hk=>?_,fun k hk hg hq=>?_,fun k hk hs=>?_,fun k hk hs hq hl=>?_⟩
 ·have:=h.fit.nn k hk;unfold put;split <;>omega
 ·by_cases e:k=p
  ·subst e;rw [JT];omega
  ·rw [zT e];exact h.fit.le k hk
 ·rw [El hp];by_cases e:r∈W p
  ·rw [if_pos e];have:=hfree r e;omega
  ·rw [if_neg e];have:=h.fit.fits r hr;omega
 ·by_cases e:k=p
  ·subst e;rw [JT];exact ⟨by omega,hp,by omega⟩
  ·simp only [e,if_false] at hk;obtain ⟨a,b,c⟩:=h.still k hk;rw [zT e];exact ⟨by omega,b,c⟩
 ·rw [zT (by omega)];exact h.wait k hk hg (by omega)
 ·by_cases e:k=p
  ·simp [e] at hs
  ·simp only [e,if_false] at hs;rw [zT e];exact h.low k hk hs
 ·by_cases e:k=p
  ·simp [e] at hs
  ·simp only [e,if_false] at hs;rw [zT e] at hl;obtain ⟨r,hr,hF,hall⟩:=h.done k hk hs (by
    rcases hq with z| z
    ·exact .inl (by omega)
    ·exact .inr z) hl
   have hrp:¬ r∈W p:=fun z=>by have:=hfree r z;omega
   refine ⟨r,hr,?_,fun j hj hrj hpos=>?_⟩
   ·rw [El hp,if_neg hrp];omega
   ·have hjp:j≠p:=fun z=>hrp (z ▸ hrj);rw [zT hjp] at hpos ⊢;rw [zT e];exact hall j hj hrj hpos
theorem Jj.ends {n:Nat}{F:Int->Int}{W:Nat->List Int}{want x:Nat->Int}{G S:Nat->Bool}{t:Int}{p:Nat}(h:Jj n F W want x G S t p)(hp:p<n)(hg:G p=true)(hn:want p<=x p\/∃ r,r∈W p/\F r - hold n W x r<=0):
  Jj n F W want x G S t (p+1):=by
 have xp:=h.wait p hp hg (aeL _);refine ⟨h.fit,fun k hk=>⟨by have:=(h.still k hk).1;omega,(h.still k hk).2⟩,fun k hk hg hq=>h.wait k hk hg (by omega),h.low,fun k hk hs hq hl=>?_⟩;by_cases e:k=p
 ·subst e;rcases hn with z| ⟨r,hr,hle⟩
  ·omega
  ·refine ⟨r,hr,?_,fun j hj hrj hpos=>?_⟩
   ·have:=h.fit.fits r ⟨k,hk,hr⟩;omega
   ·cases hsj:S j with
    | false =>
     have:=h.low j hj hsj;exact .inr ⟨rfl,.inl (by omega)⟩
    | true =>
     obtain ⟨a,b,c⟩:=h.still j hsj;exact .inr ⟨rfl,.inr ⟨by omega,by omega⟩⟩
 ·exact h.done k hk hs (by
   rcases hq with z| z
   ·exact .inl (by omega)
   ·exact .inr z) hl
theorem Jj.finish {n:Nat}{F:Int->Int}{W:Nat->List Int}{want x:Nat->Int}{G S:Nat->Bool}{t:Int}(h:Jj n F W want x G S t n):Ln n F W want x S (t+1):=
 ⟨h.fit,fun k hk=>(h.still k hk).2,fun k hk=>by
  cases hs:S k with
  | false=>have:=h.low k hk hs;omega
  | true=>have:=(h.still k hs).2.2;omega,fun k hk hs hl=>h.done k hk hs (.inl hk) hl⟩
def bump (xs w:List Int)(c:Int):List Int:=w.foldl (fun xs r=>xs.set r.toNat (xs.getD r.toNat 0+c)) xs
theorem SN (xs:List Int)(c:Int):bump xs [] c=xs:=rfl
theorem G3 (xs w:List Int)(r c:Int):bump xs (r::w) c=bump (xs.set r.toNat (xs.getD r.toNat 0+c)) w c:=rfl
theorem Qn (xs w:List Int)(r c:Int):bump xs (w++[r]) c=(bump xs w c).set r.toNat ((bump xs w c).getD r.toNat 0+c):=by
 unfold bump;rw [List.foldl_append];rfl
theorem kW:∀ (w xs:List Int)(c:Int),(bump xs w c).length=xs.length
 | [],_,_=>rfl
 | r::w,xs,c=>by rw [G3,kW w,afq]
theorem Ep {xs:List Int}{i k:Nat}{v:Int}(hi:i<xs.length):(xs.set i v).getD k 0=if k=i then v else xs.getD k 0:=by
 rw [aeM,List.getElem?_set,aeM];by_cases h:i=k
 ·subst h;simp [hi]
 ·have h':¬ k=i:=fun e=>h e.symm;simp [h,h']
theorem wO:∀ {w xs:List Int}{c:Int},w.Nodup->(∀ r∈w,0<=r/\r<xs.length)->∀ k:Nat,(bump xs w c).getD k 0=xs.getD k 0+(if (k:Int)∈w then c else 0)
 | [],xs,c,_,_,k=>by simp [SN]
 | r::w,xs,c,hw,hin,k=>by
  rw [afJ] at hw;obtain ⟨r0,r1⟩:=hin r afd;have hl:r.toNat<xs.length:=by omega
  rw [G3,wO hw.2 (fun q hq=>by rw [afq];exact hin q (ae4 _ hq)) k,Ep hl];by_cases e:k=r.toNat
  ·have ek:(k:Int)=r:=by omega
   have hn:¬ (k:Int)∈w:=by rw [ek];exact hw.1
   rw [if_pos e,if_neg hn,if_pos (by rw [ek];exact afd),e];omega
  ·have ek:¬ (k:Int)=r:=by omega
   rw [if_neg e];by_cases h:(k:Int)∈w
   ·rw [if_pos h,if_pos (ae4 _ h)]
   ·rw [if_neg h,if_neg (fun z=>by rcases aeS.mp z with q| q;exact ek q;exact h q)]
def bumps (xs:List Int)(ps:List (List Int × Int)):List Int:=ps.foldl (fun xs p=>bump xs p.1 p.2) xs
theorem Qm (xs:List Int):bumps xs []=xs:=rfl
theorem CK (xs:List Int)(p:List Int × Int)(ps:List (List Int × Int)):bumps xs (p::ps)=bumps (bump xs p.1 p.2) ps:=rfl
theorem CJ (xs:List Int)(ps:List (List Int × Int))(p:List Int × Int):bumps xs (ps++[p])=bump (bumps xs ps) p.1 p.2:=by
 unfold bumps;rw [List.foldl_append];rfl
theorem nY:∀ (ps:List (List Int × Int))(xs:List Int),(bumps xs ps).length=xs.length
 | [],_=>rfl
 | p::ps,xs=>by rw [CK,nY ps,kW]
def WOk (n:Nat)(w:List Int):Prop:=w.Nodup/\∀ r∈w,0<=r/\r<(n:Int)
theorem wN:∀ {ps:List (List Int × Int)}{xs:List Int},(∀ p∈ps,WOk xs.length p.1)->∀ k:Nat,(bumps xs ps).getD k 0=xs.getD k 0+(ps.map fun p=>if (k:Int)∈p.1 then p.2 else 0).sum
 | [],xs,_,k=>by simp [Qm]
 | p::ps,xs,h,k=>by
  have hp:=h p afd;rw [CK,wN (fun q hq=>by rw [kW];exact h q (ae4 _ hq)) k,wO hp.1 hp.2 k,afg,List.sum_cons];omega
theorem QS {α:Type}(l:List α)(f:α->Int)(g:Nat->Int)(h:∀ k a,l[k]?=some a->g k=f a):(l.map f).sum=nJ l.length g:=by
 have key:∀ n,n<=l.length->((l.take n).map f).sum=nJ n g:=by
  intro n
  induction n with
  | zero=>intro _;rfl
  | succ n ih =>
   intro hn;have e:l[n]?=some l[n]:=aeD (by omega);rw [List.take_succ,e,aeN,List.sum_append,ih (by omega)];show _+(f l[n]+0)=nJ n g+g n;rw [h n _ e];omega
 have:=key l.length (aeL _);rwa [aeU (aeL _)] at this
theorem zx {n:Nat}{f:Nat->Int}:∀ {g:List Nat},g.Nodup->(∀ k∈g,k<n)->(g.map f).sum=nJ n fun k=>if k∈g then f k else 0
 | [],_,_=>by simp [jM]
 | a::g,hn,hl=>by
  rw [afJ] at hn;rw [afg,List.sum_cons,zx hn.2 fun k hk=>hl k (ae4 _ hk)];have e:∀ k,k<n->(if k∈a::g then f k else 0)=(if k=a then f a else 0)+(if k∈g then f k else 0):=fun k _=>by
   by_cases h:k=a
   ·subst h;simp [hn.1]
   ·simp [h]
  rw [cB e,vW,vV _ (hl a afd)]
def shares (fs cs:List Int):List Int:=((fs.zip cs).filter fun p=>decide (0<p.2)).map fun p=>p.1 / p.2
def WT (fs cs rs:List Int)(M:Int):Prop:=(rs++shares fs cs=[]/\M=0)\/∃ m∈rs++shares fs cs,(∀ a∈rs++shares fs cs,m<=a)/\M=max 0 m
theorem Cq {fs cs:List Int}{a:Int}:a∈shares fs cs↔∃ (k:Nat)(f c:Int),fs[k]?=some f/\cs[k]?=some c/\0<c/\a=f / c:=by
 unfold shares;simp only [afc,List.mem_filter,decide_eq_true_eq];constructor
 ·rintro ⟨⟨f,c⟩,⟨hm,hc⟩,rfl⟩;obtain ⟨k,hk,e⟩:=afh hm;have e':(fs.zip cs)[k]?=some (f,c):=by rw [aeD hk,e]
  rw [afZ] at e';exact ⟨k,f,c,e'.1,e'.2,hc,rfl⟩
 ·rintro ⟨k,f,c,h1,h2,h3,rfl⟩;exact ⟨(f,c),⟨aeO (i:=k) (afZ.mpr ⟨h1,h2⟩),h3⟩,rfl⟩
theorem WT.nn {fs cs rs:List Int}{M:Int}(h:WT fs cs rs M):0<=M:=by
 rcases h with ⟨_,e⟩ | ⟨m,_,_,e⟩<;>omega
theorem WT.low {fs cs rs:List Int}{M:Int}(h:WT fs cs rs M)(hr:∀ a∈rs,0<=a)(hf:∀ a∈fs,0<=a):(∀ a∈rs,M<=a)/\∀ (k:Nat)(f c:Int),fs[k]?=some f->cs[k]?=some c->0<c->M*c<=f:=by
 have hall:∀ a∈rs++shares fs cs,0<=a:=fun a ha=>by
  rcases afa.mp ha with z| z
  ·exact hr a z
  ·obtain ⟨k,f,c,h1,h2,h3,rfl⟩:=Cq.mp z;exact Int.ediv_nonneg (hf f (aeO h1)) (by omega)
 have hle:∀ a∈rs++shares fs cs,M<=a:=by
  rcases h with ⟨e,_⟩ | ⟨m,hm,hl,rfl⟩
  ·intro a ha;rw [e] at ha;cases ha
  ·intro a ha;have:=hl a ha;have:=hall m hm;omega
 refine ⟨fun a ha=>hle a (afw _ ha),fun k f c h1 h2 h3=>?_⟩;exact (Int.le_ediv_iff_mul_le h3).mp (hle _ (aeK _ (Cq.mpr ⟨k,f,c,h1,h2,h3,rfl⟩)))
structure Lq (n:Nat)(F:Int->Int)(W:Nat->List Int)(day want x:Nat->Int)(Pz:Nat->Prop):Prop where
 fit:Fit n F W want x
 shown:∀ k,k<n->Pz k->x k<want k->∃ r,Fp n F W day x k r
 zero:∀ k,k<n->¬ Pz k->x k=0
theorem Lq.start {n:Nat}{F:Int->Int}{W:Nat->List Int}{day want:Nat->Int}(hw:∀ k,k<n->0<=want k)(hF:∀ r,(∃ k,k<n/\r∈W k)->0<=F r):Lq n F W day want (fun _=>0) (fun _=>False):=
 ⟨⟨fun _ _=>afS _,hw,fun r hr=>by rw [qT];exact hF r hr⟩,fun _ _ z=>z.elim,fun _ _ _=>rfl⟩
def over (x:Nat->Int)(g:List Nat)(y:Nat->Int):Nat->Int:=fun k=>if k∈g then y (g.idxOf k) else x k
theorem qW {g:List Nat}{i:Nat}(h:i<g.length):g.getD i 0=g[i]:=by rw [aeM,aeD h];rfl
theorem iV {g:List Nat}(h:g.Pairwise (·<·)):g.Nodup:=h.imp fun e=>afr e
theorem J9 {g:List Nat}(h:g.Nodup){i:Nat}(hi:i<g.length):g.idxOf g[i]=i:=by
 have h1:g.idxOf g[i]<g.length:=List.idxOf_lt_length_iff.mpr (afx hi);exact (afR (h₀:=h1) (h₁:=hi) h).mp (List.getElem_idxOf h1)
theorem xQ {x y:Nat->Int}{g:List Nat}(h:g.Nodup){i:Nat}(hi:i<g.length):over x g y (g.getD i 0)=y i:=by
 unfold over;rw [qW hi,if_pos (afx hi),J9 h hi]
theorem oR {x y:Nat->Int}{g:List Nat}{k:Nat}(h:¬ k∈g):over x g y k=x k:=if_neg h
theorem GD {n:Nat}{W:Nat->List Int}{x y:Nat->Int}{g:List Nat}(r:Int)(hg:g.Nodup)(hn:∀ k∈g,k<n)(hz:∀ k∈g,x k=0):
  hold n W (over x g y) r=hold n W x r+hold g.length (fun i=>W (g.getD i 0)) y r:=by
 have e:∀ k,k<n->(if r∈W k then over x g y k else 0)=(if r∈W k then x k else 0)+(if k∈g then (if r∈W k then y (g.idxOf k) else 0) else 0):=fun k _=>by
  by_cases h:k∈g
  ·unfold over;rw [if_pos h,if_pos h,hz k h];by_cases h2:r∈W k
   ·simp [h2]
   ·simp [h2]
  ·rw [oR h,if_neg h];omega
 have e2:=zx (n:=n) (f:=fun k=>if r∈W k then y (g.idxOf k) else 0) hg hn;have e3:=QS g (fun k=>if r∈W k then y (g.idxOf k) else 0) (fun i=>if r∈W (g.getD i 0) then y i else 0) fun i a ha=>by
  obtain ⟨hi,rfl⟩:=aeJ.mp ha;rw [qW hi,J9 hg hi]
 unfold hold;rw [cB e,vW,<- e2,e3]
theorem Lq.step {n:Nat}{F:Int->Int}{W:Nat->List Int}{day want x y:Nat->Int}{Pz:Nat->Prop}{g:List Nat}{d:Int}(D:Lq n F W day want x Pz)(hg:g.Pairwise (·<·))(hgn:∀ k∈g,k<n/\day k=d/\¬ Pz k)(hd:∀ k,Pz k->day k<d)
  (fy:Fit g.length (fun r=>F r - hold n W x r) (fun i=>W (g.getD i 0)) (fun i=>want (g.getD i 0)) y)(sy:G9 g.length (fun r=>F r - hold n W x r) (fun i=>W (g.getD i 0)) d0 (fun i=>want (g.getD i 0)) y):
  Lq n F W day want (over x g y) (fun k=>Pz k\/k∈g):=by
 have nd:=iV hg
 have hn:∀ k∈g,k<n:=fun k hk=>(hgn k hk).1
 have hz:∀ k∈g,x k=0:=fun k hk=>D.zero k (hn k hk) (hgn k hk).2.2
 have hh:=fun r=>GD (n:=n) (W:=W) (x:=x) (y:=y) r nd hn hz
 have inv:∀ k∈g,∃ i,i<g.length/\g.getD i 0=k:=fun k hk=>by
  obtain ⟨i,hi,e⟩:=afh hk
  exact ⟨i,hi,by rw [qW hi,e]⟩
 have yn:∀ r,0<=hold g.length (fun i=>W (g.getD i 0)) y r:=fun r=>HJ fun i hi=>by
  split
  ·exact fy.nn i hi
  ·exact afS _
 refine ⟨⟨fun k hk=>?_,fun k hk=>?_,fun r hr=>?_⟩,fun k hk hp hl=>?_,fun k hk hp=>?_⟩
 ·by_cases h:k∈g
  ·obtain ⟨i,hi,rfl⟩:=inv k h
   rw [xQ nd hi];exact fy.nn i hi
  ·rw [oR h];exact D.fit.nn k hk
 ·by_cases h:k∈g
  ·obtain ⟨i,hi,rfl⟩:=inv k h
   rw [xQ nd hi];exact fy.le i hi
  ·rw [oR h];exact D.fit.le k hk
 ·rw [hh r]
  by_cases h:∃ i,i<g.length/\r∈W (g.getD i 0)
  ·have q:hold g.length (fun i=>W (g.getD i 0)) y r<=F r - hold n W x r:=fy.fits r h
   omega
  ·have e:hold g.length (fun i=>W (g.getD i 0)) y r=0:=by
    unfold hold
    rw [cB (g:=fun _=>0) fun i hi=>if_neg fun z=>h ⟨i,hi,z⟩,jM]
   have:=D.fit.fits r hr
   omega
 ·by_cases h:k∈g
  ·obtain ⟨i,hi,rfl⟩:=inv k h
   rw [xQ nd hi] at hl
   obtain ⟨r,hr,hF,hall⟩:=sy i hi hl
   refine ⟨r,hr,?_,fun j hj hrj hpos=>?_⟩
   ·have q:hold g.length (fun i=>W (g.getD i 0)) y r=F r - hold n W x r:=hF
    rw [hh r,q];omega
   ·rw [xQ nd hi]
    have dk:=(hgn _ h).2.1
    by_cases hj':j∈g
    ·obtain ⟨i',hi',rfl⟩:=inv j hj'
     rw [xQ nd hi'] at hpos ⊢
     have dj:=(hgn _ hj').2.1
     have a:=hall i' hi' hrj hpos
     rcases a with a| ⟨_,a⟩
     ·exact absurd a (Int.lt_irrefl _)
     ·refine .inr ⟨by rw [dk,dj],?_⟩
      rcases a with a| ⟨a,b⟩
      ·exact .inl a
      ·refine .inr ⟨a,?_⟩
       have hlt:i'<i:=by omega
       have:=afP.mp hg i' i hi' hi hlt
       rw [qW hi,qW hi'];omega
    ·rw [oR hj'] at hpos
     by_cases hpj:Pz j
     ·have:=hd j hpj
      exact .inl (by rw [dk];exact this)
     ·have:=D.zero j hj hpj
      omega
  ·have hpk:Pz k:=hp.resolve_right h
   rw [oR h] at hl
   obtain ⟨r,hr,hF,hall⟩:=D.shown k hk hpk hl
   have none:∀ i,i<g.length->r∈W (g.getD i 0)->y i=0:=fun i hi hri=>by
    have a:hold g.length (fun i=>W (g.getD i 0)) y r<=F r - hold n W x r:=fy.fits r ⟨i,hi,hri⟩
    have b:=zH (f:=fun i=>if r∈W (g.getD i 0) then y i else 0) hi fun j hj=>by
     show (0:Int)<=if r∈W (g.getD j 0) then y j else 0
     split
     ·exact fy.nn j hj
     ·exact afS _
    have c:=fy.nn i hi
    have e:(if r∈W (g.getD i 0) then y i else 0)=y i:=if_pos hri
    have b':y i<=hold g.length (fun i=>W (g.getD i 0)) y r:=by rw [<- e];exact b
    omega
   have same:∀ j,j<n->r∈W j->over x g y j=x j:=fun j hj hrj=>by
    by_cases h2:j∈g
    ·obtain ⟨i,hi,rfl⟩:=inv j h2
     rw [xQ nd hi,none i hi hrj,hz _ h2]
    ·exact oR h2
   refine ⟨r,hr,?_,fun j hj hrj hpos=>?_⟩
   ·rw [Cu (y:=x) same];exact hF
   ·rw [same j hj hrj] at hpos ⊢
    rw [oR h]
    exact hall j hj hrj hpos
 ·have h:¬ k∈g:=fun z=>hp (.inr z)
  rw [oR h]
  exact D.zero k hk fun z=>hp (.inl z)
theorem Lq.finish {n:Nat}{F:Int->Int}{W:Nat->List Int}{day want x:Nat->Int}{Pz:Nat->Prop}(D:Lq n F W day want x Pz)(h:∀ k,k<n->Pz k):Fit n F W want x/\G9 n F W day want x:=⟨D.fit,fun k hk hl=>D.shown k hk (h k hk) hl⟩
def fW (ws:List (List Int)):Nat->List Int:=fun k=>ws.getD k []
def fX (xs:List Int):Nat->Int:=fun k=>xs.getD k 0
def fF (fs:List Int):Int->Int:=fun r=>fs.getD r.toNat 0
def asI (gs:List Nat):List Int:=gs.map fun k:Nat=>(k:Int)
def fG (gs:List Nat):Nat->Bool:=fun k=>decide (k∈gs)
structure Bl (fs:List Int)(ws:List (List Int))(rs l xs:List Int)(gs:List Nat)(t:Int):Prop where
 ll:l.length=fs.length
 xl:xs.length=ws.length
 left:∀ r:Nat,r<fs.length->l.getD r 0=fs.getD r 0 - hold ws.length (fW ws) (fX xs) (r:Int)
 srt:gs.Pairwise (·<·)
 inv:Ln ws.length (fF fs) (fW ws) (fX rs) (fX xs) (fG gs) t
theorem Cy (fs:List Int)(r:Nat):fF fs (r:Int)=fs.getD r 0:=by unfold fF;rw [aeT]
theorem zZ {ws:List (List Int)}{k:Nat}(hk:k<ws.length):fW ws k∈ws:=by
 unfold fW;rw [aeM,aeD hk];exact afx hk
theorem kO (n k:Nat):(List.replicate n (0:Int)).getD k 0=0:=by
 rw [aeM,agi];split <;>rfl
theorem Bl.start {fs:List Int}{ws:List (List Int)}{rs:List Int}(hf:∀ a∈fs,0<=a)(hr:∀ a∈rs,0<=a)(hws:∀ w∈ws,WOk fs.length w):Bl fs ws rs fs (List.replicate ws.length 0) (List.range ws.length) 0:=by
 have e:fX (List.replicate ws.length 0)=fun _=>0:=by
  funext k;exact kO _ _
 have g0:∀ (l:List Int)(k:Nat),(∀ a∈l,0<=a)->0<=l.getD k 0:=fun l k h=>by
  rw [aeM];cases hk:l[k]? with
  | none=>exact afS _
  | some a=>exact h a (aeO hk)
 refine ⟨rfl,by simp,fun r hr=>?_,List.pairwise_lt_range,?_⟩
 ·rw [e,qT];omega
 ·rw [e,show fG (List.range ws.length)=fun k=>decide (k<ws.length) from by funext k;simp [fG]];exact Ln.start (fun k _=>g0 rs k hr) fun r _=>g0 fs _ hf
theorem Bl.nn {fs:List Int}{ws:List (List Int)}{rs l xs:List Int}{gs:List Nat}{t:Int}(h:Bl fs ws rs l xs gs t)(hf:∀ a∈fs,0<=a):∀ a∈l,0<=a:=fun a ha=>by
 obtain ⟨r,hr,rfl⟩:=afh ha;have hr':r<fs.length:=by rw [<- h.ll];exact hr
 have e:l[r]=l.getD r 0:=by rw [aeM,aeD hr];rfl
 rw [e,h.left r hr'];by_cases hx:∃ k,k<ws.length/\(r:Int)∈fW ws k
 ·have:=h.inv.fit.fits r hx;rw [Cy] at this;omega
 ·have e0:hold ws.length (fW ws) (fX xs) (r:Int)=0:=by
   unfold hold;rw [cB (g:=fun _=>0) fun k hk=>if_neg fun z=>hx ⟨k,hk,z⟩,jM]
  have:=hf fs[r] (afx hr');have e1:fs.getD r 0=fs[r]:=by rw [aeM,aeD hr'];rfl
  omega
def Qy (n:Nat)(ws:List (List Int))(gs:List Nat):List Int:=bumps (List.replicate n 0) (gs.map fun k=>(fW ws k,1))
theorem Sx {n:Nat}{ws:List (List Int)}{gs:List Nat}(hws:∀ w∈ws,WOk n w)(hg:gs.Nodup)(hn:∀ k∈gs,k<ws.length)(r:Nat):(Qy n ws gs).getD r 0=cnt ws.length (fW ws) (fG gs) (r:Int):=by
 unfold Qy;rw [wN (fun p hp=>by
  obtain ⟨k,hk,rfl⟩:=afc.mp hp;rw [afn];exact hws _ (zZ (hn k hk))) r,kO,agg]
 have e:=zx (n:=ws.length) (f:=fun k=>if (r:Int)∈fW ws k then (1:Int) else 0) hg hn;have e':((fun p:List Int × Int=>if (r:Int)∈p.1 then p.2 else 0) ∘ fun k=>(fW ws k,(1:Int)))=fun k=>if (r:Int)∈fW ws k then (1:Int) else 0:=rfl;rw [e',e];unfold cnt hold fG;rw [Int.zero_add];refine cB fun k _=>?_;by_cases h1:k∈gs
 ·simp [h1]
 ·simp [h1]
theorem Sw (n:Nat)(ws:List (List Int))(gs:List Nat):(Qy n ws gs).length=n:=by unfold Qy;rw [nY,afn]
def unmet (rs xs:List Int)(gs:List Nat):List Int:=gs.map fun k=>rs.getD k 0 - xs.getD k 0
theorem OJ {gs:List Nat}{n:Nat}(hg:gs.Nodup)(hn:∀ k∈gs,k<n):WOk n (asI gs):=by
 refine ⟨?_,fun r hr=>?_⟩
 ·unfold asI;exact List.Pairwise.map _ (fun a b h=>by omega) hg
 ·obtain ⟨k,hk,rfl⟩:=afc.mp hr;have:=hn k hk;omega
theorem Eh {gs:List Nat}{k:Nat}:(k:Int)∈asI gs↔k∈gs:=by
 unfold asI;rw [afc];constructor
 ·rintro ⟨a,ha,e⟩;have:a=k:=by omega
  rw [<- this];exact ha
 ·intro h;exact ⟨k,h,rfl⟩
theorem Bl.going {fs:List Int}{ws:List (List Int)}{rs l xs:List Int}{gs:List Nat}{t:Int}(h:Bl fs ws rs l xs gs t):∀ k∈gs,k<ws.length/\xs.getD k 0=t:=fun k hk=>h.inv.go k (by simpa [fG] using hk)
theorem Bl.whole {fs:List Int}{ws:List (List Int)}{rs l xs:List Int}{gs:List Nat}{t M:Int}(h:Bl fs ws rs l xs gs t)(hf:∀ a∈fs,0<=a)(hws:∀ w∈ws,WOk fs.length w)(hM:WT l (Qy fs.length ws gs) (unmet rs xs gs) M):
  Bl fs ws rs (bumps l (gs.map fun k=>(fW ws k,-M))) (bump xs (asI gs) M) gs (t+M):=by
 have nd:=iV h.srt;have hn:∀ k∈gs,k<ws.length:=fun k hk=>(h.going k hk).1;have hl:=h.nn hf;have hun:∀ a∈unmet rs xs gs,0<=a:=fun a ha=>by
  obtain ⟨k,hk,rfl⟩:=afc.mp ha;have:fX xs k<=fX rs k:=h.inv.fit.le k (hn k hk);unfold fX at this;omega
 obtain ⟨lo1,lo2⟩:=hM.low hun hl;have ex:fX (bump xs (asI gs) M)=jump (fX xs) (fG gs) M:=by
  funext k;show (bump xs (asI gs) M).getD k 0=if fG gs k then fX xs k+M else fX xs k;have ok:=OJ nd (n:=xs.length) fun k hk=>by rw [h.xl];exact hn k hk
  rw [wO ok.1 ok.2 k];by_cases hk:k∈gs
  ·rw [if_pos (Eh.mpr hk)];simp [fG,hk,fX]
  ·rw [if_neg (fun z=>hk (Eh.mp z))];simp [fG,hk,fX]
 have key:∀ r:Nat,r<fs.length->M*cnt ws.length (fW ws) (fG gs) (r:Int)<=l.getD r 0:=fun r hr=>by
  have c0:=acJ ws.length (fW ws) (fG gs) (r:Int);have hlr:r<l.length:=by rw [h.ll];exact hr
  have e1:l[r]?=some (l.getD r 0):=by rw [aeM,aeD hlr];rfl
  have hcr:r<(Qy fs.length ws gs).length:=by rw [Sw];exact hr
  have e2:(Qy fs.length ws gs)[r]?=some (cnt ws.length (fW ws) (fG gs) (r:Int)):=by
   rw [<- Sx hws nd hn r,aeM,aeD hcr];rfl
  by_cases hp:0<cnt ws.length (fW ws) (fG gs) (r:Int)
  ·exact lo2 r _ _ e1 e2 hp
  ·have:cnt ws.length (fW ws) (fG gs) (r:Int)=0:=by omega
   rw [this,Int.mul_zero];exact hl _ (aeO e1)
 refine ⟨by rw [nY];exact h.ll,by rw [kW];exact h.xl,fun r hr=>?_,h.srt,?_⟩
 ·rw [wN (fun p hp=>by
   obtain ⟨k,hk,rfl⟩:=afc.mp hp;rw [h.ll];exact hws _ (zZ (hn k hk))) r,h.left r hr,ex,Ag,agg]
  have e:=zx (n:=ws.length) (f:=fun k=>if (r:Int)∈fW ws k then -M else 0) nd hn;have e':((fun p:List Int × Int=>if (r:Int)∈p.1 then p.2 else 0) ∘ fun k=>(fW ws k,-M))=fun k=>if (r:Int)∈fW ws k then -M else 0:=rfl;rw [e',e];have e3:(nJ ws.length fun k=>if k∈gs then (if (r:Int)∈fW ws k then -M else 0) else 0)=-(M*cnt ws.length (fW ws) (fG gs) (r:Int)):=by
   have a:=Ag ws.length (fW ws) (fun _=>0) (fG gs) (-M) (r:Int);rw [qT] at a;have b:hold ws.length (fW ws) (jump (fun _=>0) (fG gs) (-M)) (r:Int)=nJ ws.length fun k=>if k∈gs then (if (r:Int)∈fW ws k then -M else 0) else 0:=by
    unfold hold jump fG;refine cB fun k _=>?_;by_cases h1:k∈gs
    ·simp [h1]
    ·simp [h1]
   rw [<- b,a,Int.neg_mul];omega
  rw [e3];omega
 ·rw [ex];refine h.inv.jump hM.nn (fun k hk=>?_) fun r hr=>?_
  ·have hk':k∈gs:=by simpa [fG] using hk
   have:=lo1 (rs.getD k 0 - xs.getD k 0) (afc.mpr ⟨k,hk',rfl⟩);unfold fX;omega
  ·obtain ⟨k,hk,hr⟩:=hr;have hw:=hws _ (zZ hk);obtain ⟨r0,r1⟩:=hw.2 r hr;obtain ⟨rn,rfl⟩:=ae9 r0;have hrn:rn<fs.length:=by omega
   have a:=key rn hrn;rw [h.left rn hrn] at a;rw [Cy];exact a
def step1 (ws:List (List Int))(rs:List Int)(s:List Int × List Int × List Nat)(k:Nat):List Int × List Int × List Nat:=
 if s.2.1.getD k 0<rs.getD k 0/\(fW ws k).all (fun r=>decide (0<s.1.getD r.toNat 0))=true then (bump s.1 (fW ws k) (-1),s.2.1.set k (s.2.1.getD k 0+1),s.2.2++[k]) else s
def jV (ws:List (List Int))(rs:List Int)(gs:List Nat)(s:List Int × List Int × List Nat):List Int × List Int × List Nat:=gs.foldl (step1 ws rs) s
theorem BZ (ws:List (List Int))(rs:List Int)(gs:List Nat)(k:Nat)(s:List Int × List Int × List Nat):jV ws rs (gs++[k]) s=step1 ws rs (jV ws rs gs s) k:=by
 unfold jV;rw [List.foldl_append];rfl
def rem (rs xs:List Int)(n:Nat):Int:=nJ n fun k=>fX rs k - fX xs k
structure Zh (fs:List Int)(ws:List (List Int))(rs:List Int)(gs:List Nat)(t S0:Int)(i:Nat)(s:List Int × List Int × List Nat):Prop where
 ll:s.1.length=fs.length
 xl:s.2.1.length=ws.length
 left:∀ r:Nat,r<fs.length->s.1.getD r 0=fs.getD r 0 - hold ws.length (fW ws) (fX s.2.1) (r:Int)
 sub:s.2.2.Sublist (gs.take i)
 sum:rem rs s.2.1 ws.length+s.2.2.length=S0
 pv:∃ p,Jj ws.length (fF fs) (fW ws) (fX rs) (fX s.2.1) (fG gs) (fG s.2.2) t p/\p<=ws.length/\(∀ j (h:j<gs.length),i<=j->p<=gs[j])/\∀ j (h:j<gs.length),j<i->gs[j]<p
theorem Bl.pass {fs:List Int}{ws:List (List Int)}{rs l xs:List Int}{gs:List Nat}{t:Int}(h:Bl fs ws rs l xs gs t):Zh fs ws rs gs t (rem rs xs ws.length) 0 (l,xs,[]):=
 ⟨h.ll,h.xl,h.left,by simp,by simp,0,by
  have:=h.inv.pass;rw [show fG []=fun _=>false from by funext k;simp [fG]];exact this,afs _,fun _ _ _=>afs _,fun j _ hj=>absurd hj (agv _)⟩
theorem Zh.step {fs:List Int}{ws:List (List Int)}{rs:List Int}{gs:List Nat}{t S0:Int}{i:Nat}{s:List Int × List Int × List Nat}(h:Zh fs ws rs gs t S0 i s)(srt:gs.Pairwise (·<·))(hn:∀ k∈gs,k<ws.length)(hws:∀ w∈ws,WOk fs.length w)(hi:i<gs.length):
  Zh fs ws rs gs t S0 (i+1) (step1 ws rs s gs[i]):=by
 obtain ⟨l,xs,st⟩:=s;obtain ⟨p,P0,pn,hp1,hp2⟩:=h.pv;have hll:l.length=fs.length:=h.ll;have hxl:xs.length=ws.length:=h.xl;have hleft:∀ r:Nat,r<fs.length->l.getD r 0=fs.getD r 0 - hold ws.length (fW ws) (fX xs) (r:Int):=h.left;have hsum:rem rs xs ws.length+st.length=S0:=h.sum;have hsub:st.Sublist (gs.take i):=h.sub;have P0:Jj ws.length (fF fs) (fW ws) (fX rs) (fX xs) (fG gs) (fG st) t p:=P0;have hk:gs[i]<ws.length:=hn _ (afx hi);have inc:=afP.mp srt;have P1:=P0.skip (q:=gs[i]) (hp1 i hi (aeL _)) fun k h1 h2=>by
  cases hg:fG gs k with
  | false=>rfl
  | true =>
   exfalso;have hm:k∈gs:=by simpa [fG] using hg
   obtain ⟨j,hj,rfl⟩:=afh hm;by_cases hji:j<i
   ·have:=hp2 j hj hji;omega
   ·by_cases e:j=i
    ·subst e;omega
    ·have:=inc i j hi hj (by omega);omega
 have hG:fG gs gs[i]=true:=by simp [fG]
 have next1:∀ j (h:j<gs.length),i+1<=j->gs[i]+1<=gs[j]:=fun j hj hji=>inc i j hi hj (by omega);have next2:∀ j (h:j<gs.length),j<i+1->gs[j]<gs[i]+1:=fun j hj hji=>by
  by_cases e:j=i
  ·subst e;omega
  ·have:=inc j i hj hi (by omega);omega
 have wk:=hws _ (zZ hk);have at_:∀ r∈fW ws gs[i],fF fs r - hold ws.length (fW ws) (fX xs) r=l.getD r.toNat 0:=fun r hr=>by
  obtain ⟨r0,r1⟩:=wk.2 r hr;obtain ⟨rn,rfl⟩:=ae9 r0;rw [Cy,aeT,hleft rn (by omega)]
 by_cases hc:xs.getD gs[i] 0<rs.getD gs[i] 0/\(fW ws gs[i]).all (fun r=>decide (0<l.getD r.toNat 0))=true
 ·have e:step1 ws rs (l,xs,st) gs[i]=(bump l (fW ws gs[i]) (-1),xs.set gs[i] (xs.getD gs[i] 0+1),st++[gs[i]]):=if_pos hc;rw [e];have ex:fX (xs.set gs[i] (xs.getD gs[i] 0+1))=put (fX xs) gs[i] 1:=by
   funext k;show (xs.set gs[i] (xs.getD gs[i] 0+1)).getD k 0=if k=gs[i] then xs.getD k 0+1 else xs.getD k 0;rw [Ep (by rw [hxl];exact hk)];by_cases z:k=gs[i]
   ·rw [if_pos z,if_pos z,z]
   ·rw [if_neg z,if_neg z]
  have P2:=P1.gets hk hG (by unfold fX;exact hc.1) fun r hr=>by
   rw [at_ r hr];have:=afA.mp hc.2 r hr;simpa using this
  refine ⟨by rw [kW];exact hll,by rw [afq];exact hxl,fun r hr=>?_,?_,?_,gs[i]+1,?_,by omega,next1,next2⟩
  ·show (bump l (fW ws gs[i]) (-1)).getD r 0=fs.getD r 0 - hold ws.length (fW ws) (fX (xs.set gs[i] (xs.getD gs[i] 0+1))) (r:Int);rw [wO wk.1 (by rw [hll];exact wk.2) r,hleft r hr,ex,El hk];split <;>omega
  ·show (st++[gs[i]]).Sublist (gs.take (i+1));rw [afo,aeD hi];exact hsub.append (List.Sublist.refl _)
  ·show rem rs (xs.set gs[i] (xs.getD gs[i] 0+1)) ws.length+((st++[gs[i]]).length:Nat)=S0;have a:rem rs (xs.set gs[i] (xs.getD gs[i] 0+1)) ws.length=rem rs xs ws.length - 1:=by
    unfold rem;rw [ex,Di,Di];have:nJ ws.length (put (fX xs) gs[i] 1)=nJ ws.length (fX xs)+1:=by
     have b:∀ k,k<ws.length->put (fX xs) gs[i] 1 k=fX xs k+(if k=gs[i] then 1 else 0):=fun k _=>by
      unfold put;split <;>omega
     rw [cB b,vW,vV _ hk]
    omega
   rw [a,ae1,List.length_singleton];omega
  ·show Jj ws.length (fF fs) (fW ws) (fX rs) (fX (xs.set gs[i] (xs.getD gs[i] 0+1))) (fG gs) (fG (st++[gs[i]])) t (gs[i]+1);rw [ex,show fG (st++[gs[i]])=fun k=>if k=gs[i] then true else fG st k from by
    funext k;by_cases z:k=gs[i]
    ·simp [fG,z]
    ·simp [fG,z]]
   exact P2
 ·have e:step1 ws rs (l,xs,st) gs[i]=(l,xs,st):=if_neg hc;rw [e];refine ⟨hll,hxl,hleft,?_,hsum,gs[i]+1,P1.ends hk hG ?_,by omega,next1,next2⟩
  ·exact hsub.trans (by rw [afo];exact agw _ _)
  ·by_cases z:xs.getD gs[i] 0<rs.getD gs[i] 0
   ·have hno:¬ (fW ws gs[i]).all (fun r=>decide (0<l.getD r.toNat 0))=true:=fun y=>hc ⟨z,y⟩;refine .inr ?_;refine Classical.byContradiction fun hx=>hno (afA.mpr fun r hr=>?_);refine decide_eq_true ?_;refine Classical.byContradiction fun hle=>hx ⟨r,hr,?_⟩;rw [at_ r hr];omega
   ·exact .inl (by unfold fX;omega)
theorem Zh.finish {fs:List Int}{ws:List (List Int)}{rs:List Int}{gs:List Nat}{t S0:Int}{s:List Int × List Int × List Nat}(h:Zh fs ws rs gs t S0 gs.length s)(srt:gs.Pairwise (·<·)):Bl fs ws rs s.1 s.2.1 s.2.2 (t+1):=by
 obtain ⟨p,P0,pn,hp1,hp2⟩:=h.pv;have P1:=P0.skip (q:=ws.length) pn fun k h1 h2=>by
  cases hg:fG gs k with
  | false=>rfl
  | true =>
   exfalso;have hm:k∈gs:=by simpa [fG] using hg
   obtain ⟨j,hj,rfl⟩:=afh hm;have:=hp2 j hj hj;omega
 have hsub:=h.sub;rw [aeU (aeL _)] at hsub;exact ⟨h.ll,h.xl,h.left,srt.sublist hsub,P1.finish⟩
theorem LQ {fs:List Int}{ws:List (List Int)}{rs l xs:List Int}{gs:List Nat}{t:Int}(h:Bl fs ws rs l xs gs t)(hws:∀ w∈ws,WOk fs.length w):∀ i,i<=gs.length->Zh fs ws rs gs t (rem rs xs ws.length) i (jV ws rs (gs.take i) (l,xs,[])):=by
 intro i
 induction i with
 | zero=>intro _;exact h.pass
 | succ i ih =>
  intro hi;rw [afo,aeD (by omega:i<gs.length)];show Zh fs ws rs gs t _ (i+1) (jV ws rs (gs.take i++[gs[i]]) (l,xs,[]));rw [BZ];exact (ih (by omega)).step h.srt (fun k hk=>(h.going k hk).1) hws (by omega)
theorem Bl.one {fs:List Int}{ws:List (List Int)}{rs l xs:List Int}{gs:List Nat}{t:Int}(h:Bl fs ws rs l xs gs t)(hws:∀ w∈ws,WOk fs.length w):
  Bl fs ws rs (jV ws rs gs (l,xs,[])).1 (jV ws rs gs (l,xs,[])).2.1 (jV ws rs gs (l,xs,[])).2.2 (t+1)/\rem rs (jV ws rs gs (l,xs,[])).2.1 ws.length+((jV ws rs gs (l,xs,[])).2.2.length:Nat)=rem rs xs ws.length:=by
 have q:=LQ h hws gs.length (aeL _);rw [aeU (aeL _)] at q;exact ⟨q.finish h.srt,q.sum⟩
theorem Bl.T9 {fs:List Int}{ws:List (List Int)}{rs l xs:List Int}{gs:List Nat}{t:Int}(h:Bl fs ws rs l xs gs t):0<=rem rs xs ws.length:=HJ fun k hk=>by
 have:=h.inv.fit.le k hk;omega
theorem Nm {fs:List Int}{ws:List (List Int)}{rs l xs:List Int}{gs:List Nat}{t M:Int}(h:Bl fs ws rs l xs gs t)(hM:0<=M):rem rs (bump xs (asI gs) M) ws.length<=rem rs xs ws.length:=by
 refine Dj fun k hk=>?_;have ok:=OJ (iV h.srt) (n:=xs.length) fun k hk=>by rw [h.xl];exact (h.going k hk).1
 have:fX (bump xs (asI gs) M) k=fX xs k+(if (k:Int)∈asI gs then M else 0):=wO ok.1 ok.2 k;rw [this];split <;>omega
theorem WOk.len {n:Nat}{w:List Int}(h:WOk n w):w.length<=n:=by
 have:=List.Nodup.length_le_of_subset (l₂:=asI (List.range n)) h.1 fun r hr=>by
  obtain ⟨r0,r1⟩:=h.2 r hr;obtain ⟨k,rfl⟩:=ae9 r0;exact Eh.mpr (afk.mpr (by omega))
 simpa [asI] using this
theorem Jt (r:Int):∀ ws:List (List Int),((ws.map fun w=>(w,(1:Int))).map fun p=>if r∈p.1 then p.2 else 0).sum<=(ws.length:Int)
 | []=>by simp
 | w::ws=>by
  have:=Jt r ws;simp only [afg,List.sum_cons,afb];split <;>omega
theorem cw_bound {n:Nat}{ws:List (List Int)}(hws:∀ w∈ws,WOk n w):∀ c∈bumps (List.replicate n 0) (ws.map fun w=>(w,(1:Int))),c<=(ws.length:Int):=fun c hc=>by
 obtain ⟨k,hk,rfl⟩:=afh hc;have e:(bumps (List.replicate n 0) (ws.map fun w=>(w,(1:Int))))[k]=(bumps (List.replicate n 0) (ws.map fun w=>(w,(1:Int)))).getD k 0:=by
  rw [aeM,aeD hk];rfl
 rw [e,wN (fun p hp=>by
  obtain ⟨w,hw,rfl⟩:=afc.mp hp;rw [afn];exact hws w hw) k,kO]
 have:=Jt (k:Int) ws;omega
theorem HN {fs cs:List Int}{i:Nat}{f c:Int}(hf:fs[i]?=some f)(hc:cs[i]?=some c):shares (fs.take (i+1)) (cs.take (i+1))=shares (fs.take i) (cs.take i)++(if 0<c then [f / c] else []):=by
 have l1:=(aeJ.mp hf).1;have l2:=(aeJ.mp hc).1;unfold shares;rw [afo,afo,hf,hc,List.zip_append (by rw [ae0,ae0];omega),List.filter_append,aeN];congr 1;by_cases h:0<c
 ·simp [h]
 ·simp [h]
theorem jQ {gs:List Nat}{i:Nat}{z:Int}(h:(asI gs)[i]?=some z):∃ k:Nat,gs[i]?=some k/\z=(k:Int):=by
 unfold asI at h;rw [aeQ] at h;cases e:gs[i]? with
 | none=>rw [e] at h;cases h
 | some k=>rw [e] at h;exact ⟨k,rfl,(aeY h).symm⟩
theorem GC (gs:List Nat)(i:Nat):(asI gs).take i=asI (gs.take i):=by unfold asI;rw [List.map_take]
theorem kJ (gs:List Nat):(asI gs).length=gs.length:=by unfold asI;rw [ac5]
theorem KH {rs xs:List Int}{gs:List Nat}{i k:Nat}(h:gs[i]?=some k):unmet rs xs (gs.take (i+1))=unmet rs xs (gs.take i)++[rs.getD k 0 - xs.getD k 0]:=by
 unfold unmet;rw [afo,h,aeN];rfl
theorem iy {α β:Type}{f:α->β}{gs:List α}{i:Nat}{k:α}(h:gs[i]?=some k):(gs.take (i+1)).map f=(gs.take i).map f++[f k]:=by
 rw [afo,h,aeN];rfl
theorem fH {α:Type}{gs:List α}{i:Nat}{k:α}(h:gs[i]?=some k):gs.take (i+1)=gs.take i++[k]:=by
 rw [afo,h];rfl
theorem KN {ws:List (List Int)}{rs:List Int}{gs:List Nat}{i k:Nat}{s:List Int × List Int × List Nat}(h:gs[i]?=some k):jV ws rs (gs.take (i+1)) s=step1 ws rs (jV ws rs (gs.take i) s) k:=by
 rw [fH h];exact BZ _ _ _ _ _
theorem Mh (ws:List (List Int))(rs:List Int)(s:List Int × List Int × List Nat)(k:Nat):(step1 ws rs s k).1.length=s.1.length/\(step1 ws rs s k).2.1.length=s.2.1.length/\(step1 ws rs s k).2.2.length<=s.2.2.length+1:=by
 unfold step1;split
 ·exact ⟨kW _ _ _,afq,by simp⟩
 ·exact ⟨rfl,rfl,by omega⟩
theorem Fy (ws:List (List Int))(rs:List Int):∀ (gs:List Nat)(s:List Int × List Int × List Nat),(jV ws rs gs s).1.length=s.1.length/\(jV ws rs gs s).2.1.length=s.2.1.length/\(jV ws rs gs s).2.2.length<=s.2.2.length+gs.length
 | [],s=>⟨rfl,rfl,by simp [jV]⟩
 | k::gs,s=>by
  have a:=Mh ws rs s k;have b:=Fy ws rs gs (step1 ws rs s k);have e:jV ws rs (k::gs) s=jV ws rs gs (step1 ws rs s k):=rfl;rw [e];refine ⟨by rw [b.1,a.1],by rw [b.2.1,a.2.1],?_⟩;have:=b.2.2;rw [afb];omega
structure Grp (day:Nat->Int)(q:List Nat)(gs:List (Int × List Nat)):Prop where
 flat:(gs.map (·.2)).flatten=q
 ord:(gs.map (·.1)).Pairwise (·<·)
 grp:∀ g∈gs,g.2≠[]/\∀ k∈g.2,day k=g.1
theorem Grp.start (day:Nat->Int):Grp day [] []:=⟨rfl,.nil,fun _ h=>nomatch h⟩
theorem Grp.mem {day:Nat->Int}{q:List Nat}{gs:List (Int × List Nat)}(h:Grp day q gs){g:Int × List Nat}(hg:g∈gs):∃ k∈q,day k=g.1:=by
 obtain ⟨h1,h2⟩:=h.grp g hg;cases e:g.2 with
 | nil=>exact absurd e h1
 | cons k r =>
  refine ⟨k,?_,h2 k (by rw [e];exact afd)⟩;rw [<- h.flat];exact List.mem_flatten.mpr ⟨g.2,afU hg,by rw [e];exact afd⟩
theorem Grp.new {day:Nat->Int}{q:List Nat}{gs:List (Int × List Nat)}{k:Nat}(h:Grp day q gs)(hn:∀ g∈gs,g.1≠day k)(hq:∀ j∈q,day j<=day k):Grp day (q++[k]) (gs++[(day k,[k])]):=by
 refine ⟨?_,?_,fun g hg=>?_⟩
 ·rw [aeN,List.flatten_append,h.flat];rfl
 ·rw [aeN,List.pairwise_append];refine ⟨h.ord,by simp,fun a ha b hb=>?_⟩;obtain ⟨g,hg,rfl⟩:=afc.mp ha;have hb:b=day k:=by simpa using hb
  subst hb;obtain ⟨j,hj,e⟩:=h.mem hg;have:=hq j hj;have:=hn g hg;omega
 ·rcases afa.mp hg with e| e
  ·exact h.grp g e
  ·have:g=(day k,[k]):=by simpa using e
   subst this;exact ⟨by simp,fun j hj=>by
    have:j=k:=by simpa using hj
    rw [this]⟩
theorem Grp.last {day:Nat->Int}{q:List Nat}{gs:List (Int × List Nat)}{k j:Nat}{g:Int × List Nat}(h:Grp day q gs)(hj:gs[j]?=some g)(hk:g.1=day k)(hq:∀ j∈q,day j<=day k):gs=gs.take j++[g]:=by
 obtain ⟨hl,e⟩:=aeJ.mp hj;have hlen:gs.length=j+1:=by
  refine Nat.le_antisymm (Nat.le_of_not_lt fun hlt=>?_) hl;have ord:=afP.mp h.ord j (j+1) (by rw [ac5];exact hl) (by rw [ac5];exact hlt) (by omega);rw [List.getElem_map,List.getElem_map,e] at ord;obtain ⟨i,hi,ei⟩:=h.mem (afx (l:=gs) (n:=j+1) hlt);have:=hq i hi;omega
 have:gs.take (j+1)=gs.take j++[g]:=fH hj;rw [<- this,aeU (by omega)]
theorem Grp.more {day:Nat->Int}{q:List Nat}{gs:List (Int × List Nat)}{k j:Nat}{g:Int × List Nat}(h:Grp day q gs)(hj:gs[j]?=some g)(hk:g.1=day k)(hq:∀ j∈q,day j<=day k):Grp day (q++[k]) (gs.set j (g.1,g.2++[k])):=by
 have e:=h.last hj hk hq;have hl:=(aeJ.mp hj).1;have es:gs.set j (g.1,g.2++[k])=gs.take j++[(g.1,g.2++[k])]:=by
  conv=>lhs;rw [e]
  have:(gs.take j).length=j:=by rw [ae0];omega
  rw [List.set_append,if_neg (by omega),this,Nat.sub_self];rfl
 have hf:=h.flat;have ho:=h.ord;rw [e] at hf ho;rw [aeN,List.flatten_append] at hf;rw [aeN] at ho;rw [es];refine ⟨?_,?_,fun g' hg'=>?_⟩
 ·rw [aeN,List.flatten_append,<- hf];simp
 ·rw [aeN];exact ho
 ·rcases afa.mp hg' with e' | e'
  ·exact h.grp g' (List.mem_of_mem_take e')
  ·have:g'=(g.1,g.2++[k]):=by simpa using e'
   subst this;refine ⟨by simp,fun i hi=>?_⟩;rcases afa.mp hi with z| z
   ·exact (h.grp g (aeO hj)).2 i z
   ·have:i=k:=by simpa using z
    rw [this,hk]
structure Rk (day:Nat->Int)(n:Nat)(p:List Nat):Prop where
 perm:p.Perm (List.range n)
 ord:p.Pairwise fun i j=>day i<day j\/day i=day j/\i<j
theorem Rk.len {day:Nat->Int}{n:Nat}{p:List Nat}(h:Rk day n p):p.length=n:=by rw [h.perm.length_eq,afz]
theorem Rk.lt {day:Nat->Int}{n:Nat}{p:List Nat}(h:Rk day n p){j:Nat}(hj:j∈p):j<n:=afk.mp (h.perm.mem_iff.mp hj)
theorem Rk.before {day:Nat->Int}{n:Nat}{p:List Nat}(h:Rk day n p){i k:Nat}(hi:p[i]?=some k):∀ j∈p.take i,day j<=day k:=fun j hj=>by
 obtain ⟨hl,e⟩:=aeJ.mp hi;obtain ⟨m,hm,em⟩:=afh hj;rw [ae0] at hm;rw [agy] at em;have:=afP.mp h.ord m i (by omega) hl (by omega);rw [em,e] at this;omega
theorem zB {α:Type}:∀ {L:List (List α)}{g:List α},g∈L->g.Sublist L.flatten
 | [],_,h=>nomatch h
 | x::L,g,h=>by
  rw [af4];rcases aeS.mp h with e| e
  ·rw [e];exact agw _ _
  ·exact (zB e).trans (afC _ _)
theorem Grp.up {day:Nat->Int}{n:Nat}{p:List Nat}{gs:List (Int × List Nat)}(h:Grp day p gs)(r:Rk day n p){g:Int × List Nat}(hg:g∈gs):g.2.Pairwise (·<·):=by
 have hs:g.2.Sublist p:=by rw [<- h.flat];exact zB (afU hg)
 have:=r.ord.sublist hs;refine List.Pairwise.imp_of_mem (fun {a b} ha hb hab=>?_) this;have ea:=(h.grp g hg).2 a ha;have eb:=(h.grp g hg).2 b hb;omega
def inG (gs:List (Int × List Nat))(j:Nat)(k:Nat):Prop:=∃ g∈gs.take j,k∈g.2
theorem RW (gs:List (Int × List Nat))(k:Nat):¬ inG gs 0 k:=fun ⟨_,h,_⟩=>by simp at h
theorem RZ {gs:List (Int × List Nat)}{j:Nat}{g:Int × List Nat}(h:gs[j]?=some g)(k:Nat):inG gs (j+1) k↔inG gs j k\/k∈g.2:=by
 unfold inG;rw [fH h];constructor
 ·rintro ⟨g',h1,h2⟩;rcases afa.mp h1 with e| e
  ·exact .inl ⟨g',e,h2⟩
  ·have:g'=g:=by simpa using e
   rw [this] at h2;exact .inr h2
 ·rintro (⟨g',h1,h2⟩ | h)
  ·exact ⟨g',afw _ h1,h2⟩
  ·exact ⟨g,aeK _ (by simp),h⟩
theorem Grp.all {day:Nat->Int}{n:Nat}{p:List Nat}{gs:List (Int × List Nat)}(h:Grp day p gs)(r:Rk day n p){k:Nat}(hk:k<n):inG gs gs.length k:=by
 have hm:k∈p:=r.perm.mem_iff.mpr (afk.mpr hk);rw [<- h.flat] at hm;obtain ⟨l,hl,hkl⟩:=List.mem_flatten.mp hm;obtain ⟨g,hg,rfl⟩:=afc.mp hl;exact ⟨g,by rw [agf];exact hg,hkl⟩
theorem Grp.later {day:Nat->Int}{p:List Nat}{gs:List (Int × List Nat)}(h:Grp day p gs){j:Nat}{g:Int × List Nat}(hj:gs[j]?=some g){k:Nat}(hk:inG gs j k):day k<g.1:=by
 obtain ⟨g',h1,h2⟩:=hk;obtain ⟨hl,e⟩:=aeJ.mp hj;obtain ⟨m,hm,em⟩:=afh h1;rw [ae0] at hm;rw [agy] at em;have ord:=afP.mp h.ord m j (by rw [ac5];omega) (by rw [ac5];exact hl) (by omega);rw [List.getElem_map,List.getElem_map,e,em] at ord;rw [(h.grp g' (List.mem_of_mem_take h1)).2 k h2];exact ord
theorem qU {n:Nat}{W W':Nat->List Int}{x x':Nat->Int}(hW:∀ k,k<n->W k=W' k)(hx:∀ k,k<n->x k=x' k)(r:Int):hold n W x r=hold n W' x' r:=
 cB fun k hk=>by rw [hW k hk,hx k hk]
theorem Fit.Li {n:Nat}{F F':Int->Int}{W W':Nat->List Int}{want want' x x':Nat->Int}(h:Fit n F W want x)(hW:∀ k,k<n->W k=W' k)(hw:∀ k,k<n->want k=want' k)(hx:∀ k,k<n->x k=x' k)(hF:∀ r,(∃ k,k<n/\r∈W k)->F r=F' r):Fit n F' W' want' x':=by
 refine ⟨fun k hk=>by rw [<- hx k hk];exact h.nn k hk,fun k hk=>by rw [<- hx k hk,<- hw k hk];exact h.le k hk,fun r hr=>?_⟩;obtain ⟨k,hk,hm⟩:=hr;have hr:∃ k,k<n/\r∈W k:=⟨k,hk,by rw [hW k hk];exact hm⟩;rw [<- qU hW hx r,<- hF r hr];exact h.fits r hr
theorem G9.Li {n:Nat}{F F':Int->Int}{W W':Nat->List Int}{day want want' x x':Nat->Int}(h:G9 n F W day want x)(hW:∀ k,k<n->W k=W' k)(hw:∀ k,k<n->want k=want' k)(hx:∀ k,k<n->x k=x' k)(hF:∀ r,(∃ k,k<n/\r∈W k)->F r=F' r):G9 n F' W' day want' x':=by
 intro k hk hl;rw [<- hx k hk,<- hw k hk] at hl;obtain ⟨r,h1,h2,h3⟩:=h k hk hl;refine ⟨r,by rw [<- hW k hk];exact h1,by rw [<- qU hW hx r,<- hF r ⟨k,hk,h1⟩];exact h2,fun j hj hr hp=>?_⟩;rw [<- hx j hj,<- hx k hk];exact h3 j hj (by rw [hW j hj];exact hr) (by rw [hx j hj];exact hp)
theorem Lq.Li {n:Nat}{F:Int->Int}{W:Nat->List Int}{day want x x':Nat->Int}{Pz Pz':Nat->Prop}(D:Lq n F W day want x Pz)(hx:∀ k,x k=x' k)(hP:∀ k,Pz k↔Pz' k):Lq n F W day want x' Pz':=by
 have e:x=x':=funext hx;have e':Pz=Pz':=funext fun k=>propext (hP k);rw [<- e,<- e'];exact D
structure Lp (n:Nat)(fs:List Int)(W:Nat->List Int)(day want:Nat->Int)(gs:List (Int × List Nat))(j:Nat)(xs fl:List Int):Prop where
 xl:xs.length=n
 fll:fl.length=fs.length
 left:∀ i:Nat,i<fs.length->fl.getD i 0=fs.getD i 0 - hold n W (fX xs) (i:Int)
 inv:Lq n (fF fs) W day want (fX xs) (inG gs j)
theorem Oh {fs:List Int}{a:Int}(h:a∈fs):∃ i,i<fs.length/\fs.getD i 0=a:=by
 obtain ⟨i,hi,e⟩:=afh h;exact ⟨i,hi,by rw [aeM,aeD hi];exact e⟩
theorem wH {fs:List Int}{i:Nat}(h:i<fs.length):fs.getD i 0∈fs:=by
 rw [aeM,aeD h];exact afx h
theorem ad2 {fs:List Int}(hf:∀ a∈fs,0<=a)(r:Int):0<=fF fs r:=by
 unfold fF;by_cases h:r.toNat<fs.length
 ·exact hf _ (wH h)
 ·rw [aeM,afu (by omega)];exact afS _
theorem Lp.start {n:Nat}{fs:List Int}{W:Nat->List Int}{day want:Nat->Int}(gs:List (Int × List Nat))(hw:∀ k,k<n->0<=want k)(hf:∀ a∈fs,0<=a):Lp n fs W day want gs 0 (List.replicate n 0) fs:=by
 have e:∀ k,fX (List.replicate n 0) k=0:=fun k=>kO n k;refine ⟨by simp,rfl,fun i _=>?_,?_⟩
 ·have:hold n W (fX (List.replicate n 0)) (i:Int)=0:=by
   rw [qU (W':=W) (x':=fun _=>0) (fun _ _=>rfl) (fun k _=>e k),qT]
  omega
 ·exact (Lq.start (day:=day) hw fun r _=>ad2 hf r).Li (fun k=>(e k).symm) fun k=>⟨fun z=>z.elim,fun z=>absurd z (RW gs k)⟩
theorem O8 {n:Nat}{W:Nat->List Int}{x:Nat->Int}{r:Int}(h:¬ ∃ k,k<n/\r∈W k):hold n W x r=0:=by
 unfold hold;rw [cB (g:=fun _=>0) fun k hk=>if_neg fun z=>h ⟨k,hk,z⟩,jM]
theorem Lp.nn {n:Nat}{fs:List Int}{W:Nat->List Int}{day want:Nat->Int}{gs:List (Int × List Nat)}{j:Nat}{xs fl:List Int}(h:Lp n fs W day want gs j xs fl)(hf:∀ a∈fs,0<=a):∀ a∈fl,0<=a:=fun a ha=>by
 obtain ⟨i,hi,rfl⟩:=Oh ha;rw [h.fll] at hi;rw [h.left i hi];by_cases hw:∃ k,k<n/\(i:Int)∈W k
 ·have:=h.inv.fit.fits (i:Int) hw;rw [Cy] at this;omega
 ·rw [O8 hw];have:=hf _ (wH hi);omega
theorem Lp.step {n:Nat}{fs:List Int}{W:Nat->List Int}{day want:Nat->Int}{gs:List (Int × List Nat)}{j:Nat}{xs fl ys left cur:List Int}{q:List Nat}{t:Int}{g:Int × List Nat}(h:Lp n fs W day want gs j xs fl)(G:Grp day q gs)(R:Rk day n q)(hj:gs[j]?=some g)
  (hW:∀ k,k<n->WOk fs.length (W k))(L:Bl fl (g.2.map W) (g.2.map want) left ys [] t)(hcl:cur.length=n)(hc:∀ k,fX cur k=over (fX xs) g.2 (fX ys) k):Lp n fs W day want gs (j+1) cur left:=by
 have hgm:=aeO hj;have up:=G.up R hgm;have nd:=iV up;have hlt:∀ k∈g.2,k<n:=fun k hk=>R.lt (by rw [<- G.flat];exact List.mem_flatten.mpr ⟨g.2,afU hgm,hk⟩);have hn:∀ k∈g.2,¬ inG gs j k:=fun k hk z=>by
  have:=G.later hj z;have:=(G.grp g hgm).2 k hk;omega
 have hz:∀ k∈g.2,fX xs k=0:=fun k hk=>h.inv.zero k (hlt k hk) (hn k hk);have hlen:(g.2.map W).length=g.2.length:=ac5 _;have eW:∀ i,i<(g.2.map W).length->fW (g.2.map W) i=W (g.2.getD i 0):=fun i hi=>by
  rw [hlen] at hi;unfold fW;rw [aeM,aeQ,aeD hi,qW hi];rfl
 have ew:∀ i,i<(g.2.map W).length->fX (g.2.map want) i=want (g.2.getD i 0):=fun i hi=>by
  rw [hlen] at hi;unfold fX;rw [aeM,aeQ,aeD hi,qW hi];rfl
 have eF:∀ r,(∃ k,k<(g.2.map W).length/\r∈fW (g.2.map W) k)->fF fl r=fF fs r - hold n W (fX xs) r:=fun r hr=>by
  obtain ⟨i,hi,hm⟩:=hr;rw [eW i hi] at hm;have hk:g.2.getD i 0<n:=hlt _ (by rw [qW (by omega)];exact afx (by omega));obtain ⟨r0,r1⟩:=(hW _ hk).2 r hm;obtain ⟨rn,rfl⟩:=ae9 r0;rw [Cy,Cy];exact h.left rn (by omega)
 obtain ⟨fy,sy⟩:=L.inv.finish fun k _=>by simp [fG]
 have fy:=fy.Li eW ew (x':=fX ys) (fun _ _=>rfl) eF;have sy:=sy.Li eW ew (x':=fX ys) (fun _ _=>rfl) eF;rw [hlen] at fy sy;have st:=h.inv.step up (d:=g.1) (fun k hk=>⟨hlt k hk,(G.grp g hgm).2 k hk,hn k hk⟩) (fun k hk=>G.later hj hk) fy sy;refine ⟨hcl,by rw [L.ll,h.fll],fun i hi=>?_,st.Li (fun k=>(hc k).symm) fun k=>(RZ hj k).symm⟩;rw [L.left i (by rw [h.fll];exact hi),h.left i hi,qU (W':=W) (x':=over (fX xs) g.2 (fX ys)) (fun _ _=>rfl) (fun k _=>hc k) (i:Int),GD (i:Int) nd hlt hz,qU (x':=fX ys) eW (fun _ _=>rfl) (i:Int),hlen];omega
theorem Lp.finish {n:Nat}{fs:List Int}{W:Nat->List Int}{day want:Nat->Int}{gs:List (Int × List Nat)}{xs fl:List Int}{q:List Nat}(h:Lp n fs W day want gs gs.length xs fl)(G:Grp day q gs)(R:Rk day n q):Fit n (fF fs) W want (fX xs)/\G9 n (fF fs) W day want (fX xs):=
 h.inv.finish fun k hk=>G.all R hk
theorem Ny {x y:Nat->Int}{g:List Nat}{i m:Nat}(nd:g.Nodup)(h:g[i]?=some m)(k:Nat):over x (g.take (i+1)) y k=if k=m then y i else over x (g.take i) y k:=by
 obtain ⟨hi,e⟩:=aeJ.mp h;have hm:¬ m∈g.take i:=fun z=>by
  obtain ⟨a,ha,ea⟩:=afh z;rw [ae0] at ha;rw [agy] at ea;have:=(afR nd).mp (ea.trans e.symm);omega
 unfold over;rw [fH h];by_cases hk:k=m
 ·subst hk;rw [if_pos rfl,if_pos (by simp),List.idxOf_append,if_neg hm,ae0];simp;congr 1;omega
 ·rw [if_neg hk];by_cases hb:k∈g.take i
  ·rw [if_pos (by simp [hb]),if_pos hb,List.idxOf_append,if_pos hb]
  ·rw [if_neg (by simp [hb,hk]),if_neg hb]
end Tn
namespace Rv
theorem QT {r:List Int}(h:iG r){p b:Int}(h0:0<=p)(h1:p<r.length):Tn.WOk r.length (nM r p b):=⟨Ju h h0 h1,fun q hq=>Jk h p h0 h1 q (FP hq)⟩
end Rv
namespace Tn
end Tn
namespace Rv
end Rv
namespace Tn
end Tn
namespace Rv
end Rv
namespace Tn
end Tn
namespace Rv
end Rv
namespace Tn
end Tn
namespace Rv
end Rv
namespace L2
open PySem
theorem sX.m {j k:Nat}{A:Around}(r:sX k A)(h:j<=k:=by decide):sX j A:=r.mono h
end L2
namespace My
open PySem L2
local macro_rules | `(tactic| walk_at "new") => `(tactic| (generalize hE : upd _ _ _ = Hn; have On := Ow.mkE (by assumption) (by assumption) hE rfl; clear hE; revert On; revert Hn))
local macro_rules | `(tactic| walk_at "put") => `(tactic| (generalize hE : upd _ _ _ = Hn; (first | have On := Ow.yI (by assumption) 0 rfl hE rfl | have On := Ow.yI (by assumption) 1 rfl hE rfl | have On := Ow.yI (by assumption) 2 rfl hE rfl | have On := Ow.yI (by assumption) 3 rfl hE rfl | have On := Ow.yI (by assumption) 4 rfl hE rfl | have On := Ow.yI (by assumption) 5 rfl hE rfl); clear hE; (try simp only [List.set_cons_zero, af5] at On); revert On; revert Hn))
set_option hygiene false
local macro_rules | `(tactic| walk_at "get") => `(tactic| first | assumption | exact O.get 0 | exact O.get 1 | exact O.get 2 | exact O.get 3 | exact O.get 4 | exact O.get 5 | exact O.get 6 | exact O.get 7 | exact O.get 8 | exact O.get 9 | exact O.get 10 | exact O.get 11 | exact O.get 12 | fail)
local macro_rules | `(tactic| walk_at "sq") => `(tactic| first | assumption | exact O.sq 0 | exact O.sq 1 | exact O.sq 2 | exact O.sq 3 | exact O.sq 4 | exact O.sq 5 | exact O.sq 6 | exact O.sq 7 | exact O.sq 8 | exact O.sq 9 | exact O.sq 10 | exact O.sq 11 | exact O.sq 12 | exact SqL.mo (by assumption) O.same | exact SqL.mo (by assumption) (s0.trans O.same) | fail)
local macro_rules | `(tactic| walk_at "sqT") => `(tactic| first | assumption | exact O.sqT 0 | exact O.sqT 1 | exact O.sqT 2 | exact O.sqT 3 | exact O.sqT 4 | exact O.sqT 5 | exact O.sqT 6 | exact O.sqT 7 | exact SqT.mo (by assumption) O.same | exact SqT.mo (by assumption) (s0.trans O.same) | fail)
local macro_rules | `(tactic| walk_at "at") => `(tactic| first | rfl | exact bV (by assumption) | exact d9 (by assumption) | exact iz (by omega) (by omega) | exact lastV _ _ | exact ints_last (by omega) | exact iz (ns := [_, _]) (by omega) (by simp only [afb, afK]; omega) | exact iz (ns := [_, _, _]) (by omega) (by simp only [afb, afK]; omega) | exact iz (ns := [_, _, _, _]) (by omega) (by simp only [afb, afK]; omega) | exact iz (ns := [_, _, _, _, _]) (by omega) (by simp only [afb, afK]; omega) | exact iz (ns := [_, _, _, _, _, _]) (by omega) (by simp only [afb, afK]; omega) | exact iz (ns := [_, _, _, _, _, _, _]) (by omega) (by simp only [afb, afK]; omega) | exact iz (ns := [_, _, _, _, _, _, _, _]) (by omega) (by simp only [afb, afK]; omega) | fail)
local macro_rules | `(tactic| walk_at "c") => `(tactic| first | omega | (simp only [ac5]; omega) | exact szl | (show (0 : Int) < _; decide) | (show (0 : Int) < _; omega) | exact ⟨by decide, by decide⟩ | exact .inl ⟨by decide, by decide⟩ | exact .inr ⟨by decide, by decide⟩ | exact ⟨by decide, by decide, by decide⟩ | exact .inl ⟨by omega, by omega⟩ | exact .inr ⟨by omega, by omega⟩ | exact ⟨by omega, by omega⟩ | (split <;> omega) | fail)
local macro_rules | `(tactic| walk_at "ty") => `(tactic| first | exact .int _ | exact .bl _ | exact .lst (by walk_at "get") | exact .tup (by walk_at "get") | exact .non | fail)
local macro_rules | `(tactic| walk_at "kit") => `(tactic| first | exact kit_ii K | exact kit_ib K | exact kit_ll K | exact kit_bb K | exact kit_bi K | exact kit_tt K | fail)
local macro_rules | `(tactic| walk_at "s") => `(tactic| first | refine aaS ?_ | refine ⟨_, rfl, ?_⟩ | refine ⟨_, _, rfl, rfl, ?_⟩ | refine And.intro rfl ?_ | refine And.intro (by walk_at "c") ?_ | refine ⟨_, _, _, _, rfl, rfl, (show SqL _ _ _ _ by walk_at "sq"), (show atI _ _ = some _ by walk_at "at"), ?_⟩ | refine ⟨_, _, _, _, rfl, rfl, (show SqT _ _ _ _ by walk_at "sqT"), (show atI _ _ = some _ by walk_at "at"), ?_⟩ | refine ⟨_, _, rfl, .inl (show SqL _ _ _ _ by walk_at "sq"), ?_⟩ | refine ⟨_, _, rfl, .inr (show SqT _ _ _ _ by walk_at "sqT"), ?_⟩ | refine ⟨_, _, rfl, (show SqL _ _ _ _ by walk_at "sq"), ?_⟩ | refine And.intro ⟨_, (show SqL _ _ _ _ by walk_at "sq")⟩ ?_ | refine And.intro (.inl ⟨rfl, _, (show SqL _ _ _ _ by walk_at "sq")⟩) ?_ | refine ⟨_, _, _, _, rfl, (show Kq _ _ _ _ by walk_at "ty"), (show kitOne _ _ _ = some _ by walk_at "kit"), ?_⟩ | refine ⟨_, _, rfl, ?_⟩ | fail)
local macro_rules | `(tactic| walk_at "w") => `(tactic| repeat walk_at "s")
local macro_rules | `(tactic| walk_at "if") => `(tactic| first | refine zA ?_ | refine um ?_ | refine ifN ?_ | refine ifI (fun hc => ?_) (fun hc => ?_) | refine ifD (fun hc => ?_) (fun hc => ?_) | refine ifB (fun hc => ?_) (fun hc => ?_) | fail)
local macro_rules | `(tactic| walk_at "go") => `(tactic| repeat' (first | walk_at "if" | walk_at "s" | fail))
local macro_rules | `(tactic| walk_at "nw") => `(tactic| (generalize hE : upd _ _ _ = Hn; replace O := Ow.mkE O (by assumption) hE rfl; clear hE))
local macro_rules | `(tactic| walk_at "pt") => `(tactic| (generalize hE : upd _ _ _ = Hn; (first | replace O := Ow.yI O 0 rfl hE rfl | replace O := Ow.yI O 1 rfl hE rfl | replace O := Ow.yI O 2 rfl hE rfl | replace O := Ow.yI O 3 rfl hE rfl | replace O := Ow.yI O 4 rfl hE rfl | replace O := Ow.yI O 5 rfl hE rfl | replace O := Ow.yI O 6 rfl hE rfl | replace O := Ow.yI O 7 rfl hE rfl); clear hE; (try simp only [List.set_cons_zero, af5] at O)))
local macro_rules | `(tactic| walk_at "er") => `(tactic| simp only [List.eraseIdx_cons_zero, List.eraseIdx_cons_succ] at O)
local macro_rules | `(tactic| walk_at "jn") => `(tactic| simp only [List.cons_append, List.nil_append] at O)
local macro_rules | `(tactic| walk_at "i") => `(tactic| ((focus (intro vs H Q E h; cases h <;> (subst_vars; rfl))); intro cdv A outer s H vs Q E hr h))
local macro_rules | `($a >=> $b) => `(@adG _ _ _ _ _ $a $b rfl)
local macro_rules | `($a <|> $b) => `(@aG _ _ _ _ _ $a $b)
local macro_rules | `(~~~$a) => `(@aK _ _ _ $a)
local macro_rules | `($c ||| $k) => `(Hs P w K mg base $c $k)
local macro_rules | `($d <* $g <* $a) => `(DW $g hr.m rfl ($d).m ($d).F.kp ($d).b .nil oO $a)
local macro_rules | `($d *> $g *> $a) => `(DW $g hr.m rfl ($d).m ($d).F.kp ($d).b .nil Bw $a)
local macro_rules | `($n >> $s) => `(bG (i:=$n) ($s).nd rfl (Or.inl rfl))
local macro_rules | `($n <$> $s <$> $e) => `(JV (i:=$n) ($s).nd rfl (Or.inl rfl) $e)
variable {P:Program}{w:World}{K:PySem.W.Frag}{mg:Str->Option Value}{base:Heap}{T:dX}{C CR b10 b11 b12 b13 b14 b15 b5 b6 b7 b8 b9 cD cF cH cN cP cS cY f1 f2:Addr}{c:Ec}
def top (i:Nat):Stmt:=PySem.Challenge.pw_sluice_k67_moves_refused.main.body.getD i (.Pass ⟨0,0,0,0⟩)
theorem lD (n:Nat)(x:Int):(List.replicate n [V.int x]).flatten=(List.replicate n x).map V.int:=by rw [List.map_replicate];exact ZR _ _
variable {j:Nat}
theorem Bb {w cur:List Int}{c z:Int}(hz:w[j]?=some z):Tn.bump cur (w.take (j+1)) c=(Tn.bump cur (w.take j) c).set z.toNat ((Tn.bump cur (w.take j) c).getD z.toNat 0+c):=by
 rw [afo,hz];exact Tn.Qn _ _ _ _
abbrev Dz:Stmt:=top 30
theorem Gd:aD ["below","reach","way"] ["below","reach"] (ao Dz):=by walk_at "sc"
inductive Tf (K:PySem.W.Frag)(vs:List V)(H:Hp)(Q:VK)(E:XK):Prop
 | mk (a:Addr)(r:List Int)(p:Int)(_:vs=[.ref a,.int p])(_:SqL K H a (r.map V.int))(_:Rv.iG r)(_:0<=p)(_:p<r.length)(_:r.length<=900)(_:acR H (fun xs=>xs=(Rv.walk r p).map V.int) Q)
theorem Qq (pre:List Int)(z:Int):atI ((pre++[z]).map V.int) (-1)=some (V.int z):=by
 rw [aeN];exact SX _ _
variable {a1 a3 a5:TS}{D:Ends}{σ:St}{H:Hp}
theorem sl_1 {a2:TT}(h:let z4:TS:=a3;let z6:TS:=a5;let z7:TS:=dD (Ma a2 z4) z6;(dD a1 z7) D σ H):(dD a1 (dD (Ma a2 a3) a5)) D σ H:=h
variable {a4 a6 a8:TS}
theorem sl_2 {a2:TI}{a3:TG}{a5:TT}{a11:TS}(h:let z7:TS:=a6;let z9:TS:=Cd a5 z7 a8;let z10:TS:=dD a4 z9;let z12:TS:=a11;let z13:TS:=dD (za a2 a3 z10) z12;(dD a1 z13) D σ H):(dD a1 (dD (za a2 a3 (dD a4 (Cd a5 a6 a8))) a11)) D σ H:=h
variable {a2 a9:TS}
theorem sl_3 {a1:TT}{a5:TT}(h:let z3:TS:=a2;let z7:TS:=a6;let z10:TS:=a9;let z11:TS:=dD (Cd a5 z7 a8) z10;(dD (Cd a1 z3 a4) z11) D σ H):(dD (Cd a1 a2 a4) (dD (Cd a5 a6 a8) a9)) D σ H:=h
theorem sl_4 {a2:TT}(h:let z4:TS:=a3;let z7:TS:=a6;let z8:TS:=dD (Cd a2 z4 a5) z7;(dD a1 z8) D σ H):(dD a1 (dD (Cd a2 a3 a5) a6)) D σ H:=h
theorem sl_5 {a1:TT}(h:let z3:TS:=a2;let z6:TS:=a5;(dD (Cd a1 z3 a4) z6) D σ H):(dD (Cd a1 a2 a4) a5) D σ H:=h
theorem adt (h:let z3:TS:=a2;(dD a1 z3) D σ H):(dD a1 a2) D σ H:=h
variable {a7:TS}
theorem sl_7 {a2:TI}{a3:TG}{a4:TT}(h:let z6:TS:=a5;let z8:TS:=Cd a4 z6 a7;let z10:TS:=a9;let z11:TS:=dD (za a2 a3 z8) z10;(dD a1 z11) D σ H):(dD a1 (dD (za a2 a3 (Cd a4 a5 a7)) a9)) D σ H:=h
theorem sl_8 {a2:TT}{a6:TT}{a10:TS}(h:let z4:TS:=a3;let z8:TS:=a7;let z11:TS:=a10;let z12:TS:=dD (Cd a6 z8 a9) z11;let z13:TS:=dD (Cd a2 z4 a5) z12;(dD a1 z13) D σ H):(dD a1 (dD (Cd a2 a3 a5) (dD (Cd a6 a7 a9) a10))) D σ H:=h
theorem aeg {a2:TI}{a3:TG}{a4:TI}{a5:TG}(h:let z7:TS:=a6;let z8:TS:=za a4 a5 z7;let z10:TS:=a9;let z11:TS:=dD (za a2 a3 z8) z10;(dD a1 z11) D σ H):(dD a1 (dD (za a2 a3 (za a4 a5 a6)) a9)) D σ H:=h
theorem ZL (h:let z4:TS:=a3;let z5:TS:=dD a2 z4;(dD a1 z5) D σ H):(dD a1 (dD a2 a3)) D σ H:=h
theorem adA {a1:TI}{a2:TG}(h:let z4:TS:=a3;(za a1 a2 z4) D σ H):(za a1 a2 a3) D σ H:=h
theorem adz {a3:TI}{a4:TG}(h:let z7:TS:=a6;let z8:TS:=dD a5 z7;let z9:TS:=za a3 a4 z8;let z10:TS:=dD a2 z9;(dD a1 z10) D σ H):(dD a1 (dD a2 (za a3 a4 (dD a5 a6)))) D σ H:=h
theorem ady {a2:TI}{a3:TG}{a4:TT}{a11:TS}{a13:TS}(h:let z8:TS:=a7;let z9:TS:=dD a6 z8;let z10:TS:=dD a5 z9;let z12:TS:=Cd a4 z10 a11;let z14:TS:=a13;let z15:TS:=dD (za a2 a3 z12) z14;(dD a1 z15) D σ H):(dD a1 (dD (za a2 a3 (Cd a4 (dD a5 (dD a6 a7)) a11)) a13)) D σ H:=h
theorem adx {a2:TI}{a3:TG}(h:let z5:TS:=a4;let z7:TS:=a6;let z8:TS:=dD (za a2 a3 z5) z7;(dD a1 z8) D σ H):(dD a1 (dD (za a2 a3 a4) a6)) D σ H:=h
theorem adw {a4:TI}{a5:TG}{a8:TI}{a9:TG}{a10:TS}{a15:TS}(h:let z11:TS:=a10;let z12:TS:=za a8 a9 z11;let z13:TS:=dD a7 z12;let z14:TS:=dD a6 z13;let z16:TS:=a15;let z17:TS:=dD (za a4 a5 z14) z16;let z18:TS:=dD a3 z17;let z19:TS:=dD a2 z18;(dD a1 z19) D σ H):(dD a1 (dD a2 (dD a3 (dD (za a4 a5 (dD a6 (dD a7 (za a8 a9 a10)))) a15)))) D σ H:=h
theorem adv {a2:TI}{a3:TG}(h:let z6:TS:=a5;let z7:TS:=dD a4 z6;let z9:TS:=a8;let z10:TS:=dD (za a2 a3 z7) z9;(dD a1 z10) D σ H):(dD a1 (dD (za a2 a3 (dD a4 a5)) a8)) D σ H:=h
theorem adu {a3:TI}{a4:TG}{a15:TS}(h:let z10:TS:=a9;let z11:TS:=dD a8 z10;let z12:TS:=dD a7 z11;let z13:TS:=dD a6 z12;let z14:TS:=dD a5 z13;let z16:TS:=a15;let z17:TS:=dD (za a3 a4 z14) z16;let z18:TS:=dD a2 z17;(dD a1 z18) D σ H):(dD a1 (dD a2 (dD (za a3 a4 (dD a5 (dD a6 (dD a7 (dD a8 a9))))) a15))) D σ H:=h
variable {Ew:Addr}{Fb:FuncData}(eY:Df K mg "way_of" Dz ["below","reach"] Ew Fb)
include eY in
theorem abu (C:Mth mg):(CX0|||1) Ew Fb ["below","reach"] (Tf K):=by
 obtain ⟨tM,hMOUTH⟩:=C.MOUTH;refine eY.F.ok Gd ?_ ?_;walk_at "i";obtain ⟨a,r,p,rfl,hS,hR,p0,p1,hn,q⟩:=h;refine ⟨_,(aG (2<$>Gd<$>(bF (aq (pv 1) ak)))
  (aG (DN ae7 (aQ zX (bD aM (pv 0) (bD aM (pv 2) (xP nF au) (fun _ _=>rfl)) (fun _ _=>rfl)) (dY (v:=.int (-1)) rfl hMOUTH ⟨_,rfl⟩) (bx _))
   (aK (aR (m7 ae3 ae5 ae6 bJ (pv 2) (aq (bD aM (pv 0) (bD aM (pv 2) (xP nF au) (fun _ _=>rfl)) (fun _ _=>rfl)) ak)))))
  (aK (aL (pv 2))))),?_⟩
 refine sl_1 ?_;intro zu0 zu1 zu2;refine ⟨_,rfl,(by show 1<=sizeLine;decide),fun lw hlw=>?_⟩;refine ⟨fun m σ H'=>∃ (pre:List Int)(z:Int),σ=[some (.ref a),some (.int p),some (.ref lw)]/\Same H H'/\H' lw=some (.lst ((pre++[z]).map V.int))/\0<=z/\z<r.length/\pre++Rv.walk r z=Rv.walk r p/\m=Rv.mea r z,
  ⟨_,[],p,rfl,(Same.refl H).upd hlw,aZ,p0,p1,rfl,rfl⟩,?_⟩
 rintro m σ H2 ⟨pre,z,rfl,s2,h2,z0,z1,e,rfl⟩;have g:=Rv.jz z0 z1;have hlen:pre.length+(Rv.walk r z).length<=r.length+1:=by
  have:=Rv.Jl r p;rw [<- e,ae1] at this;exact this
 refine ⟨_,rfl,_,rfl,_,rfl,lw,_,_,_,rfl,rfl,SqL.of h2,Qq pre z,a,_,_,_,rfl,rfl,s2.seq hS,mH z0 g,rfl,_,rfl,?_⟩;rcases hR.step z0 z1 with hm| ⟨n0,n1⟩
 ·rw [hm];refine aaz rfl ?_;refine ⟨_,rfl,q lw H2 _ s2 hlw h2 ?_⟩;have ew:Rv.walk r z=[z]:=by rw [Rv.fD hR z0 z1,hm,Rv.mz]
  rw [<- e,ew]
 ·have hd:(!decide (V.int (Rv.nxt r z)=V.int (-1)))=true:=by
   have:¬ Rv.nxt r z=-1:=by omega
   simp [this]
  rw [hd];refine zA ?_;refine ⟨fun σ' H'=>∃ m',m'<Rv.mea r z/\∃ (pre:List Int)(z:Int),σ'=[some (.ref a),some (.int p),some (.ref lw)]/\Same H H'/\H' lw=some (.lst ((pre++[z]).map V.int))/\0<=z/\z<r.length/\pre++Rv.walk r z=Rv.walk r p/\m'=Rv.mea r z,fun _ _ x=>x,?_⟩;refine ⟨_,rfl,.inl ⟨rfl,_,SqL.of h2⟩,_,rfl,_,rfl,_,rfl,lw,_,_,_,rfl,rfl,SqL.of h2,Qq pre z,a,_,_,_,rfl,rfl,s2.seq hS,mH z0 g,lw,_,_,rfl,rfl,h2,aH ?_,?_⟩
  ·rw [ac5,ae1];have:1<=(Rv.walk r z).length:=by rw [Rv.fD hR z0 z1];exact Nat.succ_le_succ (afs _)
   show pre.length+1<=_;omega
  ·refine ⟨_,Rv.Ue hR z0 z1,pre++[z],Rv.nxt r z,rfl,s2.upd hlw,?_,n0,n1,?_,rfl⟩
   ·rw [aZ,aeN (l₁:=pre++[z])];rfl
   ·rw [agl];show pre++(z::Rv.walk r (Rv.nxt r z))=_;rw [<- Rv.fD hR z0 z1];exact e
abbrev jX:Stmt:=top 28
theorem iu:aD ["below","start","reach","step"] ["below","start"] (ao jX):=by walk_at "sc"
inductive JK (K:PySem.W.Frag)(vs:List V)(H:Hp)(Q:VK)(E:XK):Prop
 | mk (a:Addr)(r:List Int)(i:Nat)(_:vs=[.ref a,.int (i:Int)])(_:SqL K H a (r.map V.int))(_:Rv.inB r)(_:i<r.length)(_:r.length<=900)(_:Q (.bl (decide (Rv.xg r r.length (i:Int)=-1))) H)
structure Cst (mg:Str->Option Value):Prop where
 MOUTH:∃ t,mg "MOUTH"=some (.int (-1) t)
 MOST_REACHES:∃ t,mg "MOST_REACHES"=some (.int 40 t)
variable {jZ:Addr}{j5:FuncData}(cI:Df K mg "comes_to_mouth" jX ["below","start"] jZ j5)
include cI in
theorem Rj (B:Blt mg)(C:Cst mg):(CX0|||1) jZ j5 ["below","start"] (JK K):=by
 obtain ⟨tM,hMOUTH⟩:=C.MOUTH
 refine cI.F.ok iu ?_ ?_
 walk_at "i"
 obtain ⟨a,r,i,rfl,hS,hB,hi,hn,q⟩:=h
 refine ⟨_,(aG (2<$>iu<$>(pv 1))
  (aG (fJ ae7 rfl (nU rfl B.range (aq (aB aC rfl B.len aeZ (aq (pv 0) ak)) ak)) (3>>iu)
   (aG (2<$>iu<$>(bD aM (pv 0) (pv 2) (fun _ _=>rfl)))
   (aK (eO (aQ Ef (pv 2) (dY (v:=.int (-1)) rfl hMOUTH ⟨_,rfl⟩) (bx _))
    (aK (aL oN))
    aX))))
  (aK (aL oN)))),?_⟩
 refine sl_2 ?_
 intro zu0 zu1 zu2 zu3 zu4
 refine ⟨_,rfl,_,rfl,a,_,rfl,.inl hS,_,rfl,by rw [ac5];omega,by rw [ac5];omega,?_⟩
 rw [ac5,aeT]
 refine wI (n:=r.length) (fun j σ H2=>∃ (v:Option V),σ=[some (.ref a),some (.int (i:Int)),some (.int (Rv.xg r j (i:Int))),v]/\H=H2/\(j=0\/Rv.xg r j (i:Int)≠-1)) ⟨none,rfl,rfl,.inl rfl⟩ ?_ ?_
 ·rintro j σ H2 hj ⟨v,rfl,rfl,hne⟩
  obtain ⟨b0,b1⟩:=Rv.J8 hB (p:=(i:Int)) (by omega) (by omega) j
  have hne':Rv.xg r j (i:Int)≠-1:=by
   rcases hne with e| e
   ·subst e
    show (i:Int)≠-1
    omega
   ·exact e
  have g:=Rv.jz (r:=r) (p:=Rv.xg r j (i:Int)) (by omega) b1
  have es:Rv.nxt r (Rv.xg r j (i:Int))=Rv.xg r (j+1) (i:Int):=by
   rw [Rv.tO];unfold Rv.stp;rw [if_neg hne']
  rw [es] at g
  refine ⟨_,rfl,_,rfl,a,_,_,_,rfl,rfl,hS,mH (by omega) g,_,rfl,rfl,_,rfl,?_⟩
  refine ab4 (fun h=>?_) (fun h=>?_)
  ·have e:Rv.xg r (j+1) (i:Int)=-1:=by
    have:=of_decide_eq_true h
    exact V.int.inj this
   have e2:Rv.xg r r.length (i:Int)=-1:=by
    have:=Rv.Jw r (i:Int) e (r.length - (j+1))
    rw [show j+1+(r.length - (j+1))=r.length by omega] at this
    exact this
   rw [decide_eq_true e2] at q
   exact q
  ·refine ⟨_,rfl,rfl,.inr fun e=>h (decide_eq_true (by rw [e]))⟩
 ·rintro σ H2 ⟨v,rfl,rfl,hne⟩
  have e:¬ Rv.xg r r.length (i:Int)=-1:=by
   rcases hne with e| e
   ·omega
   ·exact e
  rw [decide_eq_false e] at q
  exact q
abbrev nP:Stmt:=top 29
theorem HX:aD ["below"] ["below"] (ao nP):=by walk_at "sc"
inductive TF (K:PySem.W.Frag)(vs:List V)(H:Hp)(Q:VK)(E:XK):Prop
 | mk (a:Addr)(r:List Int)(_:vs=[.ref a])(_:SqL K H a (r.map V.int))(_:r.length<=900)(_:∀ H',Same H H'->Q (.bl (Rv.isR r)) H')
variable {α:Type}
theorem Kp {p:α->Bool}{l:List α}:(l.map p).all id=l.all p:=by
 rw [List.all_map];rfl
theorem aaB (r:List Int):(r.all fun x=>decide (-1<=x) && decide (x<(r.length:Int)))=decide (Rv.inB r):=by
 rw [afI];simp only [afA,afi,decide_eq_true_eq];exact Iff.rfl
variable (pX:(CX0|||1) jZ j5 ["below","start"] (JK K))
variable {xZ:Addr}{yq:FuncData}(jD:Df K mg "is_river" nP ["below"] xZ yq)
include cI pX jD in
theorem abJ (B:Blt mg)(C:Cst mg):(CX0|||2) xZ yq ["below"] (TF K):=by
 obtain ⟨tM,hMOUTH⟩:=C.MOUTH
 obtain ⟨tR,En⟩:=C.MOST_REACHES
 refine jD.F.ok HX ?_ ?_
 walk_at "i"
 obtain ⟨a,r,rfl,hS,hn,q⟩:=h
 refine ⟨_,(aG (eO (nQ (tV wB wB au (aB aC rfl B.len aeZ (aq (pv 0) ak)) (dY (v:=.int (40)) rfl En ⟨_,rfl⟩)))
   (aK (aL oN))
   aX)
  (aG (eO (nQ (j7 (aB (wM rfl) rfl B.all af7 (aq (gF (ao nP) rfl ["below"] rfl ["reach","below"] [none,some 0] (by decide+kernel) (by decide+kernel) (by decide+kernel) rfl (bU (pv 0)) (fun _ _ _=>(bG (i:=0) (show (["reach","below"]:List Str).Nodup by decide+kernel) rfl (Or.inl rfl))) (fun _ _ _=>gB) (fun _ _ _=>(DR wB Ed (dY (v:=.int (-1)) rfl hMOUTH ⟨_,rfl⟩) (pv 0) (aB (wL (K:=K) rfl) rfl B.len aeZ (aq (pv 1) ak))))) ak))))
   (aK (aL oN))
   aX)
  (aK (aL (aB (wM rfl) rfl B.all af7 (aq (gF (ao nP) rfl ["below"] rfl ["start","below"] [none,some 0] (by decide+kernel) (by decide+kernel) (by decide+kernel) rfl (nU rfl B.range (aq (aB aC rfl B.len aeZ (aq (pv 0) ak)) ak)) (fun _ _ _=>(bG (i:=0) (show (["start","below"]:List Str).Nodup by decide+kernel) rfl (Or.inl rfl))) (fun _ _ _=>gB) (fun _ _ _=>(cI<*pX<*(aq (pv 1) (aq (pv 0) ak))))) ak)))))),?_⟩
 refine sl_3 ?_
 intro zu0 zu1 zu2 zu3
 refine ⟨_,rfl,a,_,rfl,.inl hS,_,_,rfl,rfl,_,rfl,?_⟩
 rw [ac5]
 have no1:¬ (1<=r.length/\r.length<=40)->Q (.bl false) H:=fun h=>by
  have e:Rv.isR r=false:=by unfold Rv.isR;rw [decide_eq_false h];rfl
  have:=q H (Same.refl H)
  rw [e] at this
  exact this
 refine ab4 (fun h1=>⟨_,_,rfl,rfl,_,rfl,?_⟩) (fun h1=>⟨_,rfl,?_⟩)
 case refine_2=>exact zA (no1 fun z=>h1 (decide_eq_true (by omega)))
 have g1:=of_decide_eq_true h1
 by_cases h2:r.length<=40
 case neg =>
  rw [decide_eq_false (by omega)]
  exact zA (no1 fun z=>h2 z.2)
 rw [decide_eq_true (by omega)]
 refine um ?_
 refine ⟨_,rfl,a,rfl,⟨_,hS⟩,fun acc hacc=>?_⟩
 refine d8 (K:=K) (a:=a) (xs:=r.map V.int) (fun i τ H2=>∃ v,τ=[v,some (.ref a)]/\Same H H2/\H2 acc=some (.lst (((r.take i).map fun x=>decide (-1<=x) && decide (x<(r.length:Int))).map V.bl)))
  ⟨none,rfl,(Same.refl H).upd hacc,by rw [aZ];rfl⟩ (fun i τ H2 _ ⟨_,_,s2,_⟩=>s2.seq hS) ?_ ?_
 ·rintro i y τ H2 hi ⟨v,rfl,s2,h2'⟩
  obtain ⟨z,hz,rfl⟩:=ints_get hi
  have hil:i<r.length:=(aeJ.mp hz).1
  have e:∀ b:Bool,b=(decide (-1<=z) && decide (z<(r.length:Int)))->((r.take i).map fun x=>decide (-1<=x) && decide (x<(r.length:Int))).map V.bl++[V.bl b]=((r.take (i+1)).map fun x=>decide (-1<=x) && decide (x<(r.length:Int))).map V.bl:=fun b hb=>by
   rw [afo,hz,aeN,aeN,hb];rfl
  have hsz:(((r.take i).map fun x=>decide (-1<=x) && decide (x<(r.length:Int))).map V.bl).length<sizeLine:=aH (by rw [ac5,ac5,ae0];omega)
  refine Lj ?_
  refine ⟨_,rfl,_,_,rfl,rfl,_,rfl,?_⟩
  refine ab4 (fun h3=>?_) (fun h3=>?_)
  ·refine ⟨_,rfl,a,_,rfl,.inl (s2.seq hS),_,_,rfl,rfl,_,h2',hsz,_,rfl,s2.upd hacc,?_⟩
   rw [aZ,e _ (by rw [h3,ac5];rfl)]
  ·refine ⟨_,h2',hsz,_,rfl,s2.upd hacc,?_⟩
   have h3':decide (-1<=z)=false:=by simpa using h3
   rw [aZ,e false (by rw [h3'];rfl)]
 ·rintro τ H2 ⟨v,rfl,s2,h2'⟩
  rw [ac5,agf] at h2'
  refine ⟨acc,_,rfl,SqL.of h2',_,rfl,?_⟩
  rw [Kp,aaB]
  by_cases hB:Rv.inB r
  case neg =>
   rw [decide_eq_false hB]
   refine zA ?_
   have e:Rv.isR r=false:=by unfold Rv.isR;rw [decide_eq_false hB,Bool.and_false];rfl
   have:=q H2 s2
   rw [e] at this
   exact this
  rw [decide_eq_true hB]
  refine um ?_
  refine ⟨_,rfl,a,_,rfl,.inl (s2.seq hS),_,rfl,by rw [ac5];omega,by rw [ac5];omega,fun ac2 hac2=>?_⟩
  rw [ac5,aeT]
  have nac2:H ac2=none:=s2.free hac2
  refine yw (fun i τ H3=>∃ v,τ=[v,some (.ref a)]/\Same H H3/\H3 ac2=some (.lst (((List.range i).map fun (j:Nat)=>decide (Rv.xg r r.length (j:Int)=-1)).map V.bl))) ⟨none,rfl,s2.upd nac2,by rw [aZ];rfl⟩ ?_ ?_
  ·rintro i τ H3 hi ⟨v,rfl,s3,h3⟩
   rw [show (0:Int)+(i:Int)=(i:Int) by omega]
   refine Lj ?_
   refine ⟨_,rfl,_,rfl,a,r,i,rfl,s3.seq hS,hB,hi,hn,?_⟩
   refine ⟨_,h3,aH (by rw [ac5,ac5,afz];omega),_,rfl,s3.upd nac2,?_⟩
   rw [aZ,agk,aeN,aeN];rfl
  ·rintro τ H3 ⟨v,rfl,s3,h3⟩
   refine ⟨ac2,_,rfl,SqL.of h3,?_⟩
   have e:(((List.range r.length).map fun (j:Nat)=>decide (Rv.xg r r.length (j:Int)=-1)).all id)=Rv.isR r:=by
    unfold Rv.isR
    rw [Kp,decide_eq_true (show 1<=r.length/\r.length<=40 from ⟨by omega,h2⟩),decide_eq_true hB,Bool.true_and,Bool.true_and,afI]
    simp only [afA,afk,decide_eq_true_eq]
   rw [e]
   exact q H3 s3
abbrev xJ:Stmt:=top 5
theorem HW:aD ["amount"] ["amount"] (ao xJ):=by walk_at "sc"
inductive Jx (vs:List V)(H:Hp)(Q:VK)(E:XK):Prop
 | mk (z:Int)(_:vs=[.int z])(_:∀ b:Bool,(b=true↔(0<=z/\z<=1000000000000))->Q (.bl b) H)
variable {xY:Addr}{yp:FuncData}(c7:Df K mg "is_water" xJ ["amount"] xY yp)
include c7 in
theorem Ra (CW:∃ t,mg "MOST_WATER"=some (.int 1000000000000 t)):(CX0|||1) xY yp ["amount"] Jx:=by
 obtain ⟨tW,Iw⟩:=CW;refine c7.F.ok HW ?_ ?_;walk_at "i";obtain ⟨z,rfl,q⟩:=h;refine ⟨_,(aK (aL (DR wB wB au (pv 0) (dY (v:=.int (1000000000000)) rfl Iw ⟨_,rfl⟩)))),?_⟩;walk_at "go"
 all_goals refine q _ ?_
 all_goals simp only [decide_eq_true_eq,afX,true_iff,false_iff]
 all_goals omega
abbrev qC:Stmt:=top 36
theorem jc:aD ["below","one","day","start","back","most"] ["below","one"] (ao qC):=by walk_at "sc"
def p8 (r:List Int)(l:Lic):Prop:=(0<=l.day/\l.day<=1000000/\0<=l.start/\l.start<r.length/\0<=l.most/\l.most<=1000000000000)/\(l.back=-1\/l.back∈(Rv.walk r l.start).drop 1)
inductive JD (K:PySem.W.Frag)(T:dX)(vs:List V)(H:Hp)(Q:VK)(E:XK):Prop
 | mk (a t:Addr)(r:List Int)(l:Lic)(_:vs=[.ref a,.ref t])(_:SqL K H a (r.map V.int))(_:Rv.iG r)(_:r.length<=900)(_:SqT K H t (zG l))(_:TabsOk T H)(_:∀ (b:Bool)(H':Hp),aJ T H H'->(b=true↔p8 r l)->Q (.bl b) H')
variable (lA:(CX0|||1) xY yp ["amount"] Jx)
variable (uf:(CX0|||1) Ew Fb ["below","reach"] (Tf K))
variable {rE:Addr}{sE:FuncData}(cW:Df K mg "is_licence" qC ["below","one"] rE sE)
include eY c7 lA uf cW in
theorem Rg (B:Blt mg)(C:Mth mg)(CD:∃ t,mg "LAST_DAY"=some (.int 1000000 t)):(CX0|||2) rE sE ["below","one"] (JD K T):=by
 obtain ⟨tM,hMOUTH⟩:=C.MOUTH
 obtain ⟨tD,Pn⟩:=CD
 refine cW.F.ok jc ?_ ?_
 walk_at "i"
 obtain ⟨a,t,r,l,rfl,hA,hR,hn,hT,tk,q⟩:=h
 have hml:((r.map V.int).length:Int)=(r.length:Int):=by rw [ac5]
 have O:=Ow.refl tk
 have s0:=O.same
 have no:¬ (0<=l.day/\l.day<=1000000/\0<=l.start/\l.start<r.length/\0<=l.most/\l.most<=1000000000000)->Q (.bl false) H:=fun h=>q _ _ O.same ⟨(fun e=>by cases e),fun z=>absurd z.1 h⟩
 refine ⟨_,(aG (gC (pv 1) (iB rfl (aA (2>>jc) (aA (3>>jc) (aA (4>>jc) (aA (5>>jc) bN))))))
  (aG (eO (nQ (PW.pt (pw_and (tV wB wB au (pv 2) (dY (v:=.int (1000000)) rfl Pn ⟨_,rfl⟩)) (pw_and (tV wB Ed au (pv 3) (aB aC rfl B.len aeZ (aq (pv 0) ak))) (pw_and1 (j7 (c7<*lA<*(aq (pv 5) ak))))))))
   (aK (aL oN))
   aX)
  (aK (aL (adF (oM Ef (pv 4) (dY (v:=.int (-1)) rfl hMOUTH ⟨_,rfl⟩) (bx _)) (Nx (oM Gu (pv 4) (tY xr (eY<*uf<*(aq (pv 0) (aq (pv 3) ak))) (uU au) zU) (by rfl)))))))),?_⟩
 refine sl_4 ?_
 intro zu0 zu1 zu2
 refine ⟨_,rfl,t,_,rfl,hT,rfl,_,_,rfl,_,_,rfl,_,_,rfl,_,_,rfl,rfl,?_⟩
 walk_at "go"
 all_goals first| (refine no ?_;omega) | skip
 intro b hb
 walk_at "go"
 ·have hm:=hb.mp (by assumption)
  have num:0<=l.day/\l.day<=1000000/\0<=l.start/\l.start<r.length/\0<=l.most/\l.most<=1000000000000:=by omega
  exact q _ _ O.same ⟨fun _=>⟨num,.inl (by omega)⟩,fun _=>rfl⟩
 ·have hm:=hb.mp (by assumption)
  have num:0<=l.day/\l.day<=1000000/\0<=l.start/\l.start<r.length/\0<=l.most/\l.most<=1000000000000:=by omega
  refine ⟨a,r,l.start,rfl,hA,hR,by omega,by omega,hn,O.got fun lw H2 xs O e=>?_⟩
  subst e
  refine ⟨1,rfl,lw,_,rfl,O.sq 0,fun l1 h1=>?_⟩
  walk_at "nw"
  rw [show GP ((Rv.walk r l.start).map V.int) (some 1) none=((Rv.walk r l.start).drop 1).map V.int from Fe _ 1] at O
  refine ⟨l1,_,rfl,.inl (O.sq 0),rfl,wJ _,?_⟩
  rw [if_neg aeR,Ek]
  refine q _ _ O.same ?_
  rw [decide_eq_true_iff]
  exact ⟨fun h=>⟨num,.inr h⟩,fun h=>h.2.resolve_left (by omega)⟩
 ·refine no fun z=>?_
  have:=hb.mpr ⟨z.2.2.2.2.1,z.2.2.2.2.2⟩
  simp_all
abbrev m5:Stmt:=top 83
theorem zM:aD ["script","k"] ["script","k"] (ao m5):=by walk_at "sc"
inductive M5 (K:PySem.W.Frag)(vs:List V)(H:Hp)(Q:VK)(E:XK):Prop
 | mk (a:Addr)(ns:List Int)(k:Nat)(_:vs=[.ref a,.int (k:Int)])(_:SqL K H a (ns.map V.int))(_:Q (.int (ns.getD k 0)) H)
variable {ni:Addr}{nA:FuncData}(bH:Df K mg "_law_cell_at" m5 ["script","k"] ni nA)
include bH in
theorem aao (B:Blt mg):(CX0|||1) ni nA ["script","k"] (M5 K):=by
 refine bH.F.ok zM ?_ ?_
 walk_at "i"
 obtain ⟨a,ns,k,rfl,hS,q⟩:=h
 refine ⟨_,(aG (eO (aQ Ed (pv 1) (aB aC rfl B.len aeZ (aq (pv 0) ak)) (bx _))
   (aK (aL (bD aM (pv 0) (pv 1) (fun _ _=>rfl))))
   aX)
  (aK (aL au))),?_⟩
 refine sl_5 ?_
 intro zu0 zu1
 refine ⟨_,rfl,_,rfl,a,_,rfl,.inl hS,_,_,rfl,rfl,_,rfl,?_⟩
 refine ab4 (fun h=>?_) (fun h=>?_)
 ·have hk:k<ns.length:=by
   have:=of_decide_eq_true h
   rw [ac5] at this;omega
  have e:ns[k]?=some (ns.getD k 0):=by rw [aeM,aeD hk];rfl
  exact ⟨_,rfl,_,rfl,a,_,_,_,rfl,rfl,hS,bV e,q⟩
 ·have hk:¬ k<ns.length:=fun z=>h (decide_eq_true (by rw [ac5];omega))
  have e:ns.getD k 0=0:=by rw [aeM,afu (by omega)];rfl
  rw [e] at q
  exact q
abbrev oH:Stmt:=top 84
theorem ur:aD ["cell","k","mark"] ["cell","k"] (ao oH):=by walk_at "sc"
def peb (c k:Int):Int:=((c % 8589934583+4409)*(2*k+3)+90001*k) ^ 3 % 68719476731 / 32
theorem K9 (c k:Int)(h0:0<=k)(h1:k<=1000):((c % 8589934583+4409)*(2*k+3)+90001*k).natAbs<2 ^ 64:=by
 have a0:=af3 c (show (8589934583:Int)≠0 by decide);have a1:=afY c (show (0:Int)<8589934583 by decide);have hp:0<=(c % 8589934583+4409)*(2*k+3):=Int.mul_nonneg (by omega) (by omega);have hq:(c % 8589934583+4409)*(2*k+3)<=8589939000*2003:=Int.mul_le_mul (by omega) (by omega) (by omega) (by decide);omega
inductive Tp (vs:List V)(H:Hp)(Q:VK)(E:XK):Prop
 | mk (c k:Int)(_:vs=[.int c,.int k])(_:0<=k)(_:k<=1000)(_:Q (.int (peb c k)) H)
variable {o7:Addr}{pF:FuncData}(cg:Df K mg "_law_pebble" oH ["cell","k"] o7 pF)
include cg in
theorem abA:(CX0|||1) o7 pF ["cell","k"] Tp:=by
 refine cg.F.ok ur ?_ ?_;walk_at "i";obtain ⟨c,k,rfl,h0,h1,q⟩:=h;refine ⟨_,(aG (2<$>ur<$>(bA pW (bA JX (bA pW (bA ji (pv 0) au) au) (bA pW (bA JX au (pv 1)) au)) (bA JX au (pv 1))))
  (aK (aL (bA xR (bA ji (bA Cm (pv 2) au) au) au)))),?_⟩
 refine adt ?_;intro zu0;refine ⟨_,rfl,_,_,rfl,rfl,(by show (0:Int)<8589934583;decide),_,_,rfl,rfl,?_⟩;refine ⟨_,rfl,_,_,rfl,rfl,.inl ⟨by decide,by decide⟩,_,_,rfl,rfl,_,_,rfl,rfl,.inr ⟨by omega,by omega⟩,?_⟩;refine ⟨_,rfl,_,_,rfl,rfl,.inl ⟨by decide,by decide⟩,_,_,rfl,rfl,?_⟩;refine ⟨_,rfl,_,_,rfl,rfl,⟨by decide,by decide,K9 c k h0 h1⟩,_,_,rfl,rfl,(by show (0:Int)<68719476731;decide),_,_,rfl,rfl,⟨by decide,by decide⟩,?_⟩;exact q
abbrev jG:Stmt:=top 85
theorem zL:aD ["cell","many"] ["cell","many"] (ao jG):=by walk_at "sc"
def K6 (c:Int)(n:Nat):List Int:=(List.range n).map fun (i:Nat)=>peb c (i:Int)
theorem Nv (c:Int)(n:Nat):K6 c (n+1)=K6 c n++[peb c (n:Int)]:=by
 unfold K6;rw [agk,aeN];rfl
theorem DQ (c:Int)(n:Nat):(K6 c n).length=n:=by unfold K6;simp
inductive Mt (vs:List V)(H:Hp)(Q:VK)(E:XK):Prop
 | mk (c m:Int)(_:vs=[.int c,.int m])(_:-1000<=m)(_:m<=1000)(_:acR H (fun xs=>xs=(K6 c m.toNat).map V.int) Q)
variable (kY:(CX0|||1) o7 pF ["cell","k"] Tp)
variable {m9:Addr}{nu:FuncData}(bM:Df K mg "_law_pebbles" jG ["cell","many"] m9 nu)
include cg kY bM in
theorem aaf (B:Blt mg):(CX0|||2) m9 nu ["cell","many"] Mt:=by
 refine bM.F.ok zL ?_ ?_;walk_at "i";obtain ⟨c,m,rfl,h0,h1,q⟩:=h;refine ⟨_,(aK (aL (gF (ao jG) rfl ["cell","many"] rfl ["k","cell"] [none,some 0] (by decide+kernel) (by decide+kernel) (by decide+kernel) rfl (nU rfl B.range (aq (pv 1) ak)) (fun _ _ _=>(bG (i:=0) (show (["k","cell"]:List Str).Nodup by decide+kernel) rfl (Or.inl rfl))) (fun _ _ _=>gB) (fun _ _ _=>(cg<*kY<*(aq (pv 1) (aq (pv 0) ak))))))),?_⟩;refine ⟨_,rfl,m,rfl,by omega,by omega,fun acc hacc=>?_⟩;refine yw (fun i τ H2=>∃ v,τ=[v,some (.int c)]/\Same H H2/\H2 acc=some (.lst ((K6 c i).map V.int))) ⟨none,rfl,(Same.refl H).upd hacc,aZ⟩ ?_ ?_
 ·rintro i τ H2 hi ⟨v,rfl,s2,h2⟩;refine Lj ?_;refine ⟨_,rfl,_,rfl,c,_,rfl,by omega,by omega,?_⟩;refine ⟨_,h2,aH (by rw [ac5,DQ];omega),_,rfl,s2.upd hacc,?_⟩;rw [aZ,Nv,aeN,show (0:Int)+(i:Int)=(i:Int) by omega];rfl
 ·rintro τ H2 ⟨v,rfl,s2,h2⟩;exact q acc H2 _ s2 hacc h2 rfl
abbrev uL:Stmt:=top 88
theorem mD:aD ["river","start","walk","place"] ["river","start"] (ao uL):=by walk_at "sc"
inductive Mi (K:PySem.W.Frag)(T:dX)(vs:List V)(H:Hp)(Q:VK)(E:XK):Prop
 | mk (a:Addr)(r:List Int)(p:Int)(_:vs=[.ref a,.int p])(_:SqL K H a (r.map V.int))(_:Rv.iG r)(_:0<=p)(_:p<r.length)(_:r.length<=900)(_:TabsOk T H)(_:sY T H (fun xs=>xs=(Rv.walk r p).map V.int) Q)
variable {uZ:Addr}{vC:FuncData}(iT:Df K mg "_law_walk" uL ["river","start"] uZ vC)
include iT in
theorem aac:(CX0|||1) uZ vC ["river","start"] (Mi K T):=by
 refine iT.F.ok mD ?_ ?_;walk_at "i";obtain ⟨a,r,p,rfl,hS,hR,p0,p1,hn,tk,q⟩:=h;refine ⟨_,(2<$>mD<$>(@bF _ _ _ _ ak)<|>3<$>mD<$>(pv 1)<|>DN ae7 (aQ zX (pv 3) (@xP _ _ _ _ _ _ nF au) (bx _))
   (aR (m7 ae3 ae5 ae6 bJ (pv 2) (pv 3>=>ak))<|>(~~~(3<$>mD<$>(@bD _ _ _ _ _ _ _ aM (pv 0) (pv 3) (fun _ _=>rfl)))))<|>(~~~(@aL _ _ _ _ (pv 2)))),?_⟩
 have O:=Ow.refl tk;refine ⟨szl,fun lw hlw=>?_⟩;walk_at "new";intro H1 O;refine ⟨_,rfl,?_⟩;refine ⟨fun m σ H2=>∃ (pre:List Int)(z:Int),σ=[some (.ref a),some (.int p),some (.ref lw),some (.int z)]/\Ow T H H2 [(lw,.lst (pre.map V.int))]/\(z=-1\/(0<=z/\z<r.length))/\pre++Rv.walk r z=Rv.walk r p/\m=Rv.mea r z,
  ⟨_,[],p,rfl,O,.inr ⟨p0,p1⟩,rfl,rfl⟩,?_⟩
 rintro m σ H2 ⟨pre,z,rfl,O,hz,e,rfl⟩;refine ⟨_,rfl,_,rfl,rfl,_,rfl,?_⟩;rcases hz with rfl| ⟨z0,z1⟩
 ·refine aaz rfl ?_;rw [Rv.mz,agt] at e;exact ⟨_,rfl,O.ret 0 rfl q (by rw [e])⟩
 ·have hd:(!decide (V.int z=V.int (-1)))=true:=by
   have:¬ z=-1:=by omega
   simp [this]
  rw [hd];refine zA ?_;have hlen:pre.length+(Rv.walk r z).length<=r.length+1:=by
   have:=Rv.Jl r p;rw [<- e,ae1] at this;exact this
  refine ⟨fun σ' H'=>∃ m',m'<Rv.mea r z/\∃ (pre:List Int)(z:Int),σ'=[some (.ref a),some (.int p),some (.ref lw),some (.int z)]/\Ow T H H' [(lw,.lst (pre.map V.int))]/\(z=-1\/(0<=z/\z<r.length))/\pre++Rv.walk r z=Rv.walk r p/\m'=Rv.mea r z,fun _ _ x=>x,?_⟩;have g:=Rv.jz z0 z1;refine ⟨_,rfl,.inl ⟨rfl,_,O.sq 0⟩,_,rfl,lw,_,_,rfl,rfl,O.get 0,aH (by rw [ac5];omega),?_⟩;walk_at "put";intro H3 O;refine ⟨_,rfl,_,rfl,a,_,_,_,rfl,rfl,O.same.seq hS,mH z0 g,?_⟩;refine ⟨_,Rv.Ue hR z0 z1,pre++[z],Rv.nxt r z,rfl,?_,hR.step z0 z1,?_,rfl⟩
  ·rw [aeN];exact O
  ·rw [agl];show pre++(z::Rv.walk r (Rv.nxt r z))=_;rw [<- Rv.fD hR z0 z1];exact e
abbrev jO:Stmt:=top 31
theorem Dt:aD ["below"] ["below"] (ao jO):=by walk_at "sc"
def abh (K:PySem.W.Frag)(H:Hp)(a:Addr)(r:List Int):Prop:=SqL K H a (r.map V.int)/\Rv.iG r/\r.length<64
def gk:Pos × Str:=(⟨69,41,69,90⟩,"tops_first.<locals>.<lambda>")
def TT1 (P:Addr)(T:dX):Prop:=(P,gk.1,gk.2)∈T/\(T.map (·.1)).Nodup
inductive Ml (K:PySem.W.Frag)(T:dX)(vs:List V)(H:Hp)(Q:VK)(E:XK):Prop
 | mk (a:Addr)(r:List Int)(_:vs=[.ref a])(_:abh K H a r)(_:TabsOk T H)(_:sY T H (fun xs=>∃ p,xs=p.map (fun (i:Nat)=>V.int (i:Int))/\Rv.Qz r p) Q)
variable {r:List Int}{i:Nat}
theorem aaw (hi:i<64)(hj:j<64):HT.lexLt [-((Rv.walk r (i:Int)).length:Int),(i:Int)] [-((Rv.walk r (j:Int)).length:Int),(j:Int)]=decide (Rv.kap r i<Rv.kap r j):=by
 unfold Rv.kap;rw [HT.nW,HT.nW,HT.wF];rw [afI];split
 ·split
  ·simp only [afX,decide_eq_true_eq,false_iff];omega
  ·simp only [decide_eq_true_eq];omega
 ·simp only [decide_eq_true_eq];omega
variable {f:Addr}{fd:FuncData}
include eY uf in
theorem aad {pT cT:Addr}(D:Df K mg "tops_first" jO ["below"] f fd)(hcd:fd.code=.ref cT)(hhd:PySem.W.codeHdIn K cT pT=true)(hT:TT1 pT T)(hbm:BM mg base)(B:Blt mg):(CX0|||5) f fd ["below"] (Ml K T):=by
 refine D.F.okC hcd Dt (fun vs H Q E h=>?_) (fun A outer s H vs Q E hr h=>?_)
 ·obtain ⟨a,r,rfl,_⟩:=h;rfl
 ·obtain ⟨a,r,rfl,⟨hS,hR,h64⟩,tk,q⟩:=h;refine ⟨_,(aK (aL (yJ (P:=pT) (c:=cT) (p:="reach") (ao jO) rfl ["below"] rfl ["below"] [some 0] (by decide+kernel) (by decide+kernel) (by decide+kernel) rfl hbm rfl hhd (J5 hr.m) rfl B.sorted rfl B.range (aq (aB aC rfl B.len aeZ (aq (pv 0) ak)) ak) (fun A f cv s H hh hd hu=>(gD (aq (xP nF (aB (wL (K:=K) rfl) rfl B.len aeZ (aq (DW uf (J4 hr.m hh hd hu) rfl eY.m eY.F.kp eY.b .nil oO (aq (pv 1) (aq (pv 0) ak))) ak))) (aq (pv 0) ak)))) (fun _ _ _ _=>rfl)))),?_⟩;have hl:(r.map V.int).length=r.length:=ac5 _;refine ⟨_,rfl,a,_,rfl,.inl hS,r.length,by rw [hl],h64,tk _ hT.1,fun H2 k1 k2 t2=>?_⟩;have sT:aJ T H H2:=aJ.tab tk hT.1 hT.2 k1 t2;refine ⟨fun i ts H3=>aJ T H2 H3/\ts.length=i/\∀ (j:Nat)(t:Addr),ts[j]?=some t->H3 t=some (.tup ([-((Rv.walk r (j:Int)).length:Int),(j:Int)].map V.int)),fun i=>[-((Rv.walk r (i:Int)).length:Int),(i:Int)],Rv.kap r,1,⟨aJ.refl sT.t1,rfl,fun j t e=>by simp at e⟩,?_,?_,fun _ _=>rfl,fun i j hi hj=>aaw (by omega) (by omega),?_,?_⟩
  ·rintro i ts H3 hi ⟨s3,htl,h3⟩;refine ⟨fun c' e=>s3.keep c' _ e fun ps z=>(by cases z),?_⟩;refine ⟨_,rfl,_,rfl,a,r,(i:Int),rfl,(sT.trans s3).seq hS,hR,by omega,by omega,by omega,fun l H4 xs s4 n4 h4 e4=>?_⟩;subst e4;refine ⟨l,_,rfl,.inl (SqL.of h4),_,rfl,_,rfl,(by show 2<=sizeLine;decide),fun t ht=>⟨t,rfl,?_⟩⟩;have sT4:aJ T H2 H4:=s3.trans (aJ.of s3.t1 s4);have nt:H2 t=none:=sT4.free ht;refine ⟨sT4.upd nt (.inl ht),by rw [ae1,htl];rfl,fun j t' e=>?_⟩;by_cases hj:j<ts.length
   ·rw [afO hj] at e;have h4':=s4 _ _ (h3 j t' e);rw [aN (bR h4' ht)];exact h4'
   ·rw [agq (by omega)] at e;have hj0:j - ts.length=0:=by
     have:=(aeJ.mp e).1;simp at this;omega
    have hji:j=i:=by omega
    rw [hj0] at e;simp at e;subst e;subst hji;rw [aZ,ac5];rfl
  ·rintro ts H3 ⟨_,_,h3⟩;exact h3
  ·intro i j hi hj hij e;unfold Rv.kap at e;omega
  ·rintro ts H3 D' ys ⟨s3,_,_⟩ hD ⟨p,hp,rfl,ho⟩;have hbl:(jx r.length).length=r.length:=by unfold jx;simp
   rw [hbl] at hp;refine q D' _ _ ((sT.trans s3).upd ((sT.trans s3).free hD) (.inl hD)) ((sT.trans s3).free hD) aZ ⟨p,?_,hp,ho⟩;refine List.map_congr_left fun i hi=>?_;have hi':i<r.length:=afk.mp (hp.mem_iff.mp hi);show (jx r.length).getD i .non=_;unfold jx;rw [aeM,aeQ,afN hi'];rfl
abbrev qy:Stmt:=top 52
theorem oh:aD ["below","springs","flows","reach"] ["below","springs"] (ao qy):=by walk_at "sc"
inductive Tq (K:PySem.W.Frag)(T:dX)(vs:List V)(H:Hp)(Q:VK)(E:XK):Prop
 | mk (a b:Addr)(r s:List Int)(_:vs=[.ref a,.ref b])(_:abh K H a r)(_:SqL K H b (s.map V.int))(_:s.length=r.length)(_:TabsOk T H)(_:sY T H (fun xs=>xs=(Rv.nats r s).map V.int) Q)
variable {yM:Addr}{yN:FuncData}(jU:Df K mg "tops_first" jO ["below"] yM yN)
variable (yP:(CX0|||5) yM yN ["below"] (Ml K T))
variable {rC:Addr}{rY:FuncData}(cU:Df K mg "natural_of" qy ["below","springs"] rC rY)
include jU yP cU in
theorem abB (B:Blt mg)(C:Mth mg):(CX0|||6) rC rY ["below","springs"] (Tq K T):=by
 obtain ⟨tM,hMOUTH⟩:=C.MOUTH
 refine cU.F.ok oh ?_ ?_
 walk_at "i"
 obtain ⟨a,b,r,sp,rfl,⟨hS,hR,h64⟩,hB,hl,tk,q⟩:=h
 refine ⟨_,(aG (2<$>oh<$>(bW bf rfl B.list afe (aq (pv 1) ak)))
  (aG (fJ ae7 rfl (bU (jU<*yP<*(aq (pv 0) ak))) (3>>oh)
   (aK (eO (aQ zX (bD aM (pv 0) (pv 3) (fun _ _=>rfl)) (dY (v:=.int (-1)) rfl hMOUTH ⟨_,rfl⟩) (bx _))
    (aK (uT (pv 2) (bD aM (pv 0) (pv 3) (fun _ _=>rfl)) oU (bD aM (pv 2) (pv 3) (fun _ _=>rfl)) J7 set_list))
    aX)))
  (aK (aL (pv 2))))),?_⟩
 refine sl_7 ?_
 intro zu0 zu1 zu2 zu3
 have O:=Ow.refl tk
 refine ⟨_,rfl,b,_,rfl,.inl hB,fun lf hlf=>?_⟩
 walk_at "new";intro H1 O
 refine ⟨_,rfl,a,r,rfl,⟨O.same.seq hS,hR,h64⟩,O.same.t1,O.Cv fun lt H2 xs O ⟨p,ep,hp⟩=>?_⟩
 subst ep
 refine ⟨lt,rfl,⟨_,O.sq 0⟩,?_⟩
 refine eV (K:=K) (a:=lt) (xs:=p.map fun (i:Nat)=>V.int (i:Int)) (fun t σ H3=>∃ (v3:Option V)(fl:List Int),σ=[some (.ref a),some (.ref b),some (.ref lf),v3]/\Ow T H H3 [(lt,.lst (p.map fun (i:Nat)=>V.int (i:Int))),(lf,.lst (fl.map V.int))]/\Rv.Kr r sp p t fl)
  ⟨none,sp,rfl,O,Rv.Kr.start r sp p hl⟩ (fun _ _ _ _ ⟨_,_,_,O,_⟩=>O.sq 0) ?_ ?_
 ·rintro t y σ H3 hy ⟨v3,fl,rfl,O,N⟩
  rw [aeQ] at hy
  obtain ⟨j,hj,rfl⟩:∃ j,p[t]?=some j/\y=V.int (j:Int):=by
   cases e:p[t]? with
   | none=>rw [e] at hy;cases hy
   | some j=>rw [e] at hy;exact ⟨j,rfl,(aeY hy).symm⟩
  have hjr:=hp.lt (aeO hj)
  have gj:=Rv.jz (r:=r) (p:=(j:Int)) (by omega) (by omega)
  have aj:=mH (ns:=r) (i:=(j:Int)) (by omega) gj
  have here:=N.here hp hR h64 hj
  refine ⟨_,rfl,_,rfl,a,_,_,_,rfl,rfl,O.same.seq hS,aj,rfl,_,rfl,?_⟩
  rcases hR.step (p:=(j:Int)) (by omega) (by omega) with hm| ⟨n0,n1⟩
  ·rw [hm]
   refine aaz rfl ?_
   exact ⟨_,fl,rfl,O,N.adO hj hm⟩
  ·have hd:(!decide (V.int (Rv.nxt r (j:Int))=V.int (-1)))=true:=by
    have:¬ Rv.nxt r (j:Int)=-1:=by omega
    simp [this]
   rw [hd]
   refine zA ?_
   obtain ⟨bn,ebn⟩:=ae9 n0
   have hbl:bn<r.length:=by omega
   rw [ebn] at aj
   obtain ⟨x,hx⟩:∃ x,fl[bn]?=some x:=⟨_,N.at_ bn hbl⟩
   refine ⟨_,rfl,_,rfl,_,rfl,a,_,_,_,rfl,rfl,O.same.seq hS,aj,lf,_,bn,V.int x,rfl,rfl,O.sq 1,by rw [aeQ,hx];rfl,_,rfl,_,rfl,lf,_,_,_,rfl,rfl,O.sq 1,bV here,_,_,rfl,rfl,?_⟩
   refine ux O 1 rfl (iJ (by rw [ac5,N.len];exact hbl)) fun H4 O=>?_
   refine ⟨_,fl.set bn (x+Rv.zm r sp (j:Int)),rfl,?_,N.turn hp hR h64 hj ebn hbl hx⟩
   rw [afD];exact O
 ·rintro σ H3 ⟨v3,fl,rfl,O,N⟩
  rw [ac5,hp.len] at N
  exact ⟨_,rfl,O.ret 1 rfl q (by rw [N.done hp hR])⟩
abbrev qp:Stmt:=top 33
theorem vX:aD ["below","start","stop","way"] ["below","start","stop"] (ao qp):=by walk_at "sc"
theorem Js (b:Int):∀ l:List Int,l.take (l.idxOf b)=l.takeWhile (fun x=>!decide (x=b))
 | []=>rfl
 | x::l=>by
  rw [List.idxOf_cons,List.takeWhile_cons];by_cases h:x=b
  ·simp [h]
  ·have e:(x ==b)=false:=by simp [h]
   rw [e,cond_false,List.take_succ_cons,Js b l];simp [h]
theorem Kh (ns:List Int)(k:Nat):GP (ns.map V.int) none (some (k:Int))=(ns.take k).map V.int:=by
 unfold GP;rw [HT.QV,HT.DG,List.drop_zero,ac5,Nat.sub_zero,<- List.map_take];congr 1;rw [List.take_eq_take_iff];omega
inductive JB (K:PySem.W.Frag)(vs:List V)(H:Hp)(Q:VK)(E:XK):Prop
 | mk (a:Addr)(r:List Int)(p b:Int)(_:vs=[.ref a,.int p,.int b])(_:SqL K H a (r.map V.int))(_:Rv.iG r)(_:0<=p)(_:p<r.length)(_:r.length<=900)(_:Rv.Stop r p b)(_:acR H (fun xs=>xs=(Rv.nM r p b).map V.int) Q)
variable {qZ:Addr}{rQ:FuncData}(cR:Df K mg "stretch_of" qp ["below","start","stop"] qZ rQ)
include eY uf cR in
theorem Rf (C:Mth mg):(CX0|||2) qZ rQ ["below","start","stop"] (JB K):=by
 obtain ⟨tM,hMOUTH⟩:=C.MOUTH
 refine cR.F.ok vX ?_ ?_
 walk_at "i"
 obtain ⟨a,r,p,b,rfl,hS,hR,p0,p1,hn,st,q⟩:=h
 refine ⟨_,(aG (3<$>vX<$>(eY<*uf<*(aq (pv 0) (aq (pv 1) ak))))
  (aG (eO (aQ Ef (pv 2) (dY (v:=.int (-1)) rfl hMOUTH ⟨_,rfl⟩) (bx _))
   (aK (aL (pv 3)))
   aX)
  (aG (eO (aQ qQ (pv 2) (pv 3) (by rfl))
   (aK Q6)
   aX)
  (aK (aL (tY xr (pv 3) zU (uU (m7 ae3 PySem.F.slot_list_index PySem.F.type_list_index Rx (pv 3) (aq (pv 2) ak))))))))),?_⟩
 refine sl_8 ?_
 intro zu0 zu1 zu2 zu3 zu4
 refine ⟨_,rfl,_,rfl,a,r,p,rfl,hS,hR,p0,p1,hn,fun lw H1 xs s1 n1 h1 e1=>?_⟩
 subst e1
 refine ⟨_,rfl,rfl,_,rfl,ab4 (fun h=>?_) fun h=>?_⟩
 ·have hb:b=-1:=V.int.inj (of_decide_eq_true h)
  refine ⟨_,rfl,q lw H1 _ s1 n1 h1 ?_⟩
  unfold Rv.nM;rw [if_pos hb]
 ·have hb:¬ b=-1:=fun z=>h (decide_eq_true (by rw [z]))
  have hm:b∈Rv.walk r p:=st.resolve_left hb
  refine ⟨_,rfl,_,rfl,lw,_,rfl,.inl (SqL.of h1),rfl,wJ _,_,rfl,?_⟩
  rw [if_pos rfl,Ek,decide_eq_true hm]
  refine um ?_
  refine ⟨_,rfl,_,rfl,.inl ⟨rfl,_,SqL.of h1⟩,_,rfl,lw,_,b,rfl,rfl,SqL.of h1,hm,_,rfl,lw,_,rfl,SqL.of h1,fun l hl=>?_⟩
  refine q l _ _ (s1.upd (s1.free hl)) (s1.free hl) aZ ?_
  rw [Kh,Js]
  unfold Rv.nM;rw [if_neg hb]
abbrev qt:Stmt:=top 37
theorem iZ:aD ["below","one","day","start","back","most"] ["below","one"] (ao qt):=by walk_at "sc"
def acS (r:List Int)(l:Lic):Prop:=0<=l.start/\l.start<r.length/\Rv.Stop r l.start l.back
inductive Ce (K:PySem.W.Frag)(vs:List V)(H:Hp)(Q:VK)(E:XK):Prop
 | mk (a t:Addr)(r:List Int)(l:Lic)(_:vs=[.ref a,.ref t])(_:SqL K H a (r.map V.int))(_:Rv.iG r)(_:r.length<=900)(_:SqT K H t (zG l))(_:acS r l)(_:acR H (fun xs=>xs=(Rv.nM r l.start l.back).map V.int) Q)
variable (mO:(CX0|||2) qZ rQ ["below","start","stop"] (JB K))
variable {rm:Addr}{rR:FuncData}(gO:Df K mg "reaches_of" qt ["below","one"] rm rR)
include cR mO gO in
theorem K7:
  (CX0|||3) rm rR ["below","one"] (Ce K):=by
 refine gO.F.ok iZ ?_ ?_;walk_at "i";obtain ⟨a,t,r,l,rfl,hA,hR,hn,hT,ok,q⟩:=h;refine ⟨_,(aG (gC (pv 1) (iB rfl (aA (2>>iZ) (aA (3>>iZ) (aA (4>>iZ) (aA (5>>iZ) bN))))))
  (aK (aL (cR<*mO<*(aq (pv 0) (aq (pv 3) (aq (pv 4) ak))))))),?_⟩
 refine adt ?_;intro zu0;refine ⟨_,rfl,t,_,rfl,hT,rfl,_,_,rfl,_,_,rfl,_,_,rfl,_,_,rfl,rfl,?_⟩;exact ⟨_,rfl,_,rfl,_,rfl,a,r,l.start,l.back,rfl,hA,hR,ok.1,ok.2.1,hn,ok.2.2,q⟩
abbrev zO:Stmt:=top 41
theorem K1:aD ["one"] ["one"] (ao zO):=by walk_at "sc"
inductive Mu (K:PySem.W.Frag)(vs:List V)(H:Hp)(Q:VK)(E:XK):Prop
 | mk (a:Addr)(l:Lic)(_:vs=[.ref a])(_:SqT K H a (zG l))(_:Q (.int l.most) H)
variable {Aj:Addr}{Ar:FuncData}(lW:Df K mg "most_of" zO ["one"] Aj Ar)
include lW in
theorem aah:(CX0|||1) Aj Ar ["one"] (Mu K):=by
 refine lW.F.ok K1 ?_ ?_;walk_at "i";obtain ⟨a,l,rfl,hT,q⟩:=h;refine ⟨_,(~~~(@aL _ _ _ _ (@bD _ _ _ _ _ _ _ yL (pv 0) au (fun _ _=>rfl)))),?_⟩;exact ⟨_,rfl,_,_,_,_,rfl,rfl,hT,rfl,q⟩
abbrev tQ:Stmt:=top 46
theorem HS:aD ["roll","calls"] ["roll","calls"] (ao tQ):=by walk_at "sc"
def mq (ls:List Lic)(cs:List Int):List Int:=List.zipWith (fun l c=>min c l.most) ls cs
theorem ab8 (i j:Int):(if j<i then j else i)=min i j:=by
 by_cases h:j<i
 ·rw [if_pos h];omega
 ·rw [if_neg h];omega
variable {β:Type}
theorem QB {γ:Type}(f:α->β->γ){as:List α}{bs:List β}{a:α}{b:β}(ha:as[i]?=some a)(hb:bs[i]?=some b):List.zipWith f (as.take (i+1)) (bs.take (i+1))=List.zipWith f (as.take i) (bs.take i)++[f a b]:=by
 have h1:=(aeJ.mp ha);have h2:=(aeJ.mp hb);obtain ⟨l1,e1⟩:=h1;obtain ⟨l2,e2⟩:=h2;rw [List.take_succ,List.take_succ,ha,hb,List.zipWith_append (by rw [ae0,ae0];omega)];rfl
inductive Jy (K:PySem.W.Frag)(T:dX)(vs:List V)(H:Hp)(Q:VK)(E:XK):Prop
 | mk (v:V)(b:Addr)(ls:List Lic)(cs:List Int)(_:vs=[v,.ref b])(_:Den K H v (Ss ls))(_:SqL K H b (cs.map V.int))(_:ls.length=cs.length)(_:ls.length<=1000)(_:TabsOk T H)(_:sY T H (fun xs=>xs=(mq ls cs).map V.int) Q)
variable (Hg:(CX0|||1) Aj Ar ["one"] (Mu K))
variable {xW:Addr}{yh:FuncData}(jB:Df K mg "wants_of" tQ ["roll","calls"] xW yh)
include lW Hg jB in
theorem Rb (B:Blt mg):
  (CX0|||2) xW yh ["roll","calls"] (Jy K T):=by
 refine jB.F.ok HS ?_ ?_;walk_at "i";obtain ⟨v,b,ls,cs,rfl,hd,hb,hlc,hlen,tk,q⟩:=h;obtain ⟨a,xs,rfl,hL,hds⟩:=hd.kI;have hxl:xs.length=ls.length:=by rw [hds.length,ac5]
 refine ⟨_,(aK (aL (gF (ao tQ) rfl ["roll","calls"] rfl ["one","call"] [none,none] (by decide+kernel) (by decide+kernel) (by decide+kernel) rfl (zV rfl B.zip (aq (pv 0) (aq (pv 1) ak))) (fun _ _ _=>(qP (K:=K) (n:=2) rfl rfl (aA (bG (i:=0) (show (["one","call"]:List Str).Nodup by decide+kernel) rfl (Or.inl rfl)) (aA (bG (i:=1) (show (["one","call"]:List Str).Nodup by decide+kernel) rfl (Or.inl rfl)) bN)))) (fun _ _ _=>gB) (fun _ _ _=>(aB (GQ rfl) rfl B.min PyProof.Rows.boot_min (aq (pv 1) (aq (lW<*Hg<*(aq (pv 0) ak)) ak))))))),?_⟩;have O:=Ow.refl tk;refine ⟨_,rfl,_,rfl,a,b,_,_,rfl,hL,hb,fun acc hacc=>?_⟩;refine Fg (K:=K) (fun i τ H'=>Iv (∃ (v0 v1:Option V),τ=[v0,v1]/\Ow T H H' [(acc,.lst ((List.zipWith (fun l c=>min c l.most) (ls.take i) (cs.take i)).map V.int))])) (by rw [ac5];omega)
  ⟨trivial,none,none,rfl,O.mk' hacc rfl⟩ (fun i τ H' _ ⟨_,_,_,_,O⟩=>⟨O.same.seq hL,O.same.seq hb⟩) ?_ ?_
 ·rintro i x y t τ H' hx hy ⟨-,v0,v1,rfl,O⟩ ht;obtain ⟨z,hz,rfl⟩:=ints_get hy;obtain ⟨al,l,rfl,hl,hT⟩:=hds.Ir hx;have hi:=(aeJ.mp hz).1;walk_at "nw";refine ⟨t,_,rfl,O.sqT 0,rfl,_,_,rfl,_,_,rfl,rfl,?_⟩;refine aaS ?_;refine ⟨_,rfl,_,rfl,al,l,rfl,hT.mo O.same,_,_,rfl,?_⟩;refine ⟨_,O.get 1,aH (by rw [ac5,ags,ae0];omega),?_⟩;walk_at "pt";refine ⟨trivial,_,_,rfl,?_⟩;rw [QB _ hl hz,aeN,<- ab8];exact O.tail
 ·rintro τ H' ⟨-,v0,v1,rfl,O⟩;refine O.ret 0 rfl q ?_;rw [hxl,aeU (aeL _),aeU (by omega)];rfl
abbrev qI:Stmt:=top 55
theorem j9:aD ["free","ways","counts","way","reach"] ["free","ways"] (ao qI):=by walk_at "sc"
inductive JH (K:PySem.W.Frag)(T:dX)(vs:List V)(H:Hp)(Q:VK)(E:XK):Prop
 | mk (a:Addr)(v:V)(fs:List Int)(ws:List (List Int))(_:vs=[.ref a,v])(_:SqL K H a (fs.map V.int))(_:fs.length<=1000)(_:Den K H v (Kg ws))(_:(∀ w∈ws,Tn.WOk fs.length w))(_:TabsOk T H)(_:sY T H (fun xs=>xs=(Tn.bumps (List.replicate fs.length 0) (ws.map fun w=>(w,1))).map V.int) Q)
variable {rH:Addr}{sI:FuncData}(gU:Df K mg "count_ways" qI ["free","ways"] rH sI)
include gU in
theorem Ri (B:Blt mg):(CX0|||1) rH sI ["free","ways"] (JH K T):=by
 refine gU.F.ok j9 ?_ ?_;walk_at "i";obtain ⟨a,v,fs,ws,rfl,hA,hfl,hd,hws,tk,q⟩:=h;obtain ⟨b,xs,rfl,hL,hds⟩:=hd.kI;have hxl:xs.length=ws.length:=by rw [hds.length,ac5]
 refine ⟨_,(aG (2<$>j9<$>(bA yK (bF (aq au ak)) (aB aC rfl B.len aeZ (aq (pv 0) ak))))
  (aG (fJ ae7 rfl (bU (pv 1)) (3>>j9)
   (aK (fJ ae7 rfl (bU (pv 3)) (4>>j9)
    (aK (uT (pv 2) (pv 4) oU au J7 set_list)))))
  (aK (aL (pv 2))))),?_⟩
 refine aeg ?_;intro zu0 zu1 zu2 zu3;have O:=Ow.refl tk;have s0:=O.same;walk_at "w";intro l1 h1;walk_at "nw";walk_at "w";refine ⟨l1,_,_,rfl,rfl,O.get 0,by rw [ac5];omega,by rw [ac5];omega,f9 (by rw [ac5,aeT];simp;omega),fun lc hlc=>?_⟩;walk_at "nw";rw [ac5,aeT,lD] at O;have O:=O.two;refine ⟨_,rfl,b,rfl,⟨_,O.same.seq hL⟩,?_⟩;refine eV (K:=K) (xs:=xs) (fun i σ H'=>Iv (∃ v3 v4:Option V,σ=[some (.ref a),some (.ref b),some (.ref lc),v3,v4]/\Ow T H H' [(lc,.lst ((Tn.bumps (List.replicate fs.length 0) ((ws.take i).map fun w=>(w,1))).map V.int))]))
  ⟨trivial,none,none,rfl,O⟩ (fun i σ H' _ ⟨_,_,_,_,O⟩=>O.same.seq hL) ?_ ?_
 ·rintro i x σ H2 hx ⟨-,v3,v4,rfl,O⟩;obtain ⟨wa,w,rfl,hw,hW⟩:=hds.Zv hx;have ok:=hws w (aeO hw);have hnext:Tn.bumps (List.replicate fs.length 0) ((ws.take (i+1)).map fun w=>(w,(1:Int)))=Tn.bump (Tn.bumps (List.replicate fs.length 0) ((ws.take i).map fun w=>(w,1))) w 1:=by
   rw [afo,hw,aeN];exact Tn.CJ _ _ _
  have hcl:(Tn.bumps (List.replicate fs.length 0) ((ws.take i).map fun w=>(w,(1:Int)))).length=fs.length:=by rw [Tn.nY,afn]
  generalize Tn.bumps (List.replicate fs.length 0) ((ws.take i).map fun w=>(w,(1:Int)))=cur at O hnext hcl;refine ⟨_,rfl,wa,rfl,⟨_,O.same.seq hW⟩,?_⟩;refine eV (K:=K) (xs:=w.map V.int) (fun j σ H'=>Iv (∃ v4:Option V,σ=[some (.ref a),some (.ref b),some (.ref lc),some (.ref wa),v4]/\Ow T H H' [(lc,.lst ((Tn.bump cur (w.take j) 1).map V.int))]))
   ⟨trivial,v4,rfl,O⟩ (fun i σ H' _ ⟨_,_,_,O⟩=>O.same.seq hW) ?_ ?_
  ·rintro j y σ H3 hy ⟨-,v4,rfl,O⟩;obtain ⟨z,hz,rfl⟩:=ints_get hy;obtain ⟨z0,z1⟩:=ok.2 z (aeO hz);obtain ⟨zn,rfl⟩:=ae9 z0;have hbl:(Tn.bump cur (w.take j) 1).length=fs.length:=by rw [Tn.kW,hcl]
   refine ⟨_,rfl,_,rfl,lc,_,zn,_,rfl,rfl,O.sq 0,by rw [aeQ,gG (by omega)];rfl,?_⟩;refine ⟨_,_,rfl,rfl,lc,_,_,zn,rfl,rfl,O.get 0,iJ (by rw [ac5];omega),?_⟩;walk_at "pt";refine ⟨trivial,_,rfl,?_⟩;rw [Bb hz,aeT,afD];exact O
  ·rintro σ H3 ⟨-,v4,rfl,O⟩;rw [ac5,aeU (aeL _)] at O;refine ⟨trivial,_,_,rfl,?_⟩;rw [hnext];exact O
 rintro σ H2 ⟨-,v3,v4,rfl,O⟩;refine ⟨_,rfl,O.ret 0 rfl q ?_⟩;rw [hxl,aeU (aeL _)]
abbrev kh:Stmt:=top 56
theorem mX:aD ["free","ways","rests","counts","shares"] ["free","ways","rests"] (ao kh):=by walk_at "sc"
inductive aa8 (K:PySem.W.Frag)(T:dX)(vs:List V)(H:Hp)(Q:VK)(E:XK):Prop
 | mk (a b:Addr)(v:V)(fs rs:List Int)(ws:List (List Int))(_:vs=[.ref a,v,.ref b])(_:SqL K H a (fs.map V.int))(_:Den K H v (Kg ws))(_:SqL K H b (rs.map V.int))(_:fs.length<=1000)(_:rs.length<=1000)(_:ws.length<=1000)(_:(∀ w∈ws,Tn.WOk fs.length w))(_:TabsOk T H)(_:∀ (M:Int)(H':Hp),aJ T H H'->Tn.WT fs (Tn.bumps (List.replicate fs.length 0) (ws.map fun w=>(w,1))) rs M->Q (.int M) H')
variable (yV:(CX0|||1) rH sI ["free","ways"] (JH K T))
variable {oV:Addr}{o9:FuncData}(eX:Df K mg "whole_turns" kh ["free","ways","rests"] oV o9)
include gU yV eX in
theorem adH (B:Blt mg):
  (CX0|||2) oV o9 ["free","ways","rests"] (aa8 K T):=by
 refine eX.F.ok mX ?_ ?_;walk_at "i";obtain ⟨a,b,v,fs,rs,ws,rfl,hA,hd,hB,hfl,hrl,hwl,hws,tk,q⟩:=h;refine ⟨_,(aG (3<$>mX<$>(gU<*yV<*(aq (pv 0) (aq (pv 1) ak))))
  (aG (tX (i:=4) (ao kh) rfl ["free","ways","rests","counts","shares"] rfl ["drops","count"] [none,none] (by decide+kernel) (by decide+kernel) (by decide+kernel) rfl mX.nd rfl rfl (zV rfl B.zip (aq (pv 0) (aq (pv 3) ak))) (fun _ _ _=>(qP (K:=K) (n:=2) rfl rfl (aA (bG (i:=0) (show (["drops","count"]:List Str).Nodup by decide+kernel) rfl (Or.inl rfl)) (aA (bG (i:=1) (show (["drops","count"]:List Str).Nodup by decide+kernel) rfl (Or.inl rfl)) bN)))) (fun _ _ _=>(DK (aQ Q8 (pv 1) au (bx _)))) (fun _ _ _=>(bA xR (pv 0) (pv 1))) rfl)
  (aK (aL (aB (GR rfl) rfl B.max PyProof.Rows.boot_max (aq au (aq (ZX rfl rfl B.min (bA zY (bW bf rfl B.list afe (aq (pv 2) ak)) (pv 4))) ak))))))),?_⟩
 refine ZL ?_;intro zu0 zu1;have O:=Ow.refl tk;have s0:=O.same;refine ⟨_,rfl,_,rfl,a,v,fs,ws,rfl,hA,hfl,hd,hws,tk,O.Cv fun lc H2 xs O e=>?_⟩;subst e;have hcb:=Tn.cw_bound hws;have hcl:(Tn.bumps (List.replicate fs.length 0) (ws.map fun w=>(w,(1:Int)))).length=fs.length:=by rw [Tn.nY,afn]
 generalize Tn.bumps (List.replicate fs.length 0) (ws.map fun w=>(w,(1:Int)))=cs at O hcb hcl q;refine ⟨_,rfl,_,rfl,a,lc,_,_,rfl,O.same.seq hA,O.sq 0,fun acc hacc=>?_⟩;refine Fg (K:=K) (fun i τ H'=>Iv (∃ (v0 v1:Option V),τ=[v0,v1]/\Ow T H H' [(acc,.lst ((Tn.shares (fs.take i) (cs.take i)).map V.int)),(lc,.lst (cs.map V.int))])) (by rw [ac5,ac5];omega)
  ⟨trivial,none,none,rfl,O.mk' hacc rfl⟩ (fun i τ H' _ ⟨_,_,_,_,O⟩=>⟨O.same.seq hA,O.sq 1⟩) ?_ ?_
 ·rintro i x y t τ H' hx hy ⟨-,v0,v1,rfl,O⟩ ht;obtain ⟨z,hz,rfl⟩:=ints_get hx;obtain ⟨c,hc,rfl⟩:=ints_get hy;have hi:=(aeJ.mp hz).1;have hcm:=hcb c (aeO hc);have hnext:=Tn.HN hz hc;have hsl:(Tn.shares (fs.take i) (cs.take i)).length<=1000:=by
   unfold Tn.shares;rw [ac5];refine afB (List.length_filter_le _ _) ?_;rw [List.length_zip,ae0];omega
  walk_at "nw";refine ⟨t,_,rfl,O.sqT 0,rfl,_,_,rfl,_,_,rfl,rfl,?_⟩;refine ⟨_,rfl,_,_,rfl,rfl,_,rfl,ifD (fun hp=>?_) fun hp=>?_⟩
  ·rw [if_pos hp] at hnext;refine ⟨_,rfl,_,rfl,_,_,rfl,rfl,⟨hp,by omega⟩,?_⟩;refine ⟨_,O.get 1,aH (by rw [ac5];omega),?_⟩;walk_at "pt";refine ⟨trivial,_,_,rfl,?_⟩;rw [hnext,aeN];exact O.tail
  ·rw [if_neg hp,agt] at hnext;refine ⟨trivial,_,_,rfl,?_⟩;rw [hnext];exact O.tail
 rintro τ H' ⟨-,v0,v1,rfl,O⟩;rw [ac5,aeU (aeL _),aeU (by omega)] at O;have hsl:(Tn.shares fs cs).length<=1000:=by
  unfold Tn.shares;rw [ac5];refine afB (List.length_filter_le _ _) ?_;rw [List.length_zip];omega
 refine ⟨_,rfl,b,_,rfl,.inl (O.same.seq hB),fun lr hlr=>?_⟩;walk_at "nw";refine ⟨_,rfl,lr,acc,_,_,rfl,rfl,O.get 0,O.get 1,f9 (by rw [ac5,ac5];omega),fun l2 hl2=>?_⟩;walk_at "nw";rw [<- aeN] at O;refine ⟨l2,rs++Tn.shares fs cs,rfl,O.sq 0,fun e0=>?_,fun m hm hle=>?_⟩
 ·exact ⟨_,_,rfl,q _ _ O.same (.inl ⟨e0,rfl⟩)⟩
 ·refine ⟨_,_,rfl,q _ _ O.same (.inr ⟨m,hm,hle,?_⟩)⟩;by_cases h:m >0
  ·rw [if_pos h];omega
  ·rw [if_neg h];omega
abbrev Ng:Stmt:=top 57
theorem Nf:aD ["left","way","drops","reach"] ["left","way","drops"] (ao Ng):=by walk_at "sc"
inductive MN (K:PySem.W.Frag)(T:dX)(vs:List V)(H:Hp)(Q:VK)(E:XK):Prop
 | mk (a b:Addr)(fs w:List Int)(c:Int)(Hb:Hp)(_:vs=[.ref a,.ref b,.int c])(_:Ow T Hb H [(a,.lst (fs.map V.int))])(_:SqL K Hb b (w.map V.int))(_:Tn.WOk fs.length w)(_:∀ H',Ow T Hb H' [(a,.lst ((Tn.bump fs w (-c)).map V.int))]->Q .non H')
variable {Pu:Addr}{Qa:FuncData}(uG:Df K mg "draw" Ng ["left","way","drops"] Pu Qa)
include uG in
theorem aal:(CX0|||1) Pu Qa ["left","way","drops"] (MN K T):=by
 refine uG.F.ok Nf ?_ ?_;walk_at "i";obtain ⟨a,b,fs,w,c,Hb,rfl,O,hW,ok,q⟩:=h;refine ⟨_,(aK (fJ ae7 rfl (bU (pv 1)) (3>>Nf)
   (aK (uT (pv 0) (pv 3) oU (pv 2) Ox set_list)))),?_⟩
 refine adA ?_;intro zu0;refine ⟨_,rfl,b,rfl,⟨_,O.same.seq hW⟩,?_⟩;refine eV (K:=K) (xs:=w.map V.int) (fun j σ H'=>Iv (∃ v3:Option V,σ=[some (.ref a),some (.ref b),some (.int c),v3]/\Ow T Hb H' [(a,.lst ((Tn.bump fs (w.take j) (-c)).map V.int))]))
  ⟨trivial,none,rfl,O⟩ (fun i σ H' _ ⟨_,_,_,O⟩=>O.same.seq hW) ?_ ?_
 ·rintro j y σ H3 hy ⟨-,v4,rfl,O⟩;obtain ⟨z,hz,rfl⟩:=ints_get hy;obtain ⟨z0,z1⟩:=ok.2 z (aeO hz);obtain ⟨zn,rfl⟩:=ae9 z0;have hbl:(Tn.bump fs (w.take j) (-c)).length=fs.length:=Tn.kW _ _ _;refine ⟨_,rfl,_,rfl,a,_,zn,_,rfl,rfl,O.sq 0,by rw [aeQ,gG (by omega)];rfl,?_⟩;refine ⟨_,rfl,_,_,rfl,rfl,a,_,_,zn,rfl,rfl,O.get 0,iJ (by rw [ac5];omega),?_⟩;walk_at "pt";refine ⟨trivial,_,rfl,?_⟩;rw [Bb hz,aeT,afD];exact O
 ·rintro σ H3 ⟨-,v4,rfl,O⟩;rw [ac5,aeU (aeL _)] at O;exact q _ O
abbrev dH:Stmt:=top 58
theorem eG:aD ["left","ways","rests","takes","going","unmet","turns","taker"] ["left","ways","rests","takes","going"] (ao dH):=by walk_at "sc"
structure aeB (K:PySem.W.Frag)(T:dX)(H Hb:Hp)(a b t g:Addr)(v:V)(fs rs xs:List Int)(ws:List (List Int))(gs:List Nat):Prop where
 O:Ow T Hb H [(a,.lst (fs.map V.int)),(t,.lst (xs.map V.int))]
 d0:Den K Hb v (Kg ws)
 d1:SqL K Hb b (rs.map V.int)
 d2:SqL K Hb g ((Tn.asI gs).map V.int)
 rl:rs.length=ws.length
 xl:xs.length=ws.length
 gn:∀ k∈gs,k<ws.length
 nd:gs.Nodup
 wok:∀ w∈ws,Tn.WOk fs.length w
 fl:fs.length<=1000
 wl:ws.length<=1000
 gl:gs.length<=1000
inductive aa9 (K:PySem.W.Frag)(T:dX)(vs:List V)(H:Hp)(Q:VK)(E:XK):Prop
 | mk (a b t g:Addr)(v:V)(fs rs xs:List Int)(ws:List (List Int))(gs:List Nat)(Hb:Hp)(_:vs=[.ref a,v,.ref b,.ref t,.ref g])(_:aeB K T H Hb a b t g v fs rs xs ws gs)(_:∀ (M:Int)(H':Hp),Tn.WT fs (Tn.Qy fs.length ws gs) (Tn.unmet rs xs gs) M->Ow T Hb H' [(a,.lst ((Tn.bumps fs (gs.map fun k=>(Tn.fW ws k,-M))).map V.int)),(t,.lst ((Tn.bump xs (Tn.asI gs) M).map V.int))]->Q .non H')
variable {k:Nat}
theorem IW {ws:List (List Int)}(h:k<ws.length):ws[k]?=some (Tn.fW ws k):=by
 unfold Tn.fW;rw [aeM,aeD h];rfl
variable (wR:(CX0|||2) oV o9 ["free","ways","rests"] (aa8 K T))
variable (Ku:(CX0|||1) Pu Qa ["left","way","drops"] (MN K T))
variable {jk:Addr}{jo:FuncData}(bO:Df K mg "take_whole_turns" dH ["left","ways","rests","takes","going"] jk jo)
include eX uG wR Ku bO in
theorem adI (B:Blt mg):
  (CX0|||3) jk jo ["left","ways","rests","takes","going"] (aa9 K T):=by
 refine bO.F.ok eG ?_ ?_
 walk_at "i"
 obtain ⟨a,b,t,g,v,fs,rs,xs,ws,gs,Hb,rfl,⟨O,d0,d1,d2,rl,xl,gn,nd,wok,fl,wl,gl⟩,q⟩:=h
 obtain ⟨va,vs,rfl,hV,hds⟩:=d0.kI
 have hil:((Tn.asI gs).map V.int).length=gs.length:=by rw [ac5,Tn.kJ]
 refine ⟨_,(aG (tX (i:=5) (ao dH) rfl ["left","ways","rests","takes","going","unmet","turns","taker"] rfl ["taker","rests","takes"] [none,some 2,some 3] (by decide+kernel) (by decide+kernel) (by decide+kernel) rfl eG.nd rfl rfl (bU (pv 4)) (fun _ _ _=>(bG (i:=0) (show (["taker","rests","takes"]:List Str).Nodup by decide+kernel) rfl (Or.inl rfl))) (fun _ _ _=>gB) (fun _ _ _=>(bA wA (bD (jH (K:=K) rfl) (pv 1) (pv 0) (fun _ _=>rfl)) (bD (jH (K:=K) rfl) (pv 2) (pv 0) (fun _ _=>rfl)))) rfl)
  (aG (6<$>eG<$>(eX<*wR<*(aq (pv 0) (aq (gF (ao dH) rfl ["left","ways","rests","takes","going","unmet","turns","taker"] rfl ["taker","ways"] [none,some 1] (by decide+kernel) (by decide+kernel) (by decide+kernel) rfl (bU (pv 4)) (fun _ _ _=>(bG (i:=0) (show (["taker","ways"]:List Str).Nodup by decide+kernel) rfl (Or.inl rfl))) (fun _ _ _=>gB) (fun _ _ _=>(bD (jH (K:=K) rfl) (pv 1) (pv 0) (fun _ _=>rfl)))) (aq (pv 5) ak)))))
  (aK (fJ ae7 rfl (bU (pv 4)) (7>>eG)
   (aG (aR (uG<*Ku<*(aq (pv 0) (aq (bD aM (pv 1) (pv 7) (fun _ _=>rfl)) (aq (pv 6) ak)))))
   (aK (uT (pv 3) (pv 7) oU (pv 6) J7 set_list))))))),?_⟩
 refine adz ?_
 intro zu0 zu1 zu2 zu3
 /- unmet -/
 refine ⟨_,rfl,g,rfl,⟨_,O.same.seq d2⟩,fun lu hlu=>?_⟩
 refine d8 (K:=K) (xs:=(Tn.asI gs).map V.int) (fun i τ H'=>Iv (∃ v0:Option V,τ=[v0,some (.ref b),some (.ref t)]/\Ow T Hb H' [(lu,.lst ((Tn.unmet rs xs (gs.take i)).map V.int)),(a,.lst (fs.map V.int)),(t,.lst (xs.map V.int))]))
  ⟨trivial,none,rfl,O.mk' hlu rfl⟩ (fun i τ H' _ ⟨_,_,_,O⟩=>O.same.seq d2) ?_ ?_
 ·rintro i y τ H2 hy ⟨-,v0,rfl,O⟩
  obtain ⟨z,hz,rfl⟩:=ints_get hy
  obtain ⟨k,hk,rfl⟩:=Tn.jQ hz
  have hkn:=gn k (aeO hk)
  have hi:=(aeJ.mp hk).1
  refine Lj ?_
  refine ⟨_,rfl,_,rfl,b,_,_,_,rfl,rfl,O.same.seq d1,bV (gG (by omega)),_,rfl,_,rfl,t,_,_,_,rfl,rfl,O.sq 2,bV (gG (by omega)),_,_,rfl,rfl,?_⟩
  refine ⟨_,O.get 0,aH (by rw [ac5];unfold Tn.unmet;rw [ac5,ae0];omega),?_⟩
  walk_at "pt"
  refine ⟨trivial,_,rfl,?_⟩
  rw [Tn.KH hk,aeN];exact O
 rintro τ H2 ⟨-,v0,rfl,O⟩
 rw [hil,aeU (aeL _)] at O
 have hul:(Tn.unmet rs xs gs).length=gs.length:=by unfold Tn.unmet;rw [ac5]
 /- whole_turns(left, ..,unmet) -/
 refine ⟨_,rfl,_,rfl,g,rfl,⟨_,O.same.seq d2⟩,fun lw hlw=>?_⟩
 refine d8 (K:=K) (xs:=(Tn.asI gs).map V.int) (fun i τ H'=>Iv (∃ (v0:Option V)(us:List V),τ=[v0,some (.ref va)]/\bZ K Hb us ((gs.take i).map fun k=>vN (Tn.fW ws k))/\Ow T Hb H' [(lw,.lst us),(lu,.lst ((Tn.unmet rs xs gs).map V.int)),(a,.lst (fs.map V.int)),(t,.lst (xs.map V.int))]))
  ⟨trivial,none,[],rfl,.nil,O.mk' hlw rfl⟩ (fun i τ H' _ ⟨_,_,_,_,_,O⟩=>O.same.seq d2) ?_ ?_
 ·rintro i y τ H3 hy ⟨-,v0,us,rfl,hus,O⟩
  obtain ⟨z,hz,rfl⟩:=ints_get hy
  obtain ⟨k,hk,rfl⟩:=Tn.jQ hz
  have hkn:=gn k (aeO hk)
  have hi:=(aeJ.mp hk).1
  obtain ⟨wa,hwa,hW⟩:=hds.Lw (IW hkn)
  refine Lj ?_
  refine ⟨_,rfl,_,rfl,va,_,_,_,rfl,rfl,O.same.seq hV,d9 hwa,?_⟩
  refine ⟨_,O.get 0,aH (by rw [hus.length,ac5,ae0];omega),?_⟩
  walk_at "pt"
  refine ⟨trivial,_,us++[.ref wa],rfl,?_,O⟩
  rw [Tn.iy hk]
  exact hus.append (.cons (Den.ints hW) .nil)
 rintro τ H3 ⟨-,v0,us,rfl,hus,O⟩
 rw [hil,aeU (aeL _)] at hus
 have hus':bZ K Hb us ((gs.map fun k=>Tn.fW ws k).map vN):=by rw [agg];exact hus
 refine ⟨_,rfl,a,lu,.ref lw,fs,Tn.unmet rs xs gs,gs.map fun k=>Tn.fW ws k,rfl,O.sq 2,.list (O.sq 0) (hus'.mo O.same),O.sq 1,fl,by omega,by rw [ac5];omega,fun w hw=>?_,O.same.t1,fun M H4 sm hM=>?_⟩
 ·obtain ⟨k,hk,rfl⟩:=afc.mp hw
  exact wok _ (Tn.zZ (gn k hk))
 have hM:Tn.WT fs (Tn.Qy fs.length ws gs) (Tn.unmet rs xs gs) M:=by
  unfold Tn.Qy
  rw [agg] at hM
  exact hM
 have O:=((O.jq sm).tail).tail
 /- the loop -/
 refine ⟨_,rfl,g,rfl,⟨_,O.same.seq d2⟩,?_⟩
 refine eV (K:=K) (xs:=(Tn.asI gs).map V.int) (fun i σ H'=>Iv (∃ v7:Option V,σ=[some (.ref a),some (.ref va),some (.ref b),some (.ref t),some (.ref g),some (.ref lu),some (.int M),v7] /\
  Ow T Hb H' [(a,.lst ((Tn.bumps fs ((gs.take i).map fun k=>(Tn.fW ws k,-M))).map V.int)),(t,.lst ((Tn.bump xs (Tn.asI (gs.take i)) M).map V.int))]))
  ⟨trivial,none,rfl,O⟩ (fun i σ H' _ ⟨_,_,_,O⟩=>O.same.seq d2) ?_ ?_
 ·rintro i y σ H5 hy ⟨-,v7,rfl,O⟩
  obtain ⟨z,hz,rfl⟩:=ints_get hy
  obtain ⟨k,hk,rfl⟩:=Tn.jQ hz
  have hkn:=gn k (aeO hk)
  obtain ⟨wa,hwa,hW⟩:=hds.Lw (IW hkn)
  have hn1:Tn.bumps fs ((gs.take (i+1)).map fun k=>(Tn.fW ws k,-M))=Tn.bump (Tn.bumps fs ((gs.take i).map fun k=>(Tn.fW ws k,-M))) (Tn.fW ws k) (-M):=by
   rw [Tn.iy hk];exact Tn.CJ _ _ _
  have hl1:(Tn.bumps fs ((gs.take i).map fun k=>(Tn.fW ws k,-M))).length=fs.length:=Tn.nY _ _
  have hl2:(Tn.bump xs (Tn.asI (gs.take i)) M).length=ws.length:=by rw [Tn.kW];exact xl
  have hn2:Tn.bump xs (Tn.asI (gs.take (i+1))) M=(Tn.bump xs (Tn.asI (gs.take i)) M).set k ((Tn.bump xs (Tn.asI (gs.take i)) M).getD k 0+M):=by
   rw [<- Tn.GC,<- Tn.GC,Bb hz,aeT]
  obtain ⟨H1,O1,s1,hB,back⟩:=Ow.lend (A:=[(a,.lst ((Tn.bumps fs ((gs.take i).map fun k=>(Tn.fW ws k,-M))).map V.int))]) (B:=[(t,.lst ((Tn.bump xs (Tn.asI (gs.take i)) M).map V.int))]) O
  refine ⟨_,rfl,_,rfl,_,rfl,va,_,_,_,rfl,rfl,O.same.seq hV,d9 hwa,_,rfl,a,wa,_,_,M,H1,rfl,O1,hW.mo s1,by rw [hl1];exact wok _ (Tn.zZ hkn),fun H6 O6=>?_⟩
  have O:=back _ _ O6
  refine ⟨_,rfl,_,rfl,t,_,k,_,rfl,rfl,O.sq 1,by rw [aeQ,gG (by omega)];rfl,_,rfl,_,_,rfl,rfl,t,_,_,k,rfl,rfl,O.get 1,iJ (by rw [ac5];omega),?_⟩
  walk_at "pt"
  refine ⟨trivial,_,rfl,?_⟩
  rw [hn1,hn2,afD];exact O
 rintro σ H5 ⟨-,v7,rfl,O⟩
 rw [hil,aeU (aeL _)] at O
 exact q M _ hM O
abbrev jf:Stmt:=top 59
theorem jW:aD ["left","ways","rests","takes","going","still","taker"] ["left","ways","rests","takes","going"] (ao jf):=by walk_at "sc"
inductive abb (K:PySem.W.Frag)(T:dX)(vs:List V)(H:Hp)(Q:VK)(E:XK):Prop
 | mk (a b t g:Addr)(v:V)(fs rs xs:List Int)(ws:List (List Int))(gs:List Nat)(Hb:Hp)(_:vs=[.ref a,v,.ref b,.ref t,.ref g])(_:aeB K T H Hb a b t g v fs rs xs ws gs)(_:∀ (l:Addr)(H':Hp),Ow T Hb H' [(l,.lst ((Tn.asI (Tn.jV ws rs gs (fs,xs,[])).2.2).map V.int)),(a,.lst ((Tn.jV ws rs gs (fs,xs,[])).1.map V.int)),(t,.lst ((Tn.jV ws rs gs (fs,xs,[])).2.1.map V.int))]->Q (.ref l) H')
theorem aaN {w l:List Int}:((w.map fun r:Int=>decide (0<l.getD r.toNat 0)).all id)=w.all (fun r=>decide (0<l.getD r.toNat 0)):=by rw [List.all_map];rfl
variable {lE:Addr}{lH:FuncData}(dw:Df K mg "take_one_turn" jf ["left","ways","rests","takes","going"] lE lH)
include uG Ku dw in
theorem adJ (B:Blt mg):
  (CX0|||2) lE lH ["left","ways","rests","takes","going"] (abb K T):=by
 refine dw.F.ok jW ?_ ?_;walk_at "i";obtain ⟨a,b,t,g,v,fs,rs,xs,ws,gs,Hb,rfl,⟨O,d0,d1,d2,rl,xl,gn,nd,wok,fl,wl,gl⟩,q⟩:=h;obtain ⟨va,vs,rfl,hV,hds⟩:=d0.kI;have hil:((Tn.asI gs).map V.int).length=gs.length:=by rw [ac5,Tn.kJ]
 refine ⟨_,(aG (5<$>jW<$>(bF ak))
  (aG (fJ ae7 rfl (bU (pv 4)) (6>>jW)
   (aK (eO (PW.pt (pw_and (aQ Ed (bD aM (pv 3) (pv 6) (fun _ _=>rfl)) (bD aM (pv 2) (pv 6) (fun _ _=>rfl)) (bx _)) (pw_and1 (j7 (aB (wM rfl) rfl B.all af7 (aq (gF (ao jf) rfl ["left","ways","rests","takes","going","still","taker"] rfl ["reach","left"] [none,some 0] (by decide+kernel) (by decide+kernel) (by decide+kernel) rfl (bU (bD aM (pv 1) (pv 6) (fun _ _=>rfl))) (fun _ _ _=>(bG (i:=0) (show (["reach","left"]:List Str).Nodup by decide+kernel) rfl (Or.inl rfl))) (fun _ _ _=>gB) (fun _ _ _=>(oM Q8 (bD (jH (K:=K) rfl) (pv 1) (pv 0) (fun _ _=>rfl)) au (bx _)))) ak))))))
    (aG (aR (uG<*Ku<*(aq (pv 0) (aq (bD aM (pv 1) (pv 6) (fun _ _=>rfl)) (aq au ak)))))
    (aG (uT (pv 3) (pv 6) oU au J7 set_list)
    (aK (aR (m7 ae3 ae5 ae6 bJ (pv 5) (aq (pv 6) ak))))))
    aX)))
  (aK (aL (pv 5))))),?_⟩
 refine ady ?_;intro zu0 zu1 zu2 zu3 zu4 zu5;refine ⟨szl,fun ls hls=>?_⟩;walk_at "nw";refine ⟨_,rfl,g,rfl,⟨_,O.same.seq d2⟩,?_⟩;refine eV (K:=K) (xs:=(Tn.asI gs).map V.int) (fun i σ H'=>Iv (∃ v6:Option V,σ=[some (.ref a),some (.ref va),some (.ref b),some (.ref t),some (.ref g),some (.ref ls),v6] /\
  Ow T Hb H' [(ls,.lst ((Tn.asI (Tn.jV ws rs (gs.take i) (fs,xs,[])).2.2).map V.int)),(a,.lst ((Tn.jV ws rs (gs.take i) (fs,xs,[])).1.map V.int)),(t,.lst ((Tn.jV ws rs (gs.take i) (fs,xs,[])).2.1.map V.int))]))
  ⟨trivial,none,rfl,O⟩ (fun i σ H' _ ⟨_,_,_,O⟩=>O.same.seq d2) ?_ ?_
 ·rintro i y σ H5 hy ⟨-,v7,rfl,O⟩;obtain ⟨z,hz,rfl⟩:=ints_get hy;obtain ⟨k,hk,rfl⟩:=Tn.jQ hz;have hkn:=gn k (aeO hk);have hi:=(aeJ.mp hk).1;obtain ⟨wa,hwa,hW⟩:=hds.Lw (IW hkn);have hnext:=Tn.KN (ws:=ws) (rs:=rs) (s:=(fs,xs,[])) hk;have hlen:=Tn.Fy ws rs (gs.take i) (fs,xs,[]);rw [hnext];generalize Tn.jV ws rs (gs.take i) (fs,xs,[])=S at O hlen ⊢;obtain ⟨l,x,st⟩:=S;obtain ⟨hl1,hl2,hl3⟩:=hlen;have hl1:l.length=fs.length:=hl1;have hl2:x.length=xs.length:=hl2;have hl3:st.length<=i:=by
   have:st.length<=0+(gs.take i).length:=hl3;rw [ae0] at this;omega
  have O:Ow T Hb H5 [(ls,.lst ((Tn.asI st).map V.int)),(a,.lst (l.map V.int)),(t,.lst (x.map V.int))]:=O;have ok:=wok _ (Tn.zZ hkn);have no:¬ (x.getD k 0<rs.getD k 0/\(Tn.fW ws k).all (fun r=>decide (0<l.getD r.toNat 0))=true)->Tn.step1 ws rs (l,x,st) k=(l,x,st):=fun h=>if_neg h;have yes:(x.getD k 0<rs.getD k 0/\(Tn.fW ws k).all (fun r=>decide (0<l.getD r.toNat 0))=true)->Tn.step1 ws rs (l,x,st) k=(Tn.bump l (Tn.fW ws k) (-1),x.set k (x.getD k 0+1),st++[k]):=fun h=>if_pos h;generalize Tn.step1 ws rs (l,x,st) k=S' at no yes ⊢;refine ⟨_,rfl,_,rfl,t,_,_,_,rfl,rfl,O.sq 2,bV (gG (by omega)),_,rfl,_,rfl,b,_,_,_,rfl,rfl,O.same.seq d1,bV (gG (by omega)),_,_,rfl,rfl,_,rfl,ifD (fun hc1=>?_) fun hc1=>?_⟩
  ·refine ⟨_,rfl,_,rfl,va,_,_,_,rfl,rfl,O.same.seq hV,d9 hwa,wa,rfl,⟨_,O.same.seq hW⟩,fun lb hlb=>?_⟩;refine d8 (K:=K) (xs:=(Tn.fW ws k).map V.int) (fun j τ H'=>Iv (∃ v0:Option V,τ=[v0,some (.ref a)]/\Ow T Hb H' [(lb,.lst ((((Tn.fW ws k).take j).map fun r:Int=>decide (0<l.getD r.toNat 0)).map V.bl)),(ls,.lst ((Tn.asI st).map V.int)),(a,.lst (l.map V.int)),(t,.lst (x.map V.int))]))
    ⟨trivial,none,rfl,O.mk' hlb rfl⟩ (fun i τ H' _ ⟨_,_,_,O⟩=>O.same.seq hW) ?_ ?_
   ·rintro j y τ H6 hy ⟨-,v0,rfl,O⟩;obtain ⟨r,hr,rfl⟩:=ints_get hy;have hj:=(aeJ.mp hr).1;obtain ⟨r0,r1⟩:=ok.2 r (aeO hr);refine Lj ?_;refine ⟨_,rfl,_,rfl,a,_,_,_,rfl,rfl,O.sq 2,iz r0 (by omega),_,_,rfl,rfl,?_⟩;refine ⟨_,O.get 0,aH (by rw [ac5,ac5,ae0];have:=ok.len;omega),?_⟩;walk_at "pt";refine ⟨trivial,_,rfl,?_⟩;rw [Tn.iy hr,aeN];exact O
   rintro τ H6 ⟨-,v0,rfl,O⟩;rw [ac5,aeU (aeL _)] at O;refine ⟨lb,_,rfl,O.sq 0,?_⟩;rw [aaN];have O:=O.tail;refine ⟨_,rfl,ifB (fun hc2=>?_) fun hc2=>?_⟩
   ·rw [yes ⟨hc1,hc2⟩];obtain ⟨H1,O1,s1,hB,back⟩:=Ow.lend (A:=[(a,.lst (l.map V.int))]) (B:=[(ls,.lst ((Tn.asI st).map V.int)),(t,.lst (x.map V.int))]) (O.pull 1);refine ⟨_,rfl,_,rfl,_,rfl,va,_,_,_,rfl,rfl,O.same.seq hV,d9 hwa,a,wa,l,_,1,H1,rfl,O1,hW.mo s1,by rw [hl1];exact ok,fun H7 O7=>?_⟩;have O:=back _ _ O7;have O:Ow T Hb H7 [(a,.lst ((Tn.bump l (Tn.fW ws k) (-1)).map V.int)),(ls,.lst ((Tn.asI st).map V.int)),(t,.lst (x.map V.int))]:=O;refine ⟨_,rfl,_,rfl,t,_,k,_,rfl,rfl,O.sq 2,by rw [aeQ,gG (by omega)];rfl,_,_,rfl,rfl,t,_,_,k,rfl,rfl,O.get 2,iJ (by rw [ac5];omega),?_⟩;walk_at "pt";refine ⟨_,rfl,.inl ⟨rfl,_,O.sq 1⟩,_,rfl,ls,_,_,rfl,rfl,O.get 1,aH (by rw [ac5,Tn.kJ];omega),?_⟩;walk_at "pt";refine ⟨trivial,_,rfl,?_⟩;have O:=O.pull 1;show Ow T Hb _ [(ls,.lst ((Tn.asI (st++[k])).map V.int)),(a,.lst ((Tn.bump l (Tn.fW ws k) (-1)).map V.int)),(t,.lst ((x.set k (x.getD k 0+1)).map V.int))];rw [afD];unfold Tn.asI;rw [aeN,aeN];exact O
   ·rw [no fun z=>by rw [z.2] at hc2;cases hc2];exact ⟨trivial,_,rfl,O⟩
  ·refine um ?_;rw [no fun z=>hc1 z.1];exact ⟨trivial,_,rfl,O⟩
 rintro σ H5 ⟨-,v7,rfl,O⟩;rw [hil,aeU (aeL _)] at O;exact ⟨_,rfl,q _ _ O⟩
abbrev qG:Stmt:=top 60
theorem jd:aD ["free","ways","rests","left","takes","going"] ["free","ways","rests"] (ao qG):=by walk_at "sc"
inductive abg (K:PySem.W.Frag)(T:dX)(vs:List V)(H:Hp)(Q:VK)(E:XK):Prop
 | mk (a b:Addr)(v:V)(fs rs:List Int)(ws:List (List Int))(_:vs=[.ref a,v,.ref b])(_:SqL K H a (fs.map V.int))(_:Den K H v (Kg ws))(_:SqL K H b (rs.map V.int))(_:rs.length=ws.length)(_:fs.length<=1000)(_:ws.length<64)(_:(∀ w∈ws,Tn.WOk fs.length w))(_:(∀ x∈fs,0<=x))(_:(∀ x∈rs,0<=x))(_:TabsOk T H)(_:∀ (l lt ll:Addr)(xs left:List Int)(t:Int)(H':Hp),Ow T H H' [(l,.tup [.ref lt,.ref ll]),(lt,.lst (xs.map V.int)),(ll,.lst (left.map V.int))]->Tn.Bl fs ws rs left xs [] t->Q (.ref l) H')
variable (mK:(CX0|||3) jk jo ["left","ways","rests","takes","going"] (aa9 K T))
variable (tu:(CX0|||2) lE lH ["left","ways","rests","takes","going"] (abb K T))
variable {rG:Addr}{sH:FuncData}(gR:Df K mg "deal_turns" qG ["free","ways","rests"] rG sH)
include bO dw mK tu gR in
theorem adN (B:Blt mg):
  (CX0|||4) rG sH ["free","ways","rests"] (abg K T):=by
 refine gR.F.ok jd ?_ ?_;walk_at "i";obtain ⟨a,b,v,fs,rs,ws,rfl,hA,d0,hB,rl,fl,wl,wok,hf,hrs,tk,q⟩:=h;obtain ⟨va,vs,rfl,hV,hds⟩:=d0.kI;have hvl:vs.length=ws.length:=by rw [hds.length,ac5]
 refine ⟨_,(3<$>jd<$>(bW bf rfl B.list afe (pv 0>=>ak))<|>4<$>jd<$>(@bA _ _ _ _ _ _ _ _ yK (@bF _ _ _ _ (au>=>ak)) (aB aC rfl B.len aeZ (pv 1>=>ak)))<|>5<$>jd<$>(Gs rfl rfl B.list rfl B.range (aB aC rfl B.len aeZ (pv 1>=>ak)>=>ak))<|>DN ae7 (Q5 (pv 5) (fun _=>rfl))
   (aR (bO<*mK<*(pv 3>=>pv 1>=>pv 2>=>pv 4>=>pv 5>=>ak))<|>(~~~(5<$>jd<$>(dw<*tu<*(pv 3>=>pv 1>=>pv 2>=>pv 4>=>pv 5>=>ak)))))<|>(~~~(@aL _ _ _ _ (@gD _ _ _ _ _ (pv 4>=>pv 3>=>ak))))),?_⟩
 have O:=Ow.refl tk;refine ⟨_,rfl,a,_,rfl,.inl (O.same.seq hA),fun ll hll=>?_⟩;walk_at "nw";refine ⟨szl,fun l1 h1=>?_⟩;walk_at "nw";refine ⟨_,rfl,va,_,rfl,.inl (O.same.seq hV),l1,_,_,rfl,rfl,O.get 0,by omega,by omega,f9 (by rw [hvl,aeT];simp;omega),fun lt hlt=>?_⟩;walk_at "nw";rw [hvl,aeT,lD] at O;have O:=O.two;refine ⟨_,rfl,va,_,rfl,.inl (O.same.seq hV),ws.length,by rw [hvl],wl,fun lg hlg=>?_⟩;walk_at "nw";have eg:jx ws.length=(Tn.asI (List.range ws.length)).map V.int:=by unfold jx Tn.asI;rw [agg];rfl
 rw [eg] at O;refine ⟨fun m σ H'=>Iv (∃ (lg:Addr)(gs:List Nat)(l xs:List Int)(t:Int),σ=[some (.ref a),some (.ref va),some (.ref b),some (.ref ll),some (.ref lt),some (.ref lg)]/\Tn.Bl fs ws rs l xs gs t/\m=(Tn.rem rs xs ws.length+(gs.length:Int)).toNat /\
  Ow T H H' [(lg,.lst ((Tn.asI gs).map V.int)),(lt,.lst (xs.map V.int)),(ll,.lst (l.map V.int))]),⟨_,trivial,lg,_,fs,_,0,rfl,Tn.Bl.start hf hrs wok,rfl,O⟩,?_⟩
 rintro m σ H2 ⟨-,lg,gs,l,xs,t,rfl,LI,rfl,O⟩;have nd:=Tn.iV LI.srt;have gn:∀ k∈gs,k<ws.length:=fun k hk=>(LI.going k hk).1;have gl:gs.length<=1000:=by
  have:gs.length<=ws.length:=by
   have:=List.Nodup.length_le_of_subset (l₂:=List.range ws.length) nd fun k hk=>afk.mpr (gn k hk);simpa using this
  omega
 refine ⟨_,rfl,_,.inl ⟨_,O.sq 0,rfl⟩,ifB (fun hc=>?_) fun hc=>?_⟩
 ·have hne:0<gs.length:=by
   cases gs with
   | nil=>simp [Tn.asI] at hc
   | cons x gs=>simp
  refine ⟨_,fun σ' H' h=>h,?_⟩;obtain ⟨H1,O1,s1,hBk,back⟩:=Ow.lend (A:=[(ll,.lst (l.map V.int)),(lt,.lst (xs.map V.int))]) (B:=[(lg,.lst ((Tn.asI gs).map V.int))]) (((O.pull 1).pull 2));refine ⟨_,rfl,_,rfl,_,rfl,_,rfl,_,rfl,ll,b,lt,lg,.ref va,l,rs,xs,ws,gs,H1,rfl,⟨O1,.list (hV.mo s1) (hds.mo s1),hB.mo s1,SqL.of (hBk (lg,.lst ((Tn.asI gs).map V.int)) (by simp)),rl,LI.xl,gn,nd,by rw [LI.ll];exact wok,by rw [LI.ll];exact fl,by omega,gl⟩,fun M H3 hM O3=>?_⟩;rw [LI.ll] at hM;have L2:=LI.whole hf wok hM;have M0:=hM.nn;have rw1:=Tn.Nm LI M0;have O:=back _ _ O3;have hll2:=L2.ll;obtain ⟨L3,hsum⟩:=L2.one wok;obtain ⟨H4,O4,s4,hBk4,back4⟩:=Ow.lend (A:=[(ll,.lst ((Tn.bumps l (gs.map fun k=>(Tn.fW ws k,-M))).map V.int)),(lt,.lst ((Tn.bump xs (Tn.asI gs) M).map V.int))]) (B:=[(lg,.lst ((Tn.asI gs).map V.int))]) O;refine ⟨_,rfl,_,rfl,_,rfl,_,rfl,_,rfl,ll,b,lt,lg,.ref va,_,rs,_,ws,gs,H4,rfl,⟨O4,.list (hV.mo s4) (hds.mo s4),hB.mo s4,SqL.of (hBk4 (lg,.lst ((Tn.asI gs).map V.int)) (by simp)),rl,L2.xl,gn,nd,by rw [L2.ll];exact wok,by rw [L2.ll];exact fl,by omega,gl⟩,fun l5 H5 O5=>?_⟩;have O:=back4 _ _ O5;have O:=(O.del 3);have O:=O.pull 2;have O:=(O.pull 1);refine ⟨_,?_,trivial,l5,_,_,_,_,rfl,L3,rfl,?_⟩
  ·have a1:=L3.T9;have a2:=LI.T9;omega
  ·exact O
 ·have hg:gs=[]:=by
   cases gs with
   | nil=>rfl
   | cons x gs=>simp [Tn.asI] at hc
  subst hg;refine ⟨_,rfl,_,rfl,szl,fun l5 hl5=>?_⟩;walk_at "nw";exact q l5 lt ll xs l t _ (O.two) LI
abbrev uK:Stmt:=top 38
theorem Gf:aD ["one"] ["one"] (ao uK):=by walk_at "sc"
inductive T3 (K:PySem.W.Frag)(vs:List V)(H:Hp)(Q:VK)(E:XK):Prop
 | mk (t:Addr)(l:Lic)(_:vs=[.ref t])(_:SqT K H t (zG l))(_:Q (.int l.day) H)
variable {uY:Addr}{vB:FuncData}(cG:Df K mg "day_filed" uK ["one"] uY vB)
include cG in
theorem abO:(CX0|||1) uY vB ["one"] (T3 K):=by
 refine cG.F.ok Gf ?_ ?_;walk_at "i";obtain ⟨t,l,rfl,hT,q⟩:=h;refine ⟨_,(~~~(@aL _ _ _ _ (@bD _ _ _ _ _ _ _ yL (pv 0) au (fun _ _=>rfl)))),?_⟩;exact ⟨_,rfl,t,_,0,_,rfl,rfl,hT,rfl,q⟩
abbrev wg:Stmt:=top 44
theorem Nb:aD ["roll"] ["roll"] (ao wg):=by walk_at "sc"
def cC:Pos × Str:=(⟨102,40,102,88⟩,"ranked.<locals>.<lambda>")
def TT2 (P:Addr)(T:dX):Prop:=(P,cC.1,cC.2)∈T/\(T.map (·.1)).Nodup
def EY (ls:List Lic):Nat->Int:=fun k=>(ls[k]?.map Lic.day).getD 0
variable {ls:List Lic}{l:Lic}
theorem PX (h:ls[k]?=some l):EY ls k=l.day:=by unfold EY;rw [h];rfl
inductive FT (K:PySem.W.Frag)(T:dX)(vs:List V)(H:Hp)(Q:VK)(E:XK):Prop
 | mk (v:V)(ls:List Lic)(_:vs=[v])(_:Den K H v (Ss ls))(_:ls.length<64)(_:TabsOk T H)(_:sY T H (fun xs=>∃ p,xs=p.map (fun (i:Nat)=>V.int (i:Int))/\Tn.Rk (EY ls) ls.length p) Q)
def aaV (day:Nat->Int)(i:Nat):Int:=64*day i+(i:Int)
theorem RK {day:Nat->Int}(hi:i<64)(hj:j<64):HT.lexLt [day i,(i:Int)] [day j,(j:Int)]=decide (aaV day i<aaV day j):=by
 unfold aaV;rw [HT.nW,HT.nW,HT.wF];rw [afI];split
 ·split
  ·simp only [afX,decide_eq_true_eq,false_iff];omega
  ·simp only [decide_eq_true_eq];omega
 ·simp only [decide_eq_true_eq];omega
variable (pN:(CX0|||1) uY vB ["one"] (T3 K))
include cG pN in
theorem NP {pT cT:Addr}(D:Df K mg "ranked" wg ["roll"] f fd)(hcd:fd.code=.ref cT)(hhd:PySem.W.codeHdIn K cT pT=true)(hT:TT2 pT T)(hbm:BM mg base)(B:Blt mg):(CX0|||5) f fd ["roll"] (FT K T):=by
 refine D.F.okC hcd Nb (fun vs H Q E h=>?_) (fun A outer s H vs Q E hr h=>?_)
 ·obtain ⟨_,_,rfl,_⟩:=h;rfl
 ·obtain ⟨v,ls,rfl,hd,h64,tk,q⟩:=h;obtain ⟨va,vs,rfl,hV,d0⟩:=hd.kI;have hvl:vs.length=ls.length:=by rw [d0.length,ac5]
  refine ⟨_,(aK (aL (yJ (P:=pT) (c:=cT) (p:="number") (ao wg) rfl ["roll"] rfl ["roll"] [some 0] (by decide+kernel) (by decide+kernel) (by decide+kernel) rfl hbm rfl hhd (J5 hr.m) rfl B.sorted rfl B.range (aq (aB aC rfl B.len aeZ (aq (pv 0) ak)) ak) (fun A f cv s H hh hd hu=>(gD (aq (DW pN (J4 hr.m hh hd hu) rfl cG.m cG.F.kp cG.b .nil oO (aq (bD (jH (K:=K) rfl) (pv 1) (pv 0) (fun _ _=>rfl)) ak)) (aq (pv 0) ak)))) (fun _ _ _ _=>rfl)))),?_⟩;refine ⟨_,rfl,va,_,rfl,.inl hV,ls.length,by rw [hvl],h64,tk _ hT.1,fun H2 k1 k2 t2=>?_⟩;have sT:aJ T H H2:=aJ.tab tk hT.1 hT.2 k1 t2;refine ⟨fun i ts H3=>aJ T H2 H3/\ts.length=i/\∀ (j:Nat)(t:Addr),ts[j]?=some t->H3 t=some (.tup ([EY ls j,(j:Int)].map V.int)),fun i=>[EY ls i,(i:Int)],aaV (EY ls),1,⟨aJ.refl sT.t1,rfl,fun j t e=>by simp at e⟩,?_,?_,fun _ _=>rfl,fun i j hi hj=>RK (by omega) (by omega),?_,?_⟩
  ·rintro i ts H3 hi ⟨s3,htl,h3⟩;refine ⟨fun c' e=>s3.keep c' _ e fun ps z=>(by cases z),?_⟩;obtain ⟨al,hal,hTl⟩:=d0.uy (aeD hi);have hTl:=hTl.mo (sT.trans s3);have edl:=PX (aeD hi);refine ⟨_,rfl,_,rfl,va,_,(i:Int),_,rfl,rfl,(sT.trans s3).seq hV,d9 hal,al,_,rfl,hTl,?_⟩;refine ⟨_,rfl,(by show 2<=sizeLine;decide),fun t ht=>⟨t,rfl,?_⟩⟩;have nt:H2 t=none:=s3.free ht;refine ⟨s3.upd nt (.inl ht),by rw [ae1,htl];rfl,fun j t' e=>?_⟩;by_cases hj:j<ts.length
   ·rw [afO hj] at e;have h4':=h3 j t' e;rw [aN (bR h4' ht)];exact h4'
   ·rw [agq (by omega)] at e;have hj0:j - ts.length=0:=by
     have:=(aeJ.mp e).1;simp at this;omega
    have hji:j=i:=by omega
    rw [hj0] at e;simp at e;subst e;subst hji;rw [aZ,edl];rfl
  ·rintro ts H3 ⟨_,_,h3⟩;exact h3
  ·intro i j hi hj hij e;unfold aaV at e;omega
  ·rintro ts H3 D' ys ⟨s3,_,_⟩ hD ⟨p,hp,rfl,ho⟩;have hbl:(jx ls.length).length=ls.length:=by unfold jx;simp
   rw [hbl] at hp;refine q D' _ _ ((sT.trans s3).upd ((sT.trans s3).free hD) (.inl hD)) ((sT.trans s3).free hD) aZ ⟨p,?_,hp,?_⟩
   ·refine List.map_congr_left fun i hi=>?_;have hi':i<ls.length:=afk.mp (hp.mem_iff.mp hi);show (jx ls.length).getD i .non=_;unfold jx;rw [aeM,aeQ,afN hi'];rfl
   ·refine List.Pairwise.imp_of_mem (fun {a b} ha hb hab=>?_) ho;have ha:=afk.mp (hp.mem_iff.mp ha);have hb:=afk.mp (hp.mem_iff.mp hb);unfold aaV at hab;omega
abbrev uJ:Stmt:=top 45
theorem qd:aD ["roll","groups","number"] ["roll"] (ao uJ):=by walk_at "sc"
abbrev Pg:=Addr × Int × List Nat
def Qw (ps:List Pg):List (Addr × HO):=ps.map fun p=>(p.1,.lst ((Tn.asI p.2.2).map V.int))
def kvG (ps:List Pg):List (Key × V):=ps.map fun p=>(Sum.inl p.2.1,V.ref p.1)
inductive Ga (K:PySem.W.Frag)(T:dX)(vs:List V)(H:Hp)(Q:VK)(E:XK):Prop
 | mk (v:V)(ls:List Lic)(_:vs=[v])(_:Den K H v (Ss ls))(_:ls.length<64)(_:TabsOk T H)(_:∀ (l:Addr)(H':Hp)(ps:List Pg)(p:List Nat),Ow T H H' ((l,.lst (ps.map fun p=>V.ref p.1))::Qw ps)->Tn.Rk (EY ls) ls.length p->Tn.Grp (EY ls) p (ps.map (·.2))->Q (.ref l) H')
variable {ps:List Pg}{d:Int}
theorem RN {v:V}(h:Ht (kvG ps) (Sum.inl d)=some v):∃ (j:Nat)(p:Pg),ps[j]?=some p/\p.2.1=d/\v=.ref p.1:=by
 unfold Ht kvG at h;rw [List.find?_map,Option.map_map] at h;cases e:ps.find? ((fun kv:Key × V=>decide (kv.1=Sum.inl d)) ∘ fun p:Pg=>(Sum.inl p.2.1,V.ref p.1)) with
 | none=>rw [e] at h;cases h
 | some p =>
  rw [e] at h;obtain ⟨j,hj⟩:=List.getElem?_of_mem (List.mem_of_find?_eq_some e);have hp:=List.find?_some e;simp only [Function.comp,decide_eq_true_eq] at hp;exact ⟨j,p,hj,Sum.inl.inj hp,(aeY h).symm⟩
theorem RQ (h:Ht (kvG ps) (Sum.inl d)=none):∀ p∈ps,p.2.1≠d:=fun p hp e=>by
 unfold Ht kvG at h;rw [Option.map_eq_none_iff,List.find?_eq_none] at h;have:=h _ (afU hp);simp [e] at this
theorem Om {p:Pg}(h:ps[j]?=some p):(Qw ps)[j]?=some (p.1,.lst ((Tn.asI p.2.2).map V.int)):=by
 unfold Qw;rw [aeQ,h];rfl
theorem yE {f:α->β}:∀ {ps:List α}{j:Nat}{p q:α},ps[j]?=some p->f q=f p->(ps.set j q).map f=ps.map f
 | [],_,_,_,h,_=>by simp at h
 | a::ps,0,p,q,h,e=>by
  have:a=p:=by simpa using h
  subst this;simp [e]
 | a::ps,j+1,p,q,h,e=>by
  rw [af5,afg,afg,yE (by simpa using h) e]
variable {Kc:Addr}{Ke:FuncData}(wY:Df K mg "ranked" wg ["roll"] Kc Ke)
variable (Ks:(CX0|||5) Kc Ke ["roll"] (FT K T))
variable {uX:Addr}{vA:FuncData}(iR:Df K mg "groups_of" uJ ["roll"] uX vA)
include cG pN wY Ks iR in
theorem NZ (B:Blt mg):(CX0|||6) uX vA ["roll"] (Ga K T):=by
 refine iR.F.ok qd ?_ ?_;walk_at "i";obtain ⟨v,ls,rfl,hd,h64,tk,q⟩:=h;obtain ⟨va,vs,rfl,hV,d0⟩:=hd.kI;have hvl:vs.length=ls.length:=by rw [d0.length,ac5]
 refine ⟨_,(aG (1<$>qd<$>Q7)
  (aG (fJ ae7 rfl (bU (wY<*Ks<*(aq (pv 0) ak))) (2>>qd)
   (aK (aR (m7 ae3 ae5 ae6 bJ (Z6 (pv 1) (cG<*pN<*(aq (bD aM (pv 0) (pv 2) (fun _ _=>rfl)) ak)) (bF ak) ⟨rfl,rfl,rfl,rfl⟩) (aq (pv 2) ak)))))
  (aK (aL (Ie rfl rfl B.list (pv 1)))))),?_⟩
 refine adx ?_;intro zu0 zu1 zu2;have O:=Ow.refl tk;intro dg hdg;walk_at "nw";refine ⟨_,rfl,.ref va,ls,rfl,hd.BJ O.same,h64,O.same.t1,O.Cv fun lt H2 xs O ⟨p,ep,hp⟩=>?_⟩;subst ep;refine ⟨lt,rfl,⟨_,O.sq 0⟩,?_⟩;refine eV (K:=K) (xs:=p.map fun (i:Nat)=>V.int (i:Int)) (fun i σ H'=>Iv (∃ (v2:Option V)(ps:List Pg),σ=[some (.ref va),some (.ref dg),v2]/\ps.length<=i /\
  Ow T H H' ((lt,.lst (p.map fun (i:Nat)=>V.int (i:Int)))::(dg,.dK (kvG ps))::Qw ps)/\Tn.Grp (EY ls) (p.take i) (ps.map (·.2))))
  ⟨trivial,none,[],rfl,aeL _,O,Tn.Grp.start _⟩ (fun i σ H' _ ⟨_,_,_,_,_,O,_⟩=>O.sq 0) ?_ ?_
 ·rintro i y σ H3 hy ⟨-,v2,ps,rfl,hpl,O,G⟩;rw [aeQ] at hy;obtain ⟨k,hk,rfl⟩:∃ k,p[i]?=some k/\y=V.int (k:Int):=by
   cases e:p[i]? with
   | none=>rw [e] at hy;cases hy
   | some j=>rw [e] at hy;exact ⟨j,rfl,(aeY hy).symm⟩
  have hi:=(aeJ.mp hk).1;have hpn:=hp.len;have hkl:=hp.lt (aeO hk);have hbe:=hp.before hk;obtain ⟨al,hal,hTl⟩:=d0.uy (aeD hkl);have edl:=PX (aeD hkl);have hvk:vs[k]?=some (.ref al):=hal;refine ⟨_,rfl,dg,rfl,.inl ⟨_,.inl (O.get 1)⟩,_,rfl,_,rfl,va,_,(k:Int),_,rfl,rfl,O.same.seq hV,d9 hvk,al,_,rfl,hTl.mo O.same,?_⟩;rw [<- edl];refine ⟨szl,fun l1 h1=>?_⟩;walk_at "nw";refine ⟨kvG ps,Sum.inl (EY ls k),O.get 2,rfl,?_,fun v hv=>?_,fun hn=>?_⟩
  ·unfold kvG;exact aH (by rw [ac5];omega)
  ·have O:=O.tail;obtain ⟨j,pj,hj,ej,rfl⟩:=RN hv;have hgj:(ps.map (·.2))[j]?=some pj.2:=by rw [aeQ,hj];rfl
   have lat:((lt,HO.lst (p.map fun (i:Nat)=>V.int (i:Int)))::(dg,HO.dK (kvG ps))::Qw ps)[j+2]?=some (pj.1,.lst ((Tn.asI pj.2.2).map V.int)):=by
    rw [List.getElem?_cons_succ,List.getElem?_cons_succ];exact Om hj
   have hgl:pj.2.2.length<=1000:=by
    have hs:pj.2.2.Sublist (p.take i):=by rw [<- G.flat];exact Tn.zB (afU (aeO hgj))
    have:=hs.length_le;rw [ae0] at this;omega
   refine ⟨.inl ⟨rfl,_,SqL.of (O.get (j+2) lat)⟩,_,rfl,pj.1,_,_,rfl,rfl,O.get (j+2) lat,aH (by rw [ac5,Tn.kJ];omega),?_⟩;generalize hE:upd _ _ _=Hn;have O:=Ow.yI O (j+2) lat hE rfl;clear hE;refine ⟨trivial,_,ps.set j (pj.1,pj.2.1,pj.2.2++[k]),rfl,by rw [afq];omega,?_,?_⟩
   ·rw [show kvG (ps.set j (pj.1,pj.2.1,pj.2.2++[k]))=kvG ps from yE hj rfl];rw [af5,af5] at O;unfold Qw;rw [afD];unfold Qw at O;simp only [Tn.asI,aeN,afg,agb];exact O
   ·rw [Tn.fH hk,afD];exact G.more hgj ej hbe
  ·rw [Q0 _ hn];walk_at "pt";refine ⟨.inl ⟨rfl,_,O.sq 0⟩,_,rfl,l1,_,_,rfl,rfl,O.get 0,aH (by simp),?_⟩;walk_at "pt";refine ⟨trivial,_,ps++[(l1,EY ls k,[k])],rfl,by rw [ae1];simp;omega,?_,?_⟩
   ·unfold kvG Qw;rw [aeN,aeN];unfold kvG Qw at O;refine O.perm ?_;have e:((lt,HO.lst (p.map fun (i:Nat)=>V.int (i:Int)))::(dg,HO.dK (ps.map (fun p=>((Sum.inl p.2.1:Key),V.ref p.1))++[(l1,EY ls k,[k])].map (fun p:Pg=>((Sum.inl p.2.1:Key),V.ref p.1))))::(ps.map (fun p=>(p.1,HO.lst ((Tn.asI p.2.2).map V.int)))++[(l1,EY ls k,[k])].map (fun p:Pg=>(p.1,HO.lst ((Tn.asI p.2.2).map V.int)))))
     =((lt,HO.lst (p.map fun (i:Nat)=>V.int (i:Int)))::(dg,HO.dK (ps.map (fun p=>((Sum.inl p.2.1:Key),V.ref p.1))++[(Sum.inl (EY ls k),V.ref l1)]))::ps.map (fun p=>(p.1,HO.lst ((Tn.asI p.2.2).map V.int))))++[(l1,HO.lst ([]++[V.int (k:Int)]))]:=rfl
    rw [e];exact List.perm_append_comm
   ·rw [Tn.fH hk,aeN];exact G.new (fun g hg=>by
     obtain ⟨p',hp',rfl⟩:=afc.mp hg;exact RQ hn p' hp') hbe
 ·rintro σ H3 ⟨-,v2,ps,rfl,hpl,O,G⟩;rw [ac5,aeU (aeL _)] at G;refine ⟨_,rfl,dg,kvG ps,rfl,.inl (O.get 1),fun l hl=>?_⟩;walk_at "nw";have e:(kvG ps).map (·.2)=ps.map fun p=>V.ref p.1:=by unfold kvG;rw [agg];rfl
  rw [e] at O;exact q l _ ps p (O.sub ((List.Sublist.cons _ (List.Sublist.cons _ (List.Sublist.refl _))).cons₂ _)) hp G
abbrev Gk:Stmt:=top 62
theorem mY:aD ["below","springs","roll","calls","free","wants","takes","group","ways","dealt","number","take"] ["below","springs","roll","calls"] (ao Gk):=by walk_at "sc"
def Fq (r:List Int)(ls:List Lic):Nat->List Int:=Tn.fW (ls.map fun l=>Rv.nM r l.start l.back)
theorem uH (h:ls[k]?=some l):Fq r ls k=Rv.nM r l.start l.back:=by
 unfold Fq Tn.fW;rw [aeM,aeQ,h];rfl
def lN (r:List Int)(l:Lic):Prop:=acS r l/\0<=l.most
theorem Zw (hR:Rv.iG r)(h:∀ l∈ls,lN r l)(hk:k<ls.length):Tn.WOk r.length (Fq r ls k):=by
 obtain ⟨h0,h1,_⟩:=(h _ (afx hk)).1;rw [uH (aeD hk)];exact Rv.QT hR h0 h1
structure BX (r s:List Int)(ls:List Lic)(cs xs:List Int):Prop where
 len:xs.length=ls.length
 fit:Tn.Fit ls.length (Tn.fF (Rv.nats r s)) (Fq r ls) (Tn.fX (mq ls cs)) (Tn.fX xs)
 shown:Tn.G9 ls.length (Tn.fF (Rv.nats r s)) (Fq r ls) (EY ls) (Tn.fX (mq ls cs)) (Tn.fX xs)
theorem aar {s:List Int}(h:∀ x∈s,0<=x)(i:Int):0<=Rv.zm r s i:=by
 have key:∀ (n:Nat)(f:Nat->Int),(∀ j,j<n->0<=f j)->0<=Rv.tot n f:=by
  intro n f
  induction n with
  | zero=>intro _;exact afS _
  | succ n ih =>
   intro hf;have:=ih fun j hj=>hf j (by omega);have:=hf n (by omega);show 0<=Rv.tot n f+f n;omega
 refine key _ _ fun j _=>?_;by_cases hj:j<s.length
 ·have:=h _ (Tn.wH hj);split
  ·exact this
  ·exact afS _
 ·rw [aeM,afu (by omega)];split <;>exact afS _
theorem aaq {s:List Int}(h:∀ x∈s,0<=x):∀ x∈Rv.nats r s,0<=x:=fun x hx=>by
 obtain ⟨i,_,rfl⟩:=afc.mp hx;exact aar h _
variable {cs:List Int}
theorem Kz (h:ls.length=cs.length):(mq ls cs).length=ls.length:=by
 unfold mq;rw [ags];omega
theorem Ly {c:Int}(hl:ls[k]?=some l)(hc:cs[k]?=some c):(mq ls cs)[k]?=some (min c l.most):=by
 unfold mq;rw [List.getElem?_zipWith,hl,hc]
theorem Lx (h:∀ l∈ls,lN r l)(hc:∀ c∈cs,0<=c):∀ x∈mq ls cs,0<=x:=fun x hx=>by
 obtain ⟨k,hk⟩:=List.getElem?_of_mem hx;unfold mq at hk;rw [List.getElem?_zipWith] at hk;cases e1:ls[k]? with
 | none=>rw [e1] at hk;simp at hk
 | some l =>
  cases e2:cs[k]? with
  | none=>rw [e1,e2] at hk;simp at hk
  | some c =>
   rw [e1,e2] at hk;have:=(h l (aeO e1)).2;have:=hc c (aeO e2);have:x=min c l.most:=(aeY hk).symm;omega
inductive MP (K:PySem.W.Frag)(T:dX)(vs:List V)(H:Hp)(Q:VK)(E:XK):Prop
 | mk (a b c:Addr)(v:V)(r s:List Int)(ls:List Lic)(cs:List Int)(_:vs=[.ref a,.ref b,v,.ref c])(_:abh K H a r)(_:SqL K H b (s.map V.int))(_:s.length=r.length)(_:(∀ x∈s,0<=x))(_:Den K H v (Ss ls))(_:ls.length<64)(_:SqL K H c (cs.map V.int))(_:ls.length=cs.length)(_:(∀ l∈ls,lN r l))(_:(∀ c∈cs,0<=c))(_:TabsOk T H)(_:sY T H (fun ys=>∃ xs,ys=xs.map V.int/\BX r s ls cs xs) Q)
variable (mQ:(CX0|||6) rC rY ["below","springs"] (Tq K T))
variable (CV:(CX0|||2) xW yh ["roll","calls"] (Jy K T))
variable (Bo:(CX0|||6) uX vA ["roll"] (Ga K T))
variable (yQ:(CX0|||3) rm rR ["below","one"] (Ce K))
variable (yU:(CX0|||4) rG sH ["free","ways","rests"] (abg K T))
variable {Px:Addr}{Qc:FuncData}(tK:Df K mg "deal" Gk ["below","springs","roll","calls"] Px Qc)
include cU gO jB gR iR mQ CV Bo yQ yU tK in
theorem aam (B:Blt mg):
  (CX0|||7) Px Qc ["below","springs","roll","calls"] (MP K T):=by
 refine tK.F.ok mY ?_ ?_
 walk_at "i"
 obtain ⟨a,b,c,v,r,sp,ls,cs,rfl,⟨hA,hR,h64⟩,hB,hsl,hsn,hd,hl64,hC,hlc,ok,hcn,tk,q⟩:=h
 obtain ⟨va,vs,rfl,hV,d0⟩:=hd.kI
 have hvl:vs.length=ls.length:=by rw [d0.length,ac5]
 refine ⟨_,(aG (4<$>mY<$>(cU<*mQ<*(aq (pv 0) (aq (pv 1) ak))))
  (aG (JV (i:=5) mY.nd rfl (Or.inr rfl) (jB<*CV<*(aq (pv 2) (aq (pv 3) ak))))
  (aG (6<$>mY<$>(bA yK (bF (aq au ak)) (aB aC rfl B.len aeZ (aq (pv 2) ak))))
  (aG (fJ ae7 rfl (bU (iR<*Bo<*(aq (pv 2) ak))) (7>>mY)
   (aG (tX (i:=8) (ao Gk) rfl ["below","springs","roll","calls","free","wants","takes","group","ways","dealt","number","take"] rfl ["number","below","roll"] [none,some 0,some 2] (by decide+kernel) (by decide+kernel) (by decide+kernel) rfl mY.nd rfl rfl (bU (pv 7)) (fun _ _ _=>(bG (i:=0) (show (["number","below","roll"]:List Str).Nodup by decide+kernel) rfl (Or.inl rfl))) (fun _ _ _=>gB) (fun _ _ _=>(gO<*yQ<*(aq (pv 1) (aq (bD (jH (K:=K) rfl) (pv 2) (pv 0) (fun _ _=>rfl)) ak)))) rfl)
   (aG (gC (gR<*yU<*(aq (pv 4) (aq (pv 8) (aq (gF (ao Gk) rfl ["below","springs","roll","calls","free","wants","takes","group","ways","dealt","number","take"] rfl ["number","wants"] [none,some 5] (by decide+kernel) (by decide+kernel) (by decide+kernel) rfl (bU (pv 7)) (fun _ _ _=>(bG (i:=0) (show (["number","wants"]:List Str).Nodup by decide+kernel) rfl (Or.inl rfl))) (fun _ _ _=>gB) (fun _ _ _=>(bD (jH (K:=K) rfl) (pv 1) (pv 0) (fun _ _=>rfl)))) ak)))) (iB rfl (aA (9>>mY) (aA (4>>mY) bN))))
   (aK (fJ ae7 rfl (zV rfl B.zip (aq (pv 7) (aq (pv 9) ak))) (iB rfl (aA (10>>mY) (aA (11>>mY) bN)))
    (aK (gC (pv 11) (uw (pv 6) (pv 10) set_list))))))))
  (aK (aL (pv 6))))))),?_⟩
 refine adw ?_
 intro zu0 zu1 zu2 zu3 zu4 zu5 zu6 zu7
 have O:=Ow.refl tk
 refine ⟨_,rfl,_,rfl,a,b,r,sp,rfl,⟨hA,hR,h64⟩,hB,hsl,tk,O.Cv fun lf H1 ys O e=>?_⟩
 subst e
 refine ⟨_,rfl,_,rfl,.ref va,c,ls,cs,rfl,hd.BJ O.same,O.same.seq hC,hlc,by omega,O.same.t1,O.Cv fun lw H2 ys O e=>?_⟩
 subst e
 have hnl:(Rv.nats r sp).length=r.length:=(Rv.Im r sp).len
 have hnn:=aaq (r:=r) hsn
 have hwl:=Kz hlc
 have hwn:=Lx ok hcn
 have hW:=fun k (hk:k<ls.length)=>Zw hR ok hk
 have hwk:∀ k,k<ls.length->0<=Tn.fX (mq ls cs) k:=fun k hk=>hwn _ (Tn.wH (by omega))
 generalize hwa:mq ls cs=wa at O hwl hwn hwk
 refine ⟨szl,fun l1 h1=>?_⟩
 walk_at "nw"
 refine ⟨_,rfl,va,_,rfl,.inl (O.same.seq hV),l1,_,_,rfl,rfl,O.get 0,by omega,by omega,f9 (by rw [aeT];simp;omega),fun lt hlt=>?_⟩
 walk_at "nw"
 rw [aeT,lD,hvl] at O
 have O:=O.two
 refine ⟨_,rfl,.ref va,ls,rfl,hd.BJ O.same,hl64,O.same.t1,fun lg H3 ps p OG R G=>?_⟩
 have nin:∀ q∈((lg,HO.lst (ps.map fun p=>V.ref p.1))::Qw ps),∀ z∈[(lt,HO.lst ((List.replicate ls.length 0).map V.int)),(lw,.lst (wa.map V.int)),(lf,.lst ((Rv.nats r sp).map V.int))],z.1≠q.1:=fun q hq z hz e=>by
  have h1:=OG.new q hq
  have h2:=O.at_ z hz
  rw [e,h1] at h2;cases h2
 obtain ⟨Hb,O,sb,kb⟩:=(O.jq OG.same).reb
 have hG:SqL K Hb lg (ps.map fun p=>V.ref p.1):=SqL.of (kb lg _ (OG.get 0) (nin _ afd))
 have hP:∀ (j:Nat)(pj:Pg),ps[j]?=some pj->SqL K Hb pj.1 ((Tn.asI pj.2.2).map V.int):=fun j pj hj=>by
  have:=Om hj
  have hm:=aeO this
  exact SqL.of (kb _ _ (OG.at_ _ (ae4 _ hm)) (nin _ (ae4 _ hm)))
 clear nin kb OG
 have hA:=sb.seq hA
 have hV:=sb.seq hV
 have d0:=d0.mo sb
 refine ⟨lg,rfl,⟨_,O.same.seq hG⟩,?_⟩
 refine eV (K:=K) (xs:=ps.map fun p=>V.ref p.1) (fun j σ H'=>Iv (∃ (lf:Addr)(v7 v8 v9 v10 v11:Option V)(xs fl:List Int),σ=[some (.ref a),some (.ref b),some (.ref va),some (.ref c),some (.ref lf),some (.ref lw),some (.ref lt),v7,v8,v9,v10,v11] /\
  Ow T Hb H' [(lt,.lst (xs.map V.int)),(lw,.lst (wa.map V.int)),(lf,.lst (fl.map V.int))]/\Tn.Lp ls.length (Rv.nats r sp) (Fq r ls) (EY ls) (Tn.fX wa) (ps.map (·.2)) j xs fl))
  ⟨trivial,lf,none,none,none,none,none,_,_,rfl,O,Tn.Lp.start _ hwk hnn⟩ (fun i σ H' _ ⟨_,_,_,_,_,_,_,_,_,_,O,_⟩=>O.same.seq hG) ?_ ?_
 ·rintro j y σ H4 hy ⟨-,lf,v7,v8,v9,v10,v11,xs,fl,rfl,O,GI⟩
  rw [aeQ] at hy
  obtain ⟨pj,hj,rfl⟩:∃ pj,ps[j]?=some pj/\y=V.ref pj.1:=by
   cases e:ps[j]? with
   | none=>rw [e] at hy;cases hy
   | some j=>rw [e] at hy;exact ⟨j,rfl,(aeY hy).symm⟩
  have hgj:(ps.map (·.2))[j]?=some pj.2:=by rw [aeQ,hj];rfl
  have hPj:=hP j pj hj
  have up:=G.up R (aeO hgj)
  have nd:=Tn.iV up
  have hlt:∀ k∈pj.2.2,k<ls.length:=fun k hk=>R.lt (by rw [<- G.flat];exact List.mem_flatten.mpr ⟨pj.2.2,afU (aeO hgj),hk⟩)
  have hgl:pj.2.2.length<=ls.length:=by
   have hs:pj.2.2.Sublist p:=by rw [<- G.flat];exact Tn.zB (afU (aeO hgj))
   have:=hs.length_le
   rw [R.len] at this;exact this
  have hfl:=GI.fll
  have hxl:=GI.xl
  have hfn:=GI.nn hnn
  /- ways -/
  refine ⟨_,rfl,pj.1,rfl,⟨_,O.same.seq hPj⟩,fun acc hacc=>?_⟩
  refine d8 (K:=K) (xs:=(Tn.asI pj.2.2).map V.int) (fun i τ H'=>Iv (∃ (v0:Option V)(Hc:Hp)(us:List V),τ=[v0,some (.ref a),some (.ref va)]/\Ow T Hc H' [(acc,.lst us),(lt,.lst (xs.map V.int)),(lw,.lst (wa.map V.int)),(lf,.lst (fl.map V.int))]/\aJ T Hb Hc/\bZ K Hc us ((pj.2.2.take i).map fun k=>vN (Fq r ls k))))
   ⟨trivial,none,Hb,[],rfl,O.mk' hacc rfl,aJ.refl O.same.t0,.nil⟩ (fun i τ H' _ ⟨_,_,_,_,_,O,sc,_⟩=>(sc.trans O.same).seq hPj) ?_ ?_
  ·rintro i y τ H5 hy ⟨-,v0,Hc,us,rfl,O,sc,d1⟩
   obtain ⟨z,hz,rfl⟩:=ints_get hy
   obtain ⟨k,hk,rfl⟩:=Tn.jQ hz
   have hi:=(aeJ.mp hk).1
   have hkl:=hlt k (aeO hk)
   obtain ⟨al,hal,hTl⟩:=d0.uy (aeD hkl)
   refine Lj ?_
   refine ⟨_,rfl,_,rfl,_,rfl,va,_,(k:Int),_,rfl,rfl,(sc.trans O.same).seq hV,d9 hal,a,al,r,_,rfl,(sc.trans O.same).seq hA,hR,by omega,hTl.mo (sc.trans O.same),(ok _ (afx hkl)).1,O.got fun lx H6 ys O e=>?_⟩
   subst e
   refine ⟨_,O.get 1,aH (by rw [d1.length,ac5,ae0];omega),?_⟩
   walk_at "pt"
   obtain ⟨Hn2,O,sn,en2⟩:=O.frz
   refine ⟨trivial,_,Hn2,us++[.ref lx],rfl,O,sc.trans sn,?_⟩
   rw [Tn.iy hk]
   refine (d1.mo sn).append (.cons ?_ .nil)
   rw [uH (aeD hkl)]
   exact Den.ints (SqL.of en2)
  rintro τ H5 ⟨-,v0,Hc,us,rfl,O,sc,d1⟩
  rw [ac5,Tn.kJ,aeU (aeL _)] at d1
  /- rests -/
  refine ⟨_,rfl,_,rfl,_,rfl,pj.1,rfl,⟨_,(sc.trans O.same).seq hPj⟩,fun ac2 hac2=>?_⟩
  refine d8 (K:=K) (xs:=(Tn.asI pj.2.2).map V.int) (fun i τ H'=>Iv (∃ (v0:Option V),τ=[v0,some (.ref lw)]/\Ow T Hc H' [(ac2,.lst (((pj.2.2.take i).map (Tn.fX wa)).map V.int)),(acc,.lst us),(lt,.lst (xs.map V.int)),(lw,.lst (wa.map V.int)),(lf,.lst (fl.map V.int))]))
   ⟨trivial,none,rfl,O.mk' hac2 rfl⟩ (fun i τ H' _ ⟨_,_,_,O⟩=>(sc.trans O.same).seq hPj) ?_ ?_
  ·rintro i y τ H6 hy ⟨-,v0,rfl,O⟩
   obtain ⟨z,hz,rfl⟩:=ints_get hy
   obtain ⟨k,hk,rfl⟩:=Tn.jQ hz
   have hi:=(aeJ.mp hk).1
   have hkl:=hlt k (aeO hk)
   refine Lj ?_
   refine ⟨_,rfl,_,rfl,lw,_,(k:Int),_,rfl,rfl,O.sq 3,bV (gG (ns:=wa) (k:=k) (by omega)),?_⟩
   refine ⟨_,O.get 0,aH (by rw [ac5,ac5,ae0];omega),?_⟩
   walk_at "pt"
   refine ⟨trivial,_,rfl,?_⟩
   rw [Tn.iy hk,aeN];exact O
  rintro τ H6 ⟨-,v0,rfl,O⟩
  rw [ac5,Tn.kJ,aeU (aeL _)] at O
  have dws:bZ K Hc us ((pj.2.2.map (Fq r ls)).map vN):=by rw [agg];exact d1
  refine ⟨lf,ac2,.ref acc,fl,pj.2.2.map (Tn.fX wa),pj.2.2.map (Fq r ls),rfl,O.sq 4,.list (O.sq 1) (dws.mo O.same),O.sq 0,by rw [ac5,ac5],by omega,by rw [ac5];omega,fun w hw=>?_,hfn,fun x hx=>?_,O.same.t1,fun l lt2 ll ys left t H7 OD L=>?_⟩
  ·obtain ⟨k,hk,rfl⟩:=afc.mp hw
   rw [hfl,hnl]
   exact hW k (hlt k hk)
  ·obtain ⟨k,hk,rfl⟩:=afc.mp hx
   exact hwk k (hlt k hk)
  have O:=O.join OD
  walk_at "jn"
  refine ⟨l,_,rfl,O.sqT 0,rfl,_,_,rfl,_,_,rfl,rfl,?_⟩
  have O:=((((O.del 0).del 2).del 2).del 4)
  walk_at "er"
  have hyl:ys.length=pj.2.2.length:=by rw [L.xl,ac5]
  refine ⟨_,rfl,_,rfl,pj.1,lt2,_,_,rfl,(sc.trans O.same).seq hPj,O.sq 0,?_⟩
  refine Et (K:=K) (fun i σ H'=>Iv (∃ (v10 v11:Option V)(cur:List Int),σ=[some (.ref a),some (.ref b),some (.ref va),some (.ref c),some (.ref ll),some (.ref lw),some (.ref lt),some (.ref pj.1),some (.ref acc),some (.ref lt2),v10,v11]/\cur.length=ls.length/\(∀ k,Tn.fX cur k=Tn.over (Tn.fX xs) (pj.2.2.take i) (Tn.fX ys) k) /\
   Ow T Hc H' [(lt2,.lst (ys.map V.int)),(ll,.lst (left.map V.int)),(lt,.lst (cur.map V.int)),(lw,.lst (wa.map V.int))])) (by rw [ac5,ac5,Tn.kJ];omega)
   ⟨trivial,_,_,xs,rfl,hxl,fun k=>by rw [List.take_zero,Tn.oR (by simp)],O⟩ (fun i σ H' _ ⟨_,_,_,_,_,_,_,O⟩=>⟨(sc.trans O.same).seq hPj,O.sq 0⟩) ?_ ?_
  ·rintro i x y t' σ H8 hx hy ⟨-,v10,v11,cur,rfl,hcl,hov,O⟩ ht
   obtain ⟨z,hz,rfl⟩:=ints_get hx
   obtain ⟨k,hk,rfl⟩:=Tn.jQ hz
   obtain ⟨u,hu,rfl⟩:=ints_get hy
   have hkl:=hlt k (aeO hk)
   walk_at "nw"
   refine ⟨t',_,rfl,O.sqT 0,rfl,_,_,rfl,_,_,rfl,rfl,?_⟩
   refine ⟨_,rfl,_,rfl,_,rfl,lt,_,_,k,rfl,rfl,O.get 3,iJ (by rw [ac5];omega),?_⟩
   walk_at "pt"
   have O:=O.tail
   refine ⟨trivial,_,_,cur.set k u,rfl,by rw [afq];exact hcl,fun m=>?_,by rw [afD];exact O⟩
   rw [Tn.Ny nd hk m,<- hov m]
   unfold Tn.fX
   rw [Tn.Ep (by omega)]
   by_cases hm:m=k
   ·rw [if_pos hm,if_pos hm,aeM,hu];rfl
   ·rw [if_neg hm,if_neg hm]
  ·rintro σ H8 ⟨-,v10,v11,cur,rfl,hcl,hov,O⟩
   rw [ac5,Tn.kJ,aeU (aeL _)] at hov
   have O:=(O.base sc).tail
   have O:=O.pull 2
   walk_at "er"
   have O:=O.pull 2
   walk_at "er"
   refine ⟨trivial,ll,_,_,_,_,_,cur,left,rfl,O,?_⟩
   exact GI.step G R hgj (by rw [hnl];exact hW) L hcl hov
 ·rintro σ H4 ⟨-,lf,v7,v8,v9,v10,v11,xs,fl,rfl,O,GI⟩
  rw [ac5] at GI
  have GI:Tn.Lp ls.length (Rv.nats r sp) (Fq r ls) (EY ls) (Tn.fX wa) (ps.map (·.2)) (ps.map (·.2)).length xs fl:=by rw [ac5];exact GI
  obtain ⟨F1,F2⟩:=GI.finish G R
  rw [<- hwa] at F1 F2
  exact ⟨_,rfl,(O.base sb).ret 0 rfl q ⟨xs,rfl,GI.xl,F1,F2⟩⟩
abbrev qw:Stmt:=top 68
theorem eH:aD ["roll","ponds","kept","calls","lessened","pond","keeps","number","room","leak"] ["roll","ponds","kept","calls"] (ao qw):=by walk_at "sc"
def uh (cs:List Int)(ps:List (Int × Int × Int))(ks:List Int):Nat->List Int
 | 0=>cs
 | i+1=>(uh cs ps ks i).set (ps.getD i (0,0,0)).1.toNat (min (cs.getD (ps.getD i (0,0,0)).1.toNat 0) ((ps.getD i (0,0,0)).2.1 - ks.getD i 0))
theorem wG (cs:List Int)(ps:List (Int × Int × Int))(ks:List Int):∀ i,(uh cs ps ks i).length=cs.length
 | 0=>rfl
 | i+1=>by rw [uh,afq];exact wG cs ps ks i
inductive abd (K:PySem.W.Frag)(T:dX)(vs:List V)(H:Hp)(Q:VK)(E:XK):Prop
 | mk (v:V)(b c d:Addr)(us:List V)(ps:List (Int × Int × Int))(ks cs:List Int)(_:vs=[v,.ref b,.ref c,.ref d])(_:SqL K H b us)(_:bZ K H us (ps.map dMv))(_:SqL K H c (ks.map V.int))(_:ps.length=ks.length)(_:SqL K H d (cs.map V.int))(_:(∀ p∈ps,0<=p.1/\p.1<(cs.length:Int)))(_:TabsOk T H)(_:sY T H (fun ys=>ys=(uh cs ps ks ps.length).map V.int) Q)
variable {rB:Addr}{rW:FuncData}(gQ:Df K mg "pond_calls" qw ["roll","ponds","kept","calls"] rB rW)
include gQ in
theorem adK (B:Blt mg):(CX0|||1) rB rW ["roll","ponds","kept","calls"] (abd K T):=by
 refine gQ.F.ok eH ?_ ?_;walk_at "i";obtain ⟨v,b,c,d,us,ps,ks,cs,rfl,hB,d0,hC,hpk,hD,hrg,tk,q⟩:=h;have hul:us.length=ps.length:=by rw [d0.length,ac5]
 have O:=Ow.refl tk;refine ⟨_,(aG (4<$>eH<$>(bW bf rfl B.list afe (aq (pv 3) ak)))
  (aG (fJ ae7 rfl (zV rfl B.zip (aq (pv 1) (aq (pv 2) ak))) (iB rfl (aA (5>>eH) (aA (6>>eH) bN)))
   (aG (gC (pv 5) (iB rfl (aA (7>>eH) (aA (8>>eH) (aA (9>>eH) bN)))))
   (aK (gC (aB (GQ rfl) rfl B.min PyProof.Rows.boot_min (aq (bD aM (pv 3) (pv 7) (fun _ _=>rfl)) (aq (bA wA (pv 8) (pv 6)) ak))) (uw (pv 4) (pv 7) set_list)))))
  (aK (aL (pv 4))))),?_⟩
 refine adv ?_;intro zu0 zu1 zu2 zu3;refine ⟨_,rfl,d,_,rfl,.inl hD,fun lm hlm=>?_⟩;walk_at "nw";refine ⟨_,rfl,_,rfl,b,c,_,_,rfl,O.same.seq hB,O.same.seq hC,?_⟩;refine Et (K:=K) (fun i σ H'=>Iv (∃ (v5 v6 v7 v8 v9:Option V),σ=[some v,some (.ref b),some (.ref c),some (.ref d),some (.ref lm),v5,v6,v7,v8,v9]/\Ow T H H' [(lm,.lst ((uh cs ps ks i).map V.int))]))
  (by rw [ac5];omega) ⟨trivial,none,none,none,none,none,rfl,O⟩ (fun _ _ _ _ ⟨_,_,_,_,_,_,_,O⟩=>⟨O.same.seq hB,O.same.seq hC⟩) ?_ ?_
 ·rintro i x y t' σ H3 hx hy ⟨-,v5,v6,v7,v8,v9,rfl,O⟩ ht';obtain ⟨ap,p,rfl,hp,hT⟩:=d0.J1 hx;obtain ⟨u,hu,rfl⟩:=ints_get hy;have hr:=hrg p (aeO hp);walk_at "nw";refine ⟨t',_,rfl,O.sqT 0,rfl,_,_,rfl,_,_,rfl,rfl,?_⟩;have O:=O.tail;refine ⟨_,rfl,ap,_,rfl,hT.mo O.same,rfl,_,_,rfl,_,_,rfl,_,_,rfl,rfl,?_⟩;refine ⟨_,rfl,_,rfl,d,_,_,_,rfl,rfl,O.same.seq hD,iz hr.1 hr.2,_,rfl,_,rfl,_,_,rfl,rfl,_,_,rfl,_,rfl,_,rfl,?_⟩;refine ux O 0 rfl (adT hr.1 (by rw [ac5,wG];exact hr.2)) fun H6 O=>?_;refine ⟨trivial,_,_,_,_,_,rfl,?_⟩;rw [uh,getD_some hp,getD_some hu,afD];have em:min (cs.getD p.1.toNat 0) (p.2.1 - u)=if p.2.1 - u<cs.getD p.1.toNat 0 then p.2.1 - u else cs.getD p.1.toNat 0:=by split <;>omega
  rw [em];exact O
 rintro σ H3 ⟨-,v5,v6,v7,v8,v9,rfl,O⟩;rw [hul] at O;exact ⟨_,rfl,O.ret 0 rfl q rfl⟩
abbrev zR:Stmt:=top 69
theorem fM:aD ["ponds","kept","takes","after","lost","pond","keeps","number","room","leak","full","loss"] ["ponds","kept","takes"] (ao zR):=by walk_at "sc"
def GK (ps:List (Int × Int × Int))(ks xs:List Int)(i:Nat):Int:=ks.getD i 0+xs.getD (ps.getD i (0,0,0)).1.toNat 0
def BK (ps:List (Int × Int × Int))(ks xs:List Int)(i:Nat):Int:=GK ps ks xs i*(ps.getD i (0,0,0)).2.2 / 1000
inductive TV (K:PySem.W.Frag)(T:dX)(vs:List V)(H:Hp)(Q:VK)(E:XK):Prop
 | mk (b c d:Addr)(us:List V)(ps:List (Int × Int × Int))(ks xs:List Int)(_:vs=[.ref b,.ref c,.ref d])(_:SqL K H b us)(_:bZ K H us (ps.map dMv))(_:ps.length<=1000)(_:SqL K H c (ks.map V.int))(_:ps.length=ks.length)(_:SqL K H d (xs.map V.int))(_:(∀ p∈ps,0<=p.1/\p.1<(xs.length:Int)/\0<=p.2.2/\p.2.2<=1000))(_:TabsOk T H)(_:∀ (t la ll:Addr)(H':Hp),Ow T H H' [(t,.tup [.ref la,.ref ll]),(ll,.lst (((List.range ps.length).map (BK ps ks xs)).map V.int)),(la,.lst (((List.range ps.length).map fun i=>GK ps ks xs i - BK ps ks xs i).map V.int))]->Q (.ref t) H')
theorem JQ (f:Nat->Int)(i:Nat):((List.range (i+1)).map f).map V.int=((List.range i).map f).map V.int++[V.int (f i)]:=by
 rw [agk,aeN,aeN];rfl
variable {Ao:Addr}{Ay:FuncData}(mj:Df K mg "evening" zR ["ponds","kept","takes"] Ao Ay)
include mj in
theorem abM (B:Blt mg)(hW:∃ t,mg "WHOLE"=some (.int 1000 t)):(CX0|||1) Ao Ay ["ponds","kept","takes"] (TV K T):=by
 obtain ⟨tW,hWHOLE⟩:=hW;refine mj.F.ok fM ?_ ?_;walk_at "i";obtain ⟨b,c,d,us,ps,ks,xs,rfl,hB,d0,hpl,hC,hpk,hD,hrg,tk,q⟩:=h;have hul:us.length=ps.length:=by rw [d0.length,ac5]
 have O:=Ow.refl tk;refine ⟨_,(aG (3<$>fM<$>(bF ak))
  (aG (4<$>fM<$>(bF ak))
  (aG (fJ ae7 rfl (zV rfl B.zip (aq (pv 0) (aq (pv 1) ak))) (iB rfl (aA (5>>fM) (aA (6>>fM) bN)))
   (aG (gC (pv 5) (iB rfl (aA (7>>fM) (aA (8>>fM) (aA (9>>fM) bN)))))
   (aG (10<$>fM<$>(bA pW (pv 6) (bD aM (pv 2) (pv 7) (fun _ _=>rfl))))
   (aG (11<$>fM<$>(bA xR (bA JX (pv 10) (pv 9)) (dY (v:=.int (1000)) rfl hWHOLE ⟨_,rfl⟩)))
   (aG (aR (m7 ae3 ae5 ae6 bJ (pv 3) (aq (bA wA (pv 10) (pv 11)) ak)))
   (aK (aR (m7 ae3 ae5 ae6 bJ (pv 4) (aq (pv 11) ak)))))))))
  (aK (aL (gD (aq (pv 3) (aq (pv 4) ak)))))))),?_⟩
 refine adu ?_;intro zu0 zu1 zu2 zu3 zu4 zu5 zu6 zu7;refine ⟨szl,fun la hla=>?_⟩;walk_at "nw";refine ⟨szl,fun ll hll=>?_⟩;walk_at "nw";refine ⟨_,rfl,_,rfl,b,c,_,_,rfl,O.same.seq hB,O.same.seq hC,?_⟩;refine Et (K:=K) (fun i σ H'=>Iv (∃ (v5 v6 v7 v8 v9 v10 v11:Option V),σ=[some (.ref b),some (.ref c),some (.ref d),some (.ref la),some (.ref ll),v5,v6,v7,v8,v9,v10,v11]/\Ow T H H' [(ll,.lst (((List.range i).map (BK ps ks xs)).map V.int)),(la,.lst (((List.range i).map fun i=>GK ps ks xs i - BK ps ks xs i).map V.int))]))
  (by rw [ac5];omega) ⟨trivial,none,none,none,none,none,none,none,rfl,O⟩ (fun _ _ _ _ ⟨_,_,_,_,_,_,_,_,_,O⟩=>⟨O.same.seq hB,O.same.seq hC⟩) ?_ ?_
 ·rintro i x y t' σ H3 hx hy ⟨-,v5,v6,v7,v8,v9,v10,v11,rfl,O⟩ ht';obtain ⟨ap,p,rfl,hp,hT⟩:=d0.J1 hx;obtain ⟨u,hu,rfl⟩:=ints_get hy;have hi:=(aeJ.mp hp).1;have hr:=hrg p (aeO hp);have e1:GK ps ks xs i=u+xs.getD p.1.toNat 0:=by unfold GK;rw [getD_some hp,getD_some hu]
  have e2:BK ps ks xs i=(u+xs.getD p.1.toNat 0)*p.2.2 / 1000:=by unfold BK;rw [e1,getD_some hp]
  walk_at "nw";refine ⟨t',_,rfl,O.sqT 0,rfl,_,_,rfl,_,_,rfl,rfl,?_⟩;have O:=O.tail;refine ⟨_,rfl,ap,_,rfl,hT.mo O.same,rfl,_,_,rfl,_,_,rfl,_,_,rfl,rfl,?_⟩;refine ⟨_,rfl,_,rfl,_,rfl,d,_,_,_,rfl,rfl,O.same.seq hD,iz hr.1 hr.2.1,_,_,rfl,rfl,?_⟩;refine ⟨_,rfl,_,rfl,_,_,rfl,rfl,.inr ⟨by omega,by omega⟩,_,_,rfl,rfl,⟨by decide,by decide⟩,?_⟩;refine ⟨_,rfl,.inl ⟨rfl,_,O.sq 1⟩,_,rfl,_,rfl,_,_,rfl,rfl,la,_,_,rfl,rfl,O.get 1,aH (by rw [ac5,ac5,afz];omega),?_⟩;walk_at "pt";refine ⟨_,rfl,.inl ⟨rfl,_,O.sq 0⟩,_,rfl,ll,_,_,rfl,rfl,O.get 0,aH (by rw [ac5,ac5,afz];omega),?_⟩;walk_at "pt";refine ⟨trivial,_,_,_,_,_,_,_,rfl,?_⟩;rw [JQ,JQ,e2,e1];exact O
 rintro σ H3 ⟨-,v5,v6,v7,v8,v9,v10,v11,rfl,O⟩;rw [hul] at O;refine ⟨_,rfl,_,rfl,szl,fun t ht=>?_⟩;walk_at "nw";exact q t la ll _ O
abbrev oA:Stmt:=top 32
theorem Ge:aD ["below"] ["below"] (ao oA):=by walk_at "sc"
inductive FW (K:PySem.W.Frag)(T:dX)(vs:List V)(H:Hp)(Q:VK)(E:XK):Prop
 | mk (a:Addr)(r:List Int)(_:vs=[.ref a])(_:SqL K H a (r.map V.int))(_:r.length<64)(_:TabsOk T H)(_:sY T H (fun xs=>xs=(Rv.Ob r r.length).map V.int) Q)
variable {uW:Addr}{vq:FuncData}(iQ:Df K mg "mouths_of" oA ["below"] uW vq)
include iQ in
theorem NQ (B:Blt mg)(C:Mth mg):(CX0|||1) uW vq ["below"] (FW K T):=by
 obtain ⟨tM,hMOUTH⟩:=C.MOUTH;refine iQ.F.ok Ge ?_ ?_;walk_at "i";obtain ⟨a,r,rfl,hS,h64,tk,q⟩:=h;refine ⟨_,(aK (aL (gF (ao oA) rfl ["below"] rfl ["reach","below"] [none,some 0] (by decide+kernel) (by decide+kernel) (by decide+kernel) rfl (nU rfl B.range (aq (aB aC rfl B.len aeZ (aq (pv 0) ak)) ak)) (fun _ _ _=>(bG (i:=0) (show (["reach","below"]:List Str).Nodup by decide+kernel) rfl (Or.inl rfl))) (fun _ _ _=>(DK (aQ Ef (bD (jH (K:=K) rfl) (pv 1) (pv 0) (fun _ _=>rfl)) (dY (v:=.int (-1)) rfl hMOUTH ⟨_,rfl⟩) (bx _)))) (fun _ _ _=>(pv 0))))),?_⟩;have O:=Ow.refl tk;have hml:(r.map V.int).length=r.length:=ac5 _;refine ⟨_,rfl,a,_,rfl,.inl hS,_,rfl,by rw [hml];omega,by rw [hml];omega,fun acc hacc=>?_⟩;rw [hml,aeT];refine yw (n:=r.length) (fun i τ H2=>∃ v,τ=[v,some (.ref a)]/\Ow T H H2 [(acc,.lst ((Rv.Ob r i).map V.int))]) ⟨none,rfl,O.mk' hacc rfl⟩ ?_ ?_
 ·rintro i τ H2 hi ⟨v,rfl,O⟩;rw [show (0:Int)+(i:Int)=(i:Int) by omega];have g:=Rv.jz (r:=r) (p:=(i:Int)) (by omega) (by omega);have ol:=Rv.J2 r i;refine ⟨_,rfl,_,rfl,a,_,_,_,rfl,rfl,O.same.seq hS,mH (by omega) g,rfl,_,rfl,?_⟩;by_cases hm:Rv.nxt r (i:Int)=-1
  ·rw [hm];refine zA ?_;refine ⟨_,rfl,_,O.get 0,aH (by rw [ac5];omega),?_⟩;walk_at "put";intro H4 O;exact ⟨_,rfl,by rw [Rv.Gw,if_pos hm,aeN];exact O⟩
  ·have hd:decide (V.int (Rv.nxt r (i:Int))=V.int (-1))=false:=by simp [hm]
   rw [hd];refine um ?_;exact ⟨_,rfl,by rw [Rv.Gw,if_neg hm,agt];exact O⟩
 rintro τ H2 ⟨v,rfl,O⟩;exact O.ret 0 rfl q rfl
abbrev xK:Stmt:=top 53
theorem jy:aD ["below","springs","moves","flows","start","stop","amount","reach"] ["below","springs","moves"] (ao xK):=by walk_at "sc"
inductive JF (K:PySem.W.Frag)(T:dX)(vs:List V)(H:Hp)(Q:VK)(E:XK):Prop
 | mk (a b c:Addr)(r s:List Int)(ms:List Rv.Mv)(_:vs=[.ref a,.ref b,.ref c])(_:abh K H a r)(_:SqL K H b (s.map V.int))(_:s.length=r.length)(_:Den K H (.ref c) (aez ms))(_:(∀ m∈ms,Rv.aeb r m))(_:TabsOk T H)(_:sY T H (fun xs=>xs=(Rv.ac6 r s ms).map V.int) Q)
variable {yc:Addr}{yr:FuncData}(jE:Df K mg "flows_of" xK ["below","springs","moves"] yc yr)
include cU cR mO mQ jE in
theorem Rh:(CX0|||7) yc yr ["below","springs","moves"] (JF K T):=by
 refine jE.F.ok jy ?_ ?_;walk_at "i";obtain ⟨a,b,c,r,sp,ms,rfl,⟨hS,hR,h64⟩,hB,hl,hM,good,tk,q⟩:=h;refine ⟨_,(aG (3<$>jy<$>(cU<*mQ<*(aq (pv 0) (aq (pv 1) ak))))
  (aG (fJ ae7 rfl (bU (pv 2)) (iB rfl (aA (4>>jy) (aA (5>>jy) (aA (6>>jy) bN))))
   (aK (fJ ae7 rfl (bU (cR<*mO<*(aq (pv 0) (aq (pv 4) (aq (pv 5) ak))))) (7>>jy)
    (aK (uT (pv 3) (pv 7) oU (pv 6) Ox set_list)))))
  (aK (aL (pv 3))))),?_⟩
 refine aeg ?_;intro zu0 zu1 zu2 zu3;obtain ⟨c',xs,ec,hq,hds⟩:=hM.aas;cases ec;have hxl:xs.length=ms.length:=by rw [hds.length,ac5]
 have O:=Ow.refl tk;refine ⟨_,rfl,_,rfl,a,b,r,sp,rfl,⟨hS,hR,h64⟩,hB,hl,tk,O.Cv fun lf H1 fs O e1=>?_⟩;subst e1;refine ⟨_,rfl,c,rfl,⟨_,O.same.seq hq⟩,?_⟩;refine eV (K:=K) (a:=c) (xs:=xs) (fun t σ H2=>∃ (v4 v5 v6 v7:Option V)(fl:List Int),σ=[some (.ref a),some (.ref b),some (.ref c),some (.ref lf),v4,v5,v6,v7]/\Ow T H H2 [(lf,.lst (fl.map V.int))]/\Rv.Fl r.length fl fun i=>Rv.zm r sp (i:Int) - Rv.Ry r (ms.take t) (i:Int))
  ⟨none,none,none,none,_,rfl,O,(Rv.Im r sp).Li fun i _=>by show _=_ - (0:Int);omega⟩ (fun _ _ _ _ ⟨_,_,_,_,_,_,O,_⟩=>O.same.seq hq) ?_ ?_
 ·rintro t y σ H2 hy ⟨v4,v5,v6,v7,fl,rfl,O,FL⟩;obtain ⟨d,hd,hden⟩:=hds.get' hy;rw [aeQ] at hd;obtain ⟨m,hm,rfl⟩:∃ m,ms[t]?=some m/\d=dMv m:=by
   cases e:ms[t]? with
   | none=>rw [e] at hd;cases hd
   | some m=>rw [e] at hd;exact ⟨m,rfl,(aeY hd).symm⟩
  obtain ⟨ta,rfl,ht⟩:=hden.Ud;obtain ⟨g0,g1,g2⟩:=good m (aeO hm);refine ⟨ta,_,rfl,O.same.acX ht,rfl,_,_,rfl,_,_,rfl,_,_,rfl,rfl,?_⟩;refine ⟨_,rfl,_,rfl,_,rfl,a,r,m.1,m.2.1,rfl,O.same.seq hS,hR,g0,g1,by omega,g2,O.got fun ls H3 zs O e3=>?_⟩;subst e3;refine ⟨ls,rfl,⟨_,O.sq 0⟩,?_⟩;refine eV (K:=K) (a:=ls) (xs:=(Rv.nM r m.1 m.2.1).map V.int) (fun i σ H4=>∃ (v7:Option V)(fl:List Int),σ=[some (.ref a),some (.ref b),some (.ref c),some (.ref lf),some (.int m.1),some (.int m.2.1),some (.int m.2.2),v7] /\
   Ow T H H4 [(ls,.lst ((Rv.nM r m.1 m.2.1).map V.int)),(lf,.lst (fl.map V.int))]/\Rv.MvI r (fun i=>Rv.zm r sp (i:Int) - Rv.Ry r (ms.take t) (i:Int)) m.2.2 ((Rv.nM r m.1 m.2.1).take i) fl)
   ⟨v7,fl,rfl,O,Rv.MvI.start _ FL⟩ (fun _ _ _ _ ⟨_,_,_,O,_⟩=>O.sq 0) ?_ ?_
  ·rintro i y σ H4 hy ⟨v7,fl,rfl,O,MI⟩;obtain ⟨z,hz,rfl⟩:=ints_get hy;obtain ⟨z0,z1⟩:=Rv.Jk hR m.1 g0 g1 z (Rv.FP (aeO hz));obtain ⟨zn,rfl⟩:=ae9 z0;have hzl:zn<r.length:=by omega
   obtain ⟨x,hx⟩:∃ x,fl[zn]?=some x:=⟨_,MI.at_ zn hzl⟩;have nd:=Rv.Ju hR g0 g1 (b:=m.2.1);have nm:¬ ((zn:Nat):Int)∈(Rv.nM r m.1 m.2.1).take i:=fun hmm=>by
    obtain ⟨h1,h2⟩:=aeJ.mp hz;obtain ⟨j,hj,ej⟩:=afh hmm;rw [agy] at ej;rw [ae0] at hj;have:=(afR nd).mp (ej.trans h2.symm);omega
   refine ⟨_,rfl,_,rfl,lf,_,zn,V.int x,rfl,rfl,O.sq 1,by rw [aeQ,hx];rfl,_,rfl,_,_,rfl,rfl,?_⟩;refine ux O 1 rfl (iJ (by rw [ac5,MI.len];exact hzl)) fun H5 O=>?_;refine ⟨_,fl.set zn (x - m.2.2),rfl,?_,?_⟩
   ·rw [afD];exact O
   ·rw [afo,hz];exact MI.turn hzl nm hx
  ·rintro σ H4 ⟨v7,fl,rfl,O,MI⟩;rw [ac5,agf] at MI;refine ⟨_,_,_,_,fl,rfl,O.tail,?_⟩;have e:ms.take (t+1)=ms.take t++[m]:=by rw [afo,hm];rfl
   rw [e];exact MI.done
 ·rintro σ H2 ⟨v4,v5,v6,v7,fl,rfl,O,FL⟩;rw [hxl,agf] at FL;exact ⟨_,rfl,O.ret 0 rfl q (by rw [Rv.Fl.ext FL (Rv.Pq r sp ms)])⟩
def Dn:Sp:=fun _ _ _ _=>False
abbrev oE:Stmt:=top 66
theorem Bu:aD ["below","roll","ponds","kept","let","place","reach","amount"] ["below","roll","ponds","kept","let"] (ao oE):=by walk_at "sc"
abbrev qu:Stmt:=top 65
theorem Du:aD ["roll","pond","number","room","leak"] ["roll","pond"] (ao qu):=by walk_at "sc"
variable {oW:Addr}{pq:FuncData}(fj:Df K mg "look_at_let" oE ["below","roll","ponds","kept","let"] oW pq)
include fj in
theorem abH:(CX0|||1) oW pq ["below","roll","ponds","kept","let"] Dn:=fj.F.ok Bu (fun _ _ _ _ h=>h.elim) (fun _ _ _ _ _ _ _ _ _ h=>h.elim)
variable {rA:Addr}{rT:FuncData}(gP:Df K mg "pond_start" qu ["roll","pond"] rA rT)
include gP in
theorem aby:(CX0|||1) rA rT ["roll","pond"] Dn:=gP.F.ok Du (fun _ _ _ _ h=>h.elim) (fun _ _ _ _ _ _ _ _ _ h=>h.elim)
abbrev zP:Stmt:=top 67
theorem kZ:aD ["below","roll","ponds","kept","lets","left","let","place","reach","amount"] ["below","roll","ponds","kept","lets"] (ao zP):=by walk_at "sc"
inductive abe (K:PySem.W.Frag)(T:dX)(vs:List V)(H:Hp)(Q:VK)(E:XK):Prop
 | mk (v1 v2 v3:V)(d e:Addr)(ks:List Int)(_:vs=[v1,v2,v3,.ref d,.ref e])(_:SqL K H d (ks.map V.int))(_:SqL K H e [])(_:TabsOk T H)(_:sY T H (fun xs=>xs=ks.map V.int) Q)
variable (wU:(CX0|||1) oW pq ["below","roll","ponds","kept","let"] Dn)
variable {Ak:Addr}{Av:FuncData}(lX:Df K mg "let_out" zP ["below","roll","ponds","kept","lets"] Ak Av)
include fj wU lX in
theorem adL (B:Blt mg):(CX0|||2) Ak Av ["below","roll","ponds","kept","lets"] (abe K T):=by
 refine lX.F.ok kZ ?_ ?_;walk_at "i";obtain ⟨v1,v2,v3,d,e,ks,rfl,hD,hE,tk,q⟩:=h;refine ⟨_,(5<$>kZ<$>(bW bf rfl B.list afe (pv 3>=>ak))<|>fJ ae7 rfl (bU (pv 4)) (6>>kZ)
   (aR (fj<*wU<*(pv 0>=>pv 1>=>pv 2>=>pv 5>=>pv 6>=>ak))<|>gC (pv 6) (iB rfl (aA (7>>kZ) (aA (8>>kZ) (aA (9>>kZ) bN))))<|>(~~~(uT (pv 5) (pv 7) oU (pv 9) Ox set_list)))<|>(~~~(@aL _ _ _ _ (pv 5)))),?_⟩
 have O:=Ow.refl tk;refine ⟨_,rfl,d,_,rfl,.inl hD,fun l hl=>?_⟩;walk_at "nw";refine ⟨_,rfl,e,rfl,⟨_,O.same.seq hE⟩,?_⟩;refine eV (K:=K) (xs:=[]) (fun i σ H'=>Iv (∃ (v6 v7 v8 v9:Option V),σ=[some v1,some v2,some v3,some (.ref d),some (.ref e),some (.ref l),v6,v7,v8,v9]/\Ow T H H' [(l,.lst (ks.map V.int))])) ⟨trivial,none,none,none,none,rfl,O⟩ (fun i σ H' _ ⟨_,_,_,_,_,_,O⟩=>O.same.seq hE) ?_ ?_
 ·rintro i y σ H3 hy;cases hy
 rintro σ H3 ⟨-,v6,v7,v8,v9,rfl,O⟩;exact ⟨_,rfl,O.ret 0 rfl q rfl⟩
abbrev qz:Stmt:=top 71
theorem vY:aD ["below","roll","ponds","kept","calls","lets","left"] ["below","roll","ponds","kept","calls","lets"] (ao qz):=by walk_at "sc"
inductive Mw (K:PySem.W.Frag)(T:dX)(vs:List V)(H:Hp)(Q:VK)(E:XK):Prop
 | mk (v1 v2:V)(c d g e:Addr)(us:List V)(ps:List (Int × Int × Int))(ks cs:List Int)(_:vs=[v1,v2,.ref c,.ref d,.ref g,.ref e])(_:SqL K H c us)(_:bZ K H us (ps.map dMv))(_:SqL K H d (ks.map V.int))(_:ps.length=ks.length)(_:SqL K H g (cs.map V.int))(_:(∀ p∈ps,0<=p.1/\p.1<(cs.length:Int)))(_:SqL K H e [])(_:TabsOk T H)(_:∀ (t la lb:Addr)(H':Hp),Ow T H H' [(t,.tup [.ref la,.ref lb]),(lb,.lst ((uh cs ps ks ps.length).map V.int)),(la,.lst (ks.map V.int))]->Q (.ref t) H')
variable (Hh:(CX0|||2) Ak Av ["below","roll","ponds","kept","lets"] (abe K T))
variable (yS:(CX0|||1) rB rW ["roll","ponds","kept","calls"] (abd K T))
variable {rD:Addr}{rZ:FuncData}(cV:Df K mg "morning_of" qz ["below","roll","ponds","kept","calls","lets"] rD rZ)
include gQ lX Hh yS cV in
theorem aai (B:Blt mg):(CX0|||3) rD rZ ["below","roll","ponds","kept","calls","lets"] (Mw K T):=by
 refine cV.F.ok vY ?_ ?_;walk_at "i";obtain ⟨v1,v2,c,d,g,e,us,ps,ks,cs,rfl,hC,d1,hD,hkl,hG,hrg,hE,tk,q⟩:=h;refine ⟨_,(6<$>vY<$>(lX<*Hh<*(pv 0>=>pv 1>=>pv 2>=>pv 3>=>pv 5>=>ak))<|>(~~~(@aL _ _ _ _ (@gD _ _ _ _ _ (pv 6>=>gQ<*yS<*(pv 1>=>pv 2>=>pv 6>=>pv 4>=>ak)>=>ak))))),?_⟩;have O:=Ow.refl tk;refine ⟨_,rfl,_,rfl,_,rfl,_,rfl,_,rfl,v1,v2,.ref c,d,e,ks,rfl,hD,hE,tk,O.Cv fun l1 H1 ys O e1=>?_⟩;subst e1;refine ⟨_,rfl,_,rfl,_,rfl,_,rfl,_,rfl,v2,c,l1,g,us,ps,ks,cs,rfl,O.same.seq hC,d1.mo O.same,O.sq 0,hkl,O.same.seq hG,hrg,O.same.t1,O.Cv fun l2 H2 ys O e2=>?_⟩;subst e2;refine ⟨szl,fun t ht=>?_⟩;walk_at "nw";exact q t l1 l2 _ O
theorem QC {γ:Type}{as:List α}{bs:List β}{x:α}{y:β}(g:α × β->γ)(hx:as[i]?=some x)(hy:bs[i]?=some y):((as.zip bs).take (i+1)).map g=((as.zip bs).take i).map g++[g (x,y)]:=by
 have e:(as.zip bs)[i]?=some (x,y):=by rw [afZ];exact ⟨hx,hy⟩
 rw [afo,e,aeN];rfl
def aaU (ls:List Lic)(xs:List Int):List Rv.Mv:=(ls.zip xs).map fun p=>(p.1.start,p.1.back,p.2)
abbrev xH:Stmt:=top 72
theorem dh:aD ["roll","ponds","takes","lets","moves","one","take","day","start","back","most","place","reach","amount"] ["roll","ponds","takes","lets"] (ao xH):=by walk_at "sc"
inductive Tr (K:PySem.W.Frag)(T:dX)(vs:List V)(H:Hp)(Q:VK)(E:XK):Prop
 | mk (b d e:Addr)(c:V)(xs:List Int)(rs:List V)(ls:List Lic)(_:vs=[.ref b,c,.ref d,.ref e])(_:SqL K H b rs)(_:bZ K H rs (ls.map yO))(_:ls.length<=100)(_:SqL K H d (xs.map V.int))(_:xs.length=ls.length)(_:SqL K H e [])(_:TabsOk T H)(_:∀ (l:Addr)(H1 H':Hp)(vs:List V),aJ T H H1->Ow T H1 H' [(l,.lst vs)]->bZ K H1 vs ((aaU ls xs).map dMv)->Q (.ref l) H')
variable (yR:(CX0|||1) rA rT ["roll","pond"] Dn)
variable {xX:Addr}{yj:FuncData}(jC:Df K mg "moves_of" xH ["roll","ponds","takes","lets"] xX yj)
include gP yR jC in
theorem abC (B:Blt mg):(CX0|||2) xX yj ["roll","ponds","takes","lets"] (Tr K T):=by
 refine jC.F.ok dh ?_ ?_
 walk_at "i"
 obtain ⟨b,d,e,c,xs,rs,ls,rfl,hB,d0,hl1,hD,hxl,hE,tk,q⟩:=h
 have hrl:rs.length=ls.length:=by rw [d0.length,ac5]
 refine ⟨_,(4<$>dh<$>(@bF _ _ _ _ ak)<|>fJ ae7 rfl (zV rfl B.zip (pv 0>=>pv 2>=>ak)) (iB rfl (aA (5>>dh) (aA (6>>dh) bN)))
   (gC (pv 5) (iB rfl (aA (7>>dh) (aA (8>>dh) (aA (9>>dh) (aA (10>>dh) bN)))))<|>(~~~(aR (m7 ae3 ae5 ae6 bJ (pv 4) (@gD _ _ _ _ _ (pv 8>=>pv 9>=>pv 6>=>ak)>=>ak)))))<|>fJ ae7 rfl (bU (pv 3)) (iB rfl (aA (11>>dh) (aA (12>>dh) (aA (13>>dh) bN))))
   (~~~(aR (m7 ae3 ae5 ae6 bJ (pv 4) (@gD _ _ _ _ _ (gP<*yR<*(pv 0>=>@bD _ _ _ _ _ _ _ aM (pv 1) (pv 11) (fun _ _=>rfl)>=>ak)>=>pv 12>=>@xP _ _ _ _ _ _ nF (pv 13)>=>ak)>=>ak))))<|>(~~~(@aL _ _ _ _ (pv 4)))),?_⟩
 have O:=Ow.refl tk
 refine ⟨szl,fun lm hlm=>?_⟩
 walk_at "nw"
 refine ⟨_,rfl,_,rfl,b,d,_,_,rfl,O.same.seq hB,O.same.seq hD,?_⟩
 refine Et (K:=K) (fun i σ H'=>Iv (∃ (v5 v6 v7 v8 v9 v10:Option V)(Hb:Hp)(vs:List V),σ=[some (.ref b),some c,some (.ref d),some (.ref e),some (.ref lm),v5,v6,v7,v8,v9,v10,none,none,none]/\aJ T H Hb/\bZ K Hb vs (((ls.zip xs).take i).map fun p=>dMv (p.1.start,p.1.back,p.2))/\Ow T Hb H' [(lm,.lst vs)]))
  (by rw [ac5];omega) ⟨trivial,none,none,none,none,none,none,H,[],rfl,aJ.refl tk,.nil,O⟩ (fun _ _ _ _ ⟨_,_,_,_,_,_,_,_,_,_,sb,_,O⟩=>⟨(sb.trans O.same).seq hB,(sb.trans O.same).seq hD⟩) ?_ ?_
 ·rintro i x y t' σ H3 hx hy ⟨-,v5,v6,v7,v8,v9,v10,Hb,vs,rfl,sb,dv,O⟩ ht'
  obtain ⟨al,l,rfl,hl,hT⟩:=d0.Ir hx
  obtain ⟨u,hu,rfl⟩:=ints_get hy
  have hi:=(aeJ.mp hl).1
  have hvl:vs.length<=i:=by rw [dv.length,ac5,ae0];omega
  walk_at "nw"
  refine ⟨t',_,rfl,O.sqT 0,rfl,_,_,rfl,_,_,rfl,rfl,?_⟩
  have O:=O.tail
  refine ⟨_,rfl,al,_,rfl,(hT.mo sb).mo O.same,rfl,_,_,rfl,_,_,rfl,_,_,rfl,_,_,rfl,rfl,?_⟩
  refine ⟨_,rfl,.inl ⟨rfl,_,O.sq 0⟩,_,rfl,_,rfl,_,rfl,szl,fun t ht=>?_⟩
  walk_at "nw"
  refine ⟨lm,_,_,rfl,rfl,O.get 1,aH (by omega),?_⟩
  walk_at "pt"
  obtain ⟨Hc,O,sc,en⟩:=O.frz
  refine ⟨trivial,_,_,_,_,_,_,Hc,vs++[.ref t],rfl,sb.trans sc,?_,O⟩
  rw [QC (fun p=>dMv (p.1.start,p.1.back,p.2)) hl hu]
  exact (dv.mo sc).append (.cons (Den.mv (m:=(l.start,l.back,u)) (SqT.of en)) .nil)
 rintro σ H3 ⟨-,v5,v6,v7,v8,v9,v10,Hb,vs,rfl,sb,dv,O⟩
 rw [aeU (by rw [List.length_zip];omega)] at dv
 refine ⟨_,rfl,e,rfl,⟨_,(sb.trans O.same).seq hE⟩,?_⟩
 refine eV (K:=K) (xs:=[]) (fun i σ H'=>Iv (∃ (v11 v12 v13:Option V),σ=[some (.ref b),some c,some (.ref d),some (.ref e),some (.ref lm),v5,v6,v7,v8,v9,v10,v11,v12,v13]/\Ow T Hb H' [(lm,.lst vs)]))
  ⟨trivial,none,none,none,rfl,O⟩ (fun _ _ _ _ ⟨_,_,_,_,_,O⟩=>(sb.trans O.same).seq hE) ?_ ?_
 ·rintro i y σ H4 hy
  cases hy
 rintro σ H4 ⟨-,v11,v12,v13,rfl,O⟩
 refine ⟨_,rfl,q lm Hb H4 vs sb O ?_⟩
 unfold aaU;rw [agg];exact dv
def sZ (x:Str):Prop:=1<=x.cps.size/\x.cps.size<=8/\∀ c∈x.cps.toList,97<=c/\c<=122
def Asc (x:Str):Prop:=x.cps.all (·<128)=true/\x.cps.size<=1000
theorem Le:∀ c:Nat,c<128->(!(Builtin.Str.occurrences ("abcdefghijklmnopqrstuvwxyz":Str) ⟨#[c]⟩ 0 ("abcdefghijklmnopqrstuvwxyz":Str).length 1).isEmpty)=decide (97<=c/\c<=122):=by
 have h:∀ k:Fin 128,(!(Builtin.Str.occurrences ("abcdefghijklmnopqrstuvwxyz":Str) ⟨#[k.val]⟩ 0 ("abcdefghijklmnopqrstuvwxyz":Str).length 1).isEmpty)=decide (97<=k.val/\k.val<=122):=by decide+kernel
 exact fun c hc=>h ⟨c,hc⟩
abbrev wj:Stmt:=top 6
theorem K3:aD ["text"] ["text"] (ao wj):=by walk_at "sc"
inductive FZ (T:dX)(vs:List V)(H:Hp)(Q:VK)(E:XK):Prop
 | mk (x:Str)(_:vs=[.str x])(_:Asc x)(_:TabsOk T H)(_:∀ (b:Bool) H',(b=true↔sZ x)->aJ T H H'->Q (.bl b) H')
structure CN (mg:Str->Option Value):Prop where
 LONGEST_NAME:∃ t,mg "LONGEST_NAME"=some (.int 8 t)
 LETTERS:∃ t,mg "LETTERS"=some (.str "abcdefghijklmnopqrstuvwxyz" t)
variable {Al:Addr}{Aw:FuncData}(lY:Df K mg "is_name" wj ["text"] Al Aw)
include lY in
theorem NT (B:Blt mg)(CN:CN mg):(CX0|||1) Al Aw ["text"] (FZ T):=by
 obtain ⟨tM,Eo⟩:=CN.LONGEST_NAME;obtain ⟨tL,hLETTERS⟩:=CN.LETTERS;refine lY.F.ok K3 ?_ ?_;walk_at "i";obtain ⟨x,rfl,⟨ha,hx⟩,tk,q⟩:=h;have hu:=hr.units;have O:=Ow.refl tk;refine ⟨_,(~~~(@aL _ _ _ _ (Ub (DR wB wB au (aB GX rfl B.len aeZ (pv 0>=>ak)) (dY (v:=.int (8)) rfl Eo ⟨_,rfl⟩)) (Nx (aB (wM rfl) rfl B.all af7 (gF (ao wj) rfl ["text"] rfl ["sign"] [none] (by decide+kernel) (by decide+kernel) (by decide+kernel) rfl (abp (pv 0)) (fun _ _ _=>(bG (i:=0) (show (["sign"]:List Str).Nodup by decide+kernel) rfl (Or.inl rfl))) (fun _ _ _=>gB) (fun _ _ _=>(oM NK (pv 0) (dY (v:=.str "abcdefghijklmnopqrstuvwxyz") rfl hLETTERS ⟨_,rfl⟩) (by rfl)))>=>ak)))))),?_⟩;have hl:x.length=x.cps.size:=rfl;refine ⟨_,rfl,x,rfl,(by rw [hl,sizeLine_eq];omega),_,_,rfl,rfl,?_⟩;refine ⟨_,rfl,?_⟩;refine ifD (fun h1=>?_) (fun h1=>?_);rotate_left
 ·exact ⟨_,rfl,um (q _ _ ⟨(fun z=>nomatch z),fun z=>absurd z.1 (by omega)⟩ O.same)⟩
 refine ⟨_,_,rfl,rfl,_,rfl,?_⟩;refine ifD (fun h2=>?_) (fun h2=>?_);rotate_left
 ·exact q _ _ ⟨(fun z=>nomatch z),fun z=>absurd z.2.1 (by omega)⟩ O.same
 refine ⟨_,rfl,x,rfl,ha,fun lw hlw=>?_⟩;refine Sv (fun i τ H'=>Iv (∃ (v0:Option V)(bs:List Bool),τ=[v0]/\bs.length=i/\(bs.all id=true↔∀ c∈x.cps.toList.take i,97<=c/\c<=122)/\Ow T H H' [(lw,.lst (bs.map V.bl))])) ⟨trivial,none,[],rfl,rfl,⟨(fun _ c hc=>nomatch hc),fun _=>rfl⟩,O.mk' hlw rfl⟩ ?_ ?_
 ·rintro i c τ H4 hc ⟨-,v0,bs,rfl,hbl,hb,O⟩;have hi:i<x.cps.size:=by
   rcases Nat.lt_or_ge i x.cps.size with h| h
   ·exact h
   ·rw [Array.getElem?_eq_none h] at hc;cases hc
  have hm:x.cps.toList[i]?=some c:=by rw [Array.getElem?_toList];exact hc
  have hc128:c<128:=by
   have:=Array.all_eq_true.mp ha i hi;rw [Array.getElem?_eq_getElem hi] at hc;cases hc;exact of_decide_eq_true this
  refine Lj ?_;refine ⟨_,rfl,_,_,rfl,rfl,?_⟩;rw [Le c hc128];refine ⟨_,O.get 0,aH (by rw [ac5];omega),?_⟩;walk_at "pt";refine ⟨trivial,_,bs++[decide (97<=c/\c<=122)],rfl,by rw [ae1,hbl];rfl,?_,?_⟩
  ·rw [Tn.fH hm,List.all_append,afi,hb];constructor
   ·rintro ⟨z1,z2⟩ y hy;rcases afa.mp hy with h| h
    ·exact z1 y h
    ·rw [afl.mp h];simpa using z2
   ·intro z;exact ⟨fun y hy=>z y (afw _ hy),by simpa using z c (aeK _ (afl.mpr rfl))⟩
  ·rw [aeN];exact O
 rintro τ H4 ⟨-,v0,bs,rfl,hbl,hb,O⟩;refine ⟨lw,_,rfl,O.sq 0,?_⟩;rw [show x.cps.size=x.cps.toList.length by simp,agf] at hb;exact q _ _ ⟨fun z=>⟨by omega,by omega,hb.mp z⟩,fun z=>hb.mpr z.2.2⟩ O.same
abbrev mZ:Stmt:=top 49
theorem zK:aD ["name"] ["name"] (ao mZ):=by walk_at "sc"
inductive zJ (T:dX)(cH:Addr)(vs:List V)(H:Hp)(Q:VK)(E:XK):Prop
 | mk (x:Str)(_:vs=[.str x])(_:Asc x)(_:TabsOk T H)(_:(sZ x->∀ H',aJ T H H'->Q .non H'))(_:(¬ sZ x->∀ (e:Addr)(H':Hp),aJ T H H'->H' e=none->E (.ref cH) (some e) H'))
variable (Hi:(CX0|||1) Al Aw ["text"] (FZ T))
variable {m8:Addr}{nq:FuncData}(bL:Df K mg "look_at_name" mZ ["name"] m8 nq)
include lY Hi bL in
theorem Ih (jA:nZ K mg "NoHolder" cH):((CXE P w)|||2) m8 nq ["name"] (zJ T cH):=by
 refine bL.F.okX zK ?_ ?_
 walk_at "i"
 obtain ⟨x,rfl,ax,tk,q,qx⟩:=h
 refine ⟨_,(~~~(@eO _ _ _ _ _ _ _ _ (nQ (j7 (lY<*Hi<*(pv 0>=>ak))))
   (~~~(iw jr rfl (fun _ _ z=>z) rfl jA.m jA.q (cO>=>ak)))
   aX)),?_⟩
 refine ⟨_,rfl,x,rfl,ax,tk,fun b H1 hb s1=>?_⟩
 cases b with
 | true=>exact ⟨_,rfl,um (q (hb.mp rfl) _ s1)⟩
 | false=>exact ⟨_,rfl,zA ⟨szl,fun e he=>qx (fun z=>nomatch hb.mpr z) e _ s1 he⟩⟩
structure Rs where
 p:Addr
 dx:Addr
 lb:Addr
 ll:Addr
 ln:Addr
 lo:Addr
abbrev RV (C:Addr)(A:Rs)(ex:List (Str × V))(day:Int):HO:=.ins C A.dx (("below",.ref A.lb)::("day",.int day)::("licences",.ref A.ll)::("names",.ref A.ln)::("done",.ref A.lo)::ex)
abbrev RX (C:Addr)(A:Rs)(ex:List (Str × V))(r:List Int)(day:Int)(us:List V)(ns:List Str)(ds:List V):List (Addr × HO):=
 [(A.p,RV C A ex day),(A.dx,.own A.p),(A.lb,.lst (r.map V.int)),(A.ll,.lst us),(A.ln,.lst (ns.map V.str)),(A.lo,.lst ds)]
structure RC (K:PySem.W.Frag)(C:Addr):Prop where
 c:Cls K C
 nB:ju K C "below"
 nD:ju K C "day"
 nL:ju K C "licences"
 nN:ju K C "names"
 nO:ju K C "done"
theorem abm (A:Rs)(ex:List (Str × V))(day:Int)(z:V):Ft "day" z (("below",.ref A.lb)::("day",.int day)::("licences",.ref A.ll)::("names",.ref A.ln)::("done",.ref A.lo)::ex)=((("below",.ref A.lb)::("day",z)::("licences",.ref A.ll)::("names",.ref A.ln)::("done",.ref A.lo)::ex):List (Str × V)):=rfl
inductive Kw
 | turn
 | file (x:Str) (s m b:Int)
 | sell (n:Int) (y z:Str)
 | part (n:Int) (y:Str) (m:Int) (z:Str)
 | drop (n:Int) (y:Str)
 | move (n:Int) (y:Str) (s:Int)
 | lapse (xs:List Int)
def Jb:Kw->PyData
 | .turn=>.tuple [.str "turn"]
 | .file x s m b=>.tuple [.str "file",.str x,.int s,.int m,.int b]
 | .sell n y z=>.tuple [.str "sell",.int n,.str y,.str z]
 | .part n y m z=>.tuple [.str "part",.int n,.str y,.int m,.str z]
 | .drop n y=>.tuple [.str "drop",.int n,.str y]
 | .move n y s=>.tuple [.str "move",.int n,.str y,.int s]
 | .lapse xs=>.tuple [.str "lapse",.tuple (xs.map PyData.int)]
structure RS where
 day:Int
 ls:List Lic
 ns:List Str
 ds:List Kw
inductive EK
 | number| yours| holder| licence| much| alone| full| Gm
structure Ec where
 number:Addr
 yours:Addr
 holder:Addr
 licence:Addr
 much:Addr
 alone:Addr
 full:Addr
 Gm:Addr
def Ec.at_ (c:Ec):EK->Addr
 | .number=>c.number| .yours=>c.yours| .holder=>c.holder| .licence=>c.licence| .much=>c.much| .alone=>c.alone| .full=>c.full| .Gm=>c.Gm
def wm (l:Lic)(m:Int):Lic:=⟨l.day,l.start,l.back,m⟩
def wst (l:Lic)(s:Int):Lic:=⟨l.day,s,l.back,l.most⟩
def S8 (ls:List Lic)(d:Int):Nat->List Int
 | 0=>[]
 | i+1=>S8 ls d i++(match ls[i]? with| some l=>if l.day=d/\0<l.most then [(i:Int)] else [] | none=>[])
def abW (ls:List Lic)(xs:List Int):List Lic:=List.zipWith (fun l x=>wm l (min l.most x)) ls xs
def RS.at_ (S:RS)(n:Int):Lic:=S.ls.getD n.toNat ⟨0,0,0,0⟩
open Classical in
noncomputable def RS.Fo (S:RS)(n:Int)(y:Str)(k:Except EK RS):Except EK RS:=
 if ¬ (0<=n/\n<S.ls.length) then .error .number else if S.ns[n.toNat]?≠some y then .error .yours else k
open Classical in
noncomputable def step (r:List Int)(S:RS):Kw->Except EK RS
 | .turn=>.ok ⟨S.day+1,S.ls,S.ns,S.ds++[.turn]⟩
 | .file x s m b=>if ¬ sZ x then .error .holder else if m=0\/¬ p8 r ⟨S.day,s,b,m⟩ then .error .licence else if 60<=S.ls.length then .error .full else
   .ok ⟨S.day,S.ls++[⟨S.day,s,b,m⟩],S.ns++[x],S.ds++[.file x s m b]⟩
 | .sell n y z=>S.Fo n y (if ¬ sZ z then .error .holder else .ok ⟨S.day,S.ls,S.ns.set n.toNat z,S.ds++[.sell n y z]⟩)
 | .part n y m z=>S.Fo n y (if ¬ sZ z then .error .holder else if ¬ (1<=m/\m<(S.at_ n).most) then .error .much else if S8 S.ls (S.at_ n).day S.ls.length≠[n] then .error .alone else if 60<=S.ls.length then .error .full else
   .ok ⟨S.day,S.ls.set n.toNat (wm (S.at_ n) ((S.at_ n).most - m))++[wm (S.at_ n) m],S.ns++[z],S.ds++[.part n y m z]⟩)
 | .drop n y=>S.Fo n y (.ok ⟨S.day,S.ls.set n.toNat (wm (S.at_ n) 0),S.ns,S.ds++[.drop n y]⟩)
 | .move n y s=>S.Fo n y (if ¬ p8 r (wst (S.at_ n) s) then .error .licence else .ok ⟨S.day,S.ls.set n.toNat (wst (S.at_ n) s),S.ns,S.ds++[.move n y s]⟩)
 | .lapse xs=>if xs.length≠S.ls.length then .error .number else if ¬ ∀ x∈xs,0<=x/\x<=1000000000000 then .error .much else
   .ok ⟨S.day,abW S.ls xs,S.ns,S.ds++[.lapse xs]⟩
inductive RA (K:PySem.W.Frag)(T:dX)(C:Addr)(A:Rs)(ex:List (Str × V))(r:List Int)(H0 H:Hp)(B:List (Addr × HO))(S:RS):Prop
 | mk (us vs:List V)(_:Ow T H0 H (RX C A ex r S.day us S.ns vs++B))(_:bZ K H0 us (S.ls.map yO))(_:bZ K H0 vs (S.ds.map Jb))
structure aec (ex:List (Str × V)):Prop where
 num:ex.lookup ("look_at_number":Str)=none
 hol:ex.lookup ("look_at_holder":Str)=none
 room:ex.lookup ("look_at_room":Str)=none
 ent:ex.lookup ("enter":Str)=none
 al:ex.lookup ("is_alone":Str)=none
 lmv:ex.lookup ("look_move":Str)=none
 lp:ex.lookup ("lapse":Str)=none
 tn:ex.lookup ("turn":Str)=none
 rl:ex.lookup ("roll":Str)=none
 hs:ex.lookup ("holders":Str)=none
 de:ex.lookup ("deeds":Str)=none
 td:ex.lookup ("today":Str)=none
 fi:ex.lookup ("file":Str)=none
 se:ex.lookup ("sell":Str)=none
 pa:ex.lookup ("part":Str)=none
 dr:ex.lookup ("drop":Str)=none
 mv:ex.lookup ("move":Str)=none
structure RP (r:List Int)(ex:List (Str × V))(S:RS):Prop where
 rv:Rv.iG r
 r40:r.length<=40
 nn:S.ns.length=S.ls.length
 l60:S.ls.length<=60
 dl:S.ds.length<=9000
 e9:ex.length<=100
 ex:aec ex
def After (K:PySem.W.Frag)(T:dX)(C:Addr)(c:Ec)(A:Rs)(ex:List (Str × V))(r:List Int)(H0 H:Hp)(B:List (Addr × HO))(S:RS)(d:Kw)(v:V)(Q:VK)(E:XK):Prop:=
 (∀ S',step r S d=.ok S'->∀ Hb H',aJ T H0 Hb->RA K T C A ex r Hb H' B S'->Q v H')/\(∀ k,step r S d=.error k->∀ (e:Addr)(H':Hp),aJ T H H'->H' e=none->E (.ref (c.at_ k)) (some e) H')
inductive xq (K:PySem.W.Frag)(C:Addr)(y:Str)(vs:List V)(H:Hp)(Q:VK)(E:XK):Prop
 | mk (p dx l:Addr)(fs:List (Str × V))(us:List V)(_:vs=[.ref p])(_:H p=some (.ins C dx fs))(_:fs.lookup y=some (.ref l))(_:SqL K H l us)(_:∀ l',H l'=none->Q (.ref l') (upd H l' (.lst us)))
abbrev uQ:Stmt:=inClass (top 50) 2
theorem Gi:aD ["self"] ["self"] (ao uQ):=by walk_at "sc"
variable {vh:Addr}{vJ:FuncData}(aP:Dm K C "roll" "Roll.roll" uQ ["self"] vh vJ)
include aP in
theorem Rp (B:Blt mg)(R:RC K C):(CX0|||1) vh vJ ["self"] (xq K C "licences"):=by
 refine aP.F.ok Gi ?_ ?_;walk_at "i";obtain ⟨p,dx,l,fs,us,rfl,hp,hf,hl,q⟩:=h;refine ⟨_,(aK (aL (bW bf rfl B.list afe (aq (bI (pv 0) rfl) ak)))),?_⟩;exact ⟨_,rfl,p,C,dx,fs,.ref l,rfl,hp,R.c,R.nL,hf,l,us,rfl,.inl hl,q⟩
abbrev m6:Stmt:=inClass (top 50) 3
theorem zN:aD ["self"] ["self"] (ao m6):=by walk_at "sc"
variable {nj:Addr}{nC:FuncData}(bC:Dm K C "holders" "Roll.holders" m6 ["self"] nj nC)
include bC in
theorem Ik (B:Blt mg)(R:RC K C):(CX0|||1) nj nC ["self"] (xq K C "names"):=by
 refine bC.F.ok zN ?_ ?_;walk_at "i";obtain ⟨p,dx,l,fs,us,rfl,hp,hf,hl,q⟩:=h;refine ⟨_,(aK (aL (bW bf rfl B.list afe (aq (bI (pv 0) rfl) ak)))),?_⟩;exact ⟨_,rfl,p,C,dx,fs,.ref l,rfl,hp,R.c,R.nN,hf,l,us,rfl,.inl hl,q⟩
abbrev qO:Stmt:=inClass (top 50) 4
theorem Dy:aD ["self"] ["self"] (ao qO):=by walk_at "sc"
variable {rO:Addr}{sV:FuncData}(cZ:Dm K C "deeds" "Roll.deeds" qO ["self"] rO sV)
include cZ in
theorem N6 (B:Blt mg)(R:RC K C):(CX0|||1) rO sV ["self"] (xq K C "done"):=by
 refine cZ.F.ok Dy ?_ ?_;walk_at "i";obtain ⟨p,dx,l,fs,us,rfl,hp,hf,hl,q⟩:=h;refine ⟨_,(aK (aL (bW bf rfl B.list afe (aq (bI (pv 0) rfl) ak)))),?_⟩;exact ⟨_,rfl,p,C,dx,fs,.ref l,rfl,hp,R.c,R.nO,hf,l,us,rfl,.inl hl,q⟩
abbrev uO:Stmt:=inClass (top 50) 5
theorem Gg:aD ["self"] ["self"] (ao uO):=by walk_at "sc"
inductive Mj (K:PySem.W.Frag)(T:dX)(C:Addr)(c:Ec)(vs:List V)(H:Hp)(Q:VK)(E:XK):Prop
 | mk (A:Rs)(ex:List (Str × V))(H0:Hp)(B:List (Addr × HO))(r:List Int)(S:RS)(_:vs=[.ref A.p])(_:RA K T C A ex r H0 H B S)(_:RP r ex S)(_:After K T C c A ex r H0 H B S .turn .non Q E)
variable {vf:Addr}{vH:FuncData}(cJ:Dm K C "turn" "Roll.turn" uO ["self"] vf vH)
include cJ in
theorem Rm (R:RC K C):(CX0|||1) vf vH ["self"] (Mj K T C c):=by
 refine cJ.F.ok Gg ?_ ?_;walk_at "i";obtain ⟨A,ex,H0,L,r,S,rfl,⟨us,vs,O,d0,d1⟩,hp,q,-⟩:=h;have hvl:vs.length=S.ds.length:=by rw [d1.length,ac5]
 have hdl:=hp.dl;have hel:=hp.e9;refine ⟨_,(aG (Np (pv 0) au ab7)
  (aK (aR (m7 ae3 ae5 ae6 bJ (bI (pv 0) rfl) (aq (gD (aq cO ak)) ak))))),?_⟩
 refine adt ?_;intro zu0;simp only [List.cons_append,List.nil_append] at O;refine ⟨_,rfl,A.p,C,A.dx,_,_,rfl,O.get 0,R.c,R.nD,rfl,_,_,rfl,rfl,A.dx,_,O.get 0,(by simp only [afb];omega),?_⟩;rw [abm];walk_at "pt";refine ⟨_,rfl,A.p,C,A.dx,_,.ref A.lo,rfl,O.get 0,R.c,R.nO,rfl,.inl ⟨rfl,_,O.sq 5⟩,szl,fun t ht=>?_⟩;walk_at "nw";refine ⟨A.lo,_,_,rfl,rfl,O.get 6,aH (by omega),?_⟩;walk_at "pt";obtain ⟨Hb,O,sb,e1⟩:=O.frz;refine q _ rfl Hb _ sb ⟨us,vs++[V.ref t],O,d0.mo sb,?_⟩;rw [aeN];exact (d1.mo sb).append (.cons (.tuple (SqT.of e1) (.cons (.str _) .nil)) .nil)
abbrev qM:Stmt:=inClass (top 50) 13
theorem Dw:aD ["self","one","holder"] ["self","one","holder"] (ao qM):=by walk_at "sc"
inductive JG (C:Addr)(vs:List V)(H:Hp)(Q:VK)(E:XK):Prop
 | mk (A:Rs)(ex:List (Str × V))(day:Int)(us:List V)(ns:List V)(v x:V)(_:vs=[.ref A.p,v,x])(_:H A.p=some (RV C A ex day))(_:H A.ll=some (.lst us))(_:H A.ln=some (.lst ns))(_:us.length<=900)(_:ns.length<=900)(_:A.p≠A.ll)(_:A.p≠A.ln)(_:A.ln≠A.ll)(_:Q (.int us.length) (upd (upd H A.ll (.lst (us++[v]))) A.ln (.lst (ns++[x]))))
variable {rN:Addr}{sU:FuncData}(eE:Dm K C "enter" "Roll.enter" qM ["self","one","holder"] rN sU)
include eE in
theorem N5 (B:Blt mg)(R:RC K C):(CX0|||1) rN sU ["self","one","holder"] (JG C):=by
 refine eE.F.ok Dw ?_ ?_;walk_at "i";obtain ⟨A,ex,day,us,ns,v,x,rfl,hp,hl,hn,ul,nl,n1,n2,n3,q⟩:=h;refine ⟨_,(aG (aR (m7 ae3 ae5 ae6 bJ (bI (pv 0) rfl) (aq (pv 1) ak)))
  (aG (aR (m7 ae3 ae5 ae6 bJ (bI (pv 0) rfl) (aq (pv 2) ak)))
  (aK (aL (bA wA (aB aC rfl B.len aeZ (aq (bI (pv 0) rfl) ak)) au))))),?_⟩
 refine ZL ?_;intro zu0 zu1;refine ⟨_,rfl,A.p,C,A.dx,_,.ref A.ll,rfl,hp,R.c,R.nL,rfl,.inl ⟨rfl,_,SqL.of hl⟩,_,rfl,A.ll,_,_,rfl,rfl,hl,aH (by omega),?_⟩;have hp:=(aN (H:=H) (o:=.lst (us++[v])) n1).trans hp;have hn:=(aN (H:=H) (o:=.lst (us++[v])) n3).trans hn;have hl:upd H A.ll (.lst (us++[v])) A.ll=some (.lst (us++[v])):=aZ;refine ⟨_,rfl,A.p,C,A.dx,_,.ref A.ln,rfl,hp,R.c,R.nN,rfl,.inl ⟨rfl,_,SqL.of hn⟩,_,rfl,A.ln,_,_,rfl,rfl,hn,aH (by omega),?_⟩;have hp:=(aN (o:=.lst (ns++[x])) n2).trans hp;have hl:=(aN (o:=.lst (ns++[x])) n3.symm).trans hl;refine ⟨_,rfl,A.p,C,A.dx,_,.ref A.ll,rfl,hp,R.c,R.nL,rfl,A.ll,_,rfl,.inl (SqL.of hl),_,_,rfl,rfl,?_⟩;dsimp only;rw [show (((us++[v]).length:Nat):Int) - 1=(us.length:Int) by rw [ae1];simp];exact q
abbrev iI:Stmt:=inClass (top 50) 17
theorem ug:aD ["self"] ["self"] (ao iI):=by walk_at "sc"
inductive Mr (K:PySem.W.Frag)(T:dX)(C cF:Addr)(vs:List V)(H:Hp)(Q:VK)(E:XK):Prop
 | mk (A:Rs)(ex:List (Str × V))(day:Int)(us:List V)(_:vs=[.ref A.p])(_:H A.p=some (RV C A ex day))(_:SqL K H A.ll us)(_:TabsOk T H)(_:(us.length<60->Q .non H))(_:(60<=us.length->∀ (e:Addr)(H':Hp),aJ T H H'->H' e=none->E (.ref cF) (some e) H'))
variable {iK:Addr}{iM:FuncData}(bB:Dm K C "look_at_room" "Roll.look_at_room" iI ["self"] iK iM)
include bB in
theorem Ro (B:Blt mg)(R:RC K C)(Bk:nZ K mg "Full" cF)(CL:∃ t,mg "MOST_LICENCES"=some (.int 60 t)):((CXE P w)|||1) iK iM ["self"] (Mr K T C cF):=by
 obtain ⟨tL,BW⟩:=CL
 refine bB.F.okX ug ?_ ?_
 walk_at "i"
 obtain ⟨A,ex,day,us,rfl,hp,hl,tk,q,qx⟩:=h
 refine ⟨_,(~~~(@eO _ _ _ _ _ _ _ _ (aQ Q9 (aB aC rfl B.len aeZ (bI (pv 0) rfl>=>ak)) (dY (v:=.int (60)) rfl BW ⟨_,rfl⟩) (bx _))
   (~~~(iw jr rfl (fun _ _ z=>z) rfl Bk.m Bk.q (cO>=>ak)))
   aX)),?_⟩
 refine ⟨_,rfl,A.p,C,A.dx,_,.ref A.ll,rfl,hp,R.c,R.nL,rfl,A.ll,_,rfl,.inl hl,_,_,rfl,rfl,_,rfl,ifD (fun h=>?_) (fun h=>?_)⟩
 ·have h:(60:Int)<=(us.length:Int):=h
  exact ⟨szl,fun e he=>qx (by omega) e H (aJ.refl tk) he⟩
 ·have h:¬ (60:Int)<=(us.length:Int):=h
  exact q (by omega)
abbrev gw:Stmt:=inClass (top 50) 15
theorem pZ:aD ["self","number"] ["self","number"] (ao gw):=by walk_at "sc"
inductive Cg (K:PySem.W.Frag)(T:dX)(C cN:Addr)(vs:List V)(H:Hp)(Q:VK)(E:XK):Prop
 | mk (A:Rs)(ex:List (Str × V))(day:Int)(us:List V)(n:Int)(_:vs=[.ref A.p,.int n])(_:H A.p=some (RV C A ex day))(_:SqL K H A.ll us)(_:TabsOk T H)(_:(0<=n->n<us.length->Q .non H))(_:(¬ (0<=n/\n<us.length)->∀ (e:Addr)(H':Hp),aJ T H H'->H' e=none->E (.ref cN) (some e) H'))
variable {gH:Addr}{gK:FuncData}(aW:Dm K C "look_at_number" "Roll.look_at_number" gw ["self","number"] gH gK)
include aW in
theorem Ii (B:Blt mg)(R:RC K C)(iY:nZ K mg "NoNumber" cN):((CXE P w)|||1) gH gK ["self","number"] (Cg K T C cN):=by
 refine aW.F.okX pZ ?_ ?_
 walk_at "i"
 obtain ⟨A,ex,day,us,n,rfl,hp,hl,tk,q,qx⟩:=h
 refine ⟨_,(~~~(@eO _ _ _ _ _ _ _ _ (nQ (tV wB Ed au (pv 1) (aB aC rfl B.len aeZ (bI (pv 0) rfl>=>ak))))
   (~~~(iw jr rfl (fun _ _ z=>z) rfl iY.m iY.q (cO>=>ak)))
   aX)),?_⟩
 refine ⟨_,rfl,_,_,rfl,rfl,_,rfl,ifD (fun h1=>?_) (fun h1=>?_)⟩
 rotate_left
 ·refine ⟨_,rfl,zA ⟨szl,fun e he=>qx (fun z=>h1 z.1) e H (aJ.refl tk) he⟩⟩
 refine ⟨_,rfl,A.p,C,A.dx,_,.ref A.ll,rfl,hp,R.c,R.nL,rfl,A.ll,_,rfl,.inl hl,_,_,rfl,rfl,_,rfl,ifN (ifD (fun h2=>?_) (fun h2=>?_))⟩
 ·exact q h1 h2
 ·exact ⟨szl,fun e he=>qx (fun z=>h2 z.2) e H (aJ.refl tk) he⟩
abbrev gA:Stmt:=inClass (top 50) 16
theorem p7:aD ["self","number","holder"] ["self","number","holder"] (ao gA):=by walk_at "sc"
inductive Ci (K:PySem.W.Frag)(T:dX)(C cN cY:Addr)(vs:List V)(H:Hp)(Q:VK)(E:XK):Prop
 | mk (A:Rs)(ex:List (Str × V))(day:Int)(us:List V)(ns:List Str)(n:Int)(y:Str)(_:vs=[.ref A.p,.int n,.str y])(_:H A.p=some (RV C A ex day))(_:SqL K H A.ll us)(_:SqL K H A.ln (ns.map V.str))(_:us.length=ns.length)(_:aec ex)(_:TabsOk T H)(_:(0<=n->n<ns.length->ns[n.toNat]?=some y->Q .non H))(_:(¬ (0<=n/\n<ns.length)->∀ (e:Addr)(H':Hp),aJ T H H'->H' e=none->E (.ref cN) (some e) H'))(_:(0<=n->n<ns.length->ns[n.toNat]?≠some y->∀ (e:Addr)(H':Hp),aJ T H H'->H' e=none->E (.ref cY) (some e) H'))
variable (aU:RC K C)
variable (jT:((CXE P w)|||1) gH gK ["self","number"] (Cg K T C cN))
variable {gJ:Addr}{gM:FuncData}(aF:Dm K C "look_at_holder" "Roll.look_at_holder" gA ["self","number","holder"] gJ gM)
include aW aU jT aF in
theorem Ij (B:Blt mg)(iW:nZ K mg "NotYours" cY):
  ((CXE P w)|||2) gJ gM ["self","number","holder"] (Ci K T C cN cY):=by
 have R:=aU
 refine aF.F.okX p7 ?_ ?_
 walk_at "i"
 obtain ⟨A,ex,day,us,ns,n,y,rfl,hp,hl,hn,hul,hex,tk,q,qN,qY⟩:=h
 refine ⟨_,(aR (fQ (pv 0) aU.c aW.m jT hr.m aW.b .nil Bw (pv 1>=>ak))<|>(~~~(@eO _ _ _ _ _ _ _ _ (aQ zX (@bD _ _ _ _ _ _ _ aM (bI (pv 0) rfl) (pv 1) (fun _ _=>rfl)) (pv 2) (bx _))
   (~~~(iw jr rfl (fun _ _ z=>z) rfl iW.m iW.q (cO>=>ak)))
   aX))),?_⟩
 refine ⟨_,rfl,A.p,A.dx,_,rfl,hp,hex.num,_,rfl,A,ex,day,us,n,rfl,hp,hl,tk,fun h0 h1=>?_,fun h=>qN (fun z=>h (by omega))⟩
 obtain ⟨k,rfl⟩:=ae9 h0
 obtain ⟨x,hx⟩:∃ x,ns[k]?=some x:=⟨_,aeD (by omega)⟩
 refine ⟨_,rfl,A.p,C,A.dx,_,.ref A.ln,rfl,hp,R.c,R.nN,rfl,_,rfl,A.ln,_,_,_,rfl,rfl,hn,d9 (show (ns.map V.str)[k]?=some (.str x) by rw [aeQ,hx];rfl),_,rfl,rfl,_,rfl,ifN (ifD (fun h=>?_) (fun h=>?_))⟩
 ·exact q h0 (by omega) (by rw [aeT,hx,V.str.inj h])
 ·refine ⟨szl,fun e he=>?_⟩
  exact qY h0 (by omega) (fun z=>h (by rw [aeT,hx] at z;rw [aeY z])) e H (aJ.refl tk) he
variable {S:RS}{n:Int}
theorem Ab (e:n=(k:Int))(h:S.ls[k]?=some l):S.at_ n=l:=by
 unfold RS.at_;rw [e,aeT,aeM,h];rfl
section
variable {K:PySem.W.Frag}{T:dX}{C:Addr}{c:Ec}{A:Rs}{ex:List (Str × V)}{r:List Int}{H0 H:Hp}{B:List (Addr × HO)}{S S':RS}{d:Kw}{v:V}{Q:VK}{E:XK}{n:Int}{y:Str}{k:Except EK RS}{ek:EK}
theorem Ko (h:¬ (0<=n/\n<S.ls.length)):S.Fo n y k=.error .number:=if_pos h
theorem CQ (h0:0<=n)(h1:n<S.ls.length)(h:S.ns[n.toNat]?≠some y):S.Fo n y k=.error .yours:=by unfold RS.Fo;rw [if_neg (not_not_intro ⟨h0,h1⟩),if_pos h]
theorem Bd (h0:0<=n)(h1:n<S.ls.length)(h:S.ns[n.toNat]?=some y):S.Fo n y k=k:=by unfold RS.Fo;rw [if_neg (not_not_intro ⟨h0,h1⟩),if_neg (not_not_intro h)]
theorem After.Fo {k:Except EK RS}(q:After K T C c A ex r H0 H B S d v Q E)(hk:step r S d=S.Fo n y k)(hnn:S.ns.length=S.ls.length):
  (¬ (0<=n/\n<S.ns.length)->∀ (e:Addr)(H':Hp),aJ T H H'->H' e=none->E (.ref c.number) (some e) H')/\(0<=n->n<S.ns.length->S.ns[n.toNat]?≠some y->∀ (e:Addr)(H':Hp),aJ T H H'->H' e=none->E (.ref c.yours) (some e) H'):=
 ⟨fun h=>q.2 .number (hk.trans (Ko (by rw [<- hnn];exact h))),fun h0 h1 h=>q.2 .yours (hk.trans (CQ h0 (by rw [<- hnn];exact h1) h))⟩
end
abbrev ql:Stmt:=top 42
theorem Ds:aD ["one","start"] ["one","start"] (ao ql):=by walk_at "sc"
inductive Td (K:PySem.W.Frag)(vs:List V)(H:Hp)(Q:VK)(E:XK):Prop
 | mk (a:Addr)(l:Lic)(m:Int)(_:vs=[.ref a,.int m])(_:SqT K H a (zG l))(_:∀ t,H t=none->Q (.ref t) (upd H t (.tup (zG (wst l m)))))
variable {qX:Addr}{rP:FuncData}(cQ:Df K mg "with_start" ql ["one","start"] qX rP)
include cQ in
theorem abr:(CX0|||1) qX rP ["one","start"] (Td K):=by
 refine cQ.F.ok Ds ?_ ?_;walk_at "i";obtain ⟨a,l,m,rfl,hT,q⟩:=h;refine ⟨_,(~~~(@aL _ _ _ _ (@gD _ _ _ _ _ (@bD _ _ _ _ _ _ _ yL (pv 0) au (fun _ _=>rfl)>=>pv 1>=>@bD _ _ _ _ _ _ _ yL (pv 0) au (fun _ _=>rfl)>=>@bD _ _ _ _ _ _ _ yL (pv 0) au (fun _ _=>rfl)>=>ak)))),?_⟩;exact ⟨_,rfl,a,_,0,_,rfl,rfl,hT,rfl,_,rfl,_,rfl,a,_,2,_,rfl,rfl,hT,rfl,_,rfl,a,_,3,_,rfl,rfl,hT,rfl,szl,q⟩
abbrev uP:Stmt:=inClass (top 50) 7
theorem Gh:aD ["self","number","holder","to"] ["self","number","holder","to"] (ao uP):=by walk_at "sc"
inductive Mp (K:PySem.W.Frag)(T:dX)(C:Addr)(c:Ec)(vs:List V)(H:Hp)(Q:VK)(E:XK):Prop
 | mk (A:Rs)(ex:List (Str × V))(H0:Hp)(B:List (Addr × HO))(r:List Int)(S:RS)(n:Int)(y z:Str)(_:vs=[.ref A.p,.int n,.str y,.str z])(_:RA K T C A ex r H0 H B S)(_:RP r ex S)(_:Asc z)(_:After K T C c A ex r H0 H B S (.sell n y z) .non Q E)
variable (bK:((CXE P w)|||2) gJ gM ["self","number","holder"] (Ci K T C c.number c.yours))
variable (jJ:((CXE P w)|||2) m8 nq ["name"] (zJ T c.holder))
variable {vg:Addr}{vI:FuncData}(gW:Dm K C "sell" "Roll.sell" uP ["self","number","holder","to"] vg vI)
include bL aU aF bK jJ gW in
theorem Rn:((CXE P w)|||3) vg vI ["self","number","holder","to"] (Mp K T C c):=by
 have R:=aU;refine gW.F.okX Gh ?_ ?_;walk_at "i";obtain ⟨A,ex,H0,L,r,S,n,y,z,rfl,⟨us,vs,O,d0,d1⟩,hp,az,q⟩:=h;have hul:us.length=S.ls.length:=by rw [d0.length,ac5]
 have hvl:vs.length=S.ds.length:=by rw [d1.length,ac5]
 have hnn:=hp.nn;have hdl:=hp.dl;obtain ⟨qN,qY⟩:=After.Fo (n:=n) (y:=y) q rfl hnn;refine ⟨_,(aR (fQ (pv 0) aU.c aF.m bK hr.m aF.b .nil Bw (pv 1>=>pv 2>=>ak))<|>aR (bL*>jJ*>(pv 3>=>ak))<|>gC (pv 3) (uw (bI (pv 0) rfl) (pv 1) set_list)<|>(~~~(aR (m7 ae3 ae5 ae6 bJ (bI (pv 0) rfl) (@gD _ _ _ _ _ (cO>=>pv 1>=>pv 2>=>pv 3>=>ak)>=>ak))))),?_⟩;refine ⟨_,rfl,A.p,A.dx,_,rfl,O.get 0,(by exact hp.ex.hol),_,rfl,_,rfl,A,ex,S.day,us,S.ns,n,y,rfl,O.get 0,O.sq 3,O.sq 4,by omega,hp.ex,O.same.t1,fun h0 h1 hx=>?_,qN,qY⟩;have hst:step r S (.sell n y z)=_:=Bd h0 (by omega) hx;refine ⟨_,rfl,z,rfl,az,O.same.t1,fun nz H2 s2=>?_,fun nz e H' s' he=>q.2 .holder (hst.trans (if_pos nz)) e H' s' he⟩;have hst:=hst.trans (if_neg (not_not_intro nz));have O:=O.jq s2;obtain ⟨k,rfl⟩:=ae9 h0;rw [aeT] at hst;refine ⟨_,rfl,_,rfl,A.p,C,A.dx,_,.ref A.ln,rfl,O.get 0,R.c,R.nN,rfl,_,rfl,?_⟩;refine ux O 4 rfl (iJ (by rw [ac5];omega)) fun H6 O=>?_;refine ⟨_,rfl,A.p,C,A.dx,_,.ref A.lo,rfl,O.get 0,R.c,R.nO,rfl,.inl ⟨rfl,_,O.sq 5⟩,_,rfl,_,rfl,_,rfl,szl,fun t2 ht2=>?_⟩;walk_at "nw";refine ⟨A.lo,_,_,rfl,rfl,O.get 6,aH (by omega),?_⟩;generalize hE:upd _ _ _=Hn;have O:=Ow.yI O 6 rfl hE rfl;obtain ⟨Hb,O,sb,e2⟩:=(show Ow T H0 Hn ((t2,.tup [.str "sell",.int (k:Int),.str y,.str z])::(RX C A ex r S.day us (S.ns.set k z) (vs++[V.ref t2])++L) ) from by simp only [RX,afD];exact O).frz;refine q.1 _ hst Hb _ sb ⟨us,vs++[V.ref t2],O,d0.mo sb,?_⟩;rw [aeN];exact (d1.mo sb).append (.cons (.tuple (SqT.of e2) (.cons (.str _) (.cons (.int _) (.cons (.str _) (.cons (.str _) .nil))))) .nil)
abbrev oJ:Stmt:=inClass (top 50) 6
theorem qj:aD ["self","holder","start","most","back","stop","one"] ["self","holder","start","most","back"] (ao oJ):=by walk_at "sc"
inductive MK (K:PySem.W.Frag)(T:dX)(C:Addr)(c:Ec)(vs:List V)(H:Hp)(Q:VK)(E:XK):Prop
 | mk (A:Rs)(ex:List (Str × V))(H0:Hp)(B:List (Addr × HO))(r:List Int)(S:RS)(x:Str)(st m b:Int)(bv:V)(_:vs=[.ref A.p,.str x,.int st,.int m,bv])(_:(bv=.non/\b=-1\/bv=.int b))(_:RA K T C A ex r H0 H B S)(_:RP r ex S)(_:Asc x)(_:After K T C c A ex r H0 H B S (.file x st m b) (.int (S.ls.length:Int)) Q E)
variable {Q:VK}
theorem ZK {bv:V}{stop:Int}(hb:bv=.non/\stop=-1\/bv=.int stop)(hj:σ[j]?=some (some bv))(h:Q (.int stop) H):
  tIf (QL (tOp (fun x y H Q=>y=V.non/\Q (V.bl (decide (x=V.non))) H) (aa2 j) (tC V.non))) (tC (V.int (-1))) (aa2 j) σ H Q:=by
 refine ⟨bv,hj,rfl,_,rfl,?_⟩;rcases hb with ⟨rfl,rfl⟩ | rfl
 ·exact zA h
 ·exact um ⟨_,hj,h⟩
variable (bY:nZ K mg "NoLicence" c.licence)
variable (mU:(CX0|||2) rE sE ["below","one"] (JD K T))
variable (lO:((CXE P w)|||1) iK iM ["self"] (Mr K T C c.full))
variable (yX:(CX0|||1) rN sU ["self","one","holder"] (JG C))
variable {vo:Addr}{vL:FuncData}(bQ:DmD K C "file" "Roll.file" oJ ["self","holder","start","most","back"] vo vL)
include cW bL eE bB aU jJ bY mU lO yX bQ in
theorem Rr (B:Blt mg)(CM:Mth mg):
  ((CXE P w)|||3) vo vL ["self","holder","start","most","back"] (MK K T C c):=by
 obtain ⟨tM,hMOUTH⟩:=CM.MOUTH
 have R:=aU
 refine bQ.F.okX qj ?_ ?_
 walk_at "i"
 obtain ⟨A,ex,H0,L,r,S,x,st,m,b,bv,rfl,hb,⟨us,vs,O,d0,d1⟩,hp,ax,q⟩:=h
 have hul:us.length=S.ls.length:=by rw [d0.length,ac5]
 have hvl:vs.length=S.ds.length:=by rw [d1.length,ac5]
 have hnn:=hp.nn
 have hdl:=hp.dl
 have hr40:=hp.r40
 have hl60:=hp.l60
 have sA:=aJ.refl O.same.t1
 refine ⟨_,(aR (bL*>jJ*>(pv 1>=>ak))<|>5<$>qj<$>(JW (aQ Nz (pv 4) zW (bx _)) (dY (v:=.int (-1)) rfl hMOUTH ⟨_,rfl⟩) (pv 4))<|>6<$>qj<$>(@gD _ _ _ _ _ (bI (pv 0) rfl>=>pv 2>=>pv 5>=>pv 3>=>ak))<|>@eO _ _ _ _ _ _ _ _ (PW.pt (pw_or (aQ Ef (pv 3) au (bx _)) (pw_or1 (nQ (j7 (cW<*mU<*(bI (pv 0) rfl>=>pv 6>=>ak)))))))
   (~~~(iw jr rfl (fun _ _ z=>z) rfl bY.m bY.q (cO>=>ak)))
   aX<|>aR (gb (pv 0) aU.c bB.m lO hr.m bB.b .nil Bw)<|>aR (m7 ae3 ae5 ae6 bJ (bI (pv 0) rfl) (@gD _ _ _ _ _ (cO>=>pv 1>=>pv 2>=>pv 3>=>pv 5>=>ak)>=>ak))<|>(~~~(@aL _ _ _ _ (fQ (pv 0) aU.c eE.m yX hr.m eE.b .nil oO (pv 6>=>pv 1>=>ak))))),?_⟩
 refine ⟨_,rfl,x,rfl,ax,O.same.t1,fun nx H1 s1=>?_,fun nx e H' s' he=>q.2 .holder (if_pos nx) e H' s' he⟩
 have hst:step r S (.file x st m b)=_:=if_neg (not_not_intro nx)
 have O:=O.jq s1
 refine ZK hb rfl ?_
 refine ⟨_,rfl,A.p,C,A.dx,_,.int S.day,rfl,O.get 0,R.c,R.nD,rfl,_,rfl,_,rfl,_,rfl,szl,fun t1 ht1=>?_⟩
 generalize hE:upd _ _ _=Hn
 have s2:aJ T H Hn:=hE ▸ s1.upd (s1.free ht1) (.inl ht1)
 replace O:=Ow.mkE O ht1 hE rfl
 clear hE
 refine ⟨_,rfl,rfl,_,rfl,ifI (fun m0=>?_) (fun m0=>?_)⟩
 ·exact ⟨szl,fun e he=>q.2 .licence (hst.trans (if_pos (.inl m0))) e _ s2 he⟩
 refine ⟨_,rfl,A.p,C,A.dx,_,.ref A.lb,rfl,O.get 1,R.c,R.nB,rfl,_,rfl,A.lb,t1,r,⟨S.day,st,b,m⟩,rfl,O.sq 3,hp.rv,by omega,O.sqT 0,O.same.t1,fun bb H2 s3 hb2=>?_⟩
 have O:=O.jq s3
 cases bb with
 | false=>exact ⟨_,rfl,zA ⟨szl,fun e he=>q.2 .licence (hst.trans (if_pos (.inr fun z=>nomatch hb2.mpr z))) e _ (s2.trans s3) he⟩⟩
 | true =>
 refine ⟨_,rfl,um ?_⟩
 have hl:=hb2.mp rfl
 have hst:=hst.trans (if_neg (show ¬ (m=0\/¬ p8 r ⟨S.day,st,b,m⟩) from fun z=>z.elim m0 fun w=>w hl))
 refine ⟨_,rfl,A.p,A.dx,_,rfl,O.get 1,(by exact hp.ex.room),A,ex,S.day,us,rfl,O.get 1,O.sq 4,O.same.t1,fun h4=>?_,fun h4 e H' s' he=>q.2 .full (hst.trans (if_pos (by omega))) e H' ((s2.trans s3).trans s') he⟩
 have hst:=hst.trans (if_neg (by omega))
 refine ⟨_,rfl,A.p,C,A.dx,_,.ref A.lo,rfl,O.get 1,R.c,R.nO,rfl,.inl ⟨rfl,_,O.sq 6⟩,_,rfl,_,rfl,_,rfl,_,rfl,szl,fun t2 ht2=>?_⟩
 walk_at "nw"
 refine ⟨A.lo,_,_,rfl,rfl,O.get 7,aH (by omega),?_⟩
 generalize hE:upd _ _ _=Hn2
 replace O:=Ow.yI O 7 rfl hE rfl
 clear hE
 refine ⟨_,rfl,A.p,A.dx,_,rfl,O.get 2,(by exact hp.ex.ent),_,rfl,_,rfl,A,ex,S.day,us,S.ns.map V.str,.ref t1,.str x,rfl,O.get 2,O.get 5,O.get 6,by omega,by rw [ac5];omega,O.ne 2 5,O.ne 2 6,O.ne 6 5,?_⟩
 have O:=(O.acY 5 rfl (o':=.lst (us++[.ref t1])) rfl).acY 6 rfl (o':=.lst (S.ns.map V.str++[.str x])) rfl
 rw [hul]
 obtain ⟨Hb,O,sb,e2⟩:=(show Ow T H0 _ ((t2,.tup [.str "file",.str x,.int st,.int m,.int b])::(t1,.tup (zG ⟨S.day,st,b,m⟩))::(RX C A ex r S.day (us++[.ref t1]) (S.ns++[x]) (vs++[V.ref t2])++L)) from by simp only [RX,aeN,afg,agb];exact O).frz
 obtain ⟨Hc,O,sc,e1⟩:=O.frz
 have e2:=sc.keep _ _ e2 (fun _ z=>nomatch z)
 have sx:=sb.trans sc
 refine q.1 _ hst Hc _ sx ⟨us++[V.ref t1],vs++[V.ref t2],O,?_,?_⟩
 ·rw [aeN]
  exact (d0.mo sx).append (.cons (Den.lic (l:=⟨S.day,st,b,m⟩) (SqT.of e1)) .nil)
 ·rw [aeN]
  exact (d1.mo sx).append (.cons (.tuple (SqT.of e2) (.cons (.str _) (.cons (.str _) (.cons (.int _) (.cons (.int _) (.cons (.int _) .nil)))))) .nil)
abbrev jg:Stmt:=inClass (top 50) 0
theorem zc:aD ["self","below"] ["self","below"] (ao jg):=by walk_at "sc"
inductive MF (K:PySem.W.Frag)(T:dX)(C:Addr)(c:Ec)(vs:List V)(H:Hp)(Q:VK)(E:XK):Prop
 | mk (p dx lv:Addr)(H0:Hp)(B:List (Addr × HO))(r:List Int)(_:vs=[.ref p,.ref lv])(_:Ow T H0 H ((p,.ins C dx [])::(dx,.own p)::B))(_:SqL K H lv (r.map V.int))(_:r.length<=900)(_:(Rv.isR r=true->∀ (A:Rs)(H':Hp),A.p=p->Ow T H0 H' (RX C A [] r 0 [] [] []++B)->Q .non H'))(_:(Rv.isR r=false->∀ (e:Addr)(H':Hp),aJ T H H'->H' e=none->E (.ref c.Gm) (some e) H'))
variable (Dc:(CX0|||2) xZ yq ["below"] (TF K))
include jD Dc in
theorem Rq {C':Addr}(D:Dm K C' "__init__" "Roll.__init__" jg ["self","below"] f fd)(B:Blt mg)(R:RC K C)(lM:nZ K mg "NoRiver" c.Gm):
  ((CXE P w)|||3) f fd ["self","below"] (MF K T C c):=by
 refine D.F.okX zc ?_ ?_
 walk_at "i"
 obtain ⟨p,dx,lv,H0,L,r,rfl,O,hv,r9,q,qx⟩:=h
 refine ⟨_,(@eO _ _ _ _ _ _ _ _ (nQ (j7 (jD<*Dc<*(pv 1>=>ak))))
   (~~~(iw jr rfl (fun _ _ z=>z) rfl lM.m lM.q (cO>=>ak)))
   aX<|>nT (pv 0) (bW bf rfl B.list afe (pv 1>=>ak)) rfl<|>nT (pv 0) au rfl<|>nT (pv 0) (@bF _ _ _ _ ak) rfl<|>nT (pv 0) (@bF _ _ _ _ ak) rfl<|>(~~~(nT (pv 0) (@bF _ _ _ _ ak) rfl))),?_⟩
 refine ⟨_,rfl,lv,r,rfl,hv,by omega,fun H1 s1=>?_⟩
 have s1:=aJ.of O.same.t1 s1
 cases hR:Rv.isR r with
 | false=>exact ⟨_,rfl,zA ⟨szl,fun e he=>qx hR e _ s1 he⟩⟩
 | true =>
 refine ⟨_,rfl,um ?_⟩
 have hv:=s1.seq hv
 have O:=O.jq s1
 refine ⟨_,rfl,lv,_,rfl,.inl hv,fun lb hlb=>?_⟩
 walk_at "nw"
 refine ⟨_,rfl,p,C,dx,_,rfl,O.get 1,R.c,R.nB,(by show 0<1000;decide),?_⟩
 walk_at "pt"
 refine ⟨_,rfl,p,C,dx,_,rfl,O.get 1,R.c,R.nD,(by show 1<1000;decide),?_⟩
 walk_at "pt"
 refine ⟨szl,fun ll hll=>?_⟩
 walk_at "nw"
 refine ⟨_,rfl,p,C,dx,_,rfl,O.get 2,R.c,R.nL,(by show 2<1000;decide),?_⟩
 walk_at "pt"
 refine ⟨szl,fun ln hln=>?_⟩
 walk_at "nw"
 refine ⟨_,rfl,p,C,dx,_,rfl,O.get 3,R.c,R.nN,(by show 3<1000;decide),?_⟩
 walk_at "pt"
 refine ⟨szl,fun lo hlo=>?_⟩
 walk_at "nw"
 refine ⟨_,rfl,p,C,dx,_,rfl,O.get 4,R.c,R.nO,(by show 4<1000;decide),?_⟩
 walk_at "pt"
 have O:=((((O.pull 1 rfl).pull 2 rfl).pull 3 rfl).pull 5 rfl).pull 5 rfl
 exact q hR ⟨p,dx,lb,ll,ln,lo⟩ _ rfl O
structure Bx where
 ld:Addr
 lk:Addr
 lr:Addr
 lg:Addr
 la:V
abbrev exB (Z:Bx):List (Str × V):=[("dug",.ref Z.ld),("keeps",.ref Z.lk),("ran",.ref Z.lr),("last",Z.la),("greatest",.ref Z.lg)]
abbrev BL (Z:Bx)(gs rs ks us:List V):List (Addr × HO):=[(Z.lg,.lst gs),(Z.lr,.lst rs),(Z.lk,.lst ks),(Z.ld,.lst us)]
theorem Kd (Z:Bx):aec (exB Z):=⟨rfl,rfl,rfl,rfl,rfl,rfl,rfl,rfl,rfl,rfl,rfl,rfl,rfl,rfl,rfl,rfl,rfl⟩
abbrev SQ:List Str:=["below","day","licences","names","done","dug","keeps","ran","last","greatest"]
structure BC (K:PySem.W.Frag)(C:Addr):Prop where
 c:Cls K C
 r:RC K C
 nD:ju K C "dug"
 nK:ju K C "keeps"
 nR:ju K C "ran"
 nL:ju K C "last"
 nG:ju K C "greatest"
theorem aaL {f0:Addr}(R:Cl K mg "Book" C f0 SQ):BC K C:=by
 have n:=R.n;simp only [SQ,aeS,ae8,or_false,forall_eq_or_imp,forall_eq] at n;obtain ⟨a1,a2,a3,a4,a5,a6,a7,a8,a9,a10⟩:=n;exact ⟨R.c,⟨R.c,a1,a2,a3,a4,a5⟩,a6,a7,a8,a9,a10⟩
variable {H0:Hp}
theorem Ow.front (X R B:List (Addr × HO))(O:Ow T H0 H (X++(R++B))):Ow T H0 H (R++(X++B)):=O.perm (List.perm_append_comm_assoc _ _ _)
abbrev lC:Stmt:=inClass (top 81) 0
theorem zj:aD ["self","below"] ["self","below"] (ao lC):=by walk_at "sc"
inductive JL (K:PySem.W.Frag)(T:dX)(C:Addr)(c:Ec)(vs:List V)(H:Hp)(Q:VK)(E:XK):Prop
 | mk (p dx lv:Addr)(H0:Hp)(B:List (Addr × HO))(r:List Int)(_:vs=[.ref p,.ref lv])(_:Ow T H0 H ((p,.ins C dx [])::(dx,.own p)::B))(_:SqL K H lv (r.map V.int))(_:r.length<=900)(_:(Rv.isR r=true->∀ (A:Rs)(Z:Bx)(H':Hp),A.p=p->Z.la=.non->Ow T H0 H' (RX C A (exB Z) r 0 [] [] []++(BL Z [] [] [] []++B))->Q .non H'))(_:(Rv.isR r=false->∀ (e:Addr)(H':Hp),aJ T H H'->H' e=none->E (.ref c.Gm) (some e) H'))
variable (dW:BC K C)
variable {lF:Addr}{sW:FuncData}(gZ:Dm K CR "__init__" "Roll.__init__" jg ["self","below"] lF sW)
variable (tG:((CXE P w)|||3) lF sW ["self","below"] (MF K T C c))
variable {jl:Addr}{lK:FuncData}(cA:Dm K C "__init__" "Book.__init__" lC ["self","below"] jl lK)
include dW gZ tG cA in
theorem Ru (CT:mg "Roll"=some (.ref CR))(lR:ClF K CR lF "__init__"):
  ((CXE P w)|||4) jl lK ["self","below"] (JL K T C c):=by
 have R:=dW;refine cA.F.okX zj ?_ ?_;walk_at "i";obtain ⟨p,dx,lv,H0,L,r,rfl,O,hv,r9,q,qx⟩:=h;refine ⟨_,(aR (Z7 rfl CT lR tG hr.m gZ.b .nil Bw (pv 0>=>pv 1>=>ak))<|>nT (pv 0) (@bF _ _ _ _ ak) rfl<|>nT (pv 0) (@bF _ _ _ _ ak) rfl<|>nT (pv 0) (@bF _ _ _ _ ak) rfl<|>nT (pv 0) zW rfl<|>(~~~(nT (pv 0) (@bF _ _ _ _ ak) rfl))),?_⟩;refine ⟨_,rfl,_,rfl,p,dx,lv,H0,_,r,rfl,O,hv,r9,fun hR A H5 eA O5=>?_,fun hR e H' s he=>qx hR e H' s he⟩;clear O;subst eA;have O:=O5;clear O5;refine ⟨szl,fun ld hld=>?_⟩;walk_at "nw";refine ⟨_,rfl,A.p,C,A.dx,_,rfl,O.get 1,R.c,R.nD,(by show 5<1000;decide),?_⟩;walk_at "pt";refine ⟨szl,fun lk hlk=>?_⟩;walk_at "nw";refine ⟨_,rfl,A.p,C,A.dx,_,rfl,O.get 2,R.c,R.nK,(by show 6<1000;decide),?_⟩;walk_at "pt";refine ⟨szl,fun lr hlr=>?_⟩;walk_at "nw";refine ⟨_,rfl,A.p,C,A.dx,_,rfl,O.get 3,R.c,R.nR,(by show 7<1000;decide),?_⟩;walk_at "pt";refine ⟨_,rfl,A.p,C,A.dx,_,rfl,O.get 3,R.c,R.nL,(by show 8<1000;decide),?_⟩;walk_at "pt";refine ⟨szl,fun lg hlg=>?_⟩;walk_at "nw";refine ⟨_,rfl,A.p,C,A.dx,_,rfl,O.get 4,R.c,R.nG,(by show 9<1000;decide),?_⟩;walk_at "pt";exact q hR A ⟨ld,lk,lr,lg,.non⟩ _ rfl rfl (Ow.front [(lg,.lst []),(lr,.lst []),(lk,.lst []),(ld,.lst [])] (RX C A (exB ⟨ld,lk,lr,lg,.non⟩) r 0 [] [] []) L O)
abbrev qD:Stmt:=top 40
theorem Dv:aD ["one"] ["one"] (ao qD):=by walk_at "sc"
inductive abf (K:PySem.W.Frag)(vs:List V)(H:Hp)(Q:VK)(E:XK):Prop
 | mk (t:Addr)(l:Lic)(_:vs=[.ref t])(_:SqT K H t (zG l))(_:Q (.bl (!decide (l.back=-1))) H)
variable {rF:Addr}{sG:FuncData}(cX:Df K mg "gives_back" qD ["one"] rF sG)
include cX in
theorem adM (C:Mth mg):(CX0|||1) rF sG ["one"] (abf K):=by
 obtain ⟨tM,hMOUTH⟩:=C.MOUTH;refine cX.F.ok Dv ?_ ?_;walk_at "i";obtain ⟨t,l,rfl,hT,q⟩:=h;refine ⟨_,(~~~(@aL _ _ _ _ (oM zX (@bD _ _ _ _ _ _ _ yL (pv 0) au (fun _ _=>rfl)) (dY (v:=.int (-1)) rfl hMOUTH ⟨_,rfl⟩) (bx _)))),?_⟩;refine ⟨_,rfl,t,_,2,_,rfl,rfl,hT,rfl,rfl,?_⟩;rw [show decide (V.int l.back=V.int (-1))=decide (l.back=-1) from by simp];exact q
abbrev Pd:=Int × Int × Int
def Hu (ps:List Pd)(n:Int):Bool:=(ps.map fun p=>decide (n=p.1)).any id
abbrev jh:Stmt:=inClass (top 81) 4
theorem zf:aD ["self","number"] ["self","number"] (ao jh):=by walk_at "sc"
inductive TJ (K:PySem.W.Frag)(T:dX)(C:Addr)(vs:List V)(H:Hp)(Q:VK)(E:XK):Prop
 | mk (A:Rs)(Z:Bx)(day n:Int)(us:List V)(ps:List Pd)(_:vs=[.ref A.p,.int n])(_:H A.p=some (RV C A (exB Z) day))(_:SqL K H Z.ld us)(_:bZ K H us (ps.map dMv))(_:ps.length<=900)(_:TabsOk T H)(_:∀ H',aJ T H H'->Q (.bl (Hu ps n)) H')
variable {lG:Addr}{lJ:FuncData}(aY:Dm K C "has_pond" "Book.has_pond" jh ["self","number"] lG lJ)
include aY in
theorem abK (B:Blt mg)(R:BC K C):(CX0|||1) lG lJ ["self","number"] (TJ K T C):=by
 refine aY.F.ok zf ?_ ?_;walk_at "i";obtain ⟨A,Z,day,n,us,ps,rfl,hp,hL,d1,h9,tk,q⟩:=h;have hul:us.length=ps.length:=by rw [d1.length,ac5]
 have O:=Ow.refl tk;refine ⟨_,(~~~(@aL _ _ _ _ (aB (SM rfl) rfl B.any PyProof.Rows.boot_any (gF (ao jh) rfl ["self","number"] rfl ["other","room","leak","number"] [none,none,none,some 1] (by decide+kernel) (by decide+kernel) (by decide+kernel) rfl (bU (bI (pv 0) rfl)) (fun _ _ _=>(qP (K:=K) (n:=3) rfl rfl (aA (bG (i:=0) (show (["other","room","leak","number"]:List Str).Nodup by decide+kernel) rfl (Or.inl rfl)) (aA (bG (i:=1) (show (["other","room","leak","number"]:List Str).Nodup by decide+kernel) rfl (Or.inl rfl)) (aA (bG (i:=2) (show (["other","room","leak","number"]:List Str).Nodup by decide+kernel) rfl (Or.inl rfl)) bN))))) (fun _ _ _=>gB) (fun _ _ _=>(oM Ef (pv 3) (pv 0) (bx _)))>=>ak)))),?_⟩;refine ⟨_,rfl,A.p,C,A.dx,_,.ref Z.ld,rfl,hp,R.c,R.nD,rfl,Z.ld,rfl,⟨_,hL⟩,fun lw hlw=>?_⟩;refine d8 (K:=K) (xs:=us) (fun i τ H'=>Iv (∃ (v0 v1 v2:Option V),τ=[v0,v1,v2,some (.int n)]/\Ow T H H' [(lw,.lst (((ps.take i).map fun p:Pd=>decide (n=p.1)).map V.bl))])) ⟨trivial,none,none,none,rfl,O.mk' hlw rfl⟩ (fun i τ H' _ ⟨_,_,_,_,_,O⟩=>O.same.seq hL) ?_ ?_
 ·clear O;rintro i y τ H3 hy ⟨-,v0,v1,v2,rfl,O⟩;obtain ⟨ap,p,rfl,hp',hT⟩:=d1.J1 hy;have hi:=(aeJ.mp hp').1;refine ⟨ap,_,rfl,hT.mo O.same,rfl,_,_,rfl,_,_,rfl,_,_,rfl,rfl,?_⟩;refine aaS ?_;refine ⟨_,rfl,_,rfl,rfl,_,O.get 0,aH (by rw [ac5,ac5,ae0];omega),?_⟩;walk_at "pt";refine ⟨trivial,_,_,_,rfl,?_⟩;rw [Tn.fH hp',aeN,aeN];rw [show decide (V.int n=V.int p.1)=decide (n=p.1) from by simp] at O;exact O
 clear O;rintro τ H3 ⟨-,v0,v1,v2,rfl,O⟩;rw [hul,aeU (aeL _)] at O;exact ⟨lw,_,rfl,O.sq 0,q _ O.same⟩
inductive PK
 | number| yours| pond
def PK.at_ (c:Ec)(cP:Addr):PK->Addr
 | .number=>c.number| .yours=>c.yours| .pond=>cP
open Classical in
noncomputable def DP (S:RS)(ps:List Pd)(n:Int)(y:Str)(room leak:Int):Option PK:=
 if ¬ (0<=n/\n<S.ls.length) then some .number else if S.ns[n.toNat]?≠some y then some .yours else
 if (S.at_ n).back≠-1\/Hu ps n=true\/10<=ps.length\/¬ (0<=room/\room<=1000000000000/\0<=leak/\leak<=1000) then some .pond else none
abbrev oK:Stmt:=inClass (top 81) 1
theorem Gj:aD ["self","number","holder","room","leak"] ["self","number","holder","room","leak"] (ao oK):=by walk_at "sc"
inductive Ms (K:PySem.W.Frag)(T:dX)(C:Addr)(c:Ec)(cP:Addr)(vs:List V)(H:Hp)(Q:VK)(E:XK):Prop
 | mk (A:Rs)(Z:Bx)(H0:Hp)(B:List (Addr × HO))(r:List Int)(S:RS)(gs rs ks us:List V)(ps:List Pd)(n:Int)(y:Str)(room leak:Int)(_:vs=[.ref A.p,.int n,.str y,.int room,.int leak])(_:RA K T C A (exB Z) r H0 H (BL Z gs rs ks us++B) S)(_:RP r (exB Z) S)(_:bZ K H0 us (ps.map dMv))(_:ps.length<=900)(_:ks.length<=900)(_:(DP S ps n y room leak=none->∀ (t:Addr)(Hb H':Hp),aJ T H0 Hb->RA K T C A (exB Z) r Hb H' (BL Z gs rs (ks++[.int 0]) (us++[.ref t])++B) S->bZ K Hb (us++[.ref t]) ((ps++[(n,room,leak)]).map dMv)->Q (.int (ps.length:Int)) H'))(_:(∀ k,DP S ps n y room leak=some k->∀ (e:Addr)(H':Hp),aJ T H H'->H' e=none->E (.ref (k.at_ c cP)) (some e) H'))
variable (mW:(CX0|||1) rF sG ["one"] (abf K))
variable (jw:(CX0|||1) lG lJ ["self","number"] (TJ K T C))
variable {vp:Addr}{vM:FuncData}(ig:DmZ K C "pond" "Book.pond" oK ["self","number","holder","room","leak"] vp vM)
include c7 lA aU aF bK dW cX aY mW jw ig in
theorem aae (B:Blt mg)(jt:nZ K mg "NoPond" cP)(CP:∃ t,mg "MOST_PONDS"=some (.int 10 t))(CW:∃ t,mg "WHOLE"=some (.int 1000 t)):
  ((CXE P w)|||3) vp vM ["self","number","holder","room","leak"] (Ms K T C c cP):=by
 obtain ⟨tP,Iz⟩:=CP
 obtain ⟨tW,hWHOLE⟩:=CW
 obtain ⟨tz,Fz,_⟩:=ig.F
 have R:=dW
 refine Fz.okX Gj (fun vs H Q E h=>?_) (fun cdv A outer s H vs Q E hr h=>?_)
 ·obtain ⟨_,_,_,_,_,_,_,_,_,_,_,_,_,_,_,rfl,_⟩:=h;rfl
 ·obtain ⟨A,Z,H0,L,r,S,gs,rs,ks,us,ps,n,y,room,leak,rfl,⟨ls,vs,O,d0,d1⟩,hp,dP,hpl,hkl,q,qE⟩:=h
  have hll:ls.length=S.ls.length:=by rw [d0.length,ac5]
  have hul:us.length=ps.length:=by rw [dP.length,ac5]
  have hnn:=hp.nn
  have h60:=hp.l60
  refine ⟨_,(aR (fQ (pv 0) aU.c aF.m bK hr.m aF.b .nil Bw (pv 1>=>pv 2>=>ak))<|>@eO _ _ _ _ _ _ _ _ (PW.pt (pw_or (j7 (cX<*mW<*(@bD _ _ _ _ _ _ _ aM (bI (pv 0) rfl) (pv 1) (fun _ _=>rfl)>=>ak))) (pw_or1 (j7 (fQ (pv 0) dW.c aY.m jw hr.m aY.b .nil oO (pv 1>=>ak))))))
    (~~~(iw jr rfl (fun _ _ z=>z) rfl jt.m jt.q (cO>=>ak)))
    aX<|>@eO _ _ _ _ _ _ _ _ (aQ Q9 (aB aC rfl B.len aeZ (bI (pv 0) rfl>=>ak)) (dY (v:=.int (10)) rfl Iz ⟨_,rfl⟩) (bx _))
    (~~~(iw jr rfl (fun _ _ z=>z) rfl jt.m jt.q (cO>=>ak)))
    aX<|>@eO _ _ _ _ _ _ _ _ (nQ (PW.pt (pw_and (j7 (c7<*lA<*(pv 3>=>ak))) (pw_and1 (tV wB wB au (pv 4) (dY (v:=.int (1000)) rfl hWHOLE ⟨_,rfl⟩))))))
    (~~~(iw jr rfl (fun _ _ z=>z) rfl jt.m jt.q (cO>=>ak)))
    aX<|>aR (m7 ae3 ae5 ae6 bJ (bI (pv 0) rfl) (@gD _ _ _ _ _ (pv 1>=>pv 3>=>pv 4>=>ak)>=>ak))<|>aR (m7 ae3 ae5 ae6 bJ (bI (pv 0) rfl) (au>=>ak))<|>(~~~(@aL _ _ _ _ (@bA _ _ _ _ _ _ _ _ wA (aB aC rfl B.len aeZ (bI (pv 0) rfl>=>ak)) au)))),?_⟩
  refine ⟨_,rfl,A.p,A.dx,_,rfl,O.get 0,rfl,_,rfl,_,rfl,A,exB Z,S.day,ls,S.ns,n,y,rfl,O.get 0,O.sq 3,O.sq 4,by omega,Kd Z,O.same.t1,fun h0 h1 hy=>?_,fun h=>qE .number (by unfold DP;rw [if_pos (fun z=>h (by omega))]),fun h0 h1 hy=>qE .yours (by unfold DP;rw [if_neg (not_not_intro ⟨h0,by omega⟩),if_pos hy])⟩
  obtain ⟨j,rfl⟩:=ae9 h0
  obtain ⟨l,hl⟩:∃ l,S.ls[j]?=some l:=⟨_,aeD (by omega)⟩
  obtain ⟨al,hal,hT⟩:=d0.uy hl
  have hat:S.at_ (j:Int)=l:=Ab rfl hl
  have hE:DP S ps (j:Int) y room leak=open Classical in if l.back≠-1\/Hu ps (j:Int)=true\/10<=ps.length\/¬ (0<=room/\room<=1000000000000/\0<=leak/\leak<=1000) then some .pond else none:=by
   unfold DP;rw [if_neg (not_not_intro ⟨h0,by omega⟩),if_neg (not_not_intro hy),hat]
  refine ⟨_,rfl,A.p,C,A.dx,_,.ref A.ll,rfl,O.get 0,aU.c,aU.nL,rfl,_,rfl,A.ll,_,_,_,rfl,rfl,O.sq 3,d9 hal,al,l,rfl,hT.mo O.same,?_⟩
  have bad:∀ {H'},aJ T H H'->(l.back≠-1\/Hu ps (j:Int)=true\/10<=ps.length\/¬ (0<=room/\room<=1000000000000/\0<=leak/\leak<=1000))->∀ e,H' e=none->E (.ref cP) (some e) H':=fun {H'} s h e he=>qE .pond (by rw [hE,if_pos h]) e H' s he
  have s0:aJ T H H:=aJ.refl O.same.t1
  refine ⟨_,rfl,ifN (ifD (fun hb=>?_) (fun hb=>⟨szl,fun e he=>bad s0 (.inl hb) e he⟩))⟩
  refine ⟨_,rfl,A.p,A.dx,_,rfl,O.get 0,rfl,_,rfl,A,Z,S.day,(j:Int),us,ps,rfl,O.get 0,O.sq 9,dP.mo O.same,hpl,O.same.t1,fun H1 s1=>?_⟩
  have O:=O.jq s1
  refine ⟨_,rfl,ifB (fun hh=>⟨szl,fun e he=>bad s1 (.inr (.inl hh)) e he⟩) (fun hh=>?_)⟩
  refine ⟨_,rfl,A.p,C,A.dx,_,.ref Z.ld,rfl,O.get 0,R.c,R.nD,rfl,Z.ld,_,rfl,.inl (O.sq 9),_,_,rfl,rfl,_,rfl,ifD (fun h10=>⟨szl,fun e he=>bad s1 (.inr (.inr (.inl (by have h10:(10:Int)<=(us.length:Int):=h10;omega)))) e he⟩) (fun h10=>?_)⟩
  have h10:¬ (10:Int)<=(us.length:Int):=h10
  refine ⟨_,rfl,room,rfl,fun bw hbw=>?_⟩
  refine ⟨_,rfl,ifB (fun hw=>?_) (fun hw=>?_)⟩
  rotate_left
  ·exact zA ⟨szl,fun e he=>bad s1 (.inr (.inr (.inr fun z=>by rw [hbw.mpr ⟨z.1,z.2.1⟩] at hw;cases hw))) e he⟩
  have hw:=hbw.mp hw
  refine ⟨_,rfl,_,_,rfl,rfl,_,rfl,ifD (fun l0=>?_) (fun l0=>?_)⟩
  rotate_left
  ·exact ⟨_,rfl,zA ⟨szl,fun e he=>bad s1 (.inr (.inr (.inr fun z=>l0 z.2.2.1))) e he⟩⟩
  refine ⟨_,_,rfl,rfl,_,rfl,ifN (ifD (fun l1=>?_) (fun l1=>⟨szl,fun e he=>bad s1 (.inr (.inr (.inr fun z=>l1 z.2.2.2))) e he⟩))⟩
  have hN:DP S ps (j:Int) y room leak=none:=by
   rw [hE,if_neg]
   rintro (z| z| z| z)
   ·exact z hb
   ·rw [hh] at z;cases z
   ·omega
   ·exact z ⟨hw.1,hw.2,l0,l1⟩
  refine ⟨_,rfl,A.p,C,A.dx,_,.ref Z.ld,rfl,O.get 0,R.c,R.nD,rfl,.inl ⟨rfl,_,O.sq 9⟩,_,rfl,_,rfl,_,rfl,szl,fun t ht=>?_⟩
  walk_at "nw"
  refine ⟨Z.ld,_,_,rfl,rfl,O.get 10,aH (by omega),?_⟩
  generalize hE2:upd _ _ _=Hn
  have O:=Ow.yI O 10 rfl hE2 rfl
  clear hE2
  refine ⟨_,rfl,A.p,C,A.dx,_,.ref Z.lk,rfl,O.get 1,R.c,R.nK,rfl,.inl ⟨rfl,_,O.sq 9⟩,Z.lk,_,_,rfl,rfl,O.get 9,aH (by omega),?_⟩
  generalize hE2:upd _ _ _=Hm
  have O:=Ow.yI O 9 rfl hE2 rfl
  clear hE2
  refine ⟨_,rfl,A.p,C,A.dx,_,.ref Z.ld,rfl,O.get 1,R.c,R.nD,rfl,Z.ld,_,rfl,.inl (O.sq 10),_,_,rfl,rfl,?_⟩
  dsimp only
  rw [show (((us++[V.ref t]).length:Nat):Int) - 1=(ps.length:Int) by rw [ae1,hul];simp]
  obtain ⟨Hb,O,sb,e1⟩:=(show Ow T H0 Hm ((t,_)::(RX C A (exB Z) r S.day ls S.ns vs++(BL Z gs rs (ks++[.int 0]) (us++[.ref t])++L))) from O).frz
  refine q hN t Hb Hm sb ⟨ls,vs,O,d0.mo sb,d1.mo sb⟩ ?_
  rw [aeN]
  exact (dP.mo sb).append (.cons (Den.mv (m:=((j:Int),room,leak)) (SqT.of e1)) .nil)
abbrev lB:Stmt:=top 73
theorem xu:aD ["roll","ponds","takes","lets","keepers","users"] ["roll","ponds","takes","lets"] (ao lB):=by walk_at "sc"
inductive Jz (K:PySem.W.Frag)(T:dX)(vs:List V)(H:Hp)(Q:VK)(E:XK):Prop
 | mk (b c d e:Addr)(xs:List Int)(rs us:List V)(ls:List Lic)(ps:List (Int × Int × Int))(_:vs=[.ref b,.ref c,.ref d,.ref e])(_:SqL K H b rs)(_:bZ K H rs (ls.map yO))(_:ls.length<=100)(_:SqL K H c us)(_:bZ K H us (ps.map dMv))(_:ps.length<=1000)(_:SqL K H d (xs.map V.int))(_:xs.length=ls.length)(_:SqL K H e [])(_:TabsOk T H)(_:∀ (z:Int) H',aJ T H H'->Q (.int z) H')
variable {Ai:Addr}{Aq:FuncData}(lV:Df K mg "used_of" lB ["roll","ponds","takes","lets"] Ai Aq)
include cX mW lV in
theorem Rc (B:Blt mg)(C:Mth mg):(CX0|||2) Ai Aq ["roll","ponds","takes","lets"] (Jz K T):=by
 obtain ⟨tM,hMOUTH⟩:=C.MOUTH;refine lV.F.ok xu ?_ ?_;walk_at "i";obtain ⟨b,c,d,e,xs,rs,us,ls,ps,rfl,hB,d0,hl1,hC,d1,hp1,hD,hxl,hE,tk,q⟩:=h;have hrl:rs.length=ls.length:=by rw [d0.length,ac5]
 have hul:us.length=ps.length:=by rw [d1.length,ac5]
 refine ⟨_,(JV (i:=4) xu.nd rfl (Or.inr rfl) (gF (ao lB) rfl ["roll","ponds","takes","lets","keepers","users"] rfl ["number","room","leak"] [none,none,none] (by decide+kernel) (by decide+kernel) (by decide+kernel) rfl (bU (pv 1)) (fun _ _ _=>(qP (K:=K) (n:=3) rfl rfl (aA (bG (i:=0) (show (["number","room","leak"]:List Str).Nodup by decide+kernel) rfl (Or.inl rfl)) (aA (bG (i:=1) (show (["number","room","leak"]:List Str).Nodup by decide+kernel) rfl (Or.inl rfl)) (aA (bG (i:=2) (show (["number","room","leak"]:List Str).Nodup by decide+kernel) rfl (Or.inl rfl)) bN))))) (fun _ _ _=>gB) (fun _ _ _=>(pv 0)))<|>tX (i:=5) (ao lB) rfl ["roll","ponds","takes","lets","keepers","users"] rfl ["number","one","keepers"] [none,none,some 4] (by decide+kernel) (by decide+kernel) (by decide+kernel) rfl xu.nd rfl rfl (Nu rfl B.enumerate (pv 0>=>ak)) (fun _ _ _=>(qP (K:=K) (n:=2) rfl rfl (aA (bG (i:=0) (show (["number","one","keepers"]:List Str).Nodup by decide+kernel) rfl (Or.inl rfl)) (aA (bG (i:=1) (show (["number","one","keepers"]:List Str).Nodup by decide+kernel) rfl (Or.inl rfl)) bN)))) (fun _ _ _=>(DK (PW.pt (pw_and (nQ (j7 (cX<*mW<*(pv 1>=>ak)))) (pw_and1 (aQ (Eb (K:=K) rfl) (pv 0) (pv 2) (by rfl))))))) (fun _ _ _=>(pv 0)) rfl<|>(~~~(@aL _ _ _ _ (@bA _ _ _ _ _ _ _ _ pW (aB (pH rfl) rfl B.sum afQ (gF (ao lB) rfl ["roll","ponds","takes","lets","keepers","users"] rfl ["number","takes"] [none,some 2] (by decide+kernel) (by decide+kernel) (by decide+kernel) rfl (bU (pv 5)) (fun _ _ _=>(bG (i:=0) (show (["number","takes"]:List Str).Nodup by decide+kernel) rfl (Or.inl rfl))) (fun _ _ _=>gB) (fun _ _ _=>(@bD _ _ _ _ _ _ _ (jH (K:=K) rfl) (pv 1) (pv 0) (fun _ _=>rfl)))>=>ak)) (aB (pH rfl) rfl B.sum afQ (gF (ao lB) rfl ["roll","ponds","takes","lets","keepers","users"] rfl ["place","reach","amount"] [none,none,none] (by decide+kernel) (by decide+kernel) (by decide+kernel) rfl (bU (pv 3)) (fun _ _ _=>(qP (K:=K) (n:=3) rfl rfl (aA (bG (i:=0) (show (["place","reach","amount"]:List Str).Nodup by decide+kernel) rfl (Or.inl rfl)) (aA (bG (i:=1) (show (["place","reach","amount"]:List Str).Nodup by decide+kernel) rfl (Or.inl rfl)) (aA (bG (i:=2) (show (["place","reach","amount"]:List Str).Nodup by decide+kernel) rfl (Or.inl rfl)) bN))))) (fun _ _ _=>(DK (aQ zX (pv 1) (dY (v:=.int (-1)) rfl hMOUTH ⟨_,rfl⟩) (bx _)))) (fun _ _ _=>(pv 2))>=>ak)))))),?_⟩;have O:=Ow.refl tk;refine ⟨_,rfl,c,rfl,⟨_,hC⟩,fun lk hlk=>?_⟩;refine d8 (K:=K) (xs:=us) (fun i τ H'=>Iv (∃ (v0 v1 v2:Option V),τ=[v0,v1,v2]/\Ow T H H' [(lk,.lst (((ps.take i).map (·.1)).map V.int))]))
  ⟨trivial,none,none,none,rfl,O.mk' hlk rfl⟩ (fun _ _ _ _ ⟨_,_,_,_,_,O⟩=>O.same.seq hC) ?_ ?_
 ·rintro i y τ H3 hy ⟨-,v0,v1,v2,rfl,O⟩;obtain ⟨ap,p,rfl,hp,hT⟩:=d1.J1 hy;have hi:=(aeJ.mp hp).1;refine ⟨ap,_,rfl,hT.mo O.same,rfl,_,_,rfl,_,_,rfl,_,_,rfl,rfl,?_⟩;refine aaS ?_;refine ⟨_,rfl,_,O.get 0,aH (by rw [ac5,ac5,ae0];omega),?_⟩;walk_at "pt";refine ⟨trivial,_,_,_,rfl,?_⟩;rw [afo,hp,aeN,aeN];exact O
 rintro τ H3 ⟨-,v0,v1,v2,rfl,O⟩;refine ⟨_,rfl,b,_,rfl,O.same.seq hB,fun lu hlu=>?_⟩;generalize (((ps.take us.length).map (·.1)):List Int)=kl at O;refine Qg (K:=K) (xs:=rs) (fun i τ H'=>Iv (∃ (v0 v1:Option V)(gs:List Nat),τ=[v0,v1,some (.ref lk)]/\gs.length<=i/\(∀ k∈gs,k<ls.length)/\Ow T H H' [(lu,.lst ((Tn.asI gs).map V.int)),(lk,.lst (kl.map V.int))]))
  ⟨trivial,none,none,[],rfl,aeL _,(fun k hk=>nomatch hk),O.mk' hlu rfl⟩ (fun _ _ _ _ ⟨_,_,_,_,_,_,_,O⟩=>O.same.seq hB) ?_ ?_
 ·rintro i y t' τ H4 hy ⟨-,v0,v1,gs,rfl,hgl,hg,O⟩ ht';obtain ⟨al,l,rfl,hl,hT⟩:=d0.Ir hy;have hi:=(aeJ.mp hl).1;walk_at "nw";refine ⟨t',_,rfl,O.sqT 0,rfl,_,_,rfl,_,_,rfl,rfl,?_⟩;have O:=O.tail;refine ⟨_,rfl,al,l,rfl,hT.mo O.same,_,rfl,ifN (ifN (ifD (fun hc=>?_) fun hc=>?_))⟩
  ·refine ⟨_,rfl,_,rfl,lk,_,rfl,.inl (O.sq 1),rfl,wJ _,_,rfl,?_⟩;rw [if_pos rfl,Ek];refine ifN (ifD (fun hm=>?_) fun hm=>?_)
   ·exact ⟨trivial,_,_,gs,rfl,by omega,hg,O⟩
   ·refine ⟨_,rfl,_,O.get 0,aH (by rw [ac5,Tn.kJ];omega),?_⟩;walk_at "pt";refine ⟨trivial,_,_,gs++[i],rfl,by rw [ae1];simp only [afb,afK];omega,fun k hk=>?_,?_⟩
    ·rcases afa.mp hk with z| z
     ·exact hg k z
     ·rw [afl.mp z];exact hi
    ·unfold Tn.asI at O ⊢;rw [aeN,aeN];exact O
  ·exact um ⟨trivial,_,_,gs,rfl,by omega,hg,O⟩
 rintro τ H4 ⟨-,v0,v1,gs,rfl,hgl,hg,O⟩;refine ⟨_,rfl,lu,rfl,⟨_,O.sq 0⟩,fun l1 hl1'=>?_⟩;refine d8 (K:=K) (xs:=(Tn.asI gs).map V.int) (fun i τ H'=>Iv (∃ (v0:Option V),τ=[v0,some (.ref d)]/\Ow T H H' [(l1,.lst (((gs.take i).map fun j=>xs.getD j 0).map V.int)),(lu,.lst ((Tn.asI gs).map V.int)),(lk,.lst (kl.map V.int))]))
  ⟨trivial,none,rfl,O.mk' hl1' rfl⟩ (fun _ _ _ _ ⟨_,_,_,O⟩=>O.sq 1) ?_ ?_
 ·rintro i y τ H5 hy ⟨-,v0,rfl,O⟩;obtain ⟨z,hz,rfl⟩:=ints_get hy;obtain ⟨j,hj,rfl⟩:=Tn.jQ hz;have hjl:=hg j (aeO hj);have hi:=(aeJ.mp hj).1;refine Lj ?_;refine ⟨_,rfl,_,rfl,d,_,(j:Int),_,rfl,rfl,O.same.seq hD,bV (gG (ns:=xs) (k:=j) (by omega)),?_⟩;refine ⟨_,O.get 0,aH (by rw [ac5,ac5,ae0];omega),?_⟩;walk_at "pt";refine ⟨trivial,_,rfl,?_⟩;rw [Tn.iy hj,aeN];exact O
 rintro τ H5 ⟨-,v0,rfl,O⟩;refine ⟨l1,_,rfl,O.sq 0,?_⟩;refine ⟨_,rfl,e,rfl,⟨_,O.same.seq hE⟩,fun l2 hl2=>?_⟩;refine d8 (K:=K) (xs:=[]) (fun i τ H'=>Iv (∃ (v0 v1 v2:Option V),τ=[v0,v1,v2]/\Ow T H H' [(l2,.lst (([]:List Int).map V.int))]))
  ⟨trivial,none,none,none,rfl,O.tail.tail.tail.mk' hl2 rfl⟩ (fun _ _ _ _ ⟨_,_,_,_,_,O⟩=>O.same.seq hE) ?_ ?_
 ·rintro i y τ H6 hy;cases hy
 rintro τ H6 ⟨-,v0,v1,v2,rfl,O⟩;exact ⟨l2,_,rfl,O.sq 0,_,_,rfl,rfl,q _ _ O.same⟩
theorem aat {z:Int}(h:z∈Rv.Ob r r.length):0<=z/\z<(r.length:Int):=by
 unfold Rv.Ob at h;obtain ⟨j,hj,rfl⟩:=afc.mp h;have:=afk.mp (List.mem_filter.mp hj).1;omega
abbrev zy:Stmt:=top 74
theorem je:aD ["below","springs","roll","ponds","kept","calls","lets","left","dealt_by","takes","after","lost","flows","out","sheet"] ["below","springs","roll","ponds","kept","calls","lets"] (ao zy):=by walk_at "sc"
structure aeI (r s:List Int)(ls:List Lic)(ps:List (Int × Int × Int))(ks cs:List Int):Prop where
 riv:Rv.iG r
 r64:r.length<64
 sl:s.length=r.length
 l64:ls.length<64
 lok:∀ l∈ls,lN r l
 kl:ps.length=ks.length
 p1:ps.length<=1000
 pok:∀ p∈ps,0<=p.1/\p.1<(ls.length:Int)/\0<=p.2.2/\p.2.2<=1000
 cl:ls.length=cs.length
 sn:∀ x∈s,0<=x
 ln:∀ c∈uh cs ps ks ps.length,0<=c
inductive M4 (K:PySem.W.Frag)(T:dX)(vs:List V)(H:Hp)(Q:VK)(E:XK):Prop
 | mk (r s:List Int)(rs us:List V)(ls:List Lic)(ps:List (Int × Int × Int))(ks cs:List Int)(a b c d e g h:Addr)(_:vs=[.ref a,.ref b,.ref c,.ref d,.ref e,.ref g,.ref h])(_:SqL K H a (r.map V.int))(_:SqL K H b (s.map V.int))(_:SqL K H c rs)(_:bZ K H rs (ls.map yO))(_:SqL K H d us)(_:bZ K H us (ps.map dMv))(_:SqL K H e (ks.map V.int))(_:SqL K H g (cs.map V.int))(_:SqL K H h [])(_:aeI r s ls ps ks cs)(_:TabsOk T H)(_:∀ (t lt la lf ts:Addr)(xs as fs sh:List Int)(Hb H':Hp),aJ T H Hb->Ow T Hb H' [(t,.tup [.ref lt,.ref la,.ref lf,.ref ts]),(ts,.tup (sh.map V.int)),(lf,.lst (fs.map V.int)),(la,.lst (as.map V.int)),(lt,.lst (xs.map V.int))]->BX r s ls (uh cs ps ks ps.length) xs->as=(List.range ps.length).map (fun i=>GK ps ks xs i - BK ps ks xs i)->Q (.ref t) H')
variable (mR:(CX0|||3) rD rZ ["below","roll","ponds","kept","calls","lets"] (Mw K T))
variable (Ho:(CX0|||7) Px Qc ["below","springs","roll","calls"] (MP K T))
variable (Hl:(CX0|||1) Ao Ay ["ponds","kept","takes"] (TV K T))
variable (Dd:(CX0|||7) yc yr ["below","springs","moves"] (JF K T))
variable (CZ:(CX0|||2) xX yj ["roll","ponds","takes","lets"] (Tr K T))
variable (Bm:(CX0|||1) uW vq ["below"] (FW K T))
variable (Hf:(CX0|||2) Ai Aq ["roll","ponds","takes","lets"] (Jz K T))
variable {Ey:Addr}{Fd:FuncData}(pR:Df K mg "day_of" zy ["below","springs","roll","ponds","kept","calls","lets"] Ey Fd)
include tK mj iQ jE cV jC lV mR Ho Hl Dd CZ Bm Hf pR in
theorem aan (B:Blt mg):
  (CX0|||8) Ey Fd ["below","springs","roll","ponds","kept","calls","lets"] (M4 K T):=by
 refine pR.F.ok je ?_ ?_;walk_at "i";obtain ⟨r,s,rs,us,ls,ps,ks,cs,a,b,c,d,e,g,h,rfl,hA,hB,hC,d0,hD,d1,hE,hG,hH,ok,tk,q⟩:=h;have okl:=ok.l64;have hlc:=ok.cl;have hkl:=ok.kl;refine ⟨_,(gC (cV<*mR<*(pv 0>=>pv 2>=>pv 3>=>pv 4>=>pv 5>=>pv 6>=>ak)) (iB rfl (aA (7>>je) (aA (8>>je) bN)))<|>9<$>je<$>(tK<*Ho<*(pv 0>=>pv 1>=>pv 2>=>pv 8>=>ak))<|>gC (mj<*Hl<*(pv 3>=>pv 7>=>pv 9>=>ak)) (iB rfl (aA (10>>je) (aA (11>>je) bN)))<|>JV (i:=12) je.nd rfl (Or.inr rfl) (jE<*Dd<*(pv 0>=>pv 1>=>jC<*CZ<*(pv 2>=>pv 3>=>pv 9>=>pv 6>=>ak)>=>ak))<|>13<$>je<$>(aB (pH rfl) rfl B.sum afQ (gF (ao zy) rfl ["below","springs","roll","ponds","kept","calls","lets","left","dealt_by","takes","after","lost","flows","out","sheet"] rfl ["reach","flows"] [none,some 12] (by decide+kernel) (by decide+kernel) (by decide+kernel) rfl (bU (iQ<*Bm<*(pv 0>=>ak))) (fun _ _ _=>(bG (i:=0) (show (["reach","flows"]:List Str).Nodup by decide+kernel) rfl (Or.inl rfl))) (fun _ _ _=>gB) (fun _ _ _=>(@bD _ _ _ _ _ _ _ (jH (K:=K) rfl) (pv 1) (pv 0) (fun _ _=>rfl)))>=>ak))<|>14<$>je<$>(@gD _ _ _ _ _ (aB (pH rfl) rfl B.sum afQ (pv 1>=>ak)>=>aB (pH rfl) rfl B.sum afQ (pv 4>=>ak)>=>lV<*Hf<*(pv 2>=>pv 3>=>pv 9>=>pv 6>=>ak)>=>aB (pH rfl) rfl B.sum afQ (pv 10>=>ak)>=>aB (pH rfl) rfl B.sum afQ (pv 11>=>ak)>=>pv 13>=>ak))<|>(~~~(@aL _ _ _ _ (@gD _ _ _ _ _ (pv 9>=>pv 10>=>pv 12>=>pv 14>=>ak))))),?_⟩;have O:=Ow.refl tk;refine ⟨_,rfl,_,rfl,_,rfl,_,rfl,_,rfl,_,rfl,.ref a,.ref c,d,e,g,h,us,ps,ks,cs,rfl,hD,d1,hE,hkl,hG,fun p hp=>⟨(ok.pok p hp).1,by have:=(ok.pok p hp).2.1;omega⟩,hH,tk,fun t0 la lb H1 OD=>?_⟩;have O:=O.join OD;clear OD;refine ⟨t0,_,rfl,O.sqT 0,rfl,_,_,rfl,_,_,rfl,rfl,?_⟩;have O:Ow T H H1 [(lb,.lst ((uh cs ps ks ps.length).map V.int)),(la,.lst (ks.map V.int))]:=O.tail;have hsl:=wG cs ps ks ps.length;have r64:=ok.r64;have hp1:=ok.p1;refine ⟨_,rfl,_,rfl,_,rfl,_,rfl,a,b,lb,.ref c,r,s,ls,uh cs ps ks ps.length,rfl,⟨O.same.seq hA,ok.riv,r64⟩,O.same.seq hB,ok.sl,ok.sn,.list (O.same.seq hC) (d0.mo O.same),okl,O.sq 0,by omega,ok.lok,ok.ln,O.same.t1,O.Cv fun lt H2 ys O e2=>?_⟩;obtain ⟨xs,rfl,DX⟩:=e2;have hxl:=DX.len;refine ⟨_,rfl,_,rfl,_,rfl,d,la,lt,us,ps,ks,xs,rfl,O.same.seq hD,d1.mo O.same,hp1,O.sq 2,hkl,O.sq 0,fun p hp=>⟨(ok.pok p hp).1,by have:=(ok.pok p hp).2.1;omega,(ok.pok p hp).2.2⟩,O.same.t1,fun t2 lf2 ll H3 OE=>?_⟩;have O:=O.join OE;clear OE;refine ⟨t2,_,rfl,O.sqT 0,rfl,_,_,rfl,_,_,rfl,rfl,?_⟩;obtain ⟨as,has,hasl⟩:∃ as:List Int,as=(List.range ps.length).map (fun i=>GK ps ks xs i - BK ps ks xs i)/\as.length=ps.length:=⟨_,rfl,by rw [ac5,afz]⟩;obtain ⟨los,hlos⟩:∃ los:List Int,los=(List.range ps.length).map (BK ps ks xs):=⟨_,rfl⟩;have O:Ow T H H3 [(ll,.lst (los.map V.int)),(lf2,.lst (as.map V.int)),(lt,.lst (xs.map V.int))]:=by rw [has,hlos];exact O.sub (.cons _ (.cons₂ _ (.cons₂ _ (.cons₂ _ (agp _)))))
 clear hlos;refine ⟨_,rfl,_,rfl,_,rfl,_,rfl,_,rfl,_,rfl,c,lt,h,.ref d,xs,rs,ls,rfl,O.same.seq hC,d0.mo O.same,by omega,O.sq 2,hxl,O.same.seq hH,O.same.t1,fun lm Hm H4 vs sm OM dm=>?_⟩;have O:=O.jq (sm.trans OM.same);refine ⟨a,b,lm,r,s,aaU ls xs,rfl,⟨O.same.seq hA,ok.riv,r64⟩,O.same.seq hB,ok.sl,.list (OM.sq 0) (dm.mo OM.same),fun m hm=>?_,O.same.t1,O.Cv fun lf H5 ys O e5=>?_⟩
 ·obtain ⟨p,hp,rfl⟩:=afc.mp hm;obtain ⟨h0,h1,h2⟩:=(ok.lok p.1 (List.of_mem_zip hp).1).1;exact ⟨h0,h1,h2⟩
 subst e5;have hfl:(Rv.ac6 r s (aaU ls xs)).length=r.length:=(Rv.Pq r s (aaU ls xs)).len;generalize Rv.ac6 r s (aaU ls xs)=fl at O hfl;refine ⟨_,rfl,a,r,rfl,O.same.seq hA,r64,O.same.t1,O.Cv fun lq H6 ys O e6=>?_⟩;subst e6;refine ⟨lq,rfl,⟨_,O.sq 0⟩,fun lo hlo=>?_⟩;refine d8 (K:=K) (xs:=(Rv.Ob r r.length).map V.int) (fun i τ H'=>Iv (∃ (v0:Option V)(os:List Int),τ=[v0,some (.ref lf)]/\os.length=i/\Ow T H H' [(lo,.lst (os.map V.int)),(lq,.lst ((Rv.Ob r r.length).map V.int)),(lf,.lst (fl.map V.int)),(ll,.lst (los.map V.int)),(lf2,.lst (as.map V.int)),(lt,.lst (xs.map V.int))]))
  ⟨trivial,none,[],rfl,rfl,O.mk' hlo rfl⟩ (fun _ _ _ _ ⟨_,_,_,_,_,O⟩=>O.sq 1) ?_ ?_
 ·clear O;rintro i y τ H7 hy ⟨-,v0,os,rfl,hol,O⟩;obtain ⟨z,hz,rfl⟩:=ints_get hy;have hzr:=aat (aeO hz);have hi:=(aeJ.mp hz).1;have hml:=Rv.J2 r r.length;refine Lj ?_;refine ⟨_,rfl,_,rfl,lf,_,_,_,rfl,rfl,O.sq 2,iz hzr.1 (by omega),?_⟩;refine ⟨_,O.get 0,aH (by rw [ac5];omega),?_⟩;walk_at "pt";exact ⟨trivial,_,os++[fl.getD z.toNat 0],rfl,by rw [ae1,hol];rfl,by rw [aeN];exact O⟩
 clear O;rintro τ H7 ⟨-,v0,os,rfl,hol,O⟩;refine ⟨lo,_,rfl,O.sq 0,?_⟩;have O:=O.tail.tail;refine ⟨_,rfl,b,_,rfl,O.same.seq hB,_,rfl,e,_,rfl,O.same.seq hE,?_⟩;refine ⟨_,rfl,_,rfl,_,rfl,_,rfl,c,d,lt,h,xs,rs,us,ls,ps,rfl,O.same.seq hC,d0.mo O.same,by omega,O.same.seq hD,d1.mo O.same,hp1,O.sq 3,hxl,O.same.seq hH,O.same.t1,fun uz H8 sm=>?_⟩;have O:=O.jq sm;refine ⟨_,rfl,lf2,_,rfl,O.sq 2,_,rfl,ll,_,rfl,O.sq 1,_,rfl,szl,fun lh hlh=>?_⟩;walk_at "nw";refine ⟨_,rfl,_,rfl,_,rfl,_,rfl,szl,fun t ht=>?_⟩;walk_at "nw";exact q t lt lf2 lf lh xs as fl [s.sum,ks.sum,uz,as.sum,los.sum,os.sum] H _ (aJ.refl tk) (O.del 3) DX has
def grt (gs cs:List Int):List Int:=List.zipWith max cs (gs++List.replicate (cs.length - gs.length) 0)
theorem adC (n:Nat):(List.replicate n [V.int 0]).flatten=(List.replicate n (0:Int)).map V.int:=by
 induction n with
 | zero=>rfl
 | succ n ih=>rw [afG,af4,ih,afG];rfl
theorem Zi {ls:List Int}{c l:Int}(hc:cs[i]?=some c)(hl:ls[i]?=some l):List.zipWith max (cs.take (i+1)) (ls.take (i+1))=List.zipWith max (cs.take i) (ls.take i)++[max c l]:=by
 have h1:=(aeJ.mp hc).1;have h2:=(aeJ.mp hl).1;rw [Tn.fH hc,Tn.fH hl,List.zipWith_append (by rw [ae0,ae0];omega)];rfl
abbrev kj:Stmt:=top 80
theorem uq:aD ["before","calls","longer"] ["before","calls"] (ao kj):=by walk_at "sc"
inductive TQ (K:PySem.W.Frag)(T:dX)(vs:List V)(H:Hp)(Q:VK)(E:XK):Prop
 | mk (a b:Addr)(gs cs:List Int)(_:vs=[.ref a,.ref b])(_:H a=some (.lst (gs.map V.int)))(_:SqL K H b (cs.map V.int))(_:gs.length<=cs.length)(_:cs.length<=900)(_:TabsOk T H)(_:sY T H (fun xs=>xs=(grt gs cs).map V.int) Q)
variable {oX:Addr}{pA:FuncData}(fu:Df K mg "greatest_of" kj ["before","calls"] oX pA)
include fu in
theorem abL (B:Blt mg):(CX0|||1) oX pA ["before","calls"] (TQ K T):=by
 refine fu.F.ok uq ?_ ?_;walk_at "i";obtain ⟨a,b,gs,cs,rfl,hA,hB,hl,h9,tk,q⟩:=h;have hml:(((cs.map V.int).length:Nat):Int) - (((gs.map V.int).length:Nat):Int)=((cs.length - gs.length:Nat):Int):=by rw [ac5,ac5];omega
 refine ⟨_,(2<$>uq<$>(@bA _ _ _ _ _ _ _ _ zY (pv 0) (@bA _ _ _ _ _ _ _ _ yK (@bF _ _ _ _ (au>=>ak)) (@bA _ _ _ _ _ _ _ _ wA (aB aC rfl B.len aeZ (pv 1>=>ak)) (aB aC rfl B.len aeZ (pv 0>=>ak)))))<|>(~~~(@aL _ _ _ _ (gF (ao kj) rfl ["before","calls","longer"] rfl ["call","other"] [none,none] (by decide+kernel) (by decide+kernel) (by decide+kernel) rfl (zV rfl B.zip (pv 1>=>pv 2>=>ak)) (fun _ _ _=>(qP (K:=K) (n:=2) rfl rfl (aA (bG (i:=0) (show (["call","other"]:List Str).Nodup by decide+kernel) rfl (Or.inl rfl)) (aA (bG (i:=1) (show (["call","other"]:List Str).Nodup by decide+kernel) rfl (Or.inl rfl)) bN)))) (fun _ _ _=>gB) (fun _ _ _=>(aB (GR rfl) rfl B.max PyProof.Rows.boot_max (pv 0>=>pv 1>=>ak))))))),?_⟩;have O:=Ow.refl tk;refine ⟨_,rfl,szl,fun l1 h1=>?_⟩;walk_at "nw";have hA':∀ {H'},aJ T H H'->SqL K H' a (gs.map V.int):=fun s=>s.seq (SqL.of hA);refine ⟨_,rfl,b,_,rfl,.inl (O.same.seq hB),_,rfl,a,_,rfl,.inl (hA' O.same),_,_,rfl,rfl,l1,_,_,rfl,rfl,O.get 0,by rw [hml];omega,by rw [hml];omega,f9 (by rw [hml,aeT];simp only [afb,afK];omega),fun l2 h2=>?_⟩;walk_at "nw";rw [hml,aeT,adC] at O;have eA:=O.same.keep _ _ hA (fun _ z=>nomatch z);refine ⟨a,l2,_,_,rfl,rfl,eA,O.get 0,f9 (by rw [ac5,ac5,afn];omega),fun l3 h3=>?_⟩;walk_at "nw";rw [<- aeN] at O;have hll:(gs++List.replicate (cs.length - gs.length) 0).length=cs.length:=by rw [ae1,afn];omega
 have eq:grt gs cs=List.zipWith max cs (gs++List.replicate (cs.length - gs.length) 0):=rfl;generalize gs++List.replicate (cs.length - gs.length) 0=lg at O hll eq;have O:=O.two.two;refine ⟨_,rfl,_,rfl,b,l3,_,_,rfl,O.same.seq hB,O.sq 0,fun acc hacc=>?_⟩;refine Fg (K:=K) (fun i τ H'=>Iv (∃ (v0 v1:Option V),τ=[v0,v1]/\Ow T H H' [(acc,.lst ((List.zipWith max (cs.take i) (lg.take i)).map V.int)),(l3,.lst (lg.map V.int))])) (by rw [ac5,ac5];omega)
  ⟨trivial,none,none,rfl,O.mk' hacc rfl⟩ (fun i τ H' _ ⟨_,_,_,_,O⟩=>⟨O.same.seq hB,O.sq 1⟩) ?_ ?_
 ·clear O;rintro i x y t τ H' hx hy ⟨-,v0,v1,rfl,O⟩ ht;obtain ⟨c,hc,rfl⟩:=ints_get hx;obtain ⟨l,hl',rfl⟩:=ints_get hy;have hi:=(aeJ.mp hc).1;walk_at "nw";refine ⟨t,_,rfl,O.sqT 0,rfl,_,_,rfl,_,_,rfl,rfl,?_⟩;refine aaS ?_;refine ⟨_,rfl,_,rfl,_,_,rfl,?_⟩;refine ⟨_,O.get 1,aH (by rw [ac5,ags,ae0,ae0];omega),?_⟩;walk_at "pt";refine ⟨trivial,_,_,rfl,?_⟩;rw [Zi hc hl',aeN];have e:(if l >c then l else c)=max c l:=by rw [Int.max_def];split <;>split <;>omega
  rw [<- e];exact O.tail
 clear O;rintro τ H' ⟨-,v0,v1,rfl,O⟩;rw [ac5,aeU (aeL _),aeU (by omega),<- eq] at O;exact O.ret 0 rfl q rfl
abbrev dB:Stmt:=inClass (top 81) 6
theorem ou:aD ["self","amounts","count"] ["self","amounts","count"] (ao dB):=by walk_at "sc"
inductive Tw (K:PySem.W.Frag)(T:dX)(cD:Addr)(vs:List V)(H:Hp)(Q:VK)(E:XK):Prop
 | mk (p:V)(a:Addr)(xs:List Int)(n:Int)(_:vs=[p,.ref a,.int n])(_:SqL K H a (xs.map V.int))(_:xs.length<=900)(_:TabsOk T H)(_:((xs.length:Int)=n/\(∀ x∈xs,0<=x/\x<=1000000000000)->∀ H',aJ T H H'->Q .non H'))(_:(¬ ((xs.length:Int)=n/\∀ x∈xs,0<=x/\x<=1000000000000)->∀ (e:Addr)(H':Hp),aJ T H H'->H' e=none->E (.ref cD) (some e) H'))
variable {fU:Addr}{fV:FuncData}(aO:Dm K C "look_at_amounts" "Book.look_at_amounts" dB ["self","amounts","count"] fU fV)
include c7 lA aO in
theorem abG (B:Blt mg)(vP:nZ K mg "NoDay" cD):((CXE P w)|||2) fU fV ["self","amounts","count"] (Tw K T cD):=by
 refine aO.F.okX ou ?_ ?_
 walk_at "i"
 obtain ⟨p,a,xs,n,rfl,hA,h9,tk,q,qE⟩:=h
 have O:=Ow.refl tk
 refine ⟨_,(~~~(@eO _ _ _ _ _ _ _ _ (PW.pt (pw_or (aQ zX (aB aC rfl B.len aeZ (pv 1>=>ak)) (pv 2) (bx _)) (pw_or1 (nQ (j7 (aB (wM rfl) rfl B.all af7 (gF (ao dB) rfl ["self","amounts","count"] rfl ["amount"] [none] (by decide+kernel) (by decide+kernel) (by decide+kernel) rfl (bU (pv 1)) (fun _ _ _=>(bG (i:=0) (show (["amount"]:List Str).Nodup by decide+kernel) rfl (Or.inl rfl))) (fun _ _ _=>gB) (fun _ _ _=>(c7<*lA<*(pv 0>=>ak)))>=>ak)))))))
   (~~~(iw jr rfl (fun _ _ z=>z) rfl vP.m vP.q (cO>=>ak)))
   aX)),?_⟩
 refine ⟨_,rfl,a,_,rfl,.inl hA,_,rfl,rfl,_,rfl,ifN (ifI (fun hn=>?_) (fun hn=>⟨szl,fun e he=>qE (fun z=>hn (by rw [ac5];exact z.1)) e H (aJ.refl tk) he⟩))⟩
 rw [ac5] at hn
 refine ⟨_,rfl,a,rfl,⟨_,hA⟩,fun lw hlw=>?_⟩
 refine d8 (K:=K) (xs:=xs.map V.int) (fun i τ H'=>Iv (∃ (v0:Option V)(bs:List Bool),τ=[v0]/\bs.length=i/\(bs.all id=true↔∀ x∈xs.take i,0<=x/\x<=1000000000000)/\Ow T H H' [(lw,.lst (bs.map V.bl))])) ⟨trivial,none,[],rfl,rfl,⟨(fun _ x hx=>nomatch hx),(fun _=>rfl)⟩,O.mk' hlw rfl⟩ (fun i τ H' _ ⟨_,_,_,_,_,_,O⟩=>O.same.seq hA) ?_ ?_
 ·clear O
  rintro i y τ H3 hy ⟨-,v0,bs,rfl,hbl,hb,O⟩
  obtain ⟨z,hz,rfl⟩:=ints_get hy
  have hi:=(aeJ.mp hz).1
  refine Lj ?_
  refine ⟨_,rfl,z,rfl,fun bz hbz=>?_⟩
  refine ⟨_,O.get 0,aH (by rw [ac5];omega),?_⟩
  walk_at "pt"
  refine ⟨trivial,_,bs++[bz],rfl,by rw [ae1,hbl];rfl,?_,by rw [aeN];exact O⟩
  rw [Tn.fH hz,List.all_append]
  simp only [List.all_cons,List.all_nil,Bool.and_true,afi,id_eq,afa,afl]
  rw [hb,hbz]
  constructor
  ·rintro ⟨h1,h2⟩ x (h| h)
   ·exact h1 x h
   ·rw [h];exact h2
  ·intro h
   exact ⟨fun x hx=>h x (.inl hx),h z (.inr rfl)⟩
 clear O
 rintro τ H3 ⟨-,v0,bs,rfl,hbl,hb,O⟩
 rw [ac5,aeU (aeL _)] at hb
 refine ⟨lw,bs,rfl,O.sq 0,_,rfl,?_⟩
 exact ifN (ifB (fun h=>q ⟨hn,hb.mp h⟩ H3 O.same) (fun h=>⟨szl,fun e he=>qE (fun z=>by rw [hb.mpr z.2] at h;cases h) e H3 O.same he⟩))
abbrev kE:Stmt:=inClass (top 81) 7
theorem Bv:aD ["self"] ["self"] (ao kE):=by walk_at "sc"
def aeA (d:List Int × List Int):PyData:=.tuple [.list (d.1.map PyData.int),.list (d.2.map PyData.int)]
def acV (K:PySem.W.Frag)(H:Hp)(v:V)(d:List Int × List Int):Prop:=∃ t a b:Addr,v=V.ref t/\SqT K H t [V.ref a,V.ref b]/\SqL K H a (d.1.map V.int)/\SqL K H b (d.2.map V.int)
inductive Ti (K:PySem.W.Frag)(T:dX)(C:Addr)(vs:List V)(H:Hp)(Q:VK)(E:XK):Prop
 | mk (A:Rs)(Z:Bx)(day:Int)(rs:List V)(ds:List (List Int × List Int))(_:vs=[.ref A.p])(_:H A.p=some (RV C A (exB Z) day))(_:SqL K H Z.lr rs)(_:ds.length=rs.length)(_:ds.length<=900)(_:(∀ (i:Nat) v d,rs[i]?=some v->ds[i]?=some d->acV K H v d))(_:TabsOk T H)(_:∀ (l:Addr)(us:List V)(Hb H':Hp),aJ T H Hb->Ow T Hb H' [(l,.lst us)]->bZ K Hb us (ds.map aeA)->Q (.ref l) H')
variable {o8:Addr}{pG:FuncData}(dM:Dm K C "record" "Book.record" kE ["self"] o8 pG)
include dM in
theorem abx (B:Blt mg)(R:BC K C):(CX0|||1) o8 pG ["self"] (Ti K T C):=by
 refine dM.F.ok Bv ?_ ?_;walk_at "i";obtain ⟨A,Z,day,rs,ds,rfl,hp,hL,hdl,h9,hd,tk,q⟩:=h;have O:=Ow.refl tk;refine ⟨_,(~~~(@aL _ _ _ _ (gF (ao kE) rfl ["self"] rfl ["springs","calls"] [none,none] (by decide+kernel) (by decide+kernel) (by decide+kernel) rfl (bU (bI (pv 0) rfl)) (fun _ _ _=>(qP (K:=K) (n:=2) rfl rfl (aA (bG (i:=0) (show (["springs","calls"]:List Str).Nodup by decide+kernel) rfl (Or.inl rfl)) (aA (bG (i:=1) (show (["springs","calls"]:List Str).Nodup by decide+kernel) rfl (Or.inl rfl)) bN)))) (fun _ _ _=>gB) (fun _ _ _=>(@gD _ _ _ _ _ (bW (wK (K:=K) rfl) rfl B.list afe (pv 0>=>ak)>=>bW (wK (K:=K) rfl) rfl B.list afe (pv 1>=>ak)>=>ak)))))),?_⟩;refine ⟨_,rfl,A.p,C,A.dx,_,.ref Z.lr,rfl,hp,R.c,R.nR,rfl,Z.lr,rfl,⟨_,hL⟩,fun lw hlw=>?_⟩;refine d8 (K:=K) (xs:=rs) (fun i τ H'=>Iv (∃ (v0 v1:Option V)(Hb:Hp)(us:List V),τ=[v0,v1]/\us.length=i/\aJ T H Hb/\Ow T Hb H' [(lw,.lst us)]/\bZ K Hb us ((ds.take i).map aeA))) ⟨trivial,none,none,H,[],rfl,rfl,aJ.refl tk,O.mk' hlw rfl,.nil⟩ (fun i τ H' _ ⟨_,_,_,_,_,_,_,s,O,_⟩=>(s.trans O.same).seq hL) ?_ ?_
 ·clear O;rintro i y τ H3 hy ⟨-,v0,v1,Hb,us,rfl,hul,sb,O,dv⟩;have hi:=(aeJ.mp hy).1;obtain ⟨d,hd'⟩:∃ d,ds[i]?=some d:=⟨_,aeD (by omega)⟩;obtain ⟨t,a,b,rfl,hT,hA,hB⟩:=hd i y d hy hd';have s3:=sb.trans O.same;refine ⟨t,_,rfl,hT.mo s3,rfl,_,_,rfl,_,_,rfl,rfl,?_⟩;refine aaS ?_;refine ⟨_,rfl,a,_,rfl,.inl (s3.seq hA),fun la hla=>?_⟩;walk_at "nw";refine ⟨_,rfl,b,_,rfl,.inl ((sb.trans O.same).seq hB),fun lb hlb=>?_⟩;walk_at "nw";refine ⟨szl,fun t2 ht2=>?_⟩;walk_at "nw";refine ⟨_,O.get 3,aH (by omega),?_⟩;walk_at "pt";obtain ⟨Hc,O,sc,e1⟩:=O.frz;obtain ⟨Hd,O,sd,e2⟩:=O.frz;obtain ⟨He,O,se,e3⟩:=O.frz;refine ⟨trivial,_,_,He,us++[V.ref t2],rfl,by rw [ae1,hul];rfl,((sb.trans sc).trans sd).trans se,O,?_⟩;rw [Tn.fH hd',aeN];exact (((dv.mo sc).mo sd).mo se).append (.cons (.tuple (((SqT.of e1).mo sd).mo se) (.cons (.list (SqL.of e3) (bZ.ints _)) (.cons (.list ((SqL.of e2).mo se) (bZ.ints _)) .nil))) .nil)
 clear O;rintro τ H3 ⟨-,v0,v1,Hb,us,rfl,hul,sb,O,dv⟩;rw [aeU (by omega)] at dv;exact q lw us Hb H3 sb O dv
def zp (d:List Int × List Int):PyData:=.tuple [vN d.1,vN d.2]
def eveL (ps:List Pd)(ks xs:List Int):List Int:=(List.range ps.length).map (fun i=>GK ps ks xs i - BK ps ks xs i)
def Wat (xs:List Int):Prop:=∀ x∈xs,0<=x/\x<=1000000000000
variable {A:Rs}{B:List (Addr × HO)}
theorem RA.same {ex:List (Str × V)}(h:RA K T C A ex r H0 H B S):aJ T H0 H:=by
 obtain ⟨_,_,O,_,_⟩:=h;exact O.same
abbrev tU:Stmt:=inClass (top 81) 5
theorem eN:aD ["self","springs","calls","lets","lets_told","left","dealt_by","told","takes","kept","flows","sheet"] ["self","springs","calls","lets"] (ao tU):=by walk_at "sc"
inductive Mq (K:PySem.W.Frag)(T:dX)(C:Addr)(cD:Addr)(vs:List V)(H:Hp)(Q:VK)(E:XK):Prop
 | mk (A:Rs)(Z:Bx)(H0:Hp)(B:List (Addr × HO))(r:List Int)(S:RS)(gs ks:List Int)(rs us:List V)(ps:List Pd)(ds:List (List Int × List Int))(b g:Addr)(sp cs:List Int)(_:vs=[.ref A.p,.ref b,.ref g,.non])(_:(b,HO.lst (sp.map V.int))∈B)(_:(g,HO.lst (cs.map V.int))∈B)(_:sp.length<=900)(_:cs.length<=900)(_:RA K T C A (exB Z) r H0 H (BL Z (gs.map V.int) rs (ks.map V.int) us++B) S)(_:RP r (exB Z) S)(_:(∀ l∈S.ls,lN r l))(_:bZ K H0 us (ps.map dMv))(_:ps.length=ks.length)(_:ps.length<=900)(_:(∀ p∈ps,0<=p.1/\p.1<(S.ls.length:Int)/\0<=p.2.2/\p.2.2<=1000))(_:bZ K H0 rs (ds.map zp))(_:ds.length<=900)(_:gs.length<=S.ls.length)(_:sp.length=r.length)(_:Wat sp)(_:cs.length=S.ls.length)(_:Wat cs)(_:(∀ c∈uh cs ps ks ps.length,0<=c))(_:∀ (t lt la lf ts:Addr)(Z':Bx)(Hb H':Hp)(xs ks':List Int)(td:Addr),aJ T H0 Hb->Z'.ld=Z.ld->BX r sp S.ls (uh cs ps ks ps.length) xs->ks'=eveL ps ks xs->RA K T C A (exB Z') r Hb H' (BL Z' ((grt gs cs).map V.int) (rs++[.ref td]) (ks'.map V.int) us++B) ⟨S.day+1,S.ls,S.ns,S.ds++[.turn]⟩->bZ K Hb (rs++[.ref td]) ((ds++[(sp,uh cs ps ks ps.length)]).map zp)->SqT K H' t [.ref lt,.ref la,.ref lf,.ref ts]->SqL K H' la (ks'.map V.int)->Q (.ref t) H')
variable (fZ:((CXE P w)|||2) fU fV ["self","amounts","count"] (Tw K T cD))
variable (Kv:(CX0|||8) Ey Fd ["below","springs","roll","ponds","kept","calls","lets"] (M4 K T))
variable (dU:(CX0|||1) vh vJ ["self"] (xq K C "licences"))
variable (wV:(CX0|||1) oX pA ["before","calls"] (TQ K T))
variable (pQ:(CX0|||1) vf vH ["self"] (Mj K T C c))
variable {yg:Addr}{yu:FuncData}(fP:DmD K C "run" "Book.run" tU ["self","springs","calls","lets"] yg yu)
include cV aP cJ aU dW mR pR fu aO fZ Kv dU wV pQ fP in
theorem abw (B:Blt mg):
  ((CXE P w)|||9) yg yu ["self","springs","calls","lets"] (Mq K T C cD):=by
 have R:=dW;refine fP.F.okX eN ?_ ?_;walk_at "i";obtain ⟨A,Z,H0,L,r,S,gs,ks,rs,us,ps,ds,b,g,sp,cs,rfl,mB,mG,hs9,hc9,⟨ls,vs,O,d0,d1⟩,hp,hlo,dP,hkl,hp9,pok,dR,hd9,hgl,hsl,w1,hcl,w2,hln,q⟩:=h;have hll:ls.length=S.ls.length:=by rw [d0.length,ac5]
 have hrl:rs.length=ds.length:=by rw [dR.length,ac5]
 have h60:=hp.l60;have r40:=hp.r40;refine ⟨_,(aR (fQ (pv 0) dW.c aO.m fZ hr.m aO.b .nil Bw (pv 1>=>aB aC rfl B.len aeZ (bI (pv 0) rfl>=>ak)>=>ak))<|>aR (fQ (pv 0) dW.c aO.m fZ hr.m aO.b .nil Bw (pv 2>=>aB aC rfl B.len aeZ (bI (pv 0) rfl>=>ak)>=>ak))<|>4<$>eN<$>(JW (aQ Nz (pv 3) zW (bx _)) (@bF _ _ _ _ ak) (pv 3))<|>gC (cV<*mR<*(bI (pv 0) rfl>=>bI (pv 0) rfl>=>bI (pv 0) rfl>=>bI (pv 0) rfl>=>pv 2>=>pv 4>=>ak)) (iB rfl (aA (5>>eN) (aA (6>>eN) bN)))<|>7<$>eN<$>(pR<*Kv<*(bI (pv 0) rfl>=>pv 1>=>bI (pv 0) rfl>=>bI (pv 0) rfl>=>bI (pv 0) rfl>=>pv 2>=>pv 4>=>ak))<|>gC (pv 7) (iB rfl (aA (8>>eN) (aA (9>>eN) (aA (10>>eN) (aA (11>>eN) bN)))))<|>nT (pv 0) (bW bf rfl B.list afe (pv 9>=>ak)) rfl<|>aR (m7 ae3 ae5 ae6 bJ (bI (pv 0) rfl) (@gD _ _ _ _ _ (bW bf rfl B.list afe (pv 1>=>ak)>=>pv 6>=>ak)>=>ak))<|>nT (pv 0) (@gD _ _ _ _ _ (gb (pv 0) aU.c aP.m dU hr.m aP.b .nil oO>=>bW bf rfl B.list afe (pv 8>=>ak)>=>ak)) rfl<|>nT (pv 0) (fu<*wV<*(bI (pv 0) rfl>=>pv 2>=>ak)) rfl<|>aR (gb (pv 0) aU.c cJ.m pQ hr.m cJ.b .nil oO)<|>(~~~(@aL _ _ _ _ (pv 7)))),?_⟩;refine ⟨_,rfl,A.p,A.dx,_,rfl,O.get 0,rfl,_,rfl,_,rfl,A.p,C,A.dx,_,.ref A.lb,rfl,O.get 0,aU.c,aU.nB,rfl,A.lb,_,rfl,.inl (O.sq 2),.ref A.p,b,sp,_,rfl,SqL.of (O.at_ _ (aeK _ (aeK _ mB))),hs9,O.same.t1,fun _ H1 s1=>?_,fun hn=>absurd ⟨by rw [ac5,hsl],w1⟩ hn⟩;have O:=O.jq s1;refine ⟨_,rfl,A.p,A.dx,_,rfl,O.get 0,rfl,_,rfl,_,rfl,A.p,C,A.dx,_,.ref A.ll,rfl,O.get 0,aU.c,aU.nL,rfl,A.ll,_,rfl,.inl (O.sq 3),.ref A.p,g,cs,_,rfl,SqL.of (O.at_ _ (aeK _ (aeK _ mG))),hc9,O.same.t1,fun _ H2 s2=>?_,fun hn=>absurd ⟨by rw [hll,hcl],w2⟩ hn⟩;have O:=O.jq s2;have s2:=s1.trans s2;refine ⟨_,rfl,rfl,_,rfl,zA ⟨szl,fun le hle=>?_⟩⟩;walk_at "nw";have ft:∀ {X:List (Addr × HO)}{x:Addr × HO}{ex:List (Str × V)}{gz rz kz:List V}{Z':Bx}{us':List V},x∈L->x∈X++(RX C A ex r S.day ls S.ns vs++(BL Z' gz rz kz us'++L)):=fun h=>aeK _ (aeK _ (aeK _ h));have okD:aeI r sp S.ls ps ks cs:=⟨hp.rv,by omega,hsl,by omega,hlo,hkl,by omega,pok,hcl.symm,(fun x hx=>(w1 x hx).1),hln⟩;refine ⟨_,rfl,A.p,C,A.dx,_,.ref A.lb,rfl,O.get 1,aU.c,aU.nB,rfl,_,rfl,A.p,C,A.dx,_,.ref A.ll,rfl,O.get 1,aU.c,aU.nL,rfl,_,rfl,A.p,C,A.dx,_,.ref Z.ld,rfl,O.get 1,R.c,R.nD,rfl,_,rfl,A.p,C,A.dx,_,.ref Z.lk,rfl,O.get 1,R.c,R.nK,rfl,_,rfl,_,rfl,.ref A.lb,.ref A.ll,Z.ld,Z.lk,g,le,us,ps,ks,cs,rfl,O.sq 10,dP.mo O.same,O.sq 9,hkl,SqL.of (O.at_ _ (ft (X:=[_]) mG)),fun p hp=>⟨(pok p hp).1,by have:=(pok p hp).2.1;omega⟩,O.sq 0,O.same.t1,fun t0 la lc H3 OD=>?_⟩;have O:=O.join OD;clear OD;refine ⟨t0,_,rfl,O.sqT 0,rfl,_,_,rfl,_,_,rfl,rfl,?_⟩;have hless:=wG cs ps ks ps.length;generalize hcs:uh cs ps ks ps.length=cs' at O hless q;have O:Ow T H0 H3 ([(lc,.lst (cs'.map V.int)),(le,.lst [])]++(RX C A (exB Z) r S.day ls S.ns vs++(BL Z (gs.map V.int) rs (ks.map V.int) us++L))):=O.sub (.cons _ (.cons₂ _ (.cons _ (List.Sublist.refl _))));refine ⟨_,rfl,A.p,C,A.dx,_,.ref A.lb,rfl,O.get 2,aU.c,aU.nB,rfl,_,rfl,_,rfl,A.p,C,A.dx,_,.ref A.ll,rfl,O.get 2,aU.c,aU.nL,rfl,_,rfl,A.p,C,A.dx,_,.ref Z.ld,rfl,O.get 2,R.c,R.nD,rfl,_,rfl,A.p,C,A.dx,_,.ref Z.lk,rfl,O.get 2,R.c,R.nK,rfl,_,rfl,_,rfl,r,sp,ls,us,S.ls,ps,ks,cs,A.lb,b,A.ll,Z.ld,Z.lk,g,le,rfl,O.sq 4,SqL.of (O.at_ _ (ft mB)),O.sq 5,d0.mo O.same,O.sq 11,dP.mo O.same,O.sq 10,SqL.of (O.at_ _ (ft mG)),O.sq 1,okD,O.same.t1,fun t lt la' lf ts xs as fs sh Hb H4 sb OD DX has=>?_⟩;rw [hcs] at DX;have O:=O.join (OD.base sb);clear OD sb;refine ⟨_,rfl,t,_,rfl,O.sqT 0,rfl,_,_,rfl,_,_,rfl,_,_,rfl,_,_,rfl,rfl,?_⟩;obtain ⟨Hz,O,sz,xt⟩:=(show Ow T H0 H4 ((t,.tup [.ref lt,.ref la',.ref lf,.ref ts])::_) from O).frz;have d0:=d0.mo sz;have d1:=d1.mo sz;have dR:=dR.mo sz;have O:Ow T Hz H4 ([(la',.lst (as.map V.int)),(lt,.lst (xs.map V.int)),(lc,.lst (cs'.map V.int))]++(RX C A (exB Z) r S.day ls S.ns vs++(BL Z (gs.map V.int) rs (ks.map V.int) us++L))):=O.sub (.cons _ (.cons _ (.cons₂ _ (.cons₂ _ (.cons₂ _ (afv _ _))))));refine ⟨_,rfl,la',_,rfl,.inl (O.sq 0),fun lk' hlk'=>?_⟩;walk_at "nw";refine ⟨_,rfl,A.p,C,A.dx,_,rfl,O.get 4,R.c,R.nK,(by show 10<1000;decide),?_⟩;generalize hE2:upd _ _ _=Hn;have O:=Ow.yI O 4 rfl hE2 rfl;clear hE2;have O:Ow T Hz Hn ([(lk',.lst (as.map V.int)),(la',.lst (as.map V.int)),(lt,.lst (xs.map V.int)),(lc,.lst (cs'.map V.int))]++(RX C A (exB ⟨Z.ld,lk',Z.lr,Z.lg,Z.la⟩) r S.day ls S.ns vs++(BL Z (gs.map V.int) rs (ks.map V.int) us++L))):=O;refine ⟨_,rfl,A.p,C,A.dx,_,.ref Z.lr,rfl,O.get 4,R.c,R.nR,rfl,.inl ⟨rfl,_,O.sq 11⟩,_,rfl,b,_,rfl,.inl (SqL.of (O.at_ _ (ft mB))),fun lsp hlsp=>?_⟩;walk_at "nw";refine ⟨_,rfl,szl,fun td htd=>?_⟩;walk_at "nw";refine ⟨Z.lr,_,_,rfl,rfl,O.get 13,aH (by omega),?_⟩;generalize hE2:upd _ _ _=Hm;have O:=Ow.yI O 13 rfl hE2 rfl;clear hE2;obtain ⟨Ha,O,sa,x1⟩:=(show Ow T Hz Hm ((td,.tup [.ref lsp,.ref lc])::(lsp,.lst (sp.map V.int))::([(lk',.lst (as.map V.int)),(la',.lst (as.map V.int)),(lt,.lst (xs.map V.int)),(lc,.lst (cs'.map V.int))]++(RX C A (exB ⟨Z.ld,lk',Z.lr,Z.lg,Z.la⟩) r S.day ls S.ns vs++(BL Z (gs.map V.int) (rs++[.ref td]) (ks.map V.int) us++L)))) from O).frz;obtain ⟨Hb1,O,sb1,x2⟩:=O.frz;obtain ⟨Hc1,O,sc1,x3⟩:=O.acz 3;have O:Ow T Hc1 Hm ([(lk',.lst (as.map V.int)),(la',.lst (as.map V.int)),(lt,.lst (xs.map V.int))]++(RX C A (exB ⟨Z.ld,lk',Z.lr,Z.lg,Z.la⟩) r S.day ls S.ns vs++(BL Z (gs.map V.int) (rs++[.ref td]) (ks.map V.int) us++L))):=O;have sx:=(sa.trans sb1).trans sc1;have d0:=d0.mo sx;have d1:=d1.mo sx;have dR':bZ K Hc1 (rs++[.ref td]) ((ds++[(sp,cs')]).map zp):=by
  rw [aeN];exact (dR.mo sx).append (.cons (.tuple (((SqT.of x1).mo sb1).mo sc1) (.cons (Den.ints ((SqL.of x2).mo sc1)) (.cons (Den.ints (SqL.of x3)) .nil))) .nil)
 clear x1 x2 x3 sa sb1 sc1;refine ⟨_,rfl,A.p,A.dx,_,rfl,O.get 3,rfl,A.p,A.dx,A.ll,_,ls,rfl,O.get 3,rfl,O.sq 6,fun lr2 hlr2=>?_⟩;walk_at "nw";refine ⟨_,rfl,lt,_,rfl,.inl (O.sq 3),fun lt2 hlt2=>?_⟩;walk_at "nw";refine ⟨szl,fun tl htl=>?_⟩;walk_at "nw";refine ⟨_,rfl,A.p,C,A.dx,_,rfl,O.get 6,R.c,R.nL,(by show 10<1000;decide),?_⟩;generalize hE2:upd _ _ _=Hq;have O:=Ow.yI O 6 rfl hE2 rfl;clear hE2;obtain ⟨He,O,se,xa⟩:=(show Ow T Hc1 Hq (_::_::_::_::(la',.lst (as.map V.int))::_::_) from O).acz 4;have d0:=d0.mo se;have d1:=d1.mo se;have dR':=dR'.mo se;have sx:=sx.trans se;have O:Ow T He Hq ([(lk',.lst (as.map V.int))]++(RX C A (exB ⟨Z.ld,lk',Z.lr,Z.lg,.ref tl⟩) r S.day ls S.ns vs++(BL Z (gs.map V.int) (rs++[.ref td]) (ks.map V.int) us++L))):=(show Ow T He Hq (_::_::_::_::_::_) from O).sub (.cons _ (.cons _ (.cons _ (.cons₂ _ (afv _ _)))));refine ⟨_,rfl,A.p,C,A.dx,_,.ref Z.lg,rfl,O.get 1,R.c,R.nG,rfl,_,rfl,Z.lg,g,gs,cs,rfl,O.get 7,SqL.of (O.at_ _ (ft mG)),by omega,hc9,O.same.t1,O.Cv fun lg' H6 zs O e6=>?_⟩;subst e6;refine ⟨_,rfl,A.p,C,A.dx,_,rfl,O.get 2,R.c,R.nG,(by show 10<1000;decide),?_⟩;generalize hE2:upd _ _ _=Hr;have O:=Ow.yI O 2 rfl hE2 rfl;clear hE2;have O:Ow T He Hr ([(lg',.lst ((grt gs cs).map V.int)),(lk',.lst (as.map V.int))]++(RX C A (exB ⟨Z.ld,lk',Z.lr,lg',.ref tl⟩) r S.day ls S.ns vs++((Z.lr,.lst (rs++[.ref td]))::(Z.ld,.lst us)::L))):=(show Ow T He Hr ([(lg',.lst ((grt gs cs).map V.int)),(lk',.lst (as.map V.int))]++(RX C A (exB ⟨Z.ld,lk',Z.lr,lg',.ref tl⟩) r S.day ls S.ns vs++((Z.lg,.lst (gs.map V.int))::(Z.lr,.lst (rs++[.ref td]))::(Z.lk,.lst (ks.map V.int))::(Z.ld,.lst us)::L))) from O).sub (afy (afy (.cons _ (.cons₂ _ (afv _ _))) _) _);have O:Ow T He Hr (RX C A (exB ⟨Z.ld,lk',Z.lr,lg',.ref tl⟩) r S.day ls S.ns vs++(BL ⟨Z.ld,lk',Z.lr,lg',.ref tl⟩ ((grt gs cs).map V.int) (rs++[.ref td]) (as.map V.int) us++L)):=(Ow.front _ _ _ O).perm (List.Perm.append_left (RX C A (exB ⟨Z.ld,lk',Z.lr,lg',.ref tl⟩) r S.day ls S.ns vs) (List.Perm.cons (lg',HO.lst ((grt gs cs).map V.int)) (List.Perm.swap (lk',HO.lst (as.map V.int)) (Z.lr,HO.lst (rs++[V.ref td])) _)));refine ⟨_,rfl,A.p,A.dx,_,rfl,O.get 0,rfl,A,exB ⟨Z.ld,lk',Z.lr,lg',.ref tl⟩,He,_,r,S,rfl,⟨ls,vs,O,d0,d1⟩,⟨hp.rv,hp.r40,hp.nn,hp.l60,hp.dl,by show 5<=100;decide,Kd _⟩,fun S2 e7 Hd H7 sd ra=>?_,fun k e7=>by cases e7⟩;cases e7;exact ⟨_,rfl,q t lt la' lf ts ⟨Z.ld,lk',Z.lr,lg',.ref tl⟩ Hd H7 xs as td ((sz.trans sx).trans sd) rfl DX has ra (dR'.mo sd) (((SqT.of xt).mo (sx.trans sd)).mo (RA.same ra)) (((SqL.of xa).mo sd).mo (RA.same ra))⟩
abbrev HY:Stmt:=top 76
theorem JM:aD ["roll","number","start","changed"] ["roll","number","start"] (ao HY):=by walk_at "sc"
inductive Tv (K:PySem.W.Frag)(T:dX)(vs:List V)(H:Hp)(Q:VK)(E:XK):Prop
 | mk (a:Addr)(us:List V)(ls:List Lic)(k:Nat)(l:Lic)(s:Int)(_:vs=[.ref a,.int (k:Int),.int s])(_:SqL K H a us)(_:bZ K H us (ls.map yO))(_:ls[k]?=some l)(_:ls.length<1000)(_:TabsOk T H)(_:∀ (m t:Addr)(H':Hp),Ow T H H' [(m,.lst (us.set k (.ref t))),(t,.tup (zG (wst l s)))]->Q (.ref m) H')
variable (mJ:(CX0|||1) qX rP ["one","start"] (Td K))
variable {IV:Addr}{Ja:FuncData}(vQ:Df K mg "moved" HY ["roll","number","start"] IV Ja)
include cQ mJ vQ in
theorem abE (B:Blt mg):(CX0|||2) IV Ja ["roll","number","start"] (Tv K T):=by
 refine vQ.F.ok JM ?_ ?_;walk_at "i";obtain ⟨a,us,ls,k,l,s,rfl,hA,d0,hk,hl,tk,q⟩:=h;have O:=Ow.refl tk;obtain ⟨al,hal,hT⟩:=d0.uy hk;have hkl:=(aeJ.mp hk).1;have hul:us.length=ls.length:=by rw [d0.length,ac5]
 refine ⟨_,(aG (3<$>JM<$>(bW bf rfl B.list afe (aq (pv 0) ak)))
  (aG (gC (cQ<*mJ<*(aq (bD aM (pv 0) (pv 1) (fun _ _=>rfl)) (aq (pv 2) ak))) (uw (pv 3) (pv 1) set_list))
  (aK (aL (pv 3))))),?_⟩
 refine ZL ?_;intro zu0 zu1;refine ⟨_,rfl,a,_,rfl,.inl hA,fun m hm=>?_⟩;walk_at "nw";refine ⟨_,rfl,_,rfl,a,_,_,_,rfl,rfl,O.same.seq hA,d9 hal,_,rfl,al,l,s,rfl,hT.mo O.same,fun t ht=>?_⟩;walk_at "nw";refine ⟨_,rfl,_,rfl,m,_,_,k,rfl,rfl,O.get 1,iJ (by omega),?_⟩;walk_at "pt";refine ⟨_,rfl,q m t _ (O.pull 1)⟩
theorem K8 {us:List V}{t:Addr}(d:bZ K H us (ls.map yO))(h:SqT K H t (zG l)):bZ K H (us.set k (.ref t)) ((ls.set k l).map yO):=by
 induction us generalizing ls k with
 | nil =>
  cases ls with
  | nil=>exact .nil
  | cons x ls=>cases d
 | cons u us ih =>
  cases ls with
  | nil=>cases d
  | cons x ls =>
   cases d with
   | cons d0 ds =>
    cases k with
    | zero=>exact .cons (Den.lic h) ds
    | succ k=>exact .cons d0 (ih ds)
def fL (n:Nat):Nat->List Int->List Int->Option (Nat × Int × Int)
 | i,b::bs,a::as=>if i≠n/\a<b then some (i,b,a) else fL n (i+1) bs as
 | _,_,_=>none
theorem aaD {n:Nat}{xs ys:List Int}{x y:Int}(hx:xs[k]?=some x)(hy:ys[k]?=some y):fL n k (xs.drop k) (ys.drop k)=if k≠n/\y<x then some (k,x,y) else fL n (k+1) (xs.drop (k+1)) (ys.drop (k+1)):=by
 obtain ⟨h1,e1⟩:=aeJ.mp hx;obtain ⟨h2,e2⟩:=aeJ.mp hy;rw [List.drop_eq_getElem_cons h1,List.drop_eq_getElem_cons h2,e1,e2,fL]
theorem acA {n:Nat}{xs ys:List Int}(h:xs.length<=k):fL n k (xs.drop k) (ys.drop k)=none:=by
 rw [List.drop_eq_nil_of_le h];cases ys.drop k <;>rfl
abbrev zQ:Stmt:=top 77
theorem dF:aD ["below","roll","number","start","record","other_roll","day","one_day","springs","calls","all_calls","takes","other_takes","other","before","after"] ["below","roll","number","start","record"] (ao zQ):=by walk_at "sc"
def dRec (ds:List (List Int × List Int)):PyData:=.list (ds.map fun p=>.tuple [vN p.1,vN p.2])
def Lk (m:Nat)(cs:List Int):List Int:=cs++List.replicate (m - cs.length) 0
def lU (r:List Int)(ls ls':List Lic)(n:Nat)(d:List Int × List Int)(o:Option (Nat × Int × Int)):Prop:=∃ xs ys,BX r d.1 ls (Lk ls.length d.2) xs/\BX r d.1 ls' (Lk ls.length d.2) ys/\fL n 0 xs ys=o
def Ji (r:List Int)(m:Nat)(ds:List (List Int × List Int)):Prop:=∀ d∈ds,d.1.length=r.length/\(∀ x∈d.1,0<=x)/\d.2.length<=m/\∀ c∈d.2,0<=c
inductive MJ (K:PySem.W.Frag)(T:dX)(vs:List V)(H:Hp)(Q:VK)(E:XK):Prop
 | mk (a b:Addr)(v:V)(us:List V)(r:List Int)(ls:List Lic)(n:Nat)(l:Lic)(st:Int)(ds:List (List Int × List Int))(_:vs=[.ref a,.ref b,.int (n:Int),.int st,v])(_:abh K H a r)(_:SqL K H b us)(_:bZ K H us (ls.map yO))(_:ls[n]?=some l)(_:ls.length<64)(_:(∀ l∈ls,lN r l))(_:lN r (wst l st))(_:Den K H v (dRec ds))(_:ds.length<=1000)(_:Ji r ls.length ds)(_:TabsOk T H)(_:((∀ d∈ds,lU r ls (ls.set n (wst l st)) n d none)->∀ H',aJ T H H'->Q .non H'))(_:(∀ (i:Nat)(d:List Int × List Int)(o:Nat)(x y:Int),ds[i]?=some d->(∀ j d',j<i->ds[j]?=some d'->lU r ls (ls.set n (wst l st)) n d' none)->lU r ls (ls.set n (wst l st)) n d (some (o,x,y))->acQ T H (fun xs=>xs=[.int (i:Int),.int (o:Int),.int x,.int y]) Q))
variable (Qu:(CX0|||2) IV Ja ["roll","number","start"] (Tv K T))
variable {Am:Addr}{Ax:FuncData}(lZ:Df K mg "harm_of" zQ ["below","roll","number","start","record"] Am Ax)
include tK Ho vQ Qu lZ in
theorem aak (B:Blt mg):(CX0|||8) Am Ax ["below","roll","number","start","record"] (MJ K T):=by
 refine lZ.F.ok dF ?_ ?_
 walk_at "i"
 obtain ⟨a,b,v,us,r,ls,n,l,st,ds,rfl,hA,hB,d0,hk,hl,hlo,hlo',dR,hdl,hrec,tk,q0,q⟩:=h
 have O:=Ow.refl tk
 refine ⟨_,(5<$>dF<$>(vQ<*Qu<*(pv 1>=>pv 2>=>pv 3>=>ak))<|>fJ ae7 rfl (Nu rfl B.enumerate (pv 4>=>ak)) (iB rfl (aA (6>>dF) (aA (7>>dF) bN)))
   (gC (pv 7) (iB rfl (aA (8>>dF) (aA (9>>dF) bN)))<|>10<$>dF<$>(@bA _ _ _ _ _ _ _ _ zY (bW bf rfl B.list afe (pv 9>=>ak)) (@bA _ _ _ _ _ _ _ _ yK (@bF _ _ _ _ (au>=>ak)) (@bA _ _ _ _ _ _ _ _ wA (aB aC rfl B.len aeZ (pv 1>=>ak)) (aB aC rfl B.len aeZ (pv 9>=>ak)))))<|>11<$>dF<$>(tK<*Ho<*(pv 0>=>pv 8>=>pv 1>=>pv 10>=>ak))<|>12<$>dF<$>(tK<*Ho<*(pv 0>=>pv 8>=>pv 5>=>pv 10>=>ak))<|>(~~~(fJ ae7 rfl (ZW rfl B.zip (bW SJ rfl B.range PyProof.Rows.boot_range (aB aC rfl B.len aeZ (pv 1>=>ak)>=>ak)>=>pv 11>=>pv 12>=>ak)) (iB rfl (aA (13>>dF) (aA (14>>dF) (aA (15>>dF) bN))))
    (~~~(@eO _ _ _ _ _ _ _ _ (PW.pt (pw_and (aQ zX (pv 13) (pv 2) (bx _)) (pw_and1 (aQ Ed (pv 15) (pv 14) (bx _)))))
     (~~~(@aL _ _ _ _ (@gD _ _ _ _ _ (pv 6>=>pv 13>=>pv 14>=>pv 15>=>ak))))
     aX)))))<|>(~~~(@aL _ _ _ _ zW))),?_⟩
 have hnl:=(aeJ.mp hk).1
 have hul:us.length=ls.length:=by rw [d0.length,ac5]
 refine ⟨_,rfl,_,rfl,_,rfl,b,us,ls,n,l,st,rfl,hB,d0,hk,by omega,tk,fun m t H1 O=>?_⟩
 obtain ⟨av,vs,rfl,hV,dV⟩:=dR.kI
 have hvl:vs.length=ds.length:=by rw [dV.length,ac5]
 generalize hls':ls.set n (wst l st)=ls' at q0 q
 have hl':ls'.length=ls.length:=by rw [<- hls',afq]
 have hlo2:∀ l∈ls',lN r l:=fun x hx=>by
  rw [<- hls'] at hx
  rcases af0 hx with h| h
  ·exact hlo x h
  ·rw [h];exact hlo'
 have Dall:∀ {H'},Ow T H H' [(m,.lst (us.set n (.ref t))),(t,.tup (zG (wst l st)))]->bZ K H' (us.set n (.ref t)) (ls'.map yO):=fun O=>by
  rw [<- hls'];exact K8 (d0.mo O.same) (O.sqT 1)
 refine ⟨_,rfl,av,vs,rfl,O.same.seq hV,?_⟩
 refine R8 (K:=K) (xs:=vs) (fun i σ H'=>Iv (∃ (v6 v7 v8 v9 v10 v11 v12 v13 v14 v15:Option V),σ=[some (.ref a),some (.ref b),some (.int (n:Int)),some (.int st),some (.ref av),some (.ref m),v6,v7,v8,v9,v10,v11,v12,v13,v14,v15]/\(∀ j d',j<i->ds[j]?=some d'->lU r ls ls' n d' none)/\Ow T H H' [(m,.lst (us.set n (.ref t))),(t,.tup (zG (wst l st)))]))
  ⟨trivial,_,_,_,_,_,_,_,_,_,_,rfl,fun j d' hj=>absurd hj (agv _),O⟩ (fun i σ H' _ ⟨_,_,_,_,_,_,_,_,_,_,_,_,_,O⟩=>O.same.seq hV) ?_ ?_
 ·clear O
  rintro i y tt σ H4 hy ⟨-,v6,v7,v8,v9,v10,v11,v12,v13,v14,v15,rfl,hno,O⟩ ht
  walk_at "nw"
  obtain ⟨d,hd,dd⟩:=dV.get' hy
  rw [aeQ] at hd
  obtain ⟨dy,hdy,rfl⟩:=Option.map_eq_some_iff.mp hd
  obtain ⟨ay,zs,rfl,hTy,dz⟩:=dd.FJ
  obtain ⟨c1,c2,c3,c4⟩:=hrec dy (aeO hdy)
  cases dz with
  | cons e1 e2=>cases e2 with
   | cons e2 e3 =>
    cases e3
    obtain ⟨asp,rfl,hSp⟩:=e1.ud
    obtain ⟨acl,rfl,hCl⟩:=e2.ud
    refine ⟨tt,_,rfl,O.sqT 0,rfl,_,_,rfl,_,_,rfl,rfl,?_⟩
    have O:=O.tail
    refine ⟨_,rfl,ay,_,rfl,O.same.acX hTy,rfl,_,_,rfl,_,_,rfl,rfl,?_⟩
    refine ⟨_,rfl,acl,_,rfl,.inl (O.same.seq hCl),fun lc hlc=>?_⟩
    walk_at "nw"
    refine ⟨szl,fun lz hlz=>?_⟩
    walk_at "nw"
    have hk1:((us.length:Int) - (((dy.2.map V.int).length:Nat):Int)).toNat=ls.length - dy.2.length:=by rw [ac5];omega
    have hk2:(dy.2.map V.int).length=dy.2.length:=ac5 _
    refine ⟨_,rfl,b,_,rfl,.inl (O.same.seq hB),_,rfl,acl,_,rfl,.inl (O.same.seq hCl),_,_,rfl,rfl,lz,_,_,rfl,rfl,O.get 0,by omega,by omega,(by rw [hk1,sizeLine_eq];show 1*_<=_;omega),fun lr hlr=>?_⟩
    walk_at "nw"
    rw [hk1,show [V.int 0]=[V.int (0:Int)] from rfl,lD] at O
    refine ⟨lc,lr,_,_,rfl,rfl,O.get 2,O.get 0,(by rw [ac5,ac5,afn,sizeLine_eq];omega),fun la hla=>?_⟩
    walk_at "nw"
    rw [<- aeN] at O
    have hcl:(Lk ls.length dy.2).length=ls.length:=by unfold Lk;rw [ae1,afn];omega
    have hcn:∀ c∈Lk ls.length dy.2,0<=c:=fun c hc=>by
     rcases afa.mp hc with h| h
     ·exact c4 c h
     ·rw [(List.mem_replicate.mp h).2];decide
    rw [show dy.2++List.replicate (ls.length - dy.2.length) 0=Lk ls.length dy.2 from rfl] at O
    have O:Ow T H _ [(la,.lst ((Lk ls.length dy.2).map V.int)),(m,.lst (us.set n (.ref t))),(t,.tup (zG (wst l st)))]:=O.sub (List.Sublist.cons₂ _ (afC [_,_,_] _))
    refine ⟨_,rfl,_,rfl,_,rfl,_,rfl,a,asp,la,.ref b,r,dy.1,ls,Lk ls.length dy.2,rfl,⟨O.same.seq hA.1,hA.2⟩,O.same.seq hSp,c1,c2,.list (O.same.seq hB) (d0.mo O.same),hl,O.sq 0,hcl.symm,hlo,hcn,O.same.t1,O.Cv fun lx H5 xs O e=>?_⟩
    obtain ⟨xs,rfl,DX⟩:=e
    refine ⟨_,rfl,_,rfl,_,rfl,_,rfl,a,asp,la,.ref m,r,dy.1,ls',Lk ls.length dy.2,rfl,⟨O.same.seq hA.1,hA.2⟩,O.same.seq hSp,c1,c2,.list (O.sq 2) (Dall O.tail.tail),by omega,O.sq 1,by omega,hlo2,hcn,O.same.t1,O.Cv fun ly H6 ys O e=>?_⟩
    obtain ⟨ys,rfl,DY⟩:=e
    have hxl:=DX.len
    have hyl:=DY.len
    refine ⟨_,rfl,b,_,rfl,.inl (O.same.seq hB),_,rfl,fun lr2 hr2=>?_⟩
    walk_at "nw"
    refine ⟨_,rfl,_,rfl,lr2,lx,ly,us.length,_,_,rfl,O.get 0,by omega,O.sq 2,O.sq 1,?_⟩
    refine R7 (K:=K) (fun k σ H'=>Iv (∃ (v13 v14 v15:Option V),σ=[some (.ref a),some (.ref b),some (.int (n:Int)),some (.int st),some (.ref av),some (.ref m),some (.int (i:Int)),some (.ref ay),some (.ref asp),some (.ref acl),some (.ref la),some (.ref lx),some (.ref ly),v13,v14,v15]/\fL n 0 xs ys=fL n k (xs.drop k) (ys.drop k) /\
     Ow T H H' [(ly,.lst (ys.map V.int)),(lx,.lst (xs.map V.int)),(m,.lst (us.set n (.ref t))),(t,.tup (zG (wst l st)))]))
     ⟨trivial,_,_,_,rfl,rfl,O.sub (List.Sublist.cons _ (List.Sublist.cons₂ _ (List.Sublist.cons₂ _ (afv _ _))))⟩ (by rw [ac5];omega) (by rw [ac5];omega) (fun k σ H' _ ⟨_,_,_,_,_,_,O⟩=>⟨O.sq 1,O.sq 0⟩) ?_ ?_
    ·clear O
     rintro k x y T7 σ H7 hkl hx1 hy1 ⟨-,v13,v14,v15,rfl,hfh,O⟩ hT7
     obtain ⟨x,hx2,rfl⟩:=ints_get hx1
     obtain ⟨y,hy2,rfl⟩:=ints_get hy1
     walk_at "nw"
     refine ⟨T7,_,rfl,O.sqT 0,rfl,_,_,rfl,_,_,rfl,_,_,rfl,rfl,?_⟩
     have O:=O.tail
     rw [aaD hx2 hy2] at hfh
     have go:¬ (k≠n/\y<x)->Iv (∃ (v13 v14 v15:Option V),[some (V.ref a),some (.ref b),some (.int (n:Int)),some (.int st),some (.ref av),some (.ref m),some (.int (i:Int)),some (.ref ay),some (.ref asp),some (.ref acl),some (.ref la),some (.ref lx),some (.ref ly),some (.int (k:Int)),some (.int x),some (.int y)]=[some (V.ref a),some (.ref b),some (.int (n:Int)),some (.int st),some (.ref av),some (.ref m),some (.int (i:Int)),some (.ref ay),some (.ref asp),some (.ref acl),some (.ref la),some (.ref lx),some (.ref ly),v13,v14,v15]/\fL n 0 xs ys=fL n (k+1) (xs.drop (k+1)) (ys.drop (k+1))/\Ow T H _ [(ly,.lst (ys.map V.int)),(lx,.lst (xs.map V.int)),(m,.lst (us.set n (.ref t))),(t,.tup (zG (wst l st)))]):=fun h=>by
      rw [if_neg h] at hfh
      exact ⟨trivial,_,_,_,rfl,hfh,O⟩
     refine ⟨_,rfl,_,rfl,rfl,_,rfl,ifN (ifI (fun h1=>?_) (fun h1=>?_))⟩
     ·exact go fun z=>z.1 (by have h1:(k:Int)=(n:Int):=h1;omega)
     refine ⟨_,rfl,_,rfl,_,_,rfl,rfl,_,rfl,ifD (fun h2=>?_) (fun h2=>?_)⟩
     rotate_left
     ·exact go fun z=>h2 z.2
     refine ⟨_,rfl,_,rfl,_,rfl,_,rfl,szl,fun tR hR=>?_⟩
     walk_at "nw"
     rw [if_pos ⟨fun z=>h1 (by rw [z]),h2⟩] at hfh
     exact O.retT 0 rfl (q i dy k x y hdy hno ⟨xs,ys,DX,DY,hfh⟩) rfl
    clear O
    rintro σ H7 ⟨-,v13,v14,v15,rfl,hfh,O⟩
    rw [acA (by omega)] at hfh
    refine ⟨trivial,_,_,_,_,_,_,_,_,_,_,rfl,fun j d' hj hd'=>?_,O.tail.tail⟩
    by_cases hji:j<i
    ·exact hno j d' hji hd'
    ·have:j=i:=by omega
     rw [this,hdy] at hd'
     rw [<- aeY hd']
     exact ⟨xs,ys,DX,DY,hfh⟩
 clear O
 rintro σ H5 ⟨-,v6,v7,v8,v9,v10,v11,v12,v13,v14,v15,rfl,hno,O⟩
 refine q0 (fun d hd=>?_) _ O.same
 obtain ⟨j,hj,e⟩:=List.mem_iff_getElem.mp hd
 exact hno j d (by omega) (by rw [aeD hj,e])
theorem J6 (h:p8 r l):lN r l:=⟨⟨h.1.2.2.1,h.1.2.2.2.1,h.2.elim .inl fun z=>.inr (List.mem_of_mem_drop z)⟩,h.1.2.2.2.2.1⟩
abbrev jY:Stmt:=inClass (top 81) 9
theorem xG:aD ["self","number","start"] ["self","number","start"] (ao jY):=by walk_at "sc"
inductive T5 (K:PySem.W.Frag)(T:dX)(C cF cH:Addr)(vs:List V)(H:Hp)(Q:VK)(E:XK):Prop
 | mk (A:Rs)(Z:Bx)(day:Int)(r:List Int)(us:List V)(ls:List Lic)(n:Nat)(l:Lic)(st:Int)(pu:List V)(ps:List Pd)(rs:List V)(ds:List (List Int × List Int))(_:vs=[.ref A.p,.int (n:Int),.int st])(_:H A.p=some (RV C A (exB Z) day))(_:SqL K H A.lb (r.map V.int))(_:Rv.iG r)(_:r.length<=40)(_:SqL K H A.ll us)(_:bZ K H us (ls.map yO))(_:ls[n]?=some l)(_:ls.length<=60)(_:(∀ l∈ls,lN r l))(_:lN r (wst l st))(_:SqL K H Z.ld pu)(_:bZ K H pu (ps.map dMv))(_:ps.length<=900)(_:SqL K H Z.lr rs)(_:bZ K H rs (ds.map zp))(_:ds.length<=900)(_:Ji r ls.length ds)(_:TabsOk T H)(_:(Hu ps (n:Int)=false->(∀ d∈ds,lU r ls (ls.set n (wst l st)) n d none)->∀ H',aJ T H H'->Q .non H'))(_:(Hu ps (n:Int)=true->∀ (e:Addr)(H':Hp),aJ T H H'->H' e=none->E (.ref cF) (some e) H'))(_:(Hu ps (n:Int)=false->∀ d∈ds,∀ o,lU r ls (ls.set n (wst l st)) n d (some o)->∀ (e:Addr)(H':Hp),aJ T H H'->H' e=none->E (.ref cH) (some e) H'))
variable (pL:nZ K mg "Fixed" cF)
variable (pK:nZ K mg "Harms" cH)
variable (Hj:(CX0|||8) Am Ax ["below","roll","number","start","record"] (MJ K T))
variable {j4:Addr}{j6:FuncData}(bT:Dm K C "look_move" "Book.look_move" jY ["self","number","start"] j4 j6)
include aU dW aY jw lZ pL pK Hj bT in
theorem abQ:((CXE P w)|||9) j4 j6 ["self","number","start"] (T5 K T C cF cH):=by
 have R:=dW
 refine bT.F.okX xG ?_ ?_
 walk_at "i"
 obtain ⟨A,Z,day,r,us,ls,n,l,st,pu,ps,rs,ds,rfl,hp,hV,hR,r40,hL,d0,hl,h60,hlo,hlo',hD,dP,hp9,hLr,dR,hd9,hrec,tk,q,qF,qH⟩:=h
 refine ⟨_,(@eO _ _ _ _ _ _ _ _ (j7 (fQ (pv 0) dW.c aY.m jw hr.m aY.b .nil oO (pv 1>=>ak)))
   (~~~(iw jr rfl (fun _ _ z=>z) rfl pL.m pL.q (cO>=>ak)))
   aX<|>(~~~(@eO _ _ _ _ _ _ _ _ (aQ Z9 (lZ<*Hj<*(bI (pv 0) rfl>=>bI (pv 0) rfl>=>pv 1>=>pv 2>=>bI (pv 0) rfl>=>ak)) zW (bx _))
   (~~~(iw jr rfl (fun _ _ z=>z) rfl pK.m pK.q (cO>=>ak)))
   aX))),?_⟩
 refine ⟨_,rfl,A.p,A.dx,_,rfl,hp,rfl,_,rfl,A,Z,day,(n:Int),pu,ps,rfl,hp,hD,dP,hp9,tk,fun H1 s1=>?_⟩
 refine ⟨_,rfl,ifB (fun hb=>⟨szl,fun e he=>qF hb e H1 s1 he⟩) (fun hb=>?_)⟩
 have hp:=s1.keep _ _ hp (fun _ z=>nomatch z)
 refine ⟨_,rfl,A.p,C,A.dx,_,.ref A.lb,rfl,hp,aU.c,aU.nB,rfl,_,rfl,A.p,C,A.dx,_,.ref A.ll,rfl,hp,aU.c,aU.nL,rfl,_,rfl,_,rfl,_,rfl,A.p,C,A.dx,_,.ref Z.lr,rfl,hp,R.c,R.nR,rfl,A.lb,A.ll,.ref Z.lr,us,r,ls,n,l,st,ds,rfl,⟨s1.seq hV,hR,by omega⟩,s1.seq hL,d0.mo s1,hl,by omega,hlo,hlo',.list (s1.seq hLr) (dR.mo s1),by omega,hrec,s1.t1,fun hn H2 s2=>?_,fun i d o x y hd _ hD t H2 xs s2 _ ht _=>?_⟩
 ·exact ⟨rfl,_,rfl,um (q hb hn H2 (s1.trans s2))⟩
 ·exact ⟨rfl,_,rfl,zA ⟨szl,fun e he=>qH hb d (aeO hd) _ hD e H2 (s1.trans s2) he⟩⟩
abbrev uR:Stmt:=inClass (top 50) 10
theorem yG:aD ["self","number","holder","start","one"] ["self","number","holder","start"] (ao uR):=by walk_at "sc"
inductive Dp (K:PySem.W.Frag)(T:dX)(C:Addr)(c:Ec)(cF cH:Addr)(vs:List V)(H:Hp)(Q:VK)(E:XK):Prop
 | mk (A:Rs)(Z:Bx)(H0:Hp)(B:List (Addr × HO))(r:List Int)(S:RS)(gs rs ks us:List V)(ps:List Pd)(ds:List (List Int × List Int))(n:Int)(y:Str)(st:Int)(_:vs=[.ref A.p,.int n,.str y,.int st])(_:RA K T C A (exB Z) r H0 H (BL Z gs rs ks us++B) S)(_:RP r (exB Z) S)(_:bZ K H0 us (ps.map dMv))(_:ps.length<=900)(_:bZ K H0 rs (ds.map zp))(_:ds.length<=900)(_:Ji r S.ls.length ds)(_:(∀ l∈S.ls,lN r l))(_:(∀ k,step r S (.move n y st)=.error k->∀ (e:Addr)(H':Hp),aJ T H H'->H' e=none->E (.ref (c.at_ k)) (some e) H'))(_:(∀ S',step r S (.move n y st)=.ok S'->(Hu ps n=true->∀ (e:Addr)(H':Hp),aJ T H H'->H' e=none->E (.ref cF) (some e) H')/\(Hu ps n=false->((∀ d∈ds,lU r S.ls S'.ls n.toNat d none)->∀ Hb H',aJ T H0 Hb->RA K T C A (exB Z) r Hb H' (BL Z gs rs ks us++B) S'->Q .non H')/\(∀ d∈ds,∀ o,lU r S.ls S'.ls n.toNat d (some o)->∀ (e:Addr)(H':Hp),aJ T H H'->H' e=none->E (.ref cH) (some e) H'))))
variable (pY:((CXE P w)|||9) j4 j6 ["self","number","start"] (T5 K T C cF cH))
variable {vm:Addr}{vK:FuncData}(gY:Dm K C "move" "Roll.move" uR ["self","number","holder","start"] vm vK)
include cW aU aF cQ bK bY mU dW mJ bT pY gY in
theorem Rt (B:Blt mg):((CXE P w)|||10) vm vK ["self","number","holder","start"] (Dp K T C c cF cH):=by
 have R:=aU
 refine gY.F.okX yG ?_ ?_
 walk_at "i"
 obtain ⟨A,Z,H0,L,r,S,gs,rs,ks,pu,ps,ds,n,y,st,rfl,⟨us,vs,O,d0,d1⟩,hp,dP,hp9,dR,hd9,hrec,hlo,qE,q⟩:=h
 have hul:us.length=S.ls.length:=by rw [d0.length,ac5]
 have hvl:vs.length=S.ds.length:=by rw [d1.length,ac5]
 have hnn:=hp.nn
 have hdl:=hp.dl
 have hr40:=hp.r40
 obtain ⟨qN,qY⟩:=After.Fo (n:=n) (y:=y) (show After K T C c A (exB Z) r H0 H (BL Z gs rs ks pu++L) S (.move n y st) .non (fun _ _=>True) E from ⟨fun _ _ _ _ _ _=>trivial,qE⟩) rfl hnn
 have sA:=aJ.refl O.same.t1
 refine ⟨_,(aR (fQ (pv 0) aU.c aF.m bK hr.m aF.b .nil Bw (pv 1>=>pv 2>=>ak))<|>4<$>yG<$>(cQ<*mJ<*(@bD _ _ _ _ _ _ _ aM (bI (pv 0) rfl) (pv 1) (fun _ _=>rfl)>=>pv 3>=>ak))<|>@eO _ _ _ _ _ _ _ _ (nQ (j7 (cW<*mU<*(bI (pv 0) rfl>=>pv 4>=>ak))))
   (~~~(iw jr rfl (fun _ _ z=>z) rfl bY.m bY.q (cO>=>ak)))
   aX<|>aR (fQ (pv 0) dW.c bT.m pY hr.m bT.b .nil Bw (pv 1>=>pv 3>=>ak))<|>gC (pv 4) (uw (bI (pv 0) rfl) (pv 1) set_list)<|>(~~~(aR (m7 ae3 ae5 ae6 bJ (bI (pv 0) rfl) (@gD _ _ _ _ _ (cO>=>pv 1>=>pv 2>=>pv 3>=>ak)>=>ak))))),?_⟩
 refine ⟨_,rfl,A.p,A.dx,_,rfl,O.get 0,(by exact hp.ex.hol),_,rfl,_,rfl,A,exB Z,S.day,us,S.ns,n,y,rfl,O.get 0,O.sq 3,O.sq 4,by omega,hp.ex,O.same.t1,fun h0 h1 hx=>?_,qN,qY⟩
 have hst:step r S (.move n y st)=_:=Bd h0 (by omega) hx
 obtain ⟨k,rfl⟩:=ae9 h0
 obtain ⟨l,hl⟩:∃ l,S.ls[k]?=some l:=⟨_,aeD (by omega)⟩
 obtain ⟨al,hal,hT⟩:=d0.uy hl
 rw [Ab rfl hl,aeT] at hst
 refine ⟨_,rfl,A.p,C,A.dx,_,.ref A.ll,rfl,O.get 0,R.c,R.nL,rfl,_,rfl,A.ll,_,_,_,rfl,rfl,O.sq 3,d9 hal,_,rfl,al,l,st,rfl,hT.mo O.same,fun t1 ht1=>?_⟩
 have sA:=sA.upd (o':=.tup (zG (wst l st))) ht1 (.inl ht1)
 have O:=O.mk' ht1 (o:=.tup (zG (wst l st))) rfl
 refine ⟨_,rfl,A.p,C,A.dx,_,.ref A.lb,rfl,O.get 1,R.c,R.nB,rfl,_,rfl,A.lb,t1,r,wst l st,rfl,O.sq 3,hp.rv,by omega,O.sqT 0,O.same.t1,fun b H2 s2 hb2=>?_⟩
 have O:=O.jq s2
 have sA:=sA.trans s2
 refine ⟨_,rfl,?_⟩
 cases b with
 | false =>
  refine zA ⟨szl,fun e he=>?_⟩
  exact qE .licence (hst.trans (if_pos fun h=>nomatch hb2.mpr h)) e _ sA he
 | true =>
  refine um ?_
  have hst:=hst.trans (if_neg (not_not_intro (hb2.mp rfl)))
  obtain ⟨qF,q⟩:=q _ hst
  refine ⟨_,rfl,A.p,A.dx,_,rfl,O.get 1,(by exact hp.ex.lmv),_,rfl,_,rfl,A,Z,S.day,r,us,S.ls,k,l,st,pu,ps,rs,ds,rfl,O.get 1,O.sq 3,hp.rv,hr40,O.sq 4,d0.mo O.same,hl,hp.l60,hlo,J6 (hb2.mp rfl),O.sq 10,dP.mo O.same,hp9,O.sq 8,dR.mo O.same,hd9,hrec,O.same.t1,fun hb hn H3 s3=>?_,fun hb e H' s' he=>qF hb e H' (sA.trans s') he,fun hb d hd o hD e H' s' he=>(q hb).2 d hd o hD e H' (sA.trans s') he⟩
  have O:=O.jq s3
  have sA:=sA.trans s3
  refine ⟨_,rfl,_,rfl,A.p,C,A.dx,_,.ref A.ll,rfl,O.get 1,R.c,R.nL,rfl,_,rfl,?_⟩
  refine ux O 4 rfl (iJ (by omega)) fun H6 O=>?_
  refine ⟨_,rfl,A.p,C,A.dx,_,.ref A.lo,rfl,O.get 1,R.c,R.nO,rfl,.inl ⟨rfl,_,O.sq 6⟩,_,rfl,_,rfl,_,rfl,szl,fun t2 ht2=>?_⟩
  walk_at "nw"
  refine ⟨A.lo,_,_,rfl,rfl,O.get 7,aH (by omega),?_⟩
  generalize hE:upd _ _ _=Hn
  have O:=Ow.yI O 7 rfl hE rfl
  clear hE
  obtain ⟨Hb,O,sb,e2⟩:=(show Ow T H0 Hn ((t2,.tup [.str "move",.int (k:Int),.str y,.int st])::(t1,.tup (zG (wst l st)))::(RX C A (exB Z) r S.day (us.set k (.ref t1)) S.ns (vs++[V.ref t2])++(BL Z gs rs ks pu++L))) from O).frz
  obtain ⟨Hc,O,sc,e1⟩:=O.frz
  have e2:=sc.keep _ _ e2 (fun _ z=>nomatch z)
  have sx:=sb.trans sc
  refine (q hb).1 hn Hc _ sx ⟨us.set k (.ref t1),vs++[V.ref t2],O,?_,?_⟩
  ·rw [afD]
   exact (d0.mo sx).set (Den.lic (l:=wst l st) (SqT.of e1)) k
  ·rw [aeN]
   exact (d1.mo sx).append (.cons (.tuple (SqT.of e2) (.cons (.str _) (.cons (.int _) (.cons (.str _) (.cons (.int _) .nil))))) .nil)
abbrev oG:Stmt:=top 86
theorem iH:aD ["many","cell","order","k","place","at"] ["many","cell"] (ao oG):=by walk_at "sc"
inductive Tj (T:dX)(vs:List V)(H:Hp)(Q:VK)(E:XK):Prop
 | mk (n:Nat)(c:Int)(_:vs=[.int (n:Int),.int c])(_:n<=100)(_:TabsOk T H)(_:sY T H (fun ys=>∃ (o:List Nat)(pl:List Int),ys=pl.map V.int/\Rv.Ord n o/\Rv.Plc n o n pl) Q)
theorem Sy (o:List Nat)(i k:Nat):((o.map fun j:Nat=>V.int (j:Int)).take i++V.int (k:Int)::(o.map fun j:Nat=>V.int (j:Int)).drop i)=(o.take i++k::o.drop i).map fun j:Nat=>V.int (j:Int):=by
 rw [aeN,afg,List.map_take,List.map_drop]
variable {oZ:Addr}{pC:FuncData}(fB:Df K mg "_law_places" oG ["many","cell"] oZ pC)
include cg kY fB in
theorem abz (B:Blt mg):(CX0|||2) oZ pC ["many","cell"] (Tj T):=by
 refine fB.F.ok iH ?_ ?_
 walk_at "i"
 obtain ⟨n,c,rfl,hn,tk,q⟩:=h
 refine ⟨_,(2<$>iH<$>(@bF _ _ _ _ ak)<|>fJ ae7 rfl (nU rfl B.range (pv 0>=>ak)) (3>>iH)
   (~~~(aR (m7 ae3 PySem.F.slot_list_insert PySem.F.type_list_insert Oc (pv 2) (@bA _ _ _ _ _ _ _ _ ji (cg<*kY<*(pv 1>=>pv 3>=>ak)) (@bA _ _ _ _ _ _ _ _ pW (pv 3) au)>=>pv 3>=>ak))))<|>4<$>iH<$>(@bA _ _ _ _ _ _ _ _ yK (@bF _ _ _ _ (au>=>ak)) (pv 0))<|>fJ ae7 rfl (nU rfl B.range (pv 0>=>ak)) (5>>iH)
   (~~~(gC (pv 5) (uw (pv 4) (@bD _ _ _ _ _ _ _ aM (pv 2) (pv 5) (fun _ _=>rfl)) set_list)))<|>(~~~(@aL _ _ _ _ (pv 4)))),?_⟩
 have O:=Ow.refl tk
 refine ⟨szl,fun lo hlo=>?_⟩
 walk_at "nw"
 refine ⟨_,rfl,_,rfl,by omega,by omega,?_⟩
 rw [aeT]
 refine wI (n:=n) (fun i σ H2=>Iv (∃ (o:List Nat)(v3:Option V),σ=[some (.int (n:Int)),some (.int c),some (.ref lo),v3,none,none]/\Rv.Ord i o/\Ow T H H2 [(lo,.lst (o.map fun j:Nat=>V.int (j:Int)))]))
  ⟨trivial,[],none,rfl,⟨List.Perm.refl _⟩,O⟩ ?_ ?_
 ·clear O
  rintro i σ H2 hi ⟨-,o,v3,rfl,W,O⟩
  have zi:(0:Int)+(i:Int)=(i:Int):=by omega
  rw [zi]
  have m0:=af3 (peb c (i:Int)) (show ((i:Int)+1)≠0 by omega)
  have m1:=afY (peb c (i:Int)) (show (0:Int)<(i:Int)+1 by omega)
  have hol:=W.len
  refine ⟨_,rfl,.inl ⟨rfl,_,O.sq 0⟩,_,rfl,_,rfl,c,_,rfl,by omega,by omega,_,rfl,_,_,rfl,rfl,_,_,rfl,rfl,by omega,_,rfl,?_⟩
  refine ⟨lo,_,V.int ((i:Nat):Int),peb c (i:Int) % ((i:Int)+1),rfl,rfl,O.get 0,m0,by rw [ac5];omega,aH (by rw [ac5];omega),?_⟩
  generalize (peb c (i:Int) % ((i:Int)+1)).toNat=j
  rw [Sy]
  walk_at "pt"
  exact ⟨trivial,_,_,rfl,W.ins j,O⟩
 clear O
 rintro σ H2 ⟨-,o,v3,rfl,W,O⟩
 have hol:=W.len
 refine ⟨szl,fun l0 h0=>?_⟩
 walk_at "nw"
 refine ⟨_,rfl,l0,_,_,rfl,rfl,O.get 0,by omega,by omega,f9 (by rw [aeT];simp;omega),fun lp hlp=>?_⟩
 walk_at "nw"
 rw [aeT,show [V.int 0]=[V.int (0:Int)] from rfl,lD] at O
 have O:=O.two
 refine ⟨_,rfl,_,rfl,by omega,by omega,?_⟩
 rw [aeT]
 refine wI (n:=n) (fun i σ H2=>Iv (∃ (pl:List Int)(v5:Option V),σ=[some (.int (n:Int)),some (.int c),some (.ref lo),v3,some (.ref lp),v5]/\Rv.Plc n o i pl/\Ow T H H2 [(lp,.lst (pl.map V.int)),(lo,.lst (o.map fun j:Nat=>V.int (j:Int)))]))
  ⟨trivial,_,none,rfl,Rv.Plc.start _ _ _ (by simp),O⟩ ?_ ?_
 ·clear O
  rintro i σ H5 hi ⟨-,pl,v5,rfl,PL,O⟩
  have zi:(0:Int)+(i:Int)=(i:Int):=by omega
  rw [zi]
  have hio:i<o.length:=by omega
  have hj:o[i]<n:=W.lt (afx hio)
  have oj:o[i]?=some o[i]:=aeD hio
  have pll:=PL.len
  refine ⟨_,rfl,_,rfl,_,rfl,_,rfl,lo,_,_,_,rfl,rfl,O.sq 1,d9 (v:=V.int (o[i]:Int)) (by rw [aeQ,oj];rfl),?_⟩
  refine ux O 0 rfl (iJ (by rw [ac5,pll];exact hj)) fun H6 O=>?_
  exact ⟨trivial,_,_,rfl,PL.turn W oj,by rw [afD];exact O⟩
 clear O
 rintro σ H5 ⟨-,pl,v5,rfl,PL,O⟩
 exact ⟨_,rfl,O.ret 0 rfl q ⟨o,pl,rfl,W,PL⟩⟩
abbrev uM:Stmt:=top 87
theorem qg:aD ["tree","place","found","k"] ["tree","place"] (ao uM):=by walk_at "sc"
structure Laid (n:Nat)(ts pl r:List Int):Prop where
 len:r.length=n
 riv:Rv.iG r
 top:∀ a:Nat,pl[0]?=some (a:Int)->r[a]?=some (-1)
 at_:∀ (k a:Nat)(j b:Int),1<=k->pl[k]?=some (a:Int)->ts[k]?=some j->pl[j.toNat]?=some b->r[a]?=some b
inductive Mz (K:PySem.W.Frag)(T:dX)(vs:List V)(H:Hp)(Q:VK)(E:XK):Prop
 | mk (a b:Addr)(ts pl:List Int)(o:List Nat)(n:Nat)(_:vs=[.ref a,.ref b])(_:SqL K H a (ts.map V.int))(_:SqL K H b (pl.map V.int))(_:ts.length=n)(_:1<=n)(_:n<=100)(_:Rv.Ord n o)(_:Rv.Plc n o n pl)(_:(∀ (k:Nat)(j:Int),1<=k->ts[k]?=some j->0<=j/\j<(k:Int)))(_:TabsOk T H)(_:sY T H (fun ys=>∃ r,ys=r.map V.int/\Laid n ts pl r) Q)
variable {u9:Addr}{vD:FuncData}(iU:Df K mg "_law_laid" uM ["tree","place"] u9 vD)
include iU in
theorem aaj (B:Blt mg):(CX0|||1) u9 vD ["tree","place"] (Mz K T):=by
 refine iU.F.ok qg ?_ ?_;walk_at "i";obtain ⟨a,b,ts,pl,o,n,rfl,hA,hB,htl,n1,hn,W,PL,ht,tk,q⟩:=h;refine ⟨_,(2<$>qg<$>(@bA _ _ _ _ _ _ _ _ yK (@bF _ _ _ _ (@xP _ _ _ _ _ _ nF au>=>ak)) (aB aC rfl B.len aeZ (pv 0>=>ak)))<|>fJ ae7 rfl (Nt rfl B.range (au>=>aB aC rfl B.len aeZ (pv 0>=>ak)>=>ak)) (3>>qg)
   (~~~(gC (@bD _ _ _ _ _ _ _ aM (pv 1) (@bD _ _ _ _ _ _ _ aM (pv 0) (pv 3) (fun _ _=>rfl)) (fun _ _=>rfl)) (uw (pv 2) (@bD _ _ _ _ _ _ _ aM (pv 1) (pv 3) (fun _ _=>rfl)) set_list)))<|>(~~~(@aL _ _ _ _ (pv 2)))),?_⟩
 have O:=Ow.refl tk;have pll:=PL.len;have hml:(((ts.map V.int).length:Nat):Int)=(n:Int):=by rw [ac5,htl]
 refine ⟨1,rfl,szl,fun l0 h0=>?_⟩;walk_at "nw";refine ⟨_,rfl,a,_,rfl,.inl (O.same.seq hA),l0,_,_,rfl,rfl,O.get 0,by omega,by omega,f9 (by rw [hml,aeT];simp;omega),fun lf hlf=>?_⟩;walk_at "nw";rw [hml,aeT,show [V.int (-1)]=[V.int (-1:Int)] from rfl,lD] at O;have O:=O.two;refine ⟨_,rfl,a,_,rfl,.inl (O.same.seq hA),_,_,rfl,⟨by decide,by decide,by omega,by omega⟩,?_⟩;rw [hml,show ((n:Int) - 1).toNat=n - 1 by omega];refine wI (n:=n - 1) (fun i σ H2=>Iv (∃ (r:List Int)(v3:Option V),σ=[some (.ref a),some (.ref b),some (.ref lf),v3]/\Rv.Fnd n o i r/\(∀ a:Nat,pl[0]?=some (a:Int)->r[a]?=some (-1))/\(∀ (k a:Nat)(j b:Int),1<=k->k<=i->pl[k]?=some (a:Int)->ts[k]?=some j->pl[j.toNat]?=some b->r[a]?=some b)/\Ow T H H2 [(lf,.lst (r.map V.int))]))
  ⟨trivial,_,none,rfl,Rv.Fnd.start _ _ _ (by simp) (fun x hx=>(List.mem_replicate.mp hx).2),fun z hz=>?_,(fun k a j b h1 h2=>absurd h2 (by omega)),O⟩ ?_ ?_
 ·obtain ⟨a',ha',e,_⟩:=PL.all W (k:=0) (by omega);rw [hz] at e;have e:(z:Int)=(a':Int):=aeY e;rw [agi,if_pos (by omega)]
 ·clear O;rintro i σ H3 hi ⟨-,r,v3,rfl,FD,h0,hs,O⟩;have zi:(1:Int)+(i:Int)=((i+1:Nat):Int):=by omega
  rw [zi];obtain ⟨j,hj⟩:∃ j,ts[i+1]?=some j:=⟨_,aeD (by omega)⟩;obtain ⟨j0,j1⟩:=ht (i+1) j (by omega) hj;obtain ⟨ka,hka,pa,oa⟩:=PL.all W (k:=i+1) (by omega);obtain ⟨kb,hkb,pb,ob⟩:=PL.all W (k:=j.toNat) (by omega);have fl:=FD.len;refine ⟨_,rfl,_,rfl,_,rfl,a,_,_,_,rfl,rfl,O.same.seq hA,bV hj,b,_,_,_,rfl,rfl,O.same.seq hB,mH j0 pb,_,rfl,_,rfl,_,rfl,b,_,_,_,rfl,rfl,O.same.seq hB,bV pa,?_⟩;refine ux O 0 rfl (iJ (by rw [ac5,fl];exact hka)) fun H6 O=>?_;have inj:∀ k a:Nat,pl[k]?=some (a:Int)->a=ka->k=i+1:=fun k a hk e=>by
   have hkl:=(aeJ.mp hk).1;obtain ⟨a',_,pa',oa'⟩:=PL.all W (k:=k) (by omega);rw [hk] at pa';have e2:(a:Int)=(a':Int):=aeY pa';rw [show a'=ka by omega,oa] at oa';exact (aeY oa').symm
  refine ⟨trivial,_,_,rfl,FD.turn hkb oa ob (by omega) _,fun z hz=>?_,fun k z jj bb h1 h2 hk hjj hbb=>?_,by rw [afD];exact O⟩
  ·rw [afL fun e=>by have:=inj 0 z hz e.symm;omega];exact h0 z hz
  ·by_cases e:k=i+1
   ·subst e;rw [hj] at hjj;cases hjj;rw [pa] at hk;have e3:(ka:Int)=(z:Int):=aeY hk;rw [pb] at hbb;rw [show z=ka by omega,afM (by omega)];exact hbb
   ·rw [afL fun e2=>e (inj k z hk e2.symm)];exact hs k z jj bb h1 (by omega) hk hjj hbb
 clear O;rintro σ H3 ⟨-,r,v3,rfl,FD,h0,hs,O⟩;refine ⟨_,rfl,O.ret 0 rfl q ⟨r,rfl,FD.len,FD.Gm W,h0,fun k z j b h1 hk=>hs k z j b h1 ?_ hk⟩⟩;have:=(aeJ.mp hk).1;omega
section
variable {r:List Int}{p0 p1 p2 rise most:Int}
structure Y3 (r:List Int)(p0 p1 p2:Int):Prop where
 rv:Rv.iG r
 a0:0<=p0/\p0<r.length
 a1:0<=p1/\p1<r.length
 a2:0<=p2/\p2<r.length
 n01:p0≠p1
 n02:p0≠p2
 n12:p1≠p2
 e0:r[p0.toNat]?=some (-1)
 e1:r[p1.toNat]?=some p0
 e2:r[p2.toNat]?=some p0
theorem Oa {p x:Int}(h0:0<=p)(h1:p<r.length)(e:r[p.toNat]?=some x):Rv.nxt r p=x:=by
 have:=Rv.jz (r:=r) (p:=p) h0 h1;rw [e] at this;exact (aeY this).symm
theorem Y3.w0 (h:Y3 r p0 p1 p2):Rv.walk r p0=[p0]:=by
 rw [Rv.fD h.rv h.a0.1 h.a0.2,Oa h.a0.1 h.a0.2 h.e0,Rv.mz]
theorem Y3.w1 (h:Y3 r p0 p1 p2):Rv.walk r p1=[p1,p0]:=by
 rw [Rv.fD h.rv h.a1.1 h.a1.2,Oa h.a1.1 h.a1.2 h.e1,h.w0]
theorem Y3.w2 (h:Y3 r p0 p1 p2):Rv.walk r p2=[p2,p0]:=by
 rw [Rv.fD h.rv h.a2.1 h.a2.2,Oa h.a2.1 h.a2.2 h.e2,h.w0]
theorem Y3.s1 (h:Y3 r p0 p1 p2):Rv.nM r p1 p0=[p1]:=by
 unfold Rv.nM;have:=h.a0;rw [if_neg (by omega),h.w1];simp [List.takeWhile,h.n01.symm]
theorem Y3.nat (h:Y3 r p0 p1 p2){s:List Int}(hs:s=(List.replicate r.length (0:Int)).set p2.toNat rise)(p:Int):Rv.zm r s p=if p=p2\/p=p0 then rise else 0:=by
 have a2:=h.a2;unfold Rv.zm;rw [Rv.nH (g:=fun j=>if j=p2.toNat then (if p∈Rv.walk r (j:Int) then rise else 0) else 0) fun j hj=>?_,Rv.HD _ (by omega),Int.toNat_of_nonneg a2.1,h.w2]
 ·by_cases e:p=p2\/p=p0
  ·rw [if_pos e,if_pos (by simpa using e)]
  ·rw [if_neg e,if_neg (by simpa using e)]
 ·have e:s.getD j 0=if j=p2.toNat then rise else 0:=by
   rw [hs,aeM,List.getElem?_set,afn];by_cases e:p2.toNat=j
   ·rw [if_pos e,if_pos (by omega),if_pos e.symm];rfl
   ·rw [if_neg e,if_neg (fun z=>e z.symm),agi,if_pos hj];rfl
  rw [e];by_cases e2:j=p2.toNat
  ·rw [if_pos e2,if_pos e2]
  ·rw [if_neg e2,if_neg e2,ite_self]
theorem Y3.fF (h:Y3 r p0 p1 p2){s:List Int}(hs:s=(List.replicate r.length (0:Int)).set p2.toNat rise){p:Int}(h0:0<=p)(h1:p<r.length):Tn.fF (Rv.nats r s) p=if p=p2\/p=p0 then rise else 0:=by
 unfold Tn.fF;have e:(Rv.nats r s)[p.toNat]?=some (Rv.zm r s p):=by
  unfold Rv.nats;rw [aeQ,afN (by omega)];show some (Rv.zm r s ((p.toNat:Nat):Int))=_;rw [Int.toNat_of_nonneg h0]
 rw [aeM,e];exact h.nat hs p
def Y3.sevq (p0 p1 p2 most d q:Int):List Lic:=[⟨0,q,-1,most⟩,⟨d,p2,-1,most⟩,⟨d,p1,p0,most⟩,⟨d,p2,-1,most⟩]
theorem R3 (W:Nat->List Int)(x:Nat->Int)(p:Int):Tn.hold 4 W x p=(if p∈W 0 then x 0 else 0)+(if p∈W 1 then x 1 else 0)+(if p∈W 2 then x 2 else 0)+(if p∈W 3 then x 3 else 0):=by
 unfold Tn.hold;simp only [Tn.nJ];omega
theorem Y3.harm (h:Y3 r p0 p1 p2){s xs ys:List Int}{d:Int}(hd:0<=d)(hr:1<=rise)(hm:rise<=most)(hs:s=(List.replicate r.length (0:Int)).set p2.toNat rise)
  (X:BX r s (Y3.sevq p0 p1 p2 most d p1) [most,most,0,0] xs)(Y:BX r s (Y3.sevq p0 p1 p2 most d p2) [most,most,0,0] ys):fL 0 0 xs ys≠none:=by
 have hxl:xs.length=4:=X.len;have hyl:ys.length=4:=Y.len;have n01:=h.n01;have n02:=h.n02;have n12:=h.n12;have hw:∀ q,mq (Y3.sevq p0 p1 p2 most d q) [most,most,0,0]=[most,most,0,0]:=fun q=>by
  simp only [mq,Y3.sevq,List.zipWith];rw [Int.min_self,Int.min_eq_left (by omega:(0:Int)<=most)]
 have W1:∀ q,Fq r (Y3.sevq p0 p1 p2 most d q) 1=[p2,p0]:=fun q=>by rw [uH (l:=⟨d,p2,-1,most⟩) rfl];exact (if_pos rfl).trans h.w2
 have W2:∀ q,Fq r (Y3.sevq p0 p1 p2 most d q) 2=[p1]:=fun q=>by rw [uH (l:=⟨d,p1,p0,most⟩) rfl];exact h.s1
 have W3:∀ q,Fq r (Y3.sevq p0 p1 p2 most d q) 3=[p2,p0]:=fun q=>by rw [uH (l:=⟨d,p2,-1,most⟩) rfl];exact (if_pos rfl).trans h.w2
 have WA:Fq r (Y3.sevq p0 p1 p2 most d p1) 0=[p1,p0]:=by rw [uH (l:=⟨0,p1,-1,most⟩) rfl];exact (if_pos rfl).trans h.w1
 have WB:Fq r (Y3.sevq p0 p1 p2 most d p2) 0=[p2,p0]:=by rw [uH (l:=⟨0,p2,-1,most⟩) rfl];exact (if_pos rfl).trans h.w2
 have F1:Tn.fF (Rv.nats r s) p1=0:=by rw [h.fF hs h.a1.1 h.a1.2,if_neg (by omega)]
 have F2:Tn.fF (Rv.nats r s) p2=rise:=by rw [h.fF hs h.a2.1 h.a2.2,if_pos (.inl rfl)]
 have F0:Tn.fF (Rv.nats r s) p0=rise:=by rw [h.fF hs h.a0.1 h.a0.2,if_pos (.inr rfl)]
 have fX:Tn.Fit 4 (Tn.fF (Rv.nats r s)) (Fq r (Y3.sevq p0 p1 p2 most d p1)) (Tn.fX [most,most,0,0]) (Tn.fX xs):=by have:=X.fit;rw [hw] at this;exact this
 have fY:Tn.Fit 4 (Tn.fF (Rv.nats r s)) (Fq r (Y3.sevq p0 p1 p2 most d p2)) (Tn.fX [most,most,0,0]) (Tn.fX ys):=by have:=Y.fit;rw [hw] at this;exact this
 have x0:=fX.nn 0 (by decide);have x1:=fX.nn 1 (by decide);have x3:=fX.nn 3 (by decide);have x3':Tn.fX xs 3<=0:=fX.le 3 (by decide);have x2:=fX.nn 2 (by decide);have y0:=fY.nn 0 (by decide);have y3:=fY.nn 3 (by decide);have g1:=fX.fits p1 ⟨0,by decide,by rw [WA];exact .head _⟩;rw [R3,WA,W1,W2,W3,F1] at g1;simp only [aeS,ae8,or_false,true_or,if_true,n01.symm,n12,if_false] at g1;have hx:rise<=Tn.fX xs 1:=by
  by_cases z:rise<=Tn.fX xs 1
  ·exact z
  ·exfalso;obtain ⟨q,m1,e,_⟩:=X.shown 1 (by show 1<4;decide) (by rw [hw];show Tn.fX xs 1<most;omega);have e:Tn.hold 4 _ _ _=_:=e;rw [W1] at m1;rw [R3,WA,W1,W2,W3] at e;rcases aeS.mp m1 with rfl| m1
   ·rw [F2] at e;simp only [aeS,ae8,or_false,true_or,if_true,n02.symm,n12.symm,if_false] at e;omega
   ·obtain rfl:=afl.mp m1;rw [F0] at e;simp only [aeS,ae8,or_false,or_true,if_true,n01,n02,if_false] at e;omega
 have hy0:1<=Tn.fX ys 0:=by
  by_cases z:1<=Tn.fX ys 0
  ·exact z
  ·exfalso;have z0:Tn.fX ys 0=0:=by omega
   obtain ⟨q,m1,e,ah⟩:=Y.shown 0 (by show 0<4;decide) (by rw [hw];show Tn.fX ys 0<most;omega);have e:Tn.hold 4 _ _ _=_:=e;rw [WB] at m1;have no:∀ j,j<4->q∈Fq r (Y3.sevq p0 p1 p2 most d p2) j->Tn.fX ys j<=0:=fun j hj hm=>by
    by_cases hp:0<Tn.fX ys j
    ·exfalso;have:=ah j hj hm hp;have dj:0<=EY (Y3.sevq p0 p1 p2 most d p2) j:=by
      rcases (by omega:j=0\/j=1\/j=2\/j=3) with rfl| rfl| rfl| rfl
      ·exact afS _
      all_goals exact hd
     have d0:EY (Y3.sevq p0 p1 p2 most d p2) 0=0:=rfl;unfold Tn.acW at this;rw [d0,z0] at this;omega
    ·omega
   have fq:Tn.fF (Rv.nats r s) q=rise:=by
    rcases aeS.mp m1 with rfl| m1
    ·exact F2
    ·rw [afl.mp m1];exact F0
   rw [fq,R3] at e;have k0:=no 0 (by decide);have k1:=no 1 (by decide);have k2:=no 2 (by decide);have k3:=no 3 (by decide);revert e
   repeat' split
   all_goals (intro e;rename_i a b c g;first| (have:=k0 a;have:=k1 b;have:=k2 c;have:=k3 g;omega) | skip)
   all_goals (try have:=k0 a)<;>(try have:=k1 b)<;>(try have:=k2 c)<;>(try have:=k3 g)<;>omega
 have g2:=fY.fits p2 ⟨0,by decide,by rw [WB];exact .head _⟩;rw [R3,WB,W1,W2,W3,F2] at g2;simp only [aeS,ae8,or_false,true_or,if_true,n12.symm,if_false] at g2
 match xs,hxl,ys,hyl with
 | [a,b,c,d'],_,[a',b',c',e'],_ =>
  have hx:rise<=b:=hx;have hy:1<=a':=hy0;have g2:a' +b' +0+e'<=rise:=g2;have y3:0<=e':=y3;simp only [fL];rw [if_neg (fun z=>z.1 rfl),if_pos ⟨by decide,by omega⟩];exact Option.some_ne_none _
end
theorem Ow.behind (X R Y Z:List (Addr × HO))(O:Ow T H0 H (X++(R++(Y++Z)))):Ow T H0 H (R++(Y++(X++Z))):=(Ow.front X R (Y++Z) O).perm (List.Perm.append_left _ (List.perm_append_comm_assoc Y X Z))
structure Zg (K:PySem.W.Frag)(rows cols:List Addr)(cS:Addr):Prop where
 m:∀ (k:Nat) a,rows[k]?=some a->PySem.W.exmOne K (.ref a) (.ref cS)=some true
 kt:∀ (k j:Nat) a b,rows[k]?=some a->cols[j]?=some b->kitOne K (.ref a) (.ref b)=some (decide (j=k))
 kv:∀ (k:Nat) a,rows[k]?=some a->kitOne K (.ref a) (.type "ValueError")=some true
 x:∀ (k:Nat) a,rows[k]?=some a->S5 K a
inductive Zf (r:List Int)(S:RS)(ps:List Pd)(ds:List (List Int × List Int))(n:Int)(y:Str)(st:Int):Nat->Prop
 | num (_:step r S (.move n y st)=.error .number):Zf r S ps ds n y st 0
 | you (_:step r S (.move n y st)=.error .yours):Zf r S ps ds n y st 1
 | lic (_:step r S (.move n y st)=.error .licence):Zf r S ps ds n y st 2
 | fix (S':RS) (_:step r S (.move n y st)=.ok S') (_:Hu ps n=true):Zf r S ps ds n y st 3
 | harm (S':RS) (d:List Int × List Int) (o:Nat × Int × Int) (_:step r S (.move n y st)=.ok S') (_:Hu ps n=false) (_:d∈ds) (_:lU r S.ls S'.ls n.toNat d (some o)):Zf r S ps ds n y st 4
variable {y:Str}{st:Int}
theorem Rz {k:EK}(h:step r S (.move n y st)=.error k):k=.number\/k=.yours\/k=.licence:=by
 simp only [step,RS.Fo] at h
 repeat' split at h
 all_goals first| (cases h;done) | (cases h;simp)
def flg (k:Nat):List V:=[V.bl (decide (0=k)),V.bl (decide (1=k)),V.bl (decide (2=k)),V.bl (decide (3=k)),V.bl (decide (4=k)),V.bl true]
abbrev qL:Stmt:=top 90
theorem vZ:aD ["way","kinds"] ["way"] (ao qL):=by walk_at "sc"
inductive JC (T:dX)(vs:List V)(H:Hp)(Q:VK)(E:XK):Prop
 | mk (k:Nat)(_:vs=[.int (k:Int)])(_:k<5)(_:TabsOk T H)(_:sY T H (fun ys=>ys=flg k) Q)
variable {rM:Addr}{sS:FuncData}(bh:Df K mg "_law_kinds" qL ["way"] rM sS)
include bh in
theorem abI:(CX0|||1) rM sS ["way"] (JC T):=by
 refine bh.F.ok vZ ?_ ?_;walk_at "i";obtain ⟨k,rfl,hk,tk,q⟩:=h;refine ⟨_,(1<$>vZ<$>(@bF _ _ _ _ (oN>=>oN>=>oN>=>oN>=>oN>=>oN>=>ak))<|>gC oN (uw (pv 1) (pv 0) set_list)<|>(~~~(@aL _ _ _ _ (pv 1)))),?_⟩;have O:=Ow.refl tk;refine ⟨szl,fun l hl=>?_⟩;walk_at "nw";refine ⟨_,rfl,_,rfl,ux O 0 rfl (iJ (j:=k) (by show k<6;omega)) fun H2 O=>?_⟩;refine ⟨_,rfl,O.ret 0 rfl q ?_⟩;rcases (by omega:k=0\/k=1\/k=2\/k=3\/k=4) with rfl| rfl| rfl| rfl| rfl <;>rfl
abbrev qK:Stmt:=top 89
theorem dG:aD ["book","number","holder","start","caught","e","others","kinds"] ["book","number","holder","start"] (ao qK):=by walk_at "sc"
inductive Tt (K:PySem.W.Frag)(T:dX)(C:Addr)(vs:List V)(H:Hp)(Q:VK)(E:XK):Prop
 | mk (A:Rs)(Z:Bx)(H0:Hp)(B:List (Addr × HO))(r:List Int)(S:RS)(gs rs ks us:List V)(ps:List Pd)(ds:List (List Int × List Int))(n:Int)(y:Str)(st:Int)(_:vs=[.ref A.p,.int n,.str y,.int st])(_:RA K T C A (exB Z) r H0 H (BL Z gs rs ks us++B) S)(_:RP r (exB Z) S)(_:bZ K H0 us (ps.map dMv))(_:ps.length<=900)(_:bZ K H0 rs (ds.map zp))(_:ds.length<=900)(_:Ji r S.ls.length ds)(_:(∀ l∈S.ls,lN r l))(_:(∀ S',step r S (.move n y st)=.ok S'->Hu ps n=false->(∀ d∈ds,lU r S.ls S'.ls n.toNat d none)->∀ (l:Addr)(Hb H':Hp),aJ T H0 Hb->RA K T C A (exB Z) r Hb H' (BL Z gs rs ks us++((l,.lst [])::B)) S'->Q (.ref l) H'))(_:(∀ k,Zf r S ps ds n y st k->∀ (l:Addr)(H':Hp),Ow T H H' [(l,.lst (flg k))]->Q (.ref l) H'))
variable {Z:Bx}{ds:List (List Int × List Int)}
theorem RD {gs rs ks us:List V}{ps:List Pd}{E:XK}(ra:RA K T C A (exB Z) r H0 H (BL Z gs rs ks us++B) S)(rp:RP r (exB Z) S)(dP:bZ K H0 us (ps.map dMv))(hp:ps.length<=900)(dR:bZ K H0 rs (ds.map zp))(hd:ds.length<=900)(hr:Ji r S.ls.length ds)(hl:∀ l∈S.ls,lN r l)(q:∀ S',step r S (.move n y st)=.ok S'->Hu ps n=false->(∀ d∈ds,lU r S.ls S'.ls n.toNat d none)->∀ Hb H',aJ T H0 Hb->RA K T C A (exB Z) r Hb H' (BL Z gs rs ks us++B) S'->Q .non H')(qe:∀ k a,[c.number,c.yours,c.licence,cF,cH][k]?=some a->Zf r S ps ds n y st k->∀ (e:Addr)(H':Hp),aJ T H H'->H' e=none->E (.ref a) (some e) H'):Dp K T C c cF cH [.ref A.p,.int n,.str y,.int st] H Q E:=by
 refine ⟨A,Z,H0,B,r,S,gs,rs,ks,us,ps,ds,n,y,st,rfl,ra,rp,dP,hp,dR,hd,hr,hl,fun k h=>?_,fun S' h=>⟨fun hf=>qe 3 _ rfl (.fix S' h hf),fun hf=>⟨fun hn=>q S' h hf hn,fun d hd o ho=>qe 4 _ rfl (.harm S' d o h hf hd ho)⟩⟩⟩;rcases Rz h with rfl| rfl| rfl
 ·exact qe 0 _ rfl (.num h)
 ·exact qe 1 _ rfl (.you h)
 ·exact qe 2 _ rfl (.lic h)
variable (Bs:((CXE P w)|||10) vm vK ["self","number","holder","start"] (Dp K T C c cF cH))
variable {rK:Addr}{sO:FuncData}(cj:Df K mg "_law_moved" qK ["book","number","holder","start"] rK sO)
include aU bY pL pK gY Bs cj in
theorem abD (B:Blt mg)(pJ:nZ K mg "SluiceError" cS)(TT:Zg K [c.number,c.yours,c.licence,cF,cH] [c.number,c.yours,c.licence,cF,cH,b5,b6,b7,b8,b9,b10,b11,b12,b13,b14,b15] cS)(iY:nZ K mg "NoNumber" c.number)(iW:nZ K mg "NotYours" c.yours)(Jh:nZ K mg "NoCut" b5)(vP:nZ K mg "NoDay" b6)(jA:nZ K mg "NoHolder" b7)(Bj:nZ K mg "NoPaper" b8)(jt:nZ K mg "NoPond" b9)(Bh:nZ K mg "NoReach" b10)(lM:nZ K mg "NoRiver" b11)(Jg:nZ K mg "NoRow" b12)(yx:nZ K mg "NotAlone" b13)(Bk:nZ K mg "Full" b14)(Bg:nZ K mg "TooMuch" b15):(CX0|||11) rK sO ["book","number","holder","start"] (Tt K T C):=by
 refine cj.F.ok dG ?_ ?_
 walk_at "i"
 obtain ⟨A,Z,H0,L,r,S,gs,rs,ks,us,ps,ds,n,y,st,rfl,ra,rp,dP,hp9,dR,hd9,hrec,hlo,q,qe⟩:=h
 refine ⟨_,(4<$>dG<$>zW<|>abn (i:=5) ⟨rfl,rfl,rfl⟩ rfl (Zo (Zq (Zr (pv 0) aU.c gY.m Bs hr.m gY.b .nil (pv 1>=>pv 2>=>pv 3>=>ak)))) rfl pJ.m dG.nd rfl rfl (fun e =>
   (~~~(4<$>dG<$>(pv 5))))<|>@eO _ _ _ _ _ _ _ _ (aQ Nz (pv 4) zW (bx _))
   (~~~(@aL _ _ _ _ (@bF _ _ _ _ ak)))
   aX<|>6<$>dG<$>(@bF _ _ _ _ (aB aV rfl B.isinstance ae2 (pv 4>=>jP rfl Jh.m>=>ak)>=>aB aV rfl B.isinstance ae2 (pv 4>=>jP rfl vP.m>=>ak)>=>aB aV rfl B.isinstance ae2 (pv 4>=>jP rfl jA.m>=>ak)>=>ak))<|>6<$>dG<$>(@bA _ _ _ _ _ _ _ _ zY (pv 6) (@bF _ _ _ _ (aB aV rfl B.isinstance ae2 (pv 4>=>jP rfl Bj.m>=>ak)>=>aB aV rfl B.isinstance ae2 (pv 4>=>jP rfl jt.m>=>ak)>=>aB aV rfl B.isinstance ae2 (pv 4>=>jP rfl Bh.m>=>ak)>=>ak)))<|>6<$>dG<$>(@bA _ _ _ _ _ _ _ _ zY (pv 6) (@bF _ _ _ _ (aB aV rfl B.isinstance ae2 (pv 4>=>jP rfl lM.m>=>ak)>=>aB aV rfl B.isinstance ae2 (pv 4>=>jP rfl Jg.m>=>ak)>=>aB aV rfl B.isinstance ae2 (pv 4>=>jP rfl yx.m>=>ak)>=>ak)))<|>@eO _ _ _ _ _ _ _ _ (aQ Gu oN (@bA _ _ _ _ _ _ _ _ zY (pv 6) (@bF _ _ _ _ (aB aV rfl B.isinstance ae2 (pv 4>=>jP rfl Bk.m>=>ak)>=>aB aV rfl B.isinstance ae2 (pv 4>=>jP rfl Bg.m>=>ak)>=>ak))) (by rfl))
   (~~~(@aL _ _ _ _ (@bF _ _ _ _ (oN>=>ak))))
   aX<|>7<$>dG<$>(@bF _ _ _ _ (aB aV rfl B.isinstance ae2 (pv 4>=>jP rfl iY.m>=>ak)>=>aB aV rfl B.isinstance ae2 (pv 4>=>jP rfl iW.m>=>ak)>=>aB aV rfl B.isinstance ae2 (pv 4>=>jP rfl bY.m>=>ak)>=>ak))<|>(~~~(@aL _ _ _ _ (@bA _ _ _ _ _ _ _ _ zY (pv 7) (@bF _ _ _ _ (aB aV rfl B.isinstance ae2 (pv 4>=>jP rfl pL.m>=>ak)>=>aB aV rfl B.isinstance ae2 (pv 4>=>jP rfl pK.m>=>ak)>=>aB aV rfl B.isinstance ae2 (pv 4>=>Z8 (v:=.ty "ValueError") rfl B.ValueError aaK rfl>=>ak)>=>ak)))))),?_⟩
 obtain ⟨ls,vs,O,d0,d1⟩:=id ra
 refine ⟨_,rfl,A.p,A.dx,_,rfl,O.get 0,rfl,_,rfl,_,rfl,_,rfl,?_⟩
 dsimp only [S9,agt]
 refine RD (c:=c) (cF:=cF) (cH:=cH) (n:=n) (y:=y) (st:=st) ra rp dP hp9 dR hd9 hrec hlo (fun S' hs hf hn Hb H' sb ra'=>?_) (fun k a ha hw ea H' s' he=>⟨_,ea,rfl,rfl,TT.m k a ha,?_⟩)
 ·refine ⟨_,rfl,rfl,_,rfl,zA ⟨szl,fun l hl=>?_⟩⟩
  obtain ⟨ls2,vs2,O2,e0,e1⟩:=ra'
  have O2:=O2.mk' hl (o:=.lst []) rfl
  exact q S' hs hf hn l Hb _ sb ⟨ls2,vs2,Ow.behind [(l,.lst [])] _ _ _ O2,e0,e1⟩
 have hX:∀ {H2},aJ T (upd H' ea (.ext (XAt ea a))) H2->H2 ea=some (.ext (XAt ea a)):=fun s=>s.keep _ _ aZ (fun _ z=>nomatch z)
 have hD:=TT.x k a ha
 have kt:=fun j b hb=>TT.kt k j a b ha hb
 have s2:=s'.upd (o':=.ext (XAt ea a)) (s'.free he) (.inl he)
 have O:=Ow.refl s2.t1
 refine ⟨_,rfl,_,rfl,rfl,_,rfl,um ?_⟩
 have k5:=(aeJ.mp ha).1
 have k5:k<5:=k5
 have ko:∀ (j:Nat)(b:Addr),5<=j->[c.number,c.yours,c.licence,cF,cH,b5,b6,b7,b8,b9,b10,b11,b12,b13,b14,b15][j]?=some b->kitOne K (.ref a) (.ref b)=some false:=fun j b h hb=>by rw [kt j b hb,decide_eq_false (by omega)]
 refine ⟨_,rfl,ea,_,_,_,_,rfl,hX O.same,hD,.inr ⟨_,rfl,rfl⟩,ko 5 _ (by decide) rfl,_,rfl,ea,_,_,_,_,rfl,hX O.same,hD,.inr ⟨_,rfl,rfl⟩,ko 6 _ (by decide) rfl,_,rfl,ea,_,_,_,_,rfl,hX O.same,hD,.inr ⟨_,rfl,rfl⟩,ko 7 _ (by decide) rfl,szl,fun l1 h1=>?_⟩
 walk_at "nw"
 refine ⟨_,rfl,_,rfl,ea,_,_,_,_,rfl,hX O.same,hD,.inr ⟨_,rfl,rfl⟩,ko 8 _ (by decide) rfl,_,rfl,ea,_,_,_,_,rfl,hX O.same,hD,.inr ⟨_,rfl,rfl⟩,ko 9 _ (by decide) rfl,_,rfl,ea,_,_,_,_,rfl,hX O.same,hD,.inr ⟨_,rfl,rfl⟩,ko 10 _ (by decide) rfl,szl,fun l2 h2=>?_⟩
 walk_at "nw"
 refine ⟨l1,l2,_,_,rfl,rfl,O.get 1,O.get 0,f9 (by simp),fun l3 h3=>?_⟩
 walk_at "nw"
 refine ⟨_,rfl,_,rfl,ea,_,_,_,_,rfl,hX O.same,hD,.inr ⟨_,rfl,rfl⟩,ko 11 _ (by decide) rfl,_,rfl,ea,_,_,_,_,rfl,hX O.same,hD,.inr ⟨_,rfl,rfl⟩,ko 12 _ (by decide) rfl,_,rfl,ea,_,_,_,_,rfl,hX O.same,hD,.inr ⟨_,rfl,rfl⟩,ko 13 _ (by decide) rfl,szl,fun l4 h4=>?_⟩
 walk_at "nw"
 refine ⟨l3,l4,_,_,rfl,rfl,O.get 1,O.get 0,f9 (by simp),fun l5 h5=>?_⟩
 walk_at "nw"
 refine ⟨_,rfl,_,rfl,ea,_,_,_,_,rfl,hX O.same,hD,.inr ⟨_,rfl,rfl⟩,ko 14 _ (by decide) rfl,_,rfl,ea,_,_,_,_,rfl,hX O.same,hD,.inr ⟨_,rfl,rfl⟩,ko 15 _ (by decide) rfl,szl,fun l6 h6=>?_⟩
 walk_at "nw"
 refine ⟨l5,l6,_,_,rfl,rfl,O.get 1,O.get 0,f9 (by simp),fun l7 h7=>?_⟩
 walk_at "nw"
 refine ⟨l7,_,rfl,.inl (O.sq 0),rfl,rfl,?_⟩
 refine ⟨false,rfl,?_⟩
 refine um ?_
 refine ⟨_,rfl,ea,_,_,_,_,rfl,hX O.same,hD,.inr ⟨_,rfl,rfl⟩,kt 0 _ rfl,_,rfl,ea,_,_,_,_,rfl,hX O.same,hD,.inr ⟨_,rfl,rfl⟩,kt 1 _ rfl,_,rfl,ea,_,_,_,_,rfl,hX O.same,hD,.inr ⟨_,rfl,rfl⟩,kt 2 _ rfl,szl,fun l8 h8=>?_⟩
 walk_at "nw"
 refine ⟨_,rfl,_,rfl,ea,_,_,_,_,rfl,hX O.same,hD,.inr ⟨_,rfl,rfl⟩,kt 3 _ rfl,_,rfl,ea,_,_,_,_,rfl,hX O.same,hD,.inr ⟨_,rfl,rfl⟩,kt 4 _ rfl,_,rfl,ea,_,_,_,_,rfl,hX O.same,hD,.inl ⟨_,rfl,rfl⟩,TT.kv k a ha,szl,fun l9 h9=>?_⟩
 walk_at "nw"
 refine ⟨l8,l9,_,_,rfl,rfl,O.get 1,O.get 0,f9 (by simp),fun lf hf=>?_⟩
 walk_at "nw"
 exact qe k hw lf _ ((O.sub (.cons₂ _ (agp _))).base s2)
def yZ:Kw->Prop
 | .file x _ _ _=>Asc x
 | .sell _ y z=>Asc y/\Asc z
 | .part _ y _ z=>Asc y/\Asc z
 | .drop _ y=>Asc y
 | .move _ y _=>Asc y
 | .turn=>True
 | .lapse xs=>xs.length<=1000
structure B7 (r:List Int)(S:RS)(gs:List Int)(ds:List (List Int × List Int))(i:Nat):Prop where
 rv:Rv.iG r
 r3:3<=r.length
 r12:r.length<=12
 nn:S.ns.length=4
 na:∀ x∈S.ns,Asc x
 l4:S.ls.length=4
 lo:∀ l∈S.ls,p8 r l
 sd:S.ds.length<=i
 ok:∀ d∈S.ds,yZ d
 gl:gs.length<=4
 dl:ds.length<=1
 dr:Ji r 4 ds
variable {gs:List Int}
theorem B7.rp (h:B7 r S gs ds i)(hi:i<=1000)(Z:Bx):RP r (exB Z) S:=
 ⟨h.rv,by have:=h.r12;omega,by rw [h.nn,h.l4],by have:=h.l4;omega,by have:=h.sd;omega,(show (5:Nat)<=100 by decide),Kd Z⟩
theorem B7.lic (h:B7 r S gs ds i):∀ l∈S.ls,lN r l:=fun l hl=>J6 (h.lo l hl)
inductive BA7 (K:PySem.W.Frag)(T:dX)(C:Addr)(A:Rs)(Z:Bx)(r:List Int)(H0 H:Hp)(B:List (Addr × HO))(S:RS)(ds:List (List Int × List Int))(i:Nat):Prop
 | mk (gs:List Int)(rs us:List V)(_:RA K T C A (exB Z) r H0 H (BL Z (gs.map V.int) rs [.int 0] us++B) S)(_:bZ K H0 us ([((3:Int),(0:Int),(0:Int))].map dMv))(_:bZ K H0 rs (ds.map zp))(_:B7 r S gs ds i)
inductive Qv (r:List Int)(S:RS)(n:Int)(y:Str)(st:Int):Option Nat->Prop
 | num (_:step r S (.move n y st)=.error .number):Qv r S n y st (some 0)
 | you (_:step r S (.move n y st)=.error .yours):Qv r S n y st (some 1)
 | lic (_:step r S (.move n y st)=.error .licence):Qv r S n y st (some 2)
 | fix (S':RS) (_:step r S (.move n y st)=.ok S') (_:n=3):Qv r S n y st (some 3)
 | let_ (S':RS) (_:step r S (.move n y st)=.ok S') (_:n≠3):Qv r S n y st none
def Ez:Option Nat->List V
 | none=>[]
 | some k=>flg k
abbrev xM:Stmt:=top 91
theorem uI:aD ["river","book","number","holder","start","roll","back"] ["river","book","number","holder","start"] (ao xM):=by walk_at "sc"
inductive TY (K:PySem.W.Frag)(T:dX)(C:Addr)(vs:List V)(H:Hp)(Q:VK)(E:XK):Prop
 | mk (A:Rs)(Z:Bx)(H0:Hp)(B:List (Addr × HO))(r:List Int)(S:RS)(ds:List (List Int × List Int))(i:Nat)(lv:Addr)(n:Int)(y:Str)(st:Int)(_:vs=[.ref lv,.ref A.p,.int n,.str y,.int st])(_:BA7 K T C A Z r H0 H B S ds i)(_:SqL K H lv (r.map V.int))(_:∀ (o:Option Nat)(l:Addr)(H':Hp),Qv r S n y st o->Ow T H H' [(l,.lst (Ez o))]->Q (.ref l) H')
variable (jL:(CX0|||1) nj nC ["self"] (xq K C "names"))
variable (dI:(CX0|||1) rM sS ["way"] (JC T))
variable (Bp:(CX0|||1) uZ vC ["river","start"] (Mi K T))
variable {yd:Addr}{yt:FuncData}(jF:Df K mg "_law_due" xM ["river","book","number","holder","start"] yd yt)
include iT aP bC aU dU bh jL dI Bp jF in
theorem abN (B:Blt mg):(CX0|||2) yd yt ["river","book","number","holder","start"] (TY K T C):=by
 refine jF.F.ok uI ?_ ?_
 walk_at "i"
 obtain ⟨A,Z,H0,L,r,S,ds,i,lv,n,y,st,rfl,⟨gs,rs,us,⟨ls,vs,OA,d0,d1⟩,dP,dR,hk⟩,hV,q⟩:=h
 have hll:ls.length=S.ls.length:=by rw [d0.length,ac5]
 have l4:=hk.l4
 have hnn:=hk.nn
 have r3:=hk.r3
 have hml:(((r.map V.int).length:Nat):Int)=(r.length:Int):=by rw [ac5]
 have O:=Ow.refl OA.same.t1
 have g:∀ {H'} (k:Nat) (L:List (Addr × HO)) (Z:V->Hp->Prop),k<5->Ow T H H' L->Qv r S n y st (some k)->(∀ v H'',Q v H''->Z v H'')->JC T [.int (k:Int)] H' Z E0:=fun k L Z hk O hd hz=>⟨k,rfl,hk,O.same.t1,O.Cv fun l H' xs O e=>by
  subst e
  exact hz _ _ (q (some k) l H' hd (O.sub (.cons₂ _ (agp _))))⟩
 refine ⟨_,(5<$>uI<$>(gb (pv 1) aU.c aP.m dU hr.m aP.b .nil oO)<|>@eO _ _ _ _ _ _ _ _ (PW.pt (pw_or (aQ Ed (pv 2) au (bx _)) (pw_or1 (aQ Q9 (pv 2) (aB aC rfl B.len aeZ (pv 5>=>ak)) (bx _)))))
   (~~~(@aL _ _ _ _ (bh<*dI<*(au>=>ak))))
   aX<|>@eO _ _ _ _ _ _ _ _ (aQ zX (@bD _ _ _ _ _ _ _ aM (gb (pv 1) aU.c bC.m jL hr.m bC.b .nil oO) (pv 2) (fun _ _=>rfl)) (pv 3) (bx _))
   (~~~(@aL _ _ _ _ (bh<*dI<*(au>=>ak))))
   aX<|>6<$>uI<$>(@bD _ _ _ _ _ _ _ yL (@bD _ _ _ _ _ _ _ aM (pv 5) (pv 2) (fun _ _=>rfl)) au (fun _ _=>rfl))<|>@eO _ _ _ _ _ _ _ _ (PW.pt (pw_or (aQ Ed (pv 4) au (bx _)) (pw_or (aQ Q9 (pv 4) (aB aC rfl B.len aeZ (pv 0>=>ak)) (bx _)) (pw_or1 (PW.pt (pw_and (aQ zX (pv 6) (@xP _ _ _ _ _ _ nF au) (bx _)) (pw_and1 (aQ qQ (pv 6) (tY xr (iT<*Bp<*(pv 0>=>pv 4>=>ak)) (uU au) zU) (by rfl)))))))))
   (~~~(@aL _ _ _ _ (bh<*dI<*(au>=>ak))))
   aX<|>@eO _ _ _ _ _ _ _ _ (aQ Ef (pv 2) au (bx _))
   (~~~(@aL _ _ _ _ (bh<*dI<*(au>=>ak))))
   aX<|>(~~~(@aL _ _ _ _ (@bF _ _ _ _ ak)))),?_⟩
 refine ⟨_,rfl,A.p,A.dx,_,rfl,OA.get 0,rfl,A.p,A.dx,A.ll,_,ls,rfl,OA.get 0,rfl,OA.sq 3,fun lr hlr=>?_⟩
 walk_at "nw"
 have num:¬ (0<=n/\n<S.ls.length)->Qv r S n y st (some 0):=fun h=>.num (show S.Fo n y _=_ from Ko h)
 refine ⟨_,rfl,_,_,rfl,rfl,_,rfl,ifD (fun z=>g 0 _ _ (by decide) O (num (by omega)) (fun _ _ h=>h)) (fun z1=>?_)⟩
 refine ⟨_,rfl,_,rfl,lr,_,rfl,.inl (O.sq 0),_,_,rfl,rfl,_,rfl,ifD (fun z=>g 0 _ _ (by decide) O (num (by omega)) (fun _ _ h=>h)) (fun z2=>?_)⟩
 obtain ⟨k,rfl⟩:=ae9 (show 0<=n by omega)
 have hk4:k<4:=by omega
 obtain ⟨l,hl⟩:∃ l,S.ls[k]?=some l:=⟨_,aeD (by omega)⟩
 obtain ⟨x,hx⟩:∃ x,S.ns[k]?=some x:=⟨_,aeD (by omega)⟩
 obtain ⟨al,hal,hT⟩:=d0.uy hl
 have gl:=hk.lo l (aeO hl)
 refine ⟨_,rfl,A.p,A.dx,_,rfl,(OA.jq O.same).get 0,rfl,A.p,A.dx,A.ln,_,_,rfl,(OA.jq O.same).get 0,rfl,(OA.jq O.same).sq 4,fun ln hln=>?_⟩
 walk_at "nw"
 refine ⟨_,rfl,ln,_,_,_,rfl,rfl,O.sq 0,d9 (v:=.str x) (by rw [aeQ,hx];rfl),_,rfl,?_⟩
 refine ⟨rfl,_,rfl,ifN (ifD (fun e=>?_) (fun e=>g 1 _ _ (by decide) O (.you (show S.Fo (k:Int) y _=_ from CQ (by omega) (by omega) (by rw [aeT,hx];exact fun z=>e (congrArg V.str (aeY z))))) (fun _ _ h=>h)))⟩
 obtain rfl:x=y:=by injection e
 have hst:step r S (.move (k:Int) x st)=open Classical in if ¬ p8 r (wst l st) then .error .licence else .ok ⟨S.day,S.ls.set (k:Int).toNat (wst l st),S.ns,S.ds++[.move (k:Int) x st]⟩:=by
  have:=Bd (S:=S) (n:=(k:Int)) (y:=x) (k:=open Classical in if ¬ p8 r (wst (S.at_ (k:Int)) st) then .error .licence else .ok ⟨S.day,S.ls.set (k:Int).toNat (wst (S.at_ (k:Int)) st),S.ns,S.ds++[.move (k:Int) x st]⟩) (by omega) (by omega) (by rw [aeT];exact hx)
  rw [Ab rfl hl] at this
  exact (show step r S (.move (k:Int) x st)=S.Fo (k:Int) x _ by simp only [step];rw [Ab rfl hl]).trans this
 have lic:¬ p8 r (wst l st)->Qv r S (k:Int) x st (some 2):=fun h=>.lic (hst.trans (if_pos h))
 have oks:p8 r (wst l st)->step r S (.move (k:Int) x st)=_:=fun h=>hst.trans (if_neg (not_not_intro h))
 refine ⟨_,rfl,_,rfl,lr,_,_,_,rfl,rfl,O.sq 1,d9 hal,al,_,2,_,rfl,rfl,(hT.mo OA.same).mo O.same,rfl,?_⟩
 refine ⟨_,rfl,_,_,rfl,rfl,_,rfl,ifD (fun z=>g 2 _ _ (by decide) O (lic fun h=>by have:=h.1.2.2.1;exact absurd this (Int.not_le.mpr z)) (fun _ _ h=>h)) (fun z3=>?_)⟩
 refine ⟨_,rfl,_,rfl,lv,_,rfl,.inl (O.same.seq hV),_,_,rfl,rfl,_,rfl,ifD (fun z=>g 2 _ _ (by decide) O (lic fun h=>by have:=h.1.2.2.2.1;rw [hml] at z;exact absurd this (Int.not_lt.mpr z)) (fun _ _ h=>h)) (fun z4=>?_)⟩
 have st0:0<=st:=Int.not_lt.mp z3
 have st1:st<r.length:=by rw [hml] at z4;exact Int.not_le.mp z4
 have mk:(l.back=-1\/l.back∈(Rv.walk r st).drop 1)->p8 r (wst l st):=fun h=>⟨⟨gl.1.1,gl.1.2.1,st0,st1,gl.1.2.2.2.2.1,gl.1.2.2.2.2.2⟩,h⟩
 have fin:∀ {H':Hp}{L:List (Addr × HO)},Ow T H H' L->p8 r (wst l st)->dD (Cd (QL (tOp rEq (aa2 2) (tC (V.int 3)))) (adg (ZG (JC T) [] E0 (ZD (tC (V.int 3)) S9))) aa4) (adg (aef S9)) { nx:=fun x H'=>Q V.non H',rt:=Q } [some (.ref lv),some (.ref A.p),some (.int (k:Int)),some (.str x),some (.int st),some (.ref lr),some (.int l.back)] H':=fun {H' L} O h =>
  ⟨_,rfl,rfl,_,rfl,ifI (fun z=>g 3 _ _ (by decide) O (.fix _ (oks h) z) (fun _ _ h=>h)) (fun z=>⟨szl,fun l' hl'=>q none l' _ (.let_ _ (oks h) z) ((O.mk' hl' (o:=.lst []) rfl).sub (.cons₂ _ (agp _)))⟩)⟩
 refine ⟨_,rfl,1,rfl,rfl,_,rfl,ifN (ifI (fun hb=>um (fin O (mk (.inl hb)))) (fun hb=>?_))⟩
 refine ⟨_,rfl,_,rfl,_,rfl,lv,r,st,rfl,O.same.seq hV,hk.rv,st0,st1,by have:=hk.r12;omega,O.same.t1,O.Cv fun lw H2 ys O e=>?_⟩
 subst e
 refine ⟨1,rfl,lw,_,rfl,O.sq 0,fun l2 hl2=>?_⟩
 walk_at "nw"
 rw [show GP ((Rv.walk r st).map V.int) (some 1) none=((Rv.walk r st).drop 1).map V.int from Fe _ 1] at O
 refine ⟨l2,_,rfl,.inl (O.sq 0),rfl,wJ _,_,rfl,?_⟩
 rw [if_pos rfl,Ek]
 refine ifN (ifD (fun hm=>fin O (mk (.inr hm))) (fun hm=>g 2 _ _ (by decide) O (lic fun h=>h.2.elim hb hm) (fun _ _ h=>h)))
theorem Sh.str (n:Nat){x:Str}(h:Asc x):Sh n (.str x):=by
 refine ⟨?_,by simp [PyData.depth]⟩;rw [PyData.canLay0];show x.cps.all (·<0x110000)=true;rw [Array.all_eq_true];intro i hi;have:=of_decide_eq_true (Array.all_eq_true.mp h.1 i hi);exact decide_eq_true (by omega)
theorem pI:∀ x∈(["turn","file","sell","part","drop","move","lapse"]:List Str),Asc x:=fun x hx=>by
 simp only [aeS,ae8,or_false] at hx;rcases hx with rfl| rfl| rfl| rfl| rfl| rfl| rfl <;>exact ⟨by decide+kernel,by decide+kernel⟩
theorem Sh.deed {d:Kw}(h:yZ d):Sh 2 (Jb d):=by
 cases d with
 | turn =>
  exact .tuple fun e he=>by
   simp only [aeS,ae8,or_false] at he;subst he;exact Sh.str _ (pI _ (by simp))
 | file x s m b =>
  exact .tuple fun e he=>by
   simp only [aeS,ae8,or_false] at he;rcases he with rfl| rfl| rfl| rfl| rfl
   ·exact Sh.str _ (pI _ (by simp))
   ·exact Sh.str _ h
   ·exact Sh.int _ _
   ·exact Sh.int _ _
   ·exact Sh.int _ _
 | sell n y z =>
  exact .tuple fun e he=>by
   simp only [aeS,ae8,or_false] at he;rcases he with rfl| rfl| rfl| rfl
   ·exact Sh.str _ (pI _ (by simp))
   ·exact Sh.int _ _
   ·exact Sh.str _ h.1
   ·exact Sh.str _ h.2
 | part n y m z =>
  exact .tuple fun e he=>by
   simp only [aeS,ae8,or_false] at he;rcases he with rfl| rfl| rfl| rfl| rfl
   ·exact Sh.str _ (pI _ (by simp))
   ·exact Sh.int _ _
   ·exact Sh.str _ h.1
   ·exact Sh.int _ _
   ·exact Sh.str _ h.2
 | drop n y =>
  exact .tuple fun e he=>by
   simp only [aeS,ae8,or_false] at he;rcases he with rfl| rfl| rfl
   ·exact Sh.str _ (pI _ (by simp))
   ·exact Sh.int _ _
   ·exact Sh.str _ h
 | move n y s =>
  exact .tuple fun e he=>by
   simp only [aeS,ae8,or_false] at he;rcases he with rfl| rfl| rfl| rfl
   ·exact Sh.str _ (pI _ (by simp))
   ·exact Sh.int _ _
   ·exact Sh.str _ h
   ·exact Sh.int _ _
 | lapse xs =>
  exact .tuple fun e he=>by
   simp only [aeS,ae8,or_false] at he;rcases he with rfl| rfl
   ·exact Sh.str _ (pI _ (by simp))
   ·exact .tuple fun e he=>by
     obtain ⟨i,_,rfl⟩:=afc.mp he;exact Sh.int _ _
theorem Sh.ad6 {ds:List Kw}(h:∀ d∈ds,yZ d):Sh 3 (.list (ds.map Jb)):=.list fun e he=>by
 obtain ⟨d,hd,rfl⟩:=afc.mp he;exact Sh.deed (h d hd)
theorem ad0 (n:Int):Hu [((3:Int),(0:Int),(0:Int))] n=decide (n=3):=by
 simp [Hu]
theorem Zu {o:Option Nat}(hw:Zf r S [((3:Int),(0:Int),(0:Int))] ds n y st k)(hd:Qv r S n y st o):o=some k\/(o=none/\k=4/\ds≠[]):=by
 cases hw with
 | num h=>cases hd with
  | num _=>exact .inl rfl
  | you h2=>rw [h] at h2;cases h2
  | lic h2=>rw [h] at h2;cases h2
  | fix _ h2=>rw [h] at h2;cases h2
  | let_ _ h2=>rw [h] at h2;cases h2
 | you h=>cases hd with
  | num h2=>rw [h] at h2;cases h2
  | you h2=>exact .inl rfl
  | lic h2=>rw [h] at h2;cases h2
  | fix _ h2=>rw [h] at h2;cases h2
  | let_ _ h2=>rw [h] at h2;cases h2
 | lic h=>cases hd with
  | num h2=>rw [h] at h2;cases h2
  | you h2=>rw [h] at h2;cases h2
  | lic h2=>exact .inl rfl
  | fix _ h2=>rw [h] at h2;cases h2
  | let_ _ h2=>rw [h] at h2;cases h2
 | fix S' h hp=>cases hd with
  | num h2=>rw [h] at h2;cases h2
  | you h2=>rw [h] at h2;cases h2
  | lic h2=>rw [h] at h2;cases h2
  | fix _ h2=>exact .inl rfl
  | let_ _ h2 z=>rw [ad0,decide_eq_true_eq] at hp;exact absurd hp z
 | harm S' d e h hp hm hh=>cases hd with
  | num h2=>rw [h] at h2;cases h2
  | you h2=>rw [h] at h2;cases h2
  | lic h2=>rw [h] at h2;cases h2
  | fix _ h2 z=>rw [ad0,decide_eq_false_iff_not] at hp;exact absurd z hp
  | let_ _ h2=>exact .inr ⟨rfl,rfl,fun z=>by rw [z] at hm;cases hm⟩
theorem aag {S':RS}{o:Option Nat}(h:step r S (.move n y st)=.ok S')(hp:Hu [((3:Int),(0:Int),(0:Int))] n=false)(hd:Qv r S n y st o):o=none:=by
 cases hd with
 | num h2=>rw [h] at h2;cases h2
 | you h2=>rw [h] at h2;cases h2
 | lic h2=>rw [h] at h2;cases h2
 | fix _ _ z=>rw [ad0,decide_eq_false_iff_not] at hp;exact absurd z hp
 | let_ _ _=>rfl
def dFl:List V->List PyData
 | []=>[]
 | .bl b::vs=>.bool b::dFl vs
 | _::vs=>.none::dFl vs
theorem vO (o:Option Nat):bZ K H (Ez o) (dFl (Ez o)):=by
 cases o with
 | none=>exact .nil
 | some k=>exact .cons (.bl _) (.cons (.bl _) (.cons (.bl _) (.cons (.bl _) (.cons (.bl _) (.cons (.bl _) .nil)))))
theorem uD (o:Option Nat):Sh 4 (.list (dFl (Ez o))):=Sh.list fun d hd=>by
 cases o with
 | none=>cases hd
 | some k =>
  have hd:d∈[PyData.bool (decide (0=k)),.bool (decide (1=k)),.bool (decide (2=k)),.bool (decide (3=k)),.bool (decide (4=k)),.bool true]:=hd;simp only [aeS,ae8,or_false] at hd;rcases hd with e| e| e| e| e| e <;>rw [e]<;>exact ⟨rfl,by simp [PyData.depth]⟩
theorem Qd (o:Option Nat):PyData.eqv (.list (dFl (Ez o))) (.list [])=decide (o=none):=by
 cases o with
 | none=>exact jm (n:=1) (Sh.list fun d hd=>nomatch hd)
 | some k=>simp [Ez,flg,dFl,PyData.eqv,PyData.eqvAll]
theorem mC:Sh 4 (.list []):=Sh.list fun d hd=>nomatch hd
theorem Dr (ls:List Lic):Sh 4 (.list (ls.map yO)):=Sh.list fun d hd=>by
 obtain ⟨l,_,rfl⟩:=afc.mp hd;exact Sh.tuple fun d hd=>by
  simp only [afg,agb,aeS,ae8,or_false] at hd;rcases hd with e| e| e| e <;>rw [e]<;>exact Sh.int 2 _
theorem Sd (h:ds≠[]):PyData.eqv (.list (ds.map zp)) (.list [])=false:=by
 cases ds with
 | nil=>exact absurd rfl h
 | cons d ds=>simp [PyData.eqv,PyData.eqvAll]
theorem ZM (ds:List (List Int × List Int)):Sh 4 (.list (ds.map zp)):=Sh.list fun d hd=>by
 obtain ⟨z,_,rfl⟩:=afc.mp hd;exact Sh.tuple fun d hd=>by
  rcases aeS.mp hd with e| e
  ·rw [e];exact Sh.ints 1 _
  ·rw [afl.mp e];exact Sh.ints 1 _
theorem aau {S':RS}(h:step r S (.move n y st)=.ok S'):∃ (k:Nat)(l:Lic),n=(k:Int)/\S.ls[k]?=some l/\p8 r (wst l st)/\S'=⟨S.day,S.ls.set k (wst l st),S.ns,S.ds++[.move n y st]⟩:=by
 simp only [step,RS.Fo] at h;split at h
 ·cases h
 ·rename_i h1
  have h1:=Classical.not_not.mp h1;split at h
  ·cases h
  ·split at h
   ·cases h
   ·rename_i h3
    obtain ⟨k,rfl⟩:=ae9 h1.1;obtain ⟨l,hl⟩:∃ l,S.ls[k]?=some l:=⟨_,aeD (by omega)⟩;rw [Ab rfl hl,aeT] at h;rw [Ab rfl hl] at h3;cases h;exact ⟨k,l,rfl,hl,Classical.not_not.mp h3,rfl⟩
theorem acH {v:V}{d:List Int × List Int}(h:Den K H v (zp d)):acV K H v d:=by
 obtain ⟨t,zs,rfl,hT,dz⟩:=Den.FJ h;cases dz with
 | cons e1 e2=>cases e2 with
  | cons e2 e3 =>
   cases e3;obtain ⟨a,rfl,hA⟩:=e1.ud;obtain ⟨b,rfl,hB⟩:=e2.ud;exact ⟨t,a,b,rfl,hT,hA,hB⟩
theorem B7.move (h:B7 r S gs ds i)(hl:p8 r l)(hy:Asc y):B7 r ⟨S.day,S.ls.set k l,S.ns,S.ds++[.move (k:Int) y st]⟩ gs ds (i+1):=
 ⟨h.rv,h.r3,h.r12,h.nn,h.na,by show (S.ls.set k l).length=4;rw [afq];exact h.l4,fun x hx=>(af0 hx).elim (h.lo x) (fun z=>by rw [z];exact hl),by rw [ae1];exact Nat.succ_le_succ h.sd,fun d hd=>(afa.mp hd).elim (h.ok d) (fun z=>by rw [afl.mp z];exact hy),h.gl,h.dl,h.dr⟩
theorem B7.up (h:B7 r S gs ds i):B7 r S gs ds (i+1):=⟨h.rv,h.r3,h.r12,h.nn,h.na,h.l4,h.lo,Nat.le_succ_of_le h.sd,h.ok,h.gl,h.dl,h.dr⟩
abbrev qJ:Stmt:=top 92
theorem cM:aD ["book","river","number","holder","start","roll","trail","due","found","day","old","back","most"] ["book","river","number","holder","start"] (ao qJ):=by walk_at "sc"
inductive Tg (K:PySem.W.Frag)(T:dX)(C:Addr)(vs:List V)(H:Hp)(Q:VK)(E:XK):Prop
 | mk (A:Rs)(Z:Bx)(H0:Hp)(B:List (Addr × HO))(r:List Int)(S:RS)(ds:List (List Int × List Int))(i:Nat)(lv:Addr)(n:Int)(y:Str)(st:Int)(_:vs=[.ref A.p,.ref lv,.int n,.str y,.int st])(_:BA7 K T C A Z r H0 H B S ds i)(_:i<=100)(_:(lv,HO.lst (r.map V.int))∈B)(_:Asc y)(_:∀ (S':RS)(Hb H':Hp),aJ T H0 Hb->BA7 K T C A Z r Hb H' B S' ds (i+1)->Q (.bl true) H')
variable (tE:(CX0|||1) rO sV ["self"] (xq K C "done"))
variable (Dg:(CX0|||2) yd yt ["river","book","number","holder","start"] (TY K T C))
variable (jR:(CX0|||11) rK sO ["book","number","holder","start"] (Tt K T C))
variable (wX:(CX0|||1) o8 pG ["self"] (Ti K T C))
variable {rJ:Addr}{sJ:FuncData}(gV:Df K mg "_law_tried" qJ ["book","river","number","holder","start"] rJ sJ)
include aP cZ aU dW dM dU bh cj dI jF tE Dg jR wX gV in
theorem abv (B:Blt mg):(CX0|||12) rJ sJ ["book","river","number","holder","start"] (Tg K T C):=by
 refine gV.F.ok cM ?_ ?_
 walk_at "i"
 obtain ⟨A,Z,H0,L,r,S,ds,i,lv,n,y,st,rfl,⟨gs,rs,us,⟨ls,vs,O,d0,d1⟩,dP,dR,hk⟩,hi,mV,hy,q⟩:=h
 have hll:ls.length=S.ls.length:=by rw [d0.length,ac5]
 have hvl:vs.length=S.ds.length:=by rw [d1.length,ac5]
 have l4:=hk.l4
 have hsd:=hk.sd
 have hdl:=hk.dl
 have hR:=hk.rp (by omega) Z
 have hu:=hr.units
 refine ⟨_,(5<$>cM<$>(gb (pv 0) aU.c aP.m dU hr.m aP.b .nil oO)<|>6<$>cM<$>(gb (pv 0) aU.c cZ.m tE hr.m cZ.b .nil oO)<|>7<$>cM<$>(jF<*Dg<*(pv 1>=>pv 0>=>pv 2>=>pv 3>=>pv 4>=>ak))<|>8<$>cM<$>(cj<*jR<*(pv 0>=>pv 2>=>pv 3>=>pv 4>=>ak))<|>(wz (@eO _ _ _ _ _ _ _ _ (PW.pt (pw_and (aQ (Gv hu) (pv 8) (@bF _ _ _ _ ak) (bx _)) (pw_and1 (aQ (Gv hu) (pv 7) (@bF _ _ _ _ ak) (bx _)))))
   (gC (@bD _ _ _ _ _ _ _ aM (pv 5) (pv 2) (fun _ _=>rfl)) (iB rfl (aA (9>>cM) (aA (10>>cM) (aA (11>>cM) (aA (12>>cM) bN)))))<|>gC (@gD _ _ _ _ _ (pv 9>=>pv 4>=>pv 11>=>pv 12>=>ak)) (uw (pv 5) (pv 2) set_list)<|>(~~~(aR (m7 ae3 ae5 ae6 bJ (pv 6) (@gD _ _ _ _ _ (cO>=>pv 2>=>pv 3>=>pv 4>=>ak)>=>ak)))))
   (~~~(@eO _ _ _ _ _ _ _ _ (PW.pt (pw_and (aQ (Cp hu) (pv 8) (pv 7) (bx _)) (pw_and1 (PW.pt (pw_or (aQ (Cp hu) (pv 7) (@bF _ _ _ _ ak) (bx _)) (pw_or (aQ (Cp hu) (pv 8) (bh<*dI<*(au>=>ak)) (bx _)) (pw_or1 (aQ (Gv hu) (gb (pv 0) dW.c dM.m wX hr.m dM.b .nil oO) (@bF _ _ _ _ ak) (bx _)))))))))
    (~~~(@aL _ _ _ _ oN))
    aX)))
  (~~~(@aL _ _ _ _ (Ub (oM (Gv hu) (gb (pv 0) aU.c aP.m dU hr.m aP.b .nil oO) (pv 5) (bx _)) (Nx (oM (Gv hu) (gb (pv 0) aU.c cZ.m tE hr.m cZ.b .nil oO) (pv 6) (bx _)))))))),?_⟩
 refine ⟨_,rfl,A.p,A.dx,_,rfl,O.get 0,rfl,A.p,A.dx,A.ll,_,ls,rfl,O.get 0,rfl,O.sq 3,fun lr hlr=>?_⟩
 walk_at "nw"
 refine ⟨_,rfl,A.p,A.dx,_,rfl,O.get 1,rfl,A.p,A.dx,A.lo,_,vs,rfl,O.get 1,rfl,O.sq 6,fun lt hlt=>?_⟩
 walk_at "nw"
 have O:=Ow.behind [(lt,.lst vs),(lr,.lst ls)] (RX C A (exB Z) r S.day ls S.ns vs) (BL Z (gs.map V.int) rs [.int 0] us) L O
 have hV:=SqL.of (K:=K) (O.at_ _ (aeK _ (aeK _ (aeK _ mV))))
 refine ⟨_,rfl,_,rfl,_,rfl,_,rfl,_,rfl,A,Z,H0,_,r,S,ds,i,lv,n,y,st,rfl,⟨gs,rs,us,⟨ls,vs,O,d0,d1⟩,dP,dR,hk⟩,hV,fun o lu H3 hd OU=>?_⟩
 have O:=Ow.behind [(lu,.lst (Ez o))] (RX C A (exB Z) r S.day ls S.ns vs) (BL Z (gs.map V.int) rs [.int 0] us) ([(lt,.lst vs),(lr,.lst ls)]++L) (O.join OU)
 clear OU
 have hrec:Ji r S.ls.length ds:=by rw [l4];exact hk.dr
 refine ⟨_,rfl,_,rfl,_,rfl,_,rfl,A,Z,H0,_,r,S,_,rs,_,us,[((3:Int),(0:Int),(0:Int))],ds,n,y,st,rfl,⟨ls,vs,O,d0,d1⟩,hR,dP,by decide,dR,by omega,hrec,hk.lic,fun S' hs hf _ lf Hb H4 sb ra=>?_,fun k hw lf H4 OF=>?_⟩
 all_goals refine ⟨fun σ H'=>Iv (∃ (S':RS)(Hb:Hp)(v8 v9 v10 v11 v12:Option V)(us' vs':List V),σ=[some (.ref A.p),some (.ref lv),some (.int n),some (.str y),some (.int st),some (.ref lr),some (.ref lt),some (.ref lu),v8,v9,v10,v11,v12]/\aJ T H0 Hb/\RA K T C A (exB Z) r Hb H' (BL Z (gs.map V.int) rs [.int 0] us++([(lt,.lst vs'),(lr,.lst us')]++L)) S'/\bZ K Hb us' (S'.ls.map yO)/\bZ K Hb vs' (S'.ds.map Jb)/\B7 r S' gs ds (i+1)),?_,?_⟩
 case refine_2.refine_1.refine_2| refine_2.refine_2.refine_2 =>
  clear O
  rintro σ' H' ⟨-,S',Hb,v8,v9,v10,v11,v12,us',vs',rfl,sb,⟨ls2,vs2,O,e0,e1⟩,f0,f1,hk'⟩
  refine ⟨_,rfl,A.p,A.dx,_,rfl,O.get 0,rfl,A.p,A.dx,A.ll,_,ls2,rfl,O.get 0,rfl,O.sq 3,fun l1 h1=>?_⟩
  walk_at "nw"
  refine ⟨_,rfl,.list (S'.ls.map yO),.list (S'.ls.map yO),.list (O.sq 0) (e0.mo O.same),.list (O.sq 12) (f0.mo O.same),(Dr _).ok (by decide),(Dr _).ok (by decide),?_⟩
  rw [if_neg aeR,jm (Dr _)]
  refine ⟨_,rfl,zA ?_⟩
  refine ⟨_,rfl,A.p,A.dx,_,rfl,O.get 1,rfl,A.p,A.dx,A.lo,_,vs2,rfl,O.get 1,rfl,O.sq 6,fun l2 h2=>?_⟩
  walk_at "nw"
  have hsd:=Sh.ad6 hk'.ok
  refine ⟨_,rfl,.list (S'.ds.map Jb),.list (S'.ds.map Jb),.list (O.sq 0) (e1.mo O.same),.list (O.sq 12) (f1.mo O.same),hsd.ok (by decide),hsd.ok (by decide),?_⟩
  rw [if_neg aeR,jm hsd]
  exact q S' Hb _ sb ⟨gs,rs,us,⟨ls2,vs2,O.tail.tail.sub (afy (afy (.cons _ (afv _ _)) _) _),e0,e1⟩,dP.mo sb,dR.mo sb,hk'⟩
 ·obtain ⟨ls2,vs2,O,e0,e1⟩:=ra
  obtain rfl:=aag hs hf hd
  obtain ⟨k,l,rfl,hl,hlc,rfl⟩:=aau hs
  obtain ⟨al,hal,hT⟩:=d0.uy hl
  have hkl:=(aeJ.mp hl).1
  refine ⟨_,rfl,szl,fun l0 h0=>?_⟩
  walk_at "nw"
  refine ⟨.list [],.list [],.list (O.sq 11) .nil,.list (O.sq 0) .nil,mC.ok (by decide),mC.ok (by decide),?_⟩
  rw [if_neg aeR,jm mC]
  refine ⟨_,rfl,zA ?_⟩
  have O:=O.tail
  refine ⟨_,rfl,szl,fun l0 h0=>?_⟩
  walk_at "nw"
  refine ⟨.list [],.list [],.list (O.sq 12) .nil,.list (O.sq 0) .nil,mC.ok (by decide),mC.ok (by decide),?_⟩
  rw [if_neg aeR,jm mC]
  refine ⟨_,rfl,zA ?_⟩
  have O:=O.tail
  refine ⟨_,rfl,_,rfl,lr,_,_,_,rfl,rfl,O.sq 13,d9 hal,al,_,rfl,hT.mo (sb.trans O.same),rfl,_,_,rfl,_,_,rfl,_,_,rfl,_,_,rfl,rfl,?_⟩
  refine ⟨_,rfl,_,rfl,_,rfl,_,rfl,szl,fun t ht=>?_⟩
  walk_at "nw"
  refine ⟨_,rfl,_,rfl,ux O 14 rfl (iJ (by omega)) fun H6 O=>?_⟩
  refine ⟨_,rfl,.inl ⟨rfl,_,O.sq 13⟩,_,rfl,_,rfl,_,rfl,szl,fun t2 ht2=>?_⟩
  walk_at "nw"
  refine ⟨lt,_,_,rfl,rfl,O.get 14,aH (by omega),?_⟩
  generalize hE:upd _ _ _=Hn
  have O:=Ow.yI O 14 rfl hE rfl
  clear hE
  obtain ⟨Hc,O,sc,x1⟩:=O.frz
  obtain ⟨Hd,O,sd,x2⟩:=O.frz
  have sx:=sc.trans sd
  have O:Ow T Hd Hn (RX C A (exB Z) r S.day ls2 S.ns vs2++(BL Z (gs.map V.int) rs [.int 0] us++((lf,.lst [])::(lu,.lst [])::(lt,.lst (vs++[V.ref t2]))::(lr,.lst (ls.set k (V.ref t)))::L))):=O
  refine ⟨trivial,⟨S.day,S.ls.set k (wst l st),S.ns,S.ds++[Kw.move (k:Int) y st]⟩,Hd,_,_,_,_,_,ls.set k (V.ref t),vs++[V.ref t2],rfl,sb.trans sx,⟨ls2,vs2,O.sub (afy (afy (.cons _ (afv _ _)) _) _),e0.mo sx,e1.mo sx⟩,?_,?_,hk.move hlc hy⟩
  ·rw [afD]
   exact (d0.mo (sb.trans sx)).set (Den.lic (l:=wst l st) (SqT.of x2)) k
  ·rw [aeN]
   exact (d1.mo (sb.trans sx)).append (.cons (.tuple ((SqT.of x1).mo sd) (.cons (.str _) (.cons (.int _) (.cons (.str _) (.cons (.int _) .nil))))) .nil)
 have O:=Ow.behind [(lf,.lst (flg k))] (RX C A (exB Z) r S.day ls S.ns vs) (BL Z (gs.map V.int) rs [.int 0] us) ([(lu,.lst (Ez o))]++([(lt,.lst vs),(lr,.lst ls)]++L)) (O.join OF)
 clear OF
 refine ⟨_,rfl,szl,fun l0 h0=>?_⟩
 walk_at "nw"
 refine ⟨.list (dFl (Ez (some k))),.list [],.list (O.sq 11) (vO (some k)),.list (O.sq 0) .nil,(uD _).ok (by decide),mC.ok (by decide),?_⟩
 rw [if_neg aeR,Qd]
 refine ⟨_,rfl,um ?_⟩
 have O:=O.tail
 refine um ?_
 refine ⟨_,rfl,_,rfl,.list (dFl (Ez (some k))),.list (dFl (Ez o)),.list (O.sq 10) (vO (some k)),.list (O.sq 11) (vO o),(uD _).ok (by decide),(uD _).ok (by decide),?_⟩
 rw [if_pos rfl]
 have fin:∀ {H':Hp},aJ T H0 H'->∀ (M:List (Addr × HO)),Ow T H0 H' (RX C A (exB Z) r S.day ls S.ns vs++(BL Z (gs.map V.int) rs [.int 0] us++(M++([(lt,.lst vs),(lr,.lst ls)]++L))))->Iv (∃ (S':RS)(Hb:Hp)(v8 v9 v10 v11 v12:Option V)(us' vs':List V),[some (V.ref A.p),some (.ref lv),some (.int n),some (.str y),some (.int st),some (.ref lr),some (.ref lt),some (.ref lu),some (.ref lf),none,none,none,none]=[some (.ref A.p),some (.ref lv),some (.int n),some (.str y),some (.int st),some (.ref lr),some (.ref lt),some (.ref lu),v8,v9,v10,v11,v12]/\aJ T H0 Hb/\RA K T C A (exB Z) r Hb H' (BL Z (gs.map V.int) rs [.int 0] us++([(lt,.lst vs'),(lr,.lst us')]++L)) S'/\bZ K Hb us' (S'.ls.map yO)/\bZ K Hb vs' (S'.ds.map Jb)/\B7 r S' gs ds (i+1)):=fun s M O=>⟨trivial,S,H0,_,_,_,_,_,ls,vs,rfl,aJ.refl O.same.t0,⟨ls,vs,O.sub (afy (afy (afC _ _) _) _),d0,d1⟩,d0,d1,hk.up⟩
 rcases Zu hw hd with rfl| ⟨rfl,rfl,hne⟩
 ·rw [jm (uD _)]
  exact ⟨_,rfl,um (um (fin O.same [(lf,.lst (flg k)),(lu,.lst (Ez (some k)))] O))⟩
 rw [show PyData.eqv (.list (dFl (Ez (some 4)))) (.list (dFl (Ez none)))=false from Qd (some 4)]
 refine ⟨_,rfl,zA ?_⟩
 refine ⟨_,rfl,szl,fun l0 h0=>?_⟩
 walk_at "nw"
 refine ⟨.list [],.list [],.list (O.sq 12) .nil,.list (O.sq 0) .nil,mC.ok (by decide),mC.ok (by decide),?_⟩
 rw [if_pos rfl,jm mC]
 refine ⟨_,rfl,um ?_⟩
 have O:=O.tail
 refine ⟨_,rfl,4,rfl,by decide,O.same.t1,O.Cv fun l1 H6 ys O e=>?_⟩
 subst e
 refine ⟨.list (dFl (Ez (some 4))),.list (dFl (Ez (some 4))),.list (O.sq 11) (vO (some 4)),.list (O.sq 0) (vO (some 4)),(uD _).ok (by decide),(uD _).ok (by decide),?_⟩
 rw [if_pos rfl,jm (uD _)]
 refine ⟨_,rfl,um ?_⟩
 have O:=O.tail
 have hrl:rs.length=ds.length:=by rw [dR.length,ac5]
 refine ⟨_,rfl,A.p,A.dx,_,rfl,O.get 0,rfl,?_⟩
 dsimp only [S9]
 refine ⟨A,Z,_,rs,ds,rfl,O.get 0,O.sq 7,hrl.symm,by omega,fun k v d hv hd=>?_,O.same.t1,fun l2 ys Hc H7 sc O7 dv=>?_⟩
 ·obtain ⟨d',e,hD⟩:=dR.get' hv
  rw [aeQ,hd] at e
  cases e
  exact acH (Den.BJ O.same hD)
 have O:=O.jq (sc.trans O7.same)
 refine ⟨szl,fun l3 h3=>?_⟩
 have O:=O.jq ((aJ.refl O.same.t1).upd (o':=.lst []) h3 (.inl h3))
 have O7:=O7.mk' h3 (o:=.lst []) rfl
 refine ⟨.list (ds.map zp),.list [],.list (O7.sq 1) (dv.mo O7.same),.list (O7.sq 0) .nil,(ZM _).ok (by decide),mC.ok (by decide),?_⟩
 rw [if_neg aeR,Sd hne]
 exact ⟨_,rfl,um (fin O.same [(lf,.lst (flg 4)),(lu,.lst (Ez none))] O)⟩
theorem adE {a b c d e:Str}{k:Int}(h0:0<=k)(h1:k<5)(ha:Asc a)(hb:Asc b)(hc:Asc c)(hd:Asc d)(he:Asc e):∃ y,atI [V.str a,V.str b,V.str c,V.str d,V.str e] k=some (V.str y)/\Asc y:=by
 rcases (by omega:k=0\/k=1\/k=2\/k=3\/k=4) with z| z| z| z| z <;>subst z
 ·exact ⟨a,rfl,ha⟩
 ·exact ⟨b,rfl,hb⟩
 ·exact ⟨c,rfl,hc⟩
 ·exact ⟨d,rfl,hd⟩
 ·exact ⟨e,rfl,he⟩
theorem abo (ns:List Int){k:Int}(h0:0<=k)(h1:k<ns.length):∃ y,atI (ns.map V.int) k=some (V.int y):=⟨_,iz h0 h1⟩
theorem zq:Asc "elder"/\Asc "young"/\Asc "mill"/\Asc "pond"/\Asc "nobody":=⟨⟨by decide+kernel,by decide+kernel⟩,⟨by decide+kernel,by decide+kernel⟩,⟨by decide+kernel,by decide+kernel⟩,⟨by decide+kernel,by decide+kernel⟩,⟨by decide+kernel,by decide+kernel⟩⟩
abbrev oF:Stmt:=top 93
theorem dN:aD ["book","river","cell","xs","number","holder","start"] ["book","river","cell"] (ao oF):=by walk_at "sc"
inductive Te (K:PySem.W.Frag)(T:dX)(C:Addr)(vs:List V)(H:Hp)(Q:VK)(E:XK):Prop
 | mk (A:Rs)(Z:Bx)(H0:Hp)(B:List (Addr × HO))(r:List Int)(S:RS)(ds:List (List Int × List Int))(i:Nat)(lv:Addr)(cell:Int)(_:vs=[.ref A.p,.ref lv,.int cell])(_:BA7 K T C A Z r H0 H B S ds i)(_:i<=100)(_:(lv,HO.lst (r.map V.int))∈B)(_:∀ (S':RS)(Hb H':Hp),aJ T H0 Hb->BA7 K T C A Z r Hb H' B S' ds (i+1)->Q (.bl true) H')
variable (jK:(CX0|||2) m9 nu ["cell","many"] Mt)
variable (yW:(CX0|||12) rJ sJ ["book","river","number","holder","start"] (Tg K T C))
variable {oY:Addr}{pB:FuncData}(dJ:Df K mg "_law_wished" oF ["book","river","cell"] oY pB)
include bM bC aU jL gV jK yW dJ in
theorem abt (B:Blt mg):(CX0|||13) oY pB ["book","river","cell"] (Te K T C):=by
 refine dJ.F.ok dN ?_ ?_
 walk_at "i"
 obtain ⟨A,Z,H0,L,r,S,ds,i,lv,cell,rfl,⟨gs,rs,us,⟨ls,vs,O,d0,d1⟩,dP,dR,hk⟩,hi,mV,q⟩:=h
 have hnn:=hk.nn
 have r3:=hk.r3
 have hml:(((r.map V.int).length:Nat):Int)=(r.length:Int):=by rw [ac5]
 have e60:(0:Int)<10 ^ (60:Int).toNat:=by decide
 refine ⟨_,(3<$>dN<$>(bM<*jK<*(pv 2>=>au>=>ak))<|>4<$>dN<$>(@bD _ _ _ _ _ _ _ aM (@bF _ _ _ _ (au>=>au>=>au>=>au>=>@xP _ _ _ _ _ _ nF au>=>au>=>@bA _ _ _ _ _ _ _ _ pW au (@bA _ _ _ _ _ _ _ _ ji (pv 2) (@bA _ _ _ _ _ _ _ _ Cm au au))>=>au>=>ak)) (@bA _ _ _ _ _ _ _ _ ji (@bD _ _ _ _ _ _ _ aM (pv 3) au (fun _ _=>rfl)) au) (fun _ _=>rfl))<|>5<$>dN<$>(@bD _ _ _ _ _ _ _ aM (@bF _ _ _ _ (cO>=>cO>=>cO>=>cO>=>cO>=>ak)) (@bA _ _ _ _ _ _ _ _ ji (@bD _ _ _ _ _ _ _ aM (pv 3) au (fun _ _=>rfl)) au) (fun _ _=>rfl))<|>(wz (@eO _ _ _ _ _ _ _ _ (PW.pt (pw_and (aQ Q8 (@bA _ _ _ _ _ _ _ _ ji (@bA _ _ _ _ _ _ _ _ xR (@bD _ _ _ _ _ _ _ aM (pv 3) au (fun _ _=>rfl)) au) au) au (bx _)) (pw_and1 (tV wB Ed au (pv 4) au))))
   (~~~(5<$>dN<$>(@bD _ _ _ _ _ _ _ aM (gb (pv 0) aU.c bC.m jL hr.m bC.b .nil oO) (pv 4) (fun _ _=>rfl))))
   aX)
  (6<$>dN<$>(@bA _ _ _ _ _ _ _ _ ji (@bD _ _ _ _ _ _ _ aM (pv 3) au (fun _ _=>rfl)) (aB aC rfl B.len aeZ (pv 1>=>ak)))<|>(wz (@eO _ _ _ _ _ _ _ _ (aQ Ef (@bA _ _ _ _ _ _ _ _ ji (@bD _ _ _ _ _ _ _ aM (pv 3) au (fun _ _=>rfl)) au) au (bx _))
   (~~~(6<$>dN<$>(@bD _ _ _ _ _ _ _ aM (@bF _ _ _ _ (@xP _ _ _ _ _ _ nF au>=>@bA _ _ _ _ _ _ _ _ wA (@xP _ _ _ _ _ _ nF au) (@bA _ _ _ _ _ _ _ _ ji (pv 2) (@bA _ _ _ _ _ _ _ _ Cm au au))>=>aB aC rfl B.len aeZ (pv 1>=>ak)>=>@bA _ _ _ _ _ _ _ _ pW (aB aC rfl B.len aeZ (pv 1>=>ak)) (@bA _ _ _ _ _ _ _ _ ji (pv 2) (@bA _ _ _ _ _ _ _ _ Cm au au))>=>ak)) (@bA _ _ _ _ _ _ _ _ ji (@bA _ _ _ _ _ _ _ _ xR (@bD _ _ _ _ _ _ _ aM (pv 3) au (fun _ _=>rfl)) au) au) (fun _ _=>rfl))))
   aX)
  (~~~(@aL _ _ _ _ (gV<*yW<*(pv 0>=>pv 1>=>pv 4>=>pv 5>=>pv 6>=>ak)))))))),?_⟩
 have tk:=O.same.t1
 refine ⟨_,rfl,_,_,rfl,by decide,by decide,(Ow.refl tk).got fun lx H1 xs OX e=>?_⟩
 subst e
 have OA:=O
 have O:=OX
 clear OX
 have g0:∀ k:Nat,k<4->(K6 cell 4)[k]?=some ((K6 cell 4).getD k 0):=fun k hk=>gG (by rw [DQ];exact hk)
 have hpx:(K6 cell (4:Int).toNat)=K6 cell 4:=rfl
 rw [hpx] at O
 generalize K6 cell 4=xs at O g0
 refine ⟨1,rfl,_,rfl,_,_,rfl,rfl,⟨by decide,by decide,by decide⟩,_,_,rfl,rfl,e60,_,_,rfl,rfl,szl,fun l1 h1=>?_⟩
 walk_at "nw"
 obtain ⟨num,hnum⟩:=abo [0,1,2,3,-1,4,4+cell % 10 ^ (60:Int).toNat,2] (k:=xs.getD 0 0 % 8) (af3 _ (by decide)) (afY _ (by decide))
 refine ⟨_,rfl,lx,_,0,_,rfl,rfl,O.sq 1,bV (i:=0) (g0 0 (by decide)),_,_,rfl,rfl,(by show (0:Int)<8;decide),l1,_,_,_,rfl,rfl,O.sq 0,hnum,?_⟩
 have O:=O.tail
 obtain ⟨y,hy,hya⟩:=adE (k:=xs.getD 1 0 % 5) (af3 _ (by decide)) (afY _ (by decide)) zq.1 zq.2.1 zq.2.2.1 zq.2.2.2.1 zq.2.2.2.2
 refine ⟨szl,fun l2 h2=>?_⟩
 walk_at "nw"
 refine ⟨_,rfl,lx,_,1,_,rfl,rfl,O.sq 1,bV (i:=1) (g0 1 (by decide)),_,_,rfl,rfl,(by show (0:Int)<5;decide),l2,_,_,_,rfl,rfl,O.sq 0,hy,?_⟩
 have O:=O.tail
 refine ⟨fun σ H'=>Iv (∃ y:Str,σ=[some (.ref A.p),some (.ref lv),some (.int cell),some (.ref lx),some (.int num),some (.str y),none]/\Asc y/\Ow T H H' [(lx,.lst (xs.map V.int))]),?_,?_⟩
 ·refine ⟨_,rfl,lx,_,1,_,rfl,rfl,O.sq 0,bV (i:=1) (g0 1 (by decide)),_,_,rfl,rfl,⟨by decide,by decide⟩,_,_,rfl,rfl,(by show (0:Int)<4;decide),_,_,rfl,rfl,_,rfl,ifD (fun _=>?_) (fun _=>um ⟨trivial,y,rfl,hya,O⟩)⟩
  refine ⟨_,rfl,_,_,rfl,rfl,_,rfl,ifD (fun n0=>?_) (fun _=>⟨_,rfl,um ⟨trivial,y,rfl,hya,O⟩⟩)⟩
  refine ⟨_,_,rfl,rfl,_,rfl,ifD (fun n1=>?_) (fun _=>⟨trivial,y,rfl,hya,O⟩)⟩
  have n0:0<=num:=n0
  have n1:num<4:=n1
  obtain ⟨k,rfl⟩:=ae9 n0
  obtain ⟨x,hx⟩:∃ x,S.ns[k]?=some x:=⟨_,aeD (by omega)⟩
  refine ⟨_,rfl,A.p,A.dx,_,rfl,(OA.jq O.same).get 0,rfl,A.p,A.dx,A.ln,_,_,rfl,(OA.jq O.same).get 0,rfl,(OA.jq O.same).sq 4,fun ln hln=>?_⟩
  walk_at "nw"
  refine ⟨_,rfl,ln,_,_,_,rfl,rfl,O.sq 0,d9 (v:=.str x) (by rw [aeQ,hx];rfl),?_⟩
  exact ⟨trivial,x,rfl,hk.na x (aeO hx),O.tail⟩
 clear O hya hy y
 rintro σ H2 ⟨-,y,rfl,hy,O⟩
 have hV:∀ {H'},aJ T H H'->SqL K H' lv (r.map V.int):=fun s=>SqL.of ((OA.jq s).at_ _ (aeK _ (aeK _ mV)))
 refine ⟨_,rfl,lx,_,2,_,rfl,rfl,O.sq 0,bV (i:=2) (g0 2 (by decide)),_,rfl,lv,_,rfl,.inl (hV O.same),_,_,rfl,rfl,(by rw [hml];omega),?_⟩
 refine ⟨fun σ H'=>Iv (∃ st:Int,σ=[some (.ref A.p),some (.ref lv),some (.int cell),some (.ref lx),some (.int num),some (.str y),some (.int st)]/\Ow T H H' [(lx,.lst (xs.map V.int))]),?_,?_⟩
 ·refine ⟨_,rfl,lx,_,3,_,rfl,rfl,O.sq 0,bV (i:=3) (g0 3 (by decide)),_,_,rfl,rfl,(by show (0:Int)<5;decide),rfl,_,rfl,ifI (fun _=>?_) (fun _=>⟨trivial,_,rfl,O⟩)⟩
  refine ⟨1,rfl,1,rfl,_,rfl,_,_,rfl,rfl,⟨by decide,by decide,by decide⟩,_,_,rfl,rfl,e60,_,_,rfl,rfl,_,rfl,lv,_,rfl,.inl (hV O.same),_,rfl,lv,_,rfl,.inl (hV O.same),_,rfl,_,_,rfl,rfl,⟨by decide,by decide,by decide⟩,_,_,rfl,rfl,e60,_,_,rfl,rfl,szl,fun l3 h3=>?_⟩
  walk_at "nw"
  obtain ⟨st,hst⟩:=abo [-1,-1 - cell % 10 ^ (60:Int).toNat,(((r.map V.int).length:Nat):Int),(((r.map V.int).length:Nat):Int)+cell % 10 ^ (60:Int).toNat] (k:=xs.getD 3 0 / 5 % 4) (af3 _ (by decide)) (afY _ (by decide))
  refine ⟨_,rfl,lx,_,3,_,rfl,rfl,O.sq 1,bV (i:=3) (g0 3 (by decide)),_,_,rfl,rfl,⟨by decide,by decide⟩,_,_,rfl,rfl,(by show (0:Int)<4;decide),l3,_,_,_,rfl,rfl,O.sq 0,hst,?_⟩
  exact ⟨trivial,st,rfl,O.tail⟩
 clear O
 rintro σ H3 ⟨-,st,rfl,O⟩
 exact ⟨_,rfl,_,rfl,_,rfl,_,rfl,_,rfl,A,Z,H0,L,r,S,ds,i,lv,num,y,st,rfl,⟨gs,rs,us,⟨ls,vs,OA.jq O.same,d0,d1⟩,dP,dR,hk⟩,hi,mV,hy,q⟩
theorem nm4:sZ "elder"/\sZ "young"/\sZ "mill"/\sZ "pond":=⟨⟨by decide+kernel,by decide+kernel,by decide+kernel⟩,⟨by decide+kernel,by decide+kernel,by decide+kernel⟩,⟨by decide+kernel,by decide+kernel,by decide+kernel⟩,⟨by decide+kernel,by decide+kernel,by decide+kernel⟩⟩
theorem zE {x:Str}{s m b:Int}(hx:sZ x)(hl:p8 r ⟨S.day,s,b,m⟩)(hm:m≠0)(h6:S.ls.length<60):step r S (.file x s m b)=.ok ⟨S.day,S.ls++[⟨S.day,s,b,m⟩],S.ns++[x],S.ds++[.file x s m b]⟩:=by
 simp only [step];rw [if_neg (not_not_intro hx),if_neg (fun z=>z.elim hm fun z=>z hl),if_neg (by omega)]
theorem Ck {rk:Nat->Nat}(h3:∀ (i:Nat)(x:Int),r[i]?=some x->x=-1\/(0<=x/\x<r.length/\rk x.toNat<rk i)):∀ (f:Nat)(p:Int),0<=p->p<r.length->rk p.toNat<f->Rv.xg r f p=-1
 | 0,p,_,_,h=>absurd h (agv _)
 | f+1,p,h0,h1,h=>by
  show Rv.xg r f (Rv.stp r p)=-1;unfold Rv.stp;rw [if_neg (by omega)];rcases h3 _ _ (Rv.jz h0 h1) with e| ⟨a,b,c⟩
  ·rw [e];exact Rv.Jv r f
  ·exact Ck h3 f _ a b (by omega)
theorem Nj (hR:Rv.iG r)(h1:1<=r.length)(h2:r.length<=40):Rv.isR r=true:=by
 obtain ⟨rk,k1,k2⟩:=hR;have hB:Rv.inB r:=fun x hx=>by
  obtain ⟨i,hi⟩:=List.getElem?_of_mem hx;rcases k2 i x hi with e| ⟨a,b,_⟩<;>omega
 unfold Rv.isR;rw [decide_eq_true (⟨h1,h2⟩:1<=r.length/\r.length<=40),decide_eq_true hB,decide_eq_true (fun i hi=>Ck k2 _ _ (by omega) (by omega) (by rw [aeT];exact k1 i hi))];rfl
theorem rp7 (hr:Rv.iG r)(r12:r.length<=12)(h:S.ns.length=S.ls.length)(h4:S.ls.length<=60)(hd:S.ds.length<=9000)(Z:Bx):RP r (exB Z) S:=⟨hr,by omega,h,h4,hd,(show (5:Nat)<=100 by decide),Kd Z⟩
theorem qR {ds:List Kw}{d:Kw}(h:∀ d∈ds,yZ d)(hd:yZ d):∀ x∈ds++[d],yZ x:=fun x hx=>(afa.mp hx).elim (h x) (fun z=>by rw [afl.mp z];exact hd)
abbrev uN:Stmt:=top 94
theorem yF:aD ["river","places","most","later","book"] ["river","places","most","later"] (ao uN):=by walk_at "sc"
inductive T4 (K:PySem.W.Frag)(T:dX)(C:Addr)(vs:List V)(H:Hp)(Q:VK)(E:XK):Prop
 | mk (H0:Hp)(B:List (Addr × HO))(lv lp:Addr)(r pl:List Int)(p0 p1 p2 most:Int)(lat:Bool)(_:vs=[.ref lv,.ref lp,.int most,.bl lat])(_:Ow T H0 H B)(_:(lv,HO.lst (r.map V.int))∈B)(_:(lp,HO.lst (pl.map V.int))∈B)(_:pl[0]?=some p0)(_:pl[1]?=some p1)(_:pl[2]?=some p2)(_:Y3 r p0 p1 p2)(_:3<=r.length)(_:r.length<=12)(_:1<=most)(_:most<=1000000000000)(_:∀ (A:Rs)(Z:Bx)(Hb H':Hp)(S:RS),aJ T H0 Hb->BA7 K T C A Z r Hb H' B S [] 10->S.ls=Y3.sevq p0 p1 p2 most (if lat=true then 1 else 0) p1->S.ns[0]?=some ("elder":Str)->Q (.ref A.p) H')
variable (tH:((CXE P w)|||4) jl lK ["self","below"] (JL K T C c))
variable (lQ:((CXE P w)|||3) vo vL ["self","holder","start","most","back"] (MK K T C c))
variable (Bt:((CXE P w)|||3) vp vM ["self","number","holder","room","leak"] (Ms K T C c cP))
variable (Br:((CXE P w)|||3) vg vI ["self","number","holder","to"] (Mp K T C c))
variable {vd:Addr}{vG:FuncData}(fC:Df K mg "_law_book" uN ["river","places","most","later"] vd vG)
include cJ aU gW bQ cA ig pQ tH lQ Bt Br fC in
theorem abP (B:Blt mg)(dW:Cl K mg "Book" C jl SQ):(CX0|||6) vd vG ["river","places","most","later"] (T4 K T C):=by
 obtain ⟨tz,Fz,zb_Book_pond⟩:=ig.F
 refine fC.F.ok yF ?_ ?_
 walk_at "i"
 obtain ⟨H0,L,lv,lp,r,pl,p0,p1,p2,most,lat,rfl,O,mV,mP,e0,e1,e2,hY,r3,r12,m1,m2,q⟩:=h
 refine ⟨_,(4<$>yF<$>(Z0 dW.k tH hr.m rfl dW.m cA.b .nil Ea (bW bf rfl B.list afe (pv 0>=>ak)>=>ak))<|>aR (fQ (pv 4) aU.c bQ.m lQ hr.m bQ.b1 (.cons (show RelV .non Value.none from rfl) .nil) Ea (cO>=>@bD _ _ _ _ _ _ _ aM (pv 1) au (fun _ _=>rfl)>=>pv 2>=>ak))<|>(wz (@eO _ _ _ _ _ _ _ _ (j7 (pv 3))
   (~~~(aR (gb (pv 4) aU.c cJ.m pQ hr.m cJ.b .nil oO)))
   aX)
  (aR (fQ (pv 4) aU.c bQ.m lQ hr.m bQ.b0 .nil Ea (cO>=>@bD _ _ _ _ _ _ _ aM (pv 1) au (fun _ _=>rfl)>=>pv 2>=>@xP _ _ _ _ _ _ nF au>=>ak))<|>aR (fQ (pv 4) aU.c bQ.m lQ hr.m bQ.b0 .nil Ea (cO>=>@bD _ _ _ _ _ _ _ aM (pv 1) au (fun _ _=>rfl)>=>pv 2>=>@bD _ _ _ _ _ _ _ aM (pv 1) au (fun _ _=>rfl)>=>ak))<|>aR (fQ (pv 4) aU.c bQ.m lQ hr.m bQ.b1 (.cons (show RelV .non Value.none from rfl) .nil) Ea (cO>=>@bD _ _ _ _ _ _ _ aM (pv 1) au (fun _ _=>rfl)>=>pv 2>=>ak))<|>aR (fQ (pv 4) dW.c ig.m Bt hr.m zb_Book_pond (.cons (show RelV (.int 0) _ from ⟨_,rfl⟩) .nil) Ea (au>=>cO>=>au>=>ak))<|>@eO _ _ _ _ _ _ _ _ (aQ Ef (@bA _ _ _ _ _ _ _ _ ji (pv 2) au) au (bx _))
   (~~~(aR (fQ (pv 4) aU.c gW.m Br hr.m gW.b .nil Ea (au>=>cO>=>cO>=>ak))))
   aX<|>(~~~(@aL _ _ _ _ (pv 4)))))),?_⟩
 have hIR:=Nj hY.rv (by omega) (by omega)
 have hV:∀ {Hb H':Hp}{X:List (Addr × HO)},Ow T Hb H' (X++L)->SqL K H' lv (r.map V.int):=fun O=>SqL.of (O.at_ _ (aeK _ mV))
 have hP:∀ {Hb H':Hp}{X:List (Addr × HO)},Ow T Hb H' (X++L)->SqL K H' lp (pl.map V.int):=fun O=>SqL.of (O.at_ _ (aeK _ mP))
 refine ⟨_,rfl,lv,_,rfl,.inl (hV (X:=[]) O),fun lb hlb=>?_⟩
 walk_at "nw"
 intro x dx nx ndx nex
 have O:=(O.mk' ndx (o:=.own x) rfl).mk' (a:=x) (o:=.ins C dx []) (by rw [aN nex.symm];exact nx) rfl
 refine ⟨x,dx,lb,H0,_,r,rfl,O,O.sq 2,by omega,fun _ A Z H5 eA eZ O5=>⟨rfl,?_⟩,fun z=>by rw [hIR] at z;cases z⟩
 subst eA
 clear O nx ndx nex
 have O:Ow T H0 H5 (RX C A (exB Z) r 0 [] [] []++(BL Z [] [] [] []++L)):=O5.sub (afy (afy (afv _ _) _) _)
 clear O5
 have P1:∀ {Hb H':Hp}{ex:List (Str × V)}{d:Int}{a b:List V}{n:List Str}{g1 g2 g3 g4:List V},Ow T Hb H' (RX C A ex r d a n b++(BL Z g1 g2 g3 g4++L))->SqL K H' lp (pl.map V.int):=fun O=>SqL.of (O.at_ _ (aeK _ (aeK _ mP)))
 have lic:∀ (d s b:Int),0<=d->d<=1->(s=p1\/s=p2)->(b=-1\/(s=p1/\b=p0))->p8 r ⟨d,s,b,most⟩:=fun d s b d0 d1 hs hb=>by
  have a1:=hY.a1
  have a2:=hY.a2
  refine ⟨⟨d0,by show d<=1000000;omega,?_,?_,by show 0<=most;omega,m2⟩,?_⟩
  ·rcases hs with rfl| rfl
   ·exact a1.1
   ·exact a2.1
  ·rcases hs with rfl| rfl
   ·exact a1.2
   ·exact a2.2
  ·rcases hb with rfl| ⟨rfl,rfl⟩
   ·exact .inl rfl
   ·right
    show b∈(Rv.walk r s).drop 1
    rw [hY.w1];exact .head _
 have ra0:RA K T C A (exB Z) r H0 H5 (BL Z [] [] [] []++L) ⟨0,[],[],[]⟩:=⟨[],[],O,.nil,.nil⟩
 have hs1:=zE (r:=r) (S:=⟨0,[],[],[]⟩) nm4.1 (lic 0 p1 (-1) (by decide) (by decide) (.inl rfl) (.inl rfl)) (by omega) (by simp)
 refine ⟨_,rfl,A.p,A.dx,_,rfl,O.get 0,rfl,_,rfl,lp,_,1,_,rfl,rfl,P1 O,bV (i:=1) e1,_,rfl,A,exB Z,H0,_,r,⟨0,[],[],[]⟩,"elder",p1,most,-1,.non,rfl,.inl ⟨rfl,rfl⟩,ra0,rp7 hY.rv r12 rfl (by decide) (by decide) Z,zq.1,fun S1 h1 Hb1 H1 sb1 ra1=>?_,fun k e=>by rw [hs1] at e;cases e⟩
 rw [hs1] at h1
 cases h1
 clear O
 obtain ⟨ls1,vs1,O,c0,c1⟩:=id ra1
 refine ⟨fun σ H'=>Iv (∃ (Hb:Hp)(ds:List Kw),σ=[some (.ref lv),some (.ref lp),some (.int most),some (.bl lat),some (.ref A.p)]/\aJ T H0 Hb/\RA K T C A (exB Z) r Hb H' (BL Z [] [] [] []++L) ⟨if lat=true then 1 else 0,[⟨0,p1,-1,most⟩],["elder"],ds⟩/\ds.length<=2/\∀ d∈ds,yZ d),?_,?_⟩
 ·refine ⟨_,rfl,_,rfl,?_⟩
  cases lat with
  | true =>
   refine zA ⟨_,rfl,A.p,A.dx,_,rfl,O.get 0,rfl,A,exB Z,Hb1,_,r,_,rfl,ra1,rp7 hY.rv r12 rfl (by simp) (by simp) Z,fun S2 h2 Hb2 H2 sb2 ra2=>?_,fun k e=>nomatch e⟩
   cases h2
   exact ⟨trivial,Hb2,_,rfl,sb1.trans sb2,ra2,by simp,qR (qR (fun d hd=>nomatch hd) zq.1) trivial⟩
  | false=>exact um ⟨trivial,Hb1,_,rfl,sb1,ra1,by simp,qR (fun d hd=>nomatch hd) zq.1⟩
 clear O c0 c1 ls1 vs1 ra1 sb1 ra0 hs1 Hb1
 rintro σ H1 ⟨-,Hb1,ds,rfl,sb1,ra1,hds,hdk⟩
 have dd0:0<=(if lat=true then (1:Int) else 0)/\(if lat=true then (1:Int) else 0)<=1:=by split <;>decide
 generalize (if lat=true then (1:Int) else 0)=dd at ra1 dd0 q
 obtain ⟨ls1,vs1,O,c0,c1⟩:=id ra1
 have hs2:=zE (r:=r) (S:=⟨dd,[⟨0,p1,-1,most⟩],["elder"],ds⟩) nm4.2.1 (lic dd p2 (-1) dd0.1 dd0.2 (.inr rfl) (.inl rfl)) (by omega) (by simp)
 refine ⟨_,rfl,A.p,A.dx,_,rfl,O.get 0,rfl,_,rfl,lp,_,2,_,rfl,rfl,P1 O,bV (i:=2) e2,_,rfl,1,rfl,A,exB Z,Hb1,_,r,⟨dd,[⟨0,p1,-1,most⟩],["elder"],ds⟩,"young",p2,most,-1,.int (-1),rfl,.inr rfl,ra1,rp7 hY.rv r12 rfl (by simp) (by show ds.length<=9000;omega) Z,zq.2.1,fun S2 h2 Hb2 H2 sb2 ra2=>?_,fun k e=>by rw [hs2] at e;cases e⟩
 rw [hs2] at h2
 cases h2
 clear O
 obtain ⟨ls2,vs2,O,c0,c1⟩:=id ra2
 have hs3:=zE (r:=r) (S:=⟨dd,[⟨0,p1,-1,most⟩]++[⟨dd,p2,-1,most⟩],[("elder":Str)]++[("young":Str)],ds++[.file "young" p2 most (-1)]⟩) nm4.2.2.1 (lic dd p1 p0 dd0.1 dd0.2 (.inl rfl) (.inr ⟨rfl,rfl⟩)) (by omega) (by simp)
 refine ⟨_,rfl,A.p,A.dx,_,rfl,O.get 0,rfl,_,rfl,lp,_,1,_,rfl,rfl,P1 O,bV (i:=1) e1,_,rfl,_,rfl,lp,_,0,_,rfl,rfl,P1 O,bV (i:=0) e0,A,exB Z,Hb2,_,r,⟨dd,[⟨0,p1,-1,most⟩]++[⟨dd,p2,-1,most⟩],[("elder":Str)]++[("young":Str)],ds++[.file "young" p2 most (-1)]⟩,"mill",p1,most,p0,.int p0,rfl,.inr rfl,ra2,rp7 hY.rv r12 rfl (by simp) (by simp;omega) Z,zq.2.2.1,fun S3 h3 Hb3 H3 sb3 ra3=>?_,fun k e=>by rw [hs3] at e;cases e⟩
 rw [hs3] at h3
 cases h3
 clear O
 obtain ⟨ls3,vs3,O,c0,c1⟩:=id ra3
 have hs4:=zE (r:=r) (S:=⟨dd,[⟨0,p1,-1,most⟩]++[⟨dd,p2,-1,most⟩]++[⟨dd,p1,p0,most⟩],[("elder":Str)]++[("young":Str)]++[("mill":Str)],ds++[.file "young" p2 most (-1)]++[.file "mill" p1 most p0]⟩) nm4.2.2.2 (lic dd p2 (-1) dd0.1 dd0.2 (.inr rfl) (.inl rfl)) (by omega) (by simp)
 refine ⟨_,rfl,A.p,A.dx,_,rfl,O.get 0,rfl,_,rfl,lp,_,2,_,rfl,rfl,P1 O,bV (i:=2) e2,_,rfl,A,exB Z,Hb3,_,r,⟨dd,[⟨0,p1,-1,most⟩]++[⟨dd,p2,-1,most⟩]++[⟨dd,p1,p0,most⟩],[("elder":Str)]++[("young":Str)]++[("mill":Str)],ds++[.file "young" p2 most (-1)]++[.file "mill" p1 most p0]⟩,"pond",p2,most,-1,.non,rfl,.inl ⟨rfl,rfl⟩,ra3,rp7 hY.rv r12 rfl (by simp) (by simp;omega) Z,zq.2.2.2.1,fun S4 h4 Hb4 H4 sb4 ra4=>?_,fun k e=>by rw [hs4] at e;cases e⟩
 rw [hs4] at h4
 cases h4
 clear O
 obtain ⟨ls4,vs4,O,c0,c1⟩:=id ra4
 have hdo:∀ d∈ds++[Kw.file "young" p2 most (-1)]++[.file "mill" p1 most p0]++[.file "pond" p2 most (-1)],yZ d:=qR (qR (qR hdk zq.2.1) zq.2.2.1) zq.2.2.2.1
 have hlo:∀ l∈[⟨0,p1,-1,most⟩]++[⟨dd,p2,-1,most⟩]++[⟨dd,p1,p0,most⟩]++[(⟨dd,p2,-1,most⟩:Lic)],p8 r l:=fun l hl=>by
  simp only [afa,afl] at hl
  rcases hl with ((rfl| rfl) | rfl) | rfl
  ·exact lic 0 p1 (-1) (by decide) (by decide) (.inl rfl) (.inl rfl)
  ·exact lic dd p2 (-1) dd0.1 dd0.2 (.inr rfl) (.inl rfl)
  ·exact lic dd p1 p0 dd0.1 dd0.2 (.inl rfl) (.inr ⟨rfl,rfl⟩)
  ·exact lic dd p2 (-1) dd0.1 dd0.2 (.inr rfl) (.inl rfl)
 have rp4:RP r (exB Z) ⟨dd,[⟨0,p1,-1,most⟩]++[⟨dd,p2,-1,most⟩]++[⟨dd,p1,p0,most⟩]++[⟨dd,p2,-1,most⟩],[("elder":Str)]++[("young":Str)]++[("mill":Str)]++[("pond":Str)],ds++[.file "young" p2 most (-1)]++[.file "mill" p1 most p0]++[.file "pond" p2 most (-1)]⟩:=rp7 hY.rv r12 rfl (by simp) (by simp;omega) Z
 have hpd:DP ⟨dd,[⟨0,p1,-1,most⟩]++[⟨dd,p2,-1,most⟩]++[⟨dd,p1,p0,most⟩]++[⟨dd,p2,-1,most⟩],[("elder":Str)]++[("young":Str)]++[("mill":Str)]++[("pond":Str)],ds++[.file "young" p2 most (-1)]++[.file "mill" p1 most p0]++[.file "pond" p2 most (-1)]⟩ [] 3 "pond" 0 0=none:=by
  unfold DP
  rw [if_neg (by simp),if_neg (by simp),if_neg]
  rintro (z| z| z| z)
  ·exact z rfl
  ·cases z
  ·simp at z
  ·exact z ⟨by decide,by decide,by decide,by decide⟩
 refine ⟨_,rfl,A.p,A.dx,_,rfl,O.get 0,rfl,A,Z,Hb4,_,r,_,_,[],_,[],[],3,"pond",0,0,rfl,ra4,rp4,.nil,by decide,by decide,fun _ t Hb5 H6 sb5 ra5 dP5=>?_,fun k e=>by rw [hpd] at e;cases e⟩
 clear O
 obtain ⟨ls5,vs5,O,c0,c1⟩:=id ra5
 have sb:=(((sb1.trans sb2).trans sb3).trans sb4).trans sb5
 refine ⟨_,rfl,_,_,rfl,rfl,(by show (0:Int)<2;decide),rfl,_,rfl,ifI (fun _=>?_) (fun _=>?_)⟩
 ·have hsl:step r ⟨dd,[⟨0,p1,-1,most⟩]++[⟨dd,p2,-1,most⟩]++[⟨dd,p1,p0,most⟩]++[⟨dd,p2,-1,most⟩],[("elder":Str)]++[("young":Str)]++[("mill":Str)]++[("pond":Str)],ds++[.file "young" p2 most (-1)]++[.file "mill" p1 most p0]++[.file "pond" p2 most (-1)]⟩ (.sell 3 "pond" "young")=.ok ⟨dd,[⟨0,p1,-1,most⟩]++[⟨dd,p2,-1,most⟩]++[⟨dd,p1,p0,most⟩]++[⟨dd,p2,-1,most⟩],[("elder":Str),"young","mill","young"],ds++[.file "young" p2 most (-1)]++[.file "mill" p1 most p0]++[.file "pond" p2 most (-1)]++[.sell 3 "pond" "young"]⟩:=by
   simp only [step]
   rw [Bd (by decide) (by simp) rfl,if_neg (not_not_intro nm4.2.1)]
   rfl
  refine ⟨_,rfl,A.p,A.dx,_,rfl,O.get 0,rfl,A,exB Z,Hb5,_,r,_,3,"pond","young",rfl,ra5,rp4,zq.2.1,fun S6 h6 Hb6 H7 sb6 ra6=>?_,fun k e=>by rw [hsl] at e;cases e⟩
  rw [hsl] at h6
  cases h6
  refine ⟨_,rfl,q A Z Hb6 H7 _ (sb.trans sb6) ⟨[],[],_,ra6,dP5.mo sb6,.nil,⟨hY.rv,r3,r12,rfl,fun x hx=>?_,rfl,hlo,by simp;omega,qR hdo ⟨zq.2.2.2.1,zq.2.1⟩,by decide,by decide,(fun d hd=>nomatch hd)⟩⟩ rfl rfl⟩
  simp only [aeS,ae8,or_false] at hx
  rcases hx with rfl| rfl| rfl| rfl
  ·exact zq.1
  ·exact zq.2.1
  ·exact zq.2.2.1
  ·exact zq.2.1
 ·refine ⟨_,rfl,q A Z Hb5 H6 _ sb ⟨[],[],_,ra5,dP5,.nil,⟨hY.rv,r3,r12,rfl,fun x hx=>?_,rfl,hlo,by simp;omega,hdo,by decide,by decide,(fun d hd=>nomatch hd)⟩⟩ rfl rfl⟩
  simp only [afa,afl] at hx
  rcases hx with ((rfl| rfl) | rfl) | rfl
  ·exact zq.1
  ·exact zq.2.1
  ·exact zq.2.2.1
  ·exact zq.2.2.2.1
theorem ad8 {Pr:Nat->Addr->Prop}{a0 a1 a2 a3 a4:Addr}(h0:Pr 0 a0)(h1:Pr 1 a1)(h2:Pr 2 a2)(h3:Pr 3 a3)(h4:Pr 4 a4):∀ (k:Nat)(a:Addr),[a0,a1,a2,a3,a4][k]?=some a->Pr k a
 | 0,_,h=>by cases h;exact h0
 | 1,_,h=>by cases h;exact h1
 | 2,_,h=>by cases h;exact h2
 | 3,_,h=>by cases h;exact h3
 | 4,_,h=>by cases h;exact h4
 | k+5,_,h=>by simp at h
theorem adS {rows cols:List Addr}{n m:Nat}(h:rows.map (fun a=>cols.map (fun b=>kitOne K (.ref a) (.ref b)))=(List.range n).map fun i=>(List.range m).map fun j=>some (decide (j=i)))(i j:Nat)(a b:Addr)(ha:rows[i]?=some a)(hb:cols[j]?=some b):kitOne K (.ref a) (.ref b)=some (decide (j=i)):=by
 have h1:=congrArg (fun l=>l[i]?) h;simp only [aeQ,ha,Option.map_some] at h1;by_cases hi:i<n
 ·rw [afN hi,Option.map_some] at h1;have h2:=congrArg (fun l=>l[j]?) (aeY h1);simp only [aeQ,hb,Option.map_some] at h2;by_cases hj:j<m
  ·rw [afN hj,Option.map_some] at h2;exact aeY h2
  ·rw [afu (by rw [afz];omega)] at h2;cases h2
 ·rw [afu (by rw [afz];omega)] at h1;cases h1
theorem BA7.pack (h:BA7 K T C A Z r H0 H B S ds i):∃ M,Ow T H0 H (M++B)/\∀ Hb H' B',aJ T H0 Hb->Ow T Hb H' (M++B')->BA7 K T C A Z r Hb H' B' S ds i:=by
 obtain ⟨gs,rs,us,⟨ls,vs,O,d0,d1⟩,dP,dR,hk⟩:=h;exact ⟨RX C A (exB Z) r S.day ls S.ns vs++BL Z (gs.map V.int) rs [.int 0] us,by rw [agl];exact O,fun Hb H' B' sb O'=>⟨gs,rs,us,⟨ls,vs,by rw [agl] at O';exact O',d0.mo sb,d1.mo sb⟩,dP.mo sb,dR.mo sb,hk⟩⟩
theorem BA7.add {H':Hp}{X:List (Addr × HO)}(h:BA7 K T C A Z r H0 H B S ds i)(O':Ow T H H' X):BA7 K T C A Z r H0 H' (X++B) S ds i:=by
 obtain ⟨gs,rs,us,⟨ls,vs,O,d0,d1⟩,dP,dR,hk⟩:=h;exact ⟨gs,rs,us,⟨ls,vs,Ow.behind X _ _ _ (O.join O'),d0,d1⟩,dP,dR,hk⟩
theorem BA7.at_ (h:BA7 K T C A Z r H0 H B S ds i):TabsOk T H/\∀ x∈B,H x.1=some x.2:=by
 obtain ⟨gs,rs,us,⟨ls,vs,O,d0,d1⟩,dP,dR,hk⟩:=h;exact ⟨O.same.t1,fun x hx=>O.at_ _ (aeK _ (aeK _ hx))⟩
theorem aej {b g:Addr}{sp:List Int}{most:Int}{E:XK}(ba:BA7 K T C A Z r H0 H B S [] i)(hi:i<=1000)(mb:(b,HO.lst (sp.map V.int))∈B)(mg:(g,HO.lst ([most,most,0,most].map V.int))∈B)(hs:sp.length=r.length)(hw:Wat sp)(m0:0<=most)(m1:most<=1000000000000)(q:∀ (t:Addr)(Z':Bx)(Hb H':Hp),aJ T H0 Hb->BA7 K T C A Z' r Hb H' B ⟨S.day+1,S.ls,S.ns,S.ds++[.turn]⟩ [(sp,[most,most,0,0])] (i+1)->Q (.ref t) H'):Mq K T C cD [.ref A.p,.ref b,.ref g,.non] H Q E:=by
 obtain ⟨gs,rs,us,ra,dP,dR,hk⟩:=ba;have hl:uh [most,most,0,most] [((3:Int),(0:Int),(0:Int))] [0] 1=[most,most,0,0]:=by
  show [most,most,0,min most (0 - 0)]=_;rw [show min most (0 - 0)=0 by rw [Int.min_def];split <;>omega]
 have l4:=hk.l4;have r12:=hk.r12;have gl:=hk.gl;have sd:=hk.sd;have hcw:Wat [most,most,0,most]:=fun x hx=>by
  simp only [aeS,ae8,or_false] at hx;rcases hx with rfl| rfl| rfl| rfl
  ·exact ⟨m0,m1⟩
  ·exact ⟨m0,m1⟩
  ·decide
  ·exact ⟨m0,m1⟩
 have hnn:∀ c∈[most,most,0,0],0<=c:=fun x hx=>by
  simp only [aeS,ae8,or_false] at hx;rcases hx with rfl| rfl| rfl| rfl
  ·exact m0
  ·exact m0
  ·decide
  ·decide
 refine ⟨A,Z,H0,B,r,S,gs,[0],rs,us,[((3:Int),(0:Int),(0:Int))],[],b,g,sp,[most,most,0,most],rfl,mb,mg,by omega,by show 4<=900;decide,ra,hk.rp hi Z,hk.lic,dP,rfl,by decide,fun p hp=>?_,dR,by decide,by omega,hs,hw,by rw [l4];rfl,hcw,by rw [show ([((3:Int),(0:Int),(0:Int))]:List Pd).length=1 from rfl,hl];exact hnn,fun t lt la lf ts Z' Hb H' xs ks' td sb eZ DX ek ra' dR' _ _=>?_⟩
 ·rw [afl.mp hp];exact ⟨by decide,by show (3:Int)<_;omega,by decide,by decide⟩
 have DX:BX r sp S.ls [most,most,0,0] xs:=by have:=DX;rw [show ([((3:Int),(0:Int),(0:Int))]:List Pd).length=1 from rfl,hl] at this;exact this
 have x0:=DX.fit.nn 3 (by omega);have x1:=DX.fit.le 3 (by omega);obtain ⟨l,hl3⟩:∃ l,S.ls[3]?=some l:=⟨_,aeD (by omega)⟩;have x2:Tn.fX (mq S.ls [most,most,0,0]) 3<=0:=by
  unfold Tn.fX;rw [aeM,Ly hl3 (c:=0) rfl];exact Int.min_le_left _ _
 have hx:xs.getD 3 0=0:=by have:Tn.fX xs 3=xs.getD 3 0:=rfl;omega
 have e:ks'=[0]:=by
  rw [ek];show [(0+xs.getD 3 0) - (0+xs.getD 3 0)*0 / 1000]=[0];rw [hx];rfl
 subst e;refine q t Z' Hb H' sb ⟨grt gs [most,most,0,most],_,us,ra',dP.mo sb,?_,⟨hk.rv,hk.r3,r12,hk.nn,hk.na,l4,hk.lo,by rw [ae1];exact Nat.succ_le_succ sd,qR hk.ok trivial,?_,aeL _,fun d hd=>?_⟩⟩
 ·rw [show ([((3:Int),(0:Int),(0:Int))]:List Pd).length=1 from rfl,hl] at dR';exact dR'
 ·unfold grt;rw [ags];exact Nat.min_le_left _ _
 ·rw [afl.mp hd];exact ⟨hs,fun x hx=>(hw x hx).1,aeL _,hnn⟩
theorem BA7.same (h:BA7 K T C A Z r H0 H B S ds i):aJ T H0 H:=by
 obtain ⟨gs,rs,us,⟨ls,vs,O,d0,d1⟩,dP,dR,hk⟩:=h;exact O.same
theorem BA7.ins (h:BA7 K T C A Z r H0 H B S ds i):H A.p=some (RV C A (exB Z) S.day):=by
 obtain ⟨gs,rs,us,⟨ls,vs,O,d0,d1⟩,dP,dR,hk⟩:=h;exact O.get 0
theorem Laid.y3 {n:Nat}{ts pl:List Int}{o:List Nat}(h:Laid n ts pl r)(W:Rv.Ord n o)(PL:Rv.Plc n o n pl)(h3:3<=n)(t1:ts[1]?=some 0)(t2:ts[2]?=some 0):∃ p0 p1 p2:Int,pl[0]?=some p0/\pl[1]?=some p1/\pl[2]?=some p2/\Y3 r p0 p1 p2:=by
 obtain ⟨a0,l0,e0,o0⟩:=PL.all W (k:=0) (by omega);obtain ⟨a1,l1,e1,o1⟩:=PL.all W (k:=1) (by omega);obtain ⟨a2,l2,e2,o2⟩:=PL.all W (k:=2) (by omega);have hl:=h.len;have n01:a0≠a1:=fun z=>by rw [z,o1] at o0;cases o0
 have n02:a0≠a2:=fun z=>by rw [z,o2] at o0;cases o0
 have n12:a1≠a2:=fun z=>by rw [z,o2] at o1;cases o1
 exact ⟨a0,a1,a2,e0,e1,e2,h.riv,⟨by omega,by omega⟩,⟨by omega,by omega⟩,⟨by omega,by omega⟩,by omega,by omega,by omega,by rw [aeT];exact h.top a0 e0,by rw [aeT];exact h.at_ 1 a1 0 a0 (by decide) e1 t1 e0,by rw [aeT];exact h.at_ 2 a2 0 a0 (by decide) e2 t2 e0⟩
theorem Y3.mv {p0 p1 p2 most:Int}(h:Y3 r p0 p1 p2)(e:S.ls=Y3.sevq p0 p1 p2 most d p1)(en:S.ns[0]?=some ("elder":Str))(m0:0<=most)(m1:most<=1000000000000):step r S (.move 0 "elder" p2)=.ok ⟨S.day,Y3.sevq p0 p1 p2 most d p2,S.ns,S.ds++[.move 0 "elder" p2]⟩:=by
 have hl:S.ls[0]?=some ⟨0,p1,-1,most⟩:=by rw [e];rfl
 have hll:S.ls.length=4:=by rw [e];rfl
 have a2:=h.a2;have hlic:p8 r (wst (⟨0,p1,-1,most⟩:Lic) p2):=⟨⟨by show (0:Int)<=0;decide,by show (0:Int)<=1000000;decide,a2.1,a2.2,m0,m1⟩,.inl rfl⟩;show S.Fo 0 "elder" _=_;rw [Bd (by decide) (by omega) en];rw [show S.at_ 0=⟨0,p1,-1,most⟩ from Ab (k:=0) rfl hl,if_neg (not_not_intro hlic),e];rfl
structure aeG (K:PySem.W.Frag)(C:Addr):Prop where
 ha:PySem.W.findIn K (.ref C) "__class__"=some (some (.builtin "object.__class__"))
 hn:PySem.W.specialIn K (.builtin "object.__class__") "__get__"=some (some (.builtin "getset_descriptor.__get__"))
 ht:PySem.W.takesIn K (.builtin "object.__class__")=some true
 hm:PySem.W.mroIn K C (.type "object")=some true
 kt:kitOne K (.ref C) (.ref C)=some true
abbrev Ia:Stmt:=top 95
theorem jN:aD ["script","first","rise","tree","x","places","river","most","later","book","ahead","cells","cut","springs","fresh","cell"] ["script"] (ao Ia):=by walk_at "sc"
inductive Mx (K:PySem.W.Frag)(T:dX)(vs:List V)(H:Hp)(Q:VK)(E:XK):Prop
 | mk (a:Addr)(ns:List Int)(_:vs=[.ref a])(_:SqL K H a (ns.map V.int))(_:ns.length<=63)(_:TabsOk T H)(_:∀ H',Q (.bl true) H')
variable (fO:(CX0|||1) ni nA ["script","k"] (M5 K))
variable (wW:(CX0|||2) oZ pC ["many","cell"] (Tj T))
variable (Bq:(CX0|||1) u9 vD ["tree","place"] (Mz K T))
variable (pP:(CX0|||6) vd vG ["river","places","most","later"] (T4 K T C))
variable (yC:((CXE P w)|||9) yg yu ["self","springs","calls","lets"] (Mq K T C cD))
variable (pO:(CX0|||13) oY pB ["book","river","cell"] (Te K T C))
include bH bM aP aU dU fP fB iU bh cj dI jR jK dJ fC fO wW Bq pP yC pO in
theorem abF (D:Df K mg "law" Ia ["script"] f fd)(B:Blt mg)(dW:Cl K mg "Book" C f2 SQ)(CT:mg "Roll"=some (.ref CR))(HB:aeG K C)(KB:kitOne K (.ref C) (.ref CR)=some true):(CX0|||14) f fd ["script"] (Mx K T):=by
 refine D.F.ok jN ?_ ?_
 walk_at "i"
 obtain ⟨a,ns,rfl,hS,hlen,tk,k⟩:=h
 have hu:=hr.units
 refine ⟨_,(1<$>jN<$>(bH<*fO<*(pv 0>=>au>=>ak))<|>2<$>jN<$>(@bA _ _ _ _ _ _ _ _ pW au (@bA _ _ _ _ _ _ _ _ ji (bH<*fO<*(pv 0>=>au>=>ak)) (@bA _ _ _ _ _ _ _ _ Cm au au)))<|>3<$>jN<$>(@bF _ _ _ _ (@xP _ _ _ _ _ _ nF au>=>au>=>au>=>ak))<|>fJ ae7 rfl (bU (bM<*jK<*(pv 1>=>@bA _ _ _ _ _ _ _ _ ji (pv 1) au>=>ak))) (4>>jN)
   (~~~(aR (m7 ae3 ae5 ae6 bJ (pv 3) (@bA _ _ _ _ _ _ _ _ ji (pv 4) (aB aC rfl B.len aeZ (pv 3>=>ak))>=>ak))))<|>5<$>jN<$>(fB<*wW<*(aB aC rfl B.len aeZ (pv 3>=>ak)>=>bH<*fO<*(pv 0>=>au>=>ak)>=>ak))<|>6<$>jN<$>(iU<*Bq<*(pv 3>=>pv 5>=>ak))<|>7<$>jN<$>(@bA _ _ _ _ _ _ _ _ pW (pv 2) (@bA _ _ _ _ _ _ _ _ ji (bH<*fO<*(pv 0>=>au>=>ak)) (@bA _ _ _ _ _ _ _ _ pW (@bA _ _ _ _ _ _ _ _ wA (@bA _ _ _ _ _ _ _ _ Cm au au) (pv 2)) au)))<|>8<$>jN<$>(oM Q8 (@bA _ _ _ _ _ _ _ _ ji (@bA _ _ _ _ _ _ _ _ xR (pv 1) au) au) au (bx _))<|>9<$>jN<$>(fC<*pP<*(pv 6>=>pv 5>=>pv 7>=>pv 8>=>ak))<|>10<$>jN<$>(fC<*pP<*(pv 6>=>pv 5>=>pv 7>=>pv 8>=>ak))<|>11<$>jN<$>(tY xr (pv 0) (uU au) (uU au))<|>12<$>jN<$>(@bA _ _ _ _ _ _ _ _ ji (bH<*fO<*(pv 0>=>au>=>ak)) (@bA _ _ _ _ _ _ _ _ pW (aB aC rfl B.len aeZ (pv 11>=>ak)) au))<|>@eO _ _ _ _ _ _ _ _ (PW.pt (pw_or (aQ (Cp hu) (cj<*jR<*(pv 10>=>au>=>cO>=>@bD _ _ _ _ _ _ _ aM (pv 5) au (fun _ _=>rfl)>=>ak)) (@bF _ _ _ _ ak) (bx _)) (pw_or1 (aQ (Cp hu) (@bD _ _ _ _ _ _ _ aM (gb (pv 10) aU.c aP.m dU hr.m aP.b .nil oO) au (fun _ _=>rfl)) (@gD _ _ _ _ _ (au>=>@bD _ _ _ _ _ _ _ aM (pv 5) au (fun _ _=>rfl)>=>@xP _ _ _ _ _ _ nF au>=>pv 7>=>ak)) (bx _)))))
   (~~~(@aL _ _ _ _ oN))
   aX<|>13<$>jN<$>(@bA _ _ _ _ _ _ _ _ yK (@bF _ _ _ _ (au>=>ak)) (aB aC rfl B.len aeZ (pv 6>=>ak)))<|>gC (pv 2) (uw (pv 13) (@bD _ _ _ _ _ _ _ aM (pv 5) au (fun _ _=>rfl)) set_list)<|>14<$>jN<$>(fC<*pP<*(pv 6>=>pv 5>=>pv 7>=>pv 8>=>ak))<|>aR (fQ (pv 14) dW.c fP.m yC hr.m fP.b1 (.cons (show RelV .non Value.none from rfl) .nil) Ea (pv 13>=>@bF _ _ _ _ (pv 7>=>pv 7>=>au>=>pv 7>=>ak)>=>ak))<|>@eO _ _ _ _ _ _ _ _ (PW.pt (pw_or (aQ (Cp hu) (cj<*jR<*(pv 14>=>au>=>cO>=>@bD _ _ _ _ _ _ _ aM (pv 5) au (fun _ _=>rfl)>=>ak)) (bh<*dI<*(au>=>ak)) (bx _)) (pw_or1 (aQ zX (@bD _ _ _ _ _ _ _ yL (@bD _ _ _ _ _ _ _ aM (gb (pv 14) aU.c aP.m dU hr.m aP.b .nil oO) au (fun _ _=>rfl)) au (fun _ _=>rfl)) (@bD _ _ _ _ _ _ _ aM (pv 5) au (fun _ _=>rfl)) (bx _)))))
   (~~~(@aL _ _ _ _ oN))
   aX<|>fJ ae7 rfl (bU (tY xr (pv 11) zU (uU (pv 12)))) (15>>jN)
   (~~~(@eO _ _ _ _ _ _ _ _ (nQ (j7 (dJ<*pO<*(pv 9>=>pv 6>=>pv 15>=>ak))))
    (~~~(@aL _ _ _ _ oN))
    aX))<|>aR (fQ (pv 9) dW.c fP.m yC hr.m fP.b1 (.cons (show RelV .non Value.none from rfl) .nil) Ea (pv 13>=>@bF _ _ _ _ (pv 7>=>pv 7>=>au>=>pv 7>=>ak)>=>ak))<|>fJ ae7 rfl (bU (tY xr (pv 11) (uU (pv 12)) zU)) (15>>jN)
   (~~~(@eO _ _ _ _ _ _ _ _ (nQ (j7 (dJ<*pO<*(pv 9>=>pv 6>=>pv 15>=>ak))))
    (~~~(@aL _ _ _ _ oN))
    aX))<|>(~~~(@aL _ _ _ _ (aB GZ rfl B.isinstance ae2 (pv 9>=>jP rfl CT>=>ak))))),?_⟩
 have e12:(10:Int) ^ (12:Int).toNat=1000000000000:=by decide
 have O:=Ow.refl tk
 refine ⟨_,rfl,a,ns,0,rfl,hS,?_⟩
 generalize ns.getD 0 0=fi
 have m10:0<=fi % 10/\fi % 10<10:=by omega
 refine ⟨_,rfl,a,ns,1,rfl,hS,_,_,rfl,rfl,⟨by decide,by decide,by decide⟩,_,_,rfl,rfl,(by rw [e12];decide),_,_,rfl,rfl,?_⟩
 dsimp only
 rw [e12]
 have hri:1<=1+ns.getD 1 0 % 1000000000000/\1+ns.getD 1 0 % 1000000000000<=1000000000000:=by omega
 generalize 1+ns.getD 1 0 % 1000000000000=rise at hri
 refine ⟨1,rfl,szl,fun lt hlt=>?_⟩
 walk_at "nw"
 refine ⟨_,rfl,_,rfl,_,_,rfl,rfl,(by show (0:Int)<10;decide),_,_,rfl,by omega,by omega,O.got fun lq H1 xs O e=>?_⟩
 subst e
 have hql:=DQ fi (fi % 10).toNat
 generalize K6 fi (fi % 10).toNat=qs at O hql
 refine ⟨lq,rfl,⟨_,O.sq 0⟩,?_⟩
 refine eV (K:=K) (xs:=qs.map V.int) (fun i σ H'=>Iv (∃ (v4:Option V)(ts:List Int),σ=[some (.ref a),some (.int fi),some (.int rise),some (.ref lt),v4,none,none,none,none,none,none,none,none,none,none,none]/\ts.length=3+i/\ts[1]?=some 0/\ts[2]?=some 0/\(∀ (k:Nat)(j:Int),1<=k->ts[k]?=some j->0<=j/\j<(k:Int))/\Ow T H H' [(lq,.lst (qs.map V.int)),(lt,.lst (ts.map V.int))]))
  ⟨trivial,none,[-1,0,0],rfl,rfl,rfl,rfl,fun k j h1 hk=>?_,O⟩ (fun i σ H' _ ⟨_,_,_,_,_,_,_,_,O⟩=>O.sq 0) ?_ ?_
 ·rcases k with _| _| _| k
  ·omega
  ·cases hk;decide
  ·cases hk;decide
  ·simp at hk
 ·clear O
  rintro i yv σ H2 hyv ⟨-,v4,ts,rfl,htl,t1,t2,hts,O⟩
  obtain ⟨z,hz,rfl⟩:=ints_get hyv
  have hi:=(aeJ.mp hz).1
  have hml:(((ts.map V.int).length:Nat):Int)=(ts.length:Int):=by rw [ac5]
  have b0:=af3 z (show (ts.length:Int)≠0 by omega)
  have b1:=afY z (show (0:Int)<(ts.length:Int) by omega)
  refine ⟨_,rfl,.inl ⟨rfl,_,O.sq 1⟩,_,rfl,_,rfl,lt,_,rfl,.inl (O.sq 1),_,_,rfl,rfl,(by rw [hml];omega),?_⟩
  dsimp only
  rw [hml]
  refine ⟨lt,_,_,rfl,rfl,O.get 1,aH (by rw [ac5];omega),?_⟩
  generalize hE:upd _ _ _=Hn
  have O:=Ow.yI O 1 rfl hE rfl
  clear hE
  refine ⟨trivial,_,ts++[z % (ts.length:Int)],rfl,by rw [ae1,htl];rfl,by rw [afO (by omega)];exact t1,by rw [afO (by omega)];exact t2,fun k j h1 hk=>?_,by rw [aeN];exact O⟩
  by_cases e:k<ts.length
  ·rw [afO e] at hk;exact hts k j h1 hk
  ·have hl:=(aeJ.mp hk).1
   rw [ae1] at hl
   have e:k=ts.length:=by have:k<ts.length+1:=hl;omega
   subst e
   rw [List.getElem?_concat_length] at hk
   cases hk
   exact ⟨b0,b1⟩
 clear O
 rintro σ H2 ⟨-,v4,ts,rfl,htl,t1,t2,hts,O⟩
 rw [ac5,hql] at htl
 have O:=O.tail
 have hml:(((ts.map V.int).length:Nat):Int)=(ts.length:Int):=by rw [ac5]
 refine ⟨_,rfl,lt,_,rfl,.inl (O.sq 0),_,rfl,a,ns,2,rfl,O.same.seq hS,ts.length,ns.getD 2 0,by rw [hml];rfl,by omega,O.same.t1,O.Cv fun lp H3 ys O e=>?_⟩
 obtain ⟨o,pl,rfl,W,PL⟩:=e
 refine ⟨_,rfl,_,rfl,lt,lp,ts,pl,o,ts.length,rfl,O.sq 1,O.sq 0,rfl,by omega,by omega,W,PL,hts,O.same.t1,O.Cv fun lv H4 ys O e=>?_⟩
 obtain ⟨r,rfl,hLd⟩:=e
 obtain ⟨p0,p1,p2,e0,e1,e2,hY⟩:=hLd.y3 W PL (by omega) t1 t2
 have hrl:=hLd.len
 have a2:=hY.a2
 refine ⟨_,rfl,_,rfl,a,ns,3,rfl,O.same.seq hS,_,_,rfl,rfl,⟨by decide,by decide,by decide⟩,_,rfl,_,_,rfl,rfl,_,_,rfl,rfl,_,_,rfl,rfl,(by rw [e12];omega),_,_,rfl,rfl,?_⟩
 dsimp only
 rw [e12]
 have hmo:rise<=rise+ns.getD 3 0 % (1000000000000 - rise+1)/\rise+ns.getD 3 0 % (1000000000000 - rise+1)<=1000000000000:=by
  have b0:=af3 (ns.getD 3 0) (show (1000000000000 - rise+1:Int)≠0 by omega)
  have b1:=afY (ns.getD 3 0) (show (0:Int)<1000000000000 - rise+1 by omega)
  omega
 generalize rise+ns.getD 3 0 % (1000000000000 - rise+1)=most at hmo
 refine ⟨_,rfl,_,_,rfl,rfl,⟨by decide,by decide⟩,_,_,rfl,rfl,(by show (0:Int)<3;decide),_,_,rfl,rfl,?_⟩
 dsimp only
 generalize decide (0<fi / 10 % 3)=lat
 have O:Ow T H H4 [(lv,.lst (r.map V.int)),(lp,.lst (pl.map V.int))]:=O.sub (.cons₂ _ (.cons₂ _ (agp _)))
 refine ⟨_,rfl,_,rfl,_,rfl,_,rfl,H,_,lv,lp,r,pl,p0,p1,p2,most,lat,rfl,O,.head _,.tail _ (.head _),e0,e1,e2,hY,by omega,by omega,by omega,by omega,fun A1 Z1 Hb1 H5 S1 sb1 ba1 hl1 hn1=>?_⟩
 clear O
 obtain ⟨M1,O1,k1⟩:=ba1.pack
 refine ⟨_,rfl,_,rfl,_,rfl,_,rfl,Hb1,M1++[(lv,.lst (r.map V.int)),(lp,.lst (pl.map V.int))],lv,lp,r,pl,p0,p1,p2,most,lat,rfl,O1,aeK _ (.head _),aeK _ (.tail _ (.head _)),e0,e1,e2,hY,by omega,by omega,by omega,by omega,fun A2 Z2 Hb2 H6 S2 sb2 ba2 hl2 hn2=>?_⟩
 have s6:=(sb1.trans sb2).trans ba2.same
 refine ⟨_,rfl,5,rfl,35,rfl,a,_,rfl,s6.seq hS,fun lc hlc=>?_⟩
 have OC:=(Ow.refl ba2.at_.1).mk' hlc (o:=.lst (GP (ns.map V.int) (some 5) (some 35))) rfl
 rw [show GP (ns.map V.int) (some 5) (some 35)=((ns.drop 5).take 30).map V.int from acI ns 5 35] at OC ⊢
 have hcl:((ns.drop 5).take 30).length<=30:=by rw [ae0];omega
 generalize (ns.drop 5).take 30=cs at OC hcl ⊢
 have ba2:=ba2.add OC
 have s7:=s6.trans OC.same
 clear OC s6
 generalize upd H6 lc (.lst (cs.map V.int))=H7 at ba2 s7 ⊢
 have hml:(((cs.map V.int).length:Nat):Int)=(cs.length:Int):=by rw [ac5]
 refine ⟨_,rfl,a,ns,4,rfl,s7.seq hS,_,rfl,lc,_,rfl,.inl (SqL.of (ba2.at_.2 _ (.head _))),_,_,rfl,rfl,_,_,rfl,rfl,(by rw [hml];omega),?_⟩
 dsimp only
 rw [hml]
 have c0:=af3 (ns.getD 4 0) (show ((cs.length:Int)+1)≠0 by omega)
 generalize ns.getD 4 0 % ((cs.length:Int)+1)=ct at c0
 obtain ⟨cu,rfl⟩:=ae9 c0
 have st2:=hY.mv hl2 hn2 (by omega) hmo.2
 have sP:∀ {H':Hp}{B':List (Addr × HO)},(∀ x∈B',H' x.1=some x.2)->(lp,HO.lst (pl.map V.int))∈B'->SqL K H' lp (pl.map V.int):=fun h m=>SqL.of (h _ m)
 have mL:∀ {X:List (Addr × HO)},(lp,HO.lst (pl.map V.int))∈X++(M1++[(lv,.lst (r.map V.int)),(lp,.lst (pl.map V.int))]):=aeK _ (aeK _ (.tail _ (.head _)))
 have mV:∀ {X:List (Addr × HO)},(lv,HO.lst (r.map V.int))∈X++(M1++[(lv,.lst (r.map V.int)),(lp,.lst (pl.map V.int))]):=aeK _ (aeK _ (.head _))
 have b2:=ba2.at_.2
 obtain ⟨gs2,rs2,us2,ra2,dP2,dR2,hk2⟩:=ba2
 refine ⟨_,rfl,_,rfl,lp,_,2,_,rfl,rfl,sP b2 mL,bV (i:=2) e2,A2,Z2,Hb2,_,r,S2,_,rs2,_,us2,[((3:Int),(0:Int),(0:Int))],[],0,"elder",p2,rfl,ra2,hk2.rp (by decide) Z2,dP2,by decide,dR2,by decide,(fun d hd=>nomatch hd),hk2.lic,fun S' hs _ _ l Hb3 H8 sb3 ra3=>?_,fun k hw=>?_⟩
 rotate_left
 ·exfalso
  cases hw with
  | num h=>rw [st2] at h;cases h
  | you h=>rw [st2] at h;cases h
  | lic h=>rw [st2] at h;cases h
  | fix _ _ h=>cases h
  | harm _ _ _ _ _ h=>cases h
 rw [st2] at hs
 cases hs
 obtain ⟨ls3,vs3,O,c0,c1⟩:=ra3
 refine ⟨szl,fun l0 h0=>?_⟩
 walk_at "nw"
 refine ⟨.list [],.list [],.list (O.sq 11) .nil,.list (O.sq 0) .nil,mC.ok (by decide),mC.ok (by decide),?_⟩
 rw [if_pos rfl,jm mC]
 refine ⟨_,rfl,um ?_⟩
 have O:=O.tail
 refine ⟨_,rfl,A2.p,A2.dx,_,rfl,O.get 0,rfl,A2.p,A2.dx,A2.ll,_,ls3,rfl,O.get 0,rfl,O.sq 3,fun l5 h5=>?_⟩
 walk_at "nw"
 obtain ⟨al,hal,hT⟩:=c0.uy (k:=0) (l:=⟨0,p2,-1,most⟩) rfl
 have shl:=Dr [⟨0,p2,-1,most⟩]
 have sh1:Sh 4 (yO ⟨0,p2,-1,most⟩):=⟨by
  have:=shl.1
  exact ((Sh.tuple fun d hd=>by
   simp only [afg,agb,aeS,ae8,or_false] at hd
   rcases hd with e| e| e| e <;>rw [e]<;>exact Sh.int 3 _):Sh 4 (yO ⟨0,p2,-1,most⟩)).1,((Sh.tuple fun d hd=>by
   simp only [afg,agb,aeS,ae8,or_false] at hd
   rcases hd with e| e| e| e <;>rw [e]<;>exact Sh.int 3 _):Sh 4 (yO ⟨0,p2,-1,most⟩)).2⟩
 refine ⟨l5,_,0,_,rfl,rfl,O.sq 0,d9 (j:=0) hal,?_⟩
 refine ⟨_,rfl,lp,_,2,_,rfl,rfl,SqL.of (O.at_ _ (.tail _ (aeK _ (aeK _ (.tail _ mL))))),bV (i:=2) e2,1,rfl,_,rfl,szl,fun t5 ht5=>?_⟩
 walk_at "nw"
 refine ⟨yO ⟨0,p2,-1,most⟩,yO ⟨0,p2,-1,most⟩,Den.lic (hT.mo O.same),Den.lic (l:=⟨0,p2,-1,most⟩) (O.sqT 0),sh1.ok (by decide),sh1.ok (by decide),?_⟩
 rw [if_pos rfl,jm sh1]
 refine ⟨_,rfl,um ?_⟩
 have O:=O.sub (List.Sublist.cons _ (List.Sublist.cons _ (((afv _ _).trans (afC _ _)).trans (afC _ _))))
 have s8:=((sb1.trans sb2).trans sb3)
 clear b2 ra2 dP2 dR2 c0 c1 shl sh1 hal hT
 have hrm:(((r.map V.int).length:Nat):Int)=(r.length:Int):=by rw [ac5]
 refine ⟨szl,fun l6 h6=>?_⟩
 walk_at "nw"
 refine ⟨_,rfl,lv,_,rfl,.inl (SqL.of (O.at_ _ (.tail _ mV))),l6,_,_,rfl,rfl,O.get 0,by omega,by omega,f9 (by rw [hrm,aeT];simp;omega),fun lsp hlsp=>?_⟩
 walk_at "nw"
 rw [hrm,aeT,show [V.int 0]=[V.int (0:Int)] from rfl,lD] at O
 have O:=O.two
 obtain ⟨q2,hq2⟩:=ae9 a2.1
 refine ⟨_,rfl,_,rfl,_,rfl,lp,_,2,_,rfl,rfl,SqL.of (O.at_ _ (.tail _ mL)),bV (i:=2) e2,?_⟩
 refine ux O 0 rfl (j:=p2.toNat) (by rw [hq2,aeT];exact iJ (by rw [ac5,afn];omega)) fun H9 O=>?_
 rw [<- afD] at O
 have O:Ow T Hb3 H9 ((lsp,.lst (((List.replicate r.length (0:Int)).set p2.toNat rise).map V.int))::([(lc,.lst (cs.map V.int))]++(M1++[(lv,.lst (r.map V.int)),(lp,.lst (pl.map V.int))]))):=O
 have hsl:((List.replicate r.length (0:Int)).set p2.toNat rise).length=r.length:=by rw [afq,afn]
 have hsw:Wat ((List.replicate r.length (0:Int)).set p2.toNat rise):=fun x hx=>by
  rcases af0 hx with z| z
  ·rw [(List.mem_replicate.mp z).2];decide
  ·rw [z];omega
 generalize hsp:(List.replicate r.length (0:Int)).set p2.toNat rise=sp at O hsl hsw
 refine ⟨_,rfl,_,rfl,_,rfl,_,rfl,Hb3,_,lv,lp,r,pl,p0,p1,p2,most,lat,rfl,O,.tail _ mV,.tail _ mL,e0,e1,e2,hY,by omega,by omega,by omega,by omega,fun A3 Z3 Hb4 H10 S3 sb4 ba3 hl3 hn3=>?_⟩
 clear O
 refine ⟨_,rfl,A3.p,A3.dx,_,rfl,ba3.ins,rfl,_,rfl,_,rfl,_,rfl,_,rfl,szl,fun lk hlk=>?_⟩
 have OK:=(Ow.refl ba3.at_.1).mk' hlk (o:=.lst ([most,most,0,most].map V.int)) rfl
 have ba3:=ba3.add OK
 dsimp only [S9]
 refine aej ba3 (by decide) (.tail _ (.head _)) (.head _) hsl hsw (by omega) hmo.2 fun t Z4 Hb5 H11 sb5 ba4=>?_
 clear ba3 OK
 have mL4:(lp,HO.lst (pl.map V.int))∈[(lk,HO.lst ([most,most,0,most].map V.int))]++((lsp,.lst (sp.map V.int))::([(lc,.lst (cs.map V.int))]++(M1++[(lv,.lst (r.map V.int)),(lp,.lst (pl.map V.int))]))):=.tail _ (.tail _ mL)
 have b4:=ba4.at_.2
 have st4:=hY.mv (S:=⟨S3.day+1,S3.ls,S3.ns,S3.ds++[Kw.turn]⟩) hl3 hn3 (by omega) hmo.2
 obtain ⟨gs4,rs4,us4,ra4,dP4,dR4,hk4⟩:=ba4
 have l44:=hk4.l4
 refine ⟨_,rfl,_,rfl,lp,_,2,_,rfl,rfl,sP b4 mL4,bV (i:=2) e2,A3,Z4,Hb5,_,r,_,_,rs4,_,us4,[((3:Int),(0:Int),(0:Int))],_,0,"elder",p2,rfl,ra4,hk4.rp (by decide) Z4,dP4,by decide,dR4,(by show 1<=900;decide),(by rw [l44];exact hk4.dr),hk4.lic,fun S' hs _ hn=>?_,fun k hw l Hx O=>?_⟩
 ·exfalso
  rw [st4] at hs
  cases hs
  obtain ⟨xs,ys,X,Y,e⟩:=hn _ (.head _)
  have hal:Lk S3.ls.length [most,most,0,0]=[most,most,0,0]:=by rw [hl3];rfl
  have X:BX r sp S3.ls (Lk S3.ls.length [most,most,0,0]) xs:=X
  have Y:BX r sp (Y3.sevq p0 p1 p2 most (if lat=true then 1 else 0) p2) (Lk S3.ls.length [most,most,0,0]) ys:=Y
  rw [hal] at X Y
  rw [hl3] at X
  exact hY.harm (by split <;>decide) hri.1 hmo.1 hsp.symm X Y e
 cases hw with
 | num h=>rw [st4] at h;cases h
 | you h=>rw [st4] at h;cases h
 | lic h=>rw [st4] at h;cases h
 | fix _ _ h=>cases h
 | harm _ _ _ _ _ h =>
 refine ⟨4,rfl,by decide,O.same.t1,O.Cv fun l1 H13 ys O e=>?_⟩
 subst e
 refine ⟨.list (dFl (Ez (some 4))),.list (dFl (Ez (some 4))),.list (O.sq 1) (vO (some 4)),.list (O.sq 0) (vO (some 4)),(uD _).ok (by decide),(uD _).ok (by decide),?_⟩
 rw [if_pos rfl,jm (uD _)]
 refine ⟨_,rfl,um ?_⟩
 obtain ⟨ls4,vs4,O4,c0,c1⟩:=ra4
 obtain ⟨al,hal,hT⟩:=c0.uy (k:=0) (l:=⟨0,p1,-1,most⟩) (by show S3.ls[0]?=_;rw [hl3];rfl)
 refine ⟨_,rfl,A3.p,A3.dx,_,rfl,(O4.jq O.same).get 0,rfl,A3.p,A3.dx,A3.ll,_,ls4,rfl,(O4.jq O.same).get 0,rfl,(O4.jq O.same).sq 3,fun l5 h5=>?_⟩
 walk_at "nw"
 refine ⟨l5,_,0,_,rfl,rfl,O.sq 0,d9 (j:=0) hal,al,_,1,_,rfl,rfl,(hT.mo O4.same).mo O.same,rfl,_,rfl,lp,_,1,_,rfl,rfl,(SqL.of (b4 _ mL4)).mo O.same,bV (i:=1) e1,rfl,_,rfl,ifN (ifI (fun _=>?_) (fun z=>absurd rfl z))⟩
 have O:=((O4.jq O.same).sub ((((afv _ _)).trans (afC _ _)).trans (afC _ _)))
 have O:=Ow.front [(lsp,.lst (sp.map V.int)),(lc,.lst (cs.map V.int))] M1 [(lv,.lst (r.map V.int)),(lp,.lst (pl.map V.int))] O
 have ba:=k1 _ _ _ (((sb2.trans sb3).trans sb4).trans sb5) O
 clear O O4 c0 c1 hal hT b4 mL4 dP4 dR4
 refine ⟨_,rfl,_,rfl,(cu:Int),rfl,lc,_,rfl,SqL.of (ba.at_.2 _ (.tail _ (.head _))),fun l7 h7=>?_⟩
 have OC:=(Ow.refl ba.at_.1).mk' h7 (o:=.lst (GP (cs.map V.int) none (some (cu:Int)))) rfl
 rw [Kh] at OC ⊢
 have ba:=ba.add OC
 clear OC
 generalize upd _ l7 (.lst ((cs.take cu).map V.int))=H14 at ba ⊢
 have htk:(cs.take cu).length<=30:=by rw [ae0];omega
 have mB:∀ {X:List (Addr × HO)},(lv,HO.lst (r.map V.int))∈X++([(lsp,.lst (sp.map V.int)),(lc,.lst (cs.map V.int))]++[(lv,.lst (r.map V.int)),(lp,.lst (pl.map V.int))]):=aeK _ (.tail _ (.tail _ (.head _)))
 refine ⟨l7,rfl,⟨_,SqL.of (ba.at_.2 _ (.head _))⟩,?_⟩
 refine eV (K:=K) (xs:=(cs.take cu).map V.int) (fun i σ H'=>Iv (∃ (Hb:Hp)(S:RS)(v15:Option V),σ=[some (.ref a),some (.int fi),some (.int rise),some (.ref lt),v4,some (.ref lp),some (.ref lv),some (.int most),some (.bl lat),some (.ref A1.p),some (.ref A2.p),some (.ref lc),some (.int (cu:Int)),some (.ref lsp),some (.ref A3.p),v15]/\BA7 K T C A1 Z1 r Hb H' ([(l7,.lst ((cs.take cu).map V.int))]++([(lsp,.lst (sp.map V.int)),(lc,.lst (cs.map V.int))]++[(lv,.lst (r.map V.int)),(lp,.lst (pl.map V.int))])) S [] (10+i)))
  ⟨trivial,_,_,_,rfl,ba⟩ (fun i σ H' _ ⟨_,_,_,_,_,ba⟩=>SqL.of (ba.at_.2 _ (.head _))) ?_ ?_
 ·clear ba
  rintro i yv σ H9 hyv ⟨-,Hb,S,v15,rfl,ba⟩
  obtain ⟨z,hz,rfl⟩:=ints_get hyv
  have hi:=(aeJ.mp hz).1
  exact ⟨_,rfl,_,rfl,_,rfl,A1,Z1,Hb,_,r,S,[],10+i,lv,z,rfl,ba,by omega,mB,fun S' Hb' H' sb ba'=>⟨_,rfl,um ⟨trivial,Hb',S',_,rfl,ba'⟩⟩⟩
 clear ba
 rintro σ H9 ⟨-,Hb,S,v15,rfl,ba⟩
 rw [ac5] at ba
 refine ⟨_,rfl,A1.p,A1.dx,_,rfl,ba.ins,rfl,_,rfl,_,rfl,_,rfl,_,rfl,szl,fun lk2 hlk2=>?_⟩
 have OK:=(Ow.refl ba.at_.1).mk' hlk2 (o:=.lst ([most,most,0,most].map V.int)) rfl
 have ba:=ba.add OK
 dsimp only [S9]
 refine aej ba (by omega) (.tail _ (.tail _ (.head _))) (.head _) hsl hsw (by omega) hmo.2 fun t Z5 Hb6 H15 sb6 ba=>?_
 refine ⟨_,rfl,_,rfl,(cu:Int),rfl,lc,_,rfl,SqL.of (ba.at_.2 _ (.tail _ (.tail _ (.tail _ (.head _))))),fun l8 h8=>?_⟩
 have OC:=(Ow.refl ba.at_.1).mk' h8 (o:=.lst (GP (cs.map V.int) (some (cu:Int)) none)) rfl
 rw [Fe] at OC ⊢
 have ba:=ba.add OC
 clear OC
 generalize upd _ l8 (.lst ((cs.drop cu).map V.int))=H16 at ba ⊢
 have hdr:(cs.drop cu).length<=30:=by rw [agc];omega
 have mB:∀ {X:List (Addr × HO)},(lv,HO.lst (r.map V.int))∈X++([(lk2,.lst ([most,most,0,most].map V.int))]++([(l7,.lst ((cs.take cu).map V.int))]++([(lsp,.lst (sp.map V.int)),(lc,.lst (cs.map V.int))]++[(lv,.lst (r.map V.int)),(lp,.lst (pl.map V.int))]))):=aeK _ (.tail _ (.tail _ (.tail _ (.tail _ (.head _)))))
 refine ⟨l8,rfl,⟨_,SqL.of (ba.at_.2 _ (.head _))⟩,?_⟩
 refine eV (K:=K) (xs:=(cs.drop cu).map V.int) (fun i σ H'=>Iv (∃ (Hb:Hp)(S:RS)(v15:Option V),σ=[some (.ref a),some (.int fi),some (.int rise),some (.ref lt),v4,some (.ref lp),some (.ref lv),some (.int most),some (.bl lat),some (.ref A1.p),some (.ref A2.p),some (.ref lc),some (.int (cu:Int)),some (.ref lsp),some (.ref A3.p),v15]/\BA7 K T C A1 Z5 r Hb H' ([(l8,.lst ((cs.drop cu).map V.int))]++([(lk2,.lst ([most,most,0,most].map V.int))]++([(l7,.lst ((cs.take cu).map V.int))]++([(lsp,.lst (sp.map V.int)),(lc,.lst (cs.map V.int))]++[(lv,.lst (r.map V.int)),(lp,.lst (pl.map V.int))])))) S [(sp,[most,most,0,0])] ((10+(cs.take cu).length+1)+i)))
  ⟨trivial,_,_,_,rfl,ba⟩ (fun i σ H' _ ⟨_,_,_,_,_,ba⟩=>SqL.of (ba.at_.2 _ (.head _))) ?_ ?_
 ·clear ba
  rintro i yv σ H9 hyv ⟨-,Hb,S,v15,rfl,ba⟩
  obtain ⟨z,hz,rfl⟩:=ints_get hyv
  have hi:=(aeJ.mp hz).1
  exact ⟨_,rfl,_,rfl,_,rfl,A1,Z5,Hb,_,r,S,[(sp,[most,most,0,0])],(10+(cs.take cu).length+1)+i,lv,z,rfl,ba,by omega,mB,fun S' Hb' H' sb ba'=>⟨_,rfl,um ⟨trivial,Hb',S',_,rfl,ba'⟩⟩⟩
 clear ba
 rintro σ H9 ⟨-,Hb,S,v15,rfl,ba⟩
 exact ⟨_,rfl,_,_,_,true,rfl,.ins ba.ins dW.c HB.ha HB.hn HB.ht HB.hm,KB,k _⟩
abbrev eC:Ec:=⟨92,116,104,80,140,128,152,56⟩
theorem lsc {α:Type}{n:Nat}{us:List α}(h:us.length=n+1):∃ a vs,us=a::vs/\vs.length=n:=by
 cases us with
 | nil=>cases h
 | cons a vs=>exact ⟨a,vs,rfl,Nat.succ.inj h⟩
theorem lsn0 {α:Type}{us:List α}(h:us.length=0):us=[]:=List.eq_nil_of_length_eq_zero h
theorem aeu {α:Type}{us:List α}(h:us.length=1):∃ a0,us=[a0]:=by
 obtain ⟨a,v,e,h⟩:=lsc h;obtain e2:=lsn0 h;exact ⟨a,by rw [e,e2]⟩
theorem aes {α:Type}{us:List α}(h:us.length=2):∃ a0 a1,us=[a0,a1]:=by
 obtain ⟨a,v,e,h⟩:=lsc h;obtain ⟨b0,e2⟩:=aeu h;exact ⟨a,b0,by rw [e,e2]⟩
theorem adR {α:Type}{us:List α}(h:us.length=3):∃ a0 a1 a2,us=[a0,a1,a2]:=by
 obtain ⟨a,v,e,h⟩:=lsc h;obtain ⟨b0,b1,e2⟩:=aes h;exact ⟨a,b0,b1,by rw [e,e2]⟩
theorem abV {α:Type}{us:List α}(h:us.length=4):∃ a0 a1 a2 a3,us=[a0,a1,a2,a3]:=by
 obtain ⟨a,v,e,h⟩:=lsc h;obtain ⟨b0,b1,b2,e2⟩:=adR h;exact ⟨a,b0,b1,b2,by rw [e,e2]⟩
theorem ac3 {α:Type}{us:List α}(h:us.length=5):∃ a0 a1 a2 a3 a4,us=[a0,a1,a2,a3,a4]:=by
 obtain ⟨a,v,e,h⟩:=lsc h;obtain ⟨b0,b1,b2,b3,e2⟩:=abV h;exact ⟨a,b0,b1,b2,b3,by rw [e,e2]⟩
theorem aer {α:Type}{us:List α}(h:us.length=6):∃ a0 a1 a2 a3 a4 a5,us=[a0,a1,a2,a3,a4,a5]:=by
 obtain ⟨a,v,e,h⟩:=lsc h;obtain ⟨b0,b1,b2,b3,b4,e2⟩:=ac3 h;exact ⟨a,b0,b1,b2,b3,b4,by rw [e,e2]⟩
theorem lsn7 {α:Type}{us:List α}(h:us.length=7):∃ a0 a1 a2 a3 a4 a5 a6,us=[a0,a1,a2,a3,a4,a5,a6]:=by
 obtain ⟨a,v,e,h⟩:=lsc h;obtain ⟨b0,b1,b2,b3,b4,b5,e2⟩:=aer h;exact ⟨a,b0,b1,b2,b3,b4,b5,by rw [e,e2]⟩
theorem G6 {K:PySem.W.Frag}{x qual:Str}{st:Stmt}{f:Addr}{fd:FuncData}{n0:Str}(F:Fun K x qual st f fd)(h:∀ (kV doc pm:Value)(an:Option Addr)(cdv ct u0:Value),bindArgs (fnOf x qual (iD st) (dZ st) (ao st) .none kV doc pm an cdv ct) ⟨[u0],[]⟩=pure (([n0]:List Str).zip [u0])):Binds K fd [n0] []:=
 F.binds (ps:=[n0]) fun kV doc pm an cdv ct us hl=>by
  obtain ⟨_,rfl⟩:=aeu hl;exact h kV doc pm an cdv ct _
theorem Qp {K:PySem.W.Frag}{x qual:Str}{st:Stmt}{f:Addr}{fd:FuncData}{n0 n1:Str}(F:Fun K x qual st f fd)(h:∀ (kV doc pm:Value)(an:Option Addr)(cdv ct u0 u1:Value),bindArgs (fnOf x qual (iD st) (dZ st) (ao st) .none kV doc pm an cdv ct) ⟨[u0,u1],[]⟩=pure (([n0,n1]:List Str).zip [u0,u1])):Binds K fd [n0,n1] []:=
 F.binds (ps:=[n0,n1]) fun kV doc pm an cdv ct us hl=>by
  obtain ⟨_,_,rfl⟩:=aes hl;exact h kV doc pm an cdv ct _ _
theorem Ze {K:PySem.W.Frag}{x qual:Str}{st:Stmt}{f:Addr}{fd:FuncData}{n0 n1 n2:Str}(F:Fun K x qual st f fd)(h:∀ (kV doc pm:Value)(an:Option Addr)(cdv ct u0 u1 u2:Value),bindArgs (fnOf x qual (iD st) (dZ st) (ao st) .none kV doc pm an cdv ct) ⟨[u0,u1,u2],[]⟩=pure (([n0,n1,n2]:List Str).zip [u0,u1,u2])):Binds K fd [n0,n1,n2] []:=
 F.binds (ps:=[n0,n1,n2]) fun kV doc pm an cdv ct us hl=>by
  obtain ⟨_,_,_,rfl⟩:=adR hl;exact h kV doc pm an cdv ct _ _ _
theorem Zd {K:PySem.W.Frag}{x qual:Str}{st:Stmt}{f:Addr}{fd:FuncData}{n0 n1 n2 n3:Str}(F:Fun K x qual st f fd)(h:∀ (kV doc pm:Value)(an:Option Addr)(cdv ct u0 u1 u2 u3:Value),bindArgs (fnOf x qual (iD st) (dZ st) (ao st) .none kV doc pm an cdv ct) ⟨[u0,u1,u2,u3],[]⟩=pure (([n0,n1,n2,n3]:List Str).zip [u0,u1,u2,u3])):Binds K fd [n0,n1,n2,n3] []:=
 F.binds (ps:=[n0,n1,n2,n3]) fun kV doc pm an cdv ct us hl=>by
  obtain ⟨_,_,_,_,rfl⟩:=abV hl;exact h kV doc pm an cdv ct _ _ _ _
theorem acN {K:PySem.W.Frag}{x qual:Str}{st:Stmt}{f:Addr}{fd:FuncData}{n0 n1 n2 n3 n4:Str}(F:Fun K x qual st f fd)(h:∀ (kV doc pm:Value)(an:Option Addr)(cdv ct u0 u1 u2 u3 u4:Value),bindArgs (fnOf x qual (iD st) (dZ st) (ao st) .none kV doc pm an cdv ct) ⟨[u0,u1,u2,u3,u4],[]⟩=pure (([n0,n1,n2,n3,n4]:List Str).zip [u0,u1,u2,u3,u4])):Binds K fd [n0,n1,n2,n3,n4] []:=
 F.binds (ps:=[n0,n1,n2,n3,n4]) fun kV doc pm an cdv ct us hl=>by
  obtain ⟨_,_,_,_,_,rfl⟩:=ac3 hl;exact h kV doc pm an cdv ct _ _ _ _ _
theorem acM {K:PySem.W.Frag}{x qual:Str}{st:Stmt}{f:Addr}{fd:FuncData}{n0 n1 n2 n3 n4 n5:Str}(F:Fun K x qual st f fd)(h:∀ (kV doc pm:Value)(an:Option Addr)(cdv ct u0 u1 u2 u3 u4 u5:Value),bindArgs (fnOf x qual (iD st) (dZ st) (ao st) .none kV doc pm an cdv ct) ⟨[u0,u1,u2,u3,u4,u5],[]⟩=pure (([n0,n1,n2,n3,n4,n5]:List Str).zip [u0,u1,u2,u3,u4,u5])):Binds K fd [n0,n1,n2,n3,n4,n5] []:=
 F.binds (ps:=[n0,n1,n2,n3,n4,n5]) fun kV doc pm an cdv ct us hl=>by
  obtain ⟨_,_,_,_,_,_,rfl⟩:=aer hl;exact h kV doc pm an cdv ct _ _ _ _ _ _
theorem acL {K:PySem.W.Frag}{x qual:Str}{st:Stmt}{f:Addr}{fd:FuncData}{n0 n1 n2 n3 n4 n5 n6:Str}(F:Fun K x qual st f fd)(h:∀ (kV doc pm:Value)(an:Option Addr)(cdv ct u0 u1 u2 u3 u4 u5 u6:Value),bindArgs (fnOf x qual (iD st) (dZ st) (ao st) .none kV doc pm an cdv ct) ⟨[u0,u1,u2,u3,u4,u5,u6],[]⟩=pure (([n0,n1,n2,n3,n4,n5,n6]:List Str).zip [u0,u1,u2,u3,u4,u5,u6])):Binds K fd [n0,n1,n2,n3,n4,n5,n6] []:=
 F.binds (ps:=[n0,n1,n2,n3,n4,n5,n6]) fun kV doc pm an cdv ct us hl=>by
  obtain ⟨_,_,_,_,_,_,_,rfl⟩:=lsn7 hl;exact h kV doc pm an cdv ct _ _ _ _ _ _ _
section
variable {K:PySem.W.Frag}{h:Heap}{mg:Str->Option Value}{x q:Str}{st:Stmt}{ps fs:List Str}{f fa C C':Addr}{fd:FuncData}
def XDf (K:PySem.W.Frag)(mg:Str->Option Value)(x:Str)(st:Stmt)(ps:List Str):Prop:=∃ f d,Df K mg x st ps f d
def XDm (K:PySem.W.Frag)(C:Addr)(x q:Str)(st:Stmt)(ps:List Str):Prop:=∃ f d,Dm K C x q st ps f d
def XDn (K:PySem.W.Frag)(C C':Addr)(x q:Str)(st:Stmt)(ps:List Str):Prop:=∃ f d,Dm K C x q st ps f d/\Dm K C' x q st ps f d
theorem aav (X:K.In h)(G:h.Ns mainGlobals mg)(a:nsIn K mainGlobals x=some (some (.ref f)))(F:Fun K x x st f fd)(b:Fun K x x st f fd->Binds K fd ps []):XDf K mg x st ps:=⟨_,_,F,b F,af9 X G a⟩
theorem aeo {c:Addr}(X:K.In h)(G:h.Ns mainGlobals mg)(a:nsIn K mainGlobals x=some (some (.ref f)))(F:Fun K x x st f fd)(b:Fun K x x st f fd->Binds K fd ps [])(e:fd.code=.ref c):∃ f d,Df K mg x st ps f d/\d.code=.ref c:=⟨_,_,⟨F,b F,af9 X G a⟩,e⟩
theorem ac1 (m:Meth K C x f)(F:Fun K x q st f fd)(b:Fun K x q st f fd->Binds K fd ps []):XDm K C x q st ps:=⟨_,_,F,b F,m⟩
theorem mkDn (m:Meth K C x f)(m':PySem.W.findIn K (.ref C') x=some (some (.ref f)))(F:Fun K x q st f fd)(b:Fun K x q st f fd->Binds K fd ps []):XDn K C C' x q st ps:=⟨_,_,⟨F,b F,m⟩,F,b F,m',m.fn,m.kp⟩
theorem adQ (m:Meth K C x f)(F:Fun K x q st f fd)(b:Fun K x q st f fd->Binds K fd ps [])(g:PySem.W.specialIn K (.ref C) "__getattribute__"=some (some (.builtin "type.__getattribute__")))(r:readsIn K C (.type "type")=true)(c:findCls K (.ref C) (.type "type") x=some (.val (.ref f))):∃ f d,Dm K C x q st ps f d/\ClF K C f x:=⟨_,_,⟨F,b F,m⟩,g,r,c,F.kp⟩
theorem mkCl (D:Dm K C "__init__" q st ps f fd)(c:Cls K C)(m:makesIn K C=true)(k:keepIn K (.ref C)=true)(g:mg x=some (.ref C))(n:∀ y∈fs,ju K C y):Cl K mg x C f fs:=⟨c,⟨m,D.m.at_,D.m.fn,k⟩,g,n⟩
theorem adP {oc kV dc pm cd ct:Value}{od an:Option Addr}{sl:Array (Option Value)}{Z:FuncData->Prop}(X:K.In h)(G:h.Ns mainGlobals mg)(e:mg "law"=some (.ref fa))(a:nsIn K mainGlobals "law"=some (some (.ref f)))(l:K.lookup f=some ⟨oc,od,.func (fnOf "law" "law" (iD Ia) (dZ Ia) (ao Ia) .none kV dc pm an cd ct),sl⟩)(c:codeIn K cd "law"=true)(k:keepIn K (.ref f)=true)(z:∀ d,Df K mg "law" Ia ["script"] fa d->Z d):∃ d,(∀ (s:Shared)(v:Value),BindsTo s d ⟨[v],[]⟩ [("script",v)])/\Z d:=by
 have e:=e.symm.trans (af9 X G a);cases e;have F:=acy (st:=Ia) l c k;exact ⟨_,fun s v=>.of_eq rfl,z _ ⟨F,G6 F (fun _ _ _ _ _ _ _=>rfl),af9 X G a⟩⟩
end
theorem walk {l:PySem.W.OpenLaw}{q:Program}{loose:List Str}{XP:(Str->Option Value)->Heap->Prop}{YP:World->Heap->Prop}{d:DefRec}{K:Params->PySem.W.Frag}{P0 P1:Addr}(hn:l.most=some 63)(hdf:d.params.defaults=[])
  (hY:∀ (w:World)(h:Heap),YP w h->(K w.params).In h)(hYt:∀ (w:World)(h:Heap),YP w h->∀ P∈([P0,P1]:List Addr),h.get? P=some (PySem.W.tabObj #[]))(hts:∀ (w:World),∀ P∈([P0,P1]:List Addr),(K w.params).lookup P=none/\∃ c,PySem.W.codeHdIn (K w.params) c P=true)
  (F:∀ (P:Program)(w:World)(mg:Str->Option Value)(fa:Addr)(h:Heap),(K w.params).In h->h.Ns mainGlobals mg->mg d.name=some (.ref fa) ->
   ∃ fd:FuncData,(∀ (s:Shared)(u:Value),BindsTo s fd ⟨[u],[]⟩ [("script",u)])/\∀ base:Heap,BM mg base->Hs P w (K w.params) mg base CX0 14 fa fd ["script"] (Mx (K w.params) [(P0,cC.1,cC.2),(P1,gk.1,gk.2)])):
  PySem.W.WalkO q loose XP YP l.row.toRowW d [] (fun f vs=>PySem.call f vs):=
 L2.QG (n:=63) (k:=14) (x:="script") (CX:=fun _=>CX0) (sp:=fun w=>Mx (K w.params) [(P0,cC.1,cC.2),(P1,gk.1,gk.2)]) (ts:=([P0,P1]:List Addr)) hn (by decide) hdf ⟨rfl,by decide,by decide⟩ hY hYt hts (fun w mg fa h a b c=>(F _ w mg fa h a b c).imp fun _ z=>⟨z.1,fun base _ _=>z.2 base⟩) (fun _ H a ns hl _ hT hS=>⟨a,ns,rfl,hS,hl,fun t ht=>.inl (hT t.1 (by simp only [aeS,ae8,or_false] at ht ⊢;(try rcases ht with rfl| ht)<;>(try subst ht)<;>simp)),fun _=>rfl⟩) fun _ _ _ _ _ z=>z
end My
set_option hygiene false
local macro_rules | `(tactic| walk_at "k") => `(tactic| (first | k_is | kernel_rfl | rfl))
local macro_rules | `(tactic| walk_at "me") => `(tactic| exact ⟨by k_is, by walk_at "k", by k_is⟩)
local macro_rules | `(tactic| walk_at "h") => `(tactic| exact ⟨_, af9 KX G (by k_is)⟩)
local macro_rules | `(tactic| walk_at "ec") => `(tactic| exact ⟨af9 KX G (by k_is), by walk_at "k", ⟨by walk_at "k", by walk_at "k", by walk_at "k", by walk_at "k", by walk_at "k", by walk_at "k", by walk_at "k", by walk_at "k"⟩⟩)
local macro_rules | `(tactic| walk_at "d1") => `(tactic| exact My.aav KX G (by k_is) ⟨⟨_, _, _, _, _, _, _, _, _, rfl, by k_is, by k_is⟩, by k_is⟩ (fun F => My.G6 F (fun _ _ _ _ _ _ _ => rfl)))
local macro_rules | `(tactic| walk_at "m1") => `(tactic| exact My.ac1 (by walk_at "me") ⟨⟨_, _, _, _, _, _, _, _, _, rfl, by k_is, by k_is⟩, by k_is⟩ (fun F => My.G6 F (fun _ _ _ _ _ _ _ => rfl)))
local macro_rules | `(tactic| walk_at "d2") => `(tactic| exact My.aav KX G (by k_is) ⟨⟨_, _, _, _, _, _, _, _, _, rfl, by k_is, by k_is⟩, by k_is⟩ (fun F => My.Qp F (fun _ _ _ _ _ _ _ _ => rfl)))
local macro_rules | `(tactic| walk_at "m2") => `(tactic| exact My.ac1 (by walk_at "me") ⟨⟨_, _, _, _, _, _, _, _, _, rfl, by k_is, by k_is⟩, by k_is⟩ (fun F => My.Qp F (fun _ _ _ _ _ _ _ _ => rfl)))
local macro_rules | `(tactic| walk_at "d3") => `(tactic| exact My.aav KX G (by k_is) ⟨⟨_, _, _, _, _, _, _, _, _, rfl, by k_is, by k_is⟩, by k_is⟩ (fun F => My.Ze F (fun _ _ _ _ _ _ _ _ _ => rfl)))
local macro_rules | `(tactic| walk_at "m3") => `(tactic| exact My.ac1 (by walk_at "me") ⟨⟨_, _, _, _, _, _, _, _, _, rfl, by k_is, by k_is⟩, by k_is⟩ (fun F => My.Ze F (fun _ _ _ _ _ _ _ _ _ => rfl)))
local macro_rules | `(tactic| walk_at "d4") => `(tactic| exact My.aav KX G (by k_is) ⟨⟨_, _, _, _, _, _, _, _, _, rfl, by k_is, by k_is⟩, by k_is⟩ (fun F => My.Zd F (fun _ _ _ _ _ _ _ _ _ _ => rfl)))
local macro_rules | `(tactic| walk_at "m4") => `(tactic| exact My.ac1 (by walk_at "me") ⟨⟨_, _, _, _, _, _, _, _, _, rfl, by k_is, by k_is⟩, by k_is⟩ (fun F => My.Zd F (fun _ _ _ _ _ _ _ _ _ _ => rfl)))
local macro_rules | `(tactic| walk_at "d5") => `(tactic| exact My.aav KX G (by k_is) ⟨⟨_, _, _, _, _, _, _, _, _, rfl, by k_is, by k_is⟩, by k_is⟩ (fun F => My.acN F (fun _ _ _ _ _ _ _ _ _ _ _ => rfl)))
local macro_rules | `(tactic| walk_at "d6") => `(tactic| exact My.aav KX G (by k_is) ⟨⟨_, _, _, _, _, _, _, _, _, rfl, by k_is, by k_is⟩, by k_is⟩ (fun F => My.acM F (fun _ _ _ _ _ _ _ _ _ _ _ _ => rfl)))
local macro_rules | `(tactic| walk_at "d7") => `(tactic| exact My.aav KX G (by k_is) ⟨⟨_, _, _, _, _, _, _, _, _, rfl, by k_is, by k_is⟩, by k_is⟩ (fun F => My.acL F (fun _ _ _ _ _ _ _ _ _ _ _ _ _ => rfl)))
open PySem PySem.W PyProof.Rows My L2
set_option maxRecDepth 100000 in
set_option maxHeartbeats 0 in
theorem PySem.Challenge.cw_sluice_k67_moves_refused_holds : PySem.Challenge.rw_sluice_k67_moves_refused.Holds := by
 w_on;o_law;refine PySem.W.holds_open (q:=My.qv) (loose:=My.J3) (Xt:=(fun s=>xlAt My.qv [] s&& recOk (PySem.W.RowW.records PySem.Challenge.rw_sluice_k67_moves_refused.row.toRowW) s)) (XP:=XL My.qv []) (Yf:=PySem.W.Hook.obs (kmHook My.Kf My.asK My.hkE My.tsK)) (Ya:=PySem.W.Hook.val (kmHook My.Kf My.asK My.hkE My.tsK)) (YP:=PySem.W.Hook.says (kmHook My.Kf My.asK My.hkE My.tsK)) (N:=13906) My.hlE (PySem.W.Hook.of (kmHook My.Kf My.asK My.hkE My.tsK)) (PySem.W.Hook.keeps (kmHook My.Kf My.asK My.hkE My.tsK)) (fun s e=>PySem.W.xl_of s (Bool.and_eq_true_iff.mp e).1) PySem.W.XL.keeps (by rfl) (by rfl) (by rfl) (fun s e=>PySem.W.recFacts_of (Bool.and_eq_true_iff.mp e).2) (by rfl) (by first| assumption| decide+kernel) (by decide+kernel) ⟨rfl,rfl,rfl,rfl,rfl,by decide+kernel⟩ ?hw ?hc
 case hw=>w_witness2
 k_fill;refine' My.walk (l:=PySem.Challenge.rw_sluice_k67_moves_refused) (K:=My.Kf) rfl rfl (fun w h Y=>PySem.W.km_in_of Y) (fun w h Y=>PySem.W.km_tabs_of Y) ?hts ?F
 case hts =>
  intro w P hP;simp only [aeS,ae8,or_false] at hP;rcases hP with rfl| rfl
  ·exact ⟨by kernel_rfl,338,by kernel_rfl⟩
  ·exact ⟨by kernel_rfl,263,by kernel_rfl⟩
 case F =>
  intro P w mg fa h KX G hmg;refine My.adP KX G hmg (by k_is) (by k_is) (by k_is) (by k_is) fun dL aed base hbm=>?_;have B:Blt mg:=by constructor <;>exact PySem.W.mg_none_of KX G (by k_is)
  have GF:∃ t,mg "MOST_WATER"=some (.int (1000000000000) t):=by walk_at "h"
  have BR:∃ t,mg "LONGEST_NAME"=some (.int (8) t):=by walk_at "h"
  have Pk:∃ t,mg "LETTERS"=some (.str "abcdefghijklmnopqrstuvwxyz" t):=by walk_at "h"
  obtain ⟨_,_,c7⟩:XDf (Kf w.params) mg "is_water" xJ ["amount"]:=by walk_at "d1"
  obtain ⟨_,_,lY⟩:XDf (Kf w.params) mg "is_name" wj ["text"]:=by walk_at "d1"
  have BP:∃ t,mg "MOST_REACHES"=some (.int (40) t):=by walk_at "h"
  have Pj:∃ t,mg "MOUTH"=some (.int (-1) t):=by walk_at "h"
  obtain ⟨_,_,cI⟩:XDf (Kf w.params) mg "comes_to_mouth" jX ["below","start"]:=by walk_at "d2"
  obtain ⟨_,_,jD⟩:XDf (Kf w.params) mg "is_river" nP ["below"]:=by walk_at "d1"
  obtain ⟨_,_,eY⟩:XDf (Kf w.params) mg "way_of" Dz ["below","reach"]:=by walk_at "d2"
  obtain ⟨_,_,jU,Em⟩:∃ f d,Df (Kf w.params) mg "tops_first" jO ["below"] f d/\d.code=.ref 263:=My.aeo KX G (by k_is) ⟨⟨_,_,_,_,_,_,_,_,_,rfl,by k_is,by k_is⟩,by k_is⟩ (fun F=>My.G6 F (fun _ _ _ _ _ _ _=>rfl)) (by rfl);obtain ⟨_,_,iQ⟩:XDf (Kf w.params) mg "mouths_of" oA ["below"]:=by walk_at "d1"
  obtain ⟨_,_,cR⟩:XDf (Kf w.params) mg "stretch_of" qp ["below","start","stop"]:=by walk_at "d3"
  have Lh:∃ t,mg "LAST_DAY"=some (.int (1000000) t):=by walk_at "h"
  obtain ⟨_,_,cW⟩:XDf (Kf w.params) mg "is_licence" qC ["below","one"]:=by walk_at "d2"
  obtain ⟨_,_,gO⟩:XDf (Kf w.params) mg "reaches_of" qt ["below","one"]:=by walk_at "d2"
  obtain ⟨_,_,cG⟩:XDf (Kf w.params) mg "day_filed" uK ["one"]:=by walk_at "d1"
  obtain ⟨_,_,cX⟩:XDf (Kf w.params) mg "gives_back" qD ["one"]:=by walk_at "d1"
  obtain ⟨_,_,lW⟩:XDf (Kf w.params) mg "most_of" zO ["one"]:=by walk_at "d1"
  obtain ⟨_,_,cQ⟩:XDf (Kf w.params) mg "with_start" ql ["one","start"]:=by walk_at "d2"
  obtain ⟨_,_,wY,Pa⟩:∃ f d,Df (Kf w.params) mg "ranked" wg ["roll"] f d/\d.code=.ref 338:=My.aeo KX G (by k_is) ⟨⟨_,_,_,_,_,_,_,_,_,rfl,by k_is,by k_is⟩,by k_is⟩ (fun F=>My.G6 F (fun _ _ _ _ _ _ _=>rfl)) (by rfl);obtain ⟨_,_,iR⟩:XDf (Kf w.params) mg "groups_of" uJ ["roll"]:=by walk_at "d1"
  obtain ⟨_,_,jB⟩:XDf (Kf w.params) mg "wants_of" tQ ["roll","calls"]:=by walk_at "d2"
  have Ah:∃ t,mg "MOST_LICENCES"=some (.int (60) t):=by walk_at "h"
  obtain ⟨_,_,bL⟩:XDf (Kf w.params) mg "look_at_name" mZ ["name"]:=by walk_at "d1"
  obtain ⟨_,_,cU⟩:XDf (Kf w.params) mg "natural_of" qy ["below","springs"]:=by walk_at "d2"
  obtain ⟨_,_,jE⟩:XDf (Kf w.params) mg "flows_of" xK ["below","springs","moves"]:=by walk_at "d3"
  obtain ⟨_,_,gU⟩:XDf (Kf w.params) mg "count_ways" qI ["free","ways"]:=by walk_at "d2"
  obtain ⟨_,_,eX⟩:XDf (Kf w.params) mg "whole_turns" kh ["free","ways","rests"]:=by walk_at "d3"
  obtain ⟨_,_,uG⟩:XDf (Kf w.params) mg "draw" Ng ["left","way","drops"]:=by walk_at "d3"
  obtain ⟨_,_,bO⟩:XDf (Kf w.params) mg "take_whole_turns" dH ["left","ways","rests","takes","going"]:=by walk_at "d5"
  obtain ⟨_,_,dw⟩:XDf (Kf w.params) mg "take_one_turn" jf ["left","ways","rests","takes","going"]:=by walk_at "d5"
  obtain ⟨_,_,gR⟩:XDf (Kf w.params) mg "deal_turns" qG ["free","ways","rests"]:=by walk_at "d3"
  obtain ⟨_,_,tK⟩:XDf (Kf w.params) mg "deal" Gk ["below","springs","roll","calls"]:=by walk_at "d4"
  have Ph:∃ t,mg "WHOLE"=some (.int (1000) t):=by walk_at "h"
  obtain ⟨_,_,gP⟩:XDf (Kf w.params) mg "pond_start" qu ["roll","pond"]:=by walk_at "d2"
  obtain ⟨_,_,fj⟩:XDf (Kf w.params) mg "look_at_let" oE ["below","roll","ponds","kept","let"]:=by walk_at "d5"
  obtain ⟨_,_,lX⟩:XDf (Kf w.params) mg "let_out" zP ["below","roll","ponds","kept","lets"]:=by walk_at "d5"
  obtain ⟨_,_,gQ⟩:XDf (Kf w.params) mg "pond_calls" qw ["roll","ponds","kept","calls"]:=by walk_at "d4"
  obtain ⟨_,_,mj⟩:XDf (Kf w.params) mg "evening" zR ["ponds","kept","takes"]:=by walk_at "d3"
  obtain ⟨_,_,cV⟩:XDf (Kf w.params) mg "morning_of" qz ["below","roll","ponds","kept","calls","lets"]:=by walk_at "d6"
  obtain ⟨_,_,jC⟩:XDf (Kf w.params) mg "moves_of" xH ["roll","ponds","takes","lets"]:=by walk_at "d4"
  obtain ⟨_,_,lV⟩:XDf (Kf w.params) mg "used_of" lB ["roll","ponds","takes","lets"]:=by walk_at "d4"
  obtain ⟨_,_,pR⟩:XDf (Kf w.params) mg "day_of" zy ["below","springs","roll","ponds","kept","calls","lets"]:=by walk_at "d7"
  obtain ⟨_,_,vQ⟩:XDf (Kf w.params) mg "moved" HY ["roll","number","start"]:=by walk_at "d3"
  obtain ⟨_,_,lZ⟩:XDf (Kf w.params) mg "harm_of" zQ ["below","roll","number","start","record"]:=by walk_at "d5"
  have GJ:∃ t,mg "MOST_PONDS"=some (.int (10) t):=by walk_at "h"
  obtain ⟨_,_,fu⟩:XDf (Kf w.params) mg "greatest_of" kj ["before","calls"]:=by walk_at "d2"
  obtain ⟨_,_,bH⟩:XDf (Kf w.params) mg "_law_cell_at" m5 ["script","k"]:=by walk_at "d2"
  obtain ⟨_,_,cg⟩:XDf (Kf w.params) mg "_law_pebble" oH ["cell","k"]:=by walk_at "d2"
  obtain ⟨_,_,bM⟩:XDf (Kf w.params) mg "_law_pebbles" jG ["cell","many"]:=by walk_at "d2"
  obtain ⟨_,_,fB⟩:XDf (Kf w.params) mg "_law_places" oG ["many","cell"]:=by walk_at "d2"
  obtain ⟨_,_,iU⟩:XDf (Kf w.params) mg "_law_laid" uM ["tree","place"]:=by walk_at "d2"
  obtain ⟨_,_,iT⟩:XDf (Kf w.params) mg "_law_walk" uL ["river","start"]:=by walk_at "d2"
  obtain ⟨_,_,cj⟩:XDf (Kf w.params) mg "_law_moved" qK ["book","number","holder","start"]:=by walk_at "d4"
  obtain ⟨_,_,bh⟩:XDf (Kf w.params) mg "_law_kinds" qL ["way"]:=by walk_at "d1"
  obtain ⟨_,_,jF⟩:XDf (Kf w.params) mg "_law_due" xM ["river","book","number","holder","start"]:=by walk_at "d5"
  obtain ⟨_,_,gV⟩:XDf (Kf w.params) mg "_law_tried" qJ ["book","river","number","holder","start"]:=by walk_at "d5"
  obtain ⟨_,_,dJ⟩:XDf (Kf w.params) mg "_law_wished" oF ["book","river","cell"]:=by walk_at "d3"
  obtain ⟨_,_,fC⟩:XDf (Kf w.params) mg "_law_book" uN ["river","places","most","later"]:=by walk_at "d4"
  obtain ⟨_,_,gZ,lR⟩:∃ f d,Dm (Kf w.params) 493 "__init__" "Roll.__init__" jg ["self","below"] f d/\ClF (Kf w.params) 493 f "__init__":=My.adQ (by walk_at "me") ⟨⟨_,_,_,_,_,_,_,_,_,rfl,by k_is,by k_is⟩,by k_is⟩ (fun F=>My.Qp F (fun _ _ _ _ _ _ _ _=>rfl)) (by walk_at "k") (by walk_at "k") (by walk_at "k");obtain ⟨_,_,aP⟩:XDm (Kf w.params) 711 "roll" "Roll.roll" uQ ["self"]:=by walk_at "m1"
  obtain ⟨_,_,bC⟩:XDm (Kf w.params) 711 "holders" "Roll.holders" m6 ["self"]:=by walk_at "m1"
  obtain ⟨_,_,cZ⟩:XDm (Kf w.params) 711 "deeds" "Roll.deeds" qO ["self"]:=by walk_at "m1"
  obtain ⟨_,_,cJ⟩:XDm (Kf w.params) 711 "turn" "Roll.turn" uO ["self"]:=by walk_at "m1"
  obtain ⟨_,_,m,FM⟩:∃ f d,Meth (Kf w.params) 711 "file" f/\S7 (Kf w.params) "file" "Roll.file" oJ [.none] f d:=⟨_,_,(by walk_at "me"),⟨⟨_,_,_,_,_,_,_,_,_,_,_,_,rfl,by k_is,by k_is,by k_is,rfl⟩,by k_is⟩⟩;have bQ:DmD (Kf w.params) 711 "file" "Roll.file" oJ ["self","holder","start","most","back"] _ _:=⟨FM,FM.binds (fun _ _ _ _ _ _ _ us hl=>by
   obtain ⟨_,_,_,_,_,rfl⟩:=My.ac3 (show us.length=5 by simpa using hl);exact ⟨_,rfl,rfl⟩),FM.binds (fun _ _ _ _ _ _ _ us hl=>by
   obtain ⟨_,_,_,_,rfl⟩:=My.abV (show us.length=4 by simpa using hl);exact ⟨_,rfl,rfl⟩),m⟩
  obtain ⟨_,_,gW⟩:XDm (Kf w.params) 711 "sell" "Roll.sell" uP ["self","number","holder","to"]:=by walk_at "m4"
  obtain ⟨_,_,gY⟩:XDm (Kf w.params) 711 "move" "Roll.move" uR ["self","number","holder","start"]:=by walk_at "m4"
  obtain ⟨_,_,eE⟩:XDm (Kf w.params) 711 "enter" "Roll.enter" qM ["self","one","holder"]:=by walk_at "m3"
  obtain ⟨_,_,aW⟩:XDm (Kf w.params) 711 "look_at_number" "Roll.look_at_number" gw ["self","number"]:=by walk_at "m2"
  obtain ⟨_,_,aF⟩:XDm (Kf w.params) 711 "look_at_holder" "Roll.look_at_holder" gA ["self","number","holder"]:=by walk_at "m3"
  obtain ⟨_,_,bB⟩:XDm (Kf w.params) 711 "look_at_room" "Roll.look_at_room" iI ["self"]:=by walk_at "m1"
  have CT:mg "Roll"=some (.ref 493):=af9 KX G (by k_is);obtain ⟨_,_,cA⟩:XDm (Kf w.params) 711 "__init__" "Book.__init__" lC ["self","below"]:=by walk_at "m2"
  obtain ⟨_,_,m,_,FM⟩:∃ f d,Meth (Kf w.params) 711 "pond" f/\∃ t,S7 (Kf w.params) "pond" "Book.pond" oK [.int 0 t] f d:=⟨_,_,(by walk_at "me"),_,⟨⟨_,_,_,_,_,_,_,_,_,_,_,_,rfl,by k_is,by k_is,by k_is,rfl⟩,by k_is⟩⟩;have ig:DmZ (Kf w.params) 711 "pond" "Book.pond" oK ["self","number","holder","room","leak"] _ _:=⟨⟨_,FM,FM.binds (fun _ _ _ _ _ _ _ us hl=>by
   obtain ⟨_,_,_,_,rfl⟩:=My.abV (show us.length=4 by simpa using hl);exact ⟨_,rfl,rfl⟩)⟩,FM.binds (fun _ _ _ _ _ _ _ us hl=>by
   obtain ⟨_,_,_,_,_,rfl⟩:=My.ac3 (show us.length=5 by simpa using hl);exact ⟨_,rfl,rfl⟩),m⟩
  obtain ⟨_,_,aY⟩:XDm (Kf w.params) 711 "has_pond" "Book.has_pond" jh ["self","number"]:=by walk_at "m2"
  obtain ⟨_,_,m,FM⟩:∃ f d,Meth (Kf w.params) 711 "run" f/\S7 (Kf w.params) "run" "Book.run" tU [.none] f d:=⟨_,_,(by walk_at "me"),⟨⟨_,_,_,_,_,_,_,_,_,_,_,_,rfl,by k_is,by k_is,by k_is,rfl⟩,by k_is⟩⟩;have fP:DmD (Kf w.params) 711 "run" "Book.run" tU ["self","springs","calls","lets"] _ _:=⟨FM,FM.binds (fun _ _ _ _ _ _ _ us hl=>by
   obtain ⟨_,_,_,_,rfl⟩:=My.abV (show us.length=4 by simpa using hl);exact ⟨_,rfl,rfl⟩),FM.binds (fun _ _ _ _ _ _ _ us hl=>by
   obtain ⟨_,_,_,rfl⟩:=My.adR (show us.length=3 by simpa using hl);exact ⟨_,rfl,rfl⟩),m⟩
  obtain ⟨_,_,aO⟩:XDm (Kf w.params) 711 "look_at_amounts" "Book.look_at_amounts" dB ["self","amounts","count"]:=by walk_at "m3"
  obtain ⟨_,_,dM⟩:XDm (Kf w.params) 711 "record" "Book.record" kE ["self"]:=by walk_at "m1"
  obtain ⟨_,_,bT⟩:XDm (Kf w.params) 711 "look_move" "Book.look_move" jY ["self","number","start"]:=by walk_at "m3"
  have dW:Cl (Kf w.params) mg "Book" 711 _ ["below","day","licences","names","done","dug","keeps","ran","last","greatest"]:=My.mkCl cA ⟨by walk_at "k",by walk_at "k",by walk_at "k",by walk_at "k"⟩ (by walk_at "k") (by walk_at "k") (af9 KX G (by k_is)) (by simp only [aeS,ae8,or_false,forall_eq_or_imp,forall_eq];exact ⟨by walk_at "k",by walk_at "k",by walk_at "k",by walk_at "k",by walk_at "k",by walk_at "k",by walk_at "k",by walk_at "k",by walk_at "k",by walk_at "k"⟩);have pJ:nZ (Kf w.params) mg "SluiceError" 43:=by walk_at "ec"
  have iY:nZ (Kf w.params) mg "NoNumber" 92:=by walk_at "ec"
  have iW:nZ (Kf w.params) mg "NotYours" 116:=by walk_at "ec"
  have bY:nZ (Kf w.params) mg "NoLicence" 80:=by walk_at "ec"
  have pL:nZ (Kf w.params) mg "Fixed" 212:=by walk_at "ec"
  have pK:nZ (Kf w.params) mg "Harms" 224:=by walk_at "ec"
  have Jh:nZ (Kf w.params) mg "NoCut" 176:=by walk_at "ec"
  have vP:nZ (Kf w.params) mg "NoDay" 200:=by walk_at "ec"
  have jA:nZ (Kf w.params) mg "NoHolder" 104:=by walk_at "ec"
  have Bj:nZ (Kf w.params) mg "NoPaper" 164:=by walk_at "ec"
  have jt:nZ (Kf w.params) mg "NoPond" 188:=by walk_at "ec"
  have Bh:nZ (Kf w.params) mg "NoReach" 68:=by walk_at "ec"
  have lM:nZ (Kf w.params) mg "NoRiver" 56:=by walk_at "ec"
  have Jg:nZ (Kf w.params) mg "NoRow" 236:=by walk_at "ec"
  have yx:nZ (Kf w.params) mg "NotAlone" 128:=by walk_at "ec"
  have Bk:nZ (Kf w.params) mg "Full" 152:=by walk_at "ec"
  have Bg:nZ (Kf w.params) mg "TooMuch" 140:=by walk_at "ec"
  have m_kall:([92,116,80,212,224]:List Addr).map (fun a=>([92,116,80,212,224,176,200,104,164,188,68,56,236,128,152,140]:List Addr).map (fun b=>kitOne (Kf w.params) (.ref a) (.ref b)))=(List.range 5).map fun i=>(List.range 16).map fun j=>some (decide (j=i)):=by kernel_rfl
  have KB:kitOne (Kf w.params) (.ref 711) (.ref 493)=some true:=by walk_at "k"
  have y0:PySem.W.codeHdIn (Kf w.params) 338 334=true:=by kernel_rfl
  have y1:PySem.W.codeHdIn (Kf w.params) 263 259=true:=by kernel_rfl
  have RB:BC (Kf w.params) 711:=aaL dW;have RR:RC (Kf w.params) 711:=RB.r;have TT67:Zg (Kf w.params) [92,116,80,212,224] [92,116,80,212,224,176,200,104,164,188,68,56,236,128,152,140] 43:=⟨ad8 (Pr:=fun _ a=>PySem.W.exmOne (Kf w.params) (.ref a) (.ref 43)=some true) (by walk_at "k") (by walk_at "k") (by walk_at "k") (by walk_at "k") (by walk_at "k"),adS m_kall,ad8 (Pr:=fun _ a=>kitOne (Kf w.params) (.ref a) (.type "ValueError")=some true) (by walk_at "k") (by walk_at "k") (by walk_at "k") (by walk_at "k") (by walk_at "k"),ad8 (Pr:=fun _ a=>S5 (Kf w.params) a) iY.x iW.x bY.x pL.x pK.x⟩;have HB:aeG (Kf w.params) 711:=⟨by walk_at "k",by walk_at "k",by walk_at "k",by walk_at "k",by walk_at "k"⟩;have C:Mth mg:=⟨Pj⟩;have CS:Cst mg:=⟨Pj,BP⟩;have CNm:CN mg:=⟨BR,Pk⟩;have nd:([(334,cC.1,cC.2),(259,gk.1,gk.2)].map (·.1)).Nodup:=by
   show ([334,259]:List Addr).Nodup;decide
  have hT2:TT2 334 [(334,cC.1,cC.2),(259,gk.1,gk.2)]:=⟨afd,nd⟩;have hT:TT1 259 [(334,cC.1,cC.2),(259,gk.1,gk.2)]:=⟨ae4 _ afd,nd⟩;clear nd;generalize ([(334,cC.1,cC.2),(259,gk.1,gk.2)]:dX)=T at hT hT2 ⊢;have g1:=abu (P:=P) (w:=w) (base:=base) eY C;have g2:=Rj (P:=P) (w:=w) (base:=base) cI B CS;have g3:=abJ cI g2 jD B CS;have g4:=Ra (P:=P) (w:=w) (base:=base) c7 GF;have g5:=Rg (T:=T) eY c7 g4 g1 cW B C Lh;have g6:=aao (P:=P) (w:=w) (base:=base) bH B;have g7:=abA (P:=P) (w:=w) (base:=base) cg;have g8:=aaf cg g7 bM B;have g9:=aac (P:=P) (w:=w) (base:=base) (T:=T) iT;have g10:=aad (T:=T) eY g1 jU Em y1 hT hbm B;have g11:=abB (T:=T) jU g10 cU B C;have g12:=Rf eY g1 cR C;have g13:=K7 cR g12 gO;have g14:=aah (P:=P) (w:=w) (base:=base) lW;have g15:=Rb (T:=T) lW g14 jB B;have g16:=Ri (P:=P) (w:=w) (base:=base) (T:=T) gU B;have g17:=adH (T:=T) gU g16 eX B;have g18:=aal (P:=P) (w:=w) (base:=base) (T:=T) uG;have g19:=adI (T:=T) eX uG g17 g18 bO B;have g20:=adJ (T:=T) uG g18 dw B;have g21:=adN (T:=T) bO dw g19 g20 gR B;have g22:=abO (P:=P) (w:=w) (base:=base) cG;have g23:=NP (T:=T) cG g22 wY Pa y0 hT2 hbm B;have g24:=NZ (T:=T) cG g22 wY g23 iR B;have g25:=aam (T:=T) cU gO jB gR iR g11 g15 g24 g13 g21 tK B;have g26:=adK (P:=P) (w:=w) (base:=base) (T:=T) gQ B;have g27:=abM (P:=P) (w:=w) (base:=base) (T:=T) mj B Ph;have g28:=NQ (P:=P) (w:=w) (base:=base) (T:=T) iQ B C;have g29:=Rh (T:=T) cU cR g12 g11 jE;have g30:=abH (P:=P) (w:=w) (base:=base) fj;have g31:=aby (P:=P) (w:=w) (base:=base) gP;have g32:=adL (T:=T) fj g30 lX B;have g33:=aai (T:=T) gQ lX g32 g26 cV B;have g34:=abC (T:=T) gP g31 jC B;have g35:=NT (P:=P) (w:=w) (base:=base) (T:=T) lY B CNm;have g36:=Ih (T:=T) lY g35 bL jA;have g37:=Rp (P:=P) (w:=w) (base:=base) (mg:=mg) aP B RR;have g38:=Ik (P:=P) (w:=w) (base:=base) (mg:=mg) bC B RR;have g39:=N6 (P:=P) (w:=w) (base:=base) (mg:=mg) cZ B RR;have g40:=Rm (P:=P) (w:=w) (base:=base) (mg:=mg) (T:=T) (c:=eC) cJ RR;have g41:=N5 (P:=P) (w:=w) (base:=base) (mg:=mg) eE B RR;have g42:=Ro (P:=P) (w:=w) (base:=base) (mg:=mg) (T:=T) bB B RR Bk Ah;have g43:=Ii (P:=P) (w:=w) (base:=base) (mg:=mg) (T:=T) aW B RR iY;have g44:=Ij (T:=T) aW RR g43 aF B iW;have g45:=abr (P:=P) (w:=w) (base:=base) cQ;have g46:=Rn (T:=T) (c:=eC) bL RR aF g44 g36 gW;have g47:=Rr (T:=T) (c:=eC) cW bL eE bB RR g36 bY g5 g42 g41 bQ B C;have g48:=Rq (T:=T) (c:=eC) jD g3 gZ B RR lM;have g49:=Ru (T:=T) (c:=eC) RB gZ g48 cA CT lR;have g50:=adM (P:=P) (w:=w) (base:=base) cX C;have g51:=abK (P:=P) (w:=w) (base:=base) (mg:=mg) (T:=T) aY B RB;have g52:=aae (T:=T) (c:=eC) c7 g4 RR aF g44 RB cX aY g50 g51 ig B jt GJ Ph;have g53:=Rc (T:=T) cX g50 lV B C;have g54:=aan (T:=T) tK mj iQ jE cV jC lV g33 g25 g27 g29 g34 g28 g53 pR B;have g55:=abL (P:=P) (w:=w) (base:=base) (T:=T) fu B;have g56:=abG (T:=T) c7 g4 aO B vP;have g57:=abx (P:=P) (w:=w) (base:=base) (mg:=mg) (T:=T) dM B RB;have g58:=abw (T:=T) (c:=eC) cV aP cJ RR RB g33 pR fu aO g56 g54 g37 g55 g40 fP B;have g59:=abE (T:=T) cQ g45 vQ B;have g60:=aak (T:=T) tK g25 vQ g59 lZ B;have g61:=abQ (T:=T) RR RB aY g51 lZ pL pK g60 bT;have g62:=Rt (T:=T) (c:=eC) cW RR aF cQ g44 bY g5 RB g45 bT g61 gY B;have g63:=abz (T:=T) cg g7 fB B;have g64:=aaj (P:=P) (w:=w) (base:=base) (T:=T) iU B;have g65:=abI (P:=P) (w:=w) (base:=base) (T:=T) bh;have g66:=abD (T:=T) (c:=eC) RR bY pL pK gY g62 cj B pJ TT67 iY iW Jh vP jA Bj jt Bh lM Jg yx Bk Bg;have g67:=abN (T:=T) iT aP bC RR g37 bh g38 g65 g9 jF B;have g68:=abv (T:=T) aP cZ RR RB dM g37 bh cj g65 jF g39 g67 g66 g57 gV B;have g69:=abt (T:=T) bM bC RR g38 gV g8 g68 dJ B;have g70:=abP (T:=T) (c:=eC) cJ RR gW bQ cA ig g40 g49 g47 g52 g46 fC B dW;exact abF bH bM aP RR g37 fP fB iU bh cj g65 g66 g8 dJ fC g6 g63 g64 g70 g58 g69 aed B dW CT HB KB
