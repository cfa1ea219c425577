import PyProof.Rows.All
import Wide.All
import OpenK.AllK
import Wide.FinOn
import Lean
import PyProof.EqAt
import PyProof.EqKinds
import PyProof.TupleCall
import KE.KSortTup
import PySem.Challenge.RW_sluice_k28_no_paper
set_option Elab.async false
set_option linter.all false
set_option maxRecDepth 100000
set_option maxHeartbeats 4000000
namespace L2
open PySem
def defArgs (s : Stmt) : Arguments := match s with
  | .FunctionDef _ a _ _ _ _ _ _ _ _ => a
  | _ => { posonlyargs := [], args := [], vararg := none, kwonlyargs := [], kw_defaults := [], kwarg := none, defaults := [] }
def defBody (s : Stmt) : List Stmt := match s with
  | .FunctionDef _ _ b _ _ _ _ _ _ _ => b
  | _ => []
def defScope (s : Stmt) : Scope := match s with
  | .FunctionDef _ _ _ _ _ _ sc _ _ _ => sc
  | _ => { kind := .function, names := [], isGenerator := false, isCoroutine := false }
end L2
namespace My
open PySem L2
/-! ### what the top leaves -/
noncomputable def top0 (i : Nat) : Stmt := PySem.Challenge.pw_sluice_k28_no_paper.main.body.getD i (.Pass ⟨0, 0, 0, 0⟩)
noncomputable def en (P : Params) (x : Str) (t : Tok) (v : Value) : DictEntry := ⟨PyData.keyHash P x, .str x t, v⟩
noncomputable def Kf : Params → PySem.W.Frag := fun P => (nat_lit 2, { cls := .none, data := Data.dict #[] }) ::
 (nat_lit 3, { cls := .type "dict", data := Data.dict #[en P "__name__" 165 (.str "law_sluice_k28_no_paper" 619), en P "__doc__" 166 .none, en P "__package__" 167 .none, en P "__loader__" 168 (.builtin "__main__.__loader__#opaque"), en P "__spec__" 169 .none, en P "__annotations__" 170 (.ref 6), en P "__builtins__" 171 (.ref 4), en P "__file__" 173 (.str "/claim/cut.py" 172), en P "__cached__" 174 .none, en P "SluiceError" 206 (.ref 24), en P "NoRiver" 222 (.ref 37), en P "NoReach" 238 (.ref 49), en P "NoLicence" 254 (.ref 61), en P "NoNumber" 270 (.ref 73), en P "NoHolder" 286 (.ref 85), en P "NotYours" 302 (.ref 97), en P "NotAlone" 318 (.ref 109), en P "TooMuch" 334 (.ref 121), en P "Full" 350 (.ref 133), en P "NoPaper" 366 (.ref 145), en P "NoCut" 382 (.ref 157), en P "NoPond" 398 (.ref 169), en P "NoDay" 414 (.ref 181), en P "Fixed" 430 (.ref 193), en P "Harms" 446 (.ref 205), en P "NoRow" 462 (.ref 217), en P "MOUTH" 467 (.int (-1) 466), en P "way_of" 476 (.ref 226), en P "tops_first" 484 (.ref 233), en P "stretch_of" 494 (.ref 240), en P "natural_of" 506 (.ref 247), en P "reaches_of" 520 (.ref 254), en P "day_filed" 527 (.ref 261), en P "most_of" 534 (.ref 268), en P "wants_of" 540 (.ref 273), en P "holds_of" 555 (.ref 280), en P "free_of" 561 (.ref 285), en P "dry_of" 569 (.ref 290), en P "comes_ahead" 582 (.ref 297), en P "stretches_of" 588 (.ref 302), en P "who_holds" 594 (.ref 307), en P "all_ahead" 600 (.ref 312), en P "first_showing" 612 (.ref 319), en P "paper_of" 618 (.ref 324), en P "_law_cell_at" 628 (.ref 331), en P "_law_draw" 638 (.ref 338), en P "_law_mixed" 644 (.ref 343), en P "_law_river" 650 (.ref 348), en P "_law_way" 659 (.ref 355), en P "_law_stretch" 668 (.ref 362), en P "_law_free" 684 (.ref 369), en P "_law_drawn" 700 (.ref 376), en P "_law_springs" 715 (.ref 383), en P "_law_no_reach" 729 (.ref 390), en P "_law_other_name" 736 (.ref 397), en P "_law_refused" 750 (.ref 404), en P "law" 756 (.ref 409)] 57 }) ::
 (nat_lit 15, { cls := .type "tuple", data := Data.seq #[.type "ValueError"] }) ::
 (nat_lit 22, { cls := .type "tuple", data := Data.seq #[] }) ::
 (nat_lit 23, { cls := .type "dict", data := Data.dict #[en P "__module__" 196 (.str "sluice.errors" 187), en P "__firstlineno__" 200 (.int 2 199), en P "__static_attributes__" 201 (.ref 22), en P "__weakref__" 203 (.ref 25), en P "__doc__" 204 .none] 3 }) ::
 (nat_lit 24, { cls := .type "type", data := Data.cls { name := "SluiceError", bases := [.type "ValueError"], mro := [.ref 24, .type "ValueError", .type "Exception", .type "BaseException", .type "object"], ns := 23, qualname := "SluiceError", subclasses := [.ref 37, .ref 49, .ref 61, .ref 73, .ref 85, .ref 97, .ref 109, .ref 121, .ref 133, .ref 145, .ref 157, .ref 169, .ref 181, .ref 193, .ref 205, .ref 217] }, slots := #[some (.ref 15), none, some (.str "SluiceError" 189), some (.str "SluiceError" 197), some (.builtin "ValueError.__new__"), some (.bool true)] }) ::
 (nat_lit 25, { cls := .type "getset_descriptor", data := Data.fields #[.str "__weakref__" 202, .ref 24, .builtin "ExceptionGroup.__weakref__", .none] }) ::
 (nat_lit 28, { cls := .type "tuple", data := Data.seq #[.ref 24] }) ::
 (nat_lit 35, { cls := .type "tuple", data := Data.seq #[] }) ::
 (nat_lit 36, { cls := .type "dict", data := Data.dict #[en P "__module__" 214 (.str "sluice.errors" 187), en P "__firstlineno__" 218 (.int 4 217), en P "__static_attributes__" 219 (.ref 35), en P "__doc__" 220 .none] 2 }) ::
 (nat_lit 37, { cls := .type "type", data := Data.cls { name := "NoRiver", bases := [.ref 24], mro := [.ref 37, .ref 24, .type "ValueError", .type "Exception", .type "BaseException", .type "object"], ns := 36, qualname := "NoRiver" }, slots := #[some (.ref 28), none, some (.str "NoRiver" 207), some (.str "NoRiver" 215), some (.builtin "ValueError.__new__"), some (.bool true)] }) ::
 (nat_lit 40, { cls := .type "tuple", data := Data.seq #[.ref 24] }) ::
 (nat_lit 47, { cls := .type "tuple", data := Data.seq #[] }) ::
 (nat_lit 48, { cls := .type "dict", data := Data.dict #[en P "__module__" 230 (.str "sluice.errors" 187), en P "__firstlineno__" 234 (.int 6 233), en P "__static_attributes__" 235 (.ref 47), en P "__doc__" 236 .none] 2 }) ::
 (nat_lit 49, { cls := .type "type", data := Data.cls { name := "NoReach", bases := [.ref 24], mro := [.ref 49, .ref 24, .type "ValueError", .type "Exception", .type "BaseException", .type "object"], ns := 48, qualname := "NoReach" }, slots := #[some (.ref 40), none, some (.str "NoReach" 223), some (.str "NoReach" 231), some (.builtin "ValueError.__new__"), some (.bool true)] }) ::
 (nat_lit 52, { cls := .type "tuple", data := Data.seq #[.ref 24] }) ::
 (nat_lit 59, { cls := .type "tuple", data := Data.seq #[] }) ::
 (nat_lit 60, { cls := .type "dict", data := Data.dict #[en P "__module__" 246 (.str "sluice.errors" 187), en P "__firstlineno__" 250 (.int 8 249), en P "__static_attributes__" 251 (.ref 59), en P "__doc__" 252 .none] 2 }) ::
 (nat_lit 61, { cls := .type "type", data := Data.cls { name := "NoLicence", bases := [.ref 24], mro := [.ref 61, .ref 24, .type "ValueError", .type "Exception", .type "BaseException", .type "object"], ns := 60, qualname := "NoLicence" }, slots := #[some (.ref 52), none, some (.str "NoLicence" 239), some (.str "NoLicence" 247), some (.builtin "ValueError.__new__"), some (.bool true)] }) ::
 (nat_lit 64, { cls := .type "tuple", data := Data.seq #[.ref 24] }) ::
 (nat_lit 71, { cls := .type "tuple", data := Data.seq #[] }) ::
 (nat_lit 72, { cls := .type "dict", data := Data.dict #[en P "__module__" 262 (.str "sluice.errors" 187), en P "__firstlineno__" 266 (.int 10 265), en P "__static_attributes__" 267 (.ref 71), en P "__doc__" 268 .none] 2 }) ::
 (nat_lit 73, { cls := .type "type", data := Data.cls { name := "NoNumber", bases := [.ref 24], mro := [.ref 73, .ref 24, .type "ValueError", .type "Exception", .type "BaseException", .type "object"], ns := 72, qualname := "NoNumber" }, slots := #[some (.ref 64), none, some (.str "NoNumber" 255), some (.str "NoNumber" 263), some (.builtin "ValueError.__new__"), some (.bool true)] }) ::
 (nat_lit 76, { cls := .type "tuple", data := Data.seq #[.ref 24] }) ::
 (nat_lit 83, { cls := .type "tuple", data := Data.seq #[] }) ::
 (nat_lit 84, { cls := .type "dict", data := Data.dict #[en P "__module__" 278 (.str "sluice.errors" 187), en P "__firstlineno__" 282 (.int 12 281), en P "__static_attributes__" 283 (.ref 83), en P "__doc__" 284 .none] 2 }) ::
 (nat_lit 85, { cls := .type "type", data := Data.cls { name := "NoHolder", bases := [.ref 24], mro := [.ref 85, .ref 24, .type "ValueError", .type "Exception", .type "BaseException", .type "object"], ns := 84, qualname := "NoHolder" }, slots := #[some (.ref 76), none, some (.str "NoHolder" 271), some (.str "NoHolder" 279), some (.builtin "ValueError.__new__"), some (.bool true)] }) ::
 (nat_lit 88, { cls := .type "tuple", data := Data.seq #[.ref 24] }) ::
 (nat_lit 95, { cls := .type "tuple", data := Data.seq #[] }) ::
 (nat_lit 96, { cls := .type "dict", data := Data.dict #[en P "__module__" 294 (.str "sluice.errors" 187), en P "__firstlineno__" 298 (.int 14 297), en P "__static_attributes__" 299 (.ref 95), en P "__doc__" 300 .none] 2 }) ::
 (nat_lit 97, { cls := .type "type", data := Data.cls { name := "NotYours", bases := [.ref 24], mro := [.ref 97, .ref 24, .type "ValueError", .type "Exception", .type "BaseException", .type "object"], ns := 96, qualname := "NotYours" }, slots := #[some (.ref 88), none, some (.str "NotYours" 287), some (.str "NotYours" 295), some (.builtin "ValueError.__new__"), some (.bool true)] }) ::
 (nat_lit 100, { cls := .type "tuple", data := Data.seq #[.ref 24] }) ::
 (nat_lit 107, { cls := .type "tuple", data := Data.seq #[] }) ::
 (nat_lit 108, { cls := .type "dict", data := Data.dict #[en P "__module__" 310 (.str "sluice.errors" 187), en P "__firstlineno__" 314 (.int 16 313), en P "__static_attributes__" 315 (.ref 107), en P "__doc__" 316 .none] 2 }) ::
 (nat_lit 109, { cls := .type "type", data := Data.cls { name := "NotAlone", bases := [.ref 24], mro := [.ref 109, .ref 24, .type "ValueError", .type "Exception", .type "BaseException", .type "object"], ns := 108, qualname := "NotAlone" }, slots := #[some (.ref 100), none, some (.str "NotAlone" 303), some (.str "NotAlone" 311), some (.builtin "ValueError.__new__"), some (.bool true)] }) ::
 (nat_lit 112, { cls := .type "tuple", data := Data.seq #[.ref 24] }) ::
 (nat_lit 119, { cls := .type "tuple", data := Data.seq #[] }) ::
 (nat_lit 120, { cls := .type "dict", data := Data.dict #[en P "__module__" 326 (.str "sluice.errors" 187), en P "__firstlineno__" 330 (.int 18 329), en P "__static_attributes__" 331 (.ref 119), en P "__doc__" 332 .none] 2 }) ::
 (nat_lit 121, { cls := .type "type", data := Data.cls { name := "TooMuch", bases := [.ref 24], mro := [.ref 121, .ref 24, .type "ValueError", .type "Exception", .type "BaseException", .type "object"], ns := 120, qualname := "TooMuch" }, slots := #[some (.ref 112), none, some (.str "TooMuch" 319), some (.str "TooMuch" 327), some (.builtin "ValueError.__new__"), some (.bool true)] }) ::
 (nat_lit 124, { cls := .type "tuple", data := Data.seq #[.ref 24] }) ::
 (nat_lit 131, { cls := .type "tuple", data := Data.seq #[] }) ::
 (nat_lit 132, { cls := .type "dict", data := Data.dict #[en P "__module__" 342 (.str "sluice.errors" 187), en P "__firstlineno__" 346 (.int 20 345), en P "__static_attributes__" 347 (.ref 131), en P "__doc__" 348 .none] 2 }) ::
 (nat_lit 133, { cls := .type "type", data := Data.cls { name := "Full", bases := [.ref 24], mro := [.ref 133, .ref 24, .type "ValueError", .type "Exception", .type "BaseException", .type "object"], ns := 132, qualname := "Full" }, slots := #[some (.ref 124), none, some (.str "Full" 335), some (.str "Full" 343), some (.builtin "ValueError.__new__"), some (.bool true)] }) ::
 (nat_lit 136, { cls := .type "tuple", data := Data.seq #[.ref 24] }) ::
 (nat_lit 143, { cls := .type "tuple", data := Data.seq #[] }) ::
 (nat_lit 144, { cls := .type "dict", data := Data.dict #[en P "__module__" 358 (.str "sluice.errors" 187), en P "__firstlineno__" 362 (.int 22 361), en P "__static_attributes__" 363 (.ref 143), en P "__doc__" 364 .none] 2 }) ::
 (nat_lit 145, { cls := .type "type", data := Data.cls { name := "NoPaper", bases := [.ref 24], mro := [.ref 145, .ref 24, .type "ValueError", .type "Exception", .type "BaseException", .type "object"], ns := 144, qualname := "NoPaper" }, slots := #[some (.ref 136), none, some (.str "NoPaper" 351), some (.str "NoPaper" 359), some (.builtin "ValueError.__new__"), some (.bool true)] }) ::
 (nat_lit 148, { cls := .type "tuple", data := Data.seq #[.ref 24] }) ::
 (nat_lit 155, { cls := .type "tuple", data := Data.seq #[] }) ::
 (nat_lit 156, { cls := .type "dict", data := Data.dict #[en P "__module__" 374 (.str "sluice.errors" 187), en P "__firstlineno__" 378 (.int 24 377), en P "__static_attributes__" 379 (.ref 155), en P "__doc__" 380 .none] 2 }) ::
 (nat_lit 157, { cls := .type "type", data := Data.cls { name := "NoCut", bases := [.ref 24], mro := [.ref 157, .ref 24, .type "ValueError", .type "Exception", .type "BaseException", .type "object"], ns := 156, qualname := "NoCut" }, slots := #[some (.ref 148), none, some (.str "NoCut" 367), some (.str "NoCut" 375), some (.builtin "ValueError.__new__"), some (.bool true)] }) ::
 (nat_lit 160, { cls := .type "tuple", data := Data.seq #[.ref 24] }) ::
 (nat_lit 167, { cls := .type "tuple", data := Data.seq #[] }) ::
 (nat_lit 168, { cls := .type "dict", data := Data.dict #[en P "__module__" 390 (.str "sluice.errors" 187), en P "__firstlineno__" 394 (.int 26 393), en P "__static_attributes__" 395 (.ref 167), en P "__doc__" 396 .none] 2 }) ::
 (nat_lit 169, { cls := .type "type", data := Data.cls { name := "NoPond", bases := [.ref 24], mro := [.ref 169, .ref 24, .type "ValueError", .type "Exception", .type "BaseException", .type "object"], ns := 168, qualname := "NoPond" }, slots := #[some (.ref 160), none, some (.str "NoPond" 383), some (.str "NoPond" 391), some (.builtin "ValueError.__new__"), some (.bool true)] }) ::
 (nat_lit 172, { cls := .type "tuple", data := Data.seq #[.ref 24] }) ::
 (nat_lit 179, { cls := .type "tuple", data := Data.seq #[] }) ::
 (nat_lit 180, { cls := .type "dict", data := Data.dict #[en P "__module__" 406 (.str "sluice.errors" 187), en P "__firstlineno__" 410 (.int 28 409), en P "__static_attributes__" 411 (.ref 179), en P "__doc__" 412 .none] 2 }) ::
 (nat_lit 181, { cls := .type "type", data := Data.cls { name := "NoDay", bases := [.ref 24], mro := [.ref 181, .ref 24, .type "ValueError", .type "Exception", .type "BaseException", .type "object"], ns := 180, qualname := "NoDay" }, slots := #[some (.ref 172), none, some (.str "NoDay" 399), some (.str "NoDay" 407), some (.builtin "ValueError.__new__"), some (.bool true)] }) ::
 (nat_lit 184, { cls := .type "tuple", data := Data.seq #[.ref 24] }) ::
 (nat_lit 191, { cls := .type "tuple", data := Data.seq #[] }) ::
 (nat_lit 192, { cls := .type "dict", data := Data.dict #[en P "__module__" 422 (.str "sluice.errors" 187), en P "__firstlineno__" 426 (.int 30 425), en P "__static_attributes__" 427 (.ref 191), en P "__doc__" 428 .none] 2 }) ::
 (nat_lit 193, { cls := .type "type", data := Data.cls { name := "Fixed", bases := [.ref 24], mro := [.ref 193, .ref 24, .type "ValueError", .type "Exception", .type "BaseException", .type "object"], ns := 192, qualname := "Fixed" }, slots := #[some (.ref 184), none, some (.str "Fixed" 415), some (.str "Fixed" 423), some (.builtin "ValueError.__new__"), some (.bool true)] }) ::
 (nat_lit 196, { cls := .type "tuple", data := Data.seq #[.ref 24] }) ::
 (nat_lit 203, { cls := .type "tuple", data := Data.seq #[] }) ::
 (nat_lit 204, { cls := .type "dict", data := Data.dict #[en P "__module__" 438 (.str "sluice.errors" 187), en P "__firstlineno__" 442 (.int 32 441), en P "__static_attributes__" 443 (.ref 203), en P "__doc__" 444 .none] 2 }) ::
 (nat_lit 205, { cls := .type "type", data := Data.cls { name := "Harms", bases := [.ref 24], mro := [.ref 205, .ref 24, .type "ValueError", .type "Exception", .type "BaseException", .type "object"], ns := 204, qualname := "Harms" }, slots := #[some (.ref 196), none, some (.str "Harms" 431), some (.str "Harms" 439), some (.builtin "ValueError.__new__"), some (.bool true)] }) ::
 (nat_lit 208, { cls := .type "tuple", data := Data.seq #[.ref 24] }) ::
 (nat_lit 215, { cls := .type "tuple", data := Data.seq #[] }) ::
 (nat_lit 216, { cls := .type "dict", data := Data.dict #[en P "__module__" 454 (.str "sluice.errors" 187), en P "__firstlineno__" 458 (.int 34 457), en P "__static_attributes__" 459 (.ref 215), en P "__doc__" 460 .none] 2 }) ::
 (nat_lit 217, { cls := .type "type", data := Data.cls { name := "NoRow", bases := [.ref 24], mro := [.ref 217, .ref 24, .type "ValueError", .type "Exception", .type "BaseException", .type "object"], ns := 216, qualname := "NoRow" }, slots := #[some (.ref 208), none, some (.str "NoRow" 447), some (.str "NoRow" 455), some (.builtin "ValueError.__new__"), some (.bool true)] }) ::
 (nat_lit 220, { cls := .type "tuple", data := Data.seq #[] }) ::
 (nat_lit 222, { cls := .type "tuple", data := Data.seq #[.str "below" 471, .str "reach" 472, .str "way" 473] }) ::
 (nat_lit 223, { cls := .type "tuple", data := Data.seq #[] }) ::
 (nat_lit 225, { cls := .type "code", data := Data.fields #[.str "way_of" 468, .str "way_of" 469, .str "/claim/cut.py" 470, .int 38 0, .int 2 0, .int 0 0, .int 0 0, .int 3 0, .ref 220, .bool true, .int 181 0, .ref 221, .none, .ref 222, .ref 223, .ref 224, .int 474 0, .int 38 0, .str "/claim/cut.py" 475] }) ::
 (nat_lit 226, ⟨.type "function", none, .func (PySem.W.fnOf "way_of" "way_of" (defArgs (top0 20)) (defBody (top0 20)) (defScope (top0 20)) .none .none .none (.str "sluice.rivers" 463) none (.ref 225) .none), #[]⟩) ::
 (nat_lit 227, { cls := .type "tuple", data := Data.seq #[] }) ::
 (nat_lit 229, { cls := .type "tuple", data := Data.seq #[.str "below" 480] }) ::
 (nat_lit 230, { cls := .type "tuple", data := Data.seq #[.str "below" 481] }) ::
 (nat_lit 232, { cls := .type "code", data := Data.fields #[.str "tops_first" 477, .str "tops_first" 478, .str "/claim/cut.py" 479, .int 43 0, .int 1 0, .int 0 0, .int 0 0, .int 3 0, .ref 227, .bool true, .int 181 0, .ref 228, .none, .ref 229, .ref 230, .ref 231, .int 482 0, .int 43 0, .str "/claim/cut.py" 483] }) ::
 (nat_lit 233, ⟨.type "function", none, .func (PySem.W.fnOf "tops_first" "tops_first" (defArgs (top0 21)) (defBody (top0 21)) (defScope (top0 21)) .none .none .none (.str "sluice.rivers" 463) none (.ref 232) .none), #[]⟩) ::
 (nat_lit 234, { cls := .type "tuple", data := Data.seq #[] }) ::
 (nat_lit 236, { cls := .type "tuple", data := Data.seq #[.str "below" 488, .str "start" 489, .str "stop" 490, .str "way" 491] }) ::
 (nat_lit 237, { cls := .type "tuple", data := Data.seq #[] }) ::
 (nat_lit 239, { cls := .type "code", data := Data.fields #[.str "stretch_of" 485, .str "stretch_of" 486, .str "/claim/cut.py" 487, .int 45 0, .int 3 0, .int 0 0, .int 0 0, .int 3 0, .ref 234, .bool true, .int 181 0, .ref 235, .none, .ref 236, .ref 237, .ref 238, .int 492 0, .int 45 0, .str "/claim/cut.py" 493] }) ::
 (nat_lit 240, ⟨.type "function", none, .func (PySem.W.fnOf "stretch_of" "stretch_of" (defArgs (top0 22)) (defBody (top0 22)) (defScope (top0 22)) .none .none .none (.str "sluice.rivers" 463) none (.ref 239) .none), #[]⟩) ::
 (nat_lit 241, { cls := .type "tuple", data := Data.seq #[] }) ::
 (nat_lit 243, { cls := .type "tuple", data := Data.seq #[.str "below" 500, .str "springs" 501, .str "flows" 502, .str "reach" 503] }) ::
 (nat_lit 244, { cls := .type "tuple", data := Data.seq #[] }) ::
 (nat_lit 246, { cls := .type "code", data := Data.fields #[.str "natural_of" 497, .str "natural_of" 498, .str "/claim/cut.py" 499, .int 53 0, .int 2 0, .int 0 0, .int 0 0, .int 3 0, .ref 241, .bool true, .int 181 0, .ref 242, .none, .ref 243, .ref 244, .ref 245, .int 504 0, .int 53 0, .str "/claim/cut.py" 505] }) ::
 (nat_lit 247, ⟨.type "function", none, .func (PySem.W.fnOf "natural_of" "natural_of" (defArgs (top0 24)) (defBody (top0 24)) (defScope (top0 24)) .none .none .none (.str "sluice.flows" 495) none (.ref 246) .none), #[]⟩) ::
 (nat_lit 248, { cls := .type "tuple", data := Data.seq #[] }) ::
 (nat_lit 250, { cls := .type "tuple", data := Data.seq #[.str "below" 512, .str "one" 513, .str "day" 514, .str "start" 515, .str "back" 516, .str "most" 517] }) ::
 (nat_lit 251, { cls := .type "tuple", data := Data.seq #[] }) ::
 (nat_lit 253, { cls := .type "code", data := Data.fields #[.str "reaches_of" 509, .str "reaches_of" 510, .str "/claim/cut.py" 511, .int 60 0, .int 2 0, .int 0 0, .int 0 0, .int 3 0, .ref 248, .bool true, .int 181 0, .ref 249, .none, .ref 250, .ref 251, .ref 252, .int 518 0, .int 60 0, .str "/claim/cut.py" 519] }) ::
 (nat_lit 254, ⟨.type "function", none, .func (PySem.W.fnOf "reaches_of" "reaches_of" (defArgs (top0 26)) (defBody (top0 26)) (defScope (top0 26)) .none .none .none (.str "sluice.licences" 507) none (.ref 253) .none), #[]⟩) ::
 (nat_lit 255, { cls := .type "tuple", data := Data.seq #[] }) ::
 (nat_lit 257, { cls := .type "tuple", data := Data.seq #[.str "one" 524] }) ::
 (nat_lit 258, { cls := .type "tuple", data := Data.seq #[] }) ::
 (nat_lit 260, { cls := .type "code", data := Data.fields #[.str "day_filed" 521, .str "day_filed" 522, .str "/claim/cut.py" 523, .int 63 0, .int 1 0, .int 0 0, .int 0 0, .int 3 0, .ref 255, .bool true, .int 181 0, .ref 256, .none, .ref 257, .ref 258, .ref 259, .int 525 0, .int 63 0, .str "/claim/cut.py" 526] }) ::
 (nat_lit 261, ⟨.type "function", none, .func (PySem.W.fnOf "day_filed" "day_filed" (defArgs (top0 27)) (defBody (top0 27)) (defScope (top0 27)) .none .none .none (.str "sluice.licences" 507) none (.ref 260) .none), #[]⟩) ::
 (nat_lit 262, { cls := .type "tuple", data := Data.seq #[] }) ::
 (nat_lit 264, { cls := .type "tuple", data := Data.seq #[.str "one" 531] }) ::
 (nat_lit 265, { cls := .type "tuple", data := Data.seq #[] }) ::
 (nat_lit 267, { cls := .type "code", data := Data.fields #[.str "most_of" 528, .str "most_of" 529, .str "/claim/cut.py" 530, .int 65 0, .int 1 0, .int 0 0, .int 0 0, .int 3 0, .ref 262, .bool true, .int 181 0, .ref 263, .none, .ref 264, .ref 265, .ref 266, .int 532 0, .int 65 0, .str "/claim/cut.py" 533] }) ::
 (nat_lit 268, ⟨.type "function", none, .func (PySem.W.fnOf "most_of" "most_of" (defArgs (top0 28)) (defBody (top0 28)) (defScope (top0 28)) .none .none .none (.str "sluice.licences" 507) none (.ref 267) .none), #[]⟩) ::
 (nat_lit 269, { cls := .type "tuple", data := Data.seq #[] }) ::
 (nat_lit 272, { cls := .type "code", data := Data.fields #[.str "wants_of" 535, .str "wants_of" 536, .str "/claim/cut.py" 537, .int 67 0, .int 2 0, .int 0 0, .int 0 0, .int 3 0, .ref 269, .bool true, .int 181 0, .ref 270, .none, .none, .none, .ref 271, .int 538 0, .int 67 0, .str "/claim/cut.py" 539] }) ::
 (nat_lit 273, ⟨.type "function", none, .func (PySem.W.fnOf "wants_of" "wants_of" (defArgs (top0 29)) (defBody (top0 29)) (defScope (top0 29)) .none .none .none (.str "sluice.licences" 507) none (.ref 272) .none), #[]⟩) ::
 (nat_lit 274, { cls := .type "tuple", data := Data.seq #[] }) ::
 (nat_lit 276, { cls := .type "tuple", data := Data.seq #[.str "below" 546, .str "roll" 547, .str "takes" 548, .str "holds" 549, .str "one" 550, .str "take" 551, .str "reach" 552] }) ::
 (nat_lit 277, { cls := .type "tuple", data := Data.seq #[] }) ::
 (nat_lit 279, { cls := .type "code", data := Data.fields #[.str "holds_of" 543, .str "holds_of" 544, .str "/claim/cut.py" 545, .int 70 0, .int 3 0, .int 0 0, .int 0 0, .int 3 0, .ref 274, .bool true, .int 181 0, .ref 275, .none, .ref 276, .ref 277, .ref 278, .int 553 0, .int 70 0, .str "/claim/cut.py" 554] }) ::
 (nat_lit 280, ⟨.type "function", none, .func (PySem.W.fnOf "holds_of" "holds_of" (defArgs (top0 31)) (defBody (top0 31)) (defScope (top0 31)) .none .none .none (.str "sluice.holds" 541) none (.ref 279) .none), #[]⟩) ::
 (nat_lit 281, { cls := .type "tuple", data := Data.seq #[] }) ::
 (nat_lit 284, { cls := .type "code", data := Data.fields #[.str "free_of" 556, .str "free_of" 557, .str "/claim/cut.py" 558, .int 76 0, .int 4 0, .int 0 0, .int 0 0, .int 3 0, .ref 281, .bool true, .int 181 0, .ref 282, .none, .none, .none, .ref 283, .int 559 0, .int 76 0, .str "/claim/cut.py" 560] }) ::
 (nat_lit 285, ⟨.type "function", none, .func (PySem.W.fnOf "free_of" "free_of" (defArgs (top0 32)) (defBody (top0 32)) (defScope (top0 32)) .none .none .none (.str "sluice.holds" 541) none (.ref 284) .none), #[]⟩) ::
 (nat_lit 286, { cls := .type "tuple", data := Data.seq #[] }) ::
 (nat_lit 289, { cls := .type "code", data := Data.fields #[.str "dry_of" 564, .str "dry_of" 565, .str "/claim/cut.py" 566, .int 80 0, .int 4 0, .int 0 0, .int 0 0, .int 3 0, .ref 286, .bool true, .int 181 0, .ref 287, .none, .none, .none, .ref 288, .int 567 0, .int 80 0, .str "/claim/cut.py" 568] }) ::
 (nat_lit 290, ⟨.type "function", none, .func (PySem.W.fnOf "dry_of" "dry_of" (defArgs (top0 34)) (defBody (top0 34)) (defScope (top0 34)) .none .none .none (.str "sluice.cuts" 562) none (.ref 289) .none), #[]⟩) ::
 (nat_lit 291, { cls := .type "tuple", data := Data.seq #[] }) ::
 (nat_lit 293, { cls := .type "tuple", data := Data.seq #[.str "roll" 575, .str "number" 576, .str "nth" 577, .str "other" 578, .str "mth" 579] }) ::
 (nat_lit 294, { cls := .type "tuple", data := Data.seq #[] }) ::
 (nat_lit 296, { cls := .type "code", data := Data.fields #[.str "comes_ahead" 572, .str "comes_ahead" 573, .str "/claim/cut.py" 574, .int 83 0, .int 5 0, .int 0 0, .int 0 0, .int 3 0, .ref 291, .bool true, .int 181 0, .ref 292, .none, .ref 293, .ref 294, .ref 295, .int 580 0, .int 83 0, .str "/claim/cut.py" 581] }) ::
 (nat_lit 297, ⟨.type "function", none, .func (PySem.W.fnOf "comes_ahead" "comes_ahead" (defArgs (top0 36)) (defBody (top0 36)) (defScope (top0 36)) .none .none .none (.str "sluice.papers" 570) none (.ref 296) .none), #[]⟩) ::
 (nat_lit 298, { cls := .type "tuple", data := Data.seq #[] }) ::
 (nat_lit 301, { cls := .type "code", data := Data.fields #[.str "stretches_of" 583, .str "stretches_of" 584, .str "/claim/cut.py" 585, .int 85 0, .int 2 0, .int 0 0, .int 0 0, .int 3 0, .ref 298, .bool true, .int 181 0, .ref 299, .none, .none, .none, .ref 300, .int 586 0, .int 85 0, .str "/claim/cut.py" 587] }) ::
 (nat_lit 302, ⟨.type "function", none, .func (PySem.W.fnOf "stretches_of" "stretches_of" (defArgs (top0 37)) (defBody (top0 37)) (defScope (top0 37)) .none .none .none (.str "sluice.papers" 570) none (.ref 301) .none), #[]⟩) ::
 (nat_lit 303, { cls := .type "tuple", data := Data.seq #[] }) ::
 (nat_lit 306, { cls := .type "code", data := Data.fields #[.str "who_holds" 589, .str "who_holds" 590, .str "/claim/cut.py" 591, .int 87 0, .int 3 0, .int 0 0, .int 0 0, .int 3 0, .ref 303, .bool true, .int 181 0, .ref 304, .none, .none, .none, .ref 305, .int 592 0, .int 87 0, .str "/claim/cut.py" 593] }) ::
 (nat_lit 307, ⟨.type "function", none, .func (PySem.W.fnOf "who_holds" "who_holds" (defArgs (top0 38)) (defBody (top0 38)) (defScope (top0 38)) .none .none .none (.str "sluice.papers" 570) none (.ref 306) .none), #[]⟩) ::
 (nat_lit 308, { cls := .type "tuple", data := Data.seq #[] }) ::
 (nat_lit 311, { cls := .type "code", data := Data.fields #[.str "all_ahead" 595, .str "all_ahead" 596, .str "/claim/cut.py" 597, .int 89 0, .int 5 0, .int 0 0, .int 0 0, .int 3 0, .ref 308, .bool true, .int 181 0, .ref 309, .none, .none, .none, .ref 310, .int 598 0, .int 89 0, .str "/claim/cut.py" 599] }) ::
 (nat_lit 312, ⟨.type "function", none, .func (PySem.W.fnOf "all_ahead" "all_ahead" (defArgs (top0 39)) (defBody (top0 39)) (defScope (top0 39)) .none .none .none (.str "sluice.papers" 570) none (.ref 311) .none), #[]⟩) ::
 (nat_lit 313, { cls := .type "tuple", data := Data.seq #[] }) ::
 (nat_lit 315, { cls := .type "tuple", data := Data.seq #[.str "roll" 604, .str "stretches" 605, .str "dry" 606, .str "takes" 607, .str "number" 608, .str "reach" 609] }) ::
 (nat_lit 316, { cls := .type "tuple", data := Data.seq #[] }) ::
 (nat_lit 318, { cls := .type "code", data := Data.fields #[.str "first_showing" 601, .str "first_showing" 602, .str "/claim/cut.py" 603, .int 93 0, .int 5 0, .int 0 0, .int 0 0, .int 3 0, .ref 313, .bool true, .int 181 0, .ref 314, .none, .ref 315, .ref 316, .ref 317, .int 610 0, .int 93 0, .str "/claim/cut.py" 611] }) ::
 (nat_lit 319, ⟨.type "function", none, .func (PySem.W.fnOf "first_showing" "first_showing" (defArgs (top0 40)) (defBody (top0 40)) (defScope (top0 40)) .none .none .none (.str "sluice.papers" 570) none (.ref 318) .none), #[]⟩) ::
 (nat_lit 320, { cls := .type "tuple", data := Data.seq #[] }) ::
 (nat_lit 323, { cls := .type "code", data := Data.fields #[.str "paper_of" 613, .str "paper_of" 614, .str "/claim/cut.py" 615, .int 98 0, .int 6 0, .int 0 0, .int 0 0, .int 3 0, .ref 320, .bool true, .int 181 0, .ref 321, .none, .none, .none, .ref 322, .int 616 0, .int 98 0, .str "/claim/cut.py" 617] }) ::
 (nat_lit 324, ⟨.type "function", none, .func (PySem.W.fnOf "paper_of" "paper_of" (defArgs (top0 41)) (defBody (top0 41)) (defScope (top0 41)) .none .none .none (.str "sluice.papers" 570) none (.ref 323) .none), #[]⟩) ::
 (nat_lit 325, { cls := .type "tuple", data := Data.seq #[] }) ::
 (nat_lit 327, { cls := .type "tuple", data := Data.seq #[.str "script" 624, .str "k" 625] }) ::
 (nat_lit 328, { cls := .type "tuple", data := Data.seq #[] }) ::
 (nat_lit 330, { cls := .type "code", data := Data.fields #[.str "_law_cell_at" 621, .str "_law_cell_at" 622, .str "/claim/cut.py" 623, .int 107 0, .int 2 0, .int 0 0, .int 0 0, .int 3 0, .ref 325, .bool true, .int 181 0, .ref 326, .none, .ref 327, .ref 328, .ref 329, .int 626 0, .int 107 0, .str "/claim/cut.py" 627] }) ::
 (nat_lit 331, ⟨.type "function", none, .func (PySem.W.fnOf "_law_cell_at" "_law_cell_at" (defArgs (top0 43)) (defBody (top0 43)) (defScope (top0 43)) .none .none .none (.str "law_sluice_k28_no_paper" 619) none (.ref 330) .none), #[]⟩) ::
 (nat_lit 332, { cls := .type "tuple", data := Data.seq #[] }) ::
 (nat_lit 334, { cls := .type "tuple", data := Data.seq #[.str "cell" 632, .str "k" 633, .str "seed" 634, .str "turned" 635] }) ::
 (nat_lit 335, { cls := .type "tuple", data := Data.seq #[] }) ::
 (nat_lit 337, { cls := .type "code", data := Data.fields #[.str "_law_draw" 629, .str "_law_draw" 630, .str "/claim/cut.py" 631, .int 111 0, .int 2 0, .int 0 0, .int 0 0, .int 3 0, .ref 332, .bool true, .int 181 0, .ref 333, .none, .ref 334, .ref 335, .ref 336, .int 636 0, .int 111 0, .str "/claim/cut.py" 637] }) ::
 (nat_lit 338, ⟨.type "function", none, .func (PySem.W.fnOf "_law_draw" "_law_draw" (defArgs (top0 44)) (defBody (top0 44)) (defScope (top0 44)) .none .none .none (.str "law_sluice_k28_no_paper" 619) none (.ref 337) .none), #[]⟩) ::
 (nat_lit 339, { cls := .type "tuple", data := Data.seq #[] }) ::
 (nat_lit 342, { cls := .type "code", data := Data.fields #[.str "_law_mixed" 639, .str "_law_mixed" 640, .str "/claim/cut.py" 641, .int 115 0, .int 2 0, .int 0 0, .int 0 0, .int 3 0, .ref 339, .bool true, .int 181 0, .ref 340, .none, .none, .none, .ref 341, .int 642 0, .int 115 0, .str "/claim/cut.py" 643] }) ::
 (nat_lit 343, ⟨.type "function", none, .func (PySem.W.fnOf "_law_mixed" "_law_mixed" (defArgs (top0 45)) (defBody (top0 45)) (defScope (top0 45)) .none .none .none (.str "law_sluice_k28_no_paper" 619) none (.ref 342) .none), #[]⟩) ::
 (nat_lit 344, { cls := .type "tuple", data := Data.seq #[] }) ::
 (nat_lit 347, { cls := .type "code", data := Data.fields #[.str "_law_river" 645, .str "_law_river" 646, .str "/claim/cut.py" 647, .int 117 0, .int 1 0, .int 0 0, .int 0 0, .int 3 0, .ref 344, .bool true, .int 181 0, .ref 345, .none, .none, .none, .ref 346, .int 648 0, .int 117 0, .str "/claim/cut.py" 649] }) ::
 (nat_lit 348, ⟨.type "function", none, .func (PySem.W.fnOf "_law_river" "_law_river" (defArgs (top0 46)) (defBody (top0 46)) (defScope (top0 46)) .none .none .none (.str "law_sluice_k28_no_paper" 619) none (.ref 347) .none), #[]⟩) ::
 (nat_lit 349, { cls := .type "tuple", data := Data.seq #[] }) ::
 (nat_lit 351, { cls := .type "tuple", data := Data.seq #[.str "below" 654, .str "reach" 655, .str "way" 656] }) ::
 (nat_lit 352, { cls := .type "tuple", data := Data.seq #[] }) ::
 (nat_lit 354, { cls := .type "code", data := Data.fields #[.str "_law_way" 651, .str "_law_way" 652, .str "/claim/cut.py" 653, .int 128 0, .int 2 0, .int 0 0, .int 0 0, .int 3 0, .ref 349, .bool true, .int 181 0, .ref 350, .none, .ref 351, .ref 352, .ref 353, .int 657 0, .int 128 0, .str "/claim/cut.py" 658] }) ::
 (nat_lit 355, ⟨.type "function", none, .func (PySem.W.fnOf "_law_way" "_law_way" (defArgs (top0 47)) (defBody (top0 47)) (defScope (top0 47)) .none .none .none (.str "law_sluice_k28_no_paper" 619) none (.ref 354) .none), #[]⟩) ::
 (nat_lit 356, { cls := .type "tuple", data := Data.seq #[] }) ::
 (nat_lit 358, { cls := .type "tuple", data := Data.seq #[.str "below" 663, .str "one" 664, .str "way" 665] }) ::
 (nat_lit 359, { cls := .type "tuple", data := Data.seq #[] }) ::
 (nat_lit 361, { cls := .type "code", data := Data.fields #[.str "_law_stretch" 660, .str "_law_stretch" 661, .str "/claim/cut.py" 662, .int 134 0, .int 2 0, .int 0 0, .int 0 0, .int 3 0, .ref 356, .bool true, .int 181 0, .ref 357, .none, .ref 358, .ref 359, .ref 360, .int 666 0, .int 134 0, .str "/claim/cut.py" 667] }) ::
 (nat_lit 362, ⟨.type "function", none, .func (PySem.W.fnOf "_law_stretch" "_law_stretch" (defArgs (top0 48)) (defBody (top0 48)) (defScope (top0 48)) .none .none .none (.str "law_sluice_k28_no_paper" 619) none (.ref 361) .none), #[]⟩) ::
 (nat_lit 363, { cls := .type "tuple", data := Data.seq #[] }) ::
 (nat_lit 365, { cls := .type "tuple", data := Data.seq #[.str "below" 672, .str "springs" 673, .str "roll" 674, .str "takes" 675, .str "free" 676, .str "reach" 677, .str "rises" 678, .str "low" 679, .str "one" 680, .str "take" 681] }) ::
 (nat_lit 366, { cls := .type "tuple", data := Data.seq #[] }) ::
 (nat_lit 368, { cls := .type "code", data := Data.fields #[.str "_law_free" 669, .str "_law_free" 670, .str "/claim/cut.py" 671, .int 139 0, .int 4 0, .int 0 0, .int 0 0, .int 3 0, .ref 363, .bool true, .int 181 0, .ref 364, .none, .ref 365, .ref 366, .ref 367, .int 682 0, .int 139 0, .str "/claim/cut.py" 683] }) ::
 (nat_lit 369, ⟨.type "function", none, .func (PySem.W.fnOf "_law_free" "_law_free" (defArgs (top0 49)) (defBody (top0 49)) (defScope (top0 49)) .none .none .none (.str "law_sluice_k28_no_paper" 619) none (.ref 368) .none), #[]⟩) ::
 (nat_lit 370, { cls := .type "tuple", data := Data.seq #[] }) ::
 (nat_lit 372, { cls := .type "tuple", data := Data.seq #[.str "cell" 688, .str "below" 689, .str "far" 690, .str "base" 691, .str "xs" 692, .str "way" 693, .str "back" 694, .str "take" 695, .str "most" 696, .str "call" 697] }) ::
 (nat_lit 373, { cls := .type "tuple", data := Data.seq #[] }) ::
 (nat_lit 375, { cls := .type "code", data := Data.fields #[.str "_law_drawn" 685, .str "_law_drawn" 686, .str "/claim/cut.py" 687, .int 148 0, .int 4 0, .int 0 0, .int 0 0, .int 3 0, .ref 370, .bool true, .int 181 0, .ref 371, .none, .ref 372, .ref 373, .ref 374, .int 698 0, .int 148 0, .str "/claim/cut.py" 699] }) ::
 (nat_lit 376, ⟨.type "function", none, .func (PySem.W.fnOf "_law_drawn" "_law_drawn" (defArgs (top0 50)) (defBody (top0 50)) (defScope (top0 50)) .none .none .none (.str "law_sluice_k28_no_paper" 619) none (.ref 375) .none), #[]⟩) ::
 (nat_lit 377, { cls := .type "tuple", data := Data.seq #[] }) ::
 (nat_lit 379, { cls := .type "tuple", data := Data.seq #[.str "cell" 704, .str "below" 705, .str "roll" 706, .str "takes" 707, .str "springs" 708, .str "one" 709, .str "take" 710, .str "reach" 711, .str "x" 712] }) ::
 (nat_lit 380, { cls := .type "tuple", data := Data.seq #[] }) ::
 (nat_lit 382, { cls := .type "code", data := Data.fields #[.str "_law_springs" 701, .str "_law_springs" 702, .str "/claim/cut.py" 703, .int 158 0, .int 4 0, .int 0 0, .int 0 0, .int 3 0, .ref 377, .bool true, .int 181 0, .ref 378, .none, .ref 379, .ref 380, .ref 381, .int 713 0, .int 158 0, .str "/claim/cut.py" 714] }) ::
 (nat_lit 383, ⟨.type "function", none, .func (PySem.W.fnOf "_law_springs" "_law_springs" (defArgs (top0 51)) (defBody (top0 51)) (defScope (top0 51)) .none .none .none (.str "law_sluice_k28_no_paper" 619) none (.ref 382) .none), #[]⟩) ::
 (nat_lit 384, { cls := .type "tuple", data := Data.seq #[] }) ::
 (nat_lit 386, { cls := .type "tuple", data := Data.seq #[.str "stretches" 719, .str "roll" 720, .str "takes" 721, .str "free" 722, .str "number" 723, .str "reach" 724, .str "bad" 725, .str "k" 726] }) ::
 (nat_lit 387, { cls := .type "tuple", data := Data.seq #[] }) ::
 (nat_lit 389, { cls := .type "code", data := Data.fields #[.str "_law_no_reach" 716, .str "_law_no_reach" 717, .str "/claim/cut.py" 718, .int 170 0, .int 5 0, .int 0 0, .int 0 0, .int 3 0, .ref 384, .bool true, .int 181 0, .ref 385, .none, .ref 386, .ref 387, .ref 388, .int 727 0, .int 170 0, .str "/claim/cut.py" 728] }) ::
 (nat_lit 390, ⟨.type "function", none, .func (PySem.W.fnOf "_law_no_reach" "_law_no_reach" (defArgs (top0 52)) (defBody (top0 52)) (defScope (top0 52)) .none .none .none (.str "law_sluice_k28_no_paper" 619) none (.ref 389) .none), #[]⟩) ::
 (nat_lit 391, { cls := .type "tuple", data := Data.seq #[] }) ::
 (nat_lit 393, { cls := .type "tuple", data := Data.seq #[.str "e" 733] }) ::
 (nat_lit 394, { cls := .type "tuple", data := Data.seq #[] }) ::
 (nat_lit 396, { cls := .type "code", data := Data.fields #[.str "_law_other_name" 730, .str "_law_other_name" 731, .str "/claim/cut.py" 732, .int 182 0, .int 1 0, .int 0 0, .int 0 0, .int 3 0, .ref 391, .bool true, .int 181 0, .ref 392, .none, .ref 393, .ref 394, .ref 395, .int 734 0, .int 182 0, .str "/claim/cut.py" 735] }) ::
 (nat_lit 397, ⟨.type "function", none, .func (PySem.W.fnOf "_law_other_name" "_law_other_name" (defArgs (top0 53)) (defBody (top0 53)) (defScope (top0 53)) .none .none .none (.str "law_sluice_k28_no_paper" 619) none (.ref 396) .none), #[]⟩) ::
 (nat_lit 398, { cls := .type "tuple", data := Data.seq #[] }) ::
 (nat_lit 400, { cls := .type "tuple", data := Data.seq #[.str "below" 740, .str "springs" 741, .str "roll" 742, .str "calls" 743, .str "takes" 744, .str "number" 745, .str "caught" 746, .str "e" 747] }) ::
 (nat_lit 401, { cls := .type "tuple", data := Data.seq #[] }) ::
 (nat_lit 403, { cls := .type "code", data := Data.fields #[.str "_law_refused" 737, .str "_law_refused" 738, .str "/claim/cut.py" 739, .int 190 0, .int 6 0, .int 0 0, .int 0 0, .int 3 0, .ref 398, .bool true, .int 181 0, .ref 399, .none, .ref 400, .ref 401, .ref 402, .int 748 0, .int 190 0, .str "/claim/cut.py" 749] }) ::
 (nat_lit 404, ⟨.type "function", none, .func (PySem.W.fnOf "_law_refused" "_law_refused" (defArgs (top0 54)) (defBody (top0 54)) (defScope (top0 54)) .none .none .none (.str "law_sluice_k28_no_paper" 619) none (.ref 403) .none), #[]⟩) ::
 (nat_lit 405, { cls := .type "tuple", data := Data.seq #[] }) ::
 (nat_lit 408, { cls := .type "code", data := Data.fields #[.str "law" 751, .str "law" 752, .str "/claim/cut.py" 753, .int 197 0, .int 1 0, .int 0 0, .int 0 0, .int 3 0, .ref 405, .bool true, .int 181 0, .ref 406, .none, .none, .none, .ref 407, .int 754 0, .int 197 0, .str "/claim/cut.py" 755] }) ::
 (nat_lit 409, ⟨.type "function", none, .func (PySem.W.fnOf "law" "law" (defArgs (top0 55)) (defBody (top0 55)) (defScope (top0 55)) .none .none .none (.str "law_sluice_k28_no_paper" 619) none (.ref 408) .none), #[]⟩) :: []
noncomputable def asK : List Addr := [2, 3, 15, 22, 23, 24, 25, 28, 35, 36, 37, 40, 47, 48, 49, 52, 59, 60, 61, 64, 71, 72, 73, 76, 83, 84, 85, 88, 95, 96, 97, 100, 107, 108, 109, 112, 119, 120, 121, 124, 131, 132, 133, 136, 143, 144, 145, 148, 155, 156, 157, 160, 167, 168, 169, 172, 179, 180, 181, 184, 191, 192, 193, 196, 203, 204, 205, 208, 215, 216, 217, 220, 222, 223, 225, 226, 227, 229, 230, 232, 233, 234, 236, 237, 239, 240, 241, 243, 244, 246, 247, 248, 250, 251, 253, 254, 255, 257, 258, 260, 261, 262, 264, 265, 267, 268, 269, 272, 273, 274, 276, 277, 279, 280, 281, 284, 285, 286, 289, 290, 291, 293, 294, 296, 297, 298, 301, 302, 303, 306, 307, 308, 311, 312, 313, 315, 316, 318, 319, 320, 323, 324, 325, 327, 328, 330, 331, 332, 334, 335, 337, 338, 339, 342, 343, 344, 347, 348, 349, 351, 352, 354, 355, 356, 358, 359, 361, 362, 363, 365, 366, 368, 369, 370, 372, 373, 375, 376, 377, 379, 380, 382, 383, 384, 386, 387, 389, 390, 391, 393, 394, 396, 397, 398, 400, 401, 403, 404, 405, 408, 409]
noncomputable def tsK : List Addr := [228]
theorem hkE : ∀ P, asK = (Kf P).map (·.1) := fun _ => by kernel_rfl
noncomputable def qv : Program := { PySem.Challenge.pw_sluice_k28_no_paper with main := { PySem.Challenge.pw_sluice_k28_no_paper.main with body := [top0 55] } }
def looseK : List Str := ("SluiceError" : Str) :: ("NoRiver" : Str) :: ("NoReach" : Str) :: ("NoLicence" : Str) :: ("NoNumber" : Str) :: ("NoHolder" : Str) :: ("NotYours" : Str) :: ("NotAlone" : Str) :: ("TooMuch" : Str) :: ("Full" : Str) :: ("NoPaper" : Str) :: ("NoCut" : Str) :: ("NoPond" : Str) :: ("NoDay" : Str) :: ("Fixed" : Str) :: ("Harms" : Str) :: ("NoRow" : Str) :: ("MOUTH" : Str) :: ("way_of" : Str) :: ("tops_first" : Str) :: ("stretch_of" : Str) :: ("natural_of" : Str) :: ("reaches_of" : Str) :: ("day_filed" : Str) :: ("most_of" : Str) :: ("wants_of" : Str) :: ("holds_of" : Str) :: ("free_of" : Str) :: ("dry_of" : Str) :: ("comes_ahead" : Str) :: ("stretches_of" : Str) :: ("who_holds" : Str) :: ("all_ahead" : Str) :: ("first_showing" : Str) :: ("paper_of" : Str) :: ("_law_cell_at" : Str) :: ("_law_draw" : Str) :: ("_law_mixed" : Str) :: ("_law_river" : Str) :: ("_law_way" : Str) :: ("_law_stretch" : Str) :: ("_law_free" : Str) :: ("_law_drawn" : Str) :: ("_law_springs" : Str) :: ("_law_no_reach" : Str) :: ("_law_other_name" : Str) :: ("_law_refused" : Str) :: []
noncomputable def ho_1 (P : Params) : Obj := { cls := .type "dict", data := Data.dict #[en P "__name__" 1 (.str "builtins" 160), en P "__doc__" 2 (.builtin "builtins.__doc__:str#opaque"), en P "__package__" 3 (.builtin "builtins.__package__:str#opaque"), en P "__loader__" 4 (.builtin "builtins.__loader__:shared#opaque"), en P "__spec__" 5 (.builtin "builtins.__spec__#opaque"), en P "__build_class__" 6 (.builtin "__build_class__"), en P "__import__" 7 (.builtin "__import__"), en P "abs" 8 (.builtin "abs"), en P "all" 9 (.builtin "all"), en P "any" 10 (.builtin "any"), en P "ascii" 11 (.builtin "ascii"), en P "bin" 12 (.builtin "bin"), en P "breakpoint" 13 (.builtin "breakpoint"), en P "callable" 14 (.builtin "callable"), en P "chr" 15 (.builtin "chr"), en P "compile" 16 (.builtin "compile"), en P "delattr" 17 (.builtin "delattr"), en P "dir" 18 (.builtin "dir"), en P "divmod" 19 (.builtin "divmod"), en P "eval" 20 (.builtin "eval"), en P "exec" 21 (.builtin "exec"), en P "format" 22 (.builtin "format"), en P "getattr" 23 (.builtin "getattr"), en P "globals" 24 (.builtin "globals"), en P "hasattr" 25 (.builtin "hasattr"), en P "hash" 26 (.builtin "hash"), en P "hex" 27 (.builtin "hex"), en P "id" 28 (.builtin "id"), en P "input" 29 (.builtin "input"), en P "isinstance" 30 (.builtin "isinstance"), en P "issubclass" 31 (.builtin "issubclass"), en P "iter" 32 (.builtin "iter"), en P "aiter" 33 (.builtin "aiter"), en P "len" 34 (.builtin "len"), en P "locals" 35 (.builtin "locals"), en P "max" 36 (.builtin "max"), en P "min" 37 (.builtin "min"), en P "next" 38 (.builtin "next"), en P "anext" 39 (.builtin "anext"), en P "oct" 40 (.builtin "oct"), en P "ord" 41 (.builtin "ord"), en P "pow" 42 (.builtin "pow"), en P "print" 43 (.builtin "print"), en P "repr" 44 (.builtin "repr"), en P "round" 45 (.builtin "round"), en P "setattr" 46 (.builtin "setattr"), en P "sorted" 47 (.builtin "sorted"), en P "sum" 48 (.builtin "sum"), en P "vars" 49 (.builtin "vars"), en P "None" 50 .none, en P "Ellipsis" 51 .ellipsis, en P "NotImplemented" 52 .notImplemented, en P "False" 53 (.bool false), en P "True" 54 (.bool true), en P "bool" 55 (.type "bool"), en P "memoryview" 56 (.type "memoryview"), en P "bytearray" 57 (.type "bytearray"), en P "bytes" 58 (.type "bytes"), en P "classmethod" 59 (.type "classmethod"), en P "complex" 60 (.type "complex"), en P "dict" 61 (.type "dict"), en P "enumerate" 62 (.type "enumerate"), en P "filter" 63 (.type "filter"), en P "float" 64 (.type "float"), en P "frozenset" 65 (.type "frozenset"), en P "property" 66 (.type "property"), en P "int" 67 (.type "int"), en P "list" 68 (.type "list"), en P "map" 69 (.type "map"), en P "object" 70 (.type "object"), en P "range" 71 (.type "range"), en P "reversed" 72 (.type "reversed"), en P "set" 73 (.type "set"), en P "slice" 74 (.type "slice"), en P "staticmethod" 75 (.type "staticmethod"), en P "str" 76 (.type "str"), en P "super" 77 (.type "super"), en P "tuple" 78 (.type "tuple"), en P "type" 79 (.type "type"), en P "zip" 80 (.type "zip"), en P "__debug__" 81 (.bool true), en P "BaseException" 82 (.type "BaseException"), en P "BaseExceptionGroup" 83 (.type "BaseExceptionGroup"), en P "Exception" 84 (.type "Exception"), en P "GeneratorExit" 85 (.type "GeneratorExit"), en P "KeyboardInterrupt" 86 (.type "KeyboardInterrupt"), en P "SystemExit" 87 (.type "SystemExit"), en P "ArithmeticError" 88 (.type "ArithmeticError"), en P "AssertionError" 89 (.type "AssertionError"), en P "AttributeError" 90 (.type "AttributeError"), en P "BufferError" 91 (.type "BufferError"), en P "EOFError" 92 (.type "EOFError"), en P "ImportError" 93 (.type "ImportError"), en P "LookupError" 94 (.type "LookupError"), en P "MemoryError" 95 (.type "MemoryError"), en P "NameError" 96 (.type "NameError"), en P "OSError" 97 (.type "OSError"), en P "ReferenceError" 98 (.type "ReferenceError"), en P "RuntimeError" 99 (.type "RuntimeError"), en P "StopAsyncIteration" 100 (.type "StopAsyncIteration"), en P "StopIteration" 101 (.type "StopIteration"), en P "SyntaxError" 102 (.type "SyntaxError"), en P "SystemError" 103 (.type "SystemError"), en P "TypeError" 104 (.type "TypeError"), en P "ValueError" 105 (.type "ValueError"), en P "Warning" 106 (.type "Warning"), en P "FloatingPointError" 107 (.type "FloatingPointError"), en P "OverflowError" 108 (.type "OverflowError"), en P "ZeroDivisionError" 109 (.type "ZeroDivisionError"), en P "BytesWarning" 110 (.type "BytesWarning"), en P "DeprecationWarning" 111 (.type "DeprecationWarning"), en P "EncodingWarning" 112 (.type "EncodingWarning"), en P "FutureWarning" 113 (.type "FutureWarning"), en P "ImportWarning" 114 (.type "ImportWarning"), en P "PendingDeprecationWarning" 115 (.type "PendingDeprecationWarning"), en P "ResourceWarning" 116 (.type "ResourceWarning"), en P "RuntimeWarning" 117 (.type "RuntimeWarning"), en P "SyntaxWarning" 118 (.type "SyntaxWarning"), en P "UnicodeWarning" 119 (.type "UnicodeWarning"), en P "UserWarning" 120 (.type "UserWarning"), en P "BlockingIOError" 121 (.type "BlockingIOError"), en P "ChildProcessError" 122 (.type "ChildProcessError"), en P "ConnectionError" 123 (.type "ConnectionError"), en P "FileExistsError" 124 (.type "FileExistsError"), en P "FileNotFoundError" 125 (.type "FileNotFoundError"), en P "InterruptedError" 126 (.type "InterruptedError"), en P "IsADirectoryError" 127 (.type "IsADirectoryError"), en P "NotADirectoryError" 128 (.type "NotADirectoryError"), en P "PermissionError" 129 (.type "PermissionError"), en P "ProcessLookupError" 130 (.type "ProcessLookupError"), en P "TimeoutError" 131 (.type "TimeoutError"), en P "IndentationError" 132 (.type "IndentationError"), en P "_IncompleteInputError" 133 (.type "_IncompleteInputError"), en P "IndexError" 134 (.type "IndexError"), en P "KeyError" 135 (.type "KeyError"), en P "ModuleNotFoundError" 136 (.type "ModuleNotFoundError"), en P "NotImplementedError" 137 (.type "NotImplementedError"), en P "PythonFinalizationError" 138 (.type "PythonFinalizationError"), en P "RecursionError" 139 (.type "RecursionError"), en P "UnboundLocalError" 140 (.type "UnboundLocalError"), en P "UnicodeError" 141 (.type "UnicodeError"), en P "BrokenPipeError" 142 (.type "BrokenPipeError"), en P "ConnectionAbortedError" 143 (.type "ConnectionAbortedError"), en P "ConnectionRefusedError" 144 (.type "ConnectionRefusedError"), en P "ConnectionResetError" 145 (.type "ConnectionResetError"), en P "TabError" 146 (.type "TabError"), en P "UnicodeDecodeError" 147 (.type "UnicodeDecodeError"), en P "UnicodeEncodeError" 148 (.type "UnicodeEncodeError"), en P "UnicodeTranslateError" 149 (.type "UnicodeTranslateError"), en P "ExceptionGroup" 150 (.type "ExceptionGroup"), en P "EnvironmentError" 151 (.type "OSError"), en P "IOError" 152 (.type "OSError"), en P "open" 153 (.builtin "open"), en P "quit" 154 (.builtin "builtins.quit#opaque"), en P "exit" 155 (.builtin "builtins.exit#opaque"), en P "copyright" 156 (.builtin "builtins.copyright#opaque"), en P "credits" 157 (.builtin "builtins.credits#opaque"), en P "license" 158 (.builtin "builtins.license#opaque"), en P "help" 159 (.builtin "builtins.help#opaque")] 159 }
noncomputable def ho_2 (P : Params) : Obj := { cls := .type "dict", data := Data.dict #[en P "builtins" 162 (.ref 4), en P "__main__" 163 (.ref 5)] 2 }
noncomputable def ho_3 (P : Params) : Obj := { cls := .none, data := Data.dict #[] }
noncomputable def ho_4 (P : Params) : Obj := { cls := .type "dict", data := Data.dict #[en P "__name__" 165 (.str "__main__" 164), en P "__doc__" 166 .none, en P "__package__" 167 .none, en P "__loader__" 168 (.builtin "__main__.__loader__#opaque"), en P "__spec__" 169 .none, en P "__annotations__" 170 (.ref 6), en P "__builtins__" 171 (.ref 4), en P "__file__" 173 (.str "/claim/cut.py" 172), en P "__cached__" 174 .none] 9 }
noncomputable def ho_5 (P : Params) : Obj := { cls := .type "module", dict := some 0 }
noncomputable def ho_6 (P : Params) : Obj := { cls := .type "module", dict := some 3 }
noncomputable def ho_7 (P : Params) : Obj := { cls := .type "dict", data := Data.dict #[] }
noncomputable def ho_8 (P : Params) : Obj := { cls := .type "tuple", data := Data.seq #[] }
noncomputable def ho_9 (P : Params) : Obj := { cls := .none, data := Data.fields #[] }
noncomputable def ho_10 (P : Params) : Obj := { cls := .type "code", data := Data.fields #[.str "<module>" 176, .str "<module>" 177, .str "/claim/cut.py" 178, .int 1 0, .int 0 0, .int 0 0, .int 0 0, .int 0 0, .ref 7, .bool false, .int 175 0, .ref 8, .none, .none, .none, .none, .int 179 0, .int 1 0, .str "/claim/cut.py" 180] }
noncomputable def ho_11 (P : Params) : Obj := { cls := .type "frame", slots := #[some (.ref 9), some (.ref 3), some (.ref 3), none, some (.str "__main__" 164), none, some (.ref 0)] }
noncomputable def ho_13 (P : Params) : Obj := { cls := .type "dict", data := Data.dict #[en P "__name__" 165 (.str "law_sluice_k28_no_paper" 619), en P "__doc__" 166 .none, en P "__package__" 167 .none, en P "__loader__" 168 (.builtin "__main__.__loader__#opaque"), en P "__spec__" 169 .none, en P "__annotations__" 170 (.ref 6), en P "__builtins__" 171 (.ref 4), en P "__file__" 173 (.str "/claim/cut.py" 172), en P "__cached__" 174 .none, en P "SluiceError" 206 (.ref 24), en P "NoRiver" 222 (.ref 37), en P "NoReach" 238 (.ref 49), en P "NoLicence" 254 (.ref 61), en P "NoNumber" 270 (.ref 73), en P "NoHolder" 286 (.ref 85), en P "NotYours" 302 (.ref 97), en P "NotAlone" 318 (.ref 109), en P "TooMuch" 334 (.ref 121), en P "Full" 350 (.ref 133), en P "NoPaper" 366 (.ref 145), en P "NoCut" 382 (.ref 157), en P "NoPond" 398 (.ref 169), en P "NoDay" 414 (.ref 181), en P "Fixed" 430 (.ref 193), en P "Harms" 446 (.ref 205), en P "NoRow" 462 (.ref 217), en P "MOUTH" 467 (.int (-1) 466), en P "way_of" 476 (.ref 226), en P "tops_first" 484 (.ref 233), en P "stretch_of" 494 (.ref 240), en P "natural_of" 506 (.ref 247), en P "reaches_of" 520 (.ref 254), en P "day_filed" 527 (.ref 261), en P "most_of" 534 (.ref 268), en P "wants_of" 540 (.ref 273), en P "holds_of" 555 (.ref 280), en P "free_of" 561 (.ref 285), en P "dry_of" 569 (.ref 290), en P "comes_ahead" 582 (.ref 297), en P "stretches_of" 588 (.ref 302), en P "who_holds" 594 (.ref 307), en P "all_ahead" 600 (.ref 312), en P "first_showing" 612 (.ref 319), en P "paper_of" 618 (.ref 324), en P "_law_cell_at" 628 (.ref 331), en P "_law_draw" 638 (.ref 338), en P "_law_mixed" 644 (.ref 343), en P "_law_river" 650 (.ref 348), en P "_law_way" 659 (.ref 355), en P "_law_stretch" 668 (.ref 362), en P "_law_free" 684 (.ref 369), en P "_law_drawn" 700 (.ref 376), en P "_law_springs" 715 (.ref 383), en P "_law_no_reach" 729 (.ref 390), en P "_law_other_name" 736 (.ref 397), en P "_law_refused" 750 (.ref 404), en P "law" 756 (.ref 409)] 57 }
noncomputable def ho_14 (P : Params) : Obj := { cls := .type "tuple", data := Data.seq #[] }
noncomputable def ho_15 (P : Params) : Obj := { cls := .none, data := Data.fields #[.int 2 0, .int 0 0, .ref 20, .int 4 0, .int 0 0, .ref 33, .int 6 0, .int 0 0, .ref 45, .int 8 0, .int 0 0, .ref 57, .int 10 0, .int 0 0, .ref 69, .int 12 0, .int 0 0, .ref 81, .int 14 0, .int 0 0, .ref 93, .int 16 0, .int 0 0, .ref 105, .int 18 0, .int 0 0, .ref 117, .int 20 0, .int 0 0, .ref 129, .int 22 0, .int 0 0, .ref 141, .int 24 0, .int 0 0, .ref 153, .int 26 0, .int 0 0, .ref 165, .int 28 0, .int 0 0, .ref 177, .int 30 0, .int 0 0, .ref 189, .int 32 0, .int 0 0, .ref 201, .int 34 0, .int 0 0, .ref 213, .int 38 0, .int 0 0, .ref 225, .int 43 0, .int 0 0, .ref 232, .int 45 0, .int 0 0, .ref 239, .int 53 0, .int 0 0, .ref 246, .int 60 0, .int 0 0, .ref 253, .int 63 0, .int 0 0, .ref 260, .int 65 0, .int 0 0, .ref 267, .int 67 0, .int 0 0, .ref 272, .int 70 0, .int 0 0, .ref 279, .int 76 0, .int 0 0, .ref 284, .int 80 0, .int 0 0, .ref 289, .int 83 0, .int 0 0, .ref 296, .int 85 0, .int 0 0, .ref 301, .int 87 0, .int 0 0, .ref 306, .int 89 0, .int 0 0, .ref 311, .int 93 0, .int 0 0, .ref 318, .int 98 0, .int 0 0, .ref 323, .int 107 0, .int 0 0, .ref 330, .int 111 0, .int 0 0, .ref 337, .int 115 0, .int 0 0, .ref 342, .int 117 0, .int 0 0, .ref 347, .int 128 0, .int 0 0, .ref 354, .int 134 0, .int 0 0, .ref 361, .int 139 0, .int 0 0, .ref 368, .int 148 0, .int 0 0, .ref 375, .int 158 0, .int 0 0, .ref 382, .int 170 0, .int 0 0, .ref 389, .int 182 0, .int 0 0, .ref 396, .int 190 0, .int 0 0, .ref 403, .int 197 0, .int 0 0, .ref 408] }
noncomputable def ho_16 (P : Params) : Obj := { cls := .type "code", data := Data.fields #[.str "<module>" 182, .str "<module>" 183, .str "/claim/cut.py" 184, .int 1 0, .int 0 0, .int 0 0, .int 0 0, .int 0 0, .ref 11, .bool false, .int 181 0, .ref 12, .none, .none, .none, .none, .int 185 0, .int 1 0, .str "/claim/cut.py" 186] }
noncomputable def ho_17 (P : Params) : Obj := { cls := .type "frame", slots := #[some (.ref 13), some (.ref 3), some (.ref 3), none, some (.str "__main__" 164), none, some (.ref 0)] }
noncomputable def ho_18 (P : Params) : Obj := { cls := .type "tuple", data := Data.seq #[.type "ValueError"] }
noncomputable def ho_19 (P : Params) : Obj := { cls := .type "builtin_function_or_method", data := Data.fields #[.builtin "type.__prepare__", .type "type"] }
noncomputable def ho_20 (P : Params) : Obj := { cls := .type "dict", data := Data.dict #[en P "__module__" 196 (.str "sluice.errors" 187), en P "__qualname__" 198 (.str "SluiceError" 197), en P "__firstlineno__" 200 (.int 2 199), en P "__static_attributes__" 201 (.ref 22)] 4 }
noncomputable def ho_21 (P : Params) : Obj := { cls := .type "tuple", data := Data.seq #[] }
noncomputable def ho_22 (P : Params) : Obj := { cls := .none, data := Data.fields #[] }
noncomputable def ho_23 (P : Params) : Obj := { cls := .type "code", data := Data.fields #[.str "SluiceError" 191, .str "SluiceError" 192, .str "/claim/cut.py" 193, .int 2 0, .int 0 0, .int 0 0, .int 0 0, .int 0 0, .ref 18, .bool false, .int 181 0, .ref 19, .none, .none, .none, .none, .int 194 0, .int 2 0, .str "/claim/cut.py" 195] }
noncomputable def ho_24 (P : Params) : Obj := { cls := .type "frame", slots := #[some (.ref 20), some (.ref 3), some (.ref 17), none, some (.str "sluice.errors" 187), none, some (.ref 0)] }
noncomputable def ho_25 (P : Params) : Obj := { cls := .type "tuple", data := Data.seq #[] }
noncomputable def ho_26 (P : Params) : Obj := { cls := .type "dict", data := Data.dict #[en P "__module__" 196 (.str "sluice.errors" 187), en P "__firstlineno__" 200 (.int 2 199), en P "__static_attributes__" 201 (.ref 22), en P "__weakref__" 203 (.ref 25), en P "__doc__" 204 .none] 3 }
noncomputable def ho_27 (P : Params) : Obj := { cls := .type "type", data := Data.cls { name := "SluiceError", bases := [.type "ValueError"], mro := [.ref 24, .type "ValueError", .type "Exception", .type "BaseException", .type "object"], ns := 23, qualname := "SluiceError", subclasses := [.ref 37, .ref 49, .ref 61, .ref 73, .ref 85, .ref 97, .ref 109, .ref 121, .ref 133, .ref 145, .ref 157, .ref 169, .ref 181, .ref 193, .ref 205, .ref 217] }, slots := #[some (.ref 15), none, some (.str "SluiceError" 189), some (.str "SluiceError" 197), some (.builtin "ValueError.__new__"), some (.bool true)] }
noncomputable def ho_28 (P : Params) : Obj := { cls := .type "getset_descriptor", data := Data.fields #[.str "__weakref__" 202, .ref 24, .builtin "ExceptionGroup.__weakref__", .none] }
noncomputable def ho_29 (P : Params) : Obj := { cls := .type "super", data := Data.fields #[.ref 24, .ref 24, .ref 24] }
noncomputable def ho_30 (P : Params) : Obj := { cls := .type "builtin_function_or_method", data := Data.fields #[.builtin "object.__init_subclass__", .ref 24] }
noncomputable def ho_31 (P : Params) : Obj := { cls := .type "tuple", data := Data.seq #[.ref 24] }
noncomputable def ho_32 (P : Params) : Obj := { cls := .type "builtin_function_or_method", data := Data.fields #[.builtin "type.__prepare__", .type "type"] }
noncomputable def ho_33 (P : Params) : Obj := { cls := .type "dict", data := Data.dict #[en P "__module__" 214 (.str "sluice.errors" 187), en P "__qualname__" 216 (.str "NoRiver" 215), en P "__firstlineno__" 218 (.int 4 217), en P "__static_attributes__" 219 (.ref 35)] 4 }
noncomputable def ho_34 (P : Params) : Obj := { cls := .type "tuple", data := Data.seq #[] }
noncomputable def ho_35 (P : Params) : Obj := { cls := .none, data := Data.fields #[] }
noncomputable def ho_36 (P : Params) : Obj := { cls := .type "code", data := Data.fields #[.str "NoRiver" 209, .str "NoRiver" 210, .str "/claim/cut.py" 211, .int 4 0, .int 0 0, .int 0 0, .int 0 0, .int 0 0, .ref 31, .bool false, .int 181 0, .ref 32, .none, .none, .none, .none, .int 212 0, .int 4 0, .str "/claim/cut.py" 213] }
noncomputable def ho_37 (P : Params) : Obj := { cls := .type "frame", slots := #[some (.ref 33), some (.ref 3), some (.ref 30), none, some (.str "sluice.errors" 187), none, some (.ref 0)] }
noncomputable def ho_38 (P : Params) : Obj := { cls := .type "tuple", data := Data.seq #[] }
noncomputable def ho_39 (P : Params) : Obj := { cls := .type "dict", data := Data.dict #[en P "__module__" 214 (.str "sluice.errors" 187), en P "__firstlineno__" 218 (.int 4 217), en P "__static_attributes__" 219 (.ref 35), en P "__doc__" 220 .none] 2 }
noncomputable def ho_40 (P : Params) : Obj := { cls := .type "type", data := Data.cls { name := "NoRiver", bases := [.ref 24], mro := [.ref 37, .ref 24, .type "ValueError", .type "Exception", .type "BaseException", .type "object"], ns := 36, qualname := "NoRiver" }, slots := #[some (.ref 28), none, some (.str "NoRiver" 207), some (.str "NoRiver" 215), some (.builtin "ValueError.__new__"), some (.bool true)] }
noncomputable def ho_41 (P : Params) : Obj := { cls := .type "super", data := Data.fields #[.ref 37, .ref 37, .ref 37] }
noncomputable def ho_42 (P : Params) : Obj := { cls := .type "builtin_function_or_method", data := Data.fields #[.builtin "object.__init_subclass__", .ref 37] }
noncomputable def ho_43 (P : Params) : Obj := { cls := .type "tuple", data := Data.seq #[.ref 24] }
noncomputable def ho_44 (P : Params) : Obj := { cls := .type "builtin_function_or_method", data := Data.fields #[.builtin "type.__prepare__", .type "type"] }
noncomputable def ho_45 (P : Params) : Obj := { cls := .type "dict", data := Data.dict #[en P "__module__" 230 (.str "sluice.errors" 187), en P "__qualname__" 232 (.str "NoReach" 231), en P "__firstlineno__" 234 (.int 6 233), en P "__static_attributes__" 235 (.ref 47)] 4 }
noncomputable def ho_46 (P : Params) : Obj := { cls := .type "tuple", data := Data.seq #[] }
noncomputable def ho_47 (P : Params) : Obj := { cls := .none, data := Data.fields #[] }
noncomputable def ho_48 (P : Params) : Obj := { cls := .type "code", data := Data.fields #[.str "NoReach" 225, .str "NoReach" 226, .str "/claim/cut.py" 227, .int 6 0, .int 0 0, .int 0 0, .int 0 0, .int 0 0, .ref 43, .bool false, .int 181 0, .ref 44, .none, .none, .none, .none, .int 228 0, .int 6 0, .str "/claim/cut.py" 229] }
noncomputable def ho_49 (P : Params) : Obj := { cls := .type "frame", slots := #[some (.ref 45), some (.ref 3), some (.ref 42), none, some (.str "sluice.errors" 187), none, some (.ref 0)] }
noncomputable def ho_50 (P : Params) : Obj := { cls := .type "tuple", data := Data.seq #[] }
noncomputable def ho_51 (P : Params) : Obj := { cls := .type "dict", data := Data.dict #[en P "__module__" 230 (.str "sluice.errors" 187), en P "__firstlineno__" 234 (.int 6 233), en P "__static_attributes__" 235 (.ref 47), en P "__doc__" 236 .none] 2 }
noncomputable def ho_52 (P : Params) : Obj := { cls := .type "type", data := Data.cls { name := "NoReach", bases := [.ref 24], mro := [.ref 49, .ref 24, .type "ValueError", .type "Exception", .type "BaseException", .type "object"], ns := 48, qualname := "NoReach" }, slots := #[some (.ref 40), none, some (.str "NoReach" 223), some (.str "NoReach" 231), some (.builtin "ValueError.__new__"), some (.bool true)] }
noncomputable def ho_53 (P : Params) : Obj := { cls := .type "super", data := Data.fields #[.ref 49, .ref 49, .ref 49] }
noncomputable def ho_54 (P : Params) : Obj := { cls := .type "builtin_function_or_method", data := Data.fields #[.builtin "object.__init_subclass__", .ref 49] }
noncomputable def ho_55 (P : Params) : Obj := { cls := .type "tuple", data := Data.seq #[.ref 24] }
noncomputable def ho_56 (P : Params) : Obj := { cls := .type "builtin_function_or_method", data := Data.fields #[.builtin "type.__prepare__", .type "type"] }
noncomputable def ho_57 (P : Params) : Obj := { cls := .type "dict", data := Data.dict #[en P "__module__" 246 (.str "sluice.errors" 187), en P "__qualname__" 248 (.str "NoLicence" 247), en P "__firstlineno__" 250 (.int 8 249), en P "__static_attributes__" 251 (.ref 59)] 4 }
noncomputable def ho_58 (P : Params) : Obj := { cls := .type "tuple", data := Data.seq #[] }
noncomputable def ho_59 (P : Params) : Obj := { cls := .none, data := Data.fields #[] }
noncomputable def ho_60 (P : Params) : Obj := { cls := .type "code", data := Data.fields #[.str "NoLicence" 241, .str "NoLicence" 242, .str "/claim/cut.py" 243, .int 8 0, .int 0 0, .int 0 0, .int 0 0, .int 0 0, .ref 55, .bool false, .int 181 0, .ref 56, .none, .none, .none, .none, .int 244 0, .int 8 0, .str "/claim/cut.py" 245] }
noncomputable def ho_61 (P : Params) : Obj := { cls := .type "frame", slots := #[some (.ref 57), some (.ref 3), some (.ref 54), none, some (.str "sluice.errors" 187), none, some (.ref 0)] }
noncomputable def ho_62 (P : Params) : Obj := { cls := .type "tuple", data := Data.seq #[] }
noncomputable def ho_63 (P : Params) : Obj := { cls := .type "dict", data := Data.dict #[en P "__module__" 246 (.str "sluice.errors" 187), en P "__firstlineno__" 250 (.int 8 249), en P "__static_attributes__" 251 (.ref 59), en P "__doc__" 252 .none] 2 }
noncomputable def ho_64 (P : Params) : Obj := { cls := .type "type", data := Data.cls { name := "NoLicence", bases := [.ref 24], mro := [.ref 61, .ref 24, .type "ValueError", .type "Exception", .type "BaseException", .type "object"], ns := 60, qualname := "NoLicence" }, slots := #[some (.ref 52), none, some (.str "NoLicence" 239), some (.str "NoLicence" 247), some (.builtin "ValueError.__new__"), some (.bool true)] }
noncomputable def ho_65 (P : Params) : Obj := { cls := .type "super", data := Data.fields #[.ref 61, .ref 61, .ref 61] }
noncomputable def ho_66 (P : Params) : Obj := { cls := .type "builtin_function_or_method", data := Data.fields #[.builtin "object.__init_subclass__", .ref 61] }
noncomputable def ho_67 (P : Params) : Obj := { cls := .type "tuple", data := Data.seq #[.ref 24] }
noncomputable def ho_68 (P : Params) : Obj := { cls := .type "builtin_function_or_method", data := Data.fields #[.builtin "type.__prepare__", .type "type"] }
noncomputable def ho_69 (P : Params) : Obj := { cls := .type "dict", data := Data.dict #[en P "__module__" 262 (.str "sluice.errors" 187), en P "__qualname__" 264 (.str "NoNumber" 263), en P "__firstlineno__" 266 (.int 10 265), en P "__static_attributes__" 267 (.ref 71)] 4 }
noncomputable def ho_70 (P : Params) : Obj := { cls := .type "tuple", data := Data.seq #[] }
noncomputable def ho_71 (P : Params) : Obj := { cls := .none, data := Data.fields #[] }
noncomputable def ho_72 (P : Params) : Obj := { cls := .type "code", data := Data.fields #[.str "NoNumber" 257, .str "NoNumber" 258, .str "/claim/cut.py" 259, .int 10 0, .int 0 0, .int 0 0, .int 0 0, .int 0 0, .ref 67, .bool false, .int 181 0, .ref 68, .none, .none, .none, .none, .int 260 0, .int 10 0, .str "/claim/cut.py" 261] }
noncomputable def ho_73 (P : Params) : Obj := { cls := .type "frame", slots := #[some (.ref 69), some (.ref 3), some (.ref 66), none, some (.str "sluice.errors" 187), none, some (.ref 0)] }
noncomputable def ho_74 (P : Params) : Obj := { cls := .type "tuple", data := Data.seq #[] }
noncomputable def ho_75 (P : Params) : Obj := { cls := .type "dict", data := Data.dict #[en P "__module__" 262 (.str "sluice.errors" 187), en P "__firstlineno__" 266 (.int 10 265), en P "__static_attributes__" 267 (.ref 71), en P "__doc__" 268 .none] 2 }
noncomputable def ho_76 (P : Params) : Obj := { cls := .type "type", data := Data.cls { name := "NoNumber", bases := [.ref 24], mro := [.ref 73, .ref 24, .type "ValueError", .type "Exception", .type "BaseException", .type "object"], ns := 72, qualname := "NoNumber" }, slots := #[some (.ref 64), none, some (.str "NoNumber" 255), some (.str "NoNumber" 263), some (.builtin "ValueError.__new__"), some (.bool true)] }
noncomputable def ho_77 (P : Params) : Obj := { cls := .type "super", data := Data.fields #[.ref 73, .ref 73, .ref 73] }
noncomputable def ho_78 (P : Params) : Obj := { cls := .type "builtin_function_or_method", data := Data.fields #[.builtin "object.__init_subclass__", .ref 73] }
noncomputable def ho_79 (P : Params) : Obj := { cls := .type "tuple", data := Data.seq #[.ref 24] }
noncomputable def ho_80 (P : Params) : Obj := { cls := .type "builtin_function_or_method", data := Data.fields #[.builtin "type.__prepare__", .type "type"] }
noncomputable def ho_81 (P : Params) : Obj := { cls := .type "dict", data := Data.dict #[en P "__module__" 278 (.str "sluice.errors" 187), en P "__qualname__" 280 (.str "NoHolder" 279), en P "__firstlineno__" 282 (.int 12 281), en P "__static_attributes__" 283 (.ref 83)] 4 }
noncomputable def ho_82 (P : Params) : Obj := { cls := .type "tuple", data := Data.seq #[] }
noncomputable def ho_83 (P : Params) : Obj := { cls := .none, data := Data.fields #[] }
noncomputable def ho_84 (P : Params) : Obj := { cls := .type "code", data := Data.fields #[.str "NoHolder" 273, .str "NoHolder" 274, .str "/claim/cut.py" 275, .int 12 0, .int 0 0, .int 0 0, .int 0 0, .int 0 0, .ref 79, .bool false, .int 181 0, .ref 80, .none, .none, .none, .none, .int 276 0, .int 12 0, .str "/claim/cut.py" 277] }
noncomputable def ho_85 (P : Params) : Obj := { cls := .type "frame", slots := #[some (.ref 81), some (.ref 3), some (.ref 78), none, some (.str "sluice.errors" 187), none, some (.ref 0)] }
noncomputable def ho_86 (P : Params) : Obj := { cls := .type "tuple", data := Data.seq #[] }
noncomputable def ho_87 (P : Params) : Obj := { cls := .type "dict", data := Data.dict #[en P "__module__" 278 (.str "sluice.errors" 187), en P "__firstlineno__" 282 (.int 12 281), en P "__static_attributes__" 283 (.ref 83), en P "__doc__" 284 .none] 2 }
noncomputable def ho_88 (P : Params) : Obj := { cls := .type "type", data := Data.cls { name := "NoHolder", bases := [.ref 24], mro := [.ref 85, .ref 24, .type "ValueError", .type "Exception", .type "BaseException", .type "object"], ns := 84, qualname := "NoHolder" }, slots := #[some (.ref 76), none, some (.str "NoHolder" 271), some (.str "NoHolder" 279), some (.builtin "ValueError.__new__"), some (.bool true)] }
noncomputable def ho_89 (P : Params) : Obj := { cls := .type "super", data := Data.fields #[.ref 85, .ref 85, .ref 85] }
noncomputable def ho_90 (P : Params) : Obj := { cls := .type "builtin_function_or_method", data := Data.fields #[.builtin "object.__init_subclass__", .ref 85] }
noncomputable def ho_91 (P : Params) : Obj := { cls := .type "tuple", data := Data.seq #[.ref 24] }
noncomputable def ho_92 (P : Params) : Obj := { cls := .type "builtin_function_or_method", data := Data.fields #[.builtin "type.__prepare__", .type "type"] }
noncomputable def ho_93 (P : Params) : Obj := { cls := .type "dict", data := Data.dict #[en P "__module__" 294 (.str "sluice.errors" 187), en P "__qualname__" 296 (.str "NotYours" 295), en P "__firstlineno__" 298 (.int 14 297), en P "__static_attributes__" 299 (.ref 95)] 4 }
noncomputable def ho_94 (P : Params) : Obj := { cls := .type "tuple", data := Data.seq #[] }
noncomputable def ho_95 (P : Params) : Obj := { cls := .none, data := Data.fields #[] }
noncomputable def ho_96 (P : Params) : Obj := { cls := .type "code", data := Data.fields #[.str "NotYours" 289, .str "NotYours" 290, .str "/claim/cut.py" 291, .int 14 0, .int 0 0, .int 0 0, .int 0 0, .int 0 0, .ref 91, .bool false, .int 181 0, .ref 92, .none, .none, .none, .none, .int 292 0, .int 14 0, .str "/claim/cut.py" 293] }
noncomputable def ho_97 (P : Params) : Obj := { cls := .type "frame", slots := #[some (.ref 93), some (.ref 3), some (.ref 90), none, some (.str "sluice.errors" 187), none, some (.ref 0)] }
noncomputable def ho_98 (P : Params) : Obj := { cls := .type "tuple", data := Data.seq #[] }
noncomputable def ho_99 (P : Params) : Obj := { cls := .type "dict", data := Data.dict #[en P "__module__" 294 (.str "sluice.errors" 187), en P "__firstlineno__" 298 (.int 14 297), en P "__static_attributes__" 299 (.ref 95), en P "__doc__" 300 .none] 2 }
noncomputable def ho_100 (P : Params) : Obj := { cls := .type "type", data := Data.cls { name := "NotYours", bases := [.ref 24], mro := [.ref 97, .ref 24, .type "ValueError", .type "Exception", .type "BaseException", .type "object"], ns := 96, qualname := "NotYours" }, slots := #[some (.ref 88), none, some (.str "NotYours" 287), some (.str "NotYours" 295), some (.builtin "ValueError.__new__"), some (.bool true)] }
noncomputable def ho_101 (P : Params) : Obj := { cls := .type "super", data := Data.fields #[.ref 97, .ref 97, .ref 97] }
noncomputable def ho_102 (P : Params) : Obj := { cls := .type "builtin_function_or_method", data := Data.fields #[.builtin "object.__init_subclass__", .ref 97] }
noncomputable def ho_103 (P : Params) : Obj := { cls := .type "tuple", data := Data.seq #[.ref 24] }
noncomputable def ho_104 (P : Params) : Obj := { cls := .type "builtin_function_or_method", data := Data.fields #[.builtin "type.__prepare__", .type "type"] }
noncomputable def ho_105 (P : Params) : Obj := { cls := .type "dict", data := Data.dict #[en P "__module__" 310 (.str "sluice.errors" 187), en P "__qualname__" 312 (.str "NotAlone" 311), en P "__firstlineno__" 314 (.int 16 313), en P "__static_attributes__" 315 (.ref 107)] 4 }
noncomputable def ho_106 (P : Params) : Obj := { cls := .type "tuple", data := Data.seq #[] }
noncomputable def ho_107 (P : Params) : Obj := { cls := .none, data := Data.fields #[] }
noncomputable def ho_108 (P : Params) : Obj := { cls := .type "code", data := Data.fields #[.str "NotAlone" 305, .str "NotAlone" 306, .str "/claim/cut.py" 307, .int 16 0, .int 0 0, .int 0 0, .int 0 0, .int 0 0, .ref 103, .bool false, .int 181 0, .ref 104, .none, .none, .none, .none, .int 308 0, .int 16 0, .str "/claim/cut.py" 309] }
noncomputable def ho_109 (P : Params) : Obj := { cls := .type "frame", slots := #[some (.ref 105), some (.ref 3), some (.ref 102), none, some (.str "sluice.errors" 187), none, some (.ref 0)] }
noncomputable def ho_110 (P : Params) : Obj := { cls := .type "tuple", data := Data.seq #[] }
noncomputable def ho_111 (P : Params) : Obj := { cls := .type "dict", data := Data.dict #[en P "__module__" 310 (.str "sluice.errors" 187), en P "__firstlineno__" 314 (.int 16 313), en P "__static_attributes__" 315 (.ref 107), en P "__doc__" 316 .none] 2 }
noncomputable def ho_112 (P : Params) : Obj := { cls := .type "type", data := Data.cls { name := "NotAlone", bases := [.ref 24], mro := [.ref 109, .ref 24, .type "ValueError", .type "Exception", .type "BaseException", .type "object"], ns := 108, qualname := "NotAlone" }, slots := #[some (.ref 100), none, some (.str "NotAlone" 303), some (.str "NotAlone" 311), some (.builtin "ValueError.__new__"), some (.bool true)] }
noncomputable def ho_113 (P : Params) : Obj := { cls := .type "super", data := Data.fields #[.ref 109, .ref 109, .ref 109] }
noncomputable def ho_114 (P : Params) : Obj := { cls := .type "builtin_function_or_method", data := Data.fields #[.builtin "object.__init_subclass__", .ref 109] }
noncomputable def ho_115 (P : Params) : Obj := { cls := .type "tuple", data := Data.seq #[.ref 24] }
noncomputable def ho_116 (P : Params) : Obj := { cls := .type "builtin_function_or_method", data := Data.fields #[.builtin "type.__prepare__", .type "type"] }
noncomputable def ho_117 (P : Params) : Obj := { cls := .type "dict", data := Data.dict #[en P "__module__" 326 (.str "sluice.errors" 187), en P "__qualname__" 328 (.str "TooMuch" 327), en P "__firstlineno__" 330 (.int 18 329), en P "__static_attributes__" 331 (.ref 119)] 4 }
noncomputable def ho_118 (P : Params) : Obj := { cls := .type "tuple", data := Data.seq #[] }
noncomputable def ho_119 (P : Params) : Obj := { cls := .none, data := Data.fields #[] }
noncomputable def ho_120 (P : Params) : Obj := { cls := .type "code", data := Data.fields #[.str "TooMuch" 321, .str "TooMuch" 322, .str "/claim/cut.py" 323, .int 18 0, .int 0 0, .int 0 0, .int 0 0, .int 0 0, .ref 115, .bool false, .int 181 0, .ref 116, .none, .none, .none, .none, .int 324 0, .int 18 0, .str "/claim/cut.py" 325] }
noncomputable def ho_121 (P : Params) : Obj := { cls := .type "frame", slots := #[some (.ref 117), some (.ref 3), some (.ref 114), none, some (.str "sluice.errors" 187), none, some (.ref 0)] }
noncomputable def ho_122 (P : Params) : Obj := { cls := .type "tuple", data := Data.seq #[] }
noncomputable def ho_123 (P : Params) : Obj := { cls := .type "dict", data := Data.dict #[en P "__module__" 326 (.str "sluice.errors" 187), en P "__firstlineno__" 330 (.int 18 329), en P "__static_attributes__" 331 (.ref 119), en P "__doc__" 332 .none] 2 }
noncomputable def ho_124 (P : Params) : Obj := { cls := .type "type", data := Data.cls { name := "TooMuch", bases := [.ref 24], mro := [.ref 121, .ref 24, .type "ValueError", .type "Exception", .type "BaseException", .type "object"], ns := 120, qualname := "TooMuch" }, slots := #[some (.ref 112), none, some (.str "TooMuch" 319), some (.str "TooMuch" 327), some (.builtin "ValueError.__new__"), some (.bool true)] }
noncomputable def ho_125 (P : Params) : Obj := { cls := .type "super", data := Data.fields #[.ref 121, .ref 121, .ref 121] }
noncomputable def ho_126 (P : Params) : Obj := { cls := .type "builtin_function_or_method", data := Data.fields #[.builtin "object.__init_subclass__", .ref 121] }
noncomputable def ho_127 (P : Params) : Obj := { cls := .type "tuple", data := Data.seq #[.ref 24] }
noncomputable def ho_128 (P : Params) : Obj := { cls := .type "builtin_function_or_method", data := Data.fields #[.builtin "type.__prepare__", .type "type"] }
noncomputable def ho_129 (P : Params) : Obj := { cls := .type "dict", data := Data.dict #[en P "__module__" 342 (.str "sluice.errors" 187), en P "__qualname__" 344 (.str "Full" 343), en P "__firstlineno__" 346 (.int 20 345), en P "__static_attributes__" 347 (.ref 131)] 4 }
noncomputable def ho_130 (P : Params) : Obj := { cls := .type "tuple", data := Data.seq #[] }
noncomputable def ho_131 (P : Params) : Obj := { cls := .none, data := Data.fields #[] }
noncomputable def ho_132 (P : Params) : Obj := { cls := .type "code", data := Data.fields #[.str "Full" 337, .str "Full" 338, .str "/claim/cut.py" 339, .int 20 0, .int 0 0, .int 0 0, .int 0 0, .int 0 0, .ref 127, .bool false, .int 181 0, .ref 128, .none, .none, .none, .none, .int 340 0, .int 20 0, .str "/claim/cut.py" 341] }
noncomputable def ho_133 (P : Params) : Obj := { cls := .type "frame", slots := #[some (.ref 129), some (.ref 3), some (.ref 126), none, some (.str "sluice.errors" 187), none, some (.ref 0)] }
noncomputable def ho_134 (P : Params) : Obj := { cls := .type "tuple", data := Data.seq #[] }
noncomputable def ho_135 (P : Params) : Obj := { cls := .type "dict", data := Data.dict #[en P "__module__" 342 (.str "sluice.errors" 187), en P "__firstlineno__" 346 (.int 20 345), en P "__static_attributes__" 347 (.ref 131), en P "__doc__" 348 .none] 2 }
noncomputable def ho_136 (P : Params) : Obj := { cls := .type "type", data := Data.cls { name := "Full", bases := [.ref 24], mro := [.ref 133, .ref 24, .type "ValueError", .type "Exception", .type "BaseException", .type "object"], ns := 132, qualname := "Full" }, slots := #[some (.ref 124), none, some (.str "Full" 335), some (.str "Full" 343), some (.builtin "ValueError.__new__"), some (.bool true)] }
noncomputable def ho_137 (P : Params) : Obj := { cls := .type "super", data := Data.fields #[.ref 133, .ref 133, .ref 133] }
noncomputable def ho_138 (P : Params) : Obj := { cls := .type "builtin_function_or_method", data := Data.fields #[.builtin "object.__init_subclass__", .ref 133] }
noncomputable def ho_139 (P : Params) : Obj := { cls := .type "tuple", data := Data.seq #[.ref 24] }
noncomputable def ho_140 (P : Params) : Obj := { cls := .type "builtin_function_or_method", data := Data.fields #[.builtin "type.__prepare__", .type "type"] }
noncomputable def ho_141 (P : Params) : Obj := { cls := .type "dict", data := Data.dict #[en P "__module__" 358 (.str "sluice.errors" 187), en P "__qualname__" 360 (.str "NoPaper" 359), en P "__firstlineno__" 362 (.int 22 361), en P "__static_attributes__" 363 (.ref 143)] 4 }
noncomputable def ho_142 (P : Params) : Obj := { cls := .type "tuple", data := Data.seq #[] }
noncomputable def ho_143 (P : Params) : Obj := { cls := .none, data := Data.fields #[] }
noncomputable def ho_144 (P : Params) : Obj := { cls := .type "code", data := Data.fields #[.str "NoPaper" 353, .str "NoPaper" 354, .str "/claim/cut.py" 355, .int 22 0, .int 0 0, .int 0 0, .int 0 0, .int 0 0, .ref 139, .bool false, .int 181 0, .ref 140, .none, .none, .none, .none, .int 356 0, .int 22 0, .str "/claim/cut.py" 357] }
noncomputable def ho_145 (P : Params) : Obj := { cls := .type "frame", slots := #[some (.ref 141), some (.ref 3), some (.ref 138), none, some (.str "sluice.errors" 187), none, some (.ref 0)] }
noncomputable def ho_146 (P : Params) : Obj := { cls := .type "tuple", data := Data.seq #[] }
noncomputable def ho_147 (P : Params) : Obj := { cls := .type "dict", data := Data.dict #[en P "__module__" 358 (.str "sluice.errors" 187), en P "__firstlineno__" 362 (.int 22 361), en P "__static_attributes__" 363 (.ref 143), en P "__doc__" 364 .none] 2 }
noncomputable def ho_148 (P : Params) : Obj := { cls := .type "type", data := Data.cls { name := "NoPaper", bases := [.ref 24], mro := [.ref 145, .ref 24, .type "ValueError", .type "Exception", .type "BaseException", .type "object"], ns := 144, qualname := "NoPaper" }, slots := #[some (.ref 136), none, some (.str "NoPaper" 351), some (.str "NoPaper" 359), some (.builtin "ValueError.__new__"), some (.bool true)] }
noncomputable def ho_149 (P : Params) : Obj := { cls := .type "super", data := Data.fields #[.ref 145, .ref 145, .ref 145] }
noncomputable def ho_150 (P : Params) : Obj := { cls := .type "builtin_function_or_method", data := Data.fields #[.builtin "object.__init_subclass__", .ref 145] }
noncomputable def ho_151 (P : Params) : Obj := { cls := .type "tuple", data := Data.seq #[.ref 24] }
noncomputable def ho_152 (P : Params) : Obj := { cls := .type "builtin_function_or_method", data := Data.fields #[.builtin "type.__prepare__", .type "type"] }
noncomputable def ho_153 (P : Params) : Obj := { cls := .type "dict", data := Data.dict #[en P "__module__" 374 (.str "sluice.errors" 187), en P "__qualname__" 376 (.str "NoCut" 375), en P "__firstlineno__" 378 (.int 24 377), en P "__static_attributes__" 379 (.ref 155)] 4 }
noncomputable def ho_154 (P : Params) : Obj := { cls := .type "tuple", data := Data.seq #[] }
noncomputable def ho_155 (P : Params) : Obj := { cls := .none, data := Data.fields #[] }
noncomputable def ho_156 (P : Params) : Obj := { cls := .type "code", data := Data.fields #[.str "NoCut" 369, .str "NoCut" 370, .str "/claim/cut.py" 371, .int 24 0, .int 0 0, .int 0 0, .int 0 0, .int 0 0, .ref 151, .bool false, .int 181 0, .ref 152, .none, .none, .none, .none, .int 372 0, .int 24 0, .str "/claim/cut.py" 373] }
noncomputable def ho_157 (P : Params) : Obj := { cls := .type "frame", slots := #[some (.ref 153), some (.ref 3), some (.ref 150), none, some (.str "sluice.errors" 187), none, some (.ref 0)] }
noncomputable def ho_158 (P : Params) : Obj := { cls := .type "tuple", data := Data.seq #[] }
noncomputable def ho_159 (P : Params) : Obj := { cls := .type "dict", data := Data.dict #[en P "__module__" 374 (.str "sluice.errors" 187), en P "__firstlineno__" 378 (.int 24 377), en P "__static_attributes__" 379 (.ref 155), en P "__doc__" 380 .none] 2 }
noncomputable def ho_160 (P : Params) : Obj := { cls := .type "type", data := Data.cls { name := "NoCut", bases := [.ref 24], mro := [.ref 157, .ref 24, .type "ValueError", .type "Exception", .type "BaseException", .type "object"], ns := 156, qualname := "NoCut" }, slots := #[some (.ref 148), none, some (.str "NoCut" 367), some (.str "NoCut" 375), some (.builtin "ValueError.__new__"), some (.bool true)] }
noncomputable def ho_161 (P : Params) : Obj := { cls := .type "super", data := Data.fields #[.ref 157, .ref 157, .ref 157] }
noncomputable def ho_162 (P : Params) : Obj := { cls := .type "builtin_function_or_method", data := Data.fields #[.builtin "object.__init_subclass__", .ref 157] }
noncomputable def ho_163 (P : Params) : Obj := { cls := .type "tuple", data := Data.seq #[.ref 24] }
noncomputable def ho_164 (P : Params) : Obj := { cls := .type "builtin_function_or_method", data := Data.fields #[.builtin "type.__prepare__", .type "type"] }
noncomputable def ho_165 (P : Params) : Obj := { cls := .type "dict", data := Data.dict #[en P "__module__" 390 (.str "sluice.errors" 187), en P "__qualname__" 392 (.str "NoPond" 391), en P "__firstlineno__" 394 (.int 26 393), en P "__static_attributes__" 395 (.ref 167)] 4 }
noncomputable def ho_166 (P : Params) : Obj := { cls := .type "tuple", data := Data.seq #[] }
noncomputable def ho_167 (P : Params) : Obj := { cls := .none, data := Data.fields #[] }
noncomputable def ho_168 (P : Params) : Obj := { cls := .type "code", data := Data.fields #[.str "NoPond" 385, .str "NoPond" 386, .str "/claim/cut.py" 387, .int 26 0, .int 0 0, .int 0 0, .int 0 0, .int 0 0, .ref 163, .bool false, .int 181 0, .ref 164, .none, .none, .none, .none, .int 388 0, .int 26 0, .str "/claim/cut.py" 389] }
noncomputable def ho_169 (P : Params) : Obj := { cls := .type "frame", slots := #[some (.ref 165), some (.ref 3), some (.ref 162), none, some (.str "sluice.errors" 187), none, some (.ref 0)] }
noncomputable def ho_170 (P : Params) : Obj := { cls := .type "tuple", data := Data.seq #[] }
noncomputable def ho_171 (P : Params) : Obj := { cls := .type "dict", data := Data.dict #[en P "__module__" 390 (.str "sluice.errors" 187), en P "__firstlineno__" 394 (.int 26 393), en P "__static_attributes__" 395 (.ref 167), en P "__doc__" 396 .none] 2 }
noncomputable def ho_172 (P : Params) : Obj := { cls := .type "type", data := Data.cls { name := "NoPond", bases := [.ref 24], mro := [.ref 169, .ref 24, .type "ValueError", .type "Exception", .type "BaseException", .type "object"], ns := 168, qualname := "NoPond" }, slots := #[some (.ref 160), none, some (.str "NoPond" 383), some (.str "NoPond" 391), some (.builtin "ValueError.__new__"), some (.bool true)] }
noncomputable def ho_173 (P : Params) : Obj := { cls := .type "super", data := Data.fields #[.ref 169, .ref 169, .ref 169] }
noncomputable def ho_174 (P : Params) : Obj := { cls := .type "builtin_function_or_method", data := Data.fields #[.builtin "object.__init_subclass__", .ref 169] }
noncomputable def ho_175 (P : Params) : Obj := { cls := .type "tuple", data := Data.seq #[.ref 24] }
noncomputable def ho_176 (P : Params) : Obj := { cls := .type "builtin_function_or_method", data := Data.fields #[.builtin "type.__prepare__", .type "type"] }
noncomputable def ho_177 (P : Params) : Obj := { cls := .type "dict", data := Data.dict #[en P "__module__" 406 (.str "sluice.errors" 187), en P "__qualname__" 408 (.str "NoDay" 407), en P "__firstlineno__" 410 (.int 28 409), en P "__static_attributes__" 411 (.ref 179)] 4 }
noncomputable def ho_178 (P : Params) : Obj := { cls := .type "tuple", data := Data.seq #[] }
noncomputable def ho_179 (P : Params) : Obj := { cls := .none, data := Data.fields #[] }
noncomputable def ho_180 (P : Params) : Obj := { cls := .type "code", data := Data.fields #[.str "NoDay" 401, .str "NoDay" 402, .str "/claim/cut.py" 403, .int 28 0, .int 0 0, .int 0 0, .int 0 0, .int 0 0, .ref 175, .bool false, .int 181 0, .ref 176, .none, .none, .none, .none, .int 404 0, .int 28 0, .str "/claim/cut.py" 405] }
noncomputable def ho_181 (P : Params) : Obj := { cls := .type "frame", slots := #[some (.ref 177), some (.ref 3), some (.ref 174), none, some (.str "sluice.errors" 187), none, some (.ref 0)] }
noncomputable def ho_182 (P : Params) : Obj := { cls := .type "tuple", data := Data.seq #[] }
noncomputable def ho_183 (P : Params) : Obj := { cls := .type "dict", data := Data.dict #[en P "__module__" 406 (.str "sluice.errors" 187), en P "__firstlineno__" 410 (.int 28 409), en P "__static_attributes__" 411 (.ref 179), en P "__doc__" 412 .none] 2 }
noncomputable def ho_184 (P : Params) : Obj := { cls := .type "type", data := Data.cls { name := "NoDay", bases := [.ref 24], mro := [.ref 181, .ref 24, .type "ValueError", .type "Exception", .type "BaseException", .type "object"], ns := 180, qualname := "NoDay" }, slots := #[some (.ref 172), none, some (.str "NoDay" 399), some (.str "NoDay" 407), some (.builtin "ValueError.__new__"), some (.bool true)] }
noncomputable def ho_185 (P : Params) : Obj := { cls := .type "super", data := Data.fields #[.ref 181, .ref 181, .ref 181] }
noncomputable def ho_186 (P : Params) : Obj := { cls := .type "builtin_function_or_method", data := Data.fields #[.builtin "object.__init_subclass__", .ref 181] }
noncomputable def ho_187 (P : Params) : Obj := { cls := .type "tuple", data := Data.seq #[.ref 24] }
noncomputable def ho_188 (P : Params) : Obj := { cls := .type "builtin_function_or_method", data := Data.fields #[.builtin "type.__prepare__", .type "type"] }
noncomputable def ho_189 (P : Params) : Obj := { cls := .type "dict", data := Data.dict #[en P "__module__" 422 (.str "sluice.errors" 187), en P "__qualname__" 424 (.str "Fixed" 423), en P "__firstlineno__" 426 (.int 30 425), en P "__static_attributes__" 427 (.ref 191)] 4 }
noncomputable def ho_190 (P : Params) : Obj := { cls := .type "tuple", data := Data.seq #[] }
noncomputable def ho_191 (P : Params) : Obj := { cls := .none, data := Data.fields #[] }
noncomputable def ho_192 (P : Params) : Obj := { cls := .type "code", data := Data.fields #[.str "Fixed" 417, .str "Fixed" 418, .str "/claim/cut.py" 419, .int 30 0, .int 0 0, .int 0 0, .int 0 0, .int 0 0, .ref 187, .bool false, .int 181 0, .ref 188, .none, .none, .none, .none, .int 420 0, .int 30 0, .str "/claim/cut.py" 421] }
noncomputable def ho_193 (P : Params) : Obj := { cls := .type "frame", slots := #[some (.ref 189), some (.ref 3), some (.ref 186), none, some (.str "sluice.errors" 187), none, some (.ref 0)] }
noncomputable def ho_194 (P : Params) : Obj := { cls := .type "tuple", data := Data.seq #[] }
noncomputable def ho_195 (P : Params) : Obj := { cls := .type "dict", data := Data.dict #[en P "__module__" 422 (.str "sluice.errors" 187), en P "__firstlineno__" 426 (.int 30 425), en P "__static_attributes__" 427 (.ref 191), en P "__doc__" 428 .none] 2 }
noncomputable def ho_196 (P : Params) : Obj := { cls := .type "type", data := Data.cls { name := "Fixed", bases := [.ref 24], mro := [.ref 193, .ref 24, .type "ValueError", .type "Exception", .type "BaseException", .type "object"], ns := 192, qualname := "Fixed" }, slots := #[some (.ref 184), none, some (.str "Fixed" 415), some (.str "Fixed" 423), some (.builtin "ValueError.__new__"), some (.bool true)] }
noncomputable def ho_197 (P : Params) : Obj := { cls := .type "super", data := Data.fields #[.ref 193, .ref 193, .ref 193] }
noncomputable def ho_198 (P : Params) : Obj := { cls := .type "builtin_function_or_method", data := Data.fields #[.builtin "object.__init_subclass__", .ref 193] }
noncomputable def ho_199 (P : Params) : Obj := { cls := .type "tuple", data := Data.seq #[.ref 24] }
noncomputable def ho_200 (P : Params) : Obj := { cls := .type "builtin_function_or_method", data := Data.fields #[.builtin "type.__prepare__", .type "type"] }
noncomputable def ho_201 (P : Params) : Obj := { cls := .type "dict", data := Data.dict #[en P "__module__" 438 (.str "sluice.errors" 187), en P "__qualname__" 440 (.str "Harms" 439), en P "__firstlineno__" 442 (.int 32 441), en P "__static_attributes__" 443 (.ref 203)] 4 }
noncomputable def ho_202 (P : Params) : Obj := { cls := .type "tuple", data := Data.seq #[] }
noncomputable def ho_203 (P : Params) : Obj := { cls := .none, data := Data.fields #[] }
noncomputable def ho_204 (P : Params) : Obj := { cls := .type "code", data := Data.fields #[.str "Harms" 433, .str "Harms" 434, .str "/claim/cut.py" 435, .int 32 0, .int 0 0, .int 0 0, .int 0 0, .int 0 0, .ref 199, .bool false, .int 181 0, .ref 200, .none, .none, .none, .none, .int 436 0, .int 32 0, .str "/claim/cut.py" 437] }
noncomputable def ho_205 (P : Params) : Obj := { cls := .type "frame", slots := #[some (.ref 201), some (.ref 3), some (.ref 198), none, some (.str "sluice.errors" 187), none, some (.ref 0)] }
noncomputable def ho_206 (P : Params) : Obj := { cls := .type "tuple", data := Data.seq #[] }
noncomputable def ho_207 (P : Params) : Obj := { cls := .type "dict", data := Data.dict #[en P "__module__" 438 (.str "sluice.errors" 187), en P "__firstlineno__" 442 (.int 32 441), en P "__static_attributes__" 443 (.ref 203), en P "__doc__" 444 .none] 2 }
noncomputable def ho_208 (P : Params) : Obj := { cls := .type "type", data := Data.cls { name := "Harms", bases := [.ref 24], mro := [.ref 205, .ref 24, .type "ValueError", .type "Exception", .type "BaseException", .type "object"], ns := 204, qualname := "Harms" }, slots := #[some (.ref 196), none, some (.str "Harms" 431), some (.str "Harms" 439), some (.builtin "ValueError.__new__"), some (.bool true)] }
noncomputable def ho_209 (P : Params) : Obj := { cls := .type "super", data := Data.fields #[.ref 205, .ref 205, .ref 205] }
noncomputable def ho_210 (P : Params) : Obj := { cls := .type "builtin_function_or_method", data := Data.fields #[.builtin "object.__init_subclass__", .ref 205] }
noncomputable def ho_211 (P : Params) : Obj := { cls := .type "tuple", data := Data.seq #[.ref 24] }
noncomputable def ho_212 (P : Params) : Obj := { cls := .type "builtin_function_or_method", data := Data.fields #[.builtin "type.__prepare__", .type "type"] }
noncomputable def ho_213 (P : Params) : Obj := { cls := .type "dict", data := Data.dict #[en P "__module__" 454 (.str "sluice.errors" 187), en P "__qualname__" 456 (.str "NoRow" 455), en P "__firstlineno__" 458 (.int 34 457), en P "__static_attributes__" 459 (.ref 215)] 4 }
noncomputable def ho_214 (P : Params) : Obj := { cls := .type "tuple", data := Data.seq #[] }
noncomputable def ho_215 (P : Params) : Obj := { cls := .none, data := Data.fields #[] }
noncomputable def ho_216 (P : Params) : Obj := { cls := .type "code", data := Data.fields #[.str "NoRow" 449, .str "NoRow" 450, .str "/claim/cut.py" 451, .int 34 0, .int 0 0, .int 0 0, .int 0 0, .int 0 0, .ref 211, .bool false, .int 181 0, .ref 212, .none, .none, .none, .none, .int 452 0, .int 34 0, .str "/claim/cut.py" 453] }
noncomputable def ho_217 (P : Params) : Obj := { cls := .type "frame", slots := #[some (.ref 213), some (.ref 3), some (.ref 210), none, some (.str "sluice.errors" 187), none, some (.ref 0)] }
noncomputable def ho_218 (P : Params) : Obj := { cls := .type "tuple", data := Data.seq #[] }
noncomputable def ho_219 (P : Params) : Obj := { cls := .type "dict", data := Data.dict #[en P "__module__" 454 (.str "sluice.errors" 187), en P "__firstlineno__" 458 (.int 34 457), en P "__static_attributes__" 459 (.ref 215), en P "__doc__" 460 .none] 2 }
noncomputable def ho_220 (P : Params) : Obj := { cls := .type "type", data := Data.cls { name := "NoRow", bases := [.ref 24], mro := [.ref 217, .ref 24, .type "ValueError", .type "Exception", .type "BaseException", .type "object"], ns := 216, qualname := "NoRow" }, slots := #[some (.ref 208), none, some (.str "NoRow" 447), some (.str "NoRow" 455), some (.builtin "ValueError.__new__"), some (.bool true)] }
noncomputable def ho_221 (P : Params) : Obj := { cls := .type "super", data := Data.fields #[.ref 217, .ref 217, .ref 217] }
noncomputable def ho_222 (P : Params) : Obj := { cls := .type "builtin_function_or_method", data := Data.fields #[.builtin "object.__init_subclass__", .ref 217] }
noncomputable def ho_223 (P : Params) : Obj := { cls := .type "tuple", data := Data.seq #[] }
noncomputable def ho_224 (P : Params) : Obj := { cls := .none, data := Data.fields #[] }
noncomputable def ho_225 (P : Params) : Obj := { cls := .type "tuple", data := Data.seq #[.str "below" 471, .str "reach" 472, .str "way" 473] }
noncomputable def ho_226 (P : Params) : Obj := { cls := .type "tuple", data := Data.seq #[] }
noncomputable def ho_227 (P : Params) : Obj := { cls := .none, data := .func { name := "way_of", qualname := "way_of", params := defArgs (top0 20), body := .stmts (defBody (top0 20)), scope := defScope (top0 20), globals := 0, closure := [], defaults := .none, kwdefaults := .none } }
noncomputable def ho_228 (P : Params) : Obj := { cls := .type "code", data := Data.fields #[.str "way_of" 468, .str "way_of" 469, .str "/claim/cut.py" 470, .int 38 0, .int 2 0, .int 0 0, .int 0 0, .int 3 0, .ref 220, .bool true, .int 181 0, .ref 221, .none, .ref 222, .ref 223, .ref 224, .int 474 0, .int 38 0, .str "/claim/cut.py" 475] }
noncomputable def ho_229 (P : Params) : Obj := ⟨.type "function", none, .func (PySem.W.fnOf "way_of" "way_of" (defArgs (top0 20)) (defBody (top0 20)) (defScope (top0 20)) .none .none .none (.str "sluice.rivers" 463) none (.ref 225) .none), #[]⟩
noncomputable def ho_230 (P : Params) : Obj := { cls := .type "tuple", data := Data.seq #[] }
noncomputable def ho_231 (P : Params) : Obj := { cls := .none, data := Data.fields #[] }
noncomputable def ho_232 (P : Params) : Obj := { cls := .type "tuple", data := Data.seq #[.str "below" 480] }
noncomputable def ho_233 (P : Params) : Obj := { cls := .type "tuple", data := Data.seq #[.str "below" 481] }
noncomputable def ho_234 (P : Params) : Obj := { cls := .none, data := .func { name := "tops_first", qualname := "tops_first", params := defArgs (top0 21), body := .stmts (defBody (top0 21)), scope := defScope (top0 21), globals := 0, closure := [], defaults := .none, kwdefaults := .none } }
noncomputable def ho_235 (P : Params) : Obj := { cls := .type "code", data := Data.fields #[.str "tops_first" 477, .str "tops_first" 478, .str "/claim/cut.py" 479, .int 43 0, .int 1 0, .int 0 0, .int 0 0, .int 3 0, .ref 227, .bool true, .int 181 0, .ref 228, .none, .ref 229, .ref 230, .ref 231, .int 482 0, .int 43 0, .str "/claim/cut.py" 483] }
noncomputable def ho_236 (P : Params) : Obj := ⟨.type "function", none, .func (PySem.W.fnOf "tops_first" "tops_first" (defArgs (top0 21)) (defBody (top0 21)) (defScope (top0 21)) .none .none .none (.str "sluice.rivers" 463) none (.ref 232) .none), #[]⟩
noncomputable def ho_237 (P : Params) : Obj := { cls := .type "tuple", data := Data.seq #[] }
noncomputable def ho_238 (P : Params) : Obj := { cls := .none, data := Data.fields #[] }
noncomputable def ho_239 (P : Params) : Obj := { cls := .type "tuple", data := Data.seq #[.str "below" 488, .str "start" 489, .str "stop" 490, .str "way" 491] }
noncomputable def ho_240 (P : Params) : Obj := { cls := .type "tuple", data := Data.seq #[] }
noncomputable def ho_241 (P : Params) : Obj := { cls := .none, data := .func { name := "stretch_of", qualname := "stretch_of", params := defArgs (top0 22), body := .stmts (defBody (top0 22)), scope := defScope (top0 22), globals := 0, closure := [], defaults := .none, kwdefaults := .none } }
noncomputable def ho_242 (P : Params) : Obj := { cls := .type "code", data := Data.fields #[.str "stretch_of" 485, .str "stretch_of" 486, .str "/claim/cut.py" 487, .int 45 0, .int 3 0, .int 0 0, .int 0 0, .int 3 0, .ref 234, .bool true, .int 181 0, .ref 235, .none, .ref 236, .ref 237, .ref 238, .int 492 0, .int 45 0, .str "/claim/cut.py" 493] }
noncomputable def ho_243 (P : Params) : Obj := ⟨.type "function", none, .func (PySem.W.fnOf "stretch_of" "stretch_of" (defArgs (top0 22)) (defBody (top0 22)) (defScope (top0 22)) .none .none .none (.str "sluice.rivers" 463) none (.ref 239) .none), #[]⟩
noncomputable def ho_244 (P : Params) : Obj := { cls := .type "tuple", data := Data.seq #[] }
noncomputable def ho_245 (P : Params) : Obj := { cls := .none, data := Data.fields #[] }
noncomputable def ho_246 (P : Params) : Obj := { cls := .type "tuple", data := Data.seq #[.str "below" 500, .str "springs" 501, .str "flows" 502, .str "reach" 503] }
noncomputable def ho_247 (P : Params) : Obj := { cls := .type "tuple", data := Data.seq #[] }
noncomputable def ho_248 (P : Params) : Obj := { cls := .none, data := .func { name := "natural_of", qualname := "natural_of", params := defArgs (top0 24), body := .stmts (defBody (top0 24)), scope := defScope (top0 24), globals := 0, closure := [], defaults := .none, kwdefaults := .none } }
noncomputable def ho_249 (P : Params) : Obj := { cls := .type "code", data := Data.fields #[.str "natural_of" 497, .str "natural_of" 498, .str "/claim/cut.py" 499, .int 53 0, .int 2 0, .int 0 0, .int 0 0, .int 3 0, .ref 241, .bool true, .int 181 0, .ref 242, .none, .ref 243, .ref 244, .ref 245, .int 504 0, .int 53 0, .str "/claim/cut.py" 505] }
noncomputable def ho_250 (P : Params) : Obj := ⟨.type "function", none, .func (PySem.W.fnOf "natural_of" "natural_of" (defArgs (top0 24)) (defBody (top0 24)) (defScope (top0 24)) .none .none .none (.str "sluice.flows" 495) none (.ref 246) .none), #[]⟩
noncomputable def ho_251 (P : Params) : Obj := { cls := .type "tuple", data := Data.seq #[] }
noncomputable def ho_252 (P : Params) : Obj := { cls := .none, data := Data.fields #[] }
noncomputable def ho_253 (P : Params) : Obj := { cls := .type "tuple", data := Data.seq #[.str "below" 512, .str "one" 513, .str "day" 514, .str "start" 515, .str "back" 516, .str "most" 517] }
noncomputable def ho_254 (P : Params) : Obj := { cls := .type "tuple", data := Data.seq #[] }
noncomputable def ho_255 (P : Params) : Obj := { cls := .none, data := .func { name := "reaches_of", qualname := "reaches_of", params := defArgs (top0 26), body := .stmts (defBody (top0 26)), scope := defScope (top0 26), globals := 0, closure := [], defaults := .none, kwdefaults := .none } }
noncomputable def ho_256 (P : Params) : Obj := { cls := .type "code", data := Data.fields #[.str "reaches_of" 509, .str "reaches_of" 510, .str "/claim/cut.py" 511, .int 60 0, .int 2 0, .int 0 0, .int 0 0, .int 3 0, .ref 248, .bool true, .int 181 0, .ref 249, .none, .ref 250, .ref 251, .ref 252, .int 518 0, .int 60 0, .str "/claim/cut.py" 519] }
noncomputable def ho_257 (P : Params) : Obj := ⟨.type "function", none, .func (PySem.W.fnOf "reaches_of" "reaches_of" (defArgs (top0 26)) (defBody (top0 26)) (defScope (top0 26)) .none .none .none (.str "sluice.licences" 507) none (.ref 253) .none), #[]⟩
noncomputable def ho_258 (P : Params) : Obj := { cls := .type "tuple", data := Data.seq #[] }
noncomputable def ho_259 (P : Params) : Obj := { cls := .none, data := Data.fields #[] }
noncomputable def ho_260 (P : Params) : Obj := { cls := .type "tuple", data := Data.seq #[.str "one" 524] }
noncomputable def ho_261 (P : Params) : Obj := { cls := .type "tuple", data := Data.seq #[] }
noncomputable def ho_262 (P : Params) : Obj := { cls := .none, data := .func { name := "day_filed", qualname := "day_filed", params := defArgs (top0 27), body := .stmts (defBody (top0 27)), scope := defScope (top0 27), globals := 0, closure := [], defaults := .none, kwdefaults := .none } }
noncomputable def ho_263 (P : Params) : Obj := { cls := .type "code", data := Data.fields #[.str "day_filed" 521, .str "day_filed" 522, .str "/claim/cut.py" 523, .int 63 0, .int 1 0, .int 0 0, .int 0 0, .int 3 0, .ref 255, .bool true, .int 181 0, .ref 256, .none, .ref 257, .ref 258, .ref 259, .int 525 0, .int 63 0, .str "/claim/cut.py" 526] }
noncomputable def ho_264 (P : Params) : Obj := ⟨.type "function", none, .func (PySem.W.fnOf "day_filed" "day_filed" (defArgs (top0 27)) (defBody (top0 27)) (defScope (top0 27)) .none .none .none (.str "sluice.licences" 507) none (.ref 260) .none), #[]⟩
noncomputable def ho_265 (P : Params) : Obj := { cls := .type "tuple", data := Data.seq #[] }
noncomputable def ho_266 (P : Params) : Obj := { cls := .none, data := Data.fields #[] }
noncomputable def ho_267 (P : Params) : Obj := { cls := .type "tuple", data := Data.seq #[.str "one" 531] }
noncomputable def ho_268 (P : Params) : Obj := { cls := .type "tuple", data := Data.seq #[] }
noncomputable def ho_269 (P : Params) : Obj := { cls := .none, data := .func { name := "most_of", qualname := "most_of", params := defArgs (top0 28), body := .stmts (defBody (top0 28)), scope := defScope (top0 28), globals := 0, closure := [], defaults := .none, kwdefaults := .none } }
noncomputable def ho_270 (P : Params) : Obj := { cls := .type "code", data := Data.fields #[.str "most_of" 528, .str "most_of" 529, .str "/claim/cut.py" 530, .int 65 0, .int 1 0, .int 0 0, .int 0 0, .int 3 0, .ref 262, .bool true, .int 181 0, .ref 263, .none, .ref 264, .ref 265, .ref 266, .int 532 0, .int 65 0, .str "/claim/cut.py" 533] }
noncomputable def ho_271 (P : Params) : Obj := ⟨.type "function", none, .func (PySem.W.fnOf "most_of" "most_of" (defArgs (top0 28)) (defBody (top0 28)) (defScope (top0 28)) .none .none .none (.str "sluice.licences" 507) none (.ref 267) .none), #[]⟩
noncomputable def ho_272 (P : Params) : Obj := { cls := .type "tuple", data := Data.seq #[] }
noncomputable def ho_273 (P : Params) : Obj := { cls := .none, data := Data.fields #[] }
noncomputable def ho_274 (P : Params) : Obj := { cls := .none, data := .func { name := "wants_of", qualname := "wants_of", params := defArgs (top0 29), body := .stmts (defBody (top0 29)), scope := defScope (top0 29), globals := 0, closure := [], defaults := .none, kwdefaults := .none } }
noncomputable def ho_275 (P : Params) : Obj := { cls := .type "code", data := Data.fields #[.str "wants_of" 535, .str "wants_of" 536, .str "/claim/cut.py" 537, .int 67 0, .int 2 0, .int 0 0, .int 0 0, .int 3 0, .ref 269, .bool true, .int 181 0, .ref 270, .none, .none, .none, .ref 271, .int 538 0, .int 67 0, .str "/claim/cut.py" 539] }
noncomputable def ho_276 (P : Params) : Obj := ⟨.type "function", none, .func (PySem.W.fnOf "wants_of" "wants_of" (defArgs (top0 29)) (defBody (top0 29)) (defScope (top0 29)) .none .none .none (.str "sluice.licences" 507) none (.ref 272) .none), #[]⟩
noncomputable def ho_277 (P : Params) : Obj := { cls := .type "tuple", data := Data.seq #[] }
noncomputable def ho_278 (P : Params) : Obj := { cls := .none, data := Data.fields #[] }
noncomputable def ho_279 (P : Params) : Obj := { cls := .type "tuple", data := Data.seq #[.str "below" 546, .str "roll" 547, .str "takes" 548, .str "holds" 549, .str "one" 550, .str "take" 551, .str "reach" 552] }
noncomputable def ho_280 (P : Params) : Obj := { cls := .type "tuple", data := Data.seq #[] }
noncomputable def ho_281 (P : Params) : Obj := { cls := .none, data := .func { name := "holds_of", qualname := "holds_of", params := defArgs (top0 31), body := .stmts (defBody (top0 31)), scope := defScope (top0 31), globals := 0, closure := [], defaults := .none, kwdefaults := .none } }
noncomputable def ho_282 (P : Params) : Obj := { cls := .type "code", data := Data.fields #[.str "holds_of" 543, .str "holds_of" 544, .str "/claim/cut.py" 545, .int 70 0, .int 3 0, .int 0 0, .int 0 0, .int 3 0, .ref 274, .bool true, .int 181 0, .ref 275, .none, .ref 276, .ref 277, .ref 278, .int 553 0, .int 70 0, .str "/claim/cut.py" 554] }
noncomputable def ho_283 (P : Params) : Obj := ⟨.type "function", none, .func (PySem.W.fnOf "holds_of" "holds_of" (defArgs (top0 31)) (defBody (top0 31)) (defScope (top0 31)) .none .none .none (.str "sluice.holds" 541) none (.ref 279) .none), #[]⟩
noncomputable def ho_284 (P : Params) : Obj := { cls := .type "tuple", data := Data.seq #[] }
noncomputable def ho_285 (P : Params) : Obj := { cls := .none, data := Data.fields #[] }
noncomputable def ho_286 (P : Params) : Obj := { cls := .none, data := .func { name := "free_of", qualname := "free_of", params := defArgs (top0 32), body := .stmts (defBody (top0 32)), scope := defScope (top0 32), globals := 0, closure := [], defaults := .none, kwdefaults := .none } }
noncomputable def ho_287 (P : Params) : Obj := { cls := .type "code", data := Data.fields #[.str "free_of" 556, .str "free_of" 557, .str "/claim/cut.py" 558, .int 76 0, .int 4 0, .int 0 0, .int 0 0, .int 3 0, .ref 281, .bool true, .int 181 0, .ref 282, .none, .none, .none, .ref 283, .int 559 0, .int 76 0, .str "/claim/cut.py" 560] }
noncomputable def ho_288 (P : Params) : Obj := ⟨.type "function", none, .func (PySem.W.fnOf "free_of" "free_of" (defArgs (top0 32)) (defBody (top0 32)) (defScope (top0 32)) .none .none .none (.str "sluice.holds" 541) none (.ref 284) .none), #[]⟩
noncomputable def ho_289 (P : Params) : Obj := { cls := .type "tuple", data := Data.seq #[] }
noncomputable def ho_290 (P : Params) : Obj := { cls := .none, data := Data.fields #[] }
noncomputable def ho_291 (P : Params) : Obj := { cls := .none, data := .func { name := "dry_of", qualname := "dry_of", params := defArgs (top0 34), body := .stmts (defBody (top0 34)), scope := defScope (top0 34), globals := 0, closure := [], defaults := .none, kwdefaults := .none } }
noncomputable def ho_292 (P : Params) : Obj := { cls := .type "code", data := Data.fields #[.str "dry_of" 564, .str "dry_of" 565, .str "/claim/cut.py" 566, .int 80 0, .int 4 0, .int 0 0, .int 0 0, .int 3 0, .ref 286, .bool true, .int 181 0, .ref 287, .none, .none, .none, .ref 288, .int 567 0, .int 80 0, .str "/claim/cut.py" 568] }
noncomputable def ho_293 (P : Params) : Obj := ⟨.type "function", none, .func (PySem.W.fnOf "dry_of" "dry_of" (defArgs (top0 34)) (defBody (top0 34)) (defScope (top0 34)) .none .none .none (.str "sluice.cuts" 562) none (.ref 289) .none), #[]⟩
noncomputable def ho_294 (P : Params) : Obj := { cls := .type "tuple", data := Data.seq #[] }
noncomputable def ho_295 (P : Params) : Obj := { cls := .none, data := Data.fields #[] }
noncomputable def ho_296 (P : Params) : Obj := { cls := .type "tuple", data := Data.seq #[.str "roll" 575, .str "number" 576, .str "nth" 577, .str "other" 578, .str "mth" 579] }
noncomputable def ho_297 (P : Params) : Obj := { cls := .type "tuple", data := Data.seq #[] }
noncomputable def ho_298 (P : Params) : Obj := { cls := .none, data := .func { name := "comes_ahead", qualname := "comes_ahead", params := defArgs (top0 36), body := .stmts (defBody (top0 36)), scope := defScope (top0 36), globals := 0, closure := [], defaults := .none, kwdefaults := .none } }
noncomputable def ho_299 (P : Params) : Obj := { cls := .type "code", data := Data.fields #[.str "comes_ahead" 572, .str "comes_ahead" 573, .str "/claim/cut.py" 574, .int 83 0, .int 5 0, .int 0 0, .int 0 0, .int 3 0, .ref 291, .bool true, .int 181 0, .ref 292, .none, .ref 293, .ref 294, .ref 295, .int 580 0, .int 83 0, .str "/claim/cut.py" 581] }
noncomputable def ho_300 (P : Params) : Obj := ⟨.type "function", none, .func (PySem.W.fnOf "comes_ahead" "comes_ahead" (defArgs (top0 36)) (defBody (top0 36)) (defScope (top0 36)) .none .none .none (.str "sluice.papers" 570) none (.ref 296) .none), #[]⟩
noncomputable def ho_301 (P : Params) : Obj := { cls := .type "tuple", data := Data.seq #[] }
noncomputable def ho_302 (P : Params) : Obj := { cls := .none, data := Data.fields #[] }
noncomputable def ho_303 (P : Params) : Obj := { cls := .none, data := .func { name := "stretches_of", qualname := "stretches_of", params := defArgs (top0 37), body := .stmts (defBody (top0 37)), scope := defScope (top0 37), globals := 0, closure := [], defaults := .none, kwdefaults := .none } }
noncomputable def ho_304 (P : Params) : Obj := { cls := .type "code", data := Data.fields #[.str "stretches_of" 583, .str "stretches_of" 584, .str "/claim/cut.py" 585, .int 85 0, .int 2 0, .int 0 0, .int 0 0, .int 3 0, .ref 298, .bool true, .int 181 0, .ref 299, .none, .none, .none, .ref 300, .int 586 0, .int 85 0, .str "/claim/cut.py" 587] }
noncomputable def ho_305 (P : Params) : Obj := ⟨.type "function", none, .func (PySem.W.fnOf "stretches_of" "stretches_of" (defArgs (top0 37)) (defBody (top0 37)) (defScope (top0 37)) .none .none .none (.str "sluice.papers" 570) none (.ref 301) .none), #[]⟩
noncomputable def ho_306 (P : Params) : Obj := { cls := .type "tuple", data := Data.seq #[] }
noncomputable def ho_307 (P : Params) : Obj := { cls := .none, data := Data.fields #[] }
noncomputable def ho_308 (P : Params) : Obj := { cls := .none, data := .func { name := "who_holds", qualname := "who_holds", params := defArgs (top0 38), body := .stmts (defBody (top0 38)), scope := defScope (top0 38), globals := 0, closure := [], defaults := .none, kwdefaults := .none } }
noncomputable def ho_309 (P : Params) : Obj := { cls := .type "code", data := Data.fields #[.str "who_holds" 589, .str "who_holds" 590, .str "/claim/cut.py" 591, .int 87 0, .int 3 0, .int 0 0, .int 0 0, .int 3 0, .ref 303, .bool true, .int 181 0, .ref 304, .none, .none, .none, .ref 305, .int 592 0, .int 87 0, .str "/claim/cut.py" 593] }
noncomputable def ho_310 (P : Params) : Obj := ⟨.type "function", none, .func (PySem.W.fnOf "who_holds" "who_holds" (defArgs (top0 38)) (defBody (top0 38)) (defScope (top0 38)) .none .none .none (.str "sluice.papers" 570) none (.ref 306) .none), #[]⟩
noncomputable def ho_311 (P : Params) : Obj := { cls := .type "tuple", data := Data.seq #[] }
noncomputable def ho_312 (P : Params) : Obj := { cls := .none, data := Data.fields #[] }
noncomputable def ho_313 (P : Params) : Obj := { cls := .none, data := .func { name := "all_ahead", qualname := "all_ahead", params := defArgs (top0 39), body := .stmts (defBody (top0 39)), scope := defScope (top0 39), globals := 0, closure := [], defaults := .none, kwdefaults := .none } }
noncomputable def ho_314 (P : Params) : Obj := { cls := .type "code", data := Data.fields #[.str "all_ahead" 595, .str "all_ahead" 596, .str "/claim/cut.py" 597, .int 89 0, .int 5 0, .int 0 0, .int 0 0, .int 3 0, .ref 308, .bool true, .int 181 0, .ref 309, .none, .none, .none, .ref 310, .int 598 0, .int 89 0, .str "/claim/cut.py" 599] }
noncomputable def ho_315 (P : Params) : Obj := ⟨.type "function", none, .func (PySem.W.fnOf "all_ahead" "all_ahead" (defArgs (top0 39)) (defBody (top0 39)) (defScope (top0 39)) .none .none .none (.str "sluice.papers" 570) none (.ref 311) .none), #[]⟩
noncomputable def ho_316 (P : Params) : Obj := { cls := .type "tuple", data := Data.seq #[] }
noncomputable def ho_317 (P : Params) : Obj := { cls := .none, data := Data.fields #[] }
noncomputable def ho_318 (P : Params) : Obj := { cls := .type "tuple", data := Data.seq #[.str "roll" 604, .str "stretches" 605, .str "dry" 606, .str "takes" 607, .str "number" 608, .str "reach" 609] }
noncomputable def ho_319 (P : Params) : Obj := { cls := .type "tuple", data := Data.seq #[] }
noncomputable def ho_320 (P : Params) : Obj := { cls := .none, data := .func { name := "first_showing", qualname := "first_showing", params := defArgs (top0 40), body := .stmts (defBody (top0 40)), scope := defScope (top0 40), globals := 0, closure := [], defaults := .none, kwdefaults := .none } }
noncomputable def ho_321 (P : Params) : Obj := { cls := .type "code", data := Data.fields #[.str "first_showing" 601, .str "first_showing" 602, .str "/claim/cut.py" 603, .int 93 0, .int 5 0, .int 0 0, .int 0 0, .int 3 0, .ref 313, .bool true, .int 181 0, .ref 314, .none, .ref 315, .ref 316, .ref 317, .int 610 0, .int 93 0, .str "/claim/cut.py" 611] }
noncomputable def ho_322 (P : Params) : Obj := ⟨.type "function", none, .func (PySem.W.fnOf "first_showing" "first_showing" (defArgs (top0 40)) (defBody (top0 40)) (defScope (top0 40)) .none .none .none (.str "sluice.papers" 570) none (.ref 318) .none), #[]⟩
noncomputable def ho_323 (P : Params) : Obj := { cls := .type "tuple", data := Data.seq #[] }
noncomputable def ho_324 (P : Params) : Obj := { cls := .none, data := Data.fields #[] }
noncomputable def ho_325 (P : Params) : Obj := { cls := .none, data := .func { name := "paper_of", qualname := "paper_of", params := defArgs (top0 41), body := .stmts (defBody (top0 41)), scope := defScope (top0 41), globals := 0, closure := [], defaults := .none, kwdefaults := .none } }
noncomputable def ho_326 (P : Params) : Obj := { cls := .type "code", data := Data.fields #[.str "paper_of" 613, .str "paper_of" 614, .str "/claim/cut.py" 615, .int 98 0, .int 6 0, .int 0 0, .int 0 0, .int 3 0, .ref 320, .bool true, .int 181 0, .ref 321, .none, .none, .none, .ref 322, .int 616 0, .int 98 0, .str "/claim/cut.py" 617] }
noncomputable def ho_327 (P : Params) : Obj := ⟨.type "function", none, .func (PySem.W.fnOf "paper_of" "paper_of" (defArgs (top0 41)) (defBody (top0 41)) (defScope (top0 41)) .none .none .none (.str "sluice.papers" 570) none (.ref 323) .none), #[]⟩
noncomputable def ho_328 (P : Params) : Obj := { cls := .type "tuple", data := Data.seq #[] }
noncomputable def ho_329 (P : Params) : Obj := { cls := .none, data := Data.fields #[] }
noncomputable def ho_330 (P : Params) : Obj := { cls := .type "tuple", data := Data.seq #[.str "script" 624, .str "k" 625] }
noncomputable def ho_331 (P : Params) : Obj := { cls := .type "tuple", data := Data.seq #[] }
noncomputable def ho_332 (P : Params) : Obj := { cls := .none, data := .func { name := "_law_cell_at", qualname := "_law_cell_at", params := defArgs (top0 43), body := .stmts (defBody (top0 43)), scope := defScope (top0 43), globals := 0, closure := [], defaults := .none, kwdefaults := .none } }
noncomputable def ho_333 (P : Params) : Obj := { cls := .type "code", data := Data.fields #[.str "_law_cell_at" 621, .str "_law_cell_at" 622, .str "/claim/cut.py" 623, .int 107 0, .int 2 0, .int 0 0, .int 0 0, .int 3 0, .ref 325, .bool true, .int 181 0, .ref 326, .none, .ref 327, .ref 328, .ref 329, .int 626 0, .int 107 0, .str "/claim/cut.py" 627] }
noncomputable def ho_334 (P : Params) : Obj := ⟨.type "function", none, .func (PySem.W.fnOf "_law_cell_at" "_law_cell_at" (defArgs (top0 43)) (defBody (top0 43)) (defScope (top0 43)) .none .none .none (.str "law_sluice_k28_no_paper" 619) none (.ref 330) .none), #[]⟩
noncomputable def ho_335 (P : Params) : Obj := { cls := .type "tuple", data := Data.seq #[] }
noncomputable def ho_336 (P : Params) : Obj := { cls := .none, data := Data.fields #[] }
noncomputable def ho_337 (P : Params) : Obj := { cls := .type "tuple", data := Data.seq #[.str "cell" 632, .str "k" 633, .str "seed" 634, .str "turned" 635] }
noncomputable def ho_338 (P : Params) : Obj := { cls := .type "tuple", data := Data.seq #[] }
noncomputable def ho_339 (P : Params) : Obj := { cls := .none, data := .func { name := "_law_draw", qualname := "_law_draw", params := defArgs (top0 44), body := .stmts (defBody (top0 44)), scope := defScope (top0 44), globals := 0, closure := [], defaults := .none, kwdefaults := .none } }
noncomputable def ho_340 (P : Params) : Obj := { cls := .type "code", data := Data.fields #[.str "_law_draw" 629, .str "_law_draw" 630, .str "/claim/cut.py" 631, .int 111 0, .int 2 0, .int 0 0, .int 0 0, .int 3 0, .ref 332, .bool true, .int 181 0, .ref 333, .none, .ref 334, .ref 335, .ref 336, .int 636 0, .int 111 0, .str "/claim/cut.py" 637] }
noncomputable def ho_341 (P : Params) : Obj := ⟨.type "function", none, .func (PySem.W.fnOf "_law_draw" "_law_draw" (defArgs (top0 44)) (defBody (top0 44)) (defScope (top0 44)) .none .none .none (.str "law_sluice_k28_no_paper" 619) none (.ref 337) .none), #[]⟩
noncomputable def ho_342 (P : Params) : Obj := { cls := .type "tuple", data := Data.seq #[] }
noncomputable def ho_343 (P : Params) : Obj := { cls := .none, data := Data.fields #[] }
noncomputable def ho_344 (P : Params) : Obj := { cls := .none, data := .func { name := "_law_mixed", qualname := "_law_mixed", params := defArgs (top0 45), body := .stmts (defBody (top0 45)), scope := defScope (top0 45), globals := 0, closure := [], defaults := .none, kwdefaults := .none } }
noncomputable def ho_345 (P : Params) : Obj := { cls := .type "code", data := Data.fields #[.str "_law_mixed" 639, .str "_law_mixed" 640, .str "/claim/cut.py" 641, .int 115 0, .int 2 0, .int 0 0, .int 0 0, .int 3 0, .ref 339, .bool true, .int 181 0, .ref 340, .none, .none, .none, .ref 341, .int 642 0, .int 115 0, .str "/claim/cut.py" 643] }
noncomputable def ho_346 (P : Params) : Obj := ⟨.type "function", none, .func (PySem.W.fnOf "_law_mixed" "_law_mixed" (defArgs (top0 45)) (defBody (top0 45)) (defScope (top0 45)) .none .none .none (.str "law_sluice_k28_no_paper" 619) none (.ref 342) .none), #[]⟩
noncomputable def ho_347 (P : Params) : Obj := { cls := .type "tuple", data := Data.seq #[] }
noncomputable def ho_348 (P : Params) : Obj := { cls := .none, data := Data.fields #[] }
noncomputable def ho_349 (P : Params) : Obj := { cls := .none, data := .func { name := "_law_river", qualname := "_law_river", params := defArgs (top0 46), body := .stmts (defBody (top0 46)), scope := defScope (top0 46), globals := 0, closure := [], defaults := .none, kwdefaults := .none } }
noncomputable def ho_350 (P : Params) : Obj := { cls := .type "code", data := Data.fields #[.str "_law_river" 645, .str "_law_river" 646, .str "/claim/cut.py" 647, .int 117 0, .int 1 0, .int 0 0, .int 0 0, .int 3 0, .ref 344, .bool true, .int 181 0, .ref 345, .none, .none, .none, .ref 346, .int 648 0, .int 117 0, .str "/claim/cut.py" 649] }
noncomputable def ho_351 (P : Params) : Obj := ⟨.type "function", none, .func (PySem.W.fnOf "_law_river" "_law_river" (defArgs (top0 46)) (defBody (top0 46)) (defScope (top0 46)) .none .none .none (.str "law_sluice_k28_no_paper" 619) none (.ref 347) .none), #[]⟩
noncomputable def ho_352 (P : Params) : Obj := { cls := .type "tuple", data := Data.seq #[] }
noncomputable def ho_353 (P : Params) : Obj := { cls := .none, data := Data.fields #[] }
noncomputable def ho_354 (P : Params) : Obj := { cls := .type "tuple", data := Data.seq #[.str "below" 654, .str "reach" 655, .str "way" 656] }
noncomputable def ho_355 (P : Params) : Obj := { cls := .type "tuple", data := Data.seq #[] }
noncomputable def ho_356 (P : Params) : Obj := { cls := .none, data := .func { name := "_law_way", qualname := "_law_way", params := defArgs (top0 47), body := .stmts (defBody (top0 47)), scope := defScope (top0 47), globals := 0, closure := [], defaults := .none, kwdefaults := .none } }
noncomputable def ho_357 (P : Params) : Obj := { cls := .type "code", data := Data.fields #[.str "_law_way" 651, .str "_law_way" 652, .str "/claim/cut.py" 653, .int 128 0, .int 2 0, .int 0 0, .int 0 0, .int 3 0, .ref 349, .bool true, .int 181 0, .ref 350, .none, .ref 351, .ref 352, .ref 353, .int 657 0, .int 128 0, .str "/claim/cut.py" 658] }
noncomputable def ho_358 (P : Params) : Obj := ⟨.type "function", none, .func (PySem.W.fnOf "_law_way" "_law_way" (defArgs (top0 47)) (defBody (top0 47)) (defScope (top0 47)) .none .none .none (.str "law_sluice_k28_no_paper" 619) none (.ref 354) .none), #[]⟩
noncomputable def ho_359 (P : Params) : Obj := { cls := .type "tuple", data := Data.seq #[] }
noncomputable def ho_360 (P : Params) : Obj := { cls := .none, data := Data.fields #[] }
noncomputable def ho_361 (P : Params) : Obj := { cls := .type "tuple", data := Data.seq #[.str "below" 663, .str "one" 664, .str "way" 665] }
noncomputable def ho_362 (P : Params) : Obj := { cls := .type "tuple", data := Data.seq #[] }
noncomputable def ho_363 (P : Params) : Obj := { cls := .none, data := .func { name := "_law_stretch", qualname := "_law_stretch", params := defArgs (top0 48), body := .stmts (defBody (top0 48)), scope := defScope (top0 48), globals := 0, closure := [], defaults := .none, kwdefaults := .none } }
noncomputable def ho_364 (P : Params) : Obj := { cls := .type "code", data := Data.fields #[.str "_law_stretch" 660, .str "_law_stretch" 661, .str "/claim/cut.py" 662, .int 134 0, .int 2 0, .int 0 0, .int 0 0, .int 3 0, .ref 356, .bool true, .int 181 0, .ref 357, .none, .ref 358, .ref 359, .ref 360, .int 666 0, .int 134 0, .str "/claim/cut.py" 667] }
noncomputable def ho_365 (P : Params) : Obj := ⟨.type "function", none, .func (PySem.W.fnOf "_law_stretch" "_law_stretch" (defArgs (top0 48)) (defBody (top0 48)) (defScope (top0 48)) .none .none .none (.str "law_sluice_k28_no_paper" 619) none (.ref 361) .none), #[]⟩
noncomputable def ho_366 (P : Params) : Obj := { cls := .type "tuple", data := Data.seq #[] }
noncomputable def ho_367 (P : Params) : Obj := { cls := .none, data := Data.fields #[] }
noncomputable def ho_368 (P : Params) : Obj := { cls := .type "tuple", data := Data.seq #[.str "below" 672, .str "springs" 673, .str "roll" 674, .str "takes" 675, .str "free" 676, .str "reach" 677, .str "rises" 678, .str "low" 679, .str "one" 680, .str "take" 681] }
noncomputable def ho_369 (P : Params) : Obj := { cls := .type "tuple", data := Data.seq #[] }
noncomputable def ho_370 (P : Params) : Obj := { cls := .none, data := .func { name := "_law_free", qualname := "_law_free", params := defArgs (top0 49), body := .stmts (defBody (top0 49)), scope := defScope (top0 49), globals := 0, closure := [], defaults := .none, kwdefaults := .none } }
noncomputable def ho_371 (P : Params) : Obj := { cls := .type "code", data := Data.fields #[.str "_law_free" 669, .str "_law_free" 670, .str "/claim/cut.py" 671, .int 139 0, .int 4 0, .int 0 0, .int 0 0, .int 3 0, .ref 363, .bool true, .int 181 0, .ref 364, .none, .ref 365, .ref 366, .ref 367, .int 682 0, .int 139 0, .str "/claim/cut.py" 683] }
noncomputable def ho_372 (P : Params) : Obj := ⟨.type "function", none, .func (PySem.W.fnOf "_law_free" "_law_free" (defArgs (top0 49)) (defBody (top0 49)) (defScope (top0 49)) .none .none .none (.str "law_sluice_k28_no_paper" 619) none (.ref 368) .none), #[]⟩
noncomputable def ho_373 (P : Params) : Obj := { cls := .type "tuple", data := Data.seq #[] }
noncomputable def ho_374 (P : Params) : Obj := { cls := .none, data := Data.fields #[] }
noncomputable def ho_375 (P : Params) : Obj := { cls := .type "tuple", data := Data.seq #[.str "cell" 688, .str "below" 689, .str "far" 690, .str "base" 691, .str "xs" 692, .str "way" 693, .str "back" 694, .str "take" 695, .str "most" 696, .str "call" 697] }
noncomputable def ho_376 (P : Params) : Obj := { cls := .type "tuple", data := Data.seq #[] }
noncomputable def ho_377 (P : Params) : Obj := { cls := .none, data := .func { name := "_law_drawn", qualname := "_law_drawn", params := defArgs (top0 50), body := .stmts (defBody (top0 50)), scope := defScope (top0 50), globals := 0, closure := [], defaults := .none, kwdefaults := .none } }
noncomputable def ho_378 (P : Params) : Obj := { cls := .type "code", data := Data.fields #[.str "_law_drawn" 685, .str "_law_drawn" 686, .str "/claim/cut.py" 687, .int 148 0, .int 4 0, .int 0 0, .int 0 0, .int 3 0, .ref 370, .bool true, .int 181 0, .ref 371, .none, .ref 372, .ref 373, .ref 374, .int 698 0, .int 148 0, .str "/claim/cut.py" 699] }
noncomputable def ho_379 (P : Params) : Obj := ⟨.type "function", none, .func (PySem.W.fnOf "_law_drawn" "_law_drawn" (defArgs (top0 50)) (defBody (top0 50)) (defScope (top0 50)) .none .none .none (.str "law_sluice_k28_no_paper" 619) none (.ref 375) .none), #[]⟩
noncomputable def ho_380 (P : Params) : Obj := { cls := .type "tuple", data := Data.seq #[] }
noncomputable def ho_381 (P : Params) : Obj := { cls := .none, data := Data.fields #[] }
noncomputable def ho_382 (P : Params) : Obj := { cls := .type "tuple", data := Data.seq #[.str "cell" 704, .str "below" 705, .str "roll" 706, .str "takes" 707, .str "springs" 708, .str "one" 709, .str "take" 710, .str "reach" 711, .str "x" 712] }
noncomputable def ho_383 (P : Params) : Obj := { cls := .type "tuple", data := Data.seq #[] }
noncomputable def ho_384 (P : Params) : Obj := { cls := .none, data := .func { name := "_law_springs", qualname := "_law_springs", params := defArgs (top0 51), body := .stmts (defBody (top0 51)), scope := defScope (top0 51), globals := 0, closure := [], defaults := .none, kwdefaults := .none } }
noncomputable def ho_385 (P : Params) : Obj := { cls := .type "code", data := Data.fields #[.str "_law_springs" 701, .str "_law_springs" 702, .str "/claim/cut.py" 703, .int 158 0, .int 4 0, .int 0 0, .int 0 0, .int 3 0, .ref 377, .bool true, .int 181 0, .ref 378, .none, .ref 379, .ref 380, .ref 381, .int 713 0, .int 158 0, .str "/claim/cut.py" 714] }
noncomputable def ho_386 (P : Params) : Obj := ⟨.type "function", none, .func (PySem.W.fnOf "_law_springs" "_law_springs" (defArgs (top0 51)) (defBody (top0 51)) (defScope (top0 51)) .none .none .none (.str "law_sluice_k28_no_paper" 619) none (.ref 382) .none), #[]⟩
noncomputable def ho_387 (P : Params) : Obj := { cls := .type "tuple", data := Data.seq #[] }
noncomputable def ho_388 (P : Params) : Obj := { cls := .none, data := Data.fields #[] }
noncomputable def ho_389 (P : Params) : Obj := { cls := .type "tuple", data := Data.seq #[.str "stretches" 719, .str "roll" 720, .str "takes" 721, .str "free" 722, .str "number" 723, .str "reach" 724, .str "bad" 725, .str "k" 726] }
noncomputable def ho_390 (P : Params) : Obj := { cls := .type "tuple", data := Data.seq #[] }
noncomputable def ho_391 (P : Params) : Obj := { cls := .none, data := .func { name := "_law_no_reach", qualname := "_law_no_reach", params := defArgs (top0 52), body := .stmts (defBody (top0 52)), scope := defScope (top0 52), globals := 0, closure := [], defaults := .none, kwdefaults := .none } }
noncomputable def ho_392 (P : Params) : Obj := { cls := .type "code", data := Data.fields #[.str "_law_no_reach" 716, .str "_law_no_reach" 717, .str "/claim/cut.py" 718, .int 170 0, .int 5 0, .int 0 0, .int 0 0, .int 3 0, .ref 384, .bool true, .int 181 0, .ref 385, .none, .ref 386, .ref 387, .ref 388, .int 727 0, .int 170 0, .str "/claim/cut.py" 728] }
noncomputable def ho_393 (P : Params) : Obj := ⟨.type "function", none, .func (PySem.W.fnOf "_law_no_reach" "_law_no_reach" (defArgs (top0 52)) (defBody (top0 52)) (defScope (top0 52)) .none .none .none (.str "law_sluice_k28_no_paper" 619) none (.ref 389) .none), #[]⟩
noncomputable def ho_394 (P : Params) : Obj := { cls := .type "tuple", data := Data.seq #[] }
noncomputable def ho_395 (P : Params) : Obj := { cls := .none, data := Data.fields #[] }
noncomputable def ho_396 (P : Params) : Obj := { cls := .type "tuple", data := Data.seq #[.str "e" 733] }
noncomputable def ho_397 (P : Params) : Obj := { cls := .type "tuple", data := Data.seq #[] }
noncomputable def ho_398 (P : Params) : Obj := { cls := .none, data := .func { name := "_law_other_name", qualname := "_law_other_name", params := defArgs (top0 53), body := .stmts (defBody (top0 53)), scope := defScope (top0 53), globals := 0, closure := [], defaults := .none, kwdefaults := .none } }
noncomputable def ho_399 (P : Params) : Obj := { cls := .type "code", data := Data.fields #[.str "_law_other_name" 730, .str "_law_other_name" 731, .str "/claim/cut.py" 732, .int 182 0, .int 1 0, .int 0 0, .int 0 0, .int 3 0, .ref 391, .bool true, .int 181 0, .ref 392, .none, .ref 393, .ref 394, .ref 395, .int 734 0, .int 182 0, .str "/claim/cut.py" 735] }
noncomputable def ho_400 (P : Params) : Obj := ⟨.type "function", none, .func (PySem.W.fnOf "_law_other_name" "_law_other_name" (defArgs (top0 53)) (defBody (top0 53)) (defScope (top0 53)) .none .none .none (.str "law_sluice_k28_no_paper" 619) none (.ref 396) .none), #[]⟩
noncomputable def ho_401 (P : Params) : Obj := { cls := .type "tuple", data := Data.seq #[] }
noncomputable def ho_402 (P : Params) : Obj := { cls := .none, data := Data.fields #[] }
noncomputable def ho_403 (P : Params) : Obj := { cls := .type "tuple", data := Data.seq #[.str "below" 740, .str "springs" 741, .str "roll" 742, .str "calls" 743, .str "takes" 744, .str "number" 745, .str "caught" 746, .str "e" 747] }
noncomputable def ho_404 (P : Params) : Obj := { cls := .type "tuple", data := Data.seq #[] }
noncomputable def ho_405 (P : Params) : Obj := { cls := .none, data := .func { name := "_law_refused", qualname := "_law_refused", params := defArgs (top0 54), body := .stmts (defBody (top0 54)), scope := defScope (top0 54), globals := 0, closure := [], defaults := .none, kwdefaults := .none } }
noncomputable def ho_406 (P : Params) : Obj := { cls := .type "code", data := Data.fields #[.str "_law_refused" 737, .str "_law_refused" 738, .str "/claim/cut.py" 739, .int 190 0, .int 6 0, .int 0 0, .int 0 0, .int 3 0, .ref 398, .bool true, .int 181 0, .ref 399, .none, .ref 400, .ref 401, .ref 402, .int 748 0, .int 190 0, .str "/claim/cut.py" 749] }
noncomputable def ho_407 (P : Params) : Obj := ⟨.type "function", none, .func (PySem.W.fnOf "_law_refused" "_law_refused" (defArgs (top0 54)) (defBody (top0 54)) (defScope (top0 54)) .none .none .none (.str "law_sluice_k28_no_paper" 619) none (.ref 403) .none), #[]⟩
noncomputable def ho_408 (P : Params) : Obj := { cls := .type "tuple", data := Data.seq #[] }
noncomputable def ho_409 (P : Params) : Obj := { cls := .none, data := Data.fields #[] }
noncomputable def ho_410 (P : Params) : Obj := { cls := .none, data := .func { name := "law", qualname := "law", params := defArgs (top0 55), body := .stmts (defBody (top0 55)), scope := defScope (top0 55), globals := 0, closure := [], defaults := .none, kwdefaults := .none } }
noncomputable def ho_411 (P : Params) : Obj := { cls := .type "code", data := Data.fields #[.str "law" 751, .str "law" 752, .str "/claim/cut.py" 753, .int 197 0, .int 1 0, .int 0 0, .int 0 0, .int 3 0, .ref 405, .bool true, .int 181 0, .ref 406, .none, .none, .none, .ref 407, .int 754 0, .int 197 0, .str "/claim/cut.py" 755] }
noncomputable def ho_412 (P : Params) : Obj := ⟨.type "function", none, .func (PySem.W.fnOf "law" "law" (defArgs (top0 55)) (defBody (top0 55)) (defScope (top0 55)) .none .none .none (.str "law_sluice_k28_no_paper" 619) none (.ref 408) .none), #[]⟩
noncomputable def H0 : Params → Heap := fun P => { objs := ⟨ho_1 P :: ho_2 P :: ho_3 P :: ho_4 P :: ho_5 P :: ho_6 P :: ho_7 P :: ho_8 P :: ho_9 P :: ho_10 P :: ho_11 P :: []⟩ }
noncomputable def H1 : Params → Heap := fun P => { objs := ⟨ho_1 P :: ho_2 P :: ho_3 P :: ho_13 P :: ho_5 P :: ho_6 P :: ho_7 P :: ho_8 P :: ho_9 P :: ho_10 P :: ho_11 P :: ho_14 P :: ho_15 P :: ho_16 P :: ho_17 P :: ho_18 P :: ho_19 P :: ho_20 P :: ho_21 P :: ho_22 P :: ho_23 P :: ho_24 P :: ho_25 P :: ho_26 P :: ho_27 P :: ho_28 P :: ho_29 P :: ho_30 P :: ho_31 P :: ho_32 P :: ho_33 P :: ho_34 P :: ho_35 P :: ho_36 P :: ho_37 P :: ho_38 P :: ho_39 P :: ho_40 P :: ho_41 P :: ho_42 P :: ho_43 P :: ho_44 P :: ho_45 P :: ho_46 P :: ho_47 P :: ho_48 P :: ho_49 P :: ho_50 P :: ho_51 P :: ho_52 P :: ho_53 P :: ho_54 P :: ho_55 P :: ho_56 P :: ho_57 P :: ho_58 P :: ho_59 P :: ho_60 P :: ho_61 P :: ho_62 P :: ho_63 P :: ho_64 P :: ho_65 P :: ho_66 P :: ho_67 P :: ho_68 P :: ho_69 P :: ho_70 P :: ho_71 P :: ho_72 P :: ho_73 P :: ho_74 P :: ho_75 P :: ho_76 P :: ho_77 P :: ho_78 P :: ho_79 P :: ho_80 P :: ho_81 P :: ho_82 P :: ho_83 P :: ho_84 P :: ho_85 P :: ho_86 P :: ho_87 P :: ho_88 P :: ho_89 P :: ho_90 P :: ho_91 P :: ho_92 P :: ho_93 P :: ho_94 P :: ho_95 P :: ho_96 P :: ho_97 P :: ho_98 P :: ho_99 P :: ho_100 P :: ho_101 P :: ho_102 P :: ho_103 P :: ho_104 P :: ho_105 P :: ho_106 P :: ho_107 P :: ho_108 P :: ho_109 P :: ho_110 P :: ho_111 P :: ho_112 P :: ho_113 P :: ho_114 P :: ho_115 P :: ho_116 P :: ho_117 P :: ho_118 P :: ho_119 P :: ho_120 P :: ho_121 P :: ho_122 P :: ho_123 P :: ho_124 P :: ho_125 P :: ho_126 P :: ho_127 P :: ho_128 P :: ho_129 P :: ho_130 P :: ho_131 P :: ho_132 P :: ho_133 P :: ho_134 P :: ho_135 P :: ho_136 P :: ho_137 P :: ho_138 P :: ho_139 P :: ho_140 P :: ho_141 P :: ho_142 P :: ho_143 P :: ho_144 P :: ho_145 P :: ho_146 P :: ho_147 P :: ho_148 P :: ho_149 P :: ho_150 P :: ho_151 P :: ho_152 P :: ho_153 P :: ho_154 P :: ho_155 P :: ho_156 P :: ho_157 P :: ho_158 P :: ho_159 P :: ho_160 P :: ho_161 P :: ho_162 P :: ho_163 P :: ho_164 P :: ho_165 P :: ho_166 P :: ho_167 P :: ho_168 P :: ho_169 P :: ho_170 P :: ho_171 P :: ho_172 P :: ho_173 P :: ho_174 P :: ho_175 P :: ho_176 P :: ho_177 P :: ho_178 P :: ho_179 P :: ho_180 P :: ho_181 P :: ho_182 P :: ho_183 P :: ho_184 P :: ho_185 P :: ho_186 P :: ho_187 P :: ho_188 P :: ho_189 P :: ho_190 P :: ho_191 P :: ho_192 P :: ho_193 P :: ho_194 P :: ho_195 P :: ho_196 P :: ho_197 P :: ho_198 P :: ho_199 P :: ho_200 P :: ho_201 P :: ho_202 P :: ho_203 P :: ho_204 P :: ho_205 P :: ho_206 P :: ho_207 P :: ho_208 P :: ho_209 P :: ho_210 P :: ho_211 P :: ho_212 P :: ho_213 P :: ho_214 P :: ho_215 P :: ho_216 P :: ho_217 P :: ho_218 P :: ho_219 P :: ho_220 P :: ho_221 P :: ho_222 P :: ho_223 P :: ho_224 P :: ho_225 P :: ho_226 P :: ho_227 P :: ho_228 P :: ho_229 P :: ho_230 P :: ho_231 P :: ho_232 P :: ho_233 P :: ho_234 P :: ho_235 P :: ho_236 P :: ho_237 P :: ho_238 P :: ho_239 P :: ho_240 P :: ho_241 P :: ho_242 P :: ho_243 P :: ho_244 P :: ho_245 P :: ho_246 P :: ho_247 P :: ho_248 P :: ho_249 P :: ho_250 P :: ho_251 P :: ho_252 P :: ho_253 P :: ho_254 P :: ho_255 P :: ho_256 P :: ho_257 P :: ho_258 P :: ho_259 P :: ho_260 P :: ho_261 P :: ho_262 P :: ho_263 P :: ho_264 P :: ho_265 P :: ho_266 P :: ho_267 P :: ho_268 P :: ho_269 P :: ho_270 P :: ho_271 P :: ho_272 P :: ho_273 P :: ho_274 P :: ho_275 P :: ho_276 P :: ho_277 P :: ho_278 P :: ho_279 P :: ho_280 P :: ho_281 P :: ho_282 P :: ho_283 P :: ho_284 P :: ho_285 P :: ho_286 P :: ho_287 P :: ho_288 P :: ho_289 P :: ho_290 P :: ho_291 P :: ho_292 P :: ho_293 P :: ho_294 P :: ho_295 P :: ho_296 P :: ho_297 P :: ho_298 P :: ho_299 P :: ho_300 P :: ho_301 P :: ho_302 P :: ho_303 P :: ho_304 P :: ho_305 P :: ho_306 P :: ho_307 P :: ho_308 P :: ho_309 P :: ho_310 P :: ho_311 P :: ho_312 P :: ho_313 P :: ho_314 P :: ho_315 P :: ho_316 P :: ho_317 P :: ho_318 P :: ho_319 P :: ho_320 P :: ho_321 P :: ho_322 P :: ho_323 P :: ho_324 P :: ho_325 P :: ho_326 P :: ho_327 P :: ho_328 P :: ho_329 P :: ho_330 P :: ho_331 P :: ho_332 P :: ho_333 P :: ho_334 P :: ho_335 P :: ho_336 P :: ho_337 P :: ho_338 P :: ho_339 P :: ho_340 P :: ho_341 P :: ho_342 P :: ho_343 P :: ho_344 P :: ho_345 P :: ho_346 P :: ho_347 P :: ho_348 P :: ho_349 P :: ho_350 P :: ho_351 P :: ho_352 P :: ho_353 P :: ho_354 P :: ho_355 P :: ho_356 P :: ho_357 P :: ho_358 P :: ho_359 P :: ho_360 P :: ho_361 P :: ho_362 P :: ho_363 P :: ho_364 P :: ho_365 P :: ho_366 P :: ho_367 P :: ho_368 P :: ho_369 P :: ho_370 P :: ho_371 P :: ho_372 P :: ho_373 P :: ho_374 P :: ho_375 P :: ho_376 P :: ho_377 P :: ho_378 P :: ho_379 P :: ho_380 P :: ho_381 P :: ho_382 P :: ho_383 P :: ho_384 P :: ho_385 P :: ho_386 P :: ho_387 P :: ho_388 P :: ho_389 P :: ho_390 P :: ho_391 P :: ho_392 P :: ho_393 P :: ho_394 P :: ho_395 P :: ho_396 P :: ho_397 P :: ho_398 P :: ho_399 P :: ho_400 P :: ho_401 P :: ho_402 P :: ho_403 P :: ho_404 P :: ho_405 P :: ho_406 P :: ho_407 P :: ho_408 P :: ho_409 P :: ho_410 P :: ho_411 P :: ho_412 P :: []⟩ }
theorem hp1 : ∀ w : World, (PySem.W.fencedOpening PySem.treeTable PySem.Challenge.rw_sluice_k28_no_paper.row.toRowW.prog w 9320).map (fun s => (s.heap, s.gens, s.drawn, s.toks)) = some (H0 w.params, #[], {}, 181) := by
  intro w; kernel_rfl
theorem hp2 : ∀ w : World, ((H0 w.params).isNs mainGlobals && (#[] : Array GenState).size == 0, (H0 w.params).objs.size, (H0 w.params).nsMap mainGlobals "__annotations__") = (true, 11, some (Value.ref 6)) := by
  intro w; kernel_rfl
theorem hp3 : ∀ (w : World) (os : OsState), PySem.W.topRun PySem.treeTable PySem.Challenge.rw_sluice_k28_no_paper.row.toRowW.prog w 11 (some (Value.ref 6)) 9320 ⟨H0 w.params, #[], {}, 181, os⟩ (PySem.W.topStub PySem.Challenge.rw_sluice_k28_no_paper.row.toRowW.prog) = some ⟨H1 w.params, #[], {}, 757, os⟩ := by
  intro w os; kernel_rfl
theorem hp4 : ∀ w : World, (fun os => ((PySem.W.staticsOk (importedModules PySem.Challenge.rw_sluice_k28_no_paper.row.toRowW.prog.main.body) (H0 w.params) (H1 w.params) && PySem.W.namesBound PySem.Challenge.rw_sluice_k28_no_paper.row.toRowW.prog (H1 w.params) && PySem.W.gensDone ⟨H1 w.params, #[], {}, 757, os⟩ && PySem.W.laidKept (H0 w.params) (H1 w.params)), PySem.W.openSeen qv looseK (importedModules PySem.Challenge.rw_sluice_k28_no_paper.row.toRowW.prog.main.body) (fun s => PySem.W.xlAt My.qv [] s && PySem.W.recOk (PySem.W.RowW.records PySem.Challenge.rw_sluice_k28_no_paper.row.toRowW) s) true ⟨H1 w.params, #[], {}, 757, os⟩, (PySem.W.Hook.obs (PySem.W.kmHook My.Kf My.asK My.hkE My.tsK)) ⟨H1 w.params, #[], {}, 757, os⟩)) = fun _ => (true, PySem.W.openGood qv looseK, (PySem.W.Hook.val (PySem.W.kmHook My.Kf My.asK My.hkE My.tsK)) w) := by
  intro w; kernel_rfl
theorem hlE : PySem.W.LeftO PySem.Challenge.rw_sluice_k28_no_paper.row.toRowW.prog qv My.looseK (fun s => PySem.W.xlAt My.qv [] s && PySem.W.recOk (PySem.W.RowW.records PySem.Challenge.rw_sluice_k28_no_paper.row.toRowW) s) (PySem.W.Hook.obs (PySem.W.kmHook My.Kf My.asK My.hkE My.tsK)) (PySem.W.Hook.val (PySem.W.kmHook My.Kf My.asK My.hkE My.tsK)) 9320 := PySem.W.LeftO.of_pieces hp1 hp2 hp3 (by decide) hp4
end My
namespace L2
open PySem PySem.Spec PyProof.Rows
abbrev Key := Sum Int Str
def keyIs : Key → Value → Bool
  | .inl k, v => Value.isInt k v
  | .inr x, v => Value.isStrOf x v
def keyH (w : World) : Key → Int
  | .inl k => hashInt k
  | .inr x => hashStr w x
theorem keyIs_shape : ∀ {k : Key} {v : Value}, keyIs k v = true → (∃ i t, k = Sum.inl i ∧ v = Value.int i t) ∨ (∃ x t, k = Sum.inr x ∧ v = Value.str x t)
  | .inl i, v, h => by
    obtain ⟨t, e⟩ := Value.isInt_shape (k := i) (v := v) h
    exact .inl ⟨i, t, rfl, e⟩
  | .inr x, v, h => by
    obtain ⟨t, e⟩ := Value.isStrOf_shape (x := x) (v := v) h
    exact .inr ⟨x, t, rfl, e⟩
theorem key_ll (a b : Int) : decide ((Sum.inl a : Key) = Sum.inl b) = (a == b) := by
  by_cases e : a = b
  · subst e; simp
  · have h : ¬ (Sum.inl a : Key) = Sum.inl b := fun q => e (Sum.inl.inj q)
    rw [decide_eq_false h]
    exact (beq_eq_false_iff_ne.mpr e).symm
theorem key_rr (a b : Str) : decide ((Sum.inr a : Key) = Sum.inr b) = decide (a = b) := by
  by_cases e : a = b
  · subst e; simp
  · have h : ¬ (Sum.inr a : Key) = Sum.inr b := fun q => e (Sum.inr.inj q)
    rw [decide_eq_false h, decide_eq_false e]
theorem key_lr (a : Int) (b : Str) : decide ((Sum.inl a : Key) = Sum.inr b) = false := decide_eq_false (fun q => nomatch q)
theorem key_rl (a : Str) (b : Int) : decide ((Sum.inr a : Key) = Sum.inl b) = false := decide_eq_false (fun q => nomatch q)
def mixKind (prog : Program) (w : World) : PySem.KeyKind prog w Key where
  is := keyIs
  hash := keyH w
  inj := fun v a b ha hb => by
    rcases keyIs_shape ha with ⟨i, t, rfl, rfl⟩ | ⟨x, t, rfl, rfl⟩
    · rcases keyIs_shape hb with ⟨j, u, rfl, e⟩ | ⟨y, u, rfl, e⟩
      · injection e with e1 _; rw [e1]
      · exact nomatch e
    · rcases keyIs_shape hb with ⟨j, u, rfl, e⟩ | ⟨y, u, rfl, e⟩
      · exact nomatch e
      · injection e with e1 _; rw [e1]
  byValue := fun k v h => by
    rcases keyIs_shape h with ⟨i, t, rfl, rfl⟩ | ⟨x, t, rfl, rfl⟩ <;> rfl
  pyHash := fun hv h => by
    rcases keyIs_shape hv with ⟨i, t, rfl, rfl⟩ | ⟨x, t, rfl, rfl⟩
    · exact wpAny_pyHash_int h
    · exact wpAny_pyHash_str h
  eqBool := fun hu hv h => by
    rcases keyIs_shape hu with ⟨i, t, rfl, rfl⟩ | ⟨x, t, rfl, rfl⟩
    · rcases keyIs_shape hv with ⟨j, u, rfl, rfl⟩ | ⟨y, u, rfl, rfl⟩
      · rw [key_ll] at h; exact wpAny_eqBool_int h
      · rw [key_lr] at h; exact SeqAt.EqAt.int_str i t y u _ _ _ _ h
    · rcases keyIs_shape hv with ⟨j, u, rfl, rfl⟩ | ⟨y, u, rfl, rfl⟩
      · rw [key_rl] at h; exact SeqAt.EqAt.str_int x t j u _ _ _ _ h
      · rw [key_rr] at h; exact wpAny_eqBool_str h
  «strs» := fun k x t v h => by
    rcases keyIs_shape h with ⟨i, u, rfl, e⟩ | ⟨y, u, rfl, e⟩
    · exact nomatch e
    · injection e with e1 _
      subst e1
      cases v <;> rfl
end L2
namespace L2
open PySem PySem.Spec PyProof.Rows
inductive V where
  | non | bl (b : Bool) | int (i : Int) | str (x : Str) | byt (b : Array UInt8) | flt (b : UInt64) | ref (a : Addr) | ty (n : String)
  deriving DecidableEq
def RelV : V → Value → Prop
  | .non, u => u = Value.none
  | .bl b, u => u = Value.bool b
  | .int i, u => ∃ t, u = Value.int i t
  | .str x, u => ∃ t, u = Value.str x t
  | .byt b, u => ∃ t, u = Value.bytes b t
  | .flt b, u => ∃ t, u = Value.float b t
  | .ref a, u => u = Value.ref a
  | .ty n, u => u = Value.type n
abbrev Vals : List V → List Value → Prop := Paired RelV
theorem Vals.length {xs : List V} {us : List Value} (r : Vals xs us) : xs.length = us.length := Paired.length r
theorem Vals.get : ∀ {xs : List V} {us : List Value} {i : Nat} {x : V}, Vals xs us → xs[i]? = some x → ∃ u, us[i]? = some u ∧ RelV x u
  | _, _, _, _, .nil, e => by simp at e
  | _, _, 0, _, .cons r _, e => by simp at e; subst e; exact ⟨_, rfl, r⟩
  | _, _, i + 1, x, .cons _ t, e => by
    obtain ⟨u, h1, h2⟩ := Vals.get (i := i) (x := x) t (by simpa using e)
    exact ⟨u, by simpa using h1, h2⟩
theorem Vals.set {x : V} {u : Value} (r : RelV x u) : ∀ {xs : List V} {us : List Value} (i : Nat), Vals xs us → Vals (xs.set i x) (us.set i u)
  | _, _, _, .nil => .nil
  | _, _, 0, .cons _ t => .cons r t
  | _, _, i + 1, .cons q t => .cons q (Vals.set r i t)
theorem Vals.append : ∀ {xs ys : List V} {us ws : List Value}, Vals xs us → Vals ys ws → Vals (xs ++ ys) (us ++ ws)
  | _, _, _, _, .nil, s => s
  | _, _, _, _, .cons r t, s => .cons r (Vals.append t s)
theorem Vals.take : ∀ {xs : List V} {us : List Value} (n : Nat), Vals xs us → Vals (xs.take n) (us.take n)
  | _, _, 0, _ => .nil
  | _, _, _ + 1, .nil => .nil
  | _, _, n + 1, .cons r t => .cons r (Vals.take n t)
theorem Vals.drop : ∀ {xs : List V} {us : List Value} (n : Nat), Vals xs us → Vals (xs.drop n) (us.drop n)
  | _, _, 0, r => r
  | _, _, _ + 1, .nil => .nil
  | _, _, n + 1, .cons _ t => Vals.drop n t
def RelO : Option V → Option Value → Prop
  | some v, some u => RelV v u
  | none, none => True
  | _, _ => False
def KV {κ : Type} : List (κ × V) → List (κ × Value) → Prop := Paired fun (p : κ × V) (q : κ × Value) => p.1 = q.1 ∧ RelV p.2 q.2
def kV : Key → V
  | .inl i => .int i
  | .inr x => .str x
inductive HO where
  /-- a list -/
  | lst (xs : List V)
  /-- a tuple (never changes) -/
  | tup (xs : List V)
  /-- a dict whose keys are ints and texts; one whose keys are tuples of ints and texts (the empty one is both) -/
  | dK (kvs : List (Key × V)) | dT (kvs : List (List Key × V))
  /-- a set of ints: its members, its size -/
  | set (S : Int → Bool) (n : Nat)
  /-- an instance of the class at C, its dict at dx, its attributes -/
  | ins (C dx : Addr) (fs : List (Str × V))
  /-- the dict of the instance at x -/
  | own (x : Addr)
  /-- the dict of an exception -/
  | xd (fs : List (Str × V))
  /-- a bound method, f of x -/
  | met (f x : Addr)
  /-- a range object lo, lo + 1, .. below hi -/
  | rng (lo hi : Int)
  /-- a thing that is known to the object (the script; a dict while a loop walks it): read, never written while it is so -/
  | frz (o : Obj) (u : HO)
  /-- a code object's table -/
  | tbl (ps : Array Value)
  /-- any other thing, by what is true of its one object (a def of one's own: SetO a S n := HO.ext fun h => ..) -/
  | ext (φ : Heap → Prop)
abbrev Hp := Addr → Option HO
def upd (H : Hp) (a : Addr) (o : HO) : Hp := fun b => if b = a then some o else H b
theorem upd_same {H : Hp} {a : Addr} {o : HO} : upd H a o a = some o := by unfold upd; rw [if_pos rfl]
theorem upd_ne {H : Hp} {a b : Addr} {o : HO} (h : b ≠ a) : upd H a o b = H b := by unfold upd; rw [if_neg h]
theorem ne_of_none {H : Hp} {a b : Addr} {o : HO} (h : H a = some o) (h' : H b = none) : a ≠ b := by
  intro e; subst e; rw [h] at h'; cases h'
section
variable (P : Program) (w : World)
def ObjOk (H : Hp) (h : Heap) (a : Addr) : HO → Prop
  | .lst xs => xs.length ≤ sizeLine ∧ ∃ (its : List Value) (n : Nat), Vals xs its ∧ h.get? a = some { cls := .type "list", data := .seq its.toArray n }
  | .tup xs => xs.length ≤ sizeLine ∧ ∃ its : List Value, Vals xs its ∧ IsTup h a its.toArray
  | .dK kvs => kvs.length ≤ sizeLine ∧ (a == sysModules) = false ∧ ∃ vs, KV kvs vs ∧ h.DictOf (mixKind P w) a vs
  | .dT kvs => kvs.length ≤ sizeLine ∧ (a == sysModules) = false ∧ ∃ xs : List (List Key × Addr × Value),
      Paired (fun (p : List Key × V) (q : List Key × Addr × Value) => p.1 = q.1 ∧ H q.2.1 = some (.tup (p.1.map kV)) ∧ RelV p.2 q.2.2) kvs xs ∧
      ∃ o es ep, h.get? a = some o ∧ o.ExactDict ∧ o.data = .dict es ep ∧ es.toList = xs.map (entryOfKey (tupleKind (mixKind P w))) ∧ (xs.map (·.1)).Nodup
  | .set S n => h.SetOf (intKind P w) a S n
  | .ins C dx fs => H dx = some (.own a) ∧ fs.length ≤ 1000 ∧ dx ≠ a ∧ h.get? a = some (PySem.W.instObj C dx) ∧
      ∃ mA, h.Ns1 dx mA ∧ (∀ f, RelO (fs.lookup f) (mA f)) ∧ PySem.Within mA (fs.map (·.1))
  | .own _ => ∃ o, h.get? a = some o
  | .xd fs => ∃ mA, h.Ns1 a mA ∧ ∀ f, RelO (fs.lookup f) (mA f)
  | .rng lo hi => ∃ t u v, h.get? a = some { cls := .type "range", data := .fields #[.int lo t, .int hi u, .int 1 v] }
  | .frz o u => h.get? a = some o ∧ ObjOk H h a u
  | .tbl ps => h.get? a = some { cls := .none, data := .fields ps }
  | .met f x => h.get? a = some (PySem.W.methodObj (.ref f) (.ref x))
  | .ext φ => φ h ∧ (∃ o, h.get? a = some o) ∧ ∀ h1 h2 : Heap, φ h1 → (∀ o, h1.get? a = some o → h2.get? a = some o) → φ h2
def HOk (H : Hp) (h : Heap) : Prop := ∀ a o, H a = some o → ObjOk P w H h a o
end
section
variable {P : Program} {w : World} {H H' : Hp} {h h' : Heap} {a : Addr} {o : HO}
theorem ObjOk.lt (x : ObjOk P w H h a o) : a < h.objs.size := by
  cases o with
  | lst xs => obtain ⟨_, _, _, _, e⟩ := x; exact Heap.lt_size e
  | tup xs => obtain ⟨_, _, _, p⟩ := x; exact p.lt
  | dK kvs => obtain ⟨_, _, _, _, o, _, _, e, _⟩ := x; exact Heap.lt_size e
  | dT kvs => obtain ⟨_, _, _, _, o, _, _, e, _⟩ := x; exact Heap.lt_size e
  | set S n => obtain ⟨o, _, _, _, e, _⟩ := x; exact Heap.lt_size e
  | ins C dx fs => obtain ⟨_, _, _, e, _⟩ := x; exact Heap.lt_size e
  | own y => obtain ⟨_, e⟩ := x; exact Heap.lt_size e
  | xd fs => obtain ⟨_, ⟨_, _, _, e, _⟩, _⟩ := x; exact Heap.lt_size e
  | rng lo hi => obtain ⟨_, _, _, e⟩ := x; exact Heap.lt_size e
  | frz ob u => obtain ⟨e, _⟩ := x; exact Heap.lt_size e
  | tbl ps => exact Heap.lt_size (show h.get? a = some _ from x)
  | met f y => exact Heap.lt_size (show h.get? a = some _ from x)
  | ext φ => obtain ⟨_, ⟨_, e⟩, _⟩ := x; exact Heap.lt_size e
theorem Paired.mapP {α β : Type} {F G : α → β → Prop} : ∀ {l₁ : List α} {l₂ : List β}, Paired F l₁ l₂ → (∀ a b, F a b → G a b) → Paired G l₁ l₂
  | _, _, .nil, _ => .nil
  | _, _, .cons r t, f => .cons (f _ _ r) (Paired.mapP t f)
theorem ObjOk.stay (x : ObjOk P w H h a o) (k : ∀ b u, (b = a ∨ H b = some (.own a)) → h.get? b = some u → h'.get? b = some u)
    (ho : ∀ b, H b = some (.own a) → H' b = some (.own a)) (ht : ∀ b xs, H b = some (.tup xs) → H' b = some (.tup xs)) : ObjOk P w H' h' a o := by
  induction o with
  | lst xs => obtain ⟨z, its, n, r, e⟩ := x; exact ⟨z, its, n, r, k _ _ (.inl rfl) e⟩
  | tup xs => obtain ⟨z, its, r, ob, e, c⟩ := x; exact ⟨z, its, r, ob, k _ _ (.inl rfl) e, c⟩
  | dK kvs => obtain ⟨z, y, vs, r, ob, es, ep, e, c⟩ := x; exact ⟨z, y, vs, r, ob, es, ep, k _ _ (.inl rfl) e, c⟩
  | dT kvs =>
    obtain ⟨z, y, xs, r, ob, es, ep, e, c⟩ := x
    exact ⟨z, y, xs, Paired.mapP r fun p q z => ⟨z.1, ht _ _ z.2.1, z.2.2⟩, ob, es, ep, k _ _ (.inl rfl) e, c⟩
  | set S n => obtain ⟨ob, es, ep, t, e, c⟩ := x; exact ⟨ob, es, ep, t, k _ _ (.inl rfl) e, c⟩
  | ins C dx fs =>
    obtain ⟨d, z, ne, e, mA, ⟨od, es, ep, e2, c⟩, r⟩ := x
    exact ⟨ho _ d, z, ne, k _ _ (.inl rfl) e, mA, ⟨od, es, ep, k _ _ (.inr d) e2, c⟩, r⟩
  | own y => obtain ⟨ob, e⟩ := x; exact ⟨ob, k _ _ (.inl rfl) e⟩
  | xd fs => obtain ⟨mA, ⟨od, es, ep, e, c⟩, r⟩ := x; exact ⟨mA, ⟨od, es, ep, k _ _ (.inl rfl) e, c⟩, r⟩
  | rng lo hi => obtain ⟨t, u, v, e⟩ := x; exact ⟨t, u, v, k _ _ (.inl rfl) e⟩
  | frz ob u ih => obtain ⟨e, q⟩ := x; exact ⟨k _ _ (.inl rfl) e, ih q⟩
  | tbl ps =>
    have e : h.get? a = some { cls := .none, data := .fields ps } := x
    show h'.get? a = some { cls := .none, data := .fields ps }
    exact k a _ (.inl rfl) e
  | met f y =>
    have e : h.get? a = some (PySem.W.methodObj (.ref f) (.ref y)) := x
    show h'.get? a = some (PySem.W.methodObj (.ref f) (.ref y))
    exact k a _ (.inl rfl) e
  | ext φ => obtain ⟨p, ⟨o, e⟩, st⟩ := x; exact ⟨st _ _ p fun o q => k _ _ (.inl rfl) q, ⟨o, k _ _ (.inl rfl) e⟩, st⟩
theorem HOk.lt (x : HOk P w H h) (e : H a = some o) : a < h.objs.size := (x a o e).lt
theorem HOk.fresh (x : HOk P w H h) (e : h.objs.size ≤ a) : H a = none := by
  cases q : H a with
  | none => rfl
  | some u => exact absurd (Nat.lt_of_lt_of_le (x.lt q) e) (Nat.lt_irrefl _)
theorem HOk.kept (x : HOk P w H h) (k : ∀ b u, h.get? b = some u → h'.get? b = some u) : HOk P w H h' := fun a o e =>
  (x a o e).stay (fun b u _ q => k b u q) (fun _ q => q) fun _ _ q => q
theorem HOk.laid (x : HOk P w H h) (k : ∀ b u, h.get? b = some u → h'.get? b = some u) (hp : h.objs.size ≤ a) (new : ObjOk P w (upd H a o) h' a o) : HOk P w (upd H a o) h' := fun b u e => by
  have hn := x.fresh hp
  by_cases hb : b = a
  · subst hb; rw [upd_same] at e; cases e; exact new
  · rw [upd_ne hb] at e
    exact (x b u e).stay (fun c v _ q => k c v q) (fun c q => by rw [upd_ne (ne_of_none q hn)]; exact q) fun c xs q => by rw [upd_ne (ne_of_none q hn)]; exact q
end
def Rd (H : Hp) (a : Addr) (u : HO) : Prop := H a = some u ∨ ∃ o, H a = some (.frz o u)
theorem Rd.ok {P : Program} {w : World} {H : Hp} {h : Heap} {a : Addr} {u : HO} (r : Rd H a u) (x : HOk P w H h) : ObjOk P w H h a u := by
  rcases r with r | ⟨o, r⟩
  · exact x a u r
  · obtain ⟨_, q⟩ := x a _ r
    exact q
def Mut : Option HO → Prop
  | some (.lst _) => True
  | some (.dK _) => True
  | some (.dT _) => True
  | some (.set _ _) => True
  | some (.ins _ _ _) => True
  | some (.ext _) => True
  | _ => False
section
variable {P : Program} {w : World} {H : Hp} {h h' : Heap} {x e : Addr} {o' : HO}
theorem HOk.write (ok : HOk P w H h) (mu : Mut (H x)) (he : e = x ∨ H e = some (.own x)) (k : ∀ b u, b ≠ e → h.get? b = some u → h'.get? b = some u) (heo : ∃ u, h'.get? e = some u)
    (new : ObjOk P w (upd H x o') h' x o') : HOk P w (upd H x o') h' := fun b u q => by
  have nown : ∀ c y, H c = some (.own y) → c ≠ x := fun c y r z => by subst z; rw [r] at mu; exact mu
  have ntup : ∀ c xs, H c = some (.tup xs) → c ≠ x := fun c xs r z => by subst z; rw [r] at mu; exact mu
  by_cases hb : b = x
  · subst hb; rw [upd_same] at q; cases q; exact new
  · rw [upd_ne hb] at q
    by_cases hbe : b = e
    · have q' : H b = some (.own x) := by
        rcases he with z | z
        · exact absurd (hbe.trans z) hb
        · rw [hbe]; exact z
      rw [q] at q'; cases q'
      obtain ⟨v, hv⟩ := heo
      exact ⟨v, by rw [hbe]; exact hv⟩
    · refine (ok b u q).stay (fun c v hc r => k c v ?_ r) (fun c r => by rw [upd_ne (nown c b r)]; exact r) fun c xs r => by rw [upd_ne (ntup c xs r)]; exact r
      rcases hc with rfl | hc
      · exact hbe
      · rintro rfl
        rcases he with z | z
        · exact nown c b hc z
        · rw [hc] at z; cases z; exact hb rfl
end
structure Un (fs ex : List Addr) (H H' : Hp) (h h' : Heap) : Prop where
  keep : ∀ b o, h.get? b = some o → H b = none → b ∉ fs → b ∉ ex → h'.get? b = some o
  slot : ∀ b o, h.get? b = some o → H b = none → b ∈ fs → b ∉ ex → ∃ sl, h'.get? b = some { o with slots := sl }
  free : ∀ b o, h.get? b = some o → H b = none → b ∉ ex → H' b = none
  there : ∀ b o, h.get? b = some o → b ∉ ex → ∃ o', h'.get? b = some o'
  tups : ∀ b xs, H b = some (.tup xs) → H' b = some (.tup xs)
  frzs : ∀ b o u, H b = some (.frz o u) → H' b = some (.frz o u)
  tbls : ∀ b ps, H b = some (.tbl ps) → ∃ more, H' b = some (.tbl (ps ++ more))
section
variable {fs fs' ex ex' : List Addr} {H H1 H2 : Hp} {h h1 h2 h' : Heap} {a x e : Addr} {o : HO}
theorem Un.any (u : Un fs ex H H1 h h1) {b : Addr} {ob : Obj} (q : h.get? b = some ob) (n : H b = none) (hx : b ∉ ex) : ∃ sl, h1.get? b = some { ob with slots := sl } := by
  by_cases hb : b ∈ fs
  · exact u.slot b ob q n hb hx
  · exact ⟨ob.slots, u.keep b ob q n hb hx⟩
theorem Un.kept (k : ∀ b u, h.get? b = some u → h'.get? b = some u) : Un fs ex H H h h' :=
  ⟨fun b ob q _ _ _ => k b ob q, fun b ob q _ _ _ => ⟨ob.slots, k b ob q⟩, fun _ _ _ n _ => n, fun b ob q _ => ⟨ob, k b ob q⟩, fun _ _ q => q, fun _ _ _ q => q, fun _ ps q => ⟨#[], by rw [q]; simp⟩⟩
theorem Un.refl : Un fs ex H H h h := Un.kept fun _ _ q => q
theorem Un.laid (k : ∀ b u, h.get? b = some u → h'.get? b = some u) (hp : h.objs.size ≤ a) (hn : H a = none) : Un fs ex H (upd H a o) h h' where
  keep := fun b u q _ _ _ => k b u q
  slot := fun b u q _ _ _ => ⟨u.slots, k b u q⟩
  free := fun b u q n _ => by rw [upd_ne (Nat.ne_of_lt (Nat.lt_of_lt_of_le (Heap.lt_size q) hp))]; exact n
  there := fun b u q _ => ⟨u, k b u q⟩
  tups := fun b xs q => by rw [upd_ne (ne_of_none q hn)]; exact q
  frzs := fun b u xs q => by rw [upd_ne (ne_of_none q hn)]; exact q
  tbls := fun b ps q => ⟨#[], by rw [upd_ne (ne_of_none q hn), q]; simp⟩
theorem Un.write (mu : Mut (H x)) (he : e = x ∨ H e = some (.own x)) (k : ∀ b u, b ≠ e → h.get? b = some u → h'.get? b = some u) (heo : ∃ u, h'.get? e = some u) : Un fs ex H (upd H x o) h h' := by
  have hx : ∀ b, H b = none → b ≠ x := fun b n z => by subst z; rw [n] at mu; exact mu
  have hb : ∀ b, H b = none → b ≠ e := fun b n z => by
    subst z
    rcases he with r | r
    · exact hx b n r
    · rw [n] at r; cases r
  have hm : ∀ b u, H b = some u → ¬ Mut (some u) → b ≠ x := fun b u q nm z => by subst z; rw [q] at mu; exact nm mu
  refine ⟨fun b u q n _ _ => k b u (hb b n) q, fun b u q n _ _ => ⟨u.slots, k b u (hb b n) q⟩, fun b u q n _ => by rw [upd_ne (hx b n)]; exact n, fun b u q _ => ?_,
    fun b xs q => by rw [upd_ne (hm b _ q fun z => z)]; exact q, fun b u xs q => by rw [upd_ne (hm b _ q fun z => z)]; exact q, fun b ps q => ⟨#[], by rw [upd_ne (hm b _ q fun z => z), q]; simp⟩⟩
  by_cases hbe : b = e
  · subst hbe; exact heo
  · exact ⟨u, k b u hbe q⟩
end
def trk (h : Heap) (H : Hp) : List Addr := (List.range h.objs.size).filter fun a => (H a).isSome
def hidT (h : Heap) (H : Hp) : Heap := PySem.W.hideAll h (trk h H)
theorem hidT_size (h : Heap) (H : Hp) : (hidT h H).objs.size = h.objs.size := PySem.W.hideAll_size _ _
theorem hidT_get {h : Heap} {H : Hp} {b : Addr} {o : Obj} (e : h.get? b = some o) (n : H b = none) : (hidT h H).get? b = some o :=
  PySem.W.hideAll_get _ e fun hm => by
    have q : (H b).isSome = true := (List.mem_filter.mp hm).2
    rw [n] at q; simp at q
theorem of_hidT {h : Heap} {H : Hp} {b : Addr} {o : Obj} (e : (hidT h H).get? b = some o) : h.get? b = some o ∧ H b = none := by
  have e' : h.get? b = some o := PySem.W.of_hideAll (trk h H) e
  refine ⟨e', ?_⟩
  cases q : H b with
  | none => rfl
  | some x =>
    have hm : b ∈ trk h H := List.mem_filter.mpr ⟨List.mem_range.mpr (Heap.lt_size e'), by simp [q]⟩
    have z : (hidT h H).get? b = none := PySem.W.hideAll_none (trk h H) hm
    rw [z] at e; cases e
end L2
namespace L2
open PySem PySem.Spec PyProof.Rows
structure Mod (K : PySem.W.Frag) (mg : Str → Option Value) (base : Heap) : Prop where
  kin : K.In base
  glob : base.Ns mainGlobals mg
  blt : ∃ mb, base.Ns builtinsNs mb ∧ ∀ x : Str, x ≠ "__name__" → mb x = bootBuiltins x
  nolimit : base.NoLimit
structure Cx where
  prog : Program
  w : World
  K : PySem.W.Frag
  mg : Str → Option Value
  base : Heap
  A : Around
  N : List Str
  s₀ : Shared
  H₀ : Hp
  env : Env
  outer : List Env
  stack : List Env
  ex : List Addr
  fn : Str → Bool
  calm : Bool
  pn : List (Addr × Obj)
  xe : Value → Shared → Prop
def frs (l : List Env) : List Addr := l.filterMap (·.frame)
abbrev Cx.fs (X : Cx) : List Addr := frs X.outer
def Vis (sc : Scope) (x : Str) : Prop := sc.names.lookup x = some .local ∨ sc.names.lookup x = some .cell ∨ sc.names.lookup x = some .free
def Loc (sc : Scope) (x : Str) : Prop := sc.names.lookup x = some .local ∨ sc.names.lookup x = some .cell
def Look (env : Env) (h : Heap) (m : Str → Option Value) (x : Str) (u : Value) : Prop :=
  (env.kindOf x = some .local ∧ m x = some u) ∨ ((env.kindOf x = some .cell ∨ env.kindOf x = some .free) ∧ ∃ c, env.cells.lookup x = some c ∧ h.IsCell c (some u))
structure Cx.Ok (X : Cx) : Prop where
  mod : Mod X.K X.mg X.base
  kind : X.env.scope.kind = .function
  glob : X.env.globals = mainGlobals
  blt : X.env.builtins = builtinsNs
  above : X.s₀.heap.objs.size ≤ X.env.locals
  inj : ∀ x y c, X.env.cells.lookup x = some c → X.env.cells.lookup y = some c → x = y
  has : ∀ x, (X.env.kindOf x = some .cell ∨ X.env.kindOf x = some .free) → ∃ c, X.env.cells.lookup x = some c
  cab : ∀ x c, X.fn x = true → X.env.cells.lookup x = some c → X.s₀.heap.objs.size ≤ c
  hd : X.calm = true → X.A.handled = none
  frames : X.A.frames = some X.stack
  stk : X.stack = X.outer ∨ (X.stack = X.env :: X.outer ∧ X.env.frame = some X.env.locals)
  exf : ∀ b ∈ X.ex, b ≠ X.env.locals ∧ ∀ x c, X.env.cells.lookup x = some c → c ≠ b
  bs : ∀ b o, X.base.get? b = some o → X.s₀.heap.get? b = some o ∧ X.H₀ b = none
  bsz : X.base.objs.size ≤ X.s₀.heap.objs.size
  noex : ∀ b o, X.base.get? b = some o → b ∉ X.ex
  exfs : ∀ b ∈ X.ex, b ∉ X.fs
  funs : X.s₀.heap.FunFrames X.base X.outer
  frf : ∀ b ∈ X.fs, X.H₀ b = none
structure Inv (X : Cx) (pins : List (Addr × Obj)) (σ : List (Option V)) (H : Hp) (s : Shared) : Prop where
  ok : X.Ok
  os : s.os = X.s₀.os
  bare : AllBare s.gens
  base : Un X.fs X.ex X.H₀ H X.s₀.heap s.heap
  loc : ∃ m, s.heap.Ns X.env.locals m ∧ ∀ (i : Nat) (x : Str) (v : V), X.N[i]? = some x → σ[i]? = some (some v) → Vis X.env.scope x → ∃ u, RelV v u ∧ Look X.env s.heap m x u
  cell : ∀ x c, X.env.cells.lookup x = some c → ∃ v, s.heap.IsCell c v
  free : H X.env.locals = none
  freeC : ∀ x c, X.env.cells.lookup x = some c → H c = none
  pin : ∀ p ∈ X.pn ++ pins, s.heap.get? p.1 = some p.2 ∧ H p.1 = none ∧ p.1 ≠ X.env.locals ∧ p.1 ∉ X.fs ∧ ∀ v, p.2.data ≠ .cell v
  hok : HOk X.prog X.w H s.heap
  len : σ.length = X.N.length
section
variable {X : Cx} {pins : List (Addr × Obj)} {σ : List (Option V)} {H H' : Hp} {s : Shared} {h' : Heap}
theorem Cx.Ok.nofr (ok : X.Ok) {b : Addr} {o : Obj} (e : X.base.get? b = some o) : b ∉ X.fs := fun hb => by
  have := (ok.funs.mem hb).1
  rw [e] at this; cases this
theorem Inv.bs (I : Inv X pins σ H s) : ∀ b o, X.base.get? b = some o → s.heap.get? b = some o ∧ H b = none := fun b o e =>
  ⟨I.base.keep b o (I.ok.bs b o e).1 (I.ok.bs b o e).2 (I.ok.nofr e) (I.ok.noex b o e), I.base.free b o (I.ok.bs b o e).1 (I.ok.bs b o e).2 (I.ok.noex b o e)⟩
theorem Inv.bk (I : Inv X pins σ H s) : ∀ b o, X.base.get? b = some o → s.heap.get? b = some o := fun b o e => (I.bs b o e).1
theorem Inv.mod (I : Inv X pins σ H s) : Mod X.K X.mg X.base := I.ok.mod
theorem Inv.kIn (I : Inv X pins σ H s) : X.K.In s.heap := I.ok.mod.kin.keeps I.bk
theorem Inv.nolimit (I : Inv X pins σ H s) : s.heap.NoLimit := I.ok.mod.nolimit.keeps I.bk
theorem Inv.lt (I : Inv X pins σ H s) : X.env.locals < s.heap.objs.size := let ⟨_, hn, _⟩ := I.loc; hn.lt
theorem Inv.sz (I : Inv X pins σ H s) : X.s₀.heap.objs.size ≤ s.heap.objs.size := Nat.le_trans I.ok.above (Nat.le_of_lt I.lt)
theorem Inv.nofs (I : Inv X pins σ H s) {a : Addr} (h : s.heap.objs.size ≤ a) : a ∉ X.fs := fun hb => by
  obtain ⟨_, o, ho, _⟩ := I.ok.funs.mem hb
  exact absurd (Nat.lt_of_lt_of_le (Heap.lt_size ho) (Nat.le_trans I.sz h)) (Nat.lt_irrefl _)
theorem Inv.cne (I : Inv X pins σ H s) : ∀ x c, X.env.cells.lookup x = some c → c ≠ X.env.locals := fun x c e z => by
  obtain ⟨v, o, ho, hd⟩ := I.cell x c e
  obtain ⟨m, ⟨o', es, ep, ho', hd', _⟩, _⟩ := I.loc
  rw [z, ho'] at ho; cases ho; rw [hd'] at hd; cases hd
theorem Inv.funs (I : Inv X pins σ H s) : s.heap.FunFrames X.base X.outer := by
  have all : ∀ (l : List Env), (∀ b ∈ frs l, b ∈ X.fs) → X.s₀.heap.FunFrames X.base l → s.heap.FunFrames X.base l := by
    intro l
    induction l with
    | nil => intro _ _; trivial
    | cons env r ih =>
      intro hs hl
      obtain ⟨hk, ⟨L, o, hf, hn, ho, hd⟩, hr⟩ := hl
      have hL : L ∈ X.fs := hs L (by unfold frs; rw [List.filterMap_cons, hf]; exact List.mem_cons_self)
      obtain ⟨sl, e⟩ := I.base.slot L o ho (I.ok.frf L hL) hL fun z => I.ok.exfs L z hL
      exact ⟨hk, ⟨L, _, hf, hn, e, hd⟩, ih (fun b hb => hs b (by unfold frs; rw [List.filterMap_cons, hf]; exact List.mem_cons_of_mem _ hb)) hr⟩
  exact all X.outer (fun _ hb => hb) I.ok.funs
theorem Inv.stack (I : Inv X pins σ H s) : s.heap.FunFrames X.base X.stack := by
  rcases I.ok.stk with e | ⟨e, hf⟩
  · rw [e]; exact I.funs
  · rw [e]
    obtain ⟨m, hn, _⟩ := I.loc
    refine .cons (by rw [I.ok.kind]; decide) hf hn ?_ I.funs
    exact Heap.get?_none_of_le (Nat.le_trans I.ok.bsz I.ok.above)
theorem Inv.stkSub (I : Inv X pins σ H s) : ∀ b ∈ frs X.stack, b ∈ X.env.locals :: X.fs := fun b hb => by
  rcases I.ok.stk with e | ⟨e, hf⟩
  · rw [e] at hb; exact List.mem_cons_of_mem _ hb
  · rw [e] at hb
    unfold frs at hb
    rw [List.filterMap_cons, hf] at hb
    exact hb
theorem Inv.stkFree (I : Inv X pins σ H s) : ∀ b ∈ frs X.stack, H b = none := fun b hb => by
  rcases List.mem_cons.mp (I.stkSub b hb) with e | hb
  · rw [e]; exact I.free
  · obtain ⟨_, o, ho, _⟩ := I.ok.funs.mem hb
    exact I.base.free b o ho (I.ok.frf b hb) fun z => I.ok.exfs b z hb
theorem Inv.step {g' : Array GenState} {t' : Nat} {d' : Drawn} {ch : List Addr} (I : Inv X pins σ H s)
    (hch : ∀ b ∈ ch, (b ∈ X.ex ∨ X.s₀.heap.objs.size ≤ b) ∧ b ≠ X.env.locals ∧ (∀ x c, X.env.cells.lookup x = some c → c ≠ b) ∧ ∀ p ∈ X.pn ++ pins, p.1 ≠ b)
    (keep : ∀ b o, b ≠ X.env.locals → b ∉ X.fs → b ∉ ch → s.heap.get? b = some o → H b = none → h'.get? b = some o)
    (slot : ∀ b o, b ≠ X.env.locals → b ∈ X.fs → b ∉ ch → s.heap.get? b = some o → H b = none → ∃ sl, h'.get? b = some { o with slots := sl }) (free : ∀ b o, b ∉ ch → s.heap.get? b = some o → H b = none → H' b = none)
    (there : ∀ b o, b ∉ ch → s.heap.get? b = some o → ∃ o', h'.get? b = some o')
    (tups : ∀ b xs, H b = some (.tup xs) → H' b = some (.tup xs)) (frzs : ∀ b o u, H b = some (.frz o u) → H' b = some (.frz o u)) (tbls : ∀ b ps, H b = some (.tbl ps) → ∃ more, H' b = some (.tbl (ps ++ more)))
    (ns : ∀ m, s.heap.Ns X.env.locals m → h'.Ns X.env.locals m) (hok : HOk X.prog X.w H' h') (hg : AllBare g') :
    Inv X pins σ H' { s with heap := h', gens := g', drawn := d', toks := t' } := by
  have neL : ∀ b o, X.s₀.heap.get? b = some o → b ≠ X.env.locals := fun b o e => Nat.ne_of_lt (Nat.lt_of_lt_of_le (Heap.lt_size e) I.ok.above)
  have neC : ∀ b o, X.s₀.heap.get? b = some o → b ∉ X.ex → b ∉ ch := fun b o e hx hb => by
    rcases (hch b hb).1 with z | z
    · exact hx z
    · exact absurd (Nat.lt_of_lt_of_le (Heap.lt_size e) z) (Nat.lt_irrefl _)
  have cellK : ∀ x c, X.env.cells.lookup x = some c → ∀ v, s.heap.IsCell c v → h'.IsCell c v := fun x c e v ⟨o, ho, hd⟩ => by
    have nch : c ∉ ch := fun z => (hch c z).2.2.1 x c e rfl
    by_cases hc : c ∈ X.fs
    · obtain ⟨sl, q⟩ := slot c o (I.cne x c e) hc nch ho (I.freeC x c e)
      exact ⟨_, q, hd⟩
    · exact ⟨o, keep c o (I.cne x c e) hc nch ho (I.freeC x c e), hd⟩
  refine ⟨I.ok, I.os, hg, ⟨fun b o e n hb hx => ?_, fun b o e n hb hx => ?_, fun b o e n hx => ?_, fun b o e hx => ?_, fun b xs e => tups b xs (I.base.tups b xs e), fun b o xs e => frzs b o xs (I.base.frzs b o xs e), fun b ps e => ?_⟩, ?_, fun x c e => ?_, ?_, fun x c e => ?_, fun p hp => ?_, hok, I.len⟩
  · exact keep b o (neL b o e) hb (neC b o e hx) (I.base.keep b o e n hb hx) (I.base.free b o e n hx)
  · obtain ⟨sl, e1⟩ := I.base.slot b o e n hb hx
    obtain ⟨sl', e2⟩ := slot b _ (neL b o e) hb (neC b o e hx) e1 (I.base.free b o e n hx)
    exact ⟨sl', e2⟩
  · obtain ⟨o', e1⟩ := I.base.there b o e hx
    exact free b o' (neC b o e hx) e1 (I.base.free b o e n hx)
  · obtain ⟨o', e1⟩ := I.base.there b o e hx
    exact there b o' (neC b o e hx) e1
  · obtain ⟨m1, e1⟩ := I.base.tbls b ps e
    obtain ⟨m2, e2⟩ := tbls b _ e1
    exact ⟨m1 ++ m2, by rw [e2, Array.append_assoc]⟩
  · obtain ⟨m, hn, hl⟩ := I.loc
    refine ⟨m, ns m hn, fun i x v e1 e2 e3 => ?_⟩
    obtain ⟨u, r, l⟩ := hl i x v e1 e2 e3
    refine ⟨u, r, ?_⟩
    rcases l with l | ⟨k, c, e, z⟩
    · exact .inl l
    · exact .inr ⟨k, c, e, cellK x c e _ z⟩
  · obtain ⟨v, z⟩ := I.cell x c e
    exact ⟨v, cellK x c e v z⟩
  · obtain ⟨m, ⟨o, _, _, ho, _⟩, _⟩ := I.loc
    exact free _ o (fun z => (hch _ z).2.1 rfl) ho I.free
  · obtain ⟨v, o, ho, hd⟩ := I.cell x c e
    exact free c o (fun z => (hch c z).2.2.1 x c e rfl) ho (I.freeC x c e)
  · obtain ⟨e, n, ne, nf, d⟩ := I.pin p hp
    have nch : p.1 ∉ ch := fun z => (hch p.1 z).2.2.2 p hp rfl
    exact ⟨keep p.1 p.2 ne nf nch e n, free p.1 p.2 nch e n, ne, nf, d⟩
theorem Inv.un {t' : Nat} (I : Inv X pins σ H s) (u : Un X.fs [] H H' s.heap h') (hok : HOk X.prog X.w H' h') : Inv X pins σ H' { s with heap := h', toks := t' } := by
  obtain ⟨m, ⟨o, es, ep, ho, r⟩, _⟩ := id I.loc
  obtain ⟨sl, hL⟩ := u.any ho I.free (by simp)
  exact I.step (g' := s.gens) (d' := s.drawn) (ch := []) (fun _ z => nomatch z) (fun b o _ hb _ e n => u.keep b o e n hb (by simp)) (fun b o _ hb _ e n => u.slot b o e n hb (by simp)) (fun b o _ e n => u.free b o e n (by simp)) (fun b o _ e => u.there b o e (by simp)) u.tups u.frzs u.tbls (fun m' hm => by
    obtain ⟨o', es', ep', ho', r'⟩ := hm
    rw [ho] at ho'; cases ho'
    exact ⟨_, es', ep', hL, r'⟩) hok I.bare
theorem Inv.call {g' : Array GenState} {t' : Nat} {d' : Drawn} {ch : List Addr} (I : Inv X pins σ H s) (u : Un (frs X.stack) ch H H' s.heap h') (hok : HOk X.prog X.w H' h') (hg : AllBare g')
    (hch : ∀ b ∈ ch, (b ∈ X.ex ∨ X.s₀.heap.objs.size ≤ b) ∧ b ≠ X.env.locals ∧ (∀ x c, X.env.cells.lookup x = some c → c ≠ b) ∧ ∀ p ∈ X.pn ++ pins, p.1 ≠ b) :
    Inv X pins σ H' { s with heap := h', gens := g', drawn := d', toks := t' } := by
  obtain ⟨m, ⟨o, es, ep, ho, r⟩, _⟩ := id I.loc
  obtain ⟨sl, hL⟩ := u.any ho I.free fun z => (hch _ z).2.1 rfl
  exact I.step (ch := ch) hch (fun b o hL hb hc e n => u.keep b o e n (fun z => (List.mem_cons.mp (I.stkSub b z)).elim hL hb) hc) (fun b o _ _ hc e n => u.any e n hc) (fun b o hc e n => u.free b o e n hc) (fun b o hc e => u.there b o e hc) u.tups u.frzs u.tbls (fun m' hm => by
    obtain ⟨o', es', ep', ho', r'⟩ := hm
    rw [ho] at ho'; cases ho'
    exact ⟨_, es', ep', hL, r'⟩) hok hg
theorem Inv.turned {t' : Nat} {it : Addr} (I : Inv X pins σ H s) (k : ∀ b o, b ≠ it → s.heap.get? b = some o → h'.get? b = some o) (hn : H it = none) (hL : it ≠ X.env.locals)
    (h1 : it ∈ X.ex ∨ X.s₀.heap.objs.size ≤ it) (h2 : ∀ x c, X.env.cells.lookup x = some c → c ≠ it) (h3 : ∀ p ∈ X.pn ++ pins, p.1 ≠ it) : Inv X pins σ H { s with heap := h', toks := t' } := by
  have nit : ∀ b u, H b = some u → b ≠ it := fun b u e z => by rw [z, hn] at e; cases e
  refine I.step (g' := s.gens) (d' := s.drawn) (ch := [it]) (fun b hb => ?_) (fun b o _ _ hc e _ => k b o (fun z => hc (by simp [z])) e) (fun b o _ _ hc e _ => ⟨o.slots, k b o (fun z => hc (by simp [z])) e⟩) (fun _ _ _ _ n => n)
    (fun b o hc e => ⟨o, k b o (fun z => hc (by simp [z])) e⟩) (fun _ _ e => e) (fun _ _ _ e => e) (fun b ps e => ⟨#[], by rw [e]; simp⟩) (fun m hm => ?_) (fun b u e => ?_) I.bare
  · have e : b = it := by simpa using hb
    subst e
    exact ⟨h1, hL, h2, h3⟩
  · obtain ⟨o, es, ep, ho, r⟩ := hm
    exact ⟨o, es, ep, k _ o (Ne.symm hL) ho, r⟩
  · refine (I.hok b u e).stay (fun c v hc q => k c v ?_ q) (fun _ q => q) fun _ _ q => q
    rcases hc with z | z
    · rw [z]; exact nit b u e
    · exact nit c _ z
theorem Inv.tok (I : Inv X pins σ H s) (t : Nat) : Inv X pins σ H { s with toks := t } := I.un (h' := s.heap) (t' := t) Un.refl I.hok
theorem Inv.kept {t' : Nat} (I : Inv X pins σ H s) (k : ∀ b u, s.heap.get? b = some u → h'.get? b = some u) : Inv X pins σ H { s with heap := h', toks := t' } := I.un (Un.kept k) (I.hok.kept k)
theorem Inv.laid {a : Addr} {o : HO} {t' : Nat} (I : Inv X pins σ H s) (k : ∀ b u, s.heap.get? b = some u → h'.get? b = some u) (hp : s.heap.objs.size ≤ a) (new : ObjOk X.prog X.w (upd H a o) h' a o) :
    Inv X pins σ (upd H a o) { s with heap := h', toks := t' } := I.un (Un.laid k hp (I.hok.fresh hp)) (I.hok.laid k hp new)
theorem Inv.write {x e : Addr} {o : HO} {t' : Nat} (I : Inv X pins σ H s) (mu : Mut (H x)) (he : e = x ∨ H e = some (.own x)) (k : ∀ b u, b ≠ e → s.heap.get? b = some u → h'.get? b = some u) (heo : ∃ u, h'.get? e = some u)
    (new : ObjOk X.prog X.w (upd H x o) h' x o) : Inv X pins σ (upd H x o) { s with heap := h', toks := t' } := I.un (Un.write mu he k heo) (I.hok.write mu he k heo new)
theorem Inv.pins_of {pins' : List (Addr × Obj)} (I : Inv X pins σ H s) (h : ∀ p ∈ pins', s.heap.get? p.1 = some p.2 ∧ H p.1 = none ∧ p.1 ≠ X.env.locals ∧ p.1 ∉ X.fs ∧ ∀ v, p.2.data ≠ .cell v) : Inv X pins' σ H s :=
  ⟨I.ok, I.os, I.bare, I.base, I.loc, I.cell, I.free, I.freeC, fun p hp => (List.mem_append.mp hp).elim (fun z => I.pin p (List.mem_append_left _ z)) (h p), I.hok, I.len⟩
theorem nodup_ix {N : List Str} (hN : N.Nodup) {i j : Nat} {x : Str} (a : N[i]? = some x) (b : N[j]? = some x) : i = j := by
  obtain ⟨h1, e1⟩ := List.getElem?_eq_some_iff.mp a
  obtain ⟨h2, e2⟩ := List.getElem?_eq_some_iff.mp b
  exact (List.getElem_inj hN).mp (e1.trans e2.symm)
theorem store_ok2 {M : Model} {A : Around} {E : Value → Shared → Prop} {i : Nat} {x : Str} {v : V} {u : Value} {Q : Unit → Shared → Prop} (I : Inv X pins σ H s) (hN : X.N.Nodup) (hi : X.N[i]? = some x) (hx : Loc X.env.scope x) (r : RelV v u)
    (h : ∀ s', Inv X pins (σ.set i (some v)) H s' → (∃ a, Heap.SameBut a s.heap s'.heap ∧ (a = X.env.locals ∨ X.env.cells.lookup x = some a)) → Q () s') (hf : X.fn x = true ∨ X.env.scope.names.lookup x = some .local := by first | exact .inl rfl | exact .inr rfl | assumption) : wpAny M A (storeName X.env x u) Q E s := by
  obtain ⟨m, hn, hl⟩ := id I.loc
  have hcls : (X.env.scope.kind == .class || (X.env.scope.kind == .module && X.env.locals != X.env.globals)) = false := by rw [I.ok.kind]; rfl
  have hiσ : i < σ.length := by rw [I.len]; exact (List.getElem?_eq_some_iff.mp hi).1
  have cne := I.cne
  have tracked : ∀ {a : Addr} {h' : Heap}, (∃ o, s.heap.get? a = some o ∧ H a = none) → Heap.SameBut a s.heap h' → HOk X.prog X.w H h' := fun {a h'} ha hs b ob e => by
    obtain ⟨_, _, hfree⟩ := ha
    refine (I.hok b ob e).stay (fun c w' hc q => (hs.2 c ?_).trans q) (fun _ q => q) fun _ _ q => q
    rintro rfl
    rcases hc with rfl | hc
    · rw [hfree] at e; cases e
    · rw [hfree] at hc; cases hc
  rcases hx with hk | hk
  · refine wpAny_storeName_local hk hn (fun h' hn' hs => ?_) hcls
    obtain ⟨oL, _, _, hoL, _⟩ := id hn
    refine h _ ⟨I.ok, I.os, I.bare, ⟨fun b o e n hb hx => ?_, fun b o e n hb hx => ?_, I.base.free, fun b o e hx => ?_, I.base.tups, I.base.frzs, I.base.tbls⟩, ⟨_, hn', fun j y v' e1 e2 e3 => ?_⟩, fun y c e => ?_, I.free, I.freeC, fun p hp => ?_, tracked ⟨oL, hoL, I.free⟩ hs, by simpa using I.len⟩ ⟨_, hs, .inl rfl⟩
    · exact (hs.2 b (Nat.ne_of_lt (Nat.lt_of_lt_of_le (Heap.lt_size e) I.ok.above))).trans (I.base.keep b o e n hb hx)
    · obtain ⟨sl, e1⟩ := I.base.slot b o e n hb hx
      exact ⟨sl, (hs.2 b (Nat.ne_of_lt (Nat.lt_of_lt_of_le (Heap.lt_size e) I.ok.above))).trans e1⟩
    · obtain ⟨o', e1⟩ := I.base.there b o e hx
      exact ⟨o', (hs.2 b (Nat.ne_of_lt (Nat.lt_of_lt_of_le (Heap.lt_size e) I.ok.above))).trans e1⟩
    · by_cases hj : j = i
      · subst hj
        rw [hi] at e1; cases e1
        rw [List.getElem?_set_self hiσ] at e2
        cases e2
        exact ⟨u, r, .inl ⟨hk, by simp⟩⟩
      · rw [List.getElem?_set_ne (Ne.symm hj)] at e2
        obtain ⟨u', r', q⟩ := hl j y v' e1 e2 e3
        refine ⟨u', r', ?_⟩
        rcases q with ⟨k, e⟩ | ⟨k, c, e, z⟩
        · refine .inl ⟨k, ?_⟩
          have : y ≠ x := fun e => hj (nodup_ix hN e1 (e ▸ hi))
          simp [this, e]
        · exact .inr ⟨k, c, e, z.sameBut hs (cne y c e)⟩
    · obtain ⟨w', z⟩ := I.cell y c e
      exact ⟨w', z.sameBut hs (cne y c e)⟩
    · obtain ⟨e, n, ne, nf, d⟩ := I.pin p hp
      exact ⟨(hs.2 p.1 ne).trans e, n, ne, nf, d⟩
  · have hfn : X.fn x = true := by
      rcases hf with z | z
      · exact z
      · rw [z] at hk; cases hk
    obtain ⟨c, hc⟩ := I.ok.has x (.inl hk)
    obtain ⟨w', z⟩ := I.cell x c hc
    refine wpAny_storeName_cell I.ok.kind hk hc z (fun h' hc' hs => ?_)
    obtain ⟨oc, hoc, hocd⟩ := id z
    refine h { s with heap := h' } ⟨I.ok, I.os, I.bare, ⟨fun b o e n hb hx => ?_, fun b o e n hb hx => ?_, I.base.free, fun b o e hx => ?_, I.base.tups, I.base.frzs, I.base.tbls⟩, ⟨m, hn.sameBut hs (Ne.symm (cne x c hc)), fun j y v' e1 e2 e3 => ?_⟩, fun y c' e => ?_, I.free, I.freeC, fun p hp => ?_, tracked ⟨oc, hoc, I.freeC x c hc⟩ hs, by simpa using I.len⟩ ⟨c, hs, .inr hc⟩
    · exact (hs.2 b (Nat.ne_of_lt (Nat.lt_of_lt_of_le (Heap.lt_size e) (I.ok.cab x c hfn hc)))).trans (I.base.keep b o e n hb hx)
    · obtain ⟨sl, e1⟩ := I.base.slot b o e n hb hx
      exact ⟨sl, (hs.2 b (Nat.ne_of_lt (Nat.lt_of_lt_of_le (Heap.lt_size e) (I.ok.cab x c hfn hc)))).trans e1⟩
    · obtain ⟨o', e1⟩ := I.base.there b o e hx
      exact ⟨o', (hs.2 b (Nat.ne_of_lt (Nat.lt_of_lt_of_le (Heap.lt_size e) (I.ok.cab x c hfn hc)))).trans e1⟩
    · by_cases hj : j = i
      · subst hj
        rw [hi] at e1; cases e1
        rw [List.getElem?_set_self hiσ] at e2
        cases e2
        exact ⟨u, r, .inr ⟨.inl hk, c, hc, hc'⟩⟩
      · rw [List.getElem?_set_ne (Ne.symm hj)] at e2
        obtain ⟨u', r', q⟩ := hl j y v' e1 e2 e3
        refine ⟨u', r', ?_⟩
        rcases q with q | ⟨k, c', e, z'⟩
        · exact .inl q
        · refine .inr ⟨k, c', e, z'.sameBut hs ?_⟩
          rintro rfl
          exact hj (nodup_ix hN e1 (I.ok.inj _ _ _ e hc ▸ hi))
    · by_cases hcc : c' = c
      · subst hcc; exact ⟨_, hc'⟩
      · obtain ⟨w2, z2⟩ := I.cell y c' e
        exact ⟨w2, z2.sameBut hs hcc⟩
    · obtain ⟨e, n, ne, nf, d⟩ := I.pin p hp
      refine ⟨(hs.2 p.1 ?_).trans e, n, ne, nf, d⟩
      intro q
      rw [q, hoc] at e
      have q' : oc = p.2 := Option.some.inj e
      exact d w' (by rw [← q']; exact hocd)
theorem store_ok {M : Model} {A : Around} {E : Value → Shared → Prop} {i : Nat} {x : Str} {v : V} {u : Value} {Q : Unit → Shared → Prop} (I : Inv X pins σ H s) (hN : X.N.Nodup) (hi : X.N[i]? = some x) (hx : Loc X.env.scope x) (r : RelV v u)
    (h : ∀ s', Inv X pins (σ.set i (some v)) H s' → Q () s') (hf : X.fn x = true ∨ X.env.scope.names.lookup x = some .local := by first | exact .inl rfl | exact .inr rfl | assumption) : wpAny M A (storeName X.env x u) Q E s :=
  store_ok2 I hN hi hx r (fun s' I' _ => h s' I') hf
theorem Inv.call' {s' : Shared} {ch : List Addr} (I : Inv X pins σ H s) (ho : s'.os = s.os) (u : Un (frs X.stack) ch H H' s.heap s'.heap) (hok : HOk X.prog X.w H' s'.heap) (hg : AllBare s'.gens)
    (hch : ∀ b ∈ ch, (b ∈ X.ex ∨ X.s₀.heap.objs.size ≤ b) ∧ b ≠ X.env.locals ∧ (∀ x c, X.env.cells.lookup x = some c → c ≠ b) ∧ ∀ p ∈ X.pn ++ pins, p.1 ≠ b) : Inv X pins σ H' s' := by
  obtain ⟨h', g', d', t', o'⟩ := s'
  have e : o' = s.os := ho
  subst e
  exact I.call (g' := g') (t' := t') (d' := d') u hok hg hch
end
abbrev XK := Value → Option Addr → Hp → Prop
abbrev St := List (Option V)
abbrev VK := V → Hp → Prop
abbrev TE := St → Hp → VK → Prop
abbrev TT := St → Hp → (Bool → Hp → Prop) → Prop
abbrev TA := St → Hp → (List V → Hp → Prop) → Prop
structure Ends where
  nx : St → Hp → Prop
  rt : VK
  bk : St → Hp → Prop := fun _ _ => False
  ct : St → Hp → Prop := fun _ _ => False
abbrev TS := Ends → St → Hp → Prop
def EP (X : Cx) (pins : List (Addr × Obj)) (σ : St) (Q : VK) (u : Value) (s' : Shared) : Prop := ∃ v H', Inv X pins σ H' s' ∧ RelV v u ∧ Q v H'
def TP (X : Cx) (pins : List (Addr × Obj)) (σ : St) (Q : Bool → Hp → Prop) (b : Bool) (s' : Shared) : Prop := ∃ H', Inv X pins σ H' s' ∧ Q b H'
def AP (X : Cx) (pins : List (Addr × Obj)) (σ : St) (Q : List V → Hp → Prop) (us : List Value) (s' : Shared) : Prop := ∃ vs H', Inv X pins σ H' s' ∧ Vals vs us ∧ Q vs H'
def SP (X : Cx) (pins : List (Addr × Obj)) (D : Ends) (f : Flow) (s' : Shared) : Prop :=
  match f with
  | .next => ∃ σ' H', Inv X pins σ' H' s' ∧ D.nx σ' H'
  | .brk => ∃ σ' H', Inv X pins σ' H' s' ∧ D.bk σ' H'
  | .cont => ∃ σ' H', Inv X pins σ' H' s' ∧ D.ct σ' H'
  | .ret u => ∃ v σ' H', Inv X pins σ' H' s' ∧ RelV v u ∧ D.rt v H'
def PE (X : Cx) (e : Expr) (t : TE) : Prop :=
  ∀ (pins : List (Addr × Obj)) (s : Shared) (σ : St) (H : Hp) (Q : VK), Inv X pins σ H s → t σ H Q → wpAny (model X.prog X.w) X.A (eval e X.env) (EP X pins σ Q) X.xe s
def PT (X : Cx) (e : Expr) (t : TT) : Prop :=
  ∀ (pins : List (Addr × Obj)) (s : Shared) (σ : St) (H : Hp) (Q : Bool → Hp → Prop), Inv X pins σ H s → t σ H Q → wpAny (model X.prog X.w) X.A (isTrue e X.env (eval e X.env)) (TP X pins σ Q) X.xe s
def PW (X : Cx) (e : Expr) (t : TT) : Prop :=
  ∀ (whole : Sem Value) (pins : List (Addr × Obj)) (s : Shared) (σ : St) (H : Hp) (Q : Bool → Hp → Prop), Inv X pins σ H s → t σ H Q → wpAny (model X.prog X.w) X.A (isTrue e X.env whole) (TP X pins σ Q) X.xe s
theorem PW.pt {X : Cx} {e : Expr} {t : TT} (h : PW X e t) : PT X e t := h _
def PA (X : Cx) (es : List Expr) (t : TA) : Prop :=
  ∀ (pos : Pos) (pins : List (Addr × Obj)) (s : Shared) (σ : St) (H : Hp) (Q : List V → Hp → Prop), Inv X pins σ H s → t σ H Q → wpAny (model X.prog X.w) X.A (spliced (backTo pos (starEach es X.env))) (AP X pins σ Q) X.xe s
def PS (X : Cx) (st : Stmt) (t : TS) : Prop :=
  ∀ (pins : List (Addr × Obj)) (s : Shared) (σ : St) (H : Hp) (D : Ends), Inv X pins σ H s → t D σ H → wpAny (model X.prog X.w) X.A (exec st X.env) (SP X pins D) X.xe s
def PSs (X : Cx) (st : List Stmt) (t : TS) : Prop :=
  ∀ (pins : List (Addr × Obj)) (s : Shared) (σ : St) (H : Hp) (D : Ends), Inv X pins σ H s → t D σ H → wpAny (model X.prog X.w) X.A (execs st X.env) (SP X pins D) X.xe s
theorem thn {α : Type} {t : Sem α} {Q Q' : α → Shared → Prop} {M : Model} {A : Around} {E : Value → Shared → Prop} {s : Shared} (h : wpAny M A t Q E s) (hQ : ∀ a s, Q a s → Q' a s) : wpAny M A t Q' E s := wpAny_mono h hQ fun _ _ x => x
end L2
namespace L2
open PySem PySem.Spec PyProof.Rows
section
variable {X : Cx}
def tVar (i : Nat) : TE := fun σ H Q => ∃ v, σ[i]? = some (some v) ∧ Q v H
def tC (v : V) : TE := fun _ H Q => Q v H
theorem pe_var {i : Nat} {x : Str} {pos : Pos} (hN : X.N[i]? = some x) (hv : Vis X.env.scope x) (hd : (x == ("__debug__" : Str)) = false := by decide) (hcd : (x == ("__classdict__" : Str)) = false := by decide) : PE X (.Name x pos) (tVar i) := by
  intro pins s σ H Q I h
  obtain ⟨v, e, h⟩ := h
  obtain ⟨m, hn, hl⟩ := I.loc
  obtain ⟨u, r, l⟩ := hl i x v hN e hv
  have fin : EP X pins σ Q u s := ⟨v, H, I, r, h⟩
  rcases l with ⟨hk, hm⟩ | ⟨hk, c, hc, hcell⟩
  · exact wpAny_Name (wpAny_loadName_local I.ok.kind hk hn hm fin) hd
  · rcases hk with hk | hk
    · exact wpAny_Name (wpAny_loadName_cell I.ok.kind hk hc hcell fin) hd
    · exact wpAny_Name (wpAny_loadName_free I.ok.kind hk hc hcell fin hcd) hd
theorem pe_int {i j pos} : PE X (.Constant (.int i) j pos) (tC (.int i)) := fun _ _ _ H _ I h => wpAny_Constant_int ⟨.int i, H, I.tok _, ⟨_, rfl⟩, h⟩
theorem pe_bl {b j pos} : PE X (.Constant (.bool b) j pos) (tC (.bl b)) := fun _ _ _ H _ I h => Constant_bool ⟨.bl b, H, I, rfl, h⟩
theorem pe_non {j pos} : PE X (.Constant .none j pos) (tC .non) := fun _ _ _ H _ I h => Constant_none ⟨.non, H, I, rfl, h⟩
theorem pe_str {x j pos} : PE X (.Constant (.str x) j pos) (tC (.str x)) := fun _ _ _ H _ I h => Calls.Constant_str ⟨.str x, H, I.tok _, ⟨_, rfl⟩, h⟩
def Gl (X : Cx) (x : Str) : Prop := X.env.kindOf x = some .globalImplicit
theorem ld_glob {E : Value → Shared → Prop} {pins : List (Addr × Obj)} {s : Shared} {σ : St} {H : Hp} {x : Str} {u : Value} {pos : Pos} {Q : Value → Shared → Prop} (I : Inv X pins σ H s) (hg : Gl X x) (hm : X.mg x = some u) (h : Q u s)
    (hd : (x == ("__debug__" : Str)) = false := by decide) : wpAny (model X.prog X.w) X.A (eval (.Name x pos) X.env) Q E s :=
  Calls.Name_function_global I.ok.kind hg (Calls.loadGlobal_global (by rw [I.ok.glob]; exact I.mod.glob.keeps I.bk) hm h) hd
theorem ld_blt {E : Value → Shared → Prop} {pins : List (Addr × Obj)} {s : Shared} {σ : St} {H : Hp} {x : Str} {u : Value} {pos : Pos} {Q : Value → Shared → Prop} (I : Inv X pins σ H s) (hg : Gl X x) (hm : X.mg x = none) (hv : bootBuiltins x = some u) (h : Q u s)
    (hn : x ≠ "__name__" := by decide) (hd : (x == ("__debug__" : Str)) = false := by decide) : wpAny (model X.prog X.w) X.A (eval (.Name x pos) X.env) Q E s := by
  obtain ⟨mb, h1, h2⟩ := I.mod.blt
  exact Calls.Name_function_global I.ok.kind hg (Calls.loadGlobal_builtin (by rw [I.ok.glob]; exact I.mod.glob.keeps I.bk) hm (by rw [I.ok.blt]; exact h1.keeps I.bk) ((h2 x hn).trans hv) h) hd
theorem pe_glob {x : Str} {v : V} {u : Value} {pos : Pos} (hg : Gl X x) (hm : X.mg x = some u) (r : RelV v u) (hd : (x == ("__debug__" : Str)) = false := by decide) : PE X (.Name x pos) (tC v) :=
  fun _ _ _ H _ I h => ld_glob I hg hm ⟨v, H, I, r, h⟩ hd
theorem pe_bltn {x : Str} {v : V} {u : Value} {pos : Pos} (hg : Gl X x) (hm : X.mg x = none) (hv : bootBuiltins x = some u) (r : RelV v u) (hn : x ≠ "__name__" := by decide) (hd : (x == ("__debug__" : Str)) = false := by decide) : PE X (.Name x pos) (tC v) :=
  fun _ _ _ H _ I h => ld_blt I hg hm hv ⟨v, H, I, r, h⟩ hn hd
def t2I (ta tb : TE) (k : Int → Int → Hp → Prop) : St → Hp → Prop := fun σ H => ta σ H fun x H1 => tb σ H1 fun y H2 => ∃ i j, x = .int i ∧ y = .int j ∧ k i j H2
variable {a b : Expr} {ta tb : TE} {pos : Pos}
def tCmp (p : Int → Int → Bool) (ta tb : TE) : TE := fun σ H Q => t2I ta tb (fun i j H2 => Q (.bl (p i j)) H2) σ H
abbrev tLt : TE → TE → TE := tCmp fun i j => decide (i < j)
abbrev tLe : TE → TE → TE := tCmp fun i j => decide (i ≤ j)
abbrev tGt : TE → TE → TE := tCmp fun i j => decide (j < i)
abbrev tGe : TE → TE → TE := tCmp fun i j => decide (j ≤ i)
abbrev tEqI : TE → TE → TE := tCmp fun i j => decide (i = j)
abbrev tNeI : TE → TE → TE := tCmp fun i j => !decide (i = j)
def tB (t : TE) : TT := fun σ H Q => t σ H fun x H1 => ∃ c, x = .bl c ∧ Q c H1
theorem pt_val {e : Expr} {t : TE} (h : PE X e t) (he : ∀ whole, isTrue e X.env whole = (do let v ← whole; standAt e.pos; holding [v] (truthy v)) := by intro _; rfl) : PT X e (tB t) := by
  intro pins s σ H Q I hw
  refine isTrue_plain (thn (h pins s σ H _ I hw) fun v s1 ⟨x, H1, I1, r1, q1⟩ => ?_) (he _)
  obtain ⟨d, rfl, q⟩ := q1
  cases r1
  exact wpAny_truthy_bool ⟨H1, I1, q⟩
variable {tA tB' : TT} {rest : List Expr}
def tAnd (t u : TT) : TT := fun σ H Q => t σ H fun c H1 => if c = true then u σ H1 Q else Q false H1
def tOr (t u : TT) : TT := fun σ H Q => t σ H fun c H1 => if c = true then Q true H1 else u σ H1 Q
def tNot (t : TT) : TT := fun σ H Q => t σ H fun c H1 => Q (!c) H1
theorem pw_and1 (ha : PT X a tA) : PW X (.BoolOp .And [a] pos) tA := by
  intro wh pins s σ H Q I h
  refine isTrue_and (thn (ha pins s σ H Q I h) fun c s1 e => ?_)
  cases c with
  | true => exact isTrue_and_nil e
  | false => exact e
theorem pw_or1 (ha : PT X a tA) : PW X (.BoolOp .Or [a] pos) tA := by
  intro wh pins s σ H Q I h
  refine isTrue_or (thn (ha pins s σ H Q I h) fun c s1 e => ?_)
  cases c with
  | false => exact isTrue_or_nil e
  | true => exact e
theorem pw_and (ha : PT X a tA) (hb : PW X (.BoolOp .And (b :: rest) pos) tB') : PW X (.BoolOp .And (a :: b :: rest) pos) (tAnd tA tB') := by
  intro wh pins s σ H Q I h
  refine isTrue_and (thn (ha pins s σ H _ I h) fun c s1 ⟨H1, I1, q1⟩ => ?_)
  cases c with
  | true => exact hb wh pins s1 σ H1 Q I1 q1
  | false => exact ⟨H1, I1, q1⟩
theorem pw_or (ha : PT X a tA) (hb : PW X (.BoolOp .Or (b :: rest) pos) tB') : PW X (.BoolOp .Or (a :: b :: rest) pos) (tOr tA tB') := by
  intro wh pins s σ H Q I h
  refine isTrue_or (thn (ha pins s σ H _ I h) fun c s1 ⟨H1, I1, q1⟩ => ?_)
  cases c with
  | true => exact ⟨H1, I1, q1⟩
  | false => exact hb wh pins s1 σ H1 Q I1 q1
theorem pt_not (ha : PT X a tA) : PT X (.UnaryOp .Not a pos) (tNot tA) := by
  intro pins s σ H Q I h
  exact isTrue_not (ha pins s σ H (fun c H1 => Q (!c) H1) I h)
def tAndV (ta tb : TE) : TE := fun σ H Q => ta σ H fun x H1 => ∃ c, x = .bl c ∧ if c = true then tb σ H1 Q else Q (.bl false) H1
def tOrV (ta tb : TE) : TE := fun σ H Q => ta σ H fun x H1 => ∃ c, x = .bl c ∧ if c = true then Q (.bl true) H1 else tb σ H1 Q
def tNotV (ta : TE) : TE := fun σ H Q => ta σ H fun x H1 => ∃ c, x = .bl c ∧ Q (.bl (!c)) H1
theorem pe_one {op} {t : TE} (h : PE X a t) : PE X (.BoolOp op [a] pos) t := fun pins s σ H Q I hw => BoolOp_one (h pins s σ H Q I hw)
theorem pe_and (ha : PE X a ta) (hb : PE X (.BoolOp .And (b :: rest) pos) tb) : PE X (.BoolOp .And (a :: b :: rest) pos) (tAndV ta tb) := by
  intro pins s σ H Q I h
  refine BoolOp_and (thn (ha pins s σ H _ I h) fun v s1 ⟨x, H1, I1, r1, q1⟩ => ?_)
  obtain ⟨c, rfl, q1⟩ := q1
  cases r1
  refine wpAny_truthy_bool ?_
  cases c with
  | true => exact hb pins s1 σ H1 Q I1 q1
  | false => exact ⟨.bl false, H1, I1, rfl, q1⟩
theorem pe_or (ha : PE X a ta) (hb : PE X (.BoolOp .Or (b :: rest) pos) tb) : PE X (.BoolOp .Or (a :: b :: rest) pos) (tOrV ta tb) := by
  intro pins s σ H Q I h
  refine BoolOp_or (thn (ha pins s σ H _ I h) fun v s1 ⟨x, H1, I1, r1, q1⟩ => ?_)
  obtain ⟨c, rfl, q1⟩ := q1
  cases r1
  refine wpAny_truthy_bool ?_
  cases c with
  | false => exact hb pins s1 σ H1 Q I1 q1
  | true => exact ⟨.bl true, H1, I1, rfl, q1⟩
theorem pe_not (ha : PE X a ta) : PE X (.UnaryOp .Not a pos) (tNotV ta) := by
  intro pins s σ H Q I h
  refine UnaryOp_ (thn (ha pins s σ H _ I h) fun v s1 ⟨x, H1, I1, r1, q1⟩ => ?_)
  obtain ⟨c, rfl, q1⟩ := q1
  cases r1
  exact not_of (wpAny_truthy_bool ⟨.bl (!c), H1, I1, rfl, q1⟩)
end
end L2
namespace L2
open PySem PySem.Spec PyProof.Rows
def SqL (K : PySem.W.Frag) (H : Hp) (a : Addr) (xs : List V) : Prop :=
  Rd H a (.lst xs) ∨
    ∃ (o : Obj) (its : Array Value) (n : Nat), K.lookup a = some o ∧ o.cls = .type "list" ∧ o.dict = none ∧ o.data = .seq its n ∧ its.size ≤ sizeLine ∧ Vals xs its.toList
def SqT (K : PySem.W.Frag) (H : Hp) (a : Addr) (xs : List V) : Prop :=
  Rd H a (.tup xs) ∨
    ∃ (o : Obj) (its : Array Value) (n : Nat), K.lookup a = some o ∧ o.cls = .type "tuple" ∧ o.data = .seq its n ∧ its.size ≤ sizeLine ∧ Vals xs its.toList
def absV : Value → Option V
  | .none => some .non
  | .bool b => some (.bl b)
  | .int i _ => some (.int i)
  | .str x _ => some (.str x)
  | .bytes b _ => some (.byt b)
  | .float b _ => some (.flt b)
  | .ref a => some (.ref a)
  | .type n => some (.ty n)
  | _ => none
theorem RelV.abs {x : V} {u : Value} (r : RelV x u) : absV u = some x := by
  cases x with
  | non => cases r; rfl
  | bl _ => cases r; rfl
  | int _ => obtain ⟨t, rfl⟩ := r; rfl
  | str _ => obtain ⟨t, rfl⟩ := r; rfl
  | byt _ => obtain ⟨t, rfl⟩ := r; rfl
  | flt _ => obtain ⟨t, rfl⟩ := r; rfl
  | ref _ => cases r; rfl
  | ty _ => cases r; rfl
theorem RelV.inj {x y : V} {u : Value} (r : RelV x u) (q : RelV y u) : x = y := Option.some.inj (r.abs.symm.trans q.abs)
theorem Vals.inj : ∀ {xs ys : List V} {us : List Value}, Vals xs us → Vals ys us → xs = ys
  | _, _, _, .nil, .nil => rfl
  | _, _, _, .cons r t, .cons r' t' => by rw [r.inj r', Vals.inj t t']
section
variable {X : Cx} {pins : List (Addr × Obj)} {σ : St} {H : Hp} {s : Shared} {a : Addr} {xs ys : List V}
theorem SqL.of {K : PySem.W.Frag} (h : H a = some (.lst xs)) : SqL K H a xs := .inl (.inl h)
theorem SqT.of {K : PySem.W.Frag} (h : H a = some (.tup xs)) : SqT K H a xs := .inl (.inl h)
theorem Inv.list (I : Inv X pins σ H s) (h : SqL X.K H a xs) : ∃ its : List Value, Vals xs its ∧ PlainL s.heap a its.toArray ∧ xs.length ≤ sizeLine := by
  rcases h with h | ⟨o, its, n, hk, hc, hd, hs, hz, r⟩
  · obtain ⟨z, its, n, r, e⟩ := h.ok I.hok
    exact ⟨its, r, ⟨_, n, e, rfl, rfl, rfl⟩, z⟩
  · refine ⟨its.toList, r, ⟨o, n, I.kIn a o hk, hc, hd, by simpa using hs⟩, ?_⟩
    have e := r.length
    simp only [Array.length_toList] at e
    omega
theorem Inv.tuple (I : Inv X pins σ H s) (h : SqT X.K H a xs) : ∃ its : List Value, Vals xs its ∧ IsTup s.heap a its.toArray ∧ xs.length ≤ sizeLine := by
  rcases h with h | ⟨o, its, n, hk, hc, hs, hz, r⟩
  · obtain ⟨z, its, r, p⟩ := h.ok I.hok
    exact ⟨its, r, p, z⟩
  · refine ⟨its.toList, r, ⟨o, I.kIn a o hk, hc, n, by simpa using hs⟩, ?_⟩
    have e := r.length
    simp only [Array.length_toList] at e
    omega
theorem Inv.list_inj (I : Inv X pins σ H s) (h : SqL X.K H a xs) (h' : SqL X.K H a ys) : xs = ys := by
  obtain ⟨its, r, ⟨o, n, e, _, _, d⟩, _⟩ := I.list h
  obtain ⟨its', r', ⟨o', n', e', _, _, d'⟩, _⟩ := I.list h'
  rw [e] at e'; cases e'
  rw [d] at d'
  injection d' with d1 _
  have : its = its' := by simpa using congrArg Array.toList d1
  subst this
  exact r.inj r'
end
abbrev Cx.wish (X : Cx) (E : Value → Shared → Prop) : Cx := { X with xe := E }
abbrev Cx.nox (X : Cx) : Cx := X.wish fun _ _ => False
theorem Cx.Ok.wish {X : Cx} (ok : X.Ok) (E : Value → Shared → Prop) : (X.wish E).Ok :=
  ⟨ok.mod, ok.kind, ok.glob, ok.blt, ok.above, ok.inj, ok.has, ok.cab, ok.hd, ok.frames, ok.stk, ok.exf, ok.bs, ok.bsz, ok.noex, ok.exfs, ok.funs, ok.frf⟩
theorem Cx.Ok.unwish {X : Cx} {E : Value → Shared → Prop} (ok : (X.wish E).Ok) : X.Ok :=
  ⟨ok.mod, ok.kind, ok.glob, ok.blt, ok.above, ok.inj, ok.has, ok.cab, ok.hd, ok.frames, ok.stk, ok.exf, ok.bs, ok.bsz, ok.noex, ok.exfs, ok.funs, ok.frf⟩
section
variable {X : Cx} {pins : List (Addr × Obj)} {σ : St} {H : Hp} {s : Shared} {E : Value → Shared → Prop}
theorem Inv.wish (I : Inv X pins σ H s) (E : Value → Shared → Prop) : Inv (X.wish E) pins σ H s := ⟨I.ok.wish E, I.os, I.bare, I.base, I.loc, I.cell, I.free, I.freeC, I.pin, I.hok, I.len⟩
theorem Inv.unwish (I : Inv (X.wish E) pins σ H s) : Inv X pins σ H s := ⟨I.ok.unwish, I.os, I.bare, I.base, I.loc, I.cell, I.free, I.freeC, I.pin, I.hok, I.len⟩
theorem SP.unwish {D : Ends} {f : Flow} {s' : Shared} (h : SP (X.wish E) pins D f s') : SP X pins D f s' := by
  cases f with
  | next => obtain ⟨σ', H', I, q⟩ := h; exact ⟨σ', H', I.unwish, q⟩
  | brk => obtain ⟨σ', H', I, q⟩ := h; exact ⟨σ', H', I.unwish, q⟩
  | cont => obtain ⟨σ', H', I, q⟩ := h; exact ⟨σ', H', I.unwish, q⟩
  | ret u => obtain ⟨v, σ', H', I, r, q⟩ := h; exact ⟨v, σ', H', I.unwish, r, q⟩
theorem PSs.nox {st : List Stmt} {t : TS} (h : PSs X.nox st t) : PSs X st t := fun pins s σ H D I hw =>
  wpAny_mono (h pins s σ H D (I.wish _) hw) (fun _ _ q => q.unwish) fun _ _ z => False.elim z
end
section
variable {X : Cx} {st : Stmt} {rest : List Stmt} {t u : TS} {e : Expr} {te : TE} {pos : Pos}
def tNext : TS := fun D σ H => D.nx σ H
def tSeq (t u : TS) : TS := fun D σ H => t { D with nx := u D } σ H
theorem pss_nil : PSs X [] tNext := fun _ _ σ H _ I h => wpAny_execs_nil ⟨σ, H, I, h⟩
theorem pss_cons (h1 : PS X st t) (h2 : PSs X rest u) : PSs X (st :: rest) (tSeq t u) := by
  intro pins s σ H D I h
  refine wpAny_execs_cons (thn (h1 pins s σ H { D with nx := u D } I h) fun f s1 q => ?_)
  cases f with
  | next =>
    obtain ⟨σ', H', I', q⟩ := q
    exact h2 pins s1 σ' H' D I' q
  | ret v => exact q
  | brk => exact q
  | cont => exact q
theorem pss_one (h1 : PS X st t) : PSs X [st] t := by
  intro pins s σ H D I h
  refine wpAny_execs_cons (thn (h1 pins s σ H D I h) fun f s1 q => ?_)
  cases f with
  | next => exact wpAny_execs_nil q
  | ret v => exact q
  | brk => exact q
  | cont => exact q
theorem Inv.quiet {pins : List (Addr × Obj)} {σ : St} {H : Hp} {s : Shared} (I : Inv X pins σ H s) : interactive X.env = false := by simp [interactive, I.ok.kind]
def tDrop (te : TE) : TS := fun D σ H => te σ H fun _ H1 => D.nx σ H1
theorem ps_expr (he : PE X e te) (hs : swapsWith e none pos.line X.env = pure false := by rfl) : PS X (.Expr e pos) (tDrop te) := by
  intro pins s σ H D I h
  exact wpAny_Expr_any (thn (he pins s σ H _ I h) fun v s1 ⟨x, H1, I1, r1, q1⟩ => ⟨σ, H1, I1, q1⟩) I.quiet hs
def tRet (te : TE) : TS := fun D σ H => te σ H D.rt
theorem ps_ret (he : PE X e te) : PS X (.Return (some e) pos) (tRet te) := by
  intro pins s σ H D I h
  exact wpAny_Return_some (thn (he pins s σ H _ I h) fun v s1 ⟨x, H1, I1, r1, q1⟩ => ⟨x, σ, H1, I1, r1, q1⟩)
def tIfS (c : TT) (t u : TS) : TS := fun D σ H => c σ H fun b H1 => if b = true then t D σ H1 else u D σ H1
theorem ps_if {c : Expr} {a b : List Stmt} {tc : TT} (hc : PT X c tc) (ha : PSs X a t) (hb : PSs X b u) : PS X (.If c a b pos) (tIfS tc t u) := by
  intro pins s σ H D I h
  refine wpAny_If (thn (hc pins s σ H _ I h) fun d s1 ⟨H1, I1, q1⟩ => ?_)
  cases d with
  | true => exact ha pins s1 σ H1 D I1 q1
  | false => exact hb pins s1 σ H1 D I1 q1
def tNever : TS := fun _ _ _ => False
theorem ps_never : PS X st tNever := fun _ _ _ _ _ _ h => h.elim
end
abbrev TG := V → St → Hp → (St → Hp → Prop) → Prop
abbrev TGs := List V → St → Hp → (St → Hp → Prop) → Prop
def PG (X : Cx) (target : Expr) (t : TG) : Prop :=
  ∀ (pins : List (Addr × Obj)) (s : Shared) (σ : St) (H : Hp) (v : V) (u : Value) (Q : St → Hp → Prop), Inv X pins σ H s → RelV v u → t v σ H Q →
    wpAny (model X.prog X.w) X.A (assign target X.env u) (fun _ s' => ∃ σ' H', Inv X pins σ' H' s' ∧ Q σ' H') X.xe s
def PGs (X : Cx) (ts : List Expr) (t : TGs) : Prop :=
  ∀ (pins : List (Addr × Obj)) (s : Shared) (σ : St) (H : Hp) (vs : List V) (us : List Value) (Q : St → Hp → Prop), Inv X pins σ H s → Vals vs us → t vs σ H Q →
    wpAny (model X.prog X.w) X.A (assignInOrder ((assignEach ts X.env).map (·.2)) us) (fun _ s' => ∃ σ' H', Inv X pins σ' H' s' ∧ Q σ' H') X.xe s
abbrev TSet := V → V → V → Hp → (Hp → Prop) → Prop
def PSet (X : Cx) (t : TSet) : Prop :=
  ∀ (pins : List (Addr × Obj)) (s : Shared) (σ : St) (H : Hp) (o i v : V) (ov iv u : Value) (Q : Hp → Prop), Inv X pins σ H s → RelV o ov → RelV i iv → RelV v u → t o i v H Q →
    wpAny (model X.prog X.w) X.A (setItem ov iv u) (fun _ s' => ∃ H', Inv X pins σ H' s' ∧ Q H') X.xe s
abbrev TIp := V → V → Hp → VK → Prop
def PIp (X : Cx) (op : Operator) (t : TIp) : Prop :=
  ∀ (pins : List (Addr × Obj)) (s : Shared) (σ : St) (H : Hp) (x y : V) (v u : Value) (Q : VK), Inv X pins σ H s → RelV x v → RelV y u → t x y H Q →
    wpAny (model X.prog X.w) X.A (inplaceOp op v u) (EP X pins σ Q) X.xe s
section
variable {X : Cx} {pos : Pos}
def gName (i : Nat) : TG := fun v σ H Q => Q (σ.set i (some v)) H
theorem pg_name {i : Nat} {x : Str} (hN : X.N.Nodup) (hi : X.N[i]? = some x) (hx : Loc X.env.scope x) (hf : X.fn x = true ∨ X.env.scope.names.lookup x = some .local := by first | exact .inl rfl | exact .inr rfl | assumption) : PG X (.Name x pos) (gName i) := by
  intro pins s σ H v u Q I r h
  exact wpAny_assign_Name (store_ok I hN hi hx r (fun s' I' => ⟨_, H, I', h⟩) hf)
def gNil : TGs := fun vs σ H Q => vs = [] ∧ Q σ H
def gCons (t : TG) (u : TGs) : TGs := fun vs σ H Q => ∃ v r, vs = v :: r ∧ t v σ H fun σ' H' => u r σ' H' Q
theorem pgs_nil : PGs X [] gNil := by
  intro pins s σ H vs us Q I r h
  obtain ⟨e, h⟩ := h
  subst e
  cases r
  exact assignInOrder_nil ⟨σ, H, I, h⟩
theorem pgs_cons {e : Expr} {es : List Expr} {t : TG} {u : TGs} (h1 : PG X e t) (h2 : PGs X es u)
    (hs : (assignEach (e :: es) X.env).map (·.2) = assign e X.env :: (assignEach es X.env).map (·.2) := by rfl) : PGs X (e :: es) (gCons t u) := by
  intro pins s σ H vs us Q I r h
  obtain ⟨v, vr, e1, h⟩ := h
  subst e1
  cases r with
  | cons r rr =>
    rw [hs]
    refine assignInOrder_cons (thn (h1 pins s σ H _ _ _ I r h) fun _ s1 ⟨σ1, H1, I1, q1⟩ => ?_)
    exact h2 pins s1 σ1 H1 _ _ Q I1 rr q1
def gTup (K : PySem.W.Frag) (n : Nat) (t : TGs) : TG := fun v σ H Q => ∃ a xs, v = .ref a ∧ SqT K H a xs ∧ xs.length = n ∧ t xs σ H Q
theorem pg_tup {es : List Expr} {k : Nat} {t : TGs} {n : Nat} (hc : X.calm = true) (h : PGs X es t)
    (hn : (assignEach es X.env).length = n := by rfl) (hst : (assignEach es X.env).findIdx? (·.1) = none := by rfl) : PG X (.Tuple es k pos) (gTup X.K n t) := by
  intro pins s σ H v u Q I r hw
  obtain ⟨a, xs, e1, hq, hl, hw⟩ := hw
  subst e1
  cases r
  obtain ⟨its, rv, ht, hz⟩ := I.tuple hq
  refine assign_Tuple_tuple (I.ok.hd hc) ht (by simp [hn, ← hl, rv.length]) hst fun h' hx => ?_
  have I1 : Inv X pins σ H { s with heap := h' } := I.kept (t' := s.toks) fun b o e => hx b o (Nat.ne_of_lt (Heap.lt_size e)) e
  exact h pins _ σ H xs _ Q I1 (by simpa using rv) hw
def gSub (to ti : TE) (t : TSet) : TG := fun v σ H Q => to σ H fun o H1 => ti σ H1 fun i H2 => t o i v H2 fun H3 => Q σ H3
theorem pg_sub {o i : Expr} {to ti : TE} {t : TSet} (ho : PE X o to) (hi : PE X i ti) (hs : PSet X t)
    (ha : ∀ v, assign (.Subscript o i pos) X.env v = (do
      let ov ← holding [v] (eval o X.env)
      let iv ← holding [v, ov] (eval i X.env)
      standAt pos
      holding [v, ov, iv] (setItem ov iv v)
      release [v, ov, iv] []) := by intro _; rfl) : PG X (.Subscript o i pos) (gSub to ti t) := by
  intro pins s σ H v u Q I r h
  rw [ha]
  refine wpAny_bind (wpAny_holding (thn (ho pins s σ H _ I h) fun ov s1 ⟨x, H1, I1, r1, q1⟩ => ?_))
  refine wpAny_bind (wpAny_holding (thn (hi pins s1 σ H1 _ I1 q1) fun iv s2 ⟨y, H2, I2, r2, q2⟩ => ?_))
  refine wpAny_bind (wpAny_standAt (wpAny_bind (wpAny_holding (thn (hs pins s2 σ H2 x y v ov iv u _ I2 r1 r2 r q2) fun _ s3 ⟨H3, I3, q3⟩ => ?_))))
  exact wpAny_release ⟨σ, H3, I3, q3⟩
def tAsg (te : TE) (g : TG) : TS := fun D σ H => te σ H fun x H1 => g x σ H1 D.nx
theorem ps_asg {tg e : Expr} {te : TE} {g : TG} (he : PE X e te) (hg : PG X tg g) (hs : swapsWithSole [tg] e pos.line X.env = pure false := by rfl) (hw : swappedStores [tg] e X.env = pure none := by rfl)
    (h1 : (assignEach [tg] X.env).map (·.2) = [assign tg X.env] := by rfl) : PS X (.Assign [tg] e pos) (tAsg te g) := by
  intro pins s σ H D I h
  refine wpAny_Assign_stores (thn (he pins s σ H _ I h) fun v s1 ⟨x, H1, I1, r1, q1⟩ => ?_) hs hw
  rw [h1]
  exact thn (hg pins s1 σ H1 x v _ I1 r1 q1) fun _ s2 q => q
theorem ps_set {i : Nat} {x : Str} {e : Expr} {te : TE} {pos' : Pos} (hN : X.N.Nodup) (hi : X.N[i]? = some x) (hx : Loc X.env.scope x) (he : PE X e te) (hs : swapsWith e (some (.Name x pos')) pos.line X.env = pure false := by rfl) (hf : X.fn x = true ∨ X.env.scope.names.lookup x = some .local := by first | exact .inl rfl | exact .inr rfl | assumption) :
    PS X (.Assign [.Name x pos'] e pos) (tAsg te (gName i)) := by
  intro pins s σ H D I h
  refine wpAny_Assign_Name (thn (he pins s σ H _ I h) fun v s1 ⟨y, H1, I1, r1, q1⟩ => ?_) hs
  exact store_ok I1 hN hi hx r1 (fun s2 I2 => ⟨_, H1, I2, q1⟩) hf
def tAugS (to ti te : TE) (tget : V → V → Hp → VK → Prop) (tip : TIp) (tset : TSet) : TS := fun D σ H => to σ H fun o H1 => ti σ H1 fun i H2 => tget o i H2 fun x H3 => te σ H3 fun y H4 => tip x y H4 fun z H5 => tset o i z H5 fun H6 => D.nx σ H6
def PGet (X : Cx) (t : V → V → Hp → VK → Prop) : Prop :=
  ∀ (pins : List (Addr × Obj)) (s : Shared) (σ : St) (H : Hp) (o i : V) (ov iv : Value) (Q : VK), Inv X pins σ H s → RelV o ov → RelV i iv → t o i H Q →
    wpAny (model X.prog X.w) X.A (getItem ov iv) (EP X pins σ Q) X.xe s
theorem ps_augS {o i e : Expr} {to ti te : TE} {tget : V → V → Hp → VK → Prop} {tip : TIp} {tset : TSet} {op : Operator} {tpos : Pos} (ho : PE X o to) (hi : PE X i ti) (hg : PGet X tget) (he : PE X e te) (hp : PIp X op tip) (hs : PSet X tset)
    (ha : ∀ ov iv new, augStore i ov iv new = (do holding [new, ov, iv] (setItem ov iv new); release [new, ov, iv] []; pure .next) := by intros; rfl) : PS X (.AugAssign (.Subscript o i tpos) op e pos) (tAugS to ti te tget tip tset) := by
  intro pins s σ H D I h
  refine wpAny_AugAssign_SubscriptAny (thn (ho pins s σ H _ I h) fun ov s1 ⟨x1, H1, I1, r1, q1⟩ => ?_) ha
  refine thn (hi pins s1 σ H1 _ I1 q1) fun iv s2 ⟨x2, H2, I2, r2, q2⟩ => ?_
  refine thn (hg pins s2 σ H2 x1 x2 ov iv _ I2 r1 r2 q2) fun old s3 ⟨x3, H3, I3, r3, q3⟩ => ?_
  refine thn (he pins s3 σ H3 _ I3 q3) fun v s4 ⟨x4, H4, I4, r4, q4⟩ => ?_
  refine thn (hp pins s4 σ H4 x3 x4 old v _ I4 r3 r4 q4) fun new s5 ⟨x5, H5, I5, r5, q5⟩ => ?_
  exact thn (hs pins s5 σ H5 x1 x2 x5 ov iv new _ I5 r1 r2 r5 q5) fun _ s6 ⟨H6, I6, q6⟩ => ⟨σ, H6, I6, q6⟩
def ipI (f : Int → Int → Int) : TIp := fun x y H Q => ∃ i j, x = .int i ∧ y = .int j ∧ Q (.int (f i j)) H
theorem ip_add : PIp X .Add (ipI fun i j => i + j) := by
  intro pins s σ H x y v u Q I r1 r2 h
  obtain ⟨i, j, e1, e2, q⟩ := h
  subst e1; subst e2
  obtain ⟨t, rfl⟩ := r1
  obtain ⟨t', rfl⟩ := r2
  exact iadd_int ⟨.int _, H, I.tok _, ⟨_, rfl⟩, q⟩
end
section
variable {X : Cx} {pos : Pos}
def tWhile (c : TT) (tb : TS) : TS := fun D σ H => ∃ W : Nat → St → Hp → Prop, (∃ m, W m σ H) ∧ ∀ m σ H, W m σ H →
  c σ H fun b H1 => if b = true then ∃ N : St → Hp → Prop, (∀ σ' H', N σ' H' → ∃ m', m' < m ∧ W m' σ' H') ∧ tb { D with nx := N, ct := N, bk := D.nx } σ H1 else D.nx σ H1
theorem ps_while {c : Expr} {body : List Stmt} {tc : TT} {tb : TS} (hp : PassesOwn (model X.prog X.w) X.A X.env X.xe) (hc : PT X c tc) (hb : PSs X body tb) : PS X (.While c body [] pos) (tWhile tc tb) := by
  intro pins s σ H D I h
  obtain ⟨W, ⟨m0, w0⟩, turn⟩ := h
  refine wpAny_While (codeAny_whileLoop (fun n s' => ∃ σ' H', Inv X pins σ' H' s' ∧ W n σ' H') ?_ m0 ⟨σ, H, I, w0⟩)
  rintro n s1 ⟨σ1, H1, I1, w1⟩
  refine wpAny_passesOwn hp (thn (hc pins s1 σ1 H1 _ I1 (turn n σ1 H1 w1)) fun b s2 ⟨H2, I2, q2⟩ => ?_)
  cases b with
  | true =>
    obtain ⟨N, hN, q2⟩ := q2
    rw [if_pos rfl]
    refine wpAny_passesOwn hp (thn (hb pins s2 σ1 H2 _ I2 q2) fun f s3 q3 => ?_)
    cases f with
    | next =>
      obtain ⟨σ3, H3, I3, n3⟩ := q3
      obtain ⟨m', hm, w3⟩ := hN σ3 H3 n3
      exact ⟨m', hm, σ3, H3, I3, w3⟩
    | cont =>
      obtain ⟨σ3, H3, I3, n3⟩ := q3
      obtain ⟨m', hm, w3⟩ := hN σ3 H3 n3
      exact ⟨m', hm, σ3, H3, I3, w3⟩
    | brk => exact q3
    | ret v => exact q3
  | false =>
    rw [if_neg Bool.false_ne_true]
    exact wpAny_execs_nil ⟨σ1, H2, I2, q2⟩
end
structure It where
  go : Nat → Hp → Prop
  yld : Nat → Hp → V → Hp → Prop
  stop : Nat → Hp → Prop
def FpOk (X : Cx) (pins : List (Addr × Obj)) (H : Hp) (b : Addr) : Prop :=
  H b = none ∧ b ≠ X.env.locals ∧ b ∉ X.fs ∧ (b ∈ X.ex ∨ X.s₀.heap.objs.size ≤ b) ∧ (∀ x c, X.env.cells.lookup x = some c → c ≠ b) ∧ ∀ p ∈ X.pn ++ pins, p.1 ≠ b
theorem Inv.fpOk {X : Cx} {pins : List (Addr × Obj)} {σ : St} {H H' : Hp} {s : Shared} {b : Addr} (I : Inv X pins σ H s) (hb : s.heap.objs.size ≤ b) (hn : H' b = none) : FpOk X pins H' b := by
  refine ⟨hn, Nat.ne_of_gt (Nat.lt_of_lt_of_le I.lt hb), I.nofs hb, .inr (Nat.le_trans I.sz hb), fun x c e z => ?_, fun p hp z => ?_⟩
  · obtain ⟨v, q⟩ := I.cell x c e
    exact absurd (Nat.lt_of_lt_of_le q.lt (by rw [z]; exact hb)) (Nat.lt_irrefl _)
  · exact absurd (Nat.lt_of_lt_of_le (Heap.lt_size (I.pin p hp).1) (by rw [z]; exact hb)) (Nat.lt_irrefl _)
structure Turn (P : Program) (w : World) (K : PySem.W.Frag) (tg : Expr) (J : It) (fp : List Addr) (it : Addr) (tn : Nat → Heap → Prop) : Prop where
  mem : it ∈ fp
  obj : ∀ i h, tn i h → ∀ b ∈ fp, ∃ o, h.get? b = some o ∧ ∀ v, o.data ≠ .cell v
  keep : ∀ i h h', tn i h → (∀ b ∈ fp, ∀ o, h.get? b = some o → h'.get? b = some o) → tn i h'
  item : ∀ (X : Cx), X.prog = P → X.w = w → X.K = K → X.calm = true → ∀ (i : Nat) (pins : List (Addr × Obj)) (s : Shared) (σ : St) (H : Hp) (E : Value → Shared → Prop), Inv X pins σ H s → (∀ b ∈ fp, FpOk X pins H b) → tn i s.heap → J.go i H →
    wpAny (model P w) X.A (pyNext (.ref it)) (fun r s1 => ∃ u, r = some u ∧
      wpAny (model P w) X.A (letOwnedTupleGo tg (.ref it) u) (fun _ s2 => ∃ x H', Inv X pins σ H' s2 ∧ RelV x u ∧ J.yld i H x H' ∧ tn (i + 1) s2.heap ∧ ∀ b ∈ fp, H' b = none) E s1) E s
  done : ∀ (X : Cx), X.prog = P → X.w = w → X.K = K → X.calm = true → ∀ (i : Nat) (pins : List (Addr × Obj)) (s : Shared) (σ : St) (H : Hp) (E : Value → Shared → Prop), Inv X pins σ H s → (∀ b ∈ fp, FpOk X pins H b) → tn i s.heap → J.stop i H →
    wpAny (model P w) X.A (pyNext (.ref it)) (fun r s1 => r = none ∧ Inv X pins σ H s1) E s
  self : ∀ (A : Around) (i : Nat) (s : Shared) (Q : Value → Shared → Prop) (E : Value → Shared → Prop), tn i s.heap → Q (.ref it) s → wpAny (model P w) A (pyIter (.ref it)) Q E s
abbrev TI := St → Hp → (It → Hp → Prop) → Prop
def PIE (X : Cx) (pins : List (Addr × Obj)) (σ : St) (tg : Expr) (R : It → Hp → Prop) (itv : Value) (s2 : Shared) : Prop :=
  ∃ (it : Addr) (fp : List Addr) (tn : Nat → Heap → Prop) (J : It) (H' : Hp), itv = .ref it ∧ Inv X pins σ H' s2 ∧ Turn X.prog X.w X.K tg J fp it tn ∧ tn 0 s2.heap ∧ (∀ b ∈ fp, FpOk X pins H' b) ∧ R J H'
def PI (X : Cx) (tg iter : Expr) (wi : TI) : Prop :=
  ∀ (pins : List (Addr × Obj)) (s : Shared) (σ : St) (H : Hp) (R : It → Hp → Prop), Inv X pins σ H s → wi σ H R →
    wpAny (model X.prog X.w) X.A (eval iter X.env) (fun v s1 => wpAny (model X.prog X.w) X.A (pyIter v) (PIE X pins σ tg R) X.xe s1) X.xe s
theorem go_of {M : Model} {A : Around} {E : Value → Shared → Prop} {s : Shared} {tg : Expr} {it : Addr} {u : Value} {o : Obj} {n : String} {vs : Array Value} {Q : Unit → Shared → Prop} (ho : s.heap.get? it = some o) (hc : o.cls = .type n) (hd : o.data = .fields vs)
    (hn : ["enumerate", "zip", "dict_itemiterator", "dict_reverseitemiterator", "odict_iterator", "itertools.zip_longest", "itertools.pairwise"].contains n = false) (hQ : Q () s) : wpAny M A (letOwnedTupleGo tg (.ref it) u) Q E s := by
  unfold letOwnedTupleGo
  cases tg <;> first
    | exact wpAny_pure hQ
    | (cases u <;> first
        | exact wpAny_pure hQ
        | (refine wpAny_bind (wpAny_load ho ?_)
           rw [hc, hd]
           show wpAny M A (if (["enumerate", "zip", "dict_itemiterator", "dict_reverseitemiterator", "odict_iterator", "itertools.zip_longest", "itertools.pairwise"].contains n && vs[0]? == some (rawInt _)) = true then _ else _) Q E s
           rw [if_neg (by intro h; rw [hn, Bool.false_and] at h; cases h)]
           exact wpAny_pure hQ))
def Itl (K : PySem.W.Frag) (a : Addr) : It :=
  ⟨fun i H => ∃ xs x, SqL K H a xs ∧ xs[i]? = some x, fun i H x H' => H' = H ∧ ∀ xs, SqL K H a xs → xs[i]? = some x, fun i H => ∃ xs, SqL K H a xs ∧ xs.length ≤ i⟩
def Itr (lo : Int) (n : Nat) : It := ⟨fun i _ => i < n, fun i H x H' => H' = H ∧ x = .int (lo + i), fun i _ => n ≤ i⟩
theorem turn_list {P : Program} {w : World} {K : PySem.W.Frag} {tg : Expr} (a it : Addr) : Turn P w K tg (Itl K a) [it] it (fun i h => h.IsListIter it a i) where
  mem := by simp
  obj := fun i h st b hb => by
    have e : b = it := by simpa using hb
    subst e
    obtain ⟨o, e, c, d⟩ := st
    exact ⟨o, e, fun v z => by rw [d] at z; cases z⟩
  keep := fun i h h' st k => st.at fun o e => k it (by simp) o e
  item := by
    intro X hP hw hK hc i pins s σ H E I hf st hg
    subst hP hw hK
    obtain ⟨xs, x, hq, hx⟩ := hg
    obtain ⟨its, rv, p, hz⟩ := I.list hq
    obtain ⟨u, hu, ru⟩ := rv.get hx
    obtain ⟨f0, f1, f2, f3, f4, f5⟩ := hf it (by simp)
    refine wpAny_pyNext_list_item st p.isList (x := u) (by simpa using hu) fun h' st' sb => ?_
    have I1 : Inv X pins σ H { s with heap := h' } := I.turned (t' := s.toks) (fun b o hb e => (sb.2 b hb).trans e) f0 f1 f3 f4 f5
    obtain ⟨o, e, c, d⟩ := id st'
    exact ⟨u, rfl, go_of (s := { s with heap := h' }) e c d (by decide) ⟨x, H, I1, ru, ⟨rfl, fun ys hy => by rw [I.list_inj hy hq]; exact hx⟩, st', fun b hb => (hf b hb).1⟩⟩
  done := by
    intro X hP hw hK hc i pins s σ H E I hf st hg
    subst hP hw hK
    obtain ⟨xs, hq, hx⟩ := hg
    obtain ⟨its, rv, p, hz⟩ := I.list hq
    obtain ⟨f0, f1, f2, f3, f4, f5⟩ := hf it (by simp)
    have hl := rv.length
    exact wpAny_pyNext_list_end (I.ok.hd hc) st p.isList (by simp; omega) fun h' eb => ⟨rfl, I.turned (t' := s.toks) (fun b o hb e => eb b o hb e) f0 f1 f3 f4 f5⟩
  self := fun _ _ _ _ _ st h => wpAny_pyIter_listiter st h
theorem turn_range {P : Program} {w : World} {K : PySem.W.Frag} {tg : Expr} (it : Addr) (lo : Int) (n : Nat) : Turn P w K tg (Itr lo n) [it] it (fun i h => IsRangeIter h it (lo + (i : Nat) * 1) ((n : Int) - (i : Nat)) 1) where
  mem := by simp
  obj := fun i h st b hb => by
    have e : b = it := by simpa using hb
    subst e
    exact ⟨_, st, fun v z => by
      have z' : Data.fields _ = Data.cell v := z
      cases z'⟩
  keep := fun i h h' st k => k it (by simp) _ st
  item := by
    intro X hP hw hK hc i pins s σ H E I hf st hg
    subst hP hw hK
    obtain ⟨f0, f1, f2, f3, f4, f5⟩ := hf it (by simp)
    have W := Walks.range (prog := X.prog) (w := X.w) (I.ok.hd hc) it lo 1 n
    refine W.item i s _ _ hg st fun v h' tk hv st' kk => ?_
    obtain ⟨t, rfl⟩ := hv
    have I1 : Inv X pins σ H { s with heap := h', toks := tk } := I.turned (fun b o hb e => kk b o (by simpa using hb) e) f0 f1 f3 f4 f5
    refine ⟨_, rfl, go_of (s := { s with heap := h', toks := tk }) (n := "range_iterator") st' rfl rfl (by decide) ⟨.int (lo + i), H, I1, ⟨t, ?_⟩, ⟨rfl, rfl⟩, st', fun b hb => (hf b hb).1⟩⟩
    rw [Int.mul_one]
  done := by
    intro X hP hw hK hc i pins s σ H E I hf st hg
    subst hP hw hK
    obtain ⟨f0, f1, f2, f3, f4, f5⟩ := hf it (by simp)
    exact wpAny_pyNext_range_end (I.ok.hd hc) st (by have : n ≤ i := hg; omega) fun h' eb => ⟨rfl, I.turned (t' := s.toks) (fun b o hb e => eb b o hb e) f0 f1 f3 f4 f5⟩
  self := fun _ _ _ _ _ st h => wpAny_pyIter_rangeiter st h
end L2
namespace L2
open PySem PySem.Spec PyProof.Rows
section
variable {X : Cx} {tg : Expr}
def iList (K : PySem.W.Frag) (tl : TE) : TI := fun σ H R => tl σ H fun x H1 => ∃ a, x = .ref a ∧ (∃ xs, SqL K H1 a xs) ∧ R (Itl K a) H1
theorem pi_list {l : Expr} {tl : TE} (hl : PE X l tl) : PI X tg l (iList X.K tl) := by
  intro pins s σ H R I h
  refine thn (hl pins s σ H _ I h) fun v s1 ⟨x, H1, I1, r1, q1⟩ => ?_
  obtain ⟨a, e, ⟨xs, hq⟩, q⟩ := q1
  subst e
  cases r1
  obtain ⟨its, rv, p, hz⟩ := I1.list hq
  refine wpAny_pyIter_list p.isList ?_
  refine ⟨s1.heap.objs.size, [s1.heap.objs.size], _, _, H1, rfl, I1.kept (t' := s1.toks) fun b o e => Heap.get?_push_of_some _ e, turn_list a _, ⟨_, Heap.get?_push_size _ rfl, rfl, rfl⟩, fun b hb => ?_, q⟩
  have e : b = s1.heap.objs.size := by simpa using hb
  subst e
  exact I1.fpOk (Nat.le_refl _) (I1.hok.fresh (Nat.le_refl _))
theorem range_it {pins : List (Addr × Obj)} {σ : St} {H : Hp} {s : Shared} {R : It → Hp → Prop} {E : Value → Shared → Prop} {lo hi : Int} {t u v : Tok} {tk : Nat} (I : Inv X pins σ H s) (h1 : -(2 ^ 62) ≤ lo) (h2 : lo < 2 ^ 62) (h3 : -(2 ^ 62) ≤ hi) (h4 : hi < 2 ^ 62)
    (q : R (Itr lo (hi - lo).toNat) H) : wpAny (model X.prog X.w) X.A (pyIter (.ref s.heap.objs.size)) (PIE X pins σ tg R) E { s with heap := s.heap.push { cls := .type "range", data := .fields #[.int lo t, .int hi u, .int 1 v] }, toks := tk } := by
  refine wpAny_pyIter_range (IsRange.new ..) (small_one h1 h2 h3 h4) ?_
  have I1 : Inv X pins σ H { s with heap := s.heap.push { cls := .type "range", data := .fields #[.int lo t, .int hi u, .int 1 v] }, toks := tk } := I.kept fun b o e => Heap.get?_push_of_some _ e
  refine ⟨(s.heap.push { cls := .type "range", data := .fields #[.int lo t, .int hi u, .int 1 v] }).objs.size, [(s.heap.push { cls := .type "range", data := .fields #[.int lo t, .int hi u, .int 1 v] }).objs.size], _, _, H, rfl,
    I1.kept (t' := tk) fun b o e => Heap.get?_push_of_some _ e, turn_range _ lo (hi - lo).toNat, ?_, fun b hb => ?_, q⟩
  · have e1 : lo + ((0 : Nat) : Int) * 1 = lo := by simp
    have e2 : (((hi - lo).toNat : Nat) : Int) - ((0 : Nat) : Int) = Builtin.Range.rangeSize lo hi 1 := by rw [rangeSize_one]; split <;> omega
    show IsRangeIter _ _ (lo + ((0 : Nat) : Int) * 1) ((((hi - lo).toNat : Nat) : Int) - ((0 : Nat) : Int)) 1
    rw [e1, e2]
    exact Heap.get?_push_size _ rfl
  · have e : b = (s.heap.push { cls := .type "range", data := .fields #[.int lo t, .int hi u, .int 1 v] }).objs.size := by simpa using hb
    subst e
    exact I1.fpOk (Nat.le_refl _) (I1.hok.fresh (Nat.le_refl _))
def iRng1 (ta : TA) : TI := fun σ H R => ta σ H fun vs H1 => ∃ j : Int, vs = [.int j] ∧ -(2 ^ 62) ≤ j ∧ j < 2 ^ 62 ∧ R (Itr 0 j.toNat) H1
def iRng2 (ta : TA) : TI := fun σ H R => ta σ H fun vs H1 => ∃ i j : Int, vs = [.int i, .int j] ∧ (-(2 ^ 62) ≤ i ∧ i < 2 ^ 62 ∧ -(2 ^ 62) ≤ j ∧ j < 2 ^ 62) ∧ R (Itr i (j - i).toNat) H1
theorem pi_range1 {a : Expr} {ta : TA} {p pos : Pos} (hg : Gl X "range") (hm : X.mg "range" = none) (ha : PA X [a] ta) (hs : starEach [a] X.env = [(false, eval a X.env)] := by rfl) : PI X tg (.Call (.Name "range" p) [a] [] pos) (iRng1 ta) := by
  intro pins s σ H R I h
  refine Call_ (ld_blt I hg hm boot_range (PyProof.Rows.callWith_type1 (thn (ha pos pins s σ H _ I h) fun us s1 ⟨vs, H1, I1, r1, q1⟩ => ?_) hs rfl))
  obtain ⟨j, e, q1, q2, q⟩ := q1
  subst e
  cases r1 with
  | cons r rr =>
    cases rr
    obtain ⟨t, rfl⟩ := r
    exact call_range_1 (range_it I1 (by omega) (by omega) q1 q2 (by simpa using q))
theorem pi_range2 {a b : Expr} {ta : TA} {p pos : Pos} (hg : Gl X "range") (hm : X.mg "range" = none) (ha : PA X [a, b] ta) (hs : starEach [a, b] X.env = [(false, eval a X.env), (false, eval b X.env)] := by rfl) (hs2 : starEach [b] X.env = [(false, eval b X.env)] := by rfl) :
    PI X tg (.Call (.Name "range" p) [a, b] [] pos) (iRng2 ta) := by
  intro pins s σ H R I h
  refine Call_ (ld_blt I hg hm boot_range (PyProof.Rows.callWith_type1 (thn (ha pos pins s σ H _ I h) fun us s1 ⟨vs, H1, I1, r1, q1⟩ => ?_) (by rw [hs, hs2]) (by rw [hs2]; rfl)))
  obtain ⟨i, j, e, ⟨q1, q2, q3, q4⟩, q⟩ := q1
  subst e
  cases r1 with
  | cons r rr =>
    cases rr with
    | cons r' rr =>
      cases rr
      obtain ⟨t, rfl⟩ := r
      obtain ⟨t', rfl⟩ := r'
      exact call_range_2 (range_it I1 q1 q2 q3 q4 q)
def tFor (wi : TI) (g : TG) (tb : TS) : TS := fun D σ H => wi σ H fun J H1 => ∃ W : Nat → Nat → St → Hp → Prop, (∃ m, W 0 m σ H1) ∧ ∀ i m σ H, W i m σ H →
  (J.stop i H ∧ D.nx σ H) ∨ (J.go i H ∧ ∃ N : St → Hp → Prop, (∀ σ' H', N σ' H' → ∃ m', m' < m ∧ W (i + 1) m' σ' H') ∧ ∀ x H', J.yld i H x H' → g x σ H' fun σ2 H2 => tb { D with nx := N, ct := N, bk := D.nx } σ2 H2)
def pinsAt (fp : List Addr) (h : Heap) : List (Addr × Obj) := fp.filterMap fun b => (h.get? b).map fun o => (b, o)
theorem mem_pinsAt {fp : List Addr} {h : Heap} {b : Addr} {o : Obj} (hb : b ∈ fp) (e : h.get? b = some o) : (b, o) ∈ pinsAt fp h := List.mem_filterMap.mpr ⟨b, hb, by rw [e]; rfl⟩
theorem of_pinsAt {fp : List Addr} {h : Heap} {p : Addr × Obj} (hp : p ∈ pinsAt fp h) : p.1 ∈ fp ∧ h.get? p.1 = some p.2 := by
  obtain ⟨b, hb, e⟩ := List.mem_filterMap.mp hp
  cases q : h.get? b with
  | none => rw [q] at e; cases e
  | some o =>
    rw [q] at e
    have e' : (b, o) = p := Option.some.inj e
    subst e'
    exact ⟨hb, q⟩
theorem Inv.pinned {pins : List (Addr × Obj)} {σ : St} {H : Hp} {s : Shared} {fp : List Addr} (I : Inv X pins σ H s) (hf : ∀ b ∈ fp, FpOk X pins H b) (ho : ∀ b ∈ fp, ∃ o, s.heap.get? b = some o ∧ ∀ v, o.data ≠ .cell v) : Inv X (pins ++ pinsAt fp s.heap) σ H s :=
  I.pins_of fun p hp => (List.mem_append.mp hp).elim (fun z => I.pin p (List.mem_append_right _ z)) fun z => by
    obtain ⟨hb, e⟩ := of_pinsAt z
    obtain ⟨f0, f1, f2, _⟩ := hf p.1 hb
    obtain ⟨o, e', d⟩ := ho p.1 hb
    rw [e] at e'; cases e'
    exact ⟨e, f0, f1, f2, d⟩
theorem Inv.unpinned {pins pl : List (Addr × Obj)} {σ : St} {H : Hp} {s : Shared} (I : Inv X (pins ++ pl) σ H s) : Inv X pins σ H s := I.pins_of fun p hp => I.pin p (List.mem_append_right _ (List.mem_append_left _ hp))
theorem ps_for {iter : Expr} {body : List Stmt} {wi : TI} {g : TG} {tb : TS} {pos : Pos} (hp : PassesOwn (model X.prog X.w) X.A X.env X.xe) (hc : X.calm = true) (hi : PI X tg iter wi) (hg : PG X tg g) (hb : PSs X body tb)
    (hs : ∀ x, foldedSetIterable iter X.env x = pure x := by intro _; rfl) : PS X (.For tg iter body [] pos) (tFor wi g tb) := by
  intro pins s σ H D I h
  refine wpAny_For (thn (hi pins s σ H _ I h) fun v s1 h1 => thn h1 fun itv s2 h2 => ?_) hs
  obtain ⟨it, fp, tn, J, H2, e, I2, T, st2, f2, W, ⟨m0, w0⟩, turn⟩ := h2
  subst e
  have stat : ∀ {H' : Hp}, (∀ b ∈ fp, H' b = none) → ∀ b ∈ fp, FpOk X pins H' b := fun hn b hb => ⟨hn b hb, (f2 b hb).2⟩
  refine codeAny_forLoop_any (fun n s' => ∃ i σ' H', Inv X pins σ' H' s' ∧ tn i s'.heap ∧ (∀ b ∈ fp, H' b = none) ∧ W i n σ' H') ?_ m0 ⟨0, σ, H2, I2, st2, fun b hb => (f2 b hb).1, w0⟩
  rintro n s3 ⟨i, σ3, H3, I3, st3, fr3, w3⟩
  rcases turn i n σ3 H3 w3 with ⟨stop, qn⟩ | ⟨go, N, hN, step⟩
  · refine wpAny_passesOwn hp (thn (T.done X rfl rfl rfl hc i pins s3 σ3 H3 X.xe I3 (stat fr3) st3 stop) fun r s4 ⟨hr, I4⟩ => ?_)
    subst hr
    exact wpAny_execs_nil ⟨σ3, H3, I4, qn⟩
  · refine wpAny_passesOwn hp (thn (T.item X rfl rfl rfl hc i pins s3 σ3 H3 X.xe I3 (stat fr3) st3 go) fun r s4 ⟨u, hr, h4⟩ => ?_)
    subst hr
    refine wpAny_passesOwn hp (thn h4 fun _ s5 ⟨x, H5, I5, r5, y5, st5, fr5⟩ => ?_)
    have I5' := I5.pinned (stat fr5) (T.obj _ _ st5)
    refine wpAny_passesOwn hp (thn (hg _ s5 σ3 H5 x u _ I5' r5 (step x H5 y5)) fun _ s6 ⟨σ6, H6, I6, q6⟩ => ?_)
    refine wpAny_passesOwn hp (thn (hb _ s6 σ6 H6 _ I6 q6) fun f s7 q7 => ?_)
    have again : ∀ {σ7 : St} {H7 : Hp}, Inv X (pins ++ pinsAt fp s5.heap) σ7 H7 s7 → N σ7 H7 → ∃ m, m < n ∧ ∃ i σ' H', Inv X pins σ' H' s7 ∧ tn i s7.heap ∧ (∀ b ∈ fp, H' b = none) ∧ W i m σ' H' := fun {σ7 H7} I7 n7 => by
      obtain ⟨m', hm, w7⟩ := hN σ7 H7 n7
      refine ⟨m', hm, i + 1, σ7, H7, I7.unpinned, T.keep _ _ _ st5 fun b hb o e => (I7.pin (b, o) (List.mem_append_right _ (List.mem_append_right _ (mem_pinsAt hb e)))).1, fun b hb => ?_, w7⟩
      obtain ⟨o, e, d⟩ := T.obj _ _ st5 b hb
      exact (I7.pin (b, o) (List.mem_append_right _ (List.mem_append_right _ (mem_pinsAt hb e)))).2.1
    cases f with
    | next => obtain ⟨σ7, H7, I7, n7⟩ := q7; exact again I7 n7
    | cont => obtain ⟨σ7, H7, I7, n7⟩ := q7; exact again I7 n7
    | brk => obtain ⟨σ7, H7, I7, q7⟩ := q7; exact ⟨σ7, H7, I7.unpinned, q7⟩
    | ret v => obtain ⟨x7, σ7, H7, I7, r7, q7⟩ := q7; exact ⟨x7, σ7, H7, I7.unpinned, r7, q7⟩
end
theorem for_list {K : PySem.W.Frag} {a : Addr} {xs : List V} {g : TG} {tb : TS} {D : Ends} {σ : St} {H : Hp} (Pv : Nat → St → Hp → Prop) (h0 : Pv 0 σ H) (hl : ∀ i σ H, i ≤ xs.length → Pv i σ H → SqL K H a xs)
    (hs : ∀ i x σ H, xs[i]? = some x → Pv i σ H → g x σ H fun σ2 H2 => tb { D with nx := Pv (i + 1), ct := Pv (i + 1), bk := D.nx } σ2 H2) (hd : ∀ σ H, Pv xs.length σ H → D.nx σ H) :
    ∃ W : Nat → Nat → St → Hp → Prop, (∃ m, W 0 m σ H) ∧ ∀ i m σ H, W i m σ H →
      ((Itl K a).stop i H ∧ D.nx σ H) ∨ ((Itl K a).go i H ∧ ∃ N : St → Hp → Prop, (∀ σ' H', N σ' H' → ∃ m', m' < m ∧ W (i + 1) m' σ' H') ∧ ∀ x H', (Itl K a).yld i H x H' → g x σ H' fun σ2 H2 => tb { D with nx := N, ct := N, bk := D.nx } σ2 H2) := by
  refine ⟨fun i m σ H => m = xs.length - i ∧ i ≤ xs.length ∧ Pv i σ H, ⟨xs.length, by simp, Nat.zero_le _, h0⟩, ?_⟩
  rintro i m σ H ⟨rfl, hi, p⟩
  have q := hl i σ H hi p
  by_cases hlt : i < xs.length
  · refine .inr ⟨⟨xs, xs[i], q, by simp [hlt]⟩, Pv (i + 1), fun σ' H' p' => ⟨xs.length - (i + 1), by omega, rfl, hlt, p'⟩, fun x H' y => ?_⟩
    obtain ⟨e, y⟩ := y
    subst e
    exact hs i x σ _ (y xs q) p
  · have e : i = xs.length := by omega
    subst e
    exact .inl ⟨⟨xs, q, Nat.le_refl _⟩, hd σ H p⟩
theorem for_range {lo : Int} {n : Nat} {g : TG} {tb : TS} {D : Ends} {σ : St} {H : Hp} (Pv : Nat → St → Hp → Prop) (h0 : Pv 0 σ H)
    (hs : ∀ i σ H, i < n → Pv i σ H → g (.int (lo + i)) σ H fun σ2 H2 => tb { D with nx := Pv (i + 1), ct := Pv (i + 1), bk := D.nx } σ2 H2) (hd : ∀ σ H, Pv n σ H → D.nx σ H) :
    ∃ W : Nat → Nat → St → Hp → Prop, (∃ m, W 0 m σ H) ∧ ∀ i m σ H, W i m σ H →
      ((Itr lo n).stop i H ∧ D.nx σ H) ∨ ((Itr lo n).go i H ∧ ∃ N : St → Hp → Prop, (∀ σ' H', N σ' H' → ∃ m', m' < m ∧ W (i + 1) m' σ' H') ∧ ∀ x H', (Itr lo n).yld i H x H' → g x σ H' fun σ2 H2 => tb { D with nx := N, ct := N, bk := D.nx } σ2 H2) := by
  refine ⟨fun i m σ H => m = n - i ∧ i ≤ n ∧ Pv i σ H, ⟨n, by simp, Nat.zero_le _, h0⟩, ?_⟩
  rintro i m σ H ⟨rfl, hi, p⟩
  by_cases hlt : i < n
  · refine .inr ⟨hlt, Pv (i + 1), fun σ' H' p' => ⟨n - (i + 1), by omega, rfl, hlt, p'⟩, fun x H' y => ?_⟩
    obtain ⟨e, y⟩ := y
    subst e y
    exact hs i σ _ hlt p
  · have e : i = n := by omega
    subst e
    exact .inl ⟨Nat.le_refl _, hd σ H p⟩
end L2
namespace L2
open PySem PySem.Spec PyProof.Rows
abbrev R2 := V → V → Hp → VK → Prop
def OpR (X : Cx) (f : Value → Value → Sem Value) (r : R2) : Prop :=
  ∀ (pins : List (Addr × Obj)) (s : Shared) (σ : St) (H : Hp) (x y : V) (v u : Value) (Q : VK), Inv X pins σ H s → RelV x v → RelV y u → r x y H Q →
    wpAny (model X.prog X.w) X.A (f v u) (EP X pins σ Q) X.xe s
def UnR (X : Cx) (f : Value → Sem Value) (r : V → Hp → VK → Prop) : Prop :=
  ∀ (pins : List (Addr × Obj)) (s : Shared) (σ : St) (H : Hp) (x : V) (v : Value) (Q : VK), Inv X pins σ H s → RelV x v → r x H Q →
    wpAny (model X.prog X.w) X.A (f v) (EP X pins σ Q) X.xe s
def CallR (X : Cx) (f : Value) (r : List V → Hp → VK → Prop) : Prop :=
  ∀ (pins : List (Addr × Obj)) (s : Shared) (σ : St) (H : Hp) (xs : List V) (us : List Value) (Q : VK), Inv X pins σ H s → Vals xs us → r xs H Q →
    wpAny (model X.prog X.w) X.A (call f us) (EP X pins σ Q) X.xe s
def TruR (X : Cx) (r : V → Hp → (Bool → Hp → Prop) → Prop) : Prop :=
  ∀ (pins : List (Addr × Obj)) (s : Shared) (σ : St) (H : Hp) (x : V) (v : Value) (Q : Bool → Hp → Prop), Inv X pins σ H s → RelV x v → r x H Q →
    wpAny (model X.prog X.w) X.A (truthy v) (TP X pins σ Q) X.xe s
def tOp (r : R2) (ta tb : TE) : TE := fun σ H Q => ta σ H fun x H1 => tb σ H1 fun y H2 => r x y H2 Q
def tUn (r : V → Hp → VK → Prop) (ta : TE) : TE := fun σ H Q => ta σ H fun x H1 => r x H1 Q
def rI (C : Int → Int → Prop) (g : Int → Int → V) : R2 := fun x y H Q => ∃ i j, x = .int i ∧ y = .int j ∧ C i j ∧ Q (g i j) H
def rI0 (g : Int → Int → V) : R2 := fun x y H Q => ∃ i j, x = .int i ∧ y = .int j ∧ Q (g i j) H
def rU (g : Int → V) : V → Hp → VK → Prop := fun x H Q => ∃ i, x = .int i ∧ Q (g i) H
section
variable {X : Cx} {a b c : Expr} {ta tb tc : TE} {pos : Pos}
theorem binT (ha : PE X a ta) (hb : PE X b tb) {pins : List (Addr × Obj)} {s : Shared} {σ : St} {H : Hp} {R : V → V → Hp → Prop} (I : Inv X pins σ H s)
    (h : ta σ H fun x H1 => tb σ H1 fun y H2 => R x y H2) {Q : Value → Shared → Prop} {f : Value → Value → Sem Value}
    (hf : ∀ v u s2 x y H2, Inv X pins σ H2 s2 → RelV x v → RelV y u → R x y H2 → wpAny (model X.prog X.w) X.A (f v u) Q X.xe s2) :
    wpAny (model X.prog X.w) X.A (eval a X.env) (fun v s₁ => wpAny (model X.prog X.w) X.A (eval b X.env) (fun u s₂ => wpAny (model X.prog X.w) X.A (f v u) Q X.xe s₂) X.xe s₁) X.xe s := by
  refine thn (ha pins s σ H _ I h) fun v s1 ⟨x, H1, I1, r1, q1⟩ => ?_
  refine thn (hb pins s1 σ H1 _ I1 q1) fun u s2 ⟨y, H2, I2, r2, q2⟩ => ?_
  exact hf v u s2 x y H2 I2 r1 r2 q2
theorem pe_op {op : Operator} {r : R2} (ho : OpR X (binaryOp op) r) (ha : PE X a ta) (hb : PE X b tb) : PE X (.BinOp a op b pos) (tOp r ta tb) := by
  intro pins s σ H Q I h
  exact wpAny_BinOp (binT ha hb I h fun v u s2 x y H2 I2 rx ry q => ho pins s2 σ H2 x y v u Q I2 rx ry q)
theorem pe_un {op : UnaryOp} {r : V → Hp → VK → Prop} (ho : UnR X (unaryOp op) r) (ha : PE X a ta) : PE X (.UnaryOp op a pos) (tUn r ta) := by
  intro pins s σ H Q I h
  exact UnaryOp_ (thn (ha pins s σ H _ I h) fun v s1 ⟨x, H1, I1, r1, q1⟩ => ho pins s1 σ H1 x v Q I1 r1 q1)
theorem opI {f : Value → Value → Sem Value} {C : Int → Int → Prop} {g : Int → Int → Int}
    (rule : ∀ (i j : Int) (t u : Tok) (s : Shared) (Q : Value → Shared → Prop) (E : Value → Shared → Prop), C i j → Q (.int (g i j) s.toks) { s with toks := s.toks + 1 } → wpAny (model X.prog X.w) X.A (f (.int i t) (.int j u)) Q E s) :
    OpR X f (rI C fun i j => .int (g i j)) := by
  intro pins s σ H x y v u Q I rx ry h
  obtain ⟨i, j, rfl, rfl, hc, q⟩ := h
  obtain ⟨t, rfl⟩ := rx
  obtain ⟨t', rfl⟩ := ry
  exact rule i j t t' s _ _ hc ⟨.int (g i j), H, I.tok _, ⟨_, rfl⟩, q⟩
theorem opI0 {f : Value → Value → Sem Value} {g : Int → Int → Int}
    (rule : ∀ (i j : Int) (t u : Tok) (s : Shared) (Q : Value → Shared → Prop) (E : Value → Shared → Prop), Q (.int (g i j) s.toks) { s with toks := s.toks + 1 } → wpAny (model X.prog X.w) X.A (f (.int i t) (.int j u)) Q E s) :
    OpR X f (rI0 fun i j => .int (g i j)) := by
  intro pins s σ H x y v u Q I rx ry h
  obtain ⟨i, j, rfl, rfl, q⟩ := h
  obtain ⟨t, rfl⟩ := rx
  obtain ⟨t', rfl⟩ := ry
  exact rule i j t t' s _ _ ⟨.int (g i j), H, I.tok _, ⟨_, rfl⟩, q⟩
theorem opB0 {f : Value → Value → Sem Value} {g : Int → Int → Bool}
    (rule : ∀ (i j : Int) (t u : Tok) (s : Shared) (Q : Value → Shared → Prop) (E : Value → Shared → Prop), Q (.bool (g i j)) s → wpAny (model X.prog X.w) X.A (f (.int i t) (.int j u)) Q E s) :
    OpR X f (rI0 fun i j => .bl (g i j)) := by
  intro pins s σ H x y v u Q I rx ry h
  obtain ⟨i, j, rfl, rfl, q⟩ := h
  obtain ⟨t, rfl⟩ := rx
  obtain ⟨t', rfl⟩ := ry
  exact rule i j t t' s _ _ ⟨.bl (g i j), H, I, rfl, q⟩
def CDiv (i j : Int) : Prop := 0 < j ∧ j < 1073741824
def CPow (i j : Int) : Prop := 0 ≤ j ∧ j ≤ 1000000 ∧ i.natAbs < 2 ^ 64
def CMul (i j : Int) : Prop := (-(2 ^ 64) < i ∧ i < 2 ^ 64) ∨ (-(2 ^ 64) < j ∧ j < 2 ^ 64)
theorem CMul.ok {i j : Int} (h : CMul i j) : IntMulOk i j := by
  rcases h with ⟨h1, h2⟩ | ⟨h1, h2⟩
  · exact .of_left (intBits_le_64 h1 h2)
  · exact .of_right (intBits_le_64 h1 h2)
theorem op_add : OpR X (binaryOp .Add) (rI0 fun i j => .int (i + j)) := opI0 fun _ _ _ _ _ _ _ q => add_int q
theorem op_sub : OpR X (binaryOp .Sub) (rI0 fun i j => .int (i - j)) := opI0 fun _ _ _ _ _ _ _ q => sub_int q
theorem op_mul : OpR X (binaryOp .Mult) (rI CMul fun i j => .int (i * j)) := opI fun _ _ _ _ _ _ _ hc q => mul_int q hc.ok
theorem op_fdiv : OpR X (binaryOp .FloorDiv) (rI CDiv fun i j => .int (i / j)) := opI fun i j _ _ _ _ _ hc q => by
  have h1 : (0 : Int) < j := hc.1
  have h2 : j < 1073741824 := hc.2
  exact floordiv_int (by omega) (by rw [Int.fdiv_eq_ediv_of_nonneg i (by omega)]; exact q) (.inl (PyProof.noPylong_small (by omega)))
theorem op_mod : OpR X (binaryOp .Mod) (rI (fun _ j => 0 < j) fun i j => .int (i % j)) := opI fun i j _ _ _ _ _ hc q => by
  have h1 : (0 : Int) < j := hc
  exact mod_int' (by omega) (by rw [Int.fmod_eq_emod_of_nonneg i (by omega)]; exact q)
theorem op_pow : OpR X (binaryOp .Pow) (rI CPow fun i j => .int (i ^ j.toNat)) := opI fun _ _ _ _ _ _ _ hc q => pow_int_small hc.1 hc.2.1 hc.2.2 q
theorem unI {f : Value → Sem Value} {g : Int → Int}
    (rule : ∀ (i : Int) (t : Tok) (s : Shared) (Q : Value → Shared → Prop) (E : Value → Shared → Prop), Q (.int (g i) s.toks) { s with toks := s.toks + 1 } → wpAny (model X.prog X.w) X.A (f (.int i t)) Q E s) :
    UnR X f (rU fun i => .int (g i)) := by
  intro pins s σ H x v Q I rx h
  obtain ⟨i, rfl, q⟩ := h
  obtain ⟨t, rfl⟩ := rx
  exact rule i t s _ _ ⟨.int (g i), H, I.tok _, ⟨_, rfl⟩, q⟩
theorem un_neg : UnR X (unaryOp .USub) (rU fun i => .int (-i)) := unI fun _ _ _ _ _ q => neg_int q
end
def scal : V → V → Bool
  | .non, .non => true | .non, .int _ => true | .int _, .non => true | .non, .bl _ => true | .bl _, .non => true | .non, .str _ => true | .str _, .non => true
  | .int _, .int _ => true | .bl _, .bl _ => true | .str _, .str _ => true | .byt _, .byt _ => true
  | .int _, .str _ => true | .str _, .int _ => true | .bl _, .str _ => true | .str _, .bl _ => true
  | _, _ => false
def rEq : R2 := fun x y H Q => scal x y = true ∧ Q (.bl (decide (x = y))) H
def rNe : R2 := fun x y H Q => scal x y = true ∧ Q (.bl (!decide (x = y))) H
theorem dec_int {i j : Int} : decide (V.int i = V.int j) = (i == j) := by
  rw [Bool.eq_iff_iff]
  simp
theorem dec_bl {i j : Bool} : decide (V.bl i = V.bl j) = (i == j) := by
  rw [Bool.eq_iff_iff]
  simp
theorem dec_str {i j : Str} : decide (V.str i = V.str j) = (i == j) := by
  rw [Bool.eq_iff_iff]
  simp
theorem dec_byt {i j : Array UInt8} : decide (V.byt i = V.byt j) = (i.toList == j.toList) := by
  rw [Bool.eq_iff_iff]
  cases i
  cases j
  simp
section
variable {X : Cx} {a b c : Expr} {ta tb tc : TE} {pos : Pos}
theorem fin_bl {pins : List (Addr × Obj)} {σ : St} {H : Hp} {s : Shared} {Q : VK} {k k' : Bool} (I : Inv X pins σ H s) (q : Q (.bl k) H) (e : k = k') : EP X pins σ Q (.bool k') s := by
  subst e
  exact ⟨.bl k, H, I, rfl, q⟩
theorem op_eq : OpR X (compareOp .Eq) rEq := by
  intro pins s σ H x y v u Q I rx ry h
  obtain ⟨hs, q⟩ := h
  cases x with
  | non =>
    cases rx
    cases y with
    | non => cases ry; exact PySem.EqNone.eq_none_none (fin_bl I q (by simp))
    | bl j => cases ry; exact PySem.EqNone.eq_none_bool (fin_bl I q (by simp))
    | int j => obtain ⟨t', rfl⟩ := ry; exact PySem.EqNone.eq_none_int (fin_bl I q (by simp))
    | str j => obtain ⟨t', rfl⟩ := ry; exact PySem.EqNone.eq_none_str (fin_bl I q (by simp))
    | _ => exact absurd (show false = true from hs) Bool.false_ne_true
  | bl i =>
    cases rx
    cases y with
    | non => cases ry; exact PySem.EqNone.eq_bool_none (fin_bl I q (by simp))
    | bl j => cases ry; exact eq_bool (fin_bl I q dec_bl)
    | str j => obtain ⟨t', rfl⟩ := ry; exact PySem.EqMixed.eq_bool_str (fin_bl I q (by simp))
    | _ => exact absurd (show false = true from hs) Bool.false_ne_true
  | int i =>
    obtain ⟨t, rfl⟩ := rx
    cases y with
    | non => cases ry; exact PySem.EqNone.eq_int_none (fin_bl I q (by simp))
    | int j => obtain ⟨t', rfl⟩ := ry; exact eq_int (fin_bl I q dec_int)
    | str j => obtain ⟨t', rfl⟩ := ry; exact PySem.EqMixed.eq_int_str (fin_bl I q (by simp))
    | _ => exact absurd (show false = true from hs) Bool.false_ne_true
  | str i =>
    obtain ⟨t, rfl⟩ := rx
    cases y with
    | non => cases ry; exact PySem.EqNone.eq_str_none (fin_bl I q (by simp))
    | bl j => cases ry; exact PySem.EqMixed.eq_str_bool (fin_bl I q (by simp))
    | int j => obtain ⟨t', rfl⟩ := ry; exact PySem.EqMixed.eq_str_int (fin_bl I q (by simp))
    | str j => obtain ⟨t', rfl⟩ := ry; exact eq_str (fin_bl I q dec_str)
    | _ => exact absurd (show false = true from hs) Bool.false_ne_true
  | byt i =>
    obtain ⟨t, rfl⟩ := rx
    cases y with
    | byt j => obtain ⟨t', rfl⟩ := ry; exact PySem.W.eq_bytes (fin_bl I q dec_byt)
    | _ => exact absurd (show false = true from hs) Bool.false_ne_true
  | _ => cases y <;> exact absurd (show false = true from hs) Bool.false_ne_true
theorem op_ne : OpR X (compareOp .NotEq) rNe := by
  intro pins s σ H x y v u Q I rx ry h
  obtain ⟨hs, q⟩ := h
  cases x with
  | non =>
    cases rx
    cases y with
    | non => cases ry; exact PySem.EqNone.ne_none_none (fin_bl I q (by simp))
    | bl j => cases ry; exact PySem.EqNone.ne_none_bool (fin_bl I q (by simp))
    | int j => obtain ⟨t', rfl⟩ := ry; exact PySem.EqNone.ne_none_int (fin_bl I q (by simp))
    | str j => obtain ⟨t', rfl⟩ := ry; exact PySem.EqNone.ne_none_str (fin_bl I q (by simp))
    | _ => exact absurd (show false = true from hs) Bool.false_ne_true
  | bl i =>
    cases rx
    cases y with
    | non => cases ry; exact PySem.EqNone.ne_bool_none (fin_bl I q (by simp))
    | bl j => cases ry; exact ne_bool (fin_bl I q (congrArg not dec_bl))
    | str j => obtain ⟨t', rfl⟩ := ry; exact PySem.EqMixed.ne_bool_str (fin_bl I q (by simp))
    | _ => exact absurd (show false = true from hs) Bool.false_ne_true
  | int i =>
    obtain ⟨t, rfl⟩ := rx
    cases y with
    | non => cases ry; exact PySem.EqNone.ne_int_none (fin_bl I q (by simp))
    | int j => obtain ⟨t', rfl⟩ := ry; exact ne_int (fin_bl I q (congrArg not dec_int))
    | str j => obtain ⟨t', rfl⟩ := ry; exact PySem.EqMixed.ne_int_str (fin_bl I q (by simp))
    | _ => exact absurd (show false = true from hs) Bool.false_ne_true
  | str i =>
    obtain ⟨t, rfl⟩ := rx
    cases y with
    | non => cases ry; exact PySem.EqNone.ne_str_none (fin_bl I q (by simp))
    | bl j => cases ry; exact PySem.EqMixed.ne_str_bool (fin_bl I q (by simp))
    | int j => obtain ⟨t', rfl⟩ := ry; exact PySem.EqMixed.ne_str_int (fin_bl I q (by simp))
    | str j => obtain ⟨t', rfl⟩ := ry; exact ne_str (fin_bl I q (congrArg not dec_str))
    | _ => exact absurd (show false = true from hs) Bool.false_ne_true
  | byt i =>
    obtain ⟨t, rfl⟩ := rx
    cases y with
    | byt j => obtain ⟨t', rfl⟩ := ry; exact PySem.W.ne_bytes (fin_bl I q (congrArg not dec_byt))
    | _ => exact absurd (show false = true from hs) Bool.false_ne_true
  | _ => cases y <;> exact absurd (show false = true from hs) Bool.false_ne_true
theorem op_lt : OpR X (compareOp .Lt) (rI0 fun i j => .bl (decide (i < j))) := opB0 fun _ _ _ _ _ _ _ q => lt_int q
theorem op_le : OpR X (compareOp .LtE) (rI0 fun i j => .bl (decide (i ≤ j))) := opB0 fun _ _ _ _ _ _ _ q => le_int q
theorem op_gt : OpR X (compareOp .Gt) (rI0 fun i j => .bl (decide (j < i))) := opB0 fun _ _ _ _ _ _ _ q => gt_int q
theorem op_isN : OpR X (compareOp .Is) (fun x y H Q => y = .non ∧ Q (.bl (decide (x = .non))) H) := by
  intro pins s σ H x y v u Q I rx ry h
  obtain ⟨rfl, q⟩ := h
  cases ry
  refine is_none_gen (fin_bl I q ?_)
  cases x <;> first
    | (cases rx; rfl)
    | (obtain ⟨t, rfl⟩ := rx; rfl)
theorem op_notN : OpR X (compareOp .IsNot) (fun x y H Q => y = .non ∧ Q (.bl (!decide (x = .non))) H) := by
  intro pins s σ H x y v u Q I rx ry h
  obtain ⟨rfl, q⟩ := h
  cases ry
  refine isnot_none_gen (fin_bl I q ?_)
  cases x <;> first
    | (cases rx; rfl)
    | (obtain ⟨t, rfl⟩ := rx; rfl)
theorem nomark (b : Expr) {op : CmpOp} (h : op ≠ .In := by decide) (h2 : op ≠ .NotIn := by decide) : behindInMarks op b = false := by
  have e1 : (op == CmpOp.In) = false := by cases op <;> first | rfl | exact absurd rfl h
  have e2 : (op == CmpOp.NotIn) = false := by cases op <;> first | rfl | exact absurd rfl h2
  cases b <;> simp [behindInMarks, e1, e2]
theorem pe_cmpR {op : CmpOp} {r : R2} (ho : OpR X (compareOp op) r) (ha : PE X a ta) (hb : PE X b tb) (hm : behindInMarks op b = false) : PE X (.Compare a [op] [b] pos) (tOp r ta tb) := by
  intro pins s σ H Q I h
  exact wpAny_Compare1 (binT ha hb I h fun v u s2 x y H2 I2 rx ry q => ho pins s2 σ H2 x y v u Q I2 rx ry q) hm
def tTest (t : TE) : TT := fun σ H Q => t σ H fun x H' => ∃ k, x = .bl k ∧ Q k H'
theorem pt_cmpR {op : CmpOp} {r : R2} (ho : OpR X (compareOp op) r) (ha : PE X a ta) (hb : PE X b tb) (hm : behindInMarks op b = false) : PT X (.Compare a [op] [b] pos) (tTest (tOp r ta tb)) := by
  intro pins s σ H Q I h
  refine wpAny_isTrue_Compare1 (thn (ha pins s σ H _ I h) fun v s1 ⟨x, H1, I1, r1, q1⟩ => thn (hb pins s1 σ H1 _ I1 q1) fun u s2 ⟨y, H2, I2, r2, q2⟩ =>
    thn (ho pins s2 σ H2 x y v u _ I2 r1 r2 q2) fun c s3 ⟨z, H3, I3, r3, k, e, q3⟩ => ?_) hm
  subst e
  cases r3
  exact wpAny_truthy_bool ⟨H3, I3, q3⟩
def TruV (K : PySem.W.Frag) (x : V) (H : Hp) (k : Bool) : Prop :=
  match x with
  | .non => k = false
  | .bl b => k = b
  | .int i => k = (i != 0)
  | .str y => y.length ≤ sizeLine ∧ k = ((y.length : Int) != 0)
  | .byt y => y.size ≤ sizeLine ∧ k = ((y.size : Int) != 0)
  | .ref p => (∃ xs, SqL K H p xs ∧ k = !xs.isEmpty) ∨ (∃ xs, SqT K H p xs ∧ k = !xs.isEmpty) ∨ ∃ kvs, H p = some (.dK kvs) ∧ k = !kvs.isEmpty
  | _ => False
theorem isEmpty_kv {κ : Type} {kvs : List (κ × V)} {vs : List (κ × Value)} (r : KV kvs vs) : (!vs.isEmpty) = !kvs.isEmpty := by
  cases r <;> rfl
theorem isEmpty_of {xs : List V} {its : List Value} (r : Vals xs its) : (!its.toArray.isEmpty) = !xs.isEmpty := by
  cases r <;> simp
theorem line63 : (sizeLine : Nat) < 2 ^ 63 := by rw [sizeLine_eq]; decide
theorem tru_ok : TruR X (fun x H Q => ∃ k, TruV X.K x H k ∧ Q k H) := by
  intro pins s σ H x v Q I rx h
  obtain ⟨k, e, q⟩ := h
  have hl := line63
  have hs : sizeLine = 16777216 := sizeLine_eq
  cases x with
  | non =>
    cases rx
    have e' : k = false := e
    subst e'
    exact truthy_none ⟨H, I, q⟩
  | bl b =>
    cases rx
    have e' : k = b := e
    subst e'
    exact wpAny_truthy_bool ⟨H, I, q⟩
  | int i =>
    obtain ⟨t, rfl⟩ := rx
    have e' : k = (i != 0) := e
    subst e'
    exact PySem.P.truthy_int ⟨H, I, q⟩
  | str y =>
    obtain ⟨t, rfl⟩ := rx
    obtain ⟨hy, e'⟩ : y.length ≤ sizeLine ∧ k = ((y.length : Int) != 0) := e
    subst e'
    exact PySem.P.truthy_str (by omega) ⟨H, I.tok _, q⟩
  | byt y =>
    obtain ⟨t, rfl⟩ := rx
    obtain ⟨hy, e'⟩ : y.size ≤ sizeLine ∧ k = ((y.size : Int) != 0) := e
    subst e'
    exact PySem.W.truthy_bytes (by omega) ⟨H, I.tok _, q⟩
  | ref p =>
    cases rx
    have e' : (∃ xs, SqL X.K H p xs ∧ k = !xs.isEmpty) ∨ (∃ xs, SqT X.K H p xs ∧ k = !xs.isEmpty) ∨ ∃ kvs, H p = some (.dK kvs) ∧ k = !kvs.isEmpty := e
    rcases e' with ⟨xs, hx, e'⟩ | ⟨xs, hx, e'⟩ | ⟨kvs, hx, e'⟩
    · subst e'
      obtain ⟨its, r, pl, hz⟩ := I.list hx
      have hlen := r.length
      exact wpAny_truthy_list pl.isList (by simp only [List.size_toArray]; omega) ⟨H, I.tok _, by rw [isEmpty_of r]; exact q⟩
    · subst e'
      obtain ⟨its, r, pl, hz⟩ := I.tuple hx
      have hlen := r.length
      exact truthy_tuple pl (by simp only [List.size_toArray]; omega) ⟨H, I.tok _, by rw [isEmpty_of r]; exact q⟩
    · subst e'
      obtain ⟨hz, hS, vs, r, m⟩ : kvs.length ≤ sizeLine ∧ (p == sysModules) = false ∧ ∃ vs, KV kvs vs ∧ s.heap.DictOf (mixKind X.prog X.w) p vs := I.hok p _ hx
      have hlen : kvs.length = vs.length := Paired.length r
      exact wpAny_truthy_dict hS m (by omega) ⟨H, I.tok _, by rw [isEmpty_kv r]; exact q⟩
  | _ => exact (show False from e).elim
theorem pt_truth (ha : PE X a ta) (he : ∀ whole, isTrue a X.env whole = (do let v ← whole; standAt a.pos; holding [v] (truthy v))) :
    PT X a (fun σ H Q => ta σ H fun x H' => ∃ k, TruV X.K x H' k ∧ Q k H') := by
  intro pins s σ H Q I h
  exact isTrue_plain (thn (ha pins s σ H _ I h) fun v s1 ⟨x, H1, I1, r1, q1⟩ => tru_ok pins s1 σ H1 x v Q I1 r1 q1) (he _)
theorem vals1 {x : V} {us : List Value} (r : Vals [x] us) : ∃ u, us = [u] ∧ RelV x u := by
  cases r with
  | cons r1 r2 => cases r2; exact ⟨_, rfl, r1⟩
theorem vals2 {x y : V} {us : List Value} (r : Vals [x, y] us) : ∃ u w', us = [u, w'] ∧ RelV x u ∧ RelV y w' := by
  cases r with
  | cons r1 r2 =>
    cases r2 with
    | cons r3 r4 => cases r4; exact ⟨_, _, rfl, r1, r3⟩
theorem call_max2 (hc : X.calm = true) : CallR X (.builtin "max") (fun xs H Q => ∃ i j, xs = [.int i, .int j] ∧ Q (.int (if j > i then j else i)) H) := by
  intro pins s σ H xs us Q I r h
  obtain ⟨i, j, rfl, q⟩ := h
  obtain ⟨u, w', rfl, ⟨t, rfl⟩, ⟨t', rfl⟩⟩ := vals2 r
  refine max_two_ints (I.ok.hd hc) fun h' tk k => ⟨_, H, I.kept k, ?_, q⟩
  by_cases hj : j > i
  · rw [if_pos hj, if_pos hj]; exact ⟨_, rfl⟩
  · rw [if_neg hj, if_neg hj]; exact ⟨_, rfl⟩
theorem call_min2 (hc : X.calm = true) : CallR X (.builtin "min") (fun xs H Q => ∃ i j, xs = [.int i, .int j] ∧ Q (.int (if j < i then j else i)) H) := by
  intro pins s σ H xs us Q I r h
  obtain ⟨i, j, rfl, q⟩ := h
  obtain ⟨u, w', rfl, ⟨t, rfl⟩, ⟨t', rfl⟩⟩ := vals2 r
  refine min_two_ints (I.ok.hd hc) fun h' tk k => ⟨_, H, I.kept k, ?_, q⟩
  by_cases hj : j < i
  · rw [if_pos hj, if_pos hj]; exact ⟨_, rfl⟩
  · rw [if_neg hj, if_neg hj]; exact ⟨_, rfl⟩
theorem call_int1 : CallR X (.type "int") (fun xs H Q => (∃ i, xs = [.int i] ∧ Q (.int i) H) ∨ ∃ k, xs = [.bl k] ∧ Q (.int (if k then 1 else 0)) H) := by
  intro pins s σ H xs us Q I r h
  rcases h with ⟨i, rfl, q⟩ | ⟨k, rfl, q⟩
  · obtain ⟨u, rfl, t, rfl⟩ := vals1 r
    exact call_int_int ⟨.int i, H, I, ⟨_, rfl⟩, q⟩
  · obtain ⟨u, rfl, r1⟩ := vals1 r
    cases r1
    exact call_int_bool ⟨.int (if k then 1 else 0), H, I.tok _, ⟨_, rfl⟩, q⟩
end
end L2
namespace L2
open PySem PySem.Spec PyProof.Rows
section
variable {prog : Program} {w : World} {A : Around} {E : Value → Shared → Prop} {s : Shared} {K : PySem.W.Frag} {x dx C f : Addr} {mA : Str → Option Value} {name : Str} {v : Value}
end
section
variable {P : Program} {w : World} {H H' : Hp} {h h' : Heap} {a C dx : Addr} {fs fs' : List (Str × V)}
end
section
variable {X : Cx} {pins : List (Addr × Obj)} {σ : St} {H : Hp} {s : Shared} {a C dx : Addr} {fs : List (Str × V)} {f : Str} {v : V} {A : Around} {E : Value → Shared → Prop}
end
section
variable {X : Cx} {o e value : Expr} {f : Str} {pos pos' tpos : Pos} {ta tv : TE}
end
section
variable {X : Cx} {pins : List (Addr × Obj)} {σ : St} {H : Hp} {s : Shared} {A : Around} {E : Value → Shared → Prop} {Q : Value → Shared → Prop} {c : Value} {b : Bool}
end
end L2
namespace L2
open PySem PySem.Spec PyProof.Rows
structure Room (k : Nat) (A : Around) : Prop where
  hd : A.handled = none
  dp : A.depth + 3 * k + 5 < recursionLimit
  un : A.units + 16 * k + 200 < cLine
theorem Room.mono {j k : Nat} {A : Around} (r : Room k A) (h : j ≤ k) : Room j A := ⟨r.hd, by have := r.dp; omega, by have := r.un; omega⟩
theorem Room.deeper {k : Nat} {A : Around} (r : Room (k + 1) A) (env : Env) : Room k (A.deeper env) :=
  ⟨r.hd, by have := r.dp; show A.depth + 1 + 3 * k + 5 < _; omega, by have := r.un; show A.units + 3 + 16 * k + 200 < _; omega⟩
theorem Room.depth {k : Nat} {A : Around} (r : Room k A) : A.depth < recursionLimit := by have := r.dp; omega
theorem Room.units {k : Nat} {A : Around} (r : Room k A) : A.units + 64 < cLine := by have := r.un; omega
def tNil : TA := fun _ H Q => Q [] H
def tCons (ta : TE) (tr : TA) : TA := fun σ H Q => ta σ H fun x H1 => tr σ H1 fun xs H2 => Q (x :: xs) H2
section
variable {X : Cx} {e : Expr} {es : List Expr} {te : TE} {t : TA} {pos : Pos}
theorem pa_nil : PA X [] tNil := fun _ _ _ _ H Q I h => Calls.spliced_nil ⟨[], H, I, .nil, h⟩
theorem pa_cons (ha : PE X e te) (hr : PA X es t) (hs : starEach (e :: es) X.env = (false, eval e X.env) :: starEach es X.env := by rfl) : PA X (e :: es) (tCons te t) := by
  intro pos pins s σ H Q I h
  rw [hs]
  show wpAny _ _ (spliced ((false, eval e X.env) :: backTo pos (starEach es X.env))) _ _ s
  refine Calls.spliced_cons (thn (ha pins s σ H _ I h) fun u s1 ⟨x, H1, I1, r1, q1⟩ => ?_)
  exact thn (hr pos pins s1 σ H1 _ I1 q1) fun us s2 ⟨xs, H2, I2, r2, q2⟩ => ⟨x :: xs, H2, I2, .cons r1 r2, q2⟩
def tTup (t : TA) : TE := fun σ H Q => t σ H fun xs H1 => xs.length ≤ sizeLine ∧ ∀ p, H1 p = none → Q (.ref p) (upd H1 p (.tup xs))
def tLst (t : TA) : TE := fun σ H Q => t σ H fun xs H1 => xs.length ≤ sizeLine ∧ ∀ p, H1 p = none → Q (.ref p) (upd H1 p (.lst xs))
theorem pe_tup {x1} (h : PA X es t) : PE X (.Tuple es x1 pos) (tTup t) := by
  intro pins s σ H Q I hq
  refine wpAny_Tuple_spliced (thn (h pos pins s σ H _ I hq) fun us s1 ⟨xs, H1, I1, r, z, q⟩ => ⟨by rw [← r.length]; exact z, ?_⟩)
  have hf : H1 s1.heap.objs.size = none := I1.hok.fresh (Nat.le_refl _)
  refine ⟨.ref s1.heap.objs.size, upd H1 s1.heap.objs.size (.tup xs), I1.laid (t' := s1.toks) (fun b u e => Heap.get?_push_of_some _ e) (Nat.le_refl _) ?_, rfl, q _ hf⟩
  exact ⟨z, us, r, ⟨_, Heap.get?_push_size _ rfl, rfl, _, rfl⟩⟩
theorem pe_lst (h : PA X es t) : PE X (.List es pos) (tLst t) := by
  intro pins s σ H Q I hq
  refine wpAny_List_spliced (thn (h pos pins s σ H _ I hq) fun us s1 ⟨xs, H1, I1, r, z, q⟩ => ⟨by rw [← r.length]; exact z, ?_⟩)
  have hf : H1 s1.heap.objs.size = none := I1.hok.fresh (Nat.le_refl _)
  refine ⟨.ref s1.heap.objs.size, upd H1 s1.heap.objs.size (.lst xs), I1.laid (t' := s1.toks) (fun b u e => Heap.get?_push_of_some _ e) (Nat.le_refl _) ?_, rfl, q _ hf⟩
  exact ⟨z, us, 0, r, Heap.get?_push_size _ rfl⟩
end
abbrev Sp := List V → Hp → VK → XK → Prop
abbrev CXT := List Env → Hp → Shared → XK → Value → Shared → Prop
structure Env0 (P : Program) (w : World) (K : PySem.W.Frag) (mg : Str → Option Value) (base : Heap) (A : Around) (outer : List Env) (s : Shared) (H : Hp) : Prop where
  frames : A.frames = some outer
  mod : Mod K mg base
  bs : ∀ b o, base.get? b = some o → s.heap.get? b = some o ∧ H b = none
  bsz : base.objs.size ≤ s.heap.objs.size
  funs : s.heap.FunFrames base outer
  frf : ∀ b ∈ frs outer, H b = none
  hok : HOk P w H s.heap
  bare : AllBare s.gens
def CE (outer : List Env) (P : Program) (w : World) (H : Hp) (s : Shared) (Q : VK) (u : Value) (s' : Shared) : Prop :=
  ∃ v H', s'.os = s.os ∧ AllBare s'.gens ∧ Un (frs outer) [] H H' s.heap s'.heap ∧ HOk P w H' s'.heap ∧ RelV v u ∧ Q v H'
def CR (CX : CXT) (outer : List Env) (P : Program) (w : World) (H : Hp) (s : Shared) (Q : VK) (E : XK) (r : Result) (s' : Shared) : Prop :=
  match r with
  | .ok (.ret u) => CE outer P w H s Q u s'
  | .ok _ => False
  | .error e => CX outer H s E e s'
structure FnOk (P : Program) (w : World) (K : PySem.W.Frag) (mg : Str → Option Value) (base : Heap) (CX : CXT) (k : Nat) (f : Addr) (fd : FuncData) (ps : List Str) (sp : Sp) : Prop where
  len : ∀ vs H Q E, sp vs H Q E → vs.length = ps.length
  run : ∀ (A : Around) (outer : List Env) (s : Shared) (H : Hp) (args : Args) (us : List Value) (vs : List V) (Q : VK) (E : XK), Room k A → Env0 P w K mg base A outer s H → BindsTo s fd args (ps.zip us) → Vals vs us → sp vs H Q E →
    codeAny (model P w) A (.call (.ref f) args) (CR CX outer P w H s Q E) s
section
variable {X : Cx} {pins : List (Addr × Obj)} {σ : St} {H : Hp} {s s' : Shared}
theorem Inv.env0 (I : Inv X pins σ H s) : Env0 X.prog X.w X.K X.mg X.base X.A X.stack s H :=
  ⟨I.ok.frames, I.ok.mod, I.bs, Nat.le_trans I.ok.bsz I.sz, I.stack, I.stkFree, I.hok, I.bare⟩
theorem Inv.after {Q : VK} {u : Value} (I : Inv X pins σ H s) (h : CE X.stack X.prog X.w H s Q u s') : EP X pins σ Q u s' := by
  obtain ⟨v, H', os, bare, un, hok, r, q⟩ := h
  obtain ⟨hh, g, d, t, os'⟩ := s'
  obtain rfl : os' = s.os := os
  exact ⟨v, H', I.call (h' := hh) (g' := g) (d' := d) (t' := t) (ch := []) un hok bare (fun b z => absurd z (by simp)), r, q⟩
end
def tCall (sp : Sp) (dvs : List V) (E : XK) (t : TA) : TE := fun σ H Q => t σ H fun vs H1 => sp (vs ++ dvs) H1 Q E
def Binds (K : PySem.W.Frag) (fd : FuncData) (ps : List Str) (ds : List Value) : Prop :=
  ∀ (s : Shared) (us : List Value), K.In s.heap → (us ++ ds).length = ps.length → BindsTo s fd ⟨us, []⟩ (ps.zip (us ++ ds))
theorem Binds.all {K : PySem.W.Frag} {fd : FuncData} {ps : List Str} (h : ∀ us : List Value, us.length = ps.length → bindArgs fd ⟨us, []⟩ = pure (ps.zip us)) : Binds K fd ps [] := fun s us _ hl => by
  rw [List.append_nil] at hl ⊢
  exact .of_eq (h us hl)
def Passes (CX : CXT) (X : Cx) (E : XK) : Prop := ∀ (pins : List (Addr × Obj)) (σ : St) (H : Hp) (s : Shared) (e : Value) (s' : Shared), Inv X pins σ H s → CX X.stack H s E e s' → X.xe e s'
section
variable {X : Cx} {CX : CXT} {k : Nat} {f C : Addr} {fd : FuncData} {ps : List Str} {sp : Sp} {dvs : List V} {ds : List Value} {E : XK} {x m : Str} {p pos apos : Pos} {e o : Expr} {es : List Expr} {ta : TE} {t : TA}
theorem run_fn {pins : List (Addr × Obj)} {σ : St} {H : Hp} {s : Shared} {Q : VK} {us : List Value} {vs : List V} (F : FnOk X.prog X.w X.K X.mg X.base CX k f fd ps sp) (hr : Room k X.A) (hb : Binds X.K fd ps ds) (hd : Vals dvs ds) (hx : Passes CX X E)
    (I : Inv X pins σ H s) (r : Vals vs us) (h : sp (vs ++ dvs) H Q E) : wpAny (model X.prog X.w) X.A (call (.ref f) us) (EP X pins σ Q) X.xe s := by
  have r2 : Vals (vs ++ dvs) (us ++ ds) := r.append hd
  have hl : (us ++ ds).length = ps.length := by rw [← r2.length]; exact F.len _ _ _ _ h
  refine wpAny_call (codeAny_mono (F.run X.A X.stack s H ⟨us, []⟩ (us ++ ds) (vs ++ dvs) Q E hr I.env0 (hb s us I.kIn hl) r2 h) fun r s' hq => ?_)
  cases r with
  | error e => exact hx pins σ H s e s' I hq
  | ok fl =>
    cases fl with
    | ret u => exact I.after hq
    | next => exact False.elim hq
    | brk => exact False.elim hq
    | cont => exact False.elim hq
theorem pe_call (F : FnOk X.prog X.w X.K X.mg X.base CX k f fd ps sp) (hr : Room k X.A) (hg : Gl X x) (hm : X.mg x = some (.ref f)) (hk : PySem.W.keepIn X.K (.ref f) = true) (hb : Binds X.K fd ps ds) (hd : Vals dvs ds) (hx : Passes CX X E)
    (ha : PA X (e :: es) t) (hdb : (x == ("__debug__" : Str)) = false := by decide) (he : starEach (e :: es) X.env = (false, eval e X.env) :: starEach es X.env := by rfl) (hpl : (backTo pos (starEach es X.env)).any (·.1) = false := by rfl) :
    PE X (.Call (.Name x p) (e :: es) [] pos) (tCall sp dvs E t) := by
  intro pins s σ H Q I h
  refine wpAny_Call_Name_kw (ld_glob I hg hm ?_ hdb)
  refine PySem.W.callWith_K (h₀ := X.base) I.ok.mod.kin hk (thn (ha pos pins s σ H _ I h) fun us s1 ⟨vs, H1, I1, r, q⟩ => ⟨I1.kIn, ?_⟩) he hpl
  exact run_fn F hr hb hd hx I1 r q
end
section
variable {X : Cx} {CX : CXT} {k : Nat} {f C : Addr} {fd : FuncData} {ps ks : List Str} {sp : Sp} {E : XK} {x m : Str} {p pos apos kpos : Pos} {e o : Expr} {es : List Expr} {kws : List Keyword} {te ta : TE} {t tk : TA} {nm : Option Str}
variable {g : List Value → List Value → List Value} {gV : List V → List V → List V}
end
structure FnScope (N P : List Str) (sc : Scope) : Prop where
  kind : sc.kind = .function
  co : sc.isCoroutine = false
  gen : sc.isGenerator = false
  nd : N.Nodup
  pre : N.take P.length = P
  par : ∀ x ∈ P, sc.names.lookup x = some .local ∨ sc.names.lookup x = some .cell
  nofree : ∀ y ∈ sc.names, y.2 ≠ .free
theorem bindL_out {kindOf : Str → Option NameKind} {x : Str} : ∀ {binds : List (Str × Value)} {m : Str → Option Value}, (∀ v, (x, v) ∉ binds) → bindL kindOf binds m x = m x
  | [], _, _ => rfl
  | (n, v) :: r, m, h => by
    unfold bindL
    rw [bindL_out fun w hw => h w (List.mem_cons_of_mem _ hw)]
    split
    · have : x ≠ n := by rintro rfl; exact h v List.mem_cons_self
      simp [this]
    · rfl
theorem bindC_out {kindOf : Str → Option NameKind} {x : Str} : ∀ {binds : List (Str × Value)} {m : Str → Option Value}, (∀ v, (x, v) ∉ binds) → bindC kindOf binds m x = m x
  | [], _, _ => rfl
  | (n, v) :: r, m, h => by
    unfold bindC
    rw [bindC_out fun w hw => h w (List.mem_cons_of_mem _ hw)]
    split
    · rfl
    · have : x ≠ n := by rintro rfl; exact h v List.mem_cons_self
      simp [this]
theorem bindL_get {kindOf : Str → Option NameKind} {x : Str} {v : Value} : ∀ {P : List Str} {vs : List Value} {i : Nat} {m : Str → Option Value}, P.Nodup → P[i]? = some x → vs[i]? = some v → kindOf x = some .local →
    bindL kindOf (P.zip vs) m x = some v
  | [], _, _, _, _, h, _, _ => by simp at h
  | _ :: _, [], _, _, _, _, h, _ => by simp at h
  | p :: P, w :: vs, 0, m, nd, h1, h2, hk => by
    simp at h1 h2; subst h1; subst h2
    show bindL kindOf ((p, w) :: P.zip vs) m p = _
    unfold bindL
    rw [bindL_out fun v hv => (List.nodup_cons.mp nd).1 (List.of_mem_zip hv).1, if_pos hk]
    simp
  | p :: P, w :: vs, i + 1, m, nd, h1, h2, hk => by
    show bindL kindOf ((p, w) :: P.zip vs) m x = _
    unfold bindL
    exact bindL_get (i := i) (List.nodup_cons.mp nd).2 (by simpa using h1) (by simpa using h2) hk
theorem bindC_get {kindOf : Str → Option NameKind} {x : Str} {v : Value} : ∀ {P : List Str} {vs : List Value} {i : Nat} {m : Str → Option Value}, P.Nodup → P[i]? = some x → vs[i]? = some v → kindOf x ≠ some .local →
    bindC kindOf (P.zip vs) m x = some v
  | [], _, _, _, _, h, _, _ => by simp at h
  | _ :: _, [], _, _, _, _, h, _ => by simp at h
  | p :: P, w :: vs, 0, m, nd, h1, h2, hk => by
    simp at h1 h2; subst h1; subst h2
    show bindC kindOf ((p, w) :: P.zip vs) m p = _
    unfold bindC
    rw [bindC_out fun v hv => (List.nodup_cons.mp nd).1 (List.of_mem_zip hv).1, if_neg hk]
    simp
  | p :: P, w :: vs, i + 1, m, nd, h1, h2, hk => by
    show bindC kindOf ((p, w) :: P.zip vs) m x = _
    unfold bindC
    exact bindC_get (i := i) (List.nodup_cons.mp nd).2 (by simpa using h1) (by simpa using h2) hk
def start (N : List Str) (vs : List V) : St := vs.map some ++ List.replicate (N.length - vs.length) none
def cxOf (CX : CXT) (P : Program) (w : World) (K : PySem.W.Frag) (mg : Str → Option Value) (base : Heap) (N : List Str) (qual : Str) (scope : Scope) (f : Addr) (cd : Value) (A : Around) (outer : List Env) (s : Shared) (H : Hp) (E : XK) : Cx where
  prog := P
  w := w
  K := K
  mg := mg
  base := base
  A := A.deeper (envOfC qual scope s.heap.objs.size f cd)
  N := N
  s₀ := s
  H₀ := H
  env := envOfC qual scope s.heap.objs.size f cd
  outer := outer
  stack := envOfC qual scope s.heap.objs.size f cd :: outer
  ex := []
  calm := true
  fn := fun _ => true
  pn := []
  xe := fun e s' => wpAny (model P w) (A.deeper (envOfC qual scope s.heap.objs.size f cd)) (leaving (envOfC qual scope s.heap.objs.size f cd) e) (fun _ s'' => CX outer H s E e s'') (fun e' s'' => CX outer H s E e' s'') s'
theorem cell_has {sc : Scope} {n : Nat} {x : Str} (h : sc.names.lookup x = some .cell) : ∃ c, (cellsFrom n sc.names []).lookup x = some c := by
  have q := PySem.W.cellsFrom_some sc.names n [] (.inl h)
  exact Option.isSome_iff_exists.mp q
theorem inv_start {CX : CXT} {P : Program} {w : World} {K : PySem.W.Frag} {mg : Str → Option Value} {base : Heap} {N ps : List Str} {qual : Str} {scope : Scope} {f : Addr} {cd : Value} {A : Around} {outer : List Env} {s s1 : Shared} {H : Hp} {E : XK} {us : List Value} {vs : List V}
    (S : FnScope N ps scope) (hd : A.handled = none) (e0 : Env0 P w K mg base A outer s H) (hl : vs.length = ps.length) (r : Vals vs us)
    (x : InCallC s s.heap.objs.size (bindL (envOfC qual scope s.heap.objs.size f cd).kindOf (ps.zip us) fun _ => none) (cellsFrom (s.heap.objs.size + 1) scope.names []) (bindC (envOfC qual scope s.heap.objs.size f cd).kindOf (ps.zip us) fun _ => none) s1) :
    Inv (cxOf CX P w K mg base N qual scope f cd A outer s H E) [] (start N vs) H s1 := by
  have hpl : ps.length ≤ N.length := by have := congrArg List.length S.pre; rw [List.length_take] at this; omega
  obtain ⟨h1, tk, rfl, hk⟩ := x.done
  have noA : ∀ b : Addr, b ∉ (cxOf CX P w K mg base N qual scope f cd A outer s H E).ex := fun b z => absurd (show b ∈ ([] : List Addr) from z) (by simp)
  refine ⟨⟨e0.mod, S.kind, rfl, rfl, Nat.le_refl _, fun y z c h1 h2 => ?_, fun y hy => ?_, fun y c _ h => ?_, fun _ => hd, Around.frames_deeper e0.frames, .inr ⟨rfl, rfl⟩, fun b z => absurd z (noA b), e0.bs, e0.bsz, fun b _ _ => noA b, fun b z => absurd z (noA b), e0.funs, e0.frf⟩,
    rfl, e0.bare, Un.kept hk, ⟨_, x.toInCall.ns, fun i y v h1 h2 h3 => ?_⟩, fun y c h => ⟨_, x.cell y c h⟩, e0.hok.fresh (Nat.le_refl _), fun y c h => ?_, fun p hp => absurd (show p ∈ ([] : List (Addr × Obj)) from hp) (by simp), e0.hok.kept hk, ?_⟩
  · exact name_of_addr x.apart (PySem.mem_of_lookup h1) (PySem.mem_of_lookup h2)
  · have hy : scope.names.lookup y = some .cell ∨ scope.names.lookup y = some .free := hy
    rcases hy with hy | hy
    · exact cell_has hy
    · exact absurd rfl (S.nofree _ (PySem.mem_of_lookup hy))
  · exact Nat.le_of_lt (x.above y c (PySem.mem_of_lookup h))
  · have hi : i < vs.length := by
      unfold start at h2
      by_cases hi : i < vs.length
      · exact hi
      · rw [List.getElem?_append_right (by simpa using hi)] at h2
        rw [List.getElem?_replicate] at h2
        split at h2 <;> cases h2
    have ha : vs[i]? = some v := by
      unfold start at h2
      rw [List.getElem?_append_left (by simpa using hi), List.getElem?_map] at h2
      cases e : vs[i]? with
      | none => rw [e] at h2; cases h2
      | some a => rw [e] at h2; cases h2; rfl
    obtain ⟨u, hu, rv⟩ := r.get ha
    have hp : ps[i]? = some y := by
      rw [← S.pre, List.getElem?_take_of_lt (by omega)]; exact h1
    have ndP : ps.Nodup := by rw [← S.pre]; exact S.nd.sublist (List.take_sublist _ _)
    refine ⟨u, rv, ?_⟩
    rcases S.par y (List.mem_of_getElem? hp) with k | k
    · exact .inl ⟨k, bindL_get ndP hp hu k⟩
    · obtain ⟨c, e⟩ := cell_has (n := s.heap.objs.size + 1) k
      refine .inr ⟨.inl k, c, e, ?_⟩
      have q := x.cell y c e
      rw [bindC_get ndP hp hu (by show scope.names.lookup y ≠ _; rw [k]; decide)] at q
      exact q
  · exact e0.hok.fresh (Nat.le_of_lt (x.above y c (PySem.mem_of_lookup h)))
  · unfold start
    show _ = N.length
    rw [List.length_append, List.length_map, List.length_replicate]
    omega
theorem fn_of {CX : CXT} {P : Program} {w : World} {K : PySem.W.Frag} {mg : Str → Option Value} {base : Heap} {k : Nat} {f : Addr} {name qual : Str} {params : Arguments} {body : List Stmt} {scope : Scope} {dV kV doc pm cdv ct oc : Value} {an od : Option Addr}
    {osl : Array (Option Value)} {N ps : List Str} {sp : Sp} (lk : K.lookup f = some ⟨oc, od, .func (PySem.W.fnOf name qual params body scope dV kV doc pm an cdv ct), osl⟩) (hcd : PySem.W.codeIn K cdv qual = true) (S : FnScope N ps scope)
    (len : ∀ vs H Q E, sp vs H Q E → vs.length = ps.length)
    (hbody : ∀ (A : Around) (outer : List Env) (s : Shared) (H : Hp) (vs : List V) (Q : VK) (E : XK), Room k (A.deeper (envOfC qual scope s.heap.objs.size f cdv)) → sp vs H Q E →
      ∃ t, PSs (cxOf CX P w K mg base N qual scope f cdv A outer s H E) body t ∧ t { nx := fun _ H' => Q .non H', rt := Q } (start N vs) H) :
    FnOk P w K mg base CX (k + 1) f (PySem.W.fnOf name qual params body scope dV kV doc pm an cdv ct) ps sp := by
  refine ⟨len, fun A outer s H args us vs Q E hr e0 hb r hsp => ?_⟩
  have hl := len _ _ _ _ hsp
  have KX : K.In s.heap := e0.mod.kin.keeps fun b o e => (e0.bs b o e).1
  have lim : s.heap.NoLimit := e0.mod.nolimit.keeps fun b o e => (e0.bs b o e).1
  have hkind : ∀ y ∈ ps.zip us, scope.names.lookup y.1 = some .local ∨ (scope.names.lookup y.1 = some .cell ∧ ((cellsFrom (s.heap.objs.size + 1) scope.names []).lookup y.1).isSome = true) := fun ⟨n, v⟩ hy => by
    rcases S.par n (List.of_mem_zip hy).1 with q | q
    · exact .inl q
    · exact .inr ⟨q, PySem.W.cellsFrom_some _ _ _ (.inl q)⟩
  refine codeAny_call_function hr.depth (KX _ _ lk) rfl S.co S.gen rfl (PySem.W.codeRec_of KX hcd) (hb _ _ _ _ ?_)
  refine wpAny_newFunctionEnv_cells S.kind hkind fun env he s1 x => ?_
  subst he
  refine ⟨lim.keeps x.toInCall.keep, codeAny_func ?_⟩
  obtain ⟨t, ht, hq⟩ := hbody A outer s H vs Q E (hr.deeper _) hsp
  have I : Inv (cxOf CX P w K mg base N qual scope f cdv A outer s H E) [] (start N vs) H s1 := inv_start S hr.hd e0 hl r x
  refine wpAny_mono (ht [] s1 (start N vs) H _ I hq) (fun fl s' hs => ?_) fun e s' hs => hs
  have fin : ∀ {σ' : St} {H' : Hp} {v : V} {u : Value}, Inv (cxOf CX P w K mg base N qual scope f cdv A outer s H E) [] σ' H' s' → RelV v u → Q v H' → CE outer P w H s Q u s' :=
    fun {σ' H' v u} J rv q => ⟨v, H', J.os, J.bare, J.base, J.hok, rv, q⟩
  cases fl with
  | ret u =>
    obtain ⟨v, σ', H', J, rv, q⟩ := hs
    exact fin J rv q
  | next =>
    obtain ⟨σ', H', J, q⟩ := hs
    exact fin (v := V.non) (u := Value.none) J rfl q
  | brk =>
    obtain ⟨_, _, _, q⟩ := hs
    exact False.elim q
  | cont =>
    obtain ⟨_, _, _, q⟩ := hs
    exact False.elim q
end L2
namespace L2
open PySem PySem.Spec PyProof.Rows
section
variable {X : Cx} {x : Str} {p pos : Pos} {e : Expr} {es : List Expr} {t : TA} {id T : String} {r : List V → Hp → VK → Prop}
def tCB (r : List V → Hp → VK → Prop) (t : TA) : TE := fun σ H Q => t σ H fun vs H1 => r vs H1 Q
theorem pe_callB (hc : CallR X (.builtin id) r) (hg : Gl X x) (hm : X.mg x = none) (hv : bootBuiltins x = some (.builtin id)) (ha : PA X (e :: es) t) (hn : x ≠ "__name__" := by decide) (hdb : (x == ("__debug__" : Str)) = false := by decide)
    (he : starEach (e :: es) X.env = (false, eval e X.env) :: starEach es X.env := by rfl) (hpl : (backTo pos (starEach es X.env)).any (·.1) = false := by rfl) : PE X (.Call (.Name x p) (e :: es) [] pos) (tCB r t) := by
  intro pins s σ H Q I h
  refine wpAny_Call_Name_kw (ld_blt I hg hm hv ?_ hn hdb)
  exact PyProof.Rows.callWith_builtin1 (thn (ha pos pins s σ H _ I h) fun us s1 ⟨vs, H1, I1, r1, q1⟩ => hc pins s1 σ H1 vs us Q I1 r1 q1) he hpl
theorem pe_callTy (hc : CallR X (.type T) r) (hg : Gl X x) (hm : X.mg x = none) (hv : bootBuiltins x = some (.type T)) (ha : PA X (e :: es) t) (hn : x ≠ "__name__" := by decide) (hdb : (x == ("__debug__" : Str)) = false := by decide)
    (he : starEach (e :: es) X.env = (false, eval e X.env) :: starEach es X.env := by rfl) (hpl : (backTo pos (starEach es X.env)).any (·.1) = false := by rfl) : PE X (.Call (.Name x p) (e :: es) [] pos) (tCB r t) := by
  intro pins s σ H Q I h
  refine wpAny_Call_Name_kw (ld_blt I hg hm hv ?_ hn hdb)
  exact PyProof.Rows.callWith_type1 (thn (ha pos pins s σ H _ I h) fun us s1 ⟨vs, H1, I1, r1, q1⟩ => hc pins s1 σ H1 vs us Q I1 r1 q1) he hpl
end
end L2
namespace HT
open PySem PyProof.Rows
def lexLt : List Int → List Int → Bool
  | [], [] => false
  | [], _ :: _ => true
  | _ :: _, [] => false
  | x :: xs, y :: ys => if x = y then lexLt xs ys else decide (x < y)
theorem lexLt_cons (x y : Int) (xs ys : List Int) : lexLt (x :: xs) (y :: ys) = if x = y then lexLt xs ys else decide (x < y) := rfl
theorem lexLt_nil_nil : lexLt [] [] = false := rfl
theorem lexLt_nil_cons (y : Int) (ys : List Int) : lexLt [] (y :: ys) = true := rfl
theorem lexLt_cons_nil (x : Int) (xs : List Int) : lexLt (x :: xs) [] = false := rfl
theorem eqAt_int (A : Around) (s : Shared) (a : Int) (t : Tok) (c : Int) (u : Tok) : ∃ e, SeqAt.EqAt A s (.int a t) (.int c u) e ∧ (e = true ↔ a = c) :=
  ⟨(a == c), SeqAt.EqAt.int_int a t c u, by simp⟩
theorem rcLt_int (A : Around) (s : Shared) (a : Int) (t : Tok) (c : Int) (u : Tok) (prog : Program) (w : World) (E : Value → Shared → Prop) (Q : Value → Shared → Prop) (h : Q (.bool (decide (a < c))) s) :
    wpAny (model prog w) A (richCompare .Lt (.int a t) (.int c u)) Q E s :=
  (PyProof.Rows.lt_int h : wpAny (model prog w) A (compareOp .Lt (.int a t) (.int c u)) Q E s)
section
open PySem.SeqAt
open PySem.AutoSeq1 (wpAny_loadPart')
open PySem.MeetsSeq PySem.MeetsSeq2 PySem.MeetsSeq3
theorem tuple_lt_ints (l b : Addr) (items items2 : Array Value) (n n2 : Nat) (dd dd2 : Option Addr) (sl sl2 : Array (Option Value)) (ns ms : List Int) (hi : IntsAre items.toList ns) (hj : IntsAre items2.toList ms) :
    Meets (Builtin.«tuple.__lt__» ⟨[.ref l, .ref b], []⟩)
      (fun _ R s => s.heap.get? l = some { cls := .type "tuple", dict := dd, data := .seq items n, slots := sl } ∧ s.heap.get? b = some { cls := .type "tuple", dict := dd2, data := .seq items2 n2, slots := sl2 } ∧
        R (.ok (.ret (.bool (lexLt ns ms)))) s) :=
  .of_wp fun prog w A R s h => by
    obtain ⟨hp, g, d, tk, os⟩ := s; obtain ⟨hl, hb, h⟩ := h
    have f2 := AutoSeq1.sub_tuple_tuple
    have z1 : items.size = ns.length := by rw [← hi.length]; simp
    have z2 : items2.size = ms.length := by rw [← hj.length]; simp
    wp_walk using wpAny_loadPart' hl, wpAny_loadPart' hb, wpAny_forIn_list _ (fun rest b s' => b.1 = none ∧ s' = ⟨hp, g, d, tk, os⟩ ∧ ∃ (vs ws : List Value) (ns' ms' : List Int), rest = vs.zip ws ∧
      IntsAre vs ns' ∧ IntsAre ws ms' ∧ ns'.length + items2.size = ms'.length + items.size ∧ R (.ok (.ret (.bool (lexLt ns' ms')))) ⟨hp, g, d, tk, os⟩) _
    case turn =>
      rintro ⟨y, x⟩ rest b s' ⟨hb', rfl, vs, ws, ns', ms', hz, hvi, hwi, hlen, hR⟩
      cases hvi with
      | nil => rw [List.zip_nil_left] at hz; cases hz
      | cons a t hvi' =>
        cases hwi with
        | nil => rw [List.zip_nil_right] at hz; cases hz
        | cons c u hwi' =>
          rw [List.zip_cons_cons] at hz
          injection hz with hyx hrest
          injection hyx with hy hx
          subst hy hx
          rw [lexLt_cons] at hR
          simp only [List.length_cons] at hlen
          obtain ⟨e, he, hiff⟩ := eqAt_int A.in1 ⟨hp, g, d, tk, os⟩ a t c u
          refine wpAny_bind (he prog w _ _ ?_)
          cases e with
          | true =>
            rw [if_pos (hiff.mp rfl)] at hR
            wp_walk
            exact ⟨rfl, rfl, _, _, _, _, hrest, hvi', hwi', by omega, hR⟩
          | false =>
            rw [if_neg (fun q => absurd (hiff.mpr q) Bool.false_ne_true)] at hR
            have hri := rcLt_int A.in1 ⟨hp, g, d, tk, os⟩ a t c u prog w
            wp_walk using hri
            exact ⟨_, rfl, by simpa using hR⟩
    case fin =>
      rintro ⟨b1, b2⟩ s' ⟨hb', rfl, vs, ws, ns', ms', hz, hvi, hwi, hlen, hR⟩
      simp only at hb'
      subst hb'
      have hv : lexLt ns' ms' = decide (items.size < items2.size) := by
        cases hvi with
        | nil =>
          cases hwi with
          | nil =>
            simp only [List.length_nil] at hlen
            rw [lexLt_nil_nil]
            exact (decide_eq_false (by omega)).symm
          | cons c u hw =>
            simp only [List.length_nil, List.length_cons] at hlen
            rw [lexLt_nil_cons]
            exact (decide_eq_true (by omega)).symm
        | cons a t hv =>
          cases hwi with
          | nil =>
            simp only [List.length_nil, List.length_cons] at hlen
            rw [lexLt_cons_nil]
            exact (decide_eq_false (by omega)).symm
          | cons c u hw =>
            rw [List.zip_cons_cons] at hz
            cases hz
      rw [hv] at hR
      wp_walk
      exact ⟨_, rfl, by simpa [Builtin.Tuple.tupleCompareSizes] using hR⟩
    case h =>
      exact ⟨rfl, rfl, items.toList, items2.toList, ns, ms, rfl, hi, hj, by omega, h⟩
end
section
variable {prog : Program} {w : World} {A : Around} {E : Value → Shared → Prop} {s : Shared}
theorem lt_tupInts {l b : Addr} {items items2 : Array Value} {ns ms : List Int} {Q : Value → Shared → Prop} (hl : IsTup s.heap l items) (hb : IsTup s.heap b items2) (hi : IntsAre items.toList ns) (hj : IntsAre items2.toList ms)
    (hu : A.units < cLine) (h : Q (.bool (lexLt ns ms)) s) : wpAny (model prog w) A (compareOp .Lt (.ref l) (.ref b)) Q E s := by
  obtain ⟨⟨cls, dd, data, sl⟩, ho, hc, n, hd⟩ := id hl
  obtain ⟨⟨cls2, dd2, data2, sl2⟩, ho2, hc2, n2, hd2⟩ := id hb
  simp only at hc hd hc2 hd2
  subst hc hd hc2 hd2
  exact richCompare_meets_room (op := .Lt) ⟨_, ho, rfl⟩ ⟨_, ho2, rfl⟩ PySem.F.slot_tuple_lt PySem.F.entry_tuple_lt (PySem.F.args_tuple_lt_2 _ _) (tuple_lt_ints l b items items2 n n2 dd dd2 sl sl2 ns ms hi hj)
    ⟨ho, ho2, show Value.bool (lexLt ns ms) ≠ Value.notImplemented ∧ Q (.bool (lexLt ns ms)) s from ⟨(fun x => nomatch x), h⟩⟩ hu
def sIx (n d : Nat) : Option Int → Nat
  | none => d
  | some v => if v < 0 then (v + (n : Int)).toNat else min v.toNat n
theorem sIx_none (n d : Nat) : sIx n d none = d := rfl
theorem sIx_nat (n d k : Nat) : sIx n d (some (k : Int)) = min k n := by
  show (if (k : Int) < 0 then ((k : Int) + (n : Int)).toNat else min (k : Int).toNat n) = min k n
  rw [if_neg (by omega), Int.toNat_natCast]
end
end HT
namespace L2
open PySem PySem.Spec PyProof.Rows
abbrev TO := St → Hp → (Option Int → Hp → Prop) → Prop
def PO (X : Cx) (e : Option Expr) (t : TO) : Prop :=
  ∀ (pins : List (Addr × Obj)) (s : Shared) (σ : St) (H : Hp) (Q : Option Int → Hp → Prop), Inv X pins σ H s → t σ H Q →
    wpAny (model X.prog X.w) X.A (evalPart e X.env) (fun u s' => ∃ o H', Inv X pins σ H' s' ∧ IsPart u o ∧ Q o H') X.xe s
def tNoPart : TO := fun _ H Q => Q none H
def tPart (t : TE) : TO := fun σ H Q => t σ H fun x H1 => ∃ i, x = .int i ∧ Q (some i) H1
theorem intsAre_of {ns : List Int} : ∀ {us : List Value}, Vals (ns.map V.int) us → IntsAre us ns := by
  induction ns with
  | nil => intro us r; rw [List.map_nil] at r; cases r; exact .nil
  | cons n ns ih =>
    intro us r
    rw [List.map_cons] at r
    cases r with
    | cons r1 r2 =>
      obtain ⟨t, e⟩ := r1
      subst e
      exact .cons n t (ih r2)
section
variable {X : Cx} {e : Expr} {te : TE} {lo hi : Option Expr} {tl th : TO} {pos p2 : Pos}
theorem po_none : PO X none tNoPart := by
  intro pins s σ H Q I h
  rw [evalPart_none]
  exact wpAny_pure ⟨none, H, I, .none, h⟩
theorem po_some (h : PE X e te) : PO X (some e) (tPart te) := by
  intro pins s σ H Q I hw
  rw [evalPart_some]
  refine thn (h pins s σ H _ I hw) fun u s1 ⟨x, H1, I1, r1, q1⟩ => ?_
  obtain ⟨i, rfl, q⟩ := q1
  obtain ⟨t, rfl⟩ := r1
  exact ⟨some i, H1, I1, .int i t, q⟩
def SlR (X : Cx) (r : V → Option Int → Option Int → Hp → VK → Prop) : Prop :=
  ∀ (pins : List (Addr × Obj)) (s : Shared) (σ : St) (H : Hp) (x : V) (v vl vu : Value) (lo hi : Option Int) (sl : Addr) (Q : VK), Inv X pins σ H s → RelV x v → s.heap.IsSliceOf sl vl vu .none → IsPart vl lo → IsPart vu hi → r x lo hi H Q →
    ∃ T id, typeLookup (.type T) "__getitem__" = pure (some (.builtin id)) ∧ s.TypeIs v T ∧ wpAny (model X.prog X.w) X.A (getItem v (.ref sl)) (EP X pins σ Q) X.xe s
def tSl (r : V → Option Int → Option Int → Hp → VK → Prop) (te : TE) (tl th : TO) : TE := fun σ H Q => te σ H fun x H1 => tl σ H1 fun l H2 => th σ H2 fun u H3 => r x l u H3 Q
theorem pe_slice {r : V → Option Int → Option Int → Hp → VK → Prop} (hr : SlR X r) (he : PE X e te) (hl : PO X lo tl) (hu : PO X hi th) : PE X (.Subscript e (.Slice lo hi none p2) pos) (tSl r te tl th) := by
  intro pins s σ H Q I h
  refine Subscript_ (thn (he pins s σ H _ I h) fun v s1 ⟨x, H1, I1, r1, q1⟩ => ?_)
  refine wpAny_Slice (thn (hl pins s1 σ H1 _ I1 q1) fun vl s2 ⟨l, H2, I2, pl, q2⟩ => thn (hu pins s2 σ H2 _ I2 q2) fun vu s3 ⟨u, H3, I3, pu, q3⟩ => ?_)
  rw [evalPart_none]
  refine wpAny_pure ?_
  have I4 : Inv X pins σ H3 { s3 with heap := s3.heap.push { cls := .type "slice", data := .fields #[vl, vu, .none] } } := I3.kept (t' := s3.toks) fun b ob q => Heap.get?_push_of_some _ q
  obtain ⟨T, id, hT, ht, hg⟩ := hr pins { s3 with heap := s3.heap.push { cls := .type "slice", data := .fields #[vl, vu, .none] } } σ H3 x v vl vu l u s3.heap.objs.size Q I4 r1 (Heap.IsSliceOf.new ..) pl pu q3
  show wpAny (model X.prog X.w) X.A (subscriptTail e (.Slice lo hi none p2) v (.ref s3.heap.objs.size)) (EP X pins σ Q) X.xe { s3 with heap := s3.heap.push { cls := .type "slice", data := .fields #[vl, vu, .none] } }
  exact tail_any (ops := [.ref s3.heap.objs.size, v]) ht hT hg (by with_unfolding_all rfl)
def cutV (xs : List V) (lo hi : Option Int) : List V := (xs.drop (HT.sIx xs.length 0 lo)).take (HT.sIx xs.length xs.length hi - HT.sIx xs.length 0 lo)
theorem cutV_length (xs : List V) (lo hi : Option Int) : (cutV xs lo hi).length ≤ xs.length := by
  unfold cutV
  rw [List.length_take, List.length_drop]
  omega
def rLtT (K : PySem.W.Frag) : R2 := fun x y H Q => ∃ a b ns ms, x = .ref a ∧ y = .ref b ∧ SqT K H a (ns.map V.int) ∧ SqT K H b (ms.map V.int) ∧ Q (.bl (HT.lexLt ns ms)) H
theorem op_ltT (hu : X.A.units < cLine) : OpR X (compareOp .Lt) (rLtT X.K) := by
  intro pins s σ H x y v u Q I rx ry h
  obtain ⟨a, b, ns, ms, rfl, rfl, ha, hb, q⟩ := h
  cases rx
  cases ry
  obtain ⟨its, r1, p1, _⟩ := I.tuple ha
  obtain ⟨its2, r2, p2, _⟩ := I.tuple hb
  have i1 : IntsAre its.toArray.toList ns := intsAre_of r1
  have i2 : IntsAre its2.toArray.toList ms := intsAre_of r2
  exact HT.lt_tupInts p1 p2 i1 i2 hu ⟨.bl (HT.lexLt ns ms), H, I, rfl, q⟩
end
end L2
namespace L2
open PySem PySem.Spec PyProof.Rows
def ixN (n : Nat) (i : Int) : Option Nat := if 0 ≤ i then (if i < n then some i.toNat else none) else if -(n : Int) ≤ i then some (i + n).toNat else none
def atI {α : Type} (xs : List α) (i : Int) : Option α := (ixN xs.length i).bind fun j => xs[j]?
theorem ixN_seq {n : Nat} {i : Int} {j : Nat} (h : ixN n i = some j) : seqIndex? i n = some j ∧ j < n ∧ -(n : Int) ≤ i ∧ i < n := by
  unfold ixN at h
  by_cases h0 : 0 ≤ i
  · rw [if_pos h0] at h
    by_cases h1 : i < n
    · rw [if_pos h1] at h
      have e : i.toNat = j := Option.some.inj h
      exact ⟨by rw [seqIndex_of h0 h1, e], by omega, by omega, h1⟩
    · rw [if_neg h1] at h; cases h
  · rw [if_neg h0] at h
    by_cases h1 : -(n : Int) ≤ i
    · rw [if_pos h1] at h
      have e : (i + n).toNat = j := Option.some.inj h
      exact ⟨by rw [seqIndex_neg (by omega) h1, e], by omega, h1, by omega⟩
    · rw [if_neg h1] at h; cases h
theorem atI_get {α : Type} {xs : List α} {i : Int} {v : α} (h : atI xs i = some v) : ∃ j, seqIndex? i xs.length = some j ∧ xs[j]? = some v ∧ j < xs.length ∧ -(xs.length : Int) ≤ i ∧ i < xs.length := by
  unfold atI at h
  cases e : ixN xs.length i with
  | none => rw [e] at h; cases h
  | some j =>
    rw [e] at h
    obtain ⟨h1, h2, h3, h4⟩ := ixN_seq e
    exact ⟨j, h1, h, h2, h3, h4⟩
theorem atI_nat {α : Type} {xs : List α} {j : Nat} {v : α} (h : xs[j]? = some v) : atI xs (j : Int) = some v := by
  have hj : j < xs.length := (List.getElem?_eq_some_iff.mp h).1
  have e : ixN xs.length (j : Int) = some j := by
    unfold ixN
    rw [if_pos (by omega), if_pos (by omega)]; simp
  unfold atI; rw [e]; exact h
theorem atI_last {α : Type} (xs : List α) (v : α) : atI (xs ++ [v]) (-1) = some v := by
  have hl : (xs ++ [v]).length = xs.length + 1 := by simp
  have e : ixN (xs ++ [v]).length (-1) = some xs.length := by
    unfold ixN
    rw [hl, if_neg (by decide), if_pos (by omega)]
    congr 1
    omega
  unfold atI
  rw [e]
  show (xs ++ [v])[xs.length]? = some v
  simp
def PlainIx (b : Expr) : Prop := ∀ o i, subscripted b false o i = operate [o, i] (getItem o i)
def IxR (X : Cx) (r : R2) : Prop :=
  ∀ (value slice : Expr) (pins : List (Addr × Obj)) (s : Shared) (σ : St) (H : Hp) (x y : V) (v u : Value) (Q : VK), Inv X pins σ H s → RelV x v → RelV y u → r x y H Q →
    subscripted slice false v u = operate [v, u] (getItem v u) → wpAny (model X.prog X.w) X.A (subscriptTail value slice v u) (EP X pins σ Q) X.xe s
def MtR (X : Cx) (id : String) (r : V → List V → Hp → VK → Prop) : Prop :=
  ∀ (pins : List (Addr × Obj)) (s : Shared) (σ : St) (H : Hp) (x : V) (xs : List V) (v : Value) (us : List Value) (Q : VK), Inv X pins σ H s → RelV x v → Vals xs us → r x xs H Q →
    wpAny (model X.prog X.w) X.A (call (.builtin id) (v :: us)) (EP X pins σ Q) X.xe s
section
variable {X : Cx} {a b : Expr} {ta tb : TE} {pos : Pos}
theorem pe_ix {r : R2} (hr : IxR X r) (ha : PE X a ta) (hb : PE X b tb) (hs : PlainIx b) : PE X (.Subscript a b pos) (tOp r ta tb) := by
  intro pins s σ H Q I h
  exact Subscript_ (binT ha hb I h fun v u s2 x y H2 I2 rx ry q => hr a b pins s2 σ H2 x y v u Q I2 rx ry q (hs _ _))
def rIxL (K : PySem.W.Frag) : R2 := fun x y H Q => ∃ p xs i v, x = .ref p ∧ y = .int i ∧ SqL K H p xs ∧ atI xs i = some v ∧ Q v H
def rIxT (K : PySem.W.Frag) : R2 := fun x y H Q => ∃ p xs i v, x = .ref p ∧ y = .int i ∧ SqT K H p xs ∧ atI xs i = some v ∧ Q v H
theorem ix_list : IxR X (rIxL X.K) := by
  intro value slice pins s σ H x y v u Q I rx ry h hs
  obtain ⟨p, xs, i, z, rfl, rfl, hq, he, q⟩ := h
  cases rx
  obtain ⟨t, rfl⟩ := ry
  obtain ⟨its, r, pl, hz⟩ := I.list hq
  obtain ⟨j, h1, h2, h3, h4, h5⟩ := atI_get he
  obtain ⟨w, ew, rw'⟩ := r.get h2
  have hl := r.length
  have hn := line63
  have fin : EP X pins σ Q w s := ⟨z, H, I, rw', q⟩
  by_cases h0 : 0 ≤ i
  · have hj : i.toNat = j := by
      rw [seqIndex_of h0 h5] at h1
      exact Option.some.inj h1
    exact item_listR pl.isList h0 (by omega) (by rw [hj]; simpa using ew) fin hs
  · have hj : (i + (its.toArray.size : Int)).toNat = j := by
      rw [seqIndex_neg (by omega) h4] at h1
      rw [List.size_toArray, ← hl]
      exact Option.some.inj h1
    exact subscriptTail_builtinR (x := w) pl.isList.typeIs slot_list_getitem.lookup
      (wpAny_getItem_list_neg (Q := fun r s' => r = w ∧ EP X pins σ Q r s') pl.isList (by omega) (by rw [List.size_toArray] <;> omega) (by omega) (by rw [hj]; simpa using ew) ⟨rfl, fin⟩) hs
theorem ix_tup : IxR X (rIxT X.K) := by
  intro value slice pins s σ H x y v u Q I rx ry h hs
  obtain ⟨p, xs, i, z, rfl, rfl, hq, he, q⟩ := h
  cases rx
  obtain ⟨t, rfl⟩ := ry
  obtain ⟨its, r, pl, hz⟩ := I.tuple hq
  obtain ⟨j, h1, h2, h3, h4, h5⟩ := atI_get he
  obtain ⟨w, ew, rw'⟩ := r.get h2
  have hl := r.length
  have hn := line63
  have fin : EP X pins σ Q w s := ⟨z, H, I, rw', q⟩
  exact subscriptTail_builtinR (x := w) pl.typeIs slot_tuple_getitem.lookup
    (getItem_tuple (j := j) (Q := fun r s' => r = w ∧ EP X pins σ Q r s') pl (by omega) (by omega) (by rw [List.size_toArray, ← hl]; exact h1) (by simpa using ew) ⟨rfl, fin⟩) hs
theorem mapSeq_set (its : List Value) (n j : Nat) (u : Value) : Obj.mapSeq (·.setIfInBounds j u) { cls := .type "list", data := .seq its.toArray n } = { cls := .type "list", data := .seq (its.set j u).toArray n } := by
  simp [Obj.mapSeq]
theorem Inv.lst {pins : List (Addr × Obj)} {σ : St} {H : Hp} {s : Shared} {p : Addr} {xs : List V} (I : Inv X pins σ H s) (h : H p = some (.lst xs)) :
    ∃ (its : List Value) (n : Nat), Vals xs its ∧ s.heap.get? p = some { cls := .type "list", data := .seq its.toArray n } ∧ xs.length ≤ sizeLine := by
  obtain ⟨z, its, n, r, e⟩ := I.hok p _ h
  exact ⟨its, n, r, e, z⟩
theorem Inv.lstUpd {pins : List (Addr × Obj)} {σ : St} {H : Hp} {s : Shared} {p : Addr} {xs ys : List V} {its its' : List Value} {n n' : Nat} {f : Obj → Obj} (I : Inv X pins σ H s) (h : H p = some (.lst xs))
    (ho : s.heap.get? p = some { cls := .type "list", data := .seq its.toArray n }) (hf : f { cls := .type "list", data := .seq its.toArray n } = { cls := .type "list", data := .seq its'.toArray n' }) (r : Vals ys its') (hz : ys.length ≤ sizeLine) (t : Nat) :
    Inv X pins σ (upd H p (.lst ys)) { s with heap := s.heap.update p f, toks := t } := by
  have e : (s.heap.update p f).get? p = some { cls := .type "list", data := .seq its'.toArray n' } := by
    rw [Heap.get?_update_self f ho (by rw [hf] <;> rfl), hf]
  refine I.write (x := p) (e := p) (by rw [h]; trivial) (.inl rfl) (fun b u hb q => (Heap.get?_update_other _ _ (Ne.symm hb)).trans q) ⟨_, e⟩ ?_
  exact ⟨hz, its', n', r, e⟩
def rSetL : V → V → V → Hp → (Hp → Prop) → Prop := fun o i v H Q => ∃ p xs k j, o = .ref p ∧ i = .int k ∧ H p = some (.lst xs) ∧ ixN xs.length k = some j ∧ Q (upd H p (.lst (xs.set j v)))
theorem set_list : PSet X rSetL := by
  intro pins s σ H o i v ov iv u Q I ro ri rv h
  obtain ⟨p, xs, k, j, rfl, rfl, hp, hj, q⟩ := h
  cases ro
  obtain ⟨t, rfl⟩ := ri
  obtain ⟨its, n, r, ho, hz⟩ := I.lst hp
  obtain ⟨h1, h2, h3, h4⟩ := ixN_seq hj
  have hl := r.length
  have hn := line63
  have I' : Inv X pins σ (upd H p (.lst (xs.set j v))) { s with heap := s.heap.update p (Obj.mapSeq (·.setIfInBounds j u)) } :=
    I.lstUpd hp ho (mapSeq_set its n j u) (r.set rv j) (by rw [List.length_set]; exact hz) s.toks
  by_cases h0 : 0 ≤ k
  · have hk : k.toNat = j := by
      rw [seqIndex_of h0 h4] at h1
      exact Option.some.inj h1
    exact PySem.W.ki_setAt ho h0 (by omega) (by rw [List.size_toArray, ← hl]; exact h4) (by rw [hk]; exact ⟨_, I', q⟩)
  · have hk : (k + (its.toArray.size : Int)).toNat = j := by
      rw [seqIndex_neg (by omega) h3] at h1
      rw [List.size_toArray, ← hl]
      exact Option.some.inj h1
    exact PySem.W.ki_setBack ho (by omega) (by rw [List.size_toArray, ← hl]; exact h3) (by omega) (by rw [hk]; exact ⟨_, I', q⟩)
theorem slice_bounds (lo hi : Option Int) (n : Nat) : (sliceBounds lo hi none n).1 = ((HT.sIx n 0 lo : Nat) : Int) ∧ (sliceBounds lo hi none n).2.1 = ((HT.sIx n n hi : Nat) : Int) ∧ (sliceBounds lo hi none n).2.2 = 1 := by
  refine ⟨?_, ?_, rfl⟩
  · cases lo with
    | none => simp [sliceBounds, HT.sIx]
    | some i =>
      simp only [sliceBounds, HT.sIx, Option.getD_none, show (1 : Int) > 0 by decide, if_true]
      by_cases h : i < 0
      · simp only [h, if_true] <;> omega
      · simp only [h, if_false] <;> omega
  · cases hi with
    | none => simp [sliceBounds, HT.sIx]
    | some i =>
      simp only [sliceBounds, HT.sIx, Option.getD_none, show (1 : Int) > 0 by decide, if_true]
      by_cases h : i < 0
      · simp only [h, if_true] <;> omega
      · simp only [h, if_false] <;> omega
theorem slicePick_cut (its : List Value) (lo hi : Option Int) : slicePick its.toArray lo hi none = ((its.drop (HT.sIx its.length 0 lo)).take (HT.sIx its.length its.length hi - HT.sIx its.length 0 lo)).toArray := by
  obtain ⟨h1, h2, h3⟩ := slice_bounds lo hi its.toArray.size
  unfold slicePick
  rw [h1, h2, h3]
  simp only [sliceRange_one, pick_run, List.size_toArray] <;> rfl
def rSlL (K : PySem.W.Frag) : V → Option Int → Option Int → Hp → VK → Prop := fun x lo hi H Q => ∃ a xs, x = .ref a ∧ SqL K H a xs ∧ ∀ p, H p = none → Q (.ref p) (upd H p (.lst (cutV xs lo hi)))
theorem sl_list : SlR X (rSlL X.K) := by
  intro pins s σ H x v vl vu lo hi sl Q I rx hs pl pu h
  obtain ⟨a, xs, rfl, hx, q⟩ := h
  cases rx
  obtain ⟨its, r, ht, hz⟩ := I.list hx
  have hlen := r.length
  refine ⟨"list", _, slot_list_getitem.lookup, ht.isList.typeIs, ?_⟩
  refine wpAny_getItem_list_slice ht.isList hs pl pu .none (by simp) ?_ (by rw [List.size_toArray] <;> omega)
  rw [slicePick_cut, ← hlen]
  refine ⟨.ref s.heap.objs.size, _, I.laid (t' := s.toks) (o := .lst (cutV xs lo hi)) (fun b ob q => Heap.get?_push_of_some _ q) (Nat.le_refl _) ?_, rfl, q _ (I.hok.fresh (Nat.le_refl _))⟩
  exact ⟨Nat.le_trans (cutV_length xs lo hi) hz, _, 0, (r.drop (HT.sIx xs.length 0 lo)).take (HT.sIx xs.length xs.length hi - HT.sIx xs.length 0 lo), Heap.get?_push_size _ rfl⟩
def flatV : V → Bool
  | .non => true
  | .bl _ => true
  | .int _ => true
  | .str _ => true
  | _ => false
def eqV : V → V → Bool
  | .non, .non => true
  | .bl a, .bl b => a == b
  | .bl a, .int b => (if a then 1 else 0) == b
  | .int a, .bl b => a == (if b then 1 else 0)
  | .int a, .int b => a == b
  | .str a, .str b => a == b
  | _, _ => false
theorem eqAt_V {A : Around} {s : Shared} {y x : V} {u v : Value} (ry : RelV y u) (rx : RelV x v) (fy : flatV y = true) (fx : flatV x = true) : SeqAt.EqAt A s u v (eqV y x) := by
  cases y with
  | non =>
    cases ry
    cases x with
    | non => cases rx; exact SeqAt.EqAt.same _
    | bl b => cases rx; exact SeqAt.EqAt.none_bool b
    | int b => obtain ⟨t, rfl⟩ := rx; exact SeqAt.EqAt.none_int b t
    | str b => obtain ⟨t, rfl⟩ := rx; exact SeqAt.EqAt.none_str b t
    | _ => exact absurd (show false = true from fx) Bool.false_ne_true
  | bl a =>
    cases ry
    cases x with
    | non => cases rx; exact SeqAt.EqAt.bool_none a
    | bl b => cases rx; exact SeqAt.EqAt.bool_bool a b
    | int b => obtain ⟨t, rfl⟩ := rx; exact SeqAt.EqAt.bool_int a b t
    | str b => obtain ⟨t, rfl⟩ := rx; exact SeqAt.EqAt.bool_str a b t
    | _ => exact absurd (show false = true from fx) Bool.false_ne_true
  | int a =>
    obtain ⟨t', rfl⟩ := ry
    cases x with
    | non => cases rx; exact SeqAt.EqAt.int_none a t'
    | bl b => cases rx; exact SeqAt.EqAt.int_bool a t' b
    | int b => obtain ⟨t, rfl⟩ := rx; exact SeqAt.EqAt.int_int a t' b t
    | str b => obtain ⟨t, rfl⟩ := rx; exact SeqAt.EqAt.int_str a t' b t
    | _ => exact absurd (show false = true from fx) Bool.false_ne_true
  | str a =>
    obtain ⟨t', rfl⟩ := ry
    cases x with
    | non => cases rx; exact SeqAt.EqAt.str_none a t'
    | bl b => cases rx; exact SeqAt.EqAt.str_bool a t' b
    | int b => obtain ⟨t, rfl⟩ := rx; exact SeqAt.EqAt.str_int a t' b t
    | str b => obtain ⟨t, rfl⟩ := rx; exact SeqAt.EqAt.str_str a t' b t
    | _ => exact absurd (show false = true from fx) Bool.false_ne_true
  | _ => exact absurd (show false = true from fy) Bool.false_ne_true
def eqU (x : V) (u : Value) : Bool := match u with
  | .none => eqV .non x
  | .bool b => eqV (.bl b) x
  | .int i _ => eqV (.int i) x
  | .str z _ => eqV (.str z) x
  | _ => false
theorem eqU_of {x y : V} {u : Value} (r : RelV y u) (f : flatV y = true) : eqU x u = eqV y x := by
  cases y with
  | non => cases r; rfl
  | bl b => cases r; rfl
  | int i => obtain ⟨t, rfl⟩ := r; rfl
  | str z => obtain ⟨t, rfl⟩ := r; rfl
  | _ => exact absurd (show false = true from f) Bool.false_ne_true
theorem any_eqU {x : V} : ∀ {xs : List V} {us : List Value}, Vals xs us → xs.all flatV = true → us.any (eqU x) = xs.any fun y => eqV y x
  | _, _, .nil, _ => rfl
  | y :: xs, u :: us, .cons r t, f => by
    rw [List.all_cons, Bool.and_eq_true] at f
    rw [List.any_cons, List.any_cons, eqU_of r f.1, any_eqU t f.2]
theorem mem_eqAt {A : Around} {s : Shared} {x : V} {v : Value} (rx : RelV x v) (fx : flatV x = true) : ∀ {xs : List V} {us : List Value}, Vals xs us → xs.all flatV = true → ∀ u ∈ us, SeqAt.EqAt A s u v (eqU x u)
  | _, _, .nil, _ => fun u hu => by cases hu
  | y :: xs, u :: us, .cons r t, f => fun u' hu => by
    rw [List.all_cons, Bool.and_eq_true] at f
    rcases List.mem_cons.mp hu with rfl | hu
    · rw [eqU_of r f.1]; exact eqAt_V r rx f.1 fx
    · exact mem_eqAt rx fx t f.2 u' hu
def inV (x : V) (xs : List V) : Bool := xs.any fun y => eqV y x
def rIn (K : PySem.W.Frag) (neg : Bool) : R2 := fun x y H Q => ∃ p xs, y = .ref p ∧ (SqL K H p xs ∨ SqT K H p xs) ∧ flatV x = true ∧ xs.all flatV = true ∧ Q (.bl (if neg then !inV x xs else inV x xs)) H
theorem op_in_seq : OpR X (compareOp .In) (rIn X.K false) := by
  intro pins s σ H x y v u Q I rx ry h
  obtain ⟨p, xs, rfl, hq, fx, fs, q⟩ := h
  cases ry
  rcases hq with hq | hq
  · obtain ⟨its, r, pl, hz⟩ := I.list hq
    refine SeqAt.in_listAt (eqU x) pl.isList (fun w hw => mem_eqAt rx fx r fs w (by simpa using hw)) ⟨.bl _, H, I, rfl, ?_⟩
    rw [show its.toArray.any (eqU x) = its.any (eqU x) by simp, any_eqU r fs]
    exact q
  · obtain ⟨its, r, pl, hz⟩ := I.tuple hq
    refine SeqAt.in_tupleAt (eqU x) pl (fun w hw => mem_eqAt rx fx r fs w (by simpa using hw)) ⟨.bl _, H, I, rfl, ?_⟩
    rw [show its.toArray.any (eqU x) = its.any (eqU x) by simp, any_eqU r fs]
    exact q
theorem op_notIn_seq : OpR X (compareOp .NotIn) (rIn X.K true) := by
  intro pins s σ H x y v u Q I rx ry h
  obtain ⟨p, xs, rfl, hq, fx, fs, q⟩ := h
  cases ry
  rcases hq with hq | hq
  · obtain ⟨its, r, pl, hz⟩ := I.list hq
    refine SeqAt.notIn_listAt (eqU x) pl.isList (fun w hw => mem_eqAt rx fx r fs w (by simpa using hw)) ⟨.bl _, H, I, rfl, ?_⟩
    rw [show its.toArray.any (eqU x) = its.any (eqU x) by simp, any_eqU r fs]
    exact q
  · obtain ⟨its, r, pl, hz⟩ := I.tuple hq
    refine SeqAt.notIn_tupleAt (eqU x) pl (fun w hw => mem_eqAt rx fx r fs w (by simpa using hw)) ⟨.bl _, H, I, rfl, ?_⟩
    rw [show its.toArray.any (eqU x) = its.any (eqU x) by simp, any_eqU r fs]
    exact q
theorem call_len_seq : CallR X (.builtin "len") (fun xs H Q => ∃ p ys, xs = [.ref p] ∧ (SqL X.K H p ys ∨ SqT X.K H p ys) ∧ Q (.int ys.length) H) := by
  intro pins s σ H xs us Q I r h
  obtain ⟨p, ys, rfl, hq, q⟩ := h
  obtain ⟨u, rfl, rx⟩ := vals1 r
  cases rx
  have hn := line63
  rcases hq with hq | hq
  · obtain ⟨its, r', pl, hz⟩ := I.list hq
    have hlen := r'.length
    exact Calls.call_len_list pl.isList (by simp only [List.size_toArray] <;> omega) ⟨.int ys.length, H, I.tok _, ⟨s.toks + 1, by rw [List.size_toArray, hlen]⟩, q⟩
  · obtain ⟨its, r', pl, hz⟩ := I.tuple hq
    have hlen := r'.length
    exact len_tuple pl (by simp only [List.size_toArray] <;> omega) ⟨.int ys.length, H, I.tok _, ⟨s.toks + 1, by rw [List.size_toArray, hlen]⟩, q⟩
theorem call_list_of : CallR X (.type "list") (fun xs H Q => ∃ p ys, xs = [.ref p] ∧ (SqL X.K H p ys ∨ SqT X.K H p ys) ∧ ∀ l, H l = none → Q (.ref l) (upd H l (.lst ys))) := by
  intro pins s σ H xs us Q I r h
  obtain ⟨p, ys, rfl, hq, q⟩ := h
  obtain ⟨u, rfl, rx⟩ := vals1 r
  cases rx
  have fin : ∀ (its : List Value), Vals ys its → ys.length ≤ sizeLine → ∀ (h' : Heap) (c' : Nat), (∀ b o', s.heap.get? b = some o' → h'.get? b = some o') →
      h'.get? s.heap.objs.size = some { cls := .type "list", dict := none, data := .seq its.toArray c', slots := #[] } → EP X pins σ Q (.ref s.heap.objs.size) { s with heap := h' } := fun its r' hz h' c' kp e =>
    ⟨.ref s.heap.objs.size, _, I.laid (t' := s.toks) kp (Nat.le_refl _) (show ObjOk X.prog X.w _ h' _ (.lst ys) from ⟨hz, its, c', r', e⟩), rfl, q _ (I.hok.fresh (Nat.le_refl _))⟩
  rcases hq with hq | hq
  · obtain ⟨its, r', pl, hz⟩ := I.list hq
    have hlen := r'.length
    obtain ⟨o, ho, hc, n, hd⟩ := pl.isList
    exact call_list_seq p (.inl rfl) ho hc hd (fun h' c' kp e => fin its r' hz h' c' kp e) (by simp only [List.size_toArray] <;> omega)
  · obtain ⟨its, r', pl, hz⟩ := I.tuple hq
    have hlen := r'.length
    obtain ⟨o, ho, hc, n, hd⟩ := pl
    exact call_list_seq p (.inr rfl) ho hc hd (fun h' c' kp e => fin its r' hz h' c' kp e) (by simp only [List.size_toArray] <;> omega)
def tyV (K : PySem.W.Frag) (T : String) (x : V) (H : Hp) : Prop := match x with
  | .str _ => T = "str"
  | .int _ => T = "int"
  | .ref p => (T = "list" ∧ ∃ xs, SqL K H p xs) ∨ (T = "tuple" ∧ ∃ o, K.lookup p = some o ∧ o.cls = .type "tuple" ∧ o.dict = none) ∨
      (T = "dict" ∧ ((∃ kvs, H p = some (.dK kvs)) ∨ ∃ kvs, H p = some (.dT kvs))) ∨ (T = "set" ∧ ∃ S n, H p = some (.set S n))
  | _ => False
theorem tyV_is {pins : List (Addr × Obj)} {σ : St} {H : Hp} {s : Shared} {T : String} {x : V} {v : Value} (I : Inv X pins σ H s) (r : RelV x v) (ty : tyV X.K T x H) :
    s.TypeIs v T ∧ ∀ a, v = .ref a → ∃ ob, s.heap.get? a = some ob ∧ ob.dict = none := by
  cases x with
  | str z =>
    obtain ⟨t, rfl⟩ := r
    cases (show T = "str" from ty)
    exact ⟨typeIs_str s z t, fun _ e => nomatch e⟩
  | int i =>
    obtain ⟨t, rfl⟩ := r
    cases (show T = "int" from ty)
    exact ⟨typeIs_int s i t, fun _ e => nomatch e⟩
  | ref p =>
    cases r
    rcases ty with ⟨rfl, xs, hq⟩ | ⟨rfl, o, hk, hc, hd⟩ | ⟨rfl, hk⟩ | ⟨rfl, S, n, hk⟩
    · obtain ⟨its, _, pl, _⟩ := I.list hq
      refine ⟨pl.isList.typeIs, fun a e => ?_⟩
      cases e
      obtain ⟨o, n, e, c, hd, _⟩ := pl
      exact ⟨o, e, hd⟩
    · refine ⟨⟨o, I.kIn p o hk, hc⟩, fun a e => ?_⟩
      cases e
      exact ⟨o, I.kIn _ o hk, hd⟩
    · have z : ∃ o, s.heap.get? p = some o ∧ o.ExactDict := by
        rcases hk with ⟨kvs, hk⟩ | ⟨kvs, hk⟩
        · obtain ⟨_, _, _, _, o, _, _, e, ex, _⟩ := I.hok p _ hk
          exact ⟨o, e, ex⟩
        · obtain ⟨_, _, _, _, o, _, _, e, ex, _⟩ := I.hok p _ hk
          exact ⟨o, e, ex⟩
      obtain ⟨o, e, ex⟩ := z
      refine ⟨⟨o, e, ex.1⟩, fun a e2 => ?_⟩
      cases e2
      exact ⟨o, e, ex.2.1⟩
    · obtain ⟨o, _, _, _, e, ex, _⟩ := I.hok p _ hk
      refine ⟨⟨o, e, ex.1⟩, fun a e2 => ?_⟩
      cases e2
      exact ⟨o, e, ex.2.1⟩
  | _ => exact False.elim ty
def tBM (K : PySem.W.Frag) (T : String) (r : V → List V → Hp → VK → Prop) (to : TE) (t : TA) : TE := fun σ H Q => to σ H fun x H1 => tyV K T x H1 ∧ t σ H1 fun xs H2 => r x xs H2 Q
variable {o e : Expr} {es : List Expr} {to : TE} {t : TA} {name : Str} {apos cpos : Pos} {T id : String} {r : V → List V → Hp → VK → Prop}
theorem pe_bm (pa : PlainAttrs T) (slot : Slot T name id) (hty : typeOf (.builtin id) = pure (.type "method_descriptor")) (hm : MtR X id r) (ho : PE X o to) (ha : PA X (e :: es) t)
    (hbase : attributeBase o name X.env (eval o X.env) = eval o X.env := by rfl)
    (hfew : ((backTo cpos (starEach (e :: es) X.env)).all (fun x => !x.1) && (backToKw cpos (keywordEach [] X.env)).all (fun x => x.1.isSome)
      && decide ((e :: es).length + ([] : List Keyword).length + (if ([] : List Keyword).isEmpty then 0 else 1) < 30)) = true := by rfl)
    (hline : (apos.endLine == cpos.line) = true := by rfl) (hs : starEach (e :: es) X.env = (false, eval e X.env) :: starEach es X.env := by rfl) (hplain : (backTo cpos (starEach es X.env)).any (·.1) = false := by rfl) :
    PE X (.Call (.Attribute o name apos) (e :: es) [] cpos) (tBM X.K T r to t) := by
  intro pins s σ H Q I h
  refine wpAny_Call_method_late hbase hfew hline rfl (thn (ho pins s σ H _ I h) fun v s1 ⟨x, H1, I1, r1, ty, q1⟩ => ?_)
  obtain ⟨h1, h2⟩ := tyV_is I1 r1 ty
  refine ⟨T, id, pa, slot, hty, h1, h2, ?_⟩
  have hA := ha cpos pins s1 σ H1 _ I1 q1
  rw [hs] at hA ⊢
  refine Calls.callWith_builtin (by show (false || (backTo cpos (starEach es X.env)).any (·.1)) = false; rw [hplain] <;> rfl) (Calls.evalArgs_plain ?_)
  exact thn hA fun us s2 ⟨vs, H2, I2, r2, q2⟩ => hm pins s2 σ H2 x vs v us Q I2 r1 r2 q2
end
end L2
namespace L2
open PySem PySem.Spec PyProof.Rows
def MtM (X : Cx) (id : String) (r : V → List V → Hp → VK → Prop) : Prop :=
  ∀ (pins : List (Addr × Obj)) (s : Shared) (σ : St) (H : Hp) (x : V) (xs : List V) (v : Value) (us : List Value) (Q : VK), Inv X pins σ H s → RelV x v → Vals xs us → r x xs H Q →
    wpAny (model X.prog X.w) X.A (call (.builtin id) (v :: us)) (EP X pins σ Q) X.xe s
theorem Vals.one : ∀ {x : V} {us : List Value}, Vals [x] us → ∃ u, us = [u] ∧ RelV x u
  | _, _, .cons r .nil => ⟨_, rfl, r⟩
theorem Vals.rep {xs : List V} {us : List Value} (h : Vals xs us) : ∀ k : Nat, Vals (List.replicate k xs).flatten (List.replicate k us).flatten
  | 0 => .nil
  | k + 1 => by
    rw [List.replicate_succ, List.replicate_succ, List.flatten_cons, List.flatten_cons]
    exact Vals.append h (Vals.rep h k)
theorem foldl_rep (its : List Value) : ∀ (k : Nat) (acc : List Value),
    List.foldl (fun x1 x2 => x1 ++ x2) acc.toArray (List.replicate k its.toArray) = (acc ++ (List.replicate k its).flatten).toArray
  | 0, acc => by simp
  | k + 1, acc => by
    have e : acc.toArray ++ its.toArray = (acc ++ its).toArray := by simp
    have e2 : (acc ++ its) ++ (List.replicate k its).flatten = acc ++ (List.replicate (k + 1) its).flatten := by
      rw [List.replicate_succ, List.flatten_cons, List.append_assoc]
    rw [← e2, ← foldl_rep its k (acc ++ its), ← e, List.replicate_succ, List.foldl_cons]
section
variable {X : Cx} {pins : List (Addr × Obj)} {σ : St} {H : Hp} {s : Shared} {l b : Addr} {xs ys zs : List V}
theorem Inv.lset {its its' : List Value} {n : Nat} {f : Array Value → Array Value} {t' : Nat} (I : Inv X pins σ H s) (hH : H l = some (.lst xs))
    (e : s.heap.get? l = some { cls := .type "list", data := .seq its.toArray n }) (hf : f its.toArray = its'.toArray) (hv : Vals ys its') (hz : ys.length ≤ sizeLine) :
    Inv X pins σ (upd H l (.lst ys)) { s with heap := s.heap.update l (Obj.mapSeq f), toks := t' } := by
  have q := PySem.IsL.update e f
  rw [hf] at q
  refine I.write (x := l) (e := l) (by rw [hH]; exact trivial) (.inl rfl) (fun b' u hb hu => (Heap.get?_update_other s.heap (Obj.mapSeq f) (Ne.symm hb)).trans hu) ⟨_, q⟩ ?_
  exact ⟨hz, its', _, hv, q⟩
theorem Inv.lnew {its : List Value} {t' : Nat} (I : Inv X pins σ H s) (hv : Vals ys its) (hz : ys.length ≤ sizeLine) :
    Inv X pins σ (upd H s.heap.objs.size (.lst ys)) { s with heap := s.heap.push { cls := .type "list", data := .seq its.toArray }, toks := t' } :=
  I.laid (fun _ _ q => Heap.get?_push_of_some _ q) (Nat.le_refl _) ⟨hz, its, 0, hv, Heap.get?_push_size _ rfl⟩
theorem Inv.fresh (I : Inv X pins σ H s) : H s.heap.objs.size = none := I.hok.fresh (Nat.le_refl _)
theorem Inv.lstM (I : Inv X pins σ H s) (hH : H l = some (.lst xs)) : xs.length ≤ sizeLine ∧ ∃ (its : List Value) (n : Nat), Vals xs its ∧ xs.length = its.length ∧ s.heap.get? l = some { cls := .type "list", data := .seq its.toArray n } := by
  obtain ⟨z, its, n, r, e⟩ := I.hok l _ hH
  exact ⟨z, its, n, r, r.length, e⟩
theorem notLongL {n : Nat} (h : n ≤ sizeLine) : Builtin.List.listTooLong n = false := by
  unfold Builtin.List.listTooLong
  exact decide_eq_false (by omega)
end
section
variable {X : Cx}
def rAppend : V → List V → Hp → VK → Prop := fun x vs H Q => ∃ l xs y, x = .ref l ∧ vs = [y] ∧ H l = some (.lst xs) ∧ xs.length < sizeLine ∧ Q .non (upd H l (.lst (xs ++ [y])))
theorem mt_append : MtM X "list.append" rAppend := by
  intro pins s σ H x vs v us Q I rx rv h
  obtain ⟨l, xs, y, rfl, rfl, hH, hz, q⟩ := h
  cases rx
  obtain ⟨u, rfl, ru⟩ := rv.one
  obtain ⟨z, its, n, r, hl, e⟩ := I.lstM hH
  refine call_meets F.slot_list_append ⟨_, e, rfl⟩ F.entry_list_append (F.args_list_append_2 _ _) (PySem.list_append l its.toArray n u (by rw [List.size_toArray]; omega)) ⟨e, ?_⟩
  refine ⟨.non, _, I.lset (its' := its ++ [u]) hH e (by simp) (r.append (.cons ru .nil)) ?_, rfl, q⟩
  rw [List.length_append, List.length_singleton]
  omega
def rCat : R2 := fun x y H Q => ∃ l b xs zs, x = .ref l ∧ y = .ref b ∧ H l = some (.lst xs) ∧ H b = some (.lst zs) ∧ xs.length + zs.length ≤ sizeLine ∧ ∀ p, H p = none → Q (.ref p) (upd H p (.lst (xs ++ zs)))
theorem op_cat : OpR X (binaryOp .Add) rCat := by
  intro pins s σ H x y v u Q I rx ry h
  obtain ⟨l, b, xs, zs, rfl, rfl, hH, hB, hz, q⟩ := h
  cases rx
  cases ry
  obtain ⟨z, its, n, r, hl, e⟩ := I.lstM hH
  obtain ⟨z2, its2, n2, r2, hl2, e2⟩ := I.lstM hB
  refine PySem.P.add_list e e2 ?_ (by rw [List.size_toArray, List.size_toArray]; omega)
  have ea : its.toArray ++ its2.toArray = (its ++ its2).toArray := by simp
  rw [ea]
  exact ⟨.ref _, _, I.lnew (t' := s.toks) (r.append r2) (by rw [List.length_append]; omega), rfl, q _ I.fresh⟩
def rRep : R2 := fun x y H Q => ∃ l k xs, x = .ref l ∧ y = .int k ∧ H l = some (.lst xs) ∧ -(2 ^ 63) ≤ k ∧ k < 2 ^ 63 ∧ xs.length * k.toNat ≤ sizeLine ∧
  ∀ p, H p = none → Q (.ref p) (upd H p (.lst (List.replicate k.toNat xs).flatten))
theorem len_rep {α : Type} (xs : List α) (k : Nat) : (List.replicate k xs).flatten.length = k * xs.length := by
  induction k with
  | zero => simp
  | succ k ih => rw [List.replicate_succ, List.flatten_cons, List.length_append, ih, Nat.succ_mul, Nat.add_comm]
theorem op_rep : OpR X (binaryOp .Mult) rRep := by
  intro pins s σ H x y v u Q I rx ry h
  obtain ⟨l, k, xs, rfl, rfl, hH, h1, h2, hz, q⟩ := h
  cases rx
  obtain ⟨t, rfl⟩ := ry
  obtain ⟨z, its, n, r, hl, e⟩ := I.lstM hH
  have hlen : its.toArray.size * k.toNat ≤ sizeLine := by rw [List.size_toArray, ← hl]; exact hz
  have hcap : ¬ its.toArray.size * k.toNat > (2 ^ 63 - 1) / 8 := by
    have : (sizeLine : Nat) ≤ (2 ^ 63 - 1) / 8 := by decide
    omega
  have hfit : ¬ (!Builtin.List.listFitsIndex k) = true := by
    rw [fitsIndex_both h1 h2]
    exact Bool.false_ne_true
  have hlong : ¬ Builtin.List.listTooLong (its.toArray.size * k.toNat) = true := by
    rw [notLongL hlen]
    exact Bool.false_ne_true
  have hnew : List.foldl (fun x1 x2 => x1 ++ x2) #[] (List.replicate (if its.toArray.isEmpty = true then 0 else k.toNat) its.toArray) = (List.replicate k.toNat its).flatten.toArray := by
    have f0 : ∀ m : Nat, List.foldl (fun x1 x2 => x1 ++ x2) #[] (List.replicate m its.toArray) = (List.replicate m its).flatten.toArray := fun m => by
      have := foldl_rep its m []
      rw [List.nil_append] at this
      exact this
    rw [f0]
    cases its with
    | nil => simp
    | cons a r' => rw [if_neg (by simp)]
  refine wpAny_binaryOp_repeat_ref (T := "list") (U := "int") (by decide) ⟨_, e, rfl⟩ (fun s' => typeIs_int s' k t) noFill_list_mul F.fills_int_mul F.slot_int_rmul repeat_list F.slot_int_index.lookup
    (call_meets F.slot_int_rmul (typeIs_int s k t) F.entry_int_rmul (F.args_int_rmul_2 _ _) (int___rmul___int_list k t l its.toArray n)
      ⟨e, rfl, ⟨_, e, rfl⟩, call_meets F.slot_list_mul ⟨_, e, rfl⟩ F.entry_list_mul (F.args_list_mul_2 _ _) (AutoListH.list___mul___list_int_3 l its.toArray n k t hfit hcap hlong) ⟨e, ?_⟩⟩)
  rw [hnew]
  exact ⟨.ref _, _, I.lnew (t' := s.toks) (r.rep k.toNat) (by rw [len_rep, Nat.mul_comm]; exact hz), rfl, q _ I.fresh⟩
end
section
variable {prog : Program} {w : World} {A : Around} {E : Value → Shared → Prop} {s : Shared}
end
section
variable {X : Cx}
end
end L2
namespace Att
open PySem PySem.W PySem.Calls PyProof.Rows
theorem ints_of_wellAll {P : Params} {h : Heap} : ∀ (ns : List Int) (vs : List Value), WellAll P h vs (ns.map WData.int) → IntsAre vs ns := by
  intro ns
  induction ns with
  | nil =>
    intro vs w
    rw [List.map_nil] at w
    cases w
    exact .nil
  | cons n ns ih =>
    intro vs w
    rw [List.map_cons] at w
    cases w with
    | cons a b =>
      cases a
      exact .cons _ _ (ih _ b)
theorem script_of {l : OpenLaw} {n : Nat} (hn : l.most = some n) {P : Params} {h : Heap} {args : List WData} {vals : List Value}
    (hpre : l.row.toRowW.claim.pre args = true) (hwl : WellAll P h vals args) :
    ∃ a vs ns, vals = [Value.ref a] ∧ args = [WData.list (ns.map WData.int)] ∧ h.get? a = some { cls := .type "list", data := .seq vs.toArray } ∧ IntsAre vs ns ∧ ns.length ≤ n := by
  have hsh : WShape.hasAll [] args [.list .int] = true := (pre_splitW hpre).1
  have hc : l.pre.holds [] { args := args } = true := (pre_splitW hpre).2
  obtain ⟨d, r, rfl, h1, h2⟩ := hasAllW_cons hsh
  obtain rfl := hasAllW_nil h2
  obtain ⟨xs, rfl, h3⟩ := hasW_list h1
  obtain ⟨ns, rfl⟩ := items_int h3
  have hlen : ns.length ≤ n := by
    unfold OpenLaw.pre at hc
    have h4 : (WTm.not (.lt (.lit (.int (n : Int))) (.len (.arg 0)))).holds [] { args := [.list (ns.map .int)] } = true := by
      have h4 := (holds_andW hc).1
      rw [hn] at h4
      exact h4
    have h5 := condW_of h4 (w_not (w_lt w_lit (w_len_list (w_arg rfl))))
    rw [List.length_map] at h5
    refine Nat.le_of_not_lt fun q => ?_
    have q' : (n : Int) < ((ns.length : Nat) : Int) := by omega
    first
      | (rw [decide_eq_true q'] at h5; exact absurd h5 (by decide))
      | (simp at h5; omega)
  cases hwl with
  | cons w1 w2 =>
    cases w2
    cases w1 with
    | list ho hall => exact ⟨_, _, ns, rfl, rfl, ho, ints_of_wellAll ns _ hall, hlen⟩
theorem post_true (l : OpenLaw) (args : List WData) : l.row.toRowW.claim.post args (.bool true) args = true :=
  postW_of (r := l.row.toRowW) (X := (true == true))
    (show WShape.has [] (.bool true) .bool = true by first | rfl | decide | simp [WShape.has, WShape.arms, WShape.armsAll])
    (show (WTm.eq .res (.lit (.bool true))).value [] { args := args, res := some (.bool true), after := args } = some (.bool (true == true)) from w_eq_bool (w_res rfl) w_lit) rfl
theorem attach_call {l : OpenLaw} {n : Nat} {q : Program} {loose : List Str} {XP : (Str → Option Value) → Heap → Prop} {YP : World → Heap → Prop} {d : DefRec}
    (hn : l.most = some n) (hdf : d.params.defaults = [])
    (call : ∀ (w : World) (s₀ s₁ : Shared) (mg mb : Str → Option Value) (fa : Addr) (o : Obj) (pm cd doc : Value) (a : Addr) (vs : List Value) (ns : List Int),
      Ground q loose [] XP w s₀ mg mb s₁.heap → YP w s₁.heap →
      s₁.heap.get? fa = some o → o.data = .func (docDef d.name d.params d.body d.scope pm cd doc) → s₁.heap.CodeRec cd d.name → mg d.name = some (.ref fa) →
      s₁.heap.get? a = some { cls := .type "list", data := .seq vs.toArray } → IntsAre vs ns → ns.length ≤ n → s₁.gens = #[] →
      codeAny (model l.prog w) callerA (.call (.ref fa) ⟨[.ref a], []⟩) (fun r s' => r = .ok (.ret (.bool true)) ∧ OldK s₁.heap s'.heap ∧ s'.os = s₁.os ∧ AllBare s'.gens) s₁) :
    WalkO q loose XP YP l.row.toRowW d [] (fun f vs => PySem.call f vs) := by
  intro w s₀ s₁ mg mb G Y fa o pm cd doc dV kV ho hd hcd hD hmg hg args vals as hpre hlay hrd hwl hlo
  obtain rfl : dV = .none := Dflts.none hD hdf
  obtain rfl : kV = .none := Dflts.noKw hD
  obtain ⟨a, vs, ns, rfl, rfl, hobj, hints, hlen⟩ := script_of hn hpre hwl
  refine enter_call (codeAny_mono (call w s₀ s₁ mg mb fa o pm cd doc a vs ns G Y ho (fd_plain hd) hcd hmg hobj hints hlen hg) fun r s' hq => ?_)
  obtain ⟨rfl, h2, h3, h4⟩ := hq
  exact ⟨.inl ⟨.bool true, .bool true, [], rfl, fun _ => rfl, .bool true, post_true l _, fun _ => ⟨List.Pairwise.nil, fun _ hm => (nomatch hm)⟩⟩, h2, h3, h4⟩
section
variable {prog : Program} {w : World} {A : Around} {E : Value → Shared → Prop} {s : Shared} {K : Frag}
end
end Att
namespace L2
open PySem PySem.Spec PyProof.Rows
theorem vals_ints : ∀ {vs : List Value} {ns : List Int}, IntsAre vs ns → Vals (ns.map V.int) vs
  | _, _, .nil => .nil
  | _, _, .cons n t h => .cons ⟨t, rfl⟩ (vals_ints h)
end L2
namespace L2
open PySem PySem.Spec PyProof.Rows
abbrev KOf {K : PySem.W.Frag} {h : Heap} (_ : K.In h) : PySem.W.Frag := K
end L2
namespace L2
open PySem PySem.Spec PyProof.Rows
abbrev CX0 : CXT := fun _ _ _ _ _ _ => False
abbrev E0 : XK := fun _ _ _ => False
theorem pass0 {X : Cx} : Passes CX0 X E0 := fun _ _ _ _ _ _ _ h => h.elim
structure Fun (K : PySem.W.Frag) (x qual : Str) (st : Stmt) (f : Addr) (fd : FuncData) : Prop where
  ex : ∃ (oc : Value) (od : Option Addr) (kV doc pm : Value) (an : Option Addr) (cdv ct : Value) (osl : Array (Option Value)),
    fd = PySem.W.fnOf x qual (defArgs st) (defBody st) (defScope st) .none kV doc pm an cdv ct ∧ K.lookup f = some ⟨oc, od, .func fd, osl⟩ ∧ PySem.W.codeIn K cdv qual = true
  kp : PySem.W.keepIn K (.ref f) = true
section
variable {P : Program} {w : World} {K : PySem.W.Frag} {mg : Str → Option Value} {base : Heap}
theorem Fun.ok {x qual : Str} {st : Stmt} {f : Addr} {fd : FuncData} {N ps : List Str} {k : Nat} {sp : Sp} (F : Fun K x qual st f fd) (S : FnScope N ps (defScope st)) (len : ∀ vs H Q E, sp vs H Q E → vs.length = ps.length)
    (hbody : ∀ (cdv : Value) (A : Around) (outer : List Env) (s : Shared) (H : Hp) (vs : List V) (Q : VK) (E : XK), Room k (A.deeper (envOfC qual (defScope st) s.heap.objs.size f cdv)) → sp vs H Q E →
      ∃ t, PSs (cxOf CX0 P w K mg base N qual (defScope st) f cdv A outer s H E).nox (defBody st) t ∧ t { nx := fun _ H' => Q .non H', rt := Q } (start N vs) H) : FnOk P w K mg base CX0 (k + 1) f fd ps sp := by
  obtain ⟨oc, od, kV, doc, pm, an, cdv, ct, osl, rfl, lk, hcd⟩ := F.ex
  refine fn_of lk hcd S len fun A outer s H vs Q E hr hsp => ?_
  obtain ⟨t, h, q⟩ := hbody cdv A outer s H vs Q E hr hsp
  exact ⟨t, h.nox, q⟩
theorem Fun.binds {x qual : Str} {st : Stmt} {f : Addr} {fd : FuncData} {ps : List Str} (F : Fun K x qual st f fd)
    (h : ∀ (kV doc pm : Value) (an : Option Addr) (cdv ct : Value) (us : List Value), us.length = ps.length → bindArgs (PySem.W.fnOf x qual (defArgs st) (defBody st) (defScope st) .none kV doc pm an cdv ct) ⟨us, []⟩ = pure (ps.zip us)) : Binds K fd ps [] := by
  obtain ⟨oc, od, kV, doc, pm, an, cdv, ct, osl, rfl, lk, hcd⟩ := F.ex
  exact .all (h kV doc pm an cdv ct)
theorem fun_mk {x qual : Str} {st : Stmt} {f : Addr} {oc : Value} {od an : Option Addr} {osl : Array (Option Value)} {kV doc pm cdv ct : Value} (l : K.lookup f = some ⟨oc, od, .func (PySem.W.fnOf x qual (defArgs st) (defBody st) (defScope st) .none kV doc pm an cdv ct), osl⟩)
    (c : PySem.W.codeIn K cdv qual = true) (k : PySem.W.keepIn K (.ref f) = true) : Fun K x qual st f (PySem.W.fnOf x qual (defArgs st) (defBody st) (defScope st) .none kV doc pm an cdv ct) := ⟨⟨oc, od, kV, doc, pm, an, cdv, ct, osl, rfl, l, c⟩, k⟩
end
section
variable {X : Cx}
theorem pv (i : Nat) {x : Str} {pos : Pos} (hN : X.N[i]? = some x := by rfl) (hv : Vis X.env.scope x := by first | exact Or.inl rfl | exact Or.inr (Or.inl rfl) | exact Or.inr (Or.inr rfl)) (hd : (x == ("__debug__" : Str)) = false := by decide)
    (hcd : (x == ("__classdict__" : Str)) = false := by decide) : PE X (.Name x pos) (tVar i) := pe_var hN hv hd hcd
end
theorem iteF {A B : Prop} (h : B) : if false = true then A else B := by
  rw [if_neg Bool.false_ne_true]
  exact h
theorem iteT {A B : Prop} (h : A) : if true = true then A else B := by
  rw [if_pos rfl]
  exact h
theorem ite2 {c A B : Prop} [Decidable c] (h1 : c → A) (h2 : ¬ c → B) : if c then A else B := by
  by_cases h : c
  · rw [if_pos h]
    exact h1 h
  · rw [if_neg h]
    exact h2 h
theorem iteNS {c A B : Prop} [Decidable c] (hc : c) (h : B) : if (!decide c) = true then A else B := by
  rw [decide_eq_true hc]
  exact iteF h
def Same (H H' : Hp) : Prop := ∀ b o, H b = some o → H' b = some o
theorem Same.refl (H : Hp) : Same H H := fun _ _ h => h
theorem Same.free {H H' : Hp} (e : Same H H') {l : Addr} (h : H' l = Option.none) : H l = Option.none := by
  cases q : H l with
  | none => rfl
  | some o =>
    rw [e l o q] at h
    cases h
theorem Same.seq {K : PySem.W.Frag} {H H' : Hp} {a : Addr} {xs : List V} (e : Same H H') (h : SqL K H a xs) : SqL K H' a xs := by
  rcases h with (h | ⟨o, h⟩) | h
  · exact .inl (.inl (e _ _ h))
  · exact .inl (.inr ⟨o, e _ _ h⟩)
  · exact .inr h
end L2
namespace L2
open PySem PySem.Spec PyProof.Rows
def clo (cells : List (Str × Addr)) : List (Str × NameKind) → List (Str × Addr) → List (Str × Addr)
  | [], cs => cs
  | (n, k) :: r, cs => clo cells r (if k == .free then (n, (cells.lookup n).getD 0) :: cs else cs)
theorem clo_eq {env : Env} : ∀ (names : List (Str × NameKind)) (cs : List (Str × Addr)), (∀ y ∈ names, y.2 = .free → ∃ c, env.cells.lookup y.1 = some c) →
    (forIn names cs fun (x : Str × NameKind) (r : List (Str × Addr)) => (do
      let cs := r
      match x with
      | (name, kind) =>
        if kind == .free then do
          let c ← cellOf env name
          let cs := (name, c) :: cs
          pure (ForInStep.yield cs)
        else pure (ForInStep.yield cs) : Sem (ForInStep (List (Str × Addr))))) = pure (clo env.cells names cs)
  | [], cs, _ => rfl
  | (n, k) :: r, cs, h => by
    rw [List.forIn_cons]
    by_cases hk : k = .free
    · subst hk
      obtain ⟨c, hc⟩ := h (n, .free) List.mem_cons_self rfl
      have e : cellOf env n = pure c := by unfold cellOf; rw [hc]
      simp only [beq_self_eq_true, if_true, e, pure_bind]
      rw [clo_eq r _ fun y hy => h y (List.mem_cons_of_mem _ hy)]
      simp [clo, hc]
    · have hb : (k == NameKind.free) = false := by simpa using hk
      simp only [hb, Bool.false_eq_true, if_false, pure_bind]
      rw [clo_eq r _ fun y hy => h y (List.mem_cons_of_mem _ hy)]
      simp [clo, hb]
theorem closureFor_clo {env : Env} {scope : Scope} (h : ∀ y ∈ scope.names, y.2 = .free → ∃ c, env.cells.lookup y.1 = some c) : closureFor scope env = pure (clo env.cells scope.names []) := by
  unfold closureFor
  have e := clo_eq (env := env) scope.names [] h
  first
    | (rw [← e]; rfl)
    | (simp only [bind_pure]; exact e)
    | exact e
theorem clo_mem {cells : List (Str × Addr)} : ∀ (names : List (Str × NameKind)) (cs : List (Str × Addr)) (p : Str × Addr), p ∈ clo cells names cs → p ∈ cs ∨ p.2 = (cells.lookup p.1).getD 0
  | [], _, _, h => .inl h
  | (n, k) :: r, cs, p, h => by
    rcases clo_mem r _ p h with h' | h'
    · by_cases hk : (k == NameKind.free) = true
      · rw [if_pos hk] at h'
        rcases List.mem_cons.mp h' with e | e
        · subst e; exact .inr rfl
        · exact .inl e
      · rw [if_neg hk] at h'; exact .inl h'
    · exact .inr h'
theorem clo_keep {cells : List (Str × Addr)} : ∀ (names : List (Str × NameKind)) (cs : List (Str × Addr)) (x : Str), (cs.lookup x).isSome = true → ((clo cells names cs).lookup x).isSome = true
  | [], _, _, h => h
  | (n, k) :: r, cs, x, h => by
    refine clo_keep r _ x ?_
    by_cases hk : (k == NameKind.free) = true
    · rw [if_pos hk]
      rw [List.lookup_cons]
      cases x == n with
      | true => rfl
      | false => exact h
    · rw [if_neg hk]; exact h
theorem clo_has {cells : List (Str × Addr)} : ∀ (names : List (Str × NameKind)) (cs : List (Str × Addr)) (x : Str), (x, NameKind.free) ∈ names → ((clo cells names cs).lookup x).isSome = true
  | [], _, _, h => nomatch h
  | (n, k) :: r, cs, x, h => by
    show ((clo cells r _).lookup x).isSome = true
    rcases List.mem_cons.mp h with e | e
    · have e1 : x = n := congrArg Prod.fst e
      have e2 : NameKind.free = k := congrArg Prod.snd e
      subst e1
      subst e2
      refine clo_keep r _ x ?_
      rw [if_pos (by decide), List.lookup_cons]
      simp
    · exact clo_has r _ x e
theorem clo_sub {cells : List (Str × Addr)} {names : List (Str × NameKind)} {x : Str} {c : Addr} (h : (clo cells names []).lookup x = some c) : c = (cells.lookup x).getD 0 := by
  rcases clo_mem names [] _ (PySem.mem_of_lookup h) with z | z
  · exact nomatch z
  · exact z
theorem clo_free {cells : List (Str × Addr)} : ∀ {names : List (Str × NameKind)} (cs : List (Str × Addr)) {p : Str × Addr}, p ∈ clo cells names cs → p ∈ cs ∨ (p.1, NameKind.free) ∈ names
  | [], _, _, h => .inl h
  | (n, k) :: r, cs, p, h => by
    rcases clo_free (names := r) _ h with h' | h'
    · by_cases hk : (k == NameKind.free) = true
      · rw [if_pos hk] at h'
        rcases List.mem_cons.mp h' with e | e
        · subst e
          have : k = .free := by simpa using hk
          subst this
          exact .inr List.mem_cons_self
        · exact .inl e
      · rw [if_neg hk] at h'; exact .inl h'
    · exact .inr (List.mem_cons_of_mem _ h')
def compCx (X : Cx) (scope : Scope) (N : List Str) (s : Shared) (H : Hp) (ex : List Addr) : Cx :=
  { X with N := N, s₀ := s, H₀ := H, env := compEnvC scope (clo X.env.cells scope.names []) s.heap.objs.size X.env, outer := X.stack, stack := X.stack, ex := ex, fn := fun x => ((clo X.env.cells scope.names []).lookup x).isNone, pn := [], xe := fun _ _ => False }
def freeOk (sc scope : Scope) : Bool := scope.names.all fun y => (y.2 != .free) || (sc.names.lookup y.1 == some .cell) || (sc.names.lookup y.1 == some .free)
def ownOk (scope : Scope) : Bool := (scope.kind == .function) && (scope.names.all fun y => y.2 != .cell) && (scope.names.all fun y => y.2 != .local || scope.names.lookup y.1 == some .local)
def capOk (scope : Scope) (N N' : List Str) (cap : List (Option Nat)) : Bool := (cap.length == N'.length) && (N'.zip cap).all fun p => match p.2 with
  | none => true
  | some j => N[j]? == some p.1 && scope.names.lookup p.1 == some .free
def capSt (cap : List (Option Nat)) (σ : St) : St := cap.map fun o => o.bind fun j => (σ[j]?).bind id
theorem lookup_mapK {f : Str × NameKind → Str × NameKind} (hf : ∀ y, (f y).1 = y.1) (x : Str) : ∀ names : List (Str × NameKind), (names.map f).lookup x = (names.lookup x).map fun k => (f (x, k)).2
  | [] => rfl
  | (n, k) :: r => by
    have ih := lookup_mapK hf x r
    have e1 : (f (n, k)).1 = n := hf (n, k)
    have e2 : f (n, k) = (n, (f (n, k)).2) := Prod.ext e1 rfl
    rw [List.map_cons, e2, List.lookup_cons, List.lookup_cons]
    cases hx : x == n with
    | true =>
      have : x = n := by simpa using hx
      subst this
      rfl
    | false => exact ih
def rlb (env : Env) : Str × NameKind → Str × NameKind := fun (n, k) => if (k == NameKind.free && env.scope.kind == .function && env.kindOf n == some .cell) then (n, NameKind.cell) else (n, k)
theorem rlb_fst (env : Env) (y : Str × NameKind) : (rlb env y).1 = y.1 := by
  obtain ⟨n, k⟩ := y
  unfold rlb
  dsimp only
  split <;> rfl
theorem rlb_snd (env : Env) (n : Str) (k : NameKind) : (rlb env (n, k)).2 = k ∨ ((rlb env (n, k)).2 = .cell ∧ k = .free) := by
  unfold rlb
  dsimp only
  split
  · rename_i h
    rw [Bool.and_eq_true, Bool.and_eq_true] at h
    exact .inr ⟨rfl, by simpa using h.1.1⟩
  · exact .inl rfl
theorem relabel_names (scope : Scope) (env : Env) : (relabel scope env).names = scope.names.map (rlb env) := rfl
theorem relabel_free {scope : Scope} {env : Env} {x : Str} (h : scope.names.lookup x = some .free) : (relabel scope env).names.lookup x = some .cell ∨ (relabel scope env).names.lookup x = some .free := by
  rw [relabel_names, lookup_mapK (rlb_fst env), h]
  rcases rlb_snd env x .free with e | ⟨e, _⟩
  · exact .inr (congrArg some e)
  · exact .inl (congrArg some e)
theorem relabel_back {scope : Scope} {env : Env} {x : Str} {k' : NameKind} (hk : k' = .cell ∨ k' = .free) (hn : ∀ y ∈ scope.names, y.2 ≠ .cell) (h : (relabel scope env).names.lookup x = some k') : (x, NameKind.free) ∈ scope.names := by
  rw [relabel_names, lookup_mapK (rlb_fst env)] at h
  cases e : scope.names.lookup x with
  | none => rw [e] at h; cases h
  | some k =>
    rw [e] at h
    have h' : (rlb env (x, k)).2 = k' := Option.some.inj h
    have hm := PySem.mem_of_lookup e
    rcases rlb_snd env x k with z | ⟨_, z⟩
    · rw [z] at h'
      subst h'
      rcases hk with z2 | z2
      · exact absurd z2 (hn _ hm)
      · rw [z2] at hm; exact hm
    · rw [z] at hm; exact hm
def PTs (X : Cx) (ifs : List Expr) (t : TT) : Prop :=
  ∀ (pins : List (Addr × Obj)) (s : Shared) (σ : St) (H : Hp) (Q : Bool → Hp → Prop), Inv X pins σ H s → t σ H Q →
    wpAny (model X.prog X.w) X.A (forIn ifs true fun c r => if r = true then do let ok ← isTrue c X.env (eval c X.env); pure (ForInStep.yield ok) else pure (ForInStep.yield r)) (TP X pins σ Q) X.xe s
def tYes : TT := fun _ H Q => Q true H
theorem yesT {i : Nat} {x : V} {τ : St} {H : Hp} {A B : St → Hp → Prop} (h : A (τ.set i (some x)) H) : gName i x τ H fun τ4 H4 => tYes τ4 H4 fun b H5 => if b = true then A τ4 H5 else B τ4 H5 := by
  show if true = true then A (τ.set i (some x)) H else B (τ.set i (some x)) H
  rw [if_pos rfl]; exact h
theorem pts_nil {X : Cx} : PTs X [] tYes := fun _ _ _ H _ I h => wpAny_tests_nil ⟨H, I, h⟩
theorem pts_one {X : Cx} {c : Expr} {t : TT} (h : PT X c t) : PTs X [c] t := fun pins s σ H Q I hq => wpAny_tests_one (h pins s σ H Q I hq)
def tTurns (J : It) (acc : Addr) (g : TG) (tc : TT) (te : TE) (τ : St) (H1 : Hp) (Q : Hp → Prop) : Prop :=
  ∃ W : Nat → Nat → St → Hp → Prop, (∃ m, W 0 m τ (upd H1 acc (.lst []))) ∧ ∀ i m τ H2, W i m τ H2 → (J.stop i H2 ∧ Q H2) ∨ (J.go i H2 ∧ ∃ N : St → Hp → Prop, (∀ τ' H', N τ' H' → ∃ m', m' < m ∧ W (i + 1) m' τ' H') ∧ ∀ x H3, J.yld i H2 x H3 → g x τ H3 fun τ4 H4 =>
    tc τ4 H4 fun b H5 => if b = true then te τ4 H5 fun y H6 => ∃ ys, H6 acc = some (.lst ys) ∧ ys.length < sizeLine ∧ N τ4 (upd H6 acc (.lst (ys ++ [y]))) else N τ4 H5)
theorem comp_range {lo : Int} {n : Nat} {acc : Addr} {g : TG} {tc : TT} {te : TE} {τ : St} {H1 : Hp} {Q : Hp → Prop} (Pv : Nat → St → Hp → Prop) (h0 : Pv 0 τ (upd H1 acc (.lst [])))
    (hs : ∀ i τ H, i < n → Pv i τ H → g (.int (lo + i)) τ H fun τ4 H4 => tc τ4 H4 fun b H5 => if b = true then te τ4 H5 fun y H6 => ∃ ys, H6 acc = some (.lst ys) ∧ ys.length < sizeLine ∧ Pv (i + 1) τ4 (upd H6 acc (.lst (ys ++ [y]))) else Pv (i + 1) τ4 H5)
    (hd : ∀ τ H, Pv n τ H → Q H) : tTurns (Itr lo n) acc g tc te τ H1 Q := by
  refine ⟨fun i m τ H => m = n - i ∧ i ≤ n ∧ Pv i τ H, ⟨n, by simp, Nat.zero_le _, h0⟩, ?_⟩
  rintro i m τ H ⟨rfl, hi, p⟩
  by_cases hlt : i < n
  · refine .inr ⟨hlt, Pv (i + 1), fun τ' H' p' => ⟨n - (i + 1), by omega, rfl, hlt, p'⟩, fun x H' y => ?_⟩
    obtain ⟨e, y⟩ := y
    subst e y
    exact hs i τ _ hlt p
  · have e : i = n := by omega
    subst e
    exact .inl ⟨Nat.le_refl _, hd τ H p⟩
theorem comp_list {K : PySem.W.Frag} {a : Addr} {xs : List V} {acc : Addr} {g : TG} {tc : TT} {te : TE} {τ : St} {H1 : Hp} {Q : Hp → Prop} (Pv : Nat → St → Hp → Prop) (h0 : Pv 0 τ (upd H1 acc (.lst []))) (hl : ∀ i τ H, i ≤ xs.length → Pv i τ H → SqL K H a xs)
    (hs : ∀ i x τ H, xs[i]? = some x → Pv i τ H → g x τ H fun τ4 H4 => tc τ4 H4 fun b H5 => if b = true then te τ4 H5 fun y H6 => ∃ ys, H6 acc = some (.lst ys) ∧ ys.length < sizeLine ∧ Pv (i + 1) τ4 (upd H6 acc (.lst (ys ++ [y]))) else Pv (i + 1) τ4 H5)
    (hd : ∀ τ H, Pv xs.length τ H → Q H) : tTurns (Itl K a) acc g tc te τ H1 Q := by
  refine ⟨fun i m τ H => m = xs.length - i ∧ i ≤ xs.length ∧ Pv i τ H, ⟨xs.length, by simp, Nat.zero_le _, h0⟩, ?_⟩
  rintro i m τ H ⟨rfl, hi, p⟩
  have q := hl i τ H hi p
  by_cases hlt : i < xs.length
  · refine .inr ⟨⟨xs, xs[i], q, by simp [hlt]⟩, Pv (i + 1), fun τ' H' p' => ⟨xs.length - (i + 1), by omega, rfl, hlt, p'⟩, fun x H' y => ?_⟩
    obtain ⟨e, y⟩ := y
    subst e
    exact hs i x τ _ (y xs q) p
  · have e : i = xs.length := by omega
    subst e
    exact .inl ⟨⟨xs, q, Nat.le_refl _⟩, hd τ H p⟩
def tComp (wi : TI) (cap : List (Option Nat)) (g : TG) (tc : TT) (te : TE) : TE := fun σ H Q => wi σ H fun J H1 => ∀ acc, H1 acc = none → tTurns J acc g tc te (capSt cap σ) H1 (fun H2 => Q (.ref acc) H2)
abbrev cTests (ifs : List Expr) (env : Env) : Sem Bool := forIn ifs true fun c r => if r = true then do let ok ← isTrue c env (eval c env); pure (ForInStep.yield ok) else pure (ForInStep.yield r)
abbrev wpQ {α : Type} (prog : Program) (w : World) (A : Around) (m : Sem α) (Q : α → Shared → Prop) (s : Shared) : Prop := wpAny (model prog w) A m Q (fun _ _ => False) s
theorem comp_loop {prog : Program} {w : World} {A : Around} {R : Result → Shared → Prop} {s : Shared} {elt target iter : Expr} {ifs : List Expr} {scope : Scope} {pos : Pos} {it acc : Value} {env : Env} (I : Nat → Shared → Prop)
    (turn : ∀ k s0, I k s0 → wpQ prog w A (pyNext it) (fun r s1 => (r = none ∧ R (.ok .next) s1) ∨ ∃ v, r = some v ∧
      wpQ prog w A (letOwnedTupleGo target it v) (fun _ s2 => wpQ prog w A (assign target env v) (fun _ s3 => wpQ prog w A (cTests ifs env) (fun ok s4 =>
        (ok = false ∧ ∃ m, m < k ∧ I m s4) ∨ (ok = true ∧ wpQ prog w A (eval elt env) (fun x s5 => wpQ prog w A (call (.builtin "list.append") [acc, x]) (fun _ s6 => ∃ m, m < k ∧ I m s6) s5) s4)) s3) s2) s1) s0)
    (k : Nat) (h : I k s) : codeAny (model prog w) A (.compLoop (.ListComp elt [⟨target, iter, ifs, 0⟩] scope pos) 0 it acc env) R s := by
  have quiet : ∀ (e : Value) (s' : Shared), False → notedBy (model prog w) A env (fun e s' => R (.error e) s') e s' := fun _ _ z => z.elim
  apply codeAny_loop rfl I _ k h
  intro k s0 start
  apply wpAny_noted
  rw [compTurn_list]
  apply wpAny_bind
  apply wpAny_standAt
  apply wpAny_bind
  apply wpAny_mono (turn k s0 start) _ quiet
  rintro r s1 (⟨rfl, stop⟩ | ⟨v, rfl, rest⟩)
  · exact wpAny_pure stop
  apply wpAny_bind
  apply wpAny_mono rest _ quiet
  intro _ s2 h2
  apply wpAny_bind
  apply wpAny_mono h2 _ quiet
  intro _ s3 h3
  apply wpAny_bind
  apply wpAny_mono h3 _ quiet
  rintro ok s4 (⟨rfl, skip⟩ | ⟨rfl, add⟩)
  · exact wpAny_pure ⟨rfl, skip⟩
  apply wpAny_bind
  apply wpAny_bind
  apply wpAny_mono add _ quiet
  intro x s5 h5
  apply wpAny_bind
  apply wpAny_mono h5 _ quiet
  intro _ s6 h6
  exact wpAny_pure (wpAny_pure ⟨rfl, h6⟩)
section
variable {X : Cx} {tg iter elt : Expr} {ifs : List Expr} {scope : Scope} {pos : Pos} {wi : TI} {N' : List Str} {cap : List (Option Nat)} {g : TG} {tc : TT} {te : TE}
theorem comp_block {use : Option (Value → Sem Unit)} {R : Value → Shared → Prop} (sc : Scope) (hsc : X.env.scope = sc) (N₀ : List Str) (hN₀ : X.N = N₀) (f1 : freeOk sc scope = true) (f2 : ownOk scope = true) (f3 : capOk scope N₀ N' cap = true) (hcalm : X.calm = true)
    (hi : PI X tg iter wi)
    (hg : ∀ (s : Shared) (H : Hp) (ex : List Addr), PG (compCx X scope N' s H ex) tg g)
    (hc : ∀ (s : Shared) (H : Hp) (ex : List Addr), PTs (compCx X scope N' s H ex) ifs tc)
    (he : ∀ (s : Shared) (H : Hp) (ex : List Addr), PE (compCx X scope N' s H ex) elt te)
    (hs : ∀ x, foldedSetIterable iter X.env x = pure x)
    {pins : List (Addr × Obj)} {s : Shared} {σ : St} {H : Hp} {Q : V → Hp → Prop} (I : Inv X pins σ H s) (h : tComp wi cap g tc te σ H Q)
    (fin : ∀ (acc C : Addr) (s' : Shared) (H' : Hp) (m : Str → Option Value), Inv X pins σ H' s' → s'.heap.Ns C m → H' C = none → C ≠ X.env.locals → X.s₀.heap.objs.size ≤ C → (∀ x c, X.env.cells.lookup x = some c → c ≠ C) → (∀ p ∈ X.pn ++ pins, p.1 ≠ C) → Q (.ref acc) H' →
      compPost (model X.prog X.w) X.A X.xe use R (.ref acc) C (.ok .next) s') :
    wpAny (model X.prog X.w) X.A (comprehension (.ListComp elt [⟨tg, iter, ifs, 0⟩] scope pos) scope X.env (firstIterPos [⟨tg, iter, ifs, 0⟩] pos) (newList []) false (firstIter [⟨tg, iter, ifs, 0⟩] X.env) use) R X.xe s := by
  have ok := I.ok
  have fr : ∀ y ∈ scope.names, y.2 = .free → X.env.kindOf y.1 = some .cell ∨ X.env.kindOf y.1 = some .free := fun y hy e => by
    have q := List.all_eq_true.mp f1 y hy
    rw [e] at q
    have q' : ((sc.names.lookup y.1 == some NameKind.cell) || (sc.names.lookup y.1 == some NameKind.free)) = true := by simpa using q
    rw [Bool.or_eq_true] at q'
    unfold Env.kindOf
    rw [hsc]
    rcases q' with z | z
    · exact .inl (by simpa using z)
    · exact .inr (by simpa using z)
  obtain ⟨⟨k1, k2⟩, k3⟩ : ((scope.kind == .function) = true ∧ (scope.names.all fun y => y.2 != .cell) = true) ∧ (scope.names.all fun y => y.2 != .local || scope.names.lookup y.1 == some .local) = true := by
    unfold ownOk at f2
    rw [Bool.and_eq_true, Bool.and_eq_true] at f2
    exact f2
  have hkind : scope.kind = .function := by simpa using k1
  have hcell : ∀ y ∈ scope.names, y.2 ≠ .cell := fun y hy => by
    have q := List.all_eq_true.mp k2 y hy
    simpa using q
  have hnames : ∀ y ∈ scope.names, y.2 = .local → scope.names.lookup y.1 = some .local := fun y hy e => by
    have q := List.all_eq_true.mp k3 y hy
    rw [e] at q
    simpa using q
  have hclos : closureFor scope X.env = pure (clo X.env.cells scope.names []) := closureFor_clo fun y hy e => ok.has y.1 (fr y hy e)
  have clX : ∀ x c, (clo X.env.cells scope.names []).lookup x = some c → X.env.cells.lookup x = some c := fun x c e => by
    have e1 := clo_sub e
    have hx : (x, NameKind.free) ∈ scope.names := by
      rcases clo_free [] (PySem.mem_of_lookup e) with z | z
      · exact nomatch z
      · exact z
    obtain ⟨c', e2⟩ := ok.has x (fr (x, .free) hx rfl)
    rw [e2] at e1 ⊢
    rw [e1]; rfl
  refine wpAny_comprehension_free (use := use) rfl hs hclos hkind hnames ?_
  show wpAny (model X.prog X.w) X.A (eval iter X.env) _ X.xe s
  refine thn (hi pins s σ H _ I h) fun v s1 h1 => thn h1 fun itv s2 h2 => ?_
  obtain ⟨it, fp, tn, J, H2, e, I2, T, st2, f2', h3⟩ := h2
  subst e
  refine wpAny_newObj_type ?_
  have fresh2 : H2 s2.heap.objs.size = none := I2.hok.fresh (Nat.le_refl _)
  have I3 : Inv X pins σ (upd H2 s2.heap.objs.size (.lst [])) { s2 with heap := s2.heap.push { cls := .type "list", data := .seq ([] : List Value).toArray } } :=
    I2.laid (t' := s2.toks) (fun b o e => Heap.get?_push_of_some _ e) (Nat.le_refl _) ⟨Nat.zero_le _, [], 0, .nil, Heap.get?_push_size _ rfl⟩
  have st3 : tn 0 (s2.heap.push { cls := .type "list", data := .seq ([] : List Value).toArray }) := T.keep _ _ _ st2 fun b _ o e => Heap.get?_push_of_some _ e
  have fpne : ∀ b ∈ fp, b ≠ s2.heap.objs.size := fun b hb z => by
    obtain ⟨o, eo, _⟩ := T.obj 0 _ st2 b hb
    exact absurd (Heap.lt_size eo) (by rw [z]; exact Nat.lt_irrefl _)
  have fp3 : ∀ b ∈ fp, FpOk X pins (upd H2 s2.heap.objs.size (.lst [])) b := fun b hb => by
    obtain ⟨a0, a1⟩ := f2' b hb
    exact ⟨by rw [upd_ne (fpne b hb)]; exact a0, a1⟩
  obtain ⟨W, ⟨m0, w0⟩, turn⟩ := h3 s2.heap.objs.size fresh2
  generalize hacc : s2.heap.objs.size = acc at I3 fp3 w0 turn fpne ⊢
  generalize hs3 : ({ s2 with heap := s2.heap.push { cls := .type "list", data := .seq ([] : List Value).toArray } } : Shared) = s3 at I3 ⊢
  have st3 : tn 0 s3.heap := by rw [← hs3]; exact st3
  have accTr : (upd H2 acc (.lst [])) acc = some (.lst []) := upd_same
  refine wpAny_newFunctionEnv hcell (by intro y hy; cases hy) (fun h4 hns hsb => ?_) hkind
  have hCf : s3.heap.get? s3.heap.objs.size = none := Heap.get?_none_of_le (Nat.le_refl _)
  have kp4 : ∀ b o, s3.heap.get? b = some o → h4.get? b = some o := fun b o e => hsb.extBut b o (Nat.ne_of_lt (Heap.lt_size e)) (Heap.get?_push_of_some _ e)
  let Y : Cx := compCx X scope N' s3 (upd H2 acc (.lst [])) fp
  have envY : Y.env = compEnvC scope (clo X.env.cells scope.names []) s3.heap.objs.size X.env := rfl
  have okY : Y.Ok := by
    refine ⟨ok.mod, ?_, ok.glob, ok.blt, Nat.le_refl _, ?_, ?_, ?_, ok.hd, ok.frames, .inl rfl, ?_, ?_, ?_, ?_, ?_, ?_, ?_⟩
    · show (relabel scope X.env).kind = .function
      exact hkind
    · exact fun x y c h1 h2 => ok.inj x y c (clX x c h1) (clX y c h2)
    · intro x hx
      have hx' : (relabel scope X.env).names.lookup x = some .cell ∨ (relabel scope X.env).names.lookup x = some .free := hx
      have hm : (x, NameKind.free) ∈ scope.names := by
        rcases hx' with z | z
        · exact relabel_back (.inl rfl) hcell z
        · exact relabel_back (.inr rfl) hcell z
      exact Option.isSome_iff_exists.mp (clo_has scope.names [] x hm)
    · intro x c hx h1
      have hx' : ((clo X.env.cells scope.names []).lookup x).isNone = true := hx
      have h1' : (clo X.env.cells scope.names []).lookup x = some c := h1
      rw [h1'] at hx'; cases hx'
    · intro b hb
      obtain ⟨q0, q1, q2, q3, q4, q5⟩ := fp3 b hb
      refine ⟨?_, fun x c h1 => q4 x c (clX x c h1)⟩
      obtain ⟨o, eo, _⟩ := T.obj 0 _ st3 b hb
      exact Nat.ne_of_lt (Heap.lt_size eo)
    · exact fun b o e => I3.bs b o e
    · exact Nat.le_trans ok.bsz I3.sz
    · intro b o e hb
      obtain ⟨q0, q1, q2, q3, q4, q5⟩ := fp3 b hb
      rcases q3 with z | z
      · exact ok.noex b o e z
      · exact absurd (Nat.lt_of_lt_of_le (Heap.lt_size e) (Nat.le_trans ok.bsz z)) (Nat.lt_irrefl _)
    · intro b hb hf
      obtain ⟨q0, q1, q2, q3, q4, q5⟩ := fp3 b hb
      rcases List.mem_cons.mp (I3.stkSub b hf) with z | z
      · exact q1 z
      · exact q2 z
    · exact I3.stack
    · exact I3.stkFree
  have capl : cap.length = N'.length ∧ ∀ p ∈ N'.zip cap, (match p.2 with | none => true | some j => N₀[j]? == some p.1 && scope.names.lookup p.1 == some .free) = true := by
    unfold capOk at f3
    rw [Bool.and_eq_true] at f3
    exact ⟨by simpa using f3.1, fun p hp => List.all_eq_true.mp f3.2 p hp⟩
  have IY : Inv Y [] (capSt cap σ) (upd H2 acc (.lst [])) { s3 with heap := h4, toks := s3.toks + ([] : List (Str × Value)).length } := by
    refine ⟨okY, rfl, I3.bare, Un.kept kp4, ⟨_, hns, ?_⟩, ?_, ?_, ?_, fun p hp => absurd (show p ∈ ([] : List (Addr × Obj)) from hp) (by simp), I3.hok.kept kp4, ?_⟩
    · intro i x v e1 e2 e3
      have e1' : N'[i]? = some x := e1
      unfold capSt at e2
      rw [List.getElem?_map] at e2
      cases ec : cap[i]? with
      | none => rw [ec] at e2; cases e2
      | some o =>
        rw [ec] at e2
        cases o with
        | none => cases e2
        | some j =>
          have e2' : (σ[j]?).bind id = some v := by simpa using e2
          have hz : (x, some j) ∈ N'.zip cap := by
            refine List.mem_of_getElem? (i := i) ?_
            rw [List.getElem?_zip_eq_some]
            exact ⟨e1', ec⟩
          have q := capl.2 _ hz
          have q' : (N₀[j]? == some x) = true ∧ (scope.names.lookup x == some NameKind.free) = true := by simpa [Bool.and_eq_true] using q
          have q1 : X.N[j]? = some x := by rw [hN₀]; simpa using q'.1
          have q2 : scope.names.lookup x = some .free := by simpa using q'.2
          have eσ : σ[j]? = some (some v) := by
            cases z : σ[j]? with
            | none => rw [z] at e2'; cases e2'
            | some y =>
              rw [z] at e2'
              have : y = some v := e2'
              rw [this]
          have hk := fr (x, .free) (PySem.mem_of_lookup q2) rfl
          obtain ⟨m, hn, hl⟩ := I3.loc
          have vis : Vis X.env.scope x := by
            rcases hk with z | z
            · exact .inr (.inl z)
            · exact .inr (.inr z)
          obtain ⟨u, r, l⟩ := hl j x v q1 eσ vis
          refine ⟨u, r, .inr ⟨?_, ?_⟩⟩
          · rcases relabel_free (scope := scope) (env := X.env) q2 with z | z
            · exact .inl z
            · exact .inr z
          · rcases l with ⟨kl, _⟩ | ⟨_, c, ecx, hcx⟩
            · rcases hk with z | z
              · have z' : X.env.kindOf x = some .cell := z
                rw [kl] at z'; cases z'
              · have z' : X.env.kindOf x = some .free := z
                rw [kl] at z'; cases z'
            · have hh := clo_has (cells := X.env.cells) scope.names [] x (PySem.mem_of_lookup q2)
              obtain ⟨c', ec'⟩ := Option.isSome_iff_exists.mp hh
              have ec2 := clX x c' ec'
              rw [ecx] at ec2
              cases ec2
              exact ⟨c, ec', hcx.keeps kp4⟩
    · intro x c e
      obtain ⟨v, z⟩ := I3.cell x c (clX x c e)
      exact ⟨v, z.keeps kp4⟩
    · exact I3.hok.fresh (Nat.le_refl _)
    · exact fun x c e => I3.freeC x c (clX x c e)
    · show (capSt cap σ).length = N'.length
      unfold capSt
      rw [List.length_map]; exact capl.1
  have fpY : ∀ {H' : Hp}, (∀ b ∈ fp, H' b = none) → ∀ b ∈ fp, FpOk Y [] H' b := fun {H'} hn b hb => by
    obtain ⟨q0, q1, q2, q3, q4, q5⟩ := fp3 b hb
    refine ⟨hn b hb, (okY.exf b hb).1, okY.exfs b hb, .inl hb, (okY.exf b hb).2, fun p hp => absurd (show p ∈ ([] : List (Addr × Obj)) from hp) (by simp)⟩
  have st4 : tn 0 h4 := T.keep _ _ _ st3 fun b _ o e => kp4 b o e
  have back : ∀ {τ : St} {H' : Hp} {s' : Shared}, Inv Y [] τ H' s' → Q (.ref acc) H' → compPost (model X.prog X.w) X.A X.xe use R (.ref acc) s3.heap.objs.size (.ok .next) s' := fun {τ H' s'} J q => by
    have un : Un (frs X.stack) fp (upd H2 acc (.lst [])) H' s3.heap s'.heap := J.base
    have IX : Inv X pins σ H' s' := I3.call' (J.os) un J.hok J.bare fun b hb => by
      obtain ⟨q0, q1, q2, q3, q4, q5⟩ := fp3 b hb
      exact ⟨q3, q1, q4, q5⟩
    obtain ⟨m, hn, _⟩ := J.loc
    refine fin acc s3.heap.objs.size s' H' m IX hn J.free (Nat.ne_of_gt I3.lt) I3.sz (fun x c e z => ?_) (fun p hp z => ?_) q
    · obtain ⟨v, q⟩ := I3.cell x c e
      exact absurd q.lt (by rw [z]; exact Nat.lt_irrefl _)
    · exact absurd (Heap.lt_size (I3.pin p hp).1) (by rw [z]; exact Nat.lt_irrefl _)
  have loop : ∀ s5 : Shared, s5 = { s3 with heap := h4, toks := s3.toks + ([] : List (Str × Value)).length } →
      codeAny (model X.prog X.w) X.A (.compLoop (.ListComp elt [⟨tg, iter, ifs, 0⟩] scope pos) 0 (.ref it) (.ref acc) Y.env) (compPost (model X.prog X.w) X.A X.xe use R (.ref acc) s3.heap.objs.size) s5 := by
    rintro s5 rfl
    refine comp_loop (fun n s' => ∃ i τ H', Inv Y [] τ H' s' ∧ tn i s'.heap ∧ (∀ b ∈ fp, H' b = none) ∧ W i n τ H') ?_ m0 ⟨0, _, _, IY, st4, fun b hb => (fp3 b hb).1, w0⟩
    rintro n s6 ⟨i, τ, H6, I6, st6, fr6, w6⟩
    rcases turn i n τ H6 w6 with ⟨stop, q⟩ | ⟨go, N, hN, step⟩
    · refine wpAny_mono (T.done Y rfl rfl rfl hcalm i [] s6 τ H6 (fun _ _ => False) I6 (fpY fr6) st6 stop) (fun r s7 ⟨hr, I7⟩ => ?_) fun _ _ z => z.elim
      exact .inl ⟨hr, back I7 q⟩
    · refine wpAny_mono (T.item Y rfl rfl rfl hcalm i [] s6 τ H6 (fun _ _ => False) I6 (fpY fr6) st6 go) (fun r s6b ⟨u, hr, h7⟩ => ?_) fun _ _ z => z.elim
      refine .inr ⟨u, hr, ?_⟩
      refine wpAny_mono h7 (fun _ s7 ⟨x, H7, I7, r7, y7, st7, fr7⟩ => ?_) fun _ _ z => z.elim
      have I7' := I7.pinned (fpY fr7) (T.obj _ _ st7)
      have again : ∀ {τ8 : St} {H8 : Hp} {s8 : Shared}, Inv Y ([] ++ pinsAt fp s7.heap) τ8 H8 s8 → N τ8 H8 → ∃ m, m < n ∧ ∃ i τ H', Inv Y [] τ H' s8 ∧ tn i s8.heap ∧ (∀ b ∈ fp, H' b = none) ∧ W i m τ H' := fun {τ8 H8 s8} I8 n8 => by
        obtain ⟨m', hm, w8⟩ := hN τ8 H8 n8
        refine ⟨m', hm, i + 1, τ8, H8, I8.unpinned, T.keep _ _ _ st7 fun b hb o e => (I8.pin (b, o) (List.mem_append_right _ (List.mem_append_right _ (mem_pinsAt hb e)))).1, fun b hb => ?_, w8⟩
        obtain ⟨o, e, d⟩ := T.obj _ _ st7 b hb
        exact (I8.pin (b, o) (List.mem_append_right _ (List.mem_append_right _ (mem_pinsAt hb e)))).2.1
      refine wpAny_mono (hg s3 (upd H2 acc (.lst [])) fp _ s7 τ H7 x u _ I7' r7 (step x H7 y7)) (fun _ s8 ⟨τ8, H8, I8, q8⟩ => ?_) fun _ _ z => z.elim
      refine wpAny_mono (hc s3 (upd H2 acc (.lst [])) fp _ s8 τ8 H8 _ I8 q8) (fun b s9 ⟨H9, I9, q9⟩ => ?_) fun _ _ z => z.elim
      cases b with
      | false =>
        rw [if_neg Bool.false_ne_true] at q9
        exact .inl ⟨rfl, again I9 q9⟩
      | true =>
        rw [if_pos rfl] at q9
        refine .inr ⟨rfl, ?_⟩
        refine wpAny_mono (he s3 (upd H2 acc (.lst [])) fp _ s9 τ8 H9 _ I9 q9) (fun y s10 ⟨yv, H10, I10, r10, ys, hl, hz, q10⟩ => ?_) fun _ _ z => z.elim
        refine wpAny_mono (mt_append (X := Y) _ s10 τ8 H10 (.ref acc) [yv] (.ref acc) [y] (fun v H' => N τ8 H') I10 rfl (.cons r10 .nil) ⟨acc, ys, yv, rfl, rfl, hl, hz, q10⟩) (fun v s11 ⟨vv, H11, I11, r11, q11⟩ => ?_) fun _ _ z => z.elim
        exact again I11 q11
  exact codeAny_compStart_list (loop _ rfl) (T.self _ _ _ _ _ st4 (loop _ rfl))
theorem pe_comp (sc : Scope) (hsc : X.env.scope = sc) (N₀ : List Str) (hN₀ : X.N = N₀) (N' : List Str) (cap : List (Option Nat)) (f1 : freeOk sc scope = true) (f2 : ownOk scope = true) (f3 : capOk scope N₀ N' cap = true) (hcalm : X.calm = true)
    (hi : PI X tg iter wi)
    (hg : ∀ (s : Shared) (H : Hp) (ex : List Addr), PG (compCx X scope N' s H ex) tg g)
    (hc : ∀ (s : Shared) (H : Hp) (ex : List Addr), PTs (compCx X scope N' s H ex) ifs tc)
    (he : ∀ (s : Shared) (H : Hp) (ex : List Addr), PE (compCx X scope N' s H ex) elt te)
    (hs : ∀ x, foldedSetIterable iter X.env x = pure x := by intro _; rfl) :
    PE X (.ListComp elt [⟨tg, iter, ifs, 0⟩] scope pos) (tComp wi cap g tc te) := by
  intro pins s σ H Q I h
  rw [eval_ListComp]
  refine comp_block (use := none) sc hsc N₀ hN₀ f1 f2 f3 hcalm hi hg hc he hs I h ?_
  intro acc C s' H' m IX hn hC h1 h2 h3 h4 q
  refine ⟨m, hn, fun h'' hs'' => ?_⟩
  exact ⟨.ref acc, H', IX.turned (t' := s'.toks) (fun b o hb e => (hs''.2 b hb).trans e) hC h1 (.inr h2) h3 h4, rfl, q⟩
theorem ps_setComp {i : Nat} {x : Str} {pos' spos : Pos} (sc : Scope) (hsc : X.env.scope = sc) (N₀ : List Str) (hN₀ : X.N = N₀) (N' : List Str) (cap : List (Option Nat)) (f1 : freeOk sc scope = true) (f2 : ownOk scope = true) (f3 : capOk scope N₀ N' cap = true) (hcalm : X.calm = true)
    (hnd : X.N.Nodup) (hix : X.N[i]? = some x) (hx : X.env.scope.names.lookup x = some .local)
    (hi : PI X tg iter wi)
    (hg : ∀ (s : Shared) (H : Hp) (ex : List Addr), PG (compCx X scope N' s H ex) tg g)
    (hc : ∀ (s : Shared) (H : Hp) (ex : List Addr), PTs (compCx X scope N' s H ex) ifs tc)
    (he : ∀ (s : Shared) (H : Hp) (ex : List Addr), PE (compCx X scope N' s H ex) elt te)
    (hsw : swapsWith (.ListComp elt [⟨tg, iter, ifs, 0⟩] scope pos) (some (.Name x pos')) spos.line X.env = pure true)
    (hs : ∀ x, foldedSetIterable iter X.env x = pure x := by intro _; rfl) :
    PS X (.Assign [.Name x pos'] (.ListComp elt [⟨tg, iter, ifs, 0⟩] scope pos) spos) (tAsg (tComp wi cap g tc te) (gName i)) := by
  intro pins s σ H D I h
  rw [exec_Assign_Name_used _ _ _ _ hsw]
  refine wpAny_bind (wpAny_standAt (wpAny_bind ?_))
  show wpAny _ X.A (do let _ ← comprehension (.ListComp elt [⟨tg, iter, ifs, 0⟩] scope pos) scope X.env _ (newList []) false (firstIter [⟨tg, iter, ifs, 0⟩] X.env) (some (assign (.Name x pos') X.env))) _ _ s
  refine wpAny_bind (wpAny_mono (comp_block (use := some (assign (.Name x pos') X.env)) (R := fun _ s' => SP X pins D .next s') sc hsc N₀ hN₀ f1 f2 f3 hcalm hi hg hc he hs I h ?_) (fun _ s' hq => wpAny_pure (wpAny_pure hq)) fun _ _ e => e)
  intro acc C s' H' m IX hn hC h1 h2 h3 h4 q
  show wpAny _ X.A (assign (.Name x pos') X.env (.ref acc)) _ _ _
  refine wpAny_assign_Name (store_ok2 (v := .ref acc) IX hnd hix (.inl hx) rfl (fun s2 I2 hsb => ?_) (.inr hx))
  obtain ⟨a, sb, ha⟩ := hsb
  have hCa : C ≠ a := by
    rcases ha with z | z
    · rw [z]; exact h1
    · exact fun w => h3 x a z w.symm
  refine ⟨m, hn.sameBut sb hCa, fun h'' hs'' => ?_⟩
  exact ⟨_, H', I2.turned (t' := s2.toks) (fun b o hb e => (hs''.2 b hb).trans e) hC h1 (.inr h2) h3 h4, q⟩
end
end L2
namespace L2
open PySem PySem.Spec PyProof.Rows
section
variable {X : Cx}
def rGetL (K : PySem.W.Frag) : V → V → Hp → VK → Prop := fun x y H Q => ∃ p xs j v, x = .ref p ∧ y = .int (j : Nat) ∧ SqL K H p xs ∧ xs[j]? = some v ∧ Q v H
theorem get_list : PGet X (rGetL X.K) := by
  intro pins s σ H o i ov iv Q I ro ri h
  obtain ⟨p, xs, j, z, rfl, rfl, hq, he, q⟩ := h
  cases ro
  obtain ⟨t, rfl⟩ := ri
  obtain ⟨its, r, pl, hz⟩ := I.list hq
  obtain ⟨w, ew, rw'⟩ := r.get he
  have hl := r.length
  have hn := line63
  have hj : j < xs.length := (List.getElem?_eq_some_iff.mp he).1
  exact wpAny_getItem_list pl.isList (by omega) (by omega) (by rw [Int.toNat_natCast]; simpa using ew) ⟨z, H, I, rw', q⟩
theorem range_all' : ∀ (bs : List Bool), ((List.range bs.length).all fun i => (bs[i]?).getD true) = bs.all id := by
  intro bs
  rw [Bool.eq_iff_iff]
  simp only [List.all_eq_true, List.mem_range, id_eq]
  constructor
  · intro h b hb
    obtain ⟨i, hi, e⟩ := List.getElem_of_mem hb
    have := h i hi
    rw [List.getElem?_eq_getElem hi, e] at this
    exact this
  · intro h i hi
    rw [List.getElem?_eq_getElem hi]
    exact h _ (List.getElem_mem hi)
theorem call_all (hc : X.calm = true) : CallR X (.builtin "all") (fun xs H Q => ∃ (p : Addr) (bs : List Bool), xs = [.ref p] ∧ SqL X.K H p (bs.map V.bl) ∧ Q (.bl (bs.all id)) H) := by
  intro pins s σ H xs us Q I r h
  obtain ⟨p, bs, rfl, hq, q⟩ := h
  obtain ⟨u, rfl, ru⟩ := vals1 r
  cases ru
  obtain ⟨its, r1, p1, hz⟩ := I.list hq
  have hl := p1.isList
  have hlt : p < s.heap.objs.size := p1.lt
  have hlen := r1.length
  rw [List.length_map] at hlen
  refine call_all_walk (wpAny_pyIter_list hl ?_)
  refine ⟨s.heap.objs.size, [s.heap.objs.size, p], [s.heap.objs.size], its.toArray.size, _, _, fun i => (bs[i]?).getD true, rfl, Walks.list (A := X.A.in1) (I.ok.hd hc) _ p (Nat.ne_of_lt hlt) its.toArray,
    ⟨⟨_, Heap.get?_push_size _ rfl, rfl, rfl⟩, hl.push _⟩, fun i v s' Q' E' hP hQ => ?_, fun h' tk hk => ?_⟩
  · have hP' : its[i]? = some v := by simpa using hP
    have hi : i < bs.length := by
      have := (List.getElem?_eq_some_iff.mp hP').1
      omega
    obtain ⟨u, eu, ru⟩ := r1.get (x := .bl bs[i]) (by rw [List.getElem?_map, List.getElem?_eq_getElem hi]; rfl)
    rw [hP'] at eu
    cases eu
    cases ru
    dsimp only at hQ
    rw [List.getElem?_eq_getElem hi] at hQ
    exact wpAny_truthy_bool hQ
  · have e : ((List.range its.toArray.size).all fun i => (bs[i]?).getD true) = bs.all id := by
      rw [List.size_toArray, ← hlen]; exact range_all' bs
    rw [e]
    refine ⟨.bl _, H, I.kept fun b o eo => hk b o (fun hm => ?_) (Heap.get?_push_of_some _ eo), rfl, q⟩
    rw [List.mem_singleton.mp hm] at eo
    exact Nat.lt_irrefl _ (Heap.lt_size eo)
end
end L2
namespace L2
open PySem PySem.Spec PyProof.Rows
section
variable {X : Cx} {st : Stmt} {rest : List Stmt} {t u : TS}
def tSeqM (t u : TS) : TS := fun D σ H => ∃ M : St → Hp → Prop, t { D with nx := M } σ H ∧ ∀ σ' H', M σ' H' → u D σ' H'
theorem pss_consM (h1 : PS X st t) (h2 : PSs X rest u) : PSs X (st :: rest) (tSeqM t u) := by
  intro pins s σ H D I h
  obtain ⟨M, ha, hb⟩ := h
  refine wpAny_execs_cons (thn (h1 pins s σ H { D with nx := M } I ha) fun f s1 q => ?_)
  cases f with
  | next =>
    obtain ⟨σ', H', I', q⟩ := q
    exact h2 pins s1 σ' H' D I' (hb σ' H' q)
  | ret v => exact q
  | brk => exact q
  | cont => exact q
end
end L2
namespace L2
open PySem PySem.Spec PyProof.Rows
def RetL (H : Hp) (P : List V → Prop) (Q : VK) : Prop := ∀ (l : Addr) (H' : Hp) (xs : List V), Same H H' → H l = none → H' l = some (.lst xs) → P xs → Q (.ref l) H'
structure Df (K : PySem.W.Frag) (mg : Str → Option Value) (x : Str) (st : Stmt) (ps : List Str) (a : Addr) (fd : FuncData) : Prop where
  F : Fun K x x st a fd
  b : Binds K fd ps []
  m : mg x = some (.ref a)
theorem Same.upd {H H' : Hp} {l : Addr} {o : HO} (s : Same H H') (h : H l = none) : Same H (L2.upd H' l o) := fun b u e => by
  rw [upd_ne (ne_of_none e h)]; exact s b u e
theorem ints_get {ns : List Int} {i : Nat} {y : V} (h : (ns.map V.int)[i]? = some y) : ∃ z, ns[i]? = some z ∧ y = V.int z := by
  rw [List.getElem?_map] at h
  cases e : ns[i]? with
  | none => rw [e] at h; cases h
  | some z => rw [e] at h; exact ⟨z, rfl, (Option.some.inj h).symm⟩
theorem ints_at {ns : List Int} {i : Nat} {z : Int} (h : ns[i]? = some z) : atI (ns.map V.int) (i : Int) = some (V.int z) := atI_nat (by rw [List.getElem?_map, h]; rfl)
theorem ints_atI {ns : List Int} {i : Int} {z : Int} (h0 : 0 ≤ i) (h : ns[i.toNat]? = some z) : atI (ns.map V.int) i = some (V.int z) := by
  obtain ⟨k, rfl⟩ := Int.eq_ofNat_of_zero_le h0
  exact ints_at (by simpa using h)
theorem ixN_nat {n j : Nat} (h : j < n) : ixN n (j : Int) = some j := by
  unfold ixN
  rw [if_pos (by omega), if_pos (by omega)]; simp
theorem rep_one {α : Type} (n : Nat) (x : α) : (List.replicate n [x]).flatten = List.replicate n x := by
  induction n with
  | zero => rfl
  | succ n ih => rw [List.replicate_succ, List.flatten_cons, ih, List.replicate_succ]; rfl
theorem small100 {n : Nat} (h : n ≤ 100000) : n ≤ sizeLine := Nat.le_trans h (by decide)
theorem small100' {n : Nat} (h : n ≤ 100000) : n < sizeLine := Nat.lt_of_le_of_lt h (by decide)
structure Blt (mg : Str → Option Value) : Prop where
  len : mg "len" = none
  range : mg "range" = none
  list : mg "list" = none
  isinstance : mg "isinstance" = none
  bool : mg "bool" = none
  int : mg "int" = none
  all : mg "all" = none
  min : mg "min" = none
  max : mg "max" = none
  sum : mg "sum" = none
  sorted : mg "sorted" = none
  zip : mg "zip" = none
  tuple : mg "tuple" = none
  str : mg "str" = none
  any : mg "any" = none
  enumerate : mg "enumerate" = none
  reversed : mg "reversed" = none
  abs : mg "abs" = none
  ValueError : mg "ValueError" = none
structure Mth (mg : Str → Option Value) : Prop where
  MOUTH : ∃ t, mg "MOUTH" = some (.int (-1) t)
section
variable {X : Cx} {K : PySem.W.Frag}
theorem ix_listK (h : X.K = K) : IxR X (rIxL K) := h ▸ ix_list
theorem call_len_seqK (h : X.K = K) : CallR X (.builtin "len") (fun xs H Q => ∃ p ys, xs = [.ref p] ∧ (SqL K H p ys ∨ SqT K H p ys) ∧ Q (.int ys.length) H) := h ▸ call_len_seq
theorem op_in_seqK (h : X.K = K) : OpR X (compareOp .In) (rIn K false) := h ▸ op_in_seq
end
end L2
namespace L2
open PySem PySem.W PyProof.Rows
structure Arr (N : Nat) (p : Array Nat) : Prop where
  size : p.size = N
  perm : p.toList.Perm (List.range N)
theorem Arr.start (N : Nat) : Arr N (List.toArray (List.range N)) := ⟨by simp, by simp⟩
theorem Arr.nd {N : Nat} {p : Array Nat} (h : Arr N p) : p.toList.Nodup := h.perm.nodup_iff.mpr List.nodup_range
theorem Arr.get {N : Nat} {p : Array Nat} (h : Arr N p) {i : Nat} (hi : i < N) : p.toList[i]? = some (p.getD i 0) := by
  have hi' : i < p.size := by rw [h.size]; exact hi
  simp [Array.getD, hi']
theorem Arr.lt {N : Nat} {p : Array Nat} (h : Arr N p) {i : Nat} (hi : i < N) : p.getD i 0 < N := by
  have := h.perm.mem_iff.mp (List.mem_of_getElem? (h.get hi))
  exact List.mem_range.mp this
theorem Arr.ne {N : Nat} {p : Array Nat} (h : Arr N p) {i j : Nat} (hi : i < N) (hj : j < N) (hij : i ≠ j) : p.getD i 0 ≠ p.getD j 0 := by
  intro e
  obtain ⟨a1, a2⟩ := List.getElem?_eq_some_iff.mp (h.get hi)
  obtain ⟨b1, b2⟩ := List.getElem?_eq_some_iff.mp (h.get hj)
  exact hij ((List.getElem_inj h.nd).mp (by rw [a2, b2, e]))
theorem Arr.of_perm {N : Nat} {p q : Array Nat} (h : Arr N p) (hs : q.size = p.size) (hp : q.Perm p) : Arr N q := ⟨hs.trans h.size, (Array.perm_iff_toList_perm.mp hp).trans h.perm⟩
theorem Arr.rev {N : Nat} {p : Array Nat} (h : Arr N p) (i j : Nat) : Arr N (kas_rev p i j) := h.of_perm (mirror_size _ _ _ _) (mirror_perm _ _ _ _)
theorem Arr.bub {N : Nat} {p : Array Nat} (h : Arr N p) (k d : Nat) : Arr N (bubble p k d) := h.of_perm (bubble_size _ _ _) (bubble_perm _ _ _)
theorem getD_of {p q : Array Nat} {i j : Nat} (h : p[i]? = q[j]?) : p.getD i 0 = q.getD j 0 := by
  rw [Array.getD_eq_getD_getElem?, Array.getD_eq_getD_getElem?, h]
theorem rev_get {N : Nat} {p : Array Nat} (h : Arr N p) {n k : Nat} (hn : n ≤ N) (hk : k < n) : (kas_rev p 0 n).getD k 0 = p.getD (n - 1 - k) 0 := by
  refine getD_of ?_
  unfold kas_rev
  rw [getElem?_mirror (by rw [h.size]; exact hn) ((n - 0) / 2) (by omega) k]
  split
  · congr 1; omega
  · congr 1; omega
theorem bub_get {N : Nat} {p : Array Nat} (h : Arr N p) {k l j : Nat} (hk : k < N) (hl : l ≤ k) : (bubble p k (k - l)).getD j 0 = if j = l then p.getD k 0 else if l < j ∧ j ≤ k then p.getD (j - 1) 0 else p.getD j 0 := by
  have e := getElem?_bubble (xs := p) (src := k) (by rw [h.size]; exact hk) (k - l) (by omega) j
  have e1 : k - (k - l) = l := by omega
  rw [e1] at e
  by_cases h1 : j = l
  · rw [if_pos h1] at e ⊢; exact getD_of e
  · rw [if_neg h1] at e ⊢
    by_cases h2 : l < j ∧ j ≤ k
    · rw [if_pos h2] at e ⊢; exact getD_of e
    · rw [if_neg h2] at e ⊢; exact getD_of e
section
variable {N : Nat} {κ : Nat → Int} {R : Shared → Prop} {cmp : Nat → Nat → (Bool → Shared → Prop) → Shared → Prop}
def Srt (κ : Nat → Int) (p : Array Nat) (n : Nat) : Prop := ∀ i j, i < j → j < n → κ (p.getD i 0) < κ (p.getD j 0)
def Dsc (κ : Nat → Int) (p : Array Nat) (n : Nat) : Prop := ∀ i j, i < j → j < n → κ (p.getD j 0) < κ (p.getD i 0)
def Cmp (N : Nat) (κ : Nat → Int) (R : Shared → Prop) (cmp : Nat → Nat → (Bool → Shared → Prop) → Shared → Prop) : Prop :=
  ∀ i j C s, i < N → j < N → R s → (∀ s', R s' → C (decide (κ i < κ j)) s') → cmp i j C s
def Inj (N : Nat) (κ : Nat → Int) : Prop := ∀ i j, i < N → j < N → i ≠ j → κ i ≠ κ j
theorem Srt.snoc {p : Array Nat} {n : Nat} (h : Srt κ p n) (hn : 1 ≤ n) (e : κ (p.getD (n - 1) 0) < κ (p.getD n 0)) : Srt κ p (n + 1) := fun i j hij hj => by
  by_cases hjn : j = n
  · subst hjn
    by_cases hi : i = j - 1
    · rw [hi]; exact e
    · have := h i (j - 1) (by omega) (by omega)
      omega
  · exact h i j hij (by omega)
theorem Dsc.snoc {p : Array Nat} {n : Nat} (h : Dsc κ p n) (hn : 1 ≤ n) (e : κ (p.getD n 0) < κ (p.getD (n - 1) 0)) : Dsc κ p (n + 1) := fun i j hij hj => by
  by_cases hjn : j = n
  · subst hjn
    by_cases hi : i = j - 1
    · rw [hi]; exact e
    · have := h i (j - 1) (by omega) (by omega)
      omega
  · exact h i j hij (by omega)
variable (hc : Cmp N κ R cmp) (hI : Inj N κ)
include hc hI
theorem tree_asc {p : Array Nat} (A : Arr N p) {Q : Nat → Shared → Prop} : ∀ (f n : Nat) (s : Shared), 1 ≤ n → n + f = N → Srt κ p n → R s →
    (∀ m s', n ≤ m → m ≤ N → Srt κ p m → (m < N → κ (p.getD m 0) < κ (p.getD (m - 1) 0)) → R s' → Q m s') → (kas_asc p f n).kasWp cmp Q s
  | 0, n, s, h1, hf, hS, r, k => k n s (Nat.le_refl _) (by omega) hS (fun z => by omega) r
  | f + 1, n, s, h1, hf, hS, r, k => by
    unfold kas_asc
    refine hc _ _ _ s (A.lt (by omega)) (A.lt (by omega)) r fun s' r' => ?_
    by_cases hlt : κ (p.getD n 0) < κ (p.getD (n - 1) 0)
    · rw [decide_eq_true hlt]; dsimp only; rw [if_pos rfl]
      exact k n s' (Nat.le_refl _) (by omega) hS (fun _ => hlt) r'
    · rw [decide_eq_false hlt]; dsimp only; rw [if_neg Bool.false_ne_true]
      have hne := hI _ _ (A.lt (show n < N by omega)) (A.lt (show n - 1 < N by omega)) (A.ne (show n < N by omega) (show n - 1 < N by omega) (by omega))
      exact tree_asc A f (n + 1) s' (by omega) (by omega) (hS.snoc h1 (by omega)) r' fun m s2 a b c d e => k m s2 (by omega) b c d e
theorem tree_desc {p : Array Nat} (A : Arr N p) {Q : Array Nat × Nat × Nat → Shared → Prop} : ∀ (f n : Nat) (s : Shared), 1 ≤ n → n + f = N → Dsc κ p n → R s →
    (∀ m s', n ≤ m → m ≤ N → Dsc κ p m → R s' → Q (p, m, 0) s') → (kas_desc f p n 0).kasWp cmp Q s
  | 0, n, s, h1, hf, hS, r, k => k n s (Nat.le_refl _) (by omega) hS r
  | f + 1, n, s, h1, hf, hS, r, k => by
    unfold kas_desc
    refine hc _ _ _ s (A.lt (by omega)) (A.lt (by omega)) r fun s' r' => ?_
    by_cases hlt : κ (p.getD n 0) < κ (p.getD (n - 1) 0)
    · rw [decide_eq_true hlt]; dsimp only; rw [if_pos rfl, if_neg (by omega)]
      exact tree_desc A f (n + 1) s' (by omega) (by omega) (hS.snoc h1 hlt) r' fun m s2 a b c d => k m s2 (by omega) b c d
    · rw [decide_eq_false hlt]; dsimp only; rw [if_neg Bool.false_ne_true]
      have hne := hI _ _ (A.lt (show n < N by omega)) (A.lt (show n - 1 < N by omega)) (A.ne (show n < N by omega) (show n - 1 < N by omega) (by omega))
      refine hc _ _ _ s' (A.lt (by omega)) (A.lt (by omega)) r' fun s2 r2 => ?_
      rw [decide_eq_true (by omega)]; dsimp only; rw [if_pos rfl]
      exact k n s2 (Nat.le_refl _) (by omega) hS r2
theorem tree_count {p : Array Nat} (A : Arr N p) (h2 : 2 ≤ N) {Q : Nat × Array Nat → Shared → Prop} {s : Shared} (r : R s)
    (k : ∀ m p' s', 1 ≤ m → m ≤ N → Arr N p' → Srt κ p' m → R s' → Q (m, p') s') : (kas_count N p).kasWp cmp Q s := by
  unfold kas_count
  rw [KasT.kasWp_bind]
  refine tree_asc hc hI A (N - 1) 1 s (Nat.le_refl _) (by omega) (fun i j a b => by omega) r fun n s' h1 hn hS hd r' => ?_
  by_cases hnN : n = N
  · rw [if_pos (by simp [hnN])]
    exact k n p s' h1 hn A hS r'
  · rw [if_neg (by simp [hnN])]
    have hd' := hd (by omega)
    by_cases h1n : n > 1
    · rw [if_pos h1n]
      refine hc _ _ _ s' (A.lt (by omega)) (A.lt (by omega)) r' fun s2 r2 => ?_
      rw [decide_eq_true (hS 0 (n - 1) (by omega) (by omega))]; dsimp only; rw [if_pos rfl]
      exact k n p s2 h1 hn A hS r2
    · rw [if_neg h1n]
      have hn1 : n = 1 := by omega
      subst hn1
      unfold kas_descPart
      rw [KasT.kasWp_bind]
      refine tree_desc hc hI A (N - 2) 2 s' (by omega) (by omega) (fun i j a b => ?_) r' fun m s2 hm2 hm hD r2 => ?_
      · have hi : i = 0 := by omega
        have hj : j = 1 := by omega
        subst hi; subst hj
        exact hd'
      · rw [if_neg (by show ¬ (0 : Nat) > 0; omega)]
        show (kas_tail3 m N p).kasWp cmp Q s2
        unfold kas_tail3
        rw [KasT.kasWp_bind]
        refine tree_asc hc hI (A.rev 0 m) (N - m) m s2 (by omega) (by omega) (fun i j a b => ?_) r2 fun m' s3 a b c d e => ?_
        · rw [rev_get A hm (by omega), rev_get A hm (by omega)]
          exact hD _ _ (by omega) (by omega)
        · exact k m' _ s3 (by omega) b (A.rev 0 m) c e
theorem tree_place {p : Array Nat} (A : Arr N p) {k : Nat} (hk : k < N) (hS : Srt κ p k) {Q : Nat → Shared → Prop} : ∀ (f l r : Nat) (s : Shared), l ≤ r → r ≤ k → r - l ≤ f →
    (∀ i, i < l → κ (p.getD i 0) < κ (p.getD k 0)) → (∀ i, r ≤ i → i < k → κ (p.getD k 0) < κ (p.getD i 0)) → R s →
    (∀ l s', l ≤ k → (∀ i, i < l → κ (p.getD i 0) < κ (p.getD k 0)) → (∀ i, l ≤ i → i < k → κ (p.getD k 0) < κ (p.getD i 0)) → R s' → Q l s') → (kas_place p k f l r).kasWp cmp Q s
  | 0, l, r, s, h1, h2, hf, ha, hb, hr, q => by
    have e : l = r := by omega
    subst e
    exact q l s h2 ha hb hr
  | f + 1, l, r, s, h1, h2, hf, ha, hb, hr, q => by
    unfold kas_place
    by_cases hlr : l ≥ r
    · rw [if_pos hlr]
      have e : l = r := by omega
      subst e
      exact q l s h2 ha hb hr
    · rw [if_neg hlr]
      have m1 : (l + r) / 2 < r := by omega
      have m0 : l ≤ (l + r) / 2 := by omega
      refine hc _ _ _ s (A.lt hk) (A.lt (by omega)) hr fun s' r' => ?_
      by_cases hlt : κ (p.getD k 0) < κ (p.getD ((l + r) / 2) 0)
      · rw [decide_eq_true hlt]; dsimp only; rw [if_pos rfl]
        refine tree_place A hk hS f l ((l + r) / 2) s' m0 (by omega) (by omega) ha (fun i hi hik => ?_) r' q
        by_cases he : i = (l + r) / 2
        · rw [he]; exact hlt
        · have := hS ((l + r) / 2) i (by omega) hik
          omega
      · rw [decide_eq_false hlt]; dsimp only; rw [if_neg Bool.false_ne_true]
        have hne := hI _ _ (A.lt hk) (A.lt (show (l + r) / 2 < N by omega)) (A.ne hk (show (l + r) / 2 < N by omega) (by omega))
        refine tree_place A hk hS f ((l + r) / 2 + 1) r s' (by omega) h2 (by omega) (fun i hi => ?_) hb r' q
        by_cases he : i = (l + r) / 2
        · rw [he]; omega
        · have := hS i ((l + r) / 2) (by omega) (by omega)
          omega
theorem tree_bin {Q : Array Nat → Shared → Prop} (q : ∀ p s', Arr N p → Srt κ p N → R s' → Q p s') : ∀ (f : Nat) (p : Array Nat) (k : Nat) (s : Shared), Arr N p → k + f = N → Srt κ p k → R s → (kas_bin f p k).kasWp cmp Q s
  | 0, p, k, s, A, hf, hS, r => by
    have e : k = N := by omega
    subst e
    exact q p s A hS r
  | f + 1, p, k, s, A, hf, hS, r => by
    unfold kas_bin
    rw [KasT.kasWp_bind]
    refine tree_place hc hI A (show k < N by omega) hS k 0 k s (Nat.zero_le _) (Nat.le_refl _) (by omega) (fun i hi => by omega) (fun i a b => by omega) r fun l s' hl ha hb r' => ?_
    refine tree_bin q f _ (k + 1) s' (A.bub k (k - l)) (by omega) (fun i j hij hj => ?_) r'
    rw [bub_get A (by omega) hl, bub_get A (by omega) hl]
    by_cases h1 : i = l
    · rw [if_pos h1, if_neg (by omega), if_pos (by omega)]
      exact hb _ (by omega) (by omega)
    · rw [if_neg h1]
      by_cases h2 : j = l
      · rw [if_pos h2, if_neg (by omega)]
        exact ha _ (by omega)
      · rw [if_neg h2]
        by_cases h3 : l < i ∧ i ≤ k
        · rw [if_pos h3, if_pos (by omega)]
          exact hS _ _ (by omega) (by omega)
        · rw [if_neg h3]
          by_cases h4 : l < j ∧ j ≤ k
          · rw [if_pos h4]
            by_cases h5 : i < j - 1
            · exact hS _ _ h5 (by omega)
            · omega
          · rw [if_neg h4]
            exact hS _ _ hij (by omega)
theorem tree_sort (h2 : 2 ≤ N) {Q : Array Nat → Shared → Prop} {s : Shared} (r : R s) (q : ∀ p s', Arr N p → Srt κ p N → R s' → Q p s') : (kas_sort N).kasWp cmp Q s := by
  unfold kas_sort
  rw [KasT.kasWp_bind]
  refine tree_count hc hI (Arr.start N) h2 r fun m p' s' h1 hm A hS r' => ?_
  by_cases hlt : m < N
  · rw [if_pos hlt]
    have e : max m 1 = m := by omega
    rw [e]
    exact tree_bin hc hI q _ p' m s' A (by omega) hS r'
  · rw [if_neg hlt]
    have e : m = N := by omega
    subst e
    exact q p' s' A hS r'
end
end L2
namespace L2
open PySem PySem.Spec PyProof.Rows
section
variable {X : Cx} {pins : List (Addr × Obj)} {σ : St} {H : Hp} {s : Shared} {a : Addr} {o : HO}
theorem Inv.adopt (I : Inv X pins σ H s) (hn : H a = none) (hL : a ≠ X.env.locals) (h0 : X.s₀.heap.objs.size ≤ a) (hc : ∀ x c, X.env.cells.lookup x = some c → c ≠ a) (hp : ∀ p ∈ X.pn ++ pins, p.1 ≠ a)
    (new : ObjOk X.prog X.w (upd H a o) s.heap a o) : Inv X pins σ (upd H a o) s := by
  have ne : ∀ b u, H b = some u → b ≠ a := fun b u e => ne_of_none e hn
  refine ⟨I.ok, I.os, I.bare, ⟨I.base.keep, I.base.slot, fun b ob e n hx => ?_, I.base.there, fun b xs e => ?_, fun b ob xs e => ?_, fun b ps e => ?_⟩, I.loc, I.cell, ?_, fun x c e => ?_, fun p hq => ?_, fun b u e => ?_, I.len⟩
  · rw [upd_ne (Nat.ne_of_lt (Nat.lt_of_lt_of_le (Heap.lt_size e) h0))]; exact I.base.free b ob e n hx
  · have := I.base.tups b xs e; rw [upd_ne (ne b _ this)]; exact this
  · have := I.base.frzs b ob xs e; rw [upd_ne (ne b _ this)]; exact this
  · obtain ⟨m, e1⟩ := I.base.tbls b ps e; exact ⟨m, by rw [upd_ne (ne b _ e1)]; exact e1⟩
  · rw [upd_ne hL.symm]; exact I.free
  · rw [upd_ne (hc x c e)]; exact I.freeC x c e
  · obtain ⟨e1, n, r⟩ := I.pin p hq; exact ⟨e1, by rw [upd_ne (hp p hq)]; exact n, r⟩
  · by_cases hb : b = a
    · subst hb; rw [upd_same] at e; cases e; exact new
    · rw [upd_ne hb] at e
      exact (I.hok b u e).stay (fun _ _ _ q => q) (fun c q => by rw [upd_ne (ne c _ q)]; exact q) fun c xs q => by rw [upd_ne (ne c _ q)]; exact q
end
section
variable {prog : Program} {w : World} {A : Around} {E : Value → Shared → Prop} {s : Shared}
theorem collect_range {r : Addr} {b : Int} {t u v : Tok} {n : Nat} {Q : List Value → Shared → Prop} (hh : A.handled = none) (hr : IsRange s.heap r 0 b 1 t u v) (hsmall : Builtin.Range.small 0 b 1 = true)
    (hn : Builtin.Range.rangeSize 0 b 1 = n) (hlen : n ≤ 2 ^ 24)
    (h : ∀ h' tk vs, (∀ b o, s.heap.get? b = some o → h'.get? b = some o) → Vals ((List.range n).map fun (i : Nat) => V.int (i : Int)) vs → Q vs { s with heap := h', toks := tk }) :
    wpAny (model prog w) A (collect (.ref r)) Q E s := by
  unfold collect
  refine wpAny_bind (wpAny_runValue (codeAny_builtin entry_proto_collect' ?_))
  show wpAny _ _ (do again (.builtin "list.__iadd__" ⟨[← newList [], .ref r], []⟩)) _ _ s
  refine wpAny_bind (wpAny_newList (wpAny_pure ⟨Code.quiet_builtin _ (by decide +kernel), codeAny_builtin entry_list_iadd' ?_⟩))
  have e1 : A.under (.builtin "proto.collect" ⟨[.ref r], []⟩) = A.in1 := Around.under_plainId F.plain_proto_collect _
  have e2 : A.under (.builtin "list.__iadd__" ⟨[.ref s.heap.objs.size, .ref r], []⟩) = A.in1 := Around.under_plainId F.plain_list_iadd _
  rw [e2]
  show wpAny _ A.in1 (Builtin.List.listExtendWith (.ref s.heap.objs.size) (.ref r) (.ref s.heap.objs.size)) _ _ { s with heap := s.heap.push (seqObj "list" #[] 0) }
  have hS : (s.heap.push (seqObj "list" #[] 0)).get? s.heap.objs.size = some { cls := .type "list", data := .seq #[] 0 } := Heap.get?_push_size _ rfl
  have hr' : IsRange (s.heap.push (seqObj "list" #[] 0)) r 0 b 1 t u v := Heap.get?_push_of_some _ hr
  refine wpAny_mono (wpAny_extend_range (A := A) (R := fun r s' => match r with
      | .ok (.ret v) => wpAny (model prog w) A (match v with
          | .ref a => do
            let o ← load a
            match o.data with
            | .seq xs _ => pure xs.toList
            | _ => unsupported "internal:collect"
          | _ => unsupported "internal:collect") Q E s'
      | .ok _ => False
      | .error e => E e s') (s := { s with heap := s.heap.push (seqObj "list" #[] 0) }) hh hr' hsmall hn hlen s.heap.objs.size (.ref s.heap.objs.size) 0 hS fun h' tk acc c hk hS' hacc => ?_) (fun fin s' q => ?_) (fun e s' q => q)
  case refine_2 =>
    cases fin with
    | done f => exact q
    | again c' => exact q
  show wpAny (model prog w) A (do
      let o ← load s.heap.objs.size
      match o.data with
      | .seq xs _ => pure xs.toList
      | _ => unsupported "internal:collect") Q E { s with heap := h', toks := tk }
  refine wpAny_bind (wpAny_load hS' ?_)
  refine wpAny_pure (h h' tk acc.toList (fun b o e => hk b o (Nat.ne_of_lt (Heap.lt_size e)) (Heap.get?_push_of_some _ e)) ?_)
  have hsz : acc.toList.length = n := by rw [Array.length_toList]; exact hacc.1
  have key : ∀ (k : Nat) (l : List Value), l.length = k → (∀ (j : Nat) (v : Value), l[j]? = some v → ∃ t, v = .int ((n - k + j : Nat) : Int) t) → k ≤ n → Vals ((List.range' (n - k) k).map fun (i : Nat) => V.int (i : Int)) l := by
    intro k
    induction k with
    | zero =>
      intro l hl _ _
      have : l = [] := List.length_eq_zero_iff.mp hl
      subst this
      exact .nil
    | succ k ih =>
      intro l hl hP hk
      match l, hl with
      | v :: l, hl =>
        have hl' : l.length = k := by simpa using hl
        rw [List.range'_succ, List.map_cons]
        obtain ⟨t, ht⟩ := hP 0 v rfl
        refine .cons ⟨t, ?_⟩ ?_
        · rw [ht]; rfl
        · have e : n - (k + 1) + 1 = n - k := by omega
          rw [e]
          refine ih l hl' (fun j v' e' => ?_) (by omega)
          obtain ⟨t', ht'⟩ := hP (j + 1) v' (by simpa using e')
          exact ⟨t', by rw [ht']; congr 2; omega⟩
  have := key n acc.toList hsz (fun j v e => by
    obtain ⟨t, ht⟩ := hacc.2 j v (by simpa using e)
    refine ⟨t, ?_⟩
    rw [ht]
    congr 1
    omega) (Nat.le_refl _)
  rw [Nat.sub_self, ← List.range_eq_range'] at this
  exact this
end
end L2
namespace L2
open PySem PySem.W PySem.Spec PyProof.Rows
section
variable {prog : Program} {w : World} {A : Around} {E : Value → Shared → Prop} {s : Shared}
theorem katLex_ints {Q : Bool → Shared → Prop} : ∀ {xs ys : List Value} {ns ms : List Int}, IntsAre xs ns → IntsAre ys ms → ns.length = ms.length → ∀ i : Nat, Q (HT.lexLt ns ms) s → KatLex prog w A true false Q (xs.zip ys) i s
  | _, _, _, _, .nil, .nil, _, i, q => by rw [List.zip_nil_left]; exact kat_nil q
  | _, _, _, _, .nil, .cons _ _ _, hl, _, _ => by simp at hl
  | _, _, _, _, .cons _ _ _, .nil, hl, _, _ => by simp at hl
  | _, _, _, _, .cons a t hx, .cons c u hy, hl, i, q => by
    rw [List.zip_cons_cons]
    refine kat_cons (wpAny_eqBool_int ?_)
    rw [HT.lexLt_cons] at q
    by_cases h : a = c
    · rw [if_pos h] at q
      have e : (a == c) = true := by simp [h]
      rw [e]
      exact kat_yes (katLex_ints hx hy (by simpa using hl) (i + 1) q)
    · rw [if_neg h] at q
      have e : (a == c) = false := by simp [h]
      rw [e]
      refine kat_no ?_
      by_cases hi : i = 0
      · have ei : (true && i == 0) = true := by simp [hi]
        rw [ei]
        exact oneLt_int q
      · have ei : (true && i == 0) = false := by simp [hi]
        rw [ei]
        exact kat_one _ _ (lt_int q)
structure Keys (h : Heap) (ks : List Value) (key : Nat → List Int) (N len : Nat) : Prop where
  size : ks.length = N
  at_ : ∀ i, i < N → ∃ t its, ks[i]? = some (.ref t) ∧ IsTup h t its.toArray ∧ IntsAre its (key i)
  long : ∀ i, i < N → (key i).length = len + 1
theorem Keys.cmp {ks : List Value} {key : Nat → List Int} {N len : Nat} {κ : Nat → Int} (K : Keys s.heap ks key N len) (hκ : ∀ i j, i < N → j < N → HT.lexLt (key i) (key j) = decide (κ i < κ j)) :
    Cmp N κ (fun s' => s' = s) (kas_ask prog w A (tuples' true) ks) := by
  intro i j C s1 hi hj e h
  subst e
  obtain ⟨t, its, e1, ⟨o, ho, hc, n, hd⟩, i1⟩ := K.at_ i hi
  obtain ⟨t2, its2, e2, ⟨o2, ho2, hc2, n2, hd2⟩, i2⟩ := K.at_ j hj
  unfold kas_ask
  rw [List.getD_eq_getElem?_getD, List.getD_eq_getElem?_getD, e1, e2]
  have l1 : its.length = (key i).length := i1.length
  have l2 : its2.length = (key j).length := i2.length
  have hl : (key i).length = (key j).length := by rw [K.long i hi, K.long j hj]
  refine kat_lt ho hd ho2 hd2 ?_
  have ef : decide (its.toArray.size < its2.toArray.size) = false := decide_eq_false (by simp only [List.size_toArray]; omega)
  rw [ef]
  refine katLex_ints i1 i2 hl 0 ?_
  rw [hκ i j hi hj]
  exact h s1 rfl
theorem Keys.tups {key : Nat → List Int} {len : Nat} : ∀ {ks : List Value} {N : Nat}, Keys s.heap ks key N len → ∃ fs : List Value, KatTups s.heap ks fs ∧ fs.length = N ∧ ∀ v ∈ fs, ∃ a t, v = .int a t := by
  have go : ∀ (ks : List Value), (∀ i, i < ks.length → ∃ t its a u r, ks[i]? = some (.ref t) ∧ IsTup s.heap t its.toArray ∧ its = Value.int a u :: r) → ∃ fs : List Value, KatTups s.heap ks fs ∧ fs.length = ks.length ∧ ∀ v ∈ fs, ∃ a t, v = Value.int a t := by
    intro ks
    induction ks with
    | nil => intro _; exact ⟨[], trivial, rfl, fun v hv => nomatch hv⟩
    | cons k ks ih =>
      intro h
      obtain ⟨fs, h1, h2, h3⟩ := ih fun i hi => by
        obtain ⟨t, its, a, u, r, e, p⟩ := h (i + 1) (by simpa using hi)
        exact ⟨t, its, a, u, r, by simpa using e, p⟩
      obtain ⟨t, its, a, u, r, e, ⟨o, ho, hc, n, hd⟩, rfl⟩ := h 0 (by simp)
      have e' : k = .ref t := by simpa using e
      subst e'
      refine ⟨.int a u :: fs, KatTups.cons ho hc hd rfl h1, by simp [h2], fun v hv => ?_⟩
      rcases List.mem_cons.mp hv with e | e
      · exact ⟨a, u, e⟩
      · exact h3 v e
  intro ks N K
  obtain ⟨fs, h1, h2, h3⟩ := go ks fun i hi => by
    obtain ⟨t, its, e1, p, i1⟩ := K.at_ i (by rw [← K.size]; exact hi)
    have hl := K.long i (by rw [← K.size]; exact hi)
    generalize key i = kl at i1 hl
    cases i1 with
    | nil => simp at hl
    | cons a u hx => exact ⟨t, _, a, u, _, e1, p, rfl⟩
  exact ⟨fs, h1, by rw [h2, K.size], h3⟩
end
end L2
namespace L2
open PySem PySem.W PySem.Spec PyProof.Rows
def SortedBy (κ : Nat → Int) (xs ys : List V) : Prop := ∃ p : List Nat, p.Perm (List.range xs.length) ∧ ys = p.map (fun i => xs.getD i .non) ∧ p.Pairwise fun i j => κ i < κ j
theorem sorted_of {κ : Nat → Int} {xs : List V} {p : Array Nat} (A : Arr xs.length p) (hS : Srt κ p xs.length) : SortedBy κ xs (p.toList.map fun i => xs.getD i .non) := by
  refine ⟨p.toList, A.perm, rfl, ?_⟩
  rw [List.pairwise_iff_getElem]
  intro i j hi hj hij
  have hj' : j < xs.length := by rw [Array.length_toList, A.size] at hj; exact hj
  have e1 : p.toList[i] = p.getD i 0 := by
    have := A.get (show i < xs.length by omega)
    rw [List.getElem?_eq_getElem hi] at this
    exact Option.some.inj this
  have e2 : p.toList[j] = p.getD j 0 := by
    have := A.get hj'
    rw [List.getElem?_eq_getElem hj] at this
    exact Option.some.inj this
  rw [e1, e2]
  exact hS i j hij hj'
theorem vals_perm {xs : List V} {vs : List Value} (r : Vals xs vs) : ∀ (p : List Nat), (∀ i ∈ p, i < xs.length) → Vals (p.map fun i => xs.getD i .non) (p.map fun i => vs.getD i .none)
  | [], _ => .nil
  | i :: p, h => by
    have hi : i < xs.length := h i List.mem_cons_self
    obtain ⟨u, e, ru⟩ := r.get (List.getElem?_eq_getElem hi)
    refine .cons ?_ (vals_perm r p fun j hj => h j (List.mem_cons_of_mem _ hj))
    show RelV (xs.getD i .non) (vs.getD i .none)
    rw [List.getD_eq_getElem?_getD, List.getD_eq_getElem?_getD, e, List.getElem?_eq_getElem hi]
    exact ru
section
variable {X : Cx} {pins : List (Addr × Obj)} {σ : St} {H : Hp} {s : Shared} {A : Around} {E : Value → Shared → Prop}
theorem Inv.pinMore (I : Inv X pins σ H s) {b : Addr} {o : Obj} (f : FpOk X pins H b) (e : s.heap.get? b = some o) (d : ∀ v, o.data ≠ .cell v) : Inv X (pins ++ [(b, o)]) σ H s :=
  I.pins_of fun p hp => (List.mem_append.mp hp).elim (fun z => I.pin p (List.mem_append_right _ z)) fun z => by
    have e' : p = (b, o) := by simpa using z
    subst e'
    obtain ⟨f0, f1, f2, _⟩ := f
    exact ⟨e, f0, f1, f2, d⟩
theorem sort_keys {f : Value} {D kS : Addr} {e1 : Nat} {xs : List V} {vs : List Value} (rv : Vals xs vs) (h64 : xs.length < 64) (Pv : Nat → List Addr → Hp → Prop)
    (fpD : ∀ H', H' D = none → FpOk X pins H' D) (fpK : ∀ H', H' kS = none → FpOk X pins H' kS) (hDK : D ≠ kS)
    (hcall : ∀ i x u ts pins' s' H', xs[i]? = some x → RelV x u → Inv X pins' σ H' s' → (∀ p ∈ pins, p ∈ pins') → Pv i ts H' → wpAny (model X.prog X.w) A (call f [u]) (fun k s2 => ∃ t H2, k = .ref t ∧ Inv X pins' σ H2 s2 ∧ Pv (i + 1) (ts ++ [t]) H2) (fun _ _ => False) s')
    {body : Value → PUnit → Sem (ForInStep PUnit)}
    (hb : ∀ x (s : Shared) (R : Value → Shared → Prop) (Q : ForInStep PUnit → Shared → Prop), wpAny (model X.prog X.w) A (call f [x]) R (fun _ _ => False) s → (∀ k s', R k s' → wpAny (model X.prog X.w) A (Builtin.List.listUpdate (.ref kS) (·.push k)) (fun _ s'' => Q (.yield ⟨⟩) s'') E s') →
      wpAny (model X.prog X.w) A (body x ⟨⟩) Q E s) :
    ∀ (r : List Value) (i : Nat) (ts : List Addr) (e : Nat) (s : Shared) (H : Hp), vs.drop i = r → ts.length = i → i ≤ vs.length → Inv X (pins ++ [(D, seqObj "list" #[] e1)] ++ [(kS, seqObj "list" (ts.map Value.ref).toArray e)]) σ H s → Pv i ts H →
      wpAny (model X.prog X.w) A (forIn r PUnit.unit body) (fun _ s' => ∃ ts' e' H', ts'.length = vs.length ∧ Inv X (pins ++ [(D, seqObj "list" #[] e1)] ++ [(kS, seqObj "list" (ts'.map Value.ref).toArray e')]) σ H' s' ∧ Pv vs.length ts' H') E s
  | [], i, ts, e, s, H, hr, hl, hi, I, p => by
    rw [List.forIn_nil]
    have hn : i = vs.length := by
      have := congrArg List.length hr
      rw [List.length_drop] at this
      simp at this
      omega
    subst hn
    exact wpAny_pure ⟨ts, e, H, hl, I, p⟩
  | u :: r, i, ts, e, s, H, hr, hl, hi, I, p => by
    rw [List.forIn_cons]
    have hlen := rv.length
    have hiv : i < vs.length := by
      have := congrArg List.length hr
      rw [List.length_drop] at this
      simp at this
      omega
    have eu : vs[i]? = some u := by
      have : (vs.drop i)[0]? = some u := by rw [hr]; rfl
      rw [List.getElem?_drop] at this
      simpa using this
    have hix : i < xs.length := by omega
    obtain ⟨u', e', ru⟩ := rv.get (List.getElem?_eq_getElem hix)
    rw [eu] at e'
    cases e'
    refine wpAny_bind (hb u s _ _ (hcall i _ u ts _ s H (List.getElem?_eq_getElem hix) ru I (fun p hp => List.mem_append_left _ (List.mem_append_left _ hp)) p) fun k s2 ⟨t, H2, ek, I2, p2⟩ => ?_)
    subst ek
    have pk := I2.pin (kS, seqObj "list" (ts.map Value.ref).toArray e) (List.mem_append_right _ (List.mem_append_right _ (by simp)))
    have pD := I2.pin (D, seqObj "list" #[] e1) (List.mem_append_right _ (List.mem_append_left _ (List.mem_append_right _ (by simp))))
    refine listUpdate_at pk.1 rfl ?_ (by rw [List.size_toArray, List.length_map, sizeLine_eq]; omega) (by rw [Array.size_push, List.size_toArray, List.length_map, sizeLine_eq]; omega)
    have I2' : Inv X (pins ++ [(D, seqObj "list" #[] e1)]) σ H2 s2 := I2.unpinned
    have fK : FpOk X (pins ++ [(D, seqObj "list" #[] e1)]) H2 kS := by
      obtain ⟨a0, a1, a2, a3, a4, a5⟩ := fpK H2 pk.2.1
      refine ⟨a0, a1, a2, a3, a4, fun p hp => ?_⟩
      rcases List.mem_append.mp hp with z | z
      · exact a5 p (List.mem_append_left _ z)
      · rcases List.mem_append.mp z with z | z
        · exact a5 p (List.mem_append_right _ z)
        · have : p = (D, seqObj "list" #[] e1) := by simpa using z
          rw [this]; exact hDK
    obtain ⟨a0, a1, a2, a3, a4, a5⟩ := fK
    have I3 : Inv X (pins ++ [(D, seqObj "list" #[] e1)]) σ H2 { s2 with heap := s2.heap.update kS (Obj.mapSeq (·.push (Value.ref t))) } :=
      I2'.turned (t' := s2.toks) (fun b o hb e => (Heap.get?_update_other _ _ (Ne.symm hb)).trans e) a0 a1 a3 a4 a5
    have ea : ((ts.map Value.ref).toArray).push (Value.ref t) = ((ts ++ [t]).map Value.ref).toArray := by simp
    obtain ⟨c2, hc2⟩ : ∃ c2, (s2.heap.update kS (Obj.mapSeq (·.push (Value.ref t)))).get? kS = some (seqObj "list" ((ts ++ [t]).map Value.ref).toArray c2) := ⟨_, by rw [← ea]; exact get?_update_seq pk.1 (·.push (Value.ref t))⟩
    have I4 := I3.pinMore ⟨a0, a1, a2, a3, a4, a5⟩ hc2 (fun v z => by cases z)
    show wpAny (model X.prog X.w) A (forIn r PUnit.unit body) _ E _
    refine sort_keys rv h64 Pv fpD fpK hDK hcall hb r (i + 1) (ts ++ [t]) c2 _ H2 ?_ (by rw [List.length_append, hl]; rfl) (by omega) I4 p2
    have : (vs.drop i).drop 1 = r := by rw [hr]; rfl
    rw [List.drop_drop] at this
    exact this
end
end L2
namespace L2
open PySem PySem.W PySem.Spec PyProof.Rows
section
variable {X : Cx} {pins : List (Addr × Obj)} {σ : St} {H : Hp} {s : Shared} {A : Around} {E : Value → Shared → Prop}
theorem sort_tree {f : Value} {D : Addr} {n0 m : Nat} {xs : List V} {vs : List Value} {key : Nat → List Int} {κ : Nat → Int} (rv : Vals xs vs) (h64 : xs.length < 64) (Pv : Nat → List Addr → Hp → Prop) (I : Inv X pins σ H s)
    (hD : s.heap.get? D = some (seqObj "list" vs.toArray n0)) (fpD : ∀ H', H' D = none → FpOk X pins H' D) (nD : H D = none) (hfresh : X.s₀.heap.objs.size ≤ D) (p0 : Pv 0 [] H)
    (hcall : ∀ i x u ts pins' s' H', xs[i]? = some x → RelV x u → Inv X pins' σ H' s' → (∀ p ∈ pins, p ∈ pins') → Pv i ts H' → wpAny (model X.prog X.w) A (call f [u]) (fun k s2 => ∃ t H2, k = .ref t ∧ Inv X pins' σ H2 s2 ∧ Pv (i + 1) (ts ++ [t]) H2) (fun _ _ => False) s')
    (htup : ∀ ts H', Pv xs.length ts H' → ∀ i t, ts[i]? = some t → H' t = some (.tup ((key i).map V.int))) (hlong : ∀ i, i < xs.length → (key i).length = m + 1)
    (hκ : ∀ i j, i < xs.length → j < xs.length → HT.lexLt (key i) (key j) = decide (κ i < κ j)) (hinj : Inj xs.length κ) :
    wpAny (model X.prog X.w) A (ksk_tree D f false) (fun fin s' => fin = .done (.ret .none) ∧ ∃ ts H' ys, Pv xs.length ts H' ∧ H' D = none ∧ SortedBy κ xs ys ∧ Inv X pins σ (upd H' D (.lst ys)) s') E s := by
  have hlen := rv.length
  unfold ksk_tree
  refine wpAny_bind (listItems_at hD rfl ?_)
  refine wpAny_bind (listUpdate_at hD rfl ?_ (by rw [List.size_toArray, sizeLine_eq]; omega) (Nat.zero_le _))
  obtain ⟨e1, ho1⟩ : ∃ e1, (s.heap.update D (Obj.mapSeq fun _ => (#[] : Array Value))).get? D = some (seqObj "list" #[] e1) := ⟨_, get?_update_seq hD fun _ => #[]⟩
  obtain ⟨a0, a1, a2, a3, a4, a5⟩ := fpD H nD
  have I1 : Inv X pins σ H { s with heap := s.heap.update D (Obj.mapSeq fun _ => (#[] : Array Value)) } := I.turned (t' := s.toks) (fun b o hb e => (Heap.get?_update_other _ _ (Ne.symm hb)).trans e) a0 a1 a3 a4 a5
  refine wpAny_bind (seqEpoch_at ho1 rfl ?_)
  refine wpAny_bind (wpAny_newTuple ?_ (by show vs.length ≤ _; rw [sizeLine_eq]; omega))
  refine wpAny_bind (wpAny_newList ?_ (Nat.zero_le _))
  refine wpAny_holding ?_
  have I2 : Inv X pins σ H { s with heap := (s.heap.update D (Obj.mapSeq fun _ => (#[] : Array Value))).push (seqObj "tuple" vs.toArray 0) } := I1.kept (t' := s.toks) fun b o e => Heap.get?_push_of_some _ e
  have I3 : Inv X pins σ H { s with heap := ((s.heap.update D (Obj.mapSeq fun _ => (#[] : Array Value))).push (seqObj "tuple" vs.toArray 0)).push (seqObj "list" #[] 0) } := I2.kept (t' := s.toks) fun b o e => Heap.get?_push_of_some _ e
  have fpK : ∀ H', H' (((s.heap.update D (Obj.mapSeq fun _ => (#[] : Array Value))).push (seqObj "tuple" vs.toArray 0)).objs.size) = none → FpOk X pins H' _ := fun H' hn => I2.fpOk (Nat.le_refl _) hn
  have nK : H (((s.heap.update D (Obj.mapSeq fun _ => (#[] : Array Value))).push (seqObj "tuple" vs.toArray 0)).objs.size) = none := I2.hok.fresh (Nat.le_refl _)
  have hDK : D ≠ ((s.heap.update D (Obj.mapSeq fun _ => (#[] : Array Value))).push (seqObj "tuple" vs.toArray 0)).objs.size := Nat.ne_of_lt (Heap.lt_size (Heap.get?_push_of_some (seqObj "tuple" vs.toArray 0) ho1))
  have hD3 : (((s.heap.update D (Obj.mapSeq fun _ => (#[] : Array Value))).push (seqObj "tuple" vs.toArray 0)).push (seqObj "list" #[] 0)).get? D = some (seqObj "list" #[] e1) := Heap.get?_push_of_some _ (Heap.get?_push_of_some _ ho1)
  have hK3 : (((s.heap.update D (Obj.mapSeq fun _ => (#[] : Array Value))).push (seqObj "tuple" vs.toArray 0)).push (seqObj "list" #[] 0)).get? (((s.heap.update D (Obj.mapSeq fun _ => (#[] : Array Value))).push (seqObj "tuple" vs.toArray 0)).objs.size) = some (seqObj "list" #[] 0) := Heap.get?_push_size _ rfl
  generalize ((s.heap.update D (Obj.mapSeq fun _ => (#[] : Array Value))).push (seqObj "tuple" vs.toArray 0)).objs.size = kS at fpK nK hDK hK3 ⊢
  generalize hs3 : ({ s with heap := ((s.heap.update D (Obj.mapSeq fun _ => (#[] : Array Value))).push (seqObj "tuple" vs.toArray 0)).push (seqObj "list" #[] 0) } : Shared) = s3 at I3 ⊢
  have hD3' : s3.heap.get? D = some (seqObj "list" #[] e1) := by rw [← hs3]; exact hD3
  have hK3' : s3.heap.get? kS = some (seqObj "list" #[] 0) := by rw [← hs3]; exact hK3
  have I4 : Inv X (pins ++ [(D, seqObj "list" #[] e1)]) σ H s3 := I3.pinMore (fpD H nD) hD3' (fun v z => by cases z)
  have fK : ∀ H', H' kS = none → FpOk X (pins ++ [(D, seqObj "list" #[] e1)]) H' kS := fun H' hn => by
    obtain ⟨b0, b1, b2, b3, b4, b5⟩ := fpK H' hn
    refine ⟨b0, b1, b2, b3, b4, fun p hp => ?_⟩
    rcases List.mem_append.mp hp with z | z
    · exact b5 p (List.mem_append_left _ z)
    · rcases List.mem_append.mp z with z | z
      · exact b5 p (List.mem_append_right _ z)
      · have : p = (D, seqObj "list" #[] e1) := by simpa using z
        rw [this]; exact hDK
  have I5 := I4.pinMore (fK H nK) hK3' (fun v z => by cases z)
  unfold ksk_rest
  refine wpAny_bind (wpAny_rule ?_)
  first
    | rw [List.forIn_toArray]
    | (rw [← Array.forIn_toList]; simp only [List.toList_toArray])
    | rw [← Array.forIn_toList]
  refine wpAny_bind (wpAny_mono (sort_keys (E := E) rv h64 Pv fpD fpK hDK hcall (fun x s' R Q' hx hk => ?_) vs 0 [] 0 s3 H rfl rfl (Nat.zero_le _) I5 p0) (fun _ s4 hd => ?_) fun _ _ x => x)
  · refine wpAny_bind (wpAny_attempt (wpAny_mono hx (fun k s'' hq => ?_) fun _ _ hF => hF.elim))
    dsimp only
    refine wpAny_bind (wpAny_mono (hk k s'' hq) (fun _ s5 hq5 => wpAny_pure hq5) fun _ _ x => x)
  obtain ⟨ts, e', H4, htl, I6, p4⟩ := hd
  have pk := I6.pin (kS, seqObj "list" (ts.map Value.ref).toArray e') (List.mem_append_right _ (List.mem_append_right _ (by simp)))
  have pD := I6.pin (D, seqObj "list" #[] e1) (List.mem_append_right _ (List.mem_append_left _ (List.mem_append_right _ (by simp))))
  refine wpAny_bind (listItems_at pk.1 rfl ?_)
  have p4' : Pv xs.length ts H4 := by rw [hlen]; exact p4
  have I7 : Inv X pins σ H4 s4 := I6.unpinned.unpinned
  have fin : ∀ (st : SortSt) (q : List Nat), (arrOf st).map (·.2) = List.toArray (q.map fun i => vs.getD i Value.none) → failedOf st = none → (∀ i ∈ q, i < xs.length) → q.length = xs.length → SortedBy κ xs (q.map fun i => xs.getD i .non) →
      wpAny (model X.prog X.w) A (ksk_tail D false e1 (.ref kS) st) (fun fin s' => fin = .done (.ret .none) ∧ ∃ ts H' ys, Pv xs.length ts H' ∧ H' D = none ∧ SortedBy κ xs ys ∧ Inv X pins σ (upd H' D (.lst ys)) s') E s4 := by
    intro st q hout hf hq hql hsb
    unfold ksk_tail
    dsimp only
    refine wpAny_bind (listUpdate_at pk.1 rfl ?_ (by rw [List.size_toArray, List.length_map, sizeLine_eq]; omega) (Nat.zero_le _))
    obtain ⟨b0, b1, b2, b3, b4, b5⟩ := fpK H4 pk.2.1
    have I8 : Inv X pins σ H4 { s4 with heap := s4.heap.update kS (Obj.mapSeq fun _ => (#[] : Array Value)) } := I7.turned (t' := s4.toks) (fun b o hb e => (Heap.get?_update_other _ _ (Ne.symm hb)).trans e) b0 b1 b3 b4 b5
    have hD8 : (s4.heap.update kS (Obj.mapSeq fun _ => (#[] : Array Value))).get? D = some (seqObj "list" #[] e1) := (Heap.get?_update_other _ _ (Ne.symm hDK)).trans pD.1
    refine wpAny_bind (wpAny_letGo ?_)
    refine wpAny_bind (seqEpoch_at hD8 rfl ?_)
    have hsz : (if false = true then ((arrOf st).map (·.2)).reverse else (arrOf st).map (·.2)) = List.toArray (q.map fun i => vs.getD i Value.none) := by rw [if_neg Bool.false_ne_true]; exact hout
    refine wpAny_bind (listUpdate_at hD8 rfl ?_ (Nat.zero_le _) (by show (if false = true then ((arrOf st).map (·.2)).reverse else (arrOf st).map (·.2)).size ≤ _; rw [hsz, List.size_toArray, List.length_map, sizeLine_eq]; omega))
    rw [hf]
    simp only [bne_self_eq_false, Bool.false_eq_true, if_false]
    refine wpAny_pure ⟨rfl, ts, H4, _, p4', pD.2.1, hsb, ?_⟩
    obtain ⟨c0, c1, c2, c3, c4, c5⟩ := fpD H4 pD.2.1
    have I9 := I8.turned (h' := (s4.heap.update kS (Obj.mapSeq fun _ => (#[] : Array Value))).update D (Obj.mapSeq fun _ => (arrOf st).map (·.2))) (t' := s4.toks) (fun b o hb e => (Heap.get?_update_other _ _ (Ne.symm hb)).trans e) c0 c1 c3 c4 c5
    obtain ⟨cc, hcc⟩ : ∃ cc, ((s4.heap.update kS (Obj.mapSeq fun _ => (#[] : Array Value))).update D (Obj.mapSeq fun _ => (arrOf st).map (·.2))).get? D = some (seqObj "list" (q.map fun i => vs.getD i Value.none).toArray cc) := ⟨_, by rw [← hout]; exact get?_update_seq hD8 fun _ => (arrOf st).map (·.2)⟩
    exact I9.adopt pD.2.1 c1 hfresh c4 c5 ⟨by rw [List.length_map, sizeLine_eq]; omega, _, cc, vals_perm rv q hq, hcc⟩
  have eks : ts.length = xs.length := by omega
  unfold ksk_end
  dsimp only
  rw [if_neg Bool.false_ne_true]
  by_cases h2 : xs.length < 2
  · have hs2 : vs.toArray.size < 2 := by rw [List.size_toArray]; omega
    rw [if_pos hs2, if_pos hs2]
    refine wpAny_bind (wpAny_pure ?_)
    refine wpAny_bind ?_
    rw [StateT.run_pure]
    refine wpAny_pure ?_
    dsimp only
    have hr : ∀ i ∈ List.range xs.length, i < xs.length := fun i hi => List.mem_range.mp hi
    refine fin _ (List.range xs.length) ?_ rfl hr (List.length_range) ⟨List.range xs.length, List.Perm.refl _, rfl, ?_⟩
    · show ((if false = true then ((ts.map Value.ref).toArray.zip vs.toArray).reverse else (ts.map Value.ref).toArray.zip vs.toArray)).map (·.2) = _
      rw [if_neg Bool.false_ne_true]
      apply Array.toList_inj.mp
      rw [Array.toList_map, Array.toList_zip, List.map_snd_zip (by rw [List.toList_toArray, List.toList_toArray, List.length_map]; omega)]
      rw [List.toList_toArray]
      apply List.ext_getElem?
      intro j
      rw [List.toList_toArray, List.getElem?_map]
      by_cases hj : j < xs.length
      · rw [List.getElem?_range hj]
        show _ = some (vs.getD j Value.none)
        rw [List.getD_eq_getElem?_getD, List.getElem?_eq_getElem (by omega)]; rfl
      · rw [List.getElem?_eq_none (by omega), List.getElem?_eq_none (by rw [List.length_range]; omega)]; rfl
    · match hx : xs.length, h2 with
      | 0, _ => exact List.Pairwise.nil
      | 1, _ => exact List.pairwise_singleton _ _
  · have hs2 : ¬ vs.toArray.size < 2 := by rw [List.size_toArray]; omega
    rw [if_neg hs2, if_neg hs2]
    have KK : Keys s4.heap (ts.map Value.ref) key xs.length m := by
      refine ⟨by rw [List.length_map]; exact eks, fun i hi => ?_, hlong⟩
      have hit : i < ts.length := by omega
      have et := htup ts H4 p4' i ts[i] (List.getElem?_eq_getElem hit)
      obtain ⟨_, its, r, hT⟩ := I7.hok _ _ et
      exact ⟨ts[i], its, by rw [List.getElem?_map, List.getElem?_eq_getElem hit]; rfl, hT, intsAre_of r⟩
    obtain ⟨fs, kt, kl, kv⟩ := KK.tups
    refine wpAny_bind (kat_kind kt (by omega) (fun v hv => by obtain ⟨a, t, rfl⟩ := kv v hv; exact Looks.of_pure rfl) (T := .type "int") (by decide) ?_)
    have ett : (Value.type "int" != Value.type "tuple") = true := by decide
    rw [ett]
    have ez : (if false = true then ((ts.map Value.ref).toArray.zip vs.toArray).reverse else (ts.map Value.ref).toArray.zip vs.toArray) = (ts.map Value.ref).toArray.zip vs.toArray := by rw [if_neg Bool.false_ne_true]
    rw [ez]
    have hkl : (ts.map Value.ref).length = vs.length := by rw [List.length_map]; omega
    have run := kat_run (prog := X.prog) (w := X.w) (A := A) (E := E) (s := s4) (κ := tuples' true) (ks := ts.map Value.ref) (vs := vs)
      (Q := fun st' s' => s' = s4 ∧ ∃ p : Array Nat, arrOf st' = p.map (kas_item ((ts.map Value.ref).toArray.zip vs.toArray)) ∧ failedOf st' = none ∧ Arr xs.length p ∧ Srt κ p xs.length)
      (G := fun p s' => s' = s4 ∧ Arr xs.length p ∧ Srt κ p xs.length) hkl (by omega) (by omega) (fun p st' s' _ b c ⟨d, a1, a2⟩ => ⟨d, p, b, c, a1, a2⟩) (by
        have := tree_sort (N := xs.length) (KK.cmp (prog := X.prog) (w := X.w) (A := A) hκ) hinj (by omega) (Q := fun p s' => s' = s4 ∧ Arr xs.length p ∧ Srt κ p xs.length) (s := s4) rfl fun p s' a b c => ⟨c, a, b⟩
        rw [← hlen]
        exact this)
    refine wpAny_bind (wpAny_mono run ?_ fun _ _ x => x)
    rintro ⟨⟨⟩, st'⟩ s5 ⟨rfl, p, har, hf, AR, SR⟩
    dsimp only
    refine fin st' p.toList (kat_snds hkl har) hf (fun i hi => ?_) (by rw [Array.length_toList, AR.size]) (sorted_of AR SR)
    exact List.mem_range.mp (AR.perm.mem_iff.mp hi)
end
end L2
namespace L2
open PySem PySem.W PySem.Spec PyProof.Rows
def lamCx (X : Cx) (scope : Scope) (qual : Str) (c : Value) (N : List Str) (A : Around) (f : Addr) (s : Shared) (H : Hp) : Cx :=
  let env : Env := envX qual scope s.heap.objs.size f c (clo X.env.cells scope.names [])
  { prog := X.prog, w := X.w, K := X.K, mg := X.mg, base := X.base, A := A.deeper env, N := N, s₀ := s, H₀ := H, env := env, outer := X.stack, stack := env :: X.stack, ex := [], fn := fun x => ((clo X.env.cells scope.names []).lookup x).isNone, calm := true, pn := [], xe := fun _ _ => False }
def lamSt (x : V) (cap : List (Option Nat)) (σ : St) : St := some x :: (cap.map fun o => o.bind fun j => (σ[j]?).bind id)
def lamOk (scope : Scope) (p : Str) (N N' : List Str) (cap : List (Option Nat)) : Bool := (scope.names.lookup p == some .local) && !scope.isCoroutine && !scope.isGenerator && (!N'.contains p) && capOk scope N N' cap
section
variable {X : Cx} {pins : List (Addr × Obj)} {σ : St} {H : Hp} {s : Shared} {body : Expr} {scope : Scope} {params : Arguments} {te : TE}
theorem lam_call (sc : Scope) (hsc : X.env.scope = sc) (N₀ : List Str) (hN₀ : X.N = N₀) {N' : List Str} {cap : List (Option Nat)} {p : Str} (f1 : freeOk sc scope = true) (f2 : ownOk scope = true) (f3 : lamOk scope p N₀ N' cap = true)
    {A : Around} {f : Addr} {name qual : Str} {c pm ctv : Value} {x : V} {u : Value} {Q : VK} (I : Inv X pins σ H s) (hA : A.frames = some X.stack) (hd : A.handled = none) (hroom : A.depth < recursionLimit)
    (hf : (f, ({ cls := .type "function", data := .func (kla_fn name qual params body scope (clo X.env.cells scope.names []) pm c ctv) } : Obj)) ∈ pins) (hcd : s.heap.CodeRec c qual)
    (hbind : bindArgs (kla_fn name qual params body scope (clo X.env.cells scope.names []) pm c ctv) ⟨[u], []⟩ = pure [(p, u)])
    (hb : PE (lamCx X scope qual c (p :: N') A f s H) body te) (rx : RelV x u) (h : te (lamSt x cap σ) H Q) :
    wpAny (model X.prog X.w) A (call (.ref f) [u]) (fun k s2 => ∃ v H2, RelV v k ∧ Inv X pins σ H2 s2 ∧ Q v H2) (fun _ _ => False) s := by
  have ok := I.ok
  have fr : ∀ y ∈ scope.names, y.2 = .free → X.env.kindOf y.1 = some .cell ∨ X.env.kindOf y.1 = some .free := fun y hy e => by
    have q := List.all_eq_true.mp f1 y hy
    rw [e] at q
    have q' : ((sc.names.lookup y.1 == some NameKind.cell) || (sc.names.lookup y.1 == some NameKind.free)) = true := by simpa using q
    rw [Bool.or_eq_true] at q'
    unfold Env.kindOf
    rw [hsc]
    rcases q' with z | z
    · exact .inl (by simpa using z)
    · exact .inr (by simpa using z)
  obtain ⟨⟨k1, k2⟩, k3⟩ : ((scope.kind == .function) = true ∧ (scope.names.all fun y => y.2 != .cell) = true) ∧ (scope.names.all fun y => y.2 != .local || scope.names.lookup y.1 == some .local) = true := by
    unfold ownOk at f2
    rw [Bool.and_eq_true, Bool.and_eq_true] at f2
    exact f2
  have hkind : scope.kind = .function := by simpa using k1
  have hcell : ∀ y ∈ scope.names, y.2 ≠ .cell := fun y hy => by
    have q := List.all_eq_true.mp k2 y hy
    simpa using q
  obtain ⟨⟨⟨⟨g1, g2⟩, g3⟩, g4⟩, g5⟩ : ((((scope.names.lookup p == some .local) = true ∧ (!scope.isCoroutine) = true) ∧ (!scope.isGenerator) = true) ∧ (!N'.contains p) = true) ∧ capOk scope N₀ N' cap = true := by
    unfold lamOk at f3
    rw [Bool.and_eq_true, Bool.and_eq_true, Bool.and_eq_true, Bool.and_eq_true] at f3
    exact f3
  have hploc : scope.names.lookup p = some .local := by simpa using g1
  have clX : ∀ x c, (clo X.env.cells scope.names []).lookup x = some c → X.env.cells.lookup x = some c := fun x c e => by
    have e1 := clo_sub e
    have hx : (x, NameKind.free) ∈ scope.names := by
      rcases clo_free [] (PySem.mem_of_lookup e) with z | z
      · exact nomatch z
      · exact z
    obtain ⟨c', e2⟩ := ok.has x (fr (x, .free) hx rfl)
    rw [e2] at e1 ⊢
    rw [e1]; rfl
  have pf := I.pin _ (List.mem_append_right _ hf)
  refine wpAny_call (kla_callFunE hroom pf.1 rfl (by simpa using g2) (by simpa using g3) rfl hcd ?_)
  rw [hbind]
  refine wpAny_pure ?_
  refine wpAny_newFunctionEnv hcell (fun y hy => ?_) (fun h4 hns hsb => ?_) hkind
  · have : y = (p, u) := by simpa using hy
    rw [this]; exact hploc
  have kp4 : ∀ b o, s.heap.get? b = some o → h4.get? b = some o := fun b o e => hsb.extBut b o (Nat.ne_of_lt (Heap.lt_size e)) (Heap.get?_push_of_some _ e)
  refine ⟨I.nolimit.keeps kp4, kla_codeExpr ?_⟩
  let Z : Cx := lamCx X scope qual c (p :: N') A f s H
  have okZ : Z.Ok := by
    refine ⟨ok.mod, hkind, rfl, rfl, Nat.le_refl _, ?_, ?_, ?_, fun _ => hd, Around.frames_deeper hA, .inr ⟨rfl, rfl⟩, ?_, ?_, ?_, ?_, ?_, ?_, ?_⟩
    · exact fun x y c h1 h2 => ok.inj x y c (clX x c h1) (clX y c h2)
    · intro x hx
      have hx' : scope.names.lookup x = some .cell ∨ scope.names.lookup x = some .free := hx
      rcases hx' with z | z
      · exact absurd rfl (hcell _ (PySem.mem_of_lookup z))
      · exact Option.isSome_iff_exists.mp (clo_has scope.names [] x (PySem.mem_of_lookup z))
    · intro x c hx h1
      have hx' : ((clo X.env.cells scope.names []).lookup x).isNone = true := hx
      have h1' : (clo X.env.cells scope.names []).lookup x = some c := h1
      rw [h1'] at hx'; cases hx'
    · exact fun b hb => absurd (show b ∈ ([] : List Addr) from hb) (by simp)
    · exact fun b o e => I.bs b o e
    · exact Nat.le_trans ok.bsz I.sz
    · exact fun b o e hb => absurd (show b ∈ ([] : List Addr) from hb) (by simp)
    · exact fun b hb => absurd (show b ∈ ([] : List Addr) from hb) (by simp)
    · exact I.stack
    · exact I.stkFree
  have capl : cap.length = N'.length ∧ ∀ p ∈ N'.zip cap, (match p.2 with | none => true | some j => N₀[j]? == some p.1 && scope.names.lookup p.1 == some .free) = true := by
    unfold capOk at g5
    rw [Bool.and_eq_true] at g5
    exact ⟨by simpa using g5.1, fun p hp => List.all_eq_true.mp g5.2 p hp⟩
  have IZ : Inv Z [] (lamSt x cap σ) H { s with heap := h4, toks := s.toks + [(p, u)].length } := by
    refine ⟨okZ, rfl, I.bare, Un.kept kp4, ⟨_, hns, ?_⟩, ?_, ?_, ?_, fun p hp => absurd (show p ∈ ([] : List (Addr × Obj)) from hp) (by simp), I.hok.kept kp4, ?_⟩
    · intro i y v e1 e2 e3
      cases i with
      | zero =>
        have e1' : p = y := by
          have e1'' : (p :: N')[0]? = some y := e1
          simpa using e1''
        have e2' : x = v := by
          have e2'' : (lamSt x cap σ)[0]? = some (some v) := e2
          simpa [lamSt] using e2''
        subst e1' e2'
        exact ⟨u, rx, .inl ⟨hploc, by simp [List.lookup]⟩⟩
      | succ i =>
        have e1' : N'[i]? = some y := by
          have e1'' : (p :: N')[i + 1]? = some y := e1
          simpa using e1''
        have e2' : (cap.map fun o => o.bind fun j => (σ[j]?).bind id)[i]? = some (some v) := by
          have e2'' : (lamSt x cap σ)[i + 1]? = some (some v) := e2
          simpa [lamSt] using e2''
        rw [List.getElem?_map] at e2'
        cases ec : cap[i]? with
        | none => rw [ec] at e2'; cases e2'
        | some o =>
          rw [ec] at e2'
          cases o with
          | none => cases e2'
          | some j =>
            have e3' : (σ[j]?).bind id = some v := by simpa using e2'
            have hz : (y, some j) ∈ N'.zip cap := by
              refine List.mem_of_getElem? (i := i) ?_
              rw [List.getElem?_zip_eq_some]
              exact ⟨e1', ec⟩
            have q := capl.2 _ hz
            have q' : (N₀[j]? == some y) = true ∧ (scope.names.lookup y == some NameKind.free) = true := by simpa [Bool.and_eq_true] using q
            have q1 : X.N[j]? = some y := by rw [hN₀]; simpa using q'.1
            have q2 : scope.names.lookup y = some .free := by simpa using q'.2
            have eσ : σ[j]? = some (some v) := by
              cases z : σ[j]? with
              | none => rw [z] at e3'; cases e3'
              | some y' =>
                rw [z] at e3'
                have : y' = some v := e3'
                rw [this]
            have hk := fr (y, .free) (PySem.mem_of_lookup q2) rfl
            obtain ⟨m, hn, hl⟩ := I.loc
            have vis : Vis X.env.scope y := by
              rcases hk with z | z
              · exact .inr (.inl z)
              · exact .inr (.inr z)
            obtain ⟨u', r, l⟩ := hl j y v q1 eσ vis
            refine ⟨u', r, .inr ⟨.inr q2, ?_⟩⟩
            rcases l with ⟨kl, _⟩ | ⟨_, c, ecx, hcx⟩
            · rcases hk with z | z
              · have z' : X.env.kindOf y = some .cell := z
                rw [kl] at z'; cases z'
              · have z' : X.env.kindOf y = some .free := z
                rw [kl] at z'; cases z'
            · have hh := clo_has (cells := X.env.cells) scope.names [] y (PySem.mem_of_lookup q2)
              obtain ⟨c', ec'⟩ := Option.isSome_iff_exists.mp hh
              have ec2 := clX y c' ec'
              rw [ecx] at ec2
              cases ec2
              exact ⟨c, ec', hcx.keeps kp4⟩
    · intro y c e
      obtain ⟨v, z⟩ := I.cell y c (clX y c e)
      exact ⟨v, z.keeps kp4⟩
    · exact I.hok.fresh (Nat.le_refl _)
    · exact fun y c e => I.freeC y c (clX y c e)
    · show (lamSt x cap σ).length = (p :: N').length
      unfold lamSt
      rw [List.length_cons, List.length_cons, List.length_map, capl.1]
  refine wpAny_mono (hb [] _ _ H Q IZ h) (fun v s2 ⟨vv, H2, J, rv, q⟩ => ?_) fun _ _ z => z.elim
  refine ⟨vv, H2, rv, ?_, q⟩
  have un : Un (frs X.stack) [] H H2 s.heap s2.heap := J.base
  exact I.call' J.os un J.hok J.bare fun b hb => absurd hb (by simp)
end
end L2
namespace L2
open PySem PySem.W PySem.Spec PyProof.Rows
section
variable {X : Cx} {pins : List (Addr × Obj)} {σ : St} {H : Hp} {s : Shared}
theorem Inv.grow {P : Addr} {ps more : Array Value} {h' : Heap} {t' : Nat} (I : Inv X pins σ H s) (hP : H P = some (.tbl ps)) (hx : Heap.ExtBut P s.heap h') (hP' : h'.get? P = some { cls := .none, data := .fields (ps ++ more) }) :
    Inv X pins σ (upd H P (.tbl (ps ++ more))) { s with heap := h', toks := t' } := by
  have ne : ∀ b, H b = none → b ≠ P := fun b n z => by rw [z, hP] at n; cases n
  have hL : X.env.locals ≠ P := ne _ I.free
  refine I.step (g' := s.gens) (d' := s.drawn) (ch := []) (fun _ z => nomatch z) (fun b o _ _ _ e n => hx b o (ne b n) e) (fun b o _ _ _ e n => ⟨o.slots, hx b o (ne b n) e⟩) (fun b o _ _ n => by rw [upd_ne (ne b n)]; exact n) (fun b o _ e => ?_) (fun b xs e => ?_) (fun b ob u e => ?_) (fun b qs e => ?_) (fun m hm => ?_) (fun b u e => ?_) I.bare
  · by_cases hb : b = P
    · subst hb; exact ⟨_, hP'⟩
    · exact ⟨o, hx b o hb e⟩
  · rw [upd_ne (fun z => by rw [z, hP] at e; cases e)]; exact e
  · rw [upd_ne (fun z => by rw [z, hP] at e; cases e)]; exact e
  · by_cases hb : b = P
    · subst hb
      rw [hP] at e; cases e
      exact ⟨more, by rw [upd_same]⟩
    · exact ⟨#[], by rw [upd_ne hb, e]; simp⟩
  · exact hm.extBut hx hL
  · by_cases hb : b = P
    · subst hb; rw [upd_same] at e; cases e; exact hP'
    · rw [upd_ne hb] at e
      refine (I.hok b u e).stay (fun c v hc q => hx c v ?_ q) (fun c q => by rw [upd_ne (fun z => by rw [z, hP] at q; cases q)]; exact q) fun c xs q => by rw [upd_ne (fun z => by rw [z, hP] at q; cases q)]; exact q
      rcases hc with z | z
      · rw [z]; exact hb
      · intro w; rw [w, hP] at z; cases z
def TabOk (P : Addr) (pos : Pos) (qual : Str) (H : Hp) : Prop := H P = some (.tbl #[]) ∨ ∃ c' : Addr, H P = some (.tbl #[rawInt pos.line, rawInt pos.col, .ref c']) ∧ H c' = some (.ext fun h => h.CodeRec (.ref c') qual)
def BM (mg : Str → Option Value) (base : Heap) : Prop := ∃ bm ob, mg "__builtins__" = some (.ref bm) ∧ bm ≠ builtinsNs ∧ bm ≠ mainGlobals ∧ base.get? bm = some ob ∧ ob.cls = .type "module" ∧ ob.dict = some builtinsNs ∧ ob.data = .plain
theorem lam_make {P c : Addr} {params : Arguments} {body : Expr} {scope : Scope} {pos : Pos} {Q : Value → Shared → Prop} {E : Value → Shared → Prop} {A : Around} (sc : Scope) (hsc : X.env.scope = sc) (f1 : freeOk sc scope = true) (I : Inv X pins σ H s) (hbm : BM X.mg X.base) (hcode : X.env.code = .ref c)
    (hhd : codeHdIn X.K c P = true) (hT : TabOk P pos (X.env.qual ++ "<lambda>") H) (hdef : defaultsOf params X.env = ([], []))
    (h : ∀ (f : Addr) (H' : Hp) (s' : Shared) (c' : Addr) (pm ctv : Value), (∀ b o, H b = some o → b ≠ P → H' b = some o) → (∀ b, H' b = none → H b = none) → TabOk P pos (X.env.qual ++ "<lambda>") H' → H' c' = some (.ext fun h => h.CodeRec (.ref c') (X.env.qual ++ "<lambda>")) →
      Inv X (pins ++ [(f, ({ cls := .type "function", data := .func (kla_fn "<lambda>" (X.env.qual ++ "<lambda>") params body scope (clo X.env.cells scope.names []) pm (.ref c') ctv) } : Obj))]) σ H' s' → Q (.ref f) s') :
    wpAny (model X.prog X.w) A (eval (.Lambda params body scope pos) X.env) Q E s := by
  have ok := I.ok
  have fr : ∀ y ∈ scope.names, y.2 = .free → X.env.kindOf y.1 = some .cell ∨ X.env.kindOf y.1 = some .free := fun y hy e => by
    have q := List.all_eq_true.mp f1 y hy
    rw [e] at q
    have q' : ((sc.names.lookup y.1 == some NameKind.cell) || (sc.names.lookup y.1 == some NameKind.free)) = true := by simpa using q
    rw [Bool.or_eq_true] at q'
    unfold Env.kindOf
    rw [hsc]
    rcases q' with z | z
    · exact .inl (by simpa using z)
    · exact .inr (by simpa using z)
  have hclos : closureFor scope X.env = pure (clo X.env.cells scope.names []) := closureFor_clo fun y hy e => ok.has y.1 (fr y hy e)
  have hg : s.heap.Ns mainGlobals X.mg := I.mod.glob.keeps I.bk
  have C : CodeHd s.heap c P := codeHd_of_K I.kIn hhd
  obtain ⟨bm, ob, b1, b2, b3, b4, b5, b6, b7⟩ := hbm
  have hbmP : ∀ ps, H P = some (.tbl ps) → bm ≠ P := fun ps e z => by
    have := (I.bs bm ob b4).2
    rw [z, e] at this; cases this
  have hB : ∀ ps, H P = some (.tbl ps) → s.heap.BuiltinsAt X.mg P := fun ps e => ⟨bm, ob, b1, b2, b3, hbmP ps e, I.bk bm ob b4, b5, b6, b7⟩
  refine kla_eval hdef ?_
  rcases hT with hT | ⟨c', hT, hc'⟩
  · have hPo : s.heap.get? P = some (tabObj #[]) := I.hok P _ hT
    have hgP : mainGlobals ≠ P := fun q => by
      obtain ⟨o, es, ep, e, hd, _⟩ := id hg
      rw [q, hPo] at e; cases e; cases hd
    refine kla_makeFunction (mg := X.mg) hclos ok.glob hg hcode C hPo trivial rfl hgP (hB _ hT) fun c' ctv h' tk hx hge hlt hrec htb => ?_
    have hPlt : P < s.heap.objs.size := Heap.lt_size hPo
    have I1 : Inv X pins σ (upd H P (.tbl (#[] ++ #[rawInt pos.line, rawInt pos.col, .ref c']))) { s with heap := h', toks := tk } := I.grow hT hx htb
    have nc' : H c' = none := I.hok.fresh hge
    have hcP : c' ≠ P := fun z => by rw [z] at hge; exact absurd hPlt (Nat.not_lt.mpr hge)
    have nc1 : (upd H P (.tbl (#[] ++ #[rawInt pos.line, rawInt pos.col, .ref c']))) c' = none := by rw [upd_ne hcP]; exact nc'
    obtain ⟨q0, q1, q2, q3, q4, q5⟩ := I.fpOk (H' := H) hge nc'
    have hs0 : X.s₀.heap.objs.size ≤ c' := Nat.le_trans I.sz hge
    have I2 := I1.adopt (a := c') (o := .ext fun h => h.CodeRec (.ref c') (X.env.qual ++ "<lambda>")) nc1 q1 hs0 q4 q5
      ⟨hrec, by obtain ⟨cc, o, vs, t, e1, e2, _⟩ := hrec; cases e1; exact ⟨o, e2⟩, fun h1 h2 x k => x.at k⟩
    have I3 := I2.kept (h' := h'.push (kla_obj "<lambda>" (X.env.qual ++ "<lambda>") params body scope (clo X.env.cells scope.names []) ((X.mg "__name__").getD .none) c' ctv)) (t' := tk) fun b o e => Heap.get?_push_of_some _ e
    have nf : (upd (upd H P (.tbl (#[] ++ #[rawInt pos.line, rawInt pos.col, .ref c']))) c' (.ext fun h => h.CodeRec (.ref c') (X.env.qual ++ "<lambda>"))) h'.objs.size = none := I2.hok.fresh (Nat.le_refl _)
    have I4 := I3.pinMore (I2.fpOk (Nat.le_refl _) nf) (Heap.get?_push_size _ rfl) (fun v z => by cases z)
    refine h _ _ _ c' _ ctv (fun b o e hb => ?_) (fun b e => ?_) (.inr ⟨c', ?_, upd_same⟩) upd_same I4
    · rw [upd_ne (ne_of_none e nc'), upd_ne hb]; exact e
    · cases z : H b with
      | none => rfl
      | some o =>
        by_cases hb : b = P
        · rw [hb, upd_ne hcP.symm, upd_same] at e; cases e
        · rw [upd_ne (ne_of_none z nc'), upd_ne hb, z] at e; cases e
    · rw [upd_ne hcP.symm, upd_same]; simp
  · have hPo : s.heap.get? P = some (tabObj #[rawInt pos.line, rawInt pos.col, .ref c']) := I.hok P _ hT
    have hfnd : codeAmong pos (#[rawInt pos.line, rawInt pos.col, .ref c'] : Array Value).toList = some (.ref c') := by simp [codeAmong, rawInt]
    refine kla_makeFunctionHit (mg := X.mg) hclos ok.glob hg hcode C hPo trivial hfnd (hB _ hT) fun ctv h' tk hk hsz => ?_
    have I1 : Inv X pins σ H { s with heap := h', toks := tk } := I.kept hk
    have I3 := I1.kept (h' := h'.push ({ cls := .type "function", data := .func (kla_fn "<lambda>" (X.env.qual ++ "<lambda>") params body scope (clo X.env.cells scope.names []) ((X.mg "__name__").getD .none) (.ref c') ctv) } : Obj)) (t' := tk) fun b o e => Heap.get?_push_of_some _ e
    have nf : H h'.objs.size = none := I1.hok.fresh (Nat.le_refl _)
    have I4 := I3.pinMore (I1.fpOk (Nat.le_refl _) nf) (Heap.get?_push_size _ rfl) (fun v z => by cases z)
    exact h _ _ _ c' _ ctv (fun b o e _ => e) (fun b e => e) (.inr ⟨c', hT, hc'⟩) hc' I4
end
end L2
namespace L2
open PySem PySem.W PySem.Spec PyProof.Rows
def below0 (n : Nat) : List V := (List.range n).map fun (i : Nat) => V.int (i : Int)
def tSortLam (P : Addr) (lpos : Pos) (qual : Str) (cap : List (Option Nat)) (ta : TA) (te : TE) : TE := fun σ H Q => ta σ H fun vs H1 => ∃ n : Nat, vs = [.int (n : Int)] ∧ n < 64 ∧ TabOk P lpos qual H1 ∧
  ∀ H2, (∀ b o, H1 b = some o → b ≠ P → H2 b = some o) → (∀ b, H2 b = none → H1 b = none) → TabOk P lpos qual H2 →
    ∃ (Pv : Nat → List Addr → Hp → Prop) (key : Nat → List Int) (κ : Nat → Int) (m : Nat), Pv 0 [] H2 ∧ (∀ i ts H3, i < n → Pv i ts H3 → (∀ c', H2 c' = some (.ext fun h => h.CodeRec (.ref c') qual) → H3 c' = some (.ext fun h => h.CodeRec (.ref c') qual)) ∧ te (lamSt (.int (i : Int)) cap σ) H3 fun v H4 => ∃ t, v = .ref t ∧ Pv (i + 1) (ts ++ [t]) H4) ∧
      (∀ ts H3, Pv n ts H3 → ∀ i t, ts[i]? = some t → H3 t = some (.tup ((key i).map V.int))) ∧ (∀ i, i < n → (key i).length = m + 1) ∧ (∀ i j, i < n → j < n → HT.lexLt (key i) (key j) = decide (κ i < κ j)) ∧ Inj n κ ∧
      ∀ ts H3 D ys, Pv n ts H3 → H3 D = none → SortedBy κ (below0 n) ys → Q (.ref D) (upd H3 D (.lst ys))
section
variable {X : Cx} {e body : Expr} {ta : TA} {te : TE} {params : Arguments} {scope : Scope} {p1 p2 p3 lpos kp pos : Pos}
theorem pe_sortedLam {P c : Addr} {p : Str} (sc : Scope) (hsc : X.env.scope = sc) (N₀ : List Str) (hN₀ : X.N = N₀) (N' : List Str) (cap : List (Option Nat)) (f1 : freeOk sc scope = true) (f2 : ownOk scope = true) (f3 : lamOk scope p N₀ N' cap = true)
    (hcalm : X.calm = true) (hbm : BM X.mg X.base) (hcode : X.env.code = .ref c) (hhd : codeHdIn X.K c P = true) (hroom : X.A.depth + 4 < recursionLimit)
    (hgs : Gl X "sorted") (hms : X.mg "sorted" = none) (hgr : Gl X "range") (hmr : X.mg "range" = none) (ha : PA X [e] ta)
    (hb : ∀ (A : Around) (f : Addr) (cv : Value) (s : Shared) (H : Hp), A.handled = none → A.depth ≤ X.A.depth + 2 → A.units ≤ X.A.units + 2 → PE (lamCx X scope (X.env.qual ++ "<lambda>") cv (p :: N') A f s H) body te)
    (hbind : ∀ (pm cv ctv u : Value), bindArgs (kla_fn "<lambda>" (X.env.qual ++ "<lambda>") params body scope (clo X.env.cells scope.names []) pm cv ctv) ⟨[u], []⟩ = pure [(p, u)])
    (hdef : defaultsOf params X.env = ([], []) := by rfl) (hs : starEach [e] X.env = [(false, eval e X.env)] := by rfl) :
    PE X (.Call (.Name "sorted" p1) [.Call (.Name "range" p2) [e] [] p3] [⟨some "key", .Lambda params body scope lpos, kp⟩] pos) (tSortLam P lpos (X.env.qual ++ "<lambda>") cap ta te) := by
  intro pins s σ H Q I h
  refine wpAny_Call_Name_kw (ld_blt I hgs hms boot_sorted ?_)
  refine callWith_kw ?_
  show wpAny _ _ (spliced ((false, eval (.Call (.Name "range" p2) [e] [] p3) X.env) :: [])) _ _ s
  refine Calls.spliced_cons (Call_ (ld_blt I hgr hmr boot_range (PyProof.Rows.callWith_type1 (thn (ha p3 pins s σ H _ I h) fun us s1 ⟨vs, H1, I1, r1, q1⟩ => ?_) hs rfl)))
  obtain ⟨n, e1, hn, hT, q⟩ := q1
  subst e1
  obtain ⟨u, rfl, t, rfl⟩ := vals1 r1
  refine call_range_1 ?_
  refine Calls.spliced_nil ?_
  generalize hro : ({ cls := .type "range", data := .fields #[.int 0 s1.toks, .int (n : Int) t, .int 1 (s1.toks + 1)] } : Obj) = ro
  have hrd : ∀ v, ro.data ≠ .cell v := fun v z => by rw [← hro] at z; cases z
  have I2 : Inv X pins σ H1 { s1 with heap := s1.heap.push ro, toks := s1.toks + 1 + 1 } := I1.kept fun b o e => Heap.get?_push_of_some _ e
  have nr : H1 s1.heap.objs.size = none := I1.hok.fresh (Nat.le_refl _)
  have I3 := I2.pinMore (I1.fpOk (Nat.le_refl _) nr) (Heap.get?_push_size _ (by rw [← hro]; rfl)) hrd
  generalize ({ s1 with heap := s1.heap.push ro, toks := s1.toks + 1 + 1 } : Shared) = s2 at I3 ⊢
  generalize s1.heap.objs.size = r at I3 ⊢
  refine kws_cons (lam_make (P := P) (c := c) sc hsc f1 I3 hbm hcode hhd hT hdef fun f H2 s3 c' pm ctv k1 k2 hT2 hc' I4 => ?_)
  refine kws_nil ?_
  show wpAny _ _ (call (.builtin "sorted") [.ref r] [(Str.ofString "key", .ref f)]) _ _ s3
  obtain ⟨Pv, key, κ, m, p0, step, htup, hlong, hκ, hinj, fin⟩ := q H2 k1 k2 hT2
  refine call_function_entry_kw kind_sorted plain_sorted entry_sorted (ksk_s1 _ _) ?_
  unfold Builtin.«sorted»
  refine wpAny_bind (m := checkCount "sorted" 1 1 _) (wpAny_pure ?_)
  have pr := I4.pin (r, ro) (List.mem_append_right _ (List.mem_append_left _ (List.mem_append_right _ (by simp))))
  have hR : IsRange s3.heap r 0 (n : Int) 1 s1.toks t (s1.toks + 1) := by
    show s3.heap.get? r = _
    rw [pr.1, ← hro]
  have hrs : Builtin.Range.rangeSize 0 (n : Int) 1 = (n : Nat) := by rw [rangeSize_one]; split <;> omega
  refine wpAny_bind (collect_range (A := X.A.in1) (I.ok.hd hcalm) hR (small_one (by omega) (by omega) (by omega) (by omega)) hrs (by omega) fun h' tk vs hk rv => ?_)
  have I5 : Inv X _ σ H2 { s3 with heap := h', toks := tk } := I4.kept hk
  have hlen := rv.length
  rw [List.length_map, List.length_range] at hlen
  refine wpAny_bind (wpAny_newList ?_ (by rw [sizeLine_eq]; omega))
  have nD : H2 h'.objs.size = none := I5.hok.fresh (Nat.le_refl _)
  have I6 : Inv X _ σ H2 { s3 with heap := h'.push (seqObj "list" vs.toArray 0), toks := tk } := I5.kept (t' := tk) fun b o e => Heap.get?_push_of_some _ e
  have hD6 : (h'.push (seqObj "list" vs.toArray 0)).get? h'.objs.size = some (seqObj "list" vs.toArray 0) := Heap.get?_push_size _ rfl
  have hxl : ((List.range n).map fun (i : Nat) => V.int (i : Int)).length = n := by simp
  refine wpAny_bind (wpAny_holding (wpAny_call_entry_kw slot_list_sort ⟨_, hD6, rfl⟩ entry_list_sort ?body (ksk_l1 _ _)))
  show wpAny (model X.prog X.w) X.A.in1.in1 (Builtin.«list.sort» ⟨[.ref h'.objs.size], [(Str.ofString "key", .ref f)]⟩) _ _ _
  rw [ksk_t1]
  refine wpAny_mono (sort_tree (X := X) (A := X.A.in1.in1) (s := { s3 with heap := h'.push (seqObj "list" vs.toArray 0), toks := tk }) (xs := below0 n) (key := key) (κ := κ) (m := m) (n0 := 0) rv (by show ((List.range n).map _).length < 64; rw [hxl]; exact hn) Pv I6 hD6
    (fun H' hn' => I5.fpOk (Nat.le_refl _) hn') nD (Nat.le_trans I5.sz (Nat.le_refl _)) p0 ?call ?tup ?long ?kap ?inj) ?_ fun _ _ x => x
  case call =>
    intro i x u ts pins' s' H' hx rx I' hsub pv
    obtain ⟨hi, ex⟩ : i < n ∧ x = V.int (i : Int) := by
      have hx' : ((List.range n).map fun (i : Nat) => V.int (i : Int))[i]? = some x := hx
      rw [List.getElem?_map] at hx'
      by_cases hi : i < n
      · rw [List.getElem?_range hi] at hx'
        exact ⟨hi, (Option.some.inj hx').symm⟩
      · rw [List.getElem?_eq_none (by rw [List.length_range]; omega)] at hx'; cases hx'
    subst ex
    obtain ⟨hkc, ht⟩ := step i ts H' hi pv
    have hcr : s'.heap.CodeRec (.ref c') (X.env.qual ++ "<lambda>") := (I'.hok c' _ (hkc c' hc')).1
    refine wpAny_mono (lam_call (X := X) (A := X.A.in1.in1) sc hsc N₀ hN₀ f1 f2 f3 I' I.ok.frames (I.ok.hd hcalm) (by show X.A.depth < recursionLimit; omega) (hsub _ (List.mem_append_right _ List.mem_cons_self)) hcr (hbind _ _ _ _)
      (hb _ f _ s' H' (I.ok.hd hcalm) (by show X.A.depth ≤ X.A.depth + 2; omega) (by show X.A.units + 1 + 1 ≤ X.A.units + 2; omega)) rx ht) (fun k s2 ⟨v, H3, rv', I7, t', ev, pv'⟩ => ?_) fun _ _ x => x
    subst ev
    have ek : k = .ref t' := rv'
    exact ⟨t', H3, ek, I7, pv'⟩
  case tup =>
    intro ts H' pv
    have pv' : Pv n ts H' := by
      have : Pv ((List.range n).map fun (i : Nat) => V.int (i : Int)).length ts H' := pv
      rw [hxl] at this; exact this
    exact htup ts H' pv'
  case long =>
    intro i hi
    have hi' : i < ((List.range n).map fun (i : Nat) => V.int (i : Int)).length := hi
    rw [hxl] at hi'
    exact hlong i hi'
  case kap =>
    intro i j hi hj
    have hi' : i < ((List.range n).map fun (i : Nat) => V.int (i : Int)).length := hi
    have hj' : j < ((List.range n).map fun (i : Nat) => V.int (i : Int)).length := hj
    rw [hxl] at hi' hj'
    exact hκ i j hi' hj'
  case inj =>
    have : (below0 n).length = n := hxl
    rw [this]; exact hinj
  rintro fin' s8 ⟨rfl, ts, H8, ys, pv, nD8, hsb, I8⟩
  refine ⟨_, rfl, wpAny_pure ⟨_, rfl, ?_⟩⟩
  have pv' : Pv n ts H8 := by
    have e' : (below0 n).length = n := hxl
    rw [e'] at pv; exact pv
  exact ⟨.ref h'.objs.size, _, I8.unpinned.unpinned, rfl, fin ts H8 _ ys pv' nD8 hsb⟩
end
end L2
namespace L2
open PySem PySem.W PySem.Spec PyProof.Rows
def OnlyT (ts : List Addr) (H : Hp) : Prop := ∀ b, H b = none ∨ (∃ o xs, H b = some (.frz o (.lst xs))) ∨ (b ∈ ts ∧ H b = some (.tbl #[]))
theorem law_callT {P : Program} {w : World} {K : PySem.W.Frag} {mg mb : Str → Option Value} {CX : CXT} {k : Nat} {fa a : Addr} {fd : FuncData} {x : Str} {sp : Sp} {s₁ : Shared} {vs : List Value} {ns : List Int} {ts : List Addr}
    (KX : K.In s₁.heap) (hns : s₁.heap.Ns mainGlobals mg) (hb : s₁.heap.Ns builtinsNs mb) (hbb : ∀ x : Str, x ≠ "__name__" → mb x = bootBuiltins x) (hlim : s₁.heap.NoLimit) (hg : s₁.gens = #[])
    (ha : s₁.heap.get? a = some { cls := .type "list", data := .seq vs.toArray }) (hi : IntsAre vs ns) (hl : ns.length ≤ sizeLine) (hr : Room k callerA)
    (hts : ∀ P ∈ ts, s₁.heap.get? P = some (tabObj #[])) (htk : ∀ P ∈ ts, K.lookup P = none) (htc : ∀ P ∈ ts, isCodeTable s₁.heap P)
    (hbm : ∃ bm ob, mg "__builtins__" = some (.ref bm) ∧ bm ≠ builtinsNs ∧ s₁.heap.get? bm = some ob ∧ ob.cls = .type "module" ∧ ob.dict = some builtinsNs ∧ ob.data = .plain)
    (F : ∀ base : Heap, K.In base → base.Ns mainGlobals mg → BM mg base → FnOk P w K mg base CX k fa fd [x] sp) (hbind : ∀ (s : Shared) (u : Value), BindsTo s fd ⟨[u], []⟩ [(x, u)])
    (hsp : ∀ H : Hp, OnlyT ts H → (∀ P ∈ ts, H P = some (.tbl #[])) → SqL K H a (ns.map V.int) → sp [.ref a] H (fun v _ => v = .bl true) fun _ _ _ => False)
    (hCX : ∀ H e s', CX [] H s₁ (fun _ _ _ => False) e s' → False) :
    codeAny (model P w) callerA (.call (.ref fa) ⟨[.ref a], []⟩) (fun r s' => r = .ok (.ret (.bool true)) ∧ OldK s₁.heap s'.heap ∧ s'.os = s₁.os ∧ AllBare s'.gens) s₁ := by
  have rv := vals_ints hi
  have lenV := hi.length
  have haT : a ∉ ts := fun z => by have := hts a z; rw [ha] at this; cases this
  have core : ∀ H : Hp, OnlyT ts H → (∀ P ∈ ts, H P = some (.tbl #[])) → SqL K H a (ns.map V.int) → HOk P w H s₁.heap → (∀ b, H b ≠ none → b = a ∨ b ∈ ts) → (H a ≠ none → K.lookup a = none) →
      codeAny (model P w) callerA (.call (.ref fa) ⟨[.ref a], []⟩) (fun r s' => r = .ok (.ret (.bool true)) ∧ OldK s₁.heap s'.heap ∧ s'.os = s₁.os ∧ AllBare s'.gens) s₁ := by
    intro H hO hTb hS hok hA hK
    have base_of : ∀ {b : Addr} {o : Obj}, s₁.heap.get? b = some o → H b = none → (hidT s₁.heap H).get? b = some o := fun e n => hidT_get e n
    have noA : ∀ {b : Addr} {o : Obj}, s₁.heap.get? b = some o → (∀ xs n, o.data ≠ .seq xs n) → (∀ ps, o.data ≠ .fields ps) → H b = none := fun {b o} e d1 d2 => by
      cases q : H b with
      | none => rfl
      | some u =>
        rcases hA b (by rw [q]; simp) with e' | e'
        · subst e'
          rw [ha] at e; cases e
          exact absurd rfl (d1 _ _)
        · have := hts b e'
          rw [e] at this; cases this
          exact absurd rfl (d2 _)
    have nsK : ∀ {b : Addr} {m : Str → Option Value}, s₁.heap.Ns b m → (hidT s₁.heap H).Ns b m := fun {b m} ⟨o, es, ep, e, d, r⟩ => ⟨o, es, ep, base_of e (noA e (fun _ _ z => by rw [d] at z; cases z) fun _ z => by rw [d] at z; cases z), d, r⟩
    have hKb : K.In (hidT s₁.heap H) := fun b o e => base_of (KX b o e) (by
      cases q : H b with
      | none => rfl
      | some u =>
        rcases hA b (by rw [q]; simp) with e' | e'
        · subst e'
          rw [hK (by rw [q]; simp)] at e; cases e
        · rw [htk b e'] at e; cases e)
    have hM : Mod K mg (hidT s₁.heap H) := ⟨hKb, nsK hns, ⟨mb, nsK hb, hbb⟩, let ⟨mc, h1, h2⟩ := hlim; ⟨mc, nsK h1, h2⟩⟩
    have hBM : BM mg (hidT s₁.heap H) := by
      obtain ⟨bm, ob, c1, c2, c3, c4, c5, c6⟩ := hbm
      refine ⟨bm, ob, c1, c2, fun q => ?_, base_of c3 (noA c3 (fun _ _ z => by rw [c6] at z; cases z) fun _ z => by rw [c6] at z; cases z), c4, c5, c6⟩
      obtain ⟨o, es, ep, e, hd, _⟩ := id hns
      rw [q, e] at c3; cases c3; rw [hd] at c6; cases c6
    have e0 : Env0 P w K mg (hidT s₁.heap H) callerA [] s₁ H := ⟨rfl, hM, fun b o e => of_hidT e, Nat.le_of_eq (hidT_size _ _), trivial, fun b hb => absurd (show b ∈ ([] : List Addr) from hb) (by simp), hok, .of_eq hg⟩
    refine codeAny_mono ((F _ hKb (nsK hns) hBM).run callerA [] s₁ H ⟨[.ref a], []⟩ [.ref a] [.ref a] _ _ hr e0 (hbind s₁ (.ref a)) (.cons rfl .nil) (hsp H hO hTb hS)) fun r s' h => ?_
    cases r with
    | error e => exact (hCX H e s' h).elim
    | ok fl =>
      cases fl with
      | next => exact False.elim h
      | brk => exact False.elim h
      | cont => exact False.elim h
      | ret u =>
        obtain ⟨v, H', os, bare, un, hok', r', q⟩ := h
        have q' : v = .bl true := q
        subst q'
        obtain rfl : u = Value.bool true := r'
        have old : ∀ b o, s₁.heap.get? b = some o → asItWas s₁.heap s'.heap b o := fun b o e => by
          rcases hO b with z | ⟨ob, xs, z⟩ | ⟨hbt, z⟩
          · exact .inl (un.keep b o e z (by intro z; exact absurd (show b ∈ ([] : List Addr) from z) (by simp)) (by simp))
          · have z2 := un.frzs b ob _ z
            obtain ⟨e1, _⟩ := hok b _ z
            obtain ⟨e2, _⟩ := hok' b _ z2
            rw [e] at e1; cases e1
            exact .inl e2
          · obtain ⟨more, z2⟩ := un.tbls b #[] z
            have e2 : s'.heap.get? b = some { cls := .none, data := .fields (#[] ++ more) } := hok' b _ z2
            have e3 := hts b hbt
            rw [e] at e3; cases e3
            exact .inr (.inl ⟨htc b hbt, rfl, #[], more, rfl, e2⟩)
        refine ⟨rfl, ⟨old, fun b o e => ?_⟩, os, bare⟩
        exact un.there b o e (by simp)
  have tb : ∀ b, (if b ∈ ts then some (HO.tbl #[]) else none) = none ∨ b ∈ ts := fun b => by
    by_cases h : b ∈ ts
    · exact .inr h
    · exact .inl (if_neg h)
  cases hk : K.lookup a with
  | some o =>
    have e := KX a o hk
    rw [ha] at e
    cases e
    refine core (fun b => if b ∈ ts then some (.tbl #[]) else none) (fun b => ?_) (fun P hP => if_pos hP) (.inr ⟨_, vs.toArray, _, hk, rfl, rfl, rfl, by rw [List.size_toArray, lenV]; exact hl, by simpa using rv⟩) (fun b u z => ?_) (fun b z => ?_) (fun z => absurd (if_neg haT) z)
    · by_cases h : b ∈ ts
      · exact .inr (.inr ⟨h, if_pos h⟩)
      · exact .inl (if_neg h)
    · by_cases h : b ∈ ts
      · have z' := (if_pos h).symm.trans z
        cases z'
        exact hts b h
      · have z' := (if_neg h).symm.trans z
        cases z'
    · by_cases h : b ∈ ts
      · exact .inr h
      · exact absurd (if_neg h) z
  | none =>
    refine core (fun b => if b = a then some (.frz { cls := .type "list", data := .seq vs.toArray } (.lst (ns.map V.int))) else if b ∈ ts then some (.tbl #[]) else none) (fun b => ?_) (fun P hP => ?_) (.inl (.inr ⟨{ cls := .type "list", data := .seq vs.toArray }, if_pos rfl⟩)) (fun b u z => ?_) (fun b z => ?_) fun _ => hk
    · by_cases hb : b = a
      · exact .inr (.inl ⟨_, _, if_pos hb⟩)
      · by_cases h : b ∈ ts
        · exact .inr (.inr ⟨h, (if_neg hb).trans (if_pos h)⟩)
        · exact .inl ((if_neg hb).trans (if_neg h))
    · have hb : P ≠ a := fun z => haT (z ▸ hP)
      exact (if_neg hb).trans (if_pos hP)
    · by_cases hb : b = a
      · have z' := (if_pos hb).symm.trans z
        cases z'
        subst hb
        exact ⟨ha, by rw [List.length_map]; exact hl, vs, _, rv, ha⟩
      · have z1 := (if_neg hb).symm.trans z
        by_cases h : b ∈ ts
        · have z' := (if_pos h).symm.trans z1
          cases z'
          exact hts b h
        · have z' := (if_neg h).symm.trans z1
          cases z'
    · by_cases hb : b = a
      · exact .inl hb
      · by_cases h : b ∈ ts
        · exact .inr h
        · exact absurd ((if_neg hb).trans (if_neg h)) z
theorem walk_ofT {l : PySem.W.OpenLaw} {n k : Nat} {q : Program} {loose : List Str} {XP : (Str → Option Value) → Heap → Prop} {YP : World → Heap → Prop} {d : DefRec} {K : Params → PySem.W.Frag} {CX : World → CXT} {sp : World → Sp} {x : Str} {ts : List Addr}
    (hn : l.most = some n) (hn2 : n ≤ sizeLine) (hdf : d.params.defaults = []) (hr : Room k callerA)
    (hY : ∀ (w : World) (h : Heap), YP w h → (K w.params).In h) (hYt : ∀ (w : World) (h : Heap), YP w h → ∀ P ∈ ts, h.get? P = some (tabObj #[]))
    (hts : ∀ (w : World), ∀ P ∈ ts, (K w.params).lookup P = none ∧ ∃ c, codeHdIn (K w.params) c P = true)
    (F : ∀ (w : World) (mg : Str → Option Value) (fa : Addr) (h : Heap), (K w.params).In h → h.Ns mainGlobals mg → mg d.name = some (.ref fa) →
      ∃ fd : FuncData, (∀ (s : Shared) (u : Value), BindsTo s fd ⟨[u], []⟩ [(x, u)]) ∧
        ∀ base : Heap, (K w.params).In base → base.Ns mainGlobals mg → BM mg base → FnOk l.prog w (K w.params) mg base (CX w) k fa fd [x] (sp w))
    (hsp : ∀ (w : World) (H : Hp) (a : Addr) (ns : List Int), ns.length ≤ n → OnlyT ts H → (∀ P ∈ ts, H P = some (.tbl #[])) → SqL (K w.params) H a (ns.map V.int) → sp w [.ref a] H (fun v _ => v = .bl true) fun _ _ _ => False)
    (hCX : ∀ (w : World) (H : Hp) (s : Shared) (e : Value) (s' : Shared), CX w [] H s (fun _ _ _ => False) e s' → False) :
    PySem.W.WalkO q loose XP YP l.row.toRowW d [] (fun f vs => PySem.call f vs) := by
  refine Att.attach_call hn hdf fun w s₀ s₁ mg mb fa o pm cd doc a vs ns G Y ho hd hcd hmg hobj hints hlen hg => ?_
  have KX := hY w _ Y
  obtain ⟨fd, hb, hF⟩ := F w mg fa _ KX G.T.g hmg
  refine law_callT KX G.T.g G.T.b G.T.builtins G.T.nolimit hg hobj hints (Nat.le_trans hlen hn2) hr (hYt w _ Y) (fun P hP => (hts w P hP).1) (fun P hP => ?_) G.T.bmain hF hb (fun H hO hT hS => hsp w H a ns hlen hO hT hS) fun H e s' => hCX w H s₁ e s'
  obtain ⟨c, hc⟩ := (hts w P hP).2
  obtain ⟨o, vs, file, tf, flags, tg, inF, text, tt, e1, e2, e3, e4, _⟩ := codeHd_of_K KX hc
  exact ⟨c, o, vs, e1, e2, e3, e4⟩
end L2
namespace L2
open PySem PySem.Spec PyProof.Rows
mutual
inductive Den (K : PySem.W.Frag) (H : Hp) : V → PyData → Prop
  | non : Den K H .non .none
  | bl (b : Bool) : Den K H (.bl b) (.bool b)
  | int (i : Int) : Den K H (.int i) (.int i)
  | str (x : Str) : Den K H (.str x) (.str x)
  | list {a : Addr} {xs : List V} {ds : List PyData} : SqL K H a xs → Dens K H xs ds → Den K H (.ref a) (.list ds)
  | tuple {a : Addr} {xs : List V} {ds : List PyData} : SqT K H a xs → Dens K H xs ds → Den K H (.ref a) (.tuple ds)
inductive Dens (K : PySem.W.Frag) (H : Hp) : List V → List PyData → Prop
  | nil : Dens K H [] []
  | cons {v : V} {vs : List V} {d : PyData} {ds : List PyData} : Den K H v d → Dens K H vs ds → Dens K H (v :: vs) (d :: ds)
end
theorem Same.seqT {K : PySem.W.Frag} {H H' : Hp} {a : Addr} {xs : List V} (e : Same H H') (h : SqT K H a xs) : SqT K H' a xs := by
  rcases h with (h | ⟨o, h⟩) | h
  · exact .inl (.inl (e _ _ h))
  · exact .inl (.inr ⟨o, e _ _ h⟩)
  · exact .inr h
theorem Dens.length {K : PySem.W.Frag} {H : Hp} : ∀ {vs : List V} {ds : List PyData}, Dens K H vs ds → vs.length = ds.length
  | _, _, .nil => rfl
  | _, _, .cons _ hs => by rw [List.length_cons, List.length_cons, Dens.length hs]
theorem Dens.append {K : PySem.W.Frag} {H : Hp} : ∀ {vs ws : List V} {ds es : List PyData}, Dens K H vs ds → Dens K H ws es → Dens K H (vs ++ ws) (ds ++ es)
  | _, _, _, _, .nil, h => h
  | _, _, _, _, .cons h hs, h' => .cons h (Dens.append hs h')
theorem Dens.get {K : PySem.W.Frag} {H : Hp} : ∀ {vs : List V} {ds : List PyData} {i : Nat} {d : PyData}, Dens K H vs ds → ds[i]? = some d → ∃ v, vs[i]? = some v ∧ Den K H v d
  | _, _, _, _, .nil, e => by simp at e
  | _, _, 0, _, .cons h _, e => by simp at e; subst e; exact ⟨_, rfl, h⟩
  | _, _, i + 1, d, .cons _ hs, e => by
    obtain ⟨v, h1, h2⟩ := Dens.get (i := i) (d := d) hs (by simpa using e)
    exact ⟨v, by simpa using h1, h2⟩
theorem Dens.get' {K : PySem.W.Frag} {H : Hp} : ∀ {vs : List V} {ds : List PyData} {i : Nat} {v : V}, Dens K H vs ds → vs[i]? = some v → ∃ d, ds[i]? = some d ∧ Den K H v d
  | _, _, _, _, .nil, e => by simp at e
  | _, _, 0, _, .cons h _, e => by simp at e; subst e; exact ⟨_, rfl, h⟩
  | _, _, i + 1, v, .cons _ hs, e => by
    obtain ⟨d, h1, h2⟩ := Dens.get' (i := i) (v := v) hs (by simpa using e)
    exact ⟨d, by simpa using h1, h2⟩
theorem Dens.ints {K : PySem.W.Frag} {H : Hp} : ∀ (ns : List Int), Dens K H (ns.map V.int) (ns.map PyData.int)
  | [] => .nil
  | n :: ns => .cons (.int n) (Dens.ints ns)
def dInts (ns : List Int) : PyData := .list (ns.map PyData.int)
theorem Den.ints {K : PySem.W.Frag} {H : Hp} {a : Addr} {ns : List Int} (h : SqL K H a (ns.map V.int)) : Den K H (.ref a) (dInts ns) := .list h (Dens.ints ns)
theorem Dens.int_inv {K : PySem.W.Frag} {H : Hp} : ∀ {vs : List V} {ns : List Int}, Dens K H vs (ns.map PyData.int) → vs = ns.map V.int
  | _, [], .nil => rfl
  | _, n :: ns, .cons h hs => by
    cases h
    rw [Dens.int_inv hs]; rfl
theorem Den.ints_inv {K : PySem.W.Frag} {H : Hp} {v : V} {ns : List Int} (h : Den K H v (dInts ns)) : ∃ a, v = .ref a ∧ SqL K H a (ns.map V.int) := by
  cases h with
  | list h hs => exact ⟨_, rfl, by rw [← Dens.int_inv hs]; exact h⟩
section
variable {X : Cx} {pins : List (Addr × Obj)} {σ : St} {H : Hp} {s : Shared}
mutual
theorem Den.reads (I : Inv X pins σ H s) : ∀ {v : V} {d : PyData} {u : Value}, Den X.K H v d → RelV v u → ∃ as, Reads s.heap u d as
  | _, _, _, .non, r => by cases r; exact ⟨_, .none⟩
  | _, _, _, .bl b, r => by cases r; exact ⟨_, .bool b⟩
  | _, _, _, .int i, r => by obtain ⟨t, rfl⟩ := r; exact ⟨_, .int i t⟩
  | _, _, _, .str x, r => by obtain ⟨t, rfl⟩ := r; exact ⟨_, .str x t⟩
  | _, _, _, .list h hs, r => by
    cases r
    obtain ⟨its, r1, ⟨o, n, e, c, _, d⟩, _⟩ := I.list h
    obtain ⟨as, q⟩ := Dens.reads I hs r1
    exact ⟨_, .list e c d (by simpa using q)⟩
  | _, _, _, .tuple h hs, r => by
    cases r
    obtain ⟨its, r1, ⟨o, e, c, n, d⟩, _⟩ := I.tuple h
    obtain ⟨as, q⟩ := Dens.reads I hs r1
    exact ⟨_, .tuple e c d (by simpa using q)⟩
theorem Dens.reads (I : Inv X pins σ H s) : ∀ {vs : List V} {ds : List PyData} {us : List Value}, Dens X.K H vs ds → Vals vs us → ∃ as, ReadsAll s.heap us ds as
  | _, _, _, .nil, r => by cases r; exact ⟨_, .nil⟩
  | _, _, _, .cons h hs, r => by
    cases r with
    | cons r1 r2 =>
      obtain ⟨as, q⟩ := Den.reads I h r1
      obtain ⟨bs, q'⟩ := Dens.reads I hs r2
      exact ⟨_, .cons q q'⟩
end
def rEqD (K : PySem.W.Frag) (neg : Bool) : R2 := fun x y H Q => ∃ d e, Den K H x d ∧ Den K H y e ∧ SeqAt.shaped d = true ∧ SeqAt.shaped e = true ∧ Q (.bl (if neg then !PyData.eqv d e else PyData.eqv d e)) H
theorem op_eqD (hu : X.A.units + 64 < cLine) : OpR X (compareOp .Eq) (rEqD X.K false) := by
  intro pins s σ H x y v u Q I rx ry h
  obtain ⟨d, e, hd, he, sd, se, q⟩ := h
  obtain ⟨as, ra⟩ := hd.reads I rx
  obtain ⟨bs, rb⟩ := he.reads I ry
  exact SeqAt.compareEq_shaped ra rb sd se hu ⟨.bl _, H, I, rfl, q⟩
end
def Sh (n : Nat) (d : PyData) : Prop := d.canLay0 = true ∧ d.depth ≤ n
theorem canAll : ∀ {ds : List PyData}, (∀ d ∈ ds, d.canLay0 = true) → PyData.canLayAll0 ds = true
  | [], _ => rfl
  | d :: ds, h => by rw [PyData.canLayAll0, h d List.mem_cons_self, canAll fun x hx => h x (List.mem_cons_of_mem _ hx)]; rfl
theorem depAll {n : Nat} : ∀ {ds : List PyData}, (∀ d ∈ ds, d.depth ≤ n) → PyData.depthAll ds ≤ n
  | [], _ => by simp [PyData.depthAll]
  | d :: ds, h => by
    have h1 := h d List.mem_cons_self
    have h2 := depAll fun x hx => h x (List.mem_cons_of_mem _ hx)
    simp only [PyData.depthAll]
    omega
theorem Sh.int (n : Nat) (i : Int) : Sh n (.int i) := ⟨rfl, by simp [PyData.depth]⟩
theorem Sh.list {n : Nat} {ds : List PyData} (h : ∀ d ∈ ds, Sh n d) : Sh (n + 1) (.list ds) := ⟨by rw [PyData.canLay0]; exact canAll fun d hd => (h d hd).1, by
  have := depAll fun d hd => (h d hd).2
  simp only [PyData.depth]; omega⟩
theorem Sh.tuple {n : Nat} {ds : List PyData} (h : ∀ d ∈ ds, Sh n d) : Sh (n + 1) (.tuple ds) := ⟨by rw [PyData.canLay0]; exact canAll fun d hd => (h d hd).1, by
  have := depAll fun d hd => (h d hd).2
  simp only [PyData.depth]; omega⟩
theorem Sh.ints (n : Nat) (ns : List Int) : Sh (n + 1) (dInts ns) := .list fun d hd => by
  obtain ⟨i, _, rfl⟩ := List.mem_map.mp hd
  exact .int n i
theorem Sh.ok {n : Nat} {d : PyData} (h : Sh n d) (hn : n ≤ 64) : SeqAt.shaped d = true := by
  unfold SeqAt.shaped
  rw [h.1, decide_eq_true (by have := h.2; omega)]; rfl
theorem eqv_same {n : Nat} {d : PyData} (h : Sh n d) : PyData.eqv d d = true := SeqAt.eqv_refl d h.1
abbrev Tabs := List (Addr × Pos × Str)
def TabsOk (T : Tabs) (H : Hp) : Prop := ∀ t ∈ T, TabOk t.1 t.2.1 t.2.2 H
structure SameT (T : Tabs) (H H' : Hp) : Prop where
  t0 : TabsOk T H
  t1 : TabsOk T H'
  keep : ∀ b o, H b = some o → (∀ ps, o ≠ .tbl ps) → H' b = some o
  tb : ∀ b ps, H b = some (.tbl ps) → ∃ ps', H' b = some (.tbl ps')
theorem TabsOk.mono {T : Tabs} {H H' : Hp} (t : TabsOk T H) (s : Same H H') : TabsOk T H' := fun q hq => by
  rcases t q hq with e | ⟨c, e1, e2⟩
  · exact .inl (s _ _ e)
  · exact .inr ⟨c, s _ _ e1, s _ _ e2⟩
theorem SameT.refl {T : Tabs} {H : Hp} (t : TabsOk T H) : SameT T H H := ⟨t, t, fun _ _ h _ => h, fun _ ps h => ⟨ps, h⟩⟩
theorem SameT.of {T : Tabs} {H H' : Hp} (t : TabsOk T H) (s : Same H H') : SameT T H H' := ⟨t, t.mono s, fun b o h _ => s b o h, fun b ps h => ⟨ps, s _ _ h⟩⟩
theorem SameT.trans {T : Tabs} {H H1 H2 : Hp} (a : SameT T H H1) (b : SameT T H1 H2) : SameT T H H2 := ⟨a.t0, b.t1, fun c o h n => b.keep c o (a.keep c o h n) n, fun c ps h => by
  obtain ⟨ps', e⟩ := a.tb c ps h
  exact b.tb c ps' e⟩
theorem SameT.free {T : Tabs} {H H' : Hp} (a : SameT T H H') {l : Addr} (h : H' l = none) : H l = none := by
  cases q : H l with
  | none => rfl
  | some o =>
    have key : (∃ ps, o = .tbl ps) ∨ ∀ ps, o ≠ .tbl ps := by
      cases o with
      | tbl ps => exact .inl ⟨ps, rfl⟩
      | _ => exact .inr fun _ z => by cases z
    rcases key with ⟨ps, rfl⟩ | n
    · obtain ⟨ps', e⟩ := a.tb l ps q
      rw [h] at e; cases e
    · have := a.keep l o q n
      rw [h] at this; cases this
theorem SameT.seq {T : Tabs} {K : PySem.W.Frag} {H H' : Hp} {a : Addr} {xs : List V} (e : SameT T H H') (h : SqL K H a xs) : SqL K H' a xs := by
  rcases h with (h | ⟨o, h⟩) | h
  · exact .inl (.inl (e.keep _ _ h fun _ z => by cases z))
  · exact .inl (.inr ⟨o, e.keep _ _ h fun _ z => by cases z⟩)
  · exact .inr h
theorem SameT.seqT {T : Tabs} {K : PySem.W.Frag} {H H' : Hp} {a : Addr} {xs : List V} (e : SameT T H H') (h : SqT K H a xs) : SqT K H' a xs := by
  rcases h with (h | ⟨o, h⟩) | h
  · exact .inl (.inl (e.keep _ _ h fun _ z => by cases z))
  · exact .inl (.inr ⟨o, e.keep _ _ h fun _ z => by cases z⟩)
  · exact .inr h
mutual
theorem Den.monoT {T : Tabs} {K : PySem.W.Frag} {H H' : Hp} (e : SameT T H H') : ∀ {v : V} {d : PyData}, Den K H v d → Den K H' v d
  | _, _, .non => .non
  | _, _, .bl b => .bl b
  | _, _, .int i => .int i
  | _, _, .str x => .str x
  | _, _, .list h hs => .list (e.seq h) (Dens.monoT e hs)
  | _, _, .tuple h hs => .tuple (e.seqT h) (Dens.monoT e hs)
theorem Dens.monoT {T : Tabs} {K : PySem.W.Frag} {H H' : Hp} (e : SameT T H H') : ∀ {vs : List V} {ds : List PyData}, Dens K H vs ds → Dens K H' vs ds
  | _, _, .nil => .nil
  | _, _, .cons h hs => .cons (Den.monoT e h) (Dens.monoT e hs)
end
def RetLT (T : Tabs) (H : Hp) (P : List V → Prop) (Q : VK) : Prop := ∀ (l : Addr) (H' : Hp) (xs : List V), SameT T H H' → H l = none → H' l = some (.lst xs) → P xs → Q (.ref l) H'
def plainO : HO → Bool
  | .tbl _ => false
  | .ext _ => false
  | _ => true
structure Ow (T : Tabs) (H0 H : Hp) (L : List (Addr × HO)) : Prop where
  same : SameT T H0 H
  new : ∀ p ∈ L, H0 p.1 = none
  at_ : ∀ p ∈ L, H p.1 = some p.2
  pl : ∀ p ∈ L, plainO p.2 = true
  nd : (L.map (·.1)).Nodup
section
variable {T : Tabs} {H0 H1 H H' : Hp} {L L' : List (Addr × HO)} {a l : Addr} {o o' : HO} {xs : List V}
theorem Ow.refl (t : TabsOk T H) : Ow T H H [] := ⟨SameT.refl t, (fun p hp => nomatch hp), (fun p hp => nomatch hp), (fun p hp => nomatch hp), List.nodup_nil⟩
theorem Ow.get (O : Ow T H0 H L) (k : Nat) (h : L[k]? = some (a, o) := by rfl) : H a = some o := O.at_ _ (List.mem_of_getElem? h)
theorem Ow.fr (O : Ow T H0 H L) (k : Nat) (h : L[k]? = some (a, o) := by rfl) : H0 a = none := O.new _ (List.mem_of_getElem? h)
theorem Ow.sq {K : PySem.W.Frag} (O : Ow T H0 H L) (k : Nat) (h : L[k]? = some (a, .lst xs) := by rfl) : SqL K H a xs := SqL.of (O.get k h)
theorem Ow.sqT {K : PySem.W.Frag} (O : Ow T H0 H L) (k : Nat) (h : L[k]? = some (a, .tup xs) := by rfl) : SqT K H a xs := SqT.of (O.get k h)
theorem TabOk.upd {P : Addr} {pos : Pos} {q : Str} (t : TabOk P pos q H) (h : H a = none ∨ ∃ o, H a = some o ∧ plainO o = true) : TabOk P pos q (L2.upd H a o') := by
  have ne : ∀ b u, H b = some u → plainO u = false → b ≠ a := fun b u e p z => by
    subst z
    rcases h with h | ⟨o, h, ho⟩
    · rw [h] at e; cases e
    · rw [h] at e; cases e; rw [ho] at p; cases p
  rcases t with e | ⟨c, e1, e2⟩
  · exact .inl (by rw [upd_ne (ne _ _ e rfl)]; exact e)
  · exact .inr ⟨c, by rw [upd_ne (ne _ _ e1 rfl)]; exact e1, by rw [upd_ne (ne _ _ e2 rfl)]; exact e2⟩
theorem SameT.upd (s : SameT T H0 H) (h : H0 a = none) (h' : H a = none ∨ ∃ o, H a = some o ∧ plainO o = true) : SameT T H0 (L2.upd H a o') :=
  ⟨s.t0, fun t ht => (s.t1 t ht).upd h', fun b u e n => by rw [upd_ne (ne_of_none e h)]; exact s.keep b u e n, fun b ps e => by rw [upd_ne (ne_of_none e h)]; exact s.tb b ps e⟩
theorem Ow.mk' (O : Ow T H0 H L) (h : H a = none) (ho : plainO o = true) : Ow T H0 (upd H a o) ((a, o) :: L) := by
  have ne : ∀ p ∈ L, p.1 ≠ a := fun p hp => ne_of_none (O.at_ p hp) h
  have n0 : H0 a = none := O.same.free h
  refine ⟨O.same.upd n0 (.inl h), fun p hp => ?_, fun p hp => ?_, fun p hp => ?_, ?_⟩
  · rcases List.mem_cons.mp hp with e | e
    · rw [e]; exact n0
    · exact O.new p e
  · rcases List.mem_cons.mp hp with e | e
    · rw [e]; exact upd_same
    · rw [upd_ne (ne p e)]; exact O.at_ p e
  · rcases List.mem_cons.mp hp with e | e
    · rw [e]; exact ho
    · exact O.pl p e
  · rw [List.map_cons, List.nodup_cons]
    refine ⟨fun hm => ?_, O.nd⟩
    obtain ⟨p, hp, e⟩ := List.mem_map.mp hm
    exact ne p hp e
theorem set_fst : ∀ {L : List (Addr × HO)} {k : Nat} {a : Addr} {o o' : HO}, L[k]? = some (a, o) → (L.set k (a, o')).map (·.1) = L.map (·.1)
  | [], _, _, _, _, h => by simp at h
  | p :: L, 0, a, o, o', h => by
    have : p = (a, o) := by simpa using h
    rw [this]; rfl
  | p :: L, k + 1, a, o, o', h => by
    rw [List.set_cons_succ, List.map_cons, List.map_cons, set_fst (L := L) (k := k) (o := o) (by simpa using h)]
theorem Ow.put' (O : Ow T H0 H L) (k : Nat) (h : L[k]? = some (a, o)) (ho : plainO o' = true) : Ow T H0 (upd H a o') (L.set k (a, o')) := by
  have hm0 := List.mem_of_getElem? h
  have n0 : H0 a = none := O.new _ hm0
  have hk : k < L.length := (List.getElem?_eq_some_iff.mp h).1
  refine ⟨O.same.upd n0 (.inr ⟨o, O.at_ _ hm0, O.pl _ hm0⟩), fun p hp => ?_, fun p hp => ?_, fun p hp => ?_, by rw [set_fst h]; exact O.nd⟩
  · rcases List.mem_or_eq_of_mem_set hp with e | e
    · exact O.new p e
    · rw [e]; exact n0
  · obtain ⟨j, hj, e⟩ := List.getElem_of_mem hp
    by_cases hjk : j = k
    · subst hjk
      rw [List.getElem_set_self] at e
      rw [← e]; exact upd_same
    · rw [List.getElem_set_ne (Ne.symm hjk)] at e
      have hj' : j < L.length := by rw [List.length_set] at hj; exact hj
      have hm : p ∈ L := by rw [← e]; exact List.getElem_mem hj'
      rw [upd_ne]
      · exact O.at_ p hm
      · intro z
        have e1 : (L.map (·.1))[j]? = some p.1 := by rw [List.getElem?_map, List.getElem?_eq_getElem hj', e]; rfl
        have e2 : (L.map (·.1))[k]? = some a := by rw [List.getElem?_map, h]; rfl
        rw [z] at e1
        obtain ⟨a1, a2⟩ := List.getElem?_eq_some_iff.mp e1
        obtain ⟨b1, b2⟩ := List.getElem?_eq_some_iff.mp e2
        exact hjk ((List.getElem_inj O.nd).mp (a2.trans b2.symm))
  · rcases List.mem_or_eq_of_mem_set hp with e | e
    · exact O.pl p e
    · rw [e]; exact ho
theorem plain_tbl {o : HO} (h : plainO o = true) : ∀ ps, o ≠ .tbl ps := fun ps z => by rw [z] at h; cases h
theorem Ow.callT (O : Ow T H0 H L) (s : SameT T H H') : Ow T H0 H' L := ⟨O.same.trans s, O.new, fun p hp => s.keep _ _ (O.at_ p hp) (plain_tbl (O.pl p hp)), O.pl, O.nd⟩
theorem Ow.call (O : Ow T H0 H L) (s : Same H H') : Ow T H0 H' L := O.callT (SameT.of O.same.t1 s)
theorem Ow.moreT (O : Ow T H0 H L) (s : SameT T H H') (n : H l = none) (h : H' l = some o) (ho : plainO o = true) : Ow T H0 H' ((l, o) :: L) := by
  have O2 := O.callT s
  refine ⟨O2.same, fun p hp => ?_, fun p hp => ?_, fun p hp => ?_, ?_⟩
  · rcases List.mem_cons.mp hp with e | e
    · rw [e]; exact O.same.free n
    · exact O.new p e
  · rcases List.mem_cons.mp hp with e | e
    · rw [e]; exact h
    · exact O2.at_ p e
  · rcases List.mem_cons.mp hp with e | e
    · rw [e]; exact ho
    · exact O.pl p e
  · rw [List.map_cons, List.nodup_cons]
    refine ⟨fun hm => ?_, O.nd⟩
    obtain ⟨p, hp, e⟩ := List.mem_map.mp hm
    exact ne_of_none (O.at_ p hp) n e
theorem Ow.more (O : Ow T H0 H L) (s : Same H H') (n : H l = none) (h : H' l = some o) (ho : plainO o = true) : Ow T H0 H' ((l, o) :: L) := O.moreT (SameT.of O.same.t1 s) n h ho
theorem Ow.sub (O : Ow T H0 H L) (h : L'.Sublist L) : Ow T H0 H L' := ⟨O.same, fun p hp => O.new p (h.subset hp), fun p hp => O.at_ p (h.subset hp), fun p hp => O.pl p (h.subset hp), O.nd.sublist (h.map _)⟩
theorem Ow.perm (O : Ow T H0 H L) (h : L'.Perm L) : Ow T H0 H L' := ⟨O.same, fun p hp => O.new p (h.mem_iff.mp hp), fun p hp => O.at_ p (h.mem_iff.mp hp), fun p hp => O.pl p (h.mem_iff.mp hp), (h.map _).nodup_iff.mpr O.nd⟩
theorem Ow.tail {p : Addr × HO} (O : Ow T H0 H (p :: L)) : Ow T H0 H L := O.sub (List.sublist_cons_self _ _)
theorem Ow.two {p q : Addr × HO} (O : Ow T H0 H (p :: q :: L)) : Ow T H0 H (p :: L) := O.sub ((List.sublist_cons_self _ _).cons₂ _)
theorem Ow.reb (O : Ow T H0 H L) : ∃ H1, Ow T H1 H L ∧ SameT T H0 H1 ∧ ∀ b o, H b = some o → (∀ p ∈ L, p.1 ≠ b) → H1 b = some o := by
  have keep : ∀ b u, H b = some u → (∀ p ∈ L, p.1 ≠ b) → (fun b => if b ∈ L.map (·.1) then none else H b : Hp) b = some u := fun b u e h => by
    show (if b ∈ L.map (·.1) then none else H b) = some u
    rw [if_neg fun hm => ?_]; · exact e
    obtain ⟨p, hp, z⟩ := List.mem_map.mp hm
    exact h p hp z
  have back : ∀ b u, (fun b => if b ∈ L.map (·.1) then none else H b : Hp) b = some u → H b = some u := fun b u e => by
    dsimp only at e
    split at e
    · cases e
    · exact e
  have npl : ∀ b u, H b = some u → plainO u = false → ∀ p ∈ L, p.1 ≠ b := fun b u e h p hp z => by
    have := O.at_ p hp
    rw [z, e] at this
    have e' : u = p.2 := Option.some.inj this
    rw [e', O.pl p hp] at h; cases h
  have tk : TabsOk T (fun b => if b ∈ L.map (·.1) then none else H b) := fun t ht => by
    rcases O.same.t1 t ht with e | ⟨c, e1, e2⟩
    · exact .inl (keep _ _ e (npl _ _ e rfl))
    · exact .inr ⟨c, keep _ _ e1 (npl _ _ e1 rfl), keep _ _ e2 (npl _ _ e2 rfl)⟩
  refine ⟨fun b => if b ∈ L.map (·.1) then none else H b, ⟨⟨tk, O.same.t1, fun b u e _ => back b u e, fun b ps e => ⟨ps, back _ _ e⟩⟩, fun p hp => ?_, O.at_, O.pl, O.nd⟩, ⟨O.same.t0, tk, fun b u e n => ?_, fun b ps e => ?_⟩, keep⟩
  · exact if_pos (List.mem_map.mpr ⟨p, hp, rfl⟩)
  · refine keep b u (O.same.keep b u e n) fun p hp z => ?_
    rw [← z, O.new p hp] at e; cases e
  · obtain ⟨ps', e'⟩ := O.same.tb b ps e
    exact ⟨ps', keep _ _ e' (npl _ _ e' rfl)⟩
theorem ow_set {i : Int} {j : Nat} {v : V} {Q : Hp → Prop} (O : Ow T H0 H L) (k : Nat) (h : L[k]? = some (l, .lst xs)) (hi : ixN xs.length i = some j) (q : ∀ H', Ow T H0 H' (L.set k (l, .lst (xs.set j v))) → Q H') : rSetL (.ref l) (.int i) v H Q :=
  ⟨l, xs, i, j, rfl, rfl, O.get k h, hi, q _ (O.put' k h rfl)⟩
theorem Ow.ret {P : List V → Prop} {Q : VK} (O : Ow T H0 H L) (k : Nat) (h : L[k]? = some (l, .lst xs)) (q : RetLT T H0 P Q) (p : P xs) : Q (.ref l) H := q l H xs O.same (O.fr k h) (O.get k h) p
theorem Ow.got {P : List V → Prop} {Q : VK} (O : Ow T H0 H L) (k : ∀ l H' xs, Ow T H0 H' ((l, .lst xs) :: L) → P xs → Q (.ref l) H') : RetL H P Q := fun l H' xs s n h p => k l H' xs (O.more s n h rfl) p
theorem Ow.gotT {P : List V → Prop} {Q : VK} (O : Ow T H0 H L) (k : ∀ l H' xs, Ow T H0 H' ((l, .lst xs) :: L) → P xs → Q (.ref l) H') : RetLT T H P Q := fun l H' xs s n h p => k l H' xs (O.moreT s n h rfl) p
end
end L2
namespace L2
open PySem PySem.W PySem.Spec PyProof.Rows
theorem szl {n : Nat} (h : Nat.ble n 100000 = true := by rfl) : n ≤ sizeLine := small100 (Nat.le_of_ble_eq_true h)
theorem in_ints (p : Int) (ns : List Int) : inV (.int p) (ns.map V.int) = decide (p ∈ ns) := by
  unfold inV
  rw [List.any_map, Bool.eq_iff_iff]
  simp only [List.any_eq_true, decide_eq_true_eq]
  constructor
  · rintro ⟨x, hx, e⟩
    have e' : (x == p) = true := e
    have : x = p := by simpa using e'
    rw [← this]; exact hx
  · intro h
    exact ⟨p, h, show (p == p) = true by simp⟩
theorem flat_ints (ns : List Int) : (ns.map V.int).all flatV = true := by
  rw [List.all_map, List.all_eq_true]; intro _ _; rfl
theorem Fun.okC {P : Program} {w : World} {K : PySem.W.Frag} {mg : Str → Option Value} {base : Heap} {x qual : Str} {st : Stmt} {f : Addr} {fd : FuncData} {N ps : List Str} {k : Nat} {sp : Sp} {c : Value} (F : Fun K x qual st f fd) (hc : fd.code = c) (S : FnScope N ps (defScope st)) (len : ∀ vs H Q E, sp vs H Q E → vs.length = ps.length)
    (hbody : ∀ (A : Around) (outer : List Env) (s : Shared) (H : Hp) (vs : List V) (Q : VK) (E : XK), Room k (A.deeper (envOfC qual (defScope st) s.heap.objs.size f c)) → sp vs H Q E →
      ∃ t, PSs (cxOf CX0 P w K mg base N qual (defScope st) f c A outer s H E).nox (defBody st) t ∧ t { nx := fun _ H' => Q .non H', rt := Q } (start N vs) H) : FnOk P w K mg base CX0 (k + 1) f fd ps sp := by
  obtain ⟨oc, od, kV, doc, pm, an, cdv, ct, osl, rfl, lk, hcd⟩ := F.ex
  have e : cdv = c := hc
  subst e
  refine fn_of lk hcd S len fun A outer s H vs Q E hr hsp => ?_
  obtain ⟨t, h, q⟩ := hbody A outer s H vs Q E hr hsp
  exact ⟨t, h.nox, q⟩
theorem lam_room {k : Nat} {A XA : Around} {env : Env} (r : Room (k + 2) XA) (hh : A.handled = none) (hd : A.depth ≤ XA.depth + 2) (hu : A.units ≤ XA.units + 2) : Room k (A.deeper env) :=
  ⟨hh, by have := r.dp; show A.depth + 1 + 3 * k + 5 < _; omega, by have := r.un; show A.units + 3 + 16 * k + 200 < _; omega⟩
theorem lam_deep {A : Around} (r : Room 1 A) : A.depth + 4 < recursionLimit := by have := r.dp; omega
theorem SameT.tab {T : Tabs} {H H2 : Hp} {P : Addr} {pos : Pos} {q : Str} (t : TabsOk T H) (hm : (P, pos, q) ∈ T) (nd : (T.map (·.1)).Nodup) (k1 : ∀ b o, H b = some o → b ≠ P → H2 b = some o) (t2 : TabOk P pos q H2) : SameT T H H2 := by
  have hP : ∃ ps, H P = some (.tbl ps) := by
    rcases t _ hm with e | ⟨c, e, _⟩
    · exact ⟨_, e⟩
    · exact ⟨_, e⟩
  obtain ⟨ps0, hP⟩ := hP
  have hP2 : ∃ ps, H2 P = some (.tbl ps) := by
    rcases t2 with e | ⟨c, e, _⟩
    · exact ⟨_, e⟩
    · exact ⟨_, e⟩
  refine ⟨t, fun u hu => ?_, fun b o e n => k1 b o e fun z => ?_, fun b ps e => ?_⟩
  · by_cases hb : u.1 = P
    · have : u = (P, pos, q) := by
        obtain ⟨i, hi, ei⟩ := List.getElem_of_mem hu
        obtain ⟨j, hj, ej⟩ := List.getElem_of_mem hm
        have e1 : (T.map (·.1))[i]? = some P := by rw [List.getElem?_map, List.getElem?_eq_getElem hi, ei, ← hb]; rfl
        have e2 : (T.map (·.1))[j]? = some P := by rw [List.getElem?_map, List.getElem?_eq_getElem hj, ej]; rfl
        obtain ⟨a1, a2⟩ := List.getElem?_eq_some_iff.mp e1
        obtain ⟨b1, b2⟩ := List.getElem?_eq_some_iff.mp e2
        have hij : i = j := (List.getElem_inj nd).mp (a2.trans b2.symm)
        subst hij
        rw [← ei, ← ej]
      rw [this]; exact t2
    · rcases t u hu with e | ⟨c, e1, e2⟩
      · exact .inl (k1 _ _ e hb)
      · exact .inr ⟨c, k1 _ _ e1 hb, k1 _ _ e2 fun z => by rw [z, hP] at e2; cases e2⟩
  · subst z
    rw [hP] at e; cases e
    exact n ps0 rfl
  · by_cases hb : b = P
    · rw [hb]; exact hP2
    · exact ⟨ps, k1 _ _ e hb⟩
section
variable {X : Cx}
def rIndex (K : PySem.W.Frag) : V → List V → Hp → VK → Prop := fun x vs H Q => ∃ (l : Addr) (ns : List Int) (k : Int), x = .ref l ∧ vs = [.int k] ∧ SqL K H l (ns.map V.int) ∧ k ∈ ns ∧ Q (.int (ns.idxOf k : Nat)) H
theorem mt_index : MtR X "list.index" (rIndex X.K) := by
  intro pins s σ H x vs v us Q I rx rv h
  obtain ⟨l, ns, k, rfl, rfl, hq, hk, q⟩ := h
  cases rx
  obtain ⟨u, rfl, t, rfl⟩ := vals1 rv
  obtain ⟨its, r1, p1, hz⟩ := I.list hq
  have hi : IntsAre its ns := intsAre_of r1
  obtain ⟨⟨cls, dd, data, sl⟩, ho, hc, n, hd⟩ := id p1.isList
  simp only at hc hd
  subst hc hd
  have hlen := hi.length
  have hj : ns.idxOf k < ns.length := List.idxOf_lt_length_iff.mpr hk
  have hn := line63
  rw [List.length_map] at hz
  refine call_meets PySem.F.slot_list_index ⟨_, ho, rfl⟩ PySem.F.entry_list_index (PySem.F.args_list_index_2 _ _)
    (SeqAt.list_indexAt l its.toArray n dd sl (.int k t) (isInt k) (ns.idxOf k) (by simpa [hlen] using hj) (by omega) ?_ ?_) ⟨ho, fun y hy => (eq_isInt k t hi y (by simpa using hy)).at _ _, ?_⟩
  · show isInt k its[ns.idxOf k] = true
    rw [isInt_at k hi _ (by omega) hj]
    simpa using List.getElem_idxOf hj
  · intro j hjs hlt
    show isInt k its[j] = false
    rw [isInt_at k hi j (by simpa using hjs) (by omega)]
    exact ne_of_lt_idxOf hlt _
  · exact ⟨.int (ns.idxOf k : Nat), H, I.tok _, ⟨_, rfl⟩, q⟩
end
section
variable {T : Tabs} {H0 H : Hp} {L : List (Addr × HO)} {l : Addr} {xs : List V}
theorem Ow.mkE {a : Addr} {o : HO} {H' : Hp} (O : Ow T H0 H L) (h : H a = none) (e : upd H a o = H') (ho : plainO o = true) : Ow T H0 H' ((a, o) :: L) := e ▸ O.mk' h ho
theorem Ow.putE {a : Addr} {o o' : HO} {H' : Hp} (O : Ow T H0 H L) (k : Nat) (h : L[k]? = some (a, o)) (e : upd H a o' = H') (ho : plainO o' = true) : Ow T H0 H' (L.set k (a, o')) := e ▸ O.put' k h ho
end
end L2
namespace L2
open PySem PySem.W PySem.Spec PySem.Calls PyProof.Rows PySem.Builtin PySem.Builtin.ObjectAttr PySem.Builtin.Getset_descriptor
section
variable {prog : Program} {w : World} {A : Around} {E : Value → Shared → Prop} {K : Frag} {e D : Addr} {hh : Heap} {g : Array GenState} {d : Drawn} {t : Nat} {os : OsState}
structure XCls (K : Frag) (D : Addr) : Prop where
  ga : findIn K (.ref D) "__getattribute__" = some (some (.builtin "BaseException.__getattribute__"))
  gt : findIn K (.ref D) "__getattr__" = some none
  at_ : findIn K (.ref D) "__class__" = some (some (.builtin "object.__class__"))
  sp : specialIn K (.builtin "object.__class__") "__get__" = some (some (.builtin "getset_descriptor.__get__"))
  tk : takesIn K (.builtin "object.__class__") = some true
  mo : mroIn K D (.type "object") = some true
  mb : mroIn K D (.type "BaseException") = some true
  cl : (clsIn K D).isSome = true
theorem xc_find {M : Model} (X : K.In hh) (C : XCls K D) : Looks M hh (Builtin.ObjectAttr.find (.ref e) (.ref D) "__class__") (.bind (.builtin "getset_descriptor.__get__") (.builtin "object.__class__")) := by
  have L3 : Looks M hh (Builtin.ObjectAttr.dataDescriptor? (some (.builtin "object.__class__")) (some (.builtin "getset_descriptor.__get__"))) (some (.builtin "getset_descriptor.__get__", .builtin "object.__class__")) := (looks_takesIn X C.tk).andThen .now
  exact (looks_findIn X C.at_).andThen ((looks_specialIn X C.sp).andThen (L3.andThen (Looks.tag .now)))
theorem xc_get {R : Result → Shared → Prop} {tp : Value} (LT : Looks (model prog w) hh (typeOf (.ref e)) (.ref D)) (X : K.In hh) (C : XCls K D) (q : R (.ok (.ret (.ref D))) ⟨hh, g, d, t, os⟩) :
    codeAny (model prog w) A (.call (.builtin "getset_descriptor.__get__") ⟨[.builtin "object.__class__", .ref e, tp], []⟩) R ⟨hh, g, d, t, os⟩ := by
  have LS := looks_mroIn (M := model prog w) X C.mo
  clear C X
  refine codeAny_call_builtin KF.slot_gs.plain KF.entry_gs (KF.slot_gs.check _ _ _ _ _ _ _ _ KF.type_class (KF.args_gs _ _ (tp)) ?_)
  unfold Builtin.«getset_descriptor.__get__» descrGet; rw [dga_obj]; refine wpAny_bind (wpAny_pure ?_)
  unfold descrGetter descrCheckInstance descrNameAndClass isInstance; simp only [KF.owner_class]; repeat lk
  refine ⟨Code.quiet_builtin _ (by decide +kernel), codeAny_builtin KF.entry_class ?_⟩; unfold Builtin.«object.__class__» shownTypeOf; (repeat lk); exact q
theorem xc_entry {tk : Tok} {Q : Fin → Shared → Prop} (LT : Looks (model prog w) hh (typeOf (.ref e)) (.ref D)) (X : K.In hh) (C : XCls K D) (h : Q (.done (.ret (.ref D))) ⟨hh, g, d, t, os⟩) :
    wpAny (model prog w) A (Builtin.«object.__getattribute__» ⟨[.ref e, .str "__class__" tk], []⟩) Q E ⟨hh, g, d, t, os⟩ := by
  unfold Builtin.«object.__getattribute__»
  refine wpAny_bind (m := slotArgs "__getattribute__" 1 _) (wpAny_pure ?_)
  refine wpAny_bind (m := Builtin.ObjectAttr.attrName _) (wpAny_pure ?_)
  refine wpAny_bind (LT.at (wpAny_bind ((xc_find X C).at ?_)))
  unfold Builtin.ObjectAttr.bindTo
  exact wpAny_bind (wpAny_holding (wpAny_call (xc_get LT X C (wpAny_pure h))))
theorem xc_class {Q : Option Value → Shared → Prop} (LT : Looks (model prog w) hh (typeOf (.ref e)) (.ref D)) (X : K.In hh) (C : XCls K D) (h : Q (some (.ref D)) ⟨hh, g, d, t + 1, os⟩) :
    wpAny (model prog w) A (getAttr? (.ref e) "__class__") Q E ⟨hh, g, d, t, os⟩ := by
  have L1 := looks_findIn (M := model prog w) X C.ga
  have L2 := looks_findIn (M := model prog w) X C.gt
  have LI : Looks (model prog w) hh (isInstance (.ref e) (.type "BaseException")) true := LT.andThen (looks_mroIn X C.mb)
  have f3 := PySem.F.attr_ValueError.ga.bind (.ref e)
  have hx2 : (Value.builtin "BaseException.__getattribute__" == Value.builtin "object.__getattribute__") = false := by decide +kernel
  unfold getAttr? getAttrBy? getAttrBy
  refine wpAny_bind (wpAny_mkText (wpAny_bind (wpAny_attempt (wpAny_holding (wpAny_bind (LT.at (wpAny_bind (L1.at ?_))))))))
  dsimp only
  rw [if_neg (by rw [hx2]; simp)]
  unfold getAttrByItsOwn hookBefore callGetattribute
  refine wpAny_bind ?_
  rw [if_pos (show onTheHeap (Value.ref D) = true from rfl)]
  refine L2.at ?_
  refine wpAny_bind (wpAny_attempt (wpAny_holding ?_))
  rw [if_neg (by simp)]
  unfold boundAndCalled
  rw [f3]
  refine wpAny_bind (wpAny_pure ?_)
  refine wpAny_call (codeAny_call_builtin PySem.F.attr_ValueError.ga.plain PySem.F.entry_bexc_ga ?_)
  have kd : builtinKind "BaseException.__getattribute__" = some .slot := by decide +kernel
  have spl : splitId "BaseException.__getattribute__" = some ("BaseException", "__getattribute__") := by decide +kernel
  have ha := PySem.F.args_bexc_ga (.ref e) (.str "__class__" t)
  simp only [checkBuiltinCall, kd, spl]
  refine wpAny_bind (LI.at ?_)
  rw [if_neg (by simp)]
  refine wpAny_of_eq (a := ()) ha ?_
  refine xc_entry (t := t + 1) LT X C ?_
  show wpAny (model prog w) A (handedOut (.ref D)) _ _ _
  exact wpAny_pure (wpAny_pure h)
def XAt (e D : Addr) (h : Heap) : Prop := ∃ o, h.get? e = some o ∧ o.cls = .ref D
theorem xat_ty {M : Model} {h : Heap} (x : XAt e D h) : Looks M h (typeOf (.ref e)) (.ref D) := by
  obtain ⟨o, h1, h2⟩ := x
  rw [← h2]
  exact (Looks.ld h1).andThen .now
theorem kitx_exc (C : XCls K D) : KitX K (.ref e) (.ref D) (XAt e D) where
  ty := fun _ _ _ p => xat_ty p
  it := fun M h X _ => by
    have c := C.cl
    unfold clsIn at c
    split at c
    · rename_i ho
      intro _ _ _ _ k q
      unfold isType loadHead
      exact wpAny_bind (wpAny_loadPart (k _ _ (X _ _ ho)) (wpAny_pure q))
    · cases c
  ne := fun h tp dd its n sl X htp => by
    have c := C.cl
    refine Bool.eq_false_iff.mpr fun q => ?_
    cases Value.ref.inj (beq_iff_eq.mp q)
    unfold clsIn at c
    split at c
    · rename_i ho
      cases (X _ _ ho).symm.trans htp
    · cases c
  ca := fun {_ _ _ _ _ s} X p k => by
    obtain ⟨h0, g0, d0, t0, o0⟩ := s
    exact xc_class (xat_ty p) X C k
end
end L2
namespace L2
open PySem PySem.W PySem.Spec PySem.Calls PyProof.Rows
theorem ObjOk.obj {P : Program} {w : World} {H : Hp} {h : Heap} {a : Addr} {o : HO} (x : ObjOk P w H h a o) : ∃ ob, h.get? a = some ob := by
  cases o with
  | lst xs => obtain ⟨_, _, _, _, e⟩ := x; exact ⟨_, e⟩
  | tup xs => obtain ⟨_, _, _, o, e, _⟩ := x; exact ⟨_, e⟩
  | dK kvs => obtain ⟨_, _, _, _, o, _, _, e, _⟩ := x; exact ⟨_, e⟩
  | dT kvs => obtain ⟨_, _, _, _, o, _, _, e, _⟩ := x; exact ⟨_, e⟩
  | set S n => obtain ⟨o, _, _, _, e, _⟩ := x; exact ⟨_, e⟩
  | ins C dx fs => obtain ⟨_, _, _, e, _⟩ := x; exact ⟨_, e⟩
  | own y => exact x
  | xd fs => obtain ⟨_, ⟨_, _, _, e, _⟩, _⟩ := x; exact ⟨_, e⟩
  | rng lo hi => obtain ⟨_, _, _, e⟩ := x; exact ⟨_, e⟩
  | frz ob u => obtain ⟨e, _⟩ := x; exact ⟨_, e⟩
  | tbl ps => exact ⟨_, x⟩
  | met f y => exact ⟨_, x⟩
  | ext φ => obtain ⟨_, e, _⟩ := x; exact e
structure Fly (P : Program) (w : World) (B : Heap) (fs : List Addr) (H : Hp) (h0 : Heap) (H' : Hp) (h : Heap) : Prop where
  un : Un fs [] H H' h0 h
  hok : HOk P w H' h
  old : ∀ b o, h0.get? b = some o → b ∉ fs → ∃ o', B.get? b = some o' ∧ (H b = none → o' = o)
  trk : ∀ b u, H' b = some u → ∃ o, h.get? b = some o ∧ B.get? b = some o
section
variable {P : Program} {w : World} {B h0 h h2 : Heap} {fs : List Addr} {H H' : Hp}
theorem Fly.on (x : Fly P w B fs H h0 H' h) (sb : B.StaysIn h2) (sm : ∀ b ∈ fs, ∀ o, h.get? b = some o → ∃ sl, h2.get? b = some { o with slots := sl }) : Fly P w B fs H h0 H' h2 := by
  have kp : ∀ b o, h0.get? b = some o → H b = none → b ∉ fs → h2.get? b = some o := fun b o q n hb => by
    obtain ⟨o', e, k⟩ := x.old b o q hb
    rw [← k n]; exact sb b o' e
  have sl : ∀ b o, h0.get? b = some o → H b = none → b ∈ fs → ∃ s, h2.get? b = some { o with slots := s } := fun b o q n hb => by
    obtain ⟨s1, e1⟩ := x.un.slot b o q n hb (by simp)
    obtain ⟨s2, e2⟩ := sm b hb _ e1
    exact ⟨s2, e2⟩
  refine ⟨⟨fun b o q n hb _ => kp b o q n hb, fun b o q n hb _ => sl b o q n hb, x.un.free, fun b o q _ => ?_, x.un.tups, x.un.frzs, x.un.tbls⟩, fun a u e => ?_, x.old, fun b u e => ?_⟩
  · by_cases hb : b ∈ fs
    · obtain ⟨o1, e1⟩ := x.un.there b o q (by simp)
      obtain ⟨s2, e2⟩ := sm b hb _ e1
      exact ⟨_, e2⟩
    · obtain ⟨o', e, _⟩ := x.old b o q hb
      exact ⟨o', sb b o' e⟩
  · refine (x.hok a u e).stay (fun b v hb q => ?_) (fun _ q => q) fun _ _ q => q
    have tr : ∃ u', H' b = some u' := by
      rcases hb with z | z
      · exact ⟨u, by rw [z]; exact e⟩
      · exact ⟨_, z⟩
    obtain ⟨u', e'⟩ := tr
    obtain ⟨o, e1, e2⟩ := x.trk b u' e'
    rw [q] at e1; cases e1
    exact sb b v e2
  · obtain ⟨o, e1, e2⟩ := x.trk b u e
    exact ⟨o, sb b o e2, e2⟩
end
def CXE (P : Program) (w : World) : CXT := fun outer H s E e s' => ∃ (ea t C : Addr) (B : Heap) (H' : Hp), e = .ref ea ∧ s'.os = s.os ∧ AllBare s'.gens ∧ Fly P w B (frs outer) H s.heap H' s'.heap ∧ Heap.FlyingW B outer ea (.ref C) (.ref t) s'.heap ∧
  s.heap.get? ea = none ∧ H' ea = none ∧ E (.ref C) (some ea) H'
theorem frs_cons {env : Env} {l : List Env} {L : Addr} (hf : env.frame = some L) : frs (env :: l) = L :: frs l := by unfold frs; rw [List.filterMap_cons, hf]
theorem in_frs {l : List Env} : ∀ env ∈ l, ∀ b, env.frame = some b → b ∈ frs l := fun env he b hb => List.mem_filterMap.mpr ⟨env, he, hb⟩
theorem slots_frames {B h : Heap} {l : List Env} {h2 : Heap} (f : h.FunFrames B l) (sm : h.UpToSlots h2) : ∀ b ∈ frs l, ∀ o, h.get? b = some o → ∃ sl, h2.get? b = some { o with slots := sl } := fun b hb o e => by
  obtain ⟨_, o', e', d⟩ := f.mem hb
  rw [e] at e'; cases e'
  exact sm b o e d
section
variable {X : Cx} {pins : List (Addr × Obj)} {σ : St} {H : Hp} {s : Shared} {E : XK}
structure Body (X : Cx) : Prop where
  st : X.stack = X.env :: X.outer
  fr : X.env.frame = some X.env.locals
  ex : X.ex = []
theorem Inv.notMine (I : Inv X pins σ H s) (hB : Body X) {b : Addr} {o : Obj} (e : X.s₀.heap.get? b = some o) (hb : b ∉ frs X.outer) : b ∉ frs X.stack := by
  rw [hB.st, frs_cons hB.fr]
  intro hm
  rcases List.mem_cons.mp hm with z | z
  · exact absurd (Heap.lt_size e) (by rw [z]; exact Nat.not_lt.mpr I.ok.above)
  · exact hb z
theorem raise_leaves {e C : Addr} {args : List Value} {h' : Heap} {F : Value → Shared → Prop} (hB : Body X) (I : Inv X pins σ H s) (hm : Heap.MadeExcOf s.heap h' e (.ref C) args) (hE : H e = none → E (.ref C) (some e) H) :
    wpAny (model X.prog X.w) X.A (leaving X.env (.ref e)) (fun _ s'' => CXE X.prog X.w X.outer X.H₀ X.s₀ E (.ref e) s'') F { s with heap := h' } := by
  have hfr : X.A.frames = some (X.env :: X.outer) := by rw [← hB.st]; exact I.ok.frames
  have stk := I.stack
  have hl : s.heap.FunFrames (hideAll s.heap (frs X.stack)) (X.env :: X.outer) := by
    have := funFrames_hide stk in_frs
    rw [hB.st] at this ⊢; exact this
  have hne : ∀ b o, s.heap.get? b = some o → b ∉ frs X.stack → (hideAll s.heap (frs X.stack)).get? b = some o := fun b o q n => hideAll_get _ q n
  have htr : ∀ b u, H b = some u → ∃ o, s.heap.get? b = some o ∧ (hideAll s.heap (frs X.stack)).get? b = some o := fun b u q => by
    obtain ⟨o, eo⟩ := (I.hok b u q).obj
    exact ⟨o, eo, hne b o eo fun z => by rw [I.stkFree b z] at q; cases q⟩
  have hnx : ∀ b : Addr, b ∉ X.ex := fun b => by rw [hB.ex]; simp
  refine wpAny_leaves_madeW (base := hideAll s.heap (frs X.stack)) (h := s.heap) hfr hB.fr (fun b o q => of_hideAll _ q) hl hm fun h2 t fl _ _ sm => ?_
  have F0 : Fly X.prog X.w (hideAll s.heap (frs X.stack)) (frs X.outer) X.H₀ X.s₀.heap H s.heap := by
    refine ⟨?_, I.hok, fun b o q n => ?_, htr⟩
    · have u := I.base
      rw [hB.ex] at u
      exact u
    · obtain ⟨o', e'⟩ := I.base.there b o q (hnx b)
      refine ⟨o', hne b o' e' (I.notMine hB q n), fun z => ?_⟩
      have := I.base.keep b o q z n (hnx b)
      rw [e'] at this; exact Option.some.inj this
  have F1 := F0.on (h2 := h2) fl.1 fun b hb o q => by
    have hb' : b ∈ frs X.stack := by rw [hB.st, frs_cons hB.fr]; exact List.mem_cons_of_mem _ hb
    obtain ⟨_, o', e', d⟩ := stk.mem hb'
    rw [q] at e'; cases e'
    exact sm b o (hm.keeps b o q) d
  have he0 : H e = none := by
    cases q : H e with
    | none => rfl
    | some u =>
      obtain ⟨o, eo⟩ := (I.hok e u q).obj
      rw [hm.new] at eo; cases eo
  refine ⟨e, t, C, _, H, rfl, I.os, I.bare, F1, fl, ?_, he0, hE he0⟩
  · cases q : X.s₀.heap.get? e with
    | none => rfl
    | some o =>
      obtain ⟨o', e'⟩ := I.base.there e o q (hnx e)
      rw [hm.new] at e'; cases e'
end
section
variable {P : Program} {w : World} {K : PySem.W.Frag} {mg : Str → Option Value} {base : Heap} {N : List Str} {qual : Str} {scope : Scope} {f : Addr} {cd : Value} {A : Around} {outer : List Env} {s : Shared} {H : Hp} {E : XK}
theorem body_cx {CX : CXT} : Body (cxOf CX P w K mg base N qual scope f cd A outer s H E) := ⟨rfl, rfl, rfl⟩
theorem Fun.okX {x : Str} {st : Stmt} {fd : FuncData} {ps : List Str} {k : Nat} {sp : Sp} (F : Fun K x qual st f fd) (S : FnScope N ps (defScope st)) (len : ∀ vs H Q E, sp vs H Q E → vs.length = ps.length)
    (hbody : ∀ (cdv : Value) (A : Around) (outer : List Env) (s : Shared) (H : Hp) (vs : List V) (Q : VK) (E : XK), Room k (A.deeper (envOfC qual (defScope st) s.heap.objs.size f cdv)) → sp vs H Q E →
      ∃ t, PSs (cxOf (CXE P w) P w K mg base N qual (defScope st) f cdv A outer s H E) (defBody st) t ∧ t { nx := fun _ H' => Q .non H', rt := Q } (start N vs) H) : FnOk P w K mg base (CXE P w) (k + 1) f fd ps sp := by
  obtain ⟨oc, od, kV, doc, pm, an, cdv, ct, osl, rfl, lk, hcd⟩ := F.ex
  exact fn_of lk hcd S len fun A outer s H vs Q E hr hsp => hbody cdv A outer s H vs Q E hr hsp
end
end L2
namespace L2
open PySem PySem.W PySem.Spec PySem.Calls PyProof.Rows
abbrev bmVE : List Value := [.type "ValueError", .type "Exception", .type "BaseException", .type "object"]
theorem exc_obj {K : Frag} {h : Heap} {C : Addr} (X : K.In h) (q : excIn K C bmVE "ValueError.__new__" = true) :
    ∃ bm N nm qn bs hdct sn sub ab col dd k0 k1 k2 k3 k5 mN, h.get? C = some (excClassObj nm qn C N bs bm hdct sn sub ab col dd k0 k1 k2 k3 k5 "ValueError.__new__") ∧ h.Ns N mN ∧ mN "__init__" = none ∧ OwnTail h bmVE bm := by
  unfold excIn at q
  split at q
  · rename_i d1 c1 s1 look
    split at q
    · rename_i C1 bm1 a0 a1 a2 a3 n1 a5 m1 l1
      simp only [Bool.and_eq_true, beq_iff_eq, Bool.not_eq_true'] at q
      obtain ⟨⟨⟨⟨⟨e1, e2⟩, e3⟩, e4⟩, e5⟩, e6⟩ := q
      subst e1 e2
      obtain ⟨nm, bs, mro, ns, qn, hd, sn, sub, ab, col, del⟩ := c1
      dsimp only at m1 e3 e5 e6
      subst m1 e3
      have es : s1 = #[a0, a1, a2, a3, some (.builtin "ValueError.__new__"), a5] := by cases s1; simp only at l1; rw [l1]
      subst es
      exact ⟨bm1, ns, nm, qn, bs, hd, sn, sub, ab, col, d1, a0, a1, a2, a3, a5, _, X _ _ look, Heap.Ns.of_isNs (isNs_of_in X e5), nsMap_none_of_in X e5 e6, tail_of_in X e4⟩
    · cases q
  · cases q
def tRaise (E : XK) (C : Addr) (ta : TA) : TS := fun _ σ H => ta σ H fun vs H1 => vs.length ≤ sizeLine ∧ ∀ e, H1 e = none → E (.ref C) (some e) H1
section
variable {X : Cx} {E : XK} {x : Str} {C : Addr} {np cpos pos : Pos} {e0 : Expr} {ta : TA}
theorem ps_raise (hB : Body X) (hc : X.calm = true) (hx : ∀ e s', wpAny (model X.prog X.w) X.A (leaving X.env e) (fun _ s'' => CXE X.prog X.w X.outer X.H₀ X.s₀ E e s'') (fun e s'' => CXE X.prog X.w X.outer X.H₀ X.s₀ E e s'') s' → X.xe e s')
    (hg : Gl X x) (hm : X.mg x = some (.ref C)) (hq : excIn X.K C bmVE "ValueError.__new__" = true) (ha : PA X [e0] ta) (he : starEach [e0] X.env = [(false, eval e0 X.env)] := by rfl) (hd : (x == ("__debug__" : Str)) = false := by decide) :
    PS X (.Raise (some (.Call (.Name x np) [e0] [] cpos)) none pos) (tRaise E C ta) := by
  intro pins s σ H D I h
  obtain ⟨bm, Nn, nm, qn, bs, hdct, sn, sub, ab, col, dd, k0, k1, k2, k3, k5, mN, hC, hN, hni, TL⟩ := exc_obj I.ok.mod.kin hq
  refine wpAny_Raise_call_subU (C := C) (nm := nm) (q := qn) (N := Nn) (bs := bs) (bm := bm) (hdct := hdct) (sn := sn) (sub := sub) (ab := ab) (col := col) (dd := dd) (k0 := k0) (k1 := k1) (k2 := k2) (k3 := k3) (k5 := k5) (mN := mN) (newId := "ValueError.__new__")
    PySem.F.excBase_ValueError PySem.F.excBase_ValueError.hasB PySem.F.excBase_ValueError (TL.hasType PySem.F.excBase_ValueError.hasBase) (I.ok.hd hc) (by rw [he]; rfl) hni ?_
  refine ld_glob I hg hm ⟨rfl, ?_⟩ hd
  have a := ha cpos pins s σ H _ I h
  rw [he] at a ⊢
  refine Calls.evalArgs_plain (wpAny_mono a (fun us s1 ⟨vs, H1, I1, r1, hz, q1⟩ => ?_) fun _ _ z => z)
  exact ⟨rfl, by show us.length ≤ _; rw [← r1.length]; exact hz, I1.bk _ _ hC, hN.keeps I1.bk, TL.keeps I1.bk, fun h' e mk => hx _ _ (raise_leaves hB I1 mk (q1 e))⟩
end
end L2
namespace L2
open PySem PySem.W PySem.Spec PySem.Calls PyProof.Rows
def XS (X : Cx) (pins : List (Addr × Obj)) (Ex : St → XK) (ev : Value) (s' : Shared) : Prop := ∃ σ H s, Inv X pins σ H s ∧ CXE X.prog X.w X.stack H s (Ex σ) ev s'
def PEx (X : Cx) (e : Expr) (t : St → Hp → VK → XK → Prop) : Prop :=
  ∀ (pins : List (Addr × Obj)) (s : Shared) (σ : St) (H : Hp) (Q : VK) (Ex : St → XK), Inv X pins σ H s → t σ H Q (Ex σ) → wpAny (model X.prog X.w) X.A (eval e X.env) (EP X pins σ Q) (XS X pins Ex) s
abbrev TX := Ends → (St → XK) → St → Hp → Prop
def PSx (X : Cx) (st : Stmt) (t : TX) : Prop :=
  ∀ (pins : List (Addr × Obj)) (s : Shared) (σ : St) (H : Hp) (D : Ends) (Ex : St → XK), Inv X pins σ H s → t D Ex σ H → wpAny (model X.prog X.w) X.A (exec st X.env) (SP X pins D) (XS X pins Ex) s
def PSxs (X : Cx) (sts : List Stmt) (t : TX) : Prop :=
  ∀ (pins : List (Addr × Obj)) (s : Shared) (σ : St) (H : Hp) (D : Ends) (Ex : St → XK), Inv X pins σ H s → t D Ex σ H → wpAny (model X.prog X.w) X.A (execs sts X.env) (SP X pins D) (XS X pins Ex) s
section
variable {X : Cx} {k : Nat} {f : Addr} {fd : FuncData} {ps : List Str} {sp : Sp} {dvs : List V} {ds : List Value} {x : Str} {p pos : Pos} {e : Expr} {es : List Expr} {t : TA}
def xCall (sp : Sp) (dvs : List V) (t : TA) : St → Hp → VK → XK → Prop := fun σ H Q Ex => t σ H fun vs H1 => sp (vs ++ dvs) H1 Q Ex
theorem xe_call (F : FnOk X.prog X.w X.K X.mg X.base (CXE X.prog X.w) k f fd ps sp) (hr : Room k X.A) (hg : Gl X x) (hm : X.mg x = some (.ref f)) (hk : PySem.W.keepIn X.K (.ref f) = true) (hb : Binds X.K fd ps ds) (hd : Vals dvs ds)
    (ha : PA X.nox (e :: es) t) (hdb : (x == ("__debug__" : Str)) = false := by decide) (he : starEach (e :: es) X.env = (false, eval e X.env) :: starEach es X.env := by rfl) (hpl : (backTo pos (starEach es X.env)).any (·.1) = false := by rfl) :
    PEx X (.Call (.Name x p) (e :: es) [] pos) (xCall sp dvs t) := by
  intro pins s σ H Q Ex I h
  refine wpAny_Call_Name_kw (ld_glob I hg hm ?_ hdb)
  refine PySem.W.callWith_K (h₀ := X.base) I.ok.mod.kin hk (wpAny_mono (ha pos pins s σ H _ (I.wish _) h) (fun us s1 ⟨vs, H1, I1, r, q⟩ => ?_) fun _ _ z => z.elim) he hpl
  have I1 := I1.unwish
  refine ⟨I1.kIn, ?_⟩
  have r2 : Vals (vs ++ dvs) (us ++ ds) := r.append hd
  have hl : (us ++ ds).length = ps.length := by rw [← r2.length]; exact F.len _ _ _ _ q
  refine wpAny_call (codeAny_mono (F.run X.A X.stack s1 H1 ⟨us, []⟩ (us ++ ds) (vs ++ dvs) Q (Ex σ) hr I1.env0 (hb s1 us I1.kIn hl) r2 q) fun rr s' hq => ?_)
  cases rr with
  | error ev => exact ⟨σ, H1, s1, I1, hq⟩
  | ok fl =>
    cases fl with
    | ret u => exact I1.after hq
    | next => exact False.elim hq
    | brk => exact False.elim hq
    | cont => exact False.elim hq
theorem xs_expr {te : St → Hp → VK → XK → Prop} {pos : Pos} (he : PEx X e te) (hs : swapsWith e none pos.line X.env = pure false := by rfl) : PSx X (.Expr e pos) (fun D Ex σ H => te σ H (fun _ H1 => D.nx σ H1) (Ex σ)) := by
  intro pins s σ H D Ex I h
  exact wpAny_Expr_any (wpAny_mono (he pins s σ H _ Ex I h) (fun v s1 ⟨x, H1, I1, r1, q1⟩ => ⟨σ, H1, I1, q1⟩) fun _ _ z => z) I.quiet hs
theorem xss_one {st : Stmt} {tx : TX} (h : PSx X st tx) : PSxs X [st] tx := by
  intro pins s σ H D Ex I hq
  refine wpAny_execs_cons (wpAny_mono (h pins s σ H D Ex I hq) (fun fl s1 q => ?_) fun _ _ z => z)
  cases fl with
  | next => exact wpAny_execs_nil q
  | ret v => exact q
  | brk => exact q
  | cont => exact q
end
section
variable {X : Cx} {pins : List (Addr × Obj)} {σ : St} {H : Hp} {s : Shared}
def supCx (X : Cx) (e : Addr) : Cx := { X with A := X.A.mark (some (.ref e)), calm := false, xe := fun _ _ => False }
theorem Inv.sup (I : Inv X pins σ H s) (e : Addr) : Inv (supCx X e) pins σ H s :=
  ⟨⟨I.ok.mod, I.ok.kind, I.ok.glob, I.ok.blt, I.ok.above, I.ok.inj, I.ok.has, I.ok.cab, fun z => (by cases z), I.ok.frames, I.ok.stk, I.ok.exf, I.ok.bs, I.ok.bsz, I.ok.noex, I.ok.exfs, I.ok.funs, I.ok.frf⟩, I.os, I.bare, I.base, I.loc, I.cell, I.free, I.freeC, I.pin, I.hok, I.len⟩
theorem Inv.unsup {e : Addr} (hc : X.calm = true → X.A.handled = none) (I : Inv (supCx X e) pins σ H s) : Inv X pins σ H s :=
  ⟨⟨I.ok.mod, I.ok.kind, I.ok.glob, I.ok.blt, I.ok.above, I.ok.inj, I.ok.has, I.ok.cab, hc, I.ok.frames, I.ok.stk, I.ok.exf, I.ok.bs, I.ok.bsz, I.ok.noex, I.ok.exfs, I.ok.funs, I.ok.frf⟩, I.os, I.bare, I.base, I.loc, I.cell, I.free, I.freeC, I.pin, I.hok, I.len⟩
theorem Inv.adopt' {a : Addr} {o : HO} (I : Inv X pins σ H s) (hn : H a = none) (hL : a ≠ X.env.locals) (h0 : X.s₀.heap.get? a = none) (hc : ∀ x c, X.env.cells.lookup x = some c → c ≠ a) (hp : ∀ p ∈ X.pn ++ pins, p.1 ≠ a)
    (new : ObjOk X.prog X.w (upd H a o) s.heap a o) : Inv X pins σ (upd H a o) s := by
  have ne : ∀ b u, H b = some u → b ≠ a := fun b u e => ne_of_none e hn
  refine ⟨I.ok, I.os, I.bare, ⟨I.base.keep, I.base.slot, fun b ob e n hx => ?_, I.base.there, fun b xs e => ?_, fun b ob xs e => ?_, fun b ps e => ?_⟩, I.loc, I.cell, ?_, fun x c e => ?_, fun p hq => ?_, fun b u e => ?_, I.len⟩
  · rw [upd_ne fun z => by rw [z, h0] at e; cases e]; exact I.base.free b ob e n hx
  · have := I.base.tups b xs e; rw [upd_ne (ne b _ this)]; exact this
  · have := I.base.frzs b ob xs e; rw [upd_ne (ne b _ this)]; exact this
  · obtain ⟨m, e1⟩ := I.base.tbls b ps e; exact ⟨m, by rw [upd_ne (ne b _ e1)]; exact e1⟩
  · rw [upd_ne hL.symm]; exact I.free
  · rw [upd_ne (hc x c e)]; exact I.freeC x c e
  · obtain ⟨e1, n, r⟩ := I.pin p hq; exact ⟨e1, by rw [upd_ne (hp p hq)]; exact n, r⟩
  · by_cases hb : b = a
    · subst hb; rw [upd_same] at e; cases e; exact new
    · rw [upd_ne hb] at e
      exact (I.hok b u e).stay (fun _ _ _ q => q) (fun c q => by rw [upd_ne (ne c _ q)]; exact q) fun c xs q => by rw [upd_ne (ne c _ q)]; exact q
theorem Inv.unname {i : Nat} {n : Str} {h' : Heap} {v : Option Value} {m : Str → Option Value} {t' : Nat} (I : Inv X pins σ H s) (hN : X.N.Nodup) (hi : X.N[i]? = some n) (hs : Heap.SameBut X.env.locals s.heap h') (hm : s.heap.Ns X.env.locals m)
    (hl : ∀ (j : Nat) (x : Str) (w : V), X.N[j]? = some x → σ[j]? = some (some w) → Vis X.env.scope x → ∃ u, RelV w u ∧ Look X.env s.heap m x u) (hn : h'.Ns X.env.locals (fun x => if x = n then v else m x)) : Inv X pins (σ.set i none) H { s with heap := h', toks := t' } := by
  have kp : ∀ b o, b ≠ X.env.locals → s.heap.get? b = some o → h'.get? b = some o := fun b o hb e => (hs.2 b hb).trans e
  have old : ∀ b o, X.s₀.heap.get? b = some o → b ≠ X.env.locals := fun b o e => Nat.ne_of_lt (Nat.lt_of_lt_of_le (Heap.lt_size e) I.ok.above)
  refine ⟨I.ok, I.os, I.bare, ⟨fun b o e n hb hx => kp b o (old b o e) (I.base.keep b o e n hb hx), fun b o e n hb hx => ?_, I.base.free, fun b o e hx => ?_, I.base.tups, I.base.frzs, I.base.tbls⟩, ⟨_, hn, fun j x w e1 e2 e3 => ?_⟩, fun x c e => ?_, I.free, I.freeC, fun p hp => ?_, fun b u e => ?_, by rw [List.length_set]; exact I.len⟩
  · obtain ⟨sl, e1⟩ := I.base.slot b o e n hb hx
    exact ⟨sl, kp b _ (old b o e) e1⟩
  · obtain ⟨o', e1⟩ := I.base.there b o e hx
    exact ⟨o', kp b _ (old b o e) e1⟩
  · by_cases hj : j = i
    · subst hj
      have hj' : j < σ.length := by
        have := (List.getElem?_eq_some_iff.mp e2).1
        rw [List.length_set] at this; exact this
      rw [List.getElem?_set_self hj'] at e2; cases e2
    · rw [List.getElem?_set_ne (Ne.symm hj)] at e2
      have hx : x ≠ n := fun z => by
        subst z
        obtain ⟨a1, a2⟩ := List.getElem?_eq_some_iff.mp e1
        obtain ⟨b1, b2⟩ := List.getElem?_eq_some_iff.mp hi
        exact hj ((List.getElem_inj hN).mp (a2.trans b2.symm))
      obtain ⟨u, r, l⟩ := hl j x w e1 e2 e3
      refine ⟨u, r, ?_⟩
      rcases l with ⟨k, z⟩ | ⟨k, c, ec, z⟩
      · exact .inl ⟨k, by dsimp only; rw [if_neg hx]; exact z⟩
      · refine .inr ⟨k, c, ec, ?_⟩
        obtain ⟨o, ho, hd⟩ := z
        exact ⟨o, kp c o (I.cne x c ec) ho, hd⟩
  · obtain ⟨w, o, ho, hd⟩ := I.cell x c e
    exact ⟨w, o, kp c o (I.cne x c e) ho, hd⟩
  · obtain ⟨e1, n1, l1, r⟩ := I.pin p hp
    exact ⟨kp _ _ l1 e1, n1, l1, r⟩
  · refine (I.hok b u e).stay (fun c w hc q => kp c w (fun z => ?_) q) (fun _ q => q) fun _ _ q => q
    rcases hc with y | y
    · rw [← y, z, I.free] at e; cases e
    · rw [z, I.free] at y; cases y
end
end L2
namespace L2
open PySem PySem.W PySem.Spec PySem.Calls PyProof.Rows
def xHand (K : PySem.W.Frag) (Bc : Value) (i : Nat) (th : TS) (D : Ends) : St → XK := fun σ cls oe H => ∃ C e, cls = .ref C ∧ oe = some e ∧ exmOne K (.ref C) Bc = some true ∧
  th { nx := fun σ' H' => D.nx (σ'.set i none) H', rt := D.rt, bk := fun σ' H' => D.bk (σ'.set i none) H', ct := fun σ' H' => D.ct (σ'.set i none) H' } (σ.set i (some (.ref e))) (upd H e (.ext (XAt e C)))
def tTry (K : PySem.W.Frag) (Bc : Value) (i : Nat) (tb : TX) (th : TS) : TS := fun D σ H => tb D (xHand K Bc i th D) σ H
section
variable {X : Cx} {body suite : List Stmt} {b0 : Stmt} {x n : Str} {Ba : Addr} {i : Nat} {tb : TX} {th : TS} {np hpos pos : Pos}
theorem ps_try (hB : Body X) (hc : X.calm = true) (hb : PSxs X body tb) (hg : Gl X x) (hm : X.mg x = some (.ref Ba)) (hN : X.N.Nodup) (hi : X.N[i]? = some n) (hlo : X.env.scope.names.lookup n = some .local)
    (hs : ∀ e : Addr, PSs (supCx X e) (b0 :: suite) th) (hd : (x == ("__debug__" : Str)) = false := by decide) :
    PS X (.Try body [.ExceptHandler (some (.Name x np)) (some n) (b0 :: suite) hpos] [] [] pos) (tTry X.K (.ref Ba) i tb th) := by
  intro pins s σ H D I h
  refine wpAny_Try_except (wpAny_mono (hb pins s σ H D _ I h) (fun fl s1 q => ?_) fun ev s1 q => ?_)
  · cases fl with
    | next => exact wpAny_execs_nil q
    | ret v => exact q
    | brk => exact q
    | cont => exact q
  obtain ⟨σ1, H1, s0, I1, ea, t, C, B, H', rfl, os, bare, fl, fy, new, nh, C', e', ec, ee, hx, ht⟩ := q
  cases ec
  cases ee
  have hfr : X.A.frames = some (X.env :: X.outer) := by rw [← hB.st]; exact I1.ok.frames
  have fy0 : Heap.FlyingW B (X.env :: X.outer) ea (.ref C) (.ref t) s1.heap := by rw [← hB.st]; exact fy
  refine wpAny_looks_onW hfr hB.fr fy0 fun h4 hd4 sm4 => ?_
  have fl4 := fl.on (h2 := h4) hd4.1 (slots_frames fy.2.2.1 sm4)
  refine wpAny_landsW hd4 fun h5 fy5 sm5 => ?_
  have fl5 := fl4.on (h2 := h5) fy5.1 (by rw [hB.st]; exact slots_frames hd4.2.2.1 sm5)
  have I5 : Inv X pins σ1 H' { s1 with heap := h5 } := I1.call' (s' := { s1 with heap := h5 }) (ch := []) os fl5.un fl5.hok bare (fun b z => nomatch z)
  have hxe : XAt ea C h5 := by obtain ⟨ob, h1, h2⟩ := fy5.there; exact ⟨ob, h1, h2⟩
  refine wpAny_handleBy_cons (codeAny_handlers_test ?_) (by intro q; cases q)
  refine ld_glob (X := supCx X ea) (I5.sup ea) hg hm ?_ hd
  refine (exm_one (K := X.K) I5.kIn (xat_ty hxe) hx).at ?_
  show codeAny _ _ _ _ _
  refine codeAny_handlers_suite_as ?_
  refine lands_againW fy5 fun h6 fy6 sm6 => ?_
  have fl6 := fl5.on (h2 := h6) fy6.1 (by rw [hB.st]; exact slots_frames fy5.2.2.1 sm6)
  have I6 : Inv X pins σ1 H' { s1 with heap := h6 } := I1.call' (s' := { s1 with heap := h6 }) (ch := []) os fl6.un fl6.hok bare (fun b z => nomatch z)
  have hxe6 : XAt ea C h6 := by obtain ⟨ob, h1, h2⟩ := fy6.there; exact ⟨ob, h1, h2⟩
  have newS : X.s₀.heap.get? ea = none := by
    cases q : X.s₀.heap.get? ea with
    | none => rfl
    | some o =>
      obtain ⟨o', e'⟩ := I1.base.there ea o q (by rw [hB.ex]; simp)
      rw [new] at e'; cases e'
  have I7 : Inv X pins σ1 (upd H' ea (.ext (XAt ea C))) { s1 with heap := h6 } := by
    refine I6.adopt' nh (fun z => ?_) newS (fun y c e z => ?_) (fun p hp z => ?_) ⟨hxe6, (by obtain ⟨o, h1, _⟩ := hxe6; exact ⟨o, h1⟩), fun g1 g2 p k => ?_⟩
    · obtain ⟨m, ⟨o, _, _, ho, _⟩, _⟩ := I1.loc
      rw [← z, new] at ho; cases ho
    · obtain ⟨v, o, ho, _⟩ := I1.cell y c e
      rw [z, new] at ho; cases ho
    · have ho := (I1.pin p hp).1
      rw [z, new] at ho; cases ho
    · obtain ⟨o, h1, h2⟩ := p
      exact ⟨o, k o h1, h2⟩
  refine store_ok (X := supCx X ea) (I7.sup ea) hN hi (.inl hlo) (v := .ref ea) rfl (fun s8 I8 => ?_) (.inr hlo)
  refine wpAny_mono (hs ea pins s8 _ _ _ I8 ht) (fun f s9 q => ?_) fun _ _ z => z.elim
  have out : ∀ {σ9 : St} {H9 : Hp} (J : Inv (supCx X ea) pins σ9 H9 s9) (Z : Shared → Prop), (∀ s10, Inv X pins (σ9.set i none) H9 s10 → Z s10) → wpAny (model X.prog X.w) X.A (do bindName X.env n .none; unbindBehindTheSuite X.env n hpos) (fun _ s10 => Z s10) X.xe s9 := fun {σ9 H9} J Z k => by
    have J' : Inv X pins σ9 H9 s9 := J.unsup fun hc => I1.ok.hd hc
    obtain ⟨m, hn, hl⟩ := id J'.loc
    exact wpAny_nameGoes_keeps hlo hn (by rw [J'.ok.kind]; rfl) fun h' v hn' hsb => k _ (J'.unname hN hi hsb hn hl hn')
  cases f with
  | next => obtain ⟨σ9, H9, J, q⟩ := q; exact out J _ fun s10 J10 => ⟨_, H9, J10, q⟩
  | brk => obtain ⟨σ9, H9, J, q⟩ := q; exact out J _ fun s10 J10 => ⟨_, H9, J10, q⟩
  | cont => obtain ⟨σ9, H9, J, q⟩ := q; exact out J _ fun s10 J10 => ⟨_, H9, J10, q⟩
  | ret u => obtain ⟨v, σ9, H9, J, r, q⟩ := q; exact out J _ fun s10 J10 => ⟨v, _, H9, J10, r, q⟩
def ClsV (c : V) (t : Value) : Prop := (∃ T, c = .ty T ∧ t = .type T) ∨ ∃ a, c = .ref a ∧ t = .ref a
theorem call_isinstX : CallR X (.builtin "isinstance") (fun xs H Q => ∃ (e D : Addr) (c : V) (t : Value) (b : Bool), xs = [.ref e, c] ∧ H e = some (.ext (XAt e D)) ∧ XCls X.K D ∧ ClsV c t ∧ PySem.W.kitOne X.K (.ref D) t = some b ∧ Q (.bl b) H) := by
  intro pins s σ H xs us Q I r h
  obtain ⟨e, D, c, t, b, rfl, he, hD, hc, hk, q⟩ := h
  obtain ⟨u, v, rfl, ru, rv⟩ := vals2 r
  cases ru
  have ev : v = t := by
    rcases hc with ⟨T, rfl, rfl⟩ | ⟨a, rfl, rfl⟩
    · exact rv
    · exact rv
  subst ev
  obtain ⟨hx, _, _⟩ := (show ObjOk X.prog X.w H s.heap e (.ext (XAt e D)) from I.hok e _ he)
  exact PySem.W.kia_one (kitx_exc hD) I.kIn hx hk (fun z => nomatch z) fun tk => ⟨.bl b, H, I.tok tk, rfl, q⟩
end
theorem boot_VE : bootBuiltins "ValueError" = some (.type "ValueError") := by kernel_rfl
theorem passN {X : Cx} : Passes (CXE X.prog X.w) X E0 := fun _ _ _ _ _ _ _ h => by
  obtain ⟨_, _, _, _, _, _, _, _, _, _, _, _, hE⟩ := h
  exact hE.elim
theorem pe_cls {X : Cx} {x : Str} {C : Addr} {pos : Pos} (hg : Gl X x) (hm : X.mg x = some (.ref C)) (hd : (x == ("__debug__" : Str)) = false := by decide) : PE X (.Name x pos) (tC (.ref C)) := pe_glob (v := .ref C) hg hm rfl hd
structure ErrC (K : PySem.W.Frag) (mg : Str → Option Value) (x : Str) (C : Addr) : Prop where
  m : mg x = some (.ref C)
  q : excIn K C bmVE "ValueError.__new__" = true
  x : XCls K C
end L2
namespace L2
open PySem PySem.Spec PyProof.Rows
section
variable {X : Cx}
theorem Inv.turnedL {pins : List (Addr × Obj)} {σ : St} {H : Hp} {s : Shared} {h' : Heap} {t' : Nat} {ch : List Addr} (I : Inv X pins σ H s) (k : ∀ b o, b ∉ ch → s.heap.get? b = some o → h'.get? b = some o) (f : ∀ b ∈ ch, FpOk X pins H b) : Inv X pins σ H { s with heap := h', toks := t' } := by
  have nit : ∀ b u, H b = some u → b ∉ ch := fun b u e z => by rw [(f b z).1] at e; cases e
  refine I.step (g' := s.gens) (d' := s.drawn) (ch := ch) (fun b hb => ?_) (fun b o _ _ hc e _ => k b o hc e) (fun b o _ _ hc e _ => ⟨o.slots, k b o hc e⟩) (fun _ _ _ _ n => n)
    (fun b o hc e => ⟨o, k b o hc e⟩) (fun _ _ e => e) (fun _ _ _ e => e) (fun b ps e => ⟨#[], by rw [e]; simp⟩) (fun m hm => ?_) (fun b u e => ?_) I.bare
  · obtain ⟨f0, f1, f2, f3, f4, f5⟩ := f b hb
    exact ⟨f3, f1, f4, f5⟩
  · obtain ⟨o, es, ep, ho, r⟩ := hm
    exact ⟨o, es, ep, k _ o (fun z => (f _ z).2.1 rfl) ho, r⟩
  · refine (I.hok b u e).stay (fun c v hc q => k c v ?_ q) (fun _ q => q) fun _ _ q => q
    rcases hc with z | z
    · rw [z]; exact nit b u e
    · exact nit c _ z
def Itz (K : PySem.W.Frag) (l1 l2 : Addr) (xs ys : List V) : It :=
  ⟨fun i H => SqL K H l1 xs ∧ SqL K H l2 ys ∧ i < xs.length ∧ i < ys.length, fun i H x H' => ∃ T a b, x = .ref T ∧ H T = none ∧ xs[i]? = some a ∧ ys[i]? = some b ∧ H' = upd H T (.tup [a, b]),
   fun i H => SqL K H l1 xs ∧ SqL K H l2 ys ∧ (xs.length ≤ i ∨ ys.length ≤ i)⟩
def ZipAt (z TI TO i1 i2 l1 l2 : Addr) (i : Nat) (h : Heap) : Prop := IsZip h z TI TO .none ∧ IsPair h TI (.ref i1) (.ref i2) ∧ (∃ a b, IsPair h TO a b) ∧ h.IsListIter i1 l1 i ∧ h.IsListIter i2 l2 i
theorem turn_zip {P : Program} {w : World} {K : PySem.W.Frag} {elts : List Expr} {kk : Nat} {tpos : Pos} {z TI TO i1 i2 l1 l2 : Addr} {xs ys : List V} (D : ZipApart z TI TO i1 i2 l1 l2) :
    Turn P w K (.Tuple elts kk tpos) (Itz K l1 l2 xs ys) [z, TI, TO, i1, i2] z (ZipAt z TI TO i1 i2 l1 l2) where
  mem := by simp
  obj := fun i h st b hb => by
    obtain ⟨hz, hTI, ⟨a, b', hTO⟩, ⟨o1, e1, c1, d1⟩, ⟨o2, e2, c2, d2⟩⟩ := st
    simp at hb
    rcases hb with rfl | rfl | rfl | rfl | rfl
    · exact ⟨_, hz, fun v z => by cases (show Data.fields _ = Data.cell v from z)⟩
    · exact ⟨_, hTI, fun v z => by cases (show Data.seq _ _ = Data.cell v from z)⟩
    · exact ⟨_, hTO, fun v z => by cases (show Data.seq _ _ = Data.cell v from z)⟩
    · exact ⟨o1, e1, fun v z => by rw [d1] at z; cases z⟩
    · exact ⟨o2, e2, fun v z => by rw [d2] at z; cases z⟩
  keep := fun i h h' st k => by
    obtain ⟨hz, hTI, ⟨a, b, hTO⟩, h1, h2⟩ := st
    exact ⟨k z (by simp) _ hz, k TI (by simp) _ hTI, ⟨a, b, k TO (by simp) _ hTO⟩, h1.at fun o e => k i1 (by simp) o e, h2.at fun o e => k i2 (by simp) o e⟩
  item := by
    intro X hP hw hK hc i pins s σ H E I hf st hg
    subst hP hw hK
    obtain ⟨hz, hTI, ⟨p, p', hTO⟩, h1, h2⟩ := st
    obtain ⟨hq1, hq2, hi1, hi2⟩ := hg
    obtain ⟨its1, rv1, pl1, hz1⟩ := I.list hq1
    obtain ⟨its2, rv2, pl2, hz2⟩ := I.list hq2
    obtain ⟨u1, hu1, ru1⟩ := rv1.get (List.getElem?_eq_getElem hi1)
    obtain ⟨u2, hu2, ru2⟩ := rv2.get (List.getElem?_eq_getElem hi2)
    refine wpAny_pyNext_zip_item D hz hTI hTO h1 h2 pl1.isList pl2.isList (x := u1) (y := u2) (by simpa using hu1) (by simpa using hu2) fun h' a1 a2 a3 a4 a5 a6 hk => ?_
    have lt : ∀ {c o}, s.heap.get? c = some o → s.heap.objs.size ≠ c := fun e => Nat.ne_of_gt (Heap.lt_size e)
    refine ⟨.ref s.heap.objs.size, rfl, wpAny_letOwnedTupleGo_zip (s := { s with heap := h' }) a1 fun h'' hz' hs' => ?_⟩
    have Tz : s.heap.objs.size ≠ z := lt hz
    have sub : ∀ b ∈ ([z, TO, i1, i2] : List Addr), b ∈ ([z, TI, TO, i1, i2] : List Addr) := fun b hb => by
      simp at hb ⊢
      rcases hb with rfl | rfl | rfl | rfl <;> simp
    have I1 : Inv X pins σ H { s with heap := h'' } := I.turnedL (t' := s.toks) (ch := [z, TO, i1, i2])
      (fun b o hb e => hs'.extBut b o (fun x => hb (by simp [x])) (hk b o (fun x => hb (by simp [x])) (fun x => hb (by simp [x])) (fun x => hb (by simp [x])) (fun x => hb (by simp [x])) e)) fun b hb => hf b (sub b hb)
    have F := I.fpOk (H' := H) (Nat.le_refl _) (I.hok.fresh (Nat.le_refl _))
    obtain ⟨F0, F1, F2, F3, F4, F5⟩ := F
    have hT : IsTup h'' s.heap.objs.size #[u1, u2] := ⟨_, hs'.extBut _ _ Tz a5, rfl, _, rfl⟩
    have I2 : Inv X pins σ (upd H s.heap.objs.size (.tup [xs[i], ys[i]])) { s with heap := h'' } := I1.adopt F0 F1 I.sz F4 F5 (show ObjOk X.prog X.w _ h'' _ (.tup [xs[i], ys[i]]) from ⟨by rw [sizeLine_eq]; simp, [u1, u2], .cons ru1 (.cons ru2 .nil), hT⟩)
    refine ⟨.ref s.heap.objs.size, _, I2, rfl, ⟨_, _, _, rfl, F0, List.getElem?_eq_getElem hi1, List.getElem?_eq_getElem hi2, rfl⟩, ?_, fun b hb => ?_⟩
    · exact ⟨hz', hs'.extBut _ _ D.TIz (hk _ _ D.TIz D.TITO D.TIi1 D.TIi2 hTI), ⟨_, _, hs'.extBut _ _ D.TOz a2⟩, a3.extBut hs'.extBut D.i1z, a4.extBut hs'.extBut D.i2z⟩
    · rw [upd_ne]
      · exact (hf b hb).1
      · simp at hb
        obtain ⟨o1, e1, _⟩ := h1
        obtain ⟨o2, e2, _⟩ := h2
        rcases hb with rfl | rfl | rfl | rfl | rfl
        · exact (lt hz).symm
        · exact (lt hTI).symm
        · exact (lt hTO).symm
        · exact (lt e1).symm
        · exact (lt e2).symm
  done := by
    intro X hP hw hK hc i pins s σ H E I hf st hg
    subst hP hw hK
    obtain ⟨hz, hTI, ⟨p, p', hTO⟩, h1, h2⟩ := st
    obtain ⟨hq1, hq2, hend⟩ := hg
    obtain ⟨its1, rv1, pl1, hz1⟩ := I.list hq1
    obtain ⟨its2, rv2, pl2, hz2⟩ := I.list hq2
    have e1 := rv1.length
    have e2 := rv2.length
    have sub : ∀ b ∈ ([z, TO, i1, i2] : List Addr), b ∈ ([z, TI, TO, i1, i2] : List Addr) := fun b hb => by
      simp at hb ⊢
      rcases hb with rfl | rfl | rfl | rfl <;> simp
    refine wpAny_pyNext_zip_end (I.ok.hd hc) D hz hTI hTO h1 h2 pl1.isList pl2.isList ?_ fun h' hk => ⟨rfl, I.turnedL (t' := s.toks) (ch := [z, TO, i1, i2])
      (fun b o hb e => hk b o (fun x => hb (by simp [x])) (fun x => hb (by simp [x])) (fun x => hb (by simp [x])) (fun x => hb (by simp [x])) e) fun b hb => hf b (sub b hb)⟩
    rcases hend with h | h
    · exact .inl (by simp; omega)
    · exact .inr (by simp; omega)
  self := fun _ _ _ _ _ st h => wpAny_pyIter_zip st.1 h
def iZip (K : PySem.W.Frag) (ta : TA) : TI := fun σ H R => ta σ H fun vs H1 => ∃ l1 l2 xs ys, vs = [.ref l1, .ref l2] ∧ SqL K H1 l1 xs ∧ SqL K H1 l2 ys ∧ R (Itz K l1 l2 xs ys) H1
theorem pi_zip {elts : List Expr} {kk : Nat} {tpos : Pos} {a b : Expr} {ta : TA} {p pos : Pos} (hg : Gl X "zip") (hm : X.mg "zip" = none) (ha : PA X [a, b] ta) (hs : starEach [a, b] X.env = [(false, eval a X.env), (false, eval b X.env)] := by rfl) (hs2 : starEach [b] X.env = [(false, eval b X.env)] := by rfl) :
    PI X (.Tuple elts kk tpos) (.Call (.Name "zip" p) [a, b] [] pos) (iZip X.K ta) := by
  intro pins s σ H R I h
  refine Call_ (ld_blt I hg hm boot_zip (PyProof.Rows.callWith_type1 (thn (ha pos pins s σ H _ I h) fun us s1 ⟨vs, H1, I1, r1, q1⟩ => ?_) (by rw [hs, hs2]) (by rw [hs2]; rfl)))
  obtain ⟨l1, l2, xs, ys, e, hq1, hq2, q⟩ := q1
  subst e
  cases r1 with
  | cons r rr =>
    cases rr with
    | cons r' rr =>
      cases rr
      cases r
      cases r'
      obtain ⟨its1, rv1, pl1, hz1⟩ := I1.list hq1
      obtain ⟨its2, rv2, pl2, hz2⟩ := I1.list hq2
      refine call_zip_2 pl1.isList pl2.isList fun h' a1 a2 a3 a4 a5 a6 hk => ?_
      refine wpAny_pyIter_zip a1 ?_
      have b1 : l1 < s1.heap.objs.size := by obtain ⟨o, e, _⟩ := pl1.isList; exact Heap.lt_size e
      have b2 : l2 < s1.heap.objs.size := by obtain ⟨o, e, _⟩ := pl2.isList; exact Heap.lt_size e
      refine ⟨_, _, _, _, H1, rfl, I1.kept (t' := s1.toks) hk, turn_zip (l1 := l1) (l2 := l2) (xs := xs) (ys := ys) (TI := s1.heap.objs.size + 2) (TO := s1.heap.objs.size + 3) (i1 := s1.heap.objs.size) (i2 := s1.heap.objs.size + 1) ?_, ⟨a1, a2, ⟨_, _, a3⟩, a4, a5⟩, fun b hb => ?_, q⟩
      · constructor <;> exact fun z => by simp only [Addr] at z b1 b2; omega
      · have hb' : s1.heap.objs.size ≤ b := by
          simp at hb
          rcases hb with rfl | rfl | rfl | rfl | rfl <;> simp
        exact I1.fpOk hb' (I1.hok.fresh hb')
theorem for_zip {K : PySem.W.Frag} {l1 l2 : Addr} {xs ys : List V} {g : TG} {tb : TS} {D : Ends} {σ : St} {H : Hp} (Pv : Nat → St → Hp → Prop) (hxy : xs.length = ys.length) (h0 : Pv 0 σ H) (hl : ∀ i σ H, i ≤ xs.length → Pv i σ H → SqL K H l1 xs ∧ SqL K H l2 ys)
    (hs : ∀ i a b T σ H, xs[i]? = some a → ys[i]? = some b → Pv i σ H → H T = none → g (.ref T) σ (upd H T (.tup [a, b])) fun σ2 H2 => tb { D with nx := Pv (i + 1), ct := Pv (i + 1), bk := D.nx } σ2 H2) (hd : ∀ σ H, Pv xs.length σ H → D.nx σ H) :
    ∃ W : Nat → Nat → St → Hp → Prop, (∃ m, W 0 m σ H) ∧ ∀ i m σ H, W i m σ H →
      ((Itz K l1 l2 xs ys).stop i H ∧ D.nx σ H) ∨ ((Itz K l1 l2 xs ys).go i H ∧ ∃ N : St → Hp → Prop, (∀ σ' H', N σ' H' → ∃ m', m' < m ∧ W (i + 1) m' σ' H') ∧ ∀ x H', (Itz K l1 l2 xs ys).yld i H x H' → g x σ H' fun σ2 H2 => tb { D with nx := N, ct := N, bk := D.nx } σ2 H2) := by
  refine ⟨fun i m σ H => m = xs.length - i ∧ i ≤ xs.length ∧ Pv i σ H, ⟨xs.length, by simp, Nat.zero_le _, h0⟩, ?_⟩
  rintro i m σ H ⟨rfl, hi, p⟩
  obtain ⟨q1, q2⟩ := hl i σ H hi p
  by_cases hlt : i < xs.length
  · refine .inr ⟨⟨q1, q2, hlt, by omega⟩, Pv (i + 1), fun σ' H' p' => ⟨xs.length - (i + 1), by omega, rfl, hlt, p'⟩, fun x H' y => ?_⟩
    obtain ⟨T, a, b, rfl, hT, ha, hb, rfl⟩ := y
    exact hs i a b T σ _ ha hb p hT
  · have e : i = xs.length := by omega
    subst e
    exact .inl ⟨⟨q1, q2, .inl (Nat.le_refl _)⟩, hd σ H p⟩
end
end L2
namespace L2
open PySem PySem.Spec PyProof.Rows
section
variable {X : Cx}
def Ite (K : PySem.W.Frag) (l : Addr) (xs : List V) : It :=
  ⟨fun i H => SqL K H l xs ∧ i < xs.length, fun i H x H' => ∃ T a, x = .ref T ∧ H T = none ∧ xs[i]? = some a ∧ H' = upd H T (.tup [.int (i : Int), a]), fun i H => SqL K H l xs ∧ xs.length ≤ i⟩
def EnumAt (e it l : Addr) (i : Nat) (h : Heap) : Prop := (∃ old, IsEnum h e it i old) ∧ h.IsListIter it l i
theorem turn_enum {P : Program} {w : World} {K : PySem.W.Frag} {elts : List Expr} {kk : Nat} {tpos : Pos} {e it l : Addr} {xs : List V} (hei : e ≠ it) :
    Turn P w K (.Tuple elts kk tpos) (Ite K l xs) [e, it] e (EnumAt e it l) where
  mem := by simp
  obj := fun i h st b hb => by
    obtain ⟨⟨old, he⟩, ⟨o1, e1, c1, d1⟩⟩ := st
    simp at hb
    rcases hb with rfl | rfl
    · exact ⟨_, he, fun v z => by cases (show Data.fields _ = Data.cell v from z)⟩
    · exact ⟨o1, e1, fun v z => by rw [d1] at z; cases z⟩
  keep := fun i h h' st k => by
    obtain ⟨⟨old, he⟩, h1⟩ := st
    exact ⟨⟨old, k e (by simp) _ he⟩, h1.at fun o x => k it (by simp) o x⟩
  item := by
    intro X hP hw hK hc i pins s σ H E I hf st hg
    subst hP hw hK
    obtain ⟨⟨old, he⟩, h1⟩ := st
    obtain ⟨hq1, hi1⟩ := hg
    obtain ⟨its1, rv1, pl1, hz1⟩ := I.list hq1
    obtain ⟨u1, hu1, ru1⟩ := rv1.get (List.getElem?_eq_getElem hi1)
    refine wpAny_pyNext_enum_item he h1 pl1.isList (x := u1) (by simpa using hu1) hei fun h' a1 a2 a3 a4 hk => ?_
    have lt : ∀ {c o}, s.heap.get? c = some o → s.heap.objs.size ≠ c := fun e => Nat.ne_of_gt (Heap.lt_size e)
    refine ⟨.ref s.heap.objs.size, rfl, wpAny_letOwnedTupleGo_enum (s := { s with heap := h', toks := s.toks + 1 }) a1 fun h'' hz' hs' => ?_⟩
    have Tz : s.heap.objs.size ≠ e := lt he
    have I1 : Inv X pins σ H { s with heap := h'', toks := s.toks + 1 } := I.turnedL (ch := [e, it])
      (fun b o hb x => hs'.extBut b o (fun z => hb (by simp [z])) (hk b o (fun z => hb (by simp [z])) (fun z => hb (by simp [z])) x)) fun b hb => hf b hb
    obtain ⟨F0, F1, F2, F3, F4, F5⟩ := I.fpOk (H' := H) (Nat.le_refl _) (I.hok.fresh (Nat.le_refl _))
    have hT : IsTup h'' s.heap.objs.size #[.int (i : Int) s.toks, u1] := ⟨_, hs'.extBut _ _ Tz a3, rfl, _, rfl⟩
    have I2 : Inv X pins σ (upd H s.heap.objs.size (.tup [.int (i : Int), xs[i]])) { s with heap := h'', toks := s.toks + 1 } := I1.adopt F0 F1 I.sz F4 F5 (show ObjOk X.prog X.w _ h'' _ (.tup [.int (i : Int), xs[i]]) from ⟨by rw [sizeLine_eq]; simp, [.int (i : Int) s.toks, u1], .cons ⟨_, rfl⟩ (.cons ru1 .nil), hT⟩)
    refine ⟨.ref s.heap.objs.size, _, I2, rfl, ⟨_, _, rfl, F0, List.getElem?_eq_getElem hi1, rfl⟩, ?_, fun b hb => ?_⟩
    · exact ⟨⟨_, by simpa using hz'⟩, a2.extBut hs'.extBut hei.symm⟩
    · rw [upd_ne]
      · exact (hf b hb).1
      · simp at hb
        obtain ⟨o1, e1, _⟩ := h1
        rcases hb with rfl | rfl
        · exact (lt he).symm
        · exact (lt e1).symm
  done := by
    intro X hP hw hK hc i pins s σ H E I hf st hg
    subst hP hw hK
    obtain ⟨⟨old, he⟩, h1⟩ := st
    obtain ⟨hq1, hend⟩ := hg
    obtain ⟨its1, rv1, pl1, hz1⟩ := I.list hq1
    have e1 := rv1.length
    exact wpAny_pyNext_enum_end (I.ok.hd hc) he h1 pl1.isList (by simp; omega) fun h' hk => ⟨rfl, I.turnedL (t' := s.toks) (ch := [e, it])
      (fun b o hb x => hk b o (fun z => hb (by simp [z])) x) fun b hb => hf b hb⟩
  self := fun _ _ _ _ _ st h => by
    obtain ⟨⟨old, he⟩, _⟩ := st
    exact wpAny_pyIter_enum he h
def iEnum (K : PySem.W.Frag) (ta : TA) : TI := fun σ H R => ta σ H fun vs H1 => ∃ l xs, vs = [.ref l] ∧ SqL K H1 l xs ∧ R (Ite K l xs) H1
theorem pi_enum {elts : List Expr} {kk : Nat} {tpos : Pos} {a : Expr} {ta : TA} {p pos : Pos} (hg : Gl X "enumerate") (hm : X.mg "enumerate" = none) (ha : PA X [a] ta) (hs : starEach [a] X.env = [(false, eval a X.env)] := by rfl) :
    PI X (.Tuple elts kk tpos) (.Call (.Name "enumerate" p) [a] [] pos) (iEnum X.K ta) := by
  intro pins s σ H R I h
  refine Call_ (ld_blt I hg hm boot_enumerate (PyProof.Rows.callWith_type1 (thn (ha pos pins s σ H _ I h) fun us s1 ⟨vs, H1, I1, r1, q1⟩ => ?_) hs rfl))
  obtain ⟨l1, xs, e, hq1, q⟩ := q1
  subst e
  obtain ⟨u, rfl, ru⟩ := vals1 r1
  cases ru
  obtain ⟨its1, rv1, pl1, hz1⟩ := I1.list hq1
  refine call_enumerate_list pl1.isList fun h' a1 a2 a3 hk => ?_
  refine wpAny_pyIter_enum a1 ?_
  refine ⟨_, _, _, _, H1, rfl, I1.kept (t' := s1.toks) hk, turn_enum (l := l1) (xs := xs) (it := s1.heap.objs.size) (Nat.succ_ne_self _), ⟨⟨_, a1⟩, a2⟩, fun b hb => ?_, q⟩
  have hb' : s1.heap.objs.size ≤ b := by
    simp at hb
    rcases hb with rfl | rfl <;> simp
  exact I1.fpOk hb' (I1.hok.fresh hb')
theorem for_enum {K : PySem.W.Frag} {l : Addr} {xs : List V} {g : TG} {tb : TS} {D : Ends} {σ : St} {H : Hp} (Pv : Nat → St → Hp → Prop) (h0 : Pv 0 σ H) (hl : ∀ i σ H, i ≤ xs.length → Pv i σ H → SqL K H l xs)
    (hs : ∀ i a T σ H, xs[i]? = some a → Pv i σ H → H T = none → g (.ref T) σ (upd H T (.tup [.int (i : Int), a])) fun σ2 H2 => tb { D with nx := Pv (i + 1), ct := Pv (i + 1), bk := D.nx } σ2 H2) (hd : ∀ σ H, Pv xs.length σ H → D.nx σ H) :
    ∃ W : Nat → Nat → St → Hp → Prop, (∃ m, W 0 m σ H) ∧ ∀ i m σ H, W i m σ H →
      ((Ite K l xs).stop i H ∧ D.nx σ H) ∨ ((Ite K l xs).go i H ∧ ∃ N : St → Hp → Prop, (∀ σ' H', N σ' H' → ∃ m', m' < m ∧ W (i + 1) m' σ' H') ∧ ∀ x H', (Ite K l xs).yld i H x H' → g x σ H' fun σ2 H2 => tb { D with nx := N, ct := N, bk := D.nx } σ2 H2) := by
  refine ⟨fun i m σ H => m = xs.length - i ∧ i ≤ xs.length ∧ Pv i σ H, ⟨xs.length, by simp, Nat.zero_le _, h0⟩, ?_⟩
  rintro i m σ H ⟨rfl, hi, p⟩
  have q1 := hl i σ H hi p
  by_cases hlt : i < xs.length
  · refine .inr ⟨⟨q1, hlt⟩, Pv (i + 1), fun σ' H' p' => ⟨xs.length - (i + 1), by omega, rfl, hlt, p'⟩, fun x H' y => ?_⟩
    obtain ⟨T, a, rfl, hT, ha, rfl⟩ := y
    exact hs i a T σ _ ha p hT
  · have e : i = xs.length := by omega
    subst e
    exact .inl ⟨⟨q1, Nat.le_refl _⟩, hd σ H p⟩
theorem comp_enum {K : PySem.W.Frag} {a : Addr} {xs : List V} {acc : Addr} {g : TG} {tc : TT} {te : TE} {τ : St} {H1 : Hp} {Q : Hp → Prop} (Pv : Nat → St → Hp → Prop) (h0 : Pv 0 τ (upd H1 acc (.lst []))) (hl : ∀ i τ H, i ≤ xs.length → Pv i τ H → SqL K H a xs)
    (hs : ∀ i x T τ H, xs[i]? = some x → Pv i τ H → H T = none → g (.ref T) τ (upd H T (.tup [.int (i : Int), x])) fun τ4 H4 => tc τ4 H4 fun b H5 => if b = true then te τ4 H5 fun y H6 => ∃ ys, H6 acc = some (.lst ys) ∧ ys.length < sizeLine ∧ Pv (i + 1) τ4 (upd H6 acc (.lst (ys ++ [y]))) else Pv (i + 1) τ4 H5)
    (hd : ∀ τ H, Pv xs.length τ H → Q H) : tTurns (Ite K a xs) acc g tc te τ H1 Q := by
  refine ⟨fun i m τ H => m = xs.length - i ∧ i ≤ xs.length ∧ Pv i τ H, ⟨xs.length, by simp, Nat.zero_le _, h0⟩, ?_⟩
  rintro i m τ H ⟨rfl, hi, p⟩
  have q := hl i τ H hi p
  by_cases hlt : i < xs.length
  · refine .inr ⟨⟨q, hlt⟩, Pv (i + 1), fun τ' H' p' => ⟨xs.length - (i + 1), by omega, rfl, hlt, p'⟩, fun x H' y => ?_⟩
    obtain ⟨T, b, rfl, hT, hb, rfl⟩ := y
    exact hs i b T τ _ hb p hT
  · have e : i = xs.length := by omega
    subst e
    exact .inl ⟨⟨q, Nat.le_refl _⟩, hd τ H p⟩
theorem comp_zip {K : PySem.W.Frag} {l1 l2 : Addr} {xs ys : List V} {acc : Addr} {g : TG} {tc : TT} {te : TE} {τ : St} {H1 : Hp} {Q : Hp → Prop} (Pv : Nat → St → Hp → Prop) (hxy : xs.length = ys.length) (h0 : Pv 0 τ (upd H1 acc (.lst []))) (hl : ∀ i τ H, i ≤ xs.length → Pv i τ H → SqL K H l1 xs ∧ SqL K H l2 ys)
    (hs : ∀ i x y T τ H, xs[i]? = some x → ys[i]? = some y → Pv i τ H → H T = none → g (.ref T) τ (upd H T (.tup [x, y])) fun τ4 H4 => tc τ4 H4 fun b H5 => if b = true then te τ4 H5 fun y H6 => ∃ ys, H6 acc = some (.lst ys) ∧ ys.length < sizeLine ∧ Pv (i + 1) τ4 (upd H6 acc (.lst (ys ++ [y]))) else Pv (i + 1) τ4 H5)
    (hd : ∀ τ H, Pv xs.length τ H → Q H) : tTurns (Itz K l1 l2 xs ys) acc g tc te τ H1 Q := by
  refine ⟨fun i m τ H => m = xs.length - i ∧ i ≤ xs.length ∧ Pv i τ H, ⟨xs.length, by simp, Nat.zero_le _, h0⟩, ?_⟩
  rintro i m τ H ⟨rfl, hi, p⟩
  obtain ⟨q1, q2⟩ := hl i τ H hi p
  by_cases hlt : i < xs.length
  · refine .inr ⟨⟨q1, q2, hlt, by omega⟩, Pv (i + 1), fun τ' H' p' => ⟨xs.length - (i + 1), by omega, rfl, hlt, p'⟩, fun x H' y => ?_⟩
    obtain ⟨T, b, c, rfl, hT, hb, hc, rfl⟩ := y
    exact hs i b c T τ _ hb hc p hT
  · have e : i = xs.length := by omega
    subst e
    exact .inl ⟨⟨q1, q2, .inl (Nat.le_refl _)⟩, hd τ H p⟩
end
end L2
namespace L2
open PySem PySem.Spec PyProof.Rows
structure Iv (P : Prop) : Prop where
  t : True
  p : P
theorem ifT {c : Bool} {A B : Prop} (h : c = true) (a : A) : if c = true then A else B := by rw [if_pos h]; exact a
theorem ifF {c : Bool} {A B : Prop} (h : c = false) (b : B) : if c = true then A else B := by rw [if_neg (by rw [h]; exact Bool.false_ne_true)]; exact b
theorem ifB {c : Bool} {A B : Prop} (h1 : c = true → A) (h2 : c = false → B) : if c = true then A else B := by
  cases c with
  | true => exact ifT rfl (h1 rfl)
  | false => exact ifF rfl (h2 rfl)
theorem deq_int (x y : Int) : decide (V.int x = V.int y) = decide (x = y) := by
  by_cases h : x = y
  · simp [h]
  · have : ¬ V.int x = V.int y := fun e => h (by cases e; rfl)
    simp [h, this]
theorem ints_atZ {ns : List Int} {i : Int} (h0 : 0 ≤ i) (h1 : i < (ns.length : Int)) : atI (ns.map V.int) i = some (V.int (ns.getD i.toNat 0)) := by
  refine ints_atI h0 ?_
  rw [List.getD_eq_getElem?_getD, List.getElem?_eq_getElem (by omega)]; rfl
theorem getD_mem' {ns : List Int} {k : Nat} (h : k < ns.length) : ns.getD k 0 ∈ ns := by
  rw [List.getD_eq_getElem?_getD, List.getElem?_eq_getElem h]; exact List.getElem_mem h
theorem getD_get? {ns : List Int} {k : Nat} (h : k < ns.length) : ns[k]? = some (ns.getD k 0) := by
  rw [List.getD_eq_getElem?_getD, List.getElem?_eq_getElem h]; rfl
theorem ixN_Z {n : Nat} {i : Int} (h0 : 0 ≤ i) (h1 : i < (n : Int)) : ixN n i = some i.toNat := by
  unfold ixN; rw [if_pos h0, if_pos h1]
theorem Den.mo {T : Tabs} {K : PySem.W.Frag} {H H' : Hp} {v : V} {d : PyData} (h : Den K H v d) (e : SameT T H H') : Den K H' v d := Den.monoT e h
theorem Dens.mo {T : Tabs} {K : PySem.W.Frag} {H H' : Hp} {vs : List V} {ds : List PyData} (h : Dens K H vs ds) (e : SameT T H H') : Dens K H' vs ds := Dens.monoT e h
theorem SqL.mo {T : Tabs} {K : PySem.W.Frag} {H H' : Hp} {a : Addr} {xs : List V} (h : SqL K H a xs) (e : SameT T H H') : SqL K H' a xs := e.seq h
theorem SqT.mo {T : Tabs} {K : PySem.W.Frag} {H H' : Hp} {a : Addr} {xs : List V} (h : SqT K H a xs) (e : SameT T H H') : SqT K H' a xs := e.seqT h
theorem SameT.mo {T : Tabs} {H H1 H2 : Hp} (a : SameT T H H1) (b : SameT T H1 H2) : SameT T H H2 := a.trans b
section
variable {T : Tabs} {H0 H1 H H' : Hp} {L L' : List (Addr × HO)} {a l p : Addr} {o o' : HO} {xs : List V} {K : PySem.W.Frag}
theorem Ow.frz (O : Ow T H0 H ((p, o) :: L)) : ∃ Hn, Ow T Hn H L ∧ SameT T H0 Hn ∧ Hn p = some o := by
  obtain ⟨Hn, On, sn, kn⟩ := O.tail.reb
  refine ⟨Hn, On, sn, kn p o (O.get 0) fun q hq z => ?_⟩
  have nd := O.nd
  rw [List.map_cons, List.nodup_cons] at nd
  exact nd.1 (List.mem_map.mpr ⟨q, hq, z⟩)
theorem Ow.join (O : Ow T H0 H L) (O' : Ow T H H' L') : Ow T H0 H' (L' ++ L) := by
  have keep : ∀ q ∈ L, H' q.1 = some q.2 := fun q hq => (O.callT O'.same).at_ q hq
  refine ⟨O.same.trans O'.same, fun q hq => ?_, fun q hq => ?_, fun q hq => ?_, ?_⟩
  · rcases List.mem_append.mp hq with h | h
    · exact O.same.free (O'.new q h)
    · exact O.new q h
  · rcases List.mem_append.mp hq with h | h
    · exact O'.at_ q h
    · exact keep q h
  · rcases List.mem_append.mp hq with h | h
    · exact O'.pl q h
    · exact O.pl q h
  · rw [List.map_append, List.nodup_append]
    refine ⟨O'.nd, O.nd, fun x hx y hy z => ?_⟩
    obtain ⟨q, hq, rfl⟩ := List.mem_map.mp hx
    obtain ⟨r, hr, rfl⟩ := List.mem_map.mp hy
    have := O'.new q hq
    rw [z, O.at_ r hr] at this
    cases this
end
def dTup (ns : List Int) : PyData := .tuple (ns.map PyData.int)
section
variable {K : PySem.W.Frag} {H : Hp} {v : V} {a : Addr} {ns : List Int} {rs : List (List Int)}
theorem Den.tup (h : SqT K H a (ns.map V.int)) : Den K H (.ref a) (dTup ns) := .tuple h (Dens.ints ns)
theorem Den.tup_inv (h : Den K H v (dTup ns)) : ∃ a, v = .ref a ∧ SqT K H a (ns.map V.int) := by
  cases h with
  | tuple h hs => exact ⟨_, rfl, by rw [← Dens.int_inv hs]; exact h⟩
theorem Den.list_inv {ds : List PyData} (h : Den K H v (.list ds)) : ∃ a xs, v = .ref a ∧ SqL K H a xs ∧ Dens K H xs ds := by
  cases h with
  | list h hs => exact ⟨_, _, rfl, h, hs⟩
theorem Sh.tup (n : Nat) (ns : List Int) : Sh (n + 1) (dTup ns) := .tuple fun d hd => by
  obtain ⟨i, _, rfl⟩ := List.mem_map.mp hd
  exact .int n i
end
end L2
namespace L2
open PySem PySem.Spec PyProof.Rows
section
variable {A B : Prop}
theorem ifD {p : Prop} [Decidable p] (h1 : p → A) (h2 : ¬ p → B) : if decide p = true then A else B := ifB (fun h => h1 (of_decide_eq_true h)) fun h => h2 (of_decide_eq_false h)
theorem ifI {x y : Int} (h1 : x = y → A) (h2 : ¬ x = y → B) : if decide (V.int x = V.int y) = true then A else B := by rw [deq_int]; exact ifD h1 h2
theorem ifN {c : Bool} (h : if c = true then B else A) : if (!c) = true then A else B := by cases c <;> simpa using h
end
structure Lic where
  day : Int
  start : Int
  back : Int
  most : Int
def dLic (l : Lic) : PyData := dTup [l.day, l.start, l.back, l.most]
def dRoll (ls : List Lic) : PyData := .list (ls.map dLic)
abbrev vLic (l : Lic) : List V := [.int l.day, .int l.start, .int l.back, .int l.most]
section
variable {K : PySem.W.Frag} {H : Hp} {v : V} {a : Addr} {ls : List Lic} {l : Lic} {xs : List V} {k : Nat}
theorem Den.lic (h : SqT K H a (vLic l)) : Den K H (.ref a) (dLic l) := Den.tup (ns := [l.day, l.start, l.back, l.most]) h
theorem Den.lic_inv (h : Den K H v (dLic l)) : ∃ a, v = .ref a ∧ SqT K H a (vLic l) := h.tup_inv
theorem Dens.lic_at (h : Dens K H xs (ls.map dLic)) (hk : ls[k]? = some l) : ∃ a, xs[k]? = some (.ref a) ∧ SqT K H a (vLic l) := by
  obtain ⟨v, h1, h2⟩ := h.get (i := k) (d := dLic l) (by rw [List.getElem?_map, hk]; rfl)
  obtain ⟨a, rfl, hT⟩ := h2.lic_inv
  exact ⟨a, h1, hT⟩
theorem Dens.lic_get (h : Dens K H xs (ls.map dLic)) (hx : xs[k]? = some v) : ∃ a l, v = .ref a ∧ ls[k]? = some l ∧ SqT K H a (vLic l) := by
  obtain ⟨d, h1, h2⟩ := h.get' hx
  rw [List.getElem?_map] at h1
  cases e : ls[k]? with
  | none => rw [e] at h1; cases h1
  | some l =>
    rw [e] at h1
    cases h1
    obtain ⟨a, rfl, hT⟩ := h2.lic_inv
    exact ⟨a, l, rfl, rfl, hT⟩
theorem Sh.lic (n : Nat) (l : Lic) : Sh (n + 1) (dLic l) := Sh.tup n _
theorem Sh.roll (n : Nat) (ls : List Lic) : Sh (n + 2) (dRoll ls) := .list fun d hd => by
  obtain ⟨i, _, rfl⟩ := List.mem_map.mp hd
  exact .lic n i
end
theorem cut_nat (xs : List V) (i j : Nat) : cutV xs (some (i : Int)) (some (j : Int)) = (xs.drop i).take (j - i) := by
  unfold cutV
  rw [HT.sIx_nat, HT.sIx_nat]
  refine List.ext_getElem? fun k => ?_
  simp only [List.getElem?_take, List.getElem?_drop]
  by_cases h1 : k < j - i
  · rw [if_pos h1]
    by_cases h2 : i + k < xs.length
    · rw [if_pos (by omega), show min i xs.length = i by omega]
    · rw [List.getElem?_eq_none (l := xs) (i := i + k) (by omega)]
      split
      · exact List.getElem?_eq_none (by omega)
      · rfl
  · rw [if_neg h1]
    split
    · rename_i h3
      omega
    · rfl
theorem cut_ns (ns : List Int) (i j : Nat) : cutV (ns.map V.int) (some (i : Int)) (some (j : Int)) = ((ns.drop i).take (j - i)).map V.int := by
  rw [cut_nat, List.map_take, List.map_drop]
theorem lex3 (d n i d' m j : Int) : HT.lexLt [d, n, i] [d', m, j] = true ↔ (d < d' ∨ d = d' ∧ (n < m ∨ n = m ∧ i < j)) := by
  simp only [HT.lexLt]
  by_cases h1 : d = d'
  · by_cases h2 : n = m
    · by_cases h3 : i = j
      · simp [h1, h2, h3]
      · simp [h1, h2, h3]
    · simp [h1, h2]
  · simp [h1]
end L2
namespace L2
open PySem PySem.Spec PyProof.Rows
end L2
namespace L2
open PySem PySem.Spec PyProof.Rows
theorem pg_tupK {X : Cx} {K : PySem.W.Frag} {pos : Pos} {es : List Expr} {k : Nat} {t : TGs} {n : Nat} (hK : X.K = K) (hc : X.calm = true) (h : PGs X es t) (hn : (assignEach es X.env).length = n := by rfl) (hst : (assignEach es X.env).findIdx? (·.1) = none := by rfl) : PG X (.Tuple es k pos) (gTup K n t) := hK ▸ pg_tup hc h hn hst
end L2
namespace L2
open PySem PySem.Spec PyProof.Rows
theorem yes2 {τ : St} {H : Hp} {A B : Hp → Prop} (h : A H) : tYes τ H fun b H5 => if b = true then A H5 else B H5 := by
  show if true = true then A H else B H
  rw [if_pos rfl]; exact h
end L2
namespace L2
open PySem PySem.Spec PyProof.Rows
theorem erase_perm {α : Type} : ∀ {L : List α} {k : Nat} {p : α}, L[k]? = some p → (p :: L.eraseIdx k).Perm L
  | [], _, _, h => by simp at h
  | a :: L, 0, p, h => by
    have e : a = p := by simpa using h
    subst e; exact List.Perm.refl _
  | a :: L, k + 1, p, h => by
    have h' : L[k]? = some p := by simpa using h
    rw [List.eraseIdx_cons_succ]
    exact (List.Perm.swap a p _).trans ((erase_perm h').cons a)
section
variable {T : Tabs} {H0 H : Hp} {L : List (Addr × HO)} {p : Addr} {o : HO}
theorem Ow.pull (O : Ow T H0 H L) (k : Nat) (h : L[k]? = some (p, o) := by rfl) : Ow T H0 H ((p, o) :: L.eraseIdx k) := O.perm (erase_perm h)
theorem Ow.frzAt (O : Ow T H0 H L) (k : Nat) (h : L[k]? = some (p, o) := by rfl) : ∃ Hn, Ow T Hn H (L.eraseIdx k) ∧ SameT T H0 Hn ∧ Hn p = some o := (O.pull k h).frz
theorem Ow.del (O : Ow T H0 H L) (k : Nat) : Ow T H0 H (L.eraseIdx k) := O.sub (List.eraseIdx_sublist L k)
end
theorem map_snoc (ns : List Int) (z : Int) : ns.map V.int ++ [V.int z] = (ns ++ [z]).map V.int := by rw [List.map_append]; rfl
end L2
namespace L2
open PySem PySem.Spec PyProof.Rows
theorem Dens.way_at {K : PySem.W.Frag} {H : Hp} {xs : List V} {ws : List (List Int)} {i : Nat} {w : List Int} (h : Dens K H xs (ws.map dInts)) (hw : ws[i]? = some w) : ∃ a, xs[i]? = some (.ref a) ∧ SqL K H a (w.map V.int) := by
  obtain ⟨v, h1, h2⟩ := h.get (i := i) (d := dInts w) (by rw [List.getElem?_map, hw]; rfl)
  obtain ⟨a, rfl, hL⟩ := h2.ints_inv
  exact ⟨a, h1, hL⟩
end L2
namespace L2
open PySem PySem.Spec PyProof.Rows
end L2
namespace L2
open PySem PySem.W PySem.Spec PyProof.Rows
section
variable {prog : Program} {w : World} {A : Around} {E : Value → Shared → Prop} {s : Shared}
end
section
variable {X : Cx}
end
section
variable {prog : Program} {w : World} {A : Around} {R : Result → Shared → Prop} {I : Addr} {fp wr : List Addr} {n : Nat} {P : Nat → Value → Prop} {St : Nat → Heap → Prop}
end
section
variable {X : Cx}
end
end L2
namespace L2
open PySem PySem.Spec PyProof.Rows
section
variable {κ : Type} [DecidableEq κ]
end
abbrev KT (H : Hp) : List (List Key × V) → List (List Key × Addr × Value) → Prop := Paired fun p q => p.1 = q.1 ∧ H q.2.1 = some (.tup (p.1.map kV)) ∧ RelV p.2 q.2.2
section
variable {P : Program} {w : World} {H : Hp} {h : Heap} {a : Addr}
end
section
variable {X : Cx} {pins : List (Addr × Obj)} {σ : St} {H : Hp} {s : Shared} {a : Addr} {y v : V} {u r : Value} {o : Option V} {A : Around} {E : Value → Shared → Prop}
end
section
variable {X : Cx} {pins : List (Addr × Obj)} {σ : St} {H : Hp} {s : Shared} {a : Addr} {kvs : List (Key × V)} {k : Key} {u : Value} {A : Around} {E : Value → Shared → Prop}
end
section
variable {X : Cx} {o i e value : Expr} {pos pos' tpos : Pos} {td ty tv : TE}
end
section
variable {X : Cx} {pos : Pos}
end
abbrev VV : List (V × V) → List (Value × Value) → Prop := Paired fun p q => RelV p.1 q.1 ∧ RelV p.2 q.2
section
variable {X : Cx} {pins : List (Addr × Obj)} {σ : St} {H : Hp} {s : Shared} {a : Addr} {y d : V} {u r : Value} {o : Option V} {A : Around} {E : Value → Shared → Prop}
end
section
variable {X : Cx} {o e f : Expr} {apos cpos : Pos} {td ty tx : TE}
end
end L2
namespace L2
open PySem PySem.W PySem.Spec PyProof.Rows
section
variable {X : Cx} {o e f : Expr} {apos cpos : Pos} {td ty tx : TE}
end
section
variable {X : Cx} {o : Expr} {td : TE} {p1 apos cpos pos : Pos}
end
end L2
namespace L2
open PySem PySem.W PySem.Spec PyProof.Rows
section
variable {prog : Program} {w : World} {A : Around} {E : Value → Shared → Prop} {s : Shared}
end
section
variable {X : Cx}
def ObjsAt (H : Hp) (us : List V) (os : List HO) : Prop := us.length = os.length ∧ ∀ (i : Nat) (o : HO), os[i]? = some o → plainO o = true ∧ ∃ a, us[i]? = some (.ref a) ∧ H a = some o
theorem ObjsAt.nil (H : Hp) : ObjsAt H [] [] := ⟨rfl, fun i o h => by simp at h⟩
theorem ObjsAt.mo {T : Tabs} {H H' : Hp} {us : List V} {os : List HO} (h : ObjsAt H us os) (s : SameT T H H') : ObjsAt H' us os := ⟨h.1, fun i o ho => by
  obtain ⟨p, a, e1, e2⟩ := h.2 i o ho
  exact ⟨p, a, e1, s.keep _ _ e2 (plain_tbl p)⟩⟩
theorem ObjsAt.snoc {H : Hp} {us : List V} {os : List HO} {a : Addr} {o : HO} (h : ObjsAt H us os) (e : H a = some o) (p : plainO o = true := by rfl) : ObjsAt H (us ++ [.ref a]) (os ++ [o]) := by
  refine ⟨by rw [List.length_append, List.length_append, h.1]; rfl, fun i v hv => ?_⟩
  by_cases hi : i < os.length
  · rw [List.getElem?_append_left hi] at hv
    obtain ⟨q, b, e1, e2⟩ := h.2 i v hv
    exact ⟨q, b, by rw [List.getElem?_append_left (by rw [h.1]; exact hi)]; exact e1, e2⟩
  · have hi2 := (List.getElem?_eq_some_iff.mp hv).1
    rw [List.length_append] at hi2
    have ei : i = os.length := by simp at hi2; omega
    subst ei
    rw [List.getElem?_append_right (Nat.le_refl _), Nat.sub_self] at hv
    have : o = v := by simpa using hv
    subst this
    exact ⟨p, a, by rw [List.getElem?_append_right (by rw [h.1]; exact Nat.le_refl _), h.1, Nat.sub_self]; rfl, e⟩
theorem ObjsAt.tail {H : Hp} {u : V} {us : List V} {o : HO} {os : List HO} (h : ObjsAt H (u :: us) (o :: os)) : (∃ a, u = .ref a ∧ H a = some o) ∧ ObjsAt H us os := by
  refine ⟨?_, by have := h.1; simpa using this, fun i v hv => ?_⟩
  · obtain ⟨_, a, e1, e2⟩ := h.2 0 o rfl
    exact ⟨a, by simpa using e1, e2⟩
  · obtain ⟨q, b, f1, f2⟩ := h.2 (i + 1) v (by simpa using hv)
    exact ⟨q, b, by simpa using f1, f2⟩
theorem ObjsAt.dens {K : PySem.W.Frag} {H : Hp} {α : Type} {g : α → HO} {d : α → PyData} (hg : ∀ a x, H a = some (g x) → Den K H (.ref a) (d x)) : ∀ {us : List V} {xs : List α}, ObjsAt H us (xs.map g) → Dens K H us (xs.map d)
  | [], [], _ => .nil
  | [], _ :: _, h => by have := h.1; simp at this
  | _ :: _, [], h => by have := h.1; simp at this
  | u :: us, x :: xs, h => by
    obtain ⟨⟨a, rfl, e⟩, t⟩ := (show ObjsAt H (u :: us) (g x :: xs.map g) from h).tail
    exact .cons (hg a x e) (ObjsAt.dens hg t)
abbrev oLic (l : Lic) : HO := .tup (vLic l)
abbrev oInts (w : List Int) : HO := .lst (w.map V.int)
theorem ObjsAt.ints {K : PySem.W.Frag} {H : Hp} {us : List V} {ws : List (List Int)} (h : ObjsAt H us (ws.map oInts)) : Dens K H us (ws.map dInts) := h.dens fun a x e => Den.ints (SqL.of e)
end
end L2
namespace L2
open PySem PySem.W PySem.Spec PyProof.Rows
section
variable {X : Cx}
end
end L2
namespace L2
open PySem PySem.W PySem.Spec PyProof.Rows
end L2
namespace Rv
def River (r : List Int) : Prop := ∃ rk : Nat → Nat, (∀ i, i < r.length → rk i < r.length) ∧
  ∀ (i : Nat) (x : Int), r[i]? = some x → x = -1 ∨ (0 ≤ x ∧ x < r.length ∧ rk x.toNat < rk i)
def nxt (r : List Int) (p : Int) : Int := r.getD p.toNat (-1)
theorem get_nxt {r : List Int} {p : Int} (h0 : 0 ≤ p) (h1 : p < r.length) : r[p.toNat]? = some (nxt r p) := by
  have h : p.toNat < r.length := by omega
  unfold nxt
  rw [List.getD_eq_getElem?_getD, List.getElem?_eq_getElem h]; rfl
theorem River.step {r : List Int} (h : River r) {p : Int} (h0 : 0 ≤ p) (h1 : p < r.length) : nxt r p = -1 ∨ (0 ≤ nxt r p ∧ nxt r p < r.length) := by
  obtain ⟨rk, _, h3⟩ := h
  rcases h3 _ _ (get_nxt h0 h1) with e | ⟨a, b, _⟩
  · exact .inl e
  · exact .inr ⟨a, b⟩
def walkF (r : List Int) : Nat → Int → List Int
  | 0, _ => []
  | f + 1, p => if p = -1 then [] else p :: walkF r f (nxt r p)
def walk (r : List Int) (p : Int) : List Int := walkF r (r.length + 1) p
theorem walkF_neg (r : List Int) (f : Nat) : walkF r f (-1) = [] := by
  cases f with
  | zero => rfl
  | succ f => unfold walkF; rw [if_pos rfl]
theorem walk_neg (r : List Int) : walk r (-1) = [] := walkF_neg r _
theorem walkF_stable {r : List Int} {rk : Nat → Nat} (h : ∀ (i : Nat) (x : Int), r[i]? = some x → x = -1 ∨ (0 ≤ x ∧ x < r.length ∧ rk x.toNat < rk i)) :
    ∀ (f g : Nat) (p : Int), 0 ≤ p → p < r.length → rk p.toNat < f → rk p.toNat < g → walkF r f p = walkF r g p
  | 0, _, _, _, _, hf, _ => by omega
  | _ + 1, 0, _, _, _, _, hg => by omega
  | f + 1, g + 1, p, h0, h1, hf, hg => by
    unfold walkF
    rw [if_neg (by omega), if_neg (by omega)]
    rcases h _ _ (get_nxt h0 h1) with e | ⟨a, b, c⟩
    · rw [e, walkF_neg, walkF_neg]
    · rw [walkF_stable h f g _ a b (by omega) (by omega)]
theorem walk_cons {r : List Int} (h : River r) {p : Int} (h0 : 0 ≤ p) (h1 : p < r.length) : walk r p = p :: walk r (nxt r p) := by
  obtain ⟨rk, h2, h3⟩ := h
  show walkF r (r.length + 1) p = _
  unfold walkF
  rw [if_neg (by omega)]
  rcases h3 _ _ (get_nxt h0 h1) with e | ⟨a, b, c⟩
  · rw [e, walkF_neg, walk_neg]
  · have := h2 p.toNat (by omega)
    unfold walk
    rw [walkF_stable h3 r.length (r.length + 1) _ a b (by omega) (by omega)]
theorem walkF_len (r : List Int) : ∀ (f : Nat) (p : Int), (walkF r f p).length ≤ f
  | 0, _ => Nat.le_refl _
  | f + 1, p => by
    unfold walkF
    split
    · exact Nat.zero_le _
    · exact Nat.succ_le_succ (walkF_len r f _)
theorem walk_len (r : List Int) (p : Int) : (walk r p).length ≤ r.length + 1 := walkF_len r _ _
theorem River.ind {r : List Int} (h : River r) {P : Int → Prop} (hm : P (-1)) (hs : ∀ p : Int, 0 ≤ p → p < r.length → P (nxt r p) → P p) : ∀ p : Int, 0 ≤ p → p < r.length → P p := by
  obtain ⟨rk, _, h3⟩ := h
  have key : ∀ (n : Nat) (p : Int), 0 ≤ p → p < r.length → rk p.toNat < n → P p := by
    intro n
    induction n with
    | zero => intro p _ _ h; omega
    | succ n ih =>
      intro p h0 h1 h2
      refine hs p h0 h1 ?_
      rcases h3 _ _ (get_nxt h0 h1) with e | ⟨a, b, c⟩
      · rw [e]; exact hm
      · exact ih _ a b (by omega)
  exact fun p h0 h1 => key _ p h0 h1 (Nat.lt_succ_self _)
theorem walk_mem {r : List Int} (h : River r) : ∀ p : Int, 0 ≤ p → p < r.length → ∀ q ∈ walk r p, 0 ≤ q ∧ q < r.length := by
  refine h.ind (P := fun p => ∀ q ∈ walk r p, 0 ≤ q ∧ q < r.length) ?_ ?_
  · intro q hq; rw [walk_neg] at hq; cases hq
  · intro p h0 h1 ih q hq
    rw [walk_cons h h0 h1] at hq
    rcases List.mem_cons.mp hq with e | e
    · rw [e]; exact ⟨h0, h1⟩
    · exact ih q e
noncomputable def mea (r : List Int) (p : Int) : Nat := (walk r p).length
theorem mea_lt {r : List Int} (h : River r) {p : Int} (h0 : 0 ≤ p) (h1 : p < r.length) : mea r (nxt r p) < mea r p := by
  unfold mea; rw [walk_cons h h0 h1]; exact Nat.lt_succ_self _
theorem walk_nd_rk {r : List Int} (h : River r) : ∃ rk : Nat → Nat, ∀ p : Int, 0 ≤ p → p < r.length → (walk r p).Nodup ∧ ∀ q ∈ walk r p, rk q.toNat ≤ rk p.toNat := by
  obtain ⟨rk, h2, h3⟩ := id h
  refine ⟨rk, ?_⟩
  have key := h.ind (P := fun p => (walk r p).Nodup ∧ (0 ≤ p → ∀ q ∈ walk r p, rk q.toNat ≤ rk p.toNat)) ?_ ?_
  · exact fun p h0 h1 => ⟨(key p h0 h1).1, (key p h0 h1).2 h0⟩
  · rw [walk_neg]; exact ⟨List.nodup_nil, fun h => by omega⟩
  · intro p h0 h1 ⟨nd, ih⟩
    rw [walk_cons h h0 h1]
    rcases h3 _ _ (get_nxt h0 h1) with e | ⟨a, b, c⟩
    · rw [e, walk_neg]
      refine ⟨by simp, fun _ q hq => ?_⟩
      have : q = p := by simpa using hq
      rw [this]; exact Nat.le_refl _
    · have ih' := ih a
      refine ⟨List.nodup_cons.mpr ⟨fun hm => ?_, nd⟩, fun _ q hq => ?_⟩
      · have := ih' p hm
        omega
      · rcases List.mem_cons.mp hq with e | e
        · rw [e]; exact Nat.le_refl _
        · have := ih' q e; omega
theorem walk_nd {r : List Int} (h : River r) {p : Int} (h0 : 0 ≤ p) (h1 : p < r.length) : (walk r p).Nodup := by
  obtain ⟨rk, k⟩ := walk_nd_rk h
  exact (k p h0 h1).1
end Rv
namespace Rv
def tot : Nat → (Nat → Int) → Int
  | 0, _ => 0
  | n + 1, f => tot n f + f n
theorem tot_congr {n : Nat} {f g : Nat → Int} (h : ∀ i, i < n → f i = g i) : tot n f = tot n g := by
  induction n with
  | zero => rfl
  | succ n ih => unfold tot; rw [ih fun i hi => h i (by omega), h n (by omega)]
theorem tot_add (n : Nat) (f g : Nat → Int) : tot n (fun i => f i + g i) = tot n f + tot n g := by
  induction n with
  | zero => rfl
  | succ n ih => unfold tot; rw [ih]; dsimp only; omega
theorem tot_zero {n : Nat} {f : Nat → Int} (h : ∀ i, i < n → f i = 0) : tot n f = 0 := by
  induction n with
  | zero => rfl
  | succ n ih => unfold tot; rw [ih fun i hi => h i (by omega), h n (by omega)]; rfl
theorem tot_swap (n m : Nat) (f : Nat → Nat → Int) : tot n (fun i => tot m (fun j => f i j)) = tot m (fun j => tot n (fun i => f i j)) := by
  induction n with
  | zero => exact (tot_zero fun _ _ => rfl).symm
  | succ n ih => show tot n _ + tot m _ = _; rw [ih, ← tot_add]; rfl
theorem tot_one {n k : Nat} (f : Nat → Int) (hk : k < n) : tot n (fun i => if i = k then f i else 0) = f k := by
  induction n with
  | zero => omega
  | succ n ih =>
    unfold tot
    dsimp only
    by_cases h : k = n
    · subst h
      rw [if_pos rfl, tot_zero fun i hi => if_neg (by omega)]; omega
    · rw [ih (by omega), if_neg (fun (z : n = k) => h z.symm)]; omega
theorem tot_mul (n : Nat) (c : Int) (f : Nat → Int) : tot n (fun i => c * f i) = c * tot n f := by
  induction n with
  | zero => simp [tot]
  | succ n ih => unfold tot; rw [ih, Int.mul_add]
theorem tot_ite (n : Nat) (f : Nat → Int) (p : Prop) [Decidable p] : tot n (fun i => if p then f i else 0) = if p then tot n f else 0 := by
  by_cases h : p
  · rw [if_pos h]; exact tot_congr fun i _ => if_pos h
  · rw [if_neg h]; exact tot_zero fun i _ => if_neg h
def lsum : List Nat → (Nat → Int) → Int
  | [], _ => 0
  | k :: l, f => f k + lsum l f
theorem lsum_app (f : Nat → Int) : ∀ (l m : List Nat), lsum (l ++ m) f = lsum l f + lsum m f
  | [], m => by show _ = 0 + _; rw [Int.zero_add]; rfl
  | k :: l, m => by show f k + lsum (l ++ m) f = f k + lsum l f + lsum m f; rw [lsum_app f l m]; omega
theorem lsum_perm {f : Nat → Int} {l m : List Nat} (h : l.Perm m) : lsum l f = lsum m f := by
  induction h with
  | nil => rfl
  | cons k _ ih => show f k + _ = f k + _; rw [ih]
  | swap a b l => show f b + (f a + _) = f a + (f b + _); omega
  | trans _ _ h1 h2 => exact h1.trans h2
theorem lsum_range (f : Nat → Int) : ∀ n, lsum (List.range n) f = tot n f
  | 0 => rfl
  | n + 1 => by rw [List.range_succ, lsum_app, lsum_range f n]; show _ + (f n + 0) = _ + f n; omega
theorem lsum_zero {f : Nat → Int} : ∀ {l : List Nat}, (∀ k ∈ l, f k = 0) → lsum l f = 0
  | [], _ => rfl
  | k :: l, h => by show f k + lsum l f = 0; rw [h k List.mem_cons_self, lsum_zero fun j hj => h j (List.mem_cons_of_mem _ hj)]; rfl
def one (p : Prop) [Decidable p] : Int := if p then 1 else 0
def natf (r s : List Int) (i : Int) : Int := tot r.length fun j => if i ∈ walk r (j : Int) then s.getD j 0 else 0
theorem met {r : List Int} (h : River r) {i : Int} (hi : 0 ≤ i) : ∀ p : Int, 0 ≤ p → p < r.length → one (i ∈ walk r p) = one (p = i) + tot r.length fun k => if nxt r (k : Int) = i then one ((k : Int) ∈ walk r p) else 0 := by
  have key := h.ind (P := fun p => (p = -1 ∨ (0 ≤ p ∧ p < r.length)) → one (i ∈ walk r p) = one (p = i) + tot r.length fun k => if nxt r (k : Int) = i then one ((k : Int) ∈ walk r p) else 0) ?_ ?_
  · exact fun p h0 h1 => key p h0 h1 (.inr ⟨h0, h1⟩)
  · intro _
    rw [walk_neg, tot_zero fun k _ => ?_]
    · unfold one; rw [if_neg (by simp), if_neg (by omega)]; rfl
    · unfold one; rw [if_neg (show ¬ (k : Int) ∈ ([] : List Int) by simp)]; split <;> rfl
  · intro p h0 h1 ih _
    have ih' := ih (h.step h0 h1)
    have nd := walk_nd h h0 h1
    rw [walk_cons h h0 h1] at nd ⊢
    obtain ⟨np, _⟩ := List.nodup_cons.mp nd
    have e1 : one (i ∈ p :: walk r (nxt r p)) = one (p = i) + one (i ∈ walk r (nxt r p)) := by
      unfold one
      by_cases hpi : p = i
      · subst hpi
        rw [if_pos List.mem_cons_self, if_pos rfl, if_neg np]; rfl
      · rw [if_neg hpi]
        by_cases hm : i ∈ walk r (nxt r p)
        · rw [if_pos (List.mem_cons_of_mem _ hm), if_pos hm]; rfl
        · rw [if_neg hm, if_neg fun z => ?_]; · rfl
          rcases List.mem_cons.mp z with z | z
          · exact hpi z.symm
          · exact hm z
    have e2 : (tot r.length fun k => if nxt r (k : Int) = i then one ((k : Int) ∈ p :: walk r (nxt r p)) else 0) =
        one (nxt r p = i) + tot r.length fun k => if nxt r (k : Int) = i then one ((k : Int) ∈ walk r (nxt r p)) else 0 := by
      have : (tot r.length fun k => if nxt r (k : Int) = i then one ((k : Int) ∈ p :: walk r (nxt r p)) else 0) =
          tot r.length fun k => (if k = p.toNat then (fun k => if nxt r (k : Int) = i then (1 : Int) else 0) k else 0) + if nxt r (k : Int) = i then one ((k : Int) ∈ walk r (nxt r p)) else 0 := by
        refine tot_congr fun k hk => ?_
        by_cases hn : nxt r (k : Int) = i
        · simp only [if_pos hn]
          by_cases hkp : k = p.toNat
          · have hkp' : (k : Int) = p := by omega
            rw [if_pos hkp, hkp']
            unfold one
            rw [if_pos List.mem_cons_self, if_neg np]; rfl
          · have hkp' : ¬ (k : Int) = p := by omega
            rw [if_neg hkp]
            unfold one
            by_cases hm : (k : Int) ∈ walk r (nxt r p)
            · rw [if_pos (List.mem_cons_of_mem _ hm), if_pos hm]; rfl
            · rw [if_neg hm, if_neg fun z => ?_]; · rfl
              rcases List.mem_cons.mp z with z | z
              · exact hkp' z
              · exact hm z
        · simp only [if_neg hn]; split <;> rfl
      rw [this, tot_add, tot_one _ (by omega)]
      have e : ((p.toNat : Nat) : Int) = p := by omega
      show (if nxt r ((p.toNat : Nat) : Int) = i then (1 : Int) else 0) + _ = _
      rw [e]; rfl
    rw [e1, e2, ih']
theorem natf_rec {r : List Int} (h : River r) (s : List Int) {i : Nat} (hi : i < r.length) : natf r s (i : Int) = s.getD i 0 + tot r.length fun k => if nxt r (k : Int) = (i : Int) then natf r s (k : Int) else 0 := by
  have e : natf r s (i : Int) = tot r.length fun j => (if j = i then s.getD j 0 else 0) + tot r.length fun k => if nxt r (k : Int) = (i : Int) then (if (k : Int) ∈ walk r (j : Int) then s.getD j 0 else 0) else 0 := by
    refine tot_congr fun j hj => ?_
    have m := met h (i := (i : Int)) (by omega) (j : Int) (by omega) (by omega)
    have e1 : (if (i : Int) ∈ walk r (j : Int) then s.getD j 0 else 0) = s.getD j 0 * one ((i : Int) ∈ walk r (j : Int)) := by unfold one; split <;> simp
    rw [e1, m, Int.mul_add, ← tot_mul]
    congr 1
    · unfold one
      by_cases hji : j = i
      · rw [if_pos (by omega), if_pos hji]; simp
      · rw [if_neg (by omega), if_neg hji]; simp
    · refine tot_congr fun k hk => ?_
      split
      · unfold one; split <;> simp
      · simp
  rw [e, tot_add, tot_one (fun j => s.getD j 0) hi, tot_swap]
  congr 1
  refine tot_congr fun k hk => ?_
  rw [tot_ite]
  rfl
def strch (r : List Int) (a b : Int) : List Int := if b = -1 then walk r a else (walk r a).takeWhile (fun x => !decide (x = b))
def Stop (r : List Int) (a b : Int) : Prop := b = -1 ∨ b ∈ walk r a
theorem strch_sub {r : List Int} {a b x : Int} (h : x ∈ strch r a b) : x ∈ walk r a := by
  unfold strch at h
  split at h
  · exact h
  · exact (List.takeWhile_prefix _).subset h
theorem strch_nd {r : List Int} (h : River r) {a b : Int} (h0 : 0 ≤ a) (h1 : a < r.length) : (strch r a b).Nodup := by
  unfold strch
  split
  · exact walk_nd h h0 h1
  · exact (walk_nd h h0 h1).sublist (List.takeWhile_sublist _)
end Rv
namespace Rv
structure Fl (n : Nat) (fl : List Int) (g : Nat → Int) : Prop where
  len : fl.length = n
  at_ : ∀ i, i < n → fl[i]? = some (g i)
theorem Fl.of (fl : List Int) : Fl fl.length fl (fun i => fl.getD i 0) := ⟨rfl, fun i hi => by rw [List.getElem?_eq_getElem hi, List.getD_eq_getElem?_getD, List.getElem?_eq_getElem hi]; rfl⟩
theorem Fl.cong {n : Nat} {fl : List Int} {g g' : Nat → Int} (h : Fl n fl g) (e : ∀ i, i < n → g i = g' i) : Fl n fl g' := ⟨h.len, fun i hi => by rw [h.at_ i hi, e i hi]⟩
theorem Fl.set {n : Nat} {fl : List Int} {g g' : Nat → Int} {j : Nat} {y : Int} (h : Fl n fl g) (hj : j < n) (e : ∀ i, i < n → i ≠ j → g' i = g i) (ey : y = g' j) : Fl n (fl.set j y) g' :=
  ⟨by rw [List.length_set]; exact h.len, fun i hi => by
    by_cases hij : i = j
    · subst hij; rw [List.getElem?_set_self (by rw [h.len]; exact hj), ey]
    · rw [List.getElem?_set_ne (Ne.symm hij), h.at_ i hi, e i hi hij]⟩
theorem Fl.ext {n : Nat} {fl fl' : List Int} {g : Nat → Int} (h : Fl n fl g) (h' : Fl n fl' g) : fl = fl' := by
  apply List.ext_getElem?
  intro i
  by_cases hi : i < n
  · rw [h.at_ i hi, h'.at_ i hi]
  · rw [List.getElem?_eq_none (by rw [h.len]; omega), List.getElem?_eq_none (by rw [h'.len]; omega)]
theorem Fl.getD {n : Nat} {fl : List Int} {g : Nat → Int} (h : Fl n fl g) {i : Nat} (hi : i < n) : fl.getD i 0 = g i := by
  rw [List.getD_eq_getElem?_getD, h.at_ i hi]; rfl
theorem Fl.map (n : Nat) (g : Nat → Int) : Fl n ((List.range n).map g) g := ⟨by simp, fun i hi => by rw [List.getElem?_map, List.getElem?_range hi]; rfl⟩
theorem Fl.rep (n : Nat) (x : Int) : Fl n (List.replicate n x) fun _ => x := ⟨by simp, fun i hi => by rw [List.getElem?_replicate, if_pos hi]⟩
def kap (r : List Int) (i : Nat) : Int := (i : Int) - 64 * ((walk r (i : Int)).length : Int)
structure Tops (r : List Int) (p : List Nat) : Prop where
  perm : p.Perm (List.range r.length)
  ord : p.Pairwise fun i j => kap r i < kap r j
theorem Tops.len {r : List Int} {p : List Nat} (h : Tops r p) : p.length = r.length := by rw [h.perm.length_eq, List.length_range]
theorem Tops.lt {r : List Int} {p : List Nat} (h : Tops r p) {j : Nat} (hj : j ∈ p) : j < r.length := List.mem_range.mp (h.perm.mem_iff.mp hj)
theorem Tops.first {r : List Int} {p p1 p2 : List Nat} {j k : Nat} (h : Tops r p) (hR : River r) (h64 : r.length < 64) (e : p = p1 ++ j :: p2) (hk : k < r.length) (hn : nxt r (k : Int) = (j : Int)) : k ∈ p1 := by
  have hjm : j ∈ p := by rw [e]; simp
  have hj := h.lt hjm
  have hkm : k ∈ p := h.perm.mem_iff.mpr (List.mem_range.mpr hk)
  have hw : (walk r (k : Int)).length = (walk r (j : Int)).length + 1 := by rw [walk_cons hR (p := (k : Int)) (by omega) (by omega), hn, List.length_cons]
  have hlt : kap r k < kap r j := by unfold kap; omega
  rw [e] at hkm
  rcases List.mem_append.mp hkm with z | z
  · exact z
  · have ord := h.ord
    rw [e, List.pairwise_append] at ord
    rcases List.mem_cons.mp z with z | z
    · subst z; omega
    · have := (List.pairwise_cons.mp ord.2.1).1 k z
      omega
def nats (r s : List Int) : List Int := (List.range r.length).map fun (i : Nat) => natf r s (i : Int)
theorem nats_fl (r s : List Int) : Fl r.length (nats r s) fun i => natf r s (i : Int) := Fl.map _ _
def NatI (r s : List Int) (p : List Nat) (t : Nat) (fl : List Int) : Prop := Fl r.length fl fun i => s.getD i 0 + lsum (p.take t) fun k => if nxt r (k : Int) = (i : Int) then natf r s (k : Int) else 0
theorem NatI.start (r s : List Int) (p : List Nat) (hs : s.length = r.length) : NatI r s p 0 s := by
  have := Fl.of s
  rw [hs] at this
  exact this.cong fun i _ => by rw [List.take_zero]; show _ = _ + 0; omega
theorem take_cons {p : List Nat} {t j : Nat} (h : p[t]? = some j) : p.take (t + 1) = p.take t ++ [j] := by rw [List.take_add_one, h]; rfl
theorem NatI.here {r s : List Int} {p : List Nat} {t j : Nat} {fl : List Int} (T : Tops r p) (hR : River r) (h64 : r.length < 64) (h : NatI r s p t fl) (hj : p[t]? = some j) : fl[j]? = some (natf r s (j : Int)) := by
  have hjl := T.lt (List.mem_of_getElem? hj)
  rw [h.at_ j hjl, natf_rec hR s hjl]
  congr 2
  rw [← lsum_range, ← lsum_perm T.perm]
  obtain ⟨ht, et⟩ := List.getElem?_eq_some_iff.mp hj
  have e : p = p.take t ++ j :: p.drop (t + 1) := by
    rw [← et, List.getElem_cons_drop, List.take_append_drop]
  conv => rhs; rw [e]
  rw [lsum_app]
  have z : lsum (j :: p.drop (t + 1)) (fun k => if nxt r (k : Int) = (j : Int) then natf r s (k : Int) else 0) = 0 := by
    refine lsum_zero fun k hk => if_neg fun hn => ?_
    have hkp : k ∈ p := by rw [e]; exact List.mem_append_right _ hk
    have h1 := T.first hR h64 e (T.lt hkp) hn
    have nd : p.Nodup := T.perm.nodup_iff.mpr List.nodup_range
    rw [e, List.nodup_append] at nd
    exact nd.2.2 k h1 k hk rfl
  rw [z]; omega
theorem NatI.mouth {r s : List Int} {p : List Nat} {t j : Nat} {fl : List Int} (h : NatI r s p t fl) (hj : p[t]? = some j) (hm : nxt r (j : Int) = -1) : NatI r s p (t + 1) fl :=
  Fl.cong h fun i _ => by
    rw [take_cons hj, lsum_app]
    show _ = _ + (_ + ((if nxt r (j : Int) = (i : Int) then natf r s (j : Int) else 0) + 0))
    rw [if_neg (by omega)]; omega
theorem NatI.turn {r s : List Int} {p : List Nat} {t j b : Nat} {fl : List Int} (T : Tops r p) (hR : River r) (h64 : r.length < 64) (h : NatI r s p t fl) (hj : p[t]? = some j) (hb : nxt r (j : Int) = (b : Int)) (hbl : b < r.length) {x : Int} (hx : fl[b]? = some x) :
    NatI r s p (t + 1) (fl.set b (x + natf r s (j : Int))) := by
  refine Fl.set h hbl (fun i _ hib => ?_) ?_
  · rw [take_cons hj, lsum_app]
    show _ + (_ + ((if nxt r (j : Int) = (i : Int) then natf r s (j : Int) else 0) + 0)) = _
    rw [if_neg (by omega)]; omega
  · rw [h.at_ b hbl] at hx
    rw [← Option.some.inj hx, take_cons hj, lsum_app]
    show _ = _ + (_ + ((if nxt r (j : Int) = (b : Int) then natf r s (j : Int) else 0) + 0))
    rw [if_pos hb]; omega
theorem NatI.done {r s : List Int} {p : List Nat} {fl : List Int} (T : Tops r p) (hR : River r) (h : NatI r s p r.length fl) : fl = nats r s := by
  refine Fl.ext (g := fun i => natf r s (i : Int)) (Fl.cong h fun i hi => ?_) (nats_fl r s)
  rw [← T.len, List.take_length, natf_rec hR s hi, ← lsum_range, lsum_perm T.perm]
abbrev Mv := Int × Int × Int
def msum (r : List Int) (ms : List Mv) (i : Int) : Int := (ms.map fun m => if i ∈ strch r m.1 m.2.1 then m.2.2 else 0).sum
def flws (r s : List Int) (ms : List Mv) : List Int := (List.range r.length).map fun (i : Nat) => natf r s (i : Int) - msum r ms (i : Int)
theorem flws_fl (r s : List Int) (ms : List Mv) : Fl r.length (flws r s ms) fun i => natf r s (i : Int) - msum r ms (i : Int) := Fl.map _ _
def MvI (r : List Int) (g : Nat → Int) (am : Int) (pre : List Int) (fl : List Int) : Prop := Fl r.length fl fun i => g i - if (i : Int) ∈ pre then am else 0
theorem MvI.start {r : List Int} {g : Nat → Int} {fl : List Int} (am : Int) (h : Fl r.length fl g) : MvI r g am [] fl := Fl.cong h fun i _ => by rw [if_neg (by simp)]; omega
theorem MvI.turn {r : List Int} {g : Nat → Int} {am : Int} {pre : List Int} {fl : List Int} (h : MvI r g am pre fl) {j : Nat} (hj : j < r.length) (hn : ¬ (j : Int) ∈ pre) {x : Int} (hx : fl[j]? = some x) : MvI r g am (pre ++ [(j : Int)]) (fl.set j (x - am)) := by
  refine Fl.set h hj (fun i _ hij => ?_) ?_
  · have : ((i : Int) ∈ pre ++ [(j : Int)]) = ((i : Int) ∈ pre) := by
      apply propext; simp; omega
    simp only [this]
  · rw [h.at_ j hj, if_neg hn] at hx
    rw [← Option.some.inj hx, if_pos (by simp)]; omega
end Rv
namespace Rv
end Rv
namespace Rv
end Rv
namespace Rv
theorem tot_sum : ∀ (s : List Int), (tot s.length fun i => s.getD i 0) = s.sum := by
  intro s
  have key : ∀ (n : Nat), n ≤ s.length → (tot n fun i => s.getD i 0) = (s.take n).sum := by
    intro n
    induction n with
    | zero => intro _; rfl
    | succ n ih =>
      intro h
      show tot n _ + s.getD n 0 = _
      rw [ih (by omega), List.take_add_one, List.sum_append, List.getD_eq_getElem?_getD, List.getElem?_eq_getElem (by omega)]
      simp
  rw [key s.length (Nat.le_refl _), List.take_length]
end Rv
namespace Rv
def wsum (r s : List Int) (t : Nat) (i : Nat) : Int := tot t fun j => if (i : Int) ∈ walk r (j : Int) then s.getD j 0 else 0
theorem wsum_all (r s : List Int) (i : Nat) : wsum r s r.length i = natf r s (i : Int) := rfl
theorem wsum_turn {r s : List Int} {t : Nat} {fl : List Int} (h : MvI r (wsum r s t) (-(s.getD t 0)) (walk r (t : Int)) fl) : Fl r.length fl (wsum r s (t + 1)) :=
  Fl.cong h fun i _ => by
    show wsum r s t i - (if (i : Int) ∈ walk r (t : Int) then -(s.getD t 0) else 0) = wsum r s t i + if (i : Int) ∈ walk r (t : Int) then s.getD t 0 else 0
    split <;> omega
end Rv
namespace Rv
end Rv
namespace Tn
def sumN : Nat → (Nat → Int) → Int
  | 0, _ => 0
  | n + 1, f => sumN n f + f n
theorem sumN_congr {f g : Nat → Int} : ∀ {n : Nat}, (∀ k, k < n → f k = g k) → sumN n f = sumN n g
  | 0, _ => rfl
  | n + 1, h => by
    show sumN n f + f n = sumN n g + g n
    rw [sumN_congr fun k hk => h k (by omega), h n (by omega)]
def hold (n : Nat) (W : Nat → List Int) (x : Nat → Int) (r : Int) : Int := sumN n fun k => if r ∈ W k then x k else 0
def Ahead (d n i d' m j : Int) : Prop := d < d' ∨ d = d' ∧ (n < m ∨ n = m ∧ i < j)
end Tn
namespace Tn
end Tn
namespace Tn
def bump (xs w : List Int) (c : Int) : List Int := w.foldl (fun xs r => xs.set r.toNat (xs.getD r.toNat 0 + c)) xs
theorem bump_nil (xs : List Int) (c : Int) : bump xs [] c = xs := rfl
theorem bump_cons (xs w : List Int) (r c : Int) : bump xs (r :: w) c = bump (xs.set r.toNat (xs.getD r.toNat 0 + c)) w c := rfl
theorem bump_snoc (xs w : List Int) (r c : Int) : bump xs (w ++ [r]) c = (bump xs w c).set r.toNat ((bump xs w c).getD r.toNat 0 + c) := by
  unfold bump; rw [List.foldl_append]; rfl
theorem bump_len : ∀ (w xs : List Int) (c : Int), (bump xs w c).length = xs.length
  | [], _, _ => rfl
  | r :: w, xs, c => by rw [bump_cons, bump_len w, List.length_set]
theorem getD_set {xs : List Int} {i k : Nat} {v : Int} (hi : i < xs.length) : (xs.set i v).getD k 0 = if k = i then v else xs.getD k 0 := by
  rw [List.getD_eq_getElem?_getD, List.getElem?_set, List.getD_eq_getElem?_getD]
  by_cases h : i = k
  · subst h; simp [hi]
  · have h' : ¬ k = i := fun e => h e.symm
    simp [h, h']
theorem bump_get : ∀ {w xs : List Int} {c : Int}, w.Nodup → (∀ r ∈ w, 0 ≤ r ∧ r < xs.length) → ∀ k : Nat, (bump xs w c).getD k 0 = xs.getD k 0 + (if (k : Int) ∈ w then c else 0)
  | [], xs, c, _, _, k => by simp [bump_nil]
  | r :: w, xs, c, hw, hin, k => by
    rw [List.nodup_cons] at hw
    obtain ⟨r0, r1⟩ := hin r List.mem_cons_self
    have hl : r.toNat < xs.length := by omega
    rw [bump_cons, bump_get hw.2 (fun q hq => by rw [List.length_set]; exact hin q (List.mem_cons_of_mem _ hq)) k, getD_set hl]
    by_cases e : k = r.toNat
    · have ek : (k : Int) = r := by omega
      have hn : ¬ (k : Int) ∈ w := by rw [ek]; exact hw.1
      rw [if_pos e, if_neg hn, if_pos (by rw [ek]; exact List.mem_cons_self), e]; omega
    · have ek : ¬ (k : Int) = r := by omega
      rw [if_neg e]
      by_cases h : (k : Int) ∈ w
      · rw [if_pos h, if_pos (List.mem_cons_of_mem _ h)]
      · rw [if_neg h, if_neg (fun z => by rcases List.mem_cons.mp z with q | q; exact ek q; exact h q)]
def bumps (xs : List Int) (ps : List (List Int × Int)) : List Int := ps.foldl (fun xs p => bump xs p.1 p.2) xs
theorem bumps_nil (xs : List Int) : bumps xs [] = xs := rfl
theorem bumps_cons (xs : List Int) (p : List Int × Int) (ps : List (List Int × Int)) : bumps xs (p :: ps) = bumps (bump xs p.1 p.2) ps := rfl
theorem bumps_snoc (xs : List Int) (ps : List (List Int × Int)) (p : List Int × Int) : bumps xs (ps ++ [p]) = bump (bumps xs ps) p.1 p.2 := by
  unfold bumps; rw [List.foldl_append]; rfl
theorem bumps_len : ∀ (ps : List (List Int × Int)) (xs : List Int), (bumps xs ps).length = xs.length
  | [], _ => rfl
  | p :: ps, xs => by rw [bumps_cons, bumps_len ps, bump_len]
def WOk (n : Nat) (w : List Int) : Prop := w.Nodup ∧ ∀ r ∈ w, 0 ≤ r ∧ r < (n : Int)
theorem bumps_get : ∀ {ps : List (List Int × Int)} {xs : List Int}, (∀ p ∈ ps, WOk xs.length p.1) → ∀ k : Nat, (bumps xs ps).getD k 0 = xs.getD k 0 + (ps.map fun p => if (k : Int) ∈ p.1 then p.2 else 0).sum
  | [], xs, _, k => by simp [bumps_nil]
  | p :: ps, xs, h, k => by
    have hp := h p List.mem_cons_self
    rw [bumps_cons, bumps_get (fun q hq => by rw [bump_len]; exact h q (List.mem_cons_of_mem _ hq)) k, bump_get hp.1 hp.2 k, List.map_cons, List.sum_cons]
    omega
end Tn
namespace Tn
end Tn
namespace Tn
end Tn
namespace Tn
end Tn
namespace Tn
end Tn
namespace Tn
def fW (ws : List (List Int)) : Nat → List Int := fun k => ws.getD k []
def fX (xs : List Int) : Nat → Int := fun k => xs.getD k 0
def fF (fs : List Int) : Int → Int := fun r => fs.getD r.toNat 0
def asI (gs : List Nat) : List Int := gs.map fun k : Nat => (k : Int)
end Tn
namespace Tn
end Tn
namespace Tn
theorem ints_some {gs : List Nat} {i : Nat} {z : Int} (h : (asI gs)[i]? = some z) : ∃ k : Nat, gs[i]? = some k ∧ z = (k : Int) := by
  unfold asI at h
  rw [List.getElem?_map] at h
  cases e : gs[i]? with
  | none => rw [e] at h; cases h
  | some k => rw [e] at h; exact ⟨k, rfl, (Option.some.inj h).symm⟩
theorem ints_len (gs : List Nat) : (asI gs).length = gs.length := by unfold asI; rw [List.length_map]
theorem take_next {α : Type} {gs : List α} {i : Nat} {k : α} (h : gs[i]? = some k) : gs.take (i + 1) = gs.take i ++ [k] := by
  rw [List.take_add_one, h]; rfl
end Tn
namespace Tn
end Tn
namespace Tn
end Tn
namespace Tn
end Tn
namespace Tn
end Tn
namespace Rv
theorem strch_ok {r : List Int} (h : River r) {p b : Int} (h0 : 0 ≤ p) (h1 : p < r.length) : Tn.WOk r.length (strch r p b) := ⟨strch_nd h h0 h1, fun q hq => walk_mem h p h0 h1 q (strch_sub hq)⟩
end Rv
namespace Rv
def spot (n x s : Int) (k : Nat) : Int := (x + s * (k : Int)) % n
theorem emod_inj {n a b : Int} (hn : 0 < n) (h : a % n = b % n) (h1 : a - b < n) (h2 : b - a < n) : a = b := by
  have ea := Int.emod_add_mul_ediv a n
  have eb := Int.emod_add_mul_ediv b n
  have e : a - b = n * (a / n - b / n) := by rw [Int.mul_sub]; omega
  generalize a / n - b / n = q at e
  by_cases h0 : q = 0
  · rw [h0, Int.mul_zero] at e; omega
  · by_cases hp : 1 ≤ q
    · have := Int.mul_le_mul_of_nonneg_left hp (Int.le_of_lt hn)
      rw [Int.mul_one] at this; omega
    · have : q ≤ -1 := by omega
      have := Int.mul_le_mul_of_nonneg_left this (Int.le_of_lt hn)
      rw [Int.mul_neg, Int.mul_one] at this; omega
theorem spot_inj {n x s : Int} (hn : 0 < n) (hs : s = 1 ∨ s = n - 1) {j k : Nat} (hj : (j : Int) < n) (hk : (k : Int) < n) (h : spot n x s j = spot n x s k) : j = k := by
  unfold spot at h
  rcases hs with rfl | rfl
  · rw [Int.one_mul, Int.one_mul] at h
    have := emod_inj hn h (by omega) (by omega)
    omega
  · have e : ∀ m : Nat, (x + (n - 1) * (m : Int)) % n = (x - (m : Int)) % n := fun m => by
      have : x + (n - 1) * (m : Int) = (x - (m : Int)) + n * (m : Int) := by rw [Int.sub_mul]; omega
      rw [this, Int.add_mul_emod_self_left]
    rw [e j, e k] at h
    have := emod_inj hn h (by omega) (by omega)
    omega
theorem spot_nn {n x s : Int} (hn : 0 < n) (k : Nat) : 0 ≤ spot n x s k := Int.emod_nonneg _ (by omega)
theorem spot_lt {n x s : Int} (hn : 0 < n) (k : Nat) : spot n x s k < n := Int.emod_lt_of_pos _ hn
def spots (n x s : Int) (m : Nat) : List Int := (List.range m).map (spot n x s)
theorem spots_len (n x s : Int) (m : Nat) : (spots n x s m).length = m := by simp [spots]
theorem spots_succ (n x s : Int) (m : Nat) : spots n x s (m + 1) = spots n x s m ++ [spot n x s m] := by
  unfold spots; rw [List.range_succ, List.map_append]; rfl
theorem spots_at {n x s : Int} {m k : Nat} (h : k < m) : (spots n x s m)[k]? = some (spot n x s k) := by
  unfold spots; rw [List.getElem?_map, List.getElem?_range h]; rfl
structure Lnk (n : Nat) (sp : Nat → Int) (k : Nat) (b : List Int) : Prop where
  len : b.length = n
  at_ : ∀ (i : Nat) (x : Int), b[i]? = some x → x = -1 ∨ ∃ j m, j < m ∧ m < k ∧ m < n ∧ sp m = (i : Int) ∧ x = sp j
theorem Lnk.start (n : Nat) (sp : Nat → Int) : Lnk n sp 1 (List.replicate n (-1)) :=
  ⟨by simp, fun i x h => .inl (by
    rw [List.getElem?_replicate] at h
    split at h
    · exact (Option.some.inj h).symm
    · cases h)⟩
theorem Lnk.skip {n : Nat} {sp : Nat → Int} {k : Nat} {b : List Int} (h : Lnk n sp k b) : Lnk n sp (k + 1) b :=
  ⟨h.len, fun i x hx => (h.at_ i x hx).imp id fun ⟨j, m, h1, h2, h3⟩ => ⟨j, m, h1, by omega, h3⟩⟩
theorem Lnk.turn {n : Nat} {sp : Nat → Int} {k j : Nat} {b : List Int} (h : Lnk n sp k b) (hk : k < n) (hj : j < k) (h0 : 0 ≤ sp k) : Lnk n sp (k + 1) (b.set (sp k).toNat (sp j)) := by
  refine ⟨by rw [List.length_set]; exact h.len, fun i x hx => ?_⟩
  rw [List.getElem?_set] at hx
  split at hx
  · rename_i e
    split at hx
    · exact .inr ⟨j, k, hj, by omega, hk, by omega, (Option.some.inj hx).symm⟩
    · cases hx
  · exact h.skip.at_ i x hx
theorem Lnk.river {n : Nat} {sp : Nat → Int} {k : Nat} {b : List Int} (h : Lnk n sp k b) (h0 : ∀ k, 0 ≤ sp k) (h1 : ∀ k, sp k < n) (inj : ∀ j k, j < n → k < n → sp j = sp k → j = k) (hn : 0 < n) : River b := by
  classical
  let rk : Nat → Nat := fun i => if h : ∃ k, k < n ∧ sp k = (i : Int) then h.choose else 0
  have rk_at : ∀ k, k < n → rk (sp k).toNat = k := fun k hk => by
    have hex : ∃ m, m < n ∧ sp m = ((sp k).toNat : Int) := ⟨k, hk, by have := h0 k; omega⟩
    show (if h : ∃ m, m < n ∧ sp m = ((sp k).toNat : Int) then h.choose else 0) = k
    rw [dif_pos hex]
    obtain ⟨a1, a2⟩ := hex.choose_spec
    exact inj _ _ a1 hk (by have := h0 k; omega)
  refine ⟨rk, fun i _ => ?_, fun i x hx => ?_⟩
  · rw [h.len]
    show (if h : ∃ k, k < n ∧ sp k = (i : Int) then h.choose else 0) < n
    split
    · rename_i hex; exact hex.choose_spec.1
    · exact hn
  · rcases h.at_ i x hx with e | ⟨j, m, hjm, _, hm, e, rfl⟩
    · exact .inl e
    · refine .inr ⟨h0 j, by rw [h.len]; exact h1 j, ?_⟩
      have ei : i = (sp m).toNat := by have := h0 m; omega
      rw [ei, rk_at m hm, rk_at j (by omega)]
      exact hjm
end Rv
namespace Tn
end Tn
namespace Rv
theorem tot_sumN (f : Nat → Int) : ∀ n, tot n f = Tn.sumN n f
  | 0 => rfl
  | n + 1 => by show tot n f + f n = Tn.sumN n f + f n; rw [tot_sumN f n]
theorem fF_nats {r s : List Int} {t : Int} (h0 : 0 ≤ t) (h1 : t < r.length) : Tn.fF (nats r s) t = natf r s t := by
  unfold Tn.fF nats
  rw [List.getD_eq_getElem?_getD, List.getElem?_map, List.getElem?_range (by omega)]
  show natf r s (t.toNat : Int) = _
  rw [Int.toNat_of_nonneg h0]
end Rv
namespace Tn
end Tn
namespace Tn
end Tn
namespace Rv
end Rv
namespace Tn
end Tn
namespace Rv
end Rv
namespace Tn
end Tn
namespace My
open PySem L2
local macro_rules | `(tactic| walk_at "new") => `(tactic| (generalize hE : upd _ _ _ = Hn; have On := Ow.mkE (by assumption) (by assumption) hE rfl; clear hE; revert On; revert Hn))
local macro_rules | `(tactic| walk_at "put") => `(tactic| (generalize hE : upd _ _ _ = Hn; (first | have On := Ow.putE (by assumption) 0 rfl hE rfl | have On := Ow.putE (by assumption) 1 rfl hE rfl | have On := Ow.putE (by assumption) 2 rfl hE rfl | have On := Ow.putE (by assumption) 3 rfl hE rfl | have On := Ow.putE (by assumption) 4 rfl hE rfl | have On := Ow.putE (by assumption) 5 rfl hE rfl); clear hE; (try simp only [List.set_cons_zero, List.set_cons_succ] at On); revert On; revert Hn))
set_option hygiene false
local macro_rules | `(tactic| walk_at "get") => `(tactic| first | assumption | exact O.get 0 | exact O.get 1 | exact O.get 2 | exact O.get 3 | exact O.get 4 | exact O.get 5 | exact O.get 6 | exact O.get 7 | exact O.get 8 | exact O.get 9 | exact O.get 10 | exact O.get 11 | exact O.get 12 | fail)
local macro_rules | `(tactic| walk_at "sq") => `(tactic| first | assumption | exact O.sq 0 | exact O.sq 1 | exact O.sq 2 | exact O.sq 3 | exact O.sq 4 | exact O.sq 5 | exact O.sq 6 | exact O.sq 7 | exact O.sq 8 | exact O.sq 9 | exact O.sq 10 | exact O.sq 11 | exact O.sq 12 | exact SqL.mo (by assumption) O.same | exact SqL.mo (by assumption) (s0.trans O.same) | fail)
local macro_rules | `(tactic| walk_at "sqT") => `(tactic| first | assumption | exact O.sqT 0 | exact O.sqT 1 | exact O.sqT 2 | exact O.sqT 3 | exact O.sqT 4 | exact O.sqT 5 | exact O.sqT 6 | exact O.sqT 7 | exact SqT.mo (by assumption) O.same | exact SqT.mo (by assumption) (s0.trans O.same) | fail)
local macro_rules | `(tactic| walk_at "at") => `(tactic| first | rfl | exact ints_at (by assumption) | exact atI_nat (by assumption) | exact ints_atZ (by omega) (by omega) | exact lastV _ _ | exact ints_last (by omega) | exact ints_atZ (ns := [_, _]) (by omega) (by simp only [List.length_cons, List.length_nil]; omega) | exact ints_atZ (ns := [_, _, _]) (by omega) (by simp only [List.length_cons, List.length_nil]; omega) | exact ints_atZ (ns := [_, _, _, _]) (by omega) (by simp only [List.length_cons, List.length_nil]; omega) | exact ints_atZ (ns := [_, _, _, _, _]) (by omega) (by simp only [List.length_cons, List.length_nil]; omega) | exact ints_atZ (ns := [_, _, _, _, _, _]) (by omega) (by simp only [List.length_cons, List.length_nil]; omega) | exact ints_atZ (ns := [_, _, _, _, _, _, _]) (by omega) (by simp only [List.length_cons, List.length_nil]; omega) | exact ints_atZ (ns := [_, _, _, _, _, _, _, _]) (by omega) (by simp only [List.length_cons, List.length_nil]; omega) | fail)
local macro_rules | `(tactic| walk_at "c") => `(tactic| first | omega | (simp only [List.length_map]; omega) | exact szl | (show (0 : Int) < _; decide) | (show (0 : Int) < _; omega) | exact ⟨by decide, by decide⟩ | exact .inl ⟨by decide, by decide⟩ | exact .inr ⟨by decide, by decide⟩ | exact ⟨by decide, by decide, by decide⟩ | exact .inl ⟨by omega, by omega⟩ | exact .inr ⟨by omega, by omega⟩ | exact ⟨by omega, by omega⟩ | (split <;> omega) | fail)
local macro_rules | `(tactic| walk_at "ty") => `(tactic| first | exact .int _ | exact .bl _ | exact .lst (by walk_at "get") | exact .tup (by walk_at "get") | exact .non | fail)
local macro_rules | `(tactic| walk_at "kit") => `(tactic| first | exact kit_ii K | exact kit_ib K | exact kit_ll K | exact kit_bb K | exact kit_bi K | exact kit_tt K | fail)
local macro_rules | `(tactic| walk_at "sz") => `(tactic| exact small100' (by (try simp only [List.length_map, List.length_append, List.length_cons, List.length_nil]); omega))
local macro_rules | `(tactic| walk_at "s") => `(tactic| first | refine yes2 ?_ | refine ⟨_, rfl, ?_⟩ | refine ⟨_, _, rfl, rfl, ?_⟩ | refine And.intro rfl ?_ | refine And.intro (by walk_at "c") ?_ | refine ⟨_, _, _, _, rfl, rfl, (show SqL _ _ _ _ by walk_at "sq"), (show atI _ _ = some _ by walk_at "at"), ?_⟩ | refine ⟨_, _, _, _, rfl, rfl, (show SqT _ _ _ _ by walk_at "sqT"), (show atI _ _ = some _ by walk_at "at"), ?_⟩ | refine ⟨_, _, rfl, .inl (show SqL _ _ _ _ by walk_at "sq"), ?_⟩ | refine ⟨_, _, rfl, .inr (show SqT _ _ _ _ by walk_at "sqT"), ?_⟩ | refine ⟨_, _, rfl, (show SqL _ _ _ _ by walk_at "sq"), ?_⟩ | refine And.intro ⟨_, (show SqL _ _ _ _ by walk_at "sq")⟩ ?_ | refine And.intro (.inl ⟨rfl, _, (show SqL _ _ _ _ by walk_at "sq")⟩) ?_ | refine ⟨_, _, _, _, rfl, (show TyOf _ _ _ _ by walk_at "ty"), (show PySem.W.kitOne _ _ _ = some _ by walk_at "kit"), ?_⟩ | refine ⟨_, _, rfl, ?_⟩ | fail)
local macro_rules | `(tactic| walk_at "w") => `(tactic| repeat walk_at "s")
local macro_rules | `(tactic| walk_at "if") => `(tactic| first | refine iteT ?_ | refine iteF ?_ | refine ifN ?_ | refine ifI (fun hc => ?_) (fun hc => ?_) | refine ifD (fun hc => ?_) (fun hc => ?_) | refine ifB (fun hc => ?_) (fun hc => ?_) | fail)
local macro_rules | `(tactic| walk_at "go") => `(tactic| repeat' (first | walk_at "if" | walk_at "s" | fail))
local macro_rules | `(tactic| walk_at "nw") => `(tactic| (generalize hE : upd _ _ _ = Hn; replace O := Ow.mkE O (by assumption) hE rfl; clear hE))
local macro_rules | `(tactic| walk_at "pt") => `(tactic| (generalize hE : upd _ _ _ = Hn; (first | replace O := Ow.putE O 0 rfl hE rfl | replace O := Ow.putE O 1 rfl hE rfl | replace O := Ow.putE O 2 rfl hE rfl | replace O := Ow.putE O 3 rfl hE rfl | replace O := Ow.putE O 4 rfl hE rfl | replace O := Ow.putE O 5 rfl hE rfl | replace O := Ow.putE O 6 rfl hE rfl | replace O := Ow.putE O 7 rfl hE rfl); clear hE; (try simp only [List.set_cons_zero, List.set_cons_succ] at O)))
local macro_rules | `(tactic| walk_at "app") => `(tactic| (refine ⟨_, _, _, rfl, rfl, (by walk_at "get"), (by walk_at "sz"), ?_⟩; walk_at "pt"))
local macro_rules | `(tactic| walk_at "elt") => `(tactic| (refine ⟨_, (by walk_at "get"), (by walk_at "sz"), ?_⟩; walk_at "pt"))
local macro_rules | `(tactic| walk_at "frz") => `(tactic| (obtain ⟨Hn, On, sn, en⟩ := O.frz; clear O; have O := On; clear On; (try replace s0 := s0.mo sn); (try replace d0 := d0.mo sn); (try replace d1 := d1.mo sn); (try replace d2 := d2.mo sn); (try replace d3 := d3.mo sn); (try replace d4 := d4.mo sn); (try replace d5 := d5.mo sn); (try replace d6 := d6.mo sn); (try replace d7 := d7.mo sn)))
local macro_rules | `(tactic| walk_at "mo") => `(tactic| ((try simp only [List.eraseIdx_cons_zero, List.eraseIdx_cons_succ] at O); (try replace s0 := s0.mo sn); (try replace d0 := d0.mo sn); (try replace d1 := d1.mo sn); (try replace d2 := d2.mo sn); (try replace d3 := d3.mo sn); (try replace d4 := d4.mo sn); (try replace d5 := d5.mo sn); (try replace d6 := d6.mo sn); (try replace d7 := d7.mo sn)))
local macro_rules | `(tactic| walk_at "er") => `(tactic| simp only [List.eraseIdx_cons_zero, List.eraseIdx_cons_succ] at O)
local macro_rules | `(tactic| walk_at "jn") => `(tactic| simp only [List.cons_append, List.nil_append] at O)
def top (i : Nat) : Stmt := PySem.Challenge.pw_sluice_k28_no_paper.main.body.getD i (.Pass ⟨0, 0, 0, 0⟩)
abbrev s__law_cell_at : Stmt := top 43
theorem sc__law_cell_at : FnScope ["script", "k"] ["script", "k"] (defScope s__law_cell_at) := ⟨rfl, rfl, rfl, by decide +kernel, rfl, by decide +kernel, by decide +kernel⟩
def sp_cell (K : PySem.W.Frag) : Sp := fun vs H Q _ => ∃ (a : Addr) (ns : List Int) (k : Nat), vs = [.ref a, .int (k : Int)] ∧ SqL K H a (ns.map V.int) ∧ Q (.int (ns.getD k 0)) H
theorem sl_1 {a1 : TT} {a2 : TS} {a4 : TS} {a5 : TS} {D : Ends} {σ : St} {H : Hp} (h : let z3 : TS := a2; let z6 : TS := a5; (tSeq (tIfS a1 z3 a4) z6) D σ H) : (tSeq (tIfS a1 a2 a4) a5) D σ H := h
theorem sl_2 {a1 : TS} {a2 : TS} {a3 : TS} {D : Ends} {σ : St} {H : Hp} (h : let z4 : TS := a3; let z5 : TS := tSeq a2 z4; (tSeq a1 z5) D σ H) : (tSeq a1 (tSeq a2 a3)) D σ H := h
theorem sl_3 {a1 : TS} {a2 : TT} {a3 : TS} {a5 : TS} {D : Ends} {σ : St} {H : Hp} (h : let z4 : TS := a3; let z6 : TS := a5; let z7 : TS := tSeq (tWhile a2 z4) z6; (tSeq a1 z7) D σ H) : (tSeq a1 (tSeq (tWhile a2 a3) a5)) D σ H := h
theorem sl_4 {a1 : TS} {a2 : TI} {a3 : TG} {a4 : TT} {a5 : TS} {a7 : TS} {a9 : TS} {D : Ends} {σ : St} {H : Hp} (h : let z6 : TS := a5; let z8 : TS := tIfS a4 z6 a7; let z10 : TS := a9; let z11 : TS := tSeq (tFor a2 a3 z8) z10; (tSeq a1 z11) D σ H) : (tSeq a1 (tSeq (tFor a2 a3 (tIfS a4 a5 a7)) a9)) D σ H := h
theorem sl_5 {a1 : TS} {a2 : TT} {a3 : TS} {a5 : TS} {a6 : TT} {a7 : TS} {a9 : TS} {a10 : TS} {D : Ends} {σ : St} {H : Hp} (h : let z4 : TS := a3; let z8 : TS := a7; let z11 : TS := a10; let z12 : TS := tSeq (tIfS a6 z8 a9) z11; let z13 : TS := tSeq (tIfS a2 z4 a5) z12; (tSeq a1 z13) D σ H) : (tSeq a1 (tSeq (tIfS a2 a3 a5) (tSeq (tIfS a6 a7 a9) a10))) D σ H := h
theorem sl_6 {a1 : TS} {a2 : TS} {D : Ends} {σ : St} {H : Hp} (h : let z3 : TS := a2; (tSeq a1 z3) D σ H) : (tSeq a1 a2) D σ H := h
theorem sl_7 {a1 : TS} {a2 : TS} {a3 : TS} {a4 : TS} {a5 : TS} {a6 : TI} {a7 : TG} {a8 : TS} {a9 : TT} {a10 : TS} {a12 : TS} {a15 : TS} {D : Ends} {σ : St} {H : Hp} (h : let z11 : TS := a10; let z13 : TS := tIfS a9 z11 a12; let z14 : TS := tSeq a8 z13; let z16 : TS := a15; let z17 : TS := tSeq (tFor a6 a7 z14) z16; let z18 : TS := tSeq a5 z17; let z19 : TS := tSeq a4 z18; let z20 : TS := tSeq a3 z19; let z21 : TS := tSeq a2 z20; (tSeq a1 z21) D σ H) : (tSeq a1 (tSeq a2 (tSeq a3 (tSeq a4 (tSeq a5 (tSeq (tFor a6 a7 (tSeq a8 (tIfS a9 a10 a12))) a15)))))) D σ H := h
theorem sl_8 {a1 : TS} {a2 : TT} {a3 : TS} {a4 : TS} {a7 : TS} {D : Ends} {σ : St} {H : Hp} (h : let z5 : TS := a4; let z6 : TS := tSeq a3 z5; let z8 : TS := a7; let z9 : TS := tSeq (tWhile a2 z6) z8; (tSeq a1 z9) D σ H) : (tSeq a1 (tSeq (tWhile a2 (tSeq a3 a4)) a7)) D σ H := h
theorem sl_9 {a1 : TS} {a2 : TT} {a3 : TS} {a5 : TS} {a6 : TS} {D : Ends} {σ : St} {H : Hp} (h : let z4 : TS := a3; let z7 : TS := a6; let z8 : TS := tSeq (tIfS a2 z4 a5) z7; (tSeq a1 z8) D σ H) : (tSeq a1 (tSeq (tIfS a2 a3 a5) a6)) D σ H := h
theorem sl_10 {a1 : TS} {a2 : TI} {a3 : TG} {a4 : TI} {a5 : TG} {a6 : TS} {a9 : TI} {a10 : TG} {a11 : TI} {a12 : TG} {a13 : TS} {a16 : TS} {D : Ends} {σ : St} {H : Hp} (h : let z7 : TS := a6; let z8 : TS := tFor a4 a5 z7; let z14 : TS := a13; let z15 : TS := tFor a11 a12 z14; let z17 : TS := a16; let z18 : TS := tSeq (tFor a9 a10 z15) z17; let z19 : TS := tSeq (tFor a2 a3 z8) z18; (tSeq a1 z19) D σ H) : (tSeq a1 (tSeq (tFor a2 a3 (tFor a4 a5 a6)) (tSeq (tFor a9 a10 (tFor a11 a12 a13)) a16))) D σ H := h
theorem sl_11 {a1 : TS} {a2 : TI} {a3 : TG} {a4 : TI} {a5 : TG} {a6 : TS} {a9 : TS} {D : Ends} {σ : St} {H : Hp} (h : let z7 : TS := a6; let z8 : TS := tFor a4 a5 z7; let z10 : TS := a9; let z11 : TS := tSeq (tFor a2 a3 z8) z10; (tSeq a1 z11) D σ H) : (tSeq a1 (tSeq (tFor a2 a3 (tFor a4 a5 a6)) a9)) D σ H := h
theorem sl_12 {a1 : TI} {a2 : TG} {a3 : TT} {a4 : TS} {a6 : TS} {a8 : TS} {D : Ends} {σ : St} {H : Hp} (h : let z5 : TS := a4; let z7 : TS := tIfS a3 z5 a6; let z9 : TS := a8; (tSeq (tFor a1 a2 z7) z9) D σ H) : (tSeq (tFor a1 a2 (tIfS a3 a4 a6)) a8) D σ H := h
theorem sl_13 {a1 : TS} {a2 : TI} {a3 : TG} {a4 : TS} {a6 : TI} {a7 : TG} {a8 : TT} {a9 : TS} {a11 : TT} {a12 : TS} {a14 : TT} {a15 : TS} {a17 : TS} {a21 : TS} {D : Ends} {σ : St} {H : Hp} (h : let z5 : TS := a4; let z10 : TS := a9; let z13 : TS := a12; let z16 : TS := a15; let z18 : TS := tIfS a14 z16 a17; let z19 : TS := tIfS a11 z13 z18; let z20 : TS := tIfS a8 z10 z19; let z22 : TS := a21; let z23 : TS := tSeq (tFor a6 a7 z20) z22; let z24 : TS := tSeq (tFor a2 a3 z5) z23; (tSeq a1 z24) D σ H) : (tSeq a1 (tSeq (tFor a2 a3 a4) (tSeq (tFor a6 a7 (tIfS a8 a9 (tIfS a11 a12 (tIfS a14 a15 a17)))) a21))) D σ H := h
theorem sl_14 {a1 : TS} {a2 : TS} {a3 : TS} {a4 : TT} {a5 : TS} {a7 : TS} {a8 : TS} {a9 : TS} {a10 : TS} {a11 : TS} {D : Ends} {σ : St} {H : Hp} (h : let z6 : TS := a5; let z12 : TS := a11; let z13 : TS := tSeq a10 z12; let z14 : TS := tSeq a9 z13; let z15 : TS := tSeq a8 z14; let z16 : TS := tSeqM (tIfS a4 z6 a7) z15; let z17 : TS := tSeq a3 z16; let z18 : TS := tSeq a2 z17; (tSeq a1 z18) D σ H) : (tSeq a1 (tSeq a2 (tSeq a3 (tSeqM (tIfS a4 a5 a7) (tSeq a8 (tSeq a9 (tSeq a10 a11))))))) D σ H := h
theorem sl_15 {a1 : TT} {a2 : TS} {a4 : TS} {a5 : TS} {a6 : TS} {a7 : TT} {a8 : TS} {a10 : TS} {a11 : TS} {D : Ends} {σ : St} {H : Hp} (h : let z3 : TS := a2; let z9 : TS := a8; let z12 : TS := a11; let z13 : TS := tSeq (tIfS a7 z9 a10) z12; let z14 : TS := tSeq a6 z13; let z15 : TS := tSeq a5 z14; (tSeq (tIfS a1 z3 a4) z15) D σ H) : (tSeq (tIfS a1 a2 a4) (tSeq a5 (tSeq a6 (tSeq (tIfS a7 a8 a10) a11)))) D σ H := h
theorem sl_16 {a1 : TI} {a2 : TG} {a3 : TS} {a4 : TI} {a5 : TG} {a6 : TT} {a7 : TT} {a8 : TS} {a10 : TS} {a11 : TT} {a12 : TS} {a14 : TS} {a17 : TS} {a19 : TT} {a20 : TS} {a22 : TS} {a26 : TS} {D : Ends} {σ : St} {H : Hp} (h : let z9 : TS := a8; let z13 : TS := a12; let z15 : TS := tIfS a11 z13 a14; let z16 : TS := tSeqM (tIfS a7 z9 a10) z15; let z18 : TS := tIfS a6 z16 a17; let z21 : TS := a20; let z23 : TS := tIfS a19 z21 a22; let z24 : TS := tSeq (tFor a4 a5 z18) z23; let z25 : TS := tSeq a3 z24; let z27 : TS := a26; (tSeq (tFor a1 a2 z25) z27) D σ H) : (tSeq (tFor a1 a2 (tSeq a3 (tSeq (tFor a4 a5 (tIfS a6 (tSeqM (tIfS a7 a8 a10) (tIfS a11 a12 a14)) a17)) (tIfS a19 a20 a22)))) a26) D σ H := h
theorem sl_17 {a1 : TT} {a2 : TS} {a4 : TS} {a5 : TT} {a6 : TS} {a8 : TS} {a9 : TT} {a10 : TS} {a12 : TS} {a13 : TS} {D : Ends} {σ : St} {H : Hp} (h : let z3 : TS := a2; let z7 : TS := a6; let z11 : TS := a10; let z14 : TS := a13; let z15 : TS := tSeq (tIfS a9 z11 a12) z14; let z16 : TS := tSeq (tIfS a5 z7 a8) z15; (tSeq (tIfS a1 z3 a4) z16) D σ H) : (tSeq (tIfS a1 a2 a4) (tSeq (tIfS a5 a6 a8) (tSeq (tIfS a9 a10 a12) a13))) D σ H := h
theorem sl_18 {a1 : TS} {a2 : TS} {a3 : TS} {a4 : TS} {a5 : TI} {a6 : TG} {a7 : TS} {a8 : TS} {a9 : TS} {a10 : TS} {a11 : TS} {a17 : TS} {a18 : TS} {a19 : TS} {a20 : TS} {a21 : TI} {a22 : TG} {a23 : TS} {a24 : TS} {a25 : TT} {a26 : TT} {a27 : TS} {a29 : TS} {a30 : TS} {a31 : TT} {a32 : TS} {a34 : TS} {a38 : TS} {a42 : TS} {D : Ends} {σ : St} {H : Hp} (h : let z12 : TS := a11; let z13 : TS := tSeq a10 z12; let z14 : TS := tSeq a9 z13; let z15 : TS := tSeq a8 z14; let z16 : TS := tSeq a7 z15; let z28 : TS := a27; let z33 : TS := a32; let z35 : TS := tIfS a31 z33 a34; let z36 : TS := tSeq a30 z35; let z37 : TS := tSeq (tIfS a26 z28 a29) z36; let z39 : TS := tIfS a25 z37 a38; let z40 : TS := tSeq a24 z39; let z41 : TS := tSeq a23 z40; let z43 : TS := a42; let z44 : TS := tSeq (tFor a21 a22 z41) z43; let z45 : TS := tSeq a20 z44; let z46 : TS := tSeq a19 z45; let z47 : TS := tSeq a18 z46; let z48 : TS := tSeq a17 z47; let z49 : TS := tSeq (tFor a5 a6 z16) z48; let z50 : TS := tSeq a4 z49; let z51 : TS := tSeq a3 z50; let z52 : TS := tSeq a2 z51; (tSeq a1 z52) D σ H) : (tSeq a1 (tSeq a2 (tSeq a3 (tSeq a4 (tSeq (tFor a5 a6 (tSeq a7 (tSeq a8 (tSeq a9 (tSeq a10 a11))))) (tSeq a17 (tSeq a18 (tSeq a19 (tSeq a20 (tSeq (tFor a21 a22 (tSeq a23 (tSeq a24 (tIfS a25 (tSeq (tIfS a26 a27 a29) (tSeq a30 (tIfS a31 a32 a34))) a38)))) a42)))))))))) D σ H := h
section
variable {P : Program} {w : World} {K : PySem.W.Frag} {mg : Str → Option Value} {base : Heap}
theorem ok_cell {f : Addr} {fd : FuncData} (D : Df K mg "_law_cell_at" s__law_cell_at ["script", "k"] f fd) (B : Blt mg) : FnOk P w K mg base CX0 1 f fd ["script", "k"] (sp_cell K) := by
  refine D.F.ok sc__law_cell_at (fun vs H Q E h => ?_) (fun cdv A outer s H vs Q E hr h => ?_)
  · obtain ⟨a, ns, k, rfl, _⟩ := h; rfl
  · obtain ⟨a, ns, k, rfl, hS, q⟩ := h
    refine ⟨_, (pss_cons (ps_if (pt_cmpR op_lt (pv 1) (pe_callB call_len_seq rfl B.len PySem.boot_len (pa_cons (pv 0) pa_nil)) (nomark _))
        (pss_one (ps_ret (pe_ix ix_list (pv 0) (pv 1) (fun _ _ => rfl))))
        pss_nil)
      (pss_one (ps_ret pe_int))), ?_⟩
    refine sl_1 ?_
    intro zu0 zu1
    refine ⟨_, rfl, _, rfl, a, _, rfl, .inl hS, _, _, rfl, rfl, _, rfl, ?_⟩
    refine ite2 (fun h => ?_) (fun h => ?_)
    · have hk : k < ns.length := by
        have := of_decide_eq_true h
        rw [List.length_map] at this; omega
      have e : ns[k]? = some (ns.getD k 0) := by rw [List.getD_eq_getElem?_getD, List.getElem?_eq_getElem hk]; rfl
      exact ⟨_, rfl, _, rfl, a, _, _, _, rfl, rfl, hS, ints_at e, q⟩
    · have hk : ¬ k < ns.length := fun z => h (decide_eq_true (by rw [List.length_map]; omega))
      have e : ns.getD k 0 = 0 := by rw [List.getD_eq_getElem?_getD, List.getElem?_eq_none (by omega)]; rfl
      rw [e] at q
      exact q
end
abbrev s__law_draw : Stmt := top 44
theorem sc__law_draw : FnScope ["cell", "k", "seed", "turned"] ["cell", "k"] (defScope s__law_draw) := ⟨rfl, rfl, rfl, by decide +kernel, rfl, by decide +kernel, by decide +kernel⟩
def drw (c k : Int) : Int := ((c % 1000000007 * 6007 + 613 * k + 104729) * (c % 1000000007 * 6007 + 613 * k + 104729) % 1000000007 * (c % 1000000007 * 6007 + 613 * k + 104729 + 5 * k + 1) % 998244353) * ((c % 1000000007 * 6007 + 613 * k + 104729) * (c % 1000000007 * 6007 + 613 * k + 104729) % 1000000007 * (c % 1000000007 * 6007 + 613 * k + 104729 + 5 * k + 1) % 998244353 + 2 * k + 3) % 4294967291
theorem drw_nn (c k : Int) : 0 ≤ drw c k := Int.emod_nonneg _ (by decide)
def sp_drw : Sp := fun vs H Q _ => ∃ (c k : Int), vs = [.int c, .int k] ∧ 0 ≤ k ∧ k ≤ 1000 ∧ Q (.int (drw c k)) H
section
variable {P : Program} {w : World} {K : PySem.W.Frag} {mg : Str → Option Value} {base : Heap}
theorem ok_drw {f : Addr} {fd : FuncData} (D : Df K mg "_law_draw" s__law_draw ["cell", "k"] f fd) : FnOk P w K mg base CX0 1 f fd ["cell", "k"] sp_drw := by
  refine D.F.ok sc__law_draw (fun vs H Q E h => ?_) (fun cdv A outer s H vs Q E hr h => ?_)
  · obtain ⟨c, k, rfl, _⟩ := h; rfl
  · obtain ⟨c, k, rfl, h0, h1, q⟩ := h
    have a0 := Int.emod_nonneg c (show (1000000007 : Int) ≠ 0 by decide)
    have a1 := Int.emod_lt_of_pos c (show (0 : Int) < 1000000007 by decide)
    refine ⟨_, (pss_cons (ps_set (i := 2) sc__law_draw.nd rfl (Or.inl rfl) (pe_op op_add (pe_op op_add (pe_op op_mul (pe_op op_mod (pv 0) pe_int) pe_int) (pe_op op_mul pe_int (pv 1))) pe_int))
      (pss_cons (ps_set (i := 3) sc__law_draw.nd rfl (Or.inl rfl) (pe_op op_mod (pe_op op_mul (pe_op op_mod (pe_op op_mul (pv 2) (pv 2)) pe_int) (pe_op op_add (pe_op op_add (pv 2) (pe_op op_mul pe_int (pv 1))) pe_int)) pe_int))
      (pss_one (ps_ret (pe_op op_mod (pe_op op_mul (pv 3) (pe_op op_add (pe_op op_add (pv 3) (pe_op op_mul pe_int (pv 1))) pe_int)) pe_int))))), ?_⟩
    refine sl_2 ?_
    intro zu0 zu1
    refine ⟨_, rfl, _, _, rfl, rfl, (by show (0 : Int) < 1000000007; decide), _, _, rfl, rfl, .inr ⟨by decide, by decide⟩, _, rfl, _, _, rfl, rfl, .inl ⟨by decide, by decide⟩, _, _, rfl, rfl, _, _, rfl, rfl, ?_⟩
    refine ⟨_, rfl, _, rfl, _, _, rfl, rfl, .inl ⟨by omega, by omega⟩, _, _, rfl, rfl, (by show (0 : Int) < 1000000007; decide), _, rfl, _, rfl, _, _, rfl, rfl, .inl ⟨by decide, by decide⟩, _, _, rfl, rfl, _, _, rfl, rfl, _, _, rfl, rfl, .inr ⟨by omega, by omega⟩, _, _, rfl, rfl, (by show (0 : Int) < 998244353; decide), ?_⟩
    have b0 := Int.emod_nonneg ((c % 1000000007 * 6007 + 613 * k + 104729) * (c % 1000000007 * 6007 + 613 * k + 104729) % 1000000007 * (c % 1000000007 * 6007 + 613 * k + 104729 + 5 * k + 1)) (show (998244353 : Int) ≠ 0 by decide)
    have b1 := Int.emod_lt_of_pos ((c % 1000000007 * 6007 + 613 * k + 104729) * (c % 1000000007 * 6007 + 613 * k + 104729) % 1000000007 * (c % 1000000007 * 6007 + 613 * k + 104729 + 5 * k + 1)) (show (0 : Int) < 998244353 by decide)
    exact ⟨_, rfl, _, rfl, _, rfl, _, _, rfl, rfl, .inl ⟨by decide, by decide⟩, _, _, rfl, rfl, _, _, rfl, rfl, _, _, rfl, rfl, .inl ⟨by omega, by omega⟩, _, _, rfl, rfl, (by show (0 : Int) < 4294967291; decide), q⟩
end
abbrev s__law_mixed : Stmt := top 45
theorem sc__law_mixed : FnScope ["cell", "many"] ["cell", "many"] (defScope s__law_mixed) := ⟨rfl, rfl, rfl, by decide +kernel, rfl, by decide +kernel, by decide +kernel⟩
def drws (c : Int) (n : Nat) : List Int := (List.range n).map fun (i : Nat) => drw c (i : Int)
theorem drws_succ (c : Int) (n : Nat) : drws c (n + 1) = drws c n ++ [drw c (n : Int)] := by
  unfold drws; rw [List.range_succ, List.map_append]; rfl
theorem drws_len (c : Int) (n : Nat) : (drws c n).length = n := by unfold drws; simp
theorem drws_nn {c : Int} {n : Nat} {k : Nat} : 0 ≤ (drws c n).getD k 0 := by
  rw [List.getD_eq_getElem?_getD]
  unfold drws
  rw [List.getElem?_map]
  cases (List.range n)[k]? with
  | none => exact Int.le_refl _
  | some i => exact drw_nn _ _
def sp_drws : Sp := fun vs H Q _ => ∃ (c m : Int), vs = [.int c, .int m] ∧ -1000 ≤ m ∧ m ≤ 1000 ∧ RetL H (fun xs => ∃ ys, xs = ys.map V.int ∧ ys = drws c m.toNat) Q
section
variable {P : Program} {w : World} {K : PySem.W.Frag} {mg : Str → Option Value} {base : Heap}
theorem ok_drws {f fP : Addr} {fd fdP : FuncData} (D : Df K mg "_law_mixed" s__law_mixed ["cell", "many"] f fd) (B : Blt mg) (D__law_draw : Df K mg "_law_draw" s__law_draw ["cell", "k"] fP fdP)
    (G__law_draw : FnOk P w K mg base CX0 1 fP fdP ["cell", "k"] sp_drw) : FnOk P w K mg base CX0 2 f fd ["cell", "many"] sp_drws := by
  refine D.F.ok sc__law_mixed (fun vs H Q E h => ?_) (fun cdv A outer s H vs Q E hr h => ?_)
  · obtain ⟨c, k, rfl, _⟩ := h; rfl
  · obtain ⟨c, m, rfl, h0, h1, q⟩ := h
    refine ⟨_, (pss_one (ps_ret (pe_comp (defScope s__law_mixed) rfl ["cell", "many"] rfl ["k", "cell"] [none, some 0] (by decide +kernel) (by decide +kernel) (by decide +kernel) rfl (pi_range1 rfl B.range (pa_cons (pv 1) pa_nil)) (fun _ _ _ => (pg_name (i := 0) (show (["k", "cell"] : List Str).Nodup by decide +kernel) rfl (Or.inl rfl))) (fun _ _ _ => pts_nil) (fun _ _ _ => (pe_call G__law_draw (hr.mono (by decide)) rfl D__law_draw.m D__law_draw.F.kp D__law_draw.b .nil pass0 (pa_cons (pv 1) (pa_cons (pv 0) pa_nil))))))), ?_⟩
    refine ⟨_, rfl, m, rfl, by omega, by omega, fun acc hacc => ?_⟩
    refine comp_range (fun i τ H2 => ∃ v, τ = [v, some (.int c)] ∧ Same H H2 ∧ H2 acc = some (.lst ((drws c i).map V.int))) ⟨none, rfl, (Same.refl H).upd hacc, upd_same⟩ ?_ ?_
    · rintro i τ H2 hi ⟨v, rfl, s2, h2⟩
      refine yesT ?_
      refine ⟨_, rfl, _, rfl, c, _, rfl, by omega, by omega, ?_⟩
      refine ⟨_, h2, small100' (by rw [List.length_map, drws_len]; omega), _, rfl, s2.upd hacc, ?_⟩
      rw [upd_same, drws_succ, List.map_append, show (0 : Int) + (i : Int) = (i : Int) by omega]; rfl
    · rintro τ H2 ⟨v, rfl, s2, h2⟩
      exact q acc H2 _ s2 hacc h2 ⟨_, rfl, rfl⟩
end
abbrev s_way_of : Stmt := top 20
theorem sc_way_of : FnScope ["below", "reach", "way"] ["below", "reach"] (defScope s_way_of) := ⟨rfl, rfl, rfl, by decide +kernel, rfl, by decide +kernel, by decide +kernel⟩
def sp_way (K : PySem.W.Frag) : Sp := fun vs H Q _ => ∃ (a : Addr) (r : List Int) (p : Int), vs = [.ref a, .int p] ∧ SqL K H a (r.map V.int) ∧ Rv.River r ∧ 0 ≤ p ∧ p < r.length ∧ r.length ≤ 900 ∧
  RetL H (fun xs => xs = (Rv.walk r p).map V.int) Q
theorem at_last (pre : List Int) (z : Int) : atI ((pre ++ [z]).map V.int) (-1) = some (V.int z) := by
  rw [List.map_append]; exact atI_last _ _
section
variable {P : Program} {w : World} {K : PySem.W.Frag} {mg : Str → Option Value} {base : Heap}
theorem ok_way {f : Addr} {fd : FuncData} (D : Df K mg "way_of" s_way_of ["below", "reach"] f fd) (C : Mth mg) : FnOk P w K mg base CX0 1 f fd ["below", "reach"] (sp_way K) := by
  obtain ⟨tM, hMOUTH⟩ := C.MOUTH
  refine D.F.ok sc_way_of (fun vs H Q E h => ?_) (fun cdv A outer s H vs Q E hr h => ?_)
  · obtain ⟨a, r, p, rfl, _⟩ := h; rfl
  · obtain ⟨a, r, p, rfl, hS, hR, p0, p1, hn, q⟩ := h
    refine ⟨_, (pss_cons (ps_set (i := 2) sc_way_of.nd rfl (Or.inl rfl) (pe_lst (pa_cons (pv 1) pa_nil)))
      (pss_cons (ps_while PassesOwn.never (pt_cmpR op_ne (pe_ix ix_list (pv 0) (pe_ix ix_list (pv 2) (pe_un un_neg pe_int) (fun _ _ => rfl)) (fun _ _ => rfl)) (pe_glob (v := .int (-1)) rfl hMOUTH ⟨_, rfl⟩) (nomark _))
        (pss_one (ps_expr (pe_bm PySem.F.plainAttrs_list PySem.F.slot_list_append PySem.F.type_list_append mt_append (pv 2) (pa_cons (pe_ix ix_list (pv 0) (pe_ix ix_list (pv 2) (pe_un un_neg pe_int) (fun _ _ => rfl)) (fun _ _ => rfl)) pa_nil)))))
      (pss_one (ps_ret (pv 2))))), ?_⟩
    refine sl_3 ?_
    intro zu0 zu1 zu2
    refine ⟨_, rfl, (by show 1 ≤ sizeLine; decide), fun lw hlw => ?_⟩
    refine ⟨fun m σ H' => ∃ (pre : List Int) (z : Int), σ = [some (.ref a), some (.int p), some (.ref lw)] ∧ Same H H' ∧ H' lw = some (.lst ((pre ++ [z]).map V.int)) ∧ 0 ≤ z ∧ z < r.length ∧ pre ++ Rv.walk r z = Rv.walk r p ∧ m = Rv.mea r z,
      ⟨_, [], p, rfl, (Same.refl H).upd hlw, upd_same, p0, p1, rfl, rfl⟩, ?_⟩
    rintro m σ H2 ⟨pre, z, rfl, s2, h2, z0, z1, e, rfl⟩
    have g := Rv.get_nxt z0 z1
    have hlen : pre.length + (Rv.walk r z).length ≤ r.length + 1 := by
      have := Rv.walk_len r p
      rw [← e, List.length_append] at this; exact this
    refine ⟨_, rfl, _, rfl, _, rfl, lw, _, _, _, rfl, rfl, SqL.of h2, at_last pre z, a, _, _, _, rfl, rfl, s2.seq hS, ints_atI z0 g, rfl, _, rfl, ?_⟩
    rcases hR.step z0 z1 with hm | ⟨n0, n1⟩
    · rw [hm]
      refine iteNS rfl ?_
      refine ⟨_, rfl, q lw H2 _ s2 hlw h2 ?_⟩
      have ew : Rv.walk r z = [z] := by rw [Rv.walk_cons hR z0 z1, hm, Rv.walk_neg]
      rw [← e, ew]
    · have hd : (!decide (V.int (Rv.nxt r z) = V.int (-1))) = true := by
        have : ¬ Rv.nxt r z = -1 := by omega
        simp [this]
      rw [hd]
      refine iteT ?_
      refine ⟨fun σ' H' => ∃ m', m' < Rv.mea r z ∧ ∃ (pre : List Int) (z : Int), σ' = [some (.ref a), some (.int p), some (.ref lw)] ∧ Same H H' ∧ H' lw = some (.lst ((pre ++ [z]).map V.int)) ∧ 0 ≤ z ∧ z < r.length ∧ pre ++ Rv.walk r z = Rv.walk r p ∧ m' = Rv.mea r z, fun _ _ x => x, ?_⟩
      refine ⟨_, rfl, .inl ⟨rfl, _, SqL.of h2⟩, _, rfl, _, rfl, _, rfl, lw, _, _, _, rfl, rfl, SqL.of h2, at_last pre z, a, _, _, _, rfl, rfl, s2.seq hS, ints_atI z0 g, lw, _, _, rfl, rfl, h2, small100' ?_, ?_⟩
      · rw [List.length_map, List.length_append]
        have : 1 ≤ (Rv.walk r z).length := by rw [Rv.walk_cons hR z0 z1]; exact Nat.succ_le_succ (Nat.zero_le _)
        show pre.length + 1 ≤ _
        omega
      · refine ⟨_, Rv.mea_lt hR z0 z1, pre ++ [z], Rv.nxt r z, rfl, s2.upd hlw, ?_, n0, n1, ?_, rfl⟩
        · rw [upd_same, List.map_append (l₁ := pre ++ [z])]; rfl
        · rw [List.append_assoc]
          show pre ++ (z :: Rv.walk r (Rv.nxt r z)) = _
          rw [← Rv.walk_cons hR z0 z1]; exact e
end
abbrev s_tops_first : Stmt := top 21
theorem sc_tops_first : FnScope ["below"] ["below"] (defScope s_tops_first) := ⟨rfl, rfl, rfl, by decide +kernel, rfl, by decide +kernel, by decide +kernel⟩
def rvIn (K : PySem.W.Frag) (H : Hp) (a : Addr) (r : List Int) : Prop := SqL K H a (r.map V.int) ∧ Rv.River r ∧ r.length < 64
def lam_tops : Pos × Str := (⟨44, 41, 44, 90⟩, "tops_first.<locals>.<lambda>")
def TT1 (P : Addr) (T : Tabs) : Prop := (P, lam_tops.1, lam_tops.2) ∈ T ∧ (T.map (·.1)).Nodup
def sp_tops (K : PySem.W.Frag) (T : Tabs) : Sp := fun vs H Q _ => ∃ (a : Addr) (r : List Int), vs = [.ref a] ∧ rvIn K H a r ∧ TabsOk T H ∧
  RetLT T H (fun xs => ∃ p, xs = p.map (fun (i : Nat) => V.int (i : Int)) ∧ Rv.Tops r p) Q
theorem lex_kap {r : List Int} {i j : Nat} (hi : i < 64) (hj : j < 64) : HT.lexLt [-((Rv.walk r (i : Int)).length : Int), (i : Int)] [-((Rv.walk r (j : Int)).length : Int), (j : Int)] = decide (Rv.kap r i < Rv.kap r j) := by
  unfold Rv.kap
  rw [HT.lexLt_cons, HT.lexLt_cons, HT.lexLt_nil_nil]
  rw [Bool.eq_iff_iff]
  split
  · split
    · simp only [Bool.false_eq_true, decide_eq_true_eq, false_iff]; omega
    · simp only [decide_eq_true_eq]; omega
  · simp only [decide_eq_true_eq]; omega
section
variable {P : Program} {w : World} {K : PySem.W.Frag} {mg : Str → Option Value} {base : Heap}
theorem ok_tops {f fW : Addr} {fd fdW : FuncData} {pT cT : Addr} {T : Tabs} (D : Df K mg "tops_first" s_tops_first ["below"] f fd) (hcd : fd.code = .ref cT) (hhd : PySem.W.codeHdIn K cT pT = true) (hT : TT1 pT T) (hbm : BM mg base) (B : Blt mg)
    (D_way_of : Df K mg "way_of" s_way_of ["below", "reach"] fW fdW) (G_way_of : FnOk P w K mg base CX0 1 fW fdW ["below", "reach"] (sp_way K)) : FnOk P w K mg base CX0 5 f fd ["below"] (sp_tops K T) := by
  refine D.F.okC hcd sc_tops_first (fun vs H Q E h => ?_) (fun A outer s H vs Q E hr h => ?_)
  · obtain ⟨a, r, rfl, _⟩ := h; rfl
  · obtain ⟨a, r, rfl, ⟨hS, hR, h64⟩, tk, q⟩ := h
    refine ⟨_, (pss_one (ps_ret (pe_sortedLam (P := pT) (c := cT) (p := "reach") (defScope s_tops_first) rfl ["below"] rfl ["below"] [some 0] (by decide +kernel) (by decide +kernel) (by decide +kernel) rfl hbm rfl hhd (lam_deep (hr.mono (by decide))) rfl B.sorted rfl B.range (pa_cons (pe_callB call_len_seq rfl B.len PySem.boot_len (pa_cons (pv 0) pa_nil)) pa_nil) (fun A f cv s H hh hd hu => (pe_tup (pa_cons (pe_un un_neg (pe_callB (call_len_seqK (K := K) rfl) rfl B.len PySem.boot_len (pa_cons (pe_call G_way_of (lam_room (hr.mono (by decide)) hh hd hu) rfl D_way_of.m D_way_of.F.kp D_way_of.b .nil pass0 (pa_cons (pv 1) (pa_cons (pv 0) pa_nil))) pa_nil))) (pa_cons (pv 0) pa_nil)))) (fun _ _ _ _ => rfl)))), ?_⟩
    have hl : (r.map V.int).length = r.length := List.length_map _
    refine ⟨_, rfl, a, _, rfl, .inl hS, r.length, by rw [hl], h64, tk _ hT.1, fun H2 k1 k2 t2 => ?_⟩
    have sT : SameT T H H2 := SameT.tab tk hT.1 hT.2 k1 t2
    refine ⟨fun i ts H3 => SameT T H2 H3 ∧ ts.length = i ∧ ∀ (j : Nat) (t : Addr), ts[j]? = some t → H3 t = some (.tup ([-((Rv.walk r (j : Int)).length : Int), (j : Int)].map V.int)), fun i => [-((Rv.walk r (i : Int)).length : Int), (i : Int)], Rv.kap r, 1, ⟨SameT.refl sT.t1, rfl, fun j t e => by simp at e⟩, ?_, ?_, fun _ _ => rfl, fun i j hi hj => lex_kap (by omega) (by omega), ?_, ?_⟩
    · rintro i ts H3 hi ⟨s3, htl, h3⟩
      refine ⟨fun c' e => s3.keep c' _ e fun ps z => (by cases z), ?_⟩
      refine ⟨_, rfl, _, rfl, a, r, (i : Int), rfl, (sT.trans s3).seq hS, hR, by omega, by omega, by omega, fun l H4 xs s4 n4 h4 e4 => ?_⟩
      subst e4
      refine ⟨l, _, rfl, .inl (SqL.of h4), _, rfl, _, rfl, (by show 2 ≤ sizeLine; decide), fun t ht => ⟨t, rfl, ?_⟩⟩
      have sT4 : SameT T H2 H4 := s3.trans (SameT.of s3.t1 s4)
      have nt : H2 t = none := sT4.free ht
      refine ⟨sT4.upd nt (.inl ht), by rw [List.length_append, htl]; rfl, fun j t' e => ?_⟩
      by_cases hj : j < ts.length
      · rw [List.getElem?_append_left hj] at e
        have h4' := s4 _ _ (h3 j t' e)
        rw [upd_ne (ne_of_none h4' ht)]; exact h4'
      · rw [List.getElem?_append_right (by omega)] at e
        have hj0 : j - ts.length = 0 := by
          have := (List.getElem?_eq_some_iff.mp e).1
          simp at this; omega
        have hji : j = i := by omega
        rw [hj0] at e
        simp at e
        subst e
        subst hji
        rw [upd_same, List.length_map]; rfl
    · rintro ts H3 ⟨_, _, h3⟩
      exact h3
    · intro i j hi hj hij e
      unfold Rv.kap at e
      omega
    · rintro ts H3 D' ys ⟨s3, _, _⟩ hD ⟨p, hp, rfl, ho⟩
      have hbl : (below0 r.length).length = r.length := by unfold below0; simp
      rw [hbl] at hp
      refine q D' _ _ ((sT.trans s3).upd ((sT.trans s3).free hD) (.inl hD)) ((sT.trans s3).free hD) upd_same ⟨p, ?_, hp, ho⟩
      refine List.map_congr_left fun i hi => ?_
      have hi' : i < r.length := List.mem_range.mp (hp.mem_iff.mp hi)
      show (below0 r.length).getD i .non = _
      unfold below0
      rw [List.getD_eq_getElem?_getD, List.getElem?_map, List.getElem?_range hi']; rfl
end
abbrev s_natural_of : Stmt := top 24
theorem sc_natural_of : FnScope ["below", "springs", "flows", "reach"] ["below", "springs"] (defScope s_natural_of) := ⟨rfl, rfl, rfl, by decide +kernel, rfl, by decide +kernel, by decide +kernel⟩
def sp_nat (K : PySem.W.Frag) (T : Tabs) : Sp := fun vs H Q _ => ∃ (a b : Addr) (r s : List Int), vs = [.ref a, .ref b] ∧ rvIn K H a r ∧ SqL K H b (s.map V.int) ∧ s.length = r.length ∧ TabsOk T H ∧
  RetLT T H (fun xs => xs = (Rv.nats r s).map V.int) Q
section
variable {P : Program} {w : World} {K : PySem.W.Frag} {mg : Str → Option Value} {base : Heap}
theorem ok_nat {f fT : Addr} {fd fdT : FuncData} {T : Tabs} (D : Df K mg "natural_of" s_natural_of ["below", "springs"] f fd) (B : Blt mg) (C : Mth mg)
    (D_tops_first : Df K mg "tops_first" s_tops_first ["below"] fT fdT) (G_tops_first : FnOk P w K mg base CX0 5 fT fdT ["below"] (sp_tops K T)) : FnOk P w K mg base CX0 6 f fd ["below", "springs"] (sp_nat K T) := by
  obtain ⟨tM, hMOUTH⟩ := C.MOUTH
  refine D.F.ok sc_natural_of (fun vs H Q E h => ?_) (fun cdv A outer s H vs Q E hr h => ?_)
  · obtain ⟨a, b, r, s, rfl, _⟩ := h; rfl
  · obtain ⟨a, b, r, sp, rfl, ⟨hS, hR, h64⟩, hB, hl, tk, q⟩ := h
    refine ⟨_, (pss_cons (ps_set (i := 2) sc_natural_of.nd rfl (Or.inl rfl) (pe_callTy call_list_of rfl B.list PyProof.Rows.boot_list (pa_cons (pv 1) pa_nil)))
      (pss_cons (ps_for PassesOwn.never rfl (pi_list (pe_call G_tops_first (hr.mono (by decide)) rfl D_tops_first.m D_tops_first.F.kp D_tops_first.b .nil pass0 (pa_cons (pv 0) pa_nil))) (pg_name (i := 3) sc_natural_of.nd rfl (Or.inl rfl))
        (pss_one (ps_if (pt_cmpR op_ne (pe_ix ix_list (pv 0) (pv 3) (fun _ _ => rfl)) (pe_glob (v := .int (-1)) rfl hMOUTH ⟨_, rfl⟩) (nomark _))
          (pss_one (ps_augS (pv 2) (pe_ix ix_list (pv 0) (pv 3) (fun _ _ => rfl)) get_list (pe_ix ix_list (pv 2) (pv 3) (fun _ _ => rfl)) ip_add set_list))
          pss_nil)))
      (pss_one (ps_ret (pv 2))))), ?_⟩
    refine sl_4 ?_
    intro zu0 zu1 zu2 zu3
    have O := Ow.refl tk
    refine ⟨_, rfl, b, _, rfl, .inl hB, fun lf hlf => ?_⟩
    walk_at "new"; intro H1 O
    refine ⟨_, rfl, a, r, rfl, ⟨O.same.seq hS, hR, h64⟩, O.same.t1, O.gotT fun lt H2 xs O ⟨p, ep, hp⟩ => ?_⟩
    subst ep
    refine ⟨lt, rfl, ⟨_, O.sq 0⟩, ?_⟩
    refine for_list (K := K) (a := lt) (xs := p.map fun (i : Nat) => V.int (i : Int)) (fun t σ H3 => ∃ (v3 : Option V) (fl : List Int), σ = [some (.ref a), some (.ref b), some (.ref lf), v3] ∧ Ow T H H3 [(lt, .lst (p.map fun (i : Nat) => V.int (i : Int))), (lf, .lst (fl.map V.int))] ∧ Rv.NatI r sp p t fl)
      ⟨none, sp, rfl, O, Rv.NatI.start r sp p hl⟩ (fun _ _ _ _ ⟨_, _, _, O, _⟩ => O.sq 0) ?_ ?_
    · rintro t y σ H3 hy ⟨v3, fl, rfl, O, N⟩
      rw [List.getElem?_map] at hy
      obtain ⟨j, hj, rfl⟩ : ∃ j, p[t]? = some j ∧ y = V.int (j : Int) := by
        cases e : p[t]? with
        | none => rw [e] at hy; cases hy
        | some j => rw [e] at hy; exact ⟨j, rfl, (Option.some.inj hy).symm⟩
      have hjr := hp.lt (List.mem_of_getElem? hj)
      have gj := Rv.get_nxt (r := r) (p := (j : Int)) (by omega) (by omega)
      have aj := ints_atI (ns := r) (i := (j : Int)) (by omega) gj
      have here := N.here hp hR h64 hj
      refine ⟨_, rfl, _, rfl, a, _, _, _, rfl, rfl, O.same.seq hS, aj, rfl, _, rfl, ?_⟩
      rcases hR.step (p := (j : Int)) (by omega) (by omega) with hm | ⟨n0, n1⟩
      · rw [hm]
        refine iteNS rfl ?_
        exact ⟨_, fl, rfl, O, N.mouth hj hm⟩
      · have hd : (!decide (V.int (Rv.nxt r (j : Int)) = V.int (-1))) = true := by
          have : ¬ Rv.nxt r (j : Int) = -1 := by omega
          simp [this]
        rw [hd]
        refine iteT ?_
        obtain ⟨bn, ebn⟩ := Int.eq_ofNat_of_zero_le n0
        have hbl : bn < r.length := by omega
        rw [ebn] at aj
        obtain ⟨x, hx⟩ : ∃ x, fl[bn]? = some x := ⟨_, N.at_ bn hbl⟩
        refine ⟨_, rfl, _, rfl, _, rfl, a, _, _, _, rfl, rfl, O.same.seq hS, aj, lf, _, bn, V.int x, rfl, rfl, O.sq 1, by rw [List.getElem?_map, hx]; rfl, _, rfl, _, rfl, lf, _, _, _, rfl, rfl, O.sq 1, ints_at here, _, _, rfl, rfl, ?_⟩
        refine ow_set O 1 rfl (ixN_nat (by rw [List.length_map, N.len]; exact hbl)) fun H4 O => ?_
        refine ⟨_, fl.set bn (x + Rv.natf r sp (j : Int)), rfl, ?_, N.turn hp hR h64 hj ebn hbl hx⟩
        rw [List.map_set]; exact O
    · rintro σ H3 ⟨v3, fl, rfl, O, N⟩
      rw [List.length_map, hp.len] at N
      exact ⟨_, rfl, O.ret 1 rfl q (by rw [N.done hp hR])⟩
end
theorem rep_intsV (n : Nat) (x : Int) : (List.replicate n [V.int x]).flatten = (List.replicate n x).map V.int := by rw [List.map_replicate]; exact rep_one _ _
theorem bump_next {w cur : List Int} {c z : Int} {j : Nat} (hz : w[j]? = some z) : Tn.bump cur (w.take (j + 1)) c = (Tn.bump cur (w.take j) c).set z.toNat ((Tn.bump cur (w.take j) c).getD z.toNat 0 + c) := by
  rw [List.take_add_one, hz]; exact Tn.bump_snoc _ _ _ _
abbrev s_stretch_of : Stmt := top 22
theorem sc_stretch_of : FnScope ["below", "start", "stop", "way"] ["below", "start", "stop"] (defScope s_stretch_of) := ⟨rfl, rfl, rfl, by decide +kernel, rfl, by decide +kernel, by decide +kernel⟩
theorem take_idx (b : Int) : ∀ l : List Int, l.take (l.idxOf b) = l.takeWhile (fun x => !decide (x = b))
  | [] => rfl
  | x :: l => by
    rw [List.idxOf_cons, List.takeWhile_cons]
    by_cases h : x = b
    · simp [h]
    · have e : (x == b) = false := by simp [h]
      rw [e, cond_false, List.take_succ_cons, take_idx b l]
      simp [h]
theorem cut_take (ns : List Int) (k : Nat) : cutV (ns.map V.int) none (some (k : Int)) = (ns.take k).map V.int := by
  unfold cutV
  rw [HT.sIx_none, HT.sIx_nat, List.drop_zero, List.length_map, Nat.sub_zero, ← List.map_take]
  congr 1
  rw [List.take_eq_take_iff]; omega
def sp_strch (K : PySem.W.Frag) : Sp := fun vs H Q _ => ∃ (a : Addr) (r : List Int) (p b : Int), vs = [.ref a, .int p, .int b] ∧ SqL K H a (r.map V.int) ∧ Rv.River r ∧ 0 ≤ p ∧ p < r.length ∧ r.length ≤ 900 ∧ Rv.Stop r p b ∧
  RetL H (fun xs => xs = (Rv.strch r p b).map V.int) Q
section
variable {P : Program} {w : World} {K : PySem.W.Frag} {mg : Str → Option Value} {base : Heap}
theorem ok_strch {f fW : Addr} {fd fdW : FuncData} (D : Df K mg "stretch_of" s_stretch_of ["below", "start", "stop"] f fd) (C : Mth mg) (D_way_of : Df K mg "way_of" s_way_of ["below", "reach"] fW fdW)
    (G_way_of : FnOk P w K mg base CX0 1 fW fdW ["below", "reach"] (sp_way K)) : FnOk P w K mg base CX0 2 f fd ["below", "start", "stop"] (sp_strch K) := by
  obtain ⟨tM, hMOUTH⟩ := C.MOUTH
  refine D.F.ok sc_stretch_of (fun vs H Q E h => ?_) (fun cdv A outer s H vs Q E hr h => ?_)
  · obtain ⟨a, r, p, b, rfl, _⟩ := h; rfl
  · obtain ⟨a, r, p, b, rfl, hS, hR, p0, p1, hn, st, q⟩ := h
    refine ⟨_, (pss_cons (ps_set (i := 3) sc_stretch_of.nd rfl (Or.inl rfl) (pe_call G_way_of (hr.mono (by decide)) rfl D_way_of.m D_way_of.F.kp D_way_of.b .nil pass0 (pa_cons (pv 0) (pa_cons (pv 1) pa_nil))))
      (pss_cons (ps_if (pt_cmpR op_eq (pv 2) (pe_glob (v := .int (-1)) rfl hMOUTH ⟨_, rfl⟩) (nomark _))
        (pss_one (ps_ret (pv 3)))
        pss_nil)
      (pss_cons (ps_if (pt_cmpR op_notIn_seq (pv 2) (pv 3) (by rfl))
        (pss_one ps_never)
        pss_nil)
      (pss_one (ps_ret (pe_slice sl_list (pv 3) po_none (po_some (pe_bm PySem.F.plainAttrs_list PySem.F.slot_list_index PySem.F.type_list_index mt_index (pv 3) (pa_cons (pv 2) pa_nil))))))))), ?_⟩
    refine sl_5 ?_
    intro zu0 zu1 zu2 zu3 zu4
    refine ⟨_, rfl, _, rfl, a, r, p, rfl, hS, hR, p0, p1, hn, fun lw H1 xs s1 n1 h1 e1 => ?_⟩
    subst e1
    refine ⟨_, rfl, rfl, _, rfl, ite2 (fun h => ?_) fun h => ?_⟩
    · have hb : b = -1 := V.int.inj (of_decide_eq_true h)
      refine ⟨_, rfl, q lw H1 _ s1 n1 h1 ?_⟩
      unfold Rv.strch; rw [if_pos hb]
    · have hb : ¬ b = -1 := fun z => h (decide_eq_true (by rw [z]))
      have hm : b ∈ Rv.walk r p := st.resolve_left hb
      refine ⟨_, rfl, _, rfl, lw, _, rfl, .inl (SqL.of h1), rfl, flat_ints _, _, rfl, ?_⟩
      rw [if_pos rfl, in_ints, decide_eq_true hm]
      refine iteF ?_
      refine ⟨_, rfl, _, rfl, .inl ⟨rfl, _, SqL.of h1⟩, _, rfl, lw, _, b, rfl, rfl, SqL.of h1, hm, _, rfl, lw, _, rfl, SqL.of h1, fun l hl => ?_⟩
      refine q l _ _ (s1.upd (s1.free hl)) (s1.free hl) upd_same ?_
      rw [cut_take, take_idx]
      unfold Rv.strch; rw [if_neg hb]
end
abbrev s_reaches_of : Stmt := top 26
theorem sc_reaches_of : FnScope ["below", "one", "day", "start", "back", "most"] ["below", "one"] (defScope s_reaches_of) := ⟨rfl, rfl, rfl, by decide +kernel, rfl, by decide +kernel, by decide +kernel⟩
def LicOk (r : List Int) (l : Lic) : Prop := 0 ≤ l.start ∧ l.start < r.length ∧ Rv.Stop r l.start l.back
def sp_reaches (K : PySem.W.Frag) : Sp := fun vs H Q _ => ∃ (a t : Addr) (r : List Int) (l : Lic), vs = [.ref a, .ref t] ∧ SqL K H a (r.map V.int) ∧ Rv.River r ∧ r.length ≤ 900 ∧ SqT K H t (vLic l) ∧ LicOk r l ∧ RetL H (fun xs => xs = (Rv.strch r l.start l.back).map V.int) Q
section
variable {P : Program} {w : World} {K : PySem.W.Frag} {mg : Str → Option Value} {base : Heap}
theorem ok_reaches {f f1 : Addr} {fd fd1 : FuncData} (D : Df K mg "reaches_of" s_reaches_of ["below", "one"] f fd) (D_stretch_of : Df K mg "stretch_of" s_stretch_of ["below", "start", "stop"] f1 fd1) (G_stretch_of : FnOk P w K mg base CX0 2 f1 fd1 ["below", "start", "stop"] (sp_strch K)) :
    FnOk P w K mg base CX0 3 f fd ["below", "one"] (sp_reaches K) := by
  refine D.F.ok sc_reaches_of (fun vs H Q E h => ?_) (fun cdv A outer s H vs Q E hr h => ?_)
  · obtain ⟨_, _, _, _, rfl, _⟩ := h; rfl
  · obtain ⟨a, t, r, l, rfl, hA, hR, hn, hT, ok, q⟩ := h
    refine ⟨_, (pss_cons (ps_asg (pv 1) (pg_tup rfl (pgs_cons (pg_name (i := 2) sc_reaches_of.nd rfl (Or.inl rfl)) (pgs_cons (pg_name (i := 3) sc_reaches_of.nd rfl (Or.inl rfl)) (pgs_cons (pg_name (i := 4) sc_reaches_of.nd rfl (Or.inl rfl)) (pgs_cons (pg_name (i := 5) sc_reaches_of.nd rfl (Or.inl rfl)) pgs_nil))))))
      (pss_one (ps_ret (pe_call G_stretch_of (hr.mono (by decide)) rfl D_stretch_of.m D_stretch_of.F.kp D_stretch_of.b .nil pass0 (pa_cons (pv 0) (pa_cons (pv 3) (pa_cons (pv 4) pa_nil))))))), ?_⟩
    refine sl_6 ?_
    intro zu0
    refine ⟨_, rfl, t, _, rfl, hT, rfl, _, _, rfl, _, _, rfl, _, _, rfl, _, _, rfl, rfl, ?_⟩
    exact ⟨_, rfl, _, rfl, _, rfl, a, r, l.start, l.back, rfl, hA, hR, ok.1, ok.2.1, hn, ok.2.2, q⟩
end
abbrev s_most_of : Stmt := top 28
theorem sc_most_of : FnScope ["one"] ["one"] (defScope s_most_of) := ⟨rfl, rfl, rfl, by decide +kernel, rfl, by decide +kernel, by decide +kernel⟩
def sp_most (K : PySem.W.Frag) : Sp := fun vs H Q _ => ∃ (a : Addr) (l : Lic), vs = [.ref a] ∧ SqT K H a (vLic l) ∧ Q (.int l.most) H
section
variable {P : Program} {w : World} {K : PySem.W.Frag} {mg : Str → Option Value} {base : Heap}
theorem ok_most {f : Addr} {fd : FuncData} (D : Df K mg "most_of" s_most_of ["one"] f fd) : FnOk P w K mg base CX0 1 f fd ["one"] (sp_most K) := by
  refine D.F.ok sc_most_of (fun vs H Q E h => ?_) (fun cdv A outer s H vs Q E hr h => ?_)
  · obtain ⟨c, k, rfl, _⟩ := h; rfl
  · obtain ⟨a, l, rfl, hT, q⟩ := h
    refine ⟨_, (pss_one (ps_ret (pe_ix ix_tup (pv 0) pe_int (fun _ _ => rfl)))), ?_⟩
    exact ⟨_, rfl, _, _, _, _, rfl, rfl, hT, rfl, q⟩
end
abbrev s_wants_of : Stmt := top 29
theorem sc_wants_of : FnScope ["roll", "calls"] ["roll", "calls"] (defScope s_wants_of) := ⟨rfl, rfl, rfl, by decide +kernel, rfl, by decide +kernel, by decide +kernel⟩
def wantsL (ls : List Lic) (cs : List Int) : List Int := List.zipWith (fun l c => min c l.most) ls cs
theorem if_min (i j : Int) : (if j < i then j else i) = min i j := by
  by_cases h : j < i
  · rw [if_pos h]; omega
  · rw [if_neg h]; omega
theorem zip_take {α β γ : Type} (f : α → β → γ) {as : List α} {bs : List β} {i : Nat} {a : α} {b : β} (ha : as[i]? = some a) (hb : bs[i]? = some b) : List.zipWith f (as.take (i + 1)) (bs.take (i + 1)) = List.zipWith f (as.take i) (bs.take i) ++ [f a b] := by
  have h1 := (List.getElem?_eq_some_iff.mp ha)
  have h2 := (List.getElem?_eq_some_iff.mp hb)
  obtain ⟨l1, e1⟩ := h1
  obtain ⟨l2, e2⟩ := h2
  rw [List.take_succ, List.take_succ, ha, hb, List.zipWith_append (by rw [List.length_take, List.length_take]; omega)]
  rfl
def sp_wants (K : PySem.W.Frag) (T : Tabs) : Sp := fun vs H Q _ => ∃ (v : V) (b : Addr) (ls : List Lic) (cs : List Int), vs = [v, .ref b] ∧ Den K H v (dRoll ls) ∧ SqL K H b (cs.map V.int) ∧ ls.length = cs.length ∧ ls.length ≤ 1000 ∧ TabsOk T H ∧ RetLT T H (fun xs => xs = (wantsL ls cs).map V.int) Q
section
variable {P : Program} {w : World} {K : PySem.W.Frag} {mg : Str → Option Value} {base : Heap} {T : Tabs}
theorem ok_wants {f f1 : Addr} {fd fd1 : FuncData} (D : Df K mg "wants_of" s_wants_of ["roll", "calls"] f fd) (B : Blt mg) (D_most_of : Df K mg "most_of" s_most_of ["one"] f1 fd1) (G_most_of : FnOk P w K mg base CX0 1 f1 fd1 ["one"] (sp_most K)) :
    FnOk P w K mg base CX0 2 f fd ["roll", "calls"] (sp_wants K T) := by
  refine D.F.ok sc_wants_of (fun vs H Q E h => ?_) (fun cdv A outer s H vs Q E hr h => ?_)
  · obtain ⟨_, _, _, _, rfl, _⟩ := h; rfl
  · obtain ⟨v, b, ls, cs, rfl, hd, hb, hlc, hlen, tk, q⟩ := h
    obtain ⟨a, xs, rfl, hL, hds⟩ := hd.list_inv
    have hxl : xs.length = ls.length := by rw [hds.length, List.length_map]
    refine ⟨_, (pss_one (ps_ret (pe_comp (defScope s_wants_of) rfl ["roll", "calls"] rfl ["one", "call"] [none, none] (by decide +kernel) (by decide +kernel) (by decide +kernel) rfl (pi_zip rfl B.zip (pa_cons (pv 0) (pa_cons (pv 1) pa_nil))) (fun _ _ _ => (pg_tupK (K := K) (n := 2) rfl rfl (pgs_cons (pg_name (i := 0) (show (["one", "call"] : List Str).Nodup by decide +kernel) rfl (Or.inl rfl)) (pgs_cons (pg_name (i := 1) (show (["one", "call"] : List Str).Nodup by decide +kernel) rfl (Or.inl rfl)) pgs_nil)))) (fun _ _ _ => pts_nil) (fun _ _ _ => (pe_callB (call_min2 rfl) rfl B.min PyProof.Rows.boot_min (pa_cons (pv 1) (pa_cons (pe_call G_most_of (hr.mono (by decide)) rfl D_most_of.m D_most_of.F.kp D_most_of.b .nil pass0 (pa_cons (pv 0) pa_nil)) pa_nil))))))), ?_⟩
    have O := Ow.refl tk
    refine ⟨_, rfl, _, rfl, a, b, _, _, rfl, hL, hb, fun acc hacc => ?_⟩
    refine comp_zip (K := K) (fun i τ H' => Iv (∃ (v0 v1 : Option V), τ = [v0, v1] ∧ Ow T H H' [(acc, .lst ((List.zipWith (fun l c => min c l.most) (ls.take i) (cs.take i)).map V.int))])) (by rw [List.length_map]; omega)
      ⟨trivial, none, none, rfl, O.mk' hacc rfl⟩ (fun i τ H' _ ⟨_, _, _, _, O⟩ => ⟨O.same.seq hL, O.same.seq hb⟩) ?_ ?_
    · rintro i x y t τ H' hx hy ⟨-, v0, v1, rfl, O⟩ ht
      obtain ⟨z, hz, rfl⟩ := ints_get hy
      obtain ⟨al, l, rfl, hl, hT⟩ := hds.lic_get hx
      have hi := (List.getElem?_eq_some_iff.mp hz).1
      walk_at "nw"
      refine ⟨t, _, rfl, O.sqT 0, rfl, _, _, rfl, _, _, rfl, rfl, ?_⟩
      refine yes2 ?_
      refine ⟨_, rfl, _, rfl, al, l, rfl, hT.mo O.same, _, _, rfl, ?_⟩
      refine ⟨_, O.get 1, small100' (by rw [List.length_map, List.length_zipWith, List.length_take]; omega), ?_⟩
      walk_at "pt"
      refine ⟨trivial, _, _, rfl, ?_⟩
      rw [zip_take _ hl hz, List.map_append, ← if_min]
      exact O.tail
    · rintro τ H' ⟨-, v0, v1, rfl, O⟩
      refine O.ret 0 rfl q ?_
      rw [hxl, List.take_of_length_le (Nat.le_refl _), List.take_of_length_le (by omega)]; rfl
end
abbrev s_day_filed : Stmt := top 27
theorem sc_day_filed : FnScope ["one"] ["one"] (defScope s_day_filed) := ⟨rfl, rfl, rfl, by decide +kernel, rfl, by decide +kernel, by decide +kernel⟩
def sp_day (K : PySem.W.Frag) : Sp := fun vs H Q _ => ∃ (t : Addr) (l : Lic), vs = [.ref t] ∧ SqT K H t (vLic l) ∧ Q (.int l.day) H
section
variable {P : Program} {w : World} {K : PySem.W.Frag} {mg : Str → Option Value} {base : Heap}
theorem ok_day {f : Addr} {fd : FuncData} (D : Df K mg "day_filed" s_day_filed ["one"] f fd) : FnOk P w K mg base CX0 1 f fd ["one"] (sp_day K) := by
  refine D.F.ok sc_day_filed (fun vs H Q E h => ?_) (fun cdv A outer s H vs Q E hr h => ?_)
  · obtain ⟨_, _, rfl, _⟩ := h; rfl
  · obtain ⟨t, l, rfl, hT, q⟩ := h
    refine ⟨_, (pss_one (ps_ret (pe_ix ix_tup (pv 0) pe_int (fun _ _ => rfl)))), ?_⟩
    exact ⟨_, rfl, t, _, 0, _, rfl, rfl, hT, rfl, q⟩
end
def dayL (ls : List Lic) : Nat → Int := fun k => (ls[k]?.map Lic.day).getD 0
theorem dayL_at {ls : List Lic} {k : Nat} {l : Lic} (h : ls[k]? = some l) : dayL ls k = l.day := by unfold dayL; rw [h]; rfl
def wayL (r : List Int) (ls : List Lic) : Nat → List Int := Tn.fW (ls.map fun l => Rv.strch r l.start l.back)
theorem wayL_at {r : List Int} {ls : List Lic} {k : Nat} {l : Lic} (h : ls[k]? = some l) : wayL r ls k = Rv.strch r l.start l.back := by
  unfold wayL Tn.fW; rw [List.getD_eq_getElem?_getD, List.getElem?_map, h]; rfl
def LicOk2 (r : List Int) (l : Lic) : Prop := LicOk r l ∧ 0 ≤ l.most
theorem wayL_ok {r : List Int} (hR : Rv.River r) {ls : List Lic} (h : ∀ l ∈ ls, LicOk2 r l) {k : Nat} (hk : k < ls.length) : Tn.WOk r.length (wayL r ls k) := by
  obtain ⟨h0, h1, _⟩ := (h _ (List.getElem_mem hk)).1
  rw [wayL_at (List.getElem?_eq_getElem hk)]
  exact Rv.strch_ok hR h0 h1
theorem wantsL_len {ls : List Lic} {cs : List Int} (h : ls.length = cs.length) : (wantsL ls cs).length = ls.length := by
  unfold wantsL; rw [List.length_zipWith]; omega
theorem wantsL_at {ls : List Lic} {cs : List Int} {k : Nat} {l : Lic} {c : Int} (hl : ls[k]? = some l) (hc : cs[k]? = some c) : (wantsL ls cs)[k]? = some (min c l.most) := by
  unfold wantsL; rw [List.getElem?_zipWith, hl, hc]
theorem pick8 {x w : Int} (hx : 1 ≤ x) (hx2 : x ≤ 40) (h0 : 0 ≤ w) (h1 : w < 8) : ∃ n : Nat, atI [V.int 1, V.int 2, V.int 3, V.int 5, V.int 8, V.int 12, V.int 7, V.int x] w = some (V.int (n : Int)) ∧ 1 ≤ n ∧ n ≤ 40 := by
  rcases (by omega : w = 0 ∨ w = 1 ∨ w = 2 ∨ w = 3 ∨ w = 4 ∨ w = 5 ∨ w = 6 ∨ w = 7) with e | e | e | e | e | e | e | e <;> subst e
  · exact ⟨1, rfl, by omega, by omega⟩
  · exact ⟨2, rfl, by omega, by omega⟩
  · exact ⟨3, rfl, by omega, by omega⟩
  · exact ⟨5, rfl, by omega, by omega⟩
  · exact ⟨8, rfl, by omega, by omega⟩
  · exact ⟨12, rfl, by omega, by omega⟩
  · exact ⟨7, rfl, by omega, by omega⟩
  · exact ⟨x.toNat, by rw [Int.toNat_of_nonneg (by omega)]; rfl, by omega, by omega⟩
theorem pick2n {x y : Int} {w : Int} (h0 : 0 ≤ w) (h1 : w < 2) (hx : 0 ≤ x) (hy : 0 ≤ y) {k : Nat} (hxk : x < k) (hyk : y < k) : ∃ j : Nat, atI [V.int x, V.int y] w = some (V.int (j : Int)) ∧ j < k := by
  rcases (by omega : w = 0 ∨ w = 1) with e | e <;> subst e
  · exact ⟨x.toNat, by rw [Int.toNat_of_nonneg hx]; rfl, by omega⟩
  · exact ⟨y.toNat, by rw [Int.toNat_of_nonneg hy]; rfl, by omega⟩
theorem step_ok (a : Int) (n : Nat) : (1 + a % 2 * (if ((n : Int) - 2) > 0 then ((n : Int) - 2) else 0)) = 1 ∨ (1 + a % 2 * (if ((n : Int) - 2) > 0 then ((n : Int) - 2) else 0)) = (n : Int) - 1 := by
  rcases Int.emod_two_eq a with e | e
  · rw [e, Int.zero_mul]; exact .inl rfl
  · rw [e, Int.one_mul]
    split
    · right; omega
    · left; omega
abbrev s__law_river : Stmt := top 46
theorem sc__law_river : FnScope ["cell", "size", "xs", "step", "spots", "below", "k", "number"] ["cell"] (defScope s__law_river) := ⟨rfl, rfl, rfl, by decide +kernel, rfl, by decide +kernel, by decide +kernel⟩
def sp_river (T : Tabs) : Sp := fun vs H Q _ => ∃ (c : Int), vs = [.int c] ∧ TabsOk T H ∧ RetLT T H (fun xs => ∃ r, xs = r.map V.int ∧ Rv.River r ∧ 1 ≤ r.length ∧ r.length ≤ 40) Q
section
variable {P : Program} {w : World} {K : PySem.W.Frag} {mg : Str → Option Value} {base : Heap} {T : Tabs}
theorem ok_river {f f1 : Addr} {fd fd1 : FuncData} (D : Df K mg "_law_river" s__law_river ["cell"] f fd) (B : Blt mg)
    (D__law_mixed : Df K mg "_law_mixed" s__law_mixed ["cell", "many"] f1 fd1) (G__law_mixed : FnOk P w K mg base CX0 2 f1 fd1 ["cell", "many"] sp_drws) : FnOk P w K mg base CX0 3 f fd ["cell"] (sp_river T) := by
  refine D.F.ok sc__law_river (fun vs H Q E h => ?_) (fun cdv A outer s H vs Q E hr h => ?_)
  · obtain ⟨_, rfl, _⟩ := h; rfl
  · obtain ⟨c, rfl, tk, q⟩ := h
    change ∃ t, PSs _ (_ :: _) t ∧ _
    generalize hc0 : Expr.Constant (Const.int 1) 0 ⟨118, 12, 118, 13⟩ = a0
    have hA0 : ∀ X : Cx, PE X a0 (tC (.int 1)) := fun X => by rw [← hc0]; exact pe_int
    have hN0 : ∀ (es : List Expr) (env : Env), starEach (a0 :: es) env = (false, eval a0 env) :: starEach es env := fun es env => by rw [← hc0]; rfl
    generalize hc1 : Expr.Constant (Const.int 2) 0 ⟨118, 15, 118, 16⟩ = a1
    have hA1 : ∀ X : Cx, PE X a1 (tC (.int 2)) := fun X => by rw [← hc1]; exact pe_int
    have hN1 : ∀ (es : List Expr) (env : Env), starEach (a1 :: es) env = (false, eval a1 env) :: starEach es env := fun es env => by rw [← hc1]; rfl
    generalize hc2 : Expr.Constant (Const.int 3) 0 ⟨118, 18, 118, 19⟩ = a2
    have hA2 : ∀ X : Cx, PE X a2 (tC (.int 3)) := fun X => by rw [← hc2]; exact pe_int
    have hN2 : ∀ (es : List Expr) (env : Env), starEach (a2 :: es) env = (false, eval a2 env) :: starEach es env := fun es env => by rw [← hc2]; rfl
    generalize hc3 : Expr.Constant (Const.int 5) 0 ⟨118, 21, 118, 22⟩ = a3
    have hA3 : ∀ X : Cx, PE X a3 (tC (.int 5)) := fun X => by rw [← hc3]; exact pe_int
    have hN3 : ∀ (es : List Expr) (env : Env), starEach (a3 :: es) env = (false, eval a3 env) :: starEach es env := fun es env => by rw [← hc3]; rfl
    generalize hc4 : Expr.Constant (Const.int 8) 0 ⟨118, 24, 118, 25⟩ = a4
    have hA4 : ∀ X : Cx, PE X a4 (tC (.int 8)) := fun X => by rw [← hc4]; exact pe_int
    have hN4 : ∀ (es : List Expr) (env : Env), starEach (a4 :: es) env = (false, eval a4 env) :: starEach es env := fun es env => by rw [← hc4]; rfl
    generalize hc5 : Expr.Constant (Const.int 12) 0 ⟨118, 27, 118, 29⟩ = a5
    have hA5 : ∀ X : Cx, PE X a5 (tC (.int 12)) := fun X => by rw [← hc5]; exact pe_int
    have hN5 : ∀ (es : List Expr) (env : Env), starEach (a5 :: es) env = (false, eval a5 env) :: starEach es env := fun es env => by rw [← hc5]; rfl
    generalize hc6 : Expr.Constant (Const.int 7) 0 ⟨118, 31, 118, 32⟩ = a6
    have hA6 : ∀ X : Cx, PE X a6 (tC (.int 7)) := fun X => by rw [← hc6]; exact pe_int
    have hN6 : ∀ (es : List Expr) (env : Env), starEach (a6 :: es) env = (false, eval a6 env) :: starEach es env := fun es env => by rw [← hc6]; rfl
    refine ⟨_, (pss_cons (ps_set (i := 1) sc__law_river.nd rfl (Or.inr rfl) (pe_ix ix_list (pe_lst (pa_cons (hA0 _) (pa_cons (hA1 _) (pa_cons (hA2 _) (pa_cons (hA3 _) (pa_cons (hA4 _) (pa_cons (hA5 _) (pa_cons (hA6 _) (pa_cons (pe_op op_sub pe_int (pe_op op_mod (pe_op op_fdiv (pv 0) pe_int) pe_int)) pa_nil) (hN6 _ _)) (hN5 _ _)) (hN4 _ _)) (hN3 _ _)) (hN2 _ _)) (hN1 _ _)) (hN0 _ _))) (pe_op op_mod (pv 0) pe_int) (fun _ _ => rfl)))
      (pss_cons (ps_set (i := 2) sc__law_river.nd rfl (Or.inr rfl) (pe_call G__law_mixed (hr.mono (by decide)) rfl D__law_mixed.m D__law_mixed.F.kp D__law_mixed.b .nil pass0 (pa_cons (pe_op op_fdiv (pv 0) pe_int) (pa_cons (pe_op op_add (pv 1) pe_int) pa_nil))))
      (pss_cons (ps_set (i := 3) sc__law_river.nd rfl (Or.inr rfl) (pe_op op_add pe_int (pe_op op_mul (pe_op op_mod (pe_ix ix_list (pv 2) pe_int (fun _ _ => rfl)) pe_int) (pe_callB (call_max2 rfl) rfl B.max PyProof.Rows.boot_max (pa_cons pe_int (pa_cons (pe_op op_sub (pv 1) pe_int) pa_nil))))))
      (pss_cons (ps_setComp (i := 4) (defScope s__law_river) rfl ["cell", "size", "xs", "step", "spots", "below", "k", "number"] rfl ["k", "size", "xs", "step"] [none, some 1, some 2, some 3] (by decide +kernel) (by decide +kernel) (by decide +kernel) rfl sc__law_river.nd rfl rfl (pi_range1 rfl B.range (pa_cons (pv 1) pa_nil)) (fun _ _ _ => (pg_name (i := 0) (show (["k", "size", "xs", "step"] : List Str).Nodup by decide +kernel) rfl (Or.inl rfl))) (fun _ _ _ => pts_nil) (fun _ _ _ => (pe_op op_mod (pe_op op_add (pe_ix (ix_listK (K := K) rfl) (pv 2) pe_int (fun _ _ => rfl)) (pe_op op_mul (pv 3) (pv 0))) (pv 1))) rfl)
      (pss_cons (ps_set (i := 5) sc__law_river.nd rfl (Or.inl rfl) (pe_op op_rep (pe_lst (pa_cons (pe_un un_neg pe_int) pa_nil)) (pv 1)))
      (pss_cons (ps_for PassesOwn.never rfl (pi_range2 rfl B.range (pa_cons pe_int (pa_cons (pv 1) pa_nil))) (pg_name (i := 6) sc__law_river.nd rfl (Or.inl rfl))
        (pss_cons (ps_set (i := 7) sc__law_river.nd rfl (Or.inl rfl) (pe_ix ix_list (pv 2) (pe_op op_add (pv 6) pe_int) (fun _ _ => rfl)))
        (pss_one (ps_if (pt_cmpR op_gt (pe_op op_mod (pv 7) pe_int) pe_int (nomark _))
          (pss_one (ps_asg (pe_ix ix_list (pv 4) (pe_ix ix_list (pe_lst (pa_cons (pe_op op_sub (pv 6) pe_int) (pa_cons (pe_op op_mod (pe_op op_fdiv (pv 7) pe_int) (pv 6)) pa_nil))) (pe_op op_mod (pe_op op_fdiv (pv 7) pe_int) pe_int) (fun _ _ => rfl)) (fun _ _ => rfl)) (pg_sub (pv 5) (pe_ix ix_list (pv 4) (pv 6) (fun _ _ => rfl)) set_list)))
          pss_nil))))
      (pss_one (ps_ret (pv 5))))))))), ?_⟩
    refine sl_7 ?_
    intro zu0 zu1 zu2 zu3 zu4 zu5 zu6 zu7 zu8
    have O := Ow.refl tk
    have c0 := Int.emod_nonneg c (show (8 : Int) ≠ 0 by decide)
    have c1 := Int.emod_lt_of_pos c (show (0 : Int) < 8 by decide)
    have e0 := Int.emod_nonneg (c / 8) (show (40 : Int) ≠ 0 by decide)
    have e1 := Int.emod_lt_of_pos (c / 8) (show (0 : Int) < 40 by decide)
    refine ⟨_, rfl, _, _, rfl, rfl, ⟨by decide, by decide⟩, _, _, rfl, rfl, (by show (0 : Int) < 40; decide), _, _, rfl, rfl, szl, fun l1 h1 => ?_⟩
    walk_at "nw"
    obtain ⟨n, hv, n1, n40⟩ := pick8 (x := 40 - c / 8 % 40) (by omega) (by omega) c0 c1
    refine ⟨_, rfl, _, _, rfl, rfl, (by show (0 : Int) < 8; decide), l1, _, _, _, rfl, rfl, O.sq 0, hv, ?_⟩
    have O := O.tail
    refine ⟨_, rfl, _, _, rfl, rfl, ⟨by decide, by decide⟩, _, rfl, _, _, rfl, rfl, _, _, rfl, by omega, by omega, O.got fun lx H2 xs O e => ?_⟩
    obtain ⟨ys, rfl, hy⟩ := e
    have hyl : ys.length = n + 2 := by rw [hy, drws_len]; omega
    have hyn : ∀ k, 0 ≤ ys.getD k 0 := fun k => by rw [hy]; exact drws_nn
    have hst := step_ok (ys.getD (0 : Int).toNat 0) n
    refine ⟨_, rfl, lx, _, 0, _, rfl, rfl, O.sq 0, ints_atZ (by omega) (by omega), _, _, rfl, rfl, (by show (0 : Int) < 2; decide), _, rfl, _, _, rfl, rfl, _, _, rfl, _, _, rfl, rfl, .inl ⟨by omega, by omega⟩, _, _, rfl, rfl, ?_⟩
    dsimp only
    generalize (1 + ys.getD (0 : Int).toNat 0 % 2 * (if ((n : Int) - 2) > 0 then ((n : Int) - 2) else 0)) = st at hst
    have nn : (0 : Int) < (n : Int) := by omega
    refine ⟨_, rfl, (n : Int), rfl, by omega, by omega, fun acc hacc => ?_⟩
    refine comp_range (fun i τ H' => Iv (∃ (v0 : Option V), τ = [v0, some (.int (n : Int)), some (.ref lx), some (.int st)] ∧ Ow T H H' [(acc, .lst ((Rv.spots n (ys.getD (1 : Int).toNat 0) st i).map V.int)), (lx, .lst (ys.map V.int))])) ⟨trivial, none, rfl, O.mk' hacc rfl⟩ ?_ ?_
    · rintro i τ H3 hi ⟨-, v0, rfl, O⟩
      rw [show (0 : Int) + (i : Int) = (i : Int) by omega]
      refine yesT ?_
      refine ⟨_, rfl, lx, _, 1, _, rfl, rfl, O.sq 1, ints_atZ (by omega) (by omega), _, rfl, _, rfl, _, _, rfl, rfl, .inl ⟨by omega, by omega⟩, _, _, rfl, rfl, _, rfl, _, _, rfl, rfl, nn, ?_⟩
      refine ⟨_, O.get 0, small100' (by rw [List.length_map, Rv.spots_len]; omega), ?_⟩
      walk_at "pt"
      refine ⟨trivial, _, rfl, ?_⟩
      rw [Rv.spots_succ, List.map_append]; exact O
    rintro τ H3 ⟨-, v0, rfl, O⟩
    rw [Int.toNat_natCast] at O
    generalize ys.getD (1 : Int).toNat 0 = x1 at O
    refine ⟨_, rfl, szl, fun l2 h2 => ?_⟩
    walk_at "nw"
    refine ⟨_, rfl, l2, _, _, rfl, rfl, O.get 0, by omega, by omega, small100 (by rw [Int.toNat_natCast]; simp; omega), fun lb hlb => ?_⟩
    walk_at "nw"
    rw [Int.toNat_natCast, rep_intsV] at O
    have O := O.two
    refine ⟨_, rfl, 1, (n : Int), rfl, ⟨by omega, by omega, by omega, by omega⟩, ?_⟩
    rw [show ((n : Int) - 1).toNat = n - 1 by omega]
    refine for_range (n := n - 1) (fun i σ H' => Iv (∃ (v6 v7 : Option V) (b : List Int), σ = [some (.int c), some (.int (n : Int)), some (.ref lx), some (.int st), some (.ref acc), some (.ref lb), v6, v7] ∧ Rv.Lnk n (Rv.spot n x1 st) (i + 1) b ∧
      Ow T H H' [(lb, .lst (b.map V.int)), (acc, .lst ((Rv.spots n x1 st n).map V.int)), (lx, .lst (ys.map V.int))])) ⟨trivial, none, none, _, rfl, Rv.Lnk.start _ _, O⟩ ?_ ?_
    · rintro i σ H3 hi ⟨-, v6, v7, b, rfl, L, O⟩
      rw [show (1 : Int) + (i : Int) = ((i + 1 : Nat) : Int) by omega]
      have hz : 0 ≤ ys.getD (((i + 1 : Nat) : Int) + 1).toNat 0 := hyn _
      refine ⟨_, rfl, _, rfl, _, _, rfl, rfl, lx, _, _, _, rfl, rfl, O.sq 2, ints_atZ (by omega) (by omega), ?_⟩
      generalize ys.getD (((i + 1 : Nat) : Int) + 1).toNat 0 = z at hz
      refine ⟨_, rfl, _, _, rfl, rfl, (by show (0 : Int) < 7; decide), _, _, rfl, rfl, _, rfl, ifD (fun hc => ?_) fun hc => ?_⟩
      · have m0 := Int.emod_nonneg (z / 14) (show ((i + 1 : Nat) : Int) ≠ 0 by omega)
        have m1 := Int.emod_lt_of_pos (z / 14) (show (0 : Int) < ((i + 1 : Nat) : Int) by omega)
        obtain ⟨j, hj, hjk⟩ := pick2n (x := ((i + 1 : Nat) : Int) - 1) (y := z / 14 % ((i + 1 : Nat) : Int)) (w := z / 7 % 2) (by omega) (by omega) (by omega) m0 (k := i + 1) (by omega) m1
        refine ⟨_, rfl, _, rfl, _, _, rfl, rfl, _, rfl, _, _, rfl, rfl, ⟨by decide, by decide⟩, _, rfl, _, _, rfl, rfl, (by show (0 : Int) < ((i + 1 : Nat) : Int); omega), szl, fun l3 h3 => ?_⟩
        walk_at "nw"
        refine ⟨_, rfl, _, _, rfl, rfl, ⟨by decide, by decide⟩, _, _, rfl, rfl, (by show (0 : Int) < 2; decide), l3, _, _, _, rfl, rfl, O.sq 0, hj, acc, _, _, _, rfl, rfl, O.sq 2, ints_at (Rv.spots_at (by omega)), ?_⟩
        have O := O.tail
        have s0 := Rv.spot_nn (x := x1) (s := st) nn (i + 1)
        have s1 := Rv.spot_lt (x := x1) (s := st) nn (i + 1)
        refine ⟨_, rfl, _, rfl, _, rfl, acc, _, _, _, rfl, rfl, O.sq 1, ints_at (Rv.spots_at (by omega)), lb, _, _, _, rfl, rfl, O.get 0, ixN_Z s0 (by rw [List.length_map, L.len]; exact s1), ?_⟩
        walk_at "pt"
        refine ⟨trivial, _, _, _, rfl, L.turn (by omega) hjk s0, ?_⟩
        rw [List.map_set]; exact O
      · exact ⟨trivial, _, _, b, rfl, L.skip, O⟩
    · rintro σ H3 ⟨-, v6, v7, b, rfl, L, O⟩
      refine ⟨_, rfl, O.ret 0 rfl q ⟨b, rfl, L.river (Rv.spot_nn nn) (Rv.spot_lt nn) (fun j k hj hk h => Rv.spot_inj nn hst (by omega) (by omega) h) n1, by rw [L.len]; exact n1, by rw [L.len]; exact n40⟩⟩
end
abbrev s__law_way : Stmt := top 47
theorem sc__law_way : FnScope ["below", "reach", "way"] ["below", "reach"] (defScope s__law_way) := ⟨rfl, rfl, rfl, by decide +kernel, rfl, by decide +kernel, by decide +kernel⟩
def sp_lway (K : PySem.W.Frag) (T : Tabs) : Sp := fun vs H Q _ => ∃ (a : Addr) (r : List Int) (p : Int), vs = [.ref a, .int p] ∧ SqL K H a (r.map V.int) ∧ Rv.River r ∧ 0 ≤ p ∧ p < r.length ∧ r.length ≤ 900 ∧ TabsOk T H ∧ RetLT T H (fun xs => xs = (Rv.walk r p).map V.int) Q
section
variable {P : Program} {w : World} {K : PySem.W.Frag} {mg : Str → Option Value} {base : Heap}
theorem ok_lway {f : Addr} {fd : FuncData} {T : Tabs} (D : Df K mg "_law_way" s__law_way ["below", "reach"] f fd) : FnOk P w K mg base CX0 1 f fd ["below", "reach"] (sp_lway K T) := by
  refine D.F.ok sc__law_way (fun vs H Q E h => ?_) (fun cdv A outer s H vs Q E hr h => ?_)
  · obtain ⟨a, r, p, rfl, _⟩ := h; rfl
  · obtain ⟨a, r, p, rfl, hS, hR, p0, p1, hn, tk, q⟩ := h
    refine ⟨_, (pss_cons (ps_set (i := 2) sc__law_way.nd rfl (Or.inl rfl) (pe_lst pa_nil))
      (pss_cons (ps_while PassesOwn.never (pt_cmpR op_ne (pv 1) (pe_un un_neg pe_int) (nomark _))
        (pss_cons (ps_expr (pe_bm PySem.F.plainAttrs_list PySem.F.slot_list_append PySem.F.type_list_append mt_append (pv 2) (pa_cons (pv 1) pa_nil)))
        (pss_one (ps_set (i := 1) sc__law_way.nd rfl (Or.inl rfl) (pe_ix ix_list (pv 0) (pv 1) (fun _ _ => rfl))))))
      (pss_one (ps_ret (pv 2))))), ?_⟩
    refine sl_8 ?_
    intro zu0 zu1 zu2 zu3
    have O := Ow.refl tk
    refine ⟨szl, fun lw hlw => ?_⟩
    walk_at "nw"
    refine ⟨fun m σ H2 => ∃ (pre : List Int) (z : Int), σ = [some (.ref a), some (.int z), some (.ref lw)] ∧ Ow T H H2 [(lw, .lst (pre.map V.int))] ∧ (z = -1 ∨ (0 ≤ z ∧ z < r.length)) ∧ pre ++ Rv.walk r z = Rv.walk r p ∧ m = Rv.mea r z,
      ⟨_, [], p, rfl, O, .inr ⟨p0, p1⟩, rfl, rfl⟩, ?_⟩
    rintro m σ H2 ⟨pre, z, rfl, O, hz, e, rfl⟩
    refine ⟨_, rfl, _, rfl, rfl, _, rfl, ?_⟩
    rcases hz with rfl | ⟨z0, z1⟩
    · refine iteNS rfl ?_
      rw [Rv.walk_neg, List.append_nil] at e
      exact ⟨_, rfl, O.ret 0 rfl q (by rw [e])⟩
    · have hd : (!decide (V.int z = V.int (-1))) = true := by
        have : ¬ z = -1 := by omega
        simp [this]
      rw [hd]
      refine iteT ?_
      have hlen : pre.length + (Rv.walk r z).length ≤ r.length + 1 := by
        have := Rv.walk_len r p
        rw [← e, List.length_append] at this; exact this
      refine ⟨fun σ' H' => ∃ m', m' < Rv.mea r z ∧ ∃ (pre : List Int) (z : Int), σ' = [some (.ref a), some (.int z), some (.ref lw)] ∧ Ow T H H' [(lw, .lst (pre.map V.int))] ∧ (z = -1 ∨ (0 ≤ z ∧ z < r.length)) ∧ pre ++ Rv.walk r z = Rv.walk r p ∧ m' = Rv.mea r z, fun _ _ x => x, ?_⟩
      have g := Rv.get_nxt z0 z1
      refine ⟨_, rfl, .inl ⟨rfl, _, O.sq 0⟩, _, rfl, lw, _, _, rfl, rfl, O.get 0, small100' (by rw [List.length_map]; omega), ?_⟩
      walk_at "pt"
      refine ⟨_, rfl, _, rfl, a, _, _, _, rfl, rfl, O.same.seq hS, ints_atI z0 g, ?_⟩
      refine ⟨_, Rv.mea_lt hR z0 z1, pre ++ [z], Rv.nxt r z, rfl, ?_, hR.step z0 z1, ?_, rfl⟩
      · rw [List.map_append]; exact O
      · rw [List.append_assoc]
        show pre ++ (z :: Rv.walk r (Rv.nxt r z)) = _
        rw [← Rv.walk_cons hR z0 z1]; exact e
end
abbrev s__law_stretch : Stmt := top 48
theorem sc__law_stretch : FnScope ["below", "one", "way"] ["below", "one"] (defScope s__law_stretch) := ⟨rfl, rfl, rfl, by decide +kernel, rfl, by decide +kernel, by decide +kernel⟩
def sp_lst (K : PySem.W.Frag) (T : Tabs) : Sp := fun vs H Q _ => ∃ (a t : Addr) (r : List Int) (l : Lic), vs = [.ref a, .ref t] ∧ SqL K H a (r.map V.int) ∧ Rv.River r ∧ r.length ≤ 900 ∧ SqT K H t (vLic l) ∧ LicOk r l ∧ TabsOk T H ∧ RetLT T H (fun xs => xs = (Rv.strch r l.start l.back).map V.int) Q
section
variable {P : Program} {w : World} {K : PySem.W.Frag} {mg : Str → Option Value} {base : Heap} {T : Tabs}
theorem ok_lst {f fW : Addr} {fd fdW : FuncData} (D : Df K mg "_law_stretch" s__law_stretch ["below", "one"] f fd) (D__law_way : Df K mg "_law_way" s__law_way ["below", "reach"] fW fdW) (G__law_way : FnOk P w K mg base CX0 1 fW fdW ["below", "reach"] (sp_lway K T)) :
    FnOk P w K mg base CX0 2 f fd ["below", "one"] (sp_lst K T) := by
  refine D.F.ok sc__law_stretch (fun vs H Q E h => ?_) (fun cdv A outer s H vs Q E hr h => ?_)
  · obtain ⟨_, _, _, _, rfl, _⟩ := h; rfl
  · obtain ⟨a, t, r, l, rfl, hS, hR, hn, hT, ⟨p0, p1, hst⟩, tk, q⟩ := h
    refine ⟨_, (pss_cons (ps_set (i := 2) sc__law_stretch.nd rfl (Or.inl rfl) (pe_call G__law_way (hr.mono (by decide)) rfl D__law_way.m D__law_way.F.kp D__law_way.b .nil pass0 (pa_cons (pv 0) (pa_cons (pe_ix ix_tup (pv 1) pe_int (fun _ _ => rfl)) pa_nil))))
      (pss_cons (ps_if (pt_cmpR op_in_seq (pe_ix ix_tup (pv 1) pe_int (fun _ _ => rfl)) (pv 2) (by rfl))
        (pss_one (ps_ret (pe_slice sl_list (pv 2) po_none (po_some (pe_bm PySem.F.plainAttrs_list PySem.F.slot_list_index PySem.F.type_list_index mt_index (pv 2) (pa_cons (pe_ix ix_tup (pv 1) pe_int (fun _ _ => rfl)) pa_nil))))))
        pss_nil)
      (pss_one (ps_ret (pv 2))))), ?_⟩
    refine sl_9 ?_
    intro zu0 zu1 zu2
    have O := Ow.refl tk
    refine ⟨_, rfl, _, rfl, t, _, 1, _, rfl, rfl, hT, rfl, a, r, l.start, rfl, hS, hR, p0, p1, hn, tk, O.gotT fun lw H1 xs O e => ?_⟩
    subst e
    refine ⟨_, rfl, t, _, 2, _, rfl, rfl, hT.mo O.same, rfl, _, rfl, lw, _, rfl, .inl (O.sq 0), rfl, flat_ints _, _, rfl, ?_⟩
    rw [if_neg Bool.false_ne_true, in_ints]
    refine ifD (fun hm => ?_) fun hm => ?_
    · have hb : ¬ l.back = -1 := fun z => by
        have := (Rv.walk_mem hR _ p0 p1 _ hm).1
        omega
      refine ⟨_, rfl, _, rfl, .inl ⟨rfl, _, O.sq 0⟩, _, rfl, t, _, 2, _, rfl, rfl, hT.mo O.same, rfl, lw, _, l.back, rfl, rfl, O.sq 0, hm, _, rfl, lw, _, rfl, O.sq 0, fun l2 hl2 => ?_⟩
      walk_at "nw"
      refine O.ret 0 rfl q ?_
      rw [My.cut_take, take_idx]
      unfold Rv.strch; rw [if_neg hb]
    · have hb : l.back = -1 := hst.resolve_right hm
      refine ⟨_, rfl, O.ret 0 rfl q ?_⟩
      unfold Rv.strch; rw [if_pos hb]
end
theorem not_in_take {l : List Int} (nd : l.Nodup) {i : Nat} {z : Int} (hz : l[i]? = some z) : ¬ z ∈ l.take i := fun hmm => by
  obtain ⟨h1, h2⟩ := List.getElem?_eq_some_iff.mp hz
  obtain ⟨j, hj, ej⟩ := List.getElem_of_mem hmm
  rw [List.getElem_take] at ej
  rw [List.length_take] at hj
  have := (List.getElem_inj nd).mp (ej.trans h2.symm)
  omega
abbrev s__law_free : Stmt := top 49
theorem sc__law_free : FnScope ["below", "springs", "roll", "takes", "free", "reach", "rises", "low", "one", "take"] ["below", "springs", "roll", "takes"] (defScope s__law_free) := ⟨rfl, rfl, rfl, by decide +kernel, rfl, by decide +kernel, by decide +kernel⟩
def sp_fr2 (K : PySem.W.Frag) (T : Tabs) : Sp := fun vs H Q _ => ∃ (a b c d : Addr) (r s xs : List Int) (us : List V) (ls : List Lic), vs = [.ref a, .ref b, .ref c, .ref d] ∧ SqL K H a (r.map V.int) ∧ Rv.River r ∧ r.length < 64 ∧ SqL K H b (s.map V.int) ∧ s.length = r.length ∧ SqL K H c us ∧ Dens K H us (ls.map dLic) ∧ SqL K H d (xs.map V.int) ∧ xs.length = ls.length ∧ (∀ l ∈ ls, LicOk2 r l) ∧ TabsOk T H ∧
  RetLT T H (fun ys => ∃ fl, ys = fl.map V.int ∧ Rv.Fl r.length fl fun i => Rv.natf r s (i : Int) - Tn.hold ls.length (wayL r ls) (Tn.fX xs) (i : Int)) Q
section
variable {P : Program} {w : World} {K : PySem.W.Frag} {mg : Str → Option Value} {base : Heap} {T : Tabs}
theorem ok_fr2 {f fW f2 : Addr} {fd fdW fd2 : FuncData} (D : Df K mg "_law_free" s__law_free ["below", "springs", "roll", "takes"] f fd) (B : Blt mg) (D__law_stretch : Df K mg "_law_stretch" s__law_stretch ["below", "one"] f2 fd2) (G__law_stretch : FnOk P w K mg base CX0 2 f2 fd2 ["below", "one"] (sp_lst K T)) (D__law_way : Df K mg "_law_way" s__law_way ["below", "reach"] fW fdW) (G__law_way : FnOk P w K mg base CX0 1 fW fdW ["below", "reach"] (sp_lway K T)) :
    FnOk P w K mg base CX0 3 f fd ["below", "springs", "roll", "takes"] (sp_fr2 K T) := by
  refine D.F.ok sc__law_free (fun vs H Q E h => ?_) (fun cdv A outer s H vs Q E hr h => ?_)
  · obtain ⟨_, _, _, _, _, _, _, _, _, rfl, _⟩ := h; rfl
  · obtain ⟨a, b, c, d, r, sp, xs, us, ls, rfl, hS, hR, h64, hB, hl, hC, dws, hD, hxw, hok, tk, q⟩ := h
    refine ⟨_, (pss_cons (ps_set (i := 4) sc__law_free.nd rfl (Or.inl rfl) (pe_op op_rep (pe_lst (pa_cons pe_int pa_nil)) (pe_callB call_len_seq rfl B.len PySem.boot_len (pa_cons (pv 0) pa_nil))))
      (pss_cons (ps_for PassesOwn.never rfl (pi_enum rfl B.enumerate (pa_cons (pv 1) pa_nil)) (pg_tup rfl (pgs_cons (pg_name (i := 5) sc__law_free.nd rfl (Or.inl rfl)) (pgs_cons (pg_name (i := 6) sc__law_free.nd rfl (Or.inl rfl)) pgs_nil)))
        (pss_one (ps_for PassesOwn.never rfl (pi_list (pe_call G__law_way (hr.mono (by decide)) rfl D__law_way.m D__law_way.F.kp D__law_way.b .nil pass0 (pa_cons (pv 0) (pa_cons (pv 5) pa_nil)))) (pg_name (i := 7) sc__law_free.nd rfl (Or.inl rfl))
          (pss_one (ps_asg (pe_op op_add (pe_ix ix_list (pv 4) (pv 7) (fun _ _ => rfl)) (pv 6)) (pg_sub (pv 4) (pv 7) set_list))))))
      (pss_cons (ps_for PassesOwn.never rfl (pi_zip rfl B.zip (pa_cons (pv 2) (pa_cons (pv 3) pa_nil))) (pg_tup rfl (pgs_cons (pg_name (i := 8) sc__law_free.nd rfl (Or.inl rfl)) (pgs_cons (pg_name (i := 9) sc__law_free.nd rfl (Or.inl rfl)) pgs_nil)))
        (pss_one (ps_for PassesOwn.never rfl (pi_list (pe_call G__law_stretch (hr.mono (by decide)) rfl D__law_stretch.m D__law_stretch.F.kp D__law_stretch.b .nil pass0 (pa_cons (pv 0) (pa_cons (pv 8) pa_nil)))) (pg_name (i := 5) sc__law_free.nd rfl (Or.inl rfl))
          (pss_one (ps_asg (pe_op op_sub (pe_ix ix_list (pv 4) (pv 5) (fun _ _ => rfl)) (pv 9)) (pg_sub (pv 4) (pv 5) set_list))))))
      (pss_one (ps_ret (pv 4)))))), ?_⟩
    refine sl_10 ?_
    intro zu0 zu1 zu2 zu3 zu4 zu5 zu6
    have hml : (r.map V.int).length = r.length := List.length_map _
    have O := Ow.refl tk
    refine ⟨szl, fun l0 hl0 => ?_⟩
    walk_at "nw"
    refine ⟨_, rfl, a, _, rfl, .inl (O.same.seq hS), l0, _, _, rfl, rfl, O.get 0, by rw [hml]; omega, by rw [hml]; omega, small100 (by rw [hml, Int.toNat_natCast]; simp; omega), fun ld hld => ?_⟩
    walk_at "nw"
    rw [hml, Int.toNat_natCast, rep_intsV] at O
    have O := O.two
    refine ⟨_, rfl, b, _, rfl, O.same.seq hB, ?_⟩
    refine for_enum (K := K) (xs := sp.map V.int) (fun t σ H3 => Iv (∃ (v3 v4 v5 : Option V) (fl : List Int), σ = [some (.ref a), some (.ref b), some (.ref c), some (.ref d), some (.ref ld), v3, v4, v5, none, none] ∧ Ow T H H3 [(ld, .lst (fl.map V.int))] ∧ Rv.Fl r.length fl (Rv.wsum r sp t)))
      ⟨trivial, none, none, none, _, rfl, O, (Rv.Fl.rep r.length 0).cong fun i _ => rfl⟩ (fun _ _ _ _ ⟨_, _, _, _, _, _, O, _⟩ => O.same.seq hB) ?_ ?_
    · rintro t y t' σ H3 hy ⟨-, v3, v4, v5, fl, rfl, O, FL⟩ ht'
      obtain ⟨u, hu, rfl⟩ := ints_get hy
      have ht := (List.getElem?_eq_some_iff.mp hu).1
      have eu : u = sp.getD t 0 := by rw [List.getD_eq_getElem?_getD, hu]; rfl
      walk_at "nw"
      refine ⟨t', _, rfl, O.sqT 0, rfl, _, _, rfl, _, _, rfl, rfl, ?_⟩
      have O := O.tail
      refine ⟨_, rfl, _, rfl, a, r, (t : Int), rfl, O.same.seq hS, hR, by omega, by omega, by omega, O.same.t1, O.gotT fun lw H4 ws O ew => ?_⟩
      subst ew
      refine ⟨lw, rfl, ⟨_, O.sq 0⟩, ?_⟩
      refine for_list (K := K) (a := lw) (xs := (Rv.walk r (t : Int)).map V.int) (fun i σ H5 => Iv (∃ (v5 : Option V) (fl : List Int), σ = [some (.ref a), some (.ref b), some (.ref c), some (.ref d), some (.ref ld), some (.int (t : Int)), some (.int u), v5, none, none] ∧
        Ow T H H5 [(lw, .lst ((Rv.walk r (t : Int)).map V.int)), (ld, .lst (fl.map V.int))] ∧ Rv.MvI r (Rv.wsum r sp t) (-(sp.getD t 0)) ((Rv.walk r (t : Int)).take i) fl))
        ⟨trivial, v5, fl, rfl, O, Rv.MvI.start _ FL⟩ (fun _ _ _ _ ⟨_, _, _, _, O, _⟩ => O.sq 0) ?_ ?_
      · rintro i y σ H5 hy ⟨-, v5, fl, rfl, O, MI⟩
        obtain ⟨z, hz, rfl⟩ := ints_get hy
        obtain ⟨z0, z1⟩ := Rv.walk_mem hR (t : Int) (by omega) (by omega) z (List.mem_of_getElem? hz)
        obtain ⟨zn, rfl⟩ := Int.eq_ofNat_of_zero_le z0
        have hzl : zn < r.length := by omega
        obtain ⟨x, hx⟩ : ∃ x, fl[zn]? = some x := ⟨_, MI.at_ zn hzl⟩
        refine ⟨_, rfl, _, rfl, ld, _, _, _, rfl, rfl, O.sq 1, ints_at hx, _, rfl, _, _, rfl, rfl, _, rfl, _, rfl, ?_⟩
        refine ow_set O 1 rfl (ixN_nat (by rw [List.length_map, MI.len]; exact hzl)) fun H6 O => ?_
        refine ⟨trivial, _, fl.set zn (x + u), rfl, ?_, ?_⟩
        · rw [List.map_set]; exact O
        · rw [List.take_add_one, hz, eu, show x + sp.getD t 0 = x - -(sp.getD t 0) by omega]
          exact MI.turn hzl (not_in_take (Rv.walk_nd hR (by omega) (by omega)) hz) hx
      · rintro σ H5 ⟨-, v5, fl, rfl, O, MI⟩
        rw [List.length_map, List.take_length] at MI
        exact ⟨trivial, _, _, _, fl, rfl, O.tail, Rv.wsum_turn MI⟩
    rintro σ H3 ⟨-, v3, v4, v5, fl, rfl, O, FL⟩
    rw [List.length_map, hl] at FL
    have FL : Rv.Fl r.length fl fun i => Rv.natf r sp (i : Int) - Tn.hold 0 (wayL r ls) (Tn.fX xs) (i : Int) := FL.cong fun i _ => by
      show Rv.wsum r sp r.length i = Rv.natf r sp (i : Int) - 0
      rw [Rv.wsum_all]; omega
    have hul : us.length = ls.length := by rw [dws.length, List.length_map]
    refine ⟨_, rfl, _, rfl, c, d, _, _, rfl, O.same.seq hC, O.same.seq hD, ?_⟩
    refine for_zip (K := K) (fun t σ H4 => Iv (∃ (v5 v6 v7 v8 v9 : Option V) (fl : List Int), σ = [some (.ref a), some (.ref b), some (.ref c), some (.ref d), some (.ref ld), v5, v6, v7, v8, v9] ∧ Ow T H H4 [(ld, .lst (fl.map V.int))] ∧ Rv.Fl r.length fl fun i => Rv.natf r sp (i : Int) - Tn.hold t (wayL r ls) (Tn.fX xs) (i : Int)))
      (by rw [List.length_map]; omega) ⟨trivial, _, _, _, _, _, fl, rfl, O, FL⟩ (fun _ _ _ _ ⟨_, _, _, _, _, _, _, _, O, _⟩ => ⟨O.same.seq hC, O.same.seq hD⟩) ?_ ?_
    · rintro t x y t' σ H4 hx hy ⟨-, v5, v6, v7, v8, v9, fl, rfl, O, FL⟩ ht'
      obtain ⟨al, l, rfl, hl9, hT⟩ := dws.lic_get hx
      obtain ⟨u, hu, rfl⟩ := ints_get hy
      have hlo := hok l (List.mem_of_getElem? hl9)
      have eu : Tn.fX xs t = u := by unfold Tn.fX; rw [List.getD_eq_getElem?_getD, hu]; rfl
      have ew : wayL r ls t = Rv.strch r l.start l.back := wayL_at hl9
      obtain ⟨wnd, wrn⟩ := Rv.strch_ok hR hlo.1.1 hlo.1.2.1
      walk_at "nw"
      refine ⟨t', _, rfl, O.sqT 0, rfl, _, _, rfl, _, _, rfl, rfl, ?_⟩
      have O := O.tail
      refine ⟨_, rfl, _, rfl, a, al, r, l, rfl, O.same.seq hS, hR, by omega, hT.mo O.same, hlo.1, O.same.t1, O.gotT fun wa H9 ws9 O ew9 => ?_⟩
      subst ew9
      generalize hwj : Rv.strch r l.start l.back = wj at O ew wnd wrn
      refine ⟨wa, rfl, ⟨_, O.sq 0⟩, ?_⟩
      refine for_list (K := K) (a := wa) (xs := wj.map V.int) (fun i σ H5 => Iv (∃ (v5 : Option V) (fl : List Int), σ = [some (.ref a), some (.ref b), some (.ref c), some (.ref d), some (.ref ld), v5, v6, v7, some (.ref al), some (.int u)] ∧
        Ow T H H5 [(wa, .lst (wj.map V.int)), (ld, .lst (fl.map V.int))] ∧ Rv.MvI r (fun i => Rv.natf r sp (i : Int) - Tn.hold t (wayL r ls) (Tn.fX xs) (i : Int)) u (wj.take i) fl))
        ⟨trivial, v5, fl, rfl, O, Rv.MvI.start _ FL⟩ (fun _ _ _ _ ⟨_, _, _, _, O, _⟩ => O.sq 0) ?_ ?_
      · rintro i y σ H5 hy ⟨-, v5, fl, rfl, O, MI⟩
        obtain ⟨z, hz, rfl⟩ := ints_get hy
        obtain ⟨z0, z1⟩ := wrn z (List.mem_of_getElem? hz)
        obtain ⟨zn, rfl⟩ := Int.eq_ofNat_of_zero_le z0
        have hzl : zn < r.length := by omega
        obtain ⟨x, hx⟩ : ∃ x, fl[zn]? = some x := ⟨_, MI.at_ zn hzl⟩
        refine ⟨_, rfl, _, rfl, ld, _, _, _, rfl, rfl, O.sq 1, ints_at hx, _, rfl, _, _, rfl, rfl, _, rfl, _, rfl, ?_⟩
        refine ow_set O 1 rfl (ixN_nat (by rw [List.length_map, MI.len]; exact hzl)) fun H6 O => ?_
        refine ⟨trivial, _, fl.set zn (x - u), rfl, ?_, ?_⟩
        · rw [List.map_set]; exact O
        · rw [List.take_add_one, hz]
          exact MI.turn hzl (not_in_take wnd hz) hx
      · rintro σ H5 ⟨-, v5, fl, rfl, O, MI⟩
        rw [List.length_map, List.take_length] at MI
        refine ⟨trivial, _, _, _, _, _, fl, rfl, O.tail, Rv.Fl.cong MI fun i _ => ?_⟩
        show _ = Rv.natf r sp (i : Int) - (Tn.hold t (wayL r ls) (Tn.fX xs) (i : Int) + if (i : Int) ∈ wayL r ls t then Tn.fX xs t else 0)
        rw [ew, eu]; exact Int.sub_sub _ _ _
    rintro σ H4 ⟨-, v5, v6, v7, v8, v9, fl, rfl, O, FL⟩
    rw [hul] at FL
    exact ⟨_, rfl, O.ret 0 rfl q ⟨fl, rfl, FL⟩⟩
end
abbrev s_holds_of : Stmt := top 31
theorem sc_holds_of : FnScope ["below", "roll", "takes", "holds", "one", "take", "reach"] ["below", "roll", "takes"] (defScope s_holds_of) := ⟨rfl, rfl, rfl, by decide +kernel, rfl, by decide +kernel, by decide +kernel⟩
def holdL (r : List Int) (ls : List Lic) (xs : List Int) : List Int := Tn.bumps (List.replicate r.length 0) ((ls.zip xs).map fun p => (Rv.strch r p.1.start p.1.back, p.2))
def sp_holds (K : PySem.W.Frag) (T : Tabs) : Sp := fun vs H Q _ => ∃ (a b : Addr) (v : V) (r : List Int) (ls : List Lic) (xs : List Int), vs = [.ref a, v, .ref b] ∧ SqL K H a (r.map V.int) ∧ Rv.River r ∧ r.length ≤ 900 ∧ Den K H v (dRoll ls) ∧ SqL K H b (xs.map V.int) ∧ ls.length = xs.length ∧ (∀ l ∈ ls, LicOk r l) ∧ TabsOk T H ∧
  RetLT T H (fun ys => ys = (holdL r ls xs).map V.int) Q
theorem zip_next {ls : List Lic} {xs : List Int} {i : Nat} {l : Lic} {x : Int} (hl : ls[i]? = some l) (hx : xs[i]? = some x) : (ls.take (i + 1)).zip (xs.take (i + 1)) = (ls.take i).zip (xs.take i) ++ [(l, x)] := by
  have h1 := (List.getElem?_eq_some_iff.mp hl).1
  have h2 := (List.getElem?_eq_some_iff.mp hx).1
  rw [Tn.take_next hl, Tn.take_next hx, List.zip_append (by rw [List.length_take, List.length_take]; omega)]; rfl
theorem holdL_next {r : List Int} {ls : List Lic} {xs : List Int} {i : Nat} {l : Lic} {x : Int} (hl : ls[i]? = some l) (hx : xs[i]? = some x) : holdL r (ls.take (i + 1)) (xs.take (i + 1)) = Tn.bump (holdL r (ls.take i) (xs.take i)) (Rv.strch r l.start l.back) x := by
  unfold holdL
  rw [zip_next hl hx, List.map_append]; exact Tn.bumps_snoc _ _ _
theorem holdL_len (r : List Int) (ls : List Lic) (xs : List Int) : (holdL r ls xs).length = r.length := by unfold holdL; rw [Tn.bumps_len, List.length_replicate]
section
variable {P : Program} {w : World} {K : PySem.W.Frag} {mg : Str → Option Value} {base : Heap} {T : Tabs}
theorem ok_holds {f f1 : Addr} {fd fd1 : FuncData} (D : Df K mg "holds_of" s_holds_of ["below", "roll", "takes"] f fd) (B : Blt mg) (D_reaches_of : Df K mg "reaches_of" s_reaches_of ["below", "one"] f1 fd1) (G_reaches_of : FnOk P w K mg base CX0 3 f1 fd1 ["below", "one"] (sp_reaches K)) :
    FnOk P w K mg base CX0 4 f fd ["below", "roll", "takes"] (sp_holds K T) := by
  refine D.F.ok sc_holds_of (fun vs H Q E h => ?_) (fun cdv A outer s H vs Q E hr h => ?_)
  · obtain ⟨_, _, _, _, _, _, rfl, _⟩ := h; rfl
  · obtain ⟨a, b, v, r, ls, xs, rfl, hA, hR, hn, hd, hB, hlx, ok, tk, q⟩ := h
    obtain ⟨va, vs, rfl, hV, hds⟩ := hd.list_inv
    have hvl : vs.length = ls.length := by rw [hds.length, List.length_map]
    refine ⟨_, (pss_cons (ps_set (i := 3) sc_holds_of.nd rfl (Or.inl rfl) (pe_op op_rep (pe_lst (pa_cons pe_int pa_nil)) (pe_callB call_len_seq rfl B.len PySem.boot_len (pa_cons (pv 0) pa_nil))))
      (pss_cons (ps_for PassesOwn.never rfl (pi_zip rfl B.zip (pa_cons (pv 1) (pa_cons (pv 2) pa_nil))) (pg_tup rfl (pgs_cons (pg_name (i := 4) sc_holds_of.nd rfl (Or.inl rfl)) (pgs_cons (pg_name (i := 5) sc_holds_of.nd rfl (Or.inl rfl)) pgs_nil)))
        (pss_one (ps_for PassesOwn.never rfl (pi_list (pe_call G_reaches_of (hr.mono (by decide)) rfl D_reaches_of.m D_reaches_of.F.kp D_reaches_of.b .nil pass0 (pa_cons (pv 0) (pa_cons (pv 4) pa_nil)))) (pg_name (i := 6) sc_holds_of.nd rfl (Or.inl rfl))
          (pss_one (ps_augS (pv 3) (pv 6) get_list (pv 5) ip_add set_list)))))
      (pss_one (ps_ret (pv 3))))), ?_⟩
    refine sl_11 ?_
    intro zu0 zu1 zu2 zu3
    have O := Ow.refl tk
    refine ⟨szl, fun l1 h1 => ?_⟩
    walk_at "nw"
    refine ⟨_, rfl, a, _, rfl, .inl (O.same.seq hA), l1, _, _, rfl, rfl, O.get 0, by rw [List.length_map]; omega, by rw [List.length_map]; omega, small100 (by rw [List.length_map, Int.toNat_natCast]; simp; omega), fun lh hlh => ?_⟩
    walk_at "nw"
    rw [List.length_map, Int.toNat_natCast, rep_intsV] at O
    have O := O.two
    refine ⟨_, rfl, _, rfl, va, b, _, _, rfl, O.same.seq hV, O.same.seq hB, ?_⟩
    refine for_zip (K := K) (fun i σ H' => Iv (∃ v4 v5 v6 : Option V, σ = [some (.ref a), some (.ref va), some (.ref b), some (.ref lh), v4, v5, v6] ∧ Ow T H H' [(lh, .lst ((holdL r (ls.take i) (xs.take i)).map V.int))])) (by rw [List.length_map]; omega)
      ⟨trivial, none, none, none, rfl, O⟩ (fun i σ H' _ ⟨_, _, _, _, _, O⟩ => ⟨O.same.seq hV, O.same.seq hB⟩) ?_ ?_
    · rintro i x y t σ H2 hx hy ⟨-, v4, v5, v6, rfl, O⟩ ht
      obtain ⟨z, hz, rfl⟩ := ints_get hy
      obtain ⟨al, l, rfl, hl, hT⟩ := hds.lic_get hx
      have okl := ok l (List.mem_of_getElem? hl)
      have wok := Rv.strch_ok hR (b := l.back) okl.1 okl.2.1
      have hnext := holdL_next (r := r) hl hz
      have hcl := holdL_len r (ls.take i) (xs.take i)
      generalize holdL r (ls.take i) (xs.take i) = cur at O hnext hcl
      walk_at "nw"
      refine ⟨t, _, rfl, O.sqT 0, rfl, _, _, rfl, _, _, rfl, rfl, ?_⟩
      refine ⟨_, rfl, _, rfl, a, al, r, l, rfl, O.same.seq hA, hR, hn, hT.mo O.same, okl, O.got fun lw H3 ws O e => ?_⟩
      subst e
      have O := O.two
      generalize Rv.strch r l.start l.back = w at O wok hnext
      refine ⟨lw, rfl, ⟨_, O.sq 0⟩, ?_⟩
      refine for_list (K := K) (xs := w.map V.int) (fun j σ H' => Iv (∃ v6 : Option V, σ = [some (.ref a), some (.ref va), some (.ref b), some (.ref lh), some (.ref al), some (.int z), v6] ∧ Ow T H H' [(lw, .lst (w.map V.int)), (lh, .lst ((Tn.bump cur (w.take j) z).map V.int))]))
        ⟨trivial, v6, rfl, O⟩ (fun i σ H' _ ⟨_, _, _, O⟩ => O.sq 0) ?_ ?_
      · rintro j y σ H4 hy ⟨-, v6, rfl, O⟩
        obtain ⟨u, hu, rfl⟩ := ints_get hy
        obtain ⟨u0, u1⟩ := wok.2 u (List.mem_of_getElem? hu)
        obtain ⟨un, rfl⟩ := Int.eq_ofNat_of_zero_le u0
        have hbl : (Tn.bump cur (w.take j) z).length = r.length := by rw [Tn.bump_len, hcl]
        refine ⟨_, rfl, _, rfl, lh, _, un, _, rfl, rfl, O.sq 1, by rw [List.getElem?_map, getD_get? (by omega)]; rfl, ?_⟩
        refine ⟨_, rfl, _, _, rfl, rfl, lh, _, _, un, rfl, rfl, O.get 1, ixN_nat (by rw [List.length_map]; omega), ?_⟩
        walk_at "pt"
        refine ⟨trivial, _, rfl, ?_⟩
        rw [bump_next hu, Int.toNat_natCast, List.map_set]; exact O
      · rintro σ H4 ⟨-, v6, rfl, O⟩
        rw [List.length_map, List.take_of_length_le (Nat.le_refl _)] at O
        refine ⟨trivial, _, _, _, rfl, ?_⟩
        rw [hnext]; exact O.tail
    rintro σ H2 ⟨-, v4, v5, v6, rfl, O⟩
    refine ⟨_, rfl, O.ret 0 rfl q ?_⟩
    rw [hvl, List.take_of_length_le (Nat.le_refl _), List.take_of_length_le (by omega)]
end
abbrev s_free_of : Stmt := top 32
theorem sc_free_of : FnScope ["below", "springs", "roll", "takes", "natural"] ["below", "springs", "roll", "takes"] (defScope s_free_of) := ⟨rfl, rfl, rfl, by decide +kernel, rfl, by decide +kernel, by decide +kernel⟩
def freeL (r s : List Int) (ls : List Lic) (xs : List Int) : List Int := List.zipWith (fun x y => x - y) (Rv.nats r s) (holdL r ls xs)
def mvsL (ls : List Lic) (xs : List Int) : List Rv.Mv := (ls.zip xs).map fun p => (p.1.start, p.1.back, p.2)
theorem mvsL_len {ls : List Lic} {xs : List Int} (h : ls.length = xs.length) : (mvsL ls xs).length = ls.length := by
  unfold mvsL; rw [List.length_map, List.length_zip]; omega
theorem mvsL_get {ls : List Lic} {xs : List Int} {i : Nat} {l : Lic} {x : Int} (hl : ls[i]? = some l) (hx : xs[i]? = some x) : (mvsL ls xs)[i]? = some (l.start, l.back, x) := by
  unfold mvsL
  have e : (ls.zip xs)[i]? = some (l, x) := List.getElem?_zip_eq_some.mpr ⟨hl, hx⟩
  rw [List.getElem?_map, e]; rfl
theorem nats_len (r s : List Int) : (Rv.nats r s).length = r.length := (Rv.nats_fl r s).len
theorem freeL_len (r s : List Int) (ls : List Lic) (xs : List Int) : (freeL r s ls xs).length = r.length := by
  unfold freeL; rw [List.length_zipWith, nats_len, holdL_len, Nat.min_self]
theorem hold_at {r : List Int} {ls : List Lic} {xs : List Int} (hR : Rv.River r) (h : ∀ l ∈ ls, LicOk r l) (i : Nat) : (holdL r ls xs).getD i 0 = Rv.msum r (mvsL ls xs) (i : Int) := by
  unfold holdL mvsL Rv.msum
  rw [Tn.bumps_get (fun p hp => ?_) i, List.map_map, List.map_map]
  · have : (List.replicate r.length (0 : Int)).getD i 0 = 0 := by
      rw [List.getD_eq_getElem?_getD, List.getElem?_replicate]; split <;> rfl
    rw [this, Int.zero_add]; rfl
  · obtain ⟨q, hq, rfl⟩ := List.mem_map.mp hp
    obtain ⟨h0, h1, _⟩ := h _ (List.of_mem_zip hq).1
    rw [List.length_replicate]
    exact Rv.strch_ok hR h0 h1
theorem freeL_eq {r : List Int} (s : List Int) {ls : List Lic} {xs : List Int} (hR : Rv.River r) (h : ∀ l ∈ ls, LicOk r l) : freeL r s ls xs = Rv.flws r s (mvsL ls xs) := by
  refine Rv.Fl.ext (n := r.length) (g := fun i => Rv.natf r s (i : Int) - Rv.msum r (mvsL ls xs) (i : Int)) ⟨freeL_len .., fun i hi => ?_⟩ (Rv.flws_fl r s _)
  unfold freeL
  rw [List.getElem?_zipWith, (Rv.nats_fl r s).at_ i hi, getD_get? (ns := holdL r ls xs) (by rw [holdL_len]; exact hi), hold_at hR h]
def sp_free (K : PySem.W.Frag) (T : Tabs) : Sp := fun vs H Q _ => ∃ (a b c : Addr) (v : V) (r s : List Int) (ls : List Lic) (xs : List Int), vs = [.ref a, .ref b, v, .ref c] ∧ rvIn K H a r ∧ SqL K H b (s.map V.int) ∧ s.length = r.length ∧ Den K H v (dRoll ls) ∧ SqL K H c (xs.map V.int) ∧ ls.length = xs.length ∧ (∀ l ∈ ls, LicOk r l) ∧ TabsOk T H ∧
  RetLT T H (fun ys => ys = (freeL r s ls xs).map V.int) Q
theorem freeL_next {ys zs : List Int} {i : Nat} {a b : Int} (ha : ys[i]? = some a) (hb : zs[i]? = some b) : List.zipWith (fun x y => x - y) (ys.take (i + 1)) (zs.take (i + 1)) = List.zipWith (fun x y : Int => x - y) (ys.take i) (zs.take i) ++ [a - b] := by
  have h1 := (List.getElem?_eq_some_iff.mp ha).1
  have h2 := (List.getElem?_eq_some_iff.mp hb).1
  rw [Tn.take_next ha, Tn.take_next hb, List.zipWith_append (by rw [List.length_take, List.length_take]; omega)]; rfl
section
variable {P : Program} {w : World} {K : PySem.W.Frag} {mg : Str → Option Value} {base : Heap} {T : Tabs}
theorem ok_free {f f1 f2 : Addr} {fd fd1 fd2 : FuncData} (D : Df K mg "free_of" s_free_of ["below", "springs", "roll", "takes"] f fd) (B : Blt mg)
    (D_natural_of : Df K mg "natural_of" s_natural_of ["below", "springs"] f1 fd1) (G_natural_of : FnOk P w K mg base CX0 6 f1 fd1 ["below", "springs"] (sp_nat K T))
    (D_holds_of : Df K mg "holds_of" s_holds_of ["below", "roll", "takes"] f2 fd2) (G_holds_of : FnOk P w K mg base CX0 4 f2 fd2 ["below", "roll", "takes"] (sp_holds K T)) :
    FnOk P w K mg base CX0 7 f fd ["below", "springs", "roll", "takes"] (sp_free K T) := by
  refine D.F.ok sc_free_of (fun vs H Q E h => ?_) (fun cdv A outer s H vs Q E hr h => ?_)
  · obtain ⟨_, _, _, _, _, _, _, _, rfl, _⟩ := h; rfl
  · obtain ⟨a, b, c, v, r, sp, ls, xs, rfl, ⟨hA, hR, h64⟩, hB, hsl, hd, hC, hlx, ok, tk, q⟩ := h
    refine ⟨_, (pss_cons (ps_set (i := 4) sc_free_of.nd rfl (Or.inl rfl) (pe_call G_natural_of (hr.mono (by decide)) rfl D_natural_of.m D_natural_of.F.kp D_natural_of.b .nil pass0 (pa_cons (pv 0) (pa_cons (pv 1) pa_nil))))
      (pss_one (ps_ret (pe_comp (defScope s_free_of) rfl ["below", "springs", "roll", "takes", "natural"] rfl ["flow", "held"] [none, none] (by decide +kernel) (by decide +kernel) (by decide +kernel) rfl (pi_zip rfl B.zip (pa_cons (pv 4) (pa_cons (pe_call G_holds_of (hr.mono (by decide)) rfl D_holds_of.m D_holds_of.F.kp D_holds_of.b .nil pass0 (pa_cons (pv 0) (pa_cons (pv 2) (pa_cons (pv 3) pa_nil)))) pa_nil))) (fun _ _ _ => (pg_tupK (K := K) (n := 2) rfl rfl (pgs_cons (pg_name (i := 0) (show (["flow", "held"] : List Str).Nodup by decide +kernel) rfl (Or.inl rfl)) (pgs_cons (pg_name (i := 1) (show (["flow", "held"] : List Str).Nodup by decide +kernel) rfl (Or.inl rfl)) pgs_nil)))) (fun _ _ _ => pts_nil) (fun _ _ _ => (pe_op op_sub (pv 0) (pv 1))))))), ?_⟩
    refine sl_6 ?_
    intro zu0
    have O := Ow.refl tk
    refine ⟨_, rfl, _, rfl, a, b, r, sp, rfl, ⟨hA, hR, h64⟩, hB, hsl, tk, O.gotT fun ln H1 ys O e => ?_⟩
    subst e
    refine ⟨_, rfl, _, rfl, _, rfl, _, rfl, a, c, v, r, ls, xs, rfl, O.same.seq hA, hR, by omega, hd.monoT O.same, O.same.seq hC, hlx, ok, O.same.t1, O.gotT fun lh H2 zs O e => ?_⟩
    subst e
    refine ⟨ln, lh, _, _, rfl, O.sq 1, O.sq 0, fun acc hacc => ?_⟩
    have hnl := nats_len r sp
    have hhl := holdL_len r ls xs
    refine comp_zip (K := K) (fun i τ H' => Iv (∃ (v0 v1 : Option V), τ = [v0, v1] ∧ Ow T H H' [(acc, .lst ((List.zipWith (fun x y : Int => x - y) ((Rv.nats r sp).take i) ((holdL r ls xs).take i)).map V.int)), (lh, .lst ((holdL r ls xs).map V.int)), (ln, .lst ((Rv.nats r sp).map V.int))])) (by rw [List.length_map, List.length_map]; omega)
      ⟨trivial, none, none, rfl, O.mk' hacc rfl⟩ (fun i τ H' _ ⟨_, _, _, _, O⟩ => ⟨O.sq 2, O.sq 1⟩) ?_ ?_
    · rintro i x y t τ H' hx hy ⟨-, v0, v1, rfl, O⟩ ht
      obtain ⟨z, hz, rfl⟩ := ints_get hy
      obtain ⟨u, hu, rfl⟩ := ints_get hx
      have hi := (List.getElem?_eq_some_iff.mp hz).1
      walk_at "nw"
      refine ⟨t, _, rfl, O.sqT 0, rfl, _, _, rfl, _, _, rfl, rfl, ?_⟩
      refine yes2 ?_
      refine ⟨_, rfl, _, rfl, _, _, rfl, rfl, ?_⟩
      refine ⟨_, O.get 1, small100' (by rw [List.length_map, List.length_zipWith, List.length_take]; omega), ?_⟩
      walk_at "pt"
      refine ⟨trivial, _, _, rfl, ?_⟩
      rw [freeL_next hu hz, List.map_append]
      exact O.tail
    · rintro τ H' ⟨-, v0, v1, rfl, O⟩
      refine O.ret 0 rfl q ?_
      rw [List.length_map, List.take_of_length_le (Nat.le_refl _), List.take_of_length_le (by omega)]; rfl
end
abbrev s_comes_ahead : Stmt := top 36
theorem sc_comes_ahead : FnScope ["roll", "number", "nth", "other", "mth"] ["roll", "number", "nth", "other", "mth"] (defScope s_comes_ahead) := ⟨rfl, rfl, rfl, by decide +kernel, rfl, by decide +kernel, by decide +kernel⟩
def sp_ca (K : PySem.W.Frag) : Sp := fun vs H Q _ => ∃ (v : V) (ls : List Lic) (i j : Nat) (li lj : Lic) (n m : Int), vs = [v, .int (i : Int), .int n, .int (j : Int), .int m] ∧ Den K H v (dRoll ls) ∧ ls[i]? = some li ∧ ls[j]? = some lj ∧
  ∀ (H' : Hp) (b : Bool), Same H H' → (b = true ↔ (li.day < lj.day ∨ li.day = lj.day ∧ (n < m ∨ n = m ∧ (i : Int) < (j : Int)))) → Q (.bl b) H'
section
variable {P : Program} {w : World} {K : PySem.W.Frag} {mg : Str → Option Value} {base : Heap}
theorem ok_ca {f f1 : Addr} {fd fd1 : FuncData} (D : Df K mg "comes_ahead" s_comes_ahead ["roll", "number", "nth", "other", "mth"] f fd) (D_day_filed : Df K mg "day_filed" s_day_filed ["one"] f1 fd1) (G_day_filed : FnOk P w K mg base CX0 1 f1 fd1 ["one"] (sp_day K)) :
    FnOk P w K mg base CX0 2 f fd ["roll", "number", "nth", "other", "mth"] (sp_ca K) := by
  refine D.F.ok sc_comes_ahead (fun vs H Q E h => ?_) (fun cdv A outer s H vs Q E hr h => ?_)
  · obtain ⟨_, _, _, _, _, _, _, _, rfl, _⟩ := h; rfl
  · obtain ⟨v, ls, i, j, li, lj, n, m, rfl, hd, hi, hj, q⟩ := h
    have hu := hr.units
    obtain ⟨a, xs, rfl, hL, hds⟩ := hd.list_inv
    obtain ⟨ai, hxi, hTi⟩ := hds.lic_at hi
    obtain ⟨aj, hxj, hTj⟩ := hds.lic_at hj
    refine ⟨_, (pss_one (ps_ret (pe_cmpR (op_ltT (Nat.lt_of_le_of_lt (Nat.le_add_right _ 64) hu)) (pe_tup (pa_cons (pe_call G_day_filed (hr.mono (by decide)) rfl D_day_filed.m D_day_filed.F.kp D_day_filed.b .nil pass0 (pa_cons (pe_ix ix_list (pv 0) (pv 1) (fun _ _ => rfl)) pa_nil)) (pa_cons (pv 2) (pa_cons (pv 1) pa_nil)))) (pe_tup (pa_cons (pe_call G_day_filed (hr.mono (by decide)) rfl D_day_filed.m D_day_filed.F.kp D_day_filed.b .nil pass0 (pa_cons (pe_ix ix_list (pv 0) (pv 3) (fun _ _ => rfl)) pa_nil)) (pa_cons (pv 4) (pa_cons (pv 3) pa_nil)))) (nomark _)))), ?_⟩
    refine ⟨_, rfl, _, rfl, _, _, _, _, rfl, rfl, hL, atI_nat hxi, ai, li, rfl, hTi, _, rfl, _, rfl, szl, fun t1 h1 => ?_⟩
    have s1 : Same H (upd H t1 (.tup [.int li.day, .int n, .int (i : Int)])) := (Same.refl H).upd h1
    refine ⟨_, rfl, _, rfl, _, _, _, _, rfl, rfl, s1.seq hL, atI_nat hxj, aj, lj, rfl, s1.seqT hTj, _, rfl, _, rfl, szl, fun t2 h2 => ?_⟩
    refine ⟨t1, t2, [li.day, n, (i : Int)], [lj.day, m, (j : Int)], rfl, rfl, SqT.of ?_, SqT.of upd_same, q _ _ (s1.upd (s1.free h2)) (lex3 _ _ _ _ _ _)⟩
    rw [upd_ne (ne_of_none (H := upd H t1 _) upd_same h2)]; exact upd_same
end
def wsP (r : List Int) (ls : List Lic) : List (List Int) := ls.map fun l => Rv.strch r l.start l.back
abbrev s_stretches_of : Stmt := top 37
theorem sc_stretches_of : FnScope ["below", "roll"] ["below", "roll"] (defScope s_stretches_of) := ⟨rfl, rfl, rfl, by decide +kernel, rfl, by decide +kernel, by decide +kernel⟩
def sp_sts (K : PySem.W.Frag) (T : Tabs) : Sp := fun vs H Q _ => ∃ (a : Addr) (v : V) (r : List Int) (ls : List Lic), vs = [.ref a, v] ∧ SqL K H a (r.map V.int) ∧ Rv.River r ∧ r.length ≤ 900 ∧ Den K H v (dRoll ls) ∧ ls.length < 64 ∧ (∀ l ∈ ls, LicOk r l) ∧ TabsOk T H ∧
  ∀ (l : Addr) (H1 H' : Hp) (us : List V), SameT T H H1 → Ow T H1 H' [(l, .lst us)] → Dens K H1 us ((wsP r ls).map dInts) → Q (.ref l) H'
section
variable {P : Program} {w : World} {K : PySem.W.Frag} {mg : Str → Option Value} {base : Heap} {T : Tabs}
theorem ok_sts {f f1 : Addr} {fd fd1 : FuncData} (D : Df K mg "stretches_of" s_stretches_of ["below", "roll"] f fd) (B : Blt mg) (D_reaches_of : Df K mg "reaches_of" s_reaches_of ["below", "one"] f1 fd1) (G_reaches_of : FnOk P w K mg base CX0 3 f1 fd1 ["below", "one"] (sp_reaches K)) :
    FnOk P w K mg base CX0 4 f fd ["below", "roll"] (sp_sts K T) := by
  refine D.F.ok sc_stretches_of (fun vs H Q E h => ?_) (fun cdv A outer s H vs Q E hr h => ?_)
  · obtain ⟨_, _, _, _, rfl, _⟩ := h; rfl
  · obtain ⟨a, v, r, ls, rfl, hA, hR, h9, hd, hl64, ok, tk, q⟩ := h
    obtain ⟨va, vs, rfl, hV, d0⟩ := hd.list_inv
    have hvl : vs.length = ls.length := by rw [d0.length, List.length_map]
    have hwsl : (wsP r ls).length = ls.length := List.length_map _
    refine ⟨_, (pss_one (ps_ret (pe_comp (defScope s_stretches_of) rfl ["below", "roll"] rfl ["one", "below"] [none, some 0] (by decide +kernel) (by decide +kernel) (by decide +kernel) rfl (pi_list (pv 1)) (fun _ _ _ => (pg_name (i := 0) (show (["one", "below"] : List Str).Nodup by decide +kernel) rfl (Or.inl rfl))) (fun _ _ _ => pts_nil) (fun _ _ _ => (pe_call G_reaches_of (hr.mono (by decide)) rfl D_reaches_of.m D_reaches_of.F.kp D_reaches_of.b .nil pass0 (pa_cons (pv 1) (pa_cons (pv 0) pa_nil))))))), ?_⟩
    have O := Ow.refl tk
    refine ⟨_, rfl, va, rfl, ⟨_, hV⟩, fun lS hlS => ?_⟩
    refine comp_list (K := K) (xs := vs) (fun i τ H' => Iv (∃ (v0 : Option V) (Hc : Hp) (us : List V), τ = [v0, some (.ref a)] ∧ SameT T H Hc ∧ Dens K Hc us (((wsP r ls).take i).map dInts) ∧ Ow T Hc H' [(lS, .lst us)]))
      ⟨trivial, none, H, [], rfl, O.same, .nil, O.mk' hlS rfl⟩ (fun i τ H' _ ⟨_, _, _, _, _, sc, _, O⟩ => (sc.trans O.same).seq hV) ?_ ?_
    · rintro i y τ H3 hy ⟨-, v0, Hc, us, rfl, sc, d1, O⟩
      have hi := (List.getElem?_eq_some_iff.mp hy).1
      obtain ⟨al, l, rfl, hl, hT⟩ := d0.lic_get hy
      have hul : us.length ≤ i := by rw [d1.length, List.length_map, List.length_take]; omega
      refine yesT ?_
      refine ⟨_, rfl, _, rfl, a, al, r, l, rfl, (sc.trans O.same).seq hA, hR, h9, (hT.mo sc).mo O.same, ok l (List.mem_of_getElem? hl), O.got fun lw H4 ws O e => ?_⟩
      subst e
      refine ⟨_, O.get 1, small100' (by omega), ?_⟩
      walk_at "pt"
      obtain ⟨Hd, O, sd, en⟩ := O.frz
      refine ⟨trivial, _, Hd, us ++ [.ref lw], rfl, sc.trans sd, ?_, O⟩
      have hw : (wsP r ls)[i]? = some (Rv.strch r l.start l.back) := by unfold wsP; rw [List.getElem?_map, hl]; rfl
      rw [List.take_add_one, hw, List.map_append]
      exact (d1.mo sd).append (.cons (Den.ints (SqL.of en)) .nil)
    rintro τ H3 ⟨-, v0, Hc, us, rfl, sc, d1, O⟩
    rw [hvl, List.take_of_length_le (by omega)] at d1
    exact q lS Hc _ us sc O d1
end
abbrev s_who_holds : Stmt := top 38
theorem sc_who_holds : FnScope ["stretches", "takes", "reach"] ["stretches", "takes", "reach"] (defScope s_who_holds) := ⟨rfl, rfl, rfl, by decide +kernel, rfl, by decide +kernel, by decide +kernel⟩
def whoL (W : Nat → List Int) (x : Nat → Int) (z : Int) (n : Nat) : List Nat := (List.range n).filter fun k => decide (0 < x k) && decide (z ∈ W k)
theorem whoL_succ (W : Nat → List Int) (x : Nat → Int) (z : Int) (n : Nat) : whoL W x z (n + 1) = whoL W x z n ++ (if 0 < x n ∧ z ∈ W n then [n] else []) := by
  unfold whoL; rw [List.range_succ, List.filter_append]
  congr 1
  by_cases h1 : 0 < x n <;> by_cases h2 : z ∈ W n <;> simp [h1, h2]
theorem whoL_mem {W : Nat → List Int} {x : Nat → Int} {z : Int} {n k : Nat} : k ∈ whoL W x z n ↔ k < n ∧ 0 < x k ∧ z ∈ W k := by
  unfold whoL; rw [List.mem_filter, List.mem_range, Bool.and_eq_true, decide_eq_true_iff, decide_eq_true_iff]
theorem whoL_len (W : Nat → List Int) (x : Nat → Int) (z : Int) (n : Nat) : (whoL W x z n).length ≤ n := by
  unfold whoL; refine Nat.le_trans (List.length_filter_le _ _) (by rw [List.length_range]; exact Nat.le_refl _)
theorem asI_snocP (g : List Nat) (k : Nat) : (Tn.asI (g ++ [k])).map V.int = (Tn.asI g).map V.int ++ [V.int (k : Int)] := by
  unfold Tn.asI; rw [List.map_append, List.map_append]; rfl
def sp_who (K : PySem.W.Frag) (T : Tabs) : Sp := fun vs H Q _ => ∃ (c d : Addr) (z : Int) (us : List V) (ws : List (List Int)) (xs : List Int), vs = [.ref c, .ref d, .int z] ∧ SqL K H c us ∧ Dens K H us (ws.map dInts) ∧ SqL K H d (xs.map V.int) ∧ xs.length = ws.length ∧ xs.length < 64 ∧ TabsOk T H ∧
  RetLT T H (fun ys => ys = (Tn.asI (whoL (Tn.fW ws) (Tn.fX xs) z xs.length)).map V.int) Q
section
variable {P : Program} {w : World} {K : PySem.W.Frag} {mg : Str → Option Value} {base : Heap} {T : Tabs}
theorem ok_who {f : Addr} {fd : FuncData} (D : Df K mg "who_holds" s_who_holds ["stretches", "takes", "reach"] f fd) (B : Blt mg) : FnOk P w K mg base CX0 1 f fd ["stretches", "takes", "reach"] (sp_who K T) := by
  refine D.F.ok sc_who_holds (fun vs H Q E h => ?_) (fun cdv A outer s H vs Q E hr h => ?_)
  · obtain ⟨_, _, _, _, _, _, rfl, _⟩ := h; rfl
  · obtain ⟨c, d, z, us, ws, xs, rfl, hC, dws, hD, hxw, h64, tk, q⟩ := h
    refine ⟨_, (pss_one (ps_ret (pe_comp (defScope s_who_holds) rfl ["stretches", "takes", "reach"] rfl ["number", "take", "reach", "stretches"] [none, none, some 2, some 0] (by decide +kernel) (by decide +kernel) (by decide +kernel) rfl (pi_enum rfl B.enumerate (pa_cons (pv 1) pa_nil)) (fun _ _ _ => (pg_tupK (K := K) (n := 2) rfl rfl (pgs_cons (pg_name (i := 0) (show (["number", "take", "reach", "stretches"] : List Str).Nodup by decide +kernel) rfl (Or.inl rfl)) (pgs_cons (pg_name (i := 1) (show (["number", "take", "reach", "stretches"] : List Str).Nodup by decide +kernel) rfl (Or.inl rfl)) pgs_nil)))) (fun _ _ _ => (pts_one (PW.pt (pw_and (pt_cmpR op_gt (pv 1) pe_int (nomark _)) (pw_and1 (pt_cmpR (op_in_seqK (K := K) rfl) (pv 2) (pe_ix (ix_listK (K := K) rfl) (pv 3) (pv 0) (fun _ _ => rfl)) (by rfl))))))) (fun _ _ _ => (pv 0))))), ?_⟩
    have O := Ow.refl tk
    refine ⟨_, rfl, d, _, rfl, hD, fun acc hacc => ?_⟩
    refine comp_enum (K := K) (xs := xs.map V.int) (fun i τ H' => Iv (∃ (v0 v1 : Option V), τ = [v0, v1, some (.int z), some (.ref c)] ∧ Ow T H H' [(acc, .lst ((Tn.asI (whoL (Tn.fW ws) (Tn.fX xs) z i)).map V.int))]))
      ⟨trivial, none, none, rfl, O.mk' hacc rfl⟩ (fun i τ H' _ ⟨_, _, _, _, O⟩ => O.same.seq hD) ?_ ?_
    · rintro i y t' τ H3 hy ⟨-, v0, v1, rfl, O⟩ ht'
      obtain ⟨u, hu, rfl⟩ := ints_get hy
      have hi := (List.getElem?_eq_some_iff.mp hu).1
      have eu : Tn.fX xs i = u := by unfold Tn.fX; rw [List.getD_eq_getElem?_getD, hu]; rfl
      obtain ⟨wj, hw⟩ : ∃ wj, ws[i]? = some wj := ⟨_, List.getElem?_eq_getElem (by omega)⟩
      obtain ⟨wa, hwa, hW⟩ := dws.way_at hw
      have ew : Tn.fW ws i = wj := by unfold Tn.fW; rw [List.getD_eq_getElem?_getD, hw]; rfl
      have hwl := whoL_len (Tn.fW ws) (Tn.fX xs) z i
      walk_at "nw"
      refine ⟨t', _, rfl, O.sqT 0, rfl, _, _, rfl, _, _, rfl, rfl, ?_⟩
      have O := O.tail
      have no : ¬ (0 < u ∧ z ∈ wj) → whoL (Tn.fW ws) (Tn.fX xs) z (i + 1) = whoL (Tn.fW ws) (Tn.fX xs) z i := fun h => by
        rw [whoL_succ, eu, ew, if_neg h, List.append_nil]
      refine ⟨_, rfl, _, _, rfl, rfl, _, rfl, ifD (fun h1 => ?_) fun h1 => iteF ⟨trivial, _, _, rfl, by rw [no fun h => h1 h.1]; exact O⟩⟩
      refine ⟨_, rfl, _, rfl, _, rfl, c, _, _, _, rfl, rfl, O.same.seq hC, atI_nat hwa, wa, _, rfl, .inl (hW.mo O.same), rfl, flat_ints _, _, rfl, ?_⟩
      rw [if_neg Bool.false_ne_true, in_ints]
      refine ifD (fun h2 => ?_) fun h2 => ⟨trivial, _, _, rfl, by rw [no fun h => h2 h.2]; exact O⟩
      refine ⟨_, rfl, _, O.get 0, small100' (by rw [List.length_map, Tn.ints_len]; omega), ?_⟩
      walk_at "pt"
      refine ⟨trivial, _, _, rfl, ?_⟩
      rw [whoL_succ, eu, ew, if_pos ⟨h1, h2⟩, asI_snocP]; exact O
    · rintro τ H3 ⟨-, v0, v1, rfl, O⟩
      rw [List.length_map] at O
      exact O.ret 0 rfl q rfl
end
abbrev s_all_ahead : Stmt := top 39
theorem sc_all_ahead : FnScope ["roll", "stretches", "takes", "number", "reach", "following", "holding"] ["roll", "stretches", "takes", "number", "reach"] (defScope s_all_ahead) := ⟨rfl, rfl, rfl, by decide +kernel, rfl, by decide +kernel, by decide +kernel⟩
def AllA (W : Nat → List Int) (day x : Nat → Int) (n k : Nat) (z : Int) : Prop := ∀ j, j < n → z ∈ W j → 0 < x j → Tn.Ahead (day j) (x j) j (day k) (x k + 1) k
def sp_ala (K : PySem.W.Frag) (T : Tabs) : Sp := fun vs H Q _ => ∃ (v : V) (c d : Addr) (k : Nat) (z : Int) (ls : List Lic) (us : List V) (ws : List (List Int)) (xs : List Int), vs = [v, .ref c, .ref d, .int (k : Int), .int z] ∧ Den K H v (dRoll ls) ∧ ls.length < 64 ∧ k < ls.length ∧ SqL K H c us ∧ Dens K H us (ws.map dInts) ∧ ws.length = ls.length ∧ SqL K H d (xs.map V.int) ∧ xs.length = ls.length ∧ TabsOk T H ∧
  ∀ (β : Bool) (H' : Hp), SameT T H H' → (β = true ↔ AllA (Tn.fW ws) (dayL ls) (Tn.fX xs) ls.length k z) → Q (.bl β) H'
section
variable {P : Program} {w : World} {K : PySem.W.Frag} {mg : Str → Option Value} {base : Heap} {T : Tabs}
theorem ok_ala {f f1 f2 : Addr} {fd fd1 fd2 : FuncData} (D : Df K mg "all_ahead" s_all_ahead ["roll", "stretches", "takes", "number", "reach"] f fd) (B : Blt mg)
    (D_who_holds : Df K mg "who_holds" s_who_holds ["stretches", "takes", "reach"] f1 fd1) (G_who_holds : FnOk P w K mg base CX0 1 f1 fd1 ["stretches", "takes", "reach"] (sp_who K T))
    (D_comes_ahead : Df K mg "comes_ahead" s_comes_ahead ["roll", "number", "nth", "other", "mth"] f2 fd2) (G_comes_ahead : FnOk P w K mg base CX0 2 f2 fd2 ["roll", "number", "nth", "other", "mth"] (sp_ca K)) : FnOk P w K mg base CX0 3 f fd ["roll", "stretches", "takes", "number", "reach"] (sp_ala K T) := by
  refine D.F.ok sc_all_ahead (fun vs H Q E h => ?_) (fun cdv A outer s H vs Q E hr h => ?_)
  · obtain ⟨_, _, _, _, _, _, _, _, _, rfl, _⟩ := h; rfl
  · obtain ⟨v, c, d, k, z, ls, us, ws, xs, rfl, hd, h64, hk, hC, dws, hwl, hD, hxl, tk, q⟩ := h
    have ex : xs[k]? = some (xs.getD k 0) := getD_get? (by omega)
    have elk := List.getElem?_eq_getElem hk
    have edk := dayL_at elk
    refine ⟨_, (pss_cons (ps_set (i := 5) sc_all_ahead.nd rfl (Or.inr rfl) (pe_op op_add (pe_ix ix_list (pv 2) (pv 3) (fun _ _ => rfl)) pe_int))
      (pss_cons (ps_set (i := 6) sc_all_ahead.nd rfl (Or.inl rfl) (pe_call G_who_holds (hr.mono (by decide)) rfl D_who_holds.m D_who_holds.F.kp D_who_holds.b .nil pass0 (pa_cons (pv 1) (pa_cons (pv 2) (pa_cons (pv 4) pa_nil)))))
      (pss_one (ps_ret (pe_callB (call_all rfl) rfl B.all PyProof.Rows.boot_all (pa_cons (pe_comp (defScope s_all_ahead) rfl ["roll", "stretches", "takes", "number", "reach", "following", "holding"] rfl ["other", "roll", "number", "following", "takes"] [none, some 0, some 3, some 5, some 2] (by decide +kernel) (by decide +kernel) (by decide +kernel) rfl (pi_list (pv 6)) (fun _ _ _ => (pg_name (i := 0) (show (["other", "roll", "number", "following", "takes"] : List Str).Nodup by decide +kernel) rfl (Or.inl rfl))) (fun _ _ _ => pts_nil) (fun _ _ _ => (pe_call G_comes_ahead (hr.mono (by decide)) rfl D_comes_ahead.m D_comes_ahead.F.kp D_comes_ahead.b .nil pass0 (pa_cons (pv 1) (pa_cons (pv 0) (pa_cons (pe_ix (ix_listK (K := K) rfl) (pv 4) (pv 0) (fun _ _ => rfl)) (pa_cons (pv 2) (pa_cons (pv 3) pa_nil)))))))) pa_nil)))))), ?_⟩
    refine sl_2 ?_
    intro zu0 zu1
    have O := Ow.refl tk
    refine ⟨_, rfl, _, rfl, d, _, _, _, rfl, rfl, hD, ints_at ex, _, _, rfl, rfl, ?_⟩
    refine ⟨_, rfl, _, rfl, _, rfl, c, d, z, us, ws, xs, rfl, hC, dws, hD, by omega, by omega, tk, O.gotT fun lg H1 ys O e => ?_⟩
    subst e
    have hgm : ∀ j, j ∈ whoL (Tn.fW ws) (Tn.fX xs) z xs.length ↔ j < xs.length ∧ 0 < Tn.fX xs j ∧ z ∈ Tn.fW ws j := fun j => whoL_mem
    have hgl := whoL_len (Tn.fW ws) (Tn.fX xs) z xs.length
    generalize whoL (Tn.fW ws) (Tn.fX xs) z xs.length = g at O hgm hgl
    refine ⟨_, rfl, lg, rfl, ⟨_, O.sq 0⟩, fun acc hacc => ?_⟩
    refine comp_list (K := K) (xs := (Tn.asI g).map V.int) (fun i τ H' => Iv (∃ (v0 : Option V) (bs : List Bool), τ = [v0, some v, some (.int (k : Int)), some (.int (xs.getD k 0 + 1)), some (.ref d)] ∧ bs.length = i ∧ (bs.all id = true ↔ ∀ j ∈ g.take i, Tn.Ahead (dayL ls j) (Tn.fX xs j) j (dayL ls k) (Tn.fX xs k + 1) k) ∧
      Ow T H H' [(acc, .lst (bs.map V.bl)), (lg, .lst ((Tn.asI g).map V.int))]))
      ⟨trivial, none, [], rfl, rfl, ⟨fun _ j hj => by simp at hj, fun _ => rfl⟩, O.mk' hacc rfl⟩ (fun i τ H' _ ⟨_, _, _, _, _, _, O⟩ => O.sq 1) ?_ ?_
    · rintro i y τ H3 hy ⟨-, v0, bs, rfl, hbl, iff, O⟩
      obtain ⟨u, hu, rfl⟩ := ints_get hy
      obtain ⟨j, hj, rfl⟩ := Tn.ints_some hu
      have hi := (List.getElem?_eq_some_iff.mp hj).1
      have hjl : j < ls.length := by
        have := ((hgm j).mp (List.mem_of_getElem? hj)).1
        omega
      have elj := List.getElem?_eq_getElem hjl
      have edj := dayL_at elj
      refine yesT ?_
      refine ⟨_, rfl, _, rfl, _, rfl, _, rfl, d, _, _, _, rfl, rfl, O.same.seq hD, ints_at (getD_get? (ns := xs) (k := j) (by omega)), _, rfl, _, rfl, v, ls, j, k, _, _, _, _, rfl, hd.mo O.same, elj, elk, fun H4 β s4 hβ => ?_⟩
      have O := O.call s4
      refine ⟨_, O.get 0, small100' (by rw [List.length_map]; omega), ?_⟩
      walk_at "pt"
      refine ⟨trivial, _, bs ++ [β], rfl, by rw [List.length_append, hbl]; rfl, ?_, by rw [List.map_append]; exact O⟩
      rw [List.all_append, Bool.and_eq_true, iff, Tn.take_next hj]
      rw [← edj, ← edk] at hβ
      constructor
      · rintro ⟨a, b⟩ m hm
        rcases List.mem_append.mp hm with e | e
        · exact a m e
        · have : m = j := by simpa using e
          subst this
          exact hβ.mp (by simpa using b)
      · intro a
        refine ⟨fun m hm => a m (List.mem_append_left _ hm), ?_⟩
        have := hβ.mpr (a j (List.mem_append_right _ (by simp)))
        simp [this]
    rintro τ H3 ⟨-, v0, bs, rfl, hbl, iff, O⟩
    rw [List.length_map, Tn.ints_len, List.take_of_length_le (Nat.le_refl _)] at iff
    refine ⟨acc, bs, rfl, O.sq 0, q _ _ O.same ?_⟩
    rw [iff]
    exact ⟨fun a j hj hz hp => a j ((hgm j).mpr ⟨by omega, hp, hz⟩), fun a j hj => a j (by have := ((hgm j).mp hj).1; omega) ((hgm j).mp hj).2.2 ((hgm j).mp hj).2.1⟩
end
abbrev s_first_showing : Stmt := top 40
theorem sc_first_showing : FnScope ["roll", "stretches", "dry", "takes", "number", "reach"] ["roll", "stretches", "dry", "takes", "number"] (defScope s_first_showing) := ⟨rfl, rfl, rfl, by decide +kernel, rfl, by decide +kernel, by decide +kernel⟩
def sp_fsh (K : PySem.W.Frag) (T : Tabs) : Sp := fun vs H Q _ => ∃ (v : V) (c e d : Addr) (k : Nat) (ls : List Lic) (us : List V) (ws : List (List Int)) (dy xs : List Int), vs = [v, .ref c, .ref e, .ref d, .int (k : Int)] ∧ Den K H v (dRoll ls) ∧ ls.length < 64 ∧ k < ls.length ∧ SqL K H c us ∧ Dens K H us (ws.map dInts) ∧ ws.length = ls.length ∧ SqL K H e (dy.map V.int) ∧ SqL K H d (xs.map V.int) ∧ xs.length = ls.length ∧ TabsOk T H ∧
  (∀ (i : Nat) (z : Int) (H' : Hp), SameT T H H' → (Tn.fW ws k)[i]? = some z → z ∈ dy → AllA (Tn.fW ws) (dayL ls) (Tn.fX xs) ls.length k z → (∀ y ∈ (Tn.fW ws k).take i, ¬ (y ∈ dy ∧ AllA (Tn.fW ws) (dayL ls) (Tn.fX xs) ls.length k y)) → Q (.int z) H') ∧
  ∀ H', SameT T H H' → (∀ y ∈ Tn.fW ws k, ¬ (y ∈ dy ∧ AllA (Tn.fW ws) (dayL ls) (Tn.fX xs) ls.length k y)) → Q .non H'
section
variable {P : Program} {w : World} {K : PySem.W.Frag} {mg : Str → Option Value} {base : Heap} {T : Tabs}
theorem ok_fsh {f f1 : Addr} {fd fd1 : FuncData} (D : Df K mg "first_showing" s_first_showing ["roll", "stretches", "dry", "takes", "number"] f fd)
    (D_all_ahead : Df K mg "all_ahead" s_all_ahead ["roll", "stretches", "takes", "number", "reach"] f1 fd1) (G_all_ahead : FnOk P w K mg base CX0 3 f1 fd1 ["roll", "stretches", "takes", "number", "reach"] (sp_ala K T)) : FnOk P w K mg base CX0 4 f fd ["roll", "stretches", "dry", "takes", "number"] (sp_fsh K T) := by
  refine D.F.ok sc_first_showing (fun vs H Q E h => ?_) (fun cdv A outer s H vs Q E hr h => ?_)
  · obtain ⟨_, _, _, _, _, _, _, _, _, _, rfl, _⟩ := h; rfl
  · obtain ⟨v, c, e, d, k, ls, us, ws, dy, xs, rfl, hd, h64, hk, hC, dws, hwl, hE, hD, hxl, tk, q1, q2⟩ := h
    obtain ⟨wj, hw⟩ : ∃ wj, ws[k]? = some wj := ⟨_, List.getElem?_eq_getElem (by omega)⟩
    obtain ⟨wa, hwa, hW⟩ := dws.way_at hw
    have ew : Tn.fW ws k = wj := by unfold Tn.fW; rw [List.getD_eq_getElem?_getD, hw]; rfl
    refine ⟨_, (pss_cons (ps_for PassesOwn.never rfl (pi_list (pe_ix ix_list (pv 1) (pv 4) (fun _ _ => rfl))) (pg_name (i := 5) sc_first_showing.nd rfl (Or.inl rfl))
        (pss_one (ps_if (PW.pt (pw_and (pt_cmpR op_in_seq (pv 5) (pv 2) (by rfl)) (pw_and1 (pt_val (pe_call G_all_ahead (hr.mono (by decide)) rfl D_all_ahead.m D_all_ahead.F.kp D_all_ahead.b .nil pass0 (pa_cons (pv 0) (pa_cons (pv 1) (pa_cons (pv 3) (pa_cons (pv 4) (pa_cons (pv 5) pa_nil))))))))))
          (pss_one (ps_ret (pv 5)))
          pss_nil)))
      (pss_one (ps_ret pe_non))), ?_⟩
    refine sl_12 ?_
    intro zu0 zu1 zu2
    have O := Ow.refl tk
    refine ⟨_, rfl, _, rfl, c, _, _, _, rfl, rfl, hC, atI_nat hwa, wa, rfl, ⟨_, hW⟩, ?_⟩
    refine for_list (K := K) (a := wa) (xs := wj.map V.int) (fun i σ H' => Iv (∃ v5 : Option V, σ = [some v, some (.ref c), some (.ref e), some (.ref d), some (.int (k : Int)), v5] ∧ (∀ y ∈ wj.take i, ¬ (y ∈ dy ∧ AllA (Tn.fW ws) (dayL ls) (Tn.fX xs) ls.length k y)) ∧ Ow T H H' []))
      ⟨trivial, none, rfl, fun y hy => by simp at hy, O⟩ (fun _ _ _ _ ⟨_, _, _, _, O⟩ => hW.mo O.same) ?_ ?_
    · rintro i y σ H3 hy ⟨-, v5, rfl, hno, O⟩
      obtain ⟨z, hz, rfl⟩ := ints_get hy
      have nx : ¬ (z ∈ dy ∧ AllA (Tn.fW ws) (dayL ls) (Tn.fX xs) ls.length k z) → ∀ y ∈ wj.take (i + 1), ¬ (y ∈ dy ∧ AllA (Tn.fW ws) (dayL ls) (Tn.fX xs) ls.length k y) := fun h y hy => by
        rw [List.take_add_one, hz] at hy
        rcases List.mem_append.mp hy with e | e
        · exact hno y e
        · have : y = z := by simpa using e
          rw [this]; exact h
      refine ⟨_, rfl, _, rfl, e, _, rfl, .inl (O.same.seq hE), rfl, flat_ints _, _, rfl, ?_⟩
      rw [if_neg Bool.false_ne_true, in_ints]
      refine ifD (fun h1 => ?_) fun h1 => iteF ⟨trivial, _, rfl, nx fun h => h1 h.1, O⟩
      refine ⟨_, rfl, _, rfl, _, rfl, _, rfl, _, rfl, v, c, d, k, z, ls, us, ws, xs, rfl, hd.mo O.same, h64, hk, O.same.seq hC, dws.mo O.same, hwl, O.same.seq hD, hxl, O.same.t1, fun β H4 sm hβ => ?_⟩
      have O := O.callT sm
      refine ⟨_, rfl, ifB (fun hb => ?_) fun hb => ?_⟩
      · exact ⟨_, rfl, q1 i z _ O.same (by rw [ew]; exact hz) h1 (hβ.mp hb) (by rw [ew]; exact hno)⟩
      · refine ⟨trivial, _, rfl, nx fun h => ?_, O⟩
        have := hβ.mpr h.2
        rw [hb] at this; cases this
    rintro σ H3 ⟨-, v5, rfl, hno, O⟩
    rw [List.length_map, List.take_length] at hno
    exact q2 _ O.same (by rw [ew]; exact hno)
end
theorem msum_hold {r : List Int} {ls : List Lic} {xs : List Int} (h : ls.length = xs.length) (i : Int) : Rv.msum r (mvsL ls xs) i = Tn.hold ls.length (wayL r ls) (Tn.fX xs) i := by
  unfold Rv.msum Tn.hold
  rw [← Rv.tot_sum, Rv.tot_sumN, List.length_map, mvsL_len h]
  refine Tn.sumN_congr fun k hk => ?_
  have e := List.getElem?_eq_getElem hk
  rw [List.getD_eq_getElem?_getD, List.getElem?_map, mvsL_get e (getD_get? (ns := xs) (by omega)), wayL_at e]; rfl
theorem free_get {r s : List Int} {ls : List Lic} {xs : List Int} (hR : Rv.River r) (ok : ∀ l ∈ ls, LicOk r l) (h : ls.length = xs.length) {i : Nat} (hi : i < r.length) : (freeL r s ls xs).getD i 0 = Tn.fF (Rv.nats r s) (i : Int) - Tn.hold ls.length (wayL r ls) (Tn.fX xs) (i : Int) := by
  rw [freeL_eq s hR ok, (Rv.flws_fl r s _).getD hi, msum_hold h, Rv.fF_nats (by omega) (by omega)]
def zerosL (fl : List Int) (n : Nat) : List Nat := (List.range n).filter fun i => decide (fl.getD i 0 = 0)
theorem zerosL_succ (fl : List Int) (n : Nat) : zerosL fl (n + 1) = zerosL fl n ++ (if fl.getD n 0 = 0 then [n] else []) := by
  unfold zerosL; rw [List.range_succ, List.filter_append]
  congr 1
  by_cases h : fl.getD n 0 = 0
  · rw [if_pos h, List.filter_cons, List.filter_nil, if_pos (decide_eq_true h)]
  · rw [if_neg h, List.filter_cons, List.filter_nil, if_neg (by rw [decide_eq_true_iff]; exact h)]
theorem zerosL_len (fl : List Int) (n : Nat) : (zerosL fl n).length ≤ n := by
  unfold zerosL; refine Nat.le_trans (List.length_filter_le _ _) (by rw [List.length_range]; exact Nat.le_refl _)
abbrev s_dry_of : Stmt := top 34
theorem sc_dry_of : FnScope ["below", "springs", "roll", "takes"] ["below", "springs", "roll", "takes"] (defScope s_dry_of) := ⟨rfl, rfl, rfl, by decide +kernel, rfl, by decide +kernel, by decide +kernel⟩
def sp_dry (K : PySem.W.Frag) (T : Tabs) : Sp := fun vs H Q _ => ∃ (a b c : Addr) (v : V) (r s : List Int) (ls : List Lic) (xs : List Int), vs = [.ref a, .ref b, v, .ref c] ∧ rvIn K H a r ∧ SqL K H b (s.map V.int) ∧ s.length = r.length ∧ Den K H v (dRoll ls) ∧ SqL K H c (xs.map V.int) ∧ ls.length = xs.length ∧ (∀ l ∈ ls, LicOk r l) ∧ TabsOk T H ∧
  RetLT T H (fun ys => ys = (Tn.asI (zerosL (freeL r s ls xs) r.length)).map V.int) Q
section
variable {P : Program} {w : World} {K : PySem.W.Frag} {mg : Str → Option Value} {base : Heap} {T : Tabs}
theorem ok_dry {f f1 : Addr} {fd fd1 : FuncData} (D : Df K mg "dry_of" s_dry_of ["below", "springs", "roll", "takes"] f fd) (B : Blt mg)
    (D_free_of : Df K mg "free_of" s_free_of ["below", "springs", "roll", "takes"] f1 fd1) (G_free_of : FnOk P w K mg base CX0 7 f1 fd1 ["below", "springs", "roll", "takes"] (sp_free K T)) : FnOk P w K mg base CX0 8 f fd ["below", "springs", "roll", "takes"] (sp_dry K T) := by
  refine D.F.ok sc_dry_of (fun vs H Q E h => ?_) (fun cdv A outer s H vs Q E hr h => ?_)
  · obtain ⟨_, _, _, _, _, _, _, _, rfl, _⟩ := h; rfl
  · obtain ⟨a, b, c, v, r, sp, ls, xs, rfl, ⟨hA, hR, h64⟩, hB, hsl, hd, hC, hlx, ok, tk, q⟩ := h
    refine ⟨_, (pss_one (ps_ret (pe_comp (defScope s_dry_of) rfl ["below", "springs", "roll", "takes"] rfl ["reach", "drops"] [none, none] (by decide +kernel) (by decide +kernel) (by decide +kernel) rfl (pi_enum rfl B.enumerate (pa_cons (pe_call G_free_of (hr.mono (by decide)) rfl D_free_of.m D_free_of.F.kp D_free_of.b .nil pass0 (pa_cons (pv 0) (pa_cons (pv 1) (pa_cons (pv 2) (pa_cons (pv 3) pa_nil))))) pa_nil)) (fun _ _ _ => (pg_tupK (K := K) (n := 2) rfl rfl (pgs_cons (pg_name (i := 0) (show (["reach", "drops"] : List Str).Nodup by decide +kernel) rfl (Or.inl rfl)) (pgs_cons (pg_name (i := 1) (show (["reach", "drops"] : List Str).Nodup by decide +kernel) rfl (Or.inl rfl)) pgs_nil)))) (fun _ _ _ => (pts_one (pt_cmpR op_eq (pv 1) pe_int (nomark _)))) (fun _ _ _ => (pv 0))))), ?_⟩
    have O := Ow.refl tk
    refine ⟨_, rfl, _, rfl, _, rfl, _, rfl, a, b, c, v, r, sp, ls, xs, rfl, ⟨hA, hR, h64⟩, hB, hsl, hd, hC, hlx, ok, tk, O.gotT fun lf H1 ys O e => ?_⟩
    subst e
    have hfl := freeL_len r sp ls xs
    generalize freeL r sp ls xs = fl at O hfl q
    refine ⟨lf, _, rfl, O.sq 0, fun acc hacc => ?_⟩
    refine comp_enum (K := K) (xs := fl.map V.int) (fun i τ H' => Iv (∃ (v0 v1 : Option V), τ = [v0, v1] ∧ Ow T H H' [(acc, .lst ((Tn.asI (zerosL fl i)).map V.int)), (lf, .lst (fl.map V.int))]))
      ⟨trivial, none, none, rfl, O.mk' hacc rfl⟩ (fun i τ H' _ ⟨_, _, _, _, O⟩ => O.sq 1) ?_ ?_
    · rintro i y t' τ H3 hy ⟨-, v0, v1, rfl, O⟩ ht'
      obtain ⟨u, hu, rfl⟩ := ints_get hy
      have hi := (List.getElem?_eq_some_iff.mp hu).1
      have eu : fl.getD i 0 = u := by rw [List.getD_eq_getElem?_getD, hu]; rfl
      have hzl := zerosL_len fl i
      walk_at "nw"
      refine ⟨t', _, rfl, O.sqT 0, rfl, _, _, rfl, _, _, rfl, rfl, ?_⟩
      have O := O.tail
      refine ⟨_, rfl, rfl, _, rfl, ifI (fun h1 => ?_) fun h1 => ⟨trivial, _, _, rfl, by rw [zerosL_succ, eu, if_neg h1, List.append_nil]; exact O⟩⟩
      refine ⟨_, rfl, _, O.get 0, small100' (by rw [List.length_map, Tn.ints_len]; omega), ?_⟩
      walk_at "pt"
      refine ⟨trivial, _, _, rfl, ?_⟩
      rw [zerosL_succ, eu, if_pos h1, asI_snocP]; exact O
    · rintro τ H3 ⟨-, v0, v1, rfl, O⟩
      rw [List.length_map, hfl] at O
      exact O.ret 0 rfl q rfl
end
abbrev s__law_springs : Stmt := top 51
theorem sc__law_springs : FnScope ["cell", "below", "roll", "takes", "springs", "one", "take", "reach", "x"] ["cell", "below", "roll", "takes"] (defScope s__law_springs) := ⟨rfl, rfl, rfl, by decide +kernel, rfl, by decide +kernel, by decide +kernel⟩
def sp_s26 (K : PySem.W.Frag) (T : Tabs) : Sp := fun vs H Q _ => ∃ (a b d : Addr) (c : Int) (r xs : List Int) (us : List V) (ls : List Lic), vs = [.int c, .ref a, .ref b, .ref d] ∧ SqL K H a (r.map V.int) ∧ r.length < 64 ∧ SqL K H b us ∧ Dens K H us (ls.map dLic) ∧ SqL K H d (xs.map V.int) ∧ xs.length = ls.length ∧ (∀ l ∈ ls, LicOk2 r l) ∧ TabsOk T H ∧ RetLT T H (fun ys => ∃ s : List Int, ys = s.map V.int ∧ s.length = r.length) Q
section
variable {P : Program} {w : World} {K : PySem.W.Frag} {mg : Str → Option Value} {base : Heap} {T : Tabs}
theorem ok_s26 {f f1 : Addr} {fd fd1 : FuncData} (D : Df K mg "_law_springs" s__law_springs ["cell", "below", "roll", "takes"] f fd) (B : Blt mg)
    (D__law_mixed : Df K mg "_law_mixed" s__law_mixed ["cell", "many"] f1 fd1) (G__law_mixed : FnOk P w K mg base CX0 2 f1 fd1 ["cell", "many"] sp_drws) : FnOk P w K mg base CX0 3 f fd ["cell", "below", "roll", "takes"] (sp_s26 K T) := by
  refine D.F.ok sc__law_springs (fun vs H Q E h => ?_) (fun cdv A outer s H vs Q E hr h => ?_)
  · obtain ⟨_, _, _, _, _, _, _, _, rfl, _⟩ := h; rfl
  · obtain ⟨a, b, d, c, r, xs, us, ls, rfl, hA, h64, hB, d0, hD, hxl, hok, tk, q⟩ := h
    refine ⟨_, (pss_cons (ps_set (i := 4) sc__law_springs.nd rfl (Or.inl rfl) (pe_op op_rep (pe_lst (pa_cons pe_int pa_nil)) (pe_callB call_len_seq rfl B.len PySem.boot_len (pa_cons (pv 1) pa_nil))))
      (pss_cons (ps_for PassesOwn.never rfl (pi_zip rfl B.zip (pa_cons (pv 2) (pa_cons (pv 3) pa_nil))) (pg_tup rfl (pgs_cons (pg_name (i := 5) sc__law_springs.nd rfl (Or.inl rfl)) (pgs_cons (pg_name (i := 6) sc__law_springs.nd rfl (Or.inl rfl)) pgs_nil)))
        (pss_one (ps_asg (pe_op op_add (pe_ix ix_list (pv 4) (pe_ix ix_tup (pv 5) pe_int (fun _ _ => rfl)) (fun _ _ => rfl)) (pv 6)) (pg_sub (pv 4) (pe_ix ix_tup (pv 5) pe_int (fun _ _ => rfl)) set_list))))
      (pss_cons (ps_for PassesOwn.never rfl (pi_enum rfl B.enumerate (pa_cons (pe_call G__law_mixed (hr.mono (by decide)) rfl D__law_mixed.m D__law_mixed.F.kp D__law_mixed.b .nil pass0 (pa_cons (pv 0) (pa_cons (pe_callB call_len_seq rfl B.len PySem.boot_len (pa_cons (pv 1) pa_nil)) pa_nil))) pa_nil)) (pg_tup rfl (pgs_cons (pg_name (i := 7) sc__law_springs.nd rfl (Or.inl rfl)) (pgs_cons (pg_name (i := 8) sc__law_springs.nd rfl (Or.inl rfl)) pgs_nil)))
        (pss_one (ps_if (pt_cmpR op_eq (pe_op op_mod (pv 0) pe_int) pe_int (nomark _))
          (pss_one (ps_asg (pe_op op_add (pe_op op_add (pe_ix ix_list (pv 4) (pv 7) (fun _ _ => rfl)) pe_int) (pe_op op_mod (pv 8) pe_int)) (pg_sub (pv 4) (pv 7) set_list)))
          (pss_one (ps_if (pt_cmpR op_eq (pe_op op_mod (pv 8) pe_int) pe_int (nomark _))
            (pss_one (ps_asg (pe_op op_add (pe_ix ix_list (pv 4) (pv 7) (fun _ _ => rfl)) pe_int) (pg_sub (pv 4) (pv 7) set_list)))
            (pss_one (ps_if (pt_cmpR op_eq (pe_op op_mod (pv 8) pe_int) pe_int (nomark _))
              (pss_one (ps_asg (pe_callB (call_max2 rfl) rfl B.max PyProof.Rows.boot_max (pa_cons pe_int (pa_cons (pe_op op_sub (pe_ix ix_list (pv 4) (pv 7) (fun _ _ => rfl)) pe_int) pa_nil))) (pg_sub (pv 4) (pv 7) set_list)))
              pss_nil)))))))
      (pss_one (ps_ret (pv 4)))))), ?_⟩
    refine sl_13 ?_
    intro zu0 zu1 zu2 zu3 zu4 zu5 zu6 zu7 zu8 zu9
    have hml : (r.map V.int).length = r.length := List.length_map _
    have hul : us.length = ls.length := by rw [d0.length, List.length_map]
    have O := Ow.refl tk
    refine ⟨szl, fun l0 hl0 => ?_⟩
    walk_at "nw"
    refine ⟨_, rfl, a, _, rfl, .inl (O.same.seq hA), l0, _, _, rfl, rfl, O.get 0, by rw [hml]; omega, by rw [hml]; omega, small100 (by rw [hml, Int.toNat_natCast]; simp; omega), fun ld hld => ?_⟩
    walk_at "nw"
    rw [hml, Int.toNat_natCast, rep_intsV] at O
    have O := O.two
    refine ⟨_, rfl, _, rfl, b, d, _, _, rfl, O.same.seq hB, O.same.seq hD, ?_⟩
    refine for_zip (K := K) (fun t σ H4 => Iv (∃ (v5 v6 : Option V) (fl : List Int), σ = [some (.int c), some (.ref a), some (.ref b), some (.ref d), some (.ref ld), v5, v6, none, none] ∧ fl.length = r.length ∧ Ow T H H4 [(ld, .lst (fl.map V.int))]))
      (by rw [List.length_map]; omega) ⟨trivial, none, none, _, rfl, List.length_replicate, O⟩ (fun _ _ _ _ ⟨_, _, _, _, _, _, O⟩ => ⟨O.same.seq hB, O.same.seq hD⟩) ?_ ?_
    · rintro t x y t' σ H4 hx hy ⟨-, v5, v6, fl, rfl, hfl, O⟩ ht'
      obtain ⟨al, l, rfl, hl, hT⟩ := d0.lic_get hx
      obtain ⟨u, hu, rfl⟩ := ints_get hy
      have hlo := (hok l (List.mem_of_getElem? hl)).1
      walk_at "nw"
      refine ⟨t', _, rfl, O.sqT 0, rfl, _, _, rfl, _, _, rfl, rfl, ?_⟩
      have O := O.tail
      refine ⟨_, rfl, _, rfl, al, _, 1, _, rfl, rfl, hT.mo O.same, rfl, ld, _, _, _, rfl, rfl, O.sq 0, ints_atZ hlo.1 (by have := hlo.2.1; omega), _, rfl, _, _, rfl, rfl, _, rfl, _, rfl, al, _, 1, _, rfl, rfl, hT.mo O.same, rfl, ?_⟩
      refine ow_set O 0 rfl (ixN_Z hlo.1 (by have := hlo.2.1; rw [List.length_map]; omega)) fun H6 O => ?_
      rw [← List.map_set] at O
      exact ⟨trivial, _, _, _, rfl, by rw [List.length_set]; exact hfl, O⟩
    rintro σ H4 ⟨-, v5, v6, fl, rfl, hfl, O⟩
    refine ⟨_, rfl, _, rfl, a, _, rfl, .inl (O.same.seq hA), c, _, rfl, by rw [hml]; omega, by rw [hml]; omega, O.got fun lx H5 ys O e => ?_⟩
    obtain ⟨ws, rfl, hy⟩ := e
    have hyl : ws.length = r.length := by rw [hy, drws_len, hml, Int.toNat_natCast]
    clear hy
    refine ⟨lx, _, rfl, O.sq 0, ?_⟩
    refine for_enum (K := K) (xs := ws.map V.int) (fun t σ H6 => Iv (∃ (v7 v8 : Option V) (fl : List Int), σ = [some (.int c), some (.ref a), some (.ref b), some (.ref d), some (.ref ld), v5, v6, v7, v8] ∧ fl.length = r.length ∧ Ow T H H6 [(lx, .lst (ws.map V.int)), (ld, .lst (fl.map V.int))]))
      ⟨trivial, none, none, fl, rfl, hfl, O⟩ (fun _ _ _ _ ⟨_, _, _, _, _, _, O⟩ => O.sq 0) ?_ ?_
    · rintro t y t' σ H6 hy ⟨-, v7, v8, fl, rfl, hfl, O⟩ ht'
      obtain ⟨u, hu, rfl⟩ := ints_get hy
      have ht := (List.getElem?_eq_some_iff.mp hu).1
      walk_at "nw"
      refine ⟨t', _, rfl, O.sqT 0, rfl, _, _, rfl, _, _, rfl, rfl, ?_⟩
      have O := O.tail
      refine ⟨_, rfl, _, _, rfl, rfl, (by show (0 : Int) < 2; decide), rfl, _, rfl, ifI (fun _ => ?_) fun _ => ?_⟩
      · refine ⟨_, rfl, _, rfl, ld, _, _, _, rfl, rfl, O.sq 1, ints_at (getD_get? (ns := fl) (k := t) (by omega)), _, _, rfl, rfl, _, rfl, _, _, rfl, rfl, (by show (0 : Int) < 3; decide), _, _, rfl, rfl, _, rfl, _, rfl, ?_⟩
        refine ow_set O 1 rfl (ixN_nat (by rw [List.length_map]; omega)) fun H8 O => ?_
        rw [← List.map_set] at O
        exact ⟨trivial, _, _, _, rfl, by rw [List.length_set]; exact hfl, O⟩
      refine ⟨_, rfl, _, _, rfl, rfl, (by show (0 : Int) < 5; decide), rfl, _, rfl, ifI (fun _ => ?_) fun _ => ?_⟩
      · refine ⟨_, rfl, _, rfl, ld, _, _, _, rfl, rfl, O.sq 1, ints_at (getD_get? (ns := fl) (k := t) (by omega)), _, _, rfl, rfl, _, rfl, _, rfl, ?_⟩
        refine ow_set O 1 rfl (ixN_nat (by rw [List.length_map]; omega)) fun H8 O => ?_
        rw [← List.map_set] at O
        exact ⟨trivial, _, _, _, rfl, by rw [List.length_set]; exact hfl, O⟩
      refine ⟨_, rfl, _, _, rfl, rfl, (by show (0 : Int) < 5; decide), rfl, _, rfl, ifI (fun _ => ?_) fun _ => ⟨trivial, _, _, fl, rfl, hfl, O⟩⟩
      · refine ⟨_, rfl, _, rfl, ld, _, _, _, rfl, rfl, O.sq 1, ints_at (getD_get? (ns := fl) (k := t) (by omega)), _, _, rfl, rfl, _, _, rfl, _, rfl, _, rfl, ?_⟩
        refine ow_set O 1 rfl (ixN_nat (by rw [List.length_map]; omega)) fun H8 O => ?_
        rw [← List.map_set] at O
        exact ⟨trivial, _, _, _, rfl, by rw [List.length_set]; exact hfl, O⟩
    rintro σ H6 ⟨-, v7, v8, fl, rfl, hfl, O⟩
    exact ⟨_, rfl, O.ret 1 rfl q ⟨fl, rfl, hfl⟩⟩
end
abbrev s__law_drawn : Stmt := top 50
theorem sc__law_drawn : FnScope ["cell", "below", "far", "base", "xs", "way", "back", "take", "most", "call"] ["cell", "below", "far", "base"] (defScope s__law_drawn) := ⟨rfl, rfl, rfl, by decide +kernel, rfl, by decide +kernel, by decide +kernel⟩
def sp_dr7 (K : PySem.W.Frag) (T : Tabs) : Sp := fun vs H Q _ => ∃ (a : Addr) (r : List Int) (c far ba : Int), vs = [.int c, .ref a, .int far, .int ba] ∧ SqL K H a (r.map V.int) ∧ Rv.River r ∧ 1 ≤ r.length ∧ r.length ≤ 900 ∧ 0 ≤ far ∧ 0 ≤ ba ∧ TabsOk T H ∧
  ∀ (t t2 : Addr) (H' : Hp) (l : Lic) (ca ta : Int), Ow T H H' [(t, .tup [.ref t2, .int ca, .int ta]), (t2, .tup (vLic l))] → LicOk2 r l → 0 ≤ l.day → 0 ≤ ca → 0 ≤ ta → Q (.ref t) H'
section
variable {P : Program} {w : World} {K : PySem.W.Frag} {mg : Str → Option Value} {base : Heap} {T : Tabs}
theorem ok_dr7 {f f1 f2 : Addr} {fd fd1 fd2 : FuncData} (D : Df K mg "_law_drawn" s__law_drawn ["cell", "below", "far", "base"] f fd) (B : Blt mg)
    (D__law_mixed : Df K mg "_law_mixed" s__law_mixed ["cell", "many"] f1 fd1) (G__law_mixed : FnOk P w K mg base CX0 2 f1 fd1 ["cell", "many"] sp_drws)
    (D__law_way : Df K mg "_law_way" s__law_way ["below", "reach"] f2 fd2) (G__law_way : FnOk P w K mg base CX0 1 f2 fd2 ["below", "reach"] (sp_lway K T)) : FnOk P w K mg base CX0 3 f fd ["cell", "below", "far", "base"] (sp_dr7 K T) := by
  refine D.F.ok sc__law_drawn (fun vs H Q E h => ?_) (fun cdv A outer s H vs Q E hr h => ?_)
  · obtain ⟨_, _, _, _, _, rfl, _⟩ := h; rfl
  · obtain ⟨a, r, c, far, ba, rfl, hA, hR, r1, r9, hfar, hba, tk, q⟩ := h
    refine ⟨_, (pss_cons (ps_set (i := 4) sc__law_drawn.nd rfl (Or.inl rfl) (pe_call G__law_mixed (hr.mono (by decide)) rfl D__law_mixed.m D__law_mixed.F.kp D__law_mixed.b .nil pass0 (pa_cons (pv 0) (pa_cons pe_int pa_nil))))
      (pss_cons (ps_set (i := 5) sc__law_drawn.nd rfl (Or.inl rfl) (pe_call G__law_way (hr.mono (by decide)) rfl D__law_way.m D__law_way.F.kp D__law_way.b .nil pass0 (pa_cons (pv 1) (pa_cons (pe_op op_mod (pe_ix ix_list (pv 4) pe_int (fun _ _ => rfl)) (pe_callB call_len_seq rfl B.len PySem.boot_len (pa_cons (pv 1) pa_nil))) pa_nil))))
      (pss_cons (ps_set (i := 6) sc__law_drawn.nd rfl (Or.inl rfl) (pe_un un_neg pe_int))
      (pss_consM (ps_if (PW.pt (pw_and (pt_cmpR op_eq (pe_op op_mod (pe_ix ix_list (pv 4) pe_int (fun _ _ => rfl)) pe_int) pe_int (nomark _)) (pw_and1 (pt_cmpR op_gt (pe_callB call_len_seq rfl B.len PySem.boot_len (pa_cons (pv 5) pa_nil)) pe_int (nomark _)))))
        (pss_one (ps_set (i := 6) sc__law_drawn.nd rfl (Or.inl rfl) (pe_ix ix_list (pv 5) (pe_op op_add pe_int (pe_op op_mod (pe_op op_fdiv (pe_ix ix_list (pv 4) pe_int (fun _ _ => rfl)) pe_int) (pe_op op_sub (pe_callB call_len_seq rfl B.len PySem.boot_len (pa_cons (pv 5) pa_nil)) pe_int))) (fun _ _ => rfl))))
        pss_nil)
      (pss_cons (ps_set (i := 7) sc__law_drawn.nd rfl (Or.inl rfl) (pe_ix ix_list (pe_lst (pa_cons (pe_op op_mod (pe_ix ix_list (pv 4) pe_int (fun _ _ => rfl)) pe_int) (pa_cons (pe_op op_add (pv 3) (pe_op op_mod (pe_op op_fdiv (pe_ix ix_list (pv 4) pe_int (fun _ _ => rfl)) pe_int) pe_int)) (pa_cons (pe_op op_mod (pe_op op_add (pe_op op_mul (pv 0) pe_int) (pe_op op_mul (pe_ix ix_list (pv 4) pe_int (fun _ _ => rfl)) pe_int)) (pe_op op_pow pe_int pe_int)) pa_nil)))) (pe_op op_mod (pe_ix ix_list (pv 4) pe_int (fun _ _ => rfl)) pe_int) (fun _ _ => rfl)))
      (pss_cons (ps_set (i := 8) sc__law_drawn.nd rfl (Or.inl rfl) (pe_op op_add (pv 7) (pe_ix ix_list (pe_lst (pa_cons pe_int (pa_cons pe_int (pa_cons (pe_op op_mul (pe_ix ix_list (pv 4) pe_int (fun _ _ => rfl)) pe_int) pa_nil)))) (pe_op op_mod (pe_ix ix_list (pv 4) pe_int (fun _ _ => rfl)) pe_int) (fun _ _ => rfl))))
      (pss_cons (ps_set (i := 9) sc__law_drawn.nd rfl (Or.inl rfl) (pe_op op_add (pv 7) (pe_ix ix_list (pe_lst (pa_cons pe_int (pa_cons pe_int (pa_cons (pe_op op_mul (pe_ix ix_list (pv 4) pe_int (fun _ _ => rfl)) pe_int) (pa_cons (pe_op op_mod (pe_op op_fdiv (pe_ix ix_list (pv 4) pe_int (fun _ _ => rfl)) pe_int) pe_int) pa_nil))))) (pe_op op_mod (pe_ix ix_list (pv 4) pe_int (fun _ _ => rfl)) pe_int) (fun _ _ => rfl))))
      (pss_one (ps_ret (pe_tup (pa_cons (pe_tup (pa_cons (pe_op op_mul (pe_op op_mod (pe_ix ix_list (pv 4) pe_int (fun _ _ => rfl)) pe_int) (pv 2)) (pa_cons (pe_ix ix_list (pv 5) pe_int (fun _ _ => rfl)) (pa_cons (pv 6) (pa_cons (pv 8) pa_nil))))) (pa_cons (pv 9) (pa_cons (pv 7) pa_nil))))))))))))), ?_⟩
    refine sl_14 ?_
    intro zu0 zu1 zu2 zu3 zu4 zu5 zu6 zu7
    have O := Ow.refl tk
    have s0 := O.same
    have hml : ((r.map V.int).length : Int) = (r.length : Int) := by rw [List.length_map]
    refine ⟨_, rfl, c, 7, rfl, by omega, by omega, O.got fun lx H2 xs O e => ?_⟩
    obtain ⟨ys, rfl, hy⟩ := e
    have hyl : ys.length = 7 := by rw [hy, drws_len]; rfl
    have hyn : ∀ k, 0 ≤ ys.getD k 0 := fun k => by rw [hy]; exact drws_nn
    clear hy
    have p0 := Int.emod_nonneg (ys.getD (1 : Int).toNat 0) (show (r.length : Int) ≠ 0 by omega)
    have p1 := Int.emod_lt_of_pos (ys.getD (1 : Int).toNat 0) (show (0 : Int) < (r.length : Int) by omega)
    refine ⟨_, rfl, _, rfl, lx, _, 1, _, rfl, rfl, O.sq 0, ints_atZ (by omega) (by omega), _, rfl, a, _, rfl, .inl (O.same.seq hA), _, _, rfl, rfl, (by rw [hml]; omega), ?_⟩
    dsimp only
    rw [hml]
    generalize ys.getD (1 : Int).toNat 0 % (r.length : Int) = st at p0 p1
    refine ⟨a, r, st, rfl, O.same.seq hA, hR, p0, p1, r9, O.same.t1, O.gotT fun lw H3 xs O e => ?_⟩
    subst e
    have hw0 : (Rv.walk r st)[0]? = some st := by rw [Rv.walk_cons hR p0 p1]; rfl
    have hwm : (((Rv.walk r st).map V.int).length : Int) = ((Rv.walk r st).length : Int) := by rw [List.length_map]
    have hw1 : 0 < (Rv.walk r st).length := (List.getElem?_eq_some_iff.mp hw0).1
    refine ⟨_, rfl, ?_⟩
    refine ⟨fun σ H' => Iv (∃ (bk : Int), σ = [some (.int c), some (.ref a), some (.int far), some (.int ba), some (.ref lx), some (.ref lw), some (.int bk), none, none, none] ∧ Rv.Stop r st bk ∧ H' = H3), ?_, ?_⟩
    · refine ⟨_, rfl, lx, _, 2, _, rfl, rfl, O.sq 1, ints_atZ (by omega) (by omega), _, _, rfl, rfl, (by show (0 : Int) < 3; decide), rfl, _, rfl, ifI (fun hc => ?_) fun hc => ?_⟩
      · refine ⟨_, rfl, lw, _, rfl, .inl (O.sq 0), _, _, rfl, rfl, _, rfl, ifD (fun hc2 => ?_) fun hc2 => ?_⟩
        · rw [hwm] at hc2
          have j0 := Int.emod_nonneg (ys.getD (2 : Int).toNat 0 / 3) (show ((Rv.walk r st).length : Int) - 1 ≠ 0 by omega)
          have j1 := Int.emod_lt_of_pos (ys.getD (2 : Int).toNat 0 / 3) (show (0 : Int) < ((Rv.walk r st).length : Int) - 1 by omega)
          refine ⟨_, rfl, _, rfl, lx, _, 2, _, rfl, rfl, O.sq 1, ints_atZ (by omega) (by omega), _, _, rfl, rfl, ⟨by decide, by decide⟩, _, rfl, lw, _, rfl, .inl (O.sq 0), _, _, rfl, rfl, _, _, rfl, rfl, (by rw [hwm]; omega), _, _, rfl, rfl, ?_⟩
          dsimp only
          rw [hwm]
          refine ⟨lw, _, _, _, rfl, rfl, O.sq 0, ints_atZ (by omega) (by omega), trivial, _, rfl, .inr (getD_mem' (by omega)), rfl⟩
        · exact ⟨trivial, _, rfl, .inl rfl, rfl⟩
      · exact iteF ⟨trivial, _, rfl, .inl rfl, rfl⟩
    rintro σ H4 ⟨-, bk, rfl, hst, rfl⟩
    have g3 := hyn (3 : Int).toNat
    have g4 := hyn (4 : Int).toNat
    have t0 : 0 ≤ ys.getD (3 : Int).toNat 0 % 4 := Int.emod_nonneg _ (by decide)
    have t1 : 0 ≤ ba + ys.getD (3 : Int).toNat 0 / 3 % 3 := by have := Int.emod_nonneg (ys.getD (3 : Int).toNat 0 / 3) (show (3 : Int) ≠ 0 by decide); omega
    have t2 : 0 ≤ (c * 1000003 + ys.getD (4 : Int).toNat 0 * 7919) % 10 ^ (10 : Int).toNat := Int.emod_nonneg _ (by decide)
    have nn3 : ∀ (u v w : Int) (j : Nat), 0 ≤ u → 0 ≤ v → 0 ≤ w → 0 ≤ [u, v, w].getD j 0 := fun u v w j hu hv hw => by
      match j with
      | 0 => exact hu
      | 1 => exact hv
      | 2 => exact hw
      | _ + 3 => exact Int.le_refl 0
    have nn4 : ∀ (u v w x : Int) (j : Nat), 0 ≤ u → 0 ≤ v → 0 ≤ w → 0 ≤ x → 0 ≤ [u, v, w, x].getD j 0 := fun u v w x j hu hv hw hx => by
      match j with
      | 0 => exact hu
      | 1 => exact hv
      | 2 => exact hw
      | 3 => exact hx
      | _ + 4 => exact Int.le_refl 0
    walk_at "w"
    intro l1 h1
    walk_at "nw"
    walk_at "w"
    dsimp only
    have ta0 := nn3 _ _ _ (ys.getD (4 : Int).toNat 0 % 3).toNat t0 t1 t2
    generalize [ys.getD (3 : Int).toNat 0 % 4, ba + ys.getD (3 : Int).toNat 0 / 3 % 3, (c * 1000003 + ys.getD (4 : Int).toNat 0 * 7919) % 10 ^ (10 : Int).toNat].getD (ys.getD (4 : Int).toNat 0 % 3).toNat 0 = ta at ta0
    have O := O.tail
    have g5 := hyn (5 : Int).toNat
    have g6 := hyn (6 : Int).toNat
    walk_at "w"
    intro l2 h2
    walk_at "nw"
    walk_at "w"
    dsimp only
    have mo0 := nn3 1 0 (ys.getD (5 : Int).toNat 0 * 23) (ys.getD (5 : Int).toNat 0 % 3).toNat (by decide) (Int.le_refl 0) (by omega)
    generalize [1, 0, ys.getD (5 : Int).toNat 0 * 23].getD (ys.getD (5 : Int).toNat 0 % 3).toNat 0 = mo at mo0
    have O := O.tail
    walk_at "w"
    intro l3 h3
    walk_at "nw"
    walk_at "w"
    dsimp only
    have ca0 := nn4 1 2 (ys.getD (6 : Int).toNat 0 * 23) (ys.getD (6 : Int).toNat 0 / 4 % 3) (ys.getD (6 : Int).toNat 0 % 4).toNat (by decide) (by decide) (by omega) (by omega)
    generalize [1, 2, ys.getD (6 : Int).toNat 0 * 23, ys.getD (6 : Int).toNat 0 / 4 % 3].getD (ys.getD (6 : Int).toNat 0 % 4).toNat 0 = ca at ca0
    have O := O.tail
    have d0 : 0 ≤ ys.getD (0 : Int).toNat 0 % 3 * far := Int.mul_nonneg (Int.emod_nonneg _ (by decide)) hfar
    intro t2 h2
    walk_at "nw"
    walk_at "w"
    intro t ht
    walk_at "nw"
    have O := (O.del 2).del 2
    walk_at "er"
    exact q t t2 _ ⟨_, _, _, ta + mo⟩ (ta + ca) ta O ⟨⟨p0, p1, hst⟩, by show 0 ≤ ta + mo; omega⟩ d0 (by omega) ta0
end
abbrev s_paper_of : Stmt := top 41
theorem sc_paper_of : FnScope ["below", "springs", "roll", "calls", "takes", "number", "stretches", "reach"] ["below", "springs", "roll", "calls", "takes", "number"] (defScope s_paper_of) := ⟨rfl, rfl, rfl, by decide +kernel, rfl, by decide +kernel, by decide +kernel⟩
def dryZ (r s : List Int) (ls : List Lic) (xs : List Int) : List Int := Tn.asI (zerosL (freeL r s ls xs) r.length)
def whoP (r : List Int) (ls : List Lic) (xs : List Int) (z : Int) : List (Int × Int) := (whoL (wayL r ls) (Tn.fX xs) z ls.length).map fun j : Nat => ((j : Int), Tn.fX xs j)
def ShA (r s : List Int) (ls : List Lic) (xs : List Int) (k : Nat) (z : Int) : Prop := z ∈ dryZ r s ls xs ∧ AllA (wayL r ls) (dayL ls) (Tn.fX xs) ls.length k z
abbrev oPz (p : Int × Int) : HO := .tup [.int p.1, .int p.2]
def sp_pax (K : PySem.W.Frag) (T : Tabs) (cN : Addr) : Sp := fun vs H Q E => ∃ (a b c d : Addr) (v : V) (k : Nat) (r s : List Int) (ls : List Lic) (cs xs : List Int), vs = [.ref a, .ref b, v, .ref c, .ref d, .int (k : Int)] ∧ rvIn K H a r ∧ SqL K H b (s.map V.int) ∧ s.length = r.length ∧ Den K H v (dRoll ls) ∧ ls.length < 64 ∧ k < ls.length ∧ (∀ l ∈ ls, LicOk r l) ∧ SqL K H c (cs.map V.int) ∧ ls.length = cs.length ∧ SqL K H d (xs.map V.int) ∧ ls.length = xs.length ∧ TabsOk T H ∧
  (Tn.fX xs k = Tn.fX (wantsL ls cs) k → ∀ H', SameT T H H' → Q .non H') ∧
  (Tn.fX xs k ≠ Tn.fX (wantsL ls cs) k → (∀ (e : Addr) (H' : Hp), (∀ y ∈ wayL r ls k, ¬ ShA r s ls xs k y) → SameT T H H' → H' e = none → E (.ref cN) (some e) H') ∧ ∀ (i : Nat) (z : Int) (t l : Addr) (H1 H' : Hp) (us : List V), (wayL r ls k)[i]? = some z → ShA r s ls xs k z → (∀ y ∈ (wayL r ls k).take i, ¬ ShA r s ls xs k y) → SameT T H H1 → Ow T H1 H' [(t, .tup [.int z, .ref l]), (l, .lst us)] → ObjsAt H1 us ((whoP r ls xs z).map oPz) → Q (.ref t) H')
theorem zerosL_mem {fl : List Int} {n : Nat} {z : Int} : z ∈ Tn.asI (zerosL fl n) ↔ ∃ i : Nat, i < n ∧ z = (i : Int) ∧ fl.getD i 0 = 0 := by
  unfold Tn.asI zerosL
  rw [List.mem_map]
  constructor
  · rintro ⟨i, hi, rfl⟩
    rw [List.mem_filter, List.mem_range, decide_eq_true_iff] at hi
    exact ⟨i, hi.1, rfl, hi.2⟩
  · rintro ⟨i, h1, rfl, h2⟩
    exact ⟨i, by rw [List.mem_filter, List.mem_range, decide_eq_true_iff]; exact ⟨h1, h2⟩, rfl⟩
section
variable {P : Program} {w : World} {K : PySem.W.Frag} {mg : Str → Option Value} {base : Heap} {T : Tabs}
theorem ok_pax {f f1 f2 f3 f4 f5 cN : Addr} {fd fd1 fd2 fd3 fd4 fd5 : FuncData} (D : Df K mg "paper_of" s_paper_of ["below", "springs", "roll", "calls", "takes", "number"] f fd) (X_NoPaper : ErrC K mg "NoPaper" cN)
    (D_wants_of : Df K mg "wants_of" s_wants_of ["roll", "calls"] f1 fd1) (G_wants_of : FnOk P w K mg base CX0 2 f1 fd1 ["roll", "calls"] (sp_wants K T))
    (D_stretches_of : Df K mg "stretches_of" s_stretches_of ["below", "roll"] f3 fd3) (G_stretches_of : FnOk P w K mg base CX0 4 f3 fd3 ["below", "roll"] (sp_sts K T))
    (D_dry_of : Df K mg "dry_of" s_dry_of ["below", "springs", "roll", "takes"] f4 fd4) (G_dry_of : FnOk P w K mg base CX0 8 f4 fd4 ["below", "springs", "roll", "takes"] (sp_dry K T))
    (D_first_showing : Df K mg "first_showing" s_first_showing ["roll", "stretches", "dry", "takes", "number"] f5 fd5) (G_first_showing : FnOk P w K mg base CX0 4 f5 fd5 ["roll", "stretches", "dry", "takes", "number"] (sp_fsh K T))
    (D_who_holds : Df K mg "who_holds" s_who_holds ["stretches", "takes", "reach"] f2 fd2) (G_who_holds : FnOk P w K mg base CX0 1 f2 fd2 ["stretches", "takes", "reach"] (sp_who K T)) : FnOk P w K mg base (CXE P w) 9 f fd ["below", "springs", "roll", "calls", "takes", "number"] (sp_pax K T cN) := by
  refine D.F.okX sc_paper_of (fun vs H Q E h => ?_) (fun cdv A outer s H vs Q E hr h => ?_)
  · obtain ⟨_, _, _, _, _, _, _, _, _, _, _, rfl, _⟩ := h; rfl
  · obtain ⟨a, b, c, d, v, k, r, sp, ls, cs, xs, rfl, ⟨hA, hR, h64⟩, hB, hsl, hd, hl64, hk, ok, hC, hlc, hD, hlx, tk, q1, q2⟩ := h
    have hwl := wantsL_len hlc
    refine ⟨_, (pss_cons (ps_if (pt_cmpR op_eq (pe_ix ix_list (pv 4) (pv 5) (fun _ _ => rfl)) (pe_ix ix_list (pe_call G_wants_of (hr.mono (by decide)) rfl D_wants_of.m D_wants_of.F.kp D_wants_of.b .nil pass0 (pa_cons (pv 2) (pa_cons (pv 3) pa_nil))) (pv 5) (fun _ _ => rfl)) (nomark _))
        (pss_one (ps_ret pe_non))
        pss_nil)
      (pss_cons (ps_set (i := 6) sc_paper_of.nd rfl (Or.inl rfl) (pe_call G_stretches_of (hr.mono (by decide)) rfl D_stretches_of.m D_stretches_of.F.kp D_stretches_of.b .nil pass0 (pa_cons (pv 0) (pa_cons (pv 2) pa_nil))))
      (pss_cons (ps_set (i := 7) sc_paper_of.nd rfl (Or.inl rfl) (pe_call G_first_showing (hr.mono (by decide)) rfl D_first_showing.m D_first_showing.F.kp D_first_showing.b .nil pass0 (pa_cons (pv 2) (pa_cons (pv 6) (pa_cons (pe_call G_dry_of (hr.mono (by decide)) rfl D_dry_of.m D_dry_of.F.kp D_dry_of.b .nil pass0 (pa_cons (pv 0) (pa_cons (pv 1) (pa_cons (pv 2) (pa_cons (pv 4) pa_nil))))) (pa_cons (pv 4) (pa_cons (pv 5) pa_nil)))))))
      (pss_cons (ps_if (pt_cmpR op_isN (pv 7) pe_non (nomark _))
        (pss_one (ps_raise body_cx rfl (fun _ _ z => z) rfl X_NoPaper.m X_NoPaper.q (pa_cons pe_str pa_nil)))
        pss_nil)
      (pss_one (ps_ret (pe_tup (pa_cons (pv 7) (pa_cons (pe_comp (defScope s_paper_of) rfl ["below", "springs", "roll", "calls", "takes", "number", "stretches", "reach"] rfl ["other", "takes"] [none, some 4] (by decide +kernel) (by decide +kernel) (by decide +kernel) rfl (pi_list (pe_call G_who_holds (hr.mono (by decide)) rfl D_who_holds.m D_who_holds.F.kp D_who_holds.b .nil pass0 (pa_cons (pv 6) (pa_cons (pv 4) (pa_cons (pv 7) pa_nil))))) (fun _ _ _ => (pg_name (i := 0) (show (["other", "takes"] : List Str).Nodup by decide +kernel) rfl (Or.inl rfl))) (fun _ _ _ => pts_nil) (fun _ _ _ => (pe_tup (pa_cons (pv 0) (pa_cons (pe_ix (ix_listK (K := K) rfl) (pv 1) (pv 0) (fun _ _ => rfl)) pa_nil))))) pa_nil))))))))), ?_⟩
    refine sl_15 ?_
    intro zu0 zu1 zu2 zu3 zu4 zu5
    have O := Ow.refl tk
    refine ⟨_, rfl, _, rfl, d, _, _, _, rfl, rfl, hD, ints_at (getD_get? (ns := xs) (k := k) (by omega)), _, rfl, _, rfl, v, c, ls, cs, rfl, hd, hC, hlc, by omega, tk, O.gotT fun lw H1 ys O e => ?_⟩
    subst e
    refine ⟨_, rfl, lw, _, _, _, rfl, rfl, O.sq 0, ints_at (getD_get? (ns := wantsL ls cs) (k := k) (by omega)), rfl, _, rfl, ifI (fun h1 => q1 h1 _ O.same) fun h1 => ?_⟩
    obtain ⟨hex, q2⟩ := q2 h1
    have O := O.tail
    refine ⟨_, rfl, _, rfl, a, v, r, ls, rfl, O.same.seq hA, hR, by omega, hd.mo O.same, hl64, ok, O.same.t1, fun lS H3 H4 us s3 O4 dws => ?_⟩
    have sT : SameT T H H3 := O.same.trans s3
    clear O
    have O := O4
    clear O4
    refine ⟨_, rfl, _, rfl, _, rfl, _, rfl, _, rfl, _, rfl, a, b, d, v, r, sp, ls, xs, rfl, ⟨(sT.trans O.same).seq hA, hR, h64⟩, (sT.trans O.same).seq hB, hsl, hd.mo (sT.trans O.same), (sT.trans O.same).seq hD, hlx, ok, O.same.t1, O.gotT fun ly H5 ys O e => ?_⟩
    subst e
    refine ⟨_, rfl, _, rfl, v, lS, ly, d, k, ls, us, wsP r ls, dryZ r sp ls xs, xs, rfl, hd.mo (sT.trans O.same), hl64, hk, O.sq 1, dws.mo O.same, List.length_map _, O.sq 0, (sT.trans O.same).seq hD, hlx.symm, O.same.t1, fun i z H6 sm hz hzd hall hno => ?_, fun H6 sm hno => ?_⟩
    · have O := O.callT sm
      refine ⟨_, rfl, rfl, _, rfl, iteF ?_⟩
      refine ⟨_, rfl, _, rfl, _, rfl, _, rfl, lS, d, z, us, wsP r ls, xs, rfl, O.sq 1, dws.mo O.same, (sT.trans O.same).seq hD, by unfold wsP; rw [List.length_map]; omega, by omega, O.same.t1, O.gotT fun lh H7 ys O e => ?_⟩
      have e : ys = (Tn.asI (whoL (wayL r ls) (Tn.fX xs) z ls.length)).map V.int := by rw [hlx]; exact e
      subst e
      have hgm : ∀ j, j ∈ whoL (wayL r ls) (Tn.fX xs) z ls.length → j < ls.length := fun j hj => (whoL_mem.mp hj).1
      have hgl := whoL_len (wayL r ls) (Tn.fX xs) z ls.length
      generalize hg : whoL (wayL r ls) (Tn.fX xs) z ls.length = g at O hgm hgl
      refine ⟨lh, rfl, ⟨_, O.sq 0⟩, fun acc hacc => ?_⟩
      refine comp_list (K := K) (xs := (Tn.asI g).map V.int) (fun i τ H' => Iv (∃ (v0 : Option V) (Hc : Hp) (us : List V), τ = [v0, some (.ref d)] ∧ SameT T H3 Hc ∧ ObjsAt Hc us (((g.take i).map fun j : Nat => ((j : Int), Tn.fX xs j)).map oPz) ∧ Ow T Hc H' [(acc, .lst us), (lh, .lst ((Tn.asI g).map V.int))]))
        ⟨trivial, none, H3, [], rfl, SameT.refl O.same.t0, ObjsAt.nil _, O.two.two.mk' hacc rfl⟩ (fun i τ H' _ ⟨_, _, _, _, _, _, _, O⟩ => O.sq 1) ?_ ?_
      · rintro i y τ H8 hy ⟨-, v0, Hc, us, rfl, sc, d1, O⟩
        obtain ⟨u, hu, rfl⟩ := ints_get hy
        obtain ⟨j, hj, rfl⟩ := Tn.ints_some hu
        have hi := (List.getElem?_eq_some_iff.mp hj).1
        have hjl := hgm j (List.mem_of_getElem? hj)
        have hul : us.length ≤ i := by rw [d1.1, List.length_map, List.length_map, List.length_take]; omega
        refine yesT ?_
        refine ⟨_, rfl, _, rfl, _, rfl, d, _, _, _, rfl, rfl, ((sT.trans sc).trans O.same).seq hD, ints_at (getD_get? (ns := xs) (k := j) (by omega)), szl, fun t ht => ?_⟩
        walk_at "nw"
        refine ⟨_, O.get 1, small100' (by omega), ?_⟩
        walk_at "pt"
        obtain ⟨Hd, O, sd, en⟩ := O.frz
        refine ⟨trivial, _, Hd, us ++ [.ref t], rfl, sc.trans sd, ?_, O⟩
        rw [Tn.take_next hj, List.map_append, List.map_append]
        exact (d1.mo sd).snoc en
      rintro τ H8 ⟨-, v0, Hc, us, rfl, sc, d1, O⟩
      rw [List.length_map, Tn.ints_len, List.take_of_length_le (Nat.le_refl _), ← hg] at d1
      refine ⟨szl, fun t ht => ?_⟩
      walk_at "nw"
      have O := O.del 2
      walk_at "er"
      exact q2 i z t acc Hc _ us hz ⟨hzd, hall⟩ (fun y hy h => hno y hy h) (sT.trans sc) O d1
    · have O := O.callT sm
      refine ⟨_, rfl, rfl, _, rfl, iteT ⟨szl, fun e he => ?_⟩⟩
      exact hex e _ (fun y hy h => hno y hy h) (sT.trans O.same) he
end
abbrev s__law_no_reach : Stmt := top 52
theorem sc__law_no_reach : FnScope ["stretches", "roll", "takes", "free", "number", "reach", "bad", "k"] ["stretches", "roll", "takes", "free", "number"] (defScope s__law_no_reach) := ⟨rfl, rfl, rfl, by decide +kernel, rfl, by decide +kernel, by decide +kernel⟩
theorem ahead_as {dj dk xj xk : Int} {j k : Nat} (hjk : j = k → xj = xk) (h : ¬ dk < dj) (h2 : ¬ (dj = dk ∧ xk + (if decide ((j : Int) ≤ (k : Int)) = true then 1 else 0) < xj)) : Tn.Ahead dj xj j dk (xk + 1) k := by
  unfold Tn.Ahead
  by_cases e : dj < dk
  · exact .inl e
  · refine .inr ⟨by omega, ?_⟩
    have h3 : ¬ xk + (if decide ((j : Int) ≤ (k : Int)) = true then 1 else 0) < xj := fun z => h2 ⟨by omega, z⟩
    by_cases c : (j : Int) ≤ (k : Int)
    · rw [if_pos (decide_eq_true c)] at h3
      by_cases e2 : xj < xk + 1
      · exact .inl e2
      · by_cases c2 : j = k
        · have := hjk c2
          omega
        · exact .inr ⟨by omega, by omega⟩
    · rw [if_neg (by rw [decide_eq_true_iff]; exact c)] at h3
      exact .inl (by omega)
theorem ahead_no {dj dk xj xk : Int} {j k : Nat} (h : Tn.Ahead dj xj j dk (xk + 1) k) : ¬ dk < dj ∧ ¬ (dj = dk ∧ xk + (if decide ((j : Int) ≤ (k : Int)) = true then 1 else 0) < xj) := by
  unfold Tn.Ahead at h
  refine ⟨by omega, fun ⟨e, z⟩ => ?_⟩
  by_cases c : (j : Int) ≤ (k : Int)
  · rw [if_pos (decide_eq_true c)] at z; omega
  · rw [if_neg (by rw [decide_eq_true_iff]; exact c)] at z; omega
def GoodZ (ws : List (List Int)) (ls : List Lic) (xs fl : List Int) (k : Nat) (z : Int) : Prop := fl.getD z.toNat 0 = 0 ∧ AllA (Tn.fW ws) (dayL ls) (Tn.fX xs) ls.length k z
def sp_nr (K : PySem.W.Frag) (T : Tabs) : Sp := fun vs H Q _ => ∃ (c b d e : Addr) (k : Nat) (us rs : List V) (ws : List (List Int)) (ls : List Lic) (xs fl : List Int), vs = [.ref c, .ref b, .ref d, .ref e, .int (k : Int)] ∧ SqL K H c us ∧ Dens K H us (ws.map dInts) ∧ ws.length = ls.length ∧ SqL K H b rs ∧ Dens K H rs (ls.map dLic) ∧ ls.length < 64 ∧ k < ls.length ∧ SqL K H d (xs.map V.int) ∧ xs.length = ls.length ∧ SqL K H e (fl.map V.int) ∧ (∀ z ∈ Tn.fW ws k, 0 ≤ z ∧ z < (fl.length : Int)) ∧ TabsOk T H ∧
  ∀ (β : Bool) (H' : Hp), SameT T H H' → (β = true ↔ ∀ y ∈ Tn.fW ws k, ¬ GoodZ ws ls xs fl k y) → Q (.bl β) H'
section
variable {P : Program} {w : World} {K : PySem.W.Frag} {mg : Str → Option Value} {base : Heap} {T : Tabs}
theorem ok_nr {f : Addr} {fd : FuncData} (D : Df K mg "_law_no_reach" s__law_no_reach ["stretches", "roll", "takes", "free", "number"] f fd) (B : Blt mg) : FnOk P w K mg base CX0 2 f fd ["stretches", "roll", "takes", "free", "number"] (sp_nr K T) := by
  refine D.F.ok sc__law_no_reach (fun vs H Q E h => ?_) (fun cdv A outer s H vs Q E hr h => ?_)
  · obtain ⟨_, _, _, _, _, _, _, _, _, _, _, rfl, _⟩ := h; rfl
  · obtain ⟨c, b, d, e, k, us, rs, ws, ls, xs, fl, rfl, hC, dws, hwl, hB, d0, h64, hk, hD, hxl, hE, hz9, tk, q⟩ := h
    obtain ⟨wj, hw⟩ : ∃ wj, ws[k]? = some wj := ⟨_, List.getElem?_eq_getElem (by omega)⟩
    obtain ⟨wa, hwa, hW⟩ := dws.way_at hw
    have ew : Tn.fW ws k = wj := by unfold Tn.fW; rw [List.getD_eq_getElem?_getD, hw]; rfl
    rw [ew] at hz9 q
    obtain ⟨lk, hlk⟩ : ∃ lk, ls[k]? = some lk := ⟨_, List.getElem?_eq_getElem hk⟩
    obtain ⟨ak, hak, hTk⟩ := d0.lic_at hlk
    have edk := dayL_at hlk
    have hrl : rs.length = ls.length := by rw [d0.length, List.length_map]
    refine ⟨_, (pss_cons (ps_for PassesOwn.never rfl (pi_list (pe_ix ix_list (pv 0) (pv 4) (fun _ _ => rfl))) (pg_name (i := 5) sc__law_no_reach.nd rfl (Or.inl rfl))
        (pss_cons (ps_set (i := 6) sc__law_no_reach.nd rfl (Or.inl rfl) (pe_cmpR op_ne (pe_ix ix_list (pv 3) (pv 5) (fun _ _ => rfl)) pe_int (nomark _)))
        (pss_cons (ps_for PassesOwn.never rfl (pi_range1 rfl B.range (pa_cons (pe_callB call_len_seq rfl B.len PySem.boot_len (pa_cons (pv 1) pa_nil)) pa_nil)) (pg_name (i := 7) sc__law_no_reach.nd rfl (Or.inl rfl))
          (pss_one (ps_if (PW.pt (pw_and (pt_cmpR op_gt (pe_ix ix_list (pv 2) (pv 7) (fun _ _ => rfl)) pe_int (nomark _)) (pw_and1 (pt_cmpR op_in_seq (pv 5) (pe_ix ix_list (pv 0) (pv 7) (fun _ _ => rfl)) (by rfl)))))
            (pss_consM (ps_if (pt_cmpR op_gt (pe_ix ix_tup (pe_ix ix_list (pv 1) (pv 7) (fun _ _ => rfl)) pe_int (fun _ _ => rfl)) (pe_ix ix_tup (pe_ix ix_list (pv 1) (pv 4) (fun _ _ => rfl)) pe_int (fun _ _ => rfl)) (nomark _))
              (pss_one (ps_set (i := 6) sc__law_no_reach.nd rfl (Or.inl rfl) pe_bl))
              pss_nil)
            (pss_one (ps_if (PW.pt (pw_and (pt_cmpR op_eq (pe_ix ix_tup (pe_ix ix_list (pv 1) (pv 7) (fun _ _ => rfl)) pe_int (fun _ _ => rfl)) (pe_ix ix_tup (pe_ix ix_list (pv 1) (pv 4) (fun _ _ => rfl)) pe_int (fun _ _ => rfl)) (nomark _)) (pw_and1 (pt_cmpR op_gt (pe_ix ix_list (pv 2) (pv 7) (fun _ _ => rfl)) (pe_op op_add (pe_ix ix_list (pv 2) (pv 4) (fun _ _ => rfl)) (pe_callTy call_int1 rfl B.int PyProof.Rows.boot_int (pa_cons (pe_cmpR op_le (pv 7) (pv 4) (nomark _)) pa_nil))) (nomark _)))))
              (pss_one (ps_set (i := 6) sc__law_no_reach.nd rfl (Or.inl rfl) pe_bl))
              pss_nil)))
            pss_nil)))
        (pss_one (ps_if (pt_not (pt_truth (pv 6) (fun _ => rfl)))
          (pss_one (ps_ret pe_bl))
          pss_nil)))))
      (pss_one (ps_ret pe_bl))), ?_⟩
    refine sl_16 ?_
    intro zu0 zu1 zu2 zu3 zu4 zu5 zu6 zu7 zu8 zu9
    have O := Ow.refl tk
    refine ⟨_, rfl, _, rfl, c, _, _, _, rfl, rfl, hC, atI_nat hwa, wa, rfl, ⟨_, hW⟩, ?_⟩
    refine for_list (K := K) (a := wa) (xs := wj.map V.int) (fun i σ H' => Iv (∃ v5 v6 v7 : Option V, σ = [some (.ref c), some (.ref b), some (.ref d), some (.ref e), some (.int (k : Int)), v5, v6, v7] ∧ (∀ y ∈ wj.take i, ¬ GoodZ ws ls xs fl k y) ∧ Ow T H H' []))
      ⟨trivial, none, none, none, rfl, fun y hy => by simp at hy, O⟩ (fun _ _ _ _ ⟨_, _, _, _, _, _, O⟩ => hW.mo O.same) ?_ ?_
    · rintro i y σ H3 hy ⟨-, v5, v6, v7, rfl, hno, O⟩
      obtain ⟨z, hz, rfl⟩ := ints_get hy
      obtain ⟨z0, z1⟩ := hz9 z (List.mem_of_getElem? hz)
      refine ⟨_, rfl, _, rfl, e, _, _, _, rfl, rfl, O.same.seq hE, ints_atZ z0 z1, rfl, ?_⟩
      rw [deq_int]
      refine ⟨_, rfl, b, _, rfl, .inl (O.same.seq hB), (rs.length : Int), rfl, by omega, by omega, ?_⟩
      rw [Int.toNat_natCast, hrl]
      refine for_range (n := ls.length) (fun n σ H' => Iv (∃ (β : Bool) (v7 : Option V), σ = [some (.ref c), some (.ref b), some (.ref d), some (.ref e), some (.int (k : Int)), some (.int z), some (.bl β), v7] ∧ (β = false ↔ fl.getD z.toNat 0 = 0 ∧ AllA (Tn.fW ws) (dayL ls) (Tn.fX xs) n k z) ∧ Ow T H H' []))
        ⟨trivial, _, v7, rfl, ⟨fun h => ⟨by simpa using h, fun j hj => absurd hj (Nat.not_lt_zero j)⟩, fun h => by simpa using h.1⟩, O⟩ ?_ ?_
      · rintro j σ H5 hjl ⟨-, β, v7, rfl, iff, O⟩
        rw [show (0 : Int) + (j : Int) = (j : Int) by omega]
        obtain ⟨lj, hlj⟩ : ∃ lj, ls[j]? = some lj := ⟨_, List.getElem?_eq_getElem hjl⟩
        obtain ⟨aj, haj, hTj⟩ := d0.lic_at hlj
        have edj := dayL_at hlj
        obtain ⟨wi, hwi⟩ : ∃ wi, ws[j]? = some wi := ⟨_, List.getElem?_eq_getElem (by omega)⟩
        obtain ⟨wb, hwb, hWb⟩ := dws.way_at hwi
        have ewi : Tn.fW ws j = wi := by unfold Tn.fW; rw [List.getD_eq_getElem?_getD, hwi]; rfl
        have nx : ∀ β', (β' = false ↔ β = false ∧ (z ∈ Tn.fW ws j → 0 < Tn.fX xs j → Tn.Ahead (dayL ls j) (Tn.fX xs j) j (dayL ls k) (Tn.fX xs k + 1) k)) → (β' = false ↔ fl.getD z.toNat 0 = 0 ∧ AllA (Tn.fW ws) (dayL ls) (Tn.fX xs) (j + 1) k z) := fun β' h => by
          rw [h, iff]
          constructor
          · rintro ⟨⟨a1, a2⟩, a3⟩
            refine ⟨a1, fun m hm hzm hp => ?_⟩
            by_cases em : m = j
            · subst em; exact a3 hzm hp
            · exact a2 m (by omega) hzm hp
          · rintro ⟨a1, a2⟩
            exact ⟨⟨a1, fun m hm => a2 m (by omega)⟩, fun hzm hp => a2 j (by omega) hzm hp⟩
        have same : ¬ (z ∈ Tn.fW ws j ∧ 0 < Tn.fX xs j) → (β = false ↔ β = false ∧ (z ∈ Tn.fW ws j → 0 < Tn.fX xs j → Tn.Ahead (dayL ls j) (Tn.fX xs j) j (dayL ls k) (Tn.fX xs k + 1) k)) := fun hn => ⟨fun y => ⟨y, fun a1 a2 => absurd ⟨a1, a2⟩ hn⟩, fun y => y.1⟩
        refine ⟨_, rfl, _, rfl, d, _, _, _, rfl, rfl, O.same.seq hD, ints_at (getD_get? (ns := xs) (k := j) (by omega)), _, _, rfl, rfl, _, rfl, ifD (fun h3 => ?_) fun h3 => iteF ⟨trivial, β, _, rfl, nx _ (same fun y => h3 y.2), O⟩⟩
        refine ⟨_, rfl, _, rfl, _, rfl, c, _, _, _, rfl, rfl, O.same.seq hC, atI_nat hwb, wb, _, rfl, .inl (hWb.mo O.same), rfl, flat_ints _, _, rfl, ?_⟩
        rw [if_neg Bool.false_ne_true, in_ints]
        refine ifD (fun h4 => ?_) fun h4 => ⟨trivial, β, _, rfl, nx _ (same fun y => h4 (by rw [← ewi]; exact y.1)), O⟩
        have h4' : z ∈ Tn.fW ws j := by rw [ewi]; exact h4
        refine ⟨fun σ H' => Iv (∃ (β1 : Bool), σ = [some (.ref c), some (.ref b), some (.ref d), some (.ref e), some (.int (k : Int)), some (.int z), some (.bl β1), some (.int (j : Int))] ∧ (β1 = false ↔ β = false ∧ ¬ lk.day < lj.day) ∧ Ow T H H' []), ?_, ?_⟩
        · refine ⟨_, rfl, _, rfl, b, _, _, _, rfl, rfl, O.same.seq hB, atI_nat haj, aj, _, 0, _, rfl, rfl, hTj.mo O.same, rfl, _, rfl, _, rfl, b, _, _, _, rfl, rfl, O.same.seq hB, atI_nat hak, ak, _, 0, _, rfl, rfl, hTk.mo O.same, rfl, _, _, rfl, rfl, _, rfl, ifD (fun h5 => ?_) fun h5 => ?_⟩
          · exact ⟨trivial, true, rfl, ⟨fun y => (by cases y), fun y => absurd h5 y.2⟩, O⟩
          · exact ⟨trivial, β, rfl, ⟨fun y => ⟨y, h5⟩, fun y => y.1⟩, O⟩
        clear O
        rintro σ H6 ⟨-, β1, rfl, iff1, O⟩
        have fin : ∀ β', (β' = false ↔ β1 = false ∧ ¬ (lj.day = lk.day ∧ Tn.fX xs k + (if decide ((j : Int) ≤ (k : Int)) = true then 1 else 0) < Tn.fX xs j)) → (β' = false ↔ β = false ∧ (z ∈ Tn.fW ws j → 0 < Tn.fX xs j → Tn.Ahead (dayL ls j) (Tn.fX xs j) j (dayL ls k) (Tn.fX xs k + 1) k)) := fun β' h => by
          rw [h, iff1]
          constructor
          · rintro ⟨⟨a1, a2⟩, a3⟩
            exact ⟨a1, fun _ _ => ahead_as (fun e => by rw [e]) (by rw [edk, edj]; exact a2) (by rw [edk, edj]; exact a3)⟩
          · rintro ⟨a1, a2⟩
            have := ahead_no (a2 h4' h3)
            rw [edk, edj] at this
            exact ⟨⟨a1, this.1⟩, this.2⟩
        refine ⟨_, rfl, _, rfl, b, _, _, _, rfl, rfl, O.same.seq hB, atI_nat haj, aj, _, 0, _, rfl, rfl, hTj.mo O.same, rfl, _, rfl, _, rfl, b, _, _, _, rfl, rfl, O.same.seq hB, atI_nat hak, ak, _, 0, _, rfl, rfl, hTk.mo O.same, rfl, rfl, _, rfl, ifI (fun h6 => ?_) fun h6 => iteF ⟨trivial, β1, _, rfl, nx _ (fin _ ⟨fun y => ⟨y, fun y2 => h6 y2.1⟩, fun y => y.1⟩), O⟩⟩
        refine ⟨_, rfl, _, rfl, d, _, _, _, rfl, rfl, O.same.seq hD, ints_at (getD_get? (ns := xs) (k := j) (by omega)), _, rfl, _, rfl, d, _, _, _, rfl, rfl, O.same.seq hD, ints_at (getD_get? (ns := xs) (k := k) (by omega)), _, rfl, _, rfl, _, _, rfl, rfl, .inr ⟨_, rfl, _, _, rfl, rfl, _, _, rfl, rfl, _, rfl, ifD (fun h7 => ?_) fun h7 => ?_⟩⟩
        · exact ⟨trivial, true, _, rfl, nx _ (fin _ ⟨fun y => (by cases y), fun y => absurd ⟨h6, h7⟩ y.2⟩), O⟩
        · exact ⟨trivial, β1, _, rfl, nx _ (fin _ ⟨fun y => ⟨y, fun y2 => h7 y2.2⟩, fun y => y.1⟩), O⟩
      rintro σ H5 ⟨-, β, v7, rfl, iff, O⟩
      have iff : β = false ↔ GoodZ ws ls xs fl k z := iff
      refine ⟨_, rfl, _, rfl, ifN (ifB (fun hb => ?_) fun hb => ?_)⟩
      · refine ⟨trivial, _, _, _, rfl, fun y hy => ?_, O⟩
        rw [List.take_add_one, hz] at hy
        rcases List.mem_append.mp hy with e | e
        · exact hno y e
        · have : y = z := by simpa using e
          rw [this]
          intro g9
          have := iff.mpr g9
          rw [hb] at this; cases this
      · exact q false _ O.same ⟨fun y => (by cases y), fun y => absurd (iff.mp hb) (y z (List.mem_of_getElem? hz))⟩
    rintro σ H3 ⟨-, v5, v6, v7, rfl, hno, O⟩
    rw [List.length_map, List.take_length] at hno
    exact q true _ O.same ⟨fun _ => hno, fun _ => rfl⟩
end
structure Told28 (K : PySem.W.Frag) (cN cS : Addr) (os : List Addr) : Prop where
  mS : PySem.W.exmOne K (.ref cN) (.ref cS) = some true
  no : ∀ c ∈ os, PySem.W.kitOne K (.ref cN) (.ref c) = some false
  kN : PySem.W.kitOne K (.ref cN) (.ref cN) = some true
  kV : PySem.W.kitOne K (.ref cN) (.type "ValueError") = some true
abbrev s__law_other_name : Stmt := top 53
theorem sc__law_other_name : FnScope ["e"] ["e"] (defScope s__law_other_name) := ⟨rfl, rfl, rfl, by decide +kernel, rfl, by decide +kernel, by decide +kernel⟩
def sp_oname (cN : Addr) : Sp := fun vs H Q _ => ∃ (e : Addr), vs = [.ref e] ∧ H e = some (.ext (XAt e cN)) ∧ Q (.bl false) H
section
variable {P : Program} {w : World} {K : PySem.W.Frag} {mg : Str → Option Value} {base : Heap} {T : Tabs}
theorem ok_oname {f cN cS cNoCut cNoDay cNoHolder cNoLicence cNoNumber cNoPond cNoReach cNoRiver cNoRow cNotAlone cNotYours cTooMuch cFull cFixed cHarms : Addr} {fd : FuncData} (D : Df K mg "_law_other_name" s__law_other_name ["e"] f fd) (B : Blt mg) (X_NoPaper : ErrC K mg "NoPaper" cN) (X_NoCut : ErrC K mg "NoCut" cNoCut) (X_NoDay : ErrC K mg "NoDay" cNoDay) (X_NoHolder : ErrC K mg "NoHolder" cNoHolder) (X_NoLicence : ErrC K mg "NoLicence" cNoLicence) (X_NoNumber : ErrC K mg "NoNumber" cNoNumber) (X_NoPond : ErrC K mg "NoPond" cNoPond) (X_NoReach : ErrC K mg "NoReach" cNoReach) (X_NoRiver : ErrC K mg "NoRiver" cNoRiver) (X_NoRow : ErrC K mg "NoRow" cNoRow) (X_NotAlone : ErrC K mg "NotAlone" cNotAlone) (X_NotYours : ErrC K mg "NotYours" cNotYours) (X_TooMuch : ErrC K mg "TooMuch" cTooMuch) (X_Full : ErrC K mg "Full" cFull) (X_Fixed : ErrC K mg "Fixed" cFixed) (X_Harms : ErrC K mg "Harms" cHarms) (TT : Told28 K cN cS [cNoCut, cNoDay, cNoHolder, cNoLicence, cNoNumber, cNoPond, cNoReach, cNoRiver, cNoRow, cNotAlone, cNotYours, cTooMuch, cFull, cFixed, cHarms]) : FnOk P w K mg base CX0 1 f fd ["e"] (sp_oname cN) := by
  refine D.F.ok sc__law_other_name (fun vs H Q E h => ?_) (fun cdv A outer s H vs Q E hr h => ?_)
  · obtain ⟨_, rfl, _⟩ := h; rfl
  · obtain ⟨e, rfl, hX, q⟩ := h
    have no := TT.no
    simp only [List.mem_cons, List.not_mem_nil, or_false, forall_eq_or_imp, forall_eq] at no
    obtain ⟨nNoCut, nNoDay, nNoHolder, nNoLicence, nNoNumber, nNoPond, nNoReach, nNoRiver, nNoRow, nNotAlone, nNotYours, nTooMuch, nFull, nFixed, nHarms⟩ := no
    refine ⟨_, (pss_cons (ps_if (PW.pt (pw_or (pt_val (pe_callB call_isinstX rfl B.isinstance PyProof.Rows.boot_isinstance (pa_cons (pv 0) (pa_cons (pe_cls rfl X_NoCut.m) pa_nil)))) (pw_or (pt_val (pe_callB call_isinstX rfl B.isinstance PyProof.Rows.boot_isinstance (pa_cons (pv 0) (pa_cons (pe_cls rfl X_NoDay.m) pa_nil)))) (pw_or (pt_val (pe_callB call_isinstX rfl B.isinstance PyProof.Rows.boot_isinstance (pa_cons (pv 0) (pa_cons (pe_cls rfl X_NoHolder.m) pa_nil)))) (pw_or1 (pt_val (pe_callB call_isinstX rfl B.isinstance PyProof.Rows.boot_isinstance (pa_cons (pv 0) (pa_cons (pe_cls rfl X_NoLicence.m) pa_nil)))))))))
        (pss_one (ps_ret pe_bl))
        pss_nil)
      (pss_cons (ps_if (PW.pt (pw_or (pt_val (pe_callB call_isinstX rfl B.isinstance PyProof.Rows.boot_isinstance (pa_cons (pv 0) (pa_cons (pe_cls rfl X_NoNumber.m) pa_nil)))) (pw_or (pt_val (pe_callB call_isinstX rfl B.isinstance PyProof.Rows.boot_isinstance (pa_cons (pv 0) (pa_cons (pe_cls rfl X_NoPond.m) pa_nil)))) (pw_or (pt_val (pe_callB call_isinstX rfl B.isinstance PyProof.Rows.boot_isinstance (pa_cons (pv 0) (pa_cons (pe_cls rfl X_NoReach.m) pa_nil)))) (pw_or1 (pt_val (pe_callB call_isinstX rfl B.isinstance PyProof.Rows.boot_isinstance (pa_cons (pv 0) (pa_cons (pe_cls rfl X_NoRiver.m) pa_nil)))))))))
        (pss_one (ps_ret pe_bl))
        pss_nil)
      (pss_cons (ps_if (PW.pt (pw_or (pt_val (pe_callB call_isinstX rfl B.isinstance PyProof.Rows.boot_isinstance (pa_cons (pv 0) (pa_cons (pe_cls rfl X_NoRow.m) pa_nil)))) (pw_or (pt_val (pe_callB call_isinstX rfl B.isinstance PyProof.Rows.boot_isinstance (pa_cons (pv 0) (pa_cons (pe_cls rfl X_NotAlone.m) pa_nil)))) (pw_or (pt_val (pe_callB call_isinstX rfl B.isinstance PyProof.Rows.boot_isinstance (pa_cons (pv 0) (pa_cons (pe_cls rfl X_NotYours.m) pa_nil)))) (pw_or1 (pt_val (pe_callB call_isinstX rfl B.isinstance PyProof.Rows.boot_isinstance (pa_cons (pv 0) (pa_cons (pe_cls rfl X_TooMuch.m) pa_nil)))))))))
        (pss_one (ps_ret pe_bl))
        pss_nil)
      (pss_one (ps_ret (pe_or (pe_callB call_isinstX rfl B.isinstance PyProof.Rows.boot_isinstance (pa_cons (pv 0) (pa_cons (pe_cls rfl X_Full.m) pa_nil))) (pe_or (pe_callB call_isinstX rfl B.isinstance PyProof.Rows.boot_isinstance (pa_cons (pv 0) (pa_cons (pe_cls rfl X_Fixed.m) pa_nil))) (pe_one (pe_callB call_isinstX rfl B.isinstance PyProof.Rows.boot_isinstance (pa_cons (pv 0) (pa_cons (pe_cls rfl X_Harms.m) pa_nil))))))))))), ?_⟩
    refine sl_17 ?_
    intro zu0 zu1 zu2 zu3 zu4 zu5
    refine ⟨_, rfl, e, cN, _, _, false, rfl, hX, X_NoPaper.x, .inr ⟨_, rfl, rfl⟩, nNoCut, _, rfl, iteF ?_⟩
    refine ⟨_, rfl, e, cN, _, _, false, rfl, hX, X_NoPaper.x, .inr ⟨_, rfl, rfl⟩, nNoDay, _, rfl, iteF ?_⟩
    refine ⟨_, rfl, e, cN, _, _, false, rfl, hX, X_NoPaper.x, .inr ⟨_, rfl, rfl⟩, nNoHolder, _, rfl, iteF ?_⟩
    refine ⟨_, rfl, e, cN, _, _, false, rfl, hX, X_NoPaper.x, .inr ⟨_, rfl, rfl⟩, nNoLicence, _, rfl, iteF ?_⟩
    refine ⟨_, rfl, e, cN, _, _, false, rfl, hX, X_NoPaper.x, .inr ⟨_, rfl, rfl⟩, nNoNumber, _, rfl, iteF ?_⟩
    refine ⟨_, rfl, e, cN, _, _, false, rfl, hX, X_NoPaper.x, .inr ⟨_, rfl, rfl⟩, nNoPond, _, rfl, iteF ?_⟩
    refine ⟨_, rfl, e, cN, _, _, false, rfl, hX, X_NoPaper.x, .inr ⟨_, rfl, rfl⟩, nNoReach, _, rfl, iteF ?_⟩
    refine ⟨_, rfl, e, cN, _, _, false, rfl, hX, X_NoPaper.x, .inr ⟨_, rfl, rfl⟩, nNoRiver, _, rfl, iteF ?_⟩
    refine ⟨_, rfl, e, cN, _, _, false, rfl, hX, X_NoPaper.x, .inr ⟨_, rfl, rfl⟩, nNoRow, _, rfl, iteF ?_⟩
    refine ⟨_, rfl, e, cN, _, _, false, rfl, hX, X_NoPaper.x, .inr ⟨_, rfl, rfl⟩, nNotAlone, _, rfl, iteF ?_⟩
    refine ⟨_, rfl, e, cN, _, _, false, rfl, hX, X_NoPaper.x, .inr ⟨_, rfl, rfl⟩, nNotYours, _, rfl, iteF ?_⟩
    refine ⟨_, rfl, e, cN, _, _, false, rfl, hX, X_NoPaper.x, .inr ⟨_, rfl, rfl⟩, nTooMuch, _, rfl, iteF ?_⟩
    refine ⟨_, rfl, e, cN, _, _, false, rfl, hX, X_NoPaper.x, .inr ⟨_, rfl, rfl⟩, nFull, _, rfl, iteF ?_⟩
    refine ⟨_, rfl, e, cN, _, _, false, rfl, hX, X_NoPaper.x, .inr ⟨_, rfl, rfl⟩, nFixed, _, rfl, iteF ?_⟩
    exact ⟨_, rfl, e, cN, _, _, false, rfl, hX, X_NoPaper.x, .inr ⟨_, rfl, rfl⟩, nHarms, q⟩
end
abbrev s__law_refused : Stmt := top 54
theorem sc__law_refused : FnScope ["below", "springs", "roll", "calls", "takes", "number", "caught", "e"] ["below", "springs", "roll", "calls", "takes", "number"] (defScope s__law_refused) := ⟨rfl, rfl, rfl, by decide +kernel, rfl, by decide +kernel, by decide +kernel⟩
def sp_ref8 (K : PySem.W.Frag) (T : Tabs) : Sp := fun vs H Q _ => ∃ (a b c d : Addr) (v : V) (k : Nat) (r s : List Int) (ls : List Lic) (cs xs : List Int), vs = [.ref a, .ref b, v, .ref c, .ref d, .int (k : Int)] ∧ rvIn K H a r ∧ SqL K H b (s.map V.int) ∧ s.length = r.length ∧ Den K H v (dRoll ls) ∧ ls.length < 64 ∧ k < ls.length ∧ (∀ l ∈ ls, LicOk r l) ∧ SqL K H c (cs.map V.int) ∧ ls.length = cs.length ∧ SqL K H d (xs.map V.int) ∧ ls.length = xs.length ∧ TabsOk T H ∧
  Tn.fX xs k ≠ Tn.fX (wantsL ls cs) k ∧ (∀ z ∈ wayL r ls k, ¬ ShA r s ls xs k z) ∧ ∀ H', SameT T H H' → Q (.bl true) H'
section
variable {P : Program} {w : World} {K : PySem.W.Frag} {mg : Str → Option Value} {base : Heap} {T : Tabs}
theorem ok_ref8 {f f1 f2 cN cS : Addr} {os : List Addr} {fd fd1 fd2 : FuncData} (D : Df K mg "_law_refused" s__law_refused ["below", "springs", "roll", "calls", "takes", "number"] f fd) (B : Blt mg) (X_NoPaper : ErrC K mg "NoPaper" cN) (X_SluiceError : ErrC K mg "SluiceError" cS) (TT : Told28 K cN cS os)
    (D_paper_of : Df K mg "paper_of" s_paper_of ["below", "springs", "roll", "calls", "takes", "number"] f1 fd1) (G_paper_of : FnOk P w K mg base (CXE P w) 9 f1 fd1 ["below", "springs", "roll", "calls", "takes", "number"] (sp_pax K T cN))
    (D__law_other_name : Df K mg "_law_other_name" s__law_other_name ["e"] f2 fd2) (G__law_other_name : FnOk P w K mg base CX0 1 f2 fd2 ["e"] (sp_oname cN)) : FnOk P w K mg base CX0 10 f fd ["below", "springs", "roll", "calls", "takes", "number"] (sp_ref8 K T) := by
  refine D.F.ok sc__law_refused (fun vs H Q E h => ?_) (fun cdv A outer s H vs Q E hr h => ?_)
  · obtain ⟨_, _, _, _, _, _, _, _, _, _, _, rfl, _⟩ := h; rfl
  · obtain ⟨a, b, c, d, v, k, r, sp, ls, cs, xs, rfl, hI, hB, hsl, hd, hl64, hk, ok, hC, hlc, hD, hlx, tk, hne, hno, q⟩ := h
    refine ⟨_, (pss_cons (ps_set (i := 6) sc__law_refused.nd rfl (Or.inl rfl) pe_non)
      (pss_cons (ps_try (i := 7) ⟨rfl, rfl, rfl⟩ rfl (xss_one (xs_expr (xe_call G_paper_of (hr.mono (by decide)) rfl D_paper_of.m D_paper_of.F.kp D_paper_of.b .nil (pa_cons (pv 0) (pa_cons (pv 1) (pa_cons (pv 2) (pa_cons (pv 3) (pa_cons (pv 4) (pa_cons (pv 5) pa_nil))))))))) rfl X_SluiceError.m sc__law_refused.nd rfl rfl (fun e =>
        (pss_one (ps_set (i := 6) sc__law_refused.nd rfl (Or.inl rfl) (pv 7)))))
      (pss_one (ps_ret (pe_and (pe_callB call_isinstX rfl B.isinstance PyProof.Rows.boot_isinstance (pa_cons (pv 6) (pa_cons (pe_cls rfl X_NoPaper.m) pa_nil))) (pe_and (pe_callB call_isinstX rfl B.isinstance PyProof.Rows.boot_isinstance (pa_cons (pv 6) (pa_cons (pe_bltn (v := .ty "ValueError") rfl B.ValueError boot_VE rfl) pa_nil))) (pe_one (pe_not (pe_call G__law_other_name (hr.mono (by decide)) rfl D__law_other_name.m D__law_other_name.F.kp D__law_other_name.b .nil pass0 (pa_cons (pv 6) pa_nil)))))))))), ?_⟩
    refine sl_2 ?_
    intro zu0 zu1
    refine ⟨_, rfl, _, rfl, _, rfl, _, rfl, _, rfl, _, rfl, a, b, c, d, v, k, r, sp, ls, cs, xs, rfl, hI, hB, hsl, hd, hl64, hk, ok, hC, hlc, hD, hlx, tk, fun h => absurd h hne, fun _ => ⟨fun e H' _ s' he => ⟨cN, e, rfl, rfl, TT.mS, ?_⟩, fun i z t l H1 H' us hz hs => absurd hs (hno z (List.mem_of_getElem? hz))⟩⟩
    refine ⟨_, rfl, ?_⟩
    have hX : (upd H' e (.ext (XAt e cN))) e = some (.ext (XAt e cN)) := upd_same
    have sX : SameT T H (upd H' e (.ext (XAt e cN))) := s'.upd (s'.free he) (.inl he)
    generalize upd H' e (.ext (XAt e cN)) = H2 at hX sX
    refine ⟨_, rfl, e, cN, _, _, true, rfl, hX, X_NoPaper.x, .inr ⟨_, rfl, rfl⟩, TT.kN, _, rfl, iteT ?_⟩
    refine ⟨_, rfl, e, cN, _, _, true, rfl, hX, X_NoPaper.x, .inl ⟨_, rfl, rfl⟩, TT.kV, _, rfl, iteT ?_⟩
    exact ⟨_, rfl, e, rfl, hX, _, rfl, q H2 sX⟩
end
abbrev s_law : Stmt := top 55
theorem sc_law : FnScope ["script", "below", "roll", "calls", "takes", "cell", "far", "one", "call", "take", "springs", "free", "stretches", "handed", "k", "number", "short", "less"] ["script"] (defScope s_law) := ⟨rfl, rfl, rfl, by decide +kernel, rfl, by decide +kernel, by decide +kernel⟩
def sp_law (K : PySem.W.Frag) (T : Tabs) : Sp := fun vs H Q _ => ∃ (a : Addr) (ns : List Int), vs = [.ref a] ∧ SqL K H a (ns.map V.int) ∧ ns.length ≤ 63 ∧ TabsOk T H ∧ ∀ H', Q (.bl true) H'
theorem all_snoc {P : Lic → Prop} {ls : List Lic} {l : Lic} (h : ∀ l ∈ ls, P l) (hl : P l) : ∀ x ∈ ls ++ [l], P x := fun x hx => by
  rcases List.mem_append.mp hx with e | e
  · exact h x e
  · have : x = l := by simpa using e
    rw [this]; exact hl
theorem Sh.five {n : Nat} {a b c d e : PyData} (h1 : Sh n a) (h2 : Sh n b) (h3 : Sh n c) (h4 : Sh n d) (h5 : Sh n e) : Sh (n + 1) (.list [a, b, c, d, e]) := .list fun x hx => by
  simp only [List.mem_cons, List.not_mem_nil, or_false] at hx
  rcases hx with rfl | rfl | rfl | rfl | rfl
  · exact h1
  · exact h2
  · exact h3
  · exact h4
  · exact h5
theorem fX_wants7 {ls : List Lic} {cs : List Int} {k : Nat} {l : Lic} (hl : ls[k]? = some l) (hlc : ls.length = cs.length) : Tn.fX (wantsL ls cs) k = min (cs.getD k 0) l.most := by
  have hk := (List.getElem?_eq_some_iff.mp hl).1
  unfold Tn.fX
  rw [List.getD_eq_getElem?_getD, wantsL_at hl (getD_get? (ns := cs) (by omega))]; rfl
section
variable {P : Program} {w : World} {K : PySem.W.Frag} {mg : Str → Option Value} {base : Heap} {T : Tabs}
theorem ok_law {f f1 f2 f3 f4 f5 f6 f7 f8 f9 cN : Addr} {fd fd1 fd2 fd3 fd4 fd5 fd6 fd7 fd8 fd9 : FuncData} (D : Df K mg "law" s_law ["script"] f fd) (B : Blt mg)
    (D__law_cell_at : Df K mg "_law_cell_at" s__law_cell_at ["script", "k"] f1 fd1) (G__law_cell_at : FnOk P w K mg base CX0 1 f1 fd1 ["script", "k"] (sp_cell K))
    (D__law_river : Df K mg "_law_river" s__law_river ["cell"] f2 fd2) (G__law_river : FnOk P w K mg base CX0 3 f2 fd2 ["cell"] (sp_river T))
    (D__law_springs : Df K mg "_law_springs" s__law_springs ["cell", "below", "roll", "takes"] f3 fd3) (G__law_springs : FnOk P w K mg base CX0 3 f3 fd3 ["cell", "below", "roll", "takes"] (sp_s26 K T))
    (D__law_drawn : Df K mg "_law_drawn" s__law_drawn ["cell", "below", "far", "base"] f4 fd4) (G__law_drawn : FnOk P w K mg base CX0 3 f4 fd4 ["cell", "below", "far", "base"] (sp_dr7 K T))
    (D__law_free : Df K mg "_law_free" s__law_free ["below", "springs", "roll", "takes"] f5 fd5) (G__law_free : FnOk P w K mg base CX0 3 f5 fd5 ["below", "springs", "roll", "takes"] (sp_fr2 K T))
    (D__law_stretch : Df K mg "_law_stretch" s__law_stretch ["below", "one"] f6 fd6) (G__law_stretch : FnOk P w K mg base CX0 2 f6 fd6 ["below", "one"] (sp_lst K T))
    (D_paper_of : Df K mg "paper_of" s_paper_of ["below", "springs", "roll", "calls", "takes", "number"] f7 fd7) (G_paper_of : FnOk P w K mg base (CXE P w) 9 f7 fd7 ["below", "springs", "roll", "calls", "takes", "number"] (sp_pax K T cN))
    (D__law_no_reach : Df K mg "_law_no_reach" s__law_no_reach ["stretches", "roll", "takes", "free", "number"] f8 fd8) (G__law_no_reach : FnOk P w K mg base CX0 2 f8 fd8 ["stretches", "roll", "takes", "free", "number"] (sp_nr K T))
    (D__law_refused : Df K mg "_law_refused" s__law_refused ["below", "springs", "roll", "calls", "takes", "number"] f9 fd9) (G__law_refused : FnOk P w K mg base CX0 10 f9 fd9 ["below", "springs", "roll", "calls", "takes", "number"] (sp_ref8 K T)) : FnOk P w K mg base CX0 11 f fd ["script"] (sp_law K T) := by
  refine D.F.ok sc_law (fun vs H Q E h => ?_) (fun cdv A outer s H vs Q E hr h => ?_)
  · obtain ⟨_, _, rfl, _⟩ := h; rfl
  · obtain ⟨a, ns, rfl, hS, hlen, tk, k⟩ := h
    have hu := hr.units
    refine ⟨_, (pss_cons (ps_set (i := 1) sc_law.nd rfl (Or.inr rfl) (pe_call G__law_river (hr.mono (by decide)) rfl D__law_river.m D__law_river.F.kp D__law_river.b .nil pass0 (pa_cons (pe_call G__law_cell_at (hr.mono (by decide)) rfl D__law_cell_at.m D__law_cell_at.F.kp D__law_cell_at.b .nil pass0 (pa_cons (pv 0) (pa_cons pe_int pa_nil))) pa_nil)))
      (pss_cons (ps_set (i := 2) sc_law.nd rfl (Or.inl rfl) (pe_lst pa_nil))
      (pss_cons (ps_set (i := 3) sc_law.nd rfl (Or.inr rfl) (pe_lst pa_nil))
      (pss_cons (ps_set (i := 4) sc_law.nd rfl (Or.inr rfl) (pe_lst pa_nil))
      (pss_cons (ps_for PassesOwn.never rfl (pi_list (pe_op op_cat (pe_slice sl_list (pv 0) (po_some pe_int) (po_some pe_int)) (pe_lst (pa_cons (pe_call G__law_cell_at (hr.mono (by decide)) rfl D__law_cell_at.m D__law_cell_at.F.kp D__law_cell_at.b .nil pass0 (pa_cons (pv 0) (pa_cons pe_int pa_nil))) pa_nil)))) (pg_name (i := 5) sc_law.nd rfl (Or.inl rfl))
        (pss_cons (ps_set (i := 6) sc_law.nd rfl (Or.inl rfl) (pe_op op_add pe_int (pe_op op_mod (pe_call G__law_cell_at (hr.mono (by decide)) rfl D__law_cell_at.m D__law_cell_at.F.kp D__law_cell_at.b .nil pass0 (pa_cons (pv 0) (pa_cons pe_int pa_nil))) pe_int)))
        (pss_cons (ps_asg (pe_call G__law_drawn (hr.mono (by decide)) rfl D__law_drawn.m D__law_drawn.F.kp D__law_drawn.b .nil pass0 (pa_cons (pv 5) (pa_cons (pv 1) (pa_cons (pv 6) (pa_cons (pe_op op_mod (pe_call G__law_cell_at (hr.mono (by decide)) rfl D__law_cell_at.m D__law_cell_at.F.kp D__law_cell_at.b .nil pass0 (pa_cons (pv 0) (pa_cons pe_int pa_nil))) (pe_op op_pow pe_int pe_int)) pa_nil))))) (pg_tup rfl (pgs_cons (pg_name (i := 7) sc_law.nd rfl (Or.inl rfl)) (pgs_cons (pg_name (i := 8) sc_law.nd rfl (Or.inl rfl)) (pgs_cons (pg_name (i := 9) sc_law.nd rfl (Or.inl rfl)) pgs_nil)))))
        (pss_cons (ps_expr (pe_bm PySem.F.plainAttrs_list PySem.F.slot_list_append PySem.F.type_list_append mt_append (pv 2) (pa_cons (pv 7) pa_nil)))
        (pss_cons (ps_expr (pe_bm PySem.F.plainAttrs_list PySem.F.slot_list_append PySem.F.type_list_append mt_append (pv 3) (pa_cons (pv 8) pa_nil)))
        (pss_one (ps_expr (pe_bm PySem.F.plainAttrs_list PySem.F.slot_list_append PySem.F.type_list_append mt_append (pv 4) (pa_cons (pv 9) pa_nil)))))))))
      (pss_cons (ps_set (i := 10) sc_law.nd rfl (Or.inl rfl) (pe_call G__law_springs (hr.mono (by decide)) rfl D__law_springs.m D__law_springs.F.kp D__law_springs.b .nil pass0 (pa_cons (pe_call G__law_cell_at (hr.mono (by decide)) rfl D__law_cell_at.m D__law_cell_at.F.kp D__law_cell_at.b .nil pass0 (pa_cons (pv 0) (pa_cons pe_int pa_nil))) (pa_cons (pv 1) (pa_cons (pv 2) (pa_cons (pv 4) pa_nil))))))
      (pss_cons (ps_set (i := 11) sc_law.nd rfl (Or.inl rfl) (pe_call G__law_free (hr.mono (by decide)) rfl D__law_free.m D__law_free.F.kp D__law_free.b .nil pass0 (pa_cons (pv 1) (pa_cons (pv 10) (pa_cons (pv 2) (pa_cons (pv 4) pa_nil))))))
      (pss_cons (ps_setComp (i := 12) (defScope s_law) rfl ["script", "below", "roll", "calls", "takes", "cell", "far", "one", "call", "take", "springs", "free", "stretches", "handed", "k", "number", "short", "less"] rfl ["one", "below"] [none, some 1] (by decide +kernel) (by decide +kernel) (by decide +kernel) rfl sc_law.nd rfl rfl (pi_list (pv 2)) (fun _ _ _ => (pg_name (i := 0) (show (["one", "below"] : List Str).Nodup by decide +kernel) rfl (Or.inl rfl))) (fun _ _ _ => pts_nil) (fun _ _ _ => (pe_call G__law_stretch (hr.mono (by decide)) rfl D__law_stretch.m D__law_stretch.F.kp D__law_stretch.b .nil pass0 (pa_cons (pv 1) (pa_cons (pv 0) pa_nil)))) rfl)
      (pss_cons (ps_set (i := 13) sc_law.nd rfl (Or.inl rfl) (pe_lst (pa_cons (pe_callTy call_list_of rfl B.list PyProof.Rows.boot_list (pa_cons (pv 1) pa_nil)) (pa_cons (pe_callTy call_list_of rfl B.list PyProof.Rows.boot_list (pa_cons (pv 10) pa_nil)) (pa_cons (pe_callTy call_list_of rfl B.list PyProof.Rows.boot_list (pa_cons (pv 2) pa_nil)) (pa_cons (pe_callTy call_list_of rfl B.list PyProof.Rows.boot_list (pa_cons (pv 3) pa_nil)) (pa_cons (pe_callTy call_list_of rfl B.list PyProof.Rows.boot_list (pa_cons (pv 4) pa_nil)) pa_nil)))))))
      (pss_cons (ps_for PassesOwn.never rfl (pi_range1 rfl B.range (pa_cons (pe_callB (call_min2 rfl) rfl B.min PyProof.Rows.boot_min (pa_cons pe_int (pa_cons (pe_callB call_len_seq rfl B.len PySem.boot_len (pa_cons (pv 2) pa_nil)) pa_nil))) pa_nil)) (pg_name (i := 14) sc_law.nd rfl (Or.inl rfl))
        (pss_cons (ps_set (i := 15) sc_law.nd rfl (Or.inr rfl) (pe_op op_mod (pe_op op_add (pe_op op_fdiv (pe_call G__law_cell_at (hr.mono (by decide)) rfl D__law_cell_at.m D__law_cell_at.F.kp D__law_cell_at.b .nil pass0 (pa_cons (pv 0) (pa_cons pe_int pa_nil))) pe_int) (pv 14)) (pe_callB call_len_seq rfl B.len PySem.boot_len (pa_cons (pv 2) pa_nil))))
        (pss_cons (ps_set (i := 16) sc_law.nd rfl (Or.inl rfl) (pe_cmpR op_lt (pe_ix ix_list (pv 4) (pv 15) (fun _ _ => rfl)) (pe_callB (call_min2 rfl) rfl B.min PyProof.Rows.boot_min (pa_cons (pe_ix ix_list (pv 3) (pv 15) (fun _ _ => rfl)) (pa_cons (pe_ix ix_tup (pe_ix ix_list (pv 2) (pv 15) (fun _ _ => rfl)) pe_int (fun _ _ => rfl)) pa_nil))) (nomark _)))
        (pss_one (ps_if (PW.pt (pw_and (pt_truth (pv 16) (fun _ => rfl)) (pw_and1 (pt_val (pe_call G__law_no_reach (hr.mono (by decide)) rfl D__law_no_reach.m D__law_no_reach.F.kp D__law_no_reach.b .nil pass0 (pa_cons (pv 12) (pa_cons (pv 2) (pa_cons (pv 4) (pa_cons (pv 11) (pa_cons (pv 15) pa_nil))))))))))
          (pss_cons (ps_if (pt_not (pt_val (pe_call G__law_refused (hr.mono (by decide)) rfl D__law_refused.m D__law_refused.F.kp D__law_refused.b .nil pass0 (pa_cons (pe_ix ix_list (pv 13) pe_int (fun _ _ => rfl)) (pa_cons (pe_ix ix_list (pv 13) pe_int (fun _ _ => rfl)) (pa_cons (pe_ix ix_list (pv 13) pe_int (fun _ _ => rfl)) (pa_cons (pe_ix ix_list (pv 13) pe_int (fun _ _ => rfl)) (pa_cons (pe_ix ix_list (pv 13) pe_int (fun _ _ => rfl)) (pa_cons (pv 15) pa_nil)))))))))
            (pss_one (ps_ret pe_bl))
            pss_nil)
          (pss_cons (ps_setComp (i := 17) (defScope s_law) rfl ["script", "below", "roll", "calls", "takes", "cell", "far", "one", "call", "take", "springs", "free", "stretches", "handed", "k", "number", "short", "less"] rfl ["j", "calls", "takes", "number"] [none, some 3, some 4, some 15] (by decide +kernel) (by decide +kernel) (by decide +kernel) rfl sc_law.nd rfl rfl (pi_range1 rfl B.range (pa_cons (pe_callB call_len_seq rfl B.len PySem.boot_len (pa_cons (pv 2) pa_nil)) pa_nil)) (fun _ _ _ => (pg_name (i := 0) (show (["j", "calls", "takes", "number"] : List Str).Nodup by decide +kernel) rfl (Or.inl rfl))) (fun _ _ _ => pts_nil) (fun _ _ _ => (pe_ix (ix_listK (K := K) rfl) (pe_lst (pa_cons (pe_ix (ix_listK (K := K) rfl) (pv 1) (pv 0) (fun _ _ => rfl)) (pa_cons (pe_ix (ix_listK (K := K) rfl) (pv 2) (pv 0) (fun _ _ => rfl)) pa_nil))) (pe_callTy call_int1 rfl B.int PyProof.Rows.boot_int (pa_cons (pe_cmpR op_eq (pv 0) (pv 3) (nomark _)) pa_nil)) (fun _ _ => rfl))) rfl)
          (pss_one (ps_if (pt_cmpR op_notN (pe_call G_paper_of (hr.mono (by decide)) rfl D_paper_of.m D_paper_of.F.kp D_paper_of.b .nil passN (pa_cons (pe_ix ix_list (pv 13) pe_int (fun _ _ => rfl)) (pa_cons (pe_ix ix_list (pv 13) pe_int (fun _ _ => rfl)) (pa_cons (pe_ix ix_list (pv 13) pe_int (fun _ _ => rfl)) (pa_cons (pv 17) (pa_cons (pe_ix ix_list (pv 13) pe_int (fun _ _ => rfl)) (pa_cons (pv 15) pa_nil))))))) pe_non (nomark _))
            (pss_one (ps_ret pe_bl))
            pss_nil))))
          pss_nil)))))
      (pss_one (ps_ret (pe_cmpR (op_eqD hu) (pv 13) (pe_lst (pa_cons (pv 1) (pa_cons (pv 10) (pa_cons (pv 2) (pa_cons (pv 3) (pa_cons (pv 4) pa_nil)))))) (nomark _)))))))))))))), ?_⟩
    refine sl_18 ?_
    intro zu0 zu1 zu2 zu3 zu4 zu5 zu6 zu7 zu8 zu9 zu10 zu11 zu12 zu13 zu14 zu15 zu16 zu17 zu18 zu19 zu20 zu21 zu22
    have O := Ow.refl tk
    have s0 := O.same
    refine ⟨_, rfl, a, ns, 0, rfl, hS, _, rfl, tk, O.gotT fun lv H1 rs O e => ?_⟩
    obtain ⟨r, rfl, hR, r1, r40⟩ := e
    have hml : (r.map V.int).length = r.length := List.length_map _
    refine ⟨szl, fun lr hlr => ?_⟩
    walk_at "nw"
    refine ⟨szl, fun lc hlc => ?_⟩
    walk_at "nw"
    refine ⟨szl, fun lt hlt => ?_⟩
    walk_at "nw"
    refine ⟨_, rfl, 4, rfl, 62, rfl, a, _, rfl, O.same.seq hS, fun l1 hl1 => ?_⟩
    walk_at "nw"
    rw [show cutV (ns.map V.int) (some 4) (some 62) = ((ns.drop 4).take 58).map V.int from cut_ns ns 4 62] at O
    have hql : ((ns.drop 4).take 58).length ≤ 58 := by rw [List.length_take]; omega
    generalize (ns.drop 4).take 58 = as at O hql
    refine ⟨_, rfl, a, ns, 3, rfl, O.same.seq hS, szl, fun l2 hl2 => ?_⟩
    walk_at "nw"
    refine ⟨l1, l2, _, _, rfl, rfl, O.get 1, O.get 0, small100 (by simp only [List.length_map, List.length_cons, List.length_nil]; omega), fun lq hlq => ?_⟩
    walk_at "nw"
    rw [map_snoc] at O
    have hq1 : 1 ≤ (as ++ [ns.getD 3 0]).length := by rw [List.length_append]; simp
    have hq2 : (as ++ [ns.getD 3 0]).length ≤ 59 := by rw [List.length_append]; simp; omega
    generalize as ++ [ns.getD 3 0] = qs at O hq1 hq2
    have O := (O.del 1).del 1
    walk_at "er"
    refine ⟨lq, rfl, ⟨_, O.sq 0⟩, ?_⟩
    refine for_list (K := K) (xs := qs.map V.int) (fun i σ H' => Iv (∃ (Hb : Hp) (vs : List V) (ls : List Lic) (ca cs : List Int) (v5 v6 v7 v8 v9 : Option V), σ = [some (.ref a), some (.ref lv), some (.ref lr), some (.ref lc), some (.ref lt), v5, v6, v7, v8, v9, none, none, none, none, none, none, none, none] ∧
      Ow T Hb H' [(lq, .lst (qs.map V.int)), (lt, .lst (cs.map V.int)), (lc, .lst (ca.map V.int)), (lr, .lst vs), (lv, .lst (r.map V.int))] ∧ SameT T H Hb ∧ Dens K Hb vs (ls.map dLic) ∧ ls.length = i ∧ ca.length = i ∧ cs.length = i ∧ ∀ l ∈ ls, LicOk2 r l))
      ⟨trivial, H, [], [], [], [], none, none, none, none, none, rfl, O, s0, .nil, rfl, rfl, rfl, fun l hl => nomatch hl⟩ (fun i σ H' _ ⟨_, _, _, _, _, _, _, _, _, _, _, _, O, _⟩ => O.sq 0) ?_ ?_
    · rintro i y σ H4 hy ⟨-, Hb, vs, ls, ca, cs, v5, v6, v7, v8, v9, rfl, O, s0, d0, hli, hai, hci, hok⟩
      obtain ⟨z, hz, rfl⟩ := ints_get hy
      have hi := (List.getElem?_eq_some_iff.mp hz).1
      have hvl : vs.length = ls.length := by rw [d0.length, List.length_map]
      refine ⟨_, rfl, a, ns, 2, rfl, (s0.trans O.same).seq hS, _, _, rfl, rfl, (by show (0 : Int) < 500000; decide), _, _, rfl, rfl, ?_⟩
      dsimp only
      have hfar : 0 ≤ 1 + ns.getD 2 0 % 500000 := by omega
      generalize 1 + ns.getD 2 0 % 500000 = far at hfar
      refine ⟨_, rfl, _, rfl, _, rfl, _, rfl, a, ns, 1, rfl, (s0.trans O.same).seq hS, _, _, rfl, rfl, ⟨by decide, by decide, by decide⟩, _, _, rfl, rfl, (by show (0 : Int) < 10 ^ 10; decide), ?_⟩
      refine ⟨lv, r, z, far, _, rfl, O.sq 4, hR, r1, by omega, hfar, Int.emod_nonneg _ (by decide), O.same.t1, fun t t2 H5 l cl ta OD l0 l1 c0 t0 => ?_⟩
      have O := O.join OD
      walk_at "jn"
      refine ⟨t, _, rfl, O.sqT 0, rfl, _, _, rfl, _, _, rfl, _, _, rfl, rfl, ?_⟩
      have O := O.tail
      refine ⟨_, rfl, .inl ⟨rfl, _, O.sq 4⟩, _, rfl, lr, _, _, rfl, rfl, O.get 4, small100' (by omega), ?_⟩
      walk_at "pt"
      refine ⟨_, rfl, .inl ⟨rfl, _, O.sq 3⟩, _, rfl, lc, _, _, rfl, rfl, O.get 3, small100' (by rw [List.length_map]; omega), ?_⟩
      walk_at "pt"
      refine ⟨_, rfl, .inl ⟨rfl, _, O.sq 2⟩, _, rfl, lt, _, _, rfl, rfl, O.get 2, small100' (by rw [List.length_map]; omega), ?_⟩
      walk_at "pt"
      rw [map_snoc, map_snoc] at O
      obtain ⟨Hn2, O, sn, en⟩ := O.frzAt 0
      walk_at "mo"
      refine ⟨trivial, Hn2, vs ++ [.ref t2], ls ++ [l], ca ++ [cl], cs ++ [ta], _, _, _, _, _, rfl, O, s0, ?_, by rw [List.length_append, hli]; rfl, by rw [List.length_append, hai]; rfl, by rw [List.length_append, hci]; rfl, all_snoc hok l0⟩
      rw [List.map_append]
      exact d0.append (.cons (Den.lic (SqT.of en)) .nil)
    rintro σ H4 ⟨-, Hb, vs, ls, ca, cs, v5, v6, v7, v8, v9, rfl, O, s0, d0, hli, hai, hci, hok⟩
    rw [List.length_map] at hli hai hci
    have hvl : vs.length = ls.length := by rw [d0.length, List.length_map]
    have O := O.tail
    have hlc : ls.length = ca.length := by omega
    have hlx : ls.length = cs.length := by omega
    have hok1 : ∀ l ∈ ls, LicOk r l := fun l hl => (hok l hl).1
    refine ⟨_, rfl, a, ns, 2, rfl, (s0.trans O.same).seq hS, _, rfl, _, rfl, _, rfl, lv, lr, lt, _, r, cs, vs, ls, rfl, O.sq 3, by omega, O.sq 2, d0.mo O.same, O.sq 0, by omega, hok, O.same.t1, O.gotT fun lg H5 ys O e => ?_⟩
    obtain ⟨sp, rfl, hsl⟩ := e
    refine ⟨_, rfl, _, rfl, _, rfl, _, rfl, lv, lg, lr, lt, r, sp, cs, vs, ls, rfl, O.sq 4, hR, by omega, O.sq 0, hsl, O.sq 3, d0.mo O.same, O.sq 1, by omega, hok, O.same.t1, O.gotT fun lf H6 ys O e => ?_⟩
    obtain ⟨fl, rfl, FL⟩ := e
    have hfl := FL.len
    /- stretches -/
    refine ⟨_, rfl, lr, rfl, ⟨_, O.sq 4⟩, fun lS hlS => ?_⟩
    refine comp_list (K := K) (xs := vs) (fun i τ H' => Iv (∃ (v0 : Option V) (Hc : Hp) (us : List V), τ = [v0, some (.ref lv)] ∧ SameT T Hb Hc ∧ ObjsAt Hc us (((wsP r ls).take i).map oInts) ∧ Ow T Hc H' [(lS, .lst us), (lf, .lst (fl.map V.int)), (lg, .lst (sp.map V.int)), (lt, .lst (cs.map V.int)), (lc, .lst (ca.map V.int)), (lr, .lst vs), (lv, .lst (r.map V.int))]))
      ⟨trivial, none, Hb, [], rfl, SameT.refl O.same.t0, ObjsAt.nil _, O.mk' hlS rfl⟩ (fun i τ H' _ ⟨_, _, _, _, _, _, _, O⟩ => O.sq 5) ?_ ?_
    · rintro i y τ H7 hy ⟨-, v0, Hc, us, rfl, sc, d1, O⟩
      have hi := (List.getElem?_eq_some_iff.mp hy).1
      obtain ⟨al, l, rfl, hl, hT⟩ := d0.lic_get hy
      have hwl : (wsP r ls).length = ls.length := List.length_map _
      have hul : us.length ≤ i := by rw [d1.1, List.length_map, List.length_take]; omega
      refine yesT ?_
      refine ⟨_, rfl, _, rfl, lv, al, r, l, rfl, O.sq 6, hR, by omega, (hT.mo sc).mo O.same, hok1 l (List.mem_of_getElem? hl), O.same.t1, O.gotT fun lw H8 ws O e => ?_⟩
      subst e
      refine ⟨_, O.get 1, small100' (by omega), ?_⟩
      walk_at "pt"
      obtain ⟨Hd, O, sd, en⟩ := O.frz
      refine ⟨trivial, _, Hd, us ++ [.ref lw], rfl, sc.trans sd, ?_, O⟩
      have hw : (wsP r ls)[i]? = some (Rv.strch r l.start l.back) := by unfold wsP; rw [List.getElem?_map, hl]; rfl
      rw [List.take_add_one, hw, List.map_append]
      exact (d1.mo sd).snoc en
    rintro τ H7 ⟨-, v0, Hc, us, rfl, sc, dS, O⟩
    have hwl : (wsP r ls).length = ls.length := List.length_map _
    rw [hvl, List.take_of_length_le (by omega)] at dS
    replace s0 := s0.trans sc
    replace d0 := d0.mo sc
    have dws := dS.ints (K := K)
    /- handed -/
    refine ⟨_, rfl, lv, _, rfl, .inl (O.sq 6), fun la hla => ?_⟩
    walk_at "nw"
    refine ⟨_, rfl, lg, _, rfl, .inl (O.sq 3), fun lj hlj => ?_⟩
    walk_at "nw"
    refine ⟨_, rfl, lr, _, rfl, .inl (O.sq 7), fun lb hlb => ?_⟩
    walk_at "nw"
    refine ⟨_, rfl, lc, _, rfl, .inl (O.sq 7), fun le hle => ?_⟩
    walk_at "nw"
    refine ⟨_, rfl, lt, _, rfl, .inl (O.sq 7), fun lu hlu => ?_⟩
    walk_at "nw"
    refine ⟨szl, fun lh hlh => ?_⟩
    walk_at "nw"
    have hsh : Sh 3 (.list [dInts r, dInts sp, dRoll ls, dInts ca, dInts cs]) := Sh.five (Sh.ints 1 r) (Sh.ints 1 sp) (Sh.roll 0 ls) (Sh.ints 1 ca) (Sh.ints 1 cs)
    have dh : ∀ (H' : Hp) (x u t v w y : Addr), SameT T Hc H' → SqL K H' x [.ref u, .ref t, .ref v, .ref w, .ref y] → SqL K H' u (r.map V.int) → SqL K H' t (sp.map V.int) → SqL K H' v vs → SqL K H' w (ca.map V.int) → SqL K H' y (cs.map V.int) → Den K H' (.ref x) (.list [dInts r, dInts sp, dRoll ls, dInts ca, dInts cs]) :=
      fun H' x u t v w y sm h1 h2 h5 h3 h4 h6 => .list h1 (.cons (Den.ints h2) (.cons (Den.ints h5) (.cons (.list h3 (d0.mo sm)) (.cons (Den.ints h4) (.cons (Den.ints h6) .nil)))))
    have wrn : ∀ kn, kn < ls.length → ∀ z ∈ wayL r ls kn, 0 ≤ z ∧ z < (fl.length : Int) := fun kn hk z hz => by rw [hfl]; exact (wayL_ok hR hok hk).2 z hz
    have eqG : ∀ kn z, kn < ls.length → z ∈ wayL r ls kn → (GoodZ (wsP r ls) ls cs fl kn z ↔ ShA r sp ls cs kn z) := fun kn z hk hz => by
      obtain ⟨z0, z1⟩ := wrn kn hk z hz
      obtain ⟨zn, rfl⟩ := Int.eq_ofNat_of_zero_le z0
      have hzl : zn < r.length := by omega
      have e1 := free_get (s := sp) hR hok1 hlx hzl
      have e2 : fl.getD (zn : Int).toNat 0 = Rv.natf r sp (zn : Int) - Tn.hold ls.length (wayL r ls) (Tn.fX cs) (zn : Int) := by rw [Int.toNat_natCast]; exact FL.getD hzl
      rw [Rv.fF_nats (by omega) (by omega)] at e1
      unfold GoodZ ShA dryZ
      rw [zerosL_mem, e2]
      constructor
      · rintro ⟨a2, a3⟩
        exact ⟨⟨zn, hzl, rfl, by omega⟩, a3⟩
      · rintro ⟨⟨j, a4, a5, a6⟩, a3⟩
        have : j = zn := by omega
        subst this
        exact ⟨by omega, a3⟩
    refine ⟨_, rfl, lr, _, rfl, .inl (O.sq 11), _, _, rfl, _, rfl, by split <;> omega, by split <;> omega, ?_⟩
    have hm6 : ((if (vs.length : Int) < 6 then (vs.length : Int) else 6)).toNat ≤ 6 := by split <;> omega
    generalize ((if (vs.length : Int) < 6 then (vs.length : Int) else 6)).toNat = m6 at hm6
    refine for_range (n := m6) (fun i σ H' => Iv (∃ (v14 v15 v16 v17 : Option V), σ = [some (.ref a), some (.ref lv), some (.ref lr), some (.ref lc), some (.ref lt), v5, v6, v7, v8, v9, some (.ref lg), some (.ref lf), some (.ref lS), some (.ref lh), v14, v15, v16, v17] ∧ Ow T Hc H' [(lh, .lst [.ref la, .ref lj, .ref lb, .ref le, .ref lu]), (lu, .lst (cs.map V.int)), (le, .lst (ca.map V.int)), (lb, .lst vs), (lj, .lst (sp.map V.int)), (la, .lst (r.map V.int)), (lS, .lst us), (lf, .lst (fl.map V.int)), (lg, .lst (sp.map V.int)), (lt, .lst (cs.map V.int)), (lc, .lst (ca.map V.int)), (lr, .lst vs), (lv, .lst (r.map V.int))]))
      ⟨trivial, none, none, none, none, rfl, O⟩ ?_ ?_
    · rintro i σ H11 hi ⟨-, v14, v15, v16, v17, rfl, O⟩
      rw [show (0 : Int) + (i : Int) = (i : Int) by omega]
      have own0 : True := trivial
      refine ⟨_, rfl, a, ns, 3, rfl, (s0.trans O.same).seq hS, _, _, rfl, rfl, ⟨by decide, by decide⟩, _, rfl, _, _, rfl, rfl, _, rfl, lr, _, rfl, .inl (O.sq 11), _, _, rfl, rfl, (by show (0 : Int) < (vs.length : Int); omega), ?_⟩
      dsimp only
      have q0 := Int.emod_nonneg (ns.getD 3 0 / 2 + (i : Int)) (show (vs.length : Int) ≠ 0 by omega)
      have q1 := Int.emod_lt_of_pos (ns.getD 3 0 / 2 + (i : Int)) (show (0 : Int) < (vs.length : Int) by omega)
      generalize (ns.getD 3 0 / 2 + (i : Int)) % (vs.length : Int) = nb at q0 q1
      obtain ⟨kn, rfl⟩ := Int.eq_ofNat_of_zero_le q0
      have hkn : kn < ls.length := by omega
      obtain ⟨lk, hlk⟩ : ∃ lk, ls[kn]? = some lk := ⟨_, List.getElem?_eq_getElem hkn⟩
      obtain ⟨ak, hak, hTk⟩ := d0.lic_at hlk
      have ewant := fX_wants7 hlk hlc
      refine ⟨_, rfl, _, rfl, lt, _, _, _, rfl, rfl, O.sq 9, ints_at (getD_get? (ns := cs) (k := kn) (by omega)), _, rfl, _, rfl, lc, _, _, _, rfl, rfl, O.sq 10, ints_at (getD_get? (ns := ca) (k := kn) (by omega)), _, rfl, _, rfl, lr, _, _, _, rfl, rfl, O.sq 11, atI_nat hak, ak, _, 3, _, rfl, rfl, hTk.mo O.same, rfl, _, _, rfl, ?_⟩
      rw [if_min]
      refine ⟨_, _, rfl, rfl, ?_⟩
      refine ⟨_, rfl, _, rfl, ifD (fun h1 => ?_) fun h1 => iteF ⟨trivial, _, _, _, _, rfl, O⟩⟩
      have hne : Tn.fX cs kn ≠ Tn.fX (wantsL ls ca) kn := by
        rw [ewant]; unfold Tn.fX; omega
      refine ⟨_, rfl, _, rfl, _, rfl, _, rfl, _, rfl, lS, lr, lt, lf, kn, us, vs, wsP r ls, ls, cs, fl, rfl, O.sq 6, dws.mo O.same, hwl, O.sq 11, d0.mo O.same, by omega, hkn, O.sq 9, by omega, O.sq 7, wrn kn hkn, O.same.t1, fun β H12 sm hnr => ?_⟩
      have O := O.callT sm
      refine ⟨_, rfl, ifB (fun hb => ?_) fun hb => ⟨trivial, _, _, _, _, rfl, O⟩⟩
      have hnr := hnr.mp hb
      have hno : ∀ z ∈ wayL r ls kn, ¬ ShA r sp ls cs kn z := fun z hz g => hnr z hz ((eqG kn z hkn hz).mpr g)
      refine ⟨_, rfl, lh, _, 0, _, rfl, rfl, O.sq 0, rfl, _, rfl, lh, _, 1, _, rfl, rfl, O.sq 0, rfl, _, rfl, lh, _, 2, _, rfl, rfl, O.sq 0, rfl, _, rfl, lh, _, 3, _, rfl, rfl, O.sq 0, rfl, _, rfl, lh, _, 4, _, rfl, rfl, O.sq 0, rfl, _, rfl, la, lj, le, lu, .ref lb, kn, r, sp, ls, ca, cs, rfl, ⟨O.sq 5, hR, by omega⟩, O.sq 4, hsl, .list (O.sq 3) (d0.mo O.same), by omega, hkn, hok1, O.sq 2, hlc, O.sq 1, hlx, O.same.t1, hne, hno, fun H13 sm => ?_⟩
      have O := O.callT sm
      refine ⟨_, rfl, iteF ?_⟩
      refine ⟨_, rfl, lr, _, rfl, .inl (O.sq 11), _, rfl, by omega, by omega, fun lo hlo => ?_⟩
      refine comp_range (fun j τ H' => Iv (∃ (v0 : Option V) (gs : List Int), τ = [v0, some (.ref lc), some (.ref lt), some (.int (kn : Int))] ∧ gs.length = j ∧ (kn < j → gs.getD kn 0 = cs.getD kn 0) ∧ Ow T Hc H' ((lo, .lst (gs.map V.int)) :: [(lh, .lst [.ref la, .ref lj, .ref lb, .ref le, .ref lu]), (lu, .lst (cs.map V.int)), (le, .lst (ca.map V.int)), (lb, .lst vs), (lj, .lst (sp.map V.int)), (la, .lst (r.map V.int)), (lS, .lst us), (lf, .lst (fl.map V.int)), (lg, .lst (sp.map V.int)), (lt, .lst (cs.map V.int)), (lc, .lst (ca.map V.int)), (lr, .lst vs), (lv, .lst (r.map V.int))])))
        ⟨trivial, none, [], rfl, rfl, (fun h => absurd h (Nat.not_lt_zero _)), O.mk' hlo rfl⟩ ?_ ?_
      · rintro j τ H14 hj ⟨-, v0, gs, rfl, hgl, hgk, O⟩
        rw [show (0 : Int) + (j : Int) = (j : Int) by omega]
        have hj : j < vs.length := by omega
        refine yesT ?_
        refine ⟨_, rfl, _, rfl, lc, _, _, _, rfl, rfl, O.sq 11, ints_at (getD_get? (ns := ca) (k := j) (by omega)), _, rfl, _, rfl, lt, _, _, _, rfl, rfl, O.sq 10, ints_at (getD_get? (ns := cs) (k := j) (by omega)), szl, fun l5 hl5 => ?_⟩
        walk_at "nw"
        refine ⟨_, rfl, _, rfl, rfl, .inr ⟨_, rfl, ?_⟩⟩
        by_cases hjk : j = kn
        · have e : (if decide (V.int (j : Int) = V.int (kn : Int)) = true then (1 : Int) else 0) = 1 := by rw [hjk]; simp
          rw [e]
          refine ⟨l5, _, 1, _, rfl, rfl, O.sq 0, rfl, ?_⟩
          have O := O.tail
          refine ⟨_, O.get 0, small100' (by rw [List.length_map]; omega), ?_⟩
          walk_at "pt"
          rw [map_snoc] at O
          refine ⟨trivial, _, _, rfl, by rw [List.length_append, hgl]; rfl, fun _ => ?_, O⟩
          rw [List.getD_eq_getElem?_getD, List.getElem?_append_right (by omega), hgl, hjk, Nat.sub_self]; rfl
        · have e : (if decide (V.int (j : Int) = V.int (kn : Int)) = true then (1 : Int) else 0) = 0 := by
            have : ¬ ((j : Int) = (kn : Int)) := by omega
            simp [this]
          rw [e]
          refine ⟨l5, _, 0, _, rfl, rfl, O.sq 0, rfl, ?_⟩
          have O := O.tail
          refine ⟨_, O.get 0, small100' (by rw [List.length_map]; omega), ?_⟩
          walk_at "pt"
          rw [map_snoc] at O
          refine ⟨trivial, _, _, rfl, by rw [List.length_append, hgl]; rfl, fun h => ?_, O⟩
          rw [List.getD_eq_getElem?_getD, List.getElem?_append_left (by omega), ← List.getD_eq_getElem?_getD]
          exact hgk (by omega)
      rintro τ H14 ⟨-, v0, gs, rfl, hgl, hgk, O⟩
      have hgk := hgk (by omega)
      have hlg : ls.length = gs.length := by omega
      have ew2 : Tn.fX cs kn = Tn.fX (wantsL ls gs) kn := by
        rw [fX_wants7 hlk hlg, hgk]; unfold Tn.fX; omega
      refine ⟨_, rfl, lh, _, 0, _, rfl, rfl, O.sq 1, rfl, _, rfl, lh, _, 1, _, rfl, rfl, O.sq 1, rfl, _, rfl, lh, _, 2, _, rfl, rfl, O.sq 1, rfl, _, rfl, _, rfl, lh, _, 4, _, rfl, rfl, O.sq 1, rfl, _, rfl, la, lj, lo, lu, .ref lb, kn, r, sp, ls, gs, cs, rfl, ⟨O.sq 6, hR, by omega⟩, O.sq 5, hsl, .list (O.sq 4) (d0.mo O.same), by omega, hkn, hok1, O.sq 0, hlg, O.sq 2, hlx, O.same.t1, (fun _ H' sm => ⟨rfl, _, rfl, iteF ⟨trivial, _, _, _, _, rfl, (O.callT sm).tail⟩⟩), (fun h => absurd ew2 h)⟩
    rintro σ H11 ⟨-, v14, v15, v16, v17, rfl, O⟩
    refine ⟨_, rfl, _, rfl, _, rfl, _, rfl, _, rfl, _, rfl, szl, fun l9 h9 => ?_⟩
    walk_at "nw"
    refine ⟨_, _, dh _ lh la lj lb le lu O.same (O.sq 1) (O.sq 6) (O.sq 5) (O.sq 4) (O.sq 3) (O.sq 2), dh _ l9 lv lg lr lc lt O.same (O.sq 0) (O.sq 13) (O.sq 9) (O.sq 12) (O.sq 11) (O.sq 10), hsh.ok (by decide), hsh.ok (by decide), ?_⟩
    rw [if_neg Bool.false_ne_true, eqv_same hsh]
    exact k _
end
theorem bindK1 {K : PySem.W.Frag} {x qual : Str} {st : Stmt} {f : Addr} {fd : FuncData} {n0 : Str} (F : Fun K x qual st f fd) (h : ∀ (kV doc pm : Value) (an : Option Addr) (cdv ct u0 : Value), bindArgs (PySem.W.fnOf x qual (defArgs st) (defBody st) (defScope st) .none kV doc pm an cdv ct) ⟨[u0], []⟩ = pure (([n0] : List Str).zip [u0])) : Binds K fd [n0] [] :=
  F.binds (ps := [n0]) fun kV doc pm an cdv ct us hl => match us, hl with | [u0], _ => h kV doc pm an cdv ct u0
theorem bindK2 {K : PySem.W.Frag} {x qual : Str} {st : Stmt} {f : Addr} {fd : FuncData} {n0 n1 : Str} (F : Fun K x qual st f fd) (h : ∀ (kV doc pm : Value) (an : Option Addr) (cdv ct u0 u1 : Value), bindArgs (PySem.W.fnOf x qual (defArgs st) (defBody st) (defScope st) .none kV doc pm an cdv ct) ⟨[u0, u1], []⟩ = pure (([n0, n1] : List Str).zip [u0, u1])) : Binds K fd [n0, n1] [] :=
  F.binds (ps := [n0, n1]) fun kV doc pm an cdv ct us hl => match us, hl with | [u0, u1], _ => h kV doc pm an cdv ct u0 u1
theorem bindK3 {K : PySem.W.Frag} {x qual : Str} {st : Stmt} {f : Addr} {fd : FuncData} {n0 n1 n2 : Str} (F : Fun K x qual st f fd) (h : ∀ (kV doc pm : Value) (an : Option Addr) (cdv ct u0 u1 u2 : Value), bindArgs (PySem.W.fnOf x qual (defArgs st) (defBody st) (defScope st) .none kV doc pm an cdv ct) ⟨[u0, u1, u2], []⟩ = pure (([n0, n1, n2] : List Str).zip [u0, u1, u2])) : Binds K fd [n0, n1, n2] [] :=
  F.binds (ps := [n0, n1, n2]) fun kV doc pm an cdv ct us hl => match us, hl with | [u0, u1, u2], _ => h kV doc pm an cdv ct u0 u1 u2
theorem bindK4 {K : PySem.W.Frag} {x qual : Str} {st : Stmt} {f : Addr} {fd : FuncData} {n0 n1 n2 n3 : Str} (F : Fun K x qual st f fd) (h : ∀ (kV doc pm : Value) (an : Option Addr) (cdv ct u0 u1 u2 u3 : Value), bindArgs (PySem.W.fnOf x qual (defArgs st) (defBody st) (defScope st) .none kV doc pm an cdv ct) ⟨[u0, u1, u2, u3], []⟩ = pure (([n0, n1, n2, n3] : List Str).zip [u0, u1, u2, u3])) : Binds K fd [n0, n1, n2, n3] [] :=
  F.binds (ps := [n0, n1, n2, n3]) fun kV doc pm an cdv ct us hl => match us, hl with | [u0, u1, u2, u3], _ => h kV doc pm an cdv ct u0 u1 u2 u3
theorem bindK5 {K : PySem.W.Frag} {x qual : Str} {st : Stmt} {f : Addr} {fd : FuncData} {n0 n1 n2 n3 n4 : Str} (F : Fun K x qual st f fd) (h : ∀ (kV doc pm : Value) (an : Option Addr) (cdv ct u0 u1 u2 u3 u4 : Value), bindArgs (PySem.W.fnOf x qual (defArgs st) (defBody st) (defScope st) .none kV doc pm an cdv ct) ⟨[u0, u1, u2, u3, u4], []⟩ = pure (([n0, n1, n2, n3, n4] : List Str).zip [u0, u1, u2, u3, u4])) : Binds K fd [n0, n1, n2, n3, n4] [] :=
  F.binds (ps := [n0, n1, n2, n3, n4]) fun kV doc pm an cdv ct us hl => match us, hl with | [u0, u1, u2, u3, u4], _ => h kV doc pm an cdv ct u0 u1 u2 u3 u4
theorem bindK6 {K : PySem.W.Frag} {x qual : Str} {st : Stmt} {f : Addr} {fd : FuncData} {n0 n1 n2 n3 n4 n5 : Str} (F : Fun K x qual st f fd) (h : ∀ (kV doc pm : Value) (an : Option Addr) (cdv ct u0 u1 u2 u3 u4 u5 : Value), bindArgs (PySem.W.fnOf x qual (defArgs st) (defBody st) (defScope st) .none kV doc pm an cdv ct) ⟨[u0, u1, u2, u3, u4, u5], []⟩ = pure (([n0, n1, n2, n3, n4, n5] : List Str).zip [u0, u1, u2, u3, u4, u5])) : Binds K fd [n0, n1, n2, n3, n4, n5] [] :=
  F.binds (ps := [n0, n1, n2, n3, n4, n5]) fun kV doc pm an cdv ct us hl => match us, hl with | [u0, u1, u2, u3, u4, u5], _ => h kV doc pm an cdv ct u0 u1 u2 u3 u4 u5
/-! ### what the top has written, and the law's own head -/
theorem all_mk {l : PySem.W.OpenLaw} {w : World} {K : PySem.W.Frag} {h : Heap} {mg : Str → Option Value} {fa f0 f1 f2 f3 f4 f5 f6 f7 f8 f9 f10 f11 f12 f13 f14 f15 f16 f17 f18 f19 f20 f21 f22 f23 f24 f25 f26 f27 f28 f29 cX_SluiceError cX_NoRiver cX_NoReach cX_NoLicence cX_NoNumber cX_NoHolder cX_NotYours cX_NotAlone cX_TooMuch cX_Full cX_NoPaper cX_NoCut cX_NoPond cX_NoDay cX_Fixed cX_Harms cX_NoRow pT0 cT0 : Addr} (X : K.In h) (G : h.Ns mainGlobals mg) (hfa : mg "law" = some (.ref fa))
    {od0 an0 od1 an1 od2 an2 od3 an3 od4 an4 od5 an5 od6 an6 od7 an7 od8 an8 od9 an9 od10 an10 od11 an11 od12 an12 od13 an13 od14 an14 od15 an15 od16 an16 od17 an17 od18 an18 od19 an19 od20 an20 od21 an21 od22 an22 od23 an23 od24 an24 od25 an25 od26 an26 od27 an27 od28 an28 od29 an29 : Option Addr} {sl0 sl1 sl2 sl3 sl4 sl5 sl6 sl7 sl8 sl9 sl10 sl11 sl12 sl13 sl14 sl15 sl16 sl17 sl18 sl19 sl20 sl21 sl22 sl23 sl24 sl25 sl26 sl27 sl28 sl29 : Array (Option Value)} {oc0 kV0 dc0 pm0 cd0 ct0 oc1 kV1 dc1 pm1 ct1 oc2 kV2 dc2 pm2 cd2 ct2 oc3 kV3 dc3 pm3 cd3 ct3 oc4 kV4 dc4 pm4 cd4 ct4 oc5 kV5 dc5 pm5 cd5 ct5 oc6 kV6 dc6 pm6 cd6 ct6 oc7 kV7 dc7 pm7 cd7 ct7 oc8 kV8 dc8 pm8 cd8 ct8 oc9 kV9 dc9 pm9 cd9 ct9 oc10 kV10 dc10 pm10 cd10 ct10 oc11 kV11 dc11 pm11 cd11 ct11 oc12 kV12 dc12 pm12 cd12 ct12 oc13 kV13 dc13 pm13 cd13 ct13 oc14 kV14 dc14 pm14 cd14 ct14 oc15 kV15 dc15 pm15 cd15 ct15 oc16 kV16 dc16 pm16 cd16 ct16 oc17 kV17 dc17 pm17 cd17 ct17 oc18 kV18 dc18 pm18 cd18 ct18 oc19 kV19 dc19 pm19 cd19 ct19 oc20 kV20 dc20 pm20 cd20 ct20 oc21 kV21 dc21 pm21 cd21 ct21 oc22 kV22 dc22 pm22 cd22 ct22 oc23 kV23 dc23 pm23 cd23 ct23 oc24 kV24 dc24 pm24 cd24 ct24 oc25 kV25 dc25 pm25 cd25 ct25 oc26 kV26 dc26 pm26 cd26 ct26 oc27 kV27 dc27 pm27 cd27 ct27 oc28 kV28 dc28 pm28 cd28 ct28 oc29 kV29 dc29 pm29 cd29 ct29 : Value} {t0 : Tok}
    (a0 : PySem.W.nsIn K mainGlobals "way_of" = some (some (.ref f0))) (l0 : K.lookup f0 = some ⟨oc0, od0, .func (PySem.W.fnOf "way_of" "way_of" (defArgs s_way_of) (defBody s_way_of) (defScope s_way_of) .none kV0 dc0 pm0 an0 cd0 ct0), sl0⟩) (c0 : PySem.W.codeIn K cd0 "way_of" = true) (k0 : PySem.W.keepIn K (.ref f0) = true)
    (a1 : PySem.W.nsIn K mainGlobals "tops_first" = some (some (.ref f1))) (l1 : K.lookup f1 = some ⟨oc1, od1, .func (PySem.W.fnOf "tops_first" "tops_first" (defArgs s_tops_first) (defBody s_tops_first) (defScope s_tops_first) .none kV1 dc1 pm1 an1 (.ref cT0) ct1), sl1⟩) (c1 : PySem.W.codeIn K (.ref cT0) "tops_first" = true) (k1 : PySem.W.keepIn K (.ref f1) = true)
    (a2 : PySem.W.nsIn K mainGlobals "stretch_of" = some (some (.ref f2))) (l2 : K.lookup f2 = some ⟨oc2, od2, .func (PySem.W.fnOf "stretch_of" "stretch_of" (defArgs s_stretch_of) (defBody s_stretch_of) (defScope s_stretch_of) .none kV2 dc2 pm2 an2 cd2 ct2), sl2⟩) (c2 : PySem.W.codeIn K cd2 "stretch_of" = true) (k2 : PySem.W.keepIn K (.ref f2) = true)
    (a3 : PySem.W.nsIn K mainGlobals "natural_of" = some (some (.ref f3))) (l3 : K.lookup f3 = some ⟨oc3, od3, .func (PySem.W.fnOf "natural_of" "natural_of" (defArgs s_natural_of) (defBody s_natural_of) (defScope s_natural_of) .none kV3 dc3 pm3 an3 cd3 ct3), sl3⟩) (c3 : PySem.W.codeIn K cd3 "natural_of" = true) (k3 : PySem.W.keepIn K (.ref f3) = true)
    (a4 : PySem.W.nsIn K mainGlobals "reaches_of" = some (some (.ref f4))) (l4 : K.lookup f4 = some ⟨oc4, od4, .func (PySem.W.fnOf "reaches_of" "reaches_of" (defArgs s_reaches_of) (defBody s_reaches_of) (defScope s_reaches_of) .none kV4 dc4 pm4 an4 cd4 ct4), sl4⟩) (c4 : PySem.W.codeIn K cd4 "reaches_of" = true) (k4 : PySem.W.keepIn K (.ref f4) = true)
    (a5 : PySem.W.nsIn K mainGlobals "day_filed" = some (some (.ref f5))) (l5 : K.lookup f5 = some ⟨oc5, od5, .func (PySem.W.fnOf "day_filed" "day_filed" (defArgs s_day_filed) (defBody s_day_filed) (defScope s_day_filed) .none kV5 dc5 pm5 an5 cd5 ct5), sl5⟩) (c5 : PySem.W.codeIn K cd5 "day_filed" = true) (k5 : PySem.W.keepIn K (.ref f5) = true)
    (a6 : PySem.W.nsIn K mainGlobals "most_of" = some (some (.ref f6))) (l6 : K.lookup f6 = some ⟨oc6, od6, .func (PySem.W.fnOf "most_of" "most_of" (defArgs s_most_of) (defBody s_most_of) (defScope s_most_of) .none kV6 dc6 pm6 an6 cd6 ct6), sl6⟩) (c6 : PySem.W.codeIn K cd6 "most_of" = true) (k6 : PySem.W.keepIn K (.ref f6) = true)
    (a7 : PySem.W.nsIn K mainGlobals "wants_of" = some (some (.ref f7))) (l7 : K.lookup f7 = some ⟨oc7, od7, .func (PySem.W.fnOf "wants_of" "wants_of" (defArgs s_wants_of) (defBody s_wants_of) (defScope s_wants_of) .none kV7 dc7 pm7 an7 cd7 ct7), sl7⟩) (c7 : PySem.W.codeIn K cd7 "wants_of" = true) (k7 : PySem.W.keepIn K (.ref f7) = true)
    (a8 : PySem.W.nsIn K mainGlobals "holds_of" = some (some (.ref f8))) (l8 : K.lookup f8 = some ⟨oc8, od8, .func (PySem.W.fnOf "holds_of" "holds_of" (defArgs s_holds_of) (defBody s_holds_of) (defScope s_holds_of) .none kV8 dc8 pm8 an8 cd8 ct8), sl8⟩) (c8 : PySem.W.codeIn K cd8 "holds_of" = true) (k8 : PySem.W.keepIn K (.ref f8) = true)
    (a9 : PySem.W.nsIn K mainGlobals "free_of" = some (some (.ref f9))) (l9 : K.lookup f9 = some ⟨oc9, od9, .func (PySem.W.fnOf "free_of" "free_of" (defArgs s_free_of) (defBody s_free_of) (defScope s_free_of) .none kV9 dc9 pm9 an9 cd9 ct9), sl9⟩) (c9 : PySem.W.codeIn K cd9 "free_of" = true) (k9 : PySem.W.keepIn K (.ref f9) = true)
    (a10 : PySem.W.nsIn K mainGlobals "dry_of" = some (some (.ref f10))) (l10 : K.lookup f10 = some ⟨oc10, od10, .func (PySem.W.fnOf "dry_of" "dry_of" (defArgs s_dry_of) (defBody s_dry_of) (defScope s_dry_of) .none kV10 dc10 pm10 an10 cd10 ct10), sl10⟩) (c10 : PySem.W.codeIn K cd10 "dry_of" = true) (k10 : PySem.W.keepIn K (.ref f10) = true)
    (a11 : PySem.W.nsIn K mainGlobals "comes_ahead" = some (some (.ref f11))) (l11 : K.lookup f11 = some ⟨oc11, od11, .func (PySem.W.fnOf "comes_ahead" "comes_ahead" (defArgs s_comes_ahead) (defBody s_comes_ahead) (defScope s_comes_ahead) .none kV11 dc11 pm11 an11 cd11 ct11), sl11⟩) (c11 : PySem.W.codeIn K cd11 "comes_ahead" = true) (k11 : PySem.W.keepIn K (.ref f11) = true)
    (a12 : PySem.W.nsIn K mainGlobals "stretches_of" = some (some (.ref f12))) (l12 : K.lookup f12 = some ⟨oc12, od12, .func (PySem.W.fnOf "stretches_of" "stretches_of" (defArgs s_stretches_of) (defBody s_stretches_of) (defScope s_stretches_of) .none kV12 dc12 pm12 an12 cd12 ct12), sl12⟩) (c12 : PySem.W.codeIn K cd12 "stretches_of" = true) (k12 : PySem.W.keepIn K (.ref f12) = true)
    (a13 : PySem.W.nsIn K mainGlobals "who_holds" = some (some (.ref f13))) (l13 : K.lookup f13 = some ⟨oc13, od13, .func (PySem.W.fnOf "who_holds" "who_holds" (defArgs s_who_holds) (defBody s_who_holds) (defScope s_who_holds) .none kV13 dc13 pm13 an13 cd13 ct13), sl13⟩) (c13 : PySem.W.codeIn K cd13 "who_holds" = true) (k13 : PySem.W.keepIn K (.ref f13) = true)
    (a14 : PySem.W.nsIn K mainGlobals "all_ahead" = some (some (.ref f14))) (l14 : K.lookup f14 = some ⟨oc14, od14, .func (PySem.W.fnOf "all_ahead" "all_ahead" (defArgs s_all_ahead) (defBody s_all_ahead) (defScope s_all_ahead) .none kV14 dc14 pm14 an14 cd14 ct14), sl14⟩) (c14 : PySem.W.codeIn K cd14 "all_ahead" = true) (k14 : PySem.W.keepIn K (.ref f14) = true)
    (a15 : PySem.W.nsIn K mainGlobals "first_showing" = some (some (.ref f15))) (l15 : K.lookup f15 = some ⟨oc15, od15, .func (PySem.W.fnOf "first_showing" "first_showing" (defArgs s_first_showing) (defBody s_first_showing) (defScope s_first_showing) .none kV15 dc15 pm15 an15 cd15 ct15), sl15⟩) (c15 : PySem.W.codeIn K cd15 "first_showing" = true) (k15 : PySem.W.keepIn K (.ref f15) = true)
    (a16 : PySem.W.nsIn K mainGlobals "paper_of" = some (some (.ref f16))) (l16 : K.lookup f16 = some ⟨oc16, od16, .func (PySem.W.fnOf "paper_of" "paper_of" (defArgs s_paper_of) (defBody s_paper_of) (defScope s_paper_of) .none kV16 dc16 pm16 an16 cd16 ct16), sl16⟩) (c16 : PySem.W.codeIn K cd16 "paper_of" = true) (k16 : PySem.W.keepIn K (.ref f16) = true)
    (a17 : PySem.W.nsIn K mainGlobals "_law_cell_at" = some (some (.ref f17))) (l17 : K.lookup f17 = some ⟨oc17, od17, .func (PySem.W.fnOf "_law_cell_at" "_law_cell_at" (defArgs s__law_cell_at) (defBody s__law_cell_at) (defScope s__law_cell_at) .none kV17 dc17 pm17 an17 cd17 ct17), sl17⟩) (c17 : PySem.W.codeIn K cd17 "_law_cell_at" = true) (k17 : PySem.W.keepIn K (.ref f17) = true)
    (a18 : PySem.W.nsIn K mainGlobals "_law_draw" = some (some (.ref f18))) (l18 : K.lookup f18 = some ⟨oc18, od18, .func (PySem.W.fnOf "_law_draw" "_law_draw" (defArgs s__law_draw) (defBody s__law_draw) (defScope s__law_draw) .none kV18 dc18 pm18 an18 cd18 ct18), sl18⟩) (c18 : PySem.W.codeIn K cd18 "_law_draw" = true) (k18 : PySem.W.keepIn K (.ref f18) = true)
    (a19 : PySem.W.nsIn K mainGlobals "_law_mixed" = some (some (.ref f19))) (l19 : K.lookup f19 = some ⟨oc19, od19, .func (PySem.W.fnOf "_law_mixed" "_law_mixed" (defArgs s__law_mixed) (defBody s__law_mixed) (defScope s__law_mixed) .none kV19 dc19 pm19 an19 cd19 ct19), sl19⟩) (c19 : PySem.W.codeIn K cd19 "_law_mixed" = true) (k19 : PySem.W.keepIn K (.ref f19) = true)
    (a20 : PySem.W.nsIn K mainGlobals "_law_river" = some (some (.ref f20))) (l20 : K.lookup f20 = some ⟨oc20, od20, .func (PySem.W.fnOf "_law_river" "_law_river" (defArgs s__law_river) (defBody s__law_river) (defScope s__law_river) .none kV20 dc20 pm20 an20 cd20 ct20), sl20⟩) (c20 : PySem.W.codeIn K cd20 "_law_river" = true) (k20 : PySem.W.keepIn K (.ref f20) = true)
    (a21 : PySem.W.nsIn K mainGlobals "_law_way" = some (some (.ref f21))) (l21 : K.lookup f21 = some ⟨oc21, od21, .func (PySem.W.fnOf "_law_way" "_law_way" (defArgs s__law_way) (defBody s__law_way) (defScope s__law_way) .none kV21 dc21 pm21 an21 cd21 ct21), sl21⟩) (c21 : PySem.W.codeIn K cd21 "_law_way" = true) (k21 : PySem.W.keepIn K (.ref f21) = true)
    (a22 : PySem.W.nsIn K mainGlobals "_law_stretch" = some (some (.ref f22))) (l22 : K.lookup f22 = some ⟨oc22, od22, .func (PySem.W.fnOf "_law_stretch" "_law_stretch" (defArgs s__law_stretch) (defBody s__law_stretch) (defScope s__law_stretch) .none kV22 dc22 pm22 an22 cd22 ct22), sl22⟩) (c22 : PySem.W.codeIn K cd22 "_law_stretch" = true) (k22 : PySem.W.keepIn K (.ref f22) = true)
    (a23 : PySem.W.nsIn K mainGlobals "_law_free" = some (some (.ref f23))) (l23 : K.lookup f23 = some ⟨oc23, od23, .func (PySem.W.fnOf "_law_free" "_law_free" (defArgs s__law_free) (defBody s__law_free) (defScope s__law_free) .none kV23 dc23 pm23 an23 cd23 ct23), sl23⟩) (c23 : PySem.W.codeIn K cd23 "_law_free" = true) (k23 : PySem.W.keepIn K (.ref f23) = true)
    (a24 : PySem.W.nsIn K mainGlobals "_law_drawn" = some (some (.ref f24))) (l24 : K.lookup f24 = some ⟨oc24, od24, .func (PySem.W.fnOf "_law_drawn" "_law_drawn" (defArgs s__law_drawn) (defBody s__law_drawn) (defScope s__law_drawn) .none kV24 dc24 pm24 an24 cd24 ct24), sl24⟩) (c24 : PySem.W.codeIn K cd24 "_law_drawn" = true) (k24 : PySem.W.keepIn K (.ref f24) = true)
    (a25 : PySem.W.nsIn K mainGlobals "_law_springs" = some (some (.ref f25))) (l25 : K.lookup f25 = some ⟨oc25, od25, .func (PySem.W.fnOf "_law_springs" "_law_springs" (defArgs s__law_springs) (defBody s__law_springs) (defScope s__law_springs) .none kV25 dc25 pm25 an25 cd25 ct25), sl25⟩) (c25 : PySem.W.codeIn K cd25 "_law_springs" = true) (k25 : PySem.W.keepIn K (.ref f25) = true)
    (a26 : PySem.W.nsIn K mainGlobals "_law_no_reach" = some (some (.ref f26))) (l26 : K.lookup f26 = some ⟨oc26, od26, .func (PySem.W.fnOf "_law_no_reach" "_law_no_reach" (defArgs s__law_no_reach) (defBody s__law_no_reach) (defScope s__law_no_reach) .none kV26 dc26 pm26 an26 cd26 ct26), sl26⟩) (c26 : PySem.W.codeIn K cd26 "_law_no_reach" = true) (k26 : PySem.W.keepIn K (.ref f26) = true)
    (a27 : PySem.W.nsIn K mainGlobals "_law_other_name" = some (some (.ref f27))) (l27 : K.lookup f27 = some ⟨oc27, od27, .func (PySem.W.fnOf "_law_other_name" "_law_other_name" (defArgs s__law_other_name) (defBody s__law_other_name) (defScope s__law_other_name) .none kV27 dc27 pm27 an27 cd27 ct27), sl27⟩) (c27 : PySem.W.codeIn K cd27 "_law_other_name" = true) (k27 : PySem.W.keepIn K (.ref f27) = true)
    (a28 : PySem.W.nsIn K mainGlobals "_law_refused" = some (some (.ref f28))) (l28 : K.lookup f28 = some ⟨oc28, od28, .func (PySem.W.fnOf "_law_refused" "_law_refused" (defArgs s__law_refused) (defBody s__law_refused) (defScope s__law_refused) .none kV28 dc28 pm28 an28 cd28 ct28), sl28⟩) (c28 : PySem.W.codeIn K cd28 "_law_refused" = true) (k28 : PySem.W.keepIn K (.ref f28) = true)
    (a29 : PySem.W.nsIn K mainGlobals "law" = some (some (.ref f29))) (l29 : K.lookup f29 = some ⟨oc29, od29, .func (PySem.W.fnOf "law" "law" (defArgs s_law) (defBody s_law) (defScope s_law) .none kV29 dc29 pm29 an29 cd29 ct29), sl29⟩) (c29 : PySem.W.codeIn K cd29 "law" = true) (k29 : PySem.W.keepIn K (.ref f29) = true)
    (e0 : PySem.W.nsIn K mainGlobals "MOUTH" = some (some (.int (-1) t0)))
    (z_len : PySem.W.nsIn K mainGlobals "len" = some none)
    (z_range : PySem.W.nsIn K mainGlobals "range" = some none)
    (z_list : PySem.W.nsIn K mainGlobals "list" = some none)
    (z_isinstance : PySem.W.nsIn K mainGlobals "isinstance" = some none)
    (z_bool : PySem.W.nsIn K mainGlobals "bool" = some none)
    (z_int : PySem.W.nsIn K mainGlobals "int" = some none)
    (z_all : PySem.W.nsIn K mainGlobals "all" = some none)
    (z_min : PySem.W.nsIn K mainGlobals "min" = some none)
    (z_max : PySem.W.nsIn K mainGlobals "max" = some none)
    (z_sum : PySem.W.nsIn K mainGlobals "sum" = some none)
    (z_sorted : PySem.W.nsIn K mainGlobals "sorted" = some none)
    (z_zip : PySem.W.nsIn K mainGlobals "zip" = some none)
    (z_tuple : PySem.W.nsIn K mainGlobals "tuple" = some none)
    (z_str : PySem.W.nsIn K mainGlobals "str" = some none)
    (z_any : PySem.W.nsIn K mainGlobals "any" = some none)
    (z_enumerate : PySem.W.nsIn K mainGlobals "enumerate" = some none)
    (z_reversed : PySem.W.nsIn K mainGlobals "reversed" = some none)
    (z_abs : PySem.W.nsIn K mainGlobals "abs" = some none)
    (z_ValueError : PySem.W.nsIn K mainGlobals "ValueError" = some none)
    (n_SluiceError : PySem.W.nsIn K mainGlobals "SluiceError" = some (some (.ref cX_SluiceError))) (q_SluiceError : PySem.W.excIn K cX_SluiceError bmVE "ValueError.__new__" = true)
    (xa_SluiceError : PySem.W.findIn K (.ref cX_SluiceError) "__getattribute__" = some (some (.builtin "BaseException.__getattribute__"))) (xb_SluiceError : PySem.W.findIn K (.ref cX_SluiceError) "__getattr__" = some none) (xc_SluiceError : PySem.W.findIn K (.ref cX_SluiceError) "__class__" = some (some (.builtin "object.__class__")))
    (xd_SluiceError : PySem.W.specialIn K (.builtin "object.__class__") "__get__" = some (some (.builtin "getset_descriptor.__get__"))) (xe_SluiceError : PySem.W.takesIn K (.builtin "object.__class__") = some true) (xf_SluiceError : PySem.W.mroIn K cX_SluiceError (.type "object") = some true) (xg_SluiceError : PySem.W.mroIn K cX_SluiceError (.type "BaseException") = some true) (xh_SluiceError : (PySem.W.clsIn K cX_SluiceError).isSome = true)
    (n_NoRiver : PySem.W.nsIn K mainGlobals "NoRiver" = some (some (.ref cX_NoRiver))) (q_NoRiver : PySem.W.excIn K cX_NoRiver bmVE "ValueError.__new__" = true)
    (xa_NoRiver : PySem.W.findIn K (.ref cX_NoRiver) "__getattribute__" = some (some (.builtin "BaseException.__getattribute__"))) (xb_NoRiver : PySem.W.findIn K (.ref cX_NoRiver) "__getattr__" = some none) (xc_NoRiver : PySem.W.findIn K (.ref cX_NoRiver) "__class__" = some (some (.builtin "object.__class__")))
    (xd_NoRiver : PySem.W.specialIn K (.builtin "object.__class__") "__get__" = some (some (.builtin "getset_descriptor.__get__"))) (xe_NoRiver : PySem.W.takesIn K (.builtin "object.__class__") = some true) (xf_NoRiver : PySem.W.mroIn K cX_NoRiver (.type "object") = some true) (xg_NoRiver : PySem.W.mroIn K cX_NoRiver (.type "BaseException") = some true) (xh_NoRiver : (PySem.W.clsIn K cX_NoRiver).isSome = true)
    (n_NoReach : PySem.W.nsIn K mainGlobals "NoReach" = some (some (.ref cX_NoReach))) (q_NoReach : PySem.W.excIn K cX_NoReach bmVE "ValueError.__new__" = true)
    (xa_NoReach : PySem.W.findIn K (.ref cX_NoReach) "__getattribute__" = some (some (.builtin "BaseException.__getattribute__"))) (xb_NoReach : PySem.W.findIn K (.ref cX_NoReach) "__getattr__" = some none) (xc_NoReach : PySem.W.findIn K (.ref cX_NoReach) "__class__" = some (some (.builtin "object.__class__")))
    (xd_NoReach : PySem.W.specialIn K (.builtin "object.__class__") "__get__" = some (some (.builtin "getset_descriptor.__get__"))) (xe_NoReach : PySem.W.takesIn K (.builtin "object.__class__") = some true) (xf_NoReach : PySem.W.mroIn K cX_NoReach (.type "object") = some true) (xg_NoReach : PySem.W.mroIn K cX_NoReach (.type "BaseException") = some true) (xh_NoReach : (PySem.W.clsIn K cX_NoReach).isSome = true)
    (n_NoLicence : PySem.W.nsIn K mainGlobals "NoLicence" = some (some (.ref cX_NoLicence))) (q_NoLicence : PySem.W.excIn K cX_NoLicence bmVE "ValueError.__new__" = true)
    (xa_NoLicence : PySem.W.findIn K (.ref cX_NoLicence) "__getattribute__" = some (some (.builtin "BaseException.__getattribute__"))) (xb_NoLicence : PySem.W.findIn K (.ref cX_NoLicence) "__getattr__" = some none) (xc_NoLicence : PySem.W.findIn K (.ref cX_NoLicence) "__class__" = some (some (.builtin "object.__class__")))
    (xd_NoLicence : PySem.W.specialIn K (.builtin "object.__class__") "__get__" = some (some (.builtin "getset_descriptor.__get__"))) (xe_NoLicence : PySem.W.takesIn K (.builtin "object.__class__") = some true) (xf_NoLicence : PySem.W.mroIn K cX_NoLicence (.type "object") = some true) (xg_NoLicence : PySem.W.mroIn K cX_NoLicence (.type "BaseException") = some true) (xh_NoLicence : (PySem.W.clsIn K cX_NoLicence).isSome = true)
    (n_NoNumber : PySem.W.nsIn K mainGlobals "NoNumber" = some (some (.ref cX_NoNumber))) (q_NoNumber : PySem.W.excIn K cX_NoNumber bmVE "ValueError.__new__" = true)
    (xa_NoNumber : PySem.W.findIn K (.ref cX_NoNumber) "__getattribute__" = some (some (.builtin "BaseException.__getattribute__"))) (xb_NoNumber : PySem.W.findIn K (.ref cX_NoNumber) "__getattr__" = some none) (xc_NoNumber : PySem.W.findIn K (.ref cX_NoNumber) "__class__" = some (some (.builtin "object.__class__")))
    (xd_NoNumber : PySem.W.specialIn K (.builtin "object.__class__") "__get__" = some (some (.builtin "getset_descriptor.__get__"))) (xe_NoNumber : PySem.W.takesIn K (.builtin "object.__class__") = some true) (xf_NoNumber : PySem.W.mroIn K cX_NoNumber (.type "object") = some true) (xg_NoNumber : PySem.W.mroIn K cX_NoNumber (.type "BaseException") = some true) (xh_NoNumber : (PySem.W.clsIn K cX_NoNumber).isSome = true)
    (n_NoHolder : PySem.W.nsIn K mainGlobals "NoHolder" = some (some (.ref cX_NoHolder))) (q_NoHolder : PySem.W.excIn K cX_NoHolder bmVE "ValueError.__new__" = true)
    (xa_NoHolder : PySem.W.findIn K (.ref cX_NoHolder) "__getattribute__" = some (some (.builtin "BaseException.__getattribute__"))) (xb_NoHolder : PySem.W.findIn K (.ref cX_NoHolder) "__getattr__" = some none) (xc_NoHolder : PySem.W.findIn K (.ref cX_NoHolder) "__class__" = some (some (.builtin "object.__class__")))
    (xd_NoHolder : PySem.W.specialIn K (.builtin "object.__class__") "__get__" = some (some (.builtin "getset_descriptor.__get__"))) (xe_NoHolder : PySem.W.takesIn K (.builtin "object.__class__") = some true) (xf_NoHolder : PySem.W.mroIn K cX_NoHolder (.type "object") = some true) (xg_NoHolder : PySem.W.mroIn K cX_NoHolder (.type "BaseException") = some true) (xh_NoHolder : (PySem.W.clsIn K cX_NoHolder).isSome = true)
    (n_NotYours : PySem.W.nsIn K mainGlobals "NotYours" = some (some (.ref cX_NotYours))) (q_NotYours : PySem.W.excIn K cX_NotYours bmVE "ValueError.__new__" = true)
    (xa_NotYours : PySem.W.findIn K (.ref cX_NotYours) "__getattribute__" = some (some (.builtin "BaseException.__getattribute__"))) (xb_NotYours : PySem.W.findIn K (.ref cX_NotYours) "__getattr__" = some none) (xc_NotYours : PySem.W.findIn K (.ref cX_NotYours) "__class__" = some (some (.builtin "object.__class__")))
    (xd_NotYours : PySem.W.specialIn K (.builtin "object.__class__") "__get__" = some (some (.builtin "getset_descriptor.__get__"))) (xe_NotYours : PySem.W.takesIn K (.builtin "object.__class__") = some true) (xf_NotYours : PySem.W.mroIn K cX_NotYours (.type "object") = some true) (xg_NotYours : PySem.W.mroIn K cX_NotYours (.type "BaseException") = some true) (xh_NotYours : (PySem.W.clsIn K cX_NotYours).isSome = true)
    (n_NotAlone : PySem.W.nsIn K mainGlobals "NotAlone" = some (some (.ref cX_NotAlone))) (q_NotAlone : PySem.W.excIn K cX_NotAlone bmVE "ValueError.__new__" = true)
    (xa_NotAlone : PySem.W.findIn K (.ref cX_NotAlone) "__getattribute__" = some (some (.builtin "BaseException.__getattribute__"))) (xb_NotAlone : PySem.W.findIn K (.ref cX_NotAlone) "__getattr__" = some none) (xc_NotAlone : PySem.W.findIn K (.ref cX_NotAlone) "__class__" = some (some (.builtin "object.__class__")))
    (xd_NotAlone : PySem.W.specialIn K (.builtin "object.__class__") "__get__" = some (some (.builtin "getset_descriptor.__get__"))) (xe_NotAlone : PySem.W.takesIn K (.builtin "object.__class__") = some true) (xf_NotAlone : PySem.W.mroIn K cX_NotAlone (.type "object") = some true) (xg_NotAlone : PySem.W.mroIn K cX_NotAlone (.type "BaseException") = some true) (xh_NotAlone : (PySem.W.clsIn K cX_NotAlone).isSome = true)
    (n_TooMuch : PySem.W.nsIn K mainGlobals "TooMuch" = some (some (.ref cX_TooMuch))) (q_TooMuch : PySem.W.excIn K cX_TooMuch bmVE "ValueError.__new__" = true)
    (xa_TooMuch : PySem.W.findIn K (.ref cX_TooMuch) "__getattribute__" = some (some (.builtin "BaseException.__getattribute__"))) (xb_TooMuch : PySem.W.findIn K (.ref cX_TooMuch) "__getattr__" = some none) (xc_TooMuch : PySem.W.findIn K (.ref cX_TooMuch) "__class__" = some (some (.builtin "object.__class__")))
    (xd_TooMuch : PySem.W.specialIn K (.builtin "object.__class__") "__get__" = some (some (.builtin "getset_descriptor.__get__"))) (xe_TooMuch : PySem.W.takesIn K (.builtin "object.__class__") = some true) (xf_TooMuch : PySem.W.mroIn K cX_TooMuch (.type "object") = some true) (xg_TooMuch : PySem.W.mroIn K cX_TooMuch (.type "BaseException") = some true) (xh_TooMuch : (PySem.W.clsIn K cX_TooMuch).isSome = true)
    (n_Full : PySem.W.nsIn K mainGlobals "Full" = some (some (.ref cX_Full))) (q_Full : PySem.W.excIn K cX_Full bmVE "ValueError.__new__" = true)
    (xa_Full : PySem.W.findIn K (.ref cX_Full) "__getattribute__" = some (some (.builtin "BaseException.__getattribute__"))) (xb_Full : PySem.W.findIn K (.ref cX_Full) "__getattr__" = some none) (xc_Full : PySem.W.findIn K (.ref cX_Full) "__class__" = some (some (.builtin "object.__class__")))
    (xd_Full : PySem.W.specialIn K (.builtin "object.__class__") "__get__" = some (some (.builtin "getset_descriptor.__get__"))) (xe_Full : PySem.W.takesIn K (.builtin "object.__class__") = some true) (xf_Full : PySem.W.mroIn K cX_Full (.type "object") = some true) (xg_Full : PySem.W.mroIn K cX_Full (.type "BaseException") = some true) (xh_Full : (PySem.W.clsIn K cX_Full).isSome = true)
    (n_NoPaper : PySem.W.nsIn K mainGlobals "NoPaper" = some (some (.ref cX_NoPaper))) (q_NoPaper : PySem.W.excIn K cX_NoPaper bmVE "ValueError.__new__" = true)
    (xa_NoPaper : PySem.W.findIn K (.ref cX_NoPaper) "__getattribute__" = some (some (.builtin "BaseException.__getattribute__"))) (xb_NoPaper : PySem.W.findIn K (.ref cX_NoPaper) "__getattr__" = some none) (xc_NoPaper : PySem.W.findIn K (.ref cX_NoPaper) "__class__" = some (some (.builtin "object.__class__")))
    (xd_NoPaper : PySem.W.specialIn K (.builtin "object.__class__") "__get__" = some (some (.builtin "getset_descriptor.__get__"))) (xe_NoPaper : PySem.W.takesIn K (.builtin "object.__class__") = some true) (xf_NoPaper : PySem.W.mroIn K cX_NoPaper (.type "object") = some true) (xg_NoPaper : PySem.W.mroIn K cX_NoPaper (.type "BaseException") = some true) (xh_NoPaper : (PySem.W.clsIn K cX_NoPaper).isSome = true)
    (n_NoCut : PySem.W.nsIn K mainGlobals "NoCut" = some (some (.ref cX_NoCut))) (q_NoCut : PySem.W.excIn K cX_NoCut bmVE "ValueError.__new__" = true)
    (xa_NoCut : PySem.W.findIn K (.ref cX_NoCut) "__getattribute__" = some (some (.builtin "BaseException.__getattribute__"))) (xb_NoCut : PySem.W.findIn K (.ref cX_NoCut) "__getattr__" = some none) (xc_NoCut : PySem.W.findIn K (.ref cX_NoCut) "__class__" = some (some (.builtin "object.__class__")))
    (xd_NoCut : PySem.W.specialIn K (.builtin "object.__class__") "__get__" = some (some (.builtin "getset_descriptor.__get__"))) (xe_NoCut : PySem.W.takesIn K (.builtin "object.__class__") = some true) (xf_NoCut : PySem.W.mroIn K cX_NoCut (.type "object") = some true) (xg_NoCut : PySem.W.mroIn K cX_NoCut (.type "BaseException") = some true) (xh_NoCut : (PySem.W.clsIn K cX_NoCut).isSome = true)
    (n_NoPond : PySem.W.nsIn K mainGlobals "NoPond" = some (some (.ref cX_NoPond))) (q_NoPond : PySem.W.excIn K cX_NoPond bmVE "ValueError.__new__" = true)
    (xa_NoPond : PySem.W.findIn K (.ref cX_NoPond) "__getattribute__" = some (some (.builtin "BaseException.__getattribute__"))) (xb_NoPond : PySem.W.findIn K (.ref cX_NoPond) "__getattr__" = some none) (xc_NoPond : PySem.W.findIn K (.ref cX_NoPond) "__class__" = some (some (.builtin "object.__class__")))
    (xd_NoPond : PySem.W.specialIn K (.builtin "object.__class__") "__get__" = some (some (.builtin "getset_descriptor.__get__"))) (xe_NoPond : PySem.W.takesIn K (.builtin "object.__class__") = some true) (xf_NoPond : PySem.W.mroIn K cX_NoPond (.type "object") = some true) (xg_NoPond : PySem.W.mroIn K cX_NoPond (.type "BaseException") = some true) (xh_NoPond : (PySem.W.clsIn K cX_NoPond).isSome = true)
    (n_NoDay : PySem.W.nsIn K mainGlobals "NoDay" = some (some (.ref cX_NoDay))) (q_NoDay : PySem.W.excIn K cX_NoDay bmVE "ValueError.__new__" = true)
    (xa_NoDay : PySem.W.findIn K (.ref cX_NoDay) "__getattribute__" = some (some (.builtin "BaseException.__getattribute__"))) (xb_NoDay : PySem.W.findIn K (.ref cX_NoDay) "__getattr__" = some none) (xc_NoDay : PySem.W.findIn K (.ref cX_NoDay) "__class__" = some (some (.builtin "object.__class__")))
    (xd_NoDay : PySem.W.specialIn K (.builtin "object.__class__") "__get__" = some (some (.builtin "getset_descriptor.__get__"))) (xe_NoDay : PySem.W.takesIn K (.builtin "object.__class__") = some true) (xf_NoDay : PySem.W.mroIn K cX_NoDay (.type "object") = some true) (xg_NoDay : PySem.W.mroIn K cX_NoDay (.type "BaseException") = some true) (xh_NoDay : (PySem.W.clsIn K cX_NoDay).isSome = true)
    (n_Fixed : PySem.W.nsIn K mainGlobals "Fixed" = some (some (.ref cX_Fixed))) (q_Fixed : PySem.W.excIn K cX_Fixed bmVE "ValueError.__new__" = true)
    (xa_Fixed : PySem.W.findIn K (.ref cX_Fixed) "__getattribute__" = some (some (.builtin "BaseException.__getattribute__"))) (xb_Fixed : PySem.W.findIn K (.ref cX_Fixed) "__getattr__" = some none) (xc_Fixed : PySem.W.findIn K (.ref cX_Fixed) "__class__" = some (some (.builtin "object.__class__")))
    (xd_Fixed : PySem.W.specialIn K (.builtin "object.__class__") "__get__" = some (some (.builtin "getset_descriptor.__get__"))) (xe_Fixed : PySem.W.takesIn K (.builtin "object.__class__") = some true) (xf_Fixed : PySem.W.mroIn K cX_Fixed (.type "object") = some true) (xg_Fixed : PySem.W.mroIn K cX_Fixed (.type "BaseException") = some true) (xh_Fixed : (PySem.W.clsIn K cX_Fixed).isSome = true)
    (n_Harms : PySem.W.nsIn K mainGlobals "Harms" = some (some (.ref cX_Harms))) (q_Harms : PySem.W.excIn K cX_Harms bmVE "ValueError.__new__" = true)
    (xa_Harms : PySem.W.findIn K (.ref cX_Harms) "__getattribute__" = some (some (.builtin "BaseException.__getattribute__"))) (xb_Harms : PySem.W.findIn K (.ref cX_Harms) "__getattr__" = some none) (xc_Harms : PySem.W.findIn K (.ref cX_Harms) "__class__" = some (some (.builtin "object.__class__")))
    (xd_Harms : PySem.W.specialIn K (.builtin "object.__class__") "__get__" = some (some (.builtin "getset_descriptor.__get__"))) (xe_Harms : PySem.W.takesIn K (.builtin "object.__class__") = some true) (xf_Harms : PySem.W.mroIn K cX_Harms (.type "object") = some true) (xg_Harms : PySem.W.mroIn K cX_Harms (.type "BaseException") = some true) (xh_Harms : (PySem.W.clsIn K cX_Harms).isSome = true)
    (n_NoRow : PySem.W.nsIn K mainGlobals "NoRow" = some (some (.ref cX_NoRow))) (q_NoRow : PySem.W.excIn K cX_NoRow bmVE "ValueError.__new__" = true)
    (xa_NoRow : PySem.W.findIn K (.ref cX_NoRow) "__getattribute__" = some (some (.builtin "BaseException.__getattribute__"))) (xb_NoRow : PySem.W.findIn K (.ref cX_NoRow) "__getattr__" = some none) (xc_NoRow : PySem.W.findIn K (.ref cX_NoRow) "__class__" = some (some (.builtin "object.__class__")))
    (xd_NoRow : PySem.W.specialIn K (.builtin "object.__class__") "__get__" = some (some (.builtin "getset_descriptor.__get__"))) (xe_NoRow : PySem.W.takesIn K (.builtin "object.__class__") = some true) (xf_NoRow : PySem.W.mroIn K cX_NoRow (.type "object") = some true) (xg_NoRow : PySem.W.mroIn K cX_NoRow (.type "BaseException") = some true) (xh_NoRow : (PySem.W.clsIn K cX_NoRow).isSome = true)
    (m_NoPaper_SluiceError : PySem.W.exmOne K (.ref cX_NoPaper) (.ref cX_SluiceError) = some true)
    (i_NoPaper_NoRiver : PySem.W.kitOne K (.ref cX_NoPaper) (.ref cX_NoRiver) = some false)
    (i_NoPaper_NoReach : PySem.W.kitOne K (.ref cX_NoPaper) (.ref cX_NoReach) = some false)
    (i_NoPaper_NoLicence : PySem.W.kitOne K (.ref cX_NoPaper) (.ref cX_NoLicence) = some false)
    (i_NoPaper_NoNumber : PySem.W.kitOne K (.ref cX_NoPaper) (.ref cX_NoNumber) = some false)
    (i_NoPaper_NoHolder : PySem.W.kitOne K (.ref cX_NoPaper) (.ref cX_NoHolder) = some false)
    (i_NoPaper_NotYours : PySem.W.kitOne K (.ref cX_NoPaper) (.ref cX_NotYours) = some false)
    (i_NoPaper_NotAlone : PySem.W.kitOne K (.ref cX_NoPaper) (.ref cX_NotAlone) = some false)
    (i_NoPaper_TooMuch : PySem.W.kitOne K (.ref cX_NoPaper) (.ref cX_TooMuch) = some false)
    (i_NoPaper_Full : PySem.W.kitOne K (.ref cX_NoPaper) (.ref cX_Full) = some false)
    (i_NoPaper_NoCut : PySem.W.kitOne K (.ref cX_NoPaper) (.ref cX_NoCut) = some false)
    (i_NoPaper_NoPond : PySem.W.kitOne K (.ref cX_NoPaper) (.ref cX_NoPond) = some false)
    (i_NoPaper_NoDay : PySem.W.kitOne K (.ref cX_NoPaper) (.ref cX_NoDay) = some false)
    (i_NoPaper_Fixed : PySem.W.kitOne K (.ref cX_NoPaper) (.ref cX_Fixed) = some false)
    (i_NoPaper_Harms : PySem.W.kitOne K (.ref cX_NoPaper) (.ref cX_Harms) = some false)
    (i_NoPaper_NoRow : PySem.W.kitOne K (.ref cX_NoPaper) (.ref cX_NoRow) = some false)
    (i_NoPaper_NoPaper : PySem.W.kitOne K (.ref cX_NoPaper) (.ref cX_NoPaper) = some true)
    (i_NoPaper_ValueError : PySem.W.kitOne K (.ref cX_NoPaper) (.type "ValueError") = some true)
    (y0 : PySem.W.codeHdIn K cT0 pT0 = true)
    : ∃ fd : FuncData, (∀ (s : Shared) (v : Value), BindsTo s fd ⟨[v], []⟩ [("script", v)]) ∧ ∀ base : Heap, K.In base → base.Ns mainGlobals mg → BM mg base → FnOk l.prog w K mg base CX0 11 fa fd ["script"] (sp_law K [(pT0, lam_tops.1, lam_tops.2)]) := by
  have e := hfa.symm.trans (PySem.W.mg_of X G a29)
  cases e
  have B : Blt mg := ⟨PySem.W.mg_none_of X G z_len, PySem.W.mg_none_of X G z_range, PySem.W.mg_none_of X G z_list, PySem.W.mg_none_of X G z_isinstance, PySem.W.mg_none_of X G z_bool, PySem.W.mg_none_of X G z_int, PySem.W.mg_none_of X G z_all, PySem.W.mg_none_of X G z_min, PySem.W.mg_none_of X G z_max, PySem.W.mg_none_of X G z_sum, PySem.W.mg_none_of X G z_sorted, PySem.W.mg_none_of X G z_zip, PySem.W.mg_none_of X G z_tuple, PySem.W.mg_none_of X G z_str, PySem.W.mg_none_of X G z_any, PySem.W.mg_none_of X G z_enumerate, PySem.W.mg_none_of X G z_reversed, PySem.W.mg_none_of X G z_abs, PySem.W.mg_none_of X G z_ValueError⟩
  have h_MOUTH : ∃ t, mg "MOUTH" = some (.int (-1) t) := ⟨_, PySem.W.mg_of X G e0⟩
  have X_SluiceError : ErrC K mg "SluiceError" cX_SluiceError := ⟨PySem.W.mg_of X G n_SluiceError, q_SluiceError, ⟨xa_SluiceError, xb_SluiceError, xc_SluiceError, xd_SluiceError, xe_SluiceError, xf_SluiceError, xg_SluiceError, xh_SluiceError⟩⟩
  have X_NoRiver : ErrC K mg "NoRiver" cX_NoRiver := ⟨PySem.W.mg_of X G n_NoRiver, q_NoRiver, ⟨xa_NoRiver, xb_NoRiver, xc_NoRiver, xd_NoRiver, xe_NoRiver, xf_NoRiver, xg_NoRiver, xh_NoRiver⟩⟩
  have X_NoReach : ErrC K mg "NoReach" cX_NoReach := ⟨PySem.W.mg_of X G n_NoReach, q_NoReach, ⟨xa_NoReach, xb_NoReach, xc_NoReach, xd_NoReach, xe_NoReach, xf_NoReach, xg_NoReach, xh_NoReach⟩⟩
  have X_NoLicence : ErrC K mg "NoLicence" cX_NoLicence := ⟨PySem.W.mg_of X G n_NoLicence, q_NoLicence, ⟨xa_NoLicence, xb_NoLicence, xc_NoLicence, xd_NoLicence, xe_NoLicence, xf_NoLicence, xg_NoLicence, xh_NoLicence⟩⟩
  have X_NoNumber : ErrC K mg "NoNumber" cX_NoNumber := ⟨PySem.W.mg_of X G n_NoNumber, q_NoNumber, ⟨xa_NoNumber, xb_NoNumber, xc_NoNumber, xd_NoNumber, xe_NoNumber, xf_NoNumber, xg_NoNumber, xh_NoNumber⟩⟩
  have X_NoHolder : ErrC K mg "NoHolder" cX_NoHolder := ⟨PySem.W.mg_of X G n_NoHolder, q_NoHolder, ⟨xa_NoHolder, xb_NoHolder, xc_NoHolder, xd_NoHolder, xe_NoHolder, xf_NoHolder, xg_NoHolder, xh_NoHolder⟩⟩
  have X_NotYours : ErrC K mg "NotYours" cX_NotYours := ⟨PySem.W.mg_of X G n_NotYours, q_NotYours, ⟨xa_NotYours, xb_NotYours, xc_NotYours, xd_NotYours, xe_NotYours, xf_NotYours, xg_NotYours, xh_NotYours⟩⟩
  have X_NotAlone : ErrC K mg "NotAlone" cX_NotAlone := ⟨PySem.W.mg_of X G n_NotAlone, q_NotAlone, ⟨xa_NotAlone, xb_NotAlone, xc_NotAlone, xd_NotAlone, xe_NotAlone, xf_NotAlone, xg_NotAlone, xh_NotAlone⟩⟩
  have X_TooMuch : ErrC K mg "TooMuch" cX_TooMuch := ⟨PySem.W.mg_of X G n_TooMuch, q_TooMuch, ⟨xa_TooMuch, xb_TooMuch, xc_TooMuch, xd_TooMuch, xe_TooMuch, xf_TooMuch, xg_TooMuch, xh_TooMuch⟩⟩
  have X_Full : ErrC K mg "Full" cX_Full := ⟨PySem.W.mg_of X G n_Full, q_Full, ⟨xa_Full, xb_Full, xc_Full, xd_Full, xe_Full, xf_Full, xg_Full, xh_Full⟩⟩
  have X_NoPaper : ErrC K mg "NoPaper" cX_NoPaper := ⟨PySem.W.mg_of X G n_NoPaper, q_NoPaper, ⟨xa_NoPaper, xb_NoPaper, xc_NoPaper, xd_NoPaper, xe_NoPaper, xf_NoPaper, xg_NoPaper, xh_NoPaper⟩⟩
  have X_NoCut : ErrC K mg "NoCut" cX_NoCut := ⟨PySem.W.mg_of X G n_NoCut, q_NoCut, ⟨xa_NoCut, xb_NoCut, xc_NoCut, xd_NoCut, xe_NoCut, xf_NoCut, xg_NoCut, xh_NoCut⟩⟩
  have X_NoPond : ErrC K mg "NoPond" cX_NoPond := ⟨PySem.W.mg_of X G n_NoPond, q_NoPond, ⟨xa_NoPond, xb_NoPond, xc_NoPond, xd_NoPond, xe_NoPond, xf_NoPond, xg_NoPond, xh_NoPond⟩⟩
  have X_NoDay : ErrC K mg "NoDay" cX_NoDay := ⟨PySem.W.mg_of X G n_NoDay, q_NoDay, ⟨xa_NoDay, xb_NoDay, xc_NoDay, xd_NoDay, xe_NoDay, xf_NoDay, xg_NoDay, xh_NoDay⟩⟩
  have X_Fixed : ErrC K mg "Fixed" cX_Fixed := ⟨PySem.W.mg_of X G n_Fixed, q_Fixed, ⟨xa_Fixed, xb_Fixed, xc_Fixed, xd_Fixed, xe_Fixed, xf_Fixed, xg_Fixed, xh_Fixed⟩⟩
  have X_Harms : ErrC K mg "Harms" cX_Harms := ⟨PySem.W.mg_of X G n_Harms, q_Harms, ⟨xa_Harms, xb_Harms, xc_Harms, xd_Harms, xe_Harms, xf_Harms, xg_Harms, xh_Harms⟩⟩
  have X_NoRow : ErrC K mg "NoRow" cX_NoRow := ⟨PySem.W.mg_of X G n_NoRow, q_NoRow, ⟨xa_NoRow, xb_NoRow, xc_NoRow, xd_NoRow, xe_NoRow, xf_NoRow, xg_NoRow, xh_NoRow⟩⟩
  have F0 := fun_mk (st := s_way_of) l0 c0 k0
  have D_way_of : Df K mg "way_of" s_way_of ["below", "reach"] _ _ := ⟨F0, bindK2 F0 (fun _ _ _ _ _ _ _ _ => rfl), PySem.W.mg_of X G a0⟩
  have F1 := fun_mk (st := s_tops_first) l1 c1 k1
  have D_tops_first : Df K mg "tops_first" s_tops_first ["below"] _ _ := ⟨F1, bindK1 F1 (fun _ _ _ _ _ _ _ => rfl), PySem.W.mg_of X G a1⟩
  have F2 := fun_mk (st := s_stretch_of) l2 c2 k2
  have D_stretch_of : Df K mg "stretch_of" s_stretch_of ["below", "start", "stop"] _ _ := ⟨F2, bindK3 F2 (fun _ _ _ _ _ _ _ _ _ => rfl), PySem.W.mg_of X G a2⟩
  have F3 := fun_mk (st := s_natural_of) l3 c3 k3
  have D_natural_of : Df K mg "natural_of" s_natural_of ["below", "springs"] _ _ := ⟨F3, bindK2 F3 (fun _ _ _ _ _ _ _ _ => rfl), PySem.W.mg_of X G a3⟩
  have F4 := fun_mk (st := s_reaches_of) l4 c4 k4
  have D_reaches_of : Df K mg "reaches_of" s_reaches_of ["below", "one"] _ _ := ⟨F4, bindK2 F4 (fun _ _ _ _ _ _ _ _ => rfl), PySem.W.mg_of X G a4⟩
  have F5 := fun_mk (st := s_day_filed) l5 c5 k5
  have D_day_filed : Df K mg "day_filed" s_day_filed ["one"] _ _ := ⟨F5, bindK1 F5 (fun _ _ _ _ _ _ _ => rfl), PySem.W.mg_of X G a5⟩
  have F6 := fun_mk (st := s_most_of) l6 c6 k6
  have D_most_of : Df K mg "most_of" s_most_of ["one"] _ _ := ⟨F6, bindK1 F6 (fun _ _ _ _ _ _ _ => rfl), PySem.W.mg_of X G a6⟩
  have F7 := fun_mk (st := s_wants_of) l7 c7 k7
  have D_wants_of : Df K mg "wants_of" s_wants_of ["roll", "calls"] _ _ := ⟨F7, bindK2 F7 (fun _ _ _ _ _ _ _ _ => rfl), PySem.W.mg_of X G a7⟩
  have F8 := fun_mk (st := s_holds_of) l8 c8 k8
  have D_holds_of : Df K mg "holds_of" s_holds_of ["below", "roll", "takes"] _ _ := ⟨F8, bindK3 F8 (fun _ _ _ _ _ _ _ _ _ => rfl), PySem.W.mg_of X G a8⟩
  have F9 := fun_mk (st := s_free_of) l9 c9 k9
  have D_free_of : Df K mg "free_of" s_free_of ["below", "springs", "roll", "takes"] _ _ := ⟨F9, bindK4 F9 (fun _ _ _ _ _ _ _ _ _ _ => rfl), PySem.W.mg_of X G a9⟩
  have F10 := fun_mk (st := s_dry_of) l10 c10 k10
  have D_dry_of : Df K mg "dry_of" s_dry_of ["below", "springs", "roll", "takes"] _ _ := ⟨F10, bindK4 F10 (fun _ _ _ _ _ _ _ _ _ _ => rfl), PySem.W.mg_of X G a10⟩
  have F11 := fun_mk (st := s_comes_ahead) l11 c11 k11
  have D_comes_ahead : Df K mg "comes_ahead" s_comes_ahead ["roll", "number", "nth", "other", "mth"] _ _ := ⟨F11, bindK5 F11 (fun _ _ _ _ _ _ _ _ _ _ _ => rfl), PySem.W.mg_of X G a11⟩
  have F12 := fun_mk (st := s_stretches_of) l12 c12 k12
  have D_stretches_of : Df K mg "stretches_of" s_stretches_of ["below", "roll"] _ _ := ⟨F12, bindK2 F12 (fun _ _ _ _ _ _ _ _ => rfl), PySem.W.mg_of X G a12⟩
  have F13 := fun_mk (st := s_who_holds) l13 c13 k13
  have D_who_holds : Df K mg "who_holds" s_who_holds ["stretches", "takes", "reach"] _ _ := ⟨F13, bindK3 F13 (fun _ _ _ _ _ _ _ _ _ => rfl), PySem.W.mg_of X G a13⟩
  have F14 := fun_mk (st := s_all_ahead) l14 c14 k14
  have D_all_ahead : Df K mg "all_ahead" s_all_ahead ["roll", "stretches", "takes", "number", "reach"] _ _ := ⟨F14, bindK5 F14 (fun _ _ _ _ _ _ _ _ _ _ _ => rfl), PySem.W.mg_of X G a14⟩
  have F15 := fun_mk (st := s_first_showing) l15 c15 k15
  have D_first_showing : Df K mg "first_showing" s_first_showing ["roll", "stretches", "dry", "takes", "number"] _ _ := ⟨F15, bindK5 F15 (fun _ _ _ _ _ _ _ _ _ _ _ => rfl), PySem.W.mg_of X G a15⟩
  have F16 := fun_mk (st := s_paper_of) l16 c16 k16
  have D_paper_of : Df K mg "paper_of" s_paper_of ["below", "springs", "roll", "calls", "takes", "number"] _ _ := ⟨F16, bindK6 F16 (fun _ _ _ _ _ _ _ _ _ _ _ _ => rfl), PySem.W.mg_of X G a16⟩
  have F17 := fun_mk (st := s__law_cell_at) l17 c17 k17
  have D__law_cell_at : Df K mg "_law_cell_at" s__law_cell_at ["script", "k"] _ _ := ⟨F17, bindK2 F17 (fun _ _ _ _ _ _ _ _ => rfl), PySem.W.mg_of X G a17⟩
  have F18 := fun_mk (st := s__law_draw) l18 c18 k18
  have D__law_draw : Df K mg "_law_draw" s__law_draw ["cell", "k"] _ _ := ⟨F18, bindK2 F18 (fun _ _ _ _ _ _ _ _ => rfl), PySem.W.mg_of X G a18⟩
  have F19 := fun_mk (st := s__law_mixed) l19 c19 k19
  have D__law_mixed : Df K mg "_law_mixed" s__law_mixed ["cell", "many"] _ _ := ⟨F19, bindK2 F19 (fun _ _ _ _ _ _ _ _ => rfl), PySem.W.mg_of X G a19⟩
  have F20 := fun_mk (st := s__law_river) l20 c20 k20
  have D__law_river : Df K mg "_law_river" s__law_river ["cell"] _ _ := ⟨F20, bindK1 F20 (fun _ _ _ _ _ _ _ => rfl), PySem.W.mg_of X G a20⟩
  have F21 := fun_mk (st := s__law_way) l21 c21 k21
  have D__law_way : Df K mg "_law_way" s__law_way ["below", "reach"] _ _ := ⟨F21, bindK2 F21 (fun _ _ _ _ _ _ _ _ => rfl), PySem.W.mg_of X G a21⟩
  have F22 := fun_mk (st := s__law_stretch) l22 c22 k22
  have D__law_stretch : Df K mg "_law_stretch" s__law_stretch ["below", "one"] _ _ := ⟨F22, bindK2 F22 (fun _ _ _ _ _ _ _ _ => rfl), PySem.W.mg_of X G a22⟩
  have F23 := fun_mk (st := s__law_free) l23 c23 k23
  have D__law_free : Df K mg "_law_free" s__law_free ["below", "springs", "roll", "takes"] _ _ := ⟨F23, bindK4 F23 (fun _ _ _ _ _ _ _ _ _ _ => rfl), PySem.W.mg_of X G a23⟩
  have F24 := fun_mk (st := s__law_drawn) l24 c24 k24
  have D__law_drawn : Df K mg "_law_drawn" s__law_drawn ["cell", "below", "far", "base"] _ _ := ⟨F24, bindK4 F24 (fun _ _ _ _ _ _ _ _ _ _ => rfl), PySem.W.mg_of X G a24⟩
  have F25 := fun_mk (st := s__law_springs) l25 c25 k25
  have D__law_springs : Df K mg "_law_springs" s__law_springs ["cell", "below", "roll", "takes"] _ _ := ⟨F25, bindK4 F25 (fun _ _ _ _ _ _ _ _ _ _ => rfl), PySem.W.mg_of X G a25⟩
  have F26 := fun_mk (st := s__law_no_reach) l26 c26 k26
  have D__law_no_reach : Df K mg "_law_no_reach" s__law_no_reach ["stretches", "roll", "takes", "free", "number"] _ _ := ⟨F26, bindK5 F26 (fun _ _ _ _ _ _ _ _ _ _ _ => rfl), PySem.W.mg_of X G a26⟩
  have F27 := fun_mk (st := s__law_other_name) l27 c27 k27
  have D__law_other_name : Df K mg "_law_other_name" s__law_other_name ["e"] _ _ := ⟨F27, bindK1 F27 (fun _ _ _ _ _ _ _ => rfl), PySem.W.mg_of X G a27⟩
  have F28 := fun_mk (st := s__law_refused) l28 c28 k28
  have D__law_refused : Df K mg "_law_refused" s__law_refused ["below", "springs", "roll", "calls", "takes", "number"] _ _ := ⟨F28, bindK6 F28 (fun _ _ _ _ _ _ _ _ _ _ _ _ => rfl), PySem.W.mg_of X G a28⟩
  have F29 := fun_mk (st := s_law) l29 c29 k29
  have D_law : Df K mg "law" s_law ["script"] _ _ := ⟨F29, bindK1 F29 (fun _ _ _ _ _ _ _ => rfl), PySem.W.mg_of X G a29⟩
  refine ⟨PySem.W.fnOf "law" "law" (defArgs s_law) (defBody s_law) (defScope s_law) .none kV29 dc29 pm29 an29 cd29 ct29, fun s v => .of_eq rfl, fun base _ _ hbm => ?_⟩
  have C : Mth mg := ⟨h_MOUTH⟩
  have hT : TT1 pT0 [(pT0, lam_tops.1, lam_tops.2)] := ⟨List.mem_cons_self, by simp⟩
  generalize ([(pT0, lam_tops.1, lam_tops.2)] : Tabs) = T at hT ⊢
  have T8 : Told28 K cX_NoPaper cX_SluiceError [cX_NoCut, cX_NoDay, cX_NoHolder, cX_NoLicence, cX_NoNumber, cX_NoPond, cX_NoReach, cX_NoRiver, cX_NoRow, cX_NotAlone, cX_NotYours, cX_TooMuch, cX_Full, cX_Fixed, cX_Harms] := ⟨m_NoPaper_SluiceError, by
    simp only [List.mem_cons, List.not_mem_nil, or_false, forall_eq_or_imp, forall_eq]
    exact ⟨i_NoPaper_NoCut, i_NoPaper_NoDay, i_NoPaper_NoHolder, i_NoPaper_NoLicence, i_NoPaper_NoNumber, i_NoPaper_NoPond, i_NoPaper_NoReach, i_NoPaper_NoRiver, i_NoPaper_NoRow, i_NoPaper_NotAlone, i_NoPaper_NotYours, i_NoPaper_TooMuch, i_NoPaper_Full, i_NoPaper_Fixed, i_NoPaper_Harms⟩, i_NoPaper_NoPaper, i_NoPaper_ValueError⟩
  have g1 := ok_cell (P := l.prog) (w := w) (base := base) D__law_cell_at B
  have g2 := ok_drw (P := l.prog) (w := w) (K := K) (base := base) D__law_draw
  have g3 := ok_drws D__law_mixed B D__law_draw g2
  have g5 := ok_way (P := l.prog) (w := w) (base := base) D_way_of C
  have g6 := ok_strch D_stretch_of C D_way_of g5
  have g7 := ok_reaches D_reaches_of D_stretch_of g6
  have g8 := ok_tops (T := T) D_tops_first rfl y0 hT hbm B D_way_of g5
  have g9 := ok_nat D_natural_of B C D_tops_first g8
  have g10 := ok_most (P := l.prog) (w := w) (base := base) D_most_of
  have g11 := ok_wants (T := T) D_wants_of B D_most_of g10
  have g18 := ok_day (P := l.prog) (w := w) (base := base) D_day_filed
  have g22 := ok_river (T := T) D__law_river B D__law_mixed g3
  have g24 := ok_lway (P := l.prog) (w := w) (base := base) (T := T) D__law_way
  have g23 := ok_s26 (T := T) D__law_springs B D__law_mixed g3
  have g25 := ok_dr7 (T := T) D__law_drawn B D__law_mixed g3 D__law_way g24
  have g26 := ok_lst D__law_stretch D__law_way g24
  have g28 := ok_fr2 D__law_free B D__law_stretch g26 D__law_way g24
  have g31 := ok_holds (T := T) D_holds_of B D_reaches_of g7
  have g32 := ok_free D_free_of B D_natural_of g9 D_holds_of g31
  have g33 := ok_dry D_dry_of B D_free_of g32
  have g34 := ok_ca D_comes_ahead D_day_filed g18
  have g35 := ok_sts (T := T) D_stretches_of B D_reaches_of g7
  have g36 := ok_who (P := l.prog) (w := w) (base := base) (T := T) D_who_holds B
  have g37 := ok_ala D_all_ahead B D_who_holds g36 D_comes_ahead g34
  have g38 := ok_fsh D_first_showing D_all_ahead g37
  have g40 := ok_pax D_paper_of X_NoPaper D_wants_of g11 D_stretches_of g35 D_dry_of g33 D_first_showing g38 D_who_holds g36
  have g41 := ok_nr (P := l.prog) (w := w) (base := base) (T := T) D__law_no_reach B
  have g42 := ok_oname (P := l.prog) (w := w) (base := base) D__law_other_name B X_NoPaper X_NoCut X_NoDay X_NoHolder X_NoLicence X_NoNumber X_NoPond X_NoReach X_NoRiver X_NoRow X_NotAlone X_NotYours X_TooMuch X_Full X_Fixed X_Harms T8
  have g43 := ok_ref8 D__law_refused B X_NoPaper X_SluiceError T8 D_paper_of g40 D__law_other_name g42
  exact ok_law D_law B D__law_cell_at g1 D__law_river g22 D__law_springs g23 D__law_drawn g25 D__law_free g28 D__law_stretch g26 D_paper_of g40 D__law_no_reach g41 D__law_refused g43
def codeOf (K : PySem.W.Frag) (x : Str) : Addr := match PySem.W.nsIn K mainGlobals x with
  | some (some (.ref f)) => match K.lookup f with
    | some ⟨_, _, .func fd, _⟩ => match fd.code with
      | .ref c => c
      | _ => 0
    | _ => 0
  | _ => 0
theorem code_ex {K : PySem.W.Frag} {P : Addr} (x : Str) (h : PySem.W.codeHdIn K (codeOf K x) P = true) : ∃ c, PySem.W.codeHdIn K c P = true := ⟨_, h⟩
theorem walk {l : PySem.W.OpenLaw} {q : Program} {loose : List Str} {XP : (Str → Option Value) → Heap → Prop} {YP : World → Heap → Prop} {d : DefRec} {K : Params → PySem.W.Frag} {P0 : Addr} (hn : l.most = some 63) (hdf : d.params.defaults = [])
    (hY : ∀ (w : World) (h : Heap), YP w h → (K w.params).In h) (hYt : ∀ (w : World) (h : Heap), YP w h → ∀ P ∈ ([P0] : List Addr), h.get? P = some (PySem.W.tabObj #[])) (hts : ∀ (w : World), ∀ P ∈ ([P0] : List Addr), (K w.params).lookup P = none ∧ ∃ c, PySem.W.codeHdIn (K w.params) c P = true)
    (F : ∀ (w : World) (mg : Str → Option Value) (fa : Addr) (h : Heap), (K w.params).In h → h.Ns mainGlobals mg → mg d.name = some (.ref fa) →
      ∃ fd : FuncData, (∀ (s : Shared) (u : Value), BindsTo s fd ⟨[u], []⟩ [("script", u)]) ∧ ∀ base : Heap, (K w.params).In base → base.Ns mainGlobals mg → BM mg base → FnOk l.prog w (K w.params) mg base CX0 11 fa fd ["script"] (sp_law (K w.params) [(P0, lam_tops.1, lam_tops.2)])) :
    PySem.W.WalkO q loose XP YP l.row.toRowW d [] (fun f vs => PySem.call f vs) :=
  L2.walk_ofT (n := 63) (k := 11) (x := "script") (CX := fun _ => CX0) (sp := fun w => sp_law (K w.params) [(P0, lam_tops.1, lam_tops.2)]) (ts := ([P0] : List Addr)) hn (by decide) hdf ⟨rfl, by decide, by decide⟩ hY hYt hts F (fun _ H a ns hl _ hT hS => ⟨a, ns, rfl, hS, hl, fun t ht => .inl (hT t.1 (by simp only [List.mem_cons, List.not_mem_nil, or_false] at ht ⊢; (try rcases ht with rfl | ht) <;> (try subst ht) <;> simp)), fun _ => rfl⟩) fun _ _ _ _ _ z => z
end My
open PySem PySem.W PyProof.Rows
set_option maxRecDepth 100000 in
set_option maxHeartbeats 0 in
theorem PySem.Challenge.cw_sluice_k28_no_paper_holds : PySem.Challenge.rw_sluice_k28_no_paper.Holds := by
  w_on; o_law
  refine PySem.W.holds_open (q := My.qv) (loose := My.looseK) (Xt := (fun s => PySem.W.xlAt My.qv [] s && PySem.W.recOk (PySem.W.RowW.records PySem.Challenge.rw_sluice_k28_no_paper.row.toRowW) s)) (XP := PySem.W.XL My.qv []) (Yf := PySem.W.Hook.obs (PySem.W.kmHook My.Kf My.asK My.hkE My.tsK)) (Ya := PySem.W.Hook.val (PySem.W.kmHook My.Kf My.asK My.hkE My.tsK)) (YP := PySem.W.Hook.says (PySem.W.kmHook My.Kf My.asK My.hkE My.tsK)) (N := 9320) My.hlE (PySem.W.Hook.of (PySem.W.kmHook My.Kf My.asK My.hkE My.tsK)) (PySem.W.Hook.keeps (PySem.W.kmHook My.Kf My.asK My.hkE My.tsK)) (fun s e => PySem.W.xl_of s (Bool.and_eq_true_iff.mp e).1) PySem.W.XL.keeps (by rfl) (by rfl) (by rfl) (fun s e => PySem.W.recFacts_of (Bool.and_eq_true_iff.mp e).2) (by rfl) (by first | assumption | decide +kernel) (by decide +kernel) ⟨rfl, rfl, rfl, rfl, rfl, by decide +kernel⟩ ?hw ?hc
  case hw => w_witness2
  k_fill
  refine' My.walk (l := PySem.Challenge.rw_sluice_k28_no_paper) rfl rfl (fun w h Y => PySem.W.km_in_of Y) (fun w h Y => PySem.W.km_tabs_of Y) ?hts ?F
  case F =>
    intro w mg fa h KX G hmg
    refine' My.all_mk KX G hmg ?a0 ?l0 ?c0 ?k0 ?a1 ?l1 ?c1 ?k1 ?a2 ?l2 ?c2 ?k2 ?a3 ?l3 ?c3 ?k3 ?a4 ?l4 ?c4 ?k4 ?a5 ?l5 ?c5 ?k5 ?a6 ?l6 ?c6 ?k6 ?a7 ?l7 ?c7 ?k7 ?a8 ?l8 ?c8 ?k8 ?a9 ?l9 ?c9 ?k9 ?a10 ?l10 ?c10 ?k10 ?a11 ?l11 ?c11 ?k11 ?a12 ?l12 ?c12 ?k12 ?a13 ?l13 ?c13 ?k13 ?a14 ?l14 ?c14 ?k14 ?a15 ?l15 ?c15 ?k15 ?a16 ?l16 ?c16 ?k16 ?a17 ?l17 ?c17 ?k17 ?a18 ?l18 ?c18 ?k18 ?a19 ?l19 ?c19 ?k19 ?a20 ?l20 ?c20 ?k20 ?a21 ?l21 ?c21 ?k21 ?a22 ?l22 ?c22 ?k22 ?a23 ?l23 ?c23 ?k23 ?a24 ?l24 ?c24 ?k24 ?a25 ?l25 ?c25 ?k25 ?a26 ?l26 ?c26 ?k26 ?a27 ?l27 ?c27 ?k27 ?a28 ?l28 ?c28 ?k28 ?a29 ?l29 ?c29 ?k29 ?e0 ?z_len ?z_range ?z_list ?z_isinstance ?z_bool ?z_int ?z_all ?z_min ?z_max ?z_sum ?z_sorted ?z_zip ?z_tuple ?z_str ?z_any ?z_enumerate ?z_reversed ?z_abs ?z_ValueError ?n_SluiceError ?q_SluiceError ?xa_SluiceError ?xb_SluiceError ?xc_SluiceError ?xd_SluiceError ?xe_SluiceError ?xf_SluiceError ?xg_SluiceError ?xh_SluiceError ?n_NoRiver ?q_NoRiver ?xa_NoRiver ?xb_NoRiver ?xc_NoRiver ?xd_NoRiver ?xe_NoRiver ?xf_NoRiver ?xg_NoRiver ?xh_NoRiver ?n_NoReach ?q_NoReach ?xa_NoReach ?xb_NoReach ?xc_NoReach ?xd_NoReach ?xe_NoReach ?xf_NoReach ?xg_NoReach ?xh_NoReach ?n_NoLicence ?q_NoLicence ?xa_NoLicence ?xb_NoLicence ?xc_NoLicence ?xd_NoLicence ?xe_NoLicence ?xf_NoLicence ?xg_NoLicence ?xh_NoLicence ?n_NoNumber ?q_NoNumber ?xa_NoNumber ?xb_NoNumber ?xc_NoNumber ?xd_NoNumber ?xe_NoNumber ?xf_NoNumber ?xg_NoNumber ?xh_NoNumber ?n_NoHolder ?q_NoHolder ?xa_NoHolder ?xb_NoHolder ?xc_NoHolder ?xd_NoHolder ?xe_NoHolder ?xf_NoHolder ?xg_NoHolder ?xh_NoHolder ?n_NotYours ?q_NotYours ?xa_NotYours ?xb_NotYours ?xc_NotYours ?xd_NotYours ?xe_NotYours ?xf_NotYours ?xg_NotYours ?xh_NotYours ?n_NotAlone ?q_NotAlone ?xa_NotAlone ?xb_NotAlone ?xc_NotAlone ?xd_NotAlone ?xe_NotAlone ?xf_NotAlone ?xg_NotAlone ?xh_NotAlone ?n_TooMuch ?q_TooMuch ?xa_TooMuch ?xb_TooMuch ?xc_TooMuch ?xd_TooMuch ?xe_TooMuch ?xf_TooMuch ?xg_TooMuch ?xh_TooMuch ?n_Full ?q_Full ?xa_Full ?xb_Full ?xc_Full ?xd_Full ?xe_Full ?xf_Full ?xg_Full ?xh_Full ?n_NoPaper ?q_NoPaper ?xa_NoPaper ?xb_NoPaper ?xc_NoPaper ?xd_NoPaper ?xe_NoPaper ?xf_NoPaper ?xg_NoPaper ?xh_NoPaper ?n_NoCut ?q_NoCut ?xa_NoCut ?xb_NoCut ?xc_NoCut ?xd_NoCut ?xe_NoCut ?xf_NoCut ?xg_NoCut ?xh_NoCut ?n_NoPond ?q_NoPond ?xa_NoPond ?xb_NoPond ?xc_NoPond ?xd_NoPond ?xe_NoPond ?xf_NoPond ?xg_NoPond ?xh_NoPond ?n_NoDay ?q_NoDay ?xa_NoDay ?xb_NoDay ?xc_NoDay ?xd_NoDay ?xe_NoDay ?xf_NoDay ?xg_NoDay ?xh_NoDay ?n_Fixed ?q_Fixed ?xa_Fixed ?xb_Fixed ?xc_Fixed ?xd_Fixed ?xe_Fixed ?xf_Fixed ?xg_Fixed ?xh_Fixed ?n_Harms ?q_Harms ?xa_Harms ?xb_Harms ?xc_Harms ?xd_Harms ?xe_Harms ?xf_Harms ?xg_Harms ?xh_Harms ?n_NoRow ?q_NoRow ?xa_NoRow ?xb_NoRow ?xc_NoRow ?xd_NoRow ?xe_NoRow ?xf_NoRow ?xg_NoRow ?xh_NoRow ?m_NoPaper_SluiceError ?i_NoPaper_NoRiver ?i_NoPaper_NoReach ?i_NoPaper_NoLicence ?i_NoPaper_NoNumber ?i_NoPaper_NoHolder ?i_NoPaper_NotYours ?i_NoPaper_NotAlone ?i_NoPaper_TooMuch ?i_NoPaper_Full ?i_NoPaper_NoCut ?i_NoPaper_NoPond ?i_NoPaper_NoDay ?i_NoPaper_Fixed ?i_NoPaper_Harms ?i_NoPaper_NoRow ?i_NoPaper_NoPaper ?i_NoPaper_ValueError ?y0
    (case a0 => k_is)
    (case l0 => k_is)
    (case c0 => k_is)
    (case k0 => k_is)
    (case a1 => k_is)
    (case l1 => k_is)
    (case c1 => k_is)
    (case k1 => k_is)
    (case a2 => k_is)
    (case l2 => k_is)
    (case c2 => k_is)
    (case k2 => k_is)
    (case a3 => k_is)
    (case l3 => k_is)
    (case c3 => k_is)
    (case k3 => k_is)
    (case a4 => k_is)
    (case l4 => k_is)
    (case c4 => k_is)
    (case k4 => k_is)
    (case a5 => k_is)
    (case l5 => k_is)
    (case c5 => k_is)
    (case k5 => k_is)
    (case a6 => k_is)
    (case l6 => k_is)
    (case c6 => k_is)
    (case k6 => k_is)
    (case a7 => k_is)
    (case l7 => k_is)
    (case c7 => k_is)
    (case k7 => k_is)
    (case a8 => k_is)
    (case l8 => k_is)
    (case c8 => k_is)
    (case k8 => k_is)
    (case a9 => k_is)
    (case l9 => k_is)
    (case c9 => k_is)
    (case k9 => k_is)
    (case a10 => k_is)
    (case l10 => k_is)
    (case c10 => k_is)
    (case k10 => k_is)
    (case a11 => k_is)
    (case l11 => k_is)
    (case c11 => k_is)
    (case k11 => k_is)
    (case a12 => k_is)
    (case l12 => k_is)
    (case c12 => k_is)
    (case k12 => k_is)
    (case a13 => k_is)
    (case l13 => k_is)
    (case c13 => k_is)
    (case k13 => k_is)
    (case a14 => k_is)
    (case l14 => k_is)
    (case c14 => k_is)
    (case k14 => k_is)
    (case a15 => k_is)
    (case l15 => k_is)
    (case c15 => k_is)
    (case k15 => k_is)
    (case a16 => k_is)
    (case l16 => k_is)
    (case c16 => k_is)
    (case k16 => k_is)
    (case a17 => k_is)
    (case l17 => k_is)
    (case c17 => k_is)
    (case k17 => k_is)
    (case a18 => k_is)
    (case l18 => k_is)
    (case c18 => k_is)
    (case k18 => k_is)
    (case a19 => k_is)
    (case l19 => k_is)
    (case c19 => k_is)
    (case k19 => k_is)
    (case a20 => k_is)
    (case l20 => k_is)
    (case c20 => k_is)
    (case k20 => k_is)
    (case a21 => k_is)
    (case l21 => k_is)
    (case c21 => k_is)
    (case k21 => k_is)
    (case a22 => k_is)
    (case l22 => k_is)
    (case c22 => k_is)
    (case k22 => k_is)
    (case a23 => k_is)
    (case l23 => k_is)
    (case c23 => k_is)
    (case k23 => k_is)
    (case a24 => k_is)
    (case l24 => k_is)
    (case c24 => k_is)
    (case k24 => k_is)
    (case a25 => k_is)
    (case l25 => k_is)
    (case c25 => k_is)
    (case k25 => k_is)
    (case a26 => k_is)
    (case l26 => k_is)
    (case c26 => k_is)
    (case k26 => k_is)
    (case a27 => k_is)
    (case l27 => k_is)
    (case c27 => k_is)
    (case k27 => k_is)
    (case a28 => k_is)
    (case l28 => k_is)
    (case c28 => k_is)
    (case k28 => k_is)
    (case a29 => k_is)
    (case l29 => k_is)
    (case c29 => k_is)
    (case k29 => k_is)
    (case e0 => k_is)
    (case z_len => k_is)
    (case z_range => k_is)
    (case z_list => k_is)
    (case z_isinstance => k_is)
    (case z_bool => k_is)
    (case z_int => k_is)
    (case z_all => k_is)
    (case z_min => k_is)
    (case z_max => k_is)
    (case z_sum => k_is)
    (case z_sorted => k_is)
    (case z_zip => k_is)
    (case z_tuple => k_is)
    (case z_str => k_is)
    (case z_any => k_is)
    (case z_enumerate => k_is)
    (case z_reversed => k_is)
    (case z_abs => k_is)
    (case z_ValueError => k_is)
    (case n_SluiceError => k_is)
    (case q_SluiceError => (first | k_is | kernel_rfl))
    (case xa_SluiceError => (first | k_is | kernel_rfl))
    (case xb_SluiceError => (first | k_is | kernel_rfl))
    (case xc_SluiceError => (first | k_is | kernel_rfl))
    (case xd_SluiceError => (first | k_is | kernel_rfl))
    (case xe_SluiceError => (first | k_is | kernel_rfl))
    (case xf_SluiceError => (first | k_is | kernel_rfl))
    (case xg_SluiceError => (first | k_is | kernel_rfl))
    (case xh_SluiceError => (first | k_is | kernel_rfl))
    (case n_NoRiver => k_is)
    (case q_NoRiver => (first | k_is | kernel_rfl))
    (case xa_NoRiver => (first | k_is | kernel_rfl))
    (case xb_NoRiver => (first | k_is | kernel_rfl))
    (case xc_NoRiver => (first | k_is | kernel_rfl))
    (case xd_NoRiver => (first | k_is | kernel_rfl))
    (case xe_NoRiver => (first | k_is | kernel_rfl))
    (case xf_NoRiver => (first | k_is | kernel_rfl))
    (case xg_NoRiver => (first | k_is | kernel_rfl))
    (case xh_NoRiver => (first | k_is | kernel_rfl))
    (case n_NoReach => k_is)
    (case q_NoReach => (first | k_is | kernel_rfl))
    (case xa_NoReach => (first | k_is | kernel_rfl))
    (case xb_NoReach => (first | k_is | kernel_rfl))
    (case xc_NoReach => (first | k_is | kernel_rfl))
    (case xd_NoReach => (first | k_is | kernel_rfl))
    (case xe_NoReach => (first | k_is | kernel_rfl))
    (case xf_NoReach => (first | k_is | kernel_rfl))
    (case xg_NoReach => (first | k_is | kernel_rfl))
    (case xh_NoReach => (first | k_is | kernel_rfl))
    (case n_NoLicence => k_is)
    (case q_NoLicence => (first | k_is | kernel_rfl))
    (case xa_NoLicence => (first | k_is | kernel_rfl))
    (case xb_NoLicence => (first | k_is | kernel_rfl))
    (case xc_NoLicence => (first | k_is | kernel_rfl))
    (case xd_NoLicence => (first | k_is | kernel_rfl))
    (case xe_NoLicence => (first | k_is | kernel_rfl))
    (case xf_NoLicence => (first | k_is | kernel_rfl))
    (case xg_NoLicence => (first | k_is | kernel_rfl))
    (case xh_NoLicence => (first | k_is | kernel_rfl))
    (case n_NoNumber => k_is)
    (case q_NoNumber => (first | k_is | kernel_rfl))
    (case xa_NoNumber => (first | k_is | kernel_rfl))
    (case xb_NoNumber => (first | k_is | kernel_rfl))
    (case xc_NoNumber => (first | k_is | kernel_rfl))
    (case xd_NoNumber => (first | k_is | kernel_rfl))
    (case xe_NoNumber => (first | k_is | kernel_rfl))
    (case xf_NoNumber => (first | k_is | kernel_rfl))
    (case xg_NoNumber => (first | k_is | kernel_rfl))
    (case xh_NoNumber => (first | k_is | kernel_rfl))
    (case n_NoHolder => k_is)
    (case q_NoHolder => (first | k_is | kernel_rfl))
    (case xa_NoHolder => (first | k_is | kernel_rfl))
    (case xb_NoHolder => (first | k_is | kernel_rfl))
    (case xc_NoHolder => (first | k_is | kernel_rfl))
    (case xd_NoHolder => (first | k_is | kernel_rfl))
    (case xe_NoHolder => (first | k_is | kernel_rfl))
    (case xf_NoHolder => (first | k_is | kernel_rfl))
    (case xg_NoHolder => (first | k_is | kernel_rfl))
    (case xh_NoHolder => (first | k_is | kernel_rfl))
    (case n_NotYours => k_is)
    (case q_NotYours => (first | k_is | kernel_rfl))
    (case xa_NotYours => (first | k_is | kernel_rfl))
    (case xb_NotYours => (first | k_is | kernel_rfl))
    (case xc_NotYours => (first | k_is | kernel_rfl))
    (case xd_NotYours => (first | k_is | kernel_rfl))
    (case xe_NotYours => (first | k_is | kernel_rfl))
    (case xf_NotYours => (first | k_is | kernel_rfl))
    (case xg_NotYours => (first | k_is | kernel_rfl))
    (case xh_NotYours => (first | k_is | kernel_rfl))
    (case n_NotAlone => k_is)
    (case q_NotAlone => (first | k_is | kernel_rfl))
    (case xa_NotAlone => (first | k_is | kernel_rfl))
    (case xb_NotAlone => (first | k_is | kernel_rfl))
    (case xc_NotAlone => (first | k_is | kernel_rfl))
    (case xd_NotAlone => (first | k_is | kernel_rfl))
    (case xe_NotAlone => (first | k_is | kernel_rfl))
    (case xf_NotAlone => (first | k_is | kernel_rfl))
    (case xg_NotAlone => (first | k_is | kernel_rfl))
    (case xh_NotAlone => (first | k_is | kernel_rfl))
    (case n_TooMuch => k_is)
    (case q_TooMuch => (first | k_is | kernel_rfl))
    (case xa_TooMuch => (first | k_is | kernel_rfl))
    (case xb_TooMuch => (first | k_is | kernel_rfl))
    (case xc_TooMuch => (first | k_is | kernel_rfl))
    (case xd_TooMuch => (first | k_is | kernel_rfl))
    (case xe_TooMuch => (first | k_is | kernel_rfl))
    (case xf_TooMuch => (first | k_is | kernel_rfl))
    (case xg_TooMuch => (first | k_is | kernel_rfl))
    (case xh_TooMuch => (first | k_is | kernel_rfl))
    (case n_Full => k_is)
    (case q_Full => (first | k_is | kernel_rfl))
    (case xa_Full => (first | k_is | kernel_rfl))
    (case xb_Full => (first | k_is | kernel_rfl))
    (case xc_Full => (first | k_is | kernel_rfl))
    (case xd_Full => (first | k_is | kernel_rfl))
    (case xe_Full => (first | k_is | kernel_rfl))
    (case xf_Full => (first | k_is | kernel_rfl))
    (case xg_Full => (first | k_is | kernel_rfl))
    (case xh_Full => (first | k_is | kernel_rfl))
    (case n_NoPaper => k_is)
    (case q_NoPaper => (first | k_is | kernel_rfl))
    (case xa_NoPaper => (first | k_is | kernel_rfl))
    (case xb_NoPaper => (first | k_is | kernel_rfl))
    (case xc_NoPaper => (first | k_is | kernel_rfl))
    (case xd_NoPaper => (first | k_is | kernel_rfl))
    (case xe_NoPaper => (first | k_is | kernel_rfl))
    (case xf_NoPaper => (first | k_is | kernel_rfl))
    (case xg_NoPaper => (first | k_is | kernel_rfl))
    (case xh_NoPaper => (first | k_is | kernel_rfl))
    (case n_NoCut => k_is)
    (case q_NoCut => (first | k_is | kernel_rfl))
    (case xa_NoCut => (first | k_is | kernel_rfl))
    (case xb_NoCut => (first | k_is | kernel_rfl))
    (case xc_NoCut => (first | k_is | kernel_rfl))
    (case xd_NoCut => (first | k_is | kernel_rfl))
    (case xe_NoCut => (first | k_is | kernel_rfl))
    (case xf_NoCut => (first | k_is | kernel_rfl))
    (case xg_NoCut => (first | k_is | kernel_rfl))
    (case xh_NoCut => (first | k_is | kernel_rfl))
    (case n_NoPond => k_is)
    (case q_NoPond => (first | k_is | kernel_rfl))
    (case xa_NoPond => (first | k_is | kernel_rfl))
    (case xb_NoPond => (first | k_is | kernel_rfl))
    (case xc_NoPond => (first | k_is | kernel_rfl))
    (case xd_NoPond => (first | k_is | kernel_rfl))
    (case xe_NoPond => (first | k_is | kernel_rfl))
    (case xf_NoPond => (first | k_is | kernel_rfl))
    (case xg_NoPond => (first | k_is | kernel_rfl))
    (case xh_NoPond => (first | k_is | kernel_rfl))
    (case n_NoDay => k_is)
    (case q_NoDay => (first | k_is | kernel_rfl))
    (case xa_NoDay => (first | k_is | kernel_rfl))
    (case xb_NoDay => (first | k_is | kernel_rfl))
    (case xc_NoDay => (first | k_is | kernel_rfl))
    (case xd_NoDay => (first | k_is | kernel_rfl))
    (case xe_NoDay => (first | k_is | kernel_rfl))
    (case xf_NoDay => (first | k_is | kernel_rfl))
    (case xg_NoDay => (first | k_is | kernel_rfl))
    (case xh_NoDay => (first | k_is | kernel_rfl))
    (case n_Fixed => k_is)
    (case q_Fixed => (first | k_is | kernel_rfl))
    (case xa_Fixed => (first | k_is | kernel_rfl))
    (case xb_Fixed => (first | k_is | kernel_rfl))
    (case xc_Fixed => (first | k_is | kernel_rfl))
    (case xd_Fixed => (first | k_is | kernel_rfl))
    (case xe_Fixed => (first | k_is | kernel_rfl))
    (case xf_Fixed => (first | k_is | kernel_rfl))
    (case xg_Fixed => (first | k_is | kernel_rfl))
    (case xh_Fixed => (first | k_is | kernel_rfl))
    (case n_Harms => k_is)
    (case q_Harms => (first | k_is | kernel_rfl))
    (case xa_Harms => (first | k_is | kernel_rfl))
    (case xb_Harms => (first | k_is | kernel_rfl))
    (case xc_Harms => (first | k_is | kernel_rfl))
    (case xd_Harms => (first | k_is | kernel_rfl))
    (case xe_Harms => (first | k_is | kernel_rfl))
    (case xf_Harms => (first | k_is | kernel_rfl))
    (case xg_Harms => (first | k_is | kernel_rfl))
    (case xh_Harms => (first | k_is | kernel_rfl))
    (case n_NoRow => k_is)
    (case q_NoRow => (first | k_is | kernel_rfl))
    (case xa_NoRow => (first | k_is | kernel_rfl))
    (case xb_NoRow => (first | k_is | kernel_rfl))
    (case xc_NoRow => (first | k_is | kernel_rfl))
    (case xd_NoRow => (first | k_is | kernel_rfl))
    (case xe_NoRow => (first | k_is | kernel_rfl))
    (case xf_NoRow => (first | k_is | kernel_rfl))
    (case xg_NoRow => (first | k_is | kernel_rfl))
    (case xh_NoRow => (first | k_is | kernel_rfl))
    (case m_NoPaper_SluiceError => (first | k_is | kernel_rfl))
    (case i_NoPaper_NoRiver => (first | k_is | kernel_rfl))
    (case i_NoPaper_NoReach => (first | k_is | kernel_rfl))
    (case i_NoPaper_NoLicence => (first | k_is | kernel_rfl))
    (case i_NoPaper_NoNumber => (first | k_is | kernel_rfl))
    (case i_NoPaper_NoHolder => (first | k_is | kernel_rfl))
    (case i_NoPaper_NotYours => (first | k_is | kernel_rfl))
    (case i_NoPaper_NotAlone => (first | k_is | kernel_rfl))
    (case i_NoPaper_TooMuch => (first | k_is | kernel_rfl))
    (case i_NoPaper_Full => (first | k_is | kernel_rfl))
    (case i_NoPaper_NoCut => (first | k_is | kernel_rfl))
    (case i_NoPaper_NoPond => (first | k_is | kernel_rfl))
    (case i_NoPaper_NoDay => (first | k_is | kernel_rfl))
    (case i_NoPaper_Fixed => (first | k_is | kernel_rfl))
    (case i_NoPaper_Harms => (first | k_is | kernel_rfl))
    (case i_NoPaper_NoRow => (first | k_is | kernel_rfl))
    (case i_NoPaper_NoPaper => (first | k_is | kernel_rfl))
    (case i_NoPaper_ValueError => (first | k_is | kernel_rfl))
    (case y0 => kernel_rfl)
  case hts =>
    intro w P hP
    simp only [List.mem_cons, List.not_mem_nil, or_false] at hP
    subst hP
    exact ⟨by kernel_rfl, My.code_ex "tops_first" (by kernel_rfl)⟩
