import PyProof.Rows.All
import Wide.All
import OpenK.AllK
import Wide.FinOn
import Lean
import PyProof.EqAt
import PyProof.EqKinds
import PyProof.TupleCall
import KE.KSortTup
import PySem.Challenge.RW_sluice_k42_lets_refused
set_option Elab.async false
set_option linter.all false
set_option maxRecDepth 100000
set_option maxHeartbeats 4000000
namespace L2
open PySem
def defArgs (s : Stmt) : Arguments := match s with
  | .FunctionDef _ a _ _ _ _ _ _ _ _ => a
  | _ => { posonlyargs := [], args := [], vararg := none, kwonlyargs := [], kw_defaults := [], kwarg := none, defaults := [] }
def defBody (s : Stmt) : List Stmt := match s with
  | .FunctionDef _ _ b _ _ _ _ _ _ _ => b
  | _ => []
def defScope (s : Stmt) : Scope := match s with
  | .FunctionDef _ _ _ _ _ _ sc _ _ _ => sc
  | _ => { kind := .function, names := [], isGenerator := false, isCoroutine := false }
end L2
namespace My
open PySem L2
/-! ### what the top leaves -/
noncomputable def top0 (i : Nat) : Stmt := PySem.Challenge.pw_sluice_k42_lets_refused.main.body.getD i (.Pass ⟨0, 0, 0, 0⟩)
noncomputable def en (P : Params) (x : Str) (t : Tok) (v : Value) : DictEntry := ⟨PyData.keyHash P x, .str x t, v⟩
noncomputable def Kf : Params → PySem.W.Frag := fun P => (nat_lit 2, { cls := .none, data := Data.dict #[] }) ::
 (nat_lit 3, { cls := .type "dict", data := Data.dict #[en P "__name__" 165 (.str "law_sluice_k42_lets_refused" 529), en P "__doc__" 166 .none, en P "__package__" 167 .none, en P "__loader__" 168 (.builtin "__main__.__loader__#opaque"), en P "__spec__" 169 .none, en P "__annotations__" 170 (.ref 6), en P "__builtins__" 171 (.ref 4), en P "__file__" 173 (.str "/claim/cut.py" 172), en P "__cached__" 174 .none, en P "SluiceError" 206 (.ref 24), en P "NoRiver" 222 (.ref 37), en P "NoReach" 238 (.ref 49), en P "NoLicence" 254 (.ref 61), en P "NoNumber" 270 (.ref 73), en P "NoHolder" 286 (.ref 85), en P "NotYours" 302 (.ref 97), en P "NotAlone" 318 (.ref 109), en P "TooMuch" 334 (.ref 121), en P "Full" 350 (.ref 133), en P "NoPaper" 366 (.ref 145), en P "NoCut" 382 (.ref 157), en P "NoPond" 398 (.ref 169), en P "NoDay" 414 (.ref 181), en P "Fixed" 430 (.ref 193), en P "Harms" 446 (.ref 205), en P "NoRow" 462 (.ref 217), en P "MOUTH" 467 (.int (-1) 466), en P "way_of" 476 (.ref 226), en P "start_of" 485 (.ref 233), en P "pond_start" 498 (.ref 240), en P "look_at_let" 512 (.ref 247), en P "let_out" 528 (.ref 254), en P "_law_nth" 539 (.ref 261), en P "_law_counts" 546 (.ref 268), en P "_law_draws" 557 (.ref 275), en P "_law_river" 563 (.ref 280), en P "_law_way" 573 (.ref 287), en P "_law_amount" 581 (.ref 294), en P "_law_some" 589 (.ref 301), en P "_law_roll" 605 (.ref 308), en P "_law_ponds" 611 (.ref 313), en P "_law_let" 629 (.ref 320), en P "_law_bad" 640 (.ref 327), en P "_law_refused" 648 (.ref 334), en P "_law_asked" 654 (.ref 339), en P "law" 660 (.ref 344)] 46 }) ::
 (nat_lit 15, { cls := .type "tuple", data := Data.seq #[.type "ValueError"] }) ::
 (nat_lit 22, { cls := .type "tuple", data := Data.seq #[] }) ::
 (nat_lit 23, { cls := .type "dict", data := Data.dict #[en P "__module__" 196 (.str "sluice.errors" 187), en P "__firstlineno__" 200 (.int 2 199), en P "__static_attributes__" 201 (.ref 22), en P "__weakref__" 203 (.ref 25), en P "__doc__" 204 .none] 3 }) ::
 (nat_lit 24, { cls := .type "type", data := Data.cls { name := "SluiceError", bases := [.type "ValueError"], mro := [.ref 24, .type "ValueError", .type "Exception", .type "BaseException", .type "object"], ns := 23, qualname := "SluiceError", subclasses := [.ref 37, .ref 49, .ref 61, .ref 73, .ref 85, .ref 97, .ref 109, .ref 121, .ref 133, .ref 145, .ref 157, .ref 169, .ref 181, .ref 193, .ref 205, .ref 217] }, slots := #[some (.ref 15), none, some (.str "SluiceError" 189), some (.str "SluiceError" 197), some (.builtin "ValueError.__new__"), some (.bool true)] }) ::
 (nat_lit 25, { cls := .type "getset_descriptor", data := Data.fields #[.str "__weakref__" 202, .ref 24, .builtin "ExceptionGroup.__weakref__", .none] }) ::
 (nat_lit 28, { cls := .type "tuple", data := Data.seq #[.ref 24] }) ::
 (nat_lit 35, { cls := .type "tuple", data := Data.seq #[] }) ::
 (nat_lit 36, { cls := .type "dict", data := Data.dict #[en P "__module__" 214 (.str "sluice.errors" 187), en P "__firstlineno__" 218 (.int 4 217), en P "__static_attributes__" 219 (.ref 35), en P "__doc__" 220 .none] 2 }) ::
 (nat_lit 37, { cls := .type "type", data := Data.cls { name := "NoRiver", bases := [.ref 24], mro := [.ref 37, .ref 24, .type "ValueError", .type "Exception", .type "BaseException", .type "object"], ns := 36, qualname := "NoRiver" }, slots := #[some (.ref 28), none, some (.str "NoRiver" 207), some (.str "NoRiver" 215), some (.builtin "ValueError.__new__"), some (.bool true)] }) ::
 (nat_lit 40, { cls := .type "tuple", data := Data.seq #[.ref 24] }) ::
 (nat_lit 47, { cls := .type "tuple", data := Data.seq #[] }) ::
 (nat_lit 48, { cls := .type "dict", data := Data.dict #[en P "__module__" 230 (.str "sluice.errors" 187), en P "__firstlineno__" 234 (.int 6 233), en P "__static_attributes__" 235 (.ref 47), en P "__doc__" 236 .none] 2 }) ::
 (nat_lit 49, { cls := .type "type", data := Data.cls { name := "NoReach", bases := [.ref 24], mro := [.ref 49, .ref 24, .type "ValueError", .type "Exception", .type "BaseException", .type "object"], ns := 48, qualname := "NoReach" }, slots := #[some (.ref 40), none, some (.str "NoReach" 223), some (.str "NoReach" 231), some (.builtin "ValueError.__new__"), some (.bool true)] }) ::
 (nat_lit 52, { cls := .type "tuple", data := Data.seq #[.ref 24] }) ::
 (nat_lit 59, { cls := .type "tuple", data := Data.seq #[] }) ::
 (nat_lit 60, { cls := .type "dict", data := Data.dict #[en P "__module__" 246 (.str "sluice.errors" 187), en P "__firstlineno__" 250 (.int 8 249), en P "__static_attributes__" 251 (.ref 59), en P "__doc__" 252 .none] 2 }) ::
 (nat_lit 61, { cls := .type "type", data := Data.cls { name := "NoLicence", bases := [.ref 24], mro := [.ref 61, .ref 24, .type "ValueError", .type "Exception", .type "BaseException", .type "object"], ns := 60, qualname := "NoLicence" }, slots := #[some (.ref 52), none, some (.str "NoLicence" 239), some (.str "NoLicence" 247), some (.builtin "ValueError.__new__"), some (.bool true)] }) ::
 (nat_lit 64, { cls := .type "tuple", data := Data.seq #[.ref 24] }) ::
 (nat_lit 71, { cls := .type "tuple", data := Data.seq #[] }) ::
 (nat_lit 72, { cls := .type "dict", data := Data.dict #[en P "__module__" 262 (.str "sluice.errors" 187), en P "__firstlineno__" 266 (.int 10 265), en P "__static_attributes__" 267 (.ref 71), en P "__doc__" 268 .none] 2 }) ::
 (nat_lit 73, { cls := .type "type", data := Data.cls { name := "NoNumber", bases := [.ref 24], mro := [.ref 73, .ref 24, .type "ValueError", .type "Exception", .type "BaseException", .type "object"], ns := 72, qualname := "NoNumber" }, slots := #[some (.ref 64), none, some (.str "NoNumber" 255), some (.str "NoNumber" 263), some (.builtin "ValueError.__new__"), some (.bool true)] }) ::
 (nat_lit 76, { cls := .type "tuple", data := Data.seq #[.ref 24] }) ::
 (nat_lit 83, { cls := .type "tuple", data := Data.seq #[] }) ::
 (nat_lit 84, { cls := .type "dict", data := Data.dict #[en P "__module__" 278 (.str "sluice.errors" 187), en P "__firstlineno__" 282 (.int 12 281), en P "__static_attributes__" 283 (.ref 83), en P "__doc__" 284 .none] 2 }) ::
 (nat_lit 85, { cls := .type "type", data := Data.cls { name := "NoHolder", bases := [.ref 24], mro := [.ref 85, .ref 24, .type "ValueError", .type "Exception", .type "BaseException", .type "object"], ns := 84, qualname := "NoHolder" }, slots := #[some (.ref 76), none, some (.str "NoHolder" 271), some (.str "NoHolder" 279), some (.builtin "ValueError.__new__"), some (.bool true)] }) ::
 (nat_lit 88, { cls := .type "tuple", data := Data.seq #[.ref 24] }) ::
 (nat_lit 95, { cls := .type "tuple", data := Data.seq #[] }) ::
 (nat_lit 96, { cls := .type "dict", data := Data.dict #[en P "__module__" 294 (.str "sluice.errors" 187), en P "__firstlineno__" 298 (.int 14 297), en P "__static_attributes__" 299 (.ref 95), en P "__doc__" 300 .none] 2 }) ::
 (nat_lit 97, { cls := .type "type", data := Data.cls { name := "NotYours", bases := [.ref 24], mro := [.ref 97, .ref 24, .type "ValueError", .type "Exception", .type "BaseException", .type "object"], ns := 96, qualname := "NotYours" }, slots := #[some (.ref 88), none, some (.str "NotYours" 287), some (.str "NotYours" 295), some (.builtin "ValueError.__new__"), some (.bool true)] }) ::
 (nat_lit 100, { cls := .type "tuple", data := Data.seq #[.ref 24] }) ::
 (nat_lit 107, { cls := .type "tuple", data := Data.seq #[] }) ::
 (nat_lit 108, { cls := .type "dict", data := Data.dict #[en P "__module__" 310 (.str "sluice.errors" 187), en P "__firstlineno__" 314 (.int 16 313), en P "__static_attributes__" 315 (.ref 107), en P "__doc__" 316 .none] 2 }) ::
 (nat_lit 109, { cls := .type "type", data := Data.cls { name := "NotAlone", bases := [.ref 24], mro := [.ref 109, .ref 24, .type "ValueError", .type "Exception", .type "BaseException", .type "object"], ns := 108, qualname := "NotAlone" }, slots := #[some (.ref 100), none, some (.str "NotAlone" 303), some (.str "NotAlone" 311), some (.builtin "ValueError.__new__"), some (.bool true)] }) ::
 (nat_lit 112, { cls := .type "tuple", data := Data.seq #[.ref 24] }) ::
 (nat_lit 119, { cls := .type "tuple", data := Data.seq #[] }) ::
 (nat_lit 120, { cls := .type "dict", data := Data.dict #[en P "__module__" 326 (.str "sluice.errors" 187), en P "__firstlineno__" 330 (.int 18 329), en P "__static_attributes__" 331 (.ref 119), en P "__doc__" 332 .none] 2 }) ::
 (nat_lit 121, { cls := .type "type", data := Data.cls { name := "TooMuch", bases := [.ref 24], mro := [.ref 121, .ref 24, .type "ValueError", .type "Exception", .type "BaseException", .type "object"], ns := 120, qualname := "TooMuch" }, slots := #[some (.ref 112), none, some (.str "TooMuch" 319), some (.str "TooMuch" 327), some (.builtin "ValueError.__new__"), some (.bool true)] }) ::
 (nat_lit 124, { cls := .type "tuple", data := Data.seq #[.ref 24] }) ::
 (nat_lit 131, { cls := .type "tuple", data := Data.seq #[] }) ::
 (nat_lit 132, { cls := .type "dict", data := Data.dict #[en P "__module__" 342 (.str "sluice.errors" 187), en P "__firstlineno__" 346 (.int 20 345), en P "__static_attributes__" 347 (.ref 131), en P "__doc__" 348 .none] 2 }) ::
 (nat_lit 133, { cls := .type "type", data := Data.cls { name := "Full", bases := [.ref 24], mro := [.ref 133, .ref 24, .type "ValueError", .type "Exception", .type "BaseException", .type "object"], ns := 132, qualname := "Full" }, slots := #[some (.ref 124), none, some (.str "Full" 335), some (.str "Full" 343), some (.builtin "ValueError.__new__"), some (.bool true)] }) ::
 (nat_lit 136, { cls := .type "tuple", data := Data.seq #[.ref 24] }) ::
 (nat_lit 143, { cls := .type "tuple", data := Data.seq #[] }) ::
 (nat_lit 144, { cls := .type "dict", data := Data.dict #[en P "__module__" 358 (.str "sluice.errors" 187), en P "__firstlineno__" 362 (.int 22 361), en P "__static_attributes__" 363 (.ref 143), en P "__doc__" 364 .none] 2 }) ::
 (nat_lit 145, { cls := .type "type", data := Data.cls { name := "NoPaper", bases := [.ref 24], mro := [.ref 145, .ref 24, .type "ValueError", .type "Exception", .type "BaseException", .type "object"], ns := 144, qualname := "NoPaper" }, slots := #[some (.ref 136), none, some (.str "NoPaper" 351), some (.str "NoPaper" 359), some (.builtin "ValueError.__new__"), some (.bool true)] }) ::
 (nat_lit 148, { cls := .type "tuple", data := Data.seq #[.ref 24] }) ::
 (nat_lit 155, { cls := .type "tuple", data := Data.seq #[] }) ::
 (nat_lit 156, { cls := .type "dict", data := Data.dict #[en P "__module__" 374 (.str "sluice.errors" 187), en P "__firstlineno__" 378 (.int 24 377), en P "__static_attributes__" 379 (.ref 155), en P "__doc__" 380 .none] 2 }) ::
 (nat_lit 157, { cls := .type "type", data := Data.cls { name := "NoCut", bases := [.ref 24], mro := [.ref 157, .ref 24, .type "ValueError", .type "Exception", .type "BaseException", .type "object"], ns := 156, qualname := "NoCut" }, slots := #[some (.ref 148), none, some (.str "NoCut" 367), some (.str "NoCut" 375), some (.builtin "ValueError.__new__"), some (.bool true)] }) ::
 (nat_lit 160, { cls := .type "tuple", data := Data.seq #[.ref 24] }) ::
 (nat_lit 167, { cls := .type "tuple", data := Data.seq #[] }) ::
 (nat_lit 168, { cls := .type "dict", data := Data.dict #[en P "__module__" 390 (.str "sluice.errors" 187), en P "__firstlineno__" 394 (.int 26 393), en P "__static_attributes__" 395 (.ref 167), en P "__doc__" 396 .none] 2 }) ::
 (nat_lit 169, { cls := .type "type", data := Data.cls { name := "NoPond", bases := [.ref 24], mro := [.ref 169, .ref 24, .type "ValueError", .type "Exception", .type "BaseException", .type "object"], ns := 168, qualname := "NoPond" }, slots := #[some (.ref 160), none, some (.str "NoPond" 383), some (.str "NoPond" 391), some (.builtin "ValueError.__new__"), some (.bool true)] }) ::
 (nat_lit 172, { cls := .type "tuple", data := Data.seq #[.ref 24] }) ::
 (nat_lit 179, { cls := .type "tuple", data := Data.seq #[] }) ::
 (nat_lit 180, { cls := .type "dict", data := Data.dict #[en P "__module__" 406 (.str "sluice.errors" 187), en P "__firstlineno__" 410 (.int 28 409), en P "__static_attributes__" 411 (.ref 179), en P "__doc__" 412 .none] 2 }) ::
 (nat_lit 181, { cls := .type "type", data := Data.cls { name := "NoDay", bases := [.ref 24], mro := [.ref 181, .ref 24, .type "ValueError", .type "Exception", .type "BaseException", .type "object"], ns := 180, qualname := "NoDay" }, slots := #[some (.ref 172), none, some (.str "NoDay" 399), some (.str "NoDay" 407), some (.builtin "ValueError.__new__"), some (.bool true)] }) ::
 (nat_lit 184, { cls := .type "tuple", data := Data.seq #[.ref 24] }) ::
 (nat_lit 191, { cls := .type "tuple", data := Data.seq #[] }) ::
 (nat_lit 192, { cls := .type "dict", data := Data.dict #[en P "__module__" 422 (.str "sluice.errors" 187), en P "__firstlineno__" 426 (.int 30 425), en P "__static_attributes__" 427 (.ref 191), en P "__doc__" 428 .none] 2 }) ::
 (nat_lit 193, { cls := .type "type", data := Data.cls { name := "Fixed", bases := [.ref 24], mro := [.ref 193, .ref 24, .type "ValueError", .type "Exception", .type "BaseException", .type "object"], ns := 192, qualname := "Fixed" }, slots := #[some (.ref 184), none, some (.str "Fixed" 415), some (.str "Fixed" 423), some (.builtin "ValueError.__new__"), some (.bool true)] }) ::
 (nat_lit 196, { cls := .type "tuple", data := Data.seq #[.ref 24] }) ::
 (nat_lit 203, { cls := .type "tuple", data := Data.seq #[] }) ::
 (nat_lit 204, { cls := .type "dict", data := Data.dict #[en P "__module__" 438 (.str "sluice.errors" 187), en P "__firstlineno__" 442 (.int 32 441), en P "__static_attributes__" 443 (.ref 203), en P "__doc__" 444 .none] 2 }) ::
 (nat_lit 205, { cls := .type "type", data := Data.cls { name := "Harms", bases := [.ref 24], mro := [.ref 205, .ref 24, .type "ValueError", .type "Exception", .type "BaseException", .type "object"], ns := 204, qualname := "Harms" }, slots := #[some (.ref 196), none, some (.str "Harms" 431), some (.str "Harms" 439), some (.builtin "ValueError.__new__"), some (.bool true)] }) ::
 (nat_lit 208, { cls := .type "tuple", data := Data.seq #[.ref 24] }) ::
 (nat_lit 215, { cls := .type "tuple", data := Data.seq #[] }) ::
 (nat_lit 216, { cls := .type "dict", data := Data.dict #[en P "__module__" 454 (.str "sluice.errors" 187), en P "__firstlineno__" 458 (.int 34 457), en P "__static_attributes__" 459 (.ref 215), en P "__doc__" 460 .none] 2 }) ::
 (nat_lit 217, { cls := .type "type", data := Data.cls { name := "NoRow", bases := [.ref 24], mro := [.ref 217, .ref 24, .type "ValueError", .type "Exception", .type "BaseException", .type "object"], ns := 216, qualname := "NoRow" }, slots := #[some (.ref 208), none, some (.str "NoRow" 447), some (.str "NoRow" 455), some (.builtin "ValueError.__new__"), some (.bool true)] }) ::
 (nat_lit 220, { cls := .type "tuple", data := Data.seq #[] }) ::
 (nat_lit 222, { cls := .type "tuple", data := Data.seq #[.str "below" 471, .str "reach" 472, .str "way" 473] }) ::
 (nat_lit 223, { cls := .type "tuple", data := Data.seq #[] }) ::
 (nat_lit 225, { cls := .type "code", data := Data.fields #[.str "way_of" 468, .str "way_of" 469, .str "/claim/cut.py" 470, .int 38 0, .int 2 0, .int 0 0, .int 0 0, .int 3 0, .ref 220, .bool true, .int 181 0, .ref 221, .none, .ref 222, .ref 223, .ref 224, .int 474 0, .int 38 0, .str "/claim/cut.py" 475] }) ::
 (nat_lit 226, ⟨.type "function", none, .func (PySem.W.fnOf "way_of" "way_of" (defArgs (top0 20)) (defBody (top0 20)) (defScope (top0 20)) .none .none .none (.str "sluice.rivers" 463) none (.ref 225) .none), #[]⟩) ::
 (nat_lit 227, { cls := .type "tuple", data := Data.seq #[] }) ::
 (nat_lit 229, { cls := .type "tuple", data := Data.seq #[.str "one" 482] }) ::
 (nat_lit 230, { cls := .type "tuple", data := Data.seq #[] }) ::
 (nat_lit 232, { cls := .type "code", data := Data.fields #[.str "start_of" 479, .str "start_of" 480, .str "/claim/cut.py" 481, .int 44 0, .int 1 0, .int 0 0, .int 0 0, .int 3 0, .ref 227, .bool true, .int 181 0, .ref 228, .none, .ref 229, .ref 230, .ref 231, .int 483 0, .int 44 0, .str "/claim/cut.py" 484] }) ::
 (nat_lit 233, ⟨.type "function", none, .func (PySem.W.fnOf "start_of" "start_of" (defArgs (top0 22)) (defBody (top0 22)) (defScope (top0 22)) .none .none .none (.str "sluice.licences" 477) none (.ref 232) .none), #[]⟩) ::
 (nat_lit 234, { cls := .type "tuple", data := Data.seq #[] }) ::
 (nat_lit 236, { cls := .type "tuple", data := Data.seq #[.str "roll" 491, .str "pond" 492, .str "number" 493, .str "room" 494, .str "leak" 495] }) ::
 (nat_lit 237, { cls := .type "tuple", data := Data.seq #[] }) ::
 (nat_lit 239, { cls := .type "code", data := Data.fields #[.str "pond_start" 488, .str "pond_start" 489, .str "/claim/cut.py" 490, .int 47 0, .int 2 0, .int 0 0, .int 0 0, .int 3 0, .ref 234, .bool true, .int 181 0, .ref 235, .none, .ref 236, .ref 237, .ref 238, .int 496 0, .int 47 0, .str "/claim/cut.py" 497] }) ::
 (nat_lit 240, ⟨.type "function", none, .func (PySem.W.fnOf "pond_start" "pond_start" (defArgs (top0 24)) (defBody (top0 24)) (defScope (top0 24)) .none .none .none (.str "sluice.ponds" 486) none (.ref 239) .none), #[]⟩) ::
 (nat_lit 241, { cls := .type "tuple", data := Data.seq #[] }) ::
 (nat_lit 243, { cls := .type "tuple", data := Data.seq #[.str "below" 502, .str "roll" 503, .str "ponds" 504, .str "kept" 505, .str "let" 506, .str "place" 507, .str "reach" 508, .str "amount" 509] }) ::
 (nat_lit 244, { cls := .type "tuple", data := Data.seq #[] }) ::
 (nat_lit 246, { cls := .type "code", data := Data.fields #[.str "look_at_let" 499, .str "look_at_let" 500, .str "/claim/cut.py" 501, .int 50 0, .int 5 0, .int 0 0, .int 0 0, .int 3 0, .ref 241, .bool true, .int 181 0, .ref 242, .none, .ref 243, .ref 244, .ref 245, .int 510 0, .int 50 0, .str "/claim/cut.py" 511] }) ::
 (nat_lit 247, ⟨.type "function", none, .func (PySem.W.fnOf "look_at_let" "look_at_let" (defArgs (top0 25)) (defBody (top0 25)) (defScope (top0 25)) .none .none .none (.str "sluice.ponds" 486) none (.ref 246) .none), #[]⟩) ::
 (nat_lit 248, { cls := .type "tuple", data := Data.seq #[] }) ::
 (nat_lit 250, { cls := .type "tuple", data := Data.seq #[.str "below" 516, .str "roll" 517, .str "ponds" 518, .str "kept" 519, .str "lets" 520, .str "left" 521, .str "let" 522, .str "place" 523, .str "reach" 524, .str "amount" 525] }) ::
 (nat_lit 251, { cls := .type "tuple", data := Data.seq #[] }) ::
 (nat_lit 253, { cls := .type "code", data := Data.fields #[.str "let_out" 513, .str "let_out" 514, .str "/claim/cut.py" 515, .int 58 0, .int 5 0, .int 0 0, .int 0 0, .int 3 0, .ref 248, .bool true, .int 181 0, .ref 249, .none, .ref 250, .ref 251, .ref 252, .int 526 0, .int 58 0, .str "/claim/cut.py" 527] }) ::
 (nat_lit 254, ⟨.type "function", none, .func (PySem.W.fnOf "let_out" "let_out" (defArgs (top0 26)) (defBody (top0 26)) (defScope (top0 26)) .none .none .none (.str "sluice.ponds" 486) none (.ref 253) .none), #[]⟩) ::
 (nat_lit 255, { cls := .type "tuple", data := Data.seq #[] }) ::
 (nat_lit 257, { cls := .type "tuple", data := Data.seq #[.str "script" 534, .str "k" 535, .str "cell" 536] }) ::
 (nat_lit 258, { cls := .type "tuple", data := Data.seq #[] }) ::
 (nat_lit 260, { cls := .type "code", data := Data.fields #[.str "_law_nth" 531, .str "_law_nth" 532, .str "/claim/cut.py" 533, .int 66 0, .int 2 0, .int 0 0, .int 0 0, .int 3 0, .ref 255, .bool true, .int 181 0, .ref 256, .none, .ref 257, .ref 258, .ref 259, .int 537 0, .int 66 0, .str "/claim/cut.py" 538] }) ::
 (nat_lit 261, ⟨.type "function", none, .func (PySem.W.fnOf "_law_nth" "_law_nth" (defArgs (top0 28)) (defBody (top0 28)) (defScope (top0 28)) .none .none .none (.str "law_sluice_k42_lets_refused" 529) none (.ref 260) .none), #[]⟩) ::
 (nat_lit 262, { cls := .type "tuple", data := Data.seq #[] }) ::
 (nat_lit 264, { cls := .type "tuple", data := Data.seq #[.str "thing" 543] }) ::
 (nat_lit 265, { cls := .type "tuple", data := Data.seq #[] }) ::
 (nat_lit 267, { cls := .type "code", data := Data.fields #[.str "_law_counts" 540, .str "_law_counts" 541, .str "/claim/cut.py" 542, .int 70 0, .int 1 0, .int 0 0, .int 0 0, .int 3 0, .ref 262, .bool true, .int 181 0, .ref 263, .none, .ref 264, .ref 265, .ref 266, .int 544 0, .int 70 0, .str "/claim/cut.py" 545] }) ::
 (nat_lit 268, ⟨.type "function", none, .func (PySem.W.fnOf "_law_counts" "_law_counts" (defArgs (top0 29)) (defBody (top0 29)) (defScope (top0 29)) .none .none .none (.str "law_sluice_k42_lets_refused" 529) none (.ref 267) .none), #[]⟩) ::
 (nat_lit 269, { cls := .type "tuple", data := Data.seq #[] }) ::
 (nat_lit 271, { cls := .type "tuple", data := Data.seq #[.str "cell" 550, .str "many" 551, .str "drawn" 552, .str "k" 553, .str "base" 554] }) ::
 (nat_lit 272, { cls := .type "tuple", data := Data.seq #[] }) ::
 (nat_lit 274, { cls := .type "code", data := Data.fields #[.str "_law_draws" 547, .str "_law_draws" 548, .str "/claim/cut.py" 549, .int 72 0, .int 2 0, .int 0 0, .int 0 0, .int 3 0, .ref 269, .bool true, .int 181 0, .ref 270, .none, .ref 271, .ref 272, .ref 273, .int 555 0, .int 72 0, .str "/claim/cut.py" 556] }) ::
 (nat_lit 275, ⟨.type "function", none, .func (PySem.W.fnOf "_law_draws" "_law_draws" (defArgs (top0 30)) (defBody (top0 30)) (defScope (top0 30)) .none .none .none (.str "law_sluice_k42_lets_refused" 529) none (.ref 274) .none), #[]⟩) ::
 (nat_lit 276, { cls := .type "tuple", data := Data.seq #[] }) ::
 (nat_lit 279, { cls := .type "code", data := Data.fields #[.str "_law_river" 558, .str "_law_river" 559, .str "/claim/cut.py" 560, .int 78 0, .int 1 0, .int 0 0, .int 0 0, .int 3 0, .ref 276, .bool true, .int 181 0, .ref 277, .none, .none, .none, .ref 278, .int 561 0, .int 78 0, .str "/claim/cut.py" 562] }) ::
 (nat_lit 280, ⟨.type "function", none, .func (PySem.W.fnOf "_law_river" "_law_river" (defArgs (top0 31)) (defBody (top0 31)) (defScope (top0 31)) .none .none .none (.str "law_sluice_k42_lets_refused" 529) none (.ref 279) .none), #[]⟩) ::
 (nat_lit 281, { cls := .type "tuple", data := Data.seq #[] }) ::
 (nat_lit 283, { cls := .type "tuple", data := Data.seq #[.str "below" 567, .str "start" 568, .str "way" 569, .str "at" 570] }) ::
 (nat_lit 284, { cls := .type "tuple", data := Data.seq #[] }) ::
 (nat_lit 286, { cls := .type "code", data := Data.fields #[.str "_law_way" 564, .str "_law_way" 565, .str "/claim/cut.py" 566, .int 98 0, .int 2 0, .int 0 0, .int 0 0, .int 3 0, .ref 281, .bool true, .int 181 0, .ref 282, .none, .ref 283, .ref 284, .ref 285, .int 571 0, .int 98 0, .str "/claim/cut.py" 572] }) ::
 (nat_lit 287, ⟨.type "function", none, .func (PySem.W.fnOf "_law_way" "_law_way" (defArgs (top0 32)) (defBody (top0 32)) (defScope (top0 32)) .none .none .none (.str "law_sluice_k42_lets_refused" 529) none (.ref 286) .none), #[]⟩) ::
 (nat_lit 288, { cls := .type "tuple", data := Data.seq #[] }) ::
 (nat_lit 290, { cls := .type "tuple", data := Data.seq #[.str "number" 577, .str "kind" 578] }) ::
 (nat_lit 291, { cls := .type "tuple", data := Data.seq #[] }) ::
 (nat_lit 293, { cls := .type "code", data := Data.fields #[.str "_law_amount" 574, .str "_law_amount" 575, .str "/claim/cut.py" 576, .int 105 0, .int 2 0, .int 0 0, .int 0 0, .int 3 0, .ref 288, .bool true, .int 181 0, .ref 289, .none, .ref 290, .ref 291, .ref 292, .int 579 0, .int 105 0, .str "/claim/cut.py" 580] }) ::
 (nat_lit 294, ⟨.type "function", none, .func (PySem.W.fnOf "_law_amount" "_law_amount" (defArgs (top0 33)) (defBody (top0 33)) (defScope (top0 33)) .none .none .none (.str "law_sluice_k42_lets_refused" 529) none (.ref 293) .none), #[]⟩) ::
 (nat_lit 295, { cls := .type "tuple", data := Data.seq #[] }) ::
 (nat_lit 297, { cls := .type "tuple", data := Data.seq #[.str "number" 585, .str "most" 586] }) ::
 (nat_lit 298, { cls := .type "tuple", data := Data.seq #[] }) ::
 (nat_lit 300, { cls := .type "code", data := Data.fields #[.str "_law_some" 582, .str "_law_some" 583, .str "/claim/cut.py" 584, .int 113 0, .int 2 0, .int 0 0, .int 0 0, .int 3 0, .ref 295, .bool true, .int 181 0, .ref 296, .none, .ref 297, .ref 298, .ref 299, .int 587 0, .int 113 0, .str "/claim/cut.py" 588] }) ::
 (nat_lit 301, ⟨.type "function", none, .func (PySem.W.fnOf "_law_some" "_law_some" (defArgs (top0 34)) (defBody (top0 34)) (defScope (top0 34)) .none .none .none (.str "law_sluice_k42_lets_refused" 529) none (.ref 300) .none), #[]⟩) ::
 (nat_lit 302, { cls := .type "tuple", data := Data.seq #[] }) ::
 (nat_lit 304, { cls := .type "tuple", data := Data.seq #[.str "cell" 593, .str "below" 594, .str "kind" 595, .str "many" 596, .str "roll" 597, .str "k" 598, .str "xs" 599, .str "start" 600, .str "way" 601, .str "back" 602] }) ::
 (nat_lit 305, { cls := .type "tuple", data := Data.seq #[] }) ::
 (nat_lit 307, { cls := .type "code", data := Data.fields #[.str "_law_roll" 590, .str "_law_roll" 591, .str "/claim/cut.py" 592, .int 121 0, .int 3 0, .int 0 0, .int 0 0, .int 3 0, .ref 302, .bool true, .int 181 0, .ref 303, .none, .ref 304, .ref 305, .ref 306, .int 603 0, .int 121 0, .str "/claim/cut.py" 604] }) ::
 (nat_lit 308, ⟨.type "function", none, .func (PySem.W.fnOf "_law_roll" "_law_roll" (defArgs (top0 35)) (defBody (top0 35)) (defScope (top0 35)) .none .none .none (.str "law_sluice_k42_lets_refused" 529) none (.ref 307) .none), #[]⟩) ::
 (nat_lit 309, { cls := .type "tuple", data := Data.seq #[] }) ::
 (nat_lit 312, { cls := .type "code", data := Data.fields #[.str "_law_ponds" 606, .str "_law_ponds" 607, .str "/claim/cut.py" 608, .int 135 0, .int 3 0, .int 0 0, .int 0 0, .int 3 0, .ref 309, .bool true, .int 181 0, .ref 310, .none, .none, .none, .ref 311, .int 609 0, .int 135 0, .str "/claim/cut.py" 610] }) ::
 (nat_lit 313, ⟨.type "function", none, .func (PySem.W.fnOf "_law_ponds" "_law_ponds" (defArgs (top0 36)) (defBody (top0 36)) (defScope (top0 36)) .none .none .none (.str "law_sluice_k42_lets_refused" 529) none (.ref 312) .none), #[]⟩) ::
 (nat_lit 314, { cls := .type "tuple", data := Data.seq #[] }) ::
 (nat_lit 316, { cls := .type "tuple", data := Data.seq #[.str "cell" 615, .str "below" 616, .str "roll" 617, .str "ponds" 618, .str "left" 619, .str "xs" 620, .str "pond" 621, .str "way" 622, .str "most" 623, .str "reach" 624, .str "amount" 625, .str "faults" 626] }) ::
 (nat_lit 317, { cls := .type "tuple", data := Data.seq #[] }) ::
 (nat_lit 319, { cls := .type "code", data := Data.fields #[.str "_law_let" 612, .str "_law_let" 613, .str "/claim/cut.py" 614, .int 145 0, .int 5 0, .int 0 0, .int 0 0, .int 3 0, .ref 314, .bool true, .int 181 0, .ref 315, .none, .ref 316, .ref 317, .ref 318, .int 627 0, .int 145 0, .str "/claim/cut.py" 628] }) ::
 (nat_lit 320, ⟨.type "function", none, .func (PySem.W.fnOf "_law_let" "_law_let" (defArgs (top0 37)) (defBody (top0 37)) (defScope (top0 37)) .none .none .none (.str "law_sluice_k42_lets_refused" 529) none (.ref 319) .none), #[]⟩) ::
 (nat_lit 321, { cls := .type "tuple", data := Data.seq #[] }) ::
 (nat_lit 323, { cls := .type "tuple", data := Data.seq #[.str "one" 633, .str "below" 634, .str "roll" 635, .str "ponds" 636, .str "left" 637] }) ::
 (nat_lit 324, { cls := .type "tuple", data := Data.seq #[] }) ::
 (nat_lit 326, { cls := .type "code", data := Data.fields #[.str "_law_bad" 630, .str "_law_bad" 631, .str "/claim/cut.py" 632, .int 163 0, .int 5 0, .int 0 0, .int 0 0, .int 3 0, .ref 321, .bool true, .int 181 0, .ref 322, .none, .ref 323, .ref 324, .ref 325, .int 638 0, .int 163 0, .str "/claim/cut.py" 639] }) ::
 (nat_lit 327, ⟨.type "function", none, .func (PySem.W.fnOf "_law_bad" "_law_bad" (defArgs (top0 38)) (defBody (top0 38)) (defScope (top0 38)) .none .none .none (.str "law_sluice_k42_lets_refused" 529) none (.ref 326) .none), #[]⟩) ::
 (nat_lit 328, { cls := .type "tuple", data := Data.seq #[] }) ::
 (nat_lit 330, { cls := .type "tuple", data := Data.seq #[.str "e" 644, .str "others" 645] }) ::
 (nat_lit 331, { cls := .type "tuple", data := Data.seq #[] }) ::
 (nat_lit 333, { cls := .type "code", data := Data.fields #[.str "_law_refused" 641, .str "_law_refused" 642, .str "/claim/cut.py" 643, .int 169 0, .int 1 0, .int 0 0, .int 0 0, .int 3 0, .ref 328, .bool true, .int 181 0, .ref 329, .none, .ref 330, .ref 331, .ref 332, .int 646 0, .int 169 0, .str "/claim/cut.py" 647] }) ::
 (nat_lit 334, ⟨.type "function", none, .func (PySem.W.fnOf "_law_refused" "_law_refused" (defArgs (top0 39)) (defBody (top0 39)) (defScope (top0 39)) .none .none .none (.str "law_sluice_k42_lets_refused" 529) none (.ref 333) .none), #[]⟩) ::
 (nat_lit 335, { cls := .type "tuple", data := Data.seq #[] }) ::
 (nat_lit 338, { cls := .type "code", data := Data.fields #[.str "_law_asked" 649, .str "_law_asked" 650, .str "/claim/cut.py" 651, .int 177 0, .int 5 0, .int 0 0, .int 0 0, .int 3 0, .ref 335, .bool true, .int 181 0, .ref 336, .none, .none, .none, .ref 337, .int 652 0, .int 177 0, .str "/claim/cut.py" 653] }) ::
 (nat_lit 339, ⟨.type "function", none, .func (PySem.W.fnOf "_law_asked" "_law_asked" (defArgs (top0 40)) (defBody (top0 40)) (defScope (top0 40)) .none .none .none (.str "law_sluice_k42_lets_refused" 529) none (.ref 338) .none), #[]⟩) ::
 (nat_lit 340, { cls := .type "tuple", data := Data.seq #[] }) ::
 (nat_lit 343, { cls := .type "code", data := Data.fields #[.str "law" 655, .str "law" 656, .str "/claim/cut.py" 657, .int 189 0, .int 1 0, .int 0 0, .int 0 0, .int 3 0, .ref 340, .bool true, .int 181 0, .ref 341, .none, .none, .none, .ref 342, .int 658 0, .int 189 0, .str "/claim/cut.py" 659] }) ::
 (nat_lit 344, ⟨.type "function", none, .func (PySem.W.fnOf "law" "law" (defArgs (top0 41)) (defBody (top0 41)) (defScope (top0 41)) .none .none .none (.str "law_sluice_k42_lets_refused" 529) none (.ref 343) .none), #[]⟩) :: []
noncomputable def asK : List Addr := [2, 3, 15, 22, 23, 24, 25, 28, 35, 36, 37, 40, 47, 48, 49, 52, 59, 60, 61, 64, 71, 72, 73, 76, 83, 84, 85, 88, 95, 96, 97, 100, 107, 108, 109, 112, 119, 120, 121, 124, 131, 132, 133, 136, 143, 144, 145, 148, 155, 156, 157, 160, 167, 168, 169, 172, 179, 180, 181, 184, 191, 192, 193, 196, 203, 204, 205, 208, 215, 216, 217, 220, 222, 223, 225, 226, 227, 229, 230, 232, 233, 234, 236, 237, 239, 240, 241, 243, 244, 246, 247, 248, 250, 251, 253, 254, 255, 257, 258, 260, 261, 262, 264, 265, 267, 268, 269, 271, 272, 274, 275, 276, 279, 280, 281, 283, 284, 286, 287, 288, 290, 291, 293, 294, 295, 297, 298, 300, 301, 302, 304, 305, 307, 308, 309, 312, 313, 314, 316, 317, 319, 320, 321, 323, 324, 326, 327, 328, 330, 331, 333, 334, 335, 338, 339, 340, 343, 344]
theorem hkE : ∀ P, asK = (Kf P).map (·.1) := fun _ => by kernel_rfl
noncomputable def qv : Program := { PySem.Challenge.pw_sluice_k42_lets_refused with main := { PySem.Challenge.pw_sluice_k42_lets_refused.main with body := [top0 19, top0 20, top0 22, top0 24, top0 25, top0 26, top0 28, top0 29, top0 30, top0 31, top0 32, top0 33, top0 34, top0 35, top0 36, top0 37, top0 38, top0 39, top0 40, top0 41] } }
def looseK : List Str := ["SluiceError", "NoRiver", "NoReach", "NoLicence", "NoNumber", "NoHolder", "NotYours", "NotAlone", "TooMuch", "Full", "NoPaper", "NoCut", "NoPond", "NoDay", "Fixed", "Harms", "NoRow"]
theorem hl1 : ∀ w, (PySem.W.openEnds PySem.treeTable PySem.Challenge.rw_sluice_k42_lets_refused.row.toRowW.prog w 8626).map (fun s => (PyProof.Rows.seen (List.map (fun x => x.name) (PyProof.Rows.recsOf qv)) (PyProof.Rows.ownsOf qv) [] { s with gens := #[] })) = some (PyProof.Rows.expectedOf qv) := by
  intro w; kernel_rfl
theorem hl2 : ∀ w, (PySem.W.openEnds PySem.treeTable PySem.Challenge.rw_sluice_k42_lets_refused.row.toRowW.prog w 8626).map (fun s => ((s.heap.bltView), (PyProof.Rows.tabsOk qv s))) = some ((PySem.bltViewBooted), (true)) := by
  intro w; kernel_rfl
theorem hl3 : ∀ w, (PySem.W.openEnds PySem.treeTable PySem.Challenge.rw_sluice_k42_lets_refused.row.toRowW.prog w 8626).map (fun s => (s.heap.keysOk (PySem.W.looseW qv looseK) (List.map (fun x => x.name) (PyProof.Rows.recsOf qv)) (List.map (fun x => x.fst) (PyProof.Rows.litsOf qv)) (List.map (fun x => x.name) (PyProof.Rows.clssOf qv (PySem.W.looseW qv looseK))) && s.heap.accountedOkI (importedModules PySem.Challenge.rw_sluice_k42_lets_refused.row.toRowW.prog.main.body) && s.heap.isNs PySem.mainGlobals && s.heap.isNs PySem.builtinsNs && PyProof.Rows.tablesOk qv s.heap && (fun s => PySem.W.xlAt My.qv [] s && PySem.W.recOk (PySem.W.RowW.records PySem.Challenge.rw_sluice_k42_lets_refused.row.toRowW) s) s && (if true = Bool.true then s.gens.size == 0 else !PySem.leftWithCleanup s.gens))) = some (true) := by
  intro w; kernel_rfl
theorem hl4 : ∀ w, (PySem.W.openEnds PySem.treeTable PySem.Challenge.rw_sluice_k42_lets_refused.row.toRowW.prog w 8626).map (fun s => ((PySem.pinSeenD qv (PyProof.Rows.drecsOf qv) s), (PyProof.Rows.plainSeenE qv (PySem.W.looseW qv looseK) s), (PyProof.Rows.plainSeenD qv looseK s), (PySem.W.wideSeen qv s), (PySem.W.clsSeenW qv looseK s))) = some ((PySem.pinGoodD (PyProof.Rows.drecsOf qv)), (PyProof.Rows.plainGoodE qv (PySem.W.looseW qv looseK)), (PyProof.Rows.plainGoodD qv looseK), (PySem.W.wideGood qv), (PySem.W.clsGoodW qv looseK)) := by
  intro w; kernel_rfl
theorem hl5 : ∀ w, (PySem.W.openEnds PySem.treeTable PySem.Challenge.rw_sluice_k42_lets_refused.row.toRowW.prog w 8626).map (fun s => (PySem.W.Hook.obs (PySem.W.kHook My.Kf My.asK My.hkE)) s) = some ((PySem.W.Hook.val (PySem.W.kHook My.Kf My.asK My.hkE)) w) := by
  intro w; kernel_rfl
theorem nine_of {α X A1 A2 A3 A4 A5 A6 A7 A8 A9 : Type} {o : Option α} {f1 : α → A1} {f2 : α → A2} {f3 : α → A3} {f4 : α → A4} {f5 : α → A5} {f6 : α → A6} {f7 : α → A7} {f8 : α → A8} {f9 : α → A9} {g : α → X} {a1 : A1} {a2 : A2} {a3 : A3} {a4 : A4} {a5 : A5} {a6 : A6} {a7 : A7} {a8 : A8} {a9 : A9} {x : X} (h1 : o.map (fun s => f1 s) = some a1) (h2 : o.map (fun s => (f2 s, f4 s)) = some (a2, a4)) (h3 : o.map (fun s => f3 s) = some a3) (h4 : o.map (fun s => (f5 s, f6 s, f7 s, f8 s, f9 s)) = some (a5, a6, a7, a8, a9)) (h5 : o.map (fun s => g s) = some x) : o.map (fun s => ((f1 s, f2 s, f3 s, f4 s, f5 s, f6 s, f7 s, f8 s, f9 s), g s)) = some ((a1, a2, a3, a4, a5, a6, a7, a8, a9), x) := by
  cases o with
  | none => cases h1
  | some z =>
    rw [Option.map_some] at h1 h2 h3 h4 h5 ⊢
    have e1 := Option.some.inj h1
    have e2 := Option.some.inj h2
    have e3 := Option.some.inj h3
    have e4 := Option.some.inj h4
    have e5 := Option.some.inj h5
    simp only [Prod.mk.injEq] at e2 e4
    rw [e1, e2.1, e2.2, e3, e4.1, e4.2.1, e4.2.2.1, e4.2.2.2.1, e4.2.2.2.2, e5]
theorem hlE : PySem.W.LeftO PySem.Challenge.rw_sluice_k42_lets_refused.row.toRowW.prog qv My.looseK (fun s => PySem.W.xlAt My.qv [] s && PySem.W.recOk (PySem.W.RowW.records PySem.Challenge.rw_sluice_k42_lets_refused.row.toRowW) s) (PySem.W.Hook.obs (PySem.W.kHook My.Kf My.asK My.hkE)) (PySem.W.Hook.val (PySem.W.kHook My.Kf My.asK My.hkE)) 8626 := fun w => nine_of (hl1 w) (hl2 w) (hl3 w) (hl4 w) (hl5 w)
end My
namespace L2
open PySem PySem.Spec PyProof.Rows
abbrev Key := Sum Int Str
def keyIs : Key → Value → Bool
  | .inl k, v => Value.isInt k v
  | .inr x, v => Value.isStrOf x v
def keyH (w : World) : Key → Int
  | .inl k => hashInt k
  | .inr x => hashStr w x
theorem keyIs_shape : ∀ {k : Key} {v : Value}, keyIs k v = true → (∃ i t, k = Sum.inl i ∧ v = Value.int i t) ∨ (∃ x t, k = Sum.inr x ∧ v = Value.str x t)
  | .inl i, v, h => by
    obtain ⟨t, e⟩ := Value.isInt_shape (k := i) (v := v) h
    exact .inl ⟨i, t, rfl, e⟩
  | .inr x, v, h => by
    obtain ⟨t, e⟩ := Value.isStrOf_shape (x := x) (v := v) h
    exact .inr ⟨x, t, rfl, e⟩
theorem key_ll (a b : Int) : decide ((Sum.inl a : Key) = Sum.inl b) = (a == b) := by
  by_cases e : a = b
  · subst e; simp
  · have h : ¬ (Sum.inl a : Key) = Sum.inl b := fun q => e (Sum.inl.inj q)
    rw [decide_eq_false h]
    exact (beq_eq_false_iff_ne.mpr e).symm
theorem key_rr (a b : Str) : decide ((Sum.inr a : Key) = Sum.inr b) = decide (a = b) := by
  by_cases e : a = b
  · subst e; simp
  · have h : ¬ (Sum.inr a : Key) = Sum.inr b := fun q => e (Sum.inr.inj q)
    rw [decide_eq_false h, decide_eq_false e]
theorem key_lr (a : Int) (b : Str) : decide ((Sum.inl a : Key) = Sum.inr b) = false := decide_eq_false (fun q => nomatch q)
theorem key_rl (a : Str) (b : Int) : decide ((Sum.inr a : Key) = Sum.inl b) = false := decide_eq_false (fun q => nomatch q)
def mixKind (prog : Program) (w : World) : PySem.KeyKind prog w Key where
  is := keyIs
  hash := keyH w
  inj := fun v a b ha hb => by
    rcases keyIs_shape ha with ⟨i, t, rfl, rfl⟩ | ⟨x, t, rfl, rfl⟩
    · rcases keyIs_shape hb with ⟨j, u, rfl, e⟩ | ⟨y, u, rfl, e⟩
      · injection e with e1 _; rw [e1]
      · exact nomatch e
    · rcases keyIs_shape hb with ⟨j, u, rfl, e⟩ | ⟨y, u, rfl, e⟩
      · exact nomatch e
      · injection e with e1 _; rw [e1]
  byValue := fun k v h => by
    rcases keyIs_shape h with ⟨i, t, rfl, rfl⟩ | ⟨x, t, rfl, rfl⟩ <;> rfl
  pyHash := fun hv h => by
    rcases keyIs_shape hv with ⟨i, t, rfl, rfl⟩ | ⟨x, t, rfl, rfl⟩
    · exact wpAny_pyHash_int h
    · exact wpAny_pyHash_str h
  eqBool := fun hu hv h => by
    rcases keyIs_shape hu with ⟨i, t, rfl, rfl⟩ | ⟨x, t, rfl, rfl⟩
    · rcases keyIs_shape hv with ⟨j, u, rfl, rfl⟩ | ⟨y, u, rfl, rfl⟩
      · rw [key_ll] at h; exact wpAny_eqBool_int h
      · rw [key_lr] at h; exact SeqAt.EqAt.int_str i t y u _ _ _ _ h
    · rcases keyIs_shape hv with ⟨j, u, rfl, rfl⟩ | ⟨y, u, rfl, rfl⟩
      · rw [key_rl] at h; exact SeqAt.EqAt.str_int x t j u _ _ _ _ h
      · rw [key_rr] at h; exact wpAny_eqBool_str h
  «strs» := fun k x t v h => by
    rcases keyIs_shape h with ⟨i, u, rfl, e⟩ | ⟨y, u, rfl, e⟩
    · exact nomatch e
    · injection e with e1 _
      subst e1
      cases v <;> rfl
end L2
namespace L2
open PySem PySem.Spec PyProof.Rows
inductive V where
  | non | bl (b : Bool) | int (i : Int) | str (x : Str) | byt (b : Array UInt8) | flt (b : UInt64) | ref (a : Addr) | ty (n : String)
  deriving DecidableEq
def RelV : V → Value → Prop
  | .non, u => u = Value.none
  | .bl b, u => u = Value.bool b
  | .int i, u => ∃ t, u = Value.int i t
  | .str x, u => ∃ t, u = Value.str x t
  | .byt b, u => ∃ t, u = Value.bytes b t
  | .flt b, u => ∃ t, u = Value.float b t
  | .ref a, u => u = Value.ref a
  | .ty n, u => u = Value.type n
abbrev Vals : List V → List Value → Prop := Paired RelV
theorem Vals.length {xs : List V} {us : List Value} (r : Vals xs us) : xs.length = us.length := Paired.length r
theorem Vals.get : ∀ {xs : List V} {us : List Value} {i : Nat} {x : V}, Vals xs us → xs[i]? = some x → ∃ u, us[i]? = some u ∧ RelV x u
  | _, _, _, _, .nil, e => by simp at e
  | _, _, 0, _, .cons r _, e => by simp at e; subst e; exact ⟨_, rfl, r⟩
  | _, _, i + 1, x, .cons _ t, e => by
    obtain ⟨u, h1, h2⟩ := Vals.get (i := i) (x := x) t (by simpa using e)
    exact ⟨u, by simpa using h1, h2⟩
theorem Vals.set {x : V} {u : Value} (r : RelV x u) : ∀ {xs : List V} {us : List Value} (i : Nat), Vals xs us → Vals (xs.set i x) (us.set i u)
  | _, _, _, .nil => .nil
  | _, _, 0, .cons _ t => .cons r t
  | _, _, i + 1, .cons q t => .cons q (Vals.set r i t)
theorem Vals.append : ∀ {xs ys : List V} {us ws : List Value}, Vals xs us → Vals ys ws → Vals (xs ++ ys) (us ++ ws)
  | _, _, _, _, .nil, s => s
  | _, _, _, _, .cons r t, s => .cons r (Vals.append t s)
theorem Vals.take : ∀ {xs : List V} {us : List Value} (n : Nat), Vals xs us → Vals (xs.take n) (us.take n)
  | _, _, 0, _ => .nil
  | _, _, _ + 1, .nil => .nil
  | _, _, n + 1, .cons r t => .cons r (Vals.take n t)
theorem Vals.drop : ∀ {xs : List V} {us : List Value} (n : Nat), Vals xs us → Vals (xs.drop n) (us.drop n)
  | _, _, 0, r => r
  | _, _, _ + 1, .nil => .nil
  | _, _, n + 1, .cons _ t => Vals.drop n t
def RelO : Option V → Option Value → Prop
  | some v, some u => RelV v u
  | none, none => True
  | _, _ => False
def KV {κ : Type} : List (κ × V) → List (κ × Value) → Prop := Paired fun (p : κ × V) (q : κ × Value) => p.1 = q.1 ∧ RelV p.2 q.2
def kV : Key → V
  | .inl i => .int i
  | .inr x => .str x
inductive HO where
  /-- a list -/
  | lst (xs : List V)
  /-- a tuple (never changes) -/
  | tup (xs : List V)
  /-- a dict whose keys are ints and texts; one whose keys are tuples of ints and texts (the empty one is both) -/
  | dK (kvs : List (Key × V)) | dT (kvs : List (List Key × V))
  /-- a set of ints: its members, its size -/
  | set (S : Int → Bool) (n : Nat)
  /-- an instance of the class at C, its dict at dx, its attributes -/
  | ins (C dx : Addr) (fs : List (Str × V))
  /-- the dict of the instance at x -/
  | own (x : Addr)
  /-- the dict of an exception -/
  | xd (fs : List (Str × V))
  /-- a bound method, f of x -/
  | met (f x : Addr)
  /-- a range object lo, lo + 1, .. below hi -/
  | rng (lo hi : Int)
  /-- a thing that is known to the object (the script; a dict while a loop walks it): read, never written while it is so -/
  | frz (o : Obj) (u : HO)
  /-- a code object's table -/
  | tbl (ps : Array Value)
  /-- any other thing, by what is true of its one object (a def of one's own: SetO a S n := HO.ext fun h => ..) -/
  | ext (φ : Heap → Prop)
abbrev Hp := Addr → Option HO
def upd (H : Hp) (a : Addr) (o : HO) : Hp := fun b => if b = a then some o else H b
theorem upd_same {H : Hp} {a : Addr} {o : HO} : upd H a o a = some o := by unfold upd; rw [if_pos rfl]
theorem upd_ne {H : Hp} {a b : Addr} {o : HO} (h : b ≠ a) : upd H a o b = H b := by unfold upd; rw [if_neg h]
theorem ne_of_none {H : Hp} {a b : Addr} {o : HO} (h : H a = some o) (h' : H b = none) : a ≠ b := by
  intro e; subst e; rw [h] at h'; cases h'
section
variable (P : Program) (w : World)
def ObjOk (H : Hp) (h : Heap) (a : Addr) : HO → Prop
  | .lst xs => xs.length ≤ sizeLine ∧ ∃ (its : List Value) (n : Nat), Vals xs its ∧ h.get? a = some { cls := .type "list", data := .seq its.toArray n }
  | .tup xs => xs.length ≤ sizeLine ∧ ∃ its : List Value, Vals xs its ∧ IsTup h a its.toArray
  | .dK kvs => kvs.length ≤ sizeLine ∧ (a == sysModules) = false ∧ ∃ vs, KV kvs vs ∧ h.DictOf (mixKind P w) a vs
  | .dT kvs => kvs.length ≤ sizeLine ∧ (a == sysModules) = false ∧ ∃ xs : List (List Key × Addr × Value),
      Paired (fun (p : List Key × V) (q : List Key × Addr × Value) => p.1 = q.1 ∧ H q.2.1 = some (.tup (p.1.map kV)) ∧ RelV p.2 q.2.2) kvs xs ∧
      ∃ o es ep, h.get? a = some o ∧ o.ExactDict ∧ o.data = .dict es ep ∧ es.toList = xs.map (entryOfKey (tupleKind (mixKind P w))) ∧ (xs.map (·.1)).Nodup
  | .set S n => h.SetOf (intKind P w) a S n
  | .ins C dx fs => H dx = some (.own a) ∧ fs.length ≤ 1000 ∧ dx ≠ a ∧ h.get? a = some (PySem.W.instObj C dx) ∧
      ∃ mA, h.Ns1 dx mA ∧ (∀ f, RelO (fs.lookup f) (mA f)) ∧ PySem.Within mA (fs.map (·.1))
  | .own _ => ∃ o, h.get? a = some o
  | .xd fs => ∃ mA, h.Ns1 a mA ∧ ∀ f, RelO (fs.lookup f) (mA f)
  | .rng lo hi => ∃ t u v, h.get? a = some { cls := .type "range", data := .fields #[.int lo t, .int hi u, .int 1 v] }
  | .frz o u => h.get? a = some o ∧ ObjOk H h a u
  | .tbl ps => h.get? a = some { cls := .none, data := .fields ps }
  | .met f x => h.get? a = some (PySem.W.methodObj (.ref f) (.ref x))
  | .ext φ => φ h ∧ (∃ o, h.get? a = some o) ∧ ∀ h1 h2 : Heap, φ h1 → (∀ o, h1.get? a = some o → h2.get? a = some o) → φ h2
def HOk (H : Hp) (h : Heap) : Prop := ∀ a o, H a = some o → ObjOk P w H h a o
end
section
variable {P : Program} {w : World} {H H' : Hp} {h h' : Heap} {a : Addr} {o : HO}
theorem ObjOk.lt (x : ObjOk P w H h a o) : a < h.objs.size := by
  cases o with
  | lst xs => obtain ⟨_, _, _, _, e⟩ := x; exact Heap.lt_size e
  | tup xs => obtain ⟨_, _, _, p⟩ := x; exact p.lt
  | dK kvs => obtain ⟨_, _, _, _, o, _, _, e, _⟩ := x; exact Heap.lt_size e
  | dT kvs => obtain ⟨_, _, _, _, o, _, _, e, _⟩ := x; exact Heap.lt_size e
  | set S n => obtain ⟨o, _, _, _, e, _⟩ := x; exact Heap.lt_size e
  | ins C dx fs => obtain ⟨_, _, _, e, _⟩ := x; exact Heap.lt_size e
  | own y => obtain ⟨_, e⟩ := x; exact Heap.lt_size e
  | xd fs => obtain ⟨_, ⟨_, _, _, e, _⟩, _⟩ := x; exact Heap.lt_size e
  | rng lo hi => obtain ⟨_, _, _, e⟩ := x; exact Heap.lt_size e
  | frz ob u => obtain ⟨e, _⟩ := x; exact Heap.lt_size e
  | tbl ps => exact Heap.lt_size (show h.get? a = some _ from x)
  | met f y => exact Heap.lt_size (show h.get? a = some _ from x)
  | ext φ => obtain ⟨_, ⟨_, e⟩, _⟩ := x; exact Heap.lt_size e
theorem Paired.mapP {α β : Type} {F G : α → β → Prop} : ∀ {l₁ : List α} {l₂ : List β}, Paired F l₁ l₂ → (∀ a b, F a b → G a b) → Paired G l₁ l₂
  | _, _, .nil, _ => .nil
  | _, _, .cons r t, f => .cons (f _ _ r) (Paired.mapP t f)
theorem ObjOk.stay (x : ObjOk P w H h a o) (k : ∀ b u, (b = a ∨ H b = some (.own a)) → h.get? b = some u → h'.get? b = some u)
    (ho : ∀ b, H b = some (.own a) → H' b = some (.own a)) (ht : ∀ b xs, H b = some (.tup xs) → H' b = some (.tup xs)) : ObjOk P w H' h' a o := by
  induction o with
  | lst xs => obtain ⟨z, its, n, r, e⟩ := x; exact ⟨z, its, n, r, k _ _ (.inl rfl) e⟩
  | tup xs => obtain ⟨z, its, r, ob, e, c⟩ := x; exact ⟨z, its, r, ob, k _ _ (.inl rfl) e, c⟩
  | dK kvs => obtain ⟨z, y, vs, r, ob, es, ep, e, c⟩ := x; exact ⟨z, y, vs, r, ob, es, ep, k _ _ (.inl rfl) e, c⟩
  | dT kvs =>
    obtain ⟨z, y, xs, r, ob, es, ep, e, c⟩ := x
    exact ⟨z, y, xs, Paired.mapP r fun p q z => ⟨z.1, ht _ _ z.2.1, z.2.2⟩, ob, es, ep, k _ _ (.inl rfl) e, c⟩
  | set S n => obtain ⟨ob, es, ep, t, e, c⟩ := x; exact ⟨ob, es, ep, t, k _ _ (.inl rfl) e, c⟩
  | ins C dx fs =>
    obtain ⟨d, z, ne, e, mA, ⟨od, es, ep, e2, c⟩, r⟩ := x
    exact ⟨ho _ d, z, ne, k _ _ (.inl rfl) e, mA, ⟨od, es, ep, k _ _ (.inr d) e2, c⟩, r⟩
  | own y => obtain ⟨ob, e⟩ := x; exact ⟨ob, k _ _ (.inl rfl) e⟩
  | xd fs => obtain ⟨mA, ⟨od, es, ep, e, c⟩, r⟩ := x; exact ⟨mA, ⟨od, es, ep, k _ _ (.inl rfl) e, c⟩, r⟩
  | rng lo hi => obtain ⟨t, u, v, e⟩ := x; exact ⟨t, u, v, k _ _ (.inl rfl) e⟩
  | frz ob u ih => obtain ⟨e, q⟩ := x; exact ⟨k _ _ (.inl rfl) e, ih q⟩
  | tbl ps =>
    have e : h.get? a = some { cls := .none, data := .fields ps } := x
    show h'.get? a = some { cls := .none, data := .fields ps }
    exact k a _ (.inl rfl) e
  | met f y =>
    have e : h.get? a = some (PySem.W.methodObj (.ref f) (.ref y)) := x
    show h'.get? a = some (PySem.W.methodObj (.ref f) (.ref y))
    exact k a _ (.inl rfl) e
  | ext φ => obtain ⟨p, ⟨o, e⟩, st⟩ := x; exact ⟨st _ _ p fun o q => k _ _ (.inl rfl) q, ⟨o, k _ _ (.inl rfl) e⟩, st⟩
theorem HOk.lt (x : HOk P w H h) (e : H a = some o) : a < h.objs.size := (x a o e).lt
theorem HOk.fresh (x : HOk P w H h) (e : h.objs.size ≤ a) : H a = none := by
  cases q : H a with
  | none => rfl
  | some u => exact absurd (Nat.lt_of_lt_of_le (x.lt q) e) (Nat.lt_irrefl _)
theorem HOk.kept (x : HOk P w H h) (k : ∀ b u, h.get? b = some u → h'.get? b = some u) : HOk P w H h' := fun a o e =>
  (x a o e).stay (fun b u _ q => k b u q) (fun _ q => q) fun _ _ q => q
theorem HOk.laid (x : HOk P w H h) (k : ∀ b u, h.get? b = some u → h'.get? b = some u) (hp : h.objs.size ≤ a) (new : ObjOk P w (upd H a o) h' a o) : HOk P w (upd H a o) h' := fun b u e => by
  have hn := x.fresh hp
  by_cases hb : b = a
  · subst hb; rw [upd_same] at e; cases e; exact new
  · rw [upd_ne hb] at e
    exact (x b u e).stay (fun c v _ q => k c v q) (fun c q => by rw [upd_ne (ne_of_none q hn)]; exact q) fun c xs q => by rw [upd_ne (ne_of_none q hn)]; exact q
end
def Rd (H : Hp) (a : Addr) (u : HO) : Prop := H a = some u ∨ ∃ o, H a = some (.frz o u)
theorem Rd.ok {P : Program} {w : World} {H : Hp} {h : Heap} {a : Addr} {u : HO} (r : Rd H a u) (x : HOk P w H h) : ObjOk P w H h a u := by
  rcases r with r | ⟨o, r⟩
  · exact x a u r
  · obtain ⟨_, q⟩ := x a _ r
    exact q
def Mut : Option HO → Prop
  | some (.lst _) => True
  | some (.dK _) => True
  | some (.dT _) => True
  | some (.set _ _) => True
  | some (.ins _ _ _) => True
  | some (.ext _) => True
  | _ => False
section
variable {P : Program} {w : World} {H : Hp} {h h' : Heap} {x e : Addr} {o' : HO}
theorem HOk.write (ok : HOk P w H h) (mu : Mut (H x)) (he : e = x ∨ H e = some (.own x)) (k : ∀ b u, b ≠ e → h.get? b = some u → h'.get? b = some u) (heo : ∃ u, h'.get? e = some u)
    (new : ObjOk P w (upd H x o') h' x o') : HOk P w (upd H x o') h' := fun b u q => by
  have nown : ∀ c y, H c = some (.own y) → c ≠ x := fun c y r z => by subst z; rw [r] at mu; exact mu
  have ntup : ∀ c xs, H c = some (.tup xs) → c ≠ x := fun c xs r z => by subst z; rw [r] at mu; exact mu
  by_cases hb : b = x
  · subst hb; rw [upd_same] at q; cases q; exact new
  · rw [upd_ne hb] at q
    by_cases hbe : b = e
    · have q' : H b = some (.own x) := by
        rcases he with z | z
        · exact absurd (hbe.trans z) hb
        · rw [hbe]; exact z
      rw [q] at q'; cases q'
      obtain ⟨v, hv⟩ := heo
      exact ⟨v, by rw [hbe]; exact hv⟩
    · refine (ok b u q).stay (fun c v hc r => k c v ?_ r) (fun c r => by rw [upd_ne (nown c b r)]; exact r) fun c xs r => by rw [upd_ne (ntup c xs r)]; exact r
      rcases hc with rfl | hc
      · exact hbe
      · rintro rfl
        rcases he with z | z
        · exact nown c b hc z
        · rw [hc] at z; cases z; exact hb rfl
end
structure Un (fs ex : List Addr) (H H' : Hp) (h h' : Heap) : Prop where
  keep : ∀ b o, h.get? b = some o → H b = none → b ∉ fs → b ∉ ex → h'.get? b = some o
  slot : ∀ b o, h.get? b = some o → H b = none → b ∈ fs → b ∉ ex → ∃ sl, h'.get? b = some { o with slots := sl }
  free : ∀ b o, h.get? b = some o → H b = none → b ∉ ex → H' b = none
  there : ∀ b o, h.get? b = some o → b ∉ ex → ∃ o', h'.get? b = some o'
  tups : ∀ b xs, H b = some (.tup xs) → H' b = some (.tup xs)
  frzs : ∀ b o u, H b = some (.frz o u) → H' b = some (.frz o u)
  tbls : ∀ b ps, H b = some (.tbl ps) → ∃ more, H' b = some (.tbl (ps ++ more))
section
variable {fs fs' ex ex' : List Addr} {H H1 H2 : Hp} {h h1 h2 h' : Heap} {a x e : Addr} {o : HO}
theorem Un.any (u : Un fs ex H H1 h h1) {b : Addr} {ob : Obj} (q : h.get? b = some ob) (n : H b = none) (hx : b ∉ ex) : ∃ sl, h1.get? b = some { ob with slots := sl } := by
  by_cases hb : b ∈ fs
  · exact u.slot b ob q n hb hx
  · exact ⟨ob.slots, u.keep b ob q n hb hx⟩
theorem Un.kept (k : ∀ b u, h.get? b = some u → h'.get? b = some u) : Un fs ex H H h h' :=
  ⟨fun b ob q _ _ _ => k b ob q, fun b ob q _ _ _ => ⟨ob.slots, k b ob q⟩, fun _ _ _ n _ => n, fun b ob q _ => ⟨ob, k b ob q⟩, fun _ _ q => q, fun _ _ _ q => q, fun _ ps q => ⟨#[], by rw [q]; simp⟩⟩
theorem Un.refl : Un fs ex H H h h := Un.kept fun _ _ q => q
theorem Un.laid (k : ∀ b u, h.get? b = some u → h'.get? b = some u) (hp : h.objs.size ≤ a) (hn : H a = none) : Un fs ex H (upd H a o) h h' where
  keep := fun b u q _ _ _ => k b u q
  slot := fun b u q _ _ _ => ⟨u.slots, k b u q⟩
  free := fun b u q n _ => by rw [upd_ne (Nat.ne_of_lt (Nat.lt_of_lt_of_le (Heap.lt_size q) hp))]; exact n
  there := fun b u q _ => ⟨u, k b u q⟩
  tups := fun b xs q => by rw [upd_ne (ne_of_none q hn)]; exact q
  frzs := fun b u xs q => by rw [upd_ne (ne_of_none q hn)]; exact q
  tbls := fun b ps q => ⟨#[], by rw [upd_ne (ne_of_none q hn), q]; simp⟩
theorem Un.write (mu : Mut (H x)) (he : e = x ∨ H e = some (.own x)) (k : ∀ b u, b ≠ e → h.get? b = some u → h'.get? b = some u) (heo : ∃ u, h'.get? e = some u) : Un fs ex H (upd H x o) h h' := by
  have hx : ∀ b, H b = none → b ≠ x := fun b n z => by subst z; rw [n] at mu; exact mu
  have hb : ∀ b, H b = none → b ≠ e := fun b n z => by
    subst z
    rcases he with r | r
    · exact hx b n r
    · rw [n] at r; cases r
  have hm : ∀ b u, H b = some u → ¬ Mut (some u) → b ≠ x := fun b u q nm z => by subst z; rw [q] at mu; exact nm mu
  refine ⟨fun b u q n _ _ => k b u (hb b n) q, fun b u q n _ _ => ⟨u.slots, k b u (hb b n) q⟩, fun b u q n _ => by rw [upd_ne (hx b n)]; exact n, fun b u q _ => ?_,
    fun b xs q => by rw [upd_ne (hm b _ q fun z => z)]; exact q, fun b u xs q => by rw [upd_ne (hm b _ q fun z => z)]; exact q, fun b ps q => ⟨#[], by rw [upd_ne (hm b _ q fun z => z), q]; simp⟩⟩
  by_cases hbe : b = e
  · subst hbe; exact heo
  · exact ⟨u, k b u hbe q⟩
end
def trk (h : Heap) (H : Hp) : List Addr := (List.range h.objs.size).filter fun a => (H a).isSome
def hidT (h : Heap) (H : Hp) : Heap := PySem.W.hideAll h (trk h H)
theorem hidT_size (h : Heap) (H : Hp) : (hidT h H).objs.size = h.objs.size := PySem.W.hideAll_size _ _
theorem hidT_get {h : Heap} {H : Hp} {b : Addr} {o : Obj} (e : h.get? b = some o) (n : H b = none) : (hidT h H).get? b = some o :=
  PySem.W.hideAll_get _ e fun hm => by
    have q : (H b).isSome = true := (List.mem_filter.mp hm).2
    rw [n] at q; simp at q
theorem of_hidT {h : Heap} {H : Hp} {b : Addr} {o : Obj} (e : (hidT h H).get? b = some o) : h.get? b = some o ∧ H b = none := by
  have e' : h.get? b = some o := PySem.W.of_hideAll (trk h H) e
  refine ⟨e', ?_⟩
  cases q : H b with
  | none => rfl
  | some x =>
    have hm : b ∈ trk h H := List.mem_filter.mpr ⟨List.mem_range.mpr (Heap.lt_size e'), by simp [q]⟩
    have z : (hidT h H).get? b = none := PySem.W.hideAll_none (trk h H) hm
    rw [z] at e; cases e
end L2
namespace L2
open PySem PySem.Spec PyProof.Rows
structure Mod (K : PySem.W.Frag) (mg : Str → Option Value) (base : Heap) : Prop where
  kin : K.In base
  glob : base.Ns mainGlobals mg
  blt : ∃ mb, base.Ns builtinsNs mb ∧ ∀ x : Str, x ≠ "__name__" → mb x = bootBuiltins x
  nolimit : base.NoLimit
structure Cx where
  prog : Program
  w : World
  K : PySem.W.Frag
  mg : Str → Option Value
  base : Heap
  A : Around
  N : List Str
  s₀ : Shared
  H₀ : Hp
  env : Env
  outer : List Env
  stack : List Env
  ex : List Addr
  fn : Str → Bool
  calm : Bool
  pn : List (Addr × Obj)
  xe : Value → Shared → Prop
def frs (l : List Env) : List Addr := l.filterMap (·.frame)
abbrev Cx.fs (X : Cx) : List Addr := frs X.outer
def Vis (sc : Scope) (x : Str) : Prop := sc.names.lookup x = some .local ∨ sc.names.lookup x = some .cell ∨ sc.names.lookup x = some .free
def Loc (sc : Scope) (x : Str) : Prop := sc.names.lookup x = some .local ∨ sc.names.lookup x = some .cell
def Look (env : Env) (h : Heap) (m : Str → Option Value) (x : Str) (u : Value) : Prop :=
  (env.kindOf x = some .local ∧ m x = some u) ∨ ((env.kindOf x = some .cell ∨ env.kindOf x = some .free) ∧ ∃ c, env.cells.lookup x = some c ∧ h.IsCell c (some u))
structure Cx.Ok (X : Cx) : Prop where
  mod : Mod X.K X.mg X.base
  kind : X.env.scope.kind = .function
  glob : X.env.globals = mainGlobals
  blt : X.env.builtins = builtinsNs
  above : X.s₀.heap.objs.size ≤ X.env.locals
  inj : ∀ x y c, X.env.cells.lookup x = some c → X.env.cells.lookup y = some c → x = y
  has : ∀ x, (X.env.kindOf x = some .cell ∨ X.env.kindOf x = some .free) → ∃ c, X.env.cells.lookup x = some c
  cab : ∀ x c, X.fn x = true → X.env.cells.lookup x = some c → X.s₀.heap.objs.size ≤ c
  hd : X.calm = true → X.A.handled = none
  frames : X.A.frames = some X.stack
  stk : X.stack = X.outer ∨ (X.stack = X.env :: X.outer ∧ X.env.frame = some X.env.locals)
  exf : ∀ b ∈ X.ex, b ≠ X.env.locals ∧ ∀ x c, X.env.cells.lookup x = some c → c ≠ b
  bs : ∀ b o, X.base.get? b = some o → X.s₀.heap.get? b = some o ∧ X.H₀ b = none
  bsz : X.base.objs.size ≤ X.s₀.heap.objs.size
  noex : ∀ b o, X.base.get? b = some o → b ∉ X.ex
  exfs : ∀ b ∈ X.ex, b ∉ X.fs
  funs : X.s₀.heap.FunFrames X.base X.outer
  frf : ∀ b ∈ X.fs, X.H₀ b = none
structure Inv (X : Cx) (pins : List (Addr × Obj)) (σ : List (Option V)) (H : Hp) (s : Shared) : Prop where
  ok : X.Ok
  os : s.os = X.s₀.os
  bare : AllBare s.gens
  base : Un X.fs X.ex X.H₀ H X.s₀.heap s.heap
  loc : ∃ m, s.heap.Ns X.env.locals m ∧ ∀ (i : Nat) (x : Str) (v : V), X.N[i]? = some x → σ[i]? = some (some v) → Vis X.env.scope x → ∃ u, RelV v u ∧ Look X.env s.heap m x u
  cell : ∀ x c, X.env.cells.lookup x = some c → ∃ v, s.heap.IsCell c v
  free : H X.env.locals = none
  freeC : ∀ x c, X.env.cells.lookup x = some c → H c = none
  pin : ∀ p ∈ X.pn ++ pins, s.heap.get? p.1 = some p.2 ∧ H p.1 = none ∧ p.1 ≠ X.env.locals ∧ p.1 ∉ X.fs ∧ ∀ v, p.2.data ≠ .cell v
  hok : HOk X.prog X.w H s.heap
  len : σ.length = X.N.length
section
variable {X : Cx} {pins : List (Addr × Obj)} {σ : List (Option V)} {H H' : Hp} {s : Shared} {h' : Heap}
theorem Cx.Ok.nofr (ok : X.Ok) {b : Addr} {o : Obj} (e : X.base.get? b = some o) : b ∉ X.fs := fun hb => by
  have := (ok.funs.mem hb).1
  rw [e] at this; cases this
theorem Inv.bs (I : Inv X pins σ H s) : ∀ b o, X.base.get? b = some o → s.heap.get? b = some o ∧ H b = none := fun b o e =>
  ⟨I.base.keep b o (I.ok.bs b o e).1 (I.ok.bs b o e).2 (I.ok.nofr e) (I.ok.noex b o e), I.base.free b o (I.ok.bs b o e).1 (I.ok.bs b o e).2 (I.ok.noex b o e)⟩
theorem Inv.bk (I : Inv X pins σ H s) : ∀ b o, X.base.get? b = some o → s.heap.get? b = some o := fun b o e => (I.bs b o e).1
theorem Inv.mod (I : Inv X pins σ H s) : Mod X.K X.mg X.base := I.ok.mod
theorem Inv.kIn (I : Inv X pins σ H s) : X.K.In s.heap := I.ok.mod.kin.keeps I.bk
theorem Inv.lt (I : Inv X pins σ H s) : X.env.locals < s.heap.objs.size := let ⟨_, hn, _⟩ := I.loc; hn.lt
theorem Inv.sz (I : Inv X pins σ H s) : X.s₀.heap.objs.size ≤ s.heap.objs.size := Nat.le_trans I.ok.above (Nat.le_of_lt I.lt)
theorem Inv.nofs (I : Inv X pins σ H s) {a : Addr} (h : s.heap.objs.size ≤ a) : a ∉ X.fs := fun hb => by
  obtain ⟨_, o, ho, _⟩ := I.ok.funs.mem hb
  exact absurd (Nat.lt_of_lt_of_le (Heap.lt_size ho) (Nat.le_trans I.sz h)) (Nat.lt_irrefl _)
theorem Inv.cne (I : Inv X pins σ H s) : ∀ x c, X.env.cells.lookup x = some c → c ≠ X.env.locals := fun x c e z => by
  obtain ⟨v, o, ho, hd⟩ := I.cell x c e
  obtain ⟨m, ⟨o', es, ep, ho', hd', _⟩, _⟩ := I.loc
  rw [z, ho'] at ho; cases ho; rw [hd'] at hd; cases hd
theorem Inv.funs (I : Inv X pins σ H s) : s.heap.FunFrames X.base X.outer := by
  have all : ∀ (l : List Env), (∀ b ∈ frs l, b ∈ X.fs) → X.s₀.heap.FunFrames X.base l → s.heap.FunFrames X.base l := by
    intro l
    induction l with
    | nil => intro _ _; trivial
    | cons env r ih =>
      intro hs hl
      obtain ⟨hk, ⟨L, o, hf, hn, ho, hd⟩, hr⟩ := hl
      have hL : L ∈ X.fs := hs L (by unfold frs; rw [List.filterMap_cons, hf]; exact List.mem_cons_self)
      obtain ⟨sl, e⟩ := I.base.slot L o ho (I.ok.frf L hL) hL fun z => I.ok.exfs L z hL
      exact ⟨hk, ⟨L, _, hf, hn, e, hd⟩, ih (fun b hb => hs b (by unfold frs; rw [List.filterMap_cons, hf]; exact List.mem_cons_of_mem _ hb)) hr⟩
  exact all X.outer (fun _ hb => hb) I.ok.funs
theorem Inv.stack (I : Inv X pins σ H s) : s.heap.FunFrames X.base X.stack := by
  rcases I.ok.stk with e | ⟨e, hf⟩
  · rw [e]; exact I.funs
  · rw [e]
    obtain ⟨m, hn, _⟩ := I.loc
    refine .cons (by rw [I.ok.kind]; decide) hf hn ?_ I.funs
    exact Heap.get?_none_of_le (Nat.le_trans I.ok.bsz I.ok.above)
theorem Inv.stkSub (I : Inv X pins σ H s) : ∀ b ∈ frs X.stack, b ∈ X.env.locals :: X.fs := fun b hb => by
  rcases I.ok.stk with e | ⟨e, hf⟩
  · rw [e] at hb; exact List.mem_cons_of_mem _ hb
  · rw [e] at hb
    unfold frs at hb
    rw [List.filterMap_cons, hf] at hb
    exact hb
theorem Inv.stkFree (I : Inv X pins σ H s) : ∀ b ∈ frs X.stack, H b = none := fun b hb => by
  rcases List.mem_cons.mp (I.stkSub b hb) with e | hb
  · rw [e]; exact I.free
  · obtain ⟨_, o, ho, _⟩ := I.ok.funs.mem hb
    exact I.base.free b o ho (I.ok.frf b hb) fun z => I.ok.exfs b z hb
theorem Inv.step {g' : Array GenState} {t' : Nat} {d' : Drawn} {ch : List Addr} (I : Inv X pins σ H s)
    (hch : ∀ b ∈ ch, (b ∈ X.ex ∨ X.s₀.heap.objs.size ≤ b) ∧ b ≠ X.env.locals ∧ (∀ x c, X.env.cells.lookup x = some c → c ≠ b) ∧ ∀ p ∈ X.pn ++ pins, p.1 ≠ b)
    (keep : ∀ b o, b ≠ X.env.locals → b ∉ X.fs → b ∉ ch → s.heap.get? b = some o → H b = none → h'.get? b = some o)
    (slot : ∀ b o, b ≠ X.env.locals → b ∈ X.fs → b ∉ ch → s.heap.get? b = some o → H b = none → ∃ sl, h'.get? b = some { o with slots := sl }) (free : ∀ b o, b ∉ ch → s.heap.get? b = some o → H b = none → H' b = none)
    (there : ∀ b o, b ∉ ch → s.heap.get? b = some o → ∃ o', h'.get? b = some o')
    (tups : ∀ b xs, H b = some (.tup xs) → H' b = some (.tup xs)) (frzs : ∀ b o u, H b = some (.frz o u) → H' b = some (.frz o u)) (tbls : ∀ b ps, H b = some (.tbl ps) → ∃ more, H' b = some (.tbl (ps ++ more)))
    (ns : ∀ m, s.heap.Ns X.env.locals m → h'.Ns X.env.locals m) (hok : HOk X.prog X.w H' h') (hg : AllBare g') :
    Inv X pins σ H' { s with heap := h', gens := g', drawn := d', toks := t' } := by
  have neL : ∀ b o, X.s₀.heap.get? b = some o → b ≠ X.env.locals := fun b o e => Nat.ne_of_lt (Nat.lt_of_lt_of_le (Heap.lt_size e) I.ok.above)
  have neC : ∀ b o, X.s₀.heap.get? b = some o → b ∉ X.ex → b ∉ ch := fun b o e hx hb => by
    rcases (hch b hb).1 with z | z
    · exact hx z
    · exact absurd (Nat.lt_of_lt_of_le (Heap.lt_size e) z) (Nat.lt_irrefl _)
  have cellK : ∀ x c, X.env.cells.lookup x = some c → ∀ v, s.heap.IsCell c v → h'.IsCell c v := fun x c e v ⟨o, ho, hd⟩ => by
    have nch : c ∉ ch := fun z => (hch c z).2.2.1 x c e rfl
    by_cases hc : c ∈ X.fs
    · obtain ⟨sl, q⟩ := slot c o (I.cne x c e) hc nch ho (I.freeC x c e)
      exact ⟨_, q, hd⟩
    · exact ⟨o, keep c o (I.cne x c e) hc nch ho (I.freeC x c e), hd⟩
  refine ⟨I.ok, I.os, hg, ⟨fun b o e n hb hx => ?_, fun b o e n hb hx => ?_, fun b o e n hx => ?_, fun b o e hx => ?_, fun b xs e => tups b xs (I.base.tups b xs e), fun b o xs e => frzs b o xs (I.base.frzs b o xs e), fun b ps e => ?_⟩, ?_, fun x c e => ?_, ?_, fun x c e => ?_, fun p hp => ?_, hok, I.len⟩
  · exact keep b o (neL b o e) hb (neC b o e hx) (I.base.keep b o e n hb hx) (I.base.free b o e n hx)
  · obtain ⟨sl, e1⟩ := I.base.slot b o e n hb hx
    obtain ⟨sl', e2⟩ := slot b _ (neL b o e) hb (neC b o e hx) e1 (I.base.free b o e n hx)
    exact ⟨sl', e2⟩
  · obtain ⟨o', e1⟩ := I.base.there b o e hx
    exact free b o' (neC b o e hx) e1 (I.base.free b o e n hx)
  · obtain ⟨o', e1⟩ := I.base.there b o e hx
    exact there b o' (neC b o e hx) e1
  · obtain ⟨m1, e1⟩ := I.base.tbls b ps e
    obtain ⟨m2, e2⟩ := tbls b _ e1
    exact ⟨m1 ++ m2, by rw [e2, Array.append_assoc]⟩
  · obtain ⟨m, hn, hl⟩ := I.loc
    refine ⟨m, ns m hn, fun i x v e1 e2 e3 => ?_⟩
    obtain ⟨u, r, l⟩ := hl i x v e1 e2 e3
    refine ⟨u, r, ?_⟩
    rcases l with l | ⟨k, c, e, z⟩
    · exact .inl l
    · exact .inr ⟨k, c, e, cellK x c e _ z⟩
  · obtain ⟨v, z⟩ := I.cell x c e
    exact ⟨v, cellK x c e v z⟩
  · obtain ⟨m, ⟨o, _, _, ho, _⟩, _⟩ := I.loc
    exact free _ o (fun z => (hch _ z).2.1 rfl) ho I.free
  · obtain ⟨v, o, ho, hd⟩ := I.cell x c e
    exact free c o (fun z => (hch c z).2.2.1 x c e rfl) ho (I.freeC x c e)
  · obtain ⟨e, n, ne, nf, d⟩ := I.pin p hp
    have nch : p.1 ∉ ch := fun z => (hch p.1 z).2.2.2 p hp rfl
    exact ⟨keep p.1 p.2 ne nf nch e n, free p.1 p.2 nch e n, ne, nf, d⟩
theorem Inv.un {t' : Nat} (I : Inv X pins σ H s) (u : Un X.fs [] H H' s.heap h') (hok : HOk X.prog X.w H' h') : Inv X pins σ H' { s with heap := h', toks := t' } := by
  obtain ⟨m, ⟨o, es, ep, ho, r⟩, _⟩ := id I.loc
  obtain ⟨sl, hL⟩ := u.any ho I.free (by simp)
  exact I.step (g' := s.gens) (d' := s.drawn) (ch := []) (fun _ z => nomatch z) (fun b o _ hb _ e n => u.keep b o e n hb (by simp)) (fun b o _ hb _ e n => u.slot b o e n hb (by simp)) (fun b o _ e n => u.free b o e n (by simp)) (fun b o _ e => u.there b o e (by simp)) u.tups u.frzs u.tbls (fun m' hm => by
    obtain ⟨o', es', ep', ho', r'⟩ := hm
    rw [ho] at ho'; cases ho'
    exact ⟨_, es', ep', hL, r'⟩) hok I.bare
theorem Inv.call {g' : Array GenState} {t' : Nat} {d' : Drawn} {ch : List Addr} (I : Inv X pins σ H s) (u : Un (frs X.stack) ch H H' s.heap h') (hok : HOk X.prog X.w H' h') (hg : AllBare g')
    (hch : ∀ b ∈ ch, (b ∈ X.ex ∨ X.s₀.heap.objs.size ≤ b) ∧ b ≠ X.env.locals ∧ (∀ x c, X.env.cells.lookup x = some c → c ≠ b) ∧ ∀ p ∈ X.pn ++ pins, p.1 ≠ b) :
    Inv X pins σ H' { s with heap := h', gens := g', drawn := d', toks := t' } := by
  obtain ⟨m, ⟨o, es, ep, ho, r⟩, _⟩ := id I.loc
  obtain ⟨sl, hL⟩ := u.any ho I.free fun z => (hch _ z).2.1 rfl
  exact I.step (ch := ch) hch (fun b o hL hb hc e n => u.keep b o e n (fun z => (List.mem_cons.mp (I.stkSub b z)).elim hL hb) hc) (fun b o _ _ hc e n => u.any e n hc) (fun b o hc e n => u.free b o e n hc) (fun b o hc e => u.there b o e hc) u.tups u.frzs u.tbls (fun m' hm => by
    obtain ⟨o', es', ep', ho', r'⟩ := hm
    rw [ho] at ho'; cases ho'
    exact ⟨_, es', ep', hL, r'⟩) hok hg
theorem Inv.turned {t' : Nat} {it : Addr} (I : Inv X pins σ H s) (k : ∀ b o, b ≠ it → s.heap.get? b = some o → h'.get? b = some o) (hn : H it = none) (hL : it ≠ X.env.locals)
    (h1 : it ∈ X.ex ∨ X.s₀.heap.objs.size ≤ it) (h2 : ∀ x c, X.env.cells.lookup x = some c → c ≠ it) (h3 : ∀ p ∈ X.pn ++ pins, p.1 ≠ it) : Inv X pins σ H { s with heap := h', toks := t' } := by
  have nit : ∀ b u, H b = some u → b ≠ it := fun b u e z => by rw [z, hn] at e; cases e
  refine I.step (g' := s.gens) (d' := s.drawn) (ch := [it]) (fun b hb => ?_) (fun b o _ _ hc e _ => k b o (fun z => hc (by simp [z])) e) (fun b o _ _ hc e _ => ⟨o.slots, k b o (fun z => hc (by simp [z])) e⟩) (fun _ _ _ _ n => n)
    (fun b o hc e => ⟨o, k b o (fun z => hc (by simp [z])) e⟩) (fun _ _ e => e) (fun _ _ _ e => e) (fun b ps e => ⟨#[], by rw [e]; simp⟩) (fun m hm => ?_) (fun b u e => ?_) I.bare
  · have e : b = it := by simpa using hb
    subst e
    exact ⟨h1, hL, h2, h3⟩
  · obtain ⟨o, es, ep, ho, r⟩ := hm
    exact ⟨o, es, ep, k _ o (Ne.symm hL) ho, r⟩
  · refine (I.hok b u e).stay (fun c v hc q => k c v ?_ q) (fun _ q => q) fun _ _ q => q
    rcases hc with z | z
    · rw [z]; exact nit b u e
    · exact nit c _ z
theorem Inv.tok (I : Inv X pins σ H s) (t : Nat) : Inv X pins σ H { s with toks := t } := I.un (h' := s.heap) (t' := t) Un.refl I.hok
theorem Inv.kept {t' : Nat} (I : Inv X pins σ H s) (k : ∀ b u, s.heap.get? b = some u → h'.get? b = some u) : Inv X pins σ H { s with heap := h', toks := t' } := I.un (Un.kept k) (I.hok.kept k)
theorem Inv.laid {a : Addr} {o : HO} {t' : Nat} (I : Inv X pins σ H s) (k : ∀ b u, s.heap.get? b = some u → h'.get? b = some u) (hp : s.heap.objs.size ≤ a) (new : ObjOk X.prog X.w (upd H a o) h' a o) :
    Inv X pins σ (upd H a o) { s with heap := h', toks := t' } := I.un (Un.laid k hp (I.hok.fresh hp)) (I.hok.laid k hp new)
theorem Inv.write {x e : Addr} {o : HO} {t' : Nat} (I : Inv X pins σ H s) (mu : Mut (H x)) (he : e = x ∨ H e = some (.own x)) (k : ∀ b u, b ≠ e → s.heap.get? b = some u → h'.get? b = some u) (heo : ∃ u, h'.get? e = some u)
    (new : ObjOk X.prog X.w (upd H x o) h' x o) : Inv X pins σ (upd H x o) { s with heap := h', toks := t' } := I.un (Un.write mu he k heo) (I.hok.write mu he k heo new)
theorem Inv.pins_of {pins' : List (Addr × Obj)} (I : Inv X pins σ H s) (h : ∀ p ∈ pins', s.heap.get? p.1 = some p.2 ∧ H p.1 = none ∧ p.1 ≠ X.env.locals ∧ p.1 ∉ X.fs ∧ ∀ v, p.2.data ≠ .cell v) : Inv X pins' σ H s :=
  ⟨I.ok, I.os, I.bare, I.base, I.loc, I.cell, I.free, I.freeC, fun p hp => (List.mem_append.mp hp).elim (fun z => I.pin p (List.mem_append_left _ z)) (h p), I.hok, I.len⟩
theorem nodup_ix {N : List Str} (hN : N.Nodup) {i j : Nat} {x : Str} (a : N[i]? = some x) (b : N[j]? = some x) : i = j := by
  obtain ⟨h1, e1⟩ := List.getElem?_eq_some_iff.mp a
  obtain ⟨h2, e2⟩ := List.getElem?_eq_some_iff.mp b
  exact (List.getElem_inj hN).mp (e1.trans e2.symm)
theorem store_ok2 {M : Model} {A : Around} {E : Value → Shared → Prop} {i : Nat} {x : Str} {v : V} {u : Value} {Q : Unit → Shared → Prop} (I : Inv X pins σ H s) (hN : X.N.Nodup) (hi : X.N[i]? = some x) (hx : Loc X.env.scope x) (r : RelV v u)
    (h : ∀ s', Inv X pins (σ.set i (some v)) H s' → (∃ a, Heap.SameBut a s.heap s'.heap ∧ (a = X.env.locals ∨ X.env.cells.lookup x = some a)) → Q () s') (hf : X.fn x = true ∨ X.env.scope.names.lookup x = some .local := by first | exact .inl rfl | exact .inr rfl | assumption) : wpAny M A (storeName X.env x u) Q E s := by
  obtain ⟨m, hn, hl⟩ := id I.loc
  have hcls : (X.env.scope.kind == .class || (X.env.scope.kind == .module && X.env.locals != X.env.globals)) = false := by rw [I.ok.kind]; rfl
  have hiσ : i < σ.length := by rw [I.len]; exact (List.getElem?_eq_some_iff.mp hi).1
  have cne := I.cne
  have tracked : ∀ {a : Addr} {h' : Heap}, (∃ o, s.heap.get? a = some o ∧ H a = none) → Heap.SameBut a s.heap h' → HOk X.prog X.w H h' := fun {a h'} ha hs b ob e => by
    obtain ⟨_, _, hfree⟩ := ha
    refine (I.hok b ob e).stay (fun c w' hc q => (hs.2 c ?_).trans q) (fun _ q => q) fun _ _ q => q
    rintro rfl
    rcases hc with rfl | hc
    · rw [hfree] at e; cases e
    · rw [hfree] at hc; cases hc
  rcases hx with hk | hk
  · refine wpAny_storeName_local hk hn (fun h' hn' hs => ?_) hcls
    obtain ⟨oL, _, _, hoL, _⟩ := id hn
    refine h _ ⟨I.ok, I.os, I.bare, ⟨fun b o e n hb hx => ?_, fun b o e n hb hx => ?_, I.base.free, fun b o e hx => ?_, I.base.tups, I.base.frzs, I.base.tbls⟩, ⟨_, hn', fun j y v' e1 e2 e3 => ?_⟩, fun y c e => ?_, I.free, I.freeC, fun p hp => ?_, tracked ⟨oL, hoL, I.free⟩ hs, by simpa using I.len⟩ ⟨_, hs, .inl rfl⟩
    · exact (hs.2 b (Nat.ne_of_lt (Nat.lt_of_lt_of_le (Heap.lt_size e) I.ok.above))).trans (I.base.keep b o e n hb hx)
    · obtain ⟨sl, e1⟩ := I.base.slot b o e n hb hx
      exact ⟨sl, (hs.2 b (Nat.ne_of_lt (Nat.lt_of_lt_of_le (Heap.lt_size e) I.ok.above))).trans e1⟩
    · obtain ⟨o', e1⟩ := I.base.there b o e hx
      exact ⟨o', (hs.2 b (Nat.ne_of_lt (Nat.lt_of_lt_of_le (Heap.lt_size e) I.ok.above))).trans e1⟩
    · by_cases hj : j = i
      · subst hj
        rw [hi] at e1; cases e1
        rw [List.getElem?_set_self hiσ] at e2
        cases e2
        exact ⟨u, r, .inl ⟨hk, by simp⟩⟩
      · rw [List.getElem?_set_ne (Ne.symm hj)] at e2
        obtain ⟨u', r', q⟩ := hl j y v' e1 e2 e3
        refine ⟨u', r', ?_⟩
        rcases q with ⟨k, e⟩ | ⟨k, c, e, z⟩
        · refine .inl ⟨k, ?_⟩
          have : y ≠ x := fun e => hj (nodup_ix hN e1 (e ▸ hi))
          simp [this, e]
        · exact .inr ⟨k, c, e, z.sameBut hs (cne y c e)⟩
    · obtain ⟨w', z⟩ := I.cell y c e
      exact ⟨w', z.sameBut hs (cne y c e)⟩
    · obtain ⟨e, n, ne, nf, d⟩ := I.pin p hp
      exact ⟨(hs.2 p.1 ne).trans e, n, ne, nf, d⟩
  · have hfn : X.fn x = true := by
      rcases hf with z | z
      · exact z
      · rw [z] at hk; cases hk
    obtain ⟨c, hc⟩ := I.ok.has x (.inl hk)
    obtain ⟨w', z⟩ := I.cell x c hc
    refine wpAny_storeName_cell I.ok.kind hk hc z (fun h' hc' hs => ?_)
    obtain ⟨oc, hoc, hocd⟩ := id z
    refine h { s with heap := h' } ⟨I.ok, I.os, I.bare, ⟨fun b o e n hb hx => ?_, fun b o e n hb hx => ?_, I.base.free, fun b o e hx => ?_, I.base.tups, I.base.frzs, I.base.tbls⟩, ⟨m, hn.sameBut hs (Ne.symm (cne x c hc)), fun j y v' e1 e2 e3 => ?_⟩, fun y c' e => ?_, I.free, I.freeC, fun p hp => ?_, tracked ⟨oc, hoc, I.freeC x c hc⟩ hs, by simpa using I.len⟩ ⟨c, hs, .inr hc⟩
    · exact (hs.2 b (Nat.ne_of_lt (Nat.lt_of_lt_of_le (Heap.lt_size e) (I.ok.cab x c hfn hc)))).trans (I.base.keep b o e n hb hx)
    · obtain ⟨sl, e1⟩ := I.base.slot b o e n hb hx
      exact ⟨sl, (hs.2 b (Nat.ne_of_lt (Nat.lt_of_lt_of_le (Heap.lt_size e) (I.ok.cab x c hfn hc)))).trans e1⟩
    · obtain ⟨o', e1⟩ := I.base.there b o e hx
      exact ⟨o', (hs.2 b (Nat.ne_of_lt (Nat.lt_of_lt_of_le (Heap.lt_size e) (I.ok.cab x c hfn hc)))).trans e1⟩
    · by_cases hj : j = i
      · subst hj
        rw [hi] at e1; cases e1
        rw [List.getElem?_set_self hiσ] at e2
        cases e2
        exact ⟨u, r, .inr ⟨.inl hk, c, hc, hc'⟩⟩
      · rw [List.getElem?_set_ne (Ne.symm hj)] at e2
        obtain ⟨u', r', q⟩ := hl j y v' e1 e2 e3
        refine ⟨u', r', ?_⟩
        rcases q with q | ⟨k, c', e, z'⟩
        · exact .inl q
        · refine .inr ⟨k, c', e, z'.sameBut hs ?_⟩
          rintro rfl
          exact hj (nodup_ix hN e1 (I.ok.inj _ _ _ e hc ▸ hi))
    · by_cases hcc : c' = c
      · subst hcc; exact ⟨_, hc'⟩
      · obtain ⟨w2, z2⟩ := I.cell y c' e
        exact ⟨w2, z2.sameBut hs hcc⟩
    · obtain ⟨e, n, ne, nf, d⟩ := I.pin p hp
      refine ⟨(hs.2 p.1 ?_).trans e, n, ne, nf, d⟩
      intro q
      rw [q, hoc] at e
      have q' : oc = p.2 := Option.some.inj e
      exact d w' (by rw [← q']; exact hocd)
theorem store_ok {M : Model} {A : Around} {E : Value → Shared → Prop} {i : Nat} {x : Str} {v : V} {u : Value} {Q : Unit → Shared → Prop} (I : Inv X pins σ H s) (hN : X.N.Nodup) (hi : X.N[i]? = some x) (hx : Loc X.env.scope x) (r : RelV v u)
    (h : ∀ s', Inv X pins (σ.set i (some v)) H s' → Q () s') (hf : X.fn x = true ∨ X.env.scope.names.lookup x = some .local := by first | exact .inl rfl | exact .inr rfl | assumption) : wpAny M A (storeName X.env x u) Q E s :=
  store_ok2 I hN hi hx r (fun s' I' _ => h s' I') hf
theorem Inv.call' {s' : Shared} {ch : List Addr} (I : Inv X pins σ H s) (ho : s'.os = s.os) (u : Un (frs X.stack) ch H H' s.heap s'.heap) (hok : HOk X.prog X.w H' s'.heap) (hg : AllBare s'.gens)
    (hch : ∀ b ∈ ch, (b ∈ X.ex ∨ X.s₀.heap.objs.size ≤ b) ∧ b ≠ X.env.locals ∧ (∀ x c, X.env.cells.lookup x = some c → c ≠ b) ∧ ∀ p ∈ X.pn ++ pins, p.1 ≠ b) : Inv X pins σ H' s' := by
  obtain ⟨h', g', d', t', o'⟩ := s'
  have e : o' = s.os := ho
  subst e
  exact I.call (g' := g') (t' := t') (d' := d') u hok hg hch
end
abbrev XK := Value → Option Addr → Hp → Prop
abbrev St := List (Option V)
abbrev VK := V → Hp → Prop
abbrev TE := St → Hp → VK → Prop
abbrev TT := St → Hp → (Bool → Hp → Prop) → Prop
abbrev TA := St → Hp → (List V → Hp → Prop) → Prop
structure Ends where
  nx : St → Hp → Prop
  rt : VK
  bk : St → Hp → Prop := fun _ _ => False
  ct : St → Hp → Prop := fun _ _ => False
abbrev TS := Ends → St → Hp → Prop
def EP (X : Cx) (pins : List (Addr × Obj)) (σ : St) (Q : VK) (u : Value) (s' : Shared) : Prop := ∃ v H', Inv X pins σ H' s' ∧ RelV v u ∧ Q v H'
def TP (X : Cx) (pins : List (Addr × Obj)) (σ : St) (Q : Bool → Hp → Prop) (b : Bool) (s' : Shared) : Prop := ∃ H', Inv X pins σ H' s' ∧ Q b H'
def AP (X : Cx) (pins : List (Addr × Obj)) (σ : St) (Q : List V → Hp → Prop) (us : List Value) (s' : Shared) : Prop := ∃ vs H', Inv X pins σ H' s' ∧ Vals vs us ∧ Q vs H'
def SP (X : Cx) (pins : List (Addr × Obj)) (D : Ends) (f : Flow) (s' : Shared) : Prop :=
  match f with
  | .next => ∃ σ' H', Inv X pins σ' H' s' ∧ D.nx σ' H'
  | .brk => ∃ σ' H', Inv X pins σ' H' s' ∧ D.bk σ' H'
  | .cont => ∃ σ' H', Inv X pins σ' H' s' ∧ D.ct σ' H'
  | .ret u => ∃ v σ' H', Inv X pins σ' H' s' ∧ RelV v u ∧ D.rt v H'
def PE (X : Cx) (e : Expr) (t : TE) : Prop :=
  ∀ (pins : List (Addr × Obj)) (s : Shared) (σ : St) (H : Hp) (Q : VK), Inv X pins σ H s → t σ H Q → wpAny (model X.prog X.w) X.A (eval e X.env) (EP X pins σ Q) X.xe s
def PT (X : Cx) (e : Expr) (t : TT) : Prop :=
  ∀ (pins : List (Addr × Obj)) (s : Shared) (σ : St) (H : Hp) (Q : Bool → Hp → Prop), Inv X pins σ H s → t σ H Q → wpAny (model X.prog X.w) X.A (isTrue e X.env (eval e X.env)) (TP X pins σ Q) X.xe s
def PW (X : Cx) (e : Expr) (t : TT) : Prop :=
  ∀ (whole : Sem Value) (pins : List (Addr × Obj)) (s : Shared) (σ : St) (H : Hp) (Q : Bool → Hp → Prop), Inv X pins σ H s → t σ H Q → wpAny (model X.prog X.w) X.A (isTrue e X.env whole) (TP X pins σ Q) X.xe s
theorem PW.pt {X : Cx} {e : Expr} {t : TT} (h : PW X e t) : PT X e t := h _
def PA (X : Cx) (es : List Expr) (t : TA) : Prop :=
  ∀ (pos : Pos) (pins : List (Addr × Obj)) (s : Shared) (σ : St) (H : Hp) (Q : List V → Hp → Prop), Inv X pins σ H s → t σ H Q → wpAny (model X.prog X.w) X.A (spliced (backTo pos (starEach es X.env))) (AP X pins σ Q) X.xe s
def PS (X : Cx) (st : Stmt) (t : TS) : Prop :=
  ∀ (pins : List (Addr × Obj)) (s : Shared) (σ : St) (H : Hp) (D : Ends), Inv X pins σ H s → t D σ H → wpAny (model X.prog X.w) X.A (exec st X.env) (SP X pins D) X.xe s
def PSs (X : Cx) (st : List Stmt) (t : TS) : Prop :=
  ∀ (pins : List (Addr × Obj)) (s : Shared) (σ : St) (H : Hp) (D : Ends), Inv X pins σ H s → t D σ H → wpAny (model X.prog X.w) X.A (execs st X.env) (SP X pins D) X.xe s
theorem thn {α : Type} {t : Sem α} {Q Q' : α → Shared → Prop} {M : Model} {A : Around} {E : Value → Shared → Prop} {s : Shared} (h : wpAny M A t Q E s) (hQ : ∀ a s, Q a s → Q' a s) : wpAny M A t Q' E s := wpAny_mono h hQ fun _ _ x => x
end L2
namespace L2
open PySem PySem.Spec PyProof.Rows
section
variable {X : Cx}
def tVar (i : Nat) : TE := fun σ H Q => ∃ v, σ[i]? = some (some v) ∧ Q v H
def tC (v : V) : TE := fun _ H Q => Q v H
theorem pe_var {i : Nat} {x : Str} {pos : Pos} (hN : X.N[i]? = some x) (hv : Vis X.env.scope x) (hd : (x == ("__debug__" : Str)) = false := by decide) (hcd : (x == ("__classdict__" : Str)) = false := by decide) : PE X (.Name x pos) (tVar i) := by
  intro pins s σ H Q I h
  obtain ⟨v, e, h⟩ := h
  obtain ⟨m, hn, hl⟩ := I.loc
  obtain ⟨u, r, l⟩ := hl i x v hN e hv
  have fin : EP X pins σ Q u s := ⟨v, H, I, r, h⟩
  rcases l with ⟨hk, hm⟩ | ⟨hk, c, hc, hcell⟩
  · exact wpAny_Name (wpAny_loadName_local I.ok.kind hk hn hm fin) hd
  · rcases hk with hk | hk
    · exact wpAny_Name (wpAny_loadName_cell I.ok.kind hk hc hcell fin) hd
    · exact wpAny_Name (wpAny_loadName_free I.ok.kind hk hc hcell fin hcd) hd
theorem pe_int {i j pos} : PE X (.Constant (.int i) j pos) (tC (.int i)) := fun _ _ _ H _ I h => wpAny_Constant_int ⟨.int i, H, I.tok _, ⟨_, rfl⟩, h⟩
theorem pe_bl {b j pos} : PE X (.Constant (.bool b) j pos) (tC (.bl b)) := fun _ _ _ H _ I h => Constant_bool ⟨.bl b, H, I, rfl, h⟩
theorem pe_non {j pos} : PE X (.Constant .none j pos) (tC .non) := fun _ _ _ H _ I h => Constant_none ⟨.non, H, I, rfl, h⟩
theorem pe_str {x j pos} : PE X (.Constant (.str x) j pos) (tC (.str x)) := fun _ _ _ H _ I h => Calls.Constant_str ⟨.str x, H, I.tok _, ⟨_, rfl⟩, h⟩
def Gl (X : Cx) (x : Str) : Prop := X.env.kindOf x = some .globalImplicit
theorem ld_glob {E : Value → Shared → Prop} {pins : List (Addr × Obj)} {s : Shared} {σ : St} {H : Hp} {x : Str} {u : Value} {pos : Pos} {Q : Value → Shared → Prop} (I : Inv X pins σ H s) (hg : Gl X x) (hm : X.mg x = some u) (h : Q u s)
    (hd : (x == ("__debug__" : Str)) = false := by decide) : wpAny (model X.prog X.w) X.A (eval (.Name x pos) X.env) Q E s :=
  Calls.Name_function_global I.ok.kind hg (Calls.loadGlobal_global (by rw [I.ok.glob]; exact I.mod.glob.keeps I.bk) hm h) hd
theorem ld_blt {E : Value → Shared → Prop} {pins : List (Addr × Obj)} {s : Shared} {σ : St} {H : Hp} {x : Str} {u : Value} {pos : Pos} {Q : Value → Shared → Prop} (I : Inv X pins σ H s) (hg : Gl X x) (hm : X.mg x = none) (hv : bootBuiltins x = some u) (h : Q u s)
    (hn : x ≠ "__name__" := by decide) (hd : (x == ("__debug__" : Str)) = false := by decide) : wpAny (model X.prog X.w) X.A (eval (.Name x pos) X.env) Q E s := by
  obtain ⟨mb, h1, h2⟩ := I.mod.blt
  exact Calls.Name_function_global I.ok.kind hg (Calls.loadGlobal_builtin (by rw [I.ok.glob]; exact I.mod.glob.keeps I.bk) hm (by rw [I.ok.blt]; exact h1.keeps I.bk) ((h2 x hn).trans hv) h) hd
theorem pe_glob {x : Str} {v : V} {u : Value} {pos : Pos} (hg : Gl X x) (hm : X.mg x = some u) (r : RelV v u) (hd : (x == ("__debug__" : Str)) = false := by decide) : PE X (.Name x pos) (tC v) :=
  fun _ _ _ H _ I h => ld_glob I hg hm ⟨v, H, I, r, h⟩ hd
theorem pe_bltn {x : Str} {v : V} {u : Value} {pos : Pos} (hg : Gl X x) (hm : X.mg x = none) (hv : bootBuiltins x = some u) (r : RelV v u) (hn : x ≠ "__name__" := by decide) (hd : (x == ("__debug__" : Str)) = false := by decide) : PE X (.Name x pos) (tC v) :=
  fun _ _ _ H _ I h => ld_blt I hg hm hv ⟨v, H, I, r, h⟩ hn hd
def t2I (ta tb : TE) (k : Int → Int → Hp → Prop) : St → Hp → Prop := fun σ H => ta σ H fun x H1 => tb σ H1 fun y H2 => ∃ i j, x = .int i ∧ y = .int j ∧ k i j H2
variable {a b : Expr} {ta tb : TE} {pos : Pos}
def tCmp (p : Int → Int → Bool) (ta tb : TE) : TE := fun σ H Q => t2I ta tb (fun i j H2 => Q (.bl (p i j)) H2) σ H
abbrev tLt : TE → TE → TE := tCmp fun i j => decide (i < j)
abbrev tLe : TE → TE → TE := tCmp fun i j => decide (i ≤ j)
abbrev tGt : TE → TE → TE := tCmp fun i j => decide (j < i)
abbrev tGe : TE → TE → TE := tCmp fun i j => decide (j ≤ i)
abbrev tEqI : TE → TE → TE := tCmp fun i j => decide (i = j)
abbrev tNeI : TE → TE → TE := tCmp fun i j => !decide (i = j)
def tB (t : TE) : TT := fun σ H Q => t σ H fun x H1 => ∃ c, x = .bl c ∧ Q c H1
theorem pt_val {e : Expr} {t : TE} (h : PE X e t) (he : ∀ whole, isTrue e X.env whole = (do let v ← whole; standAt e.pos; holding [v] (truthy v)) := by intro _; rfl) : PT X e (tB t) := by
  intro pins s σ H Q I hw
  refine isTrue_plain (thn (h pins s σ H _ I hw) fun v s1 ⟨x, H1, I1, r1, q1⟩ => ?_) (he _)
  obtain ⟨d, rfl, q⟩ := q1
  cases r1
  exact wpAny_truthy_bool ⟨H1, I1, q⟩
variable {tA tB' : TT} {rest : List Expr}
def tAnd (t u : TT) : TT := fun σ H Q => t σ H fun c H1 => if c = true then u σ H1 Q else Q false H1
def tOr (t u : TT) : TT := fun σ H Q => t σ H fun c H1 => if c = true then Q true H1 else u σ H1 Q
def tNot (t : TT) : TT := fun σ H Q => t σ H fun c H1 => Q (!c) H1
theorem pw_and1 (ha : PT X a tA) : PW X (.BoolOp .And [a] pos) tA := by
  intro wh pins s σ H Q I h
  refine isTrue_and (thn (ha pins s σ H Q I h) fun c s1 e => ?_)
  cases c with
  | true => exact isTrue_and_nil e
  | false => exact e
theorem pw_or1 (ha : PT X a tA) : PW X (.BoolOp .Or [a] pos) tA := by
  intro wh pins s σ H Q I h
  refine isTrue_or (thn (ha pins s σ H Q I h) fun c s1 e => ?_)
  cases c with
  | false => exact isTrue_or_nil e
  | true => exact e
theorem pw_and (ha : PT X a tA) (hb : PW X (.BoolOp .And (b :: rest) pos) tB') : PW X (.BoolOp .And (a :: b :: rest) pos) (tAnd tA tB') := by
  intro wh pins s σ H Q I h
  refine isTrue_and (thn (ha pins s σ H _ I h) fun c s1 ⟨H1, I1, q1⟩ => ?_)
  cases c with
  | true => exact hb wh pins s1 σ H1 Q I1 q1
  | false => exact ⟨H1, I1, q1⟩
theorem pw_or (ha : PT X a tA) (hb : PW X (.BoolOp .Or (b :: rest) pos) tB') : PW X (.BoolOp .Or (a :: b :: rest) pos) (tOr tA tB') := by
  intro wh pins s σ H Q I h
  refine isTrue_or (thn (ha pins s σ H _ I h) fun c s1 ⟨H1, I1, q1⟩ => ?_)
  cases c with
  | true => exact ⟨H1, I1, q1⟩
  | false => exact hb wh pins s1 σ H1 Q I1 q1
theorem pt_not (ha : PT X a tA) : PT X (.UnaryOp .Not a pos) (tNot tA) := by
  intro pins s σ H Q I h
  exact isTrue_not (ha pins s σ H (fun c H1 => Q (!c) H1) I h)
def tAndV (ta tb : TE) : TE := fun σ H Q => ta σ H fun x H1 => ∃ c, x = .bl c ∧ if c = true then tb σ H1 Q else Q (.bl false) H1
def tOrV (ta tb : TE) : TE := fun σ H Q => ta σ H fun x H1 => ∃ c, x = .bl c ∧ if c = true then Q (.bl true) H1 else tb σ H1 Q
def tNotV (ta : TE) : TE := fun σ H Q => ta σ H fun x H1 => ∃ c, x = .bl c ∧ Q (.bl (!c)) H1
theorem pe_one {op} {t : TE} (h : PE X a t) : PE X (.BoolOp op [a] pos) t := fun pins s σ H Q I hw => BoolOp_one (h pins s σ H Q I hw)
theorem pe_and (ha : PE X a ta) (hb : PE X (.BoolOp .And (b :: rest) pos) tb) : PE X (.BoolOp .And (a :: b :: rest) pos) (tAndV ta tb) := by
  intro pins s σ H Q I h
  refine BoolOp_and (thn (ha pins s σ H _ I h) fun v s1 ⟨x, H1, I1, r1, q1⟩ => ?_)
  obtain ⟨c, rfl, q1⟩ := q1
  cases r1
  refine wpAny_truthy_bool ?_
  cases c with
  | true => exact hb pins s1 σ H1 Q I1 q1
  | false => exact ⟨.bl false, H1, I1, rfl, q1⟩
theorem pe_or (ha : PE X a ta) (hb : PE X (.BoolOp .Or (b :: rest) pos) tb) : PE X (.BoolOp .Or (a :: b :: rest) pos) (tOrV ta tb) := by
  intro pins s σ H Q I h
  refine BoolOp_or (thn (ha pins s σ H _ I h) fun v s1 ⟨x, H1, I1, r1, q1⟩ => ?_)
  obtain ⟨c, rfl, q1⟩ := q1
  cases r1
  refine wpAny_truthy_bool ?_
  cases c with
  | false => exact hb pins s1 σ H1 Q I1 q1
  | true => exact ⟨.bl true, H1, I1, rfl, q1⟩
theorem pe_not (ha : PE X a ta) : PE X (.UnaryOp .Not a pos) (tNotV ta) := by
  intro pins s σ H Q I h
  refine UnaryOp_ (thn (ha pins s σ H _ I h) fun v s1 ⟨x, H1, I1, r1, q1⟩ => ?_)
  obtain ⟨c, rfl, q1⟩ := q1
  cases r1
  exact not_of (wpAny_truthy_bool ⟨.bl (!c), H1, I1, rfl, q1⟩)
end
end L2
namespace L2
open PySem PySem.Spec PyProof.Rows
def SqL (K : PySem.W.Frag) (H : Hp) (a : Addr) (xs : List V) : Prop :=
  Rd H a (.lst xs) ∨
    ∃ (o : Obj) (its : Array Value) (n : Nat), K.lookup a = some o ∧ o.cls = .type "list" ∧ o.dict = none ∧ o.data = .seq its n ∧ its.size ≤ sizeLine ∧ Vals xs its.toList
def SqT (K : PySem.W.Frag) (H : Hp) (a : Addr) (xs : List V) : Prop :=
  Rd H a (.tup xs) ∨
    ∃ (o : Obj) (its : Array Value) (n : Nat), K.lookup a = some o ∧ o.cls = .type "tuple" ∧ o.data = .seq its n ∧ its.size ≤ sizeLine ∧ Vals xs its.toList
def absV : Value → Option V
  | .none => some .non
  | .bool b => some (.bl b)
  | .int i _ => some (.int i)
  | .str x _ => some (.str x)
  | .bytes b _ => some (.byt b)
  | .float b _ => some (.flt b)
  | .ref a => some (.ref a)
  | .type n => some (.ty n)
  | _ => none
theorem RelV.abs {x : V} {u : Value} (r : RelV x u) : absV u = some x := by
  cases x with
  | non => cases r; rfl
  | bl _ => cases r; rfl
  | int _ => obtain ⟨t, rfl⟩ := r; rfl
  | str _ => obtain ⟨t, rfl⟩ := r; rfl
  | byt _ => obtain ⟨t, rfl⟩ := r; rfl
  | flt _ => obtain ⟨t, rfl⟩ := r; rfl
  | ref _ => cases r; rfl
  | ty _ => cases r; rfl
theorem RelV.inj {x y : V} {u : Value} (r : RelV x u) (q : RelV y u) : x = y := Option.some.inj (r.abs.symm.trans q.abs)
theorem Vals.inj : ∀ {xs ys : List V} {us : List Value}, Vals xs us → Vals ys us → xs = ys
  | _, _, _, .nil, .nil => rfl
  | _, _, _, .cons r t, .cons r' t' => by rw [r.inj r', Vals.inj t t']
section
variable {X : Cx} {pins : List (Addr × Obj)} {σ : St} {H : Hp} {s : Shared} {a : Addr} {xs ys : List V}
theorem SqL.of {K : PySem.W.Frag} (h : H a = some (.lst xs)) : SqL K H a xs := .inl (.inl h)
theorem SqT.of {K : PySem.W.Frag} (h : H a = some (.tup xs)) : SqT K H a xs := .inl (.inl h)
theorem Inv.list (I : Inv X pins σ H s) (h : SqL X.K H a xs) : ∃ its : List Value, Vals xs its ∧ PlainL s.heap a its.toArray ∧ xs.length ≤ sizeLine := by
  rcases h with h | ⟨o, its, n, hk, hc, hd, hs, hz, r⟩
  · obtain ⟨z, its, n, r, e⟩ := h.ok I.hok
    exact ⟨its, r, ⟨_, n, e, rfl, rfl, rfl⟩, z⟩
  · refine ⟨its.toList, r, ⟨o, n, I.kIn a o hk, hc, hd, by simpa using hs⟩, ?_⟩
    have e := r.length
    simp only [Array.length_toList] at e
    omega
theorem Inv.tuple (I : Inv X pins σ H s) (h : SqT X.K H a xs) : ∃ its : List Value, Vals xs its ∧ IsTup s.heap a its.toArray ∧ xs.length ≤ sizeLine := by
  rcases h with h | ⟨o, its, n, hk, hc, hs, hz, r⟩
  · obtain ⟨z, its, r, p⟩ := h.ok I.hok
    exact ⟨its, r, p, z⟩
  · refine ⟨its.toList, r, ⟨o, I.kIn a o hk, hc, n, by simpa using hs⟩, ?_⟩
    have e := r.length
    simp only [Array.length_toList] at e
    omega
theorem Inv.list_inj (I : Inv X pins σ H s) (h : SqL X.K H a xs) (h' : SqL X.K H a ys) : xs = ys := by
  obtain ⟨its, r, ⟨o, n, e, _, _, d⟩, _⟩ := I.list h
  obtain ⟨its', r', ⟨o', n', e', _, _, d'⟩, _⟩ := I.list h'
  rw [e] at e'; cases e'
  rw [d] at d'
  injection d' with d1 _
  have : its = its' := by simpa using congrArg Array.toList d1
  subst this
  exact r.inj r'
end
abbrev Cx.wish (X : Cx) (E : Value → Shared → Prop) : Cx := { X with xe := E }
abbrev Cx.nox (X : Cx) : Cx := X.wish fun _ _ => False
theorem Cx.Ok.wish {X : Cx} (ok : X.Ok) (E : Value → Shared → Prop) : (X.wish E).Ok :=
  ⟨ok.mod, ok.kind, ok.glob, ok.blt, ok.above, ok.inj, ok.has, ok.cab, ok.hd, ok.frames, ok.stk, ok.exf, ok.bs, ok.bsz, ok.noex, ok.exfs, ok.funs, ok.frf⟩
theorem Cx.Ok.unwish {X : Cx} {E : Value → Shared → Prop} (ok : (X.wish E).Ok) : X.Ok :=
  ⟨ok.mod, ok.kind, ok.glob, ok.blt, ok.above, ok.inj, ok.has, ok.cab, ok.hd, ok.frames, ok.stk, ok.exf, ok.bs, ok.bsz, ok.noex, ok.exfs, ok.funs, ok.frf⟩
section
variable {X : Cx} {pins : List (Addr × Obj)} {σ : St} {H : Hp} {s : Shared} {E : Value → Shared → Prop}
theorem Inv.wish (I : Inv X pins σ H s) (E : Value → Shared → Prop) : Inv (X.wish E) pins σ H s := ⟨I.ok.wish E, I.os, I.bare, I.base, I.loc, I.cell, I.free, I.freeC, I.pin, I.hok, I.len⟩
theorem Inv.unwish (I : Inv (X.wish E) pins σ H s) : Inv X pins σ H s := ⟨I.ok.unwish, I.os, I.bare, I.base, I.loc, I.cell, I.free, I.freeC, I.pin, I.hok, I.len⟩
theorem SP.unwish {D : Ends} {f : Flow} {s' : Shared} (h : SP (X.wish E) pins D f s') : SP X pins D f s' := by
  cases f with
  | next => obtain ⟨σ', H', I, q⟩ := h; exact ⟨σ', H', I.unwish, q⟩
  | brk => obtain ⟨σ', H', I, q⟩ := h; exact ⟨σ', H', I.unwish, q⟩
  | cont => obtain ⟨σ', H', I, q⟩ := h; exact ⟨σ', H', I.unwish, q⟩
  | ret u => obtain ⟨v, σ', H', I, r, q⟩ := h; exact ⟨v, σ', H', I.unwish, r, q⟩
theorem PSs.nox {st : List Stmt} {t : TS} (h : PSs X.nox st t) : PSs X st t := fun pins s σ H D I hw =>
  wpAny_mono (h pins s σ H D (I.wish _) hw) (fun _ _ q => q.unwish) fun _ _ z => False.elim z
end
section
variable {X : Cx} {st : Stmt} {rest : List Stmt} {t u : TS} {e : Expr} {te : TE} {pos : Pos}
def tNext : TS := fun D σ H => D.nx σ H
def tSeq (t u : TS) : TS := fun D σ H => t { D with nx := u D } σ H
theorem pss_nil : PSs X [] tNext := fun _ _ σ H _ I h => wpAny_execs_nil ⟨σ, H, I, h⟩
theorem pss_cons (h1 : PS X st t) (h2 : PSs X rest u) : PSs X (st :: rest) (tSeq t u) := by
  intro pins s σ H D I h
  refine wpAny_execs_cons (thn (h1 pins s σ H { D with nx := u D } I h) fun f s1 q => ?_)
  cases f with
  | next =>
    obtain ⟨σ', H', I', q⟩ := q
    exact h2 pins s1 σ' H' D I' q
  | ret v => exact q
  | brk => exact q
  | cont => exact q
theorem pss_one (h1 : PS X st t) : PSs X [st] t := by
  intro pins s σ H D I h
  refine wpAny_execs_cons (thn (h1 pins s σ H D I h) fun f s1 q => ?_)
  cases f with
  | next => exact wpAny_execs_nil q
  | ret v => exact q
  | brk => exact q
  | cont => exact q
theorem Inv.quiet {pins : List (Addr × Obj)} {σ : St} {H : Hp} {s : Shared} (I : Inv X pins σ H s) : interactive X.env = false := by simp [interactive, I.ok.kind]
def tDrop (te : TE) : TS := fun D σ H => te σ H fun _ H1 => D.nx σ H1
theorem ps_expr (he : PE X e te) (hs : swapsWith e none pos.line X.env = pure false := by rfl) : PS X (.Expr e pos) (tDrop te) := by
  intro pins s σ H D I h
  exact wpAny_Expr_any (thn (he pins s σ H _ I h) fun v s1 ⟨x, H1, I1, r1, q1⟩ => ⟨σ, H1, I1, q1⟩) I.quiet hs
def tRet (te : TE) : TS := fun D σ H => te σ H D.rt
theorem ps_ret (he : PE X e te) : PS X (.Return (some e) pos) (tRet te) := by
  intro pins s σ H D I h
  exact wpAny_Return_some (thn (he pins s σ H _ I h) fun v s1 ⟨x, H1, I1, r1, q1⟩ => ⟨x, σ, H1, I1, r1, q1⟩)
def tIfS (c : TT) (t u : TS) : TS := fun D σ H => c σ H fun b H1 => if b = true then t D σ H1 else u D σ H1
theorem ps_if {c : Expr} {a b : List Stmt} {tc : TT} (hc : PT X c tc) (ha : PSs X a t) (hb : PSs X b u) : PS X (.If c a b pos) (tIfS tc t u) := by
  intro pins s σ H D I h
  refine wpAny_If (thn (hc pins s σ H _ I h) fun d s1 ⟨H1, I1, q1⟩ => ?_)
  cases d with
  | true => exact ha pins s1 σ H1 D I1 q1
  | false => exact hb pins s1 σ H1 D I1 q1
end
abbrev TG := V → St → Hp → (St → Hp → Prop) → Prop
abbrev TGs := List V → St → Hp → (St → Hp → Prop) → Prop
def PG (X : Cx) (target : Expr) (t : TG) : Prop :=
  ∀ (pins : List (Addr × Obj)) (s : Shared) (σ : St) (H : Hp) (v : V) (u : Value) (Q : St → Hp → Prop), Inv X pins σ H s → RelV v u → t v σ H Q →
    wpAny (model X.prog X.w) X.A (assign target X.env u) (fun _ s' => ∃ σ' H', Inv X pins σ' H' s' ∧ Q σ' H') X.xe s
def PGs (X : Cx) (ts : List Expr) (t : TGs) : Prop :=
  ∀ (pins : List (Addr × Obj)) (s : Shared) (σ : St) (H : Hp) (vs : List V) (us : List Value) (Q : St → Hp → Prop), Inv X pins σ H s → Vals vs us → t vs σ H Q →
    wpAny (model X.prog X.w) X.A (assignInOrder ((assignEach ts X.env).map (·.2)) us) (fun _ s' => ∃ σ' H', Inv X pins σ' H' s' ∧ Q σ' H') X.xe s
abbrev TSet := V → V → V → Hp → (Hp → Prop) → Prop
def PSet (X : Cx) (t : TSet) : Prop :=
  ∀ (pins : List (Addr × Obj)) (s : Shared) (σ : St) (H : Hp) (o i v : V) (ov iv u : Value) (Q : Hp → Prop), Inv X pins σ H s → RelV o ov → RelV i iv → RelV v u → t o i v H Q →
    wpAny (model X.prog X.w) X.A (setItem ov iv u) (fun _ s' => ∃ H', Inv X pins σ H' s' ∧ Q H') X.xe s
abbrev TIp := V → V → Hp → VK → Prop
def PIp (X : Cx) (op : Operator) (t : TIp) : Prop :=
  ∀ (pins : List (Addr × Obj)) (s : Shared) (σ : St) (H : Hp) (x y : V) (v u : Value) (Q : VK), Inv X pins σ H s → RelV x v → RelV y u → t x y H Q →
    wpAny (model X.prog X.w) X.A (inplaceOp op v u) (EP X pins σ Q) X.xe s
section
variable {X : Cx} {pos : Pos}
def gName (i : Nat) : TG := fun v σ H Q => Q (σ.set i (some v)) H
theorem pg_name {i : Nat} {x : Str} (hN : X.N.Nodup) (hi : X.N[i]? = some x) (hx : Loc X.env.scope x) (hf : X.fn x = true ∨ X.env.scope.names.lookup x = some .local := by first | exact .inl rfl | exact .inr rfl | assumption) : PG X (.Name x pos) (gName i) := by
  intro pins s σ H v u Q I r h
  exact wpAny_assign_Name (store_ok I hN hi hx r (fun s' I' => ⟨_, H, I', h⟩) hf)
def gNil : TGs := fun vs σ H Q => vs = [] ∧ Q σ H
def gCons (t : TG) (u : TGs) : TGs := fun vs σ H Q => ∃ v r, vs = v :: r ∧ t v σ H fun σ' H' => u r σ' H' Q
theorem pgs_nil : PGs X [] gNil := by
  intro pins s σ H vs us Q I r h
  obtain ⟨e, h⟩ := h
  subst e
  cases r
  exact assignInOrder_nil ⟨σ, H, I, h⟩
theorem pgs_cons {e : Expr} {es : List Expr} {t : TG} {u : TGs} (h1 : PG X e t) (h2 : PGs X es u)
    (hs : (assignEach (e :: es) X.env).map (·.2) = assign e X.env :: (assignEach es X.env).map (·.2) := by rfl) : PGs X (e :: es) (gCons t u) := by
  intro pins s σ H vs us Q I r h
  obtain ⟨v, vr, e1, h⟩ := h
  subst e1
  cases r with
  | cons r rr =>
    rw [hs]
    refine assignInOrder_cons (thn (h1 pins s σ H _ _ _ I r h) fun _ s1 ⟨σ1, H1, I1, q1⟩ => ?_)
    exact h2 pins s1 σ1 H1 _ _ Q I1 rr q1
def gTup (K : PySem.W.Frag) (n : Nat) (t : TGs) : TG := fun v σ H Q => ∃ a xs, v = .ref a ∧ SqT K H a xs ∧ xs.length = n ∧ t xs σ H Q
theorem pg_tup {es : List Expr} {k : Nat} {t : TGs} {n : Nat} (hc : X.calm = true) (h : PGs X es t)
    (hn : (assignEach es X.env).length = n := by rfl) (hst : (assignEach es X.env).findIdx? (·.1) = none := by rfl) : PG X (.Tuple es k pos) (gTup X.K n t) := by
  intro pins s σ H v u Q I r hw
  obtain ⟨a, xs, e1, hq, hl, hw⟩ := hw
  subst e1
  cases r
  obtain ⟨its, rv, ht, hz⟩ := I.tuple hq
  refine assign_Tuple_tuple (I.ok.hd hc) ht (by simp [hn, ← hl, rv.length]) hst fun h' hx => ?_
  have I1 : Inv X pins σ H { s with heap := h' } := I.kept (t' := s.toks) fun b o e => hx b o (Nat.ne_of_lt (Heap.lt_size e)) e
  exact h pins _ σ H xs _ Q I1 (by simpa using rv) hw
def gSub (to ti : TE) (t : TSet) : TG := fun v σ H Q => to σ H fun o H1 => ti σ H1 fun i H2 => t o i v H2 fun H3 => Q σ H3
theorem pg_sub {o i : Expr} {to ti : TE} {t : TSet} (ho : PE X o to) (hi : PE X i ti) (hs : PSet X t)
    (ha : ∀ v, assign (.Subscript o i pos) X.env v = (do
      let ov ← holding [v] (eval o X.env)
      let iv ← holding [v, ov] (eval i X.env)
      standAt pos
      holding [v, ov, iv] (setItem ov iv v)
      release [v, ov, iv] []) := by intro _; rfl) : PG X (.Subscript o i pos) (gSub to ti t) := by
  intro pins s σ H v u Q I r h
  rw [ha]
  refine wpAny_bind (wpAny_holding (thn (ho pins s σ H _ I h) fun ov s1 ⟨x, H1, I1, r1, q1⟩ => ?_))
  refine wpAny_bind (wpAny_holding (thn (hi pins s1 σ H1 _ I1 q1) fun iv s2 ⟨y, H2, I2, r2, q2⟩ => ?_))
  refine wpAny_bind (wpAny_standAt (wpAny_bind (wpAny_holding (thn (hs pins s2 σ H2 x y v ov iv u _ I2 r1 r2 r q2) fun _ s3 ⟨H3, I3, q3⟩ => ?_))))
  exact wpAny_release ⟨σ, H3, I3, q3⟩
def tAsg (te : TE) (g : TG) : TS := fun D σ H => te σ H fun x H1 => g x σ H1 D.nx
theorem ps_asg {tg e : Expr} {te : TE} {g : TG} (he : PE X e te) (hg : PG X tg g) (hs : swapsWithSole [tg] e pos.line X.env = pure false := by rfl) (hw : swappedStores [tg] e X.env = pure none := by rfl)
    (h1 : (assignEach [tg] X.env).map (·.2) = [assign tg X.env] := by rfl) : PS X (.Assign [tg] e pos) (tAsg te g) := by
  intro pins s σ H D I h
  refine wpAny_Assign_stores (thn (he pins s σ H _ I h) fun v s1 ⟨x, H1, I1, r1, q1⟩ => ?_) hs hw
  rw [h1]
  exact thn (hg pins s1 σ H1 x v _ I1 r1 q1) fun _ s2 q => q
theorem ps_set {i : Nat} {x : Str} {e : Expr} {te : TE} {pos' : Pos} (hN : X.N.Nodup) (hi : X.N[i]? = some x) (hx : Loc X.env.scope x) (he : PE X e te) (hs : swapsWith e (some (.Name x pos')) pos.line X.env = pure false := by rfl) (hf : X.fn x = true ∨ X.env.scope.names.lookup x = some .local := by first | exact .inl rfl | exact .inr rfl | assumption) :
    PS X (.Assign [.Name x pos'] e pos) (tAsg te (gName i)) := by
  intro pins s σ H D I h
  refine wpAny_Assign_Name (thn (he pins s σ H _ I h) fun v s1 ⟨y, H1, I1, r1, q1⟩ => ?_) hs
  exact store_ok I1 hN hi hx r1 (fun s2 I2 => ⟨_, H1, I2, q1⟩) hf
def tAugS (to ti te : TE) (tget : V → V → Hp → VK → Prop) (tip : TIp) (tset : TSet) : TS := fun D σ H => to σ H fun o H1 => ti σ H1 fun i H2 => tget o i H2 fun x H3 => te σ H3 fun y H4 => tip x y H4 fun z H5 => tset o i z H5 fun H6 => D.nx σ H6
def PGet (X : Cx) (t : V → V → Hp → VK → Prop) : Prop :=
  ∀ (pins : List (Addr × Obj)) (s : Shared) (σ : St) (H : Hp) (o i : V) (ov iv : Value) (Q : VK), Inv X pins σ H s → RelV o ov → RelV i iv → t o i H Q →
    wpAny (model X.prog X.w) X.A (getItem ov iv) (EP X pins σ Q) X.xe s
theorem ps_augS {o i e : Expr} {to ti te : TE} {tget : V → V → Hp → VK → Prop} {tip : TIp} {tset : TSet} {op : Operator} {tpos : Pos} (ho : PE X o to) (hi : PE X i ti) (hg : PGet X tget) (he : PE X e te) (hp : PIp X op tip) (hs : PSet X tset)
    (ha : ∀ ov iv new, augStore i ov iv new = (do holding [new, ov, iv] (setItem ov iv new); release [new, ov, iv] []; pure .next) := by intros; rfl) : PS X (.AugAssign (.Subscript o i tpos) op e pos) (tAugS to ti te tget tip tset) := by
  intro pins s σ H D I h
  refine wpAny_AugAssign_SubscriptAny (thn (ho pins s σ H _ I h) fun ov s1 ⟨x1, H1, I1, r1, q1⟩ => ?_) ha
  refine thn (hi pins s1 σ H1 _ I1 q1) fun iv s2 ⟨x2, H2, I2, r2, q2⟩ => ?_
  refine thn (hg pins s2 σ H2 x1 x2 ov iv _ I2 r1 r2 q2) fun old s3 ⟨x3, H3, I3, r3, q3⟩ => ?_
  refine thn (he pins s3 σ H3 _ I3 q3) fun v s4 ⟨x4, H4, I4, r4, q4⟩ => ?_
  refine thn (hp pins s4 σ H4 x3 x4 old v _ I4 r3 r4 q4) fun new s5 ⟨x5, H5, I5, r5, q5⟩ => ?_
  exact thn (hs pins s5 σ H5 x1 x2 x5 ov iv new _ I5 r1 r2 r5 q5) fun _ s6 ⟨H6, I6, q6⟩ => ⟨σ, H6, I6, q6⟩
def ipI (f : Int → Int → Int) : TIp := fun x y H Q => ∃ i j, x = .int i ∧ y = .int j ∧ Q (.int (f i j)) H
theorem ip_sub : PIp X .Sub (ipI fun i j => i - j) := by
  intro pins s σ H x y v u Q I r1 r2 h
  obtain ⟨i, j, e1, e2, q⟩ := h
  subst e1; subst e2
  obtain ⟨t, rfl⟩ := r1
  obtain ⟨t', rfl⟩ := r2
  exact isub_int ⟨.int _, H, I.tok _, ⟨_, rfl⟩, q⟩
end
section
variable {X : Cx} {pos : Pos}
def tWhile (c : TT) (tb : TS) : TS := fun D σ H => ∃ W : Nat → St → Hp → Prop, (∃ m, W m σ H) ∧ ∀ m σ H, W m σ H →
  c σ H fun b H1 => if b = true then ∃ N : St → Hp → Prop, (∀ σ' H', N σ' H' → ∃ m', m' < m ∧ W m' σ' H') ∧ tb { D with nx := N, ct := N, bk := D.nx } σ H1 else D.nx σ H1
theorem ps_while {c : Expr} {body : List Stmt} {tc : TT} {tb : TS} (hp : PassesOwn (model X.prog X.w) X.A X.env X.xe) (hc : PT X c tc) (hb : PSs X body tb) : PS X (.While c body [] pos) (tWhile tc tb) := by
  intro pins s σ H D I h
  obtain ⟨W, ⟨m0, w0⟩, turn⟩ := h
  refine wpAny_While (codeAny_whileLoop (fun n s' => ∃ σ' H', Inv X pins σ' H' s' ∧ W n σ' H') ?_ m0 ⟨σ, H, I, w0⟩)
  rintro n s1 ⟨σ1, H1, I1, w1⟩
  refine wpAny_passesOwn hp (thn (hc pins s1 σ1 H1 _ I1 (turn n σ1 H1 w1)) fun b s2 ⟨H2, I2, q2⟩ => ?_)
  cases b with
  | true =>
    obtain ⟨N, hN, q2⟩ := q2
    rw [if_pos rfl]
    refine wpAny_passesOwn hp (thn (hb pins s2 σ1 H2 _ I2 q2) fun f s3 q3 => ?_)
    cases f with
    | next =>
      obtain ⟨σ3, H3, I3, n3⟩ := q3
      obtain ⟨m', hm, w3⟩ := hN σ3 H3 n3
      exact ⟨m', hm, σ3, H3, I3, w3⟩
    | cont =>
      obtain ⟨σ3, H3, I3, n3⟩ := q3
      obtain ⟨m', hm, w3⟩ := hN σ3 H3 n3
      exact ⟨m', hm, σ3, H3, I3, w3⟩
    | brk => exact q3
    | ret v => exact q3
  | false =>
    rw [if_neg Bool.false_ne_true]
    exact wpAny_execs_nil ⟨σ1, H2, I2, q2⟩
end
structure It where
  go : Nat → Hp → Prop
  yld : Nat → Hp → V → Hp → Prop
  stop : Nat → Hp → Prop
def FpOk (X : Cx) (pins : List (Addr × Obj)) (H : Hp) (b : Addr) : Prop :=
  H b = none ∧ b ≠ X.env.locals ∧ b ∉ X.fs ∧ (b ∈ X.ex ∨ X.s₀.heap.objs.size ≤ b) ∧ (∀ x c, X.env.cells.lookup x = some c → c ≠ b) ∧ ∀ p ∈ X.pn ++ pins, p.1 ≠ b
theorem Inv.fpOk {X : Cx} {pins : List (Addr × Obj)} {σ : St} {H H' : Hp} {s : Shared} {b : Addr} (I : Inv X pins σ H s) (hb : s.heap.objs.size ≤ b) (hn : H' b = none) : FpOk X pins H' b := by
  refine ⟨hn, Nat.ne_of_gt (Nat.lt_of_lt_of_le I.lt hb), I.nofs hb, .inr (Nat.le_trans I.sz hb), fun x c e z => ?_, fun p hp z => ?_⟩
  · obtain ⟨v, q⟩ := I.cell x c e
    exact absurd (Nat.lt_of_lt_of_le q.lt (by rw [z]; exact hb)) (Nat.lt_irrefl _)
  · exact absurd (Nat.lt_of_lt_of_le (Heap.lt_size (I.pin p hp).1) (by rw [z]; exact hb)) (Nat.lt_irrefl _)
structure Turn (P : Program) (w : World) (K : PySem.W.Frag) (tg : Expr) (J : It) (fp : List Addr) (it : Addr) (tn : Nat → Heap → Prop) : Prop where
  mem : it ∈ fp
  obj : ∀ i h, tn i h → ∀ b ∈ fp, ∃ o, h.get? b = some o ∧ ∀ v, o.data ≠ .cell v
  keep : ∀ i h h', tn i h → (∀ b ∈ fp, ∀ o, h.get? b = some o → h'.get? b = some o) → tn i h'
  item : ∀ (X : Cx), X.prog = P → X.w = w → X.K = K → X.calm = true → ∀ (i : Nat) (pins : List (Addr × Obj)) (s : Shared) (σ : St) (H : Hp) (E : Value → Shared → Prop), Inv X pins σ H s → (∀ b ∈ fp, FpOk X pins H b) → tn i s.heap → J.go i H →
    wpAny (model P w) X.A (pyNext (.ref it)) (fun r s1 => ∃ u, r = some u ∧
      wpAny (model P w) X.A (letOwnedTupleGo tg (.ref it) u) (fun _ s2 => ∃ x H', Inv X pins σ H' s2 ∧ RelV x u ∧ J.yld i H x H' ∧ tn (i + 1) s2.heap ∧ ∀ b ∈ fp, H' b = none) E s1) E s
  done : ∀ (X : Cx), X.prog = P → X.w = w → X.K = K → X.calm = true → ∀ (i : Nat) (pins : List (Addr × Obj)) (s : Shared) (σ : St) (H : Hp) (E : Value → Shared → Prop), Inv X pins σ H s → (∀ b ∈ fp, FpOk X pins H b) → tn i s.heap → J.stop i H →
    wpAny (model P w) X.A (pyNext (.ref it)) (fun r s1 => r = none ∧ Inv X pins σ H s1) E s
  self : ∀ (A : Around) (i : Nat) (s : Shared) (Q : Value → Shared → Prop) (E : Value → Shared → Prop), tn i s.heap → Q (.ref it) s → wpAny (model P w) A (pyIter (.ref it)) Q E s
abbrev TI := St → Hp → (It → Hp → Prop) → Prop
def PIE (X : Cx) (pins : List (Addr × Obj)) (σ : St) (tg : Expr) (R : It → Hp → Prop) (itv : Value) (s2 : Shared) : Prop :=
  ∃ (it : Addr) (fp : List Addr) (tn : Nat → Heap → Prop) (J : It) (H' : Hp), itv = .ref it ∧ Inv X pins σ H' s2 ∧ Turn X.prog X.w X.K tg J fp it tn ∧ tn 0 s2.heap ∧ (∀ b ∈ fp, FpOk X pins H' b) ∧ R J H'
def PI (X : Cx) (tg iter : Expr) (wi : TI) : Prop :=
  ∀ (pins : List (Addr × Obj)) (s : Shared) (σ : St) (H : Hp) (R : It → Hp → Prop), Inv X pins σ H s → wi σ H R →
    wpAny (model X.prog X.w) X.A (eval iter X.env) (fun v s1 => wpAny (model X.prog X.w) X.A (pyIter v) (PIE X pins σ tg R) X.xe s1) X.xe s
theorem go_of {M : Model} {A : Around} {E : Value → Shared → Prop} {s : Shared} {tg : Expr} {it : Addr} {u : Value} {o : Obj} {n : String} {vs : Array Value} {Q : Unit → Shared → Prop} (ho : s.heap.get? it = some o) (hc : o.cls = .type n) (hd : o.data = .fields vs)
    (hn : ["enumerate", "zip", "dict_itemiterator", "dict_reverseitemiterator", "odict_iterator", "itertools.zip_longest", "itertools.pairwise"].contains n = false) (hQ : Q () s) : wpAny M A (letOwnedTupleGo tg (.ref it) u) Q E s := by
  unfold letOwnedTupleGo
  cases tg <;> first
    | exact wpAny_pure hQ
    | (cases u <;> first
        | exact wpAny_pure hQ
        | (refine wpAny_bind (wpAny_load ho ?_)
           rw [hc, hd]
           show wpAny M A (if (["enumerate", "zip", "dict_itemiterator", "dict_reverseitemiterator", "odict_iterator", "itertools.zip_longest", "itertools.pairwise"].contains n && vs[0]? == some (rawInt _)) = true then _ else _) Q E s
           rw [if_neg (by intro h; rw [hn, Bool.false_and] at h; cases h)]
           exact wpAny_pure hQ))
def Itl (K : PySem.W.Frag) (a : Addr) : It :=
  ⟨fun i H => ∃ xs x, SqL K H a xs ∧ xs[i]? = some x, fun i H x H' => H' = H ∧ ∀ xs, SqL K H a xs → xs[i]? = some x, fun i H => ∃ xs, SqL K H a xs ∧ xs.length ≤ i⟩
def Itr (lo : Int) (n : Nat) : It := ⟨fun i _ => i < n, fun i H x H' => H' = H ∧ x = .int (lo + i), fun i _ => n ≤ i⟩
theorem turn_list {P : Program} {w : World} {K : PySem.W.Frag} {tg : Expr} (a it : Addr) : Turn P w K tg (Itl K a) [it] it (fun i h => h.IsListIter it a i) where
  mem := by simp
  obj := fun i h st b hb => by
    have e : b = it := by simpa using hb
    subst e
    obtain ⟨o, e, c, d⟩ := st
    exact ⟨o, e, fun v z => by rw [d] at z; cases z⟩
  keep := fun i h h' st k => st.at fun o e => k it (by simp) o e
  item := by
    intro X hP hw hK hc i pins s σ H E I hf st hg
    subst hP hw hK
    obtain ⟨xs, x, hq, hx⟩ := hg
    obtain ⟨its, rv, p, hz⟩ := I.list hq
    obtain ⟨u, hu, ru⟩ := rv.get hx
    obtain ⟨f0, f1, f2, f3, f4, f5⟩ := hf it (by simp)
    refine wpAny_pyNext_list_item st p.isList (x := u) (by simpa using hu) fun h' st' sb => ?_
    have I1 : Inv X pins σ H { s with heap := h' } := I.turned (t' := s.toks) (fun b o hb e => (sb.2 b hb).trans e) f0 f1 f3 f4 f5
    obtain ⟨o, e, c, d⟩ := id st'
    exact ⟨u, rfl, go_of (s := { s with heap := h' }) e c d (by decide) ⟨x, H, I1, ru, ⟨rfl, fun ys hy => by rw [I.list_inj hy hq]; exact hx⟩, st', fun b hb => (hf b hb).1⟩⟩
  done := by
    intro X hP hw hK hc i pins s σ H E I hf st hg
    subst hP hw hK
    obtain ⟨xs, hq, hx⟩ := hg
    obtain ⟨its, rv, p, hz⟩ := I.list hq
    obtain ⟨f0, f1, f2, f3, f4, f5⟩ := hf it (by simp)
    have hl := rv.length
    exact wpAny_pyNext_list_end (I.ok.hd hc) st p.isList (by simp; omega) fun h' eb => ⟨rfl, I.turned (t' := s.toks) (fun b o hb e => eb b o hb e) f0 f1 f3 f4 f5⟩
  self := fun _ _ _ _ _ st h => wpAny_pyIter_listiter st h
theorem turn_range {P : Program} {w : World} {K : PySem.W.Frag} {tg : Expr} (it : Addr) (lo : Int) (n : Nat) : Turn P w K tg (Itr lo n) [it] it (fun i h => IsRangeIter h it (lo + (i : Nat) * 1) ((n : Int) - (i : Nat)) 1) where
  mem := by simp
  obj := fun i h st b hb => by
    have e : b = it := by simpa using hb
    subst e
    exact ⟨_, st, fun v z => by
      have z' : Data.fields _ = Data.cell v := z
      cases z'⟩
  keep := fun i h h' st k => k it (by simp) _ st
  item := by
    intro X hP hw hK hc i pins s σ H E I hf st hg
    subst hP hw hK
    obtain ⟨f0, f1, f2, f3, f4, f5⟩ := hf it (by simp)
    have W := Walks.range (prog := X.prog) (w := X.w) (I.ok.hd hc) it lo 1 n
    refine W.item i s _ _ hg st fun v h' tk hv st' kk => ?_
    obtain ⟨t, rfl⟩ := hv
    have I1 : Inv X pins σ H { s with heap := h', toks := tk } := I.turned (fun b o hb e => kk b o (by simpa using hb) e) f0 f1 f3 f4 f5
    refine ⟨_, rfl, go_of (s := { s with heap := h', toks := tk }) (n := "range_iterator") st' rfl rfl (by decide) ⟨.int (lo + i), H, I1, ⟨t, ?_⟩, ⟨rfl, rfl⟩, st', fun b hb => (hf b hb).1⟩⟩
    rw [Int.mul_one]
  done := by
    intro X hP hw hK hc i pins s σ H E I hf st hg
    subst hP hw hK
    obtain ⟨f0, f1, f2, f3, f4, f5⟩ := hf it (by simp)
    exact wpAny_pyNext_range_end (I.ok.hd hc) st (by have : n ≤ i := hg; omega) fun h' eb => ⟨rfl, I.turned (t' := s.toks) (fun b o hb e => eb b o hb e) f0 f1 f3 f4 f5⟩
  self := fun _ _ _ _ _ st h => wpAny_pyIter_rangeiter st h
end L2
namespace L2
open PySem PySem.Spec PyProof.Rows
section
variable {X : Cx} {tg : Expr}
def iList (K : PySem.W.Frag) (tl : TE) : TI := fun σ H R => tl σ H fun x H1 => ∃ a, x = .ref a ∧ (∃ xs, SqL K H1 a xs) ∧ R (Itl K a) H1
theorem pi_list {l : Expr} {tl : TE} (hl : PE X l tl) : PI X tg l (iList X.K tl) := by
  intro pins s σ H R I h
  refine thn (hl pins s σ H _ I h) fun v s1 ⟨x, H1, I1, r1, q1⟩ => ?_
  obtain ⟨a, e, ⟨xs, hq⟩, q⟩ := q1
  subst e
  cases r1
  obtain ⟨its, rv, p, hz⟩ := I1.list hq
  refine wpAny_pyIter_list p.isList ?_
  refine ⟨s1.heap.objs.size, [s1.heap.objs.size], _, _, H1, rfl, I1.kept (t' := s1.toks) fun b o e => Heap.get?_push_of_some _ e, turn_list a _, ⟨_, Heap.get?_push_size _ rfl, rfl, rfl⟩, fun b hb => ?_, q⟩
  have e : b = s1.heap.objs.size := by simpa using hb
  subst e
  exact I1.fpOk (Nat.le_refl _) (I1.hok.fresh (Nat.le_refl _))
theorem range_it {pins : List (Addr × Obj)} {σ : St} {H : Hp} {s : Shared} {R : It → Hp → Prop} {E : Value → Shared → Prop} {lo hi : Int} {t u v : Tok} {tk : Nat} (I : Inv X pins σ H s) (h1 : -(2 ^ 62) ≤ lo) (h2 : lo < 2 ^ 62) (h3 : -(2 ^ 62) ≤ hi) (h4 : hi < 2 ^ 62)
    (q : R (Itr lo (hi - lo).toNat) H) : wpAny (model X.prog X.w) X.A (pyIter (.ref s.heap.objs.size)) (PIE X pins σ tg R) E { s with heap := s.heap.push { cls := .type "range", data := .fields #[.int lo t, .int hi u, .int 1 v] }, toks := tk } := by
  refine wpAny_pyIter_range (IsRange.new ..) (small_one h1 h2 h3 h4) ?_
  have I1 : Inv X pins σ H { s with heap := s.heap.push { cls := .type "range", data := .fields #[.int lo t, .int hi u, .int 1 v] }, toks := tk } := I.kept fun b o e => Heap.get?_push_of_some _ e
  refine ⟨(s.heap.push { cls := .type "range", data := .fields #[.int lo t, .int hi u, .int 1 v] }).objs.size, [(s.heap.push { cls := .type "range", data := .fields #[.int lo t, .int hi u, .int 1 v] }).objs.size], _, _, H, rfl,
    I1.kept (t' := tk) fun b o e => Heap.get?_push_of_some _ e, turn_range _ lo (hi - lo).toNat, ?_, fun b hb => ?_, q⟩
  · have e1 : lo + ((0 : Nat) : Int) * 1 = lo := by simp
    have e2 : (((hi - lo).toNat : Nat) : Int) - ((0 : Nat) : Int) = Builtin.Range.rangeSize lo hi 1 := by rw [rangeSize_one]; split <;> omega
    show IsRangeIter _ _ (lo + ((0 : Nat) : Int) * 1) ((((hi - lo).toNat : Nat) : Int) - ((0 : Nat) : Int)) 1
    rw [e1, e2]
    exact Heap.get?_push_size _ rfl
  · have e : b = (s.heap.push { cls := .type "range", data := .fields #[.int lo t, .int hi u, .int 1 v] }).objs.size := by simpa using hb
    subst e
    exact I1.fpOk (Nat.le_refl _) (I1.hok.fresh (Nat.le_refl _))
def iRng1 (ta : TA) : TI := fun σ H R => ta σ H fun vs H1 => ∃ j : Int, vs = [.int j] ∧ -(2 ^ 62) ≤ j ∧ j < 2 ^ 62 ∧ R (Itr 0 j.toNat) H1
theorem pi_range1 {a : Expr} {ta : TA} {p pos : Pos} (hg : Gl X "range") (hm : X.mg "range" = none) (ha : PA X [a] ta) (hs : starEach [a] X.env = [(false, eval a X.env)] := by rfl) : PI X tg (.Call (.Name "range" p) [a] [] pos) (iRng1 ta) := by
  intro pins s σ H R I h
  refine Call_ (ld_blt I hg hm boot_range (PyProof.Rows.callWith_type1 (thn (ha pos pins s σ H _ I h) fun us s1 ⟨vs, H1, I1, r1, q1⟩ => ?_) hs rfl))
  obtain ⟨j, e, q1, q2, q⟩ := q1
  subst e
  cases r1 with
  | cons r rr =>
    cases rr
    obtain ⟨t, rfl⟩ := r
    exact call_range_1 (range_it I1 (by omega) (by omega) q1 q2 (by simpa using q))
def tFor (wi : TI) (g : TG) (tb : TS) : TS := fun D σ H => wi σ H fun J H1 => ∃ W : Nat → Nat → St → Hp → Prop, (∃ m, W 0 m σ H1) ∧ ∀ i m σ H, W i m σ H →
  (J.stop i H ∧ D.nx σ H) ∨ (J.go i H ∧ ∃ N : St → Hp → Prop, (∀ σ' H', N σ' H' → ∃ m', m' < m ∧ W (i + 1) m' σ' H') ∧ ∀ x H', J.yld i H x H' → g x σ H' fun σ2 H2 => tb { D with nx := N, ct := N, bk := D.nx } σ2 H2)
def pinsAt (fp : List Addr) (h : Heap) : List (Addr × Obj) := fp.filterMap fun b => (h.get? b).map fun o => (b, o)
theorem mem_pinsAt {fp : List Addr} {h : Heap} {b : Addr} {o : Obj} (hb : b ∈ fp) (e : h.get? b = some o) : (b, o) ∈ pinsAt fp h := List.mem_filterMap.mpr ⟨b, hb, by rw [e]; rfl⟩
theorem of_pinsAt {fp : List Addr} {h : Heap} {p : Addr × Obj} (hp : p ∈ pinsAt fp h) : p.1 ∈ fp ∧ h.get? p.1 = some p.2 := by
  obtain ⟨b, hb, e⟩ := List.mem_filterMap.mp hp
  cases q : h.get? b with
  | none => rw [q] at e; cases e
  | some o =>
    rw [q] at e
    have e' : (b, o) = p := Option.some.inj e
    subst e'
    exact ⟨hb, q⟩
theorem Inv.pinned {pins : List (Addr × Obj)} {σ : St} {H : Hp} {s : Shared} {fp : List Addr} (I : Inv X pins σ H s) (hf : ∀ b ∈ fp, FpOk X pins H b) (ho : ∀ b ∈ fp, ∃ o, s.heap.get? b = some o ∧ ∀ v, o.data ≠ .cell v) : Inv X (pins ++ pinsAt fp s.heap) σ H s :=
  I.pins_of fun p hp => (List.mem_append.mp hp).elim (fun z => I.pin p (List.mem_append_right _ z)) fun z => by
    obtain ⟨hb, e⟩ := of_pinsAt z
    obtain ⟨f0, f1, f2, _⟩ := hf p.1 hb
    obtain ⟨o, e', d⟩ := ho p.1 hb
    rw [e] at e'; cases e'
    exact ⟨e, f0, f1, f2, d⟩
theorem Inv.unpinned {pins pl : List (Addr × Obj)} {σ : St} {H : Hp} {s : Shared} (I : Inv X (pins ++ pl) σ H s) : Inv X pins σ H s := I.pins_of fun p hp => I.pin p (List.mem_append_right _ (List.mem_append_left _ hp))
theorem ps_for {iter : Expr} {body : List Stmt} {wi : TI} {g : TG} {tb : TS} {pos : Pos} (hp : PassesOwn (model X.prog X.w) X.A X.env X.xe) (hc : X.calm = true) (hi : PI X tg iter wi) (hg : PG X tg g) (hb : PSs X body tb)
    (hs : ∀ x, foldedSetIterable iter X.env x = pure x := by intro _; rfl) : PS X (.For tg iter body [] pos) (tFor wi g tb) := by
  intro pins s σ H D I h
  refine wpAny_For (thn (hi pins s σ H _ I h) fun v s1 h1 => thn h1 fun itv s2 h2 => ?_) hs
  obtain ⟨it, fp, tn, J, H2, e, I2, T, st2, f2, W, ⟨m0, w0⟩, turn⟩ := h2
  subst e
  have stat : ∀ {H' : Hp}, (∀ b ∈ fp, H' b = none) → ∀ b ∈ fp, FpOk X pins H' b := fun hn b hb => ⟨hn b hb, (f2 b hb).2⟩
  refine codeAny_forLoop_any (fun n s' => ∃ i σ' H', Inv X pins σ' H' s' ∧ tn i s'.heap ∧ (∀ b ∈ fp, H' b = none) ∧ W i n σ' H') ?_ m0 ⟨0, σ, H2, I2, st2, fun b hb => (f2 b hb).1, w0⟩
  rintro n s3 ⟨i, σ3, H3, I3, st3, fr3, w3⟩
  rcases turn i n σ3 H3 w3 with ⟨stop, qn⟩ | ⟨go, N, hN, step⟩
  · refine wpAny_passesOwn hp (thn (T.done X rfl rfl rfl hc i pins s3 σ3 H3 X.xe I3 (stat fr3) st3 stop) fun r s4 ⟨hr, I4⟩ => ?_)
    subst hr
    exact wpAny_execs_nil ⟨σ3, H3, I4, qn⟩
  · refine wpAny_passesOwn hp (thn (T.item X rfl rfl rfl hc i pins s3 σ3 H3 X.xe I3 (stat fr3) st3 go) fun r s4 ⟨u, hr, h4⟩ => ?_)
    subst hr
    refine wpAny_passesOwn hp (thn h4 fun _ s5 ⟨x, H5, I5, r5, y5, st5, fr5⟩ => ?_)
    have I5' := I5.pinned (stat fr5) (T.obj _ _ st5)
    refine wpAny_passesOwn hp (thn (hg _ s5 σ3 H5 x u _ I5' r5 (step x H5 y5)) fun _ s6 ⟨σ6, H6, I6, q6⟩ => ?_)
    refine wpAny_passesOwn hp (thn (hb _ s6 σ6 H6 _ I6 q6) fun f s7 q7 => ?_)
    have again : ∀ {σ7 : St} {H7 : Hp}, Inv X (pins ++ pinsAt fp s5.heap) σ7 H7 s7 → N σ7 H7 → ∃ m, m < n ∧ ∃ i σ' H', Inv X pins σ' H' s7 ∧ tn i s7.heap ∧ (∀ b ∈ fp, H' b = none) ∧ W i m σ' H' := fun {σ7 H7} I7 n7 => by
      obtain ⟨m', hm, w7⟩ := hN σ7 H7 n7
      refine ⟨m', hm, i + 1, σ7, H7, I7.unpinned, T.keep _ _ _ st5 fun b hb o e => (I7.pin (b, o) (List.mem_append_right _ (List.mem_append_right _ (mem_pinsAt hb e)))).1, fun b hb => ?_, w7⟩
      obtain ⟨o, e, d⟩ := T.obj _ _ st5 b hb
      exact (I7.pin (b, o) (List.mem_append_right _ (List.mem_append_right _ (mem_pinsAt hb e)))).2.1
    cases f with
    | next => obtain ⟨σ7, H7, I7, n7⟩ := q7; exact again I7 n7
    | cont => obtain ⟨σ7, H7, I7, n7⟩ := q7; exact again I7 n7
    | brk => obtain ⟨σ7, H7, I7, q7⟩ := q7; exact ⟨σ7, H7, I7.unpinned, q7⟩
    | ret v => obtain ⟨x7, σ7, H7, I7, r7, q7⟩ := q7; exact ⟨x7, σ7, H7, I7.unpinned, r7, q7⟩
end
theorem for_list {K : PySem.W.Frag} {a : Addr} {xs : List V} {g : TG} {tb : TS} {D : Ends} {σ : St} {H : Hp} (Pv : Nat → St → Hp → Prop) (h0 : Pv 0 σ H) (hl : ∀ i σ H, i ≤ xs.length → Pv i σ H → SqL K H a xs)
    (hs : ∀ i x σ H, xs[i]? = some x → Pv i σ H → g x σ H fun σ2 H2 => tb { D with nx := Pv (i + 1), ct := Pv (i + 1), bk := D.nx } σ2 H2) (hd : ∀ σ H, Pv xs.length σ H → D.nx σ H) :
    ∃ W : Nat → Nat → St → Hp → Prop, (∃ m, W 0 m σ H) ∧ ∀ i m σ H, W i m σ H →
      ((Itl K a).stop i H ∧ D.nx σ H) ∨ ((Itl K a).go i H ∧ ∃ N : St → Hp → Prop, (∀ σ' H', N σ' H' → ∃ m', m' < m ∧ W (i + 1) m' σ' H') ∧ ∀ x H', (Itl K a).yld i H x H' → g x σ H' fun σ2 H2 => tb { D with nx := N, ct := N, bk := D.nx } σ2 H2) := by
  refine ⟨fun i m σ H => m = xs.length - i ∧ i ≤ xs.length ∧ Pv i σ H, ⟨xs.length, by simp, Nat.zero_le _, h0⟩, ?_⟩
  rintro i m σ H ⟨rfl, hi, p⟩
  have q := hl i σ H hi p
  by_cases hlt : i < xs.length
  · refine .inr ⟨⟨xs, xs[i], q, by simp [hlt]⟩, Pv (i + 1), fun σ' H' p' => ⟨xs.length - (i + 1), by omega, rfl, hlt, p'⟩, fun x H' y => ?_⟩
    obtain ⟨e, y⟩ := y
    subst e
    exact hs i x σ _ (y xs q) p
  · have e : i = xs.length := by omega
    subst e
    exact .inl ⟨⟨xs, q, Nat.le_refl _⟩, hd σ H p⟩
theorem for_range {lo : Int} {n : Nat} {g : TG} {tb : TS} {D : Ends} {σ : St} {H : Hp} (Pv : Nat → St → Hp → Prop) (h0 : Pv 0 σ H)
    (hs : ∀ i σ H, i < n → Pv i σ H → g (.int (lo + i)) σ H fun σ2 H2 => tb { D with nx := Pv (i + 1), ct := Pv (i + 1), bk := D.nx } σ2 H2) (hd : ∀ σ H, Pv n σ H → D.nx σ H) :
    ∃ W : Nat → Nat → St → Hp → Prop, (∃ m, W 0 m σ H) ∧ ∀ i m σ H, W i m σ H →
      ((Itr lo n).stop i H ∧ D.nx σ H) ∨ ((Itr lo n).go i H ∧ ∃ N : St → Hp → Prop, (∀ σ' H', N σ' H' → ∃ m', m' < m ∧ W (i + 1) m' σ' H') ∧ ∀ x H', (Itr lo n).yld i H x H' → g x σ H' fun σ2 H2 => tb { D with nx := N, ct := N, bk := D.nx } σ2 H2) := by
  refine ⟨fun i m σ H => m = n - i ∧ i ≤ n ∧ Pv i σ H, ⟨n, by simp, Nat.zero_le _, h0⟩, ?_⟩
  rintro i m σ H ⟨rfl, hi, p⟩
  by_cases hlt : i < n
  · refine .inr ⟨hlt, Pv (i + 1), fun σ' H' p' => ⟨n - (i + 1), by omega, rfl, hlt, p'⟩, fun x H' y => ?_⟩
    obtain ⟨e, y⟩ := y
    subst e y
    exact hs i σ _ hlt p
  · have e : i = n := by omega
    subst e
    exact .inl ⟨Nat.le_refl _, hd σ H p⟩
end L2
namespace L2
open PySem PySem.Spec PyProof.Rows
abbrev R2 := V → V → Hp → VK → Prop
def OpR (X : Cx) (f : Value → Value → Sem Value) (r : R2) : Prop :=
  ∀ (pins : List (Addr × Obj)) (s : Shared) (σ : St) (H : Hp) (x y : V) (v u : Value) (Q : VK), Inv X pins σ H s → RelV x v → RelV y u → r x y H Q →
    wpAny (model X.prog X.w) X.A (f v u) (EP X pins σ Q) X.xe s
def UnR (X : Cx) (f : Value → Sem Value) (r : V → Hp → VK → Prop) : Prop :=
  ∀ (pins : List (Addr × Obj)) (s : Shared) (σ : St) (H : Hp) (x : V) (v : Value) (Q : VK), Inv X pins σ H s → RelV x v → r x H Q →
    wpAny (model X.prog X.w) X.A (f v) (EP X pins σ Q) X.xe s
def CallR (X : Cx) (f : Value) (r : List V → Hp → VK → Prop) : Prop :=
  ∀ (pins : List (Addr × Obj)) (s : Shared) (σ : St) (H : Hp) (xs : List V) (us : List Value) (Q : VK), Inv X pins σ H s → Vals xs us → r xs H Q →
    wpAny (model X.prog X.w) X.A (call f us) (EP X pins σ Q) X.xe s
def tOp (r : R2) (ta tb : TE) : TE := fun σ H Q => ta σ H fun x H1 => tb σ H1 fun y H2 => r x y H2 Q
def tUn (r : V → Hp → VK → Prop) (ta : TE) : TE := fun σ H Q => ta σ H fun x H1 => r x H1 Q
def rI (C : Int → Int → Prop) (g : Int → Int → V) : R2 := fun x y H Q => ∃ i j, x = .int i ∧ y = .int j ∧ C i j ∧ Q (g i j) H
def rI0 (g : Int → Int → V) : R2 := fun x y H Q => ∃ i j, x = .int i ∧ y = .int j ∧ Q (g i j) H
def rU (g : Int → V) : V → Hp → VK → Prop := fun x H Q => ∃ i, x = .int i ∧ Q (g i) H
section
variable {X : Cx} {a b c : Expr} {ta tb tc : TE} {pos : Pos}
theorem binT (ha : PE X a ta) (hb : PE X b tb) {pins : List (Addr × Obj)} {s : Shared} {σ : St} {H : Hp} {R : V → V → Hp → Prop} (I : Inv X pins σ H s)
    (h : ta σ H fun x H1 => tb σ H1 fun y H2 => R x y H2) {Q : Value → Shared → Prop} {f : Value → Value → Sem Value}
    (hf : ∀ v u s2 x y H2, Inv X pins σ H2 s2 → RelV x v → RelV y u → R x y H2 → wpAny (model X.prog X.w) X.A (f v u) Q X.xe s2) :
    wpAny (model X.prog X.w) X.A (eval a X.env) (fun v s₁ => wpAny (model X.prog X.w) X.A (eval b X.env) (fun u s₂ => wpAny (model X.prog X.w) X.A (f v u) Q X.xe s₂) X.xe s₁) X.xe s := by
  refine thn (ha pins s σ H _ I h) fun v s1 ⟨x, H1, I1, r1, q1⟩ => ?_
  refine thn (hb pins s1 σ H1 _ I1 q1) fun u s2 ⟨y, H2, I2, r2, q2⟩ => ?_
  exact hf v u s2 x y H2 I2 r1 r2 q2
theorem pe_op {op : Operator} {r : R2} (ho : OpR X (binaryOp op) r) (ha : PE X a ta) (hb : PE X b tb) : PE X (.BinOp a op b pos) (tOp r ta tb) := by
  intro pins s σ H Q I h
  exact wpAny_BinOp (binT ha hb I h fun v u s2 x y H2 I2 rx ry q => ho pins s2 σ H2 x y v u Q I2 rx ry q)
theorem pe_un {op : UnaryOp} {r : V → Hp → VK → Prop} (ho : UnR X (unaryOp op) r) (ha : PE X a ta) : PE X (.UnaryOp op a pos) (tUn r ta) := by
  intro pins s σ H Q I h
  exact UnaryOp_ (thn (ha pins s σ H _ I h) fun v s1 ⟨x, H1, I1, r1, q1⟩ => ho pins s1 σ H1 x v Q I1 r1 q1)
theorem opI {f : Value → Value → Sem Value} {C : Int → Int → Prop} {g : Int → Int → Int}
    (rule : ∀ (i j : Int) (t u : Tok) (s : Shared) (Q : Value → Shared → Prop) (E : Value → Shared → Prop), C i j → Q (.int (g i j) s.toks) { s with toks := s.toks + 1 } → wpAny (model X.prog X.w) X.A (f (.int i t) (.int j u)) Q E s) :
    OpR X f (rI C fun i j => .int (g i j)) := by
  intro pins s σ H x y v u Q I rx ry h
  obtain ⟨i, j, rfl, rfl, hc, q⟩ := h
  obtain ⟨t, rfl⟩ := rx
  obtain ⟨t', rfl⟩ := ry
  exact rule i j t t' s _ _ hc ⟨.int (g i j), H, I.tok _, ⟨_, rfl⟩, q⟩
theorem opI0 {f : Value → Value → Sem Value} {g : Int → Int → Int}
    (rule : ∀ (i j : Int) (t u : Tok) (s : Shared) (Q : Value → Shared → Prop) (E : Value → Shared → Prop), Q (.int (g i j) s.toks) { s with toks := s.toks + 1 } → wpAny (model X.prog X.w) X.A (f (.int i t) (.int j u)) Q E s) :
    OpR X f (rI0 fun i j => .int (g i j)) := by
  intro pins s σ H x y v u Q I rx ry h
  obtain ⟨i, j, rfl, rfl, q⟩ := h
  obtain ⟨t, rfl⟩ := rx
  obtain ⟨t', rfl⟩ := ry
  exact rule i j t t' s _ _ ⟨.int (g i j), H, I.tok _, ⟨_, rfl⟩, q⟩
theorem opB0 {f : Value → Value → Sem Value} {g : Int → Int → Bool}
    (rule : ∀ (i j : Int) (t u : Tok) (s : Shared) (Q : Value → Shared → Prop) (E : Value → Shared → Prop), Q (.bool (g i j)) s → wpAny (model X.prog X.w) X.A (f (.int i t) (.int j u)) Q E s) :
    OpR X f (rI0 fun i j => .bl (g i j)) := by
  intro pins s σ H x y v u Q I rx ry h
  obtain ⟨i, j, rfl, rfl, q⟩ := h
  obtain ⟨t, rfl⟩ := rx
  obtain ⟨t', rfl⟩ := ry
  exact rule i j t t' s _ _ ⟨.bl (g i j), H, I, rfl, q⟩
def CDiv (i j : Int) : Prop := 0 < j ∧ j < 1073741824
def CPow (i j : Int) : Prop := 0 ≤ j ∧ j ≤ 1000000 ∧ i.natAbs < 2 ^ 64
def CMul (i j : Int) : Prop := (-(2 ^ 64) < i ∧ i < 2 ^ 64) ∨ (-(2 ^ 64) < j ∧ j < 2 ^ 64)
theorem CMul.ok {i j : Int} (h : CMul i j) : IntMulOk i j := by
  rcases h with ⟨h1, h2⟩ | ⟨h1, h2⟩
  · exact .of_left (intBits_le_64 h1 h2)
  · exact .of_right (intBits_le_64 h1 h2)
theorem op_add : OpR X (binaryOp .Add) (rI0 fun i j => .int (i + j)) := opI0 fun _ _ _ _ _ _ _ q => add_int q
theorem op_sub : OpR X (binaryOp .Sub) (rI0 fun i j => .int (i - j)) := opI0 fun _ _ _ _ _ _ _ q => sub_int q
theorem op_mul : OpR X (binaryOp .Mult) (rI CMul fun i j => .int (i * j)) := opI fun _ _ _ _ _ _ _ hc q => mul_int q hc.ok
theorem op_fdiv : OpR X (binaryOp .FloorDiv) (rI CDiv fun i j => .int (i / j)) := opI fun i j _ _ _ _ _ hc q => by
  have h1 : (0 : Int) < j := hc.1
  have h2 : j < 1073741824 := hc.2
  exact floordiv_int (by omega) (by rw [Int.fdiv_eq_ediv_of_nonneg i (by omega)]; exact q) (.inl (PyProof.noPylong_small (by omega)))
theorem op_mod : OpR X (binaryOp .Mod) (rI (fun _ j => 0 < j) fun i j => .int (i % j)) := opI fun i j _ _ _ _ _ hc q => by
  have h1 : (0 : Int) < j := hc
  exact mod_int' (by omega) (by rw [Int.fmod_eq_emod_of_nonneg i (by omega)]; exact q)
theorem op_pow : OpR X (binaryOp .Pow) (rI CPow fun i j => .int (i ^ j.toNat)) := opI fun _ _ _ _ _ _ _ hc q => pow_int_small hc.1 hc.2.1 hc.2.2 q
theorem unI {f : Value → Sem Value} {g : Int → Int}
    (rule : ∀ (i : Int) (t : Tok) (s : Shared) (Q : Value → Shared → Prop) (E : Value → Shared → Prop), Q (.int (g i) s.toks) { s with toks := s.toks + 1 } → wpAny (model X.prog X.w) X.A (f (.int i t)) Q E s) :
    UnR X f (rU fun i => .int (g i)) := by
  intro pins s σ H x v Q I rx h
  obtain ⟨i, rfl, q⟩ := h
  obtain ⟨t, rfl⟩ := rx
  exact rule i t s _ _ ⟨.int (g i), H, I.tok _, ⟨_, rfl⟩, q⟩
theorem un_neg : UnR X (unaryOp .USub) (rU fun i => .int (-i)) := unI fun _ _ _ _ _ q => neg_int q
end
def scal : V → V → Bool
  | .non, .non => true | .non, .int _ => true | .int _, .non => true | .non, .bl _ => true | .bl _, .non => true | .non, .str _ => true | .str _, .non => true
  | .int _, .int _ => true | .bl _, .bl _ => true | .str _, .str _ => true | .byt _, .byt _ => true
  | .int _, .str _ => true | .str _, .int _ => true | .bl _, .str _ => true | .str _, .bl _ => true
  | _, _ => false
def rEq : R2 := fun x y H Q => scal x y = true ∧ Q (.bl (decide (x = y))) H
def rNe : R2 := fun x y H Q => scal x y = true ∧ Q (.bl (!decide (x = y))) H
theorem dec_int {i j : Int} : decide (V.int i = V.int j) = (i == j) := by
  rw [Bool.eq_iff_iff]
  simp
theorem dec_bl {i j : Bool} : decide (V.bl i = V.bl j) = (i == j) := by
  rw [Bool.eq_iff_iff]
  simp
theorem dec_str {i j : Str} : decide (V.str i = V.str j) = (i == j) := by
  rw [Bool.eq_iff_iff]
  simp
theorem dec_byt {i j : Array UInt8} : decide (V.byt i = V.byt j) = (i.toList == j.toList) := by
  rw [Bool.eq_iff_iff]
  cases i
  cases j
  simp
section
variable {X : Cx} {a b c : Expr} {ta tb tc : TE} {pos : Pos}
theorem fin_bl {pins : List (Addr × Obj)} {σ : St} {H : Hp} {s : Shared} {Q : VK} {k k' : Bool} (I : Inv X pins σ H s) (q : Q (.bl k) H) (e : k = k') : EP X pins σ Q (.bool k') s := by
  subst e
  exact ⟨.bl k, H, I, rfl, q⟩
theorem op_eq : OpR X (compareOp .Eq) rEq := by
  intro pins s σ H x y v u Q I rx ry h
  obtain ⟨hs, q⟩ := h
  cases x with
  | non =>
    cases rx
    cases y with
    | non => cases ry; exact PySem.EqNone.eq_none_none (fin_bl I q (by simp))
    | bl j => cases ry; exact PySem.EqNone.eq_none_bool (fin_bl I q (by simp))
    | int j => obtain ⟨t', rfl⟩ := ry; exact PySem.EqNone.eq_none_int (fin_bl I q (by simp))
    | str j => obtain ⟨t', rfl⟩ := ry; exact PySem.EqNone.eq_none_str (fin_bl I q (by simp))
    | _ => exact absurd (show false = true from hs) Bool.false_ne_true
  | bl i =>
    cases rx
    cases y with
    | non => cases ry; exact PySem.EqNone.eq_bool_none (fin_bl I q (by simp))
    | bl j => cases ry; exact eq_bool (fin_bl I q dec_bl)
    | str j => obtain ⟨t', rfl⟩ := ry; exact PySem.EqMixed.eq_bool_str (fin_bl I q (by simp))
    | _ => exact absurd (show false = true from hs) Bool.false_ne_true
  | int i =>
    obtain ⟨t, rfl⟩ := rx
    cases y with
    | non => cases ry; exact PySem.EqNone.eq_int_none (fin_bl I q (by simp))
    | int j => obtain ⟨t', rfl⟩ := ry; exact eq_int (fin_bl I q dec_int)
    | str j => obtain ⟨t', rfl⟩ := ry; exact PySem.EqMixed.eq_int_str (fin_bl I q (by simp))
    | _ => exact absurd (show false = true from hs) Bool.false_ne_true
  | str i =>
    obtain ⟨t, rfl⟩ := rx
    cases y with
    | non => cases ry; exact PySem.EqNone.eq_str_none (fin_bl I q (by simp))
    | bl j => cases ry; exact PySem.EqMixed.eq_str_bool (fin_bl I q (by simp))
    | int j => obtain ⟨t', rfl⟩ := ry; exact PySem.EqMixed.eq_str_int (fin_bl I q (by simp))
    | str j => obtain ⟨t', rfl⟩ := ry; exact eq_str (fin_bl I q dec_str)
    | _ => exact absurd (show false = true from hs) Bool.false_ne_true
  | byt i =>
    obtain ⟨t, rfl⟩ := rx
    cases y with
    | byt j => obtain ⟨t', rfl⟩ := ry; exact PySem.W.eq_bytes (fin_bl I q dec_byt)
    | _ => exact absurd (show false = true from hs) Bool.false_ne_true
  | _ => cases y <;> exact absurd (show false = true from hs) Bool.false_ne_true
theorem op_ne : OpR X (compareOp .NotEq) rNe := by
  intro pins s σ H x y v u Q I rx ry h
  obtain ⟨hs, q⟩ := h
  cases x with
  | non =>
    cases rx
    cases y with
    | non => cases ry; exact PySem.EqNone.ne_none_none (fin_bl I q (by simp))
    | bl j => cases ry; exact PySem.EqNone.ne_none_bool (fin_bl I q (by simp))
    | int j => obtain ⟨t', rfl⟩ := ry; exact PySem.EqNone.ne_none_int (fin_bl I q (by simp))
    | str j => obtain ⟨t', rfl⟩ := ry; exact PySem.EqNone.ne_none_str (fin_bl I q (by simp))
    | _ => exact absurd (show false = true from hs) Bool.false_ne_true
  | bl i =>
    cases rx
    cases y with
    | non => cases ry; exact PySem.EqNone.ne_bool_none (fin_bl I q (by simp))
    | bl j => cases ry; exact ne_bool (fin_bl I q (congrArg not dec_bl))
    | str j => obtain ⟨t', rfl⟩ := ry; exact PySem.EqMixed.ne_bool_str (fin_bl I q (by simp))
    | _ => exact absurd (show false = true from hs) Bool.false_ne_true
  | int i =>
    obtain ⟨t, rfl⟩ := rx
    cases y with
    | non => cases ry; exact PySem.EqNone.ne_int_none (fin_bl I q (by simp))
    | int j => obtain ⟨t', rfl⟩ := ry; exact ne_int (fin_bl I q (congrArg not dec_int))
    | str j => obtain ⟨t', rfl⟩ := ry; exact PySem.EqMixed.ne_int_str (fin_bl I q (by simp))
    | _ => exact absurd (show false = true from hs) Bool.false_ne_true
  | str i =>
    obtain ⟨t, rfl⟩ := rx
    cases y with
    | non => cases ry; exact PySem.EqNone.ne_str_none (fin_bl I q (by simp))
    | bl j => cases ry; exact PySem.EqMixed.ne_str_bool (fin_bl I q (by simp))
    | int j => obtain ⟨t', rfl⟩ := ry; exact PySem.EqMixed.ne_str_int (fin_bl I q (by simp))
    | str j => obtain ⟨t', rfl⟩ := ry; exact ne_str (fin_bl I q (congrArg not dec_str))
    | _ => exact absurd (show false = true from hs) Bool.false_ne_true
  | byt i =>
    obtain ⟨t, rfl⟩ := rx
    cases y with
    | byt j => obtain ⟨t', rfl⟩ := ry; exact PySem.W.ne_bytes (fin_bl I q (congrArg not dec_byt))
    | _ => exact absurd (show false = true from hs) Bool.false_ne_true
  | _ => cases y <;> exact absurd (show false = true from hs) Bool.false_ne_true
theorem op_lt : OpR X (compareOp .Lt) (rI0 fun i j => .bl (decide (i < j))) := opB0 fun _ _ _ _ _ _ _ q => lt_int q
theorem op_le : OpR X (compareOp .LtE) (rI0 fun i j => .bl (decide (i ≤ j))) := opB0 fun _ _ _ _ _ _ _ q => le_int q
theorem op_gt : OpR X (compareOp .Gt) (rI0 fun i j => .bl (decide (j < i))) := opB0 fun _ _ _ _ _ _ _ q => gt_int q
theorem op_ge : OpR X (compareOp .GtE) (rI0 fun i j => .bl (decide (j ≤ i))) := opB0 fun _ _ _ _ _ _ _ q => ge_int q
theorem op_isN : OpR X (compareOp .Is) (fun x y H Q => y = .non ∧ Q (.bl (decide (x = .non))) H) := by
  intro pins s σ H x y v u Q I rx ry h
  obtain ⟨rfl, q⟩ := h
  cases ry
  refine is_none_gen (fin_bl I q ?_)
  cases x <;> first
    | (cases rx; rfl)
    | (obtain ⟨t, rfl⟩ := rx; rfl)
theorem op_notN : OpR X (compareOp .IsNot) (fun x y H Q => y = .non ∧ Q (.bl (!decide (x = .non))) H) := by
  intro pins s σ H x y v u Q I rx ry h
  obtain ⟨rfl, q⟩ := h
  cases ry
  refine isnot_none_gen (fin_bl I q ?_)
  cases x <;> first
    | (cases rx; rfl)
    | (obtain ⟨t, rfl⟩ := rx; rfl)
theorem nomark (b : Expr) {op : CmpOp} (h : op ≠ .In := by decide) (h2 : op ≠ .NotIn := by decide) : behindInMarks op b = false := by
  have e1 : (op == CmpOp.In) = false := by cases op <;> first | rfl | exact absurd rfl h
  have e2 : (op == CmpOp.NotIn) = false := by cases op <;> first | rfl | exact absurd rfl h2
  cases b <;> simp [behindInMarks, e1, e2]
theorem pe_cmpR {op : CmpOp} {r : R2} (ho : OpR X (compareOp op) r) (ha : PE X a ta) (hb : PE X b tb) (hm : behindInMarks op b = false) : PE X (.Compare a [op] [b] pos) (tOp r ta tb) := by
  intro pins s σ H Q I h
  exact wpAny_Compare1 (binT ha hb I h fun v u s2 x y H2 I2 rx ry q => ho pins s2 σ H2 x y v u Q I2 rx ry q) hm
def tTest (t : TE) : TT := fun σ H Q => t σ H fun x H' => ∃ k, x = .bl k ∧ Q k H'
theorem pt_cmpR {op : CmpOp} {r : R2} (ho : OpR X (compareOp op) r) (ha : PE X a ta) (hb : PE X b tb) (hm : behindInMarks op b = false) : PT X (.Compare a [op] [b] pos) (tTest (tOp r ta tb)) := by
  intro pins s σ H Q I h
  refine wpAny_isTrue_Compare1 (thn (ha pins s σ H _ I h) fun v s1 ⟨x, H1, I1, r1, q1⟩ => thn (hb pins s1 σ H1 _ I1 q1) fun u s2 ⟨y, H2, I2, r2, q2⟩ =>
    thn (ho pins s2 σ H2 x y v u _ I2 r1 r2 q2) fun c s3 ⟨z, H3, I3, r3, k, e, q3⟩ => ?_) hm
  subst e
  cases r3
  exact wpAny_truthy_bool ⟨H3, I3, q3⟩
def tChain (r r' : R2) (ta tb tc : TE) : TE := fun σ H Q => ta σ H fun x H1 => tb σ H1 fun y H2 => r x y H2 fun z H3 => ∃ k, z = .bl k ∧
  (if k = true then tc σ H3 fun w' H4 => r' y w' H4 Q else Q (.bl false) H3)
theorem pt_chain {op op' : CmpOp} {r r' : R2} (ho : OpR X (compareOp op) r) (ho' : OpR X (compareOp op') r') (ha : PE X a ta) (hb : PE X b tb) (hc : PE X c tc)
    (hm : lastMarks [op, op'] [b, c] = false := by with_unfolding_all rfl) : PT X (.Compare a [op, op'] [b, c] pos) (tTest (tChain r r' ta tb tc)) := by
  intro pins s σ H Q I h
  refine isTrue_chain (thn (ha pins s σ H _ I h) fun v s1 ⟨x, H1, I1, r1, q1⟩ => test_link (thn (hb pins s1 σ H1 _ I1 q1) fun u s2 ⟨y, H2, I2, r2, q2⟩ =>
    thn (ho pins s2 σ H2 x y v u _ I2 r1 r2 q2) fun d s3 ⟨z, H3, I3, r3, k, e, q3⟩ => ?_)) hm
  subst e
  cases r3
  refine wpAny_truthy_bool ?_
  cases k with
  | false =>
    obtain ⟨k', e', q'⟩ := q3
    cases e'
    exact ite_ff ⟨H3, I3, q'⟩
  | true =>
    refine ite_tt (test_last (thn (hc pins s3 σ H3 _ I3 q3) fun w' s4 ⟨z', H4, I4, r4, q4⟩ => thn (ho' pins s4 σ H4 y z' u w' _ I4 r2 r4 q4) fun d' s5 ⟨z2, H5, I5, r5, k2, e2, q5⟩ => ?_))
    subst e2
    cases r5
    exact wpAny_truthy_bool ⟨H5, I5, q5⟩
theorem line63 : (sizeLine : Nat) < 2 ^ 63 := by rw [sizeLine_eq]; decide
theorem vals1 {x : V} {us : List Value} (r : Vals [x] us) : ∃ u, us = [u] ∧ RelV x u := by
  cases r with
  | cons r1 r2 => cases r2; exact ⟨_, rfl, r1⟩
theorem vals2 {x y : V} {us : List Value} (r : Vals [x, y] us) : ∃ u w', us = [u, w'] ∧ RelV x u ∧ RelV y w' := by
  cases r with
  | cons r1 r2 =>
    cases r2 with
    | cons r3 r4 => cases r4; exact ⟨_, _, rfl, r1, r3⟩
theorem call_max2 (hc : X.calm = true) : CallR X (.builtin "max") (fun xs H Q => ∃ i j, xs = [.int i, .int j] ∧ Q (.int (if j > i then j else i)) H) := by
  intro pins s σ H xs us Q I r h
  obtain ⟨i, j, rfl, q⟩ := h
  obtain ⟨u, w', rfl, ⟨t, rfl⟩, ⟨t', rfl⟩⟩ := vals2 r
  refine max_two_ints (I.ok.hd hc) fun h' tk k => ⟨_, H, I.kept k, ?_, q⟩
  by_cases hj : j > i
  · rw [if_pos hj, if_pos hj]; exact ⟨_, rfl⟩
  · rw [if_neg hj, if_neg hj]; exact ⟨_, rfl⟩
theorem call_min2 (hc : X.calm = true) : CallR X (.builtin "min") (fun xs H Q => ∃ i j, xs = [.int i, .int j] ∧ Q (.int (if j < i then j else i)) H) := by
  intro pins s σ H xs us Q I r h
  obtain ⟨i, j, rfl, q⟩ := h
  obtain ⟨u, w', rfl, ⟨t, rfl⟩, ⟨t', rfl⟩⟩ := vals2 r
  refine min_two_ints (I.ok.hd hc) fun h' tk k => ⟨_, H, I.kept k, ?_, q⟩
  by_cases hj : j < i
  · rw [if_pos hj, if_pos hj]; exact ⟨_, rfl⟩
  · rw [if_neg hj, if_neg hj]; exact ⟨_, rfl⟩
end
end L2
namespace L2
open PySem PySem.Spec PyProof.Rows
structure ObjM (h : Heap) (x dx C : Addr) (mA : Str → Option Value) : Prop where
  obj : h.get? x = some (PySem.W.instObj C dx)
  ns : h.Ns1 dx mA
  ne : dx ≠ x
theorem lookIn_ns {h : Heap} {dx : Addr} {mA : Str → Option Value} (n : h.Ns1 dx mA) : ∃ od, h.get? dx = some od ∧ ∀ name, PySem.W.lookIn name od = some (mA name) := by
  obtain ⟨o, es, ep, ho, hd, hk, _, hm⟩ := n
  refine ⟨o, ho, fun name => ?_⟩
  have e := hm name
  unfold nsFind findBy at e
  rw [← Array.find?_toList] at e
  unfold PySem.W.lookIn
  rw [hd]
  dsimp only
  split
  · rename_i y q
    rw [q] at e
    exact congrArg some e
  · rename_i q
    rw [q] at e
    have a : es.toList.any (·.refKey) = false := by
      rw [List.any_eq_false]
      intro y hy
      obtain ⟨z, t, hkey⟩ := hk y (Array.mem_toList_iff.mp hy)
      simp [DictEntry.refKey, hkey]
    have a' : ¬ es.toList.any (·.refKey) = true := by rw [a]; exact Bool.false_ne_true
    rw [if_neg a']
    exact congrArg some e
theorem ObjM.look {h : Heap} {x dx C : Addr} {mA : Str → Option Value} (I : ObjM h x dx C mA) : ∃ od, PySem.W.InstAt h x (PySem.W.instObj C dx) C (some od) ∧ ∀ name, PySem.W.lookIn name od = some (mA name) :=
  let ⟨od, ho, hl⟩ := lookIn_ns I.ns
  ⟨od, ⟨I.obj, rfl, rfl, ho⟩, hl⟩
section
variable {prog : Program} {w : World} {A : Around} {E : Value → Shared → Prop} {s : Shared} {K : PySem.W.Frag} {x dx C f : Addr} {mA : Str → Option Value} {name : Str} {v : Value}
end
section
variable {P : Program} {w : World} {H H' : Hp} {h h' : Heap} {a C dx : Addr} {fs fs' : List (Str × V)}
theorem ins_get (hok : HOk P w H h) (e : H a = some (.ins C dx fs)) : ∃ mA, ObjM h a dx C mA ∧ (∀ f, RelO (fs.lookup f) (mA f)) ∧ PySem.Within mA (fs.map (·.1)) ∧ fs.length ≤ 1000 ∧ H dx = some (.own a) := by
  obtain ⟨d, z, ne, ob, mA, n, r, q⟩ := (show ObjOk P w H h a (.ins C dx fs) from hok a _ e)
  exact ⟨mA, ⟨ob, n, ne⟩, r, q, z, d⟩
end
structure Cls (K : PySem.W.Frag) (C : Addr) : Prop where
  pg : PySem.W.plainGet K C Str.empty = true
  hd : PySem.W.hasDictIn K C = true
  po : PySem.W.plainOver K C = true
  sa : PySem.W.findIn K (.ref C) "__setattr__" = some (some (.builtin "object.__setattr__"))
theorem Cls.get {K : PySem.W.Frag} {C : Addr} (c : Cls K C) (f : Str) : PySem.W.plainGet K C f = true := c.pg
section
variable {X : Cx} {pins : List (Addr × Obj)} {σ : St} {H : Hp} {s : Shared} {a C dx : Addr} {fs : List (Str × V)} {f : Str} {v : V} {A : Around} {E : Value → Shared → Prop}
end
section
variable {X : Cx} {o e value : Expr} {f : Str} {pos pos' tpos : Pos} {ta tv : TE}
end
section
variable {X : Cx} {pins : List (Addr × Obj)} {σ : St} {H : Hp} {s : Shared} {A : Around} {E : Value → Shared → Prop} {Q : Value → Shared → Prop} {c : Value} {b : Bool}
inductive TyOf (K : PySem.W.Frag) (H : Hp) : V → Value → Prop where
  | non : TyOf K H .non (.type "NoneType")
  | bl (x : Bool) : TyOf K H (.bl x) (.type "bool")
  | int (i : Int) : TyOf K H (.int i) (.type "int")
  | str (x : Str) : TyOf K H (.str x) (.type "str")
  | flt (x : UInt64) : TyOf K H (.flt x) (.type "float")
  | lst {a : Addr} {xs : List V} (e : H a = some (.lst xs)) : TyOf K H (.ref a) (.type "list")
  | frz {a : Addr} {o : Obj} {xs : List V} (e : H a = some (.frz o (.lst xs))) : TyOf K H (.ref a) (.type "list")
  | tup {a : Addr} {xs : List V} (e : H a = some (.tup xs)) : TyOf K H (.ref a) (.type "tuple")
  | dK {a : Addr} {kvs : List (Key × V)} (e : H a = some (.dK kvs)) : TyOf K H (.ref a) (.type "dict")
  | dT {a : Addr} {kvs : List (List Key × V)} (e : H a = some (.dT kvs)) : TyOf K H (.ref a) (.type "dict")
  | ins {a C dx : Addr} {fs : List (Str × V)} (e : H a = some (.ins C dx fs)) (cl : Cls K C) (ha : PySem.W.findIn K (.ref C) "__class__" = some (some (.builtin "object.__class__")))
      (hn : PySem.W.specialIn K (.builtin "object.__class__") "__get__" = some (some (.builtin "getset_descriptor.__get__"))) (htk : PySem.W.takesIn K (.builtin "object.__class__") = some true)
      (hm : PySem.W.mroIn K C (.type "object") = some true) : TyOf K H (.ref a) (.ref C)
theorem isinst_ok {x : V} {u t : Value} (I : Inv X pins σ H s) (rx : RelV x u) (ty : TyOf X.K H x t) (e : PySem.W.kitOne X.K t c = some b) (h : ∀ tk, Q (.bool b) { s with toks := tk }) :
    wpAny (model X.prog X.w) A (call (.builtin "isinstance") [u, c]) Q E s := by
  cases ty with
  | non => cases (show u = Value.none from rx); exact PySem.W.kia_one PySem.W.kitx_none I.kIn True.intro e (fun z => nomatch z) h
  | bl y => cases (show u = Value.bool y from rx); exact PySem.W.kia_one PySem.W.kitx_bool I.kIn True.intro e (fun z => nomatch z) h
  | int i => obtain ⟨t, q⟩ := (show ∃ t, u = Value.int i t from rx); cases q; exact PySem.W.kia_one PySem.W.kitx_int I.kIn True.intro e (fun z => nomatch z) h
  | str y => obtain ⟨t, q⟩ := (show ∃ t, u = Value.str y t from rx); cases q; exact PySem.W.kia_one PySem.W.kitx_str I.kIn True.intro e (fun z => nomatch z) h
  | flt y => obtain ⟨t, q⟩ := (show ∃ t, u = Value.float y t from rx); cases q; exact PySem.W.kia_one PySem.W.kitx_float I.kIn True.intro e (fun z => nomatch z) h
  | @lst a xs ea =>
    cases (show u = Value.ref a from rx)
    obtain ⟨_, _, n, _, h1⟩ := (show ObjOk X.prog X.w H s.heap a (.lst xs) from I.hok a _ ea)
    exact PySem.W.kia_one PySem.W.kitx_list I.kIn ⟨_, h1, rfl⟩ e (fun z => nomatch z) h
  | @frz a ob xs ea =>
    cases (show u = Value.ref a from rx)
    obtain ⟨_, _, _, n, _, h1⟩ := (show ObjOk X.prog X.w H s.heap a (.frz ob (.lst xs)) from I.hok a _ ea)
    exact PySem.W.kia_one PySem.W.kitx_list I.kIn ⟨_, h1, rfl⟩ e (fun z => nomatch z) h
  | @tup a xs ea =>
    cases (show u = Value.ref a from rx)
    obtain ⟨_, _, _, p⟩ := (show ObjOk X.prog X.w H s.heap a (.tup xs) from I.hok a _ ea)
    obtain ⟨o, h1, h2, _⟩ := p
    exact PySem.W.kia_one PySem.W.kitx_tuple I.kIn ⟨o, h1, h2⟩ e (fun z => nomatch z) h
  | @dK a kvs ea =>
    cases (show u = Value.ref a from rx)
    obtain ⟨_, _, vs, _, p⟩ := (show ObjOk X.prog X.w H s.heap a (.dK kvs) from I.hok a _ ea)
    obtain ⟨o, es, ep, h1, h2, _⟩ := p
    exact PySem.W.kia_one PySem.W.kitx_dict I.kIn ⟨o, h1, h2.1⟩ e (fun z => nomatch z) h
  | @dT a kvs ea =>
    cases (show u = Value.ref a from rx)
    obtain ⟨_, _, xs, _, o, es, ep, h1, h2, _⟩ := (show ObjOk X.prog X.w H s.heap a (.dT kvs) from I.hok a _ ea)
    exact PySem.W.kia_one PySem.W.kitx_dict I.kIn ⟨o, h1, h2.1⟩ e (fun z => nomatch z) h
  | @ins a C dx fs ea cl ha hn htk hm =>
    cases (show u = Value.ref a from rx)
    obtain ⟨mA, O, _⟩ := ins_get I.hok ea
    obtain ⟨od, J, _⟩ := O.look
    exact PySem.W.kia_one (PySem.W.kitx_own (cl.get _) cl.hd ha hn htk hm) I.kIn J e (fun z => nomatch z) h
end
end L2
namespace L2
open PySem PySem.Spec PyProof.Rows
structure Room (k : Nat) (A : Around) : Prop where
  hd : A.handled = none
  dp : A.depth + 3 * k + 5 < recursionLimit
  un : A.units + 16 * k + 200 < cLine
theorem Room.mono {j k : Nat} {A : Around} (r : Room k A) (h : j ≤ k) : Room j A := ⟨r.hd, by have := r.dp; omega, by have := r.un; omega⟩
theorem Room.deeper {k : Nat} {A : Around} (r : Room (k + 1) A) (env : Env) : Room k (A.deeper env) :=
  ⟨r.hd, by have := r.dp; show A.depth + 1 + 3 * k + 5 < _; omega, by have := r.un; show A.units + 3 + 16 * k + 200 < _; omega⟩
theorem Room.depth {k : Nat} {A : Around} (r : Room k A) : A.depth < recursionLimit := by have := r.dp; omega
theorem Room.units {k : Nat} {A : Around} (r : Room k A) : A.units + 64 < cLine := by have := r.un; omega
def tNil : TA := fun _ H Q => Q [] H
def tCons (ta : TE) (tr : TA) : TA := fun σ H Q => ta σ H fun x H1 => tr σ H1 fun xs H2 => Q (x :: xs) H2
section
variable {X : Cx} {e : Expr} {es : List Expr} {te : TE} {t : TA} {pos : Pos}
theorem pa_nil : PA X [] tNil := fun _ _ _ _ H Q I h => Calls.spliced_nil ⟨[], H, I, .nil, h⟩
theorem pa_cons (ha : PE X e te) (hr : PA X es t) (hs : starEach (e :: es) X.env = (false, eval e X.env) :: starEach es X.env := by rfl) : PA X (e :: es) (tCons te t) := by
  intro pos pins s σ H Q I h
  rw [hs]
  show wpAny _ _ (spliced ((false, eval e X.env) :: backTo pos (starEach es X.env))) _ _ s
  refine Calls.spliced_cons (thn (ha pins s σ H _ I h) fun u s1 ⟨x, H1, I1, r1, q1⟩ => ?_)
  exact thn (hr pos pins s1 σ H1 _ I1 q1) fun us s2 ⟨xs, H2, I2, r2, q2⟩ => ⟨x :: xs, H2, I2, .cons r1 r2, q2⟩
def tTup (t : TA) : TE := fun σ H Q => t σ H fun xs H1 => xs.length ≤ sizeLine ∧ ∀ p, H1 p = none → Q (.ref p) (upd H1 p (.tup xs))
def tLst (t : TA) : TE := fun σ H Q => t σ H fun xs H1 => xs.length ≤ sizeLine ∧ ∀ p, H1 p = none → Q (.ref p) (upd H1 p (.lst xs))
theorem pe_tup {x1} (h : PA X es t) : PE X (.Tuple es x1 pos) (tTup t) := by
  intro pins s σ H Q I hq
  refine wpAny_Tuple_spliced (thn (h pos pins s σ H _ I hq) fun us s1 ⟨xs, H1, I1, r, z, q⟩ => ⟨by rw [← r.length]; exact z, ?_⟩)
  have hf : H1 s1.heap.objs.size = none := I1.hok.fresh (Nat.le_refl _)
  refine ⟨.ref s1.heap.objs.size, upd H1 s1.heap.objs.size (.tup xs), I1.laid (t' := s1.toks) (fun b u e => Heap.get?_push_of_some _ e) (Nat.le_refl _) ?_, rfl, q _ hf⟩
  exact ⟨z, us, r, ⟨_, Heap.get?_push_size _ rfl, rfl, _, rfl⟩⟩
theorem pe_lst (h : PA X es t) : PE X (.List es pos) (tLst t) := by
  intro pins s σ H Q I hq
  refine wpAny_List_spliced (thn (h pos pins s σ H _ I hq) fun us s1 ⟨xs, H1, I1, r, z, q⟩ => ⟨by rw [← r.length]; exact z, ?_⟩)
  have hf : H1 s1.heap.objs.size = none := I1.hok.fresh (Nat.le_refl _)
  refine ⟨.ref s1.heap.objs.size, upd H1 s1.heap.objs.size (.lst xs), I1.laid (t' := s1.toks) (fun b u e => Heap.get?_push_of_some _ e) (Nat.le_refl _) ?_, rfl, q _ hf⟩
  exact ⟨z, us, 0, r, Heap.get?_push_size _ rfl⟩
end
abbrev Sp := List V → Hp → VK → XK → Prop
abbrev CXT := List Env → Hp → Shared → XK → Value → Shared → Prop
structure Env0 (P : Program) (w : World) (K : PySem.W.Frag) (mg : Str → Option Value) (base : Heap) (A : Around) (outer : List Env) (s : Shared) (H : Hp) : Prop where
  frames : A.frames = some outer
  mod : Mod K mg base
  bs : ∀ b o, base.get? b = some o → s.heap.get? b = some o ∧ H b = none
  bsz : base.objs.size ≤ s.heap.objs.size
  funs : s.heap.FunFrames base outer
  frf : ∀ b ∈ frs outer, H b = none
  hok : HOk P w H s.heap
  bare : AllBare s.gens
def CE (outer : List Env) (P : Program) (w : World) (H : Hp) (s : Shared) (Q : VK) (u : Value) (s' : Shared) : Prop :=
  ∃ v H', s'.os = s.os ∧ AllBare s'.gens ∧ Un (frs outer) [] H H' s.heap s'.heap ∧ HOk P w H' s'.heap ∧ RelV v u ∧ Q v H'
def CR (CX : CXT) (outer : List Env) (P : Program) (w : World) (H : Hp) (s : Shared) (Q : VK) (E : XK) (r : Result) (s' : Shared) : Prop :=
  match r with
  | .ok (.ret u) => CE outer P w H s Q u s'
  | .ok _ => False
  | .error e => CX outer H s E e s'
structure FnOk (P : Program) (w : World) (K : PySem.W.Frag) (mg : Str → Option Value) (base : Heap) (CX : CXT) (k : Nat) (f : Addr) (fd : FuncData) (ps : List Str) (sp : Sp) : Prop where
  len : ∀ vs H Q E, sp vs H Q E → vs.length = ps.length
  run : ∀ (A : Around) (outer : List Env) (s : Shared) (H : Hp) (args : Args) (us : List Value) (vs : List V) (Q : VK) (E : XK), Room k A → Env0 P w K mg base A outer s H → BindsTo s fd args (ps.zip us) → Vals vs us → sp vs H Q E →
    codeAny (model P w) A (.call (.ref f) args) (CR CX outer P w H s Q E) s
section
variable {X : Cx} {pins : List (Addr × Obj)} {σ : St} {H : Hp} {s s' : Shared}
theorem Inv.env0 (I : Inv X pins σ H s) : Env0 X.prog X.w X.K X.mg X.base X.A X.stack s H :=
  ⟨I.ok.frames, I.ok.mod, I.bs, Nat.le_trans I.ok.bsz I.sz, I.stack, I.stkFree, I.hok, I.bare⟩
theorem Inv.after {Q : VK} {u : Value} (I : Inv X pins σ H s) (h : CE X.stack X.prog X.w H s Q u s') : EP X pins σ Q u s' := by
  obtain ⟨v, H', os, bare, un, hok, r, q⟩ := h
  obtain ⟨hh, g, d, t, os'⟩ := s'
  obtain rfl : os' = s.os := os
  exact ⟨v, H', I.call (h' := hh) (g' := g) (d' := d) (t' := t) (ch := []) un hok bare (fun b z => absurd z (by simp)), r, q⟩
end
def tCall (sp : Sp) (dvs : List V) (E : XK) (t : TA) : TE := fun σ H Q => t σ H fun vs H1 => sp (vs ++ dvs) H1 Q E
def Binds (K : PySem.W.Frag) (fd : FuncData) (ps : List Str) (ds : List Value) : Prop :=
  ∀ (s : Shared) (us : List Value), K.In s.heap → (us ++ ds).length = ps.length → BindsTo s fd ⟨us, []⟩ (ps.zip (us ++ ds))
theorem Binds.all {K : PySem.W.Frag} {fd : FuncData} {ps : List Str} (h : ∀ us : List Value, us.length = ps.length → bindArgs fd ⟨us, []⟩ = pure (ps.zip us)) : Binds K fd ps [] := fun s us _ hl => by
  rw [List.append_nil] at hl ⊢
  exact .of_eq (h us hl)
def Passes (CX : CXT) (X : Cx) (E : XK) : Prop := ∀ (pins : List (Addr × Obj)) (σ : St) (H : Hp) (s : Shared) (e : Value) (s' : Shared), Inv X pins σ H s → CX X.stack H s E e s' → X.xe e s'
section
variable {X : Cx} {CX : CXT} {k : Nat} {f C : Addr} {fd : FuncData} {ps : List Str} {sp : Sp} {dvs : List V} {ds : List Value} {E : XK} {x m : Str} {p pos apos : Pos} {e o : Expr} {es : List Expr} {ta : TE} {t : TA}
theorem run_fn {pins : List (Addr × Obj)} {σ : St} {H : Hp} {s : Shared} {Q : VK} {us : List Value} {vs : List V} (F : FnOk X.prog X.w X.K X.mg X.base CX k f fd ps sp) (hr : Room k X.A) (hb : Binds X.K fd ps ds) (hd : Vals dvs ds) (hx : Passes CX X E)
    (I : Inv X pins σ H s) (r : Vals vs us) (h : sp (vs ++ dvs) H Q E) : wpAny (model X.prog X.w) X.A (call (.ref f) us) (EP X pins σ Q) X.xe s := by
  have r2 : Vals (vs ++ dvs) (us ++ ds) := r.append hd
  have hl : (us ++ ds).length = ps.length := by rw [← r2.length]; exact F.len _ _ _ _ h
  refine wpAny_call (codeAny_mono (F.run X.A X.stack s H ⟨us, []⟩ (us ++ ds) (vs ++ dvs) Q E hr I.env0 (hb s us I.kIn hl) r2 h) fun r s' hq => ?_)
  cases r with
  | error e => exact hx pins σ H s e s' I hq
  | ok fl =>
    cases fl with
    | ret u => exact I.after hq
    | next => exact False.elim hq
    | brk => exact False.elim hq
    | cont => exact False.elim hq
theorem pe_call (F : FnOk X.prog X.w X.K X.mg X.base CX k f fd ps sp) (hr : Room k X.A) (hg : Gl X x) (hm : X.mg x = some (.ref f)) (hk : PySem.W.keepIn X.K (.ref f) = true) (hb : Binds X.K fd ps ds) (hd : Vals dvs ds) (hx : Passes CX X E)
    (ha : PA X (e :: es) t) (hdb : (x == ("__debug__" : Str)) = false := by decide) (he : starEach (e :: es) X.env = (false, eval e X.env) :: starEach es X.env := by rfl) (hpl : (backTo pos (starEach es X.env)).any (·.1) = false := by rfl) :
    PE X (.Call (.Name x p) (e :: es) [] pos) (tCall sp dvs E t) := by
  intro pins s σ H Q I h
  refine wpAny_Call_Name_kw (ld_glob I hg hm ?_ hdb)
  refine PySem.W.callWith_K (h₀ := X.base) I.ok.mod.kin hk (thn (ha pos pins s σ H _ I h) fun us s1 ⟨vs, H1, I1, r, q⟩ => ⟨I1.kIn, ?_⟩) he hpl
  exact run_fn F hr hb hd hx I1 r q
end
section
variable {X : Cx} {CX : CXT} {k : Nat} {f C : Addr} {fd : FuncData} {ps ks : List Str} {sp : Sp} {E : XK} {x m : Str} {p pos apos kpos : Pos} {e o : Expr} {es : List Expr} {kws : List Keyword} {te ta : TE} {t tk : TA} {nm : Option Str}
variable {g : List Value → List Value → List Value} {gV : List V → List V → List V}
end
structure FnScope (N P : List Str) (sc : Scope) : Prop where
  kind : sc.kind = .function
  co : sc.isCoroutine = false
  gen : sc.isGenerator = false
  nd : N.Nodup
  pre : N.take P.length = P
  par : ∀ x ∈ P, sc.names.lookup x = some .local ∨ sc.names.lookup x = some .cell
  nofree : ∀ y ∈ sc.names, y.2 ≠ .free
theorem bindL_out {kindOf : Str → Option NameKind} {x : Str} : ∀ {binds : List (Str × Value)} {m : Str → Option Value}, (∀ v, (x, v) ∉ binds) → bindL kindOf binds m x = m x
  | [], _, _ => rfl
  | (n, v) :: r, m, h => by
    unfold bindL
    rw [bindL_out fun w hw => h w (List.mem_cons_of_mem _ hw)]
    split
    · have : x ≠ n := by rintro rfl; exact h v List.mem_cons_self
      simp [this]
    · rfl
theorem bindC_out {kindOf : Str → Option NameKind} {x : Str} : ∀ {binds : List (Str × Value)} {m : Str → Option Value}, (∀ v, (x, v) ∉ binds) → bindC kindOf binds m x = m x
  | [], _, _ => rfl
  | (n, v) :: r, m, h => by
    unfold bindC
    rw [bindC_out fun w hw => h w (List.mem_cons_of_mem _ hw)]
    split
    · rfl
    · have : x ≠ n := by rintro rfl; exact h v List.mem_cons_self
      simp [this]
theorem bindL_get {kindOf : Str → Option NameKind} {x : Str} {v : Value} : ∀ {P : List Str} {vs : List Value} {i : Nat} {m : Str → Option Value}, P.Nodup → P[i]? = some x → vs[i]? = some v → kindOf x = some .local →
    bindL kindOf (P.zip vs) m x = some v
  | [], _, _, _, _, h, _, _ => by simp at h
  | _ :: _, [], _, _, _, _, h, _ => by simp at h
  | p :: P, w :: vs, 0, m, nd, h1, h2, hk => by
    simp at h1 h2; subst h1; subst h2
    show bindL kindOf ((p, w) :: P.zip vs) m p = _
    unfold bindL
    rw [bindL_out fun v hv => (List.nodup_cons.mp nd).1 (List.of_mem_zip hv).1, if_pos hk]
    simp
  | p :: P, w :: vs, i + 1, m, nd, h1, h2, hk => by
    show bindL kindOf ((p, w) :: P.zip vs) m x = _
    unfold bindL
    exact bindL_get (i := i) (List.nodup_cons.mp nd).2 (by simpa using h1) (by simpa using h2) hk
theorem bindC_get {kindOf : Str → Option NameKind} {x : Str} {v : Value} : ∀ {P : List Str} {vs : List Value} {i : Nat} {m : Str → Option Value}, P.Nodup → P[i]? = some x → vs[i]? = some v → kindOf x ≠ some .local →
    bindC kindOf (P.zip vs) m x = some v
  | [], _, _, _, _, h, _, _ => by simp at h
  | _ :: _, [], _, _, _, _, h, _ => by simp at h
  | p :: P, w :: vs, 0, m, nd, h1, h2, hk => by
    simp at h1 h2; subst h1; subst h2
    show bindC kindOf ((p, w) :: P.zip vs) m p = _
    unfold bindC
    rw [bindC_out fun v hv => (List.nodup_cons.mp nd).1 (List.of_mem_zip hv).1, if_neg hk]
    simp
  | p :: P, w :: vs, i + 1, m, nd, h1, h2, hk => by
    show bindC kindOf ((p, w) :: P.zip vs) m x = _
    unfold bindC
    exact bindC_get (i := i) (List.nodup_cons.mp nd).2 (by simpa using h1) (by simpa using h2) hk
def start (N : List Str) (vs : List V) : St := vs.map some ++ List.replicate (N.length - vs.length) none
def cxOf (CX : CXT) (P : Program) (w : World) (K : PySem.W.Frag) (mg : Str → Option Value) (base : Heap) (N : List Str) (qual : Str) (scope : Scope) (f : Addr) (cd : Value) (A : Around) (outer : List Env) (s : Shared) (H : Hp) (E : XK) : Cx where
  prog := P
  w := w
  K := K
  mg := mg
  base := base
  A := A.deeper (envOfC qual scope s.heap.objs.size f cd)
  N := N
  s₀ := s
  H₀ := H
  env := envOfC qual scope s.heap.objs.size f cd
  outer := outer
  stack := envOfC qual scope s.heap.objs.size f cd :: outer
  ex := []
  calm := true
  fn := fun _ => true
  pn := []
  xe := fun e s' => wpAny (model P w) (A.deeper (envOfC qual scope s.heap.objs.size f cd)) (leaving (envOfC qual scope s.heap.objs.size f cd) e) (fun _ s'' => CX outer H s E e s'') (fun e' s'' => CX outer H s E e' s'') s'
theorem cell_has {sc : Scope} {n : Nat} {x : Str} (h : sc.names.lookup x = some .cell) : ∃ c, (cellsFrom n sc.names []).lookup x = some c := by
  have q := PySem.W.cellsFrom_some sc.names n [] (.inl h)
  exact Option.isSome_iff_exists.mp q
theorem inv_start {CX : CXT} {P : Program} {w : World} {K : PySem.W.Frag} {mg : Str → Option Value} {base : Heap} {N ps : List Str} {qual : Str} {scope : Scope} {f : Addr} {cd : Value} {A : Around} {outer : List Env} {s s1 : Shared} {H : Hp} {E : XK} {us : List Value} {vs : List V}
    (S : FnScope N ps scope) (hd : A.handled = none) (e0 : Env0 P w K mg base A outer s H) (hl : vs.length = ps.length) (r : Vals vs us)
    (x : InCallC s s.heap.objs.size (bindL (envOfC qual scope s.heap.objs.size f cd).kindOf (ps.zip us) fun _ => none) (cellsFrom (s.heap.objs.size + 1) scope.names []) (bindC (envOfC qual scope s.heap.objs.size f cd).kindOf (ps.zip us) fun _ => none) s1) :
    Inv (cxOf CX P w K mg base N qual scope f cd A outer s H E) [] (start N vs) H s1 := by
  have hpl : ps.length ≤ N.length := by have := congrArg List.length S.pre; rw [List.length_take] at this; omega
  obtain ⟨h1, tk, rfl, hk⟩ := x.done
  have noA : ∀ b : Addr, b ∉ (cxOf CX P w K mg base N qual scope f cd A outer s H E).ex := fun b z => absurd (show b ∈ ([] : List Addr) from z) (by simp)
  refine ⟨⟨e0.mod, S.kind, rfl, rfl, Nat.le_refl _, fun y z c h1 h2 => ?_, fun y hy => ?_, fun y c _ h => ?_, fun _ => hd, Around.frames_deeper e0.frames, .inr ⟨rfl, rfl⟩, fun b z => absurd z (noA b), e0.bs, e0.bsz, fun b _ _ => noA b, fun b z => absurd z (noA b), e0.funs, e0.frf⟩,
    rfl, e0.bare, Un.kept hk, ⟨_, x.toInCall.ns, fun i y v h1 h2 h3 => ?_⟩, fun y c h => ⟨_, x.cell y c h⟩, e0.hok.fresh (Nat.le_refl _), fun y c h => ?_, fun p hp => absurd (show p ∈ ([] : List (Addr × Obj)) from hp) (by simp), e0.hok.kept hk, ?_⟩
  · exact name_of_addr x.apart (PySem.mem_of_lookup h1) (PySem.mem_of_lookup h2)
  · have hy : scope.names.lookup y = some .cell ∨ scope.names.lookup y = some .free := hy
    rcases hy with hy | hy
    · exact cell_has hy
    · exact absurd rfl (S.nofree _ (PySem.mem_of_lookup hy))
  · exact Nat.le_of_lt (x.above y c (PySem.mem_of_lookup h))
  · have hi : i < vs.length := by
      unfold start at h2
      by_cases hi : i < vs.length
      · exact hi
      · rw [List.getElem?_append_right (by simpa using hi)] at h2
        rw [List.getElem?_replicate] at h2
        split at h2 <;> cases h2
    have ha : vs[i]? = some v := by
      unfold start at h2
      rw [List.getElem?_append_left (by simpa using hi), List.getElem?_map] at h2
      cases e : vs[i]? with
      | none => rw [e] at h2; cases h2
      | some a => rw [e] at h2; cases h2; rfl
    obtain ⟨u, hu, rv⟩ := r.get ha
    have hp : ps[i]? = some y := by
      rw [← S.pre, List.getElem?_take_of_lt (by omega)]; exact h1
    have ndP : ps.Nodup := by rw [← S.pre]; exact S.nd.sublist (List.take_sublist _ _)
    refine ⟨u, rv, ?_⟩
    rcases S.par y (List.mem_of_getElem? hp) with k | k
    · exact .inl ⟨k, bindL_get ndP hp hu k⟩
    · obtain ⟨c, e⟩ := cell_has (n := s.heap.objs.size + 1) k
      refine .inr ⟨.inl k, c, e, ?_⟩
      have q := x.cell y c e
      rw [bindC_get ndP hp hu (by show scope.names.lookup y ≠ _; rw [k]; decide)] at q
      exact q
  · exact e0.hok.fresh (Nat.le_of_lt (x.above y c (PySem.mem_of_lookup h)))
  · unfold start
    show _ = N.length
    rw [List.length_append, List.length_map, List.length_replicate]
    omega
theorem fn_of {CX : CXT} {P : Program} {w : World} {K : PySem.W.Frag} {mg : Str → Option Value} {base : Heap} {k : Nat} {f : Addr} {name qual : Str} {params : Arguments} {body : List Stmt} {scope : Scope} {dV kV doc pm cdv ct oc : Value} {an od : Option Addr}
    {osl : Array (Option Value)} {N ps : List Str} {sp : Sp} (lk : K.lookup f = some ⟨oc, od, .func (PySem.W.fnOf name qual params body scope dV kV doc pm an cdv ct), osl⟩) (hcd : PySem.W.codeIn K cdv qual = true) (S : FnScope N ps scope)
    (len : ∀ vs H Q E, sp vs H Q E → vs.length = ps.length)
    (hbody : ∀ (A : Around) (outer : List Env) (s : Shared) (H : Hp) (vs : List V) (Q : VK) (E : XK), Room k (A.deeper (envOfC qual scope s.heap.objs.size f cdv)) → sp vs H Q E →
      ∃ t, PSs (cxOf CX P w K mg base N qual scope f cdv A outer s H E) body t ∧ t { nx := fun _ H' => Q .non H', rt := Q } (start N vs) H) :
    FnOk P w K mg base CX (k + 1) f (PySem.W.fnOf name qual params body scope dV kV doc pm an cdv ct) ps sp := by
  refine ⟨len, fun A outer s H args us vs Q E hr e0 hb r hsp => ?_⟩
  have hl := len _ _ _ _ hsp
  have KX : K.In s.heap := e0.mod.kin.keeps fun b o e => (e0.bs b o e).1
  have lim : s.heap.NoLimit := e0.mod.nolimit.keeps fun b o e => (e0.bs b o e).1
  have hkind : ∀ y ∈ ps.zip us, scope.names.lookup y.1 = some .local ∨ (scope.names.lookup y.1 = some .cell ∧ ((cellsFrom (s.heap.objs.size + 1) scope.names []).lookup y.1).isSome = true) := fun ⟨n, v⟩ hy => by
    rcases S.par n (List.of_mem_zip hy).1 with q | q
    · exact .inl q
    · exact .inr ⟨q, PySem.W.cellsFrom_some _ _ _ (.inl q)⟩
  refine codeAny_call_function hr.depth (KX _ _ lk) rfl S.co S.gen rfl (PySem.W.codeRec_of KX hcd) (hb _ _ _ _ ?_)
  refine wpAny_newFunctionEnv_cells S.kind hkind fun env he s1 x => ?_
  subst he
  refine ⟨lim.keeps x.toInCall.keep, codeAny_func ?_⟩
  obtain ⟨t, ht, hq⟩ := hbody A outer s H vs Q E (hr.deeper _) hsp
  have I : Inv (cxOf CX P w K mg base N qual scope f cdv A outer s H E) [] (start N vs) H s1 := inv_start S hr.hd e0 hl r x
  refine wpAny_mono (ht [] s1 (start N vs) H _ I hq) (fun fl s' hs => ?_) fun e s' hs => hs
  have fin : ∀ {σ' : St} {H' : Hp} {v : V} {u : Value}, Inv (cxOf CX P w K mg base N qual scope f cdv A outer s H E) [] σ' H' s' → RelV v u → Q v H' → CE outer P w H s Q u s' :=
    fun {σ' H' v u} J rv q => ⟨v, H', J.os, J.bare, J.base, J.hok, rv, q⟩
  cases fl with
  | ret u =>
    obtain ⟨v, σ', H', J, rv, q⟩ := hs
    exact fin J rv q
  | next =>
    obtain ⟨σ', H', J, q⟩ := hs
    exact fin (v := V.non) (u := Value.none) J rfl q
  | brk =>
    obtain ⟨_, _, _, q⟩ := hs
    exact False.elim q
  | cont =>
    obtain ⟨_, _, _, q⟩ := hs
    exact False.elim q
end L2
namespace L2
open PySem PySem.Spec PyProof.Rows
section
variable {X : Cx} {x : Str} {p pos : Pos} {e : Expr} {es : List Expr} {t : TA} {id T : String} {r : List V → Hp → VK → Prop}
def tCB (r : List V → Hp → VK → Prop) (t : TA) : TE := fun σ H Q => t σ H fun vs H1 => r vs H1 Q
theorem pe_callB (hc : CallR X (.builtin id) r) (hg : Gl X x) (hm : X.mg x = none) (hv : bootBuiltins x = some (.builtin id)) (ha : PA X (e :: es) t) (hn : x ≠ "__name__" := by decide) (hdb : (x == ("__debug__" : Str)) = false := by decide)
    (he : starEach (e :: es) X.env = (false, eval e X.env) :: starEach es X.env := by rfl) (hpl : (backTo pos (starEach es X.env)).any (·.1) = false := by rfl) : PE X (.Call (.Name x p) (e :: es) [] pos) (tCB r t) := by
  intro pins s σ H Q I h
  refine wpAny_Call_Name_kw (ld_blt I hg hm hv ?_ hn hdb)
  exact PyProof.Rows.callWith_builtin1 (thn (ha pos pins s σ H _ I h) fun us s1 ⟨vs, H1, I1, r1, q1⟩ => hc pins s1 σ H1 vs us Q I1 r1 q1) he hpl
theorem pe_callTy (hc : CallR X (.type T) r) (hg : Gl X x) (hm : X.mg x = none) (hv : bootBuiltins x = some (.type T)) (ha : PA X (e :: es) t) (hn : x ≠ "__name__" := by decide) (hdb : (x == ("__debug__" : Str)) = false := by decide)
    (he : starEach (e :: es) X.env = (false, eval e X.env) :: starEach es X.env := by rfl) (hpl : (backTo pos (starEach es X.env)).any (·.1) = false := by rfl) : PE X (.Call (.Name x p) (e :: es) [] pos) (tCB r t) := by
  intro pins s σ H Q I h
  refine wpAny_Call_Name_kw (ld_blt I hg hm hv ?_ hn hdb)
  exact PyProof.Rows.callWith_type1 (thn (ha pos pins s σ H _ I h) fun us s1 ⟨vs, H1, I1, r1, q1⟩ => hc pins s1 σ H1 vs us Q I1 r1 q1) he hpl
end
end L2
namespace HT
open PySem PyProof.Rows
def lexLt : List Int → List Int → Bool
  | [], [] => false
  | [], _ :: _ => true
  | _ :: _, [] => false
  | x :: xs, y :: ys => if x = y then lexLt xs ys else decide (x < y)
theorem lexLt_cons (x y : Int) (xs ys : List Int) : lexLt (x :: xs) (y :: ys) = if x = y then lexLt xs ys else decide (x < y) := rfl
section
open PySem.SeqAt
open PySem.AutoSeq1 (wpAny_loadPart')
open PySem.MeetsSeq PySem.MeetsSeq2 PySem.MeetsSeq3
end
section
variable {prog : Program} {w : World} {A : Around} {E : Value → Shared → Prop} {s : Shared}
def sIx (n d : Nat) : Option Int → Nat
  | none => d
  | some v => if v < 0 then (v + (n : Int)).toNat else min v.toNat n
theorem sIx_nat (n d k : Nat) : sIx n d (some (k : Int)) = min k n := by
  show (if (k : Int) < 0 then ((k : Int) + (n : Int)).toNat else min (k : Int).toNat n) = min k n
  rw [if_neg (by omega), Int.toNat_natCast]
end
end HT
namespace L2
open PySem PySem.Spec PyProof.Rows
abbrev TO := St → Hp → (Option Int → Hp → Prop) → Prop
def PO (X : Cx) (e : Option Expr) (t : TO) : Prop :=
  ∀ (pins : List (Addr × Obj)) (s : Shared) (σ : St) (H : Hp) (Q : Option Int → Hp → Prop), Inv X pins σ H s → t σ H Q →
    wpAny (model X.prog X.w) X.A (evalPart e X.env) (fun u s' => ∃ o H', Inv X pins σ H' s' ∧ IsPart u o ∧ Q o H') X.xe s
def tNoPart : TO := fun _ H Q => Q none H
def tPart (t : TE) : TO := fun σ H Q => t σ H fun x H1 => ∃ i, x = .int i ∧ Q (some i) H1
theorem intsAre_of {ns : List Int} : ∀ {us : List Value}, Vals (ns.map V.int) us → IntsAre us ns := by
  induction ns with
  | nil => intro us r; rw [List.map_nil] at r; cases r; exact .nil
  | cons n ns ih =>
    intro us r
    rw [List.map_cons] at r
    cases r with
    | cons r1 r2 =>
      obtain ⟨t, e⟩ := r1
      subst e
      exact .cons n t (ih r2)
section
variable {X : Cx} {e : Expr} {te : TE} {lo hi : Option Expr} {tl th : TO} {pos p2 : Pos}
theorem po_none : PO X none tNoPart := by
  intro pins s σ H Q I h
  rw [evalPart_none]
  exact wpAny_pure ⟨none, H, I, .none, h⟩
theorem po_some (h : PE X e te) : PO X (some e) (tPart te) := by
  intro pins s σ H Q I hw
  rw [evalPart_some]
  refine thn (h pins s σ H _ I hw) fun u s1 ⟨x, H1, I1, r1, q1⟩ => ?_
  obtain ⟨i, rfl, q⟩ := q1
  obtain ⟨t, rfl⟩ := r1
  exact ⟨some i, H1, I1, .int i t, q⟩
def SlR (X : Cx) (r : V → Option Int → Option Int → Hp → VK → Prop) : Prop :=
  ∀ (pins : List (Addr × Obj)) (s : Shared) (σ : St) (H : Hp) (x : V) (v vl vu : Value) (lo hi : Option Int) (sl : Addr) (Q : VK), Inv X pins σ H s → RelV x v → s.heap.IsSliceOf sl vl vu .none → IsPart vl lo → IsPart vu hi → r x lo hi H Q →
    ∃ T id, typeLookup (.type T) "__getitem__" = pure (some (.builtin id)) ∧ s.TypeIs v T ∧ wpAny (model X.prog X.w) X.A (getItem v (.ref sl)) (EP X pins σ Q) X.xe s
def tSl (r : V → Option Int → Option Int → Hp → VK → Prop) (te : TE) (tl th : TO) : TE := fun σ H Q => te σ H fun x H1 => tl σ H1 fun l H2 => th σ H2 fun u H3 => r x l u H3 Q
theorem pe_slice {r : V → Option Int → Option Int → Hp → VK → Prop} (hr : SlR X r) (he : PE X e te) (hl : PO X lo tl) (hu : PO X hi th) : PE X (.Subscript e (.Slice lo hi none p2) pos) (tSl r te tl th) := by
  intro pins s σ H Q I h
  refine Subscript_ (thn (he pins s σ H _ I h) fun v s1 ⟨x, H1, I1, r1, q1⟩ => ?_)
  refine wpAny_Slice (thn (hl pins s1 σ H1 _ I1 q1) fun vl s2 ⟨l, H2, I2, pl, q2⟩ => thn (hu pins s2 σ H2 _ I2 q2) fun vu s3 ⟨u, H3, I3, pu, q3⟩ => ?_)
  rw [evalPart_none]
  refine wpAny_pure ?_
  have I4 : Inv X pins σ H3 { s3 with heap := s3.heap.push { cls := .type "slice", data := .fields #[vl, vu, .none] } } := I3.kept (t' := s3.toks) fun b ob q => Heap.get?_push_of_some _ q
  obtain ⟨T, id, hT, ht, hg⟩ := hr pins { s3 with heap := s3.heap.push { cls := .type "slice", data := .fields #[vl, vu, .none] } } σ H3 x v vl vu l u s3.heap.objs.size Q I4 r1 (Heap.IsSliceOf.new ..) pl pu q3
  show wpAny (model X.prog X.w) X.A (subscriptTail e (.Slice lo hi none p2) v (.ref s3.heap.objs.size)) (EP X pins σ Q) X.xe { s3 with heap := s3.heap.push { cls := .type "slice", data := .fields #[vl, vu, .none] } }
  exact tail_any (ops := [.ref s3.heap.objs.size, v]) ht hT hg (by with_unfolding_all rfl)
def cutV (xs : List V) (lo hi : Option Int) : List V := (xs.drop (HT.sIx xs.length 0 lo)).take (HT.sIx xs.length xs.length hi - HT.sIx xs.length 0 lo)
theorem cutV_length (xs : List V) (lo hi : Option Int) : (cutV xs lo hi).length ≤ xs.length := by
  unfold cutV
  rw [List.length_take, List.length_drop]
  omega
end
end L2
namespace L2
open PySem PySem.Spec PyProof.Rows
def ixN (n : Nat) (i : Int) : Option Nat := if 0 ≤ i then (if i < n then some i.toNat else none) else if -(n : Int) ≤ i then some (i + n).toNat else none
def atI {α : Type} (xs : List α) (i : Int) : Option α := (ixN xs.length i).bind fun j => xs[j]?
theorem ixN_seq {n : Nat} {i : Int} {j : Nat} (h : ixN n i = some j) : seqIndex? i n = some j ∧ j < n ∧ -(n : Int) ≤ i ∧ i < n := by
  unfold ixN at h
  by_cases h0 : 0 ≤ i
  · rw [if_pos h0] at h
    by_cases h1 : i < n
    · rw [if_pos h1] at h
      have e : i.toNat = j := Option.some.inj h
      exact ⟨by rw [seqIndex_of h0 h1, e], by omega, by omega, h1⟩
    · rw [if_neg h1] at h; cases h
  · rw [if_neg h0] at h
    by_cases h1 : -(n : Int) ≤ i
    · rw [if_pos h1] at h
      have e : (i + n).toNat = j := Option.some.inj h
      exact ⟨by rw [seqIndex_neg (by omega) h1, e], by omega, h1, by omega⟩
    · rw [if_neg h1] at h; cases h
theorem atI_get {α : Type} {xs : List α} {i : Int} {v : α} (h : atI xs i = some v) : ∃ j, seqIndex? i xs.length = some j ∧ xs[j]? = some v ∧ j < xs.length ∧ -(xs.length : Int) ≤ i ∧ i < xs.length := by
  unfold atI at h
  cases e : ixN xs.length i with
  | none => rw [e] at h; cases h
  | some j =>
    rw [e] at h
    obtain ⟨h1, h2, h3, h4⟩ := ixN_seq e
    exact ⟨j, h1, h, h2, h3, h4⟩
theorem atI_nat {α : Type} {xs : List α} {j : Nat} {v : α} (h : xs[j]? = some v) : atI xs (j : Int) = some v := by
  have hj : j < xs.length := (List.getElem?_eq_some_iff.mp h).1
  have e : ixN xs.length (j : Int) = some j := by
    unfold ixN
    rw [if_pos (by omega), if_pos (by omega)]; simp
  unfold atI; rw [e]; exact h
theorem atI_last {α : Type} (xs : List α) (v : α) : atI (xs ++ [v]) (-1) = some v := by
  have hl : (xs ++ [v]).length = xs.length + 1 := by simp
  have e : ixN (xs ++ [v]).length (-1) = some xs.length := by
    unfold ixN
    rw [hl, if_neg (by decide), if_pos (by omega)]
    congr 1
    omega
  unfold atI
  rw [e]
  show (xs ++ [v])[xs.length]? = some v
  simp
def PlainIx (b : Expr) : Prop := ∀ o i, subscripted b false o i = operate [o, i] (getItem o i)
def IxR (X : Cx) (r : R2) : Prop :=
  ∀ (value slice : Expr) (pins : List (Addr × Obj)) (s : Shared) (σ : St) (H : Hp) (x y : V) (v u : Value) (Q : VK), Inv X pins σ H s → RelV x v → RelV y u → r x y H Q →
    subscripted slice false v u = operate [v, u] (getItem v u) → wpAny (model X.prog X.w) X.A (subscriptTail value slice v u) (EP X pins σ Q) X.xe s
def MtR (X : Cx) (id : String) (r : V → List V → Hp → VK → Prop) : Prop :=
  ∀ (pins : List (Addr × Obj)) (s : Shared) (σ : St) (H : Hp) (x : V) (xs : List V) (v : Value) (us : List Value) (Q : VK), Inv X pins σ H s → RelV x v → Vals xs us → r x xs H Q →
    wpAny (model X.prog X.w) X.A (call (.builtin id) (v :: us)) (EP X pins σ Q) X.xe s
section
variable {X : Cx} {a b : Expr} {ta tb : TE} {pos : Pos}
theorem pe_ix {r : R2} (hr : IxR X r) (ha : PE X a ta) (hb : PE X b tb) (hs : PlainIx b) : PE X (.Subscript a b pos) (tOp r ta tb) := by
  intro pins s σ H Q I h
  exact Subscript_ (binT ha hb I h fun v u s2 x y H2 I2 rx ry q => hr a b pins s2 σ H2 x y v u Q I2 rx ry q (hs _ _))
def rIxL (K : PySem.W.Frag) : R2 := fun x y H Q => ∃ p xs i v, x = .ref p ∧ y = .int i ∧ SqL K H p xs ∧ atI xs i = some v ∧ Q v H
def rIxT (K : PySem.W.Frag) : R2 := fun x y H Q => ∃ p xs i v, x = .ref p ∧ y = .int i ∧ SqT K H p xs ∧ atI xs i = some v ∧ Q v H
theorem ix_list : IxR X (rIxL X.K) := by
  intro value slice pins s σ H x y v u Q I rx ry h hs
  obtain ⟨p, xs, i, z, rfl, rfl, hq, he, q⟩ := h
  cases rx
  obtain ⟨t, rfl⟩ := ry
  obtain ⟨its, r, pl, hz⟩ := I.list hq
  obtain ⟨j, h1, h2, h3, h4, h5⟩ := atI_get he
  obtain ⟨w, ew, rw'⟩ := r.get h2
  have hl := r.length
  have hn := line63
  have fin : EP X pins σ Q w s := ⟨z, H, I, rw', q⟩
  by_cases h0 : 0 ≤ i
  · have hj : i.toNat = j := by
      rw [seqIndex_of h0 h5] at h1
      exact Option.some.inj h1
    exact item_listR pl.isList h0 (by omega) (by rw [hj]; simpa using ew) fin hs
  · have hj : (i + (its.toArray.size : Int)).toNat = j := by
      rw [seqIndex_neg (by omega) h4] at h1
      rw [List.size_toArray, ← hl]
      exact Option.some.inj h1
    exact subscriptTail_builtinR (x := w) pl.isList.typeIs slot_list_getitem.lookup
      (wpAny_getItem_list_neg (Q := fun r s' => r = w ∧ EP X pins σ Q r s') pl.isList (by omega) (by rw [List.size_toArray] <;> omega) (by omega) (by rw [hj]; simpa using ew) ⟨rfl, fin⟩) hs
theorem ix_tup : IxR X (rIxT X.K) := by
  intro value slice pins s σ H x y v u Q I rx ry h hs
  obtain ⟨p, xs, i, z, rfl, rfl, hq, he, q⟩ := h
  cases rx
  obtain ⟨t, rfl⟩ := ry
  obtain ⟨its, r, pl, hz⟩ := I.tuple hq
  obtain ⟨j, h1, h2, h3, h4, h5⟩ := atI_get he
  obtain ⟨w, ew, rw'⟩ := r.get h2
  have hl := r.length
  have hn := line63
  have fin : EP X pins σ Q w s := ⟨z, H, I, rw', q⟩
  exact subscriptTail_builtinR (x := w) pl.typeIs slot_tuple_getitem.lookup
    (getItem_tuple (j := j) (Q := fun r s' => r = w ∧ EP X pins σ Q r s') pl (by omega) (by omega) (by rw [List.size_toArray, ← hl]; exact h1) (by simpa using ew) ⟨rfl, fin⟩) hs
theorem mapSeq_set (its : List Value) (n j : Nat) (u : Value) : Obj.mapSeq (·.setIfInBounds j u) { cls := .type "list", data := .seq its.toArray n } = { cls := .type "list", data := .seq (its.set j u).toArray n } := by
  simp [Obj.mapSeq]
theorem Inv.lst {pins : List (Addr × Obj)} {σ : St} {H : Hp} {s : Shared} {p : Addr} {xs : List V} (I : Inv X pins σ H s) (h : H p = some (.lst xs)) :
    ∃ (its : List Value) (n : Nat), Vals xs its ∧ s.heap.get? p = some { cls := .type "list", data := .seq its.toArray n } ∧ xs.length ≤ sizeLine := by
  obtain ⟨z, its, n, r, e⟩ := I.hok p _ h
  exact ⟨its, n, r, e, z⟩
theorem Inv.lstUpd {pins : List (Addr × Obj)} {σ : St} {H : Hp} {s : Shared} {p : Addr} {xs ys : List V} {its its' : List Value} {n n' : Nat} {f : Obj → Obj} (I : Inv X pins σ H s) (h : H p = some (.lst xs))
    (ho : s.heap.get? p = some { cls := .type "list", data := .seq its.toArray n }) (hf : f { cls := .type "list", data := .seq its.toArray n } = { cls := .type "list", data := .seq its'.toArray n' }) (r : Vals ys its') (hz : ys.length ≤ sizeLine) (t : Nat) :
    Inv X pins σ (upd H p (.lst ys)) { s with heap := s.heap.update p f, toks := t } := by
  have e : (s.heap.update p f).get? p = some { cls := .type "list", data := .seq its'.toArray n' } := by
    rw [Heap.get?_update_self f ho (by rw [hf] <;> rfl), hf]
  refine I.write (x := p) (e := p) (by rw [h]; trivial) (.inl rfl) (fun b u hb q => (Heap.get?_update_other _ _ (Ne.symm hb)).trans q) ⟨_, e⟩ ?_
  exact ⟨hz, its', n', r, e⟩
def rSetL : V → V → V → Hp → (Hp → Prop) → Prop := fun o i v H Q => ∃ p xs k j, o = .ref p ∧ i = .int k ∧ H p = some (.lst xs) ∧ ixN xs.length k = some j ∧ Q (upd H p (.lst (xs.set j v)))
theorem set_list : PSet X rSetL := by
  intro pins s σ H o i v ov iv u Q I ro ri rv h
  obtain ⟨p, xs, k, j, rfl, rfl, hp, hj, q⟩ := h
  cases ro
  obtain ⟨t, rfl⟩ := ri
  obtain ⟨its, n, r, ho, hz⟩ := I.lst hp
  obtain ⟨h1, h2, h3, h4⟩ := ixN_seq hj
  have hl := r.length
  have hn := line63
  have I' : Inv X pins σ (upd H p (.lst (xs.set j v))) { s with heap := s.heap.update p (Obj.mapSeq (·.setIfInBounds j u)) } :=
    I.lstUpd hp ho (mapSeq_set its n j u) (r.set rv j) (by rw [List.length_set]; exact hz) s.toks
  by_cases h0 : 0 ≤ k
  · have hk : k.toNat = j := by
      rw [seqIndex_of h0 h4] at h1
      exact Option.some.inj h1
    exact PySem.W.ki_setAt ho h0 (by omega) (by rw [List.size_toArray, ← hl]; exact h4) (by rw [hk]; exact ⟨_, I', q⟩)
  · have hk : (k + (its.toArray.size : Int)).toNat = j := by
      rw [seqIndex_neg (by omega) h3] at h1
      rw [List.size_toArray, ← hl]
      exact Option.some.inj h1
    exact PySem.W.ki_setBack ho (by omega) (by rw [List.size_toArray, ← hl]; exact h3) (by omega) (by rw [hk]; exact ⟨_, I', q⟩)
theorem slice_bounds (lo hi : Option Int) (n : Nat) : (sliceBounds lo hi none n).1 = ((HT.sIx n 0 lo : Nat) : Int) ∧ (sliceBounds lo hi none n).2.1 = ((HT.sIx n n hi : Nat) : Int) ∧ (sliceBounds lo hi none n).2.2 = 1 := by
  refine ⟨?_, ?_, rfl⟩
  · cases lo with
    | none => simp [sliceBounds, HT.sIx]
    | some i =>
      simp only [sliceBounds, HT.sIx, Option.getD_none, show (1 : Int) > 0 by decide, if_true]
      by_cases h : i < 0
      · simp only [h, if_true] <;> omega
      · simp only [h, if_false] <;> omega
  · cases hi with
    | none => simp [sliceBounds, HT.sIx]
    | some i =>
      simp only [sliceBounds, HT.sIx, Option.getD_none, show (1 : Int) > 0 by decide, if_true]
      by_cases h : i < 0
      · simp only [h, if_true] <;> omega
      · simp only [h, if_false] <;> omega
theorem slicePick_cut (its : List Value) (lo hi : Option Int) : slicePick its.toArray lo hi none = ((its.drop (HT.sIx its.length 0 lo)).take (HT.sIx its.length its.length hi - HT.sIx its.length 0 lo)).toArray := by
  obtain ⟨h1, h2, h3⟩ := slice_bounds lo hi its.toArray.size
  unfold slicePick
  rw [h1, h2, h3]
  simp only [sliceRange_one, pick_run, List.size_toArray] <;> rfl
def rSlL (K : PySem.W.Frag) : V → Option Int → Option Int → Hp → VK → Prop := fun x lo hi H Q => ∃ a xs, x = .ref a ∧ SqL K H a xs ∧ ∀ p, H p = none → Q (.ref p) (upd H p (.lst (cutV xs lo hi)))
theorem sl_list : SlR X (rSlL X.K) := by
  intro pins s σ H x v vl vu lo hi sl Q I rx hs pl pu h
  obtain ⟨a, xs, rfl, hx, q⟩ := h
  cases rx
  obtain ⟨its, r, ht, hz⟩ := I.list hx
  have hlen := r.length
  refine ⟨"list", _, slot_list_getitem.lookup, ht.isList.typeIs, ?_⟩
  refine wpAny_getItem_list_slice ht.isList hs pl pu .none (by simp) ?_ (by rw [List.size_toArray] <;> omega)
  rw [slicePick_cut, ← hlen]
  refine ⟨.ref s.heap.objs.size, _, I.laid (t' := s.toks) (o := .lst (cutV xs lo hi)) (fun b ob q => Heap.get?_push_of_some _ q) (Nat.le_refl _) ?_, rfl, q _ (I.hok.fresh (Nat.le_refl _))⟩
  exact ⟨Nat.le_trans (cutV_length xs lo hi) hz, _, 0, (r.drop (HT.sIx xs.length 0 lo)).take (HT.sIx xs.length xs.length hi - HT.sIx xs.length 0 lo), Heap.get?_push_size _ rfl⟩
def flatV : V → Bool
  | .non => true
  | .bl _ => true
  | .int _ => true
  | .str _ => true
  | _ => false
def eqV : V → V → Bool
  | .non, .non => true
  | .bl a, .bl b => a == b
  | .bl a, .int b => (if a then 1 else 0) == b
  | .int a, .bl b => a == (if b then 1 else 0)
  | .int a, .int b => a == b
  | .str a, .str b => a == b
  | _, _ => false
theorem eqAt_V {A : Around} {s : Shared} {y x : V} {u v : Value} (ry : RelV y u) (rx : RelV x v) (fy : flatV y = true) (fx : flatV x = true) : SeqAt.EqAt A s u v (eqV y x) := by
  cases y with
  | non =>
    cases ry
    cases x with
    | non => cases rx; exact SeqAt.EqAt.same _
    | bl b => cases rx; exact SeqAt.EqAt.none_bool b
    | int b => obtain ⟨t, rfl⟩ := rx; exact SeqAt.EqAt.none_int b t
    | str b => obtain ⟨t, rfl⟩ := rx; exact SeqAt.EqAt.none_str b t
    | _ => exact absurd (show false = true from fx) Bool.false_ne_true
  | bl a =>
    cases ry
    cases x with
    | non => cases rx; exact SeqAt.EqAt.bool_none a
    | bl b => cases rx; exact SeqAt.EqAt.bool_bool a b
    | int b => obtain ⟨t, rfl⟩ := rx; exact SeqAt.EqAt.bool_int a b t
    | str b => obtain ⟨t, rfl⟩ := rx; exact SeqAt.EqAt.bool_str a b t
    | _ => exact absurd (show false = true from fx) Bool.false_ne_true
  | int a =>
    obtain ⟨t', rfl⟩ := ry
    cases x with
    | non => cases rx; exact SeqAt.EqAt.int_none a t'
    | bl b => cases rx; exact SeqAt.EqAt.int_bool a t' b
    | int b => obtain ⟨t, rfl⟩ := rx; exact SeqAt.EqAt.int_int a t' b t
    | str b => obtain ⟨t, rfl⟩ := rx; exact SeqAt.EqAt.int_str a t' b t
    | _ => exact absurd (show false = true from fx) Bool.false_ne_true
  | str a =>
    obtain ⟨t', rfl⟩ := ry
    cases x with
    | non => cases rx; exact SeqAt.EqAt.str_none a t'
    | bl b => cases rx; exact SeqAt.EqAt.str_bool a t' b
    | int b => obtain ⟨t, rfl⟩ := rx; exact SeqAt.EqAt.str_int a t' b t
    | str b => obtain ⟨t, rfl⟩ := rx; exact SeqAt.EqAt.str_str a t' b t
    | _ => exact absurd (show false = true from fx) Bool.false_ne_true
  | _ => exact absurd (show false = true from fy) Bool.false_ne_true
def eqU (x : V) (u : Value) : Bool := match u with
  | .none => eqV .non x
  | .bool b => eqV (.bl b) x
  | .int i _ => eqV (.int i) x
  | .str z _ => eqV (.str z) x
  | _ => false
theorem eqU_of {x y : V} {u : Value} (r : RelV y u) (f : flatV y = true) : eqU x u = eqV y x := by
  cases y with
  | non => cases r; rfl
  | bl b => cases r; rfl
  | int i => obtain ⟨t, rfl⟩ := r; rfl
  | str z => obtain ⟨t, rfl⟩ := r; rfl
  | _ => exact absurd (show false = true from f) Bool.false_ne_true
theorem any_eqU {x : V} : ∀ {xs : List V} {us : List Value}, Vals xs us → xs.all flatV = true → us.any (eqU x) = xs.any fun y => eqV y x
  | _, _, .nil, _ => rfl
  | y :: xs, u :: us, .cons r t, f => by
    rw [List.all_cons, Bool.and_eq_true] at f
    rw [List.any_cons, List.any_cons, eqU_of r f.1, any_eqU t f.2]
theorem mem_eqAt {A : Around} {s : Shared} {x : V} {v : Value} (rx : RelV x v) (fx : flatV x = true) : ∀ {xs : List V} {us : List Value}, Vals xs us → xs.all flatV = true → ∀ u ∈ us, SeqAt.EqAt A s u v (eqU x u)
  | _, _, .nil, _ => fun u hu => by cases hu
  | y :: xs, u :: us, .cons r t, f => fun u' hu => by
    rw [List.all_cons, Bool.and_eq_true] at f
    rcases List.mem_cons.mp hu with rfl | hu
    · rw [eqU_of r f.1]; exact eqAt_V r rx f.1 fx
    · exact mem_eqAt rx fx t f.2 u' hu
def inV (x : V) (xs : List V) : Bool := xs.any fun y => eqV y x
def rIn (K : PySem.W.Frag) (neg : Bool) : R2 := fun x y H Q => ∃ p xs, y = .ref p ∧ (SqL K H p xs ∨ SqT K H p xs) ∧ flatV x = true ∧ xs.all flatV = true ∧ Q (.bl (if neg then !inV x xs else inV x xs)) H
theorem op_in_seq : OpR X (compareOp .In) (rIn X.K false) := by
  intro pins s σ H x y v u Q I rx ry h
  obtain ⟨p, xs, rfl, hq, fx, fs, q⟩ := h
  cases ry
  rcases hq with hq | hq
  · obtain ⟨its, r, pl, hz⟩ := I.list hq
    refine SeqAt.in_listAt (eqU x) pl.isList (fun w hw => mem_eqAt rx fx r fs w (by simpa using hw)) ⟨.bl _, H, I, rfl, ?_⟩
    rw [show its.toArray.any (eqU x) = its.any (eqU x) by simp, any_eqU r fs]
    exact q
  · obtain ⟨its, r, pl, hz⟩ := I.tuple hq
    refine SeqAt.in_tupleAt (eqU x) pl (fun w hw => mem_eqAt rx fx r fs w (by simpa using hw)) ⟨.bl _, H, I, rfl, ?_⟩
    rw [show its.toArray.any (eqU x) = its.any (eqU x) by simp, any_eqU r fs]
    exact q
theorem op_notIn_seq : OpR X (compareOp .NotIn) (rIn X.K true) := by
  intro pins s σ H x y v u Q I rx ry h
  obtain ⟨p, xs, rfl, hq, fx, fs, q⟩ := h
  cases ry
  rcases hq with hq | hq
  · obtain ⟨its, r, pl, hz⟩ := I.list hq
    refine SeqAt.notIn_listAt (eqU x) pl.isList (fun w hw => mem_eqAt rx fx r fs w (by simpa using hw)) ⟨.bl _, H, I, rfl, ?_⟩
    rw [show its.toArray.any (eqU x) = its.any (eqU x) by simp, any_eqU r fs]
    exact q
  · obtain ⟨its, r, pl, hz⟩ := I.tuple hq
    refine SeqAt.notIn_tupleAt (eqU x) pl (fun w hw => mem_eqAt rx fx r fs w (by simpa using hw)) ⟨.bl _, H, I, rfl, ?_⟩
    rw [show its.toArray.any (eqU x) = its.any (eqU x) by simp, any_eqU r fs]
    exact q
theorem call_len_seq : CallR X (.builtin "len") (fun xs H Q => ∃ p ys, xs = [.ref p] ∧ (SqL X.K H p ys ∨ SqT X.K H p ys) ∧ Q (.int ys.length) H) := by
  intro pins s σ H xs us Q I r h
  obtain ⟨p, ys, rfl, hq, q⟩ := h
  obtain ⟨u, rfl, rx⟩ := vals1 r
  cases rx
  have hn := line63
  rcases hq with hq | hq
  · obtain ⟨its, r', pl, hz⟩ := I.list hq
    have hlen := r'.length
    exact Calls.call_len_list pl.isList (by simp only [List.size_toArray] <;> omega) ⟨.int ys.length, H, I.tok _, ⟨s.toks + 1, by rw [List.size_toArray, hlen]⟩, q⟩
  · obtain ⟨its, r', pl, hz⟩ := I.tuple hq
    have hlen := r'.length
    exact len_tuple pl (by simp only [List.size_toArray] <;> omega) ⟨.int ys.length, H, I.tok _, ⟨s.toks + 1, by rw [List.size_toArray, hlen]⟩, q⟩
theorem call_list_of : CallR X (.type "list") (fun xs H Q => ∃ p ys, xs = [.ref p] ∧ (SqL X.K H p ys ∨ SqT X.K H p ys) ∧ ∀ l, H l = none → Q (.ref l) (upd H l (.lst ys))) := by
  intro pins s σ H xs us Q I r h
  obtain ⟨p, ys, rfl, hq, q⟩ := h
  obtain ⟨u, rfl, rx⟩ := vals1 r
  cases rx
  have fin : ∀ (its : List Value), Vals ys its → ys.length ≤ sizeLine → ∀ (h' : Heap) (c' : Nat), (∀ b o', s.heap.get? b = some o' → h'.get? b = some o') →
      h'.get? s.heap.objs.size = some { cls := .type "list", dict := none, data := .seq its.toArray c', slots := #[] } → EP X pins σ Q (.ref s.heap.objs.size) { s with heap := h' } := fun its r' hz h' c' kp e =>
    ⟨.ref s.heap.objs.size, _, I.laid (t' := s.toks) kp (Nat.le_refl _) (show ObjOk X.prog X.w _ h' _ (.lst ys) from ⟨hz, its, c', r', e⟩), rfl, q _ (I.hok.fresh (Nat.le_refl _))⟩
  rcases hq with hq | hq
  · obtain ⟨its, r', pl, hz⟩ := I.list hq
    have hlen := r'.length
    obtain ⟨o, ho, hc, n, hd⟩ := pl.isList
    exact call_list_seq p (.inl rfl) ho hc hd (fun h' c' kp e => fin its r' hz h' c' kp e) (by simp only [List.size_toArray] <;> omega)
  · obtain ⟨its, r', pl, hz⟩ := I.tuple hq
    have hlen := r'.length
    obtain ⟨o, ho, hc, n, hd⟩ := pl
    exact call_list_seq p (.inr rfl) ho hc hd (fun h' c' kp e => fin its r' hz h' c' kp e) (by simp only [List.size_toArray] <;> omega)
def tyV (K : PySem.W.Frag) (T : String) (x : V) (H : Hp) : Prop := match x with
  | .str _ => T = "str"
  | .int _ => T = "int"
  | .ref p => (T = "list" ∧ ∃ xs, SqL K H p xs) ∨ (T = "tuple" ∧ ∃ o, K.lookup p = some o ∧ o.cls = .type "tuple" ∧ o.dict = none) ∨
      (T = "dict" ∧ ((∃ kvs, H p = some (.dK kvs)) ∨ ∃ kvs, H p = some (.dT kvs))) ∨ (T = "set" ∧ ∃ S n, H p = some (.set S n))
  | _ => False
theorem tyV_is {pins : List (Addr × Obj)} {σ : St} {H : Hp} {s : Shared} {T : String} {x : V} {v : Value} (I : Inv X pins σ H s) (r : RelV x v) (ty : tyV X.K T x H) :
    s.TypeIs v T ∧ ∀ a, v = .ref a → ∃ ob, s.heap.get? a = some ob ∧ ob.dict = none := by
  cases x with
  | str z =>
    obtain ⟨t, rfl⟩ := r
    cases (show T = "str" from ty)
    exact ⟨typeIs_str s z t, fun _ e => nomatch e⟩
  | int i =>
    obtain ⟨t, rfl⟩ := r
    cases (show T = "int" from ty)
    exact ⟨typeIs_int s i t, fun _ e => nomatch e⟩
  | ref p =>
    cases r
    rcases ty with ⟨rfl, xs, hq⟩ | ⟨rfl, o, hk, hc, hd⟩ | ⟨rfl, hk⟩ | ⟨rfl, S, n, hk⟩
    · obtain ⟨its, _, pl, _⟩ := I.list hq
      refine ⟨pl.isList.typeIs, fun a e => ?_⟩
      cases e
      obtain ⟨o, n, e, c, hd, _⟩ := pl
      exact ⟨o, e, hd⟩
    · refine ⟨⟨o, I.kIn p o hk, hc⟩, fun a e => ?_⟩
      cases e
      exact ⟨o, I.kIn _ o hk, hd⟩
    · have z : ∃ o, s.heap.get? p = some o ∧ o.ExactDict := by
        rcases hk with ⟨kvs, hk⟩ | ⟨kvs, hk⟩
        · obtain ⟨_, _, _, _, o, _, _, e, ex, _⟩ := I.hok p _ hk
          exact ⟨o, e, ex⟩
        · obtain ⟨_, _, _, _, o, _, _, e, ex, _⟩ := I.hok p _ hk
          exact ⟨o, e, ex⟩
      obtain ⟨o, e, ex⟩ := z
      refine ⟨⟨o, e, ex.1⟩, fun a e2 => ?_⟩
      cases e2
      exact ⟨o, e, ex.2.1⟩
    · obtain ⟨o, _, _, _, e, ex, _⟩ := I.hok p _ hk
      refine ⟨⟨o, e, ex.1⟩, fun a e2 => ?_⟩
      cases e2
      exact ⟨o, e, ex.2.1⟩
  | _ => exact False.elim ty
def tBM (K : PySem.W.Frag) (T : String) (r : V → List V → Hp → VK → Prop) (to : TE) (t : TA) : TE := fun σ H Q => to σ H fun x H1 => tyV K T x H1 ∧ t σ H1 fun xs H2 => r x xs H2 Q
variable {o e : Expr} {es : List Expr} {to : TE} {t : TA} {name : Str} {apos cpos : Pos} {T id : String} {r : V → List V → Hp → VK → Prop}
theorem pe_bm (pa : PlainAttrs T) (slot : Slot T name id) (hty : typeOf (.builtin id) = pure (.type "method_descriptor")) (hm : MtR X id r) (ho : PE X o to) (ha : PA X (e :: es) t)
    (hbase : attributeBase o name X.env (eval o X.env) = eval o X.env := by rfl)
    (hfew : ((backTo cpos (starEach (e :: es) X.env)).all (fun x => !x.1) && (backToKw cpos (keywordEach [] X.env)).all (fun x => x.1.isSome)
      && decide ((e :: es).length + ([] : List Keyword).length + (if ([] : List Keyword).isEmpty then 0 else 1) < 30)) = true := by rfl)
    (hline : (apos.endLine == cpos.line) = true := by rfl) (hs : starEach (e :: es) X.env = (false, eval e X.env) :: starEach es X.env := by rfl) (hplain : (backTo cpos (starEach es X.env)).any (·.1) = false := by rfl) :
    PE X (.Call (.Attribute o name apos) (e :: es) [] cpos) (tBM X.K T r to t) := by
  intro pins s σ H Q I h
  refine wpAny_Call_method_late hbase hfew hline rfl (thn (ho pins s σ H _ I h) fun v s1 ⟨x, H1, I1, r1, ty, q1⟩ => ?_)
  obtain ⟨h1, h2⟩ := tyV_is I1 r1 ty
  refine ⟨T, id, pa, slot, hty, h1, h2, ?_⟩
  have hA := ha cpos pins s1 σ H1 _ I1 q1
  rw [hs] at hA ⊢
  refine Calls.callWith_builtin (by show (false || (backTo cpos (starEach es X.env)).any (·.1)) = false; rw [hplain] <;> rfl) (Calls.evalArgs_plain ?_)
  exact thn hA fun us s2 ⟨vs, H2, I2, r2, q2⟩ => hm pins s2 σ H2 x vs v us Q I2 r1 r2 q2
end
end L2
namespace L2
open PySem PySem.Spec PyProof.Rows
def MtM (X : Cx) (id : String) (r : V → List V → Hp → VK → Prop) : Prop :=
  ∀ (pins : List (Addr × Obj)) (s : Shared) (σ : St) (H : Hp) (x : V) (xs : List V) (v : Value) (us : List Value) (Q : VK), Inv X pins σ H s → RelV x v → Vals xs us → r x xs H Q →
    wpAny (model X.prog X.w) X.A (call (.builtin id) (v :: us)) (EP X pins σ Q) X.xe s
theorem Vals.one : ∀ {x : V} {us : List Value}, Vals [x] us → ∃ u, us = [u] ∧ RelV x u
  | _, _, .cons r .nil => ⟨_, rfl, r⟩
theorem Vals.rep {xs : List V} {us : List Value} (h : Vals xs us) : ∀ k : Nat, Vals (List.replicate k xs).flatten (List.replicate k us).flatten
  | 0 => .nil
  | k + 1 => by
    rw [List.replicate_succ, List.replicate_succ, List.flatten_cons, List.flatten_cons]
    exact Vals.append h (Vals.rep h k)
theorem foldl_rep (its : List Value) : ∀ (k : Nat) (acc : List Value),
    List.foldl (fun x1 x2 => x1 ++ x2) acc.toArray (List.replicate k its.toArray) = (acc ++ (List.replicate k its).flatten).toArray
  | 0, acc => by simp
  | k + 1, acc => by
    have e : acc.toArray ++ its.toArray = (acc ++ its).toArray := by simp
    have e2 : (acc ++ its) ++ (List.replicate k its).flatten = acc ++ (List.replicate (k + 1) its).flatten := by
      rw [List.replicate_succ, List.flatten_cons, List.append_assoc]
    rw [← e2, ← foldl_rep its k (acc ++ its), ← e, List.replicate_succ, List.foldl_cons]
section
variable {X : Cx} {pins : List (Addr × Obj)} {σ : St} {H : Hp} {s : Shared} {l b : Addr} {xs ys zs : List V}
theorem Inv.lset {its its' : List Value} {n : Nat} {f : Array Value → Array Value} {t' : Nat} (I : Inv X pins σ H s) (hH : H l = some (.lst xs))
    (e : s.heap.get? l = some { cls := .type "list", data := .seq its.toArray n }) (hf : f its.toArray = its'.toArray) (hv : Vals ys its') (hz : ys.length ≤ sizeLine) :
    Inv X pins σ (upd H l (.lst ys)) { s with heap := s.heap.update l (Obj.mapSeq f), toks := t' } := by
  have q := PySem.IsL.update e f
  rw [hf] at q
  refine I.write (x := l) (e := l) (by rw [hH]; exact trivial) (.inl rfl) (fun b' u hb hu => (Heap.get?_update_other s.heap (Obj.mapSeq f) (Ne.symm hb)).trans hu) ⟨_, q⟩ ?_
  exact ⟨hz, its', _, hv, q⟩
theorem Inv.lnew {its : List Value} {t' : Nat} (I : Inv X pins σ H s) (hv : Vals ys its) (hz : ys.length ≤ sizeLine) :
    Inv X pins σ (upd H s.heap.objs.size (.lst ys)) { s with heap := s.heap.push { cls := .type "list", data := .seq its.toArray }, toks := t' } :=
  I.laid (fun _ _ q => Heap.get?_push_of_some _ q) (Nat.le_refl _) ⟨hz, its, 0, hv, Heap.get?_push_size _ rfl⟩
theorem Inv.fresh (I : Inv X pins σ H s) : H s.heap.objs.size = none := I.hok.fresh (Nat.le_refl _)
theorem Inv.lstM (I : Inv X pins σ H s) (hH : H l = some (.lst xs)) : xs.length ≤ sizeLine ∧ ∃ (its : List Value) (n : Nat), Vals xs its ∧ xs.length = its.length ∧ s.heap.get? l = some { cls := .type "list", data := .seq its.toArray n } := by
  obtain ⟨z, its, n, r, e⟩ := I.hok l _ hH
  exact ⟨z, its, n, r, r.length, e⟩
theorem notLongL {n : Nat} (h : n ≤ sizeLine) : Builtin.List.listTooLong n = false := by
  unfold Builtin.List.listTooLong
  exact decide_eq_false (by omega)
end
section
variable {X : Cx}
def rAppend : V → List V → Hp → VK → Prop := fun x vs H Q => ∃ l xs y, x = .ref l ∧ vs = [y] ∧ H l = some (.lst xs) ∧ xs.length < sizeLine ∧ Q .non (upd H l (.lst (xs ++ [y])))
theorem mt_append : MtM X "list.append" rAppend := by
  intro pins s σ H x vs v us Q I rx rv h
  obtain ⟨l, xs, y, rfl, rfl, hH, hz, q⟩ := h
  cases rx
  obtain ⟨u, rfl, ru⟩ := rv.one
  obtain ⟨z, its, n, r, hl, e⟩ := I.lstM hH
  refine call_meets F.slot_list_append ⟨_, e, rfl⟩ F.entry_list_append (F.args_list_append_2 _ _) (PySem.list_append l its.toArray n u (by rw [List.size_toArray]; omega)) ⟨e, ?_⟩
  refine ⟨.non, _, I.lset (its' := its ++ [u]) hH e (by simp) (r.append (.cons ru .nil)) ?_, rfl, q⟩
  rw [List.length_append, List.length_singleton]
  omega
def rCat : R2 := fun x y H Q => ∃ l b xs zs, x = .ref l ∧ y = .ref b ∧ H l = some (.lst xs) ∧ H b = some (.lst zs) ∧ xs.length + zs.length ≤ sizeLine ∧ ∀ p, H p = none → Q (.ref p) (upd H p (.lst (xs ++ zs)))
theorem op_cat : OpR X (binaryOp .Add) rCat := by
  intro pins s σ H x y v u Q I rx ry h
  obtain ⟨l, b, xs, zs, rfl, rfl, hH, hB, hz, q⟩ := h
  cases rx
  cases ry
  obtain ⟨z, its, n, r, hl, e⟩ := I.lstM hH
  obtain ⟨z2, its2, n2, r2, hl2, e2⟩ := I.lstM hB
  refine PySem.P.add_list e e2 ?_ (by rw [List.size_toArray, List.size_toArray]; omega)
  have ea : its.toArray ++ its2.toArray = (its ++ its2).toArray := by simp
  rw [ea]
  exact ⟨.ref _, _, I.lnew (t' := s.toks) (r.append r2) (by rw [List.length_append]; omega), rfl, q _ I.fresh⟩
def rRep : R2 := fun x y H Q => ∃ l k xs, x = .ref l ∧ y = .int k ∧ H l = some (.lst xs) ∧ -(2 ^ 63) ≤ k ∧ k < 2 ^ 63 ∧ xs.length * k.toNat ≤ sizeLine ∧
  ∀ p, H p = none → Q (.ref p) (upd H p (.lst (List.replicate k.toNat xs).flatten))
theorem len_rep {α : Type} (xs : List α) (k : Nat) : (List.replicate k xs).flatten.length = k * xs.length := by
  induction k with
  | zero => simp
  | succ k ih => rw [List.replicate_succ, List.flatten_cons, List.length_append, ih, Nat.succ_mul, Nat.add_comm]
theorem op_rep : OpR X (binaryOp .Mult) rRep := by
  intro pins s σ H x y v u Q I rx ry h
  obtain ⟨l, k, xs, rfl, rfl, hH, h1, h2, hz, q⟩ := h
  cases rx
  obtain ⟨t, rfl⟩ := ry
  obtain ⟨z, its, n, r, hl, e⟩ := I.lstM hH
  have hlen : its.toArray.size * k.toNat ≤ sizeLine := by rw [List.size_toArray, ← hl]; exact hz
  have hcap : ¬ its.toArray.size * k.toNat > (2 ^ 63 - 1) / 8 := by
    have : (sizeLine : Nat) ≤ (2 ^ 63 - 1) / 8 := by decide
    omega
  have hfit : ¬ (!Builtin.List.listFitsIndex k) = true := by
    rw [fitsIndex_both h1 h2]
    exact Bool.false_ne_true
  have hlong : ¬ Builtin.List.listTooLong (its.toArray.size * k.toNat) = true := by
    rw [notLongL hlen]
    exact Bool.false_ne_true
  have hnew : List.foldl (fun x1 x2 => x1 ++ x2) #[] (List.replicate (if its.toArray.isEmpty = true then 0 else k.toNat) its.toArray) = (List.replicate k.toNat its).flatten.toArray := by
    have f0 : ∀ m : Nat, List.foldl (fun x1 x2 => x1 ++ x2) #[] (List.replicate m its.toArray) = (List.replicate m its).flatten.toArray := fun m => by
      have := foldl_rep its m []
      rw [List.nil_append] at this
      exact this
    rw [f0]
    cases its with
    | nil => simp
    | cons a r' => rw [if_neg (by simp)]
  refine wpAny_binaryOp_repeat_ref (T := "list") (U := "int") (by decide) ⟨_, e, rfl⟩ (fun s' => typeIs_int s' k t) noFill_list_mul F.fills_int_mul F.slot_int_rmul repeat_list F.slot_int_index.lookup
    (call_meets F.slot_int_rmul (typeIs_int s k t) F.entry_int_rmul (F.args_int_rmul_2 _ _) (int___rmul___int_list k t l its.toArray n)
      ⟨e, rfl, ⟨_, e, rfl⟩, call_meets F.slot_list_mul ⟨_, e, rfl⟩ F.entry_list_mul (F.args_list_mul_2 _ _) (AutoListH.list___mul___list_int_3 l its.toArray n k t hfit hcap hlong) ⟨e, ?_⟩⟩)
  rw [hnew]
  exact ⟨.ref _, _, I.lnew (t' := s.toks) (r.rep k.toNat) (by rw [len_rep, Nat.mul_comm]; exact hz), rfl, q _ I.fresh⟩
end
section
variable {prog : Program} {w : World} {A : Around} {E : Value → Shared → Prop} {s : Shared}
end
section
variable {X : Cx}
end
end L2
namespace Att
open PySem PySem.W PySem.Calls PyProof.Rows
theorem ints_of_wellAll {P : Params} {h : Heap} : ∀ (ns : List Int) (vs : List Value), WellAll P h vs (ns.map WData.int) → IntsAre vs ns := by
  intro ns
  induction ns with
  | nil =>
    intro vs w
    rw [List.map_nil] at w
    cases w
    exact .nil
  | cons n ns ih =>
    intro vs w
    rw [List.map_cons] at w
    cases w with
    | cons a b =>
      cases a
      exact .cons _ _ (ih _ b)
theorem script_of {l : OpenLaw} {n : Nat} (hn : l.most = some n) {P : Params} {h : Heap} {args : List WData} {vals : List Value}
    (hpre : l.row.toRowW.claim.pre args = true) (hwl : WellAll P h vals args) :
    ∃ a vs ns, vals = [Value.ref a] ∧ args = [WData.list (ns.map WData.int)] ∧ h.get? a = some { cls := .type "list", data := .seq vs.toArray } ∧ IntsAre vs ns ∧ ns.length ≤ n := by
  have hsh : WShape.hasAll [] args [.list .int] = true := (pre_splitW hpre).1
  have hc : l.pre.holds [] { args := args } = true := (pre_splitW hpre).2
  obtain ⟨d, r, rfl, h1, h2⟩ := hasAllW_cons hsh
  obtain rfl := hasAllW_nil h2
  obtain ⟨xs, rfl, h3⟩ := hasW_list h1
  obtain ⟨ns, rfl⟩ := items_int h3
  have hlen : ns.length ≤ n := by
    unfold OpenLaw.pre at hc
    have h4 : (WTm.not (.lt (.lit (.int (n : Int))) (.len (.arg 0)))).holds [] { args := [.list (ns.map .int)] } = true := by
      have h4 := (holds_andW hc).1
      rw [hn] at h4
      exact h4
    have h5 := condW_of h4 (w_not (w_lt w_lit (w_len_list (w_arg rfl))))
    rw [List.length_map] at h5
    refine Nat.le_of_not_lt fun q => ?_
    have q' : (n : Int) < ((ns.length : Nat) : Int) := by omega
    first
      | (rw [decide_eq_true q'] at h5; exact absurd h5 (by decide))
      | (simp at h5; omega)
  cases hwl with
  | cons w1 w2 =>
    cases w2
    cases w1 with
    | list ho hall => exact ⟨_, _, ns, rfl, rfl, ho, ints_of_wellAll ns _ hall, hlen⟩
theorem post_true (l : OpenLaw) (args : List WData) : l.row.toRowW.claim.post args (.bool true) args = true :=
  postW_of (r := l.row.toRowW) (X := (true == true))
    (show WShape.has [] (.bool true) .bool = true by first | rfl | decide | simp [WShape.has, WShape.arms, WShape.armsAll])
    (show (WTm.eq .res (.lit (.bool true))).value [] { args := args, res := some (.bool true), after := args } = some (.bool (true == true)) from w_eq_bool (w_res rfl) w_lit) rfl
theorem attach_call {l : OpenLaw} {n : Nat} {q : Program} {loose : List Str} {XP : (Str → Option Value) → Heap → Prop} {YP : World → Heap → Prop} {d : DefRec}
    (hn : l.most = some n) (hdf : d.params.defaults = [])
    (call : ∀ (w : World) (s₀ s₁ : Shared) (mg mb : Str → Option Value) (fa : Addr) (o : Obj) (pm cd doc : Value) (a : Addr) (vs : List Value) (ns : List Int),
      Ground q loose [] XP w s₀ mg mb s₁.heap → YP w s₁.heap →
      s₁.heap.get? fa = some o → o.data = .func (docDef d.name d.params d.body d.scope pm cd doc) → s₁.heap.CodeRec cd d.name → mg d.name = some (.ref fa) →
      s₁.heap.get? a = some { cls := .type "list", data := .seq vs.toArray } → IntsAre vs ns → ns.length ≤ n → s₁.gens = #[] →
      codeAny (model l.prog w) callerA (.call (.ref fa) ⟨[.ref a], []⟩) (fun r s' => r = .ok (.ret (.bool true)) ∧ OldK s₁.heap s'.heap ∧ s'.os = s₁.os ∧ AllBare s'.gens) s₁) :
    WalkO q loose XP YP l.row.toRowW d [] (fun f vs => PySem.call f vs) := by
  intro w s₀ s₁ mg mb G Y fa o pm cd doc dV kV ho hd hcd hD hmg hg args vals as hpre hlay hrd hwl hlo
  obtain rfl : dV = .none := Dflts.none hD hdf
  obtain rfl : kV = .none := Dflts.noKw hD
  obtain ⟨a, vs, ns, rfl, rfl, hobj, hints, hlen⟩ := script_of hn hpre hwl
  refine enter_call (codeAny_mono (call w s₀ s₁ mg mb fa o pm cd doc a vs ns G Y ho (fd_plain hd) hcd hmg hobj hints hlen hg) fun r s' hq => ?_)
  obtain ⟨rfl, h2, h3, h4⟩ := hq
  exact ⟨.inl ⟨.bool true, .bool true, [], rfl, fun _ => rfl, .bool true, post_true l _, fun _ => ⟨List.Pairwise.nil, fun _ hm => (nomatch hm)⟩⟩, h2, h3, h4⟩
section
variable {prog : Program} {w : World} {A : Around} {E : Value → Shared → Prop} {s : Shared} {K : Frag}
end
end Att
namespace L2
open PySem PySem.Spec PyProof.Rows
theorem vals_ints : ∀ {vs : List Value} {ns : List Int}, IntsAre vs ns → Vals (ns.map V.int) vs
  | _, _, .nil => .nil
  | _, _, .cons n t h => .cons ⟨t, rfl⟩ (vals_ints h)
def Only (H : Hp) : Prop := ∀ b, H b = none ∨ ∃ o xs, H b = some (.frz o (.lst xs))
theorem law_call {P : Program} {w : World} {K : PySem.W.Frag} {mg mb : Str → Option Value} {CX : CXT} {k : Nat} {fa a : Addr} {fd : FuncData} {x : Str} {sp : Sp} {s₁ : Shared} {vs : List Value} {ns : List Int}
    (KX : K.In s₁.heap) (hns : s₁.heap.Ns mainGlobals mg) (hb : s₁.heap.Ns builtinsNs mb) (hbb : ∀ x : Str, x ≠ "__name__" → mb x = bootBuiltins x) (hlim : s₁.heap.NoLimit) (hg : s₁.gens = #[])
    (ha : s₁.heap.get? a = some { cls := .type "list", data := .seq vs.toArray }) (hi : IntsAre vs ns) (hl : ns.length ≤ sizeLine) (hr : Room k callerA)
    (F : ∀ base : Heap, K.In base → base.Ns mainGlobals mg → FnOk P w K mg base CX k fa fd [x] sp) (hbind : ∀ (s : Shared) (u : Value), BindsTo s fd ⟨[u], []⟩ [(x, u)])
    (hsp : ∀ H : Hp, Only H → SqL K H a (ns.map V.int) → sp [.ref a] H (fun v _ => v = .bl true) fun _ _ _ => False)
    (hCX : ∀ H e s', CX [] H s₁ (fun _ _ _ => False) e s' → False) :
    codeAny (model P w) callerA (.call (.ref fa) ⟨[.ref a], []⟩) (fun r s' => r = .ok (.ret (.bool true)) ∧ OldK s₁.heap s'.heap ∧ s'.os = s₁.os ∧ AllBare s'.gens) s₁ := by
  have rv := vals_ints hi
  have lenV := hi.length
  have core : ∀ H : Hp, Only H → SqL K H a (ns.map V.int) → HOk P w H s₁.heap → (∀ b, H b ≠ none → b = a) → (H a ≠ none → K.lookup a = none) →
      codeAny (model P w) callerA (.call (.ref fa) ⟨[.ref a], []⟩) (fun r s' => r = .ok (.ret (.bool true)) ∧ OldK s₁.heap s'.heap ∧ s'.os = s₁.os ∧ AllBare s'.gens) s₁ := by
    intro H hO hS hok hA hK
    have base_of : ∀ {b : Addr} {o : Obj}, s₁.heap.get? b = some o → H b = none → (hidT s₁.heap H).get? b = some o := fun e n => hidT_get e n
    have noA : ∀ {b : Addr} {o : Obj} {es : Array DictEntry} {ep : Nat}, s₁.heap.get? b = some o → o.data = .dict es ep → H b = none := fun {b o es ep} e d => by
      cases q : H b with
      | none => rfl
      | some u =>
        have e' : b = a := hA b (by rw [q]; simp)
        subst e'
        rw [ha] at e; cases e
        have d' : Data.seq vs.toArray _ = Data.dict es ep := d
        cases d'
    have nsK : ∀ {b : Addr} {m : Str → Option Value}, s₁.heap.Ns b m → (hidT s₁.heap H).Ns b m := fun {b m} ⟨o, es, ep, e, d, r⟩ => ⟨o, es, ep, base_of e (noA e d), d, r⟩
    have hKb : K.In (hidT s₁.heap H) := fun b o e => base_of (KX b o e) (by
      cases q : H b with
      | none => rfl
      | some u =>
        have e' : b = a := hA b (by rw [q]; simp)
        subst e'
        rw [hK (by rw [q]; simp)] at e; cases e)
    have hM : Mod K mg (hidT s₁.heap H) := ⟨hKb, nsK hns, ⟨mb, nsK hb, hbb⟩, let ⟨mc, h1, h2⟩ := hlim; ⟨mc, nsK h1, h2⟩⟩
    have e0 : Env0 P w K mg (hidT s₁.heap H) callerA [] s₁ H := ⟨rfl, hM, fun b o e => of_hidT e, Nat.le_of_eq (hidT_size _ _), trivial, fun b hb => absurd (show b ∈ ([] : List Addr) from hb) (by simp), hok, .of_eq hg⟩
    refine codeAny_mono ((F _ hKb (nsK hns)).run callerA [] s₁ H ⟨[.ref a], []⟩ [.ref a] [.ref a] _ _ hr e0 (hbind s₁ (.ref a)) (.cons rfl .nil) (hsp H hO hS)) fun r s' h => ?_
    cases r with
    | error e => exact (hCX H e s' h).elim
    | ok fl =>
      cases fl with
      | next => exact False.elim h
      | brk => exact False.elim h
      | cont => exact False.elim h
      | ret u =>
        obtain ⟨v, H', os, bare, un, hok', r', q⟩ := h
        have q' : v = .bl true := q
        subst q'
        obtain rfl : u = Value.bool true := r'
        refine ⟨rfl, OldK.of_keep fun b o e => ?_, os, bare⟩
        cases q : H b with
        | none => exact un.keep b o e q (by intro z; exact absurd (show b ∈ ([] : List Addr) from z) (by simp)) (by simp)
        | some u =>
          rcases hO b with z | ⟨ob, xs, z⟩
          · rw [q] at z; cases z
          · have z2 := un.frzs b ob _ z
            obtain ⟨e1, _⟩ := hok b _ z
            obtain ⟨e2, _⟩ := hok' b _ z2
            rw [e] at e1; cases e1
            exact e2
  cases hk : K.lookup a with
  | some o =>
    have e := KX a o hk
    rw [ha] at e
    cases e
    refine core (fun _ => none) (fun _ => .inl rfl) (.inr ⟨_, vs.toArray, _, hk, rfl, rfl, rfl, by rw [List.size_toArray, lenV]; exact hl, by simpa using rv⟩) (fun b u z => by have z' : (none : Option HO) = some u := z; cases z') (fun b z => absurd rfl z) fun z => absurd rfl z
  | none =>
    refine core (fun b => if b = a then some (.frz { cls := .type "list", data := .seq vs.toArray } (.lst (ns.map V.int))) else none) (fun b => ?_) (.inl (.inr ⟨{ cls := .type "list", data := .seq vs.toArray }, if_pos rfl⟩)) (fun b u z => ?_) (fun b z => ?_) fun _ => hk
    · by_cases hb : b = a
      · exact .inr ⟨_, _, if_pos hb⟩
      · exact .inl (if_neg hb)
    · by_cases hb : b = a
      · have z' := (if_pos hb).symm.trans z
        cases z'
        subst hb
        exact ⟨ha, by rw [List.length_map]; exact hl, vs, _, rv, ha⟩
      · have z' := (if_neg hb).symm.trans z
        cases z'
    · by_cases hb : b = a
      · exact hb
      · exact absurd (if_neg hb) z
end L2
namespace L2
open PySem PySem.Spec PyProof.Rows
abbrev KOf {K : PySem.W.Frag} {h : Heap} (_ : K.In h) : PySem.W.Frag := K
theorem walk_of {l : PySem.W.OpenLaw} {n k : Nat} {q : Program} {loose : List Str} {XP : (Str → Option Value) → Heap → Prop} {YP : World → Heap → Prop} {d : DefRec} {K : Params → PySem.W.Frag} {CX : World → CXT} {sp : World → Sp} {x : Str}
    (hn : l.most = some n) (hn2 : n ≤ sizeLine) (hdf : d.params.defaults = []) (hr : Room k callerA)
    (hY : ∀ (w : World) (h : Heap), YP w h → (K w.params).In h)
    (F : ∀ (w : World) (mg : Str → Option Value) (fa : Addr) (h : Heap), (K w.params).In h → h.Ns mainGlobals mg → mg d.name = some (.ref fa) →
      ∃ fd : FuncData, (∀ (s : Shared) (u : Value), BindsTo s fd ⟨[u], []⟩ [(x, u)]) ∧
        ∀ base : Heap, (K w.params).In base → base.Ns mainGlobals mg → FnOk l.prog w (K w.params) mg base (CX w) k fa fd [x] (sp w))
    (hsp : ∀ (w : World) (H : Hp) (a : Addr) (ns : List Int), ns.length ≤ n → Only H → SqL (K w.params) H a (ns.map V.int) → sp w [.ref a] H (fun v _ => v = .bl true) fun _ _ _ => False)
    (hCX : ∀ (w : World) (H : Hp) (s : Shared) (e : Value) (s' : Shared), CX w [] H s (fun _ _ _ => False) e s' → False) :
    PySem.W.WalkO q loose XP YP l.row.toRowW d [] (fun f vs => PySem.call f vs) := by
  refine Att.attach_call hn hdf fun w s₀ s₁ mg mb fa o pm cd doc a vs ns G Y ho hd hcd hmg hobj hints hlen hg => ?_
  have KX := hY w _ Y
  obtain ⟨fd, hb, hF⟩ := F w mg fa _ KX G.T.g hmg
  exact law_call KX G.T.g G.T.b G.T.builtins G.T.nolimit hg hobj hints (Nat.le_trans hlen hn2) hr hF hb (fun H hO hS => hsp w H a ns hlen hO hS) fun H e s' => hCX w H s₁ e s'
end L2
namespace L2
open PySem PySem.Spec PyProof.Rows
abbrev CX0 : CXT := fun _ _ _ _ _ _ => False
abbrev E0 : XK := fun _ _ _ => False
theorem pass0 {X : Cx} : Passes CX0 X E0 := fun _ _ _ _ _ _ _ h => h.elim
structure Fun (K : PySem.W.Frag) (x qual : Str) (st : Stmt) (f : Addr) (fd : FuncData) : Prop where
  ex : ∃ (oc : Value) (od : Option Addr) (kV doc pm : Value) (an : Option Addr) (cdv ct : Value) (osl : Array (Option Value)),
    fd = PySem.W.fnOf x qual (defArgs st) (defBody st) (defScope st) .none kV doc pm an cdv ct ∧ K.lookup f = some ⟨oc, od, .func fd, osl⟩ ∧ PySem.W.codeIn K cdv qual = true
  kp : PySem.W.keepIn K (.ref f) = true
section
variable {P : Program} {w : World} {K : PySem.W.Frag} {mg : Str → Option Value} {base : Heap}
theorem Fun.ok {x qual : Str} {st : Stmt} {f : Addr} {fd : FuncData} {N ps : List Str} {k : Nat} {sp : Sp} (F : Fun K x qual st f fd) (S : FnScope N ps (defScope st)) (len : ∀ vs H Q E, sp vs H Q E → vs.length = ps.length)
    (hbody : ∀ (cdv : Value) (A : Around) (outer : List Env) (s : Shared) (H : Hp) (vs : List V) (Q : VK) (E : XK), Room k (A.deeper (envOfC qual (defScope st) s.heap.objs.size f cdv)) → sp vs H Q E →
      ∃ t, PSs (cxOf CX0 P w K mg base N qual (defScope st) f cdv A outer s H E).nox (defBody st) t ∧ t { nx := fun _ H' => Q .non H', rt := Q } (start N vs) H) : FnOk P w K mg base CX0 (k + 1) f fd ps sp := by
  obtain ⟨oc, od, kV, doc, pm, an, cdv, ct, osl, rfl, lk, hcd⟩ := F.ex
  refine fn_of lk hcd S len fun A outer s H vs Q E hr hsp => ?_
  obtain ⟨t, h, q⟩ := hbody cdv A outer s H vs Q E hr hsp
  exact ⟨t, h.nox, q⟩
theorem Fun.binds {x qual : Str} {st : Stmt} {f : Addr} {fd : FuncData} {ps : List Str} (F : Fun K x qual st f fd)
    (h : ∀ (kV doc pm : Value) (an : Option Addr) (cdv ct : Value) (us : List Value), us.length = ps.length → bindArgs (PySem.W.fnOf x qual (defArgs st) (defBody st) (defScope st) .none kV doc pm an cdv ct) ⟨us, []⟩ = pure (ps.zip us)) : Binds K fd ps [] := by
  obtain ⟨oc, od, kV, doc, pm, an, cdv, ct, osl, rfl, lk, hcd⟩ := F.ex
  exact .all (h kV doc pm an cdv ct)
theorem fun_mk {x qual : Str} {st : Stmt} {f : Addr} {oc : Value} {od an : Option Addr} {osl : Array (Option Value)} {kV doc pm cdv ct : Value} (l : K.lookup f = some ⟨oc, od, .func (PySem.W.fnOf x qual (defArgs st) (defBody st) (defScope st) .none kV doc pm an cdv ct), osl⟩)
    (c : PySem.W.codeIn K cdv qual = true) (k : PySem.W.keepIn K (.ref f) = true) : Fun K x qual st f (PySem.W.fnOf x qual (defArgs st) (defBody st) (defScope st) .none kV doc pm an cdv ct) := ⟨⟨oc, od, kV, doc, pm, an, cdv, ct, osl, rfl, l, c⟩, k⟩
end
section
variable {X : Cx}
theorem pv (i : Nat) {x : Str} {pos : Pos} (hN : X.N[i]? = some x := by rfl) (hv : Vis X.env.scope x := by first | exact Or.inl rfl | exact Or.inr (Or.inl rfl) | exact Or.inr (Or.inr rfl)) (hd : (x == ("__debug__" : Str)) = false := by decide)
    (hcd : (x == ("__classdict__" : Str)) = false := by decide) : PE X (.Name x pos) (tVar i) := pe_var hN hv hd hcd
end
theorem iteF {A B : Prop} (h : B) : if false = true then A else B := by
  rw [if_neg Bool.false_ne_true]
  exact h
theorem iteT {A B : Prop} (h : A) : if true = true then A else B := by
  rw [if_pos rfl]
  exact h
theorem iteNS {c A B : Prop} [Decidable c] (hc : c) (h : B) : if (!decide c) = true then A else B := by
  rw [decide_eq_true hc]
  exact iteF h
def Same (H H' : Hp) : Prop := ∀ b o, H b = some o → H' b = some o
theorem Same.refl (H : Hp) : Same H H := fun _ _ h => h
theorem Same.seq {K : PySem.W.Frag} {H H' : Hp} {a : Addr} {xs : List V} (e : Same H H') (h : SqL K H a xs) : SqL K H' a xs := by
  rcases h with (h | ⟨o, h⟩) | h
  · exact .inl (.inl (e _ _ h))
  · exact .inl (.inr ⟨o, e _ _ h⟩)
  · exact .inr h
end L2
namespace L2
open PySem PySem.Spec PyProof.Rows
def clo (cells : List (Str × Addr)) : List (Str × NameKind) → List (Str × Addr) → List (Str × Addr)
  | [], cs => cs
  | (n, k) :: r, cs => clo cells r (if k == .free then (n, (cells.lookup n).getD 0) :: cs else cs)
theorem clo_eq {env : Env} : ∀ (names : List (Str × NameKind)) (cs : List (Str × Addr)), (∀ y ∈ names, y.2 = .free → ∃ c, env.cells.lookup y.1 = some c) →
    (forIn names cs fun (x : Str × NameKind) (r : List (Str × Addr)) => (do
      let cs := r
      match x with
      | (name, kind) =>
        if kind == .free then do
          let c ← cellOf env name
          let cs := (name, c) :: cs
          pure (ForInStep.yield cs)
        else pure (ForInStep.yield cs) : Sem (ForInStep (List (Str × Addr))))) = pure (clo env.cells names cs)
  | [], cs, _ => rfl
  | (n, k) :: r, cs, h => by
    rw [List.forIn_cons]
    by_cases hk : k = .free
    · subst hk
      obtain ⟨c, hc⟩ := h (n, .free) List.mem_cons_self rfl
      have e : cellOf env n = pure c := by unfold cellOf; rw [hc]
      simp only [beq_self_eq_true, if_true, e, pure_bind]
      rw [clo_eq r _ fun y hy => h y (List.mem_cons_of_mem _ hy)]
      simp [clo, hc]
    · have hb : (k == NameKind.free) = false := by simpa using hk
      simp only [hb, Bool.false_eq_true, if_false, pure_bind]
      rw [clo_eq r _ fun y hy => h y (List.mem_cons_of_mem _ hy)]
      simp [clo, hb]
theorem closureFor_clo {env : Env} {scope : Scope} (h : ∀ y ∈ scope.names, y.2 = .free → ∃ c, env.cells.lookup y.1 = some c) : closureFor scope env = pure (clo env.cells scope.names []) := by
  unfold closureFor
  have e := clo_eq (env := env) scope.names [] h
  first
    | (rw [← e]; rfl)
    | (simp only [bind_pure]; exact e)
    | exact e
theorem clo_mem {cells : List (Str × Addr)} : ∀ (names : List (Str × NameKind)) (cs : List (Str × Addr)) (p : Str × Addr), p ∈ clo cells names cs → p ∈ cs ∨ p.2 = (cells.lookup p.1).getD 0
  | [], _, _, h => .inl h
  | (n, k) :: r, cs, p, h => by
    rcases clo_mem r _ p h with h' | h'
    · by_cases hk : (k == NameKind.free) = true
      · rw [if_pos hk] at h'
        rcases List.mem_cons.mp h' with e | e
        · subst e; exact .inr rfl
        · exact .inl e
      · rw [if_neg hk] at h'; exact .inl h'
    · exact .inr h'
theorem clo_keep {cells : List (Str × Addr)} : ∀ (names : List (Str × NameKind)) (cs : List (Str × Addr)) (x : Str), (cs.lookup x).isSome = true → ((clo cells names cs).lookup x).isSome = true
  | [], _, _, h => h
  | (n, k) :: r, cs, x, h => by
    refine clo_keep r _ x ?_
    by_cases hk : (k == NameKind.free) = true
    · rw [if_pos hk]
      rw [List.lookup_cons]
      cases x == n with
      | true => rfl
      | false => exact h
    · rw [if_neg hk]; exact h
theorem clo_has {cells : List (Str × Addr)} : ∀ (names : List (Str × NameKind)) (cs : List (Str × Addr)) (x : Str), (x, NameKind.free) ∈ names → ((clo cells names cs).lookup x).isSome = true
  | [], _, _, h => nomatch h
  | (n, k) :: r, cs, x, h => by
    show ((clo cells r _).lookup x).isSome = true
    rcases List.mem_cons.mp h with e | e
    · have e1 : x = n := congrArg Prod.fst e
      have e2 : NameKind.free = k := congrArg Prod.snd e
      subst e1
      subst e2
      refine clo_keep r _ x ?_
      rw [if_pos (by decide), List.lookup_cons]
      simp
    · exact clo_has r _ x e
theorem clo_sub {cells : List (Str × Addr)} {names : List (Str × NameKind)} {x : Str} {c : Addr} (h : (clo cells names []).lookup x = some c) : c = (cells.lookup x).getD 0 := by
  rcases clo_mem names [] _ (PySem.mem_of_lookup h) with z | z
  · exact nomatch z
  · exact z
theorem clo_free {cells : List (Str × Addr)} : ∀ {names : List (Str × NameKind)} (cs : List (Str × Addr)) {p : Str × Addr}, p ∈ clo cells names cs → p ∈ cs ∨ (p.1, NameKind.free) ∈ names
  | [], _, _, h => .inl h
  | (n, k) :: r, cs, p, h => by
    rcases clo_free (names := r) _ h with h' | h'
    · by_cases hk : (k == NameKind.free) = true
      · rw [if_pos hk] at h'
        rcases List.mem_cons.mp h' with e | e
        · subst e
          have : k = .free := by simpa using hk
          subst this
          exact .inr List.mem_cons_self
        · exact .inl e
      · rw [if_neg hk] at h'; exact .inl h'
    · exact .inr (List.mem_cons_of_mem _ h')
def compCx (X : Cx) (scope : Scope) (N : List Str) (s : Shared) (H : Hp) (ex : List Addr) : Cx :=
  { X with N := N, s₀ := s, H₀ := H, env := compEnvC scope (clo X.env.cells scope.names []) s.heap.objs.size X.env, outer := X.stack, stack := X.stack, ex := ex, fn := fun x => ((clo X.env.cells scope.names []).lookup x).isNone, pn := [], xe := fun _ _ => False }
def freeOk (sc scope : Scope) : Bool := scope.names.all fun y => (y.2 != .free) || (sc.names.lookup y.1 == some .cell) || (sc.names.lookup y.1 == some .free)
def ownOk (scope : Scope) : Bool := (scope.kind == .function) && (scope.names.all fun y => y.2 != .cell) && (scope.names.all fun y => y.2 != .local || scope.names.lookup y.1 == some .local)
def capOk (scope : Scope) (N N' : List Str) (cap : List (Option Nat)) : Bool := (cap.length == N'.length) && (N'.zip cap).all fun p => match p.2 with
  | none => true
  | some j => N[j]? == some p.1 && scope.names.lookup p.1 == some .free
def capSt (cap : List (Option Nat)) (σ : St) : St := cap.map fun o => o.bind fun j => (σ[j]?).bind id
theorem lookup_mapK {f : Str × NameKind → Str × NameKind} (hf : ∀ y, (f y).1 = y.1) (x : Str) : ∀ names : List (Str × NameKind), (names.map f).lookup x = (names.lookup x).map fun k => (f (x, k)).2
  | [] => rfl
  | (n, k) :: r => by
    have ih := lookup_mapK hf x r
    have e1 : (f (n, k)).1 = n := hf (n, k)
    have e2 : f (n, k) = (n, (f (n, k)).2) := Prod.ext e1 rfl
    rw [List.map_cons, e2, List.lookup_cons, List.lookup_cons]
    cases hx : x == n with
    | true =>
      have : x = n := by simpa using hx
      subst this
      rfl
    | false => exact ih
def rlb (env : Env) : Str × NameKind → Str × NameKind := fun (n, k) => if (k == NameKind.free && env.scope.kind == .function && env.kindOf n == some .cell) then (n, NameKind.cell) else (n, k)
theorem rlb_fst (env : Env) (y : Str × NameKind) : (rlb env y).1 = y.1 := by
  obtain ⟨n, k⟩ := y
  unfold rlb
  dsimp only
  split <;> rfl
theorem rlb_snd (env : Env) (n : Str) (k : NameKind) : (rlb env (n, k)).2 = k ∨ ((rlb env (n, k)).2 = .cell ∧ k = .free) := by
  unfold rlb
  dsimp only
  split
  · rename_i h
    rw [Bool.and_eq_true, Bool.and_eq_true] at h
    exact .inr ⟨rfl, by simpa using h.1.1⟩
  · exact .inl rfl
theorem relabel_names (scope : Scope) (env : Env) : (relabel scope env).names = scope.names.map (rlb env) := rfl
theorem relabel_free {scope : Scope} {env : Env} {x : Str} (h : scope.names.lookup x = some .free) : (relabel scope env).names.lookup x = some .cell ∨ (relabel scope env).names.lookup x = some .free := by
  rw [relabel_names, lookup_mapK (rlb_fst env), h]
  rcases rlb_snd env x .free with e | ⟨e, _⟩
  · exact .inr (congrArg some e)
  · exact .inl (congrArg some e)
theorem relabel_back {scope : Scope} {env : Env} {x : Str} {k' : NameKind} (hk : k' = .cell ∨ k' = .free) (hn : ∀ y ∈ scope.names, y.2 ≠ .cell) (h : (relabel scope env).names.lookup x = some k') : (x, NameKind.free) ∈ scope.names := by
  rw [relabel_names, lookup_mapK (rlb_fst env)] at h
  cases e : scope.names.lookup x with
  | none => rw [e] at h; cases h
  | some k =>
    rw [e] at h
    have h' : (rlb env (x, k)).2 = k' := Option.some.inj h
    have hm := PySem.mem_of_lookup e
    rcases rlb_snd env x k with z | ⟨_, z⟩
    · rw [z] at h'
      subst h'
      rcases hk with z2 | z2
      · exact absurd z2 (hn _ hm)
      · rw [z2] at hm; exact hm
    · rw [z] at hm; exact hm
def PTs (X : Cx) (ifs : List Expr) (t : TT) : Prop :=
  ∀ (pins : List (Addr × Obj)) (s : Shared) (σ : St) (H : Hp) (Q : Bool → Hp → Prop), Inv X pins σ H s → t σ H Q →
    wpAny (model X.prog X.w) X.A (forIn ifs true fun c r => if r = true then do let ok ← isTrue c X.env (eval c X.env); pure (ForInStep.yield ok) else pure (ForInStep.yield r)) (TP X pins σ Q) X.xe s
def tYes : TT := fun _ H Q => Q true H
theorem yesT {i : Nat} {x : V} {τ : St} {H : Hp} {A B : St → Hp → Prop} (h : A (τ.set i (some x)) H) : gName i x τ H fun τ4 H4 => tYes τ4 H4 fun b H5 => if b = true then A τ4 H5 else B τ4 H5 := by
  show if true = true then A (τ.set i (some x)) H else B (τ.set i (some x)) H
  rw [if_pos rfl]; exact h
theorem pts_nil {X : Cx} : PTs X [] tYes := fun _ _ _ H _ I h => wpAny_tests_nil ⟨H, I, h⟩
theorem pts_one {X : Cx} {c : Expr} {t : TT} (h : PT X c t) : PTs X [c] t := fun pins s σ H Q I hq => wpAny_tests_one (h pins s σ H Q I hq)
def tTurns (J : It) (acc : Addr) (g : TG) (tc : TT) (te : TE) (τ : St) (H1 : Hp) (Q : Hp → Prop) : Prop :=
  ∃ W : Nat → Nat → St → Hp → Prop, (∃ m, W 0 m τ (upd H1 acc (.lst []))) ∧ ∀ i m τ H2, W i m τ H2 → (J.stop i H2 ∧ Q H2) ∨ (J.go i H2 ∧ ∃ N : St → Hp → Prop, (∀ τ' H', N τ' H' → ∃ m', m' < m ∧ W (i + 1) m' τ' H') ∧ ∀ x H3, J.yld i H2 x H3 → g x τ H3 fun τ4 H4 =>
    tc τ4 H4 fun b H5 => if b = true then te τ4 H5 fun y H6 => ∃ ys, H6 acc = some (.lst ys) ∧ ys.length < sizeLine ∧ N τ4 (upd H6 acc (.lst (ys ++ [y]))) else N τ4 H5)
theorem comp_range {lo : Int} {n : Nat} {acc : Addr} {g : TG} {tc : TT} {te : TE} {τ : St} {H1 : Hp} {Q : Hp → Prop} (Pv : Nat → St → Hp → Prop) (h0 : Pv 0 τ (upd H1 acc (.lst [])))
    (hs : ∀ i τ H, i < n → Pv i τ H → g (.int (lo + i)) τ H fun τ4 H4 => tc τ4 H4 fun b H5 => if b = true then te τ4 H5 fun y H6 => ∃ ys, H6 acc = some (.lst ys) ∧ ys.length < sizeLine ∧ Pv (i + 1) τ4 (upd H6 acc (.lst (ys ++ [y]))) else Pv (i + 1) τ4 H5)
    (hd : ∀ τ H, Pv n τ H → Q H) : tTurns (Itr lo n) acc g tc te τ H1 Q := by
  refine ⟨fun i m τ H => m = n - i ∧ i ≤ n ∧ Pv i τ H, ⟨n, by simp, Nat.zero_le _, h0⟩, ?_⟩
  rintro i m τ H ⟨rfl, hi, p⟩
  by_cases hlt : i < n
  · refine .inr ⟨hlt, Pv (i + 1), fun τ' H' p' => ⟨n - (i + 1), by omega, rfl, hlt, p'⟩, fun x H' y => ?_⟩
    obtain ⟨e, y⟩ := y
    subst e y
    exact hs i τ _ hlt p
  · have e : i = n := by omega
    subst e
    exact .inl ⟨Nat.le_refl _, hd τ H p⟩
theorem comp_list {K : PySem.W.Frag} {a : Addr} {xs : List V} {acc : Addr} {g : TG} {tc : TT} {te : TE} {τ : St} {H1 : Hp} {Q : Hp → Prop} (Pv : Nat → St → Hp → Prop) (h0 : Pv 0 τ (upd H1 acc (.lst []))) (hl : ∀ i τ H, i ≤ xs.length → Pv i τ H → SqL K H a xs)
    (hs : ∀ i x τ H, xs[i]? = some x → Pv i τ H → g x τ H fun τ4 H4 => tc τ4 H4 fun b H5 => if b = true then te τ4 H5 fun y H6 => ∃ ys, H6 acc = some (.lst ys) ∧ ys.length < sizeLine ∧ Pv (i + 1) τ4 (upd H6 acc (.lst (ys ++ [y]))) else Pv (i + 1) τ4 H5)
    (hd : ∀ τ H, Pv xs.length τ H → Q H) : tTurns (Itl K a) acc g tc te τ H1 Q := by
  refine ⟨fun i m τ H => m = xs.length - i ∧ i ≤ xs.length ∧ Pv i τ H, ⟨xs.length, by simp, Nat.zero_le _, h0⟩, ?_⟩
  rintro i m τ H ⟨rfl, hi, p⟩
  have q := hl i τ H hi p
  by_cases hlt : i < xs.length
  · refine .inr ⟨⟨xs, xs[i], q, by simp [hlt]⟩, Pv (i + 1), fun τ' H' p' => ⟨xs.length - (i + 1), by omega, rfl, hlt, p'⟩, fun x H' y => ?_⟩
    obtain ⟨e, y⟩ := y
    subst e
    exact hs i x τ _ (y xs q) p
  · have e : i = xs.length := by omega
    subst e
    exact .inl ⟨⟨xs, q, Nat.le_refl _⟩, hd τ H p⟩
def tComp (wi : TI) (cap : List (Option Nat)) (g : TG) (tc : TT) (te : TE) : TE := fun σ H Q => wi σ H fun J H1 => ∀ acc, H1 acc = none → tTurns J acc g tc te (capSt cap σ) H1 (fun H2 => Q (.ref acc) H2)
abbrev cTests (ifs : List Expr) (env : Env) : Sem Bool := forIn ifs true fun c r => if r = true then do let ok ← isTrue c env (eval c env); pure (ForInStep.yield ok) else pure (ForInStep.yield r)
abbrev wpQ {α : Type} (prog : Program) (w : World) (A : Around) (m : Sem α) (Q : α → Shared → Prop) (s : Shared) : Prop := wpAny (model prog w) A m Q (fun _ _ => False) s
theorem comp_loop {prog : Program} {w : World} {A : Around} {R : Result → Shared → Prop} {s : Shared} {elt target iter : Expr} {ifs : List Expr} {scope : Scope} {pos : Pos} {it acc : Value} {env : Env} (I : Nat → Shared → Prop)
    (turn : ∀ k s0, I k s0 → wpQ prog w A (pyNext it) (fun r s1 => (r = none ∧ R (.ok .next) s1) ∨ ∃ v, r = some v ∧
      wpQ prog w A (letOwnedTupleGo target it v) (fun _ s2 => wpQ prog w A (assign target env v) (fun _ s3 => wpQ prog w A (cTests ifs env) (fun ok s4 =>
        (ok = false ∧ ∃ m, m < k ∧ I m s4) ∨ (ok = true ∧ wpQ prog w A (eval elt env) (fun x s5 => wpQ prog w A (call (.builtin "list.append") [acc, x]) (fun _ s6 => ∃ m, m < k ∧ I m s6) s5) s4)) s3) s2) s1) s0)
    (k : Nat) (h : I k s) : codeAny (model prog w) A (.compLoop (.ListComp elt [⟨target, iter, ifs, 0⟩] scope pos) 0 it acc env) R s := by
  have quiet : ∀ (e : Value) (s' : Shared), False → notedBy (model prog w) A env (fun e s' => R (.error e) s') e s' := fun _ _ z => z.elim
  apply codeAny_loop rfl I _ k h
  intro k s0 start
  apply wpAny_noted
  rw [compTurn_list]
  apply wpAny_bind
  apply wpAny_standAt
  apply wpAny_bind
  apply wpAny_mono (turn k s0 start) _ quiet
  rintro r s1 (⟨rfl, stop⟩ | ⟨v, rfl, rest⟩)
  · exact wpAny_pure stop
  apply wpAny_bind
  apply wpAny_mono rest _ quiet
  intro _ s2 h2
  apply wpAny_bind
  apply wpAny_mono h2 _ quiet
  intro _ s3 h3
  apply wpAny_bind
  apply wpAny_mono h3 _ quiet
  rintro ok s4 (⟨rfl, skip⟩ | ⟨rfl, add⟩)
  · exact wpAny_pure ⟨rfl, skip⟩
  apply wpAny_bind
  apply wpAny_bind
  apply wpAny_mono add _ quiet
  intro x s5 h5
  apply wpAny_bind
  apply wpAny_mono h5 _ quiet
  intro _ s6 h6
  exact wpAny_pure (wpAny_pure ⟨rfl, h6⟩)
section
variable {X : Cx} {tg iter elt : Expr} {ifs : List Expr} {scope : Scope} {pos : Pos} {wi : TI} {N' : List Str} {cap : List (Option Nat)} {g : TG} {tc : TT} {te : TE}
theorem comp_block {use : Option (Value → Sem Unit)} {R : Value → Shared → Prop} (sc : Scope) (hsc : X.env.scope = sc) (N₀ : List Str) (hN₀ : X.N = N₀) (f1 : freeOk sc scope = true) (f2 : ownOk scope = true) (f3 : capOk scope N₀ N' cap = true) (hcalm : X.calm = true)
    (hi : PI X tg iter wi)
    (hg : ∀ (s : Shared) (H : Hp) (ex : List Addr), PG (compCx X scope N' s H ex) tg g)
    (hc : ∀ (s : Shared) (H : Hp) (ex : List Addr), PTs (compCx X scope N' s H ex) ifs tc)
    (he : ∀ (s : Shared) (H : Hp) (ex : List Addr), PE (compCx X scope N' s H ex) elt te)
    (hs : ∀ x, foldedSetIterable iter X.env x = pure x)
    {pins : List (Addr × Obj)} {s : Shared} {σ : St} {H : Hp} {Q : V → Hp → Prop} (I : Inv X pins σ H s) (h : tComp wi cap g tc te σ H Q)
    (fin : ∀ (acc C : Addr) (s' : Shared) (H' : Hp) (m : Str → Option Value), Inv X pins σ H' s' → s'.heap.Ns C m → H' C = none → C ≠ X.env.locals → X.s₀.heap.objs.size ≤ C → (∀ x c, X.env.cells.lookup x = some c → c ≠ C) → (∀ p ∈ X.pn ++ pins, p.1 ≠ C) → Q (.ref acc) H' →
      compPost (model X.prog X.w) X.A X.xe use R (.ref acc) C (.ok .next) s') :
    wpAny (model X.prog X.w) X.A (comprehension (.ListComp elt [⟨tg, iter, ifs, 0⟩] scope pos) scope X.env (firstIterPos [⟨tg, iter, ifs, 0⟩] pos) (newList []) false (firstIter [⟨tg, iter, ifs, 0⟩] X.env) use) R X.xe s := by
  have ok := I.ok
  have fr : ∀ y ∈ scope.names, y.2 = .free → X.env.kindOf y.1 = some .cell ∨ X.env.kindOf y.1 = some .free := fun y hy e => by
    have q := List.all_eq_true.mp f1 y hy
    rw [e] at q
    have q' : ((sc.names.lookup y.1 == some NameKind.cell) || (sc.names.lookup y.1 == some NameKind.free)) = true := by simpa using q
    rw [Bool.or_eq_true] at q'
    unfold Env.kindOf
    rw [hsc]
    rcases q' with z | z
    · exact .inl (by simpa using z)
    · exact .inr (by simpa using z)
  obtain ⟨⟨k1, k2⟩, k3⟩ : ((scope.kind == .function) = true ∧ (scope.names.all fun y => y.2 != .cell) = true) ∧ (scope.names.all fun y => y.2 != .local || scope.names.lookup y.1 == some .local) = true := by
    unfold ownOk at f2
    rw [Bool.and_eq_true, Bool.and_eq_true] at f2
    exact f2
  have hkind : scope.kind = .function := by simpa using k1
  have hcell : ∀ y ∈ scope.names, y.2 ≠ .cell := fun y hy => by
    have q := List.all_eq_true.mp k2 y hy
    simpa using q
  have hnames : ∀ y ∈ scope.names, y.2 = .local → scope.names.lookup y.1 = some .local := fun y hy e => by
    have q := List.all_eq_true.mp k3 y hy
    rw [e] at q
    simpa using q
  have hclos : closureFor scope X.env = pure (clo X.env.cells scope.names []) := closureFor_clo fun y hy e => ok.has y.1 (fr y hy e)
  have clX : ∀ x c, (clo X.env.cells scope.names []).lookup x = some c → X.env.cells.lookup x = some c := fun x c e => by
    have e1 := clo_sub e
    have hx : (x, NameKind.free) ∈ scope.names := by
      rcases clo_free [] (PySem.mem_of_lookup e) with z | z
      · exact nomatch z
      · exact z
    obtain ⟨c', e2⟩ := ok.has x (fr (x, .free) hx rfl)
    rw [e2] at e1 ⊢
    rw [e1]; rfl
  refine wpAny_comprehension_free (use := use) rfl hs hclos hkind hnames ?_
  show wpAny (model X.prog X.w) X.A (eval iter X.env) _ X.xe s
  refine thn (hi pins s σ H _ I h) fun v s1 h1 => thn h1 fun itv s2 h2 => ?_
  obtain ⟨it, fp, tn, J, H2, e, I2, T, st2, f2', h3⟩ := h2
  subst e
  refine wpAny_newObj_type ?_
  have fresh2 : H2 s2.heap.objs.size = none := I2.hok.fresh (Nat.le_refl _)
  have I3 : Inv X pins σ (upd H2 s2.heap.objs.size (.lst [])) { s2 with heap := s2.heap.push { cls := .type "list", data := .seq ([] : List Value).toArray } } :=
    I2.laid (t' := s2.toks) (fun b o e => Heap.get?_push_of_some _ e) (Nat.le_refl _) ⟨Nat.zero_le _, [], 0, .nil, Heap.get?_push_size _ rfl⟩
  have st3 : tn 0 (s2.heap.push { cls := .type "list", data := .seq ([] : List Value).toArray }) := T.keep _ _ _ st2 fun b _ o e => Heap.get?_push_of_some _ e
  have fpne : ∀ b ∈ fp, b ≠ s2.heap.objs.size := fun b hb z => by
    obtain ⟨o, eo, _⟩ := T.obj 0 _ st2 b hb
    exact absurd (Heap.lt_size eo) (by rw [z]; exact Nat.lt_irrefl _)
  have fp3 : ∀ b ∈ fp, FpOk X pins (upd H2 s2.heap.objs.size (.lst [])) b := fun b hb => by
    obtain ⟨a0, a1⟩ := f2' b hb
    exact ⟨by rw [upd_ne (fpne b hb)]; exact a0, a1⟩
  obtain ⟨W, ⟨m0, w0⟩, turn⟩ := h3 s2.heap.objs.size fresh2
  generalize hacc : s2.heap.objs.size = acc at I3 fp3 w0 turn fpne ⊢
  generalize hs3 : ({ s2 with heap := s2.heap.push { cls := .type "list", data := .seq ([] : List Value).toArray } } : Shared) = s3 at I3 ⊢
  have st3 : tn 0 s3.heap := by rw [← hs3]; exact st3
  have accTr : (upd H2 acc (.lst [])) acc = some (.lst []) := upd_same
  refine wpAny_newFunctionEnv hcell (by intro y hy; cases hy) (fun h4 hns hsb => ?_) hkind
  have hCf : s3.heap.get? s3.heap.objs.size = none := Heap.get?_none_of_le (Nat.le_refl _)
  have kp4 : ∀ b o, s3.heap.get? b = some o → h4.get? b = some o := fun b o e => hsb.extBut b o (Nat.ne_of_lt (Heap.lt_size e)) (Heap.get?_push_of_some _ e)
  let Y : Cx := compCx X scope N' s3 (upd H2 acc (.lst [])) fp
  have envY : Y.env = compEnvC scope (clo X.env.cells scope.names []) s3.heap.objs.size X.env := rfl
  have okY : Y.Ok := by
    refine ⟨ok.mod, ?_, ok.glob, ok.blt, Nat.le_refl _, ?_, ?_, ?_, ok.hd, ok.frames, .inl rfl, ?_, ?_, ?_, ?_, ?_, ?_, ?_⟩
    · show (relabel scope X.env).kind = .function
      exact hkind
    · exact fun x y c h1 h2 => ok.inj x y c (clX x c h1) (clX y c h2)
    · intro x hx
      have hx' : (relabel scope X.env).names.lookup x = some .cell ∨ (relabel scope X.env).names.lookup x = some .free := hx
      have hm : (x, NameKind.free) ∈ scope.names := by
        rcases hx' with z | z
        · exact relabel_back (.inl rfl) hcell z
        · exact relabel_back (.inr rfl) hcell z
      exact Option.isSome_iff_exists.mp (clo_has scope.names [] x hm)
    · intro x c hx h1
      have hx' : ((clo X.env.cells scope.names []).lookup x).isNone = true := hx
      have h1' : (clo X.env.cells scope.names []).lookup x = some c := h1
      rw [h1'] at hx'; cases hx'
    · intro b hb
      obtain ⟨q0, q1, q2, q3, q4, q5⟩ := fp3 b hb
      refine ⟨?_, fun x c h1 => q4 x c (clX x c h1)⟩
      obtain ⟨o, eo, _⟩ := T.obj 0 _ st3 b hb
      exact Nat.ne_of_lt (Heap.lt_size eo)
    · exact fun b o e => I3.bs b o e
    · exact Nat.le_trans ok.bsz I3.sz
    · intro b o e hb
      obtain ⟨q0, q1, q2, q3, q4, q5⟩ := fp3 b hb
      rcases q3 with z | z
      · exact ok.noex b o e z
      · exact absurd (Nat.lt_of_lt_of_le (Heap.lt_size e) (Nat.le_trans ok.bsz z)) (Nat.lt_irrefl _)
    · intro b hb hf
      obtain ⟨q0, q1, q2, q3, q4, q5⟩ := fp3 b hb
      rcases List.mem_cons.mp (I3.stkSub b hf) with z | z
      · exact q1 z
      · exact q2 z
    · exact I3.stack
    · exact I3.stkFree
  have capl : cap.length = N'.length ∧ ∀ p ∈ N'.zip cap, (match p.2 with | none => true | some j => N₀[j]? == some p.1 && scope.names.lookup p.1 == some .free) = true := by
    unfold capOk at f3
    rw [Bool.and_eq_true] at f3
    exact ⟨by simpa using f3.1, fun p hp => List.all_eq_true.mp f3.2 p hp⟩
  have IY : Inv Y [] (capSt cap σ) (upd H2 acc (.lst [])) { s3 with heap := h4, toks := s3.toks + ([] : List (Str × Value)).length } := by
    refine ⟨okY, rfl, I3.bare, Un.kept kp4, ⟨_, hns, ?_⟩, ?_, ?_, ?_, fun p hp => absurd (show p ∈ ([] : List (Addr × Obj)) from hp) (by simp), I3.hok.kept kp4, ?_⟩
    · intro i x v e1 e2 e3
      have e1' : N'[i]? = some x := e1
      unfold capSt at e2
      rw [List.getElem?_map] at e2
      cases ec : cap[i]? with
      | none => rw [ec] at e2; cases e2
      | some o =>
        rw [ec] at e2
        cases o with
        | none => cases e2
        | some j =>
          have e2' : (σ[j]?).bind id = some v := by simpa using e2
          have hz : (x, some j) ∈ N'.zip cap := by
            refine List.mem_of_getElem? (i := i) ?_
            rw [List.getElem?_zip_eq_some]
            exact ⟨e1', ec⟩
          have q := capl.2 _ hz
          have q' : (N₀[j]? == some x) = true ∧ (scope.names.lookup x == some NameKind.free) = true := by simpa [Bool.and_eq_true] using q
          have q1 : X.N[j]? = some x := by rw [hN₀]; simpa using q'.1
          have q2 : scope.names.lookup x = some .free := by simpa using q'.2
          have eσ : σ[j]? = some (some v) := by
            cases z : σ[j]? with
            | none => rw [z] at e2'; cases e2'
            | some y =>
              rw [z] at e2'
              have : y = some v := e2'
              rw [this]
          have hk := fr (x, .free) (PySem.mem_of_lookup q2) rfl
          obtain ⟨m, hn, hl⟩ := I3.loc
          have vis : Vis X.env.scope x := by
            rcases hk with z | z
            · exact .inr (.inl z)
            · exact .inr (.inr z)
          obtain ⟨u, r, l⟩ := hl j x v q1 eσ vis
          refine ⟨u, r, .inr ⟨?_, ?_⟩⟩
          · rcases relabel_free (scope := scope) (env := X.env) q2 with z | z
            · exact .inl z
            · exact .inr z
          · rcases l with ⟨kl, _⟩ | ⟨_, c, ecx, hcx⟩
            · rcases hk with z | z
              · have z' : X.env.kindOf x = some .cell := z
                rw [kl] at z'; cases z'
              · have z' : X.env.kindOf x = some .free := z
                rw [kl] at z'; cases z'
            · have hh := clo_has (cells := X.env.cells) scope.names [] x (PySem.mem_of_lookup q2)
              obtain ⟨c', ec'⟩ := Option.isSome_iff_exists.mp hh
              have ec2 := clX x c' ec'
              rw [ecx] at ec2
              cases ec2
              exact ⟨c, ec', hcx.keeps kp4⟩
    · intro x c e
      obtain ⟨v, z⟩ := I3.cell x c (clX x c e)
      exact ⟨v, z.keeps kp4⟩
    · exact I3.hok.fresh (Nat.le_refl _)
    · exact fun x c e => I3.freeC x c (clX x c e)
    · show (capSt cap σ).length = N'.length
      unfold capSt
      rw [List.length_map]; exact capl.1
  have fpY : ∀ {H' : Hp}, (∀ b ∈ fp, H' b = none) → ∀ b ∈ fp, FpOk Y [] H' b := fun {H'} hn b hb => by
    obtain ⟨q0, q1, q2, q3, q4, q5⟩ := fp3 b hb
    refine ⟨hn b hb, (okY.exf b hb).1, okY.exfs b hb, .inl hb, (okY.exf b hb).2, fun p hp => absurd (show p ∈ ([] : List (Addr × Obj)) from hp) (by simp)⟩
  have st4 : tn 0 h4 := T.keep _ _ _ st3 fun b _ o e => kp4 b o e
  have back : ∀ {τ : St} {H' : Hp} {s' : Shared}, Inv Y [] τ H' s' → Q (.ref acc) H' → compPost (model X.prog X.w) X.A X.xe use R (.ref acc) s3.heap.objs.size (.ok .next) s' := fun {τ H' s'} J q => by
    have un : Un (frs X.stack) fp (upd H2 acc (.lst [])) H' s3.heap s'.heap := J.base
    have IX : Inv X pins σ H' s' := I3.call' (J.os) un J.hok J.bare fun b hb => by
      obtain ⟨q0, q1, q2, q3, q4, q5⟩ := fp3 b hb
      exact ⟨q3, q1, q4, q5⟩
    obtain ⟨m, hn, _⟩ := J.loc
    refine fin acc s3.heap.objs.size s' H' m IX hn J.free (Nat.ne_of_gt I3.lt) I3.sz (fun x c e z => ?_) (fun p hp z => ?_) q
    · obtain ⟨v, q⟩ := I3.cell x c e
      exact absurd q.lt (by rw [z]; exact Nat.lt_irrefl _)
    · exact absurd (Heap.lt_size (I3.pin p hp).1) (by rw [z]; exact Nat.lt_irrefl _)
  have loop : ∀ s5 : Shared, s5 = { s3 with heap := h4, toks := s3.toks + ([] : List (Str × Value)).length } →
      codeAny (model X.prog X.w) X.A (.compLoop (.ListComp elt [⟨tg, iter, ifs, 0⟩] scope pos) 0 (.ref it) (.ref acc) Y.env) (compPost (model X.prog X.w) X.A X.xe use R (.ref acc) s3.heap.objs.size) s5 := by
    rintro s5 rfl
    refine comp_loop (fun n s' => ∃ i τ H', Inv Y [] τ H' s' ∧ tn i s'.heap ∧ (∀ b ∈ fp, H' b = none) ∧ W i n τ H') ?_ m0 ⟨0, _, _, IY, st4, fun b hb => (fp3 b hb).1, w0⟩
    rintro n s6 ⟨i, τ, H6, I6, st6, fr6, w6⟩
    rcases turn i n τ H6 w6 with ⟨stop, q⟩ | ⟨go, N, hN, step⟩
    · refine wpAny_mono (T.done Y rfl rfl rfl hcalm i [] s6 τ H6 (fun _ _ => False) I6 (fpY fr6) st6 stop) (fun r s7 ⟨hr, I7⟩ => ?_) fun _ _ z => z.elim
      exact .inl ⟨hr, back I7 q⟩
    · refine wpAny_mono (T.item Y rfl rfl rfl hcalm i [] s6 τ H6 (fun _ _ => False) I6 (fpY fr6) st6 go) (fun r s6b ⟨u, hr, h7⟩ => ?_) fun _ _ z => z.elim
      refine .inr ⟨u, hr, ?_⟩
      refine wpAny_mono h7 (fun _ s7 ⟨x, H7, I7, r7, y7, st7, fr7⟩ => ?_) fun _ _ z => z.elim
      have I7' := I7.pinned (fpY fr7) (T.obj _ _ st7)
      have again : ∀ {τ8 : St} {H8 : Hp} {s8 : Shared}, Inv Y ([] ++ pinsAt fp s7.heap) τ8 H8 s8 → N τ8 H8 → ∃ m, m < n ∧ ∃ i τ H', Inv Y [] τ H' s8 ∧ tn i s8.heap ∧ (∀ b ∈ fp, H' b = none) ∧ W i m τ H' := fun {τ8 H8 s8} I8 n8 => by
        obtain ⟨m', hm, w8⟩ := hN τ8 H8 n8
        refine ⟨m', hm, i + 1, τ8, H8, I8.unpinned, T.keep _ _ _ st7 fun b hb o e => (I8.pin (b, o) (List.mem_append_right _ (List.mem_append_right _ (mem_pinsAt hb e)))).1, fun b hb => ?_, w8⟩
        obtain ⟨o, e, d⟩ := T.obj _ _ st7 b hb
        exact (I8.pin (b, o) (List.mem_append_right _ (List.mem_append_right _ (mem_pinsAt hb e)))).2.1
      refine wpAny_mono (hg s3 (upd H2 acc (.lst [])) fp _ s7 τ H7 x u _ I7' r7 (step x H7 y7)) (fun _ s8 ⟨τ8, H8, I8, q8⟩ => ?_) fun _ _ z => z.elim
      refine wpAny_mono (hc s3 (upd H2 acc (.lst [])) fp _ s8 τ8 H8 _ I8 q8) (fun b s9 ⟨H9, I9, q9⟩ => ?_) fun _ _ z => z.elim
      cases b with
      | false =>
        rw [if_neg Bool.false_ne_true] at q9
        exact .inl ⟨rfl, again I9 q9⟩
      | true =>
        rw [if_pos rfl] at q9
        refine .inr ⟨rfl, ?_⟩
        refine wpAny_mono (he s3 (upd H2 acc (.lst [])) fp _ s9 τ8 H9 _ I9 q9) (fun y s10 ⟨yv, H10, I10, r10, ys, hl, hz, q10⟩ => ?_) fun _ _ z => z.elim
        refine wpAny_mono (mt_append (X := Y) _ s10 τ8 H10 (.ref acc) [yv] (.ref acc) [y] (fun v H' => N τ8 H') I10 rfl (.cons r10 .nil) ⟨acc, ys, yv, rfl, rfl, hl, hz, q10⟩) (fun v s11 ⟨vv, H11, I11, r11, q11⟩ => ?_) fun _ _ z => z.elim
        exact again I11 q11
  exact codeAny_compStart_list (loop _ rfl) (T.self _ _ _ _ _ st4 (loop _ rfl))
theorem pe_comp (sc : Scope) (hsc : X.env.scope = sc) (N₀ : List Str) (hN₀ : X.N = N₀) (N' : List Str) (cap : List (Option Nat)) (f1 : freeOk sc scope = true) (f2 : ownOk scope = true) (f3 : capOk scope N₀ N' cap = true) (hcalm : X.calm = true)
    (hi : PI X tg iter wi)
    (hg : ∀ (s : Shared) (H : Hp) (ex : List Addr), PG (compCx X scope N' s H ex) tg g)
    (hc : ∀ (s : Shared) (H : Hp) (ex : List Addr), PTs (compCx X scope N' s H ex) ifs tc)
    (he : ∀ (s : Shared) (H : Hp) (ex : List Addr), PE (compCx X scope N' s H ex) elt te)
    (hs : ∀ x, foldedSetIterable iter X.env x = pure x := by intro _; rfl) :
    PE X (.ListComp elt [⟨tg, iter, ifs, 0⟩] scope pos) (tComp wi cap g tc te) := by
  intro pins s σ H Q I h
  rw [eval_ListComp]
  refine comp_block (use := none) sc hsc N₀ hN₀ f1 f2 f3 hcalm hi hg hc he hs I h ?_
  intro acc C s' H' m IX hn hC h1 h2 h3 h4 q
  refine ⟨m, hn, fun h'' hs'' => ?_⟩
  exact ⟨.ref acc, H', IX.turned (t' := s'.toks) (fun b o hb e => (hs''.2 b hb).trans e) hC h1 (.inr h2) h3 h4, rfl, q⟩
theorem ps_setComp {i : Nat} {x : Str} {pos' spos : Pos} (sc : Scope) (hsc : X.env.scope = sc) (N₀ : List Str) (hN₀ : X.N = N₀) (N' : List Str) (cap : List (Option Nat)) (f1 : freeOk sc scope = true) (f2 : ownOk scope = true) (f3 : capOk scope N₀ N' cap = true) (hcalm : X.calm = true)
    (hnd : X.N.Nodup) (hix : X.N[i]? = some x) (hx : X.env.scope.names.lookup x = some .local)
    (hi : PI X tg iter wi)
    (hg : ∀ (s : Shared) (H : Hp) (ex : List Addr), PG (compCx X scope N' s H ex) tg g)
    (hc : ∀ (s : Shared) (H : Hp) (ex : List Addr), PTs (compCx X scope N' s H ex) ifs tc)
    (he : ∀ (s : Shared) (H : Hp) (ex : List Addr), PE (compCx X scope N' s H ex) elt te)
    (hsw : swapsWith (.ListComp elt [⟨tg, iter, ifs, 0⟩] scope pos) (some (.Name x pos')) spos.line X.env = pure true)
    (hs : ∀ x, foldedSetIterable iter X.env x = pure x := by intro _; rfl) :
    PS X (.Assign [.Name x pos'] (.ListComp elt [⟨tg, iter, ifs, 0⟩] scope pos) spos) (tAsg (tComp wi cap g tc te) (gName i)) := by
  intro pins s σ H D I h
  rw [exec_Assign_Name_used _ _ _ _ hsw]
  refine wpAny_bind (wpAny_standAt (wpAny_bind ?_))
  show wpAny _ X.A (do let _ ← comprehension (.ListComp elt [⟨tg, iter, ifs, 0⟩] scope pos) scope X.env _ (newList []) false (firstIter [⟨tg, iter, ifs, 0⟩] X.env) (some (assign (.Name x pos') X.env))) _ _ s
  refine wpAny_bind (wpAny_mono (comp_block (use := some (assign (.Name x pos') X.env)) (R := fun _ s' => SP X pins D .next s') sc hsc N₀ hN₀ f1 f2 f3 hcalm hi hg hc he hs I h ?_) (fun _ s' hq => wpAny_pure (wpAny_pure hq)) fun _ _ e => e)
  intro acc C s' H' m IX hn hC h1 h2 h3 h4 q
  show wpAny _ X.A (assign (.Name x pos') X.env (.ref acc)) _ _ _
  refine wpAny_assign_Name (store_ok2 (v := .ref acc) IX hnd hix (.inl hx) rfl (fun s2 I2 hsb => ?_) (.inr hx))
  obtain ⟨a, sb, ha⟩ := hsb
  have hCa : C ≠ a := by
    rcases ha with z | z
    · rw [z]; exact h1
    · exact fun w => h3 x a z w.symm
  refine ⟨m, hn.sameBut sb hCa, fun h'' hs'' => ?_⟩
  exact ⟨_, H', I2.turned (t' := s2.toks) (fun b o hb e => (hs''.2 b hb).trans e) hC h1 (.inr h2) h3 h4, q⟩
end
end L2
namespace L2
open PySem PySem.Spec PyProof.Rows
section
variable {X : Cx}
def rGetL (K : PySem.W.Frag) : V → V → Hp → VK → Prop := fun x y H Q => ∃ p xs j v, x = .ref p ∧ y = .int (j : Nat) ∧ SqL K H p xs ∧ xs[j]? = some v ∧ Q v H
theorem get_list : PGet X (rGetL X.K) := by
  intro pins s σ H o i ov iv Q I ro ri h
  obtain ⟨p, xs, j, z, rfl, rfl, hq, he, q⟩ := h
  cases ro
  obtain ⟨t, rfl⟩ := ri
  obtain ⟨its, r, pl, hz⟩ := I.list hq
  obtain ⟨w, ew, rw'⟩ := r.get he
  have hl := r.length
  have hn := line63
  have hj : j < xs.length := (List.getElem?_eq_some_iff.mp he).1
  exact wpAny_getItem_list pl.isList (by omega) (by omega) (by rw [Int.toNat_natCast]; simpa using ew) ⟨z, H, I, rw', q⟩
def rEqL (K : PySem.W.Frag) (neg : Bool) : R2 := fun x y H Q => ∃ (a b : Addr) (ns ms : List Int), x = .ref a ∧ y = .ref b ∧ SqL K H a (ns.map V.int) ∧ SqL K H b (ms.map V.int) ∧ Q (.bl (if neg then !decide (ns = ms) else decide (ns = ms))) H
theorem call_isinst : CallR X (.builtin "isinstance") (fun xs H Q => ∃ x t c b, xs = [x, .ty c] ∧ TyOf X.K H x t ∧ PySem.W.kitOne X.K t (.type c) = some b ∧ Q (.bl b) H) := by
  intro pins s σ H xs us Q I r h
  obtain ⟨x, t, c, b, rfl, ty, e, q⟩ := h
  obtain ⟨u, w, rfl, ru, rw'⟩ := vals2 r
  obtain rfl : w = Value.type c := rw'
  exact isinst_ok I ru ty e fun tk => ⟨.bl b, H, I.tok tk, rfl, q⟩
end
end L2
namespace L2
open PySem PySem.Spec PyProof.Rows
section
variable {X : Cx} {st : Stmt} {rest : List Stmt} {t u : TS}
def tSeqM (t u : TS) : TS := fun D σ H => ∃ M : St → Hp → Prop, t { D with nx := M } σ H ∧ ∀ σ' H', M σ' H' → u D σ' H'
theorem pss_consM (h1 : PS X st t) (h2 : PSs X rest u) : PSs X (st :: rest) (tSeqM t u) := by
  intro pins s σ H D I h
  obtain ⟨M, ha, hb⟩ := h
  refine wpAny_execs_cons (thn (h1 pins s σ H { D with nx := M } I ha) fun f s1 q => ?_)
  cases f with
  | next =>
    obtain ⟨σ', H', I', q⟩ := q
    exact h2 pins s1 σ' H' D I' (hb σ' H' q)
  | ret v => exact q
  | brk => exact q
  | cont => exact q
end
end L2
namespace L2
open PySem PySem.Spec PyProof.Rows
def RetL (H : Hp) (P : List V → Prop) (Q : VK) : Prop := ∀ (l : Addr) (H' : Hp) (xs : List V), Same H H' → H l = none → H' l = some (.lst xs) → P xs → Q (.ref l) H'
structure Df (K : PySem.W.Frag) (mg : Str → Option Value) (x : Str) (st : Stmt) (ps : List Str) (a : Addr) (fd : FuncData) : Prop where
  F : Fun K x x st a fd
  b : Binds K fd ps []
  m : mg x = some (.ref a)
theorem Same.upd {H H' : Hp} {l : Addr} {o : HO} (s : Same H H') (h : H l = none) : Same H (L2.upd H' l o) := fun b u e => by
  rw [upd_ne (ne_of_none e h)]; exact s b u e
theorem ints_get {ns : List Int} {i : Nat} {y : V} (h : (ns.map V.int)[i]? = some y) : ∃ z, ns[i]? = some z ∧ y = V.int z := by
  rw [List.getElem?_map] at h
  cases e : ns[i]? with
  | none => rw [e] at h; cases h
  | some z => rw [e] at h; exact ⟨z, rfl, (Option.some.inj h).symm⟩
theorem ints_at {ns : List Int} {i : Nat} {z : Int} (h : ns[i]? = some z) : atI (ns.map V.int) (i : Int) = some (V.int z) := atI_nat (by rw [List.getElem?_map, h]; rfl)
theorem ints_atI {ns : List Int} {i : Int} {z : Int} (h0 : 0 ≤ i) (h : ns[i.toNat]? = some z) : atI (ns.map V.int) i = some (V.int z) := by
  obtain ⟨k, rfl⟩ := Int.eq_ofNat_of_zero_le h0
  exact ints_at (by simpa using h)
theorem ixN_nat {n j : Nat} (h : j < n) : ixN n (j : Int) = some j := by
  unfold ixN
  rw [if_pos (by omega), if_pos (by omega)]; simp
theorem rep_one {α : Type} (n : Nat) (x : α) : (List.replicate n [x]).flatten = List.replicate n x := by
  induction n with
  | zero => rfl
  | succ n ih => rw [List.replicate_succ, List.flatten_cons, ih, List.replicate_succ]; rfl
theorem small100 {n : Nat} (h : n ≤ 100000) : n ≤ sizeLine := Nat.le_trans h (by decide)
theorem small100' {n : Nat} (h : n ≤ 100000) : n < sizeLine := Nat.lt_of_le_of_lt h (by decide)
structure Blt (mg : Str → Option Value) : Prop where
  len : mg "len" = none
  range : mg "range" = none
  list : mg "list" = none
  isinstance : mg "isinstance" = none
  bool : mg "bool" = none
  int : mg "int" = none
  all : mg "all" = none
  min : mg "min" = none
  max : mg "max" = none
  sum : mg "sum" = none
  sorted : mg "sorted" = none
  zip : mg "zip" = none
  tuple : mg "tuple" = none
  str : mg "str" = none
  any : mg "any" = none
  enumerate : mg "enumerate" = none
  reversed : mg "reversed" = none
  abs : mg "abs" = none
  ValueError : mg "ValueError" = none
structure Mth (mg : Str → Option Value) : Prop where
  MOUTH : ∃ t, mg "MOUTH" = some (.int (-1) t)
section
variable {X : Cx} {K : PySem.W.Frag}
theorem ix_listK (h : X.K = K) : IxR X (rIxL K) := h ▸ ix_list
theorem ix_tupK (h : X.K = K) : IxR X (rIxT K) := h ▸ ix_tup
end
end L2
namespace L2
open PySem PySem.W PyProof.Rows
structure Arr (N : Nat) (p : Array Nat) : Prop where
  size : p.size = N
  perm : p.toList.Perm (List.range N)
theorem Arr.start (N : Nat) : Arr N (List.toArray (List.range N)) := ⟨by simp, by simp⟩
theorem Arr.nd {N : Nat} {p : Array Nat} (h : Arr N p) : p.toList.Nodup := h.perm.nodup_iff.mpr List.nodup_range
theorem Arr.get {N : Nat} {p : Array Nat} (h : Arr N p) {i : Nat} (hi : i < N) : p.toList[i]? = some (p.getD i 0) := by
  have hi' : i < p.size := by rw [h.size]; exact hi
  simp [Array.getD, hi']
theorem Arr.lt {N : Nat} {p : Array Nat} (h : Arr N p) {i : Nat} (hi : i < N) : p.getD i 0 < N := by
  have := h.perm.mem_iff.mp (List.mem_of_getElem? (h.get hi))
  exact List.mem_range.mp this
theorem Arr.ne {N : Nat} {p : Array Nat} (h : Arr N p) {i j : Nat} (hi : i < N) (hj : j < N) (hij : i ≠ j) : p.getD i 0 ≠ p.getD j 0 := by
  intro e
  obtain ⟨a1, a2⟩ := List.getElem?_eq_some_iff.mp (h.get hi)
  obtain ⟨b1, b2⟩ := List.getElem?_eq_some_iff.mp (h.get hj)
  exact hij ((List.getElem_inj h.nd).mp (by rw [a2, b2, e]))
theorem Arr.of_perm {N : Nat} {p q : Array Nat} (h : Arr N p) (hs : q.size = p.size) (hp : q.Perm p) : Arr N q := ⟨hs.trans h.size, (Array.perm_iff_toList_perm.mp hp).trans h.perm⟩
theorem Arr.rev {N : Nat} {p : Array Nat} (h : Arr N p) (i j : Nat) : Arr N (kas_rev p i j) := h.of_perm (mirror_size _ _ _ _) (mirror_perm _ _ _ _)
theorem Arr.bub {N : Nat} {p : Array Nat} (h : Arr N p) (k d : Nat) : Arr N (bubble p k d) := h.of_perm (bubble_size _ _ _) (bubble_perm _ _ _)
theorem getD_of {p q : Array Nat} {i j : Nat} (h : p[i]? = q[j]?) : p.getD i 0 = q.getD j 0 := by
  rw [Array.getD_eq_getD_getElem?, Array.getD_eq_getD_getElem?, h]
theorem rev_get {N : Nat} {p : Array Nat} (h : Arr N p) {n k : Nat} (hn : n ≤ N) (hk : k < n) : (kas_rev p 0 n).getD k 0 = p.getD (n - 1 - k) 0 := by
  refine getD_of ?_
  unfold kas_rev
  rw [getElem?_mirror (by rw [h.size]; exact hn) ((n - 0) / 2) (by omega) k]
  split
  · congr 1; omega
  · congr 1; omega
theorem bub_get {N : Nat} {p : Array Nat} (h : Arr N p) {k l j : Nat} (hk : k < N) (hl : l ≤ k) : (bubble p k (k - l)).getD j 0 = if j = l then p.getD k 0 else if l < j ∧ j ≤ k then p.getD (j - 1) 0 else p.getD j 0 := by
  have e := getElem?_bubble (xs := p) (src := k) (by rw [h.size]; exact hk) (k - l) (by omega) j
  have e1 : k - (k - l) = l := by omega
  rw [e1] at e
  by_cases h1 : j = l
  · rw [if_pos h1] at e ⊢; exact getD_of e
  · rw [if_neg h1] at e ⊢
    by_cases h2 : l < j ∧ j ≤ k
    · rw [if_pos h2] at e ⊢; exact getD_of e
    · rw [if_neg h2] at e ⊢; exact getD_of e
section
variable {N : Nat} {κ : Nat → Int} {R : Shared → Prop} {cmp : Nat → Nat → (Bool → Shared → Prop) → Shared → Prop}
def Srt (κ : Nat → Int) (p : Array Nat) (n : Nat) : Prop := ∀ i j, i < j → j < n → κ (p.getD i 0) < κ (p.getD j 0)
def Dsc (κ : Nat → Int) (p : Array Nat) (n : Nat) : Prop := ∀ i j, i < j → j < n → κ (p.getD j 0) < κ (p.getD i 0)
def Cmp (N : Nat) (κ : Nat → Int) (R : Shared → Prop) (cmp : Nat → Nat → (Bool → Shared → Prop) → Shared → Prop) : Prop :=
  ∀ i j C s, i < N → j < N → R s → (∀ s', R s' → C (decide (κ i < κ j)) s') → cmp i j C s
def Inj (N : Nat) (κ : Nat → Int) : Prop := ∀ i j, i < N → j < N → i ≠ j → κ i ≠ κ j
theorem Srt.snoc {p : Array Nat} {n : Nat} (h : Srt κ p n) (hn : 1 ≤ n) (e : κ (p.getD (n - 1) 0) < κ (p.getD n 0)) : Srt κ p (n + 1) := fun i j hij hj => by
  by_cases hjn : j = n
  · subst hjn
    by_cases hi : i = j - 1
    · rw [hi]; exact e
    · have := h i (j - 1) (by omega) (by omega)
      omega
  · exact h i j hij (by omega)
theorem Dsc.snoc {p : Array Nat} {n : Nat} (h : Dsc κ p n) (hn : 1 ≤ n) (e : κ (p.getD n 0) < κ (p.getD (n - 1) 0)) : Dsc κ p (n + 1) := fun i j hij hj => by
  by_cases hjn : j = n
  · subst hjn
    by_cases hi : i = j - 1
    · rw [hi]; exact e
    · have := h i (j - 1) (by omega) (by omega)
      omega
  · exact h i j hij (by omega)
variable (hc : Cmp N κ R cmp) (hI : Inj N κ)
include hc hI
theorem tree_asc {p : Array Nat} (A : Arr N p) {Q : Nat → Shared → Prop} : ∀ (f n : Nat) (s : Shared), 1 ≤ n → n + f = N → Srt κ p n → R s →
    (∀ m s', n ≤ m → m ≤ N → Srt κ p m → (m < N → κ (p.getD m 0) < κ (p.getD (m - 1) 0)) → R s' → Q m s') → (kas_asc p f n).kasWp cmp Q s
  | 0, n, s, h1, hf, hS, r, k => k n s (Nat.le_refl _) (by omega) hS (fun z => by omega) r
  | f + 1, n, s, h1, hf, hS, r, k => by
    unfold kas_asc
    refine hc _ _ _ s (A.lt (by omega)) (A.lt (by omega)) r fun s' r' => ?_
    by_cases hlt : κ (p.getD n 0) < κ (p.getD (n - 1) 0)
    · rw [decide_eq_true hlt]; dsimp only; rw [if_pos rfl]
      exact k n s' (Nat.le_refl _) (by omega) hS (fun _ => hlt) r'
    · rw [decide_eq_false hlt]; dsimp only; rw [if_neg Bool.false_ne_true]
      have hne := hI _ _ (A.lt (show n < N by omega)) (A.lt (show n - 1 < N by omega)) (A.ne (show n < N by omega) (show n - 1 < N by omega) (by omega))
      exact tree_asc A f (n + 1) s' (by omega) (by omega) (hS.snoc h1 (by omega)) r' fun m s2 a b c d e => k m s2 (by omega) b c d e
theorem tree_desc {p : Array Nat} (A : Arr N p) {Q : Array Nat × Nat × Nat → Shared → Prop} : ∀ (f n : Nat) (s : Shared), 1 ≤ n → n + f = N → Dsc κ p n → R s →
    (∀ m s', n ≤ m → m ≤ N → Dsc κ p m → R s' → Q (p, m, 0) s') → (kas_desc f p n 0).kasWp cmp Q s
  | 0, n, s, h1, hf, hS, r, k => k n s (Nat.le_refl _) (by omega) hS r
  | f + 1, n, s, h1, hf, hS, r, k => by
    unfold kas_desc
    refine hc _ _ _ s (A.lt (by omega)) (A.lt (by omega)) r fun s' r' => ?_
    by_cases hlt : κ (p.getD n 0) < κ (p.getD (n - 1) 0)
    · rw [decide_eq_true hlt]; dsimp only; rw [if_pos rfl, if_neg (by omega)]
      exact tree_desc A f (n + 1) s' (by omega) (by omega) (hS.snoc h1 hlt) r' fun m s2 a b c d => k m s2 (by omega) b c d
    · rw [decide_eq_false hlt]; dsimp only; rw [if_neg Bool.false_ne_true]
      have hne := hI _ _ (A.lt (show n < N by omega)) (A.lt (show n - 1 < N by omega)) (A.ne (show n < N by omega) (show n - 1 < N by omega) (by omega))
      refine hc _ _ _ s' (A.lt (by omega)) (A.lt (by omega)) r' fun s2 r2 => ?_
      rw [decide_eq_true (by omega)]; dsimp only; rw [if_pos rfl]
      exact k n s2 (Nat.le_refl _) (by omega) hS r2
theorem tree_count {p : Array Nat} (A : Arr N p) (h2 : 2 ≤ N) {Q : Nat × Array Nat → Shared → Prop} {s : Shared} (r : R s)
    (k : ∀ m p' s', 1 ≤ m → m ≤ N → Arr N p' → Srt κ p' m → R s' → Q (m, p') s') : (kas_count N p).kasWp cmp Q s := by
  unfold kas_count
  rw [KasT.kasWp_bind]
  refine tree_asc hc hI A (N - 1) 1 s (Nat.le_refl _) (by omega) (fun i j a b => by omega) r fun n s' h1 hn hS hd r' => ?_
  by_cases hnN : n = N
  · rw [if_pos (by simp [hnN])]
    exact k n p s' h1 hn A hS r'
  · rw [if_neg (by simp [hnN])]
    have hd' := hd (by omega)
    by_cases h1n : n > 1
    · rw [if_pos h1n]
      refine hc _ _ _ s' (A.lt (by omega)) (A.lt (by omega)) r' fun s2 r2 => ?_
      rw [decide_eq_true (hS 0 (n - 1) (by omega) (by omega))]; dsimp only; rw [if_pos rfl]
      exact k n p s2 h1 hn A hS r2
    · rw [if_neg h1n]
      have hn1 : n = 1 := by omega
      subst hn1
      unfold kas_descPart
      rw [KasT.kasWp_bind]
      refine tree_desc hc hI A (N - 2) 2 s' (by omega) (by omega) (fun i j a b => ?_) r' fun m s2 hm2 hm hD r2 => ?_
      · have hi : i = 0 := by omega
        have hj : j = 1 := by omega
        subst hi; subst hj
        exact hd'
      · rw [if_neg (by show ¬ (0 : Nat) > 0; omega)]
        show (kas_tail3 m N p).kasWp cmp Q s2
        unfold kas_tail3
        rw [KasT.kasWp_bind]
        refine tree_asc hc hI (A.rev 0 m) (N - m) m s2 (by omega) (by omega) (fun i j a b => ?_) r2 fun m' s3 a b c d e => ?_
        · rw [rev_get A hm (by omega), rev_get A hm (by omega)]
          exact hD _ _ (by omega) (by omega)
        · exact k m' _ s3 (by omega) b (A.rev 0 m) c e
theorem tree_place {p : Array Nat} (A : Arr N p) {k : Nat} (hk : k < N) (hS : Srt κ p k) {Q : Nat → Shared → Prop} : ∀ (f l r : Nat) (s : Shared), l ≤ r → r ≤ k → r - l ≤ f →
    (∀ i, i < l → κ (p.getD i 0) < κ (p.getD k 0)) → (∀ i, r ≤ i → i < k → κ (p.getD k 0) < κ (p.getD i 0)) → R s →
    (∀ l s', l ≤ k → (∀ i, i < l → κ (p.getD i 0) < κ (p.getD k 0)) → (∀ i, l ≤ i → i < k → κ (p.getD k 0) < κ (p.getD i 0)) → R s' → Q l s') → (kas_place p k f l r).kasWp cmp Q s
  | 0, l, r, s, h1, h2, hf, ha, hb, hr, q => by
    have e : l = r := by omega
    subst e
    exact q l s h2 ha hb hr
  | f + 1, l, r, s, h1, h2, hf, ha, hb, hr, q => by
    unfold kas_place
    by_cases hlr : l ≥ r
    · rw [if_pos hlr]
      have e : l = r := by omega
      subst e
      exact q l s h2 ha hb hr
    · rw [if_neg hlr]
      have m1 : (l + r) / 2 < r := by omega
      have m0 : l ≤ (l + r) / 2 := by omega
      refine hc _ _ _ s (A.lt hk) (A.lt (by omega)) hr fun s' r' => ?_
      by_cases hlt : κ (p.getD k 0) < κ (p.getD ((l + r) / 2) 0)
      · rw [decide_eq_true hlt]; dsimp only; rw [if_pos rfl]
        refine tree_place A hk hS f l ((l + r) / 2) s' m0 (by omega) (by omega) ha (fun i hi hik => ?_) r' q
        by_cases he : i = (l + r) / 2
        · rw [he]; exact hlt
        · have := hS ((l + r) / 2) i (by omega) hik
          omega
      · rw [decide_eq_false hlt]; dsimp only; rw [if_neg Bool.false_ne_true]
        have hne := hI _ _ (A.lt hk) (A.lt (show (l + r) / 2 < N by omega)) (A.ne hk (show (l + r) / 2 < N by omega) (by omega))
        refine tree_place A hk hS f ((l + r) / 2 + 1) r s' (by omega) h2 (by omega) (fun i hi => ?_) hb r' q
        by_cases he : i = (l + r) / 2
        · rw [he]; omega
        · have := hS i ((l + r) / 2) (by omega) (by omega)
          omega
theorem tree_bin {Q : Array Nat → Shared → Prop} (q : ∀ p s', Arr N p → Srt κ p N → R s' → Q p s') : ∀ (f : Nat) (p : Array Nat) (k : Nat) (s : Shared), Arr N p → k + f = N → Srt κ p k → R s → (kas_bin f p k).kasWp cmp Q s
  | 0, p, k, s, A, hf, hS, r => by
    have e : k = N := by omega
    subst e
    exact q p s A hS r
  | f + 1, p, k, s, A, hf, hS, r => by
    unfold kas_bin
    rw [KasT.kasWp_bind]
    refine tree_place hc hI A (show k < N by omega) hS k 0 k s (Nat.zero_le _) (Nat.le_refl _) (by omega) (fun i hi => by omega) (fun i a b => by omega) r fun l s' hl ha hb r' => ?_
    refine tree_bin q f _ (k + 1) s' (A.bub k (k - l)) (by omega) (fun i j hij hj => ?_) r'
    rw [bub_get A (by omega) hl, bub_get A (by omega) hl]
    by_cases h1 : i = l
    · rw [if_pos h1, if_neg (by omega), if_pos (by omega)]
      exact hb _ (by omega) (by omega)
    · rw [if_neg h1]
      by_cases h2 : j = l
      · rw [if_pos h2, if_neg (by omega)]
        exact ha _ (by omega)
      · rw [if_neg h2]
        by_cases h3 : l < i ∧ i ≤ k
        · rw [if_pos h3, if_pos (by omega)]
          exact hS _ _ (by omega) (by omega)
        · rw [if_neg h3]
          by_cases h4 : l < j ∧ j ≤ k
          · rw [if_pos h4]
            by_cases h5 : i < j - 1
            · exact hS _ _ h5 (by omega)
            · omega
          · rw [if_neg h4]
            exact hS _ _ hij (by omega)
theorem tree_sort (h2 : 2 ≤ N) {Q : Array Nat → Shared → Prop} {s : Shared} (r : R s) (q : ∀ p s', Arr N p → Srt κ p N → R s' → Q p s') : (kas_sort N).kasWp cmp Q s := by
  unfold kas_sort
  rw [KasT.kasWp_bind]
  refine tree_count hc hI (Arr.start N) h2 r fun m p' s' h1 hm A hS r' => ?_
  by_cases hlt : m < N
  · rw [if_pos hlt]
    have e : max m 1 = m := by omega
    rw [e]
    exact tree_bin hc hI q _ p' m s' A (by omega) hS r'
  · rw [if_neg hlt]
    have e : m = N := by omega
    subst e
    exact q p' s' A hS r'
end
end L2
namespace L2
open PySem PySem.Spec PyProof.Rows
section
variable {X : Cx} {pins : List (Addr × Obj)} {σ : St} {H : Hp} {s : Shared} {a : Addr} {o : HO}
theorem Inv.adopt (I : Inv X pins σ H s) (hn : H a = none) (hL : a ≠ X.env.locals) (h0 : X.s₀.heap.objs.size ≤ a) (hc : ∀ x c, X.env.cells.lookup x = some c → c ≠ a) (hp : ∀ p ∈ X.pn ++ pins, p.1 ≠ a)
    (new : ObjOk X.prog X.w (upd H a o) s.heap a o) : Inv X pins σ (upd H a o) s := by
  have ne : ∀ b u, H b = some u → b ≠ a := fun b u e => ne_of_none e hn
  refine ⟨I.ok, I.os, I.bare, ⟨I.base.keep, I.base.slot, fun b ob e n hx => ?_, I.base.there, fun b xs e => ?_, fun b ob xs e => ?_, fun b ps e => ?_⟩, I.loc, I.cell, ?_, fun x c e => ?_, fun p hq => ?_, fun b u e => ?_, I.len⟩
  · rw [upd_ne (Nat.ne_of_lt (Nat.lt_of_lt_of_le (Heap.lt_size e) h0))]; exact I.base.free b ob e n hx
  · have := I.base.tups b xs e; rw [upd_ne (ne b _ this)]; exact this
  · have := I.base.frzs b ob xs e; rw [upd_ne (ne b _ this)]; exact this
  · obtain ⟨m, e1⟩ := I.base.tbls b ps e; exact ⟨m, by rw [upd_ne (ne b _ e1)]; exact e1⟩
  · rw [upd_ne hL.symm]; exact I.free
  · rw [upd_ne (hc x c e)]; exact I.freeC x c e
  · obtain ⟨e1, n, r⟩ := I.pin p hq; exact ⟨e1, by rw [upd_ne (hp p hq)]; exact n, r⟩
  · by_cases hb : b = a
    · subst hb; rw [upd_same] at e; cases e; exact new
    · rw [upd_ne hb] at e
      exact (I.hok b u e).stay (fun _ _ _ q => q) (fun c q => by rw [upd_ne (ne c _ q)]; exact q) fun c xs q => by rw [upd_ne (ne c _ q)]; exact q
end
section
variable {prog : Program} {w : World} {A : Around} {E : Value → Shared → Prop} {s : Shared}
end
end L2
namespace L2
open PySem PySem.W PySem.Spec PyProof.Rows
section
variable {prog : Program} {w : World} {A : Around} {E : Value → Shared → Prop} {s : Shared}
theorem katLex_ints {Q : Bool → Shared → Prop} : ∀ {xs ys : List Value} {ns ms : List Int}, IntsAre xs ns → IntsAre ys ms → ns.length = ms.length → ∀ i : Nat, Q (HT.lexLt ns ms) s → KatLex prog w A true false Q (xs.zip ys) i s
  | _, _, _, _, .nil, .nil, _, i, q => by rw [List.zip_nil_left]; exact kat_nil q
  | _, _, _, _, .nil, .cons _ _ _, hl, _, _ => by simp at hl
  | _, _, _, _, .cons _ _ _, .nil, hl, _, _ => by simp at hl
  | _, _, _, _, .cons a t hx, .cons c u hy, hl, i, q => by
    rw [List.zip_cons_cons]
    refine kat_cons (wpAny_eqBool_int ?_)
    rw [HT.lexLt_cons] at q
    by_cases h : a = c
    · rw [if_pos h] at q
      have e : (a == c) = true := by simp [h]
      rw [e]
      exact kat_yes (katLex_ints hx hy (by simpa using hl) (i + 1) q)
    · rw [if_neg h] at q
      have e : (a == c) = false := by simp [h]
      rw [e]
      refine kat_no ?_
      by_cases hi : i = 0
      · have ei : (true && i == 0) = true := by simp [hi]
        rw [ei]
        exact oneLt_int q
      · have ei : (true && i == 0) = false := by simp [hi]
        rw [ei]
        exact kat_one _ _ (lt_int q)
structure Keys (h : Heap) (ks : List Value) (key : Nat → List Int) (N len : Nat) : Prop where
  size : ks.length = N
  at_ : ∀ i, i < N → ∃ t its, ks[i]? = some (.ref t) ∧ IsTup h t its.toArray ∧ IntsAre its (key i)
  long : ∀ i, i < N → (key i).length = len + 1
theorem Keys.cmp {ks : List Value} {key : Nat → List Int} {N len : Nat} {κ : Nat → Int} (K : Keys s.heap ks key N len) (hκ : ∀ i j, i < N → j < N → HT.lexLt (key i) (key j) = decide (κ i < κ j)) :
    Cmp N κ (fun s' => s' = s) (kas_ask prog w A (tuples' true) ks) := by
  intro i j C s1 hi hj e h
  subst e
  obtain ⟨t, its, e1, ⟨o, ho, hc, n, hd⟩, i1⟩ := K.at_ i hi
  obtain ⟨t2, its2, e2, ⟨o2, ho2, hc2, n2, hd2⟩, i2⟩ := K.at_ j hj
  unfold kas_ask
  rw [List.getD_eq_getElem?_getD, List.getD_eq_getElem?_getD, e1, e2]
  have l1 : its.length = (key i).length := i1.length
  have l2 : its2.length = (key j).length := i2.length
  have hl : (key i).length = (key j).length := by rw [K.long i hi, K.long j hj]
  refine kat_lt ho hd ho2 hd2 ?_
  have ef : decide (its.toArray.size < its2.toArray.size) = false := decide_eq_false (by simp only [List.size_toArray]; omega)
  rw [ef]
  refine katLex_ints i1 i2 hl 0 ?_
  rw [hκ i j hi hj]
  exact h s1 rfl
theorem Keys.tups {key : Nat → List Int} {len : Nat} : ∀ {ks : List Value} {N : Nat}, Keys s.heap ks key N len → ∃ fs : List Value, KatTups s.heap ks fs ∧ fs.length = N ∧ ∀ v ∈ fs, ∃ a t, v = .int a t := by
  have go : ∀ (ks : List Value), (∀ i, i < ks.length → ∃ t its a u r, ks[i]? = some (.ref t) ∧ IsTup s.heap t its.toArray ∧ its = Value.int a u :: r) → ∃ fs : List Value, KatTups s.heap ks fs ∧ fs.length = ks.length ∧ ∀ v ∈ fs, ∃ a t, v = Value.int a t := by
    intro ks
    induction ks with
    | nil => intro _; exact ⟨[], trivial, rfl, fun v hv => nomatch hv⟩
    | cons k ks ih =>
      intro h
      obtain ⟨fs, h1, h2, h3⟩ := ih fun i hi => by
        obtain ⟨t, its, a, u, r, e, p⟩ := h (i + 1) (by simpa using hi)
        exact ⟨t, its, a, u, r, by simpa using e, p⟩
      obtain ⟨t, its, a, u, r, e, ⟨o, ho, hc, n, hd⟩, rfl⟩ := h 0 (by simp)
      have e' : k = .ref t := by simpa using e
      subst e'
      refine ⟨.int a u :: fs, KatTups.cons ho hc hd rfl h1, by simp [h2], fun v hv => ?_⟩
      rcases List.mem_cons.mp hv with e | e
      · exact ⟨a, u, e⟩
      · exact h3 v e
  intro ks N K
  obtain ⟨fs, h1, h2, h3⟩ := go ks fun i hi => by
    obtain ⟨t, its, e1, p, i1⟩ := K.at_ i (by rw [← K.size]; exact hi)
    have hl := K.long i (by rw [← K.size]; exact hi)
    generalize key i = kl at i1 hl
    cases i1 with
    | nil => simp at hl
    | cons a u hx => exact ⟨t, _, a, u, _, e1, p, rfl⟩
  exact ⟨fs, h1, by rw [h2, K.size], h3⟩
end
end L2
namespace L2
open PySem PySem.W PySem.Spec PyProof.Rows
def SortedBy (κ : Nat → Int) (xs ys : List V) : Prop := ∃ p : List Nat, p.Perm (List.range xs.length) ∧ ys = p.map (fun i => xs.getD i .non) ∧ p.Pairwise fun i j => κ i < κ j
theorem sorted_of {κ : Nat → Int} {xs : List V} {p : Array Nat} (A : Arr xs.length p) (hS : Srt κ p xs.length) : SortedBy κ xs (p.toList.map fun i => xs.getD i .non) := by
  refine ⟨p.toList, A.perm, rfl, ?_⟩
  rw [List.pairwise_iff_getElem]
  intro i j hi hj hij
  have hj' : j < xs.length := by rw [Array.length_toList, A.size] at hj; exact hj
  have e1 : p.toList[i] = p.getD i 0 := by
    have := A.get (show i < xs.length by omega)
    rw [List.getElem?_eq_getElem hi] at this
    exact Option.some.inj this
  have e2 : p.toList[j] = p.getD j 0 := by
    have := A.get hj'
    rw [List.getElem?_eq_getElem hj] at this
    exact Option.some.inj this
  rw [e1, e2]
  exact hS i j hij hj'
theorem vals_perm {xs : List V} {vs : List Value} (r : Vals xs vs) : ∀ (p : List Nat), (∀ i ∈ p, i < xs.length) → Vals (p.map fun i => xs.getD i .non) (p.map fun i => vs.getD i .none)
  | [], _ => .nil
  | i :: p, h => by
    have hi : i < xs.length := h i List.mem_cons_self
    obtain ⟨u, e, ru⟩ := r.get (List.getElem?_eq_getElem hi)
    refine .cons ?_ (vals_perm r p fun j hj => h j (List.mem_cons_of_mem _ hj))
    show RelV (xs.getD i .non) (vs.getD i .none)
    rw [List.getD_eq_getElem?_getD, List.getD_eq_getElem?_getD, e, List.getElem?_eq_getElem hi]
    exact ru
section
variable {X : Cx} {pins : List (Addr × Obj)} {σ : St} {H : Hp} {s : Shared} {A : Around} {E : Value → Shared → Prop}
end
end L2
namespace L2
open PySem PySem.W PySem.Spec PyProof.Rows
section
variable {X : Cx} {pins : List (Addr × Obj)} {σ : St} {H : Hp} {s : Shared} {A : Around} {E : Value → Shared → Prop}
end
end L2
namespace L2
open PySem PySem.W PySem.Spec PyProof.Rows
section
variable {X : Cx} {pins : List (Addr × Obj)} {σ : St} {H : Hp} {s : Shared} {body : Expr} {scope : Scope} {params : Arguments} {te : TE}
end
end L2
namespace L2
open PySem PySem.W PySem.Spec PyProof.Rows
section
variable {X : Cx} {pins : List (Addr × Obj)} {σ : St} {H : Hp} {s : Shared}
def TabOk (P : Addr) (pos : Pos) (qual : Str) (H : Hp) : Prop := H P = some (.tbl #[]) ∨ ∃ c' : Addr, H P = some (.tbl #[rawInt pos.line, rawInt pos.col, .ref c']) ∧ H c' = some (.ext fun h => h.CodeRec (.ref c') qual)
end
end L2
namespace L2
open PySem PySem.W PySem.Spec PyProof.Rows
section
variable {X : Cx} {e body : Expr} {ta : TA} {te : TE} {params : Arguments} {scope : Scope} {p1 p2 p3 lpos kp pos : Pos}
end
end L2
namespace L2
open PySem PySem.W PySem.Spec PyProof.Rows
end L2
namespace L2
open PySem PySem.Spec PyProof.Rows
mutual
inductive Den (K : PySem.W.Frag) (H : Hp) : V → PyData → Prop
  | non : Den K H .non .none
  | bl (b : Bool) : Den K H (.bl b) (.bool b)
  | int (i : Int) : Den K H (.int i) (.int i)
  | str (x : Str) : Den K H (.str x) (.str x)
  | list {a : Addr} {xs : List V} {ds : List PyData} : SqL K H a xs → Dens K H xs ds → Den K H (.ref a) (.list ds)
  | tuple {a : Addr} {xs : List V} {ds : List PyData} : SqT K H a xs → Dens K H xs ds → Den K H (.ref a) (.tuple ds)
inductive Dens (K : PySem.W.Frag) (H : Hp) : List V → List PyData → Prop
  | nil : Dens K H [] []
  | cons {v : V} {vs : List V} {d : PyData} {ds : List PyData} : Den K H v d → Dens K H vs ds → Dens K H (v :: vs) (d :: ds)
end
theorem Dens.length {K : PySem.W.Frag} {H : Hp} : ∀ {vs : List V} {ds : List PyData}, Dens K H vs ds → vs.length = ds.length
  | _, _, .nil => rfl
  | _, _, .cons _ hs => by rw [List.length_cons, List.length_cons, Dens.length hs]
theorem Dens.append {K : PySem.W.Frag} {H : Hp} : ∀ {vs ws : List V} {ds es : List PyData}, Dens K H vs ds → Dens K H ws es → Dens K H (vs ++ ws) (ds ++ es)
  | _, _, _, _, .nil, h => h
  | _, _, _, _, .cons h hs, h' => .cons h (Dens.append hs h')
theorem Dens.get {K : PySem.W.Frag} {H : Hp} : ∀ {vs : List V} {ds : List PyData} {i : Nat} {d : PyData}, Dens K H vs ds → ds[i]? = some d → ∃ v, vs[i]? = some v ∧ Den K H v d
  | _, _, _, _, .nil, e => by simp at e
  | _, _, 0, _, .cons h _, e => by simp at e; subst e; exact ⟨_, rfl, h⟩
  | _, _, i + 1, d, .cons _ hs, e => by
    obtain ⟨v, h1, h2⟩ := Dens.get (i := i) (d := d) hs (by simpa using e)
    exact ⟨v, by simpa using h1, h2⟩
theorem Dens.get' {K : PySem.W.Frag} {H : Hp} : ∀ {vs : List V} {ds : List PyData} {i : Nat} {v : V}, Dens K H vs ds → vs[i]? = some v → ∃ d, ds[i]? = some d ∧ Den K H v d
  | _, _, _, _, .nil, e => by simp at e
  | _, _, 0, _, .cons h _, e => by simp at e; subst e; exact ⟨_, rfl, h⟩
  | _, _, i + 1, v, .cons _ hs, e => by
    obtain ⟨d, h1, h2⟩ := Dens.get' (i := i) (v := v) hs (by simpa using e)
    exact ⟨d, by simpa using h1, h2⟩
theorem Dens.take {K : PySem.W.Frag} {H : Hp} : ∀ {vs : List V} {ds : List PyData} (n : Nat), Dens K H vs ds → Dens K H (vs.take n) (ds.take n)
  | _, _, 0, _ => .nil
  | _, _, _ + 1, .nil => .nil
  | _, _, n + 1, .cons h hs => .cons h (Dens.take n hs)
theorem Dens.ints {K : PySem.W.Frag} {H : Hp} : ∀ (ns : List Int), Dens K H (ns.map V.int) (ns.map PyData.int)
  | [] => .nil
  | n :: ns => .cons (.int n) (Dens.ints ns)
def dInts (ns : List Int) : PyData := .list (ns.map PyData.int)
theorem Den.ints {K : PySem.W.Frag} {H : Hp} {a : Addr} {ns : List Int} (h : SqL K H a (ns.map V.int)) : Den K H (.ref a) (dInts ns) := .list h (Dens.ints ns)
theorem Dens.int_inv {K : PySem.W.Frag} {H : Hp} : ∀ {vs : List V} {ns : List Int}, Dens K H vs (ns.map PyData.int) → vs = ns.map V.int
  | _, [], .nil => rfl
  | _, n :: ns, .cons h hs => by
    cases h
    rw [Dens.int_inv hs]; rfl
section
variable {X : Cx} {pins : List (Addr × Obj)} {σ : St} {H : Hp} {s : Shared}
mutual
theorem Den.reads (I : Inv X pins σ H s) : ∀ {v : V} {d : PyData} {u : Value}, Den X.K H v d → RelV v u → ∃ as, Reads s.heap u d as
  | _, _, _, .non, r => by cases r; exact ⟨_, .none⟩
  | _, _, _, .bl b, r => by cases r; exact ⟨_, .bool b⟩
  | _, _, _, .int i, r => by obtain ⟨t, rfl⟩ := r; exact ⟨_, .int i t⟩
  | _, _, _, .str x, r => by obtain ⟨t, rfl⟩ := r; exact ⟨_, .str x t⟩
  | _, _, _, .list h hs, r => by
    cases r
    obtain ⟨its, r1, ⟨o, n, e, c, _, d⟩, _⟩ := I.list h
    obtain ⟨as, q⟩ := Dens.reads I hs r1
    exact ⟨_, .list e c d (by simpa using q)⟩
  | _, _, _, .tuple h hs, r => by
    cases r
    obtain ⟨its, r1, ⟨o, e, c, n, d⟩, _⟩ := I.tuple h
    obtain ⟨as, q⟩ := Dens.reads I hs r1
    exact ⟨_, .tuple e c d (by simpa using q)⟩
theorem Dens.reads (I : Inv X pins σ H s) : ∀ {vs : List V} {ds : List PyData} {us : List Value}, Dens X.K H vs ds → Vals vs us → ∃ as, ReadsAll s.heap us ds as
  | _, _, _, .nil, r => by cases r; exact ⟨_, .nil⟩
  | _, _, _, .cons h hs, r => by
    cases r with
    | cons r1 r2 =>
      obtain ⟨as, q⟩ := Den.reads I h r1
      obtain ⟨bs, q'⟩ := Dens.reads I hs r2
      exact ⟨_, .cons q q'⟩
end
def rEqD (K : PySem.W.Frag) (neg : Bool) : R2 := fun x y H Q => ∃ d e, Den K H x d ∧ Den K H y e ∧ SeqAt.shaped d = true ∧ SeqAt.shaped e = true ∧ Q (.bl (if neg then !PyData.eqv d e else PyData.eqv d e)) H
theorem op_eqD (hu : X.A.units + 64 < cLine) : OpR X (compareOp .Eq) (rEqD X.K false) := by
  intro pins s σ H x y v u Q I rx ry h
  obtain ⟨d, e, hd, he, sd, se, q⟩ := h
  obtain ⟨as, ra⟩ := hd.reads I rx
  obtain ⟨bs, rb⟩ := he.reads I ry
  exact SeqAt.compareEq_shaped ra rb sd se hu ⟨.bl _, H, I, rfl, q⟩
theorem op_neD (hu : X.A.units + 64 < cLine) : OpR X (compareOp .NotEq) (rEqD X.K true) := by
  intro pins s σ H x y v u Q I rx ry h
  obtain ⟨d, e, hd, he, sd, se, q⟩ := h
  obtain ⟨as, ra⟩ := hd.reads I rx
  obtain ⟨bs, rb⟩ := he.reads I ry
  exact SeqAt.compareNe_shaped ra rb sd se hu ⟨.bl _, H, I, rfl, q⟩
end
def Sh (n : Nat) (d : PyData) : Prop := d.canLay0 = true ∧ d.depth ≤ n
theorem canAll : ∀ {ds : List PyData}, (∀ d ∈ ds, d.canLay0 = true) → PyData.canLayAll0 ds = true
  | [], _ => rfl
  | d :: ds, h => by rw [PyData.canLayAll0, h d List.mem_cons_self, canAll fun x hx => h x (List.mem_cons_of_mem _ hx)]; rfl
theorem depAll {n : Nat} : ∀ {ds : List PyData}, (∀ d ∈ ds, d.depth ≤ n) → PyData.depthAll ds ≤ n
  | [], _ => by simp [PyData.depthAll]
  | d :: ds, h => by
    have h1 := h d List.mem_cons_self
    have h2 := depAll fun x hx => h x (List.mem_cons_of_mem _ hx)
    simp only [PyData.depthAll]
    omega
theorem Sh.int (n : Nat) (i : Int) : Sh n (.int i) := ⟨rfl, by simp [PyData.depth]⟩
theorem Sh.list {n : Nat} {ds : List PyData} (h : ∀ d ∈ ds, Sh n d) : Sh (n + 1) (.list ds) := ⟨by rw [PyData.canLay0]; exact canAll fun d hd => (h d hd).1, by
  have := depAll fun d hd => (h d hd).2
  simp only [PyData.depth]; omega⟩
theorem Sh.tuple {n : Nat} {ds : List PyData} (h : ∀ d ∈ ds, Sh n d) : Sh (n + 1) (.tuple ds) := ⟨by rw [PyData.canLay0]; exact canAll fun d hd => (h d hd).1, by
  have := depAll fun d hd => (h d hd).2
  simp only [PyData.depth]; omega⟩
theorem Sh.ints (n : Nat) (ns : List Int) : Sh (n + 1) (dInts ns) := .list fun d hd => by
  obtain ⟨i, _, rfl⟩ := List.mem_map.mp hd
  exact .int n i
theorem Sh.ok {n : Nat} {d : PyData} (h : Sh n d) (hn : n ≤ 64) : SeqAt.shaped d = true := by
  unfold SeqAt.shaped
  rw [h.1, decide_eq_true (by have := h.2; omega)]; rfl
theorem eqv_same {n : Nat} {d : PyData} (h : Sh n d) : PyData.eqv d d = true := SeqAt.eqv_refl d h.1
abbrev Tabs := List (Addr × Pos × Str)
def TabsOk (T : Tabs) (H : Hp) : Prop := ∀ t ∈ T, TabOk t.1 t.2.1 t.2.2 H
structure SameT (T : Tabs) (H H' : Hp) : Prop where
  t0 : TabsOk T H
  t1 : TabsOk T H'
  keep : ∀ b o, H b = some o → (∀ ps, o ≠ .tbl ps) → H' b = some o
  tb : ∀ b ps, H b = some (.tbl ps) → ∃ ps', H' b = some (.tbl ps')
theorem TabsOk.nil (H : Hp) : TabsOk [] H := fun t ht => nomatch ht
theorem TabsOk.mono {T : Tabs} {H H' : Hp} (t : TabsOk T H) (s : Same H H') : TabsOk T H' := fun q hq => by
  rcases t q hq with e | ⟨c, e1, e2⟩
  · exact .inl (s _ _ e)
  · exact .inr ⟨c, s _ _ e1, s _ _ e2⟩
theorem SameT.refl {T : Tabs} {H : Hp} (t : TabsOk T H) : SameT T H H := ⟨t, t, fun _ _ h _ => h, fun _ ps h => ⟨ps, h⟩⟩
theorem SameT.of {T : Tabs} {H H' : Hp} (t : TabsOk T H) (s : Same H H') : SameT T H H' := ⟨t, t.mono s, fun b o h _ => s b o h, fun b ps h => ⟨ps, s _ _ h⟩⟩
theorem SameT.trans {T : Tabs} {H H1 H2 : Hp} (a : SameT T H H1) (b : SameT T H1 H2) : SameT T H H2 := ⟨a.t0, b.t1, fun c o h n => b.keep c o (a.keep c o h n) n, fun c ps h => by
  obtain ⟨ps', e⟩ := a.tb c ps h
  exact b.tb c ps' e⟩
theorem SameT.free {T : Tabs} {H H' : Hp} (a : SameT T H H') {l : Addr} (h : H' l = none) : H l = none := by
  cases q : H l with
  | none => rfl
  | some o =>
    have key : (∃ ps, o = .tbl ps) ∨ ∀ ps, o ≠ .tbl ps := by
      cases o with
      | tbl ps => exact .inl ⟨ps, rfl⟩
      | _ => exact .inr fun _ z => by cases z
    rcases key with ⟨ps, rfl⟩ | n
    · obtain ⟨ps', e⟩ := a.tb l ps q
      rw [h] at e; cases e
    · have := a.keep l o q n
      rw [h] at this; cases this
theorem SameT.seq {T : Tabs} {K : PySem.W.Frag} {H H' : Hp} {a : Addr} {xs : List V} (e : SameT T H H') (h : SqL K H a xs) : SqL K H' a xs := by
  rcases h with (h | ⟨o, h⟩) | h
  · exact .inl (.inl (e.keep _ _ h fun _ z => by cases z))
  · exact .inl (.inr ⟨o, e.keep _ _ h fun _ z => by cases z⟩)
  · exact .inr h
theorem SameT.seqT {T : Tabs} {K : PySem.W.Frag} {H H' : Hp} {a : Addr} {xs : List V} (e : SameT T H H') (h : SqT K H a xs) : SqT K H' a xs := by
  rcases h with (h | ⟨o, h⟩) | h
  · exact .inl (.inl (e.keep _ _ h fun _ z => by cases z))
  · exact .inl (.inr ⟨o, e.keep _ _ h fun _ z => by cases z⟩)
  · exact .inr h
mutual
theorem Den.monoT {T : Tabs} {K : PySem.W.Frag} {H H' : Hp} (e : SameT T H H') : ∀ {v : V} {d : PyData}, Den K H v d → Den K H' v d
  | _, _, .non => .non
  | _, _, .bl b => .bl b
  | _, _, .int i => .int i
  | _, _, .str x => .str x
  | _, _, .list h hs => .list (e.seq h) (Dens.monoT e hs)
  | _, _, .tuple h hs => .tuple (e.seqT h) (Dens.monoT e hs)
theorem Dens.monoT {T : Tabs} {K : PySem.W.Frag} {H H' : Hp} (e : SameT T H H') : ∀ {vs : List V} {ds : List PyData}, Dens K H vs ds → Dens K H' vs ds
  | _, _, .nil => .nil
  | _, _, .cons h hs => .cons (Den.monoT e h) (Dens.monoT e hs)
end
def RetLT (T : Tabs) (H : Hp) (P : List V → Prop) (Q : VK) : Prop := ∀ (l : Addr) (H' : Hp) (xs : List V), SameT T H H' → H l = none → H' l = some (.lst xs) → P xs → Q (.ref l) H'
def plainO : HO → Bool
  | .tbl _ => false
  | .ext _ => false
  | _ => true
structure Ow (T : Tabs) (H0 H : Hp) (L : List (Addr × HO)) : Prop where
  same : SameT T H0 H
  new : ∀ p ∈ L, H0 p.1 = none
  at_ : ∀ p ∈ L, H p.1 = some p.2
  pl : ∀ p ∈ L, plainO p.2 = true
  nd : (L.map (·.1)).Nodup
section
variable {T : Tabs} {H0 H1 H H' : Hp} {L L' : List (Addr × HO)} {a l : Addr} {o o' : HO} {xs : List V}
theorem Ow.refl (t : TabsOk T H) : Ow T H H [] := ⟨SameT.refl t, (fun p hp => nomatch hp), (fun p hp => nomatch hp), (fun p hp => nomatch hp), List.nodup_nil⟩
theorem Ow.refl0 (H : Hp) : Ow [] H H [] := Ow.refl (TabsOk.nil H)
theorem Ow.get (O : Ow T H0 H L) (k : Nat) (h : L[k]? = some (a, o) := by rfl) : H a = some o := O.at_ _ (List.mem_of_getElem? h)
theorem Ow.fr (O : Ow T H0 H L) (k : Nat) (h : L[k]? = some (a, o) := by rfl) : H0 a = none := O.new _ (List.mem_of_getElem? h)
theorem Ow.sq {K : PySem.W.Frag} (O : Ow T H0 H L) (k : Nat) (h : L[k]? = some (a, .lst xs) := by rfl) : SqL K H a xs := SqL.of (O.get k h)
theorem Ow.sqT {K : PySem.W.Frag} (O : Ow T H0 H L) (k : Nat) (h : L[k]? = some (a, .tup xs) := by rfl) : SqT K H a xs := SqT.of (O.get k h)
theorem TabOk.upd {P : Addr} {pos : Pos} {q : Str} (t : TabOk P pos q H) (h : H a = none ∨ ∃ o, H a = some o ∧ plainO o = true) : TabOk P pos q (L2.upd H a o') := by
  have ne : ∀ b u, H b = some u → plainO u = false → b ≠ a := fun b u e p z => by
    subst z
    rcases h with h | ⟨o, h, ho⟩
    · rw [h] at e; cases e
    · rw [h] at e; cases e; rw [ho] at p; cases p
  rcases t with e | ⟨c, e1, e2⟩
  · exact .inl (by rw [upd_ne (ne _ _ e rfl)]; exact e)
  · exact .inr ⟨c, by rw [upd_ne (ne _ _ e1 rfl)]; exact e1, by rw [upd_ne (ne _ _ e2 rfl)]; exact e2⟩
theorem SameT.upd (s : SameT T H0 H) (h : H0 a = none) (h' : H a = none ∨ ∃ o, H a = some o ∧ plainO o = true) : SameT T H0 (L2.upd H a o') :=
  ⟨s.t0, fun t ht => (s.t1 t ht).upd h', fun b u e n => by rw [upd_ne (ne_of_none e h)]; exact s.keep b u e n, fun b ps e => by rw [upd_ne (ne_of_none e h)]; exact s.tb b ps e⟩
theorem Ow.mk' (O : Ow T H0 H L) (h : H a = none) (ho : plainO o = true) : Ow T H0 (upd H a o) ((a, o) :: L) := by
  have ne : ∀ p ∈ L, p.1 ≠ a := fun p hp => ne_of_none (O.at_ p hp) h
  have n0 : H0 a = none := O.same.free h
  refine ⟨O.same.upd n0 (.inl h), fun p hp => ?_, fun p hp => ?_, fun p hp => ?_, ?_⟩
  · rcases List.mem_cons.mp hp with e | e
    · rw [e]; exact n0
    · exact O.new p e
  · rcases List.mem_cons.mp hp with e | e
    · rw [e]; exact upd_same
    · rw [upd_ne (ne p e)]; exact O.at_ p e
  · rcases List.mem_cons.mp hp with e | e
    · rw [e]; exact ho
    · exact O.pl p e
  · rw [List.map_cons, List.nodup_cons]
    refine ⟨fun hm => ?_, O.nd⟩
    obtain ⟨p, hp, e⟩ := List.mem_map.mp hm
    exact ne p hp e
theorem set_fst : ∀ {L : List (Addr × HO)} {k : Nat} {a : Addr} {o o' : HO}, L[k]? = some (a, o) → (L.set k (a, o')).map (·.1) = L.map (·.1)
  | [], _, _, _, _, h => by simp at h
  | p :: L, 0, a, o, o', h => by
    have : p = (a, o) := by simpa using h
    rw [this]; rfl
  | p :: L, k + 1, a, o, o', h => by
    rw [List.set_cons_succ, List.map_cons, List.map_cons, set_fst (L := L) (k := k) (o := o) (by simpa using h)]
theorem Ow.put' (O : Ow T H0 H L) (k : Nat) (h : L[k]? = some (a, o)) (ho : plainO o' = true) : Ow T H0 (upd H a o') (L.set k (a, o')) := by
  have hm0 := List.mem_of_getElem? h
  have n0 : H0 a = none := O.new _ hm0
  have hk : k < L.length := (List.getElem?_eq_some_iff.mp h).1
  refine ⟨O.same.upd n0 (.inr ⟨o, O.at_ _ hm0, O.pl _ hm0⟩), fun p hp => ?_, fun p hp => ?_, fun p hp => ?_, by rw [set_fst h]; exact O.nd⟩
  · rcases List.mem_or_eq_of_mem_set hp with e | e
    · exact O.new p e
    · rw [e]; exact n0
  · obtain ⟨j, hj, e⟩ := List.getElem_of_mem hp
    by_cases hjk : j = k
    · subst hjk
      rw [List.getElem_set_self] at e
      rw [← e]; exact upd_same
    · rw [List.getElem_set_ne (Ne.symm hjk)] at e
      have hj' : j < L.length := by rw [List.length_set] at hj; exact hj
      have hm : p ∈ L := by rw [← e]; exact List.getElem_mem hj'
      rw [upd_ne]
      · exact O.at_ p hm
      · intro z
        have e1 : (L.map (·.1))[j]? = some p.1 := by rw [List.getElem?_map, List.getElem?_eq_getElem hj', e]; rfl
        have e2 : (L.map (·.1))[k]? = some a := by rw [List.getElem?_map, h]; rfl
        rw [z] at e1
        obtain ⟨a1, a2⟩ := List.getElem?_eq_some_iff.mp e1
        obtain ⟨b1, b2⟩ := List.getElem?_eq_some_iff.mp e2
        exact hjk ((List.getElem_inj O.nd).mp (a2.trans b2.symm))
  · rcases List.mem_or_eq_of_mem_set hp with e | e
    · exact O.pl p e
    · rw [e]; exact ho
theorem plain_tbl {o : HO} (h : plainO o = true) : ∀ ps, o ≠ .tbl ps := fun ps z => by rw [z] at h; cases h
theorem Ow.callT (O : Ow T H0 H L) (s : SameT T H H') : Ow T H0 H' L := ⟨O.same.trans s, O.new, fun p hp => s.keep _ _ (O.at_ p hp) (plain_tbl (O.pl p hp)), O.pl, O.nd⟩
theorem Ow.moreT (O : Ow T H0 H L) (s : SameT T H H') (n : H l = none) (h : H' l = some o) (ho : plainO o = true) : Ow T H0 H' ((l, o) :: L) := by
  have O2 := O.callT s
  refine ⟨O2.same, fun p hp => ?_, fun p hp => ?_, fun p hp => ?_, ?_⟩
  · rcases List.mem_cons.mp hp with e | e
    · rw [e]; exact O.same.free n
    · exact O.new p e
  · rcases List.mem_cons.mp hp with e | e
    · rw [e]; exact h
    · exact O2.at_ p e
  · rcases List.mem_cons.mp hp with e | e
    · rw [e]; exact ho
    · exact O.pl p e
  · rw [List.map_cons, List.nodup_cons]
    refine ⟨fun hm => ?_, O.nd⟩
    obtain ⟨p, hp, e⟩ := List.mem_map.mp hm
    exact ne_of_none (O.at_ p hp) n e
theorem Ow.more (O : Ow T H0 H L) (s : Same H H') (n : H l = none) (h : H' l = some o) (ho : plainO o = true) : Ow T H0 H' ((l, o) :: L) := O.moreT (SameT.of O.same.t1 s) n h ho
theorem Ow.sub (O : Ow T H0 H L) (h : L'.Sublist L) : Ow T H0 H L' := ⟨O.same, fun p hp => O.new p (h.subset hp), fun p hp => O.at_ p (h.subset hp), fun p hp => O.pl p (h.subset hp), O.nd.sublist (h.map _)⟩
theorem Ow.perm (O : Ow T H0 H L) (h : L'.Perm L) : Ow T H0 H L' := ⟨O.same, fun p hp => O.new p (h.mem_iff.mp hp), fun p hp => O.at_ p (h.mem_iff.mp hp), fun p hp => O.pl p (h.mem_iff.mp hp), (h.map _).nodup_iff.mpr O.nd⟩
theorem Ow.tail {p : Addr × HO} (O : Ow T H0 H (p :: L)) : Ow T H0 H L := O.sub (List.sublist_cons_self _ _)
theorem Ow.two {p q : Addr × HO} (O : Ow T H0 H (p :: q :: L)) : Ow T H0 H (p :: L) := O.sub ((List.sublist_cons_self _ _).cons₂ _)
theorem Ow.reb (O : Ow T H0 H L) : ∃ H1, Ow T H1 H L ∧ SameT T H0 H1 ∧ ∀ b o, H b = some o → (∀ p ∈ L, p.1 ≠ b) → H1 b = some o := by
  have keep : ∀ b u, H b = some u → (∀ p ∈ L, p.1 ≠ b) → (fun b => if b ∈ L.map (·.1) then none else H b : Hp) b = some u := fun b u e h => by
    show (if b ∈ L.map (·.1) then none else H b) = some u
    rw [if_neg fun hm => ?_]; · exact e
    obtain ⟨p, hp, z⟩ := List.mem_map.mp hm
    exact h p hp z
  have back : ∀ b u, (fun b => if b ∈ L.map (·.1) then none else H b : Hp) b = some u → H b = some u := fun b u e => by
    dsimp only at e
    split at e
    · cases e
    · exact e
  have npl : ∀ b u, H b = some u → plainO u = false → ∀ p ∈ L, p.1 ≠ b := fun b u e h p hp z => by
    have := O.at_ p hp
    rw [z, e] at this
    have e' : u = p.2 := Option.some.inj this
    rw [e', O.pl p hp] at h; cases h
  have tk : TabsOk T (fun b => if b ∈ L.map (·.1) then none else H b) := fun t ht => by
    rcases O.same.t1 t ht with e | ⟨c, e1, e2⟩
    · exact .inl (keep _ _ e (npl _ _ e rfl))
    · exact .inr ⟨c, keep _ _ e1 (npl _ _ e1 rfl), keep _ _ e2 (npl _ _ e2 rfl)⟩
  refine ⟨fun b => if b ∈ L.map (·.1) then none else H b, ⟨⟨tk, O.same.t1, fun b u e _ => back b u e, fun b ps e => ⟨ps, back _ _ e⟩⟩, fun p hp => ?_, O.at_, O.pl, O.nd⟩, ⟨O.same.t0, tk, fun b u e n => ?_, fun b ps e => ?_⟩, keep⟩
  · exact if_pos (List.mem_map.mpr ⟨p, hp, rfl⟩)
  · refine keep b u (O.same.keep b u e n) fun p hp z => ?_
    rw [← z, O.new p hp] at e; cases e
  · obtain ⟨ps', e'⟩ := O.same.tb b ps e
    exact ⟨ps', keep _ _ e' (npl _ _ e' rfl)⟩
theorem ow_set {i : Int} {j : Nat} {v : V} {Q : Hp → Prop} (O : Ow T H0 H L) (k : Nat) (h : L[k]? = some (l, .lst xs)) (hi : ixN xs.length i = some j) (q : ∀ H', Ow T H0 H' (L.set k (l, .lst (xs.set j v))) → Q H') : rSetL (.ref l) (.int i) v H Q :=
  ⟨l, xs, i, j, rfl, rfl, O.get k h, hi, q _ (O.put' k h rfl)⟩
theorem Ow.ret {P : List V → Prop} {Q : VK} (O : Ow T H0 H L) (k : Nat) (h : L[k]? = some (l, .lst xs)) (q : RetLT T H0 P Q) (p : P xs) : Q (.ref l) H := q l H xs O.same (O.fr k h) (O.get k h) p
theorem Ow.got {P : List V → Prop} {Q : VK} (O : Ow T H0 H L) (k : ∀ l H' xs, Ow T H0 H' ((l, .lst xs) :: L) → P xs → Q (.ref l) H') : RetL H P Q := fun l H' xs s n h p => k l H' xs (O.more s n h rfl) p
theorem Ow.gotT {P : List V → Prop} {Q : VK} (O : Ow T H0 H L) (k : ∀ l H' xs, Ow T H0 H' ((l, .lst xs) :: L) → P xs → Q (.ref l) H') : RetLT T H P Q := fun l H' xs s n h p => k l H' xs (O.moreT s n h rfl) p
end
end L2
namespace L2
open PySem PySem.W PySem.Spec PyProof.Rows
theorem szl {n : Nat} (h : Nat.ble n 100000 = true := by rfl) : n ≤ sizeLine := small100 (Nat.le_of_ble_eq_true h)
theorem in_ints (p : Int) (ns : List Int) : inV (.int p) (ns.map V.int) = decide (p ∈ ns) := by
  unfold inV
  rw [List.any_map, Bool.eq_iff_iff]
  simp only [List.any_eq_true, decide_eq_true_eq]
  constructor
  · rintro ⟨x, hx, e⟩
    have e' : (x == p) = true := e
    have : x = p := by simpa using e'
    rw [← this]; exact hx
  · intro h
    exact ⟨p, h, show (p == p) = true by simp⟩
theorem flat_ints (ns : List Int) : (ns.map V.int).all flatV = true := by
  rw [List.all_map, List.all_eq_true]; intro _ _; rfl
section
variable {X : Cx}
theorem eqvAll_ints : ∀ ns ms : List Int, PyData.eqvAll (ns.map PyData.int) (ms.map PyData.int) = decide (ns = ms)
  | [], [] => by simp [PyData.eqvAll]
  | [], _ :: _ => by simp [PyData.eqvAll]
  | _ :: _, [] => by simp [PyData.eqvAll]
  | n :: ns, m :: ms => by
    rw [List.map_cons, List.map_cons, PyData.eqvAll, eqvAll_ints ns ms]
    have e : PyData.eqv (.int n) (.int m) = decide (n = m) := by
      rw [PyData.eqv]; rfl
    rw [e, Bool.eq_iff_iff]
    simp
theorem eqv_ints (ns ms : List Int) : PyData.eqv (dInts ns) (dInts ms) = decide (ns = ms) := by
  unfold dInts
  rw [PyData.eqv]; exact eqvAll_ints ns ms
theorem op_neI (hu : X.A.units + 64 < cLine) : OpR X (compareOp .NotEq) (rEqL X.K true) := by
  intro pins s σ H x y v u Q I rx ry h
  obtain ⟨a, b, ns, ms, rfl, rfl, ha, hb, q⟩ := h
  refine op_neD hu pins s σ H _ _ v u Q I rx ry ⟨_, _, Den.ints ha, Den.ints hb, (Sh.ints 0 ns).ok (by decide), (Sh.ints 0 ms).ok (by decide), ?_⟩
  rw [eqv_ints]; exact q
end
def RetTT (T : Tabs) (H : Hp) (P : List V → Prop) (Q : VK) : Prop := ∀ (l : Addr) (H' : Hp) (xs : List V), SameT T H H' → H l = none → H' l = some (.tup xs) → P xs → Q (.ref l) H'
section
variable {T : Tabs} {H0 H : Hp} {L : List (Addr × HO)} {l : Addr} {xs : List V}
theorem Ow.retT {P : List V → Prop} {Q : VK} (O : Ow T H0 H L) (k : Nat) (h : L[k]? = some (l, .tup xs)) (q : RetTT T H0 P Q) (p : P xs) : Q (.ref l) H := q l H xs O.same (O.fr k h) (O.get k h) p
theorem Ow.gotTT {P : List V → Prop} {Q : VK} (O : Ow T H0 H L) (k : ∀ l H' xs, Ow T H0 H' ((l, .tup xs) :: L) → P xs → Q (.ref l) H') : RetTT T H P Q := fun l H' xs s n h p => k l H' xs (O.moreT s n h rfl) p
theorem Ow.mkE {a : Addr} {o : HO} {H' : Hp} (O : Ow T H0 H L) (h : H a = none) (e : upd H a o = H') (ho : plainO o = true) : Ow T H0 H' ((a, o) :: L) := e ▸ O.mk' h ho
theorem Ow.putE {a : Addr} {o o' : HO} {H' : Hp} (O : Ow T H0 H L) (k : Nat) (h : L[k]? = some (a, o)) (e : upd H a o' = H') (ho : plainO o' = true) : Ow T H0 H' (L.set k (a, o')) := e ▸ O.put' k h ho
end
def dMv (m : Int × Int × Int) : PyData := .tuple [.int m.1, .int m.2.1, .int m.2.2]
def dMvs (ms : List (Int × Int × Int)) : PyData := .list (ms.map dMv)
theorem Den.mv_inv {K : PySem.W.Frag} {H : Hp} {v : V} {m : Int × Int × Int} (h : Den K H v (dMv m)) : ∃ a, v = .ref a ∧ SqT K H a [.int m.1, .int m.2.1, .int m.2.2] := by
  cases h with
  | tuple h hs =>
    have e := Dens.int_inv (ns := [m.1, m.2.1, m.2.2]) hs
    exact ⟨_, rfl, by rw [e] at h; exact h⟩
theorem Den.mv {K : PySem.W.Frag} {H : Hp} {a : Addr} {m : Int × Int × Int} (h : SqT K H a [.int m.1, .int m.2.1, .int m.2.2]) : Den K H (.ref a) (dMv m) := .tuple h (.cons (.int _) (.cons (.int _) (.cons (.int _) .nil)))
theorem Sh.mv (n : Nat) (m : Int × Int × Int) : Sh (n + 1) (dMv m) := .tuple fun d hd => by
  simp at hd
  rcases hd with e | e | e <;> (rw [e]; exact .int _ _)
theorem Sh.mvs (n : Nat) (ms : List (Int × Int × Int)) : Sh (n + 2) (dMvs ms) := .list fun d hd => by
  obtain ⟨m, _, rfl⟩ := List.mem_map.mp hd
  exact .mv n m
end L2
namespace L2
open PySem PySem.W PySem.Spec PySem.Calls PyProof.Rows PySem.Builtin PySem.Builtin.ObjectAttr PySem.Builtin.Getset_descriptor
section
variable {prog : Program} {w : World} {A : Around} {E : Value → Shared → Prop} {K : Frag} {e D : Addr} {hh : Heap} {g : Array GenState} {d : Drawn} {t : Nat} {os : OsState}
structure XCls (K : Frag) (D : Addr) : Prop where
  ga : findIn K (.ref D) "__getattribute__" = some (some (.builtin "BaseException.__getattribute__"))
  gt : findIn K (.ref D) "__getattr__" = some none
  at_ : findIn K (.ref D) "__class__" = some (some (.builtin "object.__class__"))
  sp : specialIn K (.builtin "object.__class__") "__get__" = some (some (.builtin "getset_descriptor.__get__"))
  tk : takesIn K (.builtin "object.__class__") = some true
  mo : mroIn K D (.type "object") = some true
  mb : mroIn K D (.type "BaseException") = some true
  cl : (clsIn K D).isSome = true
theorem xc_find {M : Model} (X : K.In hh) (C : XCls K D) : Looks M hh (Builtin.ObjectAttr.find (.ref e) (.ref D) "__class__") (.bind (.builtin "getset_descriptor.__get__") (.builtin "object.__class__")) := by
  have L3 : Looks M hh (Builtin.ObjectAttr.dataDescriptor? (some (.builtin "object.__class__")) (some (.builtin "getset_descriptor.__get__"))) (some (.builtin "getset_descriptor.__get__", .builtin "object.__class__")) := (looks_takesIn X C.tk).andThen .now
  exact (looks_findIn X C.at_).andThen ((looks_specialIn X C.sp).andThen (L3.andThen (Looks.tag .now)))
theorem xc_get {R : Result → Shared → Prop} {tp : Value} (LT : Looks (model prog w) hh (typeOf (.ref e)) (.ref D)) (X : K.In hh) (C : XCls K D) (q : R (.ok (.ret (.ref D))) ⟨hh, g, d, t, os⟩) :
    codeAny (model prog w) A (.call (.builtin "getset_descriptor.__get__") ⟨[.builtin "object.__class__", .ref e, tp], []⟩) R ⟨hh, g, d, t, os⟩ := by
  have LS := looks_mroIn (M := model prog w) X C.mo
  clear C X
  refine codeAny_call_builtin KF.slot_gs.plain KF.entry_gs (KF.slot_gs.check _ _ _ _ _ _ _ _ KF.type_class (KF.args_gs _ _ (tp)) ?_)
  unfold Builtin.«getset_descriptor.__get__» descrGet; rw [dga_obj]; refine wpAny_bind (wpAny_pure ?_)
  unfold descrGetter descrCheckInstance descrNameAndClass isInstance; simp only [KF.owner_class]; repeat lk
  refine ⟨Code.quiet_builtin _ (by decide +kernel), codeAny_builtin KF.entry_class ?_⟩; unfold Builtin.«object.__class__» shownTypeOf; (repeat lk); exact q
theorem xc_entry {tk : Tok} {Q : Fin → Shared → Prop} (LT : Looks (model prog w) hh (typeOf (.ref e)) (.ref D)) (X : K.In hh) (C : XCls K D) (h : Q (.done (.ret (.ref D))) ⟨hh, g, d, t, os⟩) :
    wpAny (model prog w) A (Builtin.«object.__getattribute__» ⟨[.ref e, .str "__class__" tk], []⟩) Q E ⟨hh, g, d, t, os⟩ := by
  unfold Builtin.«object.__getattribute__»
  refine wpAny_bind (m := slotArgs "__getattribute__" 1 _) (wpAny_pure ?_)
  refine wpAny_bind (m := Builtin.ObjectAttr.attrName _) (wpAny_pure ?_)
  refine wpAny_bind (LT.at (wpAny_bind ((xc_find X C).at ?_)))
  unfold Builtin.ObjectAttr.bindTo
  exact wpAny_bind (wpAny_holding (wpAny_call (xc_get LT X C (wpAny_pure h))))
theorem xc_class {Q : Option Value → Shared → Prop} (LT : Looks (model prog w) hh (typeOf (.ref e)) (.ref D)) (X : K.In hh) (C : XCls K D) (h : Q (some (.ref D)) ⟨hh, g, d, t + 1, os⟩) :
    wpAny (model prog w) A (getAttr? (.ref e) "__class__") Q E ⟨hh, g, d, t, os⟩ := by
  have L1 := looks_findIn (M := model prog w) X C.ga
  have L2 := looks_findIn (M := model prog w) X C.gt
  have LI : Looks (model prog w) hh (isInstance (.ref e) (.type "BaseException")) true := LT.andThen (looks_mroIn X C.mb)
  have f3 := PySem.F.attr_ValueError.ga.bind (.ref e)
  have hx2 : (Value.builtin "BaseException.__getattribute__" == Value.builtin "object.__getattribute__") = false := by decide +kernel
  unfold getAttr? getAttrBy? getAttrBy
  refine wpAny_bind (wpAny_mkText (wpAny_bind (wpAny_attempt (wpAny_holding (wpAny_bind (LT.at (wpAny_bind (L1.at ?_))))))))
  dsimp only
  rw [if_neg (by rw [hx2]; simp)]
  unfold getAttrByItsOwn hookBefore callGetattribute
  refine wpAny_bind ?_
  rw [if_pos (show onTheHeap (Value.ref D) = true from rfl)]
  refine L2.at ?_
  refine wpAny_bind (wpAny_attempt (wpAny_holding ?_))
  rw [if_neg (by simp)]
  unfold boundAndCalled
  rw [f3]
  refine wpAny_bind (wpAny_pure ?_)
  refine wpAny_call (codeAny_call_builtin PySem.F.attr_ValueError.ga.plain PySem.F.entry_bexc_ga ?_)
  have kd : builtinKind "BaseException.__getattribute__" = some .slot := by decide +kernel
  have spl : splitId "BaseException.__getattribute__" = some ("BaseException", "__getattribute__") := by decide +kernel
  have ha := PySem.F.args_bexc_ga (.ref e) (.str "__class__" t)
  simp only [checkBuiltinCall, kd, spl]
  refine wpAny_bind (LI.at ?_)
  rw [if_neg (by simp)]
  refine wpAny_of_eq (a := ()) ha ?_
  refine xc_entry (t := t + 1) LT X C ?_
  show wpAny (model prog w) A (handedOut (.ref D)) _ _ _
  exact wpAny_pure (wpAny_pure h)
def XAt (e D : Addr) (h : Heap) : Prop := ∃ o, h.get? e = some o ∧ o.cls = .ref D
theorem xat_ty {M : Model} {h : Heap} (x : XAt e D h) : Looks M h (typeOf (.ref e)) (.ref D) := by
  obtain ⟨o, h1, h2⟩ := x
  rw [← h2]
  exact (Looks.ld h1).andThen .now
theorem kitx_exc (C : XCls K D) : KitX K (.ref e) (.ref D) (XAt e D) where
  ty := fun _ _ _ p => xat_ty p
  it := fun M h X _ => by
    have c := C.cl
    unfold clsIn at c
    split at c
    · rename_i ho
      intro _ _ _ _ k q
      unfold isType loadHead
      exact wpAny_bind (wpAny_loadPart (k _ _ (X _ _ ho)) (wpAny_pure q))
    · cases c
  ne := fun h tp dd its n sl X htp => by
    have c := C.cl
    refine Bool.eq_false_iff.mpr fun q => ?_
    cases Value.ref.inj (beq_iff_eq.mp q)
    unfold clsIn at c
    split at c
    · rename_i ho
      cases (X _ _ ho).symm.trans htp
    · cases c
  ca := fun {_ _ _ _ _ s} X p k => by
    obtain ⟨h0, g0, d0, t0, o0⟩ := s
    exact xc_class (xat_ty p) X C k
end
end L2
namespace L2
open PySem PySem.W PySem.Spec PySem.Calls PyProof.Rows
theorem ObjOk.obj {P : Program} {w : World} {H : Hp} {h : Heap} {a : Addr} {o : HO} (x : ObjOk P w H h a o) : ∃ ob, h.get? a = some ob := by
  cases o with
  | lst xs => obtain ⟨_, _, _, _, e⟩ := x; exact ⟨_, e⟩
  | tup xs => obtain ⟨_, _, _, o, e, _⟩ := x; exact ⟨_, e⟩
  | dK kvs => obtain ⟨_, _, _, _, o, _, _, e, _⟩ := x; exact ⟨_, e⟩
  | dT kvs => obtain ⟨_, _, _, _, o, _, _, e, _⟩ := x; exact ⟨_, e⟩
  | set S n => obtain ⟨o, _, _, _, e, _⟩ := x; exact ⟨_, e⟩
  | ins C dx fs => obtain ⟨_, _, _, e, _⟩ := x; exact ⟨_, e⟩
  | own y => exact x
  | xd fs => obtain ⟨_, ⟨_, _, _, e, _⟩, _⟩ := x; exact ⟨_, e⟩
  | rng lo hi => obtain ⟨_, _, _, e⟩ := x; exact ⟨_, e⟩
  | frz ob u => obtain ⟨e, _⟩ := x; exact ⟨_, e⟩
  | tbl ps => exact ⟨_, x⟩
  | met f y => exact ⟨_, x⟩
  | ext φ => obtain ⟨_, e, _⟩ := x; exact e
structure Fly (P : Program) (w : World) (B : Heap) (fs : List Addr) (H : Hp) (h0 : Heap) (H' : Hp) (h : Heap) : Prop where
  un : Un fs [] H H' h0 h
  hok : HOk P w H' h
  old : ∀ b o, h0.get? b = some o → b ∉ fs → ∃ o', B.get? b = some o' ∧ (H b = none → o' = o)
  trk : ∀ b u, H' b = some u → ∃ o, h.get? b = some o ∧ B.get? b = some o
section
variable {P : Program} {w : World} {B h0 h h2 : Heap} {fs : List Addr} {H H' : Hp}
theorem Fly.on (x : Fly P w B fs H h0 H' h) (sb : B.StaysIn h2) (sm : ∀ b ∈ fs, ∀ o, h.get? b = some o → ∃ sl, h2.get? b = some { o with slots := sl }) : Fly P w B fs H h0 H' h2 := by
  have kp : ∀ b o, h0.get? b = some o → H b = none → b ∉ fs → h2.get? b = some o := fun b o q n hb => by
    obtain ⟨o', e, k⟩ := x.old b o q hb
    rw [← k n]; exact sb b o' e
  have sl : ∀ b o, h0.get? b = some o → H b = none → b ∈ fs → ∃ s, h2.get? b = some { o with slots := s } := fun b o q n hb => by
    obtain ⟨s1, e1⟩ := x.un.slot b o q n hb (by simp)
    obtain ⟨s2, e2⟩ := sm b hb _ e1
    exact ⟨s2, e2⟩
  refine ⟨⟨fun b o q n hb _ => kp b o q n hb, fun b o q n hb _ => sl b o q n hb, x.un.free, fun b o q _ => ?_, x.un.tups, x.un.frzs, x.un.tbls⟩, fun a u e => ?_, x.old, fun b u e => ?_⟩
  · by_cases hb : b ∈ fs
    · obtain ⟨o1, e1⟩ := x.un.there b o q (by simp)
      obtain ⟨s2, e2⟩ := sm b hb _ e1
      exact ⟨_, e2⟩
    · obtain ⟨o', e, _⟩ := x.old b o q hb
      exact ⟨o', sb b o' e⟩
  · refine (x.hok a u e).stay (fun b v hb q => ?_) (fun _ q => q) fun _ _ q => q
    have tr : ∃ u', H' b = some u' := by
      rcases hb with z | z
      · exact ⟨u, by rw [z]; exact e⟩
      · exact ⟨_, z⟩
    obtain ⟨u', e'⟩ := tr
    obtain ⟨o, e1, e2⟩ := x.trk b u' e'
    rw [q] at e1; cases e1
    exact sb b v e2
  · obtain ⟨o, e1, e2⟩ := x.trk b u e
    exact ⟨o, sb b o e2, e2⟩
end
def CXE (P : Program) (w : World) : CXT := fun outer H s E e s' => ∃ (ea t C : Addr) (B : Heap) (H' : Hp), e = .ref ea ∧ s'.os = s.os ∧ AllBare s'.gens ∧ Fly P w B (frs outer) H s.heap H' s'.heap ∧ Heap.FlyingW B outer ea (.ref C) (.ref t) s'.heap ∧
  s.heap.get? ea = none ∧ H' ea = none ∧ E (.ref C) (some ea) H'
theorem frs_cons {env : Env} {l : List Env} {L : Addr} (hf : env.frame = some L) : frs (env :: l) = L :: frs l := by unfold frs; rw [List.filterMap_cons, hf]
theorem in_frs {l : List Env} : ∀ env ∈ l, ∀ b, env.frame = some b → b ∈ frs l := fun env he b hb => List.mem_filterMap.mpr ⟨env, he, hb⟩
theorem slots_frames {B h : Heap} {l : List Env} {h2 : Heap} (f : h.FunFrames B l) (sm : h.UpToSlots h2) : ∀ b ∈ frs l, ∀ o, h.get? b = some o → ∃ sl, h2.get? b = some { o with slots := sl } := fun b hb o e => by
  obtain ⟨_, o', e', d⟩ := f.mem hb
  rw [e] at e'; cases e'
  exact sm b o e d
section
variable {X : Cx} {pins : List (Addr × Obj)} {σ : St} {H : Hp} {s : Shared} {E : XK}
structure Body (X : Cx) : Prop where
  st : X.stack = X.env :: X.outer
  fr : X.env.frame = some X.env.locals
  ex : X.ex = []
theorem Inv.notMine (I : Inv X pins σ H s) (hB : Body X) {b : Addr} {o : Obj} (e : X.s₀.heap.get? b = some o) (hb : b ∉ frs X.outer) : b ∉ frs X.stack := by
  rw [hB.st, frs_cons hB.fr]
  intro hm
  rcases List.mem_cons.mp hm with z | z
  · exact absurd (Heap.lt_size e) (by rw [z]; exact Nat.not_lt.mpr I.ok.above)
  · exact hb z
theorem raise_leaves {e C : Addr} {args : List Value} {h' : Heap} {F : Value → Shared → Prop} (hB : Body X) (I : Inv X pins σ H s) (hm : Heap.MadeExcOf s.heap h' e (.ref C) args) (hE : H e = none → E (.ref C) (some e) H) :
    wpAny (model X.prog X.w) X.A (leaving X.env (.ref e)) (fun _ s'' => CXE X.prog X.w X.outer X.H₀ X.s₀ E (.ref e) s'') F { s with heap := h' } := by
  have hfr : X.A.frames = some (X.env :: X.outer) := by rw [← hB.st]; exact I.ok.frames
  have stk := I.stack
  have hl : s.heap.FunFrames (hideAll s.heap (frs X.stack)) (X.env :: X.outer) := by
    have := funFrames_hide stk in_frs
    rw [hB.st] at this ⊢; exact this
  have hne : ∀ b o, s.heap.get? b = some o → b ∉ frs X.stack → (hideAll s.heap (frs X.stack)).get? b = some o := fun b o q n => hideAll_get _ q n
  have htr : ∀ b u, H b = some u → ∃ o, s.heap.get? b = some o ∧ (hideAll s.heap (frs X.stack)).get? b = some o := fun b u q => by
    obtain ⟨o, eo⟩ := (I.hok b u q).obj
    exact ⟨o, eo, hne b o eo fun z => by rw [I.stkFree b z] at q; cases q⟩
  have hnx : ∀ b : Addr, b ∉ X.ex := fun b => by rw [hB.ex]; simp
  refine wpAny_leaves_madeW (base := hideAll s.heap (frs X.stack)) (h := s.heap) hfr hB.fr (fun b o q => of_hideAll _ q) hl hm fun h2 t fl _ _ sm => ?_
  have F0 : Fly X.prog X.w (hideAll s.heap (frs X.stack)) (frs X.outer) X.H₀ X.s₀.heap H s.heap := by
    refine ⟨?_, I.hok, fun b o q n => ?_, htr⟩
    · have u := I.base
      rw [hB.ex] at u
      exact u
    · obtain ⟨o', e'⟩ := I.base.there b o q (hnx b)
      refine ⟨o', hne b o' e' (I.notMine hB q n), fun z => ?_⟩
      have := I.base.keep b o q z n (hnx b)
      rw [e'] at this; exact Option.some.inj this
  have F1 := F0.on (h2 := h2) fl.1 fun b hb o q => by
    have hb' : b ∈ frs X.stack := by rw [hB.st, frs_cons hB.fr]; exact List.mem_cons_of_mem _ hb
    obtain ⟨_, o', e', d⟩ := stk.mem hb'
    rw [q] at e'; cases e'
    exact sm b o (hm.keeps b o q) d
  have he0 : H e = none := by
    cases q : H e with
    | none => rfl
    | some u =>
      obtain ⟨o, eo⟩ := (I.hok e u q).obj
      rw [hm.new] at eo; cases eo
  refine ⟨e, t, C, _, H, rfl, I.os, I.bare, F1, fl, ?_, he0, hE he0⟩
  · cases q : X.s₀.heap.get? e with
    | none => rfl
    | some o =>
      obtain ⟨o', e'⟩ := I.base.there e o q (hnx e)
      rw [hm.new] at e'; cases e'
theorem call_leaves {e : Value} {s' : Shared} {F : Value → Shared → Prop} (hB : Body X) (I : Inv X pins σ H s) (h : CXE X.prog X.w X.stack H s E e s') :
    wpAny (model X.prog X.w) X.A (leaving X.env e) (fun _ s'' => CXE X.prog X.w X.outer X.H₀ X.s₀ E e s'') F s' := by
  obtain ⟨ea, t, C, B, H', rfl, os, bare, fl, fy, new, nh, hE⟩ := h
  have hfr : X.A.frames = some (X.env :: X.outer) := by rw [← hB.st]; exact I.ok.frames
  have hnx : ∀ b : Addr, b ∉ X.ex := fun b => by rw [hB.ex]; simp
  rw [hB.st] at fy
  refine wpAny_leaves_onW hfr hB.fr fy fun h2 fy2 sm => ?_
  have sub : ∀ b, b ∈ frs X.outer → b ∈ frs X.stack := fun b hb => by rw [hB.st, frs_cons hB.fr]; exact List.mem_cons_of_mem _ hb
  have F0 : Fly X.prog X.w B (frs X.outer) X.H₀ X.s₀.heap H' s'.heap := by
    refine ⟨⟨fun b o q n hb _ => ?_, fun b o q n hb _ => ?_, fun b o q n _ => ?_, fun b o q _ => ?_, fun b xs q => fl.un.tups b xs (I.base.tups b xs q), fun b o u q => fl.un.frzs b o u (I.base.frzs b o u q), fun b ps q => ?_⟩, fl.hok, fun b o q n => ?_, fl.trk⟩
    · have e1 := I.base.keep b o q n hb (hnx b)
      exact fl.un.keep b o e1 (I.base.free b o q n (hnx b)) (I.notMine hB q hb) (by simp)
    · obtain ⟨s1, e1⟩ := I.base.slot b o q n hb (hnx b)
      obtain ⟨s2, e2⟩ := fl.un.slot b _ e1 (I.base.free b o q n (hnx b)) (sub b hb) (by simp)
      exact ⟨s2, e2⟩
    · obtain ⟨o', e'⟩ := I.base.there b o q (hnx b)
      exact fl.un.free b o' e' (I.base.free b o q n (hnx b)) (by simp)
    · obtain ⟨o', e'⟩ := I.base.there b o q (hnx b)
      exact fl.un.there b o' e' (by simp)
    · obtain ⟨m1, e1⟩ := I.base.tbls b ps q
      obtain ⟨m2, e2⟩ := fl.un.tbls b _ e1
      exact ⟨m1 ++ m2, by rw [e2, Array.append_assoc]⟩
    · obtain ⟨o', e'⟩ := I.base.there b o q (hnx b)
      obtain ⟨o2, e2, k⟩ := fl.old b o' e' (I.notMine hB q n)
      refine ⟨o2, e2, fun z => ?_⟩
      rw [k (I.base.free b o q z (hnx b))]
      have := I.base.keep b o q z n (hnx b)
      rw [e'] at this; exact Option.some.inj this
  have F1 := F0.on (h2 := h2) fy2.1 fun b hb o q => by
    obtain ⟨_, o', e', d⟩ := fy.2.2.1.mem (by rw [hB.st] at sub; exact sub b hb)
    rw [q] at e'; cases e'
    exact sm b o q d
  refine ⟨ea, t, C, B, H', rfl, os.trans I.os, bare, F1, fy2, ?_, nh, hE⟩
  cases q : X.s₀.heap.get? ea with
  | none => rfl
  | some o =>
    obtain ⟨o', e'⟩ := I.base.there ea o q (hnx ea)
    rw [new] at e'; cases e'
end
section
variable {P : Program} {w : World} {K : PySem.W.Frag} {mg : Str → Option Value} {base : Heap} {N : List Str} {qual : Str} {scope : Scope} {f : Addr} {cd : Value} {A : Around} {outer : List Env} {s : Shared} {H : Hp} {E : XK}
theorem body_cx {CX : CXT} : Body (cxOf CX P w K mg base N qual scope f cd A outer s H E) := ⟨rfl, rfl, rfl⟩
theorem passE : Passes (CXE P w) (cxOf (CXE P w) P w K mg base N qual scope f cd A outer s H E) E := fun _ _ _ _ _ _ I h => call_leaves body_cx I h
theorem Fun.okX {x : Str} {st : Stmt} {fd : FuncData} {ps : List Str} {k : Nat} {sp : Sp} (F : Fun K x qual st f fd) (S : FnScope N ps (defScope st)) (len : ∀ vs H Q E, sp vs H Q E → vs.length = ps.length)
    (hbody : ∀ (cdv : Value) (A : Around) (outer : List Env) (s : Shared) (H : Hp) (vs : List V) (Q : VK) (E : XK), Room k (A.deeper (envOfC qual (defScope st) s.heap.objs.size f cdv)) → sp vs H Q E →
      ∃ t, PSs (cxOf (CXE P w) P w K mg base N qual (defScope st) f cdv A outer s H E) (defBody st) t ∧ t { nx := fun _ H' => Q .non H', rt := Q } (start N vs) H) : FnOk P w K mg base (CXE P w) (k + 1) f fd ps sp := by
  obtain ⟨oc, od, kV, doc, pm, an, cdv, ct, osl, rfl, lk, hcd⟩ := F.ex
  exact fn_of lk hcd S len fun A outer s H vs Q E hr hsp => hbody cdv A outer s H vs Q E hr hsp
end
end L2
namespace L2
open PySem PySem.W PySem.Spec PySem.Calls PyProof.Rows
abbrev bmVE : List Value := [.type "ValueError", .type "Exception", .type "BaseException", .type "object"]
theorem exc_obj {K : Frag} {h : Heap} {C : Addr} (X : K.In h) (q : excIn K C bmVE "ValueError.__new__" = true) :
    ∃ bm N nm qn bs hdct sn sub ab col dd k0 k1 k2 k3 k5 mN, h.get? C = some (excClassObj nm qn C N bs bm hdct sn sub ab col dd k0 k1 k2 k3 k5 "ValueError.__new__") ∧ h.Ns N mN ∧ mN "__init__" = none ∧ OwnTail h bmVE bm := by
  unfold excIn at q
  split at q
  · rename_i d1 c1 s1 look
    split at q
    · rename_i C1 bm1 a0 a1 a2 a3 n1 a5 m1 l1
      simp only [Bool.and_eq_true, beq_iff_eq, Bool.not_eq_true'] at q
      obtain ⟨⟨⟨⟨⟨e1, e2⟩, e3⟩, e4⟩, e5⟩, e6⟩ := q
      subst e1 e2
      obtain ⟨nm, bs, mro, ns, qn, hd, sn, sub, ab, col, del⟩ := c1
      dsimp only at m1 e3 e5 e6
      subst m1 e3
      have es : s1 = #[a0, a1, a2, a3, some (.builtin "ValueError.__new__"), a5] := by cases s1; simp only at l1; rw [l1]
      subst es
      exact ⟨bm1, ns, nm, qn, bs, hd, sn, sub, ab, col, d1, a0, a1, a2, a3, a5, _, X _ _ look, Heap.Ns.of_isNs (isNs_of_in X e5), nsMap_none_of_in X e5 e6, tail_of_in X e4⟩
    · cases q
  · cases q
def tRaise (E : XK) (C : Addr) (ta : TA) : TS := fun _ σ H => ta σ H fun vs H1 => vs.length ≤ sizeLine ∧ ∀ e, H1 e = none → E (.ref C) (some e) H1
section
variable {X : Cx} {E : XK} {x : Str} {C : Addr} {np cpos pos : Pos} {e0 : Expr} {ta : TA}
theorem ps_raise (hB : Body X) (hc : X.calm = true) (hx : ∀ e s', wpAny (model X.prog X.w) X.A (leaving X.env e) (fun _ s'' => CXE X.prog X.w X.outer X.H₀ X.s₀ E e s'') (fun e s'' => CXE X.prog X.w X.outer X.H₀ X.s₀ E e s'') s' → X.xe e s')
    (hg : Gl X x) (hm : X.mg x = some (.ref C)) (hq : excIn X.K C bmVE "ValueError.__new__" = true) (ha : PA X [e0] ta) (he : starEach [e0] X.env = [(false, eval e0 X.env)] := by rfl) (hd : (x == ("__debug__" : Str)) = false := by decide) :
    PS X (.Raise (some (.Call (.Name x np) [e0] [] cpos)) none pos) (tRaise E C ta) := by
  intro pins s σ H D I h
  obtain ⟨bm, Nn, nm, qn, bs, hdct, sn, sub, ab, col, dd, k0, k1, k2, k3, k5, mN, hC, hN, hni, TL⟩ := exc_obj I.ok.mod.kin hq
  refine wpAny_Raise_call_subU (C := C) (nm := nm) (q := qn) (N := Nn) (bs := bs) (bm := bm) (hdct := hdct) (sn := sn) (sub := sub) (ab := ab) (col := col) (dd := dd) (k0 := k0) (k1 := k1) (k2 := k2) (k3 := k3) (k5 := k5) (mN := mN) (newId := "ValueError.__new__")
    PySem.F.excBase_ValueError PySem.F.excBase_ValueError.hasB PySem.F.excBase_ValueError (TL.hasType PySem.F.excBase_ValueError.hasBase) (I.ok.hd hc) (by rw [he]; rfl) hni ?_
  refine ld_glob I hg hm ⟨rfl, ?_⟩ hd
  have a := ha cpos pins s σ H _ I h
  rw [he] at a ⊢
  refine Calls.evalArgs_plain (wpAny_mono a (fun us s1 ⟨vs, H1, I1, r1, hz, q1⟩ => ?_) fun _ _ z => z)
  exact ⟨rfl, by show us.length ≤ _; rw [← r1.length]; exact hz, I1.bk _ _ hC, hN.keeps I1.bk, TL.keeps I1.bk, fun h' e mk => hx _ _ (raise_leaves hB I1 mk (q1 e))⟩
end
end L2
namespace L2
open PySem PySem.W PySem.Spec PySem.Calls PyProof.Rows
def XS (X : Cx) (pins : List (Addr × Obj)) (Ex : St → XK) (ev : Value) (s' : Shared) : Prop := ∃ σ H s, Inv X pins σ H s ∧ CXE X.prog X.w X.stack H s (Ex σ) ev s'
def PEx (X : Cx) (e : Expr) (t : St → Hp → VK → XK → Prop) : Prop :=
  ∀ (pins : List (Addr × Obj)) (s : Shared) (σ : St) (H : Hp) (Q : VK) (Ex : St → XK), Inv X pins σ H s → t σ H Q (Ex σ) → wpAny (model X.prog X.w) X.A (eval e X.env) (EP X pins σ Q) (XS X pins Ex) s
abbrev TX := Ends → (St → XK) → St → Hp → Prop
def PSx (X : Cx) (st : Stmt) (t : TX) : Prop :=
  ∀ (pins : List (Addr × Obj)) (s : Shared) (σ : St) (H : Hp) (D : Ends) (Ex : St → XK), Inv X pins σ H s → t D Ex σ H → wpAny (model X.prog X.w) X.A (exec st X.env) (SP X pins D) (XS X pins Ex) s
def PSxs (X : Cx) (sts : List Stmt) (t : TX) : Prop :=
  ∀ (pins : List (Addr × Obj)) (s : Shared) (σ : St) (H : Hp) (D : Ends) (Ex : St → XK), Inv X pins σ H s → t D Ex σ H → wpAny (model X.prog X.w) X.A (execs sts X.env) (SP X pins D) (XS X pins Ex) s
section
variable {X : Cx} {k : Nat} {f : Addr} {fd : FuncData} {ps : List Str} {sp : Sp} {dvs : List V} {ds : List Value} {x : Str} {p pos : Pos} {e : Expr} {es : List Expr} {t : TA}
def xCall (sp : Sp) (dvs : List V) (t : TA) : St → Hp → VK → XK → Prop := fun σ H Q Ex => t σ H fun vs H1 => sp (vs ++ dvs) H1 Q Ex
theorem xe_call (F : FnOk X.prog X.w X.K X.mg X.base (CXE X.prog X.w) k f fd ps sp) (hr : Room k X.A) (hg : Gl X x) (hm : X.mg x = some (.ref f)) (hk : PySem.W.keepIn X.K (.ref f) = true) (hb : Binds X.K fd ps ds) (hd : Vals dvs ds)
    (ha : PA X.nox (e :: es) t) (hdb : (x == ("__debug__" : Str)) = false := by decide) (he : starEach (e :: es) X.env = (false, eval e X.env) :: starEach es X.env := by rfl) (hpl : (backTo pos (starEach es X.env)).any (·.1) = false := by rfl) :
    PEx X (.Call (.Name x p) (e :: es) [] pos) (xCall sp dvs t) := by
  intro pins s σ H Q Ex I h
  refine wpAny_Call_Name_kw (ld_glob I hg hm ?_ hdb)
  refine PySem.W.callWith_K (h₀ := X.base) I.ok.mod.kin hk (wpAny_mono (ha pos pins s σ H _ (I.wish _) h) (fun us s1 ⟨vs, H1, I1, r, q⟩ => ?_) fun _ _ z => z.elim) he hpl
  have I1 := I1.unwish
  refine ⟨I1.kIn, ?_⟩
  have r2 : Vals (vs ++ dvs) (us ++ ds) := r.append hd
  have hl : (us ++ ds).length = ps.length := by rw [← r2.length]; exact F.len _ _ _ _ q
  refine wpAny_call (codeAny_mono (F.run X.A X.stack s1 H1 ⟨us, []⟩ (us ++ ds) (vs ++ dvs) Q (Ex σ) hr I1.env0 (hb s1 us I1.kIn hl) r2 q) fun rr s' hq => ?_)
  cases rr with
  | error ev => exact ⟨σ, H1, s1, I1, hq⟩
  | ok fl =>
    cases fl with
    | ret u => exact I1.after hq
    | next => exact False.elim hq
    | brk => exact False.elim hq
    | cont => exact False.elim hq
theorem xs_set {i : Nat} {te : St → Hp → VK → XK → Prop} {pos pos' : Pos} (hN : X.N.Nodup) (hi : X.N[i]? = some x) (hx : Loc X.env.scope x) (he : PEx X e te) (hs : swapsWith e (some (.Name x pos')) pos.line X.env = pure false := by rfl) (hf : X.fn x = true ∨ X.env.scope.names.lookup x = some .local := by first | exact .inl rfl | exact .inr rfl | assumption) :
    PSx X (.Assign [.Name x pos'] e pos) (fun D Ex σ H => te σ H (fun v H1 => D.nx (σ.set i (some v)) H1) (Ex σ)) := by
  intro pins s σ H D Ex I h
  refine wpAny_Assign_Name (wpAny_mono (he pins s σ H _ Ex I h) (fun v s1 ⟨y, H1, I1, r1, q1⟩ => ?_) fun _ _ z => z) hs
  exact store_ok I1 hN hi hx r1 (fun s2 I2 => ⟨_, H1, I2, q1⟩) hf
theorem xss_one {st : Stmt} {tx : TX} (h : PSx X st tx) : PSxs X [st] tx := by
  intro pins s σ H D Ex I hq
  refine wpAny_execs_cons (wpAny_mono (h pins s σ H D Ex I hq) (fun fl s1 q => ?_) fun _ _ z => z)
  cases fl with
  | next => exact wpAny_execs_nil q
  | ret v => exact q
  | brk => exact q
  | cont => exact q
end
section
variable {X : Cx} {pins : List (Addr × Obj)} {σ : St} {H : Hp} {s : Shared}
def supCx (X : Cx) (e : Addr) : Cx := { X with A := X.A.mark (some (.ref e)), calm := false, xe := fun _ _ => False }
theorem Inv.sup (I : Inv X pins σ H s) (e : Addr) : Inv (supCx X e) pins σ H s :=
  ⟨⟨I.ok.mod, I.ok.kind, I.ok.glob, I.ok.blt, I.ok.above, I.ok.inj, I.ok.has, I.ok.cab, fun z => (by cases z), I.ok.frames, I.ok.stk, I.ok.exf, I.ok.bs, I.ok.bsz, I.ok.noex, I.ok.exfs, I.ok.funs, I.ok.frf⟩, I.os, I.bare, I.base, I.loc, I.cell, I.free, I.freeC, I.pin, I.hok, I.len⟩
theorem Inv.unsup {e : Addr} (hc : X.calm = true → X.A.handled = none) (I : Inv (supCx X e) pins σ H s) : Inv X pins σ H s :=
  ⟨⟨I.ok.mod, I.ok.kind, I.ok.glob, I.ok.blt, I.ok.above, I.ok.inj, I.ok.has, I.ok.cab, hc, I.ok.frames, I.ok.stk, I.ok.exf, I.ok.bs, I.ok.bsz, I.ok.noex, I.ok.exfs, I.ok.funs, I.ok.frf⟩, I.os, I.bare, I.base, I.loc, I.cell, I.free, I.freeC, I.pin, I.hok, I.len⟩
theorem Inv.adopt' {a : Addr} {o : HO} (I : Inv X pins σ H s) (hn : H a = none) (hL : a ≠ X.env.locals) (h0 : X.s₀.heap.get? a = none) (hc : ∀ x c, X.env.cells.lookup x = some c → c ≠ a) (hp : ∀ p ∈ X.pn ++ pins, p.1 ≠ a)
    (new : ObjOk X.prog X.w (upd H a o) s.heap a o) : Inv X pins σ (upd H a o) s := by
  have ne : ∀ b u, H b = some u → b ≠ a := fun b u e => ne_of_none e hn
  refine ⟨I.ok, I.os, I.bare, ⟨I.base.keep, I.base.slot, fun b ob e n hx => ?_, I.base.there, fun b xs e => ?_, fun b ob xs e => ?_, fun b ps e => ?_⟩, I.loc, I.cell, ?_, fun x c e => ?_, fun p hq => ?_, fun b u e => ?_, I.len⟩
  · rw [upd_ne fun z => by rw [z, h0] at e; cases e]; exact I.base.free b ob e n hx
  · have := I.base.tups b xs e; rw [upd_ne (ne b _ this)]; exact this
  · have := I.base.frzs b ob xs e; rw [upd_ne (ne b _ this)]; exact this
  · obtain ⟨m, e1⟩ := I.base.tbls b ps e; exact ⟨m, by rw [upd_ne (ne b _ e1)]; exact e1⟩
  · rw [upd_ne hL.symm]; exact I.free
  · rw [upd_ne (hc x c e)]; exact I.freeC x c e
  · obtain ⟨e1, n, r⟩ := I.pin p hq; exact ⟨e1, by rw [upd_ne (hp p hq)]; exact n, r⟩
  · by_cases hb : b = a
    · subst hb; rw [upd_same] at e; cases e; exact new
    · rw [upd_ne hb] at e
      exact (I.hok b u e).stay (fun _ _ _ q => q) (fun c q => by rw [upd_ne (ne c _ q)]; exact q) fun c xs q => by rw [upd_ne (ne c _ q)]; exact q
theorem Inv.unname {i : Nat} {n : Str} {h' : Heap} {v : Option Value} {m : Str → Option Value} {t' : Nat} (I : Inv X pins σ H s) (hN : X.N.Nodup) (hi : X.N[i]? = some n) (hs : Heap.SameBut X.env.locals s.heap h') (hm : s.heap.Ns X.env.locals m)
    (hl : ∀ (j : Nat) (x : Str) (w : V), X.N[j]? = some x → σ[j]? = some (some w) → Vis X.env.scope x → ∃ u, RelV w u ∧ Look X.env s.heap m x u) (hn : h'.Ns X.env.locals (fun x => if x = n then v else m x)) : Inv X pins (σ.set i none) H { s with heap := h', toks := t' } := by
  have kp : ∀ b o, b ≠ X.env.locals → s.heap.get? b = some o → h'.get? b = some o := fun b o hb e => (hs.2 b hb).trans e
  have old : ∀ b o, X.s₀.heap.get? b = some o → b ≠ X.env.locals := fun b o e => Nat.ne_of_lt (Nat.lt_of_lt_of_le (Heap.lt_size e) I.ok.above)
  refine ⟨I.ok, I.os, I.bare, ⟨fun b o e n hb hx => kp b o (old b o e) (I.base.keep b o e n hb hx), fun b o e n hb hx => ?_, I.base.free, fun b o e hx => ?_, I.base.tups, I.base.frzs, I.base.tbls⟩, ⟨_, hn, fun j x w e1 e2 e3 => ?_⟩, fun x c e => ?_, I.free, I.freeC, fun p hp => ?_, fun b u e => ?_, by rw [List.length_set]; exact I.len⟩
  · obtain ⟨sl, e1⟩ := I.base.slot b o e n hb hx
    exact ⟨sl, kp b _ (old b o e) e1⟩
  · obtain ⟨o', e1⟩ := I.base.there b o e hx
    exact ⟨o', kp b _ (old b o e) e1⟩
  · by_cases hj : j = i
    · subst hj
      have hj' : j < σ.length := by
        have := (List.getElem?_eq_some_iff.mp e2).1
        rw [List.length_set] at this; exact this
      rw [List.getElem?_set_self hj'] at e2; cases e2
    · rw [List.getElem?_set_ne (Ne.symm hj)] at e2
      have hx : x ≠ n := fun z => by
        subst z
        obtain ⟨a1, a2⟩ := List.getElem?_eq_some_iff.mp e1
        obtain ⟨b1, b2⟩ := List.getElem?_eq_some_iff.mp hi
        exact hj ((List.getElem_inj hN).mp (a2.trans b2.symm))
      obtain ⟨u, r, l⟩ := hl j x w e1 e2 e3
      refine ⟨u, r, ?_⟩
      rcases l with ⟨k, z⟩ | ⟨k, c, ec, z⟩
      · exact .inl ⟨k, by dsimp only; rw [if_neg hx]; exact z⟩
      · refine .inr ⟨k, c, ec, ?_⟩
        obtain ⟨o, ho, hd⟩ := z
        exact ⟨o, kp c o (I.cne x c ec) ho, hd⟩
  · obtain ⟨w, o, ho, hd⟩ := I.cell x c e
    exact ⟨w, o, kp c o (I.cne x c e) ho, hd⟩
  · obtain ⟨e1, n1, l1, r⟩ := I.pin p hp
    exact ⟨kp _ _ l1 e1, n1, l1, r⟩
  · refine (I.hok b u e).stay (fun c w hc q => kp c w (fun z => ?_) q) (fun _ q => q) fun _ _ q => q
    rcases hc with y | y
    · rw [← y, z, I.free] at e; cases e
    · rw [z, I.free] at y; cases y
end
end L2
namespace L2
open PySem PySem.W PySem.Spec PySem.Calls PyProof.Rows
def xHand (K : PySem.W.Frag) (Bc : Value) (i : Nat) (th : TS) (D : Ends) : St → XK := fun σ cls oe H => ∃ C e, cls = .ref C ∧ oe = some e ∧ exmOne K (.ref C) Bc = some true ∧
  th { nx := fun σ' H' => D.nx (σ'.set i none) H', rt := D.rt, bk := fun σ' H' => D.bk (σ'.set i none) H', ct := fun σ' H' => D.ct (σ'.set i none) H' } (σ.set i (some (.ref e))) (upd H e (.ext (XAt e C)))
def tTry (K : PySem.W.Frag) (Bc : Value) (i : Nat) (tb : TX) (th : TS) : TS := fun D σ H => tb D (xHand K Bc i th D) σ H
section
variable {X : Cx} {body suite : List Stmt} {b0 : Stmt} {x n : Str} {Ba : Addr} {i : Nat} {tb : TX} {th : TS} {np hpos pos : Pos}
theorem ps_try (hB : Body X) (hc : X.calm = true) (hb : PSxs X body tb) (hg : Gl X x) (hm : X.mg x = some (.ref Ba)) (hN : X.N.Nodup) (hi : X.N[i]? = some n) (hlo : X.env.scope.names.lookup n = some .local)
    (hs : ∀ e : Addr, PSs (supCx X e) (b0 :: suite) th) (hd : (x == ("__debug__" : Str)) = false := by decide) :
    PS X (.Try body [.ExceptHandler (some (.Name x np)) (some n) (b0 :: suite) hpos] [] [] pos) (tTry X.K (.ref Ba) i tb th) := by
  intro pins s σ H D I h
  refine wpAny_Try_except (wpAny_mono (hb pins s σ H D _ I h) (fun fl s1 q => ?_) fun ev s1 q => ?_)
  · cases fl with
    | next => exact wpAny_execs_nil q
    | ret v => exact q
    | brk => exact q
    | cont => exact q
  obtain ⟨σ1, H1, s0, I1, ea, t, C, B, H', rfl, os, bare, fl, fy, new, nh, C', e', ec, ee, hx, ht⟩ := q
  cases ec
  cases ee
  have hfr : X.A.frames = some (X.env :: X.outer) := by rw [← hB.st]; exact I1.ok.frames
  have fy0 : Heap.FlyingW B (X.env :: X.outer) ea (.ref C) (.ref t) s1.heap := by rw [← hB.st]; exact fy
  refine wpAny_looks_onW hfr hB.fr fy0 fun h4 hd4 sm4 => ?_
  have fl4 := fl.on (h2 := h4) hd4.1 (slots_frames fy.2.2.1 sm4)
  refine wpAny_landsW hd4 fun h5 fy5 sm5 => ?_
  have fl5 := fl4.on (h2 := h5) fy5.1 (by rw [hB.st]; exact slots_frames hd4.2.2.1 sm5)
  have I5 : Inv X pins σ1 H' { s1 with heap := h5 } := I1.call' (s' := { s1 with heap := h5 }) (ch := []) os fl5.un fl5.hok bare (fun b z => nomatch z)
  have hxe : XAt ea C h5 := by obtain ⟨ob, h1, h2⟩ := fy5.there; exact ⟨ob, h1, h2⟩
  refine wpAny_handleBy_cons (codeAny_handlers_test ?_) (by intro q; cases q)
  refine ld_glob (X := supCx X ea) (I5.sup ea) hg hm ?_ hd
  refine (exm_one (K := X.K) I5.kIn (xat_ty hxe) hx).at ?_
  show codeAny _ _ _ _ _
  refine codeAny_handlers_suite_as ?_
  refine lands_againW fy5 fun h6 fy6 sm6 => ?_
  have fl6 := fl5.on (h2 := h6) fy6.1 (by rw [hB.st]; exact slots_frames fy5.2.2.1 sm6)
  have I6 : Inv X pins σ1 H' { s1 with heap := h6 } := I1.call' (s' := { s1 with heap := h6 }) (ch := []) os fl6.un fl6.hok bare (fun b z => nomatch z)
  have hxe6 : XAt ea C h6 := by obtain ⟨ob, h1, h2⟩ := fy6.there; exact ⟨ob, h1, h2⟩
  have newS : X.s₀.heap.get? ea = none := by
    cases q : X.s₀.heap.get? ea with
    | none => rfl
    | some o =>
      obtain ⟨o', e'⟩ := I1.base.there ea o q (by rw [hB.ex]; simp)
      rw [new] at e'; cases e'
  have I7 : Inv X pins σ1 (upd H' ea (.ext (XAt ea C))) { s1 with heap := h6 } := by
    refine I6.adopt' nh (fun z => ?_) newS (fun y c e z => ?_) (fun p hp z => ?_) ⟨hxe6, (by obtain ⟨o, h1, _⟩ := hxe6; exact ⟨o, h1⟩), fun g1 g2 p k => ?_⟩
    · obtain ⟨m, ⟨o, _, _, ho, _⟩, _⟩ := I1.loc
      rw [← z, new] at ho; cases ho
    · obtain ⟨v, o, ho, _⟩ := I1.cell y c e
      rw [z, new] at ho; cases ho
    · have ho := (I1.pin p hp).1
      rw [z, new] at ho; cases ho
    · obtain ⟨o, h1, h2⟩ := p
      exact ⟨o, k o h1, h2⟩
  refine store_ok (X := supCx X ea) (I7.sup ea) hN hi (.inl hlo) (v := .ref ea) rfl (fun s8 I8 => ?_) (.inr hlo)
  refine wpAny_mono (hs ea pins s8 _ _ _ I8 ht) (fun f s9 q => ?_) fun _ _ z => z.elim
  have out : ∀ {σ9 : St} {H9 : Hp} (J : Inv (supCx X ea) pins σ9 H9 s9) (Z : Shared → Prop), (∀ s10, Inv X pins (σ9.set i none) H9 s10 → Z s10) → wpAny (model X.prog X.w) X.A (do bindName X.env n .none; unbindBehindTheSuite X.env n hpos) (fun _ s10 => Z s10) X.xe s9 := fun {σ9 H9} J Z k => by
    have J' : Inv X pins σ9 H9 s9 := J.unsup fun hc => I1.ok.hd hc
    obtain ⟨m, hn, hl⟩ := id J'.loc
    exact wpAny_nameGoes_keeps hlo hn (by rw [J'.ok.kind]; rfl) fun h' v hn' hsb => k _ (J'.unname hN hi hsb hn hl hn')
  cases f with
  | next => obtain ⟨σ9, H9, J, q⟩ := q; exact out J _ fun s10 J10 => ⟨_, H9, J10, q⟩
  | brk => obtain ⟨σ9, H9, J, q⟩ := q; exact out J _ fun s10 J10 => ⟨_, H9, J10, q⟩
  | cont => obtain ⟨σ9, H9, J, q⟩ := q; exact out J _ fun s10 J10 => ⟨_, H9, J10, q⟩
  | ret u => obtain ⟨v, σ9, H9, J, r, q⟩ := q; exact out J _ fun s10 J10 => ⟨v, _, H9, J10, r, q⟩
def ClsV (c : V) (t : Value) : Prop := (∃ T, c = .ty T ∧ t = .type T) ∨ ∃ a, c = .ref a ∧ t = .ref a
theorem call_isinstX : CallR X (.builtin "isinstance") (fun xs H Q => ∃ (e D : Addr) (c : V) (t : Value) (b : Bool), xs = [.ref e, c] ∧ H e = some (.ext (XAt e D)) ∧ XCls X.K D ∧ ClsV c t ∧ PySem.W.kitOne X.K (.ref D) t = some b ∧ Q (.bl b) H) := by
  intro pins s σ H xs us Q I r h
  obtain ⟨e, D, c, t, b, rfl, he, hD, hc, hk, q⟩ := h
  obtain ⟨u, v, rfl, ru, rv⟩ := vals2 r
  cases ru
  have ev : v = t := by
    rcases hc with ⟨T, rfl, rfl⟩ | ⟨a, rfl, rfl⟩
    · exact rv
    · exact rv
  subst ev
  obtain ⟨hx, _, _⟩ := (show ObjOk X.prog X.w H s.heap e (.ext (XAt e D)) from I.hok e _ he)
  exact PySem.W.kia_one (kitx_exc hD) I.kIn hx hk (fun z => nomatch z) fun tk => ⟨.bl b, H, I.tok tk, rfl, q⟩
end
theorem boot_VE : bootBuiltins "ValueError" = some (.type "ValueError") := by kernel_rfl
theorem pe_cls {X : Cx} {x : Str} {C : Addr} {pos : Pos} (hg : Gl X x) (hm : X.mg x = some (.ref C)) (hd : (x == ("__debug__" : Str)) = false := by decide) : PE X (.Name x pos) (tC (.ref C)) := pe_glob (v := .ref C) hg hm rfl hd
structure ErrC (K : PySem.W.Frag) (mg : Str → Option Value) (x : Str) (C : Addr) : Prop where
  m : mg x = some (.ref C)
  q : excIn K C bmVE "ValueError.__new__" = true
  x : XCls K C
end L2
namespace L2
open PySem PySem.Spec PyProof.Rows
section
variable {X : Cx}
theorem Inv.turnedL {pins : List (Addr × Obj)} {σ : St} {H : Hp} {s : Shared} {h' : Heap} {t' : Nat} {ch : List Addr} (I : Inv X pins σ H s) (k : ∀ b o, b ∉ ch → s.heap.get? b = some o → h'.get? b = some o) (f : ∀ b ∈ ch, FpOk X pins H b) : Inv X pins σ H { s with heap := h', toks := t' } := by
  have nit : ∀ b u, H b = some u → b ∉ ch := fun b u e z => by rw [(f b z).1] at e; cases e
  refine I.step (g' := s.gens) (d' := s.drawn) (ch := ch) (fun b hb => ?_) (fun b o _ _ hc e _ => k b o hc e) (fun b o _ _ hc e _ => ⟨o.slots, k b o hc e⟩) (fun _ _ _ _ n => n)
    (fun b o hc e => ⟨o, k b o hc e⟩) (fun _ _ e => e) (fun _ _ _ e => e) (fun b ps e => ⟨#[], by rw [e]; simp⟩) (fun m hm => ?_) (fun b u e => ?_) I.bare
  · obtain ⟨f0, f1, f2, f3, f4, f5⟩ := f b hb
    exact ⟨f3, f1, f4, f5⟩
  · obtain ⟨o, es, ep, ho, r⟩ := hm
    exact ⟨o, es, ep, k _ o (fun z => (f _ z).2.1 rfl) ho, r⟩
  · refine (I.hok b u e).stay (fun c v hc q => k c v ?_ q) (fun _ q => q) fun _ _ q => q
    rcases hc with z | z
    · rw [z]; exact nit b u e
    · exact nit c _ z
end
end L2
namespace L2
open PySem PySem.Spec PyProof.Rows
section
variable {X : Cx}
def Ite (K : PySem.W.Frag) (l : Addr) (xs : List V) : It :=
  ⟨fun i H => SqL K H l xs ∧ i < xs.length, fun i H x H' => ∃ T a, x = .ref T ∧ H T = none ∧ xs[i]? = some a ∧ H' = upd H T (.tup [.int (i : Int), a]), fun i H => SqL K H l xs ∧ xs.length ≤ i⟩
def EnumAt (e it l : Addr) (i : Nat) (h : Heap) : Prop := (∃ old, IsEnum h e it i old) ∧ h.IsListIter it l i
theorem turn_enum {P : Program} {w : World} {K : PySem.W.Frag} {elts : List Expr} {kk : Nat} {tpos : Pos} {e it l : Addr} {xs : List V} (hei : e ≠ it) :
    Turn P w K (.Tuple elts kk tpos) (Ite K l xs) [e, it] e (EnumAt e it l) where
  mem := by simp
  obj := fun i h st b hb => by
    obtain ⟨⟨old, he⟩, ⟨o1, e1, c1, d1⟩⟩ := st
    simp at hb
    rcases hb with rfl | rfl
    · exact ⟨_, he, fun v z => by cases (show Data.fields _ = Data.cell v from z)⟩
    · exact ⟨o1, e1, fun v z => by rw [d1] at z; cases z⟩
  keep := fun i h h' st k => by
    obtain ⟨⟨old, he⟩, h1⟩ := st
    exact ⟨⟨old, k e (by simp) _ he⟩, h1.at fun o x => k it (by simp) o x⟩
  item := by
    intro X hP hw hK hc i pins s σ H E I hf st hg
    subst hP hw hK
    obtain ⟨⟨old, he⟩, h1⟩ := st
    obtain ⟨hq1, hi1⟩ := hg
    obtain ⟨its1, rv1, pl1, hz1⟩ := I.list hq1
    obtain ⟨u1, hu1, ru1⟩ := rv1.get (List.getElem?_eq_getElem hi1)
    refine wpAny_pyNext_enum_item he h1 pl1.isList (x := u1) (by simpa using hu1) hei fun h' a1 a2 a3 a4 hk => ?_
    have lt : ∀ {c o}, s.heap.get? c = some o → s.heap.objs.size ≠ c := fun e => Nat.ne_of_gt (Heap.lt_size e)
    refine ⟨.ref s.heap.objs.size, rfl, wpAny_letOwnedTupleGo_enum (s := { s with heap := h', toks := s.toks + 1 }) a1 fun h'' hz' hs' => ?_⟩
    have Tz : s.heap.objs.size ≠ e := lt he
    have I1 : Inv X pins σ H { s with heap := h'', toks := s.toks + 1 } := I.turnedL (ch := [e, it])
      (fun b o hb x => hs'.extBut b o (fun z => hb (by simp [z])) (hk b o (fun z => hb (by simp [z])) (fun z => hb (by simp [z])) x)) fun b hb => hf b hb
    obtain ⟨F0, F1, F2, F3, F4, F5⟩ := I.fpOk (H' := H) (Nat.le_refl _) (I.hok.fresh (Nat.le_refl _))
    have hT : IsTup h'' s.heap.objs.size #[.int (i : Int) s.toks, u1] := ⟨_, hs'.extBut _ _ Tz a3, rfl, _, rfl⟩
    have I2 : Inv X pins σ (upd H s.heap.objs.size (.tup [.int (i : Int), xs[i]])) { s with heap := h'', toks := s.toks + 1 } := I1.adopt F0 F1 I.sz F4 F5 (show ObjOk X.prog X.w _ h'' _ (.tup [.int (i : Int), xs[i]]) from ⟨by rw [sizeLine_eq]; simp, [.int (i : Int) s.toks, u1], .cons ⟨_, rfl⟩ (.cons ru1 .nil), hT⟩)
    refine ⟨.ref s.heap.objs.size, _, I2, rfl, ⟨_, _, rfl, F0, List.getElem?_eq_getElem hi1, rfl⟩, ?_, fun b hb => ?_⟩
    · exact ⟨⟨_, by simpa using hz'⟩, a2.extBut hs'.extBut hei.symm⟩
    · rw [upd_ne]
      · exact (hf b hb).1
      · simp at hb
        obtain ⟨o1, e1, _⟩ := h1
        rcases hb with rfl | rfl
        · exact (lt he).symm
        · exact (lt e1).symm
  done := by
    intro X hP hw hK hc i pins s σ H E I hf st hg
    subst hP hw hK
    obtain ⟨⟨old, he⟩, h1⟩ := st
    obtain ⟨hq1, hend⟩ := hg
    obtain ⟨its1, rv1, pl1, hz1⟩ := I.list hq1
    have e1 := rv1.length
    exact wpAny_pyNext_enum_end (I.ok.hd hc) he h1 pl1.isList (by simp; omega) fun h' hk => ⟨rfl, I.turnedL (t' := s.toks) (ch := [e, it])
      (fun b o hb x => hk b o (fun z => hb (by simp [z])) x) fun b hb => hf b hb⟩
  self := fun _ _ _ _ _ st h => by
    obtain ⟨⟨old, he⟩, _⟩ := st
    exact wpAny_pyIter_enum he h
def iEnum (K : PySem.W.Frag) (ta : TA) : TI := fun σ H R => ta σ H fun vs H1 => ∃ l xs, vs = [.ref l] ∧ SqL K H1 l xs ∧ R (Ite K l xs) H1
theorem pi_enum {elts : List Expr} {kk : Nat} {tpos : Pos} {a : Expr} {ta : TA} {p pos : Pos} (hg : Gl X "enumerate") (hm : X.mg "enumerate" = none) (ha : PA X [a] ta) (hs : starEach [a] X.env = [(false, eval a X.env)] := by rfl) :
    PI X (.Tuple elts kk tpos) (.Call (.Name "enumerate" p) [a] [] pos) (iEnum X.K ta) := by
  intro pins s σ H R I h
  refine Call_ (ld_blt I hg hm boot_enumerate (PyProof.Rows.callWith_type1 (thn (ha pos pins s σ H _ I h) fun us s1 ⟨vs, H1, I1, r1, q1⟩ => ?_) hs rfl))
  obtain ⟨l1, xs, e, hq1, q⟩ := q1
  subst e
  obtain ⟨u, rfl, ru⟩ := vals1 r1
  cases ru
  obtain ⟨its1, rv1, pl1, hz1⟩ := I1.list hq1
  refine call_enumerate_list pl1.isList fun h' a1 a2 a3 hk => ?_
  refine wpAny_pyIter_enum a1 ?_
  refine ⟨_, _, _, _, H1, rfl, I1.kept (t' := s1.toks) hk, turn_enum (l := l1) (xs := xs) (it := s1.heap.objs.size) (Nat.succ_ne_self _), ⟨⟨_, a1⟩, a2⟩, fun b hb => ?_, q⟩
  have hb' : s1.heap.objs.size ≤ b := by
    simp at hb
    rcases hb with rfl | rfl <;> simp
  exact I1.fpOk hb' (I1.hok.fresh hb')
theorem for_enum {K : PySem.W.Frag} {l : Addr} {xs : List V} {g : TG} {tb : TS} {D : Ends} {σ : St} {H : Hp} (Pv : Nat → St → Hp → Prop) (h0 : Pv 0 σ H) (hl : ∀ i σ H, i ≤ xs.length → Pv i σ H → SqL K H l xs)
    (hs : ∀ i a T σ H, xs[i]? = some a → Pv i σ H → H T = none → g (.ref T) σ (upd H T (.tup [.int (i : Int), a])) fun σ2 H2 => tb { D with nx := Pv (i + 1), ct := Pv (i + 1), bk := D.nx } σ2 H2) (hd : ∀ σ H, Pv xs.length σ H → D.nx σ H) :
    ∃ W : Nat → Nat → St → Hp → Prop, (∃ m, W 0 m σ H) ∧ ∀ i m σ H, W i m σ H →
      ((Ite K l xs).stop i H ∧ D.nx σ H) ∨ ((Ite K l xs).go i H ∧ ∃ N : St → Hp → Prop, (∀ σ' H', N σ' H' → ∃ m', m' < m ∧ W (i + 1) m' σ' H') ∧ ∀ x H', (Ite K l xs).yld i H x H' → g x σ H' fun σ2 H2 => tb { D with nx := N, ct := N, bk := D.nx } σ2 H2) := by
  refine ⟨fun i m σ H => m = xs.length - i ∧ i ≤ xs.length ∧ Pv i σ H, ⟨xs.length, by simp, Nat.zero_le _, h0⟩, ?_⟩
  rintro i m σ H ⟨rfl, hi, p⟩
  have q1 := hl i σ H hi p
  by_cases hlt : i < xs.length
  · refine .inr ⟨⟨q1, hlt⟩, Pv (i + 1), fun σ' H' p' => ⟨xs.length - (i + 1), by omega, rfl, hlt, p'⟩, fun x H' y => ?_⟩
    obtain ⟨T, a, rfl, hT, ha, rfl⟩ := y
    exact hs i a T σ _ ha p hT
  · have e : i = xs.length := by omega
    subst e
    exact .inl ⟨⟨q1, Nat.le_refl _⟩, hd σ H p⟩
end
end L2
namespace L2
open PySem PySem.Spec PyProof.Rows
structure Iv (P : Prop) : Prop where
  t : True
  p : P
theorem ifT {c : Bool} {A B : Prop} (h : c = true) (a : A) : if c = true then A else B := by rw [if_pos h]; exact a
theorem ifF {c : Bool} {A B : Prop} (h : c = false) (b : B) : if c = true then A else B := by rw [if_neg (by rw [h]; exact Bool.false_ne_true)]; exact b
theorem ifB {c : Bool} {A B : Prop} (h1 : c = true → A) (h2 : c = false → B) : if c = true then A else B := by
  cases c with
  | true => exact ifT rfl (h1 rfl)
  | false => exact ifF rfl (h2 rfl)
theorem deq_int (x y : Int) : decide (V.int x = V.int y) = decide (x = y) := by
  by_cases h : x = y
  · simp [h]
  · have : ¬ V.int x = V.int y := fun e => h (by cases e; rfl)
    simp [h, this]
theorem ints_atZ {ns : List Int} {i : Int} (h0 : 0 ≤ i) (h1 : i < (ns.length : Int)) : atI (ns.map V.int) i = some (V.int (ns.getD i.toNat 0)) := by
  refine ints_atI h0 ?_
  rw [List.getD_eq_getElem?_getD, List.getElem?_eq_getElem (by omega)]; rfl
theorem getD_mem' {ns : List Int} {k : Nat} (h : k < ns.length) : ns.getD k 0 ∈ ns := by
  rw [List.getD_eq_getElem?_getD, List.getElem?_eq_getElem h]; exact List.getElem_mem h
theorem getD_get? {ns : List Int} {k : Nat} (h : k < ns.length) : ns[k]? = some (ns.getD k 0) := by
  rw [List.getD_eq_getElem?_getD, List.getElem?_eq_getElem h]; rfl
theorem ixN_Z {n : Nat} {i : Int} (h0 : 0 ≤ i) (h1 : i < (n : Int)) : ixN n i = some i.toNat := by
  unfold ixN; rw [if_pos h0, if_pos h1]
theorem Dens.mo {T : Tabs} {K : PySem.W.Frag} {H H' : Hp} {vs : List V} {ds : List PyData} (h : Dens K H vs ds) (e : SameT T H H') : Dens K H' vs ds := Dens.monoT e h
theorem SqL.mo {T : Tabs} {K : PySem.W.Frag} {H H' : Hp} {a : Addr} {xs : List V} (h : SqL K H a xs) (e : SameT T H H') : SqL K H' a xs := e.seq h
theorem SqT.mo {T : Tabs} {K : PySem.W.Frag} {H H' : Hp} {a : Addr} {xs : List V} (h : SqT K H a xs) (e : SameT T H H') : SqT K H' a xs := e.seqT h
section
variable {T : Tabs} {H0 H1 H H' : Hp} {L L' : List (Addr × HO)} {a l p : Addr} {o o' : HO} {xs : List V} {K : PySem.W.Frag}
theorem Ow.frz (O : Ow T H0 H ((p, o) :: L)) : ∃ Hn, Ow T Hn H L ∧ SameT T H0 Hn ∧ Hn p = some o := by
  obtain ⟨Hn, On, sn, kn⟩ := O.tail.reb
  refine ⟨Hn, On, sn, kn p o (O.get 0) fun q hq z => ?_⟩
  have nd := O.nd
  rw [List.map_cons, List.nodup_cons] at nd
  exact nd.1 (List.mem_map.mpr ⟨q, hq, z⟩)
end
def dTup (ns : List Int) : PyData := .tuple (ns.map PyData.int)
section
variable {K : PySem.W.Frag} {H : Hp} {v : V} {a : Addr} {ns : List Int} {rs : List (List Int)}
theorem Den.tup (h : SqT K H a (ns.map V.int)) : Den K H (.ref a) (dTup ns) := .tuple h (Dens.ints ns)
theorem Den.tup_inv (h : Den K H v (dTup ns)) : ∃ a, v = .ref a ∧ SqT K H a (ns.map V.int) := by
  cases h with
  | tuple h hs => exact ⟨_, rfl, by rw [← Dens.int_inv hs]; exact h⟩
theorem Sh.tup (n : Nat) (ns : List Int) : Sh (n + 1) (dTup ns) := .tuple fun d hd => by
  obtain ⟨i, _, rfl⟩ := List.mem_map.mp hd
  exact .int n i
end
end L2
namespace L2
open PySem PySem.Spec PyProof.Rows
section
variable {A B : Prop}
theorem ifD {p : Prop} [Decidable p] (h1 : p → A) (h2 : ¬ p → B) : if decide p = true then A else B := ifB (fun h => h1 (of_decide_eq_true h)) fun h => h2 (of_decide_eq_false h)
theorem ifI {x y : Int} (h1 : x = y → A) (h2 : ¬ x = y → B) : if decide (V.int x = V.int y) = true then A else B := by rw [deq_int]; exact ifD h1 h2
theorem ifN {c : Bool} (h : if c = true then B else A) : if (!c) = true then A else B := by cases c <;> simpa using h
end
structure Lic where
  day : Int
  start : Int
  back : Int
  most : Int
def dLic (l : Lic) : PyData := dTup [l.day, l.start, l.back, l.most]
def dRoll (ls : List Lic) : PyData := .list (ls.map dLic)
abbrev vLic (l : Lic) : List V := [.int l.day, .int l.start, .int l.back, .int l.most]
section
variable {K : PySem.W.Frag} {H : Hp} {v : V} {a : Addr} {ls : List Lic} {l : Lic} {xs : List V} {k : Nat}
theorem Den.lic (h : SqT K H a (vLic l)) : Den K H (.ref a) (dLic l) := Den.tup (ns := [l.day, l.start, l.back, l.most]) h
theorem Den.lic_inv (h : Den K H v (dLic l)) : ∃ a, v = .ref a ∧ SqT K H a (vLic l) := h.tup_inv
theorem Dens.lic_at (h : Dens K H xs (ls.map dLic)) (hk : ls[k]? = some l) : ∃ a, xs[k]? = some (.ref a) ∧ SqT K H a (vLic l) := by
  obtain ⟨v, h1, h2⟩ := h.get (i := k) (d := dLic l) (by rw [List.getElem?_map, hk]; rfl)
  obtain ⟨a, rfl, hT⟩ := h2.lic_inv
  exact ⟨a, h1, hT⟩
theorem Sh.lic (n : Nat) (l : Lic) : Sh (n + 1) (dLic l) := Sh.tup n _
theorem Sh.roll (n : Nat) (ls : List Lic) : Sh (n + 2) (dRoll ls) := .list fun d hd => by
  obtain ⟨i, _, rfl⟩ := List.mem_map.mp hd
  exact .lic n i
end
theorem cut_nat (xs : List V) (i j : Nat) : cutV xs (some (i : Int)) (some (j : Int)) = (xs.drop i).take (j - i) := by
  unfold cutV
  rw [HT.sIx_nat, HT.sIx_nat]
  refine List.ext_getElem? fun k => ?_
  simp only [List.getElem?_take, List.getElem?_drop]
  by_cases h1 : k < j - i
  · rw [if_pos h1]
    by_cases h2 : i + k < xs.length
    · rw [if_pos (by omega), show min i xs.length = i by omega]
    · rw [List.getElem?_eq_none (l := xs) (i := i + k) (by omega)]
      split
      · exact List.getElem?_eq_none (by omega)
      · rfl
  · rw [if_neg h1]
    split
    · rename_i h3
      omega
    · rfl
theorem cut_ns (ns : List Int) (i j : Nat) : cutV (ns.map V.int) (some (i : Int)) (some (j : Int)) = ((ns.drop i).take (j - i)).map V.int := by
  rw [cut_nat, List.map_take, List.map_drop]
end L2
namespace L2
open PySem PySem.Spec PyProof.Rows
end L2
namespace L2
open PySem PySem.Spec PyProof.Rows
end L2
namespace L2
open PySem PySem.Spec PyProof.Rows
end L2
namespace L2
open PySem PySem.Spec PyProof.Rows
theorem erase_perm {α : Type} : ∀ {L : List α} {k : Nat} {p : α}, L[k]? = some p → (p :: L.eraseIdx k).Perm L
  | [], _, _, h => by simp at h
  | a :: L, 0, p, h => by
    have e : a = p := by simpa using h
    subst e; exact List.Perm.refl _
  | a :: L, k + 1, p, h => by
    have h' : L[k]? = some p := by simpa using h
    rw [List.eraseIdx_cons_succ]
    exact (List.Perm.swap a p _).trans ((erase_perm h').cons a)
section
variable {T : Tabs} {H0 H : Hp} {L : List (Addr × HO)} {p : Addr} {o : HO}
theorem Ow.pull (O : Ow T H0 H L) (k : Nat) (h : L[k]? = some (p, o) := by rfl) : Ow T H0 H ((p, o) :: L.eraseIdx k) := O.perm (erase_perm h)
theorem Ow.del (O : Ow T H0 H L) (k : Nat) : Ow T H0 H (L.eraseIdx k) := O.sub (List.eraseIdx_sublist L k)
end
theorem map_snoc (ns : List Int) (z : Int) : ns.map V.int ++ [V.int z] = (ns ++ [z]).map V.int := by rw [List.map_append]; rfl
end L2
namespace L2
open PySem PySem.Spec PyProof.Rows
end L2
namespace L2
open PySem PySem.Spec PyProof.Rows
end L2
namespace L2
open PySem PySem.W PySem.Spec PyProof.Rows
section
variable {prog : Program} {w : World} {A : Around} {E : Value → Shared → Prop} {s : Shared}
end
section
variable {X : Cx}
end
section
variable {prog : Program} {w : World} {A : Around} {R : Result → Shared → Prop} {I : Addr} {fp wr : List Addr} {n : Nat} {P : Nat → Value → Prop} {St : Nat → Heap → Prop}
end
section
variable {X : Cx}
end
end L2
namespace L2
open PySem PySem.Spec PyProof.Rows
section
variable {κ : Type} [DecidableEq κ]
end
abbrev KT (H : Hp) : List (List Key × V) → List (List Key × Addr × Value) → Prop := Paired fun p q => p.1 = q.1 ∧ H q.2.1 = some (.tup (p.1.map kV)) ∧ RelV p.2 q.2.2
section
variable {P : Program} {w : World} {H : Hp} {h : Heap} {a : Addr}
end
section
variable {X : Cx} {pins : List (Addr × Obj)} {σ : St} {H : Hp} {s : Shared} {a : Addr} {y v : V} {u r : Value} {o : Option V} {A : Around} {E : Value → Shared → Prop}
end
section
variable {X : Cx} {pins : List (Addr × Obj)} {σ : St} {H : Hp} {s : Shared} {a : Addr} {kvs : List (Key × V)} {k : Key} {u : Value} {A : Around} {E : Value → Shared → Prop}
end
section
variable {X : Cx} {o i e value : Expr} {pos pos' tpos : Pos} {td ty tv : TE}
end
section
variable {X : Cx} {pos : Pos}
end
abbrev VV : List (V × V) → List (Value × Value) → Prop := Paired fun p q => RelV p.1 q.1 ∧ RelV p.2 q.2
section
variable {X : Cx} {pins : List (Addr × Obj)} {σ : St} {H : Hp} {s : Shared} {a : Addr} {y d : V} {u r : Value} {o : Option V} {A : Around} {E : Value → Shared → Prop}
end
section
variable {X : Cx} {o e f : Expr} {apos cpos : Pos} {td ty tx : TE}
end
end L2
namespace L2
open PySem PySem.W PySem.Spec PyProof.Rows
section
variable {X : Cx} {o e f : Expr} {apos cpos : Pos} {td ty tx : TE}
end
section
variable {X : Cx} {o : Expr} {td : TE} {p1 apos cpos pos : Pos}
end
end L2
namespace L2
open PySem PySem.W PySem.Spec PyProof.Rows
section
variable {prog : Program} {w : World} {A : Around} {E : Value → Shared → Prop} {s : Shared}
def mid (h : Heap) (D : Addr) (vs : List Value) : Heap := ((h.update D (Obj.mapSeq fun _ => (#[] : Array Value))).push (seqObj "tuple" vs.toArray 0)).push (seqObj "list" #[] 0)
theorem mid_keep {h : Heap} {D b : Addr} {vs : List Value} {o : Obj} (hb : h.get? b = some o) (hn : b ≠ D) : (mid h D vs).get? b = some o :=
  Heap.get?_push_of_some _ (Heap.get?_push_of_some _ ((Heap.get?_update_other _ _ (Ne.symm hn)).trans hb))
theorem sort_tups {D : Addr} {n0 m : Nat} {vs : List Value} {key : Nat → List Int} {κ : Nat → Int} {P : PySem.Fin → Shared → Prop} (h64 : vs.length < 64) (hD : s.heap.get? D = some (seqObj "list" vs.toArray n0)) (KK : Keys s.heap vs key vs.length m)
    (hκ : ∀ i j, i < vs.length → j < vs.length → HT.lexLt (key i) (key j) = decide (κ i < κ j)) (hinj : Inj vs.length κ)
    (q : ∀ p : List Nat, p.Perm (List.range vs.length) → p.Pairwise (fun i j => κ i < κ j) → P (.done (.ret .none)) { s with heap := sortedHeap s.heap D vs (p.map fun i => vs.getD i Value.none).toArray }) :
    wpAny (model prog w) A (Builtin.«list.sort» ⟨[.ref D], []⟩) P E s := by
  obtain ⟨e1, h1⟩ : ∃ e1, (s.heap.update D (Obj.mapSeq fun _ => (#[] : Array Value))).get? D = some (seqObj "list" #[] e1) := ⟨_, get?_update_seq hD fun _ => #[]⟩
  have h3 : (mid s.heap D vs).get? D = some (seqObj "list" #[] e1) := Heap.get?_push_of_some _ (Heap.get?_push_of_some _ h1)
  have K3 : Keys (mid s.heap D vs) vs key vs.length m := by
    refine ⟨KK.size, fun i hi => ?_, KK.long⟩
    obtain ⟨t, its, e, ⟨o, ho, hc, n, hd⟩, i1⟩ := KK.at_ i hi
    have hne : t ≠ D := fun z => by
      rw [z, hD] at ho
      have := congrArg Obj.cls (Option.some.inj ho)
      rw [hc] at this
      exact absurd (show Value.type "list" = Value.type "tuple" from this) (by decide)
    exact ⟨t, its, e, ⟨o, mid_keep ho hne, hc, n, hd⟩, i1⟩
  have fin : ∀ (st : SortSt) (p : List Nat), (arrOf st).map (·.2) = List.toArray (p.map fun i => vs.getD i Value.none) → p.Perm (List.range vs.length) → p.Pairwise (fun i j => κ i < κ j) →
      P (.done (.ret .none)) { s with heap := (mid s.heap D vs).update D (Obj.mapSeq fun _ => (arrOf st).map (·.2)) } := by
    intro st p e a b
    rw [e]; exact q p a b
  rw [list_sort_plain]
  refine wpAny_bind (listItems_at hD rfl ?_)
  refine wpAny_bind (listUpdate_at hD rfl ?_ (by rw [List.size_toArray, sizeLine_eq]; omega) (Nat.zero_le _))
  refine wpAny_bind (seqEpoch_at h1 rfl ?_)
  refine wpAny_bind (wpAny_newTuple ?_ (by show vs.length ≤ _; rw [sizeLine_eq]; omega))
  refine wpAny_bind (wpAny_newList ?_ (Nat.zero_le _))
  refine wpAny_holding ?_
  show wpAny (model prog w) A _ P E { s with heap := mid s.heap D vs }
  dsimp only
  by_cases h2 : vs.length < 2
  · have z2 : vs.toArray.size < 2 := by rw [List.size_toArray]; omega
    rw [if_pos z2, if_pos z2]
    refine wpAny_bind (wpAny_pure ?_)
    rw [StateT.run_pure]
    refine wpAny_bind (wpAny_pure ?_)
    dsimp only
    refine wpAny_bind (seqEpoch_at h3 rfl ?_)
    refine wpAny_bind (listUpdate_at h3 rfl ?_ (Nat.zero_le _) (by rw [Array.size_map]; show (vs.toArray.zip vs.toArray).size ≤ _; rw [Array.size_zip, List.size_toArray, sizeLine_eq]; omega))
    simp only [Bool.false_eq_true, bne_self_eq_false, if_false]
    refine wpAny_pure (fin (SortSt.mk' general' (vs.toArray.zip vs.toArray) #[] 7 none) (List.range vs.length) ?_ (List.Perm.refl _) ?_)
    · show (vs.toArray.zip vs.toArray).map (·.2) = _
      apply Array.toList_inj.mp
      rw [Array.toList_map, Array.toList_zip, List.toList_toArray, List.map_snd_zip (Nat.le_refl _)]
      apply List.ext_getElem?
      intro j
      rw [List.getElem?_map]
      by_cases hj : j < vs.length
      · rw [List.getElem?_range hj]
        show _ = some (vs.getD j Value.none)
        rw [List.getD_eq_getElem?_getD, List.getElem?_eq_getElem hj]; rfl
      · rw [List.getElem?_eq_none (by omega), List.getElem?_eq_none (by rw [List.length_range]; omega)]; rfl
    · match hx : vs.length, h2 with
      | 0, _ => exact List.Pairwise.nil
      | 1, _ => exact List.pairwise_singleton _ _
  · have z2 : ¬ vs.toArray.size < 2 := by rw [List.size_toArray]; omega
    rw [if_neg z2, if_neg z2]
    obtain ⟨fs, kt, kl, kv⟩ := K3.tups (s := { s with heap := mid s.heap D vs })
    refine wpAny_bind (kat_kind kt (by omega) (fun v hv => by obtain ⟨a, t, rfl⟩ := kv v hv; exact Looks.of_pure rfl) (T := .type "int") (by decide) ?_)
    have ett : (Value.type "int" != Value.type "tuple") = true := by decide
    rw [ett]
    have run := kat_run (prog := prog) (w := w) (A := A) (E := E) (s := { s with heap := mid s.heap D vs }) (κ := tuples' true) (ks := vs) (vs := vs)
      (Q := fun st' s' => s' = { s with heap := mid s.heap D vs } ∧ ∃ p : Array Nat, arrOf st' = p.map (kas_item (vs.toArray.zip vs.toArray)) ∧ failedOf st' = none ∧ Arr vs.length p ∧ Srt κ p vs.length)
      (G := fun p s' => s' = { s with heap := mid s.heap D vs } ∧ Arr vs.length p ∧ Srt κ p vs.length) rfl (by omega) (by omega) (fun p st' s' _ b c ⟨d, a1, a2⟩ => ⟨d, p, b, c, a1, a2⟩)
      (tree_sort (N := vs.length) (Keys.cmp (s := { s with heap := mid s.heap D vs }) (prog := prog) (w := w) (A := A) K3 hκ) hinj (by omega) (Q := fun p s' => s' = { s with heap := mid s.heap D vs } ∧ Arr vs.length p ∧ Srt κ p vs.length) rfl fun p s' a b c => ⟨c, a, b⟩)
    refine wpAny_bind (wpAny_mono run ?_ fun _ _ x => x)
    rintro ⟨⟨⟩, st'⟩ s5 ⟨rfl, p, har, hf, AR, SR⟩
    dsimp only
    have hout := kat_snds rfl har
    refine wpAny_bind (seqEpoch_at h3 rfl ?_)
    refine wpAny_bind (listUpdate_at h3 rfl ?_ (Nat.zero_le _) (by show ((arrOf st').map (·.2)).size ≤ _; rw [hout, List.size_toArray, List.length_map, Array.length_toList, AR.size, sizeLine_eq]; omega))
    rw [hf]
    simp only [Bool.false_eq_true, bne_self_eq_false, if_false]
    obtain ⟨p2, e1, _, e3⟩ := sorted_of (xs := vs.map fun _ => V.non) (κ := κ) (p := p) (by rw [List.length_map]; exact AR) (by rw [List.length_map]; exact SR)
    refine wpAny_pure (fin st' p.toList hout AR.perm ?_)
    rw [List.pairwise_iff_getElem]
    intro i j hi hj hij
    have hj' : j < vs.length := by rw [Array.length_toList, AR.size] at hj; exact hj
    have g1 := AR.get (show i < vs.length by omega)
    have g2 := AR.get hj'
    rw [List.getElem?_eq_getElem hi] at g1
    rw [List.getElem?_eq_getElem hj] at g2
    rw [Option.some.inj g1, Option.some.inj g2]
    exact SR i j hij hj'
theorem sorted_tups {l : Addr} {m : Nat} {vs : List Value} {key : Nat → List Int} {κ : Nat → Int} {Q : Value → Shared → Prop} (hl : s.heap.IsList l vs.toArray) (h64 : vs.length < 64) (KK : Keys s.heap vs key vs.length m)
    (hκ : ∀ i j, i < vs.length → j < vs.length → HT.lexLt (key i) (key j) = decide (κ i < κ j)) (hinj : Inj vs.length κ)
    (q : ∀ p : List Nat, p.Perm (List.range vs.length) → p.Pairwise (fun i j => κ i < κ j) → Q (.ref (s.heap.objs.size + 1)) { s with heap := sortedAll s.heap vs (p.map fun i => vs.getD i Value.none).toArray }) :
    wpAny (model prog w) A (call (.builtin "sorted") [.ref l]) Q E s := by
  refine Calls.call_function_entry kind_sorted plain_sorted entry_sorted (args_sorted1 _) ?_
  unfold Builtin.«sorted»
  refine wpAny_bind (m := checkCount "sorted" 1 1 _) (wpAny_pure ?_)
  refine wpAny_bind (collect_list hl ?_ (by rw [sizeLine_eq]; omega))
  refine wpAny_bind (wpAny_newList ?_ (by rw [sizeLine_eq]; omega))
  have hz : ((s.heap.push (seqObj "list" #[] 0)).update s.heap.objs.size (Obj.mapSeq (· ++ vs.toArray))).objs.size = s.heap.objs.size + 1 := by rw [Heap.size_update, size_push']
  have hL : (((s.heap.push (seqObj "list" #[] 0)).update s.heap.objs.size (Obj.mapSeq (· ++ vs.toArray))).push (seqObj "list" vs.toArray 0)).get? (s.heap.objs.size + 1) = some (seqObj "list" vs.toArray 0) := by rw [← hz]; exact Heap.get?_push_size _ rfl
  have kp : ∀ b o, s.heap.get? b = some o → (((s.heap.push (seqObj "list" #[] 0)).update s.heap.objs.size (Obj.mapSeq (· ++ vs.toArray))).push (seqObj "list" vs.toArray 0)).get? b = some o := fun b o z => by
    have hlt : b < s.heap.objs.size := Heap.lt_size z
    exact Heap.get?_push_of_some _ ((Heap.get?_update_other _ _ (Ne.symm (Nat.ne_of_lt hlt))).trans (Heap.get?_push_of_some _ z))
  show wpAny _ _ _ _ _ { s with heap := ((s.heap.push (seqObj "list" #[] 0)).update s.heap.objs.size (Obj.mapSeq (· ++ vs.toArray))).push (seqObj "list" vs.toArray 0) }
  rw [hz]
  refine wpAny_bind (wpAny_holding (wpAny_call_entry slot_list_sort ⟨_, hL, rfl⟩ entry_list_sort (sort_tups h64 hL ⟨KK.size, fun i hi => ?_, KK.long⟩ hκ hinj fun p a b => ⟨_, rfl, ?_⟩) (args_list_sort _)))
  · obtain ⟨t, its, e, ⟨o, ho, hc, n, hd⟩, i1⟩ := KK.at_ i hi
    exact ⟨t, its, e, ⟨o, kp _ _ ho, hc, n, hd⟩, i1⟩
  · exact wpAny_pure ⟨_, rfl, q p a b⟩
end
section
variable {X : Cx}
def dPr (z : Int × Int) : PyData := dTup [z.1, z.2]
theorem lex2 (a b c d : Int) (hb : 0 ≤ b ∧ b < 64) (hd : 0 ≤ d ∧ d < 64) : HT.lexLt [a, b] [c, d] = decide (a * 64 + b < c * 64 + d) := by
  rw [HT.lexLt_cons]
  by_cases h : a = c
  · rw [if_pos h, HT.lexLt_cons]
    by_cases h' : b = d
    · rw [if_pos h', show HT.lexLt [] [] = false from rfl]
      exact (decide_eq_false (by omega)).symm
    · rw [if_neg h']
      exact decide_eq_decide.mpr (by omega)
  · rw [if_neg h]
    exact decide_eq_decide.mpr (by omega)
theorem Dens.pr_get {K : PySem.W.Frag} {H : Hp} {xs : List V} {ps : List (Int × Int)} {i : Nat} {x : V} (h : Dens K H xs (ps.map dPr)) (hx : xs[i]? = some x) : ∃ a z, x = .ref a ∧ ps[i]? = some z ∧ SqT K H a [.int z.1, .int z.2] := by
  obtain ⟨d, hd, hv⟩ := h.get' hx
  rw [List.getElem?_map] at hd
  cases hp : ps[i]? with
  | none => rw [hp] at hd; cases hd
  | some z =>
    rw [hp] at hd
    have e : dPr z = d := Option.some.inj hd
    subst e
    obtain ⟨a, rfl, hT⟩ := (show Den K H x (dTup [z.1, z.2]) from hv).tup_inv
    exact ⟨a, z, rfl, rfl, hT⟩
theorem perm_getD {α : Type} {ps : List α} {d : α} {q : List Nat} (h : q.Perm (List.range ps.length)) : (q.map fun i => ps.getD i d).Perm ps := by
  have e : (List.range ps.length).map (fun i => ps.getD i d) = ps := by
    apply List.ext_getElem?
    intro j
    rw [List.getElem?_map]
    by_cases hj : j < ps.length
    · rw [List.getElem?_range hj]
      show some (ps.getD j d) = _
      rw [List.getD_eq_getElem?_getD, List.getElem?_eq_getElem hj]; rfl
    · rw [List.getElem?_eq_none (l := ps) (by omega), List.getElem?_eq_none (by rw [List.length_range]; omega)]; rfl
  have := h.map fun i => ps.getD i d
  rw [e] at this; exact this
theorem Dens.pick {K : PySem.W.Frag} {H : Hp} {us : List V} {ps : List (Int × Int)} (h : Dens K H us (ps.map dPr)) : ∀ (q : List Nat), (∀ i ∈ q, i < ps.length) → Dens K H (q.map fun i => us.getD i .non) ((q.map fun i => ps.getD i (0, 0)).map dPr)
  | [], _ => .nil
  | i :: q, hq => by
    have hi := hq i List.mem_cons_self
    obtain ⟨v, e1, e2⟩ := h.get (i := i) (d := dPr (ps.getD i (0, 0))) (by rw [List.getElem?_map, List.getElem?_eq_getElem hi, List.getD_eq_getElem?_getD, List.getElem?_eq_getElem hi]; rfl)
    refine .cons ?_ (Dens.pick h q fun j hj => hq j (List.mem_cons_of_mem _ hj))
    show Den K H (us.getD i .non) _
    rw [List.getD_eq_getElem?_getD, e1]; exact e2
theorem call_sortedP : CallR X (.builtin "sorted") (fun xs H Q => ∃ (p : Addr) (us : List V) (ps : List (Int × Int)), xs = [.ref p] ∧ SqL X.K H p us ∧ Dens X.K H us (ps.map dPr) ∧ ps.length < 64 ∧ (∀ z ∈ ps, 0 ≤ z.2 ∧ z.2 < 64) ∧ (ps.map (·.2)).Nodup ∧
    ∀ (l : Addr) (q : List Nat), H l = none → q.Perm (List.range ps.length) → Q (.ref l) (upd H l (.lst (q.map fun i => us.getD i .non)))) := by
  intro pins s σ H xs vs Q I r h
  obtain ⟨p, us, ps, rfl, hq, hd, hn, hr, hnd, q⟩ := h
  obtain ⟨u, rfl, ru⟩ := vals1 r
  cases ru
  obtain ⟨its, r1, p1, hz⟩ := I.list hq
  have hl := r1.length
  have hul : us.length = ps.length := by rw [hd.length, List.length_map]
  have hil : its.length = ps.length := by omega
  have gz : ∀ i, i < ps.length → ps[i]? = some (ps.getD i (0, 0)) := fun i hi => by rw [List.getD_eq_getElem?_getD, List.getElem?_eq_getElem hi]; rfl
  have gb : ∀ i, i < ps.length → 0 ≤ (ps.getD i (0, 0)).2 ∧ (ps.getD i (0, 0)).2 < 64 := fun i hi => hr _ (List.mem_of_getElem? (gz i hi))
  refine sorted_tups (m := 1) (key := fun i => [(ps.getD i (0, 0)).1, (ps.getD i (0, 0)).2]) (κ := fun i => (ps.getD i (0, 0)).1 * 64 + (ps.getD i (0, 0)).2) p1.isList (by omega) ⟨rfl, fun i hi => ?_, fun i hi => rfl⟩ (fun i j hi hj => lex2 _ _ _ _ (gb i (by omega)) (gb j (by omega))) (fun i j hi hj hij => ?_) fun pp a1 a2 => ?_
  · have hi2 : i < us.length := by omega
    obtain ⟨a, z, e1, e2, hT⟩ := hd.pr_get (List.getElem?_eq_getElem hi2)
    obtain ⟨u, eu, ru⟩ := r1.get (List.getElem?_eq_getElem hi2)
    rw [e1] at ru
    cases ru
    obtain ⟨its2, r2, hT2, _⟩ := I.tuple hT
    have ez : z = ps.getD i (0, 0) := by have := gz i (by omega); rw [e2] at this; exact Option.some.inj this
    subst ez
    exact ⟨a, its2, eu, hT2, intsAre_of (ns := [(ps.getD i (0, 0)).1, (ps.getD i (0, 0)).2]) r2⟩
  · show (ps.getD i (0, 0)).1 * 64 + (ps.getD i (0, 0)).2 ≠ (ps.getD j (0, 0)).1 * 64 + (ps.getD j (0, 0)).2
    have b1 := gb i (by omega)
    have b2 := gb j (by omega)
    have hne : (ps.getD i (0, 0)).2 ≠ (ps.getD j (0, 0)).2 := fun e => by
      have g1 : (ps.map (·.2))[i]? = some (ps.getD i (0, 0)).2 := by rw [List.getElem?_map, gz i (by omega)]; rfl
      have g2 : (ps.map (·.2))[j]? = some (ps.getD j (0, 0)).2 := by rw [List.getElem?_map, gz j (by omega)]; rfl
      rw [e, ← g2] at g1
      exact hij ((List.getElem?_inj (by rw [List.length_map]; omega) hnd).mp g1)
    omega
  · obtain ⟨e, he⟩ := sortedAll_at s.heap its (pp.map fun i => its.getD i Value.none).toArray
    have hpl : pp.length = ps.length := by rw [a1.length_eq, List.length_range]; omega
    have a1' : pp.Perm (List.range ps.length) := by rw [← hil]; exact a1
    exact ⟨.ref (s.heap.objs.size + 1), _, I.laid (t' := s.toks) (fun b o e => sortedAll_old e) (Nat.le_succ _) (show ObjOk X.prog X.w _ _ _ (.lst (pp.map fun i => us.getD i .non)) from ⟨by rw [List.length_map, sizeLine_eq]; omega, _, e, vals_perm r1 pp (fun i hi => by have := List.mem_range.mp (a1'.mem_iff.mp hi); omega), he⟩), rfl, q _ _ (I.hok.fresh (Nat.le_succ _)) a1'⟩
theorem cut_takeV (xs : List V) (j : Nat) : cutV xs none (some (j : Int)) = xs.take j := by
  unfold cutV
  rw [HT.sIx_nat, show HT.sIx xs.length 0 none = 0 from rfl, List.drop_zero, Nat.sub_zero]
  by_cases h : j ≤ xs.length
  · rw [Nat.min_eq_left h]
  · rw [Nat.min_eq_right (by omega), List.take_of_length_le (Nat.le_refl _), List.take_of_length_le (by omega)]
theorem Dens.mv_get {K : PySem.W.Frag} {H : Hp} {xs : List V} {ps : List (Int × Int × Int)} {i : Nat} {x : V} (h : Dens K H xs (ps.map dMv)) (hx : xs[i]? = some x) : ∃ a p, x = .ref a ∧ ps[i]? = some p ∧ SqT K H a [.int p.1, .int p.2.1, .int p.2.2] := by
  obtain ⟨d, hd, hv⟩ := h.get' hx
  rw [List.getElem?_map] at hd
  cases hp : ps[i]? with
  | none => rw [hp] at hd; cases hd
  | some z =>
    rw [hp] at hd
    have e : dMv z = d := Option.some.inj hd
    subst e
    obtain ⟨a, rfl, hT⟩ := hv.mv_inv
    exact ⟨a, z, rfl, rfl, hT⟩
abbrev oLic (l : Lic) : HO := .tup (vLic l)
abbrev oInts (w : List Int) : HO := .lst (w.map V.int)
end
end L2
namespace L2
open PySem PySem.W PySem.Spec PyProof.Rows
section
variable {X : Cx}
end
end L2
namespace Rv
def River (r : List Int) : Prop := ∃ rk : Nat → Nat, (∀ i, i < r.length → rk i < r.length) ∧
  ∀ (i : Nat) (x : Int), r[i]? = some x → x = -1 ∨ (0 ≤ x ∧ x < r.length ∧ rk x.toNat < rk i)
def nxt (r : List Int) (p : Int) : Int := r.getD p.toNat (-1)
theorem get_nxt {r : List Int} {p : Int} (h0 : 0 ≤ p) (h1 : p < r.length) : r[p.toNat]? = some (nxt r p) := by
  have h : p.toNat < r.length := by omega
  unfold nxt
  rw [List.getD_eq_getElem?_getD, List.getElem?_eq_getElem h]; rfl
theorem River.step {r : List Int} (h : River r) {p : Int} (h0 : 0 ≤ p) (h1 : p < r.length) : nxt r p = -1 ∨ (0 ≤ nxt r p ∧ nxt r p < r.length) := by
  obtain ⟨rk, _, h3⟩ := h
  rcases h3 _ _ (get_nxt h0 h1) with e | ⟨a, b, _⟩
  · exact .inl e
  · exact .inr ⟨a, b⟩
def walkF (r : List Int) : Nat → Int → List Int
  | 0, _ => []
  | f + 1, p => if p = -1 then [] else p :: walkF r f (nxt r p)
def walk (r : List Int) (p : Int) : List Int := walkF r (r.length + 1) p
theorem walkF_neg (r : List Int) (f : Nat) : walkF r f (-1) = [] := by
  cases f with
  | zero => rfl
  | succ f => unfold walkF; rw [if_pos rfl]
theorem walk_neg (r : List Int) : walk r (-1) = [] := walkF_neg r _
theorem walkF_stable {r : List Int} {rk : Nat → Nat} (h : ∀ (i : Nat) (x : Int), r[i]? = some x → x = -1 ∨ (0 ≤ x ∧ x < r.length ∧ rk x.toNat < rk i)) :
    ∀ (f g : Nat) (p : Int), 0 ≤ p → p < r.length → rk p.toNat < f → rk p.toNat < g → walkF r f p = walkF r g p
  | 0, _, _, _, _, hf, _ => by omega
  | _ + 1, 0, _, _, _, _, hg => by omega
  | f + 1, g + 1, p, h0, h1, hf, hg => by
    unfold walkF
    rw [if_neg (by omega), if_neg (by omega)]
    rcases h _ _ (get_nxt h0 h1) with e | ⟨a, b, c⟩
    · rw [e, walkF_neg, walkF_neg]
    · rw [walkF_stable h f g _ a b (by omega) (by omega)]
theorem walk_cons {r : List Int} (h : River r) {p : Int} (h0 : 0 ≤ p) (h1 : p < r.length) : walk r p = p :: walk r (nxt r p) := by
  obtain ⟨rk, h2, h3⟩ := h
  show walkF r (r.length + 1) p = _
  unfold walkF
  rw [if_neg (by omega)]
  rcases h3 _ _ (get_nxt h0 h1) with e | ⟨a, b, c⟩
  · rw [e, walkF_neg, walk_neg]
  · have := h2 p.toNat (by omega)
    unfold walk
    rw [walkF_stable h3 r.length (r.length + 1) _ a b (by omega) (by omega)]
theorem walkF_len (r : List Int) : ∀ (f : Nat) (p : Int), (walkF r f p).length ≤ f
  | 0, _ => Nat.le_refl _
  | f + 1, p => by
    unfold walkF
    split
    · exact Nat.zero_le _
    · exact Nat.succ_le_succ (walkF_len r f _)
theorem walk_len (r : List Int) (p : Int) : (walk r p).length ≤ r.length + 1 := walkF_len r _ _
noncomputable def mea (r : List Int) (p : Int) : Nat := (walk r p).length
theorem mea_lt {r : List Int} (h : River r) {p : Int} (h0 : 0 ≤ p) (h1 : p < r.length) : mea r (nxt r p) < mea r p := by
  unfold mea; rw [walk_cons h h0 h1]; exact Nat.lt_succ_self _
end Rv
namespace Rv
end Rv
namespace Rv
abbrev Mv := Int × Int × Int
end Rv
namespace Rv
end Rv
namespace Rv
end Rv
namespace Rv
end Rv
namespace Rv
end Rv
namespace Rv
end Rv
namespace Tn
end Tn
namespace Tn
end Tn
namespace Tn
end Tn
namespace Tn
end Tn
namespace Tn
end Tn
namespace Tn
end Tn
namespace Tn
end Tn
namespace Tn
end Tn
namespace Tn
end Tn
namespace Tn
end Tn
namespace Tn
end Tn
namespace Tn
end Tn
namespace Tn
end Tn
namespace Tn
end Tn
namespace Rv
end Rv
namespace Rv
structure Lnk (n : Nat) (sp : Nat → Int) (k : Nat) (b : List Int) : Prop where
  len : b.length = n
  at_ : ∀ (i : Nat) (x : Int), b[i]? = some x → x = -1 ∨ ∃ j m, j < m ∧ m < k ∧ m < n ∧ sp m = (i : Int) ∧ x = sp j
theorem Lnk.skip {n : Nat} {sp : Nat → Int} {k : Nat} {b : List Int} (h : Lnk n sp k b) : Lnk n sp (k + 1) b :=
  ⟨h.len, fun i x hx => (h.at_ i x hx).imp id fun ⟨j, m, h1, h2, h3⟩ => ⟨j, m, h1, by omega, h3⟩⟩
theorem Lnk.turn {n : Nat} {sp : Nat → Int} {k j : Nat} {b : List Int} (h : Lnk n sp k b) (hk : k < n) (hj : j < k) (h0 : 0 ≤ sp k) : Lnk n sp (k + 1) (b.set (sp k).toNat (sp j)) := by
  refine ⟨by rw [List.length_set]; exact h.len, fun i x hx => ?_⟩
  rw [List.getElem?_set] at hx
  split at hx
  · rename_i e
    split at hx
    · exact .inr ⟨j, k, hj, by omega, hk, by omega, (Option.some.inj hx).symm⟩
    · cases hx
  · exact h.skip.at_ i x hx
theorem Lnk.river {n : Nat} {sp : Nat → Int} {k : Nat} {b : List Int} (h : Lnk n sp k b) (h0 : ∀ k, 0 ≤ sp k) (h1 : ∀ k, sp k < n) (inj : ∀ j k, j < n → k < n → sp j = sp k → j = k) (hn : 0 < n) : River b := by
  classical
  let rk : Nat → Nat := fun i => if h : ∃ k, k < n ∧ sp k = (i : Int) then h.choose else 0
  have rk_at : ∀ k, k < n → rk (sp k).toNat = k := fun k hk => by
    have hex : ∃ m, m < n ∧ sp m = ((sp k).toNat : Int) := ⟨k, hk, by have := h0 k; omega⟩
    show (if h : ∃ m, m < n ∧ sp m = ((sp k).toNat : Int) then h.choose else 0) = k
    rw [dif_pos hex]
    obtain ⟨a1, a2⟩ := hex.choose_spec
    exact inj _ _ a1 hk (by have := h0 k; omega)
  refine ⟨rk, fun i _ => ?_, fun i x hx => ?_⟩
  · rw [h.len]
    show (if h : ∃ k, k < n ∧ sp k = (i : Int) then h.choose else 0) < n
    split
    · rename_i hex; exact hex.choose_spec.1
    · exact hn
  · rcases h.at_ i x hx with e | ⟨j, m, hjm, _, hm, e, rfl⟩
    · exact .inl e
    · refine .inr ⟨h0 j, by rw [h.len]; exact h1 j, ?_⟩
      have ei : i = (sp m).toNat := by have := h0 m; omega
      rw [ei, rk_at m hm, rk_at j (by omega)]
      exact hjm
end Rv
namespace Tn
end Tn
namespace Rv
end Rv
namespace Tn
end Tn
namespace Tn
end Tn
namespace Rv
end Rv
namespace Tn
end Tn
namespace Rv
theorem step_free : ∀ n : Fin 41, ∀ d : Fin 41, d.val < n.val → d.val ≠ 0 → (1 * d.val) % n.val ≠ 0 ∧ (41 * d.val) % n.val ≠ 0 ∧ (43 * d.val) % n.val ≠ 0 ∧ (47 * d.val) % n.val ≠ 0 := by decide +kernel
def spotB (n s x : Int) (k : Nat) : Int := (s * (k : Int) + x) % n
theorem spotB_nn {n s x : Int} (hn : 0 < n) (k : Nat) : 0 ≤ spotB n s x k := Int.emod_nonneg _ (by omega)
theorem spotB_lt {n s x : Int} (hn : 0 < n) (k : Nat) : spotB n s x k < n := Int.emod_lt_of_pos _ hn
theorem spotB_aux {n : Nat} {s x : Int} (h40 : n ≤ 40) (hs : s = 1 ∨ s = 41 ∨ s = 43 ∨ s = 47) {j k : Nat} (hk : k < n) (hjk : j < k) : spotB n s x j ≠ spotB n s x k := by
  intro h
  unfold spotB at h
  have h2 : ((s * (k : Int) + x) - (s * (j : Int) + x)) % (n : Int) = 0 := Int.emod_eq_emod_iff_emod_sub_eq_zero.mp h.symm
  have e : (s * (k : Int) + x) - (s * (j : Int) + x) = s * ((k - j : Nat) : Int) := by
    rw [Int.ofNat_sub (by omega), Int.mul_sub]; omega
  rw [e] at h2
  obtain ⟨f1, f2, f3, f4⟩ := step_free ⟨n, by omega⟩ ⟨k - j, by omega⟩ (by show k - j < n; omega) (by show k - j ≠ 0; omega)
  have key : ∀ t : Nat, (t * (k - j)) % n ≠ 0 → ((t : Int) * ((k - j : Nat) : Int)) % (n : Int) ≠ 0 := fun t ht z => ht (by
    have : (((t * (k - j)) % n : Nat) : Int) = 0 := by rw [Int.natCast_emod, Int.natCast_mul]; exact z
    omega)
  rcases hs with rfl | rfl | rfl | rfl
  · exact key 1 f1 h2
  · exact key 41 f2 h2
  · exact key 43 f3 h2
  · exact key 47 f4 h2
theorem spotB_inj {n : Nat} {s x : Int} (h40 : n ≤ 40) (hs : s = 1 ∨ s = 41 ∨ s = 43 ∨ s = 47) {j k : Nat} (hj : j < n) (hk : k < n) (h : spotB n s x j = spotB n s x k) : j = k := by
  rcases Nat.lt_trichotomy j k with c | c | c
  · exact absurd h (spotB_aux h40 hs hk c)
  · exact c
  · exact absurd h.symm (spotB_aux h40 hs hj c)
def spotsB (n s x : Int) (m : Nat) : List Int := (List.range m).map (spotB n s x)
theorem spotsB_len (n s x : Int) (m : Nat) : (spotsB n s x m).length = m := by simp [spotsB]
theorem spotsB_succ (n s x : Int) (m : Nat) : spotsB n s x (m + 1) = spotsB n s x m ++ [spotB n s x m] := by
  unfold spotsB; rw [List.range_succ, List.map_append]; rfl
theorem spotsB_at {n s x : Int} {m k : Nat} (h : k < m) : (spotsB n s x m)[k]? = some (spotB n s x k) := by
  unfold spotsB; rw [List.getElem?_map, List.getElem?_range h]; rfl
theorem Lnk.start0 (n : Nat) (sp : Nat → Int) : Lnk n sp 0 (List.replicate n (-1)) :=
  ⟨by simp, fun i x h => .inl (by
    rw [List.getElem?_replicate] at h
    split at h
    · exact (Option.some.inj h).symm
    · cases h)⟩
end Rv
namespace My
open PySem L2
local macro_rules | `(tactic| walk_at "new") => `(tactic| (generalize hE : upd _ _ _ = Hn; have On := Ow.mkE (by assumption) (by assumption) hE rfl; clear hE; revert On; revert Hn))
local macro_rules | `(tactic| walk_at "put") => `(tactic| (generalize hE : upd _ _ _ = Hn; (first | have On := Ow.putE (by assumption) 0 rfl hE rfl | have On := Ow.putE (by assumption) 1 rfl hE rfl | have On := Ow.putE (by assumption) 2 rfl hE rfl | have On := Ow.putE (by assumption) 3 rfl hE rfl | have On := Ow.putE (by assumption) 4 rfl hE rfl | have On := Ow.putE (by assumption) 5 rfl hE rfl); clear hE; (try simp only [List.set_cons_zero, List.set_cons_succ] at On); revert On; revert Hn))
set_option hygiene false
local macro_rules | `(tactic| walk_at "get") => `(tactic| first | assumption | exact O.get 0 | exact O.get 1 | exact O.get 2 | exact O.get 3 | exact O.get 4 | exact O.get 5 | exact O.get 6 | exact O.get 7 | exact O.get 8 | exact O.get 9 | exact O.get 10 | exact O.get 11 | exact O.get 12 | fail)
local macro_rules | `(tactic| walk_at "sq") => `(tactic| first | assumption | exact O.sq 0 | exact O.sq 1 | exact O.sq 2 | exact O.sq 3 | exact O.sq 4 | exact O.sq 5 | exact O.sq 6 | exact O.sq 7 | exact O.sq 8 | exact O.sq 9 | exact O.sq 10 | exact O.sq 11 | exact O.sq 12 | exact SqL.mo (by assumption) O.same | exact SqL.mo (by assumption) (s0.trans O.same) | fail)
local macro_rules | `(tactic| walk_at "sqT") => `(tactic| first | assumption | exact O.sqT 0 | exact O.sqT 1 | exact O.sqT 2 | exact O.sqT 3 | exact O.sqT 4 | exact O.sqT 5 | exact O.sqT 6 | exact O.sqT 7 | exact SqT.mo (by assumption) O.same | exact SqT.mo (by assumption) (s0.trans O.same) | fail)
local macro_rules | `(tactic| walk_at "at") => `(tactic| first | rfl | exact ints_at (by assumption) | exact atI_nat (by assumption) | exact ints_atZ (by omega) (by omega) | exact lastV _ _ | exact ints_last (by omega) | exact ints_atZ (ns := [_, _]) (by omega) (by simp only [List.length_cons, List.length_nil]; omega) | exact ints_atZ (ns := [_, _, _]) (by omega) (by simp only [List.length_cons, List.length_nil]; omega) | exact ints_atZ (ns := [_, _, _, _]) (by omega) (by simp only [List.length_cons, List.length_nil]; omega) | exact ints_atZ (ns := [_, _, _, _, _]) (by omega) (by simp only [List.length_cons, List.length_nil]; omega) | exact ints_atZ (ns := [_, _, _, _, _, _]) (by omega) (by simp only [List.length_cons, List.length_nil]; omega) | exact ints_atZ (ns := [_, _, _, _, _, _, _]) (by omega) (by simp only [List.length_cons, List.length_nil]; omega) | exact ints_atZ (ns := [_, _, _, _, _, _, _, _]) (by omega) (by simp only [List.length_cons, List.length_nil]; omega) | fail)
local macro_rules | `(tactic| walk_at "c") => `(tactic| first | omega | (simp only [List.length_map]; omega) | exact szl | (show (0 : Int) < _; decide) | (show (0 : Int) < _; omega) | exact ⟨by decide, by decide⟩ | exact .inl ⟨by decide, by decide⟩ | exact .inr ⟨by decide, by decide⟩ | exact ⟨by decide, by decide, by decide⟩ | exact .inl ⟨by omega, by omega⟩ | exact .inr ⟨by omega, by omega⟩ | exact ⟨by omega, by omega⟩ | (split <;> omega) | fail)
local macro_rules | `(tactic| walk_at "ty") => `(tactic| first | exact .int _ | exact .bl _ | exact .lst (by walk_at "get") | exact .tup (by walk_at "get") | exact .non | fail)
local macro_rules | `(tactic| walk_at "kit") => `(tactic| first | exact kit_ii K | exact kit_ib K | exact kit_ll K | exact kit_bb K | exact kit_bi K | exact kit_tt K | fail)
local macro_rules | `(tactic| walk_at "sz") => `(tactic| exact small100' (by (try simp only [List.length_map, List.length_append, List.length_cons, List.length_nil]); omega))
local macro_rules | `(tactic| walk_at "s") => `(tactic| first | refine yes2 ?_ | refine ⟨_, rfl, ?_⟩ | refine ⟨_, _, rfl, rfl, ?_⟩ | refine And.intro rfl ?_ | refine And.intro (by walk_at "c") ?_ | refine ⟨_, _, _, _, rfl, rfl, (show SqL _ _ _ _ by walk_at "sq"), (show atI _ _ = some _ by walk_at "at"), ?_⟩ | refine ⟨_, _, _, _, rfl, rfl, (show SqT _ _ _ _ by walk_at "sqT"), (show atI _ _ = some _ by walk_at "at"), ?_⟩ | refine ⟨_, _, rfl, .inl (show SqL _ _ _ _ by walk_at "sq"), ?_⟩ | refine ⟨_, _, rfl, .inr (show SqT _ _ _ _ by walk_at "sqT"), ?_⟩ | refine ⟨_, _, rfl, (show SqL _ _ _ _ by walk_at "sq"), ?_⟩ | refine And.intro ⟨_, (show SqL _ _ _ _ by walk_at "sq")⟩ ?_ | refine And.intro (.inl ⟨rfl, _, (show SqL _ _ _ _ by walk_at "sq")⟩) ?_ | refine ⟨_, _, _, _, rfl, (show TyOf _ _ _ _ by walk_at "ty"), (show PySem.W.kitOne _ _ _ = some _ by walk_at "kit"), ?_⟩ | refine ⟨_, _, rfl, ?_⟩ | fail)
local macro_rules | `(tactic| walk_at "w") => `(tactic| repeat walk_at "s")
local macro_rules | `(tactic| walk_at "if") => `(tactic| first | refine iteT ?_ | refine iteF ?_ | refine ifN ?_ | refine ifI (fun hc => ?_) (fun hc => ?_) | refine ifD (fun hc => ?_) (fun hc => ?_) | refine ifB (fun hc => ?_) (fun hc => ?_) | fail)
local macro_rules | `(tactic| walk_at "go") => `(tactic| repeat' (first | walk_at "if" | walk_at "s" | fail))
local macro_rules | `(tactic| walk_at "nw") => `(tactic| (generalize hE : upd _ _ _ = Hn; replace O := Ow.mkE O (by assumption) hE rfl; clear hE))
local macro_rules | `(tactic| walk_at "pt") => `(tactic| (generalize hE : upd _ _ _ = Hn; (first | replace O := Ow.putE O 0 rfl hE rfl | replace O := Ow.putE O 1 rfl hE rfl | replace O := Ow.putE O 2 rfl hE rfl | replace O := Ow.putE O 3 rfl hE rfl | replace O := Ow.putE O 4 rfl hE rfl | replace O := Ow.putE O 5 rfl hE rfl | replace O := Ow.putE O 6 rfl hE rfl | replace O := Ow.putE O 7 rfl hE rfl); clear hE; (try simp only [List.set_cons_zero, List.set_cons_succ] at O)))
local macro_rules | `(tactic| walk_at "app") => `(tactic| (refine ⟨_, _, _, rfl, rfl, (by walk_at "get"), (by walk_at "sz"), ?_⟩; walk_at "pt"))
local macro_rules | `(tactic| walk_at "elt") => `(tactic| (refine ⟨_, (by walk_at "get"), (by walk_at "sz"), ?_⟩; walk_at "pt"))
local macro_rules | `(tactic| walk_at "frz") => `(tactic| (obtain ⟨Hn, On, sn, en⟩ := O.frz; clear O; have O := On; clear On; (try replace s0 := s0.mo sn); (try replace d0 := d0.mo sn); (try replace d1 := d1.mo sn); (try replace d2 := d2.mo sn); (try replace d3 := d3.mo sn); (try replace d4 := d4.mo sn); (try replace d5 := d5.mo sn); (try replace d6 := d6.mo sn); (try replace d7 := d7.mo sn)))
local macro_rules | `(tactic| walk_at "mo") => `(tactic| ((try simp only [List.eraseIdx_cons_zero, List.eraseIdx_cons_succ] at O); (try replace s0 := s0.mo sn); (try replace d0 := d0.mo sn); (try replace d1 := d1.mo sn); (try replace d2 := d2.mo sn); (try replace d3 := d3.mo sn); (try replace d4 := d4.mo sn); (try replace d5 := d5.mo sn); (try replace d6 := d6.mo sn); (try replace d7 := d7.mo sn)))
local macro_rules | `(tactic| walk_at "er") => `(tactic| simp only [List.eraseIdx_cons_zero, List.eraseIdx_cons_succ] at O)
local macro_rules | `(tactic| walk_at "jn") => `(tactic| simp only [List.cons_append, List.nil_append] at O)
def top (i : Nat) : Stmt := PySem.Challenge.pw_sluice_k42_lets_refused.main.body.getD i (.Pass ⟨0, 0, 0, 0⟩)
abbrev s__law_nth : Stmt := top 28
theorem sc__law_nth : FnScope ["script", "k", "cell"] ["script", "k"] (defScope s__law_nth) := ⟨rfl, rfl, rfl, by decide +kernel, rfl, by decide +kernel, by decide +kernel⟩
def sp_nth (K : PySem.W.Frag) (T : Tabs) : Sp := fun vs H Q _ => ∃ (a : Addr) (ns : List Int) (k : Nat), vs = [.ref a, .int (k : Int)] ∧ SqL K H a (ns.map V.int) ∧ TabsOk T H ∧ ∀ H', SameT T H H' → Q (.int (ns.getD k 0)) H'
section
variable {P : Program} {w : World} {K : PySem.W.Frag} {mg : Str → Option Value} {base : Heap} {T : Tabs}
theorem ok_nth {f : Addr} {fd : FuncData} (D : Df K mg "_law_nth" s__law_nth ["script", "k"] f fd) : FnOk P w K mg base CX0 1 f fd ["script", "k"] (sp_nth K T) := by
  refine D.F.ok sc__law_nth (fun vs H Q E h => ?_) (fun cdv A outer s H vs Q E hr h => ?_)
  · obtain ⟨_, _, _, rfl, _⟩ := h; rfl
  · obtain ⟨a, ns, k, rfl, hS, tk, q⟩ := h
    refine ⟨_, (pss_cons (ps_for PassesOwn.never rfl (pi_list (pe_slice sl_list (pv 0) (po_some (pv 1)) (po_some (pe_op op_add (pv 1) pe_int)))) (pg_name (i := 2) sc__law_nth.nd rfl (Or.inl rfl))
        (pss_one (ps_ret (pv 2))))
      (pss_one (ps_ret pe_int))), ?_⟩
    have O := Ow.refl tk
    refine ⟨_, rfl, _, rfl, (k : Int), rfl, _, rfl, _, _, rfl, rfl, _, rfl, a, _, rfl, hS, fun l hl => ?_⟩
    walk_at "nw"
    rw [show cutV (ns.map V.int) (some (k : Int)) (some ((k : Int) + 1)) = ((ns.drop k).take 1).map V.int from by have e := cut_ns ns k (k + 1); rw [show k + 1 - k = 1 by omega] at e; exact e] at O
    refine ⟨l, rfl, ⟨_, O.sq 0⟩, ?_⟩
    refine for_list (K := K) (xs := ((ns.drop k).take 1).map V.int) (fun i σ H' => Iv (i = 0 ∧ σ = [some (.ref a), some (.int (k : Int)), none] ∧ Ow T H H' [(l, .lst (((ns.drop k).take 1).map V.int))]))
      ⟨trivial, rfl, rfl, O⟩ (fun i σ H' _ ⟨_, _, _, O⟩ => O.sq 0) ?_ ?_
    · rintro i y σ H3 hy ⟨-, rfl, rfl, O⟩
      obtain ⟨z, hz, rfl⟩ := ints_get hy
      have e : ns.getD k 0 = z := by
        rw [List.getElem?_take, if_pos (by decide), List.getElem?_drop] at hz
        rw [List.getD_eq_getElem?_getD, show ns[k]? = some z from hz]; rfl
      subst e
      exact ⟨_, rfl, q _ O.same⟩
    rintro σ H3 ⟨-, e0, rfl, O⟩
    have e : ns.getD k 0 = 0 := by
      rw [List.length_map, List.length_take, List.length_drop] at e0
      rw [List.getD_eq_getElem?_getD, List.getElem?_eq_none (by omega)]; rfl
    rw [← e]
    exact q _ O.same
end
abbrev s__law_counts : Stmt := top 29
theorem sc__law_counts : FnScope ["thing"] ["thing"] (defScope s__law_counts) := ⟨rfl, rfl, rfl, by decide +kernel, rfl, by decide +kernel, by decide +kernel⟩
def sp_cnt : Sp := fun vs H Q _ => ∃ (z : Int), vs = [.int z] ∧ Q (.bl true) H
section
variable {P : Program} {w : World} {K : PySem.W.Frag} {mg : Str → Option Value} {base : Heap} {T : Tabs}
theorem kit_ii (K : PySem.W.Frag) : PySem.W.kitOne K (.type "int") (.type "int") = some true := by rfl
theorem kit_ib (K : PySem.W.Frag) : PySem.W.kitOne K (.type "int") (.type "bool") = some false := by rfl
theorem kit_ll (K : PySem.W.Frag) : PySem.W.kitOne K (.type "list") (.type "list") = some true := by rfl
theorem ok_cnt {f : Addr} {fd : FuncData} (D : Df K mg "_law_counts" s__law_counts ["thing"] f fd) (B : Blt mg) : FnOk P w K mg base CX0 1 f fd ["thing"] sp_cnt := by
  refine D.F.ok sc__law_counts (fun vs H Q E h => ?_) (fun cdv A outer s H vs Q E hr h => ?_)
  · obtain ⟨z, rfl, _⟩ := h; rfl
  · obtain ⟨z, rfl, q⟩ := h
    refine ⟨_, (pss_one (ps_ret (pe_and (pe_not (pe_callB call_isinst rfl B.isinstance PyProof.Rows.boot_isinstance (pa_cons (pv 0) (pa_cons (pe_bltn (v := .ty "bool") rfl B.bool PyProof.Rows.boot_bool rfl) pa_nil)))) (pe_one (pe_callB call_isinst rfl B.isinstance PyProof.Rows.boot_isinstance (pa_cons (pv 0) (pa_cons (pe_bltn (v := .ty "int") rfl B.int PyProof.Rows.boot_int rfl) pa_nil))))))), ?_⟩
    refine ⟨_, rfl, _, _, _, false, rfl, .int _, kit_ib K, _, rfl, _, rfl, iteT ?_⟩
    exact ⟨_, rfl, _, _, _, true, rfl, .int _, kit_ii K, q⟩
end
abbrev s__law_draws : Stmt := top 30
theorem sc__law_draws : FnScope ["cell", "many", "drawn", "k", "base"] ["cell", "many"] (defScope s__law_draws) := ⟨rfl, rfl, rfl, by decide +kernel, rfl, by decide +kernel, by decide +kernel⟩
def sp_dws (T : Tabs) : Sp := fun vs H Q _ => ∃ (c m : Int), vs = [.int c, .int m] ∧ 0 ≤ m ∧ m ≤ 1000 ∧ TabsOk T H ∧ RetLT T H (fun xs => ∃ ys : List Int, xs = ys.map V.int ∧ ys.length = m.toNat ∧ ∀ y ∈ ys, 0 ≤ y ∧ y < 600011003) Q
theorem cube_b {b : Int} (h0 : 0 ≤ b) (h1 : b < 2000000000) : 0 ≤ b * b ∧ b * b < 4000000000000000000 := ⟨Int.mul_nonneg h0 h0, by
  have : b * b ≤ 1999999999 * 1999999999 := Int.mul_le_mul (by omega) (by omega) h0 (by decide)
  omega⟩
section
variable {P : Program} {w : World} {K : PySem.W.Frag} {mg : Str → Option Value} {base : Heap} {T : Tabs}
theorem ok_dws {f : Addr} {fd : FuncData} (D : Df K mg "_law_draws" s__law_draws ["cell", "many"] f fd) (B : Blt mg) : FnOk P w K mg base CX0 1 f fd ["cell", "many"] (sp_dws T) := by
  refine D.F.ok sc__law_draws (fun vs H Q E h => ?_) (fun cdv A outer s H vs Q E hr h => ?_)
  · obtain ⟨_, _, rfl, _⟩ := h; rfl
  · obtain ⟨c, m, rfl, h0, h1, tk, q⟩ := h
    refine ⟨_, (pss_cons (ps_set (i := 2) sc__law_draws.nd rfl (Or.inl rfl) (pe_lst pa_nil))
      (pss_cons (ps_for PassesOwn.never rfl (pi_range1 rfl B.range (pa_cons (pv 1) pa_nil)) (pg_name (i := 3) sc__law_draws.nd rfl (Or.inl rfl))
        (pss_cons (ps_set (i := 4) sc__law_draws.nd rfl (Or.inl rfl) (pe_op op_add (pe_op op_add (pe_op op_mod (pv 0) pe_int) (pe_op op_mul pe_int (pv 3))) pe_int))
        (pss_one (ps_expr (pe_bm PySem.F.plainAttrs_list PySem.F.slot_list_append PySem.F.type_list_append mt_append (pv 2) (pa_cons (pe_op op_mod (pe_op op_fdiv (pe_op op_mul (pe_op op_mul (pv 4) (pv 4)) (pv 4)) pe_int) pe_int) pa_nil))))))
      (pss_one (ps_ret (pv 2))))), ?_⟩
    have O := Ow.refl tk
    have s0 := O.same
    refine ⟨szl, fun l hl => ?_⟩
    walk_at "nw"
    refine ⟨_, rfl, m, rfl, by omega, by omega, ?_⟩
    refine for_range (fun i σ H' => Iv (∃ (v3 v4 : Option V) (ys : List Int), σ = [some (.int c), some (.int m), some (.ref l), v3, v4] ∧ ys.length = i ∧ (∀ y ∈ ys, 0 ≤ y ∧ y < 600011003) ∧ Ow T H H' [(l, .lst (ys.map V.int))]))
      ⟨trivial, none, none, [], rfl, rfl, (fun y hy => nomatch hy), O⟩ ?_ ?_
    · rintro i σ H3 hi ⟨-, v3, v4, ys, rfl, hyl, hyb, O⟩
      have c0 := Int.emod_nonneg c (show (777767777 : Int) ≠ 0 by decide)
      have c1 := Int.emod_lt_of_pos c (show (0 : Int) < 777767777 by decide)
      refine ⟨_, rfl, _, _, rfl, rfl, (by show (0 : Int) < 777767777; decide), _, rfl, _, _, rfl, rfl, .inl ⟨by decide, by decide⟩, _, _, rfl, rfl, _, _, rfl, rfl, ?_⟩
      dsimp only
      have b0 : 0 ≤ c % 777767777 + 1217 * (0 + (i : Int)) + 59 := by omega
      have b1 : c % 777767777 + 1217 * (0 + (i : Int)) + 59 < 2000000000 := by omega
      generalize c % 777767777 + 1217 * (0 + (i : Int)) + 59 = b at b0 b1
      have bb := cube_b b0 b1
      refine ⟨_, rfl, .inl ⟨rfl, _, O.sq 0⟩, _, rfl, _, rfl, _, _, rfl, rfl, .inl ⟨by omega, by omega⟩, _, rfl, _, _, rfl, rfl, .inl ⟨by omega, by omega⟩, _, _, rfl, rfl, ⟨by decide, by decide⟩, _, _, rfl, rfl, (by show (0 : Int) < 600011003; decide), l, _, _, rfl, rfl, O.get 0, small100' (by rw [List.length_map]; omega), ?_⟩
      walk_at "pt"
      rw [map_snoc] at O
      refine ⟨trivial, _, _, _, rfl, by rw [List.length_append, hyl]; rfl, fun y hy => ?_, O⟩
      rcases List.mem_append.mp hy with e | e
      · exact hyb y e
      · have e2 : y = b * b * b / 11 % 600011003 := by simpa using e
        rw [e2]
        exact ⟨Int.emod_nonneg _ (by decide), Int.emod_lt_of_pos _ (by decide)⟩
    rintro σ H3 ⟨-, v3, v4, ys, rfl, hyl, hyb, O⟩
    exact ⟨_, rfl, O.ret 0 rfl q ⟨ys, rfl, hyl, hyb⟩⟩
end
abbrev s__law_some : Stmt := top 34
theorem sc__law_some : FnScope ["number", "most"] ["number", "most"] (defScope s__law_some) := ⟨rfl, rfl, rfl, by decide +kernel, rfl, by decide +kernel, by decide +kernel⟩
def sp_som : Sp := fun vs H Q _ => ∃ (n m : Int), vs = [.int n, .int m] ∧ 0 ≤ m ∧ ∀ z, 0 ≤ z → z ≤ m → Q (.int z) H
theorem emod_le {a b m : Int} (h0 : 0 < b) (h1 : b ≤ m + 1) : 0 ≤ a % b ∧ a % b ≤ m := by
  have := Int.emod_nonneg a (show b ≠ 0 by omega)
  have := Int.emod_lt_of_pos a h0
  omega
theorem som_mod {Qp : Int → Prop} {a b m : Int} (q : ∀ z, 0 ≤ z → z ≤ m → Qp z) (h0 : 0 < b) (h1 : b ≤ m + 1) : Qp (a % b) := q _ (emod_le h0 h1).1 (emod_le h0 h1).2
section
variable {P : Program} {w : World} {K : PySem.W.Frag} {mg : Str → Option Value} {base : Heap}
theorem ok_som {f : Addr} {fd : FuncData} (D : Df K mg "_law_some" s__law_some ["number", "most"] f fd) (B : Blt mg) : FnOk P w K mg base CX0 1 f fd ["number", "most"] sp_som := by
  refine D.F.ok sc__law_some (fun vs H Q E h => ?_) (fun cdv A outer s H vs Q E hr h => ?_)
  · obtain ⟨_, _, rfl, _⟩ := h; rfl
  · obtain ⟨n, m, rfl, hm, q⟩ := h
    have O := Ow.refl0 H
    have s0 := O.same
    refine ⟨_, (pss_cons (ps_if (pt_cmpR op_eq (pe_op op_mod (pv 0) pe_int) pe_int (nomark _))
        (pss_one (ps_ret pe_int))
        pss_nil)
      (pss_cons (ps_if (pt_cmpR op_eq (pe_op op_mod (pv 0) pe_int) pe_int (nomark _))
        (pss_one (ps_ret (pv 1)))
        pss_nil)
      (pss_cons (ps_if (pt_cmpR op_eq (pe_op op_mod (pv 0) pe_int) pe_int (nomark _))
        (pss_one (ps_ret (pe_op op_mod (pe_op op_fdiv (pv 0) pe_int) (pe_op op_add (pe_callB (call_min2 rfl) rfl B.min PyProof.Rows.boot_min (pa_cons (pv 1) (pa_cons pe_int pa_nil))) pe_int))))
        pss_nil)
      (pss_one (ps_ret (pe_op op_mod (pe_op op_mul (pe_op op_fdiv (pv 0) pe_int) pe_int) (pe_op op_add (pv 1) pe_int))))))), ?_⟩
    have e5 : (10 : Int) ^ (5 : Int).toNat = 100000 := by decide
    walk_at "go"
    all_goals first
      | exact q _ (Int.le_refl _) hm
      | exact q _ hm (Int.le_refl _)
      | (refine som_mod (Qp := fun z => Q (.int z) H) q ?_ ?_ <;> omega)
      | (refine som_mod (Qp := fun z => Q (.int z) H) q ?_ ?_ <;> split <;> omega)
end
abbrev s_way_of : Stmt := top 20
theorem sc_way_of : FnScope ["below", "reach", "way"] ["below", "reach"] (defScope s_way_of) := ⟨rfl, rfl, rfl, by decide +kernel, rfl, by decide +kernel, by decide +kernel⟩
def sp_way (K : PySem.W.Frag) : Sp := fun vs H Q _ => ∃ (a : Addr) (r : List Int) (p : Int), vs = [.ref a, .int p] ∧ SqL K H a (r.map V.int) ∧ Rv.River r ∧ 0 ≤ p ∧ p < r.length ∧ r.length ≤ 900 ∧
  RetL H (fun xs => xs = (Rv.walk r p).map V.int) Q
theorem at_last (pre : List Int) (z : Int) : atI ((pre ++ [z]).map V.int) (-1) = some (V.int z) := by
  rw [List.map_append]; exact atI_last _ _
section
variable {P : Program} {w : World} {K : PySem.W.Frag} {mg : Str → Option Value} {base : Heap}
theorem ok_way {f : Addr} {fd : FuncData} (D : Df K mg "way_of" s_way_of ["below", "reach"] f fd) (C : Mth mg) : FnOk P w K mg base CX0 1 f fd ["below", "reach"] (sp_way K) := by
  obtain ⟨tM, hMOUTH⟩ := C.MOUTH
  refine D.F.ok sc_way_of (fun vs H Q E h => ?_) (fun cdv A outer s H vs Q E hr h => ?_)
  · obtain ⟨a, r, p, rfl, _⟩ := h; rfl
  · obtain ⟨a, r, p, rfl, hS, hR, p0, p1, hn, q⟩ := h
    refine ⟨_, (pss_cons (ps_set (i := 2) sc_way_of.nd rfl (Or.inl rfl) (pe_lst (pa_cons (pv 1) pa_nil)))
      (pss_cons (ps_while PassesOwn.never (pt_cmpR op_ne (pe_ix ix_list (pv 0) (pe_ix ix_list (pv 2) (pe_un un_neg pe_int) (fun _ _ => rfl)) (fun _ _ => rfl)) (pe_glob (v := .int (-1)) rfl hMOUTH ⟨_, rfl⟩) (nomark _))
        (pss_one (ps_expr (pe_bm PySem.F.plainAttrs_list PySem.F.slot_list_append PySem.F.type_list_append mt_append (pv 2) (pa_cons (pe_ix ix_list (pv 0) (pe_ix ix_list (pv 2) (pe_un un_neg pe_int) (fun _ _ => rfl)) (fun _ _ => rfl)) pa_nil)))))
      (pss_one (ps_ret (pv 2))))), ?_⟩
    refine ⟨_, rfl, (by show 1 ≤ sizeLine; decide), fun lw hlw => ?_⟩
    refine ⟨fun m σ H' => ∃ (pre : List Int) (z : Int), σ = [some (.ref a), some (.int p), some (.ref lw)] ∧ Same H H' ∧ H' lw = some (.lst ((pre ++ [z]).map V.int)) ∧ 0 ≤ z ∧ z < r.length ∧ pre ++ Rv.walk r z = Rv.walk r p ∧ m = Rv.mea r z,
      ⟨_, [], p, rfl, (Same.refl H).upd hlw, upd_same, p0, p1, rfl, rfl⟩, ?_⟩
    rintro m σ H2 ⟨pre, z, rfl, s2, h2, z0, z1, e, rfl⟩
    have g := Rv.get_nxt z0 z1
    have hlen : pre.length + (Rv.walk r z).length ≤ r.length + 1 := by
      have := Rv.walk_len r p
      rw [← e, List.length_append] at this; exact this
    refine ⟨_, rfl, _, rfl, _, rfl, lw, _, _, _, rfl, rfl, SqL.of h2, at_last pre z, a, _, _, _, rfl, rfl, s2.seq hS, ints_atI z0 g, rfl, _, rfl, ?_⟩
    rcases hR.step z0 z1 with hm | ⟨n0, n1⟩
    · rw [hm]
      refine iteNS rfl ?_
      refine ⟨_, rfl, q lw H2 _ s2 hlw h2 ?_⟩
      have ew : Rv.walk r z = [z] := by rw [Rv.walk_cons hR z0 z1, hm, Rv.walk_neg]
      rw [← e, ew]
    · have hd : (!decide (V.int (Rv.nxt r z) = V.int (-1))) = true := by
        have : ¬ Rv.nxt r z = -1 := by omega
        simp [this]
      rw [hd]
      refine iteT ?_
      refine ⟨fun σ' H' => ∃ m', m' < Rv.mea r z ∧ ∃ (pre : List Int) (z : Int), σ' = [some (.ref a), some (.int p), some (.ref lw)] ∧ Same H H' ∧ H' lw = some (.lst ((pre ++ [z]).map V.int)) ∧ 0 ≤ z ∧ z < r.length ∧ pre ++ Rv.walk r z = Rv.walk r p ∧ m' = Rv.mea r z, fun _ _ x => x, ?_⟩
      refine ⟨_, rfl, .inl ⟨rfl, _, SqL.of h2⟩, _, rfl, _, rfl, _, rfl, lw, _, _, _, rfl, rfl, SqL.of h2, at_last pre z, a, _, _, _, rfl, rfl, s2.seq hS, ints_atI z0 g, lw, _, _, rfl, rfl, h2, small100' ?_, ?_⟩
      · rw [List.length_map, List.length_append]
        have : 1 ≤ (Rv.walk r z).length := by rw [Rv.walk_cons hR z0 z1]; exact Nat.succ_le_succ (Nat.zero_le _)
        show pre.length + 1 ≤ _
        omega
      · refine ⟨_, Rv.mea_lt hR z0 z1, pre ++ [z], Rv.nxt r z, rfl, s2.upd hlw, ?_, n0, n1, ?_, rfl⟩
        · rw [upd_same, List.map_append (l₁ := pre ++ [z])]; rfl
        · rw [List.append_assoc]
          show pre ++ (z :: Rv.walk r (Rv.nxt r z)) = _
          rw [← Rv.walk_cons hR z0 z1]; exact e
end
theorem rep_intsV (n : Nat) (x : Int) : (List.replicate n [V.int x]).flatten = (List.replicate n x).map V.int := by rw [List.map_replicate]; exact rep_one _ _
theorem pick4s {w : Int} (h0 : 0 ≤ w) (h1 : w < 4) : ∃ s : Int, atI [V.int 1, V.int 41, V.int 43, V.int 47] w = some (V.int s) ∧ (s = 1 ∨ s = 41 ∨ s = 43 ∨ s = 47) := by
  rcases (by omega : w = 0 ∨ w = 1 ∨ w = 2 ∨ w = 3) with rfl | rfl | rfl | rfl
  · exact ⟨1, rfl, .inl rfl⟩
  · exact ⟨41, rfl, .inr (.inl rfl)⟩
  · exact ⟨43, rfl, .inr (.inr (.inl rfl))⟩
  · exact ⟨47, rfl, .inr (.inr (.inr rfl))⟩
def UpOk (up : List Int) : Prop := ∀ (j : Nat) (u : Int), up[j]? = some u → u = -1 ∨ (0 ≤ u ∧ u < (j : Int))
theorem up_snoc {up : List Int} {i : Nat} {z : Int} (hl : up.length = i) (h : UpOk up) (hz : z = -1 ∨ (0 ≤ z ∧ z < (i : Int))) : UpOk (up ++ [z]) := fun j u hu => by
  by_cases hj : j < up.length
  · rw [List.getElem?_append_left hj] at hu; exact h j u hu
  · rw [List.getElem?_append_right (by omega)] at hu
    have e : j = i := by
      have := (List.getElem?_eq_some_iff.mp hu).1
      simp at this; omega
    subst e
    rw [hl, Nat.sub_self] at hu
    have : z = u := Option.some.inj hu
    rw [← this]; exact hz
abbrev s__law_river : Stmt := top 31
theorem sc__law_river : FnScope ["cell", "xs", "size", "up", "k", "step", "places", "below"] ["cell"] (defScope s__law_river) := ⟨rfl, rfl, rfl, by decide +kernel, rfl, by decide +kernel, by decide +kernel⟩
def sp_river (T : Tabs) : Sp := fun vs H Q _ => ∃ (c : Int), vs = [.int c] ∧ TabsOk T H ∧ RetLT T H (fun xs => ∃ r, xs = r.map V.int ∧ Rv.River r ∧ 1 ≤ r.length ∧ r.length ≤ 40) Q
section
variable {P : Program} {w : World} {K : PySem.W.Frag} {mg : Str → Option Value} {base : Heap} {T : Tabs}
theorem ok_river {f f1 : Addr} {fd fd1 : FuncData} (D : Df K mg "_law_river" s__law_river ["cell"] f fd) (B : Blt mg)
    (D__law_draws : Df K mg "_law_draws" s__law_draws ["cell", "many"] f1 fd1) (G__law_draws : FnOk P w K mg base CX0 1 f1 fd1 ["cell", "many"] (sp_dws T)) : FnOk P w K mg base CX0 2 f fd ["cell"] (sp_river T) := by
  refine D.F.ok sc__law_river (fun vs H Q E h => ?_) (fun cdv A outer s H vs Q E hr h => ?_)
  · obtain ⟨_, rfl, _⟩ := h; rfl
  · obtain ⟨c, rfl, tk, q⟩ := h
    change ∃ t, PSs _ (_ :: _) t ∧ _
    refine ⟨_, (pss_cons (ps_set (i := 1) sc__law_river.nd rfl (Or.inr rfl) (pe_call G__law_draws (hr.mono (by decide)) rfl D__law_draws.m D__law_draws.F.kp D__law_draws.b .nil pass0 (pa_cons (pe_op op_fdiv (pv 0) pe_int) (pa_cons pe_int pa_nil))))
      (pss_cons (ps_set (i := 2) sc__law_river.nd rfl (Or.inr rfl) (pe_op op_add pe_int (pe_op op_mod (pe_ix ix_list (pv 1) pe_int (fun _ _ => rfl)) pe_int)))
      (pss_consM (ps_if (pt_cmpR op_eq (pe_op op_mod (pv 0) pe_int) pe_int (nomark _))
        (pss_one (ps_set (i := 2) sc__law_river.nd rfl (Or.inr rfl) (pe_op op_add pe_int (pe_op op_mod (pe_ix ix_list (pv 1) pe_int (fun _ _ => rfl)) pe_int))))
        pss_nil)
      (pss_cons (ps_set (i := 3) sc__law_river.nd rfl (Or.inl rfl) (pe_lst pa_nil))
      (pss_cons (ps_for PassesOwn.never rfl (pi_range1 rfl B.range (pa_cons (pv 2) pa_nil)) (pg_name (i := 4) sc__law_river.nd rfl (Or.inl rfl))
        (pss_one (ps_if (PW.pt (pw_or (pt_cmpR op_eq (pv 4) pe_int (nomark _)) (pw_or1 (pt_cmpR op_eq (pe_op op_mod (pe_ix ix_list (pv 1) (pe_op op_add pe_int (pv 4)) (fun _ _ => rfl)) pe_int) pe_int (nomark _)))))
          (pss_one (ps_expr (pe_bm PySem.F.plainAttrs_list PySem.F.slot_list_append PySem.F.type_list_append mt_append (pv 3) (pa_cons (pe_un un_neg pe_int) pa_nil))))
          (pss_one (ps_if (pt_cmpR op_lt (pe_op op_mod (pe_ix ix_list (pv 1) (pe_op op_add pe_int (pv 4)) (fun _ _ => rfl)) pe_int) pe_int (nomark _))
            (pss_one (ps_expr (pe_bm PySem.F.plainAttrs_list PySem.F.slot_list_append PySem.F.type_list_append mt_append (pv 3) (pa_cons (pe_op op_sub (pv 4) pe_int) pa_nil))))
            (pss_one (ps_expr (pe_bm PySem.F.plainAttrs_list PySem.F.slot_list_append PySem.F.type_list_append mt_append (pv 3) (pa_cons (pe_op op_mod (pe_op op_fdiv (pe_ix ix_list (pv 1) (pe_op op_add pe_int (pv 4)) (fun _ _ => rfl)) pe_int) (pv 4)) pa_nil)))))))))
      (pss_cons (ps_set (i := 5) sc__law_river.nd rfl (Or.inr rfl) (pe_ix ix_list (pe_lst (pa_cons pe_int (pa_cons pe_int (pa_cons pe_int (pa_cons pe_int pa_nil))))) (pe_op op_mod (pe_ix ix_list (pv 1) pe_int (fun _ _ => rfl)) pe_int) (fun _ _ => rfl)))
      (pss_cons (ps_setComp (i := 6) (defScope s__law_river) rfl ["cell", "xs", "size", "up", "k", "step", "places", "below"] rfl ["k", "size", "step", "xs"] [none, some 2, some 5, some 1] (by decide +kernel) (by decide +kernel) (by decide +kernel) rfl sc__law_river.nd rfl rfl (pi_range1 rfl B.range (pa_cons (pv 2) pa_nil)) (fun _ _ _ => (pg_name (i := 0) (show (["k", "size", "step", "xs"] : List Str).Nodup by decide +kernel) rfl (Or.inl rfl))) (fun _ _ _ => pts_nil) (fun _ _ _ => (pe_op op_mod (pe_op op_add (pe_op op_mul (pv 2) (pv 0)) (pe_op op_fdiv (pe_ix (ix_listK (K := K) rfl) (pv 3) pe_int (fun _ _ => rfl)) pe_int)) (pv 1))) rfl)
      (pss_cons (ps_set (i := 7) sc__law_river.nd rfl (Or.inl rfl) (pe_op op_rep (pe_lst (pa_cons (pe_un un_neg pe_int) pa_nil)) (pv 2)))
      (pss_cons (ps_for PassesOwn.never rfl (pi_range1 rfl B.range (pa_cons (pv 2) pa_nil)) (pg_name (i := 4) sc__law_river.nd rfl (Or.inl rfl))
        (pss_one (ps_if (pt_cmpR op_ge (pe_ix ix_list (pv 3) (pv 4) (fun _ _ => rfl)) pe_int (nomark _))
          (pss_one (ps_asg (pe_ix ix_list (pv 6) (pe_ix ix_list (pv 3) (pv 4) (fun _ _ => rfl)) (fun _ _ => rfl)) (pg_sub (pv 7) (pe_ix ix_list (pv 6) (pv 4) (fun _ _ => rfl)) set_list)))
          pss_nil)))
      (pss_one (ps_ret (pv 7)))))))))))), ?_⟩
    have O := Ow.refl tk
    have s0 := O.same
    refine ⟨_, rfl, _, _, rfl, rfl, ⟨by decide, by decide⟩, _, 42, rfl, by decide, by decide, tk, O.gotT fun lx H1 xs O e => ?_⟩
    obtain ⟨ys, rfl, hyl, hyb⟩ := e
    have hyl : ys.length = 42 := hyl
    have yn : ∀ k, 0 ≤ ys.getD k 0 := fun k => by
      by_cases hk : k < ys.length
      · exact (hyb _ (getD_mem' hk)).1
      · rw [List.getD_eq_getElem?_getD, List.getElem?_eq_none (by omega)]; exact Int.le_refl _
    clear hyb
    refine ⟨_, rfl, lx, _, 0, _, rfl, rfl, O.sq 0, ints_atZ (by omega) (by omega), _, _, rfl, rfl, (by show (0 : Int) < 12; decide), _, _, rfl, rfl, ?_⟩
    refine ⟨fun σ H' => Iv (∃ n : Nat, σ = [some (.int c), some (.ref lx), some (.int (n : Int)), none, none, none, none, none] ∧ 1 ≤ n ∧ n ≤ 40 ∧ H' = H1), ?_, ?_⟩
    · refine ⟨_, rfl, _, _, rfl, rfl, (by show (0 : Int) < 8; decide), rfl, _, rfl, ifI (fun hc => ?_) fun hc => ?_⟩
      · refine ⟨_, rfl, lx, _, 0, _, rfl, rfl, O.sq 0, ints_atZ (by omega) (by omega), _, _, rfl, rfl, (by show (0 : Int) < 40; decide), _, _, rfl, rfl, ?_⟩
        have e : ((1 + ys.getD (0 : Int).toNat 0 % 40).toNat : Int) = 1 + ys.getD (0 : Int).toNat 0 % 40 := Int.toNat_of_nonneg (by omega)
        exact ⟨trivial, (1 + ys.getD (0 : Int).toNat 0 % 40).toNat, by rw [e]; rfl, by omega, by omega, rfl⟩
      · have e : ((1 + ys.getD (0 : Int).toNat 0 % 12).toNat : Int) = 1 + ys.getD (0 : Int).toNat 0 % 12 := Int.toNat_of_nonneg (by omega)
        exact ⟨trivial, (1 + ys.getD (0 : Int).toNat 0 % 12).toNat, by rw [e]; rfl, by omega, by omega, rfl⟩
    rintro σ H2 ⟨-, n, rfl, n1, n40, rfl⟩
    refine ⟨szl, fun lu hlu => ?_⟩
    walk_at "nw"
    refine ⟨_, rfl, (n : Int), rfl, by omega, by omega, ?_⟩
    rw [Int.toNat_natCast]
    refine for_range (n := n) (fun i σ H' => Iv (∃ (v4 : Option V) (up : List Int), σ = [some (.int c), some (.ref lx), some (.int (n : Int)), some (.ref lu), v4, none, none, none] ∧ up.length = i ∧ UpOk up ∧ Ow T H H' [(lu, .lst (up.map V.int)), (lx, .lst (ys.map V.int))]))
      ⟨trivial, none, [], rfl, rfl, (fun j u h => by simp at h), O⟩ ?_ ?_
    · rintro i σ H3 hi ⟨-, v4, up, rfl, hul, hup, O⟩
      rw [show (0 : Int) + (i : Int) = (i : Int) by omega]
      have yi := yn (2 + (i : Int)).toNat
      have mm : (i : Int) ≠ 0 → 0 ≤ ys.getD (2 + (i : Int)).toNat 0 / 6 % (i : Int) ∧ ys.getD (2 + (i : Int)).toNat 0 / 6 % (i : Int) < (i : Int) := fun h => ⟨Int.emod_nonneg _ h, Int.emod_lt_of_pos _ (by omega)⟩
      have fin : ∀ (z : Int) (H' : Hp), (z = -1 ∨ (0 ≤ z ∧ z < (i : Int))) → Ow T H H' [(lu, .lst (up.map V.int ++ [.int z])), (lx, .lst (ys.map V.int))] → Iv (∃ (v4 : Option V) (up : List Int), [some (.int c), some (.ref lx), some (.int (n : Int)), some (.ref lu), some (.int (i : Int)), none, none, none] = [some (.int c), some (.ref lx), some (.int (n : Int)), some (.ref lu), v4, none, none, none] ∧ up.length = i + 1 ∧ UpOk up ∧ Ow T H H' [(lu, .lst (up.map V.int)), (lx, .lst (ys.map V.int))]) := fun z H' hz O => by
        rw [map_snoc] at O
        exact ⟨trivial, _, up ++ [z], rfl, by rw [List.length_append, hul]; rfl, up_snoc hul hup hz, O⟩
      refine ⟨_, rfl, rfl, _, rfl, ifI (fun h0 => iteT ?_) fun h0 => ?_⟩
      · refine ⟨_, rfl, .inl ⟨rfl, _, O.sq 0⟩, _, rfl, lu, _, _, rfl, rfl, O.get 0, small100' (by rw [List.length_map]; omega), ?_⟩
        walk_at "pt"
        exact fin (-1) _ (.inl rfl) O
      obtain ⟨m0, m1⟩ := mm h0
      refine ⟨_, rfl, _, rfl, _, _, rfl, rfl, lx, _, _, _, rfl, rfl, O.sq 1, ints_atZ (by omega) (by omega), _, _, rfl, rfl, (by show (0 : Int) < 6; decide), rfl, _, rfl, ifI (fun h1 => ?_) fun h1 => ?_⟩
      · refine ⟨_, rfl, .inl ⟨rfl, _, O.sq 0⟩, _, rfl, lu, _, _, rfl, rfl, O.get 0, small100' (by rw [List.length_map]; omega), ?_⟩
        walk_at "pt"
        exact fin (-1) _ (.inl rfl) O
      refine ⟨_, rfl, _, rfl, _, _, rfl, rfl, lx, _, _, _, rfl, rfl, O.sq 1, ints_atZ (by omega) (by omega), _, _, rfl, rfl, (by show (0 : Int) < 6; decide), _, _, rfl, rfl, _, rfl, ifD (fun h2 => ?_) fun h2 => ?_⟩
      · refine ⟨_, rfl, .inl ⟨rfl, _, O.sq 0⟩, _, rfl, _, _, rfl, rfl, lu, _, _, rfl, rfl, O.get 0, small100' (by rw [List.length_map]; omega), ?_⟩
        walk_at "pt"
        exact fin ((i : Int) - 1) _ (.inr ⟨by omega, by omega⟩) O
      · refine ⟨_, rfl, .inl ⟨rfl, _, O.sq 0⟩, _, rfl, _, rfl, _, _, rfl, rfl, lx, _, _, _, rfl, rfl, O.sq 1, ints_atZ (by omega) (by omega), _, _, rfl, rfl, ⟨by decide, by decide⟩, _, rfl, _, _, rfl, rfl, (by show (0 : Int) < (i : Int); omega), lu, _, _, rfl, rfl, O.get 0, small100' (by rw [List.length_map]; omega), ?_⟩
        walk_at "pt"
        exact fin _ _ (.inr ⟨m0, m1⟩) O
    rintro σ H3 ⟨-, v4, up, rfl, hul, hup, O⟩
    obtain ⟨st, hv, hst⟩ := pick4s (w := ys.getD (1 : Int).toNat 0 % 4) (Int.emod_nonneg _ (by decide)) (Int.emod_lt_of_pos _ (by decide))
    refine ⟨szl, fun l1 h1 => ?_⟩
    walk_at "nw"
    refine ⟨_, rfl, lx, _, 1, _, rfl, rfl, O.sq 2, ints_atZ (by omega) (by omega), _, _, rfl, rfl, (by show (0 : Int) < 4; decide), l1, _, _, _, rfl, rfl, O.sq 0, hv, ?_⟩
    have O := O.tail
    have nn : (0 : Int) < (n : Int) := by omega
    refine ⟨_, rfl, (n : Int), rfl, by omega, by omega, fun lp hlp => ?_⟩
    refine comp_range (fun i τ H' => Iv (∃ (v0 : Option V), τ = [v0, some (.int (n : Int)), some (.int st), some (.ref lx)] ∧ Ow T H H' [(lp, .lst ((Rv.spotsB n st (ys.getD (1 : Int).toNat 0 / 4) i).map V.int)), (lu, .lst (up.map V.int)), (lx, .lst (ys.map V.int))])) ⟨trivial, none, rfl, O.mk' hlp rfl⟩ ?_ ?_
    · rintro i τ H4 hi ⟨-, v0, rfl, O⟩
      rw [show (0 : Int) + (i : Int) = (i : Int) by omega]
      refine yesT ?_
      refine ⟨_, rfl, _, rfl, _, _, rfl, rfl, .inl ⟨by omega, by omega⟩, _, rfl, lx, _, 1, _, rfl, rfl, O.sq 2, ints_atZ (by omega) (by omega), _, _, rfl, rfl, ⟨by decide, by decide⟩, _, _, rfl, rfl, _, rfl, _, _, rfl, rfl, nn, ?_⟩
      refine ⟨_, O.get 0, small100' (by rw [List.length_map, Rv.spotsB_len]; omega), ?_⟩
      walk_at "pt"
      refine ⟨trivial, _, rfl, ?_⟩
      rw [Rv.spotsB_succ, List.map_append]; exact O
    rintro τ H4 ⟨-, v0, rfl, O⟩
    rw [Int.toNat_natCast] at O
    generalize ys.getD (1 : Int).toNat 0 / 4 = x1 at O
    refine ⟨_, rfl, szl, fun l2 h2 => ?_⟩
    walk_at "nw"
    refine ⟨_, rfl, l2, _, _, rfl, rfl, O.get 0, by omega, by omega, small100 (by rw [Int.toNat_natCast]; simp; omega), fun lb hlb => ?_⟩
    walk_at "nw"
    rw [Int.toNat_natCast, rep_intsV] at O
    have O := O.two
    refine ⟨_, rfl, (n : Int), rfl, by omega, by omega, ?_⟩
    rw [Int.toNat_natCast]
    refine for_range (n := n) (fun i σ H' => Iv (∃ (v4 : Option V) (b : List Int), σ = [some (.int c), some (.ref lx), some (.int (n : Int)), some (.ref lu), v4, some (.int st), some (.ref lp), some (.ref lb)] ∧ Rv.Lnk n (Rv.spotB n st x1) i b ∧
      Ow T H H' [(lb, .lst (b.map V.int)), (lp, .lst ((Rv.spotsB n st x1 n).map V.int)), (lu, .lst (up.map V.int)), (lx, .lst (ys.map V.int))])) ⟨trivial, _, _, rfl, Rv.Lnk.start0 _ _, O⟩ ?_ ?_
    · rintro i σ H5 hi ⟨-, v4, b, rfl, L, O⟩
      rw [show (0 : Int) + (i : Int) = (i : Int) by omega]
      obtain ⟨u, hu⟩ : ∃ u, up[i]? = some u := ⟨_, List.getElem?_eq_getElem (by omega)⟩
      refine ⟨_, rfl, _, rfl, lu, _, _, _, rfl, rfl, O.sq 2, ints_at hu, _, _, rfl, rfl, _, rfl, ifD (fun hc => ?_) fun hc => ?_⟩
      · obtain ⟨j, rfl⟩ := Int.eq_ofNat_of_zero_le (show 0 ≤ u from hc)
        have hj : j < i := by rcases hup i _ hu with e | e <;> omega
        refine ⟨_, rfl, _, rfl, _, rfl, lu, _, _, _, rfl, rfl, O.sq 2, ints_at hu, lp, _, _, _, rfl, rfl, O.sq 1, ints_at (Rv.spotsB_at (by omega)), ?_⟩
        have p0 := Rv.spotB_nn (x := x1) (s := st) nn i
        have p1 := Rv.spotB_lt (x := x1) (s := st) nn i
        refine ⟨_, rfl, _, rfl, _, rfl, lp, _, _, _, rfl, rfl, O.sq 1, ints_at (Rv.spotsB_at (by omega)), lb, _, _, _, rfl, rfl, O.get 0, ixN_Z p0 (by rw [List.length_map, L.len]; exact p1), ?_⟩
        walk_at "pt"
        refine ⟨trivial, _, _, rfl, L.turn (by omega) hj p0, ?_⟩
        rw [List.map_set]; exact O
      · exact ⟨trivial, _, b, rfl, L.skip, O⟩
    · rintro σ H5 ⟨-, v4, b, rfl, L, O⟩
      refine ⟨_, rfl, O.ret 0 rfl q ⟨b, rfl, L.river (Rv.spotB_nn nn) (Rv.spotB_lt nn) (fun j k hj hk h => Rv.spotB_inj n40 hst hj hk h) n1, by rw [L.len]; exact n1, by rw [L.len]; exact n40⟩⟩
end
abbrev s__law_way : Stmt := top 32
theorem sc__law_way : FnScope ["below", "start", "way", "at"] ["below", "start"] (defScope s__law_way) := ⟨rfl, rfl, rfl, by decide +kernel, rfl, by decide +kernel, by decide +kernel⟩
def sp_lway (K : PySem.W.Frag) (T : Tabs) : Sp := fun vs H Q _ => ∃ (a : Addr) (r : List Int) (p : Int), vs = [.ref a, .int p] ∧ SqL K H a (r.map V.int) ∧ Rv.River r ∧ 0 ≤ p ∧ p < r.length ∧ r.length ≤ 900 ∧ TabsOk T H ∧ RetLT T H (fun xs => xs = (Rv.walk r p).map V.int) Q
section
variable {P : Program} {w : World} {K : PySem.W.Frag} {mg : Str → Option Value} {base : Heap}
theorem ok_lway {f : Addr} {fd : FuncData} {T : Tabs} (D : Df K mg "_law_way" s__law_way ["below", "start"] f fd) : FnOk P w K mg base CX0 1 f fd ["below", "start"] (sp_lway K T) := by
  refine D.F.ok sc__law_way (fun vs H Q E h => ?_) (fun cdv A outer s H vs Q E hr h => ?_)
  · obtain ⟨a, r, p, rfl, _⟩ := h; rfl
  · obtain ⟨a, r, p, rfl, hS, hR, p0, p1, hn, tk, q⟩ := h
    refine ⟨_, (pss_cons (ps_set (i := 2) sc__law_way.nd rfl (Or.inl rfl) (pe_lst pa_nil))
      (pss_cons (ps_set (i := 3) sc__law_way.nd rfl (Or.inl rfl) (pv 1))
      (pss_cons (ps_while PassesOwn.never (pt_cmpR op_ne (pv 3) (pe_un un_neg pe_int) (nomark _))
        (pss_cons (ps_expr (pe_bm PySem.F.plainAttrs_list PySem.F.slot_list_append PySem.F.type_list_append mt_append (pv 2) (pa_cons (pv 3) pa_nil)))
        (pss_one (ps_set (i := 3) sc__law_way.nd rfl (Or.inl rfl) (pe_ix ix_list (pv 0) (pv 3) (fun _ _ => rfl))))))
      (pss_one (ps_ret (pv 2)))))), ?_⟩
    have O := Ow.refl tk
    refine ⟨szl, fun lw hlw => ?_⟩
    walk_at "nw"
    refine ⟨_, rfl, ?_⟩
    refine ⟨fun m σ H2 => ∃ (pre : List Int) (z : Int), σ = [some (.ref a), some (.int p), some (.ref lw), some (.int z)] ∧ Ow T H H2 [(lw, .lst (pre.map V.int))] ∧ (z = -1 ∨ (0 ≤ z ∧ z < r.length)) ∧ pre ++ Rv.walk r z = Rv.walk r p ∧ m = Rv.mea r z,
      ⟨_, [], p, rfl, O, .inr ⟨p0, p1⟩, rfl, rfl⟩, ?_⟩
    rintro m σ H2 ⟨pre, z, rfl, O, hz, e, rfl⟩
    refine ⟨_, rfl, _, rfl, rfl, _, rfl, ?_⟩
    rcases hz with rfl | ⟨z0, z1⟩
    · refine iteNS rfl ?_
      rw [Rv.walk_neg, List.append_nil] at e
      exact ⟨_, rfl, O.ret 0 rfl q (by rw [e])⟩
    · have hd : (!decide (V.int z = V.int (-1))) = true := by
        have : ¬ z = -1 := by omega
        simp [this]
      rw [hd]
      refine iteT ?_
      have hlen : pre.length + (Rv.walk r z).length ≤ r.length + 1 := by
        have := Rv.walk_len r p
        rw [← e, List.length_append] at this; exact this
      refine ⟨fun σ' H' => ∃ m', m' < Rv.mea r z ∧ ∃ (pre : List Int) (z : Int), σ' = [some (.ref a), some (.int p), some (.ref lw), some (.int z)] ∧ Ow T H H' [(lw, .lst (pre.map V.int))] ∧ (z = -1 ∨ (0 ≤ z ∧ z < r.length)) ∧ pre ++ Rv.walk r z = Rv.walk r p ∧ m' = Rv.mea r z, fun _ _ x => x, ?_⟩
      have g := Rv.get_nxt z0 z1
      refine ⟨_, rfl, .inl ⟨rfl, _, O.sq 0⟩, _, rfl, lw, _, _, rfl, rfl, O.get 0, small100' (by rw [List.length_map]; omega), ?_⟩
      walk_at "pt"
      refine ⟨_, rfl, _, rfl, a, _, _, _, rfl, rfl, O.same.seq hS, ints_atI z0 g, ?_⟩
      refine ⟨_, Rv.mea_lt hR z0 z1, pre ++ [z], Rv.nxt r z, rfl, ?_, hR.step z0 z1, ?_, rfl⟩
      · rw [List.map_append]; exact O
      · rw [List.append_assoc]
        show pre ++ (z :: Rv.walk r (Rv.nxt r z)) = _
        rw [← Rv.walk_cons hR z0 z1]; exact e
end
abbrev s__law_amount : Stmt := top 33
theorem sc__law_amount : FnScope ["number", "kind"] ["number", "kind"] (defScope s__law_amount) := ⟨rfl, rfl, rfl, by decide +kernel, rfl, by decide +kernel, by decide +kernel⟩
def sp_amt : Sp := fun vs H Q _ => ∃ (n k : Int), vs = [.int n, .int k] ∧ ∀ z, 0 ≤ z → z ≤ 1000000000000 → Q (.int z) H
section
variable {P : Program} {w : World} {K : PySem.W.Frag} {mg : Str → Option Value} {base : Heap}
theorem ok_amt {f : Addr} {fd : FuncData} (D : Df K mg "_law_amount" s__law_amount ["number", "kind"] f fd) : FnOk P w K mg base CX0 1 f fd ["number", "kind"] sp_amt := by
  refine D.F.ok sc__law_amount (fun vs H Q E h => ?_) (fun cdv A outer s H vs Q E hr h => ?_)
  · obtain ⟨_, _, rfl, _⟩ := h; rfl
  · obtain ⟨n, kd, rfl, q⟩ := h
    have O := Ow.refl0 H
    have s0 := O.same
    refine ⟨_, (pss_cons (ps_if (PW.pt (pw_or (pt_cmpR op_eq (pv 1) pe_int (nomark _)) (pw_or1 (PW.pt (pw_and (pt_cmpR op_eq (pv 1) pe_int (nomark _)) (pw_and1 (pt_cmpR op_eq (pe_op op_mod (pv 0) pe_int) pe_int (nomark _))))))))
        (pss_one (ps_ret (pe_op op_mod (pe_op op_fdiv (pv 0) pe_int) pe_int)))
        pss_nil)
      (pss_cons (ps_if (pt_cmpR op_eq (pe_op op_mod (pe_op op_fdiv (pv 0) pe_int) pe_int) pe_int (nomark _))
        (pss_one (ps_ret (pe_op op_pow pe_int pe_int)))
        pss_nil)
      (pss_cons (ps_if (pt_cmpR op_eq (pe_op op_mod (pe_op op_fdiv (pv 0) pe_int) pe_int) pe_int (nomark _))
        (pss_one (ps_ret (pe_op op_mod (pe_op op_fdiv (pv 0) pe_int) (pe_op op_pow pe_int pe_int))))
        pss_nil)
      (pss_one (ps_ret (pe_op op_mod (pe_op op_mul (pe_op op_fdiv (pv 0) pe_int) pe_int) (pe_op op_add (pe_op op_pow pe_int pe_int) pe_int))))))), ?_⟩
    have e5 : (10 : Int) ^ (5 : Int).toNat = 100000 := by decide
    have e12 : (10 : Int) ^ (12 : Int).toNat = 1000000000000 := by decide
    have q1 : Q (.int (n / 2 % 10)) H := q _ (by omega) (by omega)
    have q2 : Q (.int (10 ^ (12 : Int).toNat)) H := q _ (by decide) (by decide)
    have q3 : Q (.int (n / 16 % 10 ^ (5 : Int).toNat)) H := by rw [e5]; exact q _ (by omega) (by omega)
    have q4 : Q (.int (n / 16 * 731428571 % (10 ^ (12 : Int).toNat + 1))) H := by rw [e12]; exact q _ (by omega) (by omega)
    walk_at "go"
    all_goals first
      | exact q1
      | exact q2
      | exact q3
      | exact q4
end
abbrev s__law_roll : Stmt := top 35
theorem sc__law_roll : FnScope ["cell", "below", "kind", "many", "roll", "k", "xs", "start", "way", "back"] ["cell", "below", "kind"] (defScope s__law_roll) := ⟨rfl, rfl, rfl, by decide +kernel, rfl, by decide +kernel, by decide +kernel⟩
def sp_rol (K : PySem.W.Frag) (T : Tabs) : Sp := fun vs H Q _ => ∃ (c kd : Int) (a : Addr) (r : List Int), vs = [.int c, .ref a, .int kd] ∧ SqL K H a (r.map V.int) ∧ Rv.River r ∧ 1 ≤ r.length ∧ r.length ≤ 900 ∧ TabsOk T H ∧
  ∀ (l : Addr) (H1 H' : Hp) (us : List V) (ls : List Lic), SameT T H H1 → Ow T H1 H' [(l, .lst us)] → Dens K H1 us (ls.map dLic) → 1 ≤ ls.length → ls.length ≤ 60 → (∀ l ∈ ls, 0 ≤ l.start ∧ l.start < (r.length : Int)) → Q (.ref l) H'
section
variable {P : Program} {w : World} {K : PySem.W.Frag} {mg : Str → Option Value} {base : Heap} {T : Tabs}
theorem ok_rol {f f1 f2 f3 : Addr} {fd fd1 fd2 fd3 : FuncData} (D : Df K mg "_law_roll" s__law_roll ["cell", "below", "kind"] f fd) (B : Blt mg)
    (D__law_draws : Df K mg "_law_draws" s__law_draws ["cell", "many"] f1 fd1) (G__law_draws : FnOk P w K mg base CX0 1 f1 fd1 ["cell", "many"] (sp_dws T))
    (D__law_way : Df K mg "_law_way" s__law_way ["below", "start"] f2 fd2) (G__law_way : FnOk P w K mg base CX0 1 f2 fd2 ["below", "start"] (sp_lway K T))
    (D__law_amount : Df K mg "_law_amount" s__law_amount ["number", "kind"] f3 fd3) (G__law_amount : FnOk P w K mg base CX0 1 f3 fd3 ["number", "kind"] sp_amt) : FnOk P w K mg base CX0 2 f fd ["cell", "below", "kind"] (sp_rol K T) := by
  refine D.F.ok sc__law_roll (fun vs H Q E h => ?_) (fun cdv A outer s H vs Q E hr h => ?_)
  · obtain ⟨_, _, _, _, rfl, _⟩ := h; rfl
  · obtain ⟨c, kd, a, r, rfl, hA, hR, r1, r9, tk, q⟩ := h
    have hml : ((r.map V.int).length : Int) = (r.length : Int) := by rw [List.length_map]
    refine ⟨_, (pss_cons (ps_set (i := 3) sc__law_roll.nd rfl (Or.inl rfl) (pe_op op_add pe_int (pe_op op_mod (pe_op op_fdiv (pv 0) pe_int) pe_int)))
      (pss_consM (ps_if (pt_cmpR op_eq (pe_op op_mod (pv 0) pe_int) pe_int (nomark _))
        (pss_one (ps_set (i := 3) sc__law_roll.nd rfl (Or.inl rfl) (pe_op op_add pe_int (pe_op op_mod (pe_op op_fdiv (pv 0) pe_int) pe_int))))
        pss_nil)
      (pss_cons (ps_set (i := 4) sc__law_roll.nd rfl (Or.inl rfl) (pe_lst pa_nil))
      (pss_cons (ps_for PassesOwn.never rfl (pi_range1 rfl B.range (pa_cons (pv 3) pa_nil)) (pg_name (i := 5) sc__law_roll.nd rfl (Or.inl rfl))
        (pss_cons (ps_set (i := 6) sc__law_roll.nd rfl (Or.inl rfl) (pe_call G__law_draws (hr.mono (by decide)) rfl D__law_draws.m D__law_draws.F.kp D__law_draws.b .nil pass0 (pa_cons (pe_op op_add (pe_op op_fdiv (pv 0) pe_int) (pe_op op_mul pe_int (pe_op op_add (pv 5) pe_int))) (pa_cons pe_int pa_nil))))
        (pss_cons (ps_set (i := 7) sc__law_roll.nd rfl (Or.inl rfl) (pe_op op_mod (pe_ix ix_list (pv 6) pe_int (fun _ _ => rfl)) (pe_callB call_len_seq rfl B.len PySem.boot_len (pa_cons (pv 1) pa_nil))))
        (pss_cons (ps_set (i := 8) sc__law_roll.nd rfl (Or.inl rfl) (pe_call G__law_way (hr.mono (by decide)) rfl D__law_way.m D__law_way.F.kp D__law_way.b .nil pass0 (pa_cons (pv 1) (pa_cons (pv 7) pa_nil))))
        (pss_cons (ps_set (i := 9) sc__law_roll.nd rfl (Or.inl rfl) (pe_un un_neg pe_int))
        (pss_consM (ps_if (PW.pt (pw_and (pt_cmpR op_gt (pv 5) pe_int (nomark _)) (pw_and (pt_cmpR op_eq (pe_op op_mod (pe_ix ix_list (pv 6) pe_int (fun _ _ => rfl)) pe_int) pe_int (nomark _)) (pw_and1 (pt_cmpR op_gt (pe_callB call_len_seq rfl B.len PySem.boot_len (pa_cons (pv 8) pa_nil)) pe_int (nomark _))))))
          (pss_one (ps_set (i := 9) sc__law_roll.nd rfl (Or.inl rfl) (pe_ix ix_list (pv 8) (pe_op op_add pe_int (pe_op op_mod (pe_op op_fdiv (pe_ix ix_list (pv 6) pe_int (fun _ _ => rfl)) pe_int) (pe_op op_sub (pe_callB call_len_seq rfl B.len PySem.boot_len (pa_cons (pv 8) pa_nil)) pe_int))) (fun _ _ => rfl))))
          pss_nil)
        (pss_one (ps_expr (pe_bm PySem.F.plainAttrs_list PySem.F.slot_list_append PySem.F.type_list_append mt_append (pv 4) (pa_cons (pe_tup (pa_cons (pe_op op_mul (pe_op op_mod (pe_ix ix_list (pv 6) pe_int (fun _ _ => rfl)) pe_int) pe_int) (pa_cons (pv 7) (pa_cons (pv 9) (pa_cons (pe_call G__law_amount (hr.mono (by decide)) rfl D__law_amount.m D__law_amount.F.kp D__law_amount.b .nil pass0 (pa_cons (pe_ix ix_list (pv 6) pe_int (fun _ _ => rfl)) (pa_cons (pv 2) pa_nil))) pa_nil))))) pa_nil))))))))))
      (pss_one (ps_ret (pv 4))))))), ?_⟩
    have O := Ow.refl tk
    have s0 := O.same
    refine ⟨_, rfl, _, _, rfl, rfl, ⟨by decide, by decide⟩, _, _, rfl, rfl, (by show (0 : Int) < 12; decide), _, _, rfl, rfl, ?_⟩
    refine ⟨fun σ H' => Iv (∃ m : Nat, σ = [some (.int c), some (.ref a), some (.int kd), some (.int (m : Int)), none, none, none, none, none, none] ∧ 1 ≤ m ∧ m ≤ 60 ∧ H' = H), ?_, ?_⟩
    · refine ⟨_, rfl, _, _, rfl, rfl, (by show (0 : Int) < 8; decide), rfl, _, rfl, ifI (fun hc => ?_) fun hc => ?_⟩
      · refine ⟨_, rfl, _, _, rfl, rfl, ⟨by decide, by decide⟩, _, _, rfl, rfl, (by show (0 : Int) < 60; decide), _, _, rfl, rfl, ?_⟩
        have e : ((1 + c / 8 % 60).toNat : Int) = 1 + c / 8 % 60 := Int.toNat_of_nonneg (by omega)
        exact ⟨trivial, (1 + c / 8 % 60).toNat, by rw [e]; rfl, by omega, by omega, rfl⟩
      · have e : ((1 + c / 8 % 12).toNat : Int) = 1 + c / 8 % 12 := Int.toNat_of_nonneg (by omega)
        exact ⟨trivial, (1 + c / 8 % 12).toNat, by rw [e]; rfl, by omega, by omega, rfl⟩
    rintro σ H2 ⟨-, m, rfl, m1, m60, e2⟩
    rw [e2]
    clear e2
    refine ⟨szl, fun lr hlr => ?_⟩
    walk_at "nw"
    refine ⟨_, rfl, (m : Int), rfl, by omega, by omega, ?_⟩
    rw [Int.toNat_natCast]
    refine for_range (n := m) (fun i σ H' => Iv (∃ (v5 v6 v7 v8 v9 : Option V) (Hb : Hp) (us : List V) (ls : List Lic), σ = [some (.int c), some (.ref a), some (.int kd), some (.int (m : Int)), some (.ref lr), v5, v6, v7, v8, v9] ∧ SameT T H Hb ∧ Dens K Hb us (ls.map dLic) ∧ ls.length = i ∧ (∀ l ∈ ls, 0 ≤ l.start ∧ l.start < (r.length : Int)) ∧ Ow T Hb H' [(lr, .lst us)]))
      ⟨trivial, none, none, none, none, none, H, [], [], rfl, SameT.refl tk, .nil, rfl, (fun l hl => nomatch hl), O⟩ ?_ ?_
    · rintro i σ H3 hi ⟨-, v5, v6, v7, v8, v9, Hb, us, ls, rfl, sb, d0, hli, hrg, O⟩
      rw [show (0 : Int) + (i : Int) = (i : Int) by omega]
      have hul : us.length = ls.length := by rw [d0.length, List.length_map]
      refine ⟨_, rfl, _, _, rfl, rfl, ⟨by decide, by decide⟩, _, rfl, _, _, rfl, rfl, _, _, rfl, rfl, .inl ⟨by decide, by decide⟩, _, _, rfl, rfl, _, 4, rfl, by decide, by decide, O.same.t1, O.gotT fun lx H4 xs O e => ?_⟩
      obtain ⟨ys, rfl, hyl, hyb⟩ := e
      have hyl : ys.length = 4 := hyl
      clear hyb
      have p0 := Int.emod_nonneg (ys.getD (0 : Int).toNat 0) (show (r.length : Int) ≠ 0 by omega)
      have p1 := Int.emod_lt_of_pos (ys.getD (0 : Int).toNat 0) (show (0 : Int) < (r.length : Int) by omega)
      refine ⟨_, rfl, lx, _, 0, _, rfl, rfl, O.sq 0, ints_atZ (by omega) (by omega), _, rfl, a, _, rfl, .inl ((sb.trans O.same).seq hA), _, _, rfl, rfl, (by rw [hml]; omega), ?_⟩
      dsimp only
      rw [hml]
      generalize ys.getD (0 : Int).toNat 0 % (r.length : Int) = st at p0 p1
      refine ⟨_, rfl, _, rfl, a, r, st, rfl, (sb.trans O.same).seq hA, hR, p0, p1, r9, O.same.t1, O.gotT fun lw H5 xs O e => ?_⟩
      subst e
      have hwm : (((Rv.walk r st).map V.int).length : Int) = ((Rv.walk r st).length : Int) := by rw [List.length_map]
      refine ⟨_, rfl, ?_⟩
      refine ⟨fun σ H' => Iv (∃ (bk : Int), σ = [some (.int c), some (.ref a), some (.int kd), some (.int (m : Int)), some (.ref lr), some (.int (i : Int)), some (.ref lx), some (.int st), some (.ref lw), some (.int bk)] ∧ H' = H5), ?_, ?_⟩
      · refine ⟨_, rfl, _, _, rfl, rfl, _, rfl, ifD (fun h1 => ?_) fun h1 => iteF ⟨trivial, _, rfl, rfl⟩⟩
        refine ⟨_, rfl, lx, _, 1, _, rfl, rfl, O.sq 1, ints_atZ (by omega) (by omega), _, _, rfl, rfl, (by show (0 : Int) < 3; decide), rfl, _, rfl, ifI (fun h2 => ?_) fun h2 => iteF ⟨trivial, _, rfl, rfl⟩⟩
        refine ⟨_, rfl, lw, _, rfl, .inl (O.sq 0), _, _, rfl, rfl, _, rfl, ifD (fun h3 => ?_) fun h3 => ⟨trivial, _, rfl, rfl⟩⟩
        rw [hwm] at h3
        have j0 := Int.emod_nonneg (ys.getD (1 : Int).toNat 0 / 3) (show ((Rv.walk r st).length : Int) - 1 ≠ 0 by omega)
        have j1 := Int.emod_lt_of_pos (ys.getD (1 : Int).toNat 0 / 3) (show (0 : Int) < ((Rv.walk r st).length : Int) - 1 by omega)
        refine ⟨_, rfl, _, rfl, lx, _, 1, _, rfl, rfl, O.sq 1, ints_atZ (by omega) (by omega), _, _, rfl, rfl, ⟨by decide, by decide⟩, _, rfl, lw, _, rfl, .inl (O.sq 0), _, _, rfl, rfl, _, _, rfl, rfl, (by rw [hwm]; omega), _, _, rfl, rfl, ?_⟩
        dsimp only
        rw [hwm]
        exact ⟨lw, _, _, _, rfl, rfl, O.sq 0, ints_atZ (by omega) (by omega), trivial, _, rfl, rfl⟩
      rintro σ H6 ⟨-, bk, rfl, rfl⟩
      refine ⟨_, rfl, .inl ⟨rfl, _, O.sq 2⟩, _, rfl, lx, _, 2, _, rfl, rfl, O.sq 1, ints_atZ (by omega) (by omega), _, _, rfl, rfl, (by show (0 : Int) < 4; decide), _, _, rfl, rfl, .inr ⟨by decide, by decide⟩, _, rfl, _, rfl, _, rfl, lx, _, 3, _, rfl, rfl, O.sq 1, ints_atZ (by omega) (by omega), _, rfl, _, _, rfl, fun z z0 z1 => ?_⟩
      refine ⟨szl, fun t ht => ?_⟩
      walk_at "nw"
      refine ⟨lr, _, _, rfl, rfl, O.get 3, small100' (by omega), ?_⟩
      walk_at "pt"
      obtain ⟨Hc, O, sc, en⟩ := O.frz
      refine ⟨trivial, _, _, _, _, _, Hc, us ++ [.ref t], ls ++ [⟨ys.getD (2 : Int).toNat 0 % 4 * 211, st, bk, z⟩], rfl, sb.trans sc, ?_, by rw [List.length_append, hli]; rfl, fun l hl => ?_, O.tail.tail⟩
      · rw [List.map_append]
        exact (d0.mo sc).append (.cons (Den.lic (l := ⟨ys.getD (2 : Int).toNat 0 % 4 * 211, st, bk, z⟩) (SqT.of en)) .nil)
      · rcases List.mem_append.mp hl with e | e
        · exact hrg l e
        · have e2 : l = ⟨ys.getD (2 : Int).toNat 0 % 4 * 211, st, bk, z⟩ := by simpa using e
          rw [e2]; exact ⟨p0, p1⟩
    rintro σ H3 ⟨-, v5, v6, v7, v8, v9, Hb, us, ls, rfl, sb, d0, hli, hrg, O⟩
    exact ⟨_, rfl, q lr Hb _ us ls sb O d0 (by omega) (by omega) hrg⟩
end
abbrev s__law_ponds : Stmt := top 36
theorem sc__law_ponds : FnScope ["cell", "roll", "kind", "xs", "order", "many", "ponds", "k", "pair"] ["cell", "roll", "kind"] (defScope s__law_ponds) := ⟨rfl, rfl, rfl, by decide +kernel, rfl, by decide +kernel, by decide +kernel⟩
structure PondsOk (n : Nat) (ps : List (Int × Int × Int)) : Prop where
  len : ps.length ≤ 10
  nd : (ps.map (·.1)).Nodup
  rg : ∀ p ∈ ps, 0 ≤ p.1 ∧ p.1 < (n : Int) ∧ 0 ≤ p.2.1 ∧ 0 ≤ p.2.2 ∧ p.2.2 ≤ 1000
def sp_pon (K : PySem.W.Frag) (T : Tabs) : Sp := fun vs H Q _ => ∃ (c kd : Int) (b : Addr) (rs : List V) (ls : List Lic), vs = [.int c, .ref b, .int kd] ∧ SqL K H b rs ∧ Dens K H rs (ls.map dLic) ∧ ls.length ≤ 60 ∧ TabsOk T H ∧
  ∀ (l : Addr) (H1 H' : Hp) (us : List V) (ps : List (Int × Int × Int)), SameT T H H1 → Ow T H1 H' [(l, .lst us)] → Dens K H1 us (ps.map dMv) → PondsOk ls.length ps → Q (.ref l) H'
theorem pw_snoc {qs : List (Int × Int)} {i : Nat} {x : Int} (h : (qs.map (·.2)).Pairwise (· < ·)) (h2 : ∀ z ∈ qs, 0 ≤ z.2 ∧ z.2 < (i : Int)) : ((qs ++ [(x, (i : Int))]).map (·.2)).Pairwise (· < ·) := by
  rw [List.map_append, List.pairwise_append]
  refine ⟨h, List.pairwise_singleton _ _, fun a ha b hb => ?_⟩
  obtain ⟨z, hz, rfl⟩ := List.mem_map.mp ha
  have : b = (i : Int) := by simpa using hb
  rw [this]; exact (h2 z hz).2
section
variable {P : Program} {w : World} {K : PySem.W.Frag} {mg : Str → Option Value} {base : Heap} {T : Tabs}
theorem ok_pon {f f1 f2 : Addr} {fd fd1 fd2 : FuncData} (D : Df K mg "_law_ponds" s__law_ponds ["cell", "roll", "kind"] f fd) (B : Blt mg) (D__law_amount : Df K mg "_law_amount" s__law_amount ["number", "kind"] f1 fd1) (G__law_amount : FnOk P w K mg base CX0 1 f1 fd1 ["number", "kind"] sp_amt)
    (D__law_draws : Df K mg "_law_draws" s__law_draws ["cell", "many"] f2 fd2) (G__law_draws : FnOk P w K mg base CX0 1 f2 fd2 ["cell", "many"] (sp_dws T)) : FnOk P w K mg base CX0 2 f fd ["cell", "roll", "kind"] (sp_pon K T) := by
  refine D.F.ok sc__law_ponds (fun vs H Q E h => ?_) (fun cdv A outer s H vs Q E hr h => ?_)
  · obtain ⟨_, _, _, _, _, rfl, _⟩ := h; rfl
  · obtain ⟨c, kd, b, rs, ls, rfl, hB, d0, hl60, tk, q⟩ := h
    have hrl : rs.length = ls.length := by rw [d0.length, List.length_map]
    have O := Ow.refl tk
    have s0 := O.same
    change ∃ t, PSs _ (_ :: _) t ∧ _
    refine ⟨_, (pss_cons (ps_set (i := 3) sc__law_ponds.nd rfl (Or.inr rfl) (pe_call G__law_draws (hr.mono (by decide)) rfl D__law_draws.m D__law_draws.F.kp D__law_draws.b .nil pass0 (pa_cons (pe_op op_fdiv (pv 0) pe_int) (pa_cons pe_int pa_nil))))
      (pss_cons (ps_set (i := 4) sc__law_ponds.nd rfl (Or.inl rfl) (pe_callB call_sortedP rfl B.sorted PyProof.Rows.boot_sorted (pa_cons (pe_comp (defScope s__law_ponds) rfl ["cell", "roll", "kind", "xs", "order", "many", "ponds", "k", "pair"] rfl ["k", "xs", "roll"] [none, some 3, some 1] (by decide +kernel) (by decide +kernel) (by decide +kernel) rfl (pi_range1 rfl B.range (pa_cons (pe_callB call_len_seq rfl B.len PySem.boot_len (pa_cons (pv 1) pa_nil)) pa_nil)) (fun _ _ _ => (pg_name (i := 0) (show (["k", "xs", "roll"] : List Str).Nodup by decide +kernel) rfl (Or.inl rfl))) (fun _ _ _ => (pts_one (pt_cmpR op_eq (pe_ix (ix_tupK (K := K) rfl) (pe_ix (ix_listK (K := K) rfl) (pv 2) (pv 0) (fun _ _ => rfl)) pe_int (fun _ _ => rfl)) (pe_un un_neg pe_int) (nomark _)))) (fun _ _ _ => (pe_tup (pa_cons (pe_ix (ix_listK (K := K) rfl) (pv 1) (pe_op op_add pe_int (pv 0)) (fun _ _ => rfl)) (pa_cons (pv 0) pa_nil))))) pa_nil)))
      (pss_cons (ps_set (i := 5) sc__law_ponds.nd rfl (Or.inl rfl) (pe_op op_add pe_int (pe_op op_mod (pe_op op_fdiv (pv 0) pe_int) pe_int)))
      (pss_consM (ps_if (pt_cmpR op_eq (pe_op op_mod (pv 0) pe_int) pe_int (nomark _))
        (pss_one (ps_set (i := 5) sc__law_ponds.nd rfl (Or.inl rfl) pe_int))
        pss_nil)
      (pss_cons (ps_set (i := 6) sc__law_ponds.nd rfl (Or.inl rfl) (pe_lst pa_nil))
      (pss_cons (ps_for PassesOwn.never rfl (pi_enum rfl B.enumerate (pa_cons (pe_slice sl_list (pv 4) po_none (po_some (pv 5))) pa_nil)) (pg_tup rfl (pgs_cons (pg_name (i := 7) sc__law_ponds.nd rfl (Or.inl rfl)) (pgs_cons (pg_name (i := 8) sc__law_ponds.nd rfl (Or.inl rfl)) pgs_nil)))
        (pss_one (ps_expr (pe_bm PySem.F.plainAttrs_list PySem.F.slot_list_append PySem.F.type_list_append mt_append (pv 6) (pa_cons (pe_tup (pa_cons (pe_ix ix_tup (pv 8) pe_int (fun _ _ => rfl)) (pa_cons (pe_call G__law_amount (hr.mono (by decide)) rfl D__law_amount.m D__law_amount.F.kp D__law_amount.b .nil pass0 (pa_cons (pe_ix ix_list (pv 3) (pe_op op_mul pe_int (pv 7)) (fun _ _ => rfl)) (pa_cons (pv 2) pa_nil))) (pa_cons (pe_op op_mod (pe_ix ix_list (pv 3) (pe_op op_add (pe_op op_mul pe_int (pv 7)) pe_int) (fun _ _ => rfl)) pe_int) pa_nil)))) pa_nil)))))
      (pss_one (ps_ret (pv 6))))))))), ?_⟩
    refine ⟨_, rfl, _, _, rfl, rfl, ⟨by decide, by decide⟩, _, 80, rfl, by decide, by decide, tk, O.gotT fun lx H1 xs O e => ?_⟩
    obtain ⟨ys, rfl, hyl, hyb⟩ := e
    have hyl : ys.length = 80 := hyl
    have yn : ∀ k, 0 ≤ ys.getD k 0 := fun k => by
      by_cases hk : k < ys.length
      · exact (hyb _ (getD_mem' hk)).1
      · rw [List.getD_eq_getElem?_getD, List.getElem?_eq_none (by omega)]; exact Int.le_refl _
    /- order -/
    refine ⟨_, rfl, b, _, rfl, .inl (O.same.seq hB), (rs.length : Int), rfl, by omega, by omega, fun lo hlo => ?_⟩
    refine comp_range (fun i τ H' => Iv (∃ (v0 : Option V) (Hc : Hp) (us : List V) (qs : List (Int × Int)), τ = [v0, some (.ref lx), some (.ref b)] ∧ SameT T H Hc ∧ Dens K Hc us (qs.map dPr) ∧ (qs.map (·.2)).Pairwise (· < ·) ∧ (∀ z ∈ qs, 0 ≤ z.2 ∧ z.2 < (i : Int)) ∧ qs.length ≤ i ∧ Ow T Hc H' [(lo, .lst us), (lx, .lst (ys.map V.int))]))
      ⟨trivial, none, H, [], [], rfl, SameT.refl tk, .nil, List.Pairwise.nil, (fun z hz => nomatch hz), Nat.le_refl _, O.mk' hlo rfl⟩ ?_ ?_
    · rintro i τ H3 hi ⟨-, v0, Hc, us, qs, rfl, sc, d1, hpw, hrg, hql, O⟩
      rw [show (0 : Int) + (i : Int) = (i : Int) by omega]
      have hi2 : i < ls.length := by rw [Int.toNat_natCast] at hi; omega
      obtain ⟨li, hli⟩ : ∃ li, ls[i]? = some li := ⟨_, List.getElem?_eq_getElem hi2⟩
      obtain ⟨al, hal, hT⟩ := d0.lic_at hli
      have hul : us.length = qs.length := by rw [d1.length, List.length_map]
      have wk : ∀ z ∈ qs, 0 ≤ z.2 ∧ z.2 < ((i + 1 : Nat) : Int) := fun z hz => by have := hrg z hz; omega
      refine ⟨_, rfl, _, rfl, b, _, _, _, rfl, rfl, (sc.trans O.same).seq hB, atI_nat hal, al, _, 2, _, rfl, rfl, (hT.mo sc).mo O.same, rfl, _, rfl, rfl, _, rfl, ifI (fun hc => ?_) fun hc => ?_⟩
      · refine ⟨_, rfl, _, rfl, _, _, rfl, rfl, lx, _, _, _, rfl, rfl, O.sq 1, ints_atZ (by omega) (by omega), _, rfl, szl, fun t ht => ?_⟩
        walk_at "nw"
        refine ⟨_, O.get 1, small100' (by omega), ?_⟩
        walk_at "pt"
        obtain ⟨Hd, O, sd, en⟩ := O.frz
        refine ⟨trivial, _, Hd, us ++ [.ref t], qs ++ [(ys.getD (20 + (i : Int)).toNat 0, (i : Int))], rfl, sc.trans sd, ?_, pw_snoc hpw hrg, fun z hz => ?_, by rw [List.length_append]; simp; omega, O⟩
        · rw [List.map_append]
          exact (d1.mo sd).append (.cons (Den.tup (ns := [ys.getD (20 + (i : Int)).toNat 0, (i : Int)]) (SqT.of en)) .nil)
        · rcases List.mem_append.mp hz with e | e
          · exact wk z e
          · have : z = (ys.getD (20 + (i : Int)).toNat 0, (i : Int)) := by simpa using e
            rw [this]; exact ⟨by omega, by show (i : Int) < _; omega⟩
      · exact ⟨trivial, _, Hc, us, qs, rfl, sc, d1, hpw, wk, by omega, O⟩
    rintro τ H3 ⟨-, v0, Hc, us, qs, rfl, sc, d1, hpw, hrg, hql, O⟩
    rw [Int.toNat_natCast] at hrg hql
    have hnd : (qs.map (·.2)).Nodup := hpw.imp fun h => Int.ne_of_lt h
    refine ⟨lo, us, qs, rfl, O.sq 0, d1.mo O.same, by omega, fun z hz => ⟨(hrg z hz).1, by have := (hrg z hz).2; omega⟩, hnd, fun lz pq hlz hperm => ?_⟩
    have hp2 := perm_getD (d := ((0, 0) : Int × Int)) hperm
    have d2 := d1.pick pq fun i hi => List.mem_range.mp (hperm.mem_iff.mp hi)
    walk_at "nw"
    generalize (pq.map fun i => us.getD i .non) = zs at O d2
    generalize (pq.map fun i => qs.getD i ((0, 0) : Int × Int)) = ps at d2 hp2
    have O := O.two
    have hps : ∀ z ∈ ps, 0 ≤ z.2 ∧ z.2 < (rs.length : Int) := fun z hz => hrg z (hp2.mem_iff.mp hz)
    have hpn : (ps.map (·.2)).Nodup := (hp2.map _).nodup_iff.mpr hnd
    clear hrg hnd hpw
    refine ⟨_, rfl, _, _, rfl, rfl, ⟨by decide, by decide⟩, _, _, rfl, rfl, (by show (0 : Int) < 10; decide), _, _, rfl, rfl, ?_⟩
    refine ⟨fun σ H' => Iv (∃ wn : Nat, σ = [some (.int c), some (.ref b), some (.int kd), some (.ref lx), some (.ref lz), some (.int (wn : Int)), none, none, none] ∧ wn ≤ 10 ∧ Ow T Hc H' [(lz, .lst zs), (lx, .lst (ys.map V.int))]), ?_, ?_⟩
    · refine ⟨_, rfl, _, _, rfl, rfl, (by show (0 : Int) < 8; decide), rfl, _, rfl, ifI (fun hc => ?_) fun hc => ?_⟩
      · exact ⟨trivial, 0, rfl, by omega, O⟩
      · have e : ((1 + c / 8 % 10).toNat : Int) = 1 + c / 8 % 10 := Int.toNat_of_nonneg (by omega)
        exact ⟨trivial, (1 + c / 8 % 10).toNat, by rw [e]; rfl, by omega, O⟩
    clear O
    rintro σ H4 ⟨-, wn, rfl, hwn, O⟩
    refine ⟨szl, fun lp hlp => ?_⟩
    walk_at "nw"
    refine ⟨_, rfl, _, rfl, _, rfl, lz, _, rfl, O.sq 1, fun l9 h9 => ?_⟩
    walk_at "nw"
    rw [cut_takeV] at O
    have dt : Dens K Hc (zs.take wn) ((ps.take wn).map dPr) := by rw [List.map_take]; exact d2.take wn
    have hpt : ∀ z ∈ ps.take wn, 0 ≤ z.2 ∧ z.2 < (rs.length : Int) := fun z hz => hps z (List.mem_of_mem_take hz)
    have hpm : ((ps.take wn).map (·.2)).Nodup := by rw [List.map_take]; exact hpn.sublist (List.take_sublist _ _)
    have hptl : (ps.take wn).length ≤ 10 := by rw [List.length_take]; omega
    generalize zs.take wn = zt at O dt
    generalize ps.take wn = pt at dt hpt hpm hptl
    have hztl : zt.length = pt.length := by rw [dt.length, List.length_map]
    refine ⟨l9, _, rfl, O.sq 0, ?_⟩
    refine for_enum (K := K) (xs := zt) (fun i σ H' => Iv (∃ (v7 v8 : Option V) (Hd : Hp) (us : List V) (gs : List (Int × Int × Int)), σ = [some (.int c), some (.ref b), some (.int kd), some (.ref lx), some (.ref lz), some (.int (wn : Int)), some (.ref lp), v7, v8] ∧ SameT T Hc Hd ∧ Dens K Hd us (gs.map dMv) ∧ gs.map (·.1) = (pt.take i).map (·.2) ∧ (∀ p ∈ gs, 0 ≤ p.1 ∧ p.1 < (rs.length : Int) ∧ 0 ≤ p.2.1 ∧ 0 ≤ p.2.2 ∧ p.2.2 ≤ 1000) ∧
      Ow T Hd H' [(l9, .lst zt), (lp, .lst us), (lz, .lst zs), (lx, .lst (ys.map V.int))]))
      ⟨trivial, none, none, Hc, [], [], rfl, SameT.refl O.same.t0, .nil, rfl, (fun p hp => nomatch hp), O⟩ (fun _ _ _ _ ⟨_, _, _, _, _, _, _, _, _, _, _, O⟩ => O.sq 0) ?_ ?_
    · rintro i y t' σ H4 hy ⟨-, v7, v8, Hd, us, gs, rfl, sd, d4, hgs, hgr, O⟩ ht'
      obtain ⟨ap, z, rfl, hz, hT⟩ := dt.pr_get hy
      have hi := (List.getElem?_eq_some_iff.mp hz).1
      have hgl : gs.length ≤ i := by have := congrArg List.length hgs; rw [List.length_map, List.length_map, List.length_take] at this; omega
      have hul : us.length = gs.length := by rw [d4.length, List.length_map]
      walk_at "nw"
      refine ⟨t', _, rfl, O.sqT 0, rfl, _, _, rfl, _, _, rfl, rfl, ?_⟩
      have O := O.tail
      have k0 := Int.emod_nonneg (ys.getD (2 * (i : Int) + 1).toNat 0) (show (1001 : Int) ≠ 0 by decide)
      have k1 := Int.emod_lt_of_pos (ys.getD (2 * (i : Int) + 1).toNat 0) (show (0 : Int) < 1001 by decide)
      refine ⟨_, rfl, .inl ⟨rfl, _, O.sq 1⟩, _, rfl, ap, _, 1, _, rfl, rfl, (hT.mo sd).mo O.same, rfl, _, rfl, _, rfl, _, _, rfl, rfl, .inl ⟨by decide, by decide⟩, lx, _, _, _, rfl, rfl, O.sq 3, ints_atZ (by omega) (by omega), _, rfl, _, _, rfl, fun a a0 a1 => ?_⟩
      refine ⟨_, rfl, _, rfl, _, _, rfl, rfl, .inl ⟨by decide, by decide⟩, _, _, rfl, rfl, lx, _, _, _, rfl, rfl, O.sq 3, ints_atZ (by omega) (by omega), _, _, rfl, rfl, (by show (0 : Int) < 1001; decide), szl, fun t ht => ?_⟩
      dsimp only
      generalize ys.getD (2 * (i : Int) + 1).toNat 0 % 1001 = lk at k0 k1
      walk_at "nw"
      refine ⟨lp, _, _, rfl, rfl, O.get 2, small100' (by omega), ?_⟩
      walk_at "pt"
      obtain ⟨He, O, se, en⟩ := O.frz
      refine ⟨trivial, _, _, He, us ++ [.ref t], gs ++ [(z.2, a, lk)], rfl, sd.trans se, ?_, ?_, fun p hp => ?_, O⟩
      · rw [List.map_append]
        exact (d4.mo se).append (.cons (Den.mv (m := (z.2, a, lk)) (SqT.of en)) .nil)
      · rw [List.map_append, hgs, List.take_add_one, hz, List.map_append]; rfl
      · rcases List.mem_append.mp hp with e | e
        · exact hgr p e
        · have : p = (z.2, a, lk) := by simpa using e
          rw [this]
          have hzr := hpt z (List.mem_of_getElem? hz)
          exact ⟨hzr.1, hzr.2, a0, k0, by show lk ≤ 1000; omega⟩
    rintro σ H4 ⟨-, v7, v8, Hd, us, gs, rfl, sd, d4, hgs, hgr, O⟩
    rw [hztl, List.take_of_length_le (Nat.le_refl _)] at hgs
    refine ⟨_, rfl, q lp Hd _ us gs (sc.trans sd) ((O.pull 1).two.two.two) d4 ⟨?_, by rw [hgs]; exact hpm, by rw [← hrl]; exact hgr⟩⟩
    have := congrArg List.length hgs
    rw [List.length_map, List.length_map] at this
    omega
end
abbrev s_start_of : Stmt := top 22
theorem sc_start_of : FnScope ["one"] ["one"] (defScope s_start_of) := ⟨rfl, rfl, rfl, by decide +kernel, rfl, by decide +kernel, by decide +kernel⟩
def sp_stof (K : PySem.W.Frag) : Sp := fun vs H Q _ => ∃ (a : Addr) (l : Lic), vs = [.ref a] ∧ SqT K H a (vLic l) ∧ Q (.int l.start) H
section
variable {P : Program} {w : World} {K : PySem.W.Frag} {mg : Str → Option Value} {base : Heap} {T : Tabs}
theorem ok_stof {f : Addr} {fd : FuncData} (D : Df K mg "start_of" s_start_of ["one"] f fd) : FnOk P w K mg base CX0 1 f fd ["one"] (sp_stof K) := by
  refine D.F.ok sc_start_of (fun vs H Q E h => ?_) (fun cdv A outer s H vs Q E hr h => ?_)
  · obtain ⟨_, _, rfl, _⟩ := h; rfl
  · obtain ⟨a, l, rfl, hT, q⟩ := h
    refine ⟨_, (pss_one (ps_ret (pe_ix ix_tup (pv 0) pe_int (fun _ _ => rfl)))), ?_⟩
    exact ⟨_, rfl, a, _, 1, _, rfl, rfl, hT, rfl, q⟩
end
abbrev s_pond_start : Stmt := top 24
theorem sc_pond_start : FnScope ["roll", "pond", "number", "room", "leak"] ["roll", "pond"] (defScope s_pond_start) := ⟨rfl, rfl, rfl, by decide +kernel, rfl, by decide +kernel, by decide +kernel⟩
def sp_pst (K : PySem.W.Frag) : Sp := fun vs H Q _ => ∃ (b c : Addr) (rs : List V) (ls : List Lic) (p : Int × Int × Int) (l : Lic), vs = [.ref b, .ref c] ∧ SqL K H b rs ∧ Dens K H rs (ls.map dLic) ∧ SqT K H c [.int p.1, .int p.2.1, .int p.2.2] ∧ 0 ≤ p.1 ∧ ls[p.1.toNat]? = some l ∧ Q (.int l.start) H
section
variable {P : Program} {w : World} {K : PySem.W.Frag} {mg : Str → Option Value} {base : Heap} {T : Tabs}
theorem ok_pst {f f1 : Addr} {fd fd1 : FuncData} (D : Df K mg "pond_start" s_pond_start ["roll", "pond"] f fd) (D_start_of : Df K mg "start_of" s_start_of ["one"] f1 fd1) (G_start_of : FnOk P w K mg base CX0 1 f1 fd1 ["one"] (sp_stof K)) : FnOk P w K mg base CX0 2 f fd ["roll", "pond"] (sp_pst K) := by
  refine D.F.ok sc_pond_start (fun vs H Q E h => ?_) (fun cdv A outer s H vs Q E hr h => ?_)
  · obtain ⟨_, _, _, _, _, _, rfl, _⟩ := h; rfl
  · obtain ⟨b, c, rs, ls, p, l, rfl, hB, d0, hC, p0, hl, q⟩ := h
    refine ⟨_, (pss_cons (ps_asg (pv 1) (pg_tup rfl (pgs_cons (pg_name (i := 2) sc_pond_start.nd rfl (Or.inl rfl)) (pgs_cons (pg_name (i := 3) sc_pond_start.nd rfl (Or.inl rfl)) (pgs_cons (pg_name (i := 4) sc_pond_start.nd rfl (Or.inl rfl)) pgs_nil)))))
      (pss_one (ps_ret (pe_call G_start_of (hr.mono (by decide)) rfl D_start_of.m D_start_of.F.kp D_start_of.b .nil pass0 (pa_cons (pe_ix ix_list (pv 0) (pv 2) (fun _ _ => rfl)) pa_nil))))), ?_⟩
    obtain ⟨al, hal, hT⟩ := d0.lic_at hl
    obtain ⟨n, hn⟩ := Int.eq_ofNat_of_zero_le p0
    have en : p.1.toNat = n := by omega
    rw [en] at hal
    refine ⟨_, rfl, c, _, rfl, hC, rfl, _, _, rfl, _, _, rfl, _, _, rfl, rfl, ?_⟩
    exact ⟨_, rfl, _, rfl, b, _, _, _, rfl, rfl, hB, by rw [hn]; exact atI_nat hal, al, l, rfl, hT, q⟩
end
def leftS (ks : List Int) (m : Int × Int × Int) : List Int := ks.set m.1.toNat (ks.getD m.1.toNat 0 - m.2.2)
def stP (ls : List Lic) (ps : List (Int × Int × Int)) (n : Nat) : Int := (ls.getD (ps.getD n (0, 0, 0)).1.toNat ⟨0, 0, 0, 0⟩).start
def judge (r : List Int) (ls : List Lic) (ps : List (Int × Int × Int)) (ks : List Int) (m : Int × Int × Int) : Nat :=
  if m.1 < 0 ∨ (ps.length : Int) ≤ m.1 then 1 else if m.2.1 ≠ -1 ∧ ¬ m.2.1 ∈ Rv.walk r (stP ls ps m.1.toNat) then 2 else if m.2.2 < 0 ∨ ks.getD m.1.toNat 0 < m.2.2 then 3 else 0
theorem judge_le {r : List Int} {ls : List Lic} {ps : List (Int × Int × Int)} {ks : List Int} {m : Int × Int × Int} : judge r ls ps ks m = 0 ∨ judge r ls ps ks m = 1 ∨ judge r ls ps ks m = 2 ∨ judge r ls ps ks m = 3 := by
  unfold judge; split
  · exact .inr (.inl rfl)
  · split
    · exact .inr (.inr (.inl rfl))
    · split
      · exact .inr (.inr (.inr rfl))
      · exact .inl rfl
theorem stP_at {ls : List Lic} {ps : List (Int × Int × Int)} {n : Nat} {p : Int × Int × Int} {l : Lic} (hp : ps[n]? = some p) (hl : ls[p.1.toNat]? = some l) : stP ls ps n = l.start := by
  unfold stP
  rw [show ps.getD n (0, 0, 0) = p by rw [List.getD_eq_getElem?_getD, hp]; rfl, List.getD_eq_getElem?_getD, hl]; rfl
def runS (r : List Int) (ls : List Lic) (ps : List (Int × Int × Int)) (s : Nat × List Int) (m : Int × Int × Int) : Nat × List Int :=
  if s.1 = 0 then (if judge r ls ps s.2 m = 0 then (0, leftS s.2 m) else (judge r ls ps s.2 m, s.2)) else s
def runL (r : List Int) (ls : List Lic) (ps : List (Int × Int × Int)) (ks : List Int) (ms : List (Int × Int × Int)) : Nat × List Int := ms.foldl (runS r ls ps) (0, ks)
theorem runL_snoc (r : List Int) (ls : List Lic) (ps : List (Int × Int × Int)) (ks : List Int) (ms : List (Int × Int × Int)) (m : Int × Int × Int) : runL r ls ps ks (ms ++ [m]) = runS r ls ps (runL r ls ps ks ms) m := by
  unfold runL; rw [List.foldl_append]; rfl
theorem run_stuck {r : List Int} {ls : List Lic} {ps : List (Int × Int × Int)} : ∀ (ms : List (Int × Int × Int)) (s : Nat × List Int), s.1 ≠ 0 → ms.foldl (runS r ls ps) s = s
  | [], _, _ => rfl
  | m :: ms, s, h => by
    show ms.foldl (runS r ls ps) (runS r ls ps s m) = s
    have e : runS r ls ps s m = s := if_neg h
    rw [e]; exact run_stuck ms s h
theorem runS_ok {r : List Int} {ls : List Lic} {ps : List (Int × Int × Int)} {s : Nat × List Int} {m : Int × Int × Int} (h : s.1 = 0) (hj : judge r ls ps s.2 m = 0) : runS r ls ps s m = (0, leftS s.2 m) := by
  unfold runS; rw [if_pos h, if_pos hj]
theorem runS_bad {r : List Int} {ls : List Lic} {ps : List (Int × Int × Int)} {s : Nat × List Int} {m : Int × Int × Int} (h : s.1 = 0) (hj : judge r ls ps s.2 m ≠ 0) : runS r ls ps s m = (judge r ls ps s.2 m, s.2) := by
  unfold runS; rw [if_pos h, if_neg hj]
theorem run_bad {r : List Int} {ls : List Lic} {ps : List (Int × Int × Int)} {ks : List Int} {ms : List (Int × Int × Int)} {i : Nat} {m : Int × Int × Int} (hm : ms[i]? = some m) (h : (runL r ls ps ks (ms.take i)).1 = 0) (hj : judge r ls ps (runL r ls ps ks (ms.take i)).2 m ≠ 0) : (runL r ls ps ks ms).1 = judge r ls ps (runL r ls ps ks (ms.take i)).2 m := by
  have hi := (List.getElem?_eq_some_iff.mp hm)
  obtain ⟨hl, he⟩ := hi
  have e : ms = ms.take i ++ m :: ms.drop (i + 1) := by rw [← he, List.getElem_cons_drop hl, List.take_append_drop]
  have e2 : runL r ls ps ks ms = (judge r ls ps (runL r ls ps ks (ms.take i)).2 m, (runL r ls ps ks (ms.take i)).2) := by
    have : runL r ls ps ks ms = (ms.drop (i + 1)).foldl (runS r ls ps) (runS r ls ps (runL r ls ps ks (ms.take i)) m) := by
      conv => lhs; rw [e]
      unfold runL; rw [List.foldl_append]; rfl
    rw [this, runS_bad h hj]
    exact run_stuck _ _ hj
  rw [e2]
theorem run_len {r : List Int} {ls : List Lic} {ps : List (Int × Int × Int)} : ∀ (ms : List (Int × Int × Int)) (s : Nat × List Int), (ms.foldl (runS r ls ps) s).2.length = s.2.length
  | [], _ => rfl
  | m :: ms, s => by
    show (ms.foldl (runS r ls ps) (runS r ls ps s m)).2.length = _
    rw [run_len ms]
    unfold runS
    split
    · split
      · show (leftS s.2 m).length = _; unfold leftS; rw [List.length_set]
      · rfl
    · rfl
theorem runL_len (r : List Int) (ls : List Lic) (ps : List (Int × Int × Int)) (ks : List Int) (ms : List (Int × Int × Int)) : (runL r ls ps ks ms).2.length = ks.length := run_len ms (0, ks)
def errOf (cP cR cM : Addr) (j : Nat) : Addr := if j = 1 then cP else if j = 2 then cR else cM
theorem dmv_at {K : PySem.W.Frag} {H : Hp} {us : List V} {ps : List (Int × Int × Int)} (d : Dens K H us (ps.map dMv)) {n : Nat} {p : Int × Int × Int} (hp : ps[n]? = some p) : ∃ ap, us[n]? = some (.ref ap) ∧ SqT K H ap [.int p.1, .int p.2.1, .int p.2.2] := by
  have hul : us.length = ps.length := by rw [d.length, List.length_map]
  obtain ⟨u, hu⟩ : ∃ u, us[n]? = some u := ⟨_, List.getElem?_eq_getElem (by have := (List.getElem?_eq_some_iff.mp hp).1; omega)⟩
  obtain ⟨ap, p', rfl, hp', hT⟩ := d.mv_get hu
  rw [hp] at hp'
  have := Option.some.inj hp'
  subst this
  exact ⟨ap, hu, hT⟩
structure PdOk (r : List Int) (ls : List Lic) (ps : List (Int × Int × Int)) : Prop where
  st : ∀ l ∈ ls, 0 ≤ l.start ∧ l.start < (r.length : Int)
  no : ∀ p ∈ ps, 0 ≤ p.1 ∧ p.1 < (ls.length : Int)
theorem PdOk.at_ {r : List Int} {ls : List Lic} {ps : List (Int × Int × Int)} (h : PdOk r ls ps) {n : Nat} (hn : n < ps.length) : ∃ p l, ps[n]? = some p ∧ 0 ≤ p.1 ∧ ls[p.1.toNat]? = some l ∧ stP ls ps n = l.start ∧ 0 ≤ l.start ∧ l.start < (r.length : Int) := by
  obtain ⟨p, hp⟩ : ∃ p, ps[n]? = some p := ⟨_, List.getElem?_eq_getElem hn⟩
  obtain ⟨p0, p1⟩ := h.no p (List.mem_of_getElem? hp)
  obtain ⟨l, hl⟩ : ∃ l, ls[p.1.toNat]? = some l := ⟨_, List.getElem?_eq_getElem (by omega)⟩
  obtain ⟨a, b⟩ := h.st l (List.mem_of_getElem? hl)
  exact ⟨p, l, hp, p0, hl, stP_at hp hl, a, b⟩
abbrev s_look_at_let : Stmt := top 25
theorem sc_look_at_let : FnScope ["below", "roll", "ponds", "kept", "let", "place", "reach", "amount"] ["below", "roll", "ponds", "kept", "let"] (defScope s_look_at_let) := ⟨rfl, rfl, rfl, by decide +kernel, rfl, by decide +kernel, by decide +kernel⟩
def sp_lalX (K : PySem.W.Frag) (T : Tabs) (cP cR cM : Addr) : Sp := fun vs H Q E => ∃ (a b c d e : Addr) (r ks : List Int) (rs us : List V) (ls : List Lic) (ps : List (Int × Int × Int)) (m : Int × Int × Int), vs = [.ref a, .ref b, .ref c, .ref d, .ref e] ∧ SqL K H a (r.map V.int) ∧ Rv.River r ∧ r.length ≤ 900 ∧ SqL K H b rs ∧ Dens K H rs (ls.map dLic) ∧ SqL K H c us ∧ Dens K H us (ps.map dMv) ∧ SqL K H d (ks.map V.int) ∧ ks.length = ps.length ∧ SqT K H e [.int m.1, .int m.2.1, .int m.2.2] ∧ PdOk r ls ps ∧ TabsOk T H ∧
  (judge r ls ps ks m = 0 → ∀ H', SameT T H H' → Q .non H') ∧ (judge r ls ps ks m ≠ 0 → ∀ (e : Addr) (H' : Hp), SameT T H H' → H' e = none → E (.ref (errOf cP cR cM (judge r ls ps ks m))) (some e) H')
section
variable {P : Program} {w : World} {K : PySem.W.Frag} {mg : Str → Option Value} {base : Heap} {T : Tabs}
theorem ok_lalX {f f1 f2 cP cR cM : Addr} {fd fd1 fd2 : FuncData} (D : Df K mg "look_at_let" s_look_at_let ["below", "roll", "ponds", "kept", "let"] f fd) (B : Blt mg) (C : Mth mg) (X_NoPond : ErrC K mg "NoPond" cP) (X_NoReach : ErrC K mg "NoReach" cR) (X_TooMuch : ErrC K mg "TooMuch" cM)
    (D_way_of : Df K mg "way_of" s_way_of ["below", "reach"] f1 fd1) (G_way_of : FnOk P w K mg base CX0 1 f1 fd1 ["below", "reach"] (sp_way K))
    (D_pond_start : Df K mg "pond_start" s_pond_start ["roll", "pond"] f2 fd2) (G_pond_start : FnOk P w K mg base CX0 2 f2 fd2 ["roll", "pond"] (sp_pst K)) : FnOk P w K mg base (CXE P w) 3 f fd ["below", "roll", "ponds", "kept", "let"] (sp_lalX K T cP cR cM) := by
  obtain ⟨tM, hMOUTH⟩ := C.MOUTH
  refine D.F.okX sc_look_at_let (fun vs H Q E h => ?_) (fun cdv A outer s H vs Q E hr h => ?_)
  · obtain ⟨_, _, _, _, _, _, _, _, _, _, _, _, rfl, _⟩ := h; rfl
  · obtain ⟨a, b, c, d, e, r, ks, rs, us, ls, ps, m, rfl, hA, hR, r9, hB, d0, hC, d1, hD, hkl, hE, PO, tk, q, qe⟩ := h
    refine ⟨_, (pss_cons (ps_asg (pv 4) (pg_tup rfl (pgs_cons (pg_name (i := 5) sc_look_at_let.nd rfl (Or.inl rfl)) (pgs_cons (pg_name (i := 6) sc_look_at_let.nd rfl (Or.inl rfl)) (pgs_cons (pg_name (i := 7) sc_look_at_let.nd rfl (Or.inl rfl)) pgs_nil)))))
      (pss_cons (ps_if (pt_not (pt_chain op_le op_lt pe_int (pv 5) (pe_callB call_len_seq rfl B.len PySem.boot_len (pa_cons (pv 2) pa_nil))))
        (pss_one (ps_raise body_cx rfl (fun _ _ z => z) rfl X_NoPond.m X_NoPond.q (pa_cons pe_str pa_nil)))
        pss_nil)
      (pss_cons (ps_if (PW.pt (pw_and (pt_cmpR op_ne (pv 6) (pe_glob (v := .int (-1)) rfl hMOUTH ⟨_, rfl⟩) (nomark _)) (pw_and1 (pt_cmpR op_notIn_seq (pv 6) (pe_call G_way_of (hr.mono (by decide)) rfl D_way_of.m D_way_of.F.kp D_way_of.b .nil pass0 (pa_cons (pv 0) (pa_cons (pe_call G_pond_start (hr.mono (by decide)) rfl D_pond_start.m D_pond_start.F.kp D_pond_start.b .nil pass0 (pa_cons (pv 1) (pa_cons (pe_ix ix_list (pv 2) (pv 5) (fun _ _ => rfl)) pa_nil))) pa_nil))) (by rfl)))))
        (pss_one (ps_raise body_cx rfl (fun _ _ z => z) rfl X_NoReach.m X_NoReach.q (pa_cons pe_str pa_nil)))
        pss_nil)
      (pss_one (ps_if (pt_not (pt_chain op_le op_le pe_int (pv 7) (pe_ix ix_list (pv 3) (pv 5) (fun _ _ => rfl))))
        (pss_one (ps_raise body_cx rfl (fun _ _ z => z) rfl X_TooMuch.m X_TooMuch.q (pa_cons pe_str pa_nil)))
        pss_nil))))), ?_⟩
    have O := Ow.refl tk
    obtain ⟨mi, mz, mv⟩ := m
    dsimp only at hE
    have hul : us.length = ps.length := by rw [d1.length, List.length_map]
    have ej : judge r ls ps ks (mi, mz, mv) = if mi < 0 ∨ (ps.length : Int) ≤ mi then 1 else if mz ≠ -1 ∧ ¬ mz ∈ Rv.walk r (stP ls ps mi.toNat) then 2 else if mv < 0 ∨ ks.getD mi.toNat 0 < mv then 3 else 0 := rfl
    have er : ∀ j : Nat, judge r ls ps ks (mi, mz, mv) = j → j ≠ 0 → ∀ H', SameT T H H' → ∀ e, H' e = none → E (.ref (errOf cP cR cM j)) (some e) H' := fun j hj h0 H' s' e he => hj ▸ qe (by rw [hj]; exact h0) e H' s' he
    refine ⟨_, rfl, e, _, rfl, hE, rfl, _, _, rfl, _, _, rfl, _, _, rfl, rfl, ?_⟩
    refine ⟨_, rfl, _, _, rfl, rfl, _, rfl, ifD (fun m0 => ?_) (fun h => ?b1)⟩
    case b1 =>
      have j1 : judge r ls ps ks (mi, mz, mv) = 1 := by rw [ej, if_pos (.inl (by omega))]
      exact ⟨_, rfl, iteT ⟨szl, fun e he => er 1 j1 (by decide) _ O.same e he⟩⟩
    refine ⟨_, rfl, c, _, rfl, .inl hC, _, _, rfl, rfl, _, rfl, ifN (ifD (fun m1 => ?_) fun h => ?b2)⟩
    case b2 =>
      have j1 : judge r ls ps ks (mi, mz, mv) = 1 := by rw [ej, if_pos (.inr (by omega))]
      exact ⟨szl, fun e he => er 1 j1 (by decide) _ O.same e he⟩
    have hn : ¬ (mi < 0 ∨ (ps.length : Int) ≤ mi) := by omega
    rw [if_neg hn] at ej
    obtain ⟨n, rfl⟩ := Int.eq_ofNat_of_zero_le m0
    rw [Int.toNat_natCast] at ej
    obtain ⟨p, l, hp, p0, hl, est, l0, l1⟩ := PO.at_ (n := n) (by omega)
    obtain ⟨ap, hap, hTp⟩ := dmv_at d1 hp
    rw [est] at ej
    refine ⟨_, rfl, rfl, _, rfl, ifN (ifI (fun he => iteF ?_) fun he => ?_)⟩
    · have hno : ¬ (mz ≠ -1 ∧ ¬ mz ∈ Rv.walk r l.start) := fun y => y.1 he
      rw [if_neg hno] at ej
      refine ⟨_, rfl, _, _, rfl, rfl, _, rfl, ifD (fun v0 => ?_) (fun h => ?b3)⟩
      case b3 =>
        have j3 : judge r ls ps ks ((n : Int), mz, mv) = 3 := by rw [ej, if_pos (.inl (by omega))]
        exact ⟨_, rfl, iteT ⟨szl, fun e he => er 3 j3 (by decide) _ O.same e he⟩⟩
      refine ⟨_, rfl, _, rfl, d, _, _, _, rfl, rfl, O.same.seq hD, ints_at (getD_get? (ns := ks) (k := n) (by omega)), _, _, rfl, rfl, _, rfl, ifN (ifD (fun v1 => ?_) fun h => ?b4)⟩
      case b4 =>
        have j3 : judge r ls ps ks ((n : Int), mz, mv) = 3 := by rw [ej, if_pos (.inr (by omega))]
        exact ⟨szl, fun e he => er 3 j3 (by decide) _ O.same e he⟩
      have hgd : ¬ (mv < 0 ∨ ks.getD n 0 < mv) := by omega
      exact q (by rw [ej, if_neg hgd]) _ O.same
    · refine ⟨_, rfl, _, rfl, _, rfl, _, rfl, _, rfl, c, _, _, _, rfl, rfl, hC, atI_nat hap, b, ap, rs, ls, p, l, rfl, hB, d0, hTp, p0, hl, a, r, l.start, rfl, hA, hR, l0, l1, r9, O.got fun lw H2 xs O e => ?_⟩
      subst e
      refine ⟨lw, _, rfl, .inl (O.sq 0), rfl, flat_ints _, _, rfl, ?_⟩
      rw [if_pos rfl, in_ints]
      refine ifN (ifD (fun hin => ?_) fun hin => ?b5)
      case b5 =>
        have j2 : judge r ls ps ks ((n : Int), mz, mv) = 2 := by rw [ej, if_pos ⟨he, hin⟩]
        exact ⟨szl, fun e he => er 2 j2 (by decide) _ O.same e he⟩
      have hno : ¬ (mz ≠ -1 ∧ ¬ mz ∈ Rv.walk r l.start) := fun y => y.2 hin
      rw [if_neg hno] at ej
      refine ⟨_, rfl, _, _, rfl, rfl, _, rfl, ifD (fun v0 => ?_) (fun h => ?b6)⟩
      case b6 =>
        have j3 : judge r ls ps ks ((n : Int), mz, mv) = 3 := by rw [ej, if_pos (.inl (by omega))]
        exact ⟨_, rfl, iteT ⟨szl, fun e he => er 3 j3 (by decide) _ O.same e he⟩⟩
      refine ⟨_, rfl, _, rfl, d, _, _, _, rfl, rfl, O.same.seq hD, ints_at (getD_get? (ns := ks) (k := n) (by omega)), _, _, rfl, rfl, _, rfl, ifN (ifD (fun v1 => ?_) fun h => ?b7)⟩
      case b7 =>
        have j3 : judge r ls ps ks ((n : Int), mz, mv) = 3 := by rw [ej, if_pos (.inr (by omega))]
        exact ⟨szl, fun e he => er 3 j3 (by decide) _ O.same e he⟩
      have hgd : ¬ (mv < 0 ∨ ks.getD n 0 < mv) := by omega
      exact q (by rw [ej, if_neg hgd]) _ O.same
end
theorem judge_at {r : List Int} {ls : List Lic} {ps : List (Int × Int × Int)} {ks : List Int} {m : Int × Int × Int} (h : judge r ls ps ks m = 0) : 0 ≤ m.1 ∧ m.1 < (ps.length : Int) ∧ 0 ≤ m.2.2 ∧ m.2.2 ≤ ks.getD m.1.toNat 0 := by
  unfold judge at h
  split at h
  · cases h
  · split at h
    · cases h
    · split at h
      · cases h
      · omega
abbrev s_let_out : Stmt := top 26
theorem sc_let_out : FnScope ["below", "roll", "ponds", "kept", "lets", "left", "let", "place", "reach", "amount"] ["below", "roll", "ponds", "kept", "lets"] (defScope s_let_out) := ⟨rfl, rfl, rfl, by decide +kernel, rfl, by decide +kernel, by decide +kernel⟩
def sp_loX (K : PySem.W.Frag) (T : Tabs) (cP cR cM : Addr) : Sp := fun vs H Q E => ∃ (a b c d e : Addr) (r ks : List Int) (rs us ts : List V) (ls : List Lic) (ps ms : List (Int × Int × Int)), vs = [.ref a, .ref b, .ref c, .ref d, .ref e] ∧ SqL K H a (r.map V.int) ∧ Rv.River r ∧ r.length ≤ 900 ∧ SqL K H b rs ∧ Dens K H rs (ls.map dLic) ∧ SqL K H c us ∧ Dens K H us (ps.map dMv) ∧ SqL K H d (ks.map V.int) ∧ ks.length = ps.length ∧ SqL K H e ts ∧ Dens K H ts (ms.map dMv) ∧ PdOk r ls ps ∧ TabsOk T H ∧
  ((runL r ls ps ks ms).1 = 0 → RetLT T H (fun ys => ys = (runL r ls ps ks ms).2.map V.int) Q) ∧ ((runL r ls ps ks ms).1 ≠ 0 → ∀ (e : Addr) (H' : Hp), SameT T H H' → H' e = none → E (.ref (errOf cP cR cM (runL r ls ps ks ms).1)) (some e) H')
section
variable {P : Program} {w : World} {K : PySem.W.Frag} {mg : Str → Option Value} {base : Heap} {T : Tabs}
theorem ok_loX {f f1 cP cR cM : Addr} {fd fd1 : FuncData} (D : Df K mg "let_out" s_let_out ["below", "roll", "ponds", "kept", "lets"] f fd) (B : Blt mg)
    (D_look_at_let : Df K mg "look_at_let" s_look_at_let ["below", "roll", "ponds", "kept", "let"] f1 fd1) (G_look_at_let : FnOk P w K mg base (CXE P w) 3 f1 fd1 ["below", "roll", "ponds", "kept", "let"] (sp_lalX K T cP cR cM)) : FnOk P w K mg base (CXE P w) 4 f fd ["below", "roll", "ponds", "kept", "lets"] (sp_loX K T cP cR cM) := by
  refine D.F.okX sc_let_out (fun vs H Q E h => ?_) (fun cdv A outer s H vs Q E hr h => ?_)
  · obtain ⟨_, _, _, _, _, _, _, _, _, _, _, _, _, rfl, _⟩ := h; rfl
  · obtain ⟨a, b, c, d, e, r, ks, rs, us, ts, ls, ps, ms, rfl, hA, hR, r9, hB, d0, hC, d1, hD, hkl, hE, d2, PO, tk, q, qe⟩ := h
    refine ⟨_, (pss_cons (ps_set (i := 5) sc_let_out.nd rfl (Or.inl rfl) (pe_callTy call_list_of rfl B.list PyProof.Rows.boot_list (pa_cons (pv 3) pa_nil)))
      (pss_cons (ps_for PassesOwn.leaving rfl (pi_list (pv 4)) (pg_name (i := 6) sc_let_out.nd rfl (Or.inl rfl))
        (pss_cons (ps_expr (pe_call G_look_at_let (hr.mono (by decide)) rfl D_look_at_let.m D_look_at_let.F.kp D_look_at_let.b .nil passE (pa_cons (pv 0) (pa_cons (pv 1) (pa_cons (pv 2) (pa_cons (pv 5) (pa_cons (pv 6) pa_nil)))))))
        (pss_cons (ps_asg (pv 6) (pg_tup rfl (pgs_cons (pg_name (i := 7) sc_let_out.nd rfl (Or.inl rfl)) (pgs_cons (pg_name (i := 8) sc_let_out.nd rfl (Or.inl rfl)) (pgs_cons (pg_name (i := 9) sc_let_out.nd rfl (Or.inl rfl)) pgs_nil)))))
        (pss_one (ps_augS (pv 5) (pv 7) get_list (pv 9) ip_sub set_list)))))
      (pss_one (ps_ret (pv 5))))), ?_⟩
    have O := Ow.refl tk
    refine ⟨_, rfl, d, _, rfl, .inl hD, fun lm hlm => ?_⟩
    walk_at "nw"
    refine ⟨_, rfl, e, rfl, ⟨_, O.same.seq hE⟩, ?_⟩
    refine for_list (K := K) (xs := ts) (fun i σ H' => Iv (∃ (v6 v7 v8 v9 : Option V), σ = [some (.ref a), some (.ref b), some (.ref c), some (.ref d), some (.ref e), some (.ref lm), v6, v7, v8, v9] ∧ (runL r ls ps ks (ms.take i)).1 = 0 ∧ Ow T H H' [(lm, .lst ((runL r ls ps ks (ms.take i)).2.map V.int))]))
      ⟨trivial, none, none, none, none, rfl, rfl, O⟩ (fun i σ H' _ ⟨_, _, _, _, _, _, _, O⟩ => O.same.seq hE) ?_ ?_
    · rintro i y σ H3 hy ⟨-, v6, v7, v8, v9, rfl, h0, O⟩
      obtain ⟨al, m, rfl, hm, hT⟩ := d2.mv_get hy
      have hll := runL_len r ls ps ks (ms.take i)
      refine ⟨_, rfl, _, rfl, _, rfl, _, rfl, _, rfl, a, b, c, lm, al, r, (runL r ls ps ks (ms.take i)).2, rs, us, ls, ps, m, rfl, O.same.seq hA, hR, r9, O.same.seq hB, d0.mo O.same, O.same.seq hC, d1.mo O.same, O.sq 0, by omega, hT.mo O.same, PO, O.same.t1, fun hj H4 sm => ?_, fun hj e H' s' he => ?_⟩
      · have O := O.callT sm
        refine ⟨_, rfl, al, _, rfl, hT.mo O.same, rfl, _, _, rfl, _, _, rfl, _, _, rfl, rfl, ?_⟩
        obtain ⟨m0, m1, _, _⟩ := judge_at hj
        obtain ⟨mi, mz, mv⟩ := m
        dsimp only at m0 m1
        obtain ⟨n, rfl⟩ := Int.eq_ofNat_of_zero_le m0
        have hx : ((runL r ls ps ks (ms.take i)).2.map V.int)[n]? = some (V.int ((runL r ls ps ks (ms.take i)).2.getD n 0)) := by rw [List.getElem?_map, getD_get? (by omega)]; rfl
        refine ⟨_, rfl, _, rfl, lm, _, n, _, rfl, rfl, O.sq 0, hx, _, rfl, _, _, rfl, rfl, lm, _, _, _, rfl, rfl, O.get 0, ixN_nat (by rw [List.length_map]; omega), ?_⟩
        walk_at "pt"
        rw [← List.map_set] at O
        refine ⟨trivial, _, _, _, _, rfl, ?_, ?_⟩
        · rw [List.take_add_one, hm, Option.toList_some, runL_snoc, runS_ok h0 hj]
        · rw [List.take_add_one, hm, Option.toList_some, runL_snoc, runS_ok h0 hj]
          exact O
      · have eb := run_bad hm h0 hj
        rw [← eb]
        exact qe (by rw [eb]; exact hj) e H' (O.same.trans s') he
    rintro σ H3 ⟨-, v6, v7, v8, v9, rfl, h0, O⟩
    have hl2 : ts.length = ms.length := by rw [d2.length, List.length_map]
    rw [hl2, List.take_length] at O h0
    exact ⟨_, rfl, O.ret 0 rfl (q h0) rfl⟩
end
theorem eqv_mvs0 (ps : List (Int × Int × Int)) : PyData.eqv (dMvs ps) (.list []) = decide (ps = []) := by
  cases ps with
  | nil => rfl
  | cons p ps => rfl
theorem ifs_any {c : TT} {t u : TS} {D : Ends} {σ : St} {H : Hp} (hc : ∀ Q : Bool → Hp → Prop, (∀ b, Q b H) → c σ H Q) (h1 : t D σ H) (h2 : u D σ H) : tIfS c t u D σ H :=
  hc _ fun b => by
    cases b
    · exact h2
    · exact h1
abbrev s__law_let : Stmt := top 37
theorem sc__law_let : FnScope ["cell", "below", "roll", "ponds", "left", "xs", "pond", "way", "most", "reach", "amount", "faults"] ["cell", "below", "roll", "ponds", "left"] (defScope s__law_let) := ⟨rfl, rfl, rfl, by decide +kernel, rfl, by decide +kernel, by decide +kernel⟩
def sp_let (K : PySem.W.Frag) (T : Tabs) : Sp := fun vs H Q _ => ∃ (z : Int) (a b c d : Addr) (r ks : List Int) (rs us : List V) (ls : List Lic) (ps : List (Int × Int × Int)), vs = [.int z, .ref a, .ref b, .ref c, .ref d] ∧ SqL K H a (r.map V.int) ∧ Rv.River r ∧ 1 ≤ r.length ∧ r.length ≤ 900 ∧ SqL K H b rs ∧ Dens K H rs (ls.map dLic) ∧ SqL K H c us ∧ Dens K H us (ps.map dMv) ∧ ps.length ≤ 10 ∧ SqL K H d (ks.map V.int) ∧ ks.length = ps.length ∧ (∀ x ∈ ks, 0 ≤ x) ∧ PdOk r ls ps ∧ TabsOk T H ∧
  RetTT T H (fun xs => ∃ m : Int × Int × Int, xs = [.int m.1, .int m.2.1, .int m.2.2]) Q
section
variable {P : Program} {w : World} {K : PySem.W.Frag} {mg : Str → Option Value} {base : Heap} {T : Tabs}
theorem ok_let {f f1 f2 f3 : Addr} {fd fd1 fd2 fd3 : FuncData} (D : Df K mg "_law_let" s__law_let ["cell", "below", "roll", "ponds", "left"] f fd) (B : Blt mg)
    (D__law_draws : Df K mg "_law_draws" s__law_draws ["cell", "many"] f1 fd1) (G__law_draws : FnOk P w K mg base CX0 1 f1 fd1 ["cell", "many"] (sp_dws T))
    (D__law_way : Df K mg "_law_way" s__law_way ["below", "start"] f2 fd2) (G__law_way : FnOk P w K mg base CX0 1 f2 fd2 ["below", "start"] (sp_lway K T))
    (D__law_some : Df K mg "_law_some" s__law_some ["number", "most"] f3 fd3) (G__law_some : FnOk P w K mg base CX0 1 f3 fd3 ["number", "most"] sp_som) : FnOk P w K mg base CX0 2 f fd ["cell", "below", "roll", "ponds", "left"] (sp_let K T) := by
  refine D.F.ok sc__law_let (fun vs H Q E h => ?_) (fun cdv A outer s H vs Q E hr h => ?_)
  · obtain ⟨_, _, _, _, _, _, _, _, _, _, _, rfl, _⟩ := h; rfl
  · obtain ⟨z, a, b, c, d, r, ks, rs, us, ls, ps, rfl, hA, hR, r1, r9, hB, d0, hC, d1, hp10, hD, hkl, hk0, PO, tk, q⟩ := h
    have hu := hr.units
    have hul : us.length = ps.length := by rw [d1.length, List.length_map]
    have O := Ow.refl tk
    have s0 := O.same
    change ∃ t, PSs _ (_ :: _) t ∧ _
    refine ⟨_, (pss_cons (ps_set (i := 5) sc__law_let.nd rfl (Or.inl rfl) (pe_call G__law_draws (hr.mono (by decide)) rfl D__law_draws.m D__law_draws.F.kp D__law_draws.b .nil pass0 (pa_cons (pv 0) (pa_cons pe_int pa_nil))))
      (pss_cons (ps_set (i := 6) sc__law_let.nd rfl (Or.inl rfl) (pe_op op_mod (pe_ix ix_list (pv 5) pe_int (fun _ _ => rfl)) (pe_callB (call_max2 rfl) rfl B.max PyProof.Rows.boot_max (pa_cons pe_int (pa_cons (pe_callB call_len_seq rfl B.len PySem.boot_len (pa_cons (pv 3) pa_nil)) pa_nil)))))
      (pss_cons (ps_set (i := 7) sc__law_let.nd rfl (Or.inl rfl) (pe_lst (pa_cons (pe_un un_neg pe_int) pa_nil)))
      (pss_cons (ps_set (i := 8) sc__law_let.nd rfl (Or.inl rfl) pe_int)
      (pss_consM (ps_if (pt_cmpR (op_neD hu) (pv 3) (pe_lst pa_nil) (nomark _))
        (pss_cons (ps_set (i := 7) sc__law_let.nd rfl (Or.inl rfl) (pe_op op_cat (pe_lst (pa_cons (pe_un un_neg pe_int) pa_nil)) (pe_call G__law_way (hr.mono (by decide)) rfl D__law_way.m D__law_way.F.kp D__law_way.b .nil pass0 (pa_cons (pv 1) (pa_cons (pe_ix ix_tup (pe_ix ix_list (pv 2) (pe_ix ix_tup (pe_ix ix_list (pv 3) (pv 6) (fun _ _ => rfl)) pe_int (fun _ _ => rfl)) (fun _ _ => rfl)) pe_int (fun _ _ => rfl)) pa_nil)))))
        (pss_one (ps_set (i := 8) sc__law_let.nd rfl (Or.inl rfl) (pe_ix ix_list (pv 4) (pv 6) (fun _ _ => rfl)))))
        pss_nil)
      (pss_cons (ps_set (i := 9) sc__law_let.nd rfl (Or.inl rfl) (pe_ix ix_list (pv 7) (pe_op op_mod (pe_ix ix_list (pv 5) pe_int (fun _ _ => rfl)) (pe_callB call_len_seq rfl B.len PySem.boot_len (pa_cons (pv 7) pa_nil))) (fun _ _ => rfl)))
      (pss_cons (ps_set (i := 10) sc__law_let.nd rfl (Or.inl rfl) (pe_call G__law_some (hr.mono (by decide)) rfl D__law_some.m D__law_some.F.kp D__law_some.b .nil pass0 (pa_cons (pe_ix ix_list (pv 5) pe_int (fun _ _ => rfl)) (pa_cons (pv 8) pa_nil))))
      (pss_cons (ps_set (i := 11) sc__law_let.nd rfl (Or.inl rfl) (pe_op op_mod (pe_ix ix_list (pv 5) pe_int (fun _ _ => rfl)) pe_int))
      (pss_consM (ps_if (PW.pt (pw_or (pt_cmpR op_eq (pv 11) pe_int (nomark _)) (pw_or (pt_cmpR op_eq (pv 11) pe_int (nomark _)) (pw_or (pt_cmpR op_eq (pv 11) pe_int (nomark _)) (pw_or1 (pt_cmpR op_eq (pv 11) pe_int (nomark _)))))))
        (pss_one (ps_set (i := 6) sc__law_let.nd rfl (Or.inl rfl) (pe_ix ix_list (pe_lst (pa_cons (pe_un un_neg pe_int) (pa_cons (pe_callB call_len_seq rfl B.len PySem.boot_len (pa_cons (pv 3) pa_nil)) (pa_cons (pe_op op_add (pe_callB call_len_seq rfl B.len PySem.boot_len (pa_cons (pv 3) pa_nil)) (pe_op op_mod (pe_ix ix_list (pv 5) pe_int (fun _ _ => rfl)) pe_int)) (pa_cons (pe_op op_sub (pe_un un_neg pe_int) (pe_ix ix_list (pv 5) pe_int (fun _ _ => rfl))) (pa_cons (pe_op op_pow pe_int pe_int) (pa_cons (pe_op op_sub pe_int (pe_callB call_len_seq rfl B.len PySem.boot_len (pa_cons (pv 3) pa_nil))) pa_nil))))))) (pe_op op_mod (pe_ix ix_list (pv 5) pe_int (fun _ _ => rfl)) pe_int) (fun _ _ => rfl))))
        pss_nil)
      (pss_consM (ps_if (PW.pt (pw_or (pt_cmpR op_eq (pv 11) pe_int (nomark _)) (pw_or (pt_cmpR op_eq (pv 11) pe_int (nomark _)) (pw_or (pt_cmpR op_eq (pv 11) pe_int (nomark _)) (pw_or1 (pt_cmpR op_eq (pv 11) pe_int (nomark _)))))))
        (pss_one (ps_set (i := 9) sc__law_let.nd rfl (Or.inl rfl) (pe_ix ix_list (pe_lst (pa_cons (pe_op op_mod (pe_op op_fdiv (pe_ix ix_list (pv 5) pe_int (fun _ _ => rfl)) pe_int) (pe_callB call_len_seq rfl B.len PySem.boot_len (pa_cons (pv 1) pa_nil))) (pa_cons (pe_un un_neg pe_int) (pa_cons (pe_callB call_len_seq rfl B.len PySem.boot_len (pa_cons (pv 1) pa_nil)) (pa_cons (pe_op op_pow pe_int pe_int) (pa_cons (pe_un un_neg (pe_op op_pow pe_int pe_int)) (pa_cons (pe_op op_mod (pe_op op_fdiv (pe_ix ix_list (pv 5) pe_int (fun _ _ => rfl)) pe_int) (pe_callB call_len_seq rfl B.len PySem.boot_len (pa_cons (pv 1) pa_nil))) pa_nil))))))) (pe_op op_mod (pe_ix ix_list (pv 5) pe_int (fun _ _ => rfl)) pe_int) (fun _ _ => rfl))))
        pss_nil)
      (pss_consM (ps_if (PW.pt (pw_and (pt_cmpR op_ge (pv 11) pe_int (nomark _)) (pw_and1 (pt_cmpR op_le (pv 11) pe_int (nomark _)))))
        (pss_one (ps_set (i := 10) sc__law_let.nd rfl (Or.inl rfl) (pe_ix ix_list (pe_lst (pa_cons (pe_un un_neg pe_int) (pa_cons (pe_op op_add (pv 8) pe_int) (pa_cons (pe_op op_add (pe_op op_add (pv 8) pe_int) (pe_op op_mod (pe_ix ix_list (pv 5) pe_int (fun _ _ => rfl)) pe_int)) (pa_cons (pe_un un_neg (pe_op op_pow pe_int pe_int)) (pa_cons (pe_op op_pow pe_int pe_int) (pa_cons (pe_op op_sub (pe_un un_neg pe_int) (pe_ix ix_list (pv 5) pe_int (fun _ _ => rfl))) pa_nil))))))) (pe_op op_mod (pe_ix ix_list (pv 5) pe_int (fun _ _ => rfl)) pe_int) (fun _ _ => rfl))))
        pss_nil)
      (pss_one (ps_ret (pe_tup (pa_cons (pv 6) (pa_cons (pv 9) (pa_cons (pv 10) pa_nil))))))))))))))))), ?_⟩
    refine ⟨_, rfl, z, 7, rfl, by decide, by decide, O.same.t1, O.gotT fun lx H1 xs O e => ?_⟩
    obtain ⟨ys, rfl, hyl, hyb⟩ := e
    have hyl : ys.length = 7 := hyl
    have yb : ∀ k, 0 ≤ ys.getD k 0 := fun k => by
      by_cases hk : k < ys.length
      · exact (hyb _ (getD_mem' hk)).1
      · rw [List.getD_eq_getElem?_getD, List.getElem?_eq_none (by omega)]; exact Int.le_refl _
    clear hyb
    refine ⟨_, rfl, lx, _, 0, _, rfl, rfl, O.sq 0, ints_atZ (by omega) (by omega), _, rfl, c, _, rfl, .inl (O.same.seq hC), _, _, rfl, _, _, rfl, rfl, (by show (0 : Int) < _; split <;> omega), ?_⟩
    dsimp only
    have mx : ∃ M : Int, (if (us.length : Int) > 1 then (us.length : Int) else 1) = M ∧ 1 ≤ M ∧ (ps ≠ [] → M = (ps.length : Int)) := by
      refine ⟨_, rfl, by split <;> omega, fun hp => ?_⟩
      have : 0 < ps.length := List.length_pos_iff.mpr hp
      split <;> omega
    obtain ⟨M, eM, M1, Mp⟩ := mx
    rw [eM]
    clear eM
    have q0 := Int.emod_nonneg (ys.getD (0 : Int).toNat 0) (show M ≠ 0 by omega)
    have q1 := Int.emod_lt_of_pos (ys.getD (0 : Int).toNat 0) (show (0 : Int) < M by omega)
    generalize ys.getD (0 : Int).toNat 0 % M = pn at q0 q1
    refine ⟨_, rfl, szl, fun l1 h1 => ?_⟩
    walk_at "nw"
    have fin : True := trivial
    refine ⟨fun σ H' => Iv (∃ (lw : Addr) (ww : List Int) (mo : Int), σ = [some (.int z), some (.ref a), some (.ref b), some (.ref c), some (.ref d), some (.ref lx), some (.int pn), some (.ref lw), some (.int mo), none, none, none] ∧ 1 ≤ ww.length ∧ 0 ≤ mo ∧ Ow T H H' [(lw, .lst (ww.map V.int)), (lx, .lst (ys.map V.int))]), ?_, ?_⟩
    · refine ⟨_, rfl, szl, fun l2 h2 => ?_⟩
      walk_at "nw"
      refine ⟨_, _, Den.list (O.same.seq hC) (d1.mo O.same), Den.list (ds := []) (O.sq 0) .nil, (Sh.mvs 0 ps).ok (by decide), (Sh.mvs 0 []).ok (by decide), ?_⟩
      have O := O.tail
      rw [if_pos rfl, show PyData.eqv (.list (ps.map dMv)) (.list []) = decide (ps = []) from eqv_mvs0 ps]
      refine ⟨_, rfl, ifN (ifD (fun he => ?_) fun he => ?_)⟩
      · exact ⟨trivial, l1, [-1], 0, rfl, by decide, by decide, O⟩
      · have hM := Mp he
        obtain ⟨n, rfl⟩ := Int.eq_ofNat_of_zero_le q0
        obtain ⟨p, l, hp, p0, hl, est, b0, b1⟩ := PO.at_ (n := n) (by omega)
        obtain ⟨ap, hap, hTp⟩ := dmv_at d1 hp
        obtain ⟨al, hal, hTl⟩ := d0.lic_at hl
        obtain ⟨pi, pr, pk⟩ := p
        dsimp only at p0 hl hal hTp
        obtain ⟨pm, rfl⟩ := Int.eq_ofNat_of_zero_le p0
        rw [Int.toNat_natCast] at hal
        refine ⟨_, rfl, szl, fun l5 h5 => ?_⟩
        walk_at "nw"
        refine ⟨_, rfl, _, rfl, _, rfl, _, rfl, c, _, _, _, rfl, rfl, O.same.seq hC, atI_nat hap, ap, _, 0, _, rfl, rfl, hTp.mo O.same, rfl, b, _, _, _, rfl, rfl, O.same.seq hB, atI_nat hal, al, _, 1, _, rfl, rfl, hTl.mo O.same, rfl, a, r, l.start, rfl, O.same.seq hA, hR, b0, b1, by omega, O.same.t1, O.gotT fun lw H16 xs O e => ?_⟩
        subst e
        have hwk := Rv.walk_len r l.start
        refine ⟨l5, lw, _, _, rfl, rfl, O.get 1, O.get 0, small100 (by simp only [List.length_map, List.length_cons, List.length_nil]; omega), fun l6 h6 => ?_⟩
        walk_at "nw"
        rw [show [V.int (-1)] ++ (Rv.walk r l.start).map V.int = ((-1) :: Rv.walk r l.start).map V.int from rfl] at O
        have O := ((O.del 1).del 1).del 1
        walk_at "er"
        refine ⟨_, rfl, _, rfl, d, _, _, _, rfl, rfl, O.same.seq hD, ints_at (getD_get? (ns := ks) (k := n) (by omega)), trivial, l6, (-1) :: Rv.walk r l.start, ks.getD n 0, rfl, by simp, hk0 _ (getD_mem' (by omega)), O⟩
    clear O
    rintro σ H2 ⟨-, lw, ww, mo, rfl, w1, mo0, O⟩
    have hwm : ((ww.map V.int).length : Int) = (ww.length : Int) := by rw [List.length_map]
    have j0 := Int.emod_nonneg (ys.getD (1 : Int).toNat 0) (show (ww.length : Int) ≠ 0 by omega)
    have j1 := Int.emod_lt_of_pos (ys.getD (1 : Int).toNat 0) (show (0 : Int) < (ww.length : Int) by omega)
    refine ⟨_, rfl, _, rfl, lx, _, 1, _, rfl, rfl, O.sq 1, ints_atZ (by omega) (by omega), _, rfl, lw, _, rfl, .inl (O.sq 0), _, _, rfl, rfl, (by rw [hwm]; omega), ?_⟩
    dsimp only
    rw [hwm]
    generalize ys.getD (1 : Int).toNat 0 % (ww.length : Int) = j at j0 j1
    refine ⟨lw, _, _, _, rfl, rfl, O.sq 0, ints_atZ j0 j1, ?_⟩
    generalize ww.getD j.toNat 0 = rz
    refine ⟨_, rfl, lx, _, 2, _, rfl, rfl, O.sq 1, ints_atZ (by omega) (by omega), _, rfl, _, _, rfl, mo0, fun x x0 x1 => ?_⟩
    refine ⟨_, rfl, lx, _, 3, _, rfl, rfl, O.sq 1, ints_atZ (by omega) (by omega), _, _, rfl, rfl, (by show (0 : Int) < 63; decide), ?_⟩
    dsimp only
    generalize ys.getD (3 : Int).toNat 0 % 63 = ft
    clear j0 j1 x0 x1 q0 q1 Mp M1
    have e14 : (10 : Int) ^ (14 : Int).toNat = 100000000000000 := by decide
    refine ⟨fun σ H' => Iv (∃ (pn : Int), σ = [some (.int z), some (.ref a), some (.ref b), some (.ref c), some (.ref d), some (.ref lx), some (.int pn), some (.ref lw), some (.int mo), some (.int rz), some (.int x), some (.int ft)] ∧ Ow T H H' [(lw, .lst (ww.map V.int)), (lx, .lst (ys.map V.int))]), ?_, ?_⟩
    · refine ifs_any (fun Q q => ?_) ?_ ⟨trivial, _, rfl, O⟩
      · refine ⟨_, rfl, rfl, _, rfl, ifI (fun _ => q _) fun _ => ?_⟩
        refine ⟨_, rfl, rfl, _, rfl, ifI (fun _ => q _) fun _ => ?_⟩
        refine ⟨_, rfl, rfl, _, rfl, ifI (fun _ => q _) fun _ => ?_⟩
        exact ⟨_, rfl, rfl, _, rfl, q _⟩
      · have g4 := yb (4 : Int).toNat
        walk_at "w"
        intro l2 h2
        walk_at "nw"
        walk_at "w"
        exact ⟨trivial, _, rfl, O.tail⟩
    clear O
    rintro σ H3 ⟨-, pn, rfl, O⟩
    refine ⟨fun σ H' => Iv (∃ (rz : Int), σ = [some (.int z), some (.ref a), some (.ref b), some (.ref c), some (.ref d), some (.ref lx), some (.int pn), some (.ref lw), some (.int mo), some (.int rz), some (.int x), some (.int ft)] ∧ Ow T H H' [(lw, .lst (ww.map V.int)), (lx, .lst (ys.map V.int))]), ?_, ?_⟩
    · refine ifs_any (fun Q q => ?_) ?_ ⟨trivial, _, rfl, O⟩
      · refine ⟨_, rfl, rfl, _, rfl, ifI (fun _ => q _) fun _ => ?_⟩
        refine ⟨_, rfl, rfl, _, rfl, ifI (fun _ => q _) fun _ => ?_⟩
        refine ⟨_, rfl, rfl, _, rfl, ifI (fun _ => q _) fun _ => ?_⟩
        exact ⟨_, rfl, rfl, _, rfl, q _⟩
      · have g5 := yb (5 : Int).toNat
        have hml : ((r.map V.int).length : Int) = (r.length : Int) := by rw [List.length_map]
        walk_at "w"
        intro l2 h2
        walk_at "nw"
        walk_at "w"
        exact ⟨trivial, _, rfl, O.tail⟩
    clear O
    rintro σ H4 ⟨-, rz, rfl, O⟩
    refine ⟨fun σ H' => Iv (∃ (x : Int), σ = [some (.int z), some (.ref a), some (.ref b), some (.ref c), some (.ref d), some (.ref lx), some (.int pn), some (.ref lw), some (.int mo), some (.int rz), some (.int x), some (.int ft)] ∧ Ow T H H' [(lw, .lst (ww.map V.int)), (lx, .lst (ys.map V.int))]), ?_, ?_⟩
    · refine ifs_any (fun Q q => ?_) ?_ ⟨trivial, _, rfl, O⟩
      · refine ⟨_, rfl, _, _, rfl, rfl, _, rfl, ifD (fun _ => ?_) fun _ => q _⟩
        exact ⟨_, rfl, _, _, rfl, rfl, _, rfl, q _⟩
      · have g6 := yb (6 : Int).toNat
        walk_at "w"
        intro l2 h2
        walk_at "nw"
        walk_at "w"
        exact ⟨trivial, _, rfl, O.tail⟩
    clear O
    rintro σ H5 ⟨-, x, rfl, O⟩
    refine ⟨_, rfl, _, rfl, _, rfl, szl, fun t ht => ?_⟩
    walk_at "nw"
    exact O.retT 0 rfl q ⟨(pn, rz, x), rfl⟩
end
abbrev s__law_bad : Stmt := top 38
theorem sc__law_bad : FnScope ["one", "below", "roll", "ponds", "left"] ["one", "below", "roll", "ponds", "left"] (defScope s__law_bad) := ⟨rfl, rfl, rfl, by decide +kernel, rfl, by decide +kernel, by decide +kernel⟩
def badL (j : Nat) : List V := [.bl (decide (j = 1)), .bl (decide (j = 2)), .bl (decide (j = 3))]
def sp_bad (K : PySem.W.Frag) (T : Tabs) : Sp := fun vs H Q _ => ∃ (e a b c d : Addr) (r ks : List Int) (rs us : List V) (ls : List Lic) (ps : List (Int × Int × Int)) (m : Int × Int × Int), vs = [.ref e, .ref a, .ref b, .ref c, .ref d] ∧ SqT K H e [.int m.1, .int m.2.1, .int m.2.2] ∧ SqL K H a (r.map V.int) ∧ Rv.River r ∧ r.length ≤ 900 ∧ SqL K H b rs ∧ Dens K H rs (ls.map dLic) ∧ SqL K H c us ∧ Dens K H us (ps.map dMv) ∧ SqL K H d (ks.map V.int) ∧ ks.length = ps.length ∧ PdOk r ls ps ∧ TabsOk T H ∧
  RetLT T H (fun xs => xs = badL (judge r ls ps ks m)) Q
section
variable {P : Program} {w : World} {K : PySem.W.Frag} {mg : Str → Option Value} {base : Heap} {T : Tabs}
theorem ok_bad {f f2 : Addr} {fd fd2 : FuncData} (D : Df K mg "_law_bad" s__law_bad ["one", "below", "roll", "ponds", "left"] f fd) (B : Blt mg)
    (D__law_way : Df K mg "_law_way" s__law_way ["below", "start"] f2 fd2) (G__law_way : FnOk P w K mg base CX0 1 f2 fd2 ["below", "start"] (sp_lway K T)) : FnOk P w K mg base CX0 2 f fd ["one", "below", "roll", "ponds", "left"] (sp_bad K T) := by
  refine D.F.ok sc__law_bad (fun vs H Q E h => ?_) (fun cdv A outer s H vs Q E hr h => ?_)
  · obtain ⟨_, _, _, _, _, _, _, _, _, _, _, _, rfl, _⟩ := h; rfl
  · obtain ⟨e, a, b, c, d, r, ks, rs, us, ls, ps, m, rfl, hE, hA, hR, r9, hB, d0, hC, d1, hD, hkl, PO, tk, q⟩ := h
    have hul : us.length = ps.length := by rw [d1.length, List.length_map]
    obtain ⟨mi, mz, mv⟩ := m
    dsimp only at hE
    have ej : judge r ls ps ks (mi, mz, mv) = if mi < 0 ∨ (ps.length : Int) ≤ mi then 1 else if mz ≠ -1 ∧ ¬ mz ∈ Rv.walk r (stP ls ps mi.toNat) then 2 else if mv < 0 ∨ ks.getD mi.toNat 0 < mv then 3 else 0 := rfl
    generalize judge r ls ps ks (mi, mz, mv) = jj at ej q
    have O := Ow.refl tk
    have s0 := O.same
    refine ⟨_, (pss_cons (ps_if (PW.pt (pw_or (pt_cmpR op_lt (pe_ix ix_tup (pv 0) pe_int (fun _ _ => rfl)) pe_int (nomark _)) (pw_or1 (pt_cmpR op_ge (pe_ix ix_tup (pv 0) pe_int (fun _ _ => rfl)) (pe_callB call_len_seq rfl B.len PySem.boot_len (pa_cons (pv 3) pa_nil)) (nomark _)))))
        (pss_one (ps_ret (pe_lst (pa_cons pe_bl (pa_cons pe_bl (pa_cons pe_bl pa_nil))))))
        pss_nil)
      (pss_cons (ps_if (PW.pt (pw_and (pt_cmpR op_ne (pe_ix ix_tup (pv 0) pe_int (fun _ _ => rfl)) (pe_un un_neg pe_int) (nomark _)) (pw_and1 (pt_cmpR op_notIn_seq (pe_ix ix_tup (pv 0) pe_int (fun _ _ => rfl)) (pe_call G__law_way (hr.mono (by decide)) rfl D__law_way.m D__law_way.F.kp D__law_way.b .nil pass0 (pa_cons (pv 1) (pa_cons (pe_ix ix_tup (pe_ix ix_list (pv 2) (pe_ix ix_tup (pe_ix ix_list (pv 3) (pe_ix ix_tup (pv 0) pe_int (fun _ _ => rfl)) (fun _ _ => rfl)) pe_int (fun _ _ => rfl)) (fun _ _ => rfl)) pe_int (fun _ _ => rfl)) pa_nil))) (by rfl)))))
        (pss_one (ps_ret (pe_lst (pa_cons pe_bl (pa_cons pe_bl (pa_cons pe_bl pa_nil))))))
        pss_nil)
      (pss_one (ps_ret (pe_lst (pa_cons pe_bl (pa_cons pe_bl (pa_cons (pe_or (pe_cmpR op_lt (pe_ix ix_tup (pv 0) pe_int (fun _ _ => rfl)) pe_int (nomark _)) (pe_one (pe_cmpR op_gt (pe_ix ix_tup (pv 0) pe_int (fun _ _ => rfl)) (pe_ix ix_list (pv 4) (pe_ix ix_tup (pv 0) pe_int (fun _ _ => rfl)) (fun _ _ => rfl)) (nomark _)))) pa_nil)))))))), ?_⟩
    refine ⟨_, rfl, e, _, 0, _, rfl, rfl, hE, rfl, _, _, rfl, rfl, _, rfl, ifD (fun h => ?b1) fun m0 => ?_⟩
    case b1 =>
      rw [if_pos (.inl h)] at ej
      subst ej
      refine iteT ⟨szl, fun l hl => ?_⟩
      walk_at "nw"
      exact O.ret 0 rfl q rfl
    refine ⟨_, rfl, e, _, 0, _, rfl, rfl, hE, rfl, _, rfl, c, _, rfl, .inl hC, _, _, rfl, rfl, _, rfl, ifD (fun h => ?b2) fun m1 => ?_⟩
    case b2 =>
      rw [if_pos (.inr (by omega))] at ej
      subst ej
      refine ⟨szl, fun l hl => ?_⟩
      walk_at "nw"
      exact O.ret 0 rfl q rfl
    have hn : ¬ (mi < 0 ∨ (ps.length : Int) ≤ mi) := by omega
    rw [if_neg hn] at ej
    obtain ⟨n, rfl⟩ := Int.eq_ofNat_of_zero_le (show 0 ≤ mi by omega)
    rw [Int.toNat_natCast] at ej
    obtain ⟨p, l, hp, p0, hl, est, l0, l1⟩ := PO.at_ (n := n) (by omega)
    obtain ⟨ap, hap, hTp⟩ := dmv_at d1 hp
    rw [est] at ej
    obtain ⟨al, hal, hTl⟩ := d0.lic_at hl
    obtain ⟨pi, pr, pk⟩ := p
    dsimp only at p0 hl hal hTp
    obtain ⟨pm, rfl⟩ := Int.eq_ofNat_of_zero_le p0
    rw [Int.toNat_natCast] at hal
    have fin : (¬ (mz ≠ -1 ∧ ¬ mz ∈ Rv.walk r l.start)) → ∀ β : Bool, (β = true ↔ (mv < 0 ∨ ks.getD n 0 < mv)) → ∀ l2 H', Ow T H H' [(l2, .lst [.bl false, .bl false, .bl β])] → Q (.ref l2) H' := fun hno β hb l2 H' O => by
      rw [if_neg hno] at ej
      by_cases hv : mv < 0 ∨ ks.getD n 0 < mv
      · rw [if_pos hv] at ej
        subst ej
        rw [hb.mpr hv] at O
        exact O.ret 0 rfl q rfl
      · rw [if_neg hv] at ej
        subst ej
        have : β = false := by
          cases β
          · rfl
          · exact absurd (hb.mp rfl) hv
        rw [this] at O
        exact O.ret 0 rfl q rfl
    have fin2 : ∀ (Hc : Hp), Ow T H Hc [] → (¬ (mz ≠ -1 ∧ ¬ mz ∈ Rv.walk r l.start)) → ∀ (β : Bool), (β = true ↔ (mv < 0 ∨ ks.getD n 0 < mv)) → ([V.bl false, V.bl false, V.bl β].length ≤ sizeLine ∧ ∀ p : Addr, Hc p = none → Q (.ref p) (upd Hc p (.lst [.bl false, .bl false, .bl β]))) := fun Hc O hno β hb => by
      refine ⟨szl, fun l hl => ?_⟩
      walk_at "nw"
      exact fin hno β hb l _ O
    refine ⟨_, rfl, e, _, 1, _, rfl, rfl, hE, rfl, _, rfl, rfl, _, rfl, ifN (ifI (fun he => iteF ?_) fun he => ?_)⟩
    · have hno : ¬ (mz ≠ -1 ∧ ¬ mz ∈ Rv.walk r l.start) := fun y => y.1 he
      refine ⟨_, rfl, e, _, 2, _, rfl, rfl, hE, rfl, _, _, rfl, rfl, _, rfl, ifD (fun hv => ?_) fun hv => ?_⟩
      · exact fin2 H O hno true ⟨fun _ => .inl hv, fun _ => rfl⟩
      · refine ⟨_, rfl, e, _, 2, _, rfl, rfl, hE, rfl, _, rfl, _, rfl, e, _, 0, _, rfl, rfl, hE, rfl, d, _, _, _, rfl, rfl, hD, ints_at (getD_get? (ns := ks) (k := n) (by omega)), _, _, rfl, rfl, ?_⟩
        exact fin2 H O hno _ ⟨fun y => .inr (of_decide_eq_true y), fun y => decide_eq_true (y.resolve_left hv)⟩
    · refine ⟨_, rfl, e, _, 1, _, rfl, rfl, hE, rfl, _, rfl, _, rfl, _, rfl, _, rfl, e, _, 0, _, rfl, rfl, hE, rfl, c, _, _, _, rfl, rfl, hC, atI_nat hap, ap, _, 0, _, rfl, rfl, hTp, rfl, b, _, _, _, rfl, rfl, hB, atI_nat hal, al, _, 1, _, rfl, rfl, hTl, rfl, a, r, l.start, rfl, hA, hR, l0, l1, by omega, O.same.t1, O.gotT fun lw H2 xs O e => ?_⟩
      subst e
      refine ⟨lw, _, rfl, .inl (O.sq 0), rfl, flat_ints _, _, rfl, ?_⟩
      rw [if_pos rfl, in_ints]
      have O := O.tail
      refine ifN (ifD (fun hin => ?_) fun hin => ?b5)
      case b5 =>
        rw [if_pos ⟨he, hin⟩] at ej
        subst ej
        refine ⟨szl, fun l hl => ?_⟩
        walk_at "nw"
        exact O.ret 0 rfl q rfl
      have hno : ¬ (mz ≠ -1 ∧ ¬ mz ∈ Rv.walk r l.start) := fun y => y.2 hin
      refine ⟨_, rfl, _, _, 2, _, rfl, rfl, hE.mo O.same, rfl, _, _, rfl, rfl, _, rfl, ifD (fun hv => ?_) fun hv => ?_⟩
      · exact fin2 H2 O hno true ⟨fun _ => .inl hv, fun _ => rfl⟩
      · refine ⟨_, rfl, _, _, 2, _, rfl, rfl, hE.mo O.same, rfl, _, rfl, _, rfl, _, _, 0, _, rfl, rfl, hE.mo O.same, rfl, d, _, _, _, rfl, rfl, O.same.seq hD, ints_at (getD_get? (ns := ks) (k := n) (by omega)), _, _, rfl, rfl, ?_⟩
        exact fin2 H2 O hno _ ⟨fun y => .inr (of_decide_eq_true y), fun y => decide_eq_true (y.resolve_left hv)⟩
end
structure Told42 (K : PySem.W.Frag) (cS cP cR cM : Addr) (os : List Addr) : Prop where
  mS : ∀ j, PySem.W.exmOne K (.ref (errOf cP cR cM j)) (.ref cS) = some true
  no : ∀ j, ∀ c ∈ os, PySem.W.kitOne K (.ref (errOf cP cR cM j)) (.ref c) = some false
  kV : ∀ j, PySem.W.kitOne K (.ref (errOf cP cR cM j)) (.type "ValueError") = some true
  kP : ∀ j, 1 ≤ j → j ≤ 3 → PySem.W.kitOne K (.ref (errOf cP cR cM j)) (.ref cP) = some (decide (j = 1))
  kR : ∀ j, 1 ≤ j → j ≤ 3 → PySem.W.kitOne K (.ref (errOf cP cR cM j)) (.ref cR) = some (decide (j = 2))
  kM : ∀ j, 1 ≤ j → j ≤ 3 → PySem.W.kitOne K (.ref (errOf cP cR cM j)) (.ref cM) = some (decide (j = 3))
def dRf (j : Nat) : PyData := .tuple [.str "refused", .list [.bool (decide (j = 1)), .bool (decide (j = 2)), .bool (decide (j = 3))]]
abbrev s__law_refused : Stmt := top 39
theorem sc__law_refused : FnScope ["e", "others"] ["e"] (defScope s__law_refused) := ⟨rfl, rfl, rfl, by decide +kernel, rfl, by decide +kernel, by decide +kernel⟩
def sp_rf (K : PySem.W.Frag) (T : Tabs) (cP cR cM : Addr) : Sp := fun vs H Q _ => ∃ (e : Addr) (j : Nat), vs = [.ref e] ∧ 1 ≤ j ∧ j ≤ 3 ∧ H e = some (.ext (XAt e (errOf cP cR cM j))) ∧ TabsOk T H ∧ ∀ (v : V) (H' : Hp), SameT T H H' → Den K H' v (dRf j) → Q v H'
section
variable {P : Program} {w : World} {K : PySem.W.Frag} {mg : Str → Option Value} {base : Heap} {T : Tabs}
theorem ok_rf {f cS cP cR cM cFixed cFull cHarms cNoCut cNoDay cNoHolder cNoLicence cNoNumber cNoPaper cNoRiver cNoRow cNotAlone cNotYours : Addr} {fd : FuncData} (D : Df K mg "_law_refused" s__law_refused ["e"] f fd) (B : Blt mg) (X_NoPond : ErrC K mg "NoPond" cP) (X_NoReach : ErrC K mg "NoReach" cR) (X_TooMuch : ErrC K mg "TooMuch" cM) (X_Fixed : ErrC K mg "Fixed" cFixed) (X_Full : ErrC K mg "Full" cFull) (X_Harms : ErrC K mg "Harms" cHarms) (X_NoCut : ErrC K mg "NoCut" cNoCut) (X_NoDay : ErrC K mg "NoDay" cNoDay) (X_NoHolder : ErrC K mg "NoHolder" cNoHolder) (X_NoLicence : ErrC K mg "NoLicence" cNoLicence) (X_NoNumber : ErrC K mg "NoNumber" cNoNumber) (X_NoPaper : ErrC K mg "NoPaper" cNoPaper) (X_NoRiver : ErrC K mg "NoRiver" cNoRiver) (X_NoRow : ErrC K mg "NoRow" cNoRow) (X_NotAlone : ErrC K mg "NotAlone" cNotAlone) (X_NotYours : ErrC K mg "NotYours" cNotYours)
    (TT : Told42 K cS cP cR cM [cFixed, cFull, cHarms, cNoCut, cNoDay, cNoHolder, cNoLicence, cNoNumber, cNoPaper, cNoRiver, cNoRow, cNotAlone, cNotYours]) : FnOk P w K mg base CX0 1 f fd ["e"] (sp_rf K T cP cR cM) := by
  refine D.F.ok sc__law_refused (fun vs H Q E h => ?_) (fun cdv A outer s H vs Q E hr h => ?_)
  · obtain ⟨_, _, rfl, _⟩ := h; rfl
  · obtain ⟨e, j, rfl, j1, j3, hX, tk, q⟩ := h
    have hx : XCls K (errOf cP cR cM j) := by
      unfold errOf
      split
      · exact X_NoPond.x
      · split
        · exact X_NoReach.x
        · exact X_TooMuch.x
    have no := TT.no j
    have kV := TT.kV j
    have kP := TT.kP j j1 j3
    have kR := TT.kR j j1 j3
    have kM := TT.kM j j1 j3
    simp only [List.mem_cons, List.not_mem_nil, or_false, forall_eq_or_imp, forall_eq] at no
    generalize errOf cP cR cM j = ce at hX hx no kV kP kR kM
    obtain ⟨n1, n2, n3, n4, n5, n6, n7, n8, n9, n10, n11, n12, n13⟩ := no
    refine ⟨_, (pss_cons (ps_set (i := 1) sc__law_refused.nd rfl (Or.inl rfl) (pe_lst (pa_cons (pe_callB call_isinstX rfl B.isinstance PyProof.Rows.boot_isinstance (pa_cons (pv 0) (pa_cons (pe_cls rfl X_Fixed.m) pa_nil))) (pa_cons (pe_callB call_isinstX rfl B.isinstance PyProof.Rows.boot_isinstance (pa_cons (pv 0) (pa_cons (pe_cls rfl X_Full.m) pa_nil))) (pa_cons (pe_callB call_isinstX rfl B.isinstance PyProof.Rows.boot_isinstance (pa_cons (pv 0) (pa_cons (pe_cls rfl X_Harms.m) pa_nil))) (pa_cons (pe_callB call_isinstX rfl B.isinstance PyProof.Rows.boot_isinstance (pa_cons (pv 0) (pa_cons (pe_cls rfl X_NoCut.m) pa_nil))) pa_nil))))))
      (pss_cons (ps_set (i := 1) sc__law_refused.nd rfl (Or.inl rfl) (pe_op op_cat (pv 1) (pe_lst (pa_cons (pe_callB call_isinstX rfl B.isinstance PyProof.Rows.boot_isinstance (pa_cons (pv 0) (pa_cons (pe_cls rfl X_NoDay.m) pa_nil))) (pa_cons (pe_callB call_isinstX rfl B.isinstance PyProof.Rows.boot_isinstance (pa_cons (pv 0) (pa_cons (pe_cls rfl X_NoHolder.m) pa_nil))) (pa_cons (pe_callB call_isinstX rfl B.isinstance PyProof.Rows.boot_isinstance (pa_cons (pv 0) (pa_cons (pe_cls rfl X_NoLicence.m) pa_nil))) pa_nil))))))
      (pss_cons (ps_set (i := 1) sc__law_refused.nd rfl (Or.inl rfl) (pe_op op_cat (pv 1) (pe_lst (pa_cons (pe_callB call_isinstX rfl B.isinstance PyProof.Rows.boot_isinstance (pa_cons (pv 0) (pa_cons (pe_cls rfl X_NoNumber.m) pa_nil))) (pa_cons (pe_callB call_isinstX rfl B.isinstance PyProof.Rows.boot_isinstance (pa_cons (pv 0) (pa_cons (pe_cls rfl X_NoPaper.m) pa_nil))) (pa_cons (pe_callB call_isinstX rfl B.isinstance PyProof.Rows.boot_isinstance (pa_cons (pv 0) (pa_cons (pe_cls rfl X_NoRiver.m) pa_nil))) pa_nil))))))
      (pss_cons (ps_set (i := 1) sc__law_refused.nd rfl (Or.inl rfl) (pe_op op_cat (pv 1) (pe_lst (pa_cons (pe_callB call_isinstX rfl B.isinstance PyProof.Rows.boot_isinstance (pa_cons (pv 0) (pa_cons (pe_cls rfl X_NoRow.m) pa_nil))) (pa_cons (pe_callB call_isinstX rfl B.isinstance PyProof.Rows.boot_isinstance (pa_cons (pv 0) (pa_cons (pe_cls rfl X_NotAlone.m) pa_nil))) (pa_cons (pe_callB call_isinstX rfl B.isinstance PyProof.Rows.boot_isinstance (pa_cons (pv 0) (pa_cons (pe_cls rfl X_NotYours.m) pa_nil))) pa_nil))))))
      (pss_cons (ps_if (PW.pt (pw_or (pt_cmpR op_in_seq pe_bl (pv 1) (by rfl)) (pw_or1 (pt_not (pt_val (pe_callB call_isinstX rfl B.isinstance PyProof.Rows.boot_isinstance (pa_cons (pv 0) (pa_cons (pe_bltn (v := .ty "ValueError") rfl B.ValueError boot_VE rfl) pa_nil))))))))
        (pss_one (ps_ret (pe_tup (pa_cons pe_str (pa_cons (pe_lst pa_nil) pa_nil)))))
        pss_nil)
      (pss_one (ps_ret (pe_tup (pa_cons pe_str (pa_cons (pe_lst (pa_cons (pe_callB call_isinstX rfl B.isinstance PyProof.Rows.boot_isinstance (pa_cons (pv 0) (pa_cons (pe_cls rfl X_NoPond.m) pa_nil))) (pa_cons (pe_callB call_isinstX rfl B.isinstance PyProof.Rows.boot_isinstance (pa_cons (pv 0) (pa_cons (pe_cls rfl X_NoReach.m) pa_nil))) (pa_cons (pe_callB call_isinstX rfl B.isinstance PyProof.Rows.boot_isinstance (pa_cons (pv 0) (pa_cons (pe_cls rfl X_TooMuch.m) pa_nil))) pa_nil)))) pa_nil)))))))))), ?_⟩
    have O := Ow.refl tk
    have s0 := O.same
    have hK : ∀ H', SameT T H H' → H' e = some (.ext (XAt e ce)) := fun H' s' => s'.keep _ _ hX (fun _ z => nomatch z)
    refine ⟨_, rfl, e, ce, _, _, false, rfl, hX, hx, .inr ⟨_, rfl, rfl⟩, n1, _, rfl, e, ce, _, _, false, rfl, hX, hx, .inr ⟨_, rfl, rfl⟩, n2, _, rfl, e, ce, _, _, false, rfl, hX, hx, .inr ⟨_, rfl, rfl⟩, n3, _, rfl, e, ce, _, _, false, rfl, hX, hx, .inr ⟨_, rfl, rfl⟩, n4, szl, fun l1 h1 => ?_⟩
    walk_at "nw"
    have hX1 := hK _ O.same
    refine ⟨_, rfl, _, rfl, e, ce, _, _, false, rfl, hX1, hx, .inr ⟨_, rfl, rfl⟩, n5, _, rfl, e, ce, _, _, false, rfl, hX1, hx, .inr ⟨_, rfl, rfl⟩, n6, _, rfl, e, ce, _, _, false, rfl, hX1, hx, .inr ⟨_, rfl, rfl⟩, n7, szl, fun l2 h2 => ?_⟩
    walk_at "nw"
    refine ⟨l1, l2, _, _, rfl, rfl, O.get 1, O.get 0, szl, fun l3 h3 => ?_⟩
    walk_at "nw"
    replace hX1 := hK _ O.same
    have O := O.two.two
    refine ⟨_, rfl, _, rfl, e, ce, _, _, false, rfl, hX1, hx, .inr ⟨_, rfl, rfl⟩, n8, _, rfl, e, ce, _, _, false, rfl, hX1, hx, .inr ⟨_, rfl, rfl⟩, n9, _, rfl, e, ce, _, _, false, rfl, hX1, hx, .inr ⟨_, rfl, rfl⟩, n10, szl, fun l4 h4 => ?_⟩
    walk_at "nw"
    refine ⟨l3, l4, _, _, rfl, rfl, O.get 1, O.get 0, szl, fun l5 h5 => ?_⟩
    walk_at "nw"
    replace hX1 := hK _ O.same
    have O := O.two.two
    refine ⟨_, rfl, _, rfl, e, ce, _, _, false, rfl, hX1, hx, .inr ⟨_, rfl, rfl⟩, n11, _, rfl, e, ce, _, _, false, rfl, hX1, hx, .inr ⟨_, rfl, rfl⟩, n12, _, rfl, e, ce, _, _, false, rfl, hX1, hx, .inr ⟨_, rfl, rfl⟩, n13, szl, fun l6 h6 => ?_⟩
    walk_at "nw"
    refine ⟨l5, l6, _, _, rfl, rfl, O.get 1, O.get 0, szl, fun l7 h7 => ?_⟩
    walk_at "nw"
    replace hX1 := hK _ O.same
    have O := O.two.two
    refine ⟨_, rfl, l7, _, rfl, .inl (O.sq 0), rfl, rfl, _, rfl, ?_⟩
    rw [if_neg Bool.false_ne_true]
    refine iteF ?_
    refine ⟨_, rfl, e, ce, _, _, true, rfl, hX1, hx, .inl ⟨_, rfl, rfl⟩, kV, _, rfl, iteF ?_⟩
    refine ⟨_, rfl, e, ce, _, _, _, rfl, hX1, hx, .inr ⟨_, rfl, rfl⟩, kP, _, rfl, e, ce, _, _, _, rfl, hX1, hx, .inr ⟨_, rfl, rfl⟩, kR, _, rfl, e, ce, _, _, _, rfl, hX1, hx, .inr ⟨_, rfl, rfl⟩, kM, szl, fun l8 h8 => ?_⟩
    walk_at "nw"
    refine ⟨szl, fun l9 h9 => ?_⟩
    walk_at "nw"
    exact q _ _ O.same (.tuple (O.sqT 0) (.cons (.str _) (.cons (.list (O.sq 1) (.cons (.bl _) (.cons (.bl _) (.cons (.bl _) .nil)))) .nil)))
end
def dAns (s : Nat × List Int) : PyData := if s.1 = 0 then .tuple [.str "told", dInts s.2] else dRf s.1
theorem run_le {r : List Int} {ls : List Lic} {ps : List (Int × Int × Int)} : ∀ (ms : List (Int × Int × Int)) (s : Nat × List Int), s.1 ≤ 3 → (ms.foldl (runS r ls ps) s).1 ≤ 3
  | [], _, h => h
  | m :: ms, s, h => by
    refine run_le ms (runS r ls ps s m) ?_
    unfold runS
    split
    · split
      · exact Nat.zero_le _
      · rcases judge_le (r := r) (ls := ls) (ps := ps) (ks := s.2) (m := m) with e | e | e | e <;> (show judge r ls ps s.2 m ≤ 3; omega)
    · exact h
abbrev s__law_asked : Stmt := top 40
theorem sc__law_asked : FnScope ["below", "roll", "ponds", "kept", "lets", "caught", "found", "e"] ["below", "roll", "ponds", "kept", "lets"] (defScope s__law_asked) := ⟨rfl, rfl, rfl, by decide +kernel, rfl, by decide +kernel, by decide +kernel⟩
def sp_ask (K : PySem.W.Frag) (T : Tabs) : Sp := fun vs H Q _ => ∃ (a b c d e : Addr) (r ks : List Int) (rs us ts : List V) (ls : List Lic) (ps ms : List (Int × Int × Int)), vs = [.ref a, .ref b, .ref c, .ref d, .ref e] ∧ SqL K H a (r.map V.int) ∧ Rv.River r ∧ r.length ≤ 900 ∧ SqL K H b rs ∧ Dens K H rs (ls.map dLic) ∧ SqL K H c us ∧ Dens K H us (ps.map dMv) ∧ SqL K H d (ks.map V.int) ∧ ks.length = ps.length ∧ SqL K H e ts ∧ Dens K H ts (ms.map dMv) ∧ PdOk r ls ps ∧ TabsOk T H ∧
  ∀ (v : V) (H' : Hp), SameT T H H' → Den K H' v (dAns (runL r ls ps ks ms)) → Q v H'
section
variable {P : Program} {w : World} {K : PySem.W.Frag} {mg : Str → Option Value} {base : Heap} {T : Tabs}
theorem ok_ask {f f1 f2 f3 cS cP cR cM : Addr} {os : List Addr} {fd fd1 fd2 fd3 : FuncData} (D : Df K mg "_law_asked" s__law_asked ["below", "roll", "ponds", "kept", "lets"] f fd) (B : Blt mg) (X_SluiceError : ErrC K mg "SluiceError" cS) (TT : Told42 K cS cP cR cM os)
    (D_let_out : Df K mg "let_out" s_let_out ["below", "roll", "ponds", "kept", "lets"] f1 fd1) (G_let_out : FnOk P w K mg base (CXE P w) 4 f1 fd1 ["below", "roll", "ponds", "kept", "lets"] (sp_loX K T cP cR cM))
    (D__law_refused : Df K mg "_law_refused" s__law_refused ["e"] f2 fd2) (G__law_refused : FnOk P w K mg base CX0 1 f2 fd2 ["e"] (sp_rf K T cP cR cM))
    (D__law_counts : Df K mg "_law_counts" s__law_counts ["thing"] f3 fd3) (G__law_counts : FnOk P w K mg base CX0 1 f3 fd3 ["thing"] sp_cnt) : FnOk P w K mg base CX0 5 f fd ["below", "roll", "ponds", "kept", "lets"] (sp_ask K T) := by
  refine D.F.ok sc__law_asked (fun vs H Q E h => ?_) (fun cdv A outer s H vs Q E hr h => ?_)
  · obtain ⟨_, _, _, _, _, _, _, _, _, _, _, _, _, rfl, _⟩ := h; rfl
  · obtain ⟨a, b, c, d, e, r, ks, rs, us, ts, ls, ps, ms, rfl, hA, hR, r9, hB, d0, hC, d1, hD, hkl, hE, d2, PO, tk, q⟩ := h
    have hu := hr.units
    have h3 : (runL r ls ps ks ms).1 ≤ 3 := run_le ms _ (Nat.zero_le _)
    refine ⟨_, (pss_cons (ps_set (i := 5) sc__law_asked.nd rfl (Or.inl rfl) pe_non)
      (pss_cons (ps_set (i := 6) sc__law_asked.nd rfl (Or.inl rfl) pe_non)
      (pss_cons (ps_try (i := 7) ⟨rfl, rfl, rfl⟩ rfl (xss_one (xs_set (i := 6) sc__law_asked.nd rfl (Or.inl rfl) (xe_call G_let_out (hr.mono (by decide)) rfl D_let_out.m D_let_out.F.kp D_let_out.b .nil (pa_cons (pv 0) (pa_cons (pv 1) (pa_cons (pv 2) (pa_cons (pv 3) (pa_cons (pv 4) pa_nil)))))))) rfl X_SluiceError.m sc__law_asked.nd rfl rfl (fun e =>
        (pss_one (ps_set (i := 5) sc__law_asked.nd rfl (Or.inl rfl) (pv 7)))))
      (pss_cons (ps_if (pt_cmpR op_notN (pv 5) pe_non (nomark _))
        (pss_one (ps_ret (pe_call G__law_refused (hr.mono (by decide)) rfl D__law_refused.m D__law_refused.F.kp D__law_refused.b .nil pass0 (pa_cons (pv 5) pa_nil))))
        pss_nil)
      (pss_cons (ps_if (PW.pt (pw_or (pt_not (pt_val (pe_callB call_isinst rfl B.isinstance PyProof.Rows.boot_isinstance (pa_cons (pv 6) (pa_cons (pe_bltn (v := .ty "list") rfl B.list PyProof.Rows.boot_list rfl) pa_nil))))) (pw_or1 (pt_cmpR (op_neI hu) (pe_comp (defScope s__law_asked) rfl ["below", "roll", "ponds", "kept", "lets", "caught", "found", "e"] rfl ["one"] [none] (by decide +kernel) (by decide +kernel) (by decide +kernel) rfl (pi_list (pv 6)) (fun _ _ _ => (pg_name (i := 0) (show (["one"] : List Str).Nodup by decide +kernel) rfl (Or.inl rfl))) (fun _ _ _ => (pts_one (pt_not (pt_val (pe_call G__law_counts (hr.mono (by decide)) rfl D__law_counts.m D__law_counts.F.kp D__law_counts.b .nil pass0 (pa_cons (pv 0) pa_nil)))))) (fun _ _ _ => (pv 0))) (pe_lst pa_nil) (nomark _)))))
        (pss_one (ps_ret (pe_tup (pa_cons pe_str (pa_cons pe_non pa_nil)))))
        pss_nil)
      (pss_one (ps_ret (pe_tup (pa_cons pe_str (pa_cons (pv 6) pa_nil)))))))))), ?_⟩
    have O := Ow.refl tk
    refine ⟨_, rfl, _, rfl, _, rfl, _, rfl, _, rfl, a, b, c, d, e, r, ks, rs, us, ts, ls, ps, ms, rfl, hA, hR, r9, hB, d0, hC, d1, hD, hkl, hE, d2, PO, tk, fun h0 => ?_, fun hn e H' s' he => ?_⟩
    · refine O.gotT fun lo H16 zs O e => ?_
      subst e
      have q2 : ∀ (v : V) (H' : Hp), SameT T H H' → Den K H' v (.tuple [.str "told", dInts (runL r ls ps ks ms).2]) → Q v H' := fun v H' s' hd => q v H' s' (by unfold dAns; rw [if_pos h0]; exact hd)
      clear q
      have hfl := runL_len r ls ps ks ms
      generalize (runL r ls ps ks ms).2 = fs at O hfl q2
      refine ⟨_, rfl, rfl, _, rfl, iteF ?_⟩
      refine ⟨_, rfl, _, _, _, true, rfl, .lst (O.get 0), kit_ll K, _, rfl, iteF ?_⟩
      refine ⟨_, rfl, lo, rfl, ⟨_, O.sq 0⟩, fun l2 hl2 => ?_⟩
      refine comp_list (K := K) (xs := fs.map V.int) (fun i τ H' => Iv (∃ (v0 : Option V), τ = [v0] ∧ Ow T H H' [(l2, .lst []), (lo, .lst (fs.map V.int))]))
        ⟨trivial, none, rfl, O.mk' hl2 rfl⟩ (fun i τ H' _ ⟨_, _, _, O⟩ => O.sq 1) ?_ ?_
      · rintro i y τ H17 hy ⟨-, v0, rfl, O⟩
        obtain ⟨z, hz, rfl⟩ := ints_get hy
        refine ⟨_, rfl, z, rfl, _, rfl, iteF ⟨trivial, _, rfl, O⟩⟩
      rintro τ H17 ⟨-, v0, rfl, O⟩
      refine ⟨szl, fun l3 hl3 => ?_⟩
      walk_at "nw"
      refine ⟨l2, l3, [], [], rfl, rfl, O.sq 1, O.sq 0, _, rfl, ?_⟩
      rw [if_pos rfl, decide_eq_true rfl]
      refine iteF ?_
      refine ⟨_, rfl, szl, fun lt hlt => ?_⟩
      walk_at "nw"
      exact q2 _ _ O.same (.tuple (O.sqT 0) (.cons (.str _) (.cons (Den.ints (O.sq 3)) .nil)))
    · have q2 : ∀ (v : V) (H' : Hp), SameT T H H' → Den K H' v (dRf (runL r ls ps ks ms).1) → Q v H' := fun v H' s' hd => q v H' s' (by unfold dAns; rw [if_neg hn]; exact hd)
      clear q
      generalize (runL r ls ps ks ms).1 = j at hn h3 q2
      refine ⟨_, e, rfl, rfl, TT.mS j, ?_⟩
      refine ⟨_, rfl, ?_⟩
      have hX : (upd H' e (.ext (XAt e (errOf cP cR cM j)))) e = some (.ext (XAt e (errOf cP cR cM j))) := upd_same
      have sX : SameT T H (upd H' e (.ext (XAt e (errOf cP cR cM j)))) := s'.upd (s'.free he) (.inl he)
      generalize upd H' e (.ext (XAt e (errOf cP cR cM j))) = H2 at hX sX
      refine ⟨_, rfl, rfl, _, rfl, iteT ?_⟩
      exact ⟨_, rfl, e, j, rfl, by omega, h3, hX, sX.t1, fun v H3 s3 hd => q2 v H3 (sX.trans s3) hd⟩
end
abbrev s_law : Stmt := top 41
theorem sc_law : FnScope ["script", "kind", "below", "roll", "ponds", "xs", "kept", "left", "lets", "good", "due", "cell", "one", "bad", "handed", "found"] ["script"] (defScope s_law) := ⟨rfl, rfl, rfl, by decide +kernel, rfl, by decide +kernel, by decide +kernel⟩
def sp_law (K : PySem.W.Frag) : Sp := fun vs H Q _ => ∃ (a : Addr) (ns : List Int), vs = [.ref a] ∧ SqL K H a (ns.map V.int) ∧ ns.length ≤ 63 ∧ ∀ H', Q (.bl true) H'
theorem Sh.five {n : Nat} {a b c d e : PyData} (h1 : Sh n a) (h2 : Sh n b) (h3 : Sh n c) (h4 : Sh n d) (h5 : Sh n e) : Sh (n + 1) (.list [a, b, c, d, e]) := .list fun x hx => by
  simp only [List.mem_cons, List.not_mem_nil, or_false] at hx
  rcases hx with rfl | rfl | rfl | rfl | rfl
  · exact h1
  · exact h2
  · exact h3
  · exact h4
  · exact h5
theorem sh_told (n : Nat) : Sh n (.str "told") := ⟨by rw [PyData.canLay0]; decide +kernel, by simp [PyData.depth]⟩
theorem sh_refd (n : Nat) : Sh n (.str "refused") := ⟨by rw [PyData.canLay0]; decide +kernel, by simp [PyData.depth]⟩
theorem sh_bool (n : Nat) (b : Bool) : Sh n (.bool b) := ⟨by simp [PyData.canLay0], by simp [PyData.depth]⟩
theorem sh_ans (s : Nat × List Int) : Sh 3 (dAns s) := by
  unfold dAns
  split
  · refine .tuple fun d hd => ?_
    simp only [List.mem_cons, List.not_mem_nil, or_false] at hd
    rcases hd with rfl | rfl
    · exact sh_told _
    · exact Sh.ints 1 _
  · refine .tuple fun d hd => ?_
    simp only [List.mem_cons, List.not_mem_nil, or_false] at hd
    rcases hd with rfl | rfl
    · exact sh_refd _
    · refine .list fun d hd => ?_
      simp only [List.mem_cons, List.not_mem_nil, or_false] at hd
      rcases hd with rfl | rfl | rfl <;> exact sh_bool _ _
def Due42 (K : PySem.W.Frag) (Hb : Hp) (r : List Int) (ls : List Lic) (ps : List (Int × Int × Int)) (ks : List Int) (lf : Addr) (ms : List (Int × Int × Int)) (vg vd : V) : Prop :=
  ((runL r ls ps ks ms).1 = 0 ∧ vg = .non ∧ ∃ td, vd = .ref td ∧ SqT K Hb td [.str "told", .ref lf]) ∨
  ((runL r ls ps ks ms).1 ≠ 0 ∧ ∃ (lg : Addr) (gs : List V) (gm : List (Int × Int × Int)), vg = .ref lg ∧ SqL K Hb lg gs ∧ Dens K Hb gs (gm.map dMv) ∧ runL r ls ps ks gm = (0, (runL r ls ps ks ms).2) ∧ Den K Hb vd (dRf (runL r ls ps ks ms).1))
theorem Due42.mo {T : Tabs} {K : PySem.W.Frag} {Hb Hc : Hp} {r : List Int} {ls : List Lic} {ps : List (Int × Int × Int)} {ks : List Int} {lf : Addr} {ms : List (Int × Int × Int)} {vg vd : V} (h : Due42 K Hb r ls ps ks lf ms vg vd) (s : SameT T Hb Hc) : Due42 K Hc r ls ps ks lf ms vg vd := by
  rcases h with ⟨a, b, td, c, d⟩ | ⟨a, lg, gs, gm, b, c, d, e, f⟩
  · exact .inl ⟨a, b, td, c, d.mo s⟩
  · exact .inr ⟨a, lg, gs, gm, b, s.seq c, d.mo s, e, f.monoT s⟩
theorem bad_in {j : Nat} (h : j = 0 ∨ j = 1 ∨ j = 2 ∨ j = 3) : inV (.bl true) (badL j) = decide (j ≠ 0) := by
  rcases h with rfl | rfl | rfl | rfl <;> rfl
theorem left_nn {r : List Int} {ls : List Lic} {ps : List (Int × Int × Int)} {s : Nat × List Int} {m : Int × Int × Int} (h : ∀ z ∈ s.2, 0 ≤ z) : ∀ z ∈ (runS r ls ps s m).2, 0 ≤ z := by
  unfold runS
  split
  · split
    · rename_i hj
      obtain ⟨_, _, _, h4⟩ := judge_at hj
      intro z hz
      rcases List.mem_or_eq_of_mem_set hz with e | e
      · exact h z e
      · rw [e]; omega
    · exact h
  · exact h
section
variable {P : Program} {w : World} {K : PySem.W.Frag} {mg : Str → Option Value} {base : Heap}
theorem ok_law {f f1 f2 f3 f4 f5 f6 f7 f8 f9 : Addr} {fd fd1 fd2 fd3 fd4 fd5 fd6 fd7 fd8 fd9 : FuncData} (D : Df K mg "law" s_law ["script"] f fd) (B : Blt mg)
    (D__law_nth : Df K mg "_law_nth" s__law_nth ["script", "k"] f1 fd1) (G__law_nth : FnOk P w K mg base CX0 1 f1 fd1 ["script", "k"] (sp_nth K []))
    (D__law_draws : Df K mg "_law_draws" s__law_draws ["cell", "many"] f2 fd2) (G__law_draws : FnOk P w K mg base CX0 1 f2 fd2 ["cell", "many"] (sp_dws []))
    (D__law_river : Df K mg "_law_river" s__law_river ["cell"] f3 fd3) (G__law_river : FnOk P w K mg base CX0 2 f3 fd3 ["cell"] (sp_river []))
    (D__law_some : Df K mg "_law_some" s__law_some ["number", "most"] f4 fd4) (G__law_some : FnOk P w K mg base CX0 1 f4 fd4 ["number", "most"] sp_som)
    (D__law_roll : Df K mg "_law_roll" s__law_roll ["cell", "below", "kind"] f5 fd5) (G__law_roll : FnOk P w K mg base CX0 2 f5 fd5 ["cell", "below", "kind"] (sp_rol K []))
    (D__law_ponds : Df K mg "_law_ponds" s__law_ponds ["cell", "roll", "kind"] f6 fd6) (G__law_ponds : FnOk P w K mg base CX0 2 f6 fd6 ["cell", "roll", "kind"] (sp_pon K []))
    (D__law_let : Df K mg "_law_let" s__law_let ["cell", "below", "roll", "ponds", "left"] f7 fd7) (G__law_let : FnOk P w K mg base CX0 2 f7 fd7 ["cell", "below", "roll", "ponds", "left"] (sp_let K []))
    (D__law_bad : Df K mg "_law_bad" s__law_bad ["one", "below", "roll", "ponds", "left"] f8 fd8) (G__law_bad : FnOk P w K mg base CX0 2 f8 fd8 ["one", "below", "roll", "ponds", "left"] (sp_bad K []))
    (D__law_asked : Df K mg "_law_asked" s__law_asked ["below", "roll", "ponds", "kept", "lets"] f9 fd9) (G__law_asked : FnOk P w K mg base CX0 5 f9 fd9 ["below", "roll", "ponds", "kept", "lets"] (sp_ask K [])) : FnOk P w K mg base CX0 6 f fd ["script"] (sp_law K) := by
  refine D.F.ok sc_law (fun vs H Q E h => ?_) (fun cdv A outer s H vs Q E hr h => ?_)
  · obtain ⟨a, ns, rfl, _⟩ := h; rfl
  · obtain ⟨a, ns, rfl, hS, hlen, k⟩ := h
    have hu := hr.units
    refine ⟨_, (pss_cons (ps_set (i := 1) sc_law.nd rfl (Or.inl rfl) (pe_op op_mod (pe_call G__law_nth (hr.mono (by decide)) rfl D__law_nth.m D__law_nth.F.kp D__law_nth.b .nil pass0 (pa_cons (pv 0) (pa_cons pe_int pa_nil))) pe_int))
      (pss_cons (ps_set (i := 2) sc_law.nd rfl (Or.inl rfl) (pe_call G__law_river (hr.mono (by decide)) rfl D__law_river.m D__law_river.F.kp D__law_river.b .nil pass0 (pa_cons (pe_op op_fdiv (pe_call G__law_nth (hr.mono (by decide)) rfl D__law_nth.m D__law_nth.F.kp D__law_nth.b .nil pass0 (pa_cons (pv 0) (pa_cons pe_int pa_nil))) pe_int) pa_nil)))
      (pss_cons (ps_set (i := 3) sc_law.nd rfl (Or.inl rfl) (pe_call G__law_roll (hr.mono (by decide)) rfl D__law_roll.m D__law_roll.F.kp D__law_roll.b .nil pass0 (pa_cons (pe_call G__law_nth (hr.mono (by decide)) rfl D__law_nth.m D__law_nth.F.kp D__law_nth.b .nil pass0 (pa_cons (pv 0) (pa_cons pe_int pa_nil))) (pa_cons (pv 2) (pa_cons (pv 1) pa_nil)))))
      (pss_cons (ps_set (i := 4) sc_law.nd rfl (Or.inr rfl) (pe_call G__law_ponds (hr.mono (by decide)) rfl D__law_ponds.m D__law_ponds.F.kp D__law_ponds.b .nil pass0 (pa_cons (pe_call G__law_nth (hr.mono (by decide)) rfl D__law_nth.m D__law_nth.F.kp D__law_nth.b .nil pass0 (pa_cons (pv 0) (pa_cons pe_int pa_nil))) (pa_cons (pv 3) (pa_cons (pv 1) pa_nil)))))
      (pss_cons (ps_set (i := 5) sc_law.nd rfl (Or.inr rfl) (pe_call G__law_draws (hr.mono (by decide)) rfl D__law_draws.m D__law_draws.F.kp D__law_draws.b .nil pass0 (pa_cons (pe_op op_add (pe_call G__law_nth (hr.mono (by decide)) rfl D__law_nth.m D__law_nth.F.kp D__law_nth.b .nil pass0 (pa_cons (pv 0) (pa_cons pe_int pa_nil))) pe_int) (pa_cons pe_int pa_nil))))
      (pss_cons (ps_setComp (i := 6) (defScope s_law) rfl ["script", "kind", "below", "roll", "ponds", "xs", "kept", "left", "lets", "good", "due", "cell", "one", "bad", "handed", "found"] rfl ["k", "xs", "ponds"] [none, some 5, some 4] (by decide +kernel) (by decide +kernel) (by decide +kernel) rfl sc_law.nd rfl rfl (pi_range1 rfl B.range (pa_cons (pe_callB call_len_seq rfl B.len PySem.boot_len (pa_cons (pv 4) pa_nil)) pa_nil)) (fun _ _ _ => (pg_name (i := 0) (show (["k", "xs", "ponds"] : List Str).Nodup by decide +kernel) rfl (Or.inl rfl))) (fun _ _ _ => pts_nil) (fun _ _ _ => (pe_call G__law_some (hr.mono (by decide)) rfl D__law_some.m D__law_some.F.kp D__law_some.b .nil pass0 (pa_cons (pe_ix (ix_listK (K := K) rfl) (pv 1) (pv 0) (fun _ _ => rfl)) (pa_cons (pe_ix (ix_tupK (K := K) rfl) (pe_ix (ix_listK (K := K) rfl) (pv 2) (pv 0) (fun _ _ => rfl)) pe_int (fun _ _ => rfl)) pa_nil)))) rfl)
      (pss_cons (ps_set (i := 7) sc_law.nd rfl (Or.inl rfl) (pe_callTy call_list_of rfl B.list PyProof.Rows.boot_list (pa_cons (pv 6) pa_nil)))
      (pss_cons (ps_set (i := 8) sc_law.nd rfl (Or.inl rfl) (pe_lst pa_nil))
      (pss_cons (ps_set (i := 9) sc_law.nd rfl (Or.inl rfl) pe_non)
      (pss_cons (ps_set (i := 10) sc_law.nd rfl (Or.inl rfl) (pe_tup (pa_cons pe_str (pa_cons (pv 7) pa_nil))))
      (pss_cons (ps_for PassesOwn.never rfl (pi_list (pe_slice sl_list (pv 0) (po_some pe_int) (po_some pe_int))) (pg_name (i := 11) sc_law.nd rfl (Or.inl rfl))
        (pss_cons (ps_set (i := 12) sc_law.nd rfl (Or.inl rfl) (pe_call G__law_let (hr.mono (by decide)) rfl D__law_let.m D__law_let.F.kp D__law_let.b .nil pass0 (pa_cons (pv 11) (pa_cons (pv 2) (pa_cons (pv 3) (pa_cons (pv 4) (pa_cons (pv 7) pa_nil)))))))
        (pss_consM (ps_if (pt_cmpR op_isN (pv 9) pe_non (nomark _))
          (pss_cons (ps_set (i := 13) sc_law.nd rfl (Or.inl rfl) (pe_call G__law_bad (hr.mono (by decide)) rfl D__law_bad.m D__law_bad.F.kp D__law_bad.b .nil pass0 (pa_cons (pv 12) (pa_cons (pv 2) (pa_cons (pv 3) (pa_cons (pv 4) (pa_cons (pv 7) pa_nil)))))))
          (pss_one (ps_if (pt_cmpR op_in_seq pe_bl (pv 13) (by rfl))
            (pss_cons (ps_set (i := 9) sc_law.nd rfl (Or.inl rfl) (pe_callTy call_list_of rfl B.list PyProof.Rows.boot_list (pa_cons (pv 8) pa_nil)))
            (pss_one (ps_set (i := 10) sc_law.nd rfl (Or.inl rfl) (pe_tup (pa_cons pe_str (pa_cons (pv 13) pa_nil))))))
            (pss_one (ps_asg (pe_op op_sub (pe_ix ix_list (pv 7) (pe_ix ix_tup (pv 12) pe_int (fun _ _ => rfl)) (fun _ _ => rfl)) (pe_ix ix_tup (pv 12) pe_int (fun _ _ => rfl))) (pg_sub (pv 7) (pe_ix ix_tup (pv 12) pe_int (fun _ _ => rfl)) set_list))))))
          pss_nil)
        (pss_one (ps_expr (pe_bm PySem.F.plainAttrs_list PySem.F.slot_list_append PySem.F.type_list_append mt_append (pv 8) (pa_cons (pv 12) pa_nil)))))))
      (pss_cons (ps_set (i := 14) sc_law.nd rfl (Or.inl rfl) (pe_lst (pa_cons (pe_callTy call_list_of rfl B.list PyProof.Rows.boot_list (pa_cons (pv 2) pa_nil)) (pa_cons (pe_callTy call_list_of rfl B.list PyProof.Rows.boot_list (pa_cons (pv 3) pa_nil)) (pa_cons (pe_callTy call_list_of rfl B.list PyProof.Rows.boot_list (pa_cons (pv 4) pa_nil)) (pa_cons (pe_callTy call_list_of rfl B.list PyProof.Rows.boot_list (pa_cons (pv 6) pa_nil)) (pa_cons (pe_callTy call_list_of rfl B.list PyProof.Rows.boot_list (pa_cons (pv 8) pa_nil)) pa_nil)))))))
      (pss_cons (ps_set (i := 15) sc_law.nd rfl (Or.inl rfl) (pe_call G__law_asked (hr.mono (by decide)) rfl D__law_asked.m D__law_asked.F.kp D__law_asked.b .nil pass0 (pa_cons (pe_ix ix_list (pv 14) pe_int (fun _ _ => rfl)) (pa_cons (pe_ix ix_list (pv 14) pe_int (fun _ _ => rfl)) (pa_cons (pe_ix ix_list (pv 14) pe_int (fun _ _ => rfl)) (pa_cons (pe_ix ix_list (pv 14) pe_int (fun _ _ => rfl)) (pa_cons (pe_ix ix_list (pv 14) pe_int (fun _ _ => rfl)) pa_nil)))))))
      (pss_consM (ps_if (PW.pt (pw_or (pt_cmpR (op_neD hu) (pv 15) (pv 10) (nomark _)) (pw_or1 (pt_cmpR (op_neD hu) (pv 14) (pe_lst (pa_cons (pv 2) (pa_cons (pv 3) (pa_cons (pv 4) (pa_cons (pv 6) (pa_cons (pv 8) pa_nil)))))) (nomark _)))))
        (pss_one (ps_ret pe_bl))
        pss_nil)
      (pss_consM (ps_if (pt_cmpR op_isN (pv 9) pe_non (nomark _))
        (pss_one (ps_ret pe_bl))
        pss_nil)
      (pss_one (ps_ret (pe_cmpR (op_eqD hu) (pe_call G__law_asked (hr.mono (by decide)) rfl D__law_asked.m D__law_asked.F.kp D__law_asked.b .nil pass0 (pa_cons (pe_ix ix_list (pv 14) pe_int (fun _ _ => rfl)) (pa_cons (pe_ix ix_list (pv 14) pe_int (fun _ _ => rfl)) (pa_cons (pe_ix ix_list (pv 14) pe_int (fun _ _ => rfl)) (pa_cons (pe_ix ix_list (pv 14) pe_int (fun _ _ => rfl)) (pa_cons (pv 9) pa_nil)))))) (pe_tup (pa_cons pe_str (pa_cons (pv 7) pa_nil))) (nomark _))))))))))))))))))), ?_⟩
    have O := Ow.refl0 H
    have s0 := O.same
    refine ⟨_, rfl, a, ns, 0, rfl, hS, TabsOk.nil _, fun H1 sm => ?_⟩
    have O := O.callT sm
    refine ⟨_, _, rfl, rfl, (by show (0 : Int) < 3; decide), ?_⟩
    dsimp only
    generalize ns.getD 0 0 % 3 = kd
    refine ⟨_, rfl, a, ns, 0, rfl, O.same.seq hS, O.same.t1, fun H2 sm => ?_⟩
    have O := O.callT sm
    refine ⟨_, _, rfl, rfl, ⟨by decide, by decide⟩, _, rfl, O.same.t1, O.gotT fun lv H3 rs O e => ?_⟩
    obtain ⟨r, rfl, hR, r1, r40⟩ := e
    refine ⟨_, rfl, a, ns, 1, rfl, O.same.seq hS, O.same.t1, fun H4 sm => ?_⟩
    have O := O.callT sm
    refine ⟨_, rfl, _, rfl, _, kd, lv, r, rfl, O.sq 0, hR, r1, by omega, O.same.t1, fun lr H5 H6 rs ls s5 O5 d0 l1 l60 hrg => ?_⟩
    have hV5 : SqL K H5 lv (r.map V.int) := s5.seq (O.sq 0)
    replace s0 := O.same.trans s5
    clear O
    have O := O5
    clear O5 s5
    have hrl : rs.length = ls.length := by rw [d0.length, List.length_map]
    refine ⟨_, rfl, a, ns, 2, rfl, (s0.trans O.same).seq hS, O.same.t1, fun H7 sm => ?_⟩
    have O := O.callT sm
    refine ⟨_, rfl, _, rfl, _, kd, lr, rs, ls, rfl, O.sq 0, d0.mo O.same, l60, O.same.t1, fun lp H8 H9 us ps s8 O8 d1 PO => ?_⟩
    have hV : SqL K H8 lv (r.map V.int) := (O.same.trans s8).seq hV5
    have hL : SqL K H8 lr rs := s8.seq (O.sq 0)
    replace d0 := d0.mo (O.same.trans s8)
    replace s0 := s0.trans (O.same.trans s8)
    clear O
    have O := O8
    clear O8 s8 hV5
    have hul : us.length = ps.length := by rw [d1.length, List.length_map]
    have hpl := PO.len
    have PD : PdOk r ls ps := ⟨hrg, fun p hp => ⟨(PO.rg p hp).1, (PO.rg p hp).2.1⟩⟩
    refine ⟨_, rfl, a, ns, 2, rfl, (s0.trans O.same).seq hS, O.same.t1, fun H10 sm => ?_⟩
    have O := O.callT sm
    refine ⟨_, _, rfl, rfl, _, 10, rfl, by decide, by decide, O.same.t1, O.gotT fun lx H11 xs O e => ?_⟩
    obtain ⟨ys, rfl, hyl, hyb⟩ := e
    have hyl : ys.length = 10 := hyl
    clear hyb
    /- kept -/
    refine ⟨_, rfl, lp, _, rfl, .inl (O.sq 1), (us.length : Int), rfl, by omega, by omega, fun lk hlk => ?_⟩
    refine comp_range (fun i τ H' => Iv (∃ (v0 : Option V) (ks : List Int), τ = [v0, some (.ref lx), some (.ref lp)] ∧ ks.length = i ∧ (∀ z ∈ ks, 0 ≤ z) ∧ Ow [] H8 H' [(lk, .lst (ks.map V.int)), (lx, .lst (ys.map V.int)), (lp, .lst us)]))
      ⟨trivial, none, [], rfl, rfl, (fun z hz => nomatch hz), O.mk' hlk rfl⟩ ?_ ?_
    · rintro i τ H12 hi ⟨-, v0, ks, rfl, hki, hk0, O⟩
      rw [show (0 : Int) + (i : Int) = (i : Int) by omega]
      rw [Int.toNat_natCast] at hi
      obtain ⟨u, hu⟩ : ∃ u, us[i]? = some u := ⟨_, List.getElem?_eq_getElem hi⟩
      obtain ⟨ap, p, rfl, hp, hT⟩ := d1.mv_get hu
      refine yesT ?_
      refine ⟨_, rfl, _, rfl, lx, _, _, _, rfl, rfl, O.sq 1, ints_at (getD_get? (ns := ys) (k := i) (by omega)), _, rfl, _, rfl, lp, _, _, _, rfl, rfl, O.sq 2, atI_nat hu, ap, _, 1, _, rfl, rfl, hT.mo O.same, rfl, _, _, rfl, (PO.rg p (List.mem_of_getElem? hp)).2.2.1, fun x x0 x1 => ?_⟩
      refine ⟨_, O.get 0, small100' (by rw [List.length_map]; omega), ?_⟩
      walk_at "pt"
      rw [map_snoc] at O
      refine ⟨trivial, _, ks ++ [x], rfl, by rw [List.length_append, hki]; rfl, fun z hz => ?_, O⟩
      rcases List.mem_append.mp hz with e | e
      · exact hk0 z e
      · have : z = x := by simpa using e
        rw [this]; exact x0
    rintro τ H12 ⟨-, v0, ks, rfl, hki, hk0, O⟩
    rw [Int.toNat_natCast] at hki
    /- left, lets, due -/
    refine ⟨_, rfl, lk, _, rfl, .inl (O.sq 0), fun lf hlf => ?_⟩
    walk_at "nw"
    refine ⟨szl, fun lt hlt => ?_⟩
    walk_at "nw"
    refine ⟨_, rfl, szl, fun td htd => ?_⟩
    walk_at "nw"
    obtain ⟨Hd, O, sd, en⟩ := O.frz
    have htT : SqT K Hd td [.str "told", .ref lf] := SqT.of en
    refine ⟨_, rfl, 3, rfl, 63, rfl, a, _, rfl, ((s0.trans sd).trans O.same).seq hS, fun lq hlq => ?_⟩
    walk_at "nw"
    rw [show cutV (ns.map V.int) (some 3) (some 63) = ((ns.drop 3).take 60).map V.int from cut_ns ns 3 63] at O
    have hql : ((ns.drop 3).take 60).length ≤ 60 := by rw [List.length_take]; omega
    generalize (ns.drop 3).take 60 = qs at O hql
    have O := O.del 4
    walk_at "er"
    refine ⟨lq, rfl, ⟨_, O.sq 0⟩, ?_⟩
    refine for_list (K := K) (xs := qs.map V.int) (fun i σ H' => Iv (∃ (Hb : Hp) (ts : List V) (ms : List (Int × Int × Int)) (vg vd : V) (v5 v11 v12 v13 : Option V), σ = [some (.ref a), some (.int kd), some (.ref lv), some (.ref lr), some (.ref lp), v5, some (.ref lk), some (.ref lf), some (.ref lt), some vg, some vd, v11, v12, v13, none, none] ∧
      Ow [] Hb H' [(lq, .lst (qs.map V.int)), (lt, .lst ts), (lf, .lst ((runL r ls ps ks ms).2.map V.int)), (lk, .lst (ks.map V.int)), (lp, .lst us)] ∧ SameT [] H8 Hb ∧ Dens K Hb ts (ms.map dMv) ∧ ms.length ≤ i ∧ Due42 K Hb r ls ps ks lf ms vg vd ∧ ∀ z ∈ (runL r ls ps ks ms).2, 0 ≤ z))
      ⟨trivial, Hd, [], [], .non, .ref td, some (.ref lx), none, none, none, rfl, O, sd, .nil, Nat.le_refl _, .inl ⟨rfl, rfl, td, rfl, htT⟩, hk0⟩ (fun i σ H' _ ⟨_, _, _, _, _, _, _, _, _, _, _, O, _⟩ => O.sq 0) ?_ ?_
    · rintro i y σ H14 hy ⟨-, Hb, ts, ms, vg, vd, v5, v11, v12, v13, rfl, O, sb, d2, hmi, DU, hl0⟩
      obtain ⟨z, hz, rfl⟩ := ints_get hy
      have hi := (List.getElem?_eq_some_iff.mp hz).1
      have htl : ts.length = ms.length := by rw [d2.length, List.length_map]
      have hrn := runL_len r ls ps ks ms
      refine ⟨_, rfl, _, rfl, _, rfl, _, rfl, _, rfl, z, lv, lr, lp, lf, r, (runL r ls ps ks ms).2, rs, us, ls, ps, rfl, (sb.trans O.same).seq hV, hR, r1, by omega, (sb.trans O.same).seq hL, d0.mo (sb.trans O.same), O.sq 4, d1.mo (sb.trans O.same), hpl, O.sq 2, by omega, hl0, PD, O.same.t1, O.gotTT fun t1 H15 xs O e => ?_⟩
      obtain ⟨m, rfl⟩ := e
      obtain ⟨Hc, O, sc, en⟩ := O.frz
      have hT1 : SqT K Hc t1 [.int m.1, .int m.2.1, .int m.2.2] := SqT.of en
      replace DU := DU.mo sc
      replace d2 := d2.mo sc
      replace sb := sb.trans sc
      clear sc en
      refine ⟨fun σ H' => Iv (∃ (Hb : Hp) (vg vd : V) (v13 : Option V), σ = [some (.ref a), some (.int kd), some (.ref lv), some (.ref lr), some (.ref lp), v5, some (.ref lk), some (.ref lf), some (.ref lt), some vg, some vd, some (.int z), some (.ref t1), v13, none, none] ∧
        Ow [] Hb H' [(lq, .lst (qs.map V.int)), (lt, .lst ts), (lf, .lst ((runL r ls ps ks (ms ++ [m])).2.map V.int)), (lk, .lst (ks.map V.int)), (lp, .lst us)] ∧ SameT [] Hc Hb ∧ Due42 K Hb r ls ps ks lf (ms ++ [m]) vg vd), ?_, ?_⟩
      · rcases DU with ⟨h0, rfl, td, rfl, hTd⟩ | ⟨h0, lg, gs, gm, rfl, hG, dG, hgm, dD⟩
        · refine ⟨_, rfl, rfl, _, rfl, iteT ?_⟩
          refine ⟨_, rfl, _, rfl, _, rfl, _, rfl, _, rfl, t1, lv, lr, lp, lf, r, (runL r ls ps ks ms).2, rs, us, ls, ps, m, rfl, hT1.mo O.same, (sb.trans O.same).seq hV, hR, by omega, (sb.trans O.same).seq hL, d0.mo (sb.trans O.same), O.sq 4, d1.mo (sb.trans O.same), O.sq 2, by omega, PD, O.same.t1, O.gotT fun lb H16 xs O e => ?_⟩
          subst e
          refine ⟨_, rfl, lb, _, rfl, .inl (O.sq 0), rfl, rfl, _, rfl, ?_⟩
          rw [if_neg Bool.false_ne_true, bad_in judge_le]
          refine ifD (fun hj => ?_) fun hj => ?_
          · refine ⟨_, rfl, lt, _, rfl, .inl (O.sq 2), fun lg hlg => ?_⟩
            walk_at "nw"
            refine ⟨_, rfl, szl, fun t2 ht2 => ?_⟩
            walk_at "nw"
            obtain ⟨He, O, se, en⟩ := O.frz
            have hT2 := SqT.of (K := K) en
            obtain ⟨Hf, O, sf, en2⟩ := O.frz
            have hG2 := SqL.of (K := K) en2
            obtain ⟨Hg, O, sg, en3⟩ := O.frz
            have hB2 := SqL.of (K := K) en3
            have e1 : runL r ls ps ks (ms ++ [m]) = (judge r ls ps (runL r ls ps ks ms).2 m, (runL r ls ps ks ms).2) := by rw [runL_snoc, runS_bad h0 hj]
            refine ⟨trivial, Hg, .ref lg, .ref t2, _, rfl, by rw [e1]; exact O, (se.trans sf).trans sg, .inr ?_⟩
            rw [e1]
            refine ⟨hj, lg, ts, ms, rfl, sg.seq hG2, d2.mo ((se.trans sf).trans sg), ?_, ?_⟩
            · rw [← h0]
            · exact .tuple (hT2.mo (sf.trans sg)) (.cons (.str _) (.cons (.list hB2 (.cons (.bl _) (.cons (.bl _) (.cons (.bl _) .nil)))) .nil))
          · have hj0 : judge r ls ps (runL r ls ps ks ms).2 m = 0 := Decidable.byContradiction hj
            replace O := O.tail
            obtain ⟨m0, m1, _, _⟩ := judge_at hj0
            have e1 : runL r ls ps ks (ms ++ [m]) = (0, leftS (runL r ls ps ks ms).2 m) := by rw [runL_snoc, runS_ok h0 hj0]
            obtain ⟨n, hn⟩ := Int.eq_ofNat_of_zero_le m0
            have ent : m.1.toNat = n := by omega
            have hT3 : SqT K Hc t1 [.int (n : Int), .int m.2.1, .int m.2.2] := by rw [← hn]; exact hT1
            unfold leftS at e1
            rw [ent] at e1
            refine ⟨_, rfl, _, rfl, t1, _, 0, _, rfl, rfl, hT3.mo O.same, rfl, lf, _, _, _, rfl, rfl, O.sq 2, ints_at (getD_get? (ns := (runL r ls ps ks ms).2) (k := n) (by omega)), _, rfl, t1, _, 2, _, rfl, rfl, hT3.mo O.same, rfl, _, _, rfl, rfl, _, rfl, _, rfl, t1, _, 0, _, rfl, rfl, hT3.mo O.same, rfl, ?_⟩
            refine ow_set O 2 rfl (ixN_nat (by rw [List.length_map]; omega)) fun H17 O => ?_
            rw [← List.map_set] at O
            refine ⟨trivial, Hc, .non, .ref td, _, rfl, by rw [e1]; exact O, SameT.refl O.same.t0, .inl ?_⟩
            rw [e1]
            exact ⟨rfl, rfl, td, rfl, hTd⟩
        · refine ⟨_, rfl, rfl, _, rfl, iteF ?_⟩
          have e1 : runL r ls ps ks (ms ++ [m]) = runL r ls ps ks ms := by rw [runL_snoc]; exact if_neg h0
          refine ⟨trivial, Hc, .ref lg, _, _, rfl, by rw [e1]; exact O, SameT.refl O.same.t0, .inr ?_⟩
          rw [e1]
          exact ⟨h0, lg, gs, gm, rfl, hG, dG, hgm, dD⟩
      clear O DU
      rintro σ H16 ⟨-, Hb2, vg, vd, v13, rfl, O, sc, DU⟩
      refine ⟨_, rfl, .inl ⟨rfl, _, O.sq 1⟩, _, rfl, lt, _, _, rfl, rfl, O.get 1, small100' (by omega), ?_⟩
      walk_at "pt"
      refine ⟨trivial, Hb2, ts ++ [.ref t1], ms ++ [m], vg, vd, _, _, _, _, rfl, O, sb.trans sc, ?_, by rw [List.length_append]; show ms.length + 1 ≤ _; omega, DU, ?_⟩
      · rw [List.map_append]
        exact (d2.mo sc).append (.cons (Den.mv (m := m) (hT1.mo sc)) .nil)
      · rw [runL_snoc]; exact left_nn hl0
    rintro σ H14 ⟨-, Hb, ts, ms, vg, vd, v5, v11, v12, v13, rfl, O, sb, d2, hmi, DU, hl0⟩
    replace d0 := d0.mo sb
    replace d1 := d1.mo sb
    replace s0 := s0.trans sb
    replace hV := sb.seq hV
    replace hL := sb.seq hL
    rw [List.length_map] at hmi
    have hrn := runL_len r ls ps ks ms
    replace O := O.tail
    /- handed -/
    refine ⟨_, rfl, lv, _, rfl, .inl (O.same.seq hV), fun pa hpa => ?_⟩
    walk_at "nw"
    refine ⟨_, rfl, lr, _, rfl, .inl (O.same.seq hL), fun pb hpb => ?_⟩
    walk_at "nw"
    refine ⟨_, rfl, lp, _, rfl, .inl (O.sq 5), fun pc hpc => ?_⟩
    walk_at "nw"
    refine ⟨_, rfl, lk, _, rfl, .inl (O.sq 5), fun pd hpd => ?_⟩
    walk_at "nw"
    refine ⟨_, rfl, lt, _, rfl, .inl (O.sq 4), fun pe hpe => ?_⟩
    walk_at "nw"
    refine ⟨szl, fun lh hlh => ?_⟩
    walk_at "nw"
    have hsh : Sh 3 (.list [dInts r, dRoll ls, dMvs ps, dInts ks, dMvs ms]) := Sh.five (Sh.ints 1 r) (Sh.roll 0 ls) (Sh.mvs 0 ps) (Sh.ints 1 ks) (Sh.mvs 0 ms)
    have dh : ∀ (H' : Hp) (x u t v w y : Addr), SameT [] Hb H' → SqL K H' x [.ref u, .ref t, .ref v, .ref w, .ref y] → SqL K H' u (r.map V.int) → SqL K H' t rs → SqL K H' v us → SqL K H' w (ks.map V.int) → SqL K H' y ts → Den K H' (.ref x) (.list [dInts r, dRoll ls, dMvs ps, dInts ks, dMvs ms]) :=
      fun H' x u t v w y sm h1 h2 h5 h3 h4 h6 => .list h1 (.cons (Den.ints h2) (.cons (.list h5 (d0.mo sm)) (.cons (.list h3 (d1.mo sm)) (.cons (Den.ints h4) (.cons (.list h6 (d2.mo sm)) .nil)))))
    refine ⟨_, rfl, lh, _, 0, _, rfl, rfl, O.sq 0, rfl, _, rfl, lh, _, 1, _, rfl, rfl, O.sq 0, rfl, _, rfl, lh, _, 2, _, rfl, rfl, O.sq 0, rfl, _, rfl, lh, _, 3, _, rfl, rfl, O.sq 0, rfl, _, rfl, lh, _, 4, _, rfl, rfl, O.sq 0, rfl, ?_⟩
    refine ⟨pa, pb, pc, pd, pe, r, ks, rs, us, ts, ls, ps, ms, rfl, O.sq 5, hR, by omega, O.sq 4, d0.mo O.same, O.sq 3, d1.mo O.same, O.sq 2, by omega, O.sq 1, d2.mo O.same, PD, O.same.t1, fun fv H16 sm dF => ?_⟩
    replace O := O.callT sm
    have dD : Den K H16 vd (dAns (runL r ls ps ks ms)) := by
      unfold dAns
      rcases DU with ⟨h0, _, td, rfl, hTd⟩ | ⟨h0, lg, gs, gm, _, hG, dG, hgm, dD⟩
      · rw [if_pos h0]
        exact .tuple (hTd.mo O.same) (.cons (.str _) (.cons (Den.ints (O.sq 7)) .nil))
      · rw [if_neg h0]; exact dD.monoT O.same
    refine ⟨fun σ H' => Iv (∃ (v5 v11 v12 v13 : Option V), σ = [some (.ref a), some (.int kd), some (.ref lv), some (.ref lr), some (.ref lp), v5, some (.ref lk), some (.ref lf), some (.ref lt), some vg, some vd, v11, v12, v13, some (.ref lh), some fv] ∧ Ow [] Hb H' [(lh, .lst [.ref pa, .ref pb, .ref pc, .ref pd, .ref pe]), (pe, .lst ts), (pd, .lst (ks.map V.int)), (pc, .lst us), (pb, .lst rs), (pa, .lst (r.map V.int)), (lt, .lst ts), (lf, .lst ((runL r ls ps ks ms).2.map V.int)), (lk, .lst (ks.map V.int)), (lp, .lst us)]), ?_, ?_⟩
    · refine ⟨_, rfl, _, rfl, _, _, dF, dD, (sh_ans _).ok (by decide), (sh_ans _).ok (by decide), ?_⟩
      rw [if_pos rfl, eqv_same (sh_ans _)]
      refine ⟨_, rfl, iteF ?_⟩
      refine ⟨_, rfl, _, rfl, _, rfl, _, rfl, _, rfl, _, rfl, szl, fun l9 h9 => ?_⟩
      walk_at "nw"
      refine ⟨_, _, dh _ lh pa pb pc pd pe O.same (O.sq 1) (O.sq 6) (O.sq 5) (O.sq 4) (O.sq 3) (O.sq 2), dh _ l9 lv lr lp lk lt O.same (O.sq 0) (O.same.seq hV) (O.same.seq hL) (O.sq 10) (O.sq 9) (O.sq 7), hsh.ok (by decide), hsh.ok (by decide), ?_⟩
      rw [if_pos rfl, eqv_same hsh]
      exact ⟨_, rfl, iteF ⟨trivial, _, _, _, _, rfl, O.tail⟩⟩
    clear O dF dD
    rintro σ H17 ⟨-, v5, v11, v12, v13, rfl, O⟩
    rcases DU with ⟨h0, rfl, td, rfl, hTd⟩ | ⟨h0, lg, gs, gm, rfl, hG, dG, hgm, dD⟩
    · refine ⟨fun _ _ => False, ?_, fun _ _ h => h.elim⟩
      exact ⟨_, rfl, rfl, _, rfl, iteT (k _)⟩
    · refine ⟨fun σ H' => Iv (∃ (v5 v11 v12 v13 : Option V), σ = [some (.ref a), some (.int kd), some (.ref lv), some (.ref lr), some (.ref lp), v5, some (.ref lk), some (.ref lf), some (.ref lt), some (.ref lg), some vd, v11, v12, v13, some (.ref lh), some fv] ∧ Ow [] Hb H' [(lh, .lst [.ref pa, .ref pb, .ref pc, .ref pd, .ref pe]), (pe, .lst ts), (pd, .lst (ks.map V.int)), (pc, .lst us), (pb, .lst rs), (pa, .lst (r.map V.int)), (lt, .lst ts), (lf, .lst ((runL r ls ps ks ms).2.map V.int)), (lk, .lst (ks.map V.int)), (lp, .lst us)]), ?_, ?_⟩
      · exact ⟨_, rfl, rfl, _, rfl, iteF ⟨trivial, _, _, _, _, rfl, O⟩⟩
      clear O
      rintro σ H18 ⟨-, v5, v11, v12, v13, rfl, O⟩
      refine ⟨_, rfl, lh, _, 0, _, rfl, rfl, O.sq 0, rfl, _, rfl, lh, _, 1, _, rfl, rfl, O.sq 0, rfl, _, rfl, lh, _, 2, _, rfl, rfl, O.sq 0, rfl, _, rfl, lh, _, 3, _, rfl, rfl, O.sq 0, rfl, _, rfl, ?_⟩
      refine ⟨pa, pb, pc, pd, lg, r, ks, rs, us, gs, ls, ps, gm, rfl, O.sq 5, hR, by omega, O.sq 4, d0.mo O.same, O.sq 3, d1.mo O.same, O.sq 2, by omega, O.same.seq hG, dG.mo O.same, PD, O.same.t1, fun fv2 H19 sm dF => ?_⟩
      replace O := O.callT sm
      refine ⟨_, rfl, szl, fun t9 ht9 => ?_⟩
      have F9 : ∀ H', SameT [] H19 H' → Den K H' fv2 (dAns (runL r ls ps ks gm)) := fun H' s' => dF.monoT s'
      have O9 := Ow.mk' (Ow.refl O.same.t1) ht9 (o := .tup [.str "told", .ref lf]) rfl
      have F9' := F9 _ O9.same
      clear F9 O9
      have O := Ow.mk' O ht9 (o := .tup [.str "told", .ref lf]) rfl
      have eA : dAns (runL r ls ps ks gm) = .tuple [.str "told", dInts (runL r ls ps ks ms).2] := by rw [hgm]; rfl
      have hsA := sh_ans (runL r ls ps ks gm)
      rw [eA] at F9' hsA
      refine ⟨_, _, F9', .tuple (O.sqT 0) (.cons (.str _) (.cons (Den.ints (O.sq 8)) .nil)), hsA.ok (by decide), hsA.ok (by decide), ?_⟩
      rw [if_neg Bool.false_ne_true, eqv_same hsA]
      exact k _
end
theorem bindK1 {K : PySem.W.Frag} {x qual : Str} {st : Stmt} {f : Addr} {fd : FuncData} {n0 : Str} (F : Fun K x qual st f fd) (h : ∀ (kV doc pm : Value) (an : Option Addr) (cdv ct u0 : Value), bindArgs (PySem.W.fnOf x qual (defArgs st) (defBody st) (defScope st) .none kV doc pm an cdv ct) ⟨[u0], []⟩ = pure (([n0] : List Str).zip [u0])) : Binds K fd [n0] [] :=
  F.binds (ps := [n0]) fun kV doc pm an cdv ct us hl => match us, hl with | [u0], _ => h kV doc pm an cdv ct u0
theorem bindK2 {K : PySem.W.Frag} {x qual : Str} {st : Stmt} {f : Addr} {fd : FuncData} {n0 n1 : Str} (F : Fun K x qual st f fd) (h : ∀ (kV doc pm : Value) (an : Option Addr) (cdv ct u0 u1 : Value), bindArgs (PySem.W.fnOf x qual (defArgs st) (defBody st) (defScope st) .none kV doc pm an cdv ct) ⟨[u0, u1], []⟩ = pure (([n0, n1] : List Str).zip [u0, u1])) : Binds K fd [n0, n1] [] :=
  F.binds (ps := [n0, n1]) fun kV doc pm an cdv ct us hl => match us, hl with | [u0, u1], _ => h kV doc pm an cdv ct u0 u1
theorem bindK3 {K : PySem.W.Frag} {x qual : Str} {st : Stmt} {f : Addr} {fd : FuncData} {n0 n1 n2 : Str} (F : Fun K x qual st f fd) (h : ∀ (kV doc pm : Value) (an : Option Addr) (cdv ct u0 u1 u2 : Value), bindArgs (PySem.W.fnOf x qual (defArgs st) (defBody st) (defScope st) .none kV doc pm an cdv ct) ⟨[u0, u1, u2], []⟩ = pure (([n0, n1, n2] : List Str).zip [u0, u1, u2])) : Binds K fd [n0, n1, n2] [] :=
  F.binds (ps := [n0, n1, n2]) fun kV doc pm an cdv ct us hl => match us, hl with | [u0, u1, u2], _ => h kV doc pm an cdv ct u0 u1 u2
theorem bindK5 {K : PySem.W.Frag} {x qual : Str} {st : Stmt} {f : Addr} {fd : FuncData} {n0 n1 n2 n3 n4 : Str} (F : Fun K x qual st f fd) (h : ∀ (kV doc pm : Value) (an : Option Addr) (cdv ct u0 u1 u2 u3 u4 : Value), bindArgs (PySem.W.fnOf x qual (defArgs st) (defBody st) (defScope st) .none kV doc pm an cdv ct) ⟨[u0, u1, u2, u3, u4], []⟩ = pure (([n0, n1, n2, n3, n4] : List Str).zip [u0, u1, u2, u3, u4])) : Binds K fd [n0, n1, n2, n3, n4] [] :=
  F.binds (ps := [n0, n1, n2, n3, n4]) fun kV doc pm an cdv ct us hl => match us, hl with | [u0, u1, u2, u3, u4], _ => h kV doc pm an cdv ct u0 u1 u2 u3 u4
/-! ### what the top has written, and the law's own head -/
theorem all_mk {l : PySem.W.OpenLaw} {w : World} {K : PySem.W.Frag} {h : Heap} {mg : Str → Option Value} {fa f0 f1 f2 f3 f4 f5 f6 f7 f8 f9 f10 f11 f12 f13 f14 f15 f16 f17 f18 cX_SluiceError cX_NoRiver cX_NoReach cX_NoLicence cX_NoNumber cX_NoHolder cX_NotYours cX_NotAlone cX_TooMuch cX_Full cX_NoPaper cX_NoCut cX_NoPond cX_NoDay cX_Fixed cX_Harms cX_NoRow : Addr} (X : K.In h) (G : h.Ns mainGlobals mg) (hfa : mg "law" = some (.ref fa))
    {od0 an0 od1 an1 od2 an2 od3 an3 od4 an4 od5 an5 od6 an6 od7 an7 od8 an8 od9 an9 od10 an10 od11 an11 od12 an12 od13 an13 od14 an14 od15 an15 od16 an16 od17 an17 od18 an18 : Option Addr} {sl0 sl1 sl2 sl3 sl4 sl5 sl6 sl7 sl8 sl9 sl10 sl11 sl12 sl13 sl14 sl15 sl16 sl17 sl18 : Array (Option Value)} {oc0 kV0 dc0 pm0 cd0 ct0 oc1 kV1 dc1 pm1 cd1 ct1 oc2 kV2 dc2 pm2 cd2 ct2 oc3 kV3 dc3 pm3 cd3 ct3 oc4 kV4 dc4 pm4 cd4 ct4 oc5 kV5 dc5 pm5 cd5 ct5 oc6 kV6 dc6 pm6 cd6 ct6 oc7 kV7 dc7 pm7 cd7 ct7 oc8 kV8 dc8 pm8 cd8 ct8 oc9 kV9 dc9 pm9 cd9 ct9 oc10 kV10 dc10 pm10 cd10 ct10 oc11 kV11 dc11 pm11 cd11 ct11 oc12 kV12 dc12 pm12 cd12 ct12 oc13 kV13 dc13 pm13 cd13 ct13 oc14 kV14 dc14 pm14 cd14 ct14 oc15 kV15 dc15 pm15 cd15 ct15 oc16 kV16 dc16 pm16 cd16 ct16 oc17 kV17 dc17 pm17 cd17 ct17 oc18 kV18 dc18 pm18 cd18 ct18 : Value} {t0 : Tok}
    (a0 : PySem.W.nsIn K mainGlobals "way_of" = some (some (.ref f0))) (l0 : K.lookup f0 = some ⟨oc0, od0, .func (PySem.W.fnOf "way_of" "way_of" (defArgs s_way_of) (defBody s_way_of) (defScope s_way_of) .none kV0 dc0 pm0 an0 cd0 ct0), sl0⟩) (c0 : PySem.W.codeIn K cd0 "way_of" = true) (k0 : PySem.W.keepIn K (.ref f0) = true)
    (a1 : PySem.W.nsIn K mainGlobals "start_of" = some (some (.ref f1))) (l1 : K.lookup f1 = some ⟨oc1, od1, .func (PySem.W.fnOf "start_of" "start_of" (defArgs s_start_of) (defBody s_start_of) (defScope s_start_of) .none kV1 dc1 pm1 an1 cd1 ct1), sl1⟩) (c1 : PySem.W.codeIn K cd1 "start_of" = true) (k1 : PySem.W.keepIn K (.ref f1) = true)
    (a2 : PySem.W.nsIn K mainGlobals "pond_start" = some (some (.ref f2))) (l2 : K.lookup f2 = some ⟨oc2, od2, .func (PySem.W.fnOf "pond_start" "pond_start" (defArgs s_pond_start) (defBody s_pond_start) (defScope s_pond_start) .none kV2 dc2 pm2 an2 cd2 ct2), sl2⟩) (c2 : PySem.W.codeIn K cd2 "pond_start" = true) (k2 : PySem.W.keepIn K (.ref f2) = true)
    (a3 : PySem.W.nsIn K mainGlobals "look_at_let" = some (some (.ref f3))) (l3 : K.lookup f3 = some ⟨oc3, od3, .func (PySem.W.fnOf "look_at_let" "look_at_let" (defArgs s_look_at_let) (defBody s_look_at_let) (defScope s_look_at_let) .none kV3 dc3 pm3 an3 cd3 ct3), sl3⟩) (c3 : PySem.W.codeIn K cd3 "look_at_let" = true) (k3 : PySem.W.keepIn K (.ref f3) = true)
    (a4 : PySem.W.nsIn K mainGlobals "let_out" = some (some (.ref f4))) (l4 : K.lookup f4 = some ⟨oc4, od4, .func (PySem.W.fnOf "let_out" "let_out" (defArgs s_let_out) (defBody s_let_out) (defScope s_let_out) .none kV4 dc4 pm4 an4 cd4 ct4), sl4⟩) (c4 : PySem.W.codeIn K cd4 "let_out" = true) (k4 : PySem.W.keepIn K (.ref f4) = true)
    (a5 : PySem.W.nsIn K mainGlobals "_law_nth" = some (some (.ref f5))) (l5 : K.lookup f5 = some ⟨oc5, od5, .func (PySem.W.fnOf "_law_nth" "_law_nth" (defArgs s__law_nth) (defBody s__law_nth) (defScope s__law_nth) .none kV5 dc5 pm5 an5 cd5 ct5), sl5⟩) (c5 : PySem.W.codeIn K cd5 "_law_nth" = true) (k5 : PySem.W.keepIn K (.ref f5) = true)
    (a6 : PySem.W.nsIn K mainGlobals "_law_counts" = some (some (.ref f6))) (l6 : K.lookup f6 = some ⟨oc6, od6, .func (PySem.W.fnOf "_law_counts" "_law_counts" (defArgs s__law_counts) (defBody s__law_counts) (defScope s__law_counts) .none kV6 dc6 pm6 an6 cd6 ct6), sl6⟩) (c6 : PySem.W.codeIn K cd6 "_law_counts" = true) (k6 : PySem.W.keepIn K (.ref f6) = true)
    (a7 : PySem.W.nsIn K mainGlobals "_law_draws" = some (some (.ref f7))) (l7 : K.lookup f7 = some ⟨oc7, od7, .func (PySem.W.fnOf "_law_draws" "_law_draws" (defArgs s__law_draws) (defBody s__law_draws) (defScope s__law_draws) .none kV7 dc7 pm7 an7 cd7 ct7), sl7⟩) (c7 : PySem.W.codeIn K cd7 "_law_draws" = true) (k7 : PySem.W.keepIn K (.ref f7) = true)
    (a8 : PySem.W.nsIn K mainGlobals "_law_river" = some (some (.ref f8))) (l8 : K.lookup f8 = some ⟨oc8, od8, .func (PySem.W.fnOf "_law_river" "_law_river" (defArgs s__law_river) (defBody s__law_river) (defScope s__law_river) .none kV8 dc8 pm8 an8 cd8 ct8), sl8⟩) (c8 : PySem.W.codeIn K cd8 "_law_river" = true) (k8 : PySem.W.keepIn K (.ref f8) = true)
    (a9 : PySem.W.nsIn K mainGlobals "_law_way" = some (some (.ref f9))) (l9 : K.lookup f9 = some ⟨oc9, od9, .func (PySem.W.fnOf "_law_way" "_law_way" (defArgs s__law_way) (defBody s__law_way) (defScope s__law_way) .none kV9 dc9 pm9 an9 cd9 ct9), sl9⟩) (c9 : PySem.W.codeIn K cd9 "_law_way" = true) (k9 : PySem.W.keepIn K (.ref f9) = true)
    (a10 : PySem.W.nsIn K mainGlobals "_law_amount" = some (some (.ref f10))) (l10 : K.lookup f10 = some ⟨oc10, od10, .func (PySem.W.fnOf "_law_amount" "_law_amount" (defArgs s__law_amount) (defBody s__law_amount) (defScope s__law_amount) .none kV10 dc10 pm10 an10 cd10 ct10), sl10⟩) (c10 : PySem.W.codeIn K cd10 "_law_amount" = true) (k10 : PySem.W.keepIn K (.ref f10) = true)
    (a11 : PySem.W.nsIn K mainGlobals "_law_some" = some (some (.ref f11))) (l11 : K.lookup f11 = some ⟨oc11, od11, .func (PySem.W.fnOf "_law_some" "_law_some" (defArgs s__law_some) (defBody s__law_some) (defScope s__law_some) .none kV11 dc11 pm11 an11 cd11 ct11), sl11⟩) (c11 : PySem.W.codeIn K cd11 "_law_some" = true) (k11 : PySem.W.keepIn K (.ref f11) = true)
    (a12 : PySem.W.nsIn K mainGlobals "_law_roll" = some (some (.ref f12))) (l12 : K.lookup f12 = some ⟨oc12, od12, .func (PySem.W.fnOf "_law_roll" "_law_roll" (defArgs s__law_roll) (defBody s__law_roll) (defScope s__law_roll) .none kV12 dc12 pm12 an12 cd12 ct12), sl12⟩) (c12 : PySem.W.codeIn K cd12 "_law_roll" = true) (k12 : PySem.W.keepIn K (.ref f12) = true)
    (a13 : PySem.W.nsIn K mainGlobals "_law_ponds" = some (some (.ref f13))) (l13 : K.lookup f13 = some ⟨oc13, od13, .func (PySem.W.fnOf "_law_ponds" "_law_ponds" (defArgs s__law_ponds) (defBody s__law_ponds) (defScope s__law_ponds) .none kV13 dc13 pm13 an13 cd13 ct13), sl13⟩) (c13 : PySem.W.codeIn K cd13 "_law_ponds" = true) (k13 : PySem.W.keepIn K (.ref f13) = true)
    (a14 : PySem.W.nsIn K mainGlobals "_law_let" = some (some (.ref f14))) (l14 : K.lookup f14 = some ⟨oc14, od14, .func (PySem.W.fnOf "_law_let" "_law_let" (defArgs s__law_let) (defBody s__law_let) (defScope s__law_let) .none kV14 dc14 pm14 an14 cd14 ct14), sl14⟩) (c14 : PySem.W.codeIn K cd14 "_law_let" = true) (k14 : PySem.W.keepIn K (.ref f14) = true)
    (a15 : PySem.W.nsIn K mainGlobals "_law_bad" = some (some (.ref f15))) (l15 : K.lookup f15 = some ⟨oc15, od15, .func (PySem.W.fnOf "_law_bad" "_law_bad" (defArgs s__law_bad) (defBody s__law_bad) (defScope s__law_bad) .none kV15 dc15 pm15 an15 cd15 ct15), sl15⟩) (c15 : PySem.W.codeIn K cd15 "_law_bad" = true) (k15 : PySem.W.keepIn K (.ref f15) = true)
    (a16 : PySem.W.nsIn K mainGlobals "_law_refused" = some (some (.ref f16))) (l16 : K.lookup f16 = some ⟨oc16, od16, .func (PySem.W.fnOf "_law_refused" "_law_refused" (defArgs s__law_refused) (defBody s__law_refused) (defScope s__law_refused) .none kV16 dc16 pm16 an16 cd16 ct16), sl16⟩) (c16 : PySem.W.codeIn K cd16 "_law_refused" = true) (k16 : PySem.W.keepIn K (.ref f16) = true)
    (a17 : PySem.W.nsIn K mainGlobals "_law_asked" = some (some (.ref f17))) (l17 : K.lookup f17 = some ⟨oc17, od17, .func (PySem.W.fnOf "_law_asked" "_law_asked" (defArgs s__law_asked) (defBody s__law_asked) (defScope s__law_asked) .none kV17 dc17 pm17 an17 cd17 ct17), sl17⟩) (c17 : PySem.W.codeIn K cd17 "_law_asked" = true) (k17 : PySem.W.keepIn K (.ref f17) = true)
    (a18 : PySem.W.nsIn K mainGlobals "law" = some (some (.ref f18))) (l18 : K.lookup f18 = some ⟨oc18, od18, .func (PySem.W.fnOf "law" "law" (defArgs s_law) (defBody s_law) (defScope s_law) .none kV18 dc18 pm18 an18 cd18 ct18), sl18⟩) (c18 : PySem.W.codeIn K cd18 "law" = true) (k18 : PySem.W.keepIn K (.ref f18) = true)
    (e0 : PySem.W.nsIn K mainGlobals "MOUTH" = some (some (.int (-1) t0)))
    (z_len : PySem.W.nsIn K mainGlobals "len" = some none)
    (z_range : PySem.W.nsIn K mainGlobals "range" = some none)
    (z_list : PySem.W.nsIn K mainGlobals "list" = some none)
    (z_isinstance : PySem.W.nsIn K mainGlobals "isinstance" = some none)
    (z_bool : PySem.W.nsIn K mainGlobals "bool" = some none)
    (z_int : PySem.W.nsIn K mainGlobals "int" = some none)
    (z_all : PySem.W.nsIn K mainGlobals "all" = some none)
    (z_min : PySem.W.nsIn K mainGlobals "min" = some none)
    (z_max : PySem.W.nsIn K mainGlobals "max" = some none)
    (z_sum : PySem.W.nsIn K mainGlobals "sum" = some none)
    (z_sorted : PySem.W.nsIn K mainGlobals "sorted" = some none)
    (z_zip : PySem.W.nsIn K mainGlobals "zip" = some none)
    (z_tuple : PySem.W.nsIn K mainGlobals "tuple" = some none)
    (z_str : PySem.W.nsIn K mainGlobals "str" = some none)
    (z_any : PySem.W.nsIn K mainGlobals "any" = some none)
    (z_enumerate : PySem.W.nsIn K mainGlobals "enumerate" = some none)
    (z_reversed : PySem.W.nsIn K mainGlobals "reversed" = some none)
    (z_abs : PySem.W.nsIn K mainGlobals "abs" = some none)
    (z_ValueError : PySem.W.nsIn K mainGlobals "ValueError" = some none)
    (n_SluiceError : PySem.W.nsIn K mainGlobals "SluiceError" = some (some (.ref cX_SluiceError))) (q_SluiceError : PySem.W.excIn K cX_SluiceError bmVE "ValueError.__new__" = true)
    (xa_SluiceError : PySem.W.findIn K (.ref cX_SluiceError) "__getattribute__" = some (some (.builtin "BaseException.__getattribute__"))) (xb_SluiceError : PySem.W.findIn K (.ref cX_SluiceError) "__getattr__" = some none) (xc_SluiceError : PySem.W.findIn K (.ref cX_SluiceError) "__class__" = some (some (.builtin "object.__class__")))
    (xd_SluiceError : PySem.W.specialIn K (.builtin "object.__class__") "__get__" = some (some (.builtin "getset_descriptor.__get__"))) (xe_SluiceError : PySem.W.takesIn K (.builtin "object.__class__") = some true) (xf_SluiceError : PySem.W.mroIn K cX_SluiceError (.type "object") = some true) (xg_SluiceError : PySem.W.mroIn K cX_SluiceError (.type "BaseException") = some true) (xh_SluiceError : (PySem.W.clsIn K cX_SluiceError).isSome = true)
    (n_NoRiver : PySem.W.nsIn K mainGlobals "NoRiver" = some (some (.ref cX_NoRiver))) (q_NoRiver : PySem.W.excIn K cX_NoRiver bmVE "ValueError.__new__" = true)
    (xa_NoRiver : PySem.W.findIn K (.ref cX_NoRiver) "__getattribute__" = some (some (.builtin "BaseException.__getattribute__"))) (xb_NoRiver : PySem.W.findIn K (.ref cX_NoRiver) "__getattr__" = some none) (xc_NoRiver : PySem.W.findIn K (.ref cX_NoRiver) "__class__" = some (some (.builtin "object.__class__")))
    (xd_NoRiver : PySem.W.specialIn K (.builtin "object.__class__") "__get__" = some (some (.builtin "getset_descriptor.__get__"))) (xe_NoRiver : PySem.W.takesIn K (.builtin "object.__class__") = some true) (xf_NoRiver : PySem.W.mroIn K cX_NoRiver (.type "object") = some true) (xg_NoRiver : PySem.W.mroIn K cX_NoRiver (.type "BaseException") = some true) (xh_NoRiver : (PySem.W.clsIn K cX_NoRiver).isSome = true)
    (n_NoReach : PySem.W.nsIn K mainGlobals "NoReach" = some (some (.ref cX_NoReach))) (q_NoReach : PySem.W.excIn K cX_NoReach bmVE "ValueError.__new__" = true)
    (xa_NoReach : PySem.W.findIn K (.ref cX_NoReach) "__getattribute__" = some (some (.builtin "BaseException.__getattribute__"))) (xb_NoReach : PySem.W.findIn K (.ref cX_NoReach) "__getattr__" = some none) (xc_NoReach : PySem.W.findIn K (.ref cX_NoReach) "__class__" = some (some (.builtin "object.__class__")))
    (xd_NoReach : PySem.W.specialIn K (.builtin "object.__class__") "__get__" = some (some (.builtin "getset_descriptor.__get__"))) (xe_NoReach : PySem.W.takesIn K (.builtin "object.__class__") = some true) (xf_NoReach : PySem.W.mroIn K cX_NoReach (.type "object") = some true) (xg_NoReach : PySem.W.mroIn K cX_NoReach (.type "BaseException") = some true) (xh_NoReach : (PySem.W.clsIn K cX_NoReach).isSome = true)
    (n_NoLicence : PySem.W.nsIn K mainGlobals "NoLicence" = some (some (.ref cX_NoLicence))) (q_NoLicence : PySem.W.excIn K cX_NoLicence bmVE "ValueError.__new__" = true)
    (xa_NoLicence : PySem.W.findIn K (.ref cX_NoLicence) "__getattribute__" = some (some (.builtin "BaseException.__getattribute__"))) (xb_NoLicence : PySem.W.findIn K (.ref cX_NoLicence) "__getattr__" = some none) (xc_NoLicence : PySem.W.findIn K (.ref cX_NoLicence) "__class__" = some (some (.builtin "object.__class__")))
    (xd_NoLicence : PySem.W.specialIn K (.builtin "object.__class__") "__get__" = some (some (.builtin "getset_descriptor.__get__"))) (xe_NoLicence : PySem.W.takesIn K (.builtin "object.__class__") = some true) (xf_NoLicence : PySem.W.mroIn K cX_NoLicence (.type "object") = some true) (xg_NoLicence : PySem.W.mroIn K cX_NoLicence (.type "BaseException") = some true) (xh_NoLicence : (PySem.W.clsIn K cX_NoLicence).isSome = true)
    (n_NoNumber : PySem.W.nsIn K mainGlobals "NoNumber" = some (some (.ref cX_NoNumber))) (q_NoNumber : PySem.W.excIn K cX_NoNumber bmVE "ValueError.__new__" = true)
    (xa_NoNumber : PySem.W.findIn K (.ref cX_NoNumber) "__getattribute__" = some (some (.builtin "BaseException.__getattribute__"))) (xb_NoNumber : PySem.W.findIn K (.ref cX_NoNumber) "__getattr__" = some none) (xc_NoNumber : PySem.W.findIn K (.ref cX_NoNumber) "__class__" = some (some (.builtin "object.__class__")))
    (xd_NoNumber : PySem.W.specialIn K (.builtin "object.__class__") "__get__" = some (some (.builtin "getset_descriptor.__get__"))) (xe_NoNumber : PySem.W.takesIn K (.builtin "object.__class__") = some true) (xf_NoNumber : PySem.W.mroIn K cX_NoNumber (.type "object") = some true) (xg_NoNumber : PySem.W.mroIn K cX_NoNumber (.type "BaseException") = some true) (xh_NoNumber : (PySem.W.clsIn K cX_NoNumber).isSome = true)
    (n_NoHolder : PySem.W.nsIn K mainGlobals "NoHolder" = some (some (.ref cX_NoHolder))) (q_NoHolder : PySem.W.excIn K cX_NoHolder bmVE "ValueError.__new__" = true)
    (xa_NoHolder : PySem.W.findIn K (.ref cX_NoHolder) "__getattribute__" = some (some (.builtin "BaseException.__getattribute__"))) (xb_NoHolder : PySem.W.findIn K (.ref cX_NoHolder) "__getattr__" = some none) (xc_NoHolder : PySem.W.findIn K (.ref cX_NoHolder) "__class__" = some (some (.builtin "object.__class__")))
    (xd_NoHolder : PySem.W.specialIn K (.builtin "object.__class__") "__get__" = some (some (.builtin "getset_descriptor.__get__"))) (xe_NoHolder : PySem.W.takesIn K (.builtin "object.__class__") = some true) (xf_NoHolder : PySem.W.mroIn K cX_NoHolder (.type "object") = some true) (xg_NoHolder : PySem.W.mroIn K cX_NoHolder (.type "BaseException") = some true) (xh_NoHolder : (PySem.W.clsIn K cX_NoHolder).isSome = true)
    (n_NotYours : PySem.W.nsIn K mainGlobals "NotYours" = some (some (.ref cX_NotYours))) (q_NotYours : PySem.W.excIn K cX_NotYours bmVE "ValueError.__new__" = true)
    (xa_NotYours : PySem.W.findIn K (.ref cX_NotYours) "__getattribute__" = some (some (.builtin "BaseException.__getattribute__"))) (xb_NotYours : PySem.W.findIn K (.ref cX_NotYours) "__getattr__" = some none) (xc_NotYours : PySem.W.findIn K (.ref cX_NotYours) "__class__" = some (some (.builtin "object.__class__")))
    (xd_NotYours : PySem.W.specialIn K (.builtin "object.__class__") "__get__" = some (some (.builtin "getset_descriptor.__get__"))) (xe_NotYours : PySem.W.takesIn K (.builtin "object.__class__") = some true) (xf_NotYours : PySem.W.mroIn K cX_NotYours (.type "object") = some true) (xg_NotYours : PySem.W.mroIn K cX_NotYours (.type "BaseException") = some true) (xh_NotYours : (PySem.W.clsIn K cX_NotYours).isSome = true)
    (n_NotAlone : PySem.W.nsIn K mainGlobals "NotAlone" = some (some (.ref cX_NotAlone))) (q_NotAlone : PySem.W.excIn K cX_NotAlone bmVE "ValueError.__new__" = true)
    (xa_NotAlone : PySem.W.findIn K (.ref cX_NotAlone) "__getattribute__" = some (some (.builtin "BaseException.__getattribute__"))) (xb_NotAlone : PySem.W.findIn K (.ref cX_NotAlone) "__getattr__" = some none) (xc_NotAlone : PySem.W.findIn K (.ref cX_NotAlone) "__class__" = some (some (.builtin "object.__class__")))
    (xd_NotAlone : PySem.W.specialIn K (.builtin "object.__class__") "__get__" = some (some (.builtin "getset_descriptor.__get__"))) (xe_NotAlone : PySem.W.takesIn K (.builtin "object.__class__") = some true) (xf_NotAlone : PySem.W.mroIn K cX_NotAlone (.type "object") = some true) (xg_NotAlone : PySem.W.mroIn K cX_NotAlone (.type "BaseException") = some true) (xh_NotAlone : (PySem.W.clsIn K cX_NotAlone).isSome = true)
    (n_TooMuch : PySem.W.nsIn K mainGlobals "TooMuch" = some (some (.ref cX_TooMuch))) (q_TooMuch : PySem.W.excIn K cX_TooMuch bmVE "ValueError.__new__" = true)
    (xa_TooMuch : PySem.W.findIn K (.ref cX_TooMuch) "__getattribute__" = some (some (.builtin "BaseException.__getattribute__"))) (xb_TooMuch : PySem.W.findIn K (.ref cX_TooMuch) "__getattr__" = some none) (xc_TooMuch : PySem.W.findIn K (.ref cX_TooMuch) "__class__" = some (some (.builtin "object.__class__")))
    (xd_TooMuch : PySem.W.specialIn K (.builtin "object.__class__") "__get__" = some (some (.builtin "getset_descriptor.__get__"))) (xe_TooMuch : PySem.W.takesIn K (.builtin "object.__class__") = some true) (xf_TooMuch : PySem.W.mroIn K cX_TooMuch (.type "object") = some true) (xg_TooMuch : PySem.W.mroIn K cX_TooMuch (.type "BaseException") = some true) (xh_TooMuch : (PySem.W.clsIn K cX_TooMuch).isSome = true)
    (n_Full : PySem.W.nsIn K mainGlobals "Full" = some (some (.ref cX_Full))) (q_Full : PySem.W.excIn K cX_Full bmVE "ValueError.__new__" = true)
    (xa_Full : PySem.W.findIn K (.ref cX_Full) "__getattribute__" = some (some (.builtin "BaseException.__getattribute__"))) (xb_Full : PySem.W.findIn K (.ref cX_Full) "__getattr__" = some none) (xc_Full : PySem.W.findIn K (.ref cX_Full) "__class__" = some (some (.builtin "object.__class__")))
    (xd_Full : PySem.W.specialIn K (.builtin "object.__class__") "__get__" = some (some (.builtin "getset_descriptor.__get__"))) (xe_Full : PySem.W.takesIn K (.builtin "object.__class__") = some true) (xf_Full : PySem.W.mroIn K cX_Full (.type "object") = some true) (xg_Full : PySem.W.mroIn K cX_Full (.type "BaseException") = some true) (xh_Full : (PySem.W.clsIn K cX_Full).isSome = true)
    (n_NoPaper : PySem.W.nsIn K mainGlobals "NoPaper" = some (some (.ref cX_NoPaper))) (q_NoPaper : PySem.W.excIn K cX_NoPaper bmVE "ValueError.__new__" = true)
    (xa_NoPaper : PySem.W.findIn K (.ref cX_NoPaper) "__getattribute__" = some (some (.builtin "BaseException.__getattribute__"))) (xb_NoPaper : PySem.W.findIn K (.ref cX_NoPaper) "__getattr__" = some none) (xc_NoPaper : PySem.W.findIn K (.ref cX_NoPaper) "__class__" = some (some (.builtin "object.__class__")))
    (xd_NoPaper : PySem.W.specialIn K (.builtin "object.__class__") "__get__" = some (some (.builtin "getset_descriptor.__get__"))) (xe_NoPaper : PySem.W.takesIn K (.builtin "object.__class__") = some true) (xf_NoPaper : PySem.W.mroIn K cX_NoPaper (.type "object") = some true) (xg_NoPaper : PySem.W.mroIn K cX_NoPaper (.type "BaseException") = some true) (xh_NoPaper : (PySem.W.clsIn K cX_NoPaper).isSome = true)
    (n_NoCut : PySem.W.nsIn K mainGlobals "NoCut" = some (some (.ref cX_NoCut))) (q_NoCut : PySem.W.excIn K cX_NoCut bmVE "ValueError.__new__" = true)
    (xa_NoCut : PySem.W.findIn K (.ref cX_NoCut) "__getattribute__" = some (some (.builtin "BaseException.__getattribute__"))) (xb_NoCut : PySem.W.findIn K (.ref cX_NoCut) "__getattr__" = some none) (xc_NoCut : PySem.W.findIn K (.ref cX_NoCut) "__class__" = some (some (.builtin "object.__class__")))
    (xd_NoCut : PySem.W.specialIn K (.builtin "object.__class__") "__get__" = some (some (.builtin "getset_descriptor.__get__"))) (xe_NoCut : PySem.W.takesIn K (.builtin "object.__class__") = some true) (xf_NoCut : PySem.W.mroIn K cX_NoCut (.type "object") = some true) (xg_NoCut : PySem.W.mroIn K cX_NoCut (.type "BaseException") = some true) (xh_NoCut : (PySem.W.clsIn K cX_NoCut).isSome = true)
    (n_NoPond : PySem.W.nsIn K mainGlobals "NoPond" = some (some (.ref cX_NoPond))) (q_NoPond : PySem.W.excIn K cX_NoPond bmVE "ValueError.__new__" = true)
    (xa_NoPond : PySem.W.findIn K (.ref cX_NoPond) "__getattribute__" = some (some (.builtin "BaseException.__getattribute__"))) (xb_NoPond : PySem.W.findIn K (.ref cX_NoPond) "__getattr__" = some none) (xc_NoPond : PySem.W.findIn K (.ref cX_NoPond) "__class__" = some (some (.builtin "object.__class__")))
    (xd_NoPond : PySem.W.specialIn K (.builtin "object.__class__") "__get__" = some (some (.builtin "getset_descriptor.__get__"))) (xe_NoPond : PySem.W.takesIn K (.builtin "object.__class__") = some true) (xf_NoPond : PySem.W.mroIn K cX_NoPond (.type "object") = some true) (xg_NoPond : PySem.W.mroIn K cX_NoPond (.type "BaseException") = some true) (xh_NoPond : (PySem.W.clsIn K cX_NoPond).isSome = true)
    (n_NoDay : PySem.W.nsIn K mainGlobals "NoDay" = some (some (.ref cX_NoDay))) (q_NoDay : PySem.W.excIn K cX_NoDay bmVE "ValueError.__new__" = true)
    (xa_NoDay : PySem.W.findIn K (.ref cX_NoDay) "__getattribute__" = some (some (.builtin "BaseException.__getattribute__"))) (xb_NoDay : PySem.W.findIn K (.ref cX_NoDay) "__getattr__" = some none) (xc_NoDay : PySem.W.findIn K (.ref cX_NoDay) "__class__" = some (some (.builtin "object.__class__")))
    (xd_NoDay : PySem.W.specialIn K (.builtin "object.__class__") "__get__" = some (some (.builtin "getset_descriptor.__get__"))) (xe_NoDay : PySem.W.takesIn K (.builtin "object.__class__") = some true) (xf_NoDay : PySem.W.mroIn K cX_NoDay (.type "object") = some true) (xg_NoDay : PySem.W.mroIn K cX_NoDay (.type "BaseException") = some true) (xh_NoDay : (PySem.W.clsIn K cX_NoDay).isSome = true)
    (n_Fixed : PySem.W.nsIn K mainGlobals "Fixed" = some (some (.ref cX_Fixed))) (q_Fixed : PySem.W.excIn K cX_Fixed bmVE "ValueError.__new__" = true)
    (xa_Fixed : PySem.W.findIn K (.ref cX_Fixed) "__getattribute__" = some (some (.builtin "BaseException.__getattribute__"))) (xb_Fixed : PySem.W.findIn K (.ref cX_Fixed) "__getattr__" = some none) (xc_Fixed : PySem.W.findIn K (.ref cX_Fixed) "__class__" = some (some (.builtin "object.__class__")))
    (xd_Fixed : PySem.W.specialIn K (.builtin "object.__class__") "__get__" = some (some (.builtin "getset_descriptor.__get__"))) (xe_Fixed : PySem.W.takesIn K (.builtin "object.__class__") = some true) (xf_Fixed : PySem.W.mroIn K cX_Fixed (.type "object") = some true) (xg_Fixed : PySem.W.mroIn K cX_Fixed (.type "BaseException") = some true) (xh_Fixed : (PySem.W.clsIn K cX_Fixed).isSome = true)
    (n_Harms : PySem.W.nsIn K mainGlobals "Harms" = some (some (.ref cX_Harms))) (q_Harms : PySem.W.excIn K cX_Harms bmVE "ValueError.__new__" = true)
    (xa_Harms : PySem.W.findIn K (.ref cX_Harms) "__getattribute__" = some (some (.builtin "BaseException.__getattribute__"))) (xb_Harms : PySem.W.findIn K (.ref cX_Harms) "__getattr__" = some none) (xc_Harms : PySem.W.findIn K (.ref cX_Harms) "__class__" = some (some (.builtin "object.__class__")))
    (xd_Harms : PySem.W.specialIn K (.builtin "object.__class__") "__get__" = some (some (.builtin "getset_descriptor.__get__"))) (xe_Harms : PySem.W.takesIn K (.builtin "object.__class__") = some true) (xf_Harms : PySem.W.mroIn K cX_Harms (.type "object") = some true) (xg_Harms : PySem.W.mroIn K cX_Harms (.type "BaseException") = some true) (xh_Harms : (PySem.W.clsIn K cX_Harms).isSome = true)
    (n_NoRow : PySem.W.nsIn K mainGlobals "NoRow" = some (some (.ref cX_NoRow))) (q_NoRow : PySem.W.excIn K cX_NoRow bmVE "ValueError.__new__" = true)
    (xa_NoRow : PySem.W.findIn K (.ref cX_NoRow) "__getattribute__" = some (some (.builtin "BaseException.__getattribute__"))) (xb_NoRow : PySem.W.findIn K (.ref cX_NoRow) "__getattr__" = some none) (xc_NoRow : PySem.W.findIn K (.ref cX_NoRow) "__class__" = some (some (.builtin "object.__class__")))
    (xd_NoRow : PySem.W.specialIn K (.builtin "object.__class__") "__get__" = some (some (.builtin "getset_descriptor.__get__"))) (xe_NoRow : PySem.W.takesIn K (.builtin "object.__class__") = some true) (xf_NoRow : PySem.W.mroIn K cX_NoRow (.type "object") = some true) (xg_NoRow : PySem.W.mroIn K cX_NoRow (.type "BaseException") = some true) (xh_NoRow : (PySem.W.clsIn K cX_NoRow).isSome = true)
    (m_NoPond_SluiceError : PySem.W.exmOne K (.ref cX_NoPond) (.ref cX_SluiceError) = some true)
    (m_NoReach_SluiceError : PySem.W.exmOne K (.ref cX_NoReach) (.ref cX_SluiceError) = some true)
    (m_TooMuch_SluiceError : PySem.W.exmOne K (.ref cX_TooMuch) (.ref cX_SluiceError) = some true)
    (i_NoPond_Fixed : PySem.W.kitOne K (.ref cX_NoPond) (.ref cX_Fixed) = some false)
    (i_NoPond_Full : PySem.W.kitOne K (.ref cX_NoPond) (.ref cX_Full) = some false)
    (i_NoPond_Harms : PySem.W.kitOne K (.ref cX_NoPond) (.ref cX_Harms) = some false)
    (i_NoPond_NoCut : PySem.W.kitOne K (.ref cX_NoPond) (.ref cX_NoCut) = some false)
    (i_NoPond_NoDay : PySem.W.kitOne K (.ref cX_NoPond) (.ref cX_NoDay) = some false)
    (i_NoPond_NoHolder : PySem.W.kitOne K (.ref cX_NoPond) (.ref cX_NoHolder) = some false)
    (i_NoPond_NoLicence : PySem.W.kitOne K (.ref cX_NoPond) (.ref cX_NoLicence) = some false)
    (i_NoPond_NoNumber : PySem.W.kitOne K (.ref cX_NoPond) (.ref cX_NoNumber) = some false)
    (i_NoPond_NoPaper : PySem.W.kitOne K (.ref cX_NoPond) (.ref cX_NoPaper) = some false)
    (i_NoPond_NoRiver : PySem.W.kitOne K (.ref cX_NoPond) (.ref cX_NoRiver) = some false)
    (i_NoPond_NoRow : PySem.W.kitOne K (.ref cX_NoPond) (.ref cX_NoRow) = some false)
    (i_NoPond_NotAlone : PySem.W.kitOne K (.ref cX_NoPond) (.ref cX_NotAlone) = some false)
    (i_NoPond_NotYours : PySem.W.kitOne K (.ref cX_NoPond) (.ref cX_NotYours) = some false)
    (i_NoPond_NoPond : PySem.W.kitOne K (.ref cX_NoPond) (.ref cX_NoPond) = some true)
    (i_NoPond_NoReach : PySem.W.kitOne K (.ref cX_NoPond) (.ref cX_NoReach) = some false)
    (i_NoPond_TooMuch : PySem.W.kitOne K (.ref cX_NoPond) (.ref cX_TooMuch) = some false)
    (i_NoPond_ValueError : PySem.W.kitOne K (.ref cX_NoPond) (.type "ValueError") = some true)
    (i_NoReach_Fixed : PySem.W.kitOne K (.ref cX_NoReach) (.ref cX_Fixed) = some false)
    (i_NoReach_Full : PySem.W.kitOne K (.ref cX_NoReach) (.ref cX_Full) = some false)
    (i_NoReach_Harms : PySem.W.kitOne K (.ref cX_NoReach) (.ref cX_Harms) = some false)
    (i_NoReach_NoCut : PySem.W.kitOne K (.ref cX_NoReach) (.ref cX_NoCut) = some false)
    (i_NoReach_NoDay : PySem.W.kitOne K (.ref cX_NoReach) (.ref cX_NoDay) = some false)
    (i_NoReach_NoHolder : PySem.W.kitOne K (.ref cX_NoReach) (.ref cX_NoHolder) = some false)
    (i_NoReach_NoLicence : PySem.W.kitOne K (.ref cX_NoReach) (.ref cX_NoLicence) = some false)
    (i_NoReach_NoNumber : PySem.W.kitOne K (.ref cX_NoReach) (.ref cX_NoNumber) = some false)
    (i_NoReach_NoPaper : PySem.W.kitOne K (.ref cX_NoReach) (.ref cX_NoPaper) = some false)
    (i_NoReach_NoRiver : PySem.W.kitOne K (.ref cX_NoReach) (.ref cX_NoRiver) = some false)
    (i_NoReach_NoRow : PySem.W.kitOne K (.ref cX_NoReach) (.ref cX_NoRow) = some false)
    (i_NoReach_NotAlone : PySem.W.kitOne K (.ref cX_NoReach) (.ref cX_NotAlone) = some false)
    (i_NoReach_NotYours : PySem.W.kitOne K (.ref cX_NoReach) (.ref cX_NotYours) = some false)
    (i_NoReach_NoPond : PySem.W.kitOne K (.ref cX_NoReach) (.ref cX_NoPond) = some false)
    (i_NoReach_NoReach : PySem.W.kitOne K (.ref cX_NoReach) (.ref cX_NoReach) = some true)
    (i_NoReach_TooMuch : PySem.W.kitOne K (.ref cX_NoReach) (.ref cX_TooMuch) = some false)
    (i_NoReach_ValueError : PySem.W.kitOne K (.ref cX_NoReach) (.type "ValueError") = some true)
    (i_TooMuch_Fixed : PySem.W.kitOne K (.ref cX_TooMuch) (.ref cX_Fixed) = some false)
    (i_TooMuch_Full : PySem.W.kitOne K (.ref cX_TooMuch) (.ref cX_Full) = some false)
    (i_TooMuch_Harms : PySem.W.kitOne K (.ref cX_TooMuch) (.ref cX_Harms) = some false)
    (i_TooMuch_NoCut : PySem.W.kitOne K (.ref cX_TooMuch) (.ref cX_NoCut) = some false)
    (i_TooMuch_NoDay : PySem.W.kitOne K (.ref cX_TooMuch) (.ref cX_NoDay) = some false)
    (i_TooMuch_NoHolder : PySem.W.kitOne K (.ref cX_TooMuch) (.ref cX_NoHolder) = some false)
    (i_TooMuch_NoLicence : PySem.W.kitOne K (.ref cX_TooMuch) (.ref cX_NoLicence) = some false)
    (i_TooMuch_NoNumber : PySem.W.kitOne K (.ref cX_TooMuch) (.ref cX_NoNumber) = some false)
    (i_TooMuch_NoPaper : PySem.W.kitOne K (.ref cX_TooMuch) (.ref cX_NoPaper) = some false)
    (i_TooMuch_NoRiver : PySem.W.kitOne K (.ref cX_TooMuch) (.ref cX_NoRiver) = some false)
    (i_TooMuch_NoRow : PySem.W.kitOne K (.ref cX_TooMuch) (.ref cX_NoRow) = some false)
    (i_TooMuch_NotAlone : PySem.W.kitOne K (.ref cX_TooMuch) (.ref cX_NotAlone) = some false)
    (i_TooMuch_NotYours : PySem.W.kitOne K (.ref cX_TooMuch) (.ref cX_NotYours) = some false)
    (i_TooMuch_NoPond : PySem.W.kitOne K (.ref cX_TooMuch) (.ref cX_NoPond) = some false)
    (i_TooMuch_NoReach : PySem.W.kitOne K (.ref cX_TooMuch) (.ref cX_NoReach) = some false)
    (i_TooMuch_TooMuch : PySem.W.kitOne K (.ref cX_TooMuch) (.ref cX_TooMuch) = some true)
    (i_TooMuch_ValueError : PySem.W.kitOne K (.ref cX_TooMuch) (.type "ValueError") = some true)
    : ∃ fd : FuncData, (∀ (s : Shared) (v : Value), BindsTo s fd ⟨[v], []⟩ [("script", v)]) ∧ ∀ base : Heap, K.In base → base.Ns mainGlobals mg → FnOk l.prog w K mg base CX0 6 fa fd ["script"] (sp_law K) := by
  have e := hfa.symm.trans (PySem.W.mg_of X G a18)
  cases e
  have B : Blt mg := ⟨PySem.W.mg_none_of X G z_len, PySem.W.mg_none_of X G z_range, PySem.W.mg_none_of X G z_list, PySem.W.mg_none_of X G z_isinstance, PySem.W.mg_none_of X G z_bool, PySem.W.mg_none_of X G z_int, PySem.W.mg_none_of X G z_all, PySem.W.mg_none_of X G z_min, PySem.W.mg_none_of X G z_max, PySem.W.mg_none_of X G z_sum, PySem.W.mg_none_of X G z_sorted, PySem.W.mg_none_of X G z_zip, PySem.W.mg_none_of X G z_tuple, PySem.W.mg_none_of X G z_str, PySem.W.mg_none_of X G z_any, PySem.W.mg_none_of X G z_enumerate, PySem.W.mg_none_of X G z_reversed, PySem.W.mg_none_of X G z_abs, PySem.W.mg_none_of X G z_ValueError⟩
  have h_MOUTH : ∃ t, mg "MOUTH" = some (.int (-1) t) := ⟨_, PySem.W.mg_of X G e0⟩
  have X_SluiceError : ErrC K mg "SluiceError" cX_SluiceError := ⟨PySem.W.mg_of X G n_SluiceError, q_SluiceError, ⟨xa_SluiceError, xb_SluiceError, xc_SluiceError, xd_SluiceError, xe_SluiceError, xf_SluiceError, xg_SluiceError, xh_SluiceError⟩⟩
  have X_NoRiver : ErrC K mg "NoRiver" cX_NoRiver := ⟨PySem.W.mg_of X G n_NoRiver, q_NoRiver, ⟨xa_NoRiver, xb_NoRiver, xc_NoRiver, xd_NoRiver, xe_NoRiver, xf_NoRiver, xg_NoRiver, xh_NoRiver⟩⟩
  have X_NoReach : ErrC K mg "NoReach" cX_NoReach := ⟨PySem.W.mg_of X G n_NoReach, q_NoReach, ⟨xa_NoReach, xb_NoReach, xc_NoReach, xd_NoReach, xe_NoReach, xf_NoReach, xg_NoReach, xh_NoReach⟩⟩
  have X_NoLicence : ErrC K mg "NoLicence" cX_NoLicence := ⟨PySem.W.mg_of X G n_NoLicence, q_NoLicence, ⟨xa_NoLicence, xb_NoLicence, xc_NoLicence, xd_NoLicence, xe_NoLicence, xf_NoLicence, xg_NoLicence, xh_NoLicence⟩⟩
  have X_NoNumber : ErrC K mg "NoNumber" cX_NoNumber := ⟨PySem.W.mg_of X G n_NoNumber, q_NoNumber, ⟨xa_NoNumber, xb_NoNumber, xc_NoNumber, xd_NoNumber, xe_NoNumber, xf_NoNumber, xg_NoNumber, xh_NoNumber⟩⟩
  have X_NoHolder : ErrC K mg "NoHolder" cX_NoHolder := ⟨PySem.W.mg_of X G n_NoHolder, q_NoHolder, ⟨xa_NoHolder, xb_NoHolder, xc_NoHolder, xd_NoHolder, xe_NoHolder, xf_NoHolder, xg_NoHolder, xh_NoHolder⟩⟩
  have X_NotYours : ErrC K mg "NotYours" cX_NotYours := ⟨PySem.W.mg_of X G n_NotYours, q_NotYours, ⟨xa_NotYours, xb_NotYours, xc_NotYours, xd_NotYours, xe_NotYours, xf_NotYours, xg_NotYours, xh_NotYours⟩⟩
  have X_NotAlone : ErrC K mg "NotAlone" cX_NotAlone := ⟨PySem.W.mg_of X G n_NotAlone, q_NotAlone, ⟨xa_NotAlone, xb_NotAlone, xc_NotAlone, xd_NotAlone, xe_NotAlone, xf_NotAlone, xg_NotAlone, xh_NotAlone⟩⟩
  have X_TooMuch : ErrC K mg "TooMuch" cX_TooMuch := ⟨PySem.W.mg_of X G n_TooMuch, q_TooMuch, ⟨xa_TooMuch, xb_TooMuch, xc_TooMuch, xd_TooMuch, xe_TooMuch, xf_TooMuch, xg_TooMuch, xh_TooMuch⟩⟩
  have X_Full : ErrC K mg "Full" cX_Full := ⟨PySem.W.mg_of X G n_Full, q_Full, ⟨xa_Full, xb_Full, xc_Full, xd_Full, xe_Full, xf_Full, xg_Full, xh_Full⟩⟩
  have X_NoPaper : ErrC K mg "NoPaper" cX_NoPaper := ⟨PySem.W.mg_of X G n_NoPaper, q_NoPaper, ⟨xa_NoPaper, xb_NoPaper, xc_NoPaper, xd_NoPaper, xe_NoPaper, xf_NoPaper, xg_NoPaper, xh_NoPaper⟩⟩
  have X_NoCut : ErrC K mg "NoCut" cX_NoCut := ⟨PySem.W.mg_of X G n_NoCut, q_NoCut, ⟨xa_NoCut, xb_NoCut, xc_NoCut, xd_NoCut, xe_NoCut, xf_NoCut, xg_NoCut, xh_NoCut⟩⟩
  have X_NoPond : ErrC K mg "NoPond" cX_NoPond := ⟨PySem.W.mg_of X G n_NoPond, q_NoPond, ⟨xa_NoPond, xb_NoPond, xc_NoPond, xd_NoPond, xe_NoPond, xf_NoPond, xg_NoPond, xh_NoPond⟩⟩
  have X_NoDay : ErrC K mg "NoDay" cX_NoDay := ⟨PySem.W.mg_of X G n_NoDay, q_NoDay, ⟨xa_NoDay, xb_NoDay, xc_NoDay, xd_NoDay, xe_NoDay, xf_NoDay, xg_NoDay, xh_NoDay⟩⟩
  have X_Fixed : ErrC K mg "Fixed" cX_Fixed := ⟨PySem.W.mg_of X G n_Fixed, q_Fixed, ⟨xa_Fixed, xb_Fixed, xc_Fixed, xd_Fixed, xe_Fixed, xf_Fixed, xg_Fixed, xh_Fixed⟩⟩
  have X_Harms : ErrC K mg "Harms" cX_Harms := ⟨PySem.W.mg_of X G n_Harms, q_Harms, ⟨xa_Harms, xb_Harms, xc_Harms, xd_Harms, xe_Harms, xf_Harms, xg_Harms, xh_Harms⟩⟩
  have X_NoRow : ErrC K mg "NoRow" cX_NoRow := ⟨PySem.W.mg_of X G n_NoRow, q_NoRow, ⟨xa_NoRow, xb_NoRow, xc_NoRow, xd_NoRow, xe_NoRow, xf_NoRow, xg_NoRow, xh_NoRow⟩⟩
  have F0 := fun_mk (st := s_way_of) l0 c0 k0
  have D_way_of : Df K mg "way_of" s_way_of ["below", "reach"] _ _ := ⟨F0, bindK2 F0 (fun _ _ _ _ _ _ _ _ => rfl), PySem.W.mg_of X G a0⟩
  have F1 := fun_mk (st := s_start_of) l1 c1 k1
  have D_start_of : Df K mg "start_of" s_start_of ["one"] _ _ := ⟨F1, bindK1 F1 (fun _ _ _ _ _ _ _ => rfl), PySem.W.mg_of X G a1⟩
  have F2 := fun_mk (st := s_pond_start) l2 c2 k2
  have D_pond_start : Df K mg "pond_start" s_pond_start ["roll", "pond"] _ _ := ⟨F2, bindK2 F2 (fun _ _ _ _ _ _ _ _ => rfl), PySem.W.mg_of X G a2⟩
  have F3 := fun_mk (st := s_look_at_let) l3 c3 k3
  have D_look_at_let : Df K mg "look_at_let" s_look_at_let ["below", "roll", "ponds", "kept", "let"] _ _ := ⟨F3, bindK5 F3 (fun _ _ _ _ _ _ _ _ _ _ _ => rfl), PySem.W.mg_of X G a3⟩
  have F4 := fun_mk (st := s_let_out) l4 c4 k4
  have D_let_out : Df K mg "let_out" s_let_out ["below", "roll", "ponds", "kept", "lets"] _ _ := ⟨F4, bindK5 F4 (fun _ _ _ _ _ _ _ _ _ _ _ => rfl), PySem.W.mg_of X G a4⟩
  have F5 := fun_mk (st := s__law_nth) l5 c5 k5
  have D__law_nth : Df K mg "_law_nth" s__law_nth ["script", "k"] _ _ := ⟨F5, bindK2 F5 (fun _ _ _ _ _ _ _ _ => rfl), PySem.W.mg_of X G a5⟩
  have F6 := fun_mk (st := s__law_counts) l6 c6 k6
  have D__law_counts : Df K mg "_law_counts" s__law_counts ["thing"] _ _ := ⟨F6, bindK1 F6 (fun _ _ _ _ _ _ _ => rfl), PySem.W.mg_of X G a6⟩
  have F7 := fun_mk (st := s__law_draws) l7 c7 k7
  have D__law_draws : Df K mg "_law_draws" s__law_draws ["cell", "many"] _ _ := ⟨F7, bindK2 F7 (fun _ _ _ _ _ _ _ _ => rfl), PySem.W.mg_of X G a7⟩
  have F8 := fun_mk (st := s__law_river) l8 c8 k8
  have D__law_river : Df K mg "_law_river" s__law_river ["cell"] _ _ := ⟨F8, bindK1 F8 (fun _ _ _ _ _ _ _ => rfl), PySem.W.mg_of X G a8⟩
  have F9 := fun_mk (st := s__law_way) l9 c9 k9
  have D__law_way : Df K mg "_law_way" s__law_way ["below", "start"] _ _ := ⟨F9, bindK2 F9 (fun _ _ _ _ _ _ _ _ => rfl), PySem.W.mg_of X G a9⟩
  have F10 := fun_mk (st := s__law_amount) l10 c10 k10
  have D__law_amount : Df K mg "_law_amount" s__law_amount ["number", "kind"] _ _ := ⟨F10, bindK2 F10 (fun _ _ _ _ _ _ _ _ => rfl), PySem.W.mg_of X G a10⟩
  have F11 := fun_mk (st := s__law_some) l11 c11 k11
  have D__law_some : Df K mg "_law_some" s__law_some ["number", "most"] _ _ := ⟨F11, bindK2 F11 (fun _ _ _ _ _ _ _ _ => rfl), PySem.W.mg_of X G a11⟩
  have F12 := fun_mk (st := s__law_roll) l12 c12 k12
  have D__law_roll : Df K mg "_law_roll" s__law_roll ["cell", "below", "kind"] _ _ := ⟨F12, bindK3 F12 (fun _ _ _ _ _ _ _ _ _ => rfl), PySem.W.mg_of X G a12⟩
  have F13 := fun_mk (st := s__law_ponds) l13 c13 k13
  have D__law_ponds : Df K mg "_law_ponds" s__law_ponds ["cell", "roll", "kind"] _ _ := ⟨F13, bindK3 F13 (fun _ _ _ _ _ _ _ _ _ => rfl), PySem.W.mg_of X G a13⟩
  have F14 := fun_mk (st := s__law_let) l14 c14 k14
  have D__law_let : Df K mg "_law_let" s__law_let ["cell", "below", "roll", "ponds", "left"] _ _ := ⟨F14, bindK5 F14 (fun _ _ _ _ _ _ _ _ _ _ _ => rfl), PySem.W.mg_of X G a14⟩
  have F15 := fun_mk (st := s__law_bad) l15 c15 k15
  have D__law_bad : Df K mg "_law_bad" s__law_bad ["one", "below", "roll", "ponds", "left"] _ _ := ⟨F15, bindK5 F15 (fun _ _ _ _ _ _ _ _ _ _ _ => rfl), PySem.W.mg_of X G a15⟩
  have F16 := fun_mk (st := s__law_refused) l16 c16 k16
  have D__law_refused : Df K mg "_law_refused" s__law_refused ["e"] _ _ := ⟨F16, bindK1 F16 (fun _ _ _ _ _ _ _ => rfl), PySem.W.mg_of X G a16⟩
  have F17 := fun_mk (st := s__law_asked) l17 c17 k17
  have D__law_asked : Df K mg "_law_asked" s__law_asked ["below", "roll", "ponds", "kept", "lets"] _ _ := ⟨F17, bindK5 F17 (fun _ _ _ _ _ _ _ _ _ _ _ => rfl), PySem.W.mg_of X G a17⟩
  have F18 := fun_mk (st := s_law) l18 c18 k18
  have D_law : Df K mg "law" s_law ["script"] _ _ := ⟨F18, bindK1 F18 (fun _ _ _ _ _ _ _ => rfl), PySem.W.mg_of X G a18⟩
  refine ⟨PySem.W.fnOf "law" "law" (defArgs s_law) (defBody s_law) (defScope s_law) .none kV18 dc18 pm18 an18 cd18 ct18, fun s v => .of_eq rfl, fun base _ _ => ?_⟩
  have C : Mth mg := ⟨h_MOUTH⟩
  have eo : ∀ j, errOf cX_NoPond cX_NoReach cX_TooMuch j = cX_NoPond ∨ errOf cX_NoPond cX_NoReach cX_TooMuch j = cX_NoReach ∨ errOf cX_NoPond cX_NoReach cX_TooMuch j = cX_TooMuch := fun j => by
    unfold errOf
    split
    · exact .inl rfl
    · split
      · exact .inr (.inl rfl)
      · exact .inr (.inr rfl)
  have TT : Told42 K cX_SluiceError cX_NoPond cX_NoReach cX_TooMuch [cX_Fixed, cX_Full, cX_Harms, cX_NoCut, cX_NoDay, cX_NoHolder, cX_NoLicence, cX_NoNumber, cX_NoPaper, cX_NoRiver, cX_NoRow, cX_NotAlone, cX_NotYours] := by
    refine ⟨fun j => ?_, fun j => ?_, fun j => ?_, fun j j1 j3 => ?_, fun j j1 j3 => ?_, fun j j1 j3 => ?_⟩
    · rcases eo j with e | e | e <;> rw [e]
      · exact m_NoPond_SluiceError
      · exact m_NoReach_SluiceError
      · exact m_TooMuch_SluiceError
    · simp only [List.mem_cons, List.not_mem_nil, or_false, forall_eq_or_imp, forall_eq]
      rcases eo j with e | e | e <;> rw [e]
      · exact ⟨i_NoPond_Fixed, i_NoPond_Full, i_NoPond_Harms, i_NoPond_NoCut, i_NoPond_NoDay, i_NoPond_NoHolder, i_NoPond_NoLicence, i_NoPond_NoNumber, i_NoPond_NoPaper, i_NoPond_NoRiver, i_NoPond_NoRow, i_NoPond_NotAlone, i_NoPond_NotYours⟩
      · exact ⟨i_NoReach_Fixed, i_NoReach_Full, i_NoReach_Harms, i_NoReach_NoCut, i_NoReach_NoDay, i_NoReach_NoHolder, i_NoReach_NoLicence, i_NoReach_NoNumber, i_NoReach_NoPaper, i_NoReach_NoRiver, i_NoReach_NoRow, i_NoReach_NotAlone, i_NoReach_NotYours⟩
      · exact ⟨i_TooMuch_Fixed, i_TooMuch_Full, i_TooMuch_Harms, i_TooMuch_NoCut, i_TooMuch_NoDay, i_TooMuch_NoHolder, i_TooMuch_NoLicence, i_TooMuch_NoNumber, i_TooMuch_NoPaper, i_TooMuch_NoRiver, i_TooMuch_NoRow, i_TooMuch_NotAlone, i_TooMuch_NotYours⟩
    · rcases eo j with e | e | e <;> rw [e]
      · exact i_NoPond_ValueError
      · exact i_NoReach_ValueError
      · exact i_TooMuch_ValueError
    · rcases (by omega : j = 1 ∨ j = 2 ∨ j = 3) with rfl | rfl | rfl
      · exact i_NoPond_NoPond
      · exact i_NoReach_NoPond
      · exact i_TooMuch_NoPond
    · rcases (by omega : j = 1 ∨ j = 2 ∨ j = 3) with rfl | rfl | rfl
      · exact i_NoPond_NoReach
      · exact i_NoReach_NoReach
      · exact i_TooMuch_NoReach
    · rcases (by omega : j = 1 ∨ j = 2 ∨ j = 3) with rfl | rfl | rfl
      · exact i_NoPond_TooMuch
      · exact i_NoReach_TooMuch
      · exact i_TooMuch_TooMuch
  have g1 := ok_nth (P := l.prog) (w := w) (base := base) (T := []) D__law_nth
  have g2 := ok_cnt (P := l.prog) (w := w) (base := base) D__law_counts B
  have g3 := ok_dws (P := l.prog) (w := w) (K := K) (base := base) (T := []) D__law_draws B
  have g4 := ok_som (P := l.prog) (w := w) (base := base) D__law_some B
  have g5 := ok_river D__law_river B D__law_draws g3
  have g6 := ok_lway (P := l.prog) (w := w) (base := base) (T := []) D__law_way
  have g7 := ok_amt (P := l.prog) (w := w) (base := base) D__law_amount
  have g8 := ok_rol D__law_roll B D__law_draws g3 D__law_way g6 D__law_amount g7
  have g9 := ok_pon D__law_ponds B D__law_amount g7 D__law_draws g3
  have g10 := ok_way (P := l.prog) (w := w) (base := base) D_way_of C
  have g11 := ok_stof (P := l.prog) (w := w) (base := base) D_start_of
  have g12 := ok_pst D_pond_start D_start_of g11
  have g13 := ok_lalX (T := []) D_look_at_let B C X_NoPond X_NoReach X_TooMuch D_way_of g10 D_pond_start g12
  have g14 := ok_loX D_let_out B D_look_at_let g13
  have g15 := ok_let D__law_let B D__law_draws g3 D__law_way g6 D__law_some g4
  have g16 := ok_bad D__law_bad B D__law_way g6
  have g17 := ok_rf (P := l.prog) (w := w) (base := base) (T := []) D__law_refused B X_NoPond X_NoReach X_TooMuch X_Fixed X_Full X_Harms X_NoCut X_NoDay X_NoHolder X_NoLicence X_NoNumber X_NoPaper X_NoRiver X_NoRow X_NotAlone X_NotYours TT
  have g18 := ok_ask D__law_asked B X_SluiceError TT D_let_out g14 D__law_refused g17 D__law_counts g2
  exact ok_law D_law B D__law_nth g1 D__law_draws g3 D__law_river g5 D__law_some g4 D__law_roll g8 D__law_ponds g9 D__law_let g15 D__law_bad g16 D__law_asked g18
theorem walk {l : PySem.W.OpenLaw} {q : Program} {loose : List Str} {XP : (Str → Option Value) → Heap → Prop} {YP : World → Heap → Prop} {d : DefRec} {K : Params → PySem.W.Frag} (hn : l.most = some 63) (hdf : d.params.defaults = [])
    (hY : ∀ (w : World) (h : Heap), YP w h → (K w.params).In h)
    (F : ∀ (w : World) (mg : Str → Option Value) (fa : Addr) (h : Heap), (K w.params).In h → h.Ns mainGlobals mg → mg d.name = some (.ref fa) →
      ∃ fd : FuncData, (∀ (s : Shared) (u : Value), BindsTo s fd ⟨[u], []⟩ [("script", u)]) ∧ ∀ base : Heap, (K w.params).In base → base.Ns mainGlobals mg → FnOk l.prog w (K w.params) mg base CX0 6 fa fd ["script"] (sp_law (K w.params))) :
    PySem.W.WalkO q loose XP YP l.row.toRowW d [] (fun f vs => PySem.call f vs) :=
  L2.walk_of (n := 63) (k := 6) (x := "script") (CX := fun _ => CX0) (sp := fun w => sp_law (K w.params)) hn (by decide) hdf ⟨rfl, by decide, by decide⟩ hY F (fun _ _ a ns hl _ hS => ⟨a, ns, rfl, hS, hl, fun _ => rfl⟩) fun _ _ _ _ _ z => z
end My
open PySem PySem.W PyProof.Rows
set_option maxRecDepth 100000 in
set_option maxHeartbeats 0 in
theorem PySem.Challenge.cw_sluice_k42_lets_refused_holds : PySem.Challenge.rw_sluice_k42_lets_refused.Holds := by
  w_on; o_law
  refine PySem.W.holds_open (q := My.qv) (loose := My.looseK) (Xt := (fun s => PySem.W.xlAt My.qv [] s && PySem.W.recOk (PySem.W.RowW.records PySem.Challenge.rw_sluice_k42_lets_refused.row.toRowW) s)) (XP := PySem.W.XL My.qv []) (Yf := PySem.W.Hook.obs (PySem.W.kHook My.Kf My.asK My.hkE)) (Ya := PySem.W.Hook.val (PySem.W.kHook My.Kf My.asK My.hkE)) (YP := PySem.W.Hook.says (PySem.W.kHook My.Kf My.asK My.hkE)) (N := 8626) My.hlE (PySem.W.Hook.of (PySem.W.kHook My.Kf My.asK My.hkE)) (PySem.W.Hook.keeps (PySem.W.kHook My.Kf My.asK My.hkE)) (fun s e => PySem.W.xl_of s (Bool.and_eq_true_iff.mp e).1) PySem.W.XL.keeps (by rfl) (by rfl) (by rfl) (fun s e => PySem.W.recFacts_of (Bool.and_eq_true_iff.mp e).2) (by rfl) (by first | assumption | decide +kernel) (by decide +kernel) ⟨rfl, rfl, rfl, rfl, rfl, by decide +kernel⟩ ?hw ?hc
  case hw => w_witness2
  k_fill
  refine My.walk (l := PySem.Challenge.rw_sluice_k42_lets_refused) rfl rfl (fun w h Y => PySem.W.kIn_of Y) ?F
  case F =>
    intro w mg fa h KX G hmg
    refine' My.all_mk KX G hmg ?a0 ?l0 ?c0 ?k0 ?a1 ?l1 ?c1 ?k1 ?a2 ?l2 ?c2 ?k2 ?a3 ?l3 ?c3 ?k3 ?a4 ?l4 ?c4 ?k4 ?a5 ?l5 ?c5 ?k5 ?a6 ?l6 ?c6 ?k6 ?a7 ?l7 ?c7 ?k7 ?a8 ?l8 ?c8 ?k8 ?a9 ?l9 ?c9 ?k9 ?a10 ?l10 ?c10 ?k10 ?a11 ?l11 ?c11 ?k11 ?a12 ?l12 ?c12 ?k12 ?a13 ?l13 ?c13 ?k13 ?a14 ?l14 ?c14 ?k14 ?a15 ?l15 ?c15 ?k15 ?a16 ?l16 ?c16 ?k16 ?a17 ?l17 ?c17 ?k17 ?a18 ?l18 ?c18 ?k18 ?e0 ?z_len ?z_range ?z_list ?z_isinstance ?z_bool ?z_int ?z_all ?z_min ?z_max ?z_sum ?z_sorted ?z_zip ?z_tuple ?z_str ?z_any ?z_enumerate ?z_reversed ?z_abs ?z_ValueError ?n_SluiceError ?q_SluiceError ?xa_SluiceError ?xb_SluiceError ?xc_SluiceError ?xd_SluiceError ?xe_SluiceError ?xf_SluiceError ?xg_SluiceError ?xh_SluiceError ?n_NoRiver ?q_NoRiver ?xa_NoRiver ?xb_NoRiver ?xc_NoRiver ?xd_NoRiver ?xe_NoRiver ?xf_NoRiver ?xg_NoRiver ?xh_NoRiver ?n_NoReach ?q_NoReach ?xa_NoReach ?xb_NoReach ?xc_NoReach ?xd_NoReach ?xe_NoReach ?xf_NoReach ?xg_NoReach ?xh_NoReach ?n_NoLicence ?q_NoLicence ?xa_NoLicence ?xb_NoLicence ?xc_NoLicence ?xd_NoLicence ?xe_NoLicence ?xf_NoLicence ?xg_NoLicence ?xh_NoLicence ?n_NoNumber ?q_NoNumber ?xa_NoNumber ?xb_NoNumber ?xc_NoNumber ?xd_NoNumber ?xe_NoNumber ?xf_NoNumber ?xg_NoNumber ?xh_NoNumber ?n_NoHolder ?q_NoHolder ?xa_NoHolder ?xb_NoHolder ?xc_NoHolder ?xd_NoHolder ?xe_NoHolder ?xf_NoHolder ?xg_NoHolder ?xh_NoHolder ?n_NotYours ?q_NotYours ?xa_NotYours ?xb_NotYours ?xc_NotYours ?xd_NotYours ?xe_NotYours ?xf_NotYours ?xg_NotYours ?xh_NotYours ?n_NotAlone ?q_NotAlone ?xa_NotAlone ?xb_NotAlone ?xc_NotAlone ?xd_NotAlone ?xe_NotAlone ?xf_NotAlone ?xg_NotAlone ?xh_NotAlone ?n_TooMuch ?q_TooMuch ?xa_TooMuch ?xb_TooMuch ?xc_TooMuch ?xd_TooMuch ?xe_TooMuch ?xf_TooMuch ?xg_TooMuch ?xh_TooMuch ?n_Full ?q_Full ?xa_Full ?xb_Full ?xc_Full ?xd_Full ?xe_Full ?xf_Full ?xg_Full ?xh_Full ?n_NoPaper ?q_NoPaper ?xa_NoPaper ?xb_NoPaper ?xc_NoPaper ?xd_NoPaper ?xe_NoPaper ?xf_NoPaper ?xg_NoPaper ?xh_NoPaper ?n_NoCut ?q_NoCut ?xa_NoCut ?xb_NoCut ?xc_NoCut ?xd_NoCut ?xe_NoCut ?xf_NoCut ?xg_NoCut ?xh_NoCut ?n_NoPond ?q_NoPond ?xa_NoPond ?xb_NoPond ?xc_NoPond ?xd_NoPond ?xe_NoPond ?xf_NoPond ?xg_NoPond ?xh_NoPond ?n_NoDay ?q_NoDay ?xa_NoDay ?xb_NoDay ?xc_NoDay ?xd_NoDay ?xe_NoDay ?xf_NoDay ?xg_NoDay ?xh_NoDay ?n_Fixed ?q_Fixed ?xa_Fixed ?xb_Fixed ?xc_Fixed ?xd_Fixed ?xe_Fixed ?xf_Fixed ?xg_Fixed ?xh_Fixed ?n_Harms ?q_Harms ?xa_Harms ?xb_Harms ?xc_Harms ?xd_Harms ?xe_Harms ?xf_Harms ?xg_Harms ?xh_Harms ?n_NoRow ?q_NoRow ?xa_NoRow ?xb_NoRow ?xc_NoRow ?xd_NoRow ?xe_NoRow ?xf_NoRow ?xg_NoRow ?xh_NoRow ?m_NoPond_SluiceError ?m_NoReach_SluiceError ?m_TooMuch_SluiceError ?i_NoPond_Fixed ?i_NoPond_Full ?i_NoPond_Harms ?i_NoPond_NoCut ?i_NoPond_NoDay ?i_NoPond_NoHolder ?i_NoPond_NoLicence ?i_NoPond_NoNumber ?i_NoPond_NoPaper ?i_NoPond_NoRiver ?i_NoPond_NoRow ?i_NoPond_NotAlone ?i_NoPond_NotYours ?i_NoPond_NoPond ?i_NoPond_NoReach ?i_NoPond_TooMuch ?i_NoPond_ValueError ?i_NoReach_Fixed ?i_NoReach_Full ?i_NoReach_Harms ?i_NoReach_NoCut ?i_NoReach_NoDay ?i_NoReach_NoHolder ?i_NoReach_NoLicence ?i_NoReach_NoNumber ?i_NoReach_NoPaper ?i_NoReach_NoRiver ?i_NoReach_NoRow ?i_NoReach_NotAlone ?i_NoReach_NotYours ?i_NoReach_NoPond ?i_NoReach_NoReach ?i_NoReach_TooMuch ?i_NoReach_ValueError ?i_TooMuch_Fixed ?i_TooMuch_Full ?i_TooMuch_Harms ?i_TooMuch_NoCut ?i_TooMuch_NoDay ?i_TooMuch_NoHolder ?i_TooMuch_NoLicence ?i_TooMuch_NoNumber ?i_TooMuch_NoPaper ?i_TooMuch_NoRiver ?i_TooMuch_NoRow ?i_TooMuch_NotAlone ?i_TooMuch_NotYours ?i_TooMuch_NoPond ?i_TooMuch_NoReach ?i_TooMuch_TooMuch ?i_TooMuch_ValueError
    (case a0 => k_is)
    (case l0 => k_is)
    (case c0 => k_is)
    (case k0 => k_is)
    (case a1 => k_is)
    (case l1 => k_is)
    (case c1 => k_is)
    (case k1 => k_is)
    (case a2 => k_is)
    (case l2 => k_is)
    (case c2 => k_is)
    (case k2 => k_is)
    (case a3 => k_is)
    (case l3 => k_is)
    (case c3 => k_is)
    (case k3 => k_is)
    (case a4 => k_is)
    (case l4 => k_is)
    (case c4 => k_is)
    (case k4 => k_is)
    (case a5 => k_is)
    (case l5 => k_is)
    (case c5 => k_is)
    (case k5 => k_is)
    (case a6 => k_is)
    (case l6 => k_is)
    (case c6 => k_is)
    (case k6 => k_is)
    (case a7 => k_is)
    (case l7 => k_is)
    (case c7 => k_is)
    (case k7 => k_is)
    (case a8 => k_is)
    (case l8 => k_is)
    (case c8 => k_is)
    (case k8 => k_is)
    (case a9 => k_is)
    (case l9 => k_is)
    (case c9 => k_is)
    (case k9 => k_is)
    (case a10 => k_is)
    (case l10 => k_is)
    (case c10 => k_is)
    (case k10 => k_is)
    (case a11 => k_is)
    (case l11 => k_is)
    (case c11 => k_is)
    (case k11 => k_is)
    (case a12 => k_is)
    (case l12 => k_is)
    (case c12 => k_is)
    (case k12 => k_is)
    (case a13 => k_is)
    (case l13 => k_is)
    (case c13 => k_is)
    (case k13 => k_is)
    (case a14 => k_is)
    (case l14 => k_is)
    (case c14 => k_is)
    (case k14 => k_is)
    (case a15 => k_is)
    (case l15 => k_is)
    (case c15 => k_is)
    (case k15 => k_is)
    (case a16 => k_is)
    (case l16 => k_is)
    (case c16 => k_is)
    (case k16 => k_is)
    (case a17 => k_is)
    (case l17 => k_is)
    (case c17 => k_is)
    (case k17 => k_is)
    (case a18 => k_is)
    (case l18 => k_is)
    (case c18 => k_is)
    (case k18 => k_is)
    (case e0 => k_is)
    (case z_len => k_is)
    (case z_range => k_is)
    (case z_list => k_is)
    (case z_isinstance => k_is)
    (case z_bool => k_is)
    (case z_int => k_is)
    (case z_all => k_is)
    (case z_min => k_is)
    (case z_max => k_is)
    (case z_sum => k_is)
    (case z_sorted => k_is)
    (case z_zip => k_is)
    (case z_tuple => k_is)
    (case z_str => k_is)
    (case z_any => k_is)
    (case z_enumerate => k_is)
    (case z_reversed => k_is)
    (case z_abs => k_is)
    (case z_ValueError => k_is)
    (case n_SluiceError => k_is)
    (case q_SluiceError => (first | k_is | kernel_rfl))
    (case xa_SluiceError => (first | k_is | kernel_rfl))
    (case xb_SluiceError => (first | k_is | kernel_rfl))
    (case xc_SluiceError => (first | k_is | kernel_rfl))
    (case xd_SluiceError => (first | k_is | kernel_rfl))
    (case xe_SluiceError => (first | k_is | kernel_rfl))
    (case xf_SluiceError => (first | k_is | kernel_rfl))
    (case xg_SluiceError => (first | k_is | kernel_rfl))
    (case xh_SluiceError => (first | k_is | kernel_rfl))
    (case n_NoRiver => k_is)
    (case q_NoRiver => (first | k_is | kernel_rfl))
    (case xa_NoRiver => (first | k_is | kernel_rfl))
    (case xb_NoRiver => (first | k_is | kernel_rfl))
    (case xc_NoRiver => (first | k_is | kernel_rfl))
    (case xd_NoRiver => (first | k_is | kernel_rfl))
    (case xe_NoRiver => (first | k_is | kernel_rfl))
    (case xf_NoRiver => (first | k_is | kernel_rfl))
    (case xg_NoRiver => (first | k_is | kernel_rfl))
    (case xh_NoRiver => (first | k_is | kernel_rfl))
    (case n_NoReach => k_is)
    (case q_NoReach => (first | k_is | kernel_rfl))
    (case xa_NoReach => (first | k_is | kernel_rfl))
    (case xb_NoReach => (first | k_is | kernel_rfl))
    (case xc_NoReach => (first | k_is | kernel_rfl))
    (case xd_NoReach => (first | k_is | kernel_rfl))
    (case xe_NoReach => (first | k_is | kernel_rfl))
    (case xf_NoReach => (first | k_is | kernel_rfl))
    (case xg_NoReach => (first | k_is | kernel_rfl))
    (case xh_NoReach => (first | k_is | kernel_rfl))
    (case n_NoLicence => k_is)
    (case q_NoLicence => (first | k_is | kernel_rfl))
    (case xa_NoLicence => (first | k_is | kernel_rfl))
    (case xb_NoLicence => (first | k_is | kernel_rfl))
    (case xc_NoLicence => (first | k_is | kernel_rfl))
    (case xd_NoLicence => (first | k_is | kernel_rfl))
    (case xe_NoLicence => (first | k_is | kernel_rfl))
    (case xf_NoLicence => (first | k_is | kernel_rfl))
    (case xg_NoLicence => (first | k_is | kernel_rfl))
    (case xh_NoLicence => (first | k_is | kernel_rfl))
    (case n_NoNumber => k_is)
    (case q_NoNumber => (first | k_is | kernel_rfl))
    (case xa_NoNumber => (first | k_is | kernel_rfl))
    (case xb_NoNumber => (first | k_is | kernel_rfl))
    (case xc_NoNumber => (first | k_is | kernel_rfl))
    (case xd_NoNumber => (first | k_is | kernel_rfl))
    (case xe_NoNumber => (first | k_is | kernel_rfl))
    (case xf_NoNumber => (first | k_is | kernel_rfl))
    (case xg_NoNumber => (first | k_is | kernel_rfl))
    (case xh_NoNumber => (first | k_is | kernel_rfl))
    (case n_NoHolder => k_is)
    (case q_NoHolder => (first | k_is | kernel_rfl))
    (case xa_NoHolder => (first | k_is | kernel_rfl))
    (case xb_NoHolder => (first | k_is | kernel_rfl))
    (case xc_NoHolder => (first | k_is | kernel_rfl))
    (case xd_NoHolder => (first | k_is | kernel_rfl))
    (case xe_NoHolder => (first | k_is | kernel_rfl))
    (case xf_NoHolder => (first | k_is | kernel_rfl))
    (case xg_NoHolder => (first | k_is | kernel_rfl))
    (case xh_NoHolder => (first | k_is | kernel_rfl))
    (case n_NotYours => k_is)
    (case q_NotYours => (first | k_is | kernel_rfl))
    (case xa_NotYours => (first | k_is | kernel_rfl))
    (case xb_NotYours => (first | k_is | kernel_rfl))
    (case xc_NotYours => (first | k_is | kernel_rfl))
    (case xd_NotYours => (first | k_is | kernel_rfl))
    (case xe_NotYours => (first | k_is | kernel_rfl))
    (case xf_NotYours => (first | k_is | kernel_rfl))
    (case xg_NotYours => (first | k_is | kernel_rfl))
    (case xh_NotYours => (first | k_is | kernel_rfl))
    (case n_NotAlone => k_is)
    (case q_NotAlone => (first | k_is | kernel_rfl))
    (case xa_NotAlone => (first | k_is | kernel_rfl))
    (case xb_NotAlone => (first | k_is | kernel_rfl))
    (case xc_NotAlone => (first | k_is | kernel_rfl))
    (case xd_NotAlone => (first | k_is | kernel_rfl))
    (case xe_NotAlone => (first | k_is | kernel_rfl))
    (case xf_NotAlone => (first | k_is | kernel_rfl))
    (case xg_NotAlone => (first | k_is | kernel_rfl))
    (case xh_NotAlone => (first | k_is | kernel_rfl))
    (case n_TooMuch => k_is)
    (case q_TooMuch => (first | k_is | kernel_rfl))
    (case xa_TooMuch => (first | k_is | kernel_rfl))
    (case xb_TooMuch => (first | k_is | kernel_rfl))
    (case xc_TooMuch => (first | k_is | kernel_rfl))
    (case xd_TooMuch => (first | k_is | kernel_rfl))
    (case xe_TooMuch => (first | k_is | kernel_rfl))
    (case xf_TooMuch => (first | k_is | kernel_rfl))
    (case xg_TooMuch => (first | k_is | kernel_rfl))
    (case xh_TooMuch => (first | k_is | kernel_rfl))
    (case n_Full => k_is)
    (case q_Full => (first | k_is | kernel_rfl))
    (case xa_Full => (first | k_is | kernel_rfl))
    (case xb_Full => (first | k_is | kernel_rfl))
    (case xc_Full => (first | k_is | kernel_rfl))
    (case xd_Full => (first | k_is | kernel_rfl))
    (case xe_Full => (first | k_is | kernel_rfl))
    (case xf_Full => (first | k_is | kernel_rfl))
    (case xg_Full => (first | k_is | kernel_rfl))
    (case xh_Full => (first | k_is | kernel_rfl))
    (case n_NoPaper => k_is)
    (case q_NoPaper => (first | k_is | kernel_rfl))
    (case xa_NoPaper => (first | k_is | kernel_rfl))
    (case xb_NoPaper => (first | k_is | kernel_rfl))
    (case xc_NoPaper => (first | k_is | kernel_rfl))
    (case xd_NoPaper => (first | k_is | kernel_rfl))
    (case xe_NoPaper => (first | k_is | kernel_rfl))
    (case xf_NoPaper => (first | k_is | kernel_rfl))
    (case xg_NoPaper => (first | k_is | kernel_rfl))
    (case xh_NoPaper => (first | k_is | kernel_rfl))
    (case n_NoCut => k_is)
    (case q_NoCut => (first | k_is | kernel_rfl))
    (case xa_NoCut => (first | k_is | kernel_rfl))
    (case xb_NoCut => (first | k_is | kernel_rfl))
    (case xc_NoCut => (first | k_is | kernel_rfl))
    (case xd_NoCut => (first | k_is | kernel_rfl))
    (case xe_NoCut => (first | k_is | kernel_rfl))
    (case xf_NoCut => (first | k_is | kernel_rfl))
    (case xg_NoCut => (first | k_is | kernel_rfl))
    (case xh_NoCut => (first | k_is | kernel_rfl))
    (case n_NoPond => k_is)
    (case q_NoPond => (first | k_is | kernel_rfl))
    (case xa_NoPond => (first | k_is | kernel_rfl))
    (case xb_NoPond => (first | k_is | kernel_rfl))
    (case xc_NoPond => (first | k_is | kernel_rfl))
    (case xd_NoPond => (first | k_is | kernel_rfl))
    (case xe_NoPond => (first | k_is | kernel_rfl))
    (case xf_NoPond => (first | k_is | kernel_rfl))
    (case xg_NoPond => (first | k_is | kernel_rfl))
    (case xh_NoPond => (first | k_is | kernel_rfl))
    (case n_NoDay => k_is)
    (case q_NoDay => (first | k_is | kernel_rfl))
    (case xa_NoDay => (first | k_is | kernel_rfl))
    (case xb_NoDay => (first | k_is | kernel_rfl))
    (case xc_NoDay => (first | k_is | kernel_rfl))
    (case xd_NoDay => (first | k_is | kernel_rfl))
    (case xe_NoDay => (first | k_is | kernel_rfl))
    (case xf_NoDay => (first | k_is | kernel_rfl))
    (case xg_NoDay => (first | k_is | kernel_rfl))
    (case xh_NoDay => (first | k_is | kernel_rfl))
    (case n_Fixed => k_is)
    (case q_Fixed => (first | k_is | kernel_rfl))
    (case xa_Fixed => (first | k_is | kernel_rfl))
    (case xb_Fixed => (first | k_is | kernel_rfl))
    (case xc_Fixed => (first | k_is | kernel_rfl))
    (case xd_Fixed => (first | k_is | kernel_rfl))
    (case xe_Fixed => (first | k_is | kernel_rfl))
    (case xf_Fixed => (first | k_is | kernel_rfl))
    (case xg_Fixed => (first | k_is | kernel_rfl))
    (case xh_Fixed => (first | k_is | kernel_rfl))
    (case n_Harms => k_is)
    (case q_Harms => (first | k_is | kernel_rfl))
    (case xa_Harms => (first | k_is | kernel_rfl))
    (case xb_Harms => (first | k_is | kernel_rfl))
    (case xc_Harms => (first | k_is | kernel_rfl))
    (case xd_Harms => (first | k_is | kernel_rfl))
    (case xe_Harms => (first | k_is | kernel_rfl))
    (case xf_Harms => (first | k_is | kernel_rfl))
    (case xg_Harms => (first | k_is | kernel_rfl))
    (case xh_Harms => (first | k_is | kernel_rfl))
    (case n_NoRow => k_is)
    (case q_NoRow => (first | k_is | kernel_rfl))
    (case xa_NoRow => (first | k_is | kernel_rfl))
    (case xb_NoRow => (first | k_is | kernel_rfl))
    (case xc_NoRow => (first | k_is | kernel_rfl))
    (case xd_NoRow => (first | k_is | kernel_rfl))
    (case xe_NoRow => (first | k_is | kernel_rfl))
    (case xf_NoRow => (first | k_is | kernel_rfl))
    (case xg_NoRow => (first | k_is | kernel_rfl))
    (case xh_NoRow => (first | k_is | kernel_rfl))
    (case m_NoPond_SluiceError => (first | k_is | kernel_rfl))
    (case m_NoReach_SluiceError => (first | k_is | kernel_rfl))
    (case m_TooMuch_SluiceError => (first | k_is | kernel_rfl))
    (case i_NoPond_Fixed => (first | k_is | kernel_rfl))
    (case i_NoPond_Full => (first | k_is | kernel_rfl))
    (case i_NoPond_Harms => (first | k_is | kernel_rfl))
    (case i_NoPond_NoCut => (first | k_is | kernel_rfl))
    (case i_NoPond_NoDay => (first | k_is | kernel_rfl))
    (case i_NoPond_NoHolder => (first | k_is | kernel_rfl))
    (case i_NoPond_NoLicence => (first | k_is | kernel_rfl))
    (case i_NoPond_NoNumber => (first | k_is | kernel_rfl))
    (case i_NoPond_NoPaper => (first | k_is | kernel_rfl))
    (case i_NoPond_NoRiver => (first | k_is | kernel_rfl))
    (case i_NoPond_NoRow => (first | k_is | kernel_rfl))
    (case i_NoPond_NotAlone => (first | k_is | kernel_rfl))
    (case i_NoPond_NotYours => (first | k_is | kernel_rfl))
    (case i_NoPond_NoPond => (first | k_is | kernel_rfl))
    (case i_NoPond_NoReach => (first | k_is | kernel_rfl))
    (case i_NoPond_TooMuch => (first | k_is | kernel_rfl))
    (case i_NoPond_ValueError => (first | k_is | kernel_rfl))
    (case i_NoReach_Fixed => (first | k_is | kernel_rfl))
    (case i_NoReach_Full => (first | k_is | kernel_rfl))
    (case i_NoReach_Harms => (first | k_is | kernel_rfl))
    (case i_NoReach_NoCut => (first | k_is | kernel_rfl))
    (case i_NoReach_NoDay => (first | k_is | kernel_rfl))
    (case i_NoReach_NoHolder => (first | k_is | kernel_rfl))
    (case i_NoReach_NoLicence => (first | k_is | kernel_rfl))
    (case i_NoReach_NoNumber => (first | k_is | kernel_rfl))
    (case i_NoReach_NoPaper => (first | k_is | kernel_rfl))
    (case i_NoReach_NoRiver => (first | k_is | kernel_rfl))
    (case i_NoReach_NoRow => (first | k_is | kernel_rfl))
    (case i_NoReach_NotAlone => (first | k_is | kernel_rfl))
    (case i_NoReach_NotYours => (first | k_is | kernel_rfl))
    (case i_NoReach_NoPond => (first | k_is | kernel_rfl))
    (case i_NoReach_NoReach => (first | k_is | kernel_rfl))
    (case i_NoReach_TooMuch => (first | k_is | kernel_rfl))
    (case i_NoReach_ValueError => (first | k_is | kernel_rfl))
    (case i_TooMuch_Fixed => (first | k_is | kernel_rfl))
    (case i_TooMuch_Full => (first | k_is | kernel_rfl))
    (case i_TooMuch_Harms => (first | k_is | kernel_rfl))
    (case i_TooMuch_NoCut => (first | k_is | kernel_rfl))
    (case i_TooMuch_NoDay => (first | k_is | kernel_rfl))
    (case i_TooMuch_NoHolder => (first | k_is | kernel_rfl))
    (case i_TooMuch_NoLicence => (first | k_is | kernel_rfl))
    (case i_TooMuch_NoNumber => (first | k_is | kernel_rfl))
    (case i_TooMuch_NoPaper => (first | k_is | kernel_rfl))
    (case i_TooMuch_NoRiver => (first | k_is | kernel_rfl))
    (case i_TooMuch_NoRow => (first | k_is | kernel_rfl))
    (case i_TooMuch_NotAlone => (first | k_is | kernel_rfl))
    (case i_TooMuch_NotYours => (first | k_is | kernel_rfl))
    (case i_TooMuch_NoPond => (first | k_is | kernel_rfl))
    (case i_TooMuch_NoReach => (first | k_is | kernel_rfl))
    (case i_TooMuch_TooMuch => (first | k_is | kernel_rfl))
    (case i_TooMuch_ValueError => (first | k_is | kernel_rfl))
