import PyProof.Rows.All
import Wide.All
import OpenK.AllK
import Wide.FinOn
import HandS.Base
import HandS.Words
import HandS.More
import HandS.Head2
import KE.KNestM
import HandS.Call
import HandS.List
import HandS.Comp
import HandS.Ends
import HandS.Dict
import HandS.Iter
import HandS.Text
import HandS.WordsList
import HandS.WordsDict
import HandS.IsInst
import HandS.Zip
import HandS.Conv
import HandS.Walk
import HandS.Style
import HandS.TupAny
import HandS.TupMul
import HandS.EndBits
import HandS.Codes
import KE.GoesMore
import HandS.SortKw
import HandS.TupSets
import KE.KDictDisplayH
import KE.DatumOrd
import HandS.Wide
import PyProof.StrLawsRepr
import HandS.Exc
import HandS.ExcOwn
import HandS.WordsExc
import HandS.ExcIs
import KE.GoesZip
import HandS.Strs
import KE.KDictPairs
import HandS.Lambda
import KE.DataMinKey
import HandS.EndTab
import KE.KNest
import PyProof.EqKinds
import PyProof.NeKinds
import KE.KExcInit
import KE.KExcIs
import HandS.TryMany
import HandS.Deep
import HandS.Rev
import PySem.Challenge.RW_opencalls_k66_asides_refused
set_option Elab.async false
set_option linter.all false
set_option maxRecDepth 100000
/-! the objects that the top leaves, as far as they are asked for; the top's run -/
namespace OCR
open PySem PySem.Spec PyProof.Rows L2
def topR (i : Nat) : Stmt := PySem.Challenge.pw_opencalls_k66_asides_refused.main.body.getD i (.Pass ⟨0, 0, 0, 0⟩)
def K0 (P : PySem.Params) : PySem.W.Frag :=
  (nat_lit 2, ⟨.none, none, (.dict (List.toArray ([])) 0), #[]⟩) ::
  (nat_lit 3, ⟨(.type "dict"), none, (.dict (List.toArray (⟨PySem.PyData.keyHash P (PySem.Str.ofString "__name__"), .str (PySem.Str.ofString "__name__") 165, (.str (PySem.Str.ofString "law_opencalls_k66_asides_refused") 586)⟩ :: ⟨PySem.PyData.keyHash P (PySem.Str.ofString "__doc__"), .str (PySem.Str.ofString "__doc__") 166, .none⟩ :: ⟨PySem.PyData.keyHash P (PySem.Str.ofString "__package__"), .str (PySem.Str.ofString "__package__") 167, .none⟩ :: ⟨PySem.PyData.keyHash P (PySem.Str.ofString "__loader__"), .str (PySem.Str.ofString "__loader__") 168, (.builtin "__main__.__loader__#opaque")⟩ :: ⟨PySem.PyData.keyHash P (PySem.Str.ofString "__spec__"), .str (PySem.Str.ofString "__spec__") 169, .none⟩ :: ⟨PySem.PyData.keyHash P (PySem.Str.ofString "__annotations__"), .str (PySem.Str.ofString "__annotations__") 170, (.ref 6)⟩ :: ⟨PySem.PyData.keyHash P (PySem.Str.ofString "__builtins__"), .str (PySem.Str.ofString "__builtins__") 171, (.ref 4)⟩ :: ⟨PySem.PyData.keyHash P (PySem.Str.ofString "__file__"), .str (PySem.Str.ofString "__file__") 173, (.str (PySem.Str.ofString "/claim/cut.py") 172)⟩ :: ⟨PySem.PyData.keyHash P (PySem.Str.ofString "__cached__"), .str (PySem.Str.ofString "__cached__") 174, .none⟩ :: ⟨PySem.PyData.keyHash P (PySem.Str.ofString "CallError"), .str (PySem.Str.ofString "CallError") 206, (.ref 24)⟩ :: ⟨PySem.PyData.keyHash P (PySem.Str.ofString "NoRow"), .str (PySem.Str.ofString "NoRow") 222, (.ref 37)⟩ :: ⟨PySem.PyData.keyHash P (PySem.Str.ofString "NotKnown"), .str (PySem.Str.ofString "NotKnown") 247, (.ref 56)⟩ :: ⟨PySem.PyData.keyHash P (PySem.Str.ofString "Known"), .str (PySem.Str.ofString "Known") 272, (.ref 75)⟩ :: ⟨PySem.PyData.keyHash P (PySem.Str.ofString "NoHand"), .str (PySem.Str.ofString "NoHand") 299, (.ref 94)⟩ :: ⟨PySem.PyData.keyHash P (PySem.Str.ofString "is_number"), .str (PySem.Str.ofString "is_number") 308, (.ref 104)⟩ :: ⟨PySem.PyData.keyHash P (PySem.Str.ofString "is_rest"), .str (PySem.Str.ofString "is_rest") 316, (.ref 111)⟩ :: ⟨PySem.PyData.keyHash P (PySem.Str.ofString "contrary"), .str (PySem.Str.ofString "contrary") 325, (.ref 118)⟩ :: ⟨PySem.PyData.keyHash P (PySem.Str.ofString "is_row"), .str (PySem.Str.ofString "is_row") 333, (.ref 123)⟩ :: ⟨PySem.PyData.keyHash P (PySem.Str.ofString "added"), .str (PySem.Str.ofString "added") 339, (.ref 128)⟩ :: ⟨PySem.PyData.keyHash P (PySem.Str.ofString "times"), .str (PySem.Str.ofString "times") 345, (.ref 133)⟩ :: ⟨PySem.PyData.keyHash P (PySem.Str.ofString "check_hand"), .str (PySem.Str.ofString "check_hand") 355, (.ref 140)⟩ :: ⟨PySem.PyData.keyHash P (PySem.Str.ofString "check_row"), .str (PySem.Str.ofString "check_row") 364, (.ref 147)⟩ :: ⟨PySem.PyData.keyHash P (PySem.Str.ofString "is_noughts"), .str (PySem.Str.ofString "is_noughts") 372, (.ref 152)⟩ :: ⟨PySem.PyData.keyHash P (PySem.Str.ofString "first_place"), .str (PySem.Str.ofString "first_place") 381, (.ref 159)⟩ :: ⟨PySem.PyData.keyHash P (PySem.Str.ofString "cleared"), .str (PySem.Str.ofString "cleared") 391, (.ref 166)⟩ :: ⟨PySem.PyData.keyHash P (PySem.Str.ofString "left_of"), .str (PySem.Str.ofString "left_of") 401, (.ref 173)⟩ :: ⟨PySem.PyData.keyHash P (PySem.Str.ofString "widened"), .str (PySem.Str.ofString "widened") 407, (.ref 178)⟩ :: ⟨PySem.PyData.keyHash P (PySem.Str.ofString "room_of"), .str (PySem.Str.ofString "room_of") 418, (.ref 185)⟩ :: ⟨PySem.PyData.keyHash P (PySem.Str.ofString "within"), .str (PySem.Str.ofString "within") 427, (.ref 192)⟩ :: ⟨PySem.PyData.keyHash P (PySem.Str.ofString "first_outside"), .str (PySem.Str.ofString "first_outside") 437, (.ref 199)⟩ :: ⟨PySem.PyData.keyHash P (PySem.Str.ofString "inside"), .str (PySem.Str.ofString "inside") 443, (.ref 204)⟩ :: ⟨PySem.PyData.keyHash P (PySem.Str.ofString "joined"), .str (PySem.Str.ofString "joined") 453, (.ref 211)⟩ :: ⟨PySem.PyData.keyHash P (PySem.Str.ofString "shared"), .str (PySem.Str.ofString "shared") 463, (.ref 218)⟩ :: ⟨PySem.PyData.keyHash P (PySem.Str.ofString "across"), .str (PySem.Str.ofString "across") 469, (.ref 223)⟩ :: ⟨PySem.PyData.keyHash P (PySem.Str.ofString "across_at"), .str (PySem.Str.ofString "across_at") 481, (.ref 230)⟩ :: ⟨PySem.PyData.keyHash P (PySem.Str.ofString "names_of"), .str (PySem.Str.ofString "names_of") 489, (.ref 235)⟩ :: ⟨PySem.PyData.keyHash P (PySem.Str.ofString "room_in"), .str (PySem.Str.ofString "room_in") 504, (.ref 242)⟩ :: ⟨PySem.PyData.keyHash P (PySem.Str.ofString "aside"), .str (PySem.Str.ofString "aside") 522, (.ref 249)⟩ :: ⟨PySem.PyData.keyHash P (PySem.Str.ofString "rooms_of_three"), .str (PySem.Str.ofString "rooms_of_three") 528, (.ref 254)⟩ :: ⟨PySem.PyData.keyHash P (PySem.Str.ofString "way_of"), .str (PySem.Str.ofString "way_of") 541, (.ref 261)⟩ :: ⟨PySem.PyData.keyHash P (PySem.Str.ofString "is_aside"), .str (PySem.Str.ofString "is_aside") 554, (.ref 268)⟩ :: ⟨PySem.PyData.keyHash P (PySem.Str.ofString "is_barred"), .str (PySem.Str.ofString "is_barred") 568, (.ref 275)⟩ :: ⟨PySem.PyData.keyHash P (PySem.Str.ofString "call_aside"), .str (PySem.Str.ofString "call_aside") 585, (.ref 282)⟩ :: ⟨PySem.PyData.keyHash P (PySem.Str.ofString "_law_deck"), .str (PySem.Str.ofString "_law_deck") 593, (.ref 287)⟩ :: ⟨PySem.PyData.keyHash P (PySem.Str.ofString "_law_draw"), .str (PySem.Str.ofString "_law_draw") 603, (.ref 294)⟩ :: ⟨PySem.PyData.keyHash P (PySem.Str.ofString "_law_names"), .str (PySem.Str.ofString "_law_names") 609, (.ref 299)⟩ :: ⟨PySem.PyData.keyHash P (PySem.Str.ofString "_law_row"), .str (PySem.Str.ofString "_law_row") 615, (.ref 304)⟩ :: ⟨PySem.PyData.keyHash P (PySem.Str.ofString "_law_left"), .str (PySem.Str.ofString "_law_left") 621, (.ref 309)⟩ :: ⟨PySem.PyData.keyHash P (PySem.Str.ofString "_law_plain"), .str (PySem.Str.ofString "_law_plain") 627, (.ref 314)⟩ :: ⟨PySem.PyData.keyHash P (PySem.Str.ofString "_law_within"), .str (PySem.Str.ofString "_law_within") 636, (.ref 321)⟩ :: ⟨PySem.PyData.keyHash P (PySem.Str.ofString "_law_made_of"), .str (PySem.Str.ofString "_law_made_of") 642, (.ref 326)⟩ :: ⟨PySem.PyData.keyHash P (PySem.Str.ofString "_law_rows"), .str (PySem.Str.ofString "_law_rows") 648, (.ref 331)⟩ :: ⟨PySem.PyData.keyHash P (PySem.Str.ofString "_law_stand"), .str (PySem.Str.ofString "_law_stand") 654, (.ref 336)⟩ :: ⟨PySem.PyData.keyHash P (PySem.Str.ofString "_law_group"), .str (PySem.Str.ofString "_law_group") 660, (.ref 341)⟩ :: ⟨PySem.PyData.keyHash P (PySem.Str.ofString "_law_room"), .str (PySem.Str.ofString "_law_room") 671, (.ref 348)⟩ :: ⟨PySem.PyData.keyHash P (PySem.Str.ofString "_law_size"), .str (PySem.Str.ofString "_law_size") 679, (.ref 355)⟩ :: ⟨PySem.PyData.keyHash P (PySem.Str.ofString "_law_heard"), .str (PySem.Str.ofString "_law_heard") 685, (.ref 360)⟩ :: ⟨PySem.PyData.keyHash P (PySem.Str.ofString "_law_at_one"), .str (PySem.Str.ofString "_law_at_one") 691, (.ref 365)⟩ :: ⟨PySem.PyData.keyHash P (PySem.Str.ofString "_law_known"), .str (PySem.Str.ofString "_law_known") 697, (.ref 370)⟩ :: ⟨PySem.PyData.keyHash P (PySem.Str.ofString "_law_is_row"), .str (PySem.Str.ofString "_law_is_row") 703, (.ref 375)⟩ :: ⟨PySem.PyData.keyHash P (PySem.Str.ofString "_law_bent"), .str (PySem.Str.ofString "_law_bent") 719, (.ref 382)⟩ :: ⟨PySem.PyData.keyHash P (PySem.Str.ofString "_law_due"), .str (PySem.Str.ofString "_law_due") 729, (.ref 389)⟩ :: ⟨PySem.PyData.keyHash P (PySem.Str.ofString "_law_told"), .str (PySem.Str.ofString "_law_told") 740, (.ref 396)⟩ :: ⟨PySem.PyData.keyHash P (PySem.Str.ofString "law"), .str (PySem.Str.ofString "law") 746, (.ref 401)⟩ :: [])) 64), #[]⟩) ::
  (nat_lit 23, ⟨(.type "dict"), none, (.dict (List.toArray (⟨PySem.PyData.keyHash P (PySem.Str.ofString "__module__"), .str (PySem.Str.ofString "__module__") 196, (.str (PySem.Str.ofString "opencalls.errors") 187)⟩ :: ⟨PySem.PyData.keyHash P (PySem.Str.ofString "__firstlineno__"), .str (PySem.Str.ofString "__firstlineno__") 200, (.int (2) 199)⟩ :: ⟨PySem.PyData.keyHash P (PySem.Str.ofString "__static_attributes__"), .str (PySem.Str.ofString "__static_attributes__") 201, (.ref 22)⟩ :: ⟨PySem.PyData.keyHash P (PySem.Str.ofString "__weakref__"), .str (PySem.Str.ofString "__weakref__") 203, (.ref 25)⟩ :: ⟨PySem.PyData.keyHash P (PySem.Str.ofString "__doc__"), .str (PySem.Str.ofString "__doc__") 204, .none⟩ :: [])) 3), #[]⟩) ::
  (nat_lit 24, ⟨(.type "type"), none, (.cls { name := (PySem.Str.ofString "CallError"), bases := [(.type "ValueError")], mro := [(.ref 24), (.type "ValueError"), (.type "Exception"), (.type "BaseException"), (.type "object")], ns := 23, qualname := (PySem.Str.ofString "CallError"), hasDict := true, slotNames := [], subclasses := [(.ref 37), (.ref 56), (.ref 75)], abstract := false, collection := none, hasDel := false }), #[(some (.ref 15)), none, (some (.str (PySem.Str.ofString "CallError") 189)), (some (.str (PySem.Str.ofString "CallError") 197)), (some (.builtin "ValueError.__new__")), (some (.bool true))]⟩) ::
  (nat_lit 25, ⟨(.type "getset_descriptor"), none, (.fields #[(.str (PySem.Str.ofString "__weakref__") 202), (.ref 24), (.builtin "ExceptionGroup.__weakref__"), .none]), #[]⟩) ::
  (nat_lit 36, ⟨(.type "dict"), none, (.dict (List.toArray (⟨PySem.PyData.keyHash P (PySem.Str.ofString "__module__"), .str (PySem.Str.ofString "__module__") 214, (.str (PySem.Str.ofString "opencalls.errors") 187)⟩ :: ⟨PySem.PyData.keyHash P (PySem.Str.ofString "__firstlineno__"), .str (PySem.Str.ofString "__firstlineno__") 218, (.int (4) 217)⟩ :: ⟨PySem.PyData.keyHash P (PySem.Str.ofString "__static_attributes__"), .str (PySem.Str.ofString "__static_attributes__") 219, (.ref 35)⟩ :: ⟨PySem.PyData.keyHash P (PySem.Str.ofString "__doc__"), .str (PySem.Str.ofString "__doc__") 220, .none⟩ :: [])) 2), #[]⟩) ::
  (nat_lit 37, ⟨(.type "type"), none, (.cls { name := (PySem.Str.ofString "NoRow"), bases := [(.ref 24)], mro := [(.ref 37), (.ref 24), (.type "ValueError"), (.type "Exception"), (.type "BaseException"), (.type "object")], ns := 36, qualname := (PySem.Str.ofString "NoRow"), hasDict := true, slotNames := [], subclasses := [], abstract := false, collection := none, hasDel := false }), #[(some (.ref 28)), none, (some (.str (PySem.Str.ofString "NoRow") 207)), (some (.str (PySem.Str.ofString "NoRow") 215)), (some (.builtin "ValueError.__new__")), (some (.bool true))]⟩) ::
  (nat_lit 55, ⟨(.type "dict"), none, (.dict (List.toArray (⟨PySem.PyData.keyHash P (PySem.Str.ofString "__module__"), .str (PySem.Str.ofString "__module__") 230, (.str (PySem.Str.ofString "opencalls.errors") 187)⟩ :: ⟨PySem.PyData.keyHash P (PySem.Str.ofString "__firstlineno__"), .str (PySem.Str.ofString "__firstlineno__") 234, (.int (6) 233)⟩ :: ⟨PySem.PyData.keyHash P (PySem.Str.ofString "__init__"), .str (PySem.Str.ofString "__init__") 242, (.ref 53)⟩ :: ⟨PySem.PyData.keyHash P (PySem.Str.ofString "__static_attributes__"), .str (PySem.Str.ofString "__static_attributes__") 244, (.ref 54)⟩ :: ⟨PySem.PyData.keyHash P (PySem.Str.ofString "__doc__"), .str (PySem.Str.ofString "__doc__") 245, .none⟩ :: [])) 2), #[]⟩) ::
  (nat_lit 56, ⟨(.type "type"), none, (.cls { name := (PySem.Str.ofString "NotKnown"), bases := [(.ref 24)], mro := [(.ref 56), (.ref 24), (.type "ValueError"), (.type "Exception"), (.type "BaseException"), (.type "object")], ns := 55, qualname := (PySem.Str.ofString "NotKnown"), hasDict := true, slotNames := [], subclasses := [], abstract := false, collection := none, hasDel := false }), #[(some (.ref 40)), none, (some (.str (PySem.Str.ofString "NotKnown") 223)), (some (.str (PySem.Str.ofString "NotKnown") 231)), (some (.builtin "ValueError.__new__")), (some (.bool true))]⟩) ::
  (nat_lit 71, ⟨(.type "code"), none, (.fields #[(.str (PySem.Str.ofString "__init__") 260), (.str (PySem.Str.ofString "Known.__init__") 261), (.str (PySem.Str.ofString "/claim/cut.py") 262), (.int (12) 0), (.int (2) 0), (.int (0) 0), (.int (0) 0), (.int (3) 0), (.ref 66), (.bool true), (.int (181) 0), (.ref 67), .none, (.ref 68), (.ref 69), (.ref 70), (.int (265) 0), (.int (12) 0), (.str (PySem.Str.ofString "/claim/cut.py") 266)]), #[]⟩) ::
  (nat_lit 72, ⟨(.type "function"), none, (.func (PySem.W.fnOf (PySem.Str.ofString "__init__") (PySem.Str.ofString "Known.__init__") (defArgs (inClass (topR 4) 0)) (defBody (inClass (topR 4) 0)) (defScope (inClass (topR 4) 0)) .none .none .none (.str (PySem.Str.ofString "opencalls.errors") 187) none (.ref 71) .none)), #[]⟩) ::
  (nat_lit 74, ⟨(.type "dict"), none, (.dict (List.toArray (⟨PySem.PyData.keyHash P (PySem.Str.ofString "__module__"), .str (PySem.Str.ofString "__module__") 255, (.str (PySem.Str.ofString "opencalls.errors") 187)⟩ :: ⟨PySem.PyData.keyHash P (PySem.Str.ofString "__firstlineno__"), .str (PySem.Str.ofString "__firstlineno__") 259, (.int (10) 258)⟩ :: ⟨PySem.PyData.keyHash P (PySem.Str.ofString "__init__"), .str (PySem.Str.ofString "__init__") 267, (.ref 72)⟩ :: ⟨PySem.PyData.keyHash P (PySem.Str.ofString "__static_attributes__"), .str (PySem.Str.ofString "__static_attributes__") 269, (.ref 73)⟩ :: ⟨PySem.PyData.keyHash P (PySem.Str.ofString "__doc__"), .str (PySem.Str.ofString "__doc__") 270, .none⟩ :: [])) 2), #[]⟩) ::
  (nat_lit 75, ⟨(.type "type"), none, (.cls { name := (PySem.Str.ofString "Known"), bases := [(.ref 24)], mro := [(.ref 75), (.ref 24), (.type "ValueError"), (.type "Exception"), (.type "BaseException"), (.type "object")], ns := 74, qualname := (PySem.Str.ofString "Known"), hasDict := true, slotNames := [], subclasses := [], abstract := false, collection := none, hasDel := false }), #[(some (.ref 59)), none, (some (.str (PySem.Str.ofString "Known") 248)), (some (.str (PySem.Str.ofString "Known") 256)), (some (.builtin "ValueError.__new__")), (some (.bool true))]⟩) ::
  (nat_lit 90, ⟨(.type "code"), none, (.fields #[(.str (PySem.Str.ofString "__init__") 285), (.str (PySem.Str.ofString "NoHand.__init__") 286), (.str (PySem.Str.ofString "/claim/cut.py") 287), (.int (16) 0), (.int (2) 0), (.int (0) 0), (.int (0) 0), (.int (3) 0), (.ref 85), (.bool true), (.int (181) 0), (.ref 86), .none, (.ref 87), (.ref 88), (.ref 89), (.int (290) 0), (.int (16) 0), (.str (PySem.Str.ofString "/claim/cut.py") 291)]), #[]⟩) ::
  (nat_lit 91, ⟨(.type "function"), none, (.func (PySem.W.fnOf (PySem.Str.ofString "__init__") (PySem.Str.ofString "NoHand.__init__") (defArgs (inClass (topR 5) 0)) (defBody (inClass (topR 5) 0)) (defScope (inClass (topR 5) 0)) .none .none .none (.str (PySem.Str.ofString "opencalls.errors") 187) none (.ref 90) .none)), #[]⟩) ::
  (nat_lit 93, ⟨(.type "dict"), none, (.dict (List.toArray (⟨PySem.PyData.keyHash P (PySem.Str.ofString "__module__"), .str (PySem.Str.ofString "__module__") 280, (.str (PySem.Str.ofString "opencalls.errors") 187)⟩ :: ⟨PySem.PyData.keyHash P (PySem.Str.ofString "__firstlineno__"), .str (PySem.Str.ofString "__firstlineno__") 284, (.int (14) 283)⟩ :: ⟨PySem.PyData.keyHash P (PySem.Str.ofString "__init__"), .str (PySem.Str.ofString "__init__") 292, (.ref 91)⟩ :: ⟨PySem.PyData.keyHash P (PySem.Str.ofString "__static_attributes__"), .str (PySem.Str.ofString "__static_attributes__") 294, (.ref 92)⟩ :: ⟨PySem.PyData.keyHash P (PySem.Str.ofString "__weakref__"), .str (PySem.Str.ofString "__weakref__") 296, (.ref 95)⟩ :: ⟨PySem.PyData.keyHash P (PySem.Str.ofString "__doc__"), .str (PySem.Str.ofString "__doc__") 297, .none⟩ :: [])) 3), #[]⟩) ::
  (nat_lit 94, ⟨(.type "type"), none, (.cls { name := (PySem.Str.ofString "NoHand"), bases := [(.type "LookupError")], mro := [(.ref 94), (.type "LookupError"), (.type "Exception"), (.type "BaseException"), (.type "object")], ns := 93, qualname := (PySem.Str.ofString "NoHand"), hasDict := true, slotNames := [], subclasses := [], abstract := false, collection := none, hasDel := false }), #[(some (.ref 78)), none, (some (.str (PySem.Str.ofString "NoHand") 273)), (some (.str (PySem.Str.ofString "NoHand") 281)), (some (.builtin "LookupError.__new__")), (some (.bool true))]⟩) ::
  (nat_lit 95, ⟨(.type "getset_descriptor"), none, (.fields #[(.str (PySem.Str.ofString "__weakref__") 295), (.ref 94), (.builtin "ExceptionGroup.__weakref__"), .none]), #[]⟩) ::
  (nat_lit 103, ⟨(.type "code"), none, (.fields #[(.str (PySem.Str.ofString "is_number") 302), (.str (PySem.Str.ofString "is_number") 303), (.str (PySem.Str.ofString "/claim/cut.py") 304), (.int (19) 0), (.int (1) 0), (.int (0) 0), (.int (0) 0), (.int (3) 0), (.ref 98), (.bool true), (.int (181) 0), (.ref 99), .none, (.ref 100), (.ref 101), (.ref 102), (.int (306) 0), (.int (19) 0), (.str (PySem.Str.ofString "/claim/cut.py") 307)]), #[]⟩) ::
  (nat_lit 104, ⟨(.type "function"), none, (.func (PySem.W.fnOf (PySem.Str.ofString "is_number") (PySem.Str.ofString "is_number") (defArgs (topR 7)) (defBody (topR 7)) (defScope (topR 7)) .none .none .none (.str (PySem.Str.ofString "opencalls.rests") 300) none (.ref 103) .none)), #[]⟩) ::
  (nat_lit 110, ⟨(.type "code"), none, (.fields #[(.str (PySem.Str.ofString "is_rest") 309), (.str (PySem.Str.ofString "is_rest") 310), (.str (PySem.Str.ofString "/claim/cut.py") 311), (.int (21) 0), (.int (2) 0), (.int (0) 0), (.int (0) 0), (.int (3) 0), (.ref 105), (.bool true), (.int (181) 0), (.ref 106), .none, (.ref 107), (.ref 108), (.ref 109), (.int (314) 0), (.int (21) 0), (.str (PySem.Str.ofString "/claim/cut.py") 315)]), #[]⟩) ::
  (nat_lit 111, ⟨(.type "function"), none, (.func (PySem.W.fnOf (PySem.Str.ofString "is_rest") (PySem.Str.ofString "is_rest") (defArgs (topR 8)) (defBody (topR 8)) (defScope (topR 8)) .none .none .none (.str (PySem.Str.ofString "opencalls.rests") 300) none (.ref 110) .none)), #[]⟩) ::
  (nat_lit 117, ⟨(.type "code"), none, (.fields #[(.str (PySem.Str.ofString "contrary") 317), (.str (PySem.Str.ofString "contrary") 318), (.str (PySem.Str.ofString "/claim/cut.py") 319), (.int (23) 0), (.int (2) 0), (.int (0) 0), (.int (0) 0), (.int (3) 0), (.ref 112), (.bool true), (.int (181) 0), (.ref 113), .none, (.ref 114), (.ref 115), (.ref 116), (.int (323) 0), (.int (23) 0), (.str (PySem.Str.ofString "/claim/cut.py") 324)]), #[]⟩) ::
  (nat_lit 118, ⟨(.type "function"), none, (.func (PySem.W.fnOf (PySem.Str.ofString "contrary") (PySem.Str.ofString "contrary") (defArgs (topR 9)) (defBody (topR 9)) (defScope (topR 9)) .none .none .none (.str (PySem.Str.ofString "opencalls.rests") 300) none (.ref 117) .none)), #[]⟩) ::
  (nat_lit 122, ⟨(.type "code"), none, (.fields #[(.str (PySem.Str.ofString "is_row") 328), (.str (PySem.Str.ofString "is_row") 329), (.str (PySem.Str.ofString "/claim/cut.py") 330), (.int (29) 0), (.int (3) 0), (.int (0) 0), (.int (0) 0), (.int (3) 0), (.ref 119), (.bool true), (.int (181) 0), (.ref 120), .none, .none, .none, (.ref 121), (.int (331) 0), (.int (29) 0), (.str (PySem.Str.ofString "/claim/cut.py") 332)]), #[]⟩) ::
  (nat_lit 123, ⟨(.type "function"), none, (.func (PySem.W.fnOf (PySem.Str.ofString "is_row") (PySem.Str.ofString "is_row") (defArgs (topR 11)) (defBody (topR 11)) (defScope (topR 11)) .none .none .none (.str (PySem.Str.ofString "opencalls.rows") 326) none (.ref 122) .none)), #[]⟩) ::
  (nat_lit 127, ⟨(.type "code"), none, (.fields #[(.str (PySem.Str.ofString "added") 334), (.str (PySem.Str.ofString "added") 335), (.str (PySem.Str.ofString "/claim/cut.py") 336), (.int (31) 0), (.int (3) 0), (.int (0) 0), (.int (0) 0), (.int (3) 0), (.ref 124), (.bool true), (.int (181) 0), (.ref 125), .none, .none, .none, (.ref 126), (.int (337) 0), (.int (31) 0), (.str (PySem.Str.ofString "/claim/cut.py") 338)]), #[]⟩) ::
  (nat_lit 128, ⟨(.type "function"), none, (.func (PySem.W.fnOf (PySem.Str.ofString "added") (PySem.Str.ofString "added") (defArgs (topR 12)) (defBody (topR 12)) (defScope (topR 12)) .none .none .none (.str (PySem.Str.ofString "opencalls.rows") 326) none (.ref 127) .none)), #[]⟩) ::
  (nat_lit 132, ⟨(.type "code"), none, (.fields #[(.str (PySem.Str.ofString "times") 340), (.str (PySem.Str.ofString "times") 341), (.str (PySem.Str.ofString "/claim/cut.py") 342), (.int (33) 0), (.int (3) 0), (.int (0) 0), (.int (0) 0), (.int (3) 0), (.ref 129), (.bool true), (.int (181) 0), (.ref 130), .none, .none, .none, (.ref 131), (.int (343) 0), (.int (33) 0), (.str (PySem.Str.ofString "/claim/cut.py") 344)]), #[]⟩) ::
  (nat_lit 133, ⟨(.type "function"), none, (.func (PySem.W.fnOf (PySem.Str.ofString "times") (PySem.Str.ofString "times") (defArgs (topR 13)) (defBody (topR 13)) (defScope (topR 13)) .none .none .none (.str (PySem.Str.ofString "opencalls.rows") 326) none (.ref 132) .none)), #[]⟩) ::
  (nat_lit 139, ⟨(.type "code"), none, (.fields #[(.str (PySem.Str.ofString "check_hand") 348), (.str (PySem.Str.ofString "check_hand") 349), (.str (PySem.Str.ofString "/claim/cut.py") 350), (.int (36) 0), (.int (2) 0), (.int (0) 0), (.int (0) 0), (.int (3) 0), (.ref 134), (.bool true), (.int (181) 0), (.ref 135), .none, (.ref 136), (.ref 137), (.ref 138), (.int (353) 0), (.int (36) 0), (.str (PySem.Str.ofString "/claim/cut.py") 354)]), #[]⟩) ::
  (nat_lit 140, ⟨(.type "function"), none, (.func (PySem.W.fnOf (PySem.Str.ofString "check_hand") (PySem.Str.ofString "check_hand") (defArgs (topR 15)) (defBody (topR 15)) (defScope (topR 15)) .none .none .none (.str (PySem.Str.ofString "opencalls.checks") 346) none (.ref 139) .none)), #[]⟩) ::
  (nat_lit 146, ⟨(.type "code"), none, (.fields #[(.str (PySem.Str.ofString "check_row") 356), (.str (PySem.Str.ofString "check_row") 357), (.str (PySem.Str.ofString "/claim/cut.py") 358), (.int (39) 0), (.int (3) 0), (.int (0) 0), (.int (0) 0), (.int (3) 0), (.ref 141), (.bool true), (.int (181) 0), (.ref 142), .none, (.ref 143), (.ref 144), (.ref 145), (.int (362) 0), (.int (39) 0), (.str (PySem.Str.ofString "/claim/cut.py") 363)]), #[]⟩) ::
  (nat_lit 147, ⟨(.type "function"), none, (.func (PySem.W.fnOf (PySem.Str.ofString "check_row") (PySem.Str.ofString "check_row") (defArgs (topR 16)) (defBody (topR 16)) (defScope (topR 16)) .none .none .none (.str (PySem.Str.ofString "opencalls.checks") 346) none (.ref 146) .none)), #[]⟩) ::
  (nat_lit 151, ⟨(.type "code"), none, (.fields #[(.str (PySem.Str.ofString "is_noughts") 367), (.str (PySem.Str.ofString "is_noughts") 368), (.str (PySem.Str.ofString "/claim/cut.py") 369), (.int (43) 0), (.int (1) 0), (.int (0) 0), (.int (0) 0), (.int (3) 0), (.ref 148), (.bool true), (.int (181) 0), (.ref 149), .none, .none, .none, (.ref 150), (.int (370) 0), (.int (43) 0), (.str (PySem.Str.ofString "/claim/cut.py") 371)]), #[]⟩) ::
  (nat_lit 152, ⟨(.type "function"), none, (.func (PySem.W.fnOf (PySem.Str.ofString "is_noughts") (PySem.Str.ofString "is_noughts") (defArgs (topR 18)) (defBody (topR 18)) (defScope (topR 18)) .none .none .none (.str (PySem.Str.ofString "opencalls.rooms") 365) none (.ref 151) .none)), #[]⟩) ::
  (nat_lit 158, ⟨(.type "code"), none, (.fields #[(.str (PySem.Str.ofString "first_place") 373), (.str (PySem.Str.ofString "first_place") 374), (.str (PySem.Str.ofString "/claim/cut.py") 375), (.int (45) 0), (.int (1) 0), (.int (0) 0), (.int (0) 0), (.int (3) 0), (.ref 153), (.bool true), (.int (181) 0), (.ref 154), .none, (.ref 155), (.ref 156), (.ref 157), (.int (379) 0), (.int (45) 0), (.str (PySem.Str.ofString "/claim/cut.py") 380)]), #[]⟩) ::
  (nat_lit 159, ⟨(.type "function"), none, (.func (PySem.W.fnOf (PySem.Str.ofString "first_place") (PySem.Str.ofString "first_place") (defArgs (topR 19)) (defBody (topR 19)) (defScope (topR 19)) .none .none .none (.str (PySem.Str.ofString "opencalls.rooms") 365) none (.ref 158) .none)), #[]⟩) ::
  (nat_lit 165, ⟨(.type "code"), none, (.fields #[(.str (PySem.Str.ofString "cleared") 382), (.str (PySem.Str.ofString "cleared") 383), (.str (PySem.Str.ofString "/claim/cut.py") 384), (.int (50) 0), (.int (3) 0), (.int (0) 0), (.int (0) 0), (.int (3) 0), (.ref 160), (.bool true), (.int (181) 0), (.ref 161), .none, (.ref 162), (.ref 163), (.ref 164), (.int (389) 0), (.int (50) 0), (.str (PySem.Str.ofString "/claim/cut.py") 390)]), #[]⟩) ::
  (nat_lit 166, ⟨(.type "function"), none, (.func (PySem.W.fnOf (PySem.Str.ofString "cleared") (PySem.Str.ofString "cleared") (defArgs (topR 20)) (defBody (topR 20)) (defScope (topR 20)) .none .none .none (.str (PySem.Str.ofString "opencalls.rooms") 365) none (.ref 165) .none)), #[]⟩) ::
  (nat_lit 172, ⟨(.type "code"), none, (.fields #[(.str (PySem.Str.ofString "left_of") 392), (.str (PySem.Str.ofString "left_of") 393), (.str (PySem.Str.ofString "/claim/cut.py") 394), (.int (55) 0), (.int (3) 0), (.int (0) 0), (.int (0) 0), (.int (3) 0), (.ref 167), (.bool true), (.int (181) 0), (.ref 168), .none, (.ref 169), (.ref 170), (.ref 171), (.int (399) 0), (.int (55) 0), (.str (PySem.Str.ofString "/claim/cut.py") 400)]), #[]⟩) ::
  (nat_lit 173, ⟨(.type "function"), none, (.func (PySem.W.fnOf (PySem.Str.ofString "left_of") (PySem.Str.ofString "left_of") (defArgs (topR 21)) (defBody (topR 21)) (defScope (topR 21)) .none .none .none (.str (PySem.Str.ofString "opencalls.rooms") 365) none (.ref 172) .none)), #[]⟩) ::
  (nat_lit 177, ⟨(.type "code"), none, (.fields #[(.str (PySem.Str.ofString "widened") 402), (.str (PySem.Str.ofString "widened") 403), (.str (PySem.Str.ofString "/claim/cut.py") 404), (.int (59) 0), (.int (3) 0), (.int (0) 0), (.int (0) 0), (.int (3) 0), (.ref 174), (.bool true), (.int (181) 0), (.ref 175), .none, .none, .none, (.ref 176), (.int (405) 0), (.int (59) 0), (.str (PySem.Str.ofString "/claim/cut.py") 406)]), #[]⟩) ::
  (nat_lit 178, ⟨(.type "function"), none, (.func (PySem.W.fnOf (PySem.Str.ofString "widened") (PySem.Str.ofString "widened") (defArgs (topR 22)) (defBody (topR 22)) (defScope (topR 22)) .none .none .none (.str (PySem.Str.ofString "opencalls.rooms") 365) none (.ref 177) .none)), #[]⟩) ::
  (nat_lit 184, ⟨(.type "code"), none, (.fields #[(.str (PySem.Str.ofString "room_of") 408), (.str (PySem.Str.ofString "room_of") 409), (.str (PySem.Str.ofString "/claim/cut.py") 410), (.int (66) 0), (.int (3) 0), (.int (0) 0), (.int (0) 0), (.int (3) 0), (.ref 179), (.bool true), (.int (181) 0), (.ref 180), .none, (.ref 181), (.ref 182), (.ref 183), (.int (416) 0), (.int (66) 0), (.str (PySem.Str.ofString "/claim/cut.py") 417)]), #[]⟩) ::
  (nat_lit 185, ⟨(.type "function"), none, (.func (PySem.W.fnOf (PySem.Str.ofString "room_of") (PySem.Str.ofString "room_of") (defArgs (topR 23)) (defBody (topR 23)) (defScope (topR 23)) .none .none .none (.str (PySem.Str.ofString "opencalls.rooms") 365) none (.ref 184) .none)), #[]⟩) ::
  (nat_lit 191, ⟨(.type "code"), none, (.fields #[(.str (PySem.Str.ofString "within") 419), (.str (PySem.Str.ofString "within") 420), (.str (PySem.Str.ofString "/claim/cut.py") 421), (.int (73) 0), (.int (3) 0), (.int (0) 0), (.int (0) 0), (.int (3) 0), (.ref 186), (.bool true), (.int (181) 0), (.ref 187), .none, (.ref 188), (.ref 189), (.ref 190), (.int (425) 0), (.int (73) 0), (.str (PySem.Str.ofString "/claim/cut.py") 426)]), #[]⟩) ::
  (nat_lit 192, ⟨(.type "function"), none, (.func (PySem.W.fnOf (PySem.Str.ofString "within") (PySem.Str.ofString "within") (defArgs (topR 24)) (defBody (topR 24)) (defScope (topR 24)) .none .none .none (.str (PySem.Str.ofString "opencalls.rooms") 365) none (.ref 191) .none)), #[]⟩) ::
  (nat_lit 198, ⟨(.type "code"), none, (.fields #[(.str (PySem.Str.ofString "first_outside") 428), (.str (PySem.Str.ofString "first_outside") 429), (.str (PySem.Str.ofString "/claim/cut.py") 430), (.int (75) 0), (.int (3) 0), (.int (0) 0), (.int (0) 0), (.int (3) 0), (.ref 193), (.bool true), (.int (181) 0), (.ref 194), .none, (.ref 195), (.ref 196), (.ref 197), (.int (435) 0), (.int (75) 0), (.str (PySem.Str.ofString "/claim/cut.py") 436)]), #[]⟩) ::
  (nat_lit 199, ⟨(.type "function"), none, (.func (PySem.W.fnOf (PySem.Str.ofString "first_outside") (PySem.Str.ofString "first_outside") (defArgs (topR 25)) (defBody (topR 25)) (defScope (topR 25)) .none .none .none (.str (PySem.Str.ofString "opencalls.rooms") 365) none (.ref 198) .none)), #[]⟩) ::
  (nat_lit 203, ⟨(.type "code"), none, (.fields #[(.str (PySem.Str.ofString "inside") 438), (.str (PySem.Str.ofString "inside") 439), (.str (PySem.Str.ofString "/claim/cut.py") 440), (.int (80) 0), (.int (3) 0), (.int (0) 0), (.int (0) 0), (.int (3) 0), (.ref 200), (.bool true), (.int (181) 0), (.ref 201), .none, .none, .none, (.ref 202), (.int (441) 0), (.int (80) 0), (.str (PySem.Str.ofString "/claim/cut.py") 442)]), #[]⟩) ::
  (nat_lit 204, ⟨(.type "function"), none, (.func (PySem.W.fnOf (PySem.Str.ofString "inside") (PySem.Str.ofString "inside") (defArgs (topR 26)) (defBody (topR 26)) (defScope (topR 26)) .none .none .none (.str (PySem.Str.ofString "opencalls.rooms") 365) none (.ref 203) .none)), #[]⟩) ::
  (nat_lit 210, ⟨(.type "code"), none, (.fields #[(.str (PySem.Str.ofString "joined") 444), (.str (PySem.Str.ofString "joined") 445), (.str (PySem.Str.ofString "/claim/cut.py") 446), (.int (82) 0), (.int (4) 0), (.int (0) 0), (.int (0) 0), (.int (3) 0), (.ref 205), (.bool true), (.int (181) 0), (.ref 206), .none, (.ref 207), (.ref 208), (.ref 209), (.int (451) 0), (.int (82) 0), (.str (PySem.Str.ofString "/claim/cut.py") 452)]), #[]⟩) ::
  (nat_lit 211, ⟨(.type "function"), none, (.func (PySem.W.fnOf (PySem.Str.ofString "joined") (PySem.Str.ofString "joined") (defArgs (topR 27)) (defBody (topR 27)) (defScope (topR 27)) .none .none .none (.str (PySem.Str.ofString "opencalls.rooms") 365) none (.ref 210) .none)), #[]⟩) ::
  (nat_lit 217, ⟨(.type "code"), none, (.fields #[(.str (PySem.Str.ofString "shared") 454), (.str (PySem.Str.ofString "shared") 455), (.str (PySem.Str.ofString "/claim/cut.py") 456), (.int (84) 0), (.int (4) 0), (.int (0) 0), (.int (0) 0), (.int (3) 0), (.ref 212), (.bool true), (.int (181) 0), (.ref 213), .none, (.ref 214), (.ref 215), (.ref 216), (.int (461) 0), (.int (84) 0), (.str (PySem.Str.ofString "/claim/cut.py") 462)]), #[]⟩) ::
  (nat_lit 218, ⟨(.type "function"), none, (.func (PySem.W.fnOf (PySem.Str.ofString "shared") (PySem.Str.ofString "shared") (defArgs (topR 28)) (defBody (topR 28)) (defScope (topR 28)) .none .none .none (.str (PySem.Str.ofString "opencalls.rooms") 365) none (.ref 217) .none)), #[]⟩) ::
  (nat_lit 222, ⟨(.type "code"), none, (.fields #[(.str (PySem.Str.ofString "across") 464), (.str (PySem.Str.ofString "across") 465), (.str (PySem.Str.ofString "/claim/cut.py") 466), (.int (86) 0), (.int (3) 0), (.int (0) 0), (.int (0) 0), (.int (3) 0), (.ref 219), (.bool true), (.int (181) 0), (.ref 220), .none, .none, .none, (.ref 221), (.int (467) 0), (.int (86) 0), (.str (PySem.Str.ofString "/claim/cut.py") 468)]), #[]⟩) ::
  (nat_lit 223, ⟨(.type "function"), none, (.func (PySem.W.fnOf (PySem.Str.ofString "across") (PySem.Str.ofString "across") (defArgs (topR 29)) (defBody (topR 29)) (defScope (topR 29)) .none .none .none (.str (PySem.Str.ofString "opencalls.rooms") 365) none (.ref 222) .none)), #[]⟩) ::
  (nat_lit 229, ⟨(.type "code"), none, (.fields #[(.str (PySem.Str.ofString "across_at") 470), (.str (PySem.Str.ofString "across_at") 471), (.str (PySem.Str.ofString "/claim/cut.py") 472), (.int (89) 0), (.int (4) 0), (.int (0) 0), (.int (0) 0), (.int (3) 0), (.ref 224), (.bool true), (.int (181) 0), (.ref 225), .none, (.ref 226), (.ref 227), (.ref 228), (.int (479) 0), (.int (89) 0), (.str (PySem.Str.ofString "/claim/cut.py") 480)]), #[]⟩) ::
  (nat_lit 230, ⟨(.type "function"), none, (.func (PySem.W.fnOf (PySem.Str.ofString "across_at") (PySem.Str.ofString "across_at") (defArgs (topR 30)) (defBody (topR 30)) (defScope (topR 30)) .none .none .none (.str (PySem.Str.ofString "opencalls.rooms") 365) none (.ref 229) .none)), #[]⟩) ::
  (nat_lit 234, ⟨(.type "code"), none, (.fields #[(.str (PySem.Str.ofString "names_of") 484), (.str (PySem.Str.ofString "names_of") 485), (.str (PySem.Str.ofString "/claim/cut.py") 486), (.int (96) 0), (.int (1) 0), (.int (0) 0), (.int (0) 0), (.int (3) 0), (.ref 231), (.bool true), (.int (181) 0), (.ref 232), .none, .none, .none, (.ref 233), (.int (487) 0), (.int (96) 0), (.str (PySem.Str.ofString "/claim/cut.py") 488)]), #[]⟩) ::
  (nat_lit 235, ⟨(.type "function"), none, (.func (PySem.W.fnOf (PySem.Str.ofString "names_of") (PySem.Str.ofString "names_of") (defArgs (topR 32)) (defBody (topR 32)) (defScope (topR 32)) .none .none .none (.str (PySem.Str.ofString "opencalls.stands") 482) none (.ref 234) .none)), #[]⟩) ::
  (nat_lit 241, ⟨(.type "code"), none, (.fields #[(.str (PySem.Str.ofString "room_in") 490), (.str (PySem.Str.ofString "room_in") 491), (.str (PySem.Str.ofString "/claim/cut.py") 492), (.int (98) 0), (.int (2) 0), (.int (0) 0), (.int (0) 0), (.int (3) 0), (.ref 236), (.bool true), (.int (181) 0), (.ref 237), .none, (.ref 238), (.ref 239), (.ref 240), (.int (502) 0), (.int (98) 0), (.str (PySem.Str.ofString "/claim/cut.py") 503)]), #[]⟩) ::
  (nat_lit 242, ⟨(.type "function"), none, (.func (PySem.W.fnOf (PySem.Str.ofString "room_in") (PySem.Str.ofString "room_in") (defArgs (topR 33)) (defBody (topR 33)) (defScope (topR 33)) .none .none .none (.str (PySem.Str.ofString "opencalls.stands") 482) none (.ref 241) .none)), #[]⟩) ::
  (nat_lit 248, ⟨(.type "code"), none, (.fields #[(.str (PySem.Str.ofString "aside") 507), (.str (PySem.Str.ofString "aside") 508), (.str (PySem.Str.ofString "/claim/cut.py") 509), (.int (106) 0), (.int (5) 0), (.int (0) 0), (.int (0) 0), (.int (3) 0), (.ref 243), (.bool true), (.int (181) 0), (.ref 244), .none, (.ref 245), (.ref 246), (.ref 247), (.int (520) 0), (.int (106) 0), (.str (PySem.Str.ofString "/claim/cut.py") 521)]), #[]⟩) ::
  (nat_lit 249, ⟨(.type "function"), none, (.func (PySem.W.fnOf (PySem.Str.ofString "aside") (PySem.Str.ofString "aside") (defArgs (topR 35)) (defBody (topR 35)) (defScope (topR 35)) .none .none .none (.str (PySem.Str.ofString "opencalls.asides") 505) none (.ref 248) .none)), #[]⟩) ::
  (nat_lit 253, ⟨(.type "code"), none, (.fields #[(.str (PySem.Str.ofString "rooms_of_three") 523), (.str (PySem.Str.ofString "rooms_of_three") 524), (.str (PySem.Str.ofString "/claim/cut.py") 525), (.int (117) 0), (.int (4) 0), (.int (0) 0), (.int (0) 0), (.int (3) 0), (.ref 250), (.bool true), (.int (181) 0), (.ref 251), .none, .none, .none, (.ref 252), (.int (526) 0), (.int (117) 0), (.str (PySem.Str.ofString "/claim/cut.py") 527)]), #[]⟩) ::
  (nat_lit 254, ⟨(.type "function"), none, (.func (PySem.W.fnOf (PySem.Str.ofString "rooms_of_three") (PySem.Str.ofString "rooms_of_three") (defArgs (topR 36)) (defBody (topR 36)) (defScope (topR 36)) .none .none .none (.str (PySem.Str.ofString "opencalls.asides") 505) none (.ref 253) .none)), #[]⟩) ::
  (nat_lit 260, ⟨(.type "code"), none, (.fields #[(.str (PySem.Str.ofString "way_of") 529), (.str (PySem.Str.ofString "way_of") 530), (.str (PySem.Str.ofString "/claim/cut.py") 531), (.int (119) 0), (.int (4) 0), (.int (0) 0), (.int (0) 0), (.int (3) 0), (.ref 255), (.bool true), (.int (181) 0), (.ref 256), .none, (.ref 257), (.ref 258), (.ref 259), (.int (539) 0), (.int (119) 0), (.str (PySem.Str.ofString "/claim/cut.py") 540)]), #[]⟩) ::
  (nat_lit 261, ⟨(.type "function"), none, (.func (PySem.W.fnOf (PySem.Str.ofString "way_of") (PySem.Str.ofString "way_of") (defArgs (topR 37)) (defBody (topR 37)) (defScope (topR 37)) .none .none .none (.str (PySem.Str.ofString "opencalls.asides") 505) none (.ref 260) .none)), #[]⟩) ::
  (nat_lit 267, ⟨(.type "code"), none, (.fields #[(.str (PySem.Str.ofString "is_aside") 542), (.str (PySem.Str.ofString "is_aside") 543), (.str (PySem.Str.ofString "/claim/cut.py") 544), (.int (122) 0), (.int (4) 0), (.int (0) 0), (.int (0) 0), (.int (3) 0), (.ref 262), (.bool true), (.int (181) 0), (.ref 263), .none, (.ref 264), (.ref 265), (.ref 266), (.int (552) 0), (.int (122) 0), (.str (PySem.Str.ofString "/claim/cut.py") 553)]), #[]⟩) ::
  (nat_lit 268, ⟨(.type "function"), none, (.func (PySem.W.fnOf (PySem.Str.ofString "is_aside") (PySem.Str.ofString "is_aside") (defArgs (topR 38)) (defBody (topR 38)) (defScope (topR 38)) .none .none .none (.str (PySem.Str.ofString "opencalls.asides") 505) none (.ref 267) .none)), #[]⟩) ::
  (nat_lit 274, ⟨(.type "code"), none, (.fields #[(.str (PySem.Str.ofString "is_barred") 555), (.str (PySem.Str.ofString "is_barred") 556), (.str (PySem.Str.ofString "/claim/cut.py") 557), (.int (127) 0), (.int (4) 0), (.int (0) 0), (.int (0) 0), (.int (3) 0), (.ref 269), (.bool true), (.int (181) 0), (.ref 270), .none, (.ref 271), (.ref 272), (.ref 273), (.int (566) 0), (.int (127) 0), (.str (PySem.Str.ofString "/claim/cut.py") 567)]), #[]⟩) ::
  (nat_lit 275, ⟨(.type "function"), none, (.func (PySem.W.fnOf (PySem.Str.ofString "is_barred") (PySem.Str.ofString "is_barred") (defArgs (topR 39)) (defBody (topR 39)) (defScope (topR 39)) .none .none .none (.str (PySem.Str.ofString "opencalls.asides") 505) none (.ref 274) .none)), #[]⟩) ::
  (nat_lit 281, ⟨(.type "code"), none, (.fields #[(.str (PySem.Str.ofString "call_aside") 569), (.str (PySem.Str.ofString "call_aside") 570), (.str (PySem.Str.ofString "/claim/cut.py") 571), (.int (133) 0), (.int (4) 0), (.int (0) 0), (.int (0) 0), (.int (3) 0), (.ref 276), (.bool true), (.int (181) 0), (.ref 277), .none, (.ref 278), (.ref 279), (.ref 280), (.int (583) 0), (.int (133) 0), (.str (PySem.Str.ofString "/claim/cut.py") 584)]), #[]⟩) ::
  (nat_lit 282, ⟨(.type "function"), none, (.func (PySem.W.fnOf (PySem.Str.ofString "call_aside") (PySem.Str.ofString "call_aside") (defArgs (topR 40)) (defBody (topR 40)) (defScope (topR 40)) .none .none .none (.str (PySem.Str.ofString "opencalls.asides") 505) none (.ref 281) .none)), #[]⟩) ::
  (nat_lit 286, ⟨(.type "code"), none, (.fields #[(.str (PySem.Str.ofString "_law_deck") 588), (.str (PySem.Str.ofString "_law_deck") 589), (.str (PySem.Str.ofString "/claim/cut.py") 590), (.int (147) 0), (.int (1) 0), (.int (0) 0), (.int (0) 0), (.int (3) 0), (.ref 283), (.bool true), (.int (181) 0), (.ref 284), .none, .none, .none, (.ref 285), (.int (591) 0), (.int (147) 0), (.str (PySem.Str.ofString "/claim/cut.py") 592)]), #[]⟩) ::
  (nat_lit 287, ⟨(.type "function"), none, (.func (PySem.W.fnOf (PySem.Str.ofString "_law_deck") (PySem.Str.ofString "_law_deck") (defArgs (topR 42)) (defBody (topR 42)) (defScope (topR 42)) .none .none .none (.str (PySem.Str.ofString "law_opencalls_k66_asides_refused") 586) none (.ref 286) .none)), #[]⟩) ::
  (nat_lit 293, ⟨(.type "code"), none, (.fields #[(.str (PySem.Str.ofString "_law_draw") 594), (.str (PySem.Str.ofString "_law_draw") 595), (.str (PySem.Str.ofString "/claim/cut.py") 596), (.int (149) 0), (.int (2) 0), (.int (0) 0), (.int (0) 0), (.int (3) 0), (.ref 288), (.bool true), (.int (181) 0), (.ref 289), .none, (.ref 290), (.ref 291), (.ref 292), (.int (601) 0), (.int (149) 0), (.str (PySem.Str.ofString "/claim/cut.py") 602)]), #[]⟩) ::
  (nat_lit 294, ⟨(.type "function"), none, (.func (PySem.W.fnOf (PySem.Str.ofString "_law_draw") (PySem.Str.ofString "_law_draw") (defArgs (topR 43)) (defBody (topR 43)) (defScope (topR 43)) .none .none .none (.str (PySem.Str.ofString "law_opencalls_k66_asides_refused") 586) none (.ref 293) .none)), #[]⟩) ::
  (nat_lit 298, ⟨(.type "code"), none, (.fields #[(.str (PySem.Str.ofString "_law_names") 604), (.str (PySem.Str.ofString "_law_names") 605), (.str (PySem.Str.ofString "/claim/cut.py") 606), (.int (160) 0), (.int (2) 0), (.int (0) 0), (.int (0) 0), (.int (3) 0), (.ref 295), (.bool true), (.int (181) 0), (.ref 296), .none, .none, .none, (.ref 297), (.int (607) 0), (.int (160) 0), (.str (PySem.Str.ofString "/claim/cut.py") 608)]), #[]⟩) ::
  (nat_lit 299, ⟨(.type "function"), none, (.func (PySem.W.fnOf (PySem.Str.ofString "_law_names") (PySem.Str.ofString "_law_names") (defArgs (topR 44)) (defBody (topR 44)) (defScope (topR 44)) .none .none .none (.str (PySem.Str.ofString "law_opencalls_k66_asides_refused") 586) none (.ref 298) .none)), #[]⟩) ::
  (nat_lit 303, ⟨(.type "code"), none, (.fields #[(.str (PySem.Str.ofString "_law_row") 610), (.str (PySem.Str.ofString "_law_row") 611), (.str (PySem.Str.ofString "/claim/cut.py") 612), (.int (172) 0), (.int (3) 0), (.int (0) 0), (.int (0) 0), (.int (3) 0), (.ref 300), (.bool true), (.int (181) 0), (.ref 301), .none, .none, .none, (.ref 302), (.int (613) 0), (.int (172) 0), (.str (PySem.Str.ofString "/claim/cut.py") 614)]), #[]⟩) ::
  (nat_lit 304, ⟨(.type "function"), none, (.func (PySem.W.fnOf (PySem.Str.ofString "_law_row") (PySem.Str.ofString "_law_row") (defArgs (topR 45)) (defBody (topR 45)) (defScope (topR 45)) .none .none .none (.str (PySem.Str.ofString "law_opencalls_k66_asides_refused") 586) none (.ref 303) .none)), #[]⟩) ::
  (nat_lit 308, ⟨(.type "code"), none, (.fields #[(.str (PySem.Str.ofString "_law_left") 616), (.str (PySem.Str.ofString "_law_left") 617), (.str (PySem.Str.ofString "/claim/cut.py") 618), (.int (180) 0), (.int (3) 0), (.int (0) 0), (.int (0) 0), (.int (3) 0), (.ref 305), (.bool true), (.int (181) 0), (.ref 306), .none, .none, .none, (.ref 307), (.int (619) 0), (.int (180) 0), (.str (PySem.Str.ofString "/claim/cut.py") 620)]), #[]⟩) ::
  (nat_lit 309, ⟨(.type "function"), none, (.func (PySem.W.fnOf (PySem.Str.ofString "_law_left") (PySem.Str.ofString "_law_left") (defArgs (topR 46)) (defBody (topR 46)) (defScope (topR 46)) .none .none .none (.str (PySem.Str.ofString "law_opencalls_k66_asides_refused") 586) none (.ref 308) .none)), #[]⟩) ::
  (nat_lit 313, ⟨(.type "code"), none, (.fields #[(.str (PySem.Str.ofString "_law_plain") 622), (.str (PySem.Str.ofString "_law_plain") 623), (.str (PySem.Str.ofString "/claim/cut.py") 624), (.int (187) 0), (.int (2) 0), (.int (0) 0), (.int (0) 0), (.int (3) 0), (.ref 310), (.bool true), (.int (181) 0), (.ref 311), .none, .none, .none, (.ref 312), (.int (625) 0), (.int (187) 0), (.str (PySem.Str.ofString "/claim/cut.py") 626)]), #[]⟩) ::
  (nat_lit 314, ⟨(.type "function"), none, (.func (PySem.W.fnOf (PySem.Str.ofString "_law_plain") (PySem.Str.ofString "_law_plain") (defArgs (topR 47)) (defBody (topR 47)) (defScope (topR 47)) .none .none .none (.str (PySem.Str.ofString "law_opencalls_k66_asides_refused") 586) none (.ref 313) .none)), #[]⟩) ::
  (nat_lit 320, ⟨(.type "code"), none, (.fields #[(.str (PySem.Str.ofString "_law_within") 628), (.str (PySem.Str.ofString "_law_within") 629), (.str (PySem.Str.ofString "/claim/cut.py") 630), (.int (197) 0), (.int (3) 0), (.int (0) 0), (.int (0) 0), (.int (3) 0), (.ref 315), (.bool true), (.int (181) 0), (.ref 316), .none, (.ref 317), (.ref 318), (.ref 319), (.int (634) 0), (.int (197) 0), (.str (PySem.Str.ofString "/claim/cut.py") 635)]), #[]⟩) ::
  (nat_lit 321, ⟨(.type "function"), none, (.func (PySem.W.fnOf (PySem.Str.ofString "_law_within") (PySem.Str.ofString "_law_within") (defArgs (topR 48)) (defBody (topR 48)) (defScope (topR 48)) .none .none .none (.str (PySem.Str.ofString "law_opencalls_k66_asides_refused") 586) none (.ref 320) .none)), #[]⟩) ::
  (nat_lit 325, ⟨(.type "code"), none, (.fields #[(.str (PySem.Str.ofString "_law_made_of") 637), (.str (PySem.Str.ofString "_law_made_of") 638), (.str (PySem.Str.ofString "/claim/cut.py") 639), (.int (199) 0), (.int (4) 0), (.int (0) 0), (.int (0) 0), (.int (3) 0), (.ref 322), (.bool true), (.int (181) 0), (.ref 323), .none, .none, .none, (.ref 324), (.int (640) 0), (.int (199) 0), (.str (PySem.Str.ofString "/claim/cut.py") 641)]), #[]⟩) ::
  (nat_lit 326, ⟨(.type "function"), none, (.func (PySem.W.fnOf (PySem.Str.ofString "_law_made_of") (PySem.Str.ofString "_law_made_of") (defArgs (topR 49)) (defBody (topR 49)) (defScope (topR 49)) .none .none .none (.str (PySem.Str.ofString "law_opencalls_k66_asides_refused") 586) none (.ref 325) .none)), #[]⟩) ::
  (nat_lit 330, ⟨(.type "code"), none, (.fields #[(.str (PySem.Str.ofString "_law_rows") 643), (.str (PySem.Str.ofString "_law_rows") 644), (.str (PySem.Str.ofString "/claim/cut.py") 645), (.int (204) 0), (.int (4) 0), (.int (0) 0), (.int (0) 0), (.int (3) 0), (.ref 327), (.bool true), (.int (181) 0), (.ref 328), .none, .none, .none, (.ref 329), (.int (646) 0), (.int (204) 0), (.str (PySem.Str.ofString "/claim/cut.py") 647)]), #[]⟩) ::
  (nat_lit 331, ⟨(.type "function"), none, (.func (PySem.W.fnOf (PySem.Str.ofString "_law_rows") (PySem.Str.ofString "_law_rows") (defArgs (topR 50)) (defBody (topR 50)) (defScope (topR 50)) .none .none .none (.str (PySem.Str.ofString "law_opencalls_k66_asides_refused") 586) none (.ref 330) .none)), #[]⟩) ::
  (nat_lit 335, ⟨(.type "code"), none, (.fields #[(.str (PySem.Str.ofString "_law_stand") 649), (.str (PySem.Str.ofString "_law_stand") 650), (.str (PySem.Str.ofString "/claim/cut.py") 651), (.int (212) 0), (.int (3) 0), (.int (0) 0), (.int (0) 0), (.int (3) 0), (.ref 332), (.bool true), (.int (181) 0), (.ref 333), .none, .none, .none, (.ref 334), (.int (652) 0), (.int (212) 0), (.str (PySem.Str.ofString "/claim/cut.py") 653)]), #[]⟩) ::
  (nat_lit 336, ⟨(.type "function"), none, (.func (PySem.W.fnOf (PySem.Str.ofString "_law_stand") (PySem.Str.ofString "_law_stand") (defArgs (topR 51)) (defBody (topR 51)) (defScope (topR 51)) .none .none .none (.str (PySem.Str.ofString "law_opencalls_k66_asides_refused") 586) none (.ref 335) .none)), #[]⟩) ::
  (nat_lit 347, ⟨(.type "code"), none, (.fields #[(.str (PySem.Str.ofString "_law_room") 661), (.str (PySem.Str.ofString "_law_room") 662), (.str (PySem.Str.ofString "/claim/cut.py") 663), (.int (225) 0), (.int (2) 0), (.int (0) 0), (.int (0) 0), (.int (3) 0), (.ref 342), (.bool true), (.int (181) 0), (.ref 343), .none, (.ref 344), (.ref 345), (.ref 346), (.int (669) 0), (.int (225) 0), (.str (PySem.Str.ofString "/claim/cut.py") 670)]), #[]⟩) ::
  (nat_lit 348, ⟨(.type "function"), none, (.func (PySem.W.fnOf (PySem.Str.ofString "_law_room") (PySem.Str.ofString "_law_room") (defArgs (topR 53)) (defBody (topR 53)) (defScope (topR 53)) .none .none .none (.str (PySem.Str.ofString "law_opencalls_k66_asides_refused") 586) none (.ref 347) .none)), #[]⟩) ::
  (nat_lit 369, ⟨(.type "code"), none, (.fields #[(.str (PySem.Str.ofString "_law_known") 692), (.str (PySem.Str.ofString "_law_known") 693), (.str (PySem.Str.ofString "/claim/cut.py") 694), (.int (239) 0), (.int (3) 0), (.int (0) 0), (.int (0) 0), (.int (3) 0), (.ref 366), (.bool true), (.int (181) 0), (.ref 367), .none, .none, .none, (.ref 368), (.int (695) 0), (.int (239) 0), (.str (PySem.Str.ofString "/claim/cut.py") 696)]), #[]⟩) ::
  (nat_lit 370, ⟨(.type "function"), none, (.func (PySem.W.fnOf (PySem.Str.ofString "_law_known") (PySem.Str.ofString "_law_known") (defArgs (topR 57)) (defBody (topR 57)) (defScope (topR 57)) .none .none .none (.str (PySem.Str.ofString "law_opencalls_k66_asides_refused") 586) none (.ref 369) .none)), #[]⟩) ::
  (nat_lit 374, ⟨(.type "code"), none, (.fields #[(.str (PySem.Str.ofString "_law_is_row") 698), (.str (PySem.Str.ofString "_law_is_row") 699), (.str (PySem.Str.ofString "/claim/cut.py") 700), (.int (243) 0), (.int (3) 0), (.int (0) 0), (.int (0) 0), (.int (3) 0), (.ref 371), (.bool true), (.int (181) 0), (.ref 372), .none, .none, .none, (.ref 373), (.int (701) 0), (.int (243) 0), (.str (PySem.Str.ofString "/claim/cut.py") 702)]), #[]⟩) ::
  (nat_lit 375, ⟨(.type "function"), none, (.func (PySem.W.fnOf (PySem.Str.ofString "_law_is_row") (PySem.Str.ofString "_law_is_row") (defArgs (topR 58)) (defBody (topR 58)) (defScope (topR 58)) .none .none .none (.str (PySem.Str.ofString "law_opencalls_k66_asides_refused") 586) none (.ref 374) .none)), #[]⟩) ::
  (nat_lit 381, ⟨(.type "code"), none, (.fields #[(.str (PySem.Str.ofString "_law_bent") 704), (.str (PySem.Str.ofString "_law_bent") 705), (.str (PySem.Str.ofString "/claim/cut.py") 706), (.int (247) 0), (.int (3) 0), (.int (0) 0), (.int (0) 0), (.int (3) 0), (.ref 376), (.bool true), (.int (181) 0), (.ref 377), .none, (.ref 378), (.ref 379), (.ref 380), (.int (717) 0), (.int (247) 0), (.str (PySem.Str.ofString "/claim/cut.py") 718)]), #[]⟩) ::
  (nat_lit 382, ⟨(.type "function"), none, (.func (PySem.W.fnOf (PySem.Str.ofString "_law_bent") (PySem.Str.ofString "_law_bent") (defArgs (topR 59)) (defBody (topR 59)) (defScope (topR 59)) .none .none .none (.str (PySem.Str.ofString "law_opencalls_k66_asides_refused") 586) none (.ref 381) .none)), #[]⟩) ::
  (nat_lit 388, ⟨(.type "code"), none, (.fields #[(.str (PySem.Str.ofString "_law_due") 720), (.str (PySem.Str.ofString "_law_due") 721), (.str (PySem.Str.ofString "/claim/cut.py") 722), (.int (258) 0), (.int (2) 0), (.int (0) 0), (.int (0) 0), (.int (3) 0), (.ref 383), (.bool true), (.int (181) 0), (.ref 384), .none, (.ref 385), (.ref 386), (.ref 387), (.int (727) 0), (.int (258) 0), (.str (PySem.Str.ofString "/claim/cut.py") 728)]), #[]⟩) ::
  (nat_lit 389, ⟨(.type "function"), none, (.func (PySem.W.fnOf (PySem.Str.ofString "_law_due") (PySem.Str.ofString "_law_due") (defArgs (topR 60)) (defBody (topR 60)) (defScope (topR 60)) .none .none .none (.str (PySem.Str.ofString "law_opencalls_k66_asides_refused") 586) none (.ref 388) .none)), #[]⟩) ::
  (nat_lit 395, ⟨(.type "code"), none, (.fields #[(.str (PySem.Str.ofString "_law_told") 730), (.str (PySem.Str.ofString "_law_told") 731), (.str (PySem.Str.ofString "/claim/cut.py") 732), (.int (269) 0), (.int (2) 0), (.int (0) 0), (.int (0) 0), (.int (3) 0), (.ref 390), (.bool true), (.int (181) 0), (.ref 391), .none, (.ref 392), (.ref 393), (.ref 394), (.int (738) 0), (.int (269) 0), (.str (PySem.Str.ofString "/claim/cut.py") 739)]), #[]⟩) ::
  (nat_lit 396, ⟨(.type "function"), none, (.func (PySem.W.fnOf (PySem.Str.ofString "_law_told") (PySem.Str.ofString "_law_told") (defArgs (topR 61)) (defBody (topR 61)) (defScope (topR 61)) .none .none .none (.str (PySem.Str.ofString "law_opencalls_k66_asides_refused") 586) none (.ref 395) .none)), #[]⟩) ::
  (nat_lit 400, ⟨(.type "code"), none, (.fields #[(.str (PySem.Str.ofString "law") 741), (.str (PySem.Str.ofString "law") 742), (.str (PySem.Str.ofString "/claim/cut.py") 743), (.int (280) 0), (.int (1) 0), (.int (0) 0), (.int (0) 0), (.int (3) 0), (.ref 397), (.bool true), (.int (181) 0), (.ref 398), .none, .none, .none, (.ref 399), (.int (744) 0), (.int (280) 0), (.str (PySem.Str.ofString "/claim/cut.py") 745)]), #[]⟩) ::
  (nat_lit 401, ⟨(.type "function"), none, (.func (PySem.W.fnOf (PySem.Str.ofString "law") (PySem.Str.ofString "law") (defArgs (topR 62)) (defBody (topR 62)) (defScope (topR 62)) .none .none .none (.str (PySem.Str.ofString "law_opencalls_k66_asides_refused") 586) none (.ref 400) .none)), #[]⟩) ::
  []
def as0 : List Addr := 2 :: 3 :: 23 :: 24 :: 25 :: 36 :: 37 :: 55 :: 56 :: 71 :: 72 :: 74 :: 75 :: 90 :: 91 :: 93 :: 94 :: 95 :: 103 :: 104 :: 110 :: 111 :: 117 :: 118 :: 122 :: 123 :: 127 :: 128 :: 132 :: 133 :: 139 :: 140 :: 146 :: 147 :: 151 :: 152 :: 158 :: 159 :: 165 :: 166 :: 172 :: 173 :: 177 :: 178 :: 184 :: 185 :: 191 :: 192 :: 198 :: 199 :: 203 :: 204 :: 210 :: 211 :: 217 :: 218 :: 222 :: 223 :: 229 :: 230 :: 234 :: 235 :: 241 :: 242 :: 248 :: 249 :: 253 :: 254 :: 260 :: 261 :: 267 :: 268 :: 274 :: 275 :: 281 :: 282 :: 286 :: 287 :: 293 :: 294 :: 298 :: 299 :: 303 :: 304 :: 308 :: 309 :: 313 :: 314 :: 320 :: 321 :: 325 :: 326 :: 330 :: 331 :: 335 :: 336 :: 347 :: 348 :: 369 :: 370 :: 374 :: 375 :: 381 :: 382 :: 388 :: 389 :: 395 :: 396 :: 400 :: 401 :: []
theorem as_ok (P : PySem.Params) : as0 = (K0 P).map (·.1) := by kernel_rfl
def names : List PySem.Str := (["CallError", "NoRow", "NotKnown", "Known", "NoHand", "is_number", "is_rest", "contrary", "is_row", "added", "times", "check_hand"] : List PySem.Str) ++ (["check_row", "is_noughts", "first_place", "cleared", "left_of", "widened", "room_of", "within", "first_outside", "inside", "joined", "shared"] : List PySem.Str) ++ (["across", "across_at", "names_of", "room_in", "aside", "rooms_of_three", "way_of", "is_aside", "is_barred", "call_aside", "_law_deck", "_law_draw"] : List PySem.Str) ++ (["_law_names", "_law_row", "_law_left", "_law_plain", "_law_within", "_law_made_of", "_law_rows", "_law_stand", "_law_group", "_law_room", "_law_size", "_law_heard"] : List PySem.Str) ++ (["_law_at_one", "_law_known", "_law_is_row", "_law_bent", "_law_due", "_law_told"] : List PySem.Str)
abbrev R : PySem.W.OpenRow := PySem.W.OpenLaw.row PySem.Challenge.rw_opencalls_k66_asides_refused
abbrev hk : PySem.W.Hook := PySem.W.kHook K0 as0 as_ok
def ob (s : PySem.W.SharedT) : List (Option Obj) := as0.map (HandSHeadRun.getT s)
theorem ob_eq (s : PySem.W.SharedT) : ob s = hk.obs s.abs := by
  have e : HandSHeadRun.getT s = s.abs.heap.get? := funext (HandSHeadRun.getT_eq s)
  unfold ob
  rw [e]
  rfl
def RE (w : World) : Prop := HandSHeadRun.RunEq R (PySem.W.view R.prog [62]) hk ob 20000 names w
set_option maxHeartbeats 0 in
theorem run_f (w : World) : RE (w.withFollow "special-get-raises" false) := by
  intro os
  kernel_rfl
set_option maxHeartbeats 0 in
theorem run_t (w : World) : RE (w.withFollow "special-get-raises" true) := by
  intro os
  kernel_rfl
theorem run (w : World) : RE w := PySem.W.byRow2 "special-get-raises" run_f run_t w
end OCR
set_option Elab.async false
set_option linter.all false
set_option maxRecDepth 100000
namespace OC
open PySem PySem.Spec PyProof.Rows L2
/-! ### defs and their promises, by name -/
structure Df (K : PySem.W.Frag) (mg : Str → Option Value) (x : Str) (st : Stmt) (ps : List Str) : Prop where
  ex : ∃ (f : Addr) (fd : FuncData), Fun K x x st f fd ∧ Binds K fd ps [] ∧ mg x = some (.ref f)
structure Ok (P : Program) (w : World) (K : PySem.W.Frag) (mg : Str → Option Value) (base : Heap) (k : Nat) (x : Str) (ps : List Str) (sp : Sp) : Prop where
  ex : ∃ (f : Addr) (fd : FuncData), FnOk P w K mg base CX0 k f fd ps sp ∧ mg x = some (.ref f) ∧ PySem.W.keepIn K (.ref f) = true ∧ Binds K fd ps []
section
variable {P : Program} {w : World} {K : PySem.W.Frag} {mg : Str → Option Value} {base : Heap}
theorem Df.ok {x : Str} {st : Stmt} {N ps : List Str} {k : Nat} {sp : Sp} (D : Df K mg x st ps) (S : FnScope N ps (defScope st)) (len : ∀ vs H Q E, sp vs H Q E → vs.length = ps.length)
    (hbody : ∀ (f : Addr) (cdv : Value) (A : Around) (outer : List Env) (s : Shared) (H : Hp) (vs : List V) (Q : VK) (E : XK), Room k (A.deeper (envOfC x (defScope st) s.heap.objs.size f cdv)) → sp vs H Q E →
      ∃ t, PSs (cxOf CX0 P w K mg base N x (defScope st) f cdv A outer s H E).nox (defBody st) t ∧ t { nx := fun _ H' => Q .non H', rt := Q } (start N vs) H) : Ok P w K mg base (k + 1) x ps sp := by
  obtain ⟨f, fd, F, b, g⟩ := D.ex
  exact ⟨f, fd, F.ok S len (hbody f), g, F.kp, b⟩
theorem Ok.mono {x : Str} {ps : List Str} {j k : Nat} {sp : Sp} (O : Ok P w K mg base j x ps sp) (h : j ≤ k) : Ok P w K mg base k x ps sp := by
  obtain ⟨f, fd, F, r⟩ := O.ex
  exact ⟨f, fd, F.mono h, r⟩
theorem Ok.imp {x : Str} {ps : List Str} {k : Nat} {sp sp' : Sp} (O : Ok P w K mg base k x ps sp) (h : ∀ vs H Q E, sp' vs H Q E → sp vs H Q E) : Ok P w K mg base k x ps sp' := by
  obtain ⟨f, fd, F, r⟩ := O.ex
  exact ⟨f, fd, F.imp h, r⟩
end
section
variable {X : Cx} {x : Str} {ps : List Str} {k : Nat} {sp : Sp}
theorem pe_callO {e : Expr} {es : List Expr} {t : TA} {p pos : Pos} (O : Ok X.prog X.w X.K X.mg X.base k x ps sp) (hr : Room k X.A) (hg : Gl X x) (ha : PA X (e :: es) t) (hdb : (x == ("__debug__" : Str)) = false := by decide)
    (he : starEach (e :: es) X.env = (false, eval e X.env) :: starEach es X.env := by rfl) (hpl : (backTo pos (starEach es X.env)).any (·.1) = false := by rfl) :
    PE X (.Call (.Name x p) (e :: es) [] pos) (tCall sp [] E0 t) := by
  obtain ⟨f, fd, F, g, kp, b⟩ := O.ex
  exact pe_call F hr hg g kp b .nil pass0 ha hdb he hpl
end
/-! ### from the head's facts -/
theorem df_of {K : PySem.W.Frag} {h : Heap} {mg : Str → Option Value} {x : Str} {st : Stmt} {ps : List Str} {f : Addr} {oc : Value} {od an : Option Addr} {osl : Array (Option Value)} {kV doc pm cdv ct : Value} (X : K.In h) (G : h.Ns mainGlobals mg)
    (a : PySem.W.nsIn K mainGlobals x = some (some (.ref f)))
    (l : K.lookup f = some ⟨oc, od, .func (PySem.W.fnOf x x (defArgs st) (defBody st) (defScope st) .none kV doc pm an cdv ct), osl⟩)
    (c : PySem.W.codeIn K cdv x = true) (k : PySem.W.keepIn K (.ref f) = true)
    (hb : ∀ (kV doc pm : Value) (an : Option Addr) (cdv ct : Value) (us : List Value), us.length = ps.length → bindArgs (PySem.W.fnOf x x (defArgs st) (defBody st) (defScope st) .none kV doc pm an cdv ct) ⟨us, []⟩ = pure (ps.zip us)) :
    Df K mg x st ps := by
  have F := fun_mk (st := st) l c k
  exact ⟨f, _, F, F.binds hb, PySem.W.mg_of X G a⟩
end OC
set_option Elab.async false
set_option linter.all false
set_option maxRecDepth 100000
namespace OC
open PySem PySem.Spec PyProof.Rows L2
/-! ### kinds of values -/
inductive Kd where
  | non | bl | int | str | lst | tup | dct
  deriving DecidableEq
def Kd.name : Kd → String
  | .non => "NoneType" | .bl => "bool" | .int => "int" | .str => "str" | .lst => "list" | .tup => "tuple" | .dct => "dict"
def KdOf (K : PySem.W.Frag) (H : Hp) (v : V) (k : Kd) : Prop := TyX K H v (.type k.name)
section
variable {K : PySem.W.Frag} {H : Hp}
theorem kd_int (i : Int) : KdOf K H (.int i) .int := .base (.int i)
theorem kd_bl (b : Bool) : KdOf K H (.bl b) .bl := .base (.bl b)
theorem kd_non : KdOf K H .non .non := .base .non
theorem kd_str (x : Str) : KdOf K H (.str x) .str := .base (.str x)
theorem kd_tup {a : Addr} {xs : List V} (h : SqT K H a xs) : KdOf K H (.ref a) .tup := by
  rcases h with (h | ⟨o, h⟩) | ⟨o, its, n, h, c, _⟩
  · exact .base (.tup h)
  · exact .fTuple h
  · exact .kTuple h c
theorem kd_lst {a : Addr} {xs : List V} (h : SqL K H a xs) : KdOf K H (.ref a) .lst := by
  rcases h with (h | ⟨o, h⟩) | ⟨o, its, n, h, c, _⟩
  · exact .base (.lst h)
  · exact .base (.frz h)
  · exact .kList h c
theorem kd_dct {a : Addr} {kvs : List (Key × V)} (h : H a = some (.dK kvs)) : KdOf K H (.ref a) .dct := .base (.dK h)
theorem kit_int (k : Kd) : PySem.W.kitOne K (.type k.name) (.type "int") = some (decide (k = .int) || decide (k = .bl)) := by
  cases k <;> exact kit_ty (by decide +kernel)
theorem kit_bool (k : Kd) : PySem.W.kitOne K (.type k.name) (.type "bool") = some (decide (k = .bl)) := by
  cases k <;> exact kit_ty (by decide +kernel)
theorem kit_tuple (k : Kd) : PySem.W.kitOne K (.type k.name) (.type "tuple") = some (decide (k = .tup)) := by
  cases k <;> exact kit_ty (by decide +kernel)
theorem kit_str (k : Kd) : PySem.W.kitOne K (.type k.name) (.type "str") = some (decide (k = .str)) := by
  cases k <;> exact kit_ty (by decide +kernel)
end
/-! ### heaps -/
theorem same_upd {H : Hp} {p : Addr} {o : HO} (h : H p = none) : Same H (upd H p o) := fun b x e => by
  rw [upd_ne (ne_of_none e h)]
  exact e
theorem same_mut {H H' : Hp} {p : Addr} {o : HO} (e : Same H H') (h : H p = none) : Same H (upd H' p o) := fun b x q => by
  rw [upd_ne (ne_of_none q h)]
  exact e b x q
theorem Same.tup {K : PySem.W.Frag} {H H' : Hp} {a : Addr} {xs : List V} (e : Same H H') (h : SqT K H a xs) : SqT K H' a xs := by
  rcases h with (h | ⟨o, h⟩) | h
  · exact .inl (.inl (e _ _ h))
  · exact .inl (.inr ⟨o, e _ _ h⟩)
  · exact .inr h
/-- all but the deck's two lists stays -/
def Kept (d c : Addr) (H H' : Hp) : Prop := ∀ b o, H b = some o → b ≠ d → b ≠ c → H' b = some o
theorem Kept.refl (d c : Addr) (H : Hp) : Kept d c H H := fun _ _ h _ _ => h
theorem Kept.trans {d c : Addr} {H H1 H2 : Hp} (a : Kept d c H H1) (b : Kept d c H1 H2) : Kept d c H H2 := fun x o h n m => b x o (a x o h n m) n m
theorem Kept.of {d c : Addr} {H H' : Hp} (a : Same H H') : Kept d c H H' := fun x o h _ _ => a x o h
/-- the deck: a list of the cells' list and the count of draws -/
structure Deck (H : Hp) (d c : Addr) (t : Int) : Prop where
  hd : H d = some (.lst [.ref c, .int t])
  hc : ∃ cells : List Int, H c = some (.lst (cells.map V.int)) ∧ (∀ x ∈ cells, 0 ≤ x) ∧ cells.length ≤ 63
  ne : c ≠ d
  t0 : 0 ≤ t
theorem Deck.same {H H' : Hp} {d c : Addr} {t : Int} (D : Deck H d c t) (s : Same H H') : Deck H' d c t := by
  obtain ⟨hd, ⟨cells, h1, h2⟩, n, t0⟩ := D
  exact ⟨s _ _ hd, ⟨cells, s _ _ h1, h2⟩, n, t0⟩
theorem Kept.tup {K : PySem.W.Frag} {d c : Addr} {t : Int} {H H' : Hp} {a : Addr} {xs : List V} (D : Deck H d c t) (e : Kept d c H H') (h : SqT K H a xs) : SqT K H' a xs := by
  obtain ⟨hd, ⟨cells, h1, h2⟩, n, t0⟩ := D
  rcases h with (h | ⟨o, h⟩) | h
  · exact .inl (.inl (e _ _ h (fun z => by subst z; rw [hd] at h; cases h) (fun z => by subst z; rw [h1] at h; cases h)))
  · exact .inl (.inr ⟨o, e _ _ h (fun z => by subst z; rw [hd] at h; cases h) (fun z => by subst z; rw [h1] at h; cases h)⟩)
  · exact .inr h
theorem at_int {xs : List Int} {z : Int} (h0 : 0 ≤ z) (h1 : z < (xs.length : Int)) : ∃ x, x ∈ xs ∧ xs[z.toNat]? = some x ∧ atI (xs.map V.int) z = some (.int x) := by
  have hl : z.toNat < xs.length := by omega
  refine ⟨xs[z.toNat], List.getElem_mem hl, List.getElem?_eq_getElem hl, ?_⟩
  refine at_of (j := z.toNat) (by omega) ?_
  rw [List.getElem?_map, List.getElem?_eq_getElem hl]
  rfl
theorem ix_nat {n : Nat} {z : Int} (h0 : 0 ≤ z) (h1 : z < (n : Int)) : ixN n z = some z.toNat := by
  unfold ixN
  rw [if_pos h0, if_pos h1]
theorem in_ints (i : Int) (xs : List Int) : inV (.int i) (xs.map V.int) = decide (i ∈ xs) := by
  unfold inV
  induction xs with
  | nil => simp
  | cons x r ih =>
    rw [List.map_cons, List.any_cons, ih]
    by_cases e : x = i
    · subst e; simp [eqV]
    · have : ¬ i = x := fun q => e q.symm
      simp [eqV, e, this]
end OC
set_option Elab.async false
set_option linter.all false
set_option maxRecDepth 100000
namespace OC
open PySem PySem.Spec PyProof.Rows L2
/-! ### readings by name -/
def rLenQ (K : PySem.W.Frag) : List V → Hp → VK → Prop := fun xs H Q => ∃ p ys, xs = [.ref p] ∧ (SqL K H p ys ∨ SqT K H p ys) ∧ Q (.int ys.length) H
/-! ### data kept -/
mutual
theorem dp_same {K : PySem.W.Frag} {H H' : Hp} (e : Same H H') : ∀ (d : PyData) (v : V), Dp K H v d → Dp K H' v d
  | .none, _, h => by cases h; exact .non
  | .bool b, _, h => by cases h; exact .bl b
  | .int i, _, h => by cases h; exact .int i
  | .str x, _, h => by cases h; exact .str x
  | .list ds, _, h => by
    cases h with
    | lst hs ha => exact .lst (e.seq hs) (dpAll_same e ds _ ha)
  | .tuple ds, _, h => by
    cases h with
    | tup hs ha => exact .tup (Same.tup e hs) (dpAll_same e ds _ ha)
  | .dict _, _, h => by cases h
theorem dpAll_same {K : PySem.W.Frag} {H H' : Hp} (e : Same H H') : ∀ (ds : List PyData) (vs : List V), DpAll K H vs ds → DpAll K H' vs ds
  | [], _, h => by cases h; exact .nil
  | d :: ds, _, h => by
    cases h with
    | cons h1 h2 => exact .cons (dp_same e d _ h1) (dpAll_same e ds _ h2)
end
theorem dpAll_len {K : PySem.W.Frag} {H : Hp} : ∀ {vs : List V} {ds : List PyData}, DpAll K H vs ds → vs.length = ds.length
  | _, _, .nil => rfl
  | _, _, .cons _ t => by rw [List.length_cons, List.length_cons, dpAll_len t]
theorem dpAll_get {K : PySem.W.Frag} {H : Hp} : ∀ {vs : List V} {ds : List PyData} {i : Nat} {v : V}, DpAll K H vs ds → vs[i]? = some v → ∃ d, ds[i]? = some d ∧ d ∈ ds ∧ Dp K H v d
  | _, _, i, v, .nil, e => by simp at e
  | _, _, 0, v, .cons h t, e => by
    have e : _ = v := Option.some.inj e
    subst e
    exact ⟨_, rfl, List.mem_cons_self, h⟩
  | _, _, i + 1, v, .cons h t, e => by
    obtain ⟨d, h1, h2, h3⟩ := dpAll_get (i := i) (v := v) t e
    exact ⟨d, h1, List.mem_cons_of_mem _ h2, h3⟩
theorem dpAll_ints {K : PySem.W.Frag} {H : Hp} : ∀ ns : List Int, DpAll K H (ns.map V.int) (ns.map PyData.int)
  | [] => .nil
  | n :: r => .cons (.int n) (dpAll_ints r)
/-! ### any thing, with dicts: its kind -/
def keyD : Key → PyData
  | .inl i => .int i
  | .inr x => .str x
def flD : V → PyData
  | .bl b => .bool b | .int i => .int i | .str x => .str x | _ => .none
def flOk : V → Bool
  | .non => true | .bl _ => true | .int _ => true | .str _ => true | _ => false
mutual
inductive Rep (K : PySem.W.Frag) (H : Hp) (bad : Addr → Prop) : V → PyData → Prop
  | non : Rep K H bad .non .none
  | bl (b : Bool) : Rep K H bad (.bl b) (.bool b)
  | int (i : Int) : Rep K H bad (.int i) (.int i)
  | str (x : Str) : Rep K H bad (.str x) (.str x)
  | lst {a : Addr} {xs : List V} {ds : List PyData} : H a = some (.lst xs) → ¬ bad a → RepAll K H bad xs ds → Rep K H bad (.ref a) (.list ds)
  | tup {a : Addr} {xs : List V} {ds : List PyData} : SqT K H a xs → RepAll K H bad xs ds → Rep K H bad (.ref a) (.tuple ds)
  | dct {a : Addr} {kvs : List (Key × V)} : H a = some (.dK kvs) → (kvs.all fun p => flOk p.2) = true → Rep K H bad (.ref a) (.dict (kvs.map fun p => (keyD p.1, flD p.2)))
inductive RepAll (K : PySem.W.Frag) (H : Hp) (bad : Addr → Prop) : List V → List PyData → Prop
  | nil : RepAll K H bad [] []
  | cons {v : V} {vs : List V} {d : PyData} {ds : List PyData} : Rep K H bad v d → RepAll K H bad vs ds → RepAll K H bad (v :: vs) (d :: ds)
end
def kdOf : PyData → Kd
  | .none => .non | .bool _ => .bl | .int _ => .int | .str _ => .str | .list _ => .lst | .tuple _ => .tup | .dict _ => .dct
section
variable {K : PySem.W.Frag} {H : Hp} {bad : Addr → Prop}
theorem Rep.kd : ∀ {v : V} {d : PyData}, Rep K H bad v d → KdOf K H v (kdOf d)
  | _, _, .non => kd_non
  | _, _, .bl b => kd_bl b
  | _, _, .int i => kd_int i
  | _, _, .str x => kd_str x
  | _, _, .lst h _ _ => kd_lst (.inl (.inl h))
  | _, _, .tup h _ => kd_tup h
  | _, _, .dct h _ => kd_dct h
theorem repAll_len : ∀ {vs : List V} {ds : List PyData}, RepAll K H bad vs ds → vs.length = ds.length
  | _, _, .nil => rfl
  | _, _, .cons _ t => by rw [List.length_cons, List.length_cons, repAll_len t]
theorem repAll_get : ∀ {vs : List V} {ds : List PyData} {i : Nat} {v : V}, RepAll K H bad vs ds → vs[i]? = some v → ∃ d, ds[i]? = some d ∧ d ∈ ds ∧ Rep K H bad v d
  | _, _, i, v, .nil, e => by simp at e
  | _, _, 0, v, .cons h t, e => by
    have e : _ = v := Option.some.inj e
    subst e
    exact ⟨_, rfl, List.mem_cons_self, h⟩
  | _, _, i + 1, v, .cons h t, e => by
    obtain ⟨d, h1, h2, h3⟩ := repAll_get (i := i) (v := v) t e
    exact ⟨d, h1, List.mem_cons_of_mem _ h2, h3⟩
theorem repAll_append : ∀ {xs ys : List V} {ds es : List PyData}, RepAll K H bad xs ds → RepAll K H bad ys es → RepAll K H bad (xs ++ ys) (ds ++ es)
  | _, _, _, _, .nil, h => h
  | _, _, _, _, .cons h t, g => .cons h (repAll_append t g)
theorem repAll_ints : ∀ ns : List Int, RepAll K H bad (ns.map V.int) (ns.map PyData.int)
  | [] => .nil
  | n :: r => .cons (.int n) (repAll_ints r)
end
/-! ### tuples stay -/
def Tk (H H' : Hp) : Prop := ∀ (K : PySem.W.Frag) (a : Addr) (xs : List V), SqT K H a xs → SqT K H' a xs
theorem Tk.refl (H : Hp) : Tk H H := fun _ _ _ h => h
theorem Tk.trans {H H1 H2 : Hp} (a : Tk H H1) (b : Tk H1 H2) : Tk H H2 := fun K x xs h => b K x xs (a K x xs h)
theorem Tk.of {H H' : Hp} (s : Same H H') : Tk H H' := fun _ _ _ h => Same.tup s h
theorem Tk.kept {d c : Addr} {t : Int} {H H' : Hp} (D : Deck H d c t) (k : Kept d c H H') : Tk H H' := fun _ _ _ h => Kept.tup D k h
theorem Tk.mut {H H' : Hp} {D : Addr} {xs ys : List V} (k : Tk H H') (h : H' D = some (.lst xs)) : Tk H (upd H' D (.lst ys)) := fun K a zs q => by
  rcases k K a zs q with (q | ⟨o, q⟩) | q
  · refine .inl (.inl ?_)
    rw [upd_ne (fun z => by subst z; rw [h] at q; cases q)]
    exact q
  · refine .inl (.inr ⟨o, ?_⟩)
    rw [upd_ne (fun z => by subst z; rw [h] at q; cases q)]
    exact q
  · exact .inr q
theorem Tk.new {H H' : Hp} {D : Addr} {o : HO} (k : Tk H H') (h : H' D = none) : Tk H (upd H' D o) := k.trans (Tk.of (same_upd h))
/-- what stays of things: tuples and dicts all, lists but the bad ones -/
structure Stays (bad : Addr → Prop) (H H' : Hp) : Prop where
  t : Tk H H'
  d : ∀ a kvs, H a = some (.dK kvs) → H' a = some (.dK kvs)
  l : ∀ a xs, H a = some (.lst xs) → ¬ bad a → H' a = some (.lst xs)
theorem Stays.of {bad : Addr → Prop} {H H' : Hp} (s : Same H H') : Stays bad H H' := ⟨Tk.of s, fun _ _ h => s _ _ h, fun _ _ h _ => s _ _ h⟩
theorem Stays.trans {bad : Addr → Prop} {H H1 H2 : Hp} (a : Stays bad H H1) (b : Stays bad H1 H2) : Stays bad H H2 := ⟨a.t.trans b.t, fun x y h => b.d x y (a.d x y h), fun x y h n => b.l x y (a.l x y h n) n⟩
theorem Stays.kept {d c : Addr} {t : Int} {H H' : Hp} (D : Deck H d c t) (k : Kept d c H H') : Stays (fun a => a = d ∨ a = c) H H' := by
  refine ⟨Tk.kept D k, fun a xs h => k a _ h (fun z => ?_) (fun z => ?_), fun a xs h nb => k a _ h (fun z => nb (.inl z)) (fun z => nb (.inr z))⟩
  · subst z; rw [D.hd] at h; cases h
  · obtain ⟨cells, h1, _⟩ := D.hc
    subst z; rw [h1] at h; cases h
mutual
theorem rep_stays {K : PySem.W.Frag} {bad : Addr → Prop} {H H' : Hp} (e : Stays bad H H') : ∀ (d : PyData) (v : V), Rep K H bad v d → Rep K H' bad v d
  | .none, _, h => by cases h; exact .non
  | .bool b, _, h => by cases h; exact .bl b
  | .int i, _, h => by cases h; exact .int i
  | .str x, _, h => by cases h; exact .str x
  | .list ds, _, h => by
    cases h with
    | lst hs hb ha => exact .lst (e.l _ _ hs hb) hb (repAll_stays e ds _ ha)
  | .tuple ds, _, h => by
    cases h with
    | tup hs ha => exact .tup (e.t _ _ _ hs) (repAll_stays e ds _ ha)
  | .dict _, _, h => by
    cases h with
    | dct hs hf => exact .dct (e.d _ _ hs) hf
theorem repAll_stays {K : PySem.W.Frag} {bad : Addr → Prop} {H H' : Hp} (e : Stays bad H H') : ∀ (ds : List PyData) (vs : List V), RepAll K H bad vs ds → RepAll K H' bad vs ds
  | [], _, h => by cases h; exact .nil
  | d :: ds, _, h => by
    cases h with
    | cons h1 h2 => exact .cons (rep_stays e d _ h1) (repAll_stays e ds _ h2)
end
/-! ### zip of two tuples, walked -/
theorem walk_zipT {K : PySem.W.Frag} {a b : Addr} {xs ys : List V} {n : Nat} (hn : n = min xs.length ys.length) : Walk (RZ.ItzT K a b) n (fun H => SqT K H a xs ∧ SqT K H b ys) (YPair (fun i => xs[i]?) (fun i => ys[i]?)) where
  goes i H hi q := by
    have hx : i < xs.length := by rw [hn] at hi; exact Nat.lt_of_lt_of_le hi (Nat.min_le_left _ _)
    have hy : i < ys.length := by rw [hn] at hi; exact Nat.lt_of_lt_of_le hi (Nat.min_le_right _ _)
    exact ⟨xs, ys, _, _, q.1, q.2, List.getElem?_eq_getElem hx, List.getElem?_eq_getElem hy⟩
  stops H q := ⟨xs, ys, q.1, q.2, by rw [hn]; omega⟩
  yields i H v H' _ q y := by
    obtain ⟨T, x, z, ev, nT, eH, gx, gz⟩ := y
    exact ⟨T, x, z, ev, nT, eH, gx xs q.1, gz ys q.2⟩
/-! ### the same: two things of one data -/
end OC
set_option Elab.async false
set_option linter.all false
set_option maxRecDepth 100000
set_option maxHeartbeats 2000000
set_option Elab.async false
set_option linter.all false
set_option maxRecDepth 100000
namespace OC
open PySem PySem.Spec PyProof.Rows L2
theorem new_of {H H' : Hp} {p : Addr} {o : HO} (h : upd H p o = H') (n : H p = none) : Same H H' ∧ H' p = some o := by
  subst h
  exact ⟨same_upd n, upd_same⟩
/-- a name that holds a list or a tuple, walked while G' holds -/
def iSeqV (K : PySem.W.Frag) (i : Nat) : TI := fun σ H R => ∃ (a : Addr) (xs : List V) (G' : Hp → Prop), σ[i]? = some (some (.ref a)) ∧ G' H ∧ ((∀ H', G' H' → SqL K H' a xs) ∨ (∀ H', G' H' → SqT K H' a xs)) ∧ ∀ J, Walk J xs.length G' (YAt xs) → R J H
theorem pi_seqv {X : Cx} {tg : Expr} {x : Str} {pos : Pos} (i : Nat) (he : PE X (.Name x pos) (tVar i)) : PI X tg (.Name x pos) (iSeqV X.K i) := by
  refine ⟨fun pins s σ H R I h => ?_⟩
  obtain ⟨a, xs, G', hs, hg, hq, r⟩ := h
  rcases hq with hq | hq
  · exact (pi_list he).run pins s σ H R I ⟨.ref a, hs, a, rfl, ⟨xs, hq H hg⟩, r _ (walk_list.mono hq fun _ _ _ _ _ _ y => y)⟩
  · exact (pi_tup he).run pins s σ H R I ⟨.ref a, hs, a, rfl, ⟨xs, hq H hg⟩, r _ (walk_tup.mono hq fun _ _ _ _ _ _ y => y)⟩
theorem sz1000 {n : Nat} (h : n ≤ 1000) : n ≤ sizeLine := Nat.le_of_lt (small1000 h)
mutual
def noL : PyData → Bool
  | .none => true | .bool _ => true | .int _ => true | .str _ => true | .list _ => false | .tuple ds => noLAll ds | .dict _ => false
def noLAll : List PyData → Bool
  | [] => true
  | d :: ds => noL d && noLAll ds
end
mutual
theorem dp_tk {K : PySem.W.Frag} {H H' : Hp} (e : Tk H H') : ∀ (d : PyData) (v : V), noL d = true → Dp K H v d → Dp K H' v d
  | .none, _, _, h => by cases h; exact .non
  | .bool b, _, _, h => by cases h; exact .bl b
  | .int i, _, _, h => by cases h; exact .int i
  | .str x, _, _, h => by cases h; exact .str x
  | .list ds, _, n, h => by simp [noL] at n
  | .tuple ds, _, n, h => by
    cases h with
    | tup hs ha => exact .tup (e K _ _ hs) (dpAll_tk e ds _ (by simpa [noL] using n) ha)
  | .dict _, _, _, h => by cases h
theorem dpAll_tk {K : PySem.W.Frag} {H H' : Hp} (e : Tk H H') : ∀ (ds : List PyData) (vs : List V), noLAll ds = true → DpAll K H vs ds → DpAll K H' vs ds
  | [], _, _, h => by cases h; exact .nil
  | d :: ds, _, n, h => by
    have n' : noL d = true ∧ noLAll ds = true := by simpa [noLAll] using n
    cases h with
    | cons h1 h2 => exact .cons (dp_tk e d _ n'.1 h1) (dpAll_tk e ds _ n'.2 h2)
end
/-! ### rows as data -/
def rowD (r : List Int) : PyData := .tuple (r.map PyData.int)
theorem noL_ints : ∀ r : List Int, noLAll (r.map PyData.int) = true
  | [] => by simp [noLAll]
  | n :: r => by simp [noLAll, noL, noL_ints r]
theorem noL_row (r : List Int) : noL (rowD r) = true := by
  unfold rowD
  rw [noL]
  exact noL_ints r
theorem noL_rows : ∀ rs : List (List Int), noLAll (rs.map rowD) = true
  | [] => by simp [noLAll]
  | r :: rs => by simp [noLAll, noL_row, noL_rows rs]
theorem lay_ints : ∀ ns : List Int, PyData.canLayAll0 (ns.map PyData.int) = true
  | [] => by simp only [List.map_nil, PyData.canLayAll0]
  | n :: r => by simp only [List.map_cons, PyData.canLayAll0, PyData.canLay0, lay_ints r, Bool.and_self]
theorem depth_ints : ∀ ns : List Int, PyData.depthAll (ns.map PyData.int) = 0
  | [] => by simp only [List.map_nil, PyData.depthAll]
  | n :: r => by simp only [List.map_cons, PyData.depthAll, PyData.depth, depth_ints r, Nat.max_self]
theorem shaped_ints (ns : List Int) : SeqAt.shaped (.list (ns.map PyData.int)) = true := by
  unfold SeqAt.shaped
  simp only [PyData.canLay0, lay_ints, PyData.depth, depth_ints, Bool.true_and]
  rfl
theorem dpAll_int_inv {K : PySem.W.Frag} {H : Hp} : ∀ {xs : List V} {r : List Int}, DpAll K H xs (r.map PyData.int) → xs = r.map V.int
  | _, [], h => by cases h; rfl
  | _, n :: r, h => by
    cases h with
    | cons h1 h2 =>
      cases h1
      rw [dpAll_int_inv h2]
      rfl
theorem dp_row {K : PySem.W.Frag} {H : Hp} {v : V} {r : List Int} (h : Dp K H v (rowD r)) : ∃ a, v = .ref a ∧ SqT K H a (r.map V.int) := by
  unfold rowD at h
  cases h with
  | tup hs ha => exact ⟨_, rfl, (dpAll_int_inv ha) ▸ hs⟩
theorem row_dp {K : PySem.W.Frag} {H : Hp} {a : Addr} {r : List Int} (h : SqT K H a (r.map V.int)) : Dp K H (.ref a) (rowD r) := .tup h (dpAll_ints r)
theorem dpAll_append {K : PySem.W.Frag} {H : Hp} : ∀ {xs ys : List V} {ds es : List PyData}, DpAll K H xs ds → DpAll K H ys es → DpAll K H (xs ++ ys) (ds ++ es)
  | _, _, _, _, .nil, h => h
  | _, _, _, _, .cons h t, g => .cons h (dpAll_append t g)
theorem dpAll_row {K : PySem.W.Frag} {H : Hp} {vs : List V} {rs : List (List Int)} {i : Nat} {v : V} (h : DpAll K H vs (rs.map rowD)) (e : vs[i]? = some v) : ∃ a r, v = .ref a ∧ rs[i]? = some r ∧ r ∈ rs ∧ SqT K H a (r.map V.int) := by
  obtain ⟨d, g, _, hd⟩ := dpAll_get h e
  rw [List.getElem?_map] at g
  cases hr : rs[i]? with
  | none => rw [hr] at g; cases g
  | some r =>
    rw [hr] at g
    have ed : d = rowD r := (Option.some.inj g).symm
    subst ed
    obtain ⟨a, rfl, ha⟩ := dp_row hd
    exact ⟨a, r, rfl, rfl, List.mem_of_getElem? hr, ha⟩
/-- rests below p -/
def RowOk (p : Int) (r : List Int) : Prop := ∀ x ∈ r, 0 ≤ x ∧ x < p
/-! ### comprehensions of ints -/
def LcGoal (J : It) (g : TG) (tt : TT) (te : TE) (vs : List Nat) (σ : L2.St) (H : Hp) (Qd : Addr → Hp → Prop) : Prop := ∀ D, H D = none → ∃ W : Nat → Nat → Hp → Prop, (∃ m, W 0 m (upd H D (.lst []))) ∧ ∀ i m H, W i m H →
  (J.stop i H ∧ Qd D H) ∨ (J.go i H ∧ ∃ Nx : Hp → Prop, (∀ H', Nx H' → ∃ m', m' < m ∧ W (i + 1) m' H') ∧ ∀ x H', J.yld i H x H' → g x (wipe σ vs) H' fun σ2 H2 => wipe σ2 vs = wipe σ vs ∧ tt σ2 H2 fun b H3 =>
    if b = true then te σ2 H3 fun y H4 => ∃ acc, H4 D = some (.lst acc) ∧ acc.length < sizeLine ∧ Nx (upd H4 D (.lst (acc ++ [y]))) else Nx H3)
theorem lc_zipI {K : PySem.W.Frag} {a b : Addr} {xs ys : List Int} {σ : L2.St} {H : Hp} {Qd : Addr → Hp → Prop} {i j : Nat} {vs : List Nat} {te : TE} (f : Int → Int → Int) (hA : SqT K H a (xs.map V.int)) (hB : SqT K H b (ys.map V.int)) (hz : xs.length ≤ 1000)
    (hw : ∀ x y : Option V, wipe (((wipe σ vs).set i x).set j y) vs = wipe σ vs)
    (hte : ∀ (x y : Int) (H' : Hp) (Q' : VK), x ∈ xs → y ∈ ys → Same H H' → Q' (.int (f x y)) H' → te (((wipe σ vs).set i (some (.int x))).set j (some (.int y))) H' Q')
    (hd : ∀ D H', Same H H' → H D = none → H' D = some (.lst ((List.zipWith f xs ys).map V.int)) → Qd D H') :
    LcGoal (RZ.ItzT K a b) (gTup K 2 (gCons (gName i) (gCons (gName j) gNil))) tYes te vs σ H Qd := by
  intro D nD
  refine lc_it (walk_zipT (K := K) (a := a) (b := b) (xs := xs.map V.int) (ys := ys.map V.int) rfl) (fun k H' => Same H H' ∧ H' D = some (.lst (((List.zipWith f xs ys).take k).map V.int))) ⟨same_mut (Same.refl H) nD, upd_same⟩ (fun k H' _ hP => ⟨Same.tup hP.1 hA, Same.tup hP.1 hB⟩) (fun k x H1 H2 hk hP hY => ?_) (fun H' hP => hd D H' hP.1 nD ?_)
  · obtain ⟨Ta, x1, y1, rfl, nT, rfl, e1, e2⟩ := hY
    obtain ⟨sm, eD⟩ := hP
    have sT : Same H1 (upd H1 Ta (.tup [x1, y1])) := same_upd nT
    have e1 : (xs.map V.int)[k]? = some x1 := e1
    have e2 : (ys.map V.int)[k]? = some y1 := e2
    rw [List.getElem?_map] at e1 e2
    cases h1 : xs[k]? with
    | none => rw [h1] at e1; cases e1
    | some z1 =>
      cases h2 : ys[k]? with
      | none => rw [h2] at e2; cases e2
      | some z2 =>
        rw [h1] at e1
        rw [h2] at e2
        have q1 : x1 = V.int z1 := (Option.some.inj e1).symm
        have q2 : y1 = V.int z2 := (Option.some.inj e2).symm
        subst q1 q2
        refine ⟨Ta, [.int z1, .int z2], rfl, .inl (.inl upd_same), rfl, .int z1, [.int z2], rfl, .int z2, [], rfl, rfl, hw _ _, ?_⟩
        refine hte z1 z2 _ _ (List.mem_of_getElem? h1) (List.mem_of_getElem? h2) (sm.trans sT) ⟨_, sT _ _ eD, ?_, same_mut (sm.trans sT) nD, ?_⟩
        · rw [List.length_map, List.length_take, List.length_zipWith]
          exact small1000 (by omega)
        · rw [upd_same, List.take_add_one, List.getElem?_zipWith, h1, h2, List.map_append]
          rfl
  · obtain ⟨sm, eD⟩ := hP
    rw [eD, List.take_of_length_le]
    rw [List.length_zipWith, List.length_map, List.length_map]
    exact Nat.le_refl _
theorem lc_tupI {K : PySem.W.Frag} {a : Addr} {xs : List Int} {σ : L2.St} {H : Hp} {Qd : Addr → Hp → Prop} {i : Nat} {vs : List Nat} {te : TE} (f : Int → Int) (hA : SqT K H a (xs.map V.int)) (hz : xs.length ≤ 1000)
    (hw : ∀ x : Option V, wipe ((wipe σ vs).set i x) vs = wipe σ vs)
    (hte : ∀ (x : Int) (H' : Hp) (Q' : VK), x ∈ xs → Same H H' → Q' (.int (f x)) H' → te ((wipe σ vs).set i (some (.int x))) H' Q')
    (hd : ∀ D H', Same H H' → H D = none → H' D = some (.lst ((xs.map f).map V.int)) → Qd D H') :
    LcGoal (Itt K a) (gName i) tYes te vs σ H Qd := by
  intro D nD
  refine lc_it (walk_tup (K := K) (a := a) (xs := xs.map V.int)) (fun k H' => Same H H' ∧ H' D = some (.lst (((xs.map f).take k).map V.int))) ⟨same_mut (Same.refl H) nD, upd_same⟩ (fun k H' _ hP => Same.tup hP.1 hA) (fun k x H1 H2 hk hP hY => ?_) (fun H' hP => hd D H' hP.1 nD ?_)
  · obtain ⟨rfl, e1⟩ := hY
    obtain ⟨sm, eD⟩ := hP
    rw [List.getElem?_map] at e1
    cases h1 : xs[k]? with
    | none => rw [h1] at e1; cases e1
    | some z1 =>
      rw [h1] at e1
      have q1 : x = V.int z1 := (Option.some.inj e1).symm
      subst q1
      refine ⟨hw _, hte z1 _ _ (List.mem_of_getElem? h1) sm ⟨_, eD, ?_, same_mut sm nD, ?_⟩⟩
      · rw [List.length_map, List.length_take, List.length_map]
        exact small1000 (by omega)
      · rw [upd_same, List.take_add_one, List.getElem?_map, h1, List.map_append]
        rfl
  · obtain ⟨sm, eD⟩ := hP
    rw [eD, List.take_of_length_le]
    rw [List.length_map, List.length_map]
    exact Nat.le_refl _
end OC
set_option Elab.async false
set_option linter.all false
set_option maxRecDepth 100000
set_option maxHeartbeats 2000000
/-! defs that are called while no repr is under way (A.guards = some []): the layer's promise with that one fact more -/
namespace OC
open PySem PySem.Spec PyProof.Rows L2
structure FnG (P : Program) (w : World) (K : PySem.W.Frag) (mg : Str → Option Value) (base : Heap) (CX : CXT) (k : Nat)
    (f : Addr) (fd : FuncData) (ps : List Str) (sp : Sp) : Prop where
  len : ∀ vs H Q E, sp vs H Q E → vs.length = ps.length
  go : ∀ (A : Around) (outer : List Env) (s : Shared) (H : Hp) (args : Args) (us : List Value) (vs : List V) (Q : VK) (E : XK),
    Room k A → A.guards = some [] → Env0 P w K mg base A outer s H → BindsTo s fd args (ps.zip us) → Vals vs us → sp vs H Q E →
    codeAny (model P w) A (.call (.ref f) args) (CR CX outer P w H s Q E) s
section
variable {P : Program} {w : World} {K : PySem.W.Frag} {mg : Str → Option Value} {base : Heap} {CX : CXT} {k : Nat} {f : Addr} {fd : FuncData} {ps : List Str} {sp : Sp}
theorem FnG.mono {j : Nat} (F : FnG P w K mg base CX j f fd ps sp) (h : j ≤ k) : FnG P w K mg base CX k f fd ps sp :=
  ⟨F.len, fun A outer s H args us vs Q E hr => F.go A outer s H args us vs Q E (hr.mono h)⟩
end
/-- from the body, where no repr is under way -/
theorem fnG_of {CX : CXT} {P : Program} {w : World} {K : PySem.W.Frag} {mg : Str → Option Value} {base : Heap} {k : Nat} {f : Addr}
    {nm ql : Str} {pr : Arguments} {bd : List Stmt} {sc : Scope} {dV kV doc pm cdv ct oc : Value} {an od : Option Addr}
    {osl : Array (Option Value)} {N ps : List Str} {sp : Sp}
    (lk : K.lookup f = some ⟨oc, od, .func (PySem.W.fnOf nm ql pr bd sc dV kV doc pm an cdv ct), osl⟩)
    (hcd : PySem.W.codeIn K cdv ql = true) (S : FnScope N ps sc)
    (len : ∀ vs H Q E, sp vs H Q E → vs.length = ps.length)
    (hbody : ∀ (A : Around) (outer : List Env) (s : Shared) (H : Hp) (vs : List V) (Q : VK) (E : XK),
      Room k (A.deeper (envOfC ql sc s.heap.objs.size f cdv)) → A.guards = some [] → sp vs H Q E →
      ∃ t, PSs (cxOf CX P w K mg base N ql sc f cdv A outer s H E) bd t ∧ t { nx := fun _ H' => Q .non H', rt := Q } (start N vs) H) :
    FnG P w K mg base CX (k + 1) f (PySem.W.fnOf nm ql pr bd sc dV kV doc pm an cdv ct) ps sp where
  len := len
  go A outer s H args us vs Q E hr hgd e0 hb r hsp := by
    have same : ∀ b o, base.get? b = some o → s.heap.get? b = some o := fun b o e => (e0.bs b o e).1
    have inK : K.In s.heap := e0.mod.kin.keeps same
    have noLim : s.heap.NoLimit := e0.mod.nolimit.keeps same
    have kinds : ∀ y ∈ ps.zip us, sc.names.lookup y.1 = some .local ∨
        (sc.names.lookup y.1 = some .cell ∧ ((cellsFrom (s.heap.objs.size + 1) sc.names []).lookup y.1).isSome = true) := by
      rintro ⟨n, v⟩ hy
      exact (S.par n (List.of_mem_zip hy).1).imp id fun q => ⟨q, PySem.W.cellsFrom_some _ _ _ (.inl q)⟩
    apply codeAny_call_function hr.depth (inK _ _ lk) rfl S.co S.gen rfl (PySem.W.codeRec_of inK hcd)
    apply hb
    apply wpAny_newFunctionEnv_cells S.kind kinds
    intro env he s1 x
    cases he
    refine ⟨noLim.keeps x.toInCall.keep, codeAny_func ?_⟩
    obtain ⟨t, ht, hq⟩ := hbody A outer s H vs Q E (hr.deeper _) hgd hsp
    have I0 := inv_start (CX := CX) (P := P) (w := w) (E := E) S hr.hd e0 (len _ _ _ _ hsp) r x
    have ran := ht.run [] s1 (start N vs) H _ I0 hq
    apply wpAny_mono ran
    · intro fl s' hs
      rcases fl with _ | _ | _ | u
      all_goals first
        | (obtain ⟨v, σ', H', J, rv, q⟩ := hs; exact ⟨v, H', J.os, J.bare, J.base, J.hok, rv, q⟩)
        | (obtain ⟨σ', H', J, q⟩ := hs; exact ⟨V.non, H', J.os, J.bare, J.base, J.hok, rfl, q⟩)
        | (obtain ⟨_, _, _, q⟩ := hs; exact q.elim)
    · exact fun e s' hs => hs
/-! ### by name -/
section
variable {P : Program} {w : World} {K : PySem.W.Frag} {mg : Str → Option Value} {base : Heap}
theorem funG {x : Str} {st : Stmt} {f : Addr} {fd : FuncData} {N ps : List Str} {k : Nat} {sp : Sp} (F : Fun K x x st f fd) (S : FnScope N ps (defScope st)) (len : ∀ vs H Q E, sp vs H Q E → vs.length = ps.length)
    (hbody : ∀ (cdv : Value) (A : Around) (outer : List Env) (s : Shared) (H : Hp) (vs : List V) (Q : VK) (E : XK), Room k (A.deeper (envOfC x (defScope st) s.heap.objs.size f cdv)) → A.guards = some [] → sp vs H Q E →
      ∃ t, PSs (cxOf CX0 P w K mg base N x (defScope st) f cdv A outer s H E).nox (defBody st) t ∧ t { nx := fun _ H' => Q .non H', rt := Q } (start N vs) H) : FnG P w K mg base CX0 (k + 1) f fd ps sp := by
  obtain ⟨oc, od, kV, doc, pm, an, cdv, ct, osl, rfl, lk, hcd⟩ := F.ex
  refine fnG_of lk hcd S len ?_
  intro A outer s H vs Q E hr hgd hsp
  obtain ⟨t, h, q⟩ := hbody cdv A outer s H vs Q E hr hgd hsp
  exact ⟨t, h.nox, q⟩
end
end OC
set_option Elab.async false
set_option linter.all false
set_option maxRecDepth 100000
set_option maxHeartbeats 2000000
set_option Elab.async false
set_option linter.all false
set_option maxRecDepth 100000
set_option maxHeartbeats 2000000
/-! t[::-1] of a tuple -/
set_option Elab.async false
set_option linter.all false
set_option maxRecDepth 100000
set_option maxHeartbeats 2000000
/-! repr of things, where no repr is under way -/
namespace OC
open PySem PySem.Spec PyProof.Rows L2
mutual
def lstless : PyData → Bool
  | .none => true | .bool _ => true | .int _ => true | .str _ => true | .list _ => false | .tuple ds => lstlessAll ds | .dict _ => true
def lstlessAll : List PyData → Bool
  | [] => true
  | d :: ds => lstless d && lstlessAll ds
end
section
variable {X : Cx} {pins : List (Addr × Obj)} {σ : L2.St} {H : Hp} {s : Shared} {bad : Addr → Prop}
theorem reads_key {h : Heap} {k : Key} {u : Value} (e : keyIs k u = true) : Reads h u (keyD k) [] := by
  rcases keyIs_shape e with ⟨i, t, rfl, rfl⟩ | ⟨x, t, rfl, rfl⟩
  · exact .int i t
  · exact .str x t
theorem reads_fl {h : Heap} : ∀ {v : V} {u : Value}, flOk v = true → RelV v u → Reads h u (flD v) []
  | .non, _, _, r => by cases r; exact .none
  | .bl b, _, _, r => by cases r; exact .bool b
  | .int i, _, _, r => by obtain ⟨t, rfl⟩ := r; exact .int i t
  | .str x, _, _, r => by obtain ⟨t, rfl⟩ := r; exact .str x t
theorem reads_pairs {h : Heap} {P : Program} {w : World} : ∀ {es : List DictEntry} {vs : List (Key × Value)} {kvs : List (Key × V)}, Pairs (mixKind P w) es vs → KV kvs vs → (kvs.all fun p => flOk p.2) = true →
    ReadsAll h (es.map (·.key)) (kvs.map fun p => keyD p.1) [] ∧ ReadsAll h (es.map (·.val)) (kvs.map fun p => flD p.2) []
  | _, _, _, .nil, .nil, _ => ⟨.nil, .nil⟩
  | _, _, _, .cons h1 h2 t, .cons ⟨e1, e2⟩ t2, hf => by
    rw [List.all_cons, Bool.and_eq_true] at hf
    obtain ⟨a, b⟩ := reads_pairs (h := h) t t2 hf.2
    have k1 := reads_key (h := h) (show keyIs _ _ = true from h1)
    rw [← e1] at k1
    have v1 := reads_fl (h := h) hf.1 e2
    rw [← h2] at v1
    exact ⟨.cons k1 a, .cons v1 b⟩
end
/-- what repr asks of a thing -/
structure Fit (d : PyData) : Prop where
  len : d.shown.length ≤ 1000000
  sh : d.showable = true
  dp : d.depth ≤ 50
  ok : d.hasDict = true → lstless d = true
end OC
set_option Elab.async false
set_option linter.all false
set_option maxRecDepth 100000
set_option maxHeartbeats 2000000
/-! xs == [], xs != [], whatever xs holds -/
namespace OC
open PySem PySem.Spec PyProof.Rows L2
def rEqNil : R2 := fun x y H Q => ∃ l b xs, x = .ref l ∧ y = .ref b ∧ H l = some (.lst xs) ∧ H b = some (.lst []) ∧ Q (.bl xs.isEmpty) H
def rNeNil : R2 := fun x y H Q => ∃ l b xs, x = .ref l ∧ y = .ref b ∧ H l = some (.lst xs) ∧ H b = some (.lst []) ∧ Q (.bl (!xs.isEmpty)) H
theorem shaped_nil : SeqAt.shaped (.list []) = true := shaped_ints []
theorem op_eqNil {X : Cx} (hu : X.A.units + 64 < cLine) : OpR X (compareOp .Eq) rEqNil := by
  intro pins s σ H x y v u Q I rx ry h
  obtain ⟨l, b, xs, ex, ey, hl, hb, q⟩ := h
  cases xs with
  | nil =>
    subst ex ey
    exact op_eqD hu pins s σ H _ _ v u Q I rx ry ⟨.list [], .list [], .lst (.inl (.inl hl)) .nil, .lst (.inl (.inl hb)) .nil, shaped_nil, shaped_nil, q⟩
  | cons z r =>
    subst ex ey
    cases rx
    cases ry
    obtain ⟨its, r1, p1, _⟩ := I.list (.inl (.inl hl))
    obtain ⟨its2, r2, p2, _⟩ := I.list (.inl (.inl hb))
    have l1 := r1.length
    have l2 := r2.length
    refine SeqAt.eq_list_lengthsAt p1.isList p2.isList ?_ (by omega) ⟨.bl false, H, I, rfl, q⟩
    rw [List.size_toArray, List.size_toArray, ← l1, ← l2]
    rfl
theorem op_neNil {X : Cx} (hu : X.A.units + 64 < cLine) : OpR X (compareOp .NotEq) rNeNil := by
  intro pins s σ H x y v u Q I rx ry h
  obtain ⟨l, b, xs, ex, ey, hl, hb, q⟩ := h
  cases xs with
  | nil =>
    subst ex ey
    exact op_neD hu pins s σ H _ _ v u Q I rx ry ⟨.list [], .list [], .lst (.inl (.inl hl)) .nil, .lst (.inl (.inl hb)) .nil, shaped_nil, shaped_nil, q⟩
  | cons z r =>
    subst ex ey
    cases rx
    cases ry
    obtain ⟨its, r1, p1, _⟩ := I.list (.inl (.inl hl))
    obtain ⟨its2, r2, p2, _⟩ := I.list (.inl (.inl hb))
    have l1 := r1.length
    have l2 := r2.length
    have hd : (its.toArray.size != its2.toArray.size) = true := by
      rw [List.size_toArray, List.size_toArray, ← l1, ← l2]
      rfl
    exact SeqAt.RcNeAt.lists_lengths p1.isList p2.isList hd (by omega) X.prog X.w X.xe _ ⟨.bl true, H, I, rfl, q⟩
end OC
set_option Elab.async false
set_option linter.all false
set_option maxRecDepth 100000
set_option maxHeartbeats 1000000
/-! things as data: what repr and the judges ask of them -/
namespace OC
open PySem PySem.Spec PyProof.Rows L2
/-- nothing is bad -/
abbrev NB : Addr → Prop := fun _ => False
/-- fit for repr, with bounds -/
structure FitB (B k : Nat) (d : PyData) : Prop where
  len : d.shown.length ≤ B
  sh : d.showable = true
  dp : d.depth ≤ k
  ok : d.hasDict = true → lstless d = true
theorem FitB.mono {B B' k k' : Nat} {d : PyData} (h : FitB B k d) (hB : B ≤ B') (hk : k ≤ k') : FitB B' k' d := ⟨Nat.le_trans h.len hB, h.sh, Nat.le_trans h.dp hk, h.ok⟩
theorem FitB.fit {B k : Nat} {d : PyData} (h : FitB B k d) (hB : B ≤ 1000000) (hk : k ≤ 50) : Fit d := ⟨Nat.le_trans h.len hB, h.sh, Nat.le_trans h.dp hk, h.ok⟩
theorem log_small {i : Int} (h : i.natAbs < 10 ^ 40) : i.natAbs.log2 < 1920 := by
  by_cases hz : i.natAbs = 0
  · rw [hz]
    decide
  · exact (Nat.log2_lt hz).mpr (Nat.lt_of_lt_of_le h (by decide +kernel))
theorem fit_int {i : Int} (h : i.natAbs < 10 ^ 40) : FitB 50 0 (.int i) := by
  refine ⟨?_, ?_, by simp [PyData.depth], by simp [PyData.hasDict]⟩
  · have e := int_text_length_le10 (k := 40) (by decide) h
    show (Str.ofString (toString i)).length ≤ 50
    rw [PySem.ofString_length]
    omega
  · simp only [PyData.showable]
    exact decide_eq_true (log_small h)
theorem sum_le {B : Nat} : ∀ {ts : List Str}, (∀ t ∈ ts, t.length ≤ B) → (ts.map (·.length)).sum ≤ ts.length * B
  | [], _ => by simp
  | t :: r, h => by
    have h1 := h t List.mem_cons_self
    have h2 := sum_le (ts := r) fun x hx => h x (List.mem_cons_of_mem _ hx)
    rw [List.map_cons, List.sum_cons, List.length_cons, Nat.add_mul]
    omega
theorem shownAll_map : ∀ ds : List PyData, PyData.shownAll ds = ds.map PyData.shown
  | [] => by simp [PyData.shownAll]
  | d :: r => by simp [PyData.shownAll, shownAll_map r]
theorem showAll_of : ∀ {ds : List PyData}, (∀ d ∈ ds, d.showable = true) → PyData.showableAll ds = true
  | [], _ => by simp [PyData.showableAll]
  | d :: r, h => by simp [PyData.showableAll, h d List.mem_cons_self, showAll_of (ds := r) fun x hx => h x (List.mem_cons_of_mem _ hx)]
theorem depthAll_of {k : Nat} : ∀ {ds : List PyData}, (∀ d ∈ ds, d.depth ≤ k) → PyData.depthAll ds ≤ k
  | [], _ => by simp [PyData.depthAll]
  | d :: r, h => by
    have h1 := h d List.mem_cons_self
    have h2 := depthAll_of (ds := r) fun x hx => h x (List.mem_cons_of_mem _ hx)
    simp only [PyData.depthAll]
    omega
/-- a row of rests, by data -/
def restD (p : Int) : PyData → Bool
  | .int i => decide (0 ≤ i) && decide (i < p)
  | _ => false
def isRowD (p n : Int) : PyData → Bool
  | .tuple ds => decide ((ds.length : Int) = n) && ds.all (restD p)
  | _ => false
/-- a tuple's length is within bounds -/
def lenOk : PyData → Prop
  | .tuple ds => ds.length ≤ 1000
  | _ => True
theorem rep_tup {K : PySem.W.Frag} {H : Hp} {bad : Addr → Prop} {v : V} {ds : List PyData} (h : Rep K H bad v (.tuple ds)) : ∃ a xs, v = .ref a ∧ SqT K H a xs ∧ RepAll K H bad xs ds := by
  cases h with
  | tup h1 h2 => exact ⟨_, _, rfl, h1, h2⟩
theorem row_rep {K : PySem.W.Frag} {H : Hp} {bad : Addr → Prop} {a : Addr} {r : List Int} (h : SqT K H a (r.map V.int)) : Rep K H bad (.ref a) (rowD r) := .tup h (repAll_ints r)
end OC
set_option Elab.async false
set_option linter.all false
set_option maxRecDepth 100000
set_option maxHeartbeats 1000000
/-! slices and sums of tuples, whichever tuple is told -/
namespace OC
open PySem PySem.Spec PyProof.Rows L2
theorem cut_whole {xs : List V} {lo hi : Option Int} (h : HT.sIx xs.length 0 lo = 0 ∧ HT.sIx xs.length xs.length hi = xs.length) : cutV xs lo hi = xs := by
  unfold cutV
  rw [h.1, h.2, List.drop_zero, Nat.sub_zero, List.take_length]
def rSlB (K : PySem.W.Frag) : V → Option Int → Option Int → Hp → VK → Prop := fun x lo hi H Q => ∃ a xs, x = .ref a ∧ SqT K H a xs ∧ ∀ p H', Same H H' → SqT K H' p (cutV xs lo hi) → Q (.ref p) H'
theorem sl_tupB {X : Cx} : SlR X (rSlB X.K) := by
  intro pins s σ H x v vl vu lo hi sl Q I rx hs pl pu h
  obtain ⟨a, xs, ex, hx, q⟩ := h
  exact sl_tupA pins s σ H x v vl vu lo hi sl Q I rx hs pl pu ⟨a, xs, ex, hx, fun hw => q a H (Same.refl H) (by rw [cut_whole hw]; exact hx), fun _ p np => q p _ (same_upd np) (.inl (.inl upd_same))⟩
def rCatB (K : PySem.W.Frag) : R2 := fun x y H Q => ∃ a b xs ys, x = .ref a ∧ y = .ref b ∧ SqT K H a xs ∧ SqT K H b ys ∧ xs.length + ys.length ≤ sizeLine ∧ ∀ p H', Same H H' → SqT K H' p (xs ++ ys) → Q (.ref p) H'
theorem op_catB {X : Cx} : OpR X (binaryOp .Add) (rCatB X.K) := by
  intro pins s σ H x y v u Q I rx ry h
  obtain ⟨a, b, xs, ys, ex, ey, hx, hy, hz, q⟩ := h
  refine op_catA pins s σ H x y v u Q I rx ry ⟨a, b, xs, ys, ex, ey, hx, hy, hz, fun z => q b H (Same.refl H) ?_, fun _ z => q a H (Same.refl H) ?_, fun _ _ p np => q p _ (same_upd np) (.inl (.inl upd_same))⟩
  · rw [z, List.nil_append]
    exact hy
  · rw [z, List.append_nil]
    exact hx
theorem cut_from {xs : List V} {i : Int} (h0 : 0 ≤ i) (h1 : i ≤ xs.length) : cutV xs (some i) none = xs.drop i.toNat := by
  unfold cutV
  have e : HT.sIx xs.length 0 (some i) = min i.toNat xs.length := by
    have := HT.sIx_nat xs.length 0 i.toNat
    rw [show ((i.toNat : Nat) : Int) = i by omega] at this
    exact this
  rw [e, HT.sIx_none, show min i.toNat xs.length = i.toNat by omega]
  exact List.take_of_length_le (by rw [List.length_drop]; omega)
mutual
theorem rep_weak {K : PySem.W.Frag} {b1 b2 : Addr → Prop} {H : Hp} (e : ∀ a, b2 a → b1 a) : ∀ (d : PyData) (v : V), Rep K H b1 v d → Rep K H b2 v d
  | .none, _, h => by cases h; exact .non
  | .bool b, _, h => by cases h; exact .bl b
  | .int i, _, h => by cases h; exact .int i
  | .str x, _, h => by cases h; exact .str x
  | .list ds, _, h => by
    cases h with
    | lst hs hb ha => exact .lst hs (fun z => hb (e _ z)) (repAll_weak e ds _ ha)
  | .tuple ds, _, h => by
    cases h with
    | tup hs ha => exact .tup hs (repAll_weak e ds _ ha)
  | .dict _, _, h => by
    cases h with
    | dct hs hf => exact .dct hs hf
theorem repAll_weak {K : PySem.W.Frag} {b1 b2 : Addr → Prop} {H : Hp} (e : ∀ a, b2 a → b1 a) : ∀ (ds : List PyData) (vs : List V), RepAll K H b1 vs ds → RepAll K H b2 vs ds
  | [], _, h => by cases h; exact .nil
  | d :: ds, _, h => by
    cases h with
    | cons h1 h2 => exact .cons (rep_weak e d _ h1) (repAll_weak e ds _ h2)
end
end OC
set_option Elab.async false
set_option linter.all false
set_option maxRecDepth 100000
set_option maxHeartbeats 1000000
/-! comprehensions over lists and tuples of things -/
namespace OC
open PySem PySem.Spec PyProof.Rows L2
mutual
theorem rep_fresh {K : PySem.W.Frag} {bad : Addr → Prop} {H : Hp} {B : Addr} (n : H B = none) : ∀ (d : PyData) (v : V), Rep K H bad v d → Rep K H (fun a => bad a ∨ a = B) v d
  | .none, _, h => by cases h; exact .non
  | .bool b, _, h => by cases h; exact .bl b
  | .int i, _, h => by cases h; exact .int i
  | .str x, _, h => by cases h; exact .str x
  | .list ds, _, h => by
    cases h with
    | lst hs hb ha => exact .lst hs (fun z => z.elim hb (fun e => by subst e; rw [n] at hs; cases hs)) (repAll_fresh n ds _ ha)
  | .tuple ds, _, h => by
    cases h with
    | tup hs ha => exact .tup hs (repAll_fresh n ds _ ha)
  | .dict _, _, h => by
    cases h with
    | dct hs hf => exact .dct hs hf
theorem repAll_fresh {K : PySem.W.Frag} {bad : Addr → Prop} {H : Hp} {B : Addr} (n : H B = none) : ∀ (ds : List PyData) (vs : List V), RepAll K H bad vs ds → RepAll K H (fun a => bad a ∨ a = B) vs ds
  | [], _, h => by cases h; exact .nil
  | d :: ds, _, h => by
    cases h with
    | cons h1 h2 => exact .cons (rep_fresh n d _ h1) (repAll_fresh n ds _ h2)
end
theorem upd_stays {bad : Addr → Prop} {H H' : Hp} {D : Addr} {xs ys : List V} (s : Stays bad H H') (h : H' D = some (.lst xs)) (bD : bad D) : Stays bad H (upd H' D (.lst ys)) := by
  refine ⟨s.t.mut h, fun a zs q => ?_, fun a zs q n => ?_⟩
  · have := s.d a zs q
    rw [upd_ne (fun z => by subst z; rw [h] at this; cases this)]
    exact this
  · rw [upd_ne (fun z => n (by rw [z]; exact bD))]
    exact s.l a zs q n
theorem Same.some {H H' : Hp} (s : Same H H') {a : Addr} (h : H a ≠ none) : H' a ≠ none := by
  rcases hq : H a with _ | o
  · exact absurd hq h
  · rw [s a o hq]
    exact fun z => nomatch z
/-- what is new at D or behind H -/
abbrev NewBy (H : Hp) (D : Addr) : Addr → Prop := fun a => H a ≠ none ∨ a = D
/-- a comprehension [f(x) for x in xs]: each thing to a thing, new ones alone -/
theorem lc_mapR {K : PySem.W.Frag} {J : It} {G : Hp → Prop} {vs : List V} {ds : List PyData} {σ : L2.St} {H : Hp} {Qd : Addr → Hp → Prop} {i : Nat} {sl : List Nat} {te : TE} (F : PyData → PyData)
    (w : Walk J vs.length G (YAt vs)) (hG : ∀ H', Same H H' → G H') (hD : RepAll K H NB vs ds) (hz : vs.length ≤ 1000) (hw : ∀ x : Option V, wipe ((wipe σ sl).set i x) sl = wipe σ sl)
    (hte : ∀ (v : V) (d : PyData) (H' : Hp) (Q' : VK), d ∈ ds → Rep K H' NB v d → Same H H' → (∀ v' H'', Same H' H'' → Rep K H'' (fun a => H' a ≠ none) v' (F d) → Q' v' H'') → te ((wipe σ sl).set i (some v)) H' Q')
    (hd : ∀ D H' ws, Same H H' → H D = none → H' D = some (.lst ws) → RepAll K H' (NewBy H D) ws (ds.map F) → Qd D H') :
    LcGoal J (gName i) tYes te sl σ H Qd := by
  intro D nD
  have lv := repAll_len hD
  refine lc_it w (fun k H' => Same H H' ∧ ∃ ws, H' D = some (.lst ws) ∧ ws.length = k ∧ RepAll K H' (NewBy H D) ws ((ds.take k).map F)) ⟨same_mut (Same.refl H) nD, [], upd_same, rfl, .nil⟩ (fun k H' _ hP => hG H' hP.1) (fun k x H1 H2 hk hP hY => ?_) (fun H' hP => ?_)
  · obtain ⟨rfl, e1⟩ := hY
    obtain ⟨sm, ws, eD, lw, rw_⟩ := hP
    obtain ⟨d, g, md, rx⟩ := repAll_get hD e1
    refine ⟨hw _, hte x d _ _ md (rep_stays (Stays.of sm) _ _ rx) sm fun v' H'' s2 rv => ?_⟩
    have eD2 := s2 _ _ eD
    refine ⟨ws, eD2, small1000 (by omega), same_mut (sm.trans s2) nD, ws ++ [v'], upd_same, by rw [List.length_append, lw]; rfl, ?_⟩
    rw [List.take_add_one, g, List.map_append]
    refine repAll_append (repAll_stays (upd_stays (Stays.of s2) eD2 (.inr rfl)) _ _ rw_) (.cons ?_ .nil)
    refine rep_stays (upd_stays (Stays.of (Same.refl H'')) eD2 (.inr rfl)) _ _ (rep_weak (fun a ha => ?_) _ _ rv)
    rcases ha with h | h
    · exact Same.some sm h
    · subst h
      rw [eD]
      exact fun z => nomatch z
  · obtain ⟨sm, ws, eD, lw, rw_⟩ := hP
    rw [List.take_of_length_le (by omega)] at rw_
    exact hd D H' ws sm nD eD rw_
/-- [x for x in xs if t] -/
theorem lc_filterR {K : PySem.W.Frag} {J : It} {G : Hp → Prop} {vs : List V} {ds : List PyData} {σ : L2.St} {H : Hp} {Qd : Addr → Hp → Prop} {i : Nat} {sl : List Nat} {tt : TT} (q : PyData → Bool)
    (w : Walk J vs.length G (YAt vs)) (hG : ∀ H', Same H H' → G H') (hD : RepAll K H NB vs ds) (hz : vs.length ≤ 1000) (hw : ∀ x : Option V, wipe ((wipe σ sl).set i x) sl = wipe σ sl) (hi : i < (wipe σ sl).length)
    (htt : ∀ (v : V) (d : PyData) (H' : Hp) (Q' : Bool → Hp → Prop), d ∈ ds → Rep K H' NB v d → Same H H' → (∀ H'', Same H' H'' → Q' (q d) H'') → tt ((wipe σ sl).set i (some v)) H' Q')
    (hd : ∀ D H' ws, Same H H' → H D = none → H' D = some (.lst ws) → RepAll K H' NB ws (ds.filter q) → Qd D H') :
    LcGoal J (gName i) tt (tVar i) sl σ H Qd := by
  intro D nD
  have lv := repAll_len hD
  have hDf := repAll_fresh nD _ _ hD
  refine lc_it w (fun k H' => Same H H' ∧ ∃ ws, H' D = some (.lst ws) ∧ ws.length ≤ k ∧ RepAll K H' (fun a => NB a ∨ a = D) ws ((ds.take k).filter q)) ⟨same_mut (Same.refl H) nD, [], upd_same, Nat.le_refl _, .nil⟩ (fun k H' _ hP => hG H' hP.1) (fun k x H1 H2 hk hP hY => ?_) (fun H' hP => ?_)
  · obtain ⟨rfl, e1⟩ := hY
    obtain ⟨sm, ws, eD, lw, rw_⟩ := hP
    obtain ⟨d, g, md, rx⟩ := repAll_get hD e1
    obtain ⟨d', g', _, rx'⟩ := repAll_get hDf e1
    have edd : d' = d := Option.some.inj (g'.symm.trans g)
    subst edd
    refine ⟨hw _, htt x d' _ _ md (rep_stays (Stays.of sm) _ _ rx) sm fun H'' s2 => ?_⟩
    have eD2 := s2 _ _ eD
    have tk : (ds.take (k + 1)).filter q = (ds.take k).filter q ++ (if q d' = true then [d'] else []) := by
      rw [List.take_add_one, g, List.filter_append]
      congr 1
      by_cases hq : q d' = true
      · simp [hq]
      · simp [hq]
    by_cases hq : q d' = true
    · rw [hq]
      refine iteT ⟨x, by rw [List.getElem?_set_self hi], ws, eD2, small1000 (by omega), same_mut (sm.trans s2) nD, ws ++ [x], upd_same, by rw [List.length_append]; simp; omega, ?_⟩
      rw [tk, if_pos hq]
      refine repAll_append (repAll_stays (upd_stays (Stays.of s2) eD2 (.inr rfl)) _ _ rw_) (.cons ?_ .nil)
      exact rep_stays (upd_stays (Stays.of (sm.trans s2)) eD2 (.inr rfl)) _ _ rx'
    · have hq' : q d' = false := by simpa using hq
      rw [hq']
      refine iteF ⟨sm.trans s2, ws, eD2, by omega, ?_⟩
      rw [tk, if_neg hq, List.append_nil]
      exact repAll_stays (Stays.of s2) _ _ rw_
  · obtain ⟨sm, ws, eD, lw, rw_⟩ := hP
    rw [List.take_of_length_le (by omega)] at rw_
    exact hd D H' ws sm nD eD (repAll_weak (fun _ h => h.elim) _ _ rw_)
end OC
set_option Elab.async false
set_option linter.all false
set_option maxRecDepth 100000
set_option maxHeartbeats 2000000
/-! enumerate(t) of a tuple, in a for -/
namespace OC
open PySem PySem.Spec PyProof.Rows L2
open Sem (wp)
theorem meets_enum1 {v : Value} {ob : Obj} {G : Heap → Prop} (B : Begins v ob G) : Meets (Builtin.«enumerate.__new__» ⟨[.type "enumerate", v], []⟩) (fun _ R s => G s.heap ∧ R (.ok (.ret (.ref (s.heap.push ob).objs.size))) { s with heap := (s.heap.push ob).push { cls := .type "enumerate", data := .fields #[.none, .bool false, .ref s.heap.objs.size, rawInt 0, .none, .none] } }) :=
  .of_wp fun P w A R s z => by
    obtain ⟨hp, g, d, tk, os⟩ := s
    obtain ⟨z1, z⟩ := z
    have hsub := sub_enumerate
    have q1 : ∀ {A' : Around} {E' : Value → Shared → Prop} {Q' : Value → Shared → Prop}, Q' (.ref hp.objs.size) ⟨hp.push ob, g, d, tk, os⟩ → wpAny (model P w) A' (pyIter v) Q' E' ⟨hp, g, d, tk, os⟩ := fun y => B.iter P w _ _ ⟨hp, g, d, tk, os⟩ _ z1 y
    wp_walk using q1
    refine wpAny_stack_any fun _ => wpAny_pure ?_
    split
    · rename_i c _ _ _ _ _
      cases (c == Value.type "enumerate") <;> (wp_walk using q1; exact ⟨_, rfl, z⟩)
    · wp_walk using q1
      exact ⟨_, rfl, z⟩
section
variable {P : Program} {w : World} {A : Around} {E : Value → Shared → Prop} {s : Shared}
theorem call_enumB {v : Value} {ob : Obj} {G : Heap → Prop} {Q : Value → Shared → Prop} (B : Begins v ob G) (g : G s.heap)
    (q : ∀ h1 : Heap, IsEnum h1 (s.heap.objs.size + 1) s.heap.objs.size 0 .none → h1.get? s.heap.objs.size = some ob → (∀ b o, s.heap.get? b = some o → h1.get? b = some o) → Q (.ref (s.heap.objs.size + 1)) { s with heap := h1 }) : wpAny (model P w) A (call (.type "enumerate") [v]) Q E s := by
  refine callType_new F.called_enumerate (by decide) (F.typeCall_enumerate_1 _) (F.newCall_enumerate_1 _) (fun z => F.args_object_init_2 z _) F.entry_enumerate_new (meets_enum1 B) ⟨g, ?_⟩
  have sz : (s.heap.push ob).objs.size = s.heap.objs.size + 1 := Heap.size_push ..
  show _ ∧ _
  rw [sz]
  have en : IsEnum ((s.heap.push ob).push { cls := .type "enumerate", data := .fields #[.none, .bool false, .ref s.heap.objs.size, rawInt 0, .none, .none] }) (s.heap.objs.size + 1) s.heap.objs.size 0 .none := by
    have z := Heap.get?_push_size (s.heap.push ob) (o := { cls := .type "enumerate", data := .fields #[.none, .bool false, .ref s.heap.objs.size, rawInt 0, .none, .none] }) rfl
    rw [sz] at z
    exact z
  exact ⟨⟨_, en, rfl⟩, q _ en (Heap.get?_push_of_some _ (Heap.get?_push_size _ B.free)) fun b o z => Heap.get?_push_of_some _ (Heap.get?_push_of_some _ z)⟩
end
/-- the tuple at a, each item in a new pair -/
def IteT (K : PySem.W.Frag) (a : Addr) : It :=
  ⟨fun i H => ∃ (xs : List V) (x : V), SqT K H a xs ∧ xs[i]? = some x,
   fun i H v H' => ∃ T x, v = .ref T ∧ H T = none ∧ H' = upd H T (.tup [.int (i : Nat), x]) ∧ ∀ xs, SqT K H a xs → xs[i]? = some x,
   fun i H => ∃ xs : List V, SqT K H a xs ∧ xs.length ≤ i⟩
theorem turn_enumT {P : Program} {w : World} {K : PySem.W.Frag} {elts : List Expr} {kk : Nat} {tp : Pos} (a e it : Addr) :
    Turn P w K (.Tuple elts kk tp) (IteT K a) [e, it] e (fun i h => (∃ old, IsEnum h e it ((i : Nat) : Int) old) ∧ h.IsTupleIter it a i ∧ e ≠ it) where
  mem := by simp
  obj := fun i h st b hb => by
    obtain ⟨⟨old, he⟩, ⟨o, ho, hc, hd⟩, _⟩ := st
    rcases (by simpa using hb : b = e ∨ b = it) with z | z
    · subst z; exact ⟨_, he, fun v y => nomatch y⟩
    · subst z; exact ⟨o, ho, fun v y => by rw [hd] at y; cases y⟩
  keep := fun i h h' st k => by
    obtain ⟨⟨old, he⟩, hi, ne⟩ := st
    exact ⟨⟨old, k e (by simp) _ he⟩, hi.at fun o y => k it (by simp) o y, ne⟩
  item := by
    intro X hP hw hK hc i pins s σ H E I hf st hg
    subst hP hw hK
    obtain ⟨⟨old, he⟩, hit, ne⟩ := st
    obtain ⟨xs, x, hq, hx⟩ := hg
    obtain ⟨its, rv, tp, hz⟩ := I.tuple hq
    obtain ⟨u, hu, ru⟩ := rv.get hx
    have hel : e < s.heap.objs.size := Heap.lt_size he
    have hil : it < s.heap.objs.size := by obtain ⟨_, y, _⟩ := hit; exact Heap.lt_size y
    have ta : s.heap.IsTuple a its.toArray := tp
    have ai : a ≠ it := fun z => by
      obtain ⟨o1, g1, c1, _⟩ := ta
      obtain ⟨o2, g2, c2, _⟩ := hit
      rw [z, g2] at g1
      rw [← Option.some.inj g1, c2] at c1
      exact absurd (Value.type.inj c1) (by decide)
    have ea : e ≠ a := fun z => by
      obtain ⟨o1, g1, c1, _⟩ := ta
      have he' : s.heap.get? e = some _ := he
      rw [z, g1] at he'
      have := Option.some.inj he'
      rw [this] at c1
      exact absurd (Value.type.inj c1) (by decide)
    have hlt : i < its.toArray.size := by
      have := (List.getElem?_eq_some_iff.mp hu).1
      simpa using this
    refine wpAny_pyNext_enum_itemD (Draws.tuple (A := X.A.in1) (I.ok.hd hc) it a ai its.toArray) he ⟨hit, ta⟩ hlt ne (by simp [ne, ea]) fun u' h1 tk hu' ho st1 hT hsz hk => ?_
    have eu : u' = u := by
      have e1 : its.toArray[i]? = some u := by simpa using hu
      rw [e1] at hu'
      exact (Option.some.inj hu').symm
    subst eu
    refine ⟨_, rfl, wpAny_letOwnedTupleGo_enum (s := { s with heap := h1, toks := tk + 1 }) ho fun h2 he' sb => ?_⟩
    have hT2 : h2.get? s.heap.objs.size = some { cls := .type "tuple", data := .seq #[.int i tk, u'] } := (sb.2 _ (Nat.ne_of_gt hel)).trans hT
    have new : ObjOk X.prog X.w (upd H s.heap.objs.size (.tup [.int (i : Nat), x])) h2 s.heap.objs.size (.tup [.int (i : Nat), x]) := ⟨(by decide : 2 ≤ sizeLine), [.int i tk, u'], .cons ⟨_, rfl⟩ (.cons ru .nil), ⟨_, hT2, rfl, _, rfl⟩⟩
    have I1 : Inv X pins σ (upd H s.heap.objs.size (.tup [.int (i : Nat), x])) { s with heap := h2, toks := tk + 1 } :=
      I.turnedNew (t' := tk + 1) (ch := [e, it]) (fun b ob nb y => (sb.2 b (fun z => nb (by simp [z]))).trans (hk b ob (fun z => nb (by simp [z])) (fun z => nb (by simp [z])) y)) hf (Nat.le_refl _) new
    refine ⟨.ref s.heap.objs.size, _, I1, rfl, ⟨_, x, rfl, I.hok.fresh (Nat.le_refl _), rfl, fun ys hy => by rw [I.tuple_inj hy hq]; exact hx⟩, ⟨⟨u', ?_⟩, st1.1.at fun o y => (sb.2 it (Ne.symm ne)).trans y, ne⟩, fun b hb => ?_⟩
    · rw [show ((i + 1 : Nat) : Int) = (i : Int) + 1 from by omega]
      exact he'
    · have lb : b < s.heap.objs.size := by
        rcases (by simpa using hb : b = e ∨ b = it) with z | z
        · exact z ▸ hel
        · exact z ▸ hil
      rw [upd_ne (Nat.ne_of_lt lb)]
      exact (hf b hb).1
  done := by
    intro X hP hw hK hc i pins s σ H E I hf st hg
    subst hP hw hK
    obtain ⟨⟨old, he⟩, hit, ne⟩ := st
    obtain ⟨xs, hq, hx⟩ := hg
    obtain ⟨its, rv, tp, hz⟩ := I.tuple hq
    obtain ⟨f0, f1, f2, f3, f4, f5⟩ := hf it (by simp)
    have ta : s.heap.IsTuple a its.toArray := tp
    have hl := rv.length
    have hh : X.A.in1.handled = none := I.ok.hd hc
    have hT : s.TypeIs (.ref e) "enumerate" := ⟨_, he, rfl⟩
    unfold pyNext
    refine wpAny_bind (wpAny_attempt (wpAny_callSpecial?_slot (name := Str.ofString "__next__") hT F.slot_enumerate_next (wpAny_call_entry F.slot_enumerate_next hT F.entry_enumerate_next ?_ (F.args_enumerate_next_1 _))))
    show wpAny _ _ (field (.ref e) 2 >>= _) _ _ s
    refine wpAny_bind (wpAny_field he rfl (x := .ref it) rfl (wpAny_bind (wpAny_nextOf_tuple_end hh hit ta (by simp; omega) fun h1 x eb hx' => ?_)))
    obtain ⟨o, ho, hcl⟩ := hx'
    refine wpAny_bind (wpAny_isInstance (T := "StopIteration") (b := true) ⟨o, ho, hcl⟩ isSubtype_stop (wpAny_pure ?_))
    exact ⟨rfl, I.turned (t' := s.toks) (fun b o nb y => eb b o nb y) f0 f1 f3 f4 f5⟩
  self := fun A i s Q E st h => by
    obtain ⟨⟨_, he⟩, _⟩ := st
    exact wpAny_pyIter_enum he h
def iEnumT (K : PySem.W.Frag) (ta : TA) : TI := fun σ H R => ta σ H fun vs H1 => ∃ a xs, vs = [.ref a] ∧ SqT K H1 a xs ∧ R (IteT K a) H1
theorem pi_enumT {X : Cx} {e : Expr} {ta : TA} {p pos tpos : Pos} {elts : List Expr} {kk : Nat} (hg : Gl X "enumerate") (hm : X.mg "enumerate" = none) (ha : PA X [e] ta) (hs : starEach [e] X.env = [(false, eval e X.env)] := by rfl) : PI X (.Tuple elts kk tpos) (.Call (.Name "enumerate" p) [e] [] pos) (iEnumT X.K ta) := by
  refine ⟨fun pins s σ H R I h => Call_ (ld_blt I hg hm boot_enumerate (PyProof.Rows.callWith_type1 (thn (ha.run pos pins s σ H _ I h) fun us s1 ⟨vs, H1, I1, r1, q1⟩ => ?_) hs rfl))⟩
  obtain ⟨a, xs, rfl, hq, q⟩ := q1
  cases r1 with
  | cons r rr =>
    cases rr
    cases r
    obtain ⟨its, rv, tp, hz⟩ := I1.tuple hq
    refine call_enumB (begins_tuple a its.toArray) tp fun h1 he hit hk => wpAny_pyIter_enum he ?_
    refine ⟨s1.heap.objs.size + 1, [s1.heap.objs.size + 1, s1.heap.objs.size], _, _, H1, rfl, I1.kept (t' := s1.toks) hk, turn_enumT a (s1.heap.objs.size + 1) s1.heap.objs.size, ⟨⟨.none, he⟩, ⟨_, hit, rfl, rfl⟩, Nat.succ_ne_self _⟩, fun b hb => ?_, q⟩
    have hle : s1.heap.objs.size ≤ b := by
      rcases (by simpa using hb : b = s1.heap.objs.size + 1 ∨ b = s1.heap.objs.size) with z | z
      · rw [z]; exact Nat.le_add_right _ _
      · rw [z]; exact Nat.le_refl _
    exact I1.fpOk hle (I1.hok.fresh hle)
theorem walk_enumT {K : PySem.W.Frag} {a : Addr} {xs : List V} : Walk (IteT K a) xs.length (fun H => SqT K H a xs) (YPair (fun i => some (.int (i : Nat))) (fun i => xs[i]?)) where
  goes i H hi q := ⟨xs, xs[i], q, List.getElem?_eq_getElem hi⟩
  stops H q := ⟨xs, q, Nat.le_refl _⟩
  yields i H v H' _ q y := by
    obtain ⟨T, x, ev, nT, eH, gx⟩ := y
    exact ⟨T, _, x, ev, nT, eH, rfl, gx xs q⟩
end OC
set_option Elab.async false
set_option linter.all false
set_option maxRecDepth 100000
set_option maxHeartbeats 2000000
/-! sorted(xs, reverse=True) of tuples of as many rests each -/
namespace OC
open PySem PySem.Spec PyProof.Rows L2 SrtO
section
variable {P : Program} {w : World} {A : Around} {s : Shared}
def ltT (h : Heap) (B : Int) : Value → Value → Bool := fun v u => decide (TS.code B (TS.intsOf h v) < TS.code B (TS.intsOf h u))
theorem swo_T (h : Heap) (B : Int) : Swo (ltT h B) where
  asym x y e := by
    have := of_decide_eq_true e
    exact decide_eq_false (by omega)
  tr x y z e1 e2 := by
    have h1 := of_decide_eq_false e1
    have h2 := of_decide_eq_false e2
    exact decide_eq_false (by omega)
theorem tups_sortable {h0 : Heap} {a : Addr} {vs : List Value} {d : Nat} {B : Int} (hd : 1 ≤ d) (h2 : 2 ≤ vs.length) (x : TS.TupsOk s.heap d B vs) (hi : ∀ v ∈ vs, TS.intsOf h0 v = TS.intsOf s.heap v) (ha : ∀ o, s.heap.get? a = some o → o.cls ≠ .type "tuple") : SortableO P w A s a vs (ltT h0 B) := by
  intro h' keep
  have x' : TS.TupsOk h' d B vs := x.keeps fun b o e c => keep b o (fun z => by subst z; exact ha o e c) e
  obtain ⟨fs, k, hl, hf⟩ := TS.firsts_of hd vs x'
  refine ⟨tuples' true, fun Q E hq => ?_, fun p q hp hq => ?_⟩
  · refine PySem.W.kat_kind (T := Value.type "int") k (by omega) (fun f hm => ?_) rfl ?_
    · obtain ⟨n, t, rfl⟩ := hf f hm
      exact PySem.W.Looks.of_pure rfl
    · rw [show (Value.type "int" != Value.type "tuple") = true from by first | decide +kernel | rfl]
      exact hq
  · obtain ⟨ns, tp, lp, bp⟩ := x _ hp
    obtain ⟨ms, tq, lq, bq⟩ := x _ hq
    have kk : ∀ b o, s.heap.get? b = some o → o.cls = .type "tuple" → h'.get? b = some o := fun b o e c => keep b o (fun z => by subst z; exact ha o e c) e
    have e1 : TS.intsOf h0 p.1 = ns := by rw [hi _ hp]; exact tp.ints
    have e2 : TS.intsOf h0 q.1 = ms := by rw [hi _ hq]; exact tq.ints
    have tp' := tp.keeps kk
    have tq' := tq.keeps kk
    show wpAny (model P w) A (keyLt' (tuples' true) p.1 q.1) (fun r s' => s' = { s with heap := h' } ∧ r = ltT h0 B p.1 q.1) (fun _ _ => False) { s with heap := h' }
    unfold ltT
    rw [e1, e2]
    obtain ⟨a1, xs, q1, ⟨o, ho, hc, n, hdt⟩, i⟩ := tp'
    obtain ⟨a2, ys, q2, ⟨o', ho', hc', n', hdt'⟩, i'⟩ := tq'
    rw [q1, q2]
    refine PySem.W.kat_lt (s := { s with heap := h' }) ho hdt ho' hdt' ?_
    have sz : decide (xs.size < ys.size) = false := by
      have l1 := i.length
      have l2 := i'.length
      rw [Array.length_toList] at l1 l2
      exact decide_eq_false (by omega)
    rw [sz]
    exact TS.lex_ints 0 i i' (by omega) bp bq ⟨rfl, rfl⟩
end
def rSortTR (K : PySem.W.Frag) : List V → List V → Hp → VK → Prop := fun vs zs H Q => ∃ (a : Addr) (xs : List V) (d : Nat) (B : Int), vs = [V.ref a] ∧ zs = [.bl true] ∧ 1 ≤ d ∧ SqL K H a xs ∧ (∀ x ∈ xs, ∃ ns, TupI K H x ns ∧ ns.length = d ∧ TS.Bd B ns) ∧
  ∀ (ys : List V) (p : Addr), ys.Perm xs → ys.Pairwise (fun x y => ∀ n m, TupI K H x n → TupI K H y m → TS.code B m ≤ TS.code B n) → H p = none → Q (.ref p) (upd H p (.lst ys))
theorem cr_sortTR {X : Cx} : CallRK X (.builtin "sorted") [Str.ofString "reverse"] (rSortTR X.K) := by
  intro pins s σ H vs zs us ws Q I r rz h
  obtain ⟨a, xs, d, B, rfl, rfl, hd, hs, hx, q⟩ := h
  rw [Vals.ref1 r]
  obtain ⟨w1, rfl, e1⟩ := vals1 rz
  obtain rfl : w1 = Value.bool true := e1
  obtain ⟨its, rv, hl, hz⟩ := I.list hs
  obtain ⟨e1, e2⟩ := bkV_refs rv fun x m => by
    obtain ⟨ns, ⟨t, e, _⟩, _⟩ := hx x m
    exact ⟨t, e⟩
  have tups : TS.TupsOk s.heap d B its := fun v hv => by
    obtain ⟨t, rfl⟩ := e2 v hv
    have hm : V.ref t ∈ xs := by rw [e1]; exact List.mem_map.mpr ⟨_, hv, rfl⟩
    obtain ⟨ns, ⟨t', e, ht⟩, hn, hb⟩ := hx _ hm
    cases e
    exact ⟨ns, tupI_raw I ht, hn, hb⟩
  show wpAny (model X.prog X.w) X.A (call (.builtin "sorted") [.ref a] [(Str.ofString "reverse", .bool true)]) _ _ _
  refine SrtR.sorted_ordK (b := true) (ltv := ltT s.heap B) (fun _ => rfl) (PyProof.Rows.args_sorted_rev _ _) (fun _ => PyProof.Rows.args_list_sort_rev _ _) (swo_T s.heap B) hl.isList (by rw [← rv.length]; exact hz) (fun h2 h1 a' ha' kk => ?_) fun out o1 o2 => ?_
  · have keep : ∀ b o, s.heap.get? b = some o → o.cls = .type "tuple" → h1.get? b = some o := fun b o e _ => (kk b o e).2
    refine tups_sortable (s := { s with heap := h1 }) hd h2 (tups.keeps keep) (fun v hv => ?_) fun o e => ?_
    · obtain ⟨ns, tp, _⟩ := tups v hv
      rw [tp.ints, (tp.keeps keep).ints]
    · have e' : some o = some (seqObj "list" its.toArray 0) := e.symm.trans ha'
      cases e'
      intro c
      exact absurd (Value.type.inj c) (by decide)
  · obtain ⟨ep, he'⟩ := PyProof.Rows.sortedAll_at s.heap its out.toArray.reverse
    have pm : out.Perm its := o2.perm.trans (List.reverse_perm _)
    have h3 : ∀ u ∈ out.reverse, ∃ a, u = Value.ref a := fun u hu => e2 u (pm.mem_iff.mp (List.mem_reverse.mp hu))
    have hp : (out.reverse.map bkV).Perm xs := by
      rw [e1]
      exact ((List.reverse_perm out).trans pm).map bkV
    have hlen : (out.reverse.map bkV).length ≤ sizeLine := by
      rw [hp.length_eq]
      exact hz
    have ea : out.reverse.toArray = out.toArray.reverse := by
      apply Array.ext'
      rw [Array.toList_reverse]
    refine ⟨.ref _, upd H (s.heap.objs.size + 1) (.lst (out.reverse.map bkV)), I.laid (t' := s.toks) (fun _ _ => PyProof.Rows.sortedAll_old) (Nat.le_succ _) ⟨hlen, out.reverse, ep, bkV_vals h3, by rw [ea]; exact he'⟩, rfl, q _ _ hp ?_ (I.hok.fresh (Nat.le_succ _))⟩
    rw [List.pairwise_map, List.pairwise_reverse]
    refine o1.imp fun {u v} huv n m hn hm => ?_
    obtain ⟨t, et, ht⟩ := hn
    obtain ⟨t', et', ht'⟩ := hm
    have i1 : TS.intsOf s.heap v = n := by
      rw [bkV_ref et]
      exact (tupI_raw I ht).ints
    have i2 : TS.intsOf s.heap u = m := by
      rw [bkV_ref et']
      exact (tupI_raw I ht').ints
    have z := of_decide_eq_false huv
    rw [i1, i2] at z
    omega
end OC
/-! Linear algebra over Fin p, vectors as functions: spans, plain forms, their uniqueness. Core Lean alone. -/
namespace Lin
set_option linter.all false
section
variable {p : Nat} [NeZero p]
abbrev Vec (p : Nat) := Nat → Fin p
def zeroV : Vec p := fun _ => 0
def addV (x y : Vec p) : Vec p := fun i => x i + y i
def mulV (c : Fin p) (x : Vec p) : Vec p := fun i => c * x i
/-- closed under sums and multiples -/
structure Sub (S : Vec p → Prop) : Prop where
  zero : S zeroV
  add : ∀ {x y}, S x → S y → S (addV x y)
  mul : ∀ (c : Fin p) {x}, S x → S (mulV c x)
def lin : List (Fin p) → List (Vec p) → Vec p
  | f :: fs, v :: vs => addV (mulV f v) (lin fs vs)
  | _, _ => zeroV
def Spn (vs : List (Vec p)) (x : Vec p) : Prop := ∃ fs : List (Fin p), x = lin fs vs
theorem zero_add (x : Vec p) : addV zeroV x = x := by
  funext i
  show (0 : Fin p) + x i = x i
  grind
theorem lin_nil (vs : List (Vec p)) : lin [] vs = zeroV := by cases vs <;> rfl
theorem lin_nil' (fs : List (Fin p)) : lin fs ([] : List (Vec p)) = zeroV := by cases fs <;> rfl
def addF : List (Fin p) → List (Fin p) → List (Fin p)
  | f :: fs, g :: gs => (f + g) :: addF fs gs
  | [], gs => gs
  | fs, [] => fs
theorem lin_add : ∀ (vs : List (Vec p)) (fs gs : List (Fin p)), addV (lin fs vs) (lin gs vs) = lin (addF fs gs) vs
  | [], fs, gs => by
    rw [lin_nil', lin_nil', lin_nil', zero_add]
  | v :: vs, [], gs => by
    rw [lin_nil, zero_add]
    simp only [addF]
  | v :: vs, f :: fs, [] => by
    rw [lin_nil]
    simp only [addF]
    funext i
    show lin (f :: fs) (v :: vs) i + (0 : Fin p) = lin (f :: fs) (v :: vs) i
    grind
  | v :: vs, f :: fs, g :: gs => by
    have ih := lin_add vs fs gs
    simp only [addF, lin]
    rw [← ih]
    funext i
    show f * v i + lin fs vs i + (g * v i + lin gs vs i) = (f + g) * v i + (lin fs vs i + lin gs vs i)
    grind
theorem lin_mul (c : Fin p) : ∀ (vs : List (Vec p)) (fs : List (Fin p)), mulV c (lin fs vs) = lin (fs.map (c * ·)) vs
  | [], fs => by
    rw [lin_nil', lin_nil']
    funext i
    show c * (0 : Fin p) = 0
    grind
  | v :: vs, [] => by
    rw [List.map_nil, lin_nil]
    funext i
    show c * (0 : Fin p) = 0
    grind
  | v :: vs, f :: fs => by
    have ih := lin_mul c vs fs
    rw [List.map_cons]
    simp only [lin]
    rw [← ih]
    funext i
    show c * (f * v i + lin fs vs i) = c * f * v i + c * lin fs vs i
    grind
theorem spn_sub (vs : List (Vec p)) : Sub (Spn vs) where
  zero := ⟨[], (lin_nil vs).symm⟩
  add := by
    rintro x y ⟨fs, rfl⟩ ⟨gs, rfl⟩
    exact ⟨_, lin_add vs fs gs⟩
  mul := by
    rintro c x ⟨fs, rfl⟩
    exact ⟨_, lin_mul c vs fs⟩
theorem spn_tail {v : Vec p} {vs : List (Vec p)} {x : Vec p} (h : Spn vs x) : Spn (v :: vs) x := by
  obtain ⟨fs, rfl⟩ := h
  refine ⟨0 :: fs, ?_⟩
  funext i
  show lin fs vs i = 0 * v i + lin fs vs i
  grind
theorem spn_mem : ∀ {vs : List (Vec p)} {v : Vec p}, v ∈ vs → Spn vs v
  | w :: vs, v, h => by
    rcases List.mem_cons.mp h with rfl | h
    · refine ⟨[1], ?_⟩
      funext i
      show v i = 1 * v i + lin [] vs i
      rw [lin_nil]
      show v i = 1 * v i + (0 : Fin p)
      grind
    · exact spn_tail (spn_mem h)
theorem spn_le {S : Vec p → Prop} (hS : Sub S) : ∀ {vs : List (Vec p)}, (∀ v ∈ vs, S v) → ∀ {x}, Spn vs x → S x
  | [], _, x, ⟨fs, e⟩ => by
    rw [e, lin_nil']
    exact hS.zero
  | v :: vs, h, x, ⟨[], e⟩ => by
    rw [e, lin_nil]
    exact hS.zero
  | v :: vs, h, x, ⟨f :: fs, e⟩ => by
    rw [e]
    exact hS.add (hS.mul f (h v List.mem_cons_self)) (spn_le hS (fun w hw => h w (List.mem_cons_of_mem _ hw)) ⟨fs, rfl⟩)
theorem spn_sub_of {vs ws : List (Vec p)} (h : ∀ v ∈ vs, Spn ws v) {x : Vec p} (hx : Spn vs x) : Spn ws x := spn_le (spn_sub ws) h hx
theorem Sub.less {S : Vec p → Prop} (hS : Sub S) {x y : Vec p} (c : Fin p) (hx : S x) (hy : S y) : S (fun i => x i - c * y i) := by
  have h := hS.add hx (hS.mul (-c) hy)
  have e : addV x (mulV (-c) y) = fun i => x i - c * y i := by
    funext i
    show x i + -c * y i = x i - c * y i
    grind
  rw [e] at h
  exact h
/-! ### plain forms: pairs of a first place and a row -/
structure PF (n : Nat) (bs : List (Nat × Vec p)) : Prop where
  inc : bs.Pairwise (fun a b => a.1 < b.1)
  lt : ∀ b ∈ bs, b.1 < n
  one : ∀ b ∈ bs, b.2 b.1 = 1
  low : ∀ b ∈ bs, ∀ i, i < b.1 → b.2 i = 0
  off : ∀ b ∈ bs, ∀ c ∈ bs, b.1 ≠ c.1 → b.2 c.1 = 0
  wid : ∀ b ∈ bs, ∀ i, n ≤ i → b.2 i = 0
/-- the part of x that the rows tell by its rests at their first places -/
def red : List (Nat × Vec p) → Vec p → Vec p
  | [], _ => zeroV
  | b :: bs, x => addV (mulV (x b.1) b.2) (red bs x)
theorem red_add : ∀ (bs : List (Nat × Vec p)) (x y : Vec p), red bs (addV x y) = addV (red bs x) (red bs y)
  | [], x, y => by simp only [red]; rw [zero_add]
  | b :: bs, x, y => by
    simp only [red]
    rw [red_add bs x y]
    funext i
    show (x b.1 + y b.1) * b.2 i + (red bs x i + red bs y i) = x b.1 * b.2 i + red bs x i + (y b.1 * b.2 i + red bs y i)
    grind
theorem red_mul (c : Fin p) : ∀ (bs : List (Nat × Vec p)) (x : Vec p), red bs (mulV c x) = mulV c (red bs x)
  | [], x => by
    simp only [red]
    funext i
    show (0 : Fin p) = c * 0
    grind
  | b :: bs, x => by
    simp only [red]
    rw [red_mul c bs x]
    funext i
    show c * x b.1 * b.2 i + c * red bs x i = c * (x b.1 * b.2 i + red bs x i)
    grind
theorem red_zero (bs : List (Nat × Vec p)) : red bs zeroV = zeroV := by
  have h := red_mul (0 : Fin p) bs zeroV
  have e : mulV (0 : Fin p) (zeroV : Vec p) = zeroV := by
    funext i
    show (0 : Fin p) * 0 = 0
    grind
  rw [e] at h
  rw [h]
  funext i
  show (0 : Fin p) * red bs zeroV i = 0
  grind
theorem red_none : ∀ (l : List (Nat × Vec p)) (x : Vec p), (∀ b ∈ l, x b.1 = 0) → red l x = zeroV
  | [], _, _ => rfl
  | b :: l, x, h => by
    simp only [red]
    rw [red_none l x fun c hc => h c (List.mem_cons_of_mem _ hc), h b List.mem_cons_self]
    funext i
    show (0 : Fin p) * b.2 i + 0 = 0
    grind
theorem red_one : ∀ (l : List (Nat × Vec p)) (b : Nat × Vec p), b ∈ l → l.Pairwise (fun a c => a.1 < c.1) → b.2 b.1 = 1 → (∀ c ∈ l, b.1 ≠ c.1 → b.2 c.1 = 0) → red l b.2 = b.2
  | a :: l, b, hb, inc, h1, h0 => by
    have inc' := List.pairwise_cons.mp inc
    simp only [red]
    rcases List.mem_cons.mp hb with rfl | hb
    · rw [red_none l b.2 fun c hc => h0 c (List.mem_cons_of_mem _ hc) (Nat.ne_of_lt (inc'.1 c hc)), h1]
      funext i
      show (1 : Fin p) * b.2 i + 0 = b.2 i
      grind
    · rw [red_one l b hb inc'.2 h1 fun c hc => h0 c (List.mem_cons_of_mem _ hc), h0 a List.mem_cons_self (Nat.ne_of_gt (inc'.1 b hb))]
      funext i
      show (0 : Fin p) * a.2 i + b.2 i = b.2 i
      grind
/-- a row of the room is told by its rests at the first places -/
theorem PF.told {n : Nat} {bs : List (Nat × Vec p)} (h : PF n bs) {x : Vec p} (hx : Spn (bs.map (·.2)) x) : red bs x = x := by
  have hS : Sub (fun x : Vec p => red bs x = x) := by
    refine ⟨red_zero bs, fun {x y} hx hy => ?_, fun c {x} hx => ?_⟩
    · show red bs (addV x y) = addV x y
      rw [red_add, hx, hy]
    · show red bs (mulV c x) = mulV c x
      rw [red_mul, hx]
  refine spn_le hS (fun v hv => ?_) hx
  obtain ⟨b, hb, rfl⟩ := List.mem_map.mp hv
  exact red_one bs b hb h.inc (h.one b hb) fun c hc ne => h.off b hb c hc ne
theorem spn_red : ∀ (bs : List (Nat × Vec p)) (x : Vec p), Spn (bs.map (·.2)) (red bs x)
  | [], x => (spn_sub _).zero
  | b :: bs, x => (spn_sub _).add ((spn_sub _).mul _ (spn_mem (by simp))) (spn_tail (spn_red bs x))
/-- a first place of a row -/
def Lead (x : Vec p) (j : Nat) : Prop := x j ≠ 0 ∧ ∀ i, i < j → x i = 0
theorem red_low : ∀ (l : List (Nat × Vec p)) (x : Vec p) (j : Nat), (∀ i, i < j → x i = 0) → (∀ b ∈ l, b.1 ≠ j) → (∀ b ∈ l, ∀ i, i < b.1 → b.2 i = 0) → red l x j = 0
  | [], _, _, _, _, _ => rfl
  | b :: l, x, j, hx, hn, hl => by
    have ih := red_low l x j hx (fun c hc => hn c (List.mem_cons_of_mem _ hc)) fun c hc => hl c (List.mem_cons_of_mem _ hc)
    show x b.1 * b.2 j + red l x j = 0
    rw [ih]
    rcases Nat.lt_or_ge b.1 j with h | h
    · rw [hx b.1 h]
      grind
    · have h2 : j < b.1 := Nat.lt_of_le_of_ne h (Ne.symm (hn b List.mem_cons_self))
      rw [hl b List.mem_cons_self j h2]
      grind
theorem PF.lead {n : Nat} {bs : List (Nat × Vec p)} (h : PF n bs) {x : Vec p} {j : Nat} (hx : Spn (bs.map (·.2)) x) (hj : Lead x j) : ∃ b ∈ bs, b.1 = j := by
  apply Classical.byContradiction
  intro hn
  have e := h.told hx
  apply hj.1
  rw [← e]
  exact red_low bs x j hj.2 (fun b hb e => hn ⟨b, hb, e⟩) h.low
theorem PF.leads {n : Nat} {bs : List (Nat × Vec p)} (h : PF n bs) (h1 : (1 : Fin p) ≠ 0) {b : Nat × Vec p} (hb : b ∈ bs) : Lead b.2 b.1 := ⟨by rw [h.one b hb]; exact h1, h.low b hb⟩
theorem sorted_eq : ∀ {l m : List Nat}, l.Pairwise (· < ·) → m.Pairwise (· < ·) → (∀ x, x ∈ l ↔ x ∈ m) → l = m
  | [], [], _, _, _ => rfl
  | [], b :: m, _, _, h => by simpa using (h b).mpr List.mem_cons_self
  | a :: l, [], _, _, h => by simpa using (h a).mp List.mem_cons_self
  | a :: l, b :: m, hl, hm, h => by
    have hl' := List.pairwise_cons.mp hl
    have hm' := List.pairwise_cons.mp hm
    have e : a = b := by
      rcases List.mem_cons.mp ((h a).mp List.mem_cons_self) with e | e
      · exact e
      · rcases List.mem_cons.mp ((h b).mpr List.mem_cons_self) with e2 | e2
        · exact e2.symm
        · have := hm'.1 a e
          have := hl'.1 b e2
          omega
    subst e
    congr 1
    refine sorted_eq hl'.2 hm'.2 fun x => ⟨fun hx => ?_, fun hx => ?_⟩
    · rcases List.mem_cons.mp ((h x).mp (List.mem_cons_of_mem _ hx)) with e | e
      · have := hl'.1 x hx
        omega
      · exact e
    · rcases List.mem_cons.mp ((h x).mpr (List.mem_cons_of_mem _ hx)) with e | e
      · have := hm'.1 x hx
        omega
      · exact e
theorem pairs_eq : ∀ {bs cs : List (Nat × Vec p)}, bs.map (·.1) = cs.map (·.1) → (∀ b ∈ bs, ∀ c ∈ cs, b.1 = c.1 → b.2 = c.2) → bs = cs
  | [], [], _, _ => rfl
  | [], _ :: _, e, _ => by cases e
  | _ :: _, [], e, _ => by cases e
  | b :: bs, c :: cs, e, h => by
    rw [List.map_cons, List.map_cons] at e
    have e1 : b.1 = c.1 := (List.cons.inj e).1
    have e2 := h b List.mem_cons_self c List.mem_cons_self e1
    have e3 : b = c := by
      cases b
      cases c
      simp only at e1 e2
      rw [e1, e2]
    rw [e3, pairs_eq (List.cons.inj e).2 fun x hx y hy => h x (List.mem_cons_of_mem _ hx) y (List.mem_cons_of_mem _ hy)]
/-- each room has just one plain form -/
theorem PF.uniq {n m : Nat} {bs cs : List (Nat × Vec p)} (h1 : (1 : Fin p) ≠ 0) (hb : PF n bs) (hc : PF m cs) (h : ∀ x, Spn (bs.map (·.2)) x ↔ Spn (cs.map (·.2)) x) : bs = cs := by
  have inB : ∀ b ∈ bs, ∃ c ∈ cs, c.1 = b.1 := fun b m => hc.lead ((h _).mp (spn_mem (List.mem_map_of_mem m))) (hb.leads h1 m)
  have inC : ∀ c ∈ cs, ∃ b ∈ bs, b.1 = c.1 := fun c m => hb.lead ((h _).mpr (spn_mem (List.mem_map_of_mem m))) (hc.leads h1 m)
  have ef : bs.map (·.1) = cs.map (·.1) := by
    refine sorted_eq ?_ ?_ fun x => ⟨fun hx => ?_, fun hx => ?_⟩
    · exact List.pairwise_map.mpr hb.inc
    · exact List.pairwise_map.mpr hc.inc
    · obtain ⟨b, m, rfl⟩ := List.mem_map.mp hx
      obtain ⟨c, m', e⟩ := inB b m
      exact List.mem_map.mpr ⟨c, m', e⟩
    · obtain ⟨c, m, rfl⟩ := List.mem_map.mp hx
      obtain ⟨b, m', e⟩ := inC c m
      exact List.mem_map.mpr ⟨b, m', e⟩
  refine pairs_eq ef fun b mb c mc e => ?_
  have hx : Spn (cs.map (·.2)) b.2 := (h _).mp (spn_mem (List.mem_map_of_mem mb))
  have t := hc.told hx
  rw [← t]
  -- b's rests at the first places of cs are those of c
  have key : ∀ l : List (Nat × Vec p), (∀ d ∈ l, b.2 d.1 = c.2 d.1) → red l b.2 = red l c.2 := by
    intro l
    induction l with
    | nil => intro _; rfl
    | cons d l ih =>
      intro hd
      simp only [red]
      rw [hd d List.mem_cons_self, ih fun x hx => hd x (List.mem_cons_of_mem _ hx)]
  rw [key cs fun d md => ?_]
  · exact red_one cs c mc hc.inc (hc.one c mc) fun d md ne => hc.off c mc d md ne
  · by_cases ne : b.1 = d.1
    · rw [← ne, hb.one b mb, e, hc.one c mc]
    · obtain ⟨b', mb', e'⟩ := inC d md
      rw [← e', hb.off b mb b' mb' (by rw [e']; exact ne), e', hc.off c mc d md (by rw [← e]; exact ne)]
theorem red_at : ∀ (l : List (Nat × Vec p)) (x : Vec p) (c : Nat × Vec p), c ∈ l → l.Pairwise (fun a b => a.1 < b.1) → c.2 c.1 = 1 → (∀ b ∈ l, b.1 ≠ c.1 → b.2 c.1 = 0) → red l x c.1 = x c.1
  | a :: l, x, c, hc, inc, h1, h0 => by
    have inc' := List.pairwise_cons.mp inc
    show x a.1 * a.2 c.1 + red l x c.1 = x c.1
    rcases List.mem_cons.mp hc with rfl | hc
    · have z : ∀ m : List (Nat × Vec p), (∀ b ∈ m, b.2 c.1 = 0) → red m x c.1 = 0 := by
        intro m
        induction m with
        | nil => intro _; rfl
        | cons b m ih =>
          intro hm
          show x b.1 * b.2 c.1 + red m x c.1 = 0
          rw [hm b List.mem_cons_self, ih fun y hy => hm y (List.mem_cons_of_mem _ hy)]
          grind
      rw [z l fun b hb => h0 b (List.mem_cons_of_mem _ hb) (Nat.ne_of_gt (inc'.1 b hb)), h1]
      grind
    · rw [red_at l x c hc inc'.2 h1 fun b hb => h0 b (List.mem_cons_of_mem _ hb), h0 a List.mem_cons_self (Nat.ne_of_lt (inc'.1 c hc))]
      grind
theorem PF.at {n : Nat} {bs : List (Nat × Vec p)} (h : PF n bs) (x : Vec p) {c : Nat × Vec p} (hc : c ∈ bs) : red bs x c.1 = x c.1 :=
  red_at bs x c hc h.inc (h.one c hc) fun b hb ne => h.off b hb c hc ne
theorem sorted_len : ∀ {l m : List Nat}, l.Pairwise (· < ·) → m.Pairwise (· < ·) → (∀ x ∈ l, x ∈ m) → l.length ≤ m.length ∧ (m.length ≤ l.length → ∀ x ∈ m, x ∈ l)
  | [], m, _, _, _ => ⟨Nat.zero_le _, fun h x hx => by
      cases m with
      | nil => exact hx
      | cons a b => simp at h⟩
  | a :: l, [], _, _, h => by simpa using h a List.mem_cons_self
  | a :: l, b :: m, hl, hm, h => by
    have hl' := List.pairwise_cons.mp hl
    have hm' := List.pairwise_cons.mp hm
    by_cases e : a = b
    · subst e
      have ih := sorted_len hl'.2 hm'.2 fun x hx => by
        rcases List.mem_cons.mp (h x (List.mem_cons_of_mem _ hx)) with e | e
        · have := hl'.1 x hx
          omega
        · exact e
      refine ⟨by simpa using ih.1, fun hle x hx => ?_⟩
      rcases List.mem_cons.mp hx with rfl | hx
      · exact List.mem_cons_self
      · exact List.mem_cons_of_mem _ (ih.2 (by simpa using hle) x hx)
    · have ha : a ∈ m := by
        rcases List.mem_cons.mp (h a List.mem_cons_self) with z | z
        · exact absurd z e
        · exact z
      have ih := sorted_len (l := a :: l) hl hm'.2 fun x hx => by
        rcases List.mem_cons.mp (h x hx) with z | z
        · rcases List.mem_cons.mp hx with y | y
          · omega
          · have := hl'.1 x y
            have := hm'.1 a ha
            omega
        · exact z
      refine ⟨Nat.le_succ_of_le ih.1, fun hle => ?_⟩
      have := ih.1
      simp only [List.length_cons] at this hle
      omega
theorem PF.firsts_sub {n m : Nat} {bs cs : List (Nat × Vec p)} (hb : PF n bs) (hc : PF m cs) (h1 : (1 : Fin p) ≠ 0) (h : ∀ x, Spn (bs.map (·.2)) x → Spn (cs.map (·.2)) x) : ∀ j ∈ bs.map (·.1), j ∈ cs.map (·.1) := by
  intro j hj
  obtain ⟨b, mb, rfl⟩ := List.mem_map.mp hj
  obtain ⟨c, mc, e⟩ := hc.lead (h _ (spn_mem (List.mem_map_of_mem mb))) (hb.leads h1 mb)
  exact List.mem_map.mpr ⟨c, mc, e⟩
theorem PF.len_le {n m : Nat} {bs cs : List (Nat × Vec p)} (hb : PF n bs) (hc : PF m cs) (h1 : (1 : Fin p) ≠ 0) (h : ∀ x, Spn (bs.map (·.2)) x → Spn (cs.map (·.2)) x) : bs.length ≤ cs.length := by
  have := (sorted_len (List.pairwise_map.mpr hb.inc) (List.pairwise_map.mpr hc.inc) (hb.firsts_sub hc h1 h)).1
  rw [List.length_map, List.length_map] at this
  exact this
/-- one room within another, with as many first places: the same -/
theorem PF.same_of_len {n m : Nat} {bs cs : List (Nat × Vec p)} (hb : PF n bs) (hc : PF m cs) (h1 : (1 : Fin p) ≠ 0) (h : ∀ x, Spn (bs.map (·.2)) x → Spn (cs.map (·.2)) x) (hl : cs.length ≤ bs.length) {x : Vec p} (hx : Spn (cs.map (·.2)) x) : Spn (bs.map (·.2)) x := by
  have back := (sorted_len (List.pairwise_map.mpr hb.inc) (List.pairwise_map.mpr hc.inc) (hb.firsts_sub hc h1 h)).2 (by rw [List.length_map, List.length_map]; exact hl)
  have hy : Spn (cs.map (·.2)) (fun i => x i - 1 * red bs x i) := (spn_sub _).less 1 hx (h _ (spn_red bs x))
  have t := hc.told hy
  have z : red cs (fun i => x i - 1 * red bs x i) = zeroV := red_none cs _ fun c mc => by
    obtain ⟨b, mb, e⟩ := List.mem_map.mp (back c.1 (List.mem_map_of_mem mc))
    have := hb.at x mb
    show x c.1 - 1 * red bs x c.1 = 0
    rw [← e, this]
    grind
  rw [z] at t
  have e : x = red bs x := by
    funext i
    have := congrFun t i
    have this : (0 : Fin p) = x i - 1 * red bs x i := this
    grind
  rw [e]
  exact spn_red bs x
/-! ### taking off, place by place -/
variable (inv : Fin p → Fin p)
def lessV (x own : Vec p) (j : Nat) : Vec p := fun i => x i - x j * own i
def ownV (a : Vec p) (j : Nat) : Vec p := mulV (inv (a j)) a
def stepV (st : List (Vec p) × List (Nat × Vec p)) (k : Nat) : List (Vec p) × List (Nat × Vec p) :=
  match st.1.filter (fun x => decide (x k ≠ 0)) with
  | [] => st
  | a :: _ => (st.1.map fun x => lessV x (ownV inv a k) k, (st.2.map fun b => (b.1, lessV b.2 (ownV inv a k) k)) ++ [(k, ownV inv a k)])
def plainV (n : Nat) (vs : List (Vec p)) : List (Nat × Vec p) := ((List.range n).foldl (stepV inv) (vs, [])).2
structure StepOk (n k : Nat) (vs : List (Vec p)) (st : List (Vec p) × List (Nat × Vec p)) : Prop where
  low : ∀ x ∈ st.1, ∀ i, i < k → x i = 0
  wid : ∀ x ∈ st.1, ∀ i, n ≤ i → x i = 0
  pf : PF n st.2
  below : ∀ b ∈ st.2, b.1 < k
  to : ∀ x, Spn (st.1 ++ st.2.map (·.2)) x → Spn vs x
  from_ : ∀ x, Spn vs x → Spn (st.1 ++ st.2.map (·.2)) x
theorem filter_head {α : Type} {q : α → Bool} {l : List α} {a : α} {r : List α} (h : l.filter q = a :: r) : a ∈ l ∧ q a = true := by
  have : a ∈ l.filter q := by rw [h]; exact List.mem_cons_self
  exact List.mem_filter.mp this
theorem step_ok {n k : Nat} {vs : List (Vec p)} {st : List (Vec p) × List (Nat × Vec p)} (hinv : ∀ a : Fin p, a ≠ 0 → inv a * a = 1) (hk : k < n) (h : StepOk n k vs st) : StepOk n (k + 1) vs (stepV inv st k) := by
  unfold stepV
  split
  · rename_i hf
    refine ⟨fun x hx i hi => ?_, h.wid, h.pf, fun b hb => Nat.lt_succ_of_lt (h.below b hb), h.to, h.from_⟩
    by_cases e : i = k
    · subst e
      apply Classical.byContradiction
      intro hne
      have : x ∈ st.1.filter (fun x => decide (x i ≠ 0)) := List.mem_filter.mpr ⟨hx, decide_eq_true hne⟩
      rw [hf] at this
      cases this
    · exact h.low x hx i (by omega)
  · rename_i a r hf
    obtain ⟨ha, hq⟩ := filter_head hf
    have hak : a k ≠ 0 := of_decide_eq_true hq
    have ok1 : ownV inv a k k = 1 := hinv _ hak
    have okl : ∀ i, i < k → ownV inv a k i = 0 := fun i hi => by
      show inv (a k) * a i = 0
      rw [h.low a ha i hi]
      grind
    have okw : ∀ i, n ≤ i → ownV inv a k i = 0 := fun i hi => by
      show inv (a k) * a i = 0
      rw [h.wid a ha i hi]
      grind
    have less_k : ∀ x : Vec p, lessV x (ownV inv a k) k k = 0 := fun x => by
      show x k - x k * ownV inv a k k = 0
      rw [ok1]
      grind
    have less_lt : ∀ (x : Vec p) i, i < k → lessV x (ownV inv a k) k i = x i := fun x i hi => by
      show x i - x k * ownV inv a k i = x i
      rw [okl i hi]
      grind
    have less_w : ∀ (x : Vec p) i, n ≤ i → x i = 0 → lessV x (ownV inv a k) k i = 0 := fun x i hi hx => by
      show x i - x k * ownV inv a k i = 0
      rw [okw i hi, hx]
      grind
    have own_in : Spn (st.1 ++ st.2.map (·.2)) (ownV inv a k) := (spn_sub _).mul _ (spn_mem (List.mem_append_left _ ha))
    generalize ownV inv a k = own at *
    refine ⟨?_, ?_, ⟨?_, ?_, ?_, ?_, ?_, ?_⟩, ?_, ?_, ?_⟩
    · intro x hx i hi
      obtain ⟨y, my, rfl⟩ := List.mem_map.mp hx
      by_cases e : i = k
      · subst e
        exact less_k y
      · rw [less_lt y i (by omega)]
        exact h.low y my i (by omega)
    · intro x hx i hi
      obtain ⟨y, my, rfl⟩ := List.mem_map.mp hx
      exact less_w y i hi (h.wid y my i hi)
    · refine List.pairwise_append.mpr ⟨?_, List.pairwise_singleton _ _, fun b hb c hc => ?_⟩
      · exact List.pairwise_map.mpr h.pf.inc
      · obtain ⟨b', mb, rfl⟩ := List.mem_map.mp hb
        have : c = (k, own) := by simpa using hc
        subst this
        exact h.below b' mb
    · intro b hb
      rcases List.mem_append.mp hb with hb | hb
      · obtain ⟨b', mb, rfl⟩ := List.mem_map.mp hb
        exact h.pf.lt b' mb
      · have : b = (k, own) := by simpa using hb
        subst this
        exact hk
    · intro b hb
      rcases List.mem_append.mp hb with hb | hb
      · obtain ⟨b', mb, rfl⟩ := List.mem_map.mp hb
        show lessV b'.2 own k b'.1 = 1
        rw [less_lt _ _ (h.below b' mb)]
        exact h.pf.one b' mb
      · have : b = (k, own) := by simpa using hb
        subst this
        exact ok1
    · intro b hb i hi
      rcases List.mem_append.mp hb with hb | hb
      · obtain ⟨b', mb, rfl⟩ := List.mem_map.mp hb
        have hi : i < b'.1 := hi
        show lessV b'.2 own k i = 0
        rw [less_lt _ _ (Nat.lt_trans hi (h.below b' mb))]
        exact h.pf.low b' mb i hi
      · have : b = (k, own) := by simpa using hb
        subst this
        exact okl i hi
    · intro b hb c hc ne
      rcases List.mem_append.mp hb with hb | hb
      · obtain ⟨b', mb, rfl⟩ := List.mem_map.mp hb
        rcases List.mem_append.mp hc with hc | hc
        · obtain ⟨c', mc, rfl⟩ := List.mem_map.mp hc
          show lessV b'.2 own k c'.1 = 0
          rw [less_lt _ _ (h.below c' mc)]
          exact h.pf.off b' mb c' mc ne
        · have : c = (k, own) := by simpa using hc
          subst this
          exact less_k b'.2
      · have : b = (k, own) := by simpa using hb
        subst this
        rcases List.mem_append.mp hc with hc | hc
        · obtain ⟨c', mc, rfl⟩ := List.mem_map.mp hc
          exact okl c'.1 (h.below c' mc)
        · have : c = (k, own) := by simpa using hc
          subst this
          exact absurd rfl ne
    · intro b hb i hi
      rcases List.mem_append.mp hb with hb | hb
      · obtain ⟨b', mb, rfl⟩ := List.mem_map.mp hb
        exact less_w b'.2 i hi (h.pf.wid b' mb i hi)
      · have : b = (k, own) := by simpa using hb
        subst this
        exact okw i hi
    · intro b hb
      rcases List.mem_append.mp hb with hb | hb
      · obtain ⟨b', mb, rfl⟩ := List.mem_map.mp hb
        exact Nat.lt_succ_of_lt (h.below b' mb)
      · have : b = (k, own) := by simpa using hb
        subst this
        exact Nat.lt_succ_self k
    · intro x hx
      refine h.to x (spn_sub_of (fun v hv => ?_) hx)
      rcases List.mem_append.mp hv with hv | hv
      · obtain ⟨y, my, rfl⟩ := List.mem_map.mp hv
        exact (spn_sub _).less (y k) (spn_mem (List.mem_append_left _ my)) own_in
      · obtain ⟨b, mb, rfl⟩ := List.mem_map.mp hv
        rcases List.mem_append.mp mb with mb | mb
        · obtain ⟨b', mb', rfl⟩ := List.mem_map.mp mb
          exact (spn_sub _).less (b'.2 k) (spn_mem (List.mem_append_right _ (List.mem_map_of_mem mb'))) own_in
        · have : b = (k, own) := by simpa using mb
          subst this
          exact own_in
    · intro x hx
      have own_in' : Spn (st.1.map (fun x => lessV x own k) ++ ((st.2.map fun b => (b.1, lessV b.2 own k)) ++ [(k, own)]).map (·.2)) own := spn_mem (by simp)
      have back : ∀ y : Vec p, Spn (st.1.map (fun x => lessV x own k) ++ ((st.2.map fun b => (b.1, lessV b.2 own k)) ++ [(k, own)]).map (·.2)) (lessV y own k) → Spn (st.1.map (fun x => lessV x own k) ++ ((st.2.map fun b => (b.1, lessV b.2 own k)) ++ [(k, own)]).map (·.2)) y := by
        intro y hy
        have := (spn_sub _).add hy ((spn_sub _).mul (y k) own_in')
        have e : addV (lessV y own k) (mulV (y k) own) = y := by
          funext i
          show y i - y k * own i + y k * own i = y i
          grind
        rw [e] at this
        exact this
      refine spn_sub_of (fun v hv => ?_) (h.from_ x hx)
      rcases List.mem_append.mp hv with hv | hv
      · exact back v (spn_mem (List.mem_append_left _ (List.mem_map_of_mem hv)))
      · obtain ⟨b, mb, rfl⟩ := List.mem_map.mp hv
        refine back b.2 (spn_mem (List.mem_append_right _ ?_))
        refine List.mem_map.mpr ⟨(b.1, lessV b.2 own k), List.mem_append_left _ (List.mem_map.mpr ⟨b, mb, rfl⟩), rfl⟩
theorem steps_ok {n : Nat} {vs : List (Vec p)} (hinv : ∀ a : Fin p, a ≠ 0 → inv a * a = 1) (hw : ∀ x ∈ vs, ∀ i, n ≤ i → x i = 0) : ∀ k, k ≤ n → StepOk n k vs ((List.range k).foldl (stepV inv) (vs, []))
  | 0, _ => by
    refine ⟨fun x _ i hi => absurd hi (Nat.not_lt_zero i), hw, ⟨.nil, fun b h => (nomatch h), fun b h => (nomatch h), fun b h => (nomatch h), fun b h => (nomatch h), fun b h => (nomatch h)⟩, fun b h => (nomatch h), fun x hx => ?_, fun x hx => ?_⟩
    · simpa using hx
    · simpa using hx
  | k + 1, hk => by
    rw [List.range_succ, List.foldl_append]
    exact step_ok inv hinv (by omega) (steps_ok hinv hw k (by omega))
/-- taking off, place by place, tells the plain form of what the rows make -/
theorem plainV_pf {n : Nat} {vs : List (Vec p)} (hinv : ∀ a : Fin p, a ≠ 0 → inv a * a = 1) (hw : ∀ x ∈ vs, ∀ i, n ≤ i → x i = 0) : PF n (plainV inv n vs) := (steps_ok inv hinv hw n (Nat.le_refl n)).pf
theorem plainV_spn {n : Nat} {vs : List (Vec p)} (hinv : ∀ a : Fin p, a ≠ 0 → inv a * a = 1) (hw : ∀ x ∈ vs, ∀ i, n ≤ i → x i = 0) (x : Vec p) : Spn ((plainV inv n vs).map (·.2)) x ↔ Spn vs x := by
  have h := steps_ok inv hinv hw n (Nat.le_refl n)
  constructor
  · intro hx
    refine h.to x (spn_sub_of (fun v hv => spn_mem (List.mem_append_right _ hv)) hx)
  · intro hx
    refine spn_sub_of (fun v hv => ?_) (h.from_ x hx)
    rcases List.mem_append.mp hv with hv | hv
    · have e : v = zeroV := by
        funext i
        rcases Nat.lt_or_ge i n with hi | hi
        · exact h.low v hv i hi
        · exact h.wid v hv i hi
      rw [e]
      exact (spn_sub _).zero
    · exact spn_mem hv
theorem spn_append {vs ws : List (Vec p)} {S : Vec p → Prop} (hS : Sub S) (h1 : ∀ x, Spn vs x → S x) (h2 : ∀ x, Spn ws x → S x) (x : Vec p) (hx : Spn (vs ++ ws) x) : S x :=
  spn_le hS (fun v hv => (List.mem_append.mp hv).elim (fun h => h1 v (spn_mem h)) fun h => h2 v (spn_mem h)) hx
theorem spn_left {vs ws : List (Vec p)} {x : Vec p} (h : Spn vs x) : Spn (vs ++ ws) x := spn_sub_of (fun v hv => spn_mem (List.mem_append_left _ hv)) h
theorem spn_right {vs ws : List (Vec p)} {x : Vec p} (h : Spn ws x) : Spn (vs ++ ws) x := spn_sub_of (fun v hv => spn_mem (List.mem_append_right _ hv)) h
/-- a row more: as many rows as before just where it is made by them -/
theorem plainV_has {n : Nat} {vs : List (Vec p)} {v : Vec p} (h1 : (1 : Fin p) ≠ 0) (hinv : ∀ a : Fin p, a ≠ 0 → inv a * a = 1) (hw : ∀ x ∈ vs, ∀ i, n ≤ i → x i = 0) (hv : ∀ i, n ≤ i → v i = 0) :
    (plainV inv n (vs ++ [v])).length = (plainV inv n vs).length ↔ Spn vs v := by
  have hw' : ∀ x ∈ vs ++ [v], ∀ i, n ≤ i → x i = 0 := fun x hx => by
    rcases List.mem_append.mp hx with h | h
    · exact hw x h
    · have : x = v := by simpa using h
      rw [this]
      exact hv
  have A := plainV_pf inv hinv hw
  have B := plainV_pf inv hinv hw'
  have sa := plainV_spn inv hinv hw
  have sb := plainV_spn inv hinv hw'
  constructor
  · intro e
    have := A.same_of_len B h1 (fun x hx => (sb x).mpr (spn_left ((sa x).mp hx))) (Nat.le_of_eq e) ((sb v).mpr (spn_right (spn_mem (by simp))))
    exact (sa v).mp this
  · intro hs
    have same : ∀ x, Spn (vs ++ [v]) x ↔ Spn vs x := fun x => ⟨fun hx => spn_append (spn_sub vs) (fun _ h => h) (fun y hy => spn_sub_of (fun z hz => by
      have : z = v := by simpa using hz
      rw [this]
      exact hs) hy) x hx, spn_left⟩
    rw [B.uniq h1 A fun x => (sb x).trans ((same x).trans (sa x).symm)]
theorem plainV_len_le {n : Nat} {vs ws : List (Vec p)} (h1 : (1 : Fin p) ≠ 0) (hinv : ∀ a : Fin p, a ≠ 0 → inv a * a = 1) (hv : ∀ x ∈ vs, ∀ i, n ≤ i → x i = 0) (hw : ∀ x ∈ ws, ∀ i, n ≤ i → x i = 0) (h : ∀ x, Spn vs x → Spn ws x) : (plainV inv n vs).length ≤ (plainV inv n ws).length :=
  (plainV_pf inv hinv hv).len_le (plainV_pf inv hinv hw) h1 fun x hx => (plainV_spn inv hinv hw x).mpr (h x ((plainV_spn inv hinv hv x).mp hx))
end
end Lin
/-! rows of ints mod p as vectors; the law's own taking off -/
namespace OC
set_option linter.all false
open Lin
def ctr (p a : Int) : Int := (((List.range p.toNat).map fun (b : Nat) => (b : Int)).filter fun b => decide (a * b % p = 1)).headD 0
def lessR (p : Int) (x y : List Int) (j : Nat) : List Int := List.zipWith (fun r m => (r - x.getD j 0 * m) % p) x y
def ownR (p : Int) (a : List Int) (j : Nat) : List Int := a.map fun r => ctr p (a.getD j 0) * r % p
def stepR (p : Int) (st : List (List Int) × List (List Int)) (k : Nat) : List (List Int) × List (List Int) :=
  match st.1.filter (fun r => decide (r.getD k 0 ≠ 0)) with
  | [] => st
  | a :: _ => (st.1.map fun r => lessR p r (ownR p a k) k, (st.2.map fun r => lessR p r (ownR p a k) k) ++ [ownR p a k])
def plainR (p : Int) (n : Nat) (rows : List (List Int)) : List (List Int) := ((List.range n).foldl (stepR p) (rows, [])).2
/-- each rest but 0 has a contrary one -/
def Fld (p : Int) : Prop := 2 ≤ p ∧ ∀ a : Int, 1 ≤ a → a < p → ∃ b : Int, 1 ≤ b ∧ b < p ∧ a * b % p = 1
theorem ctr_ok {p a : Int} (h : Fld p) (h0 : 1 ≤ a) (h1 : a < p) : 0 ≤ ctr p a ∧ ctr p a < p ∧ a * ctr p a % p = 1 := by
  obtain ⟨b, b1, b2, b3⟩ := h.2 a h0 h1
  unfold ctr
  generalize hl : ((List.range p.toNat).map fun (b : Nat) => (b : Int)).filter (fun b => decide (a * b % p = 1)) = l
  have mem : ∀ x ∈ l, 0 ≤ x ∧ x < p ∧ a * x % p = 1 := by
    intro x hx
    rw [← hl] at hx
    obtain ⟨hx, hq⟩ := List.mem_filter.mp hx
    obtain ⟨i, hi, rfl⟩ := List.mem_map.mp hx
    have := List.mem_range.mp hi
    exact ⟨by omega, by omega, of_decide_eq_true hq⟩
  cases l with
  | nil =>
    have : b ∈ ((List.range p.toNat).map fun (b : Nat) => (b : Int)).filter (fun b => decide (a * b % p = 1)) := List.mem_filter.mpr ⟨List.mem_map.mpr ⟨b.toNat, List.mem_range.mpr (by omega), by omega⟩, decide_eq_true b3⟩
    rw [hl] at this
    cases this
  | cons x r => exact mem x List.mem_cons_self
theorem gd_lt {r : List Int} {i : Nat} (h : i < r.length) : r.getD i 0 = r[i] := by
  rw [List.getD_eq_getElem?_getD, List.getElem?_eq_getElem h]
  rfl
theorem gd_ge {r : List Int} {i : Nat} (h : r.length ≤ i) : r.getD i 0 = 0 := by
  rw [List.getD_eq_getElem?_getD, List.getElem?_eq_none h]
  rfl
section
variable {q : Nat} [NeZero q]
theorem q_pos : (0 : Int) < q := by
  have := Nat.pos_of_ne_zero (NeZero.ne q)
  omega
def cF (x : Int) : Fin q := ⟨(x % q).toNat, by
  have h1 := Int.emod_lt_of_pos x (q_pos (q := q))
  have h2 := Int.emod_nonneg x (show (q : Int) ≠ 0 by have := q_pos (q := q); omega)
  omega⟩
theorem cF_val (x : Int) : ((cF (q := q) x).val : Int) = x % q := by
  show (((x % q).toNat : Nat) : Int) = x % q
  exact Int.toNat_of_nonneg (Int.emod_nonneg x (by have := q_pos (q := q); omega))
theorem fin_ext_int {a b : Fin q} (h : (a.val : Int) = (b.val : Int)) : a = b := Fin.ext (by omega)
theorem cF_add (x y : Int) : cF (q := q) (x + y) = cF x + cF y := by
  apply fin_ext_int
  rw [cF_val, Fin.val_add, Int.natCast_emod, Int.natCast_add, cF_val, cF_val, ← Int.add_emod]
theorem cF_mul (x y : Int) : cF (q := q) (x * y) = cF x * cF y := by
  apply fin_ext_int
  rw [cF_val, Fin.val_mul, Int.natCast_emod, Int.natCast_mul, cF_val, cF_val, ← Int.mul_emod]
theorem cF_mod (x : Int) : cF (q := q) (x % q) = cF x := by
  apply fin_ext_int
  rw [cF_val, cF_val, Int.emod_emod]
theorem cF_zero : cF (q := q) 0 = 0 := by
  have h := cF_add (q := q) 0 0
  rw [Int.add_zero] at h
  grind
theorem cF_sub (x y : Int) : cF (q := q) (x - y) = cF x - cF y := by
  have h := cF_add (q := q) (x - y) y
  rw [Int.sub_add_cancel] at h
  grind
theorem cF_inj {x y : Int} (hx : 0 ≤ x ∧ x < q) (hy : 0 ≤ y ∧ y < q) (h : cF (q := q) x = cF y) : x = y := by
  have h1 := congrArg (fun a : Fin q => (a.val : Int)) h
  simp only [cF_val] at h1
  rw [Int.emod_eq_of_lt hx.1 hx.2, Int.emod_eq_of_lt hy.1 hy.2] at h1
  exact h1
theorem cF_ne {x : Int} (hx : 0 ≤ x ∧ x < q) : cF (q := q) x ≠ 0 ↔ x ≠ 0 := by
  constructor
  · intro h e
    rw [e] at h
    exact h cF_zero
  · intro h e
    rw [← cF_zero] at e
    exact h (cF_inj hx ⟨by omega, by omega⟩ e)
theorem cF_one (h : 2 ≤ q) : cF (q := q) 1 = 1 := by
  apply fin_ext_int
  rw [cF_val, Int.emod_eq_of_lt (by omega) (by omega)]
  have : (1 : Fin q).val = 1 % q := rfl
  rw [this, Nat.mod_eq_of_lt (by omega)]
  rfl
theorem one_ne (h : 2 ≤ q) : (1 : Fin q) ≠ 0 := by
  rw [← cF_one h]
  exact (cF_ne ⟨by omega, by omega⟩).mpr (by omega)
/-- a row as a vector -/
def toV (r : List Int) : Vec q := fun i => cF (r.getD i 0)
def RowsOk (p : Int) (n : Nat) (rows : List (List Int)) : Prop := ∀ r ∈ rows, r.length = n ∧ ∀ x ∈ r, 0 ≤ x ∧ x < p
def invF (f : Fin q) : Fin q := cF (ctr q (f.val : Int))
theorem invF_ok (h : Fld (q : Int)) : ∀ a : Fin q, a ≠ 0 → invF a * a = 1 := by
  intro a ha
  have hv : 1 ≤ (a.val : Int) := by
    have : a.val ≠ 0 := fun e => ha (Fin.ext (by rw [e]; rfl))
    omega
  obtain ⟨_, _, h3⟩ := ctr_ok h hv (by have := a.isLt; omega)
  have e : a = cF (q := q) (a.val : Int) := by
    apply fin_ext_int
    rw [cF_val, Int.emod_eq_of_lt (by omega) (by have := a.isLt; omega)]
  have h2 : (2 : Int) ≤ q := h.1
  show cF (ctr q (a.val : Int)) * a = 1
  rw [show cF (q := q) (ctr q (a.val : Int)) * a = cF (ctr q (a.val : Int)) * cF (a.val : Int) by rw [← e], ← cF_mul, ← cF_mod, Int.mul_comm, h3, cF_one (by omega)]
theorem getD_lt {r : List Int} {p : Int} (hp : 0 < p) (h : ∀ x ∈ r, 0 ≤ x ∧ x < p) (i : Nat) : 0 ≤ r.getD i 0 ∧ r.getD i 0 < p := by
  by_cases hi : i < r.length
  · rw [gd_lt hi]
    exact h _ (List.getElem_mem hi)
  · rw [gd_ge (by omega)]
    omega
theorem toV_wid {r : List Int} {n : Nat} (h : r.length = n) (i : Nat) (hi : n ≤ i) : toV (q := q) r i = 0 := by
  show cF (r.getD i 0) = 0
  rw [gd_ge (by omega), cF_zero]
theorem toV_inj {x y : List Int} (hl : x.length = y.length) (hx : ∀ v ∈ x, 0 ≤ v ∧ v < (q : Int)) (hy : ∀ v ∈ y, 0 ≤ v ∧ v < (q : Int)) (h : toV (q := q) x = toV y) : x = y := by
  apply List.ext_getElem hl
  intro i h1 h2
  have e := congrFun h i
  have e : cF (q := q) (x.getD i 0) = cF (y.getD i 0) := e
  rw [gd_lt h1, gd_lt h2] at e
  exact cF_inj (hx _ (List.getElem_mem h1)) (hy _ (List.getElem_mem h2)) e
theorem getD_zipWith (f : Int → Int → Int) {x y : List Int} (h : x.length = y.length) {i : Nat} (hi : i < x.length) : (List.zipWith f x y).getD i 0 = f (x.getD i 0) (y.getD i 0) := by
  rw [gd_lt (by rw [List.length_zipWith]; omega), List.getElem_zipWith, gd_lt hi, gd_lt (by omega)]
theorem toV_less {x y : List Int} (h : x.length = y.length) (j : Nat) : toV (q := q) (lessR q x y j) = lessV (toV x) (toV y) j := by
  funext i
  show cF ((lessR q x y j).getD i 0) = cF (x.getD i 0) - cF (x.getD j 0) * cF (y.getD i 0)
  by_cases hi : i < x.length
  · unfold lessR
    rw [getD_zipWith _ h hi, cF_mod, cF_sub, cF_mul]
  · rw [gd_ge (by unfold lessR; rw [List.length_zipWith]; omega), gd_ge (r := x) (by omega), gd_ge (r := y) (by omega), cF_zero]
    grind
theorem toV_own {a : List Int} (ha : ∀ v ∈ a, 0 ≤ v ∧ v < (q : Int)) (j : Nat) : toV (q := q) (ownR q a j) = ownV invF (toV a) j := by
  funext i
  have hj := getD_lt q_pos ha j
  have ev : ((cF (q := q) (a.getD j 0)).val : Int) = a.getD j 0 := by rw [cF_val, Int.emod_eq_of_lt hj.1 hj.2]
  show cF ((ownR q a j).getD i 0) = cF (ctr q ((cF (q := q) (a.getD j 0)).val : Int)) * cF (a.getD i 0)
  rw [ev]
  by_cases hi : i < a.length
  · unfold ownR
    rw [gd_lt (by rw [List.length_map]; exact hi), List.getElem_map, cF_mod, cF_mul, gd_lt (r := a) hi]
  · rw [gd_ge (by unfold ownR; rw [List.length_map]; omega), gd_ge (r := a) (i := i) (by omega), cF_zero]
    grind
theorem less_row {p : Int} (hp : 0 < p) {x y : List Int} {n : Nat} (hx : x.length = n) (hy : y.length = n) (j : Nat) : (lessR p x y j).length = n ∧ ∀ v ∈ lessR p x y j, 0 ≤ v ∧ v < p := by
  refine ⟨by unfold lessR; rw [List.length_zipWith]; omega, fun v hv => ?_⟩
  unfold lessR at hv
  rw [List.mem_iff_getElem?] at hv
  obtain ⟨i, hi⟩ := hv
  rw [List.getElem?_zipWith] at hi
  split at hi
  · cases Option.some.inj hi
    exact ⟨Int.emod_nonneg _ (by omega), Int.emod_lt_of_pos _ hp⟩
  · cases hi
theorem own_row {p : Int} (hp : 0 < p) {a : List Int} {n : Nat} (ha : a.length = n) (j : Nat) : (ownR p a j).length = n ∧ ∀ v ∈ ownR p a j, 0 ≤ v ∧ v < p := by
  refine ⟨by unfold ownR; rw [List.length_map]; exact ha, fun v hv => ?_⟩
  unfold ownR at hv
  obtain ⟨r, _, rfl⟩ := List.mem_map.mp hv
  exact ⟨Int.emod_nonneg _ (by omega), Int.emod_lt_of_pos _ hp⟩
theorem step_rows {p : Int} (hp : 0 < p) {n : Nat} {st : List (List Int) × List (List Int)} (h1 : RowsOk p n st.1) (h2 : RowsOk p n st.2) (k : Nat) : RowsOk p n (stepR p st k).1 ∧ RowsOk p n (stepR p st k).2 ∧ (stepR p st k).1.length = st.1.length ∧ (stepR p st k).2.length ≤ st.2.length + 1 := by
  unfold stepR
  split
  · exact ⟨h1, h2, rfl, by omega⟩
  · rename_i a r hf
    obtain ⟨ha, _⟩ := filter_head hf
    have ho := own_row hp (h1 a ha).1 k
    refine ⟨fun x hx => ?_, fun x hx => ?_, by rw [List.length_map], by rw [List.length_append, List.length_map]; simp⟩
    · obtain ⟨y, my, rfl⟩ := List.mem_map.mp hx
      exact less_row hp (h1 y my).1 ho.1 k
    · rcases List.mem_append.mp hx with hx | hx
      · obtain ⟨y, my, rfl⟩ := List.mem_map.mp hx
        exact less_row hp (h2 y my).1 ho.1 k
      · have : x = ownR p a k := by simpa using hx
        rw [this]
        exact ho
/-- the steps of both sides -/
theorem step_sim {n : Nat} {st : List (List Int) × List (List Int)} {sv : List (Vec q) × List (Nat × Vec q)} (h1 : RowsOk q n st.1) (h2 : RowsOk q n st.2) (e1 : st.1.map (toV (q := q)) = sv.1) (e2 : st.2.map (toV (q := q)) = sv.2.map (·.2)) (k : Nat) :
    (stepR q st k).1.map (toV (q := q)) = (stepV invF sv k).1 ∧ (stepR q st k).2.map (toV (q := q)) = (stepV invF sv k).2.map (·.2) := by
  have hf : sv.1.filter (fun x => decide (x k ≠ 0)) = (st.1.filter (fun r => decide (r.getD k 0 ≠ 0))).map (toV (q := q)) := by
    rw [← e1, List.filter_map]
    congr 1
    apply List.filter_congr
    intro r hr
    have := cF_ne (q := q) (getD_lt q_pos (h1 r hr).2 k)
    show decide (cF (q := q) (r.getD k 0) ≠ 0) = decide (r.getD k 0 ≠ 0)
    simp only [this]
  unfold stepR stepV
  rw [hf]
  cases hl : st.1.filter (fun r => decide (r.getD k 0 ≠ 0)) with
  | nil => exact ⟨e1, e2⟩
  | cons a r =>
    obtain ⟨ha, _⟩ := filter_head hl
    have ho := own_row (q_pos (q := q)) (h1 a ha).1 k
    have eo : toV (q := q) (ownR q a k) = ownV invF (toV a) k := toV_own (h1 a ha).2 k
    simp only [List.map_cons]
    constructor
    · rw [← e1, List.map_map, List.map_map]
      apply List.map_congr_left
      intro x hx
      show toV (lessR q x (ownR q a k) k) = lessV (toV x) (ownV invF (toV a) k) k
      rw [toV_less (by rw [(h1 x hx).1, ho.1]), eo]
    · rw [List.map_append, List.map_append, List.map_map, List.map_map, List.map_cons, List.map_cons, List.map_nil, List.map_nil, eo]
      congr 1
      have e3 : sv.2.map ((fun b : Nat × Vec q => b.2) ∘ fun b => (b.1, lessV b.2 (ownV invF (toV a) k) k)) = (sv.2.map (·.2)).map fun v => lessV v (ownV invF (toV a) k) k := by
        rw [List.map_map]
        rfl
      rw [e3, ← e2, List.map_map]
      apply List.map_congr_left
      intro x hx
      show toV (lessR q x (ownR q a k) k) = lessV (toV x) (ownV invF (toV a) k) k
      rw [toV_less (by rw [(h2 x hx).1, ho.1]), eo]
theorem steps_sim {n : Nat} {rows : List (List Int)} (h : RowsOk q n rows) : ∀ k, RowsOk q n ((List.range k).foldl (stepR q) (rows, [])).1 ∧ RowsOk q n ((List.range k).foldl (stepR q) (rows, [])).2 ∧
    ((List.range k).foldl (stepR q) (rows, [])).1.map (toV (q := q)) = ((List.range k).foldl (stepV invF) (rows.map (toV (q := q)), [])).1 ∧ ((List.range k).foldl (stepR q) (rows, [])).2.map (toV (q := q)) = ((List.range k).foldl (stepV invF) (rows.map (toV (q := q)), [])).2.map (·.2)
  | 0 => ⟨h, fun r hr => (nomatch hr), rfl, rfl⟩
  | k + 1 => by
    obtain ⟨a, b, c, d⟩ := steps_sim h k
    rw [List.range_succ, List.foldl_append, List.foldl_append]
    obtain ⟨e1, e2, _, _⟩ := step_rows q_pos a b k
    obtain ⟨f1, f2⟩ := step_sim a b c d k
    exact ⟨e1, e2, f1, f2⟩
theorem plainR_rows {n : Nat} {rows : List (List Int)} (h : RowsOk q n rows) : RowsOk q n (plainR q n rows) := (steps_sim h n).2.1
theorem plainR_eq {n : Nat} {rows : List (List Int)} (h : RowsOk q n rows) : (plainR q n rows).map (toV (q := q)) = (plainV invF n (rows.map (toV (q := q)))).map (·.2) := (steps_sim h n).2.2.2
theorem rows_wid {n : Nat} {rows : List (List Int)} (h : RowsOk q n rows) : ∀ x ∈ rows.map (toV (q := q)), ∀ i, n ≤ i → x i = 0 := by
  intro x hx i hi
  obtain ⟨r, mr, rfl⟩ := List.mem_map.mp hx
  exact toV_wid (h r mr).1 i hi
/-- what rows make -/
def Mk (q : Nat) [NeZero q] (rows : List (List Int)) (x : Vec q) : Prop := Spn (rows.map (toV (q := q))) x
/-- a plain form -/
def IsPF (q : Nat) [NeZero q] (n : Nat) (room : List (List Int)) : Prop := RowsOk q n room ∧ ∃ bs : List (Nat × Vec q), PF n bs ∧ bs.map (·.2) = room.map (toV (q := q))
theorem plainR_pf (hF : Fld (q : Int)) {n : Nat} {rows : List (List Int)} (h : RowsOk q n rows) : IsPF q n (plainR q n rows) := ⟨plainR_rows h, _, plainV_pf invF (invF_ok hF) (rows_wid h), (plainR_eq h).symm⟩
theorem plainR_mk (hF : Fld (q : Int)) {n : Nat} {rows : List (List Int)} (h : RowsOk q n rows) (x : Vec q) : Mk q (plainR q n rows) x ↔ Mk q rows x := by
  unfold Mk
  rw [plainR_eq h]
  exact plainV_spn invF (invF_ok hF) (rows_wid h) x
theorem map_inj {n : Nat} : ∀ {xs ys : List (List Int)}, RowsOk q n xs → RowsOk q n ys → xs.map (toV (q := q)) = ys.map (toV (q := q)) → xs = ys
  | [], [], _, _, _ => rfl
  | [], _ :: _, _, _, e => by cases e
  | _ :: _, [], _, _, e => by cases e
  | x :: xs, y :: ys, hx, hy, e => by
    rw [List.map_cons, List.map_cons] at e
    have h1 := hx x List.mem_cons_self
    have h2 := hy y List.mem_cons_self
    have e1 : x = y := toV_inj (by rw [h1.1, h2.1]) h1.2 h2.2 (List.cons.inj e).1
    rw [e1, map_inj (fun r hr => hx r (List.mem_cons_of_mem _ hr)) (fun r hr => hy r (List.mem_cons_of_mem _ hr)) (List.cons.inj e).2]
/-- each room has just one plain form -/
theorem IsPF.uniq (hF : Fld (q : Int)) {n : Nat} {one other : List (List Int)} (h1 : IsPF q n one) (h2 : IsPF q n other) (h : ∀ x, Mk q one x ↔ Mk q other x) : one = other := by
  obtain ⟨r1, bs, b1, e1⟩ := h1
  obtain ⟨r2, cs, c1, e2⟩ := h2
  have h2' : (2 : Int) ≤ q := hF.1
  have e := b1.uniq (one_ne (by omega)) c1 fun x => by
    rw [e1, e2]
    exact h x
  exact map_inj r1 r2 (by rw [← e1, ← e2, e])
theorem IsPF.plain (hF : Fld (q : Int)) {n : Nat} {room rows : List (List Int)} (h1 : IsPF q n room) (h : RowsOk q n rows) (hm : ∀ x, Mk q room x ↔ Mk q rows x) : room = plainR q n rows :=
  h1.uniq hF (plainR_pf hF h) fun x => (hm x).trans (plainR_mk hF h x).symm
theorem plainR_len {n : Nat} {rows : List (List Int)} (h : RowsOk q n rows) : (plainR q n rows).length = (plainV invF n (rows.map (toV (q := q)))).length := by
  have := congrArg List.length (plainR_eq h)
  rw [List.length_map, List.length_map] at this
  exact this
theorem plainR_has (hF : Fld (q : Int)) {n : Nat} {rows : List (List Int)} {r : List Int} (h : RowsOk q n rows) (hr : RowsOk q n [r]) : (plainR q n (rows ++ [r])).length = (plainR q n rows).length ↔ Mk q rows (toV r) := by
  have h2 : (2 : Int) ≤ q := hF.1
  have hr' := hr r List.mem_cons_self
  have hall : RowsOk q n (rows ++ [r]) := fun x hx => by
    rcases List.mem_append.mp hx with h' | h'
    · exact h x h'
    · exact hr x h'
  rw [plainR_len h, plainR_len hall, List.map_append, List.map_cons, List.map_nil]
  exact plainV_has invF (one_ne (by omega)) (invF_ok hF) (rows_wid h) fun i hi => toV_wid hr'.1 i hi
end
end OC
/-! a row more: one first place more, or none; worlds that part -/
namespace Lin
set_option linter.all false
section
variable {p : Nat} [NeZero p]
theorem exists_lead {x : Vec p} : ∀ (j : Nat), x j ≠ 0 → ∃ k, k ≤ j ∧ Lead x k := by
  intro j
  induction j using Nat.strongRecOn with
  | _ j ih =>
    intro h
    by_cases hz : ∀ i, i < j → x i = 0
    · exact ⟨j, Nat.le_refl j, h, hz⟩
    · obtain ⟨i, hi⟩ := Classical.not_forall.mp hz
      have hi' : i < j ∧ x i ≠ 0 := Classical.not_imp.mp hi
      obtain ⟨k, hk, l⟩ := ih i hi'.1 hi'.2
      exact ⟨k, by omega, l⟩
/-- x less what the rows tell of it -/
def leftV (bs : List (Nat × Vec p)) (x : Vec p) : Vec p := fun i => x i - red bs x i
theorem left_at {n : Nat} {bs : List (Nat × Vec p)} (h : PF n bs) (x : Vec p) {c : Nat × Vec p} (hc : c ∈ bs) : leftV bs x c.1 = 0 := by
  show x c.1 - red bs x c.1 = 0
  rw [h.at x hc]
  grind
theorem left_zero {n : Nat} {bs : List (Nat × Vec p)} (h : PF n bs) (x : Vec p) : leftV bs x = zeroV ↔ Spn (bs.map (·.2)) x := by
  constructor
  · intro e
    have : x = red bs x := by
      funext i
      have h0 := congrFun e i
      have h0 : x i - red bs x i = 0 := h0
      grind
    rw [this]
    exact spn_red bs x
  · intro hx
    funext i
    show x i - red bs x i = 0
    rw [h.told hx]
    grind
/-- sums of a row of the room and of so many of v -/
theorem spn_more {vs : List (Vec p)} {v x : Vec p} (hx : Spn (vs ++ [v]) x) : ∃ s c, Spn vs s ∧ x = addV s (mulV c v) := by
  have hS : Sub (fun x : Vec p => ∃ s c, Spn vs s ∧ x = addV s (mulV c v)) := by
    refine ⟨⟨zeroV, 0, (spn_sub vs).zero, ?_⟩, ?_, ?_⟩
    · funext i
      show (0 : Fin p) = 0 + 0 * v i
      grind
    · rintro x y ⟨s, c, hs, rfl⟩ ⟨t, d, ht, rfl⟩
      refine ⟨addV s t, c + d, (spn_sub vs).add hs ht, ?_⟩
      funext i
      show s i + c * v i + (t i + d * v i) = s i + t i + (c + d) * v i
      grind
    · rintro d x ⟨s, c, hs, rfl⟩
      refine ⟨mulV d s, d * c, (spn_sub vs).mul d hs, ?_⟩
      funext i
      show d * (s i + c * v i) = d * s i + d * c * v i
      grind
  refine spn_le hS (fun w hw => ?_) hx
  rcases List.mem_append.mp hw with h | h
  · refine ⟨w, 0, spn_mem h, ?_⟩
    funext i
    show w i = w i + 0 * v i
    grind
  · have : w = v := by simpa using h
    subst this
    refine ⟨zeroV, 1, (spn_sub vs).zero, ?_⟩
    funext i
    show w i = 0 + 1 * w i
    grind
/-- the first places of a row of the greater room -/
theorem lead_more {n : Nat} {bs : List (Nat × Vec p)} (h : PF n bs) {v : Vec p} {j k : Nat} {x : Vec p} (hj : Lead (leftV bs v) j) (hfld : ∀ a b : Fin p, a * b = 0 → a = 0 ∨ b = 0) (hx : Spn (bs.map (·.2) ++ [v]) x) (hk : Lead x k) : (∃ b ∈ bs, b.1 = k) ∨ k = j := by
  obtain ⟨s, c, hs, rfl⟩ := spn_more hx
  -- with the left of v in its place
  have e : addV s (mulV c v) = addV (addV s (mulV c (red bs v))) (mulV c (leftV bs v)) := by
    funext i
    show s i + c * v i = s i + c * red bs v i + c * (v i - red bs v i)
    grind
  have hs' : Spn (bs.map (·.2)) (addV s (mulV c (red bs v))) := (spn_sub _).add hs ((spn_sub _).mul c (spn_red bs v))
  rw [e] at hk
  generalize addV s (mulV c (red bs v)) = t at hs' hk
  by_cases hc : c = 0
  · subst hc
    have e2 : addV t (mulV 0 (leftV bs v)) = t := by
      funext i
      show t i + 0 * leftV bs v i = t i
      grind
    rw [e2] at hk
    exact .inl (h.lead hs' hk)
  · have val : ∀ i, addV t (mulV c (leftV bs v)) i = t i + c * leftV bs v i := fun _ => rfl
    rcases Nat.lt_trichotomy k j with hlt | heq | hgt
    · have lt : Lead t k := by
        refine ⟨?_, fun i hi => ?_⟩
        · have h1 := hk.1
          rw [val, hj.2 k hlt] at h1
          intro z
          apply h1
          rw [z]
          grind
        · have h1 := hk.2 i hi
          rw [val, hj.2 i (by omega)] at h1
          grind
      exact .inl (h.lead hs' lt)
    · exact .inr heq
    · have lt : Lead t j := by
        refine ⟨fun z => ?_, fun i hi => ?_⟩
        · have h1 := hk.2 j hgt
          rw [val, z] at h1
          have h2 : c * leftV bs v j = 0 := by grind
          rcases hfld _ _ h2 with h3 | h3
          · exact hc h3
          · exact hj.1 h3
        · have h1 := hk.2 i (by omega)
          rw [val, hj.2 i hi] at h1
          grind
      obtain ⟨b, mb, eb⟩ := h.lead hs' lt
      have := left_at h v mb
      rw [eb] at this
      exact absurd this hj.1
theorem sorted_more {l m : List Nat} {j : Nat} (hl : l.Pairwise (· < ·)) (hm : m.Pairwise (· < ·)) (h : ∀ x ∈ l, x ∈ m ∨ x = j) : l.length ≤ m.length + 1 := by
  have nd : l.Nodup := hl.imp fun h => Nat.ne_of_lt h
  have s := List.erase_sublist (a := j) (l := l)
  have h1 := (sorted_len (hl.sublist s) hm fun x hx => by
    rcases h x (List.mem_of_mem_erase hx) with h | h
    · exact h
    · subst h
      exact absurd hx (List.Nodup.not_mem_erase nd)).1
  have h2 := List.length_erase (a := j) (l := l)
  split at h2 <;> omega
variable (inv : Fin p → Fin p)
/-- a row more that is not made: one row more -/
theorem plainV_more {n : Nat} {vs : List (Vec p)} {v : Vec p} (h1 : (1 : Fin p) ≠ 0) (hinv : ∀ a : Fin p, a ≠ 0 → inv a * a = 1) (hw : ∀ x ∈ vs, ∀ i, n ≤ i → x i = 0) (hv : ∀ i, n ≤ i → v i = 0) (hn : ¬ Spn vs v) :
    (plainV inv n (vs ++ [v])).length = (plainV inv n vs).length + 1 := by
  have hfld : ∀ a b : Fin p, a * b = 0 → a = 0 ∨ b = 0 := fun a b e => by
    by_cases ha : a = 0
    · exact .inl ha
    · have := hinv a ha
      refine .inr ?_
      have : b = inv a * (a * b) := by grind
      rw [e] at this
      grind
  have hw' : ∀ x ∈ vs ++ [v], ∀ i, n ≤ i → x i = 0 := fun x hx => by
    rcases List.mem_append.mp hx with h | h
    · exact hw x h
    · have : x = v := by simpa using h
      rw [this]
      exact hv
  have A := plainV_pf inv hinv hw
  have B := plainV_pf inv hinv hw'
  have sa := plainV_spn inv hinv hw
  have sb := plainV_spn inv hinv hw'
  have ne : leftV (plainV inv n vs) v ≠ zeroV := fun e => hn ((sa v).mp ((left_zero A v).mp e))
  obtain ⟨j0, hj0⟩ : ∃ j, leftV (plainV inv n vs) v j ≠ 0 := by
    apply Classical.byContradiction
    intro hz
    apply ne
    funext i
    exact Classical.byContradiction fun q => hz ⟨i, q⟩
  obtain ⟨j, _, hj⟩ := exists_lead j0 hj0
  have up : (plainV inv n (vs ++ [v])).length ≤ (plainV inv n vs).length + 1 := by
    have := sorted_more (j := j) (List.pairwise_map.mpr B.inc) (List.pairwise_map.mpr A.inc) fun x hx => by
      obtain ⟨b, mb, rfl⟩ := List.mem_map.mp hx
      have hb : Spn ((plainV inv n vs).map (·.2) ++ [v]) b.2 := by
        refine spn_append (spn_sub _) (fun y hy => spn_left ((sa y).mpr hy)) (fun y hy => spn_right hy) b.2 ((sb b.2).mp (spn_mem (List.mem_map_of_mem mb)))
      rcases lead_more A hj hfld hb (B.leads h1 mb) with ⟨c, mc, e⟩ | e
      · exact .inl (List.mem_map.mpr ⟨c, mc, e⟩)
      · exact .inr e
    rw [List.length_map, List.length_map] at this
    exact this
  have low : (plainV inv n vs).length ≤ (plainV inv n (vs ++ [v])).length := plainV_len_le inv h1 hinv hw hw' fun x hx => spn_left hx
  have neq : (plainV inv n (vs ++ [v])).length ≠ (plainV inv n vs).length := fun e => hn ((plainV_has inv h1 hinv hw hv).mp e)
  omega
/-! ### worth: the sum over the places -/
def dot : Nat → Vec p → Vec p → Fin p
  | 0, _, _ => 0
  | n + 1, x, y => dot n x y + x n * y n
theorem dot_add (n : Nat) (x y w : Vec p) : dot n (addV x y) w = dot n x w + dot n y w := by
  induction n with
  | zero => simp only [dot]; grind
  | succ n ih =>
    simp only [dot]
    rw [ih]
    show dot n x w + dot n y w + (x n + y n) * w n = dot n x w + x n * w n + (dot n y w + y n * w n)
    grind
theorem dot_mul (n : Nat) (c : Fin p) (x w : Vec p) : dot n (mulV c x) w = c * dot n x w := by
  induction n with
  | zero => simp only [dot]; grind
  | succ n ih =>
    simp only [dot]
    rw [ih]
    show c * dot n x w + c * x n * w n = c * (dot n x w + x n * w n)
    grind
theorem dot_comm (n : Nat) (x y : Vec p) : dot n x y = dot n y x := by
  induction n with
  | zero => rfl
  | succ n ih =>
    simp only [dot]
    rw [ih]
    grind
theorem dot_zero (n : Nat) (w : Vec p) : dot n zeroV w = 0 := by
  induction n with
  | zero => rfl
  | succ n ih =>
    simp only [dot]
    rw [ih]
    show (0 : Fin p) + 0 * w n = 0
    grind
end
end Lin
/-! worlds that part; sizes of sums and of what two rooms share -/
namespace Lin
set_option linter.all false
section
variable {p : Nat} [NeZero p]
def unitV (j : Nat) : Vec p := fun i => if i = j then 1 else 0
theorem dot_unit (n : Nat) (x : Vec p) (j : Nat) : dot n x (unitV j) = if j < n then x j else 0 := by
  induction n with
  | zero => simp [dot]
  | succ n ih =>
    simp only [dot]
    rw [ih]
    unfold unitV
    by_cases h1 : n = j
    · subst h1
      rw [if_neg (Nat.lt_irrefl n), if_pos (Nat.lt_succ_self n)]
      simp only [if_true]
      grind
    · rw [if_neg h1]
      by_cases h2 : j < n
      · rw [if_pos h2, if_pos (by omega)]
        grind
      · rw [if_neg h2, if_neg (by omega)]
        grind
/-- the world at which a row is worth what is left of it at the place j -/
def crossV : List (Nat × Vec p) → Nat → Vec p
  | [], j => unitV j
  | b :: bs, j => addV (mulV (-(b.2 j)) (unitV b.1)) (crossV bs j)
theorem dot_cross (n : Nat) : ∀ (bs : List (Nat × Vec p)) (x : Vec p) (j : Nat), (∀ b ∈ bs, b.1 < n) → j < n → dot n x (crossV bs j) = leftV bs x j
  | [], x, j, _, hj => by
    simp only [crossV]
    rw [dot_unit, if_pos hj]
    show x j = x j - 0
    grind
  | b :: bs, x, j, hb, hj => by
    have ih := dot_cross n bs x j (fun c hc => hb c (List.mem_cons_of_mem _ hc)) hj
    simp only [crossV]
    rw [dot_comm, dot_add, dot_mul, dot_comm n (unitV b.1) x, dot_comm n (crossV bs j) x, ih, dot_unit, if_pos (hb b List.mem_cons_self)]
    show -(b.2 j) * x b.1 + (x j - red bs x j) = x j - (x b.1 * b.2 j + red bs x j)
    grind
theorem cross_wid : ∀ (bs : List (Nat × Vec p)) (n j : Nat), (∀ b ∈ bs, b.1 < n) → j < n → ∀ i, n ≤ i → crossV bs j i = 0
  | [], n, j, _, hj, i, hi => by
    show (if i = j then (1 : Fin p) else 0) = 0
    rw [if_neg (by omega)]
  | b :: bs, n, j, hb, hj, i, hi => by
    have ih := cross_wid bs n j (fun c hc => hb c (List.mem_cons_of_mem _ hc)) hj i hi
    have := hb b List.mem_cons_self
    show -(b.2 j) * (if i = b.1 then (1 : Fin p) else 0) + crossV bs j i = 0
    rw [if_neg (by omega), ih]
    grind
/-! ### sizes -/
variable (inv : Fin p → Fin p)
/-- what a list of rows needs: the size of their room -/
def dim (n : Nat) (vs : List (Vec p)) : Nat := (plainV inv n vs).length
structure Good (n : Nat) : Prop where
  one : (1 : Fin p) ≠ 0
  inv : ∀ a : Fin p, a ≠ 0 → inv a * a = 1
def Wid (n : Nat) (vs : List (Vec p)) : Prop := ∀ x ∈ vs, ∀ i, n ≤ i → x i = 0
theorem Wid.one {n : Nat} {v : Vec p} (h : ∀ i, n ≤ i → v i = 0) : Wid n [v] := fun x hx => by
  have : x = v := by simpa using hx
  rw [this]
  exact h
variable {inv}
theorem Good.same {n : Nat} (g : Good inv n) {vs ws : List (Vec p)} (hv : Wid n vs) (hw : Wid n ws) (h : ∀ x, Spn vs x ↔ Spn ws x) : dim inv n vs = dim inv n ws :=
  Nat.le_antisymm (plainV_len_le inv g.one g.inv hv hw fun x hx => (h x).mp hx) (plainV_len_le inv g.one g.inv hw hv fun x hx => (h x).mpr hx)
theorem Good.out {n : Nat} (g : Good inv n) {vs : List (Vec p)} {v : Vec p} (hv : Wid n vs) (hw : ∀ i, n ≤ i → v i = 0) (h : ¬ Spn vs v) : dim inv n (vs ++ [v]) = dim inv n vs + 1 := plainV_more inv g.one g.inv hv hw h
theorem dim_nil (n : Nat) : dim inv n ([] : List (Vec p)) = 0 := by
  have h : ∀ k, (List.range k).foldl (stepV inv) (([] : List (Vec p)), []) = ([], []) := by
    intro k
    induction k with
    | zero => rfl
    | succ k ih =>
      rw [List.range_succ, List.foldl_append, ih]
      rfl
  unfold dim plainV
  rw [h n]
  rfl
theorem spn_app {vs ws : List (Vec p)} {x : Vec p} : Spn (vs ++ ws) x ↔ ∃ s t, Spn vs s ∧ Spn ws t ∧ x = addV s t := by
  constructor
  · intro hx
    have hS : Sub (fun x : Vec p => ∃ s t, Spn vs s ∧ Spn ws t ∧ x = addV s t) := by
      refine ⟨⟨zeroV, zeroV, (spn_sub vs).zero, (spn_sub ws).zero, (zero_add _).symm⟩, ?_, ?_⟩
      · rintro x y ⟨s, t, hs, ht, rfl⟩ ⟨s', t', hs', ht', rfl⟩
        refine ⟨addV s s', addV t t', (spn_sub vs).add hs hs', (spn_sub ws).add ht ht', ?_⟩
        funext i
        show s i + t i + (s' i + t' i) = s i + s' i + (t i + t' i)
        grind
      · rintro c x ⟨s, t, hs, ht, rfl⟩
        refine ⟨mulV c s, mulV c t, (spn_sub vs).mul c hs, (spn_sub ws).mul c ht, ?_⟩
        funext i
        show c * (s i + t i) = c * s i + c * t i
        grind
    refine spn_le hS (fun w hw => ?_) hx
    rcases List.mem_append.mp hw with h | h
    · refine ⟨w, zeroV, spn_mem h, (spn_sub ws).zero, ?_⟩
      funext i
      show w i = w i + 0
      grind
    · exact ⟨zeroV, w, (spn_sub vs).zero, spn_mem h, (zero_add w).symm⟩
  · rintro ⟨s, t, hs, ht, rfl⟩
    exact (spn_sub _).add (spn_left hs) (spn_right ht)
end
end Lin
/-! across: the worlds at which all rows of a room are worth 0 -/
namespace Lin
set_option linter.all false
section
variable {p : Nat} [NeZero p] {inv : Fin p → Fin p}
theorem dot_single {n : Nat} {x y : Vec p} {k : Nat} (hk : k < n) (h : ∀ i, i < n → i ≠ k → x i * y i = 0) : dot n x y = x k * y k := by
  have go : ∀ m, m ≤ n → dot m x y = if k < m then x k * y k else 0 := by
    intro m
    induction m with
    | zero => intro _; simp [dot]
    | succ m ih =>
      intro hm
      simp only [dot]
      rw [ih (by omega)]
      by_cases e : m = k
      · subst e
        rw [if_neg (Nat.lt_irrefl m), if_pos (Nat.lt_succ_self m)]
        grind
      · rw [h m (by omega) e]
        by_cases h2 : k < m
        · rw [if_pos h2, if_pos (by omega)]
          grind
        · rw [if_neg h2, if_neg (by omega)]
          grind
  rw [go n (Nat.le_refl n), if_pos hk]
theorem cross_free : ∀ (l : List (Nat × Vec p)) (j i : Nat), (∀ b ∈ l, b.1 ≠ i) → crossV l j i = if i = j then 1 else 0
  | [], j, i, _ => rfl
  | b :: l, j, i, h => by
    have ih := cross_free l j i fun c hc => h c (List.mem_cons_of_mem _ hc)
    show -(b.2 j) * (if i = b.1 then (1 : Fin p) else 0) + crossV l j i = _
    rw [if_neg (Ne.symm (h b List.mem_cons_self)), ih]
    grind
/-- whether a place is a first place of a row -/
def isFirst (bs : List (Nat × Vec p)) (j : Nat) : Bool := decide (j ∈ bs.map (·.1))
/-- the places that are first places of no row -/
def frees (n : Nat) (bs : List (Nat × Vec p)) : List Nat := (List.range n).filter fun j => !isFirst bs j
theorem mem_frees {n : Nat} {bs : List (Nat × Vec p)} {j : Nat} : j ∈ frees n bs ↔ j < n ∧ ∀ b ∈ bs, b.1 ≠ j := by
  unfold frees isFirst
  rw [List.mem_filter, List.mem_range]
  constructor
  · rintro ⟨h1, h2⟩
    refine ⟨h1, fun b hb e => ?_⟩
    rw [decide_eq_true (List.mem_map.mpr ⟨b, hb, e⟩)] at h2
    cases h2
  · rintro ⟨h1, h2⟩
    refine ⟨h1, ?_⟩
    rw [decide_eq_false fun hm => ?_]
    · rfl
    · obtain ⟨b, mb, e⟩ := List.mem_map.mp hm
      exact h2 b mb e
theorem filter_split (q : Nat → Bool) : ∀ l : List Nat, l.length = (l.filter q).length + (l.filter fun x => !q x).length
  | [] => rfl
  | a :: l => by
    have ih := filter_split q l
    by_cases hq : q a = true
    · rw [List.filter_cons_of_pos hq, List.filter_cons_of_neg (by rw [hq]; decide), List.length_cons, List.length_cons]
      omega
    · have hq' : q a = false := by simpa using hq
      rw [List.filter_cons_of_neg hq, List.filter_cons_of_pos (by rw [hq']; rfl), List.length_cons, List.length_cons]
      omega
theorem frees_len {n : Nat} {bs : List (Nat × Vec p)} (h : PF n bs) : (frees n bs).length + bs.length = n := by
  have e : (List.range n).filter (isFirst bs) = bs.map (·.1) := by
    refine sorted_eq (List.Pairwise.filter _ List.pairwise_lt_range) (List.pairwise_map.mpr h.inc) fun x => ?_
    rw [List.mem_filter, List.mem_range]
    constructor
    · rintro ⟨_, h2⟩
      exact of_decide_eq_true h2
    · intro hx
      obtain ⟨b, mb, e⟩ := List.mem_map.mp hx
      exact ⟨by rw [← e]; exact h.lt b mb, decide_eq_true hx⟩
  have h1 := filter_split (isFirst bs) (List.range n)
  rw [e, List.length_range, List.length_map] at h1
  unfold frees
  omega
/-- so many of each of the worlds by the free places -/
def tellV (bs : List (Nat × Vec p)) (w : Vec p) : List Nat → Vec p
  | [] => zeroV
  | j :: js => addV (mulV (w j) (crossV bs j)) (tellV bs w js)
theorem tell_spn (bs : List (Nat × Vec p)) (w : Vec p) : ∀ js : List Nat, Spn (js.map (crossV bs)) (tellV bs w js)
  | [] => (spn_sub _).zero
  | j :: js => (spn_sub _).add ((spn_sub _).mul _ (spn_mem (by simp))) (spn_tail (tell_spn bs w js))
theorem tell_free (bs : List (Nat × Vec p)) (w : Vec p) {i : Nat} (hi : ∀ b ∈ bs, b.1 ≠ i) : ∀ js : List Nat, js.Nodup → tellV bs w js i = if i ∈ js then w i else 0
  | [], _ => rfl
  | j :: js, nd => by
    have nd' := List.nodup_cons.mp nd
    have ih := tell_free bs w hi js nd'.2
    show w j * crossV bs j i + tellV bs w js i = _
    rw [ih, cross_free bs j i hi]
    by_cases e : i = j
    · subst e
      rw [if_pos rfl, if_neg nd'.1, if_pos List.mem_cons_self]
      grind
    · rw [if_neg e]
      by_cases hm : i ∈ js
      · rw [if_pos hm, if_pos (List.mem_cons_of_mem _ hm)]
        grind
      · rw [if_neg hm, if_neg (by simp [e, hm])]
        grind
/-- worlds at which all rows of a room are worth 0 -/
def Perp (n : Nat) (S : Vec p → Prop) (w : Vec p) : Prop := (∀ i, n ≤ i → w i = 0) ∧ ∀ x, S x → dot n x w = 0
theorem perp_sub (n : Nat) (S : Vec p → Prop) : Sub (Perp n S) := by
  refine ⟨⟨fun _ _ => rfl, fun x _ => by rw [dot_comm, dot_zero]⟩, fun {x y} hx hy => ⟨fun i hi => ?_, fun z hz => ?_⟩, fun c {x} hx => ⟨fun i hi => ?_, fun z hz => ?_⟩⟩
  · show x i + y i = 0
    rw [hx.1 i hi, hy.1 i hi]
    grind
  · rw [dot_comm, dot_add, dot_comm n x z, dot_comm n y z, hx.2 z hz, hy.2 z hz]
    grind
  · show c * x i = 0
    rw [hx.1 i hi]
    grind
  · rw [dot_comm, dot_mul, dot_comm n x z, hx.2 z hz]
    grind
theorem PF.cross_perp {n : Nat} {bs : List (Nat × Vec p)} (h : PF n bs) {j : Nat} (hj : j < n) : Perp n (Spn (bs.map (·.2))) (crossV bs j) :=
  ⟨cross_wid bs n j h.lt hj, fun x hx => by rw [dot_cross n bs x j h.lt hj, (left_zero h x).mpr hx]; rfl⟩
theorem frees_nodup (n : Nat) (bs : List (Nat × Vec p)) : (frees n bs).Nodup := (List.nodup_range).filter _
/-- the worlds by the free places make them all -/
theorem PF.perp_spn {n : Nat} {bs : List (Nat × Vec p)} (h : PF n bs) (w : Vec p) : Spn ((frees n bs).map (crossV bs)) w ↔ Perp n (Spn (bs.map (·.2))) w := by
  constructor
  · intro hw
    refine spn_le (perp_sub n _) (fun v hv => ?_) hw
    obtain ⟨j, mj, rfl⟩ := List.mem_map.mp hv
    exact h.cross_perp (mem_frees.mp mj).1
  · intro hw
    have ht : Perp n (Spn (bs.map (·.2))) (tellV bs w (frees n bs)) := spn_le (perp_sub n _) (fun v hv => by
      obtain ⟨j, mj, rfl⟩ := List.mem_map.mp hv
      exact h.cross_perp (mem_frees.mp mj).1) (tell_spn bs w (frees n bs))
    have hd : Perp n (Spn (bs.map (·.2))) (fun i => w i - 1 * tellV bs w (frees n bs) i) := (perp_sub n _).less 1 hw ht
    have z1 : ∀ i, i < n → (∀ b ∈ bs, b.1 ≠ i) → w i - 1 * tellV bs w (frees n bs) i = 0 := fun i hi hb => by
      rw [tell_free bs w hb _ (frees_nodup n bs), if_pos (mem_frees.mpr ⟨hi, hb⟩)]
      grind
    have z2 : ∀ c ∈ bs, w c.1 - 1 * tellV bs w (frees n bs) c.1 = 0 := fun c hc => by
      have h0 := hd.2 c.2 (spn_mem (List.mem_map_of_mem hc))
      rw [dot_single (h.lt c hc) fun i hi ne => ?_] at h0
      · rw [h.one c hc] at h0
        grind
      · by_cases hp : ∃ b ∈ bs, b.1 = i
        · obtain ⟨b, mb, rfl⟩ := hp
          rw [h.off c hc b mb (Ne.symm ne)]
          grind
        · rw [z1 i hi fun b mb e => hp ⟨b, mb, e⟩]
          grind
    have e : w = tellV bs w (frees n bs) := by
      funext i
      rcases Nat.lt_or_ge i n with hi | hi
      · by_cases hp : ∃ b ∈ bs, b.1 = i
        · obtain ⟨b, mb, rfl⟩ := hp
          have := z2 b mb
          grind
        · have := z1 i hi fun b mb e => hp ⟨b, mb, e⟩
          grind
      · rw [hw.1 i hi, ht.1 i hi]
    rw [e]
    exact tell_spn bs w _
/-- rows each with a place of its own, at which those ahead have 0: none is made by those ahead -/
theorem Good.own_places {n : Nat} (g : Good inv n) (bs : List (Nat × Vec p)) (hw : ∀ j, j < n → ∀ i, n ≤ i → crossV bs j i = 0) : ∀ (m : Nat) (js : List Nat), js.length = m → js.Nodup → (∀ j ∈ js, j < n ∧ ∀ b ∈ bs, b.1 ≠ j) → dim inv n (js.map (crossV bs)) = js.length
  | 0, js, hl, _, _ => by
    have e : js = [] := List.eq_nil_of_length_eq_zero hl
    subst e
    exact dim_nil n
  | m + 1, js, hl, nd, hf => by
    obtain ⟨js', j, rfl⟩ : ∃ js' j, js = js' ++ [j] := by
      rcases List.eq_nil_or_concat js with e | ⟨l, b, e⟩
      · rw [e] at hl
        cases hl
      · exact ⟨l, b, by rw [e, List.concat_eq_append]⟩
    have nd' : js'.Nodup := (List.nodup_append.mp nd).1
    have nj : j ∉ js' := fun hm => (List.nodup_append.mp nd).2.2 j hm j (by simp) rfl
    have hf' : ∀ k ∈ js', k < n ∧ ∀ b ∈ bs, b.1 ≠ k := fun k hk => hf k (List.mem_append_left _ hk)
    have hj := hf j (by simp)
    have ih := own_places g bs hw m js' (by simpa using hl) nd' hf'
    have wd : Wid n (js'.map (crossV bs)) := fun x hx => by
      obtain ⟨k, mk, rfl⟩ := List.mem_map.mp hx
      exact hw k (hf' k mk).1
    rw [List.map_append, List.map_cons, List.map_nil, g.out wd (hw j hj.1) fun hs => ?_, ih]
    · simp
    · have hz : Sub (fun x : Vec p => x j = 0) := ⟨rfl, fun {x y} hx hy => by show x j + y j = 0; rw [hx, hy]; grind, fun c {x} hx => by show c * x j = 0; rw [hx]; grind⟩
      have h0 : crossV bs j j = 0 := spn_le hz (fun v hv => by
        obtain ⟨k, mk, rfl⟩ := List.mem_map.mp hv
        rw [cross_free bs k j hj.2, if_neg (fun e => nj (by rw [e]; exact mk))]) hs
      rw [cross_free bs j j hj.2, if_pos rfl] at h0
      exact g.one h0
theorem Good.perp_dim {n : Nat} (g : Good inv n) {bs : List (Nat × Vec p)} (h : PF n bs) : dim inv n ((frees n bs).map (crossV bs)) + bs.length = n := by
  rw [g.own_places bs (fun j hj => cross_wid bs n j h.lt hj) _ _ rfl (frees_nodup n bs) fun j hj => mem_frees.mp hj]
  exact frees_len h
theorem Good.pf_dim {n : Nat} (g : Good inv n) {bs : List (Nat × Vec p)} (h : PF n bs) : dim inv n (bs.map (·.2)) = bs.length := by
  have hw : Wid n (bs.map (·.2)) := fun x hx => by
    obtain ⟨b, mb, rfl⟩ := List.mem_map.mp hx
    exact h.wid b mb
  have e := h.uniq g.one (plainV_pf inv g.inv hw) fun x => (plainV_spn inv g.inv hw x).symm
  unfold dim
  rw [← e]
/-- across of across is the room again -/
theorem Good.perp_perp {n : Nat} (g : Good inv n) {bs cs : List (Nat × Vec p)} (hb : PF n bs) (hc : PF n cs) (h : ∀ w, Spn (cs.map (·.2)) w ↔ Perp n (Spn (bs.map (·.2))) w) (x : Vec p) : Perp n (Spn (cs.map (·.2))) x ↔ Spn (bs.map (·.2)) x := by
  have hbw : ∀ y, Spn (bs.map (·.2)) y → ∀ i, n ≤ i → y i = 0 := fun y hy i hi => by
    have hz : Sub (fun x : Vec p => x i = 0) := ⟨rfl, fun {x y} hx hy => by show x i + y i = 0; rw [hx, hy]; grind, fun c {x} hx => by show c * x i = 0; rw [hx]; grind⟩
    refine spn_le hz (fun v hv => ?_) hy
    obtain ⟨b, mb, rfl⟩ := List.mem_map.mp hv
    exact hb.wid b mb i hi
  have sub : ∀ y, Spn (bs.map (·.2)) y → Perp n (Spn (cs.map (·.2))) y := fun y hy => ⟨hbw y hy, fun w hw => by rw [dot_comm]; exact ((h w).mp hw).2 y hy⟩
  refine ⟨fun hx => ?_, sub x⟩
  -- sizes: n - (n - s)
  have wc : Wid n ((frees n cs).map (crossV cs)) := fun y hy => by
    obtain ⟨k, mk, rfl⟩ := List.mem_map.mp hy
    exact cross_wid cs n k hc.lt (mem_frees.mp mk).1
  have wb : Wid n ((frees n bs).map (crossV bs)) := fun y hy => by
    obtain ⟨k, mk, rfl⟩ := List.mem_map.mp hy
    exact cross_wid bs n k hb.lt (mem_frees.mp mk).1
  have d1 := g.perp_dim hb
  have d2 := g.perp_dim hc
  have wcs : Wid n (cs.map (·.2)) := fun x hx => by
    obtain ⟨b, mb, rfl⟩ := List.mem_map.mp hx
    exact hc.wid b mb
  have d3 : dim inv n ((frees n bs).map (crossV bs)) = cs.length := by
    rw [g.same wb wcs fun w => (hb.perp_spn w).trans (h w).symm, g.pf_dim hc]
  have hP := plainV_pf inv g.inv wc
  have sP := plainV_spn inv g.inv wc
  have := hb.same_of_len hP g.one (fun y hy => (sP y).mpr ((hc.perp_spn y).mpr (sub y hy))) (by
    show dim inv n ((frees n cs).map (crossV cs)) ≤ bs.length
    omega) ((sP x).mpr ((hc.perp_spn x).mpr hx))
  exact this
/-- across of both rooms joined is what their across share -/
theorem perp_app {n : Nat} {us ws : List (Vec p)} (w : Vec p) : Perp n (Spn (us ++ ws)) w ↔ Perp n (Spn us) w ∧ Perp n (Spn ws) w := by
  constructor
  · intro h
    exact ⟨⟨h.1, fun x hx => h.2 x (spn_left hx)⟩, ⟨h.1, fun x hx => h.2 x (spn_right hx)⟩⟩
  · rintro ⟨h1, h2⟩
    refine ⟨h1.1, fun x hx => ?_⟩
    obtain ⟨s, t, hs, ht, rfl⟩ := spn_app.mp hx
    rw [dot_add, h1.2 s hs, h2.2 t ht]
    grind
end
end Lin
/-! Which of some rows are needed: those that the ones ahead of them don't make. -/
namespace OC
open Lin
section
variable {q : Nat} [NeZero q]
theorem rowsOk_app {p : Int} {n : Nat} {rs ts : List (List Int)} (h1 : RowsOk p n rs) (h2 : RowsOk p n ts) : RowsOk p n (rs ++ ts) := fun x hx => by
  rcases List.mem_append.mp hx with h' | h'
  · exact h1 x h'
  · exact h2 x h'
theorem rowsOk_nil {p : Int} {n : Nat} : RowsOk p n [] := fun r hr => (nomatch hr)
theorem plainR_more (hF : Fld (q : Int)) {n : Nat} {rows : List (List Int)} {r : List Int} (h : RowsOk q n rows) (hr : RowsOk q n [r]) (hn : ¬ Mk q rows (toV r)) : (plainR q n (rows ++ [r])).length = (plainR q n rows).length + 1 := by
  have h2 : (2 : Int) ≤ q := hF.1
  have hr' := hr r List.mem_cons_self
  rw [plainR_len h, plainR_len (rowsOk_app h hr), List.map_append, List.map_cons, List.map_nil]
  exact plainV_more invF (one_ne (by omega)) (invF_ok hF) (rows_wid h) (fun i hi => toV_wid hr'.1 i hi) hn
theorem mk_app_of {rows : List (List Int)} {r : List Int} (h : Mk q rows (toV r)) (x : Vec q) : Mk q (rows ++ [r]) x ↔ Mk q rows x := by
  unfold Mk
  rw [List.map_append]
  constructor
  · intro hx
    exact spn_append (spn_sub _) (fun _ h => h) (fun y hy => spn_sub_of (fun v hv => by
      have : v = toV r := by simpa using hv
      rw [this]
      exact h) hy) x hx
  · exact spn_left
theorem plainR_congr (hF : Fld (q : Int)) {n : Nat} {one other : List (List Int)} (h1 : RowsOk q n one) (h2 : RowsOk q n other) (h : ∀ x, Mk q one x ↔ Mk q other x) : plainR q n one = plainR q n other :=
  (plainR_pf hF h1).plain hF h2 fun x => (plainR_mk hF h1 x).trans (h x)
end
end OC
/-! The program's own way to the plain form: a row more, taken off, made plain, sorted. Core Lean alone. -/
namespace Lin
set_option linter.all false
section
variable {p : Nat} [NeZero p]
def leftF (bs : List (Nat × Vec p)) (x : Vec p) : Vec p := bs.foldl (fun x b => lessV x b.2 b.1) x
theorem red_congr : ∀ (l : List (Nat × Vec p)) (x y : Vec p), (∀ c ∈ l, y c.1 = x c.1) → red l y = red l x
  | [], _, _, _ => rfl
  | b :: l, x, y, h => by
    show addV (mulV (y b.1) b.2) (red l y) = addV (mulV (x b.1) b.2) (red l x)
    rw [h b List.mem_cons_self, red_congr l x y fun c hc => h c (List.mem_cons_of_mem _ hc)]
theorem leftF_eq : ∀ (l : List (Nat × Vec p)) (x : Vec p), l.Pairwise (fun a c => a.2 c.1 = 0) → leftF l x = leftV l x
  | [], x, _ => by
    funext i
    show x i = x i - 0
    grind
  | b :: l, x, h => by
    obtain ⟨h1, h2⟩ := List.pairwise_cons.mp h
    show leftF l (lessV x b.2 b.1) = _
    rw [leftF_eq l _ h2]
    have e : red l (lessV x b.2 b.1) = red l x := red_congr l x _ fun c hc => by
      show x c.1 - x b.1 * b.2 c.1 = x c.1
      rw [h1 c hc]
      grind
    funext i
    show (x i - x b.1 * b.2 i) - red l (lessV x b.2 b.1) i = x i - (x b.1 * b.2 i + red l x i)
    rw [e]
    grind
theorem PF.leftF {n : Nat} {bs : List (Nat × Vec p)} (h : PF n bs) (x : Vec p) : leftF bs x = leftV bs x := by
  refine leftF_eq bs x ?_
  refine h.inc.imp_of_mem fun {a c} ha hc hlt => h.off a ha c hc (by omega)
theorem red_wid : ∀ (l : List (Nat × Vec p)) (x : Vec p) (i : Nat), (∀ b ∈ l, b.2 i = 0) → red l x i = 0
  | [], _, _, _ => rfl
  | b :: l, x, i, h => by
    show x b.1 * b.2 i + red l x i = 0
    rw [red_wid l x i fun c hc => h c (List.mem_cons_of_mem _ hc), h b List.mem_cons_self]
    grind
/-- the pairs behind one row more -/
def moreV (inv : Fin p → Fin p) (bs : List (Nat × Vec p)) (y : Vec p) (j : Nat) : List (Nat × Vec p) := (j, ownV inv y j) :: bs.map fun b => (b.1, lessV b.2 (ownV inv y j) j)
variable (inv : Fin p → Fin p)
theorem moreV_pf {n : Nat} {bs : List (Nat × Vec p)} (h : PF n bs) (hinv : ∀ a : Fin p, a ≠ 0 → inv a * a = 1) {x : Vec p} (hx : ∀ i, n ≤ i → x i = 0) {j : Nat} (hj : Lead (leftV bs x) j) {cs : List (Nat × Vec p)} (hp : cs.Perm (moreV inv bs (leftV bs x) j)) (hi : cs.Pairwise (fun a b => a.1 < b.1)) :
    PF n cs ∧ ∀ z, Spn (cs.map (·.2)) z ↔ Spn (bs.map (·.2) ++ [x]) z := by
  generalize hy : leftV bs x = y at hj hp
  have yb : ∀ b ∈ bs, y b.1 = 0 := fun b hb => by rw [← hy]; exact left_at h x hb
  have yw : ∀ i, n ≤ i → y i = 0 := fun i hi => by
    rw [← hy]
    show x i - red bs x i = 0
    rw [hx i hi, red_wid bs x i fun b hb => h.wid b hb i hi]
    grind
  have jn : j < n := by
    rcases Nat.lt_or_ge j n with h' | h'
    · exact h'
    · exact absurd (yw j h') hj.1
  have jb : ∀ b ∈ bs, b.1 ≠ j := fun b hb e => hj.1 (by rw [← e]; exact yb b hb)
  generalize hf : ownV inv y j = f
  have fd : ∀ i, f i = inv (y j) * y i := fun i => by rw [← hf]; rfl
  have fj : f j = 1 := by rw [fd]; exact hinv _ hj.1
  have f0 : ∀ i, y i = 0 → f i = 0 := fun i e => by rw [fd, e]; grind
  have mem : ∀ c, c ∈ cs ↔ c = (j, f) ∨ ∃ b ∈ bs, c = (b.1, lessV b.2 f j) := fun c => by
    rw [hp.mem_iff]
    unfold moreV
    rw [hf, List.mem_cons, List.mem_map]
    constructor
    · rintro (e | ⟨b, hb, e⟩)
      · exact .inl e
      · exact .inr ⟨b, hb, e.symm⟩
    · rintro (e | ⟨b, hb, e⟩)
      · exact .inl e
      · exact .inr ⟨b, hb, e.symm⟩
  constructor
  · refine ⟨hi, fun c hc => ?_, fun c hc => ?_, fun c hc i hl => ?_, fun c hc d hd hne => ?_, fun c hc i hl => ?_⟩
    · rcases (mem c).mp hc with rfl | ⟨b, hb, rfl⟩
      · exact jn
      · exact h.lt b hb
    · rcases (mem c).mp hc with rfl | ⟨b, hb, rfl⟩
      · exact fj
      · show b.2 b.1 - b.2 j * f b.1 = 1
        rw [f0 _ (yb b hb), h.one b hb]
        grind
    · rcases (mem c).mp hc with rfl | ⟨b, hb, rfl⟩
      · exact f0 i (hj.2 i hl)
      · have hl : i < b.1 := hl
        show b.2 i - b.2 j * f i = 0
        rw [h.low b hb i hl]
        rcases Nat.lt_or_ge i j with h' | h'
        · rw [f0 i (hj.2 i h')]
          grind
        · rw [h.low b hb j (by omega)]
          grind
    · rcases (mem c).mp hc with rfl | ⟨b, hb, rfl⟩
      · rcases (mem d).mp hd with rfl | ⟨b', hb', rfl⟩
        · exact absurd rfl hne
        · exact f0 _ (yb b' hb')
      · rcases (mem d).mp hd with rfl | ⟨b', hb', rfl⟩
        · show b.2 j - b.2 j * f j = 0
          rw [fj]
          grind
        · show b.2 b'.1 - b.2 j * f b'.1 = 0
          rw [f0 _ (yb b' hb'), h.off b hb b' hb' hne]
          grind
    · rcases (mem c).mp hc with rfl | ⟨b, hb, rfl⟩
      · exact f0 i (yw i hl)
      · show b.2 i - b.2 j * f i = 0
        rw [f0 i (yw i hl), h.wid b hb i hl]
        grind
  · have Sc := spn_sub (cs.map (·.2))
    have Sx := spn_sub (bs.map (·.2) ++ [x])
    have inb : ∀ b ∈ bs, Spn (bs.map (·.2) ++ [x]) b.2 := fun b hb => spn_mem (List.mem_append_left _ (List.mem_map_of_mem hb))
    have inx : Spn (bs.map (·.2) ++ [x]) x := spn_mem (List.mem_append_right _ List.mem_cons_self)
    have iny : Spn (bs.map (·.2) ++ [x]) y := by
      have hr : Spn (bs.map (·.2) ++ [x]) (red bs x) := spn_left (spn_red bs x)
      have := Sx.less 1 inx hr
      have e : y = fun i => x i - 1 * red bs x i := by
        rw [← hy]
        funext i
        show x i - red bs x i = x i - 1 * red bs x i
        grind
      rw [e]
      exact this
    have inf : Spn (bs.map (·.2) ++ [x]) f := by
      have := Sx.mul (inv (y j)) iny
      rw [← hf]
      exact this
    have cf : Spn (cs.map (·.2)) f := spn_mem (List.mem_map.mpr ⟨(j, f), (mem _).mpr (.inl rfl), rfl⟩)
    have cb : ∀ b ∈ bs, Spn (cs.map (·.2)) b.2 := fun b hb => by
      have h1 : Spn (cs.map (·.2)) (lessV b.2 f j) := spn_mem (List.mem_map.mpr ⟨(b.1, lessV b.2 f j), (mem _).mpr (.inr ⟨b, hb, rfl⟩), rfl⟩)
      have h2 := Sc.add h1 (Sc.mul (b.2 j) cf)
      have e : b.2 = addV (lessV b.2 f j) (mulV (b.2 j) f) := by
        funext i
        show b.2 i = (b.2 i - b.2 j * f i) + b.2 j * f i
        grind
      rw [e]
      exact h2
    have cx : Spn (cs.map (·.2)) x := by
      have h1 : Spn (cs.map (·.2)) (red bs x) := spn_le Sc (fun v hv => by
        obtain ⟨b, hb, rfl⟩ := List.mem_map.mp hv
        exact cb b hb) (spn_red bs x)
      have h2 := Sc.add h1 (Sc.mul (y j) cf)
      have e : x = addV (red bs x) (mulV (y j) f) := by
        funext i
        show x i = red bs x i + y j * f i
        have e1 : y i = x i - red bs x i := by rw [← hy]; rfl
        have e2 := hinv _ hj.1
        rw [fd]
        grind
      rw [e]
      exact h2
    intro z
    constructor
    · intro hz
      refine spn_le Sx (fun v hv => ?_) hz
      obtain ⟨c, hc, rfl⟩ := List.mem_map.mp hv
      rcases (mem c).mp hc with rfl | ⟨b, hb, rfl⟩
      · exact inf
      · exact Sx.less (b.2 j) (inb b hb) inf
    · intro hz
      refine spn_le Sc (fun v hv => ?_) hz
      rcases List.mem_append.mp hv with hv | hv
      · obtain ⟨b, hb, rfl⟩ := List.mem_map.mp hv
        exact cb b hb
      · have : v = x := by simpa using hv
        rw [this]
        exact cx
end
end Lin
namespace OC
set_option linter.all false
open Lin
/-! ### first places -/
def fpR (r : List Int) : Nat := r.findIdx fun x => decide (x ≠ 0)
theorem fpR_le (r : List Int) : fpR r ≤ r.length := List.findIdx_le_length
theorem fpR_of {r : List Int} {j : Nat} (h : r.getD j 0 ≠ 0) (hl : ∀ i, i < j → r.getD i 0 = 0) : fpR r = j := by
  have hj : j < r.length := by
    rcases Nat.lt_or_ge j r.length with h' | h'
    · exact h'
    · exact absurd (gd_ge h') h
  unfold fpR
  rw [List.findIdx_eq hj]
  refine ⟨decide_eq_true (by rw [gd_lt hj] at h; exact h), fun i hi => ?_⟩
  have := hl i hi
  rw [gd_lt (by omega)] at this
  rw [this]
  rfl
theorem fpR_at {r : List Int} (h : fpR r < r.length) : r.getD (fpR r) 0 ≠ 0 := by
  have e := List.findIdx_getElem (xs := r) (p := fun x => decide (x ≠ 0)) (w := h)
  rw [gd_lt h]
  exact of_decide_eq_true e
theorem fpR_low {r : List Int} {i : Nat} (h : i < fpR r) : r.getD i 0 = 0 := by
  have hl : i < r.length := Nat.lt_of_lt_of_le h (fpR_le r)
  have e := List.not_of_lt_findIdx h
  rw [gd_lt hl]
  apply Classical.byContradiction
  intro hne
  have e2 : decide (r[i] ≠ 0) = true := decide_eq_true hne
  rw [e2] at e
  cases e
theorem fpR_all {r : List Int} (h : fpR r = r.length) : ∀ x ∈ r, x = 0 := by
  intro x hx
  obtain ⟨i, hi, rfl⟩ := List.getElem_of_mem hx
  have := fpR_low (r := r) (i := i) (by omega)
  rwa [gd_lt hi] at this
def leftR (p : Int) (room : List (List Int)) (r : List Int) : List Int := room.foldl (fun r b => lessR p r b (fpR b)) r
/-! ### the order of tuples -/
def codeR (B : Int) : List Int → Int
  | [] => 0
  | d :: r => d * B ^ r.length + codeR B r
theorem codeR_bd {B : Int} (hB : 0 < B) : ∀ r : List Int, (∀ x ∈ r, 0 ≤ x ∧ x < B) → 0 ≤ codeR B r ∧ codeR B r < B ^ r.length
  | [], _ => by
    refine ⟨Int.le_refl _, ?_⟩
    show (0 : Int) < B ^ 0
    rw [Int.pow_zero]
    decide
  | d :: r, h => by
    obtain ⟨c0, c1⟩ := codeR_bd hB r fun x hx => h x (List.mem_cons_of_mem _ hx)
    obtain ⟨d0, d1⟩ := h d List.mem_cons_self
    show 0 ≤ d * B ^ r.length + codeR B r ∧ d * B ^ r.length + codeR B r < B ^ (r.length + 1)
    rw [Int.pow_succ]
    generalize B ^ r.length = P at c1 ⊢
    generalize codeR B r = c at c0 c1 ⊢
    have p1 : (d + 1) * P ≤ B * P := Int.mul_le_mul_of_nonneg_right (by omega) (by omega)
    have p2 : 0 * P ≤ d * P := Int.mul_le_mul_of_nonneg_right d0 (by omega)
    rw [Int.add_mul, Int.one_mul, Int.mul_comm B P] at p1
    rw [Int.zero_mul] at p2
    generalize d * P = X at p1 p2 ⊢
    generalize P * B = Y at p1 ⊢
    constructor <;> omega
theorem fpR_zero (r : List Int) : fpR (0 :: r) = fpR r + 1 := by
  unfold fpR
  rw [List.findIdx_cons]
  simp
theorem fpR_nz {d : Int} (h : d ≠ 0) (r : List Int) : fpR (d :: r) = 0 := by
  unfold fpR
  rw [List.findIdx_cons]
  simp [h]
theorem code_lead {B : Int} (hB : 0 < B) : ∀ (a b : List Int), a.length = b.length → (∀ x ∈ a, 0 ≤ x ∧ x < B) → (∀ x ∈ b, 0 ≤ x ∧ x < B) → fpR b < fpR a → codeR B a < codeR B b
  | [], [], _, _, _, h => absurd h (Nat.lt_irrefl _)
  | [], _ :: _, e, _, _, _ => by cases e
  | _ :: _, [], e, _, _, _ => by cases e
  | x :: a, y :: b, e, ha, hb, h => by
    have e' : a.length = b.length := Nat.succ.inj e
    have x0 : x = 0 := by
      apply Classical.byContradiction
      intro hx
      rw [fpR_nz hx] at h
      exact Nat.not_lt_zero _ h
    subst x0
    have ha' : ∀ x ∈ a, 0 ≤ x ∧ x < B := fun x hx => ha x (List.mem_cons_of_mem _ hx)
    have hb' : ∀ x ∈ b, 0 ≤ x ∧ x < B := fun x hx => hb x (List.mem_cons_of_mem _ hx)
    show 0 * B ^ a.length + codeR B a < y * B ^ b.length + codeR B b
    by_cases hy : y = 0
    · subst hy
      rw [fpR_zero, fpR_zero] at h
      have := code_lead hB a b e' ha' hb' (by omega)
      omega
    · have c1 := (codeR_bd hB a ha').2
      have c2 := (codeR_bd hB b hb').1
      have y1 := (hb y List.mem_cons_self).1
      rw [e'] at c1
      generalize B ^ b.length = P at c1 ⊢
      rw [Int.zero_mul]
      have p1 : 1 * P ≤ y * P := by
        have c0 := (codeR_bd hB a ha').1
        exact Int.mul_le_mul_of_nonneg_right (by omega) (by omega)
      rw [Int.one_mul] at p1
      generalize y * P = X at p1 ⊢
      omega
/-! ### rows -/
section
variable {q : Nat} [NeZero q]
theorem toV_ne {r : List Int} (h : ∀ x ∈ r, 0 ≤ x ∧ x < (q : Int)) (i : Nat) : toV (q := q) r i ≠ 0 ↔ r.getD i 0 ≠ 0 := cF_ne (getD_lt q_pos h i)
theorem toV_eq0 {r : List Int} (h : ∀ x ∈ r, 0 ≤ x ∧ x < (q : Int)) (i : Nat) : toV (q := q) r i = 0 ↔ r.getD i 0 = 0 := by
  have := toV_ne h i
  constructor
  · intro e
    apply Classical.byContradiction
    intro hn
    exact this.mpr hn e
  · intro e
    apply Classical.byContradiction
    intro hn
    exact this.mp hn e
theorem fpR_lead {r : List Int} {j : Nat} (h : ∀ x ∈ r, 0 ≤ x ∧ x < (q : Int)) (hl : Lead (toV (q := q) r) j) : fpR r = j := fpR_of ((toV_ne h j).mp hl.1) fun i hi => (toV_eq0 h i).mp (hl.2 i hi)
theorem lead_fpR {r : List Int} (h : ∀ x ∈ r, 0 ≤ x ∧ x < (q : Int)) (hl : fpR r < r.length) : Lead (toV (q := q) r) (fpR r) := ⟨(toV_ne h _).mpr (fpR_at hl), fun i hi => (toV_eq0 h i).mpr (fpR_low hi)⟩
theorem leftR_sim {n : Nat} : ∀ (room : List (List Int)) (bs : List (Nat × Vec q)) (r : List Int), RowsOk q n room → RowsOk q n [r] → bs.map (·.2) = room.map (toV (q := q)) → (∀ b ∈ bs, Lead b.2 b.1) → RowsOk q n [leftR q room r] ∧ toV (q := q) (leftR q room r) = leftF bs (toV r)
  | [], [], r, _, h, _, _ => ⟨h, rfl⟩
  | [], _ :: _, _, _, _, e, _ => by cases e
  | _ :: _, [], _, _, _, e, _ => by cases e
  | c :: room, b :: bs, r, h1, h2, e, hl => by
    rw [List.map_cons, List.map_cons] at e
    obtain ⟨e1, e2⟩ := List.cons.inj e
    have hc := h1 c List.mem_cons_self
    have hr := h2 r List.mem_cons_self
    have fj : fpR c = b.1 := fpR_lead (q := q) hc.2 (by rw [← e1]; exact hl b List.mem_cons_self)
    have ok : RowsOk q n [lessR q r c (fpR c)] := fun x hx => by
      have : x = lessR q r c (fpR c) := by simpa using hx
      rw [this]
      exact less_row q_pos hr.1 hc.1 _
    obtain ⟨a1, a2⟩ := leftR_sim room bs (lessR q r c (fpR c)) (fun x hx => h1 x (List.mem_cons_of_mem _ hx)) ok e2 fun x hx => hl x (List.mem_cons_of_mem _ hx)
    refine ⟨a1, ?_⟩
    show toV (q := q) (leftR q room (lessR q r c (fpR c))) = leftF bs (lessV (toV r) b.2 b.1)
    rw [a2, toV_less (by rw [hr.1, hc.1]), fj, e1]
theorem q2 (hF : Fld (q : Int)) : 2 ≤ q := by
  have : (2 : Int) ≤ q := hF.1
  omega
theorem IsPF.left (hF : Fld (q : Int)) {n : Nat} {room : List (List Int)} (h : IsPF q n room) {r : List Int} (hr : RowsOk q n [r]) : ∃ bs, PF n bs ∧ bs.map (·.2) = room.map (toV (q := q)) ∧ RowsOk q n [leftR q room r] ∧ toV (q := q) (leftR q room r) = leftV bs (toV r) := by
  obtain ⟨ok, bs, pf, e⟩ := h
  obtain ⟨a1, a2⟩ := leftR_sim room bs r ok hr e fun b hb => pf.leads (one_ne (q2 hF)) hb
  exact ⟨bs, pf, e, a1, by rw [a2, pf.leftF]⟩
theorem noughts_toV {r : List Int} (h : ∀ x ∈ r, 0 ≤ x ∧ x < (q : Int)) : toV (q := q) r = zeroV ↔ ∀ x ∈ r, x = 0 := by
  constructor
  · intro e x hx
    obtain ⟨i, hi, rfl⟩ := List.getElem_of_mem hx
    have := (toV_eq0 h i).mp (congrFun e i)
    rwa [gd_lt hi] at this
  · intro e
    funext i
    refine (toV_eq0 h i).mpr ?_
    by_cases hi : i < r.length
    · rw [gd_lt hi]
      exact e _ (List.getElem_mem hi)
    · exact gd_ge (by omega)
/-- noughts are left just where the room has the row -/
theorem IsPF.left_zero (hF : Fld (q : Int)) {n : Nat} {room : List (List Int)} (h : IsPF q n room) {r : List Int} (hr : RowsOk q n [r]) : (∀ x ∈ leftR q room r, x = 0) ↔ Mk q room (toV r) := by
  obtain ⟨bs, pf, e, ok, et⟩ := h.left hF hr
  rw [← noughts_toV (ok _ List.mem_cons_self).2, et, Lin.left_zero pf, e]
  rfl
theorem perm_pw {α : Type} {R : α → α → Prop} {l m : List α} (hs : ∀ a b, R a b → R b a) (hp : l.Perm m) (h : m.Pairwise R) : l.Pairwise R := (hp.pairwise_iff fun {a b} => hs a b).mpr h
/-- the plain form behind one row more, as the program makes it -/
theorem IsPF.widen (hF : Fld (q : Int)) {n : Nat} {room : List (List Int)} (h : IsPF q n room) {r : List Int} (hr : RowsOk q n [r]) (hne : fpR (leftR q room r) < n) {rs : List (List Int)}
    (hp : rs.Perm (ownR q (leftR q room r) (fpR (leftR q room r)) :: room.map fun b => lessR q b (ownR q (leftR q room r) (fpR (leftR q room r))) (fpR (leftR q room r)))) (hs : rs.Pairwise fun a b => codeR q b ≤ codeR q a) : rs = plainR q n (room ++ [r]) := by
  obtain ⟨bs, pf, e, ok, et⟩ := h.left hF hr
  have okl := ok _ List.mem_cons_self
  have hall : RowsOk q n (room ++ [r]) := rowsOk_app h.1 hr
  have ld : Lead (leftV bs (toV r)) (fpR (leftR q room r)) := by
    rw [← et]
    exact lead_fpR okl.2 (by rw [okl.1]; exact hne)
  generalize hj : fpR (leftR q room r) = j at hne hp ld
  have eo : toV (q := q) (ownR q (leftR q room r) j) = ownV invF (leftV bs (toV r)) j := by
    rw [toV_own okl.2, et]
  have oko := own_row (q_pos (q := q)) okl.1 j
  generalize ownR q (leftR q room r) j = f at hp eo oko
  have okL : RowsOk q n (f :: room.map fun b => lessR q b f j) := fun x hx => by
    rcases List.mem_cons.mp hx with rfl | hx
    · exact oko
    · obtain ⟨b, hb, rfl⟩ := List.mem_map.mp hx
      exact less_row q_pos (h.1 b hb).1 oko.1 j
  have okS : RowsOk q n rs := fun x hx => okL x (hp.mem_iff.mp hx)
  have one1 := one_ne (q := q) (q2 hF)
  -- pairs of the list
  have pairs : (f :: room.map fun b => lessR q b f j).map (fun r => (fpR r, toV (q := q) r)) = moreV invF bs (leftV bs (toV r)) j := by
    have leadM : ∀ c ∈ moreV invF bs (leftV bs (toV r)) j, Lead c.2 c.1 := by
      intro c hc
      have yb : ∀ b ∈ bs, leftV bs (toV r) b.1 = 0 := fun b hb => left_at pf _ hb
      have fd : ∀ i, ownV invF (leftV bs (toV r)) j i = invF (leftV bs (toV r) j) * leftV bs (toV r) i := fun i => rfl
      rcases List.mem_cons.mp hc with rfl | hc
      · refine ⟨?_, fun i hi => ?_⟩
        · show ownV invF (leftV bs (toV r)) j j ≠ 0
          rw [fd, invF_ok hF _ ld.1]
          exact one1
        · show ownV invF (leftV bs (toV r)) j i = 0
          rw [fd, ld.2 i hi]
          grind
      · obtain ⟨b, hb, rfl⟩ := List.mem_map.mp hc
        refine ⟨?_, fun i hi => ?_⟩
        · show b.2 b.1 - b.2 j * ownV invF (leftV bs (toV r)) j b.1 ≠ 0
          rw [fd, yb b hb, pf.one b hb]
          have : (1 : Fin q) - b.2 j * (invF (leftV bs (toV r) j) * 0) = 1 := by grind
          rw [this]
          exact one1
        · have hi : i < b.1 := hi
          show b.2 i - b.2 j * ownV invF (leftV bs (toV r)) j i = 0
          rw [fd, pf.low b hb i hi]
          rcases Nat.lt_or_ge i j with h' | h'
          · rw [ld.2 i h']
            grind
          · rw [pf.low b hb j (by omega)]
            grind
    have e2 : (f :: room.map fun b => lessR q b f j).map (toV (q := q)) = (moreV invF bs (leftV bs (toV r)) j).map (·.2) := by
      unfold moreV
      rw [List.map_cons, List.map_cons, eo, List.map_map, List.map_map]
      congr 1
      have e3 : bs.map ((fun b : Nat × Vec q => b.2) ∘ fun b => (b.1, lessV b.2 (ownV invF (leftV bs (toV r)) j) j)) = (bs.map (·.2)).map fun v => lessV v (ownV invF (leftV bs (toV r)) j) j := by
        rw [List.map_map]
        rfl
      rw [e3, e, List.map_map]
      apply List.map_congr_left
      intro x hx
      show toV (lessR q x f j) = lessV (toV x) (ownV invF (leftV bs (toV r)) j) j
      rw [toV_less (by rw [(h.1 x hx).1, oko.1]), eo]
    have key : ∀ (L : List (List Int)) (M : List (Nat × Vec q)), RowsOk q n L → (∀ c ∈ M, Lead c.2 c.1) → L.map (toV (q := q)) = M.map (·.2) → L.map (fun r => (fpR r, toV (q := q) r)) = M := by
      intro L
      induction L with
      | nil =>
        intro M _ _ e
        cases M with
        | nil => rfl
        | cons m M => cases e
      | cons x L ih =>
        intro M ok lm e
        cases M with
        | nil => cases e
        | cons m M =>
          rw [List.map_cons, List.map_cons] at e
          obtain ⟨a1, a2⟩ := List.cons.inj e
          rw [List.map_cons, ih M (fun y hy => ok y (List.mem_cons_of_mem _ hy)) (fun c hc => lm c (List.mem_cons_of_mem _ hc)) a2]
          congr 1
          have := lm m List.mem_cons_self
          rw [← a1] at this
          rw [fpR_lead (ok x List.mem_cons_self).2 this, a1]
    exact key _ _ okL leadM e2
  have pm : (rs.map fun r => (fpR r, toV (q := q) r)).Perm (moreV invF bs (leftV bs (toV r)) j) := by
    rw [← pairs]
    exact hp.map _
  have dist : (moreV invF bs (leftV bs (toV r)) j).Pairwise fun a b => a.1 ≠ b.1 := by
    unfold moreV
    rw [List.pairwise_cons]
    constructor
    · intro c hc
      obtain ⟨b, hb, rfl⟩ := List.mem_map.mp hc
      intro z
      have z : j = b.1 := z
      apply ld.1
      rw [z]
      exact left_at pf _ hb
    · rw [List.pairwise_map]
      exact pf.inc.imp fun {a b} hab => by
        show a.1 ≠ b.1
        omega
  have dist2 := perm_pw (fun a b hab => Ne.symm hab) pm dist
  rw [List.pairwise_map] at dist2
  have inc : (rs.map fun r => (fpR r, toV (q := q) r)).Pairwise fun a b => a.1 < b.1 := by
    rw [List.pairwise_map]
    refine List.Pairwise.imp_of_mem (fun {a b} ha hb hab => ?_) (dist2.and hs)
    obtain ⟨h1, h2⟩ := hab
    have h1 : fpR a ≠ fpR b := h1
    show fpR a < fpR b
    apply Classical.byContradiction
    intro hn
    have := code_lead (q_pos (q := q)) a b (by rw [(okS a ha).1, (okS b hb).1]) (okS a ha).2 (okS b hb).2 (by omega)
    omega
  obtain ⟨g1, g2⟩ := moreV_pf invF pf (invF_ok hF) (x := toV r) (fun i hi => toV_wid (hr r List.mem_cons_self).1 i hi) ld pm inc
  have em : (rs.map fun r => (fpR r, toV (q := q) r)).map (·.2) = rs.map (toV (q := q)) := by
    rw [List.map_map]
    rfl
  refine IsPF.plain hF ⟨okS, _, g1, em⟩ hall fun x => ?_
  have := g2 x
  rw [em, e] at this
  unfold Mk
  rw [List.map_append]
  exact this
/-- a made row makes nothing new -/
theorem IsPF.widen0 (hF : Fld (q : Int)) {n : Nat} {room : List (List Int)} (h : IsPF q n room) {r : List Int} (hr : RowsOk q n [r]) (hne : ∀ x ∈ leftR q room r, x = 0) : room = plainR q n (room ++ [r]) := by
  have hm := (h.left_zero hF hr).mp hne
  exact IsPF.plain hF h (rowsOk_app h.1 hr) fun x => (mk_app_of hm x).symm
theorem isPF_iff (hF : Fld (q : Int)) {n : Nat} {room : List (List Int)} : IsPF q n room ↔ RowsOk q n room ∧ plainR q n room = room :=
  ⟨fun h => ⟨h.1, (IsPF.plain hF h h.1 fun _ => Iff.rfl).symm⟩, fun h => by
    have := plainR_pf hF h.1
    rwa [h.2] at this⟩
end
/-- a plain form: rows that are their own plain form -/
def PFR (p : Int) (n : Nat) (room : List (List Int)) : Prop := RowsOk p n room ∧ plainR p n room = room
theorem to_q {p : Int} (hF : Fld p) : ∃ q : Nat, p = (q : Int) ∧ ∃ _ : NeZero q, Fld (q : Int) := by
  have h2 := hF.1
  obtain ⟨q, rfl⟩ := Int.eq_ofNat_of_zero_le (show 0 ≤ p by omega)
  exact ⟨q, rfl, ⟨by omega⟩, hF⟩
theorem PFR.of_plain {p : Int} (hF : Fld p) {n : Nat} {rows : List (List Int)} (h : RowsOk p n rows) : PFR p n (plainR p n rows) := by
  obtain ⟨q, rfl, _, hF⟩ := to_q hF
  exact (isPF_iff hF).mp (plainR_pf hF h)
theorem PFR.nil {p : Int} (hF : Fld p) (n : Nat) : PFR p n [] := by
  have := PFR.of_plain hF (n := n) (rowsOk_nil (p := p))
  have e : plainR p n [] = [] := by
    have h : ∀ k, (List.range k).foldl (stepR p) (([] : List (List Int)), ([] : List (List Int))) = ([], []) := by
      intro k
      induction k with
      | zero => rfl
      | succ k ih => rw [List.range_succ, List.foldl_append, ih]; rfl
    unfold plainR
    rw [h]
  exact ⟨rowsOk_nil, e⟩
theorem PFR.left_ok {p : Int} (hF : Fld p) {n : Nat} {room : List (List Int)} (h : PFR p n room) {r : List Int} (hr : RowsOk p n [r]) : RowsOk p n [leftR p room r] := by
  obtain ⟨q, rfl, _, hF⟩ := to_q hF
  obtain ⟨_, _, _, ok, _⟩ := ((isPF_iff hF).mpr h).left hF hr
  exact ok
theorem PFR.widen {p : Int} (hF : Fld p) {n : Nat} {room : List (List Int)} (h : PFR p n room) {r : List Int} (hr : RowsOk p n [r]) (hne : fpR (leftR p room r) < n) {rs : List (List Int)}
    (hp : rs.Perm (ownR p (leftR p room r) (fpR (leftR p room r)) :: room.map fun b => lessR p b (ownR p (leftR p room r) (fpR (leftR p room r))) (fpR (leftR p room r)))) (hs : rs.Pairwise fun a b => codeR p b ≤ codeR p a) : rs = plainR p n (room ++ [r]) := by
  obtain ⟨q, rfl, _, hF⟩ := to_q hF
  exact ((isPF_iff hF).mpr h).widen hF hr hne hp hs
theorem PFR.widen0 {p : Int} (hF : Fld p) {n : Nat} {room : List (List Int)} (h : PFR p n room) {r : List Int} (hr : RowsOk p n [r]) (hne : ∀ x ∈ leftR p room r, x = 0) : room = plainR p n (room ++ [r]) := by
  obtain ⟨q, rfl, _, hF⟩ := to_q hF
  exact ((isPF_iff hF).mpr h).widen0 hF hr hne
/-- noughts are left just where one row more makes nothing new -/
theorem PFR.left_has {p : Int} (hF : Fld p) {n : Nat} {room : List (List Int)} (h : PFR p n room) {r : List Int} (hr : RowsOk p n [r]) : (∀ x ∈ leftR p room r, x = 0) ↔ (plainR p n (room ++ [r])).length = (plainR p n room).length := by
  obtain ⟨q, rfl, _, hF⟩ := to_q hF
  rw [((isPF_iff hF).mpr h).left_zero hF hr]
  exact (plainR_has hF h.1 hr).symm
/-- the plain form of a plain form and more rows -/
theorem plainR_app {p : Int} (hF : Fld p) {n : Nat} {rows ts : List (List Int)} (h : RowsOk p n rows) (ht : RowsOk p n ts) : plainR p n (plainR p n rows ++ ts) = plainR p n (rows ++ ts) := by
  obtain ⟨q, rfl, _, hF⟩ := to_q hF
  refine plainR_congr hF (rowsOk_app (plainR_rows h) ht) (rowsOk_app h ht) fun x => ?_
  unfold Mk
  rw [List.map_append, List.map_append]
  constructor
  · intro hx
    refine spn_le (spn_sub _) (fun v hv => ?_) hx
    rcases List.mem_append.mp hv with hv | hv
    · exact spn_left ((plainR_mk hF h v).mp (spn_mem hv))
    · exact spn_right (spn_mem hv)
  · intro hx
    refine spn_le (spn_sub _) (fun v hv => ?_) hx
    rcases List.mem_append.mp hv with hv | hv
    · exact spn_left ((plainR_mk hF h v).mpr (spn_mem hv))
    · exact spn_right (spn_mem hv)
theorem plainR_lenle {p : Int} (hF : Fld p) {n : Nat} {rows : List (List Int)} (h : RowsOk p n rows) : (plainR p n rows).length ≤ n := by
  obtain ⟨q, rfl, _, hF⟩ := to_q hF
  obtain ⟨_, bs, pf, e⟩ := plainR_pf hF h
  have e1 := congrArg List.length e
  rw [List.length_map, List.length_map] at e1
  rw [← e1]
  have h1 : (bs.map (·.1)).Pairwise (· < ·) := List.pairwise_map.mpr pf.inc
  have h2 := (sorted_len h1 (List.pairwise_lt_range (n := n)) fun x hx => by
    obtain ⟨b, hb, rfl⟩ := List.mem_map.mp hx
    exact List.mem_range.mpr (pf.lt b hb)).1
  rw [List.length_map, List.length_range] at h2
  exact h2
end OC
set_option Elab.async false
set_option linter.all false
set_option maxRecDepth 100000
/-! what laws share of rows as ints and as data -/
namespace OC
open PySem PySem.Spec PyProof.Rows L2
def plusR (p : Int) (x y : List Int) (m : Int) : List Int := List.zipWith (fun a b => (a + m * b) % p) x y
theorem plus_len {p : Int} {x y : List Int} {m : Int} (h : x.length = y.length) : (plusR p x y m).length = x.length := by
  unfold plusR
  rw [List.length_zipWith]
  omega
theorem plus_ok {p : Int} {x y : List Int} {m : Int} (hp : 0 < p) : RowOk p (plusR p x y m) := by
  intro z hz
  unfold plusR at hz
  rw [List.mem_iff_getElem?] at hz
  obtain ⟨i, hi⟩ := hz
  rw [List.getElem?_zipWith] at hi
  split at hi
  · cases Option.some.inj hi
    exact ⟨Int.emod_nonneg _ (by omega), Int.emod_lt_of_pos _ hp⟩
  · cases hi
def addR (p : Int) (x y : List Int) : List Int := List.zipWith (fun a b => (a + b) % p) x y
def timesR (p a : Int) (x : List Int) : List Int := x.map fun r => a * r % p
def madeR (p : Int) (z : List Int) (l : List (List Int × Int)) : List Int := l.foldl (fun acc rf => plusR p acc rf.1 rf.2) z
theorem plus1 (p : Int) : ∀ x y : List Int, plusR p x y 1 = addR p x y
  | [], _ => rfl
  | _ :: _, [] => rfl
  | a :: x, b :: y => by
    have ih := plus1 p x y
    unfold plusR addR at ih ⊢
    rw [List.zipWith_cons_cons, List.zipWith_cons_cons, ih, Int.one_mul]
theorem add_len {p : Int} {x y : List Int} (h : x.length = y.length) : (addR p x y).length = x.length := by
  unfold addR
  rw [List.length_zipWith]
  omega
theorem made_len (p : Int) (n : Nat) : ∀ (l : List (List Int × Int)) (z : List Int), z.length = n → (∀ x ∈ l, x.1.length = n) → (madeR p z l).length = n
  | [], z, hz, _ => hz
  | x :: l, z, hz, h => by
    refine made_len p n l _ ?_ fun y hy => h y (List.mem_cons_of_mem _ hy)
    rw [plus_len (by rw [hz, h x List.mem_cons_self])]
    exact hz
theorem made_take {p : Int} {z : List Int} {l : List (List Int × Int)} {i : Nat} {x : List Int × Int} (h : l[i]? = some x) : madeR p z (l.take (i + 1)) = plusR p (madeR p z (l.take i)) x.1 x.2 := by
  unfold madeR
  rw [List.take_add_one, h, List.foldl_append]
  rfl
def intsOf : PyData → List Int
  | .list ds => ds.map fun d => match d with | .int i => i | _ => 0
  | .tuple ds => ds.map fun d => match d with | .int i => i | _ => 0
  | _ => []
theorem ints_row (r : List Int) : intsOf (rowD r) = r := by
  show (r.map PyData.int).map _ = r
  rw [List.map_map]
  exact List.map_id r
theorem rep_lst_ints {K : PySem.W.Frag} {H : Hp} {bad : Addr → Prop} : ∀ {xs : List V} {r : List Int}, RepAll K H bad xs (r.map PyData.int) → xs = r.map V.int
  | _, [], h => by cases h; rfl
  | _, n :: r, h => by
    cases h with
    | cons h1 h2 =>
      cases h1
      rw [rep_lst_ints h2]
      rfl
theorem rep_row {K : PySem.W.Frag} {H : Hp} {bad : Addr → Prop} {v : V} {r : List Int} (h : Rep K H bad v (rowD r)) : ∃ l, v = .ref l ∧ SqT K H l (r.map V.int) := by
  unfold rowD at h
  cases h with
  | tup hs ha => exact ⟨_, rfl, (rep_lst_ints ha) ▸ hs⟩
theorem rep_rows {K : PySem.W.Frag} {H : Hp} {bad : Addr → Prop} : ∀ {ws : List V} {rs : List (List Int)}, DpAll K H ws (rs.map rowD) → RepAll K H bad ws (rs.map rowD)
  | _, [], h => by cases h; exact .nil
  | _, r :: rs, h => by
    cases h with
    | cons h1 h2 =>
      obtain ⟨a, rfl, ha⟩ := dp_row h1
      exact .cons (row_rep ha) (rep_rows h2)
theorem rows_rep {K : PySem.W.Frag} {H : Hp} {bad : Addr → Prop} : ∀ {ws : List V} {rs : List (List Int)}, RepAll K H bad ws (rs.map rowD) → DpAll K H ws (rs.map rowD)
  | _, [], h => by cases h; exact .nil
  | _, r :: rs, h => by
    cases h with
    | cons h1 h2 =>
      obtain ⟨a, rfl, ha⟩ := rep_row h1
      exact .cons (row_dp ha) (rows_rep h2)
theorem foldl_succ {α : Type} (f : α → Nat → α) (a : α) (k : Nat) : (List.range (k + 1)).foldl f a = f ((List.range k).foldl f a) k := by
  rw [List.range_succ, List.foldl_append]
  rfl
theorem dpAll_take {K : PySem.W.Frag} {H : Hp} : ∀ {xs : List V} {ds : List PyData} (k : Nat), DpAll K H xs ds → DpAll K H (xs.take k) (ds.take k)
  | _, _, 0, _ => by rw [List.take_zero, List.take_zero]; exact .nil
  | _, _, _ + 1, .nil => .nil
  | _, _, k + 1, .cons h1 h2 => .cons h1 (dpAll_take k h2)
theorem plainR_nil (p : Int) (n : Nat) : plainR p n [] = [] := by
  have h : ∀ k, (List.range k).foldl (stepR p) (([] : List (List Int)), ([] : List (List Int))) = ([], []) := by
    intro k
    induction k with
    | zero => rfl
    | succ k ih => rw [foldl_succ, ih]; rfl
  unfold plainR
  rw [h]
def hasR (p : Int) (n : Nat) (rs : List (List Int)) (r : List Int) : Bool := decide ((plainR p n (rs ++ [r])).length = (plainR p n rs).length)
def fldB (p : Nat) : Bool := decide (2 ≤ p) && (List.range p).all fun a => a == 0 || (List.range p).any fun b => a * b % p == 1
theorem fld_of {p : Nat} (h : fldB p = true) : Fld (p : Int) := by
  unfold fldB at h
  rw [Bool.and_eq_true] at h
  obtain ⟨h2, h⟩ := h
  have h2 := of_decide_eq_true h2
  refine ⟨by omega, fun a a1 ap => ?_⟩
  have ha := List.all_eq_true.mp h a.toNat (List.mem_range.mpr (by omega))
  rw [Bool.or_eq_true] at ha
  rcases ha with ha | ha
  · have := eq_of_beq ha
    omega
  · obtain ⟨b, hb, e⟩ := List.any_eq_true.mp ha
    have e := eq_of_beq e
    have hb := List.mem_range.mp hb
    refine ⟨(b : Int), ?_, by omega, ?_⟩
    · cases b with
      | zero => rw [Nat.mul_zero, Nat.zero_mod] at e; cases e
      | succ b => omega
    · have e2 : ((a.toNat * b % p : Nat) : Int) = 1 := by rw [e]; rfl
      rw [Int.natCast_emod, Int.natCast_mul, Int.toNat_of_nonneg (by omega)] at e2
      exact e2
def nI (ks : List Nat) : List Int := ks.map fun (k : Nat) => (k : Int)
end OC
set_option Elab.async false
set_option linter.all false
set_option maxRecDepth 100000
/-! what the promises of the program's own defs rest on -/
namespace OC
open PySem PySem.Spec PyProof.Rows L2 Lin
theorem less_eq {p : Int} : ∀ (c : Int) (x y : List Int), addR p x (timesR p (p - c) y) = List.zipWith (fun r m => (r - c * m) % p) x y
  | _, [], _ => rfl
  | _, _ :: _, [] => rfl
  | c, a :: x, b :: y => by
    have ih := less_eq (p := p) c x y
    unfold addR timesR at ih ⊢
    rw [List.map_cons, List.zipWith_cons_cons, List.zipWith_cons_cons, ih, Int.add_emod_emod]
    congr 1
    rw [show a + (p - c) * b = (a - c * b) + p * b by grind, Int.add_mul_emod_self_left]
theorem less_zero {p : Int} : ∀ (x y : List Int), x.length = y.length → RowOk p x → List.zipWith (fun r m => (r - 0 * m) % p) x y = x
  | [], _, _, _ => rfl
  | _ :: _, [], e, _ => by cases e
  | a :: x, b :: y, e, h => by
    rw [List.zipWith_cons_cons, less_zero x y (Nat.succ.inj e) fun z hz => h z (List.mem_cons_of_mem _ hz)]
    have := h a List.mem_cons_self
    rw [Int.zero_mul, Int.sub_zero, Int.emod_eq_of_lt this.1 this.2]
theorem ctr_uniq {p a b : Int} (hF : Fld p) (h0 : 1 ≤ a) (h1 : a < p) (b0 : 1 ≤ b) (b1 : b < p) (e : a * b % p = 1) : b = ctr p a := by
  obtain ⟨c0, c1, c2⟩ := ctr_ok hF h0 h1
  generalize ctr p a = c at c0 c1 c2
  have h2 := hF.1
  have e1 : b * (a * c) % p = b := by
    rw [Int.mul_emod, c2, Int.mul_one, Int.emod_emod]
    exact Int.emod_eq_of_lt (by omega) b1
  have e2 : b * (a * c) % p = c := by
    rw [show b * (a * c) = (a * b) * c by grind, Int.mul_emod, e, Int.one_mul, Int.emod_emod]
    exact Int.emod_eq_of_lt c0 c1
  omega
/-- rows in a tuple -/
def RowsAt (K : PySem.W.Frag) (H : Hp) (a : Addr) (rs : List (List Int)) : Prop := ∃ ws, SqT K H a ws ∧ DpAll K H ws (rs.map rowD)
theorem RowsAt.same {K : PySem.W.Frag} {H H' : Hp} {a : Addr} {rs : List (List Int)} (s : Same H H') (h : RowsAt K H a rs) : RowsAt K H' a rs := by
  obtain ⟨ws, h1, h2⟩ := h
  exact ⟨ws, Same.tup s h1, dpAll_same s _ _ h2⟩
theorem rows_len {K : PySem.W.Frag} {H : Hp} {ws : List V} {rs : List (List Int)} (h : DpAll K H ws (rs.map rowD)) : ws.length = rs.length := by
  have := dpAll_len h
  rwa [List.length_map] at this
theorem PFR.fp_lt {p : Int} (hF : Fld p) {n : Nat} {room : List (List Int)} (h : PFR p n room) : ∀ b ∈ room, fpR b < n := by
  obtain ⟨q, rfl, _, hF⟩ := to_q hF
  obtain ⟨ok, bs, pf, e⟩ := (isPF_iff hF).mpr h
  intro b hb
  have : toV (q := q) b ∈ bs.map (·.2) := by rw [e]; exact List.mem_map_of_mem hb
  obtain ⟨c, hc, ec⟩ := List.mem_map.mp this
  have := pf.leads (one_ne (q2 hF)) hc
  rw [ec] at this
  rw [fpR_lead (ok b hb).2 this]
  exact pf.lt c hc
/-- a room of all rows gets no wider -/
theorem plain_full {p : Int} (hF : Fld p) {n : Nat} {rows ts : List (List Int)} (h : RowsOk p n rows) (ht : RowsOk p n ts) (hl : (plainR p n rows).length = n) : plainR p n (rows ++ ts) = plainR p n rows := by
  have hle := plainR_lenle hF (rowsOk_app h ht)
  obtain ⟨q, rfl, _, hF⟩ := to_q hF
  obtain ⟨_, bs, pb, eb⟩ := plainR_pf hF h
  obtain ⟨_, cs, pc, ec⟩ := plainR_pf hF (rowsOk_app h ht)
  have lb := congrArg List.length eb
  have lc := congrArg List.length ec
  rw [List.length_map, List.length_map] at lb lc
  have sub : ∀ x, Spn (bs.map (·.2)) x → Spn (cs.map (·.2)) x := fun x hx => by
    rw [eb] at hx
    rw [ec]
    refine (plainR_mk hF (rowsOk_app h ht) x).mpr ?_
    unfold Mk
    rw [List.map_append]
    exact spn_left ((plainR_mk hF h x).mp hx)
  refine ((plainR_pf hF (rowsOk_app h ht)).uniq hF (plainR_pf hF h) fun x => ?_)
  unfold Mk
  rw [← eb, ← ec]
  exact ⟨fun hx => pb.same_of_len pc (one_ne (q2 hF)) sub (by omega) hx, sub x⟩
theorem dpAll_perm {K : PySem.W.Frag} {H : Hp} {ys xs : List V} (hp : ys.Perm xs) : ∀ {rs : List (List Int)}, DpAll K H xs (rs.map rowD) → ∃ rs' : List (List Int), rs'.Perm rs ∧ DpAll K H ys (rs'.map rowD) := by
  induction hp with
  | nil => exact fun {rs} h => ⟨rs, List.Perm.refl _, h⟩
  | cons x _ ih =>
    intro rs h
    cases rs with
    | nil => cases h
    | cons r rs =>
      cases h with
      | cons h1 h2 =>
        obtain ⟨rs', p, d⟩ := ih h2
        exact ⟨r :: rs', p.cons r, .cons h1 d⟩
  | swap x y l =>
    intro rs h
    match rs, h with
    | [], h => cases h
    | [r], h =>
      cases h with
      | cons h1 h2 => cases h2
    | r1 :: r2 :: rs, h =>
      cases h with
      | cons h1 h2 =>
        cases h2 with
        | cons h2 h3 => exact ⟨r2 :: r1 :: rs, List.Perm.swap _ _ _, .cons h2 (.cons h1 h3)⟩
  | trans _ _ ih1 ih2 =>
    intro rs h
    obtain ⟨r1, p1, d1⟩ := ih2 h
    obtain ⟨r2, p2, d2⟩ := ih1 d1
    exact ⟨r2, p2.trans p1, d2⟩
theorem code_eq (B : Int) : ∀ r : List Int, TS.code B r = codeR B r
  | [] => rfl
  | d :: r => by
    show d * B ^ r.length + TS.code B r = d * B ^ r.length + codeR B r
    rw [code_eq B r]
theorem dpAll_pw {K : PySem.W.Frag} {H : Hp} {B : Int} : ∀ {ys : List V} {rs : List (List Int)}, DpAll K H ys (rs.map rowD) → ys.Pairwise (fun x y => ∀ n m, TupI K H x n → TupI K H y m → TS.code B m ≤ TS.code B n) → rs.Pairwise fun a b => codeR B b ≤ codeR B a
  | _, [], _, _ => List.Pairwise.nil
  | _, r :: rs, h, hp => by
    cases h with
    | @cons y ys _ _ h1 h2 =>
      obtain ⟨p1, p2⟩ := List.pairwise_cons.mp hp
      refine List.pairwise_cons.mpr ⟨fun b hb => ?_, dpAll_pw h2 p2⟩
      obtain ⟨i, hi, rfl⟩ := List.getElem_of_mem hb
      have hi' : i < ys.length := by rw [rows_len h2]; exact hi
      obtain ⟨c, r2, ec, gr, _, hc⟩ := dpAll_row h2 (List.getElem?_eq_getElem hi')
      rw [List.getElem?_eq_getElem hi] at gr
      have er : rs[i] = r2 := Option.some.inj gr
      obtain ⟨a, ea, ha⟩ := dp_row h1
      have := p1 ys[i] (List.getElem_mem hi') r rs[i] ⟨a, ea, ha⟩ ⟨c, ec, by rw [er]; exact hc⟩
      rwa [code_eq, code_eq] at this
theorem hasR_iff {p : Int} (hF : Fld p) {n : Nat} {room : List (List Int)} (h : PFR p n room) {r : List Int} (hr : RowsOk p n [r]) : (leftR p room r).all (fun x => decide (x = 0)) = hasR p n room r := by
  have e := PFR.left_has hF h hr
  unfold hasR
  by_cases c : (plainR p n (room ++ [r])).length = (plainR p n room).length
  · rw [decide_eq_true c, List.all_eq_true]
    exact fun x hx => decide_eq_true (e.mpr c x hx)
  · rw [decide_eq_false c, Bool.eq_false_iff]
    intro z
    exact c (e.mp fun x hx => of_decide_eq_true (List.all_eq_true.mp z x hx))
theorem rowOk_getD {p : Int} {r : List Int} {n : Nat} (h : r.length = n ∧ ∀ x ∈ r, 0 ≤ x ∧ x < p) {j : Nat} (hj : j < n) : 0 ≤ r.getD j 0 ∧ r.getD j 0 < p := by
  rw [gd_lt (by omega)]
  exact h.2 _ (List.getElem_mem _)
theorem at_row {r : List Int} {j : Nat} (h : j < r.length) : atI (r.map V.int) (j : Int) = some (.int (r.getD j 0)) := at_of (j := j) rfl (by rw [List.getElem?_map, List.getElem?_eq_getElem h, gd_lt h]; rfl)
theorem rowsOk_one {p : Int} {n : Nat} {r : List Int} (h : r.length = n ∧ ∀ x ∈ r, 0 ≤ x ∧ x < p) : RowsOk p n [r] := fun x hx => by
  have : x = r := by simpa using hx
  rw [this]
  exact h
theorem leftR_take {p : Int} {room : List (List Int)} {r : List Int} {i : Nat} {b : List Int} (h : room[i]? = some b) : leftR p (room.take (i + 1)) r = lessR p (leftR p (room.take i) r) b (fpR b) := by
  unfold leftR
  rw [List.take_add_one, h, List.foldl_append]
  rfl
theorem leftR_ok {p : Int} (hp : 0 < p) {n : Nat} : ∀ (room : List (List Int)) (r : List Int), RowsOk p n room → RowsOk p n [r] → RowsOk p n [leftR p room r]
  | [], _, _, h => h
  | b :: room, r, h1, h2 => leftR_ok hp room _ (fun x hx => h1 x (List.mem_cons_of_mem _ hx)) (rowsOk_one (less_row hp (h2 r List.mem_cons_self).1 (h1 b List.mem_cons_self).1 _))
end OC
set_option Elab.async false
set_option linter.all false
set_option maxRecDepth 100000
/-! rooms as data; comprehensions of plain values -/
namespace OC
open PySem PySem.Spec PyProof.Rows L2 Lin
abbrev Bad (d c : Addr) : Addr → Prop := fun a => a = d ∨ a = c
theorem Deck.fresh {H : Hp} {d c p : Addr} {t : Int} (D : Deck H d c t) (n : H p = none) : ¬ Bad d c p := by
  obtain ⟨hd, ⟨cells, h1, h2⟩, _, t0⟩ := D
  rintro (z | z)
  · subst z; rw [hd] at n; cases n
  · subst z; rw [h1] at n; cases n
theorem Stays.kept2 {bad : Addr → Prop} {d c : Addr} {t : Int} {H H' : Hp} (D : Deck H d c t) (k : Kept d c H H') (bd : bad d) (bc : bad c) : Stays bad H H' := by
  have s := Stays.kept D k
  refine ⟨s.t, s.d, fun a xs h n => k a _ h (fun z => n (by rw [z]; exact bd)) (fun z => n (by rw [z]; exact bc))⟩
theorem Deck.mut {H : Hp} {d c B : Addr} {t : Int} {o : HO} (D : Deck H d c t) (b : ¬ Bad d c B) : Deck (upd H B o) d c t := by
  obtain ⟨hd, ⟨cells, h1, h2⟩, n, t0⟩ := D
  exact ⟨by rw [upd_ne (fun z => b (.inl z.symm))]; exact hd, ⟨cells, by rw [upd_ne (fun z => b (.inr z.symm))]; exact h1, h2⟩, n, t0⟩
theorem Kept.mut {H H' : Hp} {d c B : Addr} {o : HO} (k : Kept d c H H') (n : H B = none) : Kept d c H (upd H' B o) := fun b x h n1 n2 => by
  rw [upd_ne (ne_of_none h n)]
  exact k b x h n1 n2
theorem Kept.rows {K : PySem.W.Frag} {H H' : Hp} {d c : Addr} {t : Int} {a : Addr} {rs : List (List Int)} (D : Deck H d c t) (k : Kept d c H H') (h : RowsAt K H a rs) : RowsAt K H' a rs := by
  obtain ⟨ws, h1, h2⟩ := h
  exact ⟨ws, Kept.tup D k h1, dpAll_tk (Tk.kept D k) _ _ (noL_rows rs) h2⟩
/-- [t for x in xs], t no object -/
theorem lc_valR {K : PySem.W.Frag} {J : It} {G : Hp → Prop} {vs : List V} {ds : List PyData} {σ : L2.St} {H : Hp} {Qd : Addr → Hp → Prop} {i : Nat} {sl : List Nat} {te : TE} (f : PyData → V)
    (w : Walk J vs.length G (YAt vs)) (hG : ∀ H', Same H H' → G H') (hD : RepAll K H NB vs ds) (hz : vs.length ≤ 1000) (hw : ∀ x : Option V, wipe ((wipe σ sl).set i x) sl = wipe σ sl)
    (hte : ∀ (v : V) (d : PyData) (H' : Hp) (Q' : VK), d ∈ ds → Rep K H' NB v d → Same H H' → (∀ H'', Same H' H'' → Q' (f d) H'') → te ((wipe σ sl).set i (some v)) H' Q')
    (hd : ∀ D H', Same H H' → H D = none → H' D = some (.lst (ds.map f)) → Qd D H') : LcGoal J (gName i) tYes te sl σ H Qd := by
  intro D nD
  have lv := repAll_len hD
  refine lc_it w (fun k H' => Same H H' ∧ H' D = some (.lst ((ds.take k).map f))) ⟨same_mut (Same.refl H) nD, upd_same⟩ (fun k H' _ hP => hG H' hP.1) (fun k x H1 H2 hk hP hY => ?_) (fun H' hP => ?_)
  · obtain ⟨rfl, e1⟩ := hY
    obtain ⟨sm, eD⟩ := hP
    obtain ⟨d, g, md, rx⟩ := repAll_get hD e1
    refine ⟨hw _, hte x d _ _ md (rep_stays (Stays.of sm) _ _ rx) sm fun H'' s2 => ?_⟩
    refine ⟨_, s2 _ _ eD, ?_, same_mut (sm.trans s2) nD, ?_⟩
    · rw [List.length_map, List.length_take]
      exact small1000 (by omega)
    · rw [upd_same, List.take_add_one, g, List.map_append]
      rfl
  · obtain ⟨sm, eD⟩ := hP
    rw [List.take_of_length_le (by omega)] at eD
    exact hd D H' sm nD eD
/-! ### rooms as data -/
theorem rests_ints {p : Int} : ∀ {es : List PyData}, es.all (restD p) = true → es = (es.map fun d => match d with | .int i => i | _ => 0).map PyData.int ∧ ∀ x ∈ es.map (fun d => match d with | .int i => i | _ => 0), 0 ≤ x ∧ x < p
  | [], _ => ⟨rfl, fun x hx => nomatch hx⟩
  | e :: es, h => by
    rw [List.all_cons, Bool.and_eq_true] at h
    obtain ⟨h1, h2⟩ := rests_ints h.2
    cases e with
    | int i =>
      have hi : (decide (0 ≤ i) && decide (i < p)) = true := h.1
      rw [Bool.and_eq_true] at hi
      refine ⟨?_, fun x hx => ?_⟩
      · rw [List.map_cons, List.map_cons, ← h1]
      · rw [List.map_cons] at hx
        rcases List.mem_cons.mp hx with rfl | hx
        · exact ⟨of_decide_eq_true hi.1, of_decide_eq_true hi.2⟩
        · exact h2 x hx
    | _ => exact (Bool.false_ne_true h.1).elim
theorem row_of {p : Int} {n : Nat} {d : PyData} (h : isRowD p n d = true) : d = rowD (intsOf d) ∧ (intsOf d).length = n ∧ ∀ x ∈ intsOf d, 0 ≤ x ∧ x < p := by
  cases d with
  | tuple es =>
    have h : (decide ((es.length : Int) = n) && es.all (restD p)) = true := h
    rw [Bool.and_eq_true] at h
    obtain ⟨h1, h2⟩ := rests_ints h.2
    have hl := of_decide_eq_true h.1
    refine ⟨?_, ?_, h2⟩
    · show PyData.tuple es = PyData.tuple _
      congr 1
    · show (es.map _).length = n
      rw [List.length_map]
      omega
  | _ => exact (Bool.false_ne_true h).elim
theorem rows_of {p : Int} {n : Nat} {ds : List PyData} (h : ds.all (isRowD p n) = true) : ds = (ds.map intsOf).map rowD ∧ RowsOk p n (ds.map intsOf) := by
  have h := List.all_eq_true.mp h
  constructor
  · rw [List.map_map]
    refine (List.map_id ds).symm.trans (List.map_congr_left fun d hd => ?_)
    exact (row_of (h d hd)).1
  · intro r hr
    obtain ⟨d, hd, rfl⟩ := List.mem_map.mp hr
    exact (row_of (h d hd)).2
theorem isRow_row {p : Int} {n : Nat} {r : List Int} (h : r.length = n ∧ ∀ x ∈ r, 0 ≤ x ∧ x < p) : isRowD p n (rowD r) = true := by
  show (decide (((r.map PyData.int).length : Int) = n) && (r.map PyData.int).all (restD p)) = true
  rw [List.length_map, h.1, decide_eq_true rfl, Bool.true_and, List.all_map, List.all_eq_true]
  intro x hx
  show (decide (0 ≤ x) && decide (x < p)) = true
  have := h.2 x hx
  rw [decide_eq_true this.1, decide_eq_true this.2]
  rfl
end OC
set_option Elab.async false
set_option linter.all false
set_option maxRecDepth 100000
/-! lists of things, filled while the deck is drawn from -/
namespace OC
open PySem PySem.Spec PyProof.Rows L2
theorem cut_upto {xs : List V} {i : Int} (h0 : 0 ≤ i) : cutV xs none (some i) = xs.take i.toNat := by
  unfold cutV
  have e : HT.sIx xs.length xs.length (some i) = min i.toNat xs.length := by
    have := HT.sIx_nat xs.length xs.length i.toNat
    rw [show ((i.toNat : Nat) : Int) = i by omega] at this
    exact this
  rw [e, HT.sIx_none, List.drop_zero, Nat.sub_zero, ← List.take_eq_take_min]
structure Th (K : PySem.W.Frag) (H : Hp) (d c M : Addr) (vs : List V) (es : List PyData) : Prop where
  m : H M = some (.lst vs)
  nb : ¬ Bad d c M
  r : RepAll K H (fun a => Bad d c a ∨ a = M) vs es
section
variable {K : PySem.W.Frag} {H H' : Hp} {d c M : Addr} {t : Int} {vs : List V} {es : List PyData}
theorem Th.same (h : Th K H d c M vs es) (s : Same H H') : Th K H' d c M vs es := ⟨s _ _ h.m, h.nb, repAll_stays (Stays.of s) _ _ h.r⟩
theorem Th.kept (h : Th K H d c M vs es) (D : Deck H d c t) (k : Kept d c H H') : Th K H' d c M vs es :=
  ⟨k _ _ h.m (fun z => h.nb (.inl z)) (fun z => h.nb (.inr z)), h.nb, repAll_stays (Stays.kept2 D k (.inl (.inl rfl)) (.inl (.inr rfl))) _ _ h.r⟩
theorem Th.push (h : Th K H d c M vs es) {v : V} {e : PyData} (r : Rep K H (fun a => Bad d c a ∨ a = M) v e) : Th K (upd H M (.lst (vs ++ [v]))) d c M (vs ++ [v]) (es ++ [e]) := by
  have st : Stays (fun a => Bad d c a ∨ a = M) H (upd H M (.lst (vs ++ [v]))) := upd_stays (Stays.of (Same.refl H)) h.m (.inr rfl)
  exact ⟨upd_same, h.nb, repAll_append (repAll_stays st _ _ h.r) (.cons (rep_stays st _ _ r) .nil)⟩
theorem Th.new (D : Deck H d c t) (n : H M = none) (r : RepAll K H (Bad d c) vs es) : Th K (upd H M (.lst vs)) d c M vs es :=
  ⟨upd_same, D.fresh n, repAll_stays (Stays.of (same_upd n)) _ _ (repAll_fresh n _ _ r)⟩
theorem Th.len (h : Th K H d c M vs es) : vs.length = es.length := repAll_len h.r
end
end OC
set_option Elab.async false
set_option linter.all false
set_option maxRecDepth 100000
/-! across: the program's own rows, and what they are -/
namespace OC
open PySem PySem.Spec PyProof.Rows L2 Lin
def crossF (p : Int) (room : List (List Int)) (j : Nat) (r0 : List Int) : List Int := room.foldl (fun r b => r.set (fpR b) ((-(b.getD j 0)) % p)) r0
def crossR (p : Int) (n : Nat) (room : List (List Int)) (j : Nat) : List Int := crossF p room j ((List.replicate n 0).set j 1)
def freesR (n : Nat) (room : List (List Int)) : List Nat := (List.range n).filter fun j => !decide (j ∈ room.map fpR)
def acrossR (p : Int) (n : Nat) (room : List (List Int)) : List (List Int) := plainR p n ((freesR n room).map (crossR p n room))
theorem crossF_take {p : Int} {room : List (List Int)} {j i : Nat} {b r0 : List Int} (h : room[i]? = some b) : crossF p (room.take (i + 1)) j r0 = (crossF p (room.take i) j r0).set (fpR b) ((-(b.getD j 0)) % p) := by
  unfold crossF
  rw [List.take_add_one, h, List.foldl_append]
  rfl
theorem crossF_len (p : Int) (j : Nat) : ∀ (room : List (List Int)) (r0 : List Int), (crossF p room j r0).length = r0.length
  | [], _ => rfl
  | b :: room, r0 => by
    show (crossF p room j (r0.set (fpR b) _)).length = _
    rw [crossF_len p j room, List.length_set]
theorem crossF_ok {p : Int} (hp : 0 < p) (j : Nat) : ∀ (room : List (List Int)) (r0 : List Int), (∀ x ∈ r0, 0 ≤ x ∧ x < p) → ∀ x ∈ crossF p room j r0, 0 ≤ x ∧ x < p
  | [], _, h => h
  | b :: room, r0, h => crossF_ok hp j room _ fun x hx => by
    rcases List.mem_or_eq_of_mem_set hx with hx | rfl
    · exact h x hx
    · exact ⟨Int.emod_nonneg _ (by omega), Int.emod_lt_of_pos _ hp⟩
theorem crossR_ok {p : Int} (hp : 2 ≤ p) (n : Nat) (room : List (List Int)) (j : Nat) : (crossR p n room j).length = n ∧ ∀ x ∈ crossR p n room j, 0 ≤ x ∧ x < p := by
  refine ⟨?_, crossF_ok (by omega) j room _ fun x hx => ?_⟩
  · unfold crossR
    rw [crossF_len, List.length_set, List.length_replicate]
  · rcases List.mem_or_eq_of_mem_set hx with hx | rfl
    · rw [List.eq_of_mem_replicate hx]
      omega
    · omega
section
variable {q : Nat} [NeZero q]
theorem getD_set {r : List Int} {k : Nat} {v : Int} (hk : k < r.length) (i : Nat) : (r.set k v).getD i 0 = if i = k then v else r.getD i 0 := by
  by_cases h : i = k
  · subst h
    rw [if_pos rfl, gd_lt (by rw [List.length_set]; exact hk), List.getElem_set_self]
  · rw [if_neg h]
    by_cases hi : i < r.length
    · rw [gd_lt (by rw [List.length_set]; exact hi), List.getElem_set_ne (fun z => h z.symm), gd_lt hi]
    · rw [gd_ge (by rw [List.length_set]; omega), gd_ge (by omega)]
theorem cF_neg (x : Int) : cF (q := q) (-x) = -cF x := by
  have h := cF_sub (q := q) 0 x
  rw [Int.zero_sub, cF_zero] at h
  rw [h]
  grind
theorem crossF_sim {n : Nat} (j : Nat) : ∀ (room : List (List Int)) (bs : List (Nat × Vec q)) (r0 : List Int), RowsOk q n room → r0.length = n → bs.map (·.2) = room.map (toV (q := q)) → (∀ b ∈ bs, Lead b.2 b.1 ∧ b.1 < n) → bs.Pairwise (fun a b => a.1 < b.1) → (∀ b ∈ bs, r0.getD b.1 0 = 0) →
    toV (q := q) (crossF q room j r0) = fun i => toV r0 i + (crossV bs j i - unitV j i)
  | [], [], r0, _, _, _, _, _, _ => by
    funext i
    show toV r0 i = toV r0 i + (unitV j i - unitV j i)
    grind
  | [], _ :: _, _, _, _, e, _, _, _ => by cases e
  | _ :: _, [], _, _, _, e, _, _, _ => by cases e
  | c :: room, b :: bs, r0, h1, h2, e, hl, hi, hz => by
    rw [List.map_cons, List.map_cons] at e
    obtain ⟨e1, e2⟩ := List.cons.inj e
    obtain ⟨i1, i2⟩ := List.pairwise_cons.mp hi
    have hc := h1 c List.mem_cons_self
    have hb := hl b List.mem_cons_self
    have fj : fpR c = b.1 := fpR_lead (q := q) hc.2 (by rw [← e1]; exact hb.1)
    have hlt : fpR c < r0.length := by rw [fj, h2]; exact hb.2
    have ih := crossF_sim j room bs (r0.set (fpR c) ((-(c.getD j 0)) % q)) (fun x hx => h1 x (List.mem_cons_of_mem _ hx)) (by rw [List.length_set]; exact h2) e2 (fun x hx => hl x (List.mem_cons_of_mem _ hx)) i2 fun x hx => by
      rw [getD_set hlt, if_neg (by rw [fj]; have := i1 x hx; omega)]
      exact hz x (List.mem_cons_of_mem _ hx)
    show toV (q := q) (crossF q room j (r0.set (fpR c) ((-(c.getD j 0)) % q))) = _
    rw [ih]
    funext i
    show cF ((r0.set (fpR c) ((-(c.getD j 0)) % q)).getD i 0) + (crossV bs j i - unitV j i) = toV r0 i + ((-(b.2 j)) * unitV b.1 i + crossV bs j i - unitV j i)
    have ej : b.2 j = cF (c.getD j 0) := congrFun e1 j
    have hz0 := hz b List.mem_cons_self
    rw [getD_set hlt, fj, ej]
    unfold unitV
    by_cases hib : i = b.1
    · subst hib
      rw [if_pos rfl, if_pos rfl, cF_mod, cF_neg]
      show -cF (c.getD j 0) + _ = cF (r0.getD b.1 0) + _
      rw [hz0, cF_zero]
      grind
    · rw [if_neg hib, if_neg hib]
      show cF (r0.getD i 0) + _ = cF (r0.getD i 0) + _
      grind
theorem firsts_eq {n : Nat} : ∀ (room : List (List Int)) (bs : List (Nat × Vec q)), RowsOk q n room → bs.map (·.2) = room.map (toV (q := q)) → (∀ b ∈ bs, Lead b.2 b.1) → room.map fpR = bs.map (·.1)
  | [], [], _, _, _ => rfl
  | [], _ :: _, _, e, _ => by cases e
  | _ :: _, [], _, e, _ => by cases e
  | c :: room, b :: bs, h1, e, hl => by
    rw [List.map_cons, List.map_cons] at e
    obtain ⟨e1, e2⟩ := List.cons.inj e
    rw [List.map_cons, List.map_cons, firsts_eq room bs (fun x hx => h1 x (List.mem_cons_of_mem _ hx)) e2 fun x hx => hl x (List.mem_cons_of_mem _ hx), fpR_lead (q := q) (h1 c List.mem_cons_self).2 (by rw [← e1]; exact hl b List.mem_cons_self)]
/-- the rows by the free places, as vectors -/
theorem IsPF.cross (hF : Fld (q : Int)) {n : Nat} {room : List (List Int)} (h : IsPF q n room) : ∃ bs : List (Nat × Vec q), PF n bs ∧ bs.map (·.2) = room.map (toV (q := q)) ∧ ((freesR n room).map (crossR q n room)).map (toV (q := q)) = (frees n bs).map (crossV bs) := by
  obtain ⟨ok, bs, pf, e⟩ := h
  have ld : ∀ b ∈ bs, Lead b.2 b.1 := fun b hb => pf.leads (one_ne (q2 hF)) hb
  have ef := firsts_eq room bs ok e ld
  refine ⟨bs, pf, e, ?_⟩
  have e1 : freesR n room = frees n bs := by
    unfold freesR frees isFirst
    rw [ef]
  rw [e1, List.map_map]
  apply List.map_congr_left
  intro j hj
  obtain ⟨jn, jf⟩ := mem_frees.mp hj
  have hz : ∀ b ∈ bs, ((List.replicate n (0 : Int)).set j 1).getD b.1 0 = 0 := fun b hb => by
    rw [getD_set (by rw [List.length_replicate]; exact jn), if_neg (jf b hb), gd_lt (by rw [List.length_replicate]; exact pf.lt b hb), List.getElem_replicate]
  show toV (q := q) (crossF q room j ((List.replicate n 0).set j 1)) = crossV bs j
  rw [crossF_sim (n := n) j room bs _ ok (by rw [List.length_set, List.length_replicate]) e (fun b hb => ⟨ld b hb, pf.lt b hb⟩) pf.inc hz]
  funext i
  have eu : toV (q := q) ((List.replicate n (0 : Int)).set j 1) i = unitV j i := by
    show cF (((List.replicate n (0 : Int)).set j 1).getD i 0) = _
    rw [getD_set (by rw [List.length_replicate]; exact jn)]
    unfold unitV
    by_cases hij : i = j
    · rw [if_pos hij, if_pos hij, cF_one (q2 hF)]
    · rw [if_neg hij, if_neg hij]
      by_cases hi : i < n
      · rw [gd_lt (by rw [List.length_replicate]; exact hi), List.getElem_replicate, cF_zero]
      · rw [gd_ge (by rw [List.length_replicate]; omega), cF_zero]
  rw [eu]
  grind
theorem free_rows {p : Int} (hp : 2 ≤ p) (n : Nat) (room : List (List Int)) : RowsOk p n ((freesR n room).map (crossR p n room)) := fun r hr => by
  obtain ⟨j, _, rfl⟩ := List.mem_map.mp hr
  exact crossR_ok hp n room j
theorem acrossR_perp (hF : Fld (q : Int)) {n : Nat} {room : List (List Int)} (h : IsPF q n room) (w : Vec q) : Mk q (acrossR q n room) w ↔ Perp n (Mk q room) w := by
  obtain ⟨bs, pf, e, ec⟩ := h.cross hF
  unfold acrossR
  rw [plainR_mk hF (free_rows hF.1 n room)]
  unfold Mk
  rw [ec, ← e]
  exact pf.perp_spn w
theorem good (hF : Fld (q : Int)) (n : Nat) : Good (invF (q := q)) n := ⟨one_ne (q2 hF), invF_ok hF⟩
theorem acrossR_pf (hF : Fld (q : Int)) (n : Nat) (room : List (List Int)) : IsPF q n (acrossR q n room) := plainR_pf hF (free_rows hF.1 n room)
/-- a row is of the room just where it is worth 0 at all worlds across -/
theorem perp_across (hF : Fld (q : Int)) {n : Nat} {room : List (List Int)} (h : IsPF q n room) (x : Vec q) : Perp n (Mk q (acrossR q n room)) x ↔ Mk q room x := by
  obtain ⟨_, bs, pb, eb⟩ := id h
  obtain ⟨_, cs, pc, ec⟩ := acrossR_pf hF n room
  have := (good hF n).perp_perp pb pc (fun w => by
    have := acrossR_perp hF h w
    unfold Mk at this
    rwa [← eb, ← ec] at this) x
  unfold Mk
  rwa [← eb, ← ec]
/-! ### worth -/
end
theorem PFR.across {p : Int} (hF : Fld p) (n : Nat) (room : List (List Int)) : PFR p n (acrossR p n room) := PFR.of_plain hF (free_rows hF.1 n room)
end OC
set_option Elab.async false
set_option linter.all false
set_option maxRecDepth 100000
set_option maxHeartbeats 2000000
/-! repr of any thing, lists with dicts too: the modules' own dict is none of them -/
namespace OC
open PySem PySem.Spec PyProof.Rows L2
def HasSys (base : Heap) : Prop := ∃ o, base.get? sysModules = some o
section
variable {X : Cx} {pins : List (Addr × Obj)} {σ : L2.St} {H : Hp} {s : Shared} {bad : Addr → Prop}
theorem sys_none (hs : HasSys X.base) (I : Inv X pins σ H s) : H sysModules = none := by
  obtain ⟨o, e⟩ := hs
  exact (I.bs _ _ e).2
mutual
theorem rep_readsS (hs : HasSys X.base) (I : Inv X pins σ H s) : ∀ (d : PyData) (v : V) (u : Value), Rep X.K H bad v d → RelV v u → ∃ as, Reads s.heap u d as ∧ sysModules ∉ as
  | .none, _, _, h, r => by cases h; cases r; exact ⟨_, .none, nofun⟩
  | .bool b, _, _, h, r => by cases h; cases r; exact ⟨_, .bool b, nofun⟩
  | .int i, _, _, h, r => by cases h; obtain ⟨t, rfl⟩ := r; exact ⟨_, .int i t, nofun⟩
  | .str x, _, _, h, r => by cases h; obtain ⟨t, rfl⟩ := r; exact ⟨_, .str x t, nofun⟩
  | .list ds, _, _, h, r => by
    cases h with
    | @lst a xs _ hq hb ha =>
      cases r
      have ne : sysModules ≠ a := fun z => by
        have := sys_none hs I
        rw [z, hq] at this
        cases this
      obtain ⟨its, rv, ⟨o, n, ho, hc, _, hd⟩, _⟩ := I.list (.inl (.inl hq))
      obtain ⟨as, q, f⟩ := repAll_readsS hs I ds _ its ha rv
      refine ⟨_, .list ho hc hd q, fun m => ?_⟩
      first
        | exact f m
        | (rcases List.mem_cons.mp m with z | m; exact ne z; exact f m)
  | .tuple ds, _, _, h, r => by
    cases h with
    | tup hq ha =>
      cases r
      obtain ⟨its, rv, ⟨o, ho, hc, n, hd⟩, _⟩ := I.tuple hq
      obtain ⟨as, q, f⟩ := repAll_readsS hs I ds _ its ha rv
      exact ⟨_, .tuple ho hc hd q, f⟩
  | .dict kvs, v, u, h, r => by
    cases h with
    | @dct a ks hq hf =>
      cases r
      obtain ⟨_, hsys, vs, kv, o, es, ep, ho, hx, hd, _, hp, _⟩ := I.hok a _ hq
      obtain ⟨r1, r2⟩ := reads_pairs (h := s.heap) hp kv hf
      refine ⟨a :: [] ++ [], .dict ho hx.1 hd (by rw [List.map_map]; exact r1) (by rw [List.map_map]; exact r2), fun m => ?_⟩
      have e : sysModules = a := by simpa using m
      rw [← e] at hsys
      simp at hsys
theorem repAll_readsS (hs : HasSys X.base) (I : Inv X pins σ H s) : ∀ (ds : List PyData) (vs : List V) (us : List Value), RepAll X.K H bad vs ds → Vals vs us → ∃ as, ReadsAll s.heap us ds as ∧ sysModules ∉ as
  | [], _, _, h, r => by cases h; cases r; exact ⟨_, .nil, nofun⟩
  | d :: ds, _, _, h, r => by
    cases h with
    | cons h1 h2 =>
      cases r with
      | cons r1 r2 =>
        obtain ⟨as, q1, f1⟩ := rep_readsS hs I d _ _ h1 r1
        obtain ⟨bs, q2, f2⟩ := repAll_readsS hs I ds _ _ h2 r2
        refine ⟨_, .cons q1 q2, fun m => ?_⟩
        rcases List.mem_append.mp m with m | m
        · exact f1 m
        · exact f2 m
end
end
/-- what repr asks of a thing, wherever dicts and lists stand in it -/
structure FitS (d : PyData) : Prop where
  len : d.shown.length ≤ 10000000
  sh : d.showable = true
  dp : d.depth ≤ 55
def rReprS (K : PySem.W.Frag) (bad : Addr → Prop) : List V → Hp → VK → Prop := fun xs H Q => ∃ v d, xs = [v] ∧ Rep K H bad v d ∧ FitS d ∧ Q (.str d.shown) H
theorem call_reprS {X : Cx} {k : Nat} (bad : Addr → Prop) (hs : HasSys X.base) (hr : Room k X.A) (hgd : X.A.guards = some []) : CallR X (.builtin "repr") (rReprS X.K bad) := by
  intro pins s σ H xs us Q I r h
  obtain ⟨v, d, rfl, hv, ⟨fl, fs, fd⟩, q⟩ := h
  cases r with
  | cons r1 r2 =>
    cases r2
    have hz : d.shown.length ≤ sizeLine := Nat.le_trans fl (by decide)
    have hu := hr.units
    obtain ⟨as, rd, hsm⟩ := rep_readsS hs I d v _ hv r1
    cases hv with
    | non => cases r1; exact P.repr_of_none ⟨.str _, H, I.tok _, ⟨_, rfl⟩, q⟩
    | bl b => cases r1; exact P.repr_of_bool ⟨.str _, H, I.tok _, ⟨_, rfl⟩, q⟩
    | int i =>
      obtain ⟨t, rfl⟩ := r1
      exact P.repr_of_int (by simpa [PyData.showable] using fs) ⟨.str _, H, I.tok _, ⟨_, rfl⟩, q⟩
    | str x =>
      obtain ⟨t, rfl⟩ := r1
      exact P.repr_of_str ⟨.str _, H, I.tok _, ⟨_, rfl⟩, q⟩ hz
    | lst _ _ _ => cases r1; exact repr_of_reads' rd fs (fun _ => hsm) hgd (by omega) (fun _ _ e => e) (fun h' u tk hk => ⟨.str _, H, I.kept hk, ⟨_, rfl⟩, q⟩) hz
    | tup _ _ => cases r1; exact repr_of_reads' rd fs (fun _ => hsm) hgd (by omega) (fun _ _ e => e) (fun h' u tk hk => ⟨.str _, H, I.kept hk, ⟨_, rfl⟩, q⟩) hz
    | dct _ _ => cases r1; exact repr_of_reads' rd fs (fun _ => hsm) hgd (by omega) (fun _ _ e => e) (fun h' u tk hk => ⟨.str _, H, I.kept hk, ⟨_, rfl⟩, q⟩) hz
/-! ### the end, with that -/
section
variable {P : Program} {w : World} {K : PySem.W.Frag} {mg mb : Str → Option Value} {CX : CXT} {k : Nat} {fa a : Addr} {fd : FuncData} {x : Str} {sp : Sp} {s₁ : Shared} {vs : List Value} {ns : List Int}
theorem law_callS (KX : K.In s₁.heap) (hns : s₁.heap.Ns mainGlobals mg) (hb : s₁.heap.Ns builtinsNs mb) (hbb : ∀ x : Str, x ≠ "__name__" → mb x = bootBuiltins x) (hsy : ∃ mm, s₁.heap.Ns sysModules mm)
    (hlim : s₁.heap.NoLimit) (hg : s₁.gens = #[]) (ha : s₁.heap.get? a = some { cls := .type "list", data := .seq vs.toArray }) (hi : IntsAre vs ns) (hl : ns.length ≤ sizeLine) (hr : Room k callerA)
    (F : ∀ base : Heap, K.In base → base.Ns mainGlobals mg → HasSys base → FnG P w K mg base CX k fa fd [x] sp)
    (hbind : ∀ (s : Shared) (u : Value), BindsTo s fd ⟨[u], []⟩ [(x, u)])
    (hsp : ∀ H : Hp, Only H → SqL K H a (ns.map V.int) → sp [.ref a] H (fun v _ => v = .bl true) fun _ _ _ => False) (hCX : ∀ H e s', CX [] H s₁ (fun _ _ _ => False) e s' → False) :
    codeAny (model P w) callerA (.call (.ref fa) ⟨[.ref a], []⟩) (fun r s' => r = .ok (.ret (.bool true)) ∧ OldK s₁.heap s'.heap ∧ s'.os = s₁.os ∧ AllBare s'.gens) s₁ := by
  obtain ⟨mm, hmm⟩ := hsy
  -- a promise that asks for the modules' dict is one of those that ask for it anyway
  have core : ∀ H : Hp, Only H → sp [.ref a] H (fun v _ => v = .bl true) (fun _ _ _ => False) → HOk P w H s₁.heap → (∀ b, H b ≠ none → b = a) → (H a ≠ none → K.lookup a = none) →
      codeAny (model P w) callerA (.call (.ref fa) ⟨[.ref a], []⟩) (fun r s' => r = .ok (.ret (.bool true)) ∧ OldK s₁.heap s'.heap ∧ s'.os = s₁.os ∧ AllBare s'.gens) s₁ := by
    intro H hO hsp hok hA hK
    have off : ∀ {b : Addr} {o : Obj} {es : Array DictEntry} {ep : Nat}, s₁.heap.get? b = some o → o.data = .dict es ep → H b = none := by
      intro b o es ep e d
      apply Classical.byContradiction
      intro nb
      have eb := hA b nb
      subst eb
      rw [ha] at e
      have eo := Option.some.inj e
      subst eo
      cases (show Data.seq vs.toArray _ = Data.dict es ep from d)
    have nsB : ∀ {b : Addr} {m : Str → Option Value}, s₁.heap.Ns b m → (hidT s₁.heap H).Ns b m := by
      rintro b m ⟨o, es, ep, e, d, r⟩
      exact ⟨o, es, ep, hidT_get e (off e d), d, r⟩
    have inB : K.In (hidT s₁.heap H) := by
      intro b o e
      refine hidT_get (KX b o e) ?_
      apply Classical.byContradiction
      intro nb
      have eb := hA b nb
      subst eb
      rw [hK nb] at e
      cases e
    obtain ⟨mc, l1, l2⟩ := hlim
    have M : Mod K mg (hidT s₁.heap H) := ⟨inB, nsB hns, ⟨mb, nsB hb, hbb⟩, ⟨mc, nsB l1, l2⟩⟩
    have hs : HasSys (hidT s₁.heap H) := by
      obtain ⟨o, es, ep, e, _⟩ := nsB hmm
      exact ⟨o, e⟩
    have e0 : Env0 P w K mg (hidT s₁.heap H) callerA [] s₁ H :=
      ⟨rfl, M, fun b o e => of_hidT e, Nat.le_of_eq (hidT_size _ _), trivial, fun b hb => (nomatch (show b ∈ ([] : List Addr) from hb)), hok, .of_eq hg⟩
    have run := (F _ inB (nsB hns) hs).go callerA [] s₁ H ⟨[.ref a], []⟩ [.ref a] [.ref a] _ _ hr rfl e0 (hbind s₁ (.ref a)) (.cons rfl .nil) hsp
    apply codeAny_mono run
    intro r s' h
    rcases r with e | fl
    · exact (hCX H e s' h).elim
    · rcases fl with _ | _ | _ | u
      all_goals first
        | exact (show False from h).elim
        | skip
      obtain ⟨v, H', os, bare, un, hok', r', q⟩ := h
      cases (show v = .bl true from q)
      cases (show u = Value.bool true from r')
      refine ⟨rfl, OldK.of_keep ?_, os, bare⟩
      intro b o e
      rcases hO b with z | ⟨ob, xs, z⟩
      · exact un.keep b o e z (fun y => (nomatch (show b ∈ ([] : List Addr) from y))) (fun y => (nomatch y))
      · have e1 := (hok b _ z).1
        have e2 := (hok' b _ (un.frzs b ob _ z)).1
        rw [e] at e1
        rw [Option.some.inj e1]
        exact e2
  have rv := vals_ints hi
  have lv := hi.length
  cases hk : K.lookup a with
  | some o =>
    have e := KX a o hk
    rw [ha] at e
    have eo := (Option.some.inj e).symm
    subst eo
    have only : Only (fun _ => none) := fun _ => .inl rfl
    have sq : SqL K (fun _ => none) a (ns.map V.int) := .inr ⟨_, vs.toArray, _, hk, rfl, rfl, rfl, by rw [List.size_toArray, lv]; exact hl, by simpa using rv⟩
    exact core (fun _ => none) only (hsp _ only sq) (fun b u z => (nomatch (show (none : Option HO) = some u from z))) (fun b z => (z rfl).elim) (fun z => (z rfl).elim)
  | none =>
    let H0 : Hp := upd (fun _ => none) a (.frz { cls := .type "list", data := .seq vs.toArray } (.lst (ns.map V.int)))
    have at_a : H0 a = some (.frz { cls := .type "list", data := .seq vs.toArray } (.lst (ns.map V.int))) := upd_same
    have off : ∀ b, b ≠ a → H0 b = none := fun b n => upd_ne n
    have only : Only H0 := by
      intro b
      by_cases hb : b = a
      · subst hb
        exact .inr ⟨_, _, at_a⟩
      · exact .inl (off b hb)
    refine core H0 only (hsp _ only (.inl (.inr ⟨_, at_a⟩))) ?_ ?_ (fun _ => hk)
    · intro b u z
      by_cases hb : b = a
      · subst hb
        rw [at_a] at z
        have ez := (Option.some.inj z).symm
        subst ez
        exact ⟨ha, by rw [List.length_map]; exact hl, vs, _, rv, ha⟩
      · rw [off b hb] at z
        cases z
    · intro b z
      apply Classical.byContradiction
      intro hb
      exact z (off b hb)
end
theorem walk_ofS {l : PySem.W.OpenLaw} {n k : Nat} {q : Program} {loose : List Str} {XP : (Str → Option Value) → Heap → Prop} {YP : World → Heap → Prop} {d : DefRec} {K : Params → PySem.W.Frag} {CX : World → CXT} {sp : World → Sp} {x : Str}
    (hn : l.most = some n) (hn2 : n ≤ sizeLine) (hdf : d.params.defaults = []) (hr : Room k callerA) (him : importsNone q = true) (hY : ∀ (w : World) (h : Heap), YP w h → (K w.params).In h) (F : ∀ (w : World) (mg : Str → Option Value) (fa : Addr) (h : Heap), (K w.params).In h → h.Ns mainGlobals mg → mg d.name = some (.ref fa) → ∃ fd : FuncData, (∀ (s : Shared) (u : Value), BindsTo s fd ⟨[u], []⟩ [(x, u)]) ∧ ∀ base : Heap, (K w.params).In base → base.Ns mainGlobals mg → HasSys base → FnG l.prog w (K w.params) mg base (CX w) k fa fd [x] (sp w)) (hsp : ∀ (w : World) (H : Hp) (a : Addr) (ns : List Int), ns.length ≤ n → Only H → SqL (K w.params) H a (ns.map V.int) → sp w [.ref a] H (fun v _ => v = .bl true) fun _ _ _ => False) (hCX : ∀ (w : World) (H : Hp) (s : Shared) (e : Value) (s' : Shared), CX w [] H s (fun _ _ _ => False) e s' → False) : PySem.W.WalkO q loose XP YP l.row.toRowW d [] (fun f vs => PySem.call f vs) := by
  apply Att.attach_call hn hdf
  intro w s₀ s₁ mg mb fa o pm cd doc a vs ns G Y ho hd hcd hmg hobj hints hlen hg
  obtain ⟨fd, hb, hF⟩ := F w mg fa _ (hY w _ Y) G.T.g hmg
  have sy : ∃ mm, s₁.heap.Ns sysModules mm := by
    obtain ⟨mm, h1, _⟩ := (G.T.seer him).mods
    exact ⟨mm, h1⟩
  exact law_callS (hY w _ Y) G.T.g G.T.b G.T.builtins sy G.T.nolimit hg hobj hints (Nat.le_trans hlen hn2) hr hF hb (fun H hO hS => hsp w H a ns hlen hO hS) fun H e s' => hCX w H s₁ e s'
end OC
set_option Elab.async false
set_option linter.all false
set_option maxRecDepth 100000
/-! how rows are made: marked rows, taken off -/
namespace Lin
section
variable {p : Nat} [NeZero p]
theorem lin_snoc : ∀ (fs : List (Fin p)) (vs : List (Vec p)) (c : Fin p) (v : Vec p), fs.length = vs.length → lin (fs ++ [c]) (vs ++ [v]) = addV (lin fs vs) (mulV c v)
  | [], [], c, v, _ => by
    show addV (mulV c v) zeroV = addV zeroV (mulV c v)
    funext i
    show c * v i + 0 = 0 + c * v i
    grind
  | [], _ :: _, _, _, e => by cases e
  | _ :: _, [], _, _, e => by cases e
  | f :: fs, u :: us, c, v, e => by
    show addV (mulV f u) (lin (fs ++ [c]) (us ++ [v])) = addV (addV (mulV f u) (lin fs us)) (mulV c v)
    rw [lin_snoc fs us c v (Nat.succ.inj e)]
    funext i
    show f * u i + (lin fs us i + c * v i) = f * u i + lin fs us i + c * v i
    grind
/-- no row is made by those ahead of it -/
def Free (vs : List (Vec p)) : Prop := ∀ k v, vs[k]? = some v → ¬ Spn (vs.take k) v
theorem Free.init {vs : List (Vec p)} {v : Vec p} (h : Free (vs ++ [v])) : Free vs ∧ ¬ Spn vs v := by
  constructor
  · intro k u hu
    have hk : k < vs.length := (List.getElem?_eq_some_iff.mp hu).1
    have := h k u (by rw [List.getElem?_append_left hk]; exact hu)
    rwa [List.take_append_of_le_length (by omega)] at this
  · have := h vs.length v (by rw [List.getElem?_append_right (Nat.le_refl _), Nat.sub_self]; rfl)
    rwa [List.take_append_of_le_length (Nat.le_refl _), List.take_length] at this
theorem Free.zero (inv : Fin p → Fin p) (hinv : ∀ a : Fin p, a ≠ 0 → inv a * a = 1) : ∀ (m : Nat) (vs : List (Vec p)) (fs : List (Fin p)), vs.length = m → Free vs → fs.length = vs.length → lin fs vs = zeroV → ∀ f ∈ fs, f = 0
  | 0, vs, fs, hm, _, hl, _ => by
    intro f hf
    rw [hm] at hl
    rw [List.length_eq_zero_iff.mp hl] at hf
    cases hf
  | m + 1, vs, fs, hm, hF, hl, hz => by
    obtain ⟨vs', v, rfl⟩ : ∃ vs' v, vs = vs' ++ [v] := by
      rcases List.eq_nil_or_concat vs with h | ⟨a, b, h⟩
      · rw [h] at hm; cases hm
      · exact ⟨a, b, by rw [h]; exact List.concat_eq_append⟩
    obtain ⟨fs', c, rfl⟩ : ∃ fs' c, fs = fs' ++ [c] := by
      rcases List.eq_nil_or_concat fs with h | ⟨a, b, h⟩
      · rw [h, hm] at hl; cases hl
      · exact ⟨a, b, by rw [h]; exact List.concat_eq_append⟩
    rw [List.length_append, List.length_append] at hl
    have hl' : fs'.length = vs'.length := by simpa using hl
    obtain ⟨h1, h2⟩ := hF.init
    rw [lin_snoc fs' vs' c v hl'] at hz
    have c0 : c = 0 := by
      apply Classical.byContradiction
      intro hc
      apply h2
      have hS := spn_sub vs'
      have h3 : Spn vs' (lin fs' vs') := ⟨fs', rfl⟩
      have h4 := hS.mul (-(inv c)) h3
      have e : v = mulV (-(inv c)) (lin fs' vs') := by
        funext i
        have e1 := congrFun hz i
        have e1 : lin fs' vs' i + c * v i = 0 := e1
        have e2 := hinv c hc
        show v i = -(inv c) * lin fs' vs' i
        have e3 : lin fs' vs' i = -(c * v i) := by grind
        rw [e3]
        have : inv c * c * v i = v i := by rw [e2]; grind
        grind
      rw [e]
      exact h4
    have hz' : lin fs' vs' = zeroV := by
      funext i
      have e1 := congrFun hz i
      have e1 : lin fs' vs' i + c * v i = 0 := e1
      rw [c0] at e1
      show lin fs' vs' i = 0
      grind
    intro f hf
    rcases List.mem_append.mp hf with hf | hf
    · exact Free.zero inv hinv m vs' fs' (by rw [List.length_append] at hm; simpa using hm) h1 hl' hz' f hf
    · have : f = c := by simpa using hf
      rw [this]
      exact c0
end
end Lin
namespace OC
open PySem PySem.Spec PyProof.Rows L2 Lin
theorem row_noughts' {p : Int} (hp : 0 < p) (n : Nat) : (List.replicate n (0 : Int)).length = n ∧ ∀ x ∈ List.replicate n (0 : Int), 0 ≤ x ∧ x < p := ⟨List.length_replicate, fun x hx => by
  rw [List.eq_of_mem_replicate hx]
  omega⟩
section
variable {q : Nat} [NeZero q]
theorem toV_plus {x y : List Int} (h : x.length = y.length) (m : Int) : toV (q := q) (plusR q x y m) = addV (toV x) (mulV (cF m) (toV y)) := by
  funext i
  show cF ((plusR q x y m).getD i 0) = cF (x.getD i 0) + cF m * cF (y.getD i 0)
  unfold plusR
  by_cases hi : i < x.length
  · rw [getD_zipWith _ h hi, cF_mod, cF_add, cF_mul]
  · rw [gd_ge (by rw [List.length_zipWith]; omega), gd_ge (r := x) (by omega), gd_ge (r := y) (by omega), cF_zero]
    grind
theorem toV_made {n : Nat} : ∀ (rs : List (List Int)) (F z : List Int), z.length = n → (∀ r ∈ rs, r.length = n) → F.length = rs.length → toV (q := q) (madeR q z (rs.zip F)) = addV (toV z) (lin (F.map (cF (q := q))) (rs.map (toV (q := q))))
  | [], [], z, _, _, _ => by
    funext i
    show toV z i = toV z i + 0
    grind
  | [], _ :: _, _, _, _, e => by cases e
  | _ :: _, [], _, _, _, e => by cases e
  | r :: rs, f :: F, z, hz, hr, e => by
    show toV (q := q) (madeR q (plusR q z r f) (rs.zip F)) = _
    have lz : z.length = r.length := by rw [hz, hr r List.mem_cons_self]
    rw [toV_made rs F (plusR q z r f) (by rw [plus_len lz]; exact hz) (fun x hx => hr x (List.mem_cons_of_mem _ hx)) (Nat.succ.inj e), toV_plus lz]
    funext i
    show toV z i + cF f * toV r i + lin (F.map cF) (rs.map toV) i = toV z i + (cF f * toV r i + lin (F.map cF) (rs.map toV) i)
    grind
end
end OC
set_option Elab.async false
set_option linter.all false
set_option maxRecDepth 100000
set_option maxHeartbeats 2000000
set_option Elab.async false
set_option linter.all false
set_option maxRecDepth 100000
set_option maxHeartbeats 4000000
/-! the text of a tuple of rows tells the rows -/
set_option Elab.async false
set_option linter.all false
set_option maxRecDepth 100000
set_option maxHeartbeats 4000000
/-! what rows make, by p -/
namespace OC
open PySem PySem.Spec PyProof.Rows L2 Lin
/-- the rows make the row -/
def InR (p : Int) (rs : List (List Int)) (r : List Int) : Prop := ∀ (q : Nat) (_ : NeZero q), p = (q : Int) → Mk q rs (toV (q := q) r)
theorem InR.mem {p : Int} {rs : List (List Int)} {r : List Int} (h : r ∈ rs) : InR p rs r := fun q _ _ => spn_mem (List.mem_map_of_mem h)
theorem InR.mono {p : Int} {rs ts : List (List Int)} {r : List Int} (h : ∀ x ∈ rs, InR p ts x) (hr : InR p rs r) : InR p ts r := fun q z e =>
  spn_sub_of (fun v hv => by
    obtain ⟨x, mx, rfl⟩ := List.mem_map.mp hv
    exact h x mx q z e) (hr q z e)
theorem toV_noughts {q : Nat} [NeZero q] (n : Nat) : toV (q := q) (List.replicate n 0) = zeroV := by
  funext i
  unfold toV zeroV
  rw [show (List.replicate n (0 : Int)).getD i 0 = 0 by
    rw [List.getD_eq_getElem?_getD]
    by_cases h : i < n
    · simp [h]
    · simp [h]]
  exact cF_zero
theorem InR.plus {p : Int} {rs : List (List Int)} {x y : List Int} (m : Int) (hl : x.length = y.length) (hx : InR p rs x) (hy : InR p rs y) : InR p rs (plusR p x y m) := fun q z e => by
  subst e
  rw [toV_plus hl]
  exact (spn_sub _).add (hx q z rfl) ((spn_sub _).mul _ (hy q z rfl))
theorem hasR_in {p : Int} (hF : Fld p) {n : Nat} {rs : List (List Int)} {r : List Int} (h : RowsOk p n rs) (hr : RowsOk p n [r]) : hasR p n rs r = true ↔ InR p rs r := by
  obtain ⟨q, rfl, z, hq⟩ := to_q hF
  unfold hasR
  rw [decide_eq_true_iff, plainR_has hF h hr]
  constructor
  · intro hm q' z' e
    have : q = q' := by omega
    subst this
    exact hm
  · intro hm
    exact hm q z rfl
theorem plain_same {p : Int} (hF : Fld p) {n : Nat} {one other : List (List Int)} (h1 : RowsOk p n one) (h2 : RowsOk p n other) (a : ∀ r ∈ one, InR p other r) (b : ∀ r ∈ other, InR p one r) : plainR p n one = plainR p n other := by
  obtain ⟨q, rfl, z, hq⟩ := to_q hF
  refine plainR_congr hF h1 h2 fun x => ⟨fun hx => ?_, fun hx => ?_⟩
  · exact spn_sub_of (fun v hv => by
      obtain ⟨y, my, rfl⟩ := List.mem_map.mp hv
      exact a y my q z rfl) hx
  · exact spn_sub_of (fun v hv => by
      obtain ⟨y, my, rfl⟩ := List.mem_map.mp hv
      exact b y my q z rfl) hx
theorem plain_one_more {p : Int} (hF : Fld p) {n : Nat} {rs : List (List Int)} {r : List Int} (h : RowsOk p n rs) (hr : RowsOk p n [r]) : (plainR p n (rs ++ [r])).length = (plainR p n rs).length + (if hasR p n rs r = true then 0 else 1) := by
  by_cases hh : hasR p n rs r = true
  · rw [if_pos hh]
    exact of_decide_eq_true hh
  · rw [if_neg hh]
    obtain ⟨q, rfl, z, hq⟩ := to_q hF
    refine plainR_more hF h hr fun hm => hh ?_
    unfold hasR
    rw [decide_eq_true_iff, plainR_has hF h hr]
    exact hm
end OC
set_option Elab.async false
set_option linter.all false
set_option maxRecDepth 100000
set_option maxHeartbeats 4000000
/-! a display of one pair whose key is a tuple -/
set_option Elab.async false
set_option linter.all false
set_option maxRecDepth 100000
set_option maxHeartbeats 4000000
/-! dicts whose keys are rows; all rows that rows make -/
namespace OC
open PySem PySem.Spec PyProof.Rows L2 Lin
theorem units1 {k : Nat} {A : Around} (r : Room k A) : A.units + 1 < cLine := by have := r.un; omega
end OC
set_option Elab.async false
set_option linter.all false
set_option maxRecDepth 100000
set_option maxHeartbeats 4000000
/-! lists of rows that stand by themselves; all rows -/
namespace OC
open PySem PySem.Spec PyProof.Rows L2
inductive TAll (H : Hp) : List V → List (List Int) → Prop
  | nil : TAll H [] []
  | cons {b : Addr} {g : List Int} {vs : List V} {gs : List (List Int)} : H b = some (.tup (g.map V.int)) → TAll H vs gs → TAll H (.ref b :: vs) (g :: gs)
theorem TAll.same {H H' : Hp} (s : Same H H') : ∀ {vs : List V} {gs : List (List Int)}, TAll H vs gs → TAll H' vs gs
  | _, _, .nil => .nil
  | _, _, .cons h t => .cons (s _ _ h) (t.same s)
theorem TAll.len {H : Hp} : ∀ {vs : List V} {gs : List (List Int)}, TAll H vs gs → vs.length = gs.length
  | _, _, .nil => rfl
  | _, _, .cons _ t => by rw [List.length_cons, List.length_cons, t.len]
theorem TAll.get {H : Hp} : ∀ {vs : List V} {gs : List (List Int)} {i : Nat} {v : V}, TAll H vs gs → vs[i]? = some v → ∃ b g, v = .ref b ∧ gs[i]? = some g ∧ H b = some (.tup (g.map V.int))
  | _, _, _, _, .nil, h => by simp at h
  | _, _, 0, _, .cons (b := b) (g := g) h t, e => by cases e; exact ⟨b, g, rfl, rfl, h⟩
  | _, _, i + 1, v, .cons h t, e => t.get (i := i) (v := v) e
def nzsR (r : List Int) (k : Nat) : List Nat := (List.range k).filter fun i => decide (r.getD i 0 ≠ 0)
theorem nzs_head {r : List Int} (h : fpR r < r.length) : (nzsR r r.length)[0]? = some (fpR r) := by
  rw [← List.head?_eq_getElem?]
  unfold nzsR
  rw [List.head?_filter, List.find?_range_eq_some]
  exact ⟨decide_eq_true (fpR_at h), List.mem_range.mpr h, fun j hj => by
    rw [decide_eq_false (by rw [fpR_low hj]; simp)]
    rfl⟩
theorem TAll.mut {H : Hp} {D : Addr} {xs : List V} {o : HO} (e : H D = some (.lst xs)) : ∀ {vs : List V} {gs : List (List Int)}, TAll H vs gs → TAll (upd H D o) vs gs
  | _, _, .nil => .nil
  | _, _, .cons h t => .cons (by rw [upd_ne (fun z => by rw [z, e] at h; cases h)]; exact h) (t.mut e)
end OC
set_option Elab.async false
set_option linter.all false
set_option maxRecDepth 100000
set_option maxHeartbeats 4000000
/-! min and max of a tuple of ints -/
set_option Elab.async false
set_option linter.all false
set_option maxRecDepth 100000
set_option maxHeartbeats 4000000
/-! what is left of a row -/
namespace OC
open PySem PySem.Spec PyProof.Rows L2 Lin
theorem left_at {p : Int} (hF : Fld p) {n : Nat} {room : List (List Int)} (h : PFR p n room) {r : List Int} (hr : RowsOk p n [r]) {c : List Int} (hc : c ∈ room) : (leftR p room r).getD (fpR c) 0 = 0 := by
  obtain ⟨q, rfl, z, hF⟩ := to_q hF
  obtain ⟨bs, pf, e, ok, et⟩ := ((isPF_iff hF).mpr h).left hF hr
  refine (toV_eq0 (q := q) (ok _ List.mem_cons_self).2 _).mp ?_
  have m : toV (q := q) c ∈ bs.map (·.2) := by rw [e]; exact List.mem_map_of_mem hc
  obtain ⟨b, mb, eb⟩ := List.mem_map.mp m
  have fj : fpR c = b.1 := fpR_lead (q := q) (h.1 c hc).2 (by rw [← eb]; exact pf.leads (one_ne (q2 hF)) mb)
  rw [et, fj]
  exact Lin.left_at pf _ mb
theorem noughts_iff {r : List Int} {n : Nat} (h : r.length = n) : r = List.replicate n 0 ↔ ∀ x ∈ r, x = 0 := by
  rw [List.eq_replicate_iff]
  exact ⟨fun z => z.2, fun z => ⟨h, z⟩⟩
theorem left_iff {p : Int} (hF : Fld p) {n : Nat} {room : List (List Int)} (h : PFR p n room) {r : List Int} (hr : RowsOk p n [r]) : decide (leftR p room r = List.replicate n 0) = hasR p n room r := by
  have l := (PFR.left_ok hF h hr _ List.mem_cons_self).1
  have e := PFR.left_has hF h hr
  unfold hasR
  rw [decide_eq_decide, noughts_iff l]
  exact e
end OC
namespace OC
theorem plus_row {p : Int} (hp : 0 < p) {x y : List Int} {n : Nat} (hx : x.length = n) (hy : y.length = n) (m : Int) : (plusR p x y m).length = n ∧ ∀ v ∈ plusR p x y m, 0 ≤ v ∧ v < p := ⟨by rw [plus_len (by rw [hx, hy]), hx], plus_ok hp⟩
end OC
namespace OC
theorem InR.plain {p : Int} (hF : Fld p) {n : Nat} {rs : List (List Int)} (h : RowsOk p n rs) {r : List Int} : InR p (plainR p n rs) r ↔ InR p rs r := ⟨fun hx q z e => by
    subst e
    exact (plainR_mk hF h _).mp (hx q z rfl), fun hx q z e => by
    subst e
    exact (plainR_mk hF h _).mpr (hx q z rfl)⟩
end OC
set_option Elab.async false
set_option linter.all false
set_option maxRecDepth 100000
set_option maxHeartbeats 4000000
/-! rows and lists of them: what laws over rooms share -/
namespace OC
open PySem PySem.Spec PyProof.Rows L2
section
variable {K : PySem.W.Frag} {H : Hp} {bad : Addr → Prop}
theorem filter_all {ws : List V} {es : List PyData} {q : PyData → Bool} (h : RepAll K H bad ws (es.filter fun d => !q d)) : ws.isEmpty = es.all q := by
  have lw := repAll_len h
  cases ws with
  | nil =>
    have l0 : 0 = (es.filter fun d => !q d).length := lw
    refine Eq.symm (List.all_eq_true.mpr fun d hd => ?_)
    have := List.filter_eq_nil_iff.mp (List.length_eq_zero_iff.mp l0.symm) d hd
    simpa using this
  | cons v vs =>
    show false = es.all q
    cases hq : es.all q with
    | false => rfl
    | true =>
      exfalso
      have e : es.filter (fun d => !q d) = [] := List.filter_eq_nil_iff.mpr fun d hd => by
        rw [List.all_eq_true.mp hq d hd]
        decide
      rw [e] at lw
      cases lw
theorem repAll_rows : ∀ {ws : List V} {rs : List (List Int)}, RepAll K H bad ws (rs.map rowD) → DpAll K H ws (rs.map rowD)
  | _, [], h => by cases h; exact .nil
  | _, r :: rs, h => by
    cases h with
    | cons h1 h2 =>
      obtain ⟨l, rfl, hl⟩ := rep_row h1
      exact .cons (row_dp hl) (repAll_rows (rs := rs) h2)
theorem RowsAt.dp {a : Addr} {rs : List (List Int)} (h : RowsAt K H a rs) : Dp K H (.ref a) (.tuple (rs.map rowD)) := by
  obtain ⟨ws, h1, h2⟩ := h
  exact .tup h1 h2
end
theorem rep_bls {K : PySem.W.Frag} {H : Hp} {bad : Addr → Prop} : ∀ {ws : List V} {bs : List Bool}, RepAll K H bad ws (bs.map PyData.bool) → ws = bs.map V.bl
  | _, [], h => by cases h; rfl
  | _, b :: bs, h => by
    cases h with
    | cons h1 h2 =>
      cases h1
      rw [rep_bls (bs := bs) h2]
      rfl
end OC
set_option Elab.async false
set_option linter.all false
set_option maxRecDepth 100000
set_option maxHeartbeats 4000000
/-! rooms joined and shared -/
namespace OC
open PySem PySem.Spec PyProof.Rows L2 Lin
def joinR (p : Int) (n : Nat) (one other : List (List Int)) : List (List Int) := plainR p n (one ++ other)
def meetR (p : Int) (n : Nat) (one other : List (List Int)) : List (List Int) := acrossR p n (joinR p n (acrossR p n one) (acrossR p n other))
section
variable {p : Int} {n : Nat} {one other : List (List Int)}
theorem join_pf (hF : Fld p) (h1 : RowsOk p n one) (h2 : RowsOk p n other) : PFR p n (joinR p n one other) := PFR.of_plain hF (rowsOk_app h1 h2)
theorem meet_pf (hF : Fld p) : PFR p n (meetR p n one other) := PFR.across hF n _
theorem PFR.ext (hF : Fld p) (h1 : PFR p n one) (h2 : PFR p n other) (a : ∀ r ∈ one, InR p other r) (b : ∀ r ∈ other, InR p one r) : one = other := by
  have := plain_same hF h1.1 h2.1 a b
  rw [h1.2, h2.2] at this
  exact this
theorem meet_mk {q : Nat} [NeZero q] (hF : Fld (q : Int)) (h1 : PFR q n one) (h2 : PFR q n other) (x : Vec q) : Mk q (meetR q n one other) x ↔ Mk q one x ∧ Mk q other x := by
  have i1 := (isPF_iff hF).mpr h1
  have i2 := (isPF_iff hF).mpr h2
  have ja : RowsOk q n (acrossR q n one ++ acrossR q n other) := rowsOk_app (acrossR_pf hF n one).1 (acrossR_pf hF n other).1
  have jp : IsPF q n (joinR q n (acrossR q n one) (acrossR q n other)) := plainR_pf hF ja
  unfold meetR
  rw [acrossR_perp hF jp]
  have e : Mk q (joinR q n (acrossR q n one) (acrossR q n other)) = Mk q (acrossR q n one ++ acrossR q n other) := by
    funext y
    exact propext (plainR_mk hF ja y)
  rw [e, ← perp_across hF i1, ← perp_across hF i2]
  unfold Mk
  rw [List.map_append]
  exact perp_app x
theorem InR.meet (hF : Fld p) (h1 : PFR p n one) (h2 : PFR p n other) (r : List Int) : InR p (meetR p n one other) r ↔ InR p one r ∧ InR p other r := by
  constructor
  · intro h
    exact ⟨fun q z e => by subst e; exact ((meet_mk hF h1 h2 _).mp (h q z rfl)).1, fun q z e => by subst e; exact ((meet_mk hF h1 h2 _).mp (h q z rfl)).2⟩
  · rintro ⟨a, b⟩ q z e
    subst e
    exact (meet_mk hF h1 h2 _).mpr ⟨a q z rfl, b q z rfl⟩
theorem InR.left {ts : List (List Int)} {r : List Int} (h : InR p one r) : InR p (one ++ ts) r := InR.mono (fun x hx => InR.mem (List.mem_append_left _ hx)) h
theorem InR.join (hF : Fld p) (h1 : RowsOk p n one) (h2 : RowsOk p n other) {r : List Int} : InR p (joinR p n one other) r ↔ InR p (one ++ other) r := InR.plain hF (rowsOk_app h1 h2)
theorem pf_dim {q : Nat} [NeZero q] (hF : Fld (q : Int)) {room : List (List Int)} (h : PFR q n room) : dim invF n (room.map (toV (q := q))) = room.length := by
  have := plainR_len h.1
  rw [h.2] at this
  exact this.symm
end
theorem PFR.len {p : Int} {n : Nat} {room : List (List Int)} (hF : Fld p) (h : PFR p n room) : room.length ≤ n := by
  have := plainR_lenle hF h.1
  rwa [h.2] at this
end OC
set_option Elab.async false
set_option linter.all false
set_option maxRecDepth 100000
set_option maxHeartbeats 4000000
/-! across: the more a room has, the less -/
set_option Elab.async false
set_option linter.all false
set_option maxRecDepth 100000
set_option maxHeartbeats 4000000
/-! rows of a room by their numbers; worlds alike -/
namespace Lin
end Lin
namespace OC
open PySem PySem.Spec PyProof.Rows L2 Lin
def combR (p : Int) (n : Nat) (room : List (List Int)) (fs : List Int) : List Int := madeR p (List.replicate n 0) (room.zip fs)
section
variable {p : Int} {n : Nat} {room : List (List Int)} {fs : List Int}
theorem made_bd (hp : 0 < p) : ∀ (l : List (List Int × Int)) (z : List Int), (∀ x ∈ z, 0 ≤ x ∧ x < p) → ∀ x ∈ madeR p z l, 0 ≤ x ∧ x < p
  | [], _, h => h
  | _ :: l, _, _ => made_bd hp l _ (plus_ok hp)
theorem comb_ok (hF : Fld p) (h : PFR p n room) : RowsOk p n [combR p n room fs] := by
  have h2 := hF.1
  exact rowsOk_one ⟨made_len p n _ _ List.length_replicate fun x hx => (h.1 x.1 (List.of_mem_zip hx).1).1, made_bd (by omega) _ _ (row_noughts' (by omega) n).2⟩
theorem comb_toV {q : Nat} [NeZero q] (h : RowsOk q n room) (hl : fs.length = room.length) : toV (q := q) (combR q n room fs) = lin (fs.map (cF (q := q))) (room.map (toV (q := q))) := by
  unfold combR
  rw [toV_made room fs _ List.length_replicate (fun r hr => (h r hr).1) hl, toV_noughts, Lin.zero_add]
theorem comb_in (h : PFR p n room) (hl : fs.length = room.length) : InR p room (combR p n room fs) := fun q z e => by
  subst e
  rw [comb_toV h.1 hl]
  exact ⟨_, rfl⟩
end
/-! ### figures -/
/-! ### worlds -/
end OC
set_option Elab.async false
set_option linter.all false
set_option maxRecDepth 100000
set_option maxHeartbeats 4000000
/-! plain rows in any order: what is left of a row, and one row more -/
namespace Lin
section
variable {p : Nat} [NeZero p]
theorem red_perm {l m : List (Nat × Vec p)} (h : l.Perm m) (x : Vec p) : red l x = red m x := by
  induction h with
  | nil => rfl
  | cons b _ ih =>
    show addV (mulV (x b.1) b.2) _ = addV (mulV (x b.1) b.2) _
    rw [ih]
  | swap a b l =>
    funext i
    show x b.1 * b.2 i + (x a.1 * a.2 i + red l x i) = x a.1 * a.2 i + (x b.1 * b.2 i + red l x i)
    grind
  | trans _ _ i1 i2 => exact i1.trans i2
end
end Lin
namespace OC
open PySem PySem.Spec PyProof.Rows L2 Lin
section
variable {q : Nat} [NeZero q]
def pairV (b : List Int) : Nat × Vec q := (fpR b, toV (q := q) b)
theorem pairs_of : ∀ (room : List (List Int)) (bs : List (Nat × Vec q)), room.map fpR = bs.map (·.1) → bs.map (·.2) = room.map (toV (q := q)) → bs = room.map (pairV (q := q))
  | [], [], _, _ => rfl
  | [], _ :: _, h, _ => by cases h
  | _ :: _, [], h, _ => by cases h
  | c :: room, b :: bs, h1, h2 => by
    rw [List.map_cons, List.map_cons] at h1 h2
    obtain ⟨a1, a2⟩ := List.cons.inj h1
    obtain ⟨b1, b2⟩ := List.cons.inj h2
    rw [List.map_cons, ← pairs_of room bs a2 b2]
    congr 1
    exact Prod.ext a1.symm b1
theorem left_any (hF : Fld (q : Int)) {n : Nat} {room found : List (List Int)} (h : IsPF q n room) (pm : found.Perm room) {r : List Int} (hr : RowsOk q n [r]) : leftR q found r = leftR q room r := by
  obtain ⟨ok, bs, pf, e⟩ := h
  have ld : ∀ b ∈ bs, Lead b.2 b.1 := fun b hb => pf.leads (one_ne (q2 hF)) hb
  have eb := pairs_of room bs (firsts_eq room bs ok e ld) e
  have pc : (found.map (pairV (q := q))).Perm bs := by
    rw [eb]
    exact pm.map _
  have okf : RowsOk q n found := fun x hx => ok x (pm.mem_iff.mp hx)
  obtain ⟨a1, a2⟩ := leftR_sim room bs r ok hr e ld
  obtain ⟨b1, b2⟩ := leftR_sim found (found.map (pairV (q := q))) r okf hr (by rw [List.map_map]; rfl) fun b hb => ld b (pc.mem_iff.mp hb)
  have l1 := a1 _ List.mem_cons_self
  have l2 := b1 _ List.mem_cons_self
  refine toV_inj (q := q) (by rw [l1.1, l2.1]) l2.2 l1.2 ?_
  have pw : (found.map (pairV (q := q))).Pairwise (fun a c => a.2 c.1 = 0 ∧ c.2 a.1 = 0) := perm_pw (R := fun a c => a.2 c.1 = 0 ∧ c.2 a.1 = 0) (fun a b z => ⟨z.2, z.1⟩) pc (pf.inc.imp_of_mem fun {a c} ha hc hlt => ⟨pf.off a ha c hc (by omega), pf.off c hc a ha (by omega)⟩)
  rw [a2, b2, pf.leftF, leftF_eq _ _ (pw.imp fun z => z.1)]
  funext i
  show toV r i - red (found.map (pairV (q := q))) (toV r) i = toV r i - red bs (toV r) i
  rw [red_perm pc]
theorem desc (hF : Fld (q : Int)) {n : Nat} {room : List (List Int)} (h : IsPF q n room) : room.Pairwise fun a b => codeR q b < codeR q a := by
  obtain ⟨ok, bs, pf, e⟩ := h
  have ld : ∀ b ∈ bs, Lead b.2 b.1 := fun b hb => pf.leads (one_ne (q2 hF)) hb
  have fe := firsts_eq room bs ok e ld
  have : (room.map fpR).Pairwise (· < ·) := by
    rw [fe, List.pairwise_map]
    exact pf.inc
  rw [List.pairwise_map] at this
  exact this.imp_of_mem fun {a b} ha hb hlt => code_lead q_pos b a (by rw [(ok a ha).1, (ok b hb).1]) (ok b hb).2 (ok a ha).2 hlt
end
section
variable {p : Int} {n : Nat} {room found : List (List Int)} {r : List Int}
theorem PFR.left_any (hF : Fld p) (h : PFR p n room) (pm : found.Perm room) (hr : RowsOk p n [r]) : leftR p found r = leftR p room r := by
  obtain ⟨q, rfl, z, hF⟩ := to_q hF
  exact OC.left_any hF ((isPF_iff hF).mpr h) pm hr
theorem PFR.desc (hF : Fld p) (h : PFR p n room) : room.Pairwise fun a b => codeR p b < codeR p a := by
  obtain ⟨q, rfl, z, hF⟩ := to_q hF
  exact OC.desc hF ((isPF_iff hF).mpr h)
theorem PFR.more_perm (hF : Fld p) (h : PFR p n room) (hr : RowsOk p n [r]) (hne : fpR (leftR p room r) < n) : (ownR p (leftR p room r) (fpR (leftR p room r)) :: room.map fun b => lessR p b (ownR p (leftR p room r) (fpR (leftR p room r))) (fpR (leftR p room r))).Perm (plainR p n (room ++ [r])) := by
  generalize hL : (ownR p (leftR p room r) (fpR (leftR p room r)) :: room.map fun b => lessR p b (ownR p (leftR p room r) (fpR (leftR p room r))) (fpR (leftR p room r))) = L
  have pm := List.mergeSort_perm L (fun a b => decide (codeR p b ≤ codeR p a))
  have pw := List.pairwise_mergeSort (le := fun a b => decide (codeR p b ≤ codeR p a)) (fun a b c h1 h2 => decide_eq_true (by have := of_decide_eq_true h1; have := of_decide_eq_true h2; omega)) (fun a b => by
    by_cases hc : codeR p b ≤ codeR p a
    · rw [decide_eq_true hc]; rfl
    · rw [decide_eq_false hc, decide_eq_true (show codeR p a ≤ codeR p b by omega)]; rfl) L
  have e := PFR.widen hF h hr hne (rs := L.mergeSort fun a b => decide (codeR p b ≤ codeR p a)) (by rw [hL]; exact pm) (pw.imp fun z => of_decide_eq_true z)
  rw [← e]
  exact pm.symm
theorem strict_one {f : List Int → Int} : ∀ {l : List (List Int)}, l.Pairwise (fun a b => f b < f a) → ∀ a ∈ l, ∀ b ∈ l, f a = f b → a = b
  | [], _, a, ha, _, _, _ => (nomatch ha)
  | c :: l, h, a, ha, b, hb, e => by
    rw [List.pairwise_cons] at h
    rcases List.mem_cons.mp ha with ea | ha'
    · rcases List.mem_cons.mp hb with eb | hb'
      · rw [ea, eb]
      · have := h.1 b hb'
        rw [← ea] at this
        omega
    · rcases List.mem_cons.mp hb with eb | hb'
      · have := h.1 a ha'
        rw [← eb] at this
        omega
      · exact strict_one h.2 a ha' b hb' e
theorem PFR.desc_one (hF : Fld p) (h : PFR p n room) (pm : found.Perm room) (pw : found.Pairwise fun a b => codeR p b ≤ codeR p a) : found = room := by
  have d := PFR.desc hF h
  exact pm.eq_of_pairwise (le := fun a b => codeR p b ≤ codeR p a) (fun a b ha hb h1 h2 => strict_one d a (pm.mem_iff.mp ha) b hb (by omega)) pw (d.imp fun z => Int.le_of_lt z)
/-- one row more, the plain rows in any order -/
theorem PFR.step (hF : Fld p) (h : PFR p n room) (pm : found.Perm room) (hr : RowsOk p n [r]) (hne : fpR (leftR p room r) < n) : ((found.map fun b => lessR p b (ownR p (leftR p room r) (fpR (leftR p room r))) (fpR (leftR p room r))) ++ [ownR p (leftR p room r) (fpR (leftR p room r))]).Perm (plainR p n (room ++ [r])) := by
  refine List.Perm.trans ?_ (PFR.more_perm hF h hr hne)
  exact (List.perm_append_comm).trans ((List.Perm.cons _ (pm.map _)))
theorem own_first (hF : Fld p) {y : List Int} (ok : y.length = n ∧ ∀ x ∈ y, 0 ≤ x ∧ x < p) (hlt : fpR y < n) : fpR (ownR p y (fpR y)) = fpR y := by
  have h2 := hF.1
  have b := getD_lt (by omega) ok.2 (fpR y)
  have nz : y.getD (fpR y) 0 ≠ 0 := fpR_at (by rw [ok.1]; exact hlt)
  have hc := ctr_ok hF (show 1 ≤ y.getD (fpR y) 0 by omega) b.2
  have gd : ∀ i, i < n → (ownR p y (fpR y)).getD i 0 = ctr p (y.getD (fpR y) 0) * y.getD i 0 % p := fun i hi => by
    unfold ownR
    rw [gd_lt (by rw [List.length_map, ok.1]; exact hi), List.getElem_map, gd_lt (r := y) (i := i) (by rw [ok.1]; exact hi)]
  refine fpR_of ?_ fun i hi => ?_
  · rw [gd _ hlt, Int.mul_comm, hc.2.2]
    decide
  · rw [gd _ (by omega), fpR_low hi, Int.mul_zero, Int.zero_emod]
end
end OC
set_option Elab.async false
set_option linter.all false
set_option maxRecDepth 100000
set_option maxHeartbeats 4000000
/-! the drawn numbers of the laws over stands: a list of cells, a count, a list of rests -/
namespace OC
open PySem PySem.Spec PyProof.Rows L2
structure Drw (H : Hp) (d c e : Addr) (t : Int) : Prop where
  hd : H d = some (.lst [.ref c, .int t, .ref e])
  hc : ∃ cells rests : List Int, H c = some (.lst (cells.map V.int)) ∧ H e = some (.lst (rests.map V.int)) ∧ cells.length = rests.length ∧ 0 < cells.length ∧ cells.length ≤ 63 ∧ ∀ x ∈ rests, 0 ≤ x
  cd : c ≠ d
  ed : e ≠ d
  ce : c ≠ e
  t0 : 0 ≤ t
section
variable {H H' : Hp} {d c e : Addr} {t : Int}
theorem Drw.same (D : Drw H d c e t) (s : Same H H') : Drw H' d c e t := by
  obtain ⟨hd, ⟨cells, rests, h1, h2, h3⟩, a, b, f, t0⟩ := D
  exact ⟨s _ _ hd, ⟨cells, rests, s _ _ h1, s _ _ h2, h3⟩, a, b, f, t0⟩
/-- one of the three lists -/
def Bd3 (d c e : Addr) : Addr → Prop := fun a => a = d ∨ a = c ∨ a = e
theorem Drw.fresh (D : Drw H d c e t) {p : Addr} (n : H p = none) : ¬ Bd3 d c e p := by
  obtain ⟨hd, ⟨cells, rests, h1, h2, h3⟩, _⟩ := D
  rintro (z | z | z)
  · subst z; rw [hd] at n; cases n
  · subst z; rw [h1] at n; cases n
  · subst z; rw [h2] at n; cases n
theorem Drw.mut (D : Drw H d c e t) {B : Addr} {o : HO} (b : ¬ Bd3 d c e B) : Drw (upd H B o) d c e t := by
  obtain ⟨hd, ⟨cells, rests, h1, h2, h3⟩, x, y, z, t0⟩ := D
  exact ⟨by rw [upd_ne (fun z => b (.inl z.symm))]; exact hd, ⟨cells, rests, by rw [upd_ne (fun z => b (.inr (.inl z.symm)))]; exact h1, by rw [upd_ne (fun z => b (.inr (.inr z.symm)))]; exact h2, h3⟩, x, y, z, t0⟩
theorem Drw.tup {K : PySem.W.Frag} (D : Drw H d c e t) (k : Kept d e H H') {a : Addr} {xs : List V} (h : SqT K H a xs) : SqT K H' a xs := by
  obtain ⟨hd, ⟨cells, rests, h1, h2, h3⟩, _⟩ := D
  rcases h with (h | ⟨o, h⟩) | h
  · exact .inl (.inl (k _ _ h (fun z => by subst z; rw [hd] at h; cases h) (fun z => by subst z; rw [h2] at h; cases h)))
  · exact .inl (.inr ⟨o, k _ _ h (fun z => by subst z; rw [hd] at h; cases h) (fun z => by subst z; rw [h2] at h; cases h)⟩)
  · exact .inr h
theorem Drw.tk (D : Drw H d c e t) (k : Kept d e H H') : Tk H H' := fun _ _ _ h => D.tup k h
theorem Drw.rows {K : PySem.W.Frag} (D : Drw H d c e t) (k : Kept d e H H') {a : Addr} {rs : List (List Int)} (h : RowsAt K H a rs) : RowsAt K H' a rs := by
  obtain ⟨ws, h1, h2⟩ := h
  exact ⟨ws, D.tup k h1, dpAll_tk (D.tk k) _ _ (noL_rows rs) h2⟩
theorem Drw.lst (k : Kept d e H H') {a : Addr} {o : HO} (b : ¬ Bd3 d c e a) (h : H a = some o) : H' a = some o := k _ _ h (fun z => b (.inl z)) (fun z => b (.inr (.inr z)))
end
end OC
set_option Elab.async false
set_option linter.all false
set_option maxRecDepth 100000
set_option maxHeartbeats 4000000
namespace OC
open PySem PySem.Spec PyProof.Rows L2
/-- a name: one to eight small letters -/
def NameOk (s : Str) : Prop := 1 ≤ s.length ∧ s.length ≤ 8 ∧ ∀ c ∈ s.cps.toList, 97 ≤ c ∧ c ≤ 122
def nameL (st : List Nat) (k c : Nat) : List Nat := st.take k ++ ([c] ++ st.drop k)
theorem nameL_inj {st : List Nat} {k c c' : Nat} (h : nameL st k c = nameL st k c') : c = c' := by
  unfold nameL at h
  have := List.append_cancel_left h
  exact (List.cons.inj this).1
theorem nameL_len (st : List Nat) (k c : Nat) : (nameL st k c).length = st.length + 1 := by
  unfold nameL
  rw [List.length_append, List.length_append, List.length_take, List.length_drop]
  simp only [List.length_cons, List.length_nil]
  omega
theorem nameL_ok {st : List Nat} {k c : Nat} (h : ∀ x ∈ st, 97 ≤ x ∧ x ≤ 122) (hl : st.length ≤ 7) (hc : 97 ≤ c ∧ c ≤ 122) : NameOk (SX.S (nameL st k c)) := by
  have e := SX.S_len (nameL st k c)
  rw [nameL_len] at e
  refine ⟨by omega, by omega, fun x hx => ?_⟩
  have hx : x ∈ nameL st k c := hx
  unfold nameL at hx
  rcases List.mem_append.mp hx with hx | hx
  · exact h x (List.mem_of_mem_take hx)
  · rcases List.mem_append.mp hx with hx | hx
    · rw [List.mem_singleton.mp hx]
      exact hc
    · exact h x (List.mem_of_mem_drop hx)
theorem step_inj {f s : Int} {i j : Nat} (hs : s = 1 ∨ s = 3 ∨ s = 5 ∨ s = 7 ∨ s = 9 ∨ s = 11 ∨ s = 15 ∨ s = 17) (hi : i < 26) (hj : j < 26) (h : (f + s * i) % 26 = (f + s * j) % 26) : i = j := by
  rcases hs with rfl | rfl | rfl | rfl | rfl | rfl | rfl | rfl
  all_goals omega
def lettersS : Str := "abcdefghijklmnopqrstuvwxyz"
theorem letters_at {i : Int} (h0 : 0 ≤ i) (h1 : i < 26) : atI lettersS.cps.toList i = some (97 + i.toNat) := by
  have a : ∀ k : Fin 26, atI lettersS.cps.toList (k.val : Int) = some (97 + k.val) := by decide +kernel
  have := a ⟨i.toNat, by omega⟩
  rw [show ((⟨i.toNat, by omega⟩ : Fin 26).val : Int) = i from Int.toNat_of_nonneg h0] at this
  exact this
theorem join_ones : ∀ cs : List Nat, TL.joinL [] (cs.map fun c => [c]) = cs := by
  intro cs
  induction cs with
  | nil => rfl
  | cons c cs ih =>
    cases cs with
    | nil => rfl
    | cons d cs =>
      have : TL.joinL [] ((c :: d :: cs).map fun c => [c]) = [c] ++ ([] ++ TL.joinL [] ((d :: cs).map fun c => [c])) := rfl
      rw [this, ih]
      rfl
theorem ones_sum : ∀ cs : List Nat, ((cs.map fun c => SX.S [c]).map (·.length)).sum = cs.length := by
  intro cs
  induction cs with
  | nil => rfl
  | cons c cs ih =>
    rw [List.map_cons, List.map_cons, List.sum_cons, ih, SX.S_len, List.length_cons]
    simp only [List.length_cons, List.length_nil]
    omega
theorem join_cs (cs : List Nat) : Txt.join (Str.ofString "") (cs.map fun c => SX.S [c]) = SX.S cs := by
  have e := SX.join_S [] (cs.map fun c => [c])
  rw [List.map_map, join_ones] at e
  exact e
def nameAt (st : List Nat) (cut f s : Int) (k : Nat) : Str := SX.S (nameL st cut.toNat (97 + ((f + s * k) % 26).toNat))
theorem names_nodup {st : List Nat} {cut f s : Int} (hs : s = 1 ∨ s = 3 ∨ s = 5 ∨ s = 7 ∨ s = 9 ∨ s = 11 ∨ s = 15 ∨ s = 17) {m : Nat} (hm : m ≤ 26) : ((List.range m).map (nameAt st cut f s)).Nodup := by
  refine List.pairwise_map.mpr ((List.nodup_range (n := m)).imp_of_mem fun {i j} hi hj hne h => hne ?_)
  have hi := List.mem_range.mp hi
  have hj := List.mem_range.mp hj
  have h := nameL_inj (SX.S_inj h)
  refine step_inj (f := f) hs (by omega) (by omega) ?_
  have := Int.emod_nonneg (f + s * i) (b := 26) (by decide)
  have := Int.emod_nonneg (f + s * j) (b := 26) (by decide)
  omega
theorem nameAt_ok {st : List Nat} {cut f s : Int} {k : Nat} (h : ∀ x ∈ st, 97 ≤ x ∧ x ≤ 122) (hl : st.length ≤ 7) : NameOk (nameAt st cut f s k) := by
  refine nameL_ok h hl ?_
  have := Int.emod_nonneg (f + s * k) (b := 26) (by decide)
  have := Int.emod_lt_of_pos (f + s * k) (b := 26) (by decide)
  omega
end OC
set_option Elab.async false
set_option linter.all false
set_option maxRecDepth 100000
set_option maxHeartbeats 4000000
namespace OC
open PySem PySem.Spec PyProof.Rows L2
/-- a statement that is never reached -/
theorem ps_dead {X : Cx} {st : Stmt} : PS X st (fun _ _ _ => False) := ⟨fun _ _ _ _ _ _ h => h.elim⟩
def handD (h : Str × List (List Int)) : PyData := .tuple [.str h.1, .tuple (h.2.map rowD)]
/-- a stand as data -/
def standD (p : Int) (n : Nat) (kn : List (List Int)) (hs : List (Str × List (List Int))) : PyData := .tuple [.int p, .int n, .tuple (kn.map rowD), .tuple (hs.map handD)]
theorem noL_hands : ∀ hs : List (Str × List (List Int)), noLAll (hs.map handD) = true
  | [] => rfl
  | h :: hs => by
    have a : noL (handD h) = true := by
      unfold handD
      simp only [noL, noLAll, noL_rows, Bool.and_true]
    rw [List.map_cons]
    simp only [noLAll, a, noL_hands hs, Bool.and_true]
theorem noL_stand (p : Int) (n : Nat) (kn : List (List Int)) (hs : List (Str × List (List Int))) : noL (standD p n kn hs) = true := by
  unfold standD
  simp only [noL, noLAll, noL_rows, noL_hands, Bool.and_true]
/-- a comprehension of drawn rows -/
theorem lc_rows3 {K : PySem.W.Frag} {d c : Addr} {t p : Int} {n m : Nat} {σ : L2.St} {H : Hp} {Qd : Addr → Hp → Prop} {i : Nat} {sl : List Nat} {te : TE} (D0 : Deck H d c t) (hm : m ≤ 100) (hw : ∀ x : Option V, wipe ((wipe σ sl).set i x) sl = wipe σ sl)
    (hte : ∀ (x : V) (k : Nat) (t' : Int) (H' : Hp) (Q' : VK), Deck H' d c t' → t' ≤ t + 20 * k → k < m → (∀ H'' t'' a r, Kept d c H' H'' → Deck H'' d c t'' → t'' ≤ t' + 20 → H'' a = some (.tup (r.map V.int)) → RowsOk p n [r] → Q' (.ref a) H'') → te ((wipe σ sl).set i (some x)) H' Q')
    (hd : ∀ (D : Addr) (H' : Hp) (t' : Int) (ws : List V) (rs : List (List Int)), Kept d c H H' → Deck H' d c t' → t' ≤ t + 20 * m → H D = none → H' D = some (.lst ws) → DpAll K H' ws (rs.map rowD) → rs.length = m → RowsOk p n rs → Qd D H') :
    LcGoal (Itr 0 m) (gName i) tYes te sl σ H Qd := by
  intro D nD
  have bD := D0.fresh nD
  refine lc_range (lo := 0) (n := m) (fun k H' => Kept d c H H' ∧ ∃ (t' : Int) (ws : List V) (rs : List (List Int)), Deck H' d c t' ∧ t' ≤ t + 20 * k ∧ H' D = some (.lst ws) ∧ DpAll K H' ws (rs.map rowD) ∧ rs.length = k ∧ RowsOk p n rs) ⟨Kept.of (same_upd nD), t, [], [], D0.same (same_upd nD), by omega, upd_same, .nil, rfl, fun x hx => nomatch hx⟩ (fun k H' hk hW => ?_) (fun H' hW => ?_)
  · obtain ⟨k', t', ws, rs, D', ht', eB, dp, ln, ro⟩ := hW
    refine ⟨hw _, hte _ k t' H' _ D' ht' hk fun H1 t1 a r k1 D1 ht1 ea okr => ?_⟩
    have eB1 := k1 _ _ eB (fun z => bD (.inl z)) (fun z => bD (.inr z))
    have na : D ≠ a := fun z => by subst z; rw [eB1] at ea; cases ea
    have lw := dpAll_len dp
    rw [List.length_map] at lw
    have tk : Tk H1 (upd H1 D (.lst (ws ++ [.ref a]))) := (Tk.refl _).mut eB1
    refine ⟨ws, eB1, small1000 (by omega), (k'.trans k1).mut nD, t1, ws ++ [.ref a], rs ++ [r], D1.mut bD, by omega, upd_same, ?_, by rw [List.length_append, ln]; rfl, fun y hy => ?_⟩
    · rw [List.map_append]
      refine dpAll_append (dpAll_tk tk _ _ (noL_rows rs) (dpAll_tk (Tk.kept D' k1) _ _ (noL_rows rs) dp)) (.cons (.tup (.inl (.inl ?_)) (dpAll_ints r)) .nil)
      rw [upd_ne (Ne.symm na)]
      exact ea
    · rcases List.mem_append.mp hy with h | h
      · exact ro y h
      · rw [List.mem_singleton.mp h]
        exact okr r List.mem_cons_self
  · obtain ⟨k', t', ws, rs, D', ht', eB, dp, ln, ro⟩ := hW
    exact hd D H' t' ws rs k' D' ht' nD eB dp ln ro
theorem dp_stand {K : PySem.W.Frag} {H : Hp} {v : V} {p : Int} {n : Nat} {kn : List (List Int)} {hs : List (Str × List (List Int))} (h : Dp K H v (standD p n kn hs)) :
    ∃ (a k g : Addr) (wg : List V), v = .ref a ∧ SqT K H a [.int p, .int n, .ref k, .ref g] ∧ RowsAt K H k kn ∧ SqT K H g wg ∧ DpAll K H wg (hs.map handD) := by
  unfold standD at h
  cases h with
  | tup h1 h2 =>
    cases h2 with
    | cons a1 h2 =>
      cases a1
      cases h2 with
      | cons a2 h2 =>
        cases a2
        cases h2 with
        | cons a3 h2 =>
          cases h2 with
          | cons a4 h2 =>
            cases h2
            cases a3 with
            | tup q1 q2 =>
              cases a4 with
              | tup q3 q4 => exact ⟨_, _, _, _, rfl, h1, ⟨_, q1, q2⟩, q3, q4⟩
theorem dp_hand {K : PySem.W.Frag} {H : Hp} {v : V} {h : Str × List (List Int)} (d : Dp K H v (handD h)) : ∃ (b r : Addr), v = .ref b ∧ SqT K H b [.str h.1, .ref r] ∧ RowsAt K H r h.2 := by
  unfold handD at d
  cases d with
  | tup h1 h2 =>
    cases h2 with
    | cons a1 h2 =>
      cases a1
      cases h2 with
      | cons a2 h2 =>
        cases h2
        cases a2 with
        | tup q1 q2 => exact ⟨_, _, rfl, h1, ⟨_, q1, q2⟩⟩
theorem dpAll_hand {K : PySem.W.Frag} {H : Hp} {wg : List V} {hs : List (Str × List (List Int))} {i : Nat} {v : V} (h : DpAll K H wg (hs.map handD)) (e : wg[i]? = some v) : ∃ (b r : Addr) (x : Str × List (List Int)), v = .ref b ∧ hs[i]? = some x ∧ x ∈ hs ∧ SqT K H b [.str x.1, .ref r] ∧ RowsAt K H r x.2 := by
  obtain ⟨d, g, _, dp⟩ := dpAll_get h e
  rw [List.getElem?_map] at g
  obtain ⟨x, hx, rfl⟩ := Option.map_eq_some_iff.mp g
  obtain ⟨b, r, e1, e2, e3⟩ := dp_hand dp
  exact ⟨b, r, x, e1, hx, List.mem_of_getElem? hx, e2, e3⟩
/-- the rows of those hands whose names are asked for -/
def selR (ns : List Str) (hs : List (Str × List (List Int))) : List (List Int) := hs.flatMap fun h => if h.1 ∈ ns then h.2 else []
theorem sel_take {ns : List Str} {hs : List (Str × List (List Int))} {i : Nat} {x : Str × List (List Int)} (h : hs[i]? = some x) : selR ns (hs.take (i + 1)) = selR ns (hs.take i) ++ (if x.1 ∈ ns then x.2 else []) := by
  unfold selR
  rw [List.take_add_one, h, List.flatMap_append]
  congr 1
  simp only [Option.toList, List.flatMap_cons, List.flatMap_nil, List.append_nil]
theorem sel_ok {p : Int} {n : Nat} {ns : List Str} {hs : List (Str × List (List Int))} (h : ∀ x ∈ hs, RowsOk p n x.2) : RowsOk p n (selR ns hs) := by
  intro r hr
  obtain ⟨x, hx, hr⟩ := List.mem_flatMap.mp hr
  by_cases hn : x.1 ∈ ns
  · rw [if_pos hn] at hr
    exact h x hx r hr
  · rw [if_neg hn] at hr
    cases hr
theorem sel_len {ns : List Str} {B : Nat} : ∀ {hs : List (Str × List (List Int))}, (∀ x ∈ hs, x.2.length ≤ B) → (selR ns hs).length ≤ B * hs.length
  | [], _ => Nat.zero_le _
  | x :: hs, h => by
    have a := sel_len (ns := ns) (hs := hs) (fun y hy => h y (List.mem_cons_of_mem _ hy))
    have b := h x List.mem_cons_self
    have e : selR ns (x :: hs) = (if x.1 ∈ ns then x.2 else []) ++ selR ns hs := rfl
    rw [e, List.length_append, List.length_cons, Nat.mul_add, Nat.mul_one]
    by_cases hn : x.1 ∈ ns
    · rw [if_pos hn]
      omega
    · rw [if_neg hn, List.length_nil]
      omega
theorem flat_strs : ∀ ns : List Str, (ns.map V.str).all flatV = true
  | [] => rfl
  | x :: ns => by
    rw [List.map_cons, List.all_cons, flat_strs ns]
    rfl
theorem in_strs (x : Str) (ns : List Str) : inV (.str x) (ns.map V.str) = decide (x ∈ ns) := by
  unfold inV
  rw [List.any_map]
  by_cases h : x ∈ ns
  · rw [decide_eq_true h]
    refine List.any_eq_true.mpr ⟨x, h, ?_⟩
    show (x == x) = true
    exact beq_self_eq_true x
  · rw [decide_eq_false h]
    refine List.any_eq_false.mpr fun y hy e => h ?_
    have e : (y == x) = true := e
    rw [← eq_of_beq e]
    exact hy
end OC
set_option Elab.async false
set_option linter.all false
set_option maxRecDepth 100000
set_option maxHeartbeats 4000000
namespace OC
open PySem PySem.Spec PyProof.Rows L2
section
variable {prog : Program} {w : World} {A : Around} {E : Value → Shared → Prop} {s : Shared} {l : Addr} {its : List Value} {ns : List Int} {Q : Value → Shared → Prop}
/-- max of a tuple of ints, in the model -/
theorem max_tupI (hh : A.handled = none) (hl : s.heap.IsTuple l its.toArray) (hi : IntsAre its ns) (hne : 0 < ns.length)
    (h : ∀ h' tk M t', (∀ b o, s.heap.get? b = some o → h'.get? b = some o) → M ∈ ns → (∀ a, a ∈ ns → a ≤ M) → Q (.int M t') { s with heap := h', toks := tk }) : wpAny (model prog w) A (call (.builtin "max") [.ref l]) Q E s := by
  obtain ⟨xs, e⟩ := hi.allInts.items
  have hn : numsOf (intItems xs).toList = ns := by rw [← e]; exact hi.numsOf
  rw [nums_intItems] at hn
  subst hn
  rw [e] at hl
  have hsz : 0 < xs.size := by simpa using hne
  have hlt : l < s.heap.objs.size := by obtain ⟨_, e, _⟩ := hl; exact Heap.lt_size e
  refine call_max_walk (wpAny_pyIter_tuple hl ?_)
  refine ⟨_, [_, l], [_], _, _, _, _, rfl, Walks.tuple (A := A.in1) hh _ l (Nat.ne_of_lt hlt) (intItems xs), ⟨⟨_, Heap.get?_push_size _ rfl, rfl, rfl⟩, hl.push _⟩, fun c hc => ?_, by simpa [intItems] using hsz, CmpOf.ints_gt (numAt xs) (fun _ _ => intItems_at), fun v h' tk hP hk => ?_⟩
  · show c < (s.heap.push _).objs.size
    rw [Heap.size_push]
    rcases List.mem_cons.mp hc with rfl | hc
    · exact Nat.lt_succ_self _
    · rcases List.mem_cons.mp hc with rfl | hc
      · exact Nat.lt_succ_of_lt hlt
      · cases hc
  · have hold : ∀ c o, s.heap.get? c = some o → h'.get? c = some o := fun c o e => by
      refine hk c o (fun hm => ?_) (Heap.get?_push_of_some _ e)
      rcases List.mem_cons.mp hm with e1 | hm
      · exact absurd (e1 ▸ Heap.lt_size e) (Nat.lt_irrefl _)
      · cases hm
    obtain ⟨t, rfl⟩ := intItems_at hP
    obtain ⟨h1, h2⟩ := argBest_gt (numAt xs) (xs.size - 1)
    have ez : (intItems xs).size - 1 = xs.size - 1 := by simp [intItems]
    rw [ez]
    refine h h' tk _ t hold ?_ fun a ha => ?_
    · rw [numAt_eq]; exact PySem.getD_mem (by rw [List.length_map, Array.length_toList]; omega)
    · obtain ⟨j, hj, rfl⟩ := mem_getD ha
      rw [List.length_map, Array.length_toList] at hj
      rw [← numAt_eq]; exact h2 j (by omega)
end
def rMaxI (K : PySem.W.Frag) : List V → Hp → VK → Prop := fun vs H Q => ∃ (a : Addr) (ns : List Int), vs = [V.ref a] ∧ SqT K H a (ns.map V.int) ∧ 0 < ns.length ∧ ∀ m, m ∈ ns → (∀ y, y ∈ ns → y ≤ m) → Q (.int m) H
theorem cr_maxI {X : Cx} (hc : X.calm = true) : CallR X (.builtin "max") (rMaxI X.K) := by
  intro pins s σ H vs us Q I r h
  obtain ⟨a, ns, rfl, hs, hne, q⟩ := h
  obtain ⟨its, rv, hl, _⟩ := I.tuple hs
  rw [Vals.ref1 r]
  exact max_tupI (I.ok.hd hc) hl rv.ints hne fun h' tk m t' hk h1 h2 => ⟨.int _, H, I.kept hk, ⟨_, rfl⟩, q m h1 h2⟩
end OC
set_option Elab.async false
set_option linter.all false
set_option maxRecDepth 100000
set_option maxHeartbeats 4000000
namespace OC
open PySem PySem.Spec PyProof.Rows L2
theorem zero_iff {n : Nat} {l : List Int} (h : l.length = n) : (∀ y ∈ l, y = 0) ↔ l = List.replicate n 0 := by
  rw [List.eq_replicate_iff]
  exact ⟨fun z => ⟨h, z⟩, fun z => z.2⟩
theorem PFR.rows {p : Int} {n : Nat} {room : List (List Int)} (h : PFR p n room) : RowsOk p n room := fun r hr => h.1 r hr
/-- what is left of a row is nothing if the room holds it -/
theorem left_zero {p : Int} (hF : Fld p) {n : Nat} {room : List (List Int)} (h : PFR p n room) {r : List Int} (hr : RowsOk p n [r]) (hl : (leftR p room r).length = n) : (∀ y ∈ leftR p room r, y = 0) ↔ InR p room r := by
  rw [zero_iff hl, ← hasR_in hF h.rows hr, ← left_iff hF h hr]
  exact ⟨fun e => decide_eq_true e, fun e => of_decide_eq_true e⟩
end OC
set_option Elab.async false
set_option linter.all false
set_option maxRecDepth 100000
set_option maxHeartbeats 4000000
namespace OC
open PySem PySem.Spec PyProof.Rows L2
def roomD (room : List (List Int)) : PyData := .tuple (room.map rowD)
theorem noL_rooms : ∀ rms : List (List (List Int)), noLAll (rms.map roomD) = true
  | [] => rfl
  | r :: rms => by
    rw [List.map_cons]
    simp only [noLAll, roomD, noL, noL_rows, Bool.true_and]
    exact noL_rooms rms
/-- a drawn stand -/
structure Stand5 (p : Int) (n : Nat) (kn : List (List Int)) (hs : List (Str × List (List Int))) : Prop where
  fld : Fld p
  p1 : p ≤ 1000
  n1 : 1 ≤ n
  n8 : n ≤ 8
  pk : PFR p n kn
  ph : ∀ h ∈ hs, PFR p n h.2
  inn : ∀ h ∈ hs, ∀ r ∈ kn, InR p h.2 r
  few : 2 ≤ hs.length
  many : hs.length ≤ 9
  srt : sortedS (hs.map Prod.fst) = true
  nd : (hs.map Prod.fst).Nodup
  nm : ∀ x ∈ hs.map Prod.fst, NameOk x
end OC
set_option Elab.async false
set_option linter.all false
set_option maxRecDepth 100000
set_option maxHeartbeats 4000000
/-! what repr asks, with bounds; comprehensions of things with old lists in them -/
namespace OC
open PySem PySem.Spec PyProof.Rows L2
structure FitZ (B k : Nat) (d : PyData) : Prop where
  len : d.shown.length ≤ B
  sh : d.showable = true
  dp : d.depth ≤ k
theorem FitZ.mono {B B' k k' : Nat} {d : PyData} (h : FitZ B k d) (hB : B ≤ B') (hk : k ≤ k') : FitZ B' k' d := ⟨Nat.le_trans h.len hB, h.sh, Nat.le_trans h.dp hk⟩
theorem FitZ.fit {B k : Nat} {d : PyData} (h : FitZ B k d) (hB : B ≤ 10000000) (hk : k ≤ 55) : FitS d := ⟨Nat.le_trans h.len hB, h.sh, Nat.le_trans h.dp hk⟩
theorem FitB.z {B k : Nat} {d : PyData} (h : FitB B k d) : FitZ B k d := ⟨h.len, h.sh, h.dp⟩
theorem fitz_int {i : Int} (h0 : -1000000 ≤ i) (h1 : i ≤ 1000000) : FitZ 50 0 (.int i) := (fit_int (Nat.lt_of_le_of_lt (show i.natAbs ≤ 1000000 by omega) (by decide))).z
theorem fitz_tuple {B k n : Nat} {ds : List PyData} (hl : ds.length ≤ n) (h : ∀ d ∈ ds, FitZ B k d) : FitZ (n * (B + 2) + 3) (k + 1) (.tuple ds) := by
  refine ⟨?_, ?_, ?_⟩
  · simp only [PyData.shown]
    refine Nat.le_trans (tupleText_len_le _) ?_
    rw [shownAll_map, List.length_map]
    have h1 := sum_le (B := B) (ts := ds.map PyData.shown) fun t ht => by
      obtain ⟨d, m, rfl⟩ := List.mem_map.mp ht
      exact (h d m).len
    rw [List.length_map] at h1
    have h2 : ds.length * (B + 2) ≤ n * (B + 2) := Nat.mul_le_mul_right _ hl
    rw [Nat.mul_add] at h2
    omega
  · simp only [PyData.showable]
    exact showAll_of fun d m => (h d m).sh
  · simp only [PyData.depth]
    have := depthAll_of fun d m => (h d m).dp
    omega
theorem fitz_list {B k n : Nat} {ds : List PyData} (hl : ds.length ≤ n) (h : ∀ d ∈ ds, FitZ B k d) : FitZ (n * (B + 2) + 3) (k + 1) (.list ds) := by
  refine ⟨?_, ?_, ?_⟩
  · simp only [PyData.shown]
    refine Nat.le_trans (listText_len_le _) ?_
    rw [shownAll_map, List.length_map]
    have h1 := sum_le (B := B) (ts := ds.map PyData.shown) fun t ht => by
      obtain ⟨d, m, rfl⟩ := List.mem_map.mp ht
      exact (h d m).len
    rw [List.length_map] at h1
    have h2 : ds.length * (B + 2) ≤ n * (B + 2) := Nat.mul_le_mul_right _ hl
    rw [Nat.mul_add] at h2
    omega
  · simp only [PyData.showable]
    exact showAll_of fun d m => (h d m).sh
  · simp only [PyData.depth]
    have := depthAll_of fun d m => (h d m).dp
    omega
theorem fitz_name {x : Str} (h : NameOk x) : FitZ 82 0 (.str x) := by
  refine ⟨?_, by simp [PyData.showable], by simp [PyData.depth]⟩
  simp only [PyData.shown]
  have := PySem.StrLaws.reprText_len x fun c hc => Nat.lt_of_le_of_lt (h.2.2 c hc).2 (by decide)
  have := h.2.1
  omega
/-- a thing within a thing -/
structure OkE (d : PyData) : Prop where
  l : lenOk d
  f : FitZ 600 2 d
theorem okE_ints {r : List Int} (h : ∀ x ∈ r, -1000000 ≤ x ∧ x ≤ 1000000) (hl : r.length ≤ 10) : OkE (rowD r) :=
  ⟨by show (r.map PyData.int).length ≤ 1000; rw [List.length_map]; omega, (fitz_tuple (n := 10) (by rw [List.length_map]; exact hl) fun d m => by
    obtain ⟨x, mx, rfl⟩ := List.mem_map.mp m
    exact fitz_int (h x mx).1 (h x mx).2).mono (by decide) (by decide)⟩
theorem okE_row {p : Int} {n : Nat} {r : List Int} (hp : p ≤ 1000) (hn : n ≤ 8) (h : RowsOk p n [r]) : OkE (rowD r) := by
  obtain ⟨h1, h2⟩ := h r List.mem_cons_self
  exact okE_ints (fun x hx => by have := h2 x hx; omega) (by omega)
theorem okE_rows {p : Int} {n : Nat} {rs : List (List Int)} (hp : p ≤ 1000) (hn : n ≤ 8) (h : RowsOk p n rs) : ∀ d ∈ rs.map rowD, OkE d := fun d m => by
  obtain ⟨r, mr, rfl⟩ := List.mem_map.mp m
  exact okE_row hp hn (rowsOk_one (h r mr))
theorem fitz_rows {p : Int} {n : Nat} {rs : List (List Int)} (hp : p ≤ 1000) (hn : n ≤ 8) (h : RowsOk p n rs) (hl : rs.length ≤ 8) : FitZ 4819 3 (.tuple (rs.map rowD)) := fitz_tuple (n := 8) (by rw [List.length_map]; exact hl) fun d m => (okE_rows hp hn h d m).f
theorem fitz_stand {p : Int} {n : Nat} {kn : List (List Int)} {hs : List (Str × List (List Int))} (S : Stand5 p n kn hs) : FitZ 400000 6 (standD p n kn hs) := by
  have n8 := S.n8
  have p1 := S.p1
  have p2 := S.fld.1
  have lk := PFR.len S.fld S.pk
  have hands : FitZ 99990 5 (.tuple (hs.map handD)) := by
    refine (fitz_tuple (B := 9645) (k := 4) (n := 9) (by rw [List.length_map]; exact S.many) fun d m => ?_).mono (by decide) (by decide)
    obtain ⟨h, mh, rfl⟩ := List.mem_map.mp m
    unfold handD
    refine (fitz_tuple (B := 4819) (k := 3) (n := 2) (Nat.le_refl _) fun d m => ?_).mono (by decide) (by decide)
    have lh := PFR.len S.fld (S.ph h mh)
    simp only [List.mem_cons, List.not_mem_nil, or_false] at m
    rcases m with rfl | rfl
    · exact (fitz_name (S.nm _ (List.mem_map_of_mem mh))).mono (by decide) (by decide)
    · exact fitz_rows p1 n8 (S.ph h mh).1 (by omega)
  unfold standD
  refine (fitz_tuple (B := 99990) (k := 5) (n := 4) (Nat.le_refl _) fun d m => ?_).mono (by decide) (by decide)
  simp only [List.mem_cons, List.not_mem_nil, or_false] at m
  rcases m with rfl | rfl | rfl | rfl
  · exact (fitz_int (by omega) (by omega)).mono (by decide) (by decide)
  · exact (fitz_int (by omega) (by omega)).mono (by decide) (by decide)
  · exact (fitz_rows p1 n8 S.pk.1 (by omega)).mono (by decide) (by decide)
  · exact hands
theorem Drw.some {d c e : Addr} {t : Int} {H : Hp} (D : Drw H d c e t) {a : Addr} (b : Bd3 d c e a) : H a ≠ none := by
  obtain ⟨cells, rests, h1, h2, _⟩ := D.hc
  rcases b with z | z | z
  · subst z; rw [D.hd]; exact fun z => nomatch z
  · subst z; rw [h1]; exact fun z => nomatch z
  · subst z; rw [h2]; exact fun z => nomatch z
mutual
/-- data without lists, as a thing -/
theorem rep_noL {K : PySem.W.Frag} {H : Hp} {bad : Addr → Prop} : ∀ (d : PyData) (v : V), noL d = true → Dp K H v d → Rep K H bad v d
  | .none, _, _, h => by cases h; exact .non
  | .bool b, _, _, h => by cases h; exact .bl b
  | .int i, _, _, h => by cases h; exact .int i
  | .str x, _, _, h => by cases h; exact .str x
  | .list ds, _, n, _ => by simp [noL] at n
  | .dict ds, _, _, h => by cases h
  | .tuple ds, _, n, h => by
    cases h with
    | tup h1 h2 => exact .tup h1 (repAll_noL ds _ (by simpa [noL] using n) h2)
theorem repAll_noL {K : PySem.W.Frag} {H : Hp} {bad : Addr → Prop} : ∀ (ds : List PyData) (vs : List V), noLAll ds = true → DpAll K H vs ds → RepAll K H bad vs ds
  | [], _, _, h => by cases h; exact .nil
  | d :: ds, _, n, h => by
    have n' : noL d = true ∧ noLAll ds = true := by simpa [noLAll] using n
    cases h with
    | cons h1 h2 => exact .cons (rep_noL d _ n'.1 h1) (repAll_noL ds _ n'.2 h2)
end
end OC
set_option Elab.async false
set_option linter.all false
set_option maxRecDepth 100000
set_option maxHeartbeats 2000000
/-! errors of classes of one's own, made without an argument; defs that may raise, by name -/
namespace OC
open PySem PySem.Spec PyProof.Rows L2
section
variable {X : Cx} {C : Addr} {bmB : List Value} {B newId initId : String}
theorem pmk_own0 {x : Str} {p pos : Pos} (F : ExcBaseFacts B newId initId bmB) (q : PySem.W.excIn X.K C bmB newId = true) (gC : X.mg x = some (.ref C)) (kC : PySem.W.keepIn X.K (.ref C) = true) (r : Raises X (.ref C)) (hg : Gl X x)
    (hdb : (x == ("__debug__" : Str)) = false := by decide) : PMk X (.Call (.Name x p) [] [] pos) (fun _ H Q => Q (.ref C) none H) := by
  intro pins s σ H Q I h
  refine wpAny_Call_Name_kw (ld_glob I hg gC ?_ hdb)
  obtain ⟨bm, N, nm, qn, bs, hdct, sn, sub, ab, col, dd, k0, k1, k2, k3, k5, mN, hC, hN, hni, T⟩ := exc_obj I.kIn q
  exact PySem.W.callWith_K0 I.kIn kC (wpAny_call_exc_subT F T hC hN hni (fun h' e hm => mk_of I hm r h (I.hok.gone hm.new)) (Nat.zero_le _))
end
/-- as Ok, for a def that may raise -/
structure OkX (P : Program) (w : World) (K : PySem.W.Frag) (mg : Str → Option Value) (base : Heap) (k : Nat) (x : Str) (ps : List Str) (sp : Sp) : Prop where
  ex : ∃ (f : Addr) (fd : FuncData), FnOk P w K mg base (L2.CX P w) k f fd ps sp ∧ mg x = some (.ref f) ∧ PySem.W.keepIn K (.ref f) = true ∧ Binds K fd ps []
section
variable {P : Program} {w : World} {K : PySem.W.Frag} {mg : Str → Option Value} {base : Heap}
theorem Df.okX {x : Str} {st : Stmt} {N ps : List Str} {k : Nat} {sp : Sp} (D : Df K mg x st ps) (S : FnScope N ps (defScope st)) (len : ∀ vs H Q E, sp vs H Q E → vs.length = ps.length)
    (hbody : ∀ (f : Addr) (cdv : Value) (A : Around) (outer : List Env) (s : Shared) (H : Hp) (vs : List V) (Q : VK) (E : XK), Room k (A.deeper (envOfC x (defScope st) s.heap.objs.size f cdv)) → sp vs H Q E →
      ∃ t, PSs (cxOf (L2.CX P w) P w K mg base N x (defScope st) f cdv A outer s H E) (defBody st) t ∧ t { nx := fun _ H' => Q .non H', rt := Q } (start N vs) H) : OkX P w K mg base (k + 1) x ps sp := by
  obtain ⟨f, fd, F, b, g⟩ := D.ex
  exact ⟨f, fd, F.okX S len (hbody f), g, F.kp, b⟩
theorem OkX.mono {x : Str} {ps : List Str} {j k : Nat} {sp : Sp} (O : OkX P w K mg base j x ps sp) (h : j ≤ k) : OkX P w K mg base k x ps sp := by
  obtain ⟨f, fd, F, r⟩ := O.ex
  exact ⟨f, fd, F.mono h, r⟩
end
section
variable {X : Cx} {x : Str} {ps : List Str} {k : Nat} {sp : Sp}
/-- a call in a try's body: W is what the clauses wish of an error -/
theorem pe_callX {W : WX} {e : Expr} {es : List Expr} {t : TA} {p pos : Pos} (O : OkX X.prog X.w X.K X.mg X.base k x ps sp) (tk : Takes X W) (hr : Room k X.A) (hg : Gl X x) (ha : PA X (e :: es) t) (hdb : (x == ("__debug__" : Str)) = false := by decide)
    (he : starEach (e :: es) X.env = (false, eval e X.env) :: starEach es X.env := by rfl) (hpl : (backTo pos (starEach es X.env)).any (·.1) = false := by rfl) :
    PE X (.Call (.Name x p) (e :: es) [] pos) (tCallS sp (WE W) t) := by
  obtain ⟨f, fd, F, g, kp, b⟩ := O.ex
  exact pe_callS F hr hg g kp b (fun σ => passAt tk σ) ha hdb he hpl
end
end OC
set_option Elab.async false
set_option linter.all false
set_option maxRecDepth 100000
set_option maxHeartbeats 2000000
/-! zip of a list and a tuple -/
namespace OC
open PySem PySem.Spec PyProof.Rows L2
theorem sep_of {z TI TO i1 i2 l1 l2 : Addr} (D : ZipApart z TI TO i1 i2 l1 l2) : ZipSep2 z TI TO i1 i2 [i1, l1] [i2, l2] where
  TIz := D.TIz
  TOz := D.TOz
  TITO := D.TITO
  TIi1 := D.TIi1
  mem1 := by simp
  zf1 := by simp; exact ⟨Ne.symm D.i1z, Ne.symm D.l1z⟩
  Tf1 := by simp; exact ⟨D.TOi1, Ne.symm D.l1TO⟩
  TIi2 := D.TIi2
  mem2 := by simp
  zf2 := by simp; exact ⟨Ne.symm D.i2z, Ne.symm D.l2z⟩
  Tf2 := by simp; exact ⟨D.TOi2, Ne.symm D.l2TO⟩
  sep1_2 := by simp; exact ⟨D.i12, Ne.symm D.l2i1⟩
  sep2_1 := by simp; exact ⟨Ne.symm D.i12, Ne.symm D.l1i2⟩
end OC
set_option Elab.async false
set_option linter.all false
set_option maxRecDepth 100000
set_option maxHeartbeats 2000000
/-! t.index(i) of a tuple of ints -/
set_option Elab.async false
set_option linter.all false
set_option maxRecDepth 100000
set_option maxHeartbeats 4000000
namespace OC
open PySem PySem.Spec PyProof.Rows L2
/-! ### tuples that are known to have no dict: their methods -/
def TupF (H : Hp) (l : Addr) (xs : List V) : Prop := ∃ o : Obj, o.dict = none ∧ H l = some (.frz o (.tup xs))
theorem TupF.sq {K : PySem.W.Frag} {H : Hp} {l : Addr} {xs : List V} (h : TupF H l xs) : SqT K H l xs := by
  obtain ⟨o, _, h⟩ := h
  exact .inl (.inr ⟨o, h⟩)
theorem TupF.same {H H' : Hp} {l : Addr} {xs : List V} (s : Same H H') (h : TupF H l xs) : TupF H' l xs := by
  obtain ⟨o, n, h⟩ := h
  exact ⟨o, n, s _ _ h⟩
def rTupF (K : PySem.W.Frag) : List V → Hp → VK → Prop := fun xs H Q => ∃ p ys, xs = [.ref p] ∧ SqL K H p ys ∧ ∀ l o, H l = none → o.dict = none → Q (.ref l) (upd H l (.frz o (.tup ys)))
theorem call_tuple_F {X : Cx} : CallR X (.type "tuple") (rTupF X.K) := by
  intro pins s σ H xs us Q I r h
  obtain ⟨p, ys, rfl, hq, q⟩ := h
  obtain ⟨u, rfl, rx⟩ := vals1 r
  cases rx
  obtain ⟨its, r', pl, hz⟩ := I.list hq
  have hlen := r'.length
  refine call_tuple_list pl.isList (fun h' kp => ?_) (by simp only [List.size_toArray] <;> omega)
  have I1 : Inv X pins σ H { s with heap := h' } := I.kept (t' := s.toks) kp
  have I2 : Inv X pins σ (upd H h'.objs.size (.frz { cls := .type "tuple", data := .seq its.toArray } (.tup ys))) { s with heap := h'.push { cls := .type "tuple", data := .seq its.toArray } } :=
    I1.laid (t' := s.toks) (fun b o e => Heap.get?_push_of_some _ e) (Nat.le_refl _) (show ObjOk X.prog X.w _ _ _ (.frz { cls := .type "tuple", data := .seq its.toArray } (.tup ys)) from ⟨Heap.get?_push_size _ rfl, hz, its, r', IsTup.new _ _⟩)
  exact ⟨.ref h'.objs.size, _, I2, rfl, q _ _ (I1.hok.fresh (Nat.le_refl _)) rfl⟩
end OC
set_option Elab.async false
set_option linter.all false
set_option maxRecDepth 100000
set_option maxHeartbeats 4000000
set_option Elab.async false
set_option linter.all false
set_option maxRecDepth 100000
set_option maxHeartbeats 4000000
/-! asides: a call that tells the one and not the other -/
namespace OC
open PySem PySem.Spec PyProof.Rows L2
section
variable {p : Int} {n : Nat} {A : List (List Int)} {x y : List Int}
/-- a row that a second one brings in brings in the second one -/
theorem InR.exch (hF : Fld p) (hA : RowsOk p n A) (hx : RowsOk p n [x]) (hy : RowsOk p n [y]) (h : InR p (A ++ [x]) y) (hn : ¬ InR p A y) : InR p (A ++ [y]) x := by
  have nx : ¬ InR p A x := fun z => hn (InR.mono (fun r hr => by
    rcases List.mem_append.mp hr with hr | hr
    · exact InR.mem hr
    · rw [List.mem_singleton.mp hr]
      exact z) h)
  have h1 := plain_one_more hF hA hx
  have h2 := plain_one_more hF hA hy
  have h3 := plain_one_more hF (rowsOk_app hA hx) hy
  have h4 := plain_one_more hF (rowsOk_app hA hy) hx
  rw [if_neg (fun z => nx ((hasR_in hF hA hx).mp z))] at h1
  rw [if_neg (fun z => hn ((hasR_in hF hA hy).mp z))] at h2
  rw [if_pos ((hasR_in hF (rowsOk_app hA hx) hy).mpr h)] at h3
  have e : plainR p n (A ++ [x] ++ [y]) = plainR p n (A ++ [y] ++ [x]) := plain_same hF (rowsOk_app (rowsOk_app hA hx) hy) (rowsOk_app (rowsOk_app hA hy) hx) (fun r hr => InR.mem (by
    simp only [List.mem_append, List.mem_singleton] at hr ⊢
    rcases hr with (hr | hr) | hr
    · exact .inl (.inl hr)
    · exact .inr hr
    · exact .inl (.inr hr))) (fun r hr => InR.mem (by
    simp only [List.mem_append, List.mem_singleton] at hr ⊢
    rcases hr with (hr | hr) | hr
    · exact .inl (.inl hr)
    · exact .inr hr
    · exact .inl (.inr hr)))
  rw [e] at h3
  by_cases hh : hasR p n (A ++ [y]) x = true
  · exact (hasR_in hF (rowsOk_app hA hy) hx).mp hh
  · rw [if_neg hh] at h4
    omega
theorem has_plain (hF : Fld p) (hA : RowsOk p n A) (hx : RowsOk p n [x]) : hasR p n (plainR p n A) x = true ↔ InR p A x := by
  rw [hasR_in hF (PFR.of_plain hF hA).1 hx]
  exact InR.plain hF hA
theorem has_pf (hF : Fld p) (hA : PFR p n A) (hx : RowsOk p n [x]) : hasR p n A x = true ↔ InR p A x := hasR_in hF hA.1 hx
end
def wayR (p : Int) (n : Nat) (C L : List (List Int)) (r : List Int) : List (List Int) := meetR p n C (plainR p n (L ++ [r]))
def asideB (p : Int) (n : Nat) (C L O : List (List Int)) (r c : List Int) : Bool := hasR p n C c && hasR p n (plainR p n (L ++ [c])) r && !hasR p n (plainR p n (O ++ [c])) r
def barredB (p : Int) (n : Nat) (C L O : List (List Int)) (r : List Int) : Bool :=
  (wayR p n C L r).all (hasR p n L) || ((wayR p n C L r).all (hasR p n (plainR p n (O ++ [r]))) && (meetR p n (wayR p n C L r) O).all (hasR p n L))
def outR (p : Int) (n : Nat) (room rows : List (List Int)) : Option (List Int) := rows.find? fun x => !hasR p n room x
/-- the call that is told -/
def callR (p : Int) (n : Nat) (C L O : List (List Int)) (r : List Int) : Option (List Int) :=
  if barredB p n C L O r = true then none else
  match outR p n (plainR p n (O ++ [r])) (wayR p n C L r) with
  | none => outR p n L (meetR p n (wayR p n C L r) O)
  | some s => match outR p n L (wayR p n C L r) with
    | none => none
    | some w => if asideB p n C L O r w = true then some w else if asideB p n C L O r s = true then some s else some (addR p w s)
section
variable {p : Int} {n : Nat} {C L O room rows : List (List Int)} {r c : List Int}
theorem out_some (h : outR p n room rows = some c) : c ∈ rows ∧ hasR p n room c = false := by
  unfold outR at h
  have h1 := List.mem_of_find?_eq_some h
  have h2 := List.find?_some h
  exact ⟨h1, by simpa using h2⟩
theorem out_none (h : outR p n room rows = none) : rows.all (hasR p n room) = true := by
  unfold outR at h
  refine List.all_eq_true.mpr fun x hx => ?_
  have := List.find?_eq_none.mp h x hx
  simpa using this
theorem way_pf (hF : Fld p) : PFR p n (wayR p n C L r) := meet_pf hF
theorem way_in (hF : Fld p) (hC : PFR p n C) (hL : PFR p n L) (hr : RowsOk p n [r]) (x : List Int) : InR p (wayR p n C L r) x ↔ InR p C x ∧ InR p (L ++ [r]) x := by
  unfold wayR
  rw [InR.meet hF hC (PFR.of_plain hF (rowsOk_app hL.1 hr)), InR.plain hF (rowsOk_app hL.1 hr)]
/-- what such a call is: of the way, strange to the learner, and either strange to the other one told the row or its own -/
theorem aside_iff (hF : Fld p) (hC : PFR p n C) (hL : PFR p n L) (hO : PFR p n O) (hr : RowsOk p n [r]) (hc : RowsOk p n [c]) (nL : ¬ InR p L r) (nO : ¬ InR p O r) : asideB p n C L O r c = true ↔ InR p (wayR p n C L r) c ∧ ¬ InR p L c ∧ (¬ InR p (O ++ [r]) c ∨ InR p O c) := by
  unfold asideB
  rw [Bool.and_eq_true, Bool.and_eq_true, Bool.not_eq_true', has_pf hF hC hc, has_plain hF (rowsOk_app hL.1 hc) hr, way_in hF hC hL hr]
  have e2 : hasR p n (plainR p n (O ++ [c])) r = false ↔ ¬ InR p (O ++ [c]) r := by
    rw [← has_plain hF (rowsOk_app hO.1 hc) hr]
    simp
  rw [e2]
  have sub : ∀ {A : List (List Int)} {z : List Int}, RowsOk p n A → InR p A z → ∀ w, InR p (A ++ [z]) w → InR p A w := fun hA hz w hw => InR.mono (fun q hq => by
    rcases List.mem_append.mp hq with hq | hq
    · exact InR.mem hq
    · rw [List.mem_singleton.mp hq]
      exact hz) hw
  constructor
  · rintro ⟨⟨h1, h2⟩, h3⟩
    refine ⟨⟨h1, InR.exch hF hL.1 hc hr h2 nL⟩, fun z => nL (sub hL.1 z r h2), ?_⟩
    by_cases hoc : InR p O c
    · exact .inr hoc
    · exact .inl fun z => h3 (InR.exch hF hO.1 hr hc z hoc)
  · rintro ⟨⟨h1, h2⟩, h3, h4⟩
    refine ⟨⟨h1, InR.exch hF hL.1 hr hc h2 h3⟩, fun z => ?_⟩
    rcases h4 with h4 | h4
    · exact h4 (InR.exch hF hO.1 hc hr z nO)
    · exact nO (sub hO.1 h4 r z)
theorem add_plus (p : Int) (x y : List Int) : addR p x y = plusR p x y 1 := (plus1 p x y).symm
theorem call_good (hF : Fld p) (hC : PFR p n C) (hL : PFR p n L) (hO : PFR p n O) (hr : RowsOk p n [r]) (nL : ¬ InR p L r) (nO : ¬ InR p O r) (hb : barredB p n C L O r = false) : ∃ c, callR p n C L O r = some c ∧ RowsOk p n [c] ∧ asideB p n C L O r c = true := by
  have p2 := hF.1
  have pw := way_pf (C := C) (L := L) (r := r) (n := n) hF
  have pOr := PFR.of_plain hF (rowsOk_app hO.1 hr)
  have pm : PFR p n (meetR p n (wayR p n C L r) O) := meet_pf hF
  have nhas : ∀ {R : List (List Int)} {z : List Int}, PFR p n R → RowsOk p n [z] → hasR p n R z = false → ¬ InR p R z := fun hR hz h q => by
    rw [(has_pf hF hR hz).mpr q] at h
    cases h
  have hb' := hb
  unfold barredB at hb'
  rw [Bool.or_eq_false_iff] at hb'
  obtain ⟨b1, b2⟩ := hb'
  unfold callR
  rw [if_neg (by rw [hb]; decide)]
  cases hs : outR p n (plainR p n (O ++ [r])) (wayR p n C L r) with
  | none =>
    have ho := out_none hs
    rw [ho, Bool.true_and] at b2
    cases hw : outR p n L (meetR p n (wayR p n C L r) O) with
    | none => rw [out_none hw] at b2; cases b2
    | some w =>
      obtain ⟨m1, m2⟩ := out_some hw
      have okw := rowsOk_one (pm.1 w m1)
      obtain ⟨i1, i2⟩ := (InR.meet hF pw hO w).mp (InR.mem m1)
      exact ⟨w, rfl, okw, (aside_iff hF hC hL hO hr okw nL nO).mpr ⟨i1, nhas hL okw m2, .inr i2⟩⟩
  | some s =>
    obtain ⟨ms, hs2⟩ := out_some hs
    have oks := rowsOk_one (pw.1 s ms)
    have sO : ¬ InR p (O ++ [r]) s := fun z => nhas pOr oks hs2 ((InR.plain hF (rowsOk_app hO.1 hr)).mpr z)
    cases hw : outR p n L (wayR p n C L r) with
    | none => rw [out_none hw] at b1; cases b1
    | some w =>
      obtain ⟨mw, hw2⟩ := out_some hw
      have okw := rowsOk_one (pw.1 w mw)
      have wL : ¬ InR p L w := nhas hL okw hw2
      dsimp only
      by_cases a1 : asideB p n C L O r w = true
      · rw [if_pos a1]
        exact ⟨w, rfl, okw, a1⟩
      · rw [if_neg a1]
        by_cases a2 : asideB p n C L O r s = true
        · rw [if_pos a2]
          exact ⟨s, rfl, oks, a2⟩
        · rw [if_neg a2]
          have l1 := (pw.1 w mw).1
          have l2 := (pw.1 s ms).1
          have oka : RowsOk p n [addR p w s] := by
            rw [add_plus]
            exact rowsOk_one (plus_row (by omega) l1 l2 1)
          refine ⟨_, rfl, oka, (aside_iff hF hC hL hO hr oka nL nO).mpr ?_⟩
          have sL : InR p L s := by
            by_cases z : InR p L s
            · exact z
            · exact absurd ((aside_iff hF hC hL hO hr oks nL nO).mpr ⟨InR.mem ms, z, .inl sO⟩) a2
          have wO : InR p (O ++ [r]) w := by
            by_cases z : InR p (O ++ [r]) w
            · exact z
            · exact absurd ((aside_iff hF hC hL hO hr okw nL nO).mpr ⟨InR.mem mw, wL, .inl z⟩) a1
          have ll : w.length = s.length := by rw [l1, l2]
          have back : ∀ {R : List (List Int)} {u v : List Int}, u.length = v.length → u.length = n → (∀ x ∈ u, 0 ≤ x ∧ x < p) → InR p R (addR p u v) → InR p R v → InR p R u := fun {R u v} hl hu hb h1 h2 => by
            have h3 := InR.plus (p := p) (p - 1) (show (addR p u v).length = v.length by rw [add_len hl, hl]) h1 h2
            have e : plusR p (addR p u v) v (p - 1) = u := by
              unfold plusR addR
              refine List.ext_getElem ?_ fun i h1 h2 => ?_
              · simp only [List.length_zipWith]; omega
              · rw [List.getElem_zipWith, List.getElem_zipWith]
                have bi := hb u[i] (List.getElem_mem h2)
                have hv : i < v.length := by omega
                rw [Int.add_comm ((u[i] + v[i]) % p), Int.add_emod_emod, Int.sub_mul, Int.one_mul]
                rw [show p * v[i] - v[i] + (u[i] + v[i]) = u[i] + p * v[i] by omega, Int.add_mul_emod_self_left]
                exact Int.emod_eq_of_lt bi.1 bi.2
            rwa [e] at h3
          have comm : addR p w s = addR p s w := by
            unfold addR
            rw [List.zipWith_comm]
            congr 1
            funext a b
            rw [Int.add_comm]
          refine ⟨?_, fun z => wL (back ll l1 (pw.1 w mw).2 z sL), .inl fun z => sO (back ll.symm l2 (pw.1 s ms).2 (by rw [← comm]; exact z) wO)⟩
          rw [add_plus]
          exact InR.plus 1 ll (InR.mem mw) (InR.mem ms)
end
/-- three rooms as data -/
def r3D (C L O : List (List Int)) : PyData := .tuple [roomD C, roomD L, roomD O]
theorem noL_room (R : List (List Int)) : noL (roomD R) = true := by
  unfold roomD
  simp only [noL, noL_rows]
theorem dp_r3 {K : PySem.W.Frag} {H : Hp} {v : V} {C L O : List (List Int)} (h : Dp K H v (r3D C L O)) : ∃ a b c d, v = .ref a ∧ SqT K H a [.ref b, .ref c, .ref d] ∧ RowsAt K H b C ∧ RowsAt K H c L ∧ RowsAt K H d O := by
  have one : ∀ {v : V} {R : List (List Int)}, Dp K H v (roomD R) → ∃ a, v = .ref a ∧ RowsAt K H a R := fun h => by
    unfold roomD at h
    cases h with
    | tup h1 h2 => exact ⟨_, rfl, _, h1, h2⟩
  unfold r3D at h
  cases h with
  | tup h1 h2 =>
    cases h2 with
    | cons a1 h2 =>
      cases h2 with
      | cons a2 h2 =>
        cases h2 with
        | cons a3 h2 =>
          cases h2
          obtain ⟨b, rfl, hb⟩ := one a1
          obtain ⟨c, rfl, hc⟩ := one a2
          obtain ⟨d, rfl, hd⟩ := one a3
          exact ⟨_, b, c, d, rfl, h1, hb, hc, hd⟩
end OC
set_option Elab.async false
set_option linter.all false
set_option maxRecDepth 100000
set_option maxHeartbeats 4000000
/-! dict() of a tuple of pairs -/
namespace OC
open PySem PySem.Spec PyProof.Rows L2
theorem pairs_in {X : Cx} {pins : List (Addr × Obj)} {σ : L2.St} {H : Hp} {s : Shared} (I : L2.Inv X pins σ H s) : ∀ {ps : List Addr} {kvs : List (L2.Key × V)}, Paired (fun p kv => SqT X.K H p [kV kv.1, kv.2]) ps kvs →
    ∃ (prs : List (L2.Key × Value)) (vps : List (Value × Value)), KV kvs prs ∧ prs.length = ps.length ∧ vps.length = ps.length ∧
      ∀ (j : Nat) (k v : Value), vps[j]? = some (k, v) → (∃ b, ps[j]? = some b ∧ PairAt s.heap b k v) ∧ ∃ q, prs[j]? = some (q, v) ∧ keyIs q k = true
  | _, _, .nil => ⟨[], [], .nil, rfl, rfl, fun j k v e => by simp at e⟩
  | _, _, .cons (a := p) (b := kv) h t => by
    obtain ⟨prs, vps, r, hl, hv, hp⟩ := pairs_in I t
    obtain ⟨its, rv, ht, _⟩ := I.tuple h
    obtain ⟨u, y, ei, ru, ry⟩ := vals2 rv
    subst ei
    refine ⟨(kv.1, y) :: prs, (u, y) :: vps, .cons ⟨rfl, ry⟩ r, by rw [List.length_cons, List.length_cons, hl], by rw [List.length_cons, List.length_cons, hv], fun j k v e => ?_⟩
    cases j with
    | zero =>
      have e' : (u, y) = (k, v) := Option.some.inj e
      cases e'
      refine ⟨⟨p, rfl, .inl ?_⟩, kv.1, rfl, kV_is (P := X.prog) (w := X.w) ru⟩
      obtain ⟨o, h1, h2, n, h3⟩ := ht
      exact ⟨o, h1, h2, n, h3⟩
    | succ j =>
      obtain ⟨⟨b, e1, e2⟩, q, e3, e4⟩ := hp j k v (by simpa using e)
      exact ⟨⟨b, by simpa using e1, e2⟩, q, by simpa using e3, e4⟩
/-- dict(t) of a tuple of pairs: as that of a list -/
theorem call_dictT {X : Cx} (hcalm : X.calm = true) : CallR X (.type "dict") (fun xs H Q => ∃ (a : Addr) (ps : List Addr) (kvs : List (L2.Key × V)), xs = [.ref a] ∧ TupF H a (ps.map V.ref) ∧ Paired (fun p kv => SqT X.K H p [kV kv.1, kv.2]) ps kvs ∧
    ∀ p, H p = none → Q (.ref p) (upd H p (.dK (mergeK [] kvs)))) := by
  intro pins s σ H xs us Q I r q
  obtain ⟨a, ps, kvs, ex, ⟨ob, od, hob⟩, hp, q⟩ := q
  subst ex
  obtain ⟨u, eu, rx⟩ := vals1 r
  subst eu
  cases rx
  obtain ⟨g1, hz, its, rv, o', e', c', n, dat⟩ := I.hok a _ hob
  rw [g1] at e'
  cases e'
  have ei := refs_at rv
  subst ei
  rw [List.length_map] at hz
  obtain ⟨prs, vps, rel, hl, hv, hpr⟩ := pairs_in I hp
  refine PySem.call_dict_pairs (knd := mixKind X.prog X.w) (kvs := prs) (PairArg.tuple a (ps.map Value.ref).toArray (fun j => (ps[j]?).getD 0) vps) (I.ok.hd hcalm) ⟨⟨ob, n, g1, c', od, dat⟩, by simp [hv], fun j k v e => ?_⟩ ⟨by rw [hl, hv], fun j k v e => ?_⟩ (by rw [hv]; exact hz) fun h' tk hd' k => ?_
  · obtain ⟨⟨b, e1, e2⟩, _⟩ := hpr j k v e
    have eg : (ps[j]?).getD 0 = b := by rw [e1]; rfl
    exact ⟨by simp [e1], by show PairAt s.heap ((ps[j]?).getD 0) k v; rw [eg]; exact e2⟩
  · obtain ⟨_, q', e3, e4⟩ := hpr j k v e
    exact ⟨q', e3, e4⟩
  · have hm : (s.heap.objs.size == sysModules) = false := beq_eq_false_iff_ne.mpr (Nat.ne_of_gt I.big)
    have hlen : (mergeK [] kvs).length ≤ sizeLine := by
      refine Nat.le_trans (length_mergeK kvs []) ?_
      rw [List.length_nil, Nat.zero_add, rel.length, hl]
      exact hz
    exact ⟨.ref s.heap.objs.size, upd H s.heap.objs.size (.dK (mergeK [] kvs)), I.laid (t' := tk) (fun b o e => k b o (fun z => nomatch z) e) (Nat.le_refl _) (show ObjOk X.prog X.w _ _ _ (.dK (mergeK [] kvs)) from ⟨hlen, hm, merged [] prs, KV.merge rel .nil, hd'⟩), rfl, q _ (I.hok.fresh (Nat.le_refl _))⟩
end OC
set_option Elab.async false
set_option linter.all false
set_option maxRecDepth 100000
set_option maxHeartbeats 4000000
/-! asides: all calls of a room by five -/
namespace OC
open PySem PySem.Spec PyProof.Rows L2
/-! ### a stand taken by five -/
theorem sel_one : ∀ {hs : List (Str × List (List Int))} {h : Str × List (List Int)}, (hs.map Prod.fst).Nodup → h ∈ hs → selR [h.1] hs = h.2
  | [], _, _, hh => (nomatch hh)
  | x :: hs, h, nd, hh => by
    rw [List.map_cons, List.nodup_cons] at nd
    have none : ∀ {y : Str}, y ∉ hs.map Prod.fst → selR [y] hs = [] := fun {y} ny => by
      unfold selR
      refine List.flatMap_eq_nil_iff.mpr fun z hz => if_neg fun e => ny ?_
      rw [← List.mem_singleton.mp e]
      exact List.mem_map_of_mem hz
    have cons : selR [h.1] (x :: hs) = (if x.1 ∈ [h.1] then x.2 else []) ++ selR [h.1] hs := rfl
    rw [cons]
    rcases List.mem_cons.mp hh with rfl | hh
    · rw [if_pos (List.mem_singleton.mpr rfl), none nd.1, List.append_nil]
    · rw [if_neg (fun e => nd.1 (by rw [List.mem_singleton.mp e]; exact List.mem_map_of_mem hh)), sel_one nd.2 hh]
      rfl
/-! ### the rooms by their names -/
theorem merge_app : ∀ (kvs acc : List (L2.Key × V)), ((acc ++ kvs).map Prod.fst).Nodup → mergeK acc kvs = acc ++ kvs
  | [], acc, _ => (List.append_nil _).symm
  | kv :: kvs, acc, nd => by
    have e : putK acc kv.1 kv.2 = acc ++ [kv] := by
      unfold putK
      rw [if_neg]
      intro z
      obtain ⟨x, mx, ex⟩ := List.any_eq_true.mp z
      rw [List.map_append, List.nodup_append] at nd
      exact nd.2.2 x.1 (List.mem_map_of_mem mx) kv.1 (List.mem_map_of_mem List.mem_cons_self) (of_decide_eq_true ex)
    show mergeK (putK acc kv.1 kv.2) kvs = _
    rw [e, merge_app kvs (acc ++ [kv]) (by rw [List.append_assoc]; exact nd), List.append_assoc]
    rfl
theorem val_mem : ∀ {kvs : List (L2.Key × V)} {k : L2.Key} {v : V}, (kvs.map Prod.fst).Nodup → (k, v) ∈ kvs → valV kvs k = some v
  | [], _, _, _, h => (nomatch h)
  | x :: kvs, k, v, nd, h => by
    rw [List.map_cons, List.nodup_cons] at nd
    rcases List.mem_cons.mp h with rfl | h
    · exact valV_pos rfl
    · rw [valV_neg (fun e => nd.1 (by rw [e]; exact List.mem_map_of_mem (f := Prod.fst) h))]
      exact val_mem nd.2 h
/-- a dict that holds a room for each of those names -/
def RoomsD (K : PySem.W.Frag) (H : Hp) (o : Addr) (hs : List (Str × List (List Int))) : Prop := ∃ kvs : List (L2.Key × V), H o = some (.dK kvs) ∧ ∀ h ∈ hs, ∃ r, valV kvs (.inr h.1) = some (.ref r) ∧ RowsAt K H r h.2
theorem rowsAt_tk {K : PySem.W.Frag} {H H' : Hp} {a : Addr} {rs : List (List Int)} (k : Tk H H') (h : RowsAt K H a rs) : RowsAt K H' a rs := by
  obtain ⟨ws, h1, h2⟩ := h
  exact ⟨ws, k _ _ _ h1, dpAll_tk k _ _ (noL_rows _) h2⟩
theorem RoomsD.same {K : PySem.W.Frag} {H H' : Hp} {o : Addr} {hs : List (Str × List (List Int))} (s : Same H H') (h : RoomsD K H o hs) : RoomsD K H' o hs := by
  obtain ⟨kvs, h1, h2⟩ := h
  refine ⟨kvs, s _ _ h1, fun x hx => ?_⟩
  obtain ⟨r, h3, h4⟩ := h2 x hx
  exact ⟨r, h3, rowsAt_tk (Tk.of s) h4⟩
theorem RoomsD.kept {K : PySem.W.Frag} {H H' : Hp} {o d c : Addr} {t : Int} {hs : List (Str × List (List Int))} (D : Deck H d c t) (k : Kept d c H H') (h : RoomsD K H o hs) : RoomsD K H' o hs := by
  obtain ⟨kvs, h1, h2⟩ := h
  refine ⟨kvs, k _ _ h1 (fun z => by subst z; rw [D.hd] at h1; cases h1) (fun z => by subst z; obtain ⟨_, hc, _⟩ := D.hc; rw [hc] at h1; cases h1), fun x hx => ?_⟩
  obtain ⟨r, h3, h4⟩ := h2 x hx
  exact ⟨r, h3, rowsAt_tk (Tk.kept D k) h4⟩
/-- the stand by five, whose hands' tuple has no dict -/
def FiveAt (K : PySem.W.Frag) (H : Hp) (a : Addr) (n : Nat) (kn : List (List Int)) (hs : List (Str × List (List Int))) : Prop := ∃ (k g : Addr) (ws : List V), SqT K H a [.int 5, .int (n : Int), .ref k, .ref g] ∧ RowsAt K H k kn ∧ TupF H g ws ∧ DpAll K H ws (hs.map handD)
theorem FiveAt.same {K : PySem.W.Frag} {H H' : Hp} {a : Addr} {n : Nat} {kn : List (List Int)} {hs : List (Str × List (List Int))} (s : Same H H') (h : FiveAt K H a n kn hs) : FiveAt K H' a n kn hs := by
  obtain ⟨k, g, ws, h1, h2, h3, h4⟩ := h
  exact ⟨k, g, ws, Same.tup s h1, rowsAt_tk (Tk.of s) h2, h3.same s, dpAll_same s _ _ h4⟩
theorem FiveAt.kept {K : PySem.W.Frag} {H H' : Hp} {a d c : Addr} {t : Int} {n : Nat} {kn : List (List Int)} {hs : List (Str × List (List Int))} (D : Deck H d c t) (e : Kept d c H H') (h : FiveAt K H a n kn hs) : FiveAt K H' a n kn hs := by
  obtain ⟨k, g, ws, h1, h2, ⟨o, h5, h3⟩, h4⟩ := h
  refine ⟨k, g, ws, Kept.tup D e h1, rowsAt_tk (Tk.kept D e) h2, ⟨o, h5, e _ _ h3 (fun z => by subst z; rw [D.hd] at h3; cases h3) (fun z => by subst z; obtain ⟨_, hc, _⟩ := D.hc; rw [hc] at h3; cases h3)⟩, dpAll_tk (Tk.kept D e) _ _ (noL_hands _) h4⟩
theorem FiveAt.dp {K : PySem.W.Frag} {H : Hp} {a : Addr} {n : Nat} {kn : List (List Int)} {hs : List (Str × List (List Int))} (h : FiveAt K H a n kn hs) : Dp K H (.ref a) (standD 5 n kn hs) := by
  obtain ⟨k, g, ws, h1, ⟨wk, h2, h3⟩, h4, h5⟩ := h
  exact .tup h1 (.cons (.int 5) (.cons (.int n) (.cons (.tup h2 h3) (.cons (.tup h4.sq h5) .nil))))
/-- the hands as pairs -/
theorem hands_pairs {K : PySem.W.Frag} {H : Hp} : ∀ {ws : List V} {hs : List (Str × List (List Int))}, DpAll K H ws (hs.map handD) → ∃ (ps : List Addr) (kvs : List (L2.Key × V)), ws = ps.map V.ref ∧ Paired (fun p kv => SqT K H p [kV kv.1, kv.2]) ps kvs ∧ kvs.map Prod.fst = (hs.map Prod.fst).map Sum.inr ∧
    ∀ h ∈ hs, ∃ r, ((Sum.inr h.1 : L2.Key), V.ref r) ∈ kvs ∧ RowsAt K H r h.2
  | [], [], _ => ⟨[], [], rfl, .nil, rfl, fun h hh => (nomatch hh)⟩
  | v :: ws, x :: hs, h => by
    cases h with
    | cons h1 h2 =>
      obtain ⟨b, r, rfl, hb, hr⟩ := dp_hand h1
      obtain ⟨ps, kvs, e1, e2, e3, e4⟩ := hands_pairs h2
      refine ⟨b :: ps, (Sum.inr x.1, .ref r) :: kvs, by rw [List.map_cons, e1], .cons hb e2, by rw [List.map_cons, e3]; rfl, fun z hz => ?_⟩
      rcases List.mem_cons.mp hz with rfl | hz
      · exact ⟨r, List.mem_cons_self, hr⟩
      · obtain ⟨r', h3, h4⟩ := e4 z hz
        exact ⟨r', List.mem_cons_of_mem _ h3, h4⟩
  | [], _ :: _, h => by cases h
  | _ :: _, [], h => by cases h
end OC
set_option Elab.async false
set_option linter.all false
set_option maxRecDepth 100000
set_option maxHeartbeats 2000000
/-! zip of a tuple and a list -/
namespace OC
open PySem PySem.Spec PyProof.Rows L2
/-- the tuple at a and the list at b as they stand at each turn, the items in new pairs -/
def ItzN (K : PySem.W.Frag) (a b : Addr) : It :=
  ⟨fun i H => ∃ (xs ys : List V) (x y : V), SqT K H a xs ∧ SqL K H b ys ∧ xs[i]? = some x ∧ ys[i]? = some y,
    fun i H v H' => ∃ T x y, v = .ref T ∧ H T = none ∧ H' = upd H T (.tup [x, y]) ∧ (∀ xs, SqT K H a xs → xs[i]? = some x) ∧ ∀ ys, SqL K H b ys → ys[i]? = some y,
    fun i H => ∃ xs ys : List V, SqT K H a xs ∧ SqL K H b ys ∧ i ≤ xs.length ∧ i ≤ ys.length ∧ (i = xs.length ∨ i = ys.length)⟩
theorem turn_zipN {P : Program} {w : World} {K : PySem.W.Frag} {elts : List Expr} {kk : Nat} {tpos : Pos} {a b z TI TO i1 i2 : Addr} (D : ZipApart z TI TO i1 i2 a b) :
    Turn P w K (.Tuple elts kk tpos) (ItzN K a b) [z, TI, TO, i1, i2] z (fun i h => IsZip h z TI TO .none ∧ IsTupOf2 h TI (.ref i1) (.ref i2) ∧ (∃ x y, IsTupOf2 h TO x y) ∧ h.IsTupleIter i1 a i ∧ h.IsListIter i2 b i) where
  mem := by simp
  obj := fun i h st c hc => by
    obtain ⟨hz, hTI, ⟨x, y, hTO⟩, ⟨o1, e1, _, d1⟩, ⟨o2, e2, _, d2⟩⟩ := st
    have e' : c = z ∨ c = TI ∨ c = TO ∨ c = i1 ∨ c = i2 := by simpa using hc
    rcases e' with q | q | q | q | q
    · rw [q]; exact ⟨_, hz, fun v q => nomatch q⟩
    · rw [q]; exact ⟨_, hTI, fun v q => nomatch q⟩
    · rw [q]; exact ⟨_, hTO, fun v q => nomatch q⟩
    · rw [q]; exact ⟨o1, e1, fun v q => by rw [d1] at q; cases q⟩
    · rw [q]; exact ⟨o2, e2, fun v q => by rw [d2] at q; cases q⟩
  keep := fun i h h' st k => by
    obtain ⟨hz, hTI, ⟨x, y, hTO⟩, h1, h2⟩ := st
    exact ⟨k z (by simp) _ hz, k TI (by simp) _ hTI, ⟨x, y, k TO (by simp) _ hTO⟩, h1.at fun o q => k i1 (by simp) o q, h2.at fun o q => k i2 (by simp) o q⟩
  item := by
    intro X hP hw hK hc i pins s σ H E I hf st hg
    subst hP hw hK
    obtain ⟨hz, hTI, ⟨x0, y0, hTO⟩, h1, h2⟩ := st
    obtain ⟨xs, ys, x, y, hqx, hqy, hx, hy⟩ := hg
    obtain ⟨its, rv, p, _⟩ := I.tuple hqx
    obtain ⟨its2, rv2, p2, _⟩ := I.list hqy
    obtain ⟨u, hu, ru⟩ := rv.get hx
    obtain ⟨u2, hu2, ru2⟩ := rv2.get hy
    have hzl : z < s.heap.objs.size := Heap.lt_size hz
    have hh : X.A.in1.handled = none := I.ok.hd hc
    refine wpAny_pyNext_zipD2_item (sep_of D) (Draws.tuple hh i1 a D.l1i1 its.toArray) (Draws.list hh i2 b D.l2i2 its2.toArray) hz hTI hTO ⟨h1, p⟩ ⟨h2, p2.isList⟩ ?_ ?_ fun x1 x2 h' tk y1 y2 z' TO' st1' st2' hT hsz hk => ?_
    · have := (List.getElem?_eq_some_iff.mp hu).1
      simpa using this
    · have := (List.getElem?_eq_some_iff.mp hu2).1
      simpa using this
    have e1 : x1 = u := by
      have : its[i]? = some x1 := by simpa using y1
      rw [hu] at this
      exact (Option.some.inj this).symm
    have e2 : x2 = u2 := by
      have : its2[i]? = some x2 := by simpa using y2
      rw [hu2] at this
      exact (Option.some.inj this).symm
    subst e1 e2
    refine ⟨_, rfl, wpAny_letOwnedTupleGo_zip (s := { s with heap := h', toks := tk }) z' fun h'' z'' sb => ?_⟩
    have hT2 : h''.get? s.heap.objs.size = some { cls := .type "tuple", data := .seq #[x1, x2] } := (sb.2 _ (Nat.ne_of_gt hzl)).trans hT
    have new : ObjOk X.prog X.w (upd H s.heap.objs.size (.tup [x, y])) h'' s.heap.objs.size (.tup [x, y]) :=
      ⟨by show 2 ≤ sizeLine; decide, [x1, x2], .cons ru (.cons ru2 .nil), ⟨_, hT2, rfl, _, rfl⟩⟩
    have I1 : Inv X pins σ (upd H s.heap.objs.size (.tup [x, y])) { s with heap := h'', toks := tk } :=
      I.turnedNew (t' := tk) (ch := [z, TI, TO, i1, i2]) (fun c o hb q => (sb.2 c (fun q' => hb (by simp [q']))).trans (hk c o (fun q' => hb (by simp [q'])) (fun q' => hb (by simp [q'])) (fun q' => hb (by simp [q'])) (fun q' => hb (by simp [q'])) q)) hf (Nat.le_refl _) new
    refine ⟨.ref s.heap.objs.size, _, I1, rfl, ⟨_, x, y, rfl, I.hok.fresh (Nat.le_refl _), rfl, fun l hl => by rw [I.tuple_inj hl hqx]; exact hx, fun l hl => by rw [I.list_inj hl hqy]; exact hy⟩, ⟨z'', ?_, ⟨x1, x2, ?_⟩, ?_, ?_⟩, fun c hcm => ?_⟩
    · exact (sb.2 _ D.TIz).trans (hk _ _ D.TIz D.TITO D.TIi1 D.TIi2 hTI)
    · exact (sb.2 _ D.TOz).trans TO'
    · exact st1'.1.at fun o q => (sb.2 _ D.i1z).trans q
    · exact st2'.1.at fun o q => (sb.2 _ D.i2z).trans q
    · have hlt : c < s.heap.objs.size := by
        have e' : c = z ∨ c = TI ∨ c = TO ∨ c = i1 ∨ c = i2 := by simpa using hcm
        rcases e' with q | q | q | q | q
        · rw [q]; exact hzl
        · rw [q]; exact Heap.lt_size hTI
        · rw [q]; exact Heap.lt_size hTO
        · rw [q]; obtain ⟨_, e1, _⟩ := h1; exact Heap.lt_size e1
        · rw [q]; obtain ⟨_, e2, _⟩ := h2; exact Heap.lt_size e2
      rw [upd_ne (Nat.ne_of_lt hlt)]
      exact (hf c hcm).1
  done := by
    intro X hP hw hK hc i pins s σ H E I hf st hg
    subst hP hw hK
    obtain ⟨hz, hTI, ⟨x0, y0, hTO⟩, h1, h2⟩ := st
    obtain ⟨xs, ys, hqx, hqy, le1, le2, hend⟩ := hg
    obtain ⟨its, rv, p, _⟩ := I.tuple hqx
    obtain ⟨its2, rv2, p2, _⟩ := I.list hqy
    have l1 := rv.length
    have l2 := rv2.length
    have hh : X.A.in1.handled = none := I.ok.hd hc
    have sz1 : its.toArray.size = its.length := by simp
    have sz2 : its2.toArray.size = its2.length := by simp
    exact wpAny_pyNext_zipD2_end (sep_of D) (Draws.tuple hh i1 a D.l1i1 its.toArray) (Draws.list hh i2 b D.l2i2 its2.toArray) hz hTI hTO ⟨h1, p⟩ ⟨h2, p2.isList⟩ (by omega) (by omega) (by omega) fun h' tk hk => ⟨rfl, I.turnedL (t' := tk) (ch := [z, TI, TO, i1, i2]) (fun c o hb q =>
      hk c o (fun q' => hb (by simp [q'])) (fun q' => hb (by simp [q'])) (fun q' => hb (by simp [q'])) (fun q' => hb (by simp [q'])) q) hf⟩
  self := fun A i s Q E st h => wpAny_pyIter_zip st.1 h
/-- zip(xs, ys) of a tuple and a list -/
def iZipN (K : PySem.W.Frag) (ta : TA) : TI := fun σ H R => ta σ H fun vs H1 => ∃ a b xs ys, vs = [.ref a, .ref b] ∧ SqT K H1 a xs ∧ SqL K H1 b ys ∧ R (ItzN K a b) H1
theorem pi_zipN {X : Cx} {e e2 : Expr} {ta : TA} {p pos tpos : Pos} {elts : List Expr} {kk : Nat} (hg : Gl X "zip") (hm : X.mg "zip" = none) (ha : PA X [e, e2] ta)
    (hs : starEach [e, e2] X.env = (false, eval e X.env) :: starEach [e2] X.env := by rfl) (hpl : (backTo pos (starEach [e2] X.env)).any (·.1) = false := by rfl) :
    PI X (.Tuple elts kk tpos) (.Call (.Name "zip" p) [e, e2] [] pos) (iZipN X.K ta) := by
  refine ⟨fun pins s σ H R I h => ?_⟩
  refine Call_ (ld_blt I hg hm PyProof.Rows.boot_zip (PyProof.Rows.callWith_type1 (thn (ha.run pos pins s σ H _ I h) fun us s1 ⟨vs, H1, I1, r1, q1⟩ => ?_) hs hpl))
  obtain ⟨a, b, xs, ys, ex, hqx, hqy, q⟩ := q1
  subst ex
  cases r1 with
  | cons r rr =>
    cases rr with
    | cons r' rr =>
      cases rr
      cases r
      cases r'
      have fresh5 : ∀ c, c ∈ [s1.heap.objs.size + 4, s1.heap.objs.size + 2, s1.heap.objs.size + 3, s1.heap.objs.size, s1.heap.objs.size + 1] → FpOk X pins H1 c := fun c hcm => by
        have hle : s1.heap.objs.size ≤ c := by
          have e' : c = s1.heap.objs.size + 4 ∨ c = s1.heap.objs.size + 2 ∨ c = s1.heap.objs.size + 3 ∨ c = s1.heap.objs.size ∨ c = s1.heap.objs.size + 1 := by simpa using hcm
          rcases e' with z | z | z | z | z
          · rw [z]; exact Nat.le_add_right _ _
          · rw [z]; exact Nat.le_add_right _ _
          · rw [z]; exact Nat.le_add_right _ _
          · rw [z]; exact Nat.le_refl _
          · rw [z]; exact Nat.le_add_right _ _
        exact I1.fpOk hle (I1.hok.fresh hle)
      obtain ⟨its, rv, p1, _⟩ := I1.tuple hqx
      obtain ⟨its2, rv2, p2, _⟩ := I1.list hqy
      obtain ⟨o1, ho1, _⟩ := id p1
      refine zip_begins2 (begins_tuple a its.toArray) (begins_list b its2.toArray) (show s1.heap.IsTuple a its.toArray from p1) p2.isList fun h' hz hTI hTO h1 h2 hsz hk => wpAny_pyIter_zip hz ?_
      have I2 : Inv X pins σ H1 { s1 with heap := h' } := I1.kept (t' := s1.toks) hk
      exact ⟨s1.heap.objs.size + 4, [s1.heap.objs.size + 4, s1.heap.objs.size + 2, s1.heap.objs.size + 3, s1.heap.objs.size, s1.heap.objs.size + 1], _, _, H1, rfl, I2, turn_zipN (PySem.W.ktu_apart s1.heap.objs.size a b (Heap.lt_size ho1) p2.lt), ⟨hz, hTI, ⟨_, _, hTO⟩, ⟨_, h1, rfl, rfl⟩, ⟨_, h2, rfl, rfl⟩⟩, fresh5, q⟩
theorem walk_zipN {K : PySem.W.Frag} {a b : Addr} {xs ys : List V} {n : Nat} (hn : n = min xs.length ys.length) : Walk (ItzN K a b) n (fun H => SqT K H a xs ∧ SqL K H b ys) (YPair (fun i => xs[i]?) (fun i => ys[i]?)) where
  goes i H hi q := by
    have hx : i < xs.length := by rw [hn] at hi; exact Nat.lt_of_lt_of_le hi (Nat.min_le_left _ _)
    have hy : i < ys.length := by rw [hn] at hi; exact Nat.lt_of_lt_of_le hi (Nat.min_le_right _ _)
    exact ⟨xs, ys, _, _, q.1, q.2, List.getElem?_eq_getElem hx, List.getElem?_eq_getElem hy⟩
  stops H q := ⟨xs, ys, q.1, q.2, by omega, by omega, by omega⟩
  yields i H v H' _ q y := by
    obtain ⟨T, x, z, ev, nT, eH, gx, gz⟩ := y
    exact ⟨T, x, z, ev, nT, eH, gx xs q.1, gz ys q.2⟩
end OC
set_option Elab.async false
set_option linter.all false
set_option maxRecDepth 100000
set_option maxHeartbeats 4000000
namespace OC
open PySem PySem.Spec PyProof.Rows L2 Lin
/-- the contrary rest, looked for from 0 on -/
theorem ctr_first0 {p : Int} (hF : Fld p) {a : Int} (h0 : 1 ≤ a) (h1 : a < p) : (((List.range p.toNat).map fun (i : Nat) => ((i : Nat) : Int)).filter fun k => decide (k * a % p = 1))[0]? = some (ctr p a) := by
  have ec : (fun k : Int => decide (k * a % p = 1)) = fun b => decide (a * b % p = 1) := by
    funext k
    rw [Int.mul_comm]
  rw [ec]
  have hc := ctr_ok hF h0 h1
  have hh : ctr p a = (((List.range p.toNat).map fun (i : Nat) => ((i : Nat) : Int)).filter fun b => decide (a * b % p = 1)).headD 0 := rfl
  generalize hL : ((List.range p.toNat).map fun (i : Nat) => ((i : Nat) : Int)).filter (fun b => decide (a * b % p = 1)) = L at hh ⊢
  cases L with
  | nil =>
    rw [show ([] : List Int).headD 0 = 0 from rfl] at hh
    rw [hh, Int.mul_zero, Int.zero_emod] at hc
    exact absurd hc.2.2 (by decide)
  | cons x L => rw [hh]; rfl
/-- the first rest above 0 -/
theorem pos_head : ∀ {r : List Int}, (∀ x ∈ r, 0 ≤ x) → fpR r < r.length → (r.filter fun x => decide (x > 0))[0]? = some (r.getD (fpR r) 0)
  | [], _, h => (nomatch h)
  | x :: r, hb, h => by
    by_cases hx : x = 0
    · subst hx
      rw [fpR_zero] at h ⊢
      rw [List.filter_cons_of_neg (by decide), List.getD_cons_succ]
      exact pos_head (fun y hy => hb y (List.mem_cons_of_mem _ hy)) (by simpa using h)
    · have : x > 0 := by have := hb x List.mem_cons_self; omega
      have e : (x :: r).filter (fun x => decide (x > 0)) = x :: r.filter (fun x => decide (x > 0)) := by simp [List.filter_cons, this]
      rw [fpR_nz hx, e]
      rfl
end OC
set_option Elab.async false
set_option linter.all false
set_option maxRecDepth 100000
set_option maxHeartbeats 4000000
/-! a stand whose hands' tuple has no dict, and its rooms by their names -/
namespace OC
open PySem PySem.Spec PyProof.Rows L2
def StandAt (K : PySem.W.Frag) (H : Hp) (a : Addr) (p : Int) (n : Nat) (kn : List (List Int)) (hs : List (Str × List (List Int))) : Prop := ∃ (k g : Addr) (ws : List V), SqT K H a [.int p, .int (n : Int), .ref k, .ref g] ∧ RowsAt K H k kn ∧ TupF H g ws ∧ DpAll K H ws (hs.map handD)
section
variable {K : PySem.W.Frag} {H H' : Hp} {a d c o : Addr} {t p : Int} {n : Nat} {kn : List (List Int)} {hs : List (Str × List (List Int))}
theorem StandAt.same (s : Same H H') (h : StandAt K H a p n kn hs) : StandAt K H' a p n kn hs := by
  obtain ⟨k, g, ws, h1, h2, h3, h4⟩ := h
  exact ⟨k, g, ws, Same.tup s h1, rowsAt_tk (Tk.of s) h2, h3.same s, dpAll_same s _ _ h4⟩
theorem StandAt.kept (D : Deck H d c t) (e : Kept d c H H') (h : StandAt K H a p n kn hs) : StandAt K H' a p n kn hs := by
  obtain ⟨k, g, ws, h1, h2, ⟨o, h5, h3⟩, h4⟩ := h
  refine ⟨k, g, ws, Kept.tup D e h1, rowsAt_tk (Tk.kept D e) h2, ⟨o, h5, e _ _ h3 (fun z => by subst z; rw [D.hd] at h3; cases h3) (fun z => by subst z; obtain ⟨_, hc, _⟩ := D.hc; rw [hc] at h3; cases h3)⟩, dpAll_tk (Tk.kept D e) _ _ (noL_hands _) h4⟩
theorem StandAt.dp (h : StandAt K H a p n kn hs) : Dp K H (.ref a) (standD p n kn hs) := by
  obtain ⟨k, g, ws, h1, ⟨wk, h2, h3⟩, h4, h5⟩ := h
  exact .tup h1 (.cons (.int p) (.cons (.int n) (.cons (.tup h2 h3) (.cons (.tup h4.sq h5) .nil))))
/-- rooms[x] -/
theorem RoomsD.get (h : RoomsD K H o hs) {z : Str × List (List Int)} (mz : z ∈ hs) : ∃ r, DGet H o (.str z.1) (some (.ref r)) ∧ RowsAt K H r z.2 := by
  obtain ⟨kvs, h1, h2⟩ := h
  obtain ⟨r, h3, h4⟩ := h2 z mz
  refine ⟨r, ?_, h4⟩
  have := DGet.k (k := (Sum.inr z.1 : L2.Key)) h1
  rw [h3] at this
  exact this
/-- a hand's room is what it knows with the calls -/
theorem Stand5.own (S : Stand5 p n kn hs) {z : Str × List (List Int)} (mz : z ∈ hs) : plainR p n (kn ++ selR [z.1] hs) = z.2 := by
  rw [sel_one S.nd mz]
  have pz := S.ph z mz
  refine (plain_same S.fld (rowsOk_app S.pk.1 pz.1) pz.1 (fun r hr => ?_) fun r hr => InR.mem (List.mem_append_right _ hr)).trans pz.2
  rcases List.mem_append.mp hr with hr | hr
  · exact S.inn z mz r hr
  · exact InR.mem hr
end
end OC
set_option Elab.async false
set_option linter.all false
set_option maxRecDepth 100000
set_option maxHeartbeats 4000000
/-! max(xs, key=lambda x: x[0]) over a list of new tuples whose first thing is a whole number -/
namespace OC
open PySem PySem.Spec PyProof.Rows L2 LamX
/-- all but the frames' slots is as it was -/
structure Still (fs : List Addr) (h h' : Heap) : Prop where
  keep : ∀ b o, h.get? b = some o → b ∉ fs → h'.get? b = some o
  slot : ∀ b o, h.get? b = some o → ∃ sl, h'.get? b = some { o with slots := sl }
theorem Still.refl (fs : List Addr) (h : Heap) : Still fs h h := ⟨fun _ _ e _ => e, fun _ o e => ⟨o.slots, e⟩⟩
theorem Still.trans {fs : List Addr} {h h1 h2 : Heap} (a : Still fs h h1) (b : Still fs h1 h2) : Still fs h h2 := ⟨fun x o e n => b.keep x o (a.keep x o e n) n, fun x o e => by
  obtain ⟨s1, e1⟩ := a.slot x o e
  obtain ⟨s2, e2⟩ := b.slot x _ e1
  exact ⟨s2, e2⟩⟩
end OC
set_option Elab.async false
set_option linter.all false
set_option maxRecDepth 100000
set_option maxHeartbeats 2000000
/-! tables of code objects: what stays where a lambda is made; the end with one table and the modules' dict -/
namespace OC
open PySem PySem.Spec PyProof.Rows L2 LamX
/-! ### what stays -/
theorem ExtN.same {H H' : Hp} (e : Same H H') : ExtN H H' := fun b o h _ => e b o h
theorem ExtN.tk {H H' : Hp} (e : ExtN H H') : Tk H H' := fun K a xs h => by
  rcases h with (h | ⟨o, h⟩) | h
  · exact .inl (.inl (e _ _ h fun ps z => by cases z))
  · exact .inl (.inr ⟨o, e _ _ h fun ps z => by cases z⟩)
  · exact .inr h
theorem ExtN.lst {H H' : Hp} (e : ExtN H H') {a : Addr} {xs : List V} (h : H a = some (.lst xs)) : H' a = some (.lst xs) := e _ _ h fun ps z => by cases z
theorem ExtN.tup {H H' : Hp} (e : ExtN H H') {a : Addr} {xs : List V} (h : H a = some (.tup xs)) : H' a = some (.tup xs) := e _ _ h fun ps z => by cases z
/-- all but the deck's two lists and the tables stays -/
def KeptN (d c : Addr) (H H' : Hp) : Prop := ∀ b o, H b = some o → b ≠ d → b ≠ c → (∀ ps, o ≠ .tbl ps) → H' b = some o
theorem KeptN.refl (d c : Addr) (H : Hp) : KeptN d c H H := fun _ _ h _ _ _ => h
theorem KeptN.trans {d c : Addr} {H H1 H2 : Hp} (a : KeptN d c H H1) (b : KeptN d c H1 H2) : KeptN d c H H2 := fun x o h n m t => b x o (a x o h n m t) n m t
theorem KeptN.ext {d c : Addr} {H H' : Hp} (a : ExtN H H') : KeptN d c H H' := fun x o h _ _ t => a x o h t
section
variable {T : List (Addr × Str)} {H H' : Hp}
theorem Tabs.same (t : Tabs T H) (e : Same H H') : Tabs T H' := t.ext e
/-- tables stay where all but two lists stays -/
theorem Tabs.kept {d c : Addr} {xs ys : List V} (t : Tabs T H) (hd : H d = some (.lst xs)) (hc : H c = some (.lst ys)) (k : Kept d c H H') : Tabs T H' := fun p hp => by
  obtain ⟨ps, h1, h2, h3⟩ := t p hp
  have nd : ∀ {b : Addr} {o : HO}, H b = some o → (∀ zs, o ≠ .lst zs) → b ≠ d ∧ b ≠ c := fun {b o} e n => ⟨fun z => by
    rw [z, hd] at e
    exact n _ (Option.some.inj e).symm, fun z => by
    rw [z, hc] at e
    exact n _ (Option.some.inj e).symm⟩
  obtain ⟨n1, n2⟩ := nd h1 (fun zs z => by cases z)
  refine ⟨ps, k _ _ h1 n1 n2, h2, fun pos cv hcv => ?_⟩
  obtain ⟨co, e1, e2⟩ := h3 pos cv hcv
  obtain ⟨m1, m2⟩ := nd e2 (fun zs z => by
    unfold CodeO at z
    cases z)
  exact ⟨co, e1, k _ _ e2 m1 m2⟩
end
/-! ### the end -/
end OC
set_option Elab.async false
set_option linter.all false
set_option maxRecDepth 100000
set_option maxHeartbeats 4000000
/-! a def whose code object is known -/
namespace OC
open PySem PySem.Spec PyProof.Rows L2 LamX
/-- a def by name, its code object at c -/
structure DfC (K : PySem.W.Frag) (mg : Str → Option Value) (x : Str) (st : Stmt) (ps : List Str) (c : Addr) : Prop where
  ex : ∃ (f : Addr) (oc : Value) (od an : Option Addr) (kV doc pm ct : Value) (osl : Array (Option Value)),
    K.lookup f = some ⟨oc, od, .func (PySem.W.fnOf x x (defArgs st) (defBody st) (defScope st) .none kV doc pm an (.ref c) ct), osl⟩ ∧ PySem.W.codeIn K (.ref c) x = true ∧ PySem.W.keepIn K (.ref f) = true ∧ mg x = some (.ref f) ∧
    Binds K (PySem.W.fnOf x x (defArgs st) (defBody st) (defScope st) .none kV doc pm an (.ref c) ct) ps []
section
variable {P : Program} {w : World} {K : PySem.W.Frag} {mg : Str → Option Value} {base : Heap}
theorem DfC.ok {x : Str} {st : Stmt} {N ps : List Str} {k : Nat} {c : Addr} {sp : Sp} (D : DfC K mg x st ps c) (S : FnScope N ps (defScope st)) (len : ∀ vs H Q E, sp vs H Q E → vs.length = ps.length)
    (hbody : ∀ (f : Addr) (A : Around) (outer : List Env) (s : Shared) (H : Hp) (vs : List V) (Q : VK) (E : XK), Room k (A.deeper (envOfC x (defScope st) s.heap.objs.size f (.ref c))) → sp vs H Q E →
      ∃ t, PSs (cxOf CX0 P w K mg base N x (defScope st) f (.ref c) A outer s H E).nox (defBody st) t ∧ t { nx := fun _ H' => Q .non H', rt := Q } (start N vs) H) : Ok P w K mg base (k + 1) x ps sp := by
  obtain ⟨f, oc, od, an, kV, doc, pm, ct, osl, lk, hc, hk, hm, hb⟩ := D.ex
  refine ⟨f, _, fn_of (CX := CX0) lk hc S len fun A outer s H vs Q E hr hsp => ?_, hm, hk, hb⟩
  obtain ⟨t, ht, hq⟩ := hbody f A outer s H vs Q E hr hsp
  exact ⟨t, ht.nox, hq⟩
end
end OC
set_option Elab.async false
set_option linter.all false
set_option maxRecDepth 100000
set_option maxHeartbeats 4000000
/-! any thing == a text; any thing in a tuple of texts; t != () -/
namespace OC
open PySem PySem.Spec PyProof.Rows L2
open PySem.SeqAt
section
variable {A : Around} {s : Shared}
theorem str_eq_declines_dict (b : Str) (u : Tok) (l : Addr) (dd : Option Addr) (es : Array DictEntry) (ep : Nat) (sl : Array (Option Value)) :
    Meets (Builtin.«str.__eq__» ⟨[.str b u, .ref l], []⟩) (fun _ R s => s.heap.get? l = some { cls := .type "dict", dict := dd, data := .dict es ep, slots := sl } ∧ R (.ok (.ret .notImplemented)) s) :=
  .of_wp fun prog w A R s h => by
    obtain ⟨hl, h⟩ := h
    obtain ⟨hp, g, d, tk, os⟩ := s
    wp_walk using wpAny_load hl
    exact ⟨_, rfl, h⟩
theorem dict_eq_str {prog : Program} {w : World} {E : Value → Shared → Prop} {Q : Value → Shared → Prop} {l : Addr} {b : Str} {u : Tok} (hl : s.TypeIs (.ref l) "dict") (h : Q .notImplemented s) :
    wpAny (model prog w) A (call (.builtin "dict.__eq__") [.ref l, .str b u]) Q E s := by
  refine wpAny_call_entry PySem.F.slot_dict_eq hl PySem.F.entry_dict_eq ?_ (PySem.F.args_dict_eq_2 _ _)
  show wpAny _ _ (Builtin.Dict.dictSlotArgs "__eq__" ⟨[.ref l, .str b u], []⟩ >>= _) _ _ s
  refine wpAny_bind ?_
  unfold Builtin.Dict.dictSlotArgs
  refine wpAny_bind (wpAny_notOrdered_dict hl ?_)
  show wpAny _ _ (pure (Value.ref l, Value.str b u)) _ _ s
  refine wpAny_pure ?_
  refine wpAny_bind (wpAny_isInstance (T := "str") (typeIs_str s b u) PySem.F.sub_str_dict ?_)
  simp only [Bool.not_false, if_true]
  refine wpAny_bind (wpAny_rule ?_)
  refine wpAny_bind (wpAny_pure (wpAny_pure ⟨_, rfl, h⟩))
theorem rcAt_str_dict {prog : Program} {w : World} {l : Addr} {kvs : List (L2.Key × Value)} (b : Str) (u : Tok) (hl : s.heap.DictOf (mixKind prog w) l kvs) (hu : A.units < cLine) : RcAt A s (.str b u) (.ref l) false := fun prog w E Q h => by
  obtain ⟨⟨cls, dd, data, sl⟩, es, ep, ho, hx, hd, _⟩ := id hl
  have hT := hl.typeIs
  have hc : cls = .type "dict" := hx.1
  simp only at hd
  subst hd hc
  exact rc_eq_decline_or (k := false) (typeIs_str s b u) hT (by decide) F.sub_dict_str F.slot_str_eq F.slot_dict_eq_refl
    (fun _ hq => call_meets F.slot_str_eq (typeIs_str s b u) F.entry_str_eq (F.args_str_eq_2 _ _) (str_eq_declines_dict b u l dd es ep sl) ⟨ho, hq⟩)
    (fun _ hq => dict_eq_str hT hq)
    (fun _ hq => wpAny_of_eq (rfl : isSame (.str b u) (.ref l) = pure false) hq) (.inr hu) h
theorem eqAt_str_dict {prog : Program} {w : World} {l : Addr} {kvs : List (L2.Key × Value)} (b : Str) (u : Tok) (hl : s.heap.DictOf (mixKind prog w) l kvs) (hu : A.units < cLine) : EqAt A s (.str b u) (.ref l) false := fun prog w E Q q => by
  unfold eqBool
  refine wpAny_holding ?_
  refine wpAny_ite_split (fun hab => absurd (eq_of_beq hab) nofun) (fun _ => ?_)
  exact wpAny_bind (rcAt_str_dict b u hl hu prog w E _ (wpAny_truthy_bool q))
end
/-- of a known kind -/
inductive AnyT (K : PySem.W.Frag) (H : Hp) : V → Prop
  | non : AnyT K H .non
  | bl (b : Bool) : AnyT K H (.bl b)
  | int (i : Int) : AnyT K H (.int i)
  | str (x : Str) : AnyT K H (.str x)
  | lst {a : Addr} {xs : List V} : SqL K H a xs → AnyT K H (.ref a)
  | tup {a : Addr} {xs : List V} : SqT K H a xs → AnyT K H (.ref a)
  | dct {a : Addr} {kvs : List (L2.Key × V)} : H a = some (.dK kvs) → AnyT K H (.ref a)
theorem Rep.any {K : PySem.W.Frag} {H : Hp} {bad : Addr → Prop} {v : V} {d : PyData} (r : Rep K H bad v d) : AnyT K H v := by
  cases r with
  | non => exact .non
  | bl b => exact .bl b
  | int i => exact .int i
  | str x => exact .str x
  | lst h _ _ => exact .lst (.inl (.inl h))
  | tup h _ => exact .tup h
  | dct h _ => exact .dct h
def isSt (z : Str) : V → Bool
  | .str y => z == y
  | _ => false
theorem eqAt_St {X : Cx} {pins : List (Addr × Obj)} {σ : L2.St} {H : Hp} {s : Shared} {A : Around} (I : Inv X pins σ H s) (hu : A.units < cLine) {x : V} {v : Value} (a : AnyT X.K H x) (rx : RelV x v) (z : Str) (t : Tok) : SeqAt.EqAt A s (.str z t) v (isSt z x) := by
  cases a with
  | non => cases rx; exact SeqAt.EqAt.str_none z t
  | bl b => cases rx; exact SeqAt.EqAt.str_bool z t b
  | int i => obtain ⟨t', rfl⟩ := rx; exact SeqAt.EqAt.str_int z t i t'
  | str x => obtain ⟨t', rfl⟩ := rx; exact SeqAt.EqAt.str_str z t x t'
  | lst h => cases rx; obtain ⟨its, r1, p1, _⟩ := I.list h; exact SeqAt.EqAt.str_list z t p1.isList hu
  | tup h => cases rx; obtain ⟨its, r1, p1, _⟩ := I.tuple h; exact SeqAt.EqAt.str_tuple z t p1 hu
  | dct h =>
    cases rx
    obtain ⟨_, ya, va, ra, da⟩ := (show ObjOk X.prog X.w H s.heap _ (.dK _) from I.hok _ _ h)
    exact eqAt_str_dict z t da hu
def stU (x : V) : Value → Bool
  | .str z _ => isSt z x
  | _ => false
theorem mem_St {X : Cx} {pins : List (Addr × Obj)} {σ : L2.St} {H : Hp} {s : Shared} {A : Around} (I : Inv X pins σ H s) (hu : A.units < cLine) {x : V} {v : Value} (a : AnyT X.K H x) (rx : RelV x v) : ∀ {zs : List Str} {us : List Value}, Vals (zs.map V.str) us → (∀ u ∈ us, SeqAt.EqAt A s u v (stU x u)) ∧ us.any (stU x) = zs.any fun z => isSt z x
  | [], _, r => by cases r; exact ⟨fun u hu => (by cases hu), rfl⟩
  | z :: zs, _, r => by
    cases r with
    | cons r1 r2 =>
      obtain ⟨t, rfl⟩ := r1
      obtain ⟨h1, h2⟩ := mem_St I hu a rx r2
      refine ⟨fun u hm => ?_, by rw [List.any_cons, List.any_cons, h2]; rfl⟩
      rcases List.mem_cons.mp hm with rfl | hm
      · exact eqAt_St I hu a rx z t
      · exact h1 u hm
end OC
namespace OC
open PySem PySem.Spec PyProof.Rows L2
/-- any thing not in a list of texts -/
def rNInSt (K : PySem.W.Frag) : R2 := fun x y H Q => ∃ (p : Addr) (zs : List Str), y = .ref p ∧ (SqL K H p (zs.map V.str) ∨ SqT K H p (zs.map V.str)) ∧ AnyT K H x ∧ Q (.bl (!zs.any fun z => isSt z x)) H
theorem op_notInSt {X : Cx} (hu : X.A.units + 1 < cLine) : OpR X (compareOp .NotIn) (rNInSt X.K) := by
  intro pins s σ H x y v u Q I rx ry h
  obtain ⟨p, zs, rfl, hq, a, q⟩ := h
  cases ry
  rcases hq with hq | hq
  · obtain ⟨its, r, pl, hz⟩ := I.list hq
    obtain ⟨h1, h2⟩ := mem_St (A := X.A.in1) I hu a rx r
    refine SeqAt.notIn_listAt (stU x) pl.isList (fun w hw => h1 w (by simpa using hw)) ⟨.bl _, H, I, rfl, ?_⟩
    rw [show its.toArray.any (stU x) = its.any (stU x) by simp, h2]
    exact q
  · obtain ⟨its, r, pl, hz⟩ := I.tuple hq
    obtain ⟨h1, h2⟩ := mem_St (A := X.A.in1) I hu a rx r
    refine SeqAt.notIn_tupleAt (stU x) pl (fun w hw => h1 w (by simpa using hw)) ⟨.bl _, H, I, rfl, ?_⟩
    rw [show its.toArray.any (stU x) = its.any (stU x) by simp, h2]
    exact q
end OC
set_option Elab.async false
set_option linter.all false
set_option maxRecDepth 100000
set_option maxHeartbeats 4000000
/-! things that nest, with weights -/
namespace OC
open PySem PySem.Spec PyProof.Rows L2
mutual
/-- numbers to 10 ^ 29 and g, no more than g items, signs that repr shows, no dict but the empty one -/
def nz (g : Nat) : PyData → Bool
  | .none => true
  | .bool _ => true
  | .int i => decide (i.natAbs ≤ 10 ^ 29 + g)
  | .str x => x.cps.toList.all fun c => decide (c < 1000000)
  | .list ds => decide (ds.length ≤ g) && nzAll g ds
  | .tuple ds => decide (ds.length ≤ g) && nzAll g ds
  | .dict ds => ds.isEmpty
def nzAll (g : Nat) : List PyData → Bool
  | [] => true
  | d :: ds => nz g d && nzAll g ds
end
mutual
/-- no less than the signs of repr -/
def wt : PyData → Nat
  | .none => 50
  | .bool _ => 50
  | .int _ => 50
  | .str x => 10 * x.length + 50
  | .list ds => wtAll ds + 50
  | .tuple ds => wtAll ds + 50
  | .dict _ => 50
def wtAll : List PyData → Nat
  | [] => 0
  | d :: ds => wt d + 2 + wtAll ds
end
theorem nzAll_iff {g : Nat} : ∀ {ds : List PyData}, nzAll g ds = true ↔ ∀ d ∈ ds, nz g d = true
  | [] => by simp [nzAll]
  | d :: ds => by simp only [nzAll, Bool.and_eq_true, nzAll_iff (ds := ds), List.forall_mem_cons]
theorem wt_ge : ∀ d : PyData, 50 ≤ wt d
  | .none => by simp [wt]
  | .bool _ => by simp [wt]
  | .int _ => by simp [wt]
  | .str x => by simp [wt]
  | .list ds => by simp [wt]
  | .tuple ds => by simp [wt]
  | .dict _ => by simp [wt]
theorem wtAll_len : ∀ xs : List PyData, 52 * xs.length ≤ wtAll xs
  | [] => Nat.le_refl _
  | d :: xs => by
    have := wtAll_len xs
    have := wt_ge d
    rw [List.length_cons, wtAll]
    omega
theorem wtAll_mem : ∀ {xs : List PyData} {d : PyData}, d ∈ xs → wt d + 2 ≤ wtAll xs
  | x :: xs, d, h => by
    rw [wtAll]
    rcases List.mem_cons.mp h with rfl | h
    · omega
    · have := wtAll_mem h
      omega
theorem str_shown (x : Str) (h : (x.cps.toList.all fun c => decide (c < 1000000)) = true) : (PyData.str x).shown.length ≤ 10 * x.length + 2 := by
  simp only [PyData.shown]
  exact PySem.StrLaws.reprText_len x fun c hc => Nat.lt_of_lt_of_le (of_decide_eq_true (List.all_eq_true.mp h c hc)) (by decide)
mutual
theorem nz_fit {g : Nat} (hg : g ≤ 10 ^ 30) : ∀ (d : PyData), nz g d = true → d.shown.length ≤ wt d ∧ d.showable = true
  | .none, _ => ⟨by decide +kernel, by decide +kernel⟩
  | .bool b, _ => by cases b <;> exact ⟨by decide +kernel, by decide +kernel⟩
  | .int i, h => by
    have := fit_int (i := i) (Nat.lt_of_le_of_lt (of_decide_eq_true (by simpa only [nz] using h)) (by omega))
    exact ⟨this.len, this.sh⟩
  | .str x, h => ⟨by rw [wt]; exact Nat.le_trans (str_shown x (by simpa only [nz] using h)) (by omega), by simp [PyData.showable]⟩
  | .list ds, h => by
    obtain ⟨h1, h2⟩ := nz_fitAll hg ds (by simp only [nz, Bool.and_eq_true] at h; exact h.2)
    refine ⟨?_, by simp only [PyData.showable]; exact h2⟩
    simp only [PyData.shown]
    refine Nat.le_trans (listText_len_le _) ?_
    rw [shownAll_map, List.length_map, wt]
    have := h1
    omega
  | .tuple ds, h => by
    obtain ⟨h1, h2⟩ := nz_fitAll hg ds (by simp only [nz, Bool.and_eq_true] at h; exact h.2)
    refine ⟨?_, by simp only [PyData.showable]; exact h2⟩
    simp only [PyData.shown]
    refine Nat.le_trans (tupleText_len_le _) ?_
    rw [shownAll_map, List.length_map, wt]
    have := h1
    omega
  | .dict ds, h => by
    cases ds with
    | nil => exact ⟨by decide +kernel, by decide +kernel⟩
    | cons a b => simp [nz] at h
theorem nz_fitAll {g : Nat} (hg : g ≤ 10 ^ 30) : ∀ (ds : List PyData), nzAll g ds = true → ((ds.map PyData.shown).map (·.length)).sum + 2 * ds.length ≤ wtAll ds ∧ PyData.showableAll ds = true
  | [], _ => ⟨by simp [wtAll], by simp [PyData.showableAll]⟩
  | d :: ds, h => by
    have h' : nz g d = true ∧ nzAll g ds = true := by simpa [nzAll] using h
    obtain ⟨a1, a2⟩ := nz_fit hg d h'.1
    obtain ⟨b1, b2⟩ := nz_fitAll hg ds h'.2
    refine ⟨?_, by simp [PyData.showableAll, a2, b2]⟩
    rw [List.map_cons, List.map_cons, List.sum_cons, List.length_cons, wtAll]
    omega
end
/-- a thing's weight, depth and numbers -/
structure Thg (g B k : Nat) (d : PyData) : Prop where
  n : nz g d = true
  w : wt d ≤ B
  k : d.depth ≤ k
theorem Thg.fit {g B k : Nat} {d : PyData} (h : Thg g B k d) (hg : g ≤ 10 ^ 30) : FitZ B k d := by
  obtain ⟨h1, h2⟩ := nz_fit hg d h.n
  exact ⟨Nat.le_trans h1 h.w, h2, h.k⟩
mutual
theorem nz_mono {g g' : Nat} (hg : g ≤ g') : ∀ (d : PyData), nz g d = true → nz g' d = true
  | .none, _ => by simp [nz]
  | .bool _, _ => by simp [nz]
  | .int i, h => by
    have : i.natAbs ≤ 10 ^ 29 + g := by simpa only [nz, decide_eq_true_eq] using h
    simp only [nz]
    exact decide_eq_true (by omega)
  | .str x, h => by simpa [nz] using h
  | .list ds, h => by
    simp only [nz, Bool.and_eq_true, decide_eq_true_eq] at h ⊢
    exact ⟨Nat.le_trans h.1 hg, nzAll_mono hg ds h.2⟩
  | .tuple ds, h => by
    simp only [nz, Bool.and_eq_true, decide_eq_true_eq] at h ⊢
    exact ⟨Nat.le_trans h.1 hg, nzAll_mono hg ds h.2⟩
  | .dict ds, h => by simpa [nz] using h
theorem nzAll_mono {g g' : Nat} (hg : g ≤ g') : ∀ (ds : List PyData), nzAll g ds = true → nzAll g' ds = true
  | [], _ => by simp [nzAll]
  | d :: ds, h => by
    have h' : nz g d = true ∧ nzAll g ds = true := by simpa [nzAll] using h
    simp only [nzAll, Bool.and_eq_true]
    exact ⟨nz_mono hg d h'.1, nzAll_mono hg ds h'.2⟩
end
theorem Thg.mono {g g' B B' k k' : Nat} {d : PyData} (h : Thg g B k d) (hg : g ≤ g') (hB : B ≤ B') (hk : k ≤ k') : Thg g' B' k' d := ⟨nz_mono hg d h.n, Nat.le_trans h.w hB, Nat.le_trans h.k hk⟩
theorem depth_all {k : Nat} : ∀ {ds : List PyData}, PyData.depthAll ds ≤ k ↔ ∀ d ∈ ds, d.depth ≤ k
  | [] => by simp [PyData.depthAll]
  | d :: ds => by
    simp only [PyData.depthAll, List.forall_mem_cons, ← depth_all (ds := ds)]
    omega
theorem Thg.tup {g B k : Nat} {ds : List PyData} (h : Thg g B k (.tuple ds)) : (∀ d ∈ ds, nz g d = true) ∧ wtAll ds + 50 ≤ B ∧ ∃ k', k = k' + 1 ∧ ∀ d ∈ ds, d.depth ≤ k' := by
  refine ⟨nzAll_iff.mp (by have := h.n; simp only [nz, Bool.and_eq_true] at this; exact this.2), by have := h.w; rw [wt] at this; exact this, ?_⟩
  have := h.k
  simp only [PyData.depth] at this
  cases k with
  | zero => omega
  | succ k => exact ⟨k, rfl, depth_all.mp (by omega)⟩
theorem kd_tup_inv {x : PyData} (h : kdOf x = .tup) : ∃ ds, x = .tuple ds := by cases x <;> first | exact ⟨_, rfl⟩ | cases h
def itemsD : PyData → List PyData
  | .tuple ds => ds
  | _ => []
theorem Thg.items {g B k : Nat} {d : PyData} (h : Thg g B k d) : 52 * (itemsD d).length ≤ B ∧ ∀ e ∈ itemsD d, Thg g B k e := by
  cases d with
  | tuple ds =>
    obtain ⟨h1, h2, k', rfl, h3⟩ := h.tup
    have := wtAll_len ds
    exact ⟨by show 52 * ds.length ≤ B; omega, fun e he => ⟨h1 e he, by have := wtAll_mem (show e ∈ ds from he); omega, Nat.le_succ_of_le (h3 e he)⟩⟩
  | _ => exact ⟨Nat.zero_le _, fun e he => (nomatch he)⟩
end OC
set_option Elab.async false
set_option linter.all false
set_option maxRecDepth 100000
set_option maxHeartbeats 2000000
/-! classes of errors of one's own, by name; a caught one asked after; a def that catches what a lambda raises -/
namespace OC
open PySem PySem.Spec PyProof.Rows L2
/-- where the class of this name stands -/
def adr (mg : Str → Option Value) (x : Str) : Addr := match mg x with | some (.ref a) => a | _ => 0
theorem adr_of {mg : Str → Option Value} {x : Str} {C : Addr} (h : mg x = some (.ref C)) : adr mg x = C := by
  unfold adr
  rw [h]
structure ErrC (K : PySem.W.Frag) (mg : Str → Option Value) (x : Str) : Prop where
  g : mg x = some (.ref (adr mg x))
  kp : PySem.W.keepIn K (.ref (adr mg x)) = true
  b : PySem.W.subIn K (.ref (adr mg x)) (.type "BaseException") = some true
  t : PySem.W.typeIn K (.ref (adr mg x)) = some (.type "type")
  d : PySem.W.hasDictIn K (adr mg x) = true
  c : ExcC K (adr mg x)
theorem err_of {K : PySem.W.Frag} {h : Heap} {mg : Str → Option Value} {x : Str} {C : Addr} (X : K.In h) (G : h.Ns mainGlobals mg) (a : PySem.W.nsIn K mainGlobals x = some (some (.ref C)))
    (kp : PySem.W.keepIn K (.ref C) = true) (b : PySem.W.subIn K (.ref C) (.type "BaseException") = some true) (t : PySem.W.typeIn K (.ref C) = some (.type "type")) (d : PySem.W.hasDictIn K C = true)
    (hg : PySem.W.findIn K (.ref C) "__getattribute__" = some (some (.builtin "BaseException.__getattribute__"))) (hk : PySem.W.findIn K (.ref C) "__getattr__" = some none) (ha : PySem.W.findIn K (.ref C) "__class__" = some (some (.builtin "object.__class__")))
    (hm : PySem.W.mroIn K C (.type "object") = some true) (hn : PySem.W.specialIn K (.builtin "object.__class__") "__get__" = some (some (.builtin "getset_descriptor.__get__"))) (ht : PySem.W.takesIn K (.builtin "object.__class__") = some true) : ErrC K mg x := by
  have g := PySem.W.mg_of X G a
  have e := adr_of g
  refine ⟨by rw [e]; exact g, ?_, ?_, ?_, ?_, ?_⟩ <;> rw [e]
  · exact kp
  · exact b
  · exact t
  · exact d
  · exact ⟨hg, hk, b, d, ha, hn, ht, hm⟩
section
variable {K : PySem.W.Frag} {mg : Str → Option Value} {x y : Str}
theorem ErrC.exm (E : ErrC K mg y) {b : Bool} (h : PySem.W.subIn K (.ref (adr mg x)) (.ref (adr mg y)) = some b) : PySem.W.exmOne K (.ref (adr mg x)) (.ref (adr mg y)) = some b :=
  PySem.W.exm_ref E.b E.d E.t h
theorem kit_cls1 {t : Value} (E : ErrC K mg y) {b : Bool} (h : PySem.W.subIn K t (.ref (adr mg y)) = some b) (hb : t = .ref (adr mg y) → b = true) : PySem.W.kitOne K t (.ref (adr mg y)) = some b := by
  obtain ⟨cd, hc, _⟩ := PySem.W.any_some E.d
  have e2 : ((PySem.W.clsIn K (adr mg y)).isSome && PySem.W.typeIn K (.ref (adr mg y)) == some (.type "type")) = true := by rw [hc, E.t] <;> rfl
  unfold PySem.W.kitOne
  by_cases ht : t = .ref (adr mg y)
  · rw [hb ht, ht, if_pos (beq_self_eq_true _)]
  · rw [if_neg (fun z => ht (eq_of_beq z))]
    show (if _ then PySem.W.subIn K t (.ref (adr mg y)) else none) = some b
    rw [if_pos e2]
    exact h
/-- of one class another, an own one -/
theorem kit_own (E : ErrC K mg y) {b : Bool} (h : PySem.W.subIn K (.ref (adr mg x)) (.ref (adr mg y)) = some b) (hb : adr mg x = adr mg y → b = true) : PySem.W.kitOne K (.ref (adr mg x)) (.ref (adr mg y)) = some b :=
  kit_cls1 E h fun z => hb (Value.ref.inj z)
/-- of one class a built-in one -/
theorem kit_blt {a : Addr} {T : String} {b : Bool} (hT : PySem.W.kitMeta T = true) (h : PySem.W.subIn K (.ref a) (.type T) = some b) : PySem.W.kitOne K (.ref a) (.type T) = some b := by
  unfold PySem.W.kitOne
  rw [if_neg (fun z => by cases eq_of_beq z)]
  show (if PySem.W.kitMeta T = true then PySem.W.subIn K (.ref a) (.type T) else none) = some b
  rw [if_pos hT]
  exact h
/-- apart where one is none of the other -/
theorem adr_ne {K : PySem.W.Frag} {a b : Addr} (h1 : PySem.W.subIn K (.ref a) (.ref b) = some false) (h2 : PySem.W.subIn K (.ref b) (.ref b) = some true) : a ≠ b := fun z => by
  rw [z, h2] at h1
  cases h1
end
/-- a reading under what it leans on -/
theorem pss_pre {X : Cx} {b : List Stmt} {p : Prop} {t : TS} (h : p → PSs X b t) : PSs X b (fun D σ H => p ∧ t D σ H) := ⟨fun pins s σ H D I ⟨hp, ht⟩ => (h hp).run pins s σ H D I ht⟩
end OC
set_option Elab.async false
set_option linter.all false
set_option maxRecDepth 100000
set_option maxHeartbeats 2000000
/-! errors of one's own whose __init__ keeps one thing as a field: made, raised, the field read of a caught one; whatever built-in they stand over -/
namespace OC
open PySem PySem.Spec PyProof.Rows L2
open PySem.W PySem.Calls PySem.HandSPX Builtin.ObjectAttr
/-- the class x, over the built-in with the chain bm: its __init__(self, fld) puts the one thing it's handed into the field fld -/
structure ErrF (K : PySem.W.Frag) (mg : Str → Option Value) (x fld : Str) (bm : List Value) (nw : String) : Prop where
  mkk : PySem.W.excInitIn K (adr mg x) bm nw = true
  ov : PySem.W.excOver K (adr mg x) bm = true
  sa : PySem.W.findIn K (.ref (adr mg x)) "__setattr__" = some (some (.builtin "object.__setattr__"))
  no : PySem.W.findIn K (.ref (adr mg x)) fld = some none
  fn : ∃ (fI : Addr) (oc : Value) (od : Option Addr) (q : Str) (ar : Arguments) (sc : Scope) (kV doc pm : Value) (an : Option Addr) (cdv ct : Value) (osl : Array (Option Value)) (q1 q2 q3 q4 : Pos),
    PySem.W.findIn K (.ref (adr mg x)) "__init__" = some (some (.ref fI)) ∧ PySem.W.typeIn K (.ref fI) = some (.type "function") ∧
    K.lookup fI = some ⟨oc, od, .func (PySem.W.fnOf "__init__" q ar [.Assign [.Attribute (.Name "self" q1) fld q2] (.Name fld q3) q4] sc .none kV doc pm an cdv ct), osl⟩ ∧ PySem.W.codeIn K cdv q = true ∧
    (∀ (s : Shared) (self v : Value), BindsTo s (PySem.W.fnOf "__init__" q ar [.Assign [.Attribute (.Name "self" q1) fld q2] (.Name fld q3) q4] sc .none kV doc pm an cdv ct) ⟨[self, v], []⟩ [("self", self), (fld, v)]) ∧
    sc = { kind := .function, names := [(PySem.Str.ofString "self", .local), (fld, .local)], isGenerator := false, isCoroutine := false } ∧ ((fld == ("self" : Str)) = false ∧ (fld == ("__debug__" : Str)) = false)
section
variable {prog : Program} {w : World} {A : Around} {R : Result → Shared → Prop} {K : PySem.W.Frag} {mg : Str → Option Value} {x fld : Str} {bm : List Value} {B nw ini : String} {s : Shared}
/-- the first store into an error without a dict, over any built-in -/
theorem osa_first {hp : Heap} {g : Array GenState} {dr : Drawn} {t : Nat} {os : OsState} {name : Str} {tk : Tok} {v : Value} {a C : Addr} {fv : Array Value} (SF : StoreFacts B bm "object.__setattr__" "object") (X : K.In hp)
    (ha : hp.get? a = some { cls := .ref C, data := .fields fv }) (ov : PySem.W.excOver K C bm = true) (hh : PySem.W.hasDictIn K C = true) (hn : PySem.W.findIn K (.ref C) name = some none)
    (hq : ∀ h' tk' dx, (∀ b o, b ≠ a → hp.get? b = some o → h'.get? b = some o) → hp.objs.size ≤ dx → dx ≠ a → h'.get? a = some { cls := .ref C, dict := some dx, data := .fields fv } → h'.Ns1 dx (fun y => if y = name then some v else none) → R (.ok (.ret .none)) ⟨h', g, dr, tk', os⟩) :
    codeAny (model prog w) A (.call (.builtin "object.__setattr__") ⟨[.ref a, .str name tk, v], []⟩) R ⟨hp, g, dr, t, os⟩ := by
  refine PySem.W.osa_openX (od := none) (r := none) (s := ⟨hp, g, dr, t, os⟩) SF X ⟨ha, rfl, rfl, trivial⟩ ov (by unfold PySem.W.takerIn; rw [hn]; rfl) fun b => ?_
  obtain ⟨cd, hc, hd⟩ := PySem.W.any_some hh
  have hne : hp.objs.size ≠ a := Nat.ne_of_gt (Heap.lt_size ha)
  have lc : PySem.W.Looks (model prog w) hp (classData C) cd := PySem.W.looks_clsIn X hc
  show wpAny _ _ (storeInOwnDict (.ref a) (.ref C) (.str name tk) name v b) _ _ _
  unfold storeInOwnDict ownDictForStores
  obtain ⟨nm, bs, mro, ns, qn, hd', sn, sb, ab, col, del⟩ := cd
  dsimp only at hd
  subst hd
  repeat (first | with_reducible refine store_in_new ?_ ?_ | with_reducible refine wpAny_loadPart_at ha ?_ | with_reducible refine lc.at ?_ | wp_step)
  · exact ⟨_, #[], _, (Heap.get?_update_ne _ _ _ _ hne).trans (Heap.get?_push_at rfl rfl), rfl, fun e he => absurd he (by simp), fun _ => rfl⟩
  · intro h' tk' hn' hs
    refine hq h' tk' hp.objs.size (fun b o hb ho => ?_) (Nat.le_refl _) hne ?_ hn'
    · exact (hs.2 b (Nat.ne_of_lt (Heap.lt_size ho))).trans ((Heap.get?_update_ne _ _ _ _ hb).trans (Heap.get?_push_of_some _ ho))
    · exact (hs.2 a (Ne.symm hne)).trans (Heap.get?_update_self _ (Heap.get?_push_of_some _ ha) rfl)
/-- a made error at e: its one field stands in its own new dict d -/
structure Mde (h h' : Heap) (e C d : Addr) (fld : Str) (v : Value) : Prop where
  old : ∀ b o, h.get? b = some o → h'.get? b = some o
  fresh : h.objs.size ≤ e
  freshd : h.objs.size ≤ d
  ne : d ≠ e
  ob : ∃ t, h'.get? e = some { cls := .ref C, dict := some d, data := .fields #[.ref t, .none, .none, .none, .bool false, .none] }
  fs : h'.Ns1 d (fun y => if y = fld then some v else none)
theorem made_fld (F : ErrF K mg x fld bm nw) (hd : PySem.W.hasDictIn K (adr mg x) = true) (FB : ExcBaseFacts B nw ini bm) (SF : StoreFacts B bm "object.__setattr__" "object") {v : Value} (X : K.In s.heap) (hlim : s.heap.NoLimit) (hroom : A.depth + 1 < recursionLimit)
    (hq : ∀ h' tk e d, Mde s.heap h' e (adr mg x) d fld v → R (.ok (.ret (.ref e))) { s with heap := h', toks := tk }) : codeAny (model prog w) A (.call (.ref (adr mg x)) ⟨[v], []⟩) R s := by
  obtain ⟨fI, oc, od, q, ar, sc, kV, doc, pm, an, cdv, ct, osl, q1, q2, q3, q4, hi, ht, lk, hcd, hb, rfl, n1, n2⟩ := F.fn
  obtain ⟨nm, N, qn, bs, bm', hdct, sn, sub, ab, col, dd, k0, k1, k2, k3, k5, hC, hT⟩ := PySem.W.excInit_of X F.mkk
  obtain ⟨hp, g, dr, tk, os⟩ := s
  refine call_own FB hT hC (looks_findIn X hi) (fun self => bind_fn X self ht) (by show 1 ≤ sizeLine; rw [sizeLine_eq]; omega) ?_
  have up : ∀ b o, hp.get? b = some o → ((hp.push (kdv_tup [v])).push (excO (adr mg x) hp.objs.size)).get? b = some o := fun b o e => Heap.get?_push_of_some _ (Heap.get?_push_of_some _ e)
  have there : ((hp.push (kdv_tup [v])).push (excO (adr mg x) hp.objs.size)).get? (hp.objs.size + 1) = some (excO (adr mg x) hp.objs.size) := by heap_get
  refine Att.call_fn (s := ⟨(hp.push (kdv_tup [v])).push (excO (adr mg x) hp.objs.size), g, dr, tk, os⟩) (binds := [("self", .ref (hp.objs.size + 1)), (fld, v)]) (X.keeps up) (hlim.keeps up) lk hcd (by show A.depth + 1 < recursionLimit; exact hroom) (hb _ _ _) ?_ (fun s1 IC => ?_) rfl rfl rfl
  · simp only [List.all_cons, List.all_nil, Bool.and_true, List.lookup]
    rw [n1]
    simp
  · obtain ⟨h1, tk1, rfl⟩ := IC.toInCall.same
    have k1 := IC.toInCall.keep
    have hn := IC.toInCall.ns
    have X1 : K.In h1 := (X.keeps up).keeps k1
    have there1 := k1 _ _ there
    have ne : ("self" : Str) ≠ fld := fun z => by rw [← z] at n1; exact absurd n1 (by decide)
    generalize hE : envOfC q _ _ fI cdv = env at hn ⊢
    have kS : env.kindOf "self" = some .local := by rw [← hE]; rfl
    have kF : env.kindOf fld = some .local := by
      rw [← hE]
      show List.lookup fld [((Str.ofString "self" : Str), NameKind.local), (fld, NameKind.local)] = some .local
      have n1' : (fld == Str.ofString "self") = false := n1
      simp [List.lookup, n1']
    have lF : bindL env.kindOf [((Str.ofString "self" : Str), Value.ref (hp.objs.size + 1)), (fld, v)] (fun _ => none) fld = some v := by
      show (if env.kindOf fld = some .local then (fun y => if y = fld then some v else _) else _) fld = some v
      rw [if_pos kF, if_pos rfl]
    have lS : bindL env.kindOf [((Str.ofString "self" : Str), Value.ref (hp.objs.size + 1)), (fld, v)] (fun _ => none) "self" = some (.ref (hp.objs.size + 1)) := by
      show (if env.kindOf fld = some .local then (fun y => if y = fld then some v else (if env.kindOf "self" = some .local then (fun y => if y = Str.ofString "self" then some (Value.ref (hp.objs.size + 1)) else none) else _) y) else _) "self" = _
      rw [if_pos kF, if_neg ne, if_pos kS, if_pos rfl]
    have kk : env.scope.kind = .function := by rw [← hE]; rfl
    have eL : ((hp.push (kdv_tup [v])).push (excO (adr mg x) hp.objs.size)).objs.size = env.locals := by rw [← hE]; rfl
    have hn2 : h1.Ns env.locals (bindL env.kindOf [((Str.ofString "self" : Str), Value.ref (hp.objs.size + 1)), (fld, v)] fun _ => none) := by rw [← eL]; exact hn
    refine wpAny_execs_cons (plainObj_wpAny_Assign_Attribute ?_)
    refine wpAny_Name (wpAny_loadName_local kk kF hn2 lF ?_) n2
    refine wpAny_Name (wpAny_loadName_local kk kS hn2 lS ?_) (by decide)
    refine set_plain X1 (ox := excO (adr mg x) hp.objs.size) (od := none) ⟨there1, rfl, rfl, trivial⟩ F.sa ?_
    refine osa_first SF X1 there1 F.ov hd F.no fun h3 tk3 dx k3 hdx ne3 hx3 ns3 => ?_
    refine wpAny_execs_nil ?_
    have z : hp.objs.size ≤ h1.objs.size := by
      have lt : ((hp.push (kdv_tup [v])).push (excO (adr mg x) hp.objs.size)).objs.size < h1.objs.size := hn.lt
      rw [Heap.size_push, Heap.size_push] at lt
      omega
    have hdx' : h1.objs.size ≤ dx := hdx
    exact ⟨rfl, hq h3 tk3 (hp.objs.size + 1) dx ⟨fun b o e => k3 b o (Nat.ne_of_lt (Nat.lt_succ_of_lt (Heap.lt_size e))) (k1 b o (up b o e)), Nat.le_succ _, by show hp.objs.size ≤ dx; omega, ne3, ⟨_, hx3⟩, ns3⟩⟩
end
end OC
namespace OC
open PySem PySem.Spec PyProof.Rows L2
theorem relO_fld {v : V} {v' : Value} (r : RelV v v') (fld f : Str) : RelO (List.lookup f [(fld, v)]) (if f = fld then some v' else none) := by
  by_cases h : f = fld
  · subst h
    rw [if_pos rfl, show List.lookup f [(f, v)] = some v by simp [List.lookup]]
    exact r
  · rw [if_neg h, show List.lookup f [(fld, v)] = none by simp [List.lookup, (beq_eq_false_iff_ne.mpr h)]]
    trivial
section
variable {X : Cx} {x fld : Str} {bm : List Value} {B nw ini : String}
/-- x(e): the error's class stands at C, its field in the new dict -/
def tMkF (C : Addr) (fld : Str) (ta : TA) : L2.St → Hp → XK → Prop := fun σ H Q => ta σ H fun vs H1 => ∃ v, vs = [v] ∧ ∀ d, H1 d = none → Q (.ref C) (some d) (upd H1 d (.xd [(fld, v)]))
theorem pmk_fld {a : Expr} {ta : TA} {p pos : Pos} {k : Nat} (F : ErrF X.K X.mg x fld bm nw) (E : ErrC X.K X.mg x) (FB : ExcBaseFacts B nw ini bm) (SF : StoreFacts B bm "object.__setattr__" "object") (hr : Room (k + 1) X.A) (ha : PA X [a] ta) (hg : Gl X x := by rfl) (hdb : (x == ("__debug__" : Str)) = false := by decide)
    (he : starEach (a :: []) X.env = (false, eval a X.env) :: starEach [] X.env := by rfl) (hpl : (backTo pos (starEach [] X.env)).any (·.1) = false := by rfl) : PMk X (.Call (.Name x p) [a] [] pos) (tMkF (adr X.mg x) fld ta) := by
  intro pins s σ H Q I h
  refine wpAny_Call_Name_kw (ld_glob I hg E.g ?_ hdb)
  refine PySem.W.callWith_K (h₀ := X.base) I.ok.mod.kin E.kp (thn (ha.run pos pins s σ H _ I h) fun us s1 hh => ?_) he hpl
  obtain ⟨vs, H1, I1, r1, v, rfl, q1⟩ := hh
  refine ⟨I1.kIn, ?_⟩
  obtain ⟨v', rfl, rv⟩ : ∃ v', us = [v'] ∧ RelV v v' := by
    cases r1 with
    | cons rv rn => cases rn; exact ⟨_, rfl, rv⟩
  have hlim := I1.nolimit
  obtain ⟨hp, g, dr, tk, os⟩ := s1
  refine wpAny_call (made_fld F E.d FB SF I1.kIn hlim (by have := hr.dp; omega) fun h' tk' e d M => ?_)
  obtain ⟨t, hoe⟩ := M.ob
  obtain ⟨G', g1, g2⟩ := restrict h' fun b => decide (b ≠ e)
  have gn : G'.get? e = none := g2 e (by simp)
  have gk : ∀ b, b ≠ e → G'.get? b = h'.get? b := fun b hb => g1 b (decide_eq_true hb)
  have ob : ObjOk X.prog X.w (upd H1 d (.xd [(fld, v)])) G' d (.xd [(fld, v)]) := ⟨_, M.fs.at (fun o q => (gk d M.ne).trans q), fun f => relO_fld rv fld f⟩
  have J : Inv X pins σ (upd H1 d (.xd [(fld, v)])) ⟨G', g, dr, tk', os⟩ := I1.laid (t' := tk') (fun b o q => (gk b (Nat.ne_of_lt (Nat.lt_of_lt_of_le (Heap.lt_size q) M.fresh))).trans (M.old b o q)) M.freshd ob
  refine ⟨e, _, _, ⟨G', g, dr, tk', os⟩, _, .ref (adr X.mg x), some d, rfl, J, fun b o q => ?_, gn, hoe, ⟨rfl, rfl⟩, rfl, rfl, ?_, rfl, I1.bare, raises_own E.b E.t, q1 d (I1.hok.fresh M.freshd)⟩
  · by_cases hb : b = e
    · have q' : G'.get? b = some o := q
      rw [hb, gn] at q'
      cases q'
    · exact (gk b hb).symm.trans q
  · rw [upd_ne (Ne.symm M.ne)]
    exact I1.hok.fresh M.fresh
/-- raise x(e) -/
theorem ps_raiseF {a : Expr} {ta : TA} {W : WX} {p pos pos2 : Pos} {k : Nat} (F : ErrF X.K X.mg x fld bm nw) (E : ErrC X.K X.mg x) (FB : ExcBaseFacts B nw ini bm) (SF : StoreFacts B bm "object.__setattr__" "object") (hc : X.calm = true) (hr : Room (k + 1) X.A) (tk : Takes X W) (ha : PA X [a] ta) (hg : Gl X x := by rfl) (hdb : (x == ("__debug__" : Str)) = false := by decide)
    (he : starEach (a :: []) X.env = (false, eval a X.env) :: starEach [] X.env := by rfl) (hpl : (backTo pos (starEach [] X.env)).any (·.1) = false := by rfl) :
    PS X (.Raise (some (.Call (.Name x p) [a] [] pos)) none pos2) (fun _ σ H => tMkF (adr X.mg x) fld ta σ H fun cls d H' => W cls d σ H') := ps_raise hc tk (pmk_fld F E FB SF hr ha hg hdb he hpl)
/-- the field of a caught error -/
def tFldE (a C : Addr) (fld : Str) (cls : Value) (d : Option Addr) (te : TE) : TE := fun σ H Q => te σ H fun y H1 => y = .ref a ∧ cls = .ref C ∧ ∃ (dd : Addr) (v : V), d = some dd ∧ H1 dd = some (.xd [(fld, v)]) ∧ Q v H1
theorem pe_fldE {a : Addr} {oe : Obj} {cls : Value} {d : Option Addr} {pn : List (Addr × Obj)} {e : Expr} {te : TE} {pos : Pos} (F : ErrF X.K X.mg x fld bm nw) (E : ErrC X.K X.mg x) (hz : Zc cls d oe) (hf : ∃ vs, oe.data = .fields vs) (he : PE (X.suite a ((a, oe) :: pn)) e te)
    (hb : attributeBase e fld X.env (eval e X.env) = eval e X.env := by rfl) : PE (X.suite a ((a, oe) :: pn)) (.Attribute e fld pos) (tFldE a (adr X.mg x) fld cls d te) := by
  refine ⟨fun pins s σ H Q I h => ?_⟩
  refine attr_of hb (thn (he.run pins s σ H _ I h) fun u s1 hh => ?_)
  obtain ⟨y, H1, I1, ry, rfl, rfl, dd, v, rfl, ea, q⟩ := hh
  obtain rfl : u = Value.ref a := ry
  obtain ⟨ha, _⟩ := I1.pin (a, oe) (List.mem_append_left _ List.mem_cons_self)
  obtain ⟨vs, hd⟩ := hf
  obtain ⟨mA, hns, hr⟩ : ObjOk X.prog X.w H1 s1.heap dd (.xd [(fld, v)]) := I1.hok dd _ ea
  obtain ⟨od, ho, hl⟩ := lookIn_ns hns
  have l : List.lookup fld [(fld, v)] = some v := by simp [List.lookup]
  obtain ⟨u, hu, ru⟩ := RelO.some_of (v := v) (o := mA fld) (by rw [← l]; exact hr fld)
  have J : PySem.W.InstAt s1.heap a oe (adr X.mg x) (some od) := ⟨ha, hz.1, by unfold PySem.W.notCls; rw [hd] <;> rfl, by rw [hz.2]; exact ho⟩
  exact HandSPX.exc_get I1.kIn J E.c.hg E.c.hk E.b (PySem.W.findObj_own E.d F.no rfl (by rw [hl, hu])) (handed_of ru) ⟨v, H1, I1.tok _, ru, q⟩
end
section
variable {X : Cx} {a d D : Addr} {oe : Obj} {pn : List (Addr × Obj)}
theorem inst_fld {pins : List (Addr × Obj)} {σ : L2.St} {H : Hp} {s : Shared} {fs : List (Str × V)} (I : L2.Inv (X.suite a ((a, oe) :: pn)) pins σ H s) (hz : Zc (.ref D) (some d) oe) (hf : ∃ vs, oe.data = .fields vs) (hd : H d = some (.xd fs)) : ∃ od, PySem.W.InstAt s.heap a oe D (some od) := by
  obtain ⟨ha, _⟩ := I.pin (a, oe) (List.mem_append_left _ List.mem_cons_self)
  obtain ⟨vs, hv⟩ := hf
  obtain ⟨mA, hns, _⟩ : ObjOk X.prog X.w H s.heap d (.xd fs) := I.hok d _ hd
  obtain ⟨od, ho, _⟩ := lookIn_ns hns
  exact ⟨od, ha, hz.1, by unfold PySem.W.notCls; rw [hv] <;> rfl, by rw [hz.2]; exact ho⟩
theorem ExcC.kit {K : PySem.W.Frag} {x : Addr} {ox : Obj} {od : Option Obj} (C : ExcC K D) : PySem.W.KitX K (.ref x) (.ref D) (fun h => PySem.W.InstAt h x ox D od) :=
  PySem.W.kitx_exc (by obtain ⟨cd, hc, _⟩ := PySem.W.any_some C.hd; rw [hc]; rfl) C.hg C.hk C.hs C.ha C.hn C.ht C.hm
/-- isinstance(e, c), e a caught error with a field -/
def rIsF (K : PySem.W.Frag) (D a d : Addr) : List V → Hp → VK → Prop := fun xs H Q => ∃ (c : V) (cv : Value) (b : Bool) (fs : List (Str × V)), xs = [.ref a, c] ∧ (∀ u, RelV c u → u = cv) ∧ PySem.W.kitOne K (.ref D) cv = some b ∧ H d = some (.xd fs) ∧ Q (.bl b) H
theorem call_isF (C : ExcC X.K D) (hz : Zc (.ref D) (some d) oe) (hf : ∃ vs, oe.data = .fields vs) : CallR (X.suite a ((a, oe) :: pn)) (.builtin "isinstance") (rIsF X.K D a d) := by
  intro pins s σ H xs us Q I r h
  obtain ⟨c, cv, b, fs, rfl, hcv, e, hd, q⟩ := h
  obtain ⟨u1, u2, rfl, r1, r2⟩ := vals2 r
  cases (show u1 = Value.ref a from r1)
  cases hcv _ r2
  obtain ⟨od, J⟩ := inst_fld I hz hf hd
  exact PySem.W.kia_one (ExcC.kit C) I.kIn J e (fun z => nomatch z) fun tk => ⟨.bl b, H, I.kept (t' := tk) fun _ _ z => z, rfl, q⟩
/-- isinstance(e, (c1, c2, ..)) -/
def rIsFT (K : PySem.W.Frag) (D a d : Addr) : List V → Hp → VK → Prop := fun xs H Q => ∃ (tp : Addr) (cs : List V) (us : List Value) (b : Bool) (fs : List (Str × V)), xs = [.ref a, .ref tp] ∧ H tp = some (.tup cs) ∧ Paired ClsV cs us ∧ PySem.W.kitAny K (.ref D) us = some b ∧ H d = some (.xd fs) ∧ Q (.bl b) H
theorem call_isFT (C : ExcC X.K D) (hz : Zc (.ref D) (some d) oe) (hf : ∃ vs, oe.data = .fields vs) : CallR (X.suite a ((a, oe) :: pn)) (.builtin "isinstance") (rIsFT X.K D a d) := by
  intro pins s σ H xs us Q I r h
  obtain ⟨tp, cs, ws, b, fs, rfl, hT, k, e, hd, q⟩ := h
  obtain ⟨u1, u2, rfl, r1, r2⟩ := vals2 r
  cases (show u2 = Value.ref tp from r2)
  cases (show u1 = Value.ref a from r1)
  obtain ⟨od, J⟩ := inst_fld I hz hf hd
  obtain ⟨_, its, rv, o, h1, h2, n, h3⟩ := (show ObjOk X.prog X.w H s.heap tp (.tup cs) from I.hok tp _ hT)
  cases ClsV.all k rv
  obtain ⟨oc, od', dt, sl⟩ := o
  simp only at h2 h3
  subst h2 h3
  exact PySem.W.kia_tup (ExcC.kit C) I.kIn J h1 e (fun z => nomatch z) fun tk => ⟨.bl b, H, I.kept (t' := tk) fun _ _ z => z, rfl, q⟩
end
/-- what the top's own lines tell of such a class -/
theorem errF_of {K : PySem.W.Frag} {h : Heap} {mg : Str → Option Value} {x fld : Str} {C fI : Addr} {bm : List Value} {nw : String} {st : Stmt} {oc kV doc pm cdv ct : Value} {od an : Option Addr} {osl : Array (Option Value)} {q : Str} {q1 q2 q3 q4 : Pos} (X : K.In h) (G : h.Ns mainGlobals mg)
    (a : PySem.W.nsIn K mainGlobals x = some (some (.ref C))) (i : PySem.W.findIn K (.ref C) "__init__" = some (some (.ref fI))) (t : PySem.W.typeIn K (.ref fI) = some (.type "function"))
    (lk : K.lookup fI = some ⟨oc, od, .func (PySem.W.fnOf "__init__" q (defArgs st) (defBody st) (defScope st) .none kV doc pm an cdv ct), osl⟩) (hc : PySem.W.codeIn K cdv q = true)
    (mk : PySem.W.excInitIn K C bm nw = true) (ov : PySem.W.excOver K C bm = true) (sa : PySem.W.findIn K (.ref C) "__setattr__" = some (some (.builtin "object.__setattr__"))) (no : PySem.W.findIn K (.ref C) fld = some none)
    (hB : defBody st = [.Assign [.Attribute (.Name "self" q1) fld q2] (.Name fld q3) q4]) (hS : defScope st = { kind := .function, names := [(PySem.Str.ofString "self", .local), (fld, .local)], isGenerator := false, isCoroutine := false })
    (hb : ∀ (B : List Stmt) (S : Scope) (s : Shared) (self v : Value), BindsTo s (PySem.W.fnOf "__init__" q (defArgs st) B S .none kV doc pm an cdv ct) ⟨[self, v], []⟩ [("self", self), (fld, v)]) (hn : (fld == ("self" : Str)) = false ∧ (fld == ("__debug__" : Str)) = false) : ErrF K mg x fld bm nw := by
  have e := adr_of (PySem.W.mg_of X G a)
  rw [hB, hS] at lk
  exact ⟨by rw [e]; exact mk, by rw [e]; exact ov, by rw [e]; exact sa, by rw [e]; exact no, fI, oc, od, q, _, _, kV, doc, pm, an, cdv, ct, osl, q1, q2, q3, q4, by rw [e]; exact i, t, lk, hc, fun s self v => hb _ _ s self v, rfl, hn⟩
end OC
set_option Elab.async false
set_option linter.all false
set_option maxRecDepth 100000
set_option maxHeartbeats 4000000
/-! try with several clauses, each of which names what it catches -/
namespace OC
open PySem PySem.Spec PyProof.Rows L2
/-- a clause: the class that it names, its name's slot, its suite's reading -/
structure Cls1 where
  c : Value
  i : Nat
  ts : Addr → Value → Option Addr → TS
/-- behind a suite its name is gone -/
def endsN (i : Nat) (D : Ends) : Ends := { nx := fun σ H => D.nx (σ.set i none) H, rt := D.rt, bk := fun σ H => D.bk (σ.set i none) H, ct := fun σ H => D.ct (σ.set i none) H }
/-- what the clauses wish of an error: the first whose class it is has it -/
def wCls (K : PySem.W.Frag) (Wout : WX) (D : Ends) : List Cls1 → WX
  | [] => Wout
  | k :: r => fun cls d σ H => ∃ b, PySem.W.exmOne K cls k.c = some b ∧ (b = true → ∀ a, H a = none → k.ts a cls d (endsN k.i D) (σ.set k.i (some (.ref a))) H) ∧ (b = false → wCls K Wout D r cls d σ H)
inductive ClsOk (X : Cx) : List ExceptHandler → List Cls1 → Prop
  | nil : ClsOk X [] []
  | cons {x n : Str} {k : Cls1} {s0 : Stmt} {ss : List Stmt} {p p' : Pos} {hs : List ExceptHandler} {l : List Cls1} (hi : X.N[k.i]? = some n) (hl : X.env.kindOf n = some .local) (hc : Names X x k.c)
      (su : ∀ (a : Addr) (oe : Obj) (cls : Value) (d : Option Addr) (pn : List (Addr × Obj)), Zc cls d oe → (∃ vs, oe.data = .fields vs) → PSs (X.suite a ((a, oe) :: pn)) (s0 :: ss) (k.ts a cls d)) (r : ClsOk X hs l) :
      ClsOk X (.ExceptHandler (some (.Name x p)) (some n) (s0 :: ss) p' :: hs) (k :: l)
section
variable {X : Cx} {body : List Stmt} {h0 : ExceptHandler} {hs : List ExceptHandler} {l : List Cls1} {pos : Pos} {tb : WX → TS} {Wout : WX}
theorem ps_try_cls (hst : X.stack = X.env :: X.outer) (hf : X.env.frame = some X.env.locals) (hN : X.N.Nodup) (tk : Takes X Wout)
    (hb : ∀ (W : WX) (pn : List (Addr × Obj)) (xe : Value → Shared → Prop), Takes (X.tr pn xe) W → PassesOwn (model X.prog X.w) X.A X.env xe → PSs (X.tr pn xe) body (tb W)) (hh : ClsOk X (h0 :: hs) l) :
    PS X (.Try body (h0 :: hs) [] [] pos) (fun D σ H => tb (wCls X.K Wout D l) D σ H) := by
  refine ⟨fun pins s σ H D I h => wpAny_Try_except ?_⟩
  have ok := I.ok
  have fr : X.A.frames = some (X.env :: X.outer) := by rw [ok.frames, hst]
  -- the body; what it raises is caught
  refine wpAny_mono ((hb (wCls X.K Wout D l) (X.pn ++ pins) (fun e s1 => wpAny (model X.prog X.w) X.A (noteFrame e X.env) (fun _ s2 => wpAny (model X.prog X.w) X.A (setFlight e none) (fun _ s3 =>
    wpAny (model X.prog X.w) X.A (handleBy e X.env (h0 :: hs)) (SP X pins D) X.xe s3) X.xe s2) X.xe s1) (fun u s' caught => ?_) PassesOwn.looking).run [] s σ H D (I.toTry _) h) (fun f s1 left => ?_) (fun _ _ he => he)
  rotate_left
  · rcases f with (_ | _ | _ | u)
    · obtain ⟨σ', H', J', q⟩ := left
      exact wpAny_execs_nil ⟨σ', H', J'.ofTry ok, q⟩
    all_goals first
      | (obtain ⟨v, σ', H', J', r, q⟩ := left; exact ⟨v, σ', H', J'.ofTry ok, r, q⟩)
      | (obtain ⟨σ', H', J', q⟩ := left; exact ⟨σ', H', J'.ofTry ok, q⟩)
  obtain ⟨a, B, sI, pins', σ', H', cls, d, rfl, J', nb, up, sky, na, os, ag, w⟩ := caught
  have J : L2.Inv X pins σ' H' sI := J'.ofTry ok
  rw [hst] at sky
  show wpAny (model X.prog X.w) X.A (noteFrame (.ref a) X.env) _ _ _
  refine Sky.land Zc.steady fr hf sky fun h3 fl up3 => ?_
  obtain ⟨oe, vs, he, hz, hd⟩ := fl.there
  have away : a ∉ frs (X.env :: X.outer) := fun hm => by
    obtain ⟨_, o, e, hnf⟩ := fl.2.2.1.mem hm
    rw [he] at e
    cases e
    exact hnf _ hd
  have nL : a ≠ X.env.locals := fun z => away (List.mem_filterMap.mpr ⟨X.env, List.mem_cons_self, by rw [hf, z]⟩)
  have nF : a ∉ X.fs := fun hm => by
    obtain ⟨e, he, q⟩ := List.mem_filterMap.mp hm
    exact away (List.mem_filterMap.mpr ⟨e, List.mem_cons_of_mem _ he, q⟩)
  have J3 : L2.Inv X pins σ' H' { s' with heap := h3 } := J.landed nb fl.1 (up.trans up3) os ag
  have S3 := J3.suite he hd na nL nF
  -- clause by clause
  suffices run : ∀ {hs : List ExceptHandler} {l : List Cls1}, ClsOk X hs l → wCls X.K Wout D l cls d σ' H' → wpAny (model X.prog X.w) X.A (handleBy (.ref a) X.env hs) (SP X pins D) X.xe { s' with heap := h3 } from run hh w
  intro hs l hk
  induction hk with
  | nil =>
    intro w
    refine wpAny_handleBy_nil ?_
    obtain ⟨_, _, _, oe2, vs2, T, oT, ts', he2, hz2, hd2, h12, hr2⟩ := id fl
    unfold PySem.passOn
    refine wpAny_bind (wpAny_field he2 hd2 h12 ?_)
    rw [if_neg (show ¬ ((Value.ref T == Value.none) = true) from by simp)]
    have out : wpAny (model X.prog X.w) X.A (setFlight (.ref a) X.env.frame) (fun _ s4 => wpAny (model X.prog X.w) X.A (throw (.ref a) : Sem Flow) (SP X pins D) X.xe s4) X.xe { s' with heap := h3 } := by
      rw [hf]
      exact HandSPX.setFlight_upZ fl fun h4 hh4 up4 => wpAny_throw (tk _ _ ⟨a, B, sI, pins, σ', H', cls, d, rfl, J, nb, (up.trans up3).trans up4, .inr (.inr (by rw [hst]; exact hh4)), na, os, ag, w⟩)
    first
      | exact wpAny_bind (wpAny_pure (wpAny_bind out))
      | exact wpAny_bind out
  | @cons x n k s0 ss p p' hs l hi hl hc su r ih =>
    intro w
    obtain ⟨b, e1, yes, no⟩ := w
    refine wpAny_handleBy_cons (codeAny_handlers_test ?_) (by intro q; cases q)
    have LT : PySem.W.Looks (model X.prog X.w) h3 (typeOf (.ref a)) cls := fun A Q E s k q => wpAny_typeOf_ref (k _ _ he) (by rw [hz.1]; exact q)
    have LM := PySem.W.exm_one (M := model X.prog X.w) J3.kIn LT e1
    have named : ∀ {Q E : Value → Shared → Prop}, Q k.c { s' with heap := h3 } → wpAny (model X.prog X.w) (X.A.mark (some (.ref a))) (eval (.Name x p) X.env) Q E { s' with heap := h3 } := fun {Q E} q => by
      obtain ⟨hg, hdb, hm | ⟨hm, hv, hnn⟩⟩ := hc
      · exact ld_glob (X := X.suite a ((a, oe) :: (X.pn ++ pins))) S3 hg hm q hdb
      · exact ld_blt (X := X.suite a ((a, oe) :: (X.pn ++ pins))) S3 hg hm hv q hnn hdb
    refine named (LM.here ?_)
    cases b with
    | false =>
      show wpAny _ X.A (handleBy (.ref a) X.env hs) _ _ _
      exact ih (no rfl)
    | true =>
      refine codeAny_handlers_suite_as (HandSPX.lands_againZ fl fun h4 fl4 up4 => ?_)
      obtain ⟨oe4, vs4, he4, hz4, hd4⟩ := fl4.there
      have S4 := (J.landed nb fl4.1 ((up.trans up3).trans up4) os ag : L2.Inv X pins σ' H' { s' with heap := h4 }).suite he4 hd4 na nL nF
      refine store_ok (X := X.suite a ((a, oe4) :: (X.pn ++ pins))) (v := .ref a) S4 hN hi (.inl hl) rfl (fun s5 S5 => ?_) (.inr hl)
      refine wpAny_mono ((su a oe4 cls d (X.pn ++ pins) hz4 ⟨_, hd4⟩).run [] s5 _ H' _ S5 (yes rfl a na)) (fun f s6 left => ?_) (fun _ _ z => z.elim)
      have gone : ∀ {σ6 : L2.St} {H6 : Hp} {Q : Shared → Prop}, L2.Inv (X.suite a ((a, oe4) :: (X.pn ++ pins))) [] σ6 H6 s6 → (∀ s7, L2.Inv X pins (σ6.set k.i none) H6 s7 → Q s7) →
          wpAny (model X.prog X.w) X.A (do bindName X.env n .none; unbindBehindTheSuite X.env n p') (fun _ s7 => Q s7) X.xe s6 := fun {σ6 H6 Q} S6 hq => gone_ok (S6.unsuite ok) hN hi hl hq
      rcases f with (_ | _ | _ | u)
      all_goals first
        | (obtain ⟨v6, σ6, H6, S6, r6, q6⟩ := left; exact gone S6 fun s7 J7 => ⟨_, _, _, J7, r6, q6⟩)
        | (obtain ⟨σ6, H6, S6, q6⟩ := left; exact gone S6 fun s7 J7 => ⟨_, _, J7, q6⟩)
end
end OC
set_option Elab.async false
set_option linter.all false
set_option maxRecDepth 100000
set_option maxHeartbeats 4000000
namespace OC
open PySem PySem.Spec PyProof.Rows L2
def topS (i : Nat) : Stmt := PySem.Challenge.pw_opencalls_k66_asides_refused.main.body.getD i (.Pass ⟨0, 0, 0, 0⟩)
abbrev s_NoHand___init__ : Stmt := inClass (topS 5) 0
abbrev s_Known___init__ : Stmt := inClass (topS 4) 0
abbrev s_is_number : Stmt := topS 7
abbrev N_is_number : List Str := ["thing"]
theorem sc_is_number : FnScope N_is_number ["thing"] (defScope s_is_number) := ⟨rfl, rfl, rfl, by decide +kernel, rfl, by decide +kernel, by decide +kernel⟩
abbrev s_is_rest : Stmt := topS 8
abbrev N_is_rest : List Str := ["p", "thing"]
theorem sc_is_rest : FnScope N_is_rest ["p", "thing"] (defScope s_is_rest) := ⟨rfl, rfl, rfl, by decide +kernel, rfl, by decide +kernel, by decide +kernel⟩
abbrev s_contrary : Stmt := topS 9
abbrev N_contrary : List Str := ["p", "a", "b"]
theorem sc_contrary : FnScope N_contrary ["p", "a"] (defScope s_contrary) := ⟨rfl, rfl, rfl, by decide +kernel, rfl, by decide +kernel, by decide +kernel⟩
abbrev s_is_row : Stmt := topS 11
abbrev N_is_row : List Str := ["p", "n", "thing", "part"]
theorem sc_is_row : FnScope N_is_row ["p", "n", "thing"] (defScope s_is_row) := ⟨rfl, rfl, rfl, by decide +kernel, rfl, by decide +kernel, by decide +kernel⟩
abbrev s_added : Stmt := topS 12
abbrev N_added : List Str := ["p", "one", "other", "a", "b"]
theorem sc_added : FnScope N_added ["p", "one", "other"] (defScope s_added) := ⟨rfl, rfl, rfl, by decide +kernel, rfl, by decide +kernel, by decide +kernel⟩
abbrev s_times : Stmt := topS 13
abbrev N_times : List Str := ["p", "a", "row", "rest"]
theorem sc_times : FnScope N_times ["p", "a", "row"] (defScope s_times) := ⟨rfl, rfl, rfl, by decide +kernel, rfl, by decide +kernel, by decide +kernel⟩
abbrev s_check_hand : Stmt := topS 15
abbrev N_check_hand : List Str := ["there", "hand"]
theorem sc_check_hand : FnScope N_check_hand ["there", "hand"] (defScope s_check_hand) := ⟨rfl, rfl, rfl, by decide +kernel, rfl, by decide +kernel, by decide +kernel⟩
abbrev s_check_row : Stmt := topS 16
abbrev N_check_row : List Str := ["p", "n", "row"]
theorem sc_check_row : FnScope N_check_row ["p", "n", "row"] (defScope s_check_row) := ⟨rfl, rfl, rfl, by decide +kernel, rfl, by decide +kernel, by decide +kernel⟩
abbrev s_is_noughts : Stmt := topS 18
abbrev N_is_noughts : List Str := ["row", "rest"]
theorem sc_is_noughts : FnScope N_is_noughts ["row"] (defScope s_is_noughts) := ⟨rfl, rfl, rfl, by decide +kernel, rfl, by decide +kernel, by decide +kernel⟩
abbrev s_first_place : Stmt := topS 19
abbrev N_first_place : List Str := ["row", "at", "rest"]
theorem sc_first_place : FnScope N_first_place ["row"] (defScope s_first_place) := ⟨rfl, rfl, rfl, by decide +kernel, rfl, by decide +kernel, by decide +kernel⟩
abbrev s_cleared : Stmt := topS 20
abbrev N_cleared : List Str := ["p", "plain", "row", "factor"]
theorem sc_cleared : FnScope N_cleared ["p", "plain", "row"] (defScope s_cleared) := ⟨rfl, rfl, rfl, by decide +kernel, rfl, by decide +kernel, by decide +kernel⟩
abbrev s_left_of : Stmt := topS 21
abbrev N_left_of : List Str := ["p", "room", "row", "plain"]
theorem sc_left_of : FnScope N_left_of ["p", "room", "row"] (defScope s_left_of) := ⟨rfl, rfl, rfl, by decide +kernel, rfl, by decide +kernel, by decide +kernel⟩
abbrev s_widened : Stmt := topS 22
abbrev N_widened : List Str := ["p", "room", "row", "rest", "at", "fresh", "plain"]
theorem sc_widened : FnScope N_widened ["p", "room", "row"] (defScope s_widened) := ⟨rfl, rfl, rfl, by decide +kernel, rfl, by decide +kernel, by decide +kernel⟩
abbrev s_room_of : Stmt := topS 23
abbrev N_room_of : List Str := ["p", "n", "rows", "room", "row"]
theorem sc_room_of : FnScope N_room_of ["p", "n", "rows"] (defScope s_room_of) := ⟨rfl, rfl, rfl, by decide +kernel, rfl, by decide +kernel, by decide +kernel⟩
abbrev s_within : Stmt := topS 24
abbrev N_within : List Str := ["p", "room", "row"]
theorem sc_within : FnScope N_within ["p", "room", "row"] (defScope s_within) := ⟨rfl, rfl, rfl, by decide +kernel, rfl, by decide +kernel, by decide +kernel⟩
abbrev s_first_outside : Stmt := topS 25
abbrev N_first_outside : List Str := ["p", "room", "rows", "row"]
theorem sc_first_outside : FnScope N_first_outside ["p", "room", "rows"] (defScope s_first_outside) := ⟨rfl, rfl, rfl, by decide +kernel, rfl, by decide +kernel, by decide +kernel⟩
abbrev s_inside : Stmt := topS 26
abbrev N_inside : List Str := ["p", "one", "other", "row"]
theorem sc_inside : FnScope N_inside ["p", "one", "other"] (defScope s_inside) := ⟨rfl, rfl, rfl, by decide +kernel, rfl, by decide +kernel, by decide +kernel⟩
abbrev s_joined : Stmt := topS 27
abbrev N_joined : List Str := ["p", "n", "one", "other"]
theorem sc_joined : FnScope N_joined ["p", "n", "one", "other"] (defScope s_joined) := ⟨rfl, rfl, rfl, by decide +kernel, rfl, by decide +kernel, by decide +kernel⟩
abbrev s_shared : Stmt := topS 28
abbrev N_shared : List Str := ["p", "n", "one", "other"]
theorem sc_shared : FnScope N_shared ["p", "n", "one", "other"] (defScope s_shared) := ⟨rfl, rfl, rfl, by decide +kernel, rfl, by decide +kernel, by decide +kernel⟩
abbrev s_across : Stmt := topS 29
abbrev N_across : List Str := ["p", "n", "room", "plain", "firsts", "at"]
theorem sc_across : FnScope N_across ["p", "n", "room"] (defScope s_across) := ⟨rfl, rfl, rfl, by decide +kernel, rfl, by decide +kernel, by decide +kernel⟩
abbrev s_across_at : Stmt := topS 30
abbrev N_across_at : List Str := ["p", "n", "room", "at", "rests", "plain"]
theorem sc_across_at : FnScope N_across_at ["p", "n", "room", "at"] (defScope s_across_at) := ⟨rfl, rfl, rfl, by decide +kernel, rfl, by decide +kernel, by decide +kernel⟩
abbrev s_names_of : Stmt := topS 32
abbrev N_names_of : List Str := ["stand", "name", "room"]
theorem sc_names_of : FnScope N_names_of ["stand"] (defScope s_names_of) := ⟨rfl, rfl, rfl, by decide +kernel, rfl, by decide +kernel, by decide +kernel⟩
abbrev s_room_in : Stmt := topS 33
abbrev N_room_in : List Str := ["stand", "names", "p", "n", "known", "hands", "rows", "name", "room"]
theorem sc_room_in : FnScope N_room_in ["stand", "names"] (defScope s_room_in) := ⟨rfl, rfl, rfl, by decide +kernel, rfl, by decide +kernel, by decide +kernel⟩
abbrev s_aside : Stmt := topS 35
abbrev N_aside : List Str := ["stand", "caller", "learner", "other", "row", "p", "n", "name", "rooms", "call"]
theorem sc_aside : FnScope N_aside ["stand", "caller", "learner", "other", "row"] (defScope s_aside) := ⟨rfl, rfl, rfl, by decide +kernel, rfl, by decide +kernel, by decide +kernel⟩
abbrev s_rooms_of_three : Stmt := topS 36
abbrev N_rooms_of_three : List Str := ["stand", "caller", "learner", "other", "name"]
theorem sc_rooms_of_three : FnScope N_rooms_of_three ["stand", "caller", "learner", "other"] (defScope s_rooms_of_three) := ⟨rfl, rfl, rfl, by decide +kernel, rfl, by decide +kernel, by decide +kernel⟩
abbrev s_way_of : Stmt := topS 37
abbrev N_way_of : List Str := ["p", "n", "rooms", "row", "caller", "learner", "other"]
theorem sc_way_of : FnScope N_way_of ["p", "n", "rooms", "row"] (defScope s_way_of) := ⟨rfl, rfl, rfl, by decide +kernel, rfl, by decide +kernel, by decide +kernel⟩
abbrev s_is_aside : Stmt := topS 38
abbrev N_is_aside : List Str := ["p", "rooms", "row", "call", "caller", "learner", "other"]
theorem sc_is_aside : FnScope N_is_aside ["p", "rooms", "row", "call"] (defScope s_is_aside) := ⟨rfl, rfl, rfl, by decide +kernel, rfl, by decide +kernel, by decide +kernel⟩
abbrev s_is_barred : Stmt := topS 39
abbrev N_is_barred : List Str := ["p", "n", "rooms", "row", "caller", "learner", "other", "way"]
theorem sc_is_barred : FnScope N_is_barred ["p", "n", "rooms", "row"] (defScope s_is_barred) := ⟨rfl, rfl, rfl, by decide +kernel, rfl, by decide +kernel, by decide +kernel⟩
abbrev s_call_aside : Stmt := topS 40
abbrev N_call_aside : List Str := ["p", "n", "rooms", "row", "caller", "learner", "other", "way", "news", "strange", "call"]
theorem sc_call_aside : FnScope N_call_aside ["p", "n", "rooms", "row"] (defScope s_call_aside) := ⟨rfl, rfl, rfl, by decide +kernel, rfl, by decide +kernel, by decide +kernel⟩
abbrev s__law_deck : Stmt := topS 42
abbrev N__law_deck : List Str := ["_law_script", "_law_cell"]
theorem sc__law_deck : FnScope N__law_deck ["_law_script"] (defScope s__law_deck) := ⟨rfl, rfl, rfl, by decide +kernel, rfl, by decide +kernel, by decide +kernel⟩
abbrev s__law_draw : Stmt := topS 43
abbrev N__law_draw : List Str := ["_law_deck_here", "_law_many", "_law_cell", "_law_place"]
theorem sc__law_draw : FnScope N__law_draw ["_law_deck_here", "_law_many"] (defScope s__law_draw) := ⟨rfl, rfl, rfl, by decide +kernel, rfl, by decide +kernel, by decide +kernel⟩
abbrev s__law_names : Stmt := topS 44
abbrev N__law_names : List Str := ["_law_deck_here", "_law_many", "_law_letters", "_law_size_here", "_law_k", "_law_stem", "_law_spot", "_law_first", "_law_stride", "_law_found", "_law_letter"]
theorem sc__law_names : FnScope N__law_names ["_law_deck_here", "_law_many"] (defScope s__law_names) := ⟨rfl, rfl, rfl, by decide +kernel, rfl, by decide +kernel, by decide +kernel⟩
abbrev s__law_row : Stmt := topS 45
abbrev N__law_row : List Str := ["_law_deck_here", "_law_p", "_law_n", "_law_way", "_law_spot", "_law_k"]
theorem sc__law_row : FnScope N__law_row ["_law_deck_here", "_law_p", "_law_n"] (defScope s__law_row) := ⟨rfl, rfl, rfl, by decide +kernel, rfl, by decide +kernel, by decide +kernel⟩
abbrev s__law_left : Stmt := topS 46
abbrev N__law_left : List Str := ["_law_p", "_law_room_here", "_law_row_here", "_law_found", "_law_one", "_law_k", "_law_first", "_law_share"]
theorem sc__law_left : FnScope N__law_left ["_law_p", "_law_room_here", "_law_row_here"] (defScope s__law_left) := ⟨rfl, rfl, rfl, by decide +kernel, rfl, by decide +kernel, by decide +kernel⟩
abbrev s__law_plain : Stmt := topS 47
abbrev N__law_plain : List Str := ["_law_p", "_law_rows_here", "_law_found", "_law_row_here", "_law_rest", "_law_begun", "_law_k", "_law_turn", "_law_own", "_law_one"]
theorem sc__law_plain : FnScope N__law_plain ["_law_p", "_law_rows_here"] (defScope s__law_plain) := ⟨rfl, rfl, rfl, by decide +kernel, rfl, by decide +kernel, by decide +kernel⟩
abbrev s__law_within : Stmt := topS 48
abbrev N__law_within : List Str := ["_law_p", "_law_room_here", "_law_row_here"]
theorem sc__law_within : FnScope N__law_within ["_law_p", "_law_room_here", "_law_row_here"] (defScope s__law_within) := ⟨rfl, rfl, rfl, by decide +kernel, rfl, by decide +kernel, by decide +kernel⟩
abbrev s__law_made_of : Stmt := topS 49
abbrev N__law_made_of : List Str := ["_law_p", "_law_n", "_law_rows_here", "_law_factors", "_law_found", "_law_row_here", "_law_factor", "_law_k"]
theorem sc__law_made_of : FnScope N__law_made_of ["_law_p", "_law_n", "_law_rows_here", "_law_factors"] (defScope s__law_made_of) := ⟨rfl, rfl, rfl, by decide +kernel, rfl, by decide +kernel, by decide +kernel⟩
abbrev s__law_rows : Stmt := topS 50
abbrev N__law_rows : List Str := ["_law_deck_here", "_law_p", "_law_n", "_law_pool", "_law_found", "_law_k", "_law_row_here", "_law_factors", "_law_spot"]
theorem sc__law_rows : FnScope N__law_rows ["_law_deck_here", "_law_p", "_law_n", "_law_pool"] (defScope s__law_rows) := ⟨rfl, rfl, rfl, by decide +kernel, rfl, by decide +kernel, by decide +kernel⟩
abbrev s__law_stand : Stmt := topS 51
abbrev N__law_stand : List Str := ["_law_deck_here", "_law_limit", "_law_wide", "_law_p", "_law_n", "_law_k", "_law_pool", "_law_heard_here", "_law_hands", "_law_name"]
theorem sc__law_stand : FnScope N__law_stand ["_law_deck_here", "_law_limit", "_law_wide"] (defScope s__law_stand) := ⟨rfl, rfl, rfl, by decide +kernel, rfl, by decide +kernel, by decide +kernel⟩
abbrev s__law_room : Stmt := topS 53
abbrev N__law_room : List Str := ["_law_stand_here", "_law_names_here", "_law_rows_here", "_law_name", "_law_room_here"]
theorem sc__law_room : FnScope N__law_room ["_law_stand_here", "_law_names_here"] (defScope s__law_room) := ⟨rfl, rfl, rfl, by decide +kernel, rfl, by decide +kernel, by decide +kernel⟩
abbrev s__law_known : Stmt := topS 57
abbrev N__law_known : List Str := ["_law_deck_here", "_law_stand_here", "_law_name", "_law_room_here", "_law_row_here", "_law_factors"]
theorem sc__law_known : FnScope N__law_known ["_law_deck_here", "_law_stand_here", "_law_name"] (defScope s__law_known) := ⟨rfl, rfl, rfl, by decide +kernel, rfl, by decide +kernel, by decide +kernel⟩
abbrev s__law_is_row : Stmt := topS 58
abbrev N__law_is_row : List Str := ["_law_p", "_law_n", "_law_thing", "_law_one"]
theorem sc__law_is_row : FnScope N__law_is_row ["_law_p", "_law_n", "_law_thing"] (defScope s__law_is_row) := ⟨rfl, rfl, rfl, by decide +kernel, rfl, by decide +kernel, by decide +kernel⟩
abbrev s__law_bent : Stmt := topS 59
abbrev N__law_bent : List Str := ["_law_deck_here", "_law_stand_here", "_law_things", "_law_p", "_law_n", "_law_found", "_law_turn", "_law_spot", "_law_odd", "_law_row_here"]
theorem sc__law_bent : FnScope N__law_bent ["_law_deck_here", "_law_stand_here", "_law_things"] (defScope s__law_bent) := ⟨rfl, rfl, rfl, by decide +kernel, rfl, by decide +kernel, by decide +kernel⟩
abbrev s__law_due : Stmt := topS 60
abbrev N__law_due : List Str := ["_law_stand_here", "_law_things", "_law_rooms", "_law_name"]
theorem sc__law_due : FnScope N__law_due ["_law_stand_here", "_law_things"] (defScope s__law_due) := ⟨rfl, rfl, rfl, by decide +kernel, rfl, by decide +kernel, by decide +kernel⟩
abbrev s__law_told : Stmt := topS 61
abbrev N__law_told : List Str := ["_law_stand_here", "_law_things", "_law_found", "_law_told_here", "e"]
theorem sc__law_told : FnScope N__law_told ["_law_stand_here", "_law_things"] (defScope s__law_told) := ⟨rfl, rfl, rfl, by decide +kernel, rfl, by decide +kernel, by decide +kernel⟩
abbrev s_law : Stmt := topS 62
abbrev N_law : List Str := ["_law_script", "_law_deck_here", "_law_turn", "_law_stand_here", "_law_name", "_law_room_here", "_law_names_here", "_law_again", "_law_k", "_law_things", "_law_row_here", "_law_kept"]
theorem sc_law : FnScope N_law ["_law_script"] (defScope s_law) := ⟨rfl, rfl, rfl, by decide +kernel, rfl, by decide +kernel, by decide +kernel⟩
structure Top (K : PySem.W.Frag) (mg : Str → Option Value) : Prop where
  b_abs : mg "abs" = none
  b_all : mg "all" = none
  b_bool : mg "bool" = none
  b_dict : mg "dict" = none
  b_enumerate : mg "enumerate" = none
  b_int : mg "int" = none
  b_isinstance : mg "isinstance" = none
  b_len : mg "len" = none
  b_list : mg "list" = none
  b_max : mg "max" = none
  b_range : mg "range" = none
  b_repr : mg "repr" = none
  b_sorted : mg "sorted" = none
  b_str : mg "str" = none
  b_tuple : mg "tuple" = none
  b_zip : mg "zip" = none
  b_LookupError : mg "LookupError" = none
  b_ValueError : mg "ValueError" = none
  e_CallError : ErrC K mg "CallError"
  n_CallError : PySem.W.excIn K (adr mg "CallError") [.type "ValueError", .type "Exception", .type "BaseException", .type "object"] "ValueError.__new__" = true
  e_NoRow : ErrC K mg "NoRow"
  n_NoRow : PySem.W.excIn K (adr mg "NoRow") [.type "ValueError", .type "Exception", .type "BaseException", .type "object"] "ValueError.__new__" = true
  e_NotKnown : ErrC K mg "NotKnown"
  e_NoHand : ErrC K mg "NoHand"
  e_Known : ErrC K mg "Known"
  f_NoHand : ErrF K mg "NoHand" "name" [.type "LookupError", .type "Exception", .type "BaseException", .type "object"] "LookupError.__new__"
  f_Known : ErrF K mg "Known" "name" [.type "ValueError", .type "Exception", .type "BaseException", .type "object"] "ValueError.__new__"
  s_CallError_CallError : PySem.W.subIn K (.ref (adr mg "CallError")) (.ref (adr mg "CallError")) = some true
  s_NoRow_CallError : PySem.W.subIn K (.ref (adr mg "NoRow")) (.ref (adr mg "CallError")) = some true
  s_NoRow_NoRow : PySem.W.subIn K (.ref (adr mg "NoRow")) (.ref (adr mg "NoRow")) = some true
  s_NoRow_NotKnown : PySem.W.subIn K (.ref (adr mg "NoRow")) (.ref (adr mg "NotKnown")) = some false
  s_NoRow_NoHand : PySem.W.subIn K (.ref (adr mg "NoRow")) (.ref (adr mg "NoHand")) = some false
  s_NoRow_Known : PySem.W.subIn K (.ref (adr mg "NoRow")) (.ref (adr mg "Known")) = some false
  s_NoRow_LookupError : PySem.W.subIn K (.ref (adr mg "NoRow")) (.type "LookupError") = some false
  s_NoRow_ValueError : PySem.W.subIn K (.ref (adr mg "NoRow")) (.type "ValueError") = some true
  s_NotKnown_NotKnown : PySem.W.subIn K (.ref (adr mg "NotKnown")) (.ref (adr mg "NotKnown")) = some true
  s_NoHand_CallError : PySem.W.subIn K (.ref (adr mg "NoHand")) (.ref (adr mg "CallError")) = some false
  s_NoHand_NoRow : PySem.W.subIn K (.ref (adr mg "NoHand")) (.ref (adr mg "NoRow")) = some false
  s_NoHand_NotKnown : PySem.W.subIn K (.ref (adr mg "NoHand")) (.ref (adr mg "NotKnown")) = some false
  s_NoHand_NoHand : PySem.W.subIn K (.ref (adr mg "NoHand")) (.ref (adr mg "NoHand")) = some true
  s_NoHand_Known : PySem.W.subIn K (.ref (adr mg "NoHand")) (.ref (adr mg "Known")) = some false
  s_NoHand_LookupError : PySem.W.subIn K (.ref (adr mg "NoHand")) (.type "LookupError") = some true
  s_NoHand_ValueError : PySem.W.subIn K (.ref (adr mg "NoHand")) (.type "ValueError") = some false
  s_Known_CallError : PySem.W.subIn K (.ref (adr mg "Known")) (.ref (adr mg "CallError")) = some true
  s_Known_NoRow : PySem.W.subIn K (.ref (adr mg "Known")) (.ref (adr mg "NoRow")) = some false
  s_Known_NotKnown : PySem.W.subIn K (.ref (adr mg "Known")) (.ref (adr mg "NotKnown")) = some false
  s_Known_NoHand : PySem.W.subIn K (.ref (adr mg "Known")) (.ref (adr mg "NoHand")) = some false
  s_Known_Known : PySem.W.subIn K (.ref (adr mg "Known")) (.ref (adr mg "Known")) = some true
  s_Known_LookupError : PySem.W.subIn K (.ref (adr mg "Known")) (.type "LookupError") = some false
  s_Known_ValueError : PySem.W.subIn K (.ref (adr mg "Known")) (.type "ValueError") = some true
  d_is_number : Df K mg "is_number" s_is_number ["thing"]
  d_is_rest : Df K mg "is_rest" s_is_rest ["p", "thing"]
  d_contrary : Df K mg "contrary" s_contrary ["p", "a"]
  d_is_row : Df K mg "is_row" s_is_row ["p", "n", "thing"]
  d_added : Df K mg "added" s_added ["p", "one", "other"]
  d_times : Df K mg "times" s_times ["p", "a", "row"]
  d_check_hand : Df K mg "check_hand" s_check_hand ["there", "hand"]
  d_check_row : Df K mg "check_row" s_check_row ["p", "n", "row"]
  d_is_noughts : Df K mg "is_noughts" s_is_noughts ["row"]
  d_first_place : Df K mg "first_place" s_first_place ["row"]
  d_cleared : Df K mg "cleared" s_cleared ["p", "plain", "row"]
  d_left_of : Df K mg "left_of" s_left_of ["p", "room", "row"]
  d_widened : Df K mg "widened" s_widened ["p", "room", "row"]
  d_room_of : Df K mg "room_of" s_room_of ["p", "n", "rows"]
  d_within : Df K mg "within" s_within ["p", "room", "row"]
  d_first_outside : Df K mg "first_outside" s_first_outside ["p", "room", "rows"]
  d_inside : Df K mg "inside" s_inside ["p", "one", "other"]
  d_joined : Df K mg "joined" s_joined ["p", "n", "one", "other"]
  d_shared : Df K mg "shared" s_shared ["p", "n", "one", "other"]
  d_across : Df K mg "across" s_across ["p", "n", "room"]
  d_across_at : Df K mg "across_at" s_across_at ["p", "n", "room", "at"]
  d_names_of : Df K mg "names_of" s_names_of ["stand"]
  d_room_in : Df K mg "room_in" s_room_in ["stand", "names"]
  d_aside : Df K mg "aside" s_aside ["stand", "caller", "learner", "other", "row"]
  d_rooms_of_three : Df K mg "rooms_of_three" s_rooms_of_three ["stand", "caller", "learner", "other"]
  d_way_of : Df K mg "way_of" s_way_of ["p", "n", "rooms", "row"]
  d_is_aside : Df K mg "is_aside" s_is_aside ["p", "rooms", "row", "call"]
  d_is_barred : Df K mg "is_barred" s_is_barred ["p", "n", "rooms", "row"]
  d_call_aside : Df K mg "call_aside" s_call_aside ["p", "n", "rooms", "row"]
  d__law_deck : Df K mg "_law_deck" s__law_deck ["_law_script"]
  d__law_draw : Df K mg "_law_draw" s__law_draw ["_law_deck_here", "_law_many"]
  d__law_names : Df K mg "_law_names" s__law_names ["_law_deck_here", "_law_many"]
  d__law_row : Df K mg "_law_row" s__law_row ["_law_deck_here", "_law_p", "_law_n"]
  d__law_left : Df K mg "_law_left" s__law_left ["_law_p", "_law_room_here", "_law_row_here"]
  d__law_plain : Df K mg "_law_plain" s__law_plain ["_law_p", "_law_rows_here"]
  d__law_within : Df K mg "_law_within" s__law_within ["_law_p", "_law_room_here", "_law_row_here"]
  d__law_made_of : Df K mg "_law_made_of" s__law_made_of ["_law_p", "_law_n", "_law_rows_here", "_law_factors"]
  d__law_rows : Df K mg "_law_rows" s__law_rows ["_law_deck_here", "_law_p", "_law_n", "_law_pool"]
  d__law_stand : Df K mg "_law_stand" s__law_stand ["_law_deck_here", "_law_limit", "_law_wide"]
  d__law_room : Df K mg "_law_room" s__law_room ["_law_stand_here", "_law_names_here"]
  d__law_known : Df K mg "_law_known" s__law_known ["_law_deck_here", "_law_stand_here", "_law_name"]
  d__law_is_row : Df K mg "_law_is_row" s__law_is_row ["_law_p", "_law_n", "_law_thing"]
  d__law_bent : Df K mg "_law_bent" s__law_bent ["_law_deck_here", "_law_stand_here", "_law_things"]
  d__law_due : Df K mg "_law_due" s__law_due ["_law_stand_here", "_law_things"]
  d__law_told : Df K mg "_law_told" s__law_told ["_law_stand_here", "_law_things"]
section
variable {P : Program} {w : World} {K : PySem.W.Frag} {mg : Str → Option Value} {base : Heap}
def sp_whole (K : PySem.W.Frag) : Sp := fun vs H Q _ => ∃ (v : V) (k : Kd), vs = [v] ∧ KdOf K H v k ∧ Q (.bl (decide (k = .int))) H
def sp_contr : Sp := fun vs H Q _ => ∃ p a : Int, vs = [.int p, .int a] ∧ Fld p ∧ p ≤ 1000 ∧ 1 ≤ a ∧ a < p ∧ Q (.int (ctr p a)) H
theorem ok_contrary (T : Top K mg) : Ok P w K mg base 1 "contrary" ["p", "a"] sp_contr := by
  refine T.d_contrary.ok sc_contrary (fun vs H Q E h => ?_) (fun f cdv A outer s H vs Q E hr h => ?_)
  · obtain ⟨p, a, rfl, _⟩ := h
    rfl
  · obtain ⟨p, a, rfl, hF, h2, h3, h4, q⟩ := h
    have h1 := hF.1
    refine ⟨_, ((pss_cons (ps_for PassesOwn.never (by rfl) (pi_range2 (by rfl) T.b_range (pa_cons pe_int (pa_cons (pv 0) pa_nil))) (pg_name (i := 2) sc_contrary.nd rfl (.inl rfl))
        (pss_one (ps_if (pt_cmpR op_eq (pe_op op_mod (pe_op op_mul (pv 1) (pv 2)) (pv 0)) pe_int (nomark _))
          (pss_one (ps_ret (pv 2)))
          pss_nil)))
      (pss_one (ps_ret pe_non)))), ?_⟩
    refine ⟨.int p, rfl, 1, p, rfl, ⟨by omega, by omega, by omega, by omega⟩, for_range (lo := 1) (n := (p - 1).toNat) (fun i σ H' => H' = H ∧ (∃ y, σ = [some (.int p), some (.int a), y]) ∧ ∀ b : Int, 1 ≤ b → b < 1 + i → a * b % p ≠ 1) ⟨rfl, ⟨none, rfl⟩, fun b _ _ => by omega⟩ (fun i σ H' hi hW => ?_) (fun σ H' hW => ?_)⟩
    · obtain ⟨rfl, ⟨y, rfl⟩, hn⟩ := hW
      refine ⟨.int a, rfl, .int (1 + i), rfl, a, 1 + i, rfl, rfl, .inl ⟨by omega, by omega⟩, .int p, rfl, _, p, rfl, rfl, by omega, rfl, _, rfl, ite2 (fun e => ?_) (fun e => ?_)⟩
      · have e1 : a * (1 + i) % p = 1 := V.int.inj (of_decide_eq_true e)
        refine ⟨.int (1 + i), rfl, ?_⟩
        rw [ctr_uniq hF h3 h4 (show (1 : Int) ≤ 1 + i by omega) (by omega) e1]
        exact q
      · have e1 : a * (1 + i) % p ≠ 1 := fun z => e (decide_eq_true (congrArg V.int z))
        refine ⟨rfl, ⟨_, rfl⟩, fun b hb1 hb2 => ?_⟩
        by_cases z : b = 1 + i
        · subst z; exact e1
        · exact hn b hb1 (by omega)
    · obtain ⟨rfl, ⟨y, rfl⟩, hn⟩ := hW
      obtain ⟨b, b1, b2, b3⟩ := hF.2 a h3 h4
      exact absurd b3 (hn b b1 (by omega))
def sp_added (K : PySem.W.Frag) : Sp := fun vs H Q _ => ∃ (a b : Addr) (x y : List Int) (p : Int), vs = [.int p, .ref a, .ref b] ∧ SqT K H a (x.map V.int) ∧ SqT K H b (y.map V.int) ∧ x.length ≤ 1000 ∧ 0 < p ∧
  ∀ H' l, Same H H' → H l = none → H' l = some (.tup ((addR p x y).map V.int)) → Q (.ref l) H'
theorem ok_added (T : Top K mg) : Ok P w K mg base 1 "added" ["p", "one", "other"] (sp_added K) := by
  refine T.d_added.ok sc_added (fun vs H Q E h => ?_) (fun f cdv A outer s H vs Q E hr h => ?_)
  · obtain ⟨a, b, x, y, p, rfl, _⟩ := h
    rfl
  · obtain ⟨a, b, x, y, p, rfl, hA, hB, hz, hp, q⟩ := h
    refine ⟨_, ((pss_one (ps_ret (pe_callTy call_tuple_of (by rfl) T.b_tuple (by decide +kernel) (pa_cons (pe_lc (own := [("a", 3), ("b", 4)]) (g := gTup K 2 (gCons (gName 3) (gCons (gName 4) gNil))) (by rfl) sc_added.nd (RZ.pi_zipA (by rfl) T.b_zip (pa_cons (pv 1) (pa_cons (pv 2) pa_nil))) (blkOk_by (own := [("a", 3), ("b", 4)]) (N := N_added) (sc := defScope s_added) (by decide +kernel)) (fun _ _ _ _ _ => (pg_tup (by rfl) (pgs_cons (pg_name (i := 3) sc_added.nd rfl (.inl rfl)) (pgs_cons (pg_name (i := 4) sc_added.nd rfl (.inl rfl)) pgs_nil)))) (fun _ _ _ _ _ => pts_nil) (fun _ _ _ _ _ => (pe_op op_mod (pe_op op_add (pv 3) (pv 4)) (pv 0)))) pa_nil))))), ?_⟩
    refine ⟨.ref a, rfl, .ref b, rfl, a, b, _, _, rfl, .inr ⟨hA, hB, lc_zipI (fun u v => (u + v) % p) hA hB hz (fun _ _ => rfl) (fun u v H' Q' _ _ _ hQ => ?_) (fun D H' sm nD eD => ?_)⟩⟩
    · exact ⟨.int u, rfl, .int v, rfl, u, v, rfl, rfl, .int p, rfl, _, p, rfl, rfl, hp, hQ⟩
    · refine ⟨D, _, rfl, .inl ⟨.inl (.inl eD), fun l nl => ?_⟩⟩
      exact q _ l (sm.trans (same_upd nl)) (sm.free nl) upd_same
def sp_times (K : PySem.W.Frag) : Sp := fun vs H Q _ => ∃ (b : Addr) (x : List Int) (p m : Int), vs = [.int p, .int m, .ref b] ∧ SqT K H b (x.map V.int) ∧ x.length ≤ 1000 ∧ 0 < p ∧ -1000000 ≤ m ∧ m ≤ 1000000 ∧
  ∀ H' l, Same H H' → H l = none → H' l = some (.tup ((timesR p m x).map V.int)) → Q (.ref l) H'
theorem ok_times (T : Top K mg) : Ok P w K mg base 1 "times" ["p", "a", "row"] (sp_times K) := by
  refine T.d_times.ok sc_times (fun vs H Q E h => ?_) (fun f cdv A outer s H vs Q E hr h => ?_)
  · obtain ⟨b, x, p, m, rfl, _⟩ := h
    rfl
  · obtain ⟨b, x, p, m, rfl, hB, hz, hp, hm1, hm2, q⟩ := h
    refine ⟨_, ((pss_one (ps_ret (pe_callTy call_tuple_of (by rfl) T.b_tuple (by decide +kernel) (pa_cons (pe_lc (own := [("rest", 3)]) (g := gName 3) (by rfl) sc_times.nd (pi_tup (pv 2)) (blkOk_by (own := [("rest", 3)]) (N := N_times) (sc := defScope s_times) (by decide +kernel)) (fun _ _ _ _ _ => (pg_name (i := 3) sc_times.nd rfl (.inl rfl))) (fun _ _ _ _ _ => pts_nil) (fun _ _ _ _ _ => (pe_op op_mod (pe_op op_mul (pv 1) (pv 3)) (pv 0)))) pa_nil))))), ?_⟩
    refine ⟨.ref b, rfl, b, rfl, ⟨_, hB⟩, lc_tupI (fun v => m * v % p) hB hz (fun _ => rfl) (fun v H' Q' _ _ hQ => ?_) (fun D H' sm nD eD => ?_)⟩
    · exact ⟨.int m, rfl, .int v, rfl, m, v, rfl, rfl, .inl ⟨by omega, by omega⟩, .int p, rfl, _, p, rfl, rfl, hp, hQ⟩
    · refine ⟨D, _, rfl, .inl ⟨.inl (.inl eD), fun l nl => ?_⟩⟩
      exact q _ l (sm.trans (same_upd nl)) (sm.free nl) upd_same
theorem ok_is_number (T : Top K mg) : Ok P w K mg base 1 "is_number" ["thing"] (sp_whole K) := by
  refine T.d_is_number.ok sc_is_number (fun vs H Q E h => ?_) (fun f cdv A outer s H vs Q E hr h => ?_)
  · obtain ⟨v, k, rfl, _⟩ := h
    rfl
  · obtain ⟨v, k, rfl, ty, q⟩ := h
    refine ⟨_, ((pss_one (ps_ret (pe_and (pe_callB call_isi (by rfl) T.b_isinstance (by decide +kernel) (pa_cons (pv 0) (pa_cons (pe_bltn (v := .ty "int") (u := .type "int") (by rfl) T.b_int (by decide +kernel) rfl) pa_nil))) (pe_one (pe_not (pe_callB call_isi (by rfl) T.b_isinstance (by decide +kernel) (pa_cons (pv 0) (pa_cons (pe_bltn (v := .ty "bool") (u := .type "bool") (by rfl) T.b_bool (by decide +kernel) rfl) pa_nil))))))))), ?_⟩
    refine ⟨v, rfl, v, .ty "int", _, _, _, rfl, .ty "int", ty, kit_int k, _, rfl, ?_⟩
    cases k <;> first | exact q | exact ⟨v, rfl, v, .ty "bool", _, _, _, rfl, .ty "bool", ty, kit_bool _, _, rfl, q⟩
def sp_is_rest (K : PySem.W.Frag) : Sp := fun vs H Q _ => ∃ (p : Int) (v : V) (e : PyData), vs = [.int p, v] ∧ Rep K H NB v e ∧ Q (.bl (restD p e)) H
theorem ok_is_rest (T : Top K mg) : Ok P w K mg base 2 "is_rest" ["p", "thing"] (sp_is_rest K) := by
  have O_is_number := ok_is_number (P := P) (w := w) (base := base) T
  refine T.d_is_rest.ok sc_is_rest (fun vs H Q E h => ?_) (fun f cdv A outer s H vs Q E hr h => ?_)
  · obtain ⟨p, v, e, rfl, _⟩ := h
    rfl
  · obtain ⟨p, v, e, rfl, hv, q⟩ := h
    refine ⟨_, ((pss_one (ps_ret (pe_and (pe_callO O_is_number (hr.mono (by omega)) (by rfl) (pa_cons (pv 1) pa_nil)) (pe_one (pe_chain op_le op_lt pe_int (pv 1) (pv 0))))))), ?_⟩
    refine ⟨v, rfl, v, kdOf e, rfl, hv.kd, _, rfl, ?_⟩
    cases hv with
    | int i =>
      refine iteT ⟨.int i, rfl, 0, i, rfl, rfl, _, rfl, ?_⟩
      by_cases h0 : 0 ≤ i
      · rw [decide_eq_true h0]
        refine iteT ⟨.int p, rfl, i, p, rfl, rfl, ?_⟩
        have e : restD p (.int i) = decide (i < p) := by
          show (decide (0 ≤ i) && decide (i < p)) = decide (i < p)
          rw [decide_eq_true h0, Bool.true_and]
        rw [e] at q
        exact q
      · rw [decide_eq_false h0]
        refine iteF ?_
        have e : restD p (.int i) = false := by
          show (decide (0 ≤ i) && decide (i < p)) = false
          rw [decide_eq_false h0, Bool.false_and]
        rw [e] at q
        exact q
    | _ => exact iteF q
def sp_is_row (K : PySem.W.Frag) : Sp := fun vs H Q _ => ∃ (p n : Int) (v : V) (e : PyData), vs = [.int p, .int n, v] ∧ Rep K H NB v e ∧ lenOk e ∧ ∀ H', Same H H' → Q (.bl (isRowD p n e)) H'
theorem ok_is_row (T : Top K mg) : Ok P w K mg base 3 "is_row" ["p", "n", "thing"] (sp_is_row K) := by
  have O_is_rest := ok_is_rest (P := P) (w := w) (base := base) T
  refine T.d_is_row.ok sc_is_row (fun vs H Q E h => ?_) (fun f cdv A outer s H vs Q E hr h => ?_)
  · obtain ⟨p, n, v, e, rfl, _⟩ := h
    rfl
  · obtain ⟨p, n, v, e, rfl, hv, hl, q⟩ := h
    refine ⟨_, ((pss_one (ps_ret (pe_and (pe_callB call_isi (by rfl) T.b_isinstance (by decide +kernel) (pa_cons (pv 2) (pa_cons (pe_bltn (v := .ty "tuple") (u := .type "tuple") (by rfl) T.b_tuple (by decide +kernel) rfl) pa_nil))) (pe_and (pe_cmpR op_eq (pe_callB call_len_seq (by rfl) T.b_len (by decide +kernel) (pa_cons (pv 2) pa_nil)) (pv 1) (nomark _)) (pe_one (pe_callB (cr_all (by rfl)) (by rfl) T.b_all (by decide +kernel) (pa_cons (pe_lc (own := [("part", 3)]) (g := gName 3) (by rfl) sc_is_row.nd (pi_tup (pv 2)) (blkOk_by (own := [("part", 3)]) (N := N_is_row) (sc := defScope s_is_row) (by decide +kernel)) (fun _ _ _ _ _ => (pg_name (i := 3) sc_is_row.nd rfl (.inl rfl))) (fun _ _ _ _ _ => pts_nil) (fun _ _ _ _ _ => (pe_callO O_is_rest (hr.mono (by omega)) (by rfl) (pa_cons (pv 0) (pa_cons (pv 3) pa_nil))))) pa_nil)))))))), ?_⟩
    refine ⟨v, rfl, v, .ty "tuple", _, _, _, rfl, .ty "tuple", hv.kd, kit_tuple _, _, rfl, ?_⟩
    cases hv with
    | @tup a xs ds hA hx =>
      have lx := repAll_len hx
      have hl : ds.length ≤ 1000 := hl
      refine iteT ⟨.ref a, rfl, a, xs, rfl, .inr hA, .int n, rfl, rfl, _, rfl, ?_⟩
      by_cases hn : (ds.length : Int) = n
      · rw [decide_eq_true (show V.int ((xs.length : Nat) : Int) = V.int n by rw [lx, hn])]
        refine iteT ⟨.ref a, rfl, a, rfl, ⟨_, hA⟩, fun D nD => ?_⟩
        refine lc_it (walk_tup (K := K) (a := a) (xs := xs)) (fun k H' => Same H H' ∧ H' D = some (.lst (((ds.map (restD p)).take k).map V.bl))) ⟨same_mut (Same.refl H) nD, upd_same⟩ (fun k H' _ hP => Same.tup hP.1 hA) (fun k x H1 H2 hk hP hY => ?_) (fun H' hP => ?_)
        · obtain ⟨rfl, e1⟩ := hY
          obtain ⟨sm, eD⟩ := hP
          obtain ⟨e, g, _, rx⟩ := repAll_get hx e1
          refine ⟨rfl, .int p, rfl, x, rfl, p, x, e, rfl, rep_stays (Stays.of sm) _ _ rx, _, eD, ?_, same_mut sm nD, ?_⟩
          · rw [List.length_map, List.length_take, List.length_map]
            exact small1000 (by omega)
          · rw [upd_same, List.take_add_one, List.getElem?_map, g, List.map_append]
            rfl
        · obtain ⟨sm, eD⟩ := hP
          rw [List.take_of_length_le (by rw [List.length_map]; omega)] at eD
          refine ⟨D, ds.map (restD p), rfl, .inl (.inl eD), ?_⟩
          have e : isRowD p n (.tuple ds) = (ds.map (restD p)).all id := by
            show (decide ((ds.length : Int) = n) && ds.all (restD p)) = _
            rw [decide_eq_true hn, Bool.true_and, List.all_map]
            rfl
          have := q H' sm
          rw [e] at this
          exact this
      · rw [decide_eq_false (show ¬ V.int ((xs.length : Nat) : Int) = V.int n from fun z => hn (by rw [← lx]; exact V.int.inj z))]
        refine iteF ?_
        have e : isRowD p n (.tuple ds) = false := by
          show (decide ((ds.length : Int) = n) && ds.all (restD p)) = false
          rw [decide_eq_false hn, Bool.false_and]
        have := q H (Same.refl H)
        rw [e] at this
        exact this
    | _ => exact iteF (q H (Same.refl H))
def sp_noughts (K : PySem.W.Frag) : Sp := fun vs H Q _ => ∃ (a : Addr) (r : List Int), vs = [.ref a] ∧ SqT K H a (r.map V.int) ∧ r.length ≤ 1000 ∧ ∀ H', Same H H' → Q (.bl (r.all fun x => decide (x = 0))) H'
theorem ok_is_noughts (T : Top K mg) : Ok P w K mg base 1 "is_noughts" ["row"] (sp_noughts K) := by
  refine T.d_is_noughts.ok sc_is_noughts (fun vs H Q E h => ?_) (fun f cdv A outer s H vs Q E hr h => ?_)
  · obtain ⟨a, r, rfl, _⟩ := h
    rfl
  · obtain ⟨a, r, rfl, hA, hl, q⟩ := h
    refine ⟨_, ((pss_one (ps_ret (pe_callB (cr_all (by rfl)) (by rfl) T.b_all (by decide +kernel) (pa_cons (pe_lc (own := [("rest", 1)]) (g := gName 1) (by rfl) sc_is_noughts.nd (pi_tup (pv 0)) (blkOk_by (own := [("rest", 1)]) (N := N_is_noughts) (sc := defScope s_is_noughts) (by decide +kernel)) (fun _ _ _ _ _ => (pg_name (i := 1) sc_is_noughts.nd rfl (.inl rfl))) (fun _ _ _ _ _ => pts_nil) (fun _ _ _ _ _ => (pe_cmpR op_eq (pv 1) pe_int (nomark _)))) pa_nil))))), ?_⟩
    refine ⟨.ref a, rfl, a, rfl, ⟨_, hA⟩, fun D nD => ?_⟩
    refine lc_it (walk_tup (K := K) (a := a) (xs := r.map V.int)) (fun k H' => Same H H' ∧ H' D = some (.lst (((r.map fun x => decide (x = 0)).take k).map V.bl))) ⟨same_mut (Same.refl H) nD, upd_same⟩ (fun k H' _ hP => Same.tup hP.1 hA) (fun k x H1 H2 hk hP hY => ?_) (fun H' hP => ?_)
    · obtain ⟨rfl, e1⟩ := hY
      obtain ⟨sm, eD⟩ := hP
      rw [List.getElem?_map] at e1
      cases h1 : r[k]? with
      | none => rw [h1] at e1; cases e1
      | some z =>
        rw [h1] at e1
        have q1 : x = V.int z := (Option.some.inj e1).symm
        subst q1
        refine ⟨rfl, .int z, rfl, rfl, _, eD, ?_, same_mut sm nD, ?_⟩
        · rw [List.length_map, List.length_take, List.length_map]
          exact small1000 (by omega)
        · have ez : decide (V.int z = V.int 0) = decide (z = 0) := decide_eq_decide.mpr ⟨fun e => V.int.inj e, fun e => congrArg V.int e⟩
          rw [upd_same, List.take_add_one, List.getElem?_map, h1, List.map_append, ez]
          rfl
    · obtain ⟨sm, eD⟩ := hP
      rw [List.take_of_length_le (by rw [List.length_map, List.length_map]; exact Nat.le_refl _)] at eD
      refine ⟨D, _, rfl, .inl (.inl eD), ?_⟩
      have := q H' sm
      rw [show (r.all fun x => decide (x = 0)) = (r.map fun x => decide (x = 0)).all id by rw [List.all_map]; rfl] at this
      exact this
def sp_first (K : PySem.W.Frag) : Sp := fun vs H Q _ => ∃ (a : Addr) (r : List Int), vs = [.ref a] ∧ SqT K H a (r.map V.int) ∧ r.length ≤ 1000 ∧ (fpR r < r.length → ∀ H', Same H H' → Q (.int (fpR r : Int)) H') ∧ (fpR r = r.length → ∀ H', Same H H' → Q .non H')
theorem ok_first_place (T : Top K mg) : Ok P w K mg base 1 "first_place" ["row"] (sp_first K) := by
  refine T.d_first_place.ok sc_first_place (fun vs H Q E h => ?_) (fun f cdv A outer s H vs Q E hr h => ?_)
  · obtain ⟨a, r, rfl, _⟩ := h
    rfl
  · obtain ⟨a, r, rfl, hA, hl, q1, q2⟩ := h
    refine ⟨_, ((pss_cons (ps_for PassesOwn.never (by rfl) (pi_enumT (by rfl) T.b_enumerate (pa_cons (pv 0) pa_nil)) (pg_tup (by rfl) (pgs_cons (pg_name (i := 1) sc_first_place.nd rfl (.inl rfl)) (pgs_cons (pg_name (i := 2) sc_first_place.nd rfl (.inl rfl)) pgs_nil)))
        (pss_one (ps_if (pt_cmpR op_ne (pv 2) pe_int (nomark _))
          (pss_one (ps_ret (pv 1)))
          pss_nil)))
      (pss_one (ps_ret pe_non)))), ?_⟩
    refine ⟨.ref a, rfl, a, _, rfl, hA, for_it (walk_enumT (K := K) (a := a) (xs := r.map V.int)) (fun i σ H' => Same H H' ∧ (∀ j, j < i → r.getD j 0 = 0) ∧ ∃ y1 y2, σ = [some (.ref a), y1, y2]) ⟨Same.refl H, fun j hj => absurd hj (Nat.not_lt_zero _), none, none, rfl⟩ (fun i σ H' _ hW => Same.tup hW.1 hA) (fun i v σ H1 H2 hi hW hY => ?_) (fun σ H' hW => ?_)⟩
    · obtain ⟨sm, lo, y1, y2, rfl⟩ := hW
      obtain ⟨Ta, x, y, rfl, nT, rfl, g1, g2⟩ := hY
      rw [List.length_map] at hi
      have g1 : x = V.int (i : Nat) := (Option.some.inj g1).symm
      have g2 : (r.map V.int)[i]? = some y := g2
      rw [List.getElem?_map, List.getElem?_eq_getElem hi] at g2
      have g2 : y = V.int r[i] := (Option.some.inj g2).symm
      subst g1 g2
      have sT : Same H1 (upd H1 Ta (.tup [.int (i : Nat), .int r[i]])) := same_upd nT
      refine ⟨Ta, [.int (i : Nat), .int r[i]], rfl, .inl (.inl upd_same), rfl, .int (i : Nat), [.int r[i]], rfl, .int r[i], [], rfl, rfl, ?_⟩
      refine ⟨.int r[i], rfl, rfl, _, rfl, ite2 (fun e => ?_) (fun e => ?_)⟩
      · have nz : r.getD i 0 ≠ 0 := fun z => by
          rw [gd_lt hi] at z
          rw [z] at e
          cases e
        have ef := fpR_of nz lo
        refine ⟨.int (i : Nat), rfl, ?_⟩
        have := q1 (by omega) _ (sm.trans sT)
        rw [ef] at this
        exact this
      · refine ⟨sm.trans sT, fun j hj => ?_, _, _, rfl⟩
        by_cases ej : j = i
        · subst ej
          rw [gd_lt hi]
          apply Classical.byContradiction
          intro hn
          apply e
          rw [decide_eq_false (fun z => hn (V.int.inj z))]
          rfl
        · exact lo j (by omega)
    · obtain ⟨sm, lo, y1, y2, rfl⟩ := hW
      refine q2 ?_ _ sm
      rw [List.length_map] at lo
      rcases Nat.lt_or_ge (fpR r) r.length with h | h
      · exact absurd (lo _ h) (fpR_at h)
      · have := fpR_le r
        omega
def sp_cleared (K : PySem.W.Frag) : Sp := fun vs H Q _ => ∃ (a b : Addr) (r c : List Int) (p : Int) (n : Nat), vs = [.int p, .ref b, .ref a] ∧ SqT K H a (r.map V.int) ∧ SqT K H b (c.map V.int) ∧ RowsOk p n [r] ∧ c.length = n ∧ fpR c < n ∧ n ≤ 1000 ∧ 0 < p ∧ p ≤ 100000 ∧
  ∀ H' l, Same H H' → SqT K H' l ((lessR p r c (fpR c)).map V.int) → Q (.ref l) H'
theorem ok_cleared (T : Top K mg) : Ok P w K mg base 2 "cleared" ["p", "plain", "row"] (sp_cleared K) := by
  have O_first_place := ok_first_place (P := P) (w := w) (base := base) T
  have O_added := ok_added (P := P) (w := w) (base := base) T
  have O_times := ok_times (P := P) (w := w) (base := base) T
  refine T.d_cleared.ok sc_cleared (fun vs H Q E h => ?_) (fun f cdv A outer s H vs Q E hr h => ?_)
  · obtain ⟨a, b, r, c, p, n, rfl, _⟩ := h
    rfl
  · obtain ⟨a, b, r, c, p, n, rfl, hA, hB, okr, lc, hfp, hn, hp, hp2, q⟩ := h
    refine ⟨_, ((pss_cons (ps_set (i := 3) sc_cleared.nd rfl (.inl rfl) (pe_ix ix_tup (pv 2) (pe_callO O_first_place (hr.mono (by omega)) (by rfl) (pa_cons (pv 1) pa_nil)) (fun _ _ => rfl)))
      (pss_cons (ps_if (pt_cmpR op_eq (pv 3) pe_int (nomark _))
        (pss_one (ps_ret (pv 2)))
        pss_nil)
      (pss_one (ps_ret (pe_callO O_added (hr.mono (by omega)) (by rfl) (pa_cons (pv 0) (pa_cons (pv 2) (pa_cons (pe_callO O_times (hr.mono (by omega)) (by rfl) (pa_cons (pv 0) (pa_cons (pe_op op_sub (pv 0) (pv 3)) (pa_cons (pv 1) pa_nil)))) pa_nil))))))))), ?_⟩
    have okr := okr r List.mem_cons_self
    have bj := rowOk_getD okr hfp
    refine ⟨.ref a, rfl, .ref b, rfl, b, c, rfl, hB, by omega, fun hlt H1 s1 => ?_, fun e => by omega⟩
    refine ⟨a, _, _, _, rfl, rfl, Same.tup s1 hA, at_row (by rw [okr.1]; exact hfp), ?_⟩
    refine ⟨.int (r.getD (fpR c) 0), rfl, rfl, _, rfl, ite2 (fun e => ?_) (fun e => ?_)⟩
    · have z : r.getD (fpR c) 0 = 0 := V.int.inj (of_decide_eq_true e)
      refine ⟨.ref a, rfl, q H1 a s1 ?_⟩
      unfold lessR
      rw [z, less_zero r c (by rw [okr.1, lc]) okr.2]
      exact Same.tup s1 hA
    · refine ⟨.int p, rfl, .ref a, rfl, .int p, rfl, .int p, rfl, .int (r.getD (fpR c) 0), rfl, _, _, rfl, rfl, .ref b, rfl, b, c, p, _, rfl, Same.tup s1 hB, by omega, hp, by omega, by omega, fun H2 l2 s2 n2 e2 => ?_⟩
      refine ⟨a, l2, r, _, p, rfl, Same.tup (s1.trans s2) hA, .inl (.inl e2), by omega, hp, fun H3 l3 s3 n3 e3 => ?_⟩
      refine q H3 l3 ((s1.trans s2).trans s3) (.inl (.inl ?_))
      rw [less_eq] at e3
      exact e3
def sp_left (K : PySem.W.Frag) : Sp := fun vs H Q _ => ∃ (a b : Addr) (room : List (List Int)) (r : List Int) (p : Int) (n : Nat), vs = [.int p, .ref b, .ref a] ∧ RowsAt K H b room ∧ SqT K H a (r.map V.int) ∧ RowsOk p n room ∧ (∀ c ∈ room, fpR c < n) ∧ RowsOk p n [r] ∧ n ≤ 1000 ∧ 0 < p ∧ p ≤ 100000 ∧
  ∀ H' l, Same H H' → SqT K H' l ((leftR p room r).map V.int) → Q (.ref l) H'
theorem ok_left_of (T : Top K mg) : Ok P w K mg base 3 "left_of" ["p", "room", "row"] (sp_left K) := by
  have O_cleared := ok_cleared (P := P) (w := w) (base := base) T
  refine T.d_left_of.ok sc_left_of (fun vs H Q E h => ?_) (fun f cdv A outer s H vs Q E hr h => ?_)
  · obtain ⟨a, b, room, r, p, n, rfl, _⟩ := h
    rfl
  · obtain ⟨a, b, room, r, p, n, rfl, ⟨ws, hB, hR⟩, hA, ok, hfp, okr, hn, hp, hp2, q⟩ := h
    refine ⟨_, ((pss_cons (ps_for PassesOwn.never (by rfl) (pi_tup (pv 1)) (pg_name (i := 3) sc_left_of.nd rfl (.inl rfl))
        (pss_one (ps_set (i := 2) sc_left_of.nd rfl (.inl rfl) (pe_callO O_cleared (hr.mono (by omega)) (by rfl) (pa_cons (pv 0) (pa_cons (pv 3) (pa_cons (pv 2) pa_nil)))))))
      (pss_one (ps_ret (pv 2))))), ?_⟩
    have lw := rows_len hR
    refine ⟨.ref b, rfl, b, rfl, ⟨_, hB⟩, for_it (walk_tup (K := K) (a := b) (xs := ws)) (fun i σ H' => Same H H' ∧ ∃ (l : Addr) (y3 : Option V), SqT K H' l ((leftR p (room.take i) r).map V.int) ∧ σ = [some (.int p), some (.ref b), some (.ref l), y3]) ⟨Same.refl H, a, none, hA, rfl⟩ (fun i σ H' _ hW => Same.tup hW.1 hB) (fun i x σ H1 H2 hi hW hY => ?_) (fun σ H' hW => ?_)⟩
    · obtain ⟨sm, l, y3, hl, rfl⟩ := hW
      obtain ⟨rfl, e1⟩ := hY
      obtain ⟨c, rc, rfl, gr, mr, hc⟩ := dpAll_row (dpAll_same sm _ _ hR) e1
      have okc := ok rc mr
      refine ⟨.int p, rfl, .ref c, rfl, .ref l, rfl, l, c, leftR p (room.take i) r, rc, p, n, rfl, hl, hc, leftR_ok hp _ _ (fun x hx => ok x (List.mem_of_mem_take hx)) okr, okc.1, hfp rc mr, hn, hp, hp2, fun H3 l3 s3 h3 => ?_⟩
      refine ⟨sm.trans s3, l3, _, ?_, rfl⟩
      rw [leftR_take gr]
      exact h3
    · obtain ⟨sm, l, y3, hl, rfl⟩ := hW
      rw [List.take_of_length_le (by omega)] at hl
      exact ⟨.ref l, rfl, q H' l sm hl⟩
def sp_within (K : PySem.W.Frag) : Sp := fun vs H Q _ => ∃ (a b : Addr) (room : List (List Int)) (r : List Int) (p : Int) (n : Nat), vs = [.int p, .ref b, .ref a] ∧ RowsAt K H b room ∧ SqT K H a (r.map V.int) ∧ PFR p n room ∧ RowsOk p n [r] ∧ Fld p ∧ n ≤ 100 ∧ p ≤ 1000 ∧
  ∀ H', Same H H' → Q (.bl (hasR p n room r)) H'
theorem ok_within (T : Top K mg) : Ok P w K mg base 4 "within" ["p", "room", "row"] (sp_within K) := by
  have O_left_of := ok_left_of (P := P) (w := w) (base := base) T
  have O_is_noughts := ok_is_noughts (P := P) (w := w) (base := base) T
  refine T.d_within.ok sc_within (fun vs H Q E h => ?_) (fun f cdv A outer s H vs Q E hr h => ?_)
  · obtain ⟨a, b, room, r, p, n, rfl, _⟩ := h
    rfl
  · obtain ⟨a, b, room, r, p, n, rfl, hB, hA, pf, okr, hF, hn, hp, q⟩ := h
    have h2 := hF.1
    refine ⟨_, ((pss_one (ps_ret (pe_callO O_is_noughts (hr.mono (by omega)) (by rfl) (pa_cons (pe_callO O_left_of (hr.mono (by omega)) (by rfl) (pa_cons (pv 0) (pa_cons (pv 1) (pa_cons (pv 2) pa_nil)))) pa_nil))))), ?_⟩
    refine ⟨.int p, rfl, .ref b, rfl, .ref a, rfl, a, b, room, r, p, n, rfl, hB, hA, pf.1, pf.fp_lt hF, okr, by omega, by omega, by omega, fun H1 l s1 h1 => ?_⟩
    have okl := pf.left_ok hF okr _ List.mem_cons_self
    refine ⟨l, _, rfl, h1, by omega, fun H' s' => ?_⟩
    rw [hasR_iff hF pf okr]
    exact q H' (s1.trans s')
def sp_widened (K : PySem.W.Frag) : Sp := fun vs H Q _ => ∃ (a b : Addr) (room : List (List Int)) (r : List Int) (p : Int) (n : Nat), vs = [.int p, .ref b, .ref a] ∧ RowsAt K H b room ∧ SqT K H a (r.map V.int) ∧ PFR p n room ∧ RowsOk p n [r] ∧ Fld p ∧ 1 ≤ n ∧ n ≤ 100 ∧ p ≤ 1000 ∧
  ∀ H' l, Same H H' → RowsAt K H' l (plainR p n (room ++ [r])) → Q (.ref l) H'
theorem ok_widened (T : Top K mg) : Ok P w K mg base 4 "widened" ["p", "room", "row"] (sp_widened K) := by
  have O_left_of := ok_left_of (P := P) (w := w) (base := base) T
  have O_first_place := ok_first_place (P := P) (w := w) (base := base) T
  have O_times := ok_times (P := P) (w := w) (base := base) T
  have O_contrary := ok_contrary (P := P) (w := w) (base := base) T
  have O_cleared := ok_cleared (P := P) (w := w) (base := base) T
  refine T.d_widened.ok sc_widened (fun vs H Q E h => ?_) (fun f cdv A outer s H vs Q E hr h => ?_)
  · obtain ⟨a, b, room, r, p, n, rfl, _⟩ := h
    rfl
  · obtain ⟨a, b, room, r, p, n, rfl, hB, hA, pf, okr, hF, n1, hn, hp, q⟩ := h
    have h2 := hF.1
    have lroom : room.length ≤ n := by
      have := plainR_lenle hF pf.1
      rwa [pf.2] at this
    refine ⟨_, ((pss_cons (ps_set (i := 3) sc_widened.nd rfl (.inl rfl) (pe_callO O_left_of (hr.mono (by omega)) (by rfl) (pa_cons (pv 0) (pa_cons (pv 1) (pa_cons (pv 2) pa_nil)))))
      (pss_cons (ps_set (i := 4) sc_widened.nd rfl (.inl rfl) (pe_callO O_first_place (hr.mono (by omega)) (by rfl) (pa_cons (pv 3) pa_nil)))
      (pss_cons (ps_if (pt_cmpR op_isN (pv 4) pe_non (nomark _))
        (pss_one (ps_ret (pv 1)))
        pss_nil)
      (pss_cons (ps_set (i := 5) sc_widened.nd rfl (.inr rfl) (pe_callO O_times (hr.mono (by omega)) (by rfl) (pa_cons (pv 0) (pa_cons (pe_callO O_contrary (hr.mono (by omega)) (by rfl) (pa_cons (pv 0) (pa_cons (pe_ix ix_tup (pv 3) (pv 4) (fun _ _ => rfl)) pa_nil))) (pa_cons (pv 3) pa_nil)))))
      (pss_one (ps_ret (pe_callTy call_tuple_of (by rfl) T.b_tuple (by decide +kernel) (pa_cons (pe_callBK cr_sortTR (by rfl) T.b_sorted (by decide +kernel) (pa_cons (pe_op op_cat (pe_lst (pa_cons (pv 5) pa_nil)) (pe_lc (own := [("plain", 6)]) (g := gName 6) (by rfl) sc_widened.nd (pi_tup (pv 1)) (blkOk_by (own := [("plain", 6)]) (N := N_widened) (sc := defScope s_widened) (by decide +kernel)) (fun _ _ _ _ _ => (pg_name (i := 6) sc_widened.nd rfl (.inl rfl))) (fun _ _ _ _ _ => pts_nil) (fun _ _ _ _ _ => (pe_callO O_cleared (hr.mono (by omega)) (by rfl) (pa_cons (pv 0) (pa_cons (pv 5) (pa_cons (pv 6) pa_nil))))))) pa_nil) (pk_cons pe_bl pk_nil)) pa_nil))))))))), ?_⟩
    refine ⟨.int p, rfl, .ref b, rfl, .ref a, rfl, a, b, room, r, p, n, rfl, hB, hA, pf.1, pf.fp_lt hF, okr, by omega, by omega, by omega, fun H1 l s1 h1 => ?_⟩
    have okl := pf.left_ok hF okr _ List.mem_cons_self
    have wid := fun rs => pf.widen (rs := rs) hF okr
    have wid0 := pf.widen0 hF okr
    generalize hy : leftR p room r = y at h1 okl wid wid0
    refine ⟨.ref l, rfl, l, y, rfl, h1, by omega, fun hlt H2 s2 => ?_, fun e H2 s2 => ?_⟩
    · -- a fresh row
      refine ⟨.int (fpR y : Int), rfl, rfl, _, rfl, ?_⟩
      rw [decide_eq_false (fun z => by cases z)]
      refine iteF ?_
      rw [okl.1] at hlt
      have bj := rowOk_getD okl hlt
      have nz : y.getD (fpR y) 0 ≠ 0 := fpR_at (by rw [okl.1]; exact hlt)
      have hl2 := Same.tup s2 h1
      refine ⟨.int p, rfl, .int p, rfl, .ref l, rfl, .int (fpR y : Int), rfl, l, _, _, _, rfl, rfl, hl2, at_row (by rw [okl.1]; exact hlt), p, _, rfl, hF, hp, by omega, bj.2, .ref l, rfl, l, y, p, ctr p (y.getD (fpR y) 0), rfl, hl2, by omega, by omega, ?_, ?_, fun H3 l3 s3 n3 e3 => ?_⟩
      · have := (ctr_ok hF (show 1 ≤ y.getD (fpR y) 0 by omega) bj.2).1
        omega
      · have := (ctr_ok hF (show 1 ≤ y.getD (fpR y) 0 by omega) bj.2).2.1
        omega
      have e3 : H3 l3 = some (.tup ((ownR p y (fpR y)).map V.int)) := e3
      have okf := own_row (p := p) (by omega) okl.1 (fpR y)
      have wid := fun rs => wid rs hlt
      -- its first place
      have ff : fpR (ownR p y (fpR y)) = fpR y := by
        have hc := ctr_ok hF (show 1 ≤ y.getD (fpR y) 0 by omega) bj.2
        have gd : ∀ i, i < n → (ownR p y (fpR y)).getD i 0 = ctr p (y.getD (fpR y) 0) * y.getD i 0 % p := fun i hi => by
          unfold ownR
          rw [gd_lt (by rw [List.length_map, okl.1]; exact hi), List.getElem_map, gd_lt (r := y) (i := i) (by rw [okl.1]; exact hi)]
        refine fpR_of ?_ fun i hi => ?_
        · rw [gd _ hlt, Int.mul_comm, hc.2.2]
          decide
        · rw [gd _ (by omega), fpR_low hi, Int.mul_zero, Int.zero_emod]
      generalize ownR p y (fpR y) = fr at e3 okf wid ff
      refine ⟨.ref l3, rfl, sz1000 (by decide : (1 : Nat) ≤ 1000), fun L nL => ?_⟩
      generalize h4 : upd H3 L _ = H4
      obtain ⟨s4, e4⟩ := new_of h4 nL
      have t14 : Same H H4 := ((s1.trans s2).trans s3).trans s4
      obtain ⟨ws, hB4, hR4⟩ := RowsAt.same t14 hB
      have lw := rows_len hR4
      have hf4 : SqT K H4 l3 (fr.map V.int) := .inl (.inl (s4 _ _ e3))
      refine ⟨.ref b, rfl, b, rfl, ⟨_, hB4⟩, lc_mapR (fun d => rowD (lessR p (intsOf d) fr (fpR fr))) (walk_tup (K := K) (a := b) (xs := ws)) (fun H' s => Same.tup s hB4) (rep_rows hR4) (by omega) (fun _ => rfl) (fun v d H' Q' md rv sm hQ => ?_) (fun D H5 vs5 s5 n5 e5 r5 => ?_)⟩
      · obtain ⟨x, mx, rfl⟩ := List.mem_map.mp md
        obtain ⟨c, rfl, hc⟩ := rep_row rv
        rw [ints_row] at hQ
        refine ⟨.int p, rfl, .ref l3, rfl, .ref c, rfl, c, l3, x, fr, p, n, rfl, hc, Same.tup sm hf4, rowsOk_one (pf.1 x mx), okf.1, by omega, by omega, by omega, by omega, fun H'' l'' s'' h'' => hQ (.ref l'') H'' s'' (row_rep h'')⟩
      have em : (room.map rowD).map (fun d => rowD (lessR p (intsOf d) fr (fpR fr))) = (room.map fun x => lessR p x fr (fpR y)).map rowD := by
        rw [List.map_map, List.map_map]
        apply List.map_congr_left
        intro x _
        show rowD (lessR p (intsOf (rowD x)) fr (fpR fr)) = rowD (lessR p x fr (fpR y))
        rw [ints_row, ff]
      rw [em] at r5
      have d5 := rows_rep r5
      have lv5 : vs5.length = room.length := by
        have := rows_len d5
        rwa [List.length_map] at this
      have e45 := s5 _ _ e4
      refine ⟨L, D, _, _, rfl, rfl, e45, e5, sz1000 (by simp; omega), fun C nC => ?_⟩
      generalize h6 : upd H5 C _ = H6
      obtain ⟨s6, e6⟩ := new_of h6 nC
      have t46 : Same H4 H6 := s5.trans s6
      have hf6 := Same.tup t46 hf4
      have d6 : DpAll K H6 ([V.ref l3] ++ vs5) ((fr :: room.map fun x => lessR p x fr (fpR y)).map rowD) := .cons (row_dp hf6) (dpAll_same s6 _ _ d5)
      have okL : RowsOk p n (fr :: room.map fun x => lessR p x fr (fpR y)) := fun x hx => by
        rcases List.mem_cons.mp hx with rfl | hx
        · exact okf
        · obtain ⟨z, hz, rfl⟩ := List.mem_map.mp hx
          exact less_row (by omega) (pf.1 z hz).1 okf.1 _
      refine ⟨C, _, n, p, rfl, rfl, n1, .inl (.inl e6), fun x hx => ?_, fun ys S pm pw nS => ?_⟩
      · obtain ⟨i, hi, rfl⟩ := List.getElem_of_mem hx
        obtain ⟨c, rc, ec, gr, mr, hc⟩ := dpAll_row d6 (List.getElem?_eq_getElem hi)
        exact ⟨rc, ⟨c, ec, hc⟩, (okL rc mr).1, (okL rc mr).2⟩
      generalize h7 : upd H6 S _ = H7
      obtain ⟨s7, e7⟩ := new_of h7 nS
      obtain ⟨rs', pm', d'⟩ := dpAll_perm pm d6
      have pw' := dpAll_pw d' pw
      have er := wid rs' pm' pw'
      refine ⟨S, ys, rfl, .inl ⟨.inl (.inl e7), fun R nR => ?_⟩⟩
      generalize h8 : upd H7 R _ = H8
      obtain ⟨s8, e8⟩ := new_of h8 nR
      refine q H8 R (((t14.trans t46).trans s7).trans s8) ⟨ys, .inl (.inl e8), ?_⟩
      rw [← er]
      exact dpAll_same (s7.trans s8) _ _ d'
    · -- nothing new
      refine ⟨.non, rfl, rfl, _, rfl, ?_⟩
      rw [decide_eq_true rfl]
      refine iteT ⟨.ref b, rfl, q H2 b (s1.trans s2) ?_⟩
      rw [← wid0 (fpR_all e)]
      exact RowsAt.same (s1.trans s2) hB
def sp_room_of (K : PySem.W.Frag) : Sp := fun vs H Q _ => ∃ (a : Addr) (rs : List (List Int)) (p : Int) (n : Nat), vs = [.int p, .int (n : Int), .ref a] ∧ RowsAt K H a rs ∧ RowsOk p n rs ∧ Fld p ∧ 1 ≤ n ∧ n ≤ 100 ∧ p ≤ 1000 ∧
  ∀ H' l, Same H H' → RowsAt K H' l (plainR p n rs) → Q (.ref l) H'
theorem ok_room_of (T : Top K mg) : Ok P w K mg base 5 "room_of" ["p", "n", "rows"] (sp_room_of K) := by
  have O_widened := ok_widened (P := P) (w := w) (base := base) T
  refine T.d_room_of.ok sc_room_of (fun vs H Q E h => ?_) (fun f cdv A outer s H vs Q E hr h => ?_)
  · obtain ⟨a, rs, p, n, rfl, _⟩ := h
    rfl
  · obtain ⟨a, rs, p, n, rfl, ⟨ws, hA, hR⟩, ok, hF, n1, hn, hp, q⟩ := h
    refine ⟨_, ((pss_cons (ps_set (i := 3) sc_room_of.nd rfl (.inl rfl) (pe_tup pa_nil))
      (pss_cons (ps_for PassesOwn.never (by rfl) (pi_tup (pv 2)) (pg_name (i := 4) sc_room_of.nd rfl (.inl rfl))
        (pss_cons (ps_if (pt_cmpR op_eq (pe_callB call_len_seq (by rfl) T.b_len (by decide +kernel) (pa_cons (pv 3) pa_nil)) (pv 1) (nomark _))
          (pss_one (ps_ret (pv 3)))
          pss_nil)
        (pss_one (ps_set (i := 3) sc_room_of.nd rfl (.inl rfl) (pe_callO O_widened (hr.mono (by omega)) (by rfl) (pa_cons (pv 0) (pa_cons (pv 3) (pa_cons (pv 4) pa_nil))))))))
      (pss_one (ps_ret (pv 3)))))), ?_⟩
    have lw := rows_len hR
    refine ⟨Nat.zero_le _, fun z nz => ?_⟩
    generalize h1 : upd H z _ = H1
    obtain ⟨s1, e1⟩ := new_of h1 nz
    have hA1 := Same.tup s1 hA
    refine ⟨.ref a, rfl, a, rfl, ⟨_, hA1⟩, for_it (walk_tup (K := K) (a := a) (xs := ws)) (fun i σ H' => Same H H' ∧ ∃ (b : Addr) (y4 : Option V), RowsAt K H' b (plainR p n (rs.take i)) ∧ σ = [some (.int p), some (.int (n : Int)), some (.ref a), some (.ref b), y4]) ⟨s1, z, none, ⟨[], .inl (.inl e1), ?_⟩, rfl⟩ (fun i σ H' _ hW => Same.tup hW.1 hA) (fun i x σ H2 H3 hi hW hY => ?_) (fun σ H' hW => ?_)⟩
    · rw [List.take_zero, plainR_nil]
      exact .nil
    · obtain ⟨sm, b, y4, hb, rfl⟩ := hW
      obtain ⟨rfl, e1⟩ := hY
      obtain ⟨c, r, rfl, gr, mr, hc⟩ := dpAll_row (dpAll_same sm _ _ hR) e1
      have okt : RowsOk p n (rs.take i) := fun x hx => ok x (List.mem_of_mem_take hx)
      have okr : RowsOk p n [r] := rowsOk_one (ok r mr)
      have pf := PFR.of_plain hF okt
      have eapp : rs.take (i + 1) = rs.take i ++ [r] := by
        rw [List.take_add_one, gr]
        rfl
      obtain ⟨wb, hb1, hb2⟩ := id hb
      have lb := rows_len hb2
      refine ⟨.ref b, rfl, b, wb, rfl, .inr hb1, .int n, rfl, rfl, _, rfl, ite2 (fun e => ?_) (fun e => ?_)⟩
      · have e : wb.length = n := by
          have := V.int.inj (of_decide_eq_true e)
          omega
        refine ⟨.ref b, rfl, q _ b sm ?_⟩
        have ef : plainR p n rs = plainR p n (rs.take i) := by
          have := plain_full hF okt (show RowsOk p n (rs.drop i) from fun x hx => ok x (List.mem_of_mem_drop hx)) (by omega)
          rwa [List.take_append_drop] at this
        rw [ef]
        exact hb
      · refine ⟨.int p, rfl, .ref b, rfl, .ref c, rfl, c, b, plainR p n (rs.take i), r, p, n, rfl, hb, hc, pf, okr, hF, n1, hn, hp, fun H4 l s4 h4 => ?_⟩
        refine ⟨sm.trans s4, l, _, ?_, rfl⟩
        rw [eapp, ← plainR_app hF okt okr]
        exact h4
    · obtain ⟨sm, b, y4, hb, rfl⟩ := hW
      rw [List.take_of_length_le (by omega)] at hb
      exact ⟨.ref b, rfl, q H' b sm hb⟩
theorem rep_flat (n : Nat) (z : Int) : (List.replicate n [V.int z]).flatten = (List.replicate n z).map V.int := by
  induction n with
  | zero => rfl
  | succ n ih =>
    rw [List.replicate_succ, List.flatten_cons, ih]
    rfl
def sp_across_at (K : PySem.W.Frag) : Sp := fun vs H Q _ => ∃ (a : Addr) (room : List (List Int)) (p : Int) (n j : Nat), vs = [.int p, .int (n : Int), .ref a, .int (j : Int)] ∧ RowsAt K H a room ∧ RowsOk p n room ∧ (∀ c ∈ room, fpR c < n) ∧ j < n ∧ n ≤ 1000 ∧ 2 ≤ p ∧
  ∀ H' l, Same H H' → H' l = some (.tup ((crossR p n room j).map V.int)) → Q (.ref l) H'
theorem ok_across_at (T : Top K mg) : Ok P w K mg base 2 "across_at" ["p", "n", "room", "at"] (sp_across_at K) := by
  have O_first_place := ok_first_place (P := P) (w := w) (base := base) T
  refine T.d_across_at.ok sc_across_at (fun vs H Q E h => ?_) (fun f cdv A outer s H vs Q E hr h => ?_)
  · obtain ⟨a, room, p, n, j, rfl, _⟩ := h
    rfl
  · obtain ⟨a, room, p, n, j, rfl, ⟨ws, hA, hR⟩, ok, hfp, hj, hn, hp, q⟩ := h
    refine ⟨_, ((pss_cons (ps_set (i := 4) sc_across_at.nd rfl (.inl rfl) (pe_op op_rep (pe_lst (pa_cons pe_int pa_nil)) (pv 1)))
      (pss_cons (ps_asg pe_int (pg_sub (pv 4) (pv 3) set_list))
      (pss_cons (ps_for PassesOwn.never (by rfl) (pi_tup (pv 2)) (pg_name (i := 5) sc_across_at.nd rfl (.inl rfl))
        (pss_one (ps_asg (pe_op op_mod (pe_un un_neg (pe_ix ix_tup (pv 5) (pv 3) (fun _ _ => rfl))) (pv 0)) (pg_sub (pv 4) (pe_callO O_first_place (hr.mono (by omega)) (by rfl) (pa_cons (pv 5) pa_nil)) set_list))))
      (pss_one (ps_ret (pe_callTy call_tuple_of (by rfl) T.b_tuple (by decide +kernel) (pa_cons (pv 4) pa_nil)))))))), ?_⟩
    have lw := rows_len hR
    refine ⟨sz1000 (by decide : (1 : Nat) ≤ 1000), fun z nz => ?_⟩
    generalize h1 : upd H z _ = H1
    obtain ⟨s1, e1⟩ := new_of h1 nz
    refine ⟨.int n, rfl, z, n, _, rfl, rfl, e1, by omega, by omega, sz1000 (by show 1 * ((n : Int)).toNat ≤ 1000; omega), fun o no => ?_⟩
    rw [show ((n : Int)).toNat = n from rfl, rep_flat]
    generalize h2 : upd H1 o _ = H2
    obtain ⟨s2, e2⟩ := new_of h2 no
    have noH : H o = none := s1.free no
    have s12 := s1.trans s2
    refine ⟨.ref o, rfl, .int j, rfl, o, _, j, j, rfl, rfl, e2, ?_, ?_⟩
    · rw [List.length_map, List.length_replicate]
      exact ix_nat (by omega) (by omega)
    rw [show (V.int 1) = V.int (1 : Int) from rfl, ← List.map_set]
    have s3 : Same H (upd H2 o (.lst (((List.replicate n (0 : Int)).set j 1).map V.int))) := same_mut s12 noH
    generalize h3 : upd H2 o (.lst (((List.replicate n (0 : Int)).set j 1).map V.int)) = H3 at s3
    have e3 : H3 o = some (.lst (((List.replicate n (0 : Int)).set j 1).map V.int)) := by rw [← h3]; exact upd_same
    refine ⟨.ref a, rfl, a, rfl, ⟨_, Same.tup s3 hA⟩, for_it (walk_tup (K := K) (a := a) (xs := ws)) (fun i σ H' => Same H H' ∧ H' o = some (.lst ((crossF p (room.take i) j ((List.replicate n 0).set j 1)).map V.int)) ∧ ∃ y5 : Option V, σ = [some (.int p), some (.int (n : Int)), some (.ref a), some (.int (j : Int)), some (.ref o), y5]) ⟨s3, e3, none, rfl⟩ (fun i σ H' _ hW => Same.tup hW.1 hA) (fun i x σ H4 H5 hi hW hY => ?_) (fun σ H' hW => ?_)⟩
    · obtain ⟨sm, eo, y5, rfl⟩ := hW
      obtain ⟨rfl, e1⟩ := hY
      obtain ⟨c, r, rfl, gr, mr, hc⟩ := dpAll_row (dpAll_same sm _ _ hR) e1
      have okr := ok r mr
      have hf := hfp r mr
      refine ⟨.ref c, rfl, .int j, rfl, c, _, _, _, rfl, rfl, hc, at_row (by rw [okr.1]; exact hj), r.getD j 0, rfl, .int p, rfl, _, p, rfl, rfl, by omega, ?_⟩
      refine ⟨.ref o, rfl, .ref c, rfl, c, r, rfl, hc, by omega, fun hlt H6 s6 => ?_, fun e => by omega⟩
      refine ⟨o, _, fpR r, fpR r, rfl, rfl, s6 _ _ eo, ?_, same_mut (sm.trans s6) noH, ?_, _, rfl⟩
      · rw [List.length_map, crossF_len, List.length_set, List.length_replicate]
        exact ix_nat (by omega) (by omega)
      · rw [upd_same, ← List.map_set, crossF_take gr]
    · obtain ⟨sm, eo, y5, rfl⟩ := hW
      rw [List.take_of_length_le (by omega)] at eo
      refine ⟨.ref o, rfl, o, _, rfl, .inl ⟨.inl (.inl eo), fun l nl => ?_⟩⟩
      generalize h5 : upd H' l _ = H5
      obtain ⟨s5, e5⟩ := new_of h5 nl
      exact q H5 l (sm.trans s5) e5
def sp_across (K : PySem.W.Frag) : Sp := fun vs H Q _ => ∃ (a : Addr) (room : List (List Int)) (p : Int) (n : Nat), vs = [.int p, .int (n : Int), .ref a] ∧ RowsAt K H a room ∧ PFR p n room ∧ Fld p ∧ 1 ≤ n ∧ n ≤ 100 ∧ p ≤ 1000 ∧
  ∀ H' l, Same H H' → RowsAt K H' l (acrossR p n room) → Q (.ref l) H'
theorem range_filter_succ (q : Nat → Bool) (k : Nat) : (List.range (k + 1)).filter q = (List.range k).filter q ++ (if q k = true then [k] else []) := by
  rw [List.range_succ, List.filter_append]
  congr 1
  by_cases h : q k = true
  · simp [h]
  · simp [h]
theorem ok_across (T : Top K mg) : Ok P w K mg base 6 "across" ["p", "n", "room"] (sp_across K) := by
  have O_first_place := ok_first_place (P := P) (w := w) (base := base) T
  have O_across_at := ok_across_at (P := P) (w := w) (base := base) T
  have O_room_of := ok_room_of (P := P) (w := w) (base := base) T
  refine T.d_across.ok sc_across (fun vs H Q E h => ?_) (fun f cdv A outer s H vs Q E hr h => ?_)
  · obtain ⟨a, room, p, n, rfl, _⟩ := h
    rfl
  · obtain ⟨a, room, p, n, rfl, ⟨ws, hA, hR⟩, pf, hF, n1, hn, hp, q⟩ := h
    have h2 := hF.1
    refine ⟨_, ((pss_cons (ps_set (i := 4) sc_across.nd rfl (.inr rfl) (pe_lc (own := [("plain", 3)]) (g := gName 3) (by rfl) sc_across.nd (pi_tup (pv 2)) (blkOk_by (own := [("plain", 3)]) (N := N_across) (sc := defScope s_across) (by decide +kernel)) (fun _ _ _ _ _ => (pg_name (i := 3) sc_across.nd rfl (.inl rfl))) (fun _ _ _ _ _ => pts_nil) (fun _ _ _ _ _ => (pe_callO O_first_place (hr.mono (by omega)) (by rfl) (pa_cons (pv 3) pa_nil)))))
      (pss_one (ps_ret (pe_callO O_room_of (hr.mono (by omega)) (by rfl) (pa_cons (pv 0) (pa_cons (pv 1) (pa_cons (pe_callTy call_tuple_of (by rfl) T.b_tuple (by decide +kernel) (pa_cons (pe_lc (own := [("at", 5)]) (g := gName 5) (by rfl) sc_across.nd (pi_range1 (by rfl) T.b_range (pa_cons (pv 1) pa_nil)) (blkOk_by (own := [("at", 5)]) (N := N_across) (sc := defScope s_across) (by decide +kernel)) (fun _ _ _ _ _ => (pg_name (i := 5) sc_across.nd rfl (.inl rfl))) (fun _ _ _ _ _ => (pts_one (pt_cmpR (show OpR _ (compareOp .NotIn) (rIn K true) from op_notIn_seq) (pv 5) (pv 4) (by rfl)))) (fun _ _ _ _ _ => (pe_callO O_across_at (hr.mono (by omega)) (by rfl) (pa_cons (pv 0) (pa_cons (pv 1) (pa_cons (pv 2) (pa_cons (pv 5) pa_nil))))))) pa_nil)) pa_nil)))))))), ?_⟩
    have lw := rows_len hR
    have lrm : room.length ≤ n := by
      have := plainR_lenle hF pf.1
      rwa [pf.2] at this
    have fp := pf.fp_lt hF
    refine ⟨.ref a, rfl, a, rfl, ⟨_, hA⟩, lc_valR (fun d => V.int (fpR (intsOf d) : Int)) (walk_tup (K := K) (a := a) (xs := ws)) (fun H' s => Same.tup s hA) (rep_rows hR) (by omega) (fun _ => rfl) (fun v d H' Q' md rv sm hQ => ?_) (fun F1 H1 s1 nF eF => ?_)⟩
    · obtain ⟨r, mr, rfl⟩ := List.mem_map.mp md
      obtain ⟨c, rfl, hc⟩ := rep_row rv
      rw [ints_row] at hQ
      have okr := pf.1 r mr
      exact ⟨.ref c, rfl, c, r, rfl, hc, by omega, fun _ H'' s'' => hQ H'' s'', fun e => by have := fp r mr; omega⟩
    have eF : H1 F1 = some (.lst ((room.map fun r => (fpR r : Int)).map V.int)) := by
      rw [List.map_map] at eF
      rw [List.map_map, eF]
      congr 2
      apply List.map_congr_left
      intro r _
      show V.int (fpR (intsOf (rowD r)) : Int) = V.int (fpR r : Int)
      rw [ints_row]
    refine ⟨.int p, rfl, .int n, rfl, .int n, rfl, n, rfl, by omega, by omega, fun D nD => ?_⟩
    have hA1 := Same.tup s1 hA
    refine lc_it (walk_range (lo := 0) (n := n)) (fun k H' => Same H1 H' ∧ ∃ vs' : List V, H' D = some (.lst vs') ∧ vs'.length ≤ k ∧ DpAll K H' vs' ((((List.range k).filter fun j => !decide (j ∈ room.map fpR)).map (crossR p n room)).map rowD)) ⟨same_upd nD, [], upd_same, Nat.le_refl _, .nil⟩ (fun _ _ _ _ => True.intro) (fun k x H2 H3 hk hP hY => ?_) (fun H' hP => ?_)
    · obtain ⟨rfl, rfl⟩ := hY
      obtain ⟨sm, vs', eD, lv, dv⟩ := hP
      refine ⟨rfl, .int (0 + k), rfl, .ref F1, rfl, F1, _, rfl, .inl (.inl (.inl (sm _ _ eF))), rfl, ?_, _, rfl, ?_⟩
      · rw [List.all_map]
        exact List.all_eq_true.mpr fun _ _ => rfl
      rw [in_ints]
      have ed : decide ((0 : Int) + (k : Int) ∈ room.map fun r => (fpR r : Int)) = decide (k ∈ room.map fpR) := by
        refine decide_eq_decide.mpr ?_
        rw [List.mem_map, List.mem_map]
        constructor
        · rintro ⟨r, hr, e⟩
          exact ⟨r, hr, by omega⟩
        · rintro ⟨r, hr, e⟩
          exact ⟨r, hr, by omega⟩
      rw [ed]
      have tkr := range_filter_succ (fun j => !decide (j ∈ room.map fpR)) k
      by_cases hin : k ∈ room.map fpR
      · rw [decide_eq_true hin] at tkr ⊢
        refine iteF ⟨sm, vs', eD, by omega, ?_⟩
        rw [tkr, if_neg (by decide), List.append_nil]
        exact dv
      · rw [decide_eq_false hin] at tkr ⊢
        refine iteT ⟨.int p, rfl, .int n, rfl, .ref a, rfl, .int (0 + k), rfl, a, room, p, n, k, by rw [Int.zero_add]; rfl, ⟨ws, Same.tup sm hA1, dpAll_same (s1.trans sm) _ _ hR⟩, pf.1, fp, hk, by omega, by omega, fun H4 l s4 e4 => ?_⟩
        have eD4 := s4 _ _ eD
        have tk : Tk H4 (upd H4 D (.lst (vs' ++ [.ref l]))) := Tk.mut (Tk.refl H4) eD4
        refine ⟨vs', eD4, small1000 (by omega), same_mut (sm.trans s4) nD, vs' ++ [.ref l], upd_same, by rw [List.length_append]; simp; omega, ?_⟩
        rw [tkr, if_pos (by decide), List.map_append, List.map_append]
        exact dpAll_append (dpAll_tk tk _ _ (noL_rows _) (dpAll_same s4 _ _ dv)) (.cons (row_dp (tk K _ _ (.inl (.inl e4)))) .nil)
    · obtain ⟨sm, vs', eD, lv, dv⟩ := hP
      refine ⟨D, vs', rfl, .inl ⟨.inl (.inl eD), fun l nl => ?_⟩⟩
      generalize h5 : upd H' l _ = H5
      obtain ⟨s5, e5⟩ := new_of h5 nl
      refine ⟨l, (freesR n room).map (crossR p n room), p, n, rfl, ⟨vs', .inl (.inl e5), dpAll_same s5 _ _ dv⟩, free_rows h2 n room, hF, n1, hn, hp, fun H6 l6 s6 h6 => ?_⟩
      exact q H6 l6 (((s1.trans sm).trans s5).trans s6) h6
def sp_deck (K : PySem.W.Frag) : Sp := fun vs H Q _ => ∃ (a : Addr) (ns : List Int), vs = [.ref a] ∧ SqL K H a (ns.map V.int) ∧ ns.length ≤ 63 ∧ ∀ H' d c, Same H H' → Deck H' d c 0 → H d = none → H c = none → Q (.ref d) H'
theorem ok__law_deck (T : Top K mg) : Ok P w K mg base 1 "_law_deck" ["_law_script"] (sp_deck K) := by
  refine T.d__law_deck.ok sc__law_deck (fun vs H Q E h => ?_) (fun f cdv A outer s H vs Q E hr h => ?_)
  · obtain ⟨a, ns, rfl, _⟩ := h
    rfl
  · obtain ⟨a, ns, rfl, hS, hl, q⟩ := h
    refine ⟨_, ((pss_one (ps_ret (pe_lst (pa_cons (pe_lc (own := [("_law_cell", 1)]) (g := gName 1) (by rfl) sc__law_deck.nd (pi_list (pe_slice sl_list (pv 0) po_none (po_some pe_int))) (blkOk_by (own := [("_law_cell", 1)]) (N := N__law_deck) (sc := defScope s__law_deck) (by decide +kernel)) (fun _ _ _ _ _ => (pg_name (i := 1) sc__law_deck.nd rfl (.inl rfl))) (fun _ _ _ _ _ => pts_nil) (fun _ _ _ _ _ => (pe_callB call_abs (by rfl) T.b_abs (by decide +kernel) (pa_cons (pv 1) pa_nil)))) (pa_cons pe_int pa_nil)))))), ?_⟩
    refine ⟨.ref a, rfl, 63, rfl, a, ns.map V.int, rfl, hS, fun l nl => ?_⟩
    have ec : cutV (ns.map V.int) none (some 63) = ns.map V.int := by
      unfold cutV
      rw [HT.sIx_none, show HT.sIx (ns.map V.int).length (ns.map V.int).length (some 63) = min 63 (ns.map V.int).length from HT.sIx_nat _ _ 63]
      rw [List.drop_zero]
      exact List.take_of_length_le (by rw [List.length_map]; omega)
    rw [ec]
    have s1 : Same H (upd H l (.lst (ns.map V.int))) := same_upd nl
    refine ⟨l, rfl, ⟨_, .inl (.inl upd_same)⟩, fun D nD => ?_⟩
    have nl' : H D = none := s1.free nD
    have nDl : l ≠ D := ne_of_none upd_same nD
    refine lc_list (xs := ns.map V.int) (fun i H' => Same H H' ∧ H' l = some (.lst (ns.map V.int)) ∧ H' D = some (.lst ((ns.take i).map fun x => V.int (if x < 0 then -x else x)))) ⟨same_mut s1 nl', ?_, ?_⟩ (fun i H' _ hP => .inl (.inl hP.2.1)) (fun i x H' hx hP => ?_) (fun H' hP => ?_)
    · rw [upd_ne nDl, upd_same]
    · rw [upd_same]; rfl
    · obtain ⟨sm, e1, e2⟩ := hP
      rw [List.getElem?_map] at hx
      cases hn : ns[i]? with
      | none => rw [hn] at hx; cases hx
      | some z =>
        rw [hn] at hx
        have ez : x = V.int z := (Option.some.inj hx).symm
        subst ez
        refine ⟨rfl, .int z, rfl, z, rfl, _, e2, ?_, same_mut sm nl', ?_, ?_⟩
        · rw [List.length_map, List.length_take]
          exact Nat.lt_of_le_of_lt (Nat.min_le_right _ _) (small1000 (by omega))
        · rw [upd_ne nDl]; exact e1
        · rw [upd_same, List.take_add_one, hn, List.map_append]
          rfl
    · obtain ⟨sm, e1, e2⟩ := hP
      rw [List.length_map, List.take_length] at e2
      refine ⟨(by show 2 ≤ sizeLine; decide), fun p np => ?_⟩
      have sp : Same H' (upd H' p (.lst [.ref D, .int 0])) := same_upd np
      refine q _ p D (sm.trans sp) ⟨upd_same, ⟨ns.map fun x => if x < 0 then -x else x, ?_, fun x hx => ?_, by rw [List.length_map]; exact hl⟩, fun z => ?_, by decide⟩ (sm.free np) nl'
      · rw [sp _ _ e2, List.map_map]
        rfl
      · obtain ⟨y, _, rfl⟩ := List.mem_map.mp hx
        by_cases hy : y < 0
        · rw [if_pos hy]; omega
        · rw [if_neg hy]; omega
      · subst z
        rw [e2] at np
        cases np
theorem wide_m {m : Int} (h0 : 0 < m) (h1 : m < 100000000000000000000) : m.natAbs.log2 < 9000 := by
  have e : (2 : Nat) ^ 67 = 147573952589676412928 := by decide
  have := PySem.Flt.log2_lt_of (k := 67) (n := m.natAbs) (by decide) (by rw [e]; omega)
  omega
def sp_draw : Sp := fun vs H Q _ => ∃ (d c : Addr) (t m : Int), vs = [.ref d, .int m] ∧ Deck H d c t ∧ t < 1000000 ∧ 0 < m ∧ m < 100000000000000000000 ∧ ∀ H' r, Kept d c H H' → Deck H' d c (t + 1) → 0 ≤ r → r < m → Q (.int r) H'
theorem ok__law_draw (T : Top K mg) : Ok P w K mg base 1 "_law_draw" ["_law_deck_here", "_law_many"] sp_draw := by
  refine T.d__law_draw.ok sc__law_draw (fun vs H Q E h => ?_) (fun f cdv A outer s H vs Q E hr h => ?_)
  · obtain ⟨d, c, t, m, rfl, _⟩ := h
    rfl
  · obtain ⟨d, c, t, m, rfl, ⟨hd, ⟨cells, hc, hp, hl⟩, hne, ht0⟩, ht, hm0, hm1, q⟩ := h
    refine ⟨_, ((pss_cons (ps_asg (pe_op op_add (pe_ix ix_list (pv 0) pe_int (fun _ _ => rfl)) pe_int) (pg_sub (pv 0) pe_int set_list))
      (pss_cons (ps_set (i := 2) sc__law_draw.nd rfl (.inl rfl) pe_int)
      (pss_cons (ps_set (i := 3) sc__law_draw.nd rfl (.inl rfl) (pe_un un_neg pe_int))
      (pss_cons (ps_if (pt_cmpR op_gt (pe_callB call_len_seq (by rfl) T.b_len (by decide +kernel) (pa_cons (pe_ix ix_list (pv 0) pe_int (fun _ _ => rfl)) pa_nil)) pe_int (nomark _))
        (pss_cons (ps_set (i := 3) sc__law_draw.nd rfl (.inl rfl) (pe_op op_mod (pe_ix ix_list (pv 0) pe_int (fun _ _ => rfl)) (pe_callB call_len_seq (by rfl) T.b_len (by decide +kernel) (pa_cons (pe_ix ix_list (pv 0) pe_int (fun _ _ => rfl)) pa_nil))))
        (pss_one (ps_set (i := 2) sc__law_draw.nd rfl (.inl rfl) (pe_ix ix_list (pe_ix ix_list (pv 0) pe_int (fun _ _ => rfl)) (pv 3) (fun _ _ => rfl)))))
        pss_nil)
      (pss_cons (ps_if (pt_cmpR op_ge (pv 2) (pe_op op_pow pe_int pe_int) (nomark _))
        (pss_cons (ps_asg (pe_op op_fdivW (pv 2) (pv 1)) (pg_sub (pe_ix ix_list (pv 0) pe_int (fun _ _ => rfl)) (pv 3) set_list))
        (pss_one (ps_ret (pe_op op_mod (pv 2) (pv 1)))))
        pss_nil)
      (pss_one (ps_ret (pe_op op_mod (pe_op op_mod (pe_op op_pow (pe_op op_add (pe_op op_add (pe_op op_mod (pv 2) pe_int) (pe_op op_mul pe_int (pe_ix ix_list (pv 0) pe_int (fun _ _ => rfl)))) pe_int) pe_int) pe_int) (pv 1)))))))))), ?_⟩
    refine ⟨.ref d, rfl, d, _, 1, .int t, rfl, rfl, .inl (.inl hd), rfl, t, 1, rfl, rfl, .ref d, rfl, d, _, 1, 1, rfl, rfl, hd, rfl, ?_⟩
    have hd1 : (upd H d (.lst ([V.ref c, .int t].set 1 (.int (t + 1))))) d = some (.lst [.ref c, .int (t + 1)]) := upd_same
    have hc1 : (upd H d (.lst ([V.ref c, .int t].set 1 (.int (t + 1))))) c = some (.lst (cells.map V.int)) := by
      rw [upd_ne hne]; exact hc
    have k1 : Kept d c H (upd H d (.lst ([V.ref c, .int t].set 1 (.int (t + 1))))) := fun b o h n _ => by
      rw [upd_ne n]; exact h
    generalize upd H d (.lst ([V.ref c, .int t].set 1 (.int (t + 1)))) = H1 at hd1 hc1 k1 ⊢
    have D1 : Deck H1 d c (t + 1) := ⟨hd1, ⟨cells, hc1, hp, hl⟩, hne, by omega⟩
    refine ⟨1, rfl, .ref d, rfl, d, _, 0, .ref c, rfl, rfl, .inl (.inl hd1), rfl, c, _, rfl, .inl (.inl (.inl hc1)), _, 0, rfl, rfl, _, rfl, ite2 (fun e => ?_) (fun e => ?_)⟩
    · have e0 : (0 : Int) < ((cells.map V.int).length : Int) := of_decide_eq_true e
      rw [List.length_map] at e0
      have z0 : 0 ≤ (t + 1) % (cells.length : Int) := Int.emod_nonneg _ (by omega)
      have z1 : (t + 1) % (cells.length : Int) < (cells.length : Int) := Int.emod_lt_of_pos _ e0
      obtain ⟨x, hx, hx2, hx3⟩ := at_int z0 z1
      have x0 := hp x hx
      refine ⟨.ref d, rfl, d, _, 1, .int (t + 1), rfl, rfl, .inl (.inl hd1), rfl, .ref d, rfl, d, _, 0, .ref c, rfl, rfl, .inl (.inl hd1), rfl, c, _, rfl, .inl (.inl (.inl hc1)), t + 1, (cells.length : Int), rfl, by rw [List.length_map], e0, ?_⟩
      refine ⟨.ref d, rfl, d, _, 0, .ref c, rfl, rfl, .inl (.inl hd1), rfl, .int ((t + 1) % (cells.length : Int)), rfl, c, _, _, .int x, rfl, rfl, .inl (.inl hc1), hx3, ?_⟩
      refine ⟨.int x, rfl, 10, 18, rfl, rfl, ⟨by decide, by decide, by decide⟩, _, _, rfl, rfl, _, rfl, ite2 (fun e => ?_) (fun e => ?_)⟩
      · refine ⟨.int x, rfl, .int m, rfl, x, m, rfl, rfl, ⟨hm0, wide_m hm0 hm1⟩, .ref d, rfl, d, _, 0, .ref c, rfl, rfl, .inl (.inl hd1), rfl, .int ((t + 1) % (cells.length : Int)), rfl, c, _, _, _, rfl, rfl, hc1, ix_nat z0 (by rw [List.length_map]; exact z1), ?_⟩
        refine ⟨.int x, rfl, .int m, rfl, x, m, rfl, rfl, hm0, q _ _ (k1.trans fun b o h _ n => ?_) ⟨?_, ⟨cells.set ((t + 1) % (cells.length : Int)).toNat (x / m), ?_, fun y hy => ?_, ?_⟩, hne, by omega⟩ (Int.emod_nonneg _ (by omega)) (Int.emod_lt_of_pos _ hm0)⟩
        · rw [upd_ne n]; exact h
        · rw [upd_ne (Ne.symm hne)]; exact hd1
        · rw [upd_same, List.map_set]
        · rcases List.mem_or_eq_of_mem_set hy with h | h
          · exact hp y h
          · rw [h]; exact Int.ediv_nonneg x0 (by omega)
        · rw [List.length_set]; exact hl
      · refine ⟨.int x, rfl, x, 2147483587, rfl, rfl, (show (0 : Int) < 2147483587 by decide), .ref d, rfl, d, _, 1, .int (t + 1), rfl, rfl, .inl (.inl hd1), rfl, 7919, t + 1, rfl, rfl, .inl ⟨by decide, by decide⟩, _, _, rfl, rfl, _, 1, rfl, rfl, _, 5, rfl, rfl, ⟨by decide, by decide, ?_⟩, _, 2147483647, rfl, rfl, (show (0 : Int) < 2147483647 by decide), .int m, rfl, _, m, rfl, rfl, hm0, q _ _ k1 D1 (Int.emod_nonneg _ (by omega)) (Int.emod_lt_of_pos _ hm0)⟩
        have := Int.emod_lt_of_pos x (show (0 : Int) < 2147483587 by decide)
        have := Int.emod_nonneg x (show (2147483587 : Int) ≠ 0 by decide)
        omega
    · refine ⟨.int 0, rfl, 10, 18, rfl, rfl, ⟨by decide, by decide, by decide⟩, _, _, rfl, rfl, _, rfl, ite2 (fun e => absurd (of_decide_eq_true e) (by decide)) (fun e => ?_)⟩
      refine ⟨.int 0, rfl, 0, 2147483587, rfl, rfl, (show (0 : Int) < 2147483587 by decide), .ref d, rfl, d, _, 1, .int (t + 1), rfl, rfl, .inl (.inl hd1), rfl, 7919, t + 1, rfl, rfl, .inl ⟨by decide, by decide⟩, _, _, rfl, rfl, _, 1, rfl, rfl, _, 5, rfl, rfl, ⟨by decide, by decide, ?_⟩, _, 2147483647, rfl, rfl, (show (0 : Int) < 2147483647 by decide), .int m, rfl, _, m, rfl, rfl, hm0, q _ _ k1 D1 (Int.emod_nonneg _ (by omega)) (Int.emod_lt_of_pos _ hm0)⟩
      omega
end
end OC
set_option Elab.async false
set_option linter.all false
set_option maxRecDepth 100000
set_option maxHeartbeats 4000000
namespace OC
open PySem PySem.Spec PyProof.Rows L2
section
variable {P : Program} {w : World} {K : PySem.W.Frag} {mg : Str → Option Value} {base : Heap}
def sp_lleft (K : PySem.W.Frag) : Sp := fun vs H Q _ => ∃ (a b : Addr) (ws : List V) (room : List (List Int)) (r : List Int) (p : Int) (n : Nat), vs = [.int p, .ref a, .ref b] ∧ (SqL K H a ws ∨ SqT K H a ws) ∧ DpAll K H ws (room.map rowD) ∧ SqT K H b (r.map V.int) ∧ RowsOk p n room ∧ (∀ c ∈ room, fpR c < n) ∧ RowsOk p n [r] ∧ 0 < p ∧ p ≤ 1000 ∧ n ≤ 100 ∧ room.length ≤ 100 ∧
  ∀ H' l, Same H H' → H' l = some (.tup ((leftR p room r).map V.int)) → Q (.ref l) H'
theorem sql_same3 {K : PySem.W.Frag} {H H' : Hp} {a : Addr} {xs : List V} (e : Same H H') (h : SqL K H a xs) : SqL K H' a xs := by
  rcases h with (h | ⟨o, h⟩) | h
  · exact .inl (.inl (e _ _ h))
  · exact .inl (.inr ⟨o, e _ _ h⟩)
  · exact .inr h
theorem left_take {p : Int} {room : List (List Int)} {r b : List Int} {i : Nat} (h : room[i]? = some b) : leftR p (room.take (i + 1)) r = lessR p (leftR p (room.take i) r) b (fpR b) := by
  unfold leftR
  rw [List.take_add_one, h, List.foldl_append]
  rfl
theorem left_ok {p : Int} (hp : 0 < p) {n : Nat} : ∀ (room : List (List Int)) (r : List Int), RowsOk p n room → RowsOk p n [r] → RowsOk p n [leftR p room r]
  | [], _, _, h => h
  | c :: room, r, h1, h2 => left_ok hp room (lessR p r c (fpR c)) (fun x hx => h1 x (List.mem_cons_of_mem _ hx)) (rowsOk_one (less_row hp (h2 r List.mem_cons_self).1 (h1 c List.mem_cons_self).1 _))
theorem less_at {p : Int} {x y : List Int} {j k n : Nat} (hx : x.length = n) (hy : y.length = n) (hk : k < n) : (lessR p x y j).take (k + 1) = (lessR p x y j).take k ++ [(x.getD k 0 - x.getD j 0 * y.getD k 0) % p] := by
  have g : (lessR p x y j)[k]? = some ((x.getD k 0 - x.getD j 0 * y.getD k 0) % p) := by
    unfold lessR
    rw [List.getElem?_zipWith, List.getElem?_eq_getElem (l := x) (by omega), List.getElem?_eq_getElem (l := y) (by omega), gd_lt (r := x) (i := k) (by omega), gd_lt (r := y) (i := k) (by omega)]
  rw [List.take_add_one, g]
  rfl
def posR (r : List Int) (k : Nat) : List Nat := (List.range k).filter fun i => decide (r.getD i 0 > 0)
theorem posR_succ (r : List Int) (k : Nat) : posR r (k + 1) = posR r k ++ (if r.getD k 0 > 0 then [k] else []) := by
  unfold posR
  rw [List.range_succ, List.filter_append]
  congr 1
  by_cases h0 : r.getD k 0 > 0
  · rw [if_pos h0]
    exact List.filter_cons_of_pos (decide_eq_true h0)
  · rw [if_neg h0]
    exact List.filter_cons_of_neg (by rw [decide_eq_false h0]; decide)
theorem posR_nz {p : Int} {r : List Int} (h : ∀ x ∈ r, 0 ≤ x ∧ x < p) (hp : 0 < p) (k : Nat) : posR r k = nzsR r k := by
  unfold posR nzsR
  refine List.filter_congr fun i _ => decide_eq_decide.mpr ?_
  have := (getD_lt hp h i).1
  omega
theorem ok__law_left (T : Top K mg) : Ok P w K mg base 1 "_law_left" ["_law_p", "_law_room_here", "_law_row_here"] (sp_lleft K) := by
  refine T.d__law_left.ok sc__law_left (fun vs H Q E h => ?_) (fun f cdv A outer s H vs Q E hr h => ?_)
  · obtain ⟨a, b, ws, room, r, p, n, rfl, _⟩ := h
    rfl
  · obtain ⟨a, b, ws, room, r, p, n, rfl, hA, hR, hB, ok, fp, okr, hp, hp2, hn, lr, q⟩ := h
    have okr' := okr r List.mem_cons_self
    have lw := rows_len hR
    refine ⟨_, ((pss_cons (ps_set (i := 3) sc__law_left.nd rfl (.inr rfl) (pe_callTy call_list_of (by rfl) T.b_list (by decide +kernel) (pa_cons (pv 2) pa_nil)))
      (pss_cons (ps_for PassesOwn.never (by rfl) (pi_seqv 1 (pv 1)) (pg_name (i := 4) sc__law_left.nd rfl (.inr rfl))
        (pss_cons (ps_set (i := 6) sc__law_left.nd rfl (.inl rfl) (pe_ix ix_list (pe_lc (own := [("_law_k", 5)]) (g := gName 5) (by rfl) sc__law_left.nd (pi_range1 (by rfl) T.b_range (pa_cons (pe_callB call_len_seq (by rfl) T.b_len (by decide +kernel) (pa_cons (pv 4) pa_nil)) pa_nil)) (blkOk_by (own := [("_law_k", 5)]) (N := N__law_left) (sc := defScope s__law_left) (by decide +kernel)) (fun _ _ _ _ _ => (pg_name (i := 5) sc__law_left.nd rfl (.inl rfl))) (fun _ _ _ _ _ => (pts_one (pt_cmpR op_gt (pe_ix (show IxR _ (rIxT K) from ix_tup) (pv 4) (pv 5) (fun _ _ => rfl)) pe_int (nomark _)))) (fun _ _ _ _ _ => (pv 5))) pe_int (fun _ _ => rfl)))
        (pss_cons (ps_set (i := 7) sc__law_left.nd rfl (.inr rfl) (pe_ix ix_list (pv 3) (pv 6) (fun _ _ => rfl)))
        (pss_one (ps_set (i := 3) sc__law_left.nd rfl (.inr rfl) (pe_lc (own := [("_law_k", 5)]) (g := gName 5) (by rfl) sc__law_left.nd (pi_range1 (by rfl) T.b_range (pa_cons (pe_callB call_len_seq (by rfl) T.b_len (by decide +kernel) (pa_cons (pv 4) pa_nil)) pa_nil)) (blkOk_by (own := [("_law_k", 5)]) (N := N__law_left) (sc := defScope s__law_left) (by decide +kernel)) (fun _ _ _ _ _ => (pg_name (i := 5) sc__law_left.nd rfl (.inl rfl))) (fun _ _ _ _ _ => pts_nil) (fun _ _ _ _ _ => (pe_op op_mod (pe_op op_sub (pe_ix (show IxR _ (rIxL K) from ix_list) (pv 3) (pv 5) (fun _ _ => rfl)) (pe_op op_mul (pv 7) (pe_ix (show IxR _ (rIxT K) from ix_tup) (pv 4) (pv 5) (fun _ _ => rfl)))) (pv 0)))))))))
      (pss_one (ps_ret (pe_callTy call_tuple_of (by rfl) T.b_tuple (by decide +kernel) (pa_cons (pv 3) pa_nil))))))), ?_⟩
    refine ⟨.ref b, rfl, b, _, rfl, .inr hB, fun l0 n0 => ?_⟩
    generalize h1 : upd H l0 _ = H1
    obtain ⟨s1, e1⟩ := new_of h1 n0
    have hq : (∀ H', Same H1 H' → SqL K H' a ws) ∨ (∀ H', Same H1 H' → SqT K H' a ws) := by
      rcases hA with h | h
      · exact .inl fun H' k => sql_same3 (s1.trans k) h
      · exact .inr fun H' k => Same.tup (s1.trans k) h
    refine ⟨a, ws, fun H' => Same H1 H', rfl, Same.refl _, hq, fun J wk => for_it wk (fun i σ H' => Same H1 H' ∧ ∃ (l : Addr) (y4 y5 y6 y7 : Option V), H' l = some (.lst ((leftR p (room.take i) r).map V.int)) ∧ σ = [some (.int p), some (.ref a), some (.ref b), some (.ref l), y4, y5, y6, y7]) ⟨Same.refl _, l0, none, none, none, none, e1, rfl⟩ (fun i σ H' _ hW => hW.1) (fun i x σ H2' H2 hi hW hY => ?_) (fun σ H2 hW => ?_)⟩
    · obtain ⟨rfl, hx⟩ := hY
      obtain ⟨s2, l, y4, y5, y6, y7, el, rfl⟩ := hW
      obtain ⟨c, rr, rfl, gr, mr, hc⟩ := dpAll_row (dpAll_same (s1.trans s2) _ _ hR) hx
      have okc := ok rr mr
      have fc := fp rr mr
      have okl := left_ok hp (room.take i) r (fun x hx => ok x (List.mem_of_mem_take hx)) okr _ List.mem_cons_self
      have lt := left_take (p := p) (r := r) gr
      generalize leftR p (room.take i) r = cur at el okl lt
      refine ⟨.ref c, rfl, c, _, rfl, .inr hc, _, rfl, by omega, by rw [List.length_map]; omega, fun D nD => ?_⟩
      rw [List.length_map, show ((rr.length : Int)).toNat = rr.length from rfl]
      refine lc_range (lo := 0) (n := rr.length) (fun k H3 => Same H2 H3 ∧ H3 D = some (.lst ((posR rr k).map fun (i : Nat) => V.int (i : Int)))) ⟨same_upd nD, upd_same⟩ (fun k H3 hk hP => ?_) (fun H3 hP => ?_)
      · obtain ⟨s3, eD⟩ := hP
        refine ⟨rfl, .ref c, rfl, .int (0 + k), rfl, c, _, _, _, rfl, rfl, Same.tup s3 hc, by rw [show (0 : Int) + (k : Int) = (k : Int) by omega]; exact at_row hk, _, 0, rfl, rfl, _, rfl, ?_⟩
        have lp : (posR rr k).length ≤ k := by
          have := List.length_filter_le (fun i => decide (rr.getD i 0 > 0)) (List.range k)
          rw [List.length_range] at this
          exact this
        by_cases h0 : rr.getD k 0 > 0
        · rw [decide_eq_true h0]
          refine iteT ⟨.int (0 + k), rfl, _, eD, by rw [List.length_map]; exact small1000 (by omega), same_mut s3 nD, ?_⟩
          rw [upd_same, posR_succ, if_pos h0, List.map_append, show (0 : Int) + (k : Int) = (k : Int) by omega]
          rfl
        · rw [decide_eq_false h0]
          refine iteF ⟨s3, ?_⟩
          rw [eD, posR_succ, if_neg h0, List.append_nil]
      · obtain ⟨s3, eD⟩ := hP
        rw [posR_nz okc.2 hp] at eD
        refine ⟨D, _, 0, .int (fpR rr), rfl, rfl, .inl (.inl eD), at_of (j := 0) rfl (by rw [List.getElem?_map, nzs_head (by rw [okc.1]; exact fc)]; rfl), ?_⟩
        have el3 := s3 _ _ el
        have hc3 := Same.tup s3 hc
        refine ⟨.ref l, rfl, .int (fpR rr), rfl, l, _, _, _, rfl, rfl, .inl (.inl el3), at_row (by rw [okl.1]; exact fc), ?_⟩
        refine ⟨.ref c, rfl, c, _, rfl, .inr hc3, _, rfl, by omega, by rw [List.length_map]; omega, fun D2 nD2 => ?_⟩
        rw [List.length_map, show ((rr.length : Int)).toNat = rr.length from rfl]
        refine lc_range (lo := 0) (n := rr.length) (fun k H4 => Same H3 H4 ∧ H4 D2 = some (.lst (((lessR p cur rr (fpR rr)).take k).map V.int))) ⟨same_upd nD2, upd_same⟩ (fun k H4 hk hP => ?_) (fun H4 hP => ?_)
        · obtain ⟨s4, eD2⟩ := hP
          have b1 := getD_lt hp okl.2 k
          have b2 := getD_lt hp okl.2 (fpR rr)
          refine ⟨rfl, .ref l, rfl, .int (0 + k), rfl, l, _, _, _, rfl, rfl, .inl (.inl (s4 _ _ el3)), by rw [show (0 : Int) + (k : Int) = (k : Int) by omega]; exact at_row (by omega), .int (cur.getD (fpR rr) 0), rfl, .ref c, rfl, .int (0 + k), rfl, c, _, _, _, rfl, rfl, Same.tup s4 hc3, by rw [show (0 : Int) + (k : Int) = (k : Int) by omega]; exact at_row hk, _, _, rfl, rfl, .inl ⟨by omega, by omega⟩, _, _, rfl, rfl, .int p, rfl, _, p, rfl, rfl, hp, _, eD2, ?_, same_mut s4 nD2, ?_⟩
          · rw [List.length_map, List.length_take]
            exact Nat.lt_of_le_of_lt (Nat.min_le_left _ _) (small1000 (by omega))
          · rw [upd_same, less_at okl.1 okc.1 (by omega), List.map_append]
            rfl
        · obtain ⟨s4, eD2⟩ := hP
          rw [List.take_of_length_le (by unfold lessR; rw [List.length_zipWith]; omega), ← lt] at eD2
          exact ⟨(s2.trans s3).trans s4, D2, _, _, _, _, eD2, rfl⟩
    · obtain ⟨s2, l, y4, y5, y6, y7, el, rfl⟩ := hW
      rw [List.take_of_length_le (by omega)] at el
      refine ⟨.ref l, rfl, l, _, rfl, .inl ⟨.inl (.inl el), fun z nz => ?_⟩⟩
      generalize h5 : upd H2 z _ = H5
      obtain ⟨s5, e5⟩ := new_of h5 nz
      exact q H5 z ((s1.trans s2).trans s5) e5
def sp_lplain (K : PySem.W.Frag) : Sp := fun vs H Q _ => ∃ (a : Addr) (ws : List V) (rs : List (List Int)) (p : Int) (n : Nat), vs = [.int p, .ref a] ∧ (SqL K H a ws ∨ SqT K H a ws) ∧ DpAll K H ws (rs.map rowD) ∧ RowsOk p n rs ∧ Fld p ∧ p ≤ 1000 ∧ 1 ≤ n ∧ n ≤ 100 ∧ rs.length ≤ 100 ∧
  ∀ H' l, Same H H' → RowsAt K H' l (plainR p n rs) → Q (.ref l) H'
theorem ok__law_plain (T : Top K mg) : Ok P w K mg base 2 "_law_plain" ["_law_p", "_law_rows_here"] (sp_lplain K) := by
  have O__law_left := ok__law_left (P := P) (w := w) (base := base) T
  refine T.d__law_plain.ok sc__law_plain (fun vs H Q E h => ?_) (fun f cdv A outer s H vs Q E hr h => ?_)
  · obtain ⟨a, ws, rs, p, n, rfl, _⟩ := h
    rfl
  · obtain ⟨a, ws, rs, p, n, rfl, hA, hR, ok, hF, hp, n1, hn, lr, q⟩ := h
    have h2 := hF.1
    have lw := rows_len hR
    refine ⟨_, ((pss_cons (ps_set (i := 2) sc__law_plain.nd rfl (.inl rfl) (pe_lst pa_nil))
      (pss_cons (ps_for PassesOwn.never (by rfl) (pi_seqv 1 (pv 1)) (pg_name (i := 3) sc__law_plain.nd rfl (.inl rfl))
        (pss_cons (ps_set (i := 3) sc__law_plain.nd rfl (.inl rfl) (pe_callO O__law_left (hr.mono (by omega)) (by rfl) (pa_cons (pv 0) (pa_cons (pv 2) (pa_cons (pv 3) pa_nil)))))
        (pss_cons (ps_set (i := 5) sc__law_plain.nd rfl (.inr rfl) (pe_lc (own := [("_law_rest", 4)]) (g := gName 4) (by rfl) sc__law_plain.nd (pi_tup (pv 3)) (blkOk_by (own := [("_law_rest", 4)]) (N := N__law_plain) (sc := defScope s__law_plain) (by decide +kernel)) (fun _ _ _ _ _ => (pg_name (i := 4) sc__law_plain.nd rfl (.inl rfl))) (fun _ _ _ _ _ => (pts_one (pt_cmpR op_gt (pv 4) pe_int (nomark _)))) (fun _ _ _ _ _ => (pv 4))))
        (pss_one (ps_if (pt_cmpR (op_neNil hr.units) (pv 5) (pe_lst pa_nil) (nomark _))
          (pss_cons (ps_set (i := 7) sc__law_plain.nd rfl (.inr rfl) (pe_ix ix_list (pe_lc (own := [("_law_k", 6)]) (g := gName 6) (by rfl) sc__law_plain.nd (pi_range1 (by rfl) T.b_range (pa_cons (pv 0) pa_nil)) (blkOk_by (own := [("_law_k", 6)]) (N := N__law_plain) (sc := defScope s__law_plain) (by decide +kernel)) (fun _ _ _ _ _ => (pg_name (i := 6) sc__law_plain.nd rfl (.inl rfl))) (fun _ _ _ _ _ => (pts_one (pt_cmpR op_eq (pe_op op_mod (pe_op op_mul (pv 6) (pe_ix (show IxR _ (rIxL K) from ix_list) (pv 5) pe_int (fun _ _ => rfl))) (pv 0)) pe_int (nomark _)))) (fun _ _ _ _ _ => (pv 6))) pe_int (fun _ _ => rfl)))
          (pss_cons (ps_set (i := 8) sc__law_plain.nd rfl (.inr rfl) (pe_callTy call_tuple_of (by rfl) T.b_tuple (by decide +kernel) (pa_cons (pe_lc (own := [("_law_rest", 4)]) (g := gName 4) (by rfl) sc__law_plain.nd (pi_tup (pv 3)) (blkOk_by (own := [("_law_rest", 4)]) (N := N__law_plain) (sc := defScope s__law_plain) (by decide +kernel)) (fun _ _ _ _ _ => (pg_name (i := 4) sc__law_plain.nd rfl (.inl rfl))) (fun _ _ _ _ _ => pts_nil) (fun _ _ _ _ _ => (pe_op op_mod (pe_op op_mul (pv 4) (pv 7)) (pv 0)))) pa_nil)))
          (pss_one (ps_set (i := 2) sc__law_plain.nd rfl (.inl rfl) (pe_op op_cat (pe_lc (own := [("_law_one", 9)]) (g := gName 9) (by rfl) sc__law_plain.nd (pi_list (pv 2)) (blkOk_by (own := [("_law_one", 9)]) (N := N__law_plain) (sc := defScope s__law_plain) (by decide +kernel)) (fun _ _ _ _ _ => (pg_name (i := 9) sc__law_plain.nd rfl (.inl rfl))) (fun _ _ _ _ _ => pts_nil) (fun _ _ _ _ _ => (pe_callO O__law_left (hr.mono (by omega)) (by rfl) (pa_cons (pv 0) (pa_cons (pe_lst (pa_cons (pv 8) pa_nil)) (pa_cons (pv 9) pa_nil)))))) (pe_lst (pa_cons (pv 8) pa_nil)))))))
          pss_nil)))))
      (pss_one (ps_ret (pe_callTy call_tuple_of (by rfl) T.b_tuple (by decide +kernel) (pa_cons (pe_callBK cr_sortTR (by rfl) T.b_sorted (by decide +kernel) (pa_cons (pv 2) pa_nil) (pk_cons pe_bl pk_nil)) pa_nil))))))), ?_⟩
    refine ⟨Nat.zero_le _, fun L0' nL0 => ?_⟩
    generalize h1 : upd H L0' _ = H1
    obtain ⟨s1, e1⟩ := new_of h1 nL0
    have hq : (∀ H', Same H1 H' → SqL K H' a ws) ∨ (∀ H', Same H1 H' → SqT K H' a ws) := by
      rcases hA with h | h
      · exact .inl fun H' k => sql_same3 (s1.trans k) h
      · exact .inr fun H' k => Same.tup (s1.trans k) h
    refine ⟨a, ws, fun H' => Same H1 H', rfl, Same.refl _, hq, fun J wk => for_it wk (fun i σ H' => Same H1 H' ∧ ∃ (L : Addr) (vs' : List V) (fs : List (List Int)) (y3 y4 y5 y6 y7 y8 y9 : Option V), H' L = some (.lst vs') ∧ DpAll K H' vs' (fs.map rowD) ∧ fs.Perm (plainR p n (rs.take i)) ∧ σ = [some (.int p), some (.ref a), some (.ref L), y3, y4, y5, y6, y7, y8, y9]) ⟨Same.refl _, L0', [], [], none, none, none, none, none, none, none, e1, .nil, by rw [List.take_zero, (PFR.nil hF n).2], rfl⟩ (fun i σ H' _ hW => hW.1) (fun i x σ H2' H2 hi hW hY => ?_) (fun σ H2 hW => ?_)⟩
    · obtain ⟨rfl, hx⟩ := hY
      obtain ⟨s2, L, vs', fs, y3, y4, y5, y6, y7, y8, y9, eL, dL, pm, rfl⟩ := hW
      obtain ⟨c, r, rfl, gr, mr, hc⟩ := dpAll_row (dpAll_same (s1.trans s2) _ _ hR) hx
      have okt : RowsOk p n (rs.take i) := fun x hx => ok x (List.mem_of_mem_take hx)
      have pf := PFR.of_plain hF okt
      have okr := rowsOk_one (ok r mr)
      have tk : rs.take (i + 1) = rs.take i ++ [r] := by
        rw [List.take_add_one, gr]
        rfl
      have pe : plainR p n (rs.take (i + 1)) = plainR p n (plainR p n (rs.take i) ++ [r]) := by
        rw [tk, plainR_app hF okt okr]
      rw [pe]
      have lroom := plainR_lenle hF okt
      generalize plainR p n (rs.take i) = room at pm pf lroom
      have okfs : RowsOk p n fs := fun x hx => pf.1 x (pm.mem_iff.mp hx)
      have lfs : fs.length ≤ n := by rw [pm.length_eq]; exact lroom
      have lvs := rows_len dL
      refine ⟨.int p, rfl, .ref L, rfl, .ref c, rfl, L, c, vs', fs, r, p, n, rfl, .inl (.inl (.inl eL)), dL, hc, okfs, fun x hx => pf.fp_lt hF x (pm.mem_iff.mp hx), okr, by omega, hp, hn, by omega, fun H3 l3 s3 e3 => ?_⟩
      rw [PFR.left_any hF pf pm okr] at e3
      have oky := PFR.left_ok hF pf okr _ List.mem_cons_self
      have stp := PFR.step (found := fs) hF pf pm okr
      have wid0 := pf.widen0 hF okr
      generalize leftR p room r = y at e3 oky stp wid0
      have hy3 : SqT K H3 l3 (y.map V.int) := .inl (.inl e3)
      -- its rests above 0
      refine ⟨.ref l3, rfl, l3, rfl, ⟨_, hy3⟩, fun D nD => lc_it (walk_tup (K := K) (a := l3) (xs := y.map V.int)) (fun k H4 => Same H3 H4 ∧ H4 D = some (.lst (((y.take k).filter fun x => decide (x > 0)).map V.int))) ⟨same_upd nD, upd_same⟩ (fun k H4 _ hP => Same.tup hP.1 hy3) (fun k x H4' H4 hk hP hY => ?_) (fun H4 hP => ?_)⟩
      · obtain ⟨rfl, hx⟩ := hY
        obtain ⟨s4, eD⟩ := hP
        rw [List.getElem?_map] at hx
        obtain ⟨v, hv, rfl⟩ := Option.map_eq_some_iff.mp hx
        rw [List.length_map] at hk
        have lp : ((y.take k).filter fun x => decide (x > 0)).length ≤ y.length := Nat.le_trans (List.length_filter_le _ _) (by rw [List.length_take]; omega)
        have tkv : (y.take (k + 1)).filter (fun x => decide (x > 0)) = (y.take k).filter (fun x => decide (x > 0)) ++ (if v > 0 then [v] else []) := by
          rw [List.take_add_one, hv, List.filter_append]
          congr 1
          by_cases h0 : v > 0
          · rw [if_pos h0]
            exact List.filter_cons_of_pos (show (fun x : Int => decide (x > 0)) v = true from decide_eq_true h0)
          · rw [if_neg h0]
            exact List.filter_cons_of_neg (show ¬ (fun x : Int => decide (x > 0)) v = true by show ¬ decide (v > 0) = true; rw [decide_eq_false h0]; decide)
        refine ⟨rfl, .int v, rfl, _, 0, rfl, rfl, _, rfl, ?_⟩
        by_cases h0 : v > 0
        · rw [decide_eq_true h0]
          refine iteT ⟨.int v, rfl, _, eD, by rw [List.length_map]; exact small1000 (by omega), same_mut s4 nD, ?_⟩
          rw [upd_same, tkv, if_pos h0, List.map_append]
          rfl
        · rw [decide_eq_false h0]
          refine iteF ⟨s4, ?_⟩
          rw [eD, tkv, if_neg h0, List.append_nil]
      obtain ⟨s4, eD⟩ := hP
      rw [List.take_of_length_le (by rw [List.length_map]; exact Nat.le_refl _)] at eD
      refine ⟨.ref D, rfl, Nat.zero_le _, fun z5 nz5 => ?_⟩
      generalize h5 : upd H4 z5 _ = H5
      obtain ⟨s5, e5⟩ := new_of h5 nz5
      have eD5 := s5 _ _ eD
      refine ⟨D, z5, _, rfl, rfl, eD5, e5, _, rfl, ?_⟩
      have s25 := (s3.trans s4).trans s5
      have hy5 := Same.tup (s4.trans s5) hy3
      by_cases hlt : fpR y < n
      · have hd := pos_head (r := y) (fun x hx => (oky.2 x hx).1) (by rw [oky.1]; exact hlt)
        have hne : ((y.filter fun x => decide (x > 0)).map V.int).isEmpty = false := by
          cases hz : y.filter (fun x => decide (x > 0)) with
          | nil => rw [hz] at hd; cases hd
          | cons _ _ => rfl
        rw [hne]
        refine iteT ?_
        have stp := stp hlt
        have b := getD_lt (p := p) (by omega) oky.2 (fpR y)
        have nz : y.getD (fpR y) 0 ≠ 0 := fpR_at (by rw [oky.1]; exact hlt)
        have hc1 := ctr_first0 hF (show 1 ≤ y.getD (fpR y) 0 by omega) b.2
        have hco := ctr_ok hF (show 1 ≤ y.getD (fpR y) 0 by omega) b.2
        have oko := own_row (p := p) (by omega) oky.1 (fpR y)
        have ff := own_first hF oky hlt
        refine ⟨.int p, rfl, p, rfl, by omega, by omega, fun D2 nD2 => ?_⟩
        refine lc_range (lo := 0) (n := p.toNat) (fun k H6 => Same H5 H6 ∧ H6 D2 = some (.lst ((((List.range k).map fun (i : Nat) => ((i : Nat) : Int)).filter fun k => decide (k * y.getD (fpR y) 0 % p = 1)).map V.int))) ⟨same_upd nD2, upd_same⟩ (fun k H6 hk hP => ?_) (fun H6 hP => ?_)
        · obtain ⟨s6, eD2⟩ := hP
          refine ⟨rfl, .int (0 + k), rfl, .ref D, rfl, D, _, 0, .int (y.getD (fpR y) 0), rfl, rfl, .inl (.inl (s6 _ _ eD5)), at_of (j := 0) rfl (by rw [List.getElem?_map, hd]; rfl), _, _, rfl, rfl, .inr ⟨by omega, by omega⟩, .int p, rfl, _, p, rfl, rfl, by omega, rfl, _, rfl, ?_⟩
          rw [show (0 : Int) + (k : Int) = (k : Int) by omega]
          have ek : decide (V.int ((k : Int) * y.getD (fpR y) 0 % p) = V.int 1) = decide ((k : Int) * y.getD (fpR y) 0 % p = 1) := decide_eq_decide.mpr ⟨fun z => V.int.inj z, fun z => by rw [z]⟩
          rw [ek]
          have tkk : ((List.range (k + 1)).map fun (i : Nat) => ((i : Nat) : Int)).filter (fun k => decide (k * y.getD (fpR y) 0 % p = 1)) = ((List.range k).map fun (i : Nat) => ((i : Nat) : Int)).filter (fun k => decide (k * y.getD (fpR y) 0 % p = 1)) ++ (if (k : Int) * y.getD (fpR y) 0 % p = 1 then [(k : Int)] else []) := by
            rw [List.range_succ, List.map_append, List.filter_append]
            congr 1
            by_cases h0 : (k : Int) * y.getD (fpR y) 0 % p = 1
            · rw [if_pos h0]
              exact List.filter_cons_of_pos (decide_eq_true h0)
            · rw [if_neg h0]
              exact List.filter_cons_of_neg (by rw [decide_eq_false h0]; decide)
          have lk : (((List.range k).map fun (i : Nat) => ((i : Nat) : Int)).filter fun k => decide (k * y.getD (fpR y) 0 % p = 1)).length ≤ k := by
            have := List.length_filter_le (fun k : Int => decide (k * y.getD (fpR y) 0 % p = 1)) ((List.range k).map fun (i : Nat) => ((i : Nat) : Int))
            rwa [List.length_map, List.length_range] at this
          by_cases h0 : (k : Int) * y.getD (fpR y) 0 % p = 1
          · rw [decide_eq_true h0]
            refine iteT ⟨.int k, rfl, _, eD2, by rw [List.length_map]; exact small1000 (by omega), same_mut s6 nD2, ?_⟩
            rw [upd_same, tkk, if_pos h0, List.map_append]
            rfl
          · rw [decide_eq_false h0]
            refine iteF ⟨s6, ?_⟩
            rw [eD2, tkk, if_neg h0, List.append_nil]
        obtain ⟨s6, eD2⟩ := hP
        refine ⟨D2, _, 0, .int (ctr p (y.getD (fpR y) 0)), rfl, rfl, .inl (.inl eD2), at_of (j := 0) rfl (by rw [List.getElem?_map, hc1]; rfl), ?_⟩
        have hy6 := Same.tup s6 hy5
        generalize hct : ctr p (y.getD (fpR y) 0) = ct at hco
        refine ⟨.ref l3, rfl, l3, rfl, ⟨_, hy6⟩, lc_tupI (fun x => x * ct % p) hy6 (by omega) (fun _ => rfl) (fun x H' Q' mx sm hQ => ?_) (fun D3 H7 s7 nD3 eD3 => ?_)⟩
        · exact ⟨.int x, rfl, .int ct, rfl, x, ct, rfl, rfl, .inr ⟨by omega, by omega⟩, .int p, rfl, _, p, rfl, rfl, by omega, hQ⟩
        refine ⟨D3, _, rfl, .inl ⟨.inl (.inl eD3), fun lo nlo => ?_⟩⟩
        generalize h8 : upd H7 lo _ = H8
        obtain ⟨s8, e8⟩ := new_of h8 nlo
        have eo : y.map (fun x => x * ct % p) = ownR p y (fpR y) := by
          unfold ownR
          rw [hct]
          refine List.map_congr_left fun x _ => ?_
          rw [Int.mul_comm]
        rw [eo] at e8
        generalize ownR p y (fpR y) = own at e8 stp oko ff
        have s28 := (s25.trans s6).trans (s7.trans s8)
        have eL8 := s28 _ _ eL
        have dL8 := dpAll_same s28 _ _ dL
        refine ⟨.ref L, rfl, L, rfl, ⟨_, .inl (.inl eL8)⟩, lc_mapR (K := K) (fun e => rowD (lessR p (intsOf e) own (fpR own))) (walk_list (K := K) (a := L) (xs := vs')) (fun H' s => .inl (.inl (s _ _ eL8))) (rep_rows dL8) (by omega) (fun _ => rfl) (fun v e H' Q' me rv sm hQ => ?_) (fun D4 H9 w9 s9 nD4 eD4 r9 => ?_)⟩
        · obtain ⟨x, mx, rfl⟩ := List.mem_map.mp me
          obtain ⟨c', rfl, hc'⟩ := rep_row rv
          rw [ints_row] at hQ
          refine ⟨.int p, rfl, .ref lo, rfl, sz1000 (by decide : (1 : Nat) ≤ 1000), fun u nu => ?_⟩
          generalize h10 : upd H' u _ = H10
          obtain ⟨s10, e10⟩ := new_of h10 nu
          have eo10 : SqT K H10 lo (own.map V.int) := .inl (.inl (s10 _ _ (sm _ _ e8)))
          exact ⟨.ref c', rfl, u, c', [.ref lo], [own], x, p, n, rfl, .inl (.inl (.inl e10)), .cons (row_dp eo10) .nil, Same.tup s10 hc', rowsOk_one oko, (fun d hd => by
            have : d = own := by simpa using hd
            rw [this, ff]
            exact hlt), rowsOk_one (okfs x mx), by omega, hp, hn, (by show 1 ≤ 100; decide), fun H'' l'' s'' e'' => hQ (.ref l'') H'' (s10.trans s'') (row_rep (.inl (.inl e'')))⟩
        have em : (fs.map rowD).map (fun e => rowD (lessR p (intsOf e) own (fpR own))) = (fs.map fun x => lessR p x own (fpR y)).map rowD := by
          rw [List.map_map, List.map_map]
          refine List.map_congr_left fun x _ => ?_
          show rowD (lessR p (intsOf (rowD x)) own (fpR own)) = rowD (lessR p x own (fpR y))
          rw [ints_row, ff]
        rw [em] at r9
        have d9 := repAll_rows r9
        have l9 := rows_len d9
        rw [List.length_map] at l9
        refine ⟨.ref lo, rfl, sz1000 (by decide : (1 : Nat) ≤ 1000), fun u nu => ?_⟩
        generalize h11 : upd H9 u _ = H11
        obtain ⟨s11, e11⟩ := new_of h11 nu
        refine ⟨D4, u, _, _, rfl, rfl, s11 _ _ eD4, e11, Nat.le_of_lt (small1000 (by simp; omega)), fun N nN => ?_⟩
        generalize h12 : upd H11 N _ = H12
        obtain ⟨s12, e12⟩ := new_of h12 nN
        have s912 := s11.trans s12
        have s812 := s9.trans s912
        refine ⟨(s2.trans s28).trans s812, N, _, (fs.map fun x => lessR p x own (fpR y)) ++ [own], _, _, _, _, _, _, _, e12, ?_, stp, rfl⟩
        rw [List.map_append]
        exact dpAll_append (dpAll_same s912 _ _ d9) (.cons (row_dp (.inl (.inl (s812 _ _ e8)))) .nil)
      · have hz : fpR y = y.length := by
          have := fpR_le y
          omega
        have h0 := fpR_all hz
        have hne : ((y.filter fun x => decide (x > 0)).map V.int).isEmpty = true := by
          have : y.filter (fun x => decide (x > 0)) = [] := List.filter_eq_nil_iff.mpr fun x hx => by rw [h0 x hx]; decide
          rw [this]
          rfl
        rw [hne]
        refine iteF ⟨s2.trans s25, L, vs', fs, _, _, _, _, _, _, _, s25 _ _ eL, dpAll_same s25 _ _ dL, ?_, rfl⟩
        rw [← wid0 h0]
        exact pm
    · obtain ⟨s2, L, vs', fs, y3, y4, y5, y6, y7, y8, y9, eL, dL, pm, rfl⟩ := hW
      rw [List.take_of_length_le (by omega)] at pm
      have pf := PFR.of_plain hF ok
      refine ⟨.ref L, rfl, L, _, n, p, rfl, rfl, n1, .inl (.inl eL), fun x hx => ?_, fun ys S pmv pw nS => ?_⟩
      · obtain ⟨i, hi, rfl⟩ := List.getElem_of_mem hx
        obtain ⟨c, rc, ec, gr, mr, hc⟩ := dpAll_row dL (List.getElem?_eq_getElem hi)
        have := pf.1 rc (pm.mem_iff.mp mr)
        exact ⟨rc, ⟨c, ec, hc⟩, this.1, this.2⟩
      generalize h7 : upd H2 S _ = H7
      obtain ⟨s7, e7⟩ := new_of h7 nS
      obtain ⟨rs', pm', d'⟩ := dpAll_perm pmv dL
      have er := PFR.desc_one hF pf (pm'.trans pm) (dpAll_pw d' pw)
      refine ⟨S, ys, rfl, .inl ⟨.inl (.inl e7), fun R nR => ?_⟩⟩
      generalize h8 : upd H7 R _ = H8
      obtain ⟨s8, e8⟩ := new_of h8 nR
      refine q H8 R (((s1.trans s2).trans s7).trans s8) ⟨ys, .inl (.inl e8), ?_⟩
      rw [← er]
      exact dpAll_same (s7.trans s8) _ _ d'
def sp_row3 : Sp := fun vs H Q _ => ∃ (d c : Addr) (t p : Int) (n : Nat), vs = [.ref d, .int p, .int (n : Int)] ∧ Deck H d c t ∧ t ≤ 900000 ∧ 2 ≤ p ∧ p ≤ 1000 ∧ 1 ≤ n ∧ n ≤ 100 ∧ ∀ H' a r t', Kept d c H H' → Deck H' d c t' → t' ≤ t + 2 + 2 * n → H a = none → H' a = some (.tup (r.map V.int)) → RowsOk p n [r] → Q (.ref a) H'
theorem kept_none {d c l : Addr} {t : Int} {H H' : Hp} (D : Deck H' d c t) (k : Kept d c H H') (n : H' l = none) : H l = none := by
  cases hl : H l with
  | none => rfl
  | some o =>
    have bl := D.fresh n
    rw [k l o hl (fun z => bl (.inl z)) (fun z => bl (.inr z))] at n
    cases n
/-- a comprehension of drawn rests -/
theorem lc_drawn {d c : Addr} {t p : Int} {n : Nat} {σ : L2.St} {H : Hp} {Qd : Addr → Hp → Prop} {i : Nat} {sl : List Nat} {te : TE} (D0 : Deck H d c t) (hn : n ≤ 100) (hw : ∀ x : Option V, wipe ((wipe σ sl).set i x) sl = wipe σ sl)
    (hte : ∀ (k : Nat) (t' : Int) (H' : Hp) (Q' : VK), Deck H' d c t' → t' ≤ t + 2 * k → k < n → (∀ H'' t'' x, Kept d c H' H'' → Deck H'' d c t'' → t'' ≤ t' + 2 → 0 ≤ x → x < p → Q' (.int x) H'') → te ((wipe σ sl).set i (some (.int (0 + (k : Int))))) H' Q')
    (hd : ∀ (D : Addr) (H' : Hp) (t' : Int) (r : List Int), Kept d c H H' → Deck H' d c t' → t' ≤ t + 2 * n → H' D = some (.lst (r.map V.int)) → r.length = n → (∀ x ∈ r, 0 ≤ x ∧ x < p) → Qd D H') :
    LcGoal (Itr 0 n) (gName i) tYes te sl σ H Qd := by
  intro D nD
  have bD := D0.fresh nD
  refine lc_range (lo := 0) (n := n) (fun k H' => Kept d c H H' ∧ ∃ (t' : Int) (r : List Int), Deck H' d c t' ∧ t' ≤ t + 2 * k ∧ H' D = some (.lst (r.map V.int)) ∧ r.length = k ∧ ∀ x ∈ r, 0 ≤ x ∧ x < p) ⟨Kept.of (same_upd nD), t, [], D0.same (same_upd nD), by omega, upd_same, rfl, fun x hx => nomatch hx⟩ (fun k H' hk hW => ?_) (fun H' hW => ?_)
  · obtain ⟨k', t', r, D', ht', eB, ln, ro⟩ := hW
    refine ⟨hw _, hte k t' H' _ D' ht' hk fun H1 t1 x k1 D1 ht1 x0 x1 => ?_⟩
    refine ⟨r.map V.int, k1 _ _ eB (fun z => bD (.inl z)) (fun z => bD (.inr z)), by rw [List.length_map]; exact small1000 (by omega), (k'.trans k1).mut nD, t1, r ++ [x], D1.mut bD, by omega, ?_, by rw [List.length_append, ln]; rfl, fun y hy => ?_⟩
    · rw [upd_same, List.map_append]
      rfl
    · rcases List.mem_append.mp hy with h | h
      · exact ro y h
      · have : y = x := by simpa using h
        rw [this]
        exact ⟨x0, x1⟩
  · obtain ⟨k', t', r, D', ht', eB, ln, ro⟩ := hW
    exact hd D H' t' r k' D' ht' eB ln ro
theorem ok__law_row (T : Top K mg) : Ok P w K mg base 2 "_law_row" ["_law_deck_here", "_law_p", "_law_n"] sp_row3 := by
  have O__law_draw := ok__law_draw (P := P) (w := w) (base := base) T
  refine T.d__law_row.ok sc__law_row (fun vs H Q E h => ?_) (fun f cdv A outer s H vs Q E hr h => ?_)
  · obtain ⟨d, c, t, p, n, rfl, _⟩ := h
    rfl
  · obtain ⟨d, c, t, p, n, rfl, D0, ht, hp1, hp2, n1, hn, q⟩ := h
    refine ⟨_, ((pss_cons (ps_set (i := 3) sc__law_row.nd rfl (.inr rfl) (pe_callO O__law_draw (hr.mono (by omega)) (by rfl) (pa_cons (pv 0) (pa_cons pe_int pa_nil))))
      (pss_cons (ps_set (i := 4) sc__law_row.nd rfl (.inr rfl) (pe_callO O__law_draw (hr.mono (by omega)) (by rfl) (pa_cons (pv 0) (pa_cons (pv 2) pa_nil))))
      (pss_cons (ps_if (pt_cmpR op_eq (pv 3) pe_int (nomark _))
        (pss_one (ps_ret (pe_callTy call_tuple_of (by rfl) T.b_tuple (by decide +kernel) (pa_cons (pe_lc (own := [("_law_k", 5)]) (g := gName 5) (by rfl) sc__law_row.nd (pi_range1 (by rfl) T.b_range (pa_cons (pv 2) pa_nil)) (blkOk_by (own := [("_law_k", 5)]) (N := N__law_row) (sc := defScope s__law_row) (by decide +kernel)) (fun _ _ _ _ _ => (pg_name (i := 5) sc__law_row.nd rfl (.inl rfl))) (fun _ _ _ _ _ => pts_nil) (fun _ _ _ _ _ => (pe_callTy call_int1 (by rfl) T.b_int (by decide +kernel) (pa_cons (pe_cmpR op_eq (pv 5) (pv 4) (nomark _)) pa_nil)))) pa_nil))))
        pss_nil)
      (pss_cons (ps_if (pt_cmpR op_eq (pv 3) pe_int (nomark _))
        (pss_one (ps_ret (pe_callTy call_tuple_of (by rfl) T.b_tuple (by decide +kernel) (pa_cons (pe_lc (own := [("_law_k", 5)]) (g := gName 5) (by rfl) sc__law_row.nd (pi_range1 (by rfl) T.b_range (pa_cons (pv 2) pa_nil)) (blkOk_by (own := [("_law_k", 5)]) (N := N__law_row) (sc := defScope s__law_row) (by decide +kernel)) (fun _ _ _ _ _ => (pg_name (i := 5) sc__law_row.nd rfl (.inl rfl))) (fun _ _ _ _ _ => pts_nil) (fun _ _ _ _ _ => (pe_callO O__law_draw (hr.mono (by omega)) (by rfl) (pa_cons (pv 0) (pa_cons pe_int pa_nil))))) pa_nil))))
        pss_nil)
      (pss_one (ps_ret (pe_callTy call_tuple_of (by rfl) T.b_tuple (by decide +kernel) (pa_cons (pe_lc (own := [("_law_k", 5)]) (g := gName 5) (by rfl) sc__law_row.nd (pi_range1 (by rfl) T.b_range (pa_cons (pv 2) pa_nil)) (blkOk_by (own := [("_law_k", 5)]) (N := N__law_row) (sc := defScope s__law_row) (by decide +kernel)) (fun _ _ _ _ _ => (pg_name (i := 5) sc__law_row.nd rfl (.inl rfl))) (fun _ _ _ _ _ => pts_nil) (fun _ _ _ _ _ => (pe_op op_mul (pe_callO O__law_draw (hr.mono (by omega)) (by rfl) (pa_cons (pv 0) (pa_cons (pv 1) pa_nil))) (pe_ix (show IxR _ (rIxL K) from ix_list) (pe_lst (pa_cons pe_int (pa_cons (pe_callO O__law_draw (hr.mono (by omega)) (by rfl) (pa_cons (pv 0) (pa_cons pe_int pa_nil))) pa_nil))) (pe_op op_sub (pv 3) pe_int) (fun _ _ => rfl))))) pa_nil))))))))), ?_⟩
    refine ⟨.ref d, rfl, d, c, t, 4, rfl, D0, by omega, by decide, by decide, fun H1 z1 k1 D1 a0 a1 => ?_⟩
    refine ⟨.ref d, rfl, .int n, rfl, d, c, _, n, rfl, D1, by omega, by omega, by omega, fun H2 z2 k2 D2 b0 b1 => ?_⟩
    have k02 := k1.trans k2
    have last : ∀ (D : Addr) (H' : Hp) (t' : Int) (r : List Int), Kept d c H2 H' → Deck H' d c t' → t' ≤ t + 1 + 1 + 2 * n → H' D = some (.lst (r.map V.int)) → r.length = n → (∀ x ∈ r, 0 ≤ x ∧ x < p) → ∀ l, H' l = none → Q (.ref l) (upd H' l (.tup (r.map V.int))) := by
      intro D H' t' r k' D' ht' eB ln ro l nl
      have s2 := same_upd (o := .tup (r.map V.int)) nl
      exact q _ l r t' (k02.trans (k'.trans (Kept.of s2))) (D'.same s2) (by omega) (kept_none D' (k02.trans k') nl) upd_same (rowsOk_one ⟨ln, ro⟩)
    refine ⟨.int z1, rfl, rfl, _, rfl, ite2 (fun _ => ?_) (fun w0 => ?_)⟩
    · refine ⟨.int n, rfl, n, rfl, by omega, by omega, lc_drawn (p := p) (t := t + 1 + 1) D2 hn (fun _ => rfl) (fun k t' H' Q' D' ht' hk hQ => ?_) (fun D H' t' r k' D' ht' eB ln ro => ⟨D, _, rfl, .inl ⟨.inl (.inl eB), last D H' t' r k' D' ht' eB ln ro⟩⟩)⟩
      refine ⟨.int (0 + k), rfl, .int z2, rfl, rfl, .inr ⟨_, rfl, ?_⟩⟩
      by_cases e : V.int (0 + (k : Int)) = V.int z2
      · rw [decide_eq_true e]
        exact hQ H' t' 1 (Kept.refl _ _ _) D' (by omega) (by omega) (by omega)
      · rw [decide_eq_false e]
        exact hQ H' t' 0 (Kept.refl _ _ _) D' (by omega) (by omega) (by omega)
    refine ⟨.int z1, rfl, rfl, _, rfl, ite2 (fun _ => ?_) (fun w1 => ?_)⟩
    · refine ⟨.int n, rfl, n, rfl, by omega, by omega, lc_drawn (p := p) (t := t + 1 + 1) D2 hn (fun _ => rfl) (fun k t' H' Q' D' ht' hk hQ => ?_) (fun D H' t' r k' D' ht' eB ln ro => ⟨D, _, rfl, .inl ⟨.inl (.inl eB), last D H' t' r k' D' ht' eB ln ro⟩⟩)⟩
      exact ⟨.ref d, rfl, d, c, t', 2, rfl, D', by omega, by decide, by decide, fun H3 x k3 D3 x0 x1 => hQ H3 _ x k3 D3 (by omega) x0 (by omega)⟩
    have z0 : z1 ≠ 0 := fun e => w0 (by rw [e]; rfl)
    have z1' : z1 ≠ 1 := fun e => w1 (by rw [e]; rfl)
    refine ⟨.int n, rfl, n, rfl, by omega, by omega, lc_drawn (p := p) (t := t + 1 + 1) D2 hn (fun _ => rfl) (fun k t' H' Q' D' ht' hk hQ => ?_) (fun D H' t' r k' D' ht' eB ln ro => ⟨D, _, rfl, .inl ⟨.inl (.inl eB), last D H' t' r k' D' ht' eB ln ro⟩⟩)⟩
    refine ⟨.ref d, rfl, .int p, rfl, d, c, t', p, rfl, D', by omega, by omega, by omega, fun H3 x k3 D3 x0 x1 => ?_⟩
    refine ⟨.ref d, rfl, d, c, _, 2, rfl, D3, by omega, by decide, by decide, fun H4 y k4 D4 y0 y1 => ?_⟩
    refine ⟨sz1000 (by decide : (2 : Nat) ≤ 1000), fun o no => ?_⟩
    generalize h5 : upd H4 o _ = H5
    obtain ⟨s5, e5⟩ := new_of h5 no
    have hw : ∃ w : Int, atI [V.int 1, V.int y] (z1 - 2) = some (.int w) ∧ (w = 1 ∨ w = y) := by
      have : z1 = 2 ∨ z1 = 3 := by omega
      rcases this with rfl | rfl
      · exact ⟨1, rfl, .inl rfl⟩
      · exact ⟨y, rfl, .inr rfl⟩
    obtain ⟨w, hat, hw⟩ := hw
    refine ⟨.int z1, rfl, z1, 2, rfl, rfl, o, _, _, .int w, rfl, rfl, .inl (.inl e5), hat, x, w, rfl, rfl, .inl ⟨by omega, by omega⟩, hQ H5 _ (x * w) (k3.trans (k4.trans (Kept.of s5))) (D4.same s5) (by omega) (Int.mul_nonneg x0 (by omega)) ?_⟩
    have : w = 0 ∨ w = 1 := by omega
    rcases this with e | e
    · rw [e]; omega
    · rw [e]; omega
def sp_names3 : Sp := fun vs H Q _ => ∃ (d c : Addr) (t : Int) (m : Nat), vs = [.ref d, .int (m : Int)] ∧ Deck H d c t ∧ t ≤ 900000 ∧ m ≤ 26 ∧ ∀ H' a (xs : List Str) t', Kept d c H H' → Deck H' d c t' → t' ≤ t + 12 → H a = none → H' a = some (.lst (xs.map V.str)) → xs.length = m → sortedS xs = true → xs.Nodup → (∀ x ∈ xs, NameOk x) → Q (.ref a) H'
theorem at8 {xs : List Int} (hl : xs.length = 8) {r : Int} (h0 : 0 ≤ r) (h1 : r < 8) : ∃ z, z ∈ xs ∧ atI (xs.map V.int) r = some (V.int z) := by
  obtain ⟨x, hx, hx2, hx3⟩ := at_int (xs := xs) h0 (by omega)
  exact ⟨x, hx, hx3⟩
theorem ok__law_names (T : Top K mg) : Ok P w K mg base 2 "_law_names" ["_law_deck_here", "_law_many"] sp_names3 := by
  have O__law_draw := ok__law_draw (P := P) (w := w) (base := base) T
  refine T.d__law_names.ok sc__law_names (fun vs H Q E h => ?_) (fun f cdv A outer s H vs Q E hr h => ?_)
  · obtain ⟨d, c, t, m, rfl, _⟩ := h
    rfl
  · obtain ⟨d, c, t, m, rfl, D0, ht, hm, q⟩ := h
    refine ⟨_, ((pss_cons (ps_set (i := 2) sc__law_names.nd rfl (.inr rfl) pe_str)
      (pss_cons (ps_set (i := 3) sc__law_names.nd rfl (.inl rfl) (pe_ix ix_list (pe_lst (pa_cons pe_int (pa_cons pe_int (pa_cons pe_int (pa_cons pe_int (pa_cons pe_int (pa_cons pe_int (pa_cons pe_int (pa_cons pe_int pa_nil))))))))) (pe_callO O__law_draw (hr.mono (by omega)) (by rfl) (pa_cons (pv 0) (pa_cons pe_int pa_nil))) (fun _ _ => rfl)))
      (pss_cons (ps_set (i := 5) sc__law_names.nd rfl (.inl rfl) (pe_join pe_str (pe_lc (own := [("_law_k", 4)]) (g := gName 4) (by rfl) sc__law_names.nd (pi_range1 (by rfl) T.b_range (pa_cons (pv 3) pa_nil)) (blkOk_by (own := [("_law_k", 4)]) (N := N__law_names) (sc := defScope s__law_names) (by decide +kernel)) (fun _ _ _ _ _ => (pg_name (i := 4) sc__law_names.nd rfl (.inl rfl))) (fun _ _ _ _ _ => pts_nil) (fun _ _ _ _ _ => (pe_ix ix_str (pv 2) (pe_callO O__law_draw (hr.mono (by omega)) (by rfl) (pa_cons (pv 0) (pa_cons pe_int pa_nil))) (fun _ _ => rfl))))))
      (pss_cons (ps_set (i := 6) sc__law_names.nd rfl (.inl rfl) (pe_callO O__law_draw (hr.mono (by omega)) (by rfl) (pa_cons (pv 0) (pa_cons (pe_op op_add (pe_callB call_len_str (by rfl) T.b_len (by decide +kernel) (pa_cons (pv 5) pa_nil)) pe_int) pa_nil))))
      (pss_cons (ps_set (i := 7) sc__law_names.nd rfl (.inl rfl) (pe_callO O__law_draw (hr.mono (by omega)) (by rfl) (pa_cons (pv 0) (pa_cons pe_int pa_nil))))
      (pss_cons (ps_set (i := 8) sc__law_names.nd rfl (.inl rfl) (pe_ix ix_list (pe_lst (pa_cons pe_int (pa_cons pe_int (pa_cons pe_int (pa_cons pe_int (pa_cons pe_int (pa_cons pe_int (pa_cons pe_int (pa_cons pe_int pa_nil))))))))) (pe_callO O__law_draw (hr.mono (by omega)) (by rfl) (pa_cons (pv 0) (pa_cons pe_int pa_nil))) (fun _ _ => rfl)))
      (pss_cons (ps_set (i := 9) sc__law_names.nd rfl (.inl rfl) (pe_lst pa_nil))
      (pss_cons (ps_for PassesOwn.never (by rfl) (pi_range1 (by rfl) T.b_range (pa_cons (pv 1) pa_nil)) (pg_name (i := 4) sc__law_names.nd rfl (.inl rfl))
        (pss_cons (ps_set (i := 10) sc__law_names.nd rfl (.inl rfl) (pe_ix ix_str (pv 2) (pe_op op_mod (pe_op op_add (pv 7) (pe_op op_mul (pv 8) (pv 4))) pe_int) (fun _ _ => rfl)))
        (pss_one (ps_expr (pe_bm PySem.F.plainAttrs_list PySem.F.slot_list_append PySem.F.type_list_append mt_append (pv 9) (pa_cons (pe_op op_add_str (pe_op op_add_str (pe_slice C8.sl_txt (pv 5) po_none (po_some (pv 6))) (pv 10)) (pe_slice C8.sl_txt (pv 5) (po_some (pv 6)) po_none)) pa_nil))))))
      (pss_one (ps_ret (pe_callB cr_sortedS (by rfl) T.b_sorted (by decide +kernel) (pa_cons (pv 9) pa_nil))))))))))))), ?_⟩
    refine ⟨by decide +kernel, fun l0 n0 => ?_⟩
    dsimp only
    generalize h1 : upd H l0 _ = H1
    obtain ⟨s1, e1⟩ := new_of h1 n0
    have D1 := D0.same s1
    have b0 := D0.fresh n0
    refine ⟨.ref d, rfl, d, c, t, 8, rfl, D1, by omega, by decide, by decide, fun H2 z2 k2 D2 a0 a1 => ?_⟩
    have el0 := k2 _ _ e1 (fun z => b0 (.inl z)) (fun z => b0 (.inr z))
    obtain ⟨lg, mlg, hlg⟩ := at8 (xs := [0, 0, 1, 2, 3, 5, 6, 7]) rfl a0 a1
    have lg7 : 0 ≤ lg ∧ lg ≤ 7 := by
      have : ∀ z ∈ ([0, 0, 1, 2, 3, 5, 6, 7] : List Int), 0 ≤ z ∧ z ≤ 7 := by decide
      exact this lg mlg
    refine ⟨l0, _, z2, .int lg, rfl, rfl, .inl (.inl el0), hlg, ?_⟩
    refine ⟨⟨_, rfl⟩, .int lg, rfl, lg, rfl, by omega, by omega, fun D nD => ?_⟩
    have bD := D2.fresh nD
    refine lc_range (lo := 0) (n := lg.toNat) (fun k H' => Kept d c H2 H' ∧ ∃ (t' : Int) (cs : List Nat), Deck H' d c t' ∧ t' ≤ t + 1 + k ∧ H' D = some (.lst ((cs.map fun c => SX.S [c]).map V.str)) ∧ cs.length = k ∧ ∀ x ∈ cs, 97 ≤ x ∧ x ≤ 122) ⟨Kept.of (same_upd nD), t + 1, [], D2.same (same_upd nD), by omega, upd_same, rfl, fun x hx => nomatch hx⟩ (fun k H' hk hW => ?_) (fun H' hW => ?_)
    · obtain ⟨k', t', cs, D', ht', eB, ln, ro⟩ := hW
      refine ⟨rfl, .str lettersS, rfl, .ref d, rfl, d, c, t', 26, rfl, D', by omega, by decide, by decide, fun H3 x k3 D3 x0 x1 => ?_⟩
      refine ⟨lettersS, x, _, rfl, rfl, by decide +kernel, letters_at x0 x1, ?_⟩
      refine ⟨_, k3 _ _ eB (fun z => bD (.inl z)) (fun z => bD (.inr z)), by rw [List.length_map, List.length_map]; exact small1000 (by omega), (k'.trans k3).mut nD, t' + 1, cs ++ [97 + x.toNat], D3.mut bD, by omega, ?_, by rw [List.length_append, ln]; rfl, fun y hy => ?_⟩
      · rw [upd_same, List.map_append, List.map_append]
        rfl
      · rcases List.mem_append.mp hy with h | h
        · exact ro y h
        · rw [List.mem_singleton.mp h]
          omega
    obtain ⟨k3, t3, cs, D3, ht3, eB, ln, ro⟩ := hW
    refine ⟨_, D, _, rfl, rfl, .inl (.inl (.inl eB)), ?_, ?_⟩
    · rw [ones_sum, List.length_map, ln, show (Str.ofString "").length = 0 from rfl]
      omega
    rw [join_cs]
    have lcs : (SX.S cs).length = cs.length := SX.S_len cs
    have sz : (SX.S cs).length ≤ sizeLine := by rw [lcs]; exact Nat.le_of_lt (small1000 (by omega))
    refine ⟨.ref d, rfl, .str (SX.S cs), rfl, _, rfl, sz, _, 1, rfl, rfl, d, c, t3, _, rfl, D3, by omega, by rw [lcs]; omega, by rw [lcs]; omega, fun H4 cut k4 D4 c0 c1 => ?_⟩
    refine ⟨.ref d, rfl, d, c, t3 + 1, 26, rfl, D4, by omega, by decide, by decide, fun H5 fi k5 D5 f0 f1 => ?_⟩
    refine ⟨by decide +kernel, fun l6 n6 => ?_⟩
    dsimp only
    generalize h6 : upd H5 l6 _ = H6
    obtain ⟨s6, e6⟩ := new_of h6 n6
    have D6 := D5.same s6
    have b6 := D5.fresh n6
    refine ⟨.ref d, rfl, d, c, t3 + 1 + 1, 8, rfl, D6, by omega, by decide, by decide, fun H7 z7 k7 D7 g0 g1 => ?_⟩
    have el6 := k7 _ _ e6 (fun z => b6 (.inl z)) (fun z => b6 (.inr z))
    obtain ⟨st, mst, hst⟩ := at8 (xs := [1, 3, 5, 7, 9, 11, 15, 17]) rfl g0 g1
    have hs8 : st = 1 ∨ st = 3 ∨ st = 5 ∨ st = 7 ∨ st = 9 ∨ st = 11 ∨ st = 15 ∨ st = 17 := by
      have : ∀ z ∈ ([1, 3, 5, 7, 9, 11, 15, 17] : List Int), z = 1 ∨ z = 3 ∨ z = 5 ∨ z = 7 ∨ z = 9 ∨ z = 11 ∨ z = 15 ∨ z = 17 := by decide
      exact this st mst
    refine ⟨l6, _, z7, .int st, rfl, rfl, .inl (.inl el6), hst, ?_⟩
    refine ⟨Nat.zero_le _, fun L nL => ?_⟩
    generalize h8' : upd H7 L _ = H8
    obtain ⟨s8', e8'⟩ := new_of h8' nL
    have k07 : Kept d c H H7 := (Kept.of s1).trans (k2.trans (k3.trans (k4.trans (k5.trans ((Kept.of s6).trans k7)))))
    refine ⟨.int m, rfl, m, rfl, by omega, by omega, for_range (lo := 0) (n := (m : Int).toNat) (fun k σ H' => Same H7 H' ∧ ∃ y4 y10 : Option V, H' L = some (.lst (((List.range k).map (nameAt cs cut fi st)).map V.str)) ∧ σ = [some (.ref d), some (.int (m : Int)), some (.str lettersS), some (.int lg), y4, some (.str (SX.S cs)), some (.int cut), some (.int fi), some (.int st), some (.ref L), y10]) ⟨s8', none, none, e8', rfl⟩ (fun k σ H' hk hW => ?_) (fun σ H' hW => ?_)⟩
    · obtain ⟨s8, y4, y10, e8, rfl⟩ := hW
      have sk : 0 ≤ st * k ∧ st * k ≤ 17 * 26 := by
        rcases hs8 with rfl | rfl | rfl | rfl | rfl | rfl | rfl | rfl
        all_goals omega
      have r0 := Int.emod_nonneg (fi + st * k) (b := 26) (by decide)
      have r1 := Int.emod_lt_of_pos (fi + st * k) (b := 26) (by decide)
      have l1 : (SX.S (cs.take cut.toNat)).length ≤ 7 := by
        rw [SX.S_len, List.length_take]
        omega
      have l2 : (SX.S (cs.drop cut.toNat)).length ≤ 7 := by
        rw [SX.S_len, List.length_drop]
        omega
      refine ⟨.str lettersS, rfl, .int fi, rfl, .int st, rfl, .int (0 + k), rfl, ?_⟩
      rw [show (0 : Int) + (k : Int) = (k : Int) by omega]
      refine ⟨st, k, rfl, rfl, .inl ⟨by omega, by omega⟩, fi, _, rfl, rfl, _, 26, rfl, rfl, show (0 : Int) < 26 by decide, lettersS, _, _, rfl, rfl, by decide +kernel, letters_at r0 r1, ?_⟩
      refine ⟨.ref L, rfl, .inl ⟨rfl, _, .inl (.inl e8)⟩, .str (SX.S cs), rfl, .int cut, rfl, cut, rfl, _, rfl, sz, .str _, rfl, ?_⟩
      rw [SX.slice_to c0]
      refine ⟨_, _, rfl, rfl, ?_, .str (SX.S cs), rfl, .int cut, rfl, cut, rfl, _, rfl, sz, ?_⟩
      · exact Nat.le_of_lt (small1000 (by rw [show (Str.length ⟨#[97 + ((fi + st * k) % 26).toNat]⟩) = 1 from rfl]; omega))
      rw [SX.slice_from c0]
      refine ⟨_, _, rfl, rfl, ?_, L, _, _, rfl, rfl, e8, by rw [List.length_map, List.length_map, List.length_range]; exact small1000 (by omega), same_mut s8 nL, _, _, ?_, rfl⟩
      · refine Nat.le_of_lt (small1000 ?_)
        rw [show (Str.mk #[97 + ((fi + st * k) % 26).toNat]) = SX.S [97 + ((fi + st * k) % 26).toNat] from rfl, SX.S_cat, SX.S_len, List.length_append]
        rw [SX.S_len] at l1
        simp only [List.length_cons, List.length_nil]
        omega
      · rw [upd_same, List.range_succ, List.map_append, List.map_append]
        rw [show (Str.mk #[97 + ((fi + st * k) % 26).toNat]) = SX.S [97 + ((fi + st * k) % 26).toNat] from rfl, SX.S_cat, SX.S_cat, List.append_assoc]
        rfl
    · obtain ⟨s8, y4, y10, e8, rfl⟩ := hW
      refine ⟨.ref L, rfl, L, _, rfl, .inl (.inl e8), by rw [List.length_map, List.length_range]; omega, fun ys p pm so np => ?_⟩
      have s9 := same_upd (o := .lst (ys.map V.str)) np
      refine q _ p ys _ ((k07.trans (Kept.of s8)).trans (Kept.of s9)) ((D7.same s8).same s9) (by omega) (kept_none (D7.same s8) (k07.trans (Kept.of s8)) np) upd_same ?_ so (pm.nodup_iff.mpr (names_nodup hs8 (by omega))) (fun x hx => ?_)
      · rw [pm.length_eq, List.length_map, List.length_range]
        omega
      · obtain ⟨i, _, rfl⟩ := List.mem_map.mp (pm.mem_iff.mp hx)
        exact nameAt_ok ro (by omega)
end
end OC
set_option Elab.async false
set_option linter.all false
set_option maxRecDepth 100000
set_option maxHeartbeats 4000000
namespace OC
open PySem PySem.Spec PyProof.Rows L2
section
variable {P : Program} {w : World} {K : PySem.W.Frag} {mg : Str → Option Value} {base : Heap}
def sp_lwithin (K : PySem.W.Frag) : Sp := fun vs H Q _ => ∃ (a b : Addr) (ws : List V) (room : List (List Int)) (r : List Int) (p : Int) (n : Nat), vs = [.int p, .ref a, .ref b] ∧ (SqL K H a ws ∨ SqT K H a ws) ∧ DpAll K H ws (room.map rowD) ∧ SqT K H b (r.map V.int) ∧ RowsOk p n room ∧ (∀ c ∈ room, fpR c < n) ∧ RowsOk p n [r] ∧ 0 < p ∧ p ≤ 1000 ∧ 1 ≤ n ∧ n ≤ 100 ∧ room.length ≤ 100 ∧
  ∀ H' (x : Bool), Same H H' → (x = true ↔ ∀ y ∈ leftR p room r, y = 0) → Q (.bl x) H'
theorem ok__law_within (T : Top K mg) : Ok P w K mg base 2 "_law_within" ["_law_p", "_law_room_here", "_law_row_here"] (sp_lwithin K) := by
  have O__law_left := ok__law_left (P := P) (w := w) (base := base) T
  refine T.d__law_within.ok sc__law_within (fun vs H Q E h => ?_) (fun f cdv A outer s H vs Q E hr h => ?_)
  · obtain ⟨a, b, ws, room, r, p, n, rfl, _⟩ := h
    rfl
  · obtain ⟨a, b, ws, room, r, p, n, rfl, hA, hR, hB, ok, fp, okr, hp, hp2, hn1, hn, lr, q⟩ := h
    have okl := left_ok hp room r ok okr _ List.mem_cons_self
    refine ⟨_, ((pss_one (ps_ret (pe_cmpR op_eq (pe_callB (cr_maxI (by rfl)) (by rfl) T.b_max (by decide +kernel) (pa_cons (pe_callO O__law_left (hr.mono (by omega)) (by rfl) (pa_cons (pv 0) (pa_cons (pv 1) (pa_cons (pv 2) pa_nil)))) pa_nil)) pe_int (nomark _))))), ?_⟩
    refine ⟨.int p, rfl, .ref a, rfl, .ref b, rfl, a, b, ws, room, r, p, n, rfl, hA, hR, hB, ok, fp, okr, hp, hp2, hn, lr, fun H1 l s1 e1 => ?_⟩
    refine ⟨l, _, rfl, .inl (.inl e1), by rw [okl.1]; omega, fun m mm hm => ⟨rfl, ?_⟩⟩
    refine q H1 _ s1 ⟨fun e y hy => ?_, fun h => ?_⟩
    · have e : m = 0 := by
        have := of_decide_eq_true e
        injection this
      have := hm y hy
      have := (okl.2 y hy).1
      omega
    · rw [h m mm]
      rfl
def sp_lmade (K : PySem.W.Frag) : Sp := fun vs H Q _ => ∃ (a b : Addr) (ws : List V) (rs : List (List Int)) (fs : List Int) (p : Int) (n : Nat), vs = [.int p, .int (n : Int), .ref a, .ref b] ∧ SqL K H a ws ∧ DpAll K H ws (rs.map rowD) ∧ SqL K H b (fs.map V.int) ∧ rs.length = fs.length ∧ 0 < p ∧ p ≤ 1000 ∧ n ≤ 100 ∧ (∀ r ∈ rs, r.length = n ∧ ∀ x ∈ r, 0 ≤ x ∧ x < 1000) ∧ (∀ f ∈ fs, 0 ≤ f ∧ f ≤ 1000) ∧
  ∀ H' l, Same H H' → H' l = some (.tup ((madeR p (List.replicate n 0) (rs.zip fs)).map V.int)) → Q (.ref l) H'
theorem plus_at {p m : Int} {x y : List Int} {k n : Nat} (hx : x.length = n) (hy : y.length = n) (hk : k < n) : (plusR p x y m).take (k + 1) = (plusR p x y m).take k ++ [(x.getD k 0 + m * y.getD k 0) % p] := by
  have g : (plusR p x y m)[k]? = some ((x.getD k 0 + m * y.getD k 0) % p) := by
    unfold plusR
    rw [List.getElem?_zipWith, List.getElem?_eq_getElem (l := x) (by omega), List.getElem?_eq_getElem (l := y) (by omega), gd_lt (r := x) (i := k) (by omega), gd_lt (r := y) (i := k) (by omega)]
  rw [List.take_add_one, g]
  rfl
theorem flat_noughts (k : Nat) : (List.replicate k [V.int 0]).flatten = (List.replicate k (0 : Int)).map V.int := by
  induction k with
  | zero => rfl
  | succ k ih => rw [List.replicate_succ, List.flatten_cons, ih, List.replicate_succ, List.map_cons]; rfl
theorem ok__law_made_of (T : Top K mg) : Ok P w K mg base 1 "_law_made_of" ["_law_p", "_law_n", "_law_rows_here", "_law_factors"] (sp_lmade K) := by
  refine T.d__law_made_of.ok sc__law_made_of (fun vs H Q E h => ?_) (fun f cdv A outer s H vs Q E hr h => ?_)
  · obtain ⟨a, b, ws, rs, fs, p, n, rfl, _⟩ := h
    rfl
  · obtain ⟨a, b, ws, rs, fs, p, n, rfl, hA, hR, hB, hl, hp, hp2, hn, hln, hf, q⟩ := h
    have lw := rows_len hR
    refine ⟨_, ((pss_cons (ps_set (i := 4) sc__law_made_of.nd rfl (.inr rfl) (pe_op op_rep (pe_lst (pa_cons pe_int pa_nil)) (pv 1)))
      (pss_cons (ps_for PassesOwn.never (by rfl) (RZ.pi_zipA (by rfl) T.b_zip (pa_cons (pv 2) (pa_cons (pv 3) pa_nil))) (pg_tup (by rfl) (pgs_cons (pg_name (i := 5) sc__law_made_of.nd rfl (.inr rfl)) (pgs_cons (pg_name (i := 6) sc__law_made_of.nd rfl (.inr rfl)) pgs_nil)))
        (pss_one (ps_set (i := 4) sc__law_made_of.nd rfl (.inr rfl) (pe_lc (own := [("_law_k", 7)]) (g := gName 7) (by rfl) sc__law_made_of.nd (pi_range1 (by rfl) T.b_range (pa_cons (pv 1) pa_nil)) (blkOk_by (own := [("_law_k", 7)]) (N := N__law_made_of) (sc := defScope s__law_made_of) (by decide +kernel)) (fun _ _ _ _ _ => (pg_name (i := 7) sc__law_made_of.nd rfl (.inl rfl))) (fun _ _ _ _ _ => pts_nil) (fun _ _ _ _ _ => (pe_op op_mod (pe_op op_add (pe_ix (show IxR _ (rIxL K) from ix_list) (pv 4) (pv 7) (fun _ _ => rfl)) (pe_op op_mul (pv 6) (pe_ix (show IxR _ (rIxT K) from ix_tup) (pv 5) (pv 7) (fun _ _ => rfl)))) (pv 0)))))))
      (pss_one (ps_ret (pe_callTy call_tuple_of (by rfl) T.b_tuple (by decide +kernel) (pa_cons (pv 4) pa_nil))))))), ?_⟩
    refine ⟨sz1000 (by decide : (1 : Nat) ≤ 1000), fun z nz => ?_⟩
    generalize h1 : upd H z _ = H1
    obtain ⟨s1, e1⟩ := new_of h1 nz
    refine ⟨.int n, rfl, z, n, _, rfl, rfl, e1, by omega, by omega, Nat.le_of_lt (small1000 (by show 1 * ((n : Int)).toNat ≤ 1000; omega)), fun y ny => ?_⟩
    rw [show ((n : Int)).toNat = n from rfl, flat_noughts]
    generalize h2 : upd H1 y _ = H2
    obtain ⟨s2, e2⟩ := new_of h2 ny
    have s12 := s1.trans s2
    have hR2 := dpAll_same s12 _ _ hR
    refine ⟨.ref a, rfl, .ref b, rfl, a, b, _, _, rfl, .inl ⟨sql_same3 s12 hA, sql_same3 s12 hB, ?_⟩⟩
    refine RZ.for_zipL (K := K) (a := a) (b := b) (xs := ws) (ys := fs.map V.int) (by rw [List.length_map]; omega) (fun i σ H' => Same H2 H' ∧ ∃ (l : Addr) (y5 y6 y7 : Option V), H' l = some (.lst ((madeR p (List.replicate n 0) ((rs.zip fs).take i)).map V.int)) ∧ σ = [some (.int p), some (.int (n : Int)), some (.ref a), some (.ref b), some (.ref l), y5, y6, y7]) ⟨Same.refl H2, y, none, none, none, e2, rfl⟩ (fun i σ H' hW => ⟨sql_same3 (s12.trans hW.1) hA, sql_same3 (s12.trans hW.1) hB⟩) (fun i x f1 Ta σ H3 g1 g2 hW nT => ?_) (fun σ H' hW => ?_)
    · obtain ⟨sm, l, y5, y6, y7, el, rfl⟩ := hW
      obtain ⟨c, r, rfl, gr, mr, hc⟩ := dpAll_row hR2 g1
      rw [List.getElem?_map] at g2
      obtain ⟨f, hfi, rfl⟩ := Option.map_eq_some_iff.mp g2
      have mf := hf f (List.mem_of_getElem? hfi)
      have sT : Same H3 (upd H3 Ta (.tup [.ref c, .int f])) := same_upd nT
      have hr1 := hln r mr
      have gz : (rs.zip fs)[i]? = some (r, f) := by
        rw [List.getElem?_zip_eq_some]
        exact ⟨gr, hfi⟩
      have ml : (madeR p (List.replicate n 0) ((rs.zip fs).take i)).length = n := made_len p n _ _ List.length_replicate fun x hx => (hln x.1 (List.of_mem_zip (List.mem_of_mem_take hx)).1).1
      have mb : ∀ x ∈ madeR p (List.replicate n 0) ((rs.zip fs).take i), 0 ≤ x ∧ x < p := made_bd hp _ _ (row_noughts' hp n).2
      have mt := made_take (p := p) (z := List.replicate n 0) gz
      generalize madeR p (List.replicate n 0) ((rs.zip fs).take i) = cur at el ml mb mt
      refine ⟨Ta, [.ref c, .int f], rfl, .inl (.inl upd_same), rfl, .ref c, [.int f], rfl, .int f, [], rfl, rfl, ?_⟩
      generalize hg4 : upd H3 Ta _ = H4 at sT
      have hc4 := Same.tup (sm.trans sT) hc
      have el4 := sT _ _ el
      refine ⟨.int n, rfl, n, rfl, by omega, by omega, fun D nD => ?_⟩
      rw [show ((n : Int)).toNat = n from rfl]
      refine lc_range (lo := 0) (n := n) (fun k H5 => Same H4 H5 ∧ H5 D = some (.lst (((plusR p cur r f).take k).map V.int))) ⟨same_upd nD, upd_same⟩ (fun k H5 hk hP => ?_) (fun H5 hP => ?_)
      · obtain ⟨s5, eD⟩ := hP
        have b1 := getD_lt hp mb k
        have b2 := getD_lt (by decide) hr1.2 k
        have b3 : 0 ≤ f * r.getD k 0 := Int.mul_nonneg mf.1 b2.1
        have b4 : f * r.getD k 0 ≤ 1000 * 1000 := Int.mul_le_mul mf.2 (by omega) b2.1 (by decide)
        refine ⟨rfl, .ref l, rfl, .int (0 + k), rfl, l, _, _, _, rfl, rfl, .inl (.inl (s5 _ _ el4)), by rw [show (0 : Int) + (k : Int) = (k : Int) by omega]; exact at_row (by omega), .int f, rfl, .ref c, rfl, .int (0 + k), rfl, c, _, _, _, rfl, rfl, Same.tup s5 hc4, by rw [show (0 : Int) + (k : Int) = (k : Int) by omega]; exact at_row (by omega), _, _, rfl, rfl, .inl ⟨by omega, by omega⟩, _, _, rfl, rfl, .int p, rfl, _, p, rfl, rfl, hp, _, eD, ?_, same_mut s5 nD, ?_⟩
        · rw [List.length_map, List.length_take]
          exact Nat.lt_of_le_of_lt (Nat.min_le_left _ _) (small1000 (by omega))
        · rw [upd_same, plus_at ml hr1.1 (by omega), List.map_append]
          rfl
      · obtain ⟨s5, eD⟩ := hP
        rw [List.take_of_length_le (by unfold plusR; rw [List.length_zipWith]; omega)] at eD
        refine ⟨(sm.trans sT).trans s5, D, _, _, _, ?_, rfl⟩
        rw [mt]
        exact eD
    · obtain ⟨sm, l, y5, y6, y7, el, rfl⟩ := hW
      rw [List.take_of_length_le (by rw [List.length_zip]; omega)] at el
      refine ⟨.ref l, rfl, l, _, rfl, .inl ⟨.inl (.inl el), fun o no => ?_⟩⟩
      generalize h5 : upd H' o _ = H5
      obtain ⟨s5, e5⟩ := new_of h5 no
      exact q H5 o ((s12.trans sm).trans s5) e5
/-- drawn rests, one for each item of a list or tuple -/
theorem lc_drawnW {J : It} {G : Hp → Prop} {vs : List V} {d c : Addr} {t p : Int} {σ : L2.St} {H : Hp} {Qd : Addr → Hp → Prop} {i : Nat} {sl : List Nat} {te : TE} (w : Walk J vs.length G (YAt vs)) (D0 : Deck H d c t) (hG : ∀ H', Kept d c H H' → G H') (hn : vs.length ≤ 100) (hw : ∀ x : Option V, wipe ((wipe σ sl).set i x) sl = wipe σ sl)
    (hte : ∀ (v : V) (k : Nat) (t' : Int) (H' : Hp) (Q' : VK), Kept d c H H' → Deck H' d c t' → t' ≤ t + 2 * k → k < vs.length → (∀ H'' t'' x, Kept d c H' H'' → Deck H'' d c t'' → t'' ≤ t' + 2 → 0 ≤ x → x < p → Q' (.int x) H'') → te ((wipe σ sl).set i (some v)) H' Q')
    (hd : ∀ (D : Addr) (H' : Hp) (t' : Int) (r : List Int), Kept d c H H' → Deck H' d c t' → t' ≤ t + 2 * vs.length → H D = none → H' D = some (.lst (r.map V.int)) → r.length = vs.length → (∀ x ∈ r, 0 ≤ x ∧ x < p) → Qd D H') :
    LcGoal J (gName i) tYes te sl σ H Qd := by
  intro D nD
  have bD := D0.fresh nD
  refine lc_it w (fun k H' => Kept d c H H' ∧ ∃ (t' : Int) (r : List Int), Deck H' d c t' ∧ t' ≤ t + 2 * k ∧ H' D = some (.lst (r.map V.int)) ∧ r.length = k ∧ ∀ x ∈ r, 0 ≤ x ∧ x < p) ⟨Kept.of (same_upd nD), t, [], D0.same (same_upd nD), by omega, upd_same, rfl, fun x hx => (nomatch hx)⟩ (fun k H' _ hP => hG H' hP.1) (fun k v H1 H2 hk hP hY => ?_) (fun H' hW => ?_)
  · obtain ⟨rfl, _⟩ := hY
    obtain ⟨k', t', r, D', ht', eB, ln, ro⟩ := hP
    refine ⟨hw _, hte v k t' _ _ k' D' ht' hk fun H1 t1 x k1 D1 ht1 x0 x1 => ?_⟩
    refine ⟨r.map V.int, k1 _ _ eB (fun z => bD (.inl z)) (fun z => bD (.inr z)), by rw [List.length_map]; exact small1000 (by omega), (k'.trans k1).mut nD, t1, r ++ [x], D1.mut bD, by omega, ?_, by rw [List.length_append, ln]; rfl, fun y hy => ?_⟩
    · rw [upd_same, List.map_append]
      rfl
    · rcases List.mem_append.mp hy with h | h
      · exact ro y h
      · have : y = x := by simpa using h
        rw [this]
        exact ⟨x0, x1⟩
  · obtain ⟨k', t', r, D', ht', eB, ln, ro⟩ := hW
    exact hd D H' t' r k' D' ht' nD eB ln ro
theorem some_of {c : Prop} [Decidable c] : ∃ w : Int, (if decide c then (1 : Int) else 0) = w ∧ (w = 0 ∨ w = 1) := by
  by_cases h : c
  · rw [decide_eq_true h]
    exact ⟨1, rfl, .inr rfl⟩
  · rw [decide_eq_false h]
    exact ⟨0, rfl, .inl rfl⟩
def sp_crows (K : PySem.W.Frag) : Sp := fun vs H Q _ => ∃ (d c o : Addr) (t p : Int) (n : Nat) (ws : List V) (rs : List (List Int)), vs = [.ref d, .int p, .int (n : Int), .ref o] ∧ Deck H d c t ∧ t ≤ 800000 ∧ 2 ≤ p ∧ p ≤ 1000 ∧ n ≤ 100 ∧ H o = some (.lst ws) ∧ DpAll K H ws (rs.map rowD) ∧ ¬ Bad d c o ∧ RowsOk p n rs ∧ 1 ≤ rs.length ∧ rs.length ≤ 10 ∧
  ∀ H' l ws' gs t', Kept d c H H' → Deck H' d c t' → t' ≤ t + 100 → H l = none → H' l = some (.lst ws') → DpAll K H' ws' (gs.map rowD) → RowsOk p n gs → gs.length ≤ 3 → Q (.ref l) H'
theorem ok__law_rows (T : Top K mg) : Ok P w K mg base 2 "_law_rows" ["_law_deck_here", "_law_p", "_law_n", "_law_pool"] (sp_crows K) := by
  have O__law_draw := ok__law_draw (P := P) (w := w) (base := base) T
  have O__law_made_of := ok__law_made_of (P := P) (w := w) (base := base) T
  refine T.d__law_rows.ok sc__law_rows (fun vs H Q E h => ?_) (fun f cdv A outer s H vs Q E hr h => ?_)
  · obtain ⟨d, c, o, t, p, n, ws, rs, rfl, _⟩ := h
    rfl
  · obtain ⟨d, c, o, t, p, n, ws, rs, rfl, D0, ht, hp1, hp2, hn, eo, dr, bo, okr, lr1, lr2, q⟩ := h
    have lw := rows_len dr
    refine ⟨_, ((pss_cons (ps_set (i := 4) sc__law_rows.nd rfl (.inl rfl) (pe_lst pa_nil))
      (pss_cons (ps_for PassesOwn.never (by rfl) (pi_range1 (by rfl) T.b_range (pa_cons (pe_callO O__law_draw (hr.mono (by omega)) (by rfl) (pa_cons (pv 0) (pa_cons pe_int pa_nil))) pa_nil)) (pg_name (i := 5) sc__law_rows.nd rfl (.inl rfl))
        (pss_cons (ps_setLc (i := 7) (own := [("_law_row_here", 6)]) (g := gName 6) (by rfl) sc__law_rows.nd rfl rfl (sw_true rfl rfl rfl (by decide +kernel)) (pi_list (pv 3)) (blkOk_by (own := [("_law_row_here", 6)]) (N := N__law_rows) (sc := defScope s__law_rows) (by decide +kernel)) (fun _ _ _ _ _ => (pg_name (i := 6) sc__law_rows.nd rfl (.inl rfl))) (fun _ _ _ _ _ => pts_nil) (fun _ _ _ _ _ => (pe_op op_mul (pe_callO O__law_draw (hr.mono (by omega)) (by rfl) (pa_cons (pv 0) (pa_cons (pv 1) pa_nil))) (pe_callTy call_int1 (by rfl) T.b_int (by decide +kernel) (pa_cons (pe_cmpR op_eq (pe_callO O__law_draw (hr.mono (by omega)) (by rfl) (pa_cons (pv 0) (pa_cons pe_int pa_nil))) pe_int (nomark _)) pa_nil)))))
        (pss_cons (ps_set (i := 8) sc__law_rows.nd rfl (.inl rfl) (pe_callO O__law_draw (hr.mono (by omega)) (by rfl) (pa_cons (pv 0) (pa_cons (pe_callB call_len_seq (by rfl) T.b_len (by decide +kernel) (pa_cons (pv 3) pa_nil)) pa_nil))))
        (pss_cons (ps_asg (pe_op op_add pe_int (pe_callO O__law_draw (hr.mono (by omega)) (by rfl) (pa_cons (pv 0) (pa_cons (pe_op op_sub (pv 1) pe_int) pa_nil)))) (pg_sub (pv 7) (pv 8) set_list))
        (pss_one (ps_expr (pe_bm PySem.F.plainAttrs_list PySem.F.slot_list_append PySem.F.type_list_append mt_append (pv 4) (pa_cons (pe_callO O__law_made_of (hr.mono (by omega)) (by rfl) (pa_cons (pv 1) (pa_cons (pv 2) (pa_cons (pv 3) (pa_cons (pv 7) pa_nil))))) pa_nil))))))))
      (pss_one (ps_ret (pv 4)))))), ?_⟩
    refine ⟨Nat.zero_le _, fun f0 nf => ?_⟩
    generalize h1 : upd H f0 _ = H1
    obtain ⟨s1, e1⟩ := new_of h1 nf
    have D1 := D0.same s1
    have b0 := D0.fresh nf
    refine ⟨.ref d, rfl, d, c, t, 4, rfl, D1, by omega, by decide, by decide, fun H2 m k2 D2 m0 m1 => ?_⟩
    have e2 := k2 _ _ e1 (fun z => b0 (.inl z)) (fun z => b0 (.inr z))
    refine ⟨m, rfl, by omega, by omega, for_range (lo := 0) (n := m.toNat) (fun k σ H' => Kept d c H H' ∧ ∃ (t' : Int) (ws' : List V) (gs : List (List Int)) (y5 y6 y7 y8 : Option V), Deck H' d c t' ∧ t' ≤ t + 1 + 25 * k ∧ H' f0 = some (.lst ws') ∧ DpAll K H' ws' (gs.map rowD) ∧ RowsOk p n gs ∧ gs.length = k ∧ σ = [some (.ref d), some (.int p), some (.int (n : Int)), some (.ref o), some (.ref f0), y5, y6, y7, y8]) ⟨(Kept.of s1).trans k2, t + 1, [], [], none, none, none, none, D2, by omega, e2, .nil, fun x hx => (nomatch hx), rfl, rfl⟩ (fun k σ H3 hk hW => ?_) (fun σ H3 hW => ?_)⟩
    · obtain ⟨k3, t3, ws', gs, y5, y6, y7, y8, D3, ht3, e3, dg, okg, lg, rfl⟩ := hW
      have eo3 := k3 _ _ eo (fun z => bo (.inl z)) (fun z => bo (.inr z))
      have dr3 := dpAll_tk (Tk.kept D0 k3) _ _ (noL_rows rs) dr
      have lwg := rows_len dg
      refine ⟨.ref o, rfl, o, rfl, ⟨_, .inl (.inl eo3)⟩, lc_drawnW (p := p) (t := t3) (walk_list (K := K) (a := o) (xs := ws)) D3 (fun H' k' => .inl (.inl (k' _ _ eo3 (fun z => bo (.inl z)) (fun z => bo (.inr z))))) (by omega) (fun _ => rfl) (fun v j t' H' Q' kH D' ht' hj hQ => ?_) (fun L H4 t4 fs k4 D4 ht4 nL eL lf bf => ?_)⟩
      · refine ⟨.ref d, rfl, .int p, rfl, d, c, t', p, rfl, D', by omega, by omega, by omega, fun Ha x ka Da x0 x1 => ?_⟩
        refine ⟨.ref d, rfl, d, c, _, 3, rfl, Da, by omega, by decide, by decide, fun Hb y kb Db y0 y1 => ⟨rfl, .inr ⟨_, rfl, ?_⟩⟩⟩
        obtain ⟨w, ew, hw⟩ := some_of (c := V.int y = V.int 0)
        rw [ew]
        refine ⟨x, w, rfl, rfl, .inl ⟨by omega, by omega⟩, hQ Hb _ (x * w) (ka.trans kb) Db (by omega) (Int.mul_nonneg x0 (by omega)) ?_⟩
        rcases hw with e | e
        · rw [e]; omega
        · rw [e]; omega
      have bL := D3.fresh nL
      have eo4 := k4 _ _ eo3 (fun z => bo (.inl z)) (fun z => bo (.inr z))
      refine ⟨.ref d, rfl, .ref o, rfl, o, _, rfl, .inl (.inl (.inl eo4)), d, c, t4, _, rfl, D4, by omega, by omega, by omega, fun H5 sp k5 D5 p0 p1 => ?_⟩
      have eL5 := k5 _ _ eL (fun z => bL (.inl z)) (fun z => bL (.inr z))
      refine ⟨.ref d, rfl, .int p, rfl, p, 1, rfl, rfl, d, c, _, p - 1, rfl, D5, by omega, by omega, by omega, fun H6 z k6 D6 z0 z1 => ?_⟩
      have eL6 := k6 _ _ eL5 (fun z => bL (.inl z)) (fun z => bL (.inr z))
      refine ⟨1, z, rfl, rfl, .ref L, rfl, .int sp, rfl, L, _, sp, _, rfl, rfl, eL6, ix_nat p0 (by rw [List.length_map]; omega), ?_⟩
      rw [← List.map_set (f := V.int)]
      have k36 := k4.trans (k5.trans k6)
      have bfs : ∀ x ∈ fs.set sp.toNat (1 + z), 0 ≤ x ∧ x ≤ 1000 := fun x hx => by
        rcases List.mem_or_eq_of_mem_set hx with h | h
        · have := bf x h; omega
        · omega
      have lfs : (fs.set sp.toNat (1 + z)).length = rs.length := by
        rw [List.length_set]
        omega
      generalize fs.set sp.toNat (1 + z) = gfs at bfs lfs
      have k37 := k36.mut (o := .lst (gfs.map V.int)) nL
      have D7 := D6.mut (B := L) (o := .lst (gfs.map V.int)) bL
      have eL7 : upd H6 L (.lst (gfs.map V.int)) L = some (.lst (gfs.map V.int)) := upd_same
      generalize upd H6 L (.lst (gfs.map V.int)) = H7 at k37 D7 eL7
      have e7 := k37 _ _ e3 (fun z => b0 (.inl z)) (fun z => b0 (.inr z))
      have eo7 := k37 _ _ eo3 (fun z => bo (.inl z)) (fun z => bo (.inr z))
      have dr7 := dpAll_tk (Tk.kept D3 k37) _ _ (noL_rows rs) dr3
      have dg7 := dpAll_tk (Tk.kept D3 k37) _ _ (noL_rows gs) dg
      refine ⟨.ref f0, rfl, .inl ⟨rfl, _, .inl (.inl e7)⟩, .int p, rfl, .int n, rfl, .ref o, rfl, .ref L, rfl, o, L, ws, rs, gfs, p, n, rfl, .inl (.inl eo7), dr7, .inl (.inl eL7), lfs.symm, by omega, hp2, hn, fun r hr => ⟨(okr r hr).1, fun x hx => by have := (okr r hr).2 x hx; omega⟩, bfs, fun H8 l s8 e8 => ?_⟩
      have e78 := s8 _ _ e7
      have tk : Tk H8 (upd H8 f0 (.lst (ws' ++ [.ref l]))) := (Tk.refl _).mut e78
      have nlf : l ≠ f0 := fun z => by subst z; rw [e8] at e78; cases e78
      refine ⟨f0, _, _, rfl, rfl, e78, small1000 (by omega), (k3.trans (k37.trans (Kept.of s8))).mut nf, _, ws' ++ [.ref l], gs ++ [madeR p (List.replicate n 0) (rs.zip gfs)], _, _, _, _, (D7.same s8).mut b0, by omega, upd_same, ?_, fun r hr => ?_, by rw [List.length_append, lg]; rfl, rfl⟩
      · rw [List.map_append]
        refine dpAll_append (dpAll_tk ((Tk.of s8).trans tk) _ _ (noL_rows gs) dg7) (.cons (.tup (.inl (.inl ?_)) (dpAll_ints _)) .nil)
        rw [upd_ne nlf]
        exact e8
      · rcases List.mem_append.mp hr with hr | hr
        · exact okg r hr
        · rw [List.mem_singleton.mp hr]
          exact ⟨made_len p n _ _ List.length_replicate fun x hx => (okr x.1 (List.of_mem_zip hx).1).1, made_bd (by omega) _ _ (row_noughts' (by omega) n).2⟩
    · obtain ⟨k3, t3, ws', gs, y5, y6, y7, y8, D3, ht3, e3, dg, okg, lg, rfl⟩ := hW
      exact ⟨.ref f0, rfl, q H3 f0 ws' gs t3 k3 D3 (by omega) nf e3 dg okg (by omega)⟩
end
end OC
set_option Elab.async false
set_option linter.all false
set_option maxRecDepth 100000
set_option maxHeartbeats 4000000
namespace OC
open PySem PySem.Spec PyProof.Rows L2
section
variable {P : Program} {w : World} {K : PySem.W.Frag} {mg : Str → Option Value} {base : Heap}
theorem fld_c {p : Int} (h : p ∈ ([5, 5, 7, 11, 13, 31, 101] : List Int)) : Fld p ∧ 5 ≤ p ∧ p ≤ 101 := by
  simp only [List.mem_cons, List.not_mem_nil, or_false] at h
  rcases h with rfl | rfl | rfl | rfl | rfl | rfl | rfl
  · exact ⟨fld_of (p := 5) (by decide +kernel), by decide, by decide⟩
  · exact ⟨fld_of (p := 5) (by decide +kernel), by decide, by decide⟩
  · exact ⟨fld_of (p := 7) (by decide +kernel), by decide, by decide⟩
  · exact ⟨fld_of (p := 11) (by decide +kernel), by decide, by decide⟩
  · exact ⟨fld_of (p := 13) (by decide +kernel), by decide, by decide⟩
  · exact ⟨fld_of (p := 31) (by decide +kernel), by decide, by decide⟩
  · exact ⟨fld_of (p := 101) (by decide +kernel), by decide, by decide⟩
def sp_cstand (K : PySem.W.Frag) : Sp := fun vs H Q _ => ∃ (d c : Addr) (t u wd : Int), vs = [.ref d, .int u, .int wd] ∧ Deck H d c t ∧ t ≤ 700000 ∧ 2 ≤ u ∧ u ≤ 9 ∧ 1 ≤ wd ∧ wd ≤ 8 ∧
  ∀ H' a t' p (n : Nat) kn hs, Kept d c H H' → Deck H' d c t' → t' ≤ t + 3000 → StandAt K H' a p n kn hs → Stand5 p n kn hs → p ≤ 101 → (n : Int) ≤ wd → (hs.length : Int) ≤ u → Q (.ref a) H'
theorem ok__law_stand (T : Top K mg) : Ok P w K mg base 3 "_law_stand" ["_law_deck_here", "_law_limit", "_law_wide"] (sp_cstand K) := by
  have O__law_draw := ok__law_draw (P := P) (w := w) (base := base) T
  have O__law_names := ok__law_names (P := P) (w := w) (base := base) T
  have O__law_row := ok__law_row (P := P) (w := w) (base := base) T
  have O__law_rows := ok__law_rows (P := P) (w := w) (base := base) T
  have O__law_plain := ok__law_plain (P := P) (w := w) (base := base) T
  refine T.d__law_stand.ok sc__law_stand (fun vs H Q E h => ?_) (fun f cdv A outer s H vs Q E hr h => ?_)
  · obtain ⟨d, c, t, u, wd, rfl, _⟩ := h
    rfl
  · obtain ⟨d, c, t, u, wd, rfl, D0, ht, hu1, hu2, hw1, hw2, q⟩ := h
    refine ⟨_, ((pss_cons (ps_set (i := 3) sc__law_stand.nd rfl (.inr rfl) (pe_ix ix_list (pe_lst (pa_cons pe_int (pa_cons pe_int (pa_cons pe_int (pa_cons pe_int (pa_cons pe_int (pa_cons pe_int (pa_cons pe_int pa_nil)))))))) (pe_callO O__law_draw (hr.mono (by omega)) (by rfl) (pa_cons (pv 0) (pa_cons pe_int pa_nil))) (fun _ _ => rfl)))
      (pss_cons (ps_set (i := 4) sc__law_stand.nd rfl (.inr rfl) (pe_op op_add pe_int (pe_callO O__law_draw (hr.mono (by omega)) (by rfl) (pa_cons (pv 0) (pa_cons (pv 2) pa_nil)))))
      (pss_cons (ps_setLc (i := 6) (own := [("_law_k", 5)]) (g := gName 5) (by rfl) sc__law_stand.nd rfl rfl (sw_true rfl rfl rfl (by decide +kernel)) (pi_range1 (by rfl) T.b_range (pa_cons (pe_op op_add pe_int (pe_callO O__law_draw (hr.mono (by omega)) (by rfl) (pa_cons (pv 0) (pa_cons pe_int pa_nil)))) pa_nil)) (blkOk_by (own := [("_law_k", 5)]) (N := N__law_stand) (sc := defScope s__law_stand) (by decide +kernel)) (fun _ _ _ _ _ => (pg_name (i := 5) sc__law_stand.nd rfl (.inl rfl))) (fun _ _ _ _ _ => pts_nil) (fun _ _ _ _ _ => (pe_callO O__law_row (hr.mono (by omega)) (by rfl) (pa_cons (pv 0) (pa_cons (pv 3) (pa_cons (pv 4) pa_nil))))))
      (pss_cons (ps_set (i := 7) sc__law_stand.nd rfl (.inl rfl) (pe_callO O__law_plain (hr.mono (by omega)) (by rfl) (pa_cons (pv 3) (pa_cons (pe_slice sl_list (pe_callO O__law_rows (hr.mono (by omega)) (by rfl) (pa_cons (pv 0) (pa_cons (pv 3) (pa_cons (pv 4) (pa_cons (pv 6) pa_nil))))) po_none (po_some (pe_ix ix_list (pe_lst (pa_cons pe_int (pa_cons pe_int (pa_cons pe_int (pa_cons pe_int pa_nil))))) (pe_callO O__law_draw (hr.mono (by omega)) (by rfl) (pa_cons (pv 0) (pa_cons pe_int pa_nil))) (fun _ _ => rfl)))) pa_nil))))
      (pss_cons (ps_set (i := 8) sc__law_stand.nd rfl (.inl rfl) (pe_lst pa_nil))
      (pss_cons (ps_for PassesOwn.never (by rfl) (pi_list (pe_callO O__law_names (hr.mono (by omega)) (by rfl) (pa_cons (pv 0) (pa_cons (pe_op op_add pe_int (pe_callO O__law_draw (hr.mono (by omega)) (by rfl) (pa_cons (pv 0) (pa_cons (pe_op op_sub (pv 1) pe_int) pa_nil)))) pa_nil)))) (pg_name (i := 9) sc__law_stand.nd rfl (.inl rfl))
        (pss_one (ps_expr (pe_bm PySem.F.plainAttrs_list PySem.F.slot_list_append PySem.F.type_list_append mt_append (pv 8) (pa_cons (pe_tup (pa_cons (pv 9) (pa_cons (pe_callO O__law_plain (hr.mono (by omega)) (by rfl) (pa_cons (pv 3) (pa_cons (pe_op op_cat (pe_callTy call_list_of (by rfl) T.b_list (by decide +kernel) (pa_cons (pv 7) pa_nil)) (pe_callO O__law_rows (hr.mono (by omega)) (by rfl) (pa_cons (pv 0) (pa_cons (pv 3) (pa_cons (pv 4) (pa_cons (pv 6) pa_nil)))))) pa_nil))) pa_nil))) pa_nil)))))
      (pss_one (ps_ret (pe_tup (pa_cons (pv 3) (pa_cons (pv 4) (pa_cons (pv 7) (pa_cons (pe_callTy call_tuple_F (by rfl) T.b_tuple (by decide +kernel) (pa_cons (pv 8) pa_nil)) pa_nil)))))))))))))), ?_⟩
    refine ⟨by decide +kernel, fun l0 n0 => ?_⟩
    dsimp only
    generalize h1 : upd H l0 _ = H1
    obtain ⟨s1, e1⟩ := new_of h1 n0
    have D1 := D0.same s1
    have b0 := D0.fresh n0
    refine ⟨.ref d, rfl, d, c, t, 7, rfl, D1, by omega, by decide, by decide, fun H2 z2 k2 D2 a0 a1 => ?_⟩
    have el0 := k2 _ _ e1 (fun z => b0 (.inl z)) (fun z => b0 (.inr z))
    obtain ⟨p, mp, _, hp⟩ := at_int (xs := [5, 5, 7, 11, 13, 31, 101]) a0 a1
    obtain ⟨F, p5, p101⟩ := fld_c mp
    refine ⟨l0, _, z2, .int p, rfl, rfl, .inl (.inl el0), hp, ?_⟩
    refine ⟨.ref d, rfl, .int wd, rfl, d, c, _, wd, rfl, D2, by omega, by omega, by omega, fun H3 n' k3 D3 c0 c1 => ?_⟩
    obtain ⟨n, hn⟩ : ∃ n : Nat, 1 + n' = (n : Int) := ⟨(1 + n').toNat, by omega⟩
    have k03 : Kept d c H H3 := (Kept.of s1).trans (k2.trans k3)
    have hn1 : 1 ≤ n := by omega
    have hn8 : n ≤ 8 := by omega
    refine ⟨1, n', rfl, rfl, ?_⟩
    dsimp only
    rw [hn]
    refine ⟨.ref d, rfl, d, c, _, 5, rfl, D3, by omega, by decide, by decide, fun H4 m' k4 D4 m0 m1 => ?_⟩
    refine ⟨1, m', rfl, rfl, 1 + m', rfl, by omega, by omega, ?_⟩
    have rw3 : ∀ (X : XK) (t' : Int) (H' : Hp) (Q' : VK), Deck H' d c t' → t' ≤ t + 900 → (∀ H'' t'' a r, Kept d c H' H'' → Deck H'' d c t'' → t'' ≤ t' + 20 → H'' a = some (.tup (r.map V.int)) → RowsOk p n [r] → Q' (.ref a) H'') → sp_row3 [.ref d, .int p, .int (n : Int)] H' Q' X := by
      intro X t' H' Q' D' ht' hQ
      exact ⟨d, c, t', p, n, rfl, D', by omega, by omega, by omega, by omega, by omega, fun H'' a r t'' k'' D'' ht'' na ea ok => hQ H'' t'' a r k'' D'' (by omega) ea ok⟩
    refine lc_rows3 (K := K) (p := p) (n := n) (t := t + 1 + 1 + 1) D4 (by omega) (fun _ => rfl) (fun x k t' H' Q' D' ht' hk hQ => ?_) (fun L H5 t5 ws5 pool k5 D5 ht5 nL eL dL lnL roL => ?_)
    · exact ⟨.ref d, rfl, .int p, rfl, .int n, rfl, rw3 E0 t' H' Q' D' (by omega) hQ⟩
    have bL := D4.fresh nL
    have k05 := k03.trans (k4.trans k5)
    have lws5 := rows_len dL
    refine ⟨.int p, rfl, .ref d, rfl, .int p, rfl, .int n, rfl, .ref L, rfl, d, c, L, t5, p, n, ws5, pool, rfl, D5, by omega, by omega, by omega, by omega, eL, dL, bL, roL, by omega, by omega, fun H6 l6 ws6 gs t6 k6 D6 ht6 n6 e6 d6 ok6 l6' => ?_⟩
    have b6 := D5.fresh n6
    refine ⟨by decide +kernel, fun l7 n7 => ?_⟩
    generalize h7 : upd H6 l7 _ = H7
    obtain ⟨s7, e7⟩ := new_of h7 n7
    have D7 := D6.same s7
    have b7 := D6.fresh n7
    refine ⟨.ref d, rfl, d, c, t6, 4, rfl, D7, by omega, by decide, by decide, fun H8 z8 k8 D8 g0 g1 => ?_⟩
    have el7 := k8 _ _ e7 (fun z => b7 (.inl z)) (fun z => b7 (.inr z))
    obtain ⟨hl, mhl, _, hhl⟩ := at_int (xs := [0, 0, 1, 2]) g0 g1
    have hl2 : 0 ≤ hl ∧ hl ≤ 2 := by
      have : ∀ z ∈ ([0, 0, 1, 2] : List Int), 0 ≤ z ∧ z ≤ 2 := by decide
      exact this hl mhl
    have k68 : Kept d c H6 H8 := (Kept.of s7).trans k8
    have e68 := k68 _ _ e6 (fun z => b6 (.inl z)) (fun z => b6 (.inr z))
    refine ⟨l7, _, z8, .int hl, rfl, rfl, .inl (.inl el7), hhl, hl, rfl, l6, _, rfl, .inl (.inl e68), fun o9 n9 => ?_⟩
    rw [cut_upto hl2.1]
    generalize h9 : upd H8 o9 _ = H9
    obtain ⟨s9, e9⟩ := new_of h9 n9
    have D9 := D8.same s9
    have d9 : DpAll K H9 (ws6.take hl.toNat) ((gs.take hl.toNat).map rowD) := by
      rw [List.map_take]
      exact dpAll_take _ (dpAll_same s9 _ _ (dpAll_tk (Tk.kept D6 k68) _ _ (noL_rows gs) d6))
    have ok9 : RowsOk p n (gs.take hl.toNat) := fun r hr => ok6 r (List.mem_of_mem_take hr)
    refine ⟨o9, _, gs.take hl.toNat, p, n, rfl, .inl (.inl (.inl e9)), d9, ok9, F, by omega, hn1, by omega, by rw [List.length_take]; omega, fun Ha lk sa rk => ?_⟩
    have pk := PFR.of_plain F ok9
    generalize plainR p n (gs.take hl.toNat) = kn at rk pk
    obtain ⟨wk, hk, dk⟩ := rk
    have lkn := PFR.len F pk
    have lwk := rows_len dk
    have Da := D9.same sa
    have k5a : Kept d c H5 Ha := k6.trans (k68.trans (Kept.of (s9.trans sa)))
    have eLa := k5a _ _ eL (fun z => bL (.inl z)) (fun z => bL (.inr z))
    have dLa := dpAll_tk (Tk.kept D5 k5a) _ _ (noL_rows pool) dL
    have k0a := k05.trans k5a
    clear el0 e1 hp el7 e7 e68 e9 d9 e6 d6
    refine ⟨Nat.zero_le _, fun f0 nf => ?_⟩
    generalize hb : upd Ha f0 _ = Hb
    obtain ⟨sb, eb⟩ := new_of hb nf
    have Db := Da.same sb
    have bf := Da.fresh nf
    refine ⟨.ref d, rfl, .ref d, rfl, .int u, rfl, u, 1, rfl, rfl, d, c, _, u - 1, rfl, Db, by omega, by omega, by omega, fun Hc m'' kc Dc mm0 mm1 => ?_⟩
    refine ⟨2, m'', rfl, rfl, d, c, _, (2 + m'').toNat, by rw [Int.toNat_of_nonneg (by omega)]; rfl, Dc, by omega, by omega, fun Hd ln xs td kd Dd htd nln eln lx so nd nm => ?_⟩
    have bln := Dc.fresh nln
    have kad : Kept d c Ha Hd := (Kept.of sb).trans (kc.trans kd)
    have ebd := (kc.trans kd) _ _ eb (fun z => bf (.inl z)) (fun z => bf (.inr z))
    have lxs : xs.length ≤ 9 := by omega
    refine ⟨ln, rfl, ⟨_, .inl (.inl eln)⟩, for_it (walk_list (K := K) (a := ln) (xs := xs.map V.str)) (fun i σ H' => Kept d c Ha H' ∧ ∃ (t' : Int) (ws : List V) (hs : List (Str × List (List Int))) (y9 : Option V), Deck H' d c t' ∧ t' ≤ td + 110 * i ∧ H' f0 = some (.lst ws) ∧ H' ln = some (.lst (xs.map V.str)) ∧ DpAll K H' ws (hs.map handD) ∧ hs.map Prod.fst = xs.take i ∧ (∀ h ∈ hs, ∃ more, RowsOk p n more ∧ h.2 = plainR p n (kn ++ more)) ∧ σ = [some (.ref d), some (.int u), some (.int wd), some (.int p), some (.int (n : Int)), none, some (.ref L), some (.ref lk), some (.ref f0), y9])
      ⟨kad, td, [], [], none, Dd, by omega, ebd, eln, .nil, rfl, fun h hh => (nomatch hh), rfl⟩ (fun i σ H' _ hW => by obtain ⟨_, _, _, _, _, _, _, _, e, _⟩ := hW; exact .inl (.inl e)) (fun i x σ H' H'' hi hW hY => ?_) (fun σ H' hW => ?_)⟩
    · obtain ⟨rfl, hx⟩ := hY
      obtain ⟨ka, t', ws, hs, y9, D', ht', ef, en, dph, fst, rms, rfl⟩ := hW
      rw [List.getElem?_map] at hx
      obtain ⟨nm1, hnm, rfl⟩ := Option.map_eq_some_iff.mp hx
      rw [List.length_map] at hi
      have hk' := Kept.tup Da ka hk
      have lhs : hs.length = i := by
        have := congrArg List.length fst
        rw [List.length_map, List.length_take] at this
        omega
      have lws := dpAll_len dph
      rw [List.length_map] at lws
      refine ⟨.ref f0, rfl, .inl ⟨rfl, _, .inl (.inl ef)⟩, .str nm1, rfl, .int p, rfl, .ref lk, rfl, lk, _, rfl, .inr hk', fun o1 m1 => ?_⟩
      generalize g1 : upd _ o1 _ = G1
      obtain ⟨t1, f1⟩ := new_of g1 m1
      have E1 := D'.same t1
      have c1' := D'.fresh m1
      have eL1 := t1 _ _ (ka _ _ eLa (fun z => bL (.inl z)) (fun z => bL (.inr z)))
      have dL1 := dpAll_same t1 _ _ (dpAll_tk (Tk.kept Da ka) _ _ (noL_rows pool) dLa)
      refine ⟨.ref d, rfl, .int p, rfl, .int n, rfl, .ref L, rfl, d, c, L, t', p, n, ws5, pool, rfl, E1, by omega, by omega, by omega, by omega, eL1, dL1, bL, roL, by omega, by omega, fun G2 l2 w2 g2 t2 q2 E2 ht2 n2 f2 d2 ok2 l2' => ?_⟩
      have lw2 := rows_len d2
      have f12 := q2 _ _ f1 (fun z => c1' (.inl z)) (fun z => c1' (.inr z))
      refine ⟨o1, l2, _, _, rfl, rfl, f12, f2, Nat.le_of_lt (small1000 (by rw [lwk, lw2]; omega)), fun o3 m3 => ?_⟩
      generalize g3 : upd G2 o3 _ = G3
      obtain ⟨t3, f3⟩ := new_of g3 m3
      have q02 : Kept d c _ G2 := (Kept.of t1).trans q2
      have dk2 := dpAll_tk (Tk.kept D' q02) _ _ (noL_rows kn) (dpAll_tk (Tk.kept Da ka) _ _ (noL_rows kn) dk)
      have ok3 := rowsOk_app pk.1 ok2
      have d3 : DpAll K G3 (wk ++ w2) ((kn ++ g2).map rowD) := by
        rw [List.map_append]
        exact dpAll_append (dpAll_same t3 _ _ dk2) (dpAll_same t3 _ _ d2)
      refine ⟨o3, _, kn ++ g2, p, n, rfl, .inl (.inl (.inl f3)), d3, ok3, F, by omega, hn1, by omega, by rw [List.length_append]; omega, fun G4 lj sj rj => ?_⟩
      refine ⟨Nat.le_of_lt (small1000 (show 2 ≤ 1000 by decide)), fun o15 n15 => ?_⟩
      generalize h15 : upd G4 o15 _ = G5
      obtain ⟨sk, ek⟩ := new_of h15 n15
      have q05 : Kept d c _ G5 := q02.trans (Kept.of (t3.trans (sj.trans sk)))
      have ef5 := q05 _ _ ef (fun z => bf (.inl z)) (fun z => bf (.inr z))
      have en5 := q05 _ _ en (fun z => bln (.inl z)) (fun z => bln (.inr z))
      have tk : Tk G5 (upd G5 f0 (.lst (ws ++ [.ref o15]))) := (Tk.refl _).mut ef5
      have n159 : o15 ≠ f0 := fun z => by subst z; rw [ek] at ef5; cases ef5
      have nlf : ln ≠ f0 := fun z => by
        subst z
        have e1 := (Kept.of (d := d) (c := c) sb) 
        have : Hc ln = some (.lst []) := kc _ _ eb (fun z => bf (.inl z)) (fun z => bf (.inr z))
        rw [this] at nln
        cases nln
      obtain ⟨wr, hr1, hr2⟩ := rj
      refine ⟨f0, _, _, rfl, rfl, ef5, small1000 (by omega), (ka.trans q05).mut nf, t2, ws ++ [.ref o15], hs ++ [(nm1, plainR p n (kn ++ g2))], _, (E2.same (t3.trans (sj.trans sk))).mut bf, by omega, upd_same, by rw [upd_ne nlf]; exact en5, ?_, ?_, ?_, rfl⟩
      · rw [List.map_append]
        refine dpAll_append (dpAll_tk ((Tk.kept D' q05).trans tk) _ _ (noL_hands hs) dph) (.cons (.tup (xs := [.str nm1, .ref lj]) (.inl (.inl ?_)) (.cons (.str nm1) (.cons (.tup (tk _ _ _ (Same.tup sk hr1)) (dpAll_tk ((Tk.of sk).trans tk) _ _ (noL_rows _) hr2)) .nil))) .nil)
        rw [upd_ne n159]
        exact ek
      · rw [List.map_append, fst, List.take_add_one, hnm]
        rfl
      · intro h hh
        rcases List.mem_append.mp hh with hh | hh
        · exact rms h hh
        · rw [List.mem_singleton.mp hh]
          exact ⟨g2, ok2, rfl⟩
    · obtain ⟨ka, t', ws, hs, y9, D', ht', ef, en, dph, fst, rms, rfl⟩ := hW
      rw [List.length_map] at ht' fst
      rw [List.take_of_length_le (Nat.le_refl _)] at fst
      have lhs : hs.length = xs.length := by
        have := congrArg List.length fst
        rw [List.length_map] at this
        exact this
      refine ⟨.int p, rfl, .int n, rfl, .ref lk, rfl, .ref f0, rfl, f0, _, rfl, .inl (.inl ef), fun l o nl od => ?_⟩
      generalize h15 : upd _ l _ = G1
      obtain ⟨sk, ek⟩ := new_of h15 nl
      refine ⟨Nat.le_of_lt (small1000 (show 4 ≤ 1000 by decide)), fun o16 n16 => ?_⟩
      generalize h16 : upd G1 o16 _ = G2
      obtain ⟨sl, el⟩ := new_of h16 n16
      have skl := sk.trans sl
      have hk' := Kept.tup Da ka hk
      have dk' := dpAll_tk (Tk.kept Da ka) _ _ (noL_rows kn) dk
      refine q G2 o16 t' p n kn hs (k0a.trans (ka.trans (Kept.of skl))) (D'.same skl) (by omega) ⟨lk, l, ws, .inl (.inl el), ⟨wk, Same.tup skl hk', dpAll_same skl _ _ dk'⟩, ⟨o, od, sl _ _ ek⟩, dpAll_same skl _ _ dph⟩ ⟨F, by omega, hn1, hn8, pk, fun h hh => ?_, fun h hh r hr => ?_, by omega, by omega, by rw [fst]; exact so, by rw [fst]; exact nd, by rw [fst]; exact nm⟩ p101 (by omega) (by omega)
      · obtain ⟨more, m1, e⟩ := rms h hh
        rw [e]
        exact PFR.of_plain F (rowsOk_app pk.1 m1)
      · obtain ⟨more, m1, e⟩ := rms h hh
        rw [e]
        exact (InR.plain F (rowsOk_app pk.1 m1)).mpr (InR.mem (List.mem_append_left _ hr))
/-- what a look at a stand asks of it -/
structure StandR (p : Int) (n : Nat) (kn : List (List Int)) (hs : List (Str × List (List Int))) : Prop where
  fld : Fld p
  p1 : p ≤ 1000
  n1 : 1 ≤ n
  n8 : n ≤ 8
  ok : RowsOk p n kn
  lk : kn.length ≤ 8
  many : hs.length ≤ 9
  rm : ∀ x ∈ hs, RowsOk p n x.2
  lr : ∀ x ∈ hs, x.2.length ≤ 8
def sp_room_in (K : PySem.W.Frag) : Sp := fun vs H Q _ => ∃ (v : V) (b : Addr) (ns : List Str) (p : Int) (n : Nat) (kn : List (List Int)) (hs : List (Str × List (List Int))), vs = [v, .ref b] ∧ Dp K H v (standD p n kn hs) ∧ SqT K H b (ns.map V.str) ∧ StandR p n kn hs ∧
  ∀ H' l, Same H H' → RowsAt K H' l (plainR p n (kn ++ selR ns hs)) → Q (.ref l) H'
theorem ok_room_in (T : Top K mg) : Ok P w K mg base 6 "room_in" ["stand", "names"] (sp_room_in K) := by
  have O_room_of := ok_room_of (P := P) (w := w) (base := base) T
  refine T.d_room_in.ok sc_room_in (fun vs H Q E h => ?_) (fun f cdv A outer s H vs Q E hr h => ?_)
  · obtain ⟨v, b, ns, p, n, kn, hs, rfl, _⟩ := h
    rfl
  · obtain ⟨v, b, ns, p, n, kn, hs, rfl, dp, hb, G, q⟩ := h
    obtain ⟨a, k, g, wg, rfl, ha, hk, hg, dg⟩ := dp_stand dp
    have lg := dpAll_len dg
    rw [List.length_map] at lg
    refine ⟨_, ((pss_cons (ps_asg (pv 0) (pg_tup (by rfl) (pgs_cons (pg_name (i := 2) sc_room_in.nd rfl (.inl rfl)) (pgs_cons (pg_name (i := 3) sc_room_in.nd rfl (.inl rfl)) (pgs_cons (pg_name (i := 4) sc_room_in.nd rfl (.inl rfl)) (pgs_cons (pg_name (i := 5) sc_room_in.nd rfl (.inl rfl)) pgs_nil))))))
      (pss_cons (ps_set (i := 6) sc_room_in.nd rfl (.inl rfl) (pv 4))
      (pss_cons (ps_for PassesOwn.never (by rfl) (pi_tup (pv 5)) (pg_tup (by rfl) (pgs_cons (pg_name (i := 7) sc_room_in.nd rfl (.inl rfl)) (pgs_cons (pg_name (i := 8) sc_room_in.nd rfl (.inl rfl)) pgs_nil)))
        (pss_one (ps_if (pt_cmpR op_in_seq (pv 7) (pv 1) (by rfl))
          (pss_one (ps_set (i := 6) sc_room_in.nd rfl (.inl rfl) (pe_op op_catB (pv 6) (pv 8))))
          pss_nil)))
      (pss_one (ps_ret (pe_callO O_room_of (hr.mono (by omega)) (by rfl) (pa_cons (pv 2) (pa_cons (pv 3) (pa_cons (pv 6) pa_nil)))))))))), ?_⟩
    refine ⟨.ref a, rfl, a, _, rfl, ha, rfl, _, _, rfl, _, _, rfl, _, _, rfl, _, _, rfl, rfl, .ref k, rfl, .ref g, rfl, g, rfl, ⟨_, hg⟩, for_it (walk_tup (K := K) (a := g) (xs := wg)) (fun i σ H' => Same H H' ∧ ∃ (l : Addr) (y7 y8 : Option V), RowsAt K H' l (kn ++ selR ns (hs.take i)) ∧ σ = [some (.ref a), some (.ref b), some (.int p), some (.int (n : Int)), some (.ref k), some (.ref g), some (.ref l), y7, y8])
      ⟨Same.refl H, k, none, none, by rw [show selR ns (hs.take 0) = [] from rfl, List.append_nil]; exact hk, rfl⟩ (fun i σ H' _ hW => Same.tup hW.1 hg) (fun i x σ H' H'' hi hW hY => ?_) (fun σ H' hW => ?_)⟩
    · obtain ⟨rfl, hx⟩ := hY
      obtain ⟨s1, l, y7, y8, hl, rfl⟩ := hW
      obtain ⟨c, r, x, rfl, gx, mx, hc, hrr⟩ := dpAll_hand (dpAll_same s1 _ _ dg) hx
      refine ⟨c, _, rfl, hc, rfl, _, _, rfl, _, _, rfl, rfl, ?_⟩
      refine ⟨.str x.1, rfl, .ref b, rfl, b, _, rfl, .inr (Same.tup s1 hb), rfl, flat_strs ns, ?_⟩
      refine ⟨_, rfl, ?_⟩
      rw [show (if false = true then !inV (V.str x.1) (ns.map V.str) else inV (V.str x.1) (ns.map V.str)) = decide (x.1 ∈ ns) from in_strs x.1 ns]
      have st := sel_take (ns := ns) gx
      by_cases hn : x.1 ∈ ns
      · rw [decide_eq_true hn]
        rw [if_pos hn] at st
        obtain ⟨w1, hw1, hw2⟩ := hl
        obtain ⟨w2, hr1, hr2⟩ := hrr
        have l1 := dpAll_len hw2
        have l2 := dpAll_len hr2
        rw [List.length_map] at l1 l2
        rw [List.length_append] at l1
        have lx := G.lr x mx
        have ls := sel_len (ns := ns) (B := 8) (hs := hs.take i) (fun y hy => G.lr y (List.mem_of_mem_take hy))
        have lt := List.length_take_le i hs
        have lm := G.many
        have lk := G.lk
        have ls72 : (selR ns (hs.take i)).length ≤ 8 * 9 := Nat.le_trans ls (Nat.mul_le_mul_left 8 (by rw [List.length_take]; omega))
        refine iteT ⟨.ref l, rfl, .ref r, rfl, l, r, _, _, rfl, rfl, hw1, hr1, Nat.le_of_lt (small1000 (by omega)), fun o H3 s3 ho => ?_⟩
        refine ⟨s1.trans s3, o, _, _, ⟨_, ho, ?_⟩, rfl⟩
        rw [st, ← List.append_assoc, List.map_append]
        exact dpAll_append (dpAll_same s3 _ _ hw2) (dpAll_same s3 _ _ hr2)
      · rw [decide_eq_false hn]
        rw [if_neg hn, List.append_nil] at st
        exact iteF ⟨s1, l, _, _, by rw [st]; exact hl, rfl⟩
    · obtain ⟨s1, l, y7, y8, hl, rfl⟩ := hW
      rw [List.take_of_length_le (by omega)] at hl
      refine ⟨.int p, rfl, .int n, rfl, .ref l, rfl, l, _, p, n, rfl, hl, fun r hr => ?_, G.fld, G.n1, by have := G.n8; omega, G.p1, fun H2 l2 s2 h2 => q H2 l2 (s1.trans s2) h2⟩
      rcases List.mem_append.mp hr with hr | hr
      · exact G.ok r hr
      · exact sel_ok G.rm r hr
theorem at2 {K : PySem.W.Frag} {p : Int} {n : Nat} {k g : Addr} : atI [V.int p, .int (n : Int), .ref k, .ref g] 2 = some (.ref k) := rfl
def sp_lroom (K : PySem.W.Frag) : Sp := fun vs H Q _ => ∃ (v : V) (b : Addr) (ns : List Str) (p : Int) (n : Nat) (kn : List (List Int)) (hs : List (Str × List (List Int))), vs = [v, .ref b] ∧ Dp K H v (standD p n kn hs) ∧ SqT K H b (ns.map V.str) ∧ StandR p n kn hs ∧
  ∀ H' l, Same H H' → RowsAt K H' l (plainR p n (kn ++ selR ns hs)) → Q (.ref l) H'
theorem ok__law_room (T : Top K mg) : Ok P w K mg base 3 "_law_room" ["_law_stand_here", "_law_names_here"] (sp_lroom K) := by
  have O__law_plain := ok__law_plain (P := P) (w := w) (base := base) T
  refine T.d__law_room.ok sc__law_room (fun vs H Q E h => ?_) (fun f cdv A outer s H vs Q E hr h => ?_)
  · obtain ⟨v, b, ns, p, n, kn, hs, rfl, _⟩ := h
    rfl
  · obtain ⟨v, b, ns, p, n, kn, hs, rfl, dp, hb, G, q⟩ := h
    obtain ⟨a, k, g, wg, rfl, ha, hk, hg, dg⟩ := dp_stand dp
    have lg := dpAll_len dg
    rw [List.length_map] at lg
    obtain ⟨wk, ek, dk⟩ := hk
    refine ⟨_, ((pss_cons (ps_set (i := 2) sc__law_room.nd rfl (.inl rfl) (pe_callTy call_list_of (by rfl) T.b_list (by decide +kernel) (pa_cons (pe_ix ix_tup (pv 0) pe_int (fun _ _ => rfl)) pa_nil)))
      (pss_cons (ps_for PassesOwn.never (by rfl) (pi_tup (pe_ix ix_tup (pv 0) pe_int (fun _ _ => rfl))) (pg_tup (by rfl) (pgs_cons (pg_name (i := 3) sc__law_room.nd rfl (.inl rfl)) (pgs_cons (pg_name (i := 4) sc__law_room.nd rfl (.inl rfl)) pgs_nil)))
        (pss_one (ps_if (pt_cmpR op_in_seq (pv 3) (pv 1) (by rfl))
          (pss_one (ps_set (i := 2) sc__law_room.nd rfl (.inl rfl) (pe_op op_cat (pv 2) (pe_callTy call_list_of (by rfl) T.b_list (by decide +kernel) (pa_cons (pv 4) pa_nil)))))
          pss_nil)))
      (pss_one (ps_ret (pe_callO O__law_plain (hr.mono (by omega)) (by rfl) (pa_cons (pe_ix ix_tup (pv 0) pe_int (fun _ _ => rfl)) (pa_cons (pv 2) pa_nil)))))))), ?_⟩
    refine ⟨.ref a, rfl, a, _, _, _, rfl, rfl, ha, at2 (K := K), k, _, rfl, .inr ek, fun l0 n0 => ?_⟩
    dsimp only
    generalize h0 : upd H l0 _ = H0
    obtain ⟨s0, e0⟩ := new_of h0 n0
    refine ⟨.ref a, rfl, a, _, 3, .ref g, rfl, rfl, Same.tup s0 ha, rfl, g, rfl, ⟨_, Same.tup s0 hg⟩, for_it (walk_tup (K := K) (a := g) (xs := wg)) (fun i σ H' => Same H H' ∧ ∃ (l : Addr) (ws : List V) (y3 y4 : Option V), H' l = some (.lst ws) ∧ DpAll K H' ws ((kn ++ selR ns (hs.take i)).map rowD) ∧ σ = [some (.ref a), some (.ref b), some (.ref l), y3, y4])
      ⟨s0, l0, _, none, none, e0, by rw [show selR ns (hs.take 0) = [] from rfl, List.append_nil]; exact dpAll_same s0 _ _ dk, rfl⟩ (fun i σ H' _ hW => Same.tup hW.1 hg) (fun i x σ H' H'' hi hW hY => ?_) (fun σ H' hW => ?_)⟩
    · obtain ⟨rfl, hx⟩ := hY
      obtain ⟨s1, l, ws, y3, y4, hl, dl, rfl⟩ := hW
      obtain ⟨c, r, x, rfl, gx, mx, hc, hrr⟩ := dpAll_hand (dpAll_same s1 _ _ dg) hx
      refine ⟨c, _, rfl, hc, rfl, _, _, rfl, _, _, rfl, rfl, ?_⟩
      refine ⟨.str x.1, rfl, .ref b, rfl, b, _, rfl, .inr (Same.tup s1 hb), rfl, flat_strs ns, ?_⟩
      refine ⟨_, rfl, ?_⟩
      rw [show (if false = true then !inV (V.str x.1) (ns.map V.str) else inV (V.str x.1) (ns.map V.str)) = decide (x.1 ∈ ns) from in_strs x.1 ns]
      have st := sel_take (ns := ns) gx
      by_cases hn : x.1 ∈ ns
      · rw [decide_eq_true hn]
        rw [if_pos hn] at st
        obtain ⟨w2, hr1, hr2⟩ := hrr
        have l1 := dpAll_len dl
        have l2 := dpAll_len hr2
        rw [List.length_map] at l1 l2
        rw [List.length_append] at l1
        have lx := G.lr x mx
        have ls := sel_len (ns := ns) (B := 8) (hs := hs.take i) (fun y hy => G.lr y (List.mem_of_mem_take hy))
        have lm := G.many
        have lk := G.lk
        have ls72 : (selR ns (hs.take i)).length ≤ 8 * 9 := Nat.le_trans ls (Nat.mul_le_mul_left 8 (by rw [List.length_take]; omega))
        refine iteT ⟨.ref l, rfl, .ref r, rfl, r, _, rfl, .inr hr1, fun o no => ?_⟩
        dsimp only
        generalize h3 : upd _ o _ = H3
        obtain ⟨s3, e3⟩ := new_of h3 no
        refine ⟨l, o, _, _, rfl, rfl, s3 _ _ hl, e3, Nat.le_of_lt (small1000 (by omega)), fun o2 no2 => ?_⟩
        dsimp only
        generalize h4 : upd H3 o2 _ = H4
        obtain ⟨s4, e4⟩ := new_of h4 no2
        refine ⟨s1.trans (s3.trans s4), o2, _, _, _, e4, ?_, rfl⟩
        rw [st, ← List.append_assoc, List.map_append]
        exact dpAll_append (dpAll_same (s3.trans s4) _ _ dl) (dpAll_same (s3.trans s4) _ _ hr2)
      · rw [decide_eq_false hn]
        rw [if_neg hn, List.append_nil] at st
        exact iteF ⟨s1, l, ws, _, _, hl, by rw [st]; exact dl, rfl⟩
    · obtain ⟨s1, l, ws, y3, y4, hl, dl, rfl⟩ := hW
      rw [List.take_of_length_le (by omega)] at dl
      have ls := sel_len (ns := ns) (B := 8) (hs := hs) G.lr
      have lm := G.many
      have lk := G.lk
      have n8 := G.n8
      refine ⟨.ref a, rfl, a, _, 0, .int p, rfl, rfl, Same.tup s1 ha, rfl, .ref l, rfl, l, ws, _, p, n, rfl, .inl (.inl (.inl hl)), dl, fun r hr => ?_, G.fld, G.p1, G.n1, by omega, by rw [List.length_append]; omega, fun H2 l2 s2 h2 => q H2 l2 (s1.trans s2) h2⟩
      rcases List.mem_append.mp hr with hr | hr
      · exact G.ok r hr
      · exact sel_ok G.rm r hr
end
end OC
set_option Elab.async false
set_option linter.all false
set_option maxRecDepth 100000
set_option maxHeartbeats 4000000
namespace OC
open PySem PySem.Spec PyProof.Rows L2
section
variable {P : Program} {w : World} {K : PySem.W.Frag} {mg : Str → Option Value} {base : Heap}
def sp_inside (K : PySem.W.Frag) : Sp := fun vs H Q _ => ∃ (a b : Addr) (one other : List (List Int)) (p : Int) (n : Nat), vs = [.int p, .ref a, .ref b] ∧ RowsAt K H a one ∧ RowsAt K H b other ∧ RowsOk p n one ∧ PFR p n other ∧ one.length ≤ 100 ∧ Fld p ∧ n ≤ 100 ∧ p ≤ 1000 ∧
  ∀ H', Same H H' → Q (.bl (one.all (hasR p n other))) H'
theorem ok_inside (T : Top K mg) : Ok P w K mg base 5 "inside" ["p", "one", "other"] (sp_inside K) := by
  have O_within := ok_within (P := P) (w := w) (base := base) T
  refine T.d_inside.ok sc_inside (fun vs H Q E h => ?_) (fun f cdv A outer s H vs Q E hr h => ?_)
  · obtain ⟨a, b, one, other, p, n, rfl, _⟩ := h
    rfl
  · obtain ⟨a, b, one, other, p, n, rfl, hA0, hB0, ok, pf, l1, hF, hn, hp, q⟩ := h
    refine ⟨_, ((pss_one (ps_ret (pe_callB (cr_all (by rfl)) (by rfl) T.b_all (by decide +kernel) (pa_cons (pe_lc (own := [("row", 3)]) (g := gName 3) (by rfl) sc_inside.nd (pi_tup (pv 1)) (blkOk_by (own := [("row", 3)]) (N := N_inside) (sc := defScope s_inside) (by decide +kernel)) (fun _ _ _ _ _ => (pg_name (i := 3) sc_inside.nd rfl (.inl rfl))) (fun _ _ _ _ _ => pts_nil) (fun _ _ _ _ _ => (pe_callO O_within (hr.mono (by omega)) (by rfl) (pa_cons (pv 0) (pa_cons (pv 2) (pa_cons (pv 3) pa_nil)))))) pa_nil))))), ?_⟩
    obtain ⟨ws, hA, hR⟩ := id hA0
    have lw := rows_len hR
    refine ⟨.ref a, rfl, a, rfl, ⟨_, hA⟩, lc_mapR (fun d => .bool (hasR p n other (intsOf d))) (walk_tup (K := K) (a := a) (xs := ws)) (fun H' s => Same.tup s hA) (rep_rows hR) (by omega) (fun _ => rfl) (fun v d H' Q' md rv sm hQ => ?_) (fun D H1 wd s1 nD eD rD => ?_)⟩
    · obtain ⟨r, mr, rfl⟩ := List.mem_map.mp md
      obtain ⟨c, rfl, hc⟩ := rep_row rv
      simp only [ints_row] at hQ
      exact ⟨.int p, rfl, .ref b, rfl, .ref c, rfl, c, b, other, r, p, n, rfl, RowsAt.same sm hB0, hc, pf, rowsOk_one (ok r mr), hF, hn, hp, fun H'' s'' => hQ (.bl _) H'' s'' (.bl _)⟩
    have e : (one.map rowD).map (fun d => PyData.bool (hasR p n other (intsOf d))) = (one.map (hasR p n other)).map PyData.bool := by
      rw [List.map_map, List.map_map]
      apply List.map_congr_left
      intro r _
      show PyData.bool (hasR p n other (intsOf (rowD r))) = _
      rw [ints_row]
      rfl
    rw [e] at rD
    have ew := rep_bls rD
    subst ew
    refine ⟨D, one.map (hasR p n other), rfl, .inl (.inl eD), ?_⟩
    rw [List.all_map]
    exact q H1 s1
def sp_joined (K : PySem.W.Frag) : Sp := fun vs H Q _ => ∃ (a b : Addr) (one other : List (List Int)) (p : Int) (n : Nat), vs = [.int p, .int (n : Int), .ref a, .ref b] ∧ RowsAt K H a one ∧ RowsAt K H b other ∧ RowsOk p n one ∧ RowsOk p n other ∧ one.length ≤ 400 ∧ other.length ≤ 400 ∧ Fld p ∧ 1 ≤ n ∧ n ≤ 100 ∧ p ≤ 1000 ∧
  ∀ H' l, Same H H' → RowsAt K H' l (joinR p n one other) → Q (.ref l) H'
theorem RowsAt.cat {K : PySem.W.Frag} {H H' : Hp} {a b c : Addr} {one other : List (List Int)} {ws us : List V} (h1 : DpAll K H ws (one.map rowD)) (h2 : DpAll K H us (other.map rowD)) (s : Same H H') (h : SqT K H' c (ws ++ us)) : RowsAt K H' c (one ++ other) :=
  ⟨_, h, by rw [List.map_append]; exact dpAll_append (dpAll_same s _ _ h1) (dpAll_same s _ _ h2)⟩
theorem ok_joined (T : Top K mg) : Ok P w K mg base 6 "joined" ["p", "n", "one", "other"] (sp_joined K) := by
  have O_room_of := ok_room_of (P := P) (w := w) (base := base) T
  refine T.d_joined.ok sc_joined (fun vs H Q E h => ?_) (fun f cdv A outer s H vs Q E hr h => ?_)
  · obtain ⟨a, b, one, other, p, n, rfl, _⟩ := h
    rfl
  · obtain ⟨a, b, one, other, p, n, rfl, ⟨ws, hA, hR⟩, ⟨us, hB, hS⟩, ok1, ok2, l1, l2, hF, n1, hn, hp, q⟩ := h
    refine ⟨_, ((pss_one (ps_ret (pe_callO O_room_of (hr.mono (by omega)) (by rfl) (pa_cons (pv 0) (pa_cons (pv 1) (pa_cons (pe_op op_catB (pv 2) (pv 3)) pa_nil))))))), ?_⟩
    have lw := rows_len hR
    have lu := rows_len hS
    refine ⟨.int p, rfl, .int n, rfl, .ref a, rfl, .ref b, rfl, a, b, ws, us, rfl, rfl, hA, hB, sz1000 (by omega), fun m H1 s1 h1 => ?_⟩
    exact ⟨m, _, p, n, rfl, RowsAt.cat (a := a) (b := b) hR hS s1 h1, rowsOk_app ok1 ok2, hF, n1, hn, hp, fun H2 l2 s2 h2 => q H2 l2 (s1.trans s2) h2⟩
def sp_shared (K : PySem.W.Frag) : Sp := fun vs H Q _ => ∃ (a b : Addr) (one other : List (List Int)) (p : Int) (n : Nat), vs = [.int p, .int (n : Int), .ref a, .ref b] ∧ RowsAt K H a one ∧ RowsAt K H b other ∧ PFR p n one ∧ PFR p n other ∧ Fld p ∧ 1 ≤ n ∧ n ≤ 100 ∧ p ≤ 1000 ∧
  ∀ H' l, Same H H' → RowsAt K H' l (meetR p n one other) → Q (.ref l) H'
theorem ok_shared (T : Top K mg) : Ok P w K mg base 7 "shared" ["p", "n", "one", "other"] (sp_shared K) := by
  have O_across := ok_across (P := P) (w := w) (base := base) T
  have O_joined := ok_joined (P := P) (w := w) (base := base) T
  refine T.d_shared.ok sc_shared (fun vs H Q E h => ?_) (fun f cdv A outer s H vs Q E hr h => ?_)
  · obtain ⟨a, b, one, other, p, n, rfl, _⟩ := h
    rfl
  · obtain ⟨a, b, one, other, p, n, rfl, hA, hB, pf1, pf2, hF, n1, hn, hp, q⟩ := h
    refine ⟨_, ((pss_one (ps_ret (pe_callO O_across (hr.mono (by omega)) (by rfl) (pa_cons (pv 0) (pa_cons (pv 1) (pa_cons (pe_callO O_joined (hr.mono (by omega)) (by rfl) (pa_cons (pv 0) (pa_cons (pv 1) (pa_cons (pe_callO O_across (hr.mono (by omega)) (by rfl) (pa_cons (pv 0) (pa_cons (pv 1) (pa_cons (pv 2) pa_nil)))) (pa_cons (pe_callO O_across (hr.mono (by omega)) (by rfl) (pa_cons (pv 0) (pa_cons (pv 1) (pa_cons (pv 3) pa_nil)))) pa_nil))))) pa_nil))))))), ?_⟩
    have o1 := PFR.across hF n one
    have o2 := PFR.across hF n other
    have l1 := PFR.len hF o1
    have l2 := PFR.len hF o2
    refine ⟨.int p, rfl, .int n, rfl, .int p, rfl, .int n, rfl, .int p, rfl, .int n, rfl, .ref a, rfl, a, one, p, n, rfl, hA, pf1, hF, n1, hn, hp, fun H1 c s1 h1 => ?_⟩
    refine ⟨.int p, rfl, .int n, rfl, .ref b, rfl, b, other, p, n, rfl, RowsAt.same s1 hB, pf2, hF, n1, hn, hp, fun H2 d s2 h2 => ?_⟩
    refine ⟨c, d, _, _, p, n, rfl, RowsAt.same s2 h1, h2, o1.1, o2.1, by omega, by omega, hF, n1, hn, hp, fun H3 e s3 h3 => ?_⟩
    exact ⟨e, _, p, n, rfl, h3, join_pf hF o1.1 o2.1, hF, n1, hn, hp, fun H4 l s4 h4 => q H4 l ((s1.trans s2).trans (s3.trans s4)) h4⟩
structure R3 (p : Int) (n : Nat) (C L O : List (List Int)) (r : List Int) : Prop where
  fld : Fld p
  p1 : p ≤ 1000
  n1 : 1 ≤ n
  n8 : n ≤ 8
  c : PFR p n C
  l : PFR p n L
  o : PFR p n O
  r : RowsOk p n [r]
def sp_first_outside (K : PySem.W.Frag) : Sp := fun vs H Q _ => ∃ (a b : Addr) (room rows : List (List Int)) (p : Int) (n : Nat), vs = [.int p, .ref b, .ref a] ∧ RowsAt K H b room ∧ RowsAt K H a rows ∧ PFR p n room ∧ RowsOk p n rows ∧ Fld p ∧ n ≤ 100 ∧ p ≤ 1000 ∧
  ∀ H', Same H H' → (outR p n room rows = none → Q .non H') ∧ ∀ c r, outR p n room rows = some r → SqT K H' c (r.map V.int) → Q (.ref c) H'
theorem ok_first_outside (T : Top K mg) : Ok P w K mg base 5 "first_outside" ["p", "room", "rows"] (sp_first_outside K) := by
  have O_within := ok_within (P := P) (w := w) (base := base) T
  refine T.d_first_outside.ok sc_first_outside (fun vs H Q E h => ?_) (fun f cdv A outer s H vs Q E hr h => ?_)
  · obtain ⟨a, b, room, rows, p, n, rfl, _⟩ := h
    rfl
  · obtain ⟨a, b, room, rows, p, n, rfl, hB, hA0, pf, ok, hF, hn, hp, q⟩ := h
    refine ⟨_, ((pss_cons (ps_for PassesOwn.never (by rfl) (pi_tup (pv 2)) (pg_name (i := 3) sc_first_outside.nd rfl (.inl rfl))
        (pss_one (ps_if (pt_not (pt_val (pe_callO O_within (hr.mono (by omega)) (by rfl) (pa_cons (pv 0) (pa_cons (pv 1) (pa_cons (pv 3) pa_nil))))))
          (pss_one (ps_ret (pv 3)))
          pss_nil)))
      (pss_one (ps_ret pe_non)))), ?_⟩
    obtain ⟨ws, hA, hR⟩ := id hA0
    have lw := rows_len hR
    refine ⟨.ref a, rfl, a, rfl, ⟨_, hA⟩, for_it (walk_tup (K := K) (a := a) (xs := ws)) (fun i σ H' => Same H H' ∧ (∀ x ∈ rows.take i, hasR p n room x = true) ∧ ∃ y3 : Option V, σ = [some (.int p), some (.ref b), some (.ref a), y3]) ⟨Same.refl _, fun x hx => by rw [List.take_zero] at hx; exact (nomatch hx), none, rfl⟩ (fun i σ H' _ hW => Same.tup hW.1 hA) (fun i x σ H1 H2 hi hW hY => ?_) (fun σ H1 hW => ?_)⟩
    · obtain ⟨rfl, hx⟩ := hY
      obtain ⟨s1, all, y3, rfl⟩ := hW
      obtain ⟨c, r, rfl, gr, mr, hc⟩ := dpAll_row (dpAll_same s1 _ _ hR) hx
      refine ⟨.int p, rfl, .ref b, rfl, .ref c, rfl, c, b, room, r, p, n, rfl, RowsAt.same s1 hB, hc, pf, rowsOk_one (ok r mr), hF, hn, hp, fun H3 s3 => ⟨_, rfl, ?_⟩⟩
      have s13 := s1.trans s3
      cases hh : hasR p n room r with
      | false =>
        refine iteT ⟨.ref c, rfl, (q H3 s13).2 c r ?_ (Same.tup s3 hc)⟩
        unfold outR
        rw [← List.take_append_drop i rows, List.find?_append, List.find?_eq_none.mpr (fun x hx => by rw [all x hx]; decide), List.drop_eq_getElem_cons (by omega)]
        have er : rows[i]'(by omega) = r := Option.some.inj ((List.getElem?_eq_getElem (by omega)).symm.trans gr)
        rw [er, List.find?_cons_of_pos (by rw [hh]; rfl)]
        rfl
      | true =>
        refine iteF ⟨s13, fun x hx => ?_, _, rfl⟩
        rw [List.take_add_one, gr] at hx
        rcases List.mem_append.mp hx with hx | hx
        · exact all x hx
        · have : x = r := by simpa using hx
          rw [this]
          exact hh
    · obtain ⟨s1, all, y3, rfl⟩ := hW
      rw [List.take_of_length_le (by omega)] at all
      refine (q H1 s1).1 ?_
      unfold outR
      exact List.find?_eq_none.mpr fun x hx => by rw [all x hx]; decide
def sp_way_of (K : PySem.W.Frag) : Sp := fun vs H Q _ => ∃ (u : V) (b : Addr) (C L O : List (List Int)) (r : List Int) (p : Int) (n : Nat), vs = [.int p, .int (n : Int), u, .ref b] ∧ Dp K H u (r3D C L O) ∧ SqT K H b (r.map V.int) ∧ R3 p n C L O r ∧ ∀ H' l, Same H H' → RowsAt K H' l (wayR p n C L r) → Q (.ref l) H'
theorem ok_way_of (T : Top K mg) : Ok P w K mg base 8 "way_of" ["p", "n", "rooms", "row"] (sp_way_of K) := by
  have O_shared := ok_shared (P := P) (w := w) (base := base) T
  have O_widened := ok_widened (P := P) (w := w) (base := base) T
  refine T.d_way_of.ok sc_way_of (fun vs H Q E h => ?_) (fun f cdv A outer s H vs Q E hr h => ?_)
  · obtain ⟨u, b, C, L, O, r, p, n, rfl, _⟩ := h
    rfl
  · obtain ⟨u, b, C, L, O, r, p, n, rfl, du, hb, R, q⟩ := h
    obtain ⟨a, c, l, o, rfl, ha, hc, hl, ho⟩ := dp_r3 du
    have n8 := R.n8
    refine ⟨_, ((pss_cons (ps_asg (pv 2) (pg_tup (by rfl) (pgs_cons (pg_name (i := 4) sc_way_of.nd rfl (.inl rfl)) (pgs_cons (pg_name (i := 5) sc_way_of.nd rfl (.inl rfl)) (pgs_cons (pg_name (i := 6) sc_way_of.nd rfl (.inl rfl)) pgs_nil)))))
      (pss_one (ps_ret (pe_callO O_shared (hr.mono (by omega)) (by rfl) (pa_cons (pv 0) (pa_cons (pv 1) (pa_cons (pv 4) (pa_cons (pe_callO O_widened (hr.mono (by omega)) (by rfl) (pa_cons (pv 0) (pa_cons (pv 5) (pa_cons (pv 3) pa_nil)))) pa_nil))))))))), ?_⟩
    refine ⟨.ref a, rfl, a, _, rfl, ha, rfl, _, _, rfl, _, _, rfl, _, _, rfl, rfl, ?_⟩
    refine ⟨.int p, rfl, .int n, rfl, .ref c, rfl, .int p, rfl, .ref l, rfl, .ref b, rfl, b, l, L, r, p, n, rfl, hl, hb, R.l, R.r, R.fld, R.n1, by omega, R.p1, fun H1 l1 s1 h1 => ?_⟩
    exact ⟨c, l1, C, _, p, n, rfl, RowsAt.same s1 hc, h1, R.c, PFR.of_plain R.fld (rowsOk_app R.l.1 R.r), R.fld, R.n1, by omega, R.p1, fun H2 l2 s2 h2 => q H2 l2 (s1.trans s2) h2⟩
def sp_is_aside (K : PySem.W.Frag) : Sp := fun vs H Q _ => ∃ (u : V) (b d : Addr) (C L O : List (List Int)) (r c : List Int) (p : Int) (n : Nat), vs = [.int p, u, .ref b, .ref d] ∧ Dp K H u (r3D C L O) ∧ SqT K H b (r.map V.int) ∧ SqT K H d (c.map V.int) ∧ R3 p n C L O r ∧ RowsOk p n [c] ∧ ∀ H', Same H H' → Q (.bl (asideB p n C L O r c)) H'
theorem ok_is_aside (T : Top K mg) : Ok P w K mg base 5 "is_aside" ["p", "rooms", "row", "call"] (sp_is_aside K) := by
  have O_within := ok_within (P := P) (w := w) (base := base) T
  have O_widened := ok_widened (P := P) (w := w) (base := base) T
  refine T.d_is_aside.ok sc_is_aside (fun vs H Q E h => ?_) (fun f cdv A outer s H vs Q E hr h => ?_)
  · obtain ⟨u, b, d, C, L, O, r, c, p, n, rfl, _⟩ := h
    rfl
  · obtain ⟨u, b, d, C, L, O, r, c, p, n, rfl, du, hb, hd, R, okc, q⟩ := h
    obtain ⟨a, ca, l, o, rfl, ha, hc, hl, ho⟩ := dp_r3 du
    have n8 := R.n8
    have F := R.fld
    refine ⟨_, ((pss_cons (ps_asg (pv 1) (pg_tup (by rfl) (pgs_cons (pg_name (i := 4) sc_is_aside.nd rfl (.inl rfl)) (pgs_cons (pg_name (i := 5) sc_is_aside.nd rfl (.inl rfl)) (pgs_cons (pg_name (i := 6) sc_is_aside.nd rfl (.inl rfl)) pgs_nil)))))
      (pss_cons (ps_if (PW.pt (pw_or (pt_not (pt_val (pe_callO O_within (hr.mono (by omega)) (by rfl) (pa_cons (pv 0) (pa_cons (pv 4) (pa_cons (pv 3) pa_nil)))))) (pw_or1 (pt_not (pt_val (pe_callO O_within (hr.mono (by omega)) (by rfl) (pa_cons (pv 0) (pa_cons (pe_callO O_widened (hr.mono (by omega)) (by rfl) (pa_cons (pv 0) (pa_cons (pv 5) (pa_cons (pv 3) pa_nil)))) (pa_cons (pv 2) pa_nil)))))))))
        (pss_one (ps_ret pe_bl))
        pss_nil)
      (pss_one (ps_ret (pe_not (pe_callO O_within (hr.mono (by omega)) (by rfl) (pa_cons (pv 0) (pa_cons (pe_callO O_widened (hr.mono (by omega)) (by rfl) (pa_cons (pv 0) (pa_cons (pv 6) (pa_cons (pv 3) pa_nil)))) (pa_cons (pv 2) pa_nil)))))))))), ?_⟩
    refine ⟨.ref a, rfl, a, _, rfl, ha, rfl, _, _, rfl, _, _, rfl, _, _, rfl, rfl, ?_⟩
    refine ⟨.int p, rfl, .ref ca, rfl, .ref d, rfl, d, ca, C, c, p, n, rfl, hc, hd, R.c, okc, F, by omega, R.p1, fun H1 s1 => ⟨_, rfl, ?_⟩⟩
    unfold asideB at q
    cases h1 : hasR p n C c with
    | false =>
      rw [h1] at q
      exact iteT (iteT (q H1 s1))
    | true =>
      rw [h1, Bool.true_and] at q
      refine iteF ⟨.int p, rfl, .int p, rfl, .ref l, rfl, .ref d, rfl, d, l, L, c, p, n, rfl, RowsAt.same s1 hl, Same.tup s1 hd, R.l, okc, F, R.n1, by omega, R.p1, fun H2 l2 s2 h2 => ?_⟩
      have s12 := s1.trans s2
      refine ⟨.ref b, rfl, b, l2, _, r, p, n, rfl, h2, Same.tup s12 hb, PFR.of_plain F (rowsOk_app R.l.1 okc), R.r, F, by omega, R.p1, fun H3 s3 => ⟨_, rfl, ?_⟩⟩
      have s13 := s12.trans s3
      cases h3 : hasR p n (plainR p n (L ++ [c])) r with
      | false =>
        rw [h3] at q
        exact iteT (q H3 s13)
      | true =>
        rw [h3, Bool.true_and] at q
        refine iteF ⟨.int p, rfl, .int p, rfl, .ref o, rfl, .ref d, rfl, d, o, O, c, p, n, rfl, RowsAt.same s13 ho, Same.tup s13 hd, R.o, okc, F, R.n1, by omega, R.p1, fun H4 l4 s4 h4 => ?_⟩
        have s14 := s13.trans s4
        exact ⟨.ref b, rfl, b, l4, _, r, p, n, rfl, h4, Same.tup s14 hb, PFR.of_plain F (rowsOk_app R.o.1 okc), R.r, F, by omega, R.p1, fun H5 s5 => ⟨_, rfl, q H5 (s14.trans s5)⟩⟩
def sp_is_barred (K : PySem.W.Frag) : Sp := fun vs H Q _ => ∃ (u : V) (b : Addr) (C L O : List (List Int)) (r : List Int) (p : Int) (n : Nat), vs = [.int p, .int (n : Int), u, .ref b] ∧ Dp K H u (r3D C L O) ∧ SqT K H b (r.map V.int) ∧ R3 p n C L O r ∧ ∀ H', Same H H' → Q (.bl (barredB p n C L O r)) H'
theorem ok_is_barred (T : Top K mg) : Ok P w K mg base 9 "is_barred" ["p", "n", "rooms", "row"] (sp_is_barred K) := by
  have O_shared := ok_shared (P := P) (w := w) (base := base) T
  have O_widened := ok_widened (P := P) (w := w) (base := base) T
  have O_inside := ok_inside (P := P) (w := w) (base := base) T
  have O_way_of := ok_way_of (P := P) (w := w) (base := base) T
  refine T.d_is_barred.ok sc_is_barred (fun vs H Q E h => ?_) (fun f cdv A outer s H vs Q E hr h => ?_)
  · obtain ⟨u, b, C, L, O, r, p, n, rfl, _⟩ := h
    rfl
  · obtain ⟨u, b, C, L, O, r, p, n, rfl, du, hb, R, q⟩ := h
    obtain ⟨a, c, l, o, rfl, ha, hc, hl, ho⟩ := dp_r3 du
    have n8 := R.n8
    have F := R.fld
    have pw := way_pf (n := n) (C := C) (L := L) (r := r) F
    have lw := PFR.len F pw
    refine ⟨_, ((pss_cons (ps_asg (pv 2) (pg_tup (by rfl) (pgs_cons (pg_name (i := 4) sc_is_barred.nd rfl (.inl rfl)) (pgs_cons (pg_name (i := 5) sc_is_barred.nd rfl (.inl rfl)) (pgs_cons (pg_name (i := 6) sc_is_barred.nd rfl (.inl rfl)) pgs_nil)))))
      (pss_cons (ps_set (i := 7) sc_is_barred.nd rfl (.inl rfl) (pe_callO O_way_of (hr.mono (by omega)) (by rfl) (pa_cons (pv 0) (pa_cons (pv 1) (pa_cons (pv 2) (pa_cons (pv 3) pa_nil))))))
      (pss_cons (ps_if (pt_val (pe_callO O_inside (hr.mono (by omega)) (by rfl) (pa_cons (pv 0) (pa_cons (pv 7) (pa_cons (pv 5) pa_nil)))))
        (pss_one (ps_ret pe_bl))
        pss_nil)
      (pss_one (ps_ret (pe_and (pe_callO O_inside (hr.mono (by omega)) (by rfl) (pa_cons (pv 0) (pa_cons (pv 7) (pa_cons (pe_callO O_widened (hr.mono (by omega)) (by rfl) (pa_cons (pv 0) (pa_cons (pv 6) (pa_cons (pv 3) pa_nil)))) pa_nil)))) (pe_one (pe_callO O_inside (hr.mono (by omega)) (by rfl) (pa_cons (pv 0) (pa_cons (pe_callO O_shared (hr.mono (by omega)) (by rfl) (pa_cons (pv 0) (pa_cons (pv 1) (pa_cons (pv 7) (pa_cons (pv 6) pa_nil))))) (pa_cons (pv 5) pa_nil)))))))))))), ?_⟩
    refine ⟨.ref a, rfl, a, _, rfl, ha, rfl, _, _, rfl, _, _, rfl, _, _, rfl, rfl, ?_⟩
    refine ⟨.int p, rfl, .int n, rfl, .ref a, rfl, .ref b, rfl, .ref a, b, C, L, O, r, p, n, rfl, du, hb, R, fun H1 l1 s1 h1 => ?_⟩
    refine ⟨.int p, rfl, .ref l1, rfl, .ref l, rfl, l1, l, _, L, p, n, rfl, h1, RowsAt.same s1 hl, pw.1, R.l, by omega, F, by omega, R.p1, fun H2 s2 => ⟨_, rfl, ?_⟩⟩
    have s12 := s1.trans s2
    unfold barredB at q
    cases g1 : (wayR p n C L r).all (hasR p n L) with
    | true =>
      rw [g1] at q
      exact iteT (q H2 s12)
    | false =>
      rw [g1, Bool.false_or] at q
      refine iteF ⟨.int p, rfl, .ref l1, rfl, .int p, rfl, .ref o, rfl, .ref b, rfl, b, o, O, r, p, n, rfl, RowsAt.same s12 ho, Same.tup s12 hb, R.o, R.r, F, R.n1, by omega, R.p1, fun H3 l3 s3 h3 => ?_⟩
      have s13 := s12.trans s3
      refine ⟨l1, l3, _, _, p, n, rfl, RowsAt.same (s2.trans s3) h1, h3, pw.1, PFR.of_plain F (rowsOk_app R.o.1 R.r), by omega, F, by omega, R.p1, fun H4 s4 => ⟨_, rfl, ?_⟩⟩
      have s14 := s13.trans s4
      cases g2 : (wayR p n C L r).all (hasR p n (plainR p n (O ++ [r]))) with
      | false =>
        rw [g2] at q
        exact iteF (q H4 s14)
      | true =>
        rw [g2, Bool.true_and] at q
        refine iteT ⟨.int p, rfl, .int p, rfl, .int n, rfl, .ref l1, rfl, .ref o, rfl, l1, o, _, O, p, n, rfl, RowsAt.same ((s2.trans s3).trans s4) h1, RowsAt.same s14 ho, pw, R.o, F, R.n1, by omega, R.p1, fun H5 l5 s5 h5 => ?_⟩
        have pm : PFR p n (meetR p n (wayR p n C L r) O) := meet_pf F
        have lm := PFR.len F pm
        have s15 := s14.trans s5
        exact ⟨.ref l, rfl, l5, l, _, L, p, n, rfl, h5, RowsAt.same s15 hl, pm.1, R.l, by omega, F, by omega, R.p1, fun H6 s6 => q H6 (s15.trans s6)⟩
def sp_call_aside (K : PySem.W.Frag) : Sp := fun vs H Q _ => ∃ (u : V) (b : Addr) (C L O : List (List Int)) (r : List Int) (p : Int) (n : Nat), vs = [.int p, .int (n : Int), u, .ref b] ∧ Dp K H u (r3D C L O) ∧ SqT K H b (r.map V.int) ∧ R3 p n C L O r ∧ ¬ InR p L r ∧ ¬ InR p O r ∧
  ∀ H', Same H H' → (barredB p n C L O r = true → Q .non H') ∧ ∀ d c, barredB p n C L O r = false → callR p n C L O r = some c → SqT K H' d (c.map V.int) → Q (.ref d) H'
theorem ok_call_aside (T : Top K mg) : Ok P w K mg base 10 "call_aside" ["p", "n", "rooms", "row"] (sp_call_aside K) := by
  have O_is_barred := ok_is_barred (P := P) (w := w) (base := base) T
  have O_shared := ok_shared (P := P) (w := w) (base := base) T
  have O_widened := ok_widened (P := P) (w := w) (base := base) T
  have O_way_of := ok_way_of (P := P) (w := w) (base := base) T
  have O_first_outside := ok_first_outside (P := P) (w := w) (base := base) T
  have O_is_aside := ok_is_aside (P := P) (w := w) (base := base) T
  have O_added := ok_added (P := P) (w := w) (base := base) T
  refine T.d_call_aside.ok sc_call_aside (fun vs H Q E h => ?_) (fun f cdv A outer s H vs Q E hr h => ?_)
  · obtain ⟨u, b, C, L, O, r, p, n, rfl, _⟩ := h
    rfl
  · obtain ⟨u, b, C, L, O, r, p, n, rfl, du, hb, R, nL, nO, q⟩ := h
    obtain ⟨a, c, l, o, rfl, ha, hc, hl, ho⟩ := dp_r3 du
    have n8 := R.n8
    have F := R.fld
    have p2 := F.1
    have pw := way_pf (n := n) (C := C) (L := L) (r := r) F
    have lw := PFR.len F pw
    refine ⟨_, ((pss_cons (ps_if (pt_val (pe_callO O_is_barred (hr.mono (by omega)) (by rfl) (pa_cons (pv 0) (pa_cons (pv 1) (pa_cons (pv 2) (pa_cons (pv 3) pa_nil))))))
        (pss_one (ps_ret pe_non))
        pss_nil)
      (pss_cons (ps_asg (pv 2) (pg_tup (by rfl) (pgs_cons (pg_name (i := 4) sc_call_aside.nd rfl (.inl rfl)) (pgs_cons (pg_name (i := 5) sc_call_aside.nd rfl (.inl rfl)) (pgs_cons (pg_name (i := 6) sc_call_aside.nd rfl (.inl rfl)) pgs_nil)))))
      (pss_cons (ps_set (i := 7) sc_call_aside.nd rfl (.inl rfl) (pe_callO O_way_of (hr.mono (by omega)) (by rfl) (pa_cons (pv 0) (pa_cons (pv 1) (pa_cons (pv 2) (pa_cons (pv 3) pa_nil))))))
      (pss_cons (ps_set (i := 8) sc_call_aside.nd rfl (.inl rfl) (pe_callO O_first_outside (hr.mono (by omega)) (by rfl) (pa_cons (pv 0) (pa_cons (pv 5) (pa_cons (pv 7) pa_nil)))))
      (pss_cons (ps_set (i := 9) sc_call_aside.nd rfl (.inl rfl) (pe_callO O_first_outside (hr.mono (by omega)) (by rfl) (pa_cons (pv 0) (pa_cons (pe_callO O_widened (hr.mono (by omega)) (by rfl) (pa_cons (pv 0) (pa_cons (pv 6) (pa_cons (pv 3) pa_nil)))) (pa_cons (pv 7) pa_nil)))))
      (pss_cons (ps_if (pt_cmpR op_isN (pv 9) pe_non (nomark _))
        (pss_one (ps_ret (pe_callO O_first_outside (hr.mono (by omega)) (by rfl) (pa_cons (pv 0) (pa_cons (pv 5) (pa_cons (pe_callO O_shared (hr.mono (by omega)) (by rfl) (pa_cons (pv 0) (pa_cons (pv 1) (pa_cons (pv 7) (pa_cons (pv 6) pa_nil))))) pa_nil))))))
        pss_nil)
      (pss_cons (ps_for PassesOwn.never (by rfl) (pi_tup (pe_tup (pa_cons (pv 8) (pa_cons (pv 9) pa_nil)))) (pg_name (i := 10) sc_call_aside.nd rfl (.inl rfl))
        (pss_one (ps_if (pt_val (pe_callO O_is_aside (hr.mono (by omega)) (by rfl) (pa_cons (pv 0) (pa_cons (pv 2) (pa_cons (pv 3) (pa_cons (pv 10) pa_nil))))))
          (pss_one (ps_ret (pv 10)))
          pss_nil)))
      (pss_one (ps_ret (pe_callO O_added (hr.mono (by omega)) (by rfl) (pa_cons (pv 0) (pa_cons (pv 8) (pa_cons (pv 9) pa_nil)))))))))))))), ?_⟩
    refine ⟨.int p, rfl, .int n, rfl, .ref a, rfl, .ref b, rfl, .ref a, b, C, L, O, r, p, n, rfl, du, hb, R, fun H1 s1 => ⟨_, rfl, ?_⟩⟩
    cases hbar : barredB p n C L O r with
    | true => exact iteT ((q H1 s1).1 hbar)
    | false =>
      obtain ⟨good, hgood, okg, _⟩ := call_good F R.c R.l R.o R.r nL nO hbar
      refine iteF ⟨.ref a, rfl, a, _, rfl, Same.tup s1 ha, rfl, _, _, rfl, _, _, rfl, _, _, rfl, rfl, ?_⟩
      refine ⟨.int p, rfl, .int n, rfl, .ref a, rfl, .ref b, rfl, .ref a, b, C, L, O, r, p, n, rfl, dp_same s1 _ _ du, Same.tup s1 hb, R, fun H2 l2 s2 h2 => ?_⟩
      have s02 := s1.trans s2
      have hg := hgood
      unfold callR at hg
      rw [if_neg (by rw [hbar]; decide)] at hg
      have b1 : (wayR p n C L r).all (hasR p n L) = false := by
        unfold barredB at hbar
        exact (Bool.or_eq_false_iff.mp hbar).1
      refine ⟨.int p, rfl, .ref l, rfl, .ref l2, rfl, l2, l, L, wayR p n C L r, p, n, rfl, RowsAt.same s02 hl, h2, R.l, pw.1, F, by omega, R.p1, fun H3 s3 => ⟨fun z => ?_, fun nw w1 hw1 hnw => ?_⟩⟩
      · rw [out_none z] at b1
        cases b1
      obtain ⟨mw, _⟩ := out_some hw1
      have okw := rowsOk_one (pw.1 w1 mw)
      have s03 := s02.trans s3
      refine ⟨.int p, rfl, .int p, rfl, .ref o, rfl, .ref b, rfl, b, o, O, r, p, n, rfl, RowsAt.same s03 ho, Same.tup s03 hb, R.o, R.r, F, R.n1, by omega, R.p1, fun H4 l4 s4 h4 => ?_⟩
      have s04 := s03.trans s4
      have h24 := RowsAt.same (s3.trans s4) h2
      refine ⟨.ref l2, rfl, l2, l4, _, wayR p n C L r, p, n, rfl, h4, h24, PFR.of_plain F (rowsOk_app R.o.1 R.r), pw.1, F, by omega, R.p1, fun H5 s5 => ⟨fun z => ?_, fun st w2 hw2 hst => ?_⟩⟩
      · -- nothing strange
        rw [z] at hg
        have s05 := s04.trans s5
        refine ⟨.non, rfl, rfl, _, rfl, iteT ?_⟩
        refine ⟨.int p, rfl, .ref l, rfl, .int p, rfl, .int n, rfl, .ref l2, rfl, .ref o, rfl, l2, o, _, O, p, n, rfl, RowsAt.same s5 h24, RowsAt.same s05 ho, pw, R.o, F, R.n1, by omega, R.p1, fun H6 l6 s6 h6 => ?_⟩
        have pm : PFR p n (meetR p n (wayR p n C L r) O) := meet_pf F
        have s06 := s05.trans s6
        refine ⟨l6, l, L, _, p, n, rfl, RowsAt.same s06 hl, h6, R.l, pm.1, F, by omega, R.p1, fun H7 s7 => ⟨fun z7 => ?_, fun c7 r7 hr7 hc7 => ?_⟩⟩
        · rw [z7] at hg
          cases hg
        · refine (q H7 (s06.trans s7)).2 c7 r7 hbar ?_ hc7
          rw [hgood, ← hg]
          exact hr7
      · rw [hw2, hw1] at hg
        dsimp only at hg
        obtain ⟨ms, _⟩ := out_some hw2
        have oks := rowsOk_one (pw.1 w2 ms)
        have s05 := s04.trans s5
        have hnw5 := Same.tup (s4.trans s5) hnw
        refine ⟨.ref st, rfl, rfl, _, rfl, iteF ?_⟩
        refine ⟨.ref nw, rfl, .ref st, rfl, sz1000 (by decide : (2 : Nat) ≤ 1000), fun t6 n6 => ?_⟩
        generalize h6 : upd H5 t6 _ = H6
        obtain ⟨s6, e6⟩ := new_of h6 n6
        have s06 := s05.trans s6
        have ht6 : SqT K H6 t6 [.ref nw, .ref st] := .inl (.inl e6)
        refine ⟨t6, rfl, ⟨_, ht6⟩, ?_⟩
        refine for_it (walk_tup (K := K) (a := t6) (xs := [.ref nw, .ref st])) (fun i σ H' => Same H6 H' ∧ (1 ≤ i → asideB p n C L O r w1 = false) ∧ (2 ≤ i → asideB p n C L O r w2 = false) ∧ ∃ y10 : Option V, σ = [some (.int p), some (.int (n : Int)), some (.ref a), some (.ref b), some (.ref c), some (.ref l), some (.ref o), some (.ref l2), some (.ref nw), some (.ref st), y10]) ⟨Same.refl _, fun z => absurd z (by decide), fun z => absurd z (by decide), none, rfl⟩ (fun i σ H' _ hW => Same.tup hW.1 ht6) (fun i x σ H7' H7 hi hW hY => ?_) (fun σ H7 hW => ?_)
        · obtain ⟨rfl, hx⟩ := hY
          obtain ⟨s7, f1, f2, y10, rfl⟩ := hW
          have s07 := s06.trans s7
          have hi2 : i = 0 ∨ i = 1 := by
            have : i < 2 := hi
            omega
          rcases hi2 with rfl | rfl
          · have ex : x = .ref nw := (Option.some.inj hx).symm
            subst ex
            refine ⟨.int p, rfl, .ref a, rfl, .ref b, rfl, .ref nw, rfl, .ref a, b, nw, C, L, O, r, w1, p, n, rfl, dp_same s07 _ _ du, Same.tup s07 hb, Same.tup (s6.trans s7) hnw5, R, okw, fun H8 s8 => ⟨_, rfl, ?_⟩⟩
            cases ha1 : asideB p n C L O r w1 with
            | true =>
              rw [if_pos ha1] at hg
              exact iteT ⟨.ref nw, rfl, (q H8 (s07.trans s8)).2 nw w1 hbar (by rw [hgood, ← hg]) (Same.tup ((s6.trans s7).trans s8) hnw5)⟩
            | false => exact iteF ⟨s7.trans s8, fun _ => rfl, fun z => absurd z (by decide), _, rfl⟩
          · have ex : x = .ref st := (Option.some.inj hx).symm
            subst ex
            have ha1 := f1 (Nat.le_refl _)
            rw [if_neg (by rw [ha1]; decide)] at hg
            refine ⟨.int p, rfl, .ref a, rfl, .ref b, rfl, .ref st, rfl, .ref a, b, st, C, L, O, r, w2, p, n, rfl, dp_same s07 _ _ du, Same.tup s07 hb, Same.tup (s6.trans s7) hst, R, oks, fun H8 s8 => ⟨_, rfl, ?_⟩⟩
            cases ha2 : asideB p n C L O r w2 with
            | true =>
              rw [if_pos ha2] at hg
              exact iteT ⟨.ref st, rfl, (q H8 (s07.trans s8)).2 st w2 hbar (by rw [hgood, ← hg]) (Same.tup ((s6.trans s7).trans s8) hst)⟩
            | false => exact iteF ⟨s7.trans s8, fun _ => ha1, fun _ => rfl, _, rfl⟩
        · obtain ⟨s7, f1, f2, y10, rfl⟩ := hW
          rw [if_neg (by rw [f1 (show 1 ≤ 2 by decide)]; decide), if_neg (by rw [f2 (Nat.le_refl _)]; decide)] at hg
          have s07 := s06.trans s7
          refine ⟨.int p, rfl, .ref nw, rfl, .ref st, rfl, nw, st, w1, w2, p, rfl, Same.tup (s6.trans s7) hnw5, Same.tup (s6.trans s7) hst, by have := (pw.1 w1 mw).1; omega, by omega, fun H8 l8 s8 _ e8 => ?_⟩
          exact (q H8 (s07.trans s8)).2 l8 _ hbar (by rw [hgood, ← hg]) (.inl (.inl e8))
end
end OC
set_option Elab.async false
set_option linter.all false
set_option maxRecDepth 100000
set_option maxHeartbeats 4000000
namespace OC
open PySem PySem.Spec PyProof.Rows L2
section
variable {P : Program} {w : World} {K : PySem.W.Frag} {mg : Str → Option Value} {base : Heap}
def sp_names_of (K : PySem.W.Frag) : Sp := fun vs H Q _ => ∃ (v : V) (p : Int) (n : Nat) (kn : List (List Int)) (hs : List (Str × List (List Int))), vs = [v] ∧ Dp K H v (standD p n kn hs) ∧ hs.length ≤ 9 ∧
  ∀ H' l, Same H H' → H l = none → H' l = some (.tup ((hs.map Prod.fst).map V.str)) → Q (.ref l) H'
theorem ok_names_of (T : Top K mg) : Ok P w K mg base 1 "names_of" ["stand"] (sp_names_of K) := by
  refine T.d_names_of.ok sc_names_of (fun vs H Q E h => ?_) (fun f cdv A outer s H vs Q E hr h => ?_)
  · obtain ⟨v, p, n, kn, hs, rfl, _⟩ := h
    rfl
  · obtain ⟨v, p, n, kn, hs, rfl, dp, hm, q⟩ := h
    obtain ⟨a, k, g, wg, rfl, ha, hk, hg, dg⟩ := dp_stand dp
    have lg := dpAll_len dg
    rw [List.length_map] at lg
    refine ⟨_, ((pss_one (ps_ret (pe_callTy call_tuple_of (by rfl) T.b_tuple (by decide +kernel) (pa_cons (pe_lc (own := [("name", 1), ("room", 2)]) (g := gTup K 2 (gCons (gName 1) (gCons (gName 2) gNil))) (by rfl) sc_names_of.nd (pi_tup (pe_ix ix_tup (pv 0) pe_int (fun _ _ => rfl))) (blkOk_by (own := [("name", 1), ("room", 2)]) (N := N_names_of) (sc := defScope s_names_of) (by decide +kernel)) (fun _ _ _ _ _ => (pg_tup (by rfl) (pgs_cons (pg_name (i := 1) sc_names_of.nd rfl (.inl rfl)) (pgs_cons (pg_name (i := 2) sc_names_of.nd rfl (.inl rfl)) pgs_nil)))) (fun _ _ _ _ _ => pts_nil) (fun _ _ _ _ _ => (pv 1))) pa_nil))))), ?_⟩
    refine ⟨.ref a, rfl, a, _, 3, .ref g, rfl, rfl, ha, rfl, g, rfl, ⟨_, hg⟩, fun D nD => lc_it (walk_tup (K := K) (a := g) (xs := wg)) (fun i H' => Same H H' ∧ H' D = some (.lst (((hs.take i).map Prod.fst).map V.str))) ⟨same_upd nD, upd_same⟩ (fun i H' _ hP => Same.tup hP.1 hg) (fun i x H1 H2 hi hP hY => ?_) (fun H' hP => ?_)⟩
    · obtain ⟨rfl, hx⟩ := hY
      obtain ⟨s1, eD⟩ := hP
      obtain ⟨c, r, x, rfl, gx, mx, hc, hrr⟩ := dpAll_hand (dpAll_same s1 _ _ dg) hx
      refine ⟨c, _, rfl, hc, rfl, _, _, rfl, _, _, rfl, rfl, rfl, .str x.1, rfl, _, eD, ?_, same_mut s1 nD, ?_⟩
      · rw [List.length_map, List.length_map, List.length_take]
        exact small1000 (by omega)
      · rw [upd_same, List.take_add_one, gx, List.map_append, List.map_append]
        rfl
    · obtain ⟨s1, eD⟩ := hP
      rw [List.take_of_length_le (by omega)] at eD
      refine ⟨D, _, rfl, .inl ⟨.inl (.inl eD), fun l nl => ?_⟩⟩
      have s2 := same_upd (o := .tup ((hs.map Prod.fst).map V.str)) nl
      have nl' : H l = none := by
        cases hh : H l with
        | none => rfl
        | some o => rw [s1 _ _ hh] at nl; cases nl
      exact q _ l (s1.trans s2) nl' upd_same
def sp_check_hand (K : PySem.W.Frag) : Sp := fun vs H Q _ => ∃ (b : Addr) (ns : List Str) (x : Str), vs = [.ref b, .str x] ∧ SqT K H b (ns.map V.str) ∧ x ∈ ns ∧ Q .non H
theorem ok_check_hand (T : Top K mg) : Ok P w K mg base 1 "check_hand" ["there", "hand"] (sp_check_hand K) := by
  refine T.d_check_hand.ok sc_check_hand (fun vs H Q E h => ?_) (fun f cdv A outer s H vs Q E hr h => ?_)
  · obtain ⟨b, ns, x, rfl, _⟩ := h
    rfl
  · obtain ⟨b, ns, x, rfl, hb, hx, q⟩ := h
    refine ⟨_, ((pss_one (ps_if (pt_cmpR op_notIn_seq (pv 1) (pv 0) (by rfl))
        (pss_one ps_dead)
        pss_nil))), ?_⟩
    refine ⟨.str x, rfl, .ref b, rfl, b, _, rfl, .inr hb, rfl, flat_strs ns, _, rfl, ?_⟩
    rw [show (if true = true then !inV (V.str x) (ns.map V.str) else inV (V.str x) (ns.map V.str)) = !decide (x ∈ ns) by rw [if_pos rfl, in_strs], decide_eq_true hx]
    exact iteF q
def sp_check_row (K : PySem.W.Frag) : Sp := fun vs H Q _ => ∃ (a : Addr) (r : List Int) (p : Int) (n : Nat), vs = [.int p, .int (n : Int), .ref a] ∧ SqT K H a (r.map V.int) ∧ RowsOk p n [r] ∧ n ≤ 100 ∧ ∀ H', Same H H' → Q .non H'
theorem ok_check_row (T : Top K mg) : Ok P w K mg base 4 "check_row" ["p", "n", "row"] (sp_check_row K) := by
  have O_is_row := ok_is_row (P := P) (w := w) (base := base) T
  refine T.d_check_row.ok sc_check_row (fun vs H Q E h => ?_) (fun f cdv A outer s H vs Q E hr h => ?_)
  · obtain ⟨a, r, p, n, rfl, _⟩ := h
    rfl
  · obtain ⟨a, r, p, n, rfl, ha, okr, hn, q⟩ := h
    have ok' := okr r List.mem_cons_self
    have rp : RepAll K H NB [.ref a] [rowD r] := rep_rows (ws := [.ref a]) (rs := [r]) (.cons (.tup ha (dpAll_ints r)) .nil)
    have rp1 : Rep K H NB (.ref a) (rowD r) := by
      cases rp with
      | cons h _ => exact h
    refine ⟨_, ((pss_one (ps_if (pt_not (pt_val (pe_callO O_is_row (hr.mono (by omega)) (by rfl) (pa_cons (pv 0) (pa_cons (pv 1) (pa_cons (pv 2) pa_nil))))))
        (pss_one ps_dead)
        pss_nil))), ?_⟩
    refine ⟨.int p, rfl, .int n, rfl, .ref a, rfl, p, n, .ref a, rowD r, rfl, rp1, show (r.map PyData.int).length ≤ 1000 by rw [List.length_map]; omega, fun H1 s1 => ?_⟩
    rw [isRow_row ok']
    exact ⟨true, rfl, iteF (q H1 s1)⟩
def roomI (p : Int) (n : Nat) (kn : List (List Int)) (hs : List (Str × List (List Int))) (x : Str) : List (List Int) := plainR p n (kn ++ selR [x] hs)
theorem roomI_pf {p : Int} {n : Nat} {kn : List (List Int)} {hs : List (Str × List (List Int))} (G : StandR p n kn hs) (x : Str) : PFR p n (roomI p n kn hs x) := PFR.of_plain G.fld (rowsOk_app G.ok (sel_ok G.rm))
theorem G3 {p : Int} {n : Nat} {kn : List (List Int)} {hs : List (Str × List (List Int))} (G : StandR p n kn hs) (x y z : Str) {r : List Int} (hr : RowsOk p n [r]) : R3 p n (roomI p n kn hs x) (roomI p n kn hs y) (roomI p n kn hs z) r := ⟨G.fld, G.p1, G.n1, G.n8, roomI_pf G x, roomI_pf G y, roomI_pf G z, hr⟩
def sp_rooms3 (K : PySem.W.Frag) : Sp := fun vs H Q _ => ∃ (v : V) (x y z : Str) (p : Int) (n : Nat) (kn : List (List Int)) (hs : List (Str × List (List Int))), vs = [v, .str x, .str y, .str z] ∧ Dp K H v (standD p n kn hs) ∧ StandR p n kn hs ∧
  ∀ H' l, Same H H' → Dp K H' (.ref l) (r3D (roomI p n kn hs x) (roomI p n kn hs y) (roomI p n kn hs z)) → Q (.ref l) H'
theorem ok_rooms_of_three (T : Top K mg) : Ok P w K mg base 7 "rooms_of_three" ["stand", "caller", "learner", "other"] (sp_rooms3 K) := by
  have O_room_in := ok_room_in (P := P) (w := w) (base := base) T
  refine T.d_rooms_of_three.ok sc_rooms_of_three (fun vs H Q E h => ?_) (fun f cdv A outer s H vs Q E hr h => ?_)
  · obtain ⟨v, x, y, z, p, n, kn, hs, rfl, _⟩ := h
    rfl
  · obtain ⟨v, x, y, z, p, n, kn, hs, rfl, dp, G, q⟩ := h
    refine ⟨_, ((pss_one (ps_ret (pe_callTy call_tuple_of (by rfl) T.b_tuple (by decide +kernel) (pa_cons (pe_lc (own := [("name", 4)]) (g := gName 4) (by rfl) sc_rooms_of_three.nd (pi_tup (pe_tup (pa_cons (pv 1) (pa_cons (pv 2) (pa_cons (pv 3) pa_nil))))) (blkOk_by (own := [("name", 4)]) (N := N_rooms_of_three) (sc := defScope s_rooms_of_three) (by decide +kernel)) (fun _ _ _ _ _ => (pg_name (i := 4) sc_rooms_of_three.nd rfl (.inl rfl))) (fun _ _ _ _ _ => pts_nil) (fun _ _ _ _ _ => (pe_callO O_room_in (hr.mono (by omega)) (by rfl) (pa_cons (pv 0) (pa_cons (pe_tup (pa_cons (pv 4) pa_nil)) pa_nil))))) pa_nil))))), ?_⟩
    refine ⟨.str x, rfl, .str y, rfl, .str z, rfl, sz1000 (by decide : (3 : Nat) ≤ 1000), fun t nt => ?_⟩
    generalize h1 : upd H t _ = H1
    obtain ⟨s1, e1⟩ := new_of h1 nt
    have ht : SqT K H1 t ([x, y, z].map V.str) := .inl (.inl e1)
    refine ⟨t, rfl, ⟨_, ht⟩, fun D nD => lc_it (walk_tup (K := K) (a := t) (xs := [x, y, z].map V.str)) (fun k H' => Same H1 H' ∧ ∃ ws, H' D = some (.lst ws) ∧ ws.length = k ∧ DpAll K H' ws ((([x, y, z].take k).map (roomI p n kn hs)).map roomD)) ⟨same_upd nD, [], upd_same, rfl, .nil⟩ (fun k H' _ hP => Same.tup hP.1 ht) (fun k u H2 H3 hk hP hY => ?_) (fun H2 hP => ?_)⟩
    · obtain ⟨rfl, hu⟩ := hY
      obtain ⟨s2, ws, eD, lw, dw⟩ := hP
      rw [List.getElem?_map] at hu
      obtain ⟨nm, hnm, rfl⟩ := Option.map_eq_some_iff.mp hu
      rw [List.length_map] at hk
      have hk : k < 3 := hk
      refine ⟨rfl, v, rfl, .str nm, rfl, sz1000 (by decide : (1 : Nat) ≤ 1000), fun o no => ?_⟩
      generalize g1 : upd _ o _ = H4
      obtain ⟨t1, e4⟩ := new_of g1 no
      refine ⟨v, o, [nm], p, n, kn, hs, rfl, dp_same (s1.trans (s2.trans t1)) _ _ dp, .inl (.inl e4), G, fun H5 l5 s5 h5 => ?_⟩
      have eD5 := (t1.trans s5) _ _ eD
      have tk : Tk H5 (upd H5 D (.lst (ws ++ [.ref l5]))) := (Tk.refl _).mut eD5
      obtain ⟨w5, q5, d5⟩ := h5
      refine ⟨ws, eD5, small1000 (by omega), same_mut (s2.trans (t1.trans s5)) nD, ws ++ [.ref l5], upd_same, by rw [List.length_append, lw]; rfl, ?_⟩
      rw [List.take_add_one, hnm, List.map_append, List.map_append]
      exact dpAll_append (dpAll_tk ((Tk.of (t1.trans s5)).trans tk) _ _ (noL_rooms _) dw) (.cons (dp_tk tk _ _ (noL_room _) (.tup q5 d5)) .nil)
    · obtain ⟨s2, ws, eD, lw, dw⟩ := hP
      refine ⟨D, _, rfl, .inl ⟨.inl (.inl eD), fun l nl => ?_⟩⟩
      have s3 := same_upd (o := .tup ws) nl
      exact q _ l (s1.trans (s2.trans s3)) (.tup (.inl (.inl upd_same)) (dpAll_same s3 _ _ dw))
def sp_aside (K : PySem.W.Frag) : Sp := fun vs H Q _ => ∃ (v : V) (b : Addr) (x y z : Str) (r : List Int) (p : Int) (n : Nat) (kn : List (List Int)) (hs : List (Str × List (List Int))), vs = [v, .str x, .str y, .str z, .ref b] ∧ Dp K H v (standD p n kn hs) ∧ SqT K H b (r.map V.int) ∧ StandR p n kn hs ∧ RowsOk p n [r] ∧ (∀ u ∈ [x, y, z], u ∈ hs.map Prod.fst) ∧ hs.length ≤ 9 ∧ ¬ InR p (roomI p n kn hs y) r ∧ ¬ InR p (roomI p n kn hs z) r ∧
  ∀ H' t, Same H H' → (barredB p n (roomI p n kn hs x) (roomI p n kn hs y) (roomI p n kn hs z) r = true → Dp K H' (.ref t) (.tuple [.str "none", roomD (wayR p n (roomI p n kn hs x) (roomI p n kn hs y) r)]) → Q (.ref t) H') ∧
    ∀ c, barredB p n (roomI p n kn hs x) (roomI p n kn hs y) (roomI p n kn hs z) r = false → callR p n (roomI p n kn hs x) (roomI p n kn hs y) (roomI p n kn hs z) r = some c → Dp K H' (.ref t) (.tuple [.str "call", rowD c]) → Q (.ref t) H'
theorem ok_aside (T : Top K mg) : Ok P w K mg base 11 "aside" ["stand", "caller", "learner", "other", "row"] (sp_aside K) := by
  have O_names_of := ok_names_of (P := P) (w := w) (base := base) T
  have O_check_hand := ok_check_hand (P := P) (w := w) (base := base) T
  have O_check_row := ok_check_row (P := P) (w := w) (base := base) T
  have O_within := ok_within (P := P) (w := w) (base := base) T
  have O_room_in := ok_room_in (P := P) (w := w) (base := base) T
  have O_rooms_of_three := ok_rooms_of_three (P := P) (w := w) (base := base) T
  have O_call_aside := ok_call_aside (P := P) (w := w) (base := base) T
  have O_way_of := ok_way_of (P := P) (w := w) (base := base) T
  refine T.d_aside.ok sc_aside (fun vs H Q E h => ?_) (fun f cdv A outer s H vs Q E hr h => ?_)
  · obtain ⟨v, b, x, y, z, r, p, n, kn, hs, rfl, _⟩ := h
    rfl
  · obtain ⟨v, b, x, y, z, r, p, n, kn, hs, rfl, dp, hb, G, okr, mem, many, nL, nO, q⟩ := h
    obtain ⟨a, k, g, wg, rfl, ha, hk, hg, dg⟩ := dp_stand dp
    have F := G.fld
    have n8 := G.n8
    refine ⟨_, ((pss_cons (ps_asg (pe_slice sl_tupB (pv 0) po_none (po_some pe_int)) (pg_tup (by rfl) (pgs_cons (pg_name (i := 5) sc_aside.nd rfl (.inl rfl)) (pgs_cons (pg_name (i := 6) sc_aside.nd rfl (.inl rfl)) pgs_nil))))
      (pss_cons (ps_for PassesOwn.never (by rfl) (pi_tup (pe_tup (pa_cons (pv 1) (pa_cons (pv 2) (pa_cons (pv 3) pa_nil))))) (pg_name (i := 7) sc_aside.nd rfl (.inl rfl))
        (pss_one (ps_expr (pe_callO O_check_hand (hr.mono (by omega)) (by rfl) (pa_cons (pe_callO O_names_of (hr.mono (by omega)) (by rfl) (pa_cons (pv 0) pa_nil)) (pa_cons (pv 7) pa_nil))))))
      (pss_cons (ps_expr (pe_callO O_check_row (hr.mono (by omega)) (by rfl) (pa_cons (pv 5) (pa_cons (pv 6) (pa_cons (pv 4) pa_nil)))))
      (pss_cons (ps_for PassesOwn.never (by rfl) (pi_tup (pe_tup (pa_cons (pv 2) (pa_cons (pv 3) pa_nil)))) (pg_name (i := 7) sc_aside.nd rfl (.inl rfl))
        (pss_one (ps_if (pt_val (pe_callO O_within (hr.mono (by omega)) (by rfl) (pa_cons (pv 5) (pa_cons (pe_callO O_room_in (hr.mono (by omega)) (by rfl) (pa_cons (pv 0) (pa_cons (pe_tup (pa_cons (pv 7) pa_nil)) pa_nil))) (pa_cons (pv 4) pa_nil)))))
          (pss_one ps_dead)
          pss_nil)))
      (pss_cons (ps_set (i := 8) sc_aside.nd rfl (.inl rfl) (pe_callO O_rooms_of_three (hr.mono (by omega)) (by rfl) (pa_cons (pv 0) (pa_cons (pv 1) (pa_cons (pv 2) (pa_cons (pv 3) pa_nil))))))
      (pss_cons (ps_set (i := 9) sc_aside.nd rfl (.inl rfl) (pe_callO O_call_aside (hr.mono (by omega)) (by rfl) (pa_cons (pv 5) (pa_cons (pv 6) (pa_cons (pv 8) (pa_cons (pv 4) pa_nil))))))
      (pss_one (ps_ret (pe_ifExp (pt_cmpR op_isN (pv 9) pe_non (nomark _)) (pe_tup (pa_cons pe_str (pa_cons (pe_callO O_way_of (hr.mono (by omega)) (by rfl) (pa_cons (pv 5) (pa_cons (pv 6) (pa_cons (pv 8) (pa_cons (pv 4) pa_nil))))) pa_nil))) (pe_tup (pa_cons pe_str (pa_cons (pv 9) pa_nil))))))))))))), ?_⟩
    refine ⟨.ref a, rfl, _, rfl, a, _, rfl, ha, fun l1 H1 s1 h1 => ?_⟩
    rw [cut_upto (by decide)] at h1
    refine ⟨l1, [.int p, .int n], rfl, h1, rfl, _, _, rfl, _, _, rfl, rfl, ?_⟩
    refine ⟨.str x, rfl, .str y, rfl, .str z, rfl, sz1000 (by decide : (3 : Nat) ≤ 1000), fun t2 n2 => ?_⟩
    generalize h2 : upd H1 t2 _ = H2
    obtain ⟨s2, e2⟩ := new_of h2 n2
    have ht2 : SqT K H2 t2 ([x, y, z].map V.str) := .inl (.inl e2)
    have s02 := s1.trans s2
    refine ⟨t2, rfl, ⟨_, ht2⟩, for_it (walk_tup (K := K) (a := t2) (xs := [x, y, z].map V.str)) (fun i σ H' => Same H2 H' ∧ ∃ y7 : Option V, σ = [some (.ref a), some (.str x), some (.str y), some (.str z), some (.ref b), some (.int p), some (.int (n : Int)), y7, none, none]) ⟨Same.refl _, none, rfl⟩ (fun i σ H' _ hW => Same.tup hW.1 ht2) (fun i u σ H3' H3 hi hW hY => ?_) (fun σ H3 hW => ?_)⟩
    · obtain ⟨rfl, hu⟩ := hY
      obtain ⟨s3, y7, rfl⟩ := hW
      rw [List.getElem?_map] at hu
      obtain ⟨nm, hnm, rfl⟩ := Option.map_eq_some_iff.mp hu
      have s03 := s02.trans s3
      refine ⟨.ref a, rfl, .ref a, p, n, kn, hs, rfl, dp_same s03 _ _ dp, many, fun H4 l4 s4 _ h4 => ?_⟩
      exact ⟨.str nm, rfl, l4, _, nm, rfl, .inl (.inl h4), mem nm (List.mem_of_getElem? hnm), s3.trans s4, _, rfl⟩
    obtain ⟨s3, y7, rfl⟩ := hW
    have s03 := s02.trans s3
    refine ⟨.int p, rfl, .int n, rfl, .ref b, rfl, b, r, p, n, rfl, Same.tup s03 hb, okr, by omega, fun H4 s4 => ?_⟩
    have s04 := s03.trans s4
    refine ⟨.str y, rfl, .str z, rfl, sz1000 (by decide : (2 : Nat) ≤ 1000), fun t5 n5 => ?_⟩
    generalize h5 : upd H4 t5 _ = H5
    obtain ⟨s5, e5⟩ := new_of h5 n5
    have ht5 : SqT K H5 t5 ([y, z].map V.str) := .inl (.inl e5)
    have s05 := s04.trans s5
    refine ⟨t5, rfl, ⟨_, ht5⟩, for_it (walk_tup (K := K) (a := t5) (xs := [y, z].map V.str)) (fun i σ H' => Same H5 H' ∧ ∃ y7 : Option V, σ = [some (.ref a), some (.str x), some (.str y), some (.str z), some (.ref b), some (.int p), some (.int (n : Int)), y7, none, none]) ⟨Same.refl _, _, rfl⟩ (fun i σ H' _ hW => Same.tup hW.1 ht5) (fun i u σ H6' H6 hi hW hY => ?_) (fun σ H6 hW => ?_)⟩
    · obtain ⟨rfl, hu⟩ := hY
      obtain ⟨s6, y7, rfl⟩ := hW
      rw [List.getElem?_map] at hu
      obtain ⟨nm, hnm, rfl⟩ := Option.map_eq_some_iff.mp hu
      have s06 := s05.trans s6
      have nin : ¬ InR p (roomI p n kn hs nm) r := by
        have := List.mem_of_getElem? hnm
        simp only [List.mem_cons, List.not_mem_nil, or_false] at this
        rcases this with rfl | rfl
        · exact nL
        · exact nO
      refine ⟨.int p, rfl, .ref a, rfl, .str nm, rfl, sz1000 (by decide : (1 : Nat) ≤ 1000), fun o no => ?_⟩
      generalize g1 : upd _ o _ = H7
      obtain ⟨t1, e7⟩ := new_of g1 no
      refine ⟨.ref a, o, [nm], p, n, kn, hs, rfl, dp_same (s06.trans t1) _ _ dp, .inl (.inl e7), G, fun H8 l8 s8 h8 => ?_⟩
      have s68 := t1.trans s8
      refine ⟨.ref b, rfl, b, l8, _, r, p, n, rfl, h8, Same.tup (s06.trans s68) hb, roomI_pf G nm, okr, F, by omega, G.p1, fun H9 s9 => ⟨_, rfl, ?_⟩⟩
      have hf : hasR p n (plainR p n (kn ++ selR [nm] hs)) r = false := by
        cases hh : hasR p n (plainR p n (kn ++ selR [nm] hs)) r with
        | false => rfl
        | true => exact absurd ((has_pf F (roomI_pf G nm) okr).mp hh) nin
      rw [hf]
      exact iteF ⟨s6.trans (s68.trans s9), _, rfl⟩
    obtain ⟨s6, y7, rfl⟩ := hW
    have s06 := s05.trans s6
    refine ⟨.ref a, rfl, .str x, rfl, .str y, rfl, .str z, rfl, .ref a, x, y, z, p, n, kn, hs, rfl, dp_same s06 _ _ dp, G, fun H7 l7 s7 d7 => ?_⟩
    have s07 := s06.trans s7
    have R := G3 G x y z okr
    refine ⟨.int p, rfl, .int n, rfl, .ref l7, rfl, .ref b, rfl, .ref l7, b, _, _, _, r, p, n, rfl, d7, Same.tup s07 hb, R, nL, nO, fun H8 s8 => ⟨fun hbar => ?_, fun d c hbar hcall hd => ?_⟩⟩
    · have s08 := s07.trans s8
      refine ⟨.non, rfl, rfl, _, rfl, iteT ?_⟩
      refine ⟨.int p, rfl, .int n, rfl, .ref l7, rfl, .ref b, rfl, .ref l7, b, _, _, _, r, p, n, rfl, dp_same s8 _ _ d7, Same.tup s08 hb, R, fun H9 l9 s9 h9 => ?_⟩
      refine ⟨sz1000 (by decide : (2 : Nat) ≤ 1000), fun t10 n10 => ?_⟩
      have s10 := same_upd (o := .tup [.str "none", .ref l9]) n10
      obtain ⟨w9, q9, d9⟩ := RowsAt.same s10 h9
      exact (q _ t10 (s08.trans (s9.trans s10))).1 hbar (.tup (xs := [.str "none", .ref l9]) (.inl (.inl upd_same)) (.cons (.str _) (.cons (.tup q9 d9) .nil)))
    · have s08 := s07.trans s8
      refine ⟨.ref d, rfl, rfl, _, rfl, iteF ?_⟩
      refine ⟨.ref d, rfl, sz1000 (by decide : (2 : Nat) ≤ 1000), fun t10 n10 => ?_⟩
      have s10 := same_upd (o := .tup [.str "call", .ref d]) n10
      exact (q _ t10 (s08.trans s10)).2 c hbar hcall (.tup (xs := [.str "call", .ref d]) (.inl (.inl upd_same)) (.cons (.str _) (.cons (row_dp (Same.tup s10 hd)) .nil)))
end
end OC
set_option Elab.async false
set_option linter.all false
set_option maxRecDepth 100000
set_option maxHeartbeats 4000000
namespace OC
open PySem PySem.Spec PyProof.Rows L2
section
variable {P : Program} {w : World} {K : PySem.W.Frag} {mg : Str → Option Value} {base : Heap}
def sp_lmadeN (K : PySem.W.Frag) : Sp := fun vs H Q _ => ∃ (a b : Addr) (ws : List V) (rs : List (List Int)) (fs : List Int) (p : Int) (n : Nat), vs = [.int p, .int (n : Int), .ref a, .ref b] ∧ SqT K H a ws ∧ DpAll K H ws (rs.map rowD) ∧ SqL K H b (fs.map V.int) ∧ rs.length = fs.length ∧ 0 < p ∧ p ≤ 1000 ∧ n ≤ 100 ∧ (∀ r ∈ rs, r.length = n ∧ ∀ x ∈ r, 0 ≤ x ∧ x < 1000) ∧ (∀ f ∈ fs, 0 ≤ f ∧ f ≤ 1000) ∧
  ∀ H' l, Same H H' → H' l = some (.tup ((madeR p (List.replicate n 0) (rs.zip fs)).map V.int)) → Q (.ref l) H'
theorem ok__law_made_ofN (T : Top K mg) : Ok P w K mg base 1 "_law_made_of" ["_law_p", "_law_n", "_law_rows_here", "_law_factors"] (sp_lmadeN K) := by
  refine T.d__law_made_of.ok sc__law_made_of (fun vs H Q E h => ?_) (fun f cdv A outer s H vs Q E hr h => ?_)
  · obtain ⟨a, b, ws, rs, fs, p, n, rfl, _⟩ := h
    rfl
  · obtain ⟨a, b, ws, rs, fs, p, n, rfl, hA, hR, hB, hl, hp, hp2, hn, hln, hf, q⟩ := h
    have lw := rows_len hR
    refine ⟨_, ((pss_cons (ps_set (i := 4) sc__law_made_of.nd rfl (.inr rfl) (pe_op op_rep (pe_lst (pa_cons pe_int pa_nil)) (pv 1)))
      (pss_cons (ps_for PassesOwn.never (by rfl) (pi_zipN (by rfl) T.b_zip (pa_cons (pv 2) (pa_cons (pv 3) pa_nil))) (pg_tup (by rfl) (pgs_cons (pg_name (i := 5) sc__law_made_of.nd rfl (.inr rfl)) (pgs_cons (pg_name (i := 6) sc__law_made_of.nd rfl (.inr rfl)) pgs_nil)))
        (pss_one (ps_set (i := 4) sc__law_made_of.nd rfl (.inr rfl) (pe_lc (own := [("_law_k", 7)]) (g := gName 7) (by rfl) sc__law_made_of.nd (pi_range1 (by rfl) T.b_range (pa_cons (pv 1) pa_nil)) (blkOk_by (own := [("_law_k", 7)]) (N := N__law_made_of) (sc := defScope s__law_made_of) (by decide +kernel)) (fun _ _ _ _ _ => (pg_name (i := 7) sc__law_made_of.nd rfl (.inl rfl))) (fun _ _ _ _ _ => pts_nil) (fun _ _ _ _ _ => (pe_op op_mod (pe_op op_add (pe_ix (show IxR _ (rIxL K) from ix_list) (pv 4) (pv 7) (fun _ _ => rfl)) (pe_op op_mul (pv 6) (pe_ix (show IxR _ (rIxT K) from ix_tup) (pv 5) (pv 7) (fun _ _ => rfl)))) (pv 0)))))))
      (pss_one (ps_ret (pe_callTy call_tuple_of (by rfl) T.b_tuple (by decide +kernel) (pa_cons (pv 4) pa_nil))))))), ?_⟩
    refine ⟨sz1000 (by decide : (1 : Nat) ≤ 1000), fun z nz => ?_⟩
    generalize h1 : upd H z _ = H1
    obtain ⟨s1, e1⟩ := new_of h1 nz
    refine ⟨.int n, rfl, z, n, _, rfl, rfl, e1, by omega, by omega, Nat.le_of_lt (small1000 (by show 1 * ((n : Int)).toNat ≤ 1000; omega)), fun y ny => ?_⟩
    rw [show ((n : Int)).toNat = n from rfl, flat_noughts]
    generalize h2 : upd H1 y _ = H2
    obtain ⟨s2, e2⟩ := new_of h2 ny
    have s12 := s1.trans s2
    have hR2 := dpAll_same s12 _ _ hR
    refine ⟨.ref a, rfl, .ref b, rfl, a, b, _, _, rfl, Same.tup s12 hA, sql_same3 s12 hB, ?_⟩
    refine for_it (walk_zipN (K := K) (a := a) (b := b) (xs := ws) (ys := fs.map V.int) rfl) (fun i σ H' => Same H2 H' ∧ ∃ (l : Addr) (y5 y6 y7 : Option V), H' l = some (.lst ((madeR p (List.replicate n 0) ((rs.zip fs).take i)).map V.int)) ∧ σ = [some (.int p), some (.int (n : Int)), some (.ref a), some (.ref b), some (.ref l), y5, y6, y7]) ⟨Same.refl H2, y, none, none, none, e2, rfl⟩ (fun i σ H' _ hW => ⟨Same.tup (s12.trans hW.1) hA, sql_same3 (s12.trans hW.1) hB⟩) (fun i x0 σ H3 H4' hi hW hY => ?_) (fun σ H' hW => ?_)
    · obtain ⟨sm, l, y5, y6, y7, el, rfl⟩ := hW
      obtain ⟨Ta, x, f1, rfl, nT, rfl, g1, g2⟩ := hY
      have g1 : ws[i]? = some x := g1
      have g2 : (fs.map V.int)[i]? = some f1 := g2
      obtain ⟨c, r, rfl, gr, mr, hc⟩ := dpAll_row hR2 g1
      rw [List.getElem?_map] at g2
      obtain ⟨f, hfi, rfl⟩ := Option.map_eq_some_iff.mp g2
      have mf := hf f (List.mem_of_getElem? hfi)
      have sT : Same H3 (upd H3 Ta (.tup [.ref c, .int f])) := same_upd nT
      have hr1 := hln r mr
      have gz : (rs.zip fs)[i]? = some (r, f) := by
        rw [List.getElem?_zip_eq_some]
        exact ⟨gr, hfi⟩
      have ml : (madeR p (List.replicate n 0) ((rs.zip fs).take i)).length = n := made_len p n _ _ List.length_replicate fun x hx => (hln x.1 (List.of_mem_zip (List.mem_of_mem_take hx)).1).1
      have mb : ∀ x ∈ madeR p (List.replicate n 0) ((rs.zip fs).take i), 0 ≤ x ∧ x < p := made_bd hp _ _ (row_noughts' hp n).2
      have mt := made_take (p := p) (z := List.replicate n 0) gz
      generalize madeR p (List.replicate n 0) ((rs.zip fs).take i) = cur at el ml mb mt
      refine ⟨Ta, [.ref c, .int f], rfl, .inl (.inl upd_same), rfl, .ref c, [.int f], rfl, .int f, [], rfl, rfl, ?_⟩
      generalize hg4 : upd H3 Ta _ = H4 at sT
      have hc4 := Same.tup (sm.trans sT) hc
      have el4 := sT _ _ el
      refine ⟨.int n, rfl, n, rfl, by omega, by omega, fun D nD => ?_⟩
      rw [show ((n : Int)).toNat = n from rfl]
      refine lc_range (lo := 0) (n := n) (fun k H5 => Same H4 H5 ∧ H5 D = some (.lst (((plusR p cur r f).take k).map V.int))) ⟨same_upd nD, upd_same⟩ (fun k H5 hk hP => ?_) (fun H5 hP => ?_)
      · obtain ⟨s5, eD⟩ := hP
        have b1 := getD_lt hp mb k
        have b2 := getD_lt (by decide) hr1.2 k
        have b3 : 0 ≤ f * r.getD k 0 := Int.mul_nonneg mf.1 b2.1
        have b4 : f * r.getD k 0 ≤ 1000 * 1000 := Int.mul_le_mul mf.2 (by omega) b2.1 (by decide)
        refine ⟨rfl, .ref l, rfl, .int (0 + k), rfl, l, _, _, _, rfl, rfl, .inl (.inl (s5 _ _ el4)), by rw [show (0 : Int) + (k : Int) = (k : Int) by omega]; exact at_row (by omega), .int f, rfl, .ref c, rfl, .int (0 + k), rfl, c, _, _, _, rfl, rfl, Same.tup s5 hc4, by rw [show (0 : Int) + (k : Int) = (k : Int) by omega]; exact at_row (by omega), _, _, rfl, rfl, .inl ⟨by omega, by omega⟩, _, _, rfl, rfl, .int p, rfl, _, p, rfl, rfl, hp, _, eD, ?_, same_mut s5 nD, ?_⟩
        · rw [List.length_map, List.length_take]
          exact Nat.lt_of_le_of_lt (Nat.min_le_left _ _) (small1000 (by omega))
        · rw [upd_same, plus_at ml hr1.1 (by omega), List.map_append]
          rfl
      · obtain ⟨s5, eD⟩ := hP
        rw [List.take_of_length_le (by unfold plusR; rw [List.length_zipWith]; omega)] at eD
        refine ⟨(sm.trans sT).trans s5, D, _, _, _, ?_, rfl⟩
        rw [mt]
        exact eD
    · obtain ⟨sm, l, y5, y6, y7, el, rfl⟩ := hW
      rw [List.take_of_length_le (by rw [List.length_zip, List.length_map]; omega)] at el
      refine ⟨.ref l, rfl, l, _, rfl, .inl ⟨.inl (.inl el), fun o no => ?_⟩⟩
      generalize h5 : upd H' o _ = H5
      obtain ⟨s5, e5⟩ := new_of h5 no
      exact q H5 o ((s12.trans sm).trans s5) e5
def sp_cknown (K : PySem.W.Frag) : Sp := fun vs H Q _ => ∃ (d c a : Addr) (t p : Int) (x : Str) (n : Nat) (kn : List (List Int)) (hs : List (Str × List (List Int))), vs = [.ref d, .ref a, .str x] ∧ Deck H d c t ∧ t ≤ 800000 ∧ StandAt K H a p n kn hs ∧ StandR p n kn hs ∧
  ∀ H' l r t', Kept d c H H' → Deck H' d c t' → t' ≤ t + 20 → H' l = some (.tup (r.map V.int)) → RowsOk p n [r] → InR p (plainR p n (kn ++ selR [x] hs)) r → Q (.ref l) H'
theorem ok__law_known (T : Top K mg) : Ok P w K mg base 4 "_law_known" ["_law_deck_here", "_law_stand_here", "_law_name"] (sp_cknown K) := by
  have O__law_draw := ok__law_draw (P := P) (w := w) (base := base) T
  have O__law_room := ok__law_room (P := P) (w := w) (base := base) T
  have O__law_made_of := ok__law_made_ofN (P := P) (w := w) (base := base) T
  refine T.d__law_known.ok sc__law_known (fun vs H Q E h => ?_) (fun f cdv A outer s H vs Q E hr h => ?_)
  · obtain ⟨d, c, a, t, p, x, n, kn, hs, rfl, _⟩ := h
    rfl
  · obtain ⟨d, c, a, t, p, x, n, kn, hs, rfl, D0, ht, sa, G, q⟩ := h
    have n8 := G.n8
    have p2 := G.fld.1
    have p1 := G.p1
    refine ⟨_, ((pss_cons (ps_set (i := 3) sc__law_known.nd rfl (.inl rfl) (pe_callO O__law_room (hr.mono (by omega)) (by rfl) (pa_cons (pv 1) (pa_cons (pe_tup (pa_cons (pv 2) pa_nil)) pa_nil))))
      (pss_cons (ps_setLc (i := 5) (own := [("_law_row_here", 4)]) (g := gName 4) (by rfl) sc__law_known.nd rfl rfl (sw_true rfl rfl rfl (by decide +kernel)) (pi_tup (pv 3)) (blkOk_by (own := [("_law_row_here", 4)]) (N := N__law_known) (sc := defScope s__law_known) (by decide +kernel)) (fun _ _ _ _ _ => (pg_name (i := 4) sc__law_known.nd rfl (.inl rfl))) (fun _ _ _ _ _ => pts_nil) (fun _ _ _ _ _ => (pe_op op_mul (pe_callO O__law_draw (hr.mono (by omega)) (by rfl) (pa_cons (pv 0) (pa_cons (pe_ix (show IxR _ (rIxT K) from ix_tup) (pv 1) pe_int (fun _ _ => rfl)) pa_nil))) (pe_callTy call_int1 (by rfl) T.b_int (by decide +kernel) (pa_cons (pe_cmpR op_gt (pe_callO O__law_draw (hr.mono (by omega)) (by rfl) (pa_cons (pv 0) (pa_cons pe_int pa_nil))) pe_int (nomark _)) pa_nil)))))
      (pss_one (ps_ret (pe_callO O__law_made_of (hr.mono (by omega)) (by rfl) (pa_cons (pe_ix ix_tup (pv 1) pe_int (fun _ _ => rfl)) (pa_cons (pe_ix ix_tup (pv 1) pe_int (fun _ _ => rfl)) (pa_cons (pv 3) (pa_cons (pv 5) pa_nil)))))))))), ?_⟩
    refine ⟨.ref a, rfl, .str x, rfl, sz1000 (by decide : (1 : Nat) ≤ 1000), fun o no => ?_⟩
    generalize h1 : upd H o _ = H1
    obtain ⟨s1, e1⟩ := new_of h1 no
    refine ⟨.ref a, o, [x], p, n, kn, hs, rfl, (sa.same s1).dp, .inl (.inl e1), G, fun H2 l2 s2 r2 => ?_⟩
    have pf := PFR.of_plain G.fld (rowsOk_app G.ok (sel_ok (ns := [x]) G.rm))
    generalize plainR p n (kn ++ selR [x] hs) = R at r2 pf q
    obtain ⟨w2, h2, d2⟩ := r2
    have lR := PFR.len G.fld pf
    have lw := rows_len d2
    have s12 := s1.trans s2
    have D2 := D0.same s12
    have sa2 := sa.same s12
    refine ⟨.ref l2, rfl, l2, rfl, ⟨_, h2⟩, lc_drawnW (p := p) (t := t) (walk_tup (K := K) (a := l2) (xs := w2)) D2 (fun H' k' => Kept.tup D2 k' h2) (by omega) (fun _ => rfl) (fun v j t' H' Q' kH D' ht' hj hQ => ?_) (fun L H4 t4 fs k4 D4 ht4 nL eL lf bf => ?_)⟩
    · obtain ⟨_, _, _, ha, _⟩ := sa2.kept D2 kH
      refine ⟨.ref d, rfl, .ref a, rfl, a, _, 0, .int p, rfl, rfl, ha, rfl, d, c, t', p, rfl, D', by omega, by omega, by omega, fun Ha x ka Da x0 x1 => ?_⟩
      refine ⟨.ref d, rfl, d, c, _, 3, rfl, Da, by omega, by decide, by decide, fun Hb y kb Db y0 y1 => ⟨y, 0, rfl, rfl, .inr ⟨_, rfl, ?_⟩⟩⟩
      obtain ⟨w, ew, hw⟩ := some_of (c := y > 0)
      rw [ew]
      refine ⟨x, w, rfl, rfl, .inl ⟨by omega, by omega⟩, hQ Hb _ (x * w) (ka.trans kb) Db (by omega) (Int.mul_nonneg x0 (by omega)) ?_⟩
      rcases hw with e | e
      · rw [e]; omega
      · rw [e]; omega
    · obtain ⟨_, _, _, ha, _⟩ := sa2.kept D2 k4
      refine ⟨.ref a, rfl, a, _, 0, .int p, rfl, rfl, ha, rfl, .ref a, rfl, a, _, 1, .int n, rfl, rfl, ha, rfl, .ref l2, rfl, .ref L, rfl, l2, L, w2, R, fs, p, n, rfl, Kept.tup D2 k4 h2, dpAll_tk (Tk.kept D2 k4) _ _ (noL_rows R) d2, .inl (.inl eL), by omega, by omega, p1, by omega, fun r hr => ⟨(pf.1 r hr).1, fun x hx => by have := (pf.1 r hr).2 x hx; omega⟩, fun f hf => by have := bf f hf; omega, fun H5 l s5 e5 => ?_⟩
      exact q H5 l _ t4 ((Kept.of s12).trans (k4.trans (Kept.of s5))) (D4.same s5) (by omega) e5 (comb_ok G.fld pf) (comb_in pf (by omega))
end
end OC
set_option Elab.async false
set_option linter.all false
set_option maxRecDepth 100000
set_option maxHeartbeats 4000000
namespace OC
open PySem PySem.Spec PyProof.Rows L2
section
variable {P : Program} {w : World} {K : PySem.W.Frag} {mg : Str → Option Value} {base : Heap}
theorem ok__law_is_row (T : Top K mg) : Ok P w K mg base 1 "_law_is_row" ["_law_p", "_law_n", "_law_thing"] (sp_is_row K) := by
  refine T.d__law_is_row.ok sc__law_is_row (fun vs H Q E h => ?_) (fun f cdv A outer s H vs Q E hr h => ?_)
  · obtain ⟨p, n, v, e, rfl, _⟩ := h
    rfl
  · obtain ⟨p, n, v, e, rfl, rv, hl, q⟩ := h
    refine ⟨_, ((pss_cons (ps_if (PW.pt (pw_or (pt_not (pt_val (pe_callB call_isi (by rfl) T.b_isinstance (by decide +kernel) (pa_cons (pv 2) (pa_cons (pe_bltn (v := .ty "tuple") (u := .type "tuple") (by rfl) T.b_tuple (by decide +kernel) rfl) pa_nil))))) (pw_or1 (pt_cmpR op_ne (pe_callB call_len_seq (by rfl) T.b_len (by decide +kernel) (pa_cons (pv 2) pa_nil)) (pv 1) (nomark _)))))
        (pss_one (ps_ret pe_bl))
        pss_nil)
      (pss_one (ps_ret (pe_cmpR (op_eqNil hr.units) (pe_lc (own := [("_law_one", 3)]) (g := gName 3) (by rfl) sc__law_is_row.nd (pi_tup (pv 2)) (blkOk_by (own := [("_law_one", 3)]) (N := N__law_is_row) (sc := defScope s__law_is_row) (by decide +kernel)) (fun _ _ _ _ _ => (pg_name (i := 3) sc__law_is_row.nd rfl (.inl rfl))) (fun _ _ _ _ _ => (pts_one (PW.pt (pw_or (pt_not (pt_val (pe_callB (show CallR _ (.builtin "isinstance") (rIsi K) from call_isi) (by rfl) T.b_isinstance (by decide +kernel) (pa_cons (pv 3) (pa_cons (pe_bltn (v := .ty "int") (u := .type "int") (by rfl) T.b_int (by decide +kernel) rfl) pa_nil))))) (pw_or (pt_val (pe_callB (show CallR _ (.builtin "isinstance") (rIsi K) from call_isi) (by rfl) T.b_isinstance (by decide +kernel) (pa_cons (pv 3) (pa_cons (pe_bltn (v := .ty "bool") (u := .type "bool") (by rfl) T.b_bool (by decide +kernel) rfl) pa_nil)))) (pw_or1 (pt_not (pt_chain op_le op_lt pe_int (pv 3) (pv 0))))))))) (fun _ _ _ _ _ => (pv 3))) (pe_lst pa_nil) (nomark _)))))), ?_⟩
    refine ⟨v, rfl, v, .ty "tuple", _, _, _, rfl, .ty "tuple", rv.kd, kit_tuple _, _, rfl, ?_⟩
    by_cases hkd : kdOf e = .tup
    · obtain ⟨ds, rfl⟩ := kd_tup_inv hkd
      obtain ⟨a, xs, rfl, hA, hx⟩ := rep_tup rv
      have lx := repAll_len hx
      have hl : ds.length ≤ 1000 := hl
      rw [decide_eq_true hkd]
      refine iteF ⟨.ref a, rfl, a, _, rfl, .inr hA, .int n, rfl, rfl, _, rfl, ?_⟩
      have e0 : isRowD p n (.tuple ds) = (decide ((ds.length : Int) = n) && ds.all (restD p)) := rfl
      by_cases hn : (ds.length : Int) = n
      · rw [show (!decide (V.int (xs.length : Int) = V.int n)) = false by rw [lx, hn]; simp]
        simp only [e0, decide_eq_true hn, Bool.true_and] at q
        refine iteF ⟨.ref a, rfl, a, rfl, ⟨_, hA⟩, lc_filterR (K := K) (fun d => !restD p d) (walk_tup (K := K) (a := a) (xs := xs)) (fun H' s => Same.tup s hA) hx (by omega) (fun _ => rfl) (by show (3 : Nat) < 4; decide) (fun v d H' Q' md rv sm hQ => ?_) (fun D H1 us s1 nD eD rD => ?_)⟩
        · have hQ' := hQ H' (Same.refl _)
          refine ⟨v, rfl, v, .ty "int", _, _, _, rfl, .ty "int", rv.kd, kit_int _, _, rfl, ?_⟩
          cases rv with
          | int i =>
            refine iteF ⟨.int i, rfl, .int i, .ty "bool", _, _, _, rfl, .ty "bool", kd_int i, kit_bool _, _, rfl, iteF ?_⟩
            refine ⟨.int i, rfl, 0, i, rfl, rfl, _, rfl, ?_⟩
            have er : restD p (.int i) = (decide (0 ≤ i) && decide (i < p)) := rfl
            rw [er] at hQ'
            by_cases h0 : 0 ≤ i
            · rw [decide_eq_true h0] at hQ' ⊢
              exact iteT ⟨.int p, rfl, i, p, rfl, rfl, _, rfl, hQ'⟩
            · rw [decide_eq_false h0] at hQ' ⊢
              exact iteF ⟨_, rfl, hQ'⟩
          | bl b => exact iteF ⟨.bl b, rfl, .bl b, .ty "bool", _, _, _, rfl, .ty "bool", kd_bl b, kit_bool _, _, rfl, iteT hQ'⟩
          | _ => exact iteT hQ'
        · refine ⟨Nat.zero_le _, fun u nu => ?_⟩
          generalize h4 : upd _ u _ = H4
          obtain ⟨s4, e4⟩ := new_of h4 nu
          refine ⟨D, u, _, rfl, rfl, s4 _ _ eD, e4, ?_⟩
          rw [filter_all rD]
          exact q H4 (s1.trans s4)
      · rw [show (!decide (V.int (xs.length : Int) = V.int n)) = true by rw [lx, decide_eq_false (fun z => hn (V.int.inj z))]; rfl]
        simp only [e0, decide_eq_false hn, Bool.false_and] at q
        exact iteT (q H (Same.refl H))
    · rw [decide_eq_false hkd]
      have e0 : isRowD p n e = false := by
        cases e with
        | tuple ds => exact absurd rfl hkd
        | _ => rfl
      rw [e0] at q
      exact iteT (q H (Same.refl H))
/-- a thing is one of the names -/
def nameD (ns : List Str) : PyData → Bool
  | .str x => decide (x ∈ ns)
  | _ => false
theorem any_name {K : PySem.W.Frag} {H : Hp} {bad : Addr → Prop} {v : V} {d : PyData} (ns : List Str) (r : Rep K H bad v d) : (ns.any fun z => isSt z v) = nameD ns d := by
  cases r with
  | str x =>
    show (ns.any fun z => z == x) = decide (x ∈ ns)
    rw [Bool.eq_iff_iff, List.any_eq_true, decide_eq_true_iff]
    exact ⟨fun ⟨z, hz, e⟩ => by rw [← eq_of_beq e]; exact hz, fun h => ⟨x, h, beq_self_eq_true x⟩⟩
  | _ => exact List.any_eq_false.mpr fun z _ => Bool.false_ne_true
def sp_check_handX (K : PySem.W.Frag) (mg : Str → Option Value) : Sp := fun vs H Q E => ∃ (b : Addr) (ns : List Str) (v : V) (d : PyData), vs = [.ref b, v] ∧ SqT K H b (ns.map V.str) ∧ Rep K H NB v d ∧ (nameD ns d = true → Q .non H) ∧
  (nameD ns d = false → ∀ H' e, Same H H' → H' e = some (.xd [(("name" : Str), v)]) → E (.ref (adr mg "NoHand")) (some e) H')
theorem okX_check_hand (T : Top K mg) : OkX P w K mg base 2 "check_hand" ["there", "hand"] (sp_check_handX K mg) := by
  refine T.d_check_hand.okX sc_check_hand (fun vs H Q E h => ?_) (fun f cdv A outer s H vs Q E hr h => ?_)
  · obtain ⟨b, ns, v, d, rfl, _⟩ := h
    rfl
  · obtain ⟨b, ns, v, d, rfl, hb, rv, q1, q2⟩ := h
    refine ⟨_, ((pss_one (ps_if (pt_cmpR (op_notInSt (units1 hr)) (pv 1) (pv 0) (by rfl))
        (pss_one (ps_raiseF (k := 0) T.f_NoHand T.e_NoHand PySem.F.excBase_LookupError PySem.F.store_LookupError rfl (hr.mono (by omega)) (takes_of rfl rfl rfl rfl) (pa_cons (pv 1) pa_nil)))
        pss_nil))), ?_⟩
    refine ⟨v, rfl, .ref b, rfl, b, ns, rfl, .inr hb, rv.any, _, rfl, ?_⟩
    rw [any_name ns rv]
    cases hn : nameD ns d with
    | true => exact iteF (q1 hn)
    | false =>
      refine iteT ⟨v, rfl, v, rfl, fun e ne => ?_⟩
      generalize h1 : upd H e _ = H1
      obtain ⟨s1, e1⟩ := new_of h1 ne
      exact q2 hn H1 e s1 e1
def sp_check_rowX (K : PySem.W.Frag) (mg : Str → Option Value) : Sp := fun vs H Q E => ∃ (v : V) (d : PyData) (p n : Int), vs = [.int p, .int n, v] ∧ Rep K H NB v d ∧ lenOk d ∧ (isRowD p n d = true → ∀ H', Same H H' → Q .non H') ∧ (isRowD p n d = false → ∀ H', Same H H' → E (.ref (adr mg "NoRow")) none H')
theorem okX_check_row (T : Top K mg) : OkX P w K mg base 4 "check_row" ["p", "n", "row"] (sp_check_rowX K mg) := by
  have O_is_row := ok_is_row (P := P) (w := w) (base := base) T
  refine T.d_check_row.okX sc_check_row (fun vs H Q E h => ?_) (fun f cdv A outer s H vs Q E hr h => ?_)
  · obtain ⟨v, d, p, n, rfl, _⟩ := h
    rfl
  · obtain ⟨v, d, p, n, rfl, rv, ld, q1, q2⟩ := h
    refine ⟨_, ((pss_one (ps_if (pt_not (pt_val (pe_callO O_is_row (hr.mono (by omega)) (by rfl) (pa_cons (pv 0) (pa_cons (pv 1) (pa_cons (pv 2) pa_nil))))))
        (pss_one (ps_raise rfl (takes_of rfl rfl rfl rfl) (pmk_own0 PySem.F.excBase_ValueError T.n_NoRow T.e_NoRow.g T.e_NoRow.kp (raises_own T.e_NoRow.b T.e_NoRow.t) rfl)))
        pss_nil))), ?_⟩
    refine ⟨.int p, rfl, .int n, rfl, v, rfl, p, n, v, d, rfl, rv, ld, fun H1 s1 => ⟨_, rfl, ?_⟩⟩
    cases hn : isRowD p n d with
    | true => exact iteF (q1 hn H1 s1)
    | false => exact iteT (q2 hn H1 s1)
/-- what an aside is refused for -/
structure Ref66 (K : PySem.W.Frag) (mg : Str → Option Value) (p : Int) (n : Nat) (kn : List (List Int)) (hs : List (Str × List (List Int))) (u1 u2 u3 : V) (d1 d2 d3 d4 : PyData) (H : Hp) (E : XK) : Prop where
  w1 : nameD (hs.map Prod.fst) d1 = false → ∀ H' e, Same H H' → H' e = some (.xd [(("name" : Str), u1)]) → E (.ref (adr mg "NoHand")) (some e) H'
  w2 : nameD (hs.map Prod.fst) d1 = true → nameD (hs.map Prod.fst) d2 = false → ∀ H' e, Same H H' → H' e = some (.xd [(("name" : Str), u2)]) → E (.ref (adr mg "NoHand")) (some e) H'
  w3 : nameD (hs.map Prod.fst) d1 = true → nameD (hs.map Prod.fst) d2 = true → nameD (hs.map Prod.fst) d3 = false → ∀ H' e, Same H H' → H' e = some (.xd [(("name" : Str), u3)]) → E (.ref (adr mg "NoHand")) (some e) H'
  w4 : nameD (hs.map Prod.fst) d1 = true → nameD (hs.map Prod.fst) d2 = true → nameD (hs.map Prod.fst) d3 = true → isRowD p n d4 = false → ∀ H', Same H H' → E (.ref (adr mg "NoRow")) none H'
  w5 : nameD (hs.map Prod.fst) d1 = true → ∀ y z r, d2 = .str y → d3 = .str z → d4 = rowD r → RowsOk p n [r] → y ∈ hs.map Prod.fst → z ∈ hs.map Prod.fst → hasR p n (roomI p n kn hs y) r = true → ∀ H' e, Same H H' → H' e = some (.xd [(("name" : Str), V.str y)]) → E (.ref (adr mg "Known")) (some e) H'
  w6 : nameD (hs.map Prod.fst) d1 = true → ∀ y z r, d2 = .str y → d3 = .str z → d4 = rowD r → RowsOk p n [r] → y ∈ hs.map Prod.fst → z ∈ hs.map Prod.fst → hasR p n (roomI p n kn hs y) r = false → hasR p n (roomI p n kn hs z) r = true → ∀ H' e, Same H H' → H' e = some (.xd [(("name" : Str), V.str z)]) → E (.ref (adr mg "Known")) (some e) H'
  w7 : nameD (hs.map Prod.fst) d1 = true → ∀ y z r, d2 = .str y → d3 = .str z → d4 = rowD r → RowsOk p n [r] → y ∈ hs.map Prod.fst → z ∈ hs.map Prod.fst → hasR p n (roomI p n kn hs y) r = false → hasR p n (roomI p n kn hs z) r = false → False
theorem nameD_str {ns : List Str} {d : PyData} (h : nameD ns d = true) : ∃ x, d = .str x ∧ x ∈ ns := by
  cases d with
  | str x => exact ⟨x, rfl, of_decide_eq_true h⟩
  | _ => exact absurd h Bool.false_ne_true
theorem isRow_inv {p : Int} {n : Nat} {d : PyData} (h : isRowD p n d = true) : ∃ r, d = rowD r ∧ RowsOk p n [r] := by
  have := rows_of (p := p) (n := n) (ds := [d]) (by simp [h])
  obtain ⟨e, ok⟩ := this
  exact ⟨intsOf d, (List.cons.inj e).1, ok⟩
def sp_asideX (K : PySem.W.Frag) (mg : Str → Option Value) : Sp := fun vs H Q E => ∃ (v u1 u2 u3 u4 : V) (d1 d2 d3 d4 : PyData) (p : Int) (n : Nat) (kn : List (List Int)) (hs : List (Str × List (List Int))), vs = [v, u1, u2, u3, u4] ∧ Dp K H v (standD p n kn hs) ∧ StandR p n kn hs ∧ hs.length ≤ 9 ∧ Rep K H NB u1 d1 ∧ Rep K H NB u2 d2 ∧ Rep K H NB u3 d3 ∧ Rep K H NB u4 d4 ∧ lenOk d4 ∧ Ref66 K mg p n kn hs u1 u2 u3 d1 d2 d3 d4 H E
theorem okX_aside (T : Top K mg) : OkX P w K mg base 11 "aside" ["stand", "caller", "learner", "other", "row"] (sp_asideX K mg) := by
  have O_names_of := ok_names_of (P := P) (w := w) (base := base) T
  have OX_check_hand := okX_check_hand (P := P) (w := w) (base := base) T
  have OX_check_row := okX_check_row (P := P) (w := w) (base := base) T
  have O_within := ok_within (P := P) (w := w) (base := base) T
  have O_room_in := ok_room_in (P := P) (w := w) (base := base) T
  refine T.d_aside.okX sc_aside (fun vs H Q E h => ?_) (fun f cdv A outer s H vs Q E hr h => ?_)
  · obtain ⟨v, u1, u2, u3, u4, d1, d2, d3, d4, p, n, kn, hs, rfl, _⟩ := h
    rfl
  · obtain ⟨v, u1, u2, u3, u4, d1, d2, d3, d4, p, n, kn, hs, rfl, dp, G, many, r1, r2, r3, r4, ld4, RF⟩ := h
    obtain ⟨a, k, g, wg, rfl, ha, hk, hg, dg⟩ := dp_stand dp
    have F := G.fld
    have n8 := G.n8
    refine ⟨_, ((pss_cons (ps_asg (pe_slice sl_tupB (pv 0) po_none (po_some pe_int)) (pg_tup (by rfl) (pgs_cons (pg_name (i := 5) sc_aside.nd rfl (.inl rfl)) (pgs_cons (pg_name (i := 6) sc_aside.nd rfl (.inl rfl)) pgs_nil))))
      (pss_cons (ps_for (passes_of rfl) (by rfl) (pi_tup (pe_tup (pa_cons (pv 1) (pa_cons (pv 2) (pa_cons (pv 3) pa_nil))))) (pg_name (i := 7) sc_aside.nd rfl (.inl rfl))
        (pss_one (ps_expr (pe_callX OX_check_hand (takes_of rfl rfl rfl rfl) (hr.mono (by omega)) (by rfl) (pa_cons (pe_callO O_names_of (hr.mono (by omega)) (by rfl) (pa_cons (pv 0) pa_nil)) (pa_cons (pv 7) pa_nil))))))
      (pss_cons (ps_expr (pe_callX OX_check_row (takes_of rfl rfl rfl rfl) (hr.mono (by omega)) (by rfl) (pa_cons (pv 5) (pa_cons (pv 6) (pa_cons (pv 4) pa_nil)))))
      (pss_cons (ps_for (passes_of rfl) (by rfl) (pi_tup (pe_tup (pa_cons (pv 2) (pa_cons (pv 3) pa_nil)))) (pg_name (i := 7) sc_aside.nd rfl (.inl rfl))
        (pss_one (ps_if (pt_val (pe_callO O_within (hr.mono (by omega)) (by rfl) (pa_cons (pv 5) (pa_cons (pe_callO O_room_in (hr.mono (by omega)) (by rfl) (pa_cons (pv 0) (pa_cons (pe_tup (pa_cons (pv 7) pa_nil)) pa_nil))) (pa_cons (pv 4) pa_nil)))))
          (pss_one (ps_raiseF (k := 0) T.f_Known T.e_Known PySem.F.excBase_ValueError PySem.F.store_ValueError rfl (hr.mono (by omega)) (takes_of rfl rfl rfl rfl) (pa_cons (pv 7) pa_nil)))
          pss_nil)))
      (pss_cons ps_dead
      (pss_cons ps_dead
      (pss_one ps_dead)))))))), ?_⟩
    refine ⟨.ref a, rfl, _, rfl, a, _, rfl, ha, fun l1 H1 s1 h1 => ?_⟩
    rw [cut_upto (by decide)] at h1
    refine ⟨l1, [.int p, .int n], rfl, h1, rfl, _, _, rfl, _, _, rfl, rfl, ?_⟩
    refine ⟨u1, rfl, u2, rfl, u3, rfl, sz1000 (by decide : (3 : Nat) ≤ 1000), fun t2 n2 => ?_⟩
    generalize h2 : upd H1 t2 _ = H2
    obtain ⟨s2, e2⟩ := new_of h2 n2
    have ht2 : SqT K H2 t2 [u1, u2, u3] := .inl (.inl e2)
    have s02 := s1.trans s2
    have up : ∀ {Hx : Hp} {u : V} {d : PyData}, Same H Hx → Rep K H NB u d → Rep K Hx NB u d := fun s r => rep_stays (Stays.of s) _ _ r
    refine ⟨t2, rfl, ⟨_, ht2⟩, for_it (walk_tup (K := K) (a := t2) (xs := [u1, u2, u3])) (fun i σ H' => Same H2 H' ∧ ((1 ≤ i → nameD (hs.map Prod.fst) d1 = true) ∧ (2 ≤ i → nameD (hs.map Prod.fst) d2 = true) ∧ (3 ≤ i → nameD (hs.map Prod.fst) d3 = true)) ∧ ∃ y7 : Option V, σ = [some (.ref a), some u1, some u2, some u3, some u4, some (.int p), some (.int (n : Int)), y7, none, none])
      ⟨Same.refl _, ⟨fun h => by omega, fun h => by omega, fun h => by omega⟩, none, rfl⟩ (fun i σ H' _ hW => Same.tup hW.1 ht2) (fun i u σ H3' H3 hi hW hY => ?_) (fun σ H3 hW => ?_)⟩
    · obtain ⟨rfl, hu⟩ := hY
      obtain ⟨s3, ⟨c1, c2, c3⟩, y7, rfl⟩ := hW
      have s03 := s02.trans s3
      refine ⟨.ref a, rfl, .ref a, p, n, kn, hs, rfl, dp_same s03 _ _ dp, many, fun H4 l4 s4 _ h4 => ?_⟩
      have s04 := s03.trans s4
      match i, hu, hi with
      | 0, hu, _ =>
        cases hu
        exact ⟨u1, rfl, l4, _, u1, d1, rfl, .inl (.inl h4), up s04 r1, fun h => ⟨s3.trans s4, ⟨fun _ => h, fun z => by omega, fun z => by omega⟩, _, rfl⟩, fun h H' e s' he => RF.w1 h H' e (s04.trans s') he⟩
      | 1, hu, _ =>
        cases hu
        have a1 := c1 (by omega)
        exact ⟨u2, rfl, l4, _, u2, d2, rfl, .inl (.inl h4), up s04 r2, fun h => ⟨s3.trans s4, ⟨fun _ => a1, fun _ => h, fun z => by omega⟩, _, rfl⟩, fun h H' e s' he => RF.w2 a1 h H' e (s04.trans s') he⟩
      | 2, hu, _ =>
        cases hu
        have a1 := c1 (by omega)
        have a2 := c2 (by omega)
        exact ⟨u3, rfl, l4, _, u3, d3, rfl, .inl (.inl h4), up s04 r3, fun h => ⟨s3.trans s4, ⟨fun _ => a1, fun _ => a2, fun _ => h⟩, _, rfl⟩, fun h H' e s' he => RF.w3 a1 a2 h H' e (s04.trans s') he⟩
      | k + 3, hu, _ => simp at hu
    obtain ⟨s3, ⟨c1, c2, c3⟩, y7, rfl⟩ := hW
    have a1 := c1 (Nat.le_of_ble_eq_true rfl)
    have a2 := c2 (Nat.le_of_ble_eq_true rfl)
    have a3 := c3 (Nat.le_of_ble_eq_true rfl)
    have s03 := s02.trans s3
    refine ⟨.int p, rfl, .int n, rfl, u4, rfl, u4, d4, p, n, rfl, up s03 r4, ld4, fun hrow H4 s4 => ?_, fun h H' s' => RF.w4 a1 a2 a3 h H' (s03.trans s')⟩
    have s04 := s03.trans s4
    obtain ⟨y, ey, my⟩ := nameD_str a2
    obtain ⟨z, ez, mz⟩ := nameD_str a3
    obtain ⟨r, er, okr⟩ := isRow_inv hrow
    have hY : u2 = .str y := by rw [ey] at r2; cases r2; rfl
    have hZ : u3 = .str z := by rw [ez] at r3; cases r3; rfl
    obtain ⟨b, rfl, hb⟩ : ∃ b, u4 = .ref b ∧ SqT K H b (r.map V.int) := by rw [er] at r4; exact rep_row r4
    subst hY hZ
    refine ⟨.str y, rfl, .str z, rfl, sz1000 (by decide : (2 : Nat) ≤ 1000), fun t5 n5 => ?_⟩
    generalize h5 : upd H4 t5 _ = H5
    obtain ⟨s5, e5⟩ := new_of h5 n5
    have ht5 : SqT K H5 t5 [.str y, .str z] := .inl (.inl e5)
    have s05 := s04.trans s5
    refine ⟨t5, rfl, ⟨_, ht5⟩, for_it (walk_tup (K := K) (a := t5) (xs := [.str y, .str z])) (fun i σ H' => Same H5 H' ∧ ((1 ≤ i → hasR p n (roomI p n kn hs y) r = false) ∧ (2 ≤ i → hasR p n (roomI p n kn hs z) r = false)) ∧ ∃ y7 : Option V, σ = [some (.ref a), some u1, some (.str y), some (.str z), some (.ref b), some (.int p), some (.int (n : Int)), y7, none, none])
      ⟨Same.refl _, ⟨fun h => by omega, fun h => by omega⟩, _, rfl⟩ (fun i σ H' _ hW => Same.tup hW.1 ht5) (fun i u σ H6' H6 hi hW hY => ?_) (fun σ H6 hW => ?_)⟩
    · obtain ⟨rfl, hu⟩ := hY
      obtain ⟨s6, ⟨b1, b2⟩, y7, rfl⟩ := hW
      have s06 := s05.trans s6
      obtain ⟨nm, rfl⟩ : ∃ nm, u = V.str nm := by
        match i, hu with
        | 0, hu => cases hu; exact ⟨_, rfl⟩
        | 1, hu => cases hu; exact ⟨_, rfl⟩
        | k + 2, hu => simp at hu
      refine ⟨.int p, rfl, .ref a, rfl, .str nm, rfl, sz1000 (by decide : (1 : Nat) ≤ 1000), fun o no => ?_⟩
      generalize g1 : upd _ o _ = H7
      obtain ⟨t1, e7⟩ := new_of g1 no
      refine ⟨.ref a, o, [nm], p, n, kn, hs, rfl, dp_same (s06.trans t1) _ _ dp, .inl (.inl e7), G, fun H8 l8 s8 h8 => ?_⟩
      have s68 := t1.trans s8
      refine ⟨.ref b, rfl, b, l8, _, r, p, n, rfl, h8, Same.tup (s06.trans s68) hb, roomI_pf G nm, okr, F, by omega, G.p1, fun H9 s9 => ⟨_, rfl, ?_⟩⟩
      have s09 := s06.trans (s68.trans s9)
      show if hasR p n (roomI p n kn hs nm) r = true then _ else _
      match i, hu, hi with
      | 0, hu, _ =>
        cases hu
        cases hh : hasR p n (roomI p n kn hs y) r with
        | false => exact iteF ⟨s6.trans (s68.trans s9), ⟨fun _ => rfl, fun z => by omega⟩, _, rfl⟩
        | true =>
          refine iteT ⟨.str y, rfl, .str y, rfl, fun e ne => ?_⟩
          generalize h10 : upd H9 e _ = H10
          obtain ⟨s10, e10⟩ := new_of h10 ne
          exact RF.w5 a1 y z r ey ez er okr my mz hh H10 e (s09.trans s10) e10
      | 1, hu, _ =>
        cases hu
        have b1' := b1 (by omega)
        cases hh : hasR p n (roomI p n kn hs z) r with
        | false => exact iteF ⟨s6.trans (s68.trans s9), ⟨fun _ => b1', fun _ => rfl⟩, _, rfl⟩
        | true =>
          refine iteT ⟨.str z, rfl, .str z, rfl, fun e ne => ?_⟩
          generalize h10 : upd H9 e _ = H10
          obtain ⟨s10, e10⟩ := new_of h10 ne
          exact RF.w6 a1 y z r ey ez er okr my mz b1' hh H10 e (s09.trans s10) e10
      | k + 2, hu, _ => simp at hu
    obtain ⟨s6, ⟨b1, b2⟩, y7, rfl⟩ := hW
    exact (RF.w7 a1 y z r ey ez er okr my mz (b1 (Nat.le_of_ble_eq_true rfl)) (b2 (Nat.le_of_ble_eq_true rfl))).elim
theorem pss_imp66 {X : Cx} {b : List Stmt} {t t' : TS} (h : PSs X b t) (i : ∀ D σ H, σ.length = X.N.length → t' D σ H → t D σ H) : PSs X b t' := ⟨fun pins s σ H D I q => h.run pins s σ H D I (i D σ H I.len q)⟩
def knowD (p : Int) (n : Nat) (kn : List (List Int)) (hs : List (Str × List (List Int))) : PyData → PyData → Bool
  | .str x, d => hasR p n (roomI p n kn hs x) (intsOf d)
  | _, _ => false
/-- what the law is due to tell -/
def dueD (p : Int) (n : Nat) (kn : List (List Int)) (hs : List (Str × List (List Int))) (d1 d2 d3 d4 : PyData) : PyData :=
  if nameD (hs.map Prod.fst) d1 = false then .list [.str "NoHand", d1] else
  if nameD (hs.map Prod.fst) d2 = false then .list [.str "NoHand", d2] else
  if nameD (hs.map Prod.fst) d3 = false then .list [.str "NoHand", d3] else
  if isRowD p n d4 = false then .list [.str "NoRow"] else
  if knowD p n kn hs d2 d4 = true then .list [.str "Known", d2] else
  if knowD p n kn hs d3 d4 = true then .list [.str "Known", d3] else .none
def sp_told66 (K : PySem.W.Frag) : Sp := fun vs H Q _ => ∃ (v : V) (L : Addr) (u1 u2 u3 u4 : V) (d1 d2 d3 d4 : PyData) (p : Int) (n : Nat) (kn : List (List Int)) (hs : List (Str × List (List Int))), vs = [v, .ref L] ∧ H L = some (.lst [u1, u2, u3, u4]) ∧ Dp K H v (standD p n kn hs) ∧ StandR p n kn hs ∧ hs.length ≤ 9 ∧ Rep K H NB u1 d1 ∧ Rep K H NB u2 d2 ∧ Rep K H NB u3 d3 ∧ Rep K H NB u4 d4 ∧ lenOk d4 ∧
  ∀ H' w, Same H H' → Rep K H' NB w (dueD p n kn hs d1 d2 d3 d4) → Q w H'
theorem ok__law_told (T : Top K mg) : Ok P w K mg base 13 "_law_told" ["_law_stand_here", "_law_things"] (sp_told66 K) := by
  have O_aside := ok_aside (P := P) (w := w) (base := base) T
  have OX_aside := okX_aside (P := P) (w := w) (base := base) T
  refine T.d__law_told.ok sc__law_told (fun vs H Q E h => ?_) (fun f cdv A outer s H vs Q E hr h => ?_)
  · obtain ⟨v, L, u1, u2, u3, u4, d1, d2, d3, d4, p, n, kn, hs, rfl, _⟩ := h
    rfl
  · obtain ⟨v, L, u1, u2, u3, u4, d1, d2, d3, d4, p, n, kn, hs, rfl, eL, dp, G, many, r1, r2, r3, r4, ld4, q⟩ := h
    by_cases fine : nameD (hs.map Prod.fst) d1 = true ∧ nameD (hs.map Prod.fst) d2 = true ∧ nameD (hs.map Prod.fst) d3 = true ∧ isRowD p n d4 = true ∧ knowD p n kn hs d2 d4 = false ∧ knowD p n kn hs d3 d4 = false
    · obtain ⟨a1, a2, a3, a4, a5, a6⟩ := fine
      have eD : dueD p n kn hs d1 d2 d3 d4 = .none := by unfold dueD; rw [a1, a2, a3, a4, a5, a6]; rfl
      rw [eD] at q
      obtain ⟨x, rfl, mx⟩ := nameD_str a1
      obtain ⟨y, rfl, my⟩ := nameD_str a2
      obtain ⟨z, rfl, mz⟩ := nameD_str a3
      obtain ⟨r, rfl, okr⟩ := isRow_inv a4
      cases r1
      cases r2
      cases r3
      obtain ⟨b, rfl, hb⟩ := rep_row r4
      have k1 : hasR p n (roomI p n kn hs y) r = false := by have : hasR p n (roomI p n kn hs y) (intsOf (rowD r)) = false := a5; rwa [ints_row] at this
      have k2 : hasR p n (roomI p n kn hs z) r = false := by have : hasR p n (roomI p n kn hs z) (intsOf (rowD r)) = false := a6; rwa [ints_row] at this
      have nI : ∀ {x : Str}, hasR p n (roomI p n kn hs x) r = false → ¬ InR p (roomI p n kn hs x) r := fun {x} h i => by
        rw [(has_pf G.fld (roomI_pf G x) okr).mpr i] at h
        cases h
      refine ⟨_, pss_cons (ps_try_cls (X := (cxOf C8.CX0 P w K mg base N__law_told "_law_told" (defScope s__law_told) f cdv A outer s H E).nox) (l := [⟨.ref (adr mg "NoHand"), 4, fun _ _ _ _ _ _ => False⟩, ⟨.ref (adr mg "Known"), 4, fun _ _ _ _ _ _ => False⟩, ⟨.ref (adr mg "NoRow"), 4, fun _ _ _ _ _ _ => False⟩])
        (tb := fun _ => tSeq (tAsg (tCall (sp_aside K) [] E0 (tCons (tVar 0) (tCons (tOp (rIxL K) (tVar 1) (tC (.int 0))) (tCons (tOp (rIxL K) (tVar 1) (tC (.int 1))) (tCons (tOp (rIxL K) (tVar 1) (tC (.int 2))) (tCons (tOp (rIxL K) (tVar 1) (tC (.int 3))) tNil)))))) (gName 2))
          (fun D σ H => ∃ (fa : Addr) (wd : Str) (w2 : V), σ[2]? = some (some (.ref fa)) ∧ SqT K H fa [.str wd, w2] ∧ (wd = "call" ∨ wd = "none") ∧ ∀ H', Same H H' → D.nx (σ.set 3 (some .non)) H'))
        rfl rfl sc__law_told.nd L2.takes0 (fun W' pn xe tk _ => ?_)
        (.cons rfl rfl ⟨(by rfl), (by decide), .inl T.e_NoHand.g⟩ (fun a oe cls d pn hz hf => ⟨fun pins s σ H D I h => h.elim⟩) (.cons rfl rfl ⟨(by rfl), (by decide), .inl T.e_Known.g⟩ (fun a oe cls d pn hz hf => ⟨fun pins s σ H D I h => h.elim⟩) (.cons rfl rfl ⟨(by rfl), (by decide), .inl T.e_NoRow.g⟩ (fun a oe cls d pn hz hf => ⟨fun pins s σ H D I h => h.elim⟩) .nil)))) (pss_one (ps_ret (pv 3))), ?_⟩
      · refine pss_cons (ps_set (i := 2) sc__law_told.nd rfl (.inl rfl) (pe_callO O_aside (hr.mono (by omega)) (by rfl) (pa_cons (pv 0) (pa_cons (pe_ix ix_list (pv 1) pe_int (fun _ _ => rfl)) (pa_cons (pe_ix ix_list (pv 1) pe_int (fun _ _ => rfl)) (pa_cons (pe_ix ix_list (pv 1) pe_int (fun _ _ => rfl)) (pa_cons (pe_ix ix_list (pv 1) pe_int (fun _ _ => rfl)) pa_nil))))))) ?_
        refine pss_imp66 (pss_one (ps_set (i := 3) sc__law_told.nd rfl (.inl rfl) (pe_ifExp (PW.pt (pw_and (pt_cmpR op_in_seq (pe_ix ix_tup (pv 2) pe_int (fun _ _ => rfl)) (pe_tup (pa_cons pe_str (pa_cons pe_str pa_nil))) (by rfl)) (pw_and1 (pt_cmpR op_eq (pe_callB call_len_seq (by rfl) T.b_len (by decide +kernel) (pa_cons (pv 2) pa_nil)) pe_int (nomark _))))) pe_non (pe_lst (pa_cons pe_str pa_nil))))) (fun D σ H l h => ?_)
        obtain ⟨fa, wd, w2, hs2, hfa, hwd, hq⟩ := h
        refine ⟨.ref fa, hs2, fa, _, 0, .str wd, rfl, rfl, hfa, rfl, sz1000 (by decide : (2 : Nat) ≤ 1000), fun t nt => ?_⟩
        generalize h1 : upd H t _ = H1
        obtain ⟨s1, e1⟩ := new_of h1 nt
        refine ⟨t, (["call", "none"] : List Str).map V.str, rfl, .inr (.inl (.inl e1)), rfl, flat_strs _, _, rfl, ?_⟩
        rw [show (if false = true then !inV (V.str wd) ((["call", "none"] : List Str).map V.str) else inV (V.str wd) ((["call", "none"] : List Str).map V.str)) = decide (wd ∈ (["call", "none"] : List Str)) by rw [if_neg Bool.false_ne_true, in_strs], decide_eq_true (by rcases hwd with rfl | rfl <;> simp)]
        refine iteT ?_
        exact ⟨.ref fa, hs2, fa, _, rfl, .inr (Same.tup s1 hfa), rfl, _, rfl, iteT (hq H1 s1)⟩
      · have fin : ∀ {H' : Hp} {fa : Addr} {wd : Str} {d2 : PyData}, Same H H' → Dp K H' (.ref fa) (.tuple [.str wd, d2]) → (wd = "call" ∨ wd = "none") → ∃ (fa' : Addr) (wd' : Str) (w2 : V), ([some v, some (.ref L), some (.ref fa), none, none] : L2.St)[2]? = some (some (.ref fa')) ∧ SqT K H' fa' [.str wd', w2] ∧ (wd' = "call" ∨ wd' = "none") ∧ ∀ H'', Same H' H'' → Q .non H'' := fun {H' fa wd d2} s' dd hw => by
          cases dd with
          | tup h hd =>
            cases hd with
            | cons h1 h2 =>
              cases h1
              cases h2 with
              | cons h3 h4 =>
                cases h4
                exact ⟨fa, wd, _, rfl, h, hw, fun H'' s'' => q H'' .non (s'.trans s'') .non⟩
        refine ⟨v, rfl, .ref L, rfl, L, _, 0, .str x, rfl, rfl, .inl (.inl eL), rfl, .ref L, rfl, L, _, 1, .str y, rfl, rfl, .inl (.inl eL), rfl, .ref L, rfl, L, _, 2, .str z, rfl, rfl, .inl (.inl eL), rfl, .ref L, rfl, L, _, 3, .ref b, rfl, rfl, .inl (.inl eL), rfl, ?_⟩
        refine ⟨v, b, x, y, z, r, p, n, kn, hs, rfl, dp, hb, G, okr, fun u hu => ?_, many, nI k1, nI k2, fun H' t s' => ⟨fun _ dd => ?_, fun c _ _ dd => ?_⟩⟩
        simp only [List.mem_cons, List.not_mem_nil, or_false] at hu
        rcases hu with rfl | rfl | rfl
        · exact mx
        · exact my
        · exact mz
        · obtain ⟨fa', wd', w2, e, h, hw, k⟩ := fin s' dd (.inr rfl)
          exact ⟨fa', wd', w2, e, h, hw, fun H'' s'' => ⟨.non, rfl, k H'' s''⟩⟩
        · obtain ⟨fa', wd', w2, e, h, hw, k⟩ := fin s' dd (.inl rfl)
          exact ⟨fa', wd', w2, e, h, hw, fun H'' s'' => ⟨.non, rfl, k H'' s''⟩⟩
    · refine ⟨_, pss_cons (ps_try_cls (X := (cxOf C8.CX0 P w K mg base N__law_told "_law_told" (defScope s__law_told) f cdv A outer s H E).nox)
        (l := [⟨.ref (adr mg "NoHand"), 4, fun a cls d D σ H => (cls = .ref (adr mg "NoHand") ∧ d.isSome = true) ∧ (σ.length = 5 → σ[4]? = some (some (.ref a))) ∧ ∃ dd u, d = some dd ∧ H dd = some (.xd [(("name" : Str), u)]) ∧ ∀ H' w, Same H H' → H' w = some (.lst [.str "NoHand", u]) → D.nx (σ.set 3 (some (.ref w))) H'⟩,
          ⟨.ref (adr mg "Known"), 4, fun a cls d D σ H => (cls = .ref (adr mg "Known") ∧ d.isSome = true) ∧ (σ.length = 5 → σ[4]? = some (some (.ref a))) ∧ ∃ dd u, d = some dd ∧ H dd = some (.xd [(("name" : Str), u)]) ∧ ∀ H' w, Same H H' → H' w = some (.lst [.str "Known", u]) → D.nx (σ.set 3 (some (.ref w))) H'⟩,
          ⟨.ref (adr mg "NoRow"), 4, fun a cls d D σ H => (cls = .ref (adr mg "NoRow") ∧ d = none) ∧ (σ.length = 5 → σ[4]? = some (some (.ref a))) ∧ ∀ H' w, Same H H' → H' w = some (.lst [.str "NoRow"]) → D.nx (σ.set 3 (some (.ref w))) H'⟩])
        (tb := fun W => tSeq (tAsg (tCallS (sp_asideX K mg) (WE W) (tCons (tVar 0) (tCons (tOp (rIxL K) (tVar 1) (tC (.int 0))) (tCons (tOp (rIxL K) (tVar 1) (tC (.int 1))) (tCons (tOp (rIxL K) (tVar 1) (tC (.int 2))) (tCons (tOp (rIxL K) (tVar 1) (tC (.int 3))) tNil)))))) (gName 2)) (fun _ _ _ => False))
        rfl rfl sc__law_told.nd L2.takes0 (fun W' pn xe tk _ => ?_)
        (.cons rfl rfl ⟨(by rfl), (by decide), .inl T.e_NoHand.g⟩ (fun a oe cls d pn hz hf => pss_pre fun hp => ?_) (.cons rfl rfl ⟨(by rfl), (by decide), .inl T.e_Known.g⟩ (fun a oe cls d pn hz hf => pss_pre fun hp => ?_) (.cons rfl rfl ⟨(by rfl), (by decide), .inl T.e_NoRow.g⟩ (fun a oe cls d pn hz hf => pss_pre fun hp => ?_) .nil)))) (pss_one (ps_ret (pv 3))), ?_⟩
      · exact pss_cons (ps_set (i := 2) sc__law_told.nd rfl (.inl rfl) (pe_callX OX_aside tk (hr.mono (by omega)) (by rfl) (pa_cons (pv 0) (pa_cons (pe_ix ix_list (pv 1) pe_int (fun _ _ => rfl)) (pa_cons (pe_ix ix_list (pv 1) pe_int (fun _ _ => rfl)) (pa_cons (pe_ix ix_list (pv 1) pe_int (fun _ _ => rfl)) (pa_cons (pe_ix ix_list (pv 1) pe_int (fun _ _ => rfl)) pa_nil))))))) (pss_one ps_dead)
      · obtain ⟨rfl, hd⟩ := hp
        obtain ⟨dd, rfl⟩ := Option.isSome_iff_exists.mp hd
        have iE := call_isF (X := (cxOf C8.CX0 P w K mg base N__law_told "_law_told" (defScope s__law_told) f cdv A outer s H E).nox) (a := a) (pn := pn) T.e_NoHand.c hz hf
        refine pss_imp66 (pss_one (ps_set (i := 3) sc__law_told.nd rfl (.inl rfl) (pe_ifExp (PW.pt (pw_and (pt_val (pe_callB iE (by rfl) T.b_isinstance (by decide +kernel) (pa_cons (pv 4) (pa_cons (pe_bltn (v := .ty "LookupError") (u := .type "LookupError") (by rfl) T.b_LookupError (by decide +kernel) rfl) pa_nil)))) (pw_and1 (pt_not (pt_val (pe_callB iE (by rfl) T.b_isinstance (by decide +kernel) (pa_cons (pv 4) (pa_cons (pe_bltn (v := .ty "ValueError") (u := .type "ValueError") (by rfl) T.b_ValueError (by decide +kernel) rfl) pa_nil))))))))
          (pe_lst (pa_cons pe_str (pa_cons (pe_fldE T.f_NoHand T.e_NoHand hz hf (pv 4)) pa_nil))) (pe_lst (pa_cons pe_str pa_nil))))) (fun D σ H l h => ?_)
        obtain ⟨l4, dd', u, hd', he, hq⟩ := h
        cases hd'
        refine ⟨.ref a, l4 l, _, _, true, _, rfl, fun u r => r, kit_blt (by decide +kernel) T.s_NoHand_LookupError, he, true, rfl, iteT ?_⟩
        refine ⟨.ref a, l4 l, _, _, false, _, rfl, fun u r => r, kit_blt (by decide +kernel) T.s_NoHand_ValueError, he, false, rfl, iteT ?_⟩
        refine ⟨.ref a, l4 l, rfl, rfl, dd, u, rfl, he, sz1000 (by decide : (2 : Nat) ≤ 1000), fun w' nw => ?_⟩
        generalize h7 : upd H w' _ = H7
        obtain ⟨s7, e7⟩ := new_of h7 nw
        exact hq H7 w' s7 e7
      · obtain ⟨rfl, hd⟩ := hp
        obtain ⟨dd, rfl⟩ := Option.isSome_iff_exists.mp hd
        have iE := call_isF (X := (cxOf C8.CX0 P w K mg base N__law_told "_law_told" (defScope s__law_told) f cdv A outer s H E).nox) (a := a) (pn := pn) T.e_Known.c hz hf
        have iT := call_isFT (X := (cxOf C8.CX0 P w K mg base N__law_told "_law_told" (defScope s__law_told) f cdv A outer s H E).nox) (a := a) (pn := pn) T.e_Known.c hz hf
        refine pss_imp66 (pss_one (ps_set (i := 3) sc__law_told.nd rfl (.inl rfl) (pe_ifExp (PW.pt (pw_or (pt_val (pe_callB iT (by rfl) T.b_isinstance (by decide +kernel) (pa_cons (pv 4) (pa_cons (pe_tup (pa_cons (pe_glob (v := .ref _) (by rfl) T.e_NoRow.g rfl) (pa_cons (pe_glob (v := .ref _) (by rfl) T.e_NotKnown.g rfl) pa_nil))) pa_nil)))) (pw_or1 (pt_not (pt_val (pe_callB iE (by rfl) T.b_isinstance (by decide +kernel) (pa_cons (pv 4) (pa_cons (pe_glob (v := .ref _) (by rfl) T.e_CallError.g rfl) pa_nil))))))))
          (pe_lst (pa_cons pe_str pa_nil)) (pe_lst (pa_cons pe_str (pa_cons (pe_fldE T.f_Known T.e_Known hz hf (pv 4)) pa_nil)))))) (fun D σ H l h => ?_)
        obtain ⟨l4, dd', u, hd', he, hq⟩ := h
        cases hd'
        refine ⟨.ref a, l4 l, sz1000 (by decide : (2 : Nat) ≤ 1000), fun t nt => ?_⟩
        generalize h6 : upd H t _ = H6
        obtain ⟨s6, e6⟩ := new_of h6 nt
        have k1 := kit_own (x := "Known") T.e_NoRow T.s_Known_NoRow (fun z => absurd z (adr_ne T.s_Known_NoRow T.s_NoRow_NoRow))
        have k2 := kit_own (x := "Known") T.e_NotKnown T.s_Known_NotKnown (fun z => absurd z (adr_ne T.s_Known_NotKnown T.s_NotKnown_NotKnown))
        refine ⟨t, _, _, false, _, rfl, e6, .cons (.own _) (.cons (.own _) .nil), kitAny_cons k1 (fun _ => kitAny_cons k2 (fun _ => kitAny_nil) (fun z => nomatch z)) (fun z => nomatch z), s6 _ _ he, false, rfl, iteF ?_⟩
        refine ⟨.ref a, l4 l, _, _, true, _, rfl, fun u r => r, kit_own (x := "Known") T.e_CallError T.s_Known_CallError (fun _ => rfl), s6 _ _ he, true, rfl, iteF ?_⟩
        refine ⟨.ref a, l4 l, rfl, rfl, dd, u, rfl, s6 _ _ he, sz1000 (by decide : (2 : Nat) ≤ 1000), fun w' nw => ?_⟩
        generalize h7 : upd H6 w' _ = H7
        obtain ⟨s7, e7⟩ := new_of h7 nw
        exact hq H7 w' (s6.trans s7) e7
      · obtain ⟨rfl, rfl⟩ := hp
        have iE := call_isE (X := (cxOf C8.CX0 P w K mg base N__law_told "_law_told" (defScope s__law_told) f cdv A outer s H E).nox) (a := a) (pn := pn) T.e_NoRow.c hz hf
        refine pss_imp66 (pss_one (ps_set (i := 3) sc__law_told.nd rfl (.inl rfl) (pe_ifExp (PW.pt (pw_or (pt_val (pe_callB iE (by rfl) T.b_isinstance (by decide +kernel) (pa_cons (pv 4) (pa_cons (pe_glob (v := .ref _) (by rfl) T.e_NotKnown.g rfl) pa_nil)))) (pw_or1 (pt_not (pt_val (pe_callB iE (by rfl) T.b_isinstance (by decide +kernel) (pa_cons (pv 4) (pa_cons (pe_glob (v := .ref _) (by rfl) T.e_CallError.g rfl) pa_nil))))))))
          (pe_lst (pa_cons pe_str pa_nil)) (pe_lst (pa_cons pe_str pa_nil))))) (fun D σ H l h => ?_)
        obtain ⟨l4, hq⟩ := h
        refine ⟨.ref a, l4 l, _, _, false, rfl, fun u r => r, kit_own (x := "NoRow") T.e_NotKnown T.s_NoRow_NotKnown (fun z => absurd z (adr_ne T.s_NoRow_NotKnown T.s_NotKnown_NotKnown)), false, rfl, iteF ?_⟩
        refine ⟨.ref a, l4 l, _, _, true, rfl, fun u r => r, kit_own (x := "NoRow") T.e_CallError T.s_NoRow_CallError (fun _ => rfl), true, rfl, iteF ?_⟩
        refine ⟨sz1000 (by decide : (1 : Nat) ≤ 1000), fun w' nw => ?_⟩
        generalize h7 : upd H w' _ = H7
        obtain ⟨s7, e7⟩ := new_of h7 nw
        exact hq H7 w' s7 e7
      · refine ⟨v, rfl, .ref L, rfl, L, _, 0, u1, rfl, rfl, .inl (.inl eL), rfl, .ref L, rfl, L, _, 1, u2, rfl, rfl, .inl (.inl eL), rfl, .ref L, rfl, L, _, 2, u3, rfl, rfl, .inl (.inl eL), rfl, .ref L, rfl, L, _, 3, u4, rfl, rfl, .inl (.inl eL), rfl, ?_⟩
        refine ⟨v, u1, u2, u3, u4, d1, d2, d3, d4, p, n, kn, hs, rfl, dp, G, many, r1, r2, r3, r4, ld4, ?_⟩
        have up : ∀ {Hx : Hp} {u : V} {d : PyData}, Same H Hx → Rep K H NB u d → Rep K Hx NB u d := fun s r => rep_stays (Stays.of s) _ _ r
        refine ⟨fun h => ?_, fun h1 h => ?_, fun h1 h2 h => ?_, fun h1 h2 h3 h => ?_, fun h1 y z r e2 e3 e4 okr my mz hk => ?_, fun h1 y z r e2 e3 e4 okr my mz hk1 hk => ?_, fun h1 y z r e2 e3 e4 okr my mz hk1 hk2 => ?_⟩
        · have eD : dueD p n kn hs d1 d2 d3 d4 = .list [.str "NoHand", d1] := by unfold dueD; rw [if_pos h]
          rw [eD] at q
          exact fun H' e s' he => ⟨true, T.e_NoHand.exm T.s_NoHand_NoHand, fun _ a _ => ⟨⟨rfl, rfl⟩, fun _ => rfl, e, u1, rfl, he, fun H'' w' s'' ew => ⟨.ref w', rfl, q H'' _ (s'.trans s'') (.lst ew (fun z => z) (.cons (.str _) (.cons (up (s'.trans s'') r1) .nil)))⟩⟩, fun z => nomatch z⟩
        · have eD : dueD p n kn hs d1 d2 d3 d4 = .list [.str "NoHand", d2] := by unfold dueD; rw [if_neg (by rw [h1]; decide), if_pos h]
          rw [eD] at q
          exact fun H' e s' he => ⟨true, T.e_NoHand.exm T.s_NoHand_NoHand, fun _ a _ => ⟨⟨rfl, rfl⟩, fun _ => rfl, e, u2, rfl, he, fun H'' w' s'' ew => ⟨.ref w', rfl, q H'' _ (s'.trans s'') (.lst ew (fun z => z) (.cons (.str _) (.cons (up (s'.trans s'') r2) .nil)))⟩⟩, fun z => nomatch z⟩
        · have eD : dueD p n kn hs d1 d2 d3 d4 = .list [.str "NoHand", d3] := by unfold dueD; rw [if_neg (by rw [h1]; decide), if_neg (by rw [h2]; decide), if_pos h]
          rw [eD] at q
          exact fun H' e s' he => ⟨true, T.e_NoHand.exm T.s_NoHand_NoHand, fun _ a _ => ⟨⟨rfl, rfl⟩, fun _ => rfl, e, u3, rfl, he, fun H'' w' s'' ew => ⟨.ref w', rfl, q H'' _ (s'.trans s'') (.lst ew (fun z => z) (.cons (.str _) (.cons (up (s'.trans s'') r3) .nil)))⟩⟩, fun z => nomatch z⟩
        · have eD : dueD p n kn hs d1 d2 d3 d4 = .list [.str "NoRow"] := by unfold dueD; rw [if_neg (by rw [h1]; decide), if_neg (by rw [h2]; decide), if_neg (by rw [h3]; decide), if_pos h]
          rw [eD] at q
          exact fun H' s' => ⟨false, T.e_NoHand.exm T.s_NoRow_NoHand, (fun z => nomatch z), fun _ => ⟨false, T.e_Known.exm T.s_NoRow_Known, (fun z => nomatch z), fun _ => ⟨true, T.e_NoRow.exm T.s_NoRow_NoRow, fun _ a _ => ⟨⟨rfl, rfl⟩, fun _ => rfl, fun H'' w' s'' ew => ⟨.ref w', rfl, q H'' _ (s'.trans s'') (.lst ew (fun z => z) (.cons (.str _) .nil))⟩⟩, fun z => nomatch z⟩⟩⟩
        · have eK : knowD p n kn hs d2 d4 = true := by rw [e2, e4]; show hasR p n (roomI p n kn hs y) (intsOf (rowD r)) = true; rw [ints_row]; exact hk
          have eD : dueD p n kn hs d1 d2 d3 d4 = .list [.str "Known", .str y] := by
            unfold dueD
            rw [if_neg (by rw [h1]; decide), if_neg (by rw [e2]; show ¬ decide (y ∈ _) = false; rw [decide_eq_true my]; decide), if_neg (by rw [e3]; show ¬ decide (z ∈ _) = false; rw [decide_eq_true mz]; decide), if_neg (by rw [e4, isRow_row (okr r List.mem_cons_self)]; decide), if_pos eK, e2]
          rw [eD] at q
          exact fun H' e s' he => ⟨false, T.e_NoHand.exm T.s_Known_NoHand, (fun z => nomatch z), fun _ => ⟨true, T.e_Known.exm T.s_Known_Known, fun _ a _ => ⟨⟨rfl, rfl⟩, fun _ => rfl, e, _, rfl, he, fun H'' w' s'' ew => ⟨.ref w', rfl, q H'' _ (s'.trans s'') (.lst ew (fun z => z) (.cons (.str _) (.cons (.str _) .nil)))⟩⟩, fun z => nomatch z⟩⟩
        · have eK : knowD p n kn hs d2 d4 = false := by rw [e2, e4]; show hasR p n (roomI p n kn hs y) (intsOf (rowD r)) = false; rw [ints_row]; exact hk1
          have eK2 : knowD p n kn hs d3 d4 = true := by rw [e3, e4]; show hasR p n (roomI p n kn hs z) (intsOf (rowD r)) = true; rw [ints_row]; exact hk
          have eD : dueD p n kn hs d1 d2 d3 d4 = .list [.str "Known", .str z] := by
            unfold dueD
            rw [if_neg (by rw [h1]; decide), if_neg (by rw [e2]; show ¬ decide (y ∈ _) = false; rw [decide_eq_true my]; decide), if_neg (by rw [e3]; show ¬ decide (z ∈ _) = false; rw [decide_eq_true mz]; decide), if_neg (by rw [e4, isRow_row (okr r List.mem_cons_self)]; decide), if_neg (by rw [eK]; decide), if_pos eK2, e3]
          rw [eD] at q
          exact fun H' e s' he => ⟨false, T.e_NoHand.exm T.s_Known_NoHand, (fun z => nomatch z), fun _ => ⟨true, T.e_Known.exm T.s_Known_Known, fun _ a _ => ⟨⟨rfl, rfl⟩, fun _ => rfl, e, _, rfl, he, fun H'' w' s'' ew => ⟨.ref w', rfl, q H'' _ (s'.trans s'') (.lst ew (fun z => z) (.cons (.str _) (.cons (.str _) .nil)))⟩⟩, fun z => nomatch z⟩⟩
        · refine fine ⟨h1, ?_, ?_, ?_, ?_, ?_⟩
          · rw [e2]; exact decide_eq_true my
          · rw [e3]; exact decide_eq_true mz
          · rw [e4]; exact isRow_row (okr r List.mem_cons_self)
          · rw [e2, e4]; show hasR p n (roomI p n kn hs y) (intsOf (rowD r)) = false; rw [ints_row]; exact hk1
          · rw [e3, e4]; show hasR p n (roomI p n kn hs z) (intsOf (rowD r)) = false; rw [ints_row]; exact hk2
end
end OC
set_option Elab.async false
set_option linter.all false
set_option maxRecDepth 100000
set_option maxHeartbeats 4000000
namespace OC
open PySem PySem.Spec PyProof.Rows L2
section
variable {P : Program} {w : World} {K : PySem.W.Frag} {mg : Str → Option Value} {base : Heap}
theorem within_is66 {p : Int} {n : Nat} {R : List (List Int)} {r : List Int} {x : Bool} (F : Fld p) (pf : PFR p n R) (okr : RowsOk p n [r]) (h : x = true ↔ ∀ y ∈ leftR p R r, y = 0) : x = hasR p n R r := by
  have l := (PFR.left_ok F pf okr _ List.mem_cons_self).1
  rw [← left_iff F pf okr]
  refine Bool.eq_iff_iff.mpr ?_
  rw [h, decide_eq_true_iff]
  exact (noughts_iff l).symm
theorem stand_dict {H : Hp} {a : Addr} {p : Int} {n : Nat} {kn : List (List Int)} {hs : List (Str × List (List Int))} (nd : (hs.map Prod.fst).Nodup) (h : StandAt K H a p n kn hs) : ∃ (k g : Addr) (ps : List Addr) (kvs : List (L2.Key × V)), SqT K H a [.int p, .int (n : Int), .ref k, .ref g] ∧ TupF H g (ps.map V.ref) ∧ Paired (fun p kv => SqT K H p [kV kv.1, kv.2]) ps kvs ∧ mergeK [] kvs = kvs ∧ kvs.map Prod.fst = (hs.map Prod.fst).map Sum.inr ∧ ∀ h ∈ hs, ∃ r, valV kvs (Sum.inr h.1) = some (.ref r) ∧ RowsAt K H r h.2 := by
  obtain ⟨k, g, ws, h1, h2, h3, h4⟩ := h
  obtain ⟨ps, kvs, rfl, e2, e3, e4⟩ := hands_pairs h4
  have nd' : (kvs.map Prod.fst).Nodup := by
    rw [e3]
    exact List.Pairwise.map _ (fun a b h e => h (Sum.inr.inj e)) nd
  exact ⟨k, g, ps, kvs, h1, h3, e2, merge_app kvs [] nd', e3, fun x hx => by obtain ⟨r, m, hr⟩ := e4 x hx; exact ⟨r, val_mem nd' m, hr⟩⟩
theorem val_names {kvs : List (L2.Key × V)} {ns : List Str} (e : kvs.map Prod.fst = ns.map Sum.inr) (hv : ∀ x ∈ ns, (valV kvs (Sum.inr x)).isSome = true) (x : Str) : (valV kvs (Sum.inr x : L2.Key)).isSome = decide (x ∈ ns) := by
  by_cases h : x ∈ ns
  · rw [hv x h, decide_eq_true h]
  · rw [decide_eq_false h]
    cases hq : valV kvs (Sum.inr x : L2.Key) with
    | none => rfl
    | some v =>
      have m : (Sum.inr x : L2.Key) ∈ kvs.map Prod.fst := valV_in hq
      rw [e] at m
      obtain ⟨y, my, ey⟩ := List.mem_map.mp m
      exact absurd (Sum.inr.inj ey ▸ my) h
theorem due_hand {p : Int} {n : Nat} {kn : List (List Int)} {hs : List (Str × List (List Int))} {d1 d2 d3 d4 d : PyData} : ∀ (i : Nat), [d1, d2, d3][i]? = some d → (∀ j d', j < i → [d1, d2, d3][j]? = some d' → nameD (hs.map Prod.fst) d' = true) → nameD (hs.map Prod.fst) d = false → dueD p n kn hs d1 d2 d3 d4 = .list [.str "NoHand", d]
  | 0, e, _, h => by cases e; unfold dueD; rw [if_pos h]
  | 1, e, a, h => by
    cases e
    unfold dueD
    rw [if_neg (by rw [a 0 d1 (by omega) rfl]; decide), if_pos h]
  | 2, e, a, h => by
    cases e
    unfold dueD
    rw [if_neg (by rw [a 0 d1 (by omega) rfl]; decide), if_neg (by rw [a 1 d2 (by omega) rfl]; decide), if_pos h]
  | k + 3, e, _, _ => by simp at e
theorem due_row {p : Int} {n : Nat} {kn : List (List Int)} {hs : List (Str × List (List Int))} {d1 d2 d3 d4 : PyData} (a : ∀ j d', j < 3 → [d1, d2, d3][j]? = some d' → nameD (hs.map Prod.fst) d' = true) (h : isRowD p n d4 = false) : dueD p n kn hs d1 d2 d3 d4 = .list [.str "NoRow"] := by
  unfold dueD
  rw [if_neg (by rw [a 0 d1 (by omega) rfl]; decide), if_neg (by rw [a 1 d2 (by omega) rfl]; decide), if_neg (by rw [a 2 d3 (by omega) rfl]; decide), if_pos h]
theorem due_known {p : Int} {n : Nat} {kn : List (List Int)} {hs : List (Str × List (List Int))} {d1 d2 d3 d4 d : PyData} (a : ∀ j d', j < 3 → [d1, d2, d3][j]? = some d' → nameD (hs.map Prod.fst) d' = true) (hr : isRowD p n d4 = true) : ∀ (i : Nat), [d2, d3][i]? = some d → (∀ j d', j < i → [d2, d3][j]? = some d' → knowD p n kn hs d' d4 = false) → knowD p n kn hs d d4 = true → dueD p n kn hs d1 d2 d3 d4 = .list [.str "Known", d] := by
  have e0 : dueD p n kn hs d1 d2 d3 d4 = if knowD p n kn hs d2 d4 = true then .list [.str "Known", d2] else if knowD p n kn hs d3 d4 = true then .list [.str "Known", d3] else .none := by
    unfold dueD
    rw [if_neg (by rw [a 0 d1 (by omega) rfl]; decide), if_neg (by rw [a 1 d2 (by omega) rfl]; decide), if_neg (by rw [a 2 d3 (by omega) rfl]; decide), if_neg (by rw [hr]; decide)]
  intro i e b h
  rw [e0]
  match i, e with
  | 0, e => cases e; rw [if_pos h]
  | 1, e => cases e; rw [if_neg (by rw [b 0 d2 (by omega) rfl]; decide), if_pos h]
  | k + 2, e => simp at e
theorem due_none {p : Int} {n : Nat} {kn : List (List Int)} {hs : List (Str × List (List Int))} {d1 d2 d3 d4 : PyData} (a : ∀ j d', j < 3 → [d1, d2, d3][j]? = some d' → nameD (hs.map Prod.fst) d' = true) (hr : isRowD p n d4 = true) (b : ∀ j d', j < 2 → [d2, d3][j]? = some d' → knowD p n kn hs d' d4 = false) : dueD p n kn hs d1 d2 d3 d4 = .none := by
  unfold dueD
  rw [if_neg (by rw [a 0 d1 (by omega) rfl]; decide), if_neg (by rw [a 1 d2 (by omega) rfl]; decide), if_neg (by rw [a 2 d3 (by omega) rfl]; decide), if_neg (by rw [hr]; decide), if_neg (by rw [b 0 d2 (by omega) rfl]; decide), if_neg (by rw [b 1 d3 (by omega) rfl]; decide)]
def sp_due66 (K : PySem.W.Frag) : Sp := fun vs H Q _ => ∃ (a L : Addr) (u1 u2 u3 u4 : V) (d1 d2 d3 d4 : PyData) (p : Int) (n : Nat) (kn : List (List Int)) (hs : List (Str × List (List Int))), vs = [.ref a, .ref L] ∧ H L = some (.lst [u1, u2, u3, u4]) ∧ StandAt K H a p n kn hs ∧ Stand5 p n kn hs ∧ Rep K H NB u1 d1 ∧ Rep K H NB u2 d2 ∧ Rep K H NB u3 d3 ∧ Rep K H NB u4 d4 ∧ lenOk d4 ∧
  ∀ H' w, Same H H' → Rep K H' NB w (dueD p n kn hs d1 d2 d3 d4) → Q w H'
theorem ok__law_due (T : Top K mg) : Ok P w K mg base 4 "_law_due" ["_law_stand_here", "_law_things"] (sp_due66 K) := by
  have O__law_is_row := ok__law_is_row (P := P) (w := w) (base := base) T
  have O__law_within := ok__law_within (P := P) (w := w) (base := base) T
  refine T.d__law_due.ok sc__law_due (fun vs H Q E h => ?_) (fun f cdv A outer s H vs Q E hr h => ?_)
  · obtain ⟨a, L, u1, u2, u3, u4, d1, d2, d3, d4, p, n, kn, hs, rfl, _⟩ := h
    rfl
  · obtain ⟨a, L, u1, u2, u3, u4, d1, d2, d3, d4, p, n, kn, hs, rfl, eL, sa, S, r1, r2, r3, r4, ld4, q⟩ := h
    have F := S.fld
    have p2 := F.1
    have p1 := S.p1
    have n1 := S.n1
    have n8 := S.n8
    obtain ⟨k, g, ps, kvs, ha, tg, pr, mk, ek, hv⟩ := stand_dict S.nd sa
    have up : ∀ {Hx : Hp} {u : V} {d : PyData}, Same H Hx → Rep K H NB u d → Rep K Hx NB u d := fun s r => rep_stays (Stays.of s) _ _ r
    have hvs := val_names ek (fun x hx => by obtain ⟨z, mz, rfl⟩ := List.mem_map.mp hx; obtain ⟨r, e, _⟩ := hv z mz; rw [e]; rfl)
    refine ⟨_, ((pss_cons (ps_set (i := 2) sc__law_due.nd rfl (.inl rfl) (pe_callTy (call_dictT (by rfl)) (by rfl) T.b_dict (by decide +kernel) (pa_cons (pe_ix ix_tup (pv 0) pe_int (fun _ _ => rfl)) pa_nil)))
      (pss_cons (ps_for PassesOwn.never (by rfl) (pi_list (pe_slice sl_list (pv 1) po_none (po_some pe_int))) (pg_name (i := 3) sc__law_due.nd rfl (.inl rfl))
        (pss_one (ps_if (PW.pt (pw_or (pt_not (pt_val (pe_callB call_isi (by rfl) T.b_isinstance (by decide +kernel) (pa_cons (pv 3) (pa_cons (pe_bltn (v := .ty "str") (u := .type "str") (by rfl) T.b_str (by decide +kernel) rfl) pa_nil))))) (pw_or1 (pt_cmp (pc_dnotin (units1 hr) (pv 3) (pv 2))))))
          (pss_one (ps_ret (pe_lst (pa_cons pe_str (pa_cons (pv 3) pa_nil)))))
          pss_nil)))
      (pss_cons (ps_if (pt_not (pt_val (pe_callO O__law_is_row (hr.mono (by omega)) (by rfl) (pa_cons (pe_ix ix_tup (pv 0) pe_int (fun _ _ => rfl)) (pa_cons (pe_ix ix_tup (pv 0) pe_int (fun _ _ => rfl)) (pa_cons (pe_ix ix_list (pv 1) pe_int (fun _ _ => rfl)) pa_nil))))))
        (pss_one (ps_ret (pe_lst (pa_cons pe_str pa_nil))))
        pss_nil)
      (pss_cons (ps_for PassesOwn.never (by rfl) (pi_list (pe_slice sl_list (pv 1) (po_some pe_int) (po_some pe_int))) (pg_name (i := 3) sc__law_due.nd rfl (.inl rfl))
        (pss_one (ps_if (pt_val (pe_callO O__law_within (hr.mono (by omega)) (by rfl) (pa_cons (pe_ix ix_tup (pv 0) pe_int (fun _ _ => rfl)) (pa_cons (pe_dget (units1 hr) (pv 2) (pv 3) (fun _ _ => rfl)) (pa_cons (pe_ix ix_list (pv 1) pe_int (fun _ _ => rfl)) pa_nil)))))
          (pss_one (ps_ret (pe_lst (pa_cons pe_str (pa_cons (pv 3) pa_nil)))))
          pss_nil)))
      (pss_one (ps_ret pe_non))))))), ?_⟩
    refine ⟨.ref a, rfl, a, _, 3, .ref g, rfl, rfl, ha, rfl, g, ps, kvs, rfl, tg, pr, fun o no => ?_⟩
    rw [mk]
    generalize h1 : upd H o _ = H1
    obtain ⟨s1, eo⟩ := new_of h1 no
    refine ⟨.ref L, rfl, 3, rfl, L, _, rfl, .inl (.inl (s1 _ _ eL)), fun L1 nL1 => ?_⟩
    generalize h2 : upd H1 L1 _ = H2
    obtain ⟨s2, eL1⟩ := new_of h2 nL1
    have eL1' : H2 L1 = some (.lst [u1, u2, u3]) := eL1
    have s02 := s1.trans s2
    have ra3 : RepAll K H NB [u1, u2, u3] [d1, d2, d3] := .cons r1 (.cons r2 (.cons r3 .nil))
    refine ⟨L1, rfl, ⟨_, .inl (.inl eL1)⟩, for_it (walk_list (K := K) (a := L1) (xs := [u1, u2, u3])) (fun i σ H' => Same H2 H' ∧ (∀ j d', j < i → [d1, d2, d3][j]? = some d' → nameD (hs.map Prod.fst) d' = true) ∧ ∃ y3 : Option V, σ = [some (.ref a), some (.ref L), some (.ref o), y3]) ⟨Same.refl _, fun j d' h => by omega, none, rfl⟩ (fun i σ H' _ hW => .inl (.inl (hW.1 _ _ eL1'))) (fun i u σ H3' H3 hi hW hY => ?_) (fun σ H3 hW => ?_)⟩
    · obtain ⟨rfl, hu⟩ := hY
      obtain ⟨s3, c, y3, rfl⟩ := hW
      obtain ⟨d, ed, _, rd⟩ := repAll_get ra3 hu
      have s03 := s02.trans s3
      have rd3 := up s03 rd
      have out : nameD (hs.map Prod.fst) d = false → ∀ H' w, Same H3 H' → H' w = some (.lst [.str "NoHand", u]) → Q (.ref w) H' := fun h H' w s' e => by
        have := q H' (.ref w) (s03.trans s')
        rw [due_hand i ed c h] at this
        exact this (.lst e (fun z => z) (.cons (.str _) (.cons (up (s03.trans s') rd) .nil)))
      have on : nameD (hs.map Prod.fst) d = true → ∀ j d', j < i + 1 → [d1, d2, d3][j]? = some d' → nameD (hs.map Prod.fst) d' = true := fun h j d' hj e => by
        by_cases z : j = i
        · subst z
          cases e.symm.trans ed
          exact h
        · exact c j d' (by omega) e
      refine ⟨u, rfl, u, .ty "str", _, _, _, rfl, .ty "str", rd3.kd, kit_str _, _, rfl, ?_⟩
      have give : nameD (hs.map Prod.fst) d = false → ∀ (H7 : Hp), Same H3 H7 → tRet (tLst (tCons (tC (.str "NoHand")) (tCons (tVar 3) tNil))) { nx := fun _ _ => True, rt := Q, bk := fun _ _ => True, ct := fun _ _ => True } [some (.ref a), some (.ref L), some (.ref o), some u] H7 := fun h H7 s7 => by
        refine ⟨u, rfl, sz1000 (by decide : (2 : Nat) ≤ 1000), fun w' nw => ?_⟩
        generalize h8 : upd H7 w' _ = H8
        obtain ⟨s8, e8⟩ := new_of h8 nw
        exact out h H8 w' (s7.trans s8) e8
      by_cases hk : kdOf d = .str
      · obtain ⟨x, rfl⟩ : ∃ x, d = .str x := by cases d <;> first | exact ⟨_, rfl⟩ | cases hk
        cases rd
        refine iteF ⟨.str x, rfl, .ref o, rfl, o, _, rfl, DGet.k (k := (Sum.inr x : L2.Key)) ((s2.trans s3) _ _ eo), _, rfl, ?_⟩
        rw [hvs x]
        cases hx : decide (x ∈ hs.map Prod.fst) with
        | true => exact iteF ⟨s3, on hx, _, rfl⟩
        | false => exact iteT (give hx _ (Same.refl _))
      · have hf : nameD (hs.map Prod.fst) d = false := by cases d <;> first | rfl | exact absurd rfl hk
        rw [decide_eq_false hk]
        exact iteT (give hf _ (Same.refl _))
    obtain ⟨s3, c, y3, rfl⟩ := hW
    have s03 := s02.trans s3
    refine ⟨.ref a, rfl, a, _, 0, .int p, rfl, rfl, Same.tup s03 ha, rfl, .ref a, rfl, a, _, 1, .int (n : Int), rfl, rfl, Same.tup s03 ha, rfl, .ref L, rfl, L, _, 3, u4, rfl, rfl, .inl (.inl (s03 _ _ eL)), rfl, p, n, u4, d4, rfl, up s03 r4, ld4, fun H4 s4 => ⟨_, rfl, ?_⟩⟩
    have s04 := s03.trans s4
    cases hrow : isRowD p n d4 with
    | false =>
      refine iteT ⟨sz1000 (by decide : (1 : Nat) ≤ 1000), fun w' nw => ?_⟩
      generalize h5 : upd H4 w' _ = H5
      obtain ⟨s5, e5⟩ := new_of h5 nw
      have := q H5 (.ref w') (s04.trans s5)
      rw [due_row c hrow] at this
      exact this (.lst e5 (fun z => z) (.cons (.str _) .nil))
    | true =>
      refine iteF ?_
      obtain ⟨r, er, okr⟩ := isRow_inv hrow
      subst er
      obtain ⟨b, rfl, hb⟩ := rep_row r4
      refine ⟨.ref L, rfl, 1, rfl, 3, rfl, L, _, rfl, .inl (.inl (s04 _ _ eL)), fun Lb nLb => ?_⟩
      generalize h5 : upd H4 Lb _ = H5
      obtain ⟨s5, eLb⟩ := new_of h5 nLb
      have eLb' : H5 Lb = some (.lst [u2, u3]) := eLb
      have s05 := s04.trans s5
      have ra2 : RepAll K H NB [u2, u3] [d2, d3] := .cons r2 (.cons r3 .nil)
      refine ⟨Lb, rfl, ⟨_, .inl (.inl eLb)⟩, for_it (walk_list (K := K) (a := Lb) (xs := [u2, u3])) (fun i σ H' => Same H5 H' ∧ (∀ j d', j < i → [d2, d3][j]? = some d' → knowD p n kn hs d' (rowD r) = false) ∧ ∃ y3 : Option V, σ = [some (.ref a), some (.ref L), some (.ref o), y3]) ⟨Same.refl _, fun j d' h => by omega, _, rfl⟩ (fun i σ H' _ hW => .inl (.inl (hW.1 _ _ eLb'))) (fun i u σ H6' H6 hi hW hY => ?_) (fun σ H6 hW => ?_)⟩
      · obtain ⟨rfl, hu⟩ := hY
        obtain ⟨s6, c2, y3, rfl⟩ := hW
        obtain ⟨d, ed, _, rd⟩ := repAll_get ra2 hu
        have s06 := s05.trans s6
        have nm : nameD (hs.map Prod.fst) d = true := c (i + 1) d (by have : i < 2 := hi; show i + 1 < 3; omega) (by rw [show [d1, d2, d3][i + 1]? = [d2, d3][i]? from rfl]; exact ed)
        obtain ⟨x, rfl, mx⟩ := nameD_str nm
        cases rd
        obtain ⟨z, mz, ez⟩ := List.mem_map.mp mx
        obtain ⟨rr, e1, hrr⟩ := hv z mz
        rw [ez] at e1
        have eroom : roomI p n kn hs x = z.2 := by rw [← ez]; exact S.own mz
        have pf : PFR p n z.2 := S.ph z mz
        have eo6 : H6 o = some (.dK kvs) := (s2.trans (s3.trans (s4.trans (s5.trans s6)))) _ _ eo
        obtain ⟨wr, hr1, hr2⟩ := hrr
        refine ⟨.ref a, rfl, a, _, 0, .int p, rfl, rfl, Same.tup s06 ha, rfl, .ref o, rfl, .str x, rfl, o, .ref rr, rfl, by have := DGet.k (k := (Sum.inr x : L2.Key)) eo6; rw [e1] at this; exact this, .ref L, rfl, L, _, 3, .ref b, rfl, rfl, .inl (.inl (s06 _ _ eL)), rfl, ?_⟩
        refine ⟨rr, b, wr, z.2, r, p, n, rfl, .inr (Same.tup s06 hr1), dpAll_same s06 _ _ hr2, Same.tup s06 hb, pf.1, PFR.fp_lt F pf, okr, by omega, by omega, n1, by omega, by have := PFR.len F pf; omega, fun H7 xb s7 hx => ⟨_, rfl, ?_⟩⟩
        have ex := within_is66 F pf okr hx
        have ek2 : knowD p n kn hs (.str x) (rowD r) = xb := by
          show hasR p n (roomI p n kn hs x) (intsOf (rowD r)) = xb
          rw [ints_row, eroom]
          exact ex.symm
        cases hxb : xb with
        | false =>
          refine iteF ⟨s6.trans s7, fun j d' hj e => ?_, _, rfl⟩
          by_cases zz : j = i
          · subst zz
            cases e.symm.trans ed
            rw [ek2, hxb]
          · exact c2 j d' (by omega) e
        | true =>
          refine iteT ⟨.str x, rfl, sz1000 (by decide : (2 : Nat) ≤ 1000), fun w' nw => ?_⟩
          generalize h8 : upd H7 w' _ = H8
          obtain ⟨s8, e8⟩ := new_of h8 nw
          have := q H8 (.ref w') (s06.trans (s7.trans s8))
          rw [due_known c hrow i ed c2 (by rw [ek2, hxb])] at this
          exact this (.lst e8 (fun z => z) (.cons (.str _) (.cons (.str _) .nil)))
      obtain ⟨s6, c2, y3, rfl⟩ := hW
      have := q H6 .non (s05.trans s6)
      rw [due_none c hrow c2] at this
      exact this .non
end
end OC
set_option Elab.async false
set_option linter.all false
set_option maxRecDepth 100000
set_option maxHeartbeats 4000000
namespace OC
open PySem PySem.Spec PyProof.Rows L2
section
variable {P : Program} {w : World} {K : PySem.W.Frag} {mg : Str → Option Value} {base : Heap}
theorem cut66 (xs : List V) : cutV xs (some 1) none = xs.drop 1 := by
  cases xs with
  | nil => unfold cutV; simp
  | cons x xs => exact cut_from (by decide) (by simp; omega)
/-- a thing that is handed in, so many turns bent -/
structure OkT (t : Nat) (e : PyData) : Prop where
  f : FitZ (1000 + 100 * t) (3 + t) e
  l : lenOk e
theorem OkT.up {t : Nat} {e : PyData} (h : OkT t e) : OkT (t + 1) e := ⟨h.f.mono (by omega) (by omega), h.l⟩
theorem okT_small {t : Nat} {e : PyData} (h : FitZ 1000 3 e) (l : lenOk e) : OkT t e := ⟨h.mono (by omega) (by omega), l⟩
theorem okT_str {t : Nat} (z : Str) (h : z.length ≤ 8) (hc : ∀ c ∈ z.cps.toList, c < 200) : OkT t (.str z) := by
  refine okT_small ⟨?_, by simp [PyData.showable], by simp [PyData.depth]⟩ trivial
  simp only [PyData.shown]
  have := PySem.StrLaws.reprText_len z fun c m => Nat.lt_trans (hc c m) (by decide)
  omega
theorem okT_ints {t : Nat} {ns : List Int} (l : ns.length ≤ 9) (h : ∀ x ∈ ns, -1000000 ≤ x ∧ x ≤ 1000000) : OkT t (.tuple (ns.map PyData.int)) := by
  refine okT_small ((fitz_tuple (B := 50) (k := 0) (n := 9) (by rw [List.length_map]; exact l) fun d hd => ?_).mono (by decide) (by decide)) (show (ns.map PyData.int).length ≤ 1000 by rw [List.length_map]; omega)
  obtain ⟨x, mx, rfl⟩ := List.mem_map.mp hd
  exact fitz_int (h x mx).1 (h x mx).2
theorem okT_one {t : Nat} {e : PyData} (h : OkT t e) : OkT (t + 1) (.tuple [e]) :=
  ⟨(fitz_tuple (n := 1) (by simp) (fun d hd => by rw [List.mem_singleton.mp hd]; exact h.f)).mono (by omega) (by omega), by show 1 ≤ 1000; decide⟩
def sp_bent66 (K : PySem.W.Frag) : Sp := fun vs H Q _ => ∃ (d c a L rw : Addr) (t p : Int) (x y z : Str) (r : List Int) (n : Nat) (kn : List (List Int)) (hs : List (Str × List (List Int))), vs = [.ref d, .ref a, .ref L] ∧ Deck H d c t ∧ t ≤ 900000 ∧ StandAt K H a p n kn hs ∧ H L = some (.lst [.str x, .str y, .str z, .ref rw]) ∧ ¬ Bad d c L ∧ SqT K H rw (r.map V.int) ∧ RowsOk p n [r] ∧ 1 ≤ n ∧ n ≤ 8 ∧ p ≤ 1000 ∧ 1 ≤ p ∧ NameOk x ∧ NameOk y ∧ NameOk z ∧
  ∀ H' F t' u1 u2 u3 u4 d1 d2 d3 d4, Kept d c H H' → Deck H' d c t' → t' ≤ t + 10 → H' F = some (.lst [u1, u2, u3, u4]) → ¬ Bad d c F → Rep K H' NB u1 d1 → Rep K H' NB u2 d2 → Rep K H' NB u3 d3 → Rep K H' NB u4 d4 → (∀ e ∈ [d1, d2, d3, d4], OkT 3 e) → Q (.ref F) H'
theorem ok__law_bent (T : Top K mg) : Ok P w K mg base 3 "_law_bent" ["_law_deck_here", "_law_stand_here", "_law_things"] (sp_bent66 K) := by
  have O__law_draw := ok__law_draw (P := P) (w := w) (base := base) T
  refine T.d__law_bent.ok sc__law_bent (fun vs H Q E h => ?_) (fun f cdv A outer s H vs Q E hr h => ?_)
  · obtain ⟨d, c, a, L, rw, t, p, x, y, z, r, n, kn, hs, rfl, _⟩ := h
    rfl
  · obtain ⟨d, c, a, L, rw, t, p, x, y, z, r, n, kn, hs, rfl, D0, ht, sa, eL, bL, hrw, okr, n1, n8, p1, p0, nx, ny, nz, q⟩ := h
    obtain ⟨k, g, ws, ha, hk, hg, dg⟩ := sa
    have ok := okr r List.mem_cons_self
    have lr : r.length = n := ok.1
    have br : ∀ x ∈ r, -1000000 ≤ x ∧ x ≤ 1000000 := fun x hx => by have := ok.2 x hx; omega
    refine ⟨_, ((pss_cons (ps_asg (pe_slice sl_tupB (pv 1) po_none (po_some pe_int)) (pg_tup (by rfl) (pgs_cons (pg_name (i := 3) sc__law_bent.nd rfl (.inl rfl)) (pgs_cons (pg_name (i := 4) sc__law_bent.nd rfl (.inl rfl)) pgs_nil))))
      (pss_cons (ps_set (i := 5) sc__law_bent.nd rfl (.inl rfl) (pe_callTy call_list_of (by rfl) T.b_list (by decide +kernel) (pa_cons (pv 2) pa_nil)))
      (pss_cons (ps_for PassesOwn.never (by rfl) (pi_range1 (by rfl) T.b_range (pa_cons (pe_callO O__law_draw (hr.mono (by omega)) (by rfl) (pa_cons (pv 0) (pa_cons pe_int pa_nil))) pa_nil)) (pg_name (i := 6) sc__law_bent.nd rfl (.inl rfl))
        (pss_cons (ps_set (i := 7) sc__law_bent.nd rfl (.inl rfl) (pe_callO O__law_draw (hr.mono (by omega)) (by rfl) (pa_cons (pv 0) (pa_cons pe_int pa_nil))))
        (pss_cons (ps_set (i := 8) sc__law_bent.nd rfl (.inl rfl) (pe_lst (pa_cons pe_non (pa_cons pe_bl (pa_cons pe_int (pa_cons (pe_un un_neg pe_int) (pa_cons pe_str (pa_cons pe_str (pa_cons pe_str (pa_cons (pe_ix ix_list (pv 5) pe_int (fun _ _ => rfl)) (pa_cons (pe_tup pa_nil) (pa_cons (pe_lst pa_nil) (pa_cons pe_dnewK (pa_cons (pe_tup (pa_cons (pe_ix ix_list (pv 5) pe_int (fun _ _ => rfl)) pa_nil)) (pa_cons (pe_ix ix_list (pv 5) pe_int (fun _ _ => rfl)) pa_nil)))))))))))))))
        (C8.pss_cut (ps_if (pt_cmpR op_eq (pv 7) pe_int (nomark _))
          (pss_cons (ps_set (i := 9) sc__law_bent.nd rfl (.inl rfl) (pe_ix ix_list (pv 2) pe_int (fun _ _ => rfl)))
          (pss_one (ps_set (i := 8) sc__law_bent.nd rfl (.inl rfl) (pe_op op_cat (pv 8) (pe_lst (pa_cons (pe_op op_catB (pv 9) (pe_tup (pa_cons pe_int pa_nil))) (pa_cons (pe_slice sl_tupB (pv 9) (po_some pe_int) po_none) (pa_cons (pe_op op_catB (pe_tup (pa_cons (pv 3) pa_nil)) (pe_slice sl_tupB (pv 9) (po_some pe_int) po_none)) (pa_cons (pe_op op_catB (pe_tup (pa_cons (pe_un un_neg pe_int) pa_nil)) (pe_slice sl_tupB (pv 9) (po_some pe_int) po_none)) (pa_cons (pe_op op_catB (pe_tup (pa_cons pe_bl pa_nil)) (pe_slice sl_tupB (pv 9) (po_some pe_int) po_none)) (pa_cons (pe_callTy call_list_of (by rfl) T.b_list (by decide +kernel) (pa_cons (pv 9) pa_nil)) (pa_cons (pe_tup (pa_cons (pv 9) pa_nil)) pa_nil))))))))))))
          pss_nil)
        (pss_one (ps_asg (pe_ix ix_list (pv 8) (pe_callO O__law_draw (hr.mono (by omega)) (by rfl) (pa_cons (pv 0) (pa_cons (pe_callB call_len_seq (by rfl) T.b_len (by decide +kernel) (pa_cons (pv 8) pa_nil)) pa_nil))) (fun _ _ => rfl)) (pg_sub (pv 5) (pv 7) set_list)))))))
      (pss_one (ps_ret (pv 5))))))), ?_⟩
    refine ⟨.ref a, rfl, 2, rfl, a, _, rfl, ha, fun l1 H1 s1 h1 => ?_⟩
    rw [cut_upto (by decide)] at h1
    refine ⟨l1, [.int p, .int n], rfl, h1, rfl, _, _, rfl, _, _, rfl, rfl, ?_⟩
    refine ⟨.ref L, rfl, L, _, rfl, .inl (.inl (.inl (s1 _ _ eL))), fun F nF => ?_⟩
    generalize h2 : upd H1 F _ = H2
    obtain ⟨s2, eF⟩ := new_of h2 nF
    have s02 := s1.trans s2
    have D2 := D0.same s02
    have bF := (D0.same s1).fresh nF
    have nFH : H F = none := by
      cases e : H F with
      | none => rfl
      | some u => rw [s1 _ _ e] at nF; cases nF
    have bd : ∀ b, Bad d c b → (b = F ∨ H b ≠ none) := fun b hb => .inr (by
      rcases hb with rfl | rfl
      · rw [D0.hd]; exact fun z => nomatch z
      · obtain ⟨cells, h1, _⟩ := D0.hc; rw [h1]; exact fun z => nomatch z)
    have hrw2 := Same.tup s02 hrw
    have eL2 := s02 _ _ eL
    have okx : ∀ {t : Nat} {x : Str}, NameOk x → OkT t (.str x) := fun {t x} h => okT_str x h.2.1 fun c hc => by have := h.2.2 c hc; omega
    refine ⟨.ref d, rfl, d, c, t, 4, rfl, D2, by omega, by decide, by decide, fun H3 m k3 D3 m0 m1 => ⟨m, rfl, by omega, by omega, for_range (lo := 0) (n := m.toNat) (fun i σ H' => ∃ (t' : Int) (v0 v1 v2 v3 : V) (e0 e1 e2 e3 : PyData) (y6 y7 y8 y9 : Option V), Deck H' d c t' ∧ t' ≤ t + 1 + 2 * i ∧ H' F = some (.lst [v0, v1, v2, v3]) ∧ Rep K H' (fun a => a = F ∨ H a ≠ none) v0 e0 ∧ Rep K H' (fun a => a = F ∨ H a ≠ none) v1 e1 ∧ Rep K H' (fun a => a = F ∨ H a ≠ none) v2 e2 ∧ Rep K H' (fun a => a = F ∨ H a ≠ none) v3 e3 ∧ OkT i e0 ∧ OkT i e1 ∧ OkT i e2 ∧ OkT i e3 ∧ H' L = some (.lst [.str x, .str y, .str z, .ref rw]) ∧ SqT K H' rw (r.map V.int) ∧ (∀ b o, H b = some o → b ≠ d → b ≠ c → H' b = some o) ∧
      σ = [some (.ref d), some (.ref a), some (.ref L), some (.int p), some (.int (n : Int)), some (.ref F), y6, y7, y8, y9])
      ⟨t + 1, .str x, .str y, .str z, .ref rw, .str x, .str y, .str z, rowD r, none, none, none, none, D3, by omega, k3 _ _ eF (fun z => bF (.inl z)) (fun z => bF (.inr z)), .str x, .str y, .str z, .tup (Kept.tup D2 k3 hrw2) (repAll_ints r), okx nx, okx ny, okx nz, okT_ints (by omega) br, k3 _ _ eL2 (fun z => bL (.inl z)) (fun z => bL (.inr z)), Kept.tup D2 k3 hrw2, fun b o e n1 n2 => k3 _ _ (s02 _ _ e) n1 n2, rfl⟩ (fun i σ H4 hi hW => ?_) (fun σ H4 hW => ?_)⟩⟩
    · obtain ⟨t4, v0, v1, v2, v3, e0, e1, e2, e3, y6, y7, y8, y9, D4, ht4, eF4, r0, r1, r2, r3, o0, o1, o2, o3, eL4, hrw4, old4, rfl⟩ := hW
      refine ⟨.ref d, rfl, d, c, t4, 4, rfl, D4, by omega, by decide, by decide, fun H5 sp k5 D5 sp0 sp1 => ?_⟩
      have eF5 := k5 _ _ eF4 (fun z => bF (.inl z)) (fun z => bF (.inr z))
      have st5 : Stays (fun a => a = F ∨ H a ≠ none) H4 H5 := Stays.kept2 D4 k5 (bd d (.inl rfl)) (bd c (.inr rfl))
      have hrw5 := Kept.tup D4 k5 hrw4
      have eL5 := k5 _ _ eL4 (fun z => bL (.inl z)) (fun z => bL (.inr z))
      have sz : ∀ n : Nat, n ≤ 30 → n ≤ sizeLine := fun n h => Nat.le_trans h (by decide)
      refine ⟨1, rfl, .ref F, rfl, F, _, 0, v0, rfl, rfl, .inl (.inl eF5), rfl, sz 0 (by decide), fun q1 nq1 => ?_⟩
      generalize g6 : upd H5 q1 _ = H6
      obtain ⟨s6, e6⟩ := new_of g6 nq1
      refine ⟨sz 0 (by decide), fun q2 nq2 => ?_⟩
      generalize g7 : upd H6 q2 _ = H7
      obtain ⟨s7, e7⟩ := new_of g7 nq2
      intro q3 nq3
      generalize g8 : upd H7 q3 _ = H8
      obtain ⟨s8, e8⟩ := new_of g8 nq3
      have s58 := s6.trans (s7.trans s8)
      refine ⟨.ref F, rfl, F, _, 1, v1, rfl, rfl, .inl (.inl (s58 _ _ eF5)), rfl, sz 1 (by decide), fun q4 nq4 => ?_⟩
      generalize g9 : upd H8 q4 _ = H9
      obtain ⟨s9, e9⟩ := new_of g9 nq4
      have s59 := s58.trans s9
      refine ⟨.ref F, rfl, F, _, 3, v3, rfl, rfl, .inl (.inl (s59 _ _ eF5)), rfl, sz 13 (by decide), fun O nO => ?_⟩
      generalize g10 : upd H9 O _ = H10
      obtain ⟨s10, eO⟩ := new_of g10 nO
      have s510 := s59.trans s10
      have D10 := D5.same s510
      have bO := (D5.same s59).fresh nO
      have fresh : ∀ {b : Addr} {Hx : Hp}, (∀ b o, H5 b = some o → Hx b = some o) → Hx b = none → ¬ (b = F ∨ H b ≠ none) := fun {b Hx} kx nb hb => by
        have n5 : H5 b = none := by
          cases e : H5 b with
          | none => rfl
          | some u => rw [kx _ _ e] at nb; cases nb
        rcases hb with rfl | hb
        · rw [eF5] at n5; cases n5
        · have hd := D5.fresh n5
          cases e : H b with
          | none => exact hb e
          | some u =>
            have := k5 _ _ (old4 _ _ e (fun z => hd (.inl z)) (fun z => hd (.inr z))) (fun z => hd (.inl z)) (fun z => hd (.inr z))
            rw [n5] at this
            cases this
      have st510 : Stays (fun a => a = F ∨ H a ≠ none) H4 H10 := st5.trans (Stays.of s510)
      have R : ∀ {v : V} {e : PyData}, Rep K H4 (fun a => a = F ∨ H a ≠ none) v e → Rep K H10 (fun a => a = F ∨ H a ≠ none) v e := fun h => rep_stays st510 _ _ h
      have RA : RepAll K H10 (fun a => a = F ∨ H a ≠ none) [.non, .bl true, .int 0, .int (-1), .str "", .str "a", .str "zzzzzzzz", v0, .ref q1, .ref q2, .ref q3, .ref q4, v3] [.none, .bool true, .int 0, .int (-1), .str "", .str "a", .str "zzzzzzzz", e0, .tuple [], .list [], .dict [], .tuple [e1], e3] :=
        .cons .non <| .cons (.bl _) <| .cons (.int _) <| .cons (.int _) <| .cons (.str _) <| .cons (.str _) <| .cons (.str _) <| .cons (R r0) <| .cons (.tup (.inl (.inl ((s7.trans (s8.trans (s9.trans s10))) _ _ e6))) .nil) <| .cons (.lst ((s8.trans (s9.trans s10)) _ _ e7) (fresh s6 nq2) .nil) <| .cons (.dct ((s9.trans s10) _ _ e8) rfl) <| .cons (.tup (.inl (.inl (s10 _ _ e9))) (.cons (R r1) .nil)) <| .cons (R r3) .nil
      have OA : ∀ e ∈ ([.none, .bool true, .int 0, .int (-1), .str "", .str "a", .str "zzzzzzzz", e0, .tuple [], .list [], .dict [], .tuple [e1], e3] : List PyData), OkT (i + 1) e := fun e he => by
        simp only [List.mem_cons, List.not_mem_nil, or_false] at he
        have sm : ∀ {e : PyData}, e.shown.length ≤ 1000 → e.showable = true → e.depth ≤ 3 → lenOk e → OkT (i + 1) e := fun a b c d => okT_small ⟨a, b, c⟩ d
        rcases he with rfl | rfl | rfl | rfl | rfl | rfl | rfl | rfl | rfl | rfl | rfl | rfl | rfl
        · exact sm (by decide +kernel) rfl (by decide +kernel) trivial
        · exact sm (by decide +kernel) rfl (by decide +kernel) trivial
        · exact sm (by decide +kernel) rfl (by decide +kernel) trivial
        · exact sm (by decide +kernel) rfl (by decide +kernel) trivial
        · exact sm (by decide +kernel) rfl (by decide +kernel) trivial
        · exact sm (by decide +kernel) rfl (by decide +kernel) trivial
        · exact sm (by decide +kernel) rfl (by decide +kernel) trivial
        · exact o0.up
        · exact sm (by decide +kernel) (by decide +kernel) (by decide +kernel) (by show 0 ≤ 1000; decide)
        · exact sm (by decide +kernel) (by decide +kernel) (by decide +kernel) trivial
        · exact sm (by decide +kernel) (by decide +kernel) (by decide +kernel) trivial
        · exact okT_one o1
        · exact o3.up
      generalize hxs : ([.non, .bl true, .int 0, .int (-1), .str "", .str "a", .str "zzzzzzzz", v0, .ref q1, .ref q2, .ref q3, .ref q4, v3] : List V) = xs at RA
      generalize hes : ([.none, .bool true, .int 0, .int (-1), .str "", .str "a", .str "zzzzzzzz", e0, .tuple [], .list [], .dict [], .tuple [e1], e3] : List PyData) = es at RA OA
      have eO' : H10 O = some (.lst xs) := by rw [← hxs]; exact eO
      have lxs : xs.length = 13 := by rw [← hxs]; rfl
      clear hxs hes eO
      refine ⟨fun σ' H' => ∃ (O : Addr) (xs : List V) (es : List PyData) (y9 : Option V), Same H5 H' ∧ H' O = some (.lst xs) ∧ ¬ Bad d c O ∧ 1 ≤ xs.length ∧ xs.length ≤ 30 ∧ RepAll K H' (fun a => a = F ∨ H a ≠ none) xs es ∧ (∀ e ∈ es, OkT (i + 1) e) ∧ σ' = [some (.ref d), some (.ref a), some (.ref L), some (.int p), some (.int (n : Int)), some (.ref F), some (.int (0 + (i : Int))), some (.int sp), some (.ref O), y9], ?_, fun σ' H' hN => ?_⟩
      · refine ⟨.int sp, rfl, rfl, _, rfl, ite2 (fun hs => ?_) (fun hs => ?_)⟩
        · have hrwA := Same.tup s510 hrw5
          have lmr : (r.map V.int).length = n := by rw [List.length_map]; exact lr
          refine ⟨.ref L, rfl, L, _, 3, .ref rw, rfl, rfl, .inl (.inl (s510 _ _ eL5)), rfl, .ref O, rfl, .ref rw, rfl, sz 1 (by decide), fun a1 na1 => ?_⟩
          generalize f1 : upd H10 a1 _ = G1
          obtain ⟨t1, k1⟩ := new_of f1 na1
          refine ⟨rw, a1, _, _, rfl, rfl, Same.tup t1 hrwA, .inl (.inl k1), sz _ (by simp only [List.length_cons, List.length_nil]; omega), fun z1 G2 t2 j2 => ?_⟩
          have t02 := t1.trans t2
          refine ⟨.ref rw, rfl, 1, rfl, rw, _, rfl, Same.tup t02 hrwA, fun z2 G3 t3 j3 => ?_⟩
          rw [cut66, ← List.map_drop] at j3
          have t03 := t02.trans t3
          have ld : (r.drop 1).length ≤ 8 := by rw [List.length_drop]; omega
          refine ⟨.int p, rfl, sz 1 (by decide), fun a2 na2 => ?_⟩
          generalize f4 : upd G3 a2 _ = G4
          obtain ⟨t4', k4⟩ := new_of f4 na2
          have t04 := t03.trans t4'
          refine ⟨.ref rw, rfl, 1, rfl, rw, _, rfl, Same.tup t04 hrwA, fun c1 G5 t5 j5 => ?_⟩
          rw [cut66, ← List.map_drop] at j5
          refine ⟨a2, c1, _, _, rfl, rfl, .inl (.inl (t5 _ _ k4)), j5, sz _ (by simp only [List.length_cons, List.length_nil, List.length_map]; omega), fun z3 G6 t6 j6 => ?_⟩
          have t06 := t04.trans (t5.trans t6)
          refine ⟨1, rfl, sz 1 (by decide), fun a3 na3 => ?_⟩
          generalize f7 : upd G6 a3 _ = G7
          obtain ⟨t7, k7⟩ := new_of f7 na3
          have t07 := t06.trans t7
          refine ⟨.ref rw, rfl, 1, rfl, rw, _, rfl, Same.tup t07 hrwA, fun c2 G8 t8 j8 => ?_⟩
          rw [cut66, ← List.map_drop] at j8
          refine ⟨a3, c2, _, _, rfl, rfl, .inl (.inl (t8 _ _ k7)), j8, sz _ (by simp only [List.length_cons, List.length_nil, List.length_map]; omega), fun z4 G9 t9 j9 => ?_⟩
          have t09 := t07.trans (t8.trans t9)
          refine ⟨sz 1 (by decide), fun a4 na4 => ?_⟩
          generalize f10 : upd G9 a4 _ = G10
          obtain ⟨t10, k10⟩ := new_of f10 na4
          have t010 := t09.trans t10
          refine ⟨.ref rw, rfl, 1, rfl, rw, _, rfl, Same.tup t010 hrwA, fun c3 G11 t11 j11 => ?_⟩
          rw [cut66, ← List.map_drop] at j11
          refine ⟨a4, c3, _, _, rfl, rfl, .inl (.inl (t11 _ _ k10)), j11, sz _ (by simp only [List.length_cons, List.length_nil, List.length_map]; omega), fun z5 G12 t12 j12 => ?_⟩
          have t012 := t010.trans (t11.trans t12)
          refine ⟨.ref rw, rfl, rw, _, rfl, .inr (Same.tup t012 hrwA), fun z6 nz6 => ?_⟩
          generalize f13 : upd G12 z6 _ = G13
          obtain ⟨t13, k13⟩ := new_of f13 nz6
          have t013 := t012.trans t13
          refine ⟨.ref rw, rfl, sz 1 (by decide), fun z7 nz7 => ?_⟩
          generalize f14 : upd G13 z7 _ = G14
          obtain ⟨t14, k14⟩ := new_of f14 nz7
          have t014 := t013.trans t14
          refine ⟨sz 7 (by decide), fun O2 nO2 => ?_⟩
          generalize f15 : upd G14 O2 _ = G15
          obtain ⟨t15, k15⟩ := new_of f15 nO2
          have t015 := t014.trans t15
          refine ⟨O, O2, _, _, rfl, rfl, t015 _ _ eO', k15, sz _ (by simp only [List.length_cons, List.length_nil]; omega), fun O3 nO3 => ?_⟩
          generalize f16 : upd G15 O3 _ = G16
          obtain ⟨t16, k16⟩ := new_of f16 nO3
          have t016 := t015.trans t16
          have bd8 : ∀ x ∈ r.drop 1, -1000000 ≤ x ∧ x ≤ 1000000 := fun x hx => br x (List.mem_of_mem_drop hx)
          refine ⟨O3, _, es ++ [rowD (r ++ [0]), rowD (r.drop 1), rowD (p :: r.drop 1), rowD ((-1) :: r.drop 1), .tuple (.bool true :: (r.drop 1).map PyData.int), .list (r.map PyData.int), .tuple [rowD r]], _, s510.trans t016, k16, (D10.same t015).fresh nO3, by simp only [List.length_append, List.length_cons, List.length_nil]; omega, by simp only [List.length_append, List.length_cons, List.length_nil]; omega, repAll_append (repAll_stays (Stays.of t016) _ _ RA) ?_, fun e he => ?_, rfl⟩
          · have x14 := t15.trans t16
            have x13 := t14.trans x14
            have x12 := t13.trans x13
            have x9 := t10.trans (t11.trans (t12.trans x12))
            have x6 := t7.trans (t8.trans (t9.trans x9))
            have x3 := t4'.trans (t5.trans (t6.trans x6))
            have q1' : SqT K G16 z1 ((r ++ [0]).map V.int) := by rw [List.map_append]; exact Same.tup (t3.trans x3) j2
            have q3' : SqT K G16 z3 ((p :: r.drop 1).map V.int) := Same.tup x6 j6
            have q4' : SqT K G16 z4 (((-1) :: r.drop 1).map V.int) := Same.tup x9 j9
            have q5' : SqT K G16 z5 (.bl true :: (r.drop 1).map V.int) := Same.tup x12 j12
            refine .cons (.tup q1' (repAll_ints _)) <| .cons (.tup (Same.tup x3 j3) (repAll_ints _)) <| .cons (.tup q3' (repAll_ints _)) <| .cons (.tup q4' (repAll_ints _)) <| .cons (.tup q5' (.cons (.bl true) (repAll_ints _))) <| .cons (.lst (x13 _ _ k13) (fresh (s510.trans t012) nz6) (repAll_ints _)) <| .cons (.tup (.inl (.inl (x14 _ _ k14))) (.cons (.tup (Same.tup t016 hrwA) (repAll_ints _)) .nil)) .nil
          · rcases List.mem_append.mp he with he | he
            · exact OA e he
            · simp only [List.mem_cons, List.not_mem_nil, or_false] at he
              have bp : ∀ {a : Int}, -1000000 ≤ a ∧ a ≤ 1000000 → ∀ x ∈ a :: r.drop 1, -1000000 ≤ x ∧ x ≤ 1000000 := fun h x hx => by
                rcases List.mem_cons.mp hx with rfl | hx
                · exact h
                · exact bd8 x hx
              rcases he with rfl | rfl | rfl | rfl | rfl | rfl | rfl
              · exact okT_ints (by rw [List.length_append, List.length_singleton]; omega) fun x hx => by
                  rcases List.mem_append.mp hx with hx | hx
                  · exact br x hx
                  · rw [List.mem_singleton.mp hx]; decide
              · exact okT_ints (by omega) bd8
              · exact okT_ints (by rw [List.length_cons]; omega) (bp ⟨by omega, by omega⟩)
              · exact okT_ints (by rw [List.length_cons]; omega) (bp ⟨by decide, by decide⟩)
              · refine okT_small ((fitz_tuple (B := 50) (k := 0) (n := 9) (by rw [List.length_cons, List.length_map]; omega) fun d hd => ?_).mono (by decide) (by decide)) (show (PyData.bool true :: (r.drop 1).map PyData.int).length ≤ 1000 by rw [List.length_cons, List.length_map]; omega)
                rcases List.mem_cons.mp hd with rfl | hd
                · exact ⟨by decide +kernel, rfl, by decide +kernel⟩
                · obtain ⟨x, mx, rfl⟩ := List.mem_map.mp hd
                  exact fitz_int (bd8 x mx).1 (bd8 x mx).2
              · refine okT_small ((fitz_list (B := 50) (k := 0) (n := 9) (by rw [List.length_map]; omega) fun d hd => ?_).mono (by decide) (by decide)) trivial
                obtain ⟨x, mx, rfl⟩ := List.mem_map.mp hd
                exact fitz_int (br x mx).1 (br x mx).2
              · refine okT_small ((fitz_tuple (B := 471) (k := 1) (n := 1) (by simp) fun d hd => ?_).mono (by decide) (by decide)) (show 1 ≤ 1000 by decide)
                rw [List.mem_singleton.mp hd]
                refine (fitz_tuple (B := 50) (k := 0) (n := 9) (by rw [List.length_map]; omega) fun d hd => ?_).mono (by decide) (by decide)
                obtain ⟨x, mx, rfl⟩ := List.mem_map.mp hd
                exact fitz_int (br x mx).1 (br x mx).2
        · exact ⟨O, xs, es, _, s510, eO', bO, by omega, by omega, RA, OA, rfl⟩
      obtain ⟨O', ys, gs, y9', sN, eN, bN, ly1, ly2, RN, ON, rfl⟩ := hN
      have DN := D5.same sN
      refine ⟨.ref O', rfl, .ref d, rfl, .ref O', rfl, O', _, rfl, .inl (.inl (.inl eN)), d, c, t4 + 1, ys.length, rfl, DN, by omega, by omega, by omega, fun H12 j k12 D12 j0 j1 => ?_⟩
      have eN12 := k12 _ _ eN (fun z => bN (.inl z)) (fun z => bN (.inr z))
      have hj : j.toNat < ys.length := by omega
      obtain ⟨gd, eg, mg', rg⟩ := repAll_get RN (List.getElem?_eq_getElem hj)
      refine ⟨O', ys, j, _, rfl, rfl, .inl (.inl eN12), at_of (j := j.toNat) (by omega) (List.getElem?_eq_getElem hj), ?_⟩
      generalize ys[j.toNat] = u at rg
      have st12 : Stays (fun a => a = F ∨ H a ≠ none) H5 H12 := (Stays.of sN).trans (Stays.kept2 DN k12 (bd d (.inl rfl)) (bd c (.inr rfl)))
      have eF12 := k12 _ _ (sN _ _ eF5) (fun z => bF (.inl z)) (fun z => bF (.inr z))
      have stF : ∀ zs : List V, Stays (fun a => a = F ∨ H a ≠ none) H12 (upd H12 F (.lst zs)) := fun zs => ⟨(Tk.refl _).mut eF12, fun a kvs h => by rw [upd_ne (fun z => by rw [z, eF12] at h; cases h)]; exact h, fun a xs h nb => by rw [upd_ne (fun z => nb (.inl z))]; exact h⟩
      have old12 : ∀ zs : List V, ∀ b o, H b = some o → b ≠ d → b ≠ c → (upd H12 F (.lst zs)) b = some o := fun zs b o e n1 n2 => by
        rw [upd_ne (fun z => by rw [z, nFH] at e; cases e)]
        exact k12 _ _ (sN _ _ (k5 _ _ (old4 _ _ e n1 n2) n1 n2)) n1 n2
      have ou := ON gd mg'
      have stk : Stays (fun a => a = F ∨ H a ≠ none) _ H12 := Stays.kept2 DN k12 (bd d (.inl rfl)) (bd c (.inr rfl))
      have RR : ∀ (zs : List V) {v : V} {e : PyData}, Rep K H4 (fun a => a = F ∨ H a ≠ none) v e → Rep K (upd H12 F (.lst zs)) (fun a => a = F ∨ H a ≠ none) v e := fun zs {v e} h => rep_stays (st5.trans (st12.trans (stF zs))) _ _ h
      have RU : ∀ (zs : List V), Rep K (upd H12 F (.lst zs)) (fun a => a = F ∨ H a ≠ none) u gd := fun zs => rep_stays (stk.trans (stF zs)) _ _ rg
      have neFL : L ≠ F := fun z => by rw [z, nFH] at eL; cases eL
      have eL12 := k12 _ _ (sN _ _ eL5) (fun z => bL (.inl z)) (fun z => bL (.inr z))
      have eLx : ∀ zs : List V, (upd H12 F (.lst zs)) L = some (.lst [.str x, .str y, .str z, .ref rw]) := fun zs => by rw [upd_ne neFL]; exact eL12
      have hrx : ∀ zs : List V, SqT K (upd H12 F (.lst zs)) rw (r.map V.int) := fun zs => (stF zs).t _ _ _ (Kept.tup DN k12 (Same.tup sN hrw5))
      rcases (show sp = 0 ∨ sp = 1 ∨ sp = 2 ∨ sp = 3 by omega) with rfl | rfl | rfl | rfl
      · exact ⟨.ref F, rfl, .int 0, rfl, F, _, 0, 0, rfl, rfl, eF12, rfl, _, u, v1, v2, v3, gd, e1, e2, e3, _, _, _, _, D12.mut bF, by push_cast at *; omega, upd_same, RU _, RR _ r1, RR _ r2, RR _ r3, ou, o1.up, o2.up, o3.up, eLx _, hrx _, old12 _, rfl⟩
      · exact ⟨.ref F, rfl, .int 1, rfl, F, _, 1, 1, rfl, rfl, eF12, rfl, _, v0, u, v2, v3, e0, gd, e2, e3, _, _, _, _, D12.mut bF, by push_cast at *; omega, upd_same, RR _ r0, RU _, RR _ r2, RR _ r3, o0.up, ou, o2.up, o3.up, eLx _, hrx _, old12 _, rfl⟩
      · exact ⟨.ref F, rfl, .int 2, rfl, F, _, 2, 2, rfl, rfl, eF12, rfl, _, v0, v1, u, v3, e0, e1, gd, e3, _, _, _, _, D12.mut bF, by push_cast at *; omega, upd_same, RR _ r0, RR _ r1, RU _, RR _ r3, o0.up, o1.up, ou, o3.up, eLx _, hrx _, old12 _, rfl⟩
      · exact ⟨.ref F, rfl, .int 3, rfl, F, _, 3, 3, rfl, rfl, eF12, rfl, _, v0, v1, v2, u, e0, e1, e2, gd, _, _, _, _, D12.mut bF, by push_cast at *; omega, upd_same, RR _ r0, RR _ r1, RR _ r2, RU _, o0.up, o1.up, o2.up, ou, eLx _, hrx _, old12 _, rfl⟩
    · obtain ⟨t4, v0, v1, v2, v3, e0, e1, e2, e3, y6, y7, y8, y9, D4, ht4, eF4, r0, r1, r2, r3, o0, o1, o2, o3, eL4, hrw4, old4, rfl⟩ := hW
      have wk : ∀ {v : V} {e : PyData}, Rep K H4 (fun a => a = F ∨ H a ≠ none) v e → Rep K H4 NB v e := fun h => rep_weak (fun a z => z.elim) _ _ h
      have up3 : ∀ {e : PyData}, OkT m.toNat e → OkT 3 e := fun h => ⟨h.f.mono (by omega) (by omega), h.l⟩
      refine ⟨.ref F, rfl, q H4 F t4 v0 v1 v2 v3 e0 e1 e2 e3 old4 D4 (by omega) eF4 bF (wk r0) (wk r1) (wk r2) (wk r3) fun e he => ?_⟩
      simp only [List.mem_cons, List.not_mem_nil, or_false] at he
      rcases he with rfl | rfl | rfl | rfl
      · exact up3 o0
      · exact up3 o1
      · exact up3 o2
      · exact up3 o3
end
end OC
set_option Elab.async false
set_option linter.all false
set_option maxRecDepth 100000
set_option maxHeartbeats 4000000
namespace OC
open PySem PySem.Spec PyProof.Rows L2
section
variable {P : Program} {w : World} {K : PySem.W.Frag} {mg : Str → Option Value} {base : Heap}
theorem stand_R {p : Int} {n : Nat} {kn : List (List Int)} {hs : List (Str × List (List Int))} (S : Stand5 p n kn hs) : StandR p n kn hs where
  fld := S.fld
  p1 := S.p1
  n1 := S.n1
  n8 := S.n8
  ok := S.pk.1
  lk := Nat.le_trans (PFR.len S.fld S.pk) S.n8
  many := S.many
  rm := fun x hx => (S.ph x hx).1
  lr := fun x hx => Nat.le_trans (PFR.len S.fld (S.ph x hx)) S.n8
theorem at_str66 {xs : List Str} {z : Int} (h0 : 0 ≤ z) (h1 : z < (xs.length : Int)) : ∃ x, x ∈ xs ∧ atI (xs.map V.str) z = some (.str x) := by
  have hl : z.toNat < xs.length := by omega
  exact ⟨xs[z.toNat], List.getElem_mem hl, at_of (j := z.toNat) (by omega) (by rw [List.getElem?_map, List.getElem?_eq_getElem hl]; rfl)⟩
theorem due_fit {p : Int} {n : Nat} {kn : List (List Int)} {hs : List (Str × List (List Int))} {d1 d2 d3 d4 : PyData} (h : ∀ e ∈ [d1, d2, d3, d4], OkT 3 e) : FitS (dueD p n kn hs d1 d2 d3 d4) := by
  have two : ∀ {z : Str} {d : PyData}, z.length ≤ 8 → (∀ c ∈ z.cps.toList, c < 200) → OkT 3 d → FitS (.list [.str z, d]) := fun {z d} a b o => (fitz_list (B := 1300) (k := 6) (n := 2) (ds := [.str z, d]) (by simp) fun e he => by
    rcases List.mem_cons.mp he with rfl | he
    · exact (okT_str (t := 3) z a b).f.mono (by decide) (by decide)
    · rw [List.mem_singleton.mp he]; exact o.f.mono (by decide) (by decide)).fit (by decide) (by decide)
  unfold dueD
  split
  · exact two (by decide) (by decide) (h d1 (by simp))
  split
  · exact two (by decide) (by decide) (h d2 (by simp))
  split
  · exact two (by decide) (by decide) (h d3 (by simp))
  split
  · exact ⟨by decide +kernel, by decide +kernel, by decide +kernel⟩
  split
  · exact two (by decide) (by decide) (h d2 (by simp))
  split
  · exact two (by decide) (by decide) (h d3 (by simp))
  · exact ⟨by decide +kernel, rfl, by decide +kernel⟩
def sp_law (K : PySem.W.Frag) : Sp := fun vs H Q _ => ∃ (a : Addr) (ns : List Int), vs = [.ref a] ∧ SqL K H a (ns.map V.int) ∧ ns.length ≤ 63 ∧ ∀ H', Q (.bl true) H'
theorem ok_law (T : Top K mg) (hsys : HasSys base) {f : Addr} {fd : FuncData} (F : Fun K "law" "law" s_law f fd) : FnG P w K mg base CX0 16 f fd ["_law_script"] (sp_law K) := by
  have O__law_deck := ok__law_deck (P := P) (w := w) (base := base) T
  have O__law_draw := ok__law_draw (P := P) (w := w) (base := base) T
  have O__law_stand := ok__law_stand (P := P) (w := w) (base := base) T
  have O__law_row := ok__law_row (P := P) (w := w) (base := base) T
  have O__law_known := ok__law_known (P := P) (w := w) (base := base) T
  have O__law_bent := ok__law_bent (P := P) (w := w) (base := base) T
  have O__law_told := ok__law_told (P := P) (w := w) (base := base) T
  have O__law_due := ok__law_due (P := P) (w := w) (base := base) T
  refine funG F sc_law (fun vs H Q E h => ?_) (fun cdv A outer s H vs Q E hr hgd h => ?_)
  · obtain ⟨a, ns, rfl, _⟩ := h
    rfl
  · obtain ⟨a, ns, rfl, hS, hl, qq⟩ := h
    refine ⟨_, ((pss_cons (ps_set (i := 1) sc_law.nd rfl (.inr rfl) (pe_callO O__law_deck (hr.mono (by omega)) (by rfl) (pa_cons (pv 0) pa_nil)))
      (pss_cons (ps_for PassesOwn.never (by rfl) (pi_range1 (by rfl) T.b_range (pa_cons pe_int pa_nil)) (pg_name (i := 2) sc_law.nd rfl (.inl rfl))
        (pss_cons (ps_set (i := 3) sc_law.nd rfl (.inl rfl) (pe_callO O__law_stand (hr.mono (by omega)) (by rfl) (pa_cons (pv 1) (pa_cons pe_int (pa_cons pe_int pa_nil)))))
        (pss_cons (ps_set (i := 6) sc_law.nd rfl (.inr rfl) (pe_lc (own := [("_law_name", 4), ("_law_room_here", 5)]) (g := gTup K 2 (gCons (gName 4) (gCons (gName 5) gNil))) (by rfl) sc_law.nd (pi_tup (pe_ix ix_tup (pv 3) pe_int (fun _ _ => rfl))) (blkOk_by (own := [("_law_name", 4), ("_law_room_here", 5)]) (N := N_law) (sc := defScope s_law) (by decide +kernel)) (fun _ _ _ _ _ => (pg_tup (by rfl) (pgs_cons (pg_name (i := 4) sc_law.nd rfl (.inl rfl)) (pgs_cons (pg_name (i := 5) sc_law.nd rfl (.inl rfl)) pgs_nil)))) (fun _ _ _ _ _ => pts_nil) (fun _ _ _ _ _ => (pv 4))))
        (pss_one (ps_for PassesOwn.never (by rfl) (pi_range1 (by rfl) T.b_range (pa_cons pe_int pa_nil)) (pg_name (i := 7) sc_law.nd rfl (.inl rfl))
          (pss_cons (ps_setLc (i := 9) (own := [("_law_k", 8)]) (g := gName 8) (by rfl) sc_law.nd rfl rfl (sw_true rfl rfl rfl (by decide +kernel)) (pi_range1 (by rfl) T.b_range (pa_cons pe_int pa_nil)) (blkOk_by (own := [("_law_k", 8)]) (N := N_law) (sc := defScope s_law) (by decide +kernel)) (fun _ _ _ _ _ => (pg_name (i := 8) sc_law.nd rfl (.inl rfl))) (fun _ _ _ _ _ => pts_nil) (fun _ _ _ _ _ => (pe_ix (show IxR _ (rIxL K) from ix_list) (pv 6) (pe_callO O__law_draw (hr.mono (by omega)) (by rfl) (pa_cons (pv 1) (pa_cons (pe_callB (show CallR _ (.builtin "len") (rLenQ K) from call_len_seq) (by rfl) T.b_len (by decide +kernel) (pa_cons (pv 6) pa_nil)) pa_nil))) (fun _ _ => rfl))))
          (pss_cons (ps_set (i := 10) sc_law.nd rfl (.inl rfl) (pe_callO O__law_row (hr.mono (by omega)) (by rfl) (pa_cons (pv 1) (pa_cons (pe_ix ix_tup (pv 3) pe_int (fun _ _ => rfl)) (pa_cons (pe_ix ix_tup (pv 3) pe_int (fun _ _ => rfl)) pa_nil)))))
          (C8.pss_cut (ps_if (pt_cmpR op_eq (pe_callO O__law_draw (hr.mono (by omega)) (by rfl) (pa_cons (pv 1) (pa_cons pe_int pa_nil))) pe_int (nomark _))
            (pss_one (ps_set (i := 10) sc_law.nd rfl (.inl rfl) (pe_callO O__law_known (hr.mono (by omega)) (by rfl) (pa_cons (pv 1) (pa_cons (pv 3) (pa_cons (pe_ix ix_list (pv 6) (pe_callO O__law_draw (hr.mono (by omega)) (by rfl) (pa_cons (pv 1) (pa_cons (pe_callB call_len_seq (by rfl) T.b_len (by decide +kernel) (pa_cons (pv 6) pa_nil)) pa_nil))) (fun _ _ => rfl)) pa_nil))))))
            pss_nil)
          (pss_cons (ps_set (i := 9) sc_law.nd rfl (.inl rfl) (pe_callO O__law_bent (hr.mono (by omega)) (by rfl) (pa_cons (pv 1) (pa_cons (pv 3) (pa_cons (pe_op op_cat (pv 9) (pe_lst (pa_cons (pv 10) pa_nil))) pa_nil)))))
          (pss_cons (ps_set (i := 11) sc_law.nd rfl (.inl rfl) (pe_callB (call_reprS NB hsys hr hgd) (by rfl) T.b_repr (by decide +kernel) (pa_cons (pe_lst (pa_cons (pv 3) (pa_cons (pv 9) pa_nil))) pa_nil)))
          (pss_one (ps_if (PW.pt (pw_or (pt_cmpR op_ne (pe_callB (call_reprS NB hsys hr hgd) (by rfl) T.b_repr (by decide +kernel) (pa_cons (pe_callO O__law_told (hr.mono (by omega)) (by rfl) (pa_cons (pv 3) (pa_cons (pv 9) pa_nil))) pa_nil)) (pe_callB (call_reprS NB hsys hr hgd) (by rfl) T.b_repr (by decide +kernel) (pa_cons (pe_callO O__law_due (hr.mono (by omega)) (by rfl) (pa_cons (pv 3) (pa_cons (pv 9) pa_nil))) pa_nil)) (nomark _)) (pw_or1 (pt_cmpR op_ne (pe_callB (call_reprS NB hsys hr hgd) (by rfl) T.b_repr (by decide +kernel) (pa_cons (pe_lst (pa_cons (pv 3) (pa_cons (pv 9) pa_nil))) pa_nil)) (pv 11) (nomark _)))))
            (pss_one (ps_ret pe_bl))
            pss_nil))))))))))))
      (pss_one (ps_ret pe_bl))))), ?_⟩
    refine ⟨.ref a, rfl, a, ns, rfl, hS, hl, fun H1 d c s1 D1 _ _ => ?_⟩
    refine ⟨3, rfl, by decide, by decide, for_range (lo := 0) (n := 3) (fun i σ H' => ∃ (t' : Int) (y2 y3 y4 y5 y6 y7 y8 y9 y10 y11 : Option V), Deck H' d c t' ∧ t' ≤ 5000 * i ∧ σ = [some (.ref a), some (.ref d), y2, y3, y4, y5, y6, y7, y8, y9, y10, y11]) ⟨0, none, none, none, none, none, none, none, none, none, none, D1, by decide, rfl⟩ (fun i σ H2 hi hW => ?_) (fun σ H2 hW => qq H2)⟩
    obtain ⟨t2, y2, y3, y4, y5, y6, y7, y8, y9, y10, y11, D2, ht2, rfl⟩ := hW
    have hi3 : i < 3 := hi
    refine ⟨.ref d, rfl, d, c, t2, 5, 5, rfl, D2, by omega, by decide, by decide, by decide, by decide, fun H3 sa t3 p n kn hs k3 D3 ht3 sa3 S p101 hn hu => ?_⟩
    have F' := S.fld
    have p2 := F'.1
    have n1 := S.n1
    have n8 := S.n8
    obtain ⟨k, g, ws, ha, hk, hg, dg⟩ := id sa3
    have lws := dpAll_len dg
    rw [List.length_map] at lws
    have few := S.few
    refine ⟨.ref sa, rfl, sa, _, 3, .ref g, rfl, rfl, ha, rfl, g, rfl, ⟨_, hg.sq⟩, fun NL nNL => lc_it (walk_tup (K := K) (a := g) (xs := ws)) (fun j H' => Same H3 H' ∧ H' NL = some (.lst (((hs.take j).map Prod.fst).map V.str))) ⟨same_upd nNL, upd_same⟩ (fun j H' _ hP => Same.tup hP.1 hg.sq) (fun j v Ha Hb hj hP hY => ?_) (fun H4 hP => ?_)⟩
    · obtain ⟨rfl, hx⟩ := hY
      obtain ⟨s4, eN⟩ := hP
      obtain ⟨c', rr, y, rfl, gy, my, hc', _⟩ := dpAll_hand (dpAll_same s4 _ _ dg) hx
      refine ⟨c', _, rfl, hc', rfl, _, _, rfl, _, _, rfl, rfl, rfl, .str y.1, rfl, _, eN, small1000 (by rw [List.length_map, List.length_map, List.length_take]; omega), same_mut s4 nNL, ?_⟩
      rw [upd_same, List.take_add_one, gy, List.map_append, List.map_append]
      rfl
    obtain ⟨s4, eN⟩ := hP
    rw [List.take_of_length_le (by omega)] at eN
    have D4 := D3.same s4
    have bN := D3.fresh nNL
    have lnm : (hs.map Prod.fst).length = hs.length := List.length_map ..
    generalize hnm : hs.map Prod.fst = nm at eN lnm
    have nmok : ∀ x ∈ nm, NameOk x := fun x hx => S.nm x (by rw [hnm]; exact hx)
    have lh5 : hs.length ≤ 5 := by omega
    have zz : ∀ n : Nat, n ≤ 1000 → n ≤ sizeLine := fun n h => Nat.le_trans h (by decide)
    refine ⟨8, rfl, by decide, by decide, for_range (lo := 0) (n := 8) (fun j σ H' => ∃ (t' : Int) (y4 y5 y7 y8 y9 y10 y11 : Option V), Deck H' d c t' ∧ t' ≤ t3 + 100 * j ∧ StandAt K H' sa p n kn hs ∧ H' NL = some (.lst (nm.map V.str)) ∧ σ = [some (.ref a), some (.ref d), some (.int (0 + (i : Int))), some (.ref sa), y4, y5, some (.ref NL), y7, y8, y9, y10, y11]) ⟨t3, _, _, _, _, _, _, _, D4, by omega, sa3.same s4, eN, rfl⟩ (fun j σ H5 hj hW => ?_) (fun σ H5 hW => ?_)⟩
    · obtain ⟨t5, y4, y5, y7, y8, y9, y10, y11, D5, ht5, sa5, eN5, rfl⟩ := hW
      have hj8 : j < 8 := hj
      refine ⟨3, rfl, by decide, by decide, fun DD nDD => lc_range (lo := 0) (n := 3) (fun m H' => Kept d c H5 H' ∧ ∃ (t' : Int) (xs : List Str), Deck H' d c t' ∧ t' ≤ t5 + m ∧ H' DD = some (.lst (xs.map V.str)) ∧ xs.length = m ∧ ∀ x ∈ xs, x ∈ nm) ⟨Kept.of (same_upd nDD), t5, [], D5.same (same_upd nDD), by omega, upd_same, rfl, fun x hx => nomatch hx⟩ (fun m H' hm hP => ?_) (fun H6 hP => ?_)⟩
      · obtain ⟨ka, t', xs, D', ht', eD, lx, mx⟩ := hP
        have bD := D5.fresh nDD
        have eN' := ka _ _ eN5 (fun z => bN (.inl z)) (fun z => bN (.inr z))
        refine ⟨rfl, .ref NL, rfl, .ref d, rfl, .ref NL, rfl, NL, _, rfl, .inl (.inl (.inl eN')), d, c, t', _, rfl, D', by omega, by rw [List.length_map]; omega, by rw [List.length_map]; omega, fun H'' u kb D'' u0 u1 => ?_⟩
        rw [List.length_map] at u1
        obtain ⟨x, mxx, ax⟩ := at_str66 u0 u1
        have eD' := kb _ _ eD (fun z => bD (.inl z)) (fun z => bD (.inr z))
        refine ⟨NL, _, u, .str x, rfl, rfl, .inl (.inl (kb _ _ eN' (fun z => bN (.inl z)) (fun z => bN (.inr z)))), ax, _, eD', small1000 (by rw [List.length_map]; omega), (ka.trans kb).mut nDD, t' + 1, xs ++ [x], D''.mut bD, by push_cast; omega, by rw [upd_same, List.map_append]; rfl, by rw [List.length_append, lx]; rfl, fun z hz => ?_⟩
        rcases List.mem_append.mp hz with hz | hz
        · exact mx z hz
        · rw [List.mem_singleton.mp hz]; exact mxx
      obtain ⟨k6, t6, xs, D6, ht6, eD6, lx, mx⟩ := hP
      obtain ⟨x, y, z, rfl⟩ : ∃ x y z, xs = [x, y, z] := by
        match xs, lx with
        | [x, y, z], _ => exact ⟨x, y, z, rfl⟩
      have sa6 := sa5.kept D5 k6
      have eN6 := k6 _ _ eN5 (fun z => bN (.inl z)) (fun z => bN (.inr z))
      have bDD := D5.fresh nDD
      obtain ⟨k', g', ws', ha6, _, _, _⟩ := id sa6
      refine ⟨.ref d, rfl, .ref sa, rfl, sa, _, 0, .int p, rfl, rfl, ha6, rfl, .ref sa, rfl, sa, _, 1, .int (n : Int), rfl, rfl, ha6, rfl, d, c, t6, p, n, rfl, D6, by omega, by omega, by omega, n1, by omega, fun H7 za r t7 k7 D7 ht7 na7 ea7 okr => ?_⟩
      have sa7 := sa6.kept D6 k7
      have eN7 := k7 _ _ eN6 (fun z => bN (.inl z)) (fun z => bN (.inr z))
      have eD7 := k7 _ _ eD6 (fun z => bDD (.inl z)) (fun z => bDD (.inr z))
      refine ⟨fun σ' H' => ∃ (t' : Int) (zr : Addr) (r : List Int) (y8 y11 : Option V), Deck H' d c t' ∧ t' ≤ t5 + 60 ∧ StandAt K H' sa p n kn hs ∧ H' NL = some (.lst (nm.map V.str)) ∧ H' DD = some (.lst [.str x, .str y, .str z]) ∧ SqT K H' zr (r.map V.int) ∧ RowsOk p n [r] ∧ σ' = [some (.ref a), some (.ref d), some (.int (0 + (i : Int))), some (.ref sa), y4, y5, some (.ref NL), some (.int (0 + (j : Int))), y8, some (.ref DD), some (.ref zr), y11], ?_, fun σ' H' hN => ?_⟩
      · refine ⟨.ref d, rfl, d, c, t7, 2, rfl, D7, by omega, by decide, by decide, fun H8 u k8 D8 u0 u1 => ⟨rfl, _, rfl, ite2 (fun _ => ?_) (fun _ => ?_)⟩⟩
        · have eN8 := k8 _ _ eN7 (fun z => bN (.inl z)) (fun z => bN (.inr z))
          have eD8 := k8 _ _ eD7 (fun z => bDD (.inl z)) (fun z => bDD (.inr z))
          have sa8 := sa7.kept D7 k8
          refine ⟨.ref d, rfl, .ref sa, rfl, .ref NL, rfl, .ref d, rfl, .ref NL, rfl, NL, _, rfl, .inl (.inl (.inl eN8)), d, c, t7 + 1, _, rfl, D8, by omega, by rw [List.length_map]; omega, by rw [List.length_map]; omega, fun H9 v k9 D9 v0 v1 => ?_⟩
          rw [List.length_map] at v1
          obtain ⟨nx, mnx, anx⟩ := at_str66 v0 v1
          have eN9 := k9 _ _ eN8 (fun z => bN (.inl z)) (fun z => bN (.inr z))
          have eD9 := k9 _ _ eD8 (fun z => bDD (.inl z)) (fun z => bDD (.inr z))
          have sa9 := sa8.kept D8 k9
          refine ⟨NL, _, v, .str nx, rfl, rfl, .inl (.inl eN9), anx, d, c, sa, t7 + 1 + 1, p, nx, n, kn, hs, rfl, D9, by omega, sa9, stand_R S, fun H10 zl rl tl kl Dl htl el okl _ => ?_⟩
          exact ⟨tl, zl, rl, _, _, Dl, by omega, sa9.kept D9 kl, kl _ _ eN9 (fun z => bN (.inl z)) (fun z => bN (.inr z)), kl _ _ eD9 (fun z => bDD (.inl z)) (fun z => bDD (.inr z)), .inl (.inl el), okl, rfl⟩
        · exact ⟨t7 + 1, za, r, _, _, D8, by omega, sa7.kept D7 k8, k8 _ _ eN7 (fun z => bN (.inl z)) (fun z => bN (.inr z)), k8 _ _ eD7 (fun z => bDD (.inl z)) (fun z => bDD (.inr z)), Kept.tup D7 k8 (.inl (.inl ea7)), okr, rfl⟩
      obtain ⟨t8, zr, r8, y8', y11', D8, ht8, sa8, eN8, eD8, hr8, ok8, rfl⟩ := hN
      refine ⟨.ref d, rfl, .ref sa, rfl, .ref DD, rfl, .ref zr, rfl, zz 1 (by decide), fun o1 no1 => ?_⟩
      generalize g9 : upd H' o1 _ = H9
      obtain ⟨s9, e9⟩ := new_of g9 no1
      refine ⟨DD, o1, _, _, rfl, rfl, s9 _ _ eD8, e9, zz _ (by simp), fun o2 no2 => ?_⟩
      generalize g10 : upd H9 o2 _ = H10
      obtain ⟨s10, e10⟩ := new_of g10 no2
      have s910 := s9.trans s10
      have D10 := D8.same s910
      have mx3 : x ∈ nm ∧ y ∈ nm ∧ z ∈ nm := ⟨mx x (by simp), mx y (by simp), mx z (by simp)⟩
      refine ⟨d, c, sa, o2, zr, t8, p, x, y, z, r8, n, kn, hs, rfl, D10, by omega, sa8.same s910, e10, (D8.same s9).fresh no2, Same.tup s910 hr8, ok8, n1, n8, by omega, by omega, nmok x mx3.1, nmok y mx3.2.1, nmok z mx3.2.2, fun H11 FF t11 u1 u2 u3 u4 d1 d2 d3 d4 k11 D11 ht11 eF bF r1 r2 r3 r4 okT => ?_⟩
      have sa11 := (sa8.same s910).kept D10 k11
      have eN11 := k11 _ _ (s910 _ _ eN8) (fun z => bN (.inl z)) (fun z => bN (.inr z))
      have upR : ∀ {Hx : Hp} {u : V} {dd : PyData}, Same H11 Hx → Rep K H11 NB u dd → Rep K Hx NB u dd := fun s r => rep_stays (Stays.of s) _ _ r
      have ld4 : lenOk d4 := (okT d4 (by simp)).l
      have fitL : FitS (.list [standD p n kn hs, .list [d1, d2, d3, d4]]) := (fitz_list (B := 400000) (k := 7) (n := 2) (ds := [standD p n kn hs, .list [d1, d2, d3, d4]]) (by simp) fun e he => by
        rcases List.mem_cons.mp he with rfl | he
        · exact (fitz_stand S).mono (by decide) (by decide)
        · rw [List.mem_singleton.mp he]
          exact (fitz_list (B := 1300) (k := 6) (n := 4) (ds := [d1, d2, d3, d4]) (by simp) fun e he => (okT e he).f.mono (by decide) (by decide)).mono (by decide) (by decide)).fit (by decide) (by decide)
      have fitD := due_fit (p := p) (n := n) (kn := kn) (hs := hs) okT
      have repL : ∀ {Hx : Hp} {b : Addr}, Same H11 Hx → Hx b = some (.lst [.ref sa, .ref FF]) → Rep K Hx NB (.ref b) (.list [standD p n kn hs, .list [d1, d2, d3, d4]]) := fun {Hx b} s e => .lst e (fun z => z) (.cons (rep_noL _ _ (noL_stand p n kn hs) (sa11.same s).dp) (.cons (.lst (s _ _ eF) (fun z => z) (.cons (upR s r1) (.cons (upR s r2) (.cons (upR s r3) (.cons (upR s r4) .nil))))) .nil))
      refine ⟨.ref sa, rfl, .ref FF, rfl, zz 2 (by decide), fun o3 no3 => ?_⟩
      generalize g12 : upd H11 o3 _ = H12
      obtain ⟨s12, e12⟩ := new_of g12 no3
      refine ⟨.ref o3, _, rfl, repL s12 e12, fitL, ?_⟩
      refine ⟨.ref sa, rfl, .ref FF, rfl, .ref sa, FF, u1, u2, u3, u4, d1, d2, d3, d4, p, n, kn, hs, rfl, s12 _ _ eF, (sa11.same s12).dp, stand_R S, by omega, upR s12 r1, upR s12 r2, upR s12 r3, upR s12 r4, ld4, fun H13 w1 s13 rw1 => ?_⟩
      have s113 := s12.trans s13
      refine ⟨w1, _, rfl, rw1, fitD, ?_⟩
      refine ⟨.ref sa, rfl, .ref FF, rfl, sa, FF, u1, u2, u3, u4, d1, d2, d3, d4, p, n, kn, hs, rfl, s113 _ _ eF, sa11.same s113, S, upR s113 r1, upR s113 r2, upR s113 r3, upR s113 r4, ld4, fun H14 w2 s14 rw2 => ?_⟩
      have s114 := s113.trans s14
      refine ⟨w2, _, rfl, rw2, fitD, rfl, _, rfl, ?_⟩
      rw [show (!decide (V.str (dueD p n kn hs d1 d2 d3 d4).shown = V.str (dueD p n kn hs d1 d2 d3 d4).shown)) = false by simp]
      refine iteF ?_
      refine ⟨.ref sa, rfl, .ref FF, rfl, zz 2 (by decide), fun o4 no4 => ?_⟩
      generalize g15 : upd H14 o4 _ = H15
      obtain ⟨s15, e15⟩ := new_of g15 no4
      have s115 := s114.trans s15
      refine ⟨.ref o4, _, rfl, repL s115 e15, fitL, .str (PyData.list [standD p n kn hs, .list [d1, d2, d3, d4]]).shown, rfl, rfl, _, rfl, ?_⟩
      rw [show (!decide (V.str (PyData.list [standD p n kn hs, .list [d1, d2, d3, d4]]).shown = V.str (PyData.list [standD p n kn hs, .list [d1, d2, d3, d4]]).shown)) = false by simp]
      refine iteF ?_
      exact ⟨t11, _, _, _, _, _, _, _, D11.same s115, by push_cast; omega, sa11.same s115, s115 _ _ eN11, rfl⟩
    · obtain ⟨t5, y4, y5, y7, y8, y9, y10, y11, D5, ht5, sa5, eN5, rfl⟩ := hW
      exact ⟨t5, _, _, _, _, _, _, _, _, _, _, D5, by push_cast; omega, rfl⟩
end
end OC
set_option Elab.async false
set_option linter.all false
set_option maxRecDepth 100000
namespace OC
open PySem PySem.Spec PyProof.Rows L2
/-! ### the end -/
set_option maxHeartbeats 8000000 in
theorem all_mk {l : PySem.W.OpenLaw} {w : World} {K : PySem.W.Frag} {h : Heap} {mg : Str → Option Value} {fa : Addr} (X : K.In h) (G : h.Ns mainGlobals mg) (hfa : mg "law" = some (.ref fa))
    {f0 : Addr} {od0 an0 : Option Addr} {sl0 : Array (Option Value)} {oc0 kV0 dc0 pm0 cd0 ct0 : Value}
    (a0 : PySem.W.nsIn K mainGlobals "is_number" = some (some (.ref f0))) (l0 : K.lookup f0 = some ⟨oc0, od0, .func (PySem.W.fnOf "is_number" "is_number" (defArgs s_is_number) (defBody s_is_number) (defScope s_is_number) .none kV0 dc0 pm0 an0 cd0 ct0), sl0⟩) (c0 : PySem.W.codeIn K cd0 "is_number" = true) (k0 : PySem.W.keepIn K (.ref f0) = true)
    {f1 : Addr} {od1 an1 : Option Addr} {sl1 : Array (Option Value)} {oc1 kV1 dc1 pm1 cd1 ct1 : Value}
    (a1 : PySem.W.nsIn K mainGlobals "is_rest" = some (some (.ref f1))) (l1 : K.lookup f1 = some ⟨oc1, od1, .func (PySem.W.fnOf "is_rest" "is_rest" (defArgs s_is_rest) (defBody s_is_rest) (defScope s_is_rest) .none kV1 dc1 pm1 an1 cd1 ct1), sl1⟩) (c1 : PySem.W.codeIn K cd1 "is_rest" = true) (k1 : PySem.W.keepIn K (.ref f1) = true)
    {f2 : Addr} {od2 an2 : Option Addr} {sl2 : Array (Option Value)} {oc2 kV2 dc2 pm2 cd2 ct2 : Value}
    (a2 : PySem.W.nsIn K mainGlobals "contrary" = some (some (.ref f2))) (l2 : K.lookup f2 = some ⟨oc2, od2, .func (PySem.W.fnOf "contrary" "contrary" (defArgs s_contrary) (defBody s_contrary) (defScope s_contrary) .none kV2 dc2 pm2 an2 cd2 ct2), sl2⟩) (c2 : PySem.W.codeIn K cd2 "contrary" = true) (k2 : PySem.W.keepIn K (.ref f2) = true)
    {f3 : Addr} {od3 an3 : Option Addr} {sl3 : Array (Option Value)} {oc3 kV3 dc3 pm3 cd3 ct3 : Value}
    (a3 : PySem.W.nsIn K mainGlobals "is_row" = some (some (.ref f3))) (l3 : K.lookup f3 = some ⟨oc3, od3, .func (PySem.W.fnOf "is_row" "is_row" (defArgs s_is_row) (defBody s_is_row) (defScope s_is_row) .none kV3 dc3 pm3 an3 cd3 ct3), sl3⟩) (c3 : PySem.W.codeIn K cd3 "is_row" = true) (k3 : PySem.W.keepIn K (.ref f3) = true)
    {f4 : Addr} {od4 an4 : Option Addr} {sl4 : Array (Option Value)} {oc4 kV4 dc4 pm4 cd4 ct4 : Value}
    (a4 : PySem.W.nsIn K mainGlobals "added" = some (some (.ref f4))) (l4 : K.lookup f4 = some ⟨oc4, od4, .func (PySem.W.fnOf "added" "added" (defArgs s_added) (defBody s_added) (defScope s_added) .none kV4 dc4 pm4 an4 cd4 ct4), sl4⟩) (c4 : PySem.W.codeIn K cd4 "added" = true) (k4 : PySem.W.keepIn K (.ref f4) = true)
    {f5 : Addr} {od5 an5 : Option Addr} {sl5 : Array (Option Value)} {oc5 kV5 dc5 pm5 cd5 ct5 : Value}
    (a5 : PySem.W.nsIn K mainGlobals "times" = some (some (.ref f5))) (l5 : K.lookup f5 = some ⟨oc5, od5, .func (PySem.W.fnOf "times" "times" (defArgs s_times) (defBody s_times) (defScope s_times) .none kV5 dc5 pm5 an5 cd5 ct5), sl5⟩) (c5 : PySem.W.codeIn K cd5 "times" = true) (k5 : PySem.W.keepIn K (.ref f5) = true)
    {f6 : Addr} {od6 an6 : Option Addr} {sl6 : Array (Option Value)} {oc6 kV6 dc6 pm6 cd6 ct6 : Value}
    (a6 : PySem.W.nsIn K mainGlobals "check_hand" = some (some (.ref f6))) (l6 : K.lookup f6 = some ⟨oc6, od6, .func (PySem.W.fnOf "check_hand" "check_hand" (defArgs s_check_hand) (defBody s_check_hand) (defScope s_check_hand) .none kV6 dc6 pm6 an6 cd6 ct6), sl6⟩) (c6 : PySem.W.codeIn K cd6 "check_hand" = true) (k6 : PySem.W.keepIn K (.ref f6) = true)
    {f7 : Addr} {od7 an7 : Option Addr} {sl7 : Array (Option Value)} {oc7 kV7 dc7 pm7 cd7 ct7 : Value}
    (a7 : PySem.W.nsIn K mainGlobals "check_row" = some (some (.ref f7))) (l7 : K.lookup f7 = some ⟨oc7, od7, .func (PySem.W.fnOf "check_row" "check_row" (defArgs s_check_row) (defBody s_check_row) (defScope s_check_row) .none kV7 dc7 pm7 an7 cd7 ct7), sl7⟩) (c7 : PySem.W.codeIn K cd7 "check_row" = true) (k7 : PySem.W.keepIn K (.ref f7) = true)
    {f8 : Addr} {od8 an8 : Option Addr} {sl8 : Array (Option Value)} {oc8 kV8 dc8 pm8 cd8 ct8 : Value}
    (a8 : PySem.W.nsIn K mainGlobals "is_noughts" = some (some (.ref f8))) (l8 : K.lookup f8 = some ⟨oc8, od8, .func (PySem.W.fnOf "is_noughts" "is_noughts" (defArgs s_is_noughts) (defBody s_is_noughts) (defScope s_is_noughts) .none kV8 dc8 pm8 an8 cd8 ct8), sl8⟩) (c8 : PySem.W.codeIn K cd8 "is_noughts" = true) (k8 : PySem.W.keepIn K (.ref f8) = true)
    {f9 : Addr} {od9 an9 : Option Addr} {sl9 : Array (Option Value)} {oc9 kV9 dc9 pm9 cd9 ct9 : Value}
    (a9 : PySem.W.nsIn K mainGlobals "first_place" = some (some (.ref f9))) (l9 : K.lookup f9 = some ⟨oc9, od9, .func (PySem.W.fnOf "first_place" "first_place" (defArgs s_first_place) (defBody s_first_place) (defScope s_first_place) .none kV9 dc9 pm9 an9 cd9 ct9), sl9⟩) (c9 : PySem.W.codeIn K cd9 "first_place" = true) (k9 : PySem.W.keepIn K (.ref f9) = true)
    {f10 : Addr} {od10 an10 : Option Addr} {sl10 : Array (Option Value)} {oc10 kV10 dc10 pm10 cd10 ct10 : Value}
    (a10 : PySem.W.nsIn K mainGlobals "cleared" = some (some (.ref f10))) (l10 : K.lookup f10 = some ⟨oc10, od10, .func (PySem.W.fnOf "cleared" "cleared" (defArgs s_cleared) (defBody s_cleared) (defScope s_cleared) .none kV10 dc10 pm10 an10 cd10 ct10), sl10⟩) (c10 : PySem.W.codeIn K cd10 "cleared" = true) (k10 : PySem.W.keepIn K (.ref f10) = true)
    {f11 : Addr} {od11 an11 : Option Addr} {sl11 : Array (Option Value)} {oc11 kV11 dc11 pm11 cd11 ct11 : Value}
    (a11 : PySem.W.nsIn K mainGlobals "left_of" = some (some (.ref f11))) (l11 : K.lookup f11 = some ⟨oc11, od11, .func (PySem.W.fnOf "left_of" "left_of" (defArgs s_left_of) (defBody s_left_of) (defScope s_left_of) .none kV11 dc11 pm11 an11 cd11 ct11), sl11⟩) (c11 : PySem.W.codeIn K cd11 "left_of" = true) (k11 : PySem.W.keepIn K (.ref f11) = true)
    {f12 : Addr} {od12 an12 : Option Addr} {sl12 : Array (Option Value)} {oc12 kV12 dc12 pm12 cd12 ct12 : Value}
    (a12 : PySem.W.nsIn K mainGlobals "widened" = some (some (.ref f12))) (l12 : K.lookup f12 = some ⟨oc12, od12, .func (PySem.W.fnOf "widened" "widened" (defArgs s_widened) (defBody s_widened) (defScope s_widened) .none kV12 dc12 pm12 an12 cd12 ct12), sl12⟩) (c12 : PySem.W.codeIn K cd12 "widened" = true) (k12 : PySem.W.keepIn K (.ref f12) = true)
    {f13 : Addr} {od13 an13 : Option Addr} {sl13 : Array (Option Value)} {oc13 kV13 dc13 pm13 cd13 ct13 : Value}
    (a13 : PySem.W.nsIn K mainGlobals "room_of" = some (some (.ref f13))) (l13 : K.lookup f13 = some ⟨oc13, od13, .func (PySem.W.fnOf "room_of" "room_of" (defArgs s_room_of) (defBody s_room_of) (defScope s_room_of) .none kV13 dc13 pm13 an13 cd13 ct13), sl13⟩) (c13 : PySem.W.codeIn K cd13 "room_of" = true) (k13 : PySem.W.keepIn K (.ref f13) = true)
    {f14 : Addr} {od14 an14 : Option Addr} {sl14 : Array (Option Value)} {oc14 kV14 dc14 pm14 cd14 ct14 : Value}
    (a14 : PySem.W.nsIn K mainGlobals "within" = some (some (.ref f14))) (l14 : K.lookup f14 = some ⟨oc14, od14, .func (PySem.W.fnOf "within" "within" (defArgs s_within) (defBody s_within) (defScope s_within) .none kV14 dc14 pm14 an14 cd14 ct14), sl14⟩) (c14 : PySem.W.codeIn K cd14 "within" = true) (k14 : PySem.W.keepIn K (.ref f14) = true)
    {f15 : Addr} {od15 an15 : Option Addr} {sl15 : Array (Option Value)} {oc15 kV15 dc15 pm15 cd15 ct15 : Value}
    (a15 : PySem.W.nsIn K mainGlobals "first_outside" = some (some (.ref f15))) (l15 : K.lookup f15 = some ⟨oc15, od15, .func (PySem.W.fnOf "first_outside" "first_outside" (defArgs s_first_outside) (defBody s_first_outside) (defScope s_first_outside) .none kV15 dc15 pm15 an15 cd15 ct15), sl15⟩) (c15 : PySem.W.codeIn K cd15 "first_outside" = true) (k15 : PySem.W.keepIn K (.ref f15) = true)
    {f16 : Addr} {od16 an16 : Option Addr} {sl16 : Array (Option Value)} {oc16 kV16 dc16 pm16 cd16 ct16 : Value}
    (a16 : PySem.W.nsIn K mainGlobals "inside" = some (some (.ref f16))) (l16 : K.lookup f16 = some ⟨oc16, od16, .func (PySem.W.fnOf "inside" "inside" (defArgs s_inside) (defBody s_inside) (defScope s_inside) .none kV16 dc16 pm16 an16 cd16 ct16), sl16⟩) (c16 : PySem.W.codeIn K cd16 "inside" = true) (k16 : PySem.W.keepIn K (.ref f16) = true)
    {f17 : Addr} {od17 an17 : Option Addr} {sl17 : Array (Option Value)} {oc17 kV17 dc17 pm17 cd17 ct17 : Value}
    (a17 : PySem.W.nsIn K mainGlobals "joined" = some (some (.ref f17))) (l17 : K.lookup f17 = some ⟨oc17, od17, .func (PySem.W.fnOf "joined" "joined" (defArgs s_joined) (defBody s_joined) (defScope s_joined) .none kV17 dc17 pm17 an17 cd17 ct17), sl17⟩) (c17 : PySem.W.codeIn K cd17 "joined" = true) (k17 : PySem.W.keepIn K (.ref f17) = true)
    {f18 : Addr} {od18 an18 : Option Addr} {sl18 : Array (Option Value)} {oc18 kV18 dc18 pm18 cd18 ct18 : Value}
    (a18 : PySem.W.nsIn K mainGlobals "shared" = some (some (.ref f18))) (l18 : K.lookup f18 = some ⟨oc18, od18, .func (PySem.W.fnOf "shared" "shared" (defArgs s_shared) (defBody s_shared) (defScope s_shared) .none kV18 dc18 pm18 an18 cd18 ct18), sl18⟩) (c18 : PySem.W.codeIn K cd18 "shared" = true) (k18 : PySem.W.keepIn K (.ref f18) = true)
    {f19 : Addr} {od19 an19 : Option Addr} {sl19 : Array (Option Value)} {oc19 kV19 dc19 pm19 cd19 ct19 : Value}
    (a19 : PySem.W.nsIn K mainGlobals "across" = some (some (.ref f19))) (l19 : K.lookup f19 = some ⟨oc19, od19, .func (PySem.W.fnOf "across" "across" (defArgs s_across) (defBody s_across) (defScope s_across) .none kV19 dc19 pm19 an19 cd19 ct19), sl19⟩) (c19 : PySem.W.codeIn K cd19 "across" = true) (k19 : PySem.W.keepIn K (.ref f19) = true)
    {f20 : Addr} {od20 an20 : Option Addr} {sl20 : Array (Option Value)} {oc20 kV20 dc20 pm20 cd20 ct20 : Value}
    (a20 : PySem.W.nsIn K mainGlobals "across_at" = some (some (.ref f20))) (l20 : K.lookup f20 = some ⟨oc20, od20, .func (PySem.W.fnOf "across_at" "across_at" (defArgs s_across_at) (defBody s_across_at) (defScope s_across_at) .none kV20 dc20 pm20 an20 cd20 ct20), sl20⟩) (c20 : PySem.W.codeIn K cd20 "across_at" = true) (k20 : PySem.W.keepIn K (.ref f20) = true)
    {f21 : Addr} {od21 an21 : Option Addr} {sl21 : Array (Option Value)} {oc21 kV21 dc21 pm21 cd21 ct21 : Value}
    (a21 : PySem.W.nsIn K mainGlobals "names_of" = some (some (.ref f21))) (l21 : K.lookup f21 = some ⟨oc21, od21, .func (PySem.W.fnOf "names_of" "names_of" (defArgs s_names_of) (defBody s_names_of) (defScope s_names_of) .none kV21 dc21 pm21 an21 cd21 ct21), sl21⟩) (c21 : PySem.W.codeIn K cd21 "names_of" = true) (k21 : PySem.W.keepIn K (.ref f21) = true)
    {f22 : Addr} {od22 an22 : Option Addr} {sl22 : Array (Option Value)} {oc22 kV22 dc22 pm22 cd22 ct22 : Value}
    (a22 : PySem.W.nsIn K mainGlobals "room_in" = some (some (.ref f22))) (l22 : K.lookup f22 = some ⟨oc22, od22, .func (PySem.W.fnOf "room_in" "room_in" (defArgs s_room_in) (defBody s_room_in) (defScope s_room_in) .none kV22 dc22 pm22 an22 cd22 ct22), sl22⟩) (c22 : PySem.W.codeIn K cd22 "room_in" = true) (k22 : PySem.W.keepIn K (.ref f22) = true)
    {f23 : Addr} {od23 an23 : Option Addr} {sl23 : Array (Option Value)} {oc23 kV23 dc23 pm23 cd23 ct23 : Value}
    (a23 : PySem.W.nsIn K mainGlobals "aside" = some (some (.ref f23))) (l23 : K.lookup f23 = some ⟨oc23, od23, .func (PySem.W.fnOf "aside" "aside" (defArgs s_aside) (defBody s_aside) (defScope s_aside) .none kV23 dc23 pm23 an23 cd23 ct23), sl23⟩) (c23 : PySem.W.codeIn K cd23 "aside" = true) (k23 : PySem.W.keepIn K (.ref f23) = true)
    {f24 : Addr} {od24 an24 : Option Addr} {sl24 : Array (Option Value)} {oc24 kV24 dc24 pm24 cd24 ct24 : Value}
    (a24 : PySem.W.nsIn K mainGlobals "rooms_of_three" = some (some (.ref f24))) (l24 : K.lookup f24 = some ⟨oc24, od24, .func (PySem.W.fnOf "rooms_of_three" "rooms_of_three" (defArgs s_rooms_of_three) (defBody s_rooms_of_three) (defScope s_rooms_of_three) .none kV24 dc24 pm24 an24 cd24 ct24), sl24⟩) (c24 : PySem.W.codeIn K cd24 "rooms_of_three" = true) (k24 : PySem.W.keepIn K (.ref f24) = true)
    {f25 : Addr} {od25 an25 : Option Addr} {sl25 : Array (Option Value)} {oc25 kV25 dc25 pm25 cd25 ct25 : Value}
    (a25 : PySem.W.nsIn K mainGlobals "way_of" = some (some (.ref f25))) (l25 : K.lookup f25 = some ⟨oc25, od25, .func (PySem.W.fnOf "way_of" "way_of" (defArgs s_way_of) (defBody s_way_of) (defScope s_way_of) .none kV25 dc25 pm25 an25 cd25 ct25), sl25⟩) (c25 : PySem.W.codeIn K cd25 "way_of" = true) (k25 : PySem.W.keepIn K (.ref f25) = true)
    {f26 : Addr} {od26 an26 : Option Addr} {sl26 : Array (Option Value)} {oc26 kV26 dc26 pm26 cd26 ct26 : Value}
    (a26 : PySem.W.nsIn K mainGlobals "is_aside" = some (some (.ref f26))) (l26 : K.lookup f26 = some ⟨oc26, od26, .func (PySem.W.fnOf "is_aside" "is_aside" (defArgs s_is_aside) (defBody s_is_aside) (defScope s_is_aside) .none kV26 dc26 pm26 an26 cd26 ct26), sl26⟩) (c26 : PySem.W.codeIn K cd26 "is_aside" = true) (k26 : PySem.W.keepIn K (.ref f26) = true)
    {f27 : Addr} {od27 an27 : Option Addr} {sl27 : Array (Option Value)} {oc27 kV27 dc27 pm27 cd27 ct27 : Value}
    (a27 : PySem.W.nsIn K mainGlobals "is_barred" = some (some (.ref f27))) (l27 : K.lookup f27 = some ⟨oc27, od27, .func (PySem.W.fnOf "is_barred" "is_barred" (defArgs s_is_barred) (defBody s_is_barred) (defScope s_is_barred) .none kV27 dc27 pm27 an27 cd27 ct27), sl27⟩) (c27 : PySem.W.codeIn K cd27 "is_barred" = true) (k27 : PySem.W.keepIn K (.ref f27) = true)
    {f28 : Addr} {od28 an28 : Option Addr} {sl28 : Array (Option Value)} {oc28 kV28 dc28 pm28 cd28 ct28 : Value}
    (a28 : PySem.W.nsIn K mainGlobals "call_aside" = some (some (.ref f28))) (l28 : K.lookup f28 = some ⟨oc28, od28, .func (PySem.W.fnOf "call_aside" "call_aside" (defArgs s_call_aside) (defBody s_call_aside) (defScope s_call_aside) .none kV28 dc28 pm28 an28 cd28 ct28), sl28⟩) (c28 : PySem.W.codeIn K cd28 "call_aside" = true) (k28 : PySem.W.keepIn K (.ref f28) = true)
    {f29 : Addr} {od29 an29 : Option Addr} {sl29 : Array (Option Value)} {oc29 kV29 dc29 pm29 cd29 ct29 : Value}
    (a29 : PySem.W.nsIn K mainGlobals "_law_deck" = some (some (.ref f29))) (l29 : K.lookup f29 = some ⟨oc29, od29, .func (PySem.W.fnOf "_law_deck" "_law_deck" (defArgs s__law_deck) (defBody s__law_deck) (defScope s__law_deck) .none kV29 dc29 pm29 an29 cd29 ct29), sl29⟩) (c29 : PySem.W.codeIn K cd29 "_law_deck" = true) (k29 : PySem.W.keepIn K (.ref f29) = true)
    {f30 : Addr} {od30 an30 : Option Addr} {sl30 : Array (Option Value)} {oc30 kV30 dc30 pm30 cd30 ct30 : Value}
    (a30 : PySem.W.nsIn K mainGlobals "_law_draw" = some (some (.ref f30))) (l30 : K.lookup f30 = some ⟨oc30, od30, .func (PySem.W.fnOf "_law_draw" "_law_draw" (defArgs s__law_draw) (defBody s__law_draw) (defScope s__law_draw) .none kV30 dc30 pm30 an30 cd30 ct30), sl30⟩) (c30 : PySem.W.codeIn K cd30 "_law_draw" = true) (k30 : PySem.W.keepIn K (.ref f30) = true)
    {f31 : Addr} {od31 an31 : Option Addr} {sl31 : Array (Option Value)} {oc31 kV31 dc31 pm31 cd31 ct31 : Value}
    (a31 : PySem.W.nsIn K mainGlobals "_law_names" = some (some (.ref f31))) (l31 : K.lookup f31 = some ⟨oc31, od31, .func (PySem.W.fnOf "_law_names" "_law_names" (defArgs s__law_names) (defBody s__law_names) (defScope s__law_names) .none kV31 dc31 pm31 an31 cd31 ct31), sl31⟩) (c31 : PySem.W.codeIn K cd31 "_law_names" = true) (k31 : PySem.W.keepIn K (.ref f31) = true)
    {f32 : Addr} {od32 an32 : Option Addr} {sl32 : Array (Option Value)} {oc32 kV32 dc32 pm32 cd32 ct32 : Value}
    (a32 : PySem.W.nsIn K mainGlobals "_law_row" = some (some (.ref f32))) (l32 : K.lookup f32 = some ⟨oc32, od32, .func (PySem.W.fnOf "_law_row" "_law_row" (defArgs s__law_row) (defBody s__law_row) (defScope s__law_row) .none kV32 dc32 pm32 an32 cd32 ct32), sl32⟩) (c32 : PySem.W.codeIn K cd32 "_law_row" = true) (k32 : PySem.W.keepIn K (.ref f32) = true)
    {f33 : Addr} {od33 an33 : Option Addr} {sl33 : Array (Option Value)} {oc33 kV33 dc33 pm33 cd33 ct33 : Value}
    (a33 : PySem.W.nsIn K mainGlobals "_law_left" = some (some (.ref f33))) (l33 : K.lookup f33 = some ⟨oc33, od33, .func (PySem.W.fnOf "_law_left" "_law_left" (defArgs s__law_left) (defBody s__law_left) (defScope s__law_left) .none kV33 dc33 pm33 an33 cd33 ct33), sl33⟩) (c33 : PySem.W.codeIn K cd33 "_law_left" = true) (k33 : PySem.W.keepIn K (.ref f33) = true)
    {f34 : Addr} {od34 an34 : Option Addr} {sl34 : Array (Option Value)} {oc34 kV34 dc34 pm34 cd34 ct34 : Value}
    (a34 : PySem.W.nsIn K mainGlobals "_law_plain" = some (some (.ref f34))) (l34 : K.lookup f34 = some ⟨oc34, od34, .func (PySem.W.fnOf "_law_plain" "_law_plain" (defArgs s__law_plain) (defBody s__law_plain) (defScope s__law_plain) .none kV34 dc34 pm34 an34 cd34 ct34), sl34⟩) (c34 : PySem.W.codeIn K cd34 "_law_plain" = true) (k34 : PySem.W.keepIn K (.ref f34) = true)
    {f35 : Addr} {od35 an35 : Option Addr} {sl35 : Array (Option Value)} {oc35 kV35 dc35 pm35 cd35 ct35 : Value}
    (a35 : PySem.W.nsIn K mainGlobals "_law_within" = some (some (.ref f35))) (l35 : K.lookup f35 = some ⟨oc35, od35, .func (PySem.W.fnOf "_law_within" "_law_within" (defArgs s__law_within) (defBody s__law_within) (defScope s__law_within) .none kV35 dc35 pm35 an35 cd35 ct35), sl35⟩) (c35 : PySem.W.codeIn K cd35 "_law_within" = true) (k35 : PySem.W.keepIn K (.ref f35) = true)
    {f36 : Addr} {od36 an36 : Option Addr} {sl36 : Array (Option Value)} {oc36 kV36 dc36 pm36 cd36 ct36 : Value}
    (a36 : PySem.W.nsIn K mainGlobals "_law_made_of" = some (some (.ref f36))) (l36 : K.lookup f36 = some ⟨oc36, od36, .func (PySem.W.fnOf "_law_made_of" "_law_made_of" (defArgs s__law_made_of) (defBody s__law_made_of) (defScope s__law_made_of) .none kV36 dc36 pm36 an36 cd36 ct36), sl36⟩) (c36 : PySem.W.codeIn K cd36 "_law_made_of" = true) (k36 : PySem.W.keepIn K (.ref f36) = true)
    {f37 : Addr} {od37 an37 : Option Addr} {sl37 : Array (Option Value)} {oc37 kV37 dc37 pm37 cd37 ct37 : Value}
    (a37 : PySem.W.nsIn K mainGlobals "_law_rows" = some (some (.ref f37))) (l37 : K.lookup f37 = some ⟨oc37, od37, .func (PySem.W.fnOf "_law_rows" "_law_rows" (defArgs s__law_rows) (defBody s__law_rows) (defScope s__law_rows) .none kV37 dc37 pm37 an37 cd37 ct37), sl37⟩) (c37 : PySem.W.codeIn K cd37 "_law_rows" = true) (k37 : PySem.W.keepIn K (.ref f37) = true)
    {f38 : Addr} {od38 an38 : Option Addr} {sl38 : Array (Option Value)} {oc38 kV38 dc38 pm38 cd38 ct38 : Value}
    (a38 : PySem.W.nsIn K mainGlobals "_law_stand" = some (some (.ref f38))) (l38 : K.lookup f38 = some ⟨oc38, od38, .func (PySem.W.fnOf "_law_stand" "_law_stand" (defArgs s__law_stand) (defBody s__law_stand) (defScope s__law_stand) .none kV38 dc38 pm38 an38 cd38 ct38), sl38⟩) (c38 : PySem.W.codeIn K cd38 "_law_stand" = true) (k38 : PySem.W.keepIn K (.ref f38) = true)
    {f39 : Addr} {od39 an39 : Option Addr} {sl39 : Array (Option Value)} {oc39 kV39 dc39 pm39 cd39 ct39 : Value}
    (a39 : PySem.W.nsIn K mainGlobals "_law_room" = some (some (.ref f39))) (l39 : K.lookup f39 = some ⟨oc39, od39, .func (PySem.W.fnOf "_law_room" "_law_room" (defArgs s__law_room) (defBody s__law_room) (defScope s__law_room) .none kV39 dc39 pm39 an39 cd39 ct39), sl39⟩) (c39 : PySem.W.codeIn K cd39 "_law_room" = true) (k39 : PySem.W.keepIn K (.ref f39) = true)
    {f40 : Addr} {od40 an40 : Option Addr} {sl40 : Array (Option Value)} {oc40 kV40 dc40 pm40 cd40 ct40 : Value}
    (a40 : PySem.W.nsIn K mainGlobals "_law_known" = some (some (.ref f40))) (l40 : K.lookup f40 = some ⟨oc40, od40, .func (PySem.W.fnOf "_law_known" "_law_known" (defArgs s__law_known) (defBody s__law_known) (defScope s__law_known) .none kV40 dc40 pm40 an40 cd40 ct40), sl40⟩) (c40 : PySem.W.codeIn K cd40 "_law_known" = true) (k40 : PySem.W.keepIn K (.ref f40) = true)
    {f41 : Addr} {od41 an41 : Option Addr} {sl41 : Array (Option Value)} {oc41 kV41 dc41 pm41 cd41 ct41 : Value}
    (a41 : PySem.W.nsIn K mainGlobals "_law_is_row" = some (some (.ref f41))) (l41 : K.lookup f41 = some ⟨oc41, od41, .func (PySem.W.fnOf "_law_is_row" "_law_is_row" (defArgs s__law_is_row) (defBody s__law_is_row) (defScope s__law_is_row) .none kV41 dc41 pm41 an41 cd41 ct41), sl41⟩) (c41 : PySem.W.codeIn K cd41 "_law_is_row" = true) (k41 : PySem.W.keepIn K (.ref f41) = true)
    {f42 : Addr} {od42 an42 : Option Addr} {sl42 : Array (Option Value)} {oc42 kV42 dc42 pm42 cd42 ct42 : Value}
    (a42 : PySem.W.nsIn K mainGlobals "_law_bent" = some (some (.ref f42))) (l42 : K.lookup f42 = some ⟨oc42, od42, .func (PySem.W.fnOf "_law_bent" "_law_bent" (defArgs s__law_bent) (defBody s__law_bent) (defScope s__law_bent) .none kV42 dc42 pm42 an42 cd42 ct42), sl42⟩) (c42 : PySem.W.codeIn K cd42 "_law_bent" = true) (k42 : PySem.W.keepIn K (.ref f42) = true)
    {f43 : Addr} {od43 an43 : Option Addr} {sl43 : Array (Option Value)} {oc43 kV43 dc43 pm43 cd43 ct43 : Value}
    (a43 : PySem.W.nsIn K mainGlobals "_law_due" = some (some (.ref f43))) (l43 : K.lookup f43 = some ⟨oc43, od43, .func (PySem.W.fnOf "_law_due" "_law_due" (defArgs s__law_due) (defBody s__law_due) (defScope s__law_due) .none kV43 dc43 pm43 an43 cd43 ct43), sl43⟩) (c43 : PySem.W.codeIn K cd43 "_law_due" = true) (k43 : PySem.W.keepIn K (.ref f43) = true)
    {f44 : Addr} {od44 an44 : Option Addr} {sl44 : Array (Option Value)} {oc44 kV44 dc44 pm44 cd44 ct44 : Value}
    (a44 : PySem.W.nsIn K mainGlobals "_law_told" = some (some (.ref f44))) (l44 : K.lookup f44 = some ⟨oc44, od44, .func (PySem.W.fnOf "_law_told" "_law_told" (defArgs s__law_told) (defBody s__law_told) (defScope s__law_told) .none kV44 dc44 pm44 an44 cd44 ct44), sl44⟩) (c44 : PySem.W.codeIn K cd44 "_law_told" = true) (k44 : PySem.W.keepIn K (.ref f44) = true)
    {f45 : Addr} {od45 an45 : Option Addr} {sl45 : Array (Option Value)} {oc45 kV45 dc45 pm45 cd45 ct45 : Value}
    (a45 : PySem.W.nsIn K mainGlobals "law" = some (some (.ref f45))) (l45 : K.lookup f45 = some ⟨oc45, od45, .func (PySem.W.fnOf "law" "law" (defArgs s_law) (defBody s_law) (defScope s_law) .none kV45 dc45 pm45 an45 cd45 ct45), sl45⟩) (c45 : PySem.W.codeIn K cd45 "law" = true) (k45 : PySem.W.keepIn K (.ref f45) = true)
    (z_abs : PySem.W.nsIn K mainGlobals "abs" = some none)
    (z_all : PySem.W.nsIn K mainGlobals "all" = some none)
    (z_bool : PySem.W.nsIn K mainGlobals "bool" = some none)
    (z_dict : PySem.W.nsIn K mainGlobals "dict" = some none)
    (z_enumerate : PySem.W.nsIn K mainGlobals "enumerate" = some none)
    (z_int : PySem.W.nsIn K mainGlobals "int" = some none)
    (z_isinstance : PySem.W.nsIn K mainGlobals "isinstance" = some none)
    (z_len : PySem.W.nsIn K mainGlobals "len" = some none)
    (z_list : PySem.W.nsIn K mainGlobals "list" = some none)
    (z_max : PySem.W.nsIn K mainGlobals "max" = some none)
    (z_range : PySem.W.nsIn K mainGlobals "range" = some none)
    (z_repr : PySem.W.nsIn K mainGlobals "repr" = some none)
    (z_sorted : PySem.W.nsIn K mainGlobals "sorted" = some none)
    (z_str : PySem.W.nsIn K mainGlobals "str" = some none)
    (z_tuple : PySem.W.nsIn K mainGlobals "tuple" = some none)
    (z_zip : PySem.W.nsIn K mainGlobals "zip" = some none)
    (z_LookupError : PySem.W.nsIn K mainGlobals "LookupError" = some none)
    (z_ValueError : PySem.W.nsIn K mainGlobals "ValueError" = some none)
    (en_get : PySem.W.specialIn K (.builtin "object.__class__") "__get__" = some (some (.builtin "getset_descriptor.__get__"))) (en_set : PySem.W.takesIn K (.builtin "object.__class__") = some true)
    {C0 : Addr} (ea0 : PySem.W.nsIn K mainGlobals "CallError" = some (some (.ref C0))) (ek0 : PySem.W.keepIn K (.ref C0) = true) (eb0 : PySem.W.subIn K (.ref C0) (.type "BaseException") = some true) (et0 : PySem.W.typeIn K (.ref C0) = some (.type "type")) (ed0 : PySem.W.hasDictIn K C0 = true)
    (eg0 : PySem.W.findIn K (.ref C0) "__getattribute__" = some (some (.builtin "BaseException.__getattribute__"))) (eh0 : PySem.W.findIn K (.ref C0) "__getattr__" = some none) (ec0 : PySem.W.findIn K (.ref C0) "__class__" = some (some (.builtin "object.__class__"))) (em0 : PySem.W.mroIn K C0 (.type "object") = some true)
    (ex0 : PySem.W.excIn K C0 [.type "ValueError", .type "Exception", .type "BaseException", .type "object"] "ValueError.__new__" = true)
    {C1 : Addr} (ea1 : PySem.W.nsIn K mainGlobals "NoRow" = some (some (.ref C1))) (ek1 : PySem.W.keepIn K (.ref C1) = true) (eb1 : PySem.W.subIn K (.ref C1) (.type "BaseException") = some true) (et1 : PySem.W.typeIn K (.ref C1) = some (.type "type")) (ed1 : PySem.W.hasDictIn K C1 = true)
    (eg1 : PySem.W.findIn K (.ref C1) "__getattribute__" = some (some (.builtin "BaseException.__getattribute__"))) (eh1 : PySem.W.findIn K (.ref C1) "__getattr__" = some none) (ec1 : PySem.W.findIn K (.ref C1) "__class__" = some (some (.builtin "object.__class__"))) (em1 : PySem.W.mroIn K C1 (.type "object") = some true)
    (ex1 : PySem.W.excIn K C1 [.type "ValueError", .type "Exception", .type "BaseException", .type "object"] "ValueError.__new__" = true)
    {C2 : Addr} (ea2 : PySem.W.nsIn K mainGlobals "NotKnown" = some (some (.ref C2))) (ek2 : PySem.W.keepIn K (.ref C2) = true) (eb2 : PySem.W.subIn K (.ref C2) (.type "BaseException") = some true) (et2 : PySem.W.typeIn K (.ref C2) = some (.type "type")) (ed2 : PySem.W.hasDictIn K C2 = true)
    (eg2 : PySem.W.findIn K (.ref C2) "__getattribute__" = some (some (.builtin "BaseException.__getattribute__"))) (eh2 : PySem.W.findIn K (.ref C2) "__getattr__" = some none) (ec2 : PySem.W.findIn K (.ref C2) "__class__" = some (some (.builtin "object.__class__"))) (em2 : PySem.W.mroIn K C2 (.type "object") = some true)
    {C3 : Addr} (ea3 : PySem.W.nsIn K mainGlobals "NoHand" = some (some (.ref C3))) (ek3 : PySem.W.keepIn K (.ref C3) = true) (eb3 : PySem.W.subIn K (.ref C3) (.type "BaseException") = some true) (et3 : PySem.W.typeIn K (.ref C3) = some (.type "type")) (ed3 : PySem.W.hasDictIn K C3 = true)
    (eg3 : PySem.W.findIn K (.ref C3) "__getattribute__" = some (some (.builtin "BaseException.__getattribute__"))) (eh3 : PySem.W.findIn K (.ref C3) "__getattr__" = some none) (ec3 : PySem.W.findIn K (.ref C3) "__class__" = some (some (.builtin "object.__class__"))) (em3 : PySem.W.mroIn K C3 (.type "object") = some true)
    {C4 : Addr} (ea4 : PySem.W.nsIn K mainGlobals "Known" = some (some (.ref C4))) (ek4 : PySem.W.keepIn K (.ref C4) = true) (eb4 : PySem.W.subIn K (.ref C4) (.type "BaseException") = some true) (et4 : PySem.W.typeIn K (.ref C4) = some (.type "type")) (ed4 : PySem.W.hasDictIn K C4 = true)
    (eg4 : PySem.W.findIn K (.ref C4) "__getattribute__" = some (some (.builtin "BaseException.__getattribute__"))) (eh4 : PySem.W.findIn K (.ref C4) "__getattr__" = some none) (ec4 : PySem.W.findIn K (.ref C4) "__class__" = some (some (.builtin "object.__class__"))) (em4 : PySem.W.mroIn K C4 (.type "object") = some true)
    {gE3 : Addr} {odE3 anE3 : Option Addr} {slE3 : Array (Option Value)} {ocE3 kVE3 dcE3 pmE3 cdE3 ctE3 : Value}
    (fi3 : PySem.W.findIn K (.ref C3) "__init__" = some (some (.ref gE3))) (ft3 : PySem.W.typeIn K (.ref gE3) = some (.type "function")) (fl3 : K.lookup gE3 = some ⟨ocE3, odE3, .func (PySem.W.fnOf "__init__" "NoHand.__init__" (defArgs s_NoHand___init__) (defBody s_NoHand___init__) (defScope s_NoHand___init__) .none kVE3 dcE3 pmE3 anE3 cdE3 ctE3), slE3⟩) (fc3 : PySem.W.codeIn K cdE3 "NoHand.__init__" = true)
    (fm3 : PySem.W.excInitIn K C3 [.type "LookupError", .type "Exception", .type "BaseException", .type "object"] "LookupError.__new__" = true) (fo3 : PySem.W.excOver K C3 [.type "LookupError", .type "Exception", .type "BaseException", .type "object"] = true) (fs3 : PySem.W.findIn K (.ref C3) "__setattr__" = some (some (.builtin "object.__setattr__"))) (ff3 : PySem.W.findIn K (.ref C3) "name" = some none)
    {gE4 : Addr} {odE4 anE4 : Option Addr} {slE4 : Array (Option Value)} {ocE4 kVE4 dcE4 pmE4 cdE4 ctE4 : Value}
    (fi4 : PySem.W.findIn K (.ref C4) "__init__" = some (some (.ref gE4))) (ft4 : PySem.W.typeIn K (.ref gE4) = some (.type "function")) (fl4 : K.lookup gE4 = some ⟨ocE4, odE4, .func (PySem.W.fnOf "__init__" "Known.__init__" (defArgs s_Known___init__) (defBody s_Known___init__) (defScope s_Known___init__) .none kVE4 dcE4 pmE4 anE4 cdE4 ctE4), slE4⟩) (fc4 : PySem.W.codeIn K cdE4 "Known.__init__" = true)
    (fm4 : PySem.W.excInitIn K C4 [.type "ValueError", .type "Exception", .type "BaseException", .type "object"] "ValueError.__new__" = true) (fo4 : PySem.W.excOver K C4 [.type "ValueError", .type "Exception", .type "BaseException", .type "object"] = true) (fs4 : PySem.W.findIn K (.ref C4) "__setattr__" = some (some (.builtin "object.__setattr__"))) (ff4 : PySem.W.findIn K (.ref C4) "name" = some none)
    (s0_0 : PySem.W.subIn K (.ref C0) (.ref C0) = some true)
    (s1_0 : PySem.W.subIn K (.ref C1) (.ref C0) = some true)
    (s1_1 : PySem.W.subIn K (.ref C1) (.ref C1) = some true)
    (s1_2 : PySem.W.subIn K (.ref C1) (.ref C2) = some false)
    (s1_3 : PySem.W.subIn K (.ref C1) (.ref C3) = some false)
    (s1_4 : PySem.W.subIn K (.ref C1) (.ref C4) = some false)
    (s1_LookupError : PySem.W.subIn K (.ref C1) (.type "LookupError") = some false)
    (s1_ValueError : PySem.W.subIn K (.ref C1) (.type "ValueError") = some true)
    (s2_2 : PySem.W.subIn K (.ref C2) (.ref C2) = some true)
    (s3_0 : PySem.W.subIn K (.ref C3) (.ref C0) = some false)
    (s3_1 : PySem.W.subIn K (.ref C3) (.ref C1) = some false)
    (s3_2 : PySem.W.subIn K (.ref C3) (.ref C2) = some false)
    (s3_3 : PySem.W.subIn K (.ref C3) (.ref C3) = some true)
    (s3_4 : PySem.W.subIn K (.ref C3) (.ref C4) = some false)
    (s3_LookupError : PySem.W.subIn K (.ref C3) (.type "LookupError") = some true)
    (s3_ValueError : PySem.W.subIn K (.ref C3) (.type "ValueError") = some false)
    (s4_0 : PySem.W.subIn K (.ref C4) (.ref C0) = some true)
    (s4_1 : PySem.W.subIn K (.ref C4) (.ref C1) = some false)
    (s4_2 : PySem.W.subIn K (.ref C4) (.ref C2) = some false)
    (s4_3 : PySem.W.subIn K (.ref C4) (.ref C3) = some false)
    (s4_4 : PySem.W.subIn K (.ref C4) (.ref C4) = some true)
    (s4_LookupError : PySem.W.subIn K (.ref C4) (.type "LookupError") = some false)
    (s4_ValueError : PySem.W.subIn K (.ref C4) (.type "ValueError") = some true)
    : ∃ fd : FuncData, (∀ (s : Shared) (v : Value), BindsTo s fd ⟨[v], []⟩ [("_law_script", v)]) ∧ ∀ base : Heap, K.In base → base.Ns mainGlobals mg → HasSys base → FnG l.prog w K mg base CX0 16 fa fd ["_law_script"] (sp_law K) := by
  have e := hfa.symm.trans (PySem.W.mg_of X G a45)
  cases e
  have T : Top K mg := {
    e_CallError := err_of X G ea0 ek0 eb0 et0 ed0 eg0 eh0 ec0 em0 en_get en_set,
    n_CallError := by rw [adr_of (PySem.W.mg_of X G ea0)]; exact ex0,
    e_NoRow := err_of X G ea1 ek1 eb1 et1 ed1 eg1 eh1 ec1 em1 en_get en_set,
    n_NoRow := by rw [adr_of (PySem.W.mg_of X G ea1)]; exact ex1,
    e_NotKnown := err_of X G ea2 ek2 eb2 et2 ed2 eg2 eh2 ec2 em2 en_get en_set,
    e_NoHand := err_of X G ea3 ek3 eb3 et3 ed3 eg3 eh3 ec3 em3 en_get en_set,
    e_Known := err_of X G ea4 ek4 eb4 et4 ed4 eg4 eh4 ec4 em4 en_get en_set,
    f_NoHand := errF_of (st := s_NoHand___init__) X G ea3 fi3 ft3 fl3 fc3 fm3 fo3 fs3 ff3 rfl rfl (fun _ _ _ _ _ => .of_eq rfl) ⟨by decide, by decide⟩,
    f_Known := errF_of (st := s_Known___init__) X G ea4 fi4 ft4 fl4 fc4 fm4 fo4 fs4 ff4 rfl rfl (fun _ _ _ _ _ => .of_eq rfl) ⟨by decide, by decide⟩,
    s_CallError_CallError := by rw [adr_of (PySem.W.mg_of X G ea0)]; exact s0_0,
    s_NoRow_CallError := by rw [adr_of (PySem.W.mg_of X G ea1), adr_of (PySem.W.mg_of X G ea0)]; exact s1_0,
    s_NoRow_NoRow := by rw [adr_of (PySem.W.mg_of X G ea1)]; exact s1_1,
    s_NoRow_NotKnown := by rw [adr_of (PySem.W.mg_of X G ea1), adr_of (PySem.W.mg_of X G ea2)]; exact s1_2,
    s_NoRow_NoHand := by rw [adr_of (PySem.W.mg_of X G ea1), adr_of (PySem.W.mg_of X G ea3)]; exact s1_3,
    s_NoRow_Known := by rw [adr_of (PySem.W.mg_of X G ea1), adr_of (PySem.W.mg_of X G ea4)]; exact s1_4,
    s_NoRow_LookupError := by rw [adr_of (PySem.W.mg_of X G ea1)]; exact s1_LookupError,
    s_NoRow_ValueError := by rw [adr_of (PySem.W.mg_of X G ea1)]; exact s1_ValueError,
    s_NotKnown_NotKnown := by rw [adr_of (PySem.W.mg_of X G ea2)]; exact s2_2,
    s_NoHand_CallError := by rw [adr_of (PySem.W.mg_of X G ea3), adr_of (PySem.W.mg_of X G ea0)]; exact s3_0,
    s_NoHand_NoRow := by rw [adr_of (PySem.W.mg_of X G ea3), adr_of (PySem.W.mg_of X G ea1)]; exact s3_1,
    s_NoHand_NotKnown := by rw [adr_of (PySem.W.mg_of X G ea3), adr_of (PySem.W.mg_of X G ea2)]; exact s3_2,
    s_NoHand_NoHand := by rw [adr_of (PySem.W.mg_of X G ea3)]; exact s3_3,
    s_NoHand_Known := by rw [adr_of (PySem.W.mg_of X G ea3), adr_of (PySem.W.mg_of X G ea4)]; exact s3_4,
    s_NoHand_LookupError := by rw [adr_of (PySem.W.mg_of X G ea3)]; exact s3_LookupError,
    s_NoHand_ValueError := by rw [adr_of (PySem.W.mg_of X G ea3)]; exact s3_ValueError,
    s_Known_CallError := by rw [adr_of (PySem.W.mg_of X G ea4), adr_of (PySem.W.mg_of X G ea0)]; exact s4_0,
    s_Known_NoRow := by rw [adr_of (PySem.W.mg_of X G ea4), adr_of (PySem.W.mg_of X G ea1)]; exact s4_1,
    s_Known_NotKnown := by rw [adr_of (PySem.W.mg_of X G ea4), adr_of (PySem.W.mg_of X G ea2)]; exact s4_2,
    s_Known_NoHand := by rw [adr_of (PySem.W.mg_of X G ea4), adr_of (PySem.W.mg_of X G ea3)]; exact s4_3,
    s_Known_Known := by rw [adr_of (PySem.W.mg_of X G ea4)]; exact s4_4,
    s_Known_LookupError := by rw [adr_of (PySem.W.mg_of X G ea4)]; exact s4_LookupError,
    s_Known_ValueError := by rw [adr_of (PySem.W.mg_of X G ea4)]; exact s4_ValueError,
    b_abs := PySem.W.mg_none_of X G z_abs,
    b_all := PySem.W.mg_none_of X G z_all,
    b_bool := PySem.W.mg_none_of X G z_bool,
    b_dict := PySem.W.mg_none_of X G z_dict,
    b_enumerate := PySem.W.mg_none_of X G z_enumerate,
    b_int := PySem.W.mg_none_of X G z_int,
    b_isinstance := PySem.W.mg_none_of X G z_isinstance,
    b_len := PySem.W.mg_none_of X G z_len,
    b_list := PySem.W.mg_none_of X G z_list,
    b_max := PySem.W.mg_none_of X G z_max,
    b_range := PySem.W.mg_none_of X G z_range,
    b_repr := PySem.W.mg_none_of X G z_repr,
    b_sorted := PySem.W.mg_none_of X G z_sorted,
    b_str := PySem.W.mg_none_of X G z_str,
    b_tuple := PySem.W.mg_none_of X G z_tuple,
    b_zip := PySem.W.mg_none_of X G z_zip,
    b_LookupError := PySem.W.mg_none_of X G z_LookupError,
    b_ValueError := PySem.W.mg_none_of X G z_ValueError,
    d_is_number := df_of X G a0 l0 c0 k0 (fun _ _ _ _ _ _ us hl => match us, hl with | [_], _ => rfl),
    d_is_rest := df_of X G a1 l1 c1 k1 (fun _ _ _ _ _ _ us hl => match us, hl with | [_, _], _ => rfl),
    d_contrary := df_of X G a2 l2 c2 k2 (fun _ _ _ _ _ _ us hl => match us, hl with | [_, _], _ => rfl),
    d_is_row := df_of X G a3 l3 c3 k3 (fun _ _ _ _ _ _ us hl => match us, hl with | [_, _, _], _ => rfl),
    d_added := df_of X G a4 l4 c4 k4 (fun _ _ _ _ _ _ us hl => match us, hl with | [_, _, _], _ => rfl),
    d_times := df_of X G a5 l5 c5 k5 (fun _ _ _ _ _ _ us hl => match us, hl with | [_, _, _], _ => rfl),
    d_check_hand := df_of X G a6 l6 c6 k6 (fun _ _ _ _ _ _ us hl => match us, hl with | [_, _], _ => rfl),
    d_check_row := df_of X G a7 l7 c7 k7 (fun _ _ _ _ _ _ us hl => match us, hl with | [_, _, _], _ => rfl),
    d_is_noughts := df_of X G a8 l8 c8 k8 (fun _ _ _ _ _ _ us hl => match us, hl with | [_], _ => rfl),
    d_first_place := df_of X G a9 l9 c9 k9 (fun _ _ _ _ _ _ us hl => match us, hl with | [_], _ => rfl),
    d_cleared := df_of X G a10 l10 c10 k10 (fun _ _ _ _ _ _ us hl => match us, hl with | [_, _, _], _ => rfl),
    d_left_of := df_of X G a11 l11 c11 k11 (fun _ _ _ _ _ _ us hl => match us, hl with | [_, _, _], _ => rfl),
    d_widened := df_of X G a12 l12 c12 k12 (fun _ _ _ _ _ _ us hl => match us, hl with | [_, _, _], _ => rfl),
    d_room_of := df_of X G a13 l13 c13 k13 (fun _ _ _ _ _ _ us hl => match us, hl with | [_, _, _], _ => rfl),
    d_within := df_of X G a14 l14 c14 k14 (fun _ _ _ _ _ _ us hl => match us, hl with | [_, _, _], _ => rfl),
    d_first_outside := df_of X G a15 l15 c15 k15 (fun _ _ _ _ _ _ us hl => match us, hl with | [_, _, _], _ => rfl),
    d_inside := df_of X G a16 l16 c16 k16 (fun _ _ _ _ _ _ us hl => match us, hl with | [_, _, _], _ => rfl),
    d_joined := df_of X G a17 l17 c17 k17 (fun _ _ _ _ _ _ us hl => match us, hl with | [_, _, _, _], _ => rfl),
    d_shared := df_of X G a18 l18 c18 k18 (fun _ _ _ _ _ _ us hl => match us, hl with | [_, _, _, _], _ => rfl),
    d_across := df_of X G a19 l19 c19 k19 (fun _ _ _ _ _ _ us hl => match us, hl with | [_, _, _], _ => rfl),
    d_across_at := df_of X G a20 l20 c20 k20 (fun _ _ _ _ _ _ us hl => match us, hl with | [_, _, _, _], _ => rfl),
    d_names_of := df_of X G a21 l21 c21 k21 (fun _ _ _ _ _ _ us hl => match us, hl with | [_], _ => rfl),
    d_room_in := df_of X G a22 l22 c22 k22 (fun _ _ _ _ _ _ us hl => match us, hl with | [_, _], _ => rfl),
    d_aside := df_of X G a23 l23 c23 k23 (fun _ _ _ _ _ _ us hl => match us, hl with | [_, _, _, _, _], _ => rfl),
    d_rooms_of_three := df_of X G a24 l24 c24 k24 (fun _ _ _ _ _ _ us hl => match us, hl with | [_, _, _, _], _ => rfl),
    d_way_of := df_of X G a25 l25 c25 k25 (fun _ _ _ _ _ _ us hl => match us, hl with | [_, _, _, _], _ => rfl),
    d_is_aside := df_of X G a26 l26 c26 k26 (fun _ _ _ _ _ _ us hl => match us, hl with | [_, _, _, _], _ => rfl),
    d_is_barred := df_of X G a27 l27 c27 k27 (fun _ _ _ _ _ _ us hl => match us, hl with | [_, _, _, _], _ => rfl),
    d_call_aside := df_of X G a28 l28 c28 k28 (fun _ _ _ _ _ _ us hl => match us, hl with | [_, _, _, _], _ => rfl),
    d__law_deck := df_of X G a29 l29 c29 k29 (fun _ _ _ _ _ _ us hl => match us, hl with | [_], _ => rfl),
    d__law_draw := df_of X G a30 l30 c30 k30 (fun _ _ _ _ _ _ us hl => match us, hl with | [_, _], _ => rfl),
    d__law_names := df_of X G a31 l31 c31 k31 (fun _ _ _ _ _ _ us hl => match us, hl with | [_, _], _ => rfl),
    d__law_row := df_of X G a32 l32 c32 k32 (fun _ _ _ _ _ _ us hl => match us, hl with | [_, _, _], _ => rfl),
    d__law_left := df_of X G a33 l33 c33 k33 (fun _ _ _ _ _ _ us hl => match us, hl with | [_, _, _], _ => rfl),
    d__law_plain := df_of X G a34 l34 c34 k34 (fun _ _ _ _ _ _ us hl => match us, hl with | [_, _], _ => rfl),
    d__law_within := df_of X G a35 l35 c35 k35 (fun _ _ _ _ _ _ us hl => match us, hl with | [_, _, _], _ => rfl),
    d__law_made_of := df_of X G a36 l36 c36 k36 (fun _ _ _ _ _ _ us hl => match us, hl with | [_, _, _, _], _ => rfl),
    d__law_rows := df_of X G a37 l37 c37 k37 (fun _ _ _ _ _ _ us hl => match us, hl with | [_, _, _, _], _ => rfl),
    d__law_stand := df_of X G a38 l38 c38 k38 (fun _ _ _ _ _ _ us hl => match us, hl with | [_, _, _], _ => rfl),
    d__law_room := df_of X G a39 l39 c39 k39 (fun _ _ _ _ _ _ us hl => match us, hl with | [_, _], _ => rfl),
    d__law_known := df_of X G a40 l40 c40 k40 (fun _ _ _ _ _ _ us hl => match us, hl with | [_, _, _], _ => rfl),
    d__law_is_row := df_of X G a41 l41 c41 k41 (fun _ _ _ _ _ _ us hl => match us, hl with | [_, _, _], _ => rfl),
    d__law_bent := df_of X G a42 l42 c42 k42 (fun _ _ _ _ _ _ us hl => match us, hl with | [_, _, _], _ => rfl),
    d__law_due := df_of X G a43 l43 c43 k43 (fun _ _ _ _ _ _ us hl => match us, hl with | [_, _], _ => rfl),
    d__law_told := df_of X G a44 l44 c44 k44 (fun _ _ _ _ _ _ us hl => match us, hl with | [_, _], _ => rfl) }
  have F := fun_mk (st := s_law) l45 c45 k45
  exact ⟨PySem.W.fnOf "law" "law" (defArgs s_law) (defBody s_law) (defScope s_law) .none kV45 dc45 pm45 an45 cd45 ct45, fun s v => .of_eq rfl, fun base _ _ hs => ok_law T hs F⟩
end OC
open PySem PySem.W PyProof.Rows
set_option Elab.async false
set_option maxRecDepth 100000 in
set_option maxHeartbeats 0 in
theorem PySem.Challenge.cw_opencalls_k66_asides_refused_holds : PySem.Challenge.rw_opencalls_k66_asides_refused.Holds := by
  w_on; o_law
  refine HandSHeadRun.head_any (r := OpenLaw.row PySem.Challenge.rw_opencalls_k66_asides_refused) (q := view (OpenLaw.row PySem.Challenge.rw_opencalls_k66_asides_refused).prog [62]) (H := kHook OCR.K0 OCR.as0 OCR.as_ok) (ob := OCR.ob) (M := 20000) (loose := OCR.names) (d := HandSHeadRun.topDef (OpenLaw.row PySem.Challenge.rw_opencalls_k66_asides_refused).prog 62) (kwd := []) OCR.ob_eq
    (by kernel_rfl) (fun s => by kernel_rfl) OCR.run (by kernel_rfl) (by kernel_rfl) (by kernel_rfl) (by rfl) (by first | assumption | decide +kernel) (by decide +kernel) ⟨rfl, rfl, rfl, rfl, rfl, by decide +kernel⟩ ?hw ?hc
  case hw => w_witness2
  case hc =>
    k_fill
    refine OC.walk_ofS (l := PySem.Challenge.rw_opencalls_k66_asides_refused) (n := 63) (k := 16) (x := "_law_script") (CX := fun _ => L2.CX0) (sp := fun w => OC.sp_law _) rfl (by decide) (by kernel_rfl) ⟨rfl, by decide, by decide⟩ (by decide +kernel) (K := OCR.K0) (fun w h Y => PySem.W.kIn_of Y) ?F (fun _ _ a ns hl _ hS => ⟨a, ns, rfl, hS, hl, fun _ => rfl⟩) (fun _ _ _ _ _ h => h)
    case F =>
      intro w mg fa h KX G hmg0
      have hmg : mg ("law" : PySem.Str) = some (.ref fa) := by
        have e : (HandSHeadRun.topDef (OpenLaw.row PySem.Challenge.rw_opencalls_k66_asides_refused).prog 62).name = ("law" : PySem.Str) := by kernel_rfl
        rw [← e]
        exact hmg0
      refine' OC.all_mk KX G hmg ?a0 ?l0 ?c0 ?k0 ?a1 ?l1 ?c1 ?k1 ?a2 ?l2 ?c2 ?k2 ?a3 ?l3 ?c3 ?k3 ?a4 ?l4 ?c4 ?k4 ?a5 ?l5 ?c5 ?k5 ?a6 ?l6 ?c6 ?k6 ?a7 ?l7 ?c7 ?k7 ?a8 ?l8 ?c8 ?k8 ?a9 ?l9 ?c9 ?k9 ?a10 ?l10 ?c10 ?k10 ?a11 ?l11 ?c11 ?k11 ?a12 ?l12 ?c12 ?k12 ?a13 ?l13 ?c13 ?k13 ?a14 ?l14 ?c14 ?k14 ?a15 ?l15 ?c15 ?k15 ?a16 ?l16 ?c16 ?k16 ?a17 ?l17 ?c17 ?k17 ?a18 ?l18 ?c18 ?k18 ?a19 ?l19 ?c19 ?k19 ?a20 ?l20 ?c20 ?k20 ?a21 ?l21 ?c21 ?k21 ?a22 ?l22 ?c22 ?k22 ?a23 ?l23 ?c23 ?k23 ?a24 ?l24 ?c24 ?k24 ?a25 ?l25 ?c25 ?k25 ?a26 ?l26 ?c26 ?k26 ?a27 ?l27 ?c27 ?k27 ?a28 ?l28 ?c28 ?k28 ?a29 ?l29 ?c29 ?k29 ?a30 ?l30 ?c30 ?k30 ?a31 ?l31 ?c31 ?k31 ?a32 ?l32 ?c32 ?k32 ?a33 ?l33 ?c33 ?k33 ?a34 ?l34 ?c34 ?k34 ?a35 ?l35 ?c35 ?k35 ?a36 ?l36 ?c36 ?k36 ?a37 ?l37 ?c37 ?k37 ?a38 ?l38 ?c38 ?k38 ?a39 ?l39 ?c39 ?k39 ?a40 ?l40 ?c40 ?k40 ?a41 ?l41 ?c41 ?k41 ?a42 ?l42 ?c42 ?k42 ?a43 ?l43 ?c43 ?k43 ?a44 ?l44 ?c44 ?k44 ?a45 ?l45 ?c45 ?k45 ?z_abs ?z_all ?z_bool ?z_dict ?z_enumerate ?z_int ?z_isinstance ?z_len ?z_list ?z_max ?z_range ?z_repr ?z_sorted ?z_str ?z_tuple ?z_zip ?z_LookupError ?z_ValueError ?en_get ?en_set ?ea0 ?ek0 ?eb0 ?et0 ?ed0 ?eg0 ?eh0 ?ec0 ?em0 ?ex0 ?ea1 ?ek1 ?eb1 ?et1 ?ed1 ?eg1 ?eh1 ?ec1 ?em1 ?ex1 ?ea2 ?ek2 ?eb2 ?et2 ?ed2 ?eg2 ?eh2 ?ec2 ?em2 ?ea3 ?ek3 ?eb3 ?et3 ?ed3 ?eg3 ?eh3 ?ec3 ?em3 ?ea4 ?ek4 ?eb4 ?et4 ?ed4 ?eg4 ?eh4 ?ec4 ?em4 ?fi3 ?ft3 ?fl3 ?fc3 ?fm3 ?fo3 ?fs3 ?ff3 ?fi4 ?ft4 ?fl4 ?fc4 ?fm4 ?fo4 ?fs4 ?ff4 ?s0_0 ?s1_0 ?s1_1 ?s1_2 ?s1_3 ?s1_4 ?s1_LookupError ?s1_ValueError ?s2_2 ?s3_0 ?s3_1 ?s3_2 ?s3_3 ?s3_4 ?s3_LookupError ?s3_ValueError ?s4_0 ?s4_1 ?s4_2 ?s4_3 ?s4_4 ?s4_LookupError ?s4_ValueError
      (case a0 => k_is); (case l0 => k_is); (case c0 => k_is); (case k0 => k_is); (case a1 => k_is); (case l1 => k_is); (case c1 => k_is); (case k1 => k_is); (case a2 => k_is); (case l2 => k_is); (case c2 => k_is); (case k2 => k_is); (case a3 => k_is); (case l3 => k_is); (case c3 => k_is); (case k3 => k_is); (case a4 => k_is); (case l4 => k_is); (case c4 => k_is); (case k4 => k_is); (case a5 => k_is); (case l5 => k_is); (case c5 => k_is); (case k5 => k_is); (case a6 => k_is); (case l6 => k_is); (case c6 => k_is); (case k6 => k_is); (case a7 => k_is); (case l7 => k_is); (case c7 => k_is); (case k7 => k_is); (case a8 => k_is); (case l8 => k_is); (case c8 => k_is); (case k8 => k_is); (case a9 => k_is); (case l9 => k_is); (case c9 => k_is); (case k9 => k_is); (case a10 => k_is); (case l10 => k_is); (case c10 => k_is); (case k10 => k_is); (case a11 => k_is); (case l11 => k_is); (case c11 => k_is); (case k11 => k_is); (case a12 => k_is); (case l12 => k_is); (case c12 => k_is); (case k12 => k_is); (case a13 => k_is); (case l13 => k_is); (case c13 => k_is); (case k13 => k_is); (case a14 => k_is); (case l14 => k_is); (case c14 => k_is); (case k14 => k_is); (case a15 => k_is); (case l15 => k_is); (case c15 => k_is); (case k15 => k_is); (case a16 => k_is); (case l16 => k_is); (case c16 => k_is); (case k16 => k_is); (case a17 => k_is); (case l17 => k_is); (case c17 => k_is); (case k17 => k_is); (case a18 => k_is); (case l18 => k_is); (case c18 => k_is); (case k18 => k_is); (case a19 => k_is); (case l19 => k_is); (case c19 => k_is); (case k19 => k_is); (case a20 => k_is); (case l20 => k_is); (case c20 => k_is); (case k20 => k_is); (case a21 => k_is); (case l21 => k_is); (case c21 => k_is); (case k21 => k_is); (case a22 => k_is); (case l22 => k_is); (case c22 => k_is); (case k22 => k_is); (case a23 => k_is); (case l23 => k_is); (case c23 => k_is); (case k23 => k_is); (case a24 => k_is); (case l24 => k_is); (case c24 => k_is); (case k24 => k_is); (case a25 => k_is); (case l25 => k_is); (case c25 => k_is); (case k25 => k_is); (case a26 => k_is); (case l26 => k_is); (case c26 => k_is); (case k26 => k_is); (case a27 => k_is); (case l27 => k_is); (case c27 => k_is); (case k27 => k_is); (case a28 => k_is); (case l28 => k_is); (case c28 => k_is); (case k28 => k_is); (case a29 => k_is); (case l29 => k_is); (case c29 => k_is); (case k29 => k_is); (case a30 => k_is); (case l30 => k_is); (case c30 => k_is); (case k30 => k_is); (case a31 => k_is); (case l31 => k_is); (case c31 => k_is); (case k31 => k_is); (case a32 => k_is); (case l32 => k_is); (case c32 => k_is); (case k32 => k_is); (case a33 => k_is); (case l33 => k_is); (case c33 => k_is); (case k33 => k_is); (case a34 => k_is); (case l34 => k_is); (case c34 => k_is); (case k34 => k_is); (case a35 => k_is); (case l35 => k_is); (case c35 => k_is); (case k35 => k_is); (case a36 => k_is); (case l36 => k_is); (case c36 => k_is); (case k36 => k_is); (case a37 => k_is); (case l37 => k_is); (case c37 => k_is); (case k37 => k_is); (case a38 => k_is); (case l38 => k_is); (case c38 => k_is); (case k38 => k_is); (case a39 => k_is); (case l39 => k_is); (case c39 => k_is); (case k39 => k_is); (case a40 => k_is); (case l40 => k_is); (case c40 => k_is); (case k40 => k_is); (case a41 => k_is); (case l41 => k_is); (case c41 => k_is); (case k41 => k_is); (case a42 => k_is); (case l42 => k_is); (case c42 => k_is); (case k42 => k_is); (case a43 => k_is); (case l43 => k_is); (case c43 => k_is); (case k43 => k_is); (case a44 => k_is); (case l44 => k_is); (case c44 => k_is); (case k44 => k_is); (case a45 => k_is); (case l45 => k_is); (case c45 => k_is); (case k45 => k_is); (case z_abs => k_is); (case z_all => k_is); (case z_bool => k_is); (case z_dict => k_is); (case z_enumerate => k_is); (case z_int => k_is); (case z_isinstance => k_is); (case z_len => k_is); (case z_list => k_is); (case z_max => k_is); (case z_range => k_is); (case z_repr => k_is); (case z_sorted => k_is); (case z_str => k_is); (case z_tuple => k_is); (case z_zip => k_is); (case z_LookupError => k_is); (case z_ValueError => k_is); (case en_get => k_is); (case en_set => k_is); (case ea0 => k_is); (case ek0 => k_is); (case eb0 => k_is); (case et0 => k_is); (case ed0 => k_is); (case eg0 => k_is); (case eh0 => k_is); (case ec0 => k_is); (case em0 => k_is); (case ex0 => k_exc); (case ea1 => k_is); (case ek1 => k_is); (case eb1 => k_is); (case et1 => k_is); (case ed1 => k_is); (case eg1 => k_is); (case eh1 => k_is); (case ec1 => k_is); (case em1 => k_is); (case ex1 => k_exc); (case ea2 => k_is); (case ek2 => k_is); (case eb2 => k_is); (case et2 => k_is); (case ed2 => k_is); (case eg2 => k_is); (case eh2 => k_is); (case ec2 => k_is); (case em2 => k_is); (case ea3 => k_is); (case ek3 => k_is); (case eb3 => k_is); (case et3 => k_is); (case ed3 => k_is); (case eg3 => k_is); (case eh3 => k_is); (case ec3 => k_is); (case em3 => k_is); (case ea4 => k_is); (case ek4 => k_is); (case eb4 => k_is); (case et4 => k_is); (case ed4 => k_is); (case eg4 => k_is); (case eh4 => k_is); (case ec4 => k_is); (case em4 => k_is); (case fi3 => k_is); (case ft3 => k_is); (case fl3 => k_is); (case fc3 => k_is); (case fm3 => first | k_exc | k_is | decide +kernel | kernel_rfl); (case fo3 => first | k_exc | k_is | decide +kernel | kernel_rfl); (case fs3 => k_is); (case ff3 => k_is); (case fi4 => k_is); (case ft4 => k_is); (case fl4 => k_is); (case fc4 => k_is); (case fm4 => first | k_exc | k_is | decide +kernel | kernel_rfl); (case fo4 => first | k_exc | k_is | decide +kernel | kernel_rfl); (case fs4 => k_is); (case ff4 => k_is); (case s0_0 => k_is); (case s1_0 => k_is); (case s1_1 => k_is); (case s1_2 => k_is); (case s1_3 => k_is); (case s1_4 => k_is); (case s1_LookupError => k_is); (case s1_ValueError => k_is); (case s2_2 => k_is); (case s3_0 => k_is); (case s3_1 => k_is); (case s3_2 => k_is); (case s3_3 => k_is); (case s3_4 => k_is); (case s3_LookupError => k_is); (case s3_ValueError => k_is); (case s4_0 => k_is); (case s4_1 => k_is); (case s4_2 => k_is); (case s4_3 => k_is); (case s4_4 => k_is); (case s4_LookupError => k_is); (case s4_ValueError => k_is)
